/-
  The laws' size of a list of entries: with the sum, and what it says of the texts; by a walk of its Go text.
-/
import Derived.Test.YtlmgojlffgkciaaGreatTc06
import Derived.Test.YtlmgojlffgkciaaGreatTc17
import Derived.Test.YtlmgojlffgkciaaGreatTc21
import Derived.Test.YtlmgojlffgkciaaGreatTc23
import Derived.Test.YtlmgojlffgkciaaGreatTc24
import Derived.Test.YtlmgojlffgkciaaGreatTc25
import Derived.RangeFuncNested
import Derived.RangeFuncBound
import Derived.RangeFuncCalls
import Derived.RangeFuncLeaves
import Derived.RangeFuncBox
import Derived.Shelf.Abstract
import Derived.Shelf.RegionOpen
import Derived.WalkKit
import Derived.OwnWalkIn
import Derived.TacticsInMore
import Derived.LoopNIn
import Derived.LoopIn
import Derived.Test.YtlmgojlffgkciaaGreatTc00
namespace Go.Proofs.YtlmgojlffgkciaaGreat
open Go.RowKit
def Ax (e:ac):Prop:=e.1.size≤281474976710656∧e.2.2.2.1.size≤281474976710656
set_option maxHeartbeats 400000 in
theorem nQ (a:Option Addr) (len cap:Nat) (L:List ac) (left:Int) (w:World) (hL:af w a len cap L) (h0:0≤left) (h1:left≤1048576) :
 Calls Tryz.prog 22 #[.slice a len cap,iT left] w fun e w'=>∃r:Int,e=.returned (iT r)∧(r=-1∨(0≤r∧r+L.length≤left∧∀e ∈ L,Ax e))∧Bl w w':=by
 have hbl:=hL.room;have hbc:=hL.big;unfold maxLen at hbc;have HL:=bc hL;have HLN:Hid (L.length=len):=hL.length;clear hL;by_cases hb:left<len
 · go_enter Tryz.func22,Tryz.ntmps22
   go_wp2;go_ret;exact ⟨-1,rfl,Or.inl rfl,Below.refl _ _⟩
 · go_enter Tryz.func22,Tryz.ntmps22
   go_wp2;go_loopw [1,5] (fun l i wr=>∃(k:Nat) (r:Int),k≤len∧i=iT k∧l=iT r∧0≤r∧r+len≤left∧(∀(j:Nat) (e:ac),j<k→L[j]?=some e→Ax e)∧Bl w wr) (fun _ i _=>len - (intOf i).toNat)
   case atStart=>exact ⟨0,left - len,Nat.zero_le _,rfl,rfl,by omega,by omega,fun j e hj=>absurd hj (Nat.not_lt_zero j),Below.refl _ _⟩
   case round =>
    obtain ⟨k,r,hk,rfl,rfl,hr0,hr1,htx,hbw⟩:=hrel;have HT:Hid (∀(j:Nat) (e:ac),j<k→L[j]?=some e→Ax e):=htx;clear htx;by_cases hlt:k<len
    · obtain ⟨b,off,rfl,hbb⟩:=HL.out.form (by omega);obtain ⟨s,q,d,t,n,hg,hlw,g0,g1,g2,g3,g4⟩:=HL.out.ent hbw hbb k hlt;have hs:=hlw.1;have ht:=hlw.2.2.2.1;simp only at hs ht;have HG:Hid (L[k]?=some (s,q,d,t,n)):=hg;clear hg hlw;by_cases hsz:r<s.size+t.size
      · go_wp2_with (go_at_call 55;refine (r9 _ _ _ _ _ _ _ hs ht hr0 (by omega) hsz).mono ?_;rintro e w1 ⟨rfl,hb1⟩)
        go_ret;exact ⟨-1,rfl,Or.inl rfl,hbw.trans (hb1.mono hbw.size)⟩
      · go_wp2_with (go_at_call 55;refine (pN _ _ _ _ _ _ _ (by omega) (by omega)).mono ?_;rintro e w1 ⟨rfl,hb1⟩)
        go_roundw
        case rel =>
         refine ⟨k+1,r - s.size - t.size,by omega,by go_num,rfl,by omega,by omega,fun j e hj he=>?_,hbw.trans (hb1.mono hbw.size)⟩;by_cases hjk:j=k
         · have:=HG.out;rw [hjk,this] at he;cases he;exact ⟨by show s.size≤_;omega,by show t.size≤_;omega⟩
         · exact HT.out j e (by omega) he
        case measure=>simp [intOf];omega
    · go_wp2;go_ret;refine ⟨r,rfl,Or.inr ⟨hr0,by rw [HLN.out];exact hr1,fun e he=>?_⟩,hbw⟩;obtain ⟨j,hj,rfl⟩:=List.getElem_of_mem he;exact HT.out j _ (by have:=HLN.out;omega) (List.getElem?_eq_getElem hj)
end Go.Proofs.YtlmgojlffgkciaaGreat

namespace Go.Proofs.YtlmgojlffgkciaaGreat
open Go.RowKit
def uo (B:List ae):Nat:=(B.map fun p=>p.1.length).sum
def r6 (V:List (List ae)):Nat:=(V.map fun B=>uo B+B.length).sum
def Bj (B:List ae):Prop:=∀p ∈ B,∀e ∈ p.1,Ax e
theorem yS {B:List ae} {k:Nat} {p:ae} (h:B[k]?=some p):uo (B.take (k+1))=uo (B.take k)+p.1.length:=by
 rw [List.take_add_one,h];simp [uo]
theorem yR {V:List (List ae)} {k:Nat} {B:List ae} (h:V[k]?=some B):r6 (V.take (k+1))=r6 (V.take k)+(uo B+B.length):=by
 rw [List.take_add_one,h];simp [r6]
theorem kE {α:Type} {L:List α} {k:Nat} {x y:α} (h:L[k]?=some x) (hy:y ∈ L.take (k+1)):y ∈ L.take k∨y=x:=by
 rw [List.take_add_one,h] at hy;simpa using hy
theorem Bv (B:List ae):eu B=5*uo B+B.length:=by
 induction B with
 | nil=>rfl
 | cons p B ih =>
  simp only [eu,uo,List.map_cons,List.sum_cons,List.length_cons] at ih ⊢;omega
theorem Bu (V:List (List ae)):eP V≤5*r6 V:=by
 induction V with
 | nil=>simp [eP,r6]
 | cons B V ih =>
  have h:=Bv B;simp only [eP,r6,List.map_cons,List.sum_cons] at ih ⊢;omega
theorem AF {B:List ae} {p:ae} (h:p ∈ B):p.1.length≤uo B:=by
 induction B with
 | nil=>cases h
 | cons x B ih =>
  simp only [uo,List.map_cons,List.sum_cons] at ih ⊢;rcases List.mem_cons.1 h with rfl | h
  · omega
  · have:=ih h;omega
theorem vM {V:List (List ae)} {B:List ae} (h:B ∈ V):uo B+B.length≤r6 V:=by
 induction V with
 | nil=>cases h
 | cons x V ih =>
  simp only [r6,List.map_cons,List.sum_cons] at ih ⊢;rcases List.mem_cons.1 h with rfl | h
  · omega
  · have:=ih h;omega
set_option maxHeartbeats 400000 in
theorem xi (m:Int) (a:Option Addr) (len cap:Nat) (L:List ac) (left:Int) (w:World) (hL:af w a len cap L) (h0:0≤left) (h1:left≤1048576) :
 Calls Tryz.prog 113 #[.agg #[.slice a len cap,iT m],iT left] w fun e w'=>∃r:Int,e=.returned (iT r)∧(r=-1∨(0≤r∧r+L.length≤left∧∀e ∈ L,Ax e))∧Bl w w':=by
 have hL1:af (w.alloc (.cells #[.slice a len cap,iT m] 144)) a len cap L:=hL.keep bZ;go_enter Tryz.func113,Tryz.ntmps113
 go_wp2_with (go_at_call 22;refine (nQ _ _ _ _ _ _ hL1 h0 h1).mono ?_;rintro e w1 ⟨r,rfl,hr,hb1⟩)
 · go_ret;exact ⟨-1,rfl,Or.inl rfl,bZ.trans (hb1.mono (by simp))⟩
 · go_ret;exact ⟨r,rfl,hr,bZ.trans (hb1.mono (by simp))⟩
set_option maxHeartbeats 800000 in
theorem um (lo:Nat) (a:Option Addr) (len cap:Nat) (B:List ae) (left:Int) (w:World) (hP:aj lo w a len cap B) (h0:0≤left) (h1:left≤1048576) :
 Calls Tryz.prog 71 #[.slice a len cap,iT left] w fun e w'=>∃r:Int,e=.returned (iT r)∧(r=-1∨(0≤r∧r+(uo B+B.length:Nat)≤left∧Bj B))∧Bl w w':=by
 have hbl:=hP.room;have hbc:=hP.big;unfold maxLen at hbc;have HL:=bc hP;have HLEN:Hid (B.length=len):=hP.length;clear hP;by_cases hb:left<len
 · go_enter Tryz.func71,Tryz.ntmps71
   go_wp2;go_ret;exact ⟨-1,rfl,Or.inl rfl,Below.refl _ _⟩
 · go_enter Tryz.func71,Tryz.ntmps71
   go_wp2;go_loopw [1,5] (fun l i wr=>∃(k:Nat) (r:Int),k≤len∧i=iT k∧l=iT r∧0≤r∧r≤left∧r+uo (B.take k)+len≤left∧Bl w wr∧∀p ∈ B.take k,∀e ∈ p.1,Ax e) (fun _ i _=>len - (intOf i).toNat)
   case atStart=>exact ⟨0,left - len,Nat.zero_le _,rfl,rfl,by omega,by omega,by simp [uo],Below.refl _ _,fun p hp=>by simp at hp⟩
   case round =>
    obtain ⟨k,r,hk,rfl,rfl,hr0,hr1,hrs,hbw,hall⟩:=hrel;have HALL:Hid (∀p ∈ B.take k,∀e ∈ p.1,Ax e):=hall;have HRS:Hid (r+uo (B.take k)+len≤left):=hrs;clear hall hrs;by_cases hlt:k<len
    · obtain ⟨b,off,rfl,hbb⟩:=HL.out.form (by omega);obtain ⟨L,m,s,n,c,hg,_,g0,g1,hLk⟩:=HL.out.run hbw k hlt;have HG:Hid (B[k]?=some (L,m)):=hg;have hbk:b<wr.heap.size:=Nat.lt_of_lt_of_le hbb hbw.size;clear hg;go_wp2_with (go_at_call 113;refine (xi _ _ _ _ L _ _ hLk.1 hr0 (by omega)).mono ?_;rintro e w1 ⟨r',rfl,hr',hb1⟩;rcases hr' with rfl | ⟨hr0',hr1',hln⟩)
      · go_ret;exact ⟨-1,rfl,Or.inl rfl,hbw.trans (hb1.mono hbw.size)⟩
      · have HR1:Hid (r'+L.length≤r):=hr1';have hrl:r'≤left:=by omega
        have HLN:Hid (∀e ∈ L,Ax e):=hln;clear hr1' hln;go_wp2;go_roundw
        case rel =>
         refine ⟨k+1,r',by omega,by go_num,rfl,hr0',hrl,?_,hbw.trans (hb1.mono hbw.size),fun p hp=>?_⟩
         · have h1:=HR1.out;have h2:=HRS.out;have h3:=yS HG.out;simp only at h3;omega
         · rcases kE HG.out hp with h1 | rfl
           · exact HALL.out p h1
           · exact HLN.out
        case measure=>simp [intOf];omega
    · go_wp2;go_ret;have hkl:B.take k=B:=List.take_of_length_le (by have:=HLEN.out;omega);have h2:=HRS.out;have h3:=HALL.out;have h4:=HLEN.out;rw [hkl] at h2 h3;exact ⟨r,rfl,Or.inr ⟨hr0,by omega,h3⟩,hbw⟩
set_option maxHeartbeats 800000 in
theorem r8 (lo:Nat) (a:Option Addr) (len cap:Nat) (V:List (List ae)) (left:Int) (w:World) (hP:aX lo w a len cap V) (h0:0≤left) (h1:left≤1048576) :
 Calls Tryz.prog 35 #[.slice a len cap,iT left] w fun e w'=>∃r:Int,e=.returned (iT r)∧(r=-1∨(0≤r∧r+(r6 V+V.length:Nat)≤left∧∀B ∈ V,Bj B))∧Bl w w':=by
 have hbl:=hP.room;have hbc:=hP.big;unfold maxLen at hbc;have HL:=bc hP;have HLEN:Hid (V.length=len):=hP.length;clear hP;by_cases hb:left<len
 · go_enter Tryz.func35,Tryz.ntmps35
   go_wp2;go_ret;exact ⟨-1,rfl,Or.inl rfl,Below.refl _ _⟩
 · go_enter Tryz.func35,Tryz.ntmps35
   go_wp2;go_loopw [1,5] (fun l i wr=>∃(k:Nat) (r:Int),k≤len∧i=iT k∧l=iT r∧0≤r∧r≤left∧r+r6 (V.take k)+len≤left∧Bl w wr∧∀p ∈ V.take k,Bj p) (fun _ i _=>len - (intOf i).toNat)
   case atStart=>exact ⟨0,left - len,Nat.zero_le _,rfl,rfl,by omega,by omega,by simp [r6],Below.refl _ _,fun p hp=>by simp at hp⟩
   case round =>
    obtain ⟨k,r,hk,rfl,rfl,hr0,hr1,hrs,hbw,hall⟩:=hrel;have HALL:Hid (∀p ∈ V.take k,Bj p):=hall;have HRS:Hid (r+r6 (V.take k)+len≤left):=hrs;clear hall hrs;by_cases hlt:k<len
    · obtain ⟨b,off,rfl,hbb⟩:=HL.out.form (by omega);obtain ⟨B,s,n,c,hg,g0,hLk⟩:=HL.out.level hbw k hlt;have HG:Hid (V[k]?=some B):=hg;have hbk:b<wr.heap.size:=Nat.lt_of_lt_of_le hbb hbw.size;clear hg;go_wp2_with (go_at_call 71;refine (um lo _ _ _ B _ _ hLk hr0 (by omega)).mono ?_;rintro e w1 ⟨r',rfl,hr',hb1⟩;rcases hr' with rfl | ⟨hr0',hr1',hln⟩)
      · go_ret;exact ⟨-1,rfl,Or.inl rfl,hbw.trans (hb1.mono hbw.size)⟩
      · have HR1:Hid (r'+(uo B+B.length:Nat)≤r):=hr1';have hrl:r'≤left:=by omega
        have HLN:Hid (Bj B):=hln;clear hr1' hln;go_wp2;go_roundw
        case rel =>
         refine ⟨k+1,r',by omega,by go_num,rfl,hr0',hrl,?_,hbw.trans (hb1.mono hbw.size),fun p hp=>?_⟩
         · have h1:=HR1.out;have h2:=HRS.out;have h3:=yR HG.out;omega
         · rcases kE HG.out hp with h1 | rfl
           · exact HALL.out p h1
           · exact HLN.out
        case measure=>simp [intOf];omega
    · go_wp2;go_ret;have hkl:V.take k=V:=List.take_of_length_le (by have:=HLEN.out;omega);have h2:=HRS.out;have h3:=HALL.out;have h4:=HLEN.out;rw [hkl] at h2 h3;exact ⟨r,rfl,Or.inr ⟨hr0,by omega,h3⟩,hbw⟩
set_option maxHeartbeats 800000 in
theorem ul (q:Int) (lo:Nat) (am av ak:Option Addr) (nm cm nv cv ns cs:Nat) (M:List ac) (V:List (List ae)) (S:List Int) (left:Int) (w:World) (h:aM lo w am nm cm av nv cv ak ns cs M V S) (h0:0≤left) (h1:left≤1048576) :
 Calls Tryz.prog 10 #[.agg #[iT q,.slice am nm cm,.slice av nv cv,.slice ak ns cs],iT left] w fun e w'=>∃r:Int,e=.returned (iT r)∧(r=-1∨(0≤r∧r+(M.length+(r6 V+V.length)+S.length:Nat)≤left∧(∀e ∈ M,Ax e)∧∀B ∈ V,Bj B))∧Bl w w':=by
 obtain ⟨W,hW⟩:=ay (w.alloc (.cells #[iT q,.slice am nm cm,.slice av nv cv,.slice ak ns cs] 26));have hB:Bl w W:=by rw [hW];exact bZ
 have x2:W.cell? ⟨w.heap.size,2,none⟩=some (.slice av nv cv):=by rw [hW];simp
 have x3:W.cell? ⟨w.heap.size,3,none⟩=some (.slice ak ns cs):=by rw [hW];simp
 have H1:Hid (aM lo W am nm cm av nv cv ak ns cs M V S):=h.keep hB;have HB:Hid (Bl w W):=hB;clear h hB;go_enter Tryz.func10,Tryz.ntmps10
 go_wp2_with fail
 rw [← hW];clear hW;refine (nQ _ _ _ M _ _ H1.out.mem.1 h0 h1).mono ?_;rintro e w1 ⟨r1,rfl,hr1,hb1⟩;have x2:=cell_later hb1 x2;have x3:=cell_later hb1 x3;have z1:=World.block_lt_of_cell? _ _ x2;simp only at z1;have K1:Hid (Bl W w1):=hb1;clear hb1;rcases hr1 with rfl | ⟨a1,b1,c1⟩
 · go_wp2;go_ret;exact ⟨-1,rfl,Or.inl rfl,HB.out.trans (K1.out.mono HB.out.size)⟩
 have B1:Hid (r1+M.length≤left):=b1;have C1:Hid (∀e ∈ M,Ax e):=c1;have d1:r1≤left:=by omega
 clear b1 c1;go_wp2_with fail
 refine (r8 lo _ _ _ V _ _ (H1.out.keep K1.out).levels a1 (by omega)).mono ?_;rintro e w2 ⟨r2,rfl,hr2,hb2⟩;have x3:=cell_later hb2 x3;have z1:=World.block_lt_of_cell? _ _ x3;simp only at z1;have K2:Hid (Bl W w2):=K1.out.trans (hb2.mono K1.out.size);clear hb2 K1;rcases hr2 with rfl | ⟨a2,b2,c2⟩
 · go_wp2;go_ret;exact ⟨-1,rfl,Or.inl rfl,HB.out.trans (K2.out.mono HB.out.size)⟩
 have B2:Hid (r2+(r6 V+V.length:Nat)≤r1):=b2;have C2:Hid (∀B ∈ V,Bj B):=c2;have d2:r2≤r1:=by omega
 clear b2 c2;have hsr:=(H1.out.keep K2.out).snaps.room;have hsb:=(H1.out.keep K2.out).snaps.big;have HSL:Hid (S.length=ns):=H1.out.snaps.length;unfold maxLen at hsb;have CI:Hid (∀w',Calls Tryz.prog 36 #[.slice ak ns cs,iT r2] w' fun e w''=>∃r:Int,e=.returned (iT r)∧(r=-1∨(0≤r∧r+ns≤r2))∧Bl w' w''):=by
  intro w';by_cases hb:r2<ns
  · go_enter Tryz.func36,Tryz.ntmps36
    go_wp2;go_ret;exact ⟨-1,rfl,Or.inl rfl,Below.refl _ _⟩
  · go_enter Tryz.func36,Tryz.ntmps36
    go_wp2;go_ret;exact ⟨r2 - ns,rfl,Or.inr ⟨by omega,by omega⟩,Below.refl _ _⟩
 clear hsr hsb;go_wp2_with fail
 refine (CI.out _).mono ?_;rintro e w3 ⟨r3,rfl,hr3,hb3⟩;have K3:Hid (Bl W w3):=K2.out.trans (hb3.mono K2.out.size);clear hb3 K2;rcases hr3 with rfl | ⟨a3,b3⟩
 · go_wp2;go_ret;exact ⟨-1,rfl,Or.inl rfl,HB.out.trans (K3.out.mono HB.out.size)⟩
 · go_wp2;go_ret;have q1:=B1.out;have q2:=B2.out;have q3:=HSL.out;exact ⟨r3,rfl,Or.inr ⟨a3,by omega,C1.out,C2.out⟩,HB.out.trans (K3.out.mono HB.out.size)⟩
theorem qS {M:List ac} {V:List (List ae)} {S:List Int} (h:M.length+(r6 V+V.length)+S.length≤1048576):rO M V S :=
 ⟨by omega,⟨by omega,fun B hB=>⟨by have:=vM hB;omega,fun p hp=>by have h1:=AF hp;have h2:=vM hB;omega⟩⟩,by omega⟩
end Go.Proofs.YtlmgojlffgkciaaGreat

namespace Go.Proofs.YtlmgojlffgkciaaGreat
open Go.RowKit
set_option maxRecDepth 100000
set_option maxHeartbeats 2000000
theorem aM.lowR {lo lo':Nat} {w:World} {am av ak:Option Addr} {nm cm nv cv ns cs:Nat} {M:List ac} {V:List (List ae)} {S:List Int} (h:aM lo w am nm cm av nv cv ak ns cs M V S) (hl:lo'≤lo):aM lo' w am nm cm av nv cv ak ns cs M V S:=⟨h.mem.mono hl,h.levels.mono hl,h.snaps.lower hl⟩
theorem bu.of_mark {lo hi:Nat} {w w':World} (h:bh lo hi w w'):bu lo hi w w':=⟨h.os,h.tape,h.output,h.size,h.far⟩
theorem dQ.levelsIn {lo hi G n:Nat} {w:World} {V:List (List ae)} {gs bs:Nat→Nat} {es:Nat→Nat→Nat} (h:dQ lo hi w G n V gs bs es):aX lo w (pT G) n n V:=by
 obtain ⟨xs,r1,r2⟩:=h.row;have hrc:=b6 r1;have hl:=h.len;refine ⟨h.len,hrc.1,hrc.2,(fun e=>by cases e),?_,?_⟩
 · rintro x e _;cases e;exact ⟨(r1.lt G rfl).2,rfl,(r1.lt G rfl).1⟩
 · rintro x e i hi;cases e;have hp:=List.getElem?_eq_getElem hi;have u:=h.up 0 i (by omega) (by omega);refine ⟨_,_,_,?_,(h.levs i _ hp).runsIn.mono (by have:=h.bot.1;omega)⟩;simp only [Nat.zero_add];exact (r1.cellAt _ (by omega)).trans (r2 i _ hp)
theorem dP.treeIn {lo hi b1 nm b2 nv b3 ns:Nat} {w:World} {M:List ac} {V:List (List ae)} {S:List Int} {gs bs:Nat→Nat} {es:Nat→Nat→Nat} (h:dP lo hi w b1 nm b2 nv b3 ns M V S gs bs es) (hw:∀z ∈ S,(Lit.int .i64 z).wf=true):aM 0 w (pT b1) nm nm (pT b2) nv nv (pT b3) ns ns M V S:=by
 have hrc:=b6 h.sn.2;have hl:=h.sn.1;refine ⟨⟨h.mem.entsAt,fun x e _=>Nat.zero_le _⟩,h.levs.levelsIn.mono (Nat.zero_le _),⟨hl,hrc.1,hrc.2,hw,(fun e=>by cases e),?_,?_⟩⟩
 · rintro x e _;cases e;exact ⟨(h.sn.2.lt b3 rfl).2,rfl,Nat.zero_le _⟩
 · rintro x e i hi;cases e;simp only [Nat.zero_add];have h1:=h.sn.2.cellAt i (by omega);rw [List.getElem?_map,List.getElem?_eq_getElem hi] at h1;exact h1
def gH (lo hi:Nat) (w:World) (am:Option Addr) (nm:Nat) (av:Option Addr) (nv:Nat) (ak:Option Addr) (ns:Nat) (M:List ac) (V:List (List ae)) (S:List Int) (gs bs:Nat→Nat) (es:Nat→Nat→Nat):Prop :=
 (∃b1 b2 b3,am=some ⟨b1,0,none⟩∧av=some ⟨b2,0,none⟩∧ak=some ⟨b3,0,none⟩∧dP lo hi w b1 nm b2 nv b3 ns M V S gs bs es)∨(am=none∧av=none∧ak=none∧nm=0∧nv=0∧ns=0∧M=[]∧V=[]∧S=[])
theorem gH.below {lo hi nm nv ns:Nat} {am av ak:Option Addr} {w w':World} {M:List ac} {V:List (List ae)} {S:List Int} {gs bs:Nat→Nat} {es:Nat→Nat→Nat} (h:gH lo hi w am nm av nv ak ns M V S gs bs es) (hb:Bl w w'):gH lo hi w' am nm av nv ak ns M V S gs bs es:=by
 rcases h with ⟨b1,b2,b3,h1,h2,h3,h4⟩ | h
 · exact .inl ⟨b1,b2,b3,h1,h2,h3,h4.below hb⟩
 · exact .inr h
theorem gH.keepO {lo hi lo' hi' nm nv ns:Nat} {am av ak:Option Addr} {w w':World} {M:List ac} {V:List (List ae)} {S:List Int} {gs bs:Nat→Nat} {es:Nat→Nat→Nat} (h:gH lo hi w am nm av nv ak ns M V S gs bs es) (k:bu lo' hi' w w') (hd:hi'≤lo):gH lo hi w' am nm av nv ak ns M V S gs bs es:=by
 rcases h with ⟨b1,b2,b3,h1,h2,h3,h4⟩ | h
 · exact .inl ⟨b1,b2,b3,h1,h2,h3,h4.keepO k hd⟩
 · exact .inr h
theorem nH (lo:Nat) (w:World):aM lo w none 0 0 none 0 0 none 0 0 [] [] [] :=
 ⟨⟨⟨rfl,Nat.le_refl _,Nat.zero_le _,(fun e he=>by cases he),fun _=>rfl,(fun x e=>by cases e),(fun x e=>by cases e)⟩,fun x e=>by cases e⟩,⟨rfl,Nat.le_refl _,Nat.zero_le _,fun _=>rfl,(fun x e=>by cases e),(fun x e=>by cases e)⟩,⟨rfl,Nat.le_refl _,Nat.zero_le _,(fun z hz=>by cases hz),fun _=>rfl,(fun x e=>by cases e),(fun x e=>by cases e)⟩⟩
theorem gH.treeIn {lo hi nm nv ns:Nat} {am av ak:Option Addr} {w:World} {M:List ac} {V:List (List ae)} {S:List Int} {gs bs:Nat→Nat} {es:Nat→Nat→Nat} (h:gH lo hi w am nm av nv ak ns M V S gs bs es) (hw:∀z ∈ S,(Lit.int .i64 z).wf=true):aM 0 w am nm nm av nv nv ak ns ns M V S:=by
 rcases h with ⟨b1,b2,b3,rfl,rfl,rfl,h4⟩ | ⟨rfl,rfl,rfl,rfl,rfl,rfl,rfl,rfl,rfl⟩
 · exact h4.treeIn hw
 · exact nH 0 w
theorem gH.lens {lo hi nm nv ns:Nat} {am av ak:Option Addr} {w:World} {M:List ac} {V:List (List ae)} {S:List Int} {gs bs:Nat→Nat} {es:Nat→Nat→Nat} (h:gH lo hi w am nm av nv ak ns M V S gs bs es):M.length=nm∧V.length=nv∧S.length=ns:=by
 rcases h with ⟨b1,b2,b3,rfl,rfl,rfl,h4⟩ | ⟨rfl,rfl,rfl,rfl,rfl,rfl,rfl,rfl,rfl⟩
 · exact ⟨h4.mem.len,h4.levs.len,h4.sn.1⟩
 · exact ⟨rfl,rfl,rfl⟩
theorem q7 (k:Nat) (w:World) :
 Calls Tryz.prog 46 #[nZ,iT k] w fun e w'=>e=.returned (iT (k:Int))∧w'=w:=by
 go_enter Tryz.func46,Tryz.ntmps46
 go_wp2;go_loopw [1,5] (fun kv i wr=>kv=iT (k:Int)∧i=iT 0∧wr=w) (fun _ i _=>0)
 case atStart=>exact ⟨rfl,rfl,rfl⟩
 case round =>
  obtain ⟨rfl,rfl,rfl⟩:=hrel;go_wp2;go_ret;exact ⟨rfl,rfl⟩
theorem rl (k:Nat) (w:World) :
 Calls Tryz.prog 48 #[nZ,iT k] w fun e w'=>e=.returned (iT (k:Int))∧w'=w:=by
 go_enter Tryz.func48,Tryz.ntmps48
 go_wp2;go_loopw [1,5] (fun kv i wr=>kv=iT (k:Int)∧i=iT 0∧wr=w) (fun _ i _=>0)
 case atStart=>exact ⟨rfl,rfl,rfl⟩
 case round =>
  obtain ⟨rfl,rfl,rfl⟩:=hrel;go_wp2;go_ret;exact ⟨rfl,rfl⟩
theorem q8 (k:Nat) (w:World) :
 Calls Tryz.prog 47 #[nZ,iT k] w fun e w'=>e=.returned (iT (k:Int))∧w'=w:=by
 go_enter Tryz.func47,Tryz.ntmps47
 go_wp2;go_loopw [1,5] (fun kv i wr=>kv=iT (k:Int)∧i=iT 0∧wr=w) (fun _ i _=>0)
 case atStart=>exact ⟨rfl,rfl,rfl⟩
 case round =>
  obtain ⟨rfl,rfl,rfl⟩:=hrel;go_wp2;go_ret;exact ⟨rfl,rfl⟩
theorem rm (k:Nat) (w:World) :
 Calls Tryz.prog 49 #[nZ,iT k] w fun e w'=>e=.returned (iT (k:Int))∧w'=w:=by
 go_enter Tryz.func49,Tryz.ntmps49
 go_wp2;go_loopw [1,5] (fun kv i wr=>kv=iT (k:Int)∧i=iT 0∧wr=w) (fun _ i _=>0)
 case atStart=>exact ⟨rfl,rfl,rfl⟩
 case round =>
  obtain ⟨rfl,rfl,rfl⟩:=hrel;go_wp2;go_ret;exact ⟨rfl,rfl⟩
theorem q6 (q:Int) (k:Nat) (w:World) :
 Calls Tryz.prog 15 #[.agg #[iT q,nZ,nZ,nZ],iT k] w fun e w'=>e=.returned (iT (k:Int))∧Bl w w':=by
 obtain ⟨Y,hY⟩:=ay w.heap.size;obtain ⟨W,hW⟩:=ay (w.alloc (.cells #[iT q,nZ,nZ,nZ] 31));have kW:Bl w W:=by rw [hW];exact bZ
 have x2:W.cell? ⟨Y,2,none⟩=some nZ:=by rw [hW,hY];simp
 have x3:W.cell? ⟨Y,3,none⟩=some nZ:=by rw [hW,hY];simp
 have K0:Hid (Bl w W):=kW;have z1:=World.block_lt_of_cell? _ _ x2;simp only at z1;clear kW;go_enter Tryz.func15,Tryz.ntmps15
 go_wp2_with fail
 rw [← hW];try rw [← hY]
 clear hW hY;refine (xG k W).mono ?_;rintro e w1 ⟨rfl,rfl⟩;go_wp2_with fail
 refine (q7 k _).mono ?_;rintro e w1 ⟨rfl,rfl⟩;go_wp2_with fail
 refine (q8 k _).mono ?_;rintro e w1 ⟨rfl,rfl⟩;go_wp2;go_ret;exact ⟨rfl,K0.out⟩
theorem rk (q:Int) (k:Nat) (w:World) :
 Calls Tryz.prog 16 #[.agg #[iT q,nZ,nZ,nZ],iT k] w fun e w'=>e=.returned (iT (k:Int))∧Bl w w':=by
 obtain ⟨Y,hY⟩:=ay w.heap.size;obtain ⟨W,hW⟩:=ay (w.alloc (.cells #[iT q,nZ,nZ,nZ] 31));have kW:Bl w W:=by rw [hW];exact bZ
 have x2:W.cell? ⟨Y,2,none⟩=some nZ:=by rw [hW,hY];simp
 have x3:W.cell? ⟨Y,3,none⟩=some nZ:=by rw [hW,hY];simp
 have K0:Hid (Bl w W):=kW;have z1:=World.block_lt_of_cell? _ _ x2;simp only at z1;have hk:¬(k:Int)<0:=by omega
 clear kW;go_enter Tryz.func16,Tryz.ntmps16
 go_wp2_with fail
 rw [← hW];try rw [← hY]
 clear hW hY;refine (xY k W).mono ?_;rintro e w1 ⟨rfl,rfl⟩;go_wp2_with fail
 refine (rl k _).mono ?_;rintro e w1 ⟨rfl,rfl⟩;go_wp2_with fail
 refine (rm k _).mono ?_;rintro e w1 ⟨rfl,rfl⟩;go_wp2;go_ret;exact ⟨rfl,K0.out⟩
def rP (M:List ac) (V:List (List ae)) (S:List Int):Prop:=M.length≤1048576∧V.length≤1048576∧(∀B ∈ V,B.length≤1048576∧∀p ∈ B,p.1.length≤1048576)∧S.length≤1048576∧1+5*M.length+eP V+S.length≤1000000000
theorem Ac:rP [] [] []:=⟨by simp,by simp,(fun B hB=>by cases hB),by simp,by simp [eP]⟩
theorem AP (q:Int) (lo hi nm nv ns:Nat) (am av ak:Option Addr) (M:List ac) (V:List (List ae)) (S:List Int) (gs bs:Nat→Nat) (es:Nat→Nat→Nat) (w:World) (hT:gH lo hi w am nm av nv ak ns M V S gs bs es) (hhi:hi≤w.heap.size) (hf:rP M V S) :
 Calls Tryz.prog 15 #[.agg #[iT q,.slice am nm nm,.slice av nv nv,.slice ak ns ns],iT 1] w fun e w'=>e=.returned (iT ((1+5*nm+eP V+ns:Nat):Int))∧gH lo hi w' am nm av nv ak ns (dO 1 nm) (gS (1+5*nm) V) (jq (1+5*nm+eP V) ns) gs bs es∧bu lo hi w w':=by
 have hl:=hT.lens;rcases hT with ⟨b1,b2,b3,rfl,rfl,rfl,h4⟩ | ⟨rfl,rfl,rfl,rfl,rfl,rfl,rfl,rfl,rfl⟩
 · obtain ⟨f1,f2,f3,f4,f5⟩:=hf;refine (uQ q lo hi b1 nm b2 nv b3 ns 1 M V S gs bs es w h4 hhi (by omega) (by omega) f3 (by omega) (by omega) (by omega)).mono ?_;rintro e w' ⟨rfl,h1,h2⟩;exact ⟨rfl,.inl ⟨b1,b2,b3,rfl,rfl,rfl,h1⟩,h2⟩
 · refine (q6 q 1 w).mono ?_;rintro e w' ⟨rfl,h1⟩;exact ⟨by simp [eP],.inr ⟨rfl,rfl,rfl,rfl,rfl,rfl,by simp [dO],by simp [gS],by simp [jq]⟩,bu.of_below h1⟩
theorem AU (q:Int) (lo hi nm nv ns:Nat) (am av ak:Option Addr) (V:List (List ae)) (gs bs:Nat→Nat) (es:Nat→Nat→Nat) (w:World) (hT:gH lo hi w am nm av nv ak ns (dO 1 nm) (gS (1+5*nm) V) (jq (1+5*nm+eP V) ns) gs bs es) (M:List ac) (S:List Int) (hm:M.length=nm) (hs:S.length=ns) (hf:rP M V S) :
 Calls Tryz.prog 16 #[.agg #[iT q,.slice am nm nm,.slice av nv nv,.slice ak ns ns],iT 1] w fun e w'=>e=.returned (iT ((1+5*nm+eP V+ns:Nat):Int))∧Bl w w':=by
 have hl:=hT.lens;rcases hT with ⟨b1,b2,b3,rfl,rfl,rfl,h4⟩ | ⟨rfl,rfl,rfl,rfl,rfl,rfl,h5,h6,h7⟩
 · obtain ⟨f1,f2,f3,f4,f5⟩:=hf;have hv:=hl.2.1;rw [jp] at hv;exact vj q lo hi b1 nm b2 nv b3 ns 1 V gs bs es w h4 (by omega) (by omega) f3 (by omega) (by omega) (by omega)
 · have hv:V=[]:=by
    have h8:=congrArg List.length h6;rw [jp] at h8;exact List.length_eq_zero_iff.1 h8
   subst hv;refine (rk q 1 w).mono ?_;rintro e w' ⟨rfl,h1⟩;exact ⟨by simp [eP],h1⟩
def t8 (q:Int) (M:List ac) (V:List (List ae)) (S:List Int) (ok:Bool) (w:World) (e:Ending) (w':World):Prop :=
 ∃am nm cm av nv cv ak ns cs,e=.returned (.tuple #[.agg #[iT q,.slice am nm cm,.slice av nv cv,.slice ak ns cs],.bool ok])∧aM 0 w' am nm cm av nv cv ak ns cs M V S∧Bl w w'
def m9 (q:Int) (M:List ac) (V:List (List ae)) (S:List Int) (ok:Bool) (w:World) (e:Ending) (w':World):Prop :=
 ∃am nm av nv ak ns gs bs es,e=.returned (.tuple #[.agg #[iT q,.slice am nm nm,.slice av nv nv,.slice ak ns ns],.bool ok])∧gH w.heap.size w'.heap.size w' am nm av nv ak ns M V S gs bs es∧Bl w w'
structure mV (w:World) (b:Nat) (u0 u1 u2 u3:Value):Prop where
 c0:w.cell? ⟨b,0,none⟩=some u0
 c1:w.cell? ⟨b,1,none⟩=some u1
 c2:w.cell? ⟨b,2,none⟩=some u2
 c3:w.cell? ⟨b,3,none⟩=some u3
theorem mV.lt {w:World} {b:Nat} {u0 u1 u2 u3:Value} (h:mV w b u0 u1 u2 u3):b<w.heap.size:=World.block_lt_of_cell? w _ h.c0
theorem mV.new (w:World) (t:TypeId) (u0 u1 u2 u3:Value):mV (w.alloc (.cells #[u0,u1,u2,u3] t)) w.heap.size u0 u1 u2 u3:=⟨by simp,by simp,by simp,by simp⟩
theorem mV.keep {w w':World} {b:Nat} {u0 u1 u2 u3:Value} (h:mV w b u0 u1 u2 u3) (hb:Bl w w'):mV w' b u0 u1 u2 u3:=⟨cell_later hb h.c0,cell_later hb h.c1,cell_later hb h.c2,cell_later hb h.c3⟩
theorem mV.keepO {lo hi:Nat} {w w':World} {b:Nat} {u0 u1 u2 u3:Value} (h:mV w b u0 u1 u2 u3) (k:bu lo hi w w') (hb:b<lo∨hi≤b):mV w' b u0 u1 u2 u3:=⟨ik k hb h.c0,ik k hb h.c1,ik k hb h.c2,ik k hb h.c3⟩
structure fk (w6 wi:World) (Y:Nat) (y0 y1 y2 y3:Value) (G:Nat) (g0:Value) (lo hi:Nat) (am:Option Addr) (nm:Nat) (av:Option Addr) (nv:Nat) (ak:Option Addr) (ns:Nat) (M:List ac) (V:List (List ae)) (S:List Int) (gs bs:Nat→Nat) (es:Nat→Nat→Nat):Prop where
 low:Bl w6 wi
 hy:mV wi Y y0 y1 y2 y3
 hg:mV wi G g0 (.slice am nm nm) (.slice av nv nv) (.slice ak ns ns)
 res:gH lo hi wi am nm av nv ak ns M V S gs bs es
theorem fk.below {w6 wi wj:World} {Y G lo hi nm nv ns:Nat} {y0 y1 y2 y3 g0:Value} {am av ak:Option Addr} {M:List ac} {V:List (List ae)} {S:List Int} {gs bs:Nat→Nat} {es:Nat→Nat→Nat} (h:fk w6 wi Y y0 y1 y2 y3 G g0 lo hi am nm av nv ak ns M V S gs bs es) (hb:Bl wi wj):fk w6 wj Y y0 y1 y2 y3 G g0 lo hi am nm av nv ak ns M V S gs bs es :=
 ⟨h.low.trans (hb.mono h.low.size),h.hy.keep hb,h.hg.keep hb,h.res.below hb⟩
theorem fk.markX {w6 wi wj:World} {Y G lo hi a b nm nv ns:Nat} {y0 y1 y2 y3 g0:Value} {am av ak:Option Addr} {M:List ac} {V:List (List ae)} {S:List Int} {gs bs:Nat→Nat} {es:Nat→Nat→Nat} (h:fk w6 wi Y y0 y1 y2 y3 G g0 lo hi am nm av nv ak ns M V S gs bs es) (hk:bh a b wi wj) (ha:w6.heap.size≤a) (hY:b≤Y) (hl:b≤lo) (hG:b≤G):fk w6 wj Y y0 y1 y2 y3 G g0 lo hi am nm av nv ak ns M V S gs bs es :=
 ⟨h.low.trans (hk.below ha h.low.size),h.hy.keepO (bu.of_mark hk) (.inr hY),h.hg.keepO (bu.of_mark hk) (.inr hG),h.res.keepO (bu.of_mark hk) hl⟩
theorem fk.markG {w6 wi wj:World} {Y G lo hi nm nv ns:Nat} {y0 y1 y2 y3 g0:Value} {am av ak:Option Addr} {M M':List ac} {V V':List (List ae)} {S S':List Int} {gs bs:Nat→Nat} {es:Nat→Nat→Nat} (h:fk w6 wi Y y0 y1 y2 y3 G g0 lo hi am nm av nv ak ns M V S gs bs es) (hk:bu lo hi wi wj) (hr:gH lo hi wj am nm av nv ak ns M' V' S' gs bs es) (ha:w6.heap.size≤lo) (hY:Y<lo) (hG:hi≤G):fk w6 wj Y y0 y1 y2 y3 G g0 lo hi am nm av nv ak ns M' V' S' gs bs es :=
 ⟨h.low.trans (hk.below ha h.low.size),h.hy.keepO hk (.inl hY),h.hg.keepO hk (.inr hG),hr⟩
def BY (M:List ac) (V:List (List ae)) (S:List Int):Prop:=M.length+(r6 V+V.length)+S.length≤1048576∧(∀e ∈ M,Ax e)∧∀B ∈ V,Bj B
end Go.Proofs.YtlmgojlffgkciaaGreat

namespace Go.Proofs.YtlmgojlffgkciaaGreat
open Go.RowKit Go.Shelf
structure aC (K:Nat→Prop) (w w':World):Prop where
 os:w'.os=w.os
 tape:w'.tape=w.tape
 output:w'.output=w.output
 size:w.heap.size≤w'.heap.size
 block:∀k,K k→w'.heap[k]?=w.heap[k]?
theorem aC.of {K:Nat→Prop} {n₀:Nat} {w w':World} (h:Below n₀ w w') (hK:∀k,K k→k<n₀):aC K w w':=⟨h.os,h.tape,h.output,h.size,fun k hk=>h.block k (hK k hk)⟩
theorem aC.refl (K:Nat→Prop) (w:World):aC K w w:=⟨rfl,rfl,rfl,Nat.le_refl _,fun _ _=>rfl⟩
theorem aC.trans {K:Nat→Prop} {a b c:World} (h:aC K a b) (k:aC K b c):aC K a c :=
 ⟨k.os.trans h.os,k.tape.trans h.tape,k.output.trans h.output,Nat.le_trans h.size k.size,fun i hi=>(k.block i hi).trans (h.block i hi)⟩
theorem aC.cell {K:Nat→Prop} {w w':World} (h:aC K w w') {p:Addr} (hp:K p.block):w'.cell? p=w.cell? p:=World.cell?_of_block (w:=w) (h.block p.block hp)
theorem aC.grown {K:Nat→Prop} {w w':World} {row:Option Nat} (hg:w.grownBy w' row) (hK:∀k,K k→k<w.heap.size∧some k≠row):aC K w w':=⟨hg.os,hg.tape,hg.output,hg.size,fun k hk=>hg.block k (hK k hk).1 (hK k hk).2⟩
theorem iQ {K:Nat→Prop} {w:World} (hK:∀k,K k→k<w.heap.size) (W:World) (l:Nat) (o o':Obj) (hl:w.heap.size≤l) (h:W.heap[l]?=some o) (hc:o.isCells=false) (hw:o.isWalk=false):aC K W (W.putObj l o') :=
 aC.of (belowK_b (n₀:=w.heap.size) (w:=w) (Nat.le_refl _) W l o o' hl h hc hw) hK
theorem af.keepS {K:Nat→Prop} {w w':World} {a:Option Addr} {len cap:Nat} {L:List ac} (h:af w a len cap L) (hk:aC K w w') (hK:∀x,a=some x→0<len→K x.block):af w' a len cap L :=
 h.moved hk.size (fun x e hp o=>hk.cell (p:=⟨x.block,o,none⟩) (hK x e hp))
end Go.Proofs.YtlmgojlffgkciaaGreat
