/-
  The laws' size of runs, levels, trees: with the sum, and what it says of the texts; by walks of their Go text.
-/
import Derived.Test.YtgpcinihgofmfaaGreatDoorSt08
import Derived.Test.YtgpcinihgofmfaaGreatDoorSt05
import Derived.Test.YtgpcinihgofmfaaGreatDoorSt02
import Derived.Test.YtgpcinihgofmfaaGreatDoorSt04
import Derived.Test.YtgpcinihgofmfaaGreatDoorSt07
namespace Go.Proofs.YtgpcinihgofmfaaGreatDoor
open Go.RowKit
def sD (B:List aj):Nat:=(B.map fun p=>p.1.length).sum
def kg (V:List (List aj)):Nat:=(V.map fun B=>sD B+B.length).sum
def wY (B:List aj):Prop:=∀p ∈ B,∀e ∈ p.1,wX e
theorem xD {B:List aj} {k:Nat} {p:aj} (h:B[k]?=some p):sD (B.take (k+1))=sD (B.take k)+p.1.length:=by
 rw [List.take_add_one,h];simp [sD]
theorem xC {V:List (List aj)} {k:Nat} {B:List aj} (h:V[k]?=some B):kg (V.take (k+1))=kg (V.take k)+(sD B+B.length):=by
 rw [List.take_add_one,h];simp [kg]
theorem jJ {α:Type} {L:List α} {k:Nat} {x y:α} (h:L[k]?=some x) (hy:y ∈ L.take (k+1)):y ∈ L.take k∨y=x:=by
 rw [List.take_add_one,h] at hy;simpa using hy
theorem AL (B:List aj):ew B=5*sD B+B.length:=by
 induction B with
 | nil=>rfl
 | cons p B ih =>
  simp only [ew,sD,List.map_cons,List.sum_cons,List.length_cons] at ih ⊢;omega
theorem jd (V:List (List aj)):cY V≤5*kg V:=by
 induction V with
 | nil=>simp [cY,kg]
 | cons B V ih =>
  have h:=AL B;simp only [cY,kg,List.map_cons,List.sum_cons] at ih ⊢;omega
theorem tY {B:List aj} {p:aj} (h:p ∈ B):p.1.length≤sD B:=by
 induction B with
 | nil=>cases h
 | cons x B ih =>
  simp only [sD,List.map_cons,List.sum_cons] at ih ⊢;rcases List.mem_cons.1 h with rfl | h
  · omega
  · have:=ih h;omega
theorem pF {V:List (List aj)} {B:List aj} (h:B ∈ V):sD B+B.length≤kg V:=by
 induction V with
 | nil=>cases h
 | cons x V ih =>
  simp only [kg,List.map_cons,List.sum_cons] at ih ⊢;rcases List.mem_cons.1 h with rfl | h
  · omega
  · have:=ih h;omega
set_option maxHeartbeats 400000 in
theorem uJ (m:Int) (a:Option Addr) (len cap:Nat) (L:List ae) (left:Int) (w:World) (hL:au w a len cap L) (h0:0≤left) (h1:left≤1048576) :
 Calls Tryz.prog 118 #[.agg #[.slice a len cap,iT m],iT left] w fun e w'=>∃r:Int,e=.returned (iT r)∧(r=-1∨(0≤r∧r+L.length≤left∧∀e ∈ L,wX e))∧Bl w w':=by
 have hL1:au (w.alloc (.cells #[.slice a len cap,iT m] 154)) a len cap L:=hL.keep bZ;go_enter Tryz.func118,Tryz.ntmps118
 go_wp2_with (go_at_call 38;refine (mD _ _ _ _ _ _ hL1 h0 h1).mono ?_;rintro e w1 ⟨r,rfl,hr,hb1⟩)
 · go_ret;exact ⟨-1,rfl,Or.inl rfl,bZ.trans (hb1.mono (by simp))⟩
 · go_ret;exact ⟨r,rfl,hr,bZ.trans (hb1.mono (by simp))⟩
set_option maxHeartbeats 800000 in
theorem sC (lo:Nat) (a:Option Addr) (len cap:Nat) (B:List aj) (left:Int) (w:World) (hP:aE lo w a len cap B) (h0:0≤left) (h1:left≤1048576) :
 Calls Tryz.prog 79 #[.slice a len cap,iT left] w fun e w'=>∃r:Int,e=.returned (iT r)∧(r=-1∨(0≤r∧r+(sD B+B.length:Nat)≤left∧wY B))∧Bl w w':=by
 have hbl:=hP.room;have hbc:=hP.big;unfold maxLen at hbc;have HL:=ar hP;have HLEN:Hid (B.length=len):=hP.length;clear hP;by_cases hb:left<len
 · go_enter Tryz.func79,Tryz.ntmps79
   go_wp2;go_ret;exact ⟨-1,rfl,Or.inl rfl,Below.refl _ _⟩
 · go_enter Tryz.func79,Tryz.ntmps79
   go_wp2;go_loopw [1,5] (fun l i wr=>∃(k:Nat) (r:Int),k≤len∧i=iT k∧l=iT r∧0≤r∧r≤left∧r+sD (B.take k)+len≤left∧Bl w wr∧∀p ∈ B.take k,∀e ∈ p.1,wX e) (fun _ i _=>len - (intOf i).toNat)
   case atStart=>exact ⟨0,left - len,Nat.zero_le _,rfl,rfl,by omega,by omega,by simp [sD],Below.refl _ _,fun p hp=>by simp at hp⟩
   case round =>
    obtain ⟨k,r,hk,rfl,rfl,hr0,hr1,hrs,hbw,hall⟩:=hrel;have HALL:Hid (∀p ∈ B.take k,∀e ∈ p.1,wX e):=hall;have HRS:Hid (r+sD (B.take k)+len≤left):=hrs;clear hall hrs;by_cases hlt:k<len
    · obtain ⟨b,off,rfl,hbb⟩:=HL.out.form (by omega);obtain ⟨L,m,s,n,c,hg,_,g0,g1,hLk⟩:=HL.out.run hbw k hlt;have HG:Hid (B[k]?=some (L,m)):=hg;have hbk:b<wr.heap.size:=Nat.lt_of_lt_of_le hbb hbw.size;clear hg;go_wp2_with (go_at_call 118;refine (uJ _ _ _ _ L _ _ hLk.1 hr0 (by omega)).mono ?_;rintro e w1 ⟨r',rfl,hr',hb1⟩;rcases hr' with rfl | ⟨hr0',hr1',hln⟩)
      · go_ret;exact ⟨-1,rfl,Or.inl rfl,hbw.trans (hb1.mono hbw.size)⟩
      · have HR1:Hid (r'+L.length≤r):=hr1';have hrl:r'≤left:=by omega
        have HLN:Hid (∀e ∈ L,wX e):=hln;clear hr1' hln;go_wp2;go_roundw
        case rel =>
         refine ⟨k+1,r',by omega,by go_num,rfl,hr0',hrl,?_,hbw.trans (hb1.mono hbw.size),fun p hp=>?_⟩
         · have h1:=HR1.out;have h2:=HRS.out;have h3:=xD HG.out;simp only at h3;omega
         · rcases jJ HG.out hp with h1 | rfl
           · exact HALL.out p h1
           · exact HLN.out
        case measure=>simp [intOf];omega
    · go_wp2;go_ret;have hkl:B.take k=B:=List.take_of_length_le (by have:=HLEN.out;omega);have h2:=HRS.out;have h3:=HALL.out;have h4:=HLEN.out;rw [hkl] at h2 h3;exact ⟨r,rfl,Or.inr ⟨hr0,by omega,h3⟩,hbw⟩
set_option maxHeartbeats 800000 in
theorem lL (lo:Nat) (a:Option Addr) (len cap:Nat) (V:List (List aj)) (left:Int) (w:World) (hP:ay lo w a len cap V) (h0:0≤left) (h1:left≤1048576) :
 Calls Tryz.prog 39 #[.slice a len cap,iT left] w fun e w'=>∃r:Int,e=.returned (iT r)∧(r=-1∨(0≤r∧r+(kg V+V.length:Nat)≤left∧∀B ∈ V,wY B))∧Bl w w':=by
 have hbl:=hP.room;have hbc:=hP.big;unfold maxLen at hbc;have HL:=ar hP;have HLEN:Hid (V.length=len):=hP.length;clear hP;by_cases hb:left<len
 · go_enter Tryz.func39,Tryz.ntmps39
   go_wp2;go_ret;exact ⟨-1,rfl,Or.inl rfl,Below.refl _ _⟩
 · go_enter Tryz.func39,Tryz.ntmps39
   go_wp2;go_loopw [1,5] (fun l i wr=>∃(k:Nat) (r:Int),k≤len∧i=iT k∧l=iT r∧0≤r∧r≤left∧r+kg (V.take k)+len≤left∧Bl w wr∧∀p ∈ V.take k,wY p) (fun _ i _=>len - (intOf i).toNat)
   case atStart=>exact ⟨0,left - len,Nat.zero_le _,rfl,rfl,by omega,by omega,by simp [kg],Below.refl _ _,fun p hp=>by simp at hp⟩
   case round =>
    obtain ⟨k,r,hk,rfl,rfl,hr0,hr1,hrs,hbw,hall⟩:=hrel;have HALL:Hid (∀p ∈ V.take k,wY p):=hall;have HRS:Hid (r+kg (V.take k)+len≤left):=hrs;clear hall hrs;by_cases hlt:k<len
    · obtain ⟨b,off,rfl,hbb⟩:=HL.out.form (by omega);obtain ⟨B,s,n,c,hg,g0,hLk⟩:=HL.out.level hbw k hlt;have HG:Hid (V[k]?=some B):=hg;have hbk:b<wr.heap.size:=Nat.lt_of_lt_of_le hbb hbw.size;clear hg;go_wp2_with (go_at_call 79;refine (sC lo _ _ _ B _ _ hLk hr0 (by omega)).mono ?_;rintro e w1 ⟨r',rfl,hr',hb1⟩;rcases hr' with rfl | ⟨hr0',hr1',hln⟩)
      · go_ret;exact ⟨-1,rfl,Or.inl rfl,hbw.trans (hb1.mono hbw.size)⟩
      · have HR1:Hid (r'+(sD B+B.length:Nat)≤r):=hr1';have hrl:r'≤left:=by omega
        have HLN:Hid (wY B):=hln;clear hr1' hln;go_wp2;go_roundw
        case rel =>
         refine ⟨k+1,r',by omega,by go_num,rfl,hr0',hrl,?_,hbw.trans (hb1.mono hbw.size),fun p hp=>?_⟩
         · have h1:=HR1.out;have h2:=HRS.out;have h3:=xC HG.out;omega
         · rcases jJ HG.out hp with h1 | rfl
           · exact HALL.out p h1
           · exact HLN.out
        case measure=>simp [intOf];omega
    · go_wp2;go_ret;have hkl:V.take k=V:=List.take_of_length_le (by have:=HLEN.out;omega);have h2:=HRS.out;have h3:=HALL.out;have h4:=HLEN.out;rw [hkl] at h2 h3;exact ⟨r,rfl,Or.inr ⟨hr0,by omega,h3⟩,hbw⟩
set_option maxHeartbeats 800000 in
theorem sy (q:Int) (lo:Nat) (am av ak:Option Addr) (nm cm nv cv ns cs:Nat) (M:List ae) (V:List (List aj)) (S:List Int) (left:Int) (w:World) (h:aW lo w am nm cm av nv cv ak ns cs M V S) (h0:0≤left) (h1:left≤1048576) :
 Calls Tryz.prog 17 #[.agg #[iT q,.slice am nm cm,.slice av nv cv,.slice ak ns cs],iT left] w fun e w'=>∃r:Int,e=.returned (iT r)∧(r=-1∨(0≤r∧r+(M.length+(kg V+V.length)+S.length:Nat)≤left∧(∀e ∈ M,wX e)∧∀B ∈ V,wY B))∧Bl w w':=by
 obtain ⟨W,hW⟩:=aw (w.alloc (.cells #[iT q,.slice am nm cm,.slice av nv cv,.slice ak ns cs] 26));have hB:Bl w W:=by rw [hW];exact bZ
 have x2:W.cell? ⟨w.heap.size,2,none⟩=some (.slice av nv cv):=by rw [hW];simp
 have x3:W.cell? ⟨w.heap.size,3,none⟩=some (.slice ak ns cs):=by rw [hW];simp
 have H1:Hid (aW lo W am nm cm av nv cv ak ns cs M V S):=h.keep hB;have HB:Hid (Bl w W):=hB;clear h hB;go_enter Tryz.func17,Tryz.ntmps17
 go_wp2_with fail
 rw [← hW];clear hW;refine (mD _ _ _ M _ _ H1.out.mem.1 h0 h1).mono ?_;rintro e w1 ⟨r1,rfl,hr1,hb1⟩;have x2:=cell_later hb1 x2;have x3:=cell_later hb1 x3;have z1:=World.block_lt_of_cell? _ _ x2;simp only at z1;have K1:Hid (Bl W w1):=hb1;clear hb1;rcases hr1 with rfl | ⟨a1,b1,c1⟩
 · go_wp2;go_ret;exact ⟨-1,rfl,Or.inl rfl,HB.out.trans (K1.out.mono HB.out.size)⟩
 have B1:Hid (r1+M.length≤left):=b1;have C1:Hid (∀e ∈ M,wX e):=c1;have d1:r1≤left:=by omega
 clear b1 c1;go_wp2_with fail
 refine (lL lo _ _ _ V _ _ (H1.out.keep K1.out).levels a1 (by omega)).mono ?_;rintro e w2 ⟨r2,rfl,hr2,hb2⟩;have x3:=cell_later hb2 x3;have z1:=World.block_lt_of_cell? _ _ x3;simp only at z1;have K2:Hid (Bl W w2):=K1.out.trans (hb2.mono K1.out.size);clear hb2 K1;rcases hr2 with rfl | ⟨a2,b2,c2⟩
 · go_wp2;go_ret;exact ⟨-1,rfl,Or.inl rfl,HB.out.trans (K2.out.mono HB.out.size)⟩
 have B2:Hid (r2+(kg V+V.length:Nat)≤r1):=b2;have C2:Hid (∀B ∈ V,wY B):=c2;have d2:r2≤r1:=by omega
 clear b2 c2;have hsr:=(H1.out.keep K2.out).snaps.room;have hsb:=(H1.out.keep K2.out).snaps.big;have HSL:Hid (S.length=ns):=H1.out.snaps.length;unfold maxLen at hsb;have CI:Hid (∀w',Calls Tryz.prog 40 #[.slice ak ns cs,iT r2] w' fun e w''=>∃r:Int,e=.returned (iT r)∧(r=-1∨(0≤r∧r+ns≤r2))∧Bl w' w''):=by
  intro w';by_cases hb:r2<ns
  · go_enter Tryz.func40,Tryz.ntmps40
    go_wp2;go_ret;exact ⟨-1,rfl,Or.inl rfl,Below.refl _ _⟩
  · go_enter Tryz.func40,Tryz.ntmps40
    go_wp2;go_ret;exact ⟨r2 - ns,rfl,Or.inr ⟨by omega,by omega⟩,Below.refl _ _⟩
 clear hsr hsb;go_wp2_with fail
 refine (CI.out _).mono ?_;rintro e w3 ⟨r3,rfl,hr3,hb3⟩;have K3:Hid (Bl W w3):=K2.out.trans (hb3.mono K2.out.size);clear hb3 K2;rcases hr3 with rfl | ⟨a3,b3⟩
 · go_wp2;go_ret;exact ⟨-1,rfl,Or.inl rfl,HB.out.trans (K3.out.mono HB.out.size)⟩
 · go_wp2;go_ret;have q1:=B1.out;have q2:=B2.out;have q3:=HSL.out;exact ⟨r3,rfl,Or.inr ⟨a3,by omega,C1.out,C2.out⟩,HB.out.trans (K3.out.mono HB.out.size)⟩
theorem kr {M:List ae} {V:List (List aj)} {S:List Int} (h:M.length+(kg V+V.length)+S.length≤1048576):tW M V S :=
 ⟨by omega,⟨by omega,fun B hB=>⟨by have:=pF hB;omega,fun p hp=>by have h1:=tY hp;have h2:=pF hB;omega⟩⟩,by omega⟩
end Go.Proofs.YtgpcinihgofmfaaGreatDoor

namespace Go.Proofs.YtgpcinihgofmfaaGreatDoor
open Go.RowKit
set_option maxRecDepth 100000
set_option maxHeartbeats 2000000
theorem aG.of_mark {lo hi:Nat} {w w':World} (h:aJ lo hi w w'):aG lo hi w w':=⟨h.os,h.tape,h.output,h.size,h.far⟩
theorem bI.levelsIn {lo hi G n:Nat} {w:World} {V:List (List aj)} {gs bs:Nat→Nat} {es:Nat→Nat→Nat} (h:bI lo hi w G n V gs bs es):ay lo w (pT G) n n V:=by
 obtain ⟨xs,r1,r2⟩:=h.row;have hrc:=dF r1;have hl:=h.len;refine ⟨h.len,hrc.1,hrc.2,(fun e=>by cases e),?_,?_⟩
 · rintro x e _;cases e;exact ⟨(r1.lt G rfl).2,rfl,(r1.lt G rfl).1⟩
 · rintro x e i hi;cases e;have hp:=List.getElem?_eq_getElem hi;have u:=h.up 0 i (by omega) (by omega);refine ⟨_,_,_,?_,(h.levs i _ hp).runsIn.mono (by have:=h.bot.1;omega)⟩;simp only [Nat.zero_add];exact (r1.cellAt _ (by omega)).trans (r2 i _ hp)
theorem dE.treeIn {lo hi b1 nm b2 nv b3 ns:Nat} {w:World} {M:List ae} {V:List (List aj)} {S:List Int} {gs bs:Nat→Nat} {es:Nat→Nat→Nat} (h:dE lo hi w b1 nm b2 nv b3 ns M V S gs bs es) (hw:∀z ∈ S,(Lit.int .i64 z).wf=true):aW 0 w (pT b1) nm nm (pT b2) nv nv (pT b3) ns ns M V S:=by
 have hrc:=dF h.sn.2;have hl:=h.sn.1;refine ⟨⟨h.mem.entsAt,fun x e _=>Nat.zero_le _⟩,h.levs.levelsIn.mono (Nat.zero_le _),⟨hl,hrc.1,hrc.2,hw,(fun e=>by cases e),?_,?_⟩⟩
 · rintro x e _;cases e;exact ⟨(h.sn.2.lt b3 rfl).2,rfl,Nat.zero_le _⟩
 · rintro x e i hi;cases e;simp only [Nat.zero_add];have h1:=h.sn.2.cellAt i (by omega);rw [List.getElem?_map,List.getElem?_eq_getElem hi] at h1;exact h1
def iF (lo hi:Nat) (w:World) (am:Option Addr) (nm:Nat) (av:Option Addr) (nv:Nat) (ak:Option Addr) (ns:Nat) (M:List ae) (V:List (List aj)) (S:List Int) (gs bs:Nat→Nat) (es:Nat→Nat→Nat):Prop :=
 (∃b1 b2 b3,am=some ⟨b1,0,none⟩∧av=some ⟨b2,0,none⟩∧ak=some ⟨b3,0,none⟩∧dE lo hi w b1 nm b2 nv b3 ns M V S gs bs es)∨(am=none∧av=none∧ak=none∧nm=0∧nv=0∧ns=0∧M=[]∧V=[]∧S=[])
theorem iF.below {lo hi nm nv ns:Nat} {am av ak:Option Addr} {w w':World} {M:List ae} {V:List (List aj)} {S:List Int} {gs bs:Nat→Nat} {es:Nat→Nat→Nat} (h:iF lo hi w am nm av nv ak ns M V S gs bs es) (hb:Bl w w'):iF lo hi w' am nm av nv ak ns M V S gs bs es:=by
 rcases h with ⟨b1,b2,b3,h1,h2,h3,h4⟩ | h
 · exact .inl ⟨b1,b2,b3,h1,h2,h3,h4.below hb⟩
 · exact .inr h
theorem iF.keepO {lo hi lo' hi' nm nv ns:Nat} {am av ak:Option Addr} {w w':World} {M:List ae} {V:List (List aj)} {S:List Int} {gs bs:Nat→Nat} {es:Nat→Nat→Nat} (h:iF lo hi w am nm av nv ak ns M V S gs bs es) (k:aG lo' hi' w w') (hd:hi'≤lo):iF lo hi w' am nm av nv ak ns M V S gs bs es:=by
 rcases h with ⟨b1,b2,b3,h1,h2,h3,h4⟩ | h
 · exact .inl ⟨b1,b2,b3,h1,h2,h3,h4.keepO k hd⟩
 · exact .inr h
theorem sv (lo:Nat) (w:World):aW lo w none 0 0 none 0 0 none 0 0 [] [] [] :=
 ⟨⟨⟨rfl,Nat.le_refl _,Nat.zero_le _,(fun e he=>by cases he),fun _=>rfl,(fun x e=>by cases e),(fun x e=>by cases e)⟩,fun x e=>by cases e⟩,⟨rfl,Nat.le_refl _,Nat.zero_le _,fun _=>rfl,(fun x e=>by cases e),(fun x e=>by cases e)⟩,⟨rfl,Nat.le_refl _,Nat.zero_le _,(fun z hz=>by cases hz),fun _=>rfl,(fun x e=>by cases e),(fun x e=>by cases e)⟩⟩
theorem iF.treeIn {lo hi nm nv ns:Nat} {am av ak:Option Addr} {w:World} {M:List ae} {V:List (List aj)} {S:List Int} {gs bs:Nat→Nat} {es:Nat→Nat→Nat} (h:iF lo hi w am nm av nv ak ns M V S gs bs es) (hw:∀z ∈ S,(Lit.int .i64 z).wf=true):aW 0 w am nm nm av nv nv ak ns ns M V S:=by
 rcases h with ⟨b1,b2,b3,rfl,rfl,rfl,h4⟩ | ⟨rfl,rfl,rfl,rfl,rfl,rfl,rfl,rfl,rfl⟩
 · exact h4.treeIn hw
 · exact sv 0 w
theorem iF.lens {lo hi nm nv ns:Nat} {am av ak:Option Addr} {w:World} {M:List ae} {V:List (List aj)} {S:List Int} {gs bs:Nat→Nat} {es:Nat→Nat→Nat} (h:iF lo hi w am nm av nv ak ns M V S gs bs es):M.length=nm∧V.length=nv∧S.length=ns:=by
 rcases h with ⟨b1,b2,b3,rfl,rfl,rfl,h4⟩ | ⟨rfl,rfl,rfl,rfl,rfl,rfl,rfl,rfl,rfl⟩
 · exact ⟨h4.mem.len,h4.levs.len,h4.sn.1⟩
 · exact ⟨rfl,rfl,rfl⟩
theorem kI (k:Nat) (w:World) :
 Calls Tryz.prog 55 #[nZ,iT k] w fun e w'=>e=.returned (iT (k:Int))∧w'=w:=by
 go_enter Tryz.func55,Tryz.ntmps55
 go_wp2;go_loopw [1,5] (fun kv i wr=>kv=iT (k:Int)∧i=iT 0∧wr=w) (fun _ i _=>0)
 case atStart=>exact ⟨rfl,rfl,rfl⟩
 case round =>
  obtain ⟨rfl,rfl,rfl⟩:=hrel;go_wp2;go_ret;exact ⟨rfl,rfl⟩
theorem kM (k:Nat) (w:World) :
 Calls Tryz.prog 58 #[nZ,iT k] w fun e w'=>e=.returned (iT (k:Int))∧w'=w:=by
 go_enter Tryz.func58,Tryz.ntmps58
 go_wp2;go_loopw [1,5] (fun kv i wr=>kv=iT (k:Int)∧i=iT 0∧wr=w) (fun _ i _=>0)
 case atStart=>exact ⟨rfl,rfl,rfl⟩
 case round =>
  obtain ⟨rfl,rfl,rfl⟩:=hrel;go_wp2;go_ret;exact ⟨rfl,rfl⟩
theorem pS (k:Nat) (w:World) :
 Calls Tryz.prog 56 #[nZ,iT k] w fun e w'=>e=.returned (iT (k:Int))∧w'=w:=by
 go_enter Tryz.func56,Tryz.ntmps56
 go_wp2;go_loopw [1,5] (fun kv i wr=>kv=iT (k:Int)∧i=iT 0∧wr=w) (fun _ i _=>0)
 case atStart=>exact ⟨rfl,rfl,rfl⟩
 case round =>
  obtain ⟨rfl,rfl,rfl⟩:=hrel;go_wp2;go_ret;exact ⟨rfl,rfl⟩
theorem qh (k:Nat) (w:World) :
 Calls Tryz.prog 59 #[nZ,iT k] w fun e w'=>e=.returned (iT (k:Int))∧w'=w:=by
 go_enter Tryz.func59,Tryz.ntmps59
 go_wp2;go_loopw [1,5] (fun kv i wr=>kv=iT (k:Int)∧i=iT 0∧wr=w) (fun _ i _=>0)
 case atStart=>exact ⟨rfl,rfl,rfl⟩
 case round =>
  obtain ⟨rfl,rfl,rfl⟩:=hrel;go_wp2;go_ret;exact ⟨rfl,rfl⟩
theorem pR (q:Int) (k:Nat) (w:World) :
 Calls Tryz.prog 27 #[.agg #[iT q,nZ,nZ,nZ],iT k] w fun e w'=>e=.returned (iT (k:Int))∧Bl w w':=by
 obtain ⟨Y,hY⟩:=aw w.heap.size;obtain ⟨W,hW⟩:=aw (w.alloc (.cells #[iT q,nZ,nZ,nZ] 35));have kW:Bl w W:=by rw [hW];exact bZ
 have x2:W.cell? ⟨Y,2,none⟩=some nZ:=by rw [hW,hY];simp
 have x3:W.cell? ⟨Y,3,none⟩=some nZ:=by rw [hW,hY];simp
 have K0:Hid (Bl w W):=kW;have z1:=World.block_lt_of_cell? _ _ x2;simp only at z1;clear kW;go_enter Tryz.func27,Tryz.ntmps27
 go_wp2_with fail
 rw [← hW];try rw [← hY]
 clear hW hY;refine (vd k W).mono ?_;rintro e w1 ⟨rfl,rfl⟩;go_wp2_with fail
 refine (kI k _).mono ?_;rintro e w1 ⟨rfl,rfl⟩;go_wp2_with fail
 refine (pS k _).mono ?_;rintro e w1 ⟨rfl,rfl⟩;go_wp2;go_ret;exact ⟨rfl,K0.out⟩
theorem qg (q:Int) (k:Nat) (w:World) :
 Calls Tryz.prog 29 #[.agg #[iT q,nZ,nZ,nZ],iT k] w fun e w'=>e=.returned (iT (k:Int))∧Bl w w':=by
 obtain ⟨Y,hY⟩:=aw w.heap.size;obtain ⟨W,hW⟩:=aw (w.alloc (.cells #[iT q,nZ,nZ,nZ] 35));have kW:Bl w W:=by rw [hW];exact bZ
 have x2:W.cell? ⟨Y,2,none⟩=some nZ:=by rw [hW,hY];simp
 have x3:W.cell? ⟨Y,3,none⟩=some nZ:=by rw [hW,hY];simp
 have K0:Hid (Bl w W):=kW;have z1:=World.block_lt_of_cell? _ _ x2;simp only at z1;have hk:¬(k:Int)<0:=by omega
 clear kW;go_enter Tryz.func29,Tryz.ntmps29
 go_wp2_with fail
 rw [← hW];try rw [← hY]
 clear hW hY;refine (vL k W).mono ?_;rintro e w1 ⟨rfl,rfl⟩;go_wp2_with fail
 refine (kM k _).mono ?_;rintro e w1 ⟨rfl,rfl⟩;go_wp2_with fail
 refine (qh k _).mono ?_;rintro e w1 ⟨rfl,rfl⟩;go_wp2;go_ret;exact ⟨rfl,K0.out⟩
def Ba (M:List ae) (V:List (List aj)) (S:List Int):Prop:=M.length≤1048576∧V.length≤1048576∧(∀B ∈ V,B.length≤1048576∧∀p ∈ B,p.1.length≤1048576)∧S.length≤1048576∧1+5*M.length+cY V+S.length≤1000000000
theorem Ad (q:Int) (lo hi nm nv ns:Nat) (am av ak:Option Addr) (M:List ae) (V:List (List aj)) (S:List Int) (gs bs:Nat→Nat) (es:Nat→Nat→Nat) (w:World) (hT:iF lo hi w am nm av nv ak ns M V S gs bs es) (hhi:hi≤w.heap.size) (hf:Ba M V S) :
 Calls Tryz.prog 27 #[.agg #[iT q,.slice am nm nm,.slice av nv nv,.slice ak ns ns],iT 1] w fun e w'=>e=.returned (iT ((1+5*nm+cY V+ns:Nat):Int))∧iF lo hi w' am nm av nv ak ns (cO 1 nm) (dM (1+5*nm) V) (gh (1+5*nm+cY V) ns) gs bs es∧aG lo hi w w':=by
 have hl:=hT.lens;rcases hT with ⟨b1,b2,b3,rfl,rfl,rfl,h4⟩ | ⟨rfl,rfl,rfl,rfl,rfl,rfl,rfl,rfl,rfl⟩
 · obtain ⟨f1,f2,f3,f4,f5⟩:=hf;refine (tg q lo hi b1 nm b2 nv b3 ns 1 M V S gs bs es w h4 hhi (by omega) (by omega) f3 (by omega) (by omega) (by omega)).mono ?_;rintro e w' ⟨rfl,h1,h2⟩;exact ⟨rfl,.inl ⟨b1,b2,b3,rfl,rfl,rfl,h1⟩,h2⟩
 · refine (pR q 1 w).mono ?_;rintro e w' ⟨rfl,h1⟩;exact ⟨by simp [cY],.inr ⟨rfl,rfl,rfl,rfl,rfl,rfl,by simp [cO],by simp [dM],by simp [gh]⟩,aG.of_below h1⟩
theorem Ag (q:Int) (lo hi nm nv ns:Nat) (am av ak:Option Addr) (V:List (List aj)) (gs bs:Nat→Nat) (es:Nat→Nat→Nat) (w:World) (hT:iF lo hi w am nm av nv ak ns (cO 1 nm) (dM (1+5*nm) V) (gh (1+5*nm+cY V) ns) gs bs es) (M:List ae) (S:List Int) (hm:M.length=nm) (hs:S.length=ns) (hf:Ba M V S) :
 Calls Tryz.prog 29 #[.agg #[iT q,.slice am nm nm,.slice av nv nv,.slice ak ns ns],iT 1] w fun e w'=>e=.returned (iT ((1+5*nm+cY V+ns:Nat):Int))∧Bl w w':=by
 have hl:=hT.lens;rcases hT with ⟨b1,b2,b3,rfl,rfl,rfl,h4⟩ | ⟨rfl,rfl,rfl,rfl,rfl,rfl,h5,h6,h7⟩
 · obtain ⟨f1,f2,f3,f4,f5⟩:=hf;have hv:=hl.2.1;rw [fQ] at hv;exact tB q lo hi b1 nm b2 nv b3 ns 1 V gs bs es w h4 (by omega) (by omega) f3 (by omega) (by omega) (by omega)
 · have hv:V=[]:=by
    have h8:=congrArg List.length h6;rw [fQ] at h8;exact List.length_eq_zero_iff.1 h8
   subst hv;refine (qg q 1 w).mono ?_;rintro e w' ⟨rfl,h1⟩;exact ⟨by simp [cY],h1⟩
structure wZ (w:World) (b:Nat) (u0 u1 u2 u3:Value):Prop where
 c0:w.cell? ⟨b,0,none⟩=some u0
 c1:w.cell? ⟨b,1,none⟩=some u1
 c2:w.cell? ⟨b,2,none⟩=some u2
 c3:w.cell? ⟨b,3,none⟩=some u3
theorem wZ.lt {w:World} {b:Nat} {u0 u1 u2 u3:Value} (h:wZ w b u0 u1 u2 u3):b<w.heap.size:=World.block_lt_of_cell? w _ h.c0
theorem wZ.new (w:World) (t:TypeId) (u0 u1 u2 u3:Value):wZ (w.alloc (.cells #[u0,u1,u2,u3] t)) w.heap.size u0 u1 u2 u3:=⟨by simp,by simp,by simp,by simp⟩
theorem wZ.keep {w w':World} {b:Nat} {u0 u1 u2 u3:Value} (h:wZ w b u0 u1 u2 u3) (hb:Bl w w'):wZ w' b u0 u1 u2 u3:=⟨cell_later hb h.c0,cell_later hb h.c1,cell_later hb h.c2,cell_later hb h.c3⟩
theorem wZ.keepO {lo hi:Nat} {w w':World} {b:Nat} {u0 u1 u2 u3:Value} (h:wZ w b u0 u1 u2 u3) (k:aG lo hi w w') (hb:b<lo∨hi≤b):wZ w' b u0 u1 u2 u3:=⟨cP k hb h.c0,cP k hb h.c1,cP k hb h.c2,cP k hb h.c3⟩
structure k7 (w6 wi:World) (Y:Nat) (y0 y1 y2 y3:Value) (G:Nat) (g0:Value) (lo hi:Nat) (am:Option Addr) (nm:Nat) (av:Option Addr) (nv:Nat) (ak:Option Addr) (ns:Nat) (M:List ae) (V:List (List aj)) (S:List Int) (gs bs:Nat→Nat) (es:Nat→Nat→Nat):Prop where
 low:Bl w6 wi
 hy:wZ wi Y y0 y1 y2 y3
 hg:wZ wi G g0 (.slice am nm nm) (.slice av nv nv) (.slice ak ns ns)
 res:iF lo hi wi am nm av nv ak ns M V S gs bs es
theorem k7.below {w6 wi wj:World} {Y G lo hi nm nv ns:Nat} {y0 y1 y2 y3 g0:Value} {am av ak:Option Addr} {M:List ae} {V:List (List aj)} {S:List Int} {gs bs:Nat→Nat} {es:Nat→Nat→Nat} (h:k7 w6 wi Y y0 y1 y2 y3 G g0 lo hi am nm av nv ak ns M V S gs bs es) (hb:Bl wi wj):k7 w6 wj Y y0 y1 y2 y3 G g0 lo hi am nm av nv ak ns M V S gs bs es :=
 ⟨h.low.trans (hb.mono h.low.size),h.hy.keep hb,h.hg.keep hb,h.res.below hb⟩
theorem k7.markX {w6 wi wj:World} {Y G lo hi a b nm nv ns:Nat} {y0 y1 y2 y3 g0:Value} {am av ak:Option Addr} {M:List ae} {V:List (List aj)} {S:List Int} {gs bs:Nat→Nat} {es:Nat→Nat→Nat} (h:k7 w6 wi Y y0 y1 y2 y3 G g0 lo hi am nm av nv ak ns M V S gs bs es) (hk:aJ a b wi wj) (ha:w6.heap.size≤a) (hY:b≤Y) (hl:b≤lo) (hG:b≤G):k7 w6 wj Y y0 y1 y2 y3 G g0 lo hi am nm av nv ak ns M V S gs bs es :=
 ⟨h.low.trans (hk.below ha h.low.size),h.hy.keepO (aG.of_mark hk) (.inr hY),h.hg.keepO (aG.of_mark hk) (.inr hG),h.res.keepO (aG.of_mark hk) hl⟩
theorem k7.markG {w6 wi wj:World} {Y G lo hi nm nv ns:Nat} {y0 y1 y2 y3 g0:Value} {am av ak:Option Addr} {M M':List ae} {V V':List (List aj)} {S S':List Int} {gs bs:Nat→Nat} {es:Nat→Nat→Nat} (h:k7 w6 wi Y y0 y1 y2 y3 G g0 lo hi am nm av nv ak ns M V S gs bs es) (hk:aG lo hi wi wj) (hr:iF lo hi wj am nm av nv ak ns M' V' S' gs bs es) (ha:w6.heap.size≤lo) (hY:Y<lo) (hG:hi≤G):k7 w6 wj Y y0 y1 y2 y3 G g0 lo hi am nm av nv ak ns M' V' S' gs bs es :=
 ⟨h.low.trans (hk.below ha h.low.size),h.hy.keepO hk (.inl hY),h.hg.keepO hk (.inr hG),hr⟩
end Go.Proofs.YtgpcinihgofmfaaGreatDoor

namespace Go.Proofs.YtgpcinihgofmfaaGreatDoor
set_option maxRecDepth 100000
open Go.RowKit Go.Joins Go.ChangeShapes Go.WideShapes
structure aA (w:World) (b:Nat) (u0 u1 u2 u3 u4 u5 u6 u7 u8:Value):Prop where
 c0:w.cell? ⟨b,0,none⟩=some u0
 c1:w.cell? ⟨b,1,none⟩=some u1
 c2:w.cell? ⟨b,2,none⟩=some u2
 c3:w.cell? ⟨b,3,none⟩=some u3
 c4:w.cell? ⟨b,4,none⟩=some u4
 c5:w.cell? ⟨b,5,none⟩=some u5
 c6:w.cell? ⟨b,6,none⟩=some u6
 c7:w.cell? ⟨b,7,none⟩=some u7
 c8:w.cell? ⟨b,8,none⟩=some u8
 fz:∀o,w.frozen? ⟨b,o,none⟩=false
theorem aA.lt {w:World} {b:Nat} {u0 u1 u2 u3 u4 u5 u6 u7 u8:Value} (h:aA w b u0 u1 u2 u3 u4 u5 u6 u7 u8):b<w.heap.size:=World.block_lt_of_cell? w _ h.c0
theorem aA.new (w:World) (t:TypeId) (u0 u1 u2 u3 u4 u5 u6 u7 u8:Value):aA (w.alloc (.cells #[u0,u1,u2,u3,u4,u5,u6,u7,u8] t)) w.heap.size u0 u1 u2 u3 u4 u5 u6 u7 u8:=⟨by simp,by simp,by simp,by simp,by simp,by simp,by simp,by simp,by simp,fun o=>by simp⟩
theorem aA.below {B:Nat} {w w':World} {b:Nat} {u0 u1 u2 u3 u4 u5 u6 u7 u8:Value} (h:aA w b u0 u1 u2 u3 u4 u5 u6 u7 u8) (hb:Below B w w') (hB:b<B):aA w' b u0 u1 u2 u3 u4 u5 u6 u7 u8 :=
 ⟨(hb.cell (p:=⟨b,0,none⟩) hB).trans h.c0,(hb.cell (p:=⟨b,1,none⟩) hB).trans h.c1,(hb.cell (p:=⟨b,2,none⟩) hB).trans h.c2,(hb.cell (p:=⟨b,3,none⟩) hB).trans h.c3,(hb.cell (p:=⟨b,4,none⟩) hB).trans h.c4,(hb.cell (p:=⟨b,5,none⟩) hB).trans h.c5,(hb.cell (p:=⟨b,6,none⟩) hB).trans h.c6,(hb.cell (p:=⟨b,7,none⟩) hB).trans h.c7,(hb.cell (p:=⟨b,8,none⟩) hB).trans h.c8,fun o=>(World.frozen?_of_block (hb.block b hB)).trans (h.fz o)⟩
theorem aA.keep {w w':World} {b:Nat} {u0 u1 u2 u3 u4 u5 u6 u7 u8:Value} (h:aA w b u0 u1 u2 u3 u4 u5 u6 u7 u8) (hb:Bl w w'):aA w' b u0 u1 u2 u3 u4 u5 u6 u7 u8:=h.below hb h.lt
theorem aA.alloc {w:World} {b:Nat} {u0 u1 u2 u3 u4 u5 u6 u7 u8:Value} (h:aA w b u0 u1 u2 u3 u4 u5 u6 u7 u8) (o:Obj):aA (w.alloc o) b u0 u1 u2 u3 u4 u5 u6 u7 u8:=h.keep bZ
theorem aA.other {w:World} {b:Nat} {u0 u1 u2 u3 u4 u5 u6 u7 u8:Value} (h:aA w b u0 u1 u2 u3 u4 u5 u6 u7 u8) {b' o:Nat} (hp:b'≠b) (x:Value):aA (w.setCell ⟨b',o,none⟩ x) b u0 u1 u2 u3 u4 u5 u6 u7 u8 :=
 ⟨(ac x (fun e=>hp e.1.symm)).trans h.c0,(ac x (fun e=>hp e.1.symm)).trans h.c1,(ac x (fun e=>hp e.1.symm)).trans h.c2,(ac x (fun e=>hp e.1.symm)).trans h.c3,(ac x (fun e=>hp e.1.symm)).trans h.c4,(ac x (fun e=>hp e.1.symm)).trans h.c5,(ac x (fun e=>hp e.1.symm)).trans h.c6,(ac x (fun e=>hp e.1.symm)).trans h.c7,(ac x (fun e=>hp e.1.symm)).trans h.c8,fun o=>by rw [World.frozen?_setCell];exact h.fz o⟩
theorem aA.set0 {w:World} {b:Nat} {u0 u1 u2 u3 u4 u5 u6 u7 u8:Value} (h:aA w b u0 u1 u2 u3 u4 u5 u6 u7 u8) (x:Value):aA (w.setCell ⟨b,0,none⟩ x) b x u1 u2 u3 u4 u5 u6 u7 u8 :=
 ⟨World.cell?_setCell_same' _ _ _ (by rw [h.c0];rfl),(ac x (by simp)).trans h.c1,(ac x (by simp)).trans h.c2,(ac x (by simp)).trans h.c3,(ac x (by simp)).trans h.c4,(ac x (by simp)).trans h.c5,(ac x (by simp)).trans h.c6,(ac x (by simp)).trans h.c7,(ac x (by simp)).trans h.c8,fun o=>by rw [World.frozen?_setCell];exact h.fz o⟩
theorem aA.set1 {w:World} {b:Nat} {u0 u1 u2 u3 u4 u5 u6 u7 u8:Value} (h:aA w b u0 u1 u2 u3 u4 u5 u6 u7 u8) (x:Value):aA (w.setCell ⟨b,1,none⟩ x) b u0 x u2 u3 u4 u5 u6 u7 u8 :=
 ⟨(ac x (by simp)).trans h.c0,World.cell?_setCell_same' _ _ _ (by rw [h.c1];rfl),(ac x (by simp)).trans h.c2,(ac x (by simp)).trans h.c3,(ac x (by simp)).trans h.c4,(ac x (by simp)).trans h.c5,(ac x (by simp)).trans h.c6,(ac x (by simp)).trans h.c7,(ac x (by simp)).trans h.c8,fun o=>by rw [World.frozen?_setCell];exact h.fz o⟩
theorem aA.set2 {w:World} {b:Nat} {u0 u1 u2 u3 u4 u5 u6 u7 u8:Value} (h:aA w b u0 u1 u2 u3 u4 u5 u6 u7 u8) (x:Value):aA (w.setCell ⟨b,2,none⟩ x) b u0 u1 x u3 u4 u5 u6 u7 u8 :=
 ⟨(ac x (by simp)).trans h.c0,(ac x (by simp)).trans h.c1,World.cell?_setCell_same' _ _ _ (by rw [h.c2];rfl),(ac x (by simp)).trans h.c3,(ac x (by simp)).trans h.c4,(ac x (by simp)).trans h.c5,(ac x (by simp)).trans h.c6,(ac x (by simp)).trans h.c7,(ac x (by simp)).trans h.c8,fun o=>by rw [World.frozen?_setCell];exact h.fz o⟩
theorem aA.set3 {w:World} {b:Nat} {u0 u1 u2 u3 u4 u5 u6 u7 u8:Value} (h:aA w b u0 u1 u2 u3 u4 u5 u6 u7 u8) (x:Value):aA (w.setCell ⟨b,3,none⟩ x) b u0 u1 u2 x u4 u5 u6 u7 u8 :=
 ⟨(ac x (by simp)).trans h.c0,(ac x (by simp)).trans h.c1,(ac x (by simp)).trans h.c2,World.cell?_setCell_same' _ _ _ (by rw [h.c3];rfl),(ac x (by simp)).trans h.c4,(ac x (by simp)).trans h.c5,(ac x (by simp)).trans h.c6,(ac x (by simp)).trans h.c7,(ac x (by simp)).trans h.c8,fun o=>by rw [World.frozen?_setCell];exact h.fz o⟩
theorem aA.set4 {w:World} {b:Nat} {u0 u1 u2 u3 u4 u5 u6 u7 u8:Value} (h:aA w b u0 u1 u2 u3 u4 u5 u6 u7 u8) (x:Value):aA (w.setCell ⟨b,4,none⟩ x) b u0 u1 u2 u3 x u5 u6 u7 u8 :=
 ⟨(ac x (by simp)).trans h.c0,(ac x (by simp)).trans h.c1,(ac x (by simp)).trans h.c2,(ac x (by simp)).trans h.c3,World.cell?_setCell_same' _ _ _ (by rw [h.c4];rfl),(ac x (by simp)).trans h.c5,(ac x (by simp)).trans h.c6,(ac x (by simp)).trans h.c7,(ac x (by simp)).trans h.c8,fun o=>by rw [World.frozen?_setCell];exact h.fz o⟩
theorem aA.set5 {w:World} {b:Nat} {u0 u1 u2 u3 u4 u5 u6 u7 u8:Value} (h:aA w b u0 u1 u2 u3 u4 u5 u6 u7 u8) (x:Value):aA (w.setCell ⟨b,5,none⟩ x) b u0 u1 u2 u3 u4 x u6 u7 u8 :=
 ⟨(ac x (by simp)).trans h.c0,(ac x (by simp)).trans h.c1,(ac x (by simp)).trans h.c2,(ac x (by simp)).trans h.c3,(ac x (by simp)).trans h.c4,World.cell?_setCell_same' _ _ _ (by rw [h.c5];rfl),(ac x (by simp)).trans h.c6,(ac x (by simp)).trans h.c7,(ac x (by simp)).trans h.c8,fun o=>by rw [World.frozen?_setCell];exact h.fz o⟩
theorem aA.set6 {w:World} {b:Nat} {u0 u1 u2 u3 u4 u5 u6 u7 u8:Value} (h:aA w b u0 u1 u2 u3 u4 u5 u6 u7 u8) (x:Value):aA (w.setCell ⟨b,6,none⟩ x) b u0 u1 u2 u3 u4 u5 x u7 u8 :=
 ⟨(ac x (by simp)).trans h.c0,(ac x (by simp)).trans h.c1,(ac x (by simp)).trans h.c2,(ac x (by simp)).trans h.c3,(ac x (by simp)).trans h.c4,(ac x (by simp)).trans h.c5,World.cell?_setCell_same' _ _ _ (by rw [h.c6];rfl),(ac x (by simp)).trans h.c7,(ac x (by simp)).trans h.c8,fun o=>by rw [World.frozen?_setCell];exact h.fz o⟩
theorem aA.set7 {w:World} {b:Nat} {u0 u1 u2 u3 u4 u5 u6 u7 u8:Value} (h:aA w b u0 u1 u2 u3 u4 u5 u6 u7 u8) (x:Value):aA (w.setCell ⟨b,7,none⟩ x) b u0 u1 u2 u3 u4 u5 u6 x u8 :=
 ⟨(ac x (by simp)).trans h.c0,(ac x (by simp)).trans h.c1,(ac x (by simp)).trans h.c2,(ac x (by simp)).trans h.c3,(ac x (by simp)).trans h.c4,(ac x (by simp)).trans h.c5,(ac x (by simp)).trans h.c6,World.cell?_setCell_same' _ _ _ (by rw [h.c7];rfl),(ac x (by simp)).trans h.c8,fun o=>by rw [World.frozen?_setCell];exact h.fz o⟩
theorem aA.set8 {w:World} {b:Nat} {u0 u1 u2 u3 u4 u5 u6 u7 u8:Value} (h:aA w b u0 u1 u2 u3 u4 u5 u6 u7 u8) (x:Value):aA (w.setCell ⟨b,8,none⟩ x) b u0 u1 u2 u3 u4 u5 u6 u7 x :=
 ⟨(ac x (by simp)).trans h.c0,(ac x (by simp)).trans h.c1,(ac x (by simp)).trans h.c2,(ac x (by simp)).trans h.c3,(ac x (by simp)).trans h.c4,(ac x (by simp)).trans h.c5,(ac x (by simp)).trans h.c6,(ac x (by simp)).trans h.c7,World.cell?_setCell_same' _ _ _ (by rw [h.c8];rfl),fun o=>by rw [World.frozen?_setCell];exact h.fz o⟩
structure bg (lo:Nat) (w:World) (m:Option Addr) (nm cm:Nat) (v:Option Addr) (nv cv:Nat) (k:Option Addr) (ns cs:Nat) (d:Option Addr) (nd cd:Nat) (M:List ae) (V:List (List aj)) (S:List Int) (U:List (List aj)):Prop where
 tree:aW lo w m nm cm v nv cv k ns cs M V S
 disk:ay lo w d nd cd U
theorem bg.same {lo:Nat} {w w':World} {m:Option Addr} {nm cm:Nat} {v:Option Addr} {nv cv:Nat} {k:Option Addr} {ns cs:Nat} {d:Option Addr} {nd cd:Nat} {M:List ae} {V:List (List aj)} {S:List Int} {U:List (List aj)} (h:bg lo w m nm cm v nv cv k ns cs d nd cd M V S U) (hs:aN lo w w'):bg lo w' m nm cm v nv cv k ns cs d nd cd M V S U:=⟨h.tree.same hs,h.disk.same hs⟩
theorem bg.keep {lo:Nat} {w w':World} {m:Option Addr} {nm cm:Nat} {v:Option Addr} {nv cv:Nat} {k:Option Addr} {ns cs:Nat} {d:Option Addr} {nd cd:Nat} {M:List ae} {V:List (List aj)} {S:List Int} {U:List (List aj)} (h:bg lo w m nm cm v nv cv k ns cs d nd cd M V S U) (hb:Bl w w'):bg lo w' m nm cm v nv cv k ns cs d nd cd M V S U:=h.same (aN.of_below hb)
theorem bg.low {lo:Nat} {w:World} {m:Option Addr} {nm cm:Nat} {v:Option Addr} {nv cv:Nat} {k:Option Addr} {ns cs:Nat} {d:Option Addr} {nd cd:Nat} {M:List ae} {V:List (List aj)} {S:List Int} {U:List (List aj)} (h:bg lo w m nm cm v nv cv k ns cs d nd cd M V S U):bg 0 w m nm cm v nv cv k ns cs d nd cd M V S U:=⟨⟨h.tree.mem.mono (Nat.zero_le _),h.tree.levels.mono (Nat.zero_le _),h.tree.snaps.lower (Nat.zero_le _)⟩,h.disk.mono (Nat.zero_le _)⟩
theorem AU {α:Type} {cs:Array α} (h:cs.size=9):∃c0 c1 c2 c3 c4 c5 c6 c7 c8,cs=#[c0,c1,c2,c3,c4,c5,c6,c7,c8]:=by
 obtain ⟨l⟩:=cs;match l,h with
 | [a,b,c,d,e,f,g,h,i],_=>exact ⟨a,b,c,d,e,f,g,h,i,rfl⟩
theorem Tryz.cellsStoreL:Tryz.prog.cellsOf 30=9:=by kernel_rfl
theorem Tryz.cellsDiskL:Tryz.prog.cellsOf 28=4:=by kernel_rfl
theorem Tryz.cellsBool1:Tryz.prog.cellsOf 4=1:=by kernel_rfl
theorem Tryz.cellsTree4:Tryz.prog.cellsOf 26=4:=by kernel_rfl
theorem Tryz.cellsInt1:Tryz.prog.cellsOf 3=1:=by kernel_rfl
theorem Tryz.cellsStr1:Tryz.prog.cellsOf 9=1:=by kernel_rfl
theorem Tryz.cellsEntsL1:Tryz.prog.cellsOf 22=1:=by kernel_rfl
theorem Tryz.cellsRunsL1:Tryz.prog.cellsOf 23=1:=by kernel_rfl
theorem Tryz.cellsInts1:Tryz.prog.cellsOf 24=1:=by kernel_rfl
theorem jS {H:Type} {enc:TypeId × Value→H} {W:World} {b0 base:Nat} {vv:Value} {dd:DataW H} {p:List MemPlace} {held:Bool}
 (hv:Value.okWide Tryz.prog W .any b0 30 vv) (h:DataW.Trod enc Tryz.prog W base (fun _=>true) held 30 vv dd p) :
 ∃(up:Bool) (q:Int) (m:Option Addr) (nm cm:Nat) (v:Option Addr) (nv cv:Nat) (k:Option Addr) (ns cs:Nat) (lg:ByteArray) (sf:Int) (d:Option Addr) (nd cd:Nat) (sd:Int) (M:List ae) (V:List (List aj)) (S:List Int) (U:List (List aj)),vv=.agg #[.bool up,iT q,.slice m nm cm,.slice v nv cv,.slice k ns cs,.string lg,iT sf,.slice d nd cd,iT sd]∧(lg.size≤maxLen∧bg 0 W m nm cm v nv cv k ns cs d nd cd M V S U):=by
 obtain ⟨cs,rfl,hsz⟩:=okWide_struct Tryz.underlying30 hv;obtain ⟨c0,c1,c2,c3,c4,c5,c6,c7,c8,rfl⟩:=AU (hsz.trans Tryz.cellsStoreL);obtain ⟨fuel,hf⟩:=h;obtain ⟨y0,y1,y2,n,_,_,h0,h1,h2⟩:=Deep.trod_struct3 Tryz.underlying30 hf;simp [Value.cells,Tryz.cellsBool1] at h0;simp [Value.cells,Tryz.cellsTree4] at h1;simp [Value.cells,Tryz.cellsDiskL] at h2;obtain ⟨z0,z1,z2,z3,n',_,_,g0,g1,g2,g3⟩:=trod_struct4 Tryz.underlying26 h1;obtain ⟨x0,x1,x2,x3,n'',_,_,f0,f1,f2,f3⟩:=trod_struct4 Tryz.underlying28 h2;simp [Tryz.cellsInt1] at g0;simp [Tryz.cellsEntsL1] at g1;simp [Tryz.cellsRunsL1] at g2;simp [Tryz.cellsInts1] at g3;simp [Tryz.cellsStr1] at f0;simp [Tryz.cellsInt1] at f1;simp [Tryz.cellsRunsL1] at f2;simp [Tryz.cellsInt1] at f3;obtain ⟨up,e0,_⟩:=DataW.trod_bool Tryz.underlying4 h0;obtain ⟨q,e1,_,_⟩:=DataW.trod_int Tryz.underlying3 g0;obtain ⟨m,nm,cm,M,rfl,hM⟩:=oS g1;obtain ⟨v,nv,cv,V,rfl,hV⟩:=lO g2;obtain ⟨k,ns,cs,S,rfl,hS⟩:=uY g3;obtain ⟨lg,e5,_,wl⟩:=DataW.trod_string Tryz.underlying9 f0;obtain ⟨sf,e6,_,_⟩:=DataW.trod_int Tryz.underlying3 f1;obtain ⟨d,nd,cd,U,rfl,hU⟩:=lO f2;obtain ⟨sd,e8,_,_⟩:=DataW.trod_int Tryz.underlying3 f3;simp at e0 e1 e5 e6 e8;subst e0 e1 e5 e6 e8;exact ⟨up,q,m,nm,cm,v,nv,cv,k,ns,cs,lg,sf,d,nd,cd,sd,M,V,S,U,rfl,wl,⟨⟨hM,fun _ _ _=>Nat.zero_le _⟩,hV,hS⟩,hU⟩
end Go.Proofs.YtgpcinihgofmfaaGreatDoor
