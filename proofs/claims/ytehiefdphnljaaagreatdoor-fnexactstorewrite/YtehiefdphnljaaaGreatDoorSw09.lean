/- Walks. -/
import Derived.Test.YtehiefdphnljaaaGreatDoorSw08
import Derived.Test.YtehiefdphnljaaaGreatDoorSw07
namespace Go.Proofs.YtehiefdphnljaaaGreatDoor
set_option maxRecDepth 100000
set_option maxHeartbeats 40000000
open Go.ChangeShapes Go.Joins Go.RowKit Go.WideShapes
variable {M:List ae} {S:List Int} {U V:List (List aq)} {ak am av d m v:Option Addr} {b cd cm cs cv hi lo nd nm ns nv:Nat} {bs gs:Nat→Nat} {es:Nat→Nat→Nat} {p:aq} {u0 u1 u2 u3 u4 u5 u6 u7 u8:Value} {w w':World}
def sM (B:List aq):Nat:=(B.map fun p=>p.1.length).sum
def l9 (V:List (List aq)):Nat:=(V.map fun B=>sM B+B.length).sum
def xC (B:List aq):Prop:=∀p ∈ B,∀e ∈ p.1,xB e
theorem xR {B:List aq} {k:Nat} (h:B[k]?=some p):sM (B.take (k+1))=sM (B.take k)+p.1.length:=by
 rw [List.take_add_one,h];simp [sM]
theorem xQ {k:Nat} {B:List aq} (h:V[k]?=some B):l9 (V.take (k+1))=l9 (V.take k)+(sM B+B.length):=by
 rw [List.take_add_one,h];simp [l9]
theorem jz {α:Type} {L:List α} {k:Nat} {x y:α} (h:L[k]?=some x) (hy:y ∈ L.take (k+1)):y ∈ L.take k∨y=x:=by
 rw [List.take_add_one,h] at hy;simpa using hy
theorem Bc (B:List aq):ew B=5*sM B+B.length:=by
 induction B with
 | nil=>rfl
 | cons p B ih =>
  simp only [ew,sM,List.map_cons,List.sum_cons,List.length_cons] at ih ⊢;omega
theorem lj (V:List (List aq)):cZ V≤5*l9 V:=by
 induction V with
 | nil=>simp [cZ,l9]
 | cons B V ih =>
  have h:=Bc B;simp only [cZ,l9,List.map_cons,List.sum_cons] at ih ⊢;omega
theorem uo {B:List aq} (h:p ∈ B):p.1.length≤sM B:=by
 induction B with
 | nil=>cases h
 | cons x B ih =>
  simp only [sM,List.map_cons,List.sum_cons] at ih ⊢;rcases List.mem_cons.1 h with rfl | h
  · omega
  · have:=ih h;omega
theorem pD {B:List aq} (h:B ∈ V):sM B+B.length≤l9 V:=by
 induction V with
 | nil=>cases h
 | cons x V ih =>
  simp only [l9,List.map_cons,List.sum_cons] at ih ⊢;rcases List.mem_cons.1 h with rfl | h
  · omega
  · have:=ih h;omega
theorem uZ (m:Int) (a:Option Addr) (len cap:Nat) (L:List ae) (left:Int) (w:World) (hL:an w a len cap L) (h0:0≤left) (h1:left≤1048576) :
 Calls Tryz.prog 101 #[.agg #[.slice a len cap,iT m],iT left] w fun e w'=>∃r:Int,e=.returned (iT r)∧(r=-1∨(0≤r∧r+L.length≤left∧∀e ∈ L,xB e))∧Bl w w':=by
 have hL1:an (w.alloc (.cells #[.slice a len cap,iT m] 142)) a len cap L:=hL.keep bZ;go_enter Tryz.func101,Tryz.ntmps101
 go_wp2_with (go_at_call 5;refine (jF _ _ _ _ _ _ hL1 h0 h1).mono ?_;rintro e w1 ⟨r,rfl,hr,hb1⟩)
 · go_ret;exact ⟨-1,rfl,Or.inl rfl,bZ.trans (hb1.mono (by simp))⟩
 · go_ret;exact ⟨r,rfl,hr,bZ.trans (hb1.mono (by simp))⟩
theorem sK (lo:Nat) (a:Option Addr) (len cap:Nat) (B:List aq) (left:Int) (w:World) (hP:aF lo w a len cap B) (h0:0≤left) (h1:left≤1048576) :
 Calls Tryz.prog 62 #[.slice a len cap,iT left] w fun e w'=>∃r:Int,e=.returned (iT r)∧(r=-1∨(0≤r∧r+(sM B+B.length:Nat)≤left∧xC B))∧Bl w w':=by
 have hbl:=hP.room;have hbc:=hP.big;unfold maxLen at hbc;have HL:=ar hP;have HLEN:Hid (B.length=len):=hP.length;clear hP;by_cases hb:left<len
 · go_enter Tryz.func62,Tryz.ntmps62
   go_wp2;go_ret;exact ⟨-1,rfl,Or.inl rfl,Below.refl _ _⟩
 · go_enter Tryz.func62,Tryz.ntmps62
   go_wp2;go_loopw [1,5] (fun l i wr=>∃(k:Nat) (r:Int),k≤len∧i=iT k∧l=iT r∧0≤r∧r≤left∧r+sM (B.take k)+len≤left∧Bl w wr∧∀p ∈ B.take k,∀e ∈ p.1,xB e) (fun _ i _=>len - (intOf i).toNat)
   case atStart=>exact ⟨0,left - len,Nat.zero_le _,rfl,rfl,by omega,by omega,by simp [sM],Below.refl _ _,fun p hp=>by simp at hp⟩
   case round =>
    obtain ⟨k,r,hk,rfl,rfl,hr0,hr1,hrs,hbw,hall⟩:=hrel;have HALL:Hid (∀p ∈ B.take k,∀e ∈ p.1,xB e):=hall;have HRS:Hid (r+sM (B.take k)+len≤left):=hrs;clear hall hrs;by_cases hlt:k<len
    · obtain ⟨b,off,rfl,hbb⟩:=HL.out.form (by omega);obtain ⟨L,m,s,n,c,hg,_,g0,g1,hLk⟩:=HL.out.run hbw k hlt;have HG:Hid (B[k]?=some (L,m)):=hg;have hbk:b<wr.heap.size:=Nat.lt_of_lt_of_le hbb hbw.size;clear hg;go_wp2_with (go_at_call 101;refine (uZ _ _ _ _ L _ _ hLk.1 hr0 (by omega)).mono ?_;rintro e w1 ⟨r',rfl,hr',hb1⟩;rcases hr' with rfl | ⟨hr0',hr1',hln⟩)
      · go_ret;exact ⟨-1,rfl,Or.inl rfl,hbw.trans (hb1.mono hbw.size)⟩
      · have HR1:Hid (r'+L.length≤r):=hr1';have hrl:r'≤left:=by omega
        have HLN:Hid (∀e ∈ L,xB e):=hln;clear hr1' hln;go_wp2;go_roundw
        case rel =>
         refine ⟨k+1,r',by omega,by go_num,rfl,hr0',hrl,?_,hbw.trans (hb1.mono hbw.size),fun p hp=>?_⟩
         · have h1:=HR1.out;have h2:=HRS.out;have h3:=xR HG.out;simp only at h3;omega
         · rcases jz HG.out hp with h1 | rfl
           · exact HALL.out p h1
           · exact HLN.out
        case measure=>simp [intOf];omega
    · go_wp2;go_ret;have hkl:B.take k=B:=List.take_of_length_le (by have:=HLEN.out;omega);have h2:=HRS.out;have h3:=HALL.out;have h4:=HLEN.out;rw [hkl] at h2 h3;exact ⟨r,rfl,Or.inr ⟨hr0,by omega,h3⟩,hbw⟩
theorem lH (lo:Nat) (a:Option Addr) (len cap:Nat) (V:List (List aq)) (left:Int) (w:World) (hP:au lo w a len cap V) (h0:0≤left) (h1:left≤1048576) :
 Calls Tryz.prog 34 #[.slice a len cap,iT left] w fun e w'=>∃r:Int,e=.returned (iT r)∧(r=-1∨(0≤r∧r+(l9 V+V.length:Nat)≤left∧∀B ∈ V,xC B))∧Bl w w':=by
 have hbl:=hP.room;have hbc:=hP.big;unfold maxLen at hbc;have HL:=ar hP;have HLEN:Hid (V.length=len):=hP.length;clear hP;by_cases hb:left<len
 · go_enter Tryz.func34,Tryz.ntmps34
   go_wp2;go_ret;exact ⟨-1,rfl,Or.inl rfl,Below.refl _ _⟩
 · go_enter Tryz.func34,Tryz.ntmps34
   go_wp2;go_loopw [1,5] (fun l i wr=>∃(k:Nat) (r:Int),k≤len∧i=iT k∧l=iT r∧0≤r∧r≤left∧r+l9 (V.take k)+len≤left∧Bl w wr∧∀p ∈ V.take k,xC p) (fun _ i _=>len - (intOf i).toNat)
   case atStart=>exact ⟨0,left - len,Nat.zero_le _,rfl,rfl,by omega,by omega,by simp [l9],Below.refl _ _,fun p hp=>by simp at hp⟩
   case round =>
    obtain ⟨k,r,hk,rfl,rfl,hr0,hr1,hrs,hbw,hall⟩:=hrel;have HALL:Hid (∀p ∈ V.take k,xC p):=hall;have HRS:Hid (r+l9 (V.take k)+len≤left):=hrs;clear hall hrs;by_cases hlt:k<len
    · obtain ⟨b,off,rfl,hbb⟩:=HL.out.form (by omega);obtain ⟨B,s,n,c,hg,g0,hLk⟩:=HL.out.level hbw k hlt;have HG:Hid (V[k]?=some B):=hg;have hbk:b<wr.heap.size:=Nat.lt_of_lt_of_le hbb hbw.size;clear hg;go_wp2_with (go_at_call 62;refine (sK lo _ _ _ B _ _ hLk hr0 (by omega)).mono ?_;rintro e w1 ⟨r',rfl,hr',hb1⟩;rcases hr' with rfl | ⟨hr0',hr1',hln⟩)
      · go_ret;exact ⟨-1,rfl,Or.inl rfl,hbw.trans (hb1.mono hbw.size)⟩
      · have HR1:Hid (r'+(sM B+B.length:Nat)≤r):=hr1';have hrl:r'≤left:=by omega
        have HLN:Hid (xC B):=hln;clear hr1' hln;go_wp2;go_roundw
        case rel =>
         refine ⟨k+1,r',by omega,by go_num,rfl,hr0',hrl,?_,hbw.trans (hb1.mono hbw.size),fun p hp=>?_⟩
         · have h1:=HR1.out;have h2:=HRS.out;have h3:=xQ HG.out;omega
         · rcases jz HG.out hp with h1 | rfl
           · exact HALL.out p h1
           · exact HLN.out
        case measure=>simp [intOf];omega
    · go_wp2;go_ret;have hkl:V.take k=V:=List.take_of_length_le (by have:=HLEN.out;omega);have h2:=HRS.out;have h3:=HALL.out;have h4:=HLEN.out;rw [hkl] at h2 h3;exact ⟨r,rfl,Or.inr ⟨hr0,by omega,h3⟩,hbw⟩
theorem sJ (q:Int) (lo:Nat) (am av ak:Option Addr) (nm cm nv cv ns cs:Nat) (M:List ae) (V:List (List aq)) (S:List Int) (left:Int) (w:World) (h:aX lo w am nm cm av nv cv ak ns cs M V S) (h0:0≤left) (h1:left≤1048576) :
 Calls Tryz.prog 15 #[.agg #[iT q,.slice am nm cm,.slice av nv cv,.slice ak ns cs],iT left] w fun e w'=>∃r:Int,e=.returned (iT r)∧(r=-1∨(0≤r∧r+(M.length+(l9 V+V.length)+S.length:Nat)≤left∧(∀e ∈ M,xB e)∧∀B ∈ V,xC B))∧Bl w w':=by
 obtain ⟨W,hW⟩:=aw (w.alloc (.cells #[iT q,.slice am nm cm,.slice av nv cv,.slice ak ns cs] 26));have hB:Bl w W:=by rw [hW];exact bZ
 have x2:W.cell? ⟨w.heap.size,2,none⟩=some (.slice av nv cv):=by rw [hW];simp
 have x3:W.cell? ⟨w.heap.size,3,none⟩=some (.slice ak ns cs):=by rw [hW];simp
 have H1:Hid (aX lo W am nm cm av nv cv ak ns cs M V S):=h.keep hB;have HB:Hid (Bl w W):=hB;clear h hB;go_enter Tryz.func15,Tryz.ntmps15
 go_wp2_with fail
 rw [← hW];clear hW;refine (jF _ _ _ M _ _ H1.out.mem.1 h0 h1).mono ?_;rintro e w1 ⟨r1,rfl,hr1,hb1⟩;have x2:=cell_later hb1 x2;have x3:=cell_later hb1 x3;have z1:=World.block_lt_of_cell? _ _ x2;simp only at z1;have K1:Hid (Bl W w1):=hb1;clear hb1;rcases hr1 with rfl | ⟨a1,b1,c1⟩
 · go_wp2;go_ret;exact ⟨-1,rfl,Or.inl rfl,HB.out.trans (K1.out.mono HB.out.size)⟩
 have B1:Hid (r1+M.length≤left):=b1;have C1:Hid (∀e ∈ M,xB e):=c1;have d1:r1≤left:=by omega
 clear b1 c1;go_wp2_with fail
 refine (lH lo _ _ _ V _ _ (H1.out.keep K1.out).levels a1 (by omega)).mono ?_;rintro e w2 ⟨r2,rfl,hr2,hb2⟩;have x3:=cell_later hb2 x3;have z1:=World.block_lt_of_cell? _ _ x3;simp only at z1;have K2:Hid (Bl W w2):=K1.out.trans (hb2.mono K1.out.size);clear hb2 K1;rcases hr2 with rfl | ⟨a2,b2,c2⟩
 · go_wp2;go_ret;exact ⟨-1,rfl,Or.inl rfl,HB.out.trans (K2.out.mono HB.out.size)⟩
 have B2:Hid (r2+(l9 V+V.length:Nat)≤r1):=b2;have C2:Hid (∀B ∈ V,xC B):=c2;have d2:r2≤r1:=by omega
 clear b2 c2;have hsr:=(H1.out.keep K2.out).snaps.room;have hsb:=(H1.out.keep K2.out).snaps.big;have HSL:Hid (S.length=ns):=H1.out.snaps.length;unfold maxLen at hsb;have CI:Hid (∀w',Calls Tryz.prog 35 #[.slice ak ns cs,iT r2] w' fun e w''=>∃r:Int,e=.returned (iT r)∧(r=-1∨(0≤r∧r+ns≤r2))∧Bl w' w''):=by
  intro w';by_cases hb:r2<ns
  · go_enter Tryz.func35,Tryz.ntmps35
    go_wp2;go_ret;exact ⟨-1,rfl,Or.inl rfl,Below.refl _ _⟩
  · go_enter Tryz.func35,Tryz.ntmps35
    go_wp2;go_ret;exact ⟨r2 - ns,rfl,Or.inr ⟨by omega,by omega⟩,Below.refl _ _⟩
 clear hsr hsb;go_wp2_with fail
 refine (CI.out _).mono ?_;rintro e w3 ⟨r3,rfl,hr3,hb3⟩;have K3:Hid (Bl W w3):=K2.out.trans (hb3.mono K2.out.size);clear hb3 K2;rcases hr3 with rfl | ⟨a3,b3⟩
 · go_wp2;go_ret;exact ⟨-1,rfl,Or.inl rfl,HB.out.trans (K3.out.mono HB.out.size)⟩
 · go_wp2;go_ret;have q1:=B1.out;have q2:=B2.out;have q3:=HSL.out;exact ⟨r3,rfl,Or.inr ⟨a3,by omega,C1.out,C2.out⟩,HB.out.trans (K3.out.mono HB.out.size)⟩
theorem jZ (h:M.length+(l9 V+V.length)+S.length≤1048576):ul M V S :=
 ⟨by omega,⟨by omega,fun B hB=>⟨by have:=pD hB;omega,fun p hp=>by have h1:=uo hp;have h2:=pD hB;omega⟩⟩,by omega⟩
theorem aI.of_mark (h:aQ lo hi w w'):aI lo hi w w':=⟨h.os,h.tape,h.output,h.size,h.far⟩
theorem bQ.levelsIn {G n:Nat} (h:bQ lo hi w G n V gs bs es):au lo w (pT G) n n V:=by
 obtain ⟨xs,r1,r2⟩:=h.row;have hrc:=dI r1;have hl:=h.len;refine ⟨h.len,hrc.1,hrc.2,(fun e=>by cases e),?_,?_⟩
 · rintro x e _;cases e;exact ⟨(r1.lt G rfl).2,rfl,(r1.lt G rfl).1⟩
 · rintro x e i hi;cases e;have hp:=List.getElem?_eq_getElem hi;have u:=h.up 0 i (by omega) (by omega);refine ⟨_,_,_,?_,(h.levs i _ hp).runsIn.mono (by have:=h.bot.1;omega)⟩;simp only [Nat.zero_add];exact (r1.cellAt _ (by omega)).trans (r2 i _ hp)
theorem dG.treeIn {b1 b2 b3:Nat} (h:dG lo hi w b1 nm b2 nv b3 ns M V S gs bs es) (hw:∀z ∈ S,(Lit.int .i64 z).wf=true):aX 0 w (pT b1) nm nm (pT b2) nv nv (pT b3) ns ns M V S:=by
 have hrc:=dI h.sn.2;have hl:=h.sn.1;refine ⟨⟨h.mem.entsAt,fun x e _=>Nat.zero_le _⟩,h.levs.levelsIn.mono (Nat.zero_le _),⟨hl,hrc.1,hrc.2,hw,(fun e=>by cases e),?_,?_⟩⟩
 · rintro x e _;cases e;exact ⟨(h.sn.2.lt b3 rfl).2,rfl,Nat.zero_le _⟩
 · rintro x e i hi;cases e;simp only [Nat.zero_add];have h1:=h.sn.2.cellAt i (by omega);rw [List.getElem?_map,List.getElem?_eq_getElem hi] at h1;exact h1
def iZ (lo hi:Nat) (w:World) (am:Option Addr) (nm:Nat) (av:Option Addr) (nv:Nat) (ak:Option Addr) (ns:Nat) (M:List ae) (V:List (List aq)) (S:List Int) (gs bs:Nat→Nat) (es:Nat→Nat→Nat):Prop :=
 (∃b1 b2 b3,am=some ⟨b1,0,none⟩∧av=some ⟨b2,0,none⟩∧ak=some ⟨b3,0,none⟩∧dG lo hi w b1 nm b2 nv b3 ns M V S gs bs es)∨(am=none∧av=none∧ak=none∧nm=0∧nv=0∧ns=0∧M=[]∧V=[]∧S=[])
theorem iZ.below (h:iZ lo hi w am nm av nv ak ns M V S gs bs es) (hb:Bl w w'):iZ lo hi w' am nm av nv ak ns M V S gs bs es:=by
 rcases h with ⟨b1,b2,b3,h1,h2,h3,h4⟩ | h
 · exact .inl ⟨b1,b2,b3,h1,h2,h3,h4.below hb⟩
 · exact .inr h
theorem iZ.keepO {lo' hi':Nat} (h:iZ lo hi w am nm av nv ak ns M V S gs bs es) (k:aI lo' hi' w w') (hd:hi'≤lo):iZ lo hi w' am nm av nv ak ns M V S gs bs es:=by
 rcases h with ⟨b1,b2,b3,h1,h2,h3,h4⟩ | h
 · exact .inl ⟨b1,b2,b3,h1,h2,h3,h4.keepO k hd⟩
 · exact .inr h
theorem sH (lo:Nat) (w:World):aX lo w none 0 0 none 0 0 none 0 0 [] [] [] :=
 ⟨⟨⟨rfl,Nat.le_refl _,Nat.zero_le _,(fun e he=>by cases he),fun _=>rfl,(fun x e=>by cases e),(fun x e=>by cases e)⟩,fun x e=>by cases e⟩,⟨rfl,Nat.le_refl _,Nat.zero_le _,fun _=>rfl,(fun x e=>by cases e),(fun x e=>by cases e)⟩,⟨rfl,Nat.le_refl _,Nat.zero_le _,(fun z hz=>by cases hz),fun _=>rfl,(fun x e=>by cases e),(fun x e=>by cases e)⟩⟩
theorem iZ.treeIn (h:iZ lo hi w am nm av nv ak ns M V S gs bs es) (hw:∀z ∈ S,(Lit.int .i64 z).wf=true):aX 0 w am nm nm av nv nv ak ns ns M V S:=by
 rcases h with ⟨b1,b2,b3,rfl,rfl,rfl,h4⟩ | ⟨rfl,rfl,rfl,rfl,rfl,rfl,rfl,rfl,rfl⟩
 · exact h4.treeIn hw
 · exact sH 0 w
theorem iZ.lens (h:iZ lo hi w am nm av nv ak ns M V S gs bs es):M.length=nm∧V.length=nv∧S.length=ns:=by
 rcases h with ⟨b1,b2,b3,rfl,rfl,rfl,h4⟩ | ⟨rfl,rfl,rfl,rfl,rfl,rfl,rfl,rfl,rfl⟩
 · exact ⟨h4.mem.len,h4.levs.len,h4.sn.1⟩
 · exact ⟨rfl,rfl,rfl⟩
theorem ky (k:Nat) (w:World) :
 Calls Tryz.prog 57 #[nZ,iT k] w fun e w'=>e=.returned (iT (k:Int))∧w'=w:=by
 go_enter Tryz.func57,Tryz.ntmps57
 go_wp2;go_loopw [1,5] (fun kv i wr=>kv=iT (k:Int)∧i=iT 0∧wr=w) (fun _ i _=>0)
 case atStart=>exact ⟨rfl,rfl,rfl⟩
 case round =>
  obtain ⟨rfl,rfl,rfl⟩:=hrel;go_wp2;go_ret;exact ⟨rfl,rfl⟩
theorem kE (k:Nat) (w:World) :
 Calls Tryz.prog 60 #[nZ,iT k] w fun e w'=>e=.returned (iT (k:Int))∧w'=w:=by
 go_enter Tryz.func60,Tryz.ntmps60
 go_wp2;go_loopw [1,5] (fun kv i wr=>kv=iT (k:Int)∧i=iT 0∧wr=w) (fun _ i _=>0)
 case atStart=>exact ⟨rfl,rfl,rfl⟩
 case round =>
  obtain ⟨rfl,rfl,rfl⟩:=hrel;go_wp2;go_ret;exact ⟨rfl,rfl⟩
theorem pR (k:Nat) (w:World) :
 Calls Tryz.prog 58 #[nZ,iT k] w fun e w'=>e=.returned (iT (k:Int))∧w'=w:=by
 go_enter Tryz.func58,Tryz.ntmps58
 go_wp2;go_loopw [1,5] (fun kv i wr=>kv=iT (k:Int)∧i=iT 0∧wr=w) (fun _ i _=>0)
 case atStart=>exact ⟨rfl,rfl,rfl⟩
 case round =>
  obtain ⟨rfl,rfl,rfl⟩:=hrel;go_wp2;go_ret;exact ⟨rfl,rfl⟩
theorem qh (k:Nat) (w:World) :
 Calls Tryz.prog 61 #[nZ,iT k] w fun e w'=>e=.returned (iT (k:Int))∧w'=w:=by
 go_enter Tryz.func61,Tryz.ntmps61
 go_wp2;go_loopw [1,5] (fun kv i wr=>kv=iT (k:Int)∧i=iT 0∧wr=w) (fun _ i _=>0)
 case atStart=>exact ⟨rfl,rfl,rfl⟩
 case round =>
  obtain ⟨rfl,rfl,rfl⟩:=hrel;go_wp2;go_ret;exact ⟨rfl,rfl⟩
theorem pP (q:Int) (k:Nat) (w:World) :
 Calls Tryz.prog 29 #[.agg #[iT q,nZ,nZ,nZ],iT k] w fun e w'=>e=.returned (iT (k:Int))∧Bl w w':=by
 obtain ⟨Y,hY⟩:=aw w.heap.size;obtain ⟨W,hW⟩:=aw (w.alloc (.cells #[iT q,nZ,nZ,nZ] 36));have kW:Bl w W:=by rw [hW];exact bZ
 have x2:W.cell? ⟨Y,2,none⟩=some nZ:=by rw [hW,hY];simp
 have x3:W.cell? ⟨Y,3,none⟩=some nZ:=by rw [hW,hY];simp
 have K0:Hid (Bl w W):=kW;have z1:=World.block_lt_of_cell? _ _ x2;simp only at z1;clear kW;go_enter Tryz.func29,Tryz.ntmps29
 go_wp2_with fail
 rw [← hW];try rw [← hY]
 clear hW hY;refine (vC k W).mono ?_;rintro e w1 ⟨rfl,rfl⟩;go_wp2_with fail
 refine (ky k _).mono ?_;rintro e w1 ⟨rfl,rfl⟩;go_wp2_with fail
 refine (pR k _).mono ?_;rintro e w1 ⟨rfl,rfl⟩;go_wp2;go_ret;exact ⟨rfl,K0.out⟩
theorem qg (q:Int) (k:Nat) (w:World) :
 Calls Tryz.prog 32 #[.agg #[iT q,nZ,nZ,nZ],iT k] w fun e w'=>e=.returned (iT (k:Int))∧Bl w w':=by
 obtain ⟨Y,hY⟩:=aw w.heap.size;obtain ⟨W,hW⟩:=aw (w.alloc (.cells #[iT q,nZ,nZ,nZ] 36));have kW:Bl w W:=by rw [hW];exact bZ
 have x2:W.cell? ⟨Y,2,none⟩=some nZ:=by rw [hW,hY];simp
 have x3:W.cell? ⟨Y,3,none⟩=some nZ:=by rw [hW,hY];simp
 have K0:Hid (Bl w W):=kW;have z1:=World.block_lt_of_cell? _ _ x2;simp only at z1;have hk:¬(k:Int)<0:=by omega
 clear kW;go_enter Tryz.func32,Tryz.ntmps32
 go_wp2_with fail
 rw [← hW];try rw [← hY]
 clear hW hY;refine (vZ k W).mono ?_;rintro e w1 ⟨rfl,rfl⟩;go_wp2_with fail
 refine (kE k _).mono ?_;rintro e w1 ⟨rfl,rfl⟩;go_wp2_with fail
 refine (qh k _).mono ?_;rintro e w1 ⟨rfl,rfl⟩;go_wp2;go_ret;exact ⟨rfl,K0.out⟩
def Br (M:List ae) (V:List (List aq)) (S:List Int):Prop:=M.length≤1048576∧V.length≤1048576∧(∀B ∈ V,B.length≤1048576∧∀p ∈ B,p.1.length≤1048576)∧S.length≤1048576∧1+5*M.length+cZ V+S.length≤1000000000
theorem AC (q:Int) (lo hi nm nv ns:Nat) (am av ak:Option Addr) (M:List ae) (V:List (List aq)) (S:List Int) (gs bs:Nat→Nat) (es:Nat→Nat→Nat) (w:World) (hT:iZ lo hi w am nm av nv ak ns M V S gs bs es) (hhi:hi≤w.heap.size) (hf:Br M V S) :
 Calls Tryz.prog 29 #[.agg #[iT q,.slice am nm nm,.slice av nv nv,.slice ak ns ns],iT 1] w fun e w'=>e=.returned (iT ((1+5*nm+cZ V+ns:Nat):Int))∧iZ lo hi w' am nm av nv ak ns (dc 1 nm) (eu (1+5*nm) V) (gY (1+5*nm+cZ V) ns) gs bs es∧aI lo hi w w':=by
 have hl:=hT.lens;rcases hT with ⟨b1,b2,b3,rfl,rfl,rfl,h4⟩ | ⟨rfl,rfl,rfl,rfl,rfl,rfl,rfl,rfl,rfl⟩
 · obtain ⟨f1,f2,f3,f4,f5⟩:=hf;refine (tC q lo hi b1 nm b2 nv b3 ns 1 M V S gs bs es w h4 hhi (by omega) (by omega) f3 (by omega) (by omega) (by omega)).mono ?_;rintro e w' ⟨rfl,h1,h2⟩;exact ⟨rfl,.inl ⟨b1,b2,b3,rfl,rfl,rfl,h1⟩,h2⟩
 · refine (pP q 1 w).mono ?_;rintro e w' ⟨rfl,h1⟩;exact ⟨by simp [cZ],.inr ⟨rfl,rfl,rfl,rfl,rfl,rfl,by simp [dc],by simp [eu],by simp [gY]⟩,aI.of_below h1⟩
theorem AF (q:Int) (lo hi nm nv ns:Nat) (am av ak:Option Addr) (V:List (List aq)) (gs bs:Nat→Nat) (es:Nat→Nat→Nat) (w:World) (hT:iZ lo hi w am nm av nv ak ns (dc 1 nm) (eu (1+5*nm) V) (gY (1+5*nm+cZ V) ns) gs bs es) (M:List ae) (S:List Int) (hm:M.length=nm) (hs:S.length=ns) (hf:Br M V S) :
 Calls Tryz.prog 32 #[.agg #[iT q,.slice am nm nm,.slice av nv nv,.slice ak ns ns],iT 1] w fun e w'=>e=.returned (iT ((1+5*nm+cZ V+ns:Nat):Int))∧Bl w w':=by
 have hl:=hT.lens;rcases hT with ⟨b1,b2,b3,rfl,rfl,rfl,h4⟩ | ⟨rfl,rfl,rfl,rfl,rfl,rfl,h5,h6,h7⟩
 · obtain ⟨f1,f2,f3,f4,f5⟩:=hf;have hv:=hl.2.1;rw [fO] at hv;exact tP q lo hi b1 nm b2 nv b3 ns 1 V gs bs es w h4 (by omega) (by omega) f3 (by omega) (by omega) (by omega)
 · have hv:V=[]:=by
    have h8:=congrArg List.length h6;rw [fO] at h8;exact List.length_eq_zero_iff.1 h8
   subst hv;refine (qg q 1 w).mono ?_;rintro e w' ⟨rfl,h1⟩;exact ⟨by simp [cZ],h1⟩
structure aC (w:World) (b:Nat) (u0 u1 u2 u3 u4 u5 u6 u7 u8:Value):Prop where
 c0:w.cell? ⟨b,0,none⟩=some u0
 c1:w.cell? ⟨b,1,none⟩=some u1
 c2:w.cell? ⟨b,2,none⟩=some u2
 c3:w.cell? ⟨b,3,none⟩=some u3
 c4:w.cell? ⟨b,4,none⟩=some u4
 c5:w.cell? ⟨b,5,none⟩=some u5
 c6:w.cell? ⟨b,6,none⟩=some u6
 c7:w.cell? ⟨b,7,none⟩=some u7
 c8:w.cell? ⟨b,8,none⟩=some u8
 fz:∀o,w.frozen? ⟨b,o,none⟩=false
theorem aC.lt (h:aC w b u0 u1 u2 u3 u4 u5 u6 u7 u8):b<w.heap.size:=World.block_lt_of_cell? w _ h.c0
theorem aC.all(h:aC w b u0 u1 u2 u3 u4 u5 u6 u7 u8):w.cell? ⟨b,0,none⟩=some u0∧w.cell? ⟨b,1,none⟩=some u1∧w.cell? ⟨b,2,none⟩=some u2∧w.cell? ⟨b,3,none⟩=some u3∧w.cell? ⟨b,4,none⟩=some u4∧w.cell? ⟨b,5,none⟩=some u5∧w.cell? ⟨b,6,none⟩=some u6∧w.cell? ⟨b,7,none⟩=some u7∧w.cell? ⟨b,8,none⟩=some u8∧(∀o,w.frozen? ⟨b,o,none⟩=false)∧b<w.heap.size:=⟨h.c0,h.c1,h.c2,h.c3,h.c4,h.c5,h.c6,h.c7,h.c8,h.fz,h.lt⟩
theorem aC.new (w:World) (t:TypeId) (u0 u1 u2 u3 u4 u5 u6 u7 u8:Value):aC (w.alloc (.cells #[u0,u1,u2,u3,u4,u5,u6,u7,u8] t)) w.heap.size u0 u1 u2 u3 u4 u5 u6 u7 u8:=⟨by simp,by simp,by simp,by simp,by simp,by simp,by simp,by simp,by simp,fun o=>by simp⟩
theorem aC.below {B:Nat} (h:aC w b u0 u1 u2 u3 u4 u5 u6 u7 u8) (hb:Below B w w') (hB:b<B):aC w' b u0 u1 u2 u3 u4 u5 u6 u7 u8 :=
 ⟨(hb.cell (p:=⟨b,0,none⟩) hB).trans h.c0,(hb.cell (p:=⟨b,1,none⟩) hB).trans h.c1,(hb.cell (p:=⟨b,2,none⟩) hB).trans h.c2,(hb.cell (p:=⟨b,3,none⟩) hB).trans h.c3,(hb.cell (p:=⟨b,4,none⟩) hB).trans h.c4,(hb.cell (p:=⟨b,5,none⟩) hB).trans h.c5,(hb.cell (p:=⟨b,6,none⟩) hB).trans h.c6,(hb.cell (p:=⟨b,7,none⟩) hB).trans h.c7,(hb.cell (p:=⟨b,8,none⟩) hB).trans h.c8,fun o=>(World.frozen?_of_block (hb.block b hB)).trans (h.fz o)⟩
theorem aC.keep (h:aC w b u0 u1 u2 u3 u4 u5 u6 u7 u8) (hb:Bl w w'):aC w' b u0 u1 u2 u3 u4 u5 u6 u7 u8:=h.below hb h.lt
theorem aC.alloc (h:aC w b u0 u1 u2 u3 u4 u5 u6 u7 u8) (o:Obj):aC (w.alloc o) b u0 u1 u2 u3 u4 u5 u6 u7 u8:=h.keep bZ
theorem aC.other (h:aC w b u0 u1 u2 u3 u4 u5 u6 u7 u8) {b' o:Nat} (hp:b'≠b) (x:Value):aC (w.setCell ⟨b',o,none⟩ x) b u0 u1 u2 u3 u4 u5 u6 u7 u8 :=
 ⟨(ac x (fun e=>hp e.1.symm)).trans h.c0,(ac x (fun e=>hp e.1.symm)).trans h.c1,(ac x (fun e=>hp e.1.symm)).trans h.c2,(ac x (fun e=>hp e.1.symm)).trans h.c3,(ac x (fun e=>hp e.1.symm)).trans h.c4,(ac x (fun e=>hp e.1.symm)).trans h.c5,(ac x (fun e=>hp e.1.symm)).trans h.c6,(ac x (fun e=>hp e.1.symm)).trans h.c7,(ac x (fun e=>hp e.1.symm)).trans h.c8,fun o=>by rw [World.frozen?_setCell];exact h.fz o⟩
theorem aC.set0 (h:aC w b u0 u1 u2 u3 u4 u5 u6 u7 u8) (x:Value):aC (w.setCell ⟨b,0,none⟩ x) b x u1 u2 u3 u4 u5 u6 u7 u8 :=
 ⟨World.cell?_setCell_same' _ _ _ (by rw [h.c0];rfl),(ac x (by simp)).trans h.c1,(ac x (by simp)).trans h.c2,(ac x (by simp)).trans h.c3,(ac x (by simp)).trans h.c4,(ac x (by simp)).trans h.c5,(ac x (by simp)).trans h.c6,(ac x (by simp)).trans h.c7,(ac x (by simp)).trans h.c8,fun o=>by rw [World.frozen?_setCell];exact h.fz o⟩
theorem aC.set1 (h:aC w b u0 u1 u2 u3 u4 u5 u6 u7 u8) (x:Value):aC (w.setCell ⟨b,1,none⟩ x) b u0 x u2 u3 u4 u5 u6 u7 u8 :=
 ⟨(ac x (by simp)).trans h.c0,World.cell?_setCell_same' _ _ _ (by rw [h.c1];rfl),(ac x (by simp)).trans h.c2,(ac x (by simp)).trans h.c3,(ac x (by simp)).trans h.c4,(ac x (by simp)).trans h.c5,(ac x (by simp)).trans h.c6,(ac x (by simp)).trans h.c7,(ac x (by simp)).trans h.c8,fun o=>by rw [World.frozen?_setCell];exact h.fz o⟩
theorem aC.set2 (h:aC w b u0 u1 u2 u3 u4 u5 u6 u7 u8) (x:Value):aC (w.setCell ⟨b,2,none⟩ x) b u0 u1 x u3 u4 u5 u6 u7 u8 :=
 ⟨(ac x (by simp)).trans h.c0,(ac x (by simp)).trans h.c1,World.cell?_setCell_same' _ _ _ (by rw [h.c2];rfl),(ac x (by simp)).trans h.c3,(ac x (by simp)).trans h.c4,(ac x (by simp)).trans h.c5,(ac x (by simp)).trans h.c6,(ac x (by simp)).trans h.c7,(ac x (by simp)).trans h.c8,fun o=>by rw [World.frozen?_setCell];exact h.fz o⟩
theorem aC.set3 (h:aC w b u0 u1 u2 u3 u4 u5 u6 u7 u8) (x:Value):aC (w.setCell ⟨b,3,none⟩ x) b u0 u1 u2 x u4 u5 u6 u7 u8 :=
 ⟨(ac x (by simp)).trans h.c0,(ac x (by simp)).trans h.c1,(ac x (by simp)).trans h.c2,World.cell?_setCell_same' _ _ _ (by rw [h.c3];rfl),(ac x (by simp)).trans h.c4,(ac x (by simp)).trans h.c5,(ac x (by simp)).trans h.c6,(ac x (by simp)).trans h.c7,(ac x (by simp)).trans h.c8,fun o=>by rw [World.frozen?_setCell];exact h.fz o⟩
theorem aC.set4 (h:aC w b u0 u1 u2 u3 u4 u5 u6 u7 u8) (x:Value):aC (w.setCell ⟨b,4,none⟩ x) b u0 u1 u2 u3 x u5 u6 u7 u8 :=
 ⟨(ac x (by simp)).trans h.c0,(ac x (by simp)).trans h.c1,(ac x (by simp)).trans h.c2,(ac x (by simp)).trans h.c3,World.cell?_setCell_same' _ _ _ (by rw [h.c4];rfl),(ac x (by simp)).trans h.c5,(ac x (by simp)).trans h.c6,(ac x (by simp)).trans h.c7,(ac x (by simp)).trans h.c8,fun o=>by rw [World.frozen?_setCell];exact h.fz o⟩
theorem aC.set5 (h:aC w b u0 u1 u2 u3 u4 u5 u6 u7 u8) (x:Value):aC (w.setCell ⟨b,5,none⟩ x) b u0 u1 u2 u3 u4 x u6 u7 u8 :=
 ⟨(ac x (by simp)).trans h.c0,(ac x (by simp)).trans h.c1,(ac x (by simp)).trans h.c2,(ac x (by simp)).trans h.c3,(ac x (by simp)).trans h.c4,World.cell?_setCell_same' _ _ _ (by rw [h.c5];rfl),(ac x (by simp)).trans h.c6,(ac x (by simp)).trans h.c7,(ac x (by simp)).trans h.c8,fun o=>by rw [World.frozen?_setCell];exact h.fz o⟩
theorem aC.set6 (h:aC w b u0 u1 u2 u3 u4 u5 u6 u7 u8) (x:Value):aC (w.setCell ⟨b,6,none⟩ x) b u0 u1 u2 u3 u4 u5 x u7 u8 :=
 ⟨(ac x (by simp)).trans h.c0,(ac x (by simp)).trans h.c1,(ac x (by simp)).trans h.c2,(ac x (by simp)).trans h.c3,(ac x (by simp)).trans h.c4,(ac x (by simp)).trans h.c5,World.cell?_setCell_same' _ _ _ (by rw [h.c6];rfl),(ac x (by simp)).trans h.c7,(ac x (by simp)).trans h.c8,fun o=>by rw [World.frozen?_setCell];exact h.fz o⟩
theorem aC.set7 (h:aC w b u0 u1 u2 u3 u4 u5 u6 u7 u8) (x:Value):aC (w.setCell ⟨b,7,none⟩ x) b u0 u1 u2 u3 u4 u5 u6 x u8 :=
 ⟨(ac x (by simp)).trans h.c0,(ac x (by simp)).trans h.c1,(ac x (by simp)).trans h.c2,(ac x (by simp)).trans h.c3,(ac x (by simp)).trans h.c4,(ac x (by simp)).trans h.c5,(ac x (by simp)).trans h.c6,World.cell?_setCell_same' _ _ _ (by rw [h.c7];rfl),(ac x (by simp)).trans h.c8,fun o=>by rw [World.frozen?_setCell];exact h.fz o⟩
theorem aC.set8 (h:aC w b u0 u1 u2 u3 u4 u5 u6 u7 u8) (x:Value):aC (w.setCell ⟨b,8,none⟩ x) b u0 u1 u2 u3 u4 u5 u6 u7 x :=
 ⟨(ac x (by simp)).trans h.c0,(ac x (by simp)).trans h.c1,(ac x (by simp)).trans h.c2,(ac x (by simp)).trans h.c3,(ac x (by simp)).trans h.c4,(ac x (by simp)).trans h.c5,(ac x (by simp)).trans h.c6,(ac x (by simp)).trans h.c7,World.cell?_setCell_same' _ _ _ (by rw [h.c8];rfl),fun o=>by rw [World.frozen?_setCell];exact h.fz o⟩
structure bU (lo:Nat) (w:World) (m:Option Addr) (nm cm:Nat) (v:Option Addr) (nv cv:Nat) (k:Option Addr) (ns cs:Nat) (d:Option Addr) (nd cd:Nat) (M:List ae) (V:List (List aq)) (S:List Int) (U:List (List aq)):Prop where
 tree:aX lo w m nm cm v nv cv k ns cs M V S
 disk:au lo w d nd cd U
theorem bU.same {k:Option Addr} (h:bU lo w m nm cm v nv cv k ns cs d nd cd M V S U) (hs:aM lo w w'):bU lo w' m nm cm v nv cv k ns cs d nd cd M V S U:=⟨h.tree.same hs,h.disk.same hs⟩
theorem bU.keep {k:Option Addr} (h:bU lo w m nm cm v nv cv k ns cs d nd cd M V S U) (hb:Bl w w'):bU lo w' m nm cm v nv cv k ns cs d nd cd M V S U:=h.same (aM.of_below hb)
theorem bU.low {k:Option Addr} (h:bU lo w m nm cm v nv cv k ns cs d nd cd M V S U):bU 0 w m nm cm v nv cv k ns cs d nd cd M V S U:=⟨⟨h.tree.mem.mono (Nat.zero_le _),h.tree.levels.mono (Nat.zero_le _),h.tree.snaps.lower (Nat.zero_le _)⟩,h.disk.mono (Nat.zero_le _)⟩
theorem Bn {α:Type} {cs:Array α} (h:cs.size=9):∃c0 c1 c2 c3 c4 c5 c6 c7 c8,cs=#[c0,c1,c2,c3,c4,c5,c6,c7,c8]:=by
 obtain ⟨l⟩:=cs;match l,h with
 | [a,b,c,d,e,f,g,h,i],_=>exact ⟨a,b,c,d,e,f,g,h,i,rfl⟩
theorem Tryz.cellsStoreL:Tryz.prog.cellsOf 30=9:=by kernel_rfl
theorem Tryz.cellsDiskL:Tryz.prog.cellsOf 28=4:=by kernel_rfl
theorem Tryz.cellsBool1:Tryz.prog.cellsOf 4=1:=by kernel_rfl
theorem Tryz.cellsTree4:Tryz.prog.cellsOf 26=4:=by kernel_rfl
theorem Tryz.cellsInt1:Tryz.prog.cellsOf 3=1:=by kernel_rfl
theorem Tryz.cellsStr1:Tryz.prog.cellsOf 9=1:=by kernel_rfl
theorem Tryz.cellsEntsL1:Tryz.prog.cellsOf 22=1:=by kernel_rfl
theorem Tryz.cellsRunsL1:Tryz.prog.cellsOf 23=1:=by kernel_rfl
theorem Tryz.cellsInts1:Tryz.prog.cellsOf 24=1:=by kernel_rfl
theorem ts {H:Type} {enc:TypeId × Value→H} {W:World} {b0 base:Nat} {vv:Value} {dd:DataW H} {p:List MemPlace} {held:Bool}
 (hv:Value.okWide Tryz.prog W .any b0 30 vv) (h:DataW.Trod enc Tryz.prog W base (fun _=>true) held 30 vv dd p) :
 ∃(up:Bool) (q:Int) (m:Option Addr) (nm cm:Nat) (v:Option Addr) (nv cv:Nat) (k:Option Addr) (ns cs:Nat) (lg:ByteArray) (sf:Int) (d:Option Addr) (nd cd:Nat) (sd:Int) (M:List ae) (V:List (List aq)) (S:List Int) (U:List (List aq)),vv=.agg #[.bool up,iT q,.slice m nm cm,.slice v nv cv,.slice k ns cs,.string lg,iT sf,.slice d nd cd,iT sd]∧(lg.size≤maxLen∧bU 0 W m nm cm v nv cv k ns cs d nd cd M V S U):=by
 obtain ⟨cs,rfl,hsz⟩:=okWide_struct Tryz.underlying30 hv;obtain ⟨c0,c1,c2,c3,c4,c5,c6,c7,c8,rfl⟩:=Bn (hsz.trans Tryz.cellsStoreL);obtain ⟨fuel,hf⟩:=h;obtain ⟨y0,y1,y2,n,_,_,h0,h1,h2⟩:=Deep.trod_struct3 Tryz.underlying30 hf;simp [Value.cells,Tryz.cellsBool1] at h0;simp [Value.cells,Tryz.cellsTree4] at h1;simp [Value.cells,Tryz.cellsDiskL] at h2;obtain ⟨z0,z1,z2,z3,n',_,_,g0,g1,g2,g3⟩:=trod_struct4 Tryz.underlying26 h1;obtain ⟨x0,x1,x2,x3,n'',_,_,f0,f1,f2,f3⟩:=trod_struct4 Tryz.underlying28 h2;simp [Tryz.cellsInt1] at g0;simp [Tryz.cellsEntsL1] at g1;simp [Tryz.cellsRunsL1] at g2;simp [Tryz.cellsInts1] at g3;simp [Tryz.cellsStr1] at f0;simp [Tryz.cellsInt1] at f1;simp [Tryz.cellsRunsL1] at f2;simp [Tryz.cellsInt1] at f3;obtain ⟨up,e0,_⟩:=DataW.trod_bool Tryz.underlying4 h0;obtain ⟨q,e1,_,_⟩:=DataW.trod_int Tryz.underlying3 g0;obtain ⟨m,nm,cm,M,rfl,hM⟩:=ld g1;obtain ⟨v,nv,cv,V,rfl,hV⟩:=lM g2;obtain ⟨k,ns,cs,S,rfl,hS⟩:=vA g3;obtain ⟨lg,e5,_,wl⟩:=DataW.trod_string Tryz.underlying9 f0;obtain ⟨sf,e6,_,_⟩:=DataW.trod_int Tryz.underlying3 f1;obtain ⟨d,nd,cd,U,rfl,hU⟩:=lM f2;obtain ⟨sd,e8,_,_⟩:=DataW.trod_int Tryz.underlying3 f3;simp at e0 e1 e5 e6 e8;subst e0 e1 e5 e6 e8;exact ⟨up,q,m,nm,cm,v,nv,cv,k,ns,cs,lg,sf,d,nd,cd,sd,M,V,S,U,rfl,wl,⟨⟨hM,fun _ _ _=>Nat.zero_le _⟩,hV,hS⟩,hU⟩
end Go.Proofs.YtehiefdphnljaaaGreatDoor
