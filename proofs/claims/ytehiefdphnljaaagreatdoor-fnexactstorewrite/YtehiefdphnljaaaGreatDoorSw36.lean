/- Walks. -/
import Derived.Test.YtehiefdphnljaaaGreatDoorSw35
namespace Go.Proofs.YtehiefdphnljaaaGreatDoor
set_option maxRecDepth 100000
set_option maxHeartbeats 40000000
open Go.RowKit
variable {L:List ae} {P:List (List ae)} {b i k:Nat} {e:ae} {q:Int} {u0 u1 u2 u3 u4 u5:Value} {w w':World}
structure aR (w:World) (b:Nat) (u0 u1 u2 u3 u4 u5:Value):Prop where
 c0:w.cell? ⟨b,0,none⟩=some u0
 c1:w.cell? ⟨b,1,none⟩=some u1
 c2:w.cell? ⟨b,2,none⟩=some u2
 c3:w.cell? ⟨b,3,none⟩=some u3
 c4:w.cell? ⟨b,4,none⟩=some u4
 c5:w.cell? ⟨b,5,none⟩=some u5
 fz:∀o,w.frozen? ⟨b,o,none⟩=false
theorem aR.lt (h:aR w b u0 u1 u2 u3 u4 u5):b<w.heap.size:=World.block_lt_of_cell? w _ h.c0
theorem aR.all(h:aR w b u0 u1 u2 u3 u4 u5):w.cell? ⟨b,0,none⟩=some u0∧w.cell? ⟨b,1,none⟩=some u1∧w.cell? ⟨b,2,none⟩=some u2∧w.cell? ⟨b,3,none⟩=some u3∧w.cell? ⟨b,4,none⟩=some u4∧w.cell? ⟨b,5,none⟩=some u5∧(∀o,w.frozen? ⟨b,o,none⟩=false)∧b<w.heap.size:=⟨h.c0,h.c1,h.c2,h.c3,h.c4,h.c5,h.fz,h.lt⟩
theorem aR.new (w:World) (t:TypeId) (u0 u1 u2 u3 u4 u5:Value):aR (w.alloc (.cells #[u0,u1,u2,u3,u4,u5] t)) w.heap.size u0 u1 u2 u3 u4 u5:=⟨by simp,by simp,by simp,by simp,by simp,by simp,fun o=>by simp⟩
theorem aR.below {B:Nat} (h:aR w b u0 u1 u2 u3 u4 u5) (hb:Below B w w') (hB:b<B):aR w' b u0 u1 u2 u3 u4 u5 :=
 ⟨(hb.cell (p:=⟨b,0,none⟩) hB).trans h.c0,(hb.cell (p:=⟨b,1,none⟩) hB).trans h.c1,(hb.cell (p:=⟨b,2,none⟩) hB).trans h.c2,(hb.cell (p:=⟨b,3,none⟩) hB).trans h.c3,(hb.cell (p:=⟨b,4,none⟩) hB).trans h.c4,(hb.cell (p:=⟨b,5,none⟩) hB).trans h.c5,fun o=>(World.frozen?_of_block (hb.block b hB)).trans (h.fz o)⟩
theorem aR.keep (h:aR w b u0 u1 u2 u3 u4 u5) (hb:Bl w w'):aR w' b u0 u1 u2 u3 u4 u5:=h.below hb h.lt
theorem aR.alloc (h:aR w b u0 u1 u2 u3 u4 u5) (o:Obj):aR (w.alloc o) b u0 u1 u2 u3 u4 u5:=h.keep bZ
theorem aR.other (h:aR w b u0 u1 u2 u3 u4 u5) {b' o:Nat} (hp:b'≠b) (x:Value):aR (w.setCell ⟨b',o,none⟩ x) b u0 u1 u2 u3 u4 u5 :=
 ⟨(ac x (fun e=>hp e.1.symm)).trans h.c0,(ac x (fun e=>hp e.1.symm)).trans h.c1,(ac x (fun e=>hp e.1.symm)).trans h.c2,(ac x (fun e=>hp e.1.symm)).trans h.c3,(ac x (fun e=>hp e.1.symm)).trans h.c4,(ac x (fun e=>hp e.1.symm)).trans h.c5,fun o=>by rw [World.frozen?_setCell];exact h.fz o⟩
theorem aR.set0 (h:aR w b u0 u1 u2 u3 u4 u5) (x:Value):aR (w.setCell ⟨b,0,none⟩ x) b x u1 u2 u3 u4 u5 :=
 ⟨World.cell?_setCell_same' _ _ _ (by rw [h.c0];rfl),(ac x (by simp)).trans h.c1,(ac x (by simp)).trans h.c2,(ac x (by simp)).trans h.c3,(ac x (by simp)).trans h.c4,(ac x (by simp)).trans h.c5,fun o=>by rw [World.frozen?_setCell];exact h.fz o⟩
theorem aR.set1 (h:aR w b u0 u1 u2 u3 u4 u5) (x:Value):aR (w.setCell ⟨b,1,none⟩ x) b u0 x u2 u3 u4 u5 :=
 ⟨(ac x (by simp)).trans h.c0,World.cell?_setCell_same' _ _ _ (by rw [h.c1];rfl),(ac x (by simp)).trans h.c2,(ac x (by simp)).trans h.c3,(ac x (by simp)).trans h.c4,(ac x (by simp)).trans h.c5,fun o=>by rw [World.frozen?_setCell];exact h.fz o⟩
theorem aR.set2 (h:aR w b u0 u1 u2 u3 u4 u5) (x:Value):aR (w.setCell ⟨b,2,none⟩ x) b u0 u1 x u3 u4 u5 :=
 ⟨(ac x (by simp)).trans h.c0,(ac x (by simp)).trans h.c1,World.cell?_setCell_same' _ _ _ (by rw [h.c2];rfl),(ac x (by simp)).trans h.c3,(ac x (by simp)).trans h.c4,(ac x (by simp)).trans h.c5,fun o=>by rw [World.frozen?_setCell];exact h.fz o⟩
theorem aR.set3 (h:aR w b u0 u1 u2 u3 u4 u5) (x:Value):aR (w.setCell ⟨b,3,none⟩ x) b u0 u1 u2 x u4 u5 :=
 ⟨(ac x (by simp)).trans h.c0,(ac x (by simp)).trans h.c1,(ac x (by simp)).trans h.c2,World.cell?_setCell_same' _ _ _ (by rw [h.c3];rfl),(ac x (by simp)).trans h.c4,(ac x (by simp)).trans h.c5,fun o=>by rw [World.frozen?_setCell];exact h.fz o⟩
theorem aR.set4 (h:aR w b u0 u1 u2 u3 u4 u5) (x:Value):aR (w.setCell ⟨b,4,none⟩ x) b u0 u1 u2 u3 x u5 :=
 ⟨(ac x (by simp)).trans h.c0,(ac x (by simp)).trans h.c1,(ac x (by simp)).trans h.c2,(ac x (by simp)).trans h.c3,World.cell?_setCell_same' _ _ _ (by rw [h.c4];rfl),(ac x (by simp)).trans h.c5,fun o=>by rw [World.frozen?_setCell];exact h.fz o⟩
theorem aR.set5 (h:aR w b u0 u1 u2 u3 u4 u5) (x:Value):aR (w.setCell ⟨b,5,none⟩ x) b u0 u1 u2 u3 u4 x :=
 ⟨(ac x (by simp)).trans h.c0,(ac x (by simp)).trans h.c1,(ac x (by simp)).trans h.c2,(ac x (by simp)).trans h.c3,(ac x (by simp)).trans h.c4,World.cell?_setCell_same' _ _ _ (by rw [h.c5];rfl),fun o=>by rw [World.frozen?_setCell];exact h.fz o⟩
theorem o9 (lo:Nat) (sq:Int) (am ak:Option Addr) (nm cm b o cv nk ck:Nat) (M:List ae) (A B C:List aq) (S:List Int) (a0 a1 a2:Option Addr) (n0 c0 n1 c1 n2 c2:Nat) (w:World) (hM:an w am nm cm M) (hS:bC lo w ak nk ck S) (h0:aF lo w a0 n0 c0 A) (h1:aF lo w a1 n1 c1 B) (h2:aF lo w a2 n2 c2 C)
 (l0:w.cell? ⟨b,o,none⟩=some (.slice a0 n0 c0)) (l1:w.cell? ⟨b,o+1,none⟩=some (.slice a1 n1 c1)) (l2:w.cell? ⟨b,o+2,none⟩=some (.slice a2 n2 c2)) :
 Calls Tryz.prog 83 #[.agg #[iT sq,.slice am nm cm,sO b o 3 cv,.slice ak nk ck]] w fun e w'=>e=.returned (.tuple #[.agg #[iT sq,.slice am nm cm,.slice a0 n0 c0,.slice a1 n1 c1,.slice a2 n2 c2,.slice ak nk ck],.bool (bn sq M [A,B,C] S)])∧Bl w w':=by
 have hbw:=World.block_lt_of_cell? _ _ l0;simp only at hbw;obtain ⟨X,hX⟩:=aw w.heap.size;obtain ⟨W,hW⟩:=aw (((w.alloc (.cells #[iT sq,.slice am nm cm,sO b o 3 cv,.slice ak nk ck] 36)).alloc (.cells #[iT 0,nZ,nZ,nZ,nZ,nZ] 86)).alloc (.cells #[iT sq,.slice am nm cm,nZ,nZ,nZ,.slice ak nk ck] 86));have kW:Bl w W:=by rw [hW];exact (bZ.alloc (by simp) _).alloc (by simp;omega) _
 have xa:(w.alloc (.cells #[iT sq,.slice am nm cm,sO b o 3 cv,.slice ak nk ck] 36)).cell? ⟨X,2,none⟩=some (sO b o 3 cv):=by rw [hX];simp
 have x2:W.cell? ⟨X,2,none⟩=some (sO b o 3 cv):=by
  rw [hW];exact cell_later bZ (cell_later bZ xa)
 have br:aR W (X+1) (iT 0) nZ nZ nZ nZ nZ:=by
  have:=(aR.new (w.alloc (.cells #[iT sq,.slice am nm cm,sO b o 3 cv,.slice ak nk ck] 36)) 86 (iT 0) nZ nZ nZ nZ nZ).alloc (.cells #[iT sq,.slice am nm cm,nZ,nZ,nZ,.slice ak nk ck] 86);rw [World.size_alloc] at this;rw [hW,hX];exact this
 have bs:aR W (X+1+1) (iT sq) (.slice am nm cm) nZ nZ nZ (.slice ak nk ck):=by
  have:=aR.new ((w.alloc (.cells #[iT sq,.slice am nm cm,sO b o 3 cv,.slice ak nk ck] 36)).alloc (.cells #[iT 0,nZ,nZ,nZ,nZ,nZ] 86)) 86 (iT sq) (.slice am nm cm) nZ nZ nZ (.slice ak nk ck);rw [World.size_alloc,World.size_alloc] at this;rw [hW,hX];exact this
 have k0:=cell_later kW l0;have k1:=cell_later kW l1;have k2:=cell_later kW l2;have hcp:(Builtin.copy_ #[34,34] 3 #[.slice (some ⟨X+1+1,2,none⟩) 3 3,sO b o 3 cv]).run Tryz.prog W.drew=.ok (goInt 3) (W.drew.setCells (X+1+1) 2 [.slice a0 n0 c0,.slice a1 n1 c1,.slice a2 n2 c2]):=by
  refine run_copy_cells (P:=Tryz.prog) W.drew 34 34 3 83 (X+1+1) 2 3 3 ⟨b,o,none⟩ 3 cv [.slice a0 n0 c0,.slice a1 n1 c1,.slice a2 n2 c2] Tryz.underlying34 (by kernel_rfl) rfl ?_ ?_ ?_ ?_
  · intro j v hj;rw [Go.WideShapes.add_plain];match j,hj with
    | 0,hj=>simp at hj;subst hj;exact k0
    | 1,hj=>simp at hj;subst hj;exact k1
    | 2,hj=>simp at hj;subst hj;exact k2
  · intro j hj;match j,hj with
    | 0,_=>exact Option.isSome_iff_exists.2 ⟨_,bs.c2⟩
    | 1,_=>exact Option.isSome_iff_exists.2 ⟨_,bs.c3⟩
    | 2,_=>exact Option.isSome_iff_exists.2 ⟨_,bs.c4⟩
  · exact fun j _=>bs.fz _
  · intro v hv;simp at hv;rcases hv with rfl | rfl | rfl <;> rfl
 have HM:=ar hM;have HS:=ar hS;have H0:=ar h0;have H1:=ar h1;have H2:=ar h2;have KW:Hid (Bl w W):=kW;have HX:Hid (X=w.heap.size):=hX;clear hM hS h0 h1 h2 kW l0 l1 l2 k0 k1 k2 xa;go_enter Tryz.func83,Tryz.ntmps83
 go_upto_region 4 with fail
 rw [← hX,← hW];clear hX hW;have zX:X<W.heap.size:=World.block_lt_of_cell? _ _ x2;have zS:=bs.lt;go_region_with (fail)
 obtain ⟨W2,hW2⟩:=aw (W.drew.setCells (X+1+1) 2 [.slice a0 n0 c0,.slice a1 n1 c1,.slice a2 n2 c2]);have hW2':W2=((W.drew.setCell ⟨X+1+1,2,none⟩ (.slice a0 n0 c0)).setCell ⟨X+1+1,3,none⟩ (.slice a1 n1 c1)).setCell ⟨X+1+1,4,none⟩ (.slice a2 n2 c2):=by rw [hW2];rfl
 have bs2:aR W2 (X+1+1) (iT sq) (.slice am nm cm) (.slice a0 n0 c0) (.slice a1 n1 c1) (.slice a2 n2 c2) (.slice ak nk ck):=by
  have d:aR W.drew (X+1+1) (iT sq) (.slice am nm cm) nZ nZ nZ (.slice ak nk ck):=⟨bs.c0,bs.c1,bs.c2,bs.c3,bs.c4,bs.c5,bs.fz⟩;rw [hW2'];exact ((d.set2 _).set3 _).set4 _
 have br2:aR W2 (X+1) (iT 0) nZ nZ nZ nZ nZ:=by
  have d:aR W.drew (X+1) (iT 0) nZ nZ nZ nZ nZ:=⟨br.c0,br.c1,br.c2,br.c3,br.c4,br.c5,br.fz⟩;rw [hW2'];exact ((d.other (by omega) _).other (by omega) _).other (by omega) _
 have K2:Hid (Bl w W2):=by
  have hx:w.heap.size≤X+1+1:=by have:=HX.out;omega
  rw [hW2'];exact ((KW.out.drew.setCell (p:=⟨X+1+1,2,none⟩) hx _).setCell (p:=⟨X+1+1,3,none⟩) hx _).setCell (p:=⟨X+1+1,4,none⟩) hx _
 rw [← hW2];clear hW2 hW2' hcp x2 bs br zS zX KW hbw;have HBR:Hid (aR W2 (X+1) (iT 0) nZ nZ nZ nZ nZ):=br2;have y0:=bs2.c0;have y1:=bs2.c1;have y2:=bs2.c2;have y3:=bs2.c3;have y4:=bs2.c4;have y5:=bs2.c5;have zS:=bs2.lt;have HBS:Hid (aR W2 (X+1+1) (iT sq) (.slice am nm cm) (.slice a0 n0 c0) (.slice a1 n1 c1) (.slice a2 n2 c2) (.slice ak nk ck)):=bs2;clear br2 bs2;go_upto_region 5 with fail
 go_region_with (go_at_call 82;refine (rL lo sq am ak nm cm nk ck a0 a1 a2 n0 c0 n1 c1 n2 c2 M A B C S _ (HM.out.keep K2.out.drew) (HS.out.keep K2.out.drew) (H0.out.keep K2.out.drew) (H1.out.keep K2.out.drew) (H2.out.keep K2.out.drew)).mono ?_;rintro e w5 ⟨rfl,hb5⟩;have k5:Bl W2 w5:=((Below.refl _ W2).drew).trans hb5;have y0':=cell_later k5 y0;have y1':=cell_later k5 y1;have y2':=cell_later k5 y2;have y3':=cell_later k5 y3;have y4':=cell_later k5 y4;have y5':=cell_later k5 y5;have zS':=Nat.lt_of_lt_of_le zS k5.size;have r0:=(HBR.out.keep k5).c0;have r1:=(HBR.out.keep k5).c1;have r2:=(HBR.out.keep k5).c2;have r3:=(HBR.out.keep k5).c3;have r4:=(HBR.out.keep k5).c4;have r5:=(HBR.out.keep k5).c5;have rf:=(HBR.out.keep k5).fz;have rz:=(HBR.out.keep k5).lt)
 all_goals
  go_wp2;refine bodyPost_ret (v:=.tuple #[.agg #[iT sq,.slice am nm cm,.slice a0 n0 c0,.slice a1 n1 c1,.slice a2 n2 c2,.slice ak nk ck],.bool (bn sq M [A,B,C] S)]) ?_ rfl ⟨rfl,?_⟩
  · have c:=((((((HBR.out.keep k5).set0 (iT sq)).set1 (.slice am nm cm)).set2 (.slice a0 n0 c0)).set3 (.slice a1 n1 c1)).set4 (.slice a2 n2 c2)).set5 (.slice ak nk ck);simp [results,Tryz.results83,go_sem,c.all]
  · have hx:w.heap.size≤X+1:=by have:=HX.out;omega
    have K5:=K2.out.trans (k5.mono K2.out.size);exact ((mf K5 hx _ _ _ _).setCell (p:=⟨X+1,4,none⟩) hx _).setCell (p:=⟨X+1,5,none⟩) hx _
theorem lQ (sq:Int) (am av ak:Option Addr) (nm cm nv cv nk ck:Nat) (w:World) (hn:¬nv=3) :
 Calls Tryz.prog 83 #[.agg #[iT sq,.slice am nm cm,.slice av nv cv,.slice ak nk ck]] w fun e w'=>e=.returned (.tuple #[.agg #[iT 0,nZ,nZ,nZ,nZ,nZ],.bool false])∧Bl w w':=by
 have hnI:¬(nv:Int)=3:=by omega
 have hnb:((nv:Int) == 3)=false:=by simpa using hnI
 obtain ⟨W,hW⟩:=aw ((w.alloc (.cells #[iT sq,.slice am nm cm,.slice av nv cv,.slice ak nk ck] 36)).alloc (.cells #[iT 0,nZ,nZ,nZ,nZ,nZ] 86));have kW:Bl w W:=by rw [hW];exact bZ.alloc (by simp) _
 have br:aR W (w.heap.size+1) (iT 0) nZ nZ nZ nZ nZ:=by
  have:=aR.new (w.alloc (.cells #[iT sq,.slice am nm cm,.slice av nv cv,.slice ak nk ck] 36)) 86 (iT 0) nZ nZ nZ nZ nZ;rw [World.size_alloc] at this;rw [hW];exact this
 go_enter Tryz.func83,Tryz.ntmps83
 go_upto_region 2 with fail
 rw [← hW];clear hW;have r0:=br.all;go_wp2;refine bodyPost_ret (v:=.tuple #[.agg #[iT 0,nZ,nZ,nZ,nZ,nZ],.bool false]) ?_ rfl ⟨rfl,?_⟩
 · have c:=(((((br.set0 (iT 0)).set1 nZ).set2 nZ).set3 nZ).set4 nZ).set5 nZ;simp [results,Tryz.results83,go_sem,c.all]
 · have hx:w.heap.size≤w.heap.size+1:=by omega
   exact ((mf kW hx _ _ _ _).setCell (p:=⟨w.heap.size+1,4,none⟩) hx _).setCell (p:=⟨w.heap.size+1,5,none⟩) hx _
theorem vq (L:List ae) (e:ae):bg (L++[e])=dq (bg L) e:=by simp [bg]
theorem wD (h:P[i]?=some L):(P.take (i+1)).flatten=(P.take i).flatten++L.take L.length:=by
 rw [List.take_add_one,h];simp
theorem yQ (h:P[i]?=some L):((P.take i).flatten++L.take k).length≤P.flatten.length:=by
 have h1:P.flatten=(P.take (i+1)).flatten++(P.drop (i+1)).flatten:=by rw [← List.flatten_append,List.take_append_drop]
 rw [h1,wD h,List.length_append,List.length_append,List.length_append,List.length_take,List.length_take];omega
theorem As (a b:Int) (w:World):Calls Tryz.prog 110 #[iT a,iT b] w fun e w'=>e=.returned (iT (max a b))∧w'=w:=by
 by_cases h:b<a
 · have e:max a b=a:=by omega
   rw [e];go_enter Tryz.func110,Tryz.ntmps110
   go_wp2;go_ret;exact ⟨rfl,rfl⟩
 · have e:max a b=b:=by omega
   rw [e];go_enter Tryz.func110,Tryz.ntmps110
   go_wp2;go_ret;exact ⟨rfl,rfl⟩
theorem f9 (h:L[k]?=some e) (hq:q<e.2.1):aS q (L.take (k+1))=aS q (L.take k)++[e]:=by
 unfold aS;rw [List.take_add_one,h,List.filter_append];simp [dF,hq]
theorem ii (h:L[k]?=some e) (hq:¬q<e.2.1):aS q (L.take (k+1))=aS q (L.take k):=by
 unfold aS;rw [List.take_add_one,h,List.filter_append];simp [dF,hq]
theorem rH (q:Int) (P:List (List ae)):(P.map (aS q)).flatten.length≤P.flatten.length:=by
 induction P with
 | nil=>simp
 | cons L P ih =>
  have:=List.length_filter_le (dF q) L;simp only [List.map_cons,List.flatten_cons,List.length_append];unfold aS at ih ⊢;omega
theorem oY (h:P[i]?=some L):(((P.take i).map (aS q)).flatten++aS q (L.take k)).length≤P.flatten.length:=by
 have h1:=yQ (k:=k) h;have h2:=rH q (P.take i);have h3:=List.length_filter_le (dF q) (L.take k);rw [List.length_append] at h1 ⊢;unfold aS at h2 ⊢;omega
theorem us (a:Option Addr) (n c:Nat) (P:List (List ae)) (q:Int) (w:World) (hP:cI w a n c P) (hsum:P.flatten.length≤1048576) :
 Calls Tryz.prog 70 #[.slice a n c,iT q] w fun e w'=>∃g cg,e=.returned (.tuple #[sL g (P.map (aS q)).flatten.length cg,iT (bh q P)])∧aE w' w.heap.size g (P.map (aS q)).flatten.length cg (bg (P.map (aS q)).flatten)∧Bl w w':=by
 have HP:=ar hP;have HLN:Hid (P.length=n):=hP.length;have HSU:=ar hsum;have hroom:=hP.room;have hbig:=hP.big;unfold maxLen at hbig;clear hP hsum;obtain ⟨N,hN⟩:∃N,(P.map (aS q)).flatten.length=N:=⟨_,rfl⟩;have HN:Hid ((P.map (aS q)).flatten.length=N):=hN;obtain ⟨LQ,hLQ⟩:=aw (bh q P);have HLQ:Hid (LQ=bh q P):=hLQ;rw [hN,← hLQ];clear hN hLQ;go_enter Tryz.func70,Tryz.ntmps70
 go_wp2;go_loopw [6,7,8] (fun ov lv iv wr=>∃(i g cg m:Nat) (F:List ae),i≤n∧iv=iT i∧F=((P.take i).map (aS q)).flatten∧F.length=m∧ov=sL g m cg∧lv=iT (bh q (P.take i))∧aE wr w.heap.size g m cg (bg F)∧Bl w wr) (fun _ _ iv _=>n - (intOf iv).toNat)
 case atStart=>exact ⟨0,w.heap.size,0,0,[],Nat.zero_le _,rfl,by simp,rfl,rfl,rfl,dJ w _ (Nat.le_refl _),bZ⟩
 case round =>
  obtain ⟨i,g,cg,m,F,hi,rfl,hF,hFm,rfl,rfl,hO,hb⟩:=hrel;have HF:Hid (F=((P.take i).map (aS q)).flatten):=hF;have HFM:Hid (F.length=m):=hFm;have HO:Hid (aE wr w.heap.size g m cg (bg F)):=hO;have HB:Hid (Bl w wr):=hb;obtain ⟨Li,hLi⟩:=aw (bh q (P.take i));have HLI:Hid (Li=bh q (P.take i)):=hLi;rw [← hLi];clear hF hFm hO hb hLi;by_cases hlt:i<n
  · have hltI:(i:Int)<(n:Int):=by omega
    obtain ⟨b,off,rfl,hbb⟩:=HP.out.form (by omega);obtain ⟨L,hL⟩:∃L,P[i]?=some L:=⟨_,List.getElem?_eq_getElem (by rw [HLN.out];exact hlt)⟩;have HL:Hid (P[i]?=some L):=hL;clear hL;go_wp2;go_loopw [6,7,9] (fun ov lv kv wq=>∃(k g cg m:Nat) (G:List ae) (Lk:Int),k≤L.length∧kv=iT k∧G=F++aS q (L.take k)∧G.length=m∧ov=sL g m cg∧lv=iT Lk∧Lk=(aS q (L.take k)).foldl (fun m e=>max m e.2.1) Li∧aE wq w.heap.size g m cg (bg G)∧Bl w wq) (fun _ _ kv _=>L.length - (intOf kv).toNat)
    case atStart=>exact ⟨0,g,cg,m,F,Li,Nat.zero_le _,rfl,by simp [aS],HFM.out,rfl,rfl,rfl,HO.out,HB.out⟩
    case round =>
     clear HO HB HFM;obtain ⟨k,g,cg,m,G,Lk,hk,rfl,hG,hGm,rfl,rfl,hLk,hO,hb⟩:=hrel;obtain ⟨L',s,len,cap,hL',c0,hE⟩:=HP.out.list hb i hlt;rw [HL.out] at hL';cases hL';have HG:Hid (G=F++aS q (L.take k)):=hG;have HGM:Hid (G.length=m):=hGm;have HLK:Hid (Lk=(aS q (L.take k)).foldl (fun m e=>max m e.2.1) Li):=hLk;have HO:Hid (aE wr w.heap.size g m cg (bg G)):=hO;have HB:Hid (Bl w wr):=hb;have hLl:=hE.length;have HLL:Hid (L.length=len):=hLl;have zb:b<wr.heap.size:=Nat.lt_of_lt_of_le hbb hb.size;have hlc:=hE.room;have hcb:=hE.big;unfold maxLen at hcb;have hm:m≤1048576:=by
      have h1:=oY (q:=q) (k:=k) HL.out;rw [← HF.out,← hG] at h1;have h2:=HSU.out;omega
     rw [hLl] at hk;clear hG hGm hO hb hLl hLk;by_cases hkl:k<len
     · have hklI:(k:Int)<(len:Int):=by omega
       obtain ⟨bs,os,rfl,zs⟩:=hE.form (by omega);obtain ⟨es,eq,ed,et,en,hx,hw,e0,e1,e2,e3,e4⟩:=hE.ent (Below.refl _ wr) zs k hkl;have HX:Hid (L[k]?=some (es,eq,ed,et,en)):=hx;have CP:=ur g m cg (bg G) es et eq ed en wr HO.out.entsAt HO.out.lt.2 hm hw;clear hx hw;by_cases hq:q<eq
       · go_wp2_with fail
         refine CP.mono ?_;rintro e w2 ⟨g2,c2,rfl,hO2,hb2⟩;have HO2:Hid (aE w2 w.heap.size g2 (m+1) c2 (dq (bg G) (es,eq,ed,et,en))):=hO2.mono HB.out.size;have HB2:Hid (Bl w w2):=HB.out.trans (hb2.mono HB.out.size);have c0':=cell_later hb2 c0;have e1':=cell_later hb2 e1;have zb2:b<w2.heap.size:=Nat.lt_of_lt_of_le zb hb2.size;have zs2:bs<w2.heap.size:=Nat.lt_of_lt_of_le zs hb2.size;clear hO2 hb2 CP HO HB hE c0 e0 e1 e2 e3 e4 zb zs;go_wp2_with (go_at_call 110;refine (As _ _ _).mono ?_;rintro e w3 ⟨rfl,rfl⟩)
         go_roundw
         case rel =>
          refine ⟨k+1,g2,c2,m+1,F++aS q (L.take (k+1)),max Lk eq,by have:=HLL.out;omega,by go_num,rfl,?_,rfl,rfl,?_,?_,HB2.out⟩
          · rw [f9 HX.out hq,← List.append_assoc,← HG.out,List.length_append,HGM.out];rfl
          · rw [f9 HX.out hq,List.foldl_append,← HLK.out];rfl
          · rw [f9 HX.out hq,← List.append_assoc,← HG.out,vq];exact HO2.out
         case measure=>have:=HLL.out;simp [intOf];omega
       · clear CP hE;go_wp2;go_roundw
         case rel =>
          refine ⟨k+1,g,cg,m,F++aS q (L.take (k+1)),Lk,by have:=HLL.out;omega,by go_num,rfl,?_,rfl,rfl,?_,?_,HB.out⟩
          · rw [ii HX.out hq,← HG.out];exact HGM.out
          · rw [ii HX.out hq];exact HLK.out
          · rw [ii HX.out hq,← HG.out];exact HO.out
         case measure=>have:=HLL.out;simp [intOf];omega
     · have hklI:¬(k:Int)<(len:Int):=by omega
       have HKL:Hid (L.take k=L):=List.take_of_length_le (by have:=HLL.out;omega);have wi:IntKind.i64.wrap ((i:Int)+1)=((i+1:Nat):Int):=by rw [IntWalk.i64_left];unfold wrap64;omega
       clear hE;go_wp2;go_roundw
       case rel =>
        refine ⟨i+1,g,cg,m,G,by omega,by first | rfl | go_num,?_,HGM.out,rfl,?_,HO.out,HB.out⟩
        · rw [jm HL.out,HG.out,HF.out,HKL.out]
        · rw [lq HL.out,← HLI.out,HLK.out,HKL.out]
       case measure=>simp [intOf];omega
  · have hin:i=n:=by omega
    have hltI:¬(i:Int)<(n:Int):=by omega
    have HTA:Hid (P.take i=P):=List.take_of_length_le (by rw [HLN.out];omega);have HFA:Hid (F=(P.map (aS q)).flatten):=by show F=_;rw [HF.out,HTA.out]
    have HLA:Hid (Li=LQ):=by show Li=LQ;rw [HLI.out,HLQ.out,HTA.out]
    clear hin;go_wp2;have h1:=HFM.out;have h2:=HO.out;rw [HFA.out] at h1 h2;obtain rfl:N=m:=by have:=HN.out;omega
    obtain rfl:=HLA.out;refine bodyPost_ret (v:=.tuple #[sL g N cg,iT Li]) (by simp [results,Tryz.results70,go_sem]) rfl ⟨g,cg,rfl,h2,HB.out⟩
end Go.Proofs.YtehiefdphnljaaaGreatDoor
