/-
  The program's TreeCompact, and what both sides answer at a right tree.
-/
import Derived.Test.YtlmgojlffgkciaaGreatTc48
import Derived.Test.YtlmgojlffgkciaaGreatTc50
import Derived.Test.YtlmgojlffgkciaaGreatTc51
namespace Go.Proofs.YtlmgojlffgkciaaGreat
open Go.RowKit
set_option maxRecDepth 100000
set_option maxHeartbeats 4000000
def rS (q:Int) (am:Option Addr) (nm cm:Nat) (ak:Option Addr) (nk ck:Nat) (A2 B2 C2:List ae) (OK:Bool) (w:World) (e:Ending) (w':World):Prop :=
 ∃a0 m0 d0 a1 m1 d1 a2 m2 d2,e=.returned (.tuple #[.agg #[iT q,.slice am nm cm,.slice a0 m0 d0,.slice a1 m1 d1,.slice a2 m2 d2,.slice ak nk ck],.bool OK])∧(OK=true→aj 0 w' a0 m0 d0 A2∧aj 0 w' a1 m1 d1 B2∧aj 0 w' a2 m2 d2 C2)∧Bl w w'
theorem re (q:Int) (am:Option Addr) (nm cm e0 n0 c0 e1 n1 c1 e2 n2 c2:Nat) (ak:Option Addr) (nk ck:Nat) (lv pk:Int) (A2 B2 C2:List ae) (w:World)
 (hCT:∀w',Bl w w'→Calls Tryz.prog 102 #[.agg #[iT q,.slice am nm cm,sL e0 n0 c0,sL e1 n1 c1,sL e2 n2 c2,.slice ak nk ck],iT lv,iT pk] w' fun e w''=>∃at' ct al nl cl,e=.returned (.tuple #[.slice at' 0 ct,.slice al nl cl])∧Bl w' w'') :
 Calls Tryz.prog 66 #[.agg #[iT q,.slice am nm cm,sL e0 n0 c0,sL e1 n1 c1,sL e2 n2 c2,.slice ak nk ck],iT lv,iT pk] w (rS q am nm cm ak nk ck A2 B2 C2 false w):=by
 obtain ⟨X,hX⟩:=ay w.heap.size;obtain ⟨W,hW⟩:=ay ((w.alloc (.cells #[iT q,.slice am nm cm,sL e0 n0 c0,sL e1 n1 c1,sL e2 n2 c2,.slice ak nk ck] 67)).alloc (.cells #[iT 0,nZ,nZ,nZ,nZ,nZ] 67));have kW:Bl w W:=by rw [hW];exact bZ.alloc (by simp) _
 have bX:bn W X (iT q) (.slice am nm cm) (sL e0 n0 c0) (sL e1 n1 c1) (sL e2 n2 c2) (.slice ak nk ck):=by rw [hW,hX];exact (bn.new _ _ _ _ _ _ _ _).alloc _
 have br:bn W (X+1) (iT 0) nZ nZ nZ nZ nZ:=by
  have:=bn.new (w.alloc (.cells #[iT q,.slice am nm cm,sL e0 n0 c0,sL e1 n1 c1,sL e2 n2 c2,.slice ak nk ck] 67)) 67 (iT 0) nZ nZ nZ nZ nZ;rw [World.size_alloc] at this;rw [hW,hX];exact this
 have bb:aw W (X+1) 67 6:=by
  have h2:=cZ (w.alloc (.cells #[iT q,.slice am nm cm,sL e0 n0 c0,sL e1 n1 c1,sL e2 n2 c2,.slice ak nk ck] 67)) #[iT 0,nZ,nZ,nZ,nZ,nZ] 67;rw [World.size_alloc] at h2;rw [hW,hX];exact h2
 have HX:Hid (X=w.heap.size):=hX;have K0:Hid (Bl w W):=kW;have CTK:=hCT W kW;have x0:=bX.c0;have x1:=bX.c1;have x2:=bX.c2;have x3:=bX.c3;have x4:=bX.c4;have x5:=bX.c5;have xf:=bX.fz;have xz:=bX.lt;clear kW bb hCT;go_enter Tryz.func66,Tryz.ntmps66
 go_wp2_with fail
 rw [← hX,← hW];clear hX hW x0 x1 x2 x3 x4 x5 xf xz;refine CTK.mono ?_;rintro e w1 ⟨at',ct,al,nl,cl,rfl,hb1⟩;have K1:Hid (Bl w w1):=K0.out.trans (hb1.mono K0.out.size);have bX1:=bX.keep hb1;have br1:=br.keep hb1;have HR1:Hid (bn w1 (X+1) (iT 0) nZ nZ nZ nZ nZ):=br1;have x0:=bX1.c0;have x1:=bX1.c1;have x2:=bX1.c2;have x3:=bX1.c3;have x4:=bX1.c4;have x5:=bX1.c5;have xf:=bX1.fz;have xz:=bX1.lt;have y0:=br1.c0;have y1:=br1.c1;have y2:=br1.c2;have y3:=br1.c3;have y4:=br1.c4;have y5:=br1.c5;have yf:=br1.fz;have yz:=br1.lt;clear hb1 bX1 br1 CTK bX br;go_wp2;refine bodyPost_ret (v:=.tuple #[.agg #[iT q,.slice am nm cm,sL e0 n0 c0,sL e1 n1 c1,sL e2 n2 c2,.slice ak nk ck],.bool false]) ?_ rfl (show rS _ _ _ _ _ _ _ _ _ _ _ _ _ _ from ⟨_,_,_,_,_,_,_,_,_,rfl,(fun h=>by cases h),?_⟩)
 · have e:=((((((HR1.out.set0 (iT q)).set1 (.slice am nm cm)).set2 (sL e0 n0 c0)).set3 (sL e1 n1 c1)).set4 (sL e2 n2 c2)).set5 (.slice ak nk ck));simp [results,Tryz.results66,go_sem,e.c0,e.c1,e.c2,e.c3,e.c4,e.c5]
 · have hx:w.heap.size≤X+1:=by have:=HX.out;omega
   exact ((li K1.out hx _ _ _ _).setCell (p:=⟨X+1,4,none⟩) hx _).setCell (p:=⟨X+1,5,none⟩) hx _
theorem vF (cb1 cb2:Nat) (q:Int) (am:Option Addr) (nm cm e0 n0 c0 e1 n1 c1 e2 n2 c2:Nat) (ak:Option Addr) (nk ck:Nat) (lv pk:Int) (A2 B2 C2:List ae) (OK:Bool) (w:World) (h1:w.cell? ⟨cb1,0,none⟩=some (iT lv)) (h2:w.cell? ⟨cb2,0,none⟩=some (iT pk))
 (hC:∀w',Bl w w'→Calls Tryz.prog 66 #[.agg #[iT q,.slice am nm cm,sL e0 n0 c0,sL e1 n1 c1,sL e2 n2 c2,.slice ak nk ck],iT lv,iT pk] w' (rS q am nm cm ak nk ck A2 B2 C2 OK w')) :
 Calls Tryz.prog 65 #[.agg #[iT q,.slice am nm cm,sL e0 n0 c0,sL e1 n1 c1,sL e2 n2 c2,.slice ak nk ck],.pointer (pT cb1),.pointer (pT cb2)] w (rS q am nm cm ak nk ck A2 B2 C2 OK w):=by
 obtain ⟨X,hX⟩:=ay w.heap.size;obtain ⟨W,hW⟩:=ay ((w.alloc (.cells #[iT q,.slice am nm cm,sL e0 n0 c0,sL e1 n1 c1,sL e2 n2 c2,.slice ak nk ck] 67)).alloc (.cells #[iT 0,nZ,nZ,nZ,nZ,nZ] 67));have kW:Bl w W:=by rw [hW];exact bZ.alloc (by simp) _
 have bX:bn W X (iT q) (.slice am nm cm) (sL e0 n0 c0) (sL e1 n1 c1) (sL e2 n2 c2) (.slice ak nk ck):=by rw [hW,hX];exact (bn.new _ _ _ _ _ _ _ _).alloc _
 have br:bn W (X+1) (iT 0) nZ nZ nZ nZ nZ:=by
  have:=bn.new (w.alloc (.cells #[iT q,.slice am nm cm,sL e0 n0 c0,sL e1 n1 c1,sL e2 n2 c2,.slice ak nk ck] 67)) 67 (iT 0) nZ nZ nZ nZ nZ;rw [World.size_alloc] at this;rw [hW,hX];exact this
 have bb:aw W (X+1) 67 6:=by
  have h2:=cZ (w.alloc (.cells #[iT q,.slice am nm cm,sL e0 n0 c0,sL e1 n1 c1,sL e2 n2 c2,.slice ak nk ck] 67)) #[iT 0,nZ,nZ,nZ,nZ,nZ] 67;rw [World.size_alloc] at h2;rw [hW,hX];exact h2
 have HX:Hid (X=w.heap.size):=hX;have K0:Hid (Bl w W):=kW;have CC:=hC W kW;have g1:=cell_later kW h1;have g2:=cell_later kW h2;have z1:=World.block_lt_of_cell? _ _ h1;have z2:=World.block_lt_of_cell? _ _ h2;simp only at z1 z2;have x0:=bX.c0;have x1:=bX.c1;have x2:=bX.c2;have x3:=bX.c3;have x4:=bX.c4;have x5:=bX.c5;have xf:=bX.fz;have xz:=bX.lt;clear kW hC;go_enter Tryz.func65,Tryz.ntmps65
 go_wp2_with fail
 rw [← hX,← hW];clear hX hW x0 x1 x2 x3 x4 x5 xf xz g1 g2 z1 z2 h1 h2;refine CC.mono ?_;rintro e w1 ⟨a0,m0,d0,a1,m1,d1,a2,m2,d2,rfl,hy,hb1⟩;have K1:Hid (Bl w w1):=K0.out.trans (hb1.mono K0.out.size);have br1:=br.keep hb1;have HR1:Hid (bn w1 (X+1) (iT 0) nZ nZ nZ nZ nZ):=br1;have HT1:Hid (m8 w1 (X+1)):=eY (bb.below hb1) br1;have HY:Hid (OK=true→aj 0 w1 a0 m0 d0 A2∧aj 0 w1 a1 m1 d1 B2∧aj 0 w1 a2 m2 d2 C2):=hy;have y0:=br1.c0;have y1:=br1.c1;have y2:=br1.c2;have y3:=br1.c3;have y4:=br1.c4;have y5:=br1.c5;have yf:=br1.fz;have yz:=br1.lt;clear hb1 br1 CC bX br bb hy;go_wp2;refine bodyPost_ret (v:=.tuple #[.agg #[iT q,.slice am nm cm,.slice a0 m0 d0,.slice a1 m1 d1,.slice a2 m2 d2,.slice ak nk ck],.bool OK]) ?_ rfl (show rS _ _ _ _ _ _ _ _ _ _ _ _ _ _ from ⟨a0,m0,d0,a1,m1,d1,a2,m2,d2,rfl,fun h=>?_,?_⟩)
 · have e:=((((((HR1.out.set0 (iT q)).set1 (.slice am nm cm)).set2 (.slice a0 m0 d0)).set3 (.slice a1 m1 d1)).set4 (.slice a2 m2 d2)).set5 (.slice ak nk ck));simp [results,Tryz.results65,go_sem,e.c0,e.c1,e.c2,e.c3,e.c4,e.c5]
 · obtain ⟨r0,r1,r2⟩:=HY.out h;have hs:=Nat.le_of_eq (dW w1 (X+1) (iT q) (.slice am nm cm) (.slice a0 m0 d0) (.slice a1 m1 d1) (.slice a2 m2 d2) (.slice ak nk ck)).symm;have hc:=dG w1 (X+1) (iT q) (.slice am nm cm) (.slice a0 m0 d0) (.slice a1 m1 d1) (.slice a2 m2 d2) (.slice ak nk ck);exact ⟨r0.apartX HT1.out hs hc,r1.apartX HT1.out hs hc,r2.apartX HT1.out hs hc⟩
 · have hx:w.heap.size≤X+1:=by have:=HX.out;omega
   exact ((li K1.out hx _ _ _ _).setCell (p:=⟨X+1,4,none⟩) hx _).setCell (p:=⟨X+1,5,none⟩) hx _
theorem BE {q:Int} {am ak:Option Addr} {nm cm nk ck:Nat} {A2 B2 C2:List ae} {M:List ac} {S:List Int} {w w':World} {e:Ending} (h:rS q am nm cm ak nk ck A2 B2 C2 true w e w') (hM:af w am nm cm M) (hS:aT 0 w ak nk ck S):B6 q M A2 B2 C2 S w e w':=by
 obtain ⟨a0,m0,d0,a1,m1,d1,a2,m2,d2,rfl,hy,hb⟩:=h;obtain ⟨r0,r1,r2⟩:=hy rfl;exact ⟨_,_,_,_,_,_,_,_,_,_,_,_,_,_,_,rfl,⟨hM.keep hb,r0,r1,r2,hS.keep hb⟩,hb⟩
theorem BF {q:Int} {am ak:Option Addr} {nm cm nk ck:Nat} {A2 B2 C2:List ae} {w w':World} {e:Ending} (h:rS q am nm cm ak nk ck A2 B2 C2 false w e w'):B7 w e w':=by
 obtain ⟨a0,m0,d0,a1,m1,d1,a2,m2,d2,rfl,_,hb⟩:=h;exact ⟨_,_,_,_,_,_,_,_,_,_,_,_,_,_,_,_,rfl,hb⟩
theorem jd (q:Int) (am:Option Addr) (nm cm:Nat) (av:Option Addr) (nv cv:Nat) (ak:Option Addr) (nk ck:Nat) (lv pk:Int) (q2:Int) (M2:List ac) (V2:List (List ae)) (S2:List Int) (ok:Bool) (w:World)
 (hC:∀w',Bl w w'→w'.cell? ⟨w.heap.size+1,0,none⟩=some (iT lv)→w'.cell? ⟨w.heap.size+1+1,0,none⟩=some (iT pk)→Calls Tryz.prog 42 #[.agg #[iT q,.slice am nm cm,.slice av nv cv,.slice ak nk ck],.func (.func 65) #[] #[.pointer (some ⟨w.heap.size+1,0,none⟩),.pointer (some ⟨w.heap.size+1+1,0,none⟩)]] w' (m9 q2 M2 V2 S2 ok w')) :
 Calls Tryz.prog 31 #[.agg #[iT q,.slice am nm cm,.slice av nv cv,.slice ak nk ck],iT lv,iT pk] w (m9 q2 M2 V2 S2 ok w):=by
 obtain ⟨X,hX⟩:=ay w.heap.size;obtain ⟨W,hW⟩:=ay ((((w.alloc (.cells #[iT q,.slice am nm cm,.slice av nv cv,.slice ak nk ck] 31)).alloc (.cells #[iT lv] 3)).alloc (.cells #[iT pk] 3)).alloc (.cells #[iT 0,nZ,nZ,nZ] 31));have kW:Bl w W:=by rw [hW];exact (((bZ.alloc (by simp;try omega) _).alloc (by simp;try omega) _).alloc (by simp;try omega) _)
 have br:aF W (X+1+1+1) (iT 0) nZ nZ nZ:=by
  have:=aF.new (((w.alloc (.cells #[iT q,.slice am nm cm,.slice av nv cv,.slice ak nk ck] 31)).alloc (.cells #[iT lv] 3)).alloc (.cells #[iT pk] 3)) 31 (iT 0) nZ nZ nZ;simp only [World.size_alloc] at this;rw [hW,hX];exact this
 have HX:Hid (X=w.heap.size):=hX;have K0:Hid (Bl w W):=kW;have CT:Hid (Calls Tryz.prog 42 #[.agg #[iT q,.slice am nm cm,.slice av nv cv,.slice ak nk ck],.func (.func 65) #[] #[.pointer (some ⟨X+1,0,none⟩),.pointer (some ⟨X+1+1,0,none⟩)]] W (m9 q2 M2 V2 S2 ok W)):=by
  try rw [hX]
  refine hC W kW ?_ ?_
  · rw [hW];have h1:=dx (w.alloc (.cells #[iT q,.slice am nm cm,.slice av nv cv,.slice ak nk ck] 31)) (iT lv) 3 0 _ rfl;rw [Go.WideShapes.add_plain,World.size_alloc] at h1;exact cell_later bZ (cell_later bZ h1)
  · rw [hW];have h1:=dx ((w.alloc (.cells #[iT q,.slice am nm cm,.slice av nv cv,.slice ak nk ck] 31)).alloc (.cells #[iT lv] 3)) (iT pk) 3 0 _ rfl;rw [Go.WideShapes.add_plain,World.size_alloc,World.size_alloc] at h1;exact cell_later bZ h1
 have HXL:Hid (X+1+1+1<W.heap.size):=br.lt;clear kW hC;go_enter Tryz.func31,Tryz.ntmps31
 go_wp2_with fail
 rw [← hX,← hW];clear hX hW;refine CT.out.mono ?_;rintro e w1 ⟨a1,n1,a2,n2,a3,n3,gs,bs,es,rfl,hR1,hb1⟩;have K1:Hid (Bl w w1):=K0.out.trans (hb1.mono K0.out.size);have HR1:Hid (gH W.heap.size w1.heap.size w1 a1 n1 a2 n2 a3 n3 M2 V2 S2 gs bs es):=hR1;have br1:=br.keep hb1;have HB1:Hid (aF w1 (X+1+1+1) (iT 0) nZ nZ nZ):=br1;have r0:=br1.c0;have r1:=br1.c1;have r2:=br1.c2;have r3:=br1.c3;have rf:=br1.fz;have rz:=br1.lt;clear hb1 br hR1 CT br1;go_wp2;refine bodyPost_ret (v:=.tuple #[.agg #[iT q2,.slice a1 n1 n1,.slice a2 n2 n2,.slice a3 n3 n3],.bool ok]) ?_ rfl ⟨a1,n1,a2,n2,a3,n3,gs,bs,es,rfl,?_,?_⟩
 · have e:=(((HB1.out.set0 (iT q2)).set1 (.slice a1 n1 n1)).set2 (.slice a2 n2 n2)).set3 (.slice a3 n3 n3);simp [results,Tryz.results31,go_sem,e.c0,e.c1,e.c2,e.c3]
 · exact xA HR1.out HXL.out K0.out.size (by simp [World.setCell]) _ _ _ _
 · have hx:w.heap.size≤X+1+1+1:=by have:=HX.out;omega
   exact li K1.out hx _ _ _ _
theorem ll {q:Int} {M:List ac} {A B C:List ae} {S:List Int} (htb:bV q M [A,B,C] S=true):(A.length≤4∧B.length≤8∧C.length≤8)∧(∀Z ∈ [A,B,C],∀r ∈ Z,cW r.1 r.2=true)∧bl B=true∧bl C=true:=by
 have h8:gL [A,B,C] q=true:=(bH htb).2.2.2.2.2.2.2.1;unfold gL at h8;simp only [Bool.and_eq_true] at h8;obtain ⟨hA,hB,hC⟩:=h8;rw [ls] at hA hB hC;have hb:∀{Z:List ae},eR Z=false→∀r ∈ Z,cW r.1 r.2=true:=fun {Z} h r hr=>by
  unfold eR at h;rw [List.any_eq_false] at h;simpa using h r hr
 refine ⟨⟨by have:=hA.1;omega,by have:=hB.1;omega,by have:=hC.1;omega⟩,fun Z hZ=>?_,hB.2.2.2 rfl,hC.2.2.2 rfl⟩;simp only [List.mem_cons,List.not_mem_nil,or_false] at hZ;rcases hZ with rfl | rfl | rfl
 · exact hb hA.2.1
 · exact hb hB.2.1
 · exact hb hC.2.1
theorem vL {q:Int} {M:List ac} {A B C:List ae} {S:List Int} (htb:bV q M [A,B,C] S=true):jD ((aH A).flatten++((aH B).flatten++(aH C).flatten)):=by
 have h:=jk (rW htb) (uU M A B C);exact List.Pairwise.sublist (List.sublist_append_right _ _) h
theorem qV {Z:List ae} (h:∀r ∈ Z,cW r.1 r.2=true):∀r ∈ Z,az r.1=true∧1≤r.1.length:=fun r hr=>⟨(aO (h r hr)).2.2.1,(aO (h r hr)).1⟩
theorem BV {q:Int} {M:List ac} {A B C:List ae} {S:List Int} (htb:bV q M [A,B,C] S=true) (hA:1≤A.length):fD A B:=by
 obtain ⟨_,h2,h3,_⟩:=ll htb;exact ⟨hA,qV (h2 A (by simp)),qV (h2 B (by simp)),h3,List.Pairwise.sublist (List.Sublist.append (List.Sublist.refl _) (List.sublist_append_left _ _)) (vL htb)⟩
theorem BU {q:Int} {M:List ac} {A B C:List ae} {S:List Int} (htb:bV q M [A,B,C] S=true) {p:Nat} (hp:p<B.length):fD ((B.drop p).take 1) C:=by
 obtain ⟨_,h2,_,h4⟩:=ll htb;have hs:((B.drop p).take 1).Sublist B:=(List.take_sublist _ _).trans (List.drop_sublist _ _);refine ⟨by rw [List.length_take,List.length_drop];omega,fun r hr=>qV (h2 B (by simp)) r (hs.subset hr),qV (h2 C (by simp)),h4,?_⟩;exact List.Pairwise.sublist ((List.Sublist.append (qy (hs.map _)) (List.Sublist.refl _)).trans (List.sublist_append_right _ _)) (vL htb)
theorem xJ {Z:List ae} (h:∀r ∈ Z,r.1.length≤150):(aH Z).flatten.length≤150*Z.length:=by
 induction Z with
 | nil=>simp [aH]
 | cons r Z ih =>
  have h1:=h r (by simp);have h2:=ih (fun x hx=>h x (by simp [hx]));simp only [aH,List.map_cons,List.flatten_cons,List.length_append,List.length_cons] at h2 ⊢;omega
theorem wP {T N:List ae} (hT:∀r ∈ T,r.1.length≤150) (hN:∀r ∈ N,r.1.length≤150) (hl:T.length+N.length≤100):(aH (cf T N)).flatten.length≤100000:=by
 have h:=xJ (Z:=cf T N) (fun r hr=>by
  rcases List.mem_append.1 hr with h1 | h1
  · exact hT r h1
  · exact hN r ((ms T N).subset h1))
 have h2:(cf T N).length≤T.length+N.length:=by
  unfold cf;rw [List.length_append];have:=(ms T N).length_le;omega
 omega
def ef (Z:List ae):Prop:=Z.length≤8∧∀r ∈ Z,1≤r.1.length∧r.1.length≤150∧mD r.1
theorem jO {L:List ac} (h:az L=true):mD L:=fun e he=>by
 obtain ⟨j,hj,rfl⟩:=List.getElem_of_mem he
 exact pf (ep h (List.getElem?_eq_getElem hj))
theorem eC {Z:List ae} (hl:Z.length≤8) (h:∀r ∈ Z,cW r.1 r.2=true):ef Z:=⟨hl,fun r hr=>⟨(aO (h r hr)).1,(aO (h r hr)).2.1,jO (aO (h r hr)).2.2.1⟩⟩
theorem z7:ef []:=⟨by simp,fun r hr=>by cases hr⟩
theorem tI {T N C:List ae} {S:List Int} {nx:Int} (h:fD T N) (hN:∀r ∈ N,cW r.1 r.2=true) (hok:ku T N C S nx=true):ef (dw T N C S nx):=by
 unfold ku at hok;rw [Bool.and_eq_true,decide_eq_true_eq] at hok;refine ⟨hok.2,fun r hr=>?_⟩;have hf:=hok.1;unfold cV at hf;have h150:=of_decide_eq_true ((List.all_eq_true.1 hf) r hr);rcases mh _ _ hr with h1 | h1
 · have h2:=aO (hN r (List.mem_filter.1 h1).1);exact ⟨h2.1,h2.2.1,jO h2.2.2.1⟩
 · refine ⟨rF h1,h150,fun e he=>?_⟩;exact jO (fZ h.right S _) e (wI h1 e he)
theorem zZ {Z Y:List ae} (h:ef Z) (hs:Y.Sublist Z):ef Y:=⟨by have:=hs.length_le;have:=h.1;omega,fun r hr=>h.2 r (hs.subset hr)⟩
theorem z6 {M:List ac} {S:List Int} {A B C:List ae} (hM:M.length≤60) (hr:az M=true) (hS:S.length≤4) (hA:ef A) (hB:ef B) (hC:ef C):wQ M A B C S:=by
 have hs:∀{Z:List ae},ef Z→fC Z:=fun {Z} h=>⟨by have:=h.1;omega,fun p hp=>by have:=(h.2 p hp).2.1;omega⟩
 exact ⟨by omega,by omega,jO hr,hs hA,hs hB,hs hC,fun p hp=>(hA.2 p hp).2.2,fun p hp=>(hB.2 p hp).2.2,fun p hp=>(hC.2 p hp).2.2⟩
theorem lE:∀{Z:List ae},(∀r ∈ Z,r.1.length≤150)→eu Z≤751*Z.length
 | [],_=>by simp [eu]
 | r :: Z,h=>by
  have h1:=h r (by simp)
  have h2:=lE (Z:=Z) (fun x hx=>h x (by simp [hx]))
  simp only [eu,List.map_cons,List.sum_cons,List.length_cons] at h2 ⊢
  omega
theorem my {M:List ac} {S:List Int} {A B C:List ae} (hM:M.length≤60) (hS:S.length≤4) (hA:ef A) (hB:ef B) (hC:ef C):rP M [A,B,C] S:=by
 refine ⟨by omega,by simp,fun Z hZ=>?_,by omega,?_⟩
 · simp only [List.mem_cons,List.not_mem_nil,or_false] at hZ;rcases hZ with rfl | rfl | rfl
   · exact ⟨by have:=hA.1;omega,fun p hp=>by have:=(hA.2 p hp).2.1;omega⟩
   · exact ⟨by have:=hB.1;omega,fun p hp=>by have:=(hB.2 p hp).2.1;omega⟩
   · exact ⟨by have:=hC.1;omega,fun p hp=>by have:=(hC.2 p hp).2.1;omega⟩
 · have h1:=lE (Z:=A) (fun r hr=>(hA.2 r hr).2.1);have h2:=lE (Z:=B) (fun r hr=>(hB.2 r hr).2.1);have h3:=lE (Z:=C) (fun r hr=>(hC.2 r hr).2.1);have h4:=hA.1;have h5:=hB.1;have h6:=hC.1;have e:eP [A,B,C]=eu A+(eu B+eu C):=by simp [eP]
   rw [e];omega
theorem kT {A B C:List ae} (hA:ef A) (hB:ef B) (hC:ef C):∀Z ∈ [A,B,C],Z.length≤100∧∀r ∈ Z,1≤r.1.length∧r.1.length≤10000:=fun Z hZ=>by
 have key:∀{Z:List ae},ef Z→Z.length≤100∧∀r ∈ Z,1≤r.1.length∧r.1.length≤10000:=fun {Z} h=>⟨by have:=h.1;omega,fun r hr=>⟨(h.2 r hr).1,by have:=(h.2 r hr).2.1;omega⟩⟩
 simp only [List.mem_cons,List.not_mem_nil,or_false] at hZ
 rcases hZ with rfl | rfl | rfl
 · exact key hA
 · exact key hB
 · exact key hC
theorem nf {q:Int} {M:List ac} {V:List (List ae)} {S:List Int} (htb:bV q M V S=true):S.length≤4:=by
 have h1:=(bH htb).2.2.2.2.2.2.1;unfold dl at h1;rw [Bool.and_eq_true] at h1;exact of_decide_eq_true h1.1
theorem jz (q lv pk:Int) (nm nv ns:Nat) (M:List ac) (A B C A2 B2 C2:List ae) (S:List Int) (ok:Bool) (htb:bV q M [A,B,C] S=true) (hA2:ef A2) (hB2:ef B2) (hC2:ef C2) (hno:ok=false→A2=A∧B2=B∧C2=C)
 (hD:∀(base g1 c1 G c g3 c3:Nat) (w':World),dy base w' g1 nm c1 G 3 c g3 ns c3 M [A,B,C] S→base≤w'.heap.size→Calls Tryz.prog 64 #[.agg #[iT q,sL g1 nm c1,sL G 3 c,sL g3 ns c3],iT lv,iT pk] w' (jb g3 q nm ns M [A2,B2,C2] S ok w'))
 (hI:∀(am:Option Addr) (nm cm e0 n0 c0 e1 n1 c1 e2 n2 c2:Nat) (ak:Option Addr) (nk ck:Nat) (w:World),ps w am nm cm (pT e0) n0 c0 (pT e1) n1 c1 (pT e2) n2 c2 ak nk ck M A B C S→Calls Tryz.prog 66 #[.agg #[iT q,.slice am nm cm,sL e0 n0 c0,sL e1 n1 c1,sL e2 n2 c2,.slice ak nk ck],iT lv,iT pk] w (rS q am nm cm ak nk ck A2 B2 C2 ok w)) :
 (∀(a b c:Nat) (w':World),aM 0 w' (pT a) nm nm (pT b) nv nv (pT c) ns ns M [A,B,C] S→fj w' b [A,B,C]→Calls Tryz.prog 30 #[.agg #[iT q,sL a nm nm,sL b nv nv,sL c ns ns],iT lv,iT pk] w' (t8 q M [A2,B2,C2] S ok w')) ∧
 (∀(a b c:Nat) (w':World),aM 0 w' (pT a) nm nm (pT b) nv nv (pT c) ns ns M [A,B,C] S→fj w' b [A,B,C]→Calls Tryz.prog 31 #[.agg #[iT q,sL a nm nm,sL b nv nv,sL c ns ns],iT lv,iT pk] w' (m9 q M [A2,B2,C2] S ok w')):=by
 refine ⟨fun a b c w' hT _=>?_,fun a b c w' hT hN=>?_⟩
 · have hnv:nv=3:=hT.levels.length.symm;subst hnv;exact l7 lv pk 0 q a nm nm _ 3 c ns ns M [A,B,C] S [A2,B2,C2] ok w' hT htb hD (kT hA2 hB2 hC2)
 · refine jd q _ nm nm _ nv nv _ ns ns lv pk q M [A2,B2,C2] S ok w' (fun w2 k2 hc1 hc2=>?_);obtain ⟨A',B',C',e0,n0,c0,e1,n1,c1,e2,n2,c2,rfl,hV',hsh,hCS⟩:=(hT.keep k2).shareN htb (hN.keep k2);cases hV';have hM60:=(bH htb).2.2.1;have hr:=(bH htb).2.2.2.1;have hS4:=nf htb;have hout2:=z6 hM60 hr hS4 hA2 hB2 hC2;have hclo:∀w3,Bl w2 w3→Calls Tryz.prog 65 #[.agg #[iT q,sL a nm nm,sL e0 n0 c0,sL e1 n1 c1,sL e2 n2 c2,sL c ns ns],.pointer (some ⟨w'.heap.size+1,0,none⟩),.pointer (some ⟨w'.heap.size+1+1,0,none⟩)] w3 (rS q (pT a) nm nm (pT c) ns ns A2 B2 C2 ok w3):=fun w3 k3 =>
    vF _ _ q _ nm nm e0 n0 c0 e1 n1 c1 e2 n2 c2 _ ns ns lv pk A2 B2 C2 ok w3 (cell_later k3 hc1) (cell_later k3 hc2) (fun w4 k4=>hI _ nm nm e0 n0 c0 e1 n1 c1 e2 n2 c2 _ ns ns w4 ((hsh.keep k3).keep k4))
   cases ok with
   | true =>
    exact lV (w'.heap.size+1) (w'.heap.size+1+1) q _ nm nm b 0 3 _ ns ns (pT e0) n0 c0 (pT e1) n1 c1 (pT e2) n2 c2 q M A2 B2 C2 S w2 hCS (fun w3 k3=>(hclo w3 k3).mono (fun e w4 h4=>BE h4 (hsh.keep k3).mem (hsh.keep k3).sn)) hout2
   | false =>
    obtain ⟨rfl,rfl,rfl⟩:=hno rfl;exact lW (w'.heap.size+1) (w'.heap.size+1+1) q _ nm nm b 0 3 _ ns ns (pT e0) n0 c0 (pT e1) n1 c1 (pT e2) n2 c2 M A2 B2 C2 S w2 hsh hCS (fun w3 k3=>(hclo w3 k3).mono (fun e w4 h4=>BF h4)) hout2
end Go.Proofs.YtlmgojlffgkciaaGreat
