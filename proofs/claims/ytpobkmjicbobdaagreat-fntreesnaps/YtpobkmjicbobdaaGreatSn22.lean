/- Walks. -/
import Derived.Test.YtpobkmjicbobdaaGreatSn21
namespace Go.Proofs.YtpobkmjicbobdaaGreat
set_option maxRecDepth 100000
set_option maxHeartbeats 40000000
open Go.RowKit
variable {A C:List af} {M:List ac} {S:List Int} {V:List (List af)} {ak am:Option Addr} {b b1 b2 b3 ck cm hi hi' lo lo' nk nm ns nv:Nat} {bs gs:Nat→Nat} {e:Ending} {es:Nat→Nat→Nat} {q:Int} {u0 u1 u2 u3 u4 u5:Value} {w w':World} {xs:List Value}
structure bE (w:World) (b:Nat) (u0 u1 u2 u3 u4 u5:Value):Prop where
 c0:w.cell? ⟨b,0,none⟩=some u0
 c1:w.cell? ⟨b,1,none⟩=some u1
 c2:w.cell? ⟨b,2,none⟩=some u2
 c3:w.cell? ⟨b,3,none⟩=some u3
 c4:w.cell? ⟨b,4,none⟩=some u4
 c5:w.cell? ⟨b,5,none⟩=some u5
 fz:∀o,w.frozen? ⟨b,o,none⟩=false
theorem bE.lt (h:bE w b u0 u1 u2 u3 u4 u5):b<w.heap.size:=World.block_lt_of_cell? w _ h.c0
theorem bE.new (w:World) (t:TypeId) (u0 u1 u2 u3 u4 u5:Value):bE (w.alloc (.cells #[u0,u1,u2,u3,u4,u5] t)) w.heap.size u0 u1 u2 u3 u4 u5:=⟨by simp,by simp,by simp,by simp,by simp,by simp,fun o=>by simp⟩
theorem bE.below {B:Nat} (h:bE w b u0 u1 u2 u3 u4 u5) (hb:Below B w w') (hB:b<B):bE w' b u0 u1 u2 u3 u4 u5 :=
 ⟨(hb.cell (p:=⟨b,0,none⟩) hB).trans h.c0,(hb.cell (p:=⟨b,1,none⟩) hB).trans h.c1,(hb.cell (p:=⟨b,2,none⟩) hB).trans h.c2,(hb.cell (p:=⟨b,3,none⟩) hB).trans h.c3,(hb.cell (p:=⟨b,4,none⟩) hB).trans h.c4,(hb.cell (p:=⟨b,5,none⟩) hB).trans h.c5,fun o=>(World.frozen?_of_block (hb.block b hB)).trans (h.fz o)⟩
theorem bE.keep (h:bE w b u0 u1 u2 u3 u4 u5) (hb:Bl w w'):bE w' b u0 u1 u2 u3 u4 u5:=h.below hb h.lt
theorem bE.alloc (h:bE w b u0 u1 u2 u3 u4 u5) (o:Obj):bE (w.alloc o) b u0 u1 u2 u3 u4 u5:=h.keep bZ
theorem bE.other (h:bE w b u0 u1 u2 u3 u4 u5) {b' o:Nat} (hp:b'≠b) (x:Value):bE (w.setCell ⟨b',o,none⟩ x) b u0 u1 u2 u3 u4 u5 :=
 ⟨(aj x (fun e=>hp e.1.symm)).trans h.c0,(aj x (fun e=>hp e.1.symm)).trans h.c1,(aj x (fun e=>hp e.1.symm)).trans h.c2,(aj x (fun e=>hp e.1.symm)).trans h.c3,(aj x (fun e=>hp e.1.symm)).trans h.c4,(aj x (fun e=>hp e.1.symm)).trans h.c5,fun o=>by rw [World.frozen?_setCell];exact h.fz o⟩
theorem bE.set0 (h:bE w b u0 u1 u2 u3 u4 u5) (x:Value):bE (w.setCell ⟨b,0,none⟩ x) b x u1 u2 u3 u4 u5 :=
 ⟨World.cell?_setCell_same' _ _ _ (by rw [h.c0];rfl),(aj x (by simp)).trans h.c1,(aj x (by simp)).trans h.c2,(aj x (by simp)).trans h.c3,(aj x (by simp)).trans h.c4,(aj x (by simp)).trans h.c5,fun o=>by rw [World.frozen?_setCell];exact h.fz o⟩
theorem bE.set1 (h:bE w b u0 u1 u2 u3 u4 u5) (x:Value):bE (w.setCell ⟨b,1,none⟩ x) b u0 x u2 u3 u4 u5 :=
 ⟨(aj x (by simp)).trans h.c0,World.cell?_setCell_same' _ _ _ (by rw [h.c1];rfl),(aj x (by simp)).trans h.c2,(aj x (by simp)).trans h.c3,(aj x (by simp)).trans h.c4,(aj x (by simp)).trans h.c5,fun o=>by rw [World.frozen?_setCell];exact h.fz o⟩
theorem bE.set2 (h:bE w b u0 u1 u2 u3 u4 u5) (x:Value):bE (w.setCell ⟨b,2,none⟩ x) b u0 u1 x u3 u4 u5 :=
 ⟨(aj x (by simp)).trans h.c0,(aj x (by simp)).trans h.c1,World.cell?_setCell_same' _ _ _ (by rw [h.c2];rfl),(aj x (by simp)).trans h.c3,(aj x (by simp)).trans h.c4,(aj x (by simp)).trans h.c5,fun o=>by rw [World.frozen?_setCell];exact h.fz o⟩
theorem bE.set3 (h:bE w b u0 u1 u2 u3 u4 u5) (x:Value):bE (w.setCell ⟨b,3,none⟩ x) b u0 u1 u2 x u4 u5 :=
 ⟨(aj x (by simp)).trans h.c0,(aj x (by simp)).trans h.c1,(aj x (by simp)).trans h.c2,World.cell?_setCell_same' _ _ _ (by rw [h.c3];rfl),(aj x (by simp)).trans h.c4,(aj x (by simp)).trans h.c5,fun o=>by rw [World.frozen?_setCell];exact h.fz o⟩
theorem bE.set4 (h:bE w b u0 u1 u2 u3 u4 u5) (x:Value):bE (w.setCell ⟨b,4,none⟩ x) b u0 u1 u2 u3 x u5 :=
 ⟨(aj x (by simp)).trans h.c0,(aj x (by simp)).trans h.c1,(aj x (by simp)).trans h.c2,(aj x (by simp)).trans h.c3,World.cell?_setCell_same' _ _ _ (by rw [h.c4];rfl),(aj x (by simp)).trans h.c5,fun o=>by rw [World.frozen?_setCell];exact h.fz o⟩
theorem bE.set5 (h:bE w b u0 u1 u2 u3 u4 u5) (x:Value):bE (w.setCell ⟨b,5,none⟩ x) b u0 u1 u2 u3 u4 x :=
 ⟨(aj x (by simp)).trans h.c0,(aj x (by simp)).trans h.c1,(aj x (by simp)).trans h.c2,(aj x (by simp)).trans h.c3,(aj x (by simp)).trans h.c4,World.cell?_setCell_same' _ _ _ (by rw [h.c5];rfl),fun o=>by rw [World.frozen?_setCell];exact h.fz o⟩
theorem pC (lo:Nat) (sq:Int) (am ak:Option Addr) (nm cm b o cv nk ck:Nat) (M:List ac) (A B C:List af) (S:List Int) (a0 a1 a2:Option Addr) (n0 c0 n1 c1 n2 c2:Nat) (w:World) (hM:aq w am nm cm M) (hS:aH lo w ak nk ck S) (h0:aw lo w a0 n0 c0 A) (h1:aw lo w a1 n1 c1 B) (h2:aw lo w a2 n2 c2 C)
 (l0:w.cell? ⟨b,o,none⟩=some (.slice a0 n0 c0)) (l1:w.cell? ⟨b,o+1,none⟩=some (.slice a1 n1 c1)) (l2:w.cell? ⟨b,o+2,none⟩=some (.slice a2 n2 c2)) :
 Calls Tryz.prog 86 #[.agg #[iT sq,.slice am nm cm,sO b o 3 cv,.slice ak nk ck]] w fun e w'=>e=.returned (.tuple #[.agg #[iT sq,.slice am nm cm,.slice a0 n0 c0,.slice a1 n1 c1,.slice a2 n2 c2,.slice ak nk ck],.bool (aW sq M [A,B,C] S)])∧Bl w w':=by
 have hbw:=World.block_lt_of_cell? _ _ l0;simp only at hbw;obtain ⟨X,hX⟩:=aI w.heap.size;obtain ⟨W,hW⟩:=aI (((w.alloc (.cells #[iT sq,.slice am nm cm,sO b o 3 cv,.slice ak nk ck] 31)).alloc (.cells #[iT 0,nZ,nZ,nZ,nZ,nZ] 82)).alloc (.cells #[iT sq,.slice am nm cm,nZ,nZ,nZ,.slice ak nk ck] 82));have kW:Bl w W:=by rw [hW];exact (bZ.alloc (by simp) _).alloc (by simp;omega) _
 have xa:(w.alloc (.cells #[iT sq,.slice am nm cm,sO b o 3 cv,.slice ak nk ck] 31)).cell? ⟨X,2,none⟩=some (sO b o 3 cv):=by rw [hX];simp
 have x2:W.cell? ⟨X,2,none⟩=some (sO b o 3 cv):=by
  rw [hW];exact cell_later bZ (cell_later bZ xa)
 have br:bE W (X+1) (iT 0) nZ nZ nZ nZ nZ:=by
  have:=(bE.new (w.alloc (.cells #[iT sq,.slice am nm cm,sO b o 3 cv,.slice ak nk ck] 31)) 82 (iT 0) nZ nZ nZ nZ nZ).alloc (.cells #[iT sq,.slice am nm cm,nZ,nZ,nZ,.slice ak nk ck] 82);rw [World.size_alloc] at this;rw [hW,hX];exact this
 have bs:bE W (X+1+1) (iT sq) (.slice am nm cm) nZ nZ nZ (.slice ak nk ck):=by
  have:=bE.new ((w.alloc (.cells #[iT sq,.slice am nm cm,sO b o 3 cv,.slice ak nk ck] 31)).alloc (.cells #[iT 0,nZ,nZ,nZ,nZ,nZ] 82)) 82 (iT sq) (.slice am nm cm) nZ nZ nZ (.slice ak nk ck);rw [World.size_alloc,World.size_alloc] at this;rw [hW,hX];exact this
 have k0:=cell_later kW l0;have k1:=cell_later kW l1;have k2:=cell_later kW l2;have hcp:(Builtin.copy_ #[29,29] 3 #[.slice (some ⟨X+1+1,2,none⟩) 3 3,sO b o 3 cv]).run Tryz.prog W.drew=.ok (goInt 3) (W.drew.setCells (X+1+1) 2 [.slice a0 n0 c0,.slice a1 n1 c1,.slice a2 n2 c2]):=by
  refine run_copy_cells (P:=Tryz.prog) W.drew 29 29 3 61 (X+1+1) 2 3 3 ⟨b,o,none⟩ 3 cv [.slice a0 n0 c0,.slice a1 n1 c1,.slice a2 n2 c2] Tryz.underlying29 (by kernel_rfl) rfl ?_ ?_ ?_ ?_
  · intro j v hj;rw [Go.WideShapes.add_plain];match j,hj with
    | 0,hj=>simp at hj;subst hj;exact k0
    | 1,hj=>simp at hj;subst hj;exact k1
    | 2,hj=>simp at hj;subst hj;exact k2
  · intro j hj;match j,hj with
    | 0,_=>exact Option.isSome_iff_exists.2 ⟨_,bs.c2⟩
    | 1,_=>exact Option.isSome_iff_exists.2 ⟨_,bs.c3⟩
    | 2,_=>exact Option.isSome_iff_exists.2 ⟨_,bs.c4⟩
  · exact fun j _=>bs.fz _
  · intro v hv;simp at hv;rcases hv with rfl | rfl | rfl <;> rfl
 have HM:=bQ hM;have HS:=bQ hS;have H0:=bQ h0;have H1:=bQ h1;have H2:=bQ h2;have KW:Hid (Bl w W):=kW;have HX:Hid (X=w.heap.size):=hX;clear hM hS h0 h1 h2 kW l0 l1 l2 k0 k1 k2 xa;go_enter Tryz.func86,Tryz.ntmps86
 go_upto_region 4 with fail
 rw [← hX,← hW];clear hX hW;have zX:X<W.heap.size:=World.block_lt_of_cell? _ _ x2;have zS:=bs.lt;go_region_with (fail)
 obtain ⟨W2,hW2⟩:=aI (W.drew.setCells (X+1+1) 2 [.slice a0 n0 c0,.slice a1 n1 c1,.slice a2 n2 c2]);have hW2':W2=((W.drew.setCell ⟨X+1+1,2,none⟩ (.slice a0 n0 c0)).setCell ⟨X+1+1,3,none⟩ (.slice a1 n1 c1)).setCell ⟨X+1+1,4,none⟩ (.slice a2 n2 c2):=by rw [hW2];rfl
 have bs2:bE W2 (X+1+1) (iT sq) (.slice am nm cm) (.slice a0 n0 c0) (.slice a1 n1 c1) (.slice a2 n2 c2) (.slice ak nk ck):=by
  have d:bE W.drew (X+1+1) (iT sq) (.slice am nm cm) nZ nZ nZ (.slice ak nk ck):=⟨bs.c0,bs.c1,bs.c2,bs.c3,bs.c4,bs.c5,bs.fz⟩;rw [hW2'];exact ((d.set2 _).set3 _).set4 _
 have br2:bE W2 (X+1) (iT 0) nZ nZ nZ nZ nZ:=by
  have d:bE W.drew (X+1) (iT 0) nZ nZ nZ nZ nZ:=⟨br.c0,br.c1,br.c2,br.c3,br.c4,br.c5,br.fz⟩;rw [hW2'];exact ((d.other (by omega) _).other (by omega) _).other (by omega) _
 have K2:Hid (Bl w W2):=by
  have hx:w.heap.size≤X+1+1:=by have:=HX.out;omega
  rw [hW2'];exact ((KW.out.drew.setCell (p:=⟨X+1+1,2,none⟩) hx _).setCell (p:=⟨X+1+1,3,none⟩) hx _).setCell (p:=⟨X+1+1,4,none⟩) hx _
 rw [← hW2];clear hW2 hW2' hcp x2 bs br zS zX KW hbw;have HBR:Hid (bE W2 (X+1) (iT 0) nZ nZ nZ nZ nZ):=br2;have y0:=bs2.c0;have y1:=bs2.c1;have y2:=bs2.c2;have y3:=bs2.c3;have y4:=bs2.c4;have y5:=bs2.c5;have zS:=bs2.lt;have HBS:Hid (bE W2 (X+1+1) (iT sq) (.slice am nm cm) (.slice a0 n0 c0) (.slice a1 n1 c1) (.slice a2 n2 c2) (.slice ak nk ck)):=bs2;clear br2 bs2;go_upto_region 5 with fail
 go_region_with (go_at_call 142;refine (xQ lo sq am ak nm cm nk ck a0 a1 a2 n0 c0 n1 c1 n2 c2 M A B C S _ (HM.out.keep K2.out.drew) (HS.out.keep K2.out.drew) (H0.out.keep K2.out.drew) (H1.out.keep K2.out.drew) (H2.out.keep K2.out.drew)).mono ?_;rintro e w5 ⟨rfl,hb5⟩;have k5:Bl W2 w5:=((Below.refl _ W2).drew).trans hb5;have y0':=cell_later k5 y0;have y1':=cell_later k5 y1;have y2':=cell_later k5 y2;have y3':=cell_later k5 y3;have y4':=cell_later k5 y4;have y5':=cell_later k5 y5;have zS':=Nat.lt_of_lt_of_le zS k5.size;have r0:=(HBR.out.keep k5).c0;have r1:=(HBR.out.keep k5).c1;have r2:=(HBR.out.keep k5).c2;have r3:=(HBR.out.keep k5).c3;have r4:=(HBR.out.keep k5).c4;have r5:=(HBR.out.keep k5).c5;have rf:=(HBR.out.keep k5).fz;have rz:=(HBR.out.keep k5).lt)
 all_goals
  go_wp2;refine bodyPost_ret (v:=.tuple #[.agg #[iT sq,.slice am nm cm,.slice a0 n0 c0,.slice a1 n1 c1,.slice a2 n2 c2,.slice ak nk ck],.bool (aW sq M [A,B,C] S)]) ?_ rfl ⟨rfl,?_⟩
  · have c:=((((((HBR.out.keep k5).set0 (iT sq)).set1 (.slice am nm cm)).set2 (.slice a0 n0 c0)).set3 (.slice a1 n1 c1)).set4 (.slice a2 n2 c2)).set5 (.slice ak nk ck);simp [results,Tryz.results86,go_sem,c.c0,c.c1,c.c2,c.c3,c.c4,c.c5]
  · have hx:w.heap.size≤X+1:=by have:=HX.out;omega
    have K5:=K2.out.trans (k5.mono K2.out.size);exact ((gF K5 hx _ _ _ _).setCell (p:=⟨X+1,4,none⟩) hx _).setCell (p:=⟨X+1,5,none⟩) hx _
theorem rW (sq:Int) (am av ak:Option Addr) (nm cm nv cv nk ck:Nat) (w:World) (hn:¬nv=3) :
 Calls Tryz.prog 86 #[.agg #[iT sq,.slice am nm cm,.slice av nv cv,.slice ak nk ck]] w fun e w'=>e=.returned (.tuple #[.agg #[iT 0,nZ,nZ,nZ,nZ,nZ],.bool false])∧Bl w w':=by
 have hnI:¬(nv:Int)=3:=by omega
 have hnb:((nv:Int) == 3)=false:=by simpa using hnI
 obtain ⟨W,hW⟩:=aI ((w.alloc (.cells #[iT sq,.slice am nm cm,.slice av nv cv,.slice ak nk ck] 31)).alloc (.cells #[iT 0,nZ,nZ,nZ,nZ,nZ] 82));have kW:Bl w W:=by rw [hW];exact bZ.alloc (by simp) _
 have br:bE W (w.heap.size+1) (iT 0) nZ nZ nZ nZ nZ:=by
  have:=bE.new (w.alloc (.cells #[iT sq,.slice am nm cm,.slice av nv cv,.slice ak nk ck] 31)) 82 (iT 0) nZ nZ nZ nZ nZ;rw [World.size_alloc] at this;rw [hW];exact this
 go_enter Tryz.func86,Tryz.ntmps86
 go_upto_region 2 with fail
 rw [← hW];clear hW;have r0:=br.c0;have r1:=br.c1;have r2:=br.c2;have r3:=br.c3;have r4:=br.c4;have r5:=br.c5;have rf:=br.fz;have rz:=br.lt;go_wp2;refine bodyPost_ret (v:=.tuple #[.agg #[iT 0,nZ,nZ,nZ,nZ,nZ],.bool false]) ?_ rfl ⟨rfl,?_⟩
 · have c:=(((((br.set0 (iT 0)).set1 nZ).set2 nZ).set3 nZ).set4 nZ).set5 nZ;simp [results,Tryz.results86,go_sem,c.c0,c.c1,c.c2,c.c3,c.c4,c.c5]
 · have hx:w.heap.size≤w.heap.size+1:=by omega
   exact ((gF kW hx _ _ _ _).setCell (p:=⟨w.heap.size+1,4,none⟩) hx _).setCell (p:=⟨w.heap.size+1,5,none⟩) hx _
theorem qP {B:List af} (h:aW q M [A,B,C] S=true):fu (dg M A B C).flatten:=by
 have h1:=((lh q M A B C S).1 h).2.2.2.2.2.2;refine ((ja q _).1 h1).1.imp ?_;intro x y ho e;have:=ho e.1;omega
theorem iX (B:List af):(B.reverse.map (·.1)).flatten.Perm (bo B):=by
 unfold bo;rw [List.flatMap_def];exact ((List.reverse_perm B).map _).flatten
theorem tA (M:List ac) (A B C:List af):(dg M A B C).flatten.Perm (M++(bo A++(bo B++bo C))):=by
 unfold dg;simp only [List.flatten_cons,List.flatten_append];exact (((iX A).append ((iX B).append (iX C)))).append_left _
theorem parts_flat (M:List ac) (A B C:List af):(eF M [A,B,C]).flatten.Perm (M++(bo A++(bo B++bo C))):=by
 unfold eF;simp only [List.headD_cons,List.drop_succ_cons,List.drop_zero,List.map_cons,List.map_nil,List.cons_append,List.flatten_cons,List.flatten_append,List.flatten_nil,List.append_nil];exact ((iX A).append_right _).append_left _
theorem gw (h:aW q M V S=true):∃A B C,V=[A,B,C]:=by
 have:=(aY h).2.2.2.2.2.1;match V,this with
 | [A,B,C],_=>exact ⟨A,B,C,rfl⟩
theorem yC (w:World) (g o:Nat) (u:Value):cJ g (g+1) w (w.setCell ⟨g,o,none⟩ u):=⟨rfl,rfl,rfl,by simp [World.setCell],fun q _ hq=>Below.heap_setCell _ _ _ _ (fun e=>by have e':q=g:=e;omega)⟩
structure kL (w:World) (am:Option Addr) (nm cm:Nat) (a0:Option Addr) (n0 c0:Nat) (a1:Option Addr) (n1 c1:Nat) (a2:Option Addr) (n2 c2:Nat) (ak:Option Addr) (nk ck:Nat) (M:List ac) (A B C:List af) (S:List Int):Prop where
 mem:aq w am nm cm M
 r0:aw 0 w a0 n0 c0 A
 r1:aw 0 w a1 n1 c1 B
 r2:aw 0 w a2 n2 c2 C
 sn:aH 0 w ak nk ck S
theorem kL.keep {a0 a1 a2:Option Addr} {n0 c0 n1 c1 n2 c2:Nat} {B:List af} (h:kL w am nm cm a0 n0 c0 a1 n1 c1 a2 n2 c2 ak nk ck M A B C S) (hb:Bl w w'):kL w' am nm cm a0 n0 c0 a1 n1 c1 a2 n2 c2 ak nk ck M A B C S:=⟨h.mem.keep hb,h.r0.keep hb,h.r1.keep hb,h.r2.keep hb,h.sn.keep hb⟩
def wF (w:World) (e:Ending) (w':World):Prop :=
 ∃q2 am2 nm2 cm2 a02 n02 c02 a12 n12 c12 a22 n22 c22 ak2 nk2 ck2,e=.returned (.tuple #[.agg #[iT q2,.slice am2 nm2 cm2,.slice a02 n02 c02,.slice a12 n12 c12,.slice a22 n22 c22,.slice ak2 nk2 ck2],.bool false])∧Bl w w'
theorem ec.lowO (h:ec lo hi w b1 nm b2 nv b3 ns M V S gs bs es) (hl:lo'≤lo):ec lo' hi w b1 nm b2 nv b3 ns M V S gs bs es:=by
 obtain ⟨xs,h1,h2⟩:=h.levs.row;exact ⟨h.mem.mono hl,⟨h.levs.len,⟨xs,gG h1 hl,h2⟩,h.levs.levs,⟨Nat.le_trans hl h.levs.bot.1,h.levs.bot.2⟩,h.levs.up,h.levs.top⟩,⟨h.sn.1,gG h.sn.2 hl⟩,h.ahead⟩
theorem ec.highO (h:ec lo hi w b1 nm b2 nv b3 ns M V S gs bs es) (hl:hi≤hi'):ec lo hi' w b1 nm b2 nv b3 ns M V S gs bs es :=
 ⟨h.mem,⟨h.levs.len,h.levs.row,h.levs.levs,h.levs.bot,h.levs.up,Nat.le_trans h.levs.top hl⟩,h.sn,h.ahead⟩
theorem fM {X:Nat} (h:ec lo hi w b1 nm b2 nv b3 ns M V S gs bs es) (hX:X<lo) (hl:lo'≤lo) (hh:hi≤hi') (u0 u1 u2 u3:Value):ec lo' hi' ((((w.setCell ⟨X,0,none⟩ u0).setCell ⟨X,1,none⟩ u1).setCell ⟨X,2,none⟩ u2).setCell ⟨X,3,none⟩ u3) b1 nm b2 nv b3 ns M V S gs bs es :=
 ((h.keepO ((((yC _ _ _ _).trans (yC _ _ _ _)).trans (yC _ _ _ _)).trans (yC _ _ _ _)) hX).lowO hl).highO hh
theorem aZ.share {sq:Int} {av:Option Addr} {cv:Nat} (hT:aZ lo w am nm cm av nv cv ak nk ck M V S) (htb:aW sq M V S=true):∃b off A B C a0 n0 c0 a1 n1 c1 a2 n2 c2,av=some ⟨b,off,none⟩∧nv=3∧V=[A,B,C]∧kL w am nm cm a0 n0 c0 a1 n1 c1 a2 n2 c2 ak nk ck M A B C S∧(∀w',Bl w w'→Calls Tryz.prog 86 #[.agg #[iT sq,.slice am nm cm,sO b off 3 cv,.slice ak nk ck]] w' fun e w''=>e=.returned (.tuple #[.agg #[iT sq,.slice am nm cm,.slice a0 n0 c0,.slice a1 n1 c1,.slice a2 n2 c2,.slice ak nk ck],.bool true])∧Bl w' w''):=by
 obtain ⟨A,B,C,hV3⟩:=gw htb;subst hV3;have hnv:nv=3:=hT.levels.length.symm;subst hnv;obtain ⟨b,off,rfl,hbb⟩:=hT.levels.form (by omega);obtain ⟨A',a0,n0,c0,hA,l0,hR0⟩:=hT.levels.level (Below.refl _ w) 0 (by omega);obtain ⟨B',a1,n1,c1,hB,l1,hR1⟩:=hT.levels.level (Below.refl _ w) 1 (by omega);obtain ⟨C',a2,n2,c2,hC,l2,hR2⟩:=hT.levels.level (Below.refl _ w) 2 (by omega);simp only [List.getElem?_cons_zero,List.getElem?_cons_succ,Option.some.injEq] at hA hB hC;subst hA hB hC;rw [Nat.add_zero] at l0;refine ⟨b,off,A,B,C,a0,n0,c0,a1,n1,c1,a2,n2,c2,rfl,rfl,rfl,⟨hT.mem.1,hR0.mono (Nat.zero_le _),hR1.mono (Nat.zero_le _),hR2.mono (Nat.zero_le _),hT.snaps.lower (Nat.zero_le _)⟩,fun w' k=>?_⟩;have:=pC lo sq am ak nm cm b off cv nk ck M A B C S a0 a1 a2 n0 c0 n1 c1 n2 c2 w' (hT.mem.1.keep k) (hT.snaps.keep k) (hR0.keep k) (hR1.keep k) (hR2.keep k) (cell_later k l0) (cell_later k l1) (cell_later k l2);rw [htb] at this;exact this
structure mh (M:List ac) (A B C:List af) (S:List Int):Prop where
 bm:M.length≤1048576
 bk:S.length≤1048576
 em:oz M
 b0:iM A
 b1:iM B
 b2:iM C
 e0:f9 A
 e1:f9 B
 e2:f9 C
theorem kH (q:Int) (am ak:Option Addr) (nm cm nk ck:Nat) (a0 a1 a2:Option Addr) (n0 c0 n1 c1 n2 c2:Nat) (M:List ac) (A B C:List af) (S:List Int) (w:World) (h:kL w am nm cm a0 n0 c0 a1 n1 c1 a2 n2 c2 ak nk ck M A B C S) (ho:mh M A B C S) :
 Calls Tryz.prog 92 #[.agg #[iT q,.slice am nm cm,.slice a0 n0 c0,.slice a1 n1 c1,.slice a2 n2 c2,.slice ak nk ck]] w (Al q nm nk M [A,B,C] S w) :=
 yi 0 q am ak nm cm nk ck a0 a1 a2 n0 c0 n1 c1 n2 c2 M A B C S w h.mem h.sn h.r0 h.r1 h.r2 (by have:=h.mem.length;have:=ho.bm;omega) (by have:=h.sn.length;have:=ho.bk;omega) ho.em ho.b0 ho.b1 ho.b2 ho.e0 ho.e1 ho.e2
def yZ (q2:Int) (M2:List ac) (A2 B2 C2:List af) (S2:List Int) (w:World) (e:Ending) (w':World):Prop :=
 ∃am2 nm2 cm2 a02 n02 c02 a12 n12 c12 a22 n22 c22 ak2 nk2 ck2,e=.returned (.tuple #[.agg #[iT q2,.slice am2 nm2 cm2,.slice a02 n02 c02,.slice a12 n12 c12,.slice a22 n22 c22,.slice ak2 nk2 ck2],.bool true])∧kL w' am2 nm2 cm2 a02 n02 c02 a12 n12 c12 a22 n22 c22 ak2 nk2 ck2 M2 A2 B2 C2 S2∧Bl w w'
def uN (w:World) (e:Ending) (w':World):Prop:=e=.returned (.tuple #[.agg #[iT 0,nZ,nZ,nZ],.bool false])∧Bl w w'
theorem vN (h:uN w e w'):gq 0 [] [] [] false w e w':=⟨none,0,none,0,none,0,fun _=>0,fun _=>0,fun _ _=>0,h.1,.inr ⟨rfl,rfl,rfl,rfl,rfl,rfl,rfl,rfl,rfl⟩,h.2⟩
theorem v6 (h:uN w e w'):ui 0 [] [] [] false w e w':=⟨none,0,0,none,0,0,none,0,0,h.1,mH 0 w',h.2⟩
theorem wO (lo:Nat) (sq:Int) (fv:Value) (am av ak:Option Addr) (nm cm nv cv nk ck:Nat) (M:List ac) (V:List (List af)) (S:List Int) (w:World) (hT:aZ lo w am nm cm av nv cv ak nk ck M V S) (htb:aW sq M V S=false) :
 Calls Tryz.prog 61 #[.agg #[iT sq,.slice am nm cm,.slice av nv cv,.slice ak nk ck],fv] w (uN w):=by
 have HVN:Hid (V.length=nv):=hT.levels.length;have CS:Hid (∀w',Bl w w'→Calls Tryz.prog 86 #[.agg #[iT sq,.slice am nm cm,.slice av nv cv,.slice ak nk ck]] w' fun e w''=>(∃(q':Int) (m' x0 x1 x2 k':Value),e=.returned (.tuple #[.agg #[iT q',m',x0,x1,x2,k'],.bool false])∧(∃a n c,m'=.slice a n c)∧(∃a n c,x0=.slice a n c)∧(∃a n c,x1=.slice a n c)∧(∃a n c,x2=.slice a n c)∧(∃a n c,k'=.slice a n c))∧Bl w' w''):=fun w' k=>by
  by_cases hn:nv=3
  · subst hn;obtain ⟨A,B,C,hV3⟩:∃A B C,V=[A,B,C]:=by
     have:=HVN.out;match V,this with
     | [A,B,C],_=>exact ⟨A,B,C,rfl⟩
    subst hV3;obtain ⟨b,off,rfl,hbb⟩:=hT.levels.form (by omega);obtain ⟨A',a0,n0,c0,hA,l0,hR0⟩:=hT.levels.level (Below.refl _ w) 0 (by omega);obtain ⟨B',a1,n1,c1,hB,l1,hR1⟩:=hT.levels.level (Below.refl _ w) 1 (by omega);obtain ⟨C',a2,n2,c2,hC,l2,hR2⟩:=hT.levels.level (Below.refl _ w) 2 (by omega);simp only [List.getElem?_cons_zero,List.getElem?_cons_succ,Option.some.injEq] at hA hB hC;subst hA hB hC;rw [Nat.add_zero] at l0;have:=pC lo sq am ak nm cm b off cv nk ck M A B C S a0 a1 a2 n0 c0 n1 c1 n2 c2 w' (hT.mem.1.keep k) (hT.snaps.keep k) (hR0.keep k) (hR1.keep k) (hR2.keep k) (cell_later k l0) (cell_later k l1) (cell_later k l2);rw [htb] at this;refine this.mono ?_;rintro e w'' ⟨rfl,hb⟩;exact ⟨⟨_,_,_,_,_,_,rfl,⟨_,_,_,rfl⟩,⟨_,_,_,rfl⟩,⟨_,_,_,rfl⟩,⟨_,_,_,rfl⟩,⟨_,_,_,rfl⟩⟩,hb⟩
  · refine (rW sq am av ak nm cm nv cv nk ck w' hn).mono ?_;rintro e w'' ⟨rfl,hb⟩;exact ⟨⟨_,_,_,_,_,_,rfl,⟨_,_,_,rfl⟩,⟨_,_,_,rfl⟩,⟨_,_,_,rfl⟩,⟨_,_,_,rfl⟩,⟨_,_,_,rfl⟩⟩,hb⟩
 obtain ⟨X,hX⟩:=aI w.heap.size;obtain ⟨W,hW⟩:=aI ((w.alloc (.cells #[iT sq,.slice am nm cm,.slice av nv cv,.slice ak nk ck] 31)).alloc (.cells #[iT 0,nZ,nZ,nZ] 31));have kW:Bl w W:=by rw [hW];exact bZ.alloc (by simp) _
 have br:ar W (X+1) (iT 0) nZ nZ nZ:=by
  have:=ar.new (w.alloc (.cells #[iT sq,.slice am nm cm,.slice av nv cv,.slice ak nk ck] 31)) 31 (iT 0) nZ nZ nZ;rw [World.size_alloc] at this;rw [hW,hX];exact this
 have HX:Hid (X=w.heap.size):=hX;have K0:Hid (Bl w W):=kW;clear hT kW htb HVN;go_enter Tryz.func61,Tryz.ntmps61
 go_wp2_with fail
 rw [← hX,← hW];clear hX hW;refine (CS.out _ K0.out).mono ?_;rintro e w1 ⟨⟨q',_,_,_,_,_,rfl,⟨m1,m2,m3,rfl⟩,⟨y1,y2,y3,rfl⟩,⟨z1,z2,z3,rfl⟩,⟨u1,u2,u3,rfl⟩,⟨v1,v2,v3,rfl⟩⟩,hb1⟩;obtain ⟨w2,hw2⟩:=aI (w1.alloc (.cells #[iT q',.slice m1 m2 m3,.slice y1 y2 y3,.slice z1 z2 z3,.slice u1 u2 u3,.slice v1 v2 v3] 82));have k2:Bl w1 w2:=by rw [hw2];exact bZ
 have K1:Hid (Bl w w2):=(K0.out.trans (hb1.mono K0.out.size)).trans (k2.mono (Nat.le_trans K0.out.size hb1.size));have br1:=(br.keep hb1).keep k2;have r0:=br1.c0;have r1:=br1.c1;have r2:=br1.c2;have r3:=br1.c3;have rf:=br1.fz;have rz:=br1.lt;clear hb1 br k2;go_upto_region 2 with fail
 rw [← hw2];clear hw2;go_wp2;refine bodyPost_ret (v:=.tuple #[.agg #[iT 0,nZ,nZ,nZ],.bool false]) ?_ rfl ⟨rfl,?_⟩
 · have e:=(((br1.set0 (iT 0)).set1 nZ).set2 nZ).set3 nZ;simp [results,Tryz.results61,go_sem,e.c0,e.c1,e.c2,e.c3]
 · have hx:w.heap.size≤X+1:=by have:=HX.out;omega
   exact gF K1.out hx _ _ _ _
theorem yR:∀c:List ac,c≠[]→lf false c≠[]
 | [],h=>absurd rfl h
 | e :: R,_=>by
  rw [sf (e:=e) false rfl]
  unfold dy
  split
  · simp
  · simp
theorem vR (Cs:List (List ac)):(Cs.foldr (Sq.stepD lf) (false,[])).1=false:=by
 induction Cs with
 | nil=>rfl
 | cons c Cs ih =>
  rw [List.foldr_cons];show (if _ then _ else false)=false
  split
  · exact ih
  · rfl
theorem vu {G:List ac} (hG:G≠[]):ep S false G≠[]:=by
 unfold ep Sq.leftD;cases hp:Sq.parts (fF S) G with
 | nil =>
  have h:=Sq.parts_flat (fF S) G;rw [hp] at h;exact absurd h.symm hG
 | cons c Cs =>
  have hc:c≠[]:=iY (fF S) G c (by rw [hp];simp);rw [List.foldr_cons];show lf _ c++_≠[]
  rw [vR Cs];intro h;exact yR c hc (List.append_eq_nil_iff.1 h).1
theorem qW (hr:aL M=true) (hM:M≠[]) (S:List Int):bC M S false≠[]:=by
 unfold bC;rw [if_pos hr];cases hp:Sq.parts eJ M with
 | nil =>
  have h:=Sq.parts_flat eJ M;rw [hp] at h;exact absurd h.symm hM
 | cons G Gs =>
  have hG:G≠[]:=iY eJ M G (by rw [hp];simp);rw [List.flatMap_cons];intro h;exact vu hG (List.append_eq_nil_iff.1 h).1
theorem tc {L:List ac} (h:aL L=true):bw L=L:=by
 have hb:=bG L;exact (iA (fC h) hb.1 hb.2.symm).symm
def dw (p:Nat→Prop) (w:World) (xs:List Value) (B:List af):Prop :=
 xs.length=B.length*2∧∀i (r:af),B[i]?=some r→(Lit.int .i64 r.2).wf=true∧∃s n c,xs[i*2]?=some (.slice s n c)∧xs[i*2+1]?=some (iT r.2)∧aq w s n c r.1∧∀x,s=some x→0<n→p x.block
theorem dw.den {p:Nat→Prop} {B:List af} (h:dw p w xs B):jH w xs B :=
 ⟨h.1,fun i r hr=>by obtain ⟨h1,s,n,c,h2,h3,h4,_⟩:=h.2 i r hr;exact ⟨h1,s,n,c,h2,h3,h4,fun x e _=>Nat.zero_le _⟩⟩
theorem jH.denP {B:List af} (h:jH w xs B):dw (·<w.heap.size) w xs B :=
 ⟨h.1,fun i r hr=>by obtain ⟨h1,s,n,c,h2,h3,h4⟩:=h.2 i r hr;exact ⟨h1,s,n,c,h2,h3,h4.1,fun x e hp=>(h4.1.lies x e hp).1⟩⟩
theorem dw.imp {p p':Nat→Prop} {B:List af} (h:dw p w xs B) (hp:∀b,p b→p' b):dw p' w xs B :=
 ⟨h.1,fun i r hr=>by obtain ⟨h1,s,n,c,h2,h3,h4,h5⟩:=h.2 i r hr;exact ⟨h1,s,n,c,h2,h3,h4,fun x e hn=>hp _ (h5 x e hn)⟩⟩
theorem dw.same {p:Nat→Prop} {B:List af} (h:dw p w xs B) (hs:w.heap.size≤w'.heap.size) (hb:∀b,p b→b<w.heap.size→w'.heap[b]?=w.heap[b]?):dw p w' xs B :=
 ⟨h.1,fun i r hr=>by
  obtain ⟨h1,s,n,c,h2,h3,h4,h5⟩:=h.2 i r hr
  exact ⟨h1,s,n,c,h2,h3,h4.moved hs (fun x e hn o=>World.cell?_of_block (hb _ (h5 x e hn) (h4.lies x e hn).1)),h5⟩⟩
theorem dw.keepO {B:List af} (h:dw (fun b=>b<lo∨hi≤b) w xs B) (k:cJ lo hi w w'):dw (fun b=>b<lo∨hi≤b) w' xs B:=h.same k.size (fun b hp hl=>k.block b hl hp)
theorem dw.below {p:Nat→Prop} {B:List af} (h:dw p w xs B) (k:Bl w w'):dw p w' xs B:=h.same k.size (fun b _ hl=>k.block b hl)
theorem dw.low {B:List af} (h:dw (·<w.heap.size) w xs B) (k:Bl w w'):dw (·<w.heap.size) w' xs B:=h.same k.size (fun b hp _=>k.block b hp)
theorem dw.app {p:Nat→Prop} {ys:List Value} {B:List af} (h:dw p w xs A) (k:dw p w ys B):dw p w (xs++ys) (A++B):=by
 have hl:=h.1;have kl:=k.1;refine ⟨by rw [List.length_append,List.length_append,hl,kl];omega,fun i r hr=>?_⟩;by_cases hi:i<A.length
 · rw [List.getElem?_append_left hi] at hr;rw [List.getElem?_append_left (by omega),List.getElem?_append_left (by omega)];exact h.2 i r hr
 · rw [List.getElem?_append_right (by omega)] at hr;rw [List.getElem?_append_right (by omega),List.getElem?_append_right (by omega),show i*2 - xs.length=(i - A.length)*2 by omega,show i*2+1 - xs.length=(i - A.length)*2+1 by omega];exact k.2 _ r hr
def nS (M:List ac) (S:List Int):af:=(bC M S false,((cQ (bC M S false):Nat):Int))
end Go.Proofs.YtpobkmjicbobdaaGreat
