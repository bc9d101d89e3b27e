/-
  The program's shareTree: what it answers at every tree; by walks of its Go text.
-/
import Derived.Laws.IdiomCopy
import Derived.Deep.RegionWith
import Derived.Deep.DeepCutAuto
import Derived.Test.YtlmgojlffgkciaaGreatTc29
import Derived.Test.YtlmgojlffgkciaaGreatTc18
import Derived.Test.YtlmgojlffgkciaaGreatTc09
import Derived.Test.YtlmgojlffgkciaaGreatTc14
import Derived.Test.YtlmgojlffgkciaaGreatTc26
import Derived.Shelf.SlSortCmp.NoneTotal
import Derived.Test.YtlmgojlffgkciaaGreatTc13
import Derived.Test.YtlmgojlffgkciaaGreatTc16
import Derived.Test.YtlmgojlffgkciaaGreatTc20
import Derived.Test.YtlmgojlffgkciaaGreatTc00
import Derived.Test.YtlmgojlffgkciaaGreatTc11
namespace Go.Proofs.YtlmgojlffgkciaaGreat
open Go.RowKit
set_option maxRecDepth 100000
set_option maxHeartbeats 4000000
structure bn (w:World) (b:Nat) (u0 u1 u2 u3 u4 u5:Value):Prop where
 c0:w.cell? ⟨b,0,none⟩=some u0
 c1:w.cell? ⟨b,1,none⟩=some u1
 c2:w.cell? ⟨b,2,none⟩=some u2
 c3:w.cell? ⟨b,3,none⟩=some u3
 c4:w.cell? ⟨b,4,none⟩=some u4
 c5:w.cell? ⟨b,5,none⟩=some u5
 fz:∀o,w.frozen? ⟨b,o,none⟩=false
theorem bn.lt {w:World} {b:Nat} {u0 u1 u2 u3 u4 u5:Value} (h:bn w b u0 u1 u2 u3 u4 u5):b<w.heap.size:=World.block_lt_of_cell? w _ h.c0
theorem bn.new (w:World) (t:TypeId) (u0 u1 u2 u3 u4 u5:Value):bn (w.alloc (.cells #[u0,u1,u2,u3,u4,u5] t)) w.heap.size u0 u1 u2 u3 u4 u5:=⟨by simp,by simp,by simp,by simp,by simp,by simp,fun o=>by simp⟩
theorem bn.below {B:Nat} {w w':World} {b:Nat} {u0 u1 u2 u3 u4 u5:Value} (h:bn w b u0 u1 u2 u3 u4 u5) (hb:Below B w w') (hB:b<B):bn w' b u0 u1 u2 u3 u4 u5 :=
 ⟨(hb.cell (p:=⟨b,0,none⟩) hB).trans h.c0,(hb.cell (p:=⟨b,1,none⟩) hB).trans h.c1,(hb.cell (p:=⟨b,2,none⟩) hB).trans h.c2,(hb.cell (p:=⟨b,3,none⟩) hB).trans h.c3,(hb.cell (p:=⟨b,4,none⟩) hB).trans h.c4,(hb.cell (p:=⟨b,5,none⟩) hB).trans h.c5,fun o=>(World.frozen?_of_block (hb.block b hB)).trans (h.fz o)⟩
theorem bn.keep {w w':World} {b:Nat} {u0 u1 u2 u3 u4 u5:Value} (h:bn w b u0 u1 u2 u3 u4 u5) (hb:Bl w w'):bn w' b u0 u1 u2 u3 u4 u5:=h.below hb h.lt
theorem bn.alloc {w:World} {b:Nat} {u0 u1 u2 u3 u4 u5:Value} (h:bn w b u0 u1 u2 u3 u4 u5) (o:Obj):bn (w.alloc o) b u0 u1 u2 u3 u4 u5:=h.keep bZ
theorem bn.other {w:World} {b:Nat} {u0 u1 u2 u3 u4 u5:Value} (h:bn w b u0 u1 u2 u3 u4 u5) {b' o:Nat} (hp:b'≠b) (x:Value):bn (w.setCell ⟨b',o,none⟩ x) b u0 u1 u2 u3 u4 u5 :=
 ⟨(au x (fun e=>hp e.1.symm)).trans h.c0,(au x (fun e=>hp e.1.symm)).trans h.c1,(au x (fun e=>hp e.1.symm)).trans h.c2,(au x (fun e=>hp e.1.symm)).trans h.c3,(au x (fun e=>hp e.1.symm)).trans h.c4,(au x (fun e=>hp e.1.symm)).trans h.c5,fun o=>by rw [World.frozen?_setCell];exact h.fz o⟩
theorem bn.set0 {w:World} {b:Nat} {u0 u1 u2 u3 u4 u5:Value} (h:bn w b u0 u1 u2 u3 u4 u5) (x:Value):bn (w.setCell ⟨b,0,none⟩ x) b x u1 u2 u3 u4 u5 :=
 ⟨World.cell?_setCell_same' _ _ _ (by rw [h.c0];rfl),(au x (by simp)).trans h.c1,(au x (by simp)).trans h.c2,(au x (by simp)).trans h.c3,(au x (by simp)).trans h.c4,(au x (by simp)).trans h.c5,fun o=>by rw [World.frozen?_setCell];exact h.fz o⟩
theorem bn.set1 {w:World} {b:Nat} {u0 u1 u2 u3 u4 u5:Value} (h:bn w b u0 u1 u2 u3 u4 u5) (x:Value):bn (w.setCell ⟨b,1,none⟩ x) b u0 x u2 u3 u4 u5 :=
 ⟨(au x (by simp)).trans h.c0,World.cell?_setCell_same' _ _ _ (by rw [h.c1];rfl),(au x (by simp)).trans h.c2,(au x (by simp)).trans h.c3,(au x (by simp)).trans h.c4,(au x (by simp)).trans h.c5,fun o=>by rw [World.frozen?_setCell];exact h.fz o⟩
theorem bn.set2 {w:World} {b:Nat} {u0 u1 u2 u3 u4 u5:Value} (h:bn w b u0 u1 u2 u3 u4 u5) (x:Value):bn (w.setCell ⟨b,2,none⟩ x) b u0 u1 x u3 u4 u5 :=
 ⟨(au x (by simp)).trans h.c0,(au x (by simp)).trans h.c1,World.cell?_setCell_same' _ _ _ (by rw [h.c2];rfl),(au x (by simp)).trans h.c3,(au x (by simp)).trans h.c4,(au x (by simp)).trans h.c5,fun o=>by rw [World.frozen?_setCell];exact h.fz o⟩
theorem bn.set3 {w:World} {b:Nat} {u0 u1 u2 u3 u4 u5:Value} (h:bn w b u0 u1 u2 u3 u4 u5) (x:Value):bn (w.setCell ⟨b,3,none⟩ x) b u0 u1 u2 x u4 u5 :=
 ⟨(au x (by simp)).trans h.c0,(au x (by simp)).trans h.c1,(au x (by simp)).trans h.c2,World.cell?_setCell_same' _ _ _ (by rw [h.c3];rfl),(au x (by simp)).trans h.c4,(au x (by simp)).trans h.c5,fun o=>by rw [World.frozen?_setCell];exact h.fz o⟩
theorem bn.set4 {w:World} {b:Nat} {u0 u1 u2 u3 u4 u5:Value} (h:bn w b u0 u1 u2 u3 u4 u5) (x:Value):bn (w.setCell ⟨b,4,none⟩ x) b u0 u1 u2 u3 x u5 :=
 ⟨(au x (by simp)).trans h.c0,(au x (by simp)).trans h.c1,(au x (by simp)).trans h.c2,(au x (by simp)).trans h.c3,World.cell?_setCell_same' _ _ _ (by rw [h.c4];rfl),(au x (by simp)).trans h.c5,fun o=>by rw [World.frozen?_setCell];exact h.fz o⟩
theorem bn.set5 {w:World} {b:Nat} {u0 u1 u2 u3 u4 u5:Value} (h:bn w b u0 u1 u2 u3 u4 u5) (x:Value):bn (w.setCell ⟨b,5,none⟩ x) b u0 u1 u2 u3 u4 x :=
 ⟨(au x (by simp)).trans h.c0,(au x (by simp)).trans h.c1,(au x (by simp)).trans h.c2,(au x (by simp)).trans h.c3,(au x (by simp)).trans h.c4,World.cell?_setCell_same' _ _ _ (by rw [h.c5];rfl),fun o=>by rw [World.frozen?_setCell];exact h.fz o⟩
theorem qp (lo:Nat) (sq:Int) (am ak:Option Addr) (nm cm b o cv nk ck:Nat) (M:List ac) (A B C:List ae) (S:List Int) (a0 a1 a2:Option Addr) (n0 c0 n1 c1 n2 c2:Nat) (w:World) (hM:af w am nm cm M) (hS:aT lo w ak nk ck S) (h0:aj lo w a0 n0 c0 A) (h1:aj lo w a1 n1 c1 B) (h2:aj lo w a2 n2 c2 C)
 (l0:w.cell? ⟨b,o,none⟩=some (.slice a0 n0 c0)) (l1:w.cell? ⟨b,o+1,none⟩=some (.slice a1 n1 c1)) (l2:w.cell? ⟨b,o+2,none⟩=some (.slice a2 n2 c2)) :
 Calls Tryz.prog 53 #[.agg #[iT sq,.slice am nm cm,sO b o 3 cv,.slice ak nk ck]] w fun e w'=>e=.returned (.tuple #[.agg #[iT sq,.slice am nm cm,.slice a0 n0 c0,.slice a1 n1 c1,.slice a2 n2 c2,.slice ak nk ck],.bool (bV sq M [A,B,C] S)])∧Bl w w':=by
 have hbw:=World.block_lt_of_cell? _ _ l0;simp only at hbw;obtain ⟨X,hX⟩:=ay w.heap.size;obtain ⟨W,hW⟩:=ay (((w.alloc (.cells #[iT sq,.slice am nm cm,sO b o 3 cv,.slice ak nk ck] 31)).alloc (.cells #[iT 0,nZ,nZ,nZ,nZ,nZ] 67)).alloc (.cells #[iT sq,.slice am nm cm,nZ,nZ,nZ,.slice ak nk ck] 67));have kW:Bl w W:=by rw [hW];exact (bZ.alloc (by simp) _).alloc (by simp;omega) _
 have xa:(w.alloc (.cells #[iT sq,.slice am nm cm,sO b o 3 cv,.slice ak nk ck] 31)).cell? ⟨X,2,none⟩=some (sO b o 3 cv):=by rw [hX];simp
 have x2:W.cell? ⟨X,2,none⟩=some (sO b o 3 cv):=by
  rw [hW];exact cell_later bZ (cell_later bZ xa)
 have br:bn W (X+1) (iT 0) nZ nZ nZ nZ nZ:=by
  have:=(bn.new (w.alloc (.cells #[iT sq,.slice am nm cm,sO b o 3 cv,.slice ak nk ck] 31)) 67 (iT 0) nZ nZ nZ nZ nZ).alloc (.cells #[iT sq,.slice am nm cm,nZ,nZ,nZ,.slice ak nk ck] 67);rw [World.size_alloc] at this;rw [hW,hX];exact this
 have bs:bn W (X+1+1) (iT sq) (.slice am nm cm) nZ nZ nZ (.slice ak nk ck):=by
  have:=bn.new ((w.alloc (.cells #[iT sq,.slice am nm cm,sO b o 3 cv,.slice ak nk ck] 31)).alloc (.cells #[iT 0,nZ,nZ,nZ,nZ,nZ] 67)) 67 (iT sq) (.slice am nm cm) nZ nZ nZ (.slice ak nk ck);rw [World.size_alloc,World.size_alloc] at this;rw [hW,hX];exact this
 have k0:=cell_later kW l0;have k1:=cell_later kW l1;have k2:=cell_later kW l2;have hcp:(Builtin.copy_ #[29,29] 3 #[.slice (some ⟨X+1+1,2,none⟩) 3 3,sO b o 3 cv]).run Tryz.prog W.drew=.ok (goInt 3) (W.drew.setCells (X+1+1) 2 [.slice a0 n0 c0,.slice a1 n1 c1,.slice a2 n2 c2]):=by
  refine run_copy_cells (P:=Tryz.prog) W.drew 29 29 3 64 (X+1+1) 2 3 3 ⟨b,o,none⟩ 3 cv [.slice a0 n0 c0,.slice a1 n1 c1,.slice a2 n2 c2] Tryz.underlying29 (by kernel_rfl) rfl ?_ ?_ ?_ ?_
  · intro j v hj;rw [Go.WideShapes.add_plain];match j,hj with
    | 0,hj=>simp at hj;subst hj;exact k0
    | 1,hj=>simp at hj;subst hj;exact k1
    | 2,hj=>simp at hj;subst hj;exact k2
  · intro j hj;match j,hj with
    | 0,_=>exact Option.isSome_iff_exists.2 ⟨_,bs.c2⟩
    | 1,_=>exact Option.isSome_iff_exists.2 ⟨_,bs.c3⟩
    | 2,_=>exact Option.isSome_iff_exists.2 ⟨_,bs.c4⟩
  · exact fun j _=>bs.fz _
  · intro v hv;simp at hv;rcases hv with rfl | rfl | rfl <;> rfl
 have HM:=bc hM;have HS:=bc hS;have H0:=bc h0;have H1:=bc h1;have H2:=bc h2;have KW:Hid (Bl w W):=kW;have HX:Hid (X=w.heap.size):=hX;clear hM hS h0 h1 h2 kW l0 l1 l2 k0 k1 k2 xa;go_enter Tryz.func53,Tryz.ntmps53
 go_upto_region 4 with fail
 rw [← hX,← hW];clear hX hW;have zX:X<W.heap.size:=World.block_lt_of_cell? _ _ x2;have zS:=bs.lt;go_region_with (fail)
 obtain ⟨W2,hW2⟩:=ay (W.drew.setCells (X+1+1) 2 [.slice a0 n0 c0,.slice a1 n1 c1,.slice a2 n2 c2]);have hW2':W2=((W.drew.setCell ⟨X+1+1,2,none⟩ (.slice a0 n0 c0)).setCell ⟨X+1+1,3,none⟩ (.slice a1 n1 c1)).setCell ⟨X+1+1,4,none⟩ (.slice a2 n2 c2):=by rw [hW2];rfl
 have bs2:bn W2 (X+1+1) (iT sq) (.slice am nm cm) (.slice a0 n0 c0) (.slice a1 n1 c1) (.slice a2 n2 c2) (.slice ak nk ck):=by
  have d:bn W.drew (X+1+1) (iT sq) (.slice am nm cm) nZ nZ nZ (.slice ak nk ck):=⟨bs.c0,bs.c1,bs.c2,bs.c3,bs.c4,bs.c5,bs.fz⟩;rw [hW2'];exact ((d.set2 _).set3 _).set4 _
 have br2:bn W2 (X+1) (iT 0) nZ nZ nZ nZ nZ:=by
  have d:bn W.drew (X+1) (iT 0) nZ nZ nZ nZ nZ:=⟨br.c0,br.c1,br.c2,br.c3,br.c4,br.c5,br.fz⟩;rw [hW2'];exact ((d.other (by omega) _).other (by omega) _).other (by omega) _
 have K2:Hid (Bl w W2):=by
  have hx:w.heap.size≤X+1+1:=by have:=HX.out;omega
  rw [hW2'];exact ((KW.out.drew.setCell (p:=⟨X+1+1,2,none⟩) hx _).setCell (p:=⟨X+1+1,3,none⟩) hx _).setCell (p:=⟨X+1+1,4,none⟩) hx _
 rw [← hW2];clear hW2 hW2' hcp x2 bs br zS zX KW hbw;have HBR:Hid (bn W2 (X+1) (iT 0) nZ nZ nZ nZ nZ):=br2;have y0:=bs2.c0;have y1:=bs2.c1;have y2:=bs2.c2;have y3:=bs2.c3;have y4:=bs2.c4;have y5:=bs2.c5;have zS:=bs2.lt;have HBS:Hid (bn W2 (X+1+1) (iT sq) (.slice am nm cm) (.slice a0 n0 c0) (.slice a1 n1 c1) (.slice a2 n2 c2) (.slice ak nk ck)):=bs2;clear br2 bs2;go_upto_region 5 with fail
 go_region_with (go_at_call 88;refine (zO lo sq am ak nm cm nk ck a0 a1 a2 n0 c0 n1 c1 n2 c2 M A B C S _ (HM.out.keep K2.out.drew) (HS.out.keep K2.out.drew) (H0.out.keep K2.out.drew) (H1.out.keep K2.out.drew) (H2.out.keep K2.out.drew)).mono ?_;rintro e w5 ⟨rfl,hb5⟩;have k5:Bl W2 w5:=((Below.refl _ W2).drew).trans hb5;have y0':=cell_later k5 y0;have y1':=cell_later k5 y1;have y2':=cell_later k5 y2;have y3':=cell_later k5 y3;have y4':=cell_later k5 y4;have y5':=cell_later k5 y5;have zS':=Nat.lt_of_lt_of_le zS k5.size;have r0:=(HBR.out.keep k5).c0;have r1:=(HBR.out.keep k5).c1;have r2:=(HBR.out.keep k5).c2;have r3:=(HBR.out.keep k5).c3;have r4:=(HBR.out.keep k5).c4;have r5:=(HBR.out.keep k5).c5;have rf:=(HBR.out.keep k5).fz;have rz:=(HBR.out.keep k5).lt)
 all_goals
  go_wp2;refine bodyPost_ret (v:=.tuple #[.agg #[iT sq,.slice am nm cm,.slice a0 n0 c0,.slice a1 n1 c1,.slice a2 n2 c2,.slice ak nk ck],.bool (bV sq M [A,B,C] S)]) ?_ rfl ⟨rfl,?_⟩
  · have c:=((((((HBR.out.keep k5).set0 (iT sq)).set1 (.slice am nm cm)).set2 (.slice a0 n0 c0)).set3 (.slice a1 n1 c1)).set4 (.slice a2 n2 c2)).set5 (.slice ak nk ck);simp [results,Tryz.results53,go_sem,c.c0,c.c1,c.c2,c.c3,c.c4,c.c5]
  · have hx:w.heap.size≤X+1:=by have:=HX.out;omega
    have K5:=K2.out.trans (k5.mono K2.out.size);exact ((li K5 hx _ _ _ _).setCell (p:=⟨X+1,4,none⟩) hx _).setCell (p:=⟨X+1,5,none⟩) hx _
theorem tA (sq:Int) (am av ak:Option Addr) (nm cm nv cv nk ck:Nat) (w:World) (hn:¬nv=3) :
 Calls Tryz.prog 53 #[.agg #[iT sq,.slice am nm cm,.slice av nv cv,.slice ak nk ck]] w fun e w'=>e=.returned (.tuple #[.agg #[iT 0,nZ,nZ,nZ,nZ,nZ],.bool false])∧Bl w w':=by
 have hnI:¬(nv:Int)=3:=by omega
 have hnb:((nv:Int) == 3)=false:=by simpa using hnI
 obtain ⟨W,hW⟩:=ay ((w.alloc (.cells #[iT sq,.slice am nm cm,.slice av nv cv,.slice ak nk ck] 31)).alloc (.cells #[iT 0,nZ,nZ,nZ,nZ,nZ] 67));have kW:Bl w W:=by rw [hW];exact bZ.alloc (by simp) _
 have br:bn W (w.heap.size+1) (iT 0) nZ nZ nZ nZ nZ:=by
  have:=bn.new (w.alloc (.cells #[iT sq,.slice am nm cm,.slice av nv cv,.slice ak nk ck] 31)) 67 (iT 0) nZ nZ nZ nZ nZ;rw [World.size_alloc] at this;rw [hW];exact this
 go_enter Tryz.func53,Tryz.ntmps53
 go_upto_region 2 with fail
 rw [← hW];clear hW;have r0:=br.c0;have r1:=br.c1;have r2:=br.c2;have r3:=br.c3;have r4:=br.c4;have r5:=br.c5;have rf:=br.fz;have rz:=br.lt;go_wp2;refine bodyPost_ret (v:=.tuple #[.agg #[iT 0,nZ,nZ,nZ,nZ,nZ],.bool false]) ?_ rfl ⟨rfl,?_⟩
 · have c:=(((((br.set0 (iT 0)).set1 nZ).set2 nZ).set3 nZ).set4 nZ).set5 nZ;simp [results,Tryz.results53,go_sem,c.c0,c.c1,c.c2,c.c3,c.c4,c.c5]
 · have hx:w.heap.size≤w.heap.size+1:=by omega
   exact ((li kW hx _ _ _ _).setCell (p:=⟨w.heap.size+1,4,none⟩) hx _).setCell (p:=⟨w.heap.size+1,5,none⟩) hx _
end Go.Proofs.YtlmgojlffgkciaaGreat

namespace Go.Proofs.YtlmgojlffgkciaaGreat
open Go.RowKit
theorem rW {q:Int} {M:List ac} {A B C:List ae} {S:List Int} (h:bV q M [A,B,C] S=true):jD (du M A B C).flatten:=by
 have h1:=((lZ q M A B C S).1 h).2.2.2.2.2.2;refine ((jT q _).1 h1).1.imp ?_;intro x y ho e;have:=ho e.1;omega
theorem jQ (B:List ae):(B.reverse.map (·.1)).flatten.Perm (cU B):=by
 unfold cU;rw [List.flatMap_def];exact ((List.reverse_perm B).map _).flatten
theorem uU (M:List ac) (A B C:List ae):(du M A B C).flatten.Perm (M++(cU A++(cU B++cU C))):=by
 unfold du;simp only [List.flatten_cons,List.flatten_append];exact (((jQ A).append ((jQ B).append (jQ C)))).append_left _
theorem parts_flat (M:List ac) (A B C:List ae):(fb M [A,B,C]).flatten.Perm (M++(cU A++(cU B++cU C))):=by
 unfold fb;simp only [List.headD_cons,List.drop_succ_cons,List.drop_zero,List.map_cons,List.map_nil,List.cons_append,List.flatten_cons,List.flatten_append,List.flatten_nil,List.append_nil];exact ((jQ A).append_right _).append_left _
theorem nM {q:Int} {M:List ac} {V:List (List ae)} {S:List Int} (h:bV q M V S=true):∃A B C,V=[A,B,C]:=by
 have:=(bH h).2.2.2.2.2.1;match V,this with
 | [A,B,C],_=>exact ⟨A,B,C,rfl⟩
end Go.Proofs.YtlmgojlffgkciaaGreat

namespace Go.Proofs.YtlmgojlffgkciaaGreat
open Go.RowKit
set_option maxRecDepth 100000
set_option maxHeartbeats 4000000
theorem dP.lowO {lo lo' hi b1 nm b2 nv b3 ns:Nat} {w:World} {M:List ac} {V:List (List ae)} {S:List Int} {gs bs:Nat→Nat} {es:Nat→Nat→Nat} (h:dP lo hi w b1 nm b2 nv b3 ns M V S gs bs es) (hl:lo'≤lo):dP lo' hi w b1 nm b2 nv b3 ns M V S gs bs es:=by
 obtain ⟨xs,h1,h2⟩:=h.levs.row;exact ⟨h.mem.mono hl,⟨h.levs.len,⟨xs,gZ h1 hl,h2⟩,h.levs.levs,⟨Nat.le_trans hl h.levs.bot.1,h.levs.bot.2⟩,h.levs.up,h.levs.top⟩,⟨h.sn.1,gZ h.sn.2 hl⟩,h.ahead⟩
theorem dP.highO {lo hi hi' b1 nm b2 nv b3 ns:Nat} {w:World} {M:List ac} {V:List (List ae)} {S:List Int} {gs bs:Nat→Nat} {es:Nat→Nat→Nat} (h:dP lo hi w b1 nm b2 nv b3 ns M V S gs bs es) (hl:hi≤hi'):dP lo hi' w b1 nm b2 nv b3 ns M V S gs bs es :=
 ⟨h.mem,⟨h.levs.len,h.levs.row,h.levs.levs,h.levs.bot,h.levs.up,Nat.le_trans h.levs.top hl⟩,h.sn,h.ahead⟩
theorem setK (w:World) (g o:Nat) (u:Value):bu g (g+1) w (w.setCell ⟨g,o,none⟩ u):=⟨rfl,rfl,rfl,by simp [World.setCell],fun q _ hq=>Below.heap_setCell _ _ _ _ (fun e=>by have e':q=g:=e;omega)⟩
theorem kI {lo lo' hi hi' b1 nm b2 nv b3 ns X:Nat} {w:World} {M:List ac} {V:List (List ae)} {S:List Int} {gs bs:Nat→Nat} {es:Nat→Nat→Nat} (h:dP lo hi w b1 nm b2 nv b3 ns M V S gs bs es) (hX:X<lo) (hl:lo'≤lo) (hh:hi≤hi') (u0 u1 u2 u3:Value):dP lo' hi' ((((w.setCell ⟨X,0,none⟩ u0).setCell ⟨X,1,none⟩ u1).setCell ⟨X,2,none⟩ u2).setCell ⟨X,3,none⟩ u3) b1 nm b2 nv b3 ns M V S gs bs es :=
 ((h.keepO ((((setK _ _ _ _).trans (setK _ _ _ _)).trans (setK _ _ _ _)).trans (setK _ _ _ _)) hX).lowO hl).highO hh
structure ps (w:World) (am:Option Addr) (nm cm:Nat) (a0:Option Addr) (n0 c0:Nat) (a1:Option Addr) (n1 c1:Nat) (a2:Option Addr) (n2 c2:Nat) (ak:Option Addr) (nk ck:Nat) (M:List ac) (A B C:List ae) (S:List Int):Prop where
 mem:af w am nm cm M
 r0:aj 0 w a0 n0 c0 A
 r1:aj 0 w a1 n1 c1 B
 r2:aj 0 w a2 n2 c2 C
 sn:aT 0 w ak nk ck S
theorem ps.keep {w w':World} {am a0 a1 a2 ak:Option Addr} {nm cm n0 c0 n1 c1 n2 c2 nk ck:Nat} {M:List ac} {A B C:List ae} {S:List Int} (h:ps w am nm cm a0 n0 c0 a1 n1 c1 a2 n2 c2 ak nk ck M A B C S) (hb:Bl w w'):ps w' am nm cm a0 n0 c0 a1 n1 c1 a2 n2 c2 ak nk ck M A B C S:=⟨h.mem.keep hb,h.r0.keep hb,h.r1.keep hb,h.r2.keep hb,h.sn.keep hb⟩
structure wQ (M:List ac) (A B C:List ae) (S:List Int):Prop where
 bm:M.length≤1048576
 bk:S.length≤1048576
 em:mD M
 b0:fC A
 b1:fC B
 b2:fC C
 e0:iZ A
 e1:iZ B
 e2:iZ C
theorem tY (q:Int) (am ak:Option Addr) (nm cm nk ck:Nat) (a0 a1 a2:Option Addr) (n0 c0 n1 c1 n2 c2:Nat) (M:List ac) (A B C:List ae) (S:List Int) (w:World) (h:ps w am nm cm a0 n0 c0 a1 n1 c1 a2 n2 c2 ak nk ck M A B C S) (ho:wQ M A B C S) :
 Calls Tryz.prog 79 #[.agg #[iT q,.slice am nm cm,.slice a0 n0 c0,.slice a1 n1 c1,.slice a2 n2 c2,.slice ak nk ck]] w (Cb q nm nk M [A,B,C] S w) :=
 As 0 q am ak nm cm nk ck a0 a1 a2 n0 c0 n1 c1 n2 c2 M A B C S w h.mem h.sn h.r0 h.r1 h.r2 (by have:=h.mem.length;have:=ho.bm;omega) (by have:=h.sn.length;have:=ho.bk;omega) ho.em ho.b0 ho.b1 ho.b2 ho.e0 ho.e1 ho.e2
def B6 (q2:Int) (M2:List ac) (A2 B2 C2:List ae) (S2:List Int) (w:World) (e:Ending) (w':World):Prop :=
 ∃am2 nm2 cm2 a02 n02 c02 a12 n12 c12 a22 n22 c22 ak2 nk2 ck2,e=.returned (.tuple #[.agg #[iT q2,.slice am2 nm2 cm2,.slice a02 n02 c02,.slice a12 n12 c12,.slice a22 n22 c22,.slice ak2 nk2 ck2],.bool true])∧ps w' am2 nm2 cm2 a02 n02 c02 a12 n12 c12 a22 n22 c22 ak2 nk2 ck2 M2 A2 B2 C2 S2∧Bl w w'
def B7 (w:World) (e:Ending) (w':World):Prop :=
 ∃q2 am2 nm2 cm2 a02 n02 c02 a12 n12 c12 a22 n22 c22 ak2 nk2 ck2,e=.returned (.tuple #[.agg #[iT q2,.slice am2 nm2 cm2,.slice a02 n02 c02,.slice a12 n12 c12,.slice a22 n22 c22,.slice ak2 nk2 ck2],.bool false])∧Bl w w'
def wR (w:World) (e:Ending) (w':World):Prop:=e=.returned (.tuple #[.agg #[iT 0,nZ,nZ,nZ],.bool false])∧Bl w w'
theorem xX {w w':World} {e:Ending} (h:wR w e w'):m9 0 [] [] [] false w e w':=⟨none,0,none,0,none,0,fun _=>0,fun _=>0,fun _ _=>0,h.1,.inr ⟨rfl,rfl,rfl,rfl,rfl,rfl,rfl,rfl,rfl⟩,h.2⟩
theorem yl {w w':World} {e:Ending} (h:wR w e w'):t8 0 [] [] [] false w e w':=⟨none,0,0,none,0,0,none,0,0,h.1,nH 0 w',h.2⟩
theorem yK (lo:Nat) (sq:Int) (fv:Value) (am av ak:Option Addr) (nm cm nv cv nk ck:Nat) (M:List ac) (V:List (List ae)) (S:List Int) (w:World) (hT:aM lo w am nm cm av nv cv ak nk ck M V S) (htb:bV sq M V S=false) :
 Calls Tryz.prog 42 #[.agg #[iT sq,.slice am nm cm,.slice av nv cv,.slice ak nk ck],fv] w (wR w):=by
 have HVN:Hid (V.length=nv):=hT.levels.length;have CS:Hid (∀w',Bl w w'→Calls Tryz.prog 53 #[.agg #[iT sq,.slice am nm cm,.slice av nv cv,.slice ak nk ck]] w' fun e w''=>(∃(q':Int) (m' x0 x1 x2 k':Value),e=.returned (.tuple #[.agg #[iT q',m',x0,x1,x2,k'],.bool false])∧(∃a n c,m'=.slice a n c)∧(∃a n c,x0=.slice a n c)∧(∃a n c,x1=.slice a n c)∧(∃a n c,x2=.slice a n c)∧(∃a n c,k'=.slice a n c))∧Bl w' w''):=fun w' k=>by
  by_cases hn:nv=3
  · subst hn;obtain ⟨A,B,C,hV3⟩:∃A B C,V=[A,B,C]:=by
     have:=HVN.out;match V,this with
     | [A,B,C],_=>exact ⟨A,B,C,rfl⟩
    subst hV3;obtain ⟨b,off,rfl,hbb⟩:=hT.levels.form (by omega);obtain ⟨A',a0,n0,c0,hA,l0,hR0⟩:=hT.levels.level (Below.refl _ w) 0 (by omega);obtain ⟨B',a1,n1,c1,hB,l1,hR1⟩:=hT.levels.level (Below.refl _ w) 1 (by omega);obtain ⟨C',a2,n2,c2,hC,l2,hR2⟩:=hT.levels.level (Below.refl _ w) 2 (by omega);simp only [List.getElem?_cons_zero,List.getElem?_cons_succ,Option.some.injEq] at hA hB hC;subst hA hB hC;rw [Nat.add_zero] at l0;have:=qp lo sq am ak nm cm b off cv nk ck M A B C S a0 a1 a2 n0 c0 n1 c1 n2 c2 w' (hT.mem.1.keep k) (hT.snaps.keep k) (hR0.keep k) (hR1.keep k) (hR2.keep k) (cell_later k l0) (cell_later k l1) (cell_later k l2);rw [htb] at this;refine this.mono ?_;rintro e w'' ⟨rfl,hb⟩;exact ⟨⟨_,_,_,_,_,_,rfl,⟨_,_,_,rfl⟩,⟨_,_,_,rfl⟩,⟨_,_,_,rfl⟩,⟨_,_,_,rfl⟩,⟨_,_,_,rfl⟩⟩,hb⟩
  · refine (tA sq am av ak nm cm nv cv nk ck w' hn).mono ?_;rintro e w'' ⟨rfl,hb⟩;exact ⟨⟨_,_,_,_,_,_,rfl,⟨_,_,_,rfl⟩,⟨_,_,_,rfl⟩,⟨_,_,_,rfl⟩,⟨_,_,_,rfl⟩,⟨_,_,_,rfl⟩⟩,hb⟩
 obtain ⟨X,hX⟩:=ay w.heap.size;obtain ⟨W,hW⟩:=ay ((w.alloc (.cells #[iT sq,.slice am nm cm,.slice av nv cv,.slice ak nk ck] 31)).alloc (.cells #[iT 0,nZ,nZ,nZ] 31));have kW:Bl w W:=by rw [hW];exact bZ.alloc (by simp) _
 have br:aF W (X+1) (iT 0) nZ nZ nZ:=by
  have:=aF.new (w.alloc (.cells #[iT sq,.slice am nm cm,.slice av nv cv,.slice ak nk ck] 31)) 31 (iT 0) nZ nZ nZ;rw [World.size_alloc] at this;rw [hW,hX];exact this
 have HX:Hid (X=w.heap.size):=hX;have K0:Hid (Bl w W):=kW;clear hT kW htb HVN;go_enter Tryz.func42,Tryz.ntmps42
 go_wp2_with fail
 rw [← hX,← hW];clear hX hW;refine (CS.out _ K0.out).mono ?_;rintro e w1 ⟨⟨q',_,_,_,_,_,rfl,⟨m1,m2,m3,rfl⟩,⟨y1,y2,y3,rfl⟩,⟨z1,z2,z3,rfl⟩,⟨u1,u2,u3,rfl⟩,⟨v1,v2,v3,rfl⟩⟩,hb1⟩;obtain ⟨w2,hw2⟩:=ay (w1.alloc (.cells #[iT q',.slice m1 m2 m3,.slice y1 y2 y3,.slice z1 z2 z3,.slice u1 u2 u3,.slice v1 v2 v3] 67));have k2:Bl w1 w2:=by rw [hw2];exact bZ
 have K1:Hid (Bl w w2):=(K0.out.trans (hb1.mono K0.out.size)).trans (k2.mono (Nat.le_trans K0.out.size hb1.size));have br1:=(br.keep hb1).keep k2;have r0:=br1.c0;have r1:=br1.c1;have r2:=br1.c2;have r3:=br1.c3;have rf:=br1.fz;have rz:=br1.lt;clear hb1 br k2;go_upto_region 2 with fail
 rw [← hw2];clear hw2;go_wp2;refine bodyPost_ret (v:=.tuple #[.agg #[iT 0,nZ,nZ,nZ],.bool false]) ?_ rfl ⟨rfl,?_⟩
 · have e:=(((br1.set0 (iT 0)).set1 nZ).set2 nZ).set3 nZ;simp [results,Tryz.results42,go_sem,e.c0,e.c1,e.c2,e.c3]
 · have hx:w.heap.size≤X+1:=by have:=HX.out;omega
   exact li K1.out hx _ _ _ _
end Go.Proofs.YtlmgojlffgkciaaGreat

namespace Go.Proofs.YtlmgojlffgkciaaGreat
open Go.RowKit
theorem ux {L:List ac} (h:az L=true):aQ L=L:=by
 have hb:=bJ L;exact (fL (fa h) hb.1 hb.2.symm).symm
theorem s8 {L:List ac} (h:az L=true) (h1:L≠[]) (h2:L.length≤150):pD L=true∧zl L=L∧zj L=((dg L:Nat):Int):=by
 have hs:=ux h;have hl:1≤L.length:=by cases L with | nil=>exact absurd rfl h1 | cons _ _=>simp
 have ho:pD L=true:=by unfold pD;rw [hs,h,decide_eq_true hl,decide_eq_true h2];rfl
 refine ⟨ho,?_,?_⟩
 · unfold zl;rw [if_pos ho,hs]
 · unfold zj;rw [if_pos ho,hs]
def dq (p:Nat→Prop) (w:World) (xs:List Value) (B:List ae):Prop :=
 xs.length=B.length*2∧∀i (r:ae),B[i]?=some r→(Lit.int .i64 r.2).wf=true∧∃s n c,xs[i*2]?=some (.slice s n c)∧xs[i*2+1]?=some (iT r.2)∧af w s n c r.1∧∀x,s=some x→0<n→p x.block
theorem dq.den {p:Nat→Prop} {w:World} {xs:List Value} {B:List ae} (h:dq p w xs B):jI w xs B :=
 ⟨h.1,fun i r hr=>by obtain ⟨h1,s,n,c,h2,h3,h4,_⟩:=h.2 i r hr;exact ⟨h1,s,n,c,h2,h3,h4,fun x e _=>Nat.zero_le _⟩⟩
theorem jI.denP {w:World} {xs:List Value} {B:List ae} (h:jI w xs B):dq (·<w.heap.size) w xs B :=
 ⟨h.1,fun i r hr=>by obtain ⟨h1,s,n,c,h2,h3,h4⟩:=h.2 i r hr;exact ⟨h1,s,n,c,h2,h3,h4.1,fun x e hp=>(h4.1.lies x e hp).1⟩⟩
theorem dq.imp {p p':Nat→Prop} {w:World} {xs:List Value} {B:List ae} (h:dq p w xs B) (hp:∀b,p b→p' b):dq p' w xs B :=
 ⟨h.1,fun i r hr=>by obtain ⟨h1,s,n,c,h2,h3,h4,h5⟩:=h.2 i r hr;exact ⟨h1,s,n,c,h2,h3,h4,fun x e hn=>hp _ (h5 x e hn)⟩⟩
theorem dq.same {p:Nat→Prop} {w w':World} {xs:List Value} {B:List ae} (h:dq p w xs B) (hs:w.heap.size≤w'.heap.size) (hb:∀b,p b→b<w.heap.size→w'.heap[b]?=w.heap[b]?):dq p w' xs B :=
 ⟨h.1,fun i r hr=>by
  obtain ⟨h1,s,n,c,h2,h3,h4,h5⟩:=h.2 i r hr
  exact ⟨h1,s,n,c,h2,h3,h4.moved hs (fun x e hn o=>World.cell?_of_block (hb _ (h5 x e hn) (h4.lies x e hn).1)),h5⟩⟩
theorem dq.keepO {lo hi:Nat} {w w':World} {xs:List Value} {B:List ae} (h:dq (fun b=>b<lo∨hi≤b) w xs B) (k:bu lo hi w w'):dq (fun b=>b<lo∨hi≤b) w' xs B:=h.same k.size (fun b hp hl=>k.block b hl hp)
theorem dq.below {p:Nat→Prop} {w w':World} {xs:List Value} {B:List ae} (h:dq p w xs B) (k:Bl w w'):dq p w' xs B:=h.same k.size (fun b _ hl=>k.block b hl)
theorem dq.low {w w':World} {xs:List Value} {B:List ae} (h:dq (·<w.heap.size) w xs B) (k:Bl w w'):dq (·<w.heap.size) w' xs B:=h.same k.size (fun b hp _=>k.block b hp)
theorem dq.app {p:Nat→Prop} {w:World} {xs ys:List Value} {A B:List ae} (h:dq p w xs A) (k:dq p w ys B):dq p w (xs++ys) (A++B):=by
 have hl:=h.1;have kl:=k.1;refine ⟨by rw [List.length_append,List.length_append,hl,kl];omega,fun i r hr=>?_⟩;by_cases hi:i<A.length
 · rw [List.getElem?_append_left hi] at hr;rw [List.getElem?_append_left (by omega),List.getElem?_append_left (by omega)];exact h.2 i r hr
 · rw [List.getElem?_append_right (by omega)] at hr;rw [List.getElem?_append_right (by omega),List.getElem?_append_right (by omega),show i*2 - xs.length=(i - A.length)*2 by omega,show i*2+1 - xs.length=(i - A.length)*2+1 by omega];exact k.2 _ r hr
end Go.Proofs.YtlmgojlffgkciaaGreat

namespace Go.Proofs.YtlmgojlffgkciaaGreat
open Go.RowKit
theorem bi {w w':World} {base e size n:Nat} {v:Value} {xs:List Value} (h:w.ownsRow base e size v n xs) (hb:Bl w w'):w'.ownsRow base e size v n xs:=h.kept (row:=none) ⟨hb.os,hb.tape,hb.output,hb.size,fun k hk _=>hb.block k hk⟩ (by
 cases v.ownBlock with
 | none=>exact .inl rfl
 | some x=>exact .inr (by simp))
end Go.Proofs.YtlmgojlffgkciaaGreat
