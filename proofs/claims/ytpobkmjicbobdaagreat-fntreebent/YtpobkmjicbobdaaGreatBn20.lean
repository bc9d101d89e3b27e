/- Walks. -/
import Derived.Test.YtpobkmjicbobdaaGreatBn19
namespace Go.Proofs.YtpobkmjicbobdaaGreat
set_option maxRecDepth 100000
set_option maxHeartbeats 40000000
open Go.RowKit
variable {A C:List ag} {K M:List ac} {S:List Int} {b i n:Nat} {q:Int} {u0 u1 u2 u3 u4 u5:Value} {w w':World} {xs:List Value}
structure dL (w:World) (b:Nat) (u0 u1 u2 u3 u4 u5:Value):Prop where
 c0:w.cell? ⟨b,0,none⟩=some u0
 c1:w.cell? ⟨b,1,none⟩=some u1
 c2:w.cell? ⟨b,2,none⟩=some u2
 c3:w.cell? ⟨b,3,none⟩=some u3
 c4:w.cell? ⟨b,4,none⟩=some u4
 c5:w.cell? ⟨b,5,none⟩=some u5
 fz:∀o,w.frozen? ⟨b,o,none⟩=false
theorem dL.lt (h:dL w b u0 u1 u2 u3 u4 u5):b<w.heap.size:=World.block_lt_of_cell? w _ h.c0
theorem dL.new (w:World) (t:TypeId) (u0 u1 u2 u3 u4 u5:Value):dL (w.alloc (.cells #[u0,u1,u2,u3,u4,u5] t)) w.heap.size u0 u1 u2 u3 u4 u5:=⟨by simp,by simp,by simp,by simp,by simp,by simp,fun o=>by simp⟩
theorem dL.below {B:Nat} (h:dL w b u0 u1 u2 u3 u4 u5) (hb:Below B w w') (hB:b<B):dL w' b u0 u1 u2 u3 u4 u5 :=
 ⟨(hb.cell (p:=⟨b,0,none⟩) hB).trans h.c0,(hb.cell (p:=⟨b,1,none⟩) hB).trans h.c1,(hb.cell (p:=⟨b,2,none⟩) hB).trans h.c2,(hb.cell (p:=⟨b,3,none⟩) hB).trans h.c3,(hb.cell (p:=⟨b,4,none⟩) hB).trans h.c4,(hb.cell (p:=⟨b,5,none⟩) hB).trans h.c5,fun o=>(World.frozen?_of_block (hb.block b hB)).trans (h.fz o)⟩
theorem dL.keep (h:dL w b u0 u1 u2 u3 u4 u5) (hb:Bl w w'):dL w' b u0 u1 u2 u3 u4 u5:=h.below hb h.lt
theorem dL.alloc (h:dL w b u0 u1 u2 u3 u4 u5) (o:Obj):dL (w.alloc o) b u0 u1 u2 u3 u4 u5:=h.keep bZ
theorem dL.other (h:dL w b u0 u1 u2 u3 u4 u5) {b' o:Nat} (hp:b'≠b) (x:Value):dL (w.setCell ⟨b',o,none⟩ x) b u0 u1 u2 u3 u4 u5 :=
 ⟨(aq x (fun e=>hp e.1.symm)).trans h.c0,(aq x (fun e=>hp e.1.symm)).trans h.c1,(aq x (fun e=>hp e.1.symm)).trans h.c2,(aq x (fun e=>hp e.1.symm)).trans h.c3,(aq x (fun e=>hp e.1.symm)).trans h.c4,(aq x (fun e=>hp e.1.symm)).trans h.c5,fun o=>by rw [World.frozen?_setCell];exact h.fz o⟩
theorem dL.set0 (h:dL w b u0 u1 u2 u3 u4 u5) (x:Value):dL (w.setCell ⟨b,0,none⟩ x) b x u1 u2 u3 u4 u5 :=
 ⟨World.cell?_setCell_same' _ _ _ (by rw [h.c0];rfl),(aq x (by simp)).trans h.c1,(aq x (by simp)).trans h.c2,(aq x (by simp)).trans h.c3,(aq x (by simp)).trans h.c4,(aq x (by simp)).trans h.c5,fun o=>by rw [World.frozen?_setCell];exact h.fz o⟩
theorem dL.set1 (h:dL w b u0 u1 u2 u3 u4 u5) (x:Value):dL (w.setCell ⟨b,1,none⟩ x) b u0 x u2 u3 u4 u5 :=
 ⟨(aq x (by simp)).trans h.c0,World.cell?_setCell_same' _ _ _ (by rw [h.c1];rfl),(aq x (by simp)).trans h.c2,(aq x (by simp)).trans h.c3,(aq x (by simp)).trans h.c4,(aq x (by simp)).trans h.c5,fun o=>by rw [World.frozen?_setCell];exact h.fz o⟩
theorem dL.set2 (h:dL w b u0 u1 u2 u3 u4 u5) (x:Value):dL (w.setCell ⟨b,2,none⟩ x) b u0 u1 x u3 u4 u5 :=
 ⟨(aq x (by simp)).trans h.c0,(aq x (by simp)).trans h.c1,World.cell?_setCell_same' _ _ _ (by rw [h.c2];rfl),(aq x (by simp)).trans h.c3,(aq x (by simp)).trans h.c4,(aq x (by simp)).trans h.c5,fun o=>by rw [World.frozen?_setCell];exact h.fz o⟩
theorem dL.set3 (h:dL w b u0 u1 u2 u3 u4 u5) (x:Value):dL (w.setCell ⟨b,3,none⟩ x) b u0 u1 u2 x u4 u5 :=
 ⟨(aq x (by simp)).trans h.c0,(aq x (by simp)).trans h.c1,(aq x (by simp)).trans h.c2,World.cell?_setCell_same' _ _ _ (by rw [h.c3];rfl),(aq x (by simp)).trans h.c4,(aq x (by simp)).trans h.c5,fun o=>by rw [World.frozen?_setCell];exact h.fz o⟩
theorem dL.set4 (h:dL w b u0 u1 u2 u3 u4 u5) (x:Value):dL (w.setCell ⟨b,4,none⟩ x) b u0 u1 u2 u3 x u5 :=
 ⟨(aq x (by simp)).trans h.c0,(aq x (by simp)).trans h.c1,(aq x (by simp)).trans h.c2,(aq x (by simp)).trans h.c3,World.cell?_setCell_same' _ _ _ (by rw [h.c4];rfl),(aq x (by simp)).trans h.c5,fun o=>by rw [World.frozen?_setCell];exact h.fz o⟩
theorem dL.set5 (h:dL w b u0 u1 u2 u3 u4 u5) (x:Value):dL (w.setCell ⟨b,5,none⟩ x) b u0 u1 u2 u3 u4 x :=
 ⟨(aq x (by simp)).trans h.c0,(aq x (by simp)).trans h.c1,(aq x (by simp)).trans h.c2,(aq x (by simp)).trans h.c3,(aq x (by simp)).trans h.c4,World.cell?_setCell_same' _ _ _ (by rw [h.c5];rfl),fun o=>by rw [World.frozen?_setCell];exact h.fz o⟩
theorem qB (lo:Nat) (sq:Int) (am ak:Option Addr) (nm cm b o cv nk ck:Nat) (M:List ac) (A B C:List ag) (S:List Int) (a0 a1 a2:Option Addr) (n0 c0 n1 c1 n2 c2:Nat) (w:World) (hM:aj w am nm cm M) (hS:bG lo w ak nk ck S) (h0:az lo w a0 n0 c0 A) (h1:az lo w a1 n1 c1 B) (h2:az lo w a2 n2 c2 C)
 (l0:w.cell? ⟨b,o,none⟩=some (.slice a0 n0 c0)) (l1:w.cell? ⟨b,o+1,none⟩=some (.slice a1 n1 c1)) (l2:w.cell? ⟨b,o+2,none⟩=some (.slice a2 n2 c2)) :
 Calls Tryz.prog 86 #[.agg #[iT sq,.slice am nm cm,sO b o 3 cv,.slice ak nk ck]] w fun e w'=>e=.returned (.tuple #[.agg #[iT sq,.slice am nm cm,.slice a0 n0 c0,.slice a1 n1 c1,.slice a2 n2 c2,.slice ak nk ck],.bool (bc sq M [A,B,C] S)])∧Bl w w':=by
 have hbw:=World.block_lt_of_cell? _ _ l0;simp only at hbw;obtain ⟨X,hX⟩:=aS w.heap.size;obtain ⟨W,hW⟩:=aS (((w.alloc (.cells #[iT sq,.slice am nm cm,sO b o 3 cv,.slice ak nk ck] 31)).alloc (.cells #[iT 0,nZ,nZ,nZ,nZ,nZ] 82)).alloc (.cells #[iT sq,.slice am nm cm,nZ,nZ,nZ,.slice ak nk ck] 82));have kW:Bl w W:=by rw [hW];exact (bZ.alloc (by simp) _).alloc (by simp;omega) _
 have xa:(w.alloc (.cells #[iT sq,.slice am nm cm,sO b o 3 cv,.slice ak nk ck] 31)).cell? ⟨X,2,none⟩=some (sO b o 3 cv):=by rw [hX];simp
 have x2:W.cell? ⟨X,2,none⟩=some (sO b o 3 cv):=by
  rw [hW];exact cell_later bZ (cell_later bZ xa)
 have br:dL W (X+1) (iT 0) nZ nZ nZ nZ nZ:=by
  have:=(dL.new (w.alloc (.cells #[iT sq,.slice am nm cm,sO b o 3 cv,.slice ak nk ck] 31)) 82 (iT 0) nZ nZ nZ nZ nZ).alloc (.cells #[iT sq,.slice am nm cm,nZ,nZ,nZ,.slice ak nk ck] 82);rw [World.size_alloc] at this;rw [hW,hX];exact this
 have bs:dL W (X+1+1) (iT sq) (.slice am nm cm) nZ nZ nZ (.slice ak nk ck):=by
  have:=dL.new ((w.alloc (.cells #[iT sq,.slice am nm cm,sO b o 3 cv,.slice ak nk ck] 31)).alloc (.cells #[iT 0,nZ,nZ,nZ,nZ,nZ] 82)) 82 (iT sq) (.slice am nm cm) nZ nZ nZ (.slice ak nk ck);rw [World.size_alloc,World.size_alloc] at this;rw [hW,hX];exact this
 have k0:=cell_later kW l0;have k1:=cell_later kW l1;have k2:=cell_later kW l2;have hcp:(Builtin.copy_ #[29,29] 3 #[.slice (some ⟨X+1+1,2,none⟩) 3 3,sO b o 3 cv]).run Tryz.prog W.drew=.ok (goInt 3) (W.drew.setCells (X+1+1) 2 [.slice a0 n0 c0,.slice a1 n1 c1,.slice a2 n2 c2]):=by
  refine run_copy_cells (P:=Tryz.prog) W.drew 29 29 3 61 (X+1+1) 2 3 3 ⟨b,o,none⟩ 3 cv [.slice a0 n0 c0,.slice a1 n1 c1,.slice a2 n2 c2] Tryz.underlying29 (by kernel_rfl) rfl ?_ ?_ ?_ ?_
  · intro j v hj;rw [Go.WideShapes.add_plain];match j,hj with
    | 0,hj=>simp at hj;subst hj;exact k0
    | 1,hj=>simp at hj;subst hj;exact k1
    | 2,hj=>simp at hj;subst hj;exact k2
  · intro j hj;match j,hj with
    | 0,_=>exact Option.isSome_iff_exists.2 ⟨_,bs.c2⟩
    | 1,_=>exact Option.isSome_iff_exists.2 ⟨_,bs.c3⟩
    | 2,_=>exact Option.isSome_iff_exists.2 ⟨_,bs.c4⟩
  · exact fun j _=>bs.fz _
  · intro v hv;simp at hv;rcases hv with rfl | rfl | rfl <;> rfl
 have HM:=b6 hM;have HS:=b6 hS;have H0:=b6 h0;have H1:=b6 h1;have H2:=b6 h2;have KW:Hid (Bl w W):=kW;have HX:Hid (X=w.heap.size):=hX;clear hM hS h0 h1 h2 kW l0 l1 l2 k0 k1 k2 xa;go_enter Tryz.func86,Tryz.ntmps86
 go_upto_region 4 with fail
 rw [← hX,← hW];clear hX hW;have zX:X<W.heap.size:=World.block_lt_of_cell? _ _ x2;have zS:=bs.lt;go_region_with (fail)
 obtain ⟨W2,hW2⟩:=aS (W.drew.setCells (X+1+1) 2 [.slice a0 n0 c0,.slice a1 n1 c1,.slice a2 n2 c2]);have hW2':W2=((W.drew.setCell ⟨X+1+1,2,none⟩ (.slice a0 n0 c0)).setCell ⟨X+1+1,3,none⟩ (.slice a1 n1 c1)).setCell ⟨X+1+1,4,none⟩ (.slice a2 n2 c2):=by rw [hW2];rfl
 have bs2:dL W2 (X+1+1) (iT sq) (.slice am nm cm) (.slice a0 n0 c0) (.slice a1 n1 c1) (.slice a2 n2 c2) (.slice ak nk ck):=by
  have d:dL W.drew (X+1+1) (iT sq) (.slice am nm cm) nZ nZ nZ (.slice ak nk ck):=⟨bs.c0,bs.c1,bs.c2,bs.c3,bs.c4,bs.c5,bs.fz⟩;rw [hW2'];exact ((d.set2 _).set3 _).set4 _
 have br2:dL W2 (X+1) (iT 0) nZ nZ nZ nZ nZ:=by
  have d:dL W.drew (X+1) (iT 0) nZ nZ nZ nZ nZ:=⟨br.c0,br.c1,br.c2,br.c3,br.c4,br.c5,br.fz⟩;rw [hW2'];exact ((d.other (by omega) _).other (by omega) _).other (by omega) _
 have K2:Hid (Bl w W2):=by
  have hx:w.heap.size≤X+1+1:=by have:=HX.out;omega
  rw [hW2'];exact ((KW.out.drew.setCell (p:=⟨X+1+1,2,none⟩) hx _).setCell (p:=⟨X+1+1,3,none⟩) hx _).setCell (p:=⟨X+1+1,4,none⟩) hx _
 rw [← hW2];clear hW2 hW2' hcp x2 bs br zS zX KW hbw;have HBR:Hid (dL W2 (X+1) (iT 0) nZ nZ nZ nZ nZ):=br2;have y0:=bs2.c0;have y1:=bs2.c1;have y2:=bs2.c2;have y3:=bs2.c3;have y4:=bs2.c4;have y5:=bs2.c5;have zS:=bs2.lt;have HBS:Hid (dL W2 (X+1+1) (iT sq) (.slice am nm cm) (.slice a0 n0 c0) (.slice a1 n1 c1) (.slice a2 n2 c2) (.slice ak nk ck)):=bs2;clear br2 bs2;go_upto_region 5 with fail
 go_region_with (go_at_call 142;refine (zl lo sq am ak nm cm nk ck a0 a1 a2 n0 c0 n1 c1 n2 c2 M A B C S _ (HM.out.keep K2.out.drew) (HS.out.keep K2.out.drew) (H0.out.keep K2.out.drew) (H1.out.keep K2.out.drew) (H2.out.keep K2.out.drew)).mono ?_;rintro e w5 ⟨rfl,hb5⟩;have k5:Bl W2 w5:=((Below.refl _ W2).drew).trans hb5;have y0':=cell_later k5 y0;have y1':=cell_later k5 y1;have y2':=cell_later k5 y2;have y3':=cell_later k5 y3;have y4':=cell_later k5 y4;have y5':=cell_later k5 y5;have zS':=Nat.lt_of_lt_of_le zS k5.size;have r0:=(HBR.out.keep k5).c0;have r1:=(HBR.out.keep k5).c1;have r2:=(HBR.out.keep k5).c2;have r3:=(HBR.out.keep k5).c3;have r4:=(HBR.out.keep k5).c4;have r5:=(HBR.out.keep k5).c5;have rf:=(HBR.out.keep k5).fz;have rz:=(HBR.out.keep k5).lt)
 all_goals
  go_wp2;refine bodyPost_ret (v:=.tuple #[.agg #[iT sq,.slice am nm cm,.slice a0 n0 c0,.slice a1 n1 c1,.slice a2 n2 c2,.slice ak nk ck],.bool (bc sq M [A,B,C] S)]) ?_ rfl ⟨rfl,?_⟩
  · have c:=((((((HBR.out.keep k5).set0 (iT sq)).set1 (.slice am nm cm)).set2 (.slice a0 n0 c0)).set3 (.slice a1 n1 c1)).set4 (.slice a2 n2 c2)).set5 (.slice ak nk ck);simp [results,Tryz.results86,go_sem,c.c0,c.c1,c.c2,c.c3,c.c4,c.c5]
  · have hx:w.heap.size≤X+1:=by have:=HX.out;omega
    have K5:=K2.out.trans (k5.mono K2.out.size);exact ((gG K5 hx _ _ _ _).setCell (p:=⟨X+1,4,none⟩) hx _).setCell (p:=⟨X+1,5,none⟩) hx _
theorem mN (sq:Int) (am av ak:Option Addr) (nm cm nv cv nk ck:Nat) (w:World) (hn:¬nv=3) :
 Calls Tryz.prog 86 #[.agg #[iT sq,.slice am nm cm,.slice av nv cv,.slice ak nk ck]] w fun e w'=>e=.returned (.tuple #[.agg #[iT 0,nZ,nZ,nZ,nZ,nZ],.bool false])∧Bl w w':=by
 have hnI:¬(nv:Int)=3:=by omega
 have hnb:((nv:Int) == 3)=false:=by simpa using hnI
 obtain ⟨W,hW⟩:=aS ((w.alloc (.cells #[iT sq,.slice am nm cm,.slice av nv cv,.slice ak nk ck] 31)).alloc (.cells #[iT 0,nZ,nZ,nZ,nZ,nZ] 82));have kW:Bl w W:=by rw [hW];exact bZ.alloc (by simp) _
 have br:dL W (w.heap.size+1) (iT 0) nZ nZ nZ nZ nZ:=by
  have:=dL.new (w.alloc (.cells #[iT sq,.slice am nm cm,.slice av nv cv,.slice ak nk ck] 31)) 82 (iT 0) nZ nZ nZ nZ nZ;rw [World.size_alloc] at this;rw [hW];exact this
 go_enter Tryz.func86,Tryz.ntmps86
 go_upto_region 2 with fail
 rw [← hW];clear hW;have r0:=br.c0;have r1:=br.c1;have r2:=br.c2;have r3:=br.c3;have r4:=br.c4;have r5:=br.c5;have rf:=br.fz;have rz:=br.lt;go_wp2;refine bodyPost_ret (v:=.tuple #[.agg #[iT 0,nZ,nZ,nZ,nZ,nZ],.bool false]) ?_ rfl ⟨rfl,?_⟩
 · have c:=(((((br.set0 (iT 0)).set1 nZ).set2 nZ).set3 nZ).set4 nZ).set5 nZ;simp [results,Tryz.results86,go_sem,c.c0,c.c1,c.c2,c.c3,c.c4,c.c5]
 · have hx:w.heap.size≤w.heap.size+1:=by omega
   exact ((gG kW hx _ _ _ _).setCell (p:=⟨w.heap.size+1,4,none⟩) hx _).setCell (p:=⟨w.heap.size+1,5,none⟩) hx _
def mX (q:Int) (M:List ac) (V:List (List ag)) (S:List Int):List ac:=if bc q M V S then bk (eo M V).flatten else []
theorem iX {B:List ag} (h:bc q M [A,B,C] S=true):fu (cU M A B C).flatten:=by
 have h1:=((jn q M A B C S).1 h).2.2.2.2.2.2;refine ((jy q _).1 h1).1.imp ?_;intro x y ho e;have:=ho e.1;omega
theorem jt (B:List ag):(B.reverse.map (·.1)).flatten.Perm (bm B):=by
 unfold bm;rw [List.flatMap_def];exact ((List.reverse_perm B).map _).flatten
theorem iC (M:List ac) (A B C:List ag):(cU M A B C).flatten.Perm (M++(bm A++(bm B++bm C))):=by
 unfold cU;simp only [List.flatten_cons,List.flatten_append];exact (((jt A).append ((jt B).append (jt C)))).append_left _
theorem parts_flat (M:List ac) (A B C:List ag):(eo M [A,B,C]).flatten.Perm (M++(bm A++(bm B++bm C))):=by
 unfold eo;simp only [List.headD_cons,List.drop_succ_cons,List.drop_zero,List.map_cons,List.map_nil,List.cons_append,List.flatten_cons,List.flatten_append,List.flatten_nil,List.append_nil];exact ((jt A).append_right _).append_left _
theorem wE {B:List ag} (h:bc q M [A,B,C] S=true):bk (cU M A B C).flatten=bk (eo M [A,B,C]).flatten :=
 mE (iX h) ((iC M A B C).trans (parts_flat M A B C).symm)
theorem zE (B:List ag):(bm B).length=BU B:=by
 unfold bm BU;rw [List.length_flatMap]
theorem pe {B:List ag} (h:Cg B):∀e ∈ bm B,Br e:=by
 unfold bm;intro e he;obtain ⟨p,hp,he⟩:=List.mem_flatMap.1 he;exact h p hp e he
theorem yi (M:List ac) (A B C:List ag):(M++(bm A++(bm B++bm C))).length≤M.length+(BT [A,B,C]+[A,B,C].length):=by
 simp only [List.length_append,zE,BT,List.map_cons,List.map_nil,List.sum_cons,List.sum_nil];omega
theorem Ai {B:List ag} (hM:∀e ∈ M,Br e) (hV:∀Z ∈ [A,B,C],Cg Z):∀e ∈ M++(bm A++(bm B++bm C)),Br e:=by
 intro e he;rcases List.mem_append.1 he with h | h
 · exact hM e h
 rcases List.mem_append.1 h with h | h
 · exact pe (hV A (by simp)) e h
 rcases List.mem_append.1 h with h | h
 · exact pe (hV B (by simp)) e h
 · exact pe (hV C (by simp)) e h
theorem kJ {V:List (List ag)} (h:bc q M V S=true):∃A B C,V=[A,B,C]:=by
 have:=(bh h).2.2.2.2.2.1;match V,this with
 | [A,B,C],_=>exact ⟨A,B,C,rfl⟩
structure Bk (w:World) (am:Option Addr) (nm cm:Nat) (a0:Option Addr) (n0 c0:Nat) (a1:Option Addr) (n1 c1:Nat) (a2:Option Addr) (n2 c2:Nat) (ak:Option Addr) (nk ck:Nat) (M:List ac) (A B C:List ag) (S:List Int):Prop where
 mem:aj w am nm cm M
 r0:az 0 w a0 n0 c0 A
 r1:az 0 w a1 n1 c1 B
 r2:az 0 w a2 n2 c2 C
 sn:bG 0 w ak nk ck S
theorem Bk.keep {am a0 a1 a2 ak:Option Addr} {nm cm n0 c0 n1 c1 n2 c2 nk ck:Nat} {B:List ag} (h:Bk w am nm cm a0 n0 c0 a1 n1 c1 a2 n2 c2 ak nk ck M A B C S) (hb:Bl w w'):Bk w' am nm cm a0 n0 c0 a1 n1 c1 a2 n2 c2 ak nk ck M A B C S:=⟨h.mem.keep hb,h.r0.keep hb,h.r1.keep hb,h.r2.keep hb,h.sn.keep hb⟩
theorem AD:∀c:List ac,c≠[]→lN false c≠[]
 | [],h=>absurd rfl h
 | e :: R,_=>by
  rw [tD (e:=e) false rfl]
  unfold dP
  split
  · simp
  · simp
theorem xE (Cs:List (List ac)):(Cs.foldr (Sq.stepD lN) (false,[])).1=false:=by
 induction Cs with
 | nil=>rfl
 | cons c Cs ih =>
  rw [List.foldr_cons];show (if _ then _ else false)=false
  split
  · exact ih
  · rfl
theorem wV {G:List ac} (hG:G≠[]):eF S false G≠[]:=by
 unfold eF Sq.leftD;cases hp:Sq.parts (fW S) G with
 | nil =>
  have h:=Sq.parts_flat (fW S) G;rw [hp] at h;exact absurd h.symm hG
 | cons c Cs =>
  have hc:c≠[]:=ju (fW S) G c (by rw [hp];simp);rw [List.foldr_cons];show lN _ c++_≠[]
  rw [xE Cs];intro h;exact AD c hc (List.append_eq_nil_iff.1 h).1
theorem se (hr:aR M=true) (hM:M≠[]) (S:List Int):bI M S false≠[]:=by
 unfold bI;rw [if_pos hr];cases hp:Sq.parts eR M with
 | nil =>
  have h:=Sq.parts_flat eR M;rw [hp] at h;exact absurd h.symm hM
 | cons G Gs =>
  have hG:G≠[]:=ju eR M G (by rw [hp];simp);rw [List.flatMap_cons];intro h;exact wV hG (List.append_eq_nil_iff.1 h).1
theorem uf {L:List ac} (h:aR L=true):bk L=L:=by
 have hb:=bJ L;exact (i8 (fT h) hb.1 hb.2.symm).symm
def dK (p:Nat→Prop) (w:World) (xs:List Value) (B:List ag):Prop :=
 xs.length=B.length*2∧∀i (r:ag),B[i]?=some r→(Lit.int .i64 r.2).wf=true∧∃s n c,xs[i*2]?=some (.slice s n c)∧xs[i*2+1]?=some (iT r.2)∧aj w s n c r.1∧∀x,s=some x→0<n→p x.block
theorem dK.den {p:Nat→Prop} {B:List ag} (h:dK p w xs B):km w xs B :=
 ⟨h.1,fun i r hr=>by obtain ⟨h1,s,n,c,h2,h3,h4,_⟩:=h.2 i r hr;exact ⟨h1,s,n,c,h2,h3,h4,fun x e _=>Nat.zero_le _⟩⟩
theorem km.denP {B:List ag} (h:km w xs B):dK (·<w.heap.size) w xs B :=
 ⟨h.1,fun i r hr=>by obtain ⟨h1,s,n,c,h2,h3,h4⟩:=h.2 i r hr;exact ⟨h1,s,n,c,h2,h3,h4.1,fun x e hp=>(h4.1.lies x e hp).1⟩⟩
theorem dK.imp {p p':Nat→Prop} {B:List ag} (h:dK p w xs B) (hp:∀b,p b→p' b):dK p' w xs B :=
 ⟨h.1,fun i r hr=>by obtain ⟨h1,s,n,c,h2,h3,h4,h5⟩:=h.2 i r hr;exact ⟨h1,s,n,c,h2,h3,h4,fun x e hn=>hp _ (h5 x e hn)⟩⟩
theorem dK.same {p:Nat→Prop} {B:List ag} (h:dK p w xs B) (hs:w.heap.size≤w'.heap.size) (hb:∀b,p b→b<w.heap.size→w'.heap[b]?=w.heap[b]?):dK p w' xs B :=
 ⟨h.1,fun i r hr=>by
  obtain ⟨h1,s,n,c,h2,h3,h4,h5⟩:=h.2 i r hr
  exact ⟨h1,s,n,c,h2,h3,h4.moved hs (fun x e hn o=>World.cell?_of_block (hb _ (h5 x e hn) (h4.lies x e hn).1)),h5⟩⟩
theorem dK.keepO {lo hi:Nat} {B:List ag} (h:dK (fun b=>b<lo∨hi≤b) w xs B) (k:dM lo hi w w'):dK (fun b=>b<lo∨hi≤b) w' xs B:=h.same k.size (fun b hp hl=>k.block b hl hp)
theorem dK.below {p:Nat→Prop} {B:List ag} (h:dK p w xs B) (k:Bl w w'):dK p w' xs B:=h.same k.size (fun b _ hl=>k.block b hl)
theorem dK.low {B:List ag} (h:dK (·<w.heap.size) w xs B) (k:Bl w w'):dK (·<w.heap.size) w' xs B:=h.same k.size (fun b hp _=>k.block b hp)
theorem dK.app {p:Nat→Prop} {ys:List Value} {B:List ag} (h:dK p w xs A) (k:dK p w ys B):dK p w (xs++ys) (A++B):=by
 have hl:=h.1;have kl:=k.1;refine ⟨by rw [List.length_append,List.length_append,hl,kl];omega,fun i r hr=>?_⟩;by_cases hi:i<A.length
 · rw [List.getElem?_append_left hi] at hr;rw [List.getElem?_append_left (by omega),List.getElem?_append_left (by omega)];exact h.2 i r hr
 · rw [List.getElem?_append_right (by omega)] at hr;rw [List.getElem?_append_right (by omega),List.getElem?_append_right (by omega),show i*2 - xs.length=(i - A.length)*2 by omega,show i*2+1 - xs.length=(i - A.length)*2+1 by omega];exact k.2 _ r hr
def o8 (M:List ac) (S:List Int):ag:=(bI M S false,((cZ (bI M S false):Nat):Int))
def Bt (q:Int) (i:Nat) (e:ac):ac:=(e.1,q+1+i,e.2.2)
def fa (q:Int) (K:List ac):List ac:=K.mapIdx (Bt q)
theorem yt {e:ac} (h:K[i]?=some e):fa q (K.take (i+1))=fa q (K.take i)++[Bt q i e]:=by
 have hi:=(List.getElem?_eq_some_iff.1 h).1;unfold fa;rw [List.take_add_one,h];simp only [Option.toList_some];rw [List.mapIdx_concat,List.length_take,Nat.min_eq_left (by omega)]
theorem fC (q:Int) (K:List ac):(fa q K).length=K.length:=by simp [fa]
def mR (q:Int) (K:List ac) (i:Nat):Bool:=match K[i]? with
 | none=>true
 | some e=>decide (e.2.1=0) && cX e.1 (q+1+i) e.2.2.1 e.2.2.2.1 e.2.2.2.2
def eO (q:Int) (K:List ac):Bool:=(List.range K.length).all (mR q K)
theorem vS (hl:K.length=n) (h:∀j,j<n→mR q K j=true):eO q K=true:=by
 unfold eO;rw [List.all_eq_true];intro j hj;exact h j (by rw [← hl];exact List.mem_range.1 hj)
theorem sd (hi:i<K.length) (h:mR q K i=false):eO q K=false:=by
 unfold eO;rw [List.all_eq_false];exact ⟨i,List.mem_range.2 hi,by rw [h];simp⟩
theorem A5 {e:ac} (h:K[i]?=some e) (h0:¬e.2.1=0):mR q K i=false:=by
 unfold mR;rw [h];simp [h0]
theorem Bs {e:ac} (h:K[i]?=some e) (h0:e.2.1=0):mR q K i=cX e.1 (q+1+i) e.2.2.1 e.2.2.2.1 e.2.2.2.2:=by
 unfold mR;rw [h];simp [h0]
theorem vT (h:eO q K=true) {i:Nat} {e:ac} (he:(fa q K)[i]?=some e):cX e.1 e.2.1 e.2.2.1 e.2.2.2.1 e.2.2.2.2=true:=by
 have hi:=(List.getElem?_eq_some_iff.1 he).1;rw [fC] at hi;unfold eO at h;rw [List.all_eq_true] at h;have h1:=h i (List.mem_range.2 hi);have hk:=List.getElem?_eq_getElem hi;unfold mR at h1;rw [hk] at h1;simp only [Bool.and_eq_true] at h1;unfold fa at he;rw [List.getElem?_mapIdx,hk] at he;simp only [Option.map_some,Option.some.injEq] at he;subst he;exact h1.2
def fZ (q:Int) (M K:List ac):Bool:=decide (1≤K.length) && (decide (K.length≤12) && (decide (M.length+K.length≤60) && eO q K))
theorem pZ (w:World) (s:ByteArray) (Q d:Int) (t:ByteArray) (m:Int):∀j u,[Value.string s,iT Q,iT d,.string t,iT m][j]?=some u→(w.alloc (.cells #[.string s,iT Q,iT d,.string t,iT m] 50)).cell? ((⟨w.heap.size,0,none⟩:Addr).add j)=some u:=by
 intro j u hu;rw [Go.WideShapes.add_plain];match j,hu with
 | 0,hu=>simp at hu;subst hu;simp
 | 1,hu=>simp at hu;subst hu;simp
 | 2,hu=>simp at hu;subst hu;simp
 | 3,hu=>simp at hu;subst hu;simp
 | 4,hu=>simp at hu;subst hu;simp
theorem bF {w w':World} {base e size n:Nat} {v:Value} {xs:List Value} (h:w.ownsRow base e size v n xs) (hb:Bl w w'):w'.ownsRow base e size v n xs:=h.kept (row:=none) ⟨hb.os,hb.tape,hb.output,hb.size,fun k hk _=>hb.block k hk⟩ (by
 cases v.ownBlock with
 | none=>exact .inl rfl
 | some x=>exact .inr (by simp))
def jk (q:Int) (K:List ac) (n:Nat) (w:World) (e:Ending) (w':World):Prop:=∃v ok,e=.returned (.tuple #[v,.bool ok])∧(eO q K=true→(∃g c',v=sL g n c'∧ay w' w.heap.size g n c' (fa q K))∧ok=(decide (1≤n) && decide (n≤12)))∧(eO q K=false→ok=false∧∃a m c' L,v=.slice a m c'∧aj w' a m c' L)∧Bl w w'
end Go.Proofs.YtpobkmjicbobdaaGreat
