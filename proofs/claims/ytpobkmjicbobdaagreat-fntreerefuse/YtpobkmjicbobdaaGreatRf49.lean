/- Walks. -/
import Derived.Test.YtpobkmjicbobdaaGreatRf43
import Derived.Test.YtpobkmjicbobdaaGreatRf48
import Derived.Lib.ItoaLen
namespace Go.Proofs.YtpobkmjicbobdaaGreat
set_option maxRecDepth 100000
set_option maxHeartbeats 40000000
open Go.RowKit
variable {K M:List ac} {S:List Int} {q:Int}
def Bs (q:Int) (a0:Option Addr) (n0 c0:Nat) (a1:Option Addr) (n1 c1:Nat) (a2:Option Addr) (n2 c2:Nat) (ak:Option Addr) (nk ck:Nat) (M K:List ac) (w:World) (e:Ending) (w':World):Prop :=
 (bG q M K=true→∃g n,e=.returned (.tuple #[.agg #[iT (q+K.length),sL g n n,.slice a0 n0 c0,.slice a1 n1 c1,.slice a2 n2 c2,.slice ak nk ck],.bool true])∧ar w' w.heap.size g n n (aV (M++dU q K))∧Bl w w')∧(bG q M K=false→A9 w e w')
theorem tO {n:Nat} {w w':World} {e:Ending} (h:j9 q K n w e w') (hl:K.length=n):∃a5 n5 c5 L5 ok,e=.returned (.tuple #[.slice a5 n5 c5,.bool ok])∧dG w' w.heap.size a5 n5 c5 L5∧n5≤n∧eQ L5∧(ok=true→n5=n∧L5=dU q K∧cV q K=true∧0<n)∧(ok=false→cV q K=false∨n=0)∧Bl w w':=by
 obtain ⟨v,ok,he,h1,h2,h3⟩:=h;cases hs:cV q K with
 | true =>
  obtain ⟨⟨a,c,rfl,h4⟩,rfl⟩:=h1 hs;refine ⟨a,n,c,_,_,he,h4,Nat.le_refl _,fun x hx=>?_,fun h=>⟨rfl,rfl,rfl,of_decide_eq_true h⟩,fun h=>.inr ?_,h3⟩
  · obtain ⟨j,hj,rfl⟩:=List.getElem_of_mem hx;exact o9 (pP hs (List.getElem?_eq_getElem hj))
  · have:=of_decide_eq_false h;omega
 | false =>
  obtain ⟨rfl,rfl⟩:=h2 hs;exact ⟨none,0,0,[],false,he,dG.none _ _,Nat.zero_le _,(fun x hx=>by cases hx),(fun h=>by cases h),fun _=>.inl rfl,h3⟩
theorem wL (q:Int) (am:Option Addr) (nm cm:Nat) (a0:Option Addr) (n0 c0:Nat) (a1:Option Addr) (n1 c1:Nat) (a2:Option Addr) (n2 c2:Nat) (ak:Option Addr) (nk ck:Nat) (M:List ac) (A B C:List af) (S:List Int) (ab:Option Addr) (nb cb:Nat) (K:List ac) (w:World) (hSh:pK w am nm cm a0 n0 c0 a1 n1 c1 a2 n2 c2 ak nk ck M A B C S) (hK:ah w ab nb cb K) (hnb:nb≤1048576) (hnm:nm≤1048576) (hM:eQ M) (hq0:0≤q) (hq1:q≤100000) :
 Calls Tryz.prog 97 #[.agg #[iT q,.slice am nm cm,.slice a0 n0 c0,.slice a1 n1 c1,.slice a2 n2 c2,.slice ak nk ck],.slice ab nb cb] w (Bs q a0 n0 c0 a1 n1 c1 a2 n2 c2 ak nk ck M K w):=by
 obtain ⟨X,hX⟩:=aI w.heap.size;obtain ⟨W,hW⟩:=aI ((w.alloc (.cells #[iT q,.slice am nm cm,.slice a0 n0 c0,.slice a1 n1 c1,.slice a2 n2 c2,.slice ak nk ck] 82)).alloc (.cells #[iT 0,nZ,nZ,nZ,nZ,nZ] 82));have kW:Bl w W:=by rw [hW];exact bZ.alloc (by simp) _
 have bx:cf W X (iT q) (.slice am nm cm) (.slice a0 n0 c0) (.slice a1 n1 c1) (.slice a2 n2 c2) (.slice ak nk ck):=by rw [hW,hX];exact (cf.new _ _ _ _ _ _ _ _).alloc _
 have br:cf W (X+1) (iT 0) nZ nZ nZ nZ nZ:=by
  have:=cf.new (w.alloc (.cells #[iT q,.slice am nm cm,.slice a0 n0 c0,.slice a1 n1 c1,.slice a2 n2 c2,.slice ak nk ck] 82)) 82 (iT 0) nZ nZ nZ nZ nZ;rw [World.size_alloc] at this;rw [hW,hX];exact this
 have HX:Hid (X=w.heap.size):=hX;have HSZ:Hid (W.heap.size=X+1+1):=by show _=_;rw [hW,hX];simp
 have K0:Hid (Bl w W):=kW;have HSH:=bK hSh;have HKL:Hid (K.length=nb):=hK.length;have HML:Hid (M.length=nm):=hSh.mem.length;have HSM:=bK hM;have CT:Hid (Calls Tryz.prog 157 #[.slice ab nb cb,iT q] W (j9 q K nb W)):=wM ab nb cb K q W (hK.keep kW) hnb hq0 hq1;have HR:Hid (cf W (X+1) (iT 0) nZ nZ nZ nZ nZ):=br;clear kW hSh hK hM br;have e1:IntKind.i64.wrap ((nm:Int)+(nb:Int))=(nm:Int)+(nb:Int):=by rw [IntWalk.i64_left];unfold wrap64;omega
 go_enter Tryz.func97,Tryz.ntmps97
 go_upto_region 1 with fail
 rw [← hX,← hW];clear hX hW;have x0:=bx.c0;have x1:=bx.c1;have x2:=bx.c2;have x3:=bx.c3;have x4:=bx.c4;have x5:=bx.c5;have xf:=bx.fz;have xz:=bx.lt;have r0:=HR.out.c0;have r1:=HR.out.c1;have r2:=HR.out.c2;have r3:=HR.out.c3;have r4:=HR.out.c4;have r5:=HR.out.c5;have rf:=HR.out.fz;have rz:=HR.out.lt;by_cases h12:12<nb
 · have h12I:(nb:Int) > 12:=by omega
   have h12J:(12:Int)<(nb:Int):=by omega
   have HNO:Hid (bG q M K=false):=by show _=_;have:=HKL.out;unfold bG;rw [this];simp [show ¬nb≤12 by omega]
   go_wp2;refine bodyPost_ret (v:=.tuple #[.agg #[iT q,.slice am nm cm,.slice a0 n0 c0,.slice a1 n1 c1,.slice a2 n2 c2,.slice ak nk ck],.bool false]) ?_ rfl (show Bs q a0 n0 c0 a1 n1 c1 a2 n2 c2 ak nk ck M K w _ _ from ⟨(fun h=>by rw [HNO.out] at h;cases h),fun _=>⟨_,_,_,_,_,_,_,_,_,_,_,_,_,_,_,_,rfl,?_⟩⟩)
   · have e:=((((((HR.out.set0 (iT q)).set1 (.slice am nm cm)).set2 (.slice a0 n0 c0)).set3 (.slice a1 n1 c1)).set4 (.slice a2 n2 c2)).set5 (.slice ak nk ck));simp [results,Tryz.results97,go_sem,e.c0,e.c1,e.c2,e.c3,e.c4,e.c5]
   · have hx:w.heap.size≤X+1:=by have:=HX.out;omega
     exact (((iR K0.out hx _ _ _ _).setCell (p:=⟨X+1,4,none⟩) hx _).setCell (p:=⟨X+1,5,none⟩) hx _)
 have h12I:¬(nb:Int) > 12:=by omega
 have h12J:¬(12:Int)<(nb:Int):=by omega
 by_cases h60:60<nm+nb
 · have h60I:(nm:Int)+(nb:Int) > 60:=by omega
   have h60J:(60:Int)<(nm:Int)+(nb:Int):=by omega
   have HNO:Hid (bG q M K=false):=by show _=_;have:=HKL.out;have:=HML.out;unfold bG;simp [show ¬M.length+K.length≤60 by omega]
   go_wp2;refine bodyPost_ret (v:=.tuple #[.agg #[iT q,.slice am nm cm,.slice a0 n0 c0,.slice a1 n1 c1,.slice a2 n2 c2,.slice ak nk ck],.bool false]) ?_ rfl (show Bs q a0 n0 c0 a1 n1 c1 a2 n2 c2 ak nk ck M K w _ _ from ⟨(fun h=>by rw [HNO.out] at h;cases h),fun _=>⟨_,_,_,_,_,_,_,_,_,_,_,_,_,_,_,_,rfl,?_⟩⟩)
   · have e:=((((((HR.out.set0 (iT q)).set1 (.slice am nm cm)).set2 (.slice a0 n0 c0)).set3 (.slice a1 n1 c1)).set4 (.slice a2 n2 c2)).set5 (.slice ak nk ck));simp [results,Tryz.results97,go_sem,e.c0,e.c1,e.c2,e.c3,e.c4,e.c5]
   · have hx:w.heap.size≤X+1:=by have:=HX.out;omega
     exact (((iR K0.out hx _ _ _ _).setCell (p:=⟨X+1,4,none⟩) hx _).setCell (p:=⟨X+1,5,none⟩) hx _)
 have h60I:¬(nm:Int)+(nb:Int) > 60:=by omega
 have h60J:¬(60:Int)<(nm:Int)+(nb:Int):=by omega
 clear r0 r1 r2 r3 r4 r5 rf rz;go_wp2_with fail
 clear x0 x1 x2 x3 x4 x5 xf xz;refine CT.out.mono ?_;rintro e w1 hst;obtain ⟨a5,n5,c5,L5,ok,rfl,hO1,hn5,hs5,hy5,hno5,hb1⟩:=tO hst HKL.out;have K1:Hid (Bl W w1):=hb1;have HO1:Hid (dG w1 W.heap.size a5 n5 c5 L5):=hO1;have HS5:Hid (eQ L5):=hs5;have HY5:Hid (ok=true→n5=nb∧L5=dU q K∧cV q K=true∧0<nb):=hy5;have HN5:Hid (ok=false→cV q K=false∨nb=0):=hno5;have bx1:=bx.keep hb1;have BR1:Hid (cf w1 (X+1) (iT 0) nZ nZ nZ nZ nZ):=HR.out.keep hb1;clear hst hO1 hs5 hy5 hno5 hb1 bx HR CT;have e2:IntKind.i64.wrap (q+(n5:Int))=q+(n5:Int):=by rw [IntWalk.i64_left];unfold wrap64;omega
 have x0:=bx1.c0;have x1:=bx1.c1;have x2:=bx1.c2;have x3:=bx1.c3;have x4:=bx1.c4;have x5:=bx1.c5;have xf:=bx1.fz;have xz:=bx1.lt;obtain ⟨w2,hw2⟩:=aI (w1.setCell ⟨X,0,none⟩ (iT (q+(n5:Int))));go_upto_region 5 with fail
 rw [← hw2];have hx:=HX.out;have hs:=HSZ.out;have bx2:cf w2 X (iT (q+(n5:Int))) (.slice am nm cm) (.slice a0 n0 c0) (.slice a1 n1 c1) (.slice a2 n2 c2) (.slice ak nk ck):=by rw [hw2];exact bx1.set0 _
 have BR2:Hid (cf w2 (X+1) (iT 0) nZ nZ nZ nZ nZ):=by rw [hw2];exact BR1.out.other (by omega) _
 have kk2:cP w.heap.size W.heap.size w1 w2:=by rw [hw2];exact (tY _ X 0 _).mono (by omega) (by omega)
 have K2:Hid (Bl w w2):=by rw [hw2];exact (K0.out.trans (K1.out.mono K0.out.size)).setCell (p:=⟨X,0,none⟩) (by show _≤X;omega) _
 have HO2:Hid (dG w2 W.heap.size a5 n5 c5 L5):=⟨HO1.out.nil,fun x e=>by
  obtain ⟨g,rfl,h2⟩:=HO1.out.own x e;exact ⟨g,rfl,kk2.own h2 (.inr h2.lt.1)⟩⟩
 have HW2:Hid (W.heap.size≤w2.heap.size):=Nat.le_trans K1.out.size kk2.size;clear hw2 x0 x1 x2 x3 x4 x5 xf xz bx1 BR1 kk2 HO1 K1 hx hs;obtain ⟨W3,hW3⟩:=aI (w2.alloc (.cells #[.slice am nm cm,.slice a5 n5 c5] 28));have k3:Bl w2 W3:=by rw [hW3];exact bZ
 have hP:cT W3 (some ⟨w2.heap.size,0,none⟩) 2 2 [M,L5]:=by
  have hc:∀j u,[Value.slice am nm cm,Value.slice a5 n5 c5][j]?=some u→W3.cell? ⟨w2.heap.size,j,none⟩=some u:=by
   intro j u hj;rw [hW3];match j,hj with
   | 0,hj=>simp at hj;subst hj;simp
   | 1,hj=>simp at hj;subst hj;simp
  refine ⟨rfl,Nat.le_refl _,by unfold maxLen;omega,(fun e=>by cases e),(fun x e _=>by cases e;exact ⟨World.block_lt_of_cell? _ _ (hc 0 _ rfl),rfl⟩),?_⟩;rintro x e i hi;cases e;match i,hi with
  | 0,_=>exact ⟨am,nm,cm,by simpa using hc 0 _ rfl,((HSH.out.keep K2.out).keep k3).mem⟩
  | 1,_=>exact ⟨a5,n5,c5,by simpa using hc 1 _ rfl,(HO2.out.below k3).entsAt⟩
 have hfl:[M,L5].flatten=M++L5:=by simp
 have hln:(M++L5).length=nm+n5:=by rw [List.length_append,HML.out,HO2.out.len]
 have CM:Hid (Calls Tryz.prog 93 #[sL (w2.heap.size) 2 2] W3 fun e w'=>∃g,e=.returned (sL g (nm+n5) (nm+n5))∧ar w' W3.heap.size g (nm+n5) (nm+n5) (aV (M++L5))∧Bl W3 w'):=by
  have h:=callsIn_wide.1 (wR _ _ _ [M,L5] W3 hP (by omega) (by rw [hfl,hln];omega) (by
   intro e he;rw [hfl] at he;rcases List.mem_append.1 he with h | h
   · exact HSM.out e h
   · exact HS5.out e h))
  refine h.mono ?_;rintro e w' ⟨⟨g,h1,h2⟩,h3⟩;rw [hfl,hln] at h1 h2;exact ⟨g,h1,h2,h3⟩
 have K3:Hid (Bl w2 W3):=k3;clear k3 hP hfl hln;have x0:=bx2.c0;have x1:=bx2.c1;have x2:=bx2.c2;have x3:=bx2.c3;have x4:=bx2.c4;have x5:=bx2.c5;have xf:=bx2.fz;have xz:=bx2.lt;go_wp2_with fail
 rw [← hW3];clear hW3 x0 x1 x2 x3 x4 x5 xf xz;refine CM.out.mono ?_;rintro e w4 ⟨g,rfl,hO4,hb4⟩;have hk4:Bl w2 w4:=K3.out.trans (hb4.mono K3.out.size);have K4:Hid (Bl w w4):=K2.out.trans (hk4.mono K2.out.size);have HO4:Hid (ar w4 W.heap.size g (nm+n5) (nm+n5) (aV (M++L5))):=hO4.mono (Nat.le_trans HW2.out K3.out.size);have bx4:=bx2.keep hk4;have BR4:Hid (cf w4 (X+1) (iT 0) nZ nZ nZ nZ nZ):=BR2.out.keep hk4;clear hO4 hb4 hk4 bx2 BR2 CM HO2 K3;obtain ⟨w5,hw5⟩:=aI (w4.setCell ⟨X,1,none⟩ (sL g (nm+n5) (nm+n5)));have hx:=HX.out;have hs:=HSZ.out;have bx5:cf w5 X (iT (q+(n5:Int))) (sL g (nm+n5) (nm+n5)) (.slice a0 n0 c0) (.slice a1 n1 c1) (.slice a2 n2 c2) (.slice ak nk ck):=by rw [hw5];exact bx4.set1 _
 have BR5:Hid (cf w5 (X+1) (iT 0) nZ nZ nZ nZ nZ):=by rw [hw5];exact BR4.out.other (by omega) _
 have K5:Hid (Bl w w5):=by rw [hw5];exact K4.out.setCell (p:=⟨X,1,none⟩) (by show _≤X;omega) _
 have HO5:Hid (ar w5 W.heap.size g (nm+n5) (nm+n5) (aV (M++L5))):=by
  have k:cP w.heap.size W.heap.size w4 w5:=by rw [hw5];exact (tY _ X 1 _).mono (by omega) (by omega)
  exact k.own HO4.out (.inr HO4.out.lt.1)
 clear hx hs;have x0:=bx4.c0;have x1:=bx4.c1;have x2:=bx4.c2;have x3:=bx4.c3;have x4:=bx4.c4;have x5:=bx4.c5;have xf:=bx4.fz;have xz:=bx4.lt;go_upto_region 6 with fail
 rw [← hw5];clear hw5 x0 x1 x2 x3 x4 x5 xf xz bx4 HO4 K4 BR4;have x0:=bx5.c0;have x1:=bx5.c1;have x2:=bx5.c2;have x3:=bx5.c3;have x4:=bx5.c4;have x5:=bx5.c5;have xf:=bx5.fz;have xz:=bx5.lt;have r0:=BR5.out.c0;have r1:=BR5.out.c1;have r2:=BR5.out.c2;have r3:=BR5.out.c3;have r4:=BR5.out.c4;have r5:=BR5.out.c5;have rf:=BR5.out.fz;have rz:=BR5.out.lt;go_wp2;have hx:w.heap.size≤X+1:=by have:=HX.out;omega
 have hs:=HSZ.out;have hx0:=HX.out;refine bodyPost_ret (v:=.tuple #[.agg #[iT (q+(n5:Int)),sL g (nm+n5) (nm+n5),.slice a0 n0 c0,.slice a1 n1 c1,.slice a2 n2 c2,.slice ak nk ck],.bool ok]) ?_ rfl (show Bs q a0 n0 c0 a1 n1 c1 a2 n2 c2 ak nk ck M K w _ _ from ?_)
 · have e:=((((((BR5.out.set0 (iT (q+(n5:Int)))).set1 (sL g (nm+n5) (nm+n5))).set2 (.slice a0 n0 c0)).set3 (.slice a1 n1 c1)).set4 (.slice a2 n2 c2)).set5 (.slice ak nk ck));simp [results,Tryz.results97,go_sem,e.c0,e.c1,e.c2,e.c3,e.c4,e.c5]
 · cases ok with
   | true =>
    obtain ⟨rfl,rfl,hsB,hpos⟩:=HY5.out rfl;have hkl:=HKL.out;have hml:=HML.out;refine ⟨fun _=>?_,fun h=>absurd h ?_⟩
    · rw [hkl];refine ⟨_,_,rfl,?_,(((iR K5.out hx _ _ _ _).setCell (p:=⟨X+1,4,none⟩) hx _).setCell (p:=⟨X+1,5,none⟩) hx _)⟩;have k6:∀(w':World) (o:Nat) (u:Value),ar w' W.heap.size g (nm+n5) (nm+n5) (aV (M++dU q K))→ar (w'.setCell ⟨X+1,o,none⟩ u) W.heap.size g (nm+n5) (nm+n5) (aV (M++dU q K)):=fun w' o u h=>((tY w' (X+1) o u).mono (lo':=w.heap.size) (hi':=W.heap.size) (by omega) (by omega)).own h (.inr h.lt.1)
      exact (k6 _ _ _ (k6 _ _ _ (k6 _ _ _ (k6 _ _ _ (k6 _ _ _ (k6 _ _ _ HO5.out)))))).mono (by omega)
    · unfold bG;rw [hkl,hml,hsB];simp;omega
   | false =>
    have hno:=HN5.out rfl;have hkl:=HKL.out;refine ⟨fun h=>absurd h ?_,fun _=>⟨_,_,_,_,_,_,_,_,_,_,_,_,_,_,_,_,rfl,(((iR K5.out hx _ _ _ _).setCell (p:=⟨X+1,4,none⟩) hx _).setCell (p:=⟨X+1,5,none⟩) hx _)⟩⟩;unfold bG;rw [hkl];rcases hno with h | h
    · rw [h];simp
    · simp [h]
theorem nR (lo:Nat) (q:Int) (am:Option Addr) (nm cm:Nat) (av:Option Addr) (cv:Nat) (ak:Option Addr) (ns cs:Nat) (M:List ac) (V:List (List af)) (S:List Int) (ab:Option Addr) (nb cb:Nat) (q2:Int) (M2:List ac) (V2:List (List af)) (S2:List Int) (ok:Bool) (w:World) (hT:bD lo w am nm cm av 3 cv ak ns cs M V S) (htb:aZ q M V S=true)
 (hC:∀(base g1 c1 G c g3 c3:Nat) (w':World),cj base w' g1 nm c1 G 3 c g3 ns c3 M V S→base≤w'.heap.size→Bl w w'→Calls Tryz.prog 98 #[.agg #[iT q,sL g1 nm c1,sL G 3 c,sL g3 ns c3],.slice ab nb cb] w' (zY base q2 M2 V2 S2 ok w')) :
 Calls Tryz.prog 32 #[.agg #[iT q,.slice am nm cm,.slice av 3 cv,.slice ak ns cs],.slice ab nb cb] w (zZ q2 M2 V2 S2 ok w):=by
 have hsl:=hT.snaps.length;have hns:ns≤4:=by
  have h1:=(aY htb).2.2.2.2.2.2.1;unfold b7 at h1;rw [Bool.and_eq_true] at h1;have h2:=of_decide_eq_true h1.1;omega
 have hnm:nm≤60:=by have h1:=(aY htb).2.2.1;have h2:=hT.mem.1.length;omega
 obtain ⟨A,B,C,hV3⟩:=fY htb;have hnv:3≤100:=by have h1:=hT.levels.length;rw [hV3] at h1;have h2:([A,B,C]:List (List af)).length=3:=rfl;omega
 have hlv:∀B ∈ V,B.length≤100∧∀r ∈ B,1≤r.1.length∧r.1.length≤10000:=by
  have h8:eC V q=true:=(aY htb).2.2.2.2.2.2.2.1;rw [hV3] at h8 ⊢;unfold eC at h8;simp only [Bool.and_eq_true] at h8;intro Z hZm;simp only [List.mem_cons,List.not_mem_nil,or_false] at hZm;rcases hZm with rfl | rfl | rfl
  · exact cq h8.1 (by omega)
  · exact cq h8.2.1 (by omega)
  · exact cq h8.2.2 (by omega)
 have CO:Hid (∀w',Bl w w'→Calls Tryz.prog 27 #[.agg #[iT q,.slice am nm cm,.slice av 3 cv,.slice ak ns cs]] w' fun e w''=>e=.returned (.bool true)∧Bl w' w''):=fun w' k=>by
  have:=f5 lo q _ _ _ _ _ _ _ _ _ M V S w' (hT.keep k);rw [htb] at this;exact this
 have CC:Hid (∀w',Bl w w'→Calls Tryz.prog 57 #[.agg #[iT q,.slice am nm cm,.slice av 3 cv,.slice ak ns cs]] w' fun e w''=>∃g1 c1 G c g3 c3,e=.returned (.agg #[iT q,sL g1 nm c1,sL G 3 c,sL g3 ns c3])∧cj w'.heap.size w'' g1 nm c1 G 3 c g3 ns c3 M V S∧Bl w' w''):=fun w' k=>fV lo q am av ak nm cm 3 cv ns cs M V S w' (hT.keep k) (by omega) (by omega) (by omega) hlv
 obtain ⟨X,hX⟩:=aI w.heap.size;obtain ⟨W,hW⟩:=aI ((w.alloc (.cells #[iT q,.slice am nm cm,.slice av 3 cv,.slice ak ns cs] 31)).alloc (.cells #[iT 0,nZ,nZ,nZ] 31));have kW:Bl w W:=by rw [hW];exact bZ.alloc (by simp) _
 have bx:aw W X (iT q) (.slice am nm cm) (.slice av 3 cv) (.slice ak ns cs):=by rw [hW,hX];exact (aw.new _ _ _ _ _ _).alloc _
 have br:aw W (X+1) (iT 0) nZ nZ nZ:=by
  have:=aw.new (w.alloc (.cells #[iT q,.slice am nm cm,.slice av 3 cv,.slice ak ns cs] 31)) 31 (iT 0) nZ nZ nZ;rw [World.size_alloc] at this;rw [hW,hX];exact this
 have HX:Hid (X=w.heap.size):=hX;have K0:Hid (Bl w W):=kW;have HIN:Hid (bH lo w ak ns cs S):=hT.snaps;have HSL:Hid (S.length=ns):=hsl;have HSW:Hid (∀z ∈ S,(Lit.int .i64 z).wf=true):=hT.snaps.wfs;clear kW hlv htb hV3;go_enter Tryz.func32,Tryz.ntmps32
 go_wp2_with fail
 rw [← hX,← hW];clear hX hW;refine (CO.out _ K0.out).mono ?_;rintro e w1 ⟨rfl,hb1⟩;have K1:Hid (Bl w w1):=K0.out.trans (hb1.mono K0.out.size);have bx1:=bx.keep hb1;have br1:=br.keep hb1;have x0:=bx1.c0;have x1:=bx1.c1;have x2:=bx1.c2;have x3:=bx1.c3;have xf:=bx1.fz;have xz:=bx1.lt;clear hb1 bx br;go_wp2_with fail
 clear x0 x1 x2 x3 xf xz;refine (CC.out _ K1.out).mono ?_;rintro e w2 ⟨g1,c1,G,c,g3,c3,rfl,hC2,hb2⟩;have HXB:Hid (X+1<w1.heap.size):=br1.lt;have K2:Hid (Bl w w2):=K1.out.trans (hb2.mono K1.out.size);have CT:=hC w1.heap.size g1 c1 G c g3 c3 w2 hC2 hb2.size K2.out;have br2:=br1.keep hb2;clear hb2 hC2 bx1 br1 hC CC CO;go_wp2_with fail
 refine CT.mono ?_;rintro e w3 ⟨dm,dn,dcm,dv,dnv,dcv,dk,dns,dcs,rfl,hD3,hb3⟩;have K3:Hid (Bl w w3):=K2.out.trans (hb3.mono K2.out.size);have HD3:Hid (bD w1.heap.size w3 dm dn dcm dv dnv dcv dk dns dcs M2 V2 S2):=hD3;have br3:=br2.keep hb3;have HR3:Hid (aw w3 (X+1) (iT 0) nZ nZ nZ):=br3;have r0:=br3.c0;have r1:=br3.c1;have r2:=br3.c2;have r3:=br3.c3;have rf:=br3.fz;have rz:=br3.lt;clear hb3 hD3 br2 br3 CT;go_wp2;refine bodyPost_ret (v:=.tuple #[.agg #[iT q2,.slice dm dn dcm,.slice dv dnv dcv,.slice dk dns dcs],.bool ok]) ?_ rfl ⟨_,_,_,_,_,_,_,_,_,rfl,?_,?_⟩
 · have e:=(((HR3.out.set0 (iT q2)).set1 (.slice dm dn dcm)).set2 (.slice dv dnv dcv)).set3 (.slice dk dns dcs);simp [results,Tryz.results32,go_sem,e.c0,e.c1,e.c2,e.c3]
 · have hxl:=HXB.out;exact ((HD3.out.same ((((d9.of_set _ _ hxl).trans (d9.of_set _ _ hxl)).trans (d9.of_set _ _ hxl)).trans (d9.of_set _ _ hxl)))).lowR (Nat.zero_le _)
 · have hx:w.heap.size≤X+1:=by have:=HX.out;omega
   exact iR K3.out hx _ _ _ _
theorem rW (lo:Nat) (q:Int) (am av ak:Option Addr) (nm cm nv cv ns cs:Nat) (M:List ac) (V:List (List af)) (S:List Int) (ab:Option Addr) (nb cb:Nat) (w:World) (hT:bD lo w am nm cm av nv cv ak ns cs M V S) (htb:aZ q M V S=false) :
 Calls Tryz.prog 32 #[.agg #[iT q,.slice am nm cm,.slice av nv cv,.slice ak ns cs],.slice ab nb cb] w (vz w):=by
 obtain ⟨X,hX⟩:=aI w.heap.size;obtain ⟨W,hW⟩:=aI ((w.alloc (.cells #[iT q,.slice am nm cm,.slice av nv cv,.slice ak ns cs] 31)).alloc (.cells #[iT 0,nZ,nZ,nZ] 31));have kW:Bl w W:=by rw [hW];exact bZ.alloc (by simp) _
 have br:aw W (X+1) (iT 0) nZ nZ nZ:=by
  have:=aw.new (w.alloc (.cells #[iT q,.slice am nm cm,.slice av nv cv,.slice ak ns cs] 31)) 31 (iT 0) nZ nZ nZ;rw [World.size_alloc] at this;rw [hW,hX];exact this
 have HX:Hid (X=w.heap.size):=hX;have K0:Hid (Bl w W):=kW;have CO:Hid (∀w',Bl w w'→Calls Tryz.prog 27 #[.agg #[iT q,.slice am nm cm,.slice av nv cv,.slice ak ns cs]] w' fun e w''=>e=.returned (.bool false)∧Bl w' w''):=fun w' k=>by
  have:=f5 lo q _ _ _ _ _ _ _ _ _ M V S w' (hT.keep k);rw [htb] at this;exact this
 clear hT kW htb;go_enter Tryz.func32,Tryz.ntmps32
 go_wp2_with fail
 rw [← hX,← hW];clear hX hW;refine (CO.out _ K0.out).mono ?_;rintro e w1 ⟨rfl,hb1⟩;have K1:Hid (Bl w w1):=K0.out.trans (hb1.mono K0.out.size);have br1:=br.keep hb1;have r0:=br1.c0;have r1:=br1.c1;have r2:=br1.c2;have r3:=br1.c3;have rf:=br1.fz;have rz:=br1.lt;clear hb1 br;go_wp2;refine bodyPost_ret (v:=.tuple #[.agg #[iT 0,nZ,nZ,nZ],.bool false]) ?_ rfl ⟨rfl,?_⟩
 · have e:=(((br1.set0 (iT 0)).set1 nZ).set2 nZ).set3 nZ;simp [results,Tryz.results32,go_sem,e.c0,e.c1,e.c2,e.c3]
 · have hx:w.heap.size≤X+1:=by have:=HX.out;omega
   exact iR K1.out hx _ _ _ _
theorem se (h:aJ M=true):aV M=M :=
 (gE (fe h) (bu M).1 (bu M).2.symm).symm
theorem xj (h:aJ M=true) (D:List ac):D.foldl d4 M=aV (M++D):=by
 have e:=se h;unfold aV at e ⊢;rw [List.foldl_append,e]
theorem tT (h:eQ M):eQ (aV M):=fun e he=>h e ((bu M).2.mem_iff.1 he)
theorem vJ (h:eQ K):eQ (dU q K):=fun e he=>by
 unfold dU at he
 obtain ⟨i,hi,rfl⟩:=List.mem_mapIdx.1 he
 have h2:=h _ (List.getElem_mem hi)
 exact ⟨h2.1,h2.2⟩
def BI (q:Int) (M K:List ac) (A B C:List af) (S:List Int) (w:World) (e:Ending) (w':World):Prop :=
 (bG q M K=true→BA (q+K.length) (aV (M++dU q K)) A B C S w e w')∧(bG q M K=false→A9 w e w')
theorem xV (cb1:Nat) (q:Int) (am:Option Addr) (nm cm:Nat) (a0:Option Addr) (n0 c0:Nat) (a1:Option Addr) (n1 c1:Nat) (a2:Option Addr) (n2 c2:Nat) (ak:Option Addr) (nk ck:Nat) (M:List ac) (A B C:List af) (S:List Int) (ab:Option Addr) (nb cb:Nat) (K:List ac) (w:World) (hSh:pK w am nm cm a0 n0 c0 a1 n1 c1 a2 n2 c2 ak nk ck M A B C S) (hcb:w.cell? ⟨cb1,0,none⟩=some (.slice ab nb cb)) (hK:ah w ab nb cb K) (hnb:nb≤1048576) (hnm:nm≤1048576) (hM:eQ M) (hq0:0≤q) (hq1:q≤100000) :
 Calls Tryz.prog 96 #[.agg #[iT q,.slice am nm cm,.slice a0 n0 c0,.slice a1 n1 c1,.slice a2 n2 c2,.slice ak nk ck],.pointer (pT cb1)] w (BI q M K A B C S w):=by
 obtain ⟨X,hX⟩:=aI w.heap.size;obtain ⟨W,hW⟩:=aI ((w.alloc (.cells #[iT q,.slice am nm cm,.slice a0 n0 c0,.slice a1 n1 c1,.slice a2 n2 c2,.slice ak nk ck] 82)).alloc (.cells #[iT 0,nZ,nZ,nZ,nZ,nZ] 82));have kW:Bl w W:=by rw [hW];exact bZ.alloc (by simp) _
 have br:cf W (X+1) (iT 0) nZ nZ nZ nZ nZ:=by
  have:=cf.new (w.alloc (.cells #[iT q,.slice am nm cm,.slice a0 n0 c0,.slice a1 n1 c1,.slice a2 n2 c2,.slice ak nk ck] 82)) 82 (iT 0) nZ nZ nZ nZ nZ;rw [World.size_alloc] at this;rw [hW,hX];exact this
 have HX:Hid (X=w.heap.size):=hX;have K0:Hid (Bl w W):=kW;have HSH:=bK hSh;have HXL:Hid (X+1<W.heap.size):=br.lt;have CD:Hid (Calls Tryz.prog 97 #[.agg #[iT q,.slice am nm cm,.slice a0 n0 c0,.slice a1 n1 c1,.slice a2 n2 c2,.slice ak nk ck],.slice ab nb cb] W (Bs q a0 n0 c0 a1 n1 c1 a2 n2 c2 ak nk ck M K W)):=wL q am nm cm a0 n0 c0 a1 n1 c1 a2 n2 c2 ak nk ck M A B C S ab nb cb K W (hSh.keep kW) (hK.keep kW) hnb hnm hM hq0 hq1;have hcl:=World.block_lt_of_cell? _ _ hcb;simp only at hcl;clear kW hSh hK hM;go_enter Tryz.func96,Tryz.ntmps96
 go_wp2_with fail
 rw [← hX,← hW];clear hX hW hcb hcl;refine CD.out.mono ?_;rintro e w1 hWR;cases hwo:bG q M K with
 | true =>
  obtain ⟨g,n,rfl,hO1,hb1⟩:=hWR.1 hwo;have HWO:Hid (bG q M K=true):=hwo;have HO1:Hid (ar w1 W.heap.size g n n (aV (M++dU q K))):=hO1;have K1:Hid (Bl w w1):=K0.out.trans (hb1.mono K0.out.size);have br1:=br.keep hb1;have HR1:Hid (cf w1 (X+1) (iT 0) nZ nZ nZ nZ nZ):=br1;clear hb1 br hO1 hwo hWR CD;have y0:=br1.c0;have y1:=br1.c1;have y2:=br1.c2;have y3:=br1.c3;have y4:=br1.c4;have y5:=br1.c5;have yf:=br1.fz;have yz:=br1.lt;clear br1;go_wp2;have hx:w.heap.size≤X+1:=by have:=HX.out;omega
  refine bodyPost_ret (v:=.tuple #[.agg #[iT (q+K.length),sL g n n,.slice a0 n0 c0,.slice a1 n1 c1,.slice a2 n2 c2,.slice ak nk ck],.bool true]) ?_ rfl (show BI q M K A B C S w _ _ from ⟨fun _=>⟨_,_,_,_,_,_,_,_,_,_,_,_,_,_,_,rfl,⟨?_,(HSH.out.keep (((iR K1.out hx _ _ _ _).setCell (p:=⟨X+1,4,none⟩) hx _).setCell (p:=⟨X+1,5,none⟩) hx _)).r0,(HSH.out.keep (((iR K1.out hx _ _ _ _).setCell (p:=⟨X+1,4,none⟩) hx _).setCell (p:=⟨X+1,5,none⟩) hx _)).r1,(HSH.out.keep (((iR K1.out hx _ _ _ _).setCell (p:=⟨X+1,4,none⟩) hx _).setCell (p:=⟨X+1,5,none⟩) hx _)).r2,(HSH.out.keep (((iR K1.out hx _ _ _ _).setCell (p:=⟨X+1,4,none⟩) hx _).setCell (p:=⟨X+1,5,none⟩) hx _)).sn⟩,(((iR K1.out hx _ _ _ _).setCell (p:=⟨X+1,4,none⟩) hx _).setCell (p:=⟨X+1,5,none⟩) hx _)⟩,fun h=>by rw [HWO.out] at h;cases h⟩)
  · have e:=((((((HR1.out.set0 (iT (q+K.length))).set1 (sL g n n)).set2 (.slice a0 n0 c0)).set3 (.slice a1 n1 c1)).set4 (.slice a2 n2 c2)).set5 (.slice ak nk ck));simp [results,Tryz.results96,go_sem,e.c0,e.c1,e.c2,e.c3,e.c4,e.c5]
  · have hxl:=HXL.out;have k6:∀(w':World) (o:Nat) (u:Value),ar w' W.heap.size g n n (aV (M++dU q K))→ar (w'.setCell ⟨X+1,o,none⟩ u) W.heap.size g n n (aV (M++dU q K)):=fun w' o u h=>h.setCell (p:=⟨X+1,o,none⟩) (by have:=h.lt.1;show X+1≠g;omega) u
    exact (k6 _ _ _ (k6 _ _ _ (k6 _ _ _ (k6 _ _ _ (k6 _ _ _ (k6 _ _ _ HO1.out)))))).entsAt
 | false =>
  obtain ⟨q2,am2,nm2,cm2,a02,n02,c02,a12,n12,c12,a22,n22,c22,ak2,nk2,ck2,rfl,hb1⟩:=hWR.2 hwo;have HWO:Hid (bG q M K=false):=hwo;have K1:Hid (Bl w w1):=K0.out.trans (hb1.mono K0.out.size);have br1:=br.keep hb1;have HR1:Hid (cf w1 (X+1) (iT 0) nZ nZ nZ nZ nZ):=br1;clear hb1 br hwo hWR CD;have y0:=br1.c0;have y1:=br1.c1;have y2:=br1.c2;have y3:=br1.c3;have y4:=br1.c4;have y5:=br1.c5;have yf:=br1.fz;have yz:=br1.lt;clear br1;go_wp2;have hx:w.heap.size≤X+1:=by have:=HX.out;omega
  refine bodyPost_ret (v:=.tuple #[.agg #[iT q2,.slice am2 nm2 cm2,.slice a02 n02 c02,.slice a12 n12 c12,.slice a22 n22 c22,.slice ak2 nk2 ck2],.bool false]) ?_ rfl (show BI q M K A B C S w _ _ from ⟨(fun h=>by rw [HWO.out] at h;cases h),fun _=>⟨_,_,_,_,_,_,_,_,_,_,_,_,_,_,_,_,rfl,(((iR K1.out hx _ _ _ _).setCell (p:=⟨X+1,4,none⟩) hx _).setCell (p:=⟨X+1,5,none⟩) hx _)⟩⟩);have e:=((((((HR1.out.set0 (iT q2)).set1 (.slice am2 nm2 cm2)).set2 (.slice a02 n02 c02)).set3 (.slice a12 n12 c12)).set4 (.slice a22 n22 c22)).set5 (.slice ak2 nk2 ck2));simp [results,Tryz.results96,go_sem,e.c0,e.c1,e.c2,e.c3,e.c4,e.c5]
theorem jF (q:Int) (am:Option Addr) (nm cm:Nat) (av:Option Addr) (nv cv:Nat) (ak:Option Addr) (nk ck:Nat) (ab:Option Addr) (nb cb:Nat) (q2:Int) (M2:List ac) (V2:List (List af)) (S2:List Int) (ok:Bool) (w:World)
 (hC:∀w',Bl w w'→w'.cell? ⟨w.heap.size+1,0,none⟩=some (.slice ab nb cb)→Calls Tryz.prog 61 #[.agg #[iT q,.slice am nm cm,.slice av nv cv,.slice ak nk ck],.func (.func 96) #[] #[.pointer (some ⟨w.heap.size+1,0,none⟩)]] w' (pL q2 M2 V2 S2 ok w')) :
 Calls Tryz.prog 31 #[.agg #[iT q,.slice am nm cm,.slice av nv cv,.slice ak nk ck],.slice ab nb cb] w (pL q2 M2 V2 S2 ok w):=by
 obtain ⟨X,hX⟩:=aI w.heap.size;obtain ⟨W,hW⟩:=aI (((w.alloc (.cells #[iT q,.slice am nm cm,.slice av nv cv,.slice ak nk ck] 31)).alloc (.cells #[.slice ab nb cb] 28)).alloc (.cells #[iT 0,nZ,nZ,nZ] 31));have kW:Bl w W:=by rw [hW];exact ((bZ.alloc (by simp;try omega) _).alloc (by simp;try omega) _)
 have br:aw W (X+1+1) (iT 0) nZ nZ nZ:=by
  have:=aw.new ((w.alloc (.cells #[iT q,.slice am nm cm,.slice av nv cv,.slice ak nk ck] 31)).alloc (.cells #[.slice ab nb cb] 28)) 31 (iT 0) nZ nZ nZ;simp only [World.size_alloc] at this;rw [hW,hX];exact this
 have HX:Hid (X=w.heap.size):=hX;have K0:Hid (Bl w W):=kW;have CT:Hid (Calls Tryz.prog 61 #[.agg #[iT q,.slice am nm cm,.slice av nv cv,.slice ak nk ck],.func (.func 96) #[] #[.pointer (some ⟨X+1,0,none⟩)]] W (pL q2 M2 V2 S2 ok W)):=by
  try rw [hX]
  exact hC W kW (by rw [hW];have h1:=d5 (w.alloc (.cells #[iT q,.slice am nm cm,.slice av nv cv,.slice ak nk ck] 31)) (.slice ab nb cb) 28 0 _ rfl;rw [Go.WideShapes.add_plain,World.size_alloc] at h1;exact cell_later bZ h1)
 have HXL:Hid (X+1+1<W.heap.size):=br.lt;clear kW hC;go_enter Tryz.func31,Tryz.ntmps31
 go_wp2_with fail
 rw [← hX,← hW];clear hX hW;refine CT.out.mono ?_;rintro e w1 ⟨a1,n1,a2,n2,a3,n3,gs,bs,es,rfl,hR1,hb1⟩;have K1:Hid (Bl w w1):=K0.out.trans (hb1.mono K0.out.size);have HR1:Hid (my W.heap.size w1.heap.size w1 a1 n1 a2 n2 a3 n3 M2 V2 S2 gs bs es):=hR1;have br1:=br.keep hb1;have HB1:Hid (aw w1 (X+1+1) (iT 0) nZ nZ nZ):=br1;have r0:=br1.c0;have r1:=br1.c1;have r2:=br1.c2;have r3:=br1.c3;have rf:=br1.fz;have rz:=br1.lt;clear hb1 br hR1 CT br1;go_wp2;refine bodyPost_ret (v:=.tuple #[.agg #[iT q2,.slice a1 n1 n1,.slice a2 n2 n2,.slice a3 n3 n3],.bool ok]) ?_ rfl ⟨a1,n1,a2,n2,a3,n3,gs,bs,es,rfl,?_,?_⟩
 · have e:=(((HB1.out.set0 (iT q2)).set1 (.slice a1 n1 n1)).set2 (.slice a2 n2 n2)).set3 (.slice a3 n3 n3);simp [results,Tryz.results31,go_sem,e.c0,e.c1,e.c2,e.c3]
 · exact vW HR1.out HXL.out K0.out.size (by simp [World.setCell]) _ _ _ _
 · have hx:w.heap.size≤X+1+1:=by have:=HX.out;omega
   exact iR K1.out hx _ _ _ _
theorem qd {L:List ac} (h:aJ L=true):eQ L:=fun e he=>by
 obtain ⟨j,hj,rfl⟩:=List.getElem_of_mem he
 exact o9 (fq h (List.getElem?_eq_getElem hj))
theorem tm {Z:List af} (h:eG Z=false):∀r ∈ Z,dr r.1 r.2=true:=fun r hr=>by simpa using cZ h r hr
theorem ul {A B C:List af} (h:aZ q M [A,B,C] S=true):tC M A B C S:=by
 obtain ⟨_,_,h3,h4,_,h6,⟨ha,hb,hc⟩,_⟩:=dH.1 h;rw [cY] at ha hb hc;have hS:=(fW.1 h6).1;have hr:∀{Z:List af} {n:Int},(Z.length:Int)≤n→n≤8→eG Z=false→jf Z∧gN Z:=fun {Z n} hl hn hz =>
  ⟨⟨by omega,fun p hp=>by have:=(bC (tm hz p hp)).2.1;omega⟩,fun p hp=>qd (bC (tm hz p hp)).2.2.1⟩
 have rA:=hr ha.1 (by omega) ha.2.1;have rB:=hr hb.1 (by omega) hb.2.1;have rC:=hr hc.1 (by omega) hc.2.1;exact ⟨by omega,by omega,qd h4,rA.1,rB.1,rC.1,rA.2,rB.2,rC.2⟩
theorem nH {V:List (List af)} (h:aZ q M V S=true):0≤q∧q≤100000∧M.length≤60∧aJ M=true∧S.length≤4∧V.length=3:=by
 obtain ⟨A,B,C,rfl⟩:=fY h;obtain ⟨h1,h2,h3,h4,_,h6,_⟩:=dH.1 h;exact ⟨h1,h2,h3,h4,(fW.1 h6).1,rfl⟩
end Go.Proofs.YtpobkmjicbobdaaGreat
