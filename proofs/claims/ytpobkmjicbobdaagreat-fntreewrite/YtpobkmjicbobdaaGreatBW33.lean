/- Walks. -/
import Derived.Test.YtpobkmjicbobdaaGreatBW32
namespace Go.Proofs.YtpobkmjicbobdaaGreat
set_option maxRecDepth 100000
set_option maxHeartbeats 40000000
open Go.RowKit
variable {BH base f g n t:Nat} {L:List ac} {a b w w':World} {row:Option Nat} {v:Value}
structure lh (w:World) (base BH:Nat) (v:Value) (X:List df) (H:List (List ac × Nat)):Prop where
 box:Boxed w BH 157 v
 row:w.ownsRow base 164 2 v H.length (fC X)
 xl:X.length=H.length
 rest:∀(k:Nat) x h,X[k]?=some x→H[k]?=some h→∃e l,h=(e :: l,x.2.2.2.2)∧ah w (some ⟨x.1,x.2.1,none⟩) x.2.2.1 x.2.2.2.1 (e :: l)
 low:∀x ∈ X,x.1<base
 hB:base≤BH
theorem lh.empty (h:Boxed w BH 157 nZ) (hB:base≤BH):lh w base BH nZ [] [] :=
 ⟨h,⟨rfl,.inl ⟨rfl,rfl⟩⟩,rfl,(fun k x h hx=>by simp at hx),(fun x hx=>by cases hx),hB⟩
theorem lh.grown {X:List df} {H:List (List ac × Nat)} (h:lh w base BH v X H) (hg:w.grownBy w' row) (h1:some BH≠row) (h2:∀g,v.ownBlock=some g→some g≠row) (h3:∀r,row=some r→base≤r):lh w' base BH v X H:=by
 refine ⟨h.box.kept hg h1,h.row.kept hg ?_,h.xl,fun k x s hx hs=>?_,h.low,h.hB⟩
 · cases hv:v.ownBlock with
   | none=>exact .inl rfl
   | some g=>exact .inr (h2 g hv)
 · obtain ⟨e,l,d,r2⟩:=h.rest k x s hx hs;refine ⟨e,l,d,r2.grownB hg (fun y m _=>?_)⟩;cases m;intro o;have h4:=h3 _ o.symm;have h5:=h.low x (GP hx);exact absurd h4 (by simp only;omega)
theorem lh.below {X:List df} {H:List (List ac × Nat)} (h:lh w base BH v X H) (hb:Bl w w'):lh w' base BH v X H :=
 h.grown (row:=none) (d4 hb) (by simp) (fun g _=>by simp) (fun r e=>by cases e)
theorem lh.cells {X:List df} {H:List (List ac × Nat)} (h:lh w base BH v X H) {g:Nat} (hg:v.ownBlock=some g):∃e,w.heap[g]?=some (.cells e 164 (0,0)):=by
 rcases h.row.2 with ⟨hv,_⟩ | ⟨o,m,d,hv,_,hc,_⟩
 · rw [hv] at hg;cases hg
 · rw [hv] at hg;cases hg;exact ⟨_,hc⟩
theorem lh.own {B:Nat} {X:List df} {H:List (List ac × Nat)} (h:lh w base BH v X H) (hB:base≤B) (hg:w.grownBy w' row) (hr:∀r,row=some r→B≤r∧∃o:Obj,w.heap[r]?=some o∧o.isCells=false):lh w' base BH v X H:=by
 refine h.grown hg (fun e=>?_) (fun g d e=>?_) (fun r e=>by have:=(hr r e).1;omega)
 · obtain ⟨_,o,ho,hc⟩:=hr _ e.symm;rw [show w.heap[BH]?=_ from h.box] at ho;cases ho;cases hc
 · obtain ⟨_,o,ho,hc⟩:=hr _ e.symm;obtain ⟨s,m⟩:=h.cells d;rw [m] at ho;cases ho;cases hc
theorem lh.hp {c:Nat} {X:List df} {H:List (List ac × Nat)} (h:lh w base BH (sL g n c) X H) (hn:H.length=n):dF w base BH g n c X H:=by
 have d:=h.xl;have hO:ib w base g n c X:=⟨by have:=h.row;rw [hn] at this;exact this,by omega⟩;refine ⟨h.box.cell,hO,hn,fun k x s hx hs=>?_,?_⟩
 · obtain ⟨e,l,m,r2⟩:=h.rest k x s hx hs;have h1:=h.low x (GP hx);have h2:=hO.lt;have h3:=h.hB;exact ⟨e :: l,m,r2,by omega,by omega,by omega⟩
 · intro e;exact (h.box.not_row (by decide) h.row) (by rw [e];rfl)
theorem lh.live {X:List df} {H:List (List ac × Nat)} (h:lh w base BH v X H):∀s ∈ H,s.1≠[]:=fun s hs=>by
 obtain ⟨k,hk⟩:=Hr hs
 have hl:=(F'.1 hk).1
 obtain ⟨e,l,rfl,_⟩:=h.rest k _ s (j' (by rw [h.xl];exact hl)) hk
 exact fun e=>by cases e
theorem lh.of {c:Nat} {X m:List df} {H H':List (List ac × Nat)} (h:lh w base BH v X H) (hS:dF w' base BH g n c m H') (hx:m.Perm X) (hv:∀s ∈ H',s.1≠[]) (hb:Boxed w' BH 157 (sL g n c)):lh w' base BH (sL g n c) m H':=by
 refine ⟨hb,by rw [hS.len];exact hS.own.owns,by rw [hS.len];exact hS.own.len,fun k x s d hs=>?_,fun x d=>h.low x (hx.mem_iff.1 d),h.hB⟩;obtain ⟨l0,rfl,r2,_⟩:=hS.rest k x s d hs;obtain ⟨e,l,rfl⟩:=I4 (hv _ (GP hs));exact ⟨e,l,rfl,r2⟩
def jq (BH:Nat) (w w':World):Prop:=∀(B:Nat) (T:TypeId) (u:Value),Boxed w B T u→T≠164→B≠BH→Boxed w' B T u
theorem jq.trans {c:World} (h:jq BH a b) (k:jq BH b c):jq BH a c:=fun B T u hb d hB=>k B T u (h B T u hb d hB) d hB
theorem jq.below (h:Bl a b):jq BH a b:=fun B T u hb _ _=>hb.kept (d4 h) (by simp)
theorem jq.grown (h:a.grownBy b (some g)) (hg:∃m,a.heap[g]?=some (.cells m 164 (0,0))):jq BH a b:=fun B T u hb o _=>hb.kept h (fun e=>by
 have r:=GN e
 subst r
 obtain ⟨m,hc⟩:=hg
 have d:=(show a.heap[B]?=_ from hb).symm.trans hc
 cases d
 exact o rfl)
theorem yV (X:List df) (x:df):fC (X++[x])=fC X++kf x:=by rw [uH];simp [fC]
theorem lh.push {W d:World} {r c':Nat} {X:List df} {H:List (List ac × Nat)} {x:df} {e:ac} {l:List ac} (h:lh W base BH v X H) (hE:ah W (some ⟨x.1,x.2.1,none⟩) x.2.2.1 x.2.2.2.1 (e :: l)) (hx:x.1<base)
 (hown:d.ownsRow base 164 2 (sL r (H.length+1) c') (H.length+1) (fC X++kf x)) (hgrow:W.grownBy d v.ownBlock) :
 Boxed d BH 157 v∧lh (d.setCell ⟨BH,0,none⟩ (sL r (H.length+1) c')) base BH (sL r (H.length+1) c') (X++[x]) (H++[(e :: l,x.2.2.2.2)])∧KeepsOthers W (d.setCell ⟨BH,0,none⟩ (sL r (H.length+1) c'))∧(base≤W.heap.size→Below base W (d.setCell ⟨BH,0,none⟩ (sL r (H.length+1) c')))∧jq BH W (d.setCell ⟨BH,0,none⟩ (sL r (H.length+1) c')):=by
 have b1:=h.box.kept hgrow (h.box.not_row (by decide) h.row);have A:=grownBy_setCell' d BH (sL r (H.length+1) c');have m:∀(y:df) (e0:ac) (l0:List ac),y.1<base→ah W (some ⟨y.1,y.2.1,none⟩) y.2.2.1 y.2.2.2.1 (e0 :: l0)→ah (d.setCell ⟨BH,0,none⟩ (sL r (H.length+1) c')) (some ⟨y.1,y.2.1,none⟩) y.2.2.1 y.2.2.2.1 (e0 :: l0):=by
  intro y e0 l0 hy C;refine (C.grownB hgrow (fun z I _ F=>?_)).grownB A (fun z I _ F=>?_)
  · cases I;have:=(h.row.lt _ F.symm).1;simp only at this;omega
  · cases I;have h7:=GN F;have U:=h.hB;simp only at h7;omega
 refine ⟨b1,⟨b1.set _,?_,?_,?_,?_,h.hB⟩,?_,fun hs=>?_,fun B T u hb O hB=>Boxed.kept (hb.kept hgrow (hb.not_row O h.row)) A (fun e=>hB (GN e))⟩
 · rw [GO,yV];exact hown.kept A (.inr (b1.not_row (by decide) hown).symm)
 · rw [GO,GO,h.xl];rfl
 · intro k y s hy hs;by_cases hk:k<X.length
   · rw [GW hk] at hy;rw [GW (by rw [← h.xl];exact hk)] at hs;obtain ⟨e0,l0,K,r2⟩:=h.rest k y s hy hs;exact ⟨e0,l0,K,m y e0 l0 (h.low y (GP hy)) r2⟩
   · rw [GR (by omega)] at hy;rw [GR (by rw [← h.xl];omega),← h.xl] at hs;have E:k - X.length=0:=by
      have:=(F'.1 hy).1;simp at this;omega
     rw [E] at hy hs;simp at hy hs;subst hy;subst hs;exact ⟨e,l,rfl,m _ e l hx hE⟩
 · intro y hy;rcases GX.1 hy with h1 | h1
   · exact h.low y h1
   · rw [G5] at h1;subst h1;exact hx
 · refine (KeepsOthers.of_grownBy hgrow fun j o Q J=>?_).trans (KeepsOthers.setCell _ _ _);obtain ⟨R,D⟩:=h.cells Q;rw [D] at J;cases J;rfl
 · exact ((Below.refl base W).grown hgrow hs (fun k N=>(h.row.lt k N).1)).setCell (p:=⟨BH,0,none⟩) h.hB _
theorem DG (base BH g n c R:Nat) (O:List df) (D:List (List ac × Nat)) (w:World) (hn:n≤1048576) (hj:R<n) (hS:dF w base BH g n c O D) (hU:Mg.UpI (Mg.lessS aU) n D R) (a1:∀h ∈ D,h.1≠[]) :
 Calls Tryz.prog 204 #[.iface 162 (.pointer (pT BH)),iT R] w fun e w'=>e=.returned (.tuple #[])∧(∃X H,dF w' base BH g n c X H∧H.Perm D∧X.Perm O∧Mg.HeapTo (Mg.lessS aU) n H)∧w.grownBy w' (some g):=by
 have Z:=az hS;have a3:=az hU;have K:=az a1;go_enter Tryz.func204,Tryz.ntmps204
 go_wp2;go_loopw [1] (fun Y wr=>∃(j:Nat) (X:List df) (H:List (List ac × Nat)),Y=iT j∧j<n∧dF wr base BH g n c X H∧H.Perm D∧X.Perm O∧Mg.UpI (Mg.lessS aU) n H j∧w.grownBy wr (some g)) (fun Y _=>(intOf Y).toNat)
 case atStart=>exact ⟨R,O,D,rfl,hj,Z.o,List.Perm.refl _,List.Perm.refl _,a3.o,⟨rfl,rfl,rfl,GL _,fun _ _ _=>rfl⟩⟩
 case round =>
  obtain ⟨j,X,H,rfl,hj,hS,hP,hQ,hU,hG⟩:=hrel;have E:=az hS;have N:=az hP;have U:=az hQ;have HU:=az hU;have HG:=az hG;by_cases h0:j=0
  · subst h0;have w1:IntKind.i64.wrap ((0:Int) - 1)=-1:=by decide
    have w2:(-1:Int).tdiv 2=0:=by decide
    have w3:IntKind.i64.wrap ((-1:Int).tdiv 2)=0:=by decide
    go_wp2;go_end0;exact ⟨rfl,⟨X,H,E.o,N.o,U.o,Mg.up_done HU.o (fun h=>by omega)⟩,HG.o⟩
  · obtain ⟨i,hi⟩:=aG ((j - 1) / 2);have w1:IntKind.i64.wrap ((j:Int) - 1)=(j:Int) - 1:=by rw [Hg];omega
    have w2:((j:Int) - 1).tdiv 2=(i:Int):=by rw [Int.tdiv_eq_ediv_of_nonneg (by omega)];omega
    have w3:IntKind.i64.wrap (i:Int)=(i:Int):=by rw [Hg];omega
    have a8:¬(i:Int)=(j:Int):=by omega
    have aa:((i:Int) == (j:Int))=false:=by simp;omega
    have ah:i<j:=by omega
    have F:=E.o.len;obtain ⟨u,Q⟩:∃u,H[i]?=some u:=⟨_,j' (by omega)⟩;obtain ⟨v,hv⟩:∃v,H[j]?=some v:=⟨_,j' (by omega)⟩;have T:=E.o.own.len;obtain ⟨x,hx⟩:∃x,X[i]?=some x:=⟨_,j' (by omega)⟩;obtain ⟨y,hy⟩:∃y,X[j]?=some y:=⟨_,j' (by omega)⟩;have HI:=az hi;have s:=az Q;have m:=az hv;have B:=az hx;have C:=az hy;have hm:=q9 BH g n c wr E.o.box;have CL:=E.o.less hv Q (K.o _ (N.o.mem_iff.1 (GP hv))) (K.o _ (N.o.mem_iff.1 (GP Q)));clear hi Q hv hx hy F T;go_wp2_with fail
    refine CL.mono ?_;rintro e A ⟨rfl,d⟩;have r:=az (E.o.below d);have J:Eq (w.grownBy A (some g)):=HG.o.trans ⟨d.os,d.tape,d.output,d.size,fun k hk _=>d.block k hk⟩;cases hl:Mg.lessS aU v u with
    | false =>
     go_wp2;go_end0;exact ⟨rfl,⟨X,H,r.o,N.o,U.o,Mg.up_done HU.o (fun _ _ p q hp hq=>by rw [← HI.o,s.o] at hp;rw [m.o] at hq;cases hp;cases hq;exact hl)⟩,J.o⟩
    | true =>
     have hm:=qZ BH g n c A r.o.box;have CW:=jk base g n c i j X x y A r.o.own B.o C.o;go_wp2_with fail
     refine CW.mono ?_;rintro e ab ⟨rfl,a0,I⟩;have a4:=az (r.o.swap B.o C.o s.o m.o I a0);have W:=az (J.o.trans I);go_wp2;go_roundw
     case rel =>
      refine ⟨i,_,_,rfl,by omega,a4.o,(Mg.sw_perm s.o m.o).trans N.o,(Mg.sw_perm B.o C.o).trans U.o,?_,W.o⟩;have:=Mg.up_step (Mg.lessS_ord d5) HU.o (by omega) hj (by rw [← HI.o];exact s.o) m.o hl;rw [← HI.o] at this;exact this
     case measure=>simp [intOf] <;> omega
theorem Tryz.infoStr:(Tryz.prog.info? 164).map (fun i=>(i.zero,i.size,i.bytes))=some (some (.agg #[nZ,iT 0]),2,32):=by kernel_rfl
theorem BN (u:Value) (d:TypeId) (W:World):(Instr.typeAssert (.iface 164 u) d 164 true).run Tryz.prog W=.ok (.tuple #[u,.bool true]) W:=by kernel_rfl
theorem nL (w:World) (x y:Value) (t:TypeId):∀j u,[x,y][j]?=some u→(w.alloc (.cells #[x,y] t)).cell? ((⟨w.heap.size,0,none⟩:Addr).add j)=some u:=by
 intro j u d;rw [G6,GT];match j,d with
 | 0,d=>simp at d;subst d;simp
 | 1,d=>simp at d;subst d;simp
theorem Ba (base BH:Nat) (v:Value) (X:List df) (H:List (List ac × Nat)) (d u s y A:Nat) (e:ac) (l:List ac) (w:World) (hn:H.length≤1048576) (hs:base≤w.heap.size) (hV:lh w base BH v X H) (hE:ah w (some ⟨d,u,none⟩) s y (e :: l)) (hx:d<base) :
 Calls Tryz.prog 310 #[.pointer (pT BH),.iface 164 (.agg #[sO d u s y,iT A])] w fun en w'=>en=.returned (.tuple #[])∧(∃g c,lh w' base BH (sL g (H.length+1) c) (X++[(d,u,s,y,A)]) (H++[(e :: l,A)]))∧Below base w w'∧KeepsOthers w w'∧jq BH w w':=by
 obtain ⟨i0,hi,ak,al,af⟩:=info_parts Tryz.infoStr;obtain ⟨r,N⟩:=aG w.heap.size;obtain ⟨W,hW⟩:=aG (w.alloc (.cells #[sO d u s y,iT A] 164));have kW:Bl w W:=by rw [hW];exact bZ
 have oW:KeepsOthers w W:=by rw [hW];exact KeepsOthers.alloc _ _
 have c0:W.cell? ⟨r,0,none⟩=some (sO d u s y):=by rw [hW,N];simp
 have c1:W.cell? ⟨r,1,none⟩=some (iT A):=by rw [hW,N];simp
 have a6:=hV.below kW;have ad:Eq (some r≠v.ownBlock):=fun e=>by have:=(hV.row.lt r e.symm).2;omega
 have U:Eq (r≠BH):=fun e=>by have:=hV.box.lt;omega
 have HE:Eq (ah W (some ⟨d,u,none⟩) s y (e :: l)):=hE.keep kW;have HX:=az hx;have a8:=az hs;have F:Eq (Bl w W):=kW;have ae:Eq (KeepsOthers w W):=oW;have aj:Eq (lh W base BH v X H):=a6;have ao:=kW.size;have am:=BN (.agg #[sO d u s y,iT A]);go_enter Tryz.func310,Tryz.ntmps310
 go_wp2_with fail
 rw [← hW,← N];clear hW N kW oW hV a6 hE hx am;have k0:lh W.drew base BH v X H:=aj.o.below (Below.refl _ W).drew;have T:Bl W W.drew:=(Below.refl _ W).drew;have od:KeepsOthers W W.drew:=KeepsOthers.drew W;have C:=cell_later T c0;have I:=cell_later T c1;clear c0 c1;refine wp_region_held_drew (S:=(fun w'=>w'.cell? ⟨r,0,none⟩=some (sO d u s y)∧w'.cell? ⟨r,1,none⟩=some (iT A)∧r<w'.heap.size)) (by kernel_rfl) (⟨C,I,GK _ _ C⟩) (fun J=>?_);generalize W.drew=E at k0 C I T od J ⊢;refine aR 0 3 J ?_;refine aR 4 1 J ?_;refine mK 3 5 (fun K hK=>?_) fun K hK=>?_
 focus
  have cB:=(k0).box.cell
  go_simp
  clear cB
  refine hK.o _ _ (⟨C,I,GK _ _ C⟩) fun J=>?_
  (try go_frame)
  refine aV 5 fun K hK=>?_
  go_simp
  have kc:Bl E (E.alloc (.cells #[sO d u s y,iT A] 164)):=bZ
  have Z:=k0.below kc
  have m:=cell_later kc C
  have B:=cell_later kc I
  have Q:=T.trans (kc.mono T.size)
  have ko:=od.trans (KeepsOthers.alloc E (.cells #[sO d u s y,iT A] 164))
  have Y:=nL E (sO d u s y) (iT A) 164
  generalize E.heap.size=gb at Y ⊢
  generalize E.alloc (.cells #[sO d u s y,iT A] 164)=wb at Z m B Q ko Y ⊢
 rotate_left
 focus
  go_simp
  have kc:Bl E (E.alloc (.cells #[sO d u s y,iT A] 164)):=bZ
  have Z:=k0.below kc
  have m:=cell_later kc C
  have B:=cell_later kc I
  have Q:=T.trans (kc.mono T.size)
  have ko:=od.trans (KeepsOthers.alloc E (.cells #[sO d u s y,iT A] 164))
  have Y:=nL E (sO d u s y) (iT A) 164
  generalize E.heap.size=gb at Y ⊢
  generalize E.alloc (.cells #[sO d u s y,iT A] 164)=wb at Z m B Q ko Y ⊢
  refine hK.o _ _ (⟨m,B,GK _ _ m⟩) fun J=>?_
  (try go_frame)
  refine aV 3 fun K hK=>?_
  have cB:=(Z).box.cell
  go_simp
  clear cB
 all_goals
  refine hK.o _ _ (⟨m,B,GK _ _ m⟩) fun J=>?_
  (try go_frame)
  refine aV 6 fun K hK=>?_
  refine aE rfl (.tmp 15) (.tmp 17) 157 rfl base 164 i0 _ 2 32 Tryz.underlying157 hi ak al af rfl (Hx 1) _ _ _ rfl Z.row ⟨gb,0,none⟩ 1 1 (kf (d,u,s,y,A)) rfl rfl Y (by simp [kf,Value.oneCell']) ?_ ?_ ?_ ?_
  · unfold maxLen;omega
  · omega
  · have:=Q.size;omega
  intro v1 w1 a3 a7 aw
  obtain ⟨g1,c1,rfl⟩:=ownsRow_succ a3
  have ai:=HE.o.keep Q
  obtain ⟨b1,p2,p3,p4,p5⟩:=Z.push (x:=(d,u,s,y,A)) ai HX.o a3 a7
  have a4:some r≠v.ownBlock:=ad.o
  have O:wb.grownBy w1 v.ownBlock:=a7
  have D:w1.cell? ⟨r,0,none⟩=_:=(Hz (a:=⟨r,0,none⟩) (O.block r (GK _ _ m) a4)).trans m
  have R:w1.cell? ⟨r,1,none⟩=_:=(Hz (a:=⟨r,1,none⟩) (O.block r (GK _ _ B) a4)).trans B
  refine hK.o _ _ (⟨D,R,GK _ _ D⟩) fun J=>?_
  (try go_frame)
  refine aR 7 1 J ?_
  refine aV 8 fun K hK=>?_
  have cB:=b1.cell
  have fB:=b1.frozen
  have lB:=b1.lt
  go_simp
  clear cB fB lB
  refine hK.o _ _ (⟨(au (grownBy_setCell' w1 BH _) (x:=⟨r,0,none⟩) (GK _ _ D) U.o).trans D,(au (grownBy_setCell' w1 BH _) (x:=⟨r,1,none⟩) (GK _ _ R) U.o).trans R,GK _ _ ((au (grownBy_setCell' w1 BH _) (x:=⟨r,0,none⟩) (GK _ _ D) U.o).trans D)⟩) fun J=>?_
  (try go_frame)
  refine dN ?_
  clear J
  go_wp2
  go_end0
  exact ⟨rfl,⟨g1,c1,p2⟩,(F.o.trans (Q.mono F.o.size)).mono a8.o |>.trans (p4 (GU a8.o (GU F.o.size Q.size))),ae.o.trans (ko.trans p3),(jq.below (F.o.trans (Q.mono F.o.size))).trans p5⟩
theorem DH (base BH:Nat) (v:Value) (X:List df) (H:List (List ac × Nat)) (I xo N xc D:Nat) (e:ac) (l:List ac) (w:World) (hn:H.length<1048576) (hs:base≤w.heap.size) (hV:lh w base BH v X H) (hE:ah w (some ⟨I,xo,none⟩) N xc (e :: l)) (hx:I<base) (hH:Mg.HeapTo (Mg.lessS aU) H.length H) :
 Calls Tryz.prog 152 #[.iface 162 (.pointer (pT BH)),.iface 164 (.agg #[sO I xo N xc,iT D])] w fun J w'=>J=.returned (.tuple #[])∧(∃v' F u,lh w' base BH v' F u∧u.Perm (H++[(e :: l,D)])∧Mg.HeapTo (Mg.lessS aU) u.length u∧(∃g c,v'=sL g u.length c))∧Below base w w'∧KeepsOthers w w'∧jq BH w w':=by
 have hm:=FD BH w;have CP:=Ba base BH v X H I xo N xc D e l w (by omega) hs hV hE hx;have HH:=az hH;have HS:=az hs;go_enter Tryz.func152,Tryz.ntmps152
 go_wp2_with fail
 refine CP.mono ?_;rintro J K ⟨rfl,⟨g,c,d⟩,aa,a4,a3⟩;have W:=az a3;have B:=az aa;have T:=az a4;have x:=az d;have hlen:(H++[(e :: l,D)]).length=H.length+1:=by simp
 have r:=d.hp hlen;have ak:=DF BH g (H.length+1) c K r.box;have CN:=re (pT g) (H.length+1) c K;have hU:Mg.UpI (Mg.lessS aU) (H.length+1) (H++[(e :: l,D)]) H.length:=Mg.up_start HH.o rfl _;have CU:=DG base BH g (H.length+1) c H.length _ _ K (by omega) (by omega) r hU d.live;have wk:IntKind.i64.wrap (((H.length+1:Nat):Int) - 1)=(H.length:Int):=by rw [Hg];omega
 have a0:∃cc,K.heap[g]?=some (.cells cc 164 (0,0)):=d.cells rfl;have E:=az a0;have Z:=az ((r.own.lt).1);have U:=az r.ne;generalize H.length=n at *;go_wp2_with fail
 refine CN.mono ?_;rintro J w2 ⟨rfl,rfl⟩;go_wp2_with fail
 refine CU.mono ?_;rintro J w3 ⟨rfl,⟨F,u,A,y,a9,Y⟩,m⟩;have a6:=x.o.box.kept m (fun e'=>U.o (GN e'));have Q:Eq (lh w3 base BH (sL g (n+1) c) F u):=x.o.of A a9 (fun s hs=>x.o.live s (y.mem_iff.1 hs)) a6;have C:=az A.len;have R:Eq (Below base w w3):=B.o.trans ((Below.refl base w2).grown m (GU HS.o B.o.size) (fun k ek=>by cases ek;exact Z.o));have a2:Eq (KeepsOthers w w3):=T.o.trans (KeepsOthers.of_grownBy m (fun j o ej ho=>by cases ej;obtain ⟨cc,hc⟩:=E.o;rw [hc] at ho;cases ho;rfl));have O:=az (W.o.trans (jq.grown m E.o));have a7:=az y;have ab:=az Y;go_wp2;go_end0;exact ⟨rfl,⟨_,F,u,Q.o,a7.o,by rw [C.o];exact ab.o,g,c,by rw [C.o]⟩,R.o,a2.o,O.o⟩
theorem wN (base BH g N n c i0:Nat) (X0:List df) (H0:List (List ac × Nat)) (w:World) (hn:N≤1048576) (aM:n≤N) (aD:i0<N) (hS:dF w base BH g N c X0 H0) (hD:Mg.DownI (Mg.lessS aU) n H0 i0) (a1:iY n H0) :
 Calls Tryz.prog 205 #[.iface 162 (.pointer (pT BH)),iT i0,iT n] w fun e w'=>(∃b,e=.returned (.bool b))∧(∃X H,dF w' base BH g N c X H∧H.Perm H0∧X.Perm X0∧(∀k,n≤k→X[k]?=X0[k]?∧H[k]?=H0[k]?)∧Mg.HeapTo (Mg.lessS aU) n H)∧w.grownBy w' (some g):=by
 have au:=az hS;have ap:=az hD;have ar:=az a1;clear hS hD a1;go_enter Tryz.func205,Tryz.ntmps205
 go_wp2;go_loopw [7] (fun iv wr=>∃(i:Nat) (X:List df) (H:List (List ac × Nat)),iv=iT i∧i<N∧dF wr base BH g N c X H∧H.Perm H0∧X.Perm X0∧(∀k,n≤k→X[k]?=X0[k]?∧H[k]?=H0[k]?)∧(Mg.DownI (Mg.lessS aU) n H i∧iY n H)∧w.grownBy wr (some g)) (fun iv _=>N - (intOf iv).toNat)
 case atStart=>exact ⟨i0,X0,H0,rfl,aD,au.o,List.Perm.refl _,List.Perm.refl _,fun k _=>⟨rfl,rfl⟩,⟨ap.o,ar.o⟩,⟨rfl,rfl,rfl,GL _,fun _ _ _=>rfl⟩⟩
 case round =>
  clear au ap ar;obtain ⟨i,X,H,rfl,hi,hS,hP,hQ,hK,⟨hD,a1⟩,hG⟩:=hrel;have J:Eq (iY n H):=a1;have HS:Eq (dF wr base BH g N c X H):=hS;have HP:Eq (H.Perm H0):=hP;have HQ:Eq (X.Perm X0):=hQ;have HK:Eq (∀k,n≤k→X[k]?=X0[k]?∧H[k]?=H0[k]?):=hK;have HD:Eq (Mg.DownI (Mg.lessS aU) n H i):=hD;have HG:Eq (w.grownBy wr (some g)):=hG;have aH:=hS.len;have aL:=hS.own.len;clear hS hP hQ hD hG hK a1;obtain ⟨j1,a8⟩:=aG (2*i+1);have w1:IntKind.i64.wrap (2*(i:Int))=2*(i:Int):=by rw [Hg];omega
  have w2:IntKind.i64.wrap (2*(i:Int)+1)=(j1:Int):=by rw [Hg];omega
  have s:Eq (j1=2*i+1):=a8;by_cases aF:n≤j1
  · have ak:(n:Int)≤(j1:Int):=by omega
    clear a8;go_wp2;go_ret;exact ⟨⟨_,rfl⟩,⟨X,H,HS.o,HP.o,HQ.o,HK.o,Mg.down_done HD.o (fun d _ hd hp=>by have:=s.o;omega)⟩,HG.o⟩
  · have ak:¬(n:Int)≤(j1:Int):=by omega
    have aJ:¬(j1:Int)<0:=by omega
    obtain ⟨u,hu⟩:∃u,H[i]?=some u:=⟨_,j' (by omega)⟩;obtain ⟨x,hx⟩:∃x,X[i]?=some x:=⟨_,j' (by omega)⟩;obtain ⟨v1,hv1⟩:∃v,H[j1]?=some v:=⟨_,j' (by omega)⟩;obtain ⟨y1,ah⟩:∃y,X[j1]?=some y:=⟨_,j' (by omega)⟩;obtain ⟨j2,am⟩:=aG (j1+1);have w3:IntKind.i64.wrap ((j1:Int)+1)=(j2:Int):=by rw [Hg];omega
    have B:Eq (j2=j1+1):=am;have m:Eq (H[i]?=some u):=hu;have E:Eq (X[i]?=some x):=hx;have W:Eq (H[j1]?=some v1):=hv1;have a9:Eq (X[j1]?=some y1):=ah;by_cases h2:j2<n
    · have aE:(j2:Int)<(n:Int):=by omega
      obtain ⟨v2,hv2⟩:∃v,H[j2]?=some v:=⟨_,j' (by omega)⟩;obtain ⟨y2,av⟩:∃y,X[j2]?=some y:=⟨_,j' (by omega)⟩;have a7:Eq (H[j2]?=some v2):=hv2;have aw:Eq (X[j2]?=some y2):=av;have hm:=q9 BH g N c wr HS.o.box;have CL:=HS.o.less hv2 hv1 (J.o _ _ h2 hv2) (J.o _ _ (by omega) hv1);clear hu hx hv1 ah hv2 av a8 am;go_wp2_with fail
      refine CL.mono ?_;rintro e w4 ⟨rfl,Y⟩;have O:Eq (dF w4 base BH g N c X H):=HS.o.below Y;have ab:Eq (w.grownBy w4 (some g)):=HG.o.trans ⟨Y.os,Y.tape,Y.output,Y.size,fun k hk _=>Y.block k hk⟩;clear HS HG Y hm CL;cases hl2:Mg.lessS aU v2 v1 with
      | true =>
       obtain ⟨v,a5⟩:=aG v2;obtain ⟨y,a3⟩:=aG y2;subst a5;subst a3;have K:Eq (H[j2]?=some v):=a7.o;have C:Eq (X[j2]?=some y):=aw.o;have D:Eq (∀d,0<d→d<n→(d - 1) / 2=i→∀z,H[d]?=some z→Mg.lessS aU z v=false):=fun d d0 hd hp z hz=>by
        have e1:=s.o;have e2:=B.o;by_cases aj:d=j2
        · subst aj;rw [a7.o] at hz;cases hz;exact Mg.lessS_irr d5 _
        · have:d=j1:=by omega
          subst this;rw [W.o] at hz;cases hz;exact (Mg.lessS_ord d5).asym _ _ hl2
       clear a7 aw;have hm:=q9 BH g N c w4 O.o.box;have U:i<n:=by have:=s.o;omega
       have R:j2<n:=by have:=B.o;omega
       have CL:=O.o.less K.o m.o (J.o _ _ R K.o) (J.o _ _ U m.o);go_wp2_with fail
       refine CL.mono ?_;rintro e Z ⟨rfl,r⟩;have A:Eq (dF Z base BH g N c X H):=O.o.below r;have F:Eq (w.grownBy Z (some g)):=ab.o.trans ⟨r.os,r.tape,r.output,r.size,fun k hk _=>r.block k hk⟩;clear O ab r hm CL;cases hl:Mg.lessS aU v u with
       | false =>
        go_wp2;go_ret;exact ⟨⟨_,rfl⟩,⟨X,H,A.o,HP.o,HQ.o,HK.o,Mg.down_done HD.o (fun d d0 hd hp p q Q hq=>by rw [m.o] at Q;cases Q;exact (Mg.lessS_ord d5).tran _ _ _ (D.o d d0 hd hp q hq) hl)⟩,F.o⟩
       | true =>
        have hm:=qZ BH g N c Z A.o.box;have CW:=jk base g N c i j2 X x y Z A.o.own E.o C.o;go_wp2_with fail
        refine CW.mono ?_;rintro e w6 ⟨rfl,T,I⟩;have a4:Eq (dF w6 base BH g N c (Mg.sw X i j2 x y) (Mg.sw H i j2 u v)):=A.o.swap E.o C.o m.o K.o I T;have a0:Eq (w.grownBy w6 (some g)):=F.o.trans I;clear A F T I hm CW;go_wp2;go_roundw
        case rel=>exact ⟨j2,_,_,rfl,by omega,a4.o,(Mg.sw_perm m.o K.o).trans HP.o,(Mg.sw_perm E.o C.o).trans HQ.o,fun k hk=>by rw [Mg.sw_get E.o C.o,Mg.sw_get m.o K.o,if_neg (by omega),if_neg (by have:=s.o;omega),if_neg (by omega),if_neg (by have:=s.o;omega)];exact HK.o k hk,⟨Mg.down_step (Mg.lessS_ord d5) HD.o (by have:=s.o;have:=B.o;omega) (by have:=s.o;have:=B.o;omega) (by omega) m.o K.o hl D.o,J.o.swap m.o K.o U R⟩,a0.o⟩
        case measure=>have:=s.o;have:=B.o;simp [intOf] <;> omega
      | false =>
       obtain ⟨v,a5⟩:=aG v1;obtain ⟨y,a3⟩:=aG y1;subst a5;subst a3;have K:Eq (H[j1]?=some v):=W.o;have C:Eq (X[j1]?=some y):=a9.o;have D:Eq (∀d,0<d→d<n→(d - 1) / 2=i→∀z,H[d]?=some z→Mg.lessS aU z v=false):=fun d d0 hd hp z hz=>by
        have e1:=s.o;have e2:=B.o;by_cases aj:d=j2
        · subst aj;rw [a7.o] at hz;cases hz;exact hl2
        · have:d=j1:=by omega
          subst this;rw [W.o] at hz;cases hz;exact Mg.lessS_irr d5 _
       clear W a9;have hm:=q9 BH g N c w4 O.o.box;have U:i<n:=by have:=s.o;omega
       have R:j1<n:=by have:=B.o;omega
       have CL:=O.o.less K.o m.o (J.o _ _ R K.o) (J.o _ _ U m.o);go_wp2_with fail
       refine CL.mono ?_;rintro e Z ⟨rfl,r⟩;have A:Eq (dF Z base BH g N c X H):=O.o.below r;have F:Eq (w.grownBy Z (some g)):=ab.o.trans ⟨r.os,r.tape,r.output,r.size,fun k hk _=>r.block k hk⟩;clear O ab r hm CL;cases hl:Mg.lessS aU v u with
       | false =>
        go_wp2;go_ret;exact ⟨⟨_,rfl⟩,⟨X,H,A.o,HP.o,HQ.o,HK.o,Mg.down_done HD.o (fun d d0 hd hp p q Q hq=>by rw [m.o] at Q;cases Q;exact (Mg.lessS_ord d5).tran _ _ _ (D.o d d0 hd hp q hq) hl)⟩,F.o⟩
       | true =>
        have hm:=qZ BH g N c Z A.o.box;have CW:=jk base g N c i j1 X x y Z A.o.own E.o C.o;go_wp2_with fail
        refine CW.mono ?_;rintro e w6 ⟨rfl,T,I⟩;have a4:Eq (dF w6 base BH g N c (Mg.sw X i j1 x y) (Mg.sw H i j1 u v)):=A.o.swap E.o C.o m.o K.o I T;have a0:Eq (w.grownBy w6 (some g)):=F.o.trans I;clear A F T I hm CW;go_wp2;go_roundw
        case rel=>exact ⟨j1,_,_,rfl,by omega,a4.o,(Mg.sw_perm m.o K.o).trans HP.o,(Mg.sw_perm E.o C.o).trans HQ.o,fun k hk=>by rw [Mg.sw_get E.o C.o,Mg.sw_get m.o K.o,if_neg (by omega),if_neg (by have:=s.o;omega),if_neg (by omega),if_neg (by have:=s.o;omega)];exact HK.o k hk,⟨Mg.down_step (Mg.lessS_ord d5) HD.o (by have:=s.o;have:=B.o;omega) (by have:=s.o;have:=B.o;omega) (by omega) m.o K.o hl D.o,J.o.swap m.o K.o U R⟩,a0.o⟩
        case measure=>have:=s.o;have:=B.o;simp [intOf] <;> omega
    · have aE:¬(j2:Int)<(n:Int):=by omega
      obtain ⟨v,a5⟩:=aG v1;obtain ⟨y,a3⟩:=aG y1;subst a5;subst a3;have K:Eq (H[j1]?=some v):=W.o;have C:Eq (X[j1]?=some y):=a9.o;have D:Eq (∀d,0<d→d<n→(d - 1) / 2=i→∀z,H[d]?=some z→Mg.lessS aU z v=false):=fun d d0 hd hp z hz=>by
       have e1:=s.o;have e2:=B.o;have:d=j1:=by omega
       subst this;rw [W.o] at hz;cases hz;exact Mg.lessS_irr d5 _
      clear W a9 hu hx hv1 ah a8 am;have hm:=q9 BH g N c wr HS.o.box;have U:i<n:=by have:=s.o;omega
      have R:j1<n:=by have:=B.o;omega
      have CL:=HS.o.less K.o m.o (J.o _ _ R K.o) (J.o _ _ U m.o);go_wp2_with fail
      refine CL.mono ?_;rintro e Z ⟨rfl,r⟩;have A:Eq (dF Z base BH g N c X H):=HS.o.below r;have F:Eq (w.grownBy Z (some g)):=HG.o.trans ⟨r.os,r.tape,r.output,r.size,fun k hk _=>r.block k hk⟩;clear HS HG r hm CL;cases hl:Mg.lessS aU v u with
      | false =>
       go_wp2;go_ret;exact ⟨⟨_,rfl⟩,⟨X,H,A.o,HP.o,HQ.o,HK.o,Mg.down_done HD.o (fun d d0 hd hp p q Q hq=>by rw [m.o] at Q;cases Q;exact (Mg.lessS_ord d5).tran _ _ _ (D.o d d0 hd hp q hq) hl)⟩,F.o⟩
      | true =>
       have hm:=qZ BH g N c Z A.o.box;have CW:=jk base g N c i j1 X x y Z A.o.own E.o C.o;go_wp2_with fail
       refine CW.mono ?_;rintro e w6 ⟨rfl,T,I⟩;have a4:Eq (dF w6 base BH g N c (Mg.sw X i j1 x y) (Mg.sw H i j1 u v)):=A.o.swap E.o C.o m.o K.o I T;have a0:Eq (w.grownBy w6 (some g)):=F.o.trans I;clear A F T I hm CW;go_wp2;go_roundw
       case rel=>exact ⟨j1,_,_,rfl,by omega,a4.o,(Mg.sw_perm m.o K.o).trans HP.o,(Mg.sw_perm E.o C.o).trans HQ.o,fun k hk=>by rw [Mg.sw_get E.o C.o,Mg.sw_get m.o K.o,if_neg (by omega),if_neg (by have:=s.o;omega),if_neg (by omega),if_neg (by have:=s.o;omega)];exact HK.o k hk,⟨Mg.down_step (Mg.lessS_ord d5) HD.o (by have:=s.o;have:=B.o;omega) (by have:=s.o;have:=B.o;omega) (by omega) m.o K.o hl D.o,J.o.swap m.o K.o U R⟩,a0.o⟩
       case measure=>have:=s.o;have:=B.o;simp [intOf] <;> omega
theorem ES (base BH g n c:Nat) (I:List df) (d:List (List ac × Nat)) (w:World) (hn:n≤1048576) (u:0<n) (hS:dF w base BH g n c I d) (hD:Mg.DownI (Mg.lessS aU) n d 0) (s:∀h ∈ d,h.1≠[]) :
 Calls Tryz.prog 154 #[.iface 162 (.pointer (pT BH)),iT 0] w fun e w'=>e=.returned (.tuple #[])∧(∃X H,dF w' base BH g n c X H∧H.Perm d∧X.Perm I∧Mg.HeapTo (Mg.lessS aU) n H)∧w.grownBy w' (some g):=by
 have hm:=DF BH g n c w hS.box;have CN:=re (pT g) n c w;have Y:=wN base BH g n n c 0 I d w hn (GL _) u hS hD (iY.of s);have Q:=az s;go_enter Tryz.func154,Tryz.ntmps154
 go_wp2_with fail
 refine CN.mono ?_;rintro e w1 ⟨rfl,rfl⟩;go_wp2_with fail
 refine Y.mono ?_;rintro e w2 ⟨⟨b,rfl⟩,⟨X,H,F,hP,hQ,_,Z⟩,D⟩;have m:=az F;have R:=az hP;have T:=az hQ;have U:=az Z;have r:=az D;cases b with
 | true =>
  go_wp2;go_end0;exact ⟨rfl,⟨X,H,m.o,R.o,T.o,U.o⟩,r.o⟩
 | false =>
  have CU:=DG base BH g n c 0 X H w2 hn u m.o (Mg.down_up U.o) (fun h hh=>Q.o h (R.o.mem_iff.1 hh));go_wp2_with fail
  refine CU.mono ?_;rintro e w3 ⟨rfl,⟨W,H',K,y,N,O⟩,A⟩;have J:=az K;have B:=az (y.trans R.o);have x:=az (N.trans T.o);have C:=az O;have E:=az (r.o.trans A);go_wp2;go_end0;exact ⟨rfl,⟨W,H',J.o,B.o,x.o,C.o⟩,E.o⟩
theorem ER (base BH g n c k:Nat) (B:List df) (m:List (List ac × Nat)) (u:List ac × Nat) (w:World) (hk:n=k+1) (hn:n≤1048576) (hB:base≤BH) (I:w.frozen? ⟨BH,0,none⟩=false) (hS:dF w base BH g n c B m) (hH:Mg.HeapTo (Mg.lessS aU) n m) (E:m[0]?=some u) (A:∀(j:Nat) h,0<j→m[j]?=some h→h.1≠[]) :
 Calls Tryz.prog 153 #[.iface 162 (.pointer (pT BH))] w fun e w'=>(∃v,e=.returned v)∧(∃X H,dF w' base BH g k c X H∧(u :: H).Perm m∧Mg.HeapTo (Mg.lessS aU) k H∧∀x ∈ X,x ∈ B)∧Below base w w'∧KeepsOthers w w'∧w'.frozen? ⟨BH,0,none⟩=false∧∃wm,w.grownBy wm (some g)∧wm.grownBy w' (some BH):=by
 have hl:=hS.len;have ay:=hS.own.len;have am:=hS.own.lt.1;have hsz:=hS.own.lt.2;have zb:=GK _ _ hS.box;simp only at zb;have T:=hS.ne;have aq:=az hS.own.cells;obtain ⟨v,hv⟩:∃v,m[k]?=some v:=⟨_,j' (by omega)⟩;obtain ⟨x,hx⟩:∃x,B[0]?=some x:=⟨_,j' (by omega)⟩;obtain ⟨y,hy⟩:∃y,B[k]?=some y:=⟨_,j' (by omega)⟩;have hm:=DF BH g n c w hS.box;have aC:=qZ BH g n c w hS.box;have CN:=re (pT g) n c w;have CW:=jk base g n c 0 k B x y w hS.own hx hy
 have wk:IntKind.i64.wrap ((n:Int) - 1)=(k:Int):=by rw [Hg];omega
 have HS:=az hS;have a4:=az hH;have ah:=az I;have Q:=az hk;have ar:Eq (iY k (Mg.sw m 0 k u v)):=fun j s hj hs=>by
  rw [Mg.sw_get E hv,if_neg (by omega)] at hs;by_cases h2:j=0
  · rw [if_pos h2] at hs;cases hs;exact A k _ (by omega) hv
  · rw [if_neg h2] at hs;exact A j s (by omega) hs
 have Z:=az (Mg.sw_perm hx hy);clear hS hH I hk A;go_enter Tryz.func153,Tryz.ntmps153
 go_wp2_with fail
 refine CN.mono ?_;rintro e w1 ⟨rfl,rfl⟩;go_wp2_with fail
 refine CW.mono ?_;rintro e w2 ⟨rfl,a7,O⟩;have aj:=az (HS.o.swap hx hy E hv O a7);have W:Mg.DownI (Mg.lessS aU) k (Mg.sw m 0 k u v) 0:=Mg.down_start (a4.o.fewer (by have:=Q.o;omega)) (fun j j0 hj=>by rw [Mg.sw_get E hv,if_neg (by omega),if_neg (by omega)]);have CD:=wN base BH g n k c 0 _ _ w2 hn (by have:=Q.o;omega) (by have:=Q.o;omega) aj.o W ar.o;have a3:=az O;have a5:=az (Mg.sw_perm E hv);have ag:Eq ((Mg.sw m 0 k u v)[k]?=some u):=by show _=_;rw [Mg.sw_get E hv,if_pos rfl]
 go_wp2_with fail
 refine CD.mono ?_;rintro e C ⟨⟨b,rfl⟩,⟨X,H,r,Y,a6,U,ab⟩,ai⟩;have d:=a3.o.trans ai;have aa:Eq (KeepsOthers w1 C):=KeepsOthers.of_grownBy d (fun j o e ho=>by cases e;obtain ⟨cc,hc⟩:=aq.o;rw [hc] at ho;cases ho;rfl);have K:=az d;have a0:Eq (Below base w1 C):=(Below.refl base w1).grown d (by omega) (fun j e=>by cases e;exact am);have N:C.frozen? ⟨BH,0,none⟩=false:=by rw [bU d (x:=⟨BH,0,none⟩) zb (fun e=>T (GN e))];exact ah.o
 have hm:=FZ BH C;have CP:=DI base BH g n c k X H C Q.o hn hB N r;have aA:=az r.len;have a2:Eq ((u :: H.take k).Perm m):=by
  have hlen:=r.len;have J:H[k]?=some u:=by rw [(U k (GL _)).2];exact ag.o
  have ae:k<H.length:=(F'.1 J).1;have hd:H=H.take k++[u]:=by
   conv=>lhs;rw [← Hh k H,Ie ae,Iz (by have:=Q.o;omega)]
   rw [(F'.1 J).2]
  have hp:(u :: H.take k).Perm H:=by
   conv=>rhs;rw [hd]
   exact (List.perm_append_singleton u (H.take k)).symm
  exact hp.trans (Y.trans a5.o)
 have ap:Eq (∀z ∈ X.take k,z ∈ B):=fun z hz=>Z.o.mem_iff.1 (a6.mem_iff.1 (Hq hz))
 have an:Eq (Mg.HeapTo (Mg.lessS aU) k (H.take k)):=ab.same (fun j hj=>by rw [Hv hj]);go_wp2_with fail
 refine CP.mono ?_;rintro e w4 ⟨⟨v4,rfl⟩,af,ao,al,hf4,D⟩;have F:=az D;have R:=az af;have a8:=az (a0.o.trans ao);have ak:=az (aa.o.trans al);have a1:=az hf4;go_wp2;go_ret;exact ⟨⟨_,rfl⟩,⟨_,_,R.o,a2.o,an.o,ap.o⟩,a8.o,ak.o,a1.o,C,K.o,F.o⟩
abbrev oZ (n:Nat):Type:={ p:Nat × Nat // p.1<p.2∧p.2≤n }
def pw (L:List ac) {n:Nat} (p:oZ n):List ac:=(L.drop p.1.1).take (p.1.2 - p.1.1)
def Fe (L:List ac) {n:Nat} (ys:List (oZ n)):Prop:=(ys.map (pw L)).flatten=L∧∀l ∈ ys.map (pw L),l≠[]∧Mg.Asc aU l
theorem E6 (L:List ac) (f:Nat):Mg.Asc aU ((L.drop f).take (f+1 - f)):=by
 rw [Iu];unfold Mg.Asc;rw [Hl];intro i j hi d e;have h1:=E' d (List.length_take_le _ _);omega
theorem D8 {x y:ac} (hf:f<t) (hx:L[t - 1]?=some x) (hy:L[t]?=some y) (hA:Mg.Asc aU ((L.drop f).take (t - f))) (h:aU y x=false):Mg.Asc aU ((L.drop f).take (t+1 - f)):=by
 obtain ⟨m,o⟩:=F'.1 hx;obtain ⟨r,u⟩:=F'.1 hy;unfold Mg.Asc at hA ⊢;rw [Hl] at hA ⊢;intro i j hi s e;have d:=s;have hi':=hi;rw [GS,G7] at d hi';rw [If,Ij,If,Ij];by_cases h1:j<t - f
 · have:=hA i j (by rw [GS,G7];omega) (by rw [GS,G7];omega) e;rw [If,Ij,If,Ij] at this;exact this
 · have e1:f+j=t:=by omega
   have e2:L[f+j]'(by omega)=y:=by
    have:=j' (l:=L) (i:=f+j) (by omega);exact GN (this.symm.trans (by rw [e1];exact hy))
   rw [e2];by_cases h2:i=t - 1 - f
   · have e3:f+i=t - 1:=by omega
     have e4:L[f+i]'(by omega)=x:=by
      have:=j' (l:=L) (i:=f+i) (by omega);exact GN (this.symm.trans (by rw [e3];exact hx))
     rw [e4];exact h
   · have:=hA i (t - 1 - f) (by rw [GS,G7];omega) (by rw [GS,G7];omega) (by omega);rw [If,Ij,If,Ij] at this;have e4:L[f+(t - 1 - f)]'(by omega)=x:=by
      have h5:=j' (l:=L) (i:=f+(t - 1 - f)) (by omega);exact GN (h5.symm.trans (by rw [show f+(t - 1 - f)=t - 1 by omega];exact hx))
     rw [e4] at this;exact jD h this
def BV (L:List ac) {n:Nat} (f:Nat) (ys:List (oZ n)):Prop:=(ys.map (pw L)).flatten=L.take f∧∀l ∈ ys.map (pw L),l≠[]∧Mg.Asc aU l
theorem BV.zero (L:List ac) {n:Nat}:BV L 0 ([]:List (oZ n)):=⟨rfl,fun l hl=>by cases hl⟩
theorem BV.step {o:List (oZ n)} (h:BV L f o) (hL:L.length=n) (m:f<t) (d:t≤n) (hA:Mg.Asc aU ((L.drop f).take (t - f))):BV L t (o++[⟨(f,t),m,d⟩]):=by
 refine ⟨?_,fun l hl=>?_⟩
 · rw [Iw,IJ,h.1];simp only [IH,I9,Ip,List.flatten_nil,Iv];show L.take f++(L.drop f).take (t - f)=_
   rw [show L.take t=L.take (f+(t - f)) by rw [show f+(t - f)=t by omega],List.take_add]
 · rw [Iw] at hl;rcases GX.1 hl with h1 | h1
   · exact h.2 l h1
   · simp only [IH,I9,G5] at h1;subst h1;refine ⟨fun e=>?_,hA⟩;have:((L.drop f).take (t - f)).length=0:=by
      have r:(L.drop f).take (t - f)=[]:=e;rw [r];rfl
     rw [GS,G7] at this;omega
theorem BV.done {ys:List (oZ n)} (h:BV L n ys) (hL:L.length=n):Fe L ys:=⟨by rw [h.1,GV (by omega)],h.2⟩
end Go.Proofs.YtpobkmjicbobdaaGreat
