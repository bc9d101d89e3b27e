/- Walks. -/
import Derived.Test.YtpobkmjicbobdaaGreatBc39
namespace Go.Proofs.YtpobkmjicbobdaaGreat
set_option maxRecDepth 100000
set_option maxHeartbeats 40000000
open Go.RowKit
variable {BH base f g n t:Nat} {L:List ae} {a b w w':World} {row:Option Nat} {v:Value}
structure jD (w:World) (base BH:Nat) (v:Value) (X:List cW) (H:List (List ae × Nat)):Prop where
 box:Boxed w BH 157 v
 row:w.ownsRow base 164 2 v H.length (fq X)
 xl:X.length=H.length
 rest:∀(k:Nat) x h,X[k]?=some x→H[k]?=some h→∃e l,h=(e :: l,x.2.2.2.2)∧ah w (some ⟨x.1,x.2.1,none⟩) x.2.2.1 x.2.2.2.1 (e :: l)
 low:∀x ∈ X,x.1<base
 hB:base≤BH
theorem jD.empty (h:Boxed w BH 157 nZ) (hB:base≤BH):jD w base BH nZ [] [] :=
 ⟨h,⟨rfl,.inl ⟨rfl,rfl⟩⟩,rfl,(fun k x h hx=>by simp at hx),(fun x hx=>by cases hx),hB⟩
theorem jD.grown {X:List cW} {H:List (List ae × Nat)} (h:jD w base BH v X H) (hg:w.grownBy w' row) (h1:some BH≠row) (h2:∀g,v.ownBlock=some g→some g≠row) (h3:∀r,row=some r→base≤r):jD w' base BH v X H:=by
 refine ⟨h.box.kept hg h1,h.row.kept hg ?_,h.xl,fun k x s hx hs=>?_,h.low,h.hB⟩
 · cases hv:v.ownBlock with
   | none=>exact .inl rfl
   | some g=>exact .inr (h2 g hv)
 · obtain ⟨e,l,m,r2⟩:=h.rest k x s hx hs;refine ⟨e,l,m,r2.grownB hg (fun y o _=>?_)⟩;cases o;intro d;have h4:=h3 _ d.symm;have h5:=h.low x (Fw hx);exact absurd h4 (by simp only;omega)
theorem jD.below {X:List cW} {H:List (List ae × Nat)} (h:jD w base BH v X H) (hb:Bl w w'):jD w' base BH v X H :=
 h.grown (row:=none) (dU hb) (by simp) (fun g _=>by simp) (fun r e=>by cases e)
theorem jD.cells {X:List cW} {H:List (List ae × Nat)} (h:jD w base BH v X H) {g:Nat} (hg:v.ownBlock=some g):∃e,w.heap[g]?=some (.cells e 164 (0,0)):=by
 rcases h.row.2 with ⟨hv,_⟩ | ⟨o,m,d,hv,_,hc,_⟩
 · rw [hv] at hg;cases hg
 · rw [hv] at hg;cases hg;exact ⟨_,hc⟩
theorem jD.own {B:Nat} {X:List cW} {H:List (List ae × Nat)} (h:jD w base BH v X H) (hB:base≤B) (hg:w.grownBy w' row) (hr:∀r,row=some r→B≤r∧∃o:Obj,w.heap[r]?=some o∧o.isCells=false):jD w' base BH v X H:=by
 refine h.grown hg (fun e=>?_) (fun g d e=>?_) (fun r e=>by have:=(hr r e).1;omega)
 · obtain ⟨_,o,ho,hc⟩:=hr _ e.symm;rw [show w.heap[BH]?=_ from h.box] at ho;cases ho;cases hc
 · obtain ⟨_,o,ho,hc⟩:=hr _ e.symm;obtain ⟨s,m⟩:=h.cells d;rw [m] at ho;cases ho;cases hc
theorem jD.hp {c:Nat} {X:List cW} {H:List (List ae × Nat)} (h:jD w base BH (sL g n c) X H) (hn:H.length=n):cY w base BH g n c X H:=by
 have d:=h.xl;have hO:fT w base g n c X:=⟨by have:=h.row;rw [hn] at this;exact this,by omega⟩;refine ⟨h.box.cell,hO,hn,fun k x s hx hs=>?_,?_⟩
 · obtain ⟨e,l,m,r2⟩:=h.rest k x s hx hs;have h1:=h.low x (Fw hx);have h2:=hO.lt;have h3:=h.hB;exact ⟨e :: l,m,r2,by omega,by omega,by omega⟩
 · intro e;exact (h.box.not_row (by decide) h.row) (by rw [e];rfl)
theorem jD.live {X:List cW} {H:List (List ae × Nat)} (h:jD w base BH v X H):∀s ∈ H,s.1≠[]:=fun s hs=>by
 obtain ⟨k,hk⟩:=F' hs
 have hl:=(E'.1 hk).1
 obtain ⟨e,l,rfl,_⟩:=h.rest k _ s (j' (by rw [h.xl];exact hl)) hk
 exact fun e=>by cases e
theorem jD.of {c:Nat} {X m:List cW} {H H':List (List ae × Nat)} (h:jD w base BH v X H) (hS:cY w' base BH g n c m H') (hx:m.Perm X) (hv:∀s ∈ H',s.1≠[]) (hb:Boxed w' BH 157 (sL g n c)):jD w' base BH (sL g n c) m H':=by
 refine ⟨hb,by rw [hS.len];exact hS.own.owns,by rw [hS.len];exact hS.own.len,fun k x s d hs=>?_,fun x d=>h.low x (hx.mem_iff.1 d),h.hB⟩;obtain ⟨l0,rfl,r2,_⟩:=hS.rest k x s d hs;obtain ⟨e,l,rfl⟩:=Ha (hv _ (Fw hs));exact ⟨e,l,rfl,r2⟩
def gQ (BH:Nat) (w w':World):Prop:=∀(B:Nat) (T:TypeId) (u:Value),Boxed w B T u→T≠164→B≠BH→Boxed w' B T u
theorem gQ.trans {c:World} (h:gQ BH a b) (k:gQ BH b c):gQ BH a c:=fun B T u hb d hB=>k B T u (h B T u hb d hB) d hB
theorem gQ.below (h:Bl a b):gQ BH a b:=fun B T u hb _ _=>hb.kept (dU h) (by simp)
theorem gQ.grown (h:a.grownBy b (some g)) (hg:∃m,a.heap[g]?=some (.cells m 164 (0,0))):gQ BH a b:=fun B T u hb r _=>hb.kept h (fun e=>by
 have o:=Fx e
 subst o
 obtain ⟨m,hc⟩:=hg
 have d:=(show a.heap[B]?=_ from hb).symm.trans hc
 cases d
 exact r rfl)
theorem xG (X:List cW) (x:cW):fq (X++[x])=fq X++gY x:=by rw [tG];simp [fq]
theorem jD.push {W d:World} {r c':Nat} {X:List cW} {H:List (List ae × Nat)} {x:cW} {e:ae} {l:List ae} (h:jD W base BH v X H) (hE:ah W (some ⟨x.1,x.2.1,none⟩) x.2.2.1 x.2.2.2.1 (e :: l)) (hx:x.1<base)
 (hown:d.ownsRow base 164 2 (sL r (H.length+1) c') (H.length+1) (fq X++gY x)) (hgrow:W.grownBy d v.ownBlock) :
 Boxed d BH 157 v∧jD (d.setCell ⟨BH,0,none⟩ (sL r (H.length+1) c')) base BH (sL r (H.length+1) c') (X++[x]) (H++[(e :: l,x.2.2.2.2)])∧KeepsOthers W (d.setCell ⟨BH,0,none⟩ (sL r (H.length+1) c'))∧(base≤W.heap.size→Below base W (d.setCell ⟨BH,0,none⟩ (sL r (H.length+1) c')))∧gQ BH W (d.setCell ⟨BH,0,none⟩ (sL r (H.length+1) c')):=by
 have b1:=h.box.kept hgrow (h.box.not_row (by decide) h.row);have A:=grownBy_setCell' d BH (sL r (H.length+1) c');have m:∀(y:cW) (e0:ae) (l0:List ae),y.1<base→ah W (some ⟨y.1,y.2.1,none⟩) y.2.2.1 y.2.2.2.1 (e0 :: l0)→ah (d.setCell ⟨BH,0,none⟩ (sL r (H.length+1) c')) (some ⟨y.1,y.2.1,none⟩) y.2.2.1 y.2.2.2.1 (e0 :: l0):=by
  intro y e0 l0 hy E;refine (E.grownB hgrow (fun z I _ F=>?_)).grownB A (fun z I _ F=>?_)
  · cases I;have:=(h.row.lt _ F.symm).1;simp only at this;omega
  · cases I;have h7:=Fx F;have U:=h.hB;simp only at h7;omega
 refine ⟨b1,⟨b1.set _,?_,?_,?_,?_,h.hB⟩,?_,fun hs=>?_,fun B T u hb N hB=>Boxed.kept (hb.kept hgrow (hb.not_row N h.row)) A (fun e=>hB (Fx e))⟩
 · rw [Fy,xG];exact hown.kept A (.inr (b1.not_row (by decide) hown).symm)
 · rw [Fy,Fy,h.xl];rfl
 · intro k y s hy hs;by_cases hk:k<X.length
   · rw [FE hk] at hy;rw [FE (by rw [← h.xl];exact hk)] at hs;obtain ⟨e0,l0,Q,r2⟩:=h.rest k y s hy hs;exact ⟨e0,l0,Q,m y e0 l0 (h.low y (Fw hy)) r2⟩
   · rw [Fz (by omega)] at hy;rw [Fz (by rw [← h.xl];omega),← h.xl] at hs;have D:k - X.length=0:=by
      have:=(E'.1 hy).1;simp at this;omega
     rw [D] at hy hs;simp at hy hs;subst hy;subst hs;exact ⟨e,l,rfl,m _ e l hx hE⟩
 · intro y hy;rcases FI.1 hy with h1 | h1
   · exact h.low y h1
   · rw [FL] at h1;subst h1;exact hx
 · refine (KeepsOthers.of_grownBy hgrow fun j o O J=>?_).trans (KeepsOthers.setCell _ _ _);obtain ⟨R,C⟩:=h.cells O;rw [C] at J;cases J;rfl
 · exact ((Below.refl base W).grown hgrow hs (fun k K=>(h.row.lt k K).1)).setCell (p:=⟨BH,0,none⟩) h.hB _
theorem Ce (base BH g n c Z:Nat) (T:List cW) (F:List (List ae × Nat)) (w:World) (hn:n≤1048576) (hj:Z<n) (hS:cY w base BH g n c T F) (U:Mg.UpI (Mg.lessS aW) n F Z) (N:∀h ∈ F,h.1≠[]) :
 Calls Tryz.prog 204 #[.iface 162 (.pointer (pT BH)),iT Z] w fun e w'=>e=.returned (.tuple #[])∧(∃X H,cY w' base BH g n c X H∧H.Perm F∧X.Perm T∧Mg.HeapTo (Mg.lessS aW) n H)∧w.grownBy w' (some g):=by
 have Y:=bT hS;have O:=bT U;have R:=bT N;clear hS U N;go_enter Tryz.func204,Tryz.ntmps204
 go_wp2;go_loopw [1] (fun jv wr=>∃(j:Nat) (X:List cW) (H:List (List ae × Nat)),jv=iT j∧j<n∧cY wr base BH g n c X H∧H.Perm F∧X.Perm T∧Mg.UpI (Mg.lessS aW) n H j∧w.grownBy wr (some g)) (fun jv _=>(intOf jv).toNat)
 case atStart=>exact ⟨Z,T,F,rfl,hj,Y.o,List.Perm.refl _,List.Perm.refl _,O.o,⟨rfl,rfl,rfl,Fv _,fun _ _ _=>rfl⟩⟩
 case round =>
  clear Y O hj;obtain ⟨j,X,H,rfl,hj,hS,hP,hQ,U,hG⟩:=hrel;have C:Eq (cY wr base BH g n c X H):=hS;have W:Eq (H.Perm F):=hP;have HQ:Eq (X.Perm T):=hQ;have HU:Eq (Mg.UpI (Mg.lessS aW) n H j):=U;have HG:Eq (w.grownBy wr (some g)):=hG;clear hS hP hQ U hG;by_cases h0:j=0
  · subst h0;have w1:IntKind.i64.wrap ((0:Int) - 1)=-1:=by decide
    have w2:(-1:Int).tdiv 2=0:=by decide
    have w3:IntKind.i64.wrap ((-1:Int).tdiv 2)=0:=by decide
    go_wp2;go_end0;exact ⟨rfl,⟨X,H,C.o,W.o,HQ.o,Mg.up_done HU.o (fun h=>by omega)⟩,HG.o⟩
  · obtain ⟨i,hi⟩:=aG ((j - 1) / 2);have w1:IntKind.i64.wrap ((j:Int) - 1)=(j:Int) - 1:=by rw [F0];omega
    have w2:((j:Int) - 1).tdiv 2=(i:Int):=by rw [Int.tdiv_eq_ediv_of_nonneg (by omega)];omega
    have w3:IntKind.i64.wrap (i:Int)=(i:Int):=by rw [F0];omega
    have ac:¬(i:Int)=(j:Int):=by omega
    have ai:((i:Int) == (j:Int))=false:=by simp;omega
    have ah:i<j:=by omega
    have J:=C.o.len;obtain ⟨u,hu⟩:∃u,H[i]?=some u:=⟨_,j' (by omega)⟩;obtain ⟨v,hv⟩:∃v,H[j]?=some v:=⟨_,j' (by omega)⟩;have a3:=C.o.own.len;obtain ⟨x,hx⟩:∃x,X[i]?=some x:=⟨_,j' (by omega)⟩;obtain ⟨y,hy⟩:∃y,X[j]?=some y:=⟨_,j' (by omega)⟩;have HI:Eq (i=(j - 1) / 2):=hi;have s:Eq (H[i]?=some u):=hu;have r:Eq (H[j]?=some v):=hv;have I:Eq (X[i]?=some x):=hx;have B:Eq (X[j]?=some y):=hy;have hm:=qd BH g n c wr C.o.box;have CL:=C.o.less hv hu (R.o _ (W.o.mem_iff.1 (Fw hv))) (R.o _ (W.o.mem_iff.1 (Fw hu)));clear hi hu hv hx hy J a3;go_wp2_with fail
    refine CL.mono ?_;rintro e A ⟨rfl,d⟩;have m:Eq (cY A base BH g n c X H):=C.o.below d;have E:Eq (w.grownBy A (some g)):=HG.o.trans ⟨d.os,d.tape,d.output,d.size,fun k hk _=>d.block k hk⟩;clear C HG d hm CL;cases hl:Mg.lessS aW v u with
    | false =>
     go_wp2;go_end0;exact ⟨rfl,⟨X,H,m.o,W.o,HQ.o,Mg.up_done HU.o (fun _ _ p q hp hq=>by rw [← HI.o,s.o] at hp;rw [r.o] at hq;cases hp;cases hq;exact hl)⟩,E.o⟩
    | true =>
     have hm:=p9 BH g n c A m.o.box;have CW:=iS base g n c i j X x y A m.o.own I.o B.o;go_wp2_with fail
     refine CW.mono ?_;rintro e K ⟨rfl,Q,D⟩;have a7:Eq (cY K base BH g n c (Mg.sw X i j x y) (Mg.sw H i j u v)):=m.o.swap I.o B.o s.o r.o D Q;have a9:Eq (w.grownBy K (some g)):=E.o.trans D;clear m E Q D hm CW;go_wp2;go_roundw
     case rel =>
      refine ⟨i,_,_,rfl,by omega,a7.o,(Mg.sw_perm s.o r.o).trans W.o,(Mg.sw_perm I.o B.o).trans HQ.o,?_,a9.o⟩;have:=Mg.up_step (Mg.lessS_ord dW) HU.o (by omega) hj (by rw [← HI.o];exact s.o) r.o hl;rw [← HI.o] at this;exact this
     case measure=>simp [intOf] <;> omega
theorem Tryz.infoStr:(Tryz.prog.info? 164).map (fun i=>(i.zero,i.size,i.bytes))=some (some (.agg #[nZ,iT 0]),2,32):=by kernel_rfl
theorem AF (u:Value) (d:TypeId) (W:World):(Instr.typeAssert (.iface 164 u) d 164 true).run Tryz.prog W=.ok (.tuple #[u,.bool true]) W:=by kernel_rfl
theorem mz (w:World) (x y:Value) (t:TypeId):∀j u,[x,y][j]?=some u→(w.alloc (.cells #[x,y] t)).cell? ((⟨w.heap.size,0,none⟩:Addr).add j)=some u:=by
 intro j u d;rw [FO,FG];match j,d with
 | 0,d=>simp at d;subst d;simp
 | 1,d=>simp at d;subst d;simp
theorem Ab (base BH:Nat) (v:Value) (X:List cW) (H:List (List ae × Nat)) (y C B A D:Nat) (e:ae) (l:List ae) (w:World) (hn:H.length≤1048576) (hs:base≤w.heap.size) (hV:jD w base BH v X H) (hE:ah w (some ⟨y,C,none⟩) B A (e :: l)) (hx:y<base) :
 Calls Tryz.prog 310 #[.pointer (pT BH),.iface 164 (.agg #[sO y C B A,iT D])] w fun en w'=>en=.returned (.tuple #[])∧(∃g c,jD w' base BH (sL g (H.length+1) c) (X++[(y,C,B,A,D)]) (H++[(e :: l,D)]))∧Below base w w'∧KeepsOthers w w'∧gQ BH w w':=by
 obtain ⟨i0,hi,ab,aa,aj⟩:=info_parts Tryz.infoStr;obtain ⟨d,a0⟩:=aG w.heap.size;obtain ⟨W,hW⟩:=aG (w.alloc (.cells #[sO y C B A,iT D] 164));have kW:Bl w W:=by rw [hW];exact bZ
 have oW:KeepsOthers w W:=by rw [hW];exact KeepsOthers.alloc _ _
 have c0:W.cell? ⟨d,0,none⟩=some (sO y C B A):=by rw [hW,a0];simp
 have c1:W.cell? ⟨d,1,none⟩=some (iT D):=by rw [hW,a0];simp
 have a9:=hV.below kW;have ad:Eq (some d≠v.ownBlock):=fun e=>by have:=(hV.row.lt d e.symm).2;omega
 have O:Eq (d≠BH):=fun e=>by have:=hV.box.lt;omega
 have HE:Eq (ah W (some ⟨y,C,none⟩) B A (e :: l)):=hE.keep kW;have HX:=bT hx;have a2:=bT hs;have u:Eq (Bl w W):=kW;have ag:Eq (KeepsOthers w W):=oW;have ax:Eq (jD W base BH v X H):=a9;have aC:=kW.size;have au:=AF (.agg #[sO y C B A,iT D]);go_enter Tryz.func310,Tryz.ntmps310
 go_wp2_with fail
 rw [← hW,← a0];clear hW a0 kW oW hV a9 hE hx au;have k0:jD W.drew base BH v X H:=ax.o.below (Below.refl _ W).drew;have bd:Bl W W.drew:=(Below.refl _ W).drew;have od:KeepsOthers W W.drew:=KeepsOthers.drew W;have F:=cell_later bd c0;have T:=cell_later bd c1;clear c0 c1;refine wp_region_held_drew (S:=(fun w'=>w'.cell? ⟨d,0,none⟩=some (sO y C B A)∧w'.cell? ⟨d,1,none⟩=some (iT D)∧d<w'.heap.size)) (by kernel_rfl) (⟨F,T,Fu _ _ F⟩) (fun I=>?_);generalize W.drew=R at k0 F T bd od I ⊢;refine aP 0 3 I ?_;refine aP 4 1 I ?_;refine lg 3 5 (fun K hK=>?_) fun K hK=>?_
 · have cB:=(k0).box.cell;go_simp;clear cB;refine hK.o _ _ (⟨F,T,Fu _ _ F⟩) fun I=>?_
   (try go_frame);refine aQ 5 fun K hK=>?_
   go_simp;have kc:Bl R (R.alloc (.cells #[sO y C B A,iT D] 164)):=bZ;have kb:=k0.below kc;have r:=cell_later kc F;have s:=cell_later kc T;have N:=bd.trans (kc.mono bd.size);have ko:=od.trans (KeepsOthers.alloc R (.cells #[sO y C B A,iT D] 164));have nw:=mz R (sO y C B A) (iT D) 164;generalize R.heap.size=gb at nw ⊢;generalize R.alloc (.cells #[sO y C B A,iT D] 164)=wb at kb r s N ko nw ⊢;refine hK.o _ _ (⟨r,s,Fu _ _ r⟩) fun I=>?_
   (try go_frame);refine aQ 6 fun K hK=>?_
   refine aw rfl (.tmp 15) (.tmp 17) 157 rfl base 164 i0 _ 2 32 Tryz.underlying157 hi ab aa aj rfl (Ga 1) _ _ _ rfl kb.row ⟨gb,0,none⟩ 1 1 (gY (y,C,B,A,D)) rfl rfl nw (by simp [gY,Value.oneCell']) ?_ ?_ ?_ ?_
   · unfold maxLen;omega
   · omega
   · have:=N.size;omega
   intro v1 Q Z Y aq;obtain ⟨g1,c1,rfl⟩:=ownsRow_succ Z;have a7:=HE.o.keep N;obtain ⟨b1,p2,p3,p4,p5⟩:=kb.push (x:=(y,C,B,A,D)) a7 HX.o Z Y;have U:some d≠v.ownBlock:=ad.o;have E:wb.grownBy Q v.ownBlock:=Y;have m:Q.cell? ⟨d,0,none⟩=_:=(Gc (a:=⟨d,0,none⟩) (E.block d (Fu _ _ r) U)).trans r;have J:Q.cell? ⟨d,1,none⟩=_:=(Gc (a:=⟨d,1,none⟩) (E.block d (Fu _ _ s) U)).trans s;refine hK.o _ _ (⟨m,J,Fu _ _ m⟩) fun I=>?_
   (try go_frame);refine aP 7 1 I ?_;refine aQ 8 fun K hK=>?_
   have cB:=b1.cell;have fB:=b1.frozen;have lB:=b1.lt;go_simp;clear cB fB lB;refine hK.o _ _ (⟨(an (grownBy_setCell' Q BH _) (x:=⟨d,0,none⟩) (Fu _ _ m) O.o).trans m,(an (grownBy_setCell' Q BH _) (x:=⟨d,1,none⟩) (Fu _ _ J) O.o).trans J,Fu _ _ ((an (grownBy_setCell' Q BH _) (x:=⟨d,0,none⟩) (Fu _ _ m) O.o).trans m)⟩) fun I=>?_
   (try go_frame);refine dN ?_;clear I;go_wp2;go_end0;exact ⟨rfl,⟨g1,c1,p2⟩,(u.o.trans (N.mono u.o.size)).mono a2.o |>.trans (p4 (FK a2.o (FK u.o.size N.size))),ag.o.trans (ko.trans p3),(gQ.below (u.o.trans (N.mono u.o.size))).trans p5⟩
 · go_simp;have kc:Bl R (R.alloc (.cells #[sO y C B A,iT D] 164)):=bZ;have kb:=k0.below kc;have r:=cell_later kc F;have s:=cell_later kc T;have N:=bd.trans (kc.mono bd.size);have ko:=od.trans (KeepsOthers.alloc R (.cells #[sO y C B A,iT D] 164));have nw:=mz R (sO y C B A) (iT D) 164;generalize R.heap.size=gb at nw ⊢;generalize R.alloc (.cells #[sO y C B A,iT D] 164)=wb at kb r s N ko nw ⊢;refine hK.o _ _ (⟨r,s,Fu _ _ r⟩) fun I=>?_
   (try go_frame);refine aQ 3 fun K hK=>?_
   have cB:=(kb).box.cell;go_simp;clear cB;refine hK.o _ _ (⟨r,s,Fu _ _ r⟩) fun I=>?_
   (try go_frame);refine aQ 6 fun K hK=>?_
   refine aw rfl (.tmp 15) (.tmp 17) 157 rfl base 164 i0 _ 2 32 Tryz.underlying157 hi ab aa aj rfl (Ga 1) _ _ _ rfl kb.row ⟨gb,0,none⟩ 1 1 (gY (y,C,B,A,D)) rfl rfl nw (by simp [gY,Value.oneCell']) ?_ ?_ ?_ ?_
   · unfold maxLen;omega
   · omega
   · have:=N.size;omega
   intro v1 Q Z Y aq;obtain ⟨g1,c1,rfl⟩:=ownsRow_succ Z;have a7:=HE.o.keep N;obtain ⟨b1,p2,p3,p4,p5⟩:=kb.push (x:=(y,C,B,A,D)) a7 HX.o Z Y;have U:some d≠v.ownBlock:=ad.o;have E:wb.grownBy Q v.ownBlock:=Y;have m:Q.cell? ⟨d,0,none⟩=_:=(Gc (a:=⟨d,0,none⟩) (E.block d (Fu _ _ r) U)).trans r;have J:Q.cell? ⟨d,1,none⟩=_:=(Gc (a:=⟨d,1,none⟩) (E.block d (Fu _ _ s) U)).trans s;refine hK.o _ _ (⟨m,J,Fu _ _ m⟩) fun I=>?_
   (try go_frame);refine aP 7 1 I ?_;refine aQ 8 fun K hK=>?_
   have cB:=b1.cell;have fB:=b1.frozen;have lB:=b1.lt;go_simp;clear cB fB lB;refine hK.o _ _ (⟨(an (grownBy_setCell' Q BH _) (x:=⟨d,0,none⟩) (Fu _ _ m) O.o).trans m,(an (grownBy_setCell' Q BH _) (x:=⟨d,1,none⟩) (Fu _ _ J) O.o).trans J,Fu _ _ ((an (grownBy_setCell' Q BH _) (x:=⟨d,0,none⟩) (Fu _ _ m) O.o).trans m)⟩) fun I=>?_
   (try go_frame);refine dN ?_;clear I;go_wp2;go_end0;exact ⟨rfl,⟨g1,c1,p2⟩,(u.o.trans (N.mono u.o.size)).mono a2.o |>.trans (p4 (FK a2.o (FK u.o.size N.size))),ag.o.trans (ko.trans p3),(gQ.below (u.o.trans (N.mono u.o.size))).trans p5⟩
theorem Cf (base BH:Nat) (v:Value) (X:List cW) (H:List (List ae × Nat)) (R xo xn Z y:Nat) (e:ae) (l:List ae) (w:World) (hn:H.length<1048576) (hs:base≤w.heap.size) (hV:jD w base BH v X H) (hE:ah w (some ⟨R,xo,none⟩) xn Z (e :: l)) (hx:R<base) (hH:Mg.HeapTo (Mg.lessS aW) H.length H) :
 Calls Tryz.prog 152 #[.iface 162 (.pointer (pT BH)),.iface 164 (.agg #[sO R xo xn Z,iT y])] w fun en w'=>en=.returned (.tuple #[])∧(∃v' X' r,jD w' base BH v' X' r∧r.Perm (H++[(e :: l,y)])∧Mg.HeapTo (Mg.lessS aW) r.length r∧(∃g c,v'=sL g r.length c))∧Below base w w'∧KeepsOthers w w'∧gQ BH w w':=by
 have hm:=Et BH w;have CP:=Ab base BH v X H R xo xn Z y e l w (by omega) hs hV hE hx;have HH:=bT hH;have HS:=bT hs;clear hH hV hE hs hx;go_enter Tryz.func152,Tryz.ntmps152
 go_wp2_with fail
 refine CP.mono ?_;rintro en x ⟨rfl,⟨g,c,u⟩,E,I,Q⟩;have O:Eq (gQ BH w x):=Q;have C:Eq (Below base w x):=E;have J:Eq (KeepsOthers w x):=I;have D:Eq (jD x base BH (sL g (H.length+1) c) (X++[(R,xo,xn,Z,y)]) (H++[(e :: l,y)])):=u;have hlen:(H++[(e :: l,y)]).length=H.length+1:=by simp
 have d:=u.hp hlen;have a6:=Cd BH g (H.length+1) c x d.box;have CN:=qg (pT g) (H.length+1) c x;have hU:Mg.UpI (Mg.lessS aW) (H.length+1) (H++[(e :: l,y)]) H.length:=Mg.up_start HH.o rfl _;have CU:=Ce base BH g (H.length+1) c H.length _ _ x (by omega) (by omega) d hU u.live;have wk:IntKind.i64.wrap (((H.length+1:Nat):Int) - 1)=(H.length:Int):=by rw [F0];omega
 have T:∃Y,x.heap[g]?=some (.cells Y 164 (0,0)):=u.cells rfl;have N:Eq (∃Y,x.heap[g]?=some (.cells Y 164 (0,0))):=T;have a8:Eq (base≤g):=(d.own.lt).1;have a7:Eq (BH≠g):=d.ne;clear E I Q u d hU CP hm hlen HH T;generalize H.length=n at *;go_wp2_with fail
 refine CN.mono ?_;rintro en w2 ⟨rfl,rfl⟩;go_wp2_with fail
 refine CU.mono ?_;rintro en w3 ⟨rfl,⟨X',r,B,A,W,U⟩,m⟩;have K:=D.o.box.kept m (fun e'=>a7.o (Fx e'));have a9:Eq (jD w3 base BH (sL g (n+1) c) X' r):=D.o.of B W (fun s hs=>D.o.live s (A.mem_iff.1 hs)) K;have F:Eq (r.length=n+1):=B.len;have ad:Eq (Below base w w3):=C.o.trans ((Below.refl base w2).grown m (FK HS.o C.o.size) (fun k ek=>by cases ek;exact a8.o));have a5:Eq (KeepsOthers w w3):=J.o.trans (KeepsOthers.of_grownBy m (fun j o ej ho=>by cases ej;obtain ⟨Y,hc⟩:=N.o;rw [hc] at ho;cases ho;rfl));have aa:Eq (gQ BH w w3):=O.o.trans (gQ.grown m N.o);have ab:Eq (r.Perm (H++[(e :: l,y)])):=A;have ac:Eq (Mg.HeapTo (Mg.lessS aW) (n+1) r):=U;clear B A W U m K CU CN C J O a6;go_wp2;go_end0;exact ⟨rfl,⟨_,X',r,a9.o,ab.o,by rw [F.o];exact ac.o,g,c,by rw [F.o]⟩,ad.o,a5.o,aa.o⟩
theorem vg (base BH g N n c i0:Nat) (X0:List cW) (H0:List (List ae × Nat)) (w:World) (hn:N≤1048576) (aL:n≤N) (aB:i0<N) (hS:cY w base BH g N c X0 H0) (hD:Mg.DownI (Mg.lessS aW) n H0 i0) (a0:iJ n H0) :
 Calls Tryz.prog 205 #[.iface 162 (.pointer (pT BH)),iT i0,iT n] w fun e w'=>(∃b,e=.returned (.bool b))∧(∃X H,cY w' base BH g N c X H∧H.Perm H0∧X.Perm X0∧(∀k,n≤k→X[k]?=X0[k]?∧H[k]?=H0[k]?)∧Mg.HeapTo (Mg.lessS aW) n H)∧w.grownBy w' (some g):=by
 have aw:=bT hS;have ar:=bT hD;have aq:=bT a0;clear hS hD a0;go_enter Tryz.func205,Tryz.ntmps205
 go_wp2;go_loopw [7] (fun iv wr=>∃(i:Nat) (X:List cW) (H:List (List ae × Nat)),iv=iT i∧i<N∧cY wr base BH g N c X H∧H.Perm H0∧X.Perm X0∧(∀k,n≤k→X[k]?=X0[k]?∧H[k]?=H0[k]?)∧(Mg.DownI (Mg.lessS aW) n H i∧iJ n H)∧w.grownBy wr (some g)) (fun iv _=>N - (intOf iv).toNat)
 case atStart=>exact ⟨i0,X0,H0,rfl,aB,aw.o,List.Perm.refl _,List.Perm.refl _,fun k _=>⟨rfl,rfl⟩,⟨ar.o,aq.o⟩,⟨rfl,rfl,rfl,Fv _,fun _ _ _=>rfl⟩⟩
 case round =>
  clear aw ar aq;obtain ⟨i,X,H,rfl,hi,hS,hP,hQ,hK,⟨hD,a0⟩,hG⟩:=hrel;have F:Eq (iJ n H):=a0;have HS:Eq (cY wr base BH g N c X H):=hS;have HP:Eq (H.Perm H0):=hP;have HQ:Eq (X.Perm X0):=hQ;have HK:Eq (∀k,n≤k→X[k]?=X0[k]?∧H[k]?=H0[k]?):=hK;have HD:Eq (Mg.DownI (Mg.lessS aW) n H i):=hD;have HG:Eq (w.grownBy wr (some g)):=hG;have aE:=hS.len;have aK:=hS.own.len;clear hS hP hQ hD hG hK a0;obtain ⟨j1,a7⟩:=aG (2*i+1);have w1:IntKind.i64.wrap (2*(i:Int))=2*(i:Int):=by rw [F0];omega
  have w2:IntKind.i64.wrap (2*(i:Int)+1)=(j1:Int):=by rw [F0];omega
  have s:Eq (j1=2*i+1):=a7;by_cases aJ:n≤j1
  · have aj:(n:Int)≤(j1:Int):=by omega
    clear a7;go_wp2;go_ret;exact ⟨⟨_,rfl⟩,⟨X,H,HS.o,HP.o,HQ.o,HK.o,Mg.down_done HD.o (fun d _ hd hp=>by have:=s.o;omega)⟩,HG.o⟩
  · have aj:¬(n:Int)≤(j1:Int):=by omega
    have aI:¬(j1:Int)<0:=by omega
    obtain ⟨u,hu⟩:∃u,H[i]?=some u:=⟨_,j' (by omega)⟩;obtain ⟨x,hx⟩:∃x,X[i]?=some x:=⟨_,j' (by omega)⟩;obtain ⟨v1,hv1⟩:∃v,H[j1]?=some v:=⟨_,j' (by omega)⟩;obtain ⟨y1,ak⟩:∃y,X[j1]?=some y:=⟨_,j' (by omega)⟩;obtain ⟨j2,al⟩:=aG (j1+1);have w3:IntKind.i64.wrap ((j1:Int)+1)=(j2:Int):=by rw [F0];omega
    have B:Eq (j2=j1+1):=al;have m:Eq (H[i]?=some u):=hu;have E:Eq (X[i]?=some x):=hx;have Y:Eq (H[j1]?=some v1):=hv1;have aa:Eq (X[j1]?=some y1):=ak;by_cases h2:j2<n
    · have aA:(j2:Int)<(n:Int):=by omega
      obtain ⟨v2,hv2⟩:∃v,H[j2]?=some v:=⟨_,j' (by omega)⟩;obtain ⟨y2,ap⟩:∃y,X[j2]?=some y:=⟨_,j' (by omega)⟩;have a9:Eq (H[j2]?=some v2):=hv2;have av:Eq (X[j2]?=some y2):=ap;have hm:=qd BH g N c wr HS.o.box;have CL:=HS.o.less hv2 hv1 (F.o _ _ h2 hv2) (F.o _ _ (by omega) hv1);clear hu hx hv1 ak hv2 ap a7 al;go_wp2_with fail
      refine CL.mono ?_;rintro e w4 ⟨rfl,W⟩;have T:Eq (cY w4 base BH g N c X H):=HS.o.below W;have ab:Eq (w.grownBy w4 (some g)):=HG.o.trans ⟨W.os,W.tape,W.output,W.size,fun k hk _=>W.block k hk⟩;clear HS HG W hm CL;cases hl2:Mg.lessS aW v2 v1 with
      | true =>
       obtain ⟨v,a4⟩:=aG v2;obtain ⟨y,a2⟩:=aG y2;subst a4;subst a2;have J:Eq (H[j2]?=some v):=a9.o;have C:Eq (X[j2]?=some y):=av.o;have D:Eq (∀d,0<d→d<n→(d - 1) / 2=i→∀z,H[d]?=some z→Mg.lessS aW z v=false):=fun d d0 hd hp z hz=>by
        have e1:=s.o;have e2:=B.o;by_cases ai:d=j2
        · subst ai;rw [a9.o] at hz;cases hz;exact Mg.lessS_irr dW _
        · have:d=j1:=by omega
          subst this;rw [Y.o] at hz;cases hz;exact (Mg.lessS_ord dW).asym _ _ hl2
       clear a9 av;have hm:=qd BH g N c w4 T.o.box;have U:i<n:=by have:=s.o;omega
       have Q:j2<n:=by have:=B.o;omega
       have CL:=T.o.less J.o m.o (F.o _ _ Q J.o) (F.o _ _ U m.o);go_wp2_with fail
       refine CL.mono ?_;rintro e Z ⟨rfl,r⟩;have A:Eq (cY Z base BH g N c X H):=T.o.below r;have I:Eq (w.grownBy Z (some g)):=ab.o.trans ⟨r.os,r.tape,r.output,r.size,fun k hk _=>r.block k hk⟩;clear T ab r hm CL;cases hl:Mg.lessS aW v u with
       | false =>
        go_wp2;go_ret;exact ⟨⟨_,rfl⟩,⟨X,H,A.o,HP.o,HQ.o,HK.o,Mg.down_done HD.o (fun d d0 hd hp p q O hq=>by rw [m.o] at O;cases O;exact (Mg.lessS_ord dW).tran _ _ _ (D.o d d0 hd hp q hq) hl)⟩,I.o⟩
       | true =>
        have hm:=p9 BH g N c Z A.o.box;have CW:=iS base g N c i j2 X x y Z A.o.own E.o C.o;go_wp2_with fail
        refine CW.mono ?_;rintro e w6 ⟨rfl,R,K⟩;have a1:Eq (cY w6 base BH g N c (Mg.sw X i j2 x y) (Mg.sw H i j2 u v)):=A.o.swap E.o C.o m.o J.o K R;have a5:Eq (w.grownBy w6 (some g)):=I.o.trans K;clear A I R K hm CW;go_wp2;go_roundw
        case rel=>exact ⟨j2,_,_,rfl,by omega,a1.o,(Mg.sw_perm m.o J.o).trans HP.o,(Mg.sw_perm E.o C.o).trans HQ.o,fun k hk=>by rw [Mg.sw_get E.o C.o,Mg.sw_get m.o J.o,if_neg (by omega),if_neg (by have:=s.o;omega),if_neg (by omega),if_neg (by have:=s.o;omega)];exact HK.o k hk,⟨Mg.down_step (Mg.lessS_ord dW) HD.o (by have:=s.o;have:=B.o;omega) (by have:=s.o;have:=B.o;omega) (by omega) m.o J.o hl D.o,F.o.swap m.o J.o U Q⟩,a5.o⟩
        case measure=>have:=s.o;have:=B.o;simp [intOf] <;> omega
      | false =>
       obtain ⟨v,a4⟩:=aG v1;obtain ⟨y,a2⟩:=aG y1;subst a4;subst a2;have J:Eq (H[j1]?=some v):=Y.o;have C:Eq (X[j1]?=some y):=aa.o;have D:Eq (∀d,0<d→d<n→(d - 1) / 2=i→∀z,H[d]?=some z→Mg.lessS aW z v=false):=fun d d0 hd hp z hz=>by
        have e1:=s.o;have e2:=B.o;by_cases ai:d=j2
        · subst ai;rw [a9.o] at hz;cases hz;exact hl2
        · have:d=j1:=by omega
          subst this;rw [Y.o] at hz;cases hz;exact Mg.lessS_irr dW _
       clear Y aa;have hm:=qd BH g N c w4 T.o.box;have U:i<n:=by have:=s.o;omega
       have Q:j1<n:=by have:=B.o;omega
       have CL:=T.o.less J.o m.o (F.o _ _ Q J.o) (F.o _ _ U m.o);go_wp2_with fail
       refine CL.mono ?_;rintro e Z ⟨rfl,r⟩;have A:Eq (cY Z base BH g N c X H):=T.o.below r;have I:Eq (w.grownBy Z (some g)):=ab.o.trans ⟨r.os,r.tape,r.output,r.size,fun k hk _=>r.block k hk⟩;clear T ab r hm CL;cases hl:Mg.lessS aW v u with
       | false =>
        go_wp2;go_ret;exact ⟨⟨_,rfl⟩,⟨X,H,A.o,HP.o,HQ.o,HK.o,Mg.down_done HD.o (fun d d0 hd hp p q O hq=>by rw [m.o] at O;cases O;exact (Mg.lessS_ord dW).tran _ _ _ (D.o d d0 hd hp q hq) hl)⟩,I.o⟩
       | true =>
        have hm:=p9 BH g N c Z A.o.box;have CW:=iS base g N c i j1 X x y Z A.o.own E.o C.o;go_wp2_with fail
        refine CW.mono ?_;rintro e w6 ⟨rfl,R,K⟩;have a1:Eq (cY w6 base BH g N c (Mg.sw X i j1 x y) (Mg.sw H i j1 u v)):=A.o.swap E.o C.o m.o J.o K R;have a5:Eq (w.grownBy w6 (some g)):=I.o.trans K;clear A I R K hm CW;go_wp2;go_roundw
        case rel=>exact ⟨j1,_,_,rfl,by omega,a1.o,(Mg.sw_perm m.o J.o).trans HP.o,(Mg.sw_perm E.o C.o).trans HQ.o,fun k hk=>by rw [Mg.sw_get E.o C.o,Mg.sw_get m.o J.o,if_neg (by omega),if_neg (by have:=s.o;omega),if_neg (by omega),if_neg (by have:=s.o;omega)];exact HK.o k hk,⟨Mg.down_step (Mg.lessS_ord dW) HD.o (by have:=s.o;have:=B.o;omega) (by have:=s.o;have:=B.o;omega) (by omega) m.o J.o hl D.o,F.o.swap m.o J.o U Q⟩,a5.o⟩
        case measure=>have:=s.o;have:=B.o;simp [intOf] <;> omega
    · have aA:¬(j2:Int)<(n:Int):=by omega
      obtain ⟨v,a4⟩:=aG v1;obtain ⟨y,a2⟩:=aG y1;subst a4;subst a2;have J:Eq (H[j1]?=some v):=Y.o;have C:Eq (X[j1]?=some y):=aa.o;have D:Eq (∀d,0<d→d<n→(d - 1) / 2=i→∀z,H[d]?=some z→Mg.lessS aW z v=false):=fun d d0 hd hp z hz=>by
       have e1:=s.o;have e2:=B.o;have:d=j1:=by omega
       subst this;rw [Y.o] at hz;cases hz;exact Mg.lessS_irr dW _
      clear Y aa hu hx hv1 ak a7 al;have hm:=qd BH g N c wr HS.o.box;have U:i<n:=by have:=s.o;omega
      have Q:j1<n:=by have:=B.o;omega
      have CL:=HS.o.less J.o m.o (F.o _ _ Q J.o) (F.o _ _ U m.o);go_wp2_with fail
      refine CL.mono ?_;rintro e Z ⟨rfl,r⟩;have A:Eq (cY Z base BH g N c X H):=HS.o.below r;have I:Eq (w.grownBy Z (some g)):=HG.o.trans ⟨r.os,r.tape,r.output,r.size,fun k hk _=>r.block k hk⟩;clear HS HG r hm CL;cases hl:Mg.lessS aW v u with
      | false =>
       go_wp2;go_ret;exact ⟨⟨_,rfl⟩,⟨X,H,A.o,HP.o,HQ.o,HK.o,Mg.down_done HD.o (fun d d0 hd hp p q O hq=>by rw [m.o] at O;cases O;exact (Mg.lessS_ord dW).tran _ _ _ (D.o d d0 hd hp q hq) hl)⟩,I.o⟩
      | true =>
       have hm:=p9 BH g N c Z A.o.box;have CW:=iS base g N c i j1 X x y Z A.o.own E.o C.o;go_wp2_with fail
       refine CW.mono ?_;rintro e w6 ⟨rfl,R,K⟩;have a1:Eq (cY w6 base BH g N c (Mg.sw X i j1 x y) (Mg.sw H i j1 u v)):=A.o.swap E.o C.o m.o J.o K R;have a5:Eq (w.grownBy w6 (some g)):=I.o.trans K;clear A I R K hm CW;go_wp2;go_roundw
       case rel=>exact ⟨j1,_,_,rfl,by omega,a1.o,(Mg.sw_perm m.o J.o).trans HP.o,(Mg.sw_perm E.o C.o).trans HQ.o,fun k hk=>by rw [Mg.sw_get E.o C.o,Mg.sw_get m.o J.o,if_neg (by omega),if_neg (by have:=s.o;omega),if_neg (by omega),if_neg (by have:=s.o;omega)];exact HK.o k hk,⟨Mg.down_step (Mg.lessS_ord dW) HD.o (by have:=s.o;have:=B.o;omega) (by have:=s.o;have:=B.o;omega) (by omega) m.o J.o hl D.o,F.o.swap m.o J.o U Q⟩,a5.o⟩
       case measure=>have:=s.o;have:=B.o;simp [intOf] <;> omega
theorem DC (base BH g n c:Nat) (E:List cW) (m:List (List ae × Nat)) (w:World) (hn:n≤1048576) (r:0<n) (hS:cY w base BH g n c E m) (hD:Mg.DownI (Mg.lessS aW) n m 0) (d:∀h ∈ m,h.1≠[]) :
 Calls Tryz.prog 154 #[.iface 162 (.pointer (pT BH)),iT 0] w fun e w'=>e=.returned (.tuple #[])∧(∃X H,cY w' base BH g n c X H∧H.Perm m∧X.Perm E∧Mg.HeapTo (Mg.lessS aW) n H)∧w.grownBy w' (some g):=by
 have hm:=Cd BH g n c w hS.box;have Y:=qg (pT g) n c w;have CD:=vg base BH g n n c 0 E m w hn (Fv _) r hS hD (iJ.of d);have R:=bT d;clear hS hD d;go_enter Tryz.func154,Tryz.ntmps154
 go_wp2_with fail
 refine Y.mono ?_;rintro e w1 ⟨rfl,rfl⟩;go_wp2_with fail
 refine CD.mono ?_;rintro e J ⟨⟨b,rfl⟩,⟨X,H,y,hP,hQ,_,hH⟩,A⟩;have x:Eq (cY J base BH g n c X H):=y;have W:Eq (H.Perm m):=hP;have Z:Eq (X.Perm E):=hQ;have HH:Eq (Mg.HeapTo (Mg.lessS aW) n H):=hH;have F:Eq (w1.grownBy J (some g)):=A;clear y hP hQ hH A Y CD hm;cases b with
 | true =>
  go_wp2;go_end0;exact ⟨rfl,⟨X,H,x.o,W.o,Z.o,HH.o⟩,F.o⟩
 | false =>
  have CU:=Ce base BH g n c 0 X H J hn r x.o (Mg.down_up HH.o) (fun h hh=>R.o h (W.o.mem_iff.1 hh));go_wp2_with fail
  refine CU.mono ?_;rintro e w3 ⟨rfl,⟨K,I,u,B,C,s⟩,D⟩;have N:Eq (cY w3 base BH g n c K I):=u;have Q:Eq (I.Perm m):=B.trans W.o;have O:Eq (K.Perm E):=C.trans Z.o;have U:Eq (Mg.HeapTo (Mg.lessS aW) n I):=s;have T:Eq (w1.grownBy w3 (some g)):=F.o.trans D;clear u B C s D CU;go_wp2;go_end0;exact ⟨rfl,⟨K,I,N.o,Q.o,O.o,U.o⟩,T.o⟩
theorem DB (base BH g n c k:Nat) (r:List cW) (m:List (List ae × Nat)) (u:List ae × Nat) (w:World) (hk:n=k+1) (hn:n≤1048576) (hB:base≤BH) (T:w.frozen? ⟨BH,0,none⟩=false) (hS:cY w base BH g n c r m) (hH:Mg.HeapTo (Mg.lessS aW) n m) (I:m[0]?=some u) (E:∀(j:Nat) h,0<j→m[j]?=some h→h.1≠[]) :
 Calls Tryz.prog 153 #[.iface 162 (.pointer (pT BH))] w fun e w'=>(∃v,e=.returned v)∧(∃X H,cY w' base BH g k c X H∧(u :: H).Perm m∧Mg.HeapTo (Mg.lessS aW) k H∧∀x ∈ X,x ∈ r)∧Below base w w'∧KeepsOthers w w'∧w'.frozen? ⟨BH,0,none⟩=false∧∃wm,w.grownBy wm (some g)∧wm.grownBy w' (some BH):=by
 have hl:=hS.len;have aG:=hS.own.len;have ah:=hS.own.lt.1;have hsz:=hS.own.lt.2;have zb:=Fu _ _ hS.box;simp only at zb;have ai:=hS.ne;have ak:Eq (∃cc,w.heap[g]?=some (.cells cc 164 (0,0))):=hS.own.cells;obtain ⟨v,hv⟩:∃v,m[k]?=some v:=⟨_,j' (by omega)⟩;obtain ⟨x,hx⟩:∃x,r[0]?=some x:=⟨_,j' (by omega)⟩;obtain ⟨y,hy⟩:∃y,r[k]?=some y:=⟨_,j' (by omega)⟩;have hm:=Cd BH g n c w hS.box;have ad:=p9 BH g n c w hS.box;have CN:=qg (pT g) n c w;have CW:Calls Tryz.prog 308 #[sL g n c,iT 0,iT k] w fun e w'=>e=.returned (.tuple #[])∧fT w' base g n c ((r.set 0 y).set k x)∧w.grownBy w' (some g):=iS base g n c 0 k r x y w hS.own hx hy
 have wk:IntKind.i64.wrap ((n:Int) - 1)=(k:Int):=by rw [F0];omega
 have HS:=bT hS;have a2:=bT hH;have al:=bT T;have Q:=bT hk;have ag:Eq (iJ k (Mg.sw m 0 k u v)):=fun j s hj hs=>by
  rw [Mg.sw_get I hv,if_neg (by omega)] at hs;by_cases h2:j=0
  · rw [if_pos h2] at hs;cases hs;exact E k _ (by omega) hv
  · rw [if_neg h2] at hs;exact E j s (by omega) hs
 have aw:Eq ((Mg.sw r 0 k x y).Perm r):=Mg.sw_perm hx hy;clear hS hH T hk E;go_enter Tryz.func153,Tryz.ntmps153
 go_wp2_with fail
 refine CN.mono ?_;rintro e C ⟨rfl,rfl⟩;go_wp2_with fail
 refine CW.mono ?_;rintro e w2 ⟨rfl,O,F⟩;have a3:Eq (cY w2 base BH g n c (Mg.sw r 0 k x y) (Mg.sw m 0 k u v)):=HS.o.swap hx hy I hv F O;have Y:Mg.DownI (Mg.lessS aW) k (Mg.sw m 0 k u v) 0:=Mg.down_start (a2.o.fewer (by have:=Q.o;omega)) (fun j j0 hj=>by rw [Mg.sw_get I hv,if_neg (by omega),if_neg (by omega)]);have CD:=vg base BH g n k c 0 _ _ w2 hn (by have:=Q.o;omega) (by have:=Q.o;omega) a3.o Y ag.o;have av:Eq (C.grownBy w2 (some g)):=F;have aq:Eq ((Mg.sw m 0 k u v).Perm m):=Mg.sw_perm I hv;have aa:Eq ((Mg.sw m 0 k u v)[k]?=some u):=by show _=_;rw [Mg.sw_get I hv,if_pos rfl]
 clear O F Y CW CN hm ad HS a2 I hv hx hy a3;go_wp2_with fail
 refine CD.mono ?_;rintro e A ⟨⟨b,rfl⟩,⟨X,H,B,U,W,Z,J⟩,a6⟩;have d:C.grownBy A (some g):=av.o.trans a6;have ab:Eq (KeepsOthers C A):=KeepsOthers.of_grownBy d (fun j o e ho=>by cases e;obtain ⟨cc,hc⟩:=ak.o;rw [hc] at ho;cases ho;rfl);have a5:Eq (C.grownBy A (some g)):=d;have a8:Eq (Below base C A):=(Below.refl base C).grown d (by omega) (fun j e=>by cases e;exact ah);have R:A.frozen? ⟨BH,0,none⟩=false:=by rw [bo d (x:=⟨BH,0,none⟩) zb (fun e=>ai (Fx e))];exact al.o
 have hm:=EP BH A;have CP:=Cg base BH g n c k X H A Q.o hn hB R B;have aH:Eq (H.length=n):=B.len;have an:Eq ((u :: H.take k).Perm m):=by
  have hlen:=B.len;have a7:H[k]?=some u:=by rw [(Z k (Fv _)).2];exact aa.o
  have ar:k<H.length:=(E'.1 a7).1;have hd:H=H.take k++[u]:=by
   conv=>lhs;rw [← FX k H,Gj ar,GD (by have:=Q.o;omega)]
   rw [(E'.1 a7).2]
  have hp:(u :: H.take k).Perm H:=by
   conv=>rhs;rw [hd]
   exact (List.perm_append_singleton u (H.take k)).symm
  exact hp.trans (U.trans aq.o)
 have af:Eq (∀z ∈ X.take k,z ∈ r):=fun z hz=>aw.o.mem_iff.1 (W.mem_iff.1 (F9 hz))
 have ap:Eq (Mg.HeapTo (Mg.lessS aW) k (H.take k)):=J.same (fun j hj=>by rw [Ge hj]);clear B U W Z J a6 d CD;go_wp2_with fail
 refine CP.mono ?_;rintro e w4 ⟨⟨v4,rfl⟩,a0,K,N,hf4,D⟩;have a4:Eq (A.grownBy w4 (some BH)):=D;have am:Eq (cY w4 base BH g k c (X.take k) (H.take k)):=a0;have aj:Eq (Below base C w4):=a8.o.trans K;have au:Eq (KeepsOthers C w4):=ab.o.trans N;have ac:Eq (w4.frozen? ⟨BH,0,none⟩=false):=hf4;clear a0 K CP hm a8 N hf4 D;go_wp2;go_ret;exact ⟨⟨_,rfl⟩,⟨_,_,am.o,an.o,ap.o,af.o⟩,aj.o,au.o,ac.o,A,a5.o,a4.o⟩
abbrev nM (n:Nat):Type:={ p:Nat × Nat // p.1<p.2∧p.2≤n }
def oF (L:List ae) {n:Nat} (p:nM n):List ae:=(L.drop p.1.1).take (p.1.2 - p.1.1)
def DV (L:List ae) {n:Nat} (ys:List (nM n)):Prop:=(ys.map (oF L)).flatten=L∧∀l ∈ ys.map (oF L),l≠[]∧Mg.Asc aW l
theorem DN (L:List ae) (f:Nat):Mg.Asc aW ((L.drop f).take (f+1 - f)):=by
 rw [GI];unfold Mg.Asc;rw [F2];intro i j hi e d;have h1:j<1:=u' e (List.length_take_le _ _);omega
theorem CV {x y:ae} (hf:f<t) (hx:L[t - 1]?=some x) (hy:L[t]?=some y) (hA:Mg.Asc aW ((L.drop f).take (t - f))) (h:aW y x=false):Mg.Asc aW ((L.drop f).take (t+1 - f)):=by
 obtain ⟨o,u⟩:=E'.1 hx;obtain ⟨r,s⟩:=E'.1 hy;unfold Mg.Asc at hA ⊢;rw [F2] at hA ⊢;intro i j hi A d;have m:=A;have e:=hi;rw [FC,FN] at m e;rw [Gn,Gr,Gn,Gr];by_cases h1:j<t - f
 · have:=hA i j (by rw [FC,FN];omega) (by rw [FC,FN];omega) d;rw [Gn,Gr,Gn,Gr] at this;exact this
 · have e1:f+j=t:=by omega
   have e2:L[f+j]'(by omega)=y:=by
    have:=j' (l:=L) (i:=f+j) (by omega);exact Fx (this.symm.trans (by rw [e1];exact hy))
   rw [e2];by_cases h2:i=t - 1 - f
   · have e3:f+i=t - 1:=by omega
     have e4:L[f+i]'(by omega)=x:=by
      have:=j' (l:=L) (i:=f+i) (by omega);exact Fx (this.symm.trans (by rw [e3];exact hx))
     rw [e4];exact h
   · have:=hA i (t - 1 - f) (by rw [FC,FN];omega) (by rw [FC,FN];omega) (by omega);rw [Gn,Gr,Gn,Gr] at this;have e4:L[f+(t - 1 - f)]'(by omega)=x:=by
      have h5:=j' (l:=L) (i:=f+(t - 1 - f)) (by omega);exact Fx (h5.symm.trans (by rw [show f+(t - 1 - f)=t - 1 by omega];exact hx))
     rw [e4] at this;exact ji h this
def AM (L:List ae) {n:Nat} (f:Nat) (ys:List (nM n)):Prop:=(ys.map (oF L)).flatten=L.take f∧∀l ∈ ys.map (oF L),l≠[]∧Mg.Asc aW l
theorem AM.zero (L:List ae) {n:Nat}:AM L 0 ([]:List (nM n)):=⟨rfl,fun l hl=>by cases hl⟩
theorem AM.step {o:List (nM n)} (h:AM L f o) (hL:L.length=n) (d:f<t) (m:t≤n) (hA:Mg.Asc aW ((L.drop f).take (t - f))):AM L t (o++[⟨(f,t),d,m⟩]):=by
 refine ⟨?_,fun l hl=>?_⟩
 · rw [GM,GT,h.1];simp only [Gx,GO,GA,List.flatten_nil,GR];show L.take f++(L.drop f).take (t - f)=_
   rw [show L.take t=L.take (f+(t - f)) by rw [show f+(t - f)=t by omega],List.take_add]
 · rw [GM] at hl;rcases FI.1 hl with h1 | h1
   · exact h.2 l h1
   · simp only [Gx,GO,FL] at h1;subst h1;refine ⟨fun e=>?_,hA⟩;have:((L.drop f).take (t - f)).length=0:=by
      have r:(L.drop f).take (t - f)=[]:=e;rw [r];rfl
     rw [FC,FN] at this;omega
theorem AM.done {ys:List (nM n)} (h:AM L n ys) (hL:L.length=n):DV L ys:=⟨by rw [h.1,FH (by omega)],h.2⟩
end Go.Proofs.YtpobkmjicbobdaaGreat
