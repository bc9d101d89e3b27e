/- Walks. -/
import Derived.Test.YtpobkmjicbobdaaGreatBn44
import Derived.Test.YtpobkmjicbobdaaGreatBn45
namespace Go.Proofs.YtpobkmjicbobdaaGreat
set_option maxRecDepth 100000
set_option maxHeartbeats 40000000
open Go.RowKit
variable {BH base g i j k n:Nat} {a b w w':World} {row:Option Nat} {v:Value}
theorem oZ (BH g n c : Nat) (w : World) (hb : w.cell? ⟨BH, 0, none⟩ = some (.slice (some ⟨g, 0, none⟩) n c)) : (method 400 162 (.pointer (some ⟨BH, 0, none⟩)) "Less").run Tryz.prog w = .ok (307, .slice (some ⟨g, 0, none⟩) n c) w := by
 obtain ⟨i,hi⟩:∃i,Tryz.prog.info? 162=some i:=Option.isSome_iff_exists.1 (by kernel_rfl)
 have hm : ((Tryz.prog.info? 162).bind fun i => i.methods.find? (·.name == "Less")).map (fun m => (m.func, m.path)) = some (some (307, false), #[]) := by kernel_rfl
 rw [hi] at hm
 simp only [Option.bind_some] at hm
 obtain ⟨m,h1,h2⟩:=Option.map_eq_some_iff.1 hm
 simp only [Prod.mk.injEq] at h2
 have hu:Tryz.prog.underlying 162=some (.pointer 157):=by kernel_rfl
 have hnc : ∀ (t : TypeId) (a : Addr) (s : String), Builtin.ssaWrapNilChk_ #[t] t #[.pointer (some a), strVal "", strVal s] = pure (.pointer (some a)) := fun _ _ _ => rfl
 have hag:∀w,(isAgg 157).run Tryz.prog w=.ok false w:=fun _=>by kernel_rfl
 unfold method
 simp [typeInfo,hi,h1,h2.1,h2.2,follow,receiverAt,Place.get,hnc,loadVar,hag,hb,go_sem,run_underlying hu]
theorem oY (BH g n c : Nat) (w : World) (hb : w.cell? ⟨BH, 0, none⟩ = some (.slice (some ⟨g, 0, none⟩) n c)) : (method 400 162 (.pointer (some ⟨BH, 0, none⟩)) "Swap").run Tryz.prog w = .ok (308, .slice (some ⟨g, 0, none⟩) n c) w := by
 obtain ⟨i,hi⟩:∃i,Tryz.prog.info? 162=some i:=Option.isSome_iff_exists.1 (by kernel_rfl)
 have hm : ((Tryz.prog.info? 162).bind fun i => i.methods.find? (·.name == "Swap")).map (fun m => (m.func, m.path)) = some (some (308, false), #[]) := by kernel_rfl
 rw [hi] at hm
 simp only [Option.bind_some] at hm
 obtain ⟨m,h1,h2⟩:=Option.map_eq_some_iff.1 hm
 simp only [Prod.mk.injEq] at h2
 have hu:Tryz.prog.underlying 162=some (.pointer 157):=by kernel_rfl
 have hnc : ∀ (t : TypeId) (a : Addr) (s : String), Builtin.ssaWrapNilChk_ #[t] t #[.pointer (some a), strVal "", strVal s] = pure (.pointer (some a)) := fun _ _ _ => rfl
 have hag:∀w,(isAgg 157).run Tryz.prog w=.ok false w:=fun _=>by kernel_rfl
 unfold method
 simp [typeInfo,hi,h1,h2.1,h2.2,follow,receiverAt,Place.get,hnc,loadVar,hag,hb,go_sem,run_underlying hu]
theorem zu (BH g n c : Nat) (w : World) (hb : w.cell? ⟨BH, 0, none⟩ = some (.slice (some ⟨g, 0, none⟩) n c)) : (method 400 162 (.pointer (some ⟨BH, 0, none⟩)) "Len").run Tryz.prog w = .ok (306, .slice (some ⟨g, 0, none⟩) n c) w := by
 obtain ⟨i,hi⟩:∃i,Tryz.prog.info? 162=some i:=Option.isSome_iff_exists.1 (by kernel_rfl)
 have hm : ((Tryz.prog.info? 162).bind fun i => i.methods.find? (·.name == "Len")).map (fun m => (m.func, m.path)) = some (some (306, false), #[]) := by kernel_rfl
 rw [hi] at hm
 simp only [Option.bind_some] at hm
 obtain ⟨m,h1,h2⟩:=Option.map_eq_some_iff.1 hm
 simp only [Prod.mk.injEq] at h2
 have hu:Tryz.prog.underlying 162=some (.pointer 157):=by kernel_rfl
 have hnc : ∀ (t : TypeId) (a : Addr) (s : String), Builtin.ssaWrapNilChk_ #[t] t #[.pointer (some a), strVal "", strVal s] = pure (.pointer (some a)) := fun _ _ _ => rfl
 have hag:∀w,(isAgg 157).run Tryz.prog w=.ok false w:=fun _=>by kernel_rfl
 unfold method
 simp [typeInfo,hi,h1,h2.1,h2.2,follow,receiverAt,Place.get,hnc,loadVar,hag,hb,go_sem,run_underlying hu]
theorem Ba (BH : Nat) (w : World) : (method 400 162 (.pointer (some ⟨BH, 0, none⟩)) "Push").run Tryz.prog w = .ok (310, .pointer (some ⟨BH, 0, none⟩)) w := by kernel_rfl
theorem Bw (BH : Nat) (w : World) : (method 400 162 (.pointer (some ⟨BH, 0, none⟩)) "Pop").run Tryz.prog w = .ok (309, .pointer (some ⟨BH, 0, none⟩)) w := by kernel_rfl
structure cT (w:World) (base BH g n c:Nat) (X:List cQ) (H:List (List ac × Nat)):Prop where
 box:w.cell? ⟨BH,0,none⟩=some (sL g n c)
 own:fj w base g n c X
 len:H.length=n
 rest:∀(k:Nat) x h,X[k]?=some x→H[k]?=some h→∃l,h=(l,x.2.2.2.2)∧aj w (some ⟨x.1,x.2.1,none⟩) x.2.2.1 x.2.2.2.1 l∧x.1<w.heap.size∧x.1≠g∧x.1≠BH
 ne:BH≠g
theorem cT.grown {c:Nat} {X X':List cQ} {H H':List (List ac × Nat)} (h:cT w base BH g n c X H) (hg:w.grownBy w' (some g)) (hO:fj w' base g n c X') (hl:H'.length=n) (hs:∀(k:Nat) x s,X'[k]?=some x→H'[k]?=some s→∃k':Nat,X[k']?=some x∧H[k']?=some s):cT w' base BH g n c X' H':=by
 have hbl:=World.block_lt_of_cell? _ _ h.box;refine ⟨?_,hO,hl,fun k x s hx hh=>?_,h.ne⟩
 · rw [World.cell?_of_block (a:=⟨BH,0,none⟩) (hg.block BH hbl (fun e=>h.ne (Option.some.inj e)))];exact h.box
 · obtain ⟨k',h1,h2⟩:=hs k x s hx hh;obtain ⟨l,r1,r2,r3,r4⟩:=h.rest k' x s h1 h2;refine ⟨l,r1,r2.grownB hg (fun y ey _=>?_),Nat.lt_of_lt_of_le r3 hg.size,r4⟩;cases ey;exact fun e=>r4.1 (Option.some.inj e)
theorem cT.below {c:Nat} {X:List cQ} {H:List (List ac × Nat)} (h:cT w base BH g n c X H) (hb:Bl w w'):cT w' base BH g n c X H:=by
 exact h.grown ⟨hb.os,hb.tape,hb.output,hb.size,fun k hk _=>hb.block k hk⟩ (h.own.below hb) h.len (fun k x s hx hh=>⟨k,hx,hh⟩)
theorem cT.swap {c:Nat} {X:List cQ} {H:List (List ac × Nat)} {x y:cQ} {u v:List ac × Nat} (h:cT w base BH g n c X H) (hx:X[i]?=some x) (hy:X[j]?=some y) (hu:H[i]?=some u) (hv:H[j]?=some v) (hg:w.grownBy w' (some g)) (hO:fj w' base g n c ((X.set i y).set j x)):cT w' base BH g n c (Mg.sw X i j x y) (Mg.sw H i j u v):=by
 refine h.grown hg hO (by rw [Mg.sw_len];exact h.len) (fun k z s hz hs=>?_);rw [Mg.sw_get hx hy] at hz;rw [Mg.sw_get hu hv] at hs;by_cases h1:k=j
 · rw [if_pos h1] at hz hs;exact ⟨i,by rw [hx];exact hz,by rw [hu];exact hs⟩
 · rw [if_neg h1] at hz hs;by_cases h2:k=i
   · rw [if_pos h2] at hz hs;exact ⟨j,by rw [hy];exact hz,by rw [hv];exact hs⟩
   · rw [if_neg h2] at hz hs;exact ⟨k,hz,hs⟩
def gX (n:Nat) (H:List (List ac × Nat)):Prop:=∀(j:Nat) h,j<n→H[j]?=some h→h.1≠[]
theorem gX.of {H:List (List ac × Nat)} (h:∀s ∈ H,s.1≠[]):gX n H:=fun _ s _ hs=>h s (List.mem_of_getElem? hs)
theorem gX.swap {H:List (List ac × Nat)} {u v:List ac × Nat} (h:gX n H) (hu:H[i]?=some u) (hv:H[j]?=some v) (hi:i<n) (hj:j<n):gX n (Mg.sw H i j u v):=fun k s hk hs=>by
 rw [Mg.sw_get hu hv] at hs
 by_cases h1:k=j
 · rw [if_pos h1] at hs;cases hs;exact h i _ hi hu
 · rw [if_neg h1] at hs
   by_cases h2:k=i
   · rw [if_pos h2] at hs;cases hs;exact h j _ hj hv
   · rw [if_neg h2] at hs;exact h k s hk hs
theorem cT.less {c:Nat} {X:List cQ} {H:List (List ac × Nat)} {u v:List ac × Nat} (h:cT w base BH g n c X H) (hu:H[i]?=some u) (hv:H[j]?=some v) (hu0:u.1≠[]) (hv0:v.1≠[]) :
 Calls Tryz.prog 307 #[sL g n c,iT i,iT j] w fun e w'=>e=.returned (.bool (Mg.lessS aP u v))∧Bl w w':=by
 have hi:=(List.getElem?_eq_some_iff.1 hu).1;have hj:=(List.getElem?_eq_some_iff.1 hv).1;have hl:=h.len;have hX:=h.own.len;obtain ⟨⟨b1,o1,n1,c1,k1⟩,hx⟩:∃x,X[i]?=some x:=⟨_,List.getElem?_eq_getElem (by omega)⟩;obtain ⟨⟨b2,o2,n2,c2,k2⟩,hy⟩:∃y,X[j]?=some y:=⟨_,List.getElem?_eq_getElem (by omega)⟩;obtain ⟨lu,rfl,r2,r3,_⟩:=h.rest i _ u hx hu;obtain ⟨lv,rfl,p2,p3,_⟩:=h.rest j _ v hy hv;obtain ⟨⟨s,q,d,t,m⟩,l,rfl⟩:=List.exists_cons_of_ne_nil hu0;obtain ⟨⟨s',q',d',t',m'⟩,l',rfl⟩:=List.exists_cons_of_ne_nil hv0;simp only at r2 r3 p2 p3;obtain ⟨x0,x1⟩:=h.own.at2 hx;obtain ⟨y0,y1⟩:=h.own.at2 hy;have hn1:0<n1:=by have:=r2.length;simp at this;omega
 have hn2:0<n2:=by have:=p2.length;simp at this;omega
 obtain ⟨e0,e1,e2,e3,e4⟩:=r2.cells _ rfl 0 (by simp);obtain ⟨f0,f1,f2,f3,f4⟩:=p2.cells _ rfl 0 (by simp);simp only [Nat.zero_mul,Nat.add_zero,List.getElem_cons_zero] at e0 e1 e2 e3 e4 f0 f1 f2 f3 f4;have hw:=xy g n c i j b1 o1 n1 c1 b2 o2 n2 c2 k1 k2 s t s' t' q d m q' d' m' w (by omega) (by omega) hn1 hn2 x0 x1 y0 y1 e0 e1 e2 e3 e4 f0 f1 f2 f3 f4;have hd:=xA (s,q,d,t,m) (s',q',d',t',m') l l' k1 k2;simp only at hd;rw [hd] at hw;exact hw
theorem pf:∀(X:List cQ) (k:Nat),eS (X.take k)=(eS X).take (k*2)
 | [],k=>by simp [eS]
 | x :: X,0=>by simp [eS]
 | x :: X,k+1=>by
  rw [List.take_succ_cons,gu,gu,pf X k,show (k+1)*2=k*2+1+1 by omega,List.take_succ_cons,List.take_succ_cons]
theorem fj.take {c:Nat} {X:List cQ} (h:fj w base g n c X) (hk:k≤n):fj w base g k c (X.take k):=by
 have hl:=h.len;obtain ⟨h1,h2⟩:=h.owns;rcases h2 with ⟨hv,_⟩ | ⟨g',cap,cur,hv,hb,hg,hnc,hcm,hs,ht⟩
 · cases hv
 · cases hv;refine ⟨⟨by rw [xH,List.length_take,Nat.min_eq_left (by omega)],.inr ⟨g,c,cur,rfl,hb,hg,by omega,hcm,hs,?_⟩⟩,by rw [List.length_take];omega⟩;rw [pf,← ht,List.take_take,Nat.min_eq_left (by omega)]
theorem cT.pop {c:Nat} {X:List cQ} {H:List (List ac × Nat)} {o:Obj} (h:cT w base BH g n c X H) (hk:n=k+1):cT ((w.setCell ⟨BH,0,none⟩ (sL g k c)).alloc o) base BH g k c (X.take k) (H.take k):=by
 obtain ⟨w1,hw1⟩:=aS (w.setCell ⟨BH,0,none⟩ (sL g k c));have hg:w.grownBy w1 (some BH):=by rw [hw1];exact e9 w BH 0 _
 have hb1:w1.cell? ⟨BH,0,none⟩=some (sL g k c):=by rw [hw1];exact World.cell?_setCell_same' _ _ _ (by rw [h.box];rfl)
 rw [← hw1];have h1:cT w1 base BH g k c (X.take k) (H.take k):=by
  refine ⟨hb1,(h.own.take (by omega)).grown hg (fun e=>h.ne (Option.some.inj e).symm),by rw [List.length_take,h.len];omega,fun j x s hx hs=>?_,h.ne⟩;have hjx:=(List.getElem?_eq_some_iff.1 hx).1;rw [List.length_take] at hjx;rw [List.getElem?_take_of_lt (by omega)] at hx hs;obtain ⟨l,r1,r2,r3,r4,r5⟩:=h.rest j x s hx hs;refine ⟨l,r1,r2.grownB hg (fun y ey _=>?_),Nat.lt_of_lt_of_le r3 hg.size,r4,r5⟩;cases ey;exact fun e=>r5 (Option.some.inj e)
 exact h1.below bZ
theorem zA (base BH g n c k:Nat) (X:List cQ) (H:List (List ac × Nat)) (w:World) (hk:n=k+1) (hn:n≤1048576) (hB:base≤BH) (hfr:w.frozen? ⟨BH,0,none⟩=false) (hS:cT w base BH g n c X H) :
 Calls Tryz.prog 309 #[.pointer (pT BH)] w fun e w'=>(∃v,e=.returned v)∧cT w' base BH g k c (X.take k) (H.take k)∧Below base w w'∧KeepsOthers w w'∧w'.frozen? ⟨BH,0,none⟩=false∧w.grownBy w' (some BH):=by
 have hXL:=hS.own.len;obtain ⟨⟨xb,xo,xn,xc,xk⟩,hx⟩:∃x,X[k]?=some x:=⟨_,List.getElem?_eq_getElem (by omega)⟩;obtain ⟨x0,x1⟩:=hS.own.at2 hx;simp only at x0 x1;have hb:=hS.box;have zg:=hS.own.lt.2;have zb:=World.block_lt_of_cell? _ _ hb;simp only at zb;have HS:=b6 hS;have HFR:=b6 hfr;have wk:IntKind.i64.wrap ((n:Int) - 1)=(k:Int):=by rw [IntKind.wrap_i64];omega
 have hkI:(k:Int)<(n:Int):=by omega
 have hc:n≤c:=by
  rcases hS.own.owns.2 with ⟨hv,_⟩ | ⟨g',cap,cur,hv,_,_,hnc,_⟩
  · cases hv
  · cases hv;exact hnc
 have hcI:(k:Int)≤(c:Int):=by omega
 clear hS;go_enter Tryz.func309,Tryz.ntmps309
 go_wp2;go_ret;refine ⟨⟨_,rfl⟩,?_,?_,(KeepsOthers.setCell _ _ _).trans (KeepsOthers.alloc _ _),?_,(e9 _ _ _ _).trans (World.grownBy_alloc _ _ _)⟩
 · exact HS.out.pop hk
 · exact ((Below.refl base w).setCell (p:=⟨BH,0,none⟩) hB _).alloc (by have:=HS.out.own.lt;simp [World.setCell];omega) _
 · rw [World.frozen?_alloc_old _ _ _ (by show BH≠_;simp [World.setCell];omega),World.frozen?_setCell];exact HFR.out
structure iW (w:World) (base BH:Nat) (v:Value) (X:List cQ) (H:List (List ac × Nat)):Prop where
 box:Boxed w BH 157 v
 row:w.ownsRow base 164 2 v H.length (eS X)
 xl:X.length=H.length
 rest:∀(k:Nat) x h,X[k]?=some x→H[k]?=some h→∃e l,h=(e :: l,x.2.2.2.2)∧aj w (some ⟨x.1,x.2.1,none⟩) x.2.2.1 x.2.2.2.1 (e :: l)
 low:∀x ∈ X,x.1<base
 hB:base≤BH
theorem iW.empty (h:Boxed w BH 157 nZ) (hB:base≤BH):iW w base BH nZ [] [] :=
 ⟨h,⟨rfl,.inl ⟨rfl,rfl⟩⟩,rfl,(fun k x h hx=>by simp at hx),(fun x hx=>by cases hx),hB⟩
theorem iW.grown {X:List cQ} {H:List (List ac × Nat)} (h:iW w base BH v X H) (hg:w.grownBy w' row) (h1:some BH≠row) (h2:∀g,v.ownBlock=some g→some g≠row) (h3:∀r,row=some r→base≤r):iW w' base BH v X H:=by
 refine ⟨h.box.kept hg h1,h.row.kept hg ?_,h.xl,fun k x s hx hs=>?_,h.low,h.hB⟩
 · cases hv:v.ownBlock with
   | none=>exact .inl rfl
   | some g=>exact .inr (h2 g hv)
 · obtain ⟨e,l,r1,r2⟩:=h.rest k x s hx hs;refine ⟨e,l,r1,r2.grownB hg (fun y ey _=>?_)⟩;cases ey;intro e';have h4:=h3 _ e'.symm;have h5:=h.low x (List.mem_of_getElem? hx);exact absurd h4 (by simp only;omega)
theorem iW.below {X:List cQ} {H:List (List ac × Nat)} (h:iW w base BH v X H) (hb:Bl w w'):iW w' base BH v X H :=
 h.grown (row:=none) (dE hb) (by simp) (fun g _=>by simp) (fun r e=>by cases e)
theorem iW.cells {X:List cQ} {H:List (List ac × Nat)} (h:iW w base BH v X H) {g:Nat} (hg:v.ownBlock=some g):∃cc,w.heap[g]?=some (.cells cc 164 (0,0)):=by
 rcases h.row.2 with ⟨hv,_⟩ | ⟨g',cap,cur,hv,_,hc,_⟩
 · rw [hv] at hg;cases hg
 · rw [hv] at hg;cases hg;exact ⟨_,hc⟩
theorem iW.own {B:Nat} {X:List cQ} {H:List (List ac × Nat)} (h:iW w base BH v X H) (hB:base≤B) (hg:w.grownBy w' row) (hr:∀r,row=some r→B≤r∧∃o:Obj,w.heap[r]?=some o∧o.isCells=false):iW w' base BH v X H:=by
 refine h.grown hg (fun e=>?_) (fun g hg' e=>?_) (fun r e=>by have:=(hr r e).1;omega)
 · obtain ⟨_,o,ho,hc⟩:=hr _ e.symm;rw [show w.heap[BH]?=_ from h.box] at ho;cases ho;cases hc
 · obtain ⟨_,o,ho,hc⟩:=hr _ e.symm;obtain ⟨cc,hcc⟩:=h.cells hg';rw [hcc] at ho;cases ho;cases hc
theorem iW.hp {c:Nat} {X:List cQ} {H:List (List ac × Nat)} (h:iW w base BH (sL g n c) X H) (hn:H.length=n):cT w base BH g n c X H:=by
 have hxl:=h.xl;have hO:fj w base g n c X:=⟨by have:=h.row;rw [hn] at this;exact this,by omega⟩;refine ⟨h.box.cell,hO,hn,fun k x s hx hs=>?_,?_⟩
 · obtain ⟨e,l,r1,r2⟩:=h.rest k x s hx hs;have h1:=h.low x (List.mem_of_getElem? hx);have h2:=hO.lt;have h3:=h.hB;exact ⟨e :: l,r1,r2,by omega,by omega,by omega⟩
 · intro e;exact (h.box.not_row (by decide) h.row) (by rw [e];rfl)
theorem iW.live {X:List cQ} {H:List (List ac × Nat)} (h:iW w base BH v X H):∀s ∈ H,s.1≠[]:=fun s hs=>by
 obtain ⟨k,hk⟩:=List.getElem?_of_mem hs
 have hl:=(List.getElem?_eq_some_iff.1 hk).1
 obtain ⟨e,l,rfl,_⟩:=h.rest k _ s (List.getElem?_eq_getElem (by rw [h.xl];exact hl)) hk
 exact fun e=>by cases e
theorem iW.of {c:Nat} {X X':List cQ} {H H':List (List ac × Nat)} (h:iW w base BH v X H) (hS:cT w' base BH g n c X' H') (hx:X'.Perm X) (hv:∀s ∈ H',s.1≠[]) (hb:Boxed w' BH 157 (sL g n c)):iW w' base BH (sL g n c) X' H':=by
 refine ⟨hb,by rw [hS.len];exact hS.own.owns,by rw [hS.len];exact hS.own.len,fun k x s hx' hs=>?_,fun x hx'=>h.low x (hx.mem_iff.1 hx'),h.hB⟩;obtain ⟨l0,rfl,r2,_⟩:=hS.rest k x s hx' hs;obtain ⟨e,l,rfl⟩:=List.exists_cons_of_ne_nil (hv _ (List.mem_of_getElem? hs));exact ⟨e,l,rfl,r2⟩
def fQ (BH:Nat) (w w':World):Prop:=∀(B:Nat) (T:TypeId) (u:Value),Boxed w B T u→T≠164→B≠BH→Boxed w' B T u
theorem fQ.trans {c:World} (h:fQ BH a b) (k:fQ BH b c):fQ BH a c:=fun B T u hb hT hB=>k B T u (h B T u hb hT hB) hT hB
theorem fQ.below (h:Bl a b):fQ BH a b:=fun B T u hb _ _=>hb.kept (dE h) (by simp)
theorem fQ.grown (h:a.grownBy b (some g)) (hg:∃cc,a.heap[g]?=some (.cells cc 164 (0,0))):fQ BH a b:=fun B T u hb hT _=>hb.kept h (fun e=>by
 have e':=Option.some.inj e
 subst e'
 obtain ⟨cc,hc⟩:=hg
 have hc':=(show a.heap[B]?=_ from hb).symm.trans hc
 cases hc'
 exact hT rfl)
theorem uW (X:List cQ) (x:cQ):eS (X++[x])=eS X++f6 x:=by rw [rv];simp [eS]
theorem iW.push {W w1:World} {g' c':Nat} {X:List cQ} {H:List (List ac × Nat)} {x:cQ} {e:ac} {l:List ac} (h:iW W base BH v X H) (hE:aj W (some ⟨x.1,x.2.1,none⟩) x.2.2.1 x.2.2.2.1 (e :: l)) (hx:x.1<base)
 (hown:w1.ownsRow base 164 2 (sL g' (H.length+1) c') (H.length+1) (eS X++f6 x)) (hgrow:W.grownBy w1 v.ownBlock) :
 Boxed w1 BH 157 v∧iW (w1.setCell ⟨BH,0,none⟩ (sL g' (H.length+1) c')) base BH (sL g' (H.length+1) c') (X++[x]) (H++[(e :: l,x.2.2.2.2)])∧KeepsOthers W (w1.setCell ⟨BH,0,none⟩ (sL g' (H.length+1) c'))∧(base≤W.heap.size→Below base W (w1.setCell ⟨BH,0,none⟩ (sL g' (H.length+1) c')))∧fQ BH W (w1.setCell ⟨BH,0,none⟩ (sL g' (H.length+1) c')):=by
 have b1:=h.box.kept hgrow (h.box.not_row (by decide) h.row);have hgs:=grownBy_setCell' w1 BH (sL g' (H.length+1) c');have hlow:∀(y:cQ) (e0:ac) (l0:List ac),y.1<base→aj W (some ⟨y.1,y.2.1,none⟩) y.2.2.1 y.2.2.2.1 (e0 :: l0)→aj (w1.setCell ⟨BH,0,none⟩ (sL g' (H.length+1) c')) (some ⟨y.1,y.2.1,none⟩) y.2.2.1 y.2.2.2.1 (e0 :: l0):=by
  intro y e0 l0 hy hy2;refine (hy2.grownB hgrow (fun z ez _ e'=>?_)).grownB hgs (fun z ez _ e'=>?_)
  · cases ez;have:=(h.row.lt _ e'.symm).1;simp only at this;omega
  · cases ez;have h7:=Option.some.inj e';have h8:=h.hB;simp only at h7;omega
 refine ⟨b1,⟨b1.set _,?_,?_,?_,?_,h.hB⟩,?_,fun hs=>?_,fun B T u hb hT hB=>Boxed.kept (hb.kept hgrow (hb.not_row hT h.row)) hgs (fun e=>hB (Option.some.inj e))⟩
 · rw [List.length_append,uW];exact hown.kept hgs (.inr (b1.not_row (by decide) hown).symm)
 · rw [List.length_append,List.length_append,h.xl];rfl
 · intro k y s hy hs;by_cases hk:k<X.length
   · rw [List.getElem?_append_left hk] at hy;rw [List.getElem?_append_left (by rw [← h.xl];exact hk)] at hs;obtain ⟨e0,l0,r1,r2⟩:=h.rest k y s hy hs;exact ⟨e0,l0,r1,hlow y e0 l0 (h.low y (List.mem_of_getElem? hy)) r2⟩
   · rw [List.getElem?_append_right (by omega)] at hy;rw [List.getElem?_append_right (by rw [← h.xl];omega),← h.xl] at hs;have hk0:k - X.length=0:=by
      have:=(List.getElem?_eq_some_iff.1 hy).1;simp at this;omega
     rw [hk0] at hy hs;simp at hy hs;subst hy;subst hs;exact ⟨e,l,rfl,hlow _ e l hx hE⟩
 · intro y hy;rcases List.mem_append.1 hy with h1 | h1
   · exact h.low y h1
   · rw [List.mem_singleton] at h1;subst h1;exact hx
 · refine (KeepsOthers.of_grownBy hgrow fun j o ej hj=>?_).trans (KeepsOthers.setCell _ _ _);obtain ⟨cc,hcc⟩:=h.cells ej;rw [hcc] at hj;cases hj;rfl
 · exact ((Below.refl base W).grown hgrow hs (fun k ek=>(h.row.lt k ek).1)).setCell (p:=⟨BH,0,none⟩) h.hB _
theorem zv (base BH g n c j0:Nat) (X0:List cQ) (H0:List (List ac × Nat)) (w:World) (hn:n≤1048576) (hj:j0<n) (hS:cT w base BH g n c X0 H0) (hU:Mg.UpI (Mg.lessS aP) n H0 j0) (hLv:∀h ∈ H0,h.1≠[]) :
 Calls Tryz.prog 204 #[.iface 162 (.pointer (pT BH)),iT j0] w fun e w'=>e=.returned (.tuple #[])∧(∃X H,cT w' base BH g n c X H∧H.Perm H0∧X.Perm X0∧Mg.HeapTo (Mg.lessS aP) n H)∧w.grownBy w' (some g):=by
 have HS0:=b6 hS;have HU0:=b6 hU;have HLV:=b6 hLv;clear hS hU hLv;go_enter Tryz.func204,Tryz.ntmps204
 go_wp2;go_loopw [1] (fun jv wr=>∃(j:Nat) (X:List cQ) (H:List (List ac × Nat)),jv=iT j∧j<n∧cT wr base BH g n c X H∧H.Perm H0∧X.Perm X0∧Mg.UpI (Mg.lessS aP) n H j∧w.grownBy wr (some g)) (fun jv _=>(intOf jv).toNat)
 case atStart=>exact ⟨j0,X0,H0,rfl,hj,HS0.out,List.Perm.refl _,List.Perm.refl _,HU0.out,⟨rfl,rfl,rfl,Nat.le_refl _,fun _ _ _=>rfl⟩⟩
 case round =>
  clear HS0 HU0 hj;obtain ⟨j,X,H,rfl,hj,hS,hP,hQ,hU,hG⟩:=hrel;have HS:Hid (cT wr base BH g n c X H):=hS;have HP:Hid (H.Perm H0):=hP;have HQ:Hid (X.Perm X0):=hQ;have HU:Hid (Mg.UpI (Mg.lessS aP) n H j):=hU;have HG:Hid (w.grownBy wr (some g)):=hG;clear hS hP hQ hU hG;by_cases h0:j=0
  · subst h0;have w1:IntKind.i64.wrap ((0:Int) - 1)=-1:=by decide
    have w2:(-1:Int).tdiv 2=0:=by decide
    have w3:IntKind.i64.wrap ((-1:Int).tdiv 2)=0:=by decide
    go_wp2;go_end0;exact ⟨rfl,⟨X,H,HS.out,HP.out,HQ.out,Mg.up_done HU.out (fun h=>by omega)⟩,HG.out⟩
  · obtain ⟨i,hi⟩:=aS ((j - 1) / 2);have w1:IntKind.i64.wrap ((j:Int) - 1)=(j:Int) - 1:=by rw [IntKind.wrap_i64];omega
    have w2:((j:Int) - 1).tdiv 2=(i:Int):=by rw [Int.tdiv_eq_ediv_of_nonneg (by omega)];omega
    have w3:IntKind.i64.wrap (i:Int)=(i:Int):=by rw [IntKind.wrap_i64];omega
    have hneI:¬(i:Int)=(j:Int):=by omega
    have hne:((i:Int) == (j:Int))=false:=by simp;omega
    have hij:i<j:=by omega
    have hLen:=HS.out.len;obtain ⟨u,hu⟩:∃u,H[i]?=some u:=⟨_,List.getElem?_eq_getElem (by omega)⟩;obtain ⟨v,hv⟩:∃v,H[j]?=some v:=⟨_,List.getElem?_eq_getElem (by omega)⟩;have hXL:=HS.out.own.len;obtain ⟨x,hx⟩:∃x,X[i]?=some x:=⟨_,List.getElem?_eq_getElem (by omega)⟩;obtain ⟨y,hy⟩:∃y,X[j]?=some y:=⟨_,List.getElem?_eq_getElem (by omega)⟩;have HI:Hid (i=(j - 1) / 2):=hi;have HUu:Hid (H[i]?=some u):=hu;have HVv:Hid (H[j]?=some v):=hv;have HXx:Hid (X[i]?=some x):=hx;have HYy:Hid (X[j]?=some y):=hy;have hm:=oZ BH g n c wr HS.out.box;have CL:=HS.out.less hv hu (HLV.out _ (HP.out.mem_iff.1 (List.mem_of_getElem? hv))) (HLV.out _ (HP.out.mem_iff.1 (List.mem_of_getElem? hu)));clear hi hu hv hx hy hLen hXL;go_wp2_with fail
    refine CL.mono ?_;rintro e w1' ⟨rfl,hb1⟩;have HS1:Hid (cT w1' base BH g n c X H):=HS.out.below hb1;have HG1:Hid (w.grownBy w1' (some g)):=HG.out.trans ⟨hb1.os,hb1.tape,hb1.output,hb1.size,fun k hk _=>hb1.block k hk⟩;clear HS HG hb1 hm CL;cases hl:Mg.lessS aP v u with
    | false =>
     go_wp2;go_end0;exact ⟨rfl,⟨X,H,HS1.out,HP.out,HQ.out,Mg.up_done HU.out (fun _ _ p q hp hq=>by rw [← HI.out,HUu.out] at hp;rw [HVv.out] at hq;cases hp;cases hq;exact hl)⟩,HG1.out⟩
    | true =>
     have hm:=oY BH g n c w1' HS1.out.box;have CW:=ik base g n c i j X x y w1' HS1.out.own HXx.out HYy.out;go_wp2_with fail
     refine CW.mono ?_;rintro e w2' ⟨rfl,hO2,hg2⟩;have HS2:Hid (cT w2' base BH g n c (Mg.sw X i j x y) (Mg.sw H i j u v)):=HS1.out.swap HXx.out HYy.out HUu.out HVv.out hg2 hO2;have HG2:Hid (w.grownBy w2' (some g)):=HG1.out.trans hg2;clear HS1 HG1 hO2 hg2 hm CW;go_wp2;go_roundw
     case rel =>
      refine ⟨i,_,_,rfl,by omega,HS2.out,(Mg.sw_perm HUu.out HVv.out).trans HP.out,(Mg.sw_perm HXx.out HYy.out).trans HQ.out,?_,HG2.out⟩;have:=Mg.up_step (Mg.lessS_ord dH) HU.out (by omega) hj (by rw [← HI.out];exact HUu.out) HVv.out hl;rw [← HI.out] at this;exact this
     case measure=>simp [intOf] <;> omega
end Go.Proofs.YtpobkmjicbobdaaGreat
