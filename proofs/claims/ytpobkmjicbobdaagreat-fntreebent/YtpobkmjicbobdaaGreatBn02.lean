/- Walks. -/
import Derived.Test.YtpobkmjicbobdaaGreatBn01
import Derived.Deep.LoopGhost
namespace Go.Proofs.YtpobkmjicbobdaaGreat
set_option maxRecDepth 100000
set_option maxHeartbeats 40000000
open Go.RowKit
variable {fuel i:Nat} {v:Value} {w:World}
theorem iq {P:Program} {l:List Oper} {Q:Exit→Act→World→Prop} {md:Region.Mode} {S:World→Prop} {oi:Oper} {listed:Array Bool} {a:Act} (hi:l[i]?=some oi)
 (hs:Region.noSelect l.toArray=true) (hf:Region.free md l.toArray listed i=true) (hr:(Region.ready md l.toArray listed).contains i=true)
 (hQ:∀c a w,Q (.panic c) (a.put oi.dst v) w→Q (.panic c) a w) (hy:YieldsIf P l.toArray S oi v a) (hS:S w)
 (h:wpAnyH P md l.toArray Q S fuel (listed.setIfInBounds i true) (a.put oi.dst v) w):wpAnyH P md l.toArray Q S (fuel+1) listed a w :=
 wpAnyH_take (by simpa using hi) hs hf hr hQ hy hS h
theorem tkL {P:Program} {l:List Oper} {Q:Exit→Act→World→Prop} {md:Region.Mode} {S:World→Prop} (i:Nat) {oi:Oper} {v:Value} {fuel:Nat} {listed:Array Bool} {a:Act} {w:World} (hS:S w)
 (h:wpAnyH P md l.toArray Q S fuel (listed.setIfInBounds i true) (a.put oi.dst v) w) (hi:l[i]?=some oi:=by exact rfl) (hs:Region.noSelect l.toArray=true:=by kernel_rfl) (hf:Region.free md l.toArray listed i=true:=by kernel_rfl) (hr:(Region.ready md l.toArray listed).contains i=true:=by kernel_rfl)
 (hQ:∀c a w,Q (.panic c) (a.put oi.dst v) w→Q (.panic c) a w:=by exact fun _ _ _ h=>h) (hy:YieldsIf P l.toArray S oi v a:=by (refine Or.inl ⟨by rfl,?_⟩;intro w hSw;(try dsimp only at hSw);go_simp;try with_reducible rfl)):wpAnyH P md l.toArray Q S (fuel+1) listed a w :=
 iq hi hs hf hr hQ hy hS h
theorem tkN {P:Program} {l:List Oper} {Q:Exit→Act→World→Prop} {md:Region.Mode} {S:World→Prop} (i:Nat) {oi:Oper} {fuel:Nat} {listed:Array Bool} {a:Act} {w:World} (hS:S w)
 (h:wpAnyH P md l.toArray Q S fuel (listed.setIfInBounds i true) (a.put oi.dst undef) w) (hi:l[i]?=some oi:=by exact rfl) (hs:Region.noSelect l.toArray=true:=by kernel_rfl) (hf:Region.free md l.toArray listed i=true:=by kernel_rfl) (hr:(Region.ready md l.toArray listed).contains i=true:=by kernel_rfl)
 (hQ:∀c a w,Q (.panic c) (a.put oi.dst undef) w→Q (.panic c) a w:=by exact fun _ _ _ h=>h) (hy:YieldsIf P l.toArray S oi undef a:=by exact Or.inr ⟨by rfl,rfl⟩):wpAnyH P md l.toArray Q S (fuel+1) listed a w :=
 iq hi hs hf hr hQ hy hS h
theorem jJ {P:Program} {l:List Oper} {Q:Exit→Act→World→Prop} {md:Region.Mode} {S:World→Prop} {listed:Array Bool} {a:Act} {o:Oper} {rs:List Nat} (ho:l[i]?=some o)
 (h:∀K':Act→World→Prop,Shut (∀a w,S w→(S w→wpAnyH P md l.toArray Q S fuel (listed.setIfInBounds i true) a w)→K' a w)→if Region.wanted o (yielded l.toArray a.tmps)=true then Oper.wp P o a w K' Q else K' (a.put o.dst undef) w)
 (hs:AllReadyH P md l.toArray Q S fuel listed a w rs):AllReadyH P md l.toArray Q S fuel listed a w (i :: rs) :=
 AllReadyH.cons (by simpa using ho) h hs
theorem aI {P:Program} {l:List Oper} {Q:Exit→Act→World→Prop} {md:Region.Mode} {S:World→Prop} (i:Nat) {o:Oper} {fuel:Nat} {listed:Array Bool} {a:Act} {w:World}
 (h:∀K':Act→World→Prop,Shut (∀a w,S w→(S w→wpAnyH P md l.toArray Q S fuel (listed.setIfInBounds i true) a w)→K' a w)→if Region.wanted o (yielded l.toArray a.tmps)=true then Oper.wp P o a w K' Q else K' (a.put o.dst undef) w)
 (ho:l[i]?=some o:=by exact rfl) (hr:Region.ready md l.toArray listed=[i]:=by kernel_rfl):wpAnyH P md l.toArray Q S (fuel+1) listed a w :=
 wpAnyH_ready hr (by simp) (jJ ho h AllReadyH.nil)
def qU (P:Program) (md:Region.Mode) (l:List Oper) (Q:Exit → Act → World → Prop) (S:World → Prop) (fuel:Nat) (w:World):Nat → Nat → Array Bool → Act → Prop
 | 0,_,listed,a=>wpAnyH P md l.toArray Q S fuel listed a w
 | n+1,i,listed,a=>∃oi v,(l[i]? = some oi∧Region.noSelect l.toArray=true∧Region.free md l.toArray listed i=true∧(Region.ready md l.toArray listed).contains i=true)∧(∀c a w,Q (.panic c) (a.put oi.dst v) w → Q (.panic c) a w)∧YieldsIf P l.toArray S oi v a∧qU P md l Q S fuel w n (i+1) (listed.setIfInBounds i true) (a.put oi.dst v)
theorem tk0 {P:Program} {md:Region.Mode} {l:List Oper} {Q:Exit → Act → World → Prop} {S:World → Prop} {listed:Array Bool} {a:Act} (h:wpAnyH P md l.toArray Q S fuel listed a w):qU P md l Q S fuel w 0 i listed a:=h
theorem Cu {P:Program} {md:Region.Mode} {l:List Oper} {Q:Exit → Act → World → Prop} {S:World → Prop} {n:Nat} {listed:Array Bool} {a:Act} {oi:Oper} (hi:l[i]? = some oi) (hs:Region.noSelect l.toArray=true) (hf:Region.free md l.toArray listed i=true) (hr:(Region.ready md l.toArray listed).contains i=true)
 (hQ:∀c a w,Q (.panic c) (a.put oi.dst v) w → Q (.panic c) a w) (hy:YieldsIf P l.toArray S oi v a) (h:qU P md l Q S fuel w n (i+1) (listed.setIfInBounds i true) (a.put oi.dst v)):qU P md l Q S fuel w (n+1) i listed a:=⟨oi,v,⟨hi,hs,hf,hr⟩,hQ,hy,h⟩
theorem Ct {P:Program} {md:Region.Mode} {l:List Oper} {Q:Exit → Act → World → Prop} {S:World → Prop} {fuel:Nat} {w:World} (hS:S w):∀(n i:Nat) (listed:Array Bool) (a:Act),qU P md l Q S fuel w n i listed a → wpAnyH P md l.toArray Q S (fuel+n) listed a w
 | 0,_,_,_,h=>h
 | n+1,_,_,_,⟨_,_,⟨hi,hs,hf,hr⟩,hQ,hy,h⟩=>iq hi hs hf hr hQ hy hS (Ct hS n _ _ _ h)
theorem aO {P:Program} {md:Region.Mode} {l:List Oper} {Q:Exit → Act → World → Prop} {S:World → Prop} (i n:Nat) {listed:Array Bool} {a:Act} {g:Prop} (hS:S w) (h:g)
 (e:g → qU P md l Q S fuel w n i listed a:=by
  (intro hg; repeat (first | exact tk0 hg | ((refine Cu (v:=?_) rfl (by kernel_rfl) (by kernel_rfl) (by kernel_rfl) (fun _ _ _ h=>h) (Or.inl ⟨by rfl,?_⟩) ?_; rotate_left; · (intro w hSw; (try dsimp only at hSw); go_simp; try with_reducible rfl)); try simp only [Act.put,List.setIfInBounds_toArray,List.set_cons_succ,List.set_cons_zero]) | (refine Cu (v:=undef) rfl (by kernel_rfl) (by kernel_rfl) (by kernel_rfl) (fun _ _ _ h=>h) (Or.inr ⟨by rfl,rfl⟩) ?_; try simp only [Act.put,List.setIfInBounds_toArray,List.set_cons_succ,List.set_cons_zero])))):wpAnyH P md l.toArray Q S (fuel+n) listed a w:=Ct hS n i listed a (e h)
theorem iU {P:Program} {l:List Oper} {Q:Exit → Act → World → Prop} {md:Region.Mode} {S:World → Prop} (i j:Nat) {o p:Oper} {fuel:Nat} {listed:Array Bool} {a:Act} {w:World}
 (h:∀K':Act → World → Prop,Shut (∀a w,S w → (S w → wpAnyH P md l.toArray Q S fuel (listed.setIfInBounds i true) a w) → K' a w) → if Region.wanted o (yielded l.toArray a.tmps)=true then Oper.wp P o a w K' Q else K' (a.put o.dst undef) w)
 (h2:∀K':Act → World → Prop,Shut (∀a w,S w → (S w → wpAnyH P md l.toArray Q S fuel (listed.setIfInBounds j true) a w) → K' a w) → if Region.wanted p (yielded l.toArray a.tmps)=true then Oper.wp P p a w K' Q else K' (a.put p.dst undef) w)
 (ho:l[i]? = some o:=by exact rfl) (hp:l[j]? = some p:=by exact rfl) (hr:Region.ready md l.toArray listed=[i,j]:=by kernel_rfl):wpAnyH P md l.toArray Q S (fuel+1) listed a w:=wpAnyH_ready hr (by simp) (jJ ho h (jJ hp h2 AllReadyH.nil))
theorem BV {P:Program} {l:List Oper} {Q:Exit → Act → World → Prop} {md:Region.Mode} {S:World → Prop} (i j k:Nat) {o p q:Oper} {fuel:Nat} {listed:Array Bool} {a:Act} {w:World}
 (h:∀K':Act → World → Prop,Shut (∀a w,S w → (S w → wpAnyH P md l.toArray Q S fuel (listed.setIfInBounds i true) a w) → K' a w) → if Region.wanted o (yielded l.toArray a.tmps)=true then Oper.wp P o a w K' Q else K' (a.put o.dst undef) w)
 (h2:∀K':Act → World → Prop,Shut (∀a w,S w → (S w → wpAnyH P md l.toArray Q S fuel (listed.setIfInBounds j true) a w) → K' a w) → if Region.wanted p (yielded l.toArray a.tmps)=true then Oper.wp P p a w K' Q else K' (a.put p.dst undef) w)
 (h3:∀K':Act → World → Prop,Shut (∀a w,S w → (S w → wpAnyH P md l.toArray Q S fuel (listed.setIfInBounds k true) a w) → K' a w) → if Region.wanted q (yielded l.toArray a.tmps)=true then Oper.wp P q a w K' Q else K' (a.put q.dst undef) w)
 (ho:l[i]? = some o:=by exact rfl) (hp:l[j]? = some p:=by exact rfl) (hq:l[k]? = some q:=by exact rfl) (hr:Region.ready md l.toArray listed=[i,j,k]:=by kernel_rfl):wpAnyH P md l.toArray Q S (fuel+1) listed a w:=wpAnyH_ready hr (by simp) (jJ ho h (jJ hp h2 (jJ hq h3 AllReadyH.nil)))
theorem eC {P:Program} {ops:Array Oper} {Q:Exit → Act → World → Prop} {id:Nat} {a:Act} {R S:World → Prop} (H:Hid (∀w',R w' → S w')) (k:R w.drew) (h:S w.drew → wpAnyH P .any ops Q S ops.size (Array.replicate ops.size false) a w.drew) (hm:P.follows .mixedOrders=true:=by kernel_rfl):(Code.region id ops true).wp P Q a w:=wp_region_held_drew hm (H.out _ k) h
theorem zI {P:Program} {ops:Array Oper} {Q:Exit → Act → World → Prop} {id:Nat} {a:Act} {R S:World → Prop} (H:∀w',R w' → S w') (k:R w.drew) (h:S w.drew → wpAnyH P .any ops Q S ops.size (Array.replicate ops.size false) a w.drew) (hm:P.follows .mixedOrders=true:=by kernel_rfl):(Code.region id ops true).wp P Q a w:=wp_region_held_drew hm (H _ k) h
theorem dN {P:Program} {md:Region.Mode} {l:List Oper} {Q:Exit → Act → World → Prop} {S:World → Prop} {fuel:Nat} {listed:Array Bool} {a:Act} (h:Q .normal a w) (hr:Region.ready md l.toArray listed=[]:=by kernel_rfl):wpAnyH P md l.toArray Q S fuel listed a w:=wpAnyH_done hr h _
theorem oQ (k t:ByteArray) (q n:Int) (w:World) :
 Calls Tryz.prog 100 #[.agg #[.string k,iT q,iT 1,.string t,iT n]] w fun e w'=>e=.returned (.iface 176 (.agg #[]))∧Bl w w':=by
 go_enter Tryz.func100,Tryz.ntmps100
 go_wp2;go_ret;exact ⟨rfl,bZ⟩
theorem oR (k t:ByteArray) (q n:Int) (w:World) :
 Calls Tryz.prog 100 #[.agg #[.string k,iT q,iT 2,.string t,iT n]] w fun e w'=>e=.returned (.iface 177 (.agg #[]))∧Bl w w':=by
 go_enter Tryz.func100,Tryz.ntmps100
 go_wp2;go_ret;exact ⟨rfl,bZ⟩
theorem oS (k t:ByteArray) (q n:Int) (w:World) :
 Calls Tryz.prog 100 #[.agg #[.string k,iT q,iT 3,.string t,iT n]] w fun e w'=>e=.returned (.iface 178 (.agg #[]))∧Bl w w':=by
 go_enter Tryz.func100,Tryz.ntmps100
 go_wp2;go_ret;exact ⟨rfl,bZ⟩
theorem pW (k t:ByteArray) (q d n:Int) (w:World) (d1:¬d=1) (d2:¬d=2) (d3:¬d=3) :
 Calls Tryz.prog 100 #[.agg #[.string k,iT q,iT d,.string t,iT n]] w fun e w'=>e=.returned (.iface 179 (.agg #[]))∧Bl w w':=by
 have e1:(d == 1)=false:=by simpa using d1
 have e2:(d == 2)=false:=by simpa using d2
 have e3:(d == 3)=false:=by simpa using d3
 go_enter Tryz.func100,Tryz.ntmps100
 go_wp2;go_ret;exact ⟨rfl,bZ⟩
theorem ry (k t:ByteArray) (q n:Int) (w:World) :
 Calls Tryz.prog 312 #[.agg #[],.agg #[.string k,iT q,iT 1,.string t,iT n]] w fun e w'=>e=.returned (.bool (fg 1 t n))∧Bl w w':=by
 go_enter Tryz.func312,Tryz.ntmps312
 go_wp2;go_ret;exact ⟨af (nf (t:=t) (n:=n)).symm,bZ.alloc (by simp) _⟩
theorem rD (k t:ByteArray) (q n:Int) (w:World) :
 Calls Tryz.prog 314 #[.agg #[],.agg #[.string k,iT q,iT 2,.string t,iT n]] w fun e w'=>e=.returned (.bool (fg 2 t n))∧Bl w w':=by
 by_cases t0:t=ByteArray.empty
 · subst t0;by_cases n0:n=0
   · subst n0;go_enter Tryz.func314,Tryz.ntmps314
     go_wp2;all_goals
      go_ret;exact ⟨af (by rw [gQ];rfl),bZ.alloc (by simp) _⟩
   · have n1:(n == 0)=false:=by simpa using n0
     go_enter Tryz.func314,Tryz.ntmps314
     go_wp2;all_goals
      go_ret;exact ⟨af (by rw [gQ];simp [n0]),bZ.alloc (by simp) _⟩
 · have t1:=fe t0;have t2:=jo t0;go_enter Tryz.func314,Tryz.ntmps314
   go_wp2;all_goals
    go_ret;exact ⟨af (by rw [gQ];simp [t1]),bZ.alloc (by simp) _⟩
theorem rE (k t:ByteArray) (q n:Int) (w:World) :
 Calls Tryz.prog 316 #[.agg #[],.agg #[.string k,iT q,iT 3,.string t,iT n]] w fun e w'=>e=.returned (.bool (fg 3 t n))∧Bl w w':=by
 by_cases t0:t=ByteArray.empty
 · subst t0;go_enter Tryz.func316,Tryz.ntmps316
   go_wp2;all_goals
    go_ret;exact ⟨af (by rw [lm];rfl),bZ.alloc (by simp) _⟩
 · have t1:=fe t0;have t2:=jo t0;go_enter Tryz.func316,Tryz.ntmps316
   go_wp2;all_goals
    go_ret;exact ⟨af (by rw [lm];simp [t1,t2]),bZ.alloc (by simp) _⟩
theorem tw (k t:ByteArray) (q d n:Int) (w:World) (d1:¬d=1) (d2:¬d=2) (d3:¬d=3) :
 Calls Tryz.prog 318 #[.agg #[],.agg #[.string k,iT q,iT d,.string t,iT n]] w fun e w'=>e=.returned (.bool (fg d t n))∧Bl w w':=by
 go_enter Tryz.func318,Tryz.ntmps318
 go_wp2;go_ret;exact ⟨af (ng d1 d2 d3).symm,bZ.alloc (by simp) _⟩
section
attribute [local go_sem] Oper.semAt_some
theorem below_drewN {B:Nat} {w':World} (h:Below B w w') (n:Nat):Below B w (w'.drewN n):=h.trans ⟨rfl,rfl,rfl,Nat.le_refl _,fun _ _=>rfl⟩
theorem tq (k t:ByteArray) (q d n:Int) (w:World) (hs:k.size≤maxLen) (hk:fl k=false) :
 Calls Tryz.prog 33 #[.agg #[.string k,iT q,iT d,.string t,iT n]] w fun e w'=>e=.returned (.bool (cX k q d t n))∧Bl w w':=by
 go_enter Tryz.func33,Tryz.ntmps33
 go_wp2_with fail
 go_quiet (first | (go_at_call 99;refine Calls.quiet_of_same (v:=.bool false) ((fE _ _ hs).mono (fun e w' h=>by rw [hk] at h;exact h))))
 go_wp2;go_ret;exact ⟨af (tz hk).symm,below_drewN bZ _⟩
theorem uS (k t:ByteArray) (q d n:Int) (w:World) (hs:k.size≤maxLen) (hk:fl k=true) (h1:q<1) :
 Calls Tryz.prog 33 #[.agg #[.string k,iT q,iT d,.string t,iT n]] w fun e w'=>e=.returned (.bool (cX k q d t n))∧Bl w w':=by
 have g:decide (1≤q)=false:=decide_eq_false (by omega);go_enter Tryz.func33,Tryz.ntmps33
 go_wp2_with fail
 go_quiet (first | (go_at_call 99;refine Calls.quiet_of_same (v:=.bool true) ((fE _ _ hs).mono (fun e w' h=>by rw [hk] at h;exact h))))
 go_wp2;go_ret;exact ⟨af (vz h1).symm,below_drewN bZ _⟩
theorem uR (k t:ByteArray) (q d n:Int) (w:World) (hs:k.size≤maxLen) (hk:fl k=true) (h1:1≤q) (h2:100000<q) :
 Calls Tryz.prog 33 #[.agg #[.string k,iT q,iT d,.string t,iT n]] w fun e w'=>e=.returned (.bool (cX k q d t n))∧Bl w w':=by
 have g:decide (q≤100000)=false:=decide_eq_false (by omega);go_enter Tryz.func33,Tryz.ntmps33
 go_wp2_with fail
 go_quiet (first | (go_at_call 99;refine Calls.quiet_of_same (v:=.bool true) ((fE _ _ hs).mono (fun e w' h=>by rw [hk] at h;exact h))))
 go_wp2;go_ret;exact ⟨af (vy h2).symm,below_drewN bZ _⟩
theorem uU (k t:ByteArray) (q d n:Int) (w:World) (hs:k.size≤maxLen) (hk:fl k=true) (h1:1≤q) (h2:q≤100000) (h3:n < -1000000) :
 Calls Tryz.prog 33 #[.agg #[.string k,iT q,iT d,.string t,iT n]] w fun e w'=>e=.returned (.bool (cX k q d t n))∧Bl w w':=by
 have g:decide (-1000000≤n)=false:=decide_eq_false (by omega);go_enter Tryz.func33,Tryz.ntmps33
 go_wp2_with fail
 go_quiet (first | (go_at_call 99;refine Calls.quiet_of_same (v:=.bool true) ((fE _ _ hs).mono (fun e w' h=>by rw [hk] at h;exact h))))
 go_wp2;go_ret;exact ⟨af (vB h3).symm,below_drewN bZ _⟩
theorem uT (k t:ByteArray) (q d n:Int) (w:World) (hs:k.size≤maxLen) (hk:fl k=true) (h1:1≤q) (h2:q≤100000) (h3:-1000000≤n) (h4:1000000<n) :
 Calls Tryz.prog 33 #[.agg #[.string k,iT q,iT d,.string t,iT n]] w fun e w'=>e=.returned (.bool (cX k q d t n))∧Bl w w':=by
 have g:decide (n≤1000000)=false:=decide_eq_false (by omega);go_enter Tryz.func33,Tryz.ntmps33
 go_wp2_with fail
 go_quiet (first | (go_at_call 99;refine Calls.quiet_of_same (v:=.bool true) ((fE _ _ hs).mono (fun e w' h=>by rw [hk] at h;exact h))))
 go_wp2;go_ret;exact ⟨af (vA h4).symm,below_drewN bZ _⟩
theorem xt (k t:ByteArray) (q d n:Int) (w:World) (hs:k.size≤maxLen) (hk:fl k=true) (h1:1≤q) (h2:q≤100000) (h3:-1000000≤n) (h4:n≤1000000) (h5:60<t.size) :
 Calls Tryz.prog 33 #[.agg #[.string k,iT q,iT d,.string t,iT n]] w fun e w'=>e=.returned (.bool (cX k q d t n))∧Bl w w':=by
 have g:decide ((t.size:Int)≤60)=false:=decide_eq_false (by omega);go_enter Tryz.func33,Tryz.ntmps33
 go_wp2_with fail
 go_quiet (first | (go_at_call 99;refine Calls.quiet_of_same (v:=.bool true) ((fE _ _ hs).mono (fun e w' h=>by rw [hk] at h;exact h))))
 go_wp2;go_ret;exact ⟨af (zG h5).symm,below_drewN bZ _⟩
theorem mU (k t:ByteArray) (q n:Int) (w:World) (hs:k.size≤maxLen) (ht:t.size≤60) (hk:fl k=true) (h1:1≤q) (h2:q≤100000) (h3:-1000000≤n) (h4:n≤1000000) :
 Calls Tryz.prog 33 #[.agg #[.string k,iT q,iT 1,.string t,iT n]] w fun e w'=>e=.returned (.bool (cX k q 1 t n))∧Bl w w':=by
 have HR:Hid (cX k q 1 t n=fg 1 t n):=d9 hk h1 h2 h3 h4 ht;have ht':(t.size:Int)≤60:=by omega
 clear ht;go_enter Tryz.func33,Tryz.ntmps33
 go_wp2_with fail
 obtain ⟨X,hX⟩:=aS w.heap.size;obtain ⟨W,hW⟩:=aS (w.alloc (.cells #[.string k,iT q,iT 1,.string t,iT n] 50));have x0:W.cell? ⟨X,0,none⟩=some (.string k):=by rw [hW,hX];simp
 have x1:W.cell? ⟨X,1,none⟩=some (iT q):=by rw [hW,hX];simp
 have x2:W.cell? ⟨X,2,none⟩=some (iT 1):=by rw [hW,hX];simp
 have x3:W.cell? ⟨X,3,none⟩=some (.string t):=by rw [hW,hX];simp
 have x4:W.cell? ⟨X,4,none⟩=some (iT n):=by rw [hW,hX];simp
 have kW:Bl w W:=by rw [hW];exact bZ
 rw [← hW,← hX];clear hW hX;have HKW:Hid (Bl w W):=kW;clear kW;have k0:Bl W W.drew:=(Below.refl _ W).drew;have HMK:Hid (∀w',Bl W w'→(w'.cell? ⟨X,0,none⟩=some (.string k)∧w'.cell? ⟨X,1,none⟩=some (iT q)∧w'.cell? ⟨X,2,none⟩=some (iT 1)∧w'.cell? ⟨X,3,none⟩=some (.string t)∧w'.cell? ⟨X,4,none⟩=some (iT n)∧X<w'.heap.size∧Bl W w')):=fun w' k=>⟨cell_later k x0,cell_later k x1,cell_later k x2,cell_later k x3,cell_later k x4,World.block_lt_of_cell? _ _ (cell_later k x0),k⟩
 have hm : ∀ w : World, (method 400 176 (.agg #[]) "loop.example/comptoir/impl.fits").run Tryz.prog w = .ok (312, .agg #[]) w := fun _ => by kernel_rfl
 go_region_held3 (fun w'=>w'.cell? ⟨X,0,none⟩=some (.string k)∧w'.cell? ⟨X,1,none⟩=some (iT q)∧w'.cell? ⟨X,2,none⟩=some (iT 1)∧w'.cell? ⟨X,3,none⟩=some (.string t)∧w'.cell? ⟨X,4,none⟩=some (iT n)∧X<w'.heap.size∧Bl W w') (first | exact HMK.out _ k2 | exact HMK.out _ k1 | exact HMK.out _ k0) (first
  | (go_at_call 99;refine (fE _ _ hs).mono ?_;rw [hk];rintro e w' ⟨rfl,rfl⟩)
  | (go_at_call 100;refine (oQ _ _ _ _ _).mono ?_;rintro e w1 ⟨rfl,hb1⟩;have k1:Bl W w1:=k0.trans (hb1.mono k0.size))
  | (go_at_call 312;refine (ry _ _ _ _ _).mono ?_;rintro e w2 ⟨rfl,hb2⟩;have k2:Bl W w2:=k1.trans (hb2.mono k1.size)))
 go_wp2;go_ret;exact ⟨af HR.out.symm,HKW.out.trans (k2.mono HKW.out.size)⟩
theorem mV (k t:ByteArray) (q n:Int) (w:World) (hs:k.size≤maxLen) (ht:t.size≤60) (hk:fl k=true) (h1:1≤q) (h2:q≤100000) (h3:-1000000≤n) (h4:n≤1000000) :
 Calls Tryz.prog 33 #[.agg #[.string k,iT q,iT 2,.string t,iT n]] w fun e w'=>e=.returned (.bool (cX k q 2 t n))∧Bl w w':=by
 have HR:Hid (cX k q 2 t n=fg 2 t n):=d9 hk h1 h2 h3 h4 ht;have ht':(t.size:Int)≤60:=by omega
 clear ht;go_enter Tryz.func33,Tryz.ntmps33
 go_wp2_with fail
 obtain ⟨X,hX⟩:=aS w.heap.size;obtain ⟨W,hW⟩:=aS (w.alloc (.cells #[.string k,iT q,iT 2,.string t,iT n] 50));have x0:W.cell? ⟨X,0,none⟩=some (.string k):=by rw [hW,hX];simp
 have x1:W.cell? ⟨X,1,none⟩=some (iT q):=by rw [hW,hX];simp
 have x2:W.cell? ⟨X,2,none⟩=some (iT 2):=by rw [hW,hX];simp
 have x3:W.cell? ⟨X,3,none⟩=some (.string t):=by rw [hW,hX];simp
 have x4:W.cell? ⟨X,4,none⟩=some (iT n):=by rw [hW,hX];simp
 have kW:Bl w W:=by rw [hW];exact bZ
 rw [← hW,← hX];clear hW hX;have HKW:Hid (Bl w W):=kW;clear kW;have k0:Bl W W.drew:=(Below.refl _ W).drew;have HMK:Hid (∀w',Bl W w'→(w'.cell? ⟨X,0,none⟩=some (.string k)∧w'.cell? ⟨X,1,none⟩=some (iT q)∧w'.cell? ⟨X,2,none⟩=some (iT 2)∧w'.cell? ⟨X,3,none⟩=some (.string t)∧w'.cell? ⟨X,4,none⟩=some (iT n)∧X<w'.heap.size∧Bl W w')):=fun w' k=>⟨cell_later k x0,cell_later k x1,cell_later k x2,cell_later k x3,cell_later k x4,World.block_lt_of_cell? _ _ (cell_later k x0),k⟩
 have hm : ∀ w : World, (method 400 177 (.agg #[]) "loop.example/comptoir/impl.fits").run Tryz.prog w = .ok (314, .agg #[]) w := fun _ => by kernel_rfl
 go_region_held3 (fun w'=>w'.cell? ⟨X,0,none⟩=some (.string k)∧w'.cell? ⟨X,1,none⟩=some (iT q)∧w'.cell? ⟨X,2,none⟩=some (iT 2)∧w'.cell? ⟨X,3,none⟩=some (.string t)∧w'.cell? ⟨X,4,none⟩=some (iT n)∧X<w'.heap.size∧Bl W w') (first | exact HMK.out _ k2 | exact HMK.out _ k1 | exact HMK.out _ k0) (first
  | (go_at_call 99;refine (fE _ _ hs).mono ?_;rw [hk];rintro e w' ⟨rfl,rfl⟩)
  | (go_at_call 100;refine (oR _ _ _ _ _).mono ?_;rintro e w1 ⟨rfl,hb1⟩;have k1:Bl W w1:=k0.trans (hb1.mono k0.size))
  | (go_at_call 314;refine (rD _ _ _ _ _).mono ?_;rintro e w2 ⟨rfl,hb2⟩;have k2:Bl W w2:=k1.trans (hb2.mono k1.size)))
 go_wp2;go_ret;exact ⟨af HR.out.symm,HKW.out.trans (k2.mono HKW.out.size)⟩
theorem mW (k t:ByteArray) (q n:Int) (w:World) (hs:k.size≤maxLen) (ht:t.size≤60) (hk:fl k=true) (h1:1≤q) (h2:q≤100000) (h3:-1000000≤n) (h4:n≤1000000) :
 Calls Tryz.prog 33 #[.agg #[.string k,iT q,iT 3,.string t,iT n]] w fun e w'=>e=.returned (.bool (cX k q 3 t n))∧Bl w w':=by
 have HR:Hid (cX k q 3 t n=fg 3 t n):=d9 hk h1 h2 h3 h4 ht;have ht':(t.size:Int)≤60:=by omega
 clear ht;go_enter Tryz.func33,Tryz.ntmps33
 go_wp2_with fail
 obtain ⟨X,hX⟩:=aS w.heap.size;obtain ⟨W,hW⟩:=aS (w.alloc (.cells #[.string k,iT q,iT 3,.string t,iT n] 50));have x0:W.cell? ⟨X,0,none⟩=some (.string k):=by rw [hW,hX];simp
 have x1:W.cell? ⟨X,1,none⟩=some (iT q):=by rw [hW,hX];simp
 have x2:W.cell? ⟨X,2,none⟩=some (iT 3):=by rw [hW,hX];simp
 have x3:W.cell? ⟨X,3,none⟩=some (.string t):=by rw [hW,hX];simp
 have x4:W.cell? ⟨X,4,none⟩=some (iT n):=by rw [hW,hX];simp
 have kW:Bl w W:=by rw [hW];exact bZ
 rw [← hW,← hX];clear hW hX;have HKW:Hid (Bl w W):=kW;clear kW;have k0:Bl W W.drew:=(Below.refl _ W).drew;have HMK:Hid (∀w',Bl W w'→(w'.cell? ⟨X,0,none⟩=some (.string k)∧w'.cell? ⟨X,1,none⟩=some (iT q)∧w'.cell? ⟨X,2,none⟩=some (iT 3)∧w'.cell? ⟨X,3,none⟩=some (.string t)∧w'.cell? ⟨X,4,none⟩=some (iT n)∧X<w'.heap.size∧Bl W w')):=fun w' k=>⟨cell_later k x0,cell_later k x1,cell_later k x2,cell_later k x3,cell_later k x4,World.block_lt_of_cell? _ _ (cell_later k x0),k⟩
 have hm : ∀ w : World, (method 400 178 (.agg #[]) "loop.example/comptoir/impl.fits").run Tryz.prog w = .ok (316, .agg #[]) w := fun _ => by kernel_rfl
 go_region_held3 (fun w'=>w'.cell? ⟨X,0,none⟩=some (.string k)∧w'.cell? ⟨X,1,none⟩=some (iT q)∧w'.cell? ⟨X,2,none⟩=some (iT 3)∧w'.cell? ⟨X,3,none⟩=some (.string t)∧w'.cell? ⟨X,4,none⟩=some (iT n)∧X<w'.heap.size∧Bl W w') (first | exact HMK.out _ k2 | exact HMK.out _ k1 | exact HMK.out _ k0) (first
  | (go_at_call 99;refine (fE _ _ hs).mono ?_;rw [hk];rintro e w' ⟨rfl,rfl⟩)
  | (go_at_call 100;refine (oS _ _ _ _ _).mono ?_;rintro e w1 ⟨rfl,hb1⟩;have k1:Bl W w1:=k0.trans (hb1.mono k0.size))
  | (go_at_call 316;refine (rE _ _ _ _ _).mono ?_;rintro e w2 ⟨rfl,hb2⟩;have k2:Bl W w2:=k1.trans (hb2.mono k1.size)))
 go_wp2;go_ret;exact ⟨af HR.out.symm,HKW.out.trans (k2.mono HKW.out.size)⟩
theorem oX (k t:ByteArray) (q d n:Int) (w:World) (hs:k.size≤maxLen) (ht:t.size≤60) (hk:fl k=true) (h1:1≤q) (h2:q≤100000) (h3:-1000000≤n) (h4:n≤1000000) (d1:¬d=1) (d2:¬d=2) (d3:¬d=3) :
 Calls Tryz.prog 33 #[.agg #[.string k,iT q,iT d,.string t,iT n]] w fun e w'=>e=.returned (.bool (cX k q d t n))∧Bl w w':=by
 have HR:Hid (cX k q d t n=fg d t n):=d9 hk h1 h2 h3 h4 ht;have ht':(t.size:Int)≤60:=by omega
 clear ht;go_enter Tryz.func33,Tryz.ntmps33
 go_wp2_with fail
 obtain ⟨X,hX⟩:=aS w.heap.size;obtain ⟨W,hW⟩:=aS (w.alloc (.cells #[.string k,iT q,iT d,.string t,iT n] 50));have x0:W.cell? ⟨X,0,none⟩=some (.string k):=by rw [hW,hX];simp
 have x1:W.cell? ⟨X,1,none⟩=some (iT q):=by rw [hW,hX];simp
 have x2:W.cell? ⟨X,2,none⟩=some (iT d):=by rw [hW,hX];simp
 have x3:W.cell? ⟨X,3,none⟩=some (.string t):=by rw [hW,hX];simp
 have x4:W.cell? ⟨X,4,none⟩=some (iT n):=by rw [hW,hX];simp
 have kW:Bl w W:=by rw [hW];exact bZ
 rw [← hW,← hX];clear hW hX;have HKW:Hid (Bl w W):=kW;clear kW;have k0:Bl W W.drew:=(Below.refl _ W).drew;have HMK:Hid (∀w',Bl W w'→(w'.cell? ⟨X,0,none⟩=some (.string k)∧w'.cell? ⟨X,1,none⟩=some (iT q)∧w'.cell? ⟨X,2,none⟩=some (iT d)∧w'.cell? ⟨X,3,none⟩=some (.string t)∧w'.cell? ⟨X,4,none⟩=some (iT n)∧X<w'.heap.size∧Bl W w')):=fun w' k=>⟨cell_later k x0,cell_later k x1,cell_later k x2,cell_later k x3,cell_later k x4,World.block_lt_of_cell? _ _ (cell_later k x0),k⟩
 have hm : ∀ w : World, (method 400 179 (.agg #[]) "loop.example/comptoir/impl.fits").run Tryz.prog w = .ok (318, .agg #[]) w := fun _ => by kernel_rfl
 go_region_held3 (fun w'=>w'.cell? ⟨X,0,none⟩=some (.string k)∧w'.cell? ⟨X,1,none⟩=some (iT q)∧w'.cell? ⟨X,2,none⟩=some (iT d)∧w'.cell? ⟨X,3,none⟩=some (.string t)∧w'.cell? ⟨X,4,none⟩=some (iT n)∧X<w'.heap.size∧Bl W w') (first | exact HMK.out _ k2 | exact HMK.out _ k1 | exact HMK.out _ k0) (first
  | (go_at_call 99;refine (fE _ _ hs).mono ?_;rw [hk];rintro e w' ⟨rfl,rfl⟩)
  | (go_at_call 100;refine (pW _ _ _ _ _ _ d1 d2 d3).mono ?_;rintro e w1 ⟨rfl,hb1⟩;have k1:Bl W w1:=k0.trans (hb1.mono k0.size))
  | (go_at_call 318;refine (tw _ _ _ _ _ _ d1 d2 d3).mono ?_;rintro e w2 ⟨rfl,hb2⟩;have k2:Bl W w2:=k1.trans (hb2.mono k1.size)))
 go_wp2;go_ret;exact ⟨af HR.out.symm,HKW.out.trans (k2.mono HKW.out.size)⟩
theorem vr (k t:ByteArray) (q d n:Int) (w:World) (hs:k.size≤maxLen) :
 Calls Tryz.prog 33 #[.agg #[.string k,iT q,iT d,.string t,iT n]] w fun e w'=>e=.returned (.bool (cX k q d t n))∧Bl w w':=by
 cases hk:fl k with
 | false=>exact tq k t q d n w hs hk
 | true =>
  by_cases h1:q<1
  · exact uS k t q d n w hs hk h1
  by_cases h2:100000<q
  · exact uR k t q d n w hs hk (by omega) h2
  by_cases h3:n < -1000000
  · exact uU k t q d n w hs hk (by omega) (by omega) h3
  by_cases h4:1000000<n
  · exact uT k t q d n w hs hk (by omega) (by omega) (by omega) h4
  by_cases h5:60<t.size
  · exact xt k t q d n w hs hk (by omega) (by omega) (by omega) (by omega) h5
  by_cases d1:d=1
  · subst d1;exact mU k t q n w hs (by omega) hk (by omega) (by omega) (by omega) (by omega)
  by_cases d2:d=2
  · subst d2;exact mV k t q n w hs (by omega) hk (by omega) (by omega) (by omega) (by omega)
  by_cases d3:d=3
  · subst d3;exact mW k t q n w hs (by omega) hk (by omega) (by omega) (by omega) (by omega)
  exact oX k t q d n w hs (by omega) hk (by omega) (by omega) (by omega) (by omega) d1 d2 d3
end
theorem lT (a:Option Addr) (len cap:Nat) (L:List ac) (w:World) (hL:aj w a len cap L) :
 Calls Tryz.prog 201 #[.slice a len cap] w fun e w'=>e=.returned (iT ((cZ L:Nat):Int))∧Bl w w':=by
 have HLEN:Hid (L.length=len):=hL.length;have hbl:=hL.room;have hbc:=hL.big;unfold maxLen at hbc;have HL:=b6 hL;clear hL;go_enter Tryz.func201,Tryz.ntmps201
 go_wp2;go_loopw [3,4] (fun m i wr=>∃k p:Nat,k≤len∧i=iT k∧m=iT p∧p<65536∧Bl w wr∧p=cZ (L.take k)) (fun _ i _=>len - (intOf i).toNat)
 case atStart=>exact ⟨0,0,Nat.zero_le _,rfl,rfl,by omega,Below.refl _ _,rfl⟩
 case round =>
  obtain ⟨k,p,hk,rfl,rfl,hp,hb,hm⟩:=hrel;have HM:Hid (p=cZ (L.take k)):=hm;clear hm;by_cases hlt:k<len
  · obtain ⟨b,off,rfl,hbb⟩:=HL.out.form (by omega);obtain ⟨s,q,d,t,n,hg,hlw,g0,g1,g2,g3,g4⟩:=HL.out.ent hb hbb k hlt;have HG:Hid (L[k]?=some (s,q,d,t,n)):=hg;have hs:=hlw.1;simp only at hs;clear hg hlw;obtain ⟨z,hz⟩:=aS (gM s);have hz1:z<65536:=by rw [hz];exact oD s
    have CK:Hid (∀w,Calls Tryz.prog 237 #[.string s] w fun e w'=>e=.returned (iT (z:Int))∧w'=w):=by rw [hz];exact fun w=>yB s w hs
    have CO:Hid (∀w,Calls Tryz.prog 236 #[iT p,iT z] w fun e w'=>e=.returned (iT ((p ||| z:Nat):Int))∧w'=w):=fun w=>yy p z w hp hz1
    have HN:Hid (p ||| z=cZ (L.take (k+1))):=by
     show p ||| z=cZ (L.take (k+1))
     rw [oC HG.out,← HM.out,hz]
    clear hz;go_wp2_with (first | (go_at_call 237;refine (CK.out _).mono ?_;rintro e w1 ⟨rfl,rfl⟩) | (go_at_call 236;refine (CO.out _).mono ?_;rintro e w2 ⟨rfl,rfl⟩))
    go_roundw
    case rel=>exact ⟨k+1,p ||| z,by omega,by go_num,rfl,ic hp hz1,hb,HN.out⟩
    case measure=>simp [intOf];omega
  · go_wp2;go_ret;refine ⟨kV ?_,hb⟩;have:=HM.out;rw [List.take_of_length_le (by rw [HLEN.out];omega)] at this;rw [this]
theorem xr (a:Option Addr) (len cap:Nat) (L:List ac) (w:World) (hL:aj w a len cap L) :
 Calls Tryz.prog 219 #[.slice a len cap] w fun e w'=>e=.returned (iT ((cZ L:Nat):Int))∧Bl w w':=by
 have HLEN:Hid (L.length=len):=hL.length;have hbl:=hL.room;have hbc:=hL.big;unfold maxLen at hbc;have HL:=b6 hL;clear hL;go_enter Tryz.func219,Tryz.ntmps219
 go_wp2;go_loopw [3,8] (fun m i wr=>∃k p:Nat,k≤len∧i=iT k∧m=iT p∧p<65536∧Bl w wr∧p=cZ (L.take k)) (fun _ i _=>len - (intOf i).toNat)
 case atStart=>exact ⟨0,0,Nat.zero_le _,rfl,rfl,by omega,Below.refl _ _,rfl⟩
 case round =>
  obtain ⟨k,p,hk,rfl,rfl,hp,hb,hm⟩:=hrel;have HM:Hid (p=cZ (L.take k)):=hm;clear hm;by_cases hlt:k<len
  · obtain ⟨b,off,rfl,hbb⟩:=HL.out.form (by omega);obtain ⟨s,q,d,t,n,hg,hlw,g0,g1,g2,g3,g4⟩:=HL.out.ent hb hbb k hlt;have HG:Hid (L[k]?=some (s,q,d,t,n)):=hg;have hs:=hlw.1;simp only at hs;clear hg hlw;obtain ⟨z,hz⟩:=aS (gM s);have hz1:z<65536:=by rw [hz];exact oD s
    have CK:Hid (∀w,Calls Tryz.prog 244 #[.string s] w fun e w'=>e=.returned (iT (z:Int))∧Bl w w'):=by rw [hz];exact fun w=>zj s w hs
    have HN:Hid (p ||| z=cZ (L.take (k+1))):=by
     show p ||| z=cZ (L.take (k+1))
     rw [oC HG.out,← HM.out,hz]
    have hor:=vG p z hp hz1;clear hz;go_wp2_with (go_at_call 244;refine (CK.out _).mono ?_;rintro e w1 ⟨rfl,hb1⟩;obtain ⟨hc1,hf1⟩:=vH hb1)
    go_roundw
    case rel=>exact ⟨k+1,p ||| z,by omega,by go_num,by rw [← hor],ic hp hz1,(hb.alloc (by have:=hb.size;omega) _).trans (hb1.mono (by have:=hb.size;simp;omega)),HN.out⟩
    case measure=>simp [intOf];omega
  · go_wp2;go_ret;refine ⟨kV ?_,hb⟩;have:=HM.out;rw [List.take_of_length_le (by rw [HLEN.out];omega)] at this;rw [this]
end Go.Proofs.YtpobkmjicbobdaaGreat
