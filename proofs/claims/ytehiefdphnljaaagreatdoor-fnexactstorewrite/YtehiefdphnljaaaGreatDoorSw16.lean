/- Walks. -/
import Derived.Test.YtehiefdphnljaaaGreatDoorSw15
namespace Go.Proofs.YtehiefdphnljaaaGreatDoor
set_option maxRecDepth 100000
set_option maxHeartbeats 40000000
open Go.RowKit
section
attribute [local go_sem] Oper.semAt_some
theorem below_drewN {B:Nat} {w w':World} (h:Below B w w') (n:Nat):Below B w (w'.drewN n):=h.trans ⟨rfl,rfl,rfl,Nat.le_refl _,fun _ _=>rfl⟩
theorem rO (k t:ByteArray) (q d n:Int) (w:World) (hs:k.size≤maxLen) (hk:d6 k=false) :
 Calls Tryz.prog 91 #[.agg #[.string k,iT q,iT d,.string t,iT n]] w fun e w'=>e=.returned (.bool (cV k q d t n))∧Bl w w':=by
 go_enter Tryz.func91,Tryz.ntmps91
 go_wp2_with fail
 go_quiet (first | (go_at_call 131;refine Calls.quiet_of_same (v:=.bool false) ((fm _ _ hs).mono (fun e w' h=>by rw [hk] at h;exact h))))
 go_wp2;go_ret;exact ⟨aj (iQ hk).symm,below_drewN bZ _⟩
theorem tM (k t:ByteArray) (q d n:Int) (w:World) (hs:k.size≤maxLen) (hk:d6 k=true) (h1:q<1) :
 Calls Tryz.prog 91 #[.agg #[.string k,iT q,iT d,.string t,iT n]] w fun e w'=>e=.returned (.bool (cV k q d t n))∧Bl w w':=by
 have g:decide (1≤q)=false:=decide_eq_false (by omega);go_enter Tryz.func91,Tryz.ntmps91
 go_wp2_with fail
 go_quiet (first | (go_at_call 131;refine Calls.quiet_of_same (v:=.bool true) ((fm _ _ hs).mono (fun e w' h=>by rw [hk] at h;exact h))))
 go_wp2;go_ret;exact ⟨aj (qs h1).symm,below_drewN bZ _⟩
theorem tL (k t:ByteArray) (q d n:Int) (w:World) (hs:k.size≤maxLen) (hk:d6 k=true) (h1:1≤q) (h2:100000<q) :
 Calls Tryz.prog 91 #[.agg #[.string k,iT q,iT d,.string t,iT n]] w fun e w'=>e=.returned (.bool (cV k q d t n))∧Bl w w':=by
 have g:decide (q≤100000)=false:=decide_eq_false (by omega);go_enter Tryz.func91,Tryz.ntmps91
 go_wp2_with fail
 go_quiet (first | (go_at_call 131;refine Calls.quiet_of_same (v:=.bool true) ((fm _ _ hs).mono (fun e w' h=>by rw [hk] at h;exact h))))
 go_wp2;go_ret;exact ⟨aj (qr h2).symm,below_drewN bZ _⟩
theorem tO (k t:ByteArray) (q d n:Int) (w:World) (hs:k.size≤maxLen) (hk:d6 k=true) (h1:1≤q) (h2:q≤100000) (h3:n < -1000000) :
 Calls Tryz.prog 91 #[.agg #[.string k,iT q,iT d,.string t,iT n]] w fun e w'=>e=.returned (.bool (cV k q d t n))∧Bl w w':=by
 have g:decide (-1000000≤n)=false:=decide_eq_false (by omega);go_enter Tryz.func91,Tryz.ntmps91
 go_wp2_with fail
 go_quiet (first | (go_at_call 131;refine Calls.quiet_of_same (v:=.bool true) ((fm _ _ hs).mono (fun e w' h=>by rw [hk] at h;exact h))))
 go_wp2;go_ret;exact ⟨aj (qu h3).symm,below_drewN bZ _⟩
theorem tN (k t:ByteArray) (q d n:Int) (w:World) (hs:k.size≤maxLen) (hk:d6 k=true) (h1:1≤q) (h2:q≤100000) (h3:-1000000≤n) (h4:1000000<n) :
 Calls Tryz.prog 91 #[.agg #[.string k,iT q,iT d,.string t,iT n]] w fun e w'=>e=.returned (.bool (cV k q d t n))∧Bl w w':=by
 have g:decide (n≤1000000)=false:=decide_eq_false (by omega);go_enter Tryz.func91,Tryz.ntmps91
 go_wp2_with fail
 go_quiet (first | (go_at_call 131;refine Calls.quiet_of_same (v:=.bool true) ((fm _ _ hs).mono (fun e w' h=>by rw [hk] at h;exact h))))
 go_wp2;go_ret;exact ⟨aj (qt h4).symm,below_drewN bZ _⟩
theorem vX (k t:ByteArray) (q d n:Int) (w:World) (hs:k.size≤maxLen) (hk:d6 k=true) (h1:1≤q) (h2:q≤100000) (h3:-1000000≤n) (h4:n≤1000000) (h5:60<t.size) :
 Calls Tryz.prog 91 #[.agg #[.string k,iT q,iT d,.string t,iT n]] w fun e w'=>e=.returned (.bool (cV k q d t n))∧Bl w w':=by
 have g:decide ((t.size:Int)≤60)=false:=decide_eq_false (by omega);go_enter Tryz.func91,Tryz.ntmps91
 go_wp2_with fail
 go_quiet (first | (go_at_call 131;refine Calls.quiet_of_same (v:=.bool true) ((fm _ _ hs).mono (fun e w' h=>by rw [hk] at h;exact h))))
 go_wp2;go_ret;exact ⟨aj (ue h5).symm,below_drewN bZ _⟩
theorem mi (k t:ByteArray) (q n:Int) (w:World) (hs:k.size≤maxLen) (ht:t.size≤60) (hk:d6 k=true) (h1:1≤q) (h2:q≤100000) (h3:-1000000≤n) (h4:n≤1000000) :
 Calls Tryz.prog 91 #[.agg #[.string k,iT q,iT 1,.string t,iT n]] w fun e w'=>e=.returned (.bool (cV k q 1 t n))∧Bl w w':=by
 have HR:Hid (cV k q 1 t n=eZ 1 t n):=dp hk h1 h2 h3 h4 ht;have ht':(t.size:Int)≤60:=by omega
 clear ht;go_enter Tryz.func91,Tryz.ntmps91
 go_wp2_with fail
 obtain ⟨X,hX⟩:=aw w.heap.size;obtain ⟨W,hW⟩:=aw (w.alloc (.cells #[.string k,iT q,iT 1,.string t,iT n] 59));have x0:W.cell? ⟨X,0,none⟩=some (.string k):=by rw [hW,hX];simp
 have x1:W.cell? ⟨X,1,none⟩=some (iT q):=by rw [hW,hX];simp
 have x2:W.cell? ⟨X,2,none⟩=some (iT 1):=by rw [hW,hX];simp
 have x3:W.cell? ⟨X,3,none⟩=some (.string t):=by rw [hW,hX];simp
 have x4:W.cell? ⟨X,4,none⟩=some (iT n):=by rw [hW,hX];simp
 have kW:Bl w W:=by rw [hW];exact bZ
 rw [← hW,← hX];clear hW hX;have HKW:Hid (Bl w W):=kW;clear kW;have k0:Bl W W.drew:=(Below.refl _ W).drew;have HMK:Hid (∀w',Bl W w'→(w'.cell? ⟨X,0,none⟩=some (.string k)∧w'.cell? ⟨X,1,none⟩=some (iT q)∧w'.cell? ⟨X,2,none⟩=some (iT 1)∧w'.cell? ⟨X,3,none⟩=some (.string t)∧w'.cell? ⟨X,4,none⟩=some (iT n)∧X<w'.heap.size∧Bl W w')):=fun w' k=>⟨cell_later k x0,cell_later k x1,cell_later k x2,cell_later k x3,cell_later k x4,World.block_lt_of_cell? _ _ (cell_later k x0),k⟩
 have hm : ∀ w : World, (method 386 203 (.agg #[]) "loop.example/comptoir/impl.fits").run Tryz.prog w = .ok (239, .agg #[]) w := fun _ => by kernel_rfl
 go_region_held3 (fun w'=>w'.cell? ⟨X,0,none⟩=some (.string k)∧w'.cell? ⟨X,1,none⟩=some (iT q)∧w'.cell? ⟨X,2,none⟩=some (iT 1)∧w'.cell? ⟨X,3,none⟩=some (.string t)∧w'.cell? ⟨X,4,none⟩=some (iT n)∧X<w'.heap.size∧Bl W w') (first | exact HMK.out _ k2 | exact HMK.out _ k1 | exact HMK.out _ k0) (first
  | (go_at_call 131;refine (fm _ _ hs).mono ?_;rw [hk];rintro e w' ⟨rfl,rfl⟩)
  | (go_at_call 132;refine (m4 _ _ _ _ _).mono ?_;rintro e w1 ⟨rfl,hb1⟩;have k1:Bl W w1:=k0.trans (hb1.mono k0.size))
  | (go_at_call 239;refine (qm _ _ _ _ _).mono ?_;rintro e w2 ⟨rfl,hb2⟩;have k2:Bl W w2:=k1.trans (hb2.mono k1.size)))
 go_wp2;go_ret;exact ⟨aj HR.out.symm,HKW.out.trans (k2.mono HKW.out.size)⟩
theorem mj (k t:ByteArray) (q n:Int) (w:World) (hs:k.size≤maxLen) (ht:t.size≤60) (hk:d6 k=true) (h1:1≤q) (h2:q≤100000) (h3:-1000000≤n) (h4:n≤1000000) :
 Calls Tryz.prog 91 #[.agg #[.string k,iT q,iT 2,.string t,iT n]] w fun e w'=>e=.returned (.bool (cV k q 2 t n))∧Bl w w':=by
 have HR:Hid (cV k q 2 t n=eZ 2 t n):=dp hk h1 h2 h3 h4 ht;have ht':(t.size:Int)≤60:=by omega
 clear ht;go_enter Tryz.func91,Tryz.ntmps91
 go_wp2_with fail
 obtain ⟨X,hX⟩:=aw w.heap.size;obtain ⟨W,hW⟩:=aw (w.alloc (.cells #[.string k,iT q,iT 2,.string t,iT n] 59));have x0:W.cell? ⟨X,0,none⟩=some (.string k):=by rw [hW,hX];simp
 have x1:W.cell? ⟨X,1,none⟩=some (iT q):=by rw [hW,hX];simp
 have x2:W.cell? ⟨X,2,none⟩=some (iT 2):=by rw [hW,hX];simp
 have x3:W.cell? ⟨X,3,none⟩=some (.string t):=by rw [hW,hX];simp
 have x4:W.cell? ⟨X,4,none⟩=some (iT n):=by rw [hW,hX];simp
 have kW:Bl w W:=by rw [hW];exact bZ
 rw [← hW,← hX];clear hW hX;have HKW:Hid (Bl w W):=kW;clear kW;have k0:Bl W W.drew:=(Below.refl _ W).drew;have HMK:Hid (∀w',Bl W w'→(w'.cell? ⟨X,0,none⟩=some (.string k)∧w'.cell? ⟨X,1,none⟩=some (iT q)∧w'.cell? ⟨X,2,none⟩=some (iT 2)∧w'.cell? ⟨X,3,none⟩=some (.string t)∧w'.cell? ⟨X,4,none⟩=some (iT n)∧X<w'.heap.size∧Bl W w')):=fun w' k=>⟨cell_later k x0,cell_later k x1,cell_later k x2,cell_later k x3,cell_later k x4,World.block_lt_of_cell? _ _ (cell_later k x0),k⟩
 have hm : ∀ w : World, (method 386 204 (.agg #[]) "loop.example/comptoir/impl.fits").run Tryz.prog w = .ok (241, .agg #[]) w := fun _ => by kernel_rfl
 go_region_held3 (fun w'=>w'.cell? ⟨X,0,none⟩=some (.string k)∧w'.cell? ⟨X,1,none⟩=some (iT q)∧w'.cell? ⟨X,2,none⟩=some (iT 2)∧w'.cell? ⟨X,3,none⟩=some (.string t)∧w'.cell? ⟨X,4,none⟩=some (iT n)∧X<w'.heap.size∧Bl W w') (first | exact HMK.out _ k2 | exact HMK.out _ k1 | exact HMK.out _ k0) (first
  | (go_at_call 131;refine (fm _ _ hs).mono ?_;rw [hk];rintro e w' ⟨rfl,rfl⟩)
  | (go_at_call 132;refine (m5 _ _ _ _ _).mono ?_;rintro e w1 ⟨rfl,hb1⟩;have k1:Bl W w1:=k0.trans (hb1.mono k0.size))
  | (go_at_call 241;refine (qn _ _ _ _ _).mono ?_;rintro e w2 ⟨rfl,hb2⟩;have k2:Bl W w2:=k1.trans (hb2.mono k1.size)))
 go_wp2;go_ret;exact ⟨aj HR.out.symm,HKW.out.trans (k2.mono HKW.out.size)⟩
theorem mo (k t:ByteArray) (q n:Int) (w:World) (hs:k.size≤maxLen) (ht:t.size≤60) (hk:d6 k=true) (h1:1≤q) (h2:q≤100000) (h3:-1000000≤n) (h4:n≤1000000) :
 Calls Tryz.prog 91 #[.agg #[.string k,iT q,iT 3,.string t,iT n]] w fun e w'=>e=.returned (.bool (cV k q 3 t n))∧Bl w w':=by
 have HR:Hid (cV k q 3 t n=eZ 3 t n):=dp hk h1 h2 h3 h4 ht;have ht':(t.size:Int)≤60:=by omega
 clear ht;go_enter Tryz.func91,Tryz.ntmps91
 go_wp2_with fail
 obtain ⟨X,hX⟩:=aw w.heap.size;obtain ⟨W,hW⟩:=aw (w.alloc (.cells #[.string k,iT q,iT 3,.string t,iT n] 59));have x0:W.cell? ⟨X,0,none⟩=some (.string k):=by rw [hW,hX];simp
 have x1:W.cell? ⟨X,1,none⟩=some (iT q):=by rw [hW,hX];simp
 have x2:W.cell? ⟨X,2,none⟩=some (iT 3):=by rw [hW,hX];simp
 have x3:W.cell? ⟨X,3,none⟩=some (.string t):=by rw [hW,hX];simp
 have x4:W.cell? ⟨X,4,none⟩=some (iT n):=by rw [hW,hX];simp
 have kW:Bl w W:=by rw [hW];exact bZ
 rw [← hW,← hX];clear hW hX;have HKW:Hid (Bl w W):=kW;clear kW;have k0:Bl W W.drew:=(Below.refl _ W).drew;have HMK:Hid (∀w',Bl W w'→(w'.cell? ⟨X,0,none⟩=some (.string k)∧w'.cell? ⟨X,1,none⟩=some (iT q)∧w'.cell? ⟨X,2,none⟩=some (iT 3)∧w'.cell? ⟨X,3,none⟩=some (.string t)∧w'.cell? ⟨X,4,none⟩=some (iT n)∧X<w'.heap.size∧Bl W w')):=fun w' k=>⟨cell_later k x0,cell_later k x1,cell_later k x2,cell_later k x3,cell_later k x4,World.block_lt_of_cell? _ _ (cell_later k x0),k⟩
 have hm : ∀ w : World, (method 386 205 (.agg #[]) "loop.example/comptoir/impl.fits").run Tryz.prog w = .ok (243, .agg #[]) w := fun _ => by kernel_rfl
 go_region_held3 (fun w'=>w'.cell? ⟨X,0,none⟩=some (.string k)∧w'.cell? ⟨X,1,none⟩=some (iT q)∧w'.cell? ⟨X,2,none⟩=some (iT 3)∧w'.cell? ⟨X,3,none⟩=some (.string t)∧w'.cell? ⟨X,4,none⟩=some (iT n)∧X<w'.heap.size∧Bl W w') (first | exact HMK.out _ k2 | exact HMK.out _ k1 | exact HMK.out _ k0) (first
  | (go_at_call 131;refine (fm _ _ hs).mono ?_;rw [hk];rintro e w' ⟨rfl,rfl⟩)
  | (go_at_call 132;refine (m6 _ _ _ _ _).mono ?_;rintro e w1 ⟨rfl,hb1⟩;have k1:Bl W w1:=k0.trans (hb1.mono k0.size))
  | (go_at_call 243;refine (qo _ _ _ _ _).mono ?_;rintro e w2 ⟨rfl,hb2⟩;have k2:Bl W w2:=k1.trans (hb2.mono k1.size)))
 go_wp2;go_ret;exact ⟨aj HR.out.symm,HKW.out.trans (k2.mono HKW.out.size)⟩
theorem nl (k t:ByteArray) (q d n:Int) (w:World) (hs:k.size≤maxLen) (ht:t.size≤60) (hk:d6 k=true) (h1:1≤q) (h2:q≤100000) (h3:-1000000≤n) (h4:n≤1000000) (d1:¬d=1) (d2:¬d=2) (d3:¬d=3) :
 Calls Tryz.prog 91 #[.agg #[.string k,iT q,iT d,.string t,iT n]] w fun e w'=>e=.returned (.bool (cV k q d t n))∧Bl w w':=by
 have HR:Hid (cV k q d t n=eZ d t n):=dp hk h1 h2 h3 h4 ht;have ht':(t.size:Int)≤60:=by omega
 clear ht;go_enter Tryz.func91,Tryz.ntmps91
 go_wp2_with fail
 obtain ⟨X,hX⟩:=aw w.heap.size;obtain ⟨W,hW⟩:=aw (w.alloc (.cells #[.string k,iT q,iT d,.string t,iT n] 59));have x0:W.cell? ⟨X,0,none⟩=some (.string k):=by rw [hW,hX];simp
 have x1:W.cell? ⟨X,1,none⟩=some (iT q):=by rw [hW,hX];simp
 have x2:W.cell? ⟨X,2,none⟩=some (iT d):=by rw [hW,hX];simp
 have x3:W.cell? ⟨X,3,none⟩=some (.string t):=by rw [hW,hX];simp
 have x4:W.cell? ⟨X,4,none⟩=some (iT n):=by rw [hW,hX];simp
 have kW:Bl w W:=by rw [hW];exact bZ
 rw [← hW,← hX];clear hW hX;have HKW:Hid (Bl w W):=kW;clear kW;have k0:Bl W W.drew:=(Below.refl _ W).drew;have HMK:Hid (∀w',Bl W w'→(w'.cell? ⟨X,0,none⟩=some (.string k)∧w'.cell? ⟨X,1,none⟩=some (iT q)∧w'.cell? ⟨X,2,none⟩=some (iT d)∧w'.cell? ⟨X,3,none⟩=some (.string t)∧w'.cell? ⟨X,4,none⟩=some (iT n)∧X<w'.heap.size∧Bl W w')):=fun w' k=>⟨cell_later k x0,cell_later k x1,cell_later k x2,cell_later k x3,cell_later k x4,World.block_lt_of_cell? _ _ (cell_later k x0),k⟩
 have hm : ∀ w : World, (method 386 206 (.agg #[]) "loop.example/comptoir/impl.fits").run Tryz.prog w = .ok (245, .agg #[]) w := fun _ => by kernel_rfl
 go_region_held3 (fun w'=>w'.cell? ⟨X,0,none⟩=some (.string k)∧w'.cell? ⟨X,1,none⟩=some (iT q)∧w'.cell? ⟨X,2,none⟩=some (iT d)∧w'.cell? ⟨X,3,none⟩=some (.string t)∧w'.cell? ⟨X,4,none⟩=some (iT n)∧X<w'.heap.size∧Bl W w') (first | exact HMK.out _ k2 | exact HMK.out _ k1 | exact HMK.out _ k0) (first
  | (go_at_call 131;refine (fm _ _ hs).mono ?_;rw [hk];rintro e w' ⟨rfl,rfl⟩)
  | (go_at_call 132;refine (n7 _ _ _ _ _ _ d1 d2 d3).mono ?_;rintro e w1 ⟨rfl,hb1⟩;have k1:Bl W w1:=k0.trans (hb1.mono k0.size))
  | (go_at_call 245;refine (rV _ _ _ _ _ _ d1 d2 d3).mono ?_;rintro e w2 ⟨rfl,hb2⟩;have k2:Bl W w2:=k1.trans (hb2.mono k1.size)))
 go_wp2;go_ret;exact ⟨aj HR.out.symm,HKW.out.trans (k2.mono HKW.out.size)⟩
theorem kC (k t:ByteArray) (q d n:Int) (w:World) (hs:k.size≤maxLen) :
 Calls Tryz.prog 91 #[.agg #[.string k,iT q,iT d,.string t,iT n]] w fun e w'=>e=.returned (.bool (cV k q d t n))∧Bl w w':=by
 cases hk:d6 k with
 | false=>exact rO k t q d n w hs hk
 | true =>
  by_cases h1:q<1
  · exact tM k t q d n w hs hk h1
  by_cases h2:100000<q
  · exact tL k t q d n w hs hk (by omega) h2
  by_cases h3:n < -1000000
  · exact tO k t q d n w hs hk (by omega) (by omega) h3
  by_cases h4:1000000<n
  · exact tN k t q d n w hs hk (by omega) (by omega) (by omega) h4
  by_cases h5:60<t.size
  · exact vX k t q d n w hs hk (by omega) (by omega) (by omega) (by omega) h5
  by_cases d1:d=1
  · subst d1;exact mi k t q n w hs (by omega) hk (by omega) (by omega) (by omega) (by omega)
  by_cases d2:d=2
  · subst d2;exact mj k t q n w hs (by omega) hk (by omega) (by omega) (by omega) (by omega)
  by_cases d3:d=3
  · subst d3;exact mo k t q n w hs (by omega) hk (by omega) (by omega) (by omega) (by omega)
  exact nl k t q d n w hs (by omega) hk (by omega) (by omega) (by omega) (by omega) d1 d2 d3
end
end Go.Proofs.YtehiefdphnljaaaGreatDoor
