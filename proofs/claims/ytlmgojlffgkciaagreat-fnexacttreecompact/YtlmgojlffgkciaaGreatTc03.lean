/-
  What the program's EntryOk answers at every entry, by walks of its Go text.
-/
import Derived.Deep.RegionHeld3
import Derived.Deep.DeepCutAuto
import Derived.Deep.QuietTactic
import Derived.BigQuiet
import Derived.Test.YtlmgojlffgkciaaGreatTc02
import Derived.Deep.LoopGhost
import Derived.Test.YtlmgojlffgkciaaGreatTc00
namespace Go.Proofs.YtlmgojlffgkciaaGreat
open Go.RowKit
set_option maxRecDepth 100000
set_option maxHeartbeats 2000000
attribute [local go_sem] Oper.semAt_some
theorem below_drewN {B:Nat} {w w':World} (h:Below B w w') (n:Nat):Below B w (w'.drewN n):=h.trans ⟨rfl,rfl,rfl,Nat.le_refl _,fun _ _=>rfl⟩
theorem tB (k t:ByteArray) (q d n:Int) (w:World) (hs:k.size≤maxLen) (hk:eX k=false) :
 Calls Tryz.prog 140 #[.agg #[.string k,iT q,iT d,.string t,iT n]] w fun e w'=>e=.returned (.bool (dc k q d t n))∧Bl w w':=by
 go_enter Tryz.func140,Tryz.ntmps140
 go_wp2_with fail
 go_quiet (first | (go_at_call 175;refine Calls.quiet_of_same (v:=.bool false) ((fH _ _ hs).mono (fun e w' h=>by rw [hk] at h;exact h))))
 go_wp2;go_ret;exact ⟨aq (tN hk).symm,below_drewN bZ _⟩
theorem vg (k t:ByteArray) (q d n:Int) (w:World) (hs:k.size≤maxLen) (hk:eX k=true) (h1:q<1) :
 Calls Tryz.prog 140 #[.agg #[.string k,iT q,iT d,.string t,iT n]] w fun e w'=>e=.returned (.bool (dc k q d t n))∧Bl w w':=by
 have g:decide (1≤q)=false:=decide_eq_false (by omega);go_enter Tryz.func140,Tryz.ntmps140
 go_wp2_with fail
 go_quiet (first | (go_at_call 175;refine Calls.quiet_of_same (v:=.bool true) ((fH _ _ hs).mono (fun e w' h=>by rw [hk] at h;exact h))))
 go_wp2;go_ret;exact ⟨aq (wy h1).symm,below_drewN bZ _⟩
theorem ve (k t:ByteArray) (q d n:Int) (w:World) (hs:k.size≤maxLen) (hk:eX k=true) (h1:1≤q) (h2:100000<q) :
 Calls Tryz.prog 140 #[.agg #[.string k,iT q,iT d,.string t,iT n]] w fun e w'=>e=.returned (.bool (dc k q d t n))∧Bl w w':=by
 have g:decide (q≤100000)=false:=decide_eq_false (by omega);go_enter Tryz.func140,Tryz.ntmps140
 go_wp2_with fail
 go_quiet (first | (go_at_call 175;refine Calls.quiet_of_same (v:=.bool true) ((fH _ _ hs).mono (fun e w' h=>by rw [hk] at h;exact h))))
 go_wp2;go_ret;exact ⟨aq (ww h2).symm,below_drewN bZ _⟩
theorem vi (k t:ByteArray) (q d n:Int) (w:World) (hs:k.size≤maxLen) (hk:eX k=true) (h1:1≤q) (h2:q≤100000) (h3:n < -1000000) :
 Calls Tryz.prog 140 #[.agg #[.string k,iT q,iT d,.string t,iT n]] w fun e w'=>e=.returned (.bool (dc k q d t n))∧Bl w w':=by
 have g:decide (-1000000≤n)=false:=decide_eq_false (by omega);go_enter Tryz.func140,Tryz.ntmps140
 go_wp2_with fail
 go_quiet (first | (go_at_call 175;refine Calls.quiet_of_same (v:=.bool true) ((fH _ _ hs).mono (fun e w' h=>by rw [hk] at h;exact h))))
 go_wp2;go_ret;exact ⟨aq (wH h3).symm,below_drewN bZ _⟩
theorem vh (k t:ByteArray) (q d n:Int) (w:World) (hs:k.size≤maxLen) (hk:eX k=true) (h1:1≤q) (h2:q≤100000) (h3:-1000000≤n) (h4:1000000<n) :
 Calls Tryz.prog 140 #[.agg #[.string k,iT q,iT d,.string t,iT n]] w fun e w'=>e=.returned (.bool (dc k q d t n))∧Bl w w':=by
 have g:decide (n≤1000000)=false:=decide_eq_false (by omega);go_enter Tryz.func140,Tryz.ntmps140
 go_wp2_with fail
 go_quiet (first | (go_at_call 175;refine Calls.quiet_of_same (v:=.bool true) ((fH _ _ hs).mono (fun e w' h=>by rw [hk] at h;exact h))))
 go_wp2;go_ret;exact ⟨aq (wG h4).symm,below_drewN bZ _⟩
theorem xV (k t:ByteArray) (q d n:Int) (w:World) (hs:k.size≤maxLen) (hk:eX k=true) (h1:1≤q) (h2:q≤100000) (h3:-1000000≤n) (h4:n≤1000000) (h5:60<t.size) :
 Calls Tryz.prog 140 #[.agg #[.string k,iT q,iT d,.string t,iT n]] w fun e w'=>e=.returned (.bool (dc k q d t n))∧Bl w w':=by
 have g:decide ((t.size:Int)≤60)=false:=decide_eq_false (by omega);go_enter Tryz.func140,Tryz.ntmps140
 go_wp2_with fail
 go_quiet (first | (go_at_call 175;refine Calls.quiet_of_same (v:=.bool true) ((fH _ _ hs).mono (fun e w' h=>by rw [hk] at h;exact h))))
 go_wp2;go_ret;exact ⟨aq (Ad h5).symm,below_drewN bZ _⟩
theorem m4 (k t:ByteArray) (q n:Int) (w:World) (hs:k.size≤maxLen) (ht:t.size≤60) (hk:eX k=true) (h1:1≤q) (h2:q≤100000) (h3:-1000000≤n) (h4:n≤1000000) :
 Calls Tryz.prog 140 #[.agg #[.string k,iT q,iT 1,.string t,iT n]] w fun e w'=>e=.returned (.bool (dc k q 1 t n))∧Bl w w':=by
 have HR:Hid (dc k q 1 t n=fc 1 t n):=dX hk h1 h2 h3 h4 ht;have ht':(t.size:Int)≤60:=by omega
 clear ht;go_enter Tryz.func140,Tryz.ntmps140
 go_wp2_with fail
 obtain ⟨X,hX⟩:=ay w.heap.size;obtain ⟨W,hW⟩:=ay (w.alloc (.cells #[.string k,iT q,iT 1,.string t,iT n] 78));have x0:W.cell? ⟨X,0,none⟩=some (.string k):=by rw [hW,hX];simp
 have x1:W.cell? ⟨X,1,none⟩=some (iT q):=by rw [hW,hX];simp
 have x2:W.cell? ⟨X,2,none⟩=some (iT 1):=by rw [hW,hX];simp
 have x3:W.cell? ⟨X,3,none⟩=some (.string t):=by rw [hW,hX];simp
 have x4:W.cell? ⟨X,4,none⟩=some (iT n):=by rw [hW,hX];simp
 have kW:Bl w W:=by rw [hW];exact bZ
 rw [← hW,← hX];clear hW hX;have HKW:Hid (Bl w W):=kW;clear kW;have k0:Bl W W.drew:=(Below.refl _ W).drew;have HMK:Hid (∀w',Bl W w'→(w'.cell? ⟨X,0,none⟩=some (.string k)∧w'.cell? ⟨X,1,none⟩=some (iT q)∧w'.cell? ⟨X,2,none⟩=some (iT 1)∧w'.cell? ⟨X,3,none⟩=some (.string t)∧w'.cell? ⟨X,4,none⟩=some (iT n)∧X<w'.heap.size∧Bl W w')):=fun w' k=>⟨cell_later k x0,cell_later k x1,cell_later k x2,cell_later k x3,cell_later k x4,World.block_lt_of_cell? _ _ (cell_later k x0),k⟩
 have hm : ∀ w : World, (method 373 203 (.agg #[]) "loop.example/comptoir/impl.fits").run Tryz.prog w = .ok (262, .agg #[]) w := fun _ => by kernel_rfl
 go_region_held3 (fun w'=>w'.cell? ⟨X,0,none⟩=some (.string k)∧w'.cell? ⟨X,1,none⟩=some (iT q)∧w'.cell? ⟨X,2,none⟩=some (iT 1)∧w'.cell? ⟨X,3,none⟩=some (.string t)∧w'.cell? ⟨X,4,none⟩=some (iT n)∧X<w'.heap.size∧Bl W w') (first | exact HMK.out _ k2 | exact HMK.out _ k1 | exact HMK.out _ k0) (first
  | (go_at_call 175;refine (fH _ _ hs).mono ?_;rw [hk];rintro e w' ⟨rfl,rfl⟩)
  | (go_at_call 138;refine (oO _ _ _ _ _).mono ?_;rintro e w1 ⟨rfl,hb1⟩;have k1:Bl W w1:=k0.trans (hb1.mono k0.size))
  | (go_at_call 262;refine (rx _ _ _ _ _).mono ?_;rintro e w2 ⟨rfl,hb2⟩;have k2:Bl W w2:=k1.trans (hb2.mono k1.size)))
 go_wp2;go_ret;exact ⟨aq HR.out.symm,HKW.out.trans (k2.mono HKW.out.size)⟩
theorem m5 (k t:ByteArray) (q n:Int) (w:World) (hs:k.size≤maxLen) (ht:t.size≤60) (hk:eX k=true) (h1:1≤q) (h2:q≤100000) (h3:-1000000≤n) (h4:n≤1000000) :
 Calls Tryz.prog 140 #[.agg #[.string k,iT q,iT 2,.string t,iT n]] w fun e w'=>e=.returned (.bool (dc k q 2 t n))∧Bl w w':=by
 have HR:Hid (dc k q 2 t n=fc 2 t n):=dX hk h1 h2 h3 h4 ht;have ht':(t.size:Int)≤60:=by omega
 clear ht;go_enter Tryz.func140,Tryz.ntmps140
 go_wp2_with fail
 obtain ⟨X,hX⟩:=ay w.heap.size;obtain ⟨W,hW⟩:=ay (w.alloc (.cells #[.string k,iT q,iT 2,.string t,iT n] 78));have x0:W.cell? ⟨X,0,none⟩=some (.string k):=by rw [hW,hX];simp
 have x1:W.cell? ⟨X,1,none⟩=some (iT q):=by rw [hW,hX];simp
 have x2:W.cell? ⟨X,2,none⟩=some (iT 2):=by rw [hW,hX];simp
 have x3:W.cell? ⟨X,3,none⟩=some (.string t):=by rw [hW,hX];simp
 have x4:W.cell? ⟨X,4,none⟩=some (iT n):=by rw [hW,hX];simp
 have kW:Bl w W:=by rw [hW];exact bZ
 rw [← hW,← hX];clear hW hX;have HKW:Hid (Bl w W):=kW;clear kW;have k0:Bl W W.drew:=(Below.refl _ W).drew;have HMK:Hid (∀w',Bl W w'→(w'.cell? ⟨X,0,none⟩=some (.string k)∧w'.cell? ⟨X,1,none⟩=some (iT q)∧w'.cell? ⟨X,2,none⟩=some (iT 2)∧w'.cell? ⟨X,3,none⟩=some (.string t)∧w'.cell? ⟨X,4,none⟩=some (iT n)∧X<w'.heap.size∧Bl W w')):=fun w' k=>⟨cell_later k x0,cell_later k x1,cell_later k x2,cell_later k x3,cell_later k x4,World.block_lt_of_cell? _ _ (cell_later k x0),k⟩
 have hm : ∀ w : World, (method 373 204 (.agg #[]) "loop.example/comptoir/impl.fits").run Tryz.prog w = .ok (264, .agg #[]) w := fun _ => by kernel_rfl
 go_region_held3 (fun w'=>w'.cell? ⟨X,0,none⟩=some (.string k)∧w'.cell? ⟨X,1,none⟩=some (iT q)∧w'.cell? ⟨X,2,none⟩=some (iT 2)∧w'.cell? ⟨X,3,none⟩=some (.string t)∧w'.cell? ⟨X,4,none⟩=some (iT n)∧X<w'.heap.size∧Bl W w') (first | exact HMK.out _ k2 | exact HMK.out _ k1 | exact HMK.out _ k0) (first
  | (go_at_call 175;refine (fH _ _ hs).mono ?_;rw [hk];rintro e w' ⟨rfl,rfl⟩)
  | (go_at_call 138;refine (oP _ _ _ _ _).mono ?_;rintro e w1 ⟨rfl,hb1⟩;have k1:Bl W w1:=k0.trans (hb1.mono k0.size))
  | (go_at_call 264;refine (ry _ _ _ _ _).mono ?_;rintro e w2 ⟨rfl,hb2⟩;have k2:Bl W w2:=k1.trans (hb2.mono k1.size)))
 go_wp2;go_ret;exact ⟨aq HR.out.symm,HKW.out.trans (k2.mono HKW.out.size)⟩
theorem m7 (k t:ByteArray) (q n:Int) (w:World) (hs:k.size≤maxLen) (ht:t.size≤60) (hk:eX k=true) (h1:1≤q) (h2:q≤100000) (h3:-1000000≤n) (h4:n≤1000000) :
 Calls Tryz.prog 140 #[.agg #[.string k,iT q,iT 3,.string t,iT n]] w fun e w'=>e=.returned (.bool (dc k q 3 t n))∧Bl w w':=by
 have HR:Hid (dc k q 3 t n=fc 3 t n):=dX hk h1 h2 h3 h4 ht;have ht':(t.size:Int)≤60:=by omega
 clear ht;go_enter Tryz.func140,Tryz.ntmps140
 go_wp2_with fail
 obtain ⟨X,hX⟩:=ay w.heap.size;obtain ⟨W,hW⟩:=ay (w.alloc (.cells #[.string k,iT q,iT 3,.string t,iT n] 78));have x0:W.cell? ⟨X,0,none⟩=some (.string k):=by rw [hW,hX];simp
 have x1:W.cell? ⟨X,1,none⟩=some (iT q):=by rw [hW,hX];simp
 have x2:W.cell? ⟨X,2,none⟩=some (iT 3):=by rw [hW,hX];simp
 have x3:W.cell? ⟨X,3,none⟩=some (.string t):=by rw [hW,hX];simp
 have x4:W.cell? ⟨X,4,none⟩=some (iT n):=by rw [hW,hX];simp
 have kW:Bl w W:=by rw [hW];exact bZ
 rw [← hW,← hX];clear hW hX;have HKW:Hid (Bl w W):=kW;clear kW;have k0:Bl W W.drew:=(Below.refl _ W).drew;have HMK:Hid (∀w',Bl W w'→(w'.cell? ⟨X,0,none⟩=some (.string k)∧w'.cell? ⟨X,1,none⟩=some (iT q)∧w'.cell? ⟨X,2,none⟩=some (iT 3)∧w'.cell? ⟨X,3,none⟩=some (.string t)∧w'.cell? ⟨X,4,none⟩=some (iT n)∧X<w'.heap.size∧Bl W w')):=fun w' k=>⟨cell_later k x0,cell_later k x1,cell_later k x2,cell_later k x3,cell_later k x4,World.block_lt_of_cell? _ _ (cell_later k x0),k⟩
 have hm : ∀ w : World, (method 373 205 (.agg #[]) "loop.example/comptoir/impl.fits").run Tryz.prog w = .ok (266, .agg #[]) w := fun _ => by kernel_rfl
 go_region_held3 (fun w'=>w'.cell? ⟨X,0,none⟩=some (.string k)∧w'.cell? ⟨X,1,none⟩=some (iT q)∧w'.cell? ⟨X,2,none⟩=some (iT 3)∧w'.cell? ⟨X,3,none⟩=some (.string t)∧w'.cell? ⟨X,4,none⟩=some (iT n)∧X<w'.heap.size∧Bl W w') (first | exact HMK.out _ k2 | exact HMK.out _ k1 | exact HMK.out _ k0) (first
  | (go_at_call 175;refine (fH _ _ hs).mono ?_;rw [hk];rintro e w' ⟨rfl,rfl⟩)
  | (go_at_call 138;refine (oQ _ _ _ _ _).mono ?_;rintro e w1 ⟨rfl,hb1⟩;have k1:Bl W w1:=k0.trans (hb1.mono k0.size))
  | (go_at_call 266;refine (rD _ _ _ _ _).mono ?_;rintro e w2 ⟨rfl,hb2⟩;have k2:Bl W w2:=k1.trans (hb2.mono k1.size)))
 go_wp2;go_ret;exact ⟨aq HR.out.symm,HKW.out.trans (k2.mono HKW.out.size)⟩
theorem oX (k t:ByteArray) (q d n:Int) (w:World) (hs:k.size≤maxLen) (ht:t.size≤60) (hk:eX k=true) (h1:1≤q) (h2:q≤100000) (h3:-1000000≤n) (h4:n≤1000000) (d1:¬d=1) (d2:¬d=2) (d3:¬d=3) :
 Calls Tryz.prog 140 #[.agg #[.string k,iT q,iT d,.string t,iT n]] w fun e w'=>e=.returned (.bool (dc k q d t n))∧Bl w w':=by
 have HR:Hid (dc k q d t n=fc d t n):=dX hk h1 h2 h3 h4 ht;have ht':(t.size:Int)≤60:=by omega
 clear ht;go_enter Tryz.func140,Tryz.ntmps140
 go_wp2_with fail
 obtain ⟨X,hX⟩:=ay w.heap.size;obtain ⟨W,hW⟩:=ay (w.alloc (.cells #[.string k,iT q,iT d,.string t,iT n] 78));have x0:W.cell? ⟨X,0,none⟩=some (.string k):=by rw [hW,hX];simp
 have x1:W.cell? ⟨X,1,none⟩=some (iT q):=by rw [hW,hX];simp
 have x2:W.cell? ⟨X,2,none⟩=some (iT d):=by rw [hW,hX];simp
 have x3:W.cell? ⟨X,3,none⟩=some (.string t):=by rw [hW,hX];simp
 have x4:W.cell? ⟨X,4,none⟩=some (iT n):=by rw [hW,hX];simp
 have kW:Bl w W:=by rw [hW];exact bZ
 rw [← hW,← hX];clear hW hX;have HKW:Hid (Bl w W):=kW;clear kW;have k0:Bl W W.drew:=(Below.refl _ W).drew;have HMK:Hid (∀w',Bl W w'→(w'.cell? ⟨X,0,none⟩=some (.string k)∧w'.cell? ⟨X,1,none⟩=some (iT q)∧w'.cell? ⟨X,2,none⟩=some (iT d)∧w'.cell? ⟨X,3,none⟩=some (.string t)∧w'.cell? ⟨X,4,none⟩=some (iT n)∧X<w'.heap.size∧Bl W w')):=fun w' k=>⟨cell_later k x0,cell_later k x1,cell_later k x2,cell_later k x3,cell_later k x4,World.block_lt_of_cell? _ _ (cell_later k x0),k⟩
 have hm : ∀ w : World, (method 373 206 (.agg #[]) "loop.example/comptoir/impl.fits").run Tryz.prog w = .ok (268, .agg #[]) w := fun _ => by kernel_rfl
 go_region_held3 (fun w'=>w'.cell? ⟨X,0,none⟩=some (.string k)∧w'.cell? ⟨X,1,none⟩=some (iT q)∧w'.cell? ⟨X,2,none⟩=some (iT d)∧w'.cell? ⟨X,3,none⟩=some (.string t)∧w'.cell? ⟨X,4,none⟩=some (iT n)∧X<w'.heap.size∧Bl W w') (first | exact HMK.out _ k2 | exact HMK.out _ k1 | exact HMK.out _ k0) (first
  | (go_at_call 175;refine (fH _ _ hs).mono ?_;rw [hk];rintro e w' ⟨rfl,rfl⟩)
  | (go_at_call 138;refine (pI _ _ _ _ _ _ d1 d2 d3).mono ?_;rintro e w1 ⟨rfl,hb1⟩;have k1:Bl W w1:=k0.trans (hb1.mono k0.size))
  | (go_at_call 268;refine (tJ _ _ _ _ _ _ d1 d2 d3).mono ?_;rintro e w2 ⟨rfl,hb2⟩;have k2:Bl W w2:=k1.trans (hb2.mono k1.size)))
 go_wp2;go_ret;exact ⟨aq HR.out.symm,HKW.out.trans (k2.mono HKW.out.size)⟩
theorem vZ (k t:ByteArray) (q d n:Int) (w:World) (hs:k.size≤maxLen) :
 Calls Tryz.prog 140 #[.agg #[.string k,iT q,iT d,.string t,iT n]] w fun e w'=>e=.returned (.bool (dc k q d t n))∧Bl w w':=by
 cases hk:eX k with
 | false=>exact tB k t q d n w hs hk
 | true =>
  by_cases h1:q<1
  · exact vg k t q d n w hs hk h1
  by_cases h2:100000<q
  · exact ve k t q d n w hs hk (by omega) h2
  by_cases h3:n < -1000000
  · exact vi k t q d n w hs hk (by omega) (by omega) h3
  by_cases h4:1000000<n
  · exact vh k t q d n w hs hk (by omega) (by omega) (by omega) h4
  by_cases h5:60<t.size
  · exact xV k t q d n w hs hk (by omega) (by omega) (by omega) (by omega) h5
  by_cases d1:d=1
  · subst d1;exact m4 k t q n w hs (by omega) hk (by omega) (by omega) (by omega) (by omega)
  by_cases d2:d=2
  · subst d2;exact m5 k t q n w hs (by omega) hk (by omega) (by omega) (by omega) (by omega)
  by_cases d3:d=3
  · subst d3;exact m7 k t q n w hs (by omega) hk (by omega) (by omega) (by omega) (by omega)
  exact oX k t q d n w hs (by omega) hk (by omega) (by omega) (by omega) (by omega) d1 d2 d3
end Go.Proofs.YtlmgojlffgkciaaGreat

namespace Go.Proofs.YtlmgojlffgkciaaGreat
open Go.RowKit
set_option maxHeartbeats 800000 in
theorem pS (a:Option Addr) (len cap:Nat) (L:List ac) (w:World) (hL:af w a len cap L) :
 Calls Tryz.prog 141 #[.slice a len cap] w fun e w'=>e=.returned (iT ((dg L:Nat):Int))∧Bl w w':=by
 have HLEN:Hid (L.length=len):=hL.length;have hbl:=hL.room;have hbc:=hL.big;unfold maxLen at hbc;have HL:=bc hL;clear hL;go_enter Tryz.func141,Tryz.ntmps141
 go_wp2;go_loopw [3,4] (fun m i wr=>∃k p:Nat,k≤len∧i=iT k∧m=iT p∧p<65536∧Bl w wr∧p=dg (L.take k)) (fun _ i _=>len - (intOf i).toNat)
 case atStart=>exact ⟨0,0,Nat.zero_le _,rfl,rfl,by omega,Below.refl _ _,rfl⟩
 case round =>
  obtain ⟨k,p,hk,rfl,rfl,hp,hb,hm⟩:=hrel;have HM:Hid (p=dg (L.take k)):=hm;clear hm;by_cases hlt:k<len
  · obtain ⟨b,off,rfl,hbb⟩:=HL.out.form (by omega);obtain ⟨s,q,d,t,n,hg,hlw,g0,g1,g2,g3,g4⟩:=HL.out.ent hb hbb k hlt;have HG:Hid (L[k]?=some (s,q,d,t,n)):=hg;have hs:=hlw.1;simp only at hs;clear hg hlw;obtain ⟨z,hz⟩:=ay (gJ s);have hz1:z<65536:=by rw [hz];exact oH s
    have CK:Hid (∀w,Calls Tryz.prog 177 #[.string s] w fun e w'=>e=.returned (iT (z:Int))∧w'=w):=by rw [hz];exact fun w=>yW s w hs
    have CO:Hid (∀w,Calls Tryz.prog 176 #[iT p,iT z] w fun e w'=>e=.returned (iT ((p ||| z:Nat):Int))∧w'=w):=fun w=>yU p z w hp hz1
    have HN:Hid (p ||| z=dg (L.take (k+1))):=by
     show p ||| z=dg (L.take (k+1))
     rw [oG HG.out,← HM.out,hz]
    clear hz;go_wp2_with (first | (go_at_call 177;refine (CK.out _).mono ?_;rintro e w1 ⟨rfl,rfl⟩) | (go_at_call 176;refine (CO.out _).mono ?_;rintro e w2 ⟨rfl,rfl⟩))
    go_roundw
    case rel=>exact ⟨k+1,p ||| z,by omega,by go_num,rfl,ie hp hz1,hb,HN.out⟩
    case measure=>simp [intOf];omega
  · go_wp2;go_ret;refine ⟨iI ?_,hb⟩;have:=HM.out;rw [List.take_of_length_le (by rw [HLEN.out];omega)] at this;rw [this]
set_option maxHeartbeats 800000 in
theorem qt (a:Option Addr) (len cap:Nat) (L:List ac) (w:World) (hL:af w a len cap L) :
 Calls Tryz.prog 146 #[.slice a len cap] w fun e w'=>e=.returned (iT ((dg L:Nat):Int))∧Bl w w':=by
 have HLEN:Hid (L.length=len):=hL.length;have hbl:=hL.room;have hbc:=hL.big;unfold maxLen at hbc;have HL:=bc hL;clear hL;go_enter Tryz.func146,Tryz.ntmps146
 go_wp2;go_loopw [3,8] (fun m i wr=>∃k p:Nat,k≤len∧i=iT k∧m=iT p∧p<65536∧Bl w wr∧p=dg (L.take k)) (fun _ i _=>len - (intOf i).toNat)
 case atStart=>exact ⟨0,0,Nat.zero_le _,rfl,rfl,by omega,Below.refl _ _,rfl⟩
 case round =>
  obtain ⟨k,p,hk,rfl,rfl,hp,hb,hm⟩:=hrel;have HM:Hid (p=dg (L.take k)):=hm;clear hm;by_cases hlt:k<len
  · obtain ⟨b,off,rfl,hbb⟩:=HL.out.form (by omega);obtain ⟨s,q,d,t,n,hg,hlw,g0,g1,g2,g3,g4⟩:=HL.out.ent hb hbb k hlt;have HG:Hid (L[k]?=some (s,q,d,t,n)):=hg;have hs:=hlw.1;simp only at hs;clear hg hlw;obtain ⟨z,hz⟩:=ay (gJ s);have hz1:z<65536:=by rw [hz];exact oH s
    have CK:Hid (∀w,Calls Tryz.prog 184 #[.string s] w fun e w'=>e=.returned (iT (z:Int))∧Bl w w'):=by rw [hz];exact fun w=>zM s w hs
    have HN:Hid (p ||| z=dg (L.take (k+1))):=by
     show p ||| z=dg (L.take (k+1))
     rw [oG HG.out,← HM.out,hz]
    have hor:=wO p z hp hz1;clear hz;go_wp2_with (go_at_call 184;refine (CK.out _).mono ?_;rintro e w1 ⟨rfl,hb1⟩;obtain ⟨hc1,hf1⟩:=qJ hb1)
    go_roundw
    case rel=>exact ⟨k+1,p ||| z,by omega,by go_num,by rw [← hor],ie hp hz1,(hb.alloc (by have:=hb.size;omega) _).trans (hb1.mono (by have:=hb.size;simp;omega)),HN.out⟩
    case measure=>simp [intOf];omega
  · go_wp2;go_ret;refine ⟨iI ?_,hb⟩;have:=HM.out;rw [List.take_of_length_le (by rw [HLEN.out];omega)] at this;rw [this]
end Go.Proofs.YtlmgojlffgkciaaGreat
