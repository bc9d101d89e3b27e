/-
  What the program's EntryOk answers at every entry, by walks of its Go text.
-/
import Derived.Deep.RegionHeld3
import Derived.Deep.DeepCutAuto
import Derived.Deep.QuietTactic
import Derived.BigQuiet
import Derived.Test.YtgpcinihgofmfaaGreatDoorSt15
import Derived.Deep.RegionWith
import Derived.Test.YtgpcinihgofmfaaGreatDoorSt13
import Derived.Test.YtgpcinihgofmfaaGreatDoorSt00
import Derived.Test.YtgpcinihgofmfaaGreatDoorSt02
namespace Go.Proofs.YtgpcinihgofmfaaGreatDoor
open Go.RowKit
set_option maxRecDepth 100000
set_option maxHeartbeats 2000000
attribute [local go_sem] Oper.semAt_some
theorem below_drewN {B:Nat} {w w':World} (h:Below B w w') (n:Nat):Below B w (w'.drewN n):=h.trans ⟨rfl,rfl,rfl,Nat.le_refl _,fun _ _=>rfl⟩
theorem rK (k t:ByteArray) (q d n:Int) (w:World) (hs:k.size≤maxLen) (hk:ei k=false) :
 Calls Tryz.prog 134 #[.agg #[.string k,iT q,iT d,.string t,iT n]] w fun e w'=>e=.returned (.bool (dr k q d t n))∧Bl w w':=by
 go_enter Tryz.func134,Tryz.ntmps134
 go_wp2_with fail
 go_quiet (first | (go_at_call 160;refine Calls.quiet_of_same (v:=.bool false) ((fp _ _ hs).mono (fun e w' h=>by rw [hk] at h;exact h))))
 go_wp2;go_ret;exact ⟨aq (jg hk).symm,below_drewN bZ _⟩
theorem tx (k t:ByteArray) (q d n:Int) (w:World) (hs:k.size≤maxLen) (hk:ei k=true) (h1:q<1) :
 Calls Tryz.prog 134 #[.agg #[.string k,iT q,iT d,.string t,iT n]] w fun e w'=>e=.returned (.bool (dr k q d t n))∧Bl w w':=by
 have g:decide (1≤q)=false:=decide_eq_false (by omega);go_enter Tryz.func134,Tryz.ntmps134
 go_wp2_with fail
 go_quiet (first | (go_at_call 160;refine Calls.quiet_of_same (v:=.bool true) ((fp _ _ hs).mono (fun e w' h=>by rw [hk] at h;exact h))))
 go_wp2;go_ret;exact ⟨aq (qs h1).symm,below_drewN bZ _⟩
theorem tw (k t:ByteArray) (q d n:Int) (w:World) (hs:k.size≤maxLen) (hk:ei k=true) (h1:1≤q) (h2:100000<q) :
 Calls Tryz.prog 134 #[.agg #[.string k,iT q,iT d,.string t,iT n]] w fun e w'=>e=.returned (.bool (dr k q d t n))∧Bl w w':=by
 have g:decide (q≤100000)=false:=decide_eq_false (by omega);go_enter Tryz.func134,Tryz.ntmps134
 go_wp2_with fail
 go_quiet (first | (go_at_call 160;refine Calls.quiet_of_same (v:=.bool true) ((fp _ _ hs).mono (fun e w' h=>by rw [hk] at h;exact h))))
 go_wp2;go_ret;exact ⟨aq (qr h2).symm,below_drewN bZ _⟩
theorem tA (k t:ByteArray) (q d n:Int) (w:World) (hs:k.size≤maxLen) (hk:ei k=true) (h1:1≤q) (h2:q≤100000) (h3:n < -1000000) :
 Calls Tryz.prog 134 #[.agg #[.string k,iT q,iT d,.string t,iT n]] w fun e w'=>e=.returned (.bool (dr k q d t n))∧Bl w w':=by
 have g:decide (-1000000≤n)=false:=decide_eq_false (by omega);go_enter Tryz.func134,Tryz.ntmps134
 go_wp2_with fail
 go_quiet (first | (go_at_call 160;refine Calls.quiet_of_same (v:=.bool true) ((fp _ _ hs).mono (fun e w' h=>by rw [hk] at h;exact h))))
 go_wp2;go_ret;exact ⟨aq (qu h3).symm,below_drewN bZ _⟩
theorem ty (k t:ByteArray) (q d n:Int) (w:World) (hs:k.size≤maxLen) (hk:ei k=true) (h1:1≤q) (h2:q≤100000) (h3:-1000000≤n) (h4:1000000<n) :
 Calls Tryz.prog 134 #[.agg #[.string k,iT q,iT d,.string t,iT n]] w fun e w'=>e=.returned (.bool (dr k q d t n))∧Bl w w':=by
 have g:decide (n≤1000000)=false:=decide_eq_false (by omega);go_enter Tryz.func134,Tryz.ntmps134
 go_wp2_with fail
 go_quiet (first | (go_at_call 160;refine Calls.quiet_of_same (v:=.bool true) ((fp _ _ hs).mono (fun e w' h=>by rw [hk] at h;exact h))))
 go_wp2;go_ret;exact ⟨aq (qt h4).symm,below_drewN bZ _⟩
theorem vJ (k t:ByteArray) (q d n:Int) (w:World) (hs:k.size≤maxLen) (hk:ei k=true) (h1:1≤q) (h2:q≤100000) (h3:-1000000≤n) (h4:n≤1000000) (h5:60<t.size) :
 Calls Tryz.prog 134 #[.agg #[.string k,iT q,iT d,.string t,iT n]] w fun e w'=>e=.returned (.bool (dr k q d t n))∧Bl w w':=by
 have g:decide ((t.size:Int)≤60)=false:=decide_eq_false (by omega);go_enter Tryz.func134,Tryz.ntmps134
 go_wp2_with fail
 go_quiet (first | (go_at_call 160;refine Calls.quiet_of_same (v:=.bool true) ((fp _ _ hs).mono (fun e w' h=>by rw [hk] at h;exact h))))
 go_wp2;go_ret;exact ⟨aq (tQ h5).symm,below_drewN bZ _⟩
theorem mf (k t:ByteArray) (q n:Int) (w:World) (hs:k.size≤maxLen) (ht:t.size≤60) (hk:ei k=true) (h1:1≤q) (h2:q≤100000) (h3:-1000000≤n) (h4:n≤1000000) :
 Calls Tryz.prog 134 #[.agg #[.string k,iT q,iT 1,.string t,iT n]] w fun e w'=>e=.returned (.bool (dr k q 1 t n))∧Bl w w':=by
 have HR:Hid (dr k q 1 t n=fc 1 t n):=dp hk h1 h2 h3 h4 ht;have ht':(t.size:Int)≤60:=by omega
 clear ht;go_enter Tryz.func134,Tryz.ntmps134
 go_wp2_with fail
 obtain ⟨X,hX⟩:=aw w.heap.size;obtain ⟨W,hW⟩:=aw (w.alloc (.cells #[.string k,iT q,iT 1,.string t,iT n] 123));have x0:W.cell? ⟨X,0,none⟩=some (.string k):=by rw [hW,hX];simp
 have x1:W.cell? ⟨X,1,none⟩=some (iT q):=by rw [hW,hX];simp
 have x2:W.cell? ⟨X,2,none⟩=some (iT 1):=by rw [hW,hX];simp
 have x3:W.cell? ⟨X,3,none⟩=some (.string t):=by rw [hW,hX];simp
 have x4:W.cell? ⟨X,4,none⟩=some (iT n):=by rw [hW,hX];simp
 have kW:Bl w W:=by rw [hW];exact bZ
 rw [← hW,← hX];clear hW hX;have HKW:Hid (Bl w W):=kW;clear kW;have k0:Bl W W.drew:=(Below.refl _ W).drew;have HMK:Hid (∀w',Bl W w'→(w'.cell? ⟨X,0,none⟩=some (.string k)∧w'.cell? ⟨X,1,none⟩=some (iT q)∧w'.cell? ⟨X,2,none⟩=some (iT 1)∧w'.cell? ⟨X,3,none⟩=some (.string t)∧w'.cell? ⟨X,4,none⟩=some (iT n)∧X<w'.heap.size∧Bl W w')):=fun w' k=>⟨cell_later k x0,cell_later k x1,cell_later k x2,cell_later k x3,cell_later k x4,World.block_lt_of_cell? _ _ (cell_later k x0),k⟩
 have hm : ∀ w : World, (method 386 229 (.agg #[]) "loop.example/comptoir/impl.fits").run Tryz.prog w = .ok (245, .agg #[]) w := fun _ => by kernel_rfl
 go_region_held3 (fun w'=>w'.cell? ⟨X,0,none⟩=some (.string k)∧w'.cell? ⟨X,1,none⟩=some (iT q)∧w'.cell? ⟨X,2,none⟩=some (iT 1)∧w'.cell? ⟨X,3,none⟩=some (.string t)∧w'.cell? ⟨X,4,none⟩=some (iT n)∧X<w'.heap.size∧Bl W w') (first | exact HMK.out _ k2 | exact HMK.out _ k1 | exact HMK.out _ k0) (first
  | (go_at_call 160;refine (fp _ _ hs).mono ?_;rw [hk];rintro e w' ⟨rfl,rfl⟩)
  | (go_at_call 161;refine (mZ _ _ _ _ _).mono ?_;rintro e w1 ⟨rfl,hb1⟩;have k1:Bl W w1:=k0.trans (hb1.mono k0.size))
  | (go_at_call 245;refine (qm _ _ _ _ _).mono ?_;rintro e w2 ⟨rfl,hb2⟩;have k2:Bl W w2:=k1.trans (hb2.mono k1.size)))
 go_wp2;go_ret;exact ⟨aq HR.out.symm,HKW.out.trans (k2.mono HKW.out.size)⟩
theorem mg (k t:ByteArray) (q n:Int) (w:World) (hs:k.size≤maxLen) (ht:t.size≤60) (hk:ei k=true) (h1:1≤q) (h2:q≤100000) (h3:-1000000≤n) (h4:n≤1000000) :
 Calls Tryz.prog 134 #[.agg #[.string k,iT q,iT 2,.string t,iT n]] w fun e w'=>e=.returned (.bool (dr k q 2 t n))∧Bl w w':=by
 have HR:Hid (dr k q 2 t n=fc 2 t n):=dp hk h1 h2 h3 h4 ht;have ht':(t.size:Int)≤60:=by omega
 clear ht;go_enter Tryz.func134,Tryz.ntmps134
 go_wp2_with fail
 obtain ⟨X,hX⟩:=aw w.heap.size;obtain ⟨W,hW⟩:=aw (w.alloc (.cells #[.string k,iT q,iT 2,.string t,iT n] 123));have x0:W.cell? ⟨X,0,none⟩=some (.string k):=by rw [hW,hX];simp
 have x1:W.cell? ⟨X,1,none⟩=some (iT q):=by rw [hW,hX];simp
 have x2:W.cell? ⟨X,2,none⟩=some (iT 2):=by rw [hW,hX];simp
 have x3:W.cell? ⟨X,3,none⟩=some (.string t):=by rw [hW,hX];simp
 have x4:W.cell? ⟨X,4,none⟩=some (iT n):=by rw [hW,hX];simp
 have kW:Bl w W:=by rw [hW];exact bZ
 rw [← hW,← hX];clear hW hX;have HKW:Hid (Bl w W):=kW;clear kW;have k0:Bl W W.drew:=(Below.refl _ W).drew;have HMK:Hid (∀w',Bl W w'→(w'.cell? ⟨X,0,none⟩=some (.string k)∧w'.cell? ⟨X,1,none⟩=some (iT q)∧w'.cell? ⟨X,2,none⟩=some (iT 2)∧w'.cell? ⟨X,3,none⟩=some (.string t)∧w'.cell? ⟨X,4,none⟩=some (iT n)∧X<w'.heap.size∧Bl W w')):=fun w' k=>⟨cell_later k x0,cell_later k x1,cell_later k x2,cell_later k x3,cell_later k x4,World.block_lt_of_cell? _ _ (cell_later k x0),k⟩
 have hm : ∀ w : World, (method 386 230 (.agg #[]) "loop.example/comptoir/impl.fits").run Tryz.prog w = .ok (247, .agg #[]) w := fun _ => by kernel_rfl
 go_region_held3 (fun w'=>w'.cell? ⟨X,0,none⟩=some (.string k)∧w'.cell? ⟨X,1,none⟩=some (iT q)∧w'.cell? ⟨X,2,none⟩=some (iT 2)∧w'.cell? ⟨X,3,none⟩=some (.string t)∧w'.cell? ⟨X,4,none⟩=some (iT n)∧X<w'.heap.size∧Bl W w') (first | exact HMK.out _ k2 | exact HMK.out _ k1 | exact HMK.out _ k0) (first
  | (go_at_call 160;refine (fp _ _ hs).mono ?_;rw [hk];rintro e w' ⟨rfl,rfl⟩)
  | (go_at_call 161;refine (m3 _ _ _ _ _).mono ?_;rintro e w1 ⟨rfl,hb1⟩;have k1:Bl W w1:=k0.trans (hb1.mono k0.size))
  | (go_at_call 247;refine (qn _ _ _ _ _).mono ?_;rintro e w2 ⟨rfl,hb2⟩;have k2:Bl W w2:=k1.trans (hb2.mono k1.size)))
 go_wp2;go_ret;exact ⟨aq HR.out.symm,HKW.out.trans (k2.mono HKW.out.size)⟩
theorem mh (k t:ByteArray) (q n:Int) (w:World) (hs:k.size≤maxLen) (ht:t.size≤60) (hk:ei k=true) (h1:1≤q) (h2:q≤100000) (h3:-1000000≤n) (h4:n≤1000000) :
 Calls Tryz.prog 134 #[.agg #[.string k,iT q,iT 3,.string t,iT n]] w fun e w'=>e=.returned (.bool (dr k q 3 t n))∧Bl w w':=by
 have HR:Hid (dr k q 3 t n=fc 3 t n):=dp hk h1 h2 h3 h4 ht;have ht':(t.size:Int)≤60:=by omega
 clear ht;go_enter Tryz.func134,Tryz.ntmps134
 go_wp2_with fail
 obtain ⟨X,hX⟩:=aw w.heap.size;obtain ⟨W,hW⟩:=aw (w.alloc (.cells #[.string k,iT q,iT 3,.string t,iT n] 123));have x0:W.cell? ⟨X,0,none⟩=some (.string k):=by rw [hW,hX];simp
 have x1:W.cell? ⟨X,1,none⟩=some (iT q):=by rw [hW,hX];simp
 have x2:W.cell? ⟨X,2,none⟩=some (iT 3):=by rw [hW,hX];simp
 have x3:W.cell? ⟨X,3,none⟩=some (.string t):=by rw [hW,hX];simp
 have x4:W.cell? ⟨X,4,none⟩=some (iT n):=by rw [hW,hX];simp
 have kW:Bl w W:=by rw [hW];exact bZ
 rw [← hW,← hX];clear hW hX;have HKW:Hid (Bl w W):=kW;clear kW;have k0:Bl W W.drew:=(Below.refl _ W).drew;have HMK:Hid (∀w',Bl W w'→(w'.cell? ⟨X,0,none⟩=some (.string k)∧w'.cell? ⟨X,1,none⟩=some (iT q)∧w'.cell? ⟨X,2,none⟩=some (iT 3)∧w'.cell? ⟨X,3,none⟩=some (.string t)∧w'.cell? ⟨X,4,none⟩=some (iT n)∧X<w'.heap.size∧Bl W w')):=fun w' k=>⟨cell_later k x0,cell_later k x1,cell_later k x2,cell_later k x3,cell_later k x4,World.block_lt_of_cell? _ _ (cell_later k x0),k⟩
 have hm : ∀ w : World, (method 386 231 (.agg #[]) "loop.example/comptoir/impl.fits").run Tryz.prog w = .ok (249, .agg #[]) w := fun _ => by kernel_rfl
 go_region_held3 (fun w'=>w'.cell? ⟨X,0,none⟩=some (.string k)∧w'.cell? ⟨X,1,none⟩=some (iT q)∧w'.cell? ⟨X,2,none⟩=some (iT 3)∧w'.cell? ⟨X,3,none⟩=some (.string t)∧w'.cell? ⟨X,4,none⟩=some (iT n)∧X<w'.heap.size∧Bl W w') (first | exact HMK.out _ k2 | exact HMK.out _ k1 | exact HMK.out _ k0) (first
  | (go_at_call 160;refine (fp _ _ hs).mono ?_;rw [hk];rintro e w' ⟨rfl,rfl⟩)
  | (go_at_call 161;refine (m4 _ _ _ _ _).mono ?_;rintro e w1 ⟨rfl,hb1⟩;have k1:Bl W w1:=k0.trans (hb1.mono k0.size))
  | (go_at_call 249;refine (qo _ _ _ _ _).mono ?_;rintro e w2 ⟨rfl,hb2⟩;have k2:Bl W w2:=k1.trans (hb2.mono k1.size)))
 go_wp2;go_ret;exact ⟨aq HR.out.symm,HKW.out.trans (k2.mono HKW.out.size)⟩
theorem m9 (k t:ByteArray) (q d n:Int) (w:World) (hs:k.size≤maxLen) (ht:t.size≤60) (hk:ei k=true) (h1:1≤q) (h2:q≤100000) (h3:-1000000≤n) (h4:n≤1000000) (d1:¬d=1) (d2:¬d=2) (d3:¬d=3) :
 Calls Tryz.prog 134 #[.agg #[.string k,iT q,iT d,.string t,iT n]] w fun e w'=>e=.returned (.bool (dr k q d t n))∧Bl w w':=by
 have HR:Hid (dr k q d t n=fc d t n):=dp hk h1 h2 h3 h4 ht;have ht':(t.size:Int)≤60:=by omega
 clear ht;go_enter Tryz.func134,Tryz.ntmps134
 go_wp2_with fail
 obtain ⟨X,hX⟩:=aw w.heap.size;obtain ⟨W,hW⟩:=aw (w.alloc (.cells #[.string k,iT q,iT d,.string t,iT n] 123));have x0:W.cell? ⟨X,0,none⟩=some (.string k):=by rw [hW,hX];simp
 have x1:W.cell? ⟨X,1,none⟩=some (iT q):=by rw [hW,hX];simp
 have x2:W.cell? ⟨X,2,none⟩=some (iT d):=by rw [hW,hX];simp
 have x3:W.cell? ⟨X,3,none⟩=some (.string t):=by rw [hW,hX];simp
 have x4:W.cell? ⟨X,4,none⟩=some (iT n):=by rw [hW,hX];simp
 have kW:Bl w W:=by rw [hW];exact bZ
 rw [← hW,← hX];clear hW hX;have HKW:Hid (Bl w W):=kW;clear kW;have k0:Bl W W.drew:=(Below.refl _ W).drew;have HMK:Hid (∀w',Bl W w'→(w'.cell? ⟨X,0,none⟩=some (.string k)∧w'.cell? ⟨X,1,none⟩=some (iT q)∧w'.cell? ⟨X,2,none⟩=some (iT d)∧w'.cell? ⟨X,3,none⟩=some (.string t)∧w'.cell? ⟨X,4,none⟩=some (iT n)∧X<w'.heap.size∧Bl W w')):=fun w' k=>⟨cell_later k x0,cell_later k x1,cell_later k x2,cell_later k x3,cell_later k x4,World.block_lt_of_cell? _ _ (cell_later k x0),k⟩
 have hm : ∀ w : World, (method 386 232 (.agg #[]) "loop.example/comptoir/impl.fits").run Tryz.prog w = .ok (251, .agg #[]) w := fun _ => by kernel_rfl
 go_region_held3 (fun w'=>w'.cell? ⟨X,0,none⟩=some (.string k)∧w'.cell? ⟨X,1,none⟩=some (iT q)∧w'.cell? ⟨X,2,none⟩=some (iT d)∧w'.cell? ⟨X,3,none⟩=some (.string t)∧w'.cell? ⟨X,4,none⟩=some (iT n)∧X<w'.heap.size∧Bl W w') (first | exact HMK.out _ k2 | exact HMK.out _ k1 | exact HMK.out _ k0) (first
  | (go_at_call 160;refine (fp _ _ hs).mono ?_;rw [hk];rintro e w' ⟨rfl,rfl⟩)
  | (go_at_call 161;refine (og _ _ _ _ _ _ d1 d2 d3).mono ?_;rintro e w1 ⟨rfl,hb1⟩;have k1:Bl W w1:=k0.trans (hb1.mono k0.size))
  | (go_at_call 251;refine (rQ _ _ _ _ _ _ d1 d2 d3).mono ?_;rintro e w2 ⟨rfl,hb2⟩;have k2:Bl W w2:=k1.trans (hb2.mono k1.size)))
 go_wp2;go_ret;exact ⟨aq HR.out.symm,HKW.out.trans (k2.mono HKW.out.size)⟩
theorem ms (k t:ByteArray) (q d n:Int) (w:World) (hs:k.size≤maxLen) :
 Calls Tryz.prog 134 #[.agg #[.string k,iT q,iT d,.string t,iT n]] w fun e w'=>e=.returned (.bool (dr k q d t n))∧Bl w w':=by
 cases hk:ei k with
 | false=>exact rK k t q d n w hs hk
 | true =>
  by_cases h1:q<1
  · exact tx k t q d n w hs hk h1
  by_cases h2:100000<q
  · exact tw k t q d n w hs hk (by omega) h2
  by_cases h3:n < -1000000
  · exact tA k t q d n w hs hk (by omega) (by omega) h3
  by_cases h4:1000000<n
  · exact ty k t q d n w hs hk (by omega) (by omega) (by omega) h4
  by_cases h5:60<t.size
  · exact vJ k t q d n w hs hk (by omega) (by omega) (by omega) (by omega) h5
  by_cases d1:d=1
  · subst d1;exact mf k t q n w hs (by omega) hk (by omega) (by omega) (by omega) (by omega)
  by_cases d2:d=2
  · subst d2;exact mg k t q n w hs (by omega) hk (by omega) (by omega) (by omega) (by omega)
  by_cases d3:d=3
  · subst d3;exact mh k t q n w hs (by omega) hk (by omega) (by omega) (by omega) (by omega)
  exact m9 k t q d n w hs (by omega) hk (by omega) (by omega) (by omega) (by omega) d1 d2 d3
end Go.Proofs.YtgpcinihgofmfaaGreatDoor

namespace Go.Proofs.YtgpcinihgofmfaaGreatDoor
open Go.RowKit
set_option maxRecDepth 100000
set_option maxHeartbeats 2000000
theorem qR (a:Option Addr) (len cap:Nat) (L:List ae) (w:World) (hL:au w a len cap L) :
 Calls Tryz.prog 132 #[.slice a len cap] w fun e w'=>e=.returned (.bool (bF L))∧Bl w w':=by
 have HLEN:Hid (L.length=len):=hL.length;have hbl:=hL.room;have hbc:=hL.big;unfold maxLen at hbc;have HL:=ar hL;clear hL;go_enter Tryz.func132,Tryz.ntmps132
 go_wp2;go_loopw [3] (fun i wr=>∃k:Nat,k≤len∧i=iT k∧Bl w wr∧dX L k=true) (fun i _=>len - (intOf i).toNat)
 case atStart=>exact ⟨0,Nat.zero_le _,rfl,Below.refl _ _,rfl⟩
 case round =>
  obtain ⟨k,hk,rfl,hb,hall⟩:=hrel;have HALL:Hid (dX L k=true):=hall;clear hall;by_cases hlt:k<len
  · obtain ⟨b,off,rfl,hbb⟩:=HL.out.form (by omega);obtain ⟨s,q,d,t,n,hg,hlw,g0,g1,g2,g3,g4⟩:=HL.out.ent hb hbb k hlt;have HG:Hid (L[k]?=some (s,q,d,t,n)):=hg;have hs:=hlw.1;have ht:=hlw.2.2.2.1;simp only at hs ht;clear hg hlw;cases hv:dr s q d t n with
    | false =>
     have CE:Hid (∀w,Calls Tryz.prog 119 #[.agg #[.string s,iT q,iT d,.string t,iT n]] w fun e w'=>e=.returned (.bool false)∧Bl w w'):=by rw [← hv];exact fun w=>mi s t q d n w hs ht
     go_wp2_with fail
     obtain ⟨W,hW⟩:=aw wr;have kW:Bl wr W:=by rw [hW];exact Below.refl _ _
     have hbr:b<wr.heap.size:=Nat.lt_of_lt_of_le hbb hb.size;have hbW:b<W.heap.size:=Nat.lt_of_lt_of_le hbr kW.size;have z0:=cell_later kW g0;have z1:=cell_later kW g1;have z2:=cell_later kW g2;have z3:=cell_later kW g3;have z4:=cell_later kW g4;have HKW:Hid (Bl w W):=hb.trans (kW.mono hb.size);rw [← hW];clear hW kW;have k0:Bl W W.drew:=(Below.refl _ W).drew;have HMK:Hid (∀w',Bl W w'→(w'.cell? ⟨b,off+k*5,none⟩=some (.string s)∧w'.cell? ⟨b,off+k*5+1,none⟩=some (iT q)∧w'.cell? ⟨b,off+k*5+2,none⟩=some (iT d)∧w'.cell? ⟨b,off+k*5+3,none⟩=some (.string t)∧w'.cell? ⟨b,off+k*5+4,none⟩=some (iT n)∧b<w'.heap.size)):=fun w' kk=>⟨cell_later kk z0,cell_later kk z1,cell_later kk z2,cell_later kk z3,cell_later kk z4,Nat.lt_of_lt_of_le hbW kk.size⟩
     refine dI HMK k0 fun aa=>?_
     refine aM 0 4 aa ?_;refine aR 4 fun K hK=>?_
     go_simp;refine (CE.out _).mono ?_;rintro e w1 ⟨rfl,b1⟩;have k1:Bl W w1:=k0.trans (b1.mono k0.size);go_wp2_with fail
     refine hK.out _ _ (HMK.out _ k1) fun aa=>?_
     (try go_frame);refine aM 5 20 aa ?_;refine dN ?_;go_wp2;go_ret;exact ⟨aq (mu (by rw [HLEN.out];exact hlt) (ld HG.out hv)).symm,HKW.out.trans (k1.mono HKW.out.size)⟩
    | true =>
     have CE:Hid (∀w,Calls Tryz.prog 119 #[.agg #[.string s,iT q,iT d,.string t,iT n]] w fun e w'=>e=.returned (.bool true)∧Bl w w'):=by rw [← hv];exact fun w=>mi s t q d n w hs ht
     by_cases hk0:k=0
     · subst hk0;try simp only [Nat.zero_mul,Nat.add_zero] at g0 g1 g2 g3 g4
       go_wp2_with fail
       obtain ⟨W,hW⟩:=aw wr;have kW:Bl wr W:=by rw [hW];exact Below.refl _ _
       have hbr:b<wr.heap.size:=Nat.lt_of_lt_of_le hbb hb.size;have hbW:b<W.heap.size:=Nat.lt_of_lt_of_le hbr kW.size;have z0:=cell_later kW g0;have z1:=cell_later kW g1;have z2:=cell_later kW g2;have z3:=cell_later kW g3;have z4:=cell_later kW g4;have HKW:Hid (Bl w W):=hb.trans (kW.mono hb.size);rw [← hW];clear hW kW;have k0:Bl W W.drew:=(Below.refl _ W).drew;have HMK:Hid (∀w',Bl W w'→(w'.cell? ⟨b,off,none⟩=some (.string s)∧w'.cell? ⟨b,off+1,none⟩=some (iT q)∧w'.cell? ⟨b,off+2,none⟩=some (iT d)∧w'.cell? ⟨b,off+3,none⟩=some (.string t)∧w'.cell? ⟨b,off+4,none⟩=some (iT n)∧b<w'.heap.size)):=fun w' kk=>⟨cell_later kk z0,cell_later kk z1,cell_later kk z2,cell_later kk z3,cell_later kk z4,Nat.lt_of_lt_of_le hbW kk.size⟩
       refine dI HMK k0 fun aa=>?_
       refine aM 0 4 aa ?_;refine aR 4 fun K hK=>?_
       go_simp;refine (CE.out _).mono ?_;rintro e w1 ⟨rfl,b1⟩;have k1:Bl W w1:=k0.trans (b1.mono k0.size);go_wp2_with fail
       refine hK.out _ _ (HMK.out _ k1) fun aa=>?_
       (try go_frame);refine aM 5 20 aa ?_;refine dN ?_;go_wp2;go_roundw
       case rel=>exact ⟨1,by omega,by go_num,HKW.out.trans (k1.mono HKW.out.size),gZ HALL.out (by rw [lc HG.out];exact hv)⟩
       case measure=>simp [intOf];omega
     · obtain ⟨j,rfl⟩:∃j,k=j+1:=⟨k - 1,by omega⟩;obtain ⟨s',q',d',t',n',hg',hlw',g0',g1',g2',g3',g4'⟩:=HL.out.ent hb hbb j (by omega);have HG':Hid (L[j]?=some (s',q',d',t',n')):=hg';have hp:=dH (mG HALL.out (Nat.lt_succ_self j) hg');have hq1:=hp.2.1;have hq2:=hp.2.2.1;simp only at hq1 hq2;clear hg' hlw' hp;have h0j:(0:Int)≤(j:Int)+1:=by omega
       have h0j':(0:Int)<(j:Int)+1:=by omega
       have hjl:(j:Int)<(len:Int):=by omega
       have hjl1:(j:Int)+1<(len:Int):=by omega
       have wj:IntKind.i64.wrap (j:Int)=(j:Int):=by rw [IntWalk.i64_left];unfold wrap64;omega
       have wj1:IntKind.i64.wrap ((j:Int)+1 - 1)=(j:Int):=by rw [IntWalk.i64_left];unfold wrap64;omega
       have wq:IntKind.i64.wrap (q'+1)=q'+1:=by rw [IntWalk.i64_left];unfold wrap64;omega
       by_cases hqq:q=q'+1
       · have hqd:decide (q=q'+1)=true:=decide_eq_true hqq;have hqb:(q == q'+1)=true:=by simpa using hqq
         have hqn:(q != q'+1)=false:=by simpa using hqq
         have HQ:Hid (q=q'+1):=hqq;clear hqq;go_wp2_with fail
         obtain ⟨W,hW⟩:=aw wr;have kW:Bl wr W:=by rw [hW];exact Below.refl _ _
         have hbr:b<wr.heap.size:=Nat.lt_of_lt_of_le hbb hb.size;have hbW:b<W.heap.size:=Nat.lt_of_lt_of_le hbr kW.size;have z0:=cell_later kW g0;have z1:=cell_later kW g1;have z2:=cell_later kW g2;have z3:=cell_later kW g3;have z4:=cell_later kW g4;have y0:=cell_later kW g0';have y1:=cell_later kW g1';have y2:=cell_later kW g2';have y3:=cell_later kW g3';have y4:=cell_later kW g4';have HKW:Hid (Bl w W):=hb.trans (kW.mono hb.size);rw [← hW];clear hW kW;have k0:Bl W W.drew:=(Below.refl _ W).drew;have HMK:Hid (∀w',Bl W w'→(w'.cell? ⟨b,off+(j+1)*5,none⟩=some (.string s)∧w'.cell? ⟨b,off+(j+1)*5+1,none⟩=some (iT q)∧w'.cell? ⟨b,off+(j+1)*5+2,none⟩=some (iT d)∧w'.cell? ⟨b,off+(j+1)*5+3,none⟩=some (.string t)∧w'.cell? ⟨b,off+(j+1)*5+4,none⟩=some (iT n)∧w'.cell? ⟨b,off+j*5,none⟩=some (.string s')∧w'.cell? ⟨b,off+j*5+1,none⟩=some (iT q')∧w'.cell? ⟨b,off+j*5+2,none⟩=some (iT d')∧w'.cell? ⟨b,off+j*5+3,none⟩=some (.string t')∧w'.cell? ⟨b,off+j*5+4,none⟩=some (iT n')∧b<w'.heap.size)):=fun w' kk=>⟨cell_later kk z0,cell_later kk z1,cell_later kk z2,cell_later kk z3,cell_later kk z4,cell_later kk y0,cell_later kk y1,cell_later kk y2,cell_later kk y3,cell_later kk y4,Nat.lt_of_lt_of_le hbW kk.size⟩
         refine dI HMK k0 fun aa=>?_
         refine aM 0 4 aa ?_;refine aR 4 fun K hK=>?_
         go_simp;refine (CE.out _).mono ?_;rintro e w1 ⟨rfl,b1⟩;have k1:Bl W w1:=k0.trans (b1.mono k0.size);go_wp2_with fail
         refine hK.out _ _ (HMK.out _ k1) fun aa=>?_
         (try go_frame);refine aM 5 20 aa ?_;refine dN ?_;go_wp2;go_roundw
         case rel=>exact ⟨j+1+1,by omega,by go_num,HKW.out.trans (k1.mono HKW.out.size),gZ HALL.out (by rw [gG HG.out HG'.out,show cQ (s,q,d,t,n)=true from hv,decide_eq_true (show (s,q,d,t,n).2.1=(s',q',d',t',n').2.1+1 from HQ.out)];rfl)⟩
         case measure=>simp [intOf];omega
       · have hqd:decide (q=q'+1)=false:=decide_eq_false hqq;have hqb:(q == q'+1)=false:=by simpa using hqq
         have hqn:(q != q'+1)=true:=by simpa using hqq
         have HQ:Hid (¬q=q'+1):=hqq;clear hqq;go_wp2_with fail
         obtain ⟨W,hW⟩:=aw wr;have kW:Bl wr W:=by rw [hW];exact Below.refl _ _
         have hbr:b<wr.heap.size:=Nat.lt_of_lt_of_le hbb hb.size;have hbW:b<W.heap.size:=Nat.lt_of_lt_of_le hbr kW.size;have z0:=cell_later kW g0;have z1:=cell_later kW g1;have z2:=cell_later kW g2;have z3:=cell_later kW g3;have z4:=cell_later kW g4;have y0:=cell_later kW g0';have y1:=cell_later kW g1';have y2:=cell_later kW g2';have y3:=cell_later kW g3';have y4:=cell_later kW g4';have HKW:Hid (Bl w W):=hb.trans (kW.mono hb.size);rw [← hW];clear hW kW;have k0:Bl W W.drew:=(Below.refl _ W).drew;have HMK:Hid (∀w',Bl W w'→(w'.cell? ⟨b,off+(j+1)*5,none⟩=some (.string s)∧w'.cell? ⟨b,off+(j+1)*5+1,none⟩=some (iT q)∧w'.cell? ⟨b,off+(j+1)*5+2,none⟩=some (iT d)∧w'.cell? ⟨b,off+(j+1)*5+3,none⟩=some (.string t)∧w'.cell? ⟨b,off+(j+1)*5+4,none⟩=some (iT n)∧w'.cell? ⟨b,off+j*5,none⟩=some (.string s')∧w'.cell? ⟨b,off+j*5+1,none⟩=some (iT q')∧w'.cell? ⟨b,off+j*5+2,none⟩=some (iT d')∧w'.cell? ⟨b,off+j*5+3,none⟩=some (.string t')∧w'.cell? ⟨b,off+j*5+4,none⟩=some (iT n')∧b<w'.heap.size)):=fun w' kk=>⟨cell_later kk z0,cell_later kk z1,cell_later kk z2,cell_later kk z3,cell_later kk z4,cell_later kk y0,cell_later kk y1,cell_later kk y2,cell_later kk y3,cell_later kk y4,Nat.lt_of_lt_of_le hbW kk.size⟩
         refine dI HMK k0 fun aa=>?_
         refine aM 0 4 aa ?_;refine aR 4 fun K hK=>?_
         go_simp;refine (CE.out _).mono ?_;rintro e w1 ⟨rfl,b1⟩;have k1:Bl W w1:=k0.trans (b1.mono k0.size);go_wp2_with fail
         refine hK.out _ _ (HMK.out _ k1) fun aa=>?_
         (try go_frame);refine aM 5 20 aa ?_;refine dN ?_;go_wp2;go_ret;exact ⟨aq (mu (k:=j+1) (by rw [HLEN.out];exact hlt) (by rw [gG HG.out HG'.out];simp [HQ.out])).symm,HKW.out.trans (k1.mono HKW.out.size)⟩
  · have hkn:k=len:=by omega
    have hst:bF L=(decide (1≤L.length) && decide (L.length≤12)):=ze (by rw [HLEN.out,← hkn];exact HALL.out);rw [HLEN.out] at hst;have HST:Hid (bF L=(decide (1≤len) && decide (len≤12))):=hst;clear hst;by_cases h1:(1:Int)≤(len:Int)
    · by_cases h2:(len:Int)≤12
      · go_wp2;go_ret;exact ⟨aq (by rw [HST.out,decide_eq_true (by omega),decide_eq_true (by omega)];rfl),hb⟩
      · go_wp2;go_ret;exact ⟨aq (by rw [HST.out,decide_eq_false (p:=len≤12) (by omega),Bool.and_false]),hb⟩
    · go_wp2;go_ret;exact ⟨aq (by rw [HST.out,decide_eq_false (p:=1≤len) (by omega)];rfl),hb⟩
theorem rL (a:Option Addr) (len cap:Nat) (L:List ae) (w:World) (hL:au w a len cap L) (h1:1≤len) (h12:len≤12) :
 Calls Tryz.prog 145 #[.slice a len cap] w fun e w'=>e=.returned (.bool (bF L))∧Bl w w':=by
 have HLEN:Hid (L.length=len):=hL.length;have hbl:=hL.room;have hbc:=hL.big;unfold maxLen at hbc;have HL:=ar hL;clear hL;go_enter Tryz.func145,Tryz.ntmps145
 go_wp2;go_loopw [15] (fun i wr=>∃k:Nat,k≤len∧i=iT k∧Bl w wr∧dX L k=true) (fun i _=>len - (intOf i).toNat)
 case atStart=>exact ⟨0,Nat.zero_le _,rfl,Below.refl _ _,rfl⟩
 case round =>
  obtain ⟨k,hk,rfl,hb,hall⟩:=hrel;have HALL:Hid (dX L k=true):=hall;clear hall;by_cases hlt:k<len
  · obtain ⟨b,off,rfl,hbb⟩:=HL.out.form (by omega);obtain ⟨s,q,d,t,n,hg,hlw,g0,g1,g2,g3,g4⟩:=HL.out.ent hb hbb k hlt;have HG:Hid (L[k]?=some (s,q,d,t,n)):=hg;have hs:=hlw.1;have ht:=hlw.2.2.2.1;simp only at hs ht;clear hg hlw;cases hv:dr s q d t n with
    | false =>
     have CE:Hid (∀w,Calls Tryz.prog 134 #[.agg #[.string s,iT q,iT d,.string t,iT n]] w fun e w'=>e=.returned (.bool false)∧Bl w w'):=by rw [← hv];exact fun w=>ms s t q d n w hs
     go_wp2_with fail
     obtain ⟨X,hX⟩:=aw wr.heap.size;obtain ⟨W,hW⟩:=aw (wr.alloc (.cells #[.string s,iT q,iT d,.string t,iT n] 123));have x0:W.cell? ⟨X,0,none⟩=some (.string s):=by rw [hW,hX];simp
     have x1:W.cell? ⟨X,1,none⟩=some (iT q):=by rw [hW,hX];simp
     have x2:W.cell? ⟨X,2,none⟩=some (iT d):=by rw [hW,hX];simp
     have x3:W.cell? ⟨X,3,none⟩=some (.string t):=by rw [hW,hX];simp
     have x4:W.cell? ⟨X,4,none⟩=some (iT n):=by rw [hW,hX];simp
     have kW:Bl wr W:=by rw [hW];exact bZ
     have hbr:b<wr.heap.size:=Nat.lt_of_lt_of_le hbb hb.size;have hbW:b<W.heap.size:=Nat.lt_of_lt_of_le hbr kW.size;have HKW:Hid (Bl w W):=hb.trans (kW.mono hb.size);rw [← hW,← hX];clear hW hX kW;have k0:Bl W W.drew:=(Below.refl _ W).drew;have HMK:Hid (∀w',Bl W w'→(w'.cell? ⟨X,0,none⟩=some (.string s)∧w'.cell? ⟨X,1,none⟩=some (iT q)∧w'.cell? ⟨X,2,none⟩=some (iT d)∧w'.cell? ⟨X,3,none⟩=some (.string t)∧w'.cell? ⟨X,4,none⟩=some (iT n)∧X<w'.heap.size)):=fun w' kk=>⟨cell_later kk x0,cell_later kk x1,cell_later kk x2,cell_later kk x3,cell_later kk x4,World.block_lt_of_cell? _ _ (cell_later kk x0)⟩
     refine dI HMK k0 fun aa=>?_
     refine aM 0 1 aa ?_;refine aR 1 fun K hK=>?_
     go_simp;refine (CE.out _).mono ?_;rintro e w1 ⟨rfl,b1⟩;have k1:Bl W w1:=k0.trans (b1.mono k0.size);go_wp2_with fail
     refine hK.out _ _ (HMK.out _ k1) fun aa=>?_
     (try go_frame);refine aM 2 17 aa ?_;refine dN ?_;go_wp2;go_ret;exact ⟨aq (mu (by rw [HLEN.out];exact hlt) (ld HG.out hv)).symm,HKW.out.trans (k1.mono HKW.out.size)⟩
    | true =>
     have CE:Hid (∀w,Calls Tryz.prog 134 #[.agg #[.string s,iT q,iT d,.string t,iT n]] w fun e w'=>e=.returned (.bool true)∧Bl w w'):=by rw [← hv];exact fun w=>ms s t q d n w hs
     by_cases hk0:k=0
     · subst hk0;try simp only [Nat.zero_mul,Nat.add_zero] at g0 g1 g2 g3 g4
       go_wp2_with fail
       obtain ⟨X,hX⟩:=aw wr.heap.size;obtain ⟨W,hW⟩:=aw (wr.alloc (.cells #[.string s,iT q,iT d,.string t,iT n] 123));have x0:W.cell? ⟨X,0,none⟩=some (.string s):=by rw [hW,hX];simp
       have x1:W.cell? ⟨X,1,none⟩=some (iT q):=by rw [hW,hX];simp
       have x2:W.cell? ⟨X,2,none⟩=some (iT d):=by rw [hW,hX];simp
       have x3:W.cell? ⟨X,3,none⟩=some (.string t):=by rw [hW,hX];simp
       have x4:W.cell? ⟨X,4,none⟩=some (iT n):=by rw [hW,hX];simp
       have kW:Bl wr W:=by rw [hW];exact bZ
       have hbr:b<wr.heap.size:=Nat.lt_of_lt_of_le hbb hb.size;have hbW:b<W.heap.size:=Nat.lt_of_lt_of_le hbr kW.size;have HKW:Hid (Bl w W):=hb.trans (kW.mono hb.size);rw [← hW,← hX];clear hW hX kW;have k0:Bl W W.drew:=(Below.refl _ W).drew;have HMK:Hid (∀w',Bl W w'→(w'.cell? ⟨X,0,none⟩=some (.string s)∧w'.cell? ⟨X,1,none⟩=some (iT q)∧w'.cell? ⟨X,2,none⟩=some (iT d)∧w'.cell? ⟨X,3,none⟩=some (.string t)∧w'.cell? ⟨X,4,none⟩=some (iT n)∧X<w'.heap.size)):=fun w' kk=>⟨cell_later kk x0,cell_later kk x1,cell_later kk x2,cell_later kk x3,cell_later kk x4,World.block_lt_of_cell? _ _ (cell_later kk x0)⟩
       refine dI HMK k0 fun aa=>?_
       refine aM 0 1 aa ?_;refine aR 1 fun K hK=>?_
       go_simp;refine (CE.out _).mono ?_;rintro e w1 ⟨rfl,b1⟩;have k1:Bl W w1:=k0.trans (b1.mono k0.size);go_wp2_with fail
       refine hK.out _ _ (HMK.out _ k1) fun aa=>?_
       (try go_frame);refine aM 2 17 aa ?_;refine dN ?_;go_wp2;go_roundw
       case rel=>exact ⟨1,by omega,by go_num,HKW.out.trans (k1.mono HKW.out.size),gZ HALL.out (by rw [lc HG.out];exact hv)⟩
       case measure=>simp [intOf];omega
     · obtain ⟨j,rfl⟩:∃j,k=j+1:=⟨k - 1,by omega⟩;obtain ⟨s',q',d',t',n',hg',hlw',g0',g1',g2',g3',g4'⟩:=HL.out.ent hb hbb j (by omega);have HG':Hid (L[j]?=some (s',q',d',t',n')):=hg';have hp:=dH (mG HALL.out (Nat.lt_succ_self j) hg');have hq1:=hp.2.1;have hq2:=hp.2.2.1;simp only at hq1 hq2;clear hg' hlw' hp;have h0j:(0:Int)≤(j:Int)+1:=by omega
       have h0j':(0:Int)<(j:Int)+1:=by omega
       have hjl:(j:Int)<(len:Int):=by omega
       have hjl1:(j:Int)+1<(len:Int):=by omega
       have wj:IntKind.i64.wrap (j:Int)=(j:Int):=by rw [IntWalk.i64_left];unfold wrap64;omega
       have wj1:IntKind.i64.wrap ((j:Int)+1 - 1)=(j:Int):=by rw [IntWalk.i64_left];unfold wrap64;omega
       have wq:IntKind.i64.wrap (q'+1)=q'+1:=by rw [IntWalk.i64_left];unfold wrap64;omega
       by_cases hqq:q=q'+1
       · have hqd:decide (q=q'+1)=true:=decide_eq_true hqq;have hqb:(q == q'+1)=true:=by simpa using hqq
         have hqn:(q != q'+1)=false:=by simpa using hqq
         have HQ:Hid (q=q'+1):=hqq;clear hqq;go_wp2_with fail
         obtain ⟨X,hX⟩:=aw wr.heap.size;obtain ⟨W,hW⟩:=aw (wr.alloc (.cells #[.string s,iT q,iT d,.string t,iT n] 123));have x0:W.cell? ⟨X,0,none⟩=some (.string s):=by rw [hW,hX];simp
         have x1:W.cell? ⟨X,1,none⟩=some (iT q):=by rw [hW,hX];simp
         have x2:W.cell? ⟨X,2,none⟩=some (iT d):=by rw [hW,hX];simp
         have x3:W.cell? ⟨X,3,none⟩=some (.string t):=by rw [hW,hX];simp
         have x4:W.cell? ⟨X,4,none⟩=some (iT n):=by rw [hW,hX];simp
         have kW:Bl wr W:=by rw [hW];exact bZ
         have hbr:b<wr.heap.size:=Nat.lt_of_lt_of_le hbb hb.size;have hbW:b<W.heap.size:=Nat.lt_of_lt_of_le hbr kW.size;have y0:=cell_later kW g0';have y1:=cell_later kW g1';have y2:=cell_later kW g2';have y3:=cell_later kW g3';have y4:=cell_later kW g4';have HKW:Hid (Bl w W):=hb.trans (kW.mono hb.size);rw [← hW,← hX];clear hW hX kW;have k0:Bl W W.drew:=(Below.refl _ W).drew;have HMK:Hid (∀w',Bl W w'→(w'.cell? ⟨X,0,none⟩=some (.string s)∧w'.cell? ⟨X,1,none⟩=some (iT q)∧w'.cell? ⟨X,2,none⟩=some (iT d)∧w'.cell? ⟨X,3,none⟩=some (.string t)∧w'.cell? ⟨X,4,none⟩=some (iT n)∧X<w'.heap.size∧w'.cell? ⟨b,off+j*5,none⟩=some (.string s')∧w'.cell? ⟨b,off+j*5+1,none⟩=some (iT q')∧w'.cell? ⟨b,off+j*5+2,none⟩=some (iT d')∧w'.cell? ⟨b,off+j*5+3,none⟩=some (.string t')∧w'.cell? ⟨b,off+j*5+4,none⟩=some (iT n')∧b<w'.heap.size)):=fun w' kk=>⟨cell_later kk x0,cell_later kk x1,cell_later kk x2,cell_later kk x3,cell_later kk x4,World.block_lt_of_cell? _ _ (cell_later kk x0),cell_later kk y0,cell_later kk y1,cell_later kk y2,cell_later kk y3,cell_later kk y4,Nat.lt_of_lt_of_le hbW kk.size⟩
         refine dI HMK k0 fun aa=>?_
         refine aM 0 1 aa ?_;refine aR 1 fun K hK=>?_
         go_simp;refine (CE.out _).mono ?_;rintro e w1 ⟨rfl,b1⟩;have k1:Bl W w1:=k0.trans (b1.mono k0.size);go_wp2_with fail
         refine hK.out _ _ (HMK.out _ k1) fun aa=>?_
         (try go_frame);refine aM 2 17 aa ?_;refine dN ?_;go_wp2;go_roundw
         case rel=>exact ⟨j+1+1,by omega,by go_num,HKW.out.trans (k1.mono HKW.out.size),gZ HALL.out (by rw [gG HG.out HG'.out,show cQ (s,q,d,t,n)=true from hv,decide_eq_true (show (s,q,d,t,n).2.1=(s',q',d',t',n').2.1+1 from HQ.out)];rfl)⟩
         case measure=>simp [intOf];omega
       · have hqd:decide (q=q'+1)=false:=decide_eq_false hqq;have hqb:(q == q'+1)=false:=by simpa using hqq
         have hqn:(q != q'+1)=true:=by simpa using hqq
         have HQ:Hid (¬q=q'+1):=hqq;clear hqq;go_wp2_with fail
         obtain ⟨X,hX⟩:=aw wr.heap.size;obtain ⟨W,hW⟩:=aw (wr.alloc (.cells #[.string s,iT q,iT d,.string t,iT n] 123));have x0:W.cell? ⟨X,0,none⟩=some (.string s):=by rw [hW,hX];simp
         have x1:W.cell? ⟨X,1,none⟩=some (iT q):=by rw [hW,hX];simp
         have x2:W.cell? ⟨X,2,none⟩=some (iT d):=by rw [hW,hX];simp
         have x3:W.cell? ⟨X,3,none⟩=some (.string t):=by rw [hW,hX];simp
         have x4:W.cell? ⟨X,4,none⟩=some (iT n):=by rw [hW,hX];simp
         have kW:Bl wr W:=by rw [hW];exact bZ
         have hbr:b<wr.heap.size:=Nat.lt_of_lt_of_le hbb hb.size;have hbW:b<W.heap.size:=Nat.lt_of_lt_of_le hbr kW.size;have y0:=cell_later kW g0';have y1:=cell_later kW g1';have y2:=cell_later kW g2';have y3:=cell_later kW g3';have y4:=cell_later kW g4';have HKW:Hid (Bl w W):=hb.trans (kW.mono hb.size);rw [← hW,← hX];clear hW hX kW;have k0:Bl W W.drew:=(Below.refl _ W).drew;have HMK:Hid (∀w',Bl W w'→(w'.cell? ⟨X,0,none⟩=some (.string s)∧w'.cell? ⟨X,1,none⟩=some (iT q)∧w'.cell? ⟨X,2,none⟩=some (iT d)∧w'.cell? ⟨X,3,none⟩=some (.string t)∧w'.cell? ⟨X,4,none⟩=some (iT n)∧X<w'.heap.size∧w'.cell? ⟨b,off+j*5,none⟩=some (.string s')∧w'.cell? ⟨b,off+j*5+1,none⟩=some (iT q')∧w'.cell? ⟨b,off+j*5+2,none⟩=some (iT d')∧w'.cell? ⟨b,off+j*5+3,none⟩=some (.string t')∧w'.cell? ⟨b,off+j*5+4,none⟩=some (iT n')∧b<w'.heap.size)):=fun w' kk=>⟨cell_later kk x0,cell_later kk x1,cell_later kk x2,cell_later kk x3,cell_later kk x4,World.block_lt_of_cell? _ _ (cell_later kk x0),cell_later kk y0,cell_later kk y1,cell_later kk y2,cell_later kk y3,cell_later kk y4,Nat.lt_of_lt_of_le hbW kk.size⟩
         refine dI HMK k0 fun aa=>?_
         refine aM 0 1 aa ?_;refine aR 1 fun K hK=>?_
         go_simp;refine (CE.out _).mono ?_;rintro e w1 ⟨rfl,b1⟩;have k1:Bl W w1:=k0.trans (b1.mono k0.size);go_wp2_with fail
         refine hK.out _ _ (HMK.out _ k1) fun aa=>?_
         (try go_frame);refine aM 2 17 aa ?_;refine dN ?_;go_wp2;go_ret;exact ⟨aq (mu (k:=j+1) (by rw [HLEN.out];exact hlt) (by rw [gG HG.out HG'.out];simp [HQ.out])).symm,HKW.out.trans (k1.mono HKW.out.size)⟩
  · have hkn:k=len:=by omega
    go_wp2;go_ret;exact ⟨aq (yZ (by rw [HLEN.out];exact h1) (by rw [HLEN.out];exact h12) (by rw [HLEN.out,← hkn];exact HALL.out)).symm,hb⟩
theorem rM (a:Option Addr) (len cap:Nat) (L:List ae) (w:World) (hL:au w a len cap L) :
 Calls Tryz.prog 145 #[.slice a len cap] w fun e w'=>e=.returned (.bool (bF L))∧Bl w w':=by
 have HLEN:Hid (L.length=len):=hL.length;by_cases h1:(len:Int)<1
 · clear hL;go_enter Tryz.func145,Tryz.ntmps145
   go_wp2;go_ret;exact ⟨aq (rW (by rw [HLEN.out];omega)).symm,Below.refl _ _⟩
 by_cases h2:(12:Int)<(len:Int)
 · clear hL;go_enter Tryz.func145,Tryz.ntmps145
   go_wp2;go_ret;exact ⟨aq (wB (by rw [HLEN.out];omega)).symm,Below.refl _ _⟩
 exact rL a len cap L w hL (by omega) (by omega)
end Go.Proofs.YtgpcinihgofmfaaGreatDoor
