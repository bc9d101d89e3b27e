/-
  What the program's EntryOk answers at every entry, by walks of its Go text.
-/
import Derived.Test.YtfblpbihpmhgjaaDoorFm19
import Derived.Deep.RegionHeld3
import Derived.Deep.DeepCutAuto
import Derived.Deep.QuietTactic
import Derived.BigQuiet
namespace Go.Proofs.YtfblpbihpmhgjaaDoor
open Go.RowKit

attribute [local go_sem] Oper.semAt_some

theorem below_drewN {B : Nat} {w w' : World} (h : Below B w w') (n : Nat) : Below B w (w'.drewN n) := h.trans ⟨rfl, rfl, rfl, Nat.le_refl _, fun _ _ => rfl⟩

set_option maxRecDepth 100000 in
set_option maxHeartbeats 1000000 in
theorem implEnt_key (k t : ByteArray) (q d n : Int) (w : World) (hs : k.size ≤ maxLen) (hk : keyB k = false) :
    Calls Tryd.prog 98 #[.agg #[.string k, .int .i64 q, .int .i64 d, .string t, .int .i64 n]] w fun e w' => e = .returned (.bool (entB k q d t n)) ∧ Below w.heap.size w w' := by
  go_enter Tryd.func98, Tryd.ntmps98
  go_wp2_with fail
  go_quiet (first | (go_at_call 127; refine Calls.quiet_of_same (v := .bool false) ((implKey _ _ hs).mono (fun e w' h => by rw [hk] at h; exact h))))
  go_wp2
  go_ret
  exact ⟨ret_bool (entB_key hk).symm, below_drewN ((Below.refl _ _).alloc (Nat.le_refl _) _) _⟩

set_option maxRecDepth 100000 in
set_option maxHeartbeats 1000000 in
theorem implEnt_q1 (k t : ByteArray) (q d n : Int) (w : World) (hs : k.size ≤ maxLen) (hk : keyB k = true) (h1 : q < 1) :
    Calls Tryd.prog 98 #[.agg #[.string k, .int .i64 q, .int .i64 d, .string t, .int .i64 n]] w fun e w' => e = .returned (.bool (entB k q d t n)) ∧ Below w.heap.size w w' := by
  have g : decide (1 ≤ q) = false := decide_eq_false (by omega)
  go_enter Tryd.func98, Tryd.ntmps98
  go_wp2_with fail
  go_quiet (first | (go_at_call 127; refine Calls.quiet_of_same (v := .bool true) ((implKey _ _ hs).mono (fun e w' h => by rw [hk] at h; exact h))))
  go_wp2
  go_ret
  exact ⟨ret_bool (entB_q1 h1).symm, below_drewN ((Below.refl _ _).alloc (Nat.le_refl _) _) _⟩

set_option maxRecDepth 100000 in
set_option maxHeartbeats 1000000 in
theorem implEnt_q2 (k t : ByteArray) (q d n : Int) (w : World) (hs : k.size ≤ maxLen) (hk : keyB k = true) (h1 : 1 ≤ q) (h2 : 100000 < q) :
    Calls Tryd.prog 98 #[.agg #[.string k, .int .i64 q, .int .i64 d, .string t, .int .i64 n]] w fun e w' => e = .returned (.bool (entB k q d t n)) ∧ Below w.heap.size w w' := by
  have g : decide (q ≤ 100000) = false := decide_eq_false (by omega)
  go_enter Tryd.func98, Tryd.ntmps98
  go_wp2_with fail
  go_quiet (first | (go_at_call 127; refine Calls.quiet_of_same (v := .bool true) ((implKey _ _ hs).mono (fun e w' h => by rw [hk] at h; exact h))))
  go_wp2
  go_ret
  exact ⟨ret_bool (entB_q2 h2).symm, below_drewN ((Below.refl _ _).alloc (Nat.le_refl _) _) _⟩

set_option maxRecDepth 100000 in
set_option maxHeartbeats 1000000 in
theorem implEnt_n1 (k t : ByteArray) (q d n : Int) (w : World) (hs : k.size ≤ maxLen) (hk : keyB k = true) (h1 : 1 ≤ q) (h2 : q ≤ 100000) (h3 : n < -1000000) :
    Calls Tryd.prog 98 #[.agg #[.string k, .int .i64 q, .int .i64 d, .string t, .int .i64 n]] w fun e w' => e = .returned (.bool (entB k q d t n)) ∧ Below w.heap.size w w' := by
  have g : decide (-1000000 ≤ n) = false := decide_eq_false (by omega)
  go_enter Tryd.func98, Tryd.ntmps98
  go_wp2_with fail
  go_quiet (first | (go_at_call 127; refine Calls.quiet_of_same (v := .bool true) ((implKey _ _ hs).mono (fun e w' h => by rw [hk] at h; exact h))))
  go_wp2
  go_ret
  exact ⟨ret_bool (entB_n1 h3).symm, below_drewN ((Below.refl _ _).alloc (Nat.le_refl _) _) _⟩

set_option maxRecDepth 100000 in
set_option maxHeartbeats 1000000 in
theorem implEnt_n2 (k t : ByteArray) (q d n : Int) (w : World) (hs : k.size ≤ maxLen) (hk : keyB k = true) (h1 : 1 ≤ q) (h2 : q ≤ 100000) (h3 : -1000000 ≤ n) (h4 : 1000000 < n) :
    Calls Tryd.prog 98 #[.agg #[.string k, .int .i64 q, .int .i64 d, .string t, .int .i64 n]] w fun e w' => e = .returned (.bool (entB k q d t n)) ∧ Below w.heap.size w w' := by
  have g : decide (n ≤ 1000000) = false := decide_eq_false (by omega)
  go_enter Tryd.func98, Tryd.ntmps98
  go_wp2_with fail
  go_quiet (first | (go_at_call 127; refine Calls.quiet_of_same (v := .bool true) ((implKey _ _ hs).mono (fun e w' h => by rw [hk] at h; exact h))))
  go_wp2
  go_ret
  exact ⟨ret_bool (entB_n2 h4).symm, below_drewN ((Below.refl _ _).alloc (Nat.le_refl _) _) _⟩

set_option maxRecDepth 100000 in
set_option maxHeartbeats 1000000 in
theorem implEnt_t (k t : ByteArray) (q d n : Int) (w : World) (hs : k.size ≤ maxLen) (hk : keyB k = true) (h1 : 1 ≤ q) (h2 : q ≤ 100000) (h3 : -1000000 ≤ n) (h4 : n ≤ 1000000) (h5 : 60 < t.size) :
    Calls Tryd.prog 98 #[.agg #[.string k, .int .i64 q, .int .i64 d, .string t, .int .i64 n]] w fun e w' => e = .returned (.bool (entB k q d t n)) ∧ Below w.heap.size w w' := by
  have g : decide ((t.size : Int) ≤ 60) = false := decide_eq_false (by omega)
  go_enter Tryd.func98, Tryd.ntmps98
  go_wp2_with fail
  go_quiet (first | (go_at_call 127; refine Calls.quiet_of_same (v := .bool true) ((implKey _ _ hs).mono (fun e w' h => by rw [hk] at h; exact h))))
  go_wp2
  go_ret
  exact ⟨ret_bool (entB_t h5).symm, below_drewN ((Below.refl _ _).alloc (Nat.le_refl _) _) _⟩

set_option maxRecDepth 100000 in
set_option maxHeartbeats 2000000 in
theorem implEnt_putKind (k t : ByteArray) (q n : Int) (w : World) (hs : k.size ≤ maxLen) (ht : t.size ≤ 60) (hk : keyB k = true) (h1 : 1 ≤ q) (h2 : q ≤ 100000) (h3 : -1000000 ≤ n) (h4 : n ≤ 1000000) :
    Calls Tryd.prog 98 #[.agg #[.string k, .int .i64 q, .int .i64 1, .string t, .int .i64 n]] w fun e w' => e = .returned (.bool (entB k q 1 t n)) ∧ Below w.heap.size w w' := by
  have HR : Hid (entB k q 1 t n = kindB 1 t n) := entB_rest hk h1 h2 h3 h4 ht
  have ht' : (t.size : Int) ≤ 60 := by omega
  clear ht
  go_enter Tryd.func98, Tryd.ntmps98
  go_wp2_with fail
  obtain ⟨X, hX⟩ : ∃ X, X = w.heap.size := ⟨_, rfl⟩
  obtain ⟨W, hW⟩ : ∃ W, W = w.alloc (.cells #[.string k, .int .i64 q, .int .i64 1, .string t, .int .i64 n] 85) := ⟨_, rfl⟩
  have x0 : W.cell? ⟨X, 0, none⟩ = some (.string k) := by rw [hW, hX]; simp
  have x1 : W.cell? ⟨X, 1, none⟩ = some (.int .i64 q) := by rw [hW, hX]; simp
  have x2 : W.cell? ⟨X, 2, none⟩ = some (.int .i64 1) := by rw [hW, hX]; simp
  have x3 : W.cell? ⟨X, 3, none⟩ = some (.string t) := by rw [hW, hX]; simp
  have x4 : W.cell? ⟨X, 4, none⟩ = some (.int .i64 n) := by rw [hW, hX]; simp
  have kW : Below w.heap.size w W := by rw [hW]; exact (Below.refl _ _).alloc (Nat.le_refl _) _
  rw [← hW, ← hX]
  clear hW hX
  have HKW : Hid (Below w.heap.size w W) := kW
  clear kW
  have k0 : Below W.heap.size W W.drew := (Below.refl _ W).drew
  have HMK : Hid (∀ w', Below W.heap.size W w' → (w'.cell? ⟨X, 0, none⟩ = some (.string k) ∧ w'.cell? ⟨X, 1, none⟩ = some (.int .i64 q) ∧ w'.cell? ⟨X, 2, none⟩ = some (.int .i64 1) ∧ w'.cell? ⟨X, 3, none⟩ = some (.string t) ∧ w'.cell? ⟨X, 4, none⟩ = some (.int .i64 n) ∧ X < w'.heap.size ∧ Below W.heap.size W w')) := fun w' k => ⟨cell_later k x0, cell_later k x1, cell_later k x2, cell_later k x3, cell_later k x4, World.block_lt_of_cell? _ _ (cell_later k x0), k⟩
  have hm : ∀ w : World, (method 383 201 (.agg #[]) "loop.example/comptoir/impl.fits").run Tryd.prog w = .ok (214, .agg #[]) w := fun _ => by kernel_rfl
  go_region_held3 (fun w' => w'.cell? ⟨X, 0, none⟩ = some (.string k) ∧ w'.cell? ⟨X, 1, none⟩ = some (.int .i64 q) ∧ w'.cell? ⟨X, 2, none⟩ = some (.int .i64 1) ∧ w'.cell? ⟨X, 3, none⟩ = some (.string t) ∧ w'.cell? ⟨X, 4, none⟩ = some (.int .i64 n) ∧ X < w'.heap.size ∧ Below W.heap.size W w') (first | exact HMK.out _ k2 | exact HMK.out _ k1 | exact HMK.out _ k0) (first
    | (go_at_call 127; refine (implKey _ _ hs).mono ?_; rw [hk]; rintro e w' ⟨rfl, rfl⟩)
    | (go_at_call 128; refine (kindOf_putKind _ _ _ _ _).mono ?_; rintro e w1 ⟨rfl, hb1⟩; have k1 : Below W.heap.size W w1 := k0.trans (hb1.mono k0.size))
    | (go_at_call 214; refine (fits_putKind _ _ _ _ _).mono ?_; rintro e w2 ⟨rfl, hb2⟩; have k2 : Below W.heap.size W w2 := k1.trans (hb2.mono k1.size)))
  go_wp2
  go_ret
  exact ⟨ret_bool HR.out.symm, HKW.out.trans (k2.mono HKW.out.size)⟩

set_option maxRecDepth 100000 in
set_option maxHeartbeats 2000000 in
theorem implEnt_delKind (k t : ByteArray) (q n : Int) (w : World) (hs : k.size ≤ maxLen) (ht : t.size ≤ 60) (hk : keyB k = true) (h1 : 1 ≤ q) (h2 : q ≤ 100000) (h3 : -1000000 ≤ n) (h4 : n ≤ 1000000) :
    Calls Tryd.prog 98 #[.agg #[.string k, .int .i64 q, .int .i64 2, .string t, .int .i64 n]] w fun e w' => e = .returned (.bool (entB k q 2 t n)) ∧ Below w.heap.size w w' := by
  have HR : Hid (entB k q 2 t n = kindB 2 t n) := entB_rest hk h1 h2 h3 h4 ht
  have ht' : (t.size : Int) ≤ 60 := by omega
  clear ht
  go_enter Tryd.func98, Tryd.ntmps98
  go_wp2_with fail
  obtain ⟨X, hX⟩ : ∃ X, X = w.heap.size := ⟨_, rfl⟩
  obtain ⟨W, hW⟩ : ∃ W, W = w.alloc (.cells #[.string k, .int .i64 q, .int .i64 2, .string t, .int .i64 n] 85) := ⟨_, rfl⟩
  have x0 : W.cell? ⟨X, 0, none⟩ = some (.string k) := by rw [hW, hX]; simp
  have x1 : W.cell? ⟨X, 1, none⟩ = some (.int .i64 q) := by rw [hW, hX]; simp
  have x2 : W.cell? ⟨X, 2, none⟩ = some (.int .i64 2) := by rw [hW, hX]; simp
  have x3 : W.cell? ⟨X, 3, none⟩ = some (.string t) := by rw [hW, hX]; simp
  have x4 : W.cell? ⟨X, 4, none⟩ = some (.int .i64 n) := by rw [hW, hX]; simp
  have kW : Below w.heap.size w W := by rw [hW]; exact (Below.refl _ _).alloc (Nat.le_refl _) _
  rw [← hW, ← hX]
  clear hW hX
  have HKW : Hid (Below w.heap.size w W) := kW
  clear kW
  have k0 : Below W.heap.size W W.drew := (Below.refl _ W).drew
  have HMK : Hid (∀ w', Below W.heap.size W w' → (w'.cell? ⟨X, 0, none⟩ = some (.string k) ∧ w'.cell? ⟨X, 1, none⟩ = some (.int .i64 q) ∧ w'.cell? ⟨X, 2, none⟩ = some (.int .i64 2) ∧ w'.cell? ⟨X, 3, none⟩ = some (.string t) ∧ w'.cell? ⟨X, 4, none⟩ = some (.int .i64 n) ∧ X < w'.heap.size ∧ Below W.heap.size W w')) := fun w' k => ⟨cell_later k x0, cell_later k x1, cell_later k x2, cell_later k x3, cell_later k x4, World.block_lt_of_cell? _ _ (cell_later k x0), k⟩
  have hm : ∀ w : World, (method 383 202 (.agg #[]) "loop.example/comptoir/impl.fits").run Tryd.prog w = .ok (216, .agg #[]) w := fun _ => by kernel_rfl
  go_region_held3 (fun w' => w'.cell? ⟨X, 0, none⟩ = some (.string k) ∧ w'.cell? ⟨X, 1, none⟩ = some (.int .i64 q) ∧ w'.cell? ⟨X, 2, none⟩ = some (.int .i64 2) ∧ w'.cell? ⟨X, 3, none⟩ = some (.string t) ∧ w'.cell? ⟨X, 4, none⟩ = some (.int .i64 n) ∧ X < w'.heap.size ∧ Below W.heap.size W w') (first | exact HMK.out _ k2 | exact HMK.out _ k1 | exact HMK.out _ k0) (first
    | (go_at_call 127; refine (implKey _ _ hs).mono ?_; rw [hk]; rintro e w' ⟨rfl, rfl⟩)
    | (go_at_call 128; refine (kindOf_delKind _ _ _ _ _).mono ?_; rintro e w1 ⟨rfl, hb1⟩; have k1 : Below W.heap.size W w1 := k0.trans (hb1.mono k0.size))
    | (go_at_call 216; refine (fits_delKind _ _ _ _ _).mono ?_; rintro e w2 ⟨rfl, hb2⟩; have k2 : Below W.heap.size W w2 := k1.trans (hb2.mono k1.size)))
  go_wp2
  go_ret
  exact ⟨ret_bool HR.out.symm, HKW.out.trans (k2.mono HKW.out.size)⟩

set_option maxRecDepth 100000 in
set_option maxHeartbeats 2000000 in
theorem implEnt_addKind (k t : ByteArray) (q n : Int) (w : World) (hs : k.size ≤ maxLen) (ht : t.size ≤ 60) (hk : keyB k = true) (h1 : 1 ≤ q) (h2 : q ≤ 100000) (h3 : -1000000 ≤ n) (h4 : n ≤ 1000000) :
    Calls Tryd.prog 98 #[.agg #[.string k, .int .i64 q, .int .i64 3, .string t, .int .i64 n]] w fun e w' => e = .returned (.bool (entB k q 3 t n)) ∧ Below w.heap.size w w' := by
  have HR : Hid (entB k q 3 t n = kindB 3 t n) := entB_rest hk h1 h2 h3 h4 ht
  have ht' : (t.size : Int) ≤ 60 := by omega
  clear ht
  go_enter Tryd.func98, Tryd.ntmps98
  go_wp2_with fail
  obtain ⟨X, hX⟩ : ∃ X, X = w.heap.size := ⟨_, rfl⟩
  obtain ⟨W, hW⟩ : ∃ W, W = w.alloc (.cells #[.string k, .int .i64 q, .int .i64 3, .string t, .int .i64 n] 85) := ⟨_, rfl⟩
  have x0 : W.cell? ⟨X, 0, none⟩ = some (.string k) := by rw [hW, hX]; simp
  have x1 : W.cell? ⟨X, 1, none⟩ = some (.int .i64 q) := by rw [hW, hX]; simp
  have x2 : W.cell? ⟨X, 2, none⟩ = some (.int .i64 3) := by rw [hW, hX]; simp
  have x3 : W.cell? ⟨X, 3, none⟩ = some (.string t) := by rw [hW, hX]; simp
  have x4 : W.cell? ⟨X, 4, none⟩ = some (.int .i64 n) := by rw [hW, hX]; simp
  have kW : Below w.heap.size w W := by rw [hW]; exact (Below.refl _ _).alloc (Nat.le_refl _) _
  rw [← hW, ← hX]
  clear hW hX
  have HKW : Hid (Below w.heap.size w W) := kW
  clear kW
  have k0 : Below W.heap.size W W.drew := (Below.refl _ W).drew
  have HMK : Hid (∀ w', Below W.heap.size W w' → (w'.cell? ⟨X, 0, none⟩ = some (.string k) ∧ w'.cell? ⟨X, 1, none⟩ = some (.int .i64 q) ∧ w'.cell? ⟨X, 2, none⟩ = some (.int .i64 3) ∧ w'.cell? ⟨X, 3, none⟩ = some (.string t) ∧ w'.cell? ⟨X, 4, none⟩ = some (.int .i64 n) ∧ X < w'.heap.size ∧ Below W.heap.size W w')) := fun w' k => ⟨cell_later k x0, cell_later k x1, cell_later k x2, cell_later k x3, cell_later k x4, World.block_lt_of_cell? _ _ (cell_later k x0), k⟩
  have hm : ∀ w : World, (method 383 203 (.agg #[]) "loop.example/comptoir/impl.fits").run Tryd.prog w = .ok (218, .agg #[]) w := fun _ => by kernel_rfl
  go_region_held3 (fun w' => w'.cell? ⟨X, 0, none⟩ = some (.string k) ∧ w'.cell? ⟨X, 1, none⟩ = some (.int .i64 q) ∧ w'.cell? ⟨X, 2, none⟩ = some (.int .i64 3) ∧ w'.cell? ⟨X, 3, none⟩ = some (.string t) ∧ w'.cell? ⟨X, 4, none⟩ = some (.int .i64 n) ∧ X < w'.heap.size ∧ Below W.heap.size W w') (first | exact HMK.out _ k2 | exact HMK.out _ k1 | exact HMK.out _ k0) (first
    | (go_at_call 127; refine (implKey _ _ hs).mono ?_; rw [hk]; rintro e w' ⟨rfl, rfl⟩)
    | (go_at_call 128; refine (kindOf_addKind _ _ _ _ _).mono ?_; rintro e w1 ⟨rfl, hb1⟩; have k1 : Below W.heap.size W w1 := k0.trans (hb1.mono k0.size))
    | (go_at_call 218; refine (fits_addKind _ _ _ _ _).mono ?_; rintro e w2 ⟨rfl, hb2⟩; have k2 : Below W.heap.size W w2 := k1.trans (hb2.mono k1.size)))
  go_wp2
  go_ret
  exact ⟨ret_bool HR.out.symm, HKW.out.trans (k2.mono HKW.out.size)⟩

set_option maxRecDepth 100000 in
set_option maxHeartbeats 2000000 in
theorem implEnt_noKind (k t : ByteArray) (q d n : Int) (w : World) (hs : k.size ≤ maxLen) (ht : t.size ≤ 60) (hk : keyB k = true) (h1 : 1 ≤ q) (h2 : q ≤ 100000) (h3 : -1000000 ≤ n) (h4 : n ≤ 1000000) (d1 : ¬ d = 1) (d2 : ¬ d = 2) (d3 : ¬ d = 3) :
    Calls Tryd.prog 98 #[.agg #[.string k, .int .i64 q, .int .i64 d, .string t, .int .i64 n]] w fun e w' => e = .returned (.bool (entB k q d t n)) ∧ Below w.heap.size w w' := by
  have HR : Hid (entB k q d t n = kindB d t n) := entB_rest hk h1 h2 h3 h4 ht
  have ht' : (t.size : Int) ≤ 60 := by omega
  clear ht
  go_enter Tryd.func98, Tryd.ntmps98
  go_wp2_with fail
  obtain ⟨X, hX⟩ : ∃ X, X = w.heap.size := ⟨_, rfl⟩
  obtain ⟨W, hW⟩ : ∃ W, W = w.alloc (.cells #[.string k, .int .i64 q, .int .i64 d, .string t, .int .i64 n] 85) := ⟨_, rfl⟩
  have x0 : W.cell? ⟨X, 0, none⟩ = some (.string k) := by rw [hW, hX]; simp
  have x1 : W.cell? ⟨X, 1, none⟩ = some (.int .i64 q) := by rw [hW, hX]; simp
  have x2 : W.cell? ⟨X, 2, none⟩ = some (.int .i64 d) := by rw [hW, hX]; simp
  have x3 : W.cell? ⟨X, 3, none⟩ = some (.string t) := by rw [hW, hX]; simp
  have x4 : W.cell? ⟨X, 4, none⟩ = some (.int .i64 n) := by rw [hW, hX]; simp
  have kW : Below w.heap.size w W := by rw [hW]; exact (Below.refl _ _).alloc (Nat.le_refl _) _
  rw [← hW, ← hX]
  clear hW hX
  have HKW : Hid (Below w.heap.size w W) := kW
  clear kW
  have k0 : Below W.heap.size W W.drew := (Below.refl _ W).drew
  have HMK : Hid (∀ w', Below W.heap.size W w' → (w'.cell? ⟨X, 0, none⟩ = some (.string k) ∧ w'.cell? ⟨X, 1, none⟩ = some (.int .i64 q) ∧ w'.cell? ⟨X, 2, none⟩ = some (.int .i64 d) ∧ w'.cell? ⟨X, 3, none⟩ = some (.string t) ∧ w'.cell? ⟨X, 4, none⟩ = some (.int .i64 n) ∧ X < w'.heap.size ∧ Below W.heap.size W w')) := fun w' k => ⟨cell_later k x0, cell_later k x1, cell_later k x2, cell_later k x3, cell_later k x4, World.block_lt_of_cell? _ _ (cell_later k x0), k⟩
  have hm : ∀ w : World, (method 383 204 (.agg #[]) "loop.example/comptoir/impl.fits").run Tryd.prog w = .ok (220, .agg #[]) w := fun _ => by kernel_rfl
  go_region_held3 (fun w' => w'.cell? ⟨X, 0, none⟩ = some (.string k) ∧ w'.cell? ⟨X, 1, none⟩ = some (.int .i64 q) ∧ w'.cell? ⟨X, 2, none⟩ = some (.int .i64 d) ∧ w'.cell? ⟨X, 3, none⟩ = some (.string t) ∧ w'.cell? ⟨X, 4, none⟩ = some (.int .i64 n) ∧ X < w'.heap.size ∧ Below W.heap.size W w') (first | exact HMK.out _ k2 | exact HMK.out _ k1 | exact HMK.out _ k0) (first
    | (go_at_call 127; refine (implKey _ _ hs).mono ?_; rw [hk]; rintro e w' ⟨rfl, rfl⟩)
    | (go_at_call 128; refine (kindOf_noKind _ _ _ _ _ _ d1 d2 d3).mono ?_; rintro e w1 ⟨rfl, hb1⟩; have k1 : Below W.heap.size W w1 := k0.trans (hb1.mono k0.size))
    | (go_at_call 220; refine (fits_noKind _ _ _ _ _ _ d1 d2 d3).mono ?_; rintro e w2 ⟨rfl, hb2⟩; have k2 : Below W.heap.size W w2 := k1.trans (hb2.mono k1.size)))
  go_wp2
  go_ret
  exact ⟨ret_bool HR.out.symm, HKW.out.trans (k2.mono HKW.out.size)⟩

theorem implEnt (k t : ByteArray) (q d n : Int) (w : World) (hs : k.size ≤ maxLen) :
    Calls Tryd.prog 98 #[.agg #[.string k, .int .i64 q, .int .i64 d, .string t, .int .i64 n]] w fun e w' => e = .returned (.bool (entB k q d t n)) ∧ Below w.heap.size w w' := by
  cases hk : keyB k with
  | false => exact implEnt_key k t q d n w hs hk
  | true =>
    by_cases h1 : q < 1
    · exact implEnt_q1 k t q d n w hs hk h1
    by_cases h2 : 100000 < q
    · exact implEnt_q2 k t q d n w hs hk (by omega) h2
    by_cases h3 : n < -1000000
    · exact implEnt_n1 k t q d n w hs hk (by omega) (by omega) h3
    by_cases h4 : 1000000 < n
    · exact implEnt_n2 k t q d n w hs hk (by omega) (by omega) (by omega) h4
    by_cases h5 : 60 < t.size
    · exact implEnt_t k t q d n w hs hk (by omega) (by omega) (by omega) (by omega) h5
    by_cases d1 : d = 1
    · subst d1; exact implEnt_putKind k t q n w hs (by omega) hk (by omega) (by omega) (by omega) (by omega)
    by_cases d2 : d = 2
    · subst d2; exact implEnt_delKind k t q n w hs (by omega) hk (by omega) (by omega) (by omega) (by omega)
    by_cases d3 : d = 3
    · subst d3; exact implEnt_addKind k t q n w hs (by omega) hk (by omega) (by omega) (by omega) (by omega)
    exact implEnt_noKind k t q d n w hs (by omega) hk (by omega) (by omega) (by omega) (by omega) d1 d2 d3

end Go.Proofs.YtfblpbihpmhgjaaDoor
