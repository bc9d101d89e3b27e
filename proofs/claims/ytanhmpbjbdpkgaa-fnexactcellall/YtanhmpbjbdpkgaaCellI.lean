/-
  What the program's CellDo makes of every cell and every entry, by walks of its Go text.
-/
import Derived.Test.YtanhmpbjbdpkgaaCell
import Derived.Test.YtanhmpbjbdpkgaaCloneE
import Derived.Test.YtanhmpbjbdpkgaaBase
namespace Go.Proofs.Ytanhmpbjbdpkgaa
open Go.RowKit

attribute [local go_sem] Oper.semAt_some

set_option maxRecDepth 100000 in
set_option maxHeartbeats 1000000 in
theorem cloneCell_any (c : CellD) (w : World) (h : c.2.1.size ≤ 281474976710656) :
    Calls Try.prog 53 #[cellV c] w fun e w' => e = .returned (cellV c) ∧ Below w.heap.size w w' := by
  obtain ⟨b, t, n⟩ := c
  simp only at h
  unfold cellV
  simp only
  have kB : Below w.heap.size w ((w.alloc (.cells #[.bool b, .string t, .int .i64 n] 35)).alloc (.cells #[.bool false, .string ⟨#[]⟩, .int .i64 0] 35)) := ((Below.refl _ _).alloc (Nat.le_refl _) _).alloc (by simp) _
  go_enter Try.func53, Try.ntmps53
  go_wp2_with fail
  refine (strClone _ _ h).mono ?_
  rintro e w1 ⟨rfl, hb1⟩
  obtain ⟨hc1, hf1⟩ := bcell hb1
  have k1 : Below w.heap.size w w1 := kB.trans (hb1.mono (by simp; omega))
  have hz1 : w.heap.size + 1 < w1.heap.size := by have := hb1.size; simp at this; omega
  have x0 : w1.cell? ⟨w.heap.size, 0, none⟩ = some (.bool b) := (hc1 _ _ (by simp only [World.size_alloc]; omega)).trans (by simp)
  have x1 : w1.cell? ⟨w.heap.size, 1, none⟩ = some (.string t) := (hc1 _ _ (by simp only [World.size_alloc]; omega)).trans (by simp)
  have x2 : w1.cell? ⟨w.heap.size, 2, none⟩ = some (.int .i64 n) := (hc1 _ _ (by simp only [World.size_alloc]; omega)).trans (by simp)
  have f1 : w1.frozen? ⟨w.heap.size, 1, none⟩ = false := (hf1 _ _ (by simp only [World.size_alloc]; omega)).trans (by simp)
  have y0 : w1.cell? ⟨w.heap.size + 1, 0, none⟩ = some (.bool false) := (hc1 _ _ (by simp only [World.size_alloc]; omega)).trans (by simp)
  have y1 : w1.cell? ⟨w.heap.size + 1, 1, none⟩ = some (.string ⟨#[]⟩) := (hc1 _ _ (by simp only [World.size_alloc]; omega)).trans (by simp)
  have y2 : w1.cell? ⟨w.heap.size + 1, 2, none⟩ = some (.int .i64 0) := (hc1 _ _ (by simp only [World.size_alloc]; omega)).trans (by simp)
  have g0 : w1.frozen? ⟨w.heap.size + 1, 0, none⟩ = false := (hf1 _ _ (by simp only [World.size_alloc]; omega)).trans (by simp)
  have g1 : w1.frozen? ⟨w.heap.size + 1, 1, none⟩ = false := (hf1 _ _ (by simp only [World.size_alloc]; omega)).trans (by simp)
  have g2 : w1.frozen? ⟨w.heap.size + 1, 2, none⟩ = false := (hf1 _ _ (by simp only [World.size_alloc]; omega)).trans (by simp)
  clear hc1 hf1 hb1 kB
  go_wp2
  refine bodyPost_ret (v := .agg #[.bool b, .string t, .int .i64 n]) (by simp [results, Try.results53, go_sem, y0, y1, y2]) rfl ⟨rfl, ?_⟩
  exact (((k1.setCell (p := ⟨w.heap.size, 1, none⟩) (Nat.le_refl _) _).setCell (p := ⟨w.heap.size + 1, 0, none⟩) (Nat.le_succ _) _).setCell (p := ⟨w.heap.size + 1, 1, none⟩) (Nat.le_succ _) _).setCell (p := ⟨w.heap.size + 1, 2, none⟩) (Nat.le_succ _) _

theorem alloc3_a (w : World) (o1 o2 o3 : Obj) (o : Nat) : (((w.alloc o1).alloc o2).alloc o3).cell? ⟨w.heap.size, o, none⟩ = (w.alloc o1).cell? ⟨w.heap.size, o, none⟩ :=
  (((Below.refl (w.heap.size + 1) (w.alloc o1)).alloc (by simp) o2).alloc (by simp) o3).cell (p := ⟨w.heap.size, o, none⟩) (Nat.lt_succ_self _)
theorem alloc3_b (w : World) (o1 o2 o3 : Obj) (o : Nat) : (((w.alloc o1).alloc o2).alloc o3).cell? ⟨w.heap.size + 1, o, none⟩ = ((w.alloc o1).alloc o2).cell? ⟨w.heap.size + 1, o, none⟩ :=
  ((Below.refl (w.heap.size + 1 + 1) ((w.alloc o1).alloc o2)).alloc (by simp) o3).cell (p := ⟨w.heap.size + 1, o, none⟩) (Nat.lt_succ_self _)

theorem alloc3_c (w : World) (o1 o2 : Obj) (cs : Array Value) (t : TypeId) (o : Nat) : (((w.alloc o1).alloc o2).alloc (.cells cs t)).cell? ⟨w.heap.size + 1 + 1, o, none⟩ = cs[o]? := by
  have h := World.cell?_alloc_new ((w.alloc o1).alloc o2) cs t o
  simp only [World.size_alloc] at h
  exact h

theorem alloc3_f (w : World) (o1 o2 : Obj) (cs : Array Value) (t : TypeId) (o : Nat) : (((w.alloc o1).alloc o2).alloc (.cells cs t)).frozen? ⟨w.heap.size + 1 + 1, o, none⟩ = false := by
  have h : (((w.alloc o1).alloc o2).alloc (.cells cs t)).frozen? ⟨((w.alloc o1).alloc o2).heap.size, o, none⟩ = false := World.frozen?_alloc_new _ cs t o
  simp only [World.size_alloc] at h
  exact h

theorem cellN_size {b : Bool} {t t' : ByteArray} {n d n' : Int} {L : Nat} (ht : t.size ≤ L) (ht' : t'.size ≤ L) : (cellN b t n d t' n').2.1.size ≤ L := by
  unfold cellN
  split
  · exact ht'
  · split
    · exact Nat.zero_le _
    · split
      · exact ht
      · exact ht
set_option maxRecDepth 100000 in
set_option maxHeartbeats 2000000 in
theorem implCell_putKind (b : Bool) (t k t' : ByteArray) (n q n' : Int) (w : World) (ht : t.size ≤ 281474976710656) (ht' : t'.size ≤ 281474976710656) :
    Calls Try.prog 29 #[.agg #[.bool b, .string t, .int .i64 n], .agg #[.string k, .int .i64 q, .int .i64 1, .string t', .int .i64 n']] w fun e w' => e = .returned (cellV (cellN b t n 1 t' n')) ∧ Below w.heap.size w w' := by
  obtain ⟨c, hc⟩ : ∃ c, c = cellN b t n 1 t' n' := ⟨_, rfl⟩
  have hcs : c.2.1.size ≤ 281474976710656 := by rw [hc]; exact cellN_size ht ht'
  have hdo : ∀ w, Calls Try.prog 195 #[.agg #[], .agg #[.bool b, .string t, .int .i64 n], .agg #[.string k, .int .i64 q, .int .i64 1, .string t', .int .i64 n']] w fun e w' => e = .returned (cellV c) ∧ Below w.heap.size w w' := by
    rw [hc, cellN_1]
    exact fun w => do_putKind b t k t' n q 1 n' w
  rw [← hc]
  clear hc
  go_enter Try.func29, Try.ntmps29
  go_wp2_with fail
  obtain ⟨X, hX⟩ : ∃ X, X = w.heap.size := ⟨_, rfl⟩
  obtain ⟨W, hW⟩ : ∃ W, W = ((w.alloc (.cells #[.bool b, .string t, .int .i64 n] 35)).alloc (.cells #[.string k, .int .i64 q, .int .i64 1, .string t', .int .i64 n'] 47)).alloc (.cells #[.bool false, .string ⟨#[]⟩, .int .i64 0] 35) := ⟨_, rfl⟩
  have x0 : W.cell? ⟨X, 0, none⟩ = some (.bool b) := by rw [hW, hX, alloc3_a]; simp
  have x1 : W.cell? ⟨X, 1, none⟩ = some (.string t) := by rw [hW, hX, alloc3_a]; simp
  have x2 : W.cell? ⟨X, 2, none⟩ = some (.int .i64 n) := by rw [hW, hX, alloc3_a]; simp
  have y0 : W.cell? ⟨X + 1, 0, none⟩ = some (.string k) := by rw [hW, hX, alloc3_b]; simp
  have y1 : W.cell? ⟨X + 1, 1, none⟩ = some (.int .i64 q) := by rw [hW, hX, alloc3_b]; simp
  have y2 : W.cell? ⟨X + 1, 2, none⟩ = some (.int .i64 1) := by rw [hW, hX, alloc3_b]; simp
  have y3 : W.cell? ⟨X + 1, 3, none⟩ = some (.string t') := by rw [hW, hX, alloc3_b]; simp
  have y4 : W.cell? ⟨X + 1, 4, none⟩ = some (.int .i64 n') := by rw [hW, hX, alloc3_b]; simp
  have r0 : W.cell? ⟨X + 1 + 1, 0, none⟩ = some (.bool false) := by rw [hW, hX, alloc3_c]; rfl
  have r1 : W.cell? ⟨X + 1 + 1, 1, none⟩ = some (.string ⟨#[]⟩) := by rw [hW, hX, alloc3_c]; rfl
  have r2 : W.cell? ⟨X + 1 + 1, 2, none⟩ = some (.int .i64 0) := by rw [hW, hX, alloc3_c]; rfl
  have HF : Hid (∀ o, W.frozen? ⟨X + 1 + 1, o, none⟩ = false) := by intro o; rw [hW, hX]; exact alloc3_f _ _ _ _ _ o
  have hz : X + 1 + 1 < W.heap.size := by simp [hW, hX]
  have kW : Below w.heap.size w W := by rw [hW]; exact (((Below.refl _ _).alloc (Nat.le_refl _) _).alloc (by simp) _).alloc (by simp; omega) _
  have HX : Hid (X = w.heap.size) := hX
  rw [← hW, ← hX]
  clear hW hX
  have HKW : Hid (Below w.heap.size w W) := kW
  clear kW
  have HR : Hid (W.cell? ⟨X + 1 + 1, 0, none⟩ = some (.bool false) ∧ W.cell? ⟨X + 1 + 1, 1, none⟩ = some (.string ⟨#[]⟩) ∧ W.cell? ⟨X + 1 + 1, 2, none⟩ = some (.int .i64 0)) := ⟨r0, r1, r2⟩
  clear r0 r1 r2
  have k0 : Below W.heap.size W W.drew := (Below.refl _ W).drew
  have HMK : Hid (∀ w', Below (X + 1 + 1) W w' → (w'.cell? ⟨X, 0, none⟩ = some (.bool b) ∧ w'.cell? ⟨X, 1, none⟩ = some (.string t) ∧ w'.cell? ⟨X, 2, none⟩ = some (.int .i64 n) ∧ w'.cell? ⟨X + 1, 0, none⟩ = some (.string k) ∧ w'.cell? ⟨X + 1, 1, none⟩ = some (.int .i64 q) ∧ w'.cell? ⟨X + 1, 2, none⟩ = some (.int .i64 1) ∧ w'.cell? ⟨X + 1, 3, none⟩ = some (.string t') ∧ w'.cell? ⟨X + 1, 4, none⟩ = some (.int .i64 n') ∧ X + 1 + 1 < w'.heap.size ∧ Below (X + 1 + 1) W w')) := fun w' k => ⟨(k.cell (p := ⟨X, 0, none⟩) (by show X < X + 1 + 1; omega)).trans x0, (k.cell (p := ⟨X, 1, none⟩) (by show X < X + 1 + 1; omega)).trans x1, (k.cell (p := ⟨X, 2, none⟩) (by show X < X + 1 + 1; omega)).trans x2, (k.cell (p := ⟨X + 1, 0, none⟩) (by show X + 1 < X + 1 + 1; omega)).trans y0, (k.cell (p := ⟨X + 1, 1, none⟩) (by show X + 1 < X + 1 + 1; omega)).trans y1, (k.cell (p := ⟨X + 1, 2, none⟩) (by show X + 1 < X + 1 + 1; omega)).trans y2, (k.cell (p := ⟨X + 1, 3, none⟩) (by show X + 1 < X + 1 + 1; omega)).trans y3, (k.cell (p := ⟨X + 1, 4, none⟩) (by show X + 1 < X + 1 + 1; omega)).trans y4, Nat.lt_of_lt_of_le hz k.size, k⟩
  have hm : ∀ w : World, (method 322 119 (.agg #[]) "loop.example/comptoir/impl.do").run Try.prog w = .ok (195, .agg #[]) w := fun _ => by kernel_rfl
  have hzl : X + 1 + 1 ≤ W.heap.size := Nat.le_of_lt hz
  obtain ⟨cb, ct, cn⟩ := c
  go_region_held3 (fun w' => w'.cell? ⟨X, 0, none⟩ = some (.bool b) ∧ w'.cell? ⟨X, 1, none⟩ = some (.string t) ∧ w'.cell? ⟨X, 2, none⟩ = some (.int .i64 n) ∧ w'.cell? ⟨X + 1, 0, none⟩ = some (.string k) ∧ w'.cell? ⟨X + 1, 1, none⟩ = some (.int .i64 q) ∧ w'.cell? ⟨X + 1, 2, none⟩ = some (.int .i64 1) ∧ w'.cell? ⟨X + 1, 3, none⟩ = some (.string t') ∧ w'.cell? ⟨X + 1, 4, none⟩ = some (.int .i64 n') ∧ X + 1 + 1 < w'.heap.size ∧ Below (X + 1 + 1) W w') (first | exact HMK.out _ (k3.mono hzl) | exact HMK.out _ ((((k3.mono hzl).setCell (p := ⟨X + 1 + 1, 0, none⟩) (Nat.le_refl _) _).setCell (p := ⟨X + 1 + 1, 1, none⟩) (Nat.le_refl _) _).setCell (p := ⟨X + 1 + 1, 2, none⟩) (Nat.le_refl _) _) | exact HMK.out _ (k2.mono hzl) | exact HMK.out _ (k1.mono hzl) | exact HMK.out _ (k0.mono hzl)) (first
    | (go_at_call 52; refine (kindOf_putKind k t' q n' _).mono ?_; rintro e w1 ⟨rfl, hb1⟩; have k1 : Below W.heap.size W w1 := k0.trans (hb1.mono k0.size))
    | (go_at_call 195; refine (hdo _).mono ?_; rintro e w2 ⟨rfl, hb2⟩; have k2 : Below W.heap.size W w2 := k1.trans (hb2.mono k1.size))
    | (go_at_call 53; refine (cloneCell_any (cb, ct, cn) _ hcs).mono ?_; rintro e w3 ⟨rfl, hb3⟩; have k3 : Below W.heap.size W w3 := k2.trans (hb3.mono k2.size); have r0 := cell_later k3 HR.out.1; have r1 := cell_later k3 HR.out.2.1; have r2 := cell_later k3 HR.out.2.2; have f0 := (k3.frozen (p := ⟨X + 1 + 1, 0, none⟩) hz).trans (HF.out 0); have f1 := (k3.frozen (p := ⟨X + 1 + 1, 1, none⟩) hz).trans (HF.out 1); have f2 := (k3.frozen (p := ⟨X + 1 + 1, 2, none⟩) hz).trans (HF.out 2); unfold cellV; simp only))
  have K : Below w.heap.size w w3 := HKW.out.trans (k3.mono HKW.out.size)
  have hXw : w.heap.size ≤ X + 1 + 1 := by rw [HX.out]; omega
  go_wp2
  refine bodyPost_ret (v := .agg #[.bool cb, .string ct, .int .i64 cn]) (by simp [results, Try.results29, go_sem, r0, r1, r2]) rfl ⟨rfl, ?_⟩
  exact ((K.setCell (p := ⟨X + 1 + 1, 0, none⟩) hXw _).setCell (p := ⟨X + 1 + 1, 1, none⟩) hXw _).setCell (p := ⟨X + 1 + 1, 2, none⟩) hXw _

set_option maxRecDepth 100000 in
set_option maxHeartbeats 2000000 in
theorem implCell_delKind (b : Bool) (t k t' : ByteArray) (n q n' : Int) (w : World) (ht : t.size ≤ 281474976710656) (ht' : t'.size ≤ 281474976710656) :
    Calls Try.prog 29 #[.agg #[.bool b, .string t, .int .i64 n], .agg #[.string k, .int .i64 q, .int .i64 2, .string t', .int .i64 n']] w fun e w' => e = .returned (cellV (cellN b t n 2 t' n')) ∧ Below w.heap.size w w' := by
  obtain ⟨c, hc⟩ : ∃ c, c = cellN b t n 2 t' n' := ⟨_, rfl⟩
  have hcs : c.2.1.size ≤ 281474976710656 := by rw [hc]; exact cellN_size ht ht'
  have hdo : ∀ w, Calls Try.prog 197 #[.agg #[], .agg #[.bool b, .string t, .int .i64 n], .agg #[.string k, .int .i64 q, .int .i64 2, .string t', .int .i64 n']] w fun e w' => e = .returned (cellV c) ∧ Below w.heap.size w w' := by
    rw [hc, cellN_2]
    exact fun w => do_delKind b t k t' n q 2 n' w
  rw [← hc]
  clear hc
  go_enter Try.func29, Try.ntmps29
  go_wp2_with fail
  obtain ⟨X, hX⟩ : ∃ X, X = w.heap.size := ⟨_, rfl⟩
  obtain ⟨W, hW⟩ : ∃ W, W = ((w.alloc (.cells #[.bool b, .string t, .int .i64 n] 35)).alloc (.cells #[.string k, .int .i64 q, .int .i64 2, .string t', .int .i64 n'] 47)).alloc (.cells #[.bool false, .string ⟨#[]⟩, .int .i64 0] 35) := ⟨_, rfl⟩
  have x0 : W.cell? ⟨X, 0, none⟩ = some (.bool b) := by rw [hW, hX, alloc3_a]; simp
  have x1 : W.cell? ⟨X, 1, none⟩ = some (.string t) := by rw [hW, hX, alloc3_a]; simp
  have x2 : W.cell? ⟨X, 2, none⟩ = some (.int .i64 n) := by rw [hW, hX, alloc3_a]; simp
  have y0 : W.cell? ⟨X + 1, 0, none⟩ = some (.string k) := by rw [hW, hX, alloc3_b]; simp
  have y1 : W.cell? ⟨X + 1, 1, none⟩ = some (.int .i64 q) := by rw [hW, hX, alloc3_b]; simp
  have y2 : W.cell? ⟨X + 1, 2, none⟩ = some (.int .i64 2) := by rw [hW, hX, alloc3_b]; simp
  have y3 : W.cell? ⟨X + 1, 3, none⟩ = some (.string t') := by rw [hW, hX, alloc3_b]; simp
  have y4 : W.cell? ⟨X + 1, 4, none⟩ = some (.int .i64 n') := by rw [hW, hX, alloc3_b]; simp
  have r0 : W.cell? ⟨X + 1 + 1, 0, none⟩ = some (.bool false) := by rw [hW, hX, alloc3_c]; rfl
  have r1 : W.cell? ⟨X + 1 + 1, 1, none⟩ = some (.string ⟨#[]⟩) := by rw [hW, hX, alloc3_c]; rfl
  have r2 : W.cell? ⟨X + 1 + 1, 2, none⟩ = some (.int .i64 0) := by rw [hW, hX, alloc3_c]; rfl
  have HF : Hid (∀ o, W.frozen? ⟨X + 1 + 1, o, none⟩ = false) := by intro o; rw [hW, hX]; exact alloc3_f _ _ _ _ _ o
  have hz : X + 1 + 1 < W.heap.size := by simp [hW, hX]
  have kW : Below w.heap.size w W := by rw [hW]; exact (((Below.refl _ _).alloc (Nat.le_refl _) _).alloc (by simp) _).alloc (by simp; omega) _
  have HX : Hid (X = w.heap.size) := hX
  rw [← hW, ← hX]
  clear hW hX
  have HKW : Hid (Below w.heap.size w W) := kW
  clear kW
  have HR : Hid (W.cell? ⟨X + 1 + 1, 0, none⟩ = some (.bool false) ∧ W.cell? ⟨X + 1 + 1, 1, none⟩ = some (.string ⟨#[]⟩) ∧ W.cell? ⟨X + 1 + 1, 2, none⟩ = some (.int .i64 0)) := ⟨r0, r1, r2⟩
  clear r0 r1 r2
  have k0 : Below W.heap.size W W.drew := (Below.refl _ W).drew
  have HMK : Hid (∀ w', Below (X + 1 + 1) W w' → (w'.cell? ⟨X, 0, none⟩ = some (.bool b) ∧ w'.cell? ⟨X, 1, none⟩ = some (.string t) ∧ w'.cell? ⟨X, 2, none⟩ = some (.int .i64 n) ∧ w'.cell? ⟨X + 1, 0, none⟩ = some (.string k) ∧ w'.cell? ⟨X + 1, 1, none⟩ = some (.int .i64 q) ∧ w'.cell? ⟨X + 1, 2, none⟩ = some (.int .i64 2) ∧ w'.cell? ⟨X + 1, 3, none⟩ = some (.string t') ∧ w'.cell? ⟨X + 1, 4, none⟩ = some (.int .i64 n') ∧ X + 1 + 1 < w'.heap.size ∧ Below (X + 1 + 1) W w')) := fun w' k => ⟨(k.cell (p := ⟨X, 0, none⟩) (by show X < X + 1 + 1; omega)).trans x0, (k.cell (p := ⟨X, 1, none⟩) (by show X < X + 1 + 1; omega)).trans x1, (k.cell (p := ⟨X, 2, none⟩) (by show X < X + 1 + 1; omega)).trans x2, (k.cell (p := ⟨X + 1, 0, none⟩) (by show X + 1 < X + 1 + 1; omega)).trans y0, (k.cell (p := ⟨X + 1, 1, none⟩) (by show X + 1 < X + 1 + 1; omega)).trans y1, (k.cell (p := ⟨X + 1, 2, none⟩) (by show X + 1 < X + 1 + 1; omega)).trans y2, (k.cell (p := ⟨X + 1, 3, none⟩) (by show X + 1 < X + 1 + 1; omega)).trans y3, (k.cell (p := ⟨X + 1, 4, none⟩) (by show X + 1 < X + 1 + 1; omega)).trans y4, Nat.lt_of_lt_of_le hz k.size, k⟩
  have hm : ∀ w : World, (method 322 120 (.agg #[]) "loop.example/comptoir/impl.do").run Try.prog w = .ok (197, .agg #[]) w := fun _ => by kernel_rfl
  have hzl : X + 1 + 1 ≤ W.heap.size := Nat.le_of_lt hz
  obtain ⟨cb, ct, cn⟩ := c
  go_region_held3 (fun w' => w'.cell? ⟨X, 0, none⟩ = some (.bool b) ∧ w'.cell? ⟨X, 1, none⟩ = some (.string t) ∧ w'.cell? ⟨X, 2, none⟩ = some (.int .i64 n) ∧ w'.cell? ⟨X + 1, 0, none⟩ = some (.string k) ∧ w'.cell? ⟨X + 1, 1, none⟩ = some (.int .i64 q) ∧ w'.cell? ⟨X + 1, 2, none⟩ = some (.int .i64 2) ∧ w'.cell? ⟨X + 1, 3, none⟩ = some (.string t') ∧ w'.cell? ⟨X + 1, 4, none⟩ = some (.int .i64 n') ∧ X + 1 + 1 < w'.heap.size ∧ Below (X + 1 + 1) W w') (first | exact HMK.out _ (k3.mono hzl) | exact HMK.out _ ((((k3.mono hzl).setCell (p := ⟨X + 1 + 1, 0, none⟩) (Nat.le_refl _) _).setCell (p := ⟨X + 1 + 1, 1, none⟩) (Nat.le_refl _) _).setCell (p := ⟨X + 1 + 1, 2, none⟩) (Nat.le_refl _) _) | exact HMK.out _ (k2.mono hzl) | exact HMK.out _ (k1.mono hzl) | exact HMK.out _ (k0.mono hzl)) (first
    | (go_at_call 52; refine (kindOf_delKind k t' q n' _).mono ?_; rintro e w1 ⟨rfl, hb1⟩; have k1 : Below W.heap.size W w1 := k0.trans (hb1.mono k0.size))
    | (go_at_call 197; refine (hdo _).mono ?_; rintro e w2 ⟨rfl, hb2⟩; have k2 : Below W.heap.size W w2 := k1.trans (hb2.mono k1.size))
    | (go_at_call 53; refine (cloneCell_any (cb, ct, cn) _ hcs).mono ?_; rintro e w3 ⟨rfl, hb3⟩; have k3 : Below W.heap.size W w3 := k2.trans (hb3.mono k2.size); have r0 := cell_later k3 HR.out.1; have r1 := cell_later k3 HR.out.2.1; have r2 := cell_later k3 HR.out.2.2; have f0 := (k3.frozen (p := ⟨X + 1 + 1, 0, none⟩) hz).trans (HF.out 0); have f1 := (k3.frozen (p := ⟨X + 1 + 1, 1, none⟩) hz).trans (HF.out 1); have f2 := (k3.frozen (p := ⟨X + 1 + 1, 2, none⟩) hz).trans (HF.out 2); unfold cellV; simp only))
  have K : Below w.heap.size w w3 := HKW.out.trans (k3.mono HKW.out.size)
  have hXw : w.heap.size ≤ X + 1 + 1 := by rw [HX.out]; omega
  go_wp2
  refine bodyPost_ret (v := .agg #[.bool cb, .string ct, .int .i64 cn]) (by simp [results, Try.results29, go_sem, r0, r1, r2]) rfl ⟨rfl, ?_⟩
  exact ((K.setCell (p := ⟨X + 1 + 1, 0, none⟩) hXw _).setCell (p := ⟨X + 1 + 1, 1, none⟩) hXw _).setCell (p := ⟨X + 1 + 1, 2, none⟩) hXw _

set_option maxRecDepth 100000 in
set_option maxHeartbeats 2000000 in
theorem implCell_addKind (b : Bool) (t k t' : ByteArray) (n q n' : Int) (w : World) (ht : t.size ≤ 281474976710656) (ht' : t'.size ≤ 281474976710656) :
    Calls Try.prog 29 #[.agg #[.bool b, .string t, .int .i64 n], .agg #[.string k, .int .i64 q, .int .i64 3, .string t', .int .i64 n']] w fun e w' => e = .returned (cellV (cellN b t n 3 t' n')) ∧ Below w.heap.size w w' := by
  obtain ⟨c, hc⟩ : ∃ c, c = cellN b t n 3 t' n' := ⟨_, rfl⟩
  have hcs : c.2.1.size ≤ 281474976710656 := by rw [hc]; exact cellN_size ht ht'
  have hdo : ∀ w, Calls Try.prog 199 #[.agg #[], .agg #[.bool b, .string t, .int .i64 n], .agg #[.string k, .int .i64 q, .int .i64 3, .string t', .int .i64 n']] w fun e w' => e = .returned (cellV c) ∧ Below w.heap.size w w' := by
    rw [hc, cellN_3]
    exact fun w => do_addKind b t k t' n q 3 n' w
  rw [← hc]
  clear hc
  go_enter Try.func29, Try.ntmps29
  go_wp2_with fail
  obtain ⟨X, hX⟩ : ∃ X, X = w.heap.size := ⟨_, rfl⟩
  obtain ⟨W, hW⟩ : ∃ W, W = ((w.alloc (.cells #[.bool b, .string t, .int .i64 n] 35)).alloc (.cells #[.string k, .int .i64 q, .int .i64 3, .string t', .int .i64 n'] 47)).alloc (.cells #[.bool false, .string ⟨#[]⟩, .int .i64 0] 35) := ⟨_, rfl⟩
  have x0 : W.cell? ⟨X, 0, none⟩ = some (.bool b) := by rw [hW, hX, alloc3_a]; simp
  have x1 : W.cell? ⟨X, 1, none⟩ = some (.string t) := by rw [hW, hX, alloc3_a]; simp
  have x2 : W.cell? ⟨X, 2, none⟩ = some (.int .i64 n) := by rw [hW, hX, alloc3_a]; simp
  have y0 : W.cell? ⟨X + 1, 0, none⟩ = some (.string k) := by rw [hW, hX, alloc3_b]; simp
  have y1 : W.cell? ⟨X + 1, 1, none⟩ = some (.int .i64 q) := by rw [hW, hX, alloc3_b]; simp
  have y2 : W.cell? ⟨X + 1, 2, none⟩ = some (.int .i64 3) := by rw [hW, hX, alloc3_b]; simp
  have y3 : W.cell? ⟨X + 1, 3, none⟩ = some (.string t') := by rw [hW, hX, alloc3_b]; simp
  have y4 : W.cell? ⟨X + 1, 4, none⟩ = some (.int .i64 n') := by rw [hW, hX, alloc3_b]; simp
  have r0 : W.cell? ⟨X + 1 + 1, 0, none⟩ = some (.bool false) := by rw [hW, hX, alloc3_c]; rfl
  have r1 : W.cell? ⟨X + 1 + 1, 1, none⟩ = some (.string ⟨#[]⟩) := by rw [hW, hX, alloc3_c]; rfl
  have r2 : W.cell? ⟨X + 1 + 1, 2, none⟩ = some (.int .i64 0) := by rw [hW, hX, alloc3_c]; rfl
  have HF : Hid (∀ o, W.frozen? ⟨X + 1 + 1, o, none⟩ = false) := by intro o; rw [hW, hX]; exact alloc3_f _ _ _ _ _ o
  have hz : X + 1 + 1 < W.heap.size := by simp [hW, hX]
  have kW : Below w.heap.size w W := by rw [hW]; exact (((Below.refl _ _).alloc (Nat.le_refl _) _).alloc (by simp) _).alloc (by simp; omega) _
  have HX : Hid (X = w.heap.size) := hX
  rw [← hW, ← hX]
  clear hW hX
  have HKW : Hid (Below w.heap.size w W) := kW
  clear kW
  have HR : Hid (W.cell? ⟨X + 1 + 1, 0, none⟩ = some (.bool false) ∧ W.cell? ⟨X + 1 + 1, 1, none⟩ = some (.string ⟨#[]⟩) ∧ W.cell? ⟨X + 1 + 1, 2, none⟩ = some (.int .i64 0)) := ⟨r0, r1, r2⟩
  clear r0 r1 r2
  have k0 : Below W.heap.size W W.drew := (Below.refl _ W).drew
  have HMK : Hid (∀ w', Below (X + 1 + 1) W w' → (w'.cell? ⟨X, 0, none⟩ = some (.bool b) ∧ w'.cell? ⟨X, 1, none⟩ = some (.string t) ∧ w'.cell? ⟨X, 2, none⟩ = some (.int .i64 n) ∧ w'.cell? ⟨X + 1, 0, none⟩ = some (.string k) ∧ w'.cell? ⟨X + 1, 1, none⟩ = some (.int .i64 q) ∧ w'.cell? ⟨X + 1, 2, none⟩ = some (.int .i64 3) ∧ w'.cell? ⟨X + 1, 3, none⟩ = some (.string t') ∧ w'.cell? ⟨X + 1, 4, none⟩ = some (.int .i64 n') ∧ X + 1 + 1 < w'.heap.size ∧ Below (X + 1 + 1) W w')) := fun w' k => ⟨(k.cell (p := ⟨X, 0, none⟩) (by show X < X + 1 + 1; omega)).trans x0, (k.cell (p := ⟨X, 1, none⟩) (by show X < X + 1 + 1; omega)).trans x1, (k.cell (p := ⟨X, 2, none⟩) (by show X < X + 1 + 1; omega)).trans x2, (k.cell (p := ⟨X + 1, 0, none⟩) (by show X + 1 < X + 1 + 1; omega)).trans y0, (k.cell (p := ⟨X + 1, 1, none⟩) (by show X + 1 < X + 1 + 1; omega)).trans y1, (k.cell (p := ⟨X + 1, 2, none⟩) (by show X + 1 < X + 1 + 1; omega)).trans y2, (k.cell (p := ⟨X + 1, 3, none⟩) (by show X + 1 < X + 1 + 1; omega)).trans y3, (k.cell (p := ⟨X + 1, 4, none⟩) (by show X + 1 < X + 1 + 1; omega)).trans y4, Nat.lt_of_lt_of_le hz k.size, k⟩
  have hm : ∀ w : World, (method 322 121 (.agg #[]) "loop.example/comptoir/impl.do").run Try.prog w = .ok (199, .agg #[]) w := fun _ => by kernel_rfl
  have hzl : X + 1 + 1 ≤ W.heap.size := Nat.le_of_lt hz
  obtain ⟨cb, ct, cn⟩ := c
  go_region_held3 (fun w' => w'.cell? ⟨X, 0, none⟩ = some (.bool b) ∧ w'.cell? ⟨X, 1, none⟩ = some (.string t) ∧ w'.cell? ⟨X, 2, none⟩ = some (.int .i64 n) ∧ w'.cell? ⟨X + 1, 0, none⟩ = some (.string k) ∧ w'.cell? ⟨X + 1, 1, none⟩ = some (.int .i64 q) ∧ w'.cell? ⟨X + 1, 2, none⟩ = some (.int .i64 3) ∧ w'.cell? ⟨X + 1, 3, none⟩ = some (.string t') ∧ w'.cell? ⟨X + 1, 4, none⟩ = some (.int .i64 n') ∧ X + 1 + 1 < w'.heap.size ∧ Below (X + 1 + 1) W w') (first | exact HMK.out _ (k3.mono hzl) | exact HMK.out _ ((((k3.mono hzl).setCell (p := ⟨X + 1 + 1, 0, none⟩) (Nat.le_refl _) _).setCell (p := ⟨X + 1 + 1, 1, none⟩) (Nat.le_refl _) _).setCell (p := ⟨X + 1 + 1, 2, none⟩) (Nat.le_refl _) _) | exact HMK.out _ (k2.mono hzl) | exact HMK.out _ (k1.mono hzl) | exact HMK.out _ (k0.mono hzl)) (first
    | (go_at_call 52; refine (kindOf_addKind k t' q n' _).mono ?_; rintro e w1 ⟨rfl, hb1⟩; have k1 : Below W.heap.size W w1 := k0.trans (hb1.mono k0.size))
    | (go_at_call 199; refine (hdo _).mono ?_; rintro e w2 ⟨rfl, hb2⟩; have k2 : Below W.heap.size W w2 := k1.trans (hb2.mono k1.size))
    | (go_at_call 53; refine (cloneCell_any (cb, ct, cn) _ hcs).mono ?_; rintro e w3 ⟨rfl, hb3⟩; have k3 : Below W.heap.size W w3 := k2.trans (hb3.mono k2.size); have r0 := cell_later k3 HR.out.1; have r1 := cell_later k3 HR.out.2.1; have r2 := cell_later k3 HR.out.2.2; have f0 := (k3.frozen (p := ⟨X + 1 + 1, 0, none⟩) hz).trans (HF.out 0); have f1 := (k3.frozen (p := ⟨X + 1 + 1, 1, none⟩) hz).trans (HF.out 1); have f2 := (k3.frozen (p := ⟨X + 1 + 1, 2, none⟩) hz).trans (HF.out 2); unfold cellV; simp only))
  have K : Below w.heap.size w w3 := HKW.out.trans (k3.mono HKW.out.size)
  have hXw : w.heap.size ≤ X + 1 + 1 := by rw [HX.out]; omega
  go_wp2
  refine bodyPost_ret (v := .agg #[.bool cb, .string ct, .int .i64 cn]) (by simp [results, Try.results29, go_sem, r0, r1, r2]) rfl ⟨rfl, ?_⟩
  exact ((K.setCell (p := ⟨X + 1 + 1, 0, none⟩) hXw _).setCell (p := ⟨X + 1 + 1, 1, none⟩) hXw _).setCell (p := ⟨X + 1 + 1, 2, none⟩) hXw _

set_option maxRecDepth 100000 in
set_option maxHeartbeats 2000000 in
theorem implCell_noKind (b : Bool) (t k t' : ByteArray) (n q d n' : Int) (w : World) (ht : t.size ≤ 281474976710656) (ht' : t'.size ≤ 281474976710656) (d1 : ¬ d = 1) (d2 : ¬ d = 2) (d3 : ¬ d = 3) :
    Calls Try.prog 29 #[.agg #[.bool b, .string t, .int .i64 n], .agg #[.string k, .int .i64 q, .int .i64 d, .string t', .int .i64 n']] w fun e w' => e = .returned (cellV (cellN b t n d t' n')) ∧ Below w.heap.size w w' := by
  obtain ⟨c, hc⟩ : ∃ c, c = cellN b t n d t' n' := ⟨_, rfl⟩
  have hcs : c.2.1.size ≤ 281474976710656 := by rw [hc]; exact cellN_size ht ht'
  have hdo : ∀ w, Calls Try.prog 201 #[.agg #[], .agg #[.bool b, .string t, .int .i64 n], .agg #[.string k, .int .i64 q, .int .i64 d, .string t', .int .i64 n']] w fun e w' => e = .returned (cellV c) ∧ Below w.heap.size w w' := by
    rw [hc, cellN_0 d1 d2 d3]
    exact fun w => do_noKind b t k t' n q d n' w
  rw [← hc]
  clear hc
  go_enter Try.func29, Try.ntmps29
  go_wp2_with fail
  obtain ⟨X, hX⟩ : ∃ X, X = w.heap.size := ⟨_, rfl⟩
  obtain ⟨W, hW⟩ : ∃ W, W = ((w.alloc (.cells #[.bool b, .string t, .int .i64 n] 35)).alloc (.cells #[.string k, .int .i64 q, .int .i64 d, .string t', .int .i64 n'] 47)).alloc (.cells #[.bool false, .string ⟨#[]⟩, .int .i64 0] 35) := ⟨_, rfl⟩
  have x0 : W.cell? ⟨X, 0, none⟩ = some (.bool b) := by rw [hW, hX, alloc3_a]; simp
  have x1 : W.cell? ⟨X, 1, none⟩ = some (.string t) := by rw [hW, hX, alloc3_a]; simp
  have x2 : W.cell? ⟨X, 2, none⟩ = some (.int .i64 n) := by rw [hW, hX, alloc3_a]; simp
  have y0 : W.cell? ⟨X + 1, 0, none⟩ = some (.string k) := by rw [hW, hX, alloc3_b]; simp
  have y1 : W.cell? ⟨X + 1, 1, none⟩ = some (.int .i64 q) := by rw [hW, hX, alloc3_b]; simp
  have y2 : W.cell? ⟨X + 1, 2, none⟩ = some (.int .i64 d) := by rw [hW, hX, alloc3_b]; simp
  have y3 : W.cell? ⟨X + 1, 3, none⟩ = some (.string t') := by rw [hW, hX, alloc3_b]; simp
  have y4 : W.cell? ⟨X + 1, 4, none⟩ = some (.int .i64 n') := by rw [hW, hX, alloc3_b]; simp
  have r0 : W.cell? ⟨X + 1 + 1, 0, none⟩ = some (.bool false) := by rw [hW, hX, alloc3_c]; rfl
  have r1 : W.cell? ⟨X + 1 + 1, 1, none⟩ = some (.string ⟨#[]⟩) := by rw [hW, hX, alloc3_c]; rfl
  have r2 : W.cell? ⟨X + 1 + 1, 2, none⟩ = some (.int .i64 0) := by rw [hW, hX, alloc3_c]; rfl
  have HF : Hid (∀ o, W.frozen? ⟨X + 1 + 1, o, none⟩ = false) := by intro o; rw [hW, hX]; exact alloc3_f _ _ _ _ _ o
  have hz : X + 1 + 1 < W.heap.size := by simp [hW, hX]
  have kW : Below w.heap.size w W := by rw [hW]; exact (((Below.refl _ _).alloc (Nat.le_refl _) _).alloc (by simp) _).alloc (by simp; omega) _
  have HX : Hid (X = w.heap.size) := hX
  rw [← hW, ← hX]
  clear hW hX
  have HKW : Hid (Below w.heap.size w W) := kW
  clear kW
  have HR : Hid (W.cell? ⟨X + 1 + 1, 0, none⟩ = some (.bool false) ∧ W.cell? ⟨X + 1 + 1, 1, none⟩ = some (.string ⟨#[]⟩) ∧ W.cell? ⟨X + 1 + 1, 2, none⟩ = some (.int .i64 0)) := ⟨r0, r1, r2⟩
  clear r0 r1 r2
  have k0 : Below W.heap.size W W.drew := (Below.refl _ W).drew
  have HMK : Hid (∀ w', Below (X + 1 + 1) W w' → (w'.cell? ⟨X, 0, none⟩ = some (.bool b) ∧ w'.cell? ⟨X, 1, none⟩ = some (.string t) ∧ w'.cell? ⟨X, 2, none⟩ = some (.int .i64 n) ∧ w'.cell? ⟨X + 1, 0, none⟩ = some (.string k) ∧ w'.cell? ⟨X + 1, 1, none⟩ = some (.int .i64 q) ∧ w'.cell? ⟨X + 1, 2, none⟩ = some (.int .i64 d) ∧ w'.cell? ⟨X + 1, 3, none⟩ = some (.string t') ∧ w'.cell? ⟨X + 1, 4, none⟩ = some (.int .i64 n') ∧ X + 1 + 1 < w'.heap.size ∧ Below (X + 1 + 1) W w')) := fun w' k => ⟨(k.cell (p := ⟨X, 0, none⟩) (by show X < X + 1 + 1; omega)).trans x0, (k.cell (p := ⟨X, 1, none⟩) (by show X < X + 1 + 1; omega)).trans x1, (k.cell (p := ⟨X, 2, none⟩) (by show X < X + 1 + 1; omega)).trans x2, (k.cell (p := ⟨X + 1, 0, none⟩) (by show X + 1 < X + 1 + 1; omega)).trans y0, (k.cell (p := ⟨X + 1, 1, none⟩) (by show X + 1 < X + 1 + 1; omega)).trans y1, (k.cell (p := ⟨X + 1, 2, none⟩) (by show X + 1 < X + 1 + 1; omega)).trans y2, (k.cell (p := ⟨X + 1, 3, none⟩) (by show X + 1 < X + 1 + 1; omega)).trans y3, (k.cell (p := ⟨X + 1, 4, none⟩) (by show X + 1 < X + 1 + 1; omega)).trans y4, Nat.lt_of_lt_of_le hz k.size, k⟩
  have hm : ∀ w : World, (method 322 122 (.agg #[]) "loop.example/comptoir/impl.do").run Try.prog w = .ok (201, .agg #[]) w := fun _ => by kernel_rfl
  have hzl : X + 1 + 1 ≤ W.heap.size := Nat.le_of_lt hz
  obtain ⟨cb, ct, cn⟩ := c
  go_region_held3 (fun w' => w'.cell? ⟨X, 0, none⟩ = some (.bool b) ∧ w'.cell? ⟨X, 1, none⟩ = some (.string t) ∧ w'.cell? ⟨X, 2, none⟩ = some (.int .i64 n) ∧ w'.cell? ⟨X + 1, 0, none⟩ = some (.string k) ∧ w'.cell? ⟨X + 1, 1, none⟩ = some (.int .i64 q) ∧ w'.cell? ⟨X + 1, 2, none⟩ = some (.int .i64 d) ∧ w'.cell? ⟨X + 1, 3, none⟩ = some (.string t') ∧ w'.cell? ⟨X + 1, 4, none⟩ = some (.int .i64 n') ∧ X + 1 + 1 < w'.heap.size ∧ Below (X + 1 + 1) W w') (first | exact HMK.out _ (k3.mono hzl) | exact HMK.out _ ((((k3.mono hzl).setCell (p := ⟨X + 1 + 1, 0, none⟩) (Nat.le_refl _) _).setCell (p := ⟨X + 1 + 1, 1, none⟩) (Nat.le_refl _) _).setCell (p := ⟨X + 1 + 1, 2, none⟩) (Nat.le_refl _) _) | exact HMK.out _ (k2.mono hzl) | exact HMK.out _ (k1.mono hzl) | exact HMK.out _ (k0.mono hzl)) (first
    | (go_at_call 52; refine (kindOf_noKind k t' q d n' _ d1 d2 d3).mono ?_; rintro e w1 ⟨rfl, hb1⟩; have k1 : Below W.heap.size W w1 := k0.trans (hb1.mono k0.size))
    | (go_at_call 201; refine (hdo _).mono ?_; rintro e w2 ⟨rfl, hb2⟩; have k2 : Below W.heap.size W w2 := k1.trans (hb2.mono k1.size))
    | (go_at_call 53; refine (cloneCell_any (cb, ct, cn) _ hcs).mono ?_; rintro e w3 ⟨rfl, hb3⟩; have k3 : Below W.heap.size W w3 := k2.trans (hb3.mono k2.size); have r0 := cell_later k3 HR.out.1; have r1 := cell_later k3 HR.out.2.1; have r2 := cell_later k3 HR.out.2.2; have f0 := (k3.frozen (p := ⟨X + 1 + 1, 0, none⟩) hz).trans (HF.out 0); have f1 := (k3.frozen (p := ⟨X + 1 + 1, 1, none⟩) hz).trans (HF.out 1); have f2 := (k3.frozen (p := ⟨X + 1 + 1, 2, none⟩) hz).trans (HF.out 2); unfold cellV; simp only))
  have K : Below w.heap.size w w3 := HKW.out.trans (k3.mono HKW.out.size)
  have hXw : w.heap.size ≤ X + 1 + 1 := by rw [HX.out]; omega
  go_wp2
  refine bodyPost_ret (v := .agg #[.bool cb, .string ct, .int .i64 cn]) (by simp [results, Try.results29, go_sem, r0, r1, r2]) rfl ⟨rfl, ?_⟩
  exact ((K.setCell (p := ⟨X + 1 + 1, 0, none⟩) hXw _).setCell (p := ⟨X + 1 + 1, 1, none⟩) hXw _).setCell (p := ⟨X + 1 + 1, 2, none⟩) hXw _

theorem implCell (b : Bool) (t k t' : ByteArray) (n q d n' : Int) (w : World) (ht : t.size ≤ 281474976710656) (ht' : t'.size ≤ 281474976710656) :
    Calls Try.prog 29 #[.agg #[.bool b, .string t, .int .i64 n], .agg #[.string k, .int .i64 q, .int .i64 d, .string t', .int .i64 n']] w fun e w' => e = .returned (cellV (cellN b t n d t' n')) ∧ Below w.heap.size w w' := by
  by_cases d1 : d = 1
  · subst d1; exact implCell_putKind b t k t' n q n' w ht ht'
  by_cases d2 : d = 2
  · subst d2; exact implCell_delKind b t k t' n q n' w ht ht'
  by_cases d3 : d = 3
  · subst d3; exact implCell_addKind b t k t' n q n' w ht ht'
  exact implCell_noKind b t k t' n q d n' w ht ht' d1 d2 d3

end Go.Proofs.Ytanhmpbjbdpkgaa
