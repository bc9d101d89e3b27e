/-
  The laws' marks on a list of entries, found again, by a walk of their Go text.
  A list of entries of the call's own, or the nil list. No function of the program is walked here.
  A list of entries of the call's own, or the nil list: held against another, marked, and found again, by walks of the laws' Go text.
-/
import Derived.Test.YtfblpbihpmhgjaaDoorFm35
import Derived.Test.YtfblpbihpmhgjaaDoorFm30
namespace Go.Proofs.YtfblpbihpmhgjaaDoor
open Go.RowKit

set_option maxRecDepth 100000 in
set_option maxHeartbeats 2000000 in
theorem heldE_any (b n cap k : Nat) (w : World) (hL : EntsAt w (some ⟨b, 0, none⟩) n cap (markL k n)) (hk : 1 ≤ k) (hn : k + 5 * n ≤ 1000000000) :
    Calls Tryd.prog 71 #[.slice (some ⟨b, 0, none⟩) n cap, .int .i64 k] w fun e w' => e = .returned (.int .i64 ((k + 5 * n : Nat) : Int)) ∧ Below w.heap.size w w' := by
  have HL : Hid (EntsAt w (some ⟨b, 0, none⟩) n cap (markL k n)) := hL
  clear hL
  go_enter Tryd.func71, Tryd.ntmps71
  go_wp2
  go_loopw [1, 5] (fun kv iv wr => ∃ (j : Nat), j ≤ n ∧ iv = .int .i64 j ∧ kv = .int .i64 ((k + 5 * j : Nat) : Int) ∧ Below w.heap.size w wr) (fun _ iv _ => n - (intOf iv).toNat)
  case atStart => exact ⟨0, Nat.zero_le _, rfl, rfl, Below.refl _ _⟩
  case round =>
    obtain ⟨j, hj, rfl, rfl, hb⟩ := hrel
    obtain ⟨K, hK⟩ : ∃ K, K = k + 5 * j := ⟨_, rfl⟩
    rw [← hK]
    by_cases hlt : j < n
    · have hK1 : 1 ≤ K := by omega
      have hK2 : K + 5 ≤ 1000000000 := by omega
      have hbb := (HL.out.lies _ rfl (by omega)).1
      simp only at hbb
      have hbr : b < wr.heap.size := Nat.lt_of_lt_of_le hbb hb.size
      have hent := (HL.out.cells _ rfl j (by rw [markL_len]; exact hlt)).moved (fun o => hb.cell (p := ⟨b, o, none⟩) hbb)
      have hme : (markL k n)[j]'(by rw [markL_len]; exact hlt) = markEnt K := by
        have := (markL_at (k := k) (n := n) (j := j) (List.getElem?_eq_getElem (by rw [markL_len]; exact hlt))).2
        rw [this, hK]
      rw [hme] at hent
      simp only [Nat.zero_add] at hent
      obtain ⟨c0, c1, c2, c3, c4⟩ := hent
      unfold markEnt at c0 c1 c2 c3 c4
      simp only at c0 c1 c2 c3 c4
      have a1 : ((K + 1 : Nat) : Int) = (K : Int) + 1 := by omega
      have a2 : ((K + 2 : Nat) : Int) = (K : Int) + 1 + 1 := by omega
      have a4 : ((K + 4 : Nat) : Int) = (K : Int) + 1 + 1 + 1 + 1 := by omega
      rw [a1] at c1
      rw [a2] at c2
      rw [a4] at c4
      clear a1 a2 a4 hme
      have HK : Hid (K = k + 5 * j) := hK
      clear hK
      have CM0 : Hid (∀ w, Calls Tryd.prog 96 #[.int .i64 (K : Int)] w fun e w' => e = .returned (.string (markT K)) ∧ Below w.heap.size w w') := fun w => markText_any K w hK1 (by omega)
      have CM : Hid (∀ w, Calls Tryd.prog 96 #[.int .i64 ((K : Int) + 1 + 1 + 1)] w fun e w' => e = .returned (.string (markT (K + 3))) ∧ Below w.heap.size w w') := by
        have e3 : (K : Int) + 1 + 1 + 1 = ((K + 3 : Nat) : Int) := by omega
        rw [e3]
        exact fun w => markText_any (K + 3) w (by omega) (by omega)
      have HMK : Hid (∀ w', Below wr.heap.size wr w' → (w'.cell? ⟨b, j * 5, none⟩ = some (.string (markT K)) ∧ w'.cell? ⟨b, j * 5 + 3, none⟩ = some (.string (markT (K + 3))) ∧ b < w'.heap.size)) := fun w' kk => ⟨cell_later kk c0, cell_later kk c3, Nat.lt_of_lt_of_le hbr kk.size⟩
      have k0 : Below wr.heap.size wr wr.drew := (Below.refl _ wr).drew
      go_wp2_with fail
      refine wp_region_held_drew (S := (fun w' => w'.cell? ⟨b, j * 5, none⟩ = some (.string (markT K)) ∧ w'.cell? ⟨b, j * 5 + 3, none⟩ = some (.string (markT (K + 3))) ∧ b < w'.heap.size)) (by kernel_rfl) (HMK.out _ k0) (fun hHeld => ?_)
      refine wpAnyH_takeL (i := 0) (v := ?_) rfl (by kernel_rfl) (by kernel_rfl) (by kernel_rfl) (fun _ _ _ h => h) (Or.inl ⟨by rfl, ?_⟩) hHeld ?_
      rotate_left
      · (intro w hSw; (try dsimp only at hSw); go_simp; try with_reducible rfl)
      try go_frame
      refine wpAnyH_takeL (i := 1) (v := ?_) rfl (by kernel_rfl) (by kernel_rfl) (by kernel_rfl) (fun _ _ _ h => h) (Or.inl ⟨by rfl, ?_⟩) hHeld ?_
      rotate_left
      · (intro w hSw; (try dsimp only at hSw); go_simp; try with_reducible rfl)
      try go_frame
      refine wpAnyH_takeL (i := 2) (v := ?_) rfl (by kernel_rfl) (by kernel_rfl) (by kernel_rfl) (fun _ _ _ h => h) (Or.inl ⟨by rfl, ?_⟩) hHeld ?_
      rotate_left
      · (intro w hSw; (try dsimp only at hSw); go_simp; try with_reducible rfl)
      try go_frame
      refine wpAnyH_takeL (i := 3) (v := ?_) rfl (by kernel_rfl) (by kernel_rfl) (by kernel_rfl) (fun _ _ _ h => h) (Or.inl ⟨by rfl, ?_⟩) hHeld ?_
      rotate_left
      · (intro w hSw; (try dsimp only at hSw); go_simp; try with_reducible rfl)
      try go_frame
      refine wpAnyH_takeL (i := 4) (v := ?_) rfl (by kernel_rfl) (by kernel_rfl) (by kernel_rfl) (fun _ _ _ h => h) (Or.inl ⟨by rfl, ?_⟩) hHeld ?_
      rotate_left
      · (intro w hSw; (try dsimp only at hSw); go_simp; try with_reducible rfl)
      try go_frame
      refine wpAnyH_takeL (i := 5) (v := ?_) rfl (by kernel_rfl) (by kernel_rfl) (by kernel_rfl) (fun _ _ _ h => h) (Or.inl ⟨by rfl, ?_⟩) hHeld ?_
      rotate_left
      · (intro w hSw; (try dsimp only at hSw); go_simp; try with_reducible rfl)
      try go_frame
      refine wpAnyH_ready (rs := [6]) (by kernel_rfl) (by simp) ?_
      refine consL rfl (fun K hK => ?_) AllReadyH.nil
      go_simp
      refine (CM0.out _).mono ?_
      rintro e w1 ⟨rfl, bw1⟩
      have k1 : Below wr.heap.size wr w1 := k0.trans (bw1.mono k0.size)
      go_wp2_with fail
      refine hK.out _ _ (HMK.out _ k1) (fun hHeld => ?_)
      clear hK K
      try go_frame
      refine wpAnyH_takeL (i := 7) (v := ?_) rfl (by kernel_rfl) (by kernel_rfl) (by kernel_rfl) (fun _ _ _ h => h) (Or.inl ⟨by rfl, ?_⟩) hHeld ?_
      rotate_left
      · (intro w hSw; (try dsimp only at hSw); go_simp; try with_reducible rfl)
      try go_frame
      refine wpAnyH_done (by kernel_rfl) ?_ _
      have z1 := cell_later k1 c1
      have z2 := cell_later k1 c2
      have z4 := cell_later k1 c4
      have hbz := Nat.lt_of_lt_of_le hbr k1.size
      go_wp2_with fail
      have k2 : Below wr.heap.size wr w1.drew := k1.trans ((Below.refl _ w1).drew.mono k1.size)
      refine wp_region_held_drew (S := (fun w' => w'.cell? ⟨b, j * 5, none⟩ = some (.string (markT K)) ∧ w'.cell? ⟨b, j * 5 + 3, none⟩ = some (.string (markT (K + 3))) ∧ b < w'.heap.size)) (by kernel_rfl) (HMK.out _ k2) (fun hHeld => ?_)
      refine wpAnyH_takeL (i := 0) (v := ?_) rfl (by kernel_rfl) (by kernel_rfl) (by kernel_rfl) (fun _ _ _ h => h) (Or.inl ⟨by rfl, ?_⟩) hHeld ?_
      rotate_left
      · (intro w hSw; (try dsimp only at hSw); go_simp; try with_reducible rfl)
      try go_frame
      refine wpAnyH_takeL (i := 1) (v := ?_) rfl (by kernel_rfl) (by kernel_rfl) (by kernel_rfl) (fun _ _ _ h => h) (Or.inl ⟨by rfl, ?_⟩) hHeld ?_
      rotate_left
      · (intro w hSw; (try dsimp only at hSw); go_simp; try with_reducible rfl)
      try go_frame
      refine wpAnyH_takeL (i := 2) (v := ?_) rfl (by kernel_rfl) (by kernel_rfl) (by kernel_rfl) (fun _ _ _ h => h) (Or.inl ⟨by rfl, ?_⟩) hHeld ?_
      rotate_left
      · (intro w hSw; (try dsimp only at hSw); go_simp; try with_reducible rfl)
      try go_frame
      refine wpAnyH_takeL (i := 3) (v := ?_) rfl (by kernel_rfl) (by kernel_rfl) (by kernel_rfl) (fun _ _ _ h => h) (Or.inl ⟨by rfl, ?_⟩) hHeld ?_
      rotate_left
      · (intro w hSw; (try dsimp only at hSw); go_simp; try with_reducible rfl)
      try go_frame
      refine wpAnyH_takeL (i := 4) (v := ?_) rfl (by kernel_rfl) (by kernel_rfl) (by kernel_rfl) (fun _ _ _ h => h) (Or.inl ⟨by rfl, ?_⟩) hHeld ?_
      rotate_left
      · (intro w hSw; (try dsimp only at hSw); go_simp; try with_reducible rfl)
      try go_frame
      refine wpAnyH_takeL (i := 5) (v := ?_) rfl (by kernel_rfl) (by kernel_rfl) (by kernel_rfl) (fun _ _ _ h => h) (Or.inl ⟨by rfl, ?_⟩) hHeld ?_
      rotate_left
      · (intro w hSw; (try dsimp only at hSw); go_simp; try with_reducible rfl)
      try go_frame
      refine wpAnyH_ready (rs := [6]) (by kernel_rfl) (by simp) ?_
      refine consL rfl (fun K hK => ?_) AllReadyH.nil
      go_simp
      refine (CM.out _).mono ?_
      rintro e w3 ⟨rfl, bw3⟩
      have k3 : Below wr.heap.size wr w3 := k2.trans (bw3.mono k2.size)
      go_wp2_with fail
      refine hK.out _ _ (HMK.out _ k3) (fun hHeld => ?_)
      clear hK K
      try go_frame
      refine wpAnyH_takeL (i := 7) (v := ?_) rfl (by kernel_rfl) (by kernel_rfl) (by kernel_rfl) (fun _ _ _ h => h) (Or.inl ⟨by rfl, ?_⟩) hHeld ?_
      rotate_left
      · (intro w hSw; (try dsimp only at hSw); go_simp; try with_reducible rfl)
      try go_frame
      refine wpAnyH_done (by kernel_rfl) ?_ _
      have y4 := cell_later k3 c4
      have hby := Nat.lt_of_lt_of_le hbr k3.size
      clear z1 z2 z4
      go_wp2
      go_roundw
      case rel => exact ⟨j + 1, by omega, by go_num, by congr 1; have := HK.out; omega, hb.trans (k3.mono hb.size)⟩
      case measure => simp [intOf]; omega
    · have hjn : j = n := by omega
      subst hjn
      have HK : Hid (K = k + 5 * j) := hK
      clear hK
      go_wp2
      go_ret
      exact ⟨ret_int (by rw [HK.out]), hb⟩
end Go.Proofs.YtfblpbihpmhgjaaDoor

namespace Go.Proofs.YtfblpbihpmhgjaaDoor
open Go.RowKit

structure OwnO (w : World) (base : Nat) (a : Option Addr) (n c : Nat) (L : List EntD) : Prop where
  nil : a = none → n = 0 ∧ c = 0 ∧ L = []
  own : ∀ x, a = some x → ∃ g, x = ⟨g, 0, none⟩ ∧ OwnE w base g n c L
theorem OwnO.some {w : World} {base g n c : Nat} {L : List EntD} (h : OwnE w base g n c L) : OwnO w base (some ⟨g, 0, none⟩) n c L := ⟨(fun e => by cases e), (fun x e => by cases e; exact ⟨g, rfl, h⟩)⟩
theorem OwnO.none (w : World) (base : Nat) : OwnO w base none 0 0 [] := ⟨fun _ => ⟨rfl, rfl, rfl⟩, fun x e => by cases e⟩
theorem OwnO.len {w : World} {base : Nat} {a : Option Addr} {n c : Nat} {L : List EntD} (h : OwnO w base a n c L) : L.length = n := by
  cases a with
  | none => obtain ⟨h1, _, h3⟩ := h.nil rfl; rw [h1, h3]; rfl
  | some x => obtain ⟨g, _, h2⟩ := h.own x rfl; exact h2.len
theorem OwnO.entsAt {w : World} {base : Nat} {a : Option Addr} {n c : Nat} {L : List EntD} (h : OwnO w base a n c L) : EntsAt w a n c L := by
  cases a with
  | none =>
    obtain ⟨h1, h2, h3⟩ := h.nil rfl
    subst h1 h2 h3
    exact ⟨rfl, Nat.le_refl _, Nat.zero_le _, by simp, fun _ => rfl, (fun x e => by cases e), (fun x e => by cases e)⟩
  | some x => obtain ⟨g, rfl, h2⟩ := h.own x rfl; exact h2.entsAt
theorem OwnO.lt {w : World} {base : Nat} {a : Option Addr} {n c : Nat} {L : List EntD} (h : OwnO w base a n c L) : ∀ x, a = .some x → base ≤ x.block ∧ x.block < w.heap.size := fun x e => by
  obtain ⟨g, rfl, h2⟩ := h.own x e
  exact h2.lt
theorem OwnO.grown {w w' : World} {base : Nat} {a : Option Addr} {n c : Nat} {L : List EntD} {row : Option Nat} (h : OwnO w base a n c L) (hg : w.grownBy w' row) (hne : ∀ x, a = .some x → .some x.block ≠ row) : OwnO w' base a n c L :=
  ⟨h.nil, fun x e => by obtain ⟨g, rfl, h2⟩ := h.own x e; exact ⟨g, rfl, h2.grown hg (hne _ e)⟩⟩
theorem OwnO.mono {w : World} {base base' : Nat} {a : Option Addr} {n c : Nat} {L : List EntD} (h : OwnO w base a n c L) (hb : base' ≤ base) : OwnO w base' a n c L :=
  ⟨h.nil, fun x e => by obtain ⟨g, rfl, h2⟩ := h.own x e; exact ⟨g, rfl, h2.mono hb⟩⟩
theorem grown_of_below {w w' : World} (hb : Below w.heap.size w w') : w.grownBy w' none := ⟨hb.os, hb.tape, hb.output, hb.size, fun k hk _ => hb.block k hk⟩
theorem OwnO.below {w w' : World} {base : Nat} {a : Option Addr} {n c : Nat} {L : List EntD} (h : OwnO w base a n c L) (hb : Below w.heap.size w w') : OwnO w' base a n c L := h.grown (grown_of_below hb) (fun x _ e => by cases e)
theorem cell_five (w : World) (T : TypeId) (s t : ByteArray) (q d n : Int) : ∀ j u, (entCells (s, q, d, t, n))[j]? = some u → (w.alloc (.cells #[.string s, .int .i64 q, .int .i64 d, .string t, .int .i64 n] T)).cell? ((⟨w.heap.size, 0, none⟩ : Addr).add j) = some u := by
  intro j u hj
  rw [Go.WideShapes.add_plain]
  match j, hj with
  | 0, hj => simp [entCells] at hj; subst hj; simp
  | 1, hj => simp [entCells] at hj; subst hj; simp
  | 2, hj => simp [entCells] at hj; subst hj; simp
  | 3, hj => simp [entCells] at hj; subst hj; simp
  | 4, hj => simp [entCells] at hj; subst hj; simp
  | j + 5, hj => simp [entCells] at hj

theorem rows_ne {W : World} {b b' e e' s s' n n' : Nat} {v v' : Value} {xs xs' : List Value} (h : W.ownsRow b e s v n xs) (h' : W.ownsRow b' e' s' v' n' xs') (hne : e ≠ e') {k : Nat} (hk : v.ownBlock = some k) : v'.ownBlock ≠ some k := fun hk' => by
  rcases h.2 with ⟨rfl, _⟩ | ⟨g, cap, cur, rfl, _, hg, _⟩
  · cases hk
  · cases hk
    rcases h'.2 with ⟨rfl, _⟩ | ⟨g', cap', cur', rfl, _, hg', _⟩
    · cases hk'
    · cases hk'
      rw [hg] at hg'
      cases hg'
      exact hne rfl
end Go.Proofs.YtfblpbihpmhgjaaDoor

namespace Go.Proofs.YtfblpbihpmhgjaaDoor
open Go.RowKit

set_option maxHeartbeats 800000 in
theorem eqEntS_zero (a1 a2 : Option Addr) (c1 c2 : Nat) (w : World) :
    Calls Tryd.prog 24 #[.slice a1 0 c1, .slice a2 0 c2] w fun e w' => e = .returned (.bool true) ∧ Below w.heap.size w w' := by
  go_enter Tryd.func24, Tryd.ntmps24
  go_wp2
  go_loopw [5] (fun i wr => i = .int .i64 0 ∧ wr = w) (fun i _ => 0)
  case atStart => exact ⟨rfl, rfl⟩
  case round =>
    obtain ⟨rfl, rfl⟩ := hrel
    go_wp2
    go_ret
    exact ⟨rfl, Below.refl _ _⟩
theorem eqEntS_opt (a1 a2 : Option Addr) (len c1 c2 : Nat) (L : List EntD) (w : World) (h1 : EntsAt w a1 len c1 L) (h2 : EntsAt w a2 len c2 L) :
    Calls Tryd.prog 24 #[.slice a1 len c1, .slice a2 len c2] w fun e w' => e = .returned (.bool true) ∧ Below w.heap.size w w' := by
  by_cases h0 : len = 0
  · subst h0
    exact eqEntS_zero a1 a2 c1 c2 w
  · obtain ⟨b1, o1, rfl, _⟩ := h1.form (by omega)
    obtain ⟨b2, o2, rfl, _⟩ := h2.form (by omega)
    exact eqEntS_same b1 o1 b2 o2 len c1 c2 L w h1 h2
set_option maxHeartbeats 800000 in
theorem markE_nil (k : Nat) (w : World) :
    Calls Tryd.prog 70 #[.slice none 0 0, .int .i64 k] w fun e w' => e = .returned (.int .i64 (k : Int)) ∧ w' = w := by
  go_enter Tryd.func70, Tryd.ntmps70
  go_wp2
  go_loopw [1, 5] (fun kv i wr => kv = .int .i64 (k : Int) ∧ i = .int .i64 0 ∧ wr = w) (fun _ i _ => 0)
  case atStart => exact ⟨rfl, rfl, rfl⟩
  case round =>
    obtain ⟨rfl, rfl, rfl⟩ := hrel
    go_wp2
    go_ret
    exact ⟨rfl, rfl⟩
set_option maxHeartbeats 800000 in
theorem heldE_nil (k : Nat) (w : World) :
    Calls Tryd.prog 71 #[.slice none 0 0, .int .i64 k] w fun e w' => e = .returned (.int .i64 (k : Int)) ∧ w' = w := by
  go_enter Tryd.func71, Tryd.ntmps71
  go_wp2
  go_loopw [1, 5] (fun kv i wr => kv = .int .i64 (k : Int) ∧ i = .int .i64 0 ∧ wr = w) (fun _ i _ => 0)
  case atStart => exact ⟨rfl, rfl, rfl⟩
  case round =>
    obtain ⟨rfl, rfl, rfl⟩ := hrel
    go_wp2
    go_ret
    exact ⟨rfl, rfl⟩
theorem markO_any (base : Nat) (a : Option Addr) (n c : Nat) (L : List EntD) (w : World) (hO : OwnO w base a n c L) (hn : 1 + 5 * n ≤ 1000000000) :
    Calls Tryd.prog 70 #[.slice a n c, .int .i64 1] w fun e w' => e = .returned (.int .i64 ((1 + 5 * n : Nat) : Int)) ∧ OwnO w' base a n c (markL 1 n) ∧ w.grownBy w' (a.map Addr.block) := by
  cases a with
  | none =>
    obtain ⟨h1, h2, h3⟩ := hO.nil rfl
    subst h1 h2 h3
    refine (markE_nil 1 w).mono ?_
    rintro e w' ⟨rfl, rfl⟩
    exact ⟨rfl, OwnO.none _ _, ⟨rfl, rfl, rfl, Nat.le_refl _, fun _ _ _ => rfl⟩⟩
  | some x =>
    obtain ⟨g, rfl, h2⟩ := hO.own x rfl
    refine (markE_any base g n c 1 L w h2 (by omega) hn).mono ?_
    rintro e w' ⟨rfl, h3, h4⟩
    exact ⟨rfl, OwnO.some h3, h4⟩
theorem heldO_any (base : Nat) (a : Option Addr) (n c : Nat) (w : World) (hO : OwnO w base a n c (markL 1 n)) (hn : 1 + 5 * n ≤ 1000000000) :
    Calls Tryd.prog 71 #[.slice a n c, .int .i64 1] w fun e w' => e = .returned (.int .i64 ((1 + 5 * n : Nat) : Int)) ∧ Below w.heap.size w w' := by
  cases a with
  | none =>
    obtain ⟨h1, h2, h3⟩ := hO.nil rfl
    subst h1 h2
    refine (heldE_nil 1 w).mono ?_
    rintro e w' ⟨rfl, rfl⟩
    exact ⟨rfl, Below.refl _ _⟩
  | some x =>
    obtain ⟨g, rfl, h2⟩ := hO.own x rfl
    exact heldE_any g n c 1 w h2.entsAt (by omega) hn

end Go.Proofs.YtfblpbihpmhgjaaDoor
