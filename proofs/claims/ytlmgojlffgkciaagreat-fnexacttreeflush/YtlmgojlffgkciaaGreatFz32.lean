/-
  The document's l3Sum and l4Join: one entry for a class of entries; by walks of their Go text.
  The program's entryOfClass: the one entry for a class of entries; by a walk of its Go text.
  What is left of a class of entries, by walks of the document's l4Class and the program's squashClass.
-/
import Derived.Deep.DeepCutAuto
import Derived.Deep.AppendLies
import Derived.Test.YtlmgojlffgkciaaGreatFz00
import Derived.Test.YtlmgojlffgkciaaGreatFz03
import Derived.Test.YtlmgojlffgkciaaGreatFz02
import Derived.Test.YtlmgojlffgkciaaGreatFz01
namespace Go.Proofs.YtlmgojlffgkciaaGreat
open Go.RowKit
set_option maxRecDepth 100000
set_option maxHeartbeats 2000000
attribute [local go_sem] Oper.semAt_some
def joinG : Bool → Int → List EntD → Int × ByteArray × Int
  | _, acc, [] => (3, ⟨#[]⟩, acc)
  | first, acc, e :: R => if e.2.2.1 = 1 then (1, e.2.2.2.1, acc + e.2.2.2.2) else if e.2.2.1 = 2 then ((if first then 2 else 1), ⟨#[]⟩, acc + e.2.2.2.2) else joinG false (acc + e.2.2.2.2) R
def sumOkB (n : Int) : Bool := decide (-1000000 ≤ n) && decide (n ≤ 1000000)
theorem specSum3 (n : Int) (w : World) : Calls Tryz.prog 166 #[.int .i64 n] w fun e w' => e = .returned (.bool (sumOkB n)) ∧ w' = w := by
  by_cases h1 : -1000000 ≤ n
  · by_cases h2 : n ≤ 1000000
    · have e1 : sumOkB n = true := by simp [sumOkB, h1, h2]
      rw [e1]
      go_enter Tryz.func166, Tryz.ntmps166
      go_wp2
      go_ret
      exact ⟨rfl, rfl⟩
    · have e1 : sumOkB n = false := by simp [sumOkB, h2]
      rw [e1]
      go_enter Tryz.func166, Tryz.ntmps166
      go_wp2
      go_ret
      exact ⟨rfl, rfl⟩
  · have e1 : sumOkB n = false := by simp [sumOkB, h1]
    rw [e1]
    go_enter Tryz.func166, Tryz.ntmps166
    go_wp2
    go_ret
    exact ⟨rfl, rfl⟩
theorem specJoin (b off n c : Nat) (L : List EntD) (s0 : ByteArray) (q0 : Int) (w : World) (hL : EntsAt w (some ⟨b, off, none⟩) n c L) (hn : 1 ≤ n) (hn2 : n ≤ 1048576) (h0 : ∃ r, L[0]? = some (s0, q0, r)) (hN : ∀ e ∈ L, -1000000 ≤ e.2.2.2.2 ∧ e.2.2.2.2 ≤ 1000000) :
    Calls Tryz.prog 200 #[.slice (some ⟨b, off, none⟩) n c] w fun e w' => e = .returned (.tuple #[.agg #[.string s0, .int .i64 q0, .int .i64 (joinG true 0 L).1, .string (joinG true 0 L).2.1, .int .i64 (joinG true 0 L).2.2], .bool (sumOkB (joinG true 0 L).2.2)]) ∧ Below w.heap.size w w' := by
  have hr := hL.room
  have hbg := hL.big
  unfold maxLen at hbg
  have HL : Hid (EntsAt w (some ⟨b, off, none⟩) n c L) := hL
  have HN : Hid (∀ e ∈ L, -1000000 ≤ e.2.2.2.2 ∧ e.2.2.2.2 ≤ 1000000) := hN
  have hbb := (hL.lies _ rfl (by omega)).1
  simp only at hbb
  obtain ⟨s, q, d, t, nn, hg, _, e0, e1, _⟩ := hL.ent (Below.refl _ w) hbb 0 (by omega)
  obtain ⟨r, hr0⟩ := h0
  rw [hr0] at hg
  cases hg
  simp only [Nat.zero_mul, Nat.add_zero] at e0 e1
  clear hL hN hr0
  have hnI : (0 : Int) < (n : Int) := by omega
  have hnN : 0 < n := hn
  obtain ⟨R, hR⟩ : ∃ R, R = w.heap.size := ⟨_, rfl⟩
  obtain ⟨W, hW⟩ : ∃ W, W = w.alloc (.cells #[.string ⟨#[]⟩, .int .i64 0, .int .i64 0, .string ⟨#[]⟩, .int .i64 0] 78) := ⟨_, rfl⟩
  have kW : Below w.heap.size w W := by rw [hW]; exact (Below.refl _ _).alloc (Nat.le_refl _) _
  have hRb : Box5 W R (.string ⟨#[]⟩) (.int .i64 0) (.int .i64 0) (.string ⟨#[]⟩) (.int .i64 0) := by rw [hW, hR]; exact Box5.new _ _ _ _ _ _ _
  have HKW : Hid (Below w.heap.size w W) := kW
  have HRB : Hid (Box5 W R (.string ⟨#[]⟩) (.int .i64 0) (.int .i64 0) (.string ⟨#[]⟩) (.int .i64 0)) := hRb
  have HRW : Hid (w.heap.size ≤ R) := by show w.heap.size ≤ R; omega
  have e0 := cell_later kW e0
  have e1 := cell_later kW e1
  have hbW : b < W.heap.size := Nat.lt_of_lt_of_le hbb kW.size
  have k0 : Below W.heap.size W W.drew := (Below.refl _ W).drew
  have HMK : Hid (∀ w', Below W.heap.size W w' → (w'.cell? ⟨b, off, none⟩ = some (.string s0) ∧ w'.cell? ⟨b, off + 1, none⟩ = some (.int .i64 q0) ∧ b < w'.heap.size)) := fun w' kk => ⟨cell_later kk e0, cell_later kk e1, Nat.lt_of_lt_of_le hbW kk.size⟩
  go_enter Tryz.func200, Tryz.ntmps200
  go_upto_region 1 with fail
  rw [← hW, ← hR]
  clear hW hR kW hRb
  go_cut [4] (fun s4 wx => ∃ (X : Nat), s4 = .pointer (some ⟨X, 0, none⟩) ∧ Box5 wx X (.string s0) (.int .i64 q0) (.int .i64 3) (.string ⟨#[]⟩) (.int .i64 0) ∧ W.heap.size ≤ X ∧ Below W.heap.size W wx)
  case first =>
    refine wp_region_held_drew (S := (fun w' => w'.cell? ⟨b, off, none⟩ = some (.string s0) ∧ w'.cell? ⟨b, off + 1, none⟩ = some (.int .i64 q0) ∧ b < w'.heap.size)) (by kernel_rfl) (HMK.out _ k0) (fun hHeld => ?_)
    generalize W.drew = wd at k0 hHeld ⊢
    refine tkL 0 hHeld ?_; try go_frame
    refine tkL 1 hHeld ?_; try go_frame
    refine tkL 2 hHeld ?_; try go_frame
    refine tkL 3 hHeld ?_; try go_frame
    refine tkL 4 hHeld ?_; try go_frame
    refine tkL 5 hHeld ?_; try go_frame
    refine tkL 6 hHeld ?_; try go_frame
    refine tkL 7 hHeld ?_; try go_frame
    refine tkL 8 hHeld ?_; try go_frame
    refine wpAnyH_ready (rs := [9]) (by kernel_rfl) (by simp) ?_
    refine consL rfl (fun K hK => ?_) AllReadyH.nil
    go_simp
    have hbx := Box5.new wd 78 (.string ⟨#[]⟩) (.int .i64 0) (.int .i64 0) (.string ⟨#[]⟩) (.int .i64 0)
    have ka := k0.alloc k0.size (.cells #[.string ⟨#[]⟩, .int .i64 0, .int .i64 0, .string ⟨#[]⟩, .int .i64 0] 78)
    have hXw := k0.size
    generalize wd.alloc (.cells #[.string ⟨#[]⟩, .int .i64 0, .int .i64 0, .string ⟨#[]⟩, .int .i64 0] 78) = wA at hbx ka ⊢
    generalize wd.heap.size = X at hbx hXw ⊢
    refine hK.out _ _ (HMK.out _ ka) (fun hHeld => ?_)
    clear hK K
    try go_frame
    refine wpAnyH_ready (rs := [10]) (by kernel_rfl) (by simp) ?_
    refine consL rfl (fun K hK => ?_) AllReadyH.nil
    have y0 := hbx.c0
    have y1 := hbx.c1
    have y2 := hbx.c2
    have y3 := hbx.c3
    have y4 := hbx.c4
    have z0 := hbx.fr 0
    have z1 := hbx.fr 1
    have z2 := hbx.fr 2
    have z3 := hbx.fr 3
    have z4 := hbx.fr 4
    have zx := hbx.lt
    go_simp
    have kz := (((((ka).setCell (p := ⟨X, 0, none⟩) hXw (.string s0)).setCell (p := ⟨X, 1, none⟩) hXw (.int .i64 q0)).setCell (p := ⟨X, 2, none⟩) hXw (.int .i64 3)).setCell (p := ⟨X, 3, none⟩) hXw (.string ⟨#[]⟩)).setCell (p := ⟨X, 4, none⟩) hXw (.int .i64 0)
    have hby := hbx.setAll (.string s0) (.int .i64 q0) (.int .i64 3) (.string ⟨#[]⟩) (.int .i64 0)
    clear y0 y1 y2 y3 y4 z0 z1 z2 z3 z4 zx
    refine hK.out _ _ (HMK.out _ kz) (fun hHeld => ?_)
    clear hK K
    try go_frame
    refine wpAnyH_done (by kernel_rfl) ?_ _
    go_wp2
    go_meet
    exact ⟨X, rfl, hby, hXw, kz⟩
  case rest =>
    obtain ⟨X, rfl, hX, hXW, hbx⟩ := hcut
    clear k0 HMK e0 e1
    have HK0 : Hid (Below w.heap.size w wc) := HKW.out.trans (hbx.mono HKW.out.size)
    have HR0 : Hid (Box5 wc R (.string ⟨#[]⟩) (.int .i64 0) (.int .i64 0) (.string ⟨#[]⟩) (.int .i64 0)) := HRB.out.below hbx
    have HXR : Hid (X ≠ R) := by have := HRB.out.lt; show X ≠ R; omega
    have HX0 : Hid (Box5 wc X (.string s0) (.int .i64 q0) (.int .i64 3) (.string ⟨#[]⟩) (.int .i64 0)) := hX
    have HXW : Hid (w.heap.size ≤ X) := by have := HKW.out.size; show w.heap.size ≤ X; omega
    clear hX hbx hXW
    go_wp2
    go_loopw [5] (fun iv wr => ∃ (k : Nat) (acc : Int), k ≤ n ∧ iv = .int .i64 k ∧ Box5 wr X (.string s0) (.int .i64 q0) (.int .i64 3) (.string ⟨#[]⟩) (.int .i64 acc) ∧ Box5 wr R (.string ⟨#[]⟩) (.int .i64 0) (.int .i64 0) (.string ⟨#[]⟩) (.int .i64 0) ∧ Below w.heap.size w wr ∧ joinG (decide (k = 0)) acc (L.drop k) = joinG true 0 L ∧ -(1000000 * (k : Int)) ≤ acc ∧ acc ≤ 1000000 * (k : Int)) (fun iv _ => n - (intOf iv).toNat)
    case atStart => exact ⟨0, 0, Nat.zero_le _, rfl, HX0.out, HR0.out, HK0.out, rfl, by omega, by omega⟩
    case round =>
      obtain ⟨k, acc, hk, rfl, hX, hRr, hb, hj, ha1, ha2⟩ := hrel
      have HX : Hid (Box5 wr X (.string s0) (.int .i64 q0) (.int .i64 3) (.string ⟨#[]⟩) (.int .i64 acc)) := hX
      have HRr : Hid (Box5 wr R (.string ⟨#[]⟩) (.int .i64 0) (.int .i64 0) (.string ⟨#[]⟩) (.int .i64 0)) := hRr
      have HB : Hid (Below w.heap.size w wr) := hb
      have HJ : Hid (joinG (decide (k = 0)) acc (L.drop k) = joinG true 0 L) := hj
      obtain ⟨x0, x1, x2, x3, x4, xf⟩ := hX
      obtain ⟨r0, r1, r2, r3, r4, rf⟩ := hRr
      have xf2 := xf 2
      have xf3 := xf 3
      have xf4 := xf 4
      have rf0 := rf 0
      have rf1 := rf 1
      have rf2 := rf 2
      have rf3 := rf 3
      have rf4 := rf 4
      have lX := World.block_lt_of_cell? _ _ x0
      have lR := World.block_lt_of_cell? _ _ r0
      simp only at lX lR
      have nXR := HXR.out
      have nRX : R ≠ X := fun e => nXR e.symm
      clear xf rf hj
      by_cases hlt : k < n
      · have hltI : (k : Int) < (n : Int) := by omega
        obtain ⟨s, q, d, t, nn, hg, hw, e0, e1, e2, e3, e4⟩ := HL.out.ent hb hbb k hlt
        have hbr : b < wr.heap.size := Nat.lt_of_lt_of_le hbb hb.size
        obtain ⟨m1, m2⟩ := HN.out _ (List.mem_of_getElem? hg)
        simp only at m1 m2
        have hdr : L.drop k = (s, q, d, t, nn) :: L.drop (k + 1) := by
          have hkl := (List.getElem?_eq_some_iff.1 hg).1
          rw [List.drop_eq_getElem_cons hkl, (List.getElem?_eq_some_iff.1 hg).2]
        have HDR : Hid (L.drop k = (s, q, d, t, nn) :: L.drop (k + 1)) := hdr
        have nbX : wr.heap.size ≠ X := by omega
        have nXb : X ≠ wr.heap.size := by omega
        have nRb : R ≠ wr.heap.size := by omega
        clear hg hw hdr hb
        have hsum1 : -9223372036854775808 ≤ acc + nn := by omega
        have hsum2 : acc + nn ≤ 9223372036854775807 := by omega
        by_cases hd1 : d = 1
        · subst hd1
          have HE : Hid (joinG true 0 L = (1, t, acc + nn)) := by show joinG true 0 L = _; rw [← HJ.out, HDR.out]; simp [joinG]
          have HXf : Hid (Box5 ((((wr.setCell ⟨X, 4, none⟩ (.int .i64 (acc + nn))).setCell ⟨X, 2, none⟩ (.int .i64 1)).setCell ⟨X, 3, none⟩ (.string t)).alloc (.cells #[.string s, .int .i64 q, .int .i64 1, .string t, .int .i64 nn] 78)) X (.string s0) (.int .i64 q0) (.int .i64 1) (.string t) (.int .i64 (acc + nn))) := (((HX.out.set4 _).set2 _).set3 _).alloc _
          have HRf : Hid (Box5 ((((wr.setCell ⟨X, 4, none⟩ (.int .i64 (acc + nn))).setCell ⟨X, 2, none⟩ (.int .i64 1)).setCell ⟨X, 3, none⟩ (.string t)).alloc (.cells #[.string s, .int .i64 q, .int .i64 1, .string t, .int .i64 nn] 78)) R (.string ⟨#[]⟩) (.int .i64 0) (.int .i64 0) (.string ⟨#[]⟩) (.int .i64 0)) := (((HRr.out.other nRX _ _).other nRX _ _).other nRX _ _).alloc _
          have HBf : Hid (Below w.heap.size w ((((wr.setCell ⟨X, 4, none⟩ (.int .i64 (acc + nn))).setCell ⟨X, 2, none⟩ (.int .i64 1)).setCell ⟨X, 3, none⟩ (.string t)).alloc (.cells #[.string s, .int .i64 q, .int .i64 1, .string t, .int .i64 nn] 78))) := (((HB.out.setCell (p := ⟨X, 4, none⟩) HXW.out _).setCell (p := ⟨X, 2, none⟩) HXW.out _).setCell (p := ⟨X, 3, none⟩) HXW.out _).alloc (by have := HB.out.size; simpa [World.setCell] using this) _
          go_upto_region 14 with fail
          generalize (((wr.setCell ⟨X, 4, none⟩ (.int .i64 (acc + nn))).setCell ⟨X, 2, none⟩ (.int .i64 1)).setCell ⟨X, 3, none⟩ (.string t)).alloc (.cells #[.string s, .int .i64 q, .int .i64 1, .string t, .int .i64 nn] 78) = Wf at HXf HRf HBf ⊢
          clear x0 x1 x2 x3 x4 r0 r1 r2 r3 r4 xf2 xf3 xf4 rf0 rf1 rf2 rf3 rf4 lX lR
          have k0 : Below Wf.heap.size Wf Wf.drew := (Below.refl _ Wf).drew
          have HMK : Hid (∀ w', Below Wf.heap.size Wf w' → (w'.cell? ⟨X, 0, none⟩ = some (.string s0) ∧ w'.cell? ⟨X, 1, none⟩ = some (.int .i64 q0) ∧ w'.cell? ⟨X, 2, none⟩ = some (.int .i64 1) ∧ w'.cell? ⟨X, 3, none⟩ = some (.string t) ∧ w'.cell? ⟨X, 4, none⟩ = some (.int .i64 (acc + nn)) ∧ X < w'.heap.size)) := fun w' kk => by have h := HXf.out.below kk; exact ⟨h.c0, h.c1, h.c2, h.c3, h.c4, h.lt⟩
          have HMS : Hid (∀ w', Below Wf.heap.size Wf w' → ((fun w' => w'.cell? ⟨X, 0, none⟩ = some (.string s0) ∧ w'.cell? ⟨X, 1, none⟩ = some (.int .i64 q0) ∧ w'.cell? ⟨X, 2, none⟩ = some (.int .i64 1) ∧ w'.cell? ⟨X, 3, none⟩ = some (.string t) ∧ w'.cell? ⟨X, 4, none⟩ = some (.int .i64 (acc + nn)) ∧ X < w'.heap.size) (((((w'.setCell ⟨R, 0, none⟩ (.string s0)).setCell ⟨R, 1, none⟩ (.int .i64 q0)).setCell ⟨R, 2, none⟩ (.int .i64 1)).setCell ⟨R, 3, none⟩ (.string t)).setCell ⟨R, 4, none⟩ (.int .i64 (acc + nn))))) := fun w' kk => by have h := (((((HXf.out.below kk).other HXR.out 0 (.string s0)).other HXR.out 1 (.int .i64 q0)).other HXR.out 2 (.int .i64 1)).other HXR.out 3 (.string t)).other HXR.out 4 (.int .i64 (acc + nn)); exact ⟨h.c0, h.c1, h.c2, h.c3, h.c4, h.lt⟩
          refine wp_region_held_drew (S := (fun w' => w'.cell? ⟨X, 0, none⟩ = some (.string s0) ∧ w'.cell? ⟨X, 1, none⟩ = some (.int .i64 q0) ∧ w'.cell? ⟨X, 2, none⟩ = some (.int .i64 1) ∧ w'.cell? ⟨X, 3, none⟩ = some (.string t) ∧ w'.cell? ⟨X, 4, none⟩ = some (.int .i64 (acc + nn)) ∧ X < w'.heap.size)) (by kernel_rfl) (HMK.out _ k0) (fun hHeld => ?_)
          generalize Wf.drew = wd at k0 hHeld ⊢
          refine tkL 0 hHeld ?_; try go_frame
          refine tkL 1 hHeld ?_; try go_frame
          refine tkL 2 hHeld ?_; try go_frame
          refine wpAnyH_ready (rs := [3]) (by kernel_rfl) (by simp) ?_
          refine consL rfl (fun K hK => ?_) AllReadyH.nil
          go_simp
          refine (specSum3 _ _).mono ?_
          rintro e w9 ⟨rfl, h9⟩
          have k1 : Below Wf.heap.size Wf w9 := by rw [h9]; exact k0
          clear h9
          go_wp2_with fail
          refine hK.out _ _ (HMK.out _ k1) (fun hHeld => ?_)
          clear hK K
          try go_frame
          refine wpAnyH_ready (rs := [4]) (by kernel_rfl) (by simp) ?_
          refine consL rfl (fun K hK => ?_) AllReadyH.nil
          have hRk := HRf.out.below k1
          have y0 := hRk.c0
          have y1 := hRk.c1
          have y2 := hRk.c2
          have y3 := hRk.c3
          have y4 := hRk.c4
          have z0 := hRk.fr 0
          have z1 := hRk.fr 1
          have z2 := hRk.fr 2
          have z3 := hRk.fr 3
          have z4 := hRk.fr 4
          have zx := hRk.lt
          go_simp
          clear y0 y1 y2 y3 y4 z0 z1 z2 z3 z4 zx
          refine hK.out _ _ (HMS.out _ k1) (fun hHeld => ?_)
          clear hK K
          try go_frame
          refine tkL 5 hHeld ?_; try go_frame
          refine wpAnyH_done (by kernel_rfl) ?_ _
          have hRz := hRk.setAll (.string s0) (.int .i64 q0) (.int .i64 1) (.string t) (.int .i64 (acc + nn))
          have g0 := hRz.c0
          have g1 := hRz.c1
          have g2 := hRz.c2
          have g3 := hRz.c3
          have g4 := hRz.c4
          have gx := hRz.lt
          have kz := (((((HBf.out.trans (k1.mono HBf.out.size)).setCell (p := ⟨R, 0, none⟩) HRW.out (.string s0)).setCell (p := ⟨R, 1, none⟩) HRW.out (.int .i64 q0)).setCell (p := ⟨R, 2, none⟩) HRW.out (.int .i64 1)).setCell (p := ⟨R, 3, none⟩) HRW.out (.string t)).setCell (p := ⟨R, 4, none⟩) HRW.out (.int .i64 (acc + nn))
          obtain ⟨Wz, hWz⟩ : ∃ Wz, Wz = ((((w9.setCell ⟨R, 0, none⟩ (.string s0)).setCell ⟨R, 1, none⟩ (.int .i64 q0)).setCell ⟨R, 2, none⟩ (.int .i64 1)).setCell ⟨R, 3, none⟩ (.string t)).setCell ⟨R, 4, none⟩ (.int .i64 (acc + nn)) := ⟨_, rfl⟩
          rw [← hWz] at g0 g1 g2 g3 g4 gx kz ⊢
          clear hWz hRz hRk hHeld
          go_wp2
          refine bodyPost_ret (v := .tuple #[.agg #[.string s0, .int .i64 q0, .int .i64 1, .string t, .int .i64 (acc + nn)], .bool (sumOkB (acc + nn))]) (by simp [results, Tryz.results200, go_sem, g0, g1, g2, g3, g4]) rfl ⟨by rw [HE.out], kz⟩
        · by_cases hd2 : d = 2
          · subst hd2
            by_cases hk0 : k = 0
            · subst hk0
              simp only [Nat.zero_mul, Nat.add_zero] at e0 e1 e2 e3 e4
              have HE : Hid (joinG true 0 L = (2, ⟨#[]⟩, acc + nn)) := by show joinG true 0 L = _; rw [← HJ.out, HDR.out]; simp [joinG]
              have HXf : Hid (Box5 ((((wr.setCell ⟨X, 4, none⟩ (.int .i64 (acc + nn))).setCell ⟨X, 2, none⟩ (.int .i64 1)).setCell ⟨X, 2, none⟩ (.int .i64 2)).alloc (.cells #[.string s, .int .i64 q, .int .i64 2, .string t, .int .i64 nn] 78)) X (.string s0) (.int .i64 q0) (.int .i64 2) (.string ⟨#[]⟩) (.int .i64 (acc + nn))) := (((HX.out.set4 _).set2 _).set2 _).alloc _
              have HRf : Hid (Box5 ((((wr.setCell ⟨X, 4, none⟩ (.int .i64 (acc + nn))).setCell ⟨X, 2, none⟩ (.int .i64 1)).setCell ⟨X, 2, none⟩ (.int .i64 2)).alloc (.cells #[.string s, .int .i64 q, .int .i64 2, .string t, .int .i64 nn] 78)) R (.string ⟨#[]⟩) (.int .i64 0) (.int .i64 0) (.string ⟨#[]⟩) (.int .i64 0)) := (((HRr.out.other nRX _ _).other nRX _ _).other nRX _ _).alloc _
              have HBf : Hid (Below w.heap.size w ((((wr.setCell ⟨X, 4, none⟩ (.int .i64 (acc + nn))).setCell ⟨X, 2, none⟩ (.int .i64 1)).setCell ⟨X, 2, none⟩ (.int .i64 2)).alloc (.cells #[.string s, .int .i64 q, .int .i64 2, .string t, .int .i64 nn] 78))) := (((HB.out.setCell (p := ⟨X, 4, none⟩) HXW.out _).setCell (p := ⟨X, 2, none⟩) HXW.out _).setCell (p := ⟨X, 2, none⟩) HXW.out _).alloc (by have := HB.out.size; simpa [World.setCell] using this) _
              go_upto_region 14 with fail
              generalize (((wr.setCell ⟨X, 4, none⟩ (.int .i64 (acc + nn))).setCell ⟨X, 2, none⟩ (.int .i64 1)).setCell ⟨X, 2, none⟩ (.int .i64 2)).alloc (.cells #[.string s, .int .i64 q, .int .i64 2, .string t, .int .i64 nn] 78) = Wf at HXf HRf HBf ⊢
              clear x0 x1 x2 x3 x4 r0 r1 r2 r3 r4 xf2 xf3 xf4 rf0 rf1 rf2 rf3 rf4 lX lR
              have k0 : Below Wf.heap.size Wf Wf.drew := (Below.refl _ Wf).drew
              have HMK : Hid (∀ w', Below Wf.heap.size Wf w' → (w'.cell? ⟨X, 0, none⟩ = some (.string s0) ∧ w'.cell? ⟨X, 1, none⟩ = some (.int .i64 q0) ∧ w'.cell? ⟨X, 2, none⟩ = some (.int .i64 2) ∧ w'.cell? ⟨X, 3, none⟩ = some (.string ⟨#[]⟩) ∧ w'.cell? ⟨X, 4, none⟩ = some (.int .i64 (acc + nn)) ∧ X < w'.heap.size)) := fun w' kk => by have h := HXf.out.below kk; exact ⟨h.c0, h.c1, h.c2, h.c3, h.c4, h.lt⟩
              have HMS : Hid (∀ w', Below Wf.heap.size Wf w' → ((fun w' => w'.cell? ⟨X, 0, none⟩ = some (.string s0) ∧ w'.cell? ⟨X, 1, none⟩ = some (.int .i64 q0) ∧ w'.cell? ⟨X, 2, none⟩ = some (.int .i64 2) ∧ w'.cell? ⟨X, 3, none⟩ = some (.string ⟨#[]⟩) ∧ w'.cell? ⟨X, 4, none⟩ = some (.int .i64 (acc + nn)) ∧ X < w'.heap.size) (((((w'.setCell ⟨R, 0, none⟩ (.string s0)).setCell ⟨R, 1, none⟩ (.int .i64 q0)).setCell ⟨R, 2, none⟩ (.int .i64 2)).setCell ⟨R, 3, none⟩ (.string ⟨#[]⟩)).setCell ⟨R, 4, none⟩ (.int .i64 (acc + nn))))) := fun w' kk => by have h := (((((HXf.out.below kk).other HXR.out 0 (.string s0)).other HXR.out 1 (.int .i64 q0)).other HXR.out 2 (.int .i64 2)).other HXR.out 3 (.string ⟨#[]⟩)).other HXR.out 4 (.int .i64 (acc + nn)); exact ⟨h.c0, h.c1, h.c2, h.c3, h.c4, h.lt⟩
              refine wp_region_held_drew (S := (fun w' => w'.cell? ⟨X, 0, none⟩ = some (.string s0) ∧ w'.cell? ⟨X, 1, none⟩ = some (.int .i64 q0) ∧ w'.cell? ⟨X, 2, none⟩ = some (.int .i64 2) ∧ w'.cell? ⟨X, 3, none⟩ = some (.string ⟨#[]⟩) ∧ w'.cell? ⟨X, 4, none⟩ = some (.int .i64 (acc + nn)) ∧ X < w'.heap.size)) (by kernel_rfl) (HMK.out _ k0) (fun hHeld => ?_)
              generalize Wf.drew = wd at k0 hHeld ⊢
              refine tkL 0 hHeld ?_; try go_frame
              refine tkL 1 hHeld ?_; try go_frame
              refine tkL 2 hHeld ?_; try go_frame
              refine wpAnyH_ready (rs := [3]) (by kernel_rfl) (by simp) ?_
              refine consL rfl (fun K hK => ?_) AllReadyH.nil
              go_simp
              refine (specSum3 _ _).mono ?_
              rintro e w9 ⟨rfl, h9⟩
              have k1 : Below Wf.heap.size Wf w9 := by rw [h9]; exact k0
              clear h9
              go_wp2_with fail
              refine hK.out _ _ (HMK.out _ k1) (fun hHeld => ?_)
              clear hK K
              try go_frame
              refine wpAnyH_ready (rs := [4]) (by kernel_rfl) (by simp) ?_
              refine consL rfl (fun K hK => ?_) AllReadyH.nil
              have hRk := HRf.out.below k1
              have y0 := hRk.c0
              have y1 := hRk.c1
              have y2 := hRk.c2
              have y3 := hRk.c3
              have y4 := hRk.c4
              have z0 := hRk.fr 0
              have z1 := hRk.fr 1
              have z2 := hRk.fr 2
              have z3 := hRk.fr 3
              have z4 := hRk.fr 4
              have zx := hRk.lt
              go_simp
              clear y0 y1 y2 y3 y4 z0 z1 z2 z3 z4 zx
              refine hK.out _ _ (HMS.out _ k1) (fun hHeld => ?_)
              clear hK K
              try go_frame
              refine tkL 5 hHeld ?_; try go_frame
              refine wpAnyH_done (by kernel_rfl) ?_ _
              have hRz := hRk.setAll (.string s0) (.int .i64 q0) (.int .i64 2) (.string ⟨#[]⟩) (.int .i64 (acc + nn))
              have g0 := hRz.c0
              have g1 := hRz.c1
              have g2 := hRz.c2
              have g3 := hRz.c3
              have g4 := hRz.c4
              have gx := hRz.lt
              have kz := (((((HBf.out.trans (k1.mono HBf.out.size)).setCell (p := ⟨R, 0, none⟩) HRW.out (.string s0)).setCell (p := ⟨R, 1, none⟩) HRW.out (.int .i64 q0)).setCell (p := ⟨R, 2, none⟩) HRW.out (.int .i64 2)).setCell (p := ⟨R, 3, none⟩) HRW.out (.string ⟨#[]⟩)).setCell (p := ⟨R, 4, none⟩) HRW.out (.int .i64 (acc + nn))
              obtain ⟨Wz, hWz⟩ : ∃ Wz, Wz = ((((w9.setCell ⟨R, 0, none⟩ (.string s0)).setCell ⟨R, 1, none⟩ (.int .i64 q0)).setCell ⟨R, 2, none⟩ (.int .i64 2)).setCell ⟨R, 3, none⟩ (.string ⟨#[]⟩)).setCell ⟨R, 4, none⟩ (.int .i64 (acc + nn)) := ⟨_, rfl⟩
              rw [← hWz] at g0 g1 g2 g3 g4 gx kz ⊢
              clear hWz hRz hRk hHeld
              go_wp2
              refine bodyPost_ret (v := .tuple #[.agg #[.string s0, .int .i64 q0, .int .i64 2, .string ⟨#[]⟩, .int .i64 (acc + nn)], .bool (sumOkB (acc + nn))]) (by simp [results, Tryz.results200, go_sem, g0, g1, g2, g3, g4]) rfl ⟨by rw [HE.out], kz⟩
            · have hk0I : ¬ (k : Int) = 0 := by omega
              have HE : Hid (joinG true 0 L = (1, ⟨#[]⟩, acc + nn)) := by show joinG true 0 L = _; rw [← HJ.out, HDR.out]; simp [joinG, hk0]
              have HXf : Hid (Box5 (((wr.setCell ⟨X, 4, none⟩ (.int .i64 (acc + nn))).setCell ⟨X, 2, none⟩ (.int .i64 1)).alloc (.cells #[.string s, .int .i64 q, .int .i64 2, .string t, .int .i64 nn] 78)) X (.string s0) (.int .i64 q0) (.int .i64 1) (.string ⟨#[]⟩) (.int .i64 (acc + nn))) := ((HX.out.set4 _).set2 _).alloc _
              have HRf : Hid (Box5 (((wr.setCell ⟨X, 4, none⟩ (.int .i64 (acc + nn))).setCell ⟨X, 2, none⟩ (.int .i64 1)).alloc (.cells #[.string s, .int .i64 q, .int .i64 2, .string t, .int .i64 nn] 78)) R (.string ⟨#[]⟩) (.int .i64 0) (.int .i64 0) (.string ⟨#[]⟩) (.int .i64 0)) := ((HRr.out.other nRX _ _).other nRX _ _).alloc _
              have HBf : Hid (Below w.heap.size w (((wr.setCell ⟨X, 4, none⟩ (.int .i64 (acc + nn))).setCell ⟨X, 2, none⟩ (.int .i64 1)).alloc (.cells #[.string s, .int .i64 q, .int .i64 2, .string t, .int .i64 nn] 78))) := ((HB.out.setCell (p := ⟨X, 4, none⟩) HXW.out _).setCell (p := ⟨X, 2, none⟩) HXW.out _).alloc (by have := HB.out.size; simpa [World.setCell] using this) _
              go_upto_region 14 with fail
              generalize ((wr.setCell ⟨X, 4, none⟩ (.int .i64 (acc + nn))).setCell ⟨X, 2, none⟩ (.int .i64 1)).alloc (.cells #[.string s, .int .i64 q, .int .i64 2, .string t, .int .i64 nn] 78) = Wf at HXf HRf HBf ⊢
              clear x0 x1 x2 x3 x4 r0 r1 r2 r3 r4 xf2 xf3 xf4 rf0 rf1 rf2 rf3 rf4 lX lR
              have k0 : Below Wf.heap.size Wf Wf.drew := (Below.refl _ Wf).drew
              have HMK : Hid (∀ w', Below Wf.heap.size Wf w' → (w'.cell? ⟨X, 0, none⟩ = some (.string s0) ∧ w'.cell? ⟨X, 1, none⟩ = some (.int .i64 q0) ∧ w'.cell? ⟨X, 2, none⟩ = some (.int .i64 1) ∧ w'.cell? ⟨X, 3, none⟩ = some (.string ⟨#[]⟩) ∧ w'.cell? ⟨X, 4, none⟩ = some (.int .i64 (acc + nn)) ∧ X < w'.heap.size)) := fun w' kk => by have h := HXf.out.below kk; exact ⟨h.c0, h.c1, h.c2, h.c3, h.c4, h.lt⟩
              have HMS : Hid (∀ w', Below Wf.heap.size Wf w' → ((fun w' => w'.cell? ⟨X, 0, none⟩ = some (.string s0) ∧ w'.cell? ⟨X, 1, none⟩ = some (.int .i64 q0) ∧ w'.cell? ⟨X, 2, none⟩ = some (.int .i64 1) ∧ w'.cell? ⟨X, 3, none⟩ = some (.string ⟨#[]⟩) ∧ w'.cell? ⟨X, 4, none⟩ = some (.int .i64 (acc + nn)) ∧ X < w'.heap.size) (((((w'.setCell ⟨R, 0, none⟩ (.string s0)).setCell ⟨R, 1, none⟩ (.int .i64 q0)).setCell ⟨R, 2, none⟩ (.int .i64 1)).setCell ⟨R, 3, none⟩ (.string ⟨#[]⟩)).setCell ⟨R, 4, none⟩ (.int .i64 (acc + nn))))) := fun w' kk => by have h := (((((HXf.out.below kk).other HXR.out 0 (.string s0)).other HXR.out 1 (.int .i64 q0)).other HXR.out 2 (.int .i64 1)).other HXR.out 3 (.string ⟨#[]⟩)).other HXR.out 4 (.int .i64 (acc + nn)); exact ⟨h.c0, h.c1, h.c2, h.c3, h.c4, h.lt⟩
              refine wp_region_held_drew (S := (fun w' => w'.cell? ⟨X, 0, none⟩ = some (.string s0) ∧ w'.cell? ⟨X, 1, none⟩ = some (.int .i64 q0) ∧ w'.cell? ⟨X, 2, none⟩ = some (.int .i64 1) ∧ w'.cell? ⟨X, 3, none⟩ = some (.string ⟨#[]⟩) ∧ w'.cell? ⟨X, 4, none⟩ = some (.int .i64 (acc + nn)) ∧ X < w'.heap.size)) (by kernel_rfl) (HMK.out _ k0) (fun hHeld => ?_)
              generalize Wf.drew = wd at k0 hHeld ⊢
              refine tkL 0 hHeld ?_; try go_frame
              refine tkL 1 hHeld ?_; try go_frame
              refine tkL 2 hHeld ?_; try go_frame
              refine wpAnyH_ready (rs := [3]) (by kernel_rfl) (by simp) ?_
              refine consL rfl (fun K hK => ?_) AllReadyH.nil
              go_simp
              refine (specSum3 _ _).mono ?_
              rintro e w9 ⟨rfl, h9⟩
              have k1 : Below Wf.heap.size Wf w9 := by rw [h9]; exact k0
              clear h9
              go_wp2_with fail
              refine hK.out _ _ (HMK.out _ k1) (fun hHeld => ?_)
              clear hK K
              try go_frame
              refine wpAnyH_ready (rs := [4]) (by kernel_rfl) (by simp) ?_
              refine consL rfl (fun K hK => ?_) AllReadyH.nil
              have hRk := HRf.out.below k1
              have y0 := hRk.c0
              have y1 := hRk.c1
              have y2 := hRk.c2
              have y3 := hRk.c3
              have y4 := hRk.c4
              have z0 := hRk.fr 0
              have z1 := hRk.fr 1
              have z2 := hRk.fr 2
              have z3 := hRk.fr 3
              have z4 := hRk.fr 4
              have zx := hRk.lt
              go_simp
              clear y0 y1 y2 y3 y4 z0 z1 z2 z3 z4 zx
              refine hK.out _ _ (HMS.out _ k1) (fun hHeld => ?_)
              clear hK K
              try go_frame
              refine tkL 5 hHeld ?_; try go_frame
              refine wpAnyH_done (by kernel_rfl) ?_ _
              have hRz := hRk.setAll (.string s0) (.int .i64 q0) (.int .i64 1) (.string ⟨#[]⟩) (.int .i64 (acc + nn))
              have g0 := hRz.c0
              have g1 := hRz.c1
              have g2 := hRz.c2
              have g3 := hRz.c3
              have g4 := hRz.c4
              have gx := hRz.lt
              have kz := (((((HBf.out.trans (k1.mono HBf.out.size)).setCell (p := ⟨R, 0, none⟩) HRW.out (.string s0)).setCell (p := ⟨R, 1, none⟩) HRW.out (.int .i64 q0)).setCell (p := ⟨R, 2, none⟩) HRW.out (.int .i64 1)).setCell (p := ⟨R, 3, none⟩) HRW.out (.string ⟨#[]⟩)).setCell (p := ⟨R, 4, none⟩) HRW.out (.int .i64 (acc + nn))
              obtain ⟨Wz, hWz⟩ : ∃ Wz, Wz = ((((w9.setCell ⟨R, 0, none⟩ (.string s0)).setCell ⟨R, 1, none⟩ (.int .i64 q0)).setCell ⟨R, 2, none⟩ (.int .i64 1)).setCell ⟨R, 3, none⟩ (.string ⟨#[]⟩)).setCell ⟨R, 4, none⟩ (.int .i64 (acc + nn)) := ⟨_, rfl⟩
              rw [← hWz] at g0 g1 g2 g3 g4 gx kz ⊢
              clear hWz hRz hRk hHeld
              go_wp2
              refine bodyPost_ret (v := .tuple #[.agg #[.string s0, .int .i64 q0, .int .i64 1, .string ⟨#[]⟩, .int .i64 (acc + nn)], .bool (sumOkB (acc + nn))]) (by simp [results, Tryz.results200, go_sem, g0, g1, g2, g3, g4]) rfl ⟨by rw [HE.out], kz⟩
          · have HE : Hid (joinG false (acc + nn) (L.drop (k + 1)) = joinG true 0 L) := by show _ = joinG true 0 L; rw [← HJ.out, HDR.out]; simp [joinG, hd1, hd2]
            go_wp2
            go_roundw
            case rel => exact ⟨k + 1, acc + nn, by omega, by go_num, (HX.out.set4 _).alloc _, (HRr.out.other nRX _ _).alloc _, (HB.out.setCell (p := ⟨X, 4, none⟩) HXW.out _).alloc (by have := HB.out.size; simpa [World.setCell] using this) _, by simpa using HE.out, by push_cast; omega, by push_cast; omega⟩
            case measure => simp [intOf]; omega
      · have hltI : ¬ (k : Int) < (n : Int) := by omega
        have HE : Hid (joinG true 0 L = (3, ⟨#[]⟩, acc)) := by
          show joinG true 0 L = _
          rw [← HJ.out, List.drop_eq_nil_of_le (by have := HL.out.length; omega)]
          rfl
        have HXf : Hid (Box5 (wr) X (.string s0) (.int .i64 q0) (.int .i64 3) (.string ⟨#[]⟩) (.int .i64 (acc))) := HX.out
        have HRf : Hid (Box5 (wr) R (.string ⟨#[]⟩) (.int .i64 0) (.int .i64 0) (.string ⟨#[]⟩) (.int .i64 0)) := HRr.out
        have HBf : Hid (Below w.heap.size w (wr)) := HB.out
        go_upto_region 14 with fail
        generalize wr = Wf at HXf HRf HBf ⊢
        clear x0 x1 x2 x3 x4 r0 r1 r2 r3 r4 xf2 xf3 xf4 rf0 rf1 rf2 rf3 rf4 lX lR
        have k0 : Below Wf.heap.size Wf Wf.drew := (Below.refl _ Wf).drew
        have HMK : Hid (∀ w', Below Wf.heap.size Wf w' → (w'.cell? ⟨X, 0, none⟩ = some (.string s0) ∧ w'.cell? ⟨X, 1, none⟩ = some (.int .i64 q0) ∧ w'.cell? ⟨X, 2, none⟩ = some (.int .i64 3) ∧ w'.cell? ⟨X, 3, none⟩ = some (.string ⟨#[]⟩) ∧ w'.cell? ⟨X, 4, none⟩ = some (.int .i64 (acc)) ∧ X < w'.heap.size)) := fun w' kk => by have h := HXf.out.below kk; exact ⟨h.c0, h.c1, h.c2, h.c3, h.c4, h.lt⟩
        have HMS : Hid (∀ w', Below Wf.heap.size Wf w' → ((fun w' => w'.cell? ⟨X, 0, none⟩ = some (.string s0) ∧ w'.cell? ⟨X, 1, none⟩ = some (.int .i64 q0) ∧ w'.cell? ⟨X, 2, none⟩ = some (.int .i64 3) ∧ w'.cell? ⟨X, 3, none⟩ = some (.string ⟨#[]⟩) ∧ w'.cell? ⟨X, 4, none⟩ = some (.int .i64 (acc)) ∧ X < w'.heap.size) (((((w'.setCell ⟨R, 0, none⟩ (.string s0)).setCell ⟨R, 1, none⟩ (.int .i64 q0)).setCell ⟨R, 2, none⟩ (.int .i64 3)).setCell ⟨R, 3, none⟩ (.string ⟨#[]⟩)).setCell ⟨R, 4, none⟩ (.int .i64 (acc))))) := fun w' kk => by have h := (((((HXf.out.below kk).other HXR.out 0 (.string s0)).other HXR.out 1 (.int .i64 q0)).other HXR.out 2 (.int .i64 3)).other HXR.out 3 (.string ⟨#[]⟩)).other HXR.out 4 (.int .i64 (acc)); exact ⟨h.c0, h.c1, h.c2, h.c3, h.c4, h.lt⟩
        refine wp_region_held_drew (S := (fun w' => w'.cell? ⟨X, 0, none⟩ = some (.string s0) ∧ w'.cell? ⟨X, 1, none⟩ = some (.int .i64 q0) ∧ w'.cell? ⟨X, 2, none⟩ = some (.int .i64 3) ∧ w'.cell? ⟨X, 3, none⟩ = some (.string ⟨#[]⟩) ∧ w'.cell? ⟨X, 4, none⟩ = some (.int .i64 (acc)) ∧ X < w'.heap.size)) (by kernel_rfl) (HMK.out _ k0) (fun hHeld => ?_)
        generalize Wf.drew = wd at k0 hHeld ⊢
        refine tkL 0 hHeld ?_; try go_frame
        refine tkL 1 hHeld ?_; try go_frame
        refine tkL 2 hHeld ?_; try go_frame
        refine wpAnyH_ready (rs := [3]) (by kernel_rfl) (by simp) ?_
        refine consL rfl (fun K hK => ?_) AllReadyH.nil
        go_simp
        refine (specSum3 _ _).mono ?_
        rintro e w9 ⟨rfl, h9⟩
        have k1 : Below Wf.heap.size Wf w9 := by rw [h9]; exact k0
        clear h9
        go_wp2_with fail
        refine hK.out _ _ (HMK.out _ k1) (fun hHeld => ?_)
        clear hK K
        try go_frame
        refine wpAnyH_ready (rs := [4]) (by kernel_rfl) (by simp) ?_
        refine consL rfl (fun K hK => ?_) AllReadyH.nil
        have hRk := HRf.out.below k1
        have y0 := hRk.c0
        have y1 := hRk.c1
        have y2 := hRk.c2
        have y3 := hRk.c3
        have y4 := hRk.c4
        have z0 := hRk.fr 0
        have z1 := hRk.fr 1
        have z2 := hRk.fr 2
        have z3 := hRk.fr 3
        have z4 := hRk.fr 4
        have zx := hRk.lt
        go_simp
        clear y0 y1 y2 y3 y4 z0 z1 z2 z3 z4 zx
        refine hK.out _ _ (HMS.out _ k1) (fun hHeld => ?_)
        clear hK K
        try go_frame
        refine tkL 5 hHeld ?_; try go_frame
        refine wpAnyH_done (by kernel_rfl) ?_ _
        have hRz := hRk.setAll (.string s0) (.int .i64 q0) (.int .i64 3) (.string ⟨#[]⟩) (.int .i64 (acc))
        have g0 := hRz.c0
        have g1 := hRz.c1
        have g2 := hRz.c2
        have g3 := hRz.c3
        have g4 := hRz.c4
        have gx := hRz.lt
        have kz := (((((HBf.out.trans (k1.mono HBf.out.size)).setCell (p := ⟨R, 0, none⟩) HRW.out (.string s0)).setCell (p := ⟨R, 1, none⟩) HRW.out (.int .i64 q0)).setCell (p := ⟨R, 2, none⟩) HRW.out (.int .i64 3)).setCell (p := ⟨R, 3, none⟩) HRW.out (.string ⟨#[]⟩)).setCell (p := ⟨R, 4, none⟩) HRW.out (.int .i64 (acc))
        obtain ⟨Wz, hWz⟩ : ∃ Wz, Wz = ((((w9.setCell ⟨R, 0, none⟩ (.string s0)).setCell ⟨R, 1, none⟩ (.int .i64 q0)).setCell ⟨R, 2, none⟩ (.int .i64 3)).setCell ⟨R, 3, none⟩ (.string ⟨#[]⟩)).setCell ⟨R, 4, none⟩ (.int .i64 (acc)) := ⟨_, rfl⟩
        rw [← hWz] at g0 g1 g2 g3 g4 gx kz ⊢
        clear hWz hRz hRk hHeld
        go_wp2
        refine bodyPost_ret (v := .tuple #[.agg #[.string s0, .int .i64 q0, .int .i64 3, .string ⟨#[]⟩, .int .i64 (acc)], .bool (sumOkB (acc))]) (by simp [results, Tryz.results200, go_sem, g0, g1, g2, g3, g4]) rfl ⟨by rw [HE.out], kz⟩
end Go.Proofs.YtlmgojlffgkciaaGreat
namespace Go.Proofs.YtlmgojlffgkciaaGreat
open Go.RowKit
set_option maxRecDepth 100000
set_option maxHeartbeats 2000000
attribute [local go_sem] Oper.semAt_some
theorem implJoin (b off n c : Nat) (L : List EntD) (s0 : ByteArray) (q0 : Int) (w : World) (hL : EntsAt w (some ⟨b, off, none⟩) n c L) (hn : 1 ≤ n) (hn2 : n ≤ 1048576) (h0 : ∃ r, L[0]? = some (s0, q0, r)) (hN : ∀ e ∈ L, -1000000 ≤ e.2.2.2.2 ∧ e.2.2.2.2 ≤ 1000000) (hK : ∀ e ∈ L, 1 ≤ e.2.2.1 ∧ e.2.2.1 ≤ 3 ∧ (e.2.2.1 = 2 → e.2.2.2.1 = ⟨#[]⟩)) :
    Calls Tryz.prog 189 #[.slice (some ⟨b, off, none⟩) n c] w fun e w' => e = .returned (.agg #[.string s0, .int .i64 q0, .int .i64 (joinG true 0 L).1, .string (joinG true 0 L).2.1, .int .i64 (joinG true 0 L).2.2]) ∧ Below w.heap.size w w' := by
  have hr := hL.room
  have hbg := hL.big
  unfold maxLen at hbg
  have HL : Hid (EntsAt w (some ⟨b, off, none⟩) n c L) := hL
  have HN : Hid (∀ e ∈ L, -1000000 ≤ e.2.2.2.2 ∧ e.2.2.2.2 ≤ 1000000) := hN
  have hbb := (hL.lies _ rfl (by omega)).1
  simp only at hbb
  obtain ⟨s, q, d, t, nn, hg, _, e0, e1, _⟩ := hL.ent (Below.refl _ w) hbb 0 (by omega)
  obtain ⟨r, hr0⟩ := h0
  rw [hr0] at hg
  cases hg
  simp only [Nat.zero_mul, Nat.add_zero] at e0 e1
  have HKD : Hid (∀ e ∈ L, 1 ≤ e.2.2.1 ∧ e.2.2.1 ≤ 3 ∧ (e.2.2.1 = 2 → e.2.2.2.1 = ⟨#[]⟩)) := hK
  clear hL hN hr0 hK
  have hnI : (0 : Int) < (n : Int) := by omega
  have hnN : 0 < n := hn
  obtain ⟨R, hR⟩ : ∃ R, R = w.heap.size := ⟨_, rfl⟩
  obtain ⟨W, hW⟩ : ∃ W, W = w.alloc (.cells #[.string ⟨#[]⟩, .int .i64 0, .int .i64 0, .string ⟨#[]⟩, .int .i64 0] 78) := ⟨_, rfl⟩
  have kW : Below w.heap.size w W := by rw [hW]; exact (Below.refl _ _).alloc (Nat.le_refl _) _
  have hRb : Box5 W R (.string ⟨#[]⟩) (.int .i64 0) (.int .i64 0) (.string ⟨#[]⟩) (.int .i64 0) := by rw [hW, hR]; exact Box5.new _ _ _ _ _ _ _
  have HKW : Hid (Below w.heap.size w W) := kW
  have HRB : Hid (Box5 W R (.string ⟨#[]⟩) (.int .i64 0) (.int .i64 0) (.string ⟨#[]⟩) (.int .i64 0)) := hRb
  have HRW : Hid (w.heap.size ≤ R) := by show w.heap.size ≤ R; omega
  have e0 := cell_later kW e0
  have e1 := cell_later kW e1
  have hbW : b < W.heap.size := Nat.lt_of_lt_of_le hbb kW.size
  have k0 : Below W.heap.size W W.drew := (Below.refl _ W).drew
  have HMK : Hid (∀ w', Below W.heap.size W w' → (w'.cell? ⟨b, off, none⟩ = some (.string s0) ∧ w'.cell? ⟨b, off + 1, none⟩ = some (.int .i64 q0) ∧ b < w'.heap.size)) := fun w' kk => ⟨cell_later kk e0, cell_later kk e1, Nat.lt_of_lt_of_le hbW kk.size⟩
  go_enter Tryz.func189, Tryz.ntmps189
  go_upto_region 1 with fail
  rw [← hW, ← hR]
  clear hW hR kW hRb
  go_cut [3] (fun s3 wx => ∃ (X : Nat), s3 = .pointer (some ⟨X, 0, none⟩) ∧ Box5 wx X (.string s0) (.int .i64 q0) (.int .i64 3) (.string ⟨#[]⟩) (.int .i64 0) ∧ W.heap.size ≤ X ∧ Below W.heap.size W wx)
  case first =>
    refine wp_region_held_drew (S := (fun w' => w'.cell? ⟨b, off, none⟩ = some (.string s0) ∧ w'.cell? ⟨b, off + 1, none⟩ = some (.int .i64 q0) ∧ b < w'.heap.size)) (by kernel_rfl) (HMK.out _ k0) (fun hHeld => ?_)
    generalize W.drew = wd at k0 hHeld ⊢
    refine tkL 0 hHeld ?_; try go_frame
    refine tkL 1 hHeld ?_; try go_frame
    refine tkL 2 hHeld ?_; try go_frame
    refine tkL 3 hHeld ?_; try go_frame
    refine tkL 4 hHeld ?_; try go_frame
    refine tkL 5 hHeld ?_; try go_frame
    refine tkL 6 hHeld ?_; try go_frame
    refine tkL 7 hHeld ?_; try go_frame
    refine tkL 8 hHeld ?_; try go_frame
    refine wpAnyH_ready (rs := [9]) (by kernel_rfl) (by simp) ?_
    refine consL rfl (fun K hK => ?_) AllReadyH.nil
    go_simp
    have hbx := Box5.new wd 78 (.string ⟨#[]⟩) (.int .i64 0) (.int .i64 0) (.string ⟨#[]⟩) (.int .i64 0)
    have ka := k0.alloc k0.size (.cells #[.string ⟨#[]⟩, .int .i64 0, .int .i64 0, .string ⟨#[]⟩, .int .i64 0] 78)
    have hXw := k0.size
    generalize wd.alloc (.cells #[.string ⟨#[]⟩, .int .i64 0, .int .i64 0, .string ⟨#[]⟩, .int .i64 0] 78) = wA at hbx ka ⊢
    generalize wd.heap.size = X at hbx hXw ⊢
    refine hK.out _ _ (HMK.out _ ka) (fun hHeld => ?_)
    clear hK K
    try go_frame
    refine wpAnyH_ready (rs := [10]) (by kernel_rfl) (by simp) ?_
    refine consL rfl (fun K hK => ?_) AllReadyH.nil
    have y0 := hbx.c0
    have y1 := hbx.c1
    have y2 := hbx.c2
    have y3 := hbx.c3
    have y4 := hbx.c4
    have z0 := hbx.fr 0
    have z1 := hbx.fr 1
    have z2 := hbx.fr 2
    have z3 := hbx.fr 3
    have z4 := hbx.fr 4
    have zx := hbx.lt
    go_simp
    have kz := (((((ka).setCell (p := ⟨X, 0, none⟩) hXw (.string s0)).setCell (p := ⟨X, 1, none⟩) hXw (.int .i64 q0)).setCell (p := ⟨X, 2, none⟩) hXw (.int .i64 3)).setCell (p := ⟨X, 3, none⟩) hXw (.string ⟨#[]⟩)).setCell (p := ⟨X, 4, none⟩) hXw (.int .i64 0)
    have hby := hbx.setAll (.string s0) (.int .i64 q0) (.int .i64 3) (.string ⟨#[]⟩) (.int .i64 0)
    clear y0 y1 y2 y3 y4 z0 z1 z2 z3 z4 zx
    refine hK.out _ _ (HMK.out _ kz) (fun hHeld => ?_)
    clear hK K
    try go_frame
    refine wpAnyH_done (by kernel_rfl) ?_ _
    go_wp2
    go_meet
    exact ⟨X, rfl, hby, hXw, kz⟩
  case rest =>
    obtain ⟨X, rfl, hX, hXW, hbx⟩ := hcut
    clear k0 HMK e0 e1
    have HK0 : Hid (Below w.heap.size w wc) := HKW.out.trans (hbx.mono HKW.out.size)
    have HR0 : Hid (Box5 wc R (.string ⟨#[]⟩) (.int .i64 0) (.int .i64 0) (.string ⟨#[]⟩) (.int .i64 0)) := HRB.out.below hbx
    have HXR : Hid (X ≠ R) := by have := HRB.out.lt; show X ≠ R; omega
    have HX0 : Hid (Box5 wc X (.string s0) (.int .i64 q0) (.int .i64 3) (.string ⟨#[]⟩) (.int .i64 0)) := hX
    have HXW : Hid (w.heap.size ≤ X) := by have := HKW.out.size; show w.heap.size ≤ X; omega
    clear hX hbx hXW
    go_wp2
    go_loopw [17] (fun iv wr => ∃ (k : Nat) (acc : Int), k ≤ n ∧ iv = .int .i64 k ∧ Box5 wr X (.string s0) (.int .i64 q0) (.int .i64 3) (.string ⟨#[]⟩) (.int .i64 acc) ∧ Box5 wr R (.string ⟨#[]⟩) (.int .i64 0) (.int .i64 0) (.string ⟨#[]⟩) (.int .i64 0) ∧ Below w.heap.size w wr ∧ joinG (decide (k = 0)) acc (L.drop k) = joinG true 0 L ∧ -(1000000 * (k : Int)) ≤ acc ∧ acc ≤ 1000000 * (k : Int)) (fun iv _ => n - (intOf iv).toNat)
    case atStart => exact ⟨0, 0, Nat.zero_le _, rfl, HX0.out, HR0.out, HK0.out, rfl, by omega, by omega⟩
    case round =>
      obtain ⟨k, acc, hk, rfl, hX, hRr, hb, hj, ha1, ha2⟩ := hrel
      have HX : Hid (Box5 wr X (.string s0) (.int .i64 q0) (.int .i64 3) (.string ⟨#[]⟩) (.int .i64 acc)) := hX
      have HRr : Hid (Box5 wr R (.string ⟨#[]⟩) (.int .i64 0) (.int .i64 0) (.string ⟨#[]⟩) (.int .i64 0)) := hRr
      have HB : Hid (Below w.heap.size w wr) := hb
      have HJ : Hid (joinG (decide (k = 0)) acc (L.drop k) = joinG true 0 L) := hj
      obtain ⟨x0, x1, x2, x3, x4, xf⟩ := hX
      obtain ⟨r0, r1, r2, r3, r4, rf⟩ := hRr
      have xf2 := xf 2
      have xf3 := xf 3
      have xf4 := xf 4
      have rf0 := rf 0
      have rf1 := rf 1
      have rf2 := rf 2
      have rf3 := rf 3
      have rf4 := rf 4
      have lX := World.block_lt_of_cell? _ _ x0
      have lR := World.block_lt_of_cell? _ _ r0
      simp only at lX lR
      have nXR := HXR.out
      have nRX : R ≠ X := fun e => nXR e.symm
      clear xf rf hj
      by_cases hlt : k < n
      · have hltI : (k : Int) < (n : Int) := by omega
        obtain ⟨s, q, d, t, nn, hg, hw, e0, e1, e2, e3, e4⟩ := HL.out.ent hb hbb k hlt
        have hbr : b < wr.heap.size := Nat.lt_of_lt_of_le hbb hb.size
        obtain ⟨m1, m2⟩ := HN.out _ (List.mem_of_getElem? hg)
        simp only at m1 m2
        have hdr : L.drop k = (s, q, d, t, nn) :: L.drop (k + 1) := by
          have hkl := (List.getElem?_eq_some_iff.1 hg).1
          rw [List.drop_eq_getElem_cons hkl, (List.getElem?_eq_some_iff.1 hg).2]
        have HDR : Hid (L.drop k = (s, q, d, t, nn) :: L.drop (k + 1)) := hdr
        have nbX : wr.heap.size ≠ X := by omega
        have nXb : X ≠ wr.heap.size := by omega
        have nRb : R ≠ wr.heap.size := by omega
        obtain ⟨kd1, kd2, kd3⟩ := HKD.out _ (List.mem_of_getElem? hg)
        simp only at kd1 kd2 kd3
        have HD : Hid (1 ≤ d ∧ d ≤ 3) := ⟨kd1, kd2⟩
        have HT2 : Hid (d = 2 → t = ⟨#[]⟩) := kd3
        clear hg hw hdr hb kd3
        have hsum1 : -9223372036854775808 ≤ acc + nn := by omega
        have hsum2 : acc + nn ≤ 9223372036854775807 := by omega
        by_cases hd3 : d = 3
        · subst hd3
          have HE : Hid (joinG false (acc + nn) (L.drop (k + 1)) = joinG true 0 L) := by show _ = joinG true 0 L; rw [← HJ.out, HDR.out]; simp [joinG]
          go_wp2
          go_roundw
          case rel => exact ⟨k + 1, acc + nn, by omega, by go_num, (HX.out.set4 _).alloc _, (HRr.out.other nRX _ _).alloc _, (HB.out.setCell (p := ⟨X, 4, none⟩) HXW.out _).alloc (by have := HB.out.size; simpa [World.setCell] using this) _, by simpa using HE.out, by push_cast; omega, by push_cast; omega⟩
          case measure => simp [intOf]; omega
        · have HXf : Hid (Box5 ((wr.setCell ⟨X, 4, none⟩ (.int .i64 (acc + nn))).alloc (.cells #[.string s, .int .i64 q, .int .i64 d, .string t, .int .i64 nn] 78)) X (.string s0) (.int .i64 q0) (.int .i64 3) (.string ⟨#[]⟩) (.int .i64 (acc + nn))) := (HX.out.set4 _).alloc _
          have HRf : Hid (Box5 ((wr.setCell ⟨X, 4, none⟩ (.int .i64 (acc + nn))).alloc (.cells #[.string s, .int .i64 q, .int .i64 d, .string t, .int .i64 nn] 78)) R (.string ⟨#[]⟩) (.int .i64 0) (.int .i64 0) (.string ⟨#[]⟩) (.int .i64 0)) := (HRr.out.other nRX _ _).alloc _
          have HBf : Hid (Below w.heap.size w ((wr.setCell ⟨X, 4, none⟩ (.int .i64 (acc + nn))).alloc (.cells #[.string s, .int .i64 q, .int .i64 d, .string t, .int .i64 nn] 78))) := (HB.out.setCell (p := ⟨X, 4, none⟩) HXW.out _).alloc (by have := HB.out.size; simpa [World.setCell] using this) _
          have HYf : Hid (Box5 ((wr.setCell ⟨X, 4, none⟩ (.int .i64 (acc + nn))).alloc (.cells #[.string s, .int .i64 q, .int .i64 d, .string t, .int .i64 nn] 78)) wr.heap.size (.string s) (.int .i64 q) (.int .i64 d) (.string t) (.int .i64 nn)) := by
            have := Box5.new (wr.setCell ⟨X, 4, none⟩ (.int .i64 (acc + nn))) 78 (.string s) (.int .i64 q) (.int .i64 d) (.string t) (.int .i64 nn)
            simpa [Hid, World.setCell] using this
          go_upto_region 7 with fail
          obtain ⟨Y, hY⟩ : ∃ Y, Y = wr.heap.size := ⟨_, rfl⟩
          rw [← hY] at HYf nbX nXb nRb ⊢
          generalize (wr.setCell ⟨X, 4, none⟩ (.int .i64 (acc + nn))).alloc (.cells #[.string s, .int .i64 q, .int .i64 d, .string t, .int .i64 nn] 78) = Wf at HXf HRf HBf HYf ⊢
          clear x0 x1 x2 x3 x4 r0 r1 r2 r3 r4 xf2 xf3 xf4 rf0 rf1 rf2 rf3 rf4 lX lR e0 e1 e2 e3 e4 hbr hY
          have nYX : Y ≠ X := nbX
          have k0 : Below Wf.heap.size Wf Wf.drew := (Below.refl _ Wf).drew
          have HM7 : Hid (∀ w', Below Wf.heap.size Wf w' → (w'.cell? ⟨Y, 3, none⟩ = some (.string t) ∧ Y < w'.heap.size ∧ X < w'.heap.size)) := fun w' kk => ⟨(HYf.out.below kk).c3, (HYf.out.below kk).lt, (HXf.out.below kk).lt⟩
          refine wp_region_held_drew (S := (fun w' => w'.cell? ⟨Y, 3, none⟩ = some (.string t) ∧ Y < w'.heap.size ∧ X < w'.heap.size)) (by kernel_rfl) (HM7.out _ k0) (fun hHeld => ?_)
          generalize Wf.drew = wd at k0 hHeld ⊢
          refine tkL 0 hHeld ?_; try go_frame
          refine tkL 1 hHeld ?_; try go_frame
          refine tkL 2 hHeld ?_; try go_frame
          refine wpAnyH_ready (rs := [3]) (by kernel_rfl) (by simp) ?_
          refine consL rfl (fun K hK => ?_) AllReadyH.nil
          have bx1 := HXf.out.below k0
          have by1 := HYf.out.below k0
          have br1 := HRf.out.below k0
          have bb1 := HBf.out.trans (k0.mono HBf.out.size)
          have y2 := bx1.c2
          have y3 := bx1.c3
          have z2 := bx1.fr 2
          have z3 := bx1.fr 3
          have zx := bx1.lt
          go_simp
          clear y2 y3 z2 z3 zx
          have ok1 : (fun w' => w'.cell? ⟨Y, 3, none⟩ = some (.string t) ∧ Y < w'.heap.size ∧ X < w'.heap.size) ((wd).setCell ⟨X, 2, none⟩ (.int .i64 1)) := ⟨(by1.other nYX 2 (.int .i64 1)).c3, (by1.other nYX 2 (.int .i64 1)).lt, (bx1.set2 (.int .i64 1)).lt⟩
          refine hK.out _ _ (ok1) (fun hHeld => ?_)
          clear hK K
          try go_frame
          refine tkL 4 hHeld ?_; try go_frame
          refine wpAnyH_ready (rs := [5]) (by kernel_rfl) (by simp) ?_
          refine consL rfl (fun K hK => ?_) AllReadyH.nil
          have bx2 := bx1.set2 (.int .i64 1)
          have by2 := by1.other nYX 2 (.int .i64 1)
          have br2 := br1.other nRX 2 (.int .i64 1)
          have bb2 := bb1.setCell (p := ⟨X, 2, none⟩) HXW.out (.int .i64 1)
          have y2 := bx2.c2
          have y3 := bx2.c3
          have z2 := bx2.fr 2
          have z3 := bx2.fr 3
          have zx := bx2.lt
          go_simp
          clear y2 y3 z2 z3 zx
          have ok2 : (fun w' => w'.cell? ⟨Y, 3, none⟩ = some (.string t) ∧ Y < w'.heap.size ∧ X < w'.heap.size) (((wd).setCell ⟨X, 2, none⟩ (.int .i64 1)).setCell ⟨X, 3, none⟩ (.string t)) := ⟨(by2.other nYX 3 (.string t)).c3, (by2.other nYX 3 (.string t)).lt, (bx2.set3 (.string t)).lt⟩
          refine hK.out _ _ (ok2) (fun hHeld => ?_)
          clear hK K
          try go_frame
          refine wpAnyH_done (by kernel_rfl) ?_ _
          have hXg := bx2.set3 (.string t)
          have hYg := by2.other nYX 3 (.string t)
          have hRg := br2.other nRX 3 (.string t)
          have hBg := bb2.setCell (p := ⟨X, 3, none⟩) HXW.out (.string t)
          obtain ⟨Wg, hWg⟩ : ∃ Wg, Wg = ((wd).setCell ⟨X, 2, none⟩ (.int .i64 1)).setCell ⟨X, 3, none⟩ (.string t) := ⟨_, rfl⟩
          rw [← hWg] at hXg hYg hRg hBg ⊢
          clear hWg hHeld bx1 by1 br1 bb1 ok1 bx2 by2 br2 bb2 ok2
          have HXg : Hid (Box5 Wg X (.string s0) (.int .i64 q0) (.int .i64 1) (.string t) (.int .i64 (acc + nn))) := hXg
          have HRg : Hid (Box5 Wg R (.string ⟨#[]⟩) (.int .i64 0) (.int .i64 0) (.string ⟨#[]⟩) (.int .i64 0)) := hRg
          have HBg : Hid (Below w.heap.size w Wg) := hBg
          have yk := hYg.c2
          have lY := hYg.lt
          clear hXg hYg hRg hBg
          by_cases hd2 : d = 2
          · subst hd2
            have ht := HT2.out rfl
            subst ht
            by_cases hk0 : k = 0
            · subst hk0
              have HE : Hid (joinG true 0 L = (2, ⟨#[]⟩, acc + nn)) := by show joinG true 0 L = _; rw [← HJ.out, HDR.out]; simp [joinG]
              obtain ⟨x0, x1, x2, x3, x4, xf⟩ := HXg.out
              obtain ⟨r0, r1, r2, r3, r4, rf⟩ := HRg.out
              have xf2 := xf 2
              have rf0 := rf 0
              have rf1 := rf 1
              have rf2 := rf 2
              have rf3 := rf 3
              have rf4 := rf 4
              have lX := HXg.out.lt
              have lR := HRg.out.lt
              clear xf rf
              go_wp2
              have hRz := (HRg.out.other nRX 2 (.int .i64 2)).setAll (.string s0) (.int .i64 q0) (.int .i64 2) (.string ⟨#[]⟩) (.int .i64 (acc + nn))
              have g0 := hRz.c0
              have g1 := hRz.c1
              have g2 := hRz.c2
              have g3 := hRz.c3
              have g4 := hRz.c4
              have kz : Below w.heap.size w ((((((Wg.setCell ⟨X, 2, none⟩ (.int .i64 2)).setCell ⟨R, 0, none⟩ (.string s0)).setCell ⟨R, 1, none⟩ (.int .i64 q0)).setCell ⟨R, 2, none⟩ (.int .i64 2)).setCell ⟨R, 3, none⟩ (.string ⟨#[]⟩)).setCell ⟨R, 4, none⟩ (.int .i64 (acc + nn))) := ((((((HBg.out.setCell (p := ⟨X, 2, none⟩) HXW.out _)).setCell (p := ⟨R, 0, none⟩) HRW.out _).setCell (p := ⟨R, 1, none⟩) HRW.out _).setCell (p := ⟨R, 2, none⟩) HRW.out _).setCell (p := ⟨R, 3, none⟩) HRW.out _).setCell (p := ⟨R, 4, none⟩) HRW.out _
              obtain ⟨Wz, hWz⟩ : ∃ Wz, Wz = (((((Wg.setCell ⟨X, 2, none⟩ (.int .i64 2)).setCell ⟨R, 0, none⟩ (.string s0)).setCell ⟨R, 1, none⟩ (.int .i64 q0)).setCell ⟨R, 2, none⟩ (.int .i64 2)).setCell ⟨R, 3, none⟩ (.string ⟨#[]⟩)).setCell ⟨R, 4, none⟩ (.int .i64 (acc + nn)) := ⟨_, rfl⟩
              rw [← hWz] at g0 g1 g2 g3 g4 kz ⊢
              clear hWz hRz
              refine bodyPost_ret (v := .agg #[.string s0, .int .i64 q0, .int .i64 2, .string ⟨#[]⟩, .int .i64 (acc + nn)]) (by simp [results, Tryz.results189, go_sem, g0, g1, g2, g3, g4]) rfl ⟨by rw [HE.out], kz⟩
            · have hk0I : ¬ (k : Int) = 0 := by omega
              have HE : Hid (joinG true 0 L = (1, ⟨#[]⟩, acc + nn)) := by show joinG true 0 L = _; rw [← HJ.out, HDR.out]; simp [joinG, hk0]
              obtain ⟨x0, x1, x2, x3, x4, xf⟩ := HXg.out
              obtain ⟨r0, r1, r2, r3, r4, rf⟩ := HRg.out
              have xf2 := xf 2
              have rf0 := rf 0
              have rf1 := rf 1
              have rf2 := rf 2
              have rf3 := rf 3
              have rf4 := rf 4
              have lX := HXg.out.lt
              have lR := HRg.out.lt
              clear xf rf
              go_wp2
              have hRz := HRg.out.setAll (.string s0) (.int .i64 q0) (.int .i64 1) (.string ⟨#[]⟩) (.int .i64 (acc + nn))
              have g0 := hRz.c0
              have g1 := hRz.c1
              have g2 := hRz.c2
              have g3 := hRz.c3
              have g4 := hRz.c4
              have kz : Below w.heap.size w (((((Wg.setCell ⟨R, 0, none⟩ (.string s0)).setCell ⟨R, 1, none⟩ (.int .i64 q0)).setCell ⟨R, 2, none⟩ (.int .i64 1)).setCell ⟨R, 3, none⟩ (.string ⟨#[]⟩)).setCell ⟨R, 4, none⟩ (.int .i64 (acc + nn))) := (((((HBg.out).setCell (p := ⟨R, 0, none⟩) HRW.out _).setCell (p := ⟨R, 1, none⟩) HRW.out _).setCell (p := ⟨R, 2, none⟩) HRW.out _).setCell (p := ⟨R, 3, none⟩) HRW.out _).setCell (p := ⟨R, 4, none⟩) HRW.out _
              obtain ⟨Wz, hWz⟩ : ∃ Wz, Wz = ((((Wg.setCell ⟨R, 0, none⟩ (.string s0)).setCell ⟨R, 1, none⟩ (.int .i64 q0)).setCell ⟨R, 2, none⟩ (.int .i64 1)).setCell ⟨R, 3, none⟩ (.string ⟨#[]⟩)).setCell ⟨R, 4, none⟩ (.int .i64 (acc + nn)) := ⟨_, rfl⟩
              rw [← hWz] at g0 g1 g2 g3 g4 kz ⊢
              clear hWz hRz
              refine bodyPost_ret (v := .agg #[.string s0, .int .i64 q0, .int .i64 1, .string ⟨#[]⟩, .int .i64 (acc + nn)]) (by simp [results, Tryz.results189, go_sem, g0, g1, g2, g3, g4]) rfl ⟨by rw [HE.out], kz⟩
          · have hd1 : d = 1 := by have := HD.out; omega
            subst hd1
            have HE : Hid (joinG true 0 L = (1, t, acc + nn)) := by show joinG true 0 L = _; rw [← HJ.out, HDR.out]; simp [joinG]
            obtain ⟨x0, x1, x2, x3, x4, xf⟩ := HXg.out
            obtain ⟨r0, r1, r2, r3, r4, rf⟩ := HRg.out
            have xf2 := xf 2
            have rf0 := rf 0
            have rf1 := rf 1
            have rf2 := rf 2
            have rf3 := rf 3
            have rf4 := rf 4
            have lX := HXg.out.lt
            have lR := HRg.out.lt
            clear xf rf
            go_wp2
            have hRz := HRg.out.setAll (.string s0) (.int .i64 q0) (.int .i64 1) (.string t) (.int .i64 (acc + nn))
            have g0 := hRz.c0
            have g1 := hRz.c1
            have g2 := hRz.c2
            have g3 := hRz.c3
            have g4 := hRz.c4
            have kz : Below w.heap.size w (((((Wg.setCell ⟨R, 0, none⟩ (.string s0)).setCell ⟨R, 1, none⟩ (.int .i64 q0)).setCell ⟨R, 2, none⟩ (.int .i64 1)).setCell ⟨R, 3, none⟩ (.string t)).setCell ⟨R, 4, none⟩ (.int .i64 (acc + nn))) := (((((HBg.out).setCell (p := ⟨R, 0, none⟩) HRW.out _).setCell (p := ⟨R, 1, none⟩) HRW.out _).setCell (p := ⟨R, 2, none⟩) HRW.out _).setCell (p := ⟨R, 3, none⟩) HRW.out _).setCell (p := ⟨R, 4, none⟩) HRW.out _
            obtain ⟨Wz, hWz⟩ : ∃ Wz, Wz = ((((Wg.setCell ⟨R, 0, none⟩ (.string s0)).setCell ⟨R, 1, none⟩ (.int .i64 q0)).setCell ⟨R, 2, none⟩ (.int .i64 1)).setCell ⟨R, 3, none⟩ (.string t)).setCell ⟨R, 4, none⟩ (.int .i64 (acc + nn)) := ⟨_, rfl⟩
            rw [← hWz] at g0 g1 g2 g3 g4 kz ⊢
            clear hWz hRz
            refine bodyPost_ret (v := .agg #[.string s0, .int .i64 q0, .int .i64 1, .string t, .int .i64 (acc + nn)]) (by simp [results, Tryz.results189, go_sem, g0, g1, g2, g3, g4]) rfl ⟨by rw [HE.out], kz⟩
      · have hltI : ¬ (k : Int) < (n : Int) := by omega
        have HE : Hid (joinG true 0 L = (3, ⟨#[]⟩, acc)) := by
          show joinG true 0 L = _
          rw [← HJ.out, List.drop_eq_nil_of_le (by have := HL.out.length; omega)]
          rfl
        go_wp2
        have hRz := HRr.out.setAll (.string s0) (.int .i64 q0) (.int .i64 3) (.string ⟨#[]⟩) (.int .i64 acc)
        have g0 := hRz.c0
        have g1 := hRz.c1
        have g2 := hRz.c2
        have g3 := hRz.c3
        have g4 := hRz.c4
        have kz : Below w.heap.size w (((((wr.setCell ⟨R, 0, none⟩ (.string s0)).setCell ⟨R, 1, none⟩ (.int .i64 q0)).setCell ⟨R, 2, none⟩ (.int .i64 3)).setCell ⟨R, 3, none⟩ (.string ⟨#[]⟩)).setCell ⟨R, 4, none⟩ (.int .i64 acc)) := (((((HB.out).setCell (p := ⟨R, 0, none⟩) HRW.out _).setCell (p := ⟨R, 1, none⟩) HRW.out _).setCell (p := ⟨R, 2, none⟩) HRW.out _).setCell (p := ⟨R, 3, none⟩) HRW.out _).setCell (p := ⟨R, 4, none⟩) HRW.out _
        obtain ⟨Wz, hWz⟩ : ∃ Wz, Wz = ((((wr.setCell ⟨R, 0, none⟩ (.string s0)).setCell ⟨R, 1, none⟩ (.int .i64 q0)).setCell ⟨R, 2, none⟩ (.int .i64 3)).setCell ⟨R, 3, none⟩ (.string ⟨#[]⟩)).setCell ⟨R, 4, none⟩ (.int .i64 acc) := ⟨_, rfl⟩
        rw [← hWz] at g0 g1 g2 g3 g4 kz ⊢
        clear hWz hRz
        refine bodyPost_ret (v := .agg #[.string s0, .int .i64 q0, .int .i64 3, .string ⟨#[]⟩, .int .i64 acc]) (by simp [results, Tryz.results189, go_sem, g0, g1, g2, g3, g4]) rfl ⟨by rw [HE.out], kz⟩
end Go.Proofs.YtlmgojlffgkciaaGreat
namespace Go.Proofs.YtlmgojlffgkciaaGreat
open Go.RowKit
set_option maxRecDepth 100000
set_option maxHeartbeats 2000000
attribute [local go_sem] Oper.semAt_some
def classG (bare : Bool) (s0 : ByteArray) (q0 : Int) (L : List EntD) : List EntD :=
  if sumOkB (joinG true 0 L).2.2 = true then (if bare = true ∧ (joinG true 0 L).1 = 2 then [] else [(s0, q0, (if bare = true ∧ (joinG true 0 L).1 = 3 then 1 else (joinG true 0 L).1), (joinG true 0 L).2.1, (joinG true 0 L).2.2)]) else L
theorem joinG_kind : ∀ (L : List EntD) (f : Bool) (acc : Int), 1 ≤ (joinG f acc L).1 ∧ (joinG f acc L).1 ≤ 3 := by
  intro L
  induction L with
  | nil => intro f acc; simp [joinG]
  | cons e R ih =>
    intro f acc
    unfold joinG
    split
    · simp
    · split
      · cases f <;> simp
      · exact ih false _
theorem joinG_text : ∀ (L : List EntD) (f : Bool) (acc : Int), (∀ e ∈ L, e.2.2.2.1.size ≤ maxLen) → (joinG f acc L).2.1.size ≤ maxLen := by
  intro L
  induction L with
  | nil => intro f acc _; exact Nat.zero_le _
  | cons e R ih =>
    intro f acc h
    unfold joinG
    split
    · exact h e (List.mem_cons_self ..)
    · split
      · exact Nat.zero_le _
      · exact ih false _ (fun x hx => h x (List.mem_cons_of_mem _ hx))
theorem wfI {z : Int} (h1 : -1000000 ≤ z) (h2 : z ≤ 1000000) : (Lit.int .i64 z).wf = true := by
  simp only [Lit.wf, IntKind.min, IntKind.max, IntKind.signed, IntKind.bits, Bool.and_eq_true, decide_eq_true_eq, if_true]
  omega
theorem clOwn0 (w : World) (base : Nat) (h : base ≤ w.heap.size) : OwnE (w.alloc (.cells #[] 78)) base w.heap.size 0 0 [] := by
  have := World.ownsRow_lit (base := base) (e := 78) (size := 5) w #[] 0 (by first | exact h | simp) (by first | exact h | simp) (by first | exact h | simp)
  exact ⟨by simpa [flatE] using this, rfl, by simp⟩
theorem clOwn1 (w : World) (base : Nat) (h : base ≤ w.heap.size) (s t : ByteArray) (q d n : Int) (hw : EntW (s, q, d, t, n)) : OwnE (w.alloc (.cells #[.string s, .int .i64 q, .int .i64 d, .string t, .int .i64 n] 78)) base w.heap.size 1 1 [(s, q, d, t, n)] := by
  have := World.ownsRow_lit (base := base) (e := 78) (size := 5) w #[.string s, .int .i64 q, .int .i64 d, .string t, .int .i64 n] 1 h (by unfold maxLen; omega) rfl
  exact ⟨by simpa [flatE, entCells] using this, rfl, by simpa using hw⟩
theorem clEnts1 (w : World) (o : Obj) (s t : ByteArray) (q d n : Int) (hw : EntW (s, q, d, t, n)) : EntsAt ((w.alloc o).alloc (.cells #[.string s, .int .i64 q, .int .i64 d, .string t, .int .i64 n] 78)) (some ⟨w.heap.size + 1, 0, none⟩) 1 1 [(s, q, d, t, n)] := by
  have := (clOwn1 (w.alloc o) 0 (Nat.zero_le _) s t q d n hw).entsAt
  simpa using this
def EntsR (b : Nat) (w w' : World) (e : Ending) (L : List EntD) : Prop := ∃ (a : Option Addr) (n c : Nat), e = .returned (.slice a n c) ∧ EntsAt w' a n c L ∧ Below w.heap.size w w' ∧ ∀ x, a = some x → x.block = b ∨ w.heap.size ≤ x.block
theorem clNil (w : World) : EntsAt w none 0 0 [] := ⟨rfl, Nat.le_refl _, Nat.zero_le _, by simp, fun _ => rfl, (fun x e => by cases e), (fun x e => by cases e)⟩
theorem implClass (b off n c : Nat) (L : List EntD) (s0 : ByteArray) (q0 : Int) (bare : Bool) (w : World) (hL : EntsAt w (some ⟨b, off, none⟩) n c L) (hn : 1 ≤ n) (hn2 : n ≤ 1048576) (h0 : ∃ r, L[0]? = some (s0, q0, r)) (hN : ∀ e ∈ L, -1000000 ≤ e.2.2.2.2 ∧ e.2.2.2.2 ≤ 1000000) (hK : ∀ e ∈ L, 1 ≤ e.2.2.1 ∧ e.2.2.1 ≤ 3 ∧ (e.2.2.1 = 2 → e.2.2.2.1 = ⟨#[]⟩)) :
    Calls Tryz.prog 148 #[.slice (some ⟨b, off, none⟩) n c, .bool bare] w fun e w' => EntsR b w w' e (classG bare s0 q0 L) := by
  have HL : Hid (EntsAt w (some ⟨b, off, none⟩) n c L) := hL
  obtain ⟨r, hr0⟩ := h0
  have hw0 := hL.ents _ (List.mem_of_getElem? hr0)
  have HTX : Hid ((joinG true 0 L).2.1.size ≤ maxLen) := joinG_text L true 0 (fun e he => (hL.ents e he).2.2.2.1)
  have HKD : Hid (1 ≤ (joinG true 0 L).1 ∧ (joinG true 0 L).1 ≤ 3) := joinG_kind L true 0
  have HW0 : Hid (s0.size ≤ maxLen ∧ (Lit.int .i64 q0).wf = true) := ⟨hw0.1, hw0.2.1⟩
  have CJ := implJoin b off n c L s0 q0 w hL hn hn2 ⟨r, hr0⟩ hN hK
  have HC : Hid (∀ d t a, joinG true 0 L = (d, t, a) → classG bare s0 q0 L = if sumOkB a = true then (if bare = true ∧ d = 2 then [] else [(s0, q0, (if bare = true ∧ d = 3 then 1 else d), t, a)]) else L) := fun d t a h => by unfold classG; rw [h]
  obtain ⟨d, t, a, hj⟩ : ∃ d t a, joinG true 0 L = (d, t, a) := ⟨_, _, _, rfl⟩
  have HCL := HC.out d t a hj
  rw [hj] at HTX HKD CJ
  have HJ : Hid (classG bare s0 q0 L = if sumOkB a = true then (if bare = true ∧ d = 2 then [] else [(s0, q0, (if bare = true ∧ d = 3 then 1 else d), t, a)]) else L) := HCL
  clear HCL hj HC hw0 hr0 hL hN hK
  simp only at HTX HKD CJ
  go_enter Tryz.func148, Tryz.ntmps148
  go_wp2_with fail
  refine CJ.mono ?_
  rintro e w1 ⟨rfl, hb1⟩
  have HB1 : Hid (Below w.heap.size w w1) := hb1
  clear hb1 CJ
  by_cases h1 : a ≤ 1000000
  · by_cases h2 : -1000000 ≤ a
    · have hs : sumOkB a = true := by simp [sumOkB, h1, h2]
      have h1' : ¬ a > 1000000 := by omega
      have h2' : ¬ a < -1000000 := by omega
      have HWa : Hid ((Lit.int .i64 a).wf = true) := wfI h2 h1
      have HWd : Hid ((Lit.int .i64 d).wf = true) := wfI (by have := HKD.out; omega) (by have := HKD.out; omega)
      cases bare with
      | true =>
        by_cases hd2 : d = 2
        · subst hd2
          go_wp2
          go_ret
          exact ⟨none, 0, 0, rfl, by rw [HJ.out]; simp [hs]; exact clNil _, HB1.out.alloc HB1.out.size _, fun x e => by cases e⟩
        · by_cases hd3 : d = 3
          · subst hd3
            have hcl : classG true s0 q0 L = [(s0, q0, 1, t, a)] := by rw [HJ.out]; simp [hs]
            go_wp2
            go_ret
            exact ⟨some ⟨w1.heap.size + 1, 0, none⟩, 1, 1, rfl, by rw [hcl]; exact clEnts1 _ _ _ _ _ _ _ ⟨HW0.out.1, HW0.out.2, wfI (z := 1) (by omega) (by omega), HTX.out, HWa.out⟩, (HB1.out.alloc HB1.out.size _).alloc (by have := HB1.out.size; simp; omega) _, fun x e => by cases e; exact .inr (by have := HB1.out.size; show w.heap.size ≤ w1.heap.size + 1; omega)⟩
          · have hcl : classG true s0 q0 L = [(s0, q0, d, t, a)] := by rw [HJ.out]; simp [hs, hd2, hd3]
            go_wp2
            go_ret
            exact ⟨some ⟨w1.heap.size + 1, 0, none⟩, 1, 1, rfl, by rw [hcl]; exact clEnts1 _ _ _ _ _ _ _ ⟨HW0.out.1, HW0.out.2, HWd.out, HTX.out, HWa.out⟩, (HB1.out.alloc HB1.out.size _).alloc (by have := HB1.out.size; simp; omega) _, fun x e => by cases e; exact .inr (by have := HB1.out.size; show w.heap.size ≤ w1.heap.size + 1; omega)⟩
      | false =>
        have hcl : classG false s0 q0 L = [(s0, q0, d, t, a)] := by rw [HJ.out]; simp [hs]
        go_wp2
        go_ret
        exact ⟨some ⟨w1.heap.size + 1, 0, none⟩, 1, 1, rfl, by rw [hcl]; exact clEnts1 _ _ _ _ _ _ _ ⟨HW0.out.1, HW0.out.2, HWd.out, HTX.out, HWa.out⟩, (HB1.out.alloc HB1.out.size _).alloc (by have := HB1.out.size; simp; omega) _, fun x e => by cases e; exact .inr (by have := HB1.out.size; show w.heap.size ≤ w1.heap.size + 1; omega)⟩
    · have hs : sumOkB a = false := by simp [sumOkB, h2]
      have h1' : ¬ 1000000 < a := by omega
      have h2' : a < -1000000 := by omega
      have hcl : classG bare s0 q0 L = L := by rw [HJ.out]; simp [hs]
      go_wp2
      go_ret
      exact ⟨_, _, _, rfl, by rw [hcl]; exact HL.out.keep (HB1.out.alloc HB1.out.size _), HB1.out.alloc HB1.out.size _, fun x e => by cases e; exact .inl rfl⟩
  · have hs : sumOkB a = false := by simp [sumOkB, h1]
    have h1' : 1000000 < a := by omega
    have hcl : classG bare s0 q0 L = L := by rw [HJ.out]; simp [hs]
    go_wp2
    go_ret
    exact ⟨_, _, _, rfl, by rw [hcl]; exact HL.out.keep (HB1.out.alloc HB1.out.size _), HB1.out.alloc HB1.out.size _, fun x e => by cases e; exact .inl rfl⟩
end Go.Proofs.YtlmgojlffgkciaaGreat
