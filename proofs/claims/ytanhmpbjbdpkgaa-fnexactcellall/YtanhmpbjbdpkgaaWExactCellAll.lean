/-
  The walk of the law FnExactCellAll: it answers true at every list of entries, every text and every number.
-/
import Derived.Test.YtanhmpbjbdpkgaaCellAJ
import Derived.Test.YtanhmpbjbdpkgaaCellAS
import Derived.Test.YtanhmpbjbdpkgaaEntsO
namespace Go.Proofs.Ytanhmpbjbdpkgaa
open Go.RowKit

set_option maxHeartbeats 400000 in
theorem eqCellA (b : Bool) (t : ByteArray) (n : Int) (w : World) :
    Calls Try.prog 22 #[.agg #[.bool b, .string t, .int .i64 n], .agg #[.bool b, .string t, .int .i64 n]] w fun e w' => e = .returned (.bool true) ∧ Below w.heap.size w w' := by
  have hb : (b != b) = false := by cases b <;> rfl
  go_enter Try.func22, Try.ntmps22
  go_wp2
  go_ret
  exact ⟨rfl, ((Below.refl _ _).alloc (Nat.le_refl _) _).alloc (by simp) _⟩
theorem toEntS_at (a : Option Addr) (len cap : Nat) (L : List EntD) (w : World) (hL : EntsAt w a len cap L) (hbig : len ≤ 1048576) :
    Calls Try.prog 12 #[.slice a len cap] w fun e w' => ∃ b, e = .returned (.slice (some ⟨b, 0, none⟩) len len) ∧ EntsAt w' (some ⟨b, 0, none⟩) len len L ∧ Below w.heap.size w w' := by
  refine (toEntS_own a len cap L w hL hbig).mono ?_
  rintro e w' ⟨rfl, h1, _, h2⟩
  exact ⟨_, rfl, h1.entsAt, h2⟩

set_option maxHeartbeats 400000 in
/-- As szEntS_any, with what it says of the texts. -/
theorem szEntS_txt (a : Option Addr) (len cap : Nat) (L : List EntD) (left : Int) (w : World) (hL : EntsAt w a len cap L) (h0 : 0 ≤ left) (h1 : left ≤ 1048576) :
    Calls Try.prog 10 #[.slice a len cap, .int .i64 left] w fun e w' => ∃ r : Int, e = .returned (.int .i64 r) ∧ (r = -1 ∨ (0 ≤ r ∧ r ≤ left ∧ (len : Int) ≤ left ∧ ∀ e ∈ L, e.2.2.2.1.size ≤ 281474976710656)) ∧ Below w.heap.size w w' := by
  have hbl := hL.room
  have hbc := hL.big
  unfold maxLen at hbc
  have HL : Hid (EntsAt w a len cap L) := hL
  have HLN : Hid (L.length = len) := hL.length
  clear hL
  by_cases hb : left < len
  · go_enter Try.func10, Try.ntmps10
    go_wp2
    go_ret
    exact ⟨-1, rfl, Or.inl rfl, Below.refl _ _⟩
  · go_enter Try.func10, Try.ntmps10
    go_wp2
    go_loopw [1, 5] (fun l i wr => ∃ (k : Nat) (r : Int), k ≤ len ∧ i = .int .i64 k ∧ l = .int .i64 r ∧ 0 ≤ r ∧ r ≤ left ∧ (∀ (j : Nat) (e : EntD), j < k → L[j]? = some e → e.2.2.2.1.size ≤ 281474976710656) ∧ Below w.heap.size w wr) (fun _ i _ => len - (intOf i).toNat)
    case atStart => exact ⟨0, left - len, Nat.zero_le _, rfl, rfl, by omega, by omega, fun j e hj => absurd hj (Nat.not_lt_zero j), Below.refl _ _⟩
    case round =>
      obtain ⟨k, r, hk, rfl, rfl, hr0, hr1, htx, hbw⟩ := hrel
      have HT : Hid (∀ (j : Nat) (e : EntD), j < k → L[j]? = some e → e.2.2.2.1.size ≤ 281474976710656) := htx
      clear htx
      by_cases hlt : k < len
      · obtain ⟨b, off, rfl, hbb⟩ := HL.out.form (by omega)
        obtain ⟨s, q, d, t, n, hg, hlw, g0, g1, g2, g3, g4⟩ := HL.out.ent hbw hbb k hlt
        have hs := hlw.1
        have ht := hlw.2.2.2.1
        simp only at hs ht
        have HG : Hid (L[k]? = some (s, q, d, t, n)) := hg
        clear hg hlw
        by_cases hsz : r < s.size + t.size
        · go_wp2_with (go_at_call 35; refine (szEnt_no _ _ _ _ _ _ _ hs ht hr0 (by omega) hsz).mono ?_; rintro e w1 ⟨rfl, hb1⟩)
          go_ret
          exact ⟨-1, rfl, Or.inl rfl, hbw.trans (hb1.mono hbw.size)⟩
        · go_wp2_with (go_at_call 35; refine (szEnt_yes _ _ _ _ _ _ _ (by omega) (by omega)).mono ?_; rintro e w1 ⟨rfl, hb1⟩)
          go_roundw
          case rel =>
            refine ⟨k + 1, r - s.size - t.size, by omega, by go_num, rfl, by omega, by omega, fun j e hj he => ?_, hbw.trans (hb1.mono hbw.size)⟩
            by_cases hjk : j = k
            · have := HG.out; rw [hjk, this] at he; cases he; show t.size ≤ _; omega
            · exact HT.out j e (by omega) he
          case measure => simp [intOf]; omega
      · go_wp2
        go_ret
        refine ⟨r, rfl, Or.inr ⟨hr0, hr1, by omega, fun e he => ?_⟩, hbw⟩
        obtain ⟨j, hj, rfl⟩ := List.getElem_of_mem he
        exact HT.out j _ (by have := HLN.out; omega) (List.getElem?_eq_getElem hj)

set_option maxRecDepth 100000 in
set_option maxHeartbeats 4000000 in
theorem walkFnExactCellAll (a : Option Addr) (len cap : Nat) (L : List EntD) (key : ByteArray) (seq : Int) (w : World) (h : EntsAt w a len cap L) (hs : key.size ≤ maxLen) (_hq : (Lit.int .i64 seq).wf = true) :
    Calls Try.prog 4 #[.slice a len cap, .string key, .int .i64 seq] w fun e w' => e = .returned (.bool true) ∧ Below w.heap.size w w' := by
  have HL : Hid (EntsAt w a len cap L) := h
  clear h
  have hs' := hs
  unfold maxLen at hs'
  obtain ⟨cb, ct, cn, hV⟩ : ∃ cb ct cn, cellV (cellL L key seq) = .agg #[.bool cb, .string ct, .int .i64 cn] := ⟨_, _, _, rfl⟩
  have CS : Hid (∀ (b : Nat) (w' : World), EntsAt w' (some ⟨b, 0, none⟩) len len L → len ≤ 1048576 → Calls Try.prog 20 #[.slice (some ⟨b, 0, none⟩) len len, .string key, .int .i64 seq] w' fun e w'' => e = .returned (.agg #[.bool cb, .string ct, .int .i64 cn]) ∧ Below w'.heap.size w' w'') := by rw [← hV]; exact fun b w' h1 h2 => specCellAll _ _ _ L key seq w' h1 h2
  have CI : Hid (∀ (b : Nat) (w' : World), EntsAt w' (some ⟨b, 0, none⟩) len len L → len ≤ 1048576 → (∀ e ∈ L, e.2.2.2.1.size ≤ 281474976710656) → Calls Try.prog 21 #[.slice (some ⟨b, 0, none⟩) len len, .string key, .int .i64 seq] w' fun e w'' => e = .returned (.agg #[.bool cb, .string ct, .int .i64 cn]) ∧ Below w'.heap.size w' w'') := by rw [← hV]; exact fun b w' h1 h2 h3 => implCellAll _ _ _ L key seq w' h1 h2 h3
  clear hV
  by_cases hbs : 1048576 < key.size
  · go_enter Try.func4, Try.ntmps4
    go_wp2
    go_ret
    exact ⟨rfl, Below.refl _ _⟩
  go_enter Try.func4, Try.ntmps4
  go_wp2_with fail
  refine (szEntS_txt _ _ _ L _ _ HL.out (by omega) (by omega)).mono ?_
  rintro e w1 ⟨r, rfl, hr, hb1⟩
  have HB1 : Hid (Below w.heap.size w w1) := hb1
  clear hb1
  rcases hr with rfl | ⟨hr0, hr1, hln, htx⟩
  · go_wp2
    go_ret
    exact ⟨rfl, HB1.out⟩
  have hlen : len ≤ 1048576 := by omega
  have HTX : Hid (∀ e ∈ L, e.2.2.2.1.size ≤ 281474976710656) := htx
  clear hr1 hln htx
  go_wp2_with fail
  refine (toEntS_at _ _ _ L _ (HL.out.keep HB1.out) hlen).mono ?_
  rintro e w2 ⟨b2, rfl, hO2, hb2⟩
  have HB2 : Hid (Below w.heap.size w w2) := HB1.out.trans (hb2.mono HB1.out.size)
  have HO2 : Hid (EntsAt w2 (some ⟨b2, 0, none⟩) len len L) := hO2
  clear hO2 hb2 HB1
  go_wp2_with fail
  refine (CS.out b2 _ HO2.out hlen).mono ?_
  rintro e w3 ⟨rfl, hb3⟩
  have HB3 : Hid (Below w.heap.size w w3) := HB2.out.trans (hb3.mono HB2.out.size)
  clear hb3 HO2 HB2
  obtain ⟨P, hP⟩ : ∃ P, P = w3.heap.size := ⟨_, rfl⟩
  obtain ⟨W3, hW3⟩ : ∃ W, W = w3.alloc (.cells #[.bool cb, .string ct, .int .i64 cn] 35) := ⟨_, rfl⟩
  have k3 : Below w3.heap.size w3 W3 := by rw [hW3]; exact (Below.refl _ _).alloc (Nat.le_refl _) _
  have p30 : W3.cell? ⟨P, 0, none⟩ = some (.bool cb) := by rw [hW3, hP]; simp
  have p31 : W3.cell? ⟨P, 1, none⟩ = some (.string ct) := by rw [hW3, hP]; simp
  have p32 : W3.cell? ⟨P, 2, none⟩ = some (.int .i64 cn) := by rw [hW3, hP]; simp
  have HB3' : Hid (Below w.heap.size w W3) := HB3.out.trans (k3.mono HB3.out.size)
  go_wp2_with fail
  rw [← hW3, ← hP]
  clear k3 hW3 hP HB3
  refine (toEntS_at _ _ _ L _ (HL.out.keep HB3'.out) hlen).mono ?_
  rintro e w4 ⟨bx, rfl, hO4, hb4⟩
  have p40 := cell_later hb4 p30
  have p41 := cell_later hb4 p31
  have p42 := cell_later hb4 p32
  have HB4 : Hid (Below w.heap.size w w4) := HB3'.out.trans (hb4.mono HB3'.out.size)
  have HO4 : Hid (EntsAt w4 (some ⟨bx, 0, none⟩) len len L) := hO4
  clear hO4 hb4 p30 p31 p32 HB3'
  go_wp2_with fail
  refine (CI.out bx _ HO4.out hlen HTX.out).mono ?_
  rintro e w5 ⟨rfl, hb5⟩
  have p50 := cell_later hb5 p40
  have p51 := cell_later hb5 p41
  have p52 := cell_later hb5 p42
  have HB5 : Hid (Below w.heap.size w w5) := HB4.out.trans (hb5.mono HB4.out.size)
  have HO5 : Hid (EntsAt w5 (some ⟨bx, 0, none⟩) len len L) := HO4.out.keep hb5
  clear hb5 p40 p41 p42 HB4 HO4
  obtain ⟨Q, hQ⟩ : ∃ Q, Q = w5.heap.size := ⟨_, rfl⟩
  obtain ⟨W5, hW5⟩ : ∃ W, W = w5.alloc (.cells #[.bool cb, .string ct, .int .i64 cn] 35) := ⟨_, rfl⟩
  have k5 : Below w5.heap.size w5 W5 := by rw [hW5]; exact (Below.refl _ _).alloc (Nat.le_refl _) _
  have HB5' : Hid (Below w.heap.size w W5) := HB5.out.trans (k5.mono HB5.out.size)
  have HO5' : Hid (EntsAt W5 (some ⟨bx, 0, none⟩) len len L) := HO5.out.keep k5
  have zP5 := World.block_lt_of_cell? _ _ p50
  simp only at zP5
  have nP5 : P ≠ w5.heap.size := Nat.ne_of_lt zP5
  go_wp2_with fail
  rw [← hW5]
  clear zP5 nP5 k5 hW5 hQ HB5 HO5 p50 p51 p52
  refine (eqCellA cb ct cn _).mono ?_
  rintro e w6 ⟨rfl, hb6⟩
  have HB6 : Hid (Below w.heap.size w w6) := HB5'.out.trans (hb6.mono HB5'.out.size)
  have HO6 : Hid (EntsAt w6 (some ⟨bx, 0, none⟩) len len L) := HO5'.out.keep hb6
  clear hb6 HB5' HO5'
  go_wp2_with fail
  refine (toEntS_at _ _ _ L _ (HL.out.keep HB6.out) hlen).mono ?_
  rintro e w7 ⟨b7, rfl, hO7, hb7⟩
  have HB7 : Hid (Below w.heap.size w w7) := HB6.out.trans (hb7.mono HB6.out.size)
  have HO7 : Hid (EntsAt w7 (some ⟨b7, 0, none⟩) len len L) := hO7
  have HX7 : Hid (EntsAt w7 (some ⟨bx, 0, none⟩) len len L) := HO6.out.keep hb7
  clear hO7 hb7 HB6 HO6
  go_wp2_with fail
  refine (eqEntS_same bx 0 b7 0 len len len L _ HX7.out HO7.out).mono ?_
  rintro e w8 ⟨rfl, hb8⟩
  have HB8 : Hid (Below w.heap.size w w8) := HB7.out.trans (hb8.mono HB7.out.size)
  clear HB7 hb8 HO7 HX7
  go_wp2
  go_ret
  exact ⟨rfl, HB8.out⟩
end Go.Proofs.Ytanhmpbjbdpkgaa
