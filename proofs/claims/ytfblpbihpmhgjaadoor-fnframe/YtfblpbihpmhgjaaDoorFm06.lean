/-
  What the program's and the document's AcctOk answer at every text, by walks of their Go text.
  What the program's and the document's LegOk answer at every leg, by walks of their Go text.
  The laws' own helpers over one leg (its size, its copy), by walks of their Go text; and how a leg that came in is opened.
-/
import Derived.Test.YtfblpbihpmhgjaaDoorProg
import Derived.Test.YtfblpbihpmhgjaaDoorFm00
import Derived.WalkKit
import Derived.WalkSpells
import Derived.WalkLawsBesides
import Derived.Test.YtfblpbihpmhgjaaDoorFm04
import Derived.ProofKit
import Derived.Lib.SmallJoins
namespace Go.Proofs.YtfblpbihpmhgjaaDoor
open Go.RowKit

set_option maxHeartbeats 400000 in
theorem specAcct (s : ByteArray) (w : World) (hs : s.size ≤ maxLen) :
    Calls Tryd.prog 110 #[.string s] w fun e w' => e = .returned (.bool (acctB s)) ∧ w' = w := by
  unfold maxLen at hs
  go_enter Tryd.func110, Tryd.ntmps110
  go_wp2
  go_loop [3] (fun i => ∃ k : Nat, k ≤ s.size ∧ i = .int .i64 k ∧ (s.data.toList.take k).all lowB = true) (fun i => s.size - (intOf i).toNat)
  case atStart => exact ⟨0, Nat.zero_le _, rfl, rfl⟩
  case round =>
    obtain ⟨k, hk, rfl, hall⟩ := hrel
    have HA : Hid ((s.data.toList.take k).all lowB = true) := hall
    clear hall
    by_cases hlt : k < s.size
    · cases hb : lowB s[k] with
      | true =>
        have h3 := lowB_true hb
        obtain ⟨h31, h32, h33⟩ := h3
        have HB : Hid (lowB s[k] = true) := hb
        clear hb
        go_wp2
        go_round
        case rel => exact ⟨k + 1, by omega, by go_num, all_take_snoc s k hlt HA.out HB.out⟩
        case measure => simp [intOf]; omega
      | false =>
        have h3 := lowB_false hb
        have HB : Hid (lowB s[k] = false) := hb
        clear hb
        rcases h3 with h3 | h3
        · go_wp2
          go_ret
          exact ⟨ret_bool (acctB_false_of s k hlt HB.out).symm, rfl⟩
        · go_wp2
          go_ret
          exact ⟨ret_bool (acctB_false_of s k hlt HB.out).symm, rfl⟩
    · go_wp2
      all_goals
        go_ret
        refine ⟨ret_bool ?_, rfl⟩
        rw [acctB_of_all s k (by omega) HA.out]
        first | exact sz_yes _ (by omega) | exact sz_no _ (by omega)

set_option maxHeartbeats 400000 in
theorem isLetter_no (r : Int) (w : World) (h : r < 97 ∨ 122 < r) : Calls Tryd.prog 95 #[.int .i32 r] w fun e w' => e = .returned (.bool false) ∧ w' = w := by
  rcases h with h | h
  · go_enter Tryd.func95, Tryd.ntmps95
    go_wp2
    go_ret
    exact ⟨rfl, rfl⟩
  · have hd : decide (r ≤ 122) = false := decide_eq_false (by omega)
    go_enter Tryd.func95, Tryd.ntmps95
    go_wp2
    all_goals
      go_ret
      exact ⟨rfl, rfl⟩

set_option maxHeartbeats 400000 in
theorem implAcct (s : ByteArray) (w : World) (hs : s.size ≤ maxLen) :
    Calls Tryd.prog 109 #[.string s] w fun e w' => e = .returned (.bool (acctB s)) ∧ Below w.heap.size w w' := by
  unfold maxLen at hs
  by_cases h1 : s.size < 1
  · go_enter Tryd.func109, Tryd.ntmps109
    go_wp2
    go_ret
    exact ⟨ret_bool (acctB_small s h1).symm, Below.refl _ _⟩
  by_cases h4 : 4 < s.size
  · go_enter Tryd.func109, Tryd.ntmps109
    go_wp2
    go_ret
    exact ⟨ret_bool (acctB_big s h4).symm, Below.refl _ _⟩
  go_enter Tryd.func109, Tryd.ntmps109
  go_wp2
  go_loopw [4] (fun _ w' => ∃ pos : Nat, pos ≤ s.size ∧ w' = w.iter s pos ∧ (s.data.toList.take pos).all lowB = true) (fun _ w' => s.size - w'.iterPos w.heap.size)
  case atStart => exact ⟨0, Nat.zero_le _, rfl, rfl⟩
  case round =>
    obtain ⟨pos, hk, rfl, hall⟩ := hrel
    have HA : Hid ((s.data.toList.take pos).all lowB = true) := hall
    clear hall
    by_cases hlt : pos < s.size
    · cases hb : lowB s[pos] with
      | true =>
        have h3 := lowB_true hb
        obtain ⟨h31, h32, h33⟩ := h3
        have HB : Hid (lowB s[pos] = true) := hb
        clear hb
        have hnx : ∀ ty, (Instr.next (.pointer (some ⟨w.heap.size, 0, none⟩)) true ty).run Tryd.prog (w.iter s pos) = _ := fun ty => run_next_ascii w s pos ty hlt h33
        go_wp2
        go_roundw
        case rel => exact ⟨pos + 1, by omega, rfl, all_take_snoc s pos hlt HA.out HB.out⟩
        case measure => simp; omega
      | false =>
        have h3 := lowB_false hb
        have HB : Hid (lowB s[pos] = false) := hb
        clear hb
        by_cases ha : (s[pos]'hlt).toNat < 128
        · have hnx : ∀ ty, (Instr.next (.pointer (some ⟨w.heap.size, 0, none⟩)) true ty).run Tryd.prog (w.iter s pos) = _ := fun ty => run_next_ascii w s pos ty hlt ha
          go_wp2_with (go_at_call 95; refine (isLetter_no _ _ h3).mono ?_; rintro e w' ⟨rfl, rfl⟩)
          go_ret
          exact ⟨ret_bool (acctB_false_of s pos hlt HB.out).symm, below_iter _ _ _⟩
        · have hd := (decode_high s pos hlt (by omega)).1
          have h5 : ((Utf8.decode s pos).1 : Int) < 97 ∨ (122 : Int) < ((Utf8.decode s pos).1 : Int) := by omega
          have hnx : ∀ ty, (Instr.next (.pointer (some ⟨w.heap.size, 0, none⟩)) true ty).run Tryd.prog (w.iter s pos) = _ := fun ty => run_next_any w s pos ty hlt
          clear h3
          go_wp2_with (go_at_call 95; refine (isLetter_no _ _ h5).mono ?_; rintro e w' ⟨rfl, rfl⟩)
          go_ret
          exact ⟨ret_bool (acctB_false_of s pos hlt HB.out).symm, below_iter _ _ _⟩
    · have hnx : ∀ ty, (Instr.next (.pointer (some ⟨w.heap.size, 0, none⟩)) true ty).run Tryd.prog (w.iter s pos) = _ := fun ty => run_next_end w s pos ty hlt
      go_wp2
      go_ret
      exact ⟨ret_bool (acctB_all s (by omega) (by omega) pos (by omega) HA.out).symm, below_iter _ _ _⟩

end Go.Proofs.YtfblpbihpmhgjaaDoor

namespace Go.Proofs.YtfblpbihpmhgjaaDoor
open Go.RowKit

theorem legB_acct {s : ByteArray} {c n : Int} (h : acctB s = false) : legB (s, c, n) = false := by simp [legB, h]
theorem legB_c1 {s : ByteArray} {c n : Int} (h : c < 1) : legB (s, c, n) = false := by
  have : decide (1 ≤ c) = false := decide_eq_false (by omega)
  simp [legB, this]
theorem legB_c3 {s : ByteArray} {c n : Int} (h : 3 < c) : legB (s, c, n) = false := by
  have : decide (c ≤ 3) = false := decide_eq_false (by omega)
  simp [legB, this]
theorem legB_n0 {s : ByteArray} {c n : Int} (h : n < -1000) : legB (s, c, n) = false := by
  have : decide (-1000 ≤ n) = false := decide_eq_false (by omega)
  simp [legB, this]
theorem legB_n1 {s : ByteArray} {c n : Int} (h : 1000 < n) : legB (s, c, n) = false := by
  have : decide (n ≤ 1000) = false := decide_eq_false (by omega)
  simp [legB, this]
theorem legB_z {s : ByteArray} {c : Int} : legB (s, c, 0) = false := by simp [legB]
theorem legB_yes {s : ByteArray} {c n : Int} (h : acctB s = true) (h1 : 1 ≤ c) (h2 : c ≤ 3) (h3 : -1000 ≤ n) (h4 : n ≤ 1000) (h5 : n ≠ 0) : legB (s, c, n) = true := by simp [legB, h, h1, h2, h3, h4, h5]

set_option maxHeartbeats 400000 in
theorem specLeg (s : ByteArray) (c n : Int) (w : World) (hs : s.size ≤ maxLen) :
    Calls Tryd.prog 74 #[.agg #[.string s, .int .i64 c, .int .i64 n]] w fun e w' => e = .returned (.bool (legB (s, c, n))) ∧ Below w.heap.size w w' := by
  cases ha : acctB s with
  | false =>
    go_enter Tryd.func74, Tryd.ntmps74
    go_wp2_with (go_at_call 110; refine (specAcct _ _ hs).mono ?_; rintro e w' ⟨rfl, rfl⟩)
    go_ret
    exact ⟨ret_bool (legB_acct ha).symm, (Below.refl _ _).alloc (Nat.le_refl _) _⟩
  | true =>
    by_cases h1 : c < 1
    · go_enter Tryd.func74, Tryd.ntmps74
      go_wp2_with (go_at_call 110; refine (specAcct _ _ hs).mono ?_; rintro e w' ⟨rfl, rfl⟩)
      go_ret
      exact ⟨ret_bool (legB_c1 h1).symm, (Below.refl _ _).alloc (Nat.le_refl _) _⟩
    by_cases h2 : 3 < c
    · go_enter Tryd.func74, Tryd.ntmps74
      go_wp2_with (go_at_call 110; refine (specAcct _ _ hs).mono ?_; rintro e w' ⟨rfl, rfl⟩)
      go_ret
      exact ⟨ret_bool (legB_c3 h2).symm, (Below.refl _ _).alloc (Nat.le_refl _) _⟩
    by_cases h3 : n < -1000
    · go_enter Tryd.func74, Tryd.ntmps74
      go_wp2_with (go_at_call 110; refine (specAcct _ _ hs).mono ?_; rintro e w' ⟨rfl, rfl⟩)
      go_ret
      exact ⟨ret_bool (legB_n0 h3).symm, (Below.refl _ _).alloc (Nat.le_refl _) _⟩
    by_cases h4 : 1000 < n
    · go_enter Tryd.func74, Tryd.ntmps74
      go_wp2_with (go_at_call 110; refine (specAcct _ _ hs).mono ?_; rintro e w' ⟨rfl, rfl⟩)
      go_ret
      exact ⟨ret_bool (legB_n1 h4).symm, (Below.refl _ _).alloc (Nat.le_refl _) _⟩
    by_cases h5 : n = 0
    · subst h5
      go_enter Tryd.func74, Tryd.ntmps74
      go_wp2_with (go_at_call 110; refine (specAcct _ _ hs).mono ?_; rintro e w' ⟨rfl, rfl⟩)
      go_ret
      exact ⟨ret_bool legB_z.symm, (Below.refl _ _).alloc (Nat.le_refl _) _⟩
    · have h6 : (n != 0) = true := by simpa using h5
      go_enter Tryd.func74, Tryd.ntmps74
      go_wp2_with (go_at_call 110; refine (specAcct _ _ hs).mono ?_; rintro e w' ⟨rfl, rfl⟩)
      go_ret
      exact ⟨ret_bool (legB_yes ha (by omega) (by omega) (by omega) (by omega) h5).symm, (Below.refl _ _).alloc (Nat.le_refl _) _⟩

set_option maxHeartbeats 400000 in
theorem implLeg (s : ByteArray) (c n : Int) (w : World) (hs : s.size ≤ maxLen) :
    Calls Tryd.prog 73 #[.agg #[.string s, .int .i64 c, .int .i64 n]] w fun e w' => e = .returned (.bool (legB (s, c, n))) ∧ Below w.heap.size w w' := by
  cases ha : acctB s with
  | false =>
    go_enter Tryd.func73, Tryd.ntmps73
    go_wp2_with (go_at_call 109; refine (implAcct _ _ hs).mono ?_; rintro e w1 ⟨rfl, hb⟩; obtain ⟨hc, hf⟩ := bcell hb)
    go_ret
    exact ⟨ret_bool (legB_acct ha).symm, ((Below.refl _ _).alloc (Nat.le_refl _) _).trans (hb.mono (by simp))⟩
  | true =>
    by_cases h1 : c < 1
    · go_enter Tryd.func73, Tryd.ntmps73
      go_wp2_with (go_at_call 109; refine (implAcct _ _ hs).mono ?_; rintro e w1 ⟨rfl, hb⟩; obtain ⟨hc, hf⟩ := bcell hb)
      go_ret
      exact ⟨ret_bool (legB_c1 h1).symm, ((Below.refl _ _).alloc (Nat.le_refl _) _).trans (hb.mono (by simp))⟩
    by_cases h2 : 3 < c
    · go_enter Tryd.func73, Tryd.ntmps73
      go_wp2_with (go_at_call 109; refine (implAcct _ _ hs).mono ?_; rintro e w1 ⟨rfl, hb⟩; obtain ⟨hc, hf⟩ := bcell hb)
      go_ret
      exact ⟨ret_bool (legB_c3 h2).symm, ((Below.refl _ _).alloc (Nat.le_refl _) _).trans (hb.mono (by simp))⟩
    by_cases h3 : n < -1000
    · go_enter Tryd.func73, Tryd.ntmps73
      go_wp2_with (go_at_call 109; refine (implAcct _ _ hs).mono ?_; rintro e w1 ⟨rfl, hb⟩; obtain ⟨hc, hf⟩ := bcell hb)
      go_ret
      exact ⟨ret_bool (legB_n0 h3).symm, ((Below.refl _ _).alloc (Nat.le_refl _) _).trans (hb.mono (by simp))⟩
    by_cases h4 : 1000 < n
    · go_enter Tryd.func73, Tryd.ntmps73
      go_wp2_with (go_at_call 109; refine (implAcct _ _ hs).mono ?_; rintro e w1 ⟨rfl, hb⟩; obtain ⟨hc, hf⟩ := bcell hb)
      go_ret
      exact ⟨ret_bool (legB_n1 h4).symm, ((Below.refl _ _).alloc (Nat.le_refl _) _).trans (hb.mono (by simp))⟩
    by_cases h5 : n = 0
    · subst h5
      go_enter Tryd.func73, Tryd.ntmps73
      go_wp2_with (go_at_call 109; refine (implAcct _ _ hs).mono ?_; rintro e w1 ⟨rfl, hb⟩; obtain ⟨hc, hf⟩ := bcell hb)
      go_ret
      exact ⟨ret_bool legB_z.symm, ((Below.refl _ _).alloc (Nat.le_refl _) _).trans (hb.mono (by simp))⟩
    · have h6 : (n != 0) = true := by simpa using h5
      go_enter Tryd.func73, Tryd.ntmps73
      go_wp2_with (go_at_call 109; refine (implAcct _ _ hs).mono ?_; rintro e w1 ⟨rfl, hb⟩; obtain ⟨hc, hf⟩ := bcell hb)
      go_ret
      exact ⟨ret_bool (legB_yes ha (by omega) (by omega) (by omega) (by omega) h5).symm, ((Below.refl _ _).alloc (Nat.le_refl _) _).trans (hb.mono (by simp))⟩

end Go.Proofs.YtfblpbihpmhgjaaDoor

namespace Go.Proofs.YtfblpbihpmhgjaaDoor
open Go.RowKit Go.Joins Go.ChangeShapes Go.WideShapes

theorem Tryd.cellsLegL : Tryd.prog.cellsOf 125 = 3 := by kernel_rfl

/-- A leg that the program's int kinds can hold. -/
def LegW (l : LegD) : Prop := l.1.size ≤ maxLen ∧ (Lit.int .i64 l.2.1).wf = true ∧ (Lit.int .i64 l.2.2).wf = true

set_option maxRecDepth 100000 in
theorem open_leg {H : Type} {enc : TypeId × Value → H} {W : World} {b0 base : Nat} {spare : Nat → Bool} {held : Bool} {v : Value} {d : DataW H} {p : List MemPlace}
    (hv : Value.okWide Tryd.prog W .any b0 125 v) (h : DataW.Trod enc Tryd.prog W base spare held 125 v d p) :
    ∃ l : LegD, v = .agg #[.string l.1, .int .i64 l.2.1, .int .i64 l.2.2] ∧ LegW l := by
  obtain ⟨c0, c1, c2, y0, y1, y2, m, rfl, _, _, hy0, hy1, hy2⟩ := open_agg3 Tryd.underlying125 (by kernel_rfl) Tryd.cellsLegL hv h
  obtain ⟨s, e0, _, ws⟩ := DataW.trod_string Tryd.underlying9 hy0
  obtain ⟨c, e1, _, wc⟩ := DataW.trod_int Tryd.underlying3 hy1
  obtain ⟨n, e2, _, wn⟩ := DataW.trod_int Tryd.underlying3 hy2
  simp at e0 e1 e2
  subst e0 e1 e2
  exact ⟨(s, c, n), rfl, ws, wc, wn⟩

set_option maxHeartbeats 400000 in
theorem szLeg_no (s : ByteArray) (c n left : Int) (w : World) (hs : s.size ≤ maxLen) (h0 : 0 ≤ left) (h1 : left ≤ 1048576) (h : left < s.size) :
    Calls Tryd.prog 90 #[.agg #[.string s, .int .i64 c, .int .i64 n], .int .i64 left] w fun e w' => e = .returned (.int .i64 (-1)) ∧ Below w.heap.size w w' := by
  unfold maxLen at hs
  go_enter Tryd.func90, Tryd.ntmps90
  go_wp2
  go_ret
  exact ⟨rfl, (Below.refl _ _).alloc (Nat.le_refl _) _⟩

set_option maxHeartbeats 400000 in
theorem szLeg_yes (s : ByteArray) (c n left : Int) (w : World) (h0 : 0 ≤ left) (h1 : left ≤ 1048576) (h : (s.size : Int) ≤ left) :
    Calls Tryd.prog 90 #[.agg #[.string s, .int .i64 c, .int .i64 n], .int .i64 left] w fun e w' => e = .returned (.int .i64 (left - s.size)) ∧ Below w.heap.size w w' := by
  go_enter Tryd.func90, Tryd.ntmps90
  go_wp2
  go_ret
  exact ⟨rfl, (Below.refl _ _).alloc (Nat.le_refl _) _⟩

set_option maxHeartbeats 400000 in
theorem toLeg_any (s : ByteArray) (c n : Int) (w : World) :
    Calls Tryd.prog 91 #[.agg #[.string s, .int .i64 c, .int .i64 n]] w fun e w' => e = .returned (.agg #[.string s, .int .i64 c, .int .i64 n]) ∧ Below w.heap.size w w' := by
  go_enter Tryd.func91, Tryd.ntmps91
  go_wp2
  refine bodyPost_ret (v := .agg #[.string s, .int .i64 c, .int .i64 n]) (by simp [results, Tryd.results91, go_sem]) rfl ⟨rfl, ?_⟩
  exact (((Below.refl _ _).alloc (Nat.le_refl _) _).alloc (by simp) _).alloc (by simp; omega) _

end Go.Proofs.YtfblpbihpmhgjaaDoor
