/-
  Plain functions on lists and numbers, out of which what the program answers is told: no statement of the program stands here.
  What a call leaves as it was, cell by cell; no statement of the program stands here.
  The texts that the laws mark memory with, by a walk of their Go text.
-/
import Derived.WalkKit
import Derived.Test.YtfblpbihpmhgjaaDoorProg
import Derived.WalkSpells
import Derived.WalkLawsBesides
import Derived.Lib.SlBytesRow
import Derived.Deep.LoopGhost
namespace Go.Proofs.YtfblpbihpmhgjaaDoor
open Go.RowKit

/-- A small letter. -/
def lowB (b : UInt8) : Bool := decide (97 ≤ b.toNat) && decide (b.toNat ≤ 122)
/-- An account. -/
def acctB (s : ByteArray) : Bool := decide (1 ≤ s.size) && (decide (s.size ≤ 4) && s.data.toList.all lowB)
/-- A leg: account, currency, number. -/
abbrev LegD := ByteArray × Int × Int
def legB (l : LegD) : Bool := acctB l.1 && (decide (1 ≤ l.2.1) && (decide (l.2.1 ≤ 3) && (decide (-1000 ≤ l.2.2) && (decide (l.2.2 ≤ 1000) && decide (l.2.2 ≠ 0)))))
def postB (id : Int) (L : List LegD) : Bool := decide (0 ≤ id) && (decide (id ≤ 99) && (decide (1 ≤ L.length) && (decide (L.length ≤ 4) && L.all legB)))

theorem take_snoc_b (s : ByteArray) (k : Nat) (h : k < s.size) : s.data.toList.take (k + 1) = s.data.toList.take k ++ [s[k]] := by
  rw [List.take_succ_eq_append_getElem (by simpa using h)]; rfl

theorem all_take_snoc (s : ByteArray) (k : Nat) (h : k < s.size) (ha : (s.data.toList.take k).all lowB = true) (hb : lowB s[k] = true) : (s.data.toList.take (k + 1)).all lowB = true := by
  rw [take_snoc_b s k h, List.all_append, ha]; simp [hb]

theorem all_false_of (s : ByteArray) (k : Nat) (h : k < s.size) (hb : lowB s[k] = false) : s.data.toList.all lowB = false := by
  rw [Bool.eq_false_iff]
  intro hall
  rw [List.all_eq_true] at hall
  have hm : s[k] ∈ s.data.toList := by
    have : s.data.toList[k]'(by simpa using h) = s[k] := rfl
    rw [← this]; exact List.getElem_mem _
  rw [hall _ hm] at hb
  cases hb

theorem acctB_false_of (s : ByteArray) (k : Nat) (h : k < s.size) (hb : lowB s[k] = false) : acctB s = false := by
  unfold acctB; rw [all_false_of s k h hb]; simp

theorem acctB_small (s : ByteArray) (h : s.size < 1) : acctB s = false := by
  unfold acctB; have : decide (1 ≤ s.size) = false := decide_eq_false (by omega)
  rw [this]; rfl
theorem acctB_big (s : ByteArray) (h : 4 < s.size) : acctB s = false := by
  unfold acctB; have : decide (s.size ≤ 4) = false := decide_eq_false (by omega)
  rw [this]; simp
theorem acctB_all (s : ByteArray) (h1 : 1 ≤ s.size) (h4 : s.size ≤ 4) (k : Nat) (hk : s.size ≤ k) (ha : (s.data.toList.take k).all lowB = true) : acctB s = true := by
  unfold acctB
  rw [List.take_of_length_le (by simpa using hk)] at ha
  simp [h1, h4, ha]
theorem acctB_of_all (s : ByteArray) (k : Nat) (hk : s.size ≤ k) (ha : (s.data.toList.take k).all lowB = true) : acctB s = (decide (1 ≤ s.size) && decide (s.size ≤ 4)) := by
  unfold acctB
  rw [List.take_of_length_le (by simpa using hk)] at ha
  simp [ha]

theorem lowB_true {b : UInt8} (h : lowB b = true) : 97 ≤ (b.toNat : Int) ∧ (b.toNat : Int) ≤ 122 ∧ b.toNat < 128 := by
  simp [lowB] at h; omega
theorem lowB_false {b : UInt8} (h : lowB b = false) : (b.toNat : Int) < 97 ∨ 122 < (b.toNat : Int) := by
  simp [lowB] at h
  by_cases h1 : 97 ≤ b.toNat
  · right; have := h h1; omega
  · left; omega

theorem sz_yes (n : Nat) (h : 1 ≤ (n : Int)) : decide ((n : Int) ≤ 4) = (decide (1 ≤ n) && decide (n ≤ 4)) := by
  have h1 : decide (1 ≤ n) = true := decide_eq_true (by omega)
  rw [h1, Bool.true_and, Bool.eq_iff_iff]; simp; omega
theorem sz_no (n : Nat) (h : (n : Int) < 1) : false = (decide (1 ≤ n) && decide (n ≤ 4)) := by
  have h1 : decide (1 ≤ n) = false := decide_eq_false (by omega)
  rw [h1]; rfl
theorem ret_bool {a b : Bool} (h : a = b) : Ending.returned (.bool a) = .returned (.bool b) := by rw [h]
theorem ret_int {k : IntKind} {a b : Int} (h : a = b) : Ending.returned (.int k a) = .returned (.int k b) := by rw [h]
theorem width_pos (s : ByteArray) (pos : Nat) (h : pos < s.size) : 1 ≤ (Utf8.decode s pos).2 := by
  by_cases ha : (s[pos]'h).toNat < 128
  · rw [decode_ascii s pos h ha]; exact Nat.le_refl _
  · exact (decode_high s pos h (by omega)).2
theorem below_iter (w : World) (s : ByteArray) (pos : Nat) : Below w.heap.size w (w.iter s pos) := (Below.refl _ _).alloc (Nat.le_refl _) _

end Go.Proofs.YtfblpbihpmhgjaaDoor

namespace Go.Proofs.YtfblpbihpmhgjaaDoor
open Go.RowKit

theorem bcell {W w1 : World} (hb : Below W.heap.size W w1) : (∀ b o, b < W.heap.size → w1.cell? ⟨b, o, none⟩ = W.cell? ⟨b, o, none⟩) ∧ (∀ b o, b < W.heap.size → w1.frozen? ⟨b, o, none⟩ = W.frozen? ⟨b, o, none⟩) :=
  ⟨fun b o h => hb.cell (p := ⟨b, o, none⟩) h, fun b o h => hb.frozen (p := ⟨b, o, none⟩) h⟩

end Go.Proofs.YtfblpbihpmhgjaaDoor

namespace Go.Proofs.YtfblpbihpmhgjaaDoor
open Go.RowKit

/-- The digits of a number ahead of others. -/
def digs : Nat → Nat → List UInt8 → List UInt8
  | 0, _, acc => acc
  | f + 1, p, acc => if p = 0 then acc else digs f (p / 10) (UInt8.ofNat (48 + p % 10) :: acc)
theorem digs_zero (f : Nat) (acc : List UInt8) : digs f 0 acc = acc := by cases f <;> simp [digs]
/-- The text that a number marks with. -/
def markT (k : Nat) : ByteArray := ⟨#[109]⟩ ++ ⟨(digs k k []).toArray⟩

set_option maxRecDepth 100000 in
set_option maxHeartbeats 1000000 in
theorem markText_any (k : Nat) (w : World) (h1 : 1 ≤ k) (h2 : k ≤ 1000000000) :
    Calls Tryd.prog 96 #[.int .i64 k] w fun e w' => e = .returned (.string (markT k)) ∧ Below w.heap.size w w' := by
  have h1' : ¬ (k : Int) ≤ 0 := by omega
  go_enter Tryd.func96, Tryd.ntmps96
  go_wp2
  go_loopw [0, 3] (fun pv ov wr => ∃ (f p : Nat) (o : ByteArray), pv = .int .i64 p ∧ ov = .string o ∧ p ≤ f ∧ o.size + p ≤ k ∧ digs f p o.data.toList = digs k k [] ∧ Below w.heap.size w wr) (fun pv _ _ => (intOf pv).toNat)
  case atStart => exact ⟨k, k, ⟨#[]⟩, rfl, rfl, Nat.le_refl _, by show 0 + k ≤ k; omega, rfl, Below.refl _ _⟩
  case round =>
    obtain ⟨f, p, o, rfl, rfl, hpf, hok, hd, hb⟩ := hrel
    have HD : Hid (digs f p o.data.toList = digs k k []) := hd
    clear hd
    by_cases hp : p = 0
    · subst hp
      have hm : markT k = ⟨#[109]⟩ ++ o := by
        unfold markT
        rw [← HD.out, digs_zero]
      have HM : Hid (markT k = ⟨#[109]⟩ ++ o) := hm
      clear hm
      have ho : o.size ≤ 1000000000 := by omega
      go_wp2
      go_ret
      exact ⟨by rw [HM.out]; rfl, hb⟩
    · have hp0 : (0 : Int) < (p : Int) := by omega
      have ho : o.size ≤ 1000000000 := by omega
      have hpk : (p : Int) ≤ 1000000000 := by omega
      obtain ⟨f', rfl⟩ : ∃ f', f = f' + 1 := ⟨f - 1, by omega⟩
      obtain ⟨c, hc⟩ : ∃ c : UInt8, c = UInt8.ofNat (48 + p % 10) := ⟨_, rfl⟩
      have hcn : (c.toNat : Int) = 48 + (p : Int) % 10 := by rw [hc]; simp; omega
      have hcv : ∀ w : World, (convert 49 9 (.slice (some ⟨w.heap.size, 0, none⟩) 1 1)).run Tryd.prog (w.alloc (.cells #[.int .u8 (48 + (p : Int) % 10)] 5)) = .ok (.string ⟨#[c]⟩) (w.alloc (.cells #[.int .u8 (48 + (p : Int) % 10)] 5)) := by
        intro w
        exact Lib.run_convert_whole _ 49 5 9 Tryd.underlying49 Tryd.underlying5 Tryd.underlying9 w.heap.size 0 ⟨#[c]⟩ (fun i hi => by
          have hi0 : i = 0 := by
            have : i < 1 := hi
            omega
          subst hi0
          show _ = some (Value.int .u8 (c.toNat : Int))
          rw [hcn]
          simp) 1
      have HN : Hid (digs f' (p / 10) ((⟨#[c]⟩ ++ o : ByteArray)).data.toList = digs k k []) := by
        show digs f' (p / 10) ((⟨#[c]⟩ ++ o : ByteArray)).data.toList = digs k k []
        rw [← HD.out]
        simp [digs, hp, hc]
      have hsz : (⟨#[c]⟩ ++ o : ByteArray).size = 1 + o.size := by rw [ByteArray.size_append]; rfl
      have HSZ : Hid ((⟨#[c]⟩ ++ o : ByteArray).size + p / 10 ≤ k) := by show (⟨#[c]⟩ ++ o : ByteArray).size + p / 10 ≤ k; rw [hsz]; omega
      clear hc hcn hsz
      go_wp2
      go_roundw
      case rel => exact ⟨f', p / 10, ⟨#[c]⟩ ++ o, by go_num, rfl, by omega, HSZ.out, HN.out, hb.alloc hb.size _⟩
      case measure => simp [intOf]; omega
end Go.Proofs.YtfblpbihpmhgjaaDoor
