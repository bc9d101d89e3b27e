/-
  What the program's placeIn and RunFind answer at every run, by walks of their Go text.
-/
import Derived.Test.YtkhnknpacdmikaaFindS
import Derived.Test.YtkhnknpacdmikaaSearch
import Derived.Test.YtkhnknpacdmikaaCloneE
namespace Go.Proofs.Ytkhnknpacdmikaa
open Go.RowKit

theorem EntsAt.sub {w : World} {b off len cap i j : Nat} {L : List EntD} (h : EntsAt w (some ⟨b, off, none⟩) len cap L) (hij : i ≤ j) (hj : j ≤ len) : EntsAt w (some ⟨b, off + i * 5, none⟩) (j - i) (cap - i) ((L.drop i).take (j - i)) where
  length := by have := h.length; simp; omega
  room := by have := h.room; omega
  big := by have := h.big; omega
  ents := fun l hl => h.ents l (List.mem_of_mem_drop (List.mem_of_mem_take hl))
  nil := fun e => by cases e
  lies := fun x e hp => by cases e; exact h.lies ⟨b, off, none⟩ rfl (by omega)
  cells := fun x e k hk => by
    cases e
    have hk' : i + k < L.length := by simp at hk; omega
    have h1 := h.cells ⟨b, off, none⟩ rfl (i + k) hk'
    have e1 : off + (i + k) * 5 = off + i * 5 + k * 5 := by omega
    simp only [e1] at h1
    simpa using h1

/-- The place of a key and a time. -/
def PlaceR (L : List EntD) (key : ByteArray) (q : Int) (len : Nat) (w : World) (e : Ending) (w' : World) : Prop :=
  ∃ (i : Nat), e = .returned (.int .i64 (i : Int)) ∧ i ≤ len ∧ Parted L key q i i ∧ Below w.heap.size w w'

set_option maxRecDepth 100000 in
set_option maxHeartbeats 1000000 in
theorem implPlace (b off len cap : Nat) (L : List EntD) (key : ByteArray) (q : Int) (w : World) (hL : EntsAt w (some ⟨b, off, none⟩) len cap L) (hr : rightB L = true) (hlen : len ≤ 1048576) (hlen1 : 1 ≤ len) :
    Calls Try.prog 60 #[.slice (some ⟨b, off, none⟩) len cap, .string key, .int .i64 q] w (PlaceR L key q len w) := by
  go_enter Try.func60, Try.ntmps60
  go_wp2_with fail
  refine (searchF b off len cap L key _ q _ _ w hL hr hlen hlen1).mono ?_
  rintro e w1 ⟨i, B, rfl, hi, hP, hb1⟩
  have HP : Hid (Parted L key q i i) := hP
  clear hP hL
  go_wp2
  go_ret
  exact ⟨i, rfl, hi, HP.out, hb1⟩

/-- A list of the call's own, or the nil list. -/
def FoundV (F : List EntD) (w : World) (e : Ending) (w' : World) : Prop :=
  ((e = .returned (.slice none 0 0) ∧ F = []) ∨ ∃ g n c, e = .returned (.slice (some ⟨g, 0, none⟩) n c) ∧ OwnE w' w.heap.size g n c F) ∧ Below w.heap.size w w'
theorem entB_sizes {k t : ByteArray} {q d n : Int} (h : entB k q d t n = true) : k.size ≤ 281474976710656 ∧ t.size ≤ 281474976710656 := by
  simp [entB, keyB] at h
  omega
theorem right_sizes {L : List EntD} (h : rightB L = true) (i k : Nat) : ∀ e ∈ (L.drop i).take k, e.1.size ≤ 281474976710656 ∧ e.2.2.2.1.size ≤ 281474976710656 := by
  intro e he
  obtain ⟨p, hp, rfl⟩ := List.getElem_of_mem (List.mem_of_mem_drop (List.mem_of_mem_take he))
  exact entB_sizes (right_ent h (List.getElem?_eq_getElem hp))

set_option maxRecDepth 100000 in
set_option maxHeartbeats 1000000 in
theorem implFind (a : Option Addr) (len cap : Nat) (L : List EntD) (m : Int) (key : ByteArray) (seq : Int) (w : World) (hL : EntsAt w a len cap L) (hlen : len ≤ 1048576) :
    Calls Try.prog 19 #[.agg #[.slice a len cap, .int .i64 m], .string key, .int .i64 seq] w (FoundV (foundL L m key seq) w) := by
  obtain ⟨F, hF0⟩ : ∃ F, F = foundL L m key seq := ⟨_, rfl⟩
  rw [← hF0]
  have kA : Below w.heap.size w (w.alloc (.cells #[.slice a len cap, .int .i64 m] 26)) := (Below.refl _ _).alloc (Nat.le_refl _) _
  have HLEN : Hid (L.length = len) := hL.length
  have hbl := hL.room
  have hbc := hL.big
  unfold maxLen at hbc
  go_enter Try.func19, Try.ntmps19
  go_wp2_with fail
  refine (implRunOk _ _ _ L _ _ (hL.keep kA)).mono ?_
  rintro e w1 ⟨rfl, hb1⟩
  have x0 : w1.cell? ⟨w.heap.size, 0, none⟩ = some (.slice a len cap) := cell_later hb1 (by simp)
  have hB1 : Below w.heap.size w w1 := kA.trans (hb1.mono (by simp))
  clear hb1 kA
  cases hr : runB L m with
  | false =>
    have HF0 : Hid (F = []) := by rw [hF0]; exact found_no hr
    clear hL hF0 hr
    go_wp2
    go_ret
    exact ⟨Or.inl ⟨rfl, HF0.out⟩, hB1⟩
  | true =>
    obtain ⟨p1, p2, p3, p4⟩ := runB_parts hr
    have h1 : 1 ≤ len := by have := HLEN.out; omega
    obtain ⟨b, off, rfl, hbb⟩ := hL.form h1
    have HL : Hid (EntsAt w (some ⟨b, off, none⟩) len cap L) := hL
    have HR3 : Hid (rightB L = true) := p3
    have HF0 : Hid (F = findL L key seq) := by rw [hF0]; exact found_yes hr
    clear hL p1 p2 p3 p4 hr hF0
    go_wp2_with fail
    refine (implPlace b off len cap L key seq _ (HL.out.keep hB1) HR3.out hlen h1).mono ?_
    rintro e w2 ⟨i, rfl, hi, hPi, hb2⟩
    have y0 := cell_later hb2 x0
    have hB2 := hB1.trans (hb2.mono hB1.size)
    have HPi : Hid (Parted L key seq i i) := hPi
    clear hb2 hPi x0 hB1
    go_wp2_with fail
    refine (implPlace b off len cap L key 0 _ (HL.out.keep hB2) HR3.out hlen h1).mono ?_
    rintro e w3 ⟨j, rfl, hj, hPj, hb3⟩
    have z0 := cell_later hb3 y0
    have hB3 := hB2.trans (hb3.mono hB2.size)
    have hF := find_stretch HR3.out (L := L) (key := key) (seq := seq) (i := i) (j := j) (by rw [HLEN.out]; exact hi) (by rw [HLEN.out]; exact hj) HPi.out.1 HPi.out.2 hPj.1 hPj.2
    obtain ⟨hij, hF⟩ := hF
    have HF : Hid (findL L key seq = (L.drop i).take (j - i)) := hF
    clear hb3 hPj y0 hB2 hF HPi
    have hsz := right_sizes HR3.out i (j - i)
    have HSZ : Hid (∀ e ∈ (L.drop i).take (j - i), e.1.size ≤ 281474976710656 ∧ e.2.2.2.1.size ≤ 281474976710656) := hsz
    clear hsz
    by_cases hci : cap = i
    · subst hci
      have hE : EntsAt w3 (some ⟨b, off, none⟩) (j - cap) 0 ((L.drop cap).take (j - cap)) := by
        have hj0 : j - cap = 0 := by omega
        rw [hj0]
        exact ⟨rfl, Nat.le_refl _, Nat.zero_le _, by simp, (fun e => by cases e), (fun x e hp => absurd hp (Nat.not_lt_zero _)), fun x e k hk => by simp at hk⟩
      have HE : Hid (EntsAt w3 (some ⟨b, off, none⟩) (j - cap) 0 ((L.drop cap).take (j - cap))) := hE
      clear hE
      go_wp2_with fail
      with_reducible refine (cloneE_any _ _ _ _ _ HE.out (by omega) HSZ.out).mono ?_
      rintro e w4 ⟨rfl, hO, hlt, hb4⟩
      have HO : Hid (OwnE w4 w3.heap.size w3.heap.size (j - cap) (j - cap) ((L.drop cap).take (j - cap))) := hO
      clear hO
      go_wp2
      go_ret
      exact ⟨Or.inr ⟨_, _, _, rfl, by rw [HF0.out, HF.out]; exact HO.out.mono hB3.size⟩, hB3.trans (hb4.mono hB3.size)⟩
    · have hE : EntsAt w3 (some ⟨b, off + i * 5, none⟩) (j - i) (cap - i) ((L.drop i).take (j - i)) := (HL.out.keep hB3).sub hij hj
      have HE : Hid (EntsAt w3 (some ⟨b, off + i * 5, none⟩) (j - i) (cap - i) ((L.drop i).take (j - i))) := hE
      clear hE
      go_wp2_with fail
      all_goals
        refine (cloneE_any _ _ _ _ _ HE.out (by omega) HSZ.out).mono ?_
        rintro e w4 ⟨rfl, hO, hlt, hb4⟩
        have HO : Hid (OwnE w4 w3.heap.size w3.heap.size (j - i) (j - i) ((L.drop i).take (j - i))) := hO
        clear hO
        go_wp2
        go_ret
        exact ⟨Or.inr ⟨_, _, _, rfl, by rw [HF0.out, HF.out]; exact HO.out.mono hB3.size⟩, hB3.trans (hb4.mono hB3.size)⟩
end Go.Proofs.Ytkhnknpacdmikaa
