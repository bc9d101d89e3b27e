/-
  What the program's PostRead answers at every text, by a walk of its Go text.
-/
import Derived.Test.YtcabinakcmpkeaaDoorScanI
import Derived.Test.YtcabinakcmpkeaaDoorTextI
namespace Go.Proofs.YtcabinakcmpkeaaDoor
open Go.RowKit Go.Shelf

/-- How reading ends: the posting of which this is the text, in rows of the call's own from block B on; or nothing, and there is none. -/
def ReadR (B : Nat) (t : ByteArray) (e : Ending) (w' : World) : Prop :=
  (∃ id L vL, e = .returned (.tuple #[.agg #[.int .i64 id, vL], .bool true]) ∧ postB id L = true ∧ t.data.toList = postT id L ∧ w'.ownsRow B 58 3 vL L.length (flat L)) ∨
  (e = .returned (.tuple #[.agg #[.int .i64 0, .slice none 0 0], .bool false]) ∧ ∀ id L, postB id L = true → t.data.toList ≠ postT id L)

theorem sc_legs (s : ScD) (h : ∀ l ∈ s.legs, LegW l) (hw : s.word.length ≤ 1048576) (ha : s.acct.size ≤ maxLen) (hc : (Lit.int .i64 s.cur).wf = true) : (∀ l ∈ (endP s).1.legs, LegW l) ∧ (endP s).1.acct.size ≤ maxLen ∧ (Lit.int .i64 (endP s).1.cur).wf = true := by
  have hb : ∀ v, Lib.atoiAll s.word = .ok v → (Lit.int .i64 v).wf = true := by
    intro v hv
    obtain ⟨h1, h2⟩ := Lib.atoiAll_bounds hv
    have e1 : IntKind.i64.min = -9223372036854775808 := by decide
    have e2 : IntKind.i64.max = 9223372036854775807 := by decide
    simp [Lit.wf]
    omega
  unfold endP
  split
  · exact ⟨h, by show (⟨s.word.toArray⟩ : ByteArray).size ≤ maxLen; rw [str_size]; unfold maxLen; omega, hc⟩
  · split
    · rename_i v hv
      split
      · exact ⟨h, ha, hc⟩
      · split
        · exact ⟨h, ha, hb v hv⟩
        · refine ⟨fun l hl => ?_, ha, hc⟩
          rcases List.mem_append.1 hl with h1 | h1
          · exact h l h1
          · simp only [List.mem_cons, List.not_mem_nil, or_false] at h1
            subst h1
            exact ⟨ha, hc, hb v hv⟩
    · exact ⟨h, ha, hc⟩
theorem scan_w : ∀ (l : List UInt8) (s : ScD), (∀ x ∈ s.legs, LegW x) → s.word.length + l.length ≤ 1048576 → s.acct.size ≤ maxLen → (Lit.int .i64 s.cur).wf = true →
    ((∀ x ∈ (scanP l s).legs, LegW x) ∧ (scanP l s).word.length ≤ 1048576 ∧ (scanP l s).acct.size ≤ maxLen ∧ (Lit.int .i64 (scanP l s).cur).wf = true)
  | [], s, h, hw, ha, hc => ⟨h, by show s.word.length ≤ 1048576; simpa using hw, ha, hc⟩
  | c :: r, s, h, hw, ha, hc => by
    simp only [List.length_cons] at hw
    have he := sc_legs s h (by omega) ha hc
    have hwd : (endP s).1.word = [] := by
      unfold endP
      split
      · rfl
      · split
        · split
          · rfl
          · split
            · rfl
            · rfl
        · rfl
    rw [scanP]
    split
    · split
      · exact scan_w r _ he.1 (by rw [hwd]; simp; omega) he.2.1 he.2.2
      · exact ⟨he.1, by rw [hwd]; simp, he.2.1, he.2.2⟩
    · split
      · exact scan_w r _ h (by simp; omega) ha hc
      · exact ⟨h, by omega, ha, hc⟩
theorem read_w (t : ByteArray) (ht : t.size ≤ 1048576) : ∀ x ∈ (readP t.data.toList).legs, LegW x := by
  have h := scan_w t.data.toList sc0 (by simp [sc0]) (by simp [sc0]; exact ht) (by simp [sc0, maxLen]) (by decide)
  exact (sc_legs _ h.1 h.2.1 h.2.2.1 h.2.2.2).1

theorem legs_of_own {w : World} {B : Nat} {a : Option Addr} {n c : Nat} {L : List LegD} (h : w.ownsRow B 58 3 (.slice a n c) n (flat L)) (hn : L.length = n) (hw : ∀ l ∈ L, LegW l) : LegsAt w a n c L := by
  rcases h.2 with ⟨hv, h0⟩ | ⟨g, cap, cur, hv, _⟩
  · cases hv
    have hL : L = [] := List.length_eq_zero_iff.1 hn
    subst hL
    exact { length := rfl, room := Nat.le_refl _, big := (by unfold maxLen; omega), legs := (fun l hl => by simp at hl), nil := fun _ => rfl, lies := (fun x e _ => by cases e), cells := (fun x e _ _ => by cases e) }
  · cases hv
    exact legsAt_of_row h hn hw (fun j l hl => flat_has L j l hl)
theorem bytes_ext {a b : ByteArray} (h : a.toList = b.toList) : a = b := by
  rw [ByteArray.toList_eq, ByteArray.toList_eq] at h
  exact ByteArray.ext (Array.toList_inj.1 h)
theorem read_same {t : ByteArray} {id : Int} {L : List LegD} (h : postB id L = true) (e : t.data.toList = postT id L) : (readP t.data.toList).id = id ∧ (readP t.data.toList).legs = L := by rw [e]; exact read_text h

set_option maxHeartbeats 4000000 in
set_option maxRecDepth 100000 in
theorem implRead (t : ByteArray) (w : World) (ht : t.size ≤ 1048576) (hE : ErrB w.heap.size w) (hP : EndsB w.heap.size w) (hT : Lib.TabBelow Tryd.prog w.heap.size w "internal/strconv.uint64pow10" .u64 Lib.pow10Tab) :
    Calls Tryd.prog 15 #[.string t] w fun e w' => ReadR w.heap.size t e w' ∧ Below w.heap.size w w' := by
  obtain ⟨W0, hW0⟩ : ∃ W0, W0 = w.alloc (.cells #[.int .i64 0, .slice none 0 0] 29) := ⟨_, rfl⟩
  have KW : Below w.heap.size w W0 := by rw [hW0]; exact (Below.refl _ _).alloc (Nat.le_refl _) _
  have hz0 : W0.heap.size = w.heap.size + 1 := by rw [hW0]; simp
  have r0 : W0.cell? ⟨w.heap.size, 0, none⟩ = some (.int .i64 0) := by rw [hW0]; simp
  have r1 : W0.cell? ⟨w.heap.size, 1, none⟩ = some (.slice none 0 0) := by rw [hW0]; simp
  have rf : ∀ o, W0.frozen? ⟨w.heap.size, o, none⟩ = false := by rw [hW0]; exact fun o => World.frozen?_alloc_new w _ _ o
  have CS := implScan t W0 ht (fun w' k => hE w' (KW.trans (k.mono KW.size))) (fun w' k => hP w' (KW.trans (k.mono KW.size)))
  have HT : Hid (Lib.TabBelow Tryd.prog w.heap.size w "internal/strconv.uint64pow10" .u64 Lib.pow10Tab) := hT
  have HKW : Hid (Below w.heap.size w W0) := KW
  have HW := read_w t ht
  have HNO := @read_same t
  obtain ⟨id, hid⟩ : ∃ id, id = (readP t.data.toList).id := ⟨_, rfl⟩
  obtain ⟨L, hL⟩ : ∃ L, L = (readP t.data.toList).legs := ⟨_, rfl⟩
  rw [← hid, ← hL] at CS
  rw [← hL] at HW
  have HN : Hid (∀ id' L', postB id' L' = true → t.data.toList = postT id' L' → id = id' ∧ L = L') := fun id' L' h e => by rw [hid, hL]; exact HNO h e
  have HLW : Hid (∀ l ∈ L, LegW l) := HW
  clear hid hL hT HNO KW hE hP HW
  go_enter Tryd.func15, Tryd.ntmps15
  go_wp2_with fail
  rw [← hW0]
  refine CS.mono ?_
  rintro e w1 ⟨vL, rfl, ho1, hb1⟩
  obtain ⟨n, hn⟩ : ∃ n, n = L.length := ⟨_, rfl⟩
  rw [← hn] at ho1
  obtain ⟨a, c, hv⟩ := own_form ho1
  subst hv
  have hL1 := legs_of_own ho1 hn.symm HLW.out
  obtain ⟨W2, hW2⟩ : ∃ W2, W2 = w1.alloc (.cells #[.int .i64 id, .slice a n c] 29) := ⟨_, rfl⟩
  obtain ⟨X, hX⟩ : ∃ X, X = w1.heap.size := ⟨_, rfl⟩
  have k2 : Below w1.heap.size w1 W2 := by rw [hW2]; exact (Below.refl _ _).alloc (Nat.le_refl _) _
  have hL2 := hL1.keep k2
  have x0 : W2.cell? ⟨X, 0, none⟩ = some (.int .i64 id) := by rw [hW2, hX]; simp
  have x1 : W2.cell? ⟨X, 1, none⟩ = some (.slice a n c) := by rw [hW2, hX]; simp
  have hb2 : Below W0.heap.size W0 W2 := hb1.trans (k2.mono hb1.size)
  have HB2 : Hid (Below W0.heap.size W0 W2) := hb2
  have HO2 : Hid (W2.ownsRow W0.heap.size 58 3 (.slice a n c) n (flat L)) := ownsRow_kb ho1 k2
  have s0 := cell_later hb2 r0
  have s1 := cell_later hb2 r1
  have sf : ∀ o, W2.frozen? ⟨w.heap.size, o, none⟩ = false := fun o => (hb2.frozen (p := ⟨w.heap.size, o, none⟩) (by show w.heap.size < _; omega)).trans (rf o)
  have sl : w.heap.size < W2.heap.size := World.block_lt_of_cell? _ _ s0
  have hwX : w.heap.size < X := by rw [hX]; have := hb1.size; omega
  have EN : Hid (n = L.length) := hn
  clear hW0 hn k2 hb1 ho1 hL1 r0 r1 rf CS hb2
  cases hp : postB id L with
  | false =>
    have CP : Hid (Calls Tryd.prog 29 #[.agg #[.int .i64 id, .slice a n c]] W2 fun e w' => e = .returned (.bool false) ∧ Below W2.heap.size W2 w') := by
      have := implPostOk id a n c L W2 hL2
      rw [hp] at this
      exact this
    go_wp2_with fail
    rw [← hW2]
    refine CP.out.mono ?_
    rintro e w3 ⟨rfl, hb3⟩
    have q0 := cell_later hb3 s0
    have q1 := cell_later hb3 s1
    have qf : ∀ o, w3.frozen? ⟨w.heap.size, o, none⟩ = false := fun o => (hb3.frozen (p := ⟨w.heap.size, o, none⟩) sl).trans (sf o)
    have qf0 := qf 0
    have qf1 := qf 1
    have ql : w.heap.size < w3.heap.size := World.block_lt_of_cell? _ _ q0
    have HB3 : Hid (Below w.heap.size w w3) := HKW.out.trans ((HB2.out.trans (hb3.mono HB2.out.size)).mono HKW.out.size)
    clear hb3 qf s0 s1 sf
    go_wp2
    refine bodyPost_ret (v := .tuple #[.agg #[.int .i64 0, .slice none 0 0], .bool false]) (by simp [results, Tryd.results15, go_sem, q0, q1]) rfl ⟨Or.inr ⟨rfl, fun id' L' h e => ?_⟩, (HB3.out.setCell (p := ⟨w.heap.size, 0, none⟩) (Nat.le_refl _) _).setCell (p := ⟨w.heap.size, 1, none⟩) (Nat.le_refl _) _⟩
    obtain ⟨e1, e2⟩ := HN.out id' L' h e
    subst e1 e2
    rw [hp] at h
    cases h
  | true =>
    have CP : Hid (Calls Tryd.prog 29 #[.agg #[.int .i64 id, .slice a n c]] W2 fun e w' => e = .returned (.bool true) ∧ Below W2.heap.size W2 w') := by
      have := implPostOk id a n c L W2 hL2
      rw [hp] at this
      exact this
    go_wp2_with fail
    rw [← hW2, ← hX]
    clear hX
    refine CP.out.mono ?_
    rintro e w4 ⟨rfl, hb4⟩
    have y0 := cell_later hb4 x0
    have y1 := cell_later hb4 x1
    have hL4 := hL2.keep hb4
    have CT := implText id a n c L w4 hL4 (HT.out w4 (HKW.out.trans ((HB2.out.trans (hb4.mono HB2.out.size)).mono HKW.out.size)))
    rw [textB_yes hp] at CT
    obtain ⟨u, hu⟩ : ∃ u : ByteArray, u = ⟨(postT id L).toArray⟩ := ⟨_, rfl⟩
    rw [← hu] at CT
    have EU : Hid (u = ⟨(postT id L).toArray⟩) := hu
    clear hu hW2
    go_wp2_with fail
    refine CT.mono ?_
    rintro e w3 ⟨rfl, hb43⟩
    have hb3 : Below W2.heap.size W2 w3 := hb4.trans (hb43.mono hb4.size)
    by_cases heq : u = t
    · have et : t.data.toList = postT id L := by rw [← heq, EU.out]
      have HET : Hid (t.data.toList = postT id L) := et
      have HO3 : Hid (w3.ownsRow W0.heap.size 58 3 (.slice a n c) n (flat L)) := ownsRow_kb HO2.out hb3
      have z0 := cell_later hb43 y0
      have z1 := cell_later hb43 y1
      have q0 := cell_later hb3 s0
      have q1 := cell_later hb3 s1
      have qf : ∀ o, w3.frozen? ⟨w.heap.size, o, none⟩ = false := fun o => (hb3.frozen (p := ⟨w.heap.size, o, none⟩) sl).trans (sf o)
      have qf0 := qf 0
      have qf1 := qf 1
      have ql : w.heap.size < w3.heap.size := World.block_lt_of_cell? _ _ q0
      have hXl : X < w3.heap.size := World.block_lt_of_cell? _ _ z0
      have HB3 : Hid (Below w.heap.size w w3) := HKW.out.trans ((HB2.out.trans (hb3.mono HB2.out.size)).mono HKW.out.size)
      subst heq
      clear hb3 hb43 hb4 qf s0 s1 sf CT et
      go_wp2
      refine bodyPost_ret (v := .tuple #[.agg #[.int .i64 id, .slice a n c], .bool true]) (by simp [results, Tryd.results15, go_sem, q0, q1]) rfl ⟨Or.inl ⟨id, L, _, rfl, hp, HET.out, ?_⟩, (HB3.out.setCell (p := ⟨w.heap.size, 0, none⟩) (Nat.le_refl _) _).setCell (p := ⟨w.heap.size, 1, none⟩) (Nat.le_refl _) _⟩
      have hne : (Value.slice a n c).ownBlock ≠ some w.heap.size := fun e => by have := (HO3.out.lt _ e).1; omega
      rw [← EN.out]
      exact own_set (own_set (row_mono HO3.out (by omega)) hne _) hne _
    · have hne1 : (u.toList == t.toList) = false := by
        rw [beq_eq_false_iff_ne]
        intro e
        exact heq (bytes_ext e)
      have hne2 : ¬ u = t := heq
      clear hb4 hb43 y0 y1 CT
      have q0 := cell_later hb3 s0
      have q1 := cell_later hb3 s1
      have qf : ∀ o, w3.frozen? ⟨w.heap.size, o, none⟩ = false := fun o => (hb3.frozen (p := ⟨w.heap.size, o, none⟩) sl).trans (sf o)
      have qf0 := qf 0
      have qf1 := qf 1
      have ql : w.heap.size < w3.heap.size := World.block_lt_of_cell? _ _ q0
      have HB3 : Hid (Below w.heap.size w w3) := HKW.out.trans ((HB2.out.trans (hb3.mono HB2.out.size)).mono HKW.out.size)
      clear hb3 qf s0 s1 sf
      go_wp2
      refine bodyPost_ret (v := .tuple #[.agg #[.int .i64 0, .slice none 0 0], .bool false]) (by simp [results, Tryd.results15, go_sem, q0, q1]) rfl ⟨Or.inr ⟨rfl, fun id' L' h e => ?_⟩, (HB3.out.setCell (p := ⟨w.heap.size, 0, none⟩) (Nat.le_refl _) _).setCell (p := ⟨w.heap.size, 1, none⟩) (Nat.le_refl _) _⟩
      obtain ⟨e1, e2⟩ := HN.out id' L' h e
      subst e1 e2
      apply heq
      rw [EU.out]
      apply ByteArray.ext
      apply Array.toList_inj.1
      rw [e]

end Go.Proofs.YtcabinakcmpkeaaDoor
