/-
  Plain functions: the legs of a currency that a posting yields.
  Plain lemmas: sums of legs by accounts, kept as a map; all of them together are the sum of all legs.
  Plain: when a posting is fair.
-/
import Derived.Test.YtfblpbihpmhgjaaDoorBp00
import Derived.Maps.Views
import Derived.Maps.OwnOps
namespace Go.Proofs.YtfblpbihpmhgjaaDoor

/-- A leg that is ok. -/
abbrev LegY := { l : LegD // legB l = true }
/-- The legs of a currency, those that are ok. -/
def selY (cur : Int) : List LegD → List LegY
  | [] => []
  | l :: r => if h : legB l = true ∧ l.2.1 = cur then ⟨l, h.1⟩ :: selY cur r else selY cur r

theorem selY_append (cur : Int) (A B : List LegD) : selY cur (A ++ B) = selY cur A ++ selY cur B := by
  induction A with
  | nil => rfl
  | cons l r ih =>
    simp only [List.cons_append, selY]
    split
    · simp [ih]
    · exact ih

theorem selY_take_yes {cur : Int} {L : List LegD} {k : Nat} {l : LegD} (hk : L[k]? = some l) (hl : legB l = true) (hc : l.2.1 = cur) : selY cur (L.take (k + 1)) = selY cur (L.take k) ++ [⟨l, hl⟩] := by
  rw [List.take_add_one, hk, selY_append]
  simp [selY, hl, hc]
theorem selY_take_no {cur : Int} {L : List LegD} {k : Nat} {l : LegD} (hk : L[k]? = some l) (hc : ¬ l.2.1 = cur) : selY cur (L.take (k + 1)) = selY cur (L.take k) := by
  rw [List.take_add_one, hk, selY_append]
  simp [selY, hc]
theorem selY_prefix (cur : Int) (L : List LegD) (k : Nat) : selY cur (L.take k) <+: selY cur L := by
  conv => rhs; rw [← List.take_append_drop k L, selY_append]
  exact List.prefix_append _ _
theorem selY_lt {cur : Int} {L : List LegD} {k : Nat} {l : LegD} (hk : L[k]? = some l) (hl : legB l = true) (hc : l.2.1 = cur) : (selY cur (L.take k)).length < (selY cur L).length := by
  have h1 := (selY_prefix cur L (k + 1)).length_le
  rw [selY_take_yes hk hl hc] at h1
  simp at h1
  omega
theorem selY_len (cur : Int) (L : List LegD) : (selY cur L).length ≤ L.length := by
  induction L with
  | nil => simp [selY]
  | cons l r ih =>
    simp only [selY]
    split <;> simp <;> omega

/-- What a posting yields of a currency. -/
def yieldsOf (id : Int) (L : List LegD) (cur : Int) : List LegY := if postB id L = true then selY cur L else []

theorem postB_legs {id : Int} {L : List LegD} (h : postB id L = true) : ∀ l ∈ L, legB l = true := by
  simp [postB] at h
  intro l hl
  exact h.2.2.2.2 l.1 l.2.1 l.2.2 hl
theorem postB_len {id : Int} {L : List LegD} (h : postB id L = true) : L.length ≤ 4 := by
  simp [postB] at h
  exact h.2.2.2.1
theorem yieldsOf_len (id : Int) (L : List LegD) (cur : Int) : (yieldsOf id L cur).length ≤ 4 := by
  unfold yieldsOf
  split
  · rename_i h
    exact Nat.le_trans (selY_len cur L) (postB_len h)
  · simp

end Go.Proofs.YtfblpbihpmhgjaaDoor

namespace Go.Proofs.YtfblpbihpmhgjaaDoor
open Go.Maps

/-- The bytes of a leg's account. -/
def keyY (y : LegY) : List UInt8 := y.1.1.data.toList
def numY (y : LegY) : Int := y.1.2.2
def totY (ys : List LegY) : Int := (ys.map numY).sum
def atY (ys : List LegY) (k : List UInt8) : Int := (ys.map (fun y => if keyY y = k then numY y else 0)).sum
def addK (ks : List (List UInt8)) (y : LegY) : List (List UInt8) := if keyY y ∈ ks then ks else ks ++ [keyY y]
def keysY (ys : List LegY) : List (List UInt8) := ys.foldl addK []

theorem numY_bd (y : LegY) : -1000 ≤ numY y ∧ numY y ≤ 1000 := by
  obtain ⟨l, h⟩ := y
  simp [legB] at h
  exact ⟨h.2.2.2.1, h.2.2.2.2.1⟩
theorem acct_size (y : LegY) : y.1.1.size ≤ 4 := by
  obtain ⟨l, h⟩ := y
  simp [legB, acctB] at h
  exact h.1.2.1

theorem totY_snoc (ys : List LegY) (y : LegY) : totY (ys ++ [y]) = totY ys + numY y := by simp [totY]
theorem atY_snoc (ys : List LegY) (y : LegY) (k : List UInt8) : atY (ys ++ [y]) k = atY ys k + if keyY y = k then numY y else 0 := by simp [atY]
theorem keysY_snoc (ys : List LegY) (y : LegY) : keysY (ys ++ [y]) = addK (keysY ys) y := by simp [keysY]
theorem mem_keysY_snoc (ys : List LegY) (y : LegY) (k : List UInt8) : k ∈ keysY (ys ++ [y]) ↔ k ∈ keysY ys ∨ k = keyY y := by
  rw [keysY_snoc]; unfold addK
  split
  · rename_i h
    exact ⟨Or.inl, fun h' => h'.elim id (fun e => e ▸ h)⟩
  · simp

theorem ys_ind {P : List LegY → Prop} (h0 : P []) (hs : ∀ ys y, P ys → P (ys ++ [y])) : ∀ ys, P ys := by
  intro ys
  have : ∀ r : List LegY, P r.reverse := by
    intro r
    induction r with
    | nil => exact h0
    | cons y r ih => rw [List.reverse_cons]; exact hs _ _ ih
  simpa using this ys.reverse

theorem nodup_keysY (ys : List LegY) : (keysY ys).Nodup := by
  induction ys using ys_ind with
  | h0 => simp [keysY]
  | hs ys y ih =>
    rw [keysY_snoc]; unfold addK
    split
    · exact ih
    · rename_i h
      rw [List.nodup_append]
      refine ⟨ih, by simp, ?_⟩
      intro a ha b hb
      simp at hb
      rintro rfl
      exact h (hb ▸ ha)

theorem atY_notin (ys : List LegY) (k : List UInt8) (h : k ∉ keysY ys) : atY ys k = 0 := by
  induction ys using ys_ind with
  | h0 => rfl
  | hs ys y ih =>
    rw [mem_keysY_snoc] at h
    rw [atY_snoc, ih (fun h' => h (Or.inl h')), if_neg (fun e => h (Or.inr e.symm))]
    rfl

theorem sum_congr_add {ks : List (List UInt8)} {f g : List UInt8 → Int} {k0 : List UInt8} {n : Int} (hn : ks.Nodup) (hk : k0 ∈ ks) (h : ∀ k, g k = f k + if k0 = k then n else 0) : (ks.map g).sum = (ks.map f).sum + n := by
  induction ks with
  | nil => cases hk
  | cons a r ih =>
    rw [List.nodup_cons] at hn
    simp only [List.map_cons, List.sum_cons]
    by_cases e : k0 = a
    · subst e
      have hr : r.map g = r.map f := List.map_congr_left (fun k hk' => by
        have hne : ¬ k0 = k := fun e => hn.1 (by rw [e]; exact hk')
        rw [h k, if_neg hne]; simp)
      rw [hr, h k0, if_pos rfl]; omega
    · have hk' : k0 ∈ r := by
        rcases List.mem_cons.1 hk with e' | h'
        · exact absurd e' e
        · exact h'
      rw [ih hn.2 hk', h a, if_neg e]; omega

theorem sum_keysY (ys : List LegY) : ((keysY ys).map (atY ys)).sum = totY ys := by
  induction ys using ys_ind with
  | h0 => rfl
  | hs ys y ih =>
    rw [keysY_snoc, totY_snoc, ← ih]
    unfold addK
    split
    · rename_i h
      exact sum_congr_add (nodup_keysY ys) h (fun k => atY_snoc ys y k)
    · rename_i h
      rw [List.map_append, List.sum_append]
      have hr : (keysY ys).map (atY (ys ++ [y])) = (keysY ys).map (atY ys) := List.map_congr_left (fun k hk' => by
        have hne : ¬ keyY y = k := fun e => h (by rw [e]; exact hk')
        rw [atY_snoc, if_neg hne]; simp)
      rw [hr]
      simp [atY_snoc, atY_notin ys _ h]

theorem atY_bd (ys : List LegY) (k : List UInt8) : -(1000 * (ys.length : Int)) ≤ atY ys k ∧ atY ys k ≤ 1000 * (ys.length : Int) := by
  induction ys using ys_ind with
  | h0 => simp [atY]
  | hs ys y ih =>
    have := numY_bd y
    rw [atY_snoc, List.length_append]
    simp only [List.length_cons, List.length_nil, Int.natCast_add]
    split <;> omega
theorem keysY_len (ys : List LegY) : (keysY ys).length ≤ ys.length := by
  induction ys using ys_ind with
  | h0 => simp [keysY]
  | hs ys y ih =>
    rw [keysY_snoc, List.length_append]; unfold addK
    split <;> simp <;> omega

/-- The map D holds the sums of the legs ys, by accounts. -/
structure MapIs (D : DataW Unit) (ys : List LegY) : Prop where
  isMap : IsMap D
  has : ∀ kl, Maps.has D kl = true ↔ ∃ k, k ∈ keysY ys ∧ kl = .string k
  val : ∀ k, k ∈ keysY ys → ∀ z, D.atKey (.string k) z = .lit (.int .i64 (atY ys k))

theorem mapIs_nil : MapIs (.map []) [] := ⟨isMap_empty, fun kl => by simp [Maps.has, keysY], fun k h => by simp [keysY] at h⟩

theorem MapIs.at {D : DataW Unit} {ys : List LegY} (h : MapIs D ys) (k : List UInt8) : D.atKey (.string k) (.lit (.int .i64 0)) = .lit (.int .i64 (atY ys k)) := by
  by_cases hk : k ∈ keysY ys
  · exact h.val k hk _
  · have : Maps.has D (.string k) = false := by
      rw [Bool.eq_false_iff]
      intro h'
      obtain ⟨k', h1, h2⟩ := (h.has _).1 h'
      cases h2
      exact hk h1
    rw [atKey_of_not_has this, atY_notin ys k hk]

theorem MapIs.snoc {D : DataW Unit} {ys : List LegY} (h : MapIs D ys) (y : LegY) : MapIs (D.put (.string (keyY y)) (.lit (.int .i64 (atY ys (keyY y) + numY y)))) (ys ++ [y]) := by
  refine ⟨h.isMap.put _ _, fun kl => ?_, fun k hk z => ?_⟩
  · by_cases e : kl = .string (keyY y)
    · subst e
      rw [has_put_same (k := .string (keyY y)) h.isMap trivial]
      simp only [true_iff]
      exact ⟨_, (mem_keysY_snoc _ _ _).2 (Or.inr rfl), rfl⟩
    · rw [has_put_other e, h.has]
      constructor
      · rintro ⟨k, hk, rfl⟩
        exact ⟨k, (mem_keysY_snoc _ _ _).2 (Or.inl hk), rfl⟩
      · rintro ⟨k, hk, rfl⟩
        rcases (mem_keysY_snoc _ _ _).1 hk with h1 | h1
        · exact ⟨k, h1, rfl⟩
        · exact absurd (by rw [h1]) e
  · by_cases e : k = keyY y
    · subst e
      rw [atKey_put_same (k := .string (keyY y)) h.isMap trivial, atY_snoc, if_pos rfl]
    · rw [atKey_put_other (fun e' => e (by cases e'; rfl))]
      rcases (mem_keysY_snoc _ _ _).1 hk with h1 | h1
      · rw [h.val k h1, atY_snoc, if_neg (fun e' => e e'.symm), Int.add_zero]
      · exact absurd h1 e

theorem sum_erase {ks : List (List UInt8)} {k : List UInt8} (f : List UInt8 → Int) (h : k ∈ ks) : (ks.map f).sum = f k + ((ks.erase k).map f).sum := by
  induction ks with
  | nil => cases h
  | cons a r ih =>
    by_cases e : a = k
    · subst e
      simp
    · have hk' : k ∈ r := by
        rcases List.mem_cons.1 h with e' | h'
        · exact absurd e'.symm e
        · exact h'
      rw [List.erase_cons_tail (by simpa using e)]
      simp only [List.map_cons, List.sum_cons]
      rw [ih hk']; omega
theorem sum_bd (ys : List LegY) (hy : ys.length ≤ 4) (ks : List (List UInt8)) : -(4000 * (ks.length : Int)) ≤ (ks.map (atY ys)).sum ∧ (ks.map (atY ys)).sum ≤ 4000 * (ks.length : Int) := by
  induction ks with
  | nil => simp
  | cons a r ih =>
    have := atY_bd ys a
    simp only [List.map_cons, List.sum_cons, List.length_cons, Int.natCast_add]
    omega

end Go.Proofs.YtfblpbihpmhgjaaDoor

namespace Go.Proofs.YtfblpbihpmhgjaaDoor

def fairB (id : Int) (L : List LegD) : Bool := postB id L && (decide (totY (yieldsOf id L 1) = 0) && (decide (totY (yieldsOf id L 2) = 0) && decide (totY (yieldsOf id L 3) = 0)))

theorem fairB_bad {id : Int} {L : List LegD} (h : postB id L = false) : fairB id L = false := by simp [fairB, h]
theorem fairB_no {id : Int} {L : List LegD} {k : Nat} (h1 : 1 ≤ k) (h2 : k ≤ 3) (h : ¬ totY (yieldsOf id L k) = 0) : fairB id L = false := by
  have : k = 1 ∨ k = 2 ∨ k = 3 := by omega
  rcases this with rfl | rfl | rfl <;> simp_all [fairB]
theorem fairB_yes {id : Int} {L : List LegD} (hp : postB id L = true) (h : ∀ j : Nat, 1 ≤ j → j < 4 → totY (yieldsOf id L j) = 0) : fairB id L = true := by
  have h1 := h 1 (by omega) (by omega)
  have h2 := h 2 (by omega) (by omega)
  have h3 := h 3 (by omega) (by omega)
  simp only [Int.cast_ofNat_Int] at h1 h2 h3
  simp [fairB, hp]
  exact ⟨h1, h2, h3⟩
theorem fairB_all {id : Int} {L : List LegD} (h : ∀ j : Nat, 1 ≤ j → j < 4 → totY (yieldsOf id L j) = 0) : fairB id L = postB id L := by
  cases hp : postB id L with
  | false => exact fairB_bad hp
  | true => exact fairB_yes hp h

theorem upto_step {P : Nat → Prop} {k : Nat} (h : ∀ j : Nat, 1 ≤ j → j < k → P j) (hk : P k) (j : Nat) (h1 : 1 ≤ j) (h2 : j < k + 1) : P j := by
  by_cases e : j = k
  · subst e; exact hk
  · exact h j h1 (by omega)

end Go.Proofs.YtfblpbihpmhgjaaDoor
