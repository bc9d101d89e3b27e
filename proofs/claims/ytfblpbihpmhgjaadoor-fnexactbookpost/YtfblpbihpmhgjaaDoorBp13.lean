/-
  Plain functions on lists of postings: balances, how posting ends, what a book is. No statement of the program stands here.
-/
import Derived.Test.YtfblpbihpmhgjaaDoorBp12
import Derived.Test.YtfblpbihpmhgjaaDoorBp09
namespace Go.Proofs.YtfblpbihpmhgjaaDoor

/-- What a posting brings to an account, of a currency. -/
def toP (p : PostD) (acct : ByteArray) (cur : Int) : Int := atY (yieldsOf p.1 p.2 cur) acct.data.toList
/-- A balance. -/
def balP (B : List PostD) (acct : ByteArray) (cur : Int) : Int := (B.map (fun p => toP p acct cur)).sum
def hasP (B : List PostD) (id : Int) : Bool := B.any (fun p => decide (p.1 = id))
def overL (B : List PostD) (p : PostD) (l : LegD) : Bool := decide (2000 < balP B l.1 l.2.1 + toP p l.1 l.2.1) || decide (balP B l.1 l.2.1 + toP p l.1 l.2.1 < -2000)
def overP (B : List PostD) (p : PostD) : Bool := p.2.any (overL B p)
/-- How posting ends. -/
def codeP (B : List PostD) (p : PostD) : Int := if fairB p.1 p.2 = false then 1 else if hasP B p.1 = true then 2 else if overP B p = true then 3 else if 40 ≤ B.length then 4 else 0
/-- The first k postings stand. -/
def okUp (B : List PostD) : Nat → Bool
  | 0 => true
  | k + 1 => okUp B k && (match B[k]? with | some p => decide (codeP (B.take k) p = 0) | none => true)
def bookB (B : List PostD) : Bool := okUp B B.length

theorem toP_bd (p : PostD) (acct : ByteArray) (cur : Int) : -4000 ≤ toP p acct cur ∧ toP p acct cur ≤ 4000 := by
  have h1 := atY_bd (yieldsOf p.1 p.2 cur) acct.data.toList
  have h2 := yieldsOf_len p.1 p.2 cur
  unfold toP
  omega
theorem balP_nil (acct : ByteArray) (cur : Int) : balP [] acct cur = 0 := rfl
theorem balP_snoc (B : List PostD) (p : PostD) (acct : ByteArray) (cur : Int) : balP (B ++ [p]) acct cur = balP B acct cur + toP p acct cur := by simp [balP]
theorem balP_take {B : List PostD} {k : Nat} {p : PostD} (h : B[k]? = some p) (acct : ByteArray) (cur : Int) : balP (B.take (k + 1)) acct cur = balP (B.take k) acct cur + toP p acct cur := by
  rw [List.take_add_one, h]
  exact balP_snoc _ _ _ _
theorem balP_bd (B : List PostD) (acct : ByteArray) (cur : Int) : -(4000 * (B.length : Int)) ≤ balP B acct cur ∧ balP B acct cur ≤ 4000 * (B.length : Int) := by
  induction B with
  | nil => simp [balP]
  | cons p r ih =>
    have h := toP_bd p acct cur
    simp only [balP, List.map_cons, List.sum_cons, List.length_cons] at ih ⊢
    omega
theorem balP_bd40 {B : List PostD} (h : B.length ≤ 40) (acct : ByteArray) (cur : Int) : -160000 ≤ balP B acct cur ∧ balP B acct cur ≤ 160000 := by
  have := balP_bd B acct cur
  omega
theorem hasP_take_no {B : List PostD} {k : Nat} {p : PostD} {id : Int} (h : B[k]? = some p) (hn : ¬ p.1 = id) (h0 : hasP (B.take k) id = false) : hasP (B.take (k + 1)) id = false := by
  rw [List.take_add_one, h]
  unfold hasP at h0 ⊢
  rw [List.any_append, h0]
  simp [hn]
theorem hasP_yes {B : List PostD} {k : Nat} {p : PostD} {id : Int} (h : B[k]? = some p) (hn : p.1 = id) : hasP B id = true := by
  unfold hasP
  rw [List.any_eq_true]
  exact ⟨p, List.mem_of_getElem? h, by simp [hn]⟩
theorem overL_bool (B : List PostD) (p : PostD) (l : LegD) {n : Int} (h : n = balP B l.1 l.2.1 + toP p l.1 l.2.1) : overL B p l = (decide (2000 < n) || decide (n < -2000)) := by
  unfold overL
  rw [h]
theorem over_take_no {B : List PostD} {p : PostD} {k : Nat} {l : LegD} (h : p.2[k]? = some l) (hn : overL B p l = false) (h0 : (p.2.take k).any (overL B p) = false) : (p.2.take (k + 1)).any (overL B p) = false := by
  rw [List.take_add_one, h, List.any_append, h0]
  simp [hn]
theorem overP_yes {B : List PostD} {p : PostD} {k : Nat} {l : LegD} (h : p.2[k]? = some l) (hn : overL B p l = true) : overP B p = true := by
  unfold overP
  rw [List.any_eq_true]
  exact ⟨l, List.mem_of_getElem? h, hn⟩

theorem fair_post {p : PostD} (h : fairB p.1 p.2 = true) : postB p.1 p.2 = true := by
  simp [fairB] at h
  exact h.1
theorem toP_good {p : PostD} (h : postB p.1 p.2 = true) (acct : ByteArray) (cur : Int) : toP p acct cur = atY (selY cur p.2) acct.data.toList := by
  simp [toP, yieldsOf, h]

theorem okUp_take {B : List PostD} {k : Nat} {p : PostD} (h : B[k]? = some p) : okUp B (k + 1) = (okUp B k && decide (codeP (B.take k) p = 0)) := by
  simp [okUp, h]
theorem codeP_zero {B : List PostD} {p : PostD} (h : codeP B p = 0) : fairB p.1 p.2 = true ∧ hasP B p.1 = false ∧ overP B p = false ∧ B.length < 40 := by
  unfold codeP at h
  split at h
  · cases h
  · split at h
    · cases h
    · split at h
      · cases h
      · split at h
        · cases h
        · refine ⟨by simp_all, by simp_all, by simp_all, by omega⟩
theorem okUp_le {B : List PostD} {j k : Nat} (hjk : j ≤ k) (h : okUp B k = true) : okUp B j = true := by
  induction k with
  | zero => obtain rfl : j = 0 := by omega
            exact h
  | succ k ih =>
    by_cases e : j = k + 1
    · subst e; exact h
    · simp only [okUp, Bool.and_eq_true] at h
      exact ih (by omega) h.1
theorem okUp_code {B : List PostD} {j k : Nat} {p : PostD} (hjk : j < k) (hp : B[j]? = some p) (h : okUp B k = true) : codeP (B.take j) p = 0 := by
  have h1 := okUp_le (j := j + 1) (by omega) h
  rw [okUp_take hp] at h1
  simpa using (Bool.and_eq_true_iff.1 h1).2
theorem okUp_len {B : List PostD} {k : Nat} (hk : k ≤ B.length) (h : okUp B k = true) : k ≤ 40 := by
  by_cases h0 : k = 0
  · omega
  · have hp : B[k - 1]? = some (B[k - 1]'(by omega)) := List.getElem?_eq_getElem (by omega)
    have := (codeP_zero (okUp_code (j := k - 1) (by omega) hp h)).2.2.2
    simp at this
    omega
theorem okUp_good {B : List PostD} {k : Nat} (hk : k ≤ B.length) (h : okUp B k = true) : ∀ p ∈ B.take k, postB p.1 p.2 = true := by
  intro p hp
  obtain ⟨j, hj, rfl⟩ := List.getElem_of_mem hp
  simp at hj
  have hp' : B[j]? = some B[j] := List.getElem?_eq_getElem (by omega)
  have := (codeP_zero (okUp_code (j := j) (by omega) hp' h)).1
  simpa using fair_post this
theorem bookB_false {B : List PostD} {k : Nat} {p : PostD} (hp : B[k]? = some p) (h : ¬ codeP (B.take k) p = 0) : bookB B = false := by
  rw [Bool.eq_false_iff]
  intro hb
  exact h (okUp_code (List.getElem?_eq_some_iff.1 hp).1 hp hb)
theorem bookB_long {B : List PostD} (h : 40 < B.length) : bookB B = false := by
  rw [Bool.eq_false_iff]
  intro hb
  have := okUp_len (Nat.le_refl _) hb
  omega

theorem PostsAt.take {w : World} {b off n c k : Nat} {B : List PostD} (h : PostsAt w (some ⟨b, off, none⟩) n c B) (hk : k ≤ n) : PostsAt w (some ⟨b, off, none⟩) k c (B.take k) where
  length := by have := h.length; simp; omega
  room := by have := h.room; omega
  big := h.big
  nil := fun e => by cases e
  lies := fun x e hp => h.lies x e (by omega)
  posts := fun x e i hi => by
    have hi' : i < B.length := by simp at hi; omega
    have := h.posts x e i hi'
    simpa using this
end Go.Proofs.YtfblpbihpmhgjaaDoor
