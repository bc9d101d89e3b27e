/-
  What the maps and the sorted slice of a tally hold, said in plain words; and what a leg, and a posting, turns in them.
-/
import Derived.Test.YtfblpbihpmhgjaaDoorBp23
import Derived.Test.YtfblpbihpmhgjaaDoorBp13
import Derived.Test.YtfblpbihpmhgjaaDoorBp14
import Derived.Shelf.Spec.SearchS
namespace Go.Proofs.YtfblpbihpmhgjaaDoor
open Go.RowKit

theorem atY_app1 (A B : List LegY) (k : List UInt8) : atY (A ++ B) k = atY A k + atY B k := by simp [atY]
theorem at_push {l : LegD} (hl : legB l = true) (L : List LegD) (c : Int) (k : List UInt8) : atY (selY c (L ++ [l])) k = atY (selY c L) k + (if l.2.1 = c ∧ l.1.data.toList = k then l.2.2 else 0) := by
  rw [selY_append, atY_app1]
  congr 1
  by_cases hc : l.2.1 = c
  · have e : selY c [l] = [⟨l, hl⟩] := by simp [selY, hl, hc]
    rw [e]
    simp only [atY, List.map_cons, List.map_nil, List.sum_cons, List.sum_nil, hc, true_and, Int.add_zero]
    rfl
  · have e : selY c [l] = [] := by simp [selY, hc]
    rw [e]
    simp [atY, hc]

/-- A balance behind a book and the first legs of one posting more. -/
def balK (B : List PostD) (L : List LegD) (s : ByteArray) (c : Int) : Int := balP B s c + atY (selY c L) s.data.toList
theorem balK_nil (B : List PostD) (s : ByteArray) (c : Int) : balK B [] s c = balP B s c := by simp [balK, selY, atY]
theorem balK_all {B : List PostD} {id : Int} {L : List LegD} (h : postB id L = true) (s : ByteArray) (c : Int) : balK B L s c = balP (B ++ [(id, L)]) s c := by
  rw [balP_snoc, toP_good (p := (id, L)) h]
  rfl
theorem balK_bd {B : List PostD} {L : List LegD} (hB : B.length ≤ 40) (hL : L.length ≤ 4) (s : ByteArray) (c : Int) : -200000 ≤ balK B L s c ∧ balK B L s c ≤ 200000 := by
  have h1 := balP_bd40 hB s c
  have h2 := atY_bd (selY c L) s.data.toList
  have h3 := selY_len c L
  unfold balK
  omega

def BalIs (D : DataW Unit) (B : List PostD) (L : List LegD) : Prop :=
  Maps.IsMap D ∧ ∀ s c, s.size ≤ maxLen → (Lit.int .i64 c).wf = true → D.atKey (keyPu s c) (.lit (.int .i64 0)) = .lit (.int .i64 (balK B L s c))

theorem balIs_nil : BalIs (.map []) [] [] := ⟨Maps.isMap_empty, fun _ _ _ _ => rfl⟩
theorem bytes_ext {s t : ByteArray} (h : s.data.toList = t.data.toList) : s = t := by
  obtain ⟨⟨x⟩⟩ := s
  obtain ⟨⟨y⟩⟩ := t
  simpa using h
theorem BalIs.push {D : DataW Unit} {B : List PostD} {L : List LegD} (h : BalIs D B L) {l : LegD} (hl : legB l = true) (hs : l.1.size ≤ maxLen) (hc : (Lit.int .i64 l.2.1).wf = true) :
    BalIs (D.put (keyPu l.1 l.2.1) (.lit (.int .i64 (balK B L l.1 l.2.1 + l.2.2)))) B (L ++ [l]) := by
  refine ⟨h.1.put _ _, fun s c hs' hc' => ?_⟩
  by_cases e : keyPu s c = keyPu l.1 l.2.1
  · obtain ⟨rfl, rfl⟩ := keyPu_inj hs' hc' hs hc e
    rw [Maps.atKey_put_same h.1 (keyPu_lit _ _)]
    unfold balK
    rw [at_push hl, if_pos ⟨rfl, rfl⟩]
    simp only [Int.add_assoc]
  · rw [Maps.atKey_put_other e, h.2 s c hs' hc']
    have hne : ¬ (l.2.1 = c ∧ l.1.data.toList = s.data.toList) := by
      rintro ⟨rfl, h2⟩
      rw [bytes_ext h2] at e
      exact e rfl
    unfold balK
    rw [at_push hl, if_neg hne, Int.add_zero]
theorem BalIs.done {D : DataW Unit} {B : List PostD} {id : Int} {L : List LegD} (h : BalIs D B L) (hp : postB id L = true) : BalIs D (B ++ [(id, L)]) [] :=
  ⟨h.1, fun s c hs hc => by rw [h.2 s c hs hc, balK_nil, balK_all hp]⟩

structure IdsIs (D : DataW Unit) (B : List PostD) : Prop where
  map : Maps.IsMap D
  val : ∀ id, (Lit.int .i64 id).wf = true → D.atKey (.int .i64 id) (.lit (.int .i64 0)) = .lit (.int .i64 (if hasP B id = true then 1 else 0))
  has : ∀ id, (Lit.int .i64 id).wf = true → Maps.has D (.int .i64 id) = hasP B id
  size : Maps.size D = B.length

theorem idsIs_nil : IdsIs (.map []) [] := ⟨Maps.isMap_empty, fun _ _ => rfl, fun _ _ => rfl, rfl⟩
theorem hasP_snoc (B : List PostD) (p : PostD) (id : Int) : hasP (B ++ [p]) id = (hasP B id || decide (p.1 = id)) := by simp [hasP]
theorem IdsIs.push {D : DataW Unit} {B : List PostD} (h : IdsIs D B) (ht : Maps.Tidy D) {id : Int} {L : List LegD} (hw : (Lit.int .i64 id).wf = true) (hno : hasP B id = false) :
    IdsIs (D.put (.int .i64 id) (.lit (.int .i64 1))) (B ++ [(id, L)]) := by
  refine ⟨h.map.put _ _, fun i hi => ?_, fun i hi => ?_, ?_⟩
  · by_cases e : i = id
    · subst e
      rw [Maps.atKey_put_same h.map (show WideAt.IsKeyLit (.int .i64 i) from trivial), hasP_snoc]
      simp
    · rw [Maps.atKey_put_other (fun e' => e (by cases e'; rfl)), h.val i hi, hasP_snoc]
      have : decide (id = i) = false := decide_eq_false (fun e' => e e'.symm)
      rw [this, Bool.or_false]
  · by_cases e : i = id
    · subst e
      rw [Maps.has_put_same h.map (show WideAt.IsKeyLit (.int .i64 i) from trivial), hasP_snoc]
      simp
    · rw [Maps.has_put_other (fun e' => e (by cases e'; rfl)), h.has i hi, hasP_snoc]
      have : decide (id = i) = false := decide_eq_false (fun e' => e e'.symm)
      rw [this, Bool.or_false]
  · rw [Maps.size_put ht, h.has id hw, hno, h.size]
    simp

/-! ### The accounts -/
def nthS (A : List ByteArray) (t : Nat) : ByteArray := (A[t]?).getD ByteArray.empty
def posI (A : List ByteArray) (s : ByteArray) : Nat := Lib.bsGo (fun t => Op.bytesLess (nthS A t).toList s.toList) A.length 0 A.length
def hitI (A : List ByteArray) (s : ByteArray) : Bool := decide (posI A s < A.length ∧ nthS A (posI A s) = s)
def insI (A : List ByteArray) (s : ByteArray) : List ByteArray := if hitI A s = true then A else A.take (posI A s) ++ s :: A.drop (posI A s)
def accL (A : List ByteArray) (L : List LegD) : List ByteArray := L.foldl (fun A l => insI A l.1) A
def accB (B : List PostD) : List ByteArray := B.foldl (fun A p => accL A p.2) []

theorem bsGo_le (less : Nat → Bool) : ∀ (f lo hi : Nat), lo ≤ hi → Lib.bsGo less f lo hi ≤ hi
  | 0, lo, hi, h => by simpa [Lib.bsGo] using h
  | f + 1, lo, hi, h => by
    unfold Lib.bsGo
    split
    · split
      · exact bsGo_le less f _ _ (by omega)
      · have := bsGo_le less f lo ((lo + hi) / 2) (by omega)
        omega
    · exact h
theorem posI_le (A : List ByteArray) (s : ByteArray) : posI A s ≤ A.length := bsGo_le _ _ _ _ (Nat.zero_le _)
theorem insI_len (A : List ByteArray) (s : ByteArray) : (insI A s).length ≤ A.length + 1 := by
  unfold insI
  have := posI_le A s
  split <;> simp <;> omega
theorem accL_snoc (A : List ByteArray) (L : List LegD) (l : LegD) : accL A (L ++ [l]) = insI (accL A L) l.1 := by simp [accL]
theorem accL_len (A : List ByteArray) (L : List LegD) : (accL A L).length ≤ A.length + L.length := by
  induction L generalizing A with
  | nil => simp [accL]
  | cons l r ih =>
    have h1 := ih (insI A l.1)
    have h2 := insI_len A l.1
    simp only [accL, List.foldl_cons, List.length_cons] at h1 ⊢
    omega
theorem accB_snoc (B : List PostD) (p : PostD) : accB (B ++ [p]) = accL (accB B) p.2 := by simp [accB]
end Go.Proofs.YtfblpbihpmhgjaaDoor
