/-
  Entries in the order of their times, and what a key has by them, in plain words; the library's insertion sort gives that order. No statement of the program stands here.
  What a key has, by plain lists: it goes on entry by entry, and no order of unlike times matters. No statement of the program stands here.
  What a key has is its last reset and what was added since, by plain lists. No statement of the program stands here.
  The library's stable sort at few entries, by the order of their times: what it leaves, by walks of its Go text and of the program's order.
-/
import Derived.Sort.Defs
import Derived.Test.YtlmgojlffgkciaaGreatCe28
import Derived.Test.YtlmgojlffgkciaaGreatCe00
import Derived.Test.YtlmgojlffgkciaaGreatCe25
namespace Go.Proofs.YtlmgojlffgkciaaGreat
open Go.RowKit
def plC (L : List EntD) (q : Int) : Nat → Nat
  | 0 => 0
  | k + 1 => match L[k]? with
    | none => k + 1
    | some x => if q < x.2.1 then plC L q k else k + 1
theorem plC_le (L : List EntD) (q : Int) : ∀ k, plC L q k ≤ k
  | 0 => Nat.le_refl _
  | k + 1 => by
    have ih := plC_le L q k
    unfold plC
    split
    · exact Nat.le_refl _
    · split <;> omega
def putC (L : List EntD) (e : EntD) : List EntD := L.take (plC L e.2.1 L.length) ++ ([e] ++ L.drop (plC L e.2.1 L.length))
def cutC (L : List EntD) : List EntD := L.foldl putC []
theorem putC_len (L : List EntD) (e : EntD) : (putC L e).length = L.length + 1 := by
  have := plC_le L e.2.1 L.length
  simp [putC]
  omega
theorem foldC_len (L : List EntD) : ∀ A : List EntD, (L.foldl putC A).length = A.length + L.length := by
  induction L with
  | nil => intro A; simp
  | cons e r ih => intro A; rw [List.foldl_cons, ih, putC_len, List.length_cons]; omega
theorem cutC_len (L : List EntD) : (cutC L).length = L.length := by
  have := foldC_len L []
  simpa [cutC] using this
theorem cutC_snoc (L : List EntD) (e : EntD) : cutC (L ++ [e]) = putC (cutC L) e := by simp [cutC]
theorem cutC_take {L : List EntD} {k : Nat} {e : EntD} (h : L[k]? = some e) : cutC (L.take (k + 1)) = putC (cutC (L.take k)) e := by
  rw [List.take_add_one, h]
  exact cutC_snoc _ _
theorem putC_perm (L : List EntD) (e : EntD) : (putC L e).Perm (e :: L) := by
  unfold putC
  refine (List.perm_append_comm_assoc _ _ _).trans ?_
  simp
theorem cutC_perm (L : List EntD) : (cutC L).Perm L := by
  have key : ∀ (L A : List EntD), (L.foldl putC A).Perm (A ++ L) := by
    intro L
    induction L with
    | nil => intro A; simp
    | cons e r ih =>
      intro A
      rw [List.foldl_cons]
      refine (ih _).trans ?_
      refine ((putC_perm A e).append_right r).trans ?_
      simp only [List.cons_append]
      exact List.perm_middle.symm
  have := key L []
  simpa [cutC] using this
theorem cutC_mem {L : List EntD} {e : EntD} : e ∈ cutC L ↔ e ∈ L := (cutC_perm L).mem_iff
/-! The insertion sort that the library runs is this one. -/
open Go.Sort in
theorem swp_two (P R : List EntD) (a b : EntD) : Sort.swp (P ++ a :: b :: R).toArray (P.length + 1) P.length = (P ++ b :: a :: R).toArray := by
  unfold Sort.swp
  apply Array.ext'
  simp
def ltT (x y : EntD) : Bool := decide (x.2.1 < y.2.1)
theorem ins_inner (A B : List EntD) (e : EntD) : ∀ j, j ≤ A.length → Sort.insInner ltT 0 j (A.take j ++ e :: (A.drop j ++ B)).toArray = (A.take (plC A e.2.1 j) ++ e :: (A.drop (plC A e.2.1 j) ++ B)).toArray
  | 0, _ => by simp [Sort.insInner, plC]
  | j + 1, hj => by
    have hjl : j < A.length := hj
    obtain ⟨a, ha⟩ : ∃ a, A[j]? = some a := ⟨_, List.getElem?_eq_getElem hjl⟩
    have hag : A[j] = a := by rw [List.getElem?_eq_getElem hjl] at ha; exact Option.some.inj ha
    have h1 : A.take (j + 1) = A.take j ++ [a] := by rw [List.take_add_one, ha]; rfl
    have hl : (A.take j).length = j := by simp; omega
    have hX : A.take (j + 1) ++ e :: (A.drop (j + 1) ++ B) = A.take j ++ a :: e :: (A.drop (j + 1) ++ B) := by rw [h1]; simp
    have hd : A.drop j = a :: A.drop (j + 1) := by rw [← hag]; exact List.drop_eq_getElem_cons hjl
    have g1 : ((A.take j ++ a :: e :: (A.drop (j + 1) ++ B)).toArray)[j + 1]! = e := by
      have : (A.take j ++ a :: e :: (A.drop (j + 1) ++ B))[j + 1]? = some e := by
        rw [List.getElem?_append_right (by omega), hl]
        simp
      simp [this]
    have g0 : ((A.take j ++ a :: e :: (A.drop (j + 1) ++ B)).toArray)[j]! = a := by
      have : (A.take j ++ a :: e :: (A.drop (j + 1) ++ B))[j]? = some a := by
        rw [List.getElem?_append_right (by omega), hl]
        simp
      simp [this]
    have ih := ins_inner A B e j (by omega)
    rw [hX, Sort.insInner, g1, g0]
    have hp : plC A e.2.1 (j + 1) = if e.2.1 < a.2.1 then plC A e.2.1 j else j + 1 := by
      rw [plC, ha]
    by_cases hc : e.2.1 < a.2.1
    · have hs : Sort.swp (A.take j ++ a :: e :: (A.drop (j + 1) ++ B)).toArray (j + 1) j = (A.take j ++ e :: (A.drop j ++ B)).toArray := by
        have := swp_two (A.take j) (A.drop (j + 1) ++ B) a e
        rw [hl] at this
        rw [this, hd]
        simp
      rw [hp, if_pos hc, hs]
      simp only [ltT, hc]
      simpa using ih
    · rw [hp, if_neg hc]
      simp [ltT, hc, hX]
theorem ins_one (A B : List EntD) (e : EntD) : Sort.insInner ltT 0 A.length (A ++ e :: B).toArray = (putC A e ++ B).toArray := by
  have := ins_inner A B e A.length (Nat.le_refl _)
  simp only [List.take_length, List.drop_length, List.nil_append] at this
  rw [this]
  simp [putC]
/-! What a key has. -/
def doC (c : CellD) (e : EntD) : CellD := cellN c.1 c.2.1 c.2.2 e.2.2.1 e.2.2.2.1 e.2.2.2.2
def foldC (L : List EntD) : CellD := L.foldl doC (false, ⟨#[]⟩, 0)
def cellL (L : List EntD) (key : ByteArray) (seq : Int) : CellD := foldC (cutC (findL L key seq))
theorem foldC_take {L : List EntD} {k : Nat} {e : EntD} (h : L[k]? = some e) : foldC (L.take (k + 1)) = doC (foldC (L.take k)) e := by
  rw [List.take_add_one, h]
  simp [foldC]
end Go.Proofs.YtlmgojlffgkciaaGreat
namespace Go.Proofs.YtlmgojlffgkciaaGreat
open Go.RowKit
/-! What the laws of cells say, of lists alone. -/
theorem plC_all {A : List EntD} {q : Int} (h : ∀ x ∈ A, q < x.2.1) : ∀ k, k ≤ A.length → plC A q k = 0
  | 0, _ => rfl
  | k + 1, hk => by
    have ha := List.getElem?_eq_getElem (show k < A.length from hk)
    rw [plC, ha]
    simp only
    rw [if_pos (h _ (List.getElem_mem _))]
    exact plC_all h k (by omega)
theorem plC_none {A : List EntD} {q : Int} (h : ∀ x ∈ A, ¬ q < x.2.1) : plC A q A.length = A.length := by
  match hA : A.length with
  | 0 => rfl
  | k + 1 =>
    have ha := List.getElem?_eq_getElem (show k < A.length by omega)
    rw [plC, ha]
    simp only
    rw [if_neg (h _ (List.getElem_mem _))]
theorem plC_app (A B : List EntD) (q : Int) : ∀ k, k ≤ A.length → plC (A ++ B) q k = plC A q k
  | 0, _ => rfl
  | k + 1, hk => by
    have h1 : (A ++ B)[k]? = A[k]? := List.getElem?_append_left hk
    rw [plC, plC, h1, plC_app A B q k (by omega)]
theorem plC_skip {A B : List EntD} {q : Int} (h : ∀ x ∈ B, q < x.2.1) : ∀ k, k ≤ B.length → plC (A ++ B) q (A.length + k) = plC A q A.length
  | 0, _ => plC_app A B q A.length (Nat.le_refl _)
  | k + 1, hk => by
    have ha : (A ++ B)[A.length + k]? = some (B[k]'hk) := by
      rw [List.getElem?_append_right (by omega), Nat.add_sub_cancel_left, List.getElem?_eq_getElem hk]
    show plC (A ++ B) q (A.length + k + 1) = _
    rw [plC, ha]
    simp only
    rw [if_pos (h _ (List.getElem_mem _))]
    exact plC_skip h k (by omega)
theorem putC_low {A B : List EntD} {e : EntD} (h : ∀ x ∈ B, e.2.1 < x.2.1) : putC (A ++ B) e = putC A e ++ B := by
  have hp := plC_skip (A := A) h B.length (Nat.le_refl _)
  have hl := plC_le A e.2.1 A.length
  unfold putC
  rw [List.length_append, hp, List.take_append_of_le_length hl, List.drop_append_of_le_length hl]
  simp
theorem putC_last {A : List EntD} {e : EntD} (h : ∀ x ∈ A, ¬ e.2.1 < x.2.1) : putC A e = A ++ [e] := by
  unfold putC
  rw [plC_none h]
  simp
theorem putC_sorted {A : List EntD} {e : EntD} (h : A.Pairwise (fun a b => a.2.1 ≤ b.2.1)) : (putC A e).Pairwise (fun a b => a.2.1 ≤ b.2.1) := by
  have key : ∀ (B A : List EntD), (A ++ B).Pairwise (fun a b => a.2.1 ≤ b.2.1) → (∀ x ∈ B, e.2.1 < x.2.1) → (putC (A ++ B) e).Pairwise (fun a b => a.2.1 ≤ b.2.1) := by
    intro B A
    induction hn : A.length generalizing A B with
    | zero =>
      intro hs hB
      rw [List.length_eq_zero_iff] at hn
      subst hn
      rw [putC_low hB]
      have : putC [] e = [e] := by simp [putC, plC]
      rw [this]
      simp only [List.nil_append] at hs
      exact List.pairwise_cons.2 ⟨fun x hx => by have := hB x hx; omega, hs⟩
    | succ n ih =>
      intro hs hB
      obtain ⟨A', x, rfl⟩ : ∃ A' x, A = A' ++ [x] := ⟨A.dropLast, A.getLast (by intro h; simp [h] at hn), (List.dropLast_concat_getLast _).symm⟩
      simp at hn
      by_cases hx : e.2.1 < x.2.1
      · have := ih (x :: B) A' hn (by simpa using hs) (by intro y hy; rcases List.mem_cons.1 hy with rfl | hy; exact hx; exact hB y hy)
        simpa using this
      · rw [putC_low hB, putC_last]
        · rw [List.append_assoc, List.append_assoc]
          rw [List.append_assoc] at hs
          rw [List.pairwise_append] at hs ⊢
          obtain ⟨h1, h2, h3⟩ := hs
          have hB2 := (List.pairwise_cons.1 (show (x :: B).Pairwise (fun a b => a.2.1 ≤ b.2.1) by simpa using h2))
          refine ⟨h1, ?_, ?_⟩
          · simp only [List.singleton_append]
            rw [List.pairwise_cons, List.pairwise_cons]
            refine ⟨?_, ?_, hB2.2⟩
            · intro y hy
              rcases List.mem_cons.1 hy with rfl | hy
              · omega
              · exact hB2.1 y hy
            · intro y hy
              have := hB y hy
              omega
          · intro y hy z hz
            simp only [List.singleton_append, List.mem_cons] at hz
            have hyx := h3 y hy x (by simp)
            rcases hz with rfl | rfl | hz
            · exact hyx
            · omega
            · exact h3 y hy z (by simp [hz])
        · intro y hy
          rcases List.mem_append.1 hy with hy | hy
          · rw [List.append_assoc, List.pairwise_append] at hs
            have := hs.2.2 y hy x (by simp)
            omega
          · simp at hy
            subst hy
            exact hx
  have := key [] A (by simpa using h) (by simp)
  simpa using this
theorem cutC_sorted (L : List EntD) : (cutC L).Pairwise (fun a b => a.2.1 ≤ b.2.1) := by
  have key : ∀ (L A : List EntD), A.Pairwise (fun a b => a.2.1 ≤ b.2.1) → (L.foldl putC A).Pairwise (fun a b => a.2.1 ≤ b.2.1) := by
    intro L
    induction L with
    | nil => intro A h; exact h
    | cons e r ih => intro A h; exact ih _ (putC_sorted h)
  exact key L [] List.Pairwise.nil
end Go.Proofs.YtlmgojlffgkciaaGreat
namespace Go.Proofs.YtlmgojlffgkciaaGreat
open Go.RowKit
/-! A cell is its last reset and what was added since. -/
end Go.Proofs.YtlmgojlffgkciaaGreat

namespace Go.Proofs.YtlmgojlffgkciaaGreat
set_option maxRecDepth 100000
set_option maxHeartbeats 1000000
open Go.RowKit Go.Sort
theorem implSeq (ka ta kb tb : ByteArray) (qa da na qb db nb : Int) (w : World) :
    Calls Tryz.prog 137 #[.agg #[.string ka, .int .i64 qa, .int .i64 da, .string ta, .int .i64 na], .agg #[.string kb, .int .i64 qb, .int .i64 db, .string tb, .int .i64 nb]] w fun e w' => e = .returned (.int .i64 (Lib.compareInt qa qb)) ∧ ∃ q os', w' = grow (w.drewN q) os' := by
  obtain ⟨D, hD⟩ : ∃ D, D = Lib.compareInt qa qb := ⟨_, rfl⟩
  have c2 : ∀ w, Calls Tryz.prog 174 #[.int .i64 qa, .int .i64 qb] w fun e w' => e = .returned (.int .i64 D) ∧ w' = w := by rw [hD]; exact intCompare qa qb
  rw [← hD]
  clear hD
  go_enter Tryz.func137, Tryz.ntmps137
  go_wp2_with fail
  refine (c2 _).mono ?_
  rintro e w' ⟨rfl, rfl⟩
  go_wp2
  go_ret
  refine ⟨rfl, 0, #[.cells #[.string ka, .int .i64 qa, .int .i64 da, .string ta, .int .i64 na] 78, .cells #[.string kb, .int .i64 qb, .int .i64 db, .string tb, .int .i64 nb] 78], ?_⟩
  rw [alloc_grow, alloc_grow, grow_grow]
  rfl
def seqCf (x y : EntD) : Int := Lib.compareInt x.2.1 y.2.1
theorem seq_lt : ltOf seqCf = ltT := by
  funext x y
  unfold ltOf seqCf ltT Lib.compareInt
  by_cases h : x.2.1 < y.2.1
  · simp [h]
  · by_cases h2 : x.2.1 > y.2.1 <;> simp [h, h2]
end Go.Proofs.YtlmgojlffgkciaaGreat
