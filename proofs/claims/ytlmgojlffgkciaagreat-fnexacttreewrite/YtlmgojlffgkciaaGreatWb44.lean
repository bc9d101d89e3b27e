/-
  Contracts of the library's slices package at this program, laid by the kit's own command.
  What the program's CellDo makes of every cell and every entry, kind by kind, by walks of its Go text.
  Entries in the order of their times, and what a key has by them, in plain words; the library's insertion sort gives that order. No statement of the program stands here.
  What a key has, by plain lists: it goes on entry by entry, and no order of unlike times matters. No statement of the program stands here.
  What a key has is its last reset and what was added since, by plain lists. No statement of the program stands here.
-/
import Derived.Ground.SlsfProg
import Derived.Shelf.SlSortCmp.InsertionK
import Derived.Test.YtlmgojlffgkciaaGreatProg
import Derived.Test.YtlmgojlffgkciaaGreatWb17
import Derived.Deep.RegionHeld3
import Derived.Deep.DeepCutAuto
import Derived.Test.YtlmgojlffgkciaaGreatWb00
import Derived.Sort.Defs
namespace Go.Proofs.YtlmgojlffgkciaaGreat
open Go.Shelf
def Tryz.insL_ren : Go.Shelf.Ren := ⟨fun | 20 => 195 | n => n, fun | 24 => 78 | 22 => 28 | 3 => 3 | 25 => 159 | 4 => 4 | 0 => 0 | n => n, fun | n => n⟩
theorem Tryz.insL : Go.Proofs.SlLaysF0.n20 Tryz.prog Tryz.insL_ren := {
  mixed := by kernel_rfl
  f20 := ⟨Tryz.f195.name, by decide, Tryz.func195.trans (congrArg some (by kernel_rfl))⟩
  t0 := Tryz.underlying0
  a0 := Tryz.isAgg0
  z0 := Tryz.sizeOf0
  v0 := Tryz.zeroValue0
  t3 := Tryz.underlying3
  a3 := Tryz.isAgg3
  z3 := Tryz.sizeOf3
  v3 := Tryz.zeroValue3
  t4 := Tryz.underlying4
  a4 := Tryz.isAgg4
  z4 := Tryz.sizeOf4
  v4 := Tryz.zeroValue4
  t22 := Tryz.underlying28
  a22 := Tryz.isAgg28
  z22 := Tryz.sizeOf28
  v22 := Tryz.zeroValue28
  t25 := Tryz.underlying159
  a25 := Tryz.isAgg159
  z25 := Tryz.sizeOf159
  v25 := Tryz.zeroValue159 }
end Go.Proofs.YtlmgojlffgkciaaGreat

namespace Go.Proofs.YtlmgojlffgkciaaGreat
open Go.RowKit

attribute [local go_sem] Oper.semAt_some

/-- A cell as the program has it. -/
def cellV (c : CellD) : Value := .agg #[.bool c.1, .string c.2.1, .int .i64 c.2.2]
def cellN (b : Bool) (t : ByteArray) (n : Int) (d : Int) (t' : ByteArray) (n' : Int) : CellD :=
  if d = 1 then (true, t', n') else if d = 2 then (false, ⟨#[]⟩, 0) else if d = 3 then (true, t, wrap64 (n + n')) else (b, t, n)
theorem cellN_1 {b : Bool} {t t' : ByteArray} {n n' : Int} : cellN b t n 1 t' n' = (true, t', n') := by simp [cellN]
theorem cellN_2 {b : Bool} {t t' : ByteArray} {n n' : Int} : cellN b t n 2 t' n' = (false, ⟨#[]⟩, 0) := by simp [cellN]
theorem cellN_3 {b : Bool} {t t' : ByteArray} {n n' : Int} : cellN b t n 3 t' n' = (true, t, wrap64 (n + n')) := by simp [cellN]
theorem cellN_0 {b : Bool} {t t' : ByteArray} {n d n' : Int} (h1 : ¬ d = 1) (h2 : ¬ d = 2) (h3 : ¬ d = 3) : cellN b t n d t' n' = (b, t, n) := by simp [cellN, h1, h2, h3]
theorem cellV_ret {c c' : CellD} (h : c = c') : Ending.returned (cellV c) = .returned (cellV c') := by rw [h]

set_option maxRecDepth 100000 in
set_option maxHeartbeats 400000 in
theorem do_putKind (b : Bool) (t k t' : ByteArray) (n q d n' : Int) (w : World) :
    Calls Tryz.prog 261 #[.agg #[], .agg #[.bool b, .string t, .int .i64 n], .agg #[.string k, .int .i64 q, .int .i64 d, .string t', .int .i64 n']] w fun e w' => e = .returned (cellV (true, t', n')) ∧ Below w.heap.size w w' := by
  go_enter Tryz.func261, Tryz.ntmps261
  go_wp2
  refine bodyPost_ret (v := .agg #[.bool true, .string t', .int .i64 n']) (by simp [results, Tryz.results261, go_sem]) rfl ⟨rfl, ?_⟩
  exact (((((Below.refl _ _).alloc (Nat.le_refl _) _).alloc (by simp) _).alloc (by simp; omega) _).alloc (by simp; omega) _)

set_option maxRecDepth 100000 in
set_option maxHeartbeats 400000 in
theorem do_delKind (b : Bool) (t k t' : ByteArray) (n q d n' : Int) (w : World) :
    Calls Tryz.prog 263 #[.agg #[], .agg #[.bool b, .string t, .int .i64 n], .agg #[.string k, .int .i64 q, .int .i64 d, .string t', .int .i64 n']] w fun e w' => e = .returned (cellV (false, ⟨#[]⟩, 0)) ∧ Below w.heap.size w w' := by
  go_enter Tryz.func263, Tryz.ntmps263
  go_wp2
  refine bodyPost_ret (v := .agg #[.bool false, .string ⟨#[]⟩, .int .i64 0]) (by simp [results, Tryz.results263, go_sem]) rfl ⟨rfl, ?_⟩
  exact (((((Below.refl _ _).alloc (Nat.le_refl _) _).alloc (by simp) _).alloc (by simp; omega) _).alloc (by simp; omega) _)

set_option maxRecDepth 100000 in
set_option maxHeartbeats 400000 in
theorem do_addKind (b : Bool) (t k t' : ByteArray) (n q d n' : Int) (w : World) :
    Calls Tryz.prog 265 #[.agg #[], .agg #[.bool b, .string t, .int .i64 n], .agg #[.string k, .int .i64 q, .int .i64 d, .string t', .int .i64 n']] w fun e w' => e = .returned (cellV (true, t, wrap64 (n + n'))) ∧ Below w.heap.size w w' := by
  go_enter Tryz.func265, Tryz.ntmps265
  go_wp2
  refine bodyPost_ret (v := .agg #[.bool true, .string t, .int .i64 (wrap64 (n + n'))]) (by simp [results, Tryz.results265, go_sem]) rfl ⟨rfl, ?_⟩
  exact (((((Below.refl _ _).alloc (Nat.le_refl _) _).alloc (by simp) _).alloc (by simp; omega) _).alloc (by simp; omega) _)

set_option maxRecDepth 100000 in
set_option maxHeartbeats 400000 in
theorem do_noKind (b : Bool) (t k t' : ByteArray) (n q d n' : Int) (w : World) :
    Calls Tryz.prog 267 #[.agg #[], .agg #[.bool b, .string t, .int .i64 n], .agg #[.string k, .int .i64 q, .int .i64 d, .string t', .int .i64 n']] w fun e w' => e = .returned (cellV (b, t, n)) ∧ Below w.heap.size w w' := by
  go_enter Tryz.func267, Tryz.ntmps267
  go_wp2
  refine bodyPost_ret (v := .agg #[.bool b, .string t, .int .i64 n]) (by simp [results, Tryz.results267, go_sem]) rfl ⟨rfl, ?_⟩
  exact (((((Below.refl _ _).alloc (Nat.le_refl _) _).alloc (by simp) _).alloc (by simp; omega) _).alloc (by simp; omega) _)

end Go.Proofs.YtlmgojlffgkciaaGreat

namespace Go.Proofs.YtlmgojlffgkciaaGreat
open Go.RowKit

/-- Where an entry comes in by its time: from place k on backwards, behind the first that is not later. -/
def plC (L : List EntD) (q : Int) : Nat → Nat
  | 0 => 0
  | k + 1 => match L[k]? with
    | none => k + 1
    | some x => if q < x.2.1 then plC L q k else k + 1
theorem plC_le (L : List EntD) (q : Int) : ∀ k, plC L q k ≤ k
  | 0 => Nat.le_refl _
  | k + 1 => by
    have ih := plC_le L q k
    unfold plC
    split
    · exact Nat.le_refl _
    · split <;> omega
/-- An entry put into a list by its time. -/
def putC (L : List EntD) (e : EntD) : List EntD := L.take (plC L e.2.1 L.length) ++ ([e] ++ L.drop (plC L e.2.1 L.length))
/-- Entries in the order of their times. -/
def cutC (L : List EntD) : List EntD := L.foldl putC []
theorem putC_len (L : List EntD) (e : EntD) : (putC L e).length = L.length + 1 := by
  have := plC_le L e.2.1 L.length
  simp [putC]
  omega
theorem foldC_len (L : List EntD) : ∀ A : List EntD, (L.foldl putC A).length = A.length + L.length := by
  induction L with
  | nil => intro A; simp
  | cons e r ih => intro A; rw [List.foldl_cons, ih, putC_len, List.length_cons]; omega
theorem cutC_len (L : List EntD) : (cutC L).length = L.length := by
  have := foldC_len L []
  simpa [cutC] using this
theorem cutC_snoc (L : List EntD) (e : EntD) : cutC (L ++ [e]) = putC (cutC L) e := by simp [cutC]
theorem cutC_take {L : List EntD} {k : Nat} {e : EntD} (h : L[k]? = some e) : cutC (L.take (k + 1)) = putC (cutC (L.take k)) e := by
  rw [List.take_add_one, h]
  exact cutC_snoc _ _
theorem putC_perm (L : List EntD) (e : EntD) : (putC L e).Perm (e :: L) := by
  unfold putC
  refine (List.perm_append_comm_assoc _ _ _).trans ?_
  simp
theorem cutC_perm (L : List EntD) : (cutC L).Perm L := by
  have key : ∀ (L A : List EntD), (L.foldl putC A).Perm (A ++ L) := by
    intro L
    induction L with
    | nil => intro A; simp
    | cons e r ih =>
      intro A
      rw [List.foldl_cons]
      refine (ih _).trans ?_
      refine ((putC_perm A e).append_right r).trans ?_
      simp only [List.cons_append]
      exact List.perm_middle.symm
  have := key L []
  simpa [cutC] using this
theorem cutC_mem {L : List EntD} {e : EntD} : e ∈ cutC L ↔ e ∈ L := (cutC_perm L).mem_iff

/-! The insertion sort that the library runs is this one. -/
open Go.Sort in
theorem swp_two (P R : List EntD) (a b : EntD) : Sort.swp (P ++ a :: b :: R).toArray (P.length + 1) P.length = (P ++ b :: a :: R).toArray := by
  unfold Sort.swp
  apply Array.ext'
  simp
def ltT (x y : EntD) : Bool := decide (x.2.1 < y.2.1)
theorem ins_inner (A B : List EntD) (e : EntD) : ∀ j, j ≤ A.length → Sort.insInner ltT 0 j (A.take j ++ e :: (A.drop j ++ B)).toArray = (A.take (plC A e.2.1 j) ++ e :: (A.drop (plC A e.2.1 j) ++ B)).toArray
  | 0, _ => by simp [Sort.insInner, plC]
  | j + 1, hj => by
    have hjl : j < A.length := hj
    obtain ⟨a, ha⟩ : ∃ a, A[j]? = some a := ⟨_, List.getElem?_eq_getElem hjl⟩
    have hag : A[j] = a := by rw [List.getElem?_eq_getElem hjl] at ha; exact Option.some.inj ha
    have h1 : A.take (j + 1) = A.take j ++ [a] := by rw [List.take_add_one, ha]; rfl
    have hl : (A.take j).length = j := by simp; omega
    have hX : A.take (j + 1) ++ e :: (A.drop (j + 1) ++ B) = A.take j ++ a :: e :: (A.drop (j + 1) ++ B) := by rw [h1]; simp
    have hd : A.drop j = a :: A.drop (j + 1) := by rw [← hag]; exact List.drop_eq_getElem_cons hjl
    have g1 : ((A.take j ++ a :: e :: (A.drop (j + 1) ++ B)).toArray)[j + 1]! = e := by
      have : (A.take j ++ a :: e :: (A.drop (j + 1) ++ B))[j + 1]? = some e := by
        rw [List.getElem?_append_right (by omega), hl]
        simp
      simp [this]
    have g0 : ((A.take j ++ a :: e :: (A.drop (j + 1) ++ B)).toArray)[j]! = a := by
      have : (A.take j ++ a :: e :: (A.drop (j + 1) ++ B))[j]? = some a := by
        rw [List.getElem?_append_right (by omega), hl]
        simp
      simp [this]
    have ih := ins_inner A B e j (by omega)
    rw [hX, Sort.insInner, g1, g0]
    have hp : plC A e.2.1 (j + 1) = if e.2.1 < a.2.1 then plC A e.2.1 j else j + 1 := by
      rw [plC, ha]
    by_cases hc : e.2.1 < a.2.1
    · have hs : Sort.swp (A.take j ++ a :: e :: (A.drop (j + 1) ++ B)).toArray (j + 1) j = (A.take j ++ e :: (A.drop j ++ B)).toArray := by
        have := swp_two (A.take j) (A.drop (j + 1) ++ B) a e
        rw [hl] at this
        rw [this, hd]
        simp
      rw [hp, if_pos hc, hs]
      simp only [ltT, hc]
      simpa using ih
    · rw [hp, if_neg hc]
      simp [ltT, hc, hX]
theorem ins_one (A B : List EntD) (e : EntD) : Sort.insInner ltT 0 A.length (A ++ e :: B).toArray = (putC A e ++ B).toArray := by
  have := ins_inner A B e A.length (Nat.le_refl _)
  simp only [List.take_length, List.drop_length, List.nil_append] at this
  rw [this]
  simp [putC]
theorem ins_outer (L : List EntD) : ∀ m i, L.length - i = m → i ≤ L.length → Sort.insOuter ltT 0 L.length i (cutC (L.take i) ++ L.drop i).toArray = (cutC L).toArray := by
  intro m
  induction m with
  | zero =>
    intro i hm hi
    have : i = L.length := by omega
    subst this
    rw [Sort.insOuter, if_neg (by omega)]
    simp
  | succ m ih =>
    intro i hm hi
    have hil : i < L.length := by omega
    rw [Sort.insOuter, if_pos hil, List.drop_eq_getElem_cons hil]
    have hl : (cutC (L.take i)).length = i := by rw [cutC_len]; simp; omega
    have := ins_one (cutC (L.take i)) (L.drop (i + 1)) L[i]
    rw [hl] at this
    rw [this, ← cutC_take (List.getElem?_eq_getElem hil)]
    exact ih (i + 1) (by omega) (by omega)
theorem ins_sort (L : List EntD) : Sort.insertionSort ltT L.toArray 0 L.length = (cutC L).toArray := by
  unfold Sort.insertionSort
  by_cases h : L.length = 0
  · rw [List.length_eq_zero_iff] at h
    subst h
    rw [Sort.insOuter, if_neg (by simp)]
    rfl
  · have h1 : cutC (L.take 1) ++ L.drop 1 = L := by
      match L, h with
      | [], h => simp at h
      | x :: r, _ => simp [cutC, putC, plC]
    have := ins_outer L (L.length - 1) 1 rfl (by omega)
    rw [h1] at this
    exact this

/-! What a key has. -/
/-- What a cell has behind an entry. -/
def doC (c : CellD) (e : EntD) : CellD := cellN c.1 c.2.1 c.2.2 e.2.2.1 e.2.2.2.1 e.2.2.2.2
/-- What a cell of nothing has behind entries. -/
def foldC (L : List EntD) : CellD := L.foldl doC (false, ⟨#[]⟩, 0)
/-- What a key has by its entries up to a time. -/
def cellL (L : List EntD) (key : ByteArray) (seq : Int) : CellD := foldC (cutC (findL L key seq))
theorem foldC_take {L : List EntD} {k : Nat} {e : EntD} (h : L[k]? = some e) : foldC (L.take (k + 1)) = doC (foldC (L.take k)) e := by
  rw [List.take_add_one, h]
  simp [foldC]
end Go.Proofs.YtlmgojlffgkciaaGreat

namespace Go.Proofs.YtlmgojlffgkciaaGreat
open Go.RowKit

/-! What the laws of cells say, of lists alone. -/
theorem find_all {L : List EntD} {key : ByteArray} {seq : Int} {e : EntD} (h : e ∈ findL L key seq) : e.1 = key ∧ e.2.1 ≤ seq := by
  have := (List.mem_filter.1 h).2
  simpa using this
theorem find_again (L : List EntD) (key : ByteArray) (seq : Int) : findL (findL L key seq) key seq = findL L key seq := by
  unfold findL
  rw [List.filter_filter]
  congr 1
  funext e
  simp
theorem plC_all {A : List EntD} {q : Int} (h : ∀ x ∈ A, q < x.2.1) : ∀ k, k ≤ A.length → plC A q k = 0
  | 0, _ => rfl
  | k + 1, hk => by
    have ha := List.getElem?_eq_getElem (show k < A.length from hk)
    rw [plC, ha]
    simp only
    rw [if_pos (h _ (List.getElem_mem _))]
    exact plC_all h k (by omega)
theorem plC_none {A : List EntD} {q : Int} (h : ∀ x ∈ A, ¬ q < x.2.1) : plC A q A.length = A.length := by
  match hA : A.length with
  | 0 => rfl
  | k + 1 =>
    have ha := List.getElem?_eq_getElem (show k < A.length by omega)
    rw [plC, ha]
    simp only
    rw [if_neg (h _ (List.getElem_mem _))]
theorem plC_app (A B : List EntD) (q : Int) : ∀ k, k ≤ A.length → plC (A ++ B) q k = plC A q k
  | 0, _ => rfl
  | k + 1, hk => by
    have h1 : (A ++ B)[k]? = A[k]? := List.getElem?_append_left hk
    rw [plC, plC, h1, plC_app A B q k (by omega)]
theorem plC_skip {A B : List EntD} {q : Int} (h : ∀ x ∈ B, q < x.2.1) : ∀ k, k ≤ B.length → plC (A ++ B) q (A.length + k) = plC A q A.length
  | 0, _ => plC_app A B q A.length (Nat.le_refl _)
  | k + 1, hk => by
    have ha : (A ++ B)[A.length + k]? = some (B[k]'hk) := by
      rw [List.getElem?_append_right (by omega), Nat.add_sub_cancel_left, List.getElem?_eq_getElem hk]
    show plC (A ++ B) q (A.length + k + 1) = _
    rw [plC, ha]
    simp only
    rw [if_pos (h _ (List.getElem_mem _))]
    exact plC_skip h k (by omega)
/-- An entry that is older than all of the later part comes into the earlier one. -/
theorem putC_low {A B : List EntD} {e : EntD} (h : ∀ x ∈ B, e.2.1 < x.2.1) : putC (A ++ B) e = putC A e ++ B := by
  have hp := plC_skip (A := A) h B.length (Nat.le_refl _)
  have hl := plC_le A e.2.1 A.length
  unfold putC
  rw [List.length_append, hp, List.take_append_of_le_length hl, List.drop_append_of_le_length hl]
  simp
/-- One that is older than none stands last. -/
theorem putC_last {A : List EntD} {e : EntD} (h : ∀ x ∈ A, ¬ e.2.1 < x.2.1) : putC A e = A ++ [e] := by
  unfold putC
  rw [plC_none h]
  simp
/-- Entries up to a time: those ahead of it in order, then those of the time as they stood. -/
theorem cutC_top (F : List EntD) (s : Int) (h : ∀ e ∈ F, e.2.1 ≤ s) : cutC F = cutC (F.filter (fun e => decide (e.2.1 ≤ s - 1))) ++ F.filter (fun e => decide (e.2.1 = s)) := by
  have key : ∀ m, m ≤ F.length → cutC (F.take m) = cutC ((F.take m).filter (fun e => decide (e.2.1 ≤ s - 1))) ++ (F.take m).filter (fun e => decide (e.2.1 = s)) := by
    intro m
    induction m with
    | zero => intro _; simp [cutC]
    | succ m ih =>
      intro hm
      have hml : m < F.length := hm
      have hx := h F[m] (List.getElem_mem _)
      rw [cutC_take (List.getElem?_eq_getElem hml), ih (by omega), List.take_add_one, List.getElem?_eq_getElem hml]
      simp only [Option.toList_some, List.filter_append]
      by_cases he : F[m].2.1 = s
      · have e1 : List.filter (fun e => decide (e.2.1 ≤ s - 1)) [F[m]] = [] := by simp; omega
        have e2 : List.filter (fun e : EntD => decide (e.2.1 = s)) [F[m]] = [F[m]] := by simp [he]
        rw [e1, e2, List.append_nil, putC_last, List.append_assoc]
        intro x hx'
        rcases List.mem_append.1 hx' with h1 | h1
        · have := (List.mem_filter.1 (cutC_mem.1 h1)).2
          simp at this
          omega
        · have := (List.mem_filter.1 h1).2
          simp at this
          omega
      · have e1 : List.filter (fun e => decide (e.2.1 ≤ s - 1)) [F[m]] = [F[m]] := by simp; omega
        have e2 : List.filter (fun e : EntD => decide (e.2.1 = s)) [F[m]] = [] := by simp [he]
        rw [e1, e2, List.append_nil, putC_low, cutC_snoc]
        intro x hx'
        have := (List.mem_filter.1 hx').2
        simp at this
        omega
  have := key F.length (Nat.le_refl _)
  rw [List.take_length] at this
  exact this
/-- What is done to a key at a time, as it stands. -/
def atL (L : List EntD) (key : ByteArray) (seq : Int) : List EntD := L.filter (fun e => decide (e.1 = key) && decide (e.2.1 = seq))
theorem cell_next (L : List EntD) (key : ByteArray) (seq : Int) : cellL L key seq = (atL L key seq).foldl doC (cellL L key (seq - 1)) := by
  have h := cutC_top (findL L key seq) seq (fun e he => (find_all he).2)
  have e1 : (findL L key seq).filter (fun e => decide (e.2.1 ≤ seq - 1)) = findL L key (seq - 1) := by
    unfold findL
    rw [List.filter_filter]
    congr 1
    funext e
    by_cases h1 : e.1 = key <;> by_cases h2 : e.2.1 ≤ seq - 1 <;> simp [h1, h2] <;> omega
  have e2 : (findL L key seq).filter (fun e => decide (e.2.1 = seq)) = atL L key seq := by
    unfold findL atL
    rw [List.filter_filter]
    congr 1
    funext e
    by_cases h1 : e.1 = key <;> by_cases h2 : e.2.1 = seq <;> simp [h1, h2]
  rw [e1, e2] at h
  unfold cellL foldC
  rw [h, List.foldl_append]
theorem at_take_yes {L : List EntD} {key : ByteArray} {seq : Int} {k : Nat} {e : EntD} (h : L[k]? = some e) (h1 : e.1 = key) (h2 : e.2.1 = seq) : atL (L.take (k + 1)) key seq = atL (L.take k) key seq ++ [e] := by
  rw [List.take_add_one, h]; simp [atL, h1, h2]
theorem at_take_no {L : List EntD} {key : ByteArray} {seq : Int} {k : Nat} {e : EntD} (h : L[k]? = some e) (h1 : ¬ (e.1 = key ∧ e.2.1 = seq)) : atL (L.take (k + 1)) key seq = atL (L.take k) key seq := by
  rw [List.take_add_one, h]
  simp only [atL, List.filter_append, Option.toList_some]
  have : List.filter (fun e => decide (e.1 = key) && decide (e.2.1 = seq)) [e] = [] := by
    rw [List.filter_eq_nil_iff]
    intro x hx
    simp only [List.mem_singleton] at hx
    subst hx
    simp only [Bool.and_eq_true, decide_eq_true_eq]
    exact h1
  rw [this, List.append_nil]

/-- No two have one time. -/
def UnT (L : List EntD) : Prop := L.Pairwise (fun a b => a.2.1 ≠ b.2.1)
theorem UnT.perm {A B : List EntD} (h : UnT A) (p : A.Perm B) : UnT B := (p.pairwise_iff (fun h => Ne.symm h)).1 h
theorem UnT.find {L : List EntD} (h : UnT L) (key : ByteArray) (seq : Int) : UnT (findL L key seq) := List.Pairwise.filter _ h
theorem putC_sorted {A : List EntD} {e : EntD} (h : A.Pairwise (fun a b => a.2.1 ≤ b.2.1)) : (putC A e).Pairwise (fun a b => a.2.1 ≤ b.2.1) := by
  have key : ∀ (B A : List EntD), (A ++ B).Pairwise (fun a b => a.2.1 ≤ b.2.1) → (∀ x ∈ B, e.2.1 < x.2.1) → (putC (A ++ B) e).Pairwise (fun a b => a.2.1 ≤ b.2.1) := by
    intro B A
    induction hn : A.length generalizing A B with
    | zero =>
      intro hs hB
      rw [List.length_eq_zero_iff] at hn
      subst hn
      rw [putC_low hB]
      have : putC [] e = [e] := by simp [putC, plC]
      rw [this]
      simp only [List.nil_append] at hs
      exact List.pairwise_cons.2 ⟨fun x hx => by have := hB x hx; omega, hs⟩
    | succ n ih =>
      intro hs hB
      obtain ⟨A', x, rfl⟩ : ∃ A' x, A = A' ++ [x] := ⟨A.dropLast, A.getLast (by intro h; simp [h] at hn), (List.dropLast_concat_getLast _).symm⟩
      simp at hn
      by_cases hx : e.2.1 < x.2.1
      · have := ih (x :: B) A' hn (by simpa using hs) (by intro y hy; rcases List.mem_cons.1 hy with rfl | hy; exact hx; exact hB y hy)
        simpa using this
      · rw [putC_low hB, putC_last]
        · rw [List.append_assoc, List.append_assoc]
          rw [List.append_assoc] at hs
          rw [List.pairwise_append] at hs ⊢
          obtain ⟨h1, h2, h3⟩ := hs
          have hB2 := (List.pairwise_cons.1 (show (x :: B).Pairwise (fun a b => a.2.1 ≤ b.2.1) by simpa using h2))
          refine ⟨h1, ?_, ?_⟩
          · simp only [List.singleton_append]
            rw [List.pairwise_cons, List.pairwise_cons]
            refine ⟨?_, ?_, hB2.2⟩
            · intro y hy
              rcases List.mem_cons.1 hy with rfl | hy
              · omega
              · exact hB2.1 y hy
            · intro y hy
              have := hB y hy
              omega
          · intro y hy z hz
            simp only [List.singleton_append, List.mem_cons] at hz
            have hyx := h3 y hy x (by simp)
            rcases hz with rfl | rfl | hz
            · exact hyx
            · omega
            · exact h3 y hy z (by simp [hz])
        · intro y hy
          rcases List.mem_append.1 hy with hy | hy
          · rw [List.append_assoc, List.pairwise_append] at hs
            have := hs.2.2 y hy x (by simp)
            omega
          · simp at hy
            subst hy
            exact hx
  have := key [] A (by simpa using h) (by simp)
  simpa using this
theorem cutC_sorted (L : List EntD) : (cutC L).Pairwise (fun a b => a.2.1 ≤ b.2.1) := by
  have key : ∀ (L A : List EntD), A.Pairwise (fun a b => a.2.1 ≤ b.2.1) → (L.foldl putC A).Pairwise (fun a b => a.2.1 ≤ b.2.1) := by
    intro L
    induction L with
    | nil => intro A h; exact h
    | cons e r ih => intro A h; exact ih _ (putC_sorted h)
  exact key L [] List.Pairwise.nil
theorem cutC_strict {L : List EntD} (h : UnT L) : (cutC L).Pairwise (fun a b => a.2.1 < b.2.1) := by
  have h1 := cutC_sorted L
  have h2 : UnT (cutC L) := h.perm (cutC_perm L).symm
  exact (h1.and h2).imp (fun {a b} hh => by have := hh.1; have := hh.2; omega)
/-- Of unlike times one order alone is right. -/
theorem strict_same : ∀ {A B : List EntD}, A.Perm B → A.Pairwise (fun a b => a.2.1 < b.2.1) → B.Pairwise (fun a b => a.2.1 < b.2.1) → A = B
  | [], B, p, _, _ => (List.nil_perm.1 p).symm
  | a :: A, [], p, _, _ => by cases List.nil_perm.1 p.symm
  | a :: A, b :: B, p, hA, hB => by
    have hA' := List.pairwise_cons.1 hA
    have hB' := List.pairwise_cons.1 hB
    have hab : a = b := by
      rcases List.mem_cons.1 (p.mem_iff.1 (List.mem_cons_self (a := a) (l := A))) with h | h
      · exact h
      · rcases List.mem_cons.1 (p.mem_iff.2 (List.mem_cons_self (a := b) (l := B))) with h' | h'
        · exact h'.symm
        · have x1 := hB'.1 a h
          have x2 := hA'.1 b h'
          omega
    subst hab
    rw [strict_same ((List.perm_cons a).1 p) hA'.2 hB'.2]
theorem cutC_same {A B : List EntD} (hA : UnT A) (p : A.Perm B) : cutC A = cutC B :=
  strict_same ((cutC_perm A).trans (p.trans (cutC_perm B).symm)) (cutC_strict hA) (cutC_strict (hA.perm p))
theorem find_rev (L : List EntD) (key : ByteArray) (seq : Int) : findL L.reverse key seq = (findL L key seq).reverse := by simp [findL]
theorem cell_rev {L : List EntD} (h : UnT L) (key : ByteArray) (seq : Int) : cellL L.reverse key seq = cellL L key seq := by
  unfold cellL
  rw [find_rev, cutC_same ((h.find key seq).perm (List.reverse_perm _).symm) (List.reverse_perm _)]
theorem cell_mine {L : List EntD} (h : UnT L) (key : ByteArray) (seq : Int) : cellL (findL L key seq).reverse key seq = cellL L key seq := by
  rw [cell_rev (h.find key seq)]
  unfold cellL
  rw [find_again]
theorem cell_late {L : List EntD} (key other t1 t2 : ByteArray) (seq q d1 d2 n1 n2 : Int) (h : other ≠ key) : cellL (L ++ [(key, seq + 1, d1, t1, n1), (other, q, d2, t2, n2)]) key seq = cellL L key seq := by
  have : findL (L ++ [(key, seq + 1, d1, t1, n1), (other, q, d2, t2, n2)]) key seq = findL L key seq := by
    unfold findL
    rw [List.filter_append]
    have : List.filter (fun e : EntD => decide (e.1 = key) && decide (e.2.1 ≤ seq)) [(key, seq + 1, d1, t1, n1), (other, q, d2, t2, n2)] = [] := by
      rw [List.filter_eq_nil_iff]
      intro x hx
      simp only [List.mem_cons, List.not_mem_nil, or_false] at hx
      rcases hx with rfl | rfl
      · simp; omega
      · simp [h]
    rw [this, List.append_nil]
  unfold cellL
  rw [this]
theorem cell_zero {L : List EntD} (h : ∀ e ∈ L, 1 ≤ e.2.1) (key : ByteArray) : cellL L key 0 = (false, ⟨#[]⟩, 0) := by
  have : findL L key 0 = [] := by
    unfold findL
    rw [List.filter_eq_nil_iff]
    intro e he
    have := h e he
    simp
    omega
  unfold cellL
  rw [this]
  rfl
end Go.Proofs.YtlmgojlffgkciaaGreat

namespace Go.Proofs.YtlmgojlffgkciaaGreat
open Go.RowKit

/-! A cell is its last reset and what was added since. -/
/-- The last time at which something was put or taken away, or the time so far. -/
def lastG (m : Int) (e : EntD) : Int := if e.2.2.1 ≠ 3 ∧ m < e.2.1 then e.2.1 else m
def lastL (V : List EntD) : Int := V.foldl lastG 0
theorem last_ge (V : List EntD) : ∀ m, m ≤ V.foldl lastG m := by
  induction V with
  | nil => intro m; exact Int.le_refl _
  | cons e r ih =>
    intro m
    rw [List.foldl_cons]
    have := ih (lastG m e)
    have : m ≤ lastG m e := by unfold lastG; split <;> omega
    omega
theorem last_all (V : List EntD) : ∀ m, ∀ e ∈ V, e.2.2.1 ≠ 3 → e.2.1 ≤ V.foldl lastG m := by
  induction V with
  | nil => intro m e he; cases he
  | cons x r ih =>
    intro m e he hk
    rw [List.foldl_cons]
    rcases List.mem_cons.1 he with rfl | h
    · have := last_ge r (lastG m e)
      have : e.2.1 ≤ lastG m e := by unfold lastG; split <;> omega
      omega
    · exact ih _ e h hk
theorem last_has (V : List EntD) : ∀ m, V.foldl lastG m = m ∨ ∃ e ∈ V, e.2.2.1 ≠ 3 ∧ e.2.1 = V.foldl lastG m := by
  induction V with
  | nil => intro m; exact Or.inl rfl
  | cons x r ih =>
    intro m
    rw [List.foldl_cons]
    rcases ih (lastG m x) with h | ⟨e, he, hk, hq⟩
    · rw [h]
      by_cases hc : x.2.2.1 ≠ 3 ∧ m < x.2.1
      · refine Or.inr ⟨x, List.mem_cons_self, hc.1, ?_⟩
        unfold lastG; rw [if_pos hc]
      · left; unfold lastG; rw [if_neg hc]
    · exact Or.inr ⟨e, List.mem_cons_of_mem _ he, hk, hq⟩
/-- What is told of entries: whether one is not a taking away, the text of the last put, all numbers together. -/
def sumG (c : CellD) (e : EntD) : CellD := (c.1 || decide (e.2.2.1 ≠ 2), if e.2.2.1 = 1 then e.2.2.2.1 else c.2.1, c.2.2 + e.2.2.2.2)
def sumN (S : List EntD) : Int := (S.map (fun e => e.2.2.2.2)).sum
theorem sumG_text {S : List EntD} {T : ByteArray} (h : ∀ e ∈ S, e.2.2.1 = 1 → e.2.2.2.1 = T) : ∀ c : CellD, S.foldl sumG c = (c.1 || S.any (fun e => decide (e.2.2.1 ≠ 2)), if S.any (fun e => decide (e.2.2.1 = 1)) = true then T else c.2.1, c.2.2 + sumN S) := by
  induction S with
  | nil => intro c; simp [sumN]
  | cons x r ih =>
    intro c
    rw [List.foldl_cons, ih (fun e he => h e (List.mem_cons_of_mem _ he))]
    unfold sumG
    apply Prod.ext
    · simp [Bool.or_assoc]
    · apply Prod.ext
      · by_cases h1 : x.2.2.1 = 1
        · have := h x List.mem_cons_self h1
          simp [h1, this]
        · have hany : ((x :: r).any (fun e => decide (e.2.2.1 = 1))) = r.any (fun e => decide (e.2.2.1 = 1)) := by rw [List.any_cons, decide_eq_false h1, Bool.false_or]
          simp only [hany, if_neg h1]
      · simp [sumN]; omega
theorem sumN_perm {A B : List EntD} (p : A.Perm B) : sumN A = sumN B := by
  induction p with
  | nil => rfl
  | cons x _ ih => simp only [sumN, List.map_cons, List.sum_cons] at ih ⊢; omega
  | swap x y l => simp only [sumN, List.map_cons, List.sum_cons]; omega
  | trans _ _ ih1 ih2 => exact ih1.trans ih2
theorem any_perm {A B : List EntD} (p : A.Perm B) (f : EntD → Bool) : A.any f = B.any f := by
  rw [Bool.eq_iff_iff, List.any_eq_true, List.any_eq_true]
  exact ⟨fun ⟨x, hx, h⟩ => ⟨x, p.mem_iff.1 hx, h⟩, fun ⟨x, hx, h⟩ => ⟨x, p.mem_iff.2 hx, h⟩⟩
theorem sumN_bound {S : List EntD} (h : ∀ e ∈ S, -1000 ≤ e.2.2.2.2 ∧ e.2.2.2.2 ≤ 1000) : -1000 * (S.length : Int) ≤ sumN S ∧ sumN S ≤ 1000 * (S.length : Int) := by
  induction S with
  | nil => simp [sumN]
  | cons x r ih =>
    have h1 := ih (fun e he => h e (List.mem_cons_of_mem _ he))
    have h2 := h x List.mem_cons_self
    have : sumN (x :: r) = x.2.2.2.2 + sumN r := by simp [sumN]
    rw [this]
    simp only [List.length_cons]
    omega
theorem wrap_mid (n : Int) (h0 : -100000000 ≤ n) (h1 : n ≤ 100000000) : wrap64 n = n := by unfold wrap64; omega
/-- What adds alone do. -/
theorem fold_adds {S : List EntD} (h3 : ∀ e ∈ S, e.2.2.1 = 3) (hb : ∀ e ∈ S, -1000 ≤ e.2.2.2.2 ∧ e.2.2.2.2 ≤ 1000) : ∀ c : CellD, (S.length : Int) ≤ 1000 → -1000000 - 1000 * (1000 - (S.length : Int)) ≤ c.2.2 → c.2.2 ≤ 1000000 + 1000 * (1000 - (S.length : Int)) → S.foldl doC c = (c.1 || S.any (fun e => decide (e.2.2.1 ≠ 2)), c.2.1, c.2.2 + sumN S) := by
  induction S with
  | nil => intro c _ _ _; simp [sumN]
  | cons x r ih =>
    intro c hl h0 h1
    have hx3 := h3 x List.mem_cons_self
    have hxb := hb x List.mem_cons_self
    simp only [List.length_cons] at hl h0 h1
    have hw : doC c x = (true, c.2.1, c.2.2 + x.2.2.2.2) := by
      unfold doC
      rw [hx3]
      unfold cellN
      simp only [show ¬ (3 : Int) = 1 by decide, show ¬ (3 : Int) = 2 by decide, if_false, if_true]
      rw [wrap_mid _ (by omega) (by omega)]
    rw [List.foldl_cons, hw, ih (fun e he => h3 e (List.mem_cons_of_mem _ he)) (fun e he => hb e (List.mem_cons_of_mem _ he)) _ (by omega) (by simp only; omega) (by simp only; omega)]
    have : sumN (x :: r) = x.2.2.2.2 + sumN r := by simp [sumN]
    rw [this]
    simp [hx3]
    omega
theorem split_sorted {C : List EntD} (h : C.Pairwise (fun a b => a.2.1 < b.2.1)) (m : Int) : C = C.filter (fun e => decide (e.2.1 < m)) ++ C.filter (fun e => decide (m ≤ e.2.1)) := by
  induction C with
  | nil => rfl
  | cons x r ih =>
    have hp := List.pairwise_cons.1 h
    by_cases hx : x.2.1 < m
    · have hx' : ¬ m ≤ x.2.1 := by omega
      rw [List.filter_cons_of_pos (by simpa using hx), List.filter_cons_of_neg (by simpa using hx'), List.cons_append, ← ih hp.2]
    · have e1 : (x :: r).filter (fun e => decide (e.2.1 < m)) = [] := by
        rw [List.filter_eq_nil_iff]
        intro y hy
        rcases List.mem_cons.1 hy with rfl | hy
        · simpa using hx
        · have := hp.1 y hy
          simp; omega
      have e2 : (x :: r).filter (fun e => decide (m ≤ e.2.1)) = x :: r := by
        rw [List.filter_eq_self]
        intro y hy
        rcases List.mem_cons.1 hy with rfl | hy
        · simp; omega
        · have := hp.1 y hy
          simp; omega
      rw [e1, e2, List.nil_append]
/-- What may be drawn. -/
def Fit (e : EntD) : Prop := 1 ≤ e.2.1 ∧ (e.2.2.1 = 1 ∨ e.2.2.1 = 2 ∨ e.2.2.1 = 3) ∧ (e.2.2.1 = 2 → e.2.2.2.2 = 0) ∧ (-1000 ≤ e.2.2.2.2 ∧ e.2.2.2.2 ≤ 1000)
theorem fold_sum {V : List EntD} (hu : UnT V) (hf : ∀ e ∈ V, Fit e) (hl : V.length ≤ 100) :
    foldC (cutC V) = (V.filter (fun e => decide (lastL V ≤ e.2.1))).foldl sumG (false, ⟨#[]⟩, 0) := by
  have hs := cutC_strict hu
  have hp := cutC_perm V
  obtain ⟨m, hm⟩ : ∃ m, m = lastL V := ⟨_, rfl⟩
  obtain ⟨C, hC⟩ : ∃ C, C = cutC V := ⟨_, rfl⟩
  rw [← hC] at hs hp ⊢
  rw [← hm]
  have hlen : C.length = V.length := hp.length_eq
  have hCf : ∀ e ∈ C, Fit e := fun e he => hf e (hp.mem_iff.1 he)
  have hall : ∀ e ∈ C, e.2.2.1 ≠ 3 → e.2.1 ≤ m := fun e he hk => by rw [hm]; exact last_all V 0 e (hp.mem_iff.1 he) hk
  have hsplit := split_sorted hs m
  have pS : (V.filter (fun e => decide (m ≤ e.2.1))).Perm (C.filter (fun e => decide (m ≤ e.2.1))) := (hp.symm.filter _)
  obtain ⟨Q, hQ⟩ : ∃ Q, Q = C.filter (fun e => decide (m ≤ e.2.1)) := ⟨_, rfl⟩
  rw [← hQ] at pS hsplit
  have hQm : ∀ e, e ∈ Q → e ∈ C ∧ m ≤ e.2.1 := fun e he => by rw [hQ] at he; have := List.mem_filter.1 he; exact ⟨this.1, by simpa using this.2⟩
  have hQs : Q.Pairwise (fun a b => a.2.1 < b.2.1) := by rw [hQ]; exact List.Pairwise.filter _ hs
  have hQl : Q.length ≤ 100 := by have : Q.length ≤ C.length := by rw [hQ]; exact List.length_filter_le _ _
                                  omega
  -- the one that is not an add, if there is one, stands first
  have hcase : (∀ e ∈ Q, e.2.2.1 = 3) ∧ C = Q ∨ ∃ z A, Q = z :: A ∧ z.2.2.1 ≠ 3 ∧ ∀ e ∈ A, e.2.2.1 = 3 := by
    rcases last_has V 0 with h0 | ⟨z, hz, hk, hq⟩
    · left
      have hm0 : m = 0 := hm.trans h0
      have h3 : ∀ e ∈ C, e.2.2.1 = 3 := fun e he => Classical.byContradiction fun hk => by
        have := hall e he hk
        have := (hCf e he).1
        omega
      refine ⟨fun e he => h3 e (hQm e he).1, ?_⟩
      rw [hQ]
      refine (List.filter_eq_self.2 fun e he => ?_).symm
      have := (hCf e he).1
      simp; omega
    · right
      have hzm : z.2.1 = m := by rw [hm]; exact hq
      have hzQ : z ∈ Q := by rw [hQ]; exact List.mem_filter.2 ⟨hp.mem_iff.2 hz, by simp; omega⟩
      match Q, hQs, hzQ, hQm with
      | x :: A, hQs, hzQ, hQm =>
        have hx := List.pairwise_cons.1 hQs
        have hxz : z = x := by
          rcases List.mem_cons.1 hzQ with h | h
          · exact h
          · have := hx.1 z h
            have := (hQm x List.mem_cons_self).2
            omega
        subst hxz
        refine ⟨z, A, rfl, hk, fun e he => Classical.byContradiction fun hk' => ?_⟩
        have := hall e (hQm e (List.mem_cons_of_mem _ he)).1 hk'
        have := hx.1 e he
        omega
  rcases hcase with ⟨h3, hCQ⟩ | ⟨z, A, hzA, hz3, hA3⟩
  · have ht : ∀ e ∈ V.filter (fun e => decide (m ≤ e.2.1)), e.2.2.1 = 1 → e.2.2.2.1 = ⟨#[]⟩ := fun e he hk => by
      have := h3 e (pS.mem_iff.1 he)
      omega
    rw [sumG_text ht, any_perm pS, sumN_perm pS]
    have hno : (V.filter (fun e => decide (m ≤ e.2.1))).any (fun e => decide (e.2.2.1 = 1)) = false := by
      rw [List.any_eq_false]
      intro e he
      have := h3 e (pS.mem_iff.1 he)
      simp; omega
    rw [hno, hCQ]
    unfold foldC
    rw [fold_adds h3 (fun e he => (hCf e (hQm e he).1).2.2.2) _ (by omega) (by simp only; omega) (by simp only; omega)]
    simp
  · have hzC := hQm z (by rw [hzA]; exact List.mem_cons_self)
    have hzf := hCf z hzC.1
    have hAf : ∀ e ∈ A, -1000 ≤ e.2.2.2.2 ∧ e.2.2.2.2 ≤ 1000 := fun e he => (hCf e (hQm e (by rw [hzA]; exact List.mem_cons_of_mem _ he)).1).2.2.2
    have hAl : A.length ≤ 100 := by rw [hzA] at hQl; simp at hQl; omega
    have hfold : foldC C = A.foldl doC (doC (foldC (C.filter (fun e => decide (e.2.1 < m)))) z) := by
      conv => lhs; rw [hsplit]
      unfold foldC
      rw [List.foldl_append, hzA, List.foldl_cons]
    have ht : ∀ e ∈ V.filter (fun e => decide (m ≤ e.2.1)), e.2.2.1 = 1 → e.2.2.2.1 = z.2.2.2.1 := fun e he hk => by
      have he' := pS.mem_iff.1 he
      rw [hzA] at he'
      rcases List.mem_cons.1 he' with rfl | h
      · rfl
      · have := hA3 e h; omega
    rw [sumG_text ht, any_perm pS, any_perm pS, sumN_perm pS, hfold, hzA]
    have hAno : A.any (fun e => decide (e.2.2.1 = 1)) = false := by
      rw [List.any_eq_false]
      intro e he
      have := hA3 e he
      simp; omega
    have hsum : sumN (z :: A) = z.2.2.2.2 + sumN A := by simp [sumN]
    rcases hzf.2.1 with hk | hk | hk
    · have hd : ∀ c, doC c z = (true, z.2.2.2.1, z.2.2.2.2) := fun c => by unfold doC; rw [hk]; simp [cellN]
      have hb := hzf.2.2.2
      rw [hd, fold_adds hA3 hAf _ (by omega) (by simp only; omega) (by simp only; omega), hsum]
      simp [hk]
    · have hd : ∀ c, doC c z = (false, ⟨#[]⟩, 0) := fun c => by unfold doC; rw [hk]; simp [cellN]
      rw [hd, fold_adds hA3 hAf _ (by omega) (by simp only; omega) (by simp only; omega), hsum, hzf.2.2.1 hk]
      simp [hk, hAno]
    · exact absurd hk hz3
end Go.Proofs.YtlmgojlffgkciaaGreat
