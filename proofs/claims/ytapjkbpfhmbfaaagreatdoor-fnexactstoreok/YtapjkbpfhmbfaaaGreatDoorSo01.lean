/-
  The text of a batch that was done, plain; no statement of the program stands here.
  How the text of a batch is read, plain; no statement of the program stands here.
  Plain: which entries of batches are later than a time, and what is told by a log whose earlier batches are left out; no statement of the program stands here.
  What a call leaves as it was, cell by cell; no statement of the program stands here.
  The laws' own helpers over one entry (size, copy), by walks of their Go text; and how an entry that came in is opened.
-/
import Derived.Lib.ItoaLen
import Derived.Test.YtapjkbpfhmbfaaaGreatDoorSo00
import Derived.WalkKit
import Derived.WalkSpells
import Derived.WalkLawsBesides
import Derived.Test.YtapjkbpfhmbfaaaGreatDoorProg
import Derived.ProofKit
import Derived.Lib.SmallJoins
namespace Go.Proofs.YtapjkbpfhmbfaaaGreatDoor
open Go.RowKit
def entOk (e : EntD) : Bool := entB e.1 e.2.1 e.2.2.1 e.2.2.2.1 e.2.2.2.2
def stepB (L : List EntD) : Nat → Bool
  | 0 => match L[0]? with
    | none => true
    | some e => entOk e
  | j + 1 => match L[j + 1]?, L[j]? with
    | some e, some p => entOk e && decide (e.2.1 = p.2.1 + 1)
    | _, _ => true
def stepsB (L : List EntD) (k : Nat) : Bool := (List.range k).all (stepB L)
def doneB (L : List EntD) : Bool := decide (1 ≤ L.length) && (decide (L.length ≤ 12) && stepsB L L.length)
theorem steps_succ (L : List EntD) (k : Nat) : stepsB L (k + 1) = (stepsB L k && stepB L k) := by
  simp [stepsB, List.range_succ]
theorem steps_snoc {L : List EntD} {k : Nat} (h : stepsB L k = true) (h1 : stepB L k = true) : stepsB L (k + 1) = true := by rw [steps_succ, h, h1]; rfl
theorem steps_no {L : List EntD} {k : Nat} (hk : k < L.length) (h : stepB L k = false) : stepsB L L.length = false := by
  unfold stepsB
  rw [List.all_eq_false]
  exact ⟨k, by simpa using hk, by simp [h]⟩
theorem step_zero {L : List EntD} {e : EntD} (h : L[0]? = some e) : stepB L 0 = entOk e := by simp only [stepB, h]
theorem step_ent {L : List EntD} {k : Nat} {e : EntD} (h : L[k]? = some e) (hv : entOk e = false) : k = 0 ∨ (∃ p, L[k - 1]? = some p) → stepB L k = false := by
  intro hp
  cases k with
  | zero => rw [step_zero h, hv]
  | succ j =>
    rcases hp with hp | ⟨p, hp⟩
    · omega
    · simp only [Nat.add_sub_cancel] at hp
      simp only [stepB, h, hp, hv, Bool.false_and]
theorem step_ent' {L : List EntD} {k : Nat} {e : EntD} (h : L[k]? = some e) (hv : entOk e = false) : stepB L k = false := by
  apply step_ent h hv
  cases k with
  | zero => exact Or.inl rfl
  | succ j =>
    have := (List.getElem?_eq_some_iff.1 h).1
    exact Or.inr ⟨L[j], by simp only [Nat.add_sub_cancel]; exact List.getElem?_eq_getElem (by omega)⟩
theorem step_succ {L : List EntD} {j : Nat} {e p : EntD} (h : L[j + 1]? = some e) (hp : L[j]? = some p) : stepB L (j + 1) = (entOk e && decide (e.2.1 = p.2.1 + 1)) := by simp only [stepB, h, hp]
theorem steps_ok {L : List EntD} {k j : Nat} {e : EntD} (h : stepsB L k = true) (hj : j < k) (he : L[j]? = some e) : entOk e = true := by
  unfold stepsB at h
  have h1 := List.all_eq_true.1 h j (by simpa using hj)
  cases hv : entOk e with
  | true => rfl
  | false => rw [step_ent' he hv] at h1; cases h1
theorem done_few {L : List EntD} (h : L.length < 1) : doneB L = false := by unfold doneB; rw [decide_eq_false (by omega)]; rfl
theorem done_many {L : List EntD} (h : 12 < L.length) : doneB L = false := by unfold doneB; rw [decide_eq_false (p := L.length ≤ 12) (by omega)]; simp
theorem done_no {L : List EntD} {k : Nat} (hk : k < L.length) (h : stepB L k = false) : doneB L = false := by unfold doneB; rw [steps_no hk h]; simp
theorem done_yes {L : List EntD} (h1 : 1 ≤ L.length) (h2 : L.length ≤ 12) (h : stepsB L L.length = true) : doneB L = true := by unfold doneB; rw [decide_eq_true h1, decide_eq_true h2, h]; rfl
theorem done_all {L : List EntD} (h : stepsB L L.length = true) : doneB L = (decide (1 ≤ L.length) && decide (L.length ≤ 12)) := by unfold doneB; rw [h]; simp
theorem done_parts {L : List EntD} (h : doneB L = true) : 1 ≤ L.length ∧ L.length ≤ 12 ∧ ∀ e ∈ L, entOk e = true := by
  simp only [doneB, Bool.and_eq_true, decide_eq_true_eq] at h
  refine ⟨h.1, h.2.1, fun e he => ?_⟩
  obtain ⟨j, hj⟩ := List.mem_iff_getElem?.1 he
  exact steps_ok h.2.2 (List.getElem?_eq_some_iff.1 hj).1 hj
def entT (e : EntD) : List UInt8 := e.1.data.toList ++ 32 :: (Lib.itoa e.2.1 ++ 32 :: (Lib.itoa e.2.2.1 ++ 32 :: (Lib.itoa e.2.2.2.2 ++ 32 :: (Lib.itoa (e.2.2.2.1.size : Int) ++ 32 :: e.2.2.2.1.data.toList))))
def entsT : List EntD → List UInt8
  | [] => []
  | e :: r => entT e ++ entsT r
def frameB (L : List EntD) : ByteArray := if doneB L = true then ⟨(Lib.itoa ((entsT L).length : Int) ++ 32 :: (entsT L ++ [10])).toArray⟩ else ⟨#[]⟩
theorem entsT_append (A B : List EntD) : entsT (A ++ B) = entsT A ++ entsT B := by
  induction A with
  | nil => rfl
  | cons l r ih => simp [entsT, ih]
theorem entsT_take {L : List EntD} {k : Nat} {l : EntD} (h : L[k]? = some l) : entsT (L.take (k + 1)) = entsT (L.take k) ++ entT l := by
  rw [List.take_add_one, h, entsT_append]
  simp [entsT]
theorem ent_parts {e : EntD} (h : entOk e = true) : e.1.size ≤ 8 ∧ 1 ≤ e.2.1 ∧ e.2.1 ≤ 100000 ∧ 1 ≤ e.2.2.1 ∧ e.2.2.1 ≤ 3 ∧ -1000000 ≤ e.2.2.2.2 ∧ e.2.2.2.2 ≤ 1000000 ∧ e.2.2.2.1.size ≤ 60 := by
  obtain ⟨k, q, d, t, n⟩ := e
  unfold entOk at h
  have hk : k.size ≤ 8 := by
    rcases Nat.lt_or_ge 8 k.size with h' | h'
    · rw [entB_key (keyB_big k h')] at h; cases h
    · exact h'
  have a1 : 1 ≤ q := by
    rcases Int.lt_or_le q 1 with h' | h'
    · rw [entB_q1 h'] at h; cases h
    · exact h'
  have a2 : q ≤ 100000 := by
    rcases Int.lt_or_le 100000 q with h' | h'
    · rw [entB_q2 h'] at h; cases h
    · exact h'
  have a3 : -1000000 ≤ n := by
    rcases Int.lt_or_le n (-1000000) with h' | h'
    · rw [entB_n1 h'] at h; cases h
    · exact h'
  have a4 : n ≤ 1000000 := by
    rcases Int.lt_or_le 1000000 n with h' | h'
    · rw [entB_n2 h'] at h; cases h
    · exact h'
  have a5 : t.size ≤ 60 := by
    rcases Nat.lt_or_ge 60 t.size with h' | h'
    · rw [entB_t h'] at h; cases h
    · exact h'
  have hk' : keyB k = true := by
    cases hk' : keyB k with
    | true => rfl
    | false => rw [entB_key hk'] at h; cases h
  rw [entB_rest hk' a1 a2 a3 a4 a5] at h
  have a6 : 1 ≤ d ∧ d ≤ 3 := by
    by_cases d1 : d = 1
    · omega
    by_cases d2 : d = 2
    · omega
    by_cases d3 : d = 3
    · omega
    rw [kindB_0 d1 d2 d3] at h
    cases h
  exact ⟨hk, a1, a2, a6.1, a6.2, a3, a4, a5⟩
theorem bytes_len (s : ByteArray) : s.data.toList.length = s.size := by rw [Array.length_toList]; rfl
theorem entT_len {e : EntD} (h : entOk e = true) : (entT e).length ≤ 160 := by
  obtain ⟨h1, h2, h3, h4, h5, h6, h7, h8⟩ := ent_parts h
  have e1 := Lib.itoa_length_le e.2.1 (by omega) (by omega)
  have e2 := Lib.itoa_length_le e.2.2.1 (by omega) (by omega)
  have e3 := Lib.itoa_length_le e.2.2.2.2 (by omega) (by omega)
  have e4 := Lib.itoa_length_le (e.2.2.2.1.size : Int) (by omega) (by omega)
  simp only [entT, List.length_append, List.length_cons, bytes_len]
  omega
theorem entsT_len : ∀ (L : List EntD), (∀ e ∈ L, entOk e = true) → (entsT L).length ≤ 160 * L.length
  | [], _ => by simp [entsT]
  | l :: r, h => by
    have h1 := entT_len (h l (by simp))
    have h2 := entsT_len r (fun x hx => h x (by simp [hx]))
    simp only [entsT, List.length_append, List.length_cons]
    omega
theorem frameB_no {L : List EntD} (h : doneB L = false) : frameB L = ⟨#[]⟩ := by unfold frameB; rw [h]; simp
theorem frameB_yes {L : List EntD} (h : doneB L = true) : frameB L = ⟨(Lib.itoa ((entsT L).length : Int) ++ 32 :: (entsT L ++ [10])).toArray⟩ := by unfold frameB; rw [if_pos h]
end Go.Proofs.YtapjkbpfhmbfaaaGreatDoor

namespace Go.Proofs.YtapjkbpfhmbfaaaGreatDoor
open Go.RowKit
def pieceP (n : Int) (l : List UInt8) : List UInt8 × List UInt8 := if n < 0 ∨ (l.length : Int) < n then ([], l) else (l.take n.toNat, l.drop n.toNat)
def wordP (l : List UInt8) : List UInt8 × List UInt8 := if (32 : UInt8) ∈ l then (l.takeWhile (· != 32), (l.dropWhile (· != 32)).drop 1) else ([], l.drop 1)
def numP (l : List UInt8) : Int × List UInt8 := ((match Lib.atoiAll (wordP l).1 with | .ok v => v | _ => 0), (wordP l).2)
def entP (l : List UInt8) : EntD × List UInt8 :=
  let k := wordP l
  let q := numP k.2
  let d := numP q.2
  let n := numP d.2
  let z := numP n.2
  let t := pieceP z.1 z.2
  ((⟨k.1.toArray⟩, q.1, d.1, ⟨t.1.toArray⟩, n.1), t.2)
def bodyP : Nat → Int → List UInt8 → List EntD
  | 0, _, _ => []
  | k + 1, s, l => if s < (l.length : Int) then (entP l).1 :: bodyP k s (entP l).2 else []
theorem takeW_hit : ∀ (u r : List UInt8), (32 : UInt8) ∉ u → (u ++ 32 :: r).takeWhile (· != 32) = u ∧ (u ++ 32 :: r).dropWhile (· != 32) = 32 :: r
  | [], r, _ => by simp
  | x :: u, r, h => by
    have h1 : (x != 32) = true := by simpa using fun e : x = 32 => h (by simp [e])
    have h2 := takeW_hit u r (fun hm => h (by simp [hm]))
    constructor
    · simp only [List.cons_append, List.takeWhile_cons, h1, if_true, h2.1]
    · simp only [List.cons_append, List.dropWhile_cons, h1, if_true, h2.2]
theorem word_hit (u r : List UInt8) (h : (32 : UInt8) ∉ u) : wordP (u ++ 32 :: r) = (u, r) := by
  obtain ⟨h1, h2⟩ := takeW_hit u r h
  rw [wordP, if_pos (by simp), h1, h2]
  rfl
theorem itoa_sp (n : Int) : (32 : UInt8) ∉ Lib.itoa n := word_not (itoa_word n) (by decide)
theorem num_hit (n : Int) (r : List UInt8) (h0 : -10000000 ≤ n) (h1 : n ≤ 10000000) : numP (Lib.itoa n ++ 32 :: r) = (n, r) := by
  rw [numP, word_hit _ _ (itoa_sp n), atoi_itoa n h0 h1]
theorem piece_hit (u r : List UInt8) : pieceP (u.length : Int) (u ++ r) = (u, r) := by
  rw [pieceP, if_neg (by simp; omega)]
  simp
theorem key_sp {s : ByteArray} (h : keyB s = true) : (32 : UInt8) ∉ s.data.toList := by
  intro hm
  simp only [keyB, Bool.and_eq_true] at h
  have := List.all_eq_true.1 h.2.2 32 hm
  exact absurd this (by decide)
theorem ent_key {e : EntD} (h : entOk e = true) : keyB e.1 = true := by
  unfold entOk at h
  cases hk : keyB e.1 with
  | true => rfl
  | false => rw [entB_key hk] at h; cases h
theorem ent_hit {e : EntD} (h : entOk e = true) (r : List UInt8) : entP (entT e ++ r) = (e, r) := by
  obtain ⟨h1, h2, h3, h4, h5, h6, h7, h8⟩ := ent_parts h
  have hk := key_sp (ent_key h)
  obtain ⟨k, q, d, t, n⟩ := e
  simp only at h1 h2 h3 h4 h5 h6 h7 h8 hk
  have e0 : entT (k, q, d, t, n) ++ r = k.data.toList ++ 32 :: (Lib.itoa q ++ 32 :: (Lib.itoa d ++ 32 :: (Lib.itoa n ++ 32 :: (Lib.itoa (t.size : Int) ++ 32 :: (t.data.toList ++ r))))) := by simp [entT]
  rw [e0, entP]
  simp only [word_hit _ _ hk, num_hit q _ (by omega) (by omega), num_hit d _ (by omega) (by omega), num_hit n _ (by omega) (by omega), num_hit (t.size : Int) _ (by omega) (by omega)]
  rw [show (t.size : Int) = (t.data.toList.length : Int) by rw [bytes_len]]
  rw [piece_hit]
theorem entT_pos (e : EntD) : 1 ≤ (entT e).length := by simp [entT]; omega
theorem body_hit : ∀ (L : List EntD) (k : Nat) (r : List UInt8), (∀ e ∈ L, entOk e = true) → L.length ≤ k → bodyP k (r.length : Int) (entsT L ++ r) = L
  | [], 0, r, _, _ => rfl
  | [], k + 1, r, _, _ => by simp [bodyP, entsT]
  | e :: L, 0, r, _, h => by simp at h
  | e :: L, k + 1, r, ha, h => by
    have hp := entT_pos e
    have e0 : entsT (e :: L) ++ r = entT e ++ (entsT L ++ r) := by simp [entsT]
    rw [e0, bodyP, if_pos (by simp; omega), ent_hit (ha e (by simp))]
    simp only
    rw [body_hit L k r (fun x hx => ha x (by simp [hx])) (by simpa using h)]
def frameT (L : List EntD) : List UInt8 := Lib.itoa ((entsT L).length : Int) ++ 32 :: (entsT L ++ [10])
def FrAt (l : List UInt8) (L : List EntD) : Prop := doneB L = true ∧ ∃ r, l = frameT L ++ r
theorem entsT_small {L : List EntD} (h : doneB L = true) : (entsT L).length ≤ 1920 := by
  obtain ⟨h1, h2, h3⟩ := done_parts h
  have := entsT_len L h3
  omega
theorem frame_hit {l : List UInt8} {L : List EntD} (h : FrAt l L) : (numP l).1 = ((entsT L).length : Int) ∧ ∃ r, (numP l).2 = entsT L ++ 10 :: r ∧ bodyP 12 (((numP l).2.length : Int) - (numP l).1) (numP l).2 = L := by
  obtain ⟨hd, r, rfl⟩ := h
  obtain ⟨h1, h2, h3⟩ := done_parts hd
  have hs := entsT_small hd
  have e0 : frameT L ++ r = Lib.itoa ((entsT L).length : Int) ++ 32 :: (entsT L ++ 10 :: r) := by simp [frameT]
  rw [e0, num_hit _ _ (by omega) (by omega)]
  refine ⟨rfl, r, rfl, ?_⟩
  have e1 : ((entsT L ++ 10 :: r).length : Int) - ((entsT L).length : Int) = ((10 :: r).length : Int) := by simp; omega
  simp only [e1]
  exact body_hit L 12 (10 :: r) h3 h2
theorem frame_inj {l : List UInt8} {L M : List EntD} (h : FrAt l L) (k : FrAt l M) : L = M := by
  obtain ⟨_, _, _, h1⟩ := frame_hit h
  obtain ⟨_, _, _, k1⟩ := frame_hit k
  exact h1.symm.trans k1
theorem frameT_pos (L : List EntD) : 1 ≤ (frameT L).length := by simp [frameT]; omega
theorem frameB_is {L : List EntD} (h : doneB L = true) : (frameB L).data.toList = frameT L := by rw [frameB, if_pos h]; rfl
theorem frameB_isno {L : List EntD} (h : doneB L = false) : frameB L = ⟨#[]⟩ := by rw [frameB, if_neg (by rw [h]; decide)]
inductive Whole : List UInt8 → List (List EntD) → Nat → Prop
  | none {l : List UInt8} (h : ∀ L, ¬ FrAt l L) : Whole l [] 0
  | one {L : List EntD} {r : List UInt8} {Ls : List (List EntD)} {k : Nat} (h : doneB L = true) (hr : Whole r Ls k) : Whole (frameT L ++ r) (L :: Ls) ((frameT L).length + k)
theorem whole_le {l : List UInt8} {Ls : List (List EntD)} {k : Nat} (h : Whole l Ls k) : k ≤ l.length := by
  induction h with
  | none _ => exact Nat.zero_le _
  | one _ _ ih => simp; omega
theorem whole_inj {l : List UInt8} {Ls : List (List EntD)} {k : Nat} (h : Whole l Ls k) : ∀ {Ms : List (List EntD)} {j : Nat}, Whole l Ms j → Ls = Ms ∧ k = j := by
  induction h with
  | none hn =>
    intro Ms j h2
    cases h2 with
    | none _ => exact ⟨rfl, rfl⟩
    | one hd _ => exact absurd ⟨hd, _, rfl⟩ (hn _)
  | @one L r Ls k hd hr ih =>
    intro Ms j h2
    generalize hl : frameT L ++ r = l at h2
    cases h2 with
    | none hn => exact absurd ⟨hd, r, hl.symm⟩ (hn L)
    | @one M r' Ms' k' hd' hr' =>
      have e := frame_inj (l := frameT M ++ r') ⟨hd, r, hl.symm⟩ ⟨hd', r', rfl⟩
      subst e
      have e2 := List.append_cancel_left hl
      subst e2
      obtain ⟨e3, e4⟩ := ih hr'
      exact ⟨by rw [e3], by rw [e4]⟩
end Go.Proofs.YtapjkbpfhmbfaaaGreatDoor

namespace Go.Proofs.YtapjkbpfhmbfaaaGreatDoor
open Go.RowKit
def lateE (q : Int) (e : EntD) : Bool := decide (q < e.2.1)
def lateL (q : Int) (L : List EntD) : List EntD := L.filter (lateE q)
def lastS (L : List EntD) : Int := match L.getLast? with | some e => e.2.1 | none => 0
def lastQ (q : Int) (P : List (List EntD)) : Int := (P.map (lateL q)).flatten.foldl (fun m e => max m e.2.1) q
def leftP (q : Int) (P : List (List EntD)) : List (List EntD) := P.filter (fun L => decide (q < lastS L))
def Steps : List EntD → Prop
  | [] => True
  | [_] => True
  | a :: b :: r => b.2.1 = a.2.1 + 1 ∧ Steps (b :: r)
theorem steps_of (L : List EntD) (h : ∀ i e f, L[i]? = some e → L[i + 1]? = some f → f.2.1 = e.2.1 + 1) : Steps L := by
  induction L with
  | nil => trivial
  | cons a r ih =>
    cases r with
    | nil => trivial
    | cons b r => exact ⟨h 0 a b rfl rfl, ih (fun i e f h1 h2 => h (i + 1) e f (by simpa using h1) (by simpa using h2))⟩
theorem done_steps {L : List EntD} (h : doneB L = true) : Steps L := by
  refine steps_of L (fun i e f h1 h2 => ?_)
  unfold doneB at h
  simp only [Bool.and_eq_true] at h
  have hi := (List.getElem?_eq_some_iff.1 h2).1
  have h3 := (List.all_eq_true.1 h.2.2) (i + 1) (List.mem_range.2 hi)
  rw [step_succ h2 h1, Bool.and_eq_true] at h3
  exact of_decide_eq_true h3.2
theorem steps_up {a : EntD} {r : List EntD} (h : Steps (a :: r)) : ∀ e ∈ r, a.2.1 < e.2.1 := by
  induction r generalizing a with
  | nil => intro e he; cases he
  | cons b r ih =>
    intro e he
    rcases List.mem_cons.1 he with rfl | he
    · have := h.1; omega
    · have h1 := ih h.2 e he
      have := h.1
      omega
theorem late_all {q : Int} {L : List EntD} (h : ∀ e ∈ L, q < e.2.1) : lateL q L = L := by
  unfold lateL
  rw [List.filter_eq_self]
  intro e he
  exact decide_eq_true (h e he)
theorem late_drop (q : Int) : ∀ {L : List EntD}, Steps L → lateL q L = L.drop (L.findIdx (lateE q))
  | [], _ => rfl
  | a :: r, h => by
    have ht : Steps r := by cases r with | nil => trivial | cons b r => exact h.2
    by_cases hq : q < a.2.1
    · have h1 : lateE q a = true := decide_eq_true hq
      have h2 : (a :: r).findIdx (lateE q) = 0 := by simp [List.findIdx_cons, h1]
      rw [h2, List.drop_zero]
      exact late_all (fun e he => by
        rcases List.mem_cons.1 he with rfl | he
        · exact hq
        · have := steps_up h e he; omega)
    · have h1 : lateE q a = false := decide_eq_false hq
      have h2 : (a :: r).findIdx (lateE q) = r.findIdx (lateE q) + 1 := by simp [List.findIdx_cons, h1]
      rw [h2, List.drop_succ_cons, ← late_drop q ht]
      unfold lateL
      rw [List.filter_cons_of_neg (by rw [h1]; decide)]
theorem last_cons (a b : EntD) (r : List EntD) : lastS (a :: b :: r) = lastS (b :: r) := by unfold lastS; rw [List.getLast?_cons_cons]
theorem last_mem {a : EntD} {r : List EntD} : ∃ e ∈ a :: r, lastS (a :: r) = e.2.1 := by
  induction r generalizing a with
  | nil => exact ⟨a, by simp, rfl⟩
  | cons b r ih =>
    obtain ⟨e, he, h1⟩ := ih (a := b)
    exact ⟨e, List.mem_cons_of_mem _ he, by rw [last_cons]; exact h1⟩
theorem last_top {a : EntD} {r : List EntD} (h : Steps (a :: r)) : ∀ e ∈ a :: r, e.2.1 ≤ lastS (a :: r) := by
  induction r generalizing a with
  | nil => intro e he; rw [List.mem_singleton.1 he]; exact Int.le_refl _
  | cons b r ih =>
    rw [last_cons]
    intro e he
    rcases List.mem_cons.1 he with rfl | he
    · have h1 := ih h.2 b (by simp)
      have := h.1
      omega
    · exact ih h.2 e he
theorem late_some {q : Int} {L : List EntD} (hs : Steps L) (hn : L ≠ []) : lateL q L ≠ [] ↔ q < lastS L := by
  cases L with
  | nil => exact absurd rfl hn
  | cons a r =>
    constructor
    · intro h
      obtain ⟨e, he⟩ := List.exists_mem_of_ne_nil _ h
      have h1 := List.mem_filter.1 he
      have h2 := last_top hs e h1.1
      have h3 : q < e.2.1 := of_decide_eq_true h1.2
      omega
    · intro h h1
      obtain ⟨e, he, h2⟩ := last_mem (a := a) (r := r)
      have : e ∈ lateL q (a :: r) := List.mem_filter.2 ⟨he, decide_eq_true (by omega)⟩
      rw [h1] at this
      cases this
theorem max_mem : ∀ (L : List EntD) (m : Int), m ≤ L.foldl (fun m e => max m e.2.1) m ∧ ∀ e ∈ L, e.2.1 ≤ L.foldl (fun m e => max m e.2.1) m
  | [], m => ⟨Int.le_refl _, fun e he => by cases he⟩
  | a :: r, m => by
    obtain ⟨h1, h2⟩ := max_mem r (max m a.2.1)
    refine ⟨by simp only [List.foldl_cons]; omega, fun e he => ?_⟩
    rcases List.mem_cons.1 he with rfl | he
    · simp only [List.foldl_cons]; omega
    · exact h2 e he
theorem max_at : ∀ (L : List EntD) (m : Int), L.foldl (fun m e => max m e.2.1) m = m ∨ ∃ e ∈ L, L.foldl (fun m e => max m e.2.1) m = e.2.1
  | [], m => .inl rfl
  | a :: r, m => by
    simp only [List.foldl_cons]
    rcases max_at r (max m a.2.1) with h | ⟨e, he, h⟩
    · rw [h]
      rcases Int.le_total m a.2.1 with h1 | h1
      · exact .inr ⟨a, by simp, by omega⟩
      · exact .inl (by omega)
    · exact .inr ⟨e, List.mem_cons_of_mem _ he, h⟩
theorem max_late {q m : Int} {L : List EntD} (hs : Steps L) (hq : q < lastS L) (hn : L ≠ []) : (lateL q L).foldl (fun m e => max m e.2.1) m = max m (lastS L) := by
  obtain ⟨h1, h2⟩ := max_mem (lateL q L) m
  cases L with
  | nil => exact absurd rfl hn
  | cons a r =>
    obtain ⟨e, he, h3⟩ := last_mem (a := a) (r := r)
    have h4 := h2 e (List.mem_filter.2 ⟨he, decide_eq_true (by omega)⟩)
    rcases max_at (lateL q (a :: r)) m with h | ⟨f, hf, h⟩
    · omega
    · have h5 := last_top hs f (List.mem_filter.1 hf).1
      omega
theorem late_left (q : Int) : ∀ (P : List (List EntD)), (∀ L ∈ P, doneB L = true) → ((leftP q P).map (lateL q)).flatten = (P.map (lateL q)).flatten
  | [], _ => rfl
  | L :: P, h => by
    have hd := h L (by simp)
    have ih := late_left q P (fun M hM => h M (List.mem_cons_of_mem _ hM))
    have hn : L ≠ [] := fun e => by rw [e] at hd; exact absurd hd (by rw [done_few (by simp)]; decide)
    unfold leftP at ih ⊢
    by_cases hq : q < lastS L
    · rw [List.filter_cons_of_pos (by exact decide_eq_true hq)]
      simp only [List.map_cons, List.flatten_cons, ih]
    · rw [List.filter_cons_of_neg (by rw [decide_eq_false hq]; decide)]
      have h1 : lateL q L = [] := Classical.byContradiction fun h1 => hq ((late_some (done_steps hd) hn).1 h1)
      simp only [List.map_cons, List.flatten_cons, h1, List.nil_append, ih]
theorem last_left (q : Int) (P : List (List EntD)) (h : ∀ L ∈ P, doneB L = true) : lastQ q (leftP q P) = lastQ q P := by unfold lastQ; rw [late_left q P h]
theorem left_done {q : Int} {P : List (List EntD)} (h : ∀ L ∈ P, doneB L = true) : ∀ L ∈ leftP q P, doneB L = true := fun L hL => h L (List.mem_filter.1 hL).1
theorem last_low (q : Int) (P : List (List EntD)) : q ≤ lastQ q P := (max_mem _ _).1
theorem late_take {q : Int} {P : List (List EntD)} {k : Nat} {L : List EntD} (h : P[k]? = some L) : ((P.take (k + 1)).map (lateL q)).flatten = ((P.take k).map (lateL q)).flatten ++ lateL q L := by
  rw [List.take_add_one, h, List.map_append, List.flatten_append]
  simp
theorem last_take {q : Int} {P : List (List EntD)} {k : Nat} {L : List EntD} (h : P[k]? = some L) : lastQ q (P.take (k + 1)) = (lateL q L).foldl (fun m e => max m e.2.1) (lastQ q (P.take k)) := by
  unfold lastQ
  rw [late_take h, List.foldl_append]
theorem left_take {q : Int} {P : List (List EntD)} {k : Nat} {L : List EntD} (h : P[k]? = some L) : leftP q (P.take (k + 1)) = leftP q (P.take k) ++ (if q < lastS L then [L] else []) := by
  unfold leftP
  rw [List.take_add_one, h, List.filter_append]
  by_cases hq : q < lastS L
  · simp [hq]
  · simp [hq]
end Go.Proofs.YtapjkbpfhmbfaaaGreatDoor

namespace Go.Proofs.YtapjkbpfhmbfaaaGreatDoor
open Go.RowKit
theorem bcell {W w1 : World} (hb : Below W.heap.size W w1) : (∀ b o, b < W.heap.size → w1.cell? ⟨b, o, none⟩ = W.cell? ⟨b, o, none⟩) ∧ (∀ b o, b < W.heap.size → w1.frozen? ⟨b, o, none⟩ = W.frozen? ⟨b, o, none⟩) :=
  ⟨fun b o h => hb.cell (p := ⟨b, o, none⟩) h, fun b o h => hb.frozen (p := ⟨b, o, none⟩) h⟩
end Go.Proofs.YtapjkbpfhmbfaaaGreatDoor

namespace Go.Proofs.YtapjkbpfhmbfaaaGreatDoor
open Go.RowKit Go.Joins Go.ChangeShapes Go.WideShapes Go.Deep
theorem Tryz.cellsEntL : Tryz.prog.cellsOf 86 = 5 := by kernel_rfl
def EntW (e : EntD) : Prop := e.1.size ≤ maxLen ∧ (Lit.int .i64 e.2.1).wf = true ∧ (Lit.int .i64 e.2.2.1).wf = true ∧ e.2.2.2.1.size ≤ maxLen ∧ (Lit.int .i64 e.2.2.2.2).wf = true
set_option maxHeartbeats 400000 in
theorem szEnt_no (k t : ByteArray) (q d n left : Int) (w : World) (hk : k.size ≤ maxLen) (ht : t.size ≤ maxLen) (h0 : 0 ≤ left) (h1 : left ≤ 1048576) (h : left < k.size + t.size) :
    Calls Tryz.prog 62 #[.agg #[.string k, .int .i64 q, .int .i64 d, .string t, .int .i64 n], .int .i64 left] w fun e w' => e = .returned (.int .i64 (-1)) ∧ Below w.heap.size w w' := by
  unfold maxLen at hk ht
  by_cases hc : left < k.size
  · go_enter Tryz.func62, Tryz.ntmps62
    go_wp2
    go_ret
    exact ⟨rfl, (Below.refl _ _).alloc (Nat.le_refl _) _⟩
  · go_enter Tryz.func62, Tryz.ntmps62
    go_wp2
    go_ret
    exact ⟨rfl, (Below.refl _ _).alloc (Nat.le_refl _) _⟩
set_option maxHeartbeats 400000 in
theorem szEnt_yes (k t : ByteArray) (q d n left : Int) (w : World) (h1 : left ≤ 1048576) (h : (k.size : Int) + t.size ≤ left) :
    Calls Tryz.prog 62 #[.agg #[.string k, .int .i64 q, .int .i64 d, .string t, .int .i64 n], .int .i64 left] w fun e w' => e = .returned (.int .i64 (left - k.size - t.size)) ∧ Below w.heap.size w w' := by
  go_enter Tryz.func62, Tryz.ntmps62
  go_wp2
  go_ret
  exact ⟨rfl, (Below.refl _ _).alloc (Nat.le_refl _) _⟩
set_option maxHeartbeats 400000 in
theorem toEnt_any (k t : ByteArray) (q d n : Int) (w : World) :
    Calls Tryz.prog 64 #[.agg #[.string k, .int .i64 q, .int .i64 d, .string t, .int .i64 n]] w fun e w' => e = .returned (.agg #[.string k, .int .i64 q, .int .i64 d, .string t, .int .i64 n]) ∧ Below w.heap.size w w' := by
  go_enter Tryz.func64, Tryz.ntmps64
  go_wp2
  refine bodyPost_ret (v := .agg #[.string k, .int .i64 q, .int .i64 d, .string t, .int .i64 n]) (by simp [results, Tryz.results64, go_sem]) rfl ⟨rfl, ?_⟩
  exact (((Below.refl _ _).alloc (Nat.le_refl _) _).alloc (by simp) _).alloc (by simp; omega) _
end Go.Proofs.YtapjkbpfhmbfaaaGreatDoor
