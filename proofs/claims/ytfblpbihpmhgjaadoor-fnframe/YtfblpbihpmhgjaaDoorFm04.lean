/-
  The text of a batch that was done, plain; no statement of the program stands here.
  How the text of a batch is read, plain; no statement of the program stands here.
  Laws for a region that draws its order, taken operation by operation; no statement of the program stands here.
  What a call leaves as it was, cell by cell; no statement of the program stands here.
-/
import Derived.Test.YtfblpbihpmhgjaaDoorFm03
import Derived.Lib.ItoaLen
import Derived.Test.YtfblpbihpmhgjaaDoorFm02
import Derived.Deep.RegionHeld3
import Derived.WalkKit
import Derived.Test.YtfblpbihpmhgjaaDoorProg
import Derived.Test.YtfblpbihpmhgjaaDoorFm00
import Derived.WalkSpells
import Derived.WalkLawsBesides
namespace Go.Proofs.YtfblpbihpmhgjaaDoor
open Go.RowKit

def entOk (e : EntD) : Bool := entB e.1 e.2.1 e.2.2.1 e.2.2.2.1 e.2.2.2.2
def stepB (L : List EntD) : Nat → Bool
  | 0 => match L[0]? with
    | none => true
    | some e => entOk e
  | j + 1 => match L[j + 1]?, L[j]? with
    | some e, some p => entOk e && decide (e.2.1 = p.2.1 + 1)
    | _, _ => true
def stepsB (L : List EntD) (k : Nat) : Bool := (List.range k).all (stepB L)
def doneB (L : List EntD) : Bool := decide (1 ≤ L.length) && (decide (L.length ≤ 12) && stepsB L L.length)
theorem steps_succ (L : List EntD) (k : Nat) : stepsB L (k + 1) = (stepsB L k && stepB L k) := by
  simp [stepsB, List.range_succ]
theorem steps_snoc {L : List EntD} {k : Nat} (h : stepsB L k = true) (h1 : stepB L k = true) : stepsB L (k + 1) = true := by rw [steps_succ, h, h1]; rfl
theorem steps_no {L : List EntD} {k : Nat} (hk : k < L.length) (h : stepB L k = false) : stepsB L L.length = false := by
  unfold stepsB
  rw [List.all_eq_false]
  exact ⟨k, by simpa using hk, by simp [h]⟩
theorem step_zero {L : List EntD} {e : EntD} (h : L[0]? = some e) : stepB L 0 = entOk e := by simp only [stepB, h]
theorem step_ent {L : List EntD} {k : Nat} {e : EntD} (h : L[k]? = some e) (hv : entOk e = false) : k = 0 ∨ (∃ p, L[k - 1]? = some p) → stepB L k = false := by
  intro hp
  cases k with
  | zero => rw [step_zero h, hv]
  | succ j =>
    rcases hp with hp | ⟨p, hp⟩
    · omega
    · simp only [Nat.add_sub_cancel] at hp
      simp only [stepB, h, hp, hv, Bool.false_and]
theorem step_ent' {L : List EntD} {k : Nat} {e : EntD} (h : L[k]? = some e) (hv : entOk e = false) : stepB L k = false := by
  apply step_ent h hv
  cases k with
  | zero => exact Or.inl rfl
  | succ j =>
    have := (List.getElem?_eq_some_iff.1 h).1
    exact Or.inr ⟨L[j], by simp only [Nat.add_sub_cancel]; exact List.getElem?_eq_getElem (by omega)⟩
theorem step_succ {L : List EntD} {j : Nat} {e p : EntD} (h : L[j + 1]? = some e) (hp : L[j]? = some p) : stepB L (j + 1) = (entOk e && decide (e.2.1 = p.2.1 + 1)) := by simp only [stepB, h, hp]
theorem steps_ok {L : List EntD} {k j : Nat} {e : EntD} (h : stepsB L k = true) (hj : j < k) (he : L[j]? = some e) : entOk e = true := by
  unfold stepsB at h
  have h1 := List.all_eq_true.1 h j (by simpa using hj)
  cases hv : entOk e with
  | true => rfl
  | false => rw [step_ent' he hv] at h1; cases h1
theorem done_few {L : List EntD} (h : L.length < 1) : doneB L = false := by unfold doneB; rw [decide_eq_false (by omega)]; rfl
theorem done_many {L : List EntD} (h : 12 < L.length) : doneB L = false := by unfold doneB; rw [decide_eq_false (p := L.length ≤ 12) (by omega)]; simp
theorem done_no {L : List EntD} {k : Nat} (hk : k < L.length) (h : stepB L k = false) : doneB L = false := by unfold doneB; rw [steps_no hk h]; simp
theorem done_yes {L : List EntD} (h1 : 1 ≤ L.length) (h2 : L.length ≤ 12) (h : stepsB L L.length = true) : doneB L = true := by unfold doneB; rw [decide_eq_true h1, decide_eq_true h2, h]; rfl
theorem done_all {L : List EntD} (h : stepsB L L.length = true) : doneB L = (decide (1 ≤ L.length) && decide (L.length ≤ 12)) := by unfold doneB; rw [h]; simp
theorem done_parts {L : List EntD} (h : doneB L = true) : 1 ≤ L.length ∧ L.length ≤ 12 ∧ ∀ e ∈ L, entOk e = true := by
  simp only [doneB, Bool.and_eq_true, decide_eq_true_eq] at h
  refine ⟨h.1, h.2.1, fun e he => ?_⟩
  obtain ⟨j, hj⟩ := List.mem_iff_getElem?.1 he
  exact steps_ok h.2.2 (List.getElem?_eq_some_iff.1 hj).1 hj

/-- What is written of an entry. -/
def entT (e : EntD) : List UInt8 := e.1.data.toList ++ 32 :: (Lib.itoa e.2.1 ++ 32 :: (Lib.itoa e.2.2.1 ++ 32 :: (Lib.itoa e.2.2.2.2 ++ 32 :: (Lib.itoa (e.2.2.2.1.size : Int) ++ 32 :: e.2.2.2.1.data.toList))))
def entsT : List EntD → List UInt8
  | [] => []
  | e :: r => entT e ++ entsT r
def frameB (L : List EntD) : ByteArray := if doneB L = true then ⟨(Lib.itoa ((entsT L).length : Int) ++ 32 :: (entsT L ++ [10])).toArray⟩ else ⟨#[]⟩
theorem entsT_append (A B : List EntD) : entsT (A ++ B) = entsT A ++ entsT B := by
  induction A with
  | nil => rfl
  | cons l r ih => simp [entsT, ih]
theorem entsT_take {L : List EntD} {k : Nat} {l : EntD} (h : L[k]? = some l) : entsT (L.take (k + 1)) = entsT (L.take k) ++ entT l := by
  rw [List.take_add_one, h, entsT_append]
  simp [entsT]
theorem ent_parts {e : EntD} (h : entOk e = true) : e.1.size ≤ 8 ∧ 1 ≤ e.2.1 ∧ e.2.1 ≤ 100000 ∧ 1 ≤ e.2.2.1 ∧ e.2.2.1 ≤ 3 ∧ -1000000 ≤ e.2.2.2.2 ∧ e.2.2.2.2 ≤ 1000000 ∧ e.2.2.2.1.size ≤ 60 := by
  obtain ⟨k, q, d, t, n⟩ := e
  unfold entOk at h
  have hk : k.size ≤ 8 := by
    rcases Nat.lt_or_ge 8 k.size with h' | h'
    · rw [entB_key (keyB_big k h')] at h; cases h
    · exact h'
  have a1 : 1 ≤ q := by
    rcases Int.lt_or_le q 1 with h' | h'
    · rw [entB_q1 h'] at h; cases h
    · exact h'
  have a2 : q ≤ 100000 := by
    rcases Int.lt_or_le 100000 q with h' | h'
    · rw [entB_q2 h'] at h; cases h
    · exact h'
  have a3 : -1000000 ≤ n := by
    rcases Int.lt_or_le n (-1000000) with h' | h'
    · rw [entB_n1 h'] at h; cases h
    · exact h'
  have a4 : n ≤ 1000000 := by
    rcases Int.lt_or_le 1000000 n with h' | h'
    · rw [entB_n2 h'] at h; cases h
    · exact h'
  have a5 : t.size ≤ 60 := by
    rcases Nat.lt_or_ge 60 t.size with h' | h'
    · rw [entB_t h'] at h; cases h
    · exact h'
  have hk' : keyB k = true := by
    cases hk' : keyB k with
    | true => rfl
    | false => rw [entB_key hk'] at h; cases h
  rw [entB_rest hk' a1 a2 a3 a4 a5] at h
  have a6 : 1 ≤ d ∧ d ≤ 3 := by
    by_cases d1 : d = 1
    · omega
    by_cases d2 : d = 2
    · omega
    by_cases d3 : d = 3
    · omega
    rw [kindB_0 d1 d2 d3] at h
    cases h
  exact ⟨hk, a1, a2, a6.1, a6.2, a3, a4, a5⟩
theorem bytes_len (s : ByteArray) : s.data.toList.length = s.size := by rw [Array.length_toList]; rfl
theorem entT_len {e : EntD} (h : entOk e = true) : (entT e).length ≤ 160 := by
  obtain ⟨h1, h2, h3, h4, h5, h6, h7, h8⟩ := ent_parts h
  have e1 := Lib.itoa_length_le e.2.1 (by omega) (by omega)
  have e2 := Lib.itoa_length_le e.2.2.1 (by omega) (by omega)
  have e3 := Lib.itoa_length_le e.2.2.2.2 (by omega) (by omega)
  have e4 := Lib.itoa_length_le (e.2.2.2.1.size : Int) (by omega) (by omega)
  simp only [entT, List.length_append, List.length_cons, bytes_len]
  omega
theorem entsT_len : ∀ (L : List EntD), (∀ e ∈ L, entOk e = true) → (entsT L).length ≤ 160 * L.length
  | [], _ => by simp [entsT]
  | l :: r, h => by
    have h1 := entT_len (h l (by simp))
    have h2 := entsT_len r (fun x hx => h x (by simp [hx]))
    simp only [entsT, List.length_append, List.length_cons]
    omega
theorem frameB_no {L : List EntD} (h : doneB L = false) : frameB L = ⟨#[]⟩ := by unfold frameB; rw [h]; simp
theorem frameB_yes {L : List EntD} (h : doneB L = true) : frameB L = ⟨(Lib.itoa ((entsT L).length : Int) ++ 32 :: (entsT L ++ [10])).toArray⟩ := by unfold frameB; rw [if_pos h]

end Go.Proofs.YtfblpbihpmhgjaaDoor

namespace Go.Proofs.YtfblpbihpmhgjaaDoor
open Go.RowKit

/-- The next bytes, if there are so many, and what is left. -/
def pieceP (n : Int) (l : List UInt8) : List UInt8 × List UInt8 := if n < 0 ∨ (l.length : Int) < n then ([], l) else (l.take n.toNat, l.drop n.toNat)
/-- What stands ahead of the next space, and what is left behind it. -/
def wordP (l : List UInt8) : List UInt8 × List UInt8 := if (32 : UInt8) ∈ l then (l.takeWhile (· != 32), (l.dropWhile (· != 32)).drop 1) else ([], l.drop 1)
def numP (l : List UInt8) : Int × List UInt8 := ((match Lib.atoiAll (wordP l).1 with | .ok v => v | _ => 0), (wordP l).2)
def entP (l : List UInt8) : EntD × List UInt8 :=
  let k := wordP l
  let q := numP k.2
  let d := numP q.2
  let n := numP d.2
  let z := numP n.2
  let t := pieceP z.1 z.2
  ((⟨k.1.toArray⟩, q.1, d.1, ⟨t.1.toArray⟩, n.1), t.2)
/-- At most so many entries, as long as more than so many bytes are left. -/
def bodyP : Nat → Int → List UInt8 → List EntD
  | 0, _, _ => []
  | k + 1, s, l => if s < (l.length : Int) then (entP l).1 :: bodyP k s (entP l).2 else []

theorem takeW_hit : ∀ (u r : List UInt8), (32 : UInt8) ∉ u → (u ++ 32 :: r).takeWhile (· != 32) = u ∧ (u ++ 32 :: r).dropWhile (· != 32) = 32 :: r
  | [], r, _ => by simp
  | x :: u, r, h => by
    have h1 : (x != 32) = true := by simpa using fun e : x = 32 => h (by simp [e])
    have h2 := takeW_hit u r (fun hm => h (by simp [hm]))
    constructor
    · simp only [List.cons_append, List.takeWhile_cons, h1, if_true, h2.1]
    · simp only [List.cons_append, List.dropWhile_cons, h1, if_true, h2.2]
theorem word_hit (u r : List UInt8) (h : (32 : UInt8) ∉ u) : wordP (u ++ 32 :: r) = (u, r) := by
  obtain ⟨h1, h2⟩ := takeW_hit u r h
  rw [wordP, if_pos (by simp), h1, h2]
  rfl
theorem itoa_sp (n : Int) : (32 : UInt8) ∉ Lib.itoa n := word_not (itoa_word n) (by decide)
theorem num_hit (n : Int) (r : List UInt8) (h0 : -10000000 ≤ n) (h1 : n ≤ 10000000) : numP (Lib.itoa n ++ 32 :: r) = (n, r) := by
  rw [numP, word_hit _ _ (itoa_sp n), atoi_itoa n h0 h1]
theorem piece_hit (u r : List UInt8) : pieceP (u.length : Int) (u ++ r) = (u, r) := by
  rw [pieceP, if_neg (by simp; omega)]
  simp
theorem key_sp {s : ByteArray} (h : keyB s = true) : (32 : UInt8) ∉ s.data.toList := by
  intro hm
  simp only [keyB, Bool.and_eq_true] at h
  have := List.all_eq_true.1 h.2.2 32 hm
  exact absurd this (by decide)
theorem ent_key {e : EntD} (h : entOk e = true) : keyB e.1 = true := by
  unfold entOk at h
  cases hk : keyB e.1 with
  | true => rfl
  | false => rw [entB_key hk] at h; cases h
theorem ent_hit {e : EntD} (h : entOk e = true) (r : List UInt8) : entP (entT e ++ r) = (e, r) := by
  obtain ⟨h1, h2, h3, h4, h5, h6, h7, h8⟩ := ent_parts h
  have hk := key_sp (ent_key h)
  obtain ⟨k, q, d, t, n⟩ := e
  simp only at h1 h2 h3 h4 h5 h6 h7 h8 hk
  have e0 : entT (k, q, d, t, n) ++ r = k.data.toList ++ 32 :: (Lib.itoa q ++ 32 :: (Lib.itoa d ++ 32 :: (Lib.itoa n ++ 32 :: (Lib.itoa (t.size : Int) ++ 32 :: (t.data.toList ++ r))))) := by simp [entT]
  rw [e0, entP]
  simp only [word_hit _ _ hk, num_hit q _ (by omega) (by omega), num_hit d _ (by omega) (by omega), num_hit n _ (by omega) (by omega), num_hit (t.size : Int) _ (by omega) (by omega)]
  rw [show (t.size : Int) = (t.data.toList.length : Int) by rw [bytes_len]]
  rw [piece_hit]
theorem entT_pos (e : EntD) : 1 ≤ (entT e).length := by simp [entT]; omega
theorem body_hit : ∀ (L : List EntD) (k : Nat) (r : List UInt8), (∀ e ∈ L, entOk e = true) → L.length ≤ k → bodyP k (r.length : Int) (entsT L ++ r) = L
  | [], 0, r, _, _ => rfl
  | [], k + 1, r, _, _ => by simp [bodyP, entsT]
  | e :: L, 0, r, _, h => by simp at h
  | e :: L, k + 1, r, ha, h => by
    have hp := entT_pos e
    have e0 : entsT (e :: L) ++ r = entT e ++ (entsT L ++ r) := by simp [entsT]
    rw [e0, bodyP, if_pos (by simp; omega), ent_hit (ha e (by simp))]
    simp only
    rw [body_hit L k r (fun x hx => ha x (by simp [hx])) (by simpa using h)]

/-- What is written of a batch that was done. -/
def frameT (L : List EntD) : List UInt8 := Lib.itoa ((entsT L).length : Int) ++ 32 :: (entsT L ++ [10])
/-- The batch L was done, and its text stands at the head. -/
def FrAt (l : List UInt8) (L : List EntD) : Prop := doneB L = true ∧ ∃ r, l = frameT L ++ r
theorem entsT_small {L : List EntD} (h : doneB L = true) : (entsT L).length ≤ 1920 := by
  obtain ⟨h1, h2, h3⟩ := done_parts h
  have := entsT_len L h3
  omega
/-- A batch is read back. -/
theorem frame_hit {l : List UInt8} {L : List EntD} (h : FrAt l L) : (numP l).1 = ((entsT L).length : Int) ∧ ∃ r, (numP l).2 = entsT L ++ 10 :: r ∧ bodyP 12 (((numP l).2.length : Int) - (numP l).1) (numP l).2 = L := by
  obtain ⟨hd, r, rfl⟩ := h
  obtain ⟨h1, h2, h3⟩ := done_parts hd
  have hs := entsT_small hd
  have e0 : frameT L ++ r = Lib.itoa ((entsT L).length : Int) ++ 32 :: (entsT L ++ 10 :: r) := by simp [frameT]
  rw [e0, num_hit _ _ (by omega) (by omega)]
  refine ⟨rfl, r, rfl, ?_⟩
  have e1 : ((entsT L ++ 10 :: r).length : Int) - ((entsT L).length : Int) = ((10 :: r).length : Int) := by simp; omega
  simp only [e1]
  exact body_hit L 12 (10 :: r) h3 h2
theorem frame_inj {l : List UInt8} {L M : List EntD} (h : FrAt l L) (k : FrAt l M) : L = M := by
  obtain ⟨_, _, _, h1⟩ := frame_hit h
  obtain ⟨_, _, _, k1⟩ := frame_hit k
  exact h1.symm.trans k1
theorem frameT_pos (L : List EntD) : 1 ≤ (frameT L).length := by simp [frameT]; omega
theorem frameB_is {L : List EntD} (h : doneB L = true) : (frameB L).data.toList = frameT L := by rw [frameB, if_pos h]; rfl
theorem frameB_isno {L : List EntD} (h : doneB L = false) : frameB L = ⟨#[]⟩ := by rw [frameB, if_neg (by rw [h]; decide)]
/-- The batches that are whole at the head of a text, and how many bytes they are. -/
inductive Whole : List UInt8 → List (List EntD) → Nat → Prop
  | none {l : List UInt8} (h : ∀ L, ¬ FrAt l L) : Whole l [] 0
  | one {L : List EntD} {r : List UInt8} {Ls : List (List EntD)} {k : Nat} (h : doneB L = true) (hr : Whole r Ls k) : Whole (frameT L ++ r) (L :: Ls) ((frameT L).length + k)
theorem whole_le {l : List UInt8} {Ls : List (List EntD)} {k : Nat} (h : Whole l Ls k) : k ≤ l.length := by
  induction h with
  | none _ => exact Nat.zero_le _
  | one _ _ ih => simp; omega
theorem whole_inj {l : List UInt8} {Ls : List (List EntD)} {k : Nat} (h : Whole l Ls k) : ∀ {Ms : List (List EntD)} {j : Nat}, Whole l Ms j → Ls = Ms ∧ k = j := by
  induction h with
  | none hn =>
    intro Ms j h2
    cases h2 with
    | none _ => exact ⟨rfl, rfl⟩
    | one hd _ => exact absurd ⟨hd, _, rfl⟩ (hn _)
  | @one L r Ls k hd hr ih =>
    intro Ms j h2
    generalize hl : frameT L ++ r = l at h2
    cases h2 with
    | none hn => exact absurd ⟨hd, r, hl.symm⟩ (hn L)
    | @one M r' Ms' k' hd' hr' =>
      have e := frame_inj (l := frameT M ++ r') ⟨hd, r, hl.symm⟩ ⟨hd', r', rfl⟩
      subst e
      have e2 := List.append_cancel_left hl
      subst e2
      obtain ⟨e3, e4⟩ := ih hr'
      exact ⟨by rw [e3], by rw [e4]⟩

end Go.Proofs.YtfblpbihpmhgjaaDoor

namespace Go.Proofs.YtfblpbihpmhgjaaDoor
open Go.RowKit

theorem wpAnyH_takeL {P : Program} {l : List Oper} {Q : Exit → Act → World → Prop} {md : Region.Mode} {S : World → Prop} {i : Nat} {oi : Oper} {v : Value} {fuel : Nat} {listed : Array Bool} {a : Act} {w : World} (hi : l[i]? = some oi)
    (hs : Region.noSelect l.toArray = true) (hf : Region.free md l.toArray listed i = true) (hr : (Region.ready md l.toArray listed).contains i = true)
    (hQ : ∀ c a w, Q (.panic c) (a.put oi.dst v) w → Q (.panic c) a w) (hy : YieldsIf P l.toArray S oi v a) (hS : S w)
    (h : wpAnyH P md l.toArray Q S fuel (listed.setIfInBounds i true) (a.put oi.dst v) w) : wpAnyH P md l.toArray Q S (fuel + 1) listed a w :=
  wpAnyH_take (by simpa using hi) hs hf hr hQ hy hS h
theorem consL {P : Program} {l : List Oper} {Q : Exit → Act → World → Prop} {md : Region.Mode} {S : World → Prop} {fuel : Nat} {listed : Array Bool} {a : Act} {w : World} {i : Nat} {o : Oper} {rs : List Nat} (ho : l[i]? = some o)
    (h : ∀ K' : Act → World → Prop, Shut (∀ a w, S w → (S w → wpAnyH P md l.toArray Q S fuel (listed.setIfInBounds i true) a w) → K' a w) → if Region.wanted o (yielded l.toArray a.tmps) = true then Oper.wp P o a w K' Q else K' (a.put o.dst undef) w)
    (hs : AllReadyH P md l.toArray Q S fuel listed a w rs) : AllReadyH P md l.toArray Q S fuel listed a w (i :: rs) :=
  AllReadyH.cons (by simpa using ho) h hs

end Go.Proofs.YtfblpbihpmhgjaaDoor

namespace Go.Proofs.YtfblpbihpmhgjaaDoor
open Go.RowKit

theorem bcell {W w1 : World} (hb : Below W.heap.size W w1) : (∀ b o, b < W.heap.size → w1.cell? ⟨b, o, none⟩ = W.cell? ⟨b, o, none⟩) ∧ (∀ b o, b < W.heap.size → w1.frozen? ⟨b, o, none⟩ = W.frozen? ⟨b, o, none⟩) :=
  ⟨fun b o h => hb.cell (p := ⟨b, o, none⟩) h, fun b o h => hb.frozen (p := ⟨b, o, none⟩) h⟩

end Go.Proofs.YtfblpbihpmhgjaaDoor
