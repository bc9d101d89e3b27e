/-
  The document's l4Apart: whether a time that is kept lies between two entries; by a walk of its Go text.
  Classes of a row: cut from the back at once, or by keys and each key's by itself: what is left of them is the same. Plain.
  What is left of entries, in plain words: cut by keys, each key's entries cut where a time that is kept lies between two. Plain.
  What the program's CellDo makes of every cell and every entry, kind by kind, by walks of its Go text.
-/
import Derived.Test.YtlmgojlffgkciaaGreatFb02
import Derived.Test.YtlmgojlffgkciaaGreatFb00
import Derived.Test.YtlmgojlffgkciaaGreatFb30
import Derived.Test.YtlmgojlffgkciaaGreatFb16
import Derived.Deep.RegionHeld3
import Derived.Deep.DeepCutAuto
namespace Go.Proofs.YtlmgojlffgkciaaGreat
open Go.RowKit

/-- A time that is kept lies between two. -/
def apartB (S : List Int) (o n : Int) : Bool := S.any (fun s => decide (o ≤ s) && decide (s < n))
theorem apart_take {S : List Int} {o n : Int} {k : Nat} {s : Int} (h : S[k]? = some s) : apartB (S.take (k + 1)) o n = (apartB (S.take k) o n || (decide (o ≤ s) && decide (s < n))) := by
  simp [apartB, List.take_add_one, h, List.any_append]
theorem apart_more {S : List Int} {o n : Int} {k : Nat} (h : apartB (S.take k) o n = true) : apartB S o n = true := by
  unfold apartB at *
  rw [List.any_eq_true] at *
  obtain ⟨x, hx, hp⟩ := h
  exact ⟨x, List.mem_of_mem_take hx, hp⟩

set_option maxRecDepth 100000 in
set_option maxHeartbeats 1000000 in
theorem specApart (lo : Nat) (a : Option Addr) (n c : Nat) (S : List Int) (o p : Int) (w : World) (h : IntsIn lo w a n c S) :
    Calls Tryz.prog 179 #[.slice a n c, .int .i64 o, .int .i64 p] w fun e w' => e = .returned (.bool (apartB S o p)) ∧ Below w.heap.size w w' := by
  have hr := h.room
  have hbg := h.big
  unfold maxLen at hbg
  have H : Hid (IntsIn lo w a n c S) := h
  clear h
  go_enter Tryz.func179, Tryz.ntmps179
  go_wp2
  go_loopw [7] (fun i wr => ∃ k : Nat, k ≤ n ∧ i = .int .i64 k ∧ apartB (S.take k) o p = false ∧ Below w.heap.size w wr) (fun i _ => n - (intOf i).toNat)
  case atStart => exact ⟨0, Nat.zero_le _, rfl, rfl, Below.refl _ _⟩
  case round =>
    obtain ⟨k, hk, rfl, hno, hb⟩ := hrel
    have HNO : Hid (apartB (S.take k) o p = false) := hno
    clear hno
    by_cases hlt : k < n
    · have hltI : (k : Int) < (n : Int) := by omega
      obtain ⟨b, off, rfl, hbb⟩ := H.out.form (by omega)
      obtain ⟨s, hs, hw, hc⟩ := H.out.num hb k hlt
      have HS : Hid (S[k]? = some s) := hs
      have hbr : b < wr.heap.size := Nat.lt_of_lt_of_le hbb hb.size
      clear hs hw
      by_cases h1 : o ≤ s
      · by_cases h2 : s < p
        · go_wp2
          go_ret
          have hyes : apartB S o p = true := apart_more (k := k + 1) (by rw [apart_take HS.out]; simp [h1, h2])
          exact ⟨by rw [hyes]; rfl, hb⟩
        · go_wp2
          go_roundw
          case rel => exact ⟨k + 1, by omega, by go_num, by rw [apart_take HS.out, HNO.out]; simp [h2], hb⟩
          case measure => simp [intOf]; omega
      · go_wp2
        go_roundw
        case rel => exact ⟨k + 1, by omega, by go_num, by rw [apart_take HS.out, HNO.out]; simp [h1], hb⟩
        case measure => simp [intOf]; omega
    · have hltI : ¬ (k : Int) < (n : Int) := by omega
      have hall : S.take k = S := List.take_of_length_le (by have := H.out.length; omega)
      have HALL : Hid (apartB S o p = false) := by have := HNO.out; rw [hall] at this; exact this
      clear hall
      go_wp2
      go_ret
      exact ⟨by rw [HALL.out]; rfl, hb⟩
end Go.Proofs.YtlmgojlffgkciaaGreat

namespace Go.Proofs.YtlmgojlffgkciaaGreat
namespace Sq
variable {α κ : Type} [DecidableEq κ]

def putP (r : α → α → Bool) (x : α) : List (List α) → List (List α)
  | (y :: c) :: cs => if r x y then (x :: y :: c) :: cs else [x] :: (y :: c) :: cs
  | cs => [x] :: cs
/-- A row cut where a neighbour is not of its part. -/
def parts (r : α → α → Bool) (L : List α) : List (List α) := L.foldr (putP r) []
theorem parts_cons (r : α → α → Bool) (x : α) (L : List α) : parts r (x :: L) = putP r x (parts r L) := rfl
theorem parts_head (r : α → α → Bool) (x : α) (L : List α) : ∃ c cs, parts r (x :: L) = (x :: c) :: cs := by
  rw [parts_cons]
  unfold putP
  split
  · rename_i y c cs _
    by_cases h : r x y
    · exact ⟨y :: c, cs, by rw [if_pos h]⟩
    · exact ⟨[], (y :: c) :: cs, by rw [if_neg h]⟩
  · exact ⟨[], _, rfl⟩
theorem parts_flat (r : α → α → Bool) : ∀ L : List α, (parts r L).flatten = L
  | [] => rfl
  | x :: L => by
    rw [parts_cons]
    have ih := parts_flat r L
    unfold putP
    split
    · rename_i y c cs h
      rw [h] at ih
      by_cases hr : r x y
      · rw [if_pos hr]; simpa using ih
      · rw [if_neg hr]; simpa using ih
    · simpa using ih
/-- To cut by both is to cut by the one, and each part by the other. -/
theorem parts_both (r1 r2 : α → α → Bool) : ∀ L : List α, parts (fun x y => r1 x y && r2 x y) L = (parts r1 L).flatMap (parts r2)
  | [] => rfl
  | x :: L => by
    have ih := parts_both r1 r2 L
    rw [parts_cons, ih]
    match L with
    | [] => rfl
    | y :: R =>
      obtain ⟨c, cs, h⟩ := parts_head r1 y R
      rw [parts_cons r1 x, h]
      obtain ⟨c', ds, h'⟩ := parts_head r2 y c
      by_cases e1 : r1 x y
      · have e3 : putP r1 x ((y :: c) :: cs) = (x :: y :: c) :: cs := by simp [putP, e1]
        rw [e3, List.flatMap_cons, List.flatMap_cons, parts_cons r2 x, h']
        by_cases e2 : r2 x y <;> simp [putP, e1, e2]
      · have e3 : putP r1 x ((y :: c) :: cs) = [x] :: (y :: c) :: cs := by simp [putP, e1]
        rw [e3, List.flatMap_cons, List.flatMap_cons, List.flatMap_cons, h']
        simp [putP, e1, parts]

variable (key : α → κ) (cl : Bool → List α → List α) (bottom : Bool)
/-- A class, from the back on, with what is known of what stands behind it. -/
def stepP (c : List α) (st : κ × Bool × List α) : κ × Bool × List α :=
  match c with
  | [] => st
  | x :: R => (key x, (if key x = st.1 then st.2.1 else bottom) && (cl (if key x = st.1 then st.2.1 else bottom) (x :: R)).isEmpty, cl (if key x = st.1 then st.2.1 else bottom) (x :: R) ++ st.2.2)
def stepD (c : List α) (st : Bool × List α) : Bool × List α := (if (cl st.1 c).isEmpty then st.1 else false, cl st.1 c ++ st.2)
def leftD (Cs : List (List α)) : List α := (Cs.foldr (stepD cl) (bottom, [])).2

theorem and_if (a b : Bool) : (a && b) = if b = true then a else false := by cases a <;> cases b <;> rfl
theorem step_group (k : κ) (st : κ × Bool × List α) (hk : k ≠ st.1) : ∀ Cs : List (List α), (∀ c ∈ Cs, ∃ x R, c = x :: R ∧ key x = k) →
    Cs.foldr (stepP key cl bottom) st = if Cs = [] then st else (k, (Cs.foldr (stepD cl) (bottom, [])).1, (Cs.foldr (stepD cl) (bottom, [])).2 ++ st.2.2)
  | [], _ => by simp
  | c :: Cs, h => by
    obtain ⟨x, R, rfl, hx⟩ := h c List.mem_cons_self
    have ih := step_group k st hk Cs (fun c hc => h c (List.mem_cons_of_mem _ hc))
    rw [if_neg (by simp), List.foldr_cons, ih, List.foldr_cons]
    by_cases hC : Cs = []
    · subst hC
      rw [if_pos rfl]
      simp only [stepP, stepD, List.foldr_nil, hx, if_neg hk, List.append_nil]
      rw [and_if]
      congr
    · rw [if_neg hC]
      simp only [stepP, stepD, hx, if_true, List.append_assoc]
      rw [and_if]

/-- Parts of one key each, neighbours of two keys. -/
def Groups (k0 : κ) : List (List α) → Prop
  | [] => True
  | G :: Gs => (∃ x R, G = x :: R ∧ key x ≠ k0 ∧ (∀ y ∈ G, key y = key x) ∧ (∀ y R' Gs', Gs = (y :: R') :: Gs' → key x ≠ key y)) ∧ Groups k0 Gs

theorem step_all (r2 : α → α → Bool) (k0 : κ) : ∀ Gs : List (List α), Groups key k0 Gs →
    ((Gs.flatMap (parts r2)).foldr (stepP key cl bottom) (k0, false, [])).2.2 = Gs.flatMap (fun G => leftD cl bottom (parts r2 G)) ∧
    ((Gs.flatMap (parts r2)).foldr (stepP key cl bottom) (k0, false, [])).1 = (match Gs with | (x :: _) :: _ => key x | _ => k0)
  | [], _ => by simp
  | G :: Gs, h => by
    obtain ⟨⟨x, R, rfl, h0, hall, hnx⟩, hGs⟩ := h
    obtain ⟨i1, i2⟩ := step_all r2 k0 Gs hGs
    rw [List.flatMap_cons, List.foldr_append]
    have hne : key x ≠ ((Gs.flatMap (parts r2)).foldr (stepP key cl bottom) (k0, false, [])).1 := by
      rw [i2]
      split
      · rename_i y R' Gs' ; exact hnx _ _ _ rfl
      · exact h0
    have hcs : ∀ c ∈ parts r2 (x :: R), ∃ y R', c = y :: R' ∧ key y = key x := by
      intro c hc
      have hne : c ≠ [] := by
        have key : ∀ L : List α, ∀ c ∈ parts r2 L, c ≠ [] := by
          intro L
          induction L with
          | nil => intro c hc; simp [parts] at hc
          | cons z L ih =>
            intro c hc
            rw [parts_cons] at hc
            unfold putP at hc
            split at hc
            · rename_i y c' cs hp
              rw [hp] at ih
              split at hc
              · rcases List.mem_cons.1 hc with rfl | hc
                · simp
                · exact ih c (List.mem_cons_of_mem _ hc)
              · rcases List.mem_cons.1 hc with rfl | hc
                · simp
                · exact ih c hc
            · rcases List.mem_cons.1 hc with rfl | hc
              · simp
              · exact ih c hc
        exact key _ c hc
      obtain ⟨y, R', rfl⟩ := List.exists_cons_of_ne_nil hne
      refine ⟨y, R', rfl, hall y ?_⟩
      rw [← parts_flat r2 (x :: R)]
      exact List.mem_flatten.2 ⟨_, hc, List.mem_cons_self⟩
    rw [step_group key cl bottom (key x) _ hne _ hcs]
    obtain ⟨c, cs, hp⟩ := parts_head r2 x R
    rw [if_neg (by rw [hp]; simp)]
    refine ⟨?_, rfl⟩
    rw [List.flatMap_cons, ← i1]
    rfl

theorem groups_parts (k0 : κ) : ∀ L : List α, (∀ x ∈ L, key x ≠ k0) → Groups key k0 (parts (fun x y => decide (key x = key y)) L)
  | [], _ => trivial
  | x :: L, h => by
    have ih := groups_parts k0 L (fun y hy => h y (List.mem_cons_of_mem _ hy))
    rw [parts_cons]
    unfold putP
    split
    · rename_i y c cs hp
      rw [hp] at ih
      obtain ⟨⟨z, R, hz, h0, hall, hnx⟩, hcs⟩ := ih
      cases hz
      by_cases e : key x = key y
      · rw [if_pos (by simpa using e)]
        refine ⟨⟨x, y :: c, rfl, h x List.mem_cons_self, ?_, ?_⟩, hcs⟩
        · intro v hv
          rcases List.mem_cons.1 hv with rfl | hv
          · rfl
          · rw [hall v hv, e]
        · intro v R' Gs' hg; rw [e]; exact hnx v R' Gs' hg
      · rw [if_neg (by simpa using e)]
        refine ⟨⟨x, [], rfl, h x List.mem_cons_self, ?_, ?_⟩, ⟨⟨y, c, rfl, h0, hall, hnx⟩, hcs⟩⟩
        · intro v hv; simp at hv; rw [hv]
        · intro v R' Gs' hg; cases hg; exact e
    · refine ⟨⟨x, [], rfl, h x List.mem_cons_self, ?_, ?_⟩, ih⟩
      · intro v hv; simp at hv; rw [hv]
      · intro v R' Gs' hg
        rename_i hno
        exact absurd hg (hno _ _ _)
/-- What is cut from the back at once is what is cut by keys, and each key's by itself. -/
theorem squash_same (r2 : α → α → Bool) (k0 : κ) (L : List α) (h : ∀ x ∈ L, key x ≠ k0) :
    ((parts (fun x y => decide (key x = key y) && r2 x y) L).foldr (stepP key cl bottom) (k0, false, [])).2.2 = (parts (fun x y => decide (key x = key y)) L).flatMap (fun G => leftD cl bottom (parts r2 G)) := by
  rw [parts_both]
  exact (step_all key cl bottom r2 k0 _ (groups_parts key k0 L h)).1
end Sq
namespace Sq
variable {α : Type}
theorem parts_app (r : α → α → Bool) : ∀ A B : List α, (∀ x y, A.getLast? = some x → B.head? = some y → r x y = false) → parts r (A ++ B) = parts r A ++ parts r B
  | [], B, _ => rfl
  | [x], B, h => by
    match B with
    | [] => rfl
    | y :: R =>
      obtain ⟨c, cs, hp⟩ := parts_head r y R
      have hr := h x y rfl rfl
      rw [List.singleton_append, parts_cons, hp]
      simp [putP, hr, parts]
  | x :: z :: A, B, h => by
    have ih := parts_app r (z :: A) B (fun a b ha hb => h a b (by rw [List.getLast?_cons_cons]; exact ha) hb)
    obtain ⟨c, cs, hp⟩ := parts_head r z A
    rw [List.cons_append, parts_cons, ih, parts_cons r x, hp]
    by_cases e : r x z <;> simp [putP, e]
theorem parts_chain (r : α → α → Bool) : ∀ A : List α, A ≠ [] → (∀ (j : Nat) x y, A[j]? = some x → A[j + 1]? = some y → r x y = true) → parts r A = [A]
  | [], h, _ => absurd rfl h
  | [x], _, _ => rfl
  | x :: z :: A, _, h => by
    have ih := parts_chain r (z :: A) (by simp) (fun j a b ha hb => h (j + 1) a b (by simpa using ha) (by simpa using hb))
    have hr := h 0 x z rfl rfl
    rw [parts_cons, ih]
    simp [putP, hr]
theorem parts_front (r : α → α → Bool) (L : List α) (i k : Nat) (hik : i < k) (hk : k ≤ L.length) (h1 : ∀ j, i < j → j < k → ∀ x y, L[j - 1]? = some x → L[j]? = some y → r x y = true)
    (h2 : ∀ x y, L[k - 1]? = some x → L[k]? = some y → r x y = false) : parts r (L.drop i) = (L.drop i).take (k - i) :: parts r (L.drop k) := by
  have e : L.drop i = (L.drop i).take (k - i) ++ L.drop k := by
    have := (List.take_append_drop (k - i) (L.drop i)).symm
    rw [List.drop_drop, show i + (k - i) = k by omega] at this
    exact this
  have hl : ((L.drop i).take (k - i)).length = k - i := by rw [List.length_take, List.length_drop]; omega
  conv => lhs; rw [e]
  rw [parts_app, parts_chain]
  · rfl
  · intro e; rw [e] at hl; simp at hl; omega
  · intro j x y hx hy
    have hj : j + 1 < k - i := by rw [← hl]; exact (List.getElem?_eq_some_iff.1 hy).1
    rw [List.getElem?_take_of_lt (by omega), List.getElem?_drop] at hx hy
    exact h1 (i + (j + 1)) (by omega) (by omega) x y (by rw [show i + (j + 1) - 1 = i + j by omega]; exact hx) hy
  · intro x y hx hy
    rw [List.getLast?_eq_getElem?, hl, List.getElem?_take_of_lt (by omega), List.getElem?_drop, show i + (k - i - 1) = k - 1 by omega] at hx
    rw [List.head?_drop] at hy
    exact h2 x y hx hy
theorem parts_back (r : α → α → Bool) (L : List α) (i k : Nat) (hik : i < k) (hk : k ≤ L.length) (h1 : ∀ j, i < j → j < k → ∀ x y, L[j - 1]? = some x → L[j]? = some y → r x y = true)
    (h2 : 0 < i → ∀ x y, L[i - 1]? = some x → L[i]? = some y → r x y = false) : parts r (L.take k) = parts r (L.take i) ++ [(L.drop i).take (k - i)] := by
  have e : L.take k = L.take i ++ (L.drop i).take (k - i) := by
    rw [← List.take_add, show i + (k - i) = k by omega]
  have hl : ((L.drop i).take (k - i)).length = k - i := by rw [List.length_take, List.length_drop]; omega
  rw [e, parts_app, parts_chain r ((L.drop i).take (k - i))]
  · intro e; rw [e] at hl; simp at hl; omega
  · intro j x y hx hy
    have hj : j + 1 < k - i := by rw [← hl]; exact (List.getElem?_eq_some_iff.1 hy).1
    rw [List.getElem?_take_of_lt (by omega), List.getElem?_drop] at hx hy
    exact h1 (i + (j + 1)) (by omega) (by omega) x y (by rw [show i + (j + 1) - 1 = i + j by omega]; exact hx) hy
  · intro x y hx hy
    rw [List.getLast?_eq_getElem?, List.length_take, Nat.min_eq_left (by omega)] at hx
    by_cases hi : i = 0
    · subst hi; simp at hx
    · rw [List.getElem?_take_of_lt (by omega)] at hx
      rw [List.head?_take, if_neg (by omega), List.head?_drop] at hy
      exact h2 (by omega) x y hx hy
end Sq
end Go.Proofs.YtlmgojlffgkciaaGreat

namespace Go.Proofs.YtlmgojlffgkciaaGreat
/-- What is left of a class. -/
def clS (b : Bool) : List EntD → List EntD
  | [] => []
  | e :: r => classG b e.1 e.2.1 (e :: r)
/-- No time that is kept lies between two neighbours. -/
def cutB (S : List Int) (x y : EntD) : Bool := !apartB S y.2.1 x.2.1
def keyEq (x y : EntD) : Bool := decide (x.1 = y.1)
def leftS (S : List Int) (bottom : Bool) (G : List EntD) : List EntD := Sq.leftD clS bottom (Sq.parts (cutB S) G)
def squashL (L : List EntD) (S : List Int) (bottom : Bool) : List EntD := if rightB L = true then (Sq.parts keyEq L).flatMap (leftS S bottom) else []
theorem clS_head {c : List EntD} {e : EntD} (b : Bool) (h : c[0]? = some e) : clS b c = classG b e.1 e.2.1 c := by
  match c, h with
  | x :: r, h => simp at h; subst h; rfl
theorem clS_len (b : Bool) : ∀ c : List EntD, (clS b c).length ≤ c.length
  | [] => Nat.le_refl _
  | e :: r => by
    show (classG b e.1 e.2.1 (e :: r)).length ≤ (e :: r).length
    unfold classG
    by_cases h1 : sumOkB (joinG true 0 (e :: r)).2.2 = true
    · rw [if_pos h1]
      by_cases h2 : b = true ∧ (joinG true 0 (e :: r)).1 = 2
      · rw [if_pos h2]; simp
      · rw [if_neg h2]; simp
    · rw [if_neg h1]; exact Nat.le_refl _
theorem left_len (bottom : Bool) : ∀ P : List (List EntD), ((P.foldr (Sq.stepD clS) (bottom, [])).2).length ≤ P.flatten.length
  | [] => Nat.le_refl _
  | c :: P => by
    have ih := left_len bottom P
    have h := clS_len (P.foldr (Sq.stepD clS) (bottom, [])).1 c
    rw [List.foldr_cons, List.flatten_cons, List.length_append]
    generalize P.foldr (Sq.stepD clS) (bottom, []) = st at ih h ⊢
    show (clS st.1 c ++ st.2).length ≤ _
    rw [List.length_append]
    omega
theorem leftS_len (S : List Int) (bottom : Bool) (G : List EntD) : (leftS S bottom G).length ≤ G.length := by
  have := left_len bottom (Sq.parts (cutB S) G)
  rw [Sq.parts_flat] at this
  exact this
theorem left_step (bottom : Bool) (P : List (List EntD)) (j : Nat) (c : List EntD) (h : P[j]? = some c) :
    (P.drop j).foldr (Sq.stepD clS) (bottom, []) = Sq.stepD clS c ((P.drop (j + 1)).foldr (Sq.stepD clS) (bottom, [])) := by
  obtain ⟨hj, e⟩ := List.getElem?_eq_some_iff.1 h
  rw [List.drop_eq_getElem_cons hj, e]
  rfl
theorem flat_len (S : List Int) (bottom : Bool) : ∀ P : List (List EntD), (P.flatMap (leftS S bottom)).length ≤ P.flatten.length
  | [] => Nat.le_refl _
  | c :: P => by
    have ih := flat_len S bottom P
    have h := leftS_len S bottom c
    rw [List.flatMap_cons, List.flatten_cons, List.length_append, List.length_append]
    omega
theorem squashL_len (L : List EntD) (S : List Int) (bottom : Bool) : (squashL L S bottom).length ≤ L.length := by
  unfold squashL
  split
  · have := flat_len S bottom (Sq.parts keyEq L)
    rwa [Sq.parts_flat] at this
  · simp
theorem part_len (r : EntD → EntD → Bool) (L : List EntD) (c : List EntD) (h : c ∈ Sq.parts r L) : c.length ≤ L.length ∧ ∀ e ∈ c, e ∈ L := by
  have hf := Sq.parts_flat r L
  refine ⟨?_, fun e he => by rw [← hf]; exact List.mem_flatten.2 ⟨c, h, he⟩⟩
  obtain ⟨A, B, e⟩ := List.append_of_mem h
  rw [← hf, e]
  simp
  omega
theorem part_ne (r : EntD → EntD → Bool) : ∀ (L : List EntD) (c : List EntD), c ∈ Sq.parts r L → c ≠ []
  | [], c, h => by simp [Sq.parts] at h
  | z :: L, c, h => by
    have ih := part_ne r L
    rw [Sq.parts_cons] at h
    unfold Sq.putP at h
    split at h
    · rename_i y c' cs hp
      rw [hp] at ih
      split at h
      · rcases List.mem_cons.1 h with rfl | h
        · simp
        · exact ih c (List.mem_cons_of_mem _ h)
      · rcases List.mem_cons.1 h with rfl | h
        · simp
        · exact ih c h
    · rcases List.mem_cons.1 h with rfl | h
      · simp
      · exact ih c h
theorem right_nums {L : List EntD} (h : rightB L = true) : ∀ e ∈ L, (-1000000 ≤ e.2.2.2.2 ∧ e.2.2.2.2 ≤ 1000000) ∧ (1 ≤ e.2.2.1 ∧ e.2.2.1 ≤ 3 ∧ (e.2.2.1 = 2 → e.2.2.2.1 = ⟨#[]⟩)) ∧ e.1 ≠ ⟨#[]⟩ := by
  intro e he
  obtain ⟨j, hj⟩ := List.getElem?_of_mem he
  have hb := right_ent h hj
  unfold entB at hb
  simp only [Bool.and_eq_true, decide_eq_true_eq] at hb
  obtain ⟨hk, h1, h2, h3, h4, h5, h6⟩ := hb
  refine ⟨⟨h3, h4⟩, ?_, ?_⟩
  · by_cases d1 : e.2.2.1 = 1
    · exact ⟨by omega, by omega, fun h => by omega⟩
    · by_cases d2 : e.2.2.1 = 2
      · rw [d2] at h6
        simp [kindB] at h6
        exact ⟨by omega, by omega, fun _ => h6.1⟩
      · by_cases d3 : e.2.2.1 = 3
        · exact ⟨by omega, by omega, fun h => by omega⟩
        · rw [kindB_0 d1 d2 d3] at h6; cases h6
  · intro e0
    rw [e0] at hk
    simp [keyB, ByteArray.size] at hk
end Go.Proofs.YtlmgojlffgkciaaGreat

namespace Go.Proofs.YtlmgojlffgkciaaGreat
open Go.RowKit

attribute [local go_sem] Oper.semAt_some

/-- A cell as the program has it. -/
def cellV (c : CellD) : Value := .agg #[.bool c.1, .string c.2.1, .int .i64 c.2.2]
def cellN (b : Bool) (t : ByteArray) (n : Int) (d : Int) (t' : ByteArray) (n' : Int) : CellD :=
  if d = 1 then (true, t', n') else if d = 2 then (false, ⟨#[]⟩, 0) else if d = 3 then (true, t, wrap64 (n + n')) else (b, t, n)
theorem cellN_1 {b : Bool} {t t' : ByteArray} {n n' : Int} : cellN b t n 1 t' n' = (true, t', n') := by simp [cellN]
theorem cellN_2 {b : Bool} {t t' : ByteArray} {n n' : Int} : cellN b t n 2 t' n' = (false, ⟨#[]⟩, 0) := by simp [cellN]
theorem cellN_3 {b : Bool} {t t' : ByteArray} {n n' : Int} : cellN b t n 3 t' n' = (true, t, wrap64 (n + n')) := by simp [cellN]
theorem cellN_0 {b : Bool} {t t' : ByteArray} {n d n' : Int} (h1 : ¬ d = 1) (h2 : ¬ d = 2) (h3 : ¬ d = 3) : cellN b t n d t' n' = (b, t, n) := by simp [cellN, h1, h2, h3]
theorem cellV_ret {c c' : CellD} (h : c = c') : Ending.returned (cellV c) = .returned (cellV c') := by rw [h]

set_option maxRecDepth 100000 in
set_option maxHeartbeats 400000 in
theorem do_putKind (b : Bool) (t k t' : ByteArray) (n q d n' : Int) (w : World) :
    Calls Tryz.prog 261 #[.agg #[], .agg #[.bool b, .string t, .int .i64 n], .agg #[.string k, .int .i64 q, .int .i64 d, .string t', .int .i64 n']] w fun e w' => e = .returned (cellV (true, t', n')) ∧ Below w.heap.size w w' := by
  go_enter Tryz.func261, Tryz.ntmps261
  go_wp2
  refine bodyPost_ret (v := .agg #[.bool true, .string t', .int .i64 n']) (by simp [results, Tryz.results261, go_sem]) rfl ⟨rfl, ?_⟩
  exact (((((Below.refl _ _).alloc (Nat.le_refl _) _).alloc (by simp) _).alloc (by simp; omega) _).alloc (by simp; omega) _)

set_option maxRecDepth 100000 in
set_option maxHeartbeats 400000 in
theorem do_delKind (b : Bool) (t k t' : ByteArray) (n q d n' : Int) (w : World) :
    Calls Tryz.prog 263 #[.agg #[], .agg #[.bool b, .string t, .int .i64 n], .agg #[.string k, .int .i64 q, .int .i64 d, .string t', .int .i64 n']] w fun e w' => e = .returned (cellV (false, ⟨#[]⟩, 0)) ∧ Below w.heap.size w w' := by
  go_enter Tryz.func263, Tryz.ntmps263
  go_wp2
  refine bodyPost_ret (v := .agg #[.bool false, .string ⟨#[]⟩, .int .i64 0]) (by simp [results, Tryz.results263, go_sem]) rfl ⟨rfl, ?_⟩
  exact (((((Below.refl _ _).alloc (Nat.le_refl _) _).alloc (by simp) _).alloc (by simp; omega) _).alloc (by simp; omega) _)

set_option maxRecDepth 100000 in
set_option maxHeartbeats 400000 in
theorem do_addKind (b : Bool) (t k t' : ByteArray) (n q d n' : Int) (w : World) :
    Calls Tryz.prog 265 #[.agg #[], .agg #[.bool b, .string t, .int .i64 n], .agg #[.string k, .int .i64 q, .int .i64 d, .string t', .int .i64 n']] w fun e w' => e = .returned (cellV (true, t, wrap64 (n + n'))) ∧ Below w.heap.size w w' := by
  go_enter Tryz.func265, Tryz.ntmps265
  go_wp2
  refine bodyPost_ret (v := .agg #[.bool true, .string t, .int .i64 (wrap64 (n + n'))]) (by simp [results, Tryz.results265, go_sem]) rfl ⟨rfl, ?_⟩
  exact (((((Below.refl _ _).alloc (Nat.le_refl _) _).alloc (by simp) _).alloc (by simp; omega) _).alloc (by simp; omega) _)

set_option maxRecDepth 100000 in
set_option maxHeartbeats 400000 in
theorem do_noKind (b : Bool) (t k t' : ByteArray) (n q d n' : Int) (w : World) :
    Calls Tryz.prog 267 #[.agg #[], .agg #[.bool b, .string t, .int .i64 n], .agg #[.string k, .int .i64 q, .int .i64 d, .string t', .int .i64 n']] w fun e w' => e = .returned (cellV (b, t, n)) ∧ Below w.heap.size w w' := by
  go_enter Tryz.func267, Tryz.ntmps267
  go_wp2
  refine bodyPost_ret (v := .agg #[.bool b, .string t, .int .i64 n]) (by simp [results, Tryz.results267, go_sem]) rfl ⟨rfl, ?_⟩
  exact (((((Below.refl _ _).alloc (Nat.le_refl _) _).alloc (by simp) _).alloc (by simp; omega) _).alloc (by simp; omega) _)

end Go.Proofs.YtlmgojlffgkciaaGreat
