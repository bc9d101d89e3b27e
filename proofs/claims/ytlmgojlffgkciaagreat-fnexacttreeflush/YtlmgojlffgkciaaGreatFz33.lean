/-
  The document's l4Apart: whether a time that is kept lies between two entries; by a walk of its Go text.
  Classes of a row: cut from the back at once, or by keys and each key's by itself: what is left of them is the same. Plain.
  What is left of entries, in plain words: cut by keys, each key's entries cut where a time that is kept lies between two. Plain.
  What the program's CellDo makes of every cell and every entry, kind by kind, by walks of its Go text.
  Entries in the order of their times, and what a key has by them, in plain words; the library's insertion sort gives that order. No statement of the program stands here.
  What a key has, by plain lists: it goes on entry by entry, and no order of unlike times matters. No statement of the program stands here.
  What a key has is its last reset and what was added since, by plain lists. No statement of the program stands here.
  What is left of entries tells the same as they do, at each time that is kept. Plain.
  What is left of entries stays as it is when it is squashed again. Plain.
-/
import Derived.Test.YtlmgojlffgkciaaGreatFz02
import Derived.Test.YtlmgojlffgkciaaGreatFz00
import Derived.Test.YtlmgojlffgkciaaGreatFz32
import Derived.Deep.RegionHeld3
import Derived.Deep.DeepCutAuto
import Derived.Test.YtlmgojlffgkciaaGreatFz17
import Derived.Sort.Defs
namespace Go.Proofs.YtlmgojlffgkciaaGreat
open Go.RowKit
set_option maxRecDepth 100000
set_option maxHeartbeats 1000000
def apartB (S : List Int) (o n : Int) : Bool := S.any (fun s => decide (o ≤ s) && decide (s < n))
theorem apart_take {S : List Int} {o n : Int} {k : Nat} {s : Int} (h : S[k]? = some s) : apartB (S.take (k + 1)) o n = (apartB (S.take k) o n || (decide (o ≤ s) && decide (s < n))) := by
  simp [apartB, List.take_add_one, h, List.any_append]
theorem apart_more {S : List Int} {o n : Int} {k : Nat} (h : apartB (S.take k) o n = true) : apartB S o n = true := by
  unfold apartB at *
  rw [List.any_eq_true] at *
  obtain ⟨x, hx, hp⟩ := h
  exact ⟨x, List.mem_of_mem_take hx, hp⟩
theorem specApart (lo : Nat) (a : Option Addr) (n c : Nat) (S : List Int) (o p : Int) (w : World) (h : IntsIn lo w a n c S) :
    Calls Tryz.prog 179 #[.slice a n c, .int .i64 o, .int .i64 p] w fun e w' => e = .returned (.bool (apartB S o p)) ∧ Below w.heap.size w w' := by
  have hr := h.room
  have hbg := h.big
  unfold maxLen at hbg
  have H : Hid (IntsIn lo w a n c S) := h
  clear h
  go_enter Tryz.func179, Tryz.ntmps179
  go_wp2
  go_loopw [7] (fun i wr => ∃ k : Nat, k ≤ n ∧ i = .int .i64 k ∧ apartB (S.take k) o p = false ∧ Below w.heap.size w wr) (fun i _ => n - (intOf i).toNat)
  case atStart => exact ⟨0, Nat.zero_le _, rfl, rfl, Below.refl _ _⟩
  case round =>
    obtain ⟨k, hk, rfl, hno, hb⟩ := hrel
    have HNO : Hid (apartB (S.take k) o p = false) := hno
    clear hno
    by_cases hlt : k < n
    · have hltI : (k : Int) < (n : Int) := by omega
      obtain ⟨b, off, rfl, hbb⟩ := H.out.form (by omega)
      obtain ⟨s, hs, hw, hc⟩ := H.out.num hb k hlt
      have HS : Hid (S[k]? = some s) := hs
      have hbr : b < wr.heap.size := Nat.lt_of_lt_of_le hbb hb.size
      clear hs hw
      by_cases h1 : o ≤ s
      · by_cases h2 : s < p
        · go_wp2
          go_ret
          have hyes : apartB S o p = true := apart_more (k := k + 1) (by rw [apart_take HS.out]; simp [h1, h2])
          exact ⟨by rw [hyes]; rfl, hb⟩
        · go_wp2
          go_roundw
          case rel => exact ⟨k + 1, by omega, by go_num, by rw [apart_take HS.out, HNO.out]; simp [h2], hb⟩
          case measure => simp [intOf]; omega
      · go_wp2
        go_roundw
        case rel => exact ⟨k + 1, by omega, by go_num, by rw [apart_take HS.out, HNO.out]; simp [h1], hb⟩
        case measure => simp [intOf]; omega
    · have hltI : ¬ (k : Int) < (n : Int) := by omega
      have hall : S.take k = S := List.take_of_length_le (by have := H.out.length; omega)
      have HALL : Hid (apartB S o p = false) := by have := HNO.out; rw [hall] at this; exact this
      clear hall
      go_wp2
      go_ret
      exact ⟨by rw [HALL.out]; rfl, hb⟩
end Go.Proofs.YtlmgojlffgkciaaGreat

namespace Go.Proofs.YtlmgojlffgkciaaGreat
namespace Sq
variable {α κ : Type} [DecidableEq κ]
def putP (r : α → α → Bool) (x : α) : List (List α) → List (List α)
  | (y :: c) :: cs => if r x y then (x :: y :: c) :: cs else [x] :: (y :: c) :: cs
  | cs => [x] :: cs
def parts (r : α → α → Bool) (L : List α) : List (List α) := L.foldr (putP r) []
theorem parts_cons (r : α → α → Bool) (x : α) (L : List α) : parts r (x :: L) = putP r x (parts r L) := rfl
theorem parts_head (r : α → α → Bool) (x : α) (L : List α) : ∃ c cs, parts r (x :: L) = (x :: c) :: cs := by
  rw [parts_cons]
  unfold putP
  split
  · rename_i y c cs _
    by_cases h : r x y
    · exact ⟨y :: c, cs, by rw [if_pos h]⟩
    · exact ⟨[], (y :: c) :: cs, by rw [if_neg h]⟩
  · exact ⟨[], _, rfl⟩
theorem parts_flat (r : α → α → Bool) : ∀ L : List α, (parts r L).flatten = L
  | [] => rfl
  | x :: L => by
    rw [parts_cons]
    have ih := parts_flat r L
    unfold putP
    split
    · rename_i y c cs h
      rw [h] at ih
      by_cases hr : r x y
      · rw [if_pos hr]; simpa using ih
      · rw [if_neg hr]; simpa using ih
    · simpa using ih
theorem parts_both (r1 r2 : α → α → Bool) : ∀ L : List α, parts (fun x y => r1 x y && r2 x y) L = (parts r1 L).flatMap (parts r2)
  | [] => rfl
  | x :: L => by
    have ih := parts_both r1 r2 L
    rw [parts_cons, ih]
    match L with
    | [] => rfl
    | y :: R =>
      obtain ⟨c, cs, h⟩ := parts_head r1 y R
      rw [parts_cons r1 x, h]
      obtain ⟨c', ds, h'⟩ := parts_head r2 y c
      by_cases e1 : r1 x y
      · have e3 : putP r1 x ((y :: c) :: cs) = (x :: y :: c) :: cs := by simp [putP, e1]
        rw [e3, List.flatMap_cons, List.flatMap_cons, parts_cons r2 x, h']
        by_cases e2 : r2 x y <;> simp [putP, e1, e2]
      · have e3 : putP r1 x ((y :: c) :: cs) = [x] :: (y :: c) :: cs := by simp [putP, e1]
        rw [e3, List.flatMap_cons, List.flatMap_cons, List.flatMap_cons, h']
        simp [putP, e1, parts]
variable (key : α → κ) (cl : Bool → List α → List α) (bottom : Bool)
def stepP (c : List α) (st : κ × Bool × List α) : κ × Bool × List α :=
  match c with
  | [] => st
  | x :: R => (key x, (if key x = st.1 then st.2.1 else bottom) && (cl (if key x = st.1 then st.2.1 else bottom) (x :: R)).isEmpty, cl (if key x = st.1 then st.2.1 else bottom) (x :: R) ++ st.2.2)
def stepD (c : List α) (st : Bool × List α) : Bool × List α := (if (cl st.1 c).isEmpty then st.1 else false, cl st.1 c ++ st.2)
def leftD (Cs : List (List α)) : List α := (Cs.foldr (stepD cl) (bottom, [])).2
theorem and_if (a b : Bool) : (a && b) = if b = true then a else false := by cases a <;> cases b <;> rfl
theorem step_group (k : κ) (st : κ × Bool × List α) (hk : k ≠ st.1) : ∀ Cs : List (List α), (∀ c ∈ Cs, ∃ x R, c = x :: R ∧ key x = k) →
    Cs.foldr (stepP key cl bottom) st = if Cs = [] then st else (k, (Cs.foldr (stepD cl) (bottom, [])).1, (Cs.foldr (stepD cl) (bottom, [])).2 ++ st.2.2)
  | [], _ => by simp
  | c :: Cs, h => by
    obtain ⟨x, R, rfl, hx⟩ := h c List.mem_cons_self
    have ih := step_group k st hk Cs (fun c hc => h c (List.mem_cons_of_mem _ hc))
    rw [if_neg (by simp), List.foldr_cons, ih, List.foldr_cons]
    by_cases hC : Cs = []
    · subst hC
      rw [if_pos rfl]
      simp only [stepP, stepD, List.foldr_nil, hx, if_neg hk, List.append_nil]
      rw [and_if]
      congr
    · rw [if_neg hC]
      simp only [stepP, stepD, hx, if_true, List.append_assoc]
      rw [and_if]
def Groups (k0 : κ) : List (List α) → Prop
  | [] => True
  | G :: Gs => (∃ x R, G = x :: R ∧ key x ≠ k0 ∧ (∀ y ∈ G, key y = key x) ∧ (∀ y R' Gs', Gs = (y :: R') :: Gs' → key x ≠ key y)) ∧ Groups k0 Gs
theorem step_all (r2 : α → α → Bool) (k0 : κ) : ∀ Gs : List (List α), Groups key k0 Gs →
    ((Gs.flatMap (parts r2)).foldr (stepP key cl bottom) (k0, false, [])).2.2 = Gs.flatMap (fun G => leftD cl bottom (parts r2 G)) ∧
    ((Gs.flatMap (parts r2)).foldr (stepP key cl bottom) (k0, false, [])).1 = (match Gs with | (x :: _) :: _ => key x | _ => k0)
  | [], _ => by simp
  | G :: Gs, h => by
    obtain ⟨⟨x, R, rfl, h0, hall, hnx⟩, hGs⟩ := h
    obtain ⟨i1, i2⟩ := step_all r2 k0 Gs hGs
    rw [List.flatMap_cons, List.foldr_append]
    have hne : key x ≠ ((Gs.flatMap (parts r2)).foldr (stepP key cl bottom) (k0, false, [])).1 := by
      rw [i2]
      split
      · rename_i y R' Gs' ; exact hnx _ _ _ rfl
      · exact h0
    have hcs : ∀ c ∈ parts r2 (x :: R), ∃ y R', c = y :: R' ∧ key y = key x := by
      intro c hc
      have hne : c ≠ [] := by
        have key : ∀ L : List α, ∀ c ∈ parts r2 L, c ≠ [] := by
          intro L
          induction L with
          | nil => intro c hc; simp [parts] at hc
          | cons z L ih =>
            intro c hc
            rw [parts_cons] at hc
            unfold putP at hc
            split at hc
            · rename_i y c' cs hp
              rw [hp] at ih
              split at hc
              · rcases List.mem_cons.1 hc with rfl | hc
                · simp
                · exact ih c (List.mem_cons_of_mem _ hc)
              · rcases List.mem_cons.1 hc with rfl | hc
                · simp
                · exact ih c hc
            · rcases List.mem_cons.1 hc with rfl | hc
              · simp
              · exact ih c hc
        exact key _ c hc
      obtain ⟨y, R', rfl⟩ := List.exists_cons_of_ne_nil hne
      refine ⟨y, R', rfl, hall y ?_⟩
      rw [← parts_flat r2 (x :: R)]
      exact List.mem_flatten.2 ⟨_, hc, List.mem_cons_self⟩
    rw [step_group key cl bottom (key x) _ hne _ hcs]
    obtain ⟨c, cs, hp⟩ := parts_head r2 x R
    rw [if_neg (by rw [hp]; simp)]
    refine ⟨?_, rfl⟩
    rw [List.flatMap_cons, ← i1]
    rfl
theorem groups_parts (k0 : κ) : ∀ L : List α, (∀ x ∈ L, key x ≠ k0) → Groups key k0 (parts (fun x y => decide (key x = key y)) L)
  | [], _ => trivial
  | x :: L, h => by
    have ih := groups_parts k0 L (fun y hy => h y (List.mem_cons_of_mem _ hy))
    rw [parts_cons]
    unfold putP
    split
    · rename_i y c cs hp
      rw [hp] at ih
      obtain ⟨⟨z, R, hz, h0, hall, hnx⟩, hcs⟩ := ih
      cases hz
      by_cases e : key x = key y
      · rw [if_pos (by simpa using e)]
        refine ⟨⟨x, y :: c, rfl, h x List.mem_cons_self, ?_, ?_⟩, hcs⟩
        · intro v hv
          rcases List.mem_cons.1 hv with rfl | hv
          · rfl
          · rw [hall v hv, e]
        · intro v R' Gs' hg; rw [e]; exact hnx v R' Gs' hg
      · rw [if_neg (by simpa using e)]
        refine ⟨⟨x, [], rfl, h x List.mem_cons_self, ?_, ?_⟩, ⟨⟨y, c, rfl, h0, hall, hnx⟩, hcs⟩⟩
        · intro v hv; simp at hv; rw [hv]
        · intro v R' Gs' hg; cases hg; exact e
    · refine ⟨⟨x, [], rfl, h x List.mem_cons_self, ?_, ?_⟩, ih⟩
      · intro v hv; simp at hv; rw [hv]
      · intro v R' Gs' hg
        rename_i hno
        exact absurd hg (hno _ _ _)
theorem squash_same (r2 : α → α → Bool) (k0 : κ) (L : List α) (h : ∀ x ∈ L, key x ≠ k0) :
    ((parts (fun x y => decide (key x = key y) && r2 x y) L).foldr (stepP key cl bottom) (k0, false, [])).2.2 = (parts (fun x y => decide (key x = key y)) L).flatMap (fun G => leftD cl bottom (parts r2 G)) := by
  rw [parts_both]
  exact (step_all key cl bottom r2 k0 _ (groups_parts key k0 L h)).1
end Sq
namespace Sq
variable {α : Type}
theorem parts_app (r : α → α → Bool) : ∀ A B : List α, (∀ x y, A.getLast? = some x → B.head? = some y → r x y = false) → parts r (A ++ B) = parts r A ++ parts r B
  | [], B, _ => rfl
  | [x], B, h => by
    match B with
    | [] => rfl
    | y :: R =>
      obtain ⟨c, cs, hp⟩ := parts_head r y R
      have hr := h x y rfl rfl
      rw [List.singleton_append, parts_cons, hp]
      simp [putP, hr, parts]
  | x :: z :: A, B, h => by
    have ih := parts_app r (z :: A) B (fun a b ha hb => h a b (by rw [List.getLast?_cons_cons]; exact ha) hb)
    obtain ⟨c, cs, hp⟩ := parts_head r z A
    rw [List.cons_append, parts_cons, ih, parts_cons r x, hp]
    by_cases e : r x z <;> simp [putP, e]
theorem parts_chain (r : α → α → Bool) : ∀ A : List α, A ≠ [] → (∀ (j : Nat) x y, A[j]? = some x → A[j + 1]? = some y → r x y = true) → parts r A = [A]
  | [], h, _ => absurd rfl h
  | [x], _, _ => rfl
  | x :: z :: A, _, h => by
    have ih := parts_chain r (z :: A) (by simp) (fun j a b ha hb => h (j + 1) a b (by simpa using ha) (by simpa using hb))
    have hr := h 0 x z rfl rfl
    rw [parts_cons, ih]
    simp [putP, hr]
theorem parts_front (r : α → α → Bool) (L : List α) (i k : Nat) (hik : i < k) (hk : k ≤ L.length) (h1 : ∀ j, i < j → j < k → ∀ x y, L[j - 1]? = some x → L[j]? = some y → r x y = true)
    (h2 : ∀ x y, L[k - 1]? = some x → L[k]? = some y → r x y = false) : parts r (L.drop i) = (L.drop i).take (k - i) :: parts r (L.drop k) := by
  have e : L.drop i = (L.drop i).take (k - i) ++ L.drop k := by
    have := (List.take_append_drop (k - i) (L.drop i)).symm
    rw [List.drop_drop, show i + (k - i) = k by omega] at this
    exact this
  have hl : ((L.drop i).take (k - i)).length = k - i := by rw [List.length_take, List.length_drop]; omega
  conv => lhs; rw [e]
  rw [parts_app, parts_chain]
  · rfl
  · intro e; rw [e] at hl; simp at hl; omega
  · intro j x y hx hy
    have hj : j + 1 < k - i := by rw [← hl]; exact (List.getElem?_eq_some_iff.1 hy).1
    rw [List.getElem?_take_of_lt (by omega), List.getElem?_drop] at hx hy
    exact h1 (i + (j + 1)) (by omega) (by omega) x y (by rw [show i + (j + 1) - 1 = i + j by omega]; exact hx) hy
  · intro x y hx hy
    rw [List.getLast?_eq_getElem?, hl, List.getElem?_take_of_lt (by omega), List.getElem?_drop, show i + (k - i - 1) = k - 1 by omega] at hx
    rw [List.head?_drop] at hy
    exact h2 x y hx hy
theorem parts_back (r : α → α → Bool) (L : List α) (i k : Nat) (hik : i < k) (hk : k ≤ L.length) (h1 : ∀ j, i < j → j < k → ∀ x y, L[j - 1]? = some x → L[j]? = some y → r x y = true)
    (h2 : 0 < i → ∀ x y, L[i - 1]? = some x → L[i]? = some y → r x y = false) : parts r (L.take k) = parts r (L.take i) ++ [(L.drop i).take (k - i)] := by
  have e : L.take k = L.take i ++ (L.drop i).take (k - i) := by
    rw [← List.take_add, show i + (k - i) = k by omega]
  have hl : ((L.drop i).take (k - i)).length = k - i := by rw [List.length_take, List.length_drop]; omega
  rw [e, parts_app, parts_chain r ((L.drop i).take (k - i))]
  · intro e; rw [e] at hl; simp at hl; omega
  · intro j x y hx hy
    have hj : j + 1 < k - i := by rw [← hl]; exact (List.getElem?_eq_some_iff.1 hy).1
    rw [List.getElem?_take_of_lt (by omega), List.getElem?_drop] at hx hy
    exact h1 (i + (j + 1)) (by omega) (by omega) x y (by rw [show i + (j + 1) - 1 = i + j by omega]; exact hx) hy
  · intro x y hx hy
    rw [List.getLast?_eq_getElem?, List.length_take, Nat.min_eq_left (by omega)] at hx
    by_cases hi : i = 0
    · subst hi; simp at hx
    · rw [List.getElem?_take_of_lt (by omega)] at hx
      rw [List.head?_take, if_neg (by omega), List.head?_drop] at hy
      exact h2 (by omega) x y hx hy
end Sq
end Go.Proofs.YtlmgojlffgkciaaGreat
namespace Go.Proofs.YtlmgojlffgkciaaGreat
def clS (b : Bool) : List EntD → List EntD
  | [] => []
  | e :: r => classG b e.1 e.2.1 (e :: r)
def cutB (S : List Int) (x y : EntD) : Bool := !apartB S y.2.1 x.2.1
def keyEq (x y : EntD) : Bool := decide (x.1 = y.1)
def leftS (S : List Int) (bottom : Bool) (G : List EntD) : List EntD := Sq.leftD clS bottom (Sq.parts (cutB S) G)
def squashL (L : List EntD) (S : List Int) (bottom : Bool) : List EntD := if rightB L = true then (Sq.parts keyEq L).flatMap (leftS S bottom) else []
theorem clS_head {c : List EntD} {e : EntD} (b : Bool) (h : c[0]? = some e) : clS b c = classG b e.1 e.2.1 c := by
  match c, h with
  | x :: r, h => simp at h; subst h; rfl
theorem clS_len (b : Bool) : ∀ c : List EntD, (clS b c).length ≤ c.length
  | [] => Nat.le_refl _
  | e :: r => by
    show (classG b e.1 e.2.1 (e :: r)).length ≤ (e :: r).length
    unfold classG
    by_cases h1 : sumOkB (joinG true 0 (e :: r)).2.2 = true
    · rw [if_pos h1]
      by_cases h2 : b = true ∧ (joinG true 0 (e :: r)).1 = 2
      · rw [if_pos h2]; simp
      · rw [if_neg h2]; simp
    · rw [if_neg h1]; exact Nat.le_refl _
theorem left_len (bottom : Bool) : ∀ P : List (List EntD), ((P.foldr (Sq.stepD clS) (bottom, [])).2).length ≤ P.flatten.length
  | [] => Nat.le_refl _
  | c :: P => by
    have ih := left_len bottom P
    have h := clS_len (P.foldr (Sq.stepD clS) (bottom, [])).1 c
    rw [List.foldr_cons, List.flatten_cons, List.length_append]
    generalize P.foldr (Sq.stepD clS) (bottom, []) = st at ih h ⊢
    show (clS st.1 c ++ st.2).length ≤ _
    rw [List.length_append]
    omega
theorem leftS_len (S : List Int) (bottom : Bool) (G : List EntD) : (leftS S bottom G).length ≤ G.length := by
  have := left_len bottom (Sq.parts (cutB S) G)
  rw [Sq.parts_flat] at this
  exact this
theorem left_step (bottom : Bool) (P : List (List EntD)) (j : Nat) (c : List EntD) (h : P[j]? = some c) :
    (P.drop j).foldr (Sq.stepD clS) (bottom, []) = Sq.stepD clS c ((P.drop (j + 1)).foldr (Sq.stepD clS) (bottom, [])) := by
  obtain ⟨hj, e⟩ := List.getElem?_eq_some_iff.1 h
  rw [List.drop_eq_getElem_cons hj, e]
  rfl
theorem flat_len (S : List Int) (bottom : Bool) : ∀ P : List (List EntD), (P.flatMap (leftS S bottom)).length ≤ P.flatten.length
  | [] => Nat.le_refl _
  | c :: P => by
    have ih := flat_len S bottom P
    have h := leftS_len S bottom c
    rw [List.flatMap_cons, List.flatten_cons, List.length_append, List.length_append]
    omega
theorem squashL_len (L : List EntD) (S : List Int) (bottom : Bool) : (squashL L S bottom).length ≤ L.length := by
  unfold squashL
  split
  · have := flat_len S bottom (Sq.parts keyEq L)
    rwa [Sq.parts_flat] at this
  · simp
theorem part_len (r : EntD → EntD → Bool) (L : List EntD) (c : List EntD) (h : c ∈ Sq.parts r L) : c.length ≤ L.length ∧ ∀ e ∈ c, e ∈ L := by
  have hf := Sq.parts_flat r L
  refine ⟨?_, fun e he => by rw [← hf]; exact List.mem_flatten.2 ⟨c, h, he⟩⟩
  obtain ⟨A, B, e⟩ := List.append_of_mem h
  rw [← hf, e]
  simp
  omega
theorem part_ne (r : EntD → EntD → Bool) : ∀ (L : List EntD) (c : List EntD), c ∈ Sq.parts r L → c ≠ []
  | [], c, h => by simp [Sq.parts] at h
  | z :: L, c, h => by
    have ih := part_ne r L
    rw [Sq.parts_cons] at h
    unfold Sq.putP at h
    split at h
    · rename_i y c' cs hp
      rw [hp] at ih
      split at h
      · rcases List.mem_cons.1 h with rfl | h
        · simp
        · exact ih c (List.mem_cons_of_mem _ h)
      · rcases List.mem_cons.1 h with rfl | h
        · simp
        · exact ih c h
    · rcases List.mem_cons.1 h with rfl | h
      · simp
      · exact ih c h
theorem right_nums {L : List EntD} (h : rightB L = true) : ∀ e ∈ L, (-1000000 ≤ e.2.2.2.2 ∧ e.2.2.2.2 ≤ 1000000) ∧ (1 ≤ e.2.2.1 ∧ e.2.2.1 ≤ 3 ∧ (e.2.2.1 = 2 → e.2.2.2.1 = ⟨#[]⟩)) ∧ e.1 ≠ ⟨#[]⟩ := by
  intro e he
  obtain ⟨j, hj⟩ := List.getElem?_of_mem he
  have hb := right_ent h hj
  unfold entB at hb
  simp only [Bool.and_eq_true, decide_eq_true_eq] at hb
  obtain ⟨hk, h1, h2, h3, h4, h5, h6⟩ := hb
  refine ⟨⟨h3, h4⟩, ?_, ?_⟩
  · by_cases d1 : e.2.2.1 = 1
    · exact ⟨by omega, by omega, fun h => by omega⟩
    · by_cases d2 : e.2.2.1 = 2
      · rw [d2] at h6
        simp [kindB] at h6
        exact ⟨by omega, by omega, fun _ => h6.1⟩
      · by_cases d3 : e.2.2.1 = 3
        · exact ⟨by omega, by omega, fun h => by omega⟩
        · rw [kindB_0 d1 d2 d3] at h6; cases h6
  · intro e0
    rw [e0] at hk
    simp [keyB, ByteArray.size] at hk
end Go.Proofs.YtlmgojlffgkciaaGreat

namespace Go.Proofs.YtlmgojlffgkciaaGreat
open Go.RowKit
attribute [local go_sem] Oper.semAt_some
def cellN (b : Bool) (t : ByteArray) (n : Int) (d : Int) (t' : ByteArray) (n' : Int) : CellD :=
  if d = 1 then (true, t', n') else if d = 2 then (false, ⟨#[]⟩, 0) else if d = 3 then (true, t, wrap64 (n + n')) else (b, t, n)
end Go.Proofs.YtlmgojlffgkciaaGreat

namespace Go.Proofs.YtlmgojlffgkciaaGreat
open Go.RowKit
/-! The insertion sort that the library runs is this one. -/
/-! What a key has. -/
def doC (c : CellD) (e : EntD) : CellD := cellN c.1 c.2.1 c.2.2 e.2.2.1 e.2.2.2.1 e.2.2.2.2
end Go.Proofs.YtlmgojlffgkciaaGreat
namespace Go.Proofs.YtlmgojlffgkciaaGreat
open Go.RowKit
/-! What the laws of cells say, of lists alone. -/
end Go.Proofs.YtlmgojlffgkciaaGreat
namespace Go.Proofs.YtlmgojlffgkciaaGreat
open Go.RowKit
/-! A cell is its last reset and what was added since. -/
end Go.Proofs.YtlmgojlffgkciaaGreat

namespace Go.Proofs.YtlmgojlffgkciaaGreat
def ev (M : List EntD) (c : CellD) : CellD := M.foldr (fun e c => doC c e) c
def noC : CellD := (false, ⟨#[]⟩, 0)
theorem right_pair {L : List EntD} (h : rightB L = true) : L.Pairwise (fun a b => lessB a.1 a.2.1 b.1 b.2.1 = true) := by
  rw [List.pairwise_iff_getElem]
  intro i j hi hj hij
  exact right_less h hij (List.getElem?_eq_getElem hi) (List.getElem?_eq_getElem hj)
/-! One class. -/
open Go.RowKit in
def AddS (s : Int) (X : CellD) : CellD := (true, X.2.1, wrap64 (X.2.2 + s))
theorem doC_1 (X : CellD) {e : EntD} (h : e.2.2.1 = 1) : doC X e = (true, e.2.2.2.1, e.2.2.2.2) := by simp [doC, cellN, h]
theorem doC_2 (X : CellD) {e : EntD} (h : e.2.2.1 = 2) : doC X e = (false, ⟨#[]⟩, 0) := by simp [doC, cellN, h]
theorem doC_3 (X : CellD) {e : EntD} (h : e.2.2.1 = 3) : doC X e = AddS e.2.2.2.2 X := by simp [doC, cellN, h, AddS]
open Go.RowKit in
theorem wrap_wrap (x a b : Int) : wrap64 (wrap64 (x + a) + b) = wrap64 (x + (b + a)) := by unfold wrap64; omega
theorem add_add (a b : Int) (X : CellD) : AddS a (AddS b X) = AddS (a + b) X := by
  unfold AddS
  simp only [wrap_wrap]
def KdE (e : EntD) : Prop := (e.2.2.1 = 1 ∨ e.2.2.1 = 2 ∨ e.2.2.1 = 3) ∧ (e.2.2.1 = 2 → e.2.2.2.2 = 0)
open Go.RowKit in
theorem join_more : ∀ (L : List EntD) (acc : Int) (X : CellD), (∀ e ∈ L, KdE e) →
    AddS acc (ev L X) = (if (joinG false acc L).1 = 3 then AddS (joinG false acc L).2.2 X else (true, (joinG false acc L).2.1, wrap64 (joinG false acc L).2.2)) ∧ ((joinG false acc L).1 = 1 ∨ ((joinG false acc L).1 = 3 ∧ (joinG false acc L).2.1 = ⟨#[]⟩))
  | [], acc, X, _ => by simp [joinG, ev]
  | e :: R, acc, X, h => by
    obtain ⟨hk, h0⟩ := h e List.mem_cons_self
    have e1 : ev (e :: R) X = doC (ev R X) e := rfl
    rw [e1]
    rcases hk with hk | hk | hk
    · have hj : joinG false acc (e :: R) = (1, e.2.2.2.1, acc + e.2.2.2.2) := by simp [joinG, hk]
      rw [hj, doC_1 _ hk]
      simp only [AddS]
      rw [if_neg (by omega), Int.add_comm]
      exact ⟨rfl, .inl trivial⟩
    · have hj : joinG false acc (e :: R) = (1, ⟨#[]⟩, acc + e.2.2.2.2) := by simp [joinG, hk]
      rw [hj, doC_2 _ hk, h0 hk]
      simp only [AddS]
      rw [if_neg (by omega), Int.add_comm]
      exact ⟨rfl, .inl trivial⟩
    · have hj : joinG false acc (e :: R) = joinG false (acc + e.2.2.2.2) R := by
        conv => lhs; unfold joinG
        rw [if_neg (by omega), if_neg (by omega)]
      rw [hj, doC_3 _ hk, add_add]
      exact join_more R (acc + e.2.2.2.2) X (fun x hx => h x (List.mem_cons_of_mem _ hx))
/-! The classes of a key. -/
/-! All keys. -/
end Go.Proofs.YtlmgojlffgkciaaGreat

namespace Go.Proofs.YtlmgojlffgkciaaGreat
/-! One class and its one entry. -/
theorem join_kind : ∀ (L : List EntD) (acc : Int), (∀ e ∈ L, KdE e) → (joinG false acc L).1 = 1 ∨ ((joinG false acc L).1 = 3 ∧ (joinG false acc L).2.1 = ⟨#[]⟩) := fun L acc h => (join_more L acc noC h).2
theorem join_first (e : EntD) (R : List EntD) (h : ∀ x ∈ e :: R, KdE x) : (joinG true 0 (e :: R)).1 = 1 ∨ ((joinG true 0 (e :: R)).1 = 2 ∧ (joinG true 0 (e :: R)).2.1 = ⟨#[]⟩ ∧ (joinG true 0 (e :: R)).2.2 = 0) ∨ ((joinG true 0 (e :: R)).1 = 3 ∧ (joinG true 0 (e :: R)).2.1 = ⟨#[]⟩) := by
  obtain ⟨hk, h0⟩ := h e List.mem_cons_self
  rcases hk with hk | hk | hk
  · have hj : joinG true 0 (e :: R) = (1, e.2.2.2.1, 0 + e.2.2.2.2) := by simp [joinG, hk]
    rw [hj]; exact .inl rfl
  · have hj : joinG true 0 (e :: R) = (2, ⟨#[]⟩, 0 + e.2.2.2.2) := by simp [joinG, hk]
    rw [hj, h0 hk]; exact .inr (.inl ⟨rfl, rfl, rfl⟩)
  · have hj : joinG true 0 (e :: R) = joinG false (0 + e.2.2.2.2) R := by
      conv => lhs; unfold joinG
      rw [if_neg (by omega), if_neg (by omega)]
    rw [hj]
    rcases join_kind R (0 + e.2.2.2.2) (fun x hx => h x (List.mem_cons_of_mem _ hx)) with h1 | h1
    · exact .inl h1
    · exact .inr (.inr h1)
/-! The classes of a key. -/
/-! All keys. -/
theorem join_text60 : ∀ (L : List EntD) (f : Bool) (acc : Int), (∀ e ∈ L, e.2.2.2.1.size ≤ 60) → (joinG f acc L).2.1.size ≤ 60 := by
  intro L
  induction L with
  | nil => intro f acc _; exact Nat.zero_le _
  | cons e R ih =>
    intro f acc h
    unfold joinG
    split
    · exact h e (List.mem_cons_self ..)
    · split
      · exact Nat.zero_le _
      · exact ih false _ (fun x hx => h x (List.mem_cons_of_mem _ hx))
def entE (e : EntD) : Bool := entB e.1 e.2.1 e.2.2.1 e.2.2.2.1 e.2.2.2.2
theorem entE_kd {e : EntD} (h : entE e = true) : KdE e ∧ e.2.2.2.1.size ≤ 60 := by
  unfold entE entB at h
  simp only [Bool.and_eq_true, decide_eq_true_eq] at h
  obtain ⟨_, _, _, _, _, h5, h6⟩ := h
  refine ⟨⟨?_, ?_⟩, h5⟩
  · by_cases d1 : e.2.2.1 = 1
    · exact .inl d1
    · by_cases d2 : e.2.2.1 = 2
      · exact .inr (.inl d2)
      · by_cases d3 : e.2.2.1 = 3
        · exact .inr (.inr d3)
        · rw [kindB_0 d1 d2 d3] at h6; cases h6
  · intro d2
    rw [d2, kindB_2] at h6
    simp only [Bool.and_eq_true, decide_eq_true_eq] at h6
    exact h6.2
theorem cl_ent (b : Bool) : ∀ c : List EntD, (∀ e ∈ c, entE e = true) → ∀ x ∈ clS b c, entE x = true
  | [], _, x, hx => by cases hx
  | e :: R, h, x, hx => by
    by_cases hs : sumOkB (joinG true 0 (e :: R)).2.2 = true
    · have he := h e List.mem_cons_self
      have ht := join_text60 (e :: R) true 0 (fun y hy => (entE_kd (h y hy)).2)
      have hf := join_first e R (fun y hy => (entE_kd (h y hy)).1)
      have hx' : x ∈ classG b e.1 e.2.1 (e :: R) := hx
      unfold classG at hx'
      rw [if_pos hs] at hx'
      obtain ⟨d, t, s, hj⟩ : ∃ d t s, joinG true 0 (e :: R) = (d, t, s) := ⟨_, _, _, rfl⟩
      rw [hj] at hs hf ht hx'
      simp only at hs hf ht hx'
      by_cases h2 : b = true ∧ d = 2
      · rw [if_pos h2] at hx'; cases hx'
      · rw [if_neg h2] at hx'
        have hxe := List.mem_singleton.1 hx'
        rw [hxe]
        unfold entE entB at he ⊢
        simp only [Bool.and_eq_true, decide_eq_true_eq, sumOkB] at he hs ⊢
        obtain ⟨a1, a2, a3, _⟩ := he
        refine ⟨a1, a2, a3, hs.1, hs.2, ht, ?_⟩
        by_cases h3 : b = true ∧ d = 3
        · rw [if_pos h3]; exact kindB_1
        · rw [if_neg h3]
          rcases hf with rfl | ⟨rfl, rfl, rfl⟩ | ⟨rfl, rfl⟩
          · exact kindB_1
          · rw [kindB_2]; rfl
          · rw [kindB_3]; rfl
    · have hx' : x ∈ classG b e.1 e.2.1 (e :: R) := hx
      unfold classG at hx'
      rw [if_neg hs] at hx'
      exact h x hx'
theorem squash_all (p : EntD → Prop) (S : List Int) (bottom : Bool) {L : List EntD} (hcl : ∀ b c, (∀ e ∈ c, e ∈ L) → c.length ≤ L.length → ∀ x ∈ clS b c, p x) : ∀ x ∈ squashL L S bottom, p x := by
  unfold squashL
  by_cases hr : rightB L = true
  · rw [if_pos hr]
    intro x hx
    obtain ⟨G, hG, hxG⟩ := List.mem_flatMap.1 hx
    have key : ∀ Cs : List (List EntD), (∀ c ∈ Cs, (∀ e ∈ c, e ∈ L) ∧ c.length ≤ L.length) → ∀ e ∈ (Cs.foldr (Sq.stepD clS) (bottom, [])).2, p e := by
      intro Cs
      induction Cs with
      | nil => intro _ e he; cases he
      | cons c Cs ih =>
        intro h e he
        have ih' := ih (fun x hx => h x (List.mem_cons_of_mem _ hx))
        rw [List.foldr_cons] at he
        generalize Cs.foldr (Sq.stepD clS) (bottom, []) = st at ih' he
        have he' : e ∈ clS st.1 c ++ st.2 := he
        rcases List.mem_append.1 he' with h1 | h1
        · exact hcl _ c (h c List.mem_cons_self).1 (h c List.mem_cons_self).2 e h1
        · exact ih' e h1
    exact key _ (fun c hc => ⟨fun e he => (part_len _ _ G hG).2 e ((part_len _ _ c hc).2 e he), Nat.le_trans (part_len _ _ c hc).1 (part_len _ _ G hG).1⟩) x hxG
  · rw [if_neg hr]; intro x hx; cases hx
theorem squash_ents {L : List EntD} (h : ∀ e ∈ L, entE e = true) (S : List Int) (bottom : Bool) : ∀ x ∈ squashL L S bottom, entE x = true :=
  squash_all _ S bottom (fun b c hc _ => cl_ent b c (fun e he => h e (hc e he)))
end Go.Proofs.YtlmgojlffgkciaaGreat
