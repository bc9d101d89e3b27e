/-
  What the program's order of entries leaves behind: blocks of its own alone; and that it is an order.
  Plain: entries put in order one by one, and any other way, are the same where no two are alike; no statement of the program stands here.
  Plain: what all entries of a tree are, sorted; no statement of the program stands here.
  The program's turned at any function that does something to a tree: what it answers at a right tree, by a walk of its Go text.
  A tree that was answered, when its box is written.
  The document's copy of levels, by a walk of its Go text.
-/
import Derived.Sort.Grow
import Derived.Sort.Statements
import Derived.Shelf.SlSortCmp.InsertionK
import Derived.Test.YtlmgojlffgkciaaGreatGa09
import Derived.Test.YtlmgojlffgkciaaGreatGa00
import Derived.Test.YtlmgojlffgkciaaGreatGa18
import Derived.Test.YtlmgojlffgkciaaGreatGa15
import Derived.Test.YtlmgojlffgkciaaGreatGa03
import Derived.Test.YtlmgojlffgkciaaGreatGa08
import Derived.Test.YtlmgojlffgkciaaGreatGa17
import Derived.Test.YtlmgojlffgkciaaGreatGa14
import Derived.Test.YtlmgojlffgkciaaGreatGa05
import Derived.Test.YtlmgojlffgkciaaGreatGa04
import Derived.Test.YtlmgojlffgkciaaGreatGa01
import Derived.Test.YtlmgojlffgkciaaGreatGa02
namespace Go.Proofs.YtlmgojlffgkciaaGreat
open Go.RowKit Go.Sort
theorem ltOf_less (x y : EntD) : ltOf (fun x y : EntD => ordI x.1 x.2.1 y.1 y.2.1) x y = lessB x.1 x.2.1 y.1 y.2.1 := order_less _ _ _ _
theorem less_same {ka kb : ByteArray} {qa qb : Int} (h1 : lessB ka qa kb qb = false) (h2 : lessB kb qb ka qa = false) : ka = kb ∧ qa = qb := by
  have h := lessB_one ka kb qa qb
  rw [h1, h2] at h
  simp at h
  exact h
theorem less_swo : SWO (ltOf (fun x y : EntD => ordI x.1 x.2.1 y.1 y.2.1)) where
  irrefl x := by rw [ltOf_less]; exact lessB_self _ _
  trans x y z h1 h2 := by rw [ltOf_less] at *; exact lessB_trans h1 h2
  ntrans x y z h1 h2 := by
    rw [ltOf_less] at *
    cases h3 : lessB x.1 x.2.1 z.1 z.2.1 with
    | false => rfl
    | true =>
      cases h4 : lessB y.1 y.2.1 x.1 x.2.1 with
      | true => rw [lessB_trans h4 h3] at h2; cases h2
      | false =>
        obtain ⟨e1, e2⟩ := less_same h1 h4
        rw [e1, e2, h2] at h3
        cases h3
end Go.Proofs.YtlmgojlffgkciaaGreat

namespace Go.Proofs.YtlmgojlffgkciaaGreat
open Go.RowKit Go.Sort
def lessE (x y : EntD) : Bool := lessB x.1 x.2.1 y.1 y.2.1
theorem lessE_ntrans {x y z : EntD} (h1 : lessE x y = false) (h2 : lessE y z = false) : lessE x z = false := by
  have := less_swo.ntrans x y z
  rw [ltOf_less, ltOf_less, ltOf_less] at this
  exact this h1 h2
def Weak (L : List EntD) : Prop := L.Pairwise (fun a b => lessE b a = false)
def Strict (L : List EntD) : Prop := L.Pairwise (fun a b => lessE a b = true)
theorem plE_right (L : List EntD) (e : EntD) : ∀ n p x, plE L e n ≤ p → p < n → L[p]? = some x → lessE e x = true
  | 0, p, x, _, h2, _ => absurd h2 (Nat.not_lt_zero _)
  | n + 1, p, x, h1, h2, h3 => by
    unfold plE at h1
    cases hn : L[n]? with
    | none => rw [hn] at h1; simp at h1; omega
    | some y =>
      rw [hn] at h1
      simp only at h1
      by_cases hl : lessB e.1 e.2.1 y.1 y.2.1 = true
      · rw [if_pos hl] at h1
        by_cases hp : p = n
        · subst hp
          rw [hn] at h3
          cases h3
          exact hl
        · exact plE_right L e n p x h1 (by omega) h3
      · rw [if_neg hl] at h1
        omega
theorem plE_left (L : List EntD) (e : EntD) : ∀ n x, 0 < plE L e n → L[plE L e n - 1]? = some x → n ≤ L.length → lessE e x = false
  | 0, x, h1, _, _ => absurd h1 (Nat.lt_irrefl _)
  | n + 1, x, h1, h2, h3 => by
    have hn : L[n]? = some (L[n]'(by omega)) := List.getElem?_eq_getElem (by omega)
    by_cases hl : lessB e.1 e.2.1 (L[n]'(by omega)).1 (L[n]'(by omega)).2.1 = true
    · have e1 : plE L e (n + 1) = plE L e n := by
        conv => lhs; unfold plE
        simp only [hn, hl, if_true]
      rw [e1] at h1 h2
      exact plE_left L e n x h1 h2 (by omega)
    · have e1 : plE L e (n + 1) = n + 1 := by
        conv => lhs; unfold plE
        simp only [hn, hl]
        simp
      rw [e1] at h2
      simp only [Nat.add_sub_cancel] at h2
      rw [hn] at h2
      cases h2
      simpa [lessE] using hl
theorem weak_put {L : List EntD} {e : EntD} (h : Weak L) : Weak (putE L e) := by
  have hle := plE_le L e L.length
  obtain ⟨k, hk⟩ : ∃ k, k = plE L e L.length := ⟨_, rfl⟩
  have hR : ∀ y ∈ L.drop k, lessE e y = true := by
    intro y hy
    obtain ⟨p, hp, rfl⟩ := List.getElem_of_mem hy
    simp at hp
    refine plE_right L e L.length (k + p) _ (by omega) (by omega) ?_
    rw [List.getElem?_eq_getElem (by omega)]
    simp
  have hL : ∀ x ∈ L.take k, lessE e x = false := by
    intro x hx
    obtain ⟨p, hp, rfl⟩ := List.getElem_of_mem hx
    simp at hp
    have hk1 : 0 < k := by omega
    have hkl : k - 1 < L.length := by omega
    have h1 : lessE e (L[k - 1]'hkl) = false := plE_left L e L.length _ (by omega) (by rw [← hk]; exact List.getElem?_eq_getElem hkl) (Nat.le_refl _)
    simp only [List.getElem_take]
    by_cases hpk : p = k - 1
    · subst hpk; exact h1
    · have h2 := (List.pairwise_iff_getElem.1 h) p (k - 1) (by omega) hkl (by omega)
      exact lessE_ntrans h1 h2
  have hsp : Weak (L.take k ++ L.drop k) := by rw [List.take_append_drop]; exact h
  have hsp' := List.pairwise_append.1 hsp
  unfold putE
  rw [← hk]
  refine List.pairwise_append.2 ⟨hsp'.1, ?_, ?_⟩
  · refine List.pairwise_append.2 ⟨List.pairwise_singleton _ _, hsp'.2.1, ?_⟩
    intro a ha b hb
    simp only [List.mem_singleton] at ha
    subst ha
    exact lessB_asymm (hR b hb)
  · intro a ha b hb
    rcases List.mem_append.1 hb with hb | hb
    · simp only [List.mem_singleton] at hb
      subst hb
      exact hL a ha
    · exact hsp'.2.2 a ha b hb
theorem put_perm (L : List EntD) (e : EntD) : (putE L e).Perm (L ++ [e]) := by
  unfold putE
  generalize plE L e L.length = k
  have h1 : (L.take k ++ ([e] ++ L.drop k)).Perm (L.take k ++ (L.drop k ++ [e])) := List.Perm.append_left _ List.perm_append_comm
  have h2 : L.take k ++ (L.drop k ++ [e]) = L ++ [e] := by rw [← List.append_assoc, List.take_append_drop]
  rw [h2] at h1
  exact h1
theorem sort_both (L : List EntD) : Weak (sortE L) ∧ (sortE L).Perm L := by
  have : ∀ (L A : List EntD), Weak A → Weak (L.foldl putE A) ∧ (L.foldl putE A).Perm (A ++ L) := by
    intro L
    induction L with
    | nil => intro A h; exact ⟨h, by simp⟩
    | cons e r ih =>
      intro A h
      obtain ⟨h1, h2⟩ := ih (putE A e) (weak_put h)
      refine ⟨h1, ?_⟩
      rw [List.foldl_cons]
      refine h2.trans ?_
      have := (put_perm A e).append_right r
      simpa using this
  have h := this L [] List.Pairwise.nil
  simpa [sortE] using h
theorem strict_weak {A B : List EntD} (hA : Strict A) (hB : Weak B) (hP : A.Perm B) : A = B := by
  induction A generalizing B with
  | nil => exact (List.Perm.nil_eq hP)
  | cons a A ih =>
    cases B with
    | nil => exact absurd hP.length_eq (by simp)
    | cons b B =>
      have hab : a = b := by
        by_cases e : a = b
        · exact e
        · exfalso
          have hb : b ∈ a :: A := hP.mem_iff.2 (List.mem_cons_self ..)
          have ha : a ∈ b :: B := hP.mem_iff.1 (List.mem_cons_self ..)
          have hb' : b ∈ A := (List.mem_cons.1 hb).resolve_left (fun h => e h.symm)
          have ha' : a ∈ B := (List.mem_cons.1 ha).resolve_left e
          have h1 := (List.pairwise_cons.1 hA).1 b hb'
          have h2 := (List.pairwise_cons.1 hB).1 a ha'
          rw [h1] at h2
          cases h2
      subst hab
      rw [ih (List.pairwise_cons.1 hA).2 (List.pairwise_cons.1 hB).2 (List.Perm.cons_inv hP)]
theorem right_strict {L : List EntD} (h : rightB L = true) : Strict L := by
  refine List.pairwise_iff_getElem.2 ?_
  intro i j hi hj hij
  exact right_less h hij (List.getElem?_eq_getElem hi) (List.getElem?_eq_getElem hj)
theorem sortE_len (L : List EntD) : (sortE L).length = L.length := by
  have : ∀ (L A : List EntD), (L.foldl putE A).length = A.length + L.length := by
    intro L
    induction L with
    | nil => intro A; simp
    | cons e r ih => intro A; rw [List.foldl_cons, ih, putE_len, List.length_cons]; omega
  have h := this L []
  simpa [sortE] using h
end Go.Proofs.YtlmgojlffgkciaaGreat

namespace Go.Proofs.YtlmgojlffgkciaaGreat
open Go.RowKit
theorem three_of {q : Int} {M : List EntD} {V : List (List RunD)} {S : List Int} (h : treeB q M V S = true) : ∃ A B C, V = [A, B, C] := by
  have := (tree_parts h).2.2.2.2.2.1
  match V, this with
  | [A, B, C], _ => exact ⟨A, B, C, rfl⟩
end Go.Proofs.YtlmgojlffgkciaaGreat

namespace Go.Proofs.YtlmgojlffgkciaaGreat
open Go.RowKit
set_option maxRecDepth 100000
set_option maxHeartbeats 4000000
theorem TreeO.lowO {lo lo' hi b1 nm b2 nv b3 ns : Nat} {w : World} {M : List EntD} {V : List (List RunD)} {S : List Int} {gs bs : Nat → Nat} {es : Nat → Nat → Nat} (h : TreeO lo hi w b1 nm b2 nv b3 ns M V S gs bs es) (hl : lo' ≤ lo) : TreeO lo' hi w b1 nm b2 nv b3 ns M V S gs bs es := by
  obtain ⟨xs, h1, h2⟩ := h.levs.row
  exact ⟨h.mem.mono hl, ⟨h.levs.len, ⟨xs, row_lower h1 hl, h2⟩, h.levs.levs, ⟨Nat.le_trans hl h.levs.bot.1, h.levs.bot.2⟩, h.levs.up, h.levs.top⟩, ⟨h.sn.1, row_lower h.sn.2 hl⟩, h.ahead⟩
theorem TreeO.highO {lo hi hi' b1 nm b2 nv b3 ns : Nat} {w : World} {M : List EntD} {V : List (List RunD)} {S : List Int} {gs bs : Nat → Nat} {es : Nat → Nat → Nat} (h : TreeO lo hi w b1 nm b2 nv b3 ns M V S gs bs es) (hl : hi ≤ hi') : TreeO lo hi' w b1 nm b2 nv b3 ns M V S gs bs es :=
  ⟨h.mem, ⟨h.levs.len, h.levs.row, h.levs.levs, h.levs.bot, h.levs.up, Nat.le_trans h.levs.top hl⟩, h.sn, h.ahead⟩
theorem setK (w : World) (g o : Nat) (u : Value) : KeepO g (g + 1) w (w.setCell ⟨g, o, none⟩ u) := ⟨rfl, rfl, rfl, by simp [World.setCell], fun q _ hq => Below.heap_setCell _ _ _ _ (fun e => by have e' : q = g := e; omega)⟩
theorem treeO_four {lo lo' hi hi' b1 nm b2 nv b3 ns X : Nat} {w : World} {M : List EntD} {V : List (List RunD)} {S : List Int} {gs bs : Nat → Nat} {es : Nat → Nat → Nat} (h : TreeO lo hi w b1 nm b2 nv b3 ns M V S gs bs es) (hX : X < lo) (hl : lo' ≤ lo) (hh : hi ≤ hi') (u0 u1 u2 u3 : Value) : TreeO lo' hi' ((((w.setCell ⟨X, 0, none⟩ u0).setCell ⟨X, 1, none⟩ u1).setCell ⟨X, 2, none⟩ u2).setCell ⟨X, 3, none⟩ u3) b1 nm b2 nv b3 ns M V S gs bs es :=
  ((h.keepO ((((setK _ _ _ _).trans (setK _ _ _ _)).trans (setK _ _ _ _)).trans (setK _ _ _ _)) hX).lowO hl).highO hh
structure ShIn (w : World) (am : Option Addr) (nm cm : Nat) (a0 : Option Addr) (n0 c0 : Nat) (a1 : Option Addr) (n1 c1 : Nat) (a2 : Option Addr) (n2 c2 : Nat) (ak : Option Addr) (nk ck : Nat) (M : List EntD) (A B C : List RunD) (S : List Int) : Prop where
  mem : EntsAt w am nm cm M
  r0 : RunsIn 0 w a0 n0 c0 A
  r1 : RunsIn 0 w a1 n1 c1 B
  r2 : RunsIn 0 w a2 n2 c2 C
  sn : IntsIn 0 w ak nk ck S
theorem ShIn.keep {w w' : World} {am a0 a1 a2 ak : Option Addr} {nm cm n0 c0 n1 c1 n2 c2 nk ck : Nat} {M : List EntD} {A B C : List RunD} {S : List Int} (h : ShIn w am nm cm a0 n0 c0 a1 n1 c1 a2 n2 c2 ak nk ck M A B C S) (hb : Below w.heap.size w w') : ShIn w' am nm cm a0 n0 c0 a1 n1 c1 a2 n2 c2 ak nk ck M A B C S := ⟨h.mem.keep hb, h.r0.keep hb, h.r1.keep hb, h.r2.keep hb, h.sn.keep hb⟩
theorem TreeIn.share {lo : Nat} {w : World} {sq : Int} {am av ak : Option Addr} {nm cm nv cv nk ck : Nat} {M : List EntD} {V : List (List RunD)} {S : List Int} (hT : TreeIn lo w am nm cm av nv cv ak nk ck M V S) (htb : treeB sq M V S = true) : ∃ b off A B C a0 n0 c0 a1 n1 c1 a2 n2 c2, av = some ⟨b, off, none⟩ ∧ nv = 3 ∧ V = [A, B, C] ∧ ShIn w am nm cm a0 n0 c0 a1 n1 c1 a2 n2 c2 ak nk ck M A B C S ∧ (∀ w', Below w.heap.size w w' → Calls Tryz.prog 53 #[.agg #[.int .i64 sq, .slice am nm cm, .slice (some ⟨b, off, none⟩) 3 cv, .slice ak nk ck]] w' fun e w'' => e = .returned (.tuple #[.agg #[.int .i64 sq, .slice am nm cm, .slice a0 n0 c0, .slice a1 n1 c1, .slice a2 n2 c2, .slice ak nk ck], .bool true]) ∧ Below w'.heap.size w' w'') := by
  obtain ⟨A, B, C, hV3⟩ := three_of htb
  subst hV3
  have hnv : nv = 3 := hT.levels.length.symm
  subst hnv
  obtain ⟨b, off, rfl, hbb⟩ := hT.levels.form (by omega)
  obtain ⟨A', a0, n0, c0, hA, l0, hR0⟩ := hT.levels.level (Below.refl _ w) 0 (by omega)
  obtain ⟨B', a1, n1, c1, hB, l1, hR1⟩ := hT.levels.level (Below.refl _ w) 1 (by omega)
  obtain ⟨C', a2, n2, c2, hC, l2, hR2⟩ := hT.levels.level (Below.refl _ w) 2 (by omega)
  simp only [List.getElem?_cons_zero, List.getElem?_cons_succ, Option.some.injEq] at hA hB hC
  subst hA hB hC
  rw [Nat.add_zero] at l0
  refine ⟨b, off, A, B, C, a0, n0, c0, a1, n1, c1, a2, n2, c2, rfl, rfl, rfl, ⟨hT.mem.1, hR0.mono (Nat.zero_le _), hR1.mono (Nat.zero_le _), hR2.mono (Nat.zero_le _), hT.snaps.lower (Nat.zero_le _)⟩, fun w' k => ?_⟩
  have := implShare lo sq am ak nm cm b off cv nk ck M A B C S a0 a1 a2 n0 c0 n1 c1 n2 c2 w' (hT.mem.1.keep k) (hT.snaps.keep k) (hR0.keep k) (hR1.keep k) (hR2.keep k) (cell_later k l0) (cell_later k l1) (cell_later k l2)
  rw [htb] at this
  exact this
structure OutOk (M : List EntD) (A B C : List RunD) (S : List Int) : Prop where
  bm : M.length ≤ 1048576
  bk : S.length ≤ 1048576
  em : SmallE M
  b0 : SmallR A
  b1 : SmallR B
  b2 : SmallR C
  e0 : SmallRE A
  e1 : SmallRE B
  e2 : SmallRE C
theorem outOk_sum {M : List EntD} {A B C : List RunD} {S : List Int} (h : SumOk M [A, B, C] S) : OutOk M A B C S := by
  have hs := small_of_sum h.1
  exact ⟨hs.1, hs.2.2, h.2.1, hs.2.1.2 A (by simp), hs.2.1.2 B (by simp), hs.2.1.2 C (by simp), h.2.2 A (by simp), h.2.2 B (by simp), h.2.2 C (by simp)⟩
theorem asTree_g (q : Int) (am ak : Option Addr) (nm cm nk ck : Nat) (a0 a1 a2 : Option Addr) (n0 c0 n1 c1 n2 c2 : Nat) (M : List EntD) (A B C : List RunD) (S : List Int) (w : World) (h : ShIn w am nm cm a0 n0 c0 a1 n1 c1 a2 n2 c2 ak nk ck M A B C S) (ho : OutOk M A B C S) :
    Calls Tryz.prog 79 #[.agg #[.int .i64 q, .slice am nm cm, .slice a0 n0 c0, .slice a1 n1 c1, .slice a2 n2 c2, .slice ak nk ck]] w (AsRO q nm nk M [A, B, C] S w) :=
  asTree_o 0 q am ak nm cm nk ck a0 a1 a2 n0 c0 n1 c1 n2 c2 M A B C S w h.mem h.sn h.r0 h.r1 h.r2 (by have := h.mem.length; have := ho.bm; omega) (by have := h.sn.length; have := ho.bk; omega) ho.em ho.b0 ho.b1 ho.b2 ho.e0 ho.e1 ho.e2
def HowY (q2 : Int) (M2 : List EntD) (A2 B2 C2 : List RunD) (S2 : List Int) (w : World) (e : Ending) (w' : World) : Prop :=
  ∃ am2 nm2 cm2 a02 n02 c02 a12 n12 c12 a22 n22 c22 ak2 nk2 ck2, e = .returned (.tuple #[.agg #[.int .i64 q2, .slice am2 nm2 cm2, .slice a02 n02 c02, .slice a12 n12 c12, .slice a22 n22 c22, .slice ak2 nk2 ck2], .bool true]) ∧ ShIn w' am2 nm2 cm2 a02 n02 c02 a12 n12 c12 a22 n22 c22 ak2 nk2 ck2 M2 A2 B2 C2 S2 ∧ Below w.heap.size w w'
def HowN (w : World) (e : Ending) (w' : World) : Prop :=
  ∃ q2 am2 nm2 cm2 a02 n02 c02 a12 n12 c12 a22 n22 c22 ak2 nk2 ck2, e = .returned (.tuple #[.agg #[.int .i64 q2, .slice am2 nm2 cm2, .slice a02 n02 c02, .slice a12 n12 c12, .slice a22 n22 c22, .slice ak2 nk2 ck2], .bool false]) ∧ Below w.heap.size w w'
def NoneR (w : World) (e : Ending) (w' : World) : Prop := e = .returned (.tuple #[.agg #[.int .i64 0, .slice none 0 0, .slice none 0 0, .slice none 0 0], .bool false]) ∧ Below w.heap.size w w'
theorem impR_none {w w' : World} {e : Ending} (h : NoneR w e w') : ImpR 0 [] [] [] false w e w' := ⟨none, 0, none, 0, none, 0, fun _ => 0, fun _ => 0, fun _ _ => 0, h.1, .inr ⟨rfl, rfl, rfl, rfl, rfl, rfl, rfl, rfl, rfl⟩, h.2⟩
theorem docR_none {w w' : World} {e : Ending} (h : NoneR w e w') : DocR 0 [] [] [] false w e w' := ⟨none, 0, 0, none, 0, 0, none, 0, 0, h.1, treeIn_nil 0 w', h.2⟩
theorem turnedNo (lo : Nat) (sq : Int) (fv : Value) (am av ak : Option Addr) (nm cm nv cv nk ck : Nat) (M : List EntD) (V : List (List RunD)) (S : List Int) (w : World) (hT : TreeIn lo w am nm cm av nv cv ak nk ck M V S) (htb : treeB sq M V S = false) :
    Calls Tryz.prog 42 #[.agg #[.int .i64 sq, .slice am nm cm, .slice av nv cv, .slice ak nk ck], fv] w (NoneR w) := by
  have HVN : Hid (V.length = nv) := hT.levels.length
  have CS : Hid (∀ w', Below w.heap.size w w' → Calls Tryz.prog 53 #[.agg #[.int .i64 sq, .slice am nm cm, .slice av nv cv, .slice ak nk ck]] w' fun e w'' => (∃ (q' : Int) (m' x0 x1 x2 k' : Value), e = .returned (.tuple #[.agg #[.int .i64 q', m', x0, x1, x2, k'], .bool false]) ∧ (∃ a n c, m' = .slice a n c) ∧ (∃ a n c, x0 = .slice a n c) ∧ (∃ a n c, x1 = .slice a n c) ∧ (∃ a n c, x2 = .slice a n c) ∧ (∃ a n c, k' = .slice a n c)) ∧ Below w'.heap.size w' w'') := fun w' k => by
    by_cases hn : nv = 3
    · subst hn
      obtain ⟨A, B, C, hV3⟩ : ∃ A B C, V = [A, B, C] := by
        have := HVN.out
        match V, this with
        | [A, B, C], _ => exact ⟨A, B, C, rfl⟩
      subst hV3
      obtain ⟨b, off, rfl, hbb⟩ := hT.levels.form (by omega)
      obtain ⟨A', a0, n0, c0, hA, l0, hR0⟩ := hT.levels.level (Below.refl _ w) 0 (by omega)
      obtain ⟨B', a1, n1, c1, hB, l1, hR1⟩ := hT.levels.level (Below.refl _ w) 1 (by omega)
      obtain ⟨C', a2, n2, c2, hC, l2, hR2⟩ := hT.levels.level (Below.refl _ w) 2 (by omega)
      simp only [List.getElem?_cons_zero, List.getElem?_cons_succ, Option.some.injEq] at hA hB hC
      subst hA hB hC
      rw [Nat.add_zero] at l0
      have := implShare lo sq am ak nm cm b off cv nk ck M A B C S a0 a1 a2 n0 c0 n1 c1 n2 c2 w' (hT.mem.1.keep k) (hT.snaps.keep k) (hR0.keep k) (hR1.keep k) (hR2.keep k) (cell_later k l0) (cell_later k l1) (cell_later k l2)
      rw [htb] at this
      refine this.mono ?_
      rintro e w'' ⟨rfl, hb⟩
      exact ⟨⟨_, _, _, _, _, _, rfl, ⟨_, _, _, rfl⟩, ⟨_, _, _, rfl⟩, ⟨_, _, _, rfl⟩, ⟨_, _, _, rfl⟩, ⟨_, _, _, rfl⟩⟩, hb⟩
    · refine (implShareNo sq am av ak nm cm nv cv nk ck w' hn).mono ?_
      rintro e w'' ⟨rfl, hb⟩
      exact ⟨⟨_, _, _, _, _, _, rfl, ⟨_, _, _, rfl⟩, ⟨_, _, _, rfl⟩, ⟨_, _, _, rfl⟩, ⟨_, _, _, rfl⟩, ⟨_, _, _, rfl⟩⟩, hb⟩
  obtain ⟨X, hX⟩ : ∃ X, X = w.heap.size := ⟨_, rfl⟩
  obtain ⟨W, hW⟩ : ∃ W, W = (w.alloc (.cells #[.int .i64 sq, .slice am nm cm, .slice av nv cv, .slice ak nk ck] 31)).alloc (.cells #[.int .i64 0, .slice none 0 0, .slice none 0 0, .slice none 0 0] 31) := ⟨_, rfl⟩
  have kW : Below w.heap.size w W := by rw [hW]; exact ((Below.refl _ _).alloc (Nat.le_refl _) _).alloc (by simp) _
  have br : Box4 W (X + 1) (.int .i64 0) (.slice none 0 0) (.slice none 0 0) (.slice none 0 0) := by
    have := Box4.new (w.alloc (.cells #[.int .i64 sq, .slice am nm cm, .slice av nv cv, .slice ak nk ck] 31)) 31 (.int .i64 0) (.slice none 0 0) (.slice none 0 0) (.slice none 0 0)
    rw [World.size_alloc] at this
    rw [hW, hX]
    exact this
  have HX : Hid (X = w.heap.size) := hX
  have K0 : Hid (Below w.heap.size w W) := kW
  clear hT kW htb HVN
  go_enter Tryz.func42, Tryz.ntmps42
  go_wp2_with fail
  rw [← hX, ← hW]
  clear hX hW
  refine (CS.out _ K0.out).mono ?_
  rintro e w1 ⟨⟨q', _, _, _, _, _, rfl, ⟨m1, m2, m3, rfl⟩, ⟨y1, y2, y3, rfl⟩, ⟨z1, z2, z3, rfl⟩, ⟨u1, u2, u3, rfl⟩, ⟨v1, v2, v3, rfl⟩⟩, hb1⟩
  obtain ⟨w2, hw2⟩ : ∃ w2, w2 = w1.alloc (.cells #[.int .i64 q', .slice m1 m2 m3, .slice y1 y2 y3, .slice z1 z2 z3, .slice u1 u2 u3, .slice v1 v2 v3] 67) := ⟨_, rfl⟩
  have k2 : Below w1.heap.size w1 w2 := by rw [hw2]; exact (Below.refl _ _).alloc (Nat.le_refl _) _
  have K1 : Hid (Below w.heap.size w w2) := (K0.out.trans (hb1.mono K0.out.size)).trans (k2.mono (Nat.le_trans K0.out.size hb1.size))
  have br1 := (br.keep hb1).keep k2
  have r0 := br1.c0
  have r1 := br1.c1
  have r2 := br1.c2
  have r3 := br1.c3
  have rf := br1.fz
  have rz := br1.lt
  clear hb1 br k2
  go_upto_region 2 with fail
  rw [← hw2]
  clear hw2
  go_wp2
  refine bodyPost_ret (v := .tuple #[.agg #[.int .i64 0, .slice none 0 0, .slice none 0 0, .slice none 0 0], .bool false]) ?_ rfl ⟨rfl, ?_⟩
  · have e := (((br1.set0 (.int .i64 0)).set1 (.slice none 0 0)).set2 (.slice none 0 0)).set3 (.slice none 0 0)
    simp [results, Tryz.results42, go_sem, e.c0, e.c1, e.c2, e.c3]
  · have hx : w.heap.size ≤ X + 1 := by have := HX.out; omega
    exact (((K1.out.setCell (p := ⟨X + 1, 0, none⟩) hx _).setCell (p := ⟨X + 1, 1, none⟩) hx _).setCell (p := ⟨X + 1, 2, none⟩) hx _).setCell (p := ⟨X + 1, 3, none⟩) hx _
end Go.Proofs.YtlmgojlffgkciaaGreat

namespace Go.Proofs.YtlmgojlffgkciaaGreat
open Go.RowKit
theorem resT_four {lo lo' hi hi' nm nv ns X : Nat} {am av ak : Option Addr} {w : World} {M : List EntD} {V : List (List RunD)} {S : List Int} {gs bs : Nat → Nat} {es : Nat → Nat → Nat} (h : ResT lo hi w am nm av nv ak ns M V S gs bs es) (hX : X < lo) (hl : lo' ≤ lo) (hh : hi ≤ hi') (u0 u1 u2 u3 : Value) : ResT lo' hi' ((((w.setCell ⟨X, 0, none⟩ u0).setCell ⟨X, 1, none⟩ u1).setCell ⟨X, 2, none⟩ u2).setCell ⟨X, 3, none⟩ u3) am nm av nv ak ns M V S gs bs es := by
  rcases h with ⟨b1, b2, b3, h1, h2, h3, h4⟩ | h
  · exact .inl ⟨b1, b2, b3, h1, h2, h3, treeO_four h4 hX hl hh _ _ _ _⟩
  · exact .inr h
end Go.Proofs.YtlmgojlffgkciaaGreat

namespace Go.Proofs.YtlmgojlffgkciaaGreat
open Go.RowKit
set_option maxRecDepth 100000
set_option maxHeartbeats 4000000
theorem cell_two_new' (w : World) (x y : Value) (t : TypeId) : ∀ j u, [x, y][j]? = some u → (w.alloc (.cells #[x, y] t)).cell? ((⟨w.heap.size, 0, none⟩ : Addr).add j) = some u := by
  intro j u hj
  rw [Go.WideShapes.add_plain, Nat.zero_add]
  match j, hj with
  | 0, hj => simp at hj; subst hj; simp
  | 1, hj => simp at hj; subst hj; simp
theorem cell_one_new' (w : World) (x : Value) (t : TypeId) : ∀ j u, [x][j]? = some u → (w.alloc (.cells #[x] t)).cell? ((⟨w.heap.size, 0, none⟩ : Addr).add j) = some u := by
  intro j u hj
  rw [Go.WideShapes.add_plain, Nat.zero_add]
  match j, hj with
  | 0, hj => simp at hj; subst hj; simp
theorem rowg_mono {w : World} {base base' T size n : Nat} {v : Value} {xs : List Value} (h : w.ownsRow base T size v n xs) (hb : base' ≤ base) : w.ownsRow base' T size v n xs := by
  refine ⟨h.1, ?_⟩
  rcases h.2 with h2 | ⟨g, cap, cur, hv, hg, r⟩
  · exact Or.inl h2
  · exact Or.inr ⟨g, cap, cur, hv, Nat.le_trans hb hg, r⟩
theorem kind_row {w : World} {base e size n m g cap : Nat} {xs : List Value} (h : w.ownsRow base e size (.slice (some ⟨g, 0, none⟩) m cap) n xs) : ∃ sz, BlockOf w g e sz := by
  rcases h.2 with ⟨h', _⟩ | ⟨g', cap', cur, h', _, hg, _, _, hs, _⟩
  · simp at h'
  · simp only [Value.slice.injEq, Option.some.injEq, Addr.mk.injEq, and_true] at h'
    obtain ⟨rfl, _⟩ := h'
    exact ⟨_, cur, hg, rfl⟩
def RunsG (base : Nat) (w : World) (g n c : Nat) (B : List RunD) : Prop :=
  B.length = n ∧ (∀ p ∈ B, (Lit.int .i64 p.2).wf = true) ∧ ∃ xs, w.ownsRow base 102 2 (.slice (some ⟨g, 0, none⟩) n c) n xs ∧ ∀ (i : Nat) (p : RunD), B[i]? = some p → ∃ e d, xs[i * 2]? = some (.slice (some ⟨e, 0, none⟩) p.1.length d) ∧ xs[i * 2 + 1]? = some (.int .i64 p.2) ∧ OwnE w base e p.1.length d p.1
theorem RunsG.below {base g n c : Nat} {w w' : World} {B : List RunD} (h : RunsG base w g n c B) (hb : Below w.heap.size w w') : RunsG base w' g n c B := by
  obtain ⟨h1, h2, xs, h3, h4⟩ := h
  exact ⟨h1, h2, xs, h3.kept (row := none) ⟨hb.os, hb.tape, hb.output, hb.size, fun k hk _ => hb.block k hk⟩ (.inr (by simp [Value.ownBlock])), fun i p hp => by obtain ⟨e, d, a1, a2, a3⟩ := h4 i p hp; exact ⟨e, d, a1, a2, a3.below hb⟩⟩
theorem RunsG.mono {base base' g n c : Nat} {w : World} {B : List RunD} (h : RunsG base w g n c B) (hb : base' ≤ base) : RunsG base' w g n c B := by
  obtain ⟨h1, h2, xs, h3, h4⟩ := h
  exact ⟨h1, h2, xs, rowg_mono h3 hb, fun i p hp => by obtain ⟨e, d, a1, a2, a3⟩ := h4 i p hp; exact ⟨e, d, a1, a2, a3.mono hb⟩⟩
theorem RunsG.lt {base g n c : Nat} {w : World} {B : List RunD} (h : RunsG base w g n c B) : base ≤ g ∧ g < w.heap.size := by
  obtain ⟨_, _, xs, h3, _⟩ := h
  exact h3.lt g rfl
theorem RunsG.grown {base g n c G T sz : Nat} {w w' : World} {B : List RunD} (h : RunsG base w g n c B) (hG : BlockOf w G T sz) (t1 : T ≠ 102) (t2 : T ≠ 78) (hg : w.grownBy w' (some G)) : RunsG base w' g n c B := by
  obtain ⟨h1, h2, xs, h3, h4⟩ := h
  obtain ⟨s3, k3⟩ := kind_row h3
  refine ⟨h1, h2, xs, h3.kept hg (.inr ?_), fun i p hp => ?_⟩
  · intro e
    have e' : g = G := by simpa [Value.ownBlock] using e
    subst e'
    exact t1 (hG.kind k3)
  · obtain ⟨e, d, a1, a2, a3⟩ := h4 i p hp
    obtain ⟨s4, k4⟩ := kind_row a3.owns
    refine ⟨e, d, a1, a2, a3.grown hg (fun e' => ?_)⟩
    have e'' : e = G := Option.some.inj e'
    subst e''
    exact t2 (hG.kind k4)
theorem runsG_push {base g n c g' c' e d : Nat} {w w' : World} {xs : List Value} {B : List RunD} {L : List EntD} {m : Int} (h1 : B.length = n) (h2 : ∀ p ∈ B, (Lit.int .i64 p.2).wf = true) (h3 : w.ownsRow base 102 2 (.slice (some ⟨g, 0, none⟩) n c) n xs)
    (h4 : ∀ (i : Nat) (p : RunD), B[i]? = some p → ∃ e d, xs[i * 2]? = some (.slice (some ⟨e, 0, none⟩) p.1.length d) ∧ xs[i * 2 + 1]? = some (.int .i64 p.2) ∧ OwnE w base e p.1.length d p.1)
    (hL : OwnE w base e L.length d L) (hm : (Lit.int .i64 m).wf = true) (hg : w.grownBy w' (some g)) (ho : w'.ownsRow base 102 2 (.slice (some ⟨g', 0, none⟩) (n + 1) c') (n + 1) (xs ++ [.slice (some ⟨e, 0, none⟩) L.length d, .int .i64 m])) : RunsG base w' g' (n + 1) c' (B ++ [(L, m)]) := by
  obtain ⟨s3, k3⟩ := kind_row h3
  have hne : ∀ {e d : Nat} {L : List EntD}, OwnE w base e L.length d L → OwnE w' base e L.length d L := fun {e d L} hO => by
    obtain ⟨s4, k4⟩ := kind_row hO.owns
    refine hO.grown hg (fun e' => ?_)
    have e'' : e = g := Option.some.inj e'
    subst e''
    exact absurd (k3.kind k4) (by decide)
  have hxl := h3.1
  refine ⟨by rw [List.length_append, h1]; rfl, fun p hp => ?_, _, ho, fun i p hp => ?_⟩
  · rcases List.mem_append.1 hp with h | h
    · exact h2 p h
    · rw [List.mem_singleton] at h; subst h; exact hm
  · by_cases hi : i < B.length
    · rw [List.getElem?_append_left hi] at hp
      obtain ⟨e0, d0, a1, a2, a3⟩ := h4 i p hp
      exact ⟨e0, d0, by rw [List.getElem?_append_left (by omega)]; exact a1, by rw [List.getElem?_append_left (by omega)]; exact a2, hne a3⟩
    · have hi' := (List.getElem?_eq_some_iff.1 hp).1
      rw [List.length_append] at hi'
      have hi2 : i = B.length := by have : [(L, m)].length = 1 := rfl; omega
      subst hi2
      rw [List.getElem?_append_right (Nat.le_refl _), Nat.sub_self] at hp
      cases hp
      refine ⟨e, d, ?_, ?_, hne hL⟩
      · rw [List.getElem?_append_right (by omega), show B.length * 2 - xs.length = 0 by omega]; rfl
      · rw [List.getElem?_append_right (by omega), show B.length * 2 + 1 - xs.length = 1 by omega]; rfl
theorem RunsG.runsIn {base g n c : Nat} {w : World} {B : List RunD} (h : RunsG base w g n c B) : RunsIn base w (some ⟨g, 0, none⟩) n c B := by
  obtain ⟨h1, h2, xs, h3, h4⟩ := h
  have hrc := row_rooms h3
  refine ⟨h1, hrc.1, hrc.2, (fun e => by cases e), ?_, ?_⟩
  · rintro x e _
    cases e
    exact ⟨(h3.lt g rfl).2, rfl, (h3.lt g rfl).1⟩
  · rintro x e i hi
    cases e
    obtain ⟨e0, d0, a1, a2, a3⟩ := h4 i _ (List.getElem?_eq_getElem hi)
    refine ⟨h2 _ (List.getElem_mem hi), _, _, _, ?_, ?_, a3.entsAt, fun x e _ => by cases e; exact a3.lt.1⟩
    · simp only [Nat.zero_add]
      exact (h3.cellAt _ (by omega)).trans a1
    · simp only [Nat.zero_add]
      exact (h3.cellAt _ (by omega)).trans a2
def DistX (xs : List Value) : Prop := ∀ (i j gi ni di gj nj dj : Nat), i < j → xs[i]? = some (.slice (some ⟨gi, 0, none⟩) ni di) → xs[j]? = some (.slice (some ⟨gj, 0, none⟩) nj dj) → gi ≠ gj
theorem distX_push {xs : List Value} {g n d : Nat} (h : DistX xs) (hl : ∀ (i gi ni di : Nat), xs[i]? = some (.slice (some ⟨gi, 0, none⟩) ni di) → gi ≠ g) : DistX (xs ++ [.slice (some ⟨g, 0, none⟩) n d]) := by
  intro i j gi ni di gj nj dj hij hi hj
  have hj' := (List.getElem?_eq_some_iff.1 hj).1
  rw [List.length_append] at hj'
  have h1 : ([Value.slice (some ⟨g, 0, none⟩) n d] : List Value).length = 1 := rfl
  rw [List.getElem?_append_left (by omega)] at hi
  by_cases hx : j < xs.length
  · rw [List.getElem?_append_left hx] at hj
    exact h i j gi ni di gj nj dj hij hi hj
  · have hje : j = xs.length := by omega
    subst hje
    rw [List.getElem?_append_right (Nat.le_refl _), Nat.sub_self] at hj
    cases hj
    exact hl i gi ni di hi
def LevsG (base : Nat) (w : World) (G n c : Nat) (V : List (List RunD)) : Prop :=
  V.length = n ∧ ∃ xs, w.ownsRow base 64 1 (.slice (some ⟨G, 0, none⟩) n c) n xs ∧ (∀ (i : Nat) (B : List RunD), V[i]? = some B → ∃ g d, xs[i]? = some (.slice (some ⟨g, 0, none⟩) B.length d) ∧ RunsG base w g B.length d B) ∧ DistX xs
theorem LevsG.below {base g n c : Nat} {w w' : World} {V : List (List RunD)} (h : LevsG base w g n c V) (hb : Below w.heap.size w w') : LevsG base w' g n c V := by
  obtain ⟨h1, xs, h3, h4, h5⟩ := h
  exact ⟨h1, xs, h3.kept (row := none) ⟨hb.os, hb.tape, hb.output, hb.size, fun k hk _ => hb.block k hk⟩ (.inr (by simp [Value.ownBlock])), (fun i p hp => by obtain ⟨e, d, a1, a3⟩ := h4 i p hp; exact ⟨e, d, a1, a3.below hb⟩), h5⟩
theorem levsG_push {base g n c g' c' e d : Nat} {w w' : World} {xs : List Value} {V : List (List RunD)} {B : List RunD} (h1 : V.length = n) (h3 : w.ownsRow base 64 1 (.slice (some ⟨g, 0, none⟩) n c) n xs)
    (h4 : ∀ (i : Nat) (B : List RunD), V[i]? = some B → ∃ g d, xs[i]? = some (.slice (some ⟨g, 0, none⟩) B.length d) ∧ RunsG base w g B.length d B)
    (hL : RunsG base w e B.length d B) (hg : w.grownBy w' (some g)) (ho : w'.ownsRow base 64 1 (.slice (some ⟨g', 0, none⟩) (n + 1) c') (n + 1) (xs ++ [.slice (some ⟨e, 0, none⟩) B.length d])) (hd : DistX xs) (hl : ∀ (i gi ni di : Nat), xs[i]? = some (.slice (some ⟨gi, 0, none⟩) ni di) → gi ≠ e) : LevsG base w' g' (n + 1) c' (V ++ [B]) := by
  obtain ⟨s3, k3⟩ := kind_row h3
  have hxl := h3.1
  refine ⟨by rw [List.length_append, h1]; rfl, _, ho, fun i p hp => ?_, distX_push hd hl⟩
  by_cases hi : i < V.length
  · rw [List.getElem?_append_left hi] at hp
    obtain ⟨e0, d0, a1, a3⟩ := h4 i p hp
    exact ⟨e0, d0, by rw [List.getElem?_append_left (by omega)]; exact a1, a3.grown k3 (by decide) (by decide) hg⟩
  · have hi' := (List.getElem?_eq_some_iff.1 hp).1
    rw [List.length_append] at hi'
    have hi2 : i = V.length := by have : [B].length = 1 := rfl; omega
    subst hi2
    rw [List.getElem?_append_right (Nat.le_refl _), Nat.sub_self] at hp
    cases hp
    exact ⟨e, d, by rw [List.getElem?_append_right (by omega), show V.length - xs.length = 0 by omega]; rfl, hL.grown k3 (by decide) (by decide) hg⟩
theorem LevsG.grown {base g n c G T sz : Nat} {w w' : World} {V : List (List RunD)} (h : LevsG base w g n c V) (hG : BlockOf w G T sz) (t0 : T ≠ 64) (t1 : T ≠ 102) (t2 : T ≠ 78) (hg : w.grownBy w' (some G)) : LevsG base w' g n c V := by
  obtain ⟨h1, xs, h3, h4, h5⟩ := h
  obtain ⟨s3, k3⟩ := kind_row h3
  refine ⟨h1, xs, h3.kept hg (.inr ?_), (fun i p hp => by obtain ⟨e, d, a1, a3⟩ := h4 i p hp; exact ⟨e, d, a1, a3.grown hG t1 t2 hg⟩), h5⟩
  intro e
  have e' : g = G := by simpa [Value.ownBlock] using e
  subst e'
  exact t0 (hG.kind k3)
theorem LevsG.mono {base base' g n c : Nat} {w : World} {V : List (List RunD)} (h : LevsG base w g n c V) (hb : base' ≤ base) : LevsG base' w g n c V := by
  obtain ⟨h1, xs, h3, h4, h5⟩ := h
  exact ⟨h1, xs, rowg_mono h3 hb, (fun i p hp => by obtain ⟨e, d, a1, a3⟩ := h4 i p hp; exact ⟨e, d, a1, a3.mono hb⟩), h5⟩
theorem LevsG.levelsIn {base g n c : Nat} {w : World} {V : List (List RunD)} (h : LevsG base w g n c V) : LevelsIn base w (some ⟨g, 0, none⟩) n c V := by
  obtain ⟨h1, xs, h3, h4, _⟩ := h
  have hrc := row_rooms h3
  refine ⟨h1, hrc.1, hrc.2, (fun e => by cases e), ?_, ?_⟩
  · rintro x e _
    cases e
    exact ⟨(h3.lt g rfl).2, rfl, (h3.lt g rfl).1⟩
  · rintro x e i hi
    cases e
    obtain ⟨e0, d0, a1, a3⟩ := h4 i _ (List.getElem?_eq_getElem hi)
    refine ⟨_, _, _, ?_, a3.runsIn⟩
    simp only [Nat.zero_add]
    exact (h3.cellAt _ (by omega)).trans a1
theorem specCopyLevels (lo : Nat) (a : Option Addr) (nv cv : Nat) (V : List (List RunD)) (w : World) (hV : LevelsIn lo w a nv cv V) (hnv : nv ≤ 100) (hS : ∀ B ∈ V, B.length ≤ 100 ∧ ∀ r ∈ B, 1 ≤ r.1.length ∧ r.1.length ≤ 10000) :
    Calls Tryz.prog 77 #[.slice a nv cv] w fun e w' => ∃ G c, e = .returned (.slice (some ⟨G, 0, none⟩) nv c) ∧ LevsG w.heap.size w' G nv c V ∧ Below w.heap.size w w' := by
  have HVL : Hid (V.length = nv) := hV.length
  have HV : Hid (LevelsIn lo w a nv cv V) := hV
  have HS : Hid (∀ B ∈ V, B.length ≤ 100 ∧ ∀ r ∈ B, 1 ≤ r.1.length ∧ r.1.length ≤ 10000) := hS
  clear hV hS
  obtain ⟨i0, hi, hz0, hz1, hz2⟩ := info_parts Tryz.infoEnt
  obtain ⟨j0, hj, hy0, hy1, hy2⟩ := info_parts Tryz.infoRun
  obtain ⟨l0, hl, hx0, hx1, hx2⟩ := info_parts Tryz.infoRunL
  have HE0 : Hid (LevsG w.heap.size (w.alloc (.cells #[] 64)) w.heap.size 0 0 (V.take 0)) := by
    have := World.ownsRow_lit (base := w.heap.size) (e := 64) (size := 1) w #[] 0 (Nat.le_refl _) (by simp) (by simp)
    exact ⟨by simp, _, this, (fun i B hB => by simp at hB), fun i j gi ni di gj nj dj _ hi _ => by simp at hi⟩
  have hB0 : Below w.heap.size w (w.alloc (.cells #[] 64)) := (Below.refl _ _).alloc (Nat.le_refl _) _
  go_enter Tryz.func77, Tryz.ntmps77
  go_wp2
  go_loopw [3, 4] (fun o iv wr => ∃ (i G c : Nat), i ≤ nv ∧ iv = .int .i64 i ∧ o = .slice (some ⟨G, 0, none⟩) i c ∧ LevsG w.heap.size wr G i c (V.take i) ∧ Below w.heap.size w wr) (fun _ iv _ => nv - (intOf iv).toNat)
  case atStart => exact ⟨0, _, 0, Nat.zero_le _, rfl, rfl, HE0.out, hB0⟩
  case round =>
    clear HE0 hB0
    obtain ⟨i, G, c0, hin, rfl, rfl, hLG, hbw⟩ := hrel
    have HLG : Hid (LevsG w.heap.size wr G i c0 (V.take i)) := hLG
    have HBW : Hid (Below w.heap.size w wr) := hbw
    clear hLG
    by_cases hlt : i < nv
    · have hltI : (i : Int) < (nv : Int) := by omega
      obtain ⟨b, off, rfl, hbb⟩ := HV.out.form (by omega)
      obtain ⟨B, aB, nB, cB, hB, gB, hRB⟩ := HV.out.level (Below.refl _ w) i hlt
      have HGI : Hid (V[i]? = some B) := hB
      have HSB : Hid (B.length ≤ 100 ∧ ∀ r ∈ B, 1 ≤ r.1.length ∧ r.1.length ≤ 10000) := HS.out B (List.mem_of_getElem? hB)
      have HNB : Hid (B.length = nB) := hRB.length
      have HRB : Hid (RunsIn lo w aB nB cB B) := hRB
      have HCB : Hid (w.cell? ⟨b, off + i, none⟩ = some (.slice aB nB cB)) := gB
      have hnB : nB ≤ 100 := by have := HSB.out.1; have := HNB.out; omega
      clear hB gB hRB hbw
      go_upto_region 6 with fail
      obtain ⟨Wi, hWi⟩ : ∃ Wi, Wi = wr.heap.size := ⟨_, rfl⟩
      obtain ⟨wq, hwq⟩ : ∃ wq, wq = wr.alloc (.cells #[] 102) := ⟨_, rfl⟩
      have kq : Below wr.heap.size wr wq := by rw [hwq]; exact (Below.refl _ _).alloc (Nat.le_refl _) _
      have HG0 : Hid (RunsG Wi wq Wi 0 0 (B.take 0)) := by
        have := World.ownsRow_lit (base := wr.heap.size) (e := 102) (size := 2) wr #[] 0 (Nat.le_refl _) (by simp) (by simp)
        rw [hwq, hWi]
        exact ⟨by simp, fun p hp => by simp at hp, _, this, fun i B hB => by simp at hB⟩
      have HKQ : Hid (Below Wi wr wq) := by rw [hWi]; exact kq
      have HWW : Hid (w.heap.size ≤ Wi ∧ Wi = wr.heap.size) := ⟨by rw [hWi]; exact HBW.out.size, hWi⟩
      rw [← hwq, ← hWi]
      clear hwq hWi kq
      obtain ⟨Wq, hWq⟩ : ∃ Wq, Wq = wr := ⟨_, rfl⟩
      rw [← hWq] at HLG HBW HKQ HWW
      clear hWq
      go_wp2
      go_loopw [5, 6] (fun o kv wr => ∃ (j g c : Nat), j ≤ nB ∧ kv = .int .i64 j ∧ o = .slice (some ⟨g, 0, none⟩) j c ∧ RunsG Wi wr g j c (B.take j) ∧ Below Wi Wq wr) (fun _ kv _ => nB - (intOf kv).toNat)
      case atStart => exact ⟨0, _, 0, Nat.zero_le _, rfl, rfl, HG0.out, HKQ.out⟩
      case round =>
        clear HG0 HKQ
        obtain ⟨j, g, c, hjn, rfl, rfl, hRG, hbi⟩ := hrel
        have HRG : Hid (RunsG Wi wr g j c (B.take j)) := hRG
        have HBI : Hid (Below Wi Wq wr) := hbi
        have HGW : Hid (Wi ≤ g) := hRG.lt.1
        have hbr : Below w.heap.size w wr := HBW.out.trans (hbi.mono HWW.out.1)
        have HWI : Hid (Wi ≤ wr.heap.size) := by have h1 := HWW.out.2; have h2 := hbi.size; show Wi ≤ _; omega
        have tl := cell_later hbr HCB.out
        have zb := Nat.lt_of_lt_of_le hbb hbr.size
        clear hRG hbi
        by_cases hkn : j < nB
        · have hknI : (j : Int) < (nB : Int) := by omega
          obtain ⟨rb, ro, rfl, hrb⟩ := HRB.out.form (by omega)
          obtain ⟨L, mm, s, m, d, hgj, hmw, r0, r1, hLk⟩ := HRB.out.run hbr j hkn
          have HGJ : Hid (B[j]? = some (L, mm)) := hgj
          have HMW : Hid ((Lit.int .i64 mm).wf = true) := hmw
          have hsz := HSB.out.2 _ (List.mem_of_getElem? hgj)
          simp only at hsz
          have HLM : Hid (L.length = m) := hLk.1.length
          have hm : 1 ≤ m ∧ m ≤ 10000 := by have := HLM.out; omega
          obtain ⟨sb, so, rfl, hsb⟩ := hLk.1.form (by omega)
          have HLE : Hid (EntsAt wr (some ⟨sb, so, none⟩) m d L) := hLk.1
          have zr := Nat.lt_of_lt_of_le hrb hbr.size
          have k0 : Below wr.heap.size wr wr.drew := (Below.refl _ wr).drew
          have HMK : Hid (∀ w', Below wr.heap.size wr w' → (fun w' => w'.cell? ⟨b, off + i, none⟩ = some (.slice (some ⟨rb, ro, none⟩) nB cB) ∧ w'.cell? ⟨rb, ro + j * 2, none⟩ = some (.slice (some ⟨sb, so, none⟩) m d) ∧ w'.cell? ⟨rb, ro + j * 2 + 1, none⟩ = some (.int .i64 mm) ∧ b < w'.heap.size ∧ rb < w'.heap.size) w') := fun w' kk => ⟨cell_later kk tl, cell_later kk r0, cell_later kk r1, Nat.lt_of_lt_of_le zb kk.size, Nat.lt_of_lt_of_le zr kk.size⟩
          have HMK2 : Hid (∀ (wb w' : World), wb.grownBy w' (some g) → Below wr.heap.size wr wb → (fun w' => w'.cell? ⟨b, off + i, none⟩ = some (.slice (some ⟨rb, ro, none⟩) nB cB) ∧ w'.cell? ⟨rb, ro + j * 2, none⟩ = some (.slice (some ⟨sb, so, none⟩) m d) ∧ w'.cell? ⟨rb, ro + j * 2 + 1, none⟩ = some (.int .i64 mm) ∧ b < w'.heap.size ∧ rb < w'.heap.size) w') := fun wb w' hg kk => by
            have hgl := HGW.out
            have hww := HWW.out
            have hbw := HBW.out.size
            have hne : ∀ {x : Nat}, x < w.heap.size → some x ≠ some g := fun {x} hx e => by have := Option.some.inj e; omega
            exact ⟨hg.cell (cell_later kk tl) (hne hbb), hg.cell (cell_later kk r0) (hne hrb), hg.cell (cell_later kk r1) (hne hrb), Nat.lt_of_lt_of_le zb (Nat.le_trans kk.size hg.size), Nat.lt_of_lt_of_le zr (Nat.le_trans kk.size hg.size)⟩
          clear hgj hmw hLk hsz hsb
          go_wp2_with fail
          clear tl r0 r1 zr zb
          refine wp_region_held_drew (S := (fun w' => w'.cell? ⟨b, off + i, none⟩ = some (.slice (some ⟨rb, ro, none⟩) nB cB) ∧ w'.cell? ⟨rb, ro + j * 2, none⟩ = some (.slice (some ⟨sb, so, none⟩) m d) ∧ w'.cell? ⟨rb, ro + j * 2 + 1, none⟩ = some (.int .i64 mm) ∧ b < w'.heap.size ∧ rb < w'.heap.size)) (by kernel_rfl) (HMK.out _ k0) (fun hHeld => ?_)
          generalize wr.drew = wd at k0 hHeld ⊢
          refine tkL 0 hHeld ?_; try go_frame
          refine tkL 2 hHeld ?_; try go_frame
          refine tkL 3 hHeld ?_; try go_frame
          refine tkL 4 hHeld ?_; try go_frame
          refine tkL 5 hHeld ?_; try go_frame
          refine tkL 6 hHeld ?_; try go_frame
          refine tkL 7 hHeld ?_; try go_frame
          refine tkL 8 hHeld ?_; try go_frame
          refine tkL 9 hHeld ?_; try go_frame
          refine tkL 11 hHeld ?_; try go_frame
          refine tkL 12 hHeld ?_; try go_frame
          refine tkL 13 hHeld ?_; try go_frame
          refine tkL 14 hHeld ?_; try go_frame
          refine tkL 15 hHeld ?_; try go_frame
          refine tkL 16 hHeld ?_; try go_frame
          refine tkL 17 hHeld ?_; try go_frame
          refine tkL 18 hHeld ?_; try go_frame
          refine wpAnyH_ready (rs := [1]) (by kernel_rfl) (by simp) ?_
          refine consL rfl (fun K hK => ?_) AllReadyH.nil
          go_simp
          have ka0 : Below wd.heap.size wd (wd.alloc (.cells #[] 78)) := (Below.refl _ _).alloc (Nat.le_refl _) _
          have oa := own_empty wd wr.heap.size k0.size
          have ka := k0.trans (ka0.mono k0.size)
          have ga1 : wr.heap.size ≤ wd.heap.size := k0.size
          generalize wd.heap.size = ga at oa ga1 ⊢
          generalize wd.alloc (.cells #[] 78) = wa at oa ka ⊢
          clear ka0
          refine hK.out _ _ (HMK.out _ ka) (fun hHeld => ?_)
          clear hK K
          try go_frame
          refine wpAnyH_ready (rs := [10]) (by kernel_rfl) (by simp) ?_
          refine consL rfl (fun K hK => ?_) AllReadyH.nil
          refine step_append_own rfl (.tmp 25) (.tmp 33) 28 rfl wr.heap.size 78 i0 _ 5 56 Tryz.underlying28 hi hz0 hz1 hz2 rfl (Nat.succ_pos 4) _ _ _ rfl oa.owns ⟨sb, so, none⟩ m d (flatE L) rfl (by rw [flatE_len, HLM.out]) (ents_news_at (HLE.out.keep ka)) (flatE_one _) ?_ ?_ ?_ ?_
          · unfold maxLen; omega
          · omega
          · exact ka.size
          intro v1 w1 ho1 hg1 hn1
          obtain ⟨e1, d1, rfl⟩ := row_some ho1 hn1
          have hg1' : wa.grownBy w1 (some ga) := hg1
          have k1 : Below wr.heap.size wr w1 := ka.grown hg1' ka.size (fun k e => by cases e; exact ga1)
          have o1 : OwnE w1 wr.heap.size e1 m d1 L := ⟨by have h1 := ho1; rw [Nat.zero_add] at h1; simpa [flatE] using h1, HLM.out, HLE.out.ents⟩
          rw [Nat.zero_add]
          clear ho1 hg1 hn1 hg1' oa ga1 ka
          refine hK.out _ _ (HMK.out _ k1) (fun hHeld => ?_)
          clear hK K
          try go_frame
          refine tkL 19 hHeld ?_; try go_frame
          refine wpAnyH_ready (rs := [20]) (by kernel_rfl) (by simp) ?_
          refine consL rfl (fun K hK => ?_) AllReadyH.nil
          go_simp
          have kb0 : Below w1.heap.size w1 (w1.alloc (.cells #[.slice (some ⟨e1, 0, none⟩) m d1, .int .i64 mm] 102)) := (Below.refl _ _).alloc (Nat.le_refl _) _
          have kb := k1.trans (kb0.mono k1.size)
          have ob := o1.below kb0
          have nw := cell_two_new' w1 (.slice (some ⟨e1, 0, none⟩) m d1) (.int .i64 mm) 102
          generalize w1.heap.size = gb at nw ⊢
          generalize w1.alloc (.cells #[.slice (some ⟨e1, 0, none⟩) m d1, .int .i64 mm] 102) = wb at kb ob nw ⊢
          clear kb0
          refine hK.out _ _ (HMK.out _ kb) (fun hHeld => ?_)
          clear hK K
          try go_frame
          refine wpAnyH_ready (rs := [21]) (by kernel_rfl) (by simp) ?_
          refine consL rfl (fun K hK => ?_) AllReadyH.nil
          obtain ⟨hl2, hw2, xs2, ho2, hx2⟩ := HRG.out.below kb
          refine step_append_own rfl (.tmp 24) (.tmp 44) 64 rfl Wi 102 j0 _ 2 32 Tryz.underlying64 hj hy0 hy1 hy2 rfl (Nat.succ_pos 1) _ _ _ rfl ho2 ⟨gb, 0, none⟩ 1 1 [Value.slice (some ⟨e1, 0, none⟩) m d1, Value.int .i64 mm] rfl rfl nw (by simp [Value.oneCell']) ?_ ?_ ?_ ?_
          · unfold maxLen; omega
          · omega
          · have h1 := kb.size; have h2 := HWI.out; omega
          intro v2 w2 ho3 hg2 hn2
          obtain ⟨g2, c2, rfl⟩ := row_some ho3 hn2
          have hg2 : wb.grownBy w2 (some g) := hg2
          have hG2 := runsG_push (L := L) hl2 hw2 ho2 hx2 (by rw [HLM.out]; exact ob.mono HWI.out) HMW.out hg2 (by rw [HLM.out]; exact ho3)
          have k2 := (HBI.out.trans (kb.mono HWI.out)).grown hg2 (Nat.le_trans HWI.out kb.size) (fun k e => by cases e; exact HGW.out)
          refine hK.out _ _ (HMK2.out _ w2 hg2 kb) (fun hHeld => ?_)
          clear hK K
          try go_frame
          refine tkL 22 hHeld ?_; try go_frame
          refine wpAnyH_done (by kernel_rfl) ?_ _
          have HG2 : Hid (RunsG Wi w2 g2 (j + 1) c2 (B.take (j + 1))) := by rw [List.take_add_one, HGJ.out]; exact hG2
          have HK2 : Hid (Below Wi Wq w2) := k2
          clear hHeld hG2 k2 ho3 hg2 hn2 hl2 hw2 ho2 hx2 kb ob nw k1 o1 k0
          go_wp2
          go_roundw
          case rel => exact ⟨j + 1, g2, c2, by omega, by go_num, rfl, HG2.out, HK2.out⟩
          case measure => simp [intOf]; omega
        · have hknI : ¬ (j : Int) < (nB : Int) := by omega
          obtain rfl : j = nB := by omega
          have kx : Below Wq.heap.size Wq wr := by have h1 := HBI.out; rw [HWW.out.2] at h1; exact h1
          obtain ⟨q1, xs, p2, p3, p4⟩ := HLG.out
          have HLOW : Hid (∀ (i' gi ni di : Nat), xs[i']? = some (.slice (some ⟨gi, 0, none⟩) ni di) → gi ≠ g) := fun i' gi ni di hx => by
            have hi' := (List.getElem?_eq_some_iff.1 hx).1
            have hxl := p2.1
            obtain ⟨B', hB'⟩ : ∃ B', (V.take i)[i']? = some B' := ⟨_, List.getElem?_eq_getElem (by rw [q1]; omega)⟩
            obtain ⟨g', d', a1, a3⟩ := p3 i' B' hB'
            rw [hx] at a1
            cases a1
            have h1 := a3.lt.2
            have h2 := HGW.out
            have h3 := HWW.out.2
            omega
          have HRW : Hid (RunsG w.heap.size wr g j c B) := by
            have h1 := HRG.out.mono HWW.out.1
            rw [List.take_of_length_le (by rw [HNB.out]; omega)] at h1
            exact h1
          have HBR : Hid (Below w.heap.size w wr) := hbr
          have wi : IntKind.i64.wrap ((i : Int) + 1) = ((i + 1 : Nat) : Int) := by rw [IntWalk.i64_left]; unfold wrap64; omega
          clear HLG HRG
          have HDX : Hid (DistX xs) := p4
          have ka : Below wr.heap.size wr (wr.alloc (.cells #[.slice (some ⟨g, 0, none⟩) j c] 64)) := (Below.refl _ _).alloc (Nat.le_refl _) _
          have kxa := kx.trans (ka.mono kx.size)
          have q2 := p2.kept (row := none) ⟨kxa.os, kxa.tape, kxa.output, kxa.size, fun k hk _ => kxa.block k hk⟩ (.inr (by simp [Value.ownBlock]))
          have q3 : ∀ (i' : Nat) (B : List RunD), (V.take i)[i']? = some B → ∃ e d, xs[i']? = some (.slice (some ⟨e, 0, none⟩) B.length d) ∧ RunsG w.heap.size (wr.alloc (.cells #[.slice (some ⟨g, 0, none⟩) j c] 64)) e B.length d B := fun i' B hB => by obtain ⟨g', d', a1, a3⟩ := p3 i' B hB; exact ⟨g', d', a1, a3.below kxa⟩
          clear p2 p3 p4 kx kxa
          have HQ : Hid (_ ∧ _) := ⟨q2, q3⟩
          have hbz := hbr.size
          clear hbr
          go_wp2_with (at_builtin; refine wpList_append_own _ rfl _ _ 29 rfl w.heap.size 64 l0 _ 1 24 Tryz.underlying29 hl hx0 hx1 hx2 rfl (by decide) _ _ _ rfl HQ.out.1 ⟨wr.heap.size, 0, none⟩ 1 1 [Value.slice (some ⟨g, 0, none⟩) j c] rfl rfl (cell_one_new' _ _ _) (by simp [Value.oneCell']) (by unfold maxLen; omega) (by omega) (by simp; omega) ?_; intro v2 w2 hown2 hgrow2 hnil2; obtain ⟨g2, c2, rfl⟩ := row_some hown2 hnil2)
          go_roundw
          case rel =>
            have hgr : (wr.alloc (.cells #[.slice (some ⟨g, 0, none⟩) j c] 64)).grownBy w2 (some G) := hgrow2
            have hnb := HNB.out
            have hpush := levsG_push (B := B) q1 HQ.out.1 HQ.out.2 (by rw [hnb]; exact HRW.out.below ka) hgr (by rw [hnb]; exact hown2) HDX.out HLOW.out
            refine ⟨i + 1, g2, c2, by omega, by go_num, rfl, by rw [List.take_add_one, HGI.out]; exact hpush, ?_⟩
            exact (HBR.out.alloc HBR.out.size _).grown hgr (by simp; omega) (fun k e => by cases e; exact (HQ.out.1.lt G rfl).1)
          case measure => simp [intOf]; omega
    · have hltI : ¬ (i : Int) < (nv : Int) := by omega
      obtain rfl : i = nv := by omega
      have HLV : Hid (LevsG w.heap.size wr G i c0 V) := by
        have := HLG.out
        rw [List.take_of_length_le (by rw [HVL.out]; omega)] at this
        exact this
      clear hbw
      go_wp2
      go_ret
      exact ⟨G, c0, rfl, HLV.out, HBW.out⟩
end Go.Proofs.YtlmgojlffgkciaaGreat
