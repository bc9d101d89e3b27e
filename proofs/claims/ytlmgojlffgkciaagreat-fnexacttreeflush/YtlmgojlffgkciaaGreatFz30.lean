/-
  What the program's order of entries leaves behind: blocks of its own alone; and that it is an order.
  Plain: entries put in order one by one, and any other way, are the same where no two are alike; no statement of the program stands here.
  Plain: the run that entries make; no function of the program is walked here.
  Plain: what all entries of a tree are, sorted; no statement of the program stands here.
  The program's turned at any function that does something to a tree: what it answers at a right tree, by a walk of its Go text.
  A tree that was answered, when its box is written.
  The rows of the levels of a copy are there, each in a block.
  A right tree's lists as the program shares them, each level's row in a block.
-/
import Derived.Sort.Grow
import Derived.Sort.Statements
import Derived.Shelf.SlSortCmp.InsertionK
import Derived.Test.YtlmgojlffgkciaaGreatFz17
import Derived.Test.YtlmgojlffgkciaaGreatFz00
import Derived.Test.YtlmgojlffgkciaaGreatFz29
import Derived.Test.YtlmgojlffgkciaaGreatFz06
import Derived.Test.YtlmgojlffgkciaaGreatFz26
import Derived.Test.YtlmgojlffgkciaaGreatFz14
import Derived.Test.YtlmgojlffgkciaaGreatFz15
namespace Go.Proofs.YtlmgojlffgkciaaGreat
set_option maxRecDepth 100000
set_option maxHeartbeats 1000000
open Go.RowKit Go.Sort
theorem alloc_grow (w : World) (o : Obj) : w.alloc o = grow w #[o] := by
  unfold World.alloc grow
  simp
theorem implOrderX (ka ta kb tb : ByteArray) (qa da na qb db nb : Int) (w : World) :
    Calls Tryz.prog 145 #[.agg #[.string ka, .int .i64 qa, .int .i64 da, .string ta, .int .i64 na], .agg #[.string kb, .int .i64 qb, .int .i64 db, .string tb, .int .i64 nb]] w fun e w' => e = .returned (.int .i64 (ordI ka qa kb qb)) ∧ ∃ q os', w' = grow (w.drewN q) os' := by
  obtain ⟨C, hC⟩ : ∃ C, C = Lib.compareBytes ka.data.toList kb.data.toList := ⟨_, rfl⟩
  obtain ⟨D, hD⟩ : ∃ D, D = Lib.compareInt qb qa := ⟨_, rfl⟩
  have c1 : ∀ w, Calls Tryz.prog 183 #[.string ka, .string kb] w fun e w' => e = .returned (.int .i64 C) ∧ w' = w := by rw [hC]; exact strCompare ka kb
  have c2 : ∀ w, Calls Tryz.prog 174 #[.int .i64 qb, .int .i64 qa] w fun e w' => e = .returned (.int .i64 D) ∧ w' = w := by rw [hD]; exact intCompare qb qa
  obtain ⟨O, hO⟩ : ∃ O, O = if C = 0 then D else C := ⟨_, rfl⟩
  have c3 : ∀ b c w, w.cell? ⟨b, 0, none⟩ = some (.int .i64 C) → w.cell? ⟨b, 1, none⟩ = some (.int .i64 D) → Calls Tryz.prog 182 #[.slice (some ⟨b, 0, none⟩) 2 c] w fun e w' => e = .returned (.int .i64 O) ∧ w' = w := by
    rw [hO]
    exact fun b c w g0 g1 => cmpOr C D b c w g0 g1
  unfold ordI
  rw [← hC, ← hD, ← hO]
  clear hC hD hO
  go_enter Tryz.func145, Tryz.ntmps145
  go_wp2_with fail
  obtain ⟨X, hX⟩ : ∃ X, X = w.heap.size := ⟨_, rfl⟩
  obtain ⟨W, hW⟩ : ∃ W, W = (w.alloc (.cells #[.string ka, .int .i64 qa, .int .i64 da, .string ta, .int .i64 na] 78)).alloc (.cells #[.string kb, .int .i64 qb, .int .i64 db, .string tb, .int .i64 nb] 78) := ⟨_, rfl⟩
  have x0 : W.cell? ⟨X, 0, none⟩ = some (.string ka) := by rw [hW, hX]; simp
  have x1 : W.cell? ⟨X, 1, none⟩ = some (.int .i64 qa) := by rw [hW, hX]; simp
  have y0 : W.cell? ⟨X + 1, 0, none⟩ = some (.string kb) := by rw [hW, hX]; simp
  have y1 : W.cell? ⟨X + 1, 1, none⟩ = some (.int .i64 qb) := by rw [hW, hX]; simp
  have HWW : Hid (W = (w.alloc (.cells #[.string ka, .int .i64 qa, .int .i64 da, .string ta, .int .i64 na] 78)).alloc (.cells #[.string kb, .int .i64 qb, .int .i64 db, .string tb, .int .i64 nb] 78)) := hW
  rw [← hW, ← hX]
  clear hW hX
  have k0 : Below W.heap.size W W.drew := (Below.refl _ W).drew
  have HMK : Hid (∀ w', Below W.heap.size W w' → (w'.cell? ⟨X, 0, none⟩ = some (.string ka) ∧ w'.cell? ⟨X, 1, none⟩ = some (.int .i64 qa) ∧ w'.cell? ⟨X + 1, 0, none⟩ = some (.string kb) ∧ w'.cell? ⟨X + 1, 1, none⟩ = some (.int .i64 qb) ∧ Below W.heap.size W w')) := fun w' k => ⟨cell_later k x0, cell_later k x1, cell_later k y0, cell_later k y1, k⟩
  go_region_held3 (fun w' => w'.cell? ⟨X, 0, none⟩ = some (.string ka) ∧ w'.cell? ⟨X, 1, none⟩ = some (.int .i64 qa) ∧ w'.cell? ⟨X + 1, 0, none⟩ = some (.string kb) ∧ w'.cell? ⟨X + 1, 1, none⟩ = some (.int .i64 qb) ∧ Below W.heap.size W w') (first | exact HMK.out _ k0 | exact HMK.out _ ((Below.refl _ W).alloc (Nat.le_refl _) _).drew | exact HMK.out _ (k0.alloc (Nat.le_refl _) _)) (first
    | (go_at_call 183; refine (c1 _).mono ?_; rintro e w' ⟨rfl, rfl⟩)
    | (go_at_call 174; refine (c2 _).mono ?_; rintro e w' ⟨rfl, rfl⟩)
    | (go_at_call 182; refine (c3 _ _ _ (cell_new0 _ _ _ _ _ (by simp)) (cell_new1 _ _ _ _ _ (by simp))).mono ?_; rintro e w' ⟨rfl, rfl⟩))
  go_wp2
  go_ret
  refine ⟨rfl, 1, #[.cells #[.string ka, .int .i64 qa, .int .i64 da, .string ta, .int .i64 na] 78, .cells #[.string kb, .int .i64 qb, .int .i64 db, .string tb, .int .i64 nb] 78, .cells #[.int .i64 C, .int .i64 D] 3], ?_⟩
  rw [HWW.out]
  rw [alloc_grow, alloc_grow, alloc_grow, grow_grow, grow_grow]
  rfl
theorem ltOf_less (x y : EntD) : ltOf (fun x y : EntD => ordI x.1 x.2.1 y.1 y.2.1) x y = lessB x.1 x.2.1 y.1 y.2.1 := order_less _ _ _ _
theorem less_same {ka kb : ByteArray} {qa qb : Int} (h1 : lessB ka qa kb qb = false) (h2 : lessB kb qb ka qa = false) : ka = kb ∧ qa = qb := by
  have h := lessB_one ka kb qa qb
  rw [h1, h2] at h
  simp at h
  exact h
theorem less_swo : SWO (ltOf (fun x y : EntD => ordI x.1 x.2.1 y.1 y.2.1)) where
  irrefl x := by rw [ltOf_less]; exact lessB_self _ _
  trans x y z h1 h2 := by rw [ltOf_less] at *; exact lessB_trans h1 h2
  ntrans x y z h1 h2 := by
    rw [ltOf_less] at *
    cases h3 : lessB x.1 x.2.1 z.1 z.2.1 with
    | false => rfl
    | true =>
      cases h4 : lessB y.1 y.2.1 x.1 x.2.1 with
      | true => rw [lessB_trans h4 h3] at h2; cases h2
      | false =>
        obtain ⟨e1, e2⟩ := less_same h1 h4
        rw [e1, e2, h2] at h3
        cases h3
end Go.Proofs.YtlmgojlffgkciaaGreat

namespace Go.Proofs.YtlmgojlffgkciaaGreat
open Go.RowKit Go.Sort
def lessE (x y : EntD) : Bool := lessB x.1 x.2.1 y.1 y.2.1
theorem lessE_ntrans {x y z : EntD} (h1 : lessE x y = false) (h2 : lessE y z = false) : lessE x z = false := by
  have := less_swo.ntrans x y z
  rw [ltOf_less, ltOf_less, ltOf_less] at this
  exact this h1 h2
def Weak (L : List EntD) : Prop := L.Pairwise (fun a b => lessE b a = false)
def Strict (L : List EntD) : Prop := L.Pairwise (fun a b => lessE a b = true)
theorem plE_right (L : List EntD) (e : EntD) : ∀ n p x, plE L e n ≤ p → p < n → L[p]? = some x → lessE e x = true
  | 0, p, x, _, h2, _ => absurd h2 (Nat.not_lt_zero _)
  | n + 1, p, x, h1, h2, h3 => by
    unfold plE at h1
    cases hn : L[n]? with
    | none => rw [hn] at h1; simp at h1; omega
    | some y =>
      rw [hn] at h1
      simp only at h1
      by_cases hl : lessB e.1 e.2.1 y.1 y.2.1 = true
      · rw [if_pos hl] at h1
        by_cases hp : p = n
        · subst hp
          rw [hn] at h3
          cases h3
          exact hl
        · exact plE_right L e n p x h1 (by omega) h3
      · rw [if_neg hl] at h1
        omega
theorem plE_left (L : List EntD) (e : EntD) : ∀ n x, 0 < plE L e n → L[plE L e n - 1]? = some x → n ≤ L.length → lessE e x = false
  | 0, x, h1, _, _ => absurd h1 (Nat.lt_irrefl _)
  | n + 1, x, h1, h2, h3 => by
    have hn : L[n]? = some (L[n]'(by omega)) := List.getElem?_eq_getElem (by omega)
    by_cases hl : lessB e.1 e.2.1 (L[n]'(by omega)).1 (L[n]'(by omega)).2.1 = true
    · have e1 : plE L e (n + 1) = plE L e n := by
        conv => lhs; unfold plE
        simp only [hn, hl, if_true]
      rw [e1] at h1 h2
      exact plE_left L e n x h1 h2 (by omega)
    · have e1 : plE L e (n + 1) = n + 1 := by
        conv => lhs; unfold plE
        simp only [hn, hl]
        simp
      rw [e1] at h2
      simp only [Nat.add_sub_cancel] at h2
      rw [hn] at h2
      cases h2
      simpa [lessE] using hl
theorem weak_put {L : List EntD} {e : EntD} (h : Weak L) : Weak (putE L e) := by
  have hle := plE_le L e L.length
  obtain ⟨k, hk⟩ : ∃ k, k = plE L e L.length := ⟨_, rfl⟩
  have hR : ∀ y ∈ L.drop k, lessE e y = true := by
    intro y hy
    obtain ⟨p, hp, rfl⟩ := List.getElem_of_mem hy
    simp at hp
    refine plE_right L e L.length (k + p) _ (by omega) (by omega) ?_
    rw [List.getElem?_eq_getElem (by omega)]
    simp
  have hL : ∀ x ∈ L.take k, lessE e x = false := by
    intro x hx
    obtain ⟨p, hp, rfl⟩ := List.getElem_of_mem hx
    simp at hp
    have hk1 : 0 < k := by omega
    have hkl : k - 1 < L.length := by omega
    have h1 : lessE e (L[k - 1]'hkl) = false := plE_left L e L.length _ (by omega) (by rw [← hk]; exact List.getElem?_eq_getElem hkl) (Nat.le_refl _)
    simp only [List.getElem_take]
    by_cases hpk : p = k - 1
    · subst hpk; exact h1
    · have h2 := (List.pairwise_iff_getElem.1 h) p (k - 1) (by omega) hkl (by omega)
      exact lessE_ntrans h1 h2
  have hsp : Weak (L.take k ++ L.drop k) := by rw [List.take_append_drop]; exact h
  have hsp' := List.pairwise_append.1 hsp
  unfold putE
  rw [← hk]
  refine List.pairwise_append.2 ⟨hsp'.1, ?_, ?_⟩
  · refine List.pairwise_append.2 ⟨List.pairwise_singleton _ _, hsp'.2.1, ?_⟩
    intro a ha b hb
    simp only [List.mem_singleton] at ha
    subst ha
    exact lessB_asymm (hR b hb)
  · intro a ha b hb
    rcases List.mem_append.1 hb with hb | hb
    · simp only [List.mem_singleton] at hb
      subst hb
      exact hL a ha
    · exact hsp'.2.2 a ha b hb
theorem put_perm (L : List EntD) (e : EntD) : (putE L e).Perm (L ++ [e]) := by
  unfold putE
  generalize plE L e L.length = k
  have h1 : (L.take k ++ ([e] ++ L.drop k)).Perm (L.take k ++ (L.drop k ++ [e])) := List.Perm.append_left _ List.perm_append_comm
  have h2 : L.take k ++ (L.drop k ++ [e]) = L ++ [e] := by rw [← List.append_assoc, List.take_append_drop]
  rw [h2] at h1
  exact h1
theorem sort_both (L : List EntD) : Weak (sortE L) ∧ (sortE L).Perm L := by
  have : ∀ (L A : List EntD), Weak A → Weak (L.foldl putE A) ∧ (L.foldl putE A).Perm (A ++ L) := by
    intro L
    induction L with
    | nil => intro A h; exact ⟨h, by simp⟩
    | cons e r ih =>
      intro A h
      obtain ⟨h1, h2⟩ := ih (putE A e) (weak_put h)
      refine ⟨h1, ?_⟩
      rw [List.foldl_cons]
      refine h2.trans ?_
      have := (put_perm A e).append_right r
      simpa using this
  have h := this L [] List.Pairwise.nil
  simpa [sortE] using h
theorem strict_weak {A B : List EntD} (hA : Strict A) (hB : Weak B) (hP : A.Perm B) : A = B := by
  induction A generalizing B with
  | nil => exact (List.Perm.nil_eq hP)
  | cons a A ih =>
    cases B with
    | nil => exact absurd hP.length_eq (by simp)
    | cons b B =>
      have hab : a = b := by
        by_cases e : a = b
        · exact e
        · exfalso
          have hb : b ∈ a :: A := hP.mem_iff.2 (List.mem_cons_self ..)
          have ha : a ∈ b :: B := hP.mem_iff.1 (List.mem_cons_self ..)
          have hb' : b ∈ A := (List.mem_cons.1 hb).resolve_left (fun h => e h.symm)
          have ha' : a ∈ B := (List.mem_cons.1 ha).resolve_left e
          have h1 := (List.pairwise_cons.1 hA).1 b hb'
          have h2 := (List.pairwise_cons.1 hB).1 a ha'
          rw [h1] at h2
          cases h2
      subst hab
      rw [ih (List.pairwise_cons.1 hA).2 (List.pairwise_cons.1 hB).2 (List.Perm.cons_inv hP)]
theorem right_strict {L : List EntD} (h : rightB L = true) : Strict L := by
  refine List.pairwise_iff_getElem.2 ?_
  intro i j hi hj hij
  exact right_less h hij (List.getElem?_eq_getElem hi) (List.getElem?_eq_getElem hj)
theorem sorted_same {L D : List EntD} (hW : Weak D) (hP : D.Perm L) : rightB D = rightB (sortE L) ∧ (rightB D = true → D = sortE L) := by
  obtain ⟨sW, sP⟩ := sort_both L
  have hDS : D.Perm (sortE L) := hP.trans sP.symm
  cases h1 : rightB D with
  | true =>
    have e := strict_weak (right_strict h1) sW hDS
    exact ⟨by rw [← e]; exact h1.symm, fun _ => e⟩
  | false =>
    cases h2 : rightB (sortE L) with
    | false => exact ⟨rfl, fun h => by cases h⟩
    | true =>
      have e := strict_weak (right_strict h2) hW hDS.symm
      rw [← e, h2] at h1
      cases h1
end Go.Proofs.YtlmgojlffgkciaaGreat

namespace Go.Proofs.YtlmgojlffgkciaaGreat
open Go.RowKit
def ofB (L : List EntD) : Bool := decide (1 ≤ L.length) && (decide (L.length ≤ 150) && rightB (sortE L))
def ofL (L : List EntD) : List EntD := if ofB L = true then sortE L else []
def ofM (L : List EntD) : Int := if ofB L = true then ((maskL (sortE L) : Nat) : Int) else 0
def OfR (F : List EntD) (m : Int) (ok : Bool) (w : World) (e : Ending) (w' : World) : Prop :=
  ∃ a n c, e = .returned (.tuple #[.agg #[.slice a n c, .int .i64 m], .bool ok]) ∧ OwnO w' w.heap.size a n c F ∧ Below w.heap.size w w'
theorem of_no {L : List EntD} (h : ofB L = false) {w w' : World} (hb : Below w.heap.size w w') : OfR (ofL L) (ofM L) (ofB L) w (.returned (.tuple #[.agg #[.slice none 0 0, .int .i64 0], .bool false])) w' := by
  unfold ofL ofM
  rw [h]
  exact ⟨none, 0, 0, rfl, OwnO.none _ _, hb⟩
theorem of_yes {L : List EntD} (h : ofB L = true) {w w' : World} {g n c : Nat} (ho : OwnE w' w.heap.size g n c (sortE L)) (hb : Below w.heap.size w w') : OfR (ofL L) (ofM L) (ofB L) w (.returned (.tuple #[.agg #[.slice (some ⟨g, 0, none⟩) n c, .int .i64 ((maskL (sortE L) : Nat) : Int)], .bool true])) w' := by
  unfold ofL ofM
  rw [h]
  exact ⟨_, n, c, rfl, OwnO.some ho, hb⟩
end Go.Proofs.YtlmgojlffgkciaaGreat

namespace Go.Proofs.YtlmgojlffgkciaaGreat
open Go.RowKit
theorem rev_flatR (B : List RunD) : (B.reverse.map (·.1)).flatten.Perm (flatR B) := by
  unfold flatR
  rw [List.flatMap_def]
  exact ((List.reverse_perm B).map _).flatten
theorem parts_flat (M : List EntD) (A B C : List RunD) : (partsL M [A, B, C]).flatten.Perm (M ++ (flatR A ++ (flatR B ++ flatR C))) := by
  unfold partsL
  simp only [List.headD_cons, List.drop_succ_cons, List.drop_zero, List.map_cons, List.map_nil, List.cons_append, List.flatten_cons, List.flatten_append, List.flatten_nil, List.append_nil]
  exact ((rev_flatR A).append_right _).append_left _
theorem three_of {q : Int} {M : List EntD} {V : List (List RunD)} {S : List Int} (h : treeB q M V S = true) : ∃ A B C, V = [A, B, C] := by
  have := (tree_parts h).2.2.2.2.2.1
  match V, this with
  | [A, B, C], _ => exact ⟨A, B, C, rfl⟩
end Go.Proofs.YtlmgojlffgkciaaGreat

namespace Go.Proofs.YtlmgojlffgkciaaGreat
open Go.RowKit
set_option maxRecDepth 100000
set_option maxHeartbeats 4000000
theorem TreeO.lowO {lo lo' hi b1 nm b2 nv b3 ns : Nat} {w : World} {M : List EntD} {V : List (List RunD)} {S : List Int} {gs bs : Nat → Nat} {es : Nat → Nat → Nat} (h : TreeO lo hi w b1 nm b2 nv b3 ns M V S gs bs es) (hl : lo' ≤ lo) : TreeO lo' hi w b1 nm b2 nv b3 ns M V S gs bs es := by
  obtain ⟨xs, h1, h2⟩ := h.levs.row
  exact ⟨h.mem.mono hl, ⟨h.levs.len, ⟨xs, row_lower h1 hl, h2⟩, h.levs.levs, ⟨Nat.le_trans hl h.levs.bot.1, h.levs.bot.2⟩, h.levs.up, h.levs.top⟩, ⟨h.sn.1, row_lower h.sn.2 hl⟩, h.ahead⟩
theorem TreeO.highO {lo hi hi' b1 nm b2 nv b3 ns : Nat} {w : World} {M : List EntD} {V : List (List RunD)} {S : List Int} {gs bs : Nat → Nat} {es : Nat → Nat → Nat} (h : TreeO lo hi w b1 nm b2 nv b3 ns M V S gs bs es) (hl : hi ≤ hi') : TreeO lo hi' w b1 nm b2 nv b3 ns M V S gs bs es :=
  ⟨h.mem, ⟨h.levs.len, h.levs.row, h.levs.levs, h.levs.bot, h.levs.up, Nat.le_trans h.levs.top hl⟩, h.sn, h.ahead⟩
theorem setK (w : World) (g o : Nat) (u : Value) : KeepO g (g + 1) w (w.setCell ⟨g, o, none⟩ u) := ⟨rfl, rfl, rfl, by simp [World.setCell], fun q _ hq => Below.heap_setCell _ _ _ _ (fun e => by have e' : q = g := e; omega)⟩
theorem treeO_four {lo lo' hi hi' b1 nm b2 nv b3 ns X : Nat} {w : World} {M : List EntD} {V : List (List RunD)} {S : List Int} {gs bs : Nat → Nat} {es : Nat → Nat → Nat} (h : TreeO lo hi w b1 nm b2 nv b3 ns M V S gs bs es) (hX : X < lo) (hl : lo' ≤ lo) (hh : hi ≤ hi') (u0 u1 u2 u3 : Value) : TreeO lo' hi' ((((w.setCell ⟨X, 0, none⟩ u0).setCell ⟨X, 1, none⟩ u1).setCell ⟨X, 2, none⟩ u2).setCell ⟨X, 3, none⟩ u3) b1 nm b2 nv b3 ns M V S gs bs es :=
  ((h.keepO ((((setK _ _ _ _).trans (setK _ _ _ _)).trans (setK _ _ _ _)).trans (setK _ _ _ _)) hX).lowO hl).highO hh
structure ShIn (w : World) (am : Option Addr) (nm cm : Nat) (a0 : Option Addr) (n0 c0 : Nat) (a1 : Option Addr) (n1 c1 : Nat) (a2 : Option Addr) (n2 c2 : Nat) (ak : Option Addr) (nk ck : Nat) (M : List EntD) (A B C : List RunD) (S : List Int) : Prop where
  mem : EntsAt w am nm cm M
  r0 : RunsIn 0 w a0 n0 c0 A
  r1 : RunsIn 0 w a1 n1 c1 B
  r2 : RunsIn 0 w a2 n2 c2 C
  sn : IntsIn 0 w ak nk ck S
theorem ShIn.keep {w w' : World} {am a0 a1 a2 ak : Option Addr} {nm cm n0 c0 n1 c1 n2 c2 nk ck : Nat} {M : List EntD} {A B C : List RunD} {S : List Int} (h : ShIn w am nm cm a0 n0 c0 a1 n1 c1 a2 n2 c2 ak nk ck M A B C S) (hb : Below w.heap.size w w') : ShIn w' am nm cm a0 n0 c0 a1 n1 c1 a2 n2 c2 ak nk ck M A B C S := ⟨h.mem.keep hb, h.r0.keep hb, h.r1.keep hb, h.r2.keep hb, h.sn.keep hb⟩
theorem TreeIn.share {lo : Nat} {w : World} {sq : Int} {am av ak : Option Addr} {nm cm nv cv nk ck : Nat} {M : List EntD} {V : List (List RunD)} {S : List Int} (hT : TreeIn lo w am nm cm av nv cv ak nk ck M V S) (htb : treeB sq M V S = true) : ∃ b off A B C a0 n0 c0 a1 n1 c1 a2 n2 c2, av = some ⟨b, off, none⟩ ∧ nv = 3 ∧ V = [A, B, C] ∧ ShIn w am nm cm a0 n0 c0 a1 n1 c1 a2 n2 c2 ak nk ck M A B C S ∧ (∀ w', Below w.heap.size w w' → Calls Tryz.prog 53 #[.agg #[.int .i64 sq, .slice am nm cm, .slice (some ⟨b, off, none⟩) 3 cv, .slice ak nk ck]] w' fun e w'' => e = .returned (.tuple #[.agg #[.int .i64 sq, .slice am nm cm, .slice a0 n0 c0, .slice a1 n1 c1, .slice a2 n2 c2, .slice ak nk ck], .bool true]) ∧ Below w'.heap.size w' w'') := by
  obtain ⟨A, B, C, hV3⟩ := three_of htb
  subst hV3
  have hnv : nv = 3 := hT.levels.length.symm
  subst hnv
  obtain ⟨b, off, rfl, hbb⟩ := hT.levels.form (by omega)
  obtain ⟨A', a0, n0, c0, hA, l0, hR0⟩ := hT.levels.level (Below.refl _ w) 0 (by omega)
  obtain ⟨B', a1, n1, c1, hB, l1, hR1⟩ := hT.levels.level (Below.refl _ w) 1 (by omega)
  obtain ⟨C', a2, n2, c2, hC, l2, hR2⟩ := hT.levels.level (Below.refl _ w) 2 (by omega)
  simp only [List.getElem?_cons_zero, List.getElem?_cons_succ, Option.some.injEq] at hA hB hC
  subst hA hB hC
  rw [Nat.add_zero] at l0
  refine ⟨b, off, A, B, C, a0, n0, c0, a1, n1, c1, a2, n2, c2, rfl, rfl, rfl, ⟨hT.mem.1, hR0.mono (Nat.zero_le _), hR1.mono (Nat.zero_le _), hR2.mono (Nat.zero_le _), hT.snaps.lower (Nat.zero_le _)⟩, fun w' k => ?_⟩
  have := implShare lo sq am ak nm cm b off cv nk ck M A B C S a0 a1 a2 n0 c0 n1 c1 n2 c2 w' (hT.mem.1.keep k) (hT.snaps.keep k) (hR0.keep k) (hR1.keep k) (hR2.keep k) (cell_later k l0) (cell_later k l1) (cell_later k l2)
  rw [htb] at this
  exact this
structure OutOk (M : List EntD) (A B C : List RunD) (S : List Int) : Prop where
  bm : M.length ≤ 1048576
  bk : S.length ≤ 1048576
  em : SmallE M
  b0 : SmallR A
  b1 : SmallR B
  b2 : SmallR C
  e0 : SmallRE A
  e1 : SmallRE B
  e2 : SmallRE C
theorem outOk_sum {M : List EntD} {A B C : List RunD} {S : List Int} (h : SumOk M [A, B, C] S) : OutOk M A B C S := by
  have hs := small_of_sum h.1
  exact ⟨hs.1, hs.2.2, h.2.1, hs.2.1.2 A (by simp), hs.2.1.2 B (by simp), hs.2.1.2 C (by simp), h.2.2 A (by simp), h.2.2 B (by simp), h.2.2 C (by simp)⟩
theorem asTree_g (q : Int) (am ak : Option Addr) (nm cm nk ck : Nat) (a0 a1 a2 : Option Addr) (n0 c0 n1 c1 n2 c2 : Nat) (M : List EntD) (A B C : List RunD) (S : List Int) (w : World) (h : ShIn w am nm cm a0 n0 c0 a1 n1 c1 a2 n2 c2 ak nk ck M A B C S) (ho : OutOk M A B C S) :
    Calls Tryz.prog 79 #[.agg #[.int .i64 q, .slice am nm cm, .slice a0 n0 c0, .slice a1 n1 c1, .slice a2 n2 c2, .slice ak nk ck]] w (AsRO q nm nk M [A, B, C] S w) :=
  asTree_o 0 q am ak nm cm nk ck a0 a1 a2 n0 c0 n1 c1 n2 c2 M A B C S w h.mem h.sn h.r0 h.r1 h.r2 (by have := h.mem.length; have := ho.bm; omega) (by have := h.sn.length; have := ho.bk; omega) ho.em ho.b0 ho.b1 ho.b2 ho.e0 ho.e1 ho.e2
def HowY (q2 : Int) (M2 : List EntD) (A2 B2 C2 : List RunD) (S2 : List Int) (w : World) (e : Ending) (w' : World) : Prop :=
  ∃ am2 nm2 cm2 a02 n02 c02 a12 n12 c12 a22 n22 c22 ak2 nk2 ck2, e = .returned (.tuple #[.agg #[.int .i64 q2, .slice am2 nm2 cm2, .slice a02 n02 c02, .slice a12 n12 c12, .slice a22 n22 c22, .slice ak2 nk2 ck2], .bool true]) ∧ ShIn w' am2 nm2 cm2 a02 n02 c02 a12 n12 c12 a22 n22 c22 ak2 nk2 ck2 M2 A2 B2 C2 S2 ∧ Below w.heap.size w w'
def HowN (w : World) (e : Ending) (w' : World) : Prop :=
  ∃ q2 am2 nm2 cm2 a02 n02 c02 a12 n12 c12 a22 n22 c22 ak2 nk2 ck2, e = .returned (.tuple #[.agg #[.int .i64 q2, .slice am2 nm2 cm2, .slice a02 n02 c02, .slice a12 n12 c12, .slice a22 n22 c22, .slice ak2 nk2 ck2], .bool false]) ∧ Below w.heap.size w w'
def NoneR (w : World) (e : Ending) (w' : World) : Prop := e = .returned (.tuple #[.agg #[.int .i64 0, .slice none 0 0, .slice none 0 0, .slice none 0 0], .bool false]) ∧ Below w.heap.size w w'
theorem impR_none {w w' : World} {e : Ending} (h : NoneR w e w') : ImpR 0 [] [] [] false w e w' := ⟨none, 0, none, 0, none, 0, fun _ => 0, fun _ => 0, fun _ _ => 0, h.1, .inr ⟨rfl, rfl, rfl, rfl, rfl, rfl, rfl, rfl, rfl⟩, h.2⟩
theorem docR_none {w w' : World} {e : Ending} (h : NoneR w e w') : DocR 0 [] [] [] false w e w' := ⟨none, 0, 0, none, 0, 0, none, 0, 0, h.1, treeIn_nil 0 w', h.2⟩
theorem turnedNo (lo : Nat) (sq : Int) (fv : Value) (am av ak : Option Addr) (nm cm nv cv nk ck : Nat) (M : List EntD) (V : List (List RunD)) (S : List Int) (w : World) (hT : TreeIn lo w am nm cm av nv cv ak nk ck M V S) (htb : treeB sq M V S = false) :
    Calls Tryz.prog 42 #[.agg #[.int .i64 sq, .slice am nm cm, .slice av nv cv, .slice ak nk ck], fv] w (NoneR w) := by
  have HVN : Hid (V.length = nv) := hT.levels.length
  have CS : Hid (∀ w', Below w.heap.size w w' → Calls Tryz.prog 53 #[.agg #[.int .i64 sq, .slice am nm cm, .slice av nv cv, .slice ak nk ck]] w' fun e w'' => (∃ (q' : Int) (m' x0 x1 x2 k' : Value), e = .returned (.tuple #[.agg #[.int .i64 q', m', x0, x1, x2, k'], .bool false]) ∧ (∃ a n c, m' = .slice a n c) ∧ (∃ a n c, x0 = .slice a n c) ∧ (∃ a n c, x1 = .slice a n c) ∧ (∃ a n c, x2 = .slice a n c) ∧ (∃ a n c, k' = .slice a n c)) ∧ Below w'.heap.size w' w'') := fun w' k => by
    by_cases hn : nv = 3
    · subst hn
      obtain ⟨A, B, C, hV3⟩ : ∃ A B C, V = [A, B, C] := by
        have := HVN.out
        match V, this with
        | [A, B, C], _ => exact ⟨A, B, C, rfl⟩
      subst hV3
      obtain ⟨b, off, rfl, hbb⟩ := hT.levels.form (by omega)
      obtain ⟨A', a0, n0, c0, hA, l0, hR0⟩ := hT.levels.level (Below.refl _ w) 0 (by omega)
      obtain ⟨B', a1, n1, c1, hB, l1, hR1⟩ := hT.levels.level (Below.refl _ w) 1 (by omega)
      obtain ⟨C', a2, n2, c2, hC, l2, hR2⟩ := hT.levels.level (Below.refl _ w) 2 (by omega)
      simp only [List.getElem?_cons_zero, List.getElem?_cons_succ, Option.some.injEq] at hA hB hC
      subst hA hB hC
      rw [Nat.add_zero] at l0
      have := implShare lo sq am ak nm cm b off cv nk ck M A B C S a0 a1 a2 n0 c0 n1 c1 n2 c2 w' (hT.mem.1.keep k) (hT.snaps.keep k) (hR0.keep k) (hR1.keep k) (hR2.keep k) (cell_later k l0) (cell_later k l1) (cell_later k l2)
      rw [htb] at this
      refine this.mono ?_
      rintro e w'' ⟨rfl, hb⟩
      exact ⟨⟨_, _, _, _, _, _, rfl, ⟨_, _, _, rfl⟩, ⟨_, _, _, rfl⟩, ⟨_, _, _, rfl⟩, ⟨_, _, _, rfl⟩, ⟨_, _, _, rfl⟩⟩, hb⟩
    · refine (implShareNo sq am av ak nm cm nv cv nk ck w' hn).mono ?_
      rintro e w'' ⟨rfl, hb⟩
      exact ⟨⟨_, _, _, _, _, _, rfl, ⟨_, _, _, rfl⟩, ⟨_, _, _, rfl⟩, ⟨_, _, _, rfl⟩, ⟨_, _, _, rfl⟩, ⟨_, _, _, rfl⟩⟩, hb⟩
  obtain ⟨X, hX⟩ : ∃ X, X = w.heap.size := ⟨_, rfl⟩
  obtain ⟨W, hW⟩ : ∃ W, W = (w.alloc (.cells #[.int .i64 sq, .slice am nm cm, .slice av nv cv, .slice ak nk ck] 31)).alloc (.cells #[.int .i64 0, .slice none 0 0, .slice none 0 0, .slice none 0 0] 31) := ⟨_, rfl⟩
  have kW : Below w.heap.size w W := by rw [hW]; exact ((Below.refl _ _).alloc (Nat.le_refl _) _).alloc (by simp) _
  have br : Box4 W (X + 1) (.int .i64 0) (.slice none 0 0) (.slice none 0 0) (.slice none 0 0) := by
    have := Box4.new (w.alloc (.cells #[.int .i64 sq, .slice am nm cm, .slice av nv cv, .slice ak nk ck] 31)) 31 (.int .i64 0) (.slice none 0 0) (.slice none 0 0) (.slice none 0 0)
    rw [World.size_alloc] at this
    rw [hW, hX]
    exact this
  have HX : Hid (X = w.heap.size) := hX
  have K0 : Hid (Below w.heap.size w W) := kW
  clear hT kW htb HVN
  go_enter Tryz.func42, Tryz.ntmps42
  go_wp2_with fail
  rw [← hX, ← hW]
  clear hX hW
  refine (CS.out _ K0.out).mono ?_
  rintro e w1 ⟨⟨q', _, _, _, _, _, rfl, ⟨m1, m2, m3, rfl⟩, ⟨y1, y2, y3, rfl⟩, ⟨z1, z2, z3, rfl⟩, ⟨u1, u2, u3, rfl⟩, ⟨v1, v2, v3, rfl⟩⟩, hb1⟩
  obtain ⟨w2, hw2⟩ : ∃ w2, w2 = w1.alloc (.cells #[.int .i64 q', .slice m1 m2 m3, .slice y1 y2 y3, .slice z1 z2 z3, .slice u1 u2 u3, .slice v1 v2 v3] 67) := ⟨_, rfl⟩
  have k2 : Below w1.heap.size w1 w2 := by rw [hw2]; exact (Below.refl _ _).alloc (Nat.le_refl _) _
  have K1 : Hid (Below w.heap.size w w2) := (K0.out.trans (hb1.mono K0.out.size)).trans (k2.mono (Nat.le_trans K0.out.size hb1.size))
  have br1 := (br.keep hb1).keep k2
  have r0 := br1.c0
  have r1 := br1.c1
  have r2 := br1.c2
  have r3 := br1.c3
  have rf := br1.fz
  have rz := br1.lt
  clear hb1 br k2
  go_upto_region 2 with fail
  rw [← hw2]
  clear hw2
  go_wp2
  refine bodyPost_ret (v := .tuple #[.agg #[.int .i64 0, .slice none 0 0, .slice none 0 0, .slice none 0 0], .bool false]) ?_ rfl ⟨rfl, ?_⟩
  · have e := (((br1.set0 (.int .i64 0)).set1 (.slice none 0 0)).set2 (.slice none 0 0)).set3 (.slice none 0 0)
    simp [results, Tryz.results42, go_sem, e.c0, e.c1, e.c2, e.c3]
  · have hx : w.heap.size ≤ X + 1 := by have := HX.out; omega
    exact (((K1.out.setCell (p := ⟨X + 1, 0, none⟩) hx _).setCell (p := ⟨X + 1, 1, none⟩) hx _).setCell (p := ⟨X + 1, 2, none⟩) hx _).setCell (p := ⟨X + 1, 3, none⟩) hx _
end Go.Proofs.YtlmgojlffgkciaaGreat

namespace Go.Proofs.YtlmgojlffgkciaaGreat
open Go.RowKit
theorem resT_four {lo lo' hi hi' nm nv ns X : Nat} {am av ak : Option Addr} {w : World} {M : List EntD} {V : List (List RunD)} {S : List Int} {gs bs : Nat → Nat} {es : Nat → Nat → Nat} (h : ResT lo hi w am nm av nv ak ns M V S gs bs es) (hX : X < lo) (hl : lo' ≤ lo) (hh : hi ≤ hi') (u0 u1 u2 u3 : Value) : ResT lo' hi' ((((w.setCell ⟨X, 0, none⟩ u0).setCell ⟨X, 1, none⟩ u1).setCell ⟨X, 2, none⟩ u2).setCell ⟨X, 3, none⟩ u3) am nm av nv ak ns M V S gs bs es := by
  rcases h with ⟨b1, b2, b3, h1, h2, h3, h4⟩ | h
  · exact .inl ⟨b1, b2, b3, h1, h2, h3, treeO_four h4 hX hl hh _ _ _ _⟩
  · exact .inr h
end Go.Proofs.YtlmgojlffgkciaaGreat

namespace Go.Proofs.YtlmgojlffgkciaaGreat
open Go.RowKit
def LevNN (w : World) (b : Nat) (V : List (List RunD)) : Prop := ∀ (i : Nat) (B : List RunD), V[i]? = some B → ∃ e n c, w.cell? ⟨b, i, none⟩ = some (.slice (some ⟨e, 0, none⟩) n c)
theorem LevNN.keep {w w' : World} {b : Nat} {V : List (List RunD)} (h : LevNN w b V) (hb : Below w.heap.size w w') : LevNN w' b V := fun i B hB => by
  obtain ⟨e, n, c, h1⟩ := h i B hB
  exact ⟨e, n, c, cell_later hb h1⟩
theorem TreeBl.levNN {lo hi b1 nm b2 b3 ns : Nat} {w : World} {V : List (List RunD)} (h : TreeBl lo hi w b1 nm b2 V b3 ns) : LevNN w b2 V := fun i B hB => by
  obtain ⟨e, h1, _⟩ := h.levs.levs i B hB
  exact ⟨e, _, _, h1⟩
end Go.Proofs.YtlmgojlffgkciaaGreat

namespace Go.Proofs.YtlmgojlffgkciaaGreat
open Go.RowKit
theorem TreeIn.shareN {lo : Nat} {w : World} {sq : Int} {am ak : Option Addr} {nm cm b nv cv nk ck : Nat} {M : List EntD} {V : List (List RunD)} {S : List Int} (hT : TreeIn lo w am nm cm (some ⟨b, 0, none⟩) nv cv ak nk ck M V S) (htb : treeB sq M V S = true) (hN : LevNN w b V) : ∃ A B C e0 n0 c0 e1 n1 c1 e2 n2 c2, nv = 3 ∧ V = [A, B, C] ∧ ShIn w am nm cm (some ⟨e0, 0, none⟩) n0 c0 (some ⟨e1, 0, none⟩) n1 c1 (some ⟨e2, 0, none⟩) n2 c2 ak nk ck M A B C S ∧ (∀ w', Below w.heap.size w w' → Calls Tryz.prog 53 #[.agg #[.int .i64 sq, .slice am nm cm, .slice (some ⟨b, 0, none⟩) 3 cv, .slice ak nk ck]] w' fun e w'' => e = .returned (.tuple #[.agg #[.int .i64 sq, .slice am nm cm, .slice (some ⟨e0, 0, none⟩) n0 c0, .slice (some ⟨e1, 0, none⟩) n1 c1, .slice (some ⟨e2, 0, none⟩) n2 c2, .slice ak nk ck], .bool true]) ∧ Below w'.heap.size w' w'') := by
  obtain ⟨A, B, C, hV3⟩ := three_of htb
  subst hV3
  have hnv : nv = 3 := hT.levels.length.symm
  subst hnv
  obtain ⟨A', a0, n0, c0, hA, l0, hR0⟩ := hT.levels.level (Below.refl _ w) 0 (by omega)
  obtain ⟨B', a1, n1, c1, hB, l1, hR1⟩ := hT.levels.level (Below.refl _ w) 1 (by omega)
  obtain ⟨C', a2, n2, c2, hC, l2, hR2⟩ := hT.levels.level (Below.refl _ w) 2 (by omega)
  simp only [List.getElem?_cons_zero, List.getElem?_cons_succ, Option.some.injEq] at hA hB hC
  subst hA hB hC
  rw [Nat.zero_add] at l0 l1 l2
  obtain ⟨e0, _, _, f0⟩ := hN 0 A rfl
  obtain ⟨e1, _, _, f1⟩ := hN 1 B rfl
  obtain ⟨e2, _, _, f2⟩ := hN 2 C rfl
  rw [l0] at f0
  rw [l1] at f1
  rw [l2] at f2
  cases f0
  cases f1
  cases f2
  refine ⟨A, B, C, e0, n0, c0, e1, n1, c1, e2, n2, c2, rfl, rfl, ⟨hT.mem.1, hR0.mono (Nat.zero_le _), hR1.mono (Nat.zero_le _), hR2.mono (Nat.zero_le _), hT.snaps.lower (Nat.zero_le _)⟩, fun w' k => ?_⟩
  have := implShare lo sq am ak nm cm b 0 cv nk ck M A B C S _ _ _ n0 c0 n1 c1 n2 c2 w' (hT.mem.1.keep k) (hT.snaps.keep k) (hR0.keep k) (hR1.keep k) (hR2.keep k) (cell_later k l0) (cell_later k l1) (cell_later k l2)
  rw [htb] at this
  exact this
end Go.Proofs.YtlmgojlffgkciaaGreat
