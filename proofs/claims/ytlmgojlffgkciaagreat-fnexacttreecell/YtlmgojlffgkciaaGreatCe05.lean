/-
  Laws for a region that draws its order, taken operation by operation; no statement of the program stands here.
  What the program makes of an entry's kind: the four types behind its interface, what each says of an entry and does to a cell, by walks of their Go text.
-/
import Derived.Deep.RegionHeld3
import Derived.WalkKit
import Derived.Test.YtlmgojlffgkciaaGreatCe03
import Derived.Test.YtlmgojlffgkciaaGreatCe01
namespace Go.Proofs.YtlmgojlffgkciaaGreat
open Go.RowKit
theorem wpAnyH_takeL {P : Program} {l : List Oper} {Q : Exit → Act → World → Prop} {md : Region.Mode} {S : World → Prop} {i : Nat} {oi : Oper} {v : Value} {fuel : Nat} {listed : Array Bool} {a : Act} {w : World} (hi : l[i]? = some oi)
    (hs : Region.noSelect l.toArray = true) (hf : Region.free md l.toArray listed i = true) (hr : (Region.ready md l.toArray listed).contains i = true)
    (hQ : ∀ c a w, Q (.panic c) (a.put oi.dst v) w → Q (.panic c) a w) (hy : YieldsIf P l.toArray S oi v a) (hS : S w)
    (h : wpAnyH P md l.toArray Q S fuel (listed.setIfInBounds i true) (a.put oi.dst v) w) : wpAnyH P md l.toArray Q S (fuel + 1) listed a w :=
  wpAnyH_take (by simpa using hi) hs hf hr hQ hy hS h
theorem tkL {P : Program} {l : List Oper} {Q : Exit → Act → World → Prop} {md : Region.Mode} {S : World → Prop} (i : Nat) {oi : Oper} {v : Value} {fuel : Nat} {listed : Array Bool} {a : Act} {w : World} (hS : S w)
    (h : wpAnyH P md l.toArray Q S fuel (listed.setIfInBounds i true) (a.put oi.dst v) w) (hi : l[i]? = some oi := by exact rfl) (hs : Region.noSelect l.toArray = true := by kernel_rfl) (hf : Region.free md l.toArray listed i = true := by kernel_rfl) (hr : (Region.ready md l.toArray listed).contains i = true := by kernel_rfl)
    (hQ : ∀ c a w, Q (.panic c) (a.put oi.dst v) w → Q (.panic c) a w := by exact fun _ _ _ h => h) (hy : YieldsIf P l.toArray S oi v a := by (refine Or.inl ⟨by rfl, ?_⟩; intro w hSw; (try dsimp only at hSw); go_simp; try with_reducible rfl)) : wpAnyH P md l.toArray Q S (fuel + 1) listed a w :=
  wpAnyH_takeL hi hs hf hr hQ hy hS h
theorem tkN {P : Program} {l : List Oper} {Q : Exit → Act → World → Prop} {md : Region.Mode} {S : World → Prop} (i : Nat) {oi : Oper} {fuel : Nat} {listed : Array Bool} {a : Act} {w : World} (hS : S w)
    (h : wpAnyH P md l.toArray Q S fuel (listed.setIfInBounds i true) (a.put oi.dst undef) w) (hi : l[i]? = some oi := by exact rfl) (hs : Region.noSelect l.toArray = true := by kernel_rfl) (hf : Region.free md l.toArray listed i = true := by kernel_rfl) (hr : (Region.ready md l.toArray listed).contains i = true := by kernel_rfl)
    (hQ : ∀ c a w, Q (.panic c) (a.put oi.dst undef) w → Q (.panic c) a w := by exact fun _ _ _ h => h) (hy : YieldsIf P l.toArray S oi undef a := by exact Or.inr ⟨by rfl, rfl⟩) : wpAnyH P md l.toArray Q S (fuel + 1) listed a w :=
  wpAnyH_takeL hi hs hf hr hQ hy hS h
theorem consL {P : Program} {l : List Oper} {Q : Exit → Act → World → Prop} {md : Region.Mode} {S : World → Prop} {fuel : Nat} {listed : Array Bool} {a : Act} {w : World} {i : Nat} {o : Oper} {rs : List Nat} (ho : l[i]? = some o)
    (h : ∀ K' : Act → World → Prop, Shut (∀ a w, S w → (S w → wpAnyH P md l.toArray Q S fuel (listed.setIfInBounds i true) a w) → K' a w) → if Region.wanted o (yielded l.toArray a.tmps) = true then Oper.wp P o a w K' Q else K' (a.put o.dst undef) w)
    (hs : AllReadyH P md l.toArray Q S fuel listed a w rs) : AllReadyH P md l.toArray Q S fuel listed a w (i :: rs) :=
  AllReadyH.cons (by simpa using ho) h hs
end Go.Proofs.YtlmgojlffgkciaaGreat

namespace Go.Proofs.YtlmgojlffgkciaaGreat
open Go.RowKit
set_option maxHeartbeats 400000 in
theorem kindOf_putKind (k t : ByteArray) (q n : Int) (w : World) :
    Calls Tryz.prog 138 #[.agg #[.string k, .int .i64 q, .int .i64 1, .string t, .int .i64 n]] w fun e w' => e = .returned (.iface 203 (.agg #[])) ∧ Below w.heap.size w w' := by
  go_enter Tryz.func138, Tryz.ntmps138
  go_wp2
  go_ret
  exact ⟨rfl, (Below.refl _ _).alloc (Nat.le_refl _) _⟩
set_option maxHeartbeats 400000 in
theorem kindOf_delKind (k t : ByteArray) (q n : Int) (w : World) :
    Calls Tryz.prog 138 #[.agg #[.string k, .int .i64 q, .int .i64 2, .string t, .int .i64 n]] w fun e w' => e = .returned (.iface 204 (.agg #[])) ∧ Below w.heap.size w w' := by
  go_enter Tryz.func138, Tryz.ntmps138
  go_wp2
  go_ret
  exact ⟨rfl, (Below.refl _ _).alloc (Nat.le_refl _) _⟩
set_option maxHeartbeats 400000 in
theorem kindOf_addKind (k t : ByteArray) (q n : Int) (w : World) :
    Calls Tryz.prog 138 #[.agg #[.string k, .int .i64 q, .int .i64 3, .string t, .int .i64 n]] w fun e w' => e = .returned (.iface 205 (.agg #[])) ∧ Below w.heap.size w w' := by
  go_enter Tryz.func138, Tryz.ntmps138
  go_wp2
  go_ret
  exact ⟨rfl, (Below.refl _ _).alloc (Nat.le_refl _) _⟩
set_option maxHeartbeats 400000 in
theorem kindOf_noKind (k t : ByteArray) (q d n : Int) (w : World) (d1 : ¬ d = 1) (d2 : ¬ d = 2) (d3 : ¬ d = 3) :
    Calls Tryz.prog 138 #[.agg #[.string k, .int .i64 q, .int .i64 d, .string t, .int .i64 n]] w fun e w' => e = .returned (.iface 206 (.agg #[])) ∧ Below w.heap.size w w' := by
  have e1 : (d == 1) = false := by simpa using d1
  have e2 : (d == 2) = false := by simpa using d2
  have e3 : (d == 3) = false := by simpa using d3
  go_enter Tryz.func138, Tryz.ntmps138
  go_wp2
  go_ret
  exact ⟨rfl, (Below.refl _ _).alloc (Nat.le_refl _) _⟩
set_option maxHeartbeats 400000 in
theorem fits_putKind (k t : ByteArray) (q n : Int) (w : World) :
    Calls Tryz.prog 262 #[.agg #[], .agg #[.string k, .int .i64 q, .int .i64 1, .string t, .int .i64 n]] w fun e w' => e = .returned (.bool (kindB 1 t n)) ∧ Below w.heap.size w w' := by
  go_enter Tryz.func262, Tryz.ntmps262
  go_wp2
  go_ret
  exact ⟨ret_bool (kindB_1 (t := t) (n := n)).symm, ((Below.refl _ _).alloc (Nat.le_refl _) _).alloc (by simp) _⟩
set_option maxHeartbeats 400000 in
theorem fits_delKind (k t : ByteArray) (q n : Int) (w : World) :
    Calls Tryz.prog 264 #[.agg #[], .agg #[.string k, .int .i64 q, .int .i64 2, .string t, .int .i64 n]] w fun e w' => e = .returned (.bool (kindB 2 t n)) ∧ Below w.heap.size w w' := by
  by_cases t0 : t = ByteArray.empty
  · subst t0
    by_cases n0 : n = 0
    · subst n0
      go_enter Tryz.func264, Tryz.ntmps264
      go_wp2
      all_goals
        go_ret
        exact ⟨ret_bool (by rw [kindB_2]; rfl), ((Below.refl _ _).alloc (Nat.le_refl _) _).alloc (by simp) _⟩
    · have n1 : (n == 0) = false := by simpa using n0
      go_enter Tryz.func264, Tryz.ntmps264
      go_wp2
      all_goals
        go_ret
        exact ⟨ret_bool (by rw [kindB_2]; simp [n0]), ((Below.refl _ _).alloc (Nat.le_refl _) _).alloc (by simp) _⟩
  · have t1 := size_pos_of_ne t0
    have t2 := toList_ne t0
    go_enter Tryz.func264, Tryz.ntmps264
    go_wp2
    all_goals
      go_ret
      exact ⟨ret_bool (by rw [kindB_2]; simp [t1]), ((Below.refl _ _).alloc (Nat.le_refl _) _).alloc (by simp) _⟩
set_option maxHeartbeats 400000 in
theorem fits_addKind (k t : ByteArray) (q n : Int) (w : World) :
    Calls Tryz.prog 266 #[.agg #[], .agg #[.string k, .int .i64 q, .int .i64 3, .string t, .int .i64 n]] w fun e w' => e = .returned (.bool (kindB 3 t n)) ∧ Below w.heap.size w w' := by
  by_cases t0 : t = ByteArray.empty
  · subst t0
    go_enter Tryz.func266, Tryz.ntmps266
    go_wp2
    all_goals
      go_ret
      exact ⟨ret_bool (by rw [kindB_3]; rfl), ((Below.refl _ _).alloc (Nat.le_refl _) _).alloc (by simp) _⟩
  · have t1 := size_pos_of_ne t0
    have t2 := toList_ne t0
    go_enter Tryz.func266, Tryz.ntmps266
    go_wp2
    all_goals
      go_ret
      exact ⟨ret_bool (by rw [kindB_3]; simp [t1, t2]), ((Below.refl _ _).alloc (Nat.le_refl _) _).alloc (by simp) _⟩
set_option maxHeartbeats 400000 in
theorem fits_noKind (k t : ByteArray) (q d n : Int) (w : World) (d1 : ¬ d = 1) (d2 : ¬ d = 2) (d3 : ¬ d = 3) :
    Calls Tryz.prog 268 #[.agg #[], .agg #[.string k, .int .i64 q, .int .i64 d, .string t, .int .i64 n]] w fun e w' => e = .returned (.bool (kindB d t n)) ∧ Below w.heap.size w w' := by
  go_enter Tryz.func268, Tryz.ntmps268
  go_wp2
  go_ret
  exact ⟨ret_bool (kindB_0 d1 d2 d3).symm, ((Below.refl _ _).alloc (Nat.le_refl _) _).alloc (by simp) _⟩
end Go.Proofs.YtlmgojlffgkciaaGreat
