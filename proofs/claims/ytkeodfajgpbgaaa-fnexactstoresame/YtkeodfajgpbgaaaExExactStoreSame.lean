/-
  For every two stores the law FnExactStoreSame answers true: the program's StoreSame answers as the document's at every argument. Conditions: none beyond the row's own.
-/
import Derived.Test.YtkeodfajgpbgaaaRows
import Derived.Test.YtkeodfajgpbgaaaWExactStoreSame
import Derived.WalkKit
import Derived.ProofKit
import Derived.OpenShut
import Derived.ShutString
import Derived.ChangeOld
import Derived.Below
import Derived.Lib.SmallJoins
namespace Go.Proofs.Ytkeodfajgpbgaaa
namespace fnExactStoreSameDone
open Go.ChangeShapes Go.WideShapes Go.ChangeAt Go.RowKit
open Go.ChangeMaps (open_string shut_string)
set_option linter.unusedVariables false

theorem own : ownKnob Try.prog.godebug = none := by kernel_rfl
theorem laidOut : laidOutB Try.prog = true := by kernel_rfl


set_option maxRecDepth 100000 in
theorem lifted (os : Os) (started : os.Started) (H : Type) (enc : TypeId × Value → H) :
    ReturnsInHanded {} Try.checked os 5 .any (Rows.fnExactStoreSameSpec.pre6 enc Try.prog Try.f5 Rows.fnExactStoreSameRow.domain false) (Rows.fnExactStoreSameSpec.post enc Try.prog Try.f5 false true false false) := by
  refine returnsInHanded_of_change (C := Try.checked) own started (by kernel_rfl) Try.func5
    (ChangeSpec.witness6 (enc := enc) (C := Try.checked) false ⟨#[], #[.agg #[.bool false, .int .i64 0, .slice none 0 0, .slice none 0 0, .slice none 0 0, .string ByteArray.empty, .int .i64 0, .slice none 0 0, .int .i64 0], .agg #[.bool false, .int .i64 0, .slice none 0 0, .slice none 0 0, .slice none 0 0, .string ByteArray.empty, .int .i64 0, .slice none 0 0, .int .i64 0]], []⟩ 8 (by kernel_rfl) (by kernel_rfl) (by kernel_rfl) (by kernel_rfl)) ?_
  intro W base args ds gs before hval0 hW hcnd _
  have hval : ∀ (j : Nat) t v, Try.f5.params[j]? = some t → args[j]? = some v → Value.okWide Try.prog W .any base t v := hval0
  have hW' := hW
  obtain ⟨p, q, hA0, hV, rfl, hfz, hnd⟩ := hW
  have hA : DataW.TrodAll enc Try.prog W 0 (fun _ => true) true Try.f5.params.toList args.toList ds p := hA0
  rw [Try.params5] at hA hval
  obtain ⟨v0, vs0, d0, ds0, p0, q0, hargs, rfl, rfl, h0, r0⟩ := trodAll_cons hA
  obtain ⟨v1, vs1, d1, ds1, p1, q1, rfl, rfl, rfl, h1, r1⟩ := trodAll_cons r0
  obtain ⟨rfl, rfl, rfl⟩ := trodAll_nil r1
  obtain rfl : args = #[v0, v1] := by cases args; simp_all
  obtain ⟨rfl, rfl⟩ := trodVars_none hV
  have lt0 : ∀ x ∈ p0, x.block < W.heap.size := by obtain ⟨m, hm⟩ := h0; exact DataW.trod_lt m _ _ _ hm
  have lt1 : ∀ x ∈ p1, x.block < W.heap.size := by obtain ⟨m, hm⟩ := h1; exact DataW.trod_lt m _ _ _ hm
  have k0 := h0
  obtain ⟨upv0, qv0, mv0, nmv0, cmv0, vv0, nvv0, cvv0, kv0, nsv0, csv0, lgv0, sfv0, dv0, ndv0, cdv0, sdv0, Mv0, Vv0, Sv0, Uv0, rfl, w0⟩ := open_store (hval 0 47 v0 rfl rfl) h0
  have k1 := h1
  obtain ⟨upv1, qv1, mv1, nmv1, cmv1, vv1, nvv1, cvv1, kv1, nsv1, csv1, lgv1, sfv1, dv1, ndv1, cdv1, sdv1, Mv1, Vv1, Sv1, Uv1, rfl, w1⟩ := open_store (hval 1 47 v1 rfl rfl) h1
  clear hA0 hval0
  refine (walkFnExactStoreSame upv0 qv0 mv0 nmv0 cmv0 vv0 nvv0 cvv0 kv0 nsv0 csv0 lgv0 sfv0 dv0 ndv0 cdv0 sdv0 Mv0 Vv0 Sv0 Uv0 upv1 qv1 mv1 nmv1 cmv1 vv1 nvv1 cvv1 kv1 nsv1 csv1 lgv1 sfv1 dv1 ndv1 cdv1 sdv1 Mv1 Vv1 Sv1 Uv1 W w0 w1).mono fun e W' ⟨he, bel⟩ => ?_
  subst he
  exact ⟨_, rfl, _, _, _, [], _, [], hW', trodAll_mk1 (shut_bool Try.underlying4 _), (trodAll_cons_mk (Below.trod laidOut (by kernel_rfl) (of_decide_eq_true (by kernel_rfl)) k0 bel lt0) (trodAll_cons_mk (Below.trod laidOut (by kernel_rfl) (of_decide_eq_true (by kernel_rfl)) k1 bel lt1) trodAll_mk0)), rfl, bel.frame _, fun h => by cases h⟩

theorem facts : joinedFacts Try.pinned.checked.prog 5 Try.f5 Rows.fnExactStoreSameSpec Rows.fnExactStoreSameRow = true := by kernel_rfl
theorem named : Try.pinned.checked.prog.funcNamed Rows.fnExactStoreSameRow.func = some 5 := by kernel_rfl
theorem inst : Try.f5.isInstance Try.pinned.checked.prog Rows.fnExactStoreSameRow.origin Rows.fnExactStoreSameRow.targs := of_decide_eq_true (by kernel_rfl)
theorem wrap : Try.f5.isWrapper Try.pinned.checked.prog Rows.fnExactStoreSameRow.wrapper Rows.fnExactStoreSameRow.mainSum := by unfold Func.isWrapper; first | (rw [if_pos (by decide +kernel)]; kernel_rfl) | (rw [if_neg (by decide +kernel)]; exact ⟨rfl, rfl⟩)
theorem over : Rows.fnExactStoreSameRow.holds Try.pinned (OpenSpec.ofChange Rows.fnExactStoreSameSpec) :=
  OpenClaim.holds_of_wide 5 Try.f5 rfl rfl rfl rfl rfl rfl rfl ⟨rfl, rfl, rfl, rfl, rfl⟩ rfl rfl rfl rfl rfl named Try.func5 facts inst wrap
    (fun os started H enc _ => lifted os started H enc)
end fnExactStoreSameDone

theorem fnExactStoreSame_holds : Rows.FnExactStoreSameSaid := fnExactStoreSameDone.over
#print axioms fnExactStoreSame_holds
end Go.Proofs.Ytkeodfajgpbgaaa
