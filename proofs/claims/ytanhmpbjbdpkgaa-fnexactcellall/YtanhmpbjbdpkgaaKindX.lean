/-
  What the kind of an entry does to a cell, whatever kind it is, as the program's calls through its interface come to it.
-/
import Derived.Test.YtanhmpbjbdpkgaaCellI
import Derived.Test.YtanhmpbjbdpkgaaCellS
namespace Go.Proofs.Ytanhmpbjbdpkgaa
open Go.RowKit

set_option maxRecDepth 100000 in
theorem kind_any (b : Bool) (t k t' : ByteArray) (n q d n' : Int) : ∃ T F : Nat,
    (∀ w, Calls Try.prog 52 #[.agg #[.string k, .int .i64 q, .int .i64 d, .string t', .int .i64 n']] w fun e w' => e = .returned (.iface T (.agg #[])) ∧ Below w.heap.size w w') ∧
    (∀ w : World, (method 322 T (.agg #[]) "loop.example/comptoir/impl.do").run Try.prog w = .ok (F, .agg #[]) w) ∧
    (∀ (args : Array Value) (w : World), (callFunc F args).run Try.prog w = .ok (.enter F args) w) ∧
    (∀ w, Calls Try.prog F #[.agg #[], .agg #[.bool b, .string t, .int .i64 n], .agg #[.string k, .int .i64 q, .int .i64 d, .string t', .int .i64 n']] w fun e w' => e = .returned (cellV (cellN b t n d t' n')) ∧ Below w.heap.size w w') := by
  by_cases d1 : d = 1
  · subst d1
    exact ⟨119, 195, fun w => kindOf_putKind k t' q n' w, fun _ => by kernel_rfl, enters_of Try.func195 (by kernel_rfl) rfl, fun w => by rw [cellN_1]; exact do_putKind b t k t' n q 1 n' w⟩
  by_cases d2 : d = 2
  · subst d2
    exact ⟨120, 197, fun w => kindOf_delKind k t' q n' w, fun _ => by kernel_rfl, enters_of Try.func197 (by kernel_rfl) rfl, fun w => by rw [cellN_2]; exact do_delKind b t k t' n q 2 n' w⟩
  by_cases d3 : d = 3
  · subst d3
    exact ⟨121, 199, fun w => kindOf_addKind k t' q n' w, fun _ => by kernel_rfl, enters_of Try.func199 (by kernel_rfl) rfl, fun w => by rw [cellN_3]; exact do_addKind b t k t' n q 3 n' w⟩
  exact ⟨122, 201, fun w => kindOf_noKind k t' q d n' w d1 d2 d3, fun _ => by kernel_rfl, enters_of Try.func201 (by kernel_rfl) rfl, fun w => by rw [cellN_0 d1 d2 d3]; exact do_noKind b t k t' n q d n' w⟩
end Go.Proofs.Ytanhmpbjbdpkgaa
