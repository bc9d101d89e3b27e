/-
  What the program's PostTo answers at every posting, account and currency, by a walk of its Go text.
-/
import Derived.Test.YtfblpbihpmhgjaaDoorBp28
import Derived.Maps.OwnOps
namespace Go.Proofs.YtfblpbihpmhgjaaDoor
open Go.RowKit

set_option maxHeartbeats 800000 in
theorem implTo (id cur : Int) (acct : ByteArray) (a : Option Addr) (len cap : Nat) (L : List LegD) (w : World) (hL : LegsAt w a len cap L) (hs : acct.size ≤ maxLen) :
    Calls Tryd.prog 145 #[.agg #[.int .i64 id, .slice a len cap], .string acct, .int .i64 cur] w fun e w' => e = .returned (.int .i64 (atY (yieldsOf id L cur) acct.data.toList)) ∧ Below w.heap.size w w' := by
  have hkey := Go.WideMaps.keyOf_string_mk (k := 9) Tryd.underlying9 hs
  have hL1 : LegsAt (w.alloc (.cells #[.int .i64 id, .slice a len cap] 29)) a len cap L := hL.keep ((Below.refl _ _).alloc (Nat.le_refl _) _)
  clear hL
  go_enter Tryd.func145, Tryd.ntmps145
  go_wp2_with (first
    | (go_at_call 163; refine (callsIn_wide.1 (sumsOf_in _ _ _ _ _ L _ hL1)).mono ?_; rintro e w1 ⟨rfl, ⟨D, hM, hown⟩, hb1⟩; simp only [World.size_alloc] at hown)
    | (at_lookup; refine wpList_lookup_own_int _ rfl _ _ 210 rfl 9 3 .i64 (Maps.string_keyed Tryd.underlying9) Tryd.underlying210 Tryd.underlying3 (Tryd.zeroValue3 _) _ (yieldsOf id L cur).length _ rfl hown _ _ rfl hkey ?_; intro c hat hwc))
  go_ret
  refine ⟨ret_int ?_, ((Below.refl _ _).alloc (Nat.le_refl _) _).trans (hb1.mono (by simp))⟩
  have := (hM.at acct.data.toList).symm.trans hat
  simpa using this.symm
end Go.Proofs.YtfblpbihpmhgjaaDoor
