/-
  The library's heap.Fix at the first of a heap, at the program's heads, by a walk of its Go text.
-/
import Derived.Test.YtlmgojlffgkciaaGreatGaXMgU
import Derived.Test.YtlmgojlffgkciaaGreatGaXMgD
namespace Go.Proofs.YtlmgojlffgkciaaGreat
open Go.RowKit
set_option maxRecDepth 100000
set_option maxHeartbeats 4000000
theorem heapFix (base BH g n c : Nat) (X0 : List StrD) (H0 : List (List EntD × Nat)) (w : World) (hn : n ≤ 1048576) (hn0 : 0 < n) (hS : HpSt w base BH g n c X0 H0) (hD : Mg.DownI (Mg.lessS lessE) n H0 0) (hLv : ∀ h ∈ H0, h.1 ≠ []) :
    Calls Tryz.prog 110 #[.iface 134 (.pointer (some ⟨BH, 0, none⟩)), .int .i64 0] w fun e w' => e = .returned (.tuple #[]) ∧ (∃ X H, HpSt w' base BH g n c X H ∧ H.Perm H0 ∧ X.Perm X0 ∧ Mg.HeapTo (Mg.lessS lessE) n H) ∧ w.grownBy w' (some g) := by
  have hm := hmLen BH g n c w hS.box
  have CN := headsLen (some ⟨g, 0, none⟩) n c w
  have CD := heapDown base BH g n n c 0 X0 H0 w hn (Nat.le_refl _) hn0 hS hD (LiveTo.of hLv)
  have HLV : Hid (∀ h ∈ H0, h.1 ≠ []) := hLv
  clear hS hD hLv
  go_enter Tryz.func110, Tryz.ntmps110
  go_wp2_with fail
  refine CN.mono ?_
  rintro e w1 ⟨rfl, rfl⟩
  go_wp2_with fail
  refine CD.mono ?_
  rintro e w2 ⟨⟨b, rfl⟩, ⟨X, H, hS2, hP, hQ, _, hH⟩, hg2⟩
  have HS2 : Hid (HpSt w2 base BH g n c X H) := hS2
  have HP : Hid (H.Perm H0) := hP
  have HQ : Hid (X.Perm X0) := hQ
  have HH : Hid (Mg.HeapTo (Mg.lessS lessE) n H) := hH
  have HG2 : Hid (w1.grownBy w2 (some g)) := hg2
  clear hS2 hP hQ hH hg2 CN CD hm
  cases b with
  | true =>
    go_wp2
    go_end0
    exact ⟨rfl, ⟨X, H, HS2.out, HP.out, HQ.out, HH.out⟩, HG2.out⟩
  | false =>
    have CU := heapUp base BH g n c 0 X H w2 hn hn0 HS2.out (Mg.down_up HH.out) (fun h hh => HLV.out h (HP.out.mem_iff.1 hh))
    go_wp2_with fail
    refine CU.mono ?_
    rintro e w3 ⟨rfl, ⟨X', H', hS3, hP3, hQ3, hH3⟩, hg3⟩
    have HS3 : Hid (HpSt w3 base BH g n c X' H') := hS3
    have HP3 : Hid (H'.Perm H0) := hP3.trans HP.out
    have HQ3 : Hid (X'.Perm X0) := hQ3.trans HQ.out
    have HH3 : Hid (Mg.HeapTo (Mg.lessS lessE) n H') := hH3
    have HG3 : Hid (w1.grownBy w3 (some g)) := HG2.out.trans hg3
    clear hS3 hP3 hQ3 hH3 hg3 CU
    go_wp2
    go_end0
    exact ⟨rfl, ⟨X', H', HS3.out, HP3.out, HQ3.out, HH3.out⟩, HG3.out⟩
end Go.Proofs.YtlmgojlffgkciaaGreat
