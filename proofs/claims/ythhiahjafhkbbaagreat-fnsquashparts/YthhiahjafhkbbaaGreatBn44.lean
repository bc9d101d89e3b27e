/-
  What the document's l4Sort makes of entries, by a walk of its Go text.
  Bytes that came in: how they lie.
  Bytes that came in, opened.
-/
import Derived.Test.YthhiahjafhkbbaaGreatBn31
import Derived.Test.YthhiahjafhkbbaaGreatBn03
import Derived.Lib.SmallJoins
import Derived.OpenShut
import Derived.ChangeSlices
namespace Go.Proofs.YthhiahjafhkbbaaGreat
open Go.RowKit

set_option maxRecDepth 100000 in
set_option maxHeartbeats 4000000 in
theorem specSort (a : Option Addr) (len cap : Nat) (L : List EntD) (w : World) (hL : EntsAt w a len cap L) (hlen : len ≤ 1048576) :
    Calls Tryz.prog 74 #[.slice a len cap] w fun e w' => ∃ g c, e = .returned (.slice (some ⟨g, 0, none⟩) len c) ∧ OwnE w' w.heap.size g len c (sortE L) ∧ Below w.heap.size w w' := by
  have HLEN : Hid (L.length = len) := hL.length
  have hbl := hL.room
  have hbc := hL.big
  unfold maxLen at hbc
  have HL : Hid (EntsAt w a len cap L) := hL
  clear hL
  have hO0 : OwnE (w.alloc (.cells #[] 30)) w.heap.size w.heap.size 0 0 (sortE (L.take 0)) := own_empty w _ (Nat.le_refl _)
  have HO0 : Hid (OwnE (w.alloc (.cells #[] 30)) w.heap.size w.heap.size 0 0 (sortE (L.take 0))) := hO0
  have hB0 : Below w.heap.size w (w.alloc (.cells #[] 30)) := (Below.refl _ _).alloc (Nat.le_refl _) _
  clear hO0
  go_enter Tryz.func74, Tryz.ntmps74
  go_wp2
  go_loopw [3, 4] (fun ov iv wr => ∃ (k g c : Nat), k ≤ len ∧ iv = .int .i64 k ∧ ov = .slice (some ⟨g, 0, none⟩) k c ∧ OwnE wr w.heap.size g k c (sortE (L.take k)) ∧ Below w.heap.size w wr) (fun _ iv _ => len - (intOf iv).toNat)
  case atStart => exact ⟨0, w.heap.size, 0, Nat.zero_le _, rfl, rfl, HO0.out, hB0⟩
  case round =>
    obtain ⟨k, g, c, hk, rfl, rfl, hO, hb⟩ := hrel
    have HO : Hid (OwnE wr w.heap.size g k c (sortE (L.take k))) := hO
    clear hO
    by_cases hlt : k < len
    · obtain ⟨b, off, rfl, hbb⟩ := HL.out.form (by omega)
      obtain ⟨s, q, d, t, n, hg, hlw, g0, g1, g2, g3, g4⟩ := HL.out.ent hb hbb k hlt
      have HG : Hid (L[k]? = some (s, q, d, t, n)) := hg
      have HLW : Hid (EntW (s, q, d, t, n)) := hlw
      have hbr : b < wr.heap.size := Nat.lt_of_lt_of_le hbb hb.size
      clear hg hlw
      go_wp2_with fail
      refine (specPut g k c (sortE (L.take k)) s t q d n _ HO.out.entsAt HO.out.lt.2 (by omega) HLW.out).mono ?_
      rintro e w1 ⟨g1', c1, rfl, hO1, hb1⟩
      have HO1 : Hid (OwnE w1 w.heap.size g1' (k + 1) c1 (sortE (L.take (k + 1)))) := by
        show OwnE w1 w.heap.size g1' (k + 1) c1 (sortE (L.take (k + 1)))
        rw [sortE_snoc HG.out]
        exact hO1.mono hb.size
      clear hO1
      go_wp2
      go_roundw
      case rel => exact ⟨k + 1, g1', c1, by omega, by go_num, rfl, HO1.out, hb.trans (hb1.mono hb.size)⟩
      case measure => simp [intOf]; omega
    · have hkl : k = len := by omega
      subst hkl
      go_wp2
      go_ret
      refine ⟨g, c, rfl, ?_, hb⟩
      have := HO.out
      rw [List.take_of_length_le (by rw [HLEN.out]; omega)] at this
      exact this
end Go.Proofs.YthhiahjafhkbbaaGreat

namespace Go.Proofs.YthhiahjafhkbbaaGreat
open Go.RowKit

/-- The bytes that came in. -/
def BytesAt (w : World) (a : Option Addr) (len cap : Nat) : Prop := len ≤ cap ∧ cap ≤ maxLen ∧ (len = 0 ∨ ∃ b off, a = some ⟨b, off, none⟩ ∧ b < w.heap.size ∧ ∀ i, i < len → ∃ z : Nat, z ≤ 255 ∧ w.cell? ⟨b, off + i, none⟩ = some (.int .u8 z))

theorem BytesAt.keep {w w' : World} {a : Option Addr} {len cap : Nat} (h : BytesAt w a len cap) (hb : Below w.heap.size w w') : BytesAt w' a len cap := by
  obtain ⟨h1, h2, h3⟩ := h
  refine ⟨h1, h2, ?_⟩
  rcases h3 with e | ⟨b, off, ha, hlt, hc⟩
  · exact Or.inl e
  · exact Or.inr ⟨b, off, ha, Nat.lt_of_lt_of_le hlt hb.size, fun i hi => by obtain ⟨z, hz, hcc⟩ := hc i hi; exact ⟨z, hz, cell_later hb hcc⟩⟩

end Go.Proofs.YthhiahjafhkbbaaGreat

namespace Go.Proofs.YthhiahjafhkbbaaGreat
open Go.RowKit Go.Joins Go.ChangeShapes Go.WideShapes Go.ChangeAt

theorem Tryz.cellsU8 : Tryz.prog.cellsOf 5 = 1 := by kernel_rfl

set_option maxRecDepth 100000 in
theorem open_bytes {H : Type} {enc : TypeId × Value → H} {W : World} {b0 base : Nat} {v : Value} {d : DataW H} {p : List MemPlace} {held : Bool}
    (hv : Value.okWide Tryz.prog W .any b0 22 v) (h : DataW.Trod enc Tryz.prog W base (fun _ => true) held 22 v d p) :
    ∃ (a : Option Addr) (len cap : Nat), v = .slice a len cap ∧ BytesAt W a len cap := by
  obtain ⟨a1, len, cap, rfl⟩ := okWide_slice Tryz.underlying22 hv
  obtain ⟨fuel, hf⟩ := h
  rcases Go.ChangeShapes.open_ints Tryz.underlying22 Tryz.underlying5 Tryz.cellsU8 hf with ⟨hcs, hx⟩ | ⟨a, len', cap', zs, hcs, _, hl, hm, hz, hx, hcell, hwz⟩
  · simp [Value.cells] at hcs
    obtain ⟨rfl, rfl, rfl⟩ := hcs
    exact ⟨none, 0, 0, rfl, Nat.le_refl _, Nat.zero_le _, Or.inl rfl⟩
  · simp [Value.cells] at hcs
    obtain ⟨rfl, rfl, rfl⟩ := hcs
    simp only [if_true] at hz
    refine ⟨some a, len, cap, rfl, hl, hm, ?_⟩
    by_cases h0 : len = 0
    · exact Or.inl h0
    right
    obtain ⟨ab, ao, spot⟩ := a
    have hspot : spot = none := by simpa [Addr.add] using World.cell?_spot (hcell 0 (by omega))
    subst hspot
    refine ⟨ab, ao, rfl, ?_, fun i hi => ?_⟩
    · have := World.block_lt_of_cell? _ _ (hcell 0 (by omega))
      simpa [Addr.add] using this
    · have hc := hcell i (by omega)
      rw [Addr.add_lit] at hc
      have hm' : zs.getD i 0 ∈ zs := by
        have hi' : i < zs.length := by omega
        rw [List.getD_eq_getElem?_getD, List.getElem?_eq_getElem hi']
        exact List.getElem_mem hi'
      have hb := bounds_u8 (hwz _ hm')
      obtain ⟨z, hz'⟩ := Int.eq_ofNat_of_zero_le hb.1
      rw [hz'] at hc hb
      exact ⟨z, by omega, hc⟩
end Go.Proofs.YthhiahjafhkbbaaGreat
