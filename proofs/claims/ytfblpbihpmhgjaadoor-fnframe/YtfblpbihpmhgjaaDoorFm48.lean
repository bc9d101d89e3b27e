/-
  The document's draw of a log, by a walk of its Go text.
  Bytes that came in: how they lie.
  Bytes that came in, opened.
-/
import Derived.Test.YtfblpbihpmhgjaaDoorFm47
import Derived.Test.YtfblpbihpmhgjaaDoorFm04
import Derived.Deep.RegionLaw
import Derived.Test.YtfblpbihpmhgjaaDoorFm09
import Derived.Lib.SmallJoins
import Derived.OpenShut
import Derived.ChangeSlices
namespace Go.Proofs.YtfblpbihpmhgjaaDoor
open Go.RowKit

theorem jq_le {k q T : Nat} (hk : k < T) (hq : q ≤ 1) : (k : Int) + (q : Int) ≤ (T : Int) := by omega
theorem jz_le {k T z : Nat} (hk : k < T) (hz : z ≤ 1) (hT : T ≤ 9000) : ¬ 9223372036854775807 < min k T + z := by omega
theorem jq_wr {k q T : Nat} (hk : k < T) (hq : q ≤ 1) (hT : T ≤ 9000) : IntKind.i64.wrap ((k : Int) + (q : Int)) = (k : Int) + (q : Int) := by rw [IntWalk.i64_left]; unfold wrap64; omega
theorem jzT {k T z : Nat} (hk : k < T) (hz : z ≤ 1) (hT : T ≤ 9000) (m : Nat) : ¬ 9223372036854775807 < min k T + z + (T - m) := by omega
theorem jq_0 (k q : Nat) : 0 ≤ (k : Int) + (q : Int) := by omega
/-- A text of one byte, or none. -/
def OneB (s : ByteArray) : Prop := s.size ≤ 1
theorem frameB_size (L : List EntD) : (frameB L).size ≤ 2000 := by
  cases hd : doneB L with
  | false => rw [frameB_isno hd]; decide
  | true =>
    have h1 := frameB_is hd
    have h2 := congrArg List.length h1
    rw [bytes_len] at h2
    have h3 := entsT_small hd
    have h4 := Lib.itoa_length_le ((entsT L).length : Int) (by omega) (by omega)
    rw [h2, frameT, List.length_append, List.length_cons, List.length_append]
    simp
    omega

set_option maxHeartbeats 4000000 in
set_option maxRecDepth 100000 in
theorem drawFR (a : Option Addr) (len cap : Nat) (w : World) (hl : len ≤ cap) (hcap : cap ≤ maxLen) (hb : len = 0 ∨ ∃ b off, a = some ⟨b, off, none⟩ ∧ b < w.heap.size ∧ ∀ i, i < len → ∃ z : Nat, z ≤ 255 ∧ w.cell? ⟨b, off + i, none⟩ = some (.int .u8 z)) :
    Calls Tryd.prog 37 #[.slice a len cap] w fun e w' => (∃ s : ByteArray, e = .returned (.string s) ∧ s.size ≤ 10000) ∧ Below w.heap.size w w' := by
  go_enter Tryd.func37, Tryd.ntmps37
  go_wp2_with fail
  refine (l9Open_any a len cap _ hl hcap hb).mono ?_
  rintro e w1 ⟨len', rfl, hR1, hb1, hz1⟩
  obtain ⟨R, hR⟩ : ∃ R, R = w.heap.size := ⟨_, rfl⟩
  have HRW : Hid (R = w.heap.size) := hR
  rw [← hR] at hR1 ⊢
  have HZ1 : Hid (w1.heap.size = w.heap.size + 1) := hz1
  have HB1 : Hid (Below w.heap.size w w1) := hb1
  clear hR hz1 hb1 hb
  go_wp2_with fail
  refine (pick_any R 0 a len' cap 4 _ hR1 (by omega) (by omega)).mono ?_
  rintro e w2 ⟨q, rfl, hq, hR2, hg2⟩
  have hq4 : 0 ≤ q ∧ q < 4 := ⟨hq.1, hq.2 (by omega)⟩
  obtain ⟨N, rfl⟩ := Int.eq_ofNat_of_zero_le hq4.1
  have HB2 : Hid (Below w.heap.size w w2) := below_rd HB1.out hg2 (by have := HRW.out; omega)
  have HR2 : Hid (RdAt w2 R a len' cap (0 + 1)) := hR2
  clear hq hR2 hg2 hR1
  go_wp2
  go_loopw [4, 5] (fun ov iv wr => ∃ (i P : Nat) (T : ByteArray), ov = .string T ∧ iv = .int .i64 (i : Int) ∧ i ≤ N ∧ T.size ≤ 2000 * (N - i) ∧ P ≤ 1 + 300 * (N - i) ∧ RdAt wr R a len' cap P ∧ Below w.heap.size w wr) (fun _ iv _ => (intOf iv).toNat)
  case atStart => exact ⟨N, 1, ⟨#[]⟩, rfl, rfl, Nat.le_refl _, Nat.zero_le _, by omega, HR2.out, HB2.out⟩
  case round =>
    clear HR2 HB2
    obtain ⟨i, P, T, rfl, rfl, hiN, hTs, hPs, hRW, hB⟩ := hrel
    have HB : Hid (Below w.heap.size w wr) := hB
    have HZ : Hid (R < wr.heap.size) := hRW.lt
    clear hB
    by_cases hlt : 0 < i
    · have hltI : (i : Int) > 0 := by omega
      have hwi : IntKind.i64.wrap ((i : Int) - 1) = (i : Int) - 1 := by rw [IntWalk.i64_left]; unfold wrap64; omega
      go_wp2_with fail
      refine (l5Batch_any R P a len' cap _ hRW (by omega)).mono ?_
      rintro e w3 ⟨gb, nb, cb, P3, Mb, rfl, hOb, hFb, hnb, hR3, hP3, hg3⟩
      have HB3 : Hid (Below w.heap.size w w3) := below_rd HB.out hg3 (by have := HRW.out; omega)
      have HOb : Hid (OwnE w3 wr.heap.size gb nb cb Mb) := hOb
      have HFb : Hid (FewL Mb) := hFb
      clear hOb hFb hg3 hRW
      go_wp2_with fail
      refine (pick_any R P3 a len' cap 20 _ hR3 (by omega) (by omega)).mono ?_
      rintro e w4 ⟨qs, rfl, hqs, hR4, hg4⟩
      have hq20 : 0 ≤ qs ∧ qs < 20 := ⟨hqs.1, hqs.2 (by omega)⟩
      have HB4 : Hid (Below w.heap.size w w4) := below_rd HB3.out hg4 (by have := HRW.out; omega)
      have HO4 : Hid (OwnE w4 wr.heap.size gb nb cb Mb) := HOb.out.grown hg4 (fun e => by have h1 := HOb.out.lt.1; have h2 := Option.some.inj e; have h3 := HZ.out; omega)
      have HR4 : Hid (RdAt w4 R a len' cap (P3 + 1)) := hR4
      clear hqs hR4 hg4 hR3 HOb HB3
      go_wp2_with fail
      refine (stamp_any _ nb cb Mb qs _ HO4.out.entsAt (by omega) HFb.out hq20.1 (by omega)).mono ?_
      rintro e w5 ⟨g, n, c, M, bb, rfl, hO5, hF5, hn5, hb5⟩
      have HB5 : Hid (Below w.heap.size w w5) := HB4.out.trans (hb5.mono HB4.out.size)
      have HO5 : Hid (OwnE w5 w4.heap.size g n c M) := hO5
      have HR5 : Hid (RdAt w5 R a len' cap (P3 + 1)) := HR4.out.below hb5
      clear hO5 hF5 hb5 HO4 HR4 HB4
      go_wp2_with fail
      refine (specFrame _ n c M _ HO5.out.entsAt).mono ?_
      rintro e w6 ⟨rfl, hb6⟩
      obtain ⟨F, hF⟩ : ∃ F, F = frameB M := ⟨_, rfl⟩
      have hFs : F.size ≤ 2000 := by rw [hF]; exact frameB_size M
      rw [← hF]
      have HB6 : Hid (Below w.heap.size w w6) := HB5.out.trans (hb6.mono HB5.out.size)
      have HR6 : Hid (RdAt w6 R a len' cap (P3 + 1)) := HR5.out.below hb6
      have hcat : ¬ 9223372036854775807 < T.size + F.size := by omega
      clear hb6 hF
      go_wp2
      go_roundw
      case rel => exact ⟨i - 1, P3 + 1, T ++ F, rfl, by rw [show ((i - 1 : Nat) : Int) = (i : Int) - 1 by omega], by omega, by rw [ByteArray.size_append]; omega, by omega, HR6.out, HB6.out⟩
      case measure => simp [intOf]; omega
    · have hltI : ¬ (i : Int) > 0 := by omega
      have hT9 : T.size ≤ 9000 := by omega
      have hP9 : P ≤ 1000 := by omega
      clear hTs hPs
      by_cases hT0 : T.size = 0
      · have hT0b : ((T.size : Int) == 0) = true := by simp [hT0]
        have hT0I : (T.size : Int) = 0 := by omega
        have HT0 : Hid (T.size ≤ 10000) := by show _ ≤ _; omega
        clear hT0
        go_wp2
        go_ret
        exact ⟨⟨T, rfl, HT0.out⟩, HB.out⟩
      · have hT0b : ((T.size : Int) == 0) = false := by simpa using hT0
        go_wp2_with fail
        refine (pick_any R P a len' cap 2 _ hRW (by omega) (by omega)).mono ?_
        rintro e w4 ⟨q4, rfl, hq4', r4, g4⟩
        have HB4 : Hid (Below w.heap.size w w4) := below_rd HB.out g4 (by have := HRW.out; omega)
        clear hRW g4 hq4'
        by_cases hc : q4 = 0
        · subst hc
          go_wp2
          go_ret
          exact ⟨⟨T, rfl, by omega⟩, HB4.out⟩
        · have hf : (q4 == 0) = false := by simpa using hc
          go_wp2_with fail
          refine (pick_any R (P + 1) a len' cap _ _ r4 (by omega) (by omega)).mono ?_
          rintro e w5 ⟨q5, rfl, hq5, r5, g5⟩
          obtain ⟨k, rfl⟩ := Int.eq_ofNat_of_zero_le hq5.1
          have hk : k < T.size := by have := hq5.2 (by omega); omega
          have HB5 : Hid (Below w.heap.size w w5) := below_rd HB4.out g5 (by have := HRW.out; omega)
          clear r4 g5 hq5
          have kd : Below w5.heap.size w5 (w5.drew.alloc (.cells (([⟨#[]⟩, ⟨#[48]⟩, ⟨#[32]⟩, ⟨#[120]⟩, ⟨#[57]⟩, ⟨#[10]⟩] : List ByteArray).map Value.string).toArray 9)) := ((Below.refl _ _).drew).alloc (Nat.le_refl _) _
          have rd := r5.below kd
          have HBd : Hid (Below w.heap.size w (w5.drew.alloc (.cells (([⟨#[]⟩, ⟨#[48]⟩, ⟨#[32]⟩, ⟨#[120]⟩, ⟨#[57]⟩, ⟨#[10]⟩] : List ByteArray).map Value.string).toArray 9))) := HB5.out.trans (kd.mono HB5.out.size)
          have hR5 := r5.lt
          have CO : Hid (Calls Tryd.prog 79 #[.pointer (some ⟨R, 0, none⟩), .slice (some ⟨w5.heap.size, 0, none⟩) 6 6] (w5.drew.alloc (.cells (([⟨#[]⟩, ⟨#[48]⟩, ⟨#[32]⟩, ⟨#[120]⟩, ⟨#[57]⟩, ⟨#[10]⟩] : List ByteArray).map Value.string).toArray 9)) fun e w' => ∃ z : ByteArray, e = .returned (.string z) ∧ OneB z ∧ RdAt w' R a len' cap (P + 1 + 1 + 1) ∧ Below w.heap.size w w') := by
            refine (of_any OneB R (P + 1 + 1) a len' cap w5.heap.size 0 6 6 _ rd (by omega) (by omega) (by omega) (by omega) (by show w5.heap.size < (w5.heap.push _).size; rw [Array.size_push]; exact Nat.lt_succ_self _) (strs_new w5.drew 9 [⟨#[]⟩, ⟨#[48]⟩, ⟨#[32]⟩, ⟨#[120]⟩, ⟨#[57]⟩, ⟨#[10]⟩] OneB ?_)).mono ?_
            · intro s hs
              simp only [List.mem_cons, List.not_mem_nil, or_false] at hs
              rcases hs with rfl | rfl | rfl | rfl | rfl | rfl <;> (unfold OneB; decide)
            · rintro e w' ⟨z, rfl, hz, hr, hg⟩
              exact ⟨z, rfl, hz, hr, below_rd HBd.out hg (by have := HRW.out; omega)⟩
          have CP : Hid (∀ w6, RdAt w6 R a len' cap (P + 1 + 1 + 1) ∧ Below w.heap.size w w6 → Calls Tryd.prog 78 #[.pointer (some ⟨R, 0, none⟩), .int .i64 2] w6 fun e w' => ∃ q : Nat, e = .returned (.int .i64 (q : Int)) ∧ q ≤ 1 ∧ Below w.heap.size w w') := by
            intro w6 h6
            refine (pick_any R (P + 1 + 1 + 1) a len' cap 2 _ h6.1 (by omega) (by omega)).mono ?_
            rintro e w' ⟨q, rfl, hq, _, hg⟩
            obtain ⟨j, rfl⟩ := Int.eq_ofNat_of_zero_le hq.1
            exact ⟨j, rfl, by have := hq.2 (by omega); omega, below_rd h6.2 hg (by have := HRW.out; omega)⟩
          clear rd kd r5 HBd HB5
          have hkI : (k : Int) ≤ (T.size : Int) := by omega
          go_wp2_with fail
          go_region_law (first
            | (go_simp; go_at_call 79; refine CO.out.mono ?_; rintro e w6 ⟨z, rfl, hz, hX⟩; have HX : Hid (RdAt w6 R a len' cap (P + 1 + 1 + 1) ∧ Below w.heap.size w w6) := hX; clear hX; unfold OneB at hz; have hm1 : ¬ 9223372036854775807 < min k T.size + z.size := jz_le hk hz hT9)
            | (go_simp; go_at_call 78; refine (CP.out _ HX.out).mono ?_; rintro e w7 ⟨q, rfl, hq1, hG⟩; have HG : Hid (Below w.heap.size w w7) := hG; clear hG; have hkq : (k : Int) + (q : Int) ≤ (T.size : Int) := jq_le hk hq1; have hkq0 : 0 ≤ (k : Int) + (q : Int) := jq_0 k q; have hwr : IntKind.i64.wrap ((k : Int) + (q : Int)) = (k : Int) + (q : Int) := jq_wr hk hq1 hT9; have hm2 : ¬ 9223372036854775807 < min k T.size + z.size + (T.size - ((k : Int) + (q : Int)).toNat) := jzT hk hz hT9 _))
          all_goals
            have hfin : (T.extract 0 k ++ z ++ T.extract ((k : Int) + (q : Int)).toNat T.size).size ≤ 10000 := by
              simp only [ByteArray.size_append, ByteArray.size_extract]
              omega
            go_wp2
            go_ret
            exact ⟨⟨_, rfl, hfin⟩, HG.out⟩

end Go.Proofs.YtfblpbihpmhgjaaDoor

namespace Go.Proofs.YtfblpbihpmhgjaaDoor
open Go.RowKit

/-- The bytes that came in. -/
def BytesAt (w : World) (a : Option Addr) (len cap : Nat) : Prop := len ≤ cap ∧ cap ≤ maxLen ∧ (len = 0 ∨ ∃ b off, a = some ⟨b, off, none⟩ ∧ b < w.heap.size ∧ ∀ i, i < len → ∃ z : Nat, z ≤ 255 ∧ w.cell? ⟨b, off + i, none⟩ = some (.int .u8 z))

theorem BytesAt.keep {w w' : World} {a : Option Addr} {len cap : Nat} (h : BytesAt w a len cap) (hb : Below w.heap.size w w') : BytesAt w' a len cap := by
  obtain ⟨h1, h2, h3⟩ := h
  refine ⟨h1, h2, ?_⟩
  rcases h3 with e | ⟨b, off, ha, hlt, hc⟩
  · exact Or.inl e
  · exact Or.inr ⟨b, off, ha, Nat.lt_of_lt_of_le hlt hb.size, fun i hi => by obtain ⟨z, hz, hcc⟩ := hc i hi; exact ⟨z, hz, cell_later hb hcc⟩⟩

end Go.Proofs.YtfblpbihpmhgjaaDoor

namespace Go.Proofs.YtfblpbihpmhgjaaDoor
open Go.RowKit Go.Joins Go.ChangeShapes Go.WideShapes Go.ChangeAt

theorem Tryd.cellsU8 : Tryd.prog.cellsOf 5 = 1 := by kernel_rfl

set_option maxRecDepth 100000 in
theorem open_bytes {H : Type} {enc : TypeId × Value → H} {W : World} {b0 base : Nat} {v : Value} {d : DataW H} {p : List MemPlace} {held : Bool}
    (hv : Value.okWide Tryd.prog W .any b0 49 v) (h : DataW.Trod enc Tryd.prog W base (fun _ => true) held 49 v d p) :
    ∃ (a : Option Addr) (len cap : Nat), v = .slice a len cap ∧ BytesAt W a len cap := by
  obtain ⟨a1, len, cap, rfl⟩ := okWide_slice Tryd.underlying49 hv
  obtain ⟨fuel, hf⟩ := h
  rcases Go.ChangeShapes.open_ints Tryd.underlying49 Tryd.underlying5 Tryd.cellsU8 hf with ⟨hcs, hx⟩ | ⟨a, len', cap', zs, hcs, _, hl, hm, hz, hx, hcell, hwz⟩
  · simp [Value.cells] at hcs
    obtain ⟨rfl, rfl, rfl⟩ := hcs
    exact ⟨none, 0, 0, rfl, Nat.le_refl _, Nat.zero_le _, Or.inl rfl⟩
  · simp [Value.cells] at hcs
    obtain ⟨rfl, rfl, rfl⟩ := hcs
    simp only [if_true] at hz
    refine ⟨some a, len, cap, rfl, hl, hm, ?_⟩
    by_cases h0 : len = 0
    · exact Or.inl h0
    right
    obtain ⟨ab, ao, spot⟩ := a
    have hspot : spot = none := by simpa [Addr.add] using World.cell?_spot (hcell 0 (by omega))
    subst hspot
    refine ⟨ab, ao, rfl, ?_, fun i hi => ?_⟩
    · have := World.block_lt_of_cell? _ _ (hcell 0 (by omega))
      simpa [Addr.add] using this
    · have hc := hcell i (by omega)
      rw [Addr.add_lit] at hc
      have hm' : zs.getD i 0 ∈ zs := by
        have hi' : i < zs.length := by omega
        rw [List.getD_eq_getElem?_getD, List.getElem?_eq_getElem hi']
        exact List.getElem_mem hi'
      have hb := bounds_u8 (hwz _ hm')
      obtain ⟨z, hz'⟩ := Int.eq_ofNat_of_zero_le hb.1
      rw [hz'] at hc hb
      exact ⟨z, by omega, hc⟩
end Go.Proofs.YtfblpbihpmhgjaaDoor
