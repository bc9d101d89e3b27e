/-
  The document's l5Stamp: what it answers at every list of entries, by a walk of its Go text.
-/
import Derived.Laws.AppendOwnNone
import Derived.Test.YtlmgojlffgkciaaGreatGaXStP
import Derived.Test.YtlmgojlffgkciaaGreatGa09
import Derived.Test.YtlmgojlffgkciaaGreatGa18
namespace Go.Proofs.YtlmgojlffgkciaaGreat
open Go.RowKit
set_option maxRecDepth 100000
set_option maxHeartbeats 8000000
theorem specStamp (a : Option Addr) (n c : Nat) (K : List EntD) (q : Int) (w : World) (hK : EntsAt w a n c K) (hn : n ≤ 1048576) (hq0 : 0 ≤ q) (hq1 : q ≤ 100000) :
    Calls Tryz.prog 93 #[.slice a n c, .int .i64 q] w fun e w' => StampS q K n w e w' := by
  have HK : Hid (EntsAt w a n c K) := hK
  have HKL : Hid (K.length = n) := hK.length
  clear hK
  obtain ⟨i0, hi, hz0, hz1, hz2⟩ := info_parts Tryz.infoEnt
  have HE0 : Hid ((w.alloc (.cells #[] 78)).ownsRow w.heap.size 78 5 (.slice (some ⟨w.heap.size, 0, none⟩) 0 0) 0 (flatE (stL q (K.take 0)))) := by
    have := World.ownsRow_lit (base := w.heap.size) (e := 78) (size := 5) w #[] 0 (Nat.le_refl _) (by simp) (by simp)
    show World.ownsRow _ _ _ _ _ _ _
    simpa [stL, flatE] using this
  have hB0 : Below w.heap.size w (w.alloc (.cells #[] 78)) := (Below.refl _ _).alloc (Nat.le_refl _) _
  go_enter Tryz.func93, Tryz.ntmps93
  go_wp2
  go_loopw [6, 7] (fun vv iv wr => ∃ i : Nat, i ≤ n ∧ iv = .int .i64 i ∧ (∃ g c', vv = .slice (some ⟨g, 0, none⟩) i c') ∧ wr.ownsRow w.heap.size 78 5 vv i (flatE (stL q (K.take i))) ∧ (∀ l ∈ stL q (K.take i), EntW l) ∧ (∀ j, j < i → stAt q K j = true) ∧ Below w.heap.size w wr) (fun _ iv _ => n - (intOf iv).toNat)
  case atStart => exact ⟨0, Nat.zero_le _, rfl, ⟨_, _, rfl⟩, HE0.out, (by simp [stL]), (fun j hj => absurd hj (Nat.not_lt_zero _)), hB0⟩
  case round =>
    clear HE0 hB0
    obtain ⟨i, hin, rfl, ⟨gv, cv, rfl⟩, hv, hw, hst, hb⟩ := hrel
    have HV : Hid (wr.ownsRow w.heap.size 78 5 (.slice (some ⟨gv, 0, none⟩) i cv) i (flatE (stL q (K.take i)))) := hv
    have HW : Hid (∀ l ∈ stL q (K.take i), EntW l) := hw
    have HST : Hid (∀ j, j < i → stAt q K j = true) := hst
    have HB : Hid (Below w.heap.size w wr) := hb
    have hbz := hb.size
    clear hv hw hst
    by_cases hlt : i < n
    · have hltI : (i : Int) < (n : Int) := by omega
      obtain ⟨b, off, rfl, hbb⟩ := HK.out.form (by omega)
      obtain ⟨s, q0, d, t, m, hg, hlw, g0, g1, g2, g3, g4⟩ := HK.out.ent hb hbb i hlt
      have HG : Hid (K[i]? = some (s, q0, d, t, m)) := hg
      have HLW : Hid (EntW (s, q0, d, t, m)) := hlw
      have hbr : b < wr.heap.size := Nat.lt_of_lt_of_le hbb hb.size
      clear hg hlw hb
      by_cases h0 : q0 = 0
      · subst h0
        have e1 : IntKind.i64.wrap (q + 1) = q + 1 := by rw [IntWalk.i64_left]; unfold wrap64; omega
        have e2 : IntKind.i64.wrap (q + 1 + (i : Int)) = q + 1 + (i : Int) := by rw [IntWalk.i64_left]; unfold wrap64; omega
        obtain ⟨Q, hQ⟩ : ∃ Q : Int, Q = q + 1 + (i : Int) := ⟨_, rfl⟩
        have HQ : Hid (Q = q + 1 + (i : Int)) := hQ
        obtain ⟨wq, hwq⟩ : ∃ wq, wq = wr.alloc (.cells #[.string s, .int .i64 (q + 1 + (i : Int)), .int .i64 d, .string t, .int .i64 m] 78) := ⟨_, rfl⟩
        obtain ⟨Bx, hBx⟩ : ∃ Bx, Bx = wr.heap.size := ⟨_, rfl⟩
        have kq : Below wr.heap.size wr wq := by rw [hwq]; exact (Below.refl _ _).alloc (Nat.le_refl _) _
        have b5 : wq.cell? ⟨Bx, 0, none⟩ = some (.string s) ∧ wq.cell? ⟨Bx, 1, none⟩ = some (.int .i64 Q) ∧ wq.cell? ⟨Bx, 2, none⟩ = some (.int .i64 d) ∧ wq.cell? ⟨Bx, 3, none⟩ = some (.string t) ∧ wq.cell? ⟨Bx, 4, none⟩ = some (.int .i64 m) ∧ Bx < wq.heap.size := by
          rw [hwq, hBx, hQ]
          refine ⟨?_, ?_, ?_, ?_, ?_, ?_⟩ <;> simp
        have B5 : Hid (wq.cell? ⟨Bx, 0, none⟩ = some (.string s) ∧ wq.cell? ⟨Bx, 1, none⟩ = some (.int .i64 Q) ∧ wq.cell? ⟨Bx, 2, none⟩ = some (.int .i64 d) ∧ wq.cell? ⟨Bx, 3, none⟩ = some (.string t) ∧ wq.cell? ⟨Bx, 4, none⟩ = some (.int .i64 m) ∧ Bx < wq.heap.size) := b5
        obtain ⟨O, hO⟩ : ∃ O, O = entB s Q d t m := ⟨_, rfl⟩
        have CE : Hid (Calls Tryz.prog 114 #[.agg #[.string s, .int .i64 Q, .int .i64 d, .string t, .int .i64 m]] wq fun e w' => e = .returned (.bool O) ∧ Below wq.heap.size wq w') := by rw [hO]; exact specEnt s t Q d m wq HLW.out.1 HLW.out.2.2.2.1
        have HOA : Hid (stAt q K i = O) := by
          show stAt q K i = O
          rw [st_at HG.out rfl, hO, hQ]
        have HBQ : Hid (Below w.heap.size w wq) := HB.out.trans (kq.mono HB.out.size)
        have HVQ : Hid (wq.ownsRow w.heap.size 78 5 (.slice (some ⟨gv, 0, none⟩) i cv) i (flatE (stL q (K.take i)))) := row_stays HV.out kq
        have HWE : Hid (EntW (s, Q, d, t, m)) := ⟨HLW.out.1, (by rw [hQ]; exact WalkArith.wf_i64 (by omega) : (Lit.int .i64 Q).wf = true), HLW.out.2.2⟩
        clear kq b5 hO
        go_upto_region 9 with fail
        rw [← hwq]
        try rw [← hBx]
        try rw [← hQ]
        clear hwq hBx hQ
        obtain ⟨y0, y1, y2, y3, y4, yz⟩ := B5.out
        go_wp2_with fail
        clear y0 y1 y2 y3 y4 yz g0 g1 g2 g3 g4
        refine CE.out.mono ?_
        rintro e w1 ⟨rfl, hb1⟩
        have HB1 : Hid (Below w.heap.size w w1) := HBQ.out.trans (hb1.mono HBQ.out.size)
        have HV1 : Hid (w1.ownsRow w.heap.size 78 5 (.slice (some ⟨gv, 0, none⟩) i cv) i (flatE (stL q (K.take i)))) := row_stays HVQ.out hb1
        obtain ⟨y0, y1, y2, y3, y4, yz⟩ := B5.out
        have y0 := cell_later hb1 y0
        have y1 := cell_later hb1 y1
        have y2 := cell_later hb1 y2
        have y3 := cell_later hb1 y3
        have y4 := cell_later hb1 y4
        have yz := Nat.lt_of_lt_of_le yz hb1.size
        have hb1z := HB1.out.size
        clear hb1
        cases O with
        | false =>
          have HNO : Hid (stampB q K = false) := stamp_no (i := i) (by rw [HKL.out]; exact hlt) HOA.out
          go_wp2
          exact bodyPost_ret (v := .tuple #[.slice (some ⟨gv, 0, none⟩) i cv, .bool false]) (by simp [results, Tryz.results93, go_sem]) rfl (show StampS q K _ w _ _ from ⟨_, _, rfl, (fun h => by rw [HNO.out] at h; cases h), fun _ => ⟨rfl, ⟨_, _, _, rfl⟩⟩, HB1.out⟩)
        | true =>
          have hcn : ∀ j u, [Value.string s, .int .i64 Q, .int .i64 d, .string t, .int .i64 m][j]? = some u → (w1.alloc (.cells #[.string s, .int .i64 Q, .int .i64 d, .string t, .int .i64 m] 78)).cell? ((⟨w1.heap.size, 0, none⟩ : Addr).add j) = some u := cell_five_new w1 s Q d t m
          have HCN : Hid _ := hcn
          have ka : Below w1.heap.size w1 (w1.alloc (.cells #[.string s, .int .i64 Q, .int .i64 d, .string t, .int .i64 m] 78)) := (Below.refl _ _).alloc (Nat.le_refl _) _
          have HVA : Hid ((w1.alloc (.cells #[.string s, .int .i64 Q, .int .i64 d, .string t, .int .i64 m] 78)).ownsRow w.heap.size 78 5 (.slice (some ⟨gv, 0, none⟩) i cv) i (flatE (stL q (K.take i)))) := row_stays HV1.out ka
          have HBA : Hid (Below w.heap.size w (w1.alloc (.cells #[.string s, .int .i64 Q, .int .i64 d, .string t, .int .i64 m] 78))) := HB1.out.trans (ka.mono HB1.out.size)
          clear hcn ka
          go_wp2_with (at_builtin; refine wpList_append_own _ rfl _ _ 28 rfl w.heap.size 78 i0 _ 5 56 Tryz.underlying28 hi hz0 hz1 hz2 rfl (by decide) _ _ _ rfl HVA.out ⟨w1.heap.size, 0, none⟩ 1 1 [.string s, .int .i64 Q, .int .i64 d, .string t, .int .i64 m] rfl rfl HCN.out (by intro u hu; simp at hu; rcases hu with rfl | rfl | rfl | rfl | rfl <;> rfl) (by unfold maxLen; omega) (by omega) HBA.out.size ?_; intro v2 w2 hown2 hgrow2 hnil2; obtain ⟨g2, c2, rfl⟩ := row_some hown2 hnil2)
          go_roundw
          case rel =>
            have e3 : stL q (K.take (i + 1)) = stL q (K.take i) ++ [(s, Q, d, t, m)] := by
              rw [stL_take HG.out, HQ.out]
              rfl
            refine ⟨i + 1, by omega, by go_num, ⟨_, _, rfl⟩, ?_, ?_, ?_, ?_⟩
            · rw [e3, flatE_append]
              exact hown2
            · rw [e3]
              intro l hl
              rcases List.mem_append.1 hl with h | h
              · exact HW.out l h
              · rw [List.mem_singleton] at h; subst h; exact HWE.out
            · intro j hj
              by_cases hji : j < i
              · exact HST.out j hji
              · rw [show j = i by omega]; exact HOA.out
            · exact HBA.out.grown hgrow2 HBA.out.size (fun k e => (HVA.out.lt k e).1)
          case measure => simp [intOf]; omega
      · have HNO : Hid (stampB q K = false) := stamp_no (i := i) (by rw [HKL.out]; exact hlt) (st_no0 HG.out h0)
        have h0b : (q0 == 0) = false := by simpa using h0
        have h0d : decide (q0 = 0) = false := decide_eq_false h0
        have HBN : Hid (Below w.heap.size w (wr.alloc (.cells #[.string s, .int .i64 q0, .int .i64 d, .string t, .int .i64 m] 78))) := HB.out.alloc HB.out.size _
        go_wp2
        exact bodyPost_ret (v := .tuple #[.slice (some ⟨gv, 0, none⟩) i cv, .bool false]) (by simp [results, Tryz.results93, go_sem]) rfl (show StampS q K _ w _ _ from ⟨_, _, rfl, (fun h => by rw [HNO.out] at h; cases h), fun _ => ⟨rfl, ⟨_, _, _, rfl⟩⟩, HBN.out⟩)
    · have hltI : ¬ (i : Int) < (n : Int) := by omega
      obtain rfl : i = n := by omega
      have HYES : Hid (stampB q K = true) := stamp_yes HKL.out HST.out
      have HFIN := HV.out
      rw [List.take_of_length_le (by rw [HKL.out]; omega)] at HFIN
      have hwl := HW.out
      rw [List.take_of_length_le (by rw [HKL.out]; omega)] at hwl
      have hsl : (stL q K).length = i := by rw [stL_len, HKL.out]
      have HRES : Hid (OwnE wr w.heap.size gv i cv (stL q K)) := ⟨HFIN, hsl, hwl⟩
      clear HFIN hwl hsl
      by_cases h1 : 1 ≤ i
      · have h1I : (i : Int) ≥ 1 := by omega
        by_cases h12 : i ≤ 12
        · have h12I : (i : Int) ≤ 12 := by omega
          go_wp2
          exact bodyPost_ret (v := .tuple #[.slice (some ⟨gv, 0, none⟩) i cv, .bool true]) (by simp [results, Tryz.results93, go_sem]) rfl (show StampS q K _ w _ _ from ⟨_, _, rfl, (fun _ => ⟨⟨gv, cv, rfl, HRES.out⟩, by simp [h1, h12]⟩), (fun h => by rw [HYES.out] at h; cases h), HB.out⟩)
        · have h12I : ¬ (i : Int) ≤ 12 := by omega
          go_wp2
          exact bodyPost_ret (v := .tuple #[.slice (some ⟨gv, 0, none⟩) i cv, .bool false]) (by simp [results, Tryz.results93, go_sem]) rfl (show StampS q K _ w _ _ from ⟨_, _, rfl, (fun _ => ⟨⟨gv, cv, rfl, HRES.out⟩, by simp [h1, h12]⟩), (fun h => by rw [HYES.out] at h; cases h), HB.out⟩)
      · have h1I : ¬ (i : Int) ≥ 1 := by omega
        go_wp2
        exact bodyPost_ret (v := .tuple #[.slice (some ⟨gv, 0, none⟩) i cv, .bool false]) (by simp [results, Tryz.results93, go_sem]) rfl (show StampS q K _ w _ _ from ⟨_, _, rfl, (fun _ => ⟨⟨gv, cv, rfl, HRES.out⟩, by simp [h1]⟩), (fun h => by rw [HYES.out] at h; cases h), HB.out⟩)
end Go.Proofs.YtlmgojlffgkciaaGreat
