/-
  What the program's open tells of a store that is down, by a walk of its Go text.
  When two entries are the same to the model's own operator; no statement of the program stands here.
  What the program's RunSame (and the library's slices.Equal on entries) answer at every two runs, by walks of their Go text.
  What the document's RunSame answers at every two runs, by walks of its Go text.
-/
import Derived.Test.YtapjkbpfhmbfaaaGreatDoorSo40
import Derived.Deep.QuietTactic
import Derived.Deep.LoopGhost
import Derived.BigQuiet
import Derived.Test.YtapjkbpfhmbfaaaGreatDoorSo02
import Derived.Test.YtapjkbpfhmbfaaaGreatDoorSo06
namespace Go.Proofs.YtapjkbpfhmbfaaaGreatDoor
open Go.RowKit
set_option maxRecDepth 100000
set_option maxHeartbeats 8000000
def OpE (lg : ByteArray) (sd : Int) (d0 d1 d2 : Value) (w : World) (e : Ending) (w' : World) : Prop := ∃ (P : List (List EntD)) (k g N : Nat) (T : ByteArray), Whole lg.data.toList P k ∧ N = (P.map (lateL sd)).flatten.length ∧ T = ⟨(txP (leftP sd P)).toArray⟩ ∧ e = .returned (.agg #[.bool true, .int .i64 (lastQ sd P), .slice (some ⟨g, 0, none⟩) N N, d0, d1, d2, .slice none 0 0, .string T, .int .i64 (T.size : Int), d0, d1, d2, .int .i64 sd]) ∧ EntsAt w' (some ⟨g, 0, none⟩) N N (sortE (P.map (lateL sd)).flatten) ∧ Below w.heap.size w w'
theorem implOpen (t0 t1 t2 t3 t4 t5 : Value) (lg : ByteArray) (sf sd : Int) (d0 d1 d2 : Option Addr) (m0 e0 m1 e1 m2 e2 : Nat) (w : World) (hlg : lg.size ≤ 1048576) (hE : ErrB w.heap.size w) (hT : TabB w.heap.size w) :
    Calls Tryz.prog 57 #[.agg #[.bool false, t0, t1, t2, t3, t4, t5, .string lg, .int .i64 sf, .slice d0 m0 e0, .slice d1 m1 e1, .slice d2 m2 e2, .int .i64 sd]] w (OpE lg sd (.slice d0 m0 e0) (.slice d1 m1 e1) (.slice d2 m2 e2) w) := by
  obtain ⟨X, hX⟩ := ex' w.heap.size
  obtain ⟨W, hW⟩ := ex' ((w.alloc (.cells #[.bool false, t0, t1, t2, t3, t4, t5, .string lg, .int .i64 sf, .slice d0 m0 e0, .slice d1 m1 e1, .slice d2 m2 e2, .int .i64 sd] 71)).alloc (.cells #[.bool false, .int .i64 0, .slice none 0 0, .slice none 0 0, .slice none 0 0, .slice none 0 0, .slice none 0 0, .string ⟨#[]⟩, .int .i64 0, .slice none 0 0, .slice none 0 0, .slice none 0 0, .int .i64 0] 71))
  have kW : Below w.heap.size w W := by rw [hW]; exact ((Below.refl _ _).alloc (Nat.le_refl _) _).alloc (by simp) _
  have bx : Box13 W X (.bool false) t0 t1 t2 t3 t4 t5 (.string lg) (.int .i64 sf) (.slice d0 m0 e0) (.slice d1 m1 e1) (.slice d2 m2 e2) (.int .i64 sd) := by rw [hW, hX]; exact (Box13.new _ _ _ _ _ _ _ _ _ _ _ _ _ _ _).alloc _
  have br : Box13 W (X + 1) (.bool false) (.int .i64 0) (.slice none 0 0) (.slice none 0 0) (.slice none 0 0) (.slice none 0 0) (.slice none 0 0) (.string ⟨#[]⟩) (.int .i64 0) (.slice none 0 0) (.slice none 0 0) (.slice none 0 0) (.int .i64 0) := by
    have := Box13.new (w.alloc (.cells #[.bool false, t0, t1, t2, t3, t4, t5, .string lg, .int .i64 sf, .slice d0 m0 e0, .slice d1 m1 e1, .slice d2 m2 e2, .int .i64 sd] 71)) 71 (.bool false) (.int .i64 0) (.slice none 0 0) (.slice none 0 0) (.slice none 0 0) (.slice none 0 0) (.slice none 0 0) (.string ⟨#[]⟩) (.int .i64 0) (.slice none 0 0) (.slice none 0 0) (.slice none 0 0) (.int .i64 0)
    rw [World.size_alloc] at this
    rw [hW, hX]
    exact this
  have HXW := hiD hX
  have HBX := hiD bx
  have HBR := hiD br
  have HKW := hiD kW
  have CR := implReadBack lg sf sd d0 d1 d2 m0 e0 m1 e1 m2 e2 W hlg (fun w' kk => hE w' (kW.trans (kk.mono kW.size))) (fun w' kk => hT w' (kW.trans (kk.mono kW.size)))
  have c0 := bx.c0
  have c7 := bx.c7
  have c8 := bx.c8
  have c9 := bx.c9
  have c10 := bx.c10
  have c11 := bx.c11
  have c12 := bx.c12
  have cz := bx.lt
  clear kW bx br hE hT
  go_enter Tryz.func57, Tryz.ntmps57
  go_upto_region 1 with fail
  rw [← hX, ← hW]
  clear hX hW
  go_wp2_with fail
  refine CR.mono ?_
  rintro e w1 ⟨P, k, g, N, hwh, hN, rfl, hEn, hb1⟩
  have HWH := hiD hwh
  have HN := hiD hN
  have HE1 := hiD hEn
  have HB1 := hiD hb1
  clear hwh hN hEn hb1 CR c0 c7 c8 c9 c10 c11 c12 cz
  go_upto_region 4 with fail
  obtain ⟨T, hTT⟩ : ∃ T : ByteArray, T = ⟨(txP (leftP sd P)).toArray⟩ := ⟨_, rfl⟩
  have HTT := hiD hTT
  obtain ⟨LQ, hLQ⟩ := ex' (lastQ sd P)
  have HLQ := hiD hLQ
  rw [← hTT, ← hLQ]
  obtain ⟨w2, hw2⟩ := ex' (w1.alloc (.cells #[.int .i64 LQ, .slice (some ⟨g, 0, none⟩) N N, .slice d0 m0 e0, .slice d1 m1 e1, .slice d2 m2 e2, .slice none 0 0] 67))
  obtain ⟨Y, hY⟩ := ex' w1.heap.size
  have k2 : Below w1.heap.size w1 w2 := by rw [hw2]; exact (Below.refl _ _).alloc (Nat.le_refl _) _
  have HK2 : Hid (Below W.heap.size W w2) := HB1.out.trans (k2.mono HB1.out.size)
  have by2 : Box6 w2 Y (.int .i64 LQ) (.slice (some ⟨g, 0, none⟩) N N) (.slice d0 m0 e0) (.slice d1 m1 e1) (.slice d2 m2 e2) (.slice none 0 0) := by rw [hw2, hY]; exact Box6.new _ _ _ _ _ _ _ _
  have HBY := hiD by2
  have HE2 := hiD (HE1.out.keep k2)
  have hyx : Y ≠ X + 1 := by
    have h1 := HBR.out.lt
    have h2 := HB1.out.size
    omega
  have HYX := hiD hyx
  have HXL := hiD (HBX.out.keep HK2.out)
  have HRL := hiD (HBR.out.keep HK2.out)
  have HMK : Hid (∀ w', Below w2.heap.size w2 w' → (w'.cell? ⟨Y, 0, none⟩ = some (.int .i64 LQ) ∧ w'.cell? ⟨Y, 1, none⟩ = some (.slice (some ⟨g, 0, none⟩) N N) ∧ w'.cell? ⟨Y, 2, none⟩ = some (.slice d0 m0 e0) ∧ w'.cell? ⟨Y, 3, none⟩ = some (.slice d1 m1 e1) ∧ w'.cell? ⟨Y, 4, none⟩ = some (.slice d2 m2 e2) ∧ w'.cell? ⟨Y, 5, none⟩ = some (.slice none 0 0) ∧ w'.cell? ⟨X, 7, none⟩ = some (.string lg) ∧ w'.cell? ⟨X, 8, none⟩ = some (.int .i64 sf) ∧ w'.cell? ⟨X, 9, none⟩ = some (.slice d0 m0 e0) ∧ w'.cell? ⟨X, 10, none⟩ = some (.slice d1 m1 e1) ∧ w'.cell? ⟨X, 11, none⟩ = some (.slice d2 m2 e2) ∧ w'.cell? ⟨X, 12, none⟩ = some (.int .i64 sd) ∧ Y < w'.heap.size ∧ X < w'.heap.size)) := fun w' k => ⟨cell_later k by2.c0, cell_later k by2.c1, cell_later k by2.c2, cell_later k by2.c3, cell_later k by2.c4, cell_later k by2.c5, cell_later k HXL.out.c7, cell_later k HXL.out.c8, cell_later k HXL.out.c9, cell_later k HXL.out.c10, cell_later k HXL.out.c11, cell_later k HXL.out.c12, Nat.lt_of_lt_of_le by2.lt k.size, Nat.lt_of_lt_of_le HXL.out.lt k.size⟩
  rw [← hw2, ← hY]
  have k0 : Below w2.heap.size w2 w2.drew := (Below.refl _ w2).drew
  clear hw2 hY k2 by2 hyx hTT hLQ HE1
  refine drw HMK k0 fun hHeld => ?_
  generalize w2.drew = wd at k0 hHeld ⊢
  refine tkr 0 4 hHeld ?_
  refine rd1 4 fun K hK => ?_
  go_simp
  refine (logsAnew_any T wd).mono ?_
  rintro e w3 ⟨b, rfl, hcb, hb3⟩
  have K3 : Hid (Below w2.heap.size w2 w3) := k0.trans (hb3.mono k0.size)
  have HCB := hiD hcb
  clear hcb hb3
  go_wp2_with fail
  refine hK.out _ _ (HMK.out _ K3.out) (fun hHeld => ?_)
  clear hK K
  (try go_frame)
  refine rd1 5 fun K hK => ?_
  go_simp
  have k4 : Below w3.heap.size w3 (w3.alloc (.cells #[.func (.func 157) #[] #[.pointer (some ⟨b, 0, none⟩)]] 129)) := (Below.refl _ _).alloc (Nat.le_refl _) _
  have K4 := hiD (K3.out.trans (k4.mono K3.out.size))
  have HCR : Hid ((w3.alloc (.cells #[.func (.func 157) #[] #[.pointer (some ⟨b, 0, none⟩)]] 129)).cell? ⟨w3.heap.size, 0, none⟩ = some (.func (.func 157) #[] #[.pointer (some ⟨b, 0, none⟩)])) := by show _ = _; simp
  have HCB4 := hiD (cell_later k4 HCB.out)
  refine hK.out _ _ (HMK.out _ K4.out) (fun hHeld => ?_)
  clear hK K
  (try go_frame)
  generalize w3.alloc (.cells #[.func (.func 157) #[] #[.pointer (some ⟨b, 0, none⟩)]] 129) = w4 at k4 K4 HCR HCB4 hHeld ⊢
  generalize w3.heap.size = r at HCR ⊢
  clear k4 HCB
  refine rd1 6 fun K hK => ?_
  go_simp
  refine (after_one r b T lg (.int .i64 sf) d0 d1 d2 m0 e0 m1 e1 m2 e2 sd w4 HCB4.out HCR.out).mono ?_
  rintro e w5 ⟨rfl, hb5⟩
  have K5 : Hid (Below w2.heap.size w2 w5) := K4.out.trans (hb5.mono K4.out.size)
  clear hb5
  go_wp2_with fail
  refine hK.out _ _ (HMK.out _ K5.out) (fun hHeld => ?_)
  clear hK K
  (try go_frame)
  refine tkr 7 1 hHeld ?_
  have hr := HRL.out.keep K5.out
  have r0 := hr.c0
  have r1 := hr.c1
  have r2 := hr.c2
  have r3 := hr.c3
  have r4 := hr.c4
  have r5 := hr.c5
  have r6 := hr.c6
  have r7 := hr.c7
  have r8 := hr.c8
  have r9 := hr.c9
  have r10 := hr.c10
  have r11 := hr.c11
  have r12 := hr.c12
  have rf := hr.fz
  have rz := hr.lt
  refine rd1 8 fun K hK => ?_
  go_simp
  have hne : X ≠ X + 1 := by omega
  have hyx := HYX.out
  have HE5 := hiD (HE2.out.keep K5.out)
  have hxg : ∀ x, (some ⟨g, 0, none⟩ : Option Addr) = some x → 0 < N → x.block ≠ X + 1 := by
    intro x ex hN0 hx
    cases ex
    have hx' : g = X + 1 := hx
    subst hx'
    obtain ⟨es, eq, ed, et, en, _, _, e0', _⟩ := HE5.out.ent (Below.refl _ w5) hr.lt 0 hN0
    have e1 : w5.cell? ⟨X + 1, 0, none⟩ = some (.string es) := by simpa using e0'
    rw [r0] at e1
    cases e1
  obtain ⟨wz, hwz⟩ : ∃ wz, wz = (((((((((((((w5.setCell ⟨X + 1, 0, none⟩ (.bool true)).setCell ⟨X + 1, 1, none⟩ (.int .i64 LQ)).setCell ⟨X + 1, 2, none⟩ (.slice (some ⟨g, 0, none⟩) N N)).setCell ⟨X + 1, 3, none⟩ (.slice d0 m0 e0)).setCell ⟨X + 1, 4, none⟩ (.slice d1 m1 e1)).setCell ⟨X + 1, 5, none⟩ (.slice d2 m2 e2)).setCell ⟨X + 1, 6, none⟩ (.slice none 0 0)).setCell ⟨X + 1, 7, none⟩ (.string T)).setCell ⟨X + 1, 8, none⟩ (.int .i64 (T.size : Int))).setCell ⟨X + 1, 9, none⟩ (.slice d0 m0 e0)).setCell ⟨X + 1, 10, none⟩ (.slice d1 m1 e1)).setCell ⟨X + 1, 11, none⟩ (.slice d2 m2 e2)).setCell ⟨X + 1, 12, none⟩ (.int .i64 sd)) := ⟨_, rfl⟩
  have HEZ : Hid (EntsAt wz (some ⟨g, 0, none⟩) N N (sortE (P.map (lateL sd)).flatten)) := by
    rw [hwz]
    exact ents_sets13 HE5.out hxg (.bool true) (.int .i64 LQ) (.slice (some ⟨g, 0, none⟩) N N) (.slice d0 m0 e0) (.slice d1 m1 e1) (.slice d2 m2 e2) (.slice none 0 0) (.string T) (.int .i64 (T.size : Int)) (.slice d0 m0 e0) (.slice d1 m1 e1) (.slice d2 m2 e2) (.int .i64 sd)
  have HRZ : Hid (Box13 wz (X + 1) (.bool true) (.int .i64 LQ) (.slice (some ⟨g, 0, none⟩) N N) (.slice d0 m0 e0) (.slice d1 m1 e1) (.slice d2 m2 e2) (.slice none 0 0) (.string T) (.int .i64 (T.size : Int)) (.slice d0 m0 e0) (.slice d1 m1 e1) (.slice d2 m2 e2) (.int .i64 sd)) := by rw [hwz]; exact hr.sets (.bool true) (.int .i64 LQ) (.slice (some ⟨g, 0, none⟩) N N) (.slice d0 m0 e0) (.slice d1 m1 e1) (.slice d2 m2 e2) (.slice none 0 0) (.string T) (.int .i64 (T.size : Int)) (.slice d0 m0 e0) (.slice d1 m1 e1) (.slice d2 m2 e2) (.int .i64 sd)
  have HKZ : Hid (Below w.heap.size w wz) := by
    rw [hwz]
    exact below_sets13 (HKW.out.trans (K5.out.mono (Nat.le_refl _) |> fun k => (HK2.out.trans (k.mono HK2.out.size)).mono HKW.out.size)) (by have := HXW.out; omega) (.bool true) (.int .i64 LQ) (.slice (some ⟨g, 0, none⟩) N N) (.slice d0 m0 e0) (.slice d1 m1 e1) (.slice d2 m2 e2) (.slice none 0 0) (.string T) (.int .i64 (T.size : Int)) (.slice d0 m0 e0) (.slice d1 m1 e1) (.slice d2 m2 e2) (.int .i64 sd)
  have hcY : ∀ o, wz.cell? ⟨Y, o, none⟩ = w5.cell? ⟨Y, o, none⟩ := fun o => by rw [hwz]; exact cell_sets13 hyx (.bool true) (.int .i64 LQ) (.slice (some ⟨g, 0, none⟩) N N) (.slice d0 m0 e0) (.slice d1 m1 e1) (.slice d2 m2 e2) (.slice none 0 0) (.string T) (.int .i64 (T.size : Int)) (.slice d0 m0 e0) (.slice d1 m1 e1) (.slice d2 m2 e2) (.int .i64 sd)
  have hcX : ∀ o, wz.cell? ⟨X, o, none⟩ = w5.cell? ⟨X, o, none⟩ := fun o => by rw [hwz]; exact cell_sets13 hne (.bool true) (.int .i64 LQ) (.slice (some ⟨g, 0, none⟩) N N) (.slice d0 m0 e0) (.slice d1 m1 e1) (.slice d2 m2 e2) (.slice none 0 0) (.string T) (.int .i64 (T.size : Int)) (.slice d0 m0 e0) (.slice d1 m1 e1) (.slice d2 m2 e2) (.int .i64 sd)
  have hsz : wz.heap.size = w5.heap.size := by rw [hwz]; exact size_sets13 w5 (X + 1) (.bool true) (.int .i64 LQ) (.slice (some ⟨g, 0, none⟩) N N) (.slice d0 m0 e0) (.slice d1 m1 e1) (.slice d2 m2 e2) (.slice none 0 0) (.string T) (.int .i64 (T.size : Int)) (.slice d0 m0 e0) (.slice d1 m1 e1) (.slice d2 m2 e2) (.int .i64 sd)
  have hS := HMK.out _ K5.out
  rw [← hcY, ← hcY, ← hcY, ← hcY, ← hcY, ← hcY, ← hcX, ← hcX, ← hcX, ← hcX, ← hcX, ← hcX, ← hsz] at hS
  rw [← hwz]
  clear hwz hcY hcX hsz r0 r1 r2 r3 r4 r5 r6 r7 r8 r9 r10 r11 r12 rf rz hr hne hyx hxg
  refine hK.out _ _ hS (fun hHeld => ?_)
  clear hK K
  (try go_frame)
  refine dN ?_
  go_wp2
  refine bodyPost_ret (v := .agg #[.bool true, .int .i64 LQ, .slice (some ⟨g, 0, none⟩) N N, .slice d0 m0 e0, .slice d1 m1 e1, .slice d2 m2 e2, .slice none 0 0, .string T, .int .i64 (T.size : Int), .slice d0 m0 e0, .slice d1 m1 e1, .slice d2 m2 e2, .int .i64 sd]) ?_ rfl ?_
  · have e := HRZ.out
    simp [results, Tryz.results57, go_sem, e.c0, e.c1, e.c2, e.c3, e.c4, e.c5, e.c6, e.c7, e.c8, e.c9, e.c10, e.c11, e.c12]
  · exact ⟨P, k, g, N, T, HWH.out, HN.out, HTT.out, by rw [HLQ.out], HEZ.out, HKZ.out⟩
end Go.Proofs.YtapjkbpfhmbfaaaGreatDoor

namespace Go.Proofs.YtapjkbpfhmbfaaaGreatDoor
open Go.RowKit
set_option maxRecDepth 100000
theorem bytes_ne {s s' : ByteArray} (h : ¬ s = s') : ¬ s.toList = s'.toList := fun e => h (by
  rw [ByteArray.toList_eq, ByteArray.toList_eq] at e
  obtain ⟨⟨x⟩⟩ := s
  obtain ⟨⟨y⟩⟩ := s'
  simpa using e)
theorem neq_ent_same (s t : ByteArray) (q d n : Int) (w : World) : (binOp .neq 87 (.agg #[.string s, .int .i64 q, .int .i64 d, .string t, .int .i64 n]) (.agg #[.string s, .int .i64 q, .int .i64 d, .string t, .int .i64 n])).run Tryz.prog w = .ok (.bool false) w := by
  have hs := run_equalIn_struct (P := Tryz.prog) w 9999 87 #[.string s, .int .i64 q, .int .i64 d, .string t, .int .i64 n] #[.string s, .int .i64 q, .int .i64 d, .string t, .int .i64 n] (by kernel_rfl) (by kernel_rfl)
  simp [binOp, Op.equal, Op.maxDepth, hs, go_sem, Tryz.underlying87]
theorem neq_ent_diff (s t : ByteArray) (q d n : Int) (s' t' : ByteArray) (q' d' n' : Int) (w : World) (h : ¬ ((s, q, d, t, n) : EntD) = (s', q', d', t', n')) : (binOp .neq 87 (.agg #[.string s, .int .i64 q, .int .i64 d, .string t, .int .i64 n]) (.agg #[.string s', .int .i64 q', .int .i64 d', .string t', .int .i64 n'])).run Tryz.prog w = .ok (.bool true) w := by
  have hs := run_equalIn_struct (P := Tryz.prog) w 9999 87 #[.string s, .int .i64 q, .int .i64 d, .string t, .int .i64 n] #[.string s', .int .i64 q', .int .i64 d', .string t', .int .i64 n'] (by kernel_rfl) (by kernel_rfl)
  by_cases h1 : s = s'
  · subst h1
    by_cases h2 : q = q'
    · subst h2
      by_cases h3 : d = d'
      · subst h3
        by_cases h4 : t = t'
        · subst h4
          have h5 : ¬ n = n' := fun e => h (by rw [e])
          simp [binOp, Op.equal, Op.maxDepth, hs, go_sem, Tryz.underlying87, h5]
        · have h4' := bytes_ne h4
          simp [binOp, Op.equal, Op.maxDepth, hs, go_sem, Tryz.underlying87, h4']
      · simp [binOp, Op.equal, Op.maxDepth, hs, go_sem, Tryz.underlying87, h3]
    · simp [binOp, Op.equal, Op.maxDepth, hs, go_sem, Tryz.underlying87, h2]
  · have h4 := bytes_ne h1
    simp [binOp, Op.equal, Op.maxDepth, hs, go_sem, Tryz.underlying87, h4]
theorem ents_eq_snoc {L1 L2 : List EntD} {k : Nat} {l : EntD} (h1 : L1[k]? = some l) (h2 : L2[k]? = some l) (h : L1.take k = L2.take k) : L1.take (k + 1) = L2.take (k + 1) := by
  rw [List.take_add_one, List.take_add_one, h1, h2, h]
end Go.Proofs.YtapjkbpfhmbfaaaGreatDoor
namespace Go.Proofs.YtapjkbpfhmbfaaaGreatDoor
open Go.RowKit
set_option maxRecDepth 100000
end Go.Proofs.YtapjkbpfhmbfaaaGreatDoor

namespace Go.Proofs.YtapjkbpfhmbfaaaGreatDoor
open Go.RowKit
set_option maxHeartbeats 800000 in
theorem entsEqual (a1 a2 : Option Addr) (n1 c1 n2 c2 : Nat) (L1 L2 : List EntD) (w : World) (h1 : EntsAt w a1 n1 c1 L1) (h2 : EntsAt w a2 n2 c2 L2) :
    Calls Tryz.prog 139 #[.slice a1 n1 c1, .slice a2 n2 c2] w fun e w' => e = .returned (.bool (decide (L1 = L2))) ∧ Below w.heap.size w w' := by
  have HN1 : Hid (L1.length = n1) := h1.length
  have HN2 : Hid (L2.length = n2) := h2.length
  have hr1 := h1.room
  have hb1 := h1.big
  have hr2 := h2.room
  have hb2 := h2.big
  unfold maxLen at hb1 hb2
  have H1 : Hid (EntsAt w a1 n1 c1 L1) := h1
  have H2 : Hid (EntsAt w a2 n2 c2 L2) := h2
  clear h1 h2
  by_cases hn : n1 = n2
  · subst hn
    go_enter Tryz.func139, Tryz.ntmps139
    go_wp2
    go_loopw [13] (fun i wr => ∃ k : Nat, k ≤ n1 ∧ i = .int .i64 k ∧ Below w.heap.size w wr ∧ L1.take k = L2.take k) (fun i _ => n1 - (intOf i).toNat)
    case atStart => exact ⟨0, Nat.zero_le _, rfl, Below.refl _ _, rfl⟩
    case round =>
      obtain ⟨k, hk, rfl, hb, heq⟩ := hrel
      have HEQ : Hid (L1.take k = L2.take k) := heq
      clear heq
      by_cases hlt : k < n1
      · obtain ⟨x1, o1, rfl, hx1⟩ := H1.out.form (by omega)
        obtain ⟨x2, o2, rfl, hx2⟩ := H2.out.form (by omega)
        obtain ⟨s, q, d, t, n, hg, _, g0, g1, g2, g3, g4⟩ := H1.out.ent hb hx1 k hlt
        obtain ⟨s', q', d', t', n', hg', _, p0, p1, p2, p3, p4⟩ := H2.out.ent hb hx2 k hlt
        have HG : Hid (L1[k]? = some (s, q, d, t, n)) := hg
        have HG' : Hid (L2[k]? = some (s', q', d', t', n')) := hg'
        have hltI : (k : Int) < (n1 : Int) := by omega
        clear hg hg'
        by_cases hl : (s, q, d, t, n) = (s', q', d', t', n')
        · cases hl
          have hne := neq_ent_same s t q d n
          go_wp2_with fail
          go_quiet (fail)
          go_wp2
          go_roundw
          case rel => exact ⟨k + 1, by omega, by go_num, below_drewN hb _, ents_eq_snoc HG.out HG'.out HEQ.out⟩
          case measure => simp [intOf]; omega
        · have hne := fun w => neq_ent_diff s t q d n s' t' q' d' n' w hl
          have HD : Hid (¬ (s, q, d, t, n) = (s', q', d', t', n')) := hl
          clear hl
          go_wp2_with fail
          go_quiet (fail)
          go_wp2
          go_ret
          refine ⟨ret_bool (decide_eq_false ?_).symm, below_drewN hb _⟩
          intro e
          rw [e, HG'.out] at HG
          exact HD.out (by simpa [Hid] using HG.symm)
      · go_wp2
        go_ret
        refine ⟨ret_bool (decide_eq_true ?_).symm, hb⟩
        have := HEQ.out
        rw [List.take_of_length_le (by rw [HN1.out]; omega), List.take_of_length_le (by rw [HN2.out]; omega)] at this
        exact this
  · go_enter Tryz.func139, Tryz.ntmps139
    go_wp2
    go_ret
    refine ⟨ret_bool (decide_eq_false ?_).symm, Below.refl _ _⟩
    intro e
    rw [e, HN2.out] at HN1
    exact hn HN1.out.symm
def runSameB (i1 : Int) (L1 : List EntD) (i2 : Int) (L2 : List EntD) : Bool := decide (i1 = i2) && decide (L1 = L2)
set_option maxHeartbeats 400000 in
theorem implRunSame (i1 i2 : Int) (a1 a2 : Option Addr) (n1 c1 n2 c2 : Nat) (L1 L2 : List EntD) (w : World) (h1 : EntsAt w a1 n1 c1 L1) (h2 : EntsAt w a2 n2 c2 L2) :
    Calls Tryz.prog 146 #[.agg #[.slice a1 n1 c1, .int .i64 i1], .agg #[.slice a2 n2 c2, .int .i64 i2]] w fun e w' => e = .returned (.bool (runSameB i1 L1 i2 L2)) ∧ Below w.heap.size w w' := by
  have hB : Below w.heap.size w ((w.alloc (.cells #[.slice a1 n1 c1, .int .i64 i1] 135)).alloc (.cells #[.slice a2 n2 c2, .int .i64 i2] 135)) := ((Below.refl _ _).alloc (Nat.le_refl _) _).alloc (by simp) _
  by_cases hi : i1 = i2
  · subst hi
    go_enter Tryz.func146, Tryz.ntmps146
    go_wp2_with (go_at_call 139; refine (entsEqual _ _ _ _ _ _ L1 L2 _ (h1.keep hB) (h2.keep hB)).mono ?_; rintro e w1 ⟨rfl, hb1⟩)
    go_ret
    exact ⟨ret_bool (by simp [runSameB]), hB.trans (hb1.mono (by simp; omega))⟩
  · have hd : (i1 == i2) = false := by simpa using hi
    clear h1 h2
    go_enter Tryz.func146, Tryz.ntmps146
    go_wp2
    go_ret
    exact ⟨ret_bool (by simp [runSameB, hi]), hB⟩
end Go.Proofs.YtapjkbpfhmbfaaaGreatDoor

namespace Go.Proofs.YtapjkbpfhmbfaaaGreatDoor
open Go.RowKit
set_option maxHeartbeats 800000 in
theorem specEq (a1 a2 : Option Addr) (n1 c1 n2 c2 : Nat) (L1 L2 : List EntD) (w : World) (h1 : EntsAt w a1 n1 c1 L1) (h2 : EntsAt w a2 n2 c2 L2) :
    Calls Tryz.prog 82 #[.slice a1 n1 c1, .slice a2 n2 c2] w fun e w' => e = .returned (.bool (decide (L1 = L2))) ∧ Below w.heap.size w w' := by
  have HN1 : Hid (L1.length = n1) := h1.length
  have HN2 : Hid (L2.length = n2) := h2.length
  have hr1 := h1.room
  have hb1 := h1.big
  have hr2 := h2.room
  have hb2 := h2.big
  unfold maxLen at hb1 hb2
  have H1 : Hid (EntsAt w a1 n1 c1 L1) := h1
  have H2 : Hid (EntsAt w a2 n2 c2 L2) := h2
  clear h1 h2
  by_cases hn : n1 = n2
  · subst hn
    go_enter Tryz.func82, Tryz.ntmps82
    go_wp2
    go_loopw [5] (fun i wr => ∃ k : Nat, k ≤ n1 ∧ i = .int .i64 k ∧ Below w.heap.size w wr ∧ L1.take k = L2.take k) (fun i _ => n1 - (intOf i).toNat)
    case atStart => exact ⟨0, Nat.zero_le _, rfl, Below.refl _ _, rfl⟩
    case round =>
      obtain ⟨k, hk, rfl, hb, heq⟩ := hrel
      have HEQ : Hid (L1.take k = L2.take k) := heq
      clear heq
      by_cases hlt : k < n1
      · obtain ⟨x1, o1, rfl, hx1⟩ := H1.out.form (by omega)
        obtain ⟨x2, o2, rfl, hx2⟩ := H2.out.form (by omega)
        obtain ⟨s, q, d, t, n, hg, _, g0, g1, g2, g3, g4⟩ := H1.out.ent hb hx1 k hlt
        obtain ⟨s', q', d', t', n', hg', _, p0, p1, p2, p3, p4⟩ := H2.out.ent hb hx2 k hlt
        have HG : Hid (L1[k]? = some (s, q, d, t, n)) := hg
        have HG' : Hid (L2[k]? = some (s', q', d', t', n')) := hg'
        have hltI : (k : Int) < (n1 : Int) := by omega
        clear hg hg'
        by_cases hl : (s, q, d, t, n) = (s', q', d', t', n')
        · cases hl
          have hne := neq_ent_same s t q d n
          go_wp2_with fail
          go_quiet (fail)
          go_wp2
          go_roundw
          case rel => exact ⟨k + 1, by omega, by go_num, below_drewN hb _, ents_eq_snoc HG.out HG'.out HEQ.out⟩
          case measure => simp [intOf]; omega
        · have hne := fun w => neq_ent_diff s t q d n s' t' q' d' n' w hl
          have HD : Hid (¬ (s, q, d, t, n) = (s', q', d', t', n')) := hl
          clear hl
          go_wp2_with fail
          go_quiet (fail)
          go_wp2
          go_ret
          refine ⟨ret_bool (decide_eq_false ?_).symm, below_drewN hb _⟩
          intro e
          rw [e, HG'.out] at HG
          exact HD.out (by simpa [Hid] using HG.symm)
      · go_wp2
        go_ret
        refine ⟨ret_bool (decide_eq_true ?_).symm, hb⟩
        have := HEQ.out
        rw [List.take_of_length_le (by rw [HN1.out]; omega), List.take_of_length_le (by rw [HN2.out]; omega)] at this
        exact this
  · go_enter Tryz.func82, Tryz.ntmps82
    go_wp2
    go_ret
    refine ⟨ret_bool (decide_eq_false ?_).symm, Below.refl _ _⟩
    intro e
    rw [e, HN2.out] at HN1
    exact hn HN1.out.symm
set_option maxHeartbeats 400000 in
theorem specRunSame (i1 i2 : Int) (a1 a2 : Option Addr) (n1 c1 n2 c2 : Nat) (L1 L2 : List EntD) (w : World) (h1 : EntsAt w a1 n1 c1 L1) (h2 : EntsAt w a2 n2 c2 L2) :
    Calls Tryz.prog 135 #[.agg #[.slice a1 n1 c1, .int .i64 i1], .agg #[.slice a2 n2 c2, .int .i64 i2]] w fun e w' => e = .returned (.bool (runSameB i1 L1 i2 L2)) ∧ Below w.heap.size w w' := by
  have hB : Below w.heap.size w ((w.alloc (.cells #[.slice a1 n1 c1, .int .i64 i1] 135)).alloc (.cells #[.slice a2 n2 c2, .int .i64 i2] 135)) := ((Below.refl _ _).alloc (Nat.le_refl _) _).alloc (by simp) _
  by_cases hi : i1 = i2
  · subst hi
    go_enter Tryz.func135, Tryz.ntmps135
    go_wp2_with (go_at_call 82; refine (specEq _ _ _ _ _ _ L1 L2 _ (h1.keep hB) (h2.keep hB)).mono ?_; rintro e w1 ⟨rfl, hb1⟩)
    go_ret
    exact ⟨ret_bool (by simp [runSameB]), hB.trans (hb1.mono (by simp; omega))⟩
  · have hd : (i1 == i2) = false := by simpa using hi
    clear h1 h2
    go_enter Tryz.func135, Tryz.ntmps135
    go_wp2
    go_ret
    exact ⟨ret_bool (by simp [runSameB, hi]), hB⟩
end Go.Proofs.YtapjkbpfhmbfaaaGreatDoor
