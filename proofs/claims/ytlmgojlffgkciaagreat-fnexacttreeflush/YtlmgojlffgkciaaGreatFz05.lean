/-
  A tree in memory of a call's own, every list in a block of its own; the laws' marks on it, and the marks found again; by walks of their Go text.
-/
import Derived.Test.YtlmgojlffgkciaaGreatFz01
import Derived.Test.YtlmgojlffgkciaaGreatFz03
import Derived.Test.YtlmgojlffgkciaaGreatFz04
namespace Go.Proofs.YtlmgojlffgkciaaGreat
open Go.RowKit
set_option maxRecDepth 100000
set_option maxHeartbeats 2000000
attribute [local go_sem] Oper.semAt_some
structure RunsO (lo hi : Nat) (w : World) (g n : Nat) (B : List RunD) (es : Nat → Nat) : Prop where
  len : B.length = n
  row : ∃ xs, w.ownsRow lo 102 2 (.slice (some ⟨g, 0, none⟩) n n) n xs ∧ ∀ (i : Nat) (p : RunD), B[i]? = some p → xs[i * 2]? = some (.slice (some ⟨es i, 0, none⟩) p.1.length p.1.length) ∧ xs[i * 2 + 1]? = some (.int .i64 p.2)
  ents : ∀ (i : Nat) (p : RunD), B[i]? = some p → OwnE w lo (es i) p.1.length p.1.length p.1
  up : ∀ i j, i < j → j < n → es i < es j
  top : g < hi ∧ ∀ i, i < n → es i < hi
  wfs : ∀ p ∈ B, (Lit.int .i64 p.2).wf = true
theorem RunsO.keepO {lo hi lo' hi' g n : Nat} {w w' : World} {B : List RunD} {es : Nat → Nat} (h : RunsO lo hi w g n B es) (k : KeepO lo' hi' w w') (hd : hi ≤ lo' ∨ hi' ≤ lo) : RunsO lo hi w' g n B es := by
  obtain ⟨xs, h1, h2⟩ := h.row
  have hg := (h1.lt g rfl).1
  refine ⟨h.len, ⟨xs, k.row h1 (by have := h.top.1; omega), h2⟩, fun i p hp => ?_, h.up, h.top, h.wfs⟩
  have hO := h.ents i p hp
  have hi' := (List.getElem?_eq_some_iff.1 hp).1
  exact k.own hO (by have h3 := hO.lt.1; have h4 := h.top.2 i (by rw [← h.len]; exact hi'); omega)
theorem RunsO.below {lo hi g n : Nat} {w w' : World} {B : List RunD} {es : Nat → Nat} (h : RunsO lo hi w g n B es) (hb : Below w.heap.size w w') : RunsO lo hi w' g n B es := by
  obtain ⟨xs, h1, h2⟩ := h.row
  exact ⟨h.len, ⟨xs, h1.kept (row := none) ⟨hb.os, hb.tape, hb.output, hb.size, fun k hk _ => hb.block k hk⟩ (.inr (by simp [Value.ownBlock])), h2⟩, fun i p hp => (h.ents i p hp).below hb, h.up, h.top, h.wfs⟩
theorem RunsO.ne {lo hi g n : Nat} {w : World} {B : List RunD} {es : Nat → Nat} (h : RunsO lo hi w g n B es) {i : Nat} {p : RunD} (hp : B[i]? = some p) : g ≠ es i := by
  intro e
  obtain ⟨xs, h1, _⟩ := h.row
  have b1 := blockOf_row h1
  have b2 := blockOf_row (h.ents i p hp).owns
  rw [← e] at b2
  exact absurd (b1.kind b2) (by decide)
theorem RunsO.cell {lo hi g n : Nat} {w : World} {B : List RunD} {es : Nat → Nat} (h : RunsO lo hi w g n B es) {i : Nat} {p : RunD} (hp : B[i]? = some p) : w.cell? ⟨g, i * 2, none⟩ = some (.slice (some ⟨es i, 0, none⟩) p.1.length p.1.length) ∧ w.cell? ⟨g, i * 2 + 1, none⟩ = some (.int .i64 p.2) ∧ w.frozen? ⟨g, i * 2 + 1, none⟩ = false ∧ g < w.heap.size := by
  obtain ⟨xs, h1, h2⟩ := h.row
  have hi' := (List.getElem?_eq_some_iff.1 hp).1
  rw [h.len] at hi'
  exact ⟨(h1.cellAt _ (by omega)).trans (h2 i p hp).1, (h1.cellAt _ (by omega)).trans (h2 i p hp).2, h1.frozenAt _, (h1.lt g rfl).2⟩
theorem RunsO.put {lo hi g n j : Nat} {w w1 : World} {B : List RunD} {es : Nat → Nat} {p : RunD} (h : RunsO lo hi w g n B es) (hp : B[j]? = some p) {L : List EntD} (hL : L.length = p.1.length) (hO : OwnE w1 lo (es j) p.1.length p.1.length L) (hg : w.grownBy w1 (some (es j))) (v : Int) (hv : (Lit.int .i64 v).wf = true) :
    RunsO lo hi (w1.setCell ⟨g, j * 2 + 1, none⟩ (.int .i64 v)) g n (B.set j (L, v)) es := by
  have hne := h.ne hp
  have hjn : j < B.length := (List.getElem?_eq_some_iff.1 hp).1
  obtain ⟨xs, h1, h2⟩ := h.row
  have hxl := h1.1
  have hln := h.len
  have r1 := h1.kept hg (.inr (by simpa [Value.ownBlock] using hne))
  have r2 := (r1.stored (j * 2 + 1) (.int .i64 v)).1
  refine ⟨by rw [List.length_set]; exact h.len, ⟨_, r2, fun i q hq => ?_⟩, fun i q hq => ?_, h.up, h.top, fun q hq => ?_⟩
  · by_cases e : j = i
    · subst e
      rw [List.getElem?_set_self hjn] at hq
      cases hq
      rw [List.getElem?_set_ne (by omega), List.getElem?_set_self (by omega)]
      simp only [hL]
      exact ⟨(h2 j p hp).1, trivial⟩
    · rw [List.getElem?_set_ne e] at hq
      rw [List.getElem?_set_ne (by omega), List.getElem?_set_ne (by omega)]
      exact h2 i q hq
  · by_cases e : j = i
    · subst e
      rw [List.getElem?_set_self hjn] at hq
      cases hq
      simp only [hL]
      exact hO.setCell (p := ⟨g, j * 2 + 1, none⟩) hne _
    · rw [List.getElem?_set_ne e] at hq
      have hi' := (List.getElem?_eq_some_iff.1 hq).1
      refine (((h.ents i q hq).grown hg (fun e' => ?_))).setCell (p := ⟨g, j * 2 + 1, none⟩) (h.ne hq) _
      have e2 := Option.some.inj e'
      rcases Nat.lt_or_gt_of_ne e with h3 | h3
      · have := h.up j i h3 (by omega); omega
      · have := h.up i j h3 (by omega); omega
  · rcases List.mem_or_eq_of_mem_set hq with h3 | h3
    · exact h.wfs q h3
    · subst h3; exact hv
def mrkR (k : Nat) : List RunD → List RunD
  | [] => []
  | p :: B => (markL k p.1.length, ((k + 5 * p.1.length : Nat) : Int)) :: mrkR (k + 5 * p.1.length + 1) B
theorem mrkR_len : ∀ (B : List RunD) (k : Nat), (mrkR k B).length = B.length
  | [], _ => rfl
  | p :: B, k => by simp [mrkR, mrkR_len B]
theorem mrkR_at : ∀ {B : List RunD} {k i : Nat} {p : RunD}, B[i]? = some p → (mrkR k B)[i]? = some (markL (k + mkR (B.take i)) p.1.length, ((k + mkR (B.take i) + 5 * p.1.length : Nat) : Int))
  | [], _, _, _, h => by simp at h
  | q :: B, k, 0, p, h => by
    simp at h
    subst h
    simp [mrkR, mkR]
  | q :: B, k, i + 1, p, h => by
    simp at h
    have := mrkR_at (k := k + 5 * q.1.length + 1) h
    simp only [mrkR, List.getElem?_cons_succ, List.take_succ_cons]
    rw [this]
    have e : k + 5 * q.1.length + 1 + mkR (B.take i) = k + mkR (q :: B.take i) := by simp only [mkR, List.map_cons, List.sum_cons]; omega
    rw [e]
theorem put_next {α : Type} {A B : List α} {j : Nat} {x : α} (hl : A.length = B.length) (hx : A[j]? = some x) : (A.take j ++ B.drop j).set j x = A.take (j + 1) ++ B.drop (j + 1) := by
  have hj := (List.getElem?_eq_some_iff.1 hx).1
  apply List.ext_getElem?
  intro i
  have ht : (A.take j).length = j := by rw [List.length_take]; omega
  have ht1 : (A.take (j + 1)).length = j + 1 := by rw [List.length_take]; omega
  by_cases e : j = i
  · subst e
    rw [List.getElem?_set_self (by rw [List.length_append, ht, List.length_drop]; omega), List.getElem?_append_left (by omega), List.getElem?_take_of_lt (by omega), hx]
  · rw [List.getElem?_set_ne e]
    by_cases hi : i < j
    · rw [List.getElem?_append_left (by omega), List.getElem?_append_left (by omega), List.getElem?_take_of_lt hi, List.getElem?_take_of_lt (by omega)]
    · rw [List.getElem?_append_right (by omega), List.getElem?_append_right (by omega), ht, ht1, List.getElem?_drop, List.getElem?_drop]
      congr 1
      omega
theorem part_at {α : Type} {A B : List α} {j : Nat} {x : α} (hl : A.length = B.length) (hx : B[j]? = some x) : (A.take j ++ B.drop j)[j]? = some x := by
  have hj := (List.getElem?_eq_some_iff.1 hx).1
  have ht : (A.take j).length = j := by rw [List.length_take]; omega
  rw [List.getElem?_append_right (by omega), ht, List.getElem?_drop]
  simpa using hx
theorem markRuns_o (lo hi g n k : Nat) (B : List RunD) (es : Nat → Nat) (w : World) (hR : RunsO lo hi w g n B es) (hcm : n ≤ 1048576) (hsm : ∀ p ∈ B, p.1.length ≤ 1048576) (hk : 1 ≤ k) (hn : k + mkR B ≤ 1000000000) :
    Calls Tryz.prog 83 #[.slice (some ⟨g, 0, none⟩) n n, .int .i64 k] w fun e w' => e = .returned (.int .i64 ((k + mkR B : Nat) : Int)) ∧ RunsO lo hi w' g n (mrkR k B) es ∧ KeepO lo hi w w' := by
  have HLN : Hid (B.length = n) := hR.len
  have HR0 : Hid (RunsO lo hi w g n B es) := hR
  have HSM : Hid (∀ p ∈ B, p.1.length ≤ 1048576) := hsm
  have HN : Hid (k + mkR B ≤ 1000000000) := hn
  clear hR hsm hn
  obtain ⟨D, hD⟩ : ∃ D, D = mrkR k B := ⟨_, rfl⟩
  have HDL : Hid (D.length = B.length) := by rw [hD]; exact mrkR_len B k
  have HDA : Hid (∀ i p, B[i]? = some p → D[i]? = some (markL (k + mkR (B.take i)) p.1.length, ((k + mkR (B.take i) + 5 * p.1.length : Nat) : Int))) := by rw [hD]; exact fun i p h => mrkR_at h
  rw [← hD]
  clear hD
  go_enter Tryz.func83, Tryz.ntmps83
  go_wp2
  go_loopw [1, 5] (fun kv iv wr => ∃ (j K : Nat), j ≤ n ∧ iv = .int .i64 j ∧ kv = .int .i64 (K : Int) ∧ K = k + mkR (B.take j) ∧ RunsO lo hi wr g n (D.take j ++ B.drop j) es ∧ KeepO lo hi w wr) (fun _ iv _ => n - (intOf iv).toNat)
  case atStart => exact ⟨0, k, Nat.zero_le _, rfl, rfl, by simp [mkR], by simpa using HR0.out, KeepO.refl _ _ _⟩
  case round =>
    obtain ⟨j, K, hj, rfl, rfl, hK, hR, hM⟩ := hrel
    have HM : Hid (KeepO lo hi w wr) := hM
    have HR : Hid (RunsO lo hi wr g n (D.take j ++ B.drop j) es) := hR
    have HK : Hid (K = k + mkR (B.take j)) := hK
    clear hK hM hR
    by_cases hlt : j < n
    · have hltI : (j : Int) < (n : Int) := by omega
      obtain ⟨p, hp⟩ : ∃ p, B[j]? = some p := ⟨_, List.getElem?_eq_getElem (by rw [HLN.out]; exact hlt)⟩
      have hpj := part_at HDL.out hp
      obtain ⟨c0, _, _, hgw⟩ := HR.out.cell hpj
      have hE := HR.out.ents j p hpj
      have hsp := HSM.out p (List.mem_of_getElem? hp)
      have HNX : Hid (mkR (B.take (j + 1)) = mkR (B.take j) + (5 * p.1.length + 1)) := mkR_take hp
      have hle : K + 5 * p.1.length + 1 ≤ 1000000000 := by
        have a1 := mkR_le B (j + 1)
        have a2 := HNX.out
        have a3 := HN.out
        have a4 := HK.out
        omega
      have hk1 : 1 ≤ K := by have := HK.out; omega
      have HP : Hid (B[j]? = some p) := hp
      have HPJ : Hid ((D.take j ++ B.drop j)[j]? = some p) := hpj
      obtain ⟨m, hm⟩ : ∃ m, p.1.length = m := ⟨_, rfl⟩
      have HMM : Hid (p.1.length = m) := hm
      rw [hm] at c0 hE hsp hle
      have CM : Hid (Calls Tryz.prog 27 #[.slice (some ⟨es j, 0, none⟩) m m, .int .i64 (K : Int)] wr fun e w' => e = .returned (.int .i64 ((K + 5 * m : Nat) : Int)) ∧ OwnE w' lo (es j) m m (markL K m) ∧ wr.grownBy w' (some (es j))) := markE_any lo (es j) m m K p.1 wr hE hk1 (by omega)
      have HLJ : Hid (lo ≤ es j ∧ es j < hi ∧ lo ≤ g ∧ g < hi) := ⟨hE.lt.1, HR.out.top.2 j hlt, by obtain ⟨xs, h1, _⟩ := HR.out.row; exact (h1.lt g rfl).1, HR.out.top.1⟩
      clear hm hE hp hpj
      go_wp2_with fail
      refine CM.out.mono ?_
      rintro e' w1 ⟨rfl, hO1, hg1⟩
      have hx1 : g < w1.heap.size := Nat.lt_of_lt_of_le hgw hg1.size
      have hne := HR.out.ne HPJ.out
      have c1 := (HR.out.cell HPJ.out).2.1
      have f1 := (HR.out.cell HPJ.out).2.2.1
      have c1' : w1.cell? ⟨g, j * 2 + 1, none⟩ = some (.int .i64 p.2) := hg1.cell c1 (fun e => hne (Option.some.inj e))
      obtain ⟨xs0, hr0, _⟩ := HR.out.row
      have f1' : w1.frozen? ⟨g, j * 2 + 1, none⟩ = false := (hr0.kept hg1 (.inr (by simpa [Value.ownBlock] using hne))).frozenAt _
      obtain ⟨K1, hK1⟩ : ∃ K1 : Nat, K1 = K + 5 * m := ⟨_, rfl⟩
      have HK1 : Hid (K1 = K + 5 * m) := hK1
      rw [← hK1]
      have hK1b : K1 ≤ 1000000000 := by omega
      have HO1 : Hid (OwnE w1 lo (es j) m m (markL K m)) := hO1
      have HG1 : Hid (wr.grownBy w1 (some (es j))) := hg1
      clear hK1 c0 hO1 hg1 c1 f1 hr0 hne
      go_wp2
      go_roundw
      case rel =>
        have a1 := HNX.out
        have a2 := HK.out
        have a3 := HK1.out
        have a4 := HMM.out
        have hl := HLJ.out
        refine ⟨j + 1, K1 + 1, by omega, by go_num, by go_num, by omega, ?_, ?_⟩
        · have hx := HDA.out j p HP.out
          have hO := HO1.out
          rw [← a4] at hO
          have hput := HR.out.put HPJ.out (L := markL K p.1.length) (markL_len _ _) hO HG1.out (K1 : Int) (wf_small _ (by omega))
          have he : (markL K p.1.length, (K1 : Int)) = (markL (k + mkR (B.take j)) p.1.length, ((k + mkR (B.take j) + 5 * p.1.length : Nat) : Int)) := by rw [← a2, a3, ← a4]
          rw [he, put_next HDL.out hx] at hput
          exact hput
        · exact (HM.out.grown HG1.out hl.1 hl.2.1).trans ⟨rfl, rfl, rfl, by simp [World.setCell], fun q _ hq => Below.heap_setCell _ _ _ _ (fun e => by have e' : q = g := e; omega)⟩
      case measure => simp [intOf]; omega
    · have hltI : ¬ (j : Int) < (n : Int) := by omega
      have hjB : B.length ≤ j := by rw [HLN.out]; omega
      have HKN : Hid (K = k + mkR B) := by
        have := HK.out
        rw [List.take_of_length_le hjB] at this
        exact this
      have HRN : Hid (RunsO lo hi wr g n D es) := by
        have := HR.out
        rw [List.take_of_length_le (by rw [HDL.out]; exact hjB), List.drop_eq_nil_of_le hjB, List.append_nil] at this
        exact this
      clear hjB
      go_wp2
      go_ret
      exact ⟨by have e := HKN.out; first | rfl | (subst e; rfl) | (rw [e]; simp) | (simp [e]), HRN.out, HM.out⟩
theorem heldRuns_o (lo hi g n k : Nat) (B : List RunD) (es : Nat → Nat) (w : World) (hR : RunsO lo hi w g n (mrkR k B) es) (hcm : n ≤ 1048576) (hsm : ∀ p ∈ B, p.1.length ≤ 1048576) (hk : 1 ≤ k) (hn : k + mkR B ≤ 1000000000) :
    Calls Tryz.prog 84 #[.slice (some ⟨g, 0, none⟩) n n, .int .i64 k] w fun e w' => e = .returned (.int .i64 ((k + mkR B : Nat) : Int)) ∧ Below w.heap.size w w' := by
  have HLN : Hid (B.length = n) := by have := hR.len; rw [mrkR_len] at this; exact this
  have HR0 : Hid (RunsO lo hi w g n (mrkR k B) es) := hR
  have HSM : Hid (∀ p ∈ B, p.1.length ≤ 1048576) := hsm
  have HN : Hid (k + mkR B ≤ 1000000000) := hn
  clear hR hsm hn
  go_enter Tryz.func84, Tryz.ntmps84
  go_wp2
  go_loopw [1, 5] (fun kv iv wr => ∃ (j K : Nat), j ≤ n ∧ iv = .int .i64 j ∧ kv = .int .i64 (K : Int) ∧ K = k + mkR (B.take j) ∧ Below w.heap.size w wr) (fun _ iv _ => n - (intOf iv).toNat)
  case atStart => exact ⟨0, k, Nat.zero_le _, rfl, rfl, by simp [mkR], Below.refl _ _⟩
  case round =>
    obtain ⟨j, K, hj, rfl, rfl, hK, hM⟩ := hrel
    have HM : Hid (Below w.heap.size w wr) := hM
    have HR : Hid (RunsO lo hi wr g n (mrkR k B) es) := HR0.out.below hM
    have HK : Hid (K = k + mkR (B.take j)) := hK
    clear hK hM
    by_cases hlt : j < n
    · have hltI : (j : Int) < (n : Int) := by omega
      obtain ⟨p, hp⟩ : ∃ p, B[j]? = some p := ⟨_, List.getElem?_eq_getElem (by rw [HLN.out]; exact hlt)⟩
      have hd := mrkR_at (k := k) hp
      rw [← HK.out] at hd
      obtain ⟨c0, c1, _, hgw⟩ := HR.out.cell hd
      have hE := (HR.out.ents j _ hd).entsAt
      simp only [markL_len] at c0 c1 hE
      have hsp := HSM.out p (List.mem_of_getElem? hp)
      have HNX : Hid (mkR (B.take (j + 1)) = mkR (B.take j) + (5 * p.1.length + 1)) := mkR_take hp
      have hle : K + 5 * p.1.length + 1 ≤ 1000000000 := by
        have a1 := mkR_le B (j + 1)
        have a2 := HNX.out
        have a3 := HN.out
        have a4 := HK.out
        omega
      have hk1 : 1 ≤ K := by have := HK.out; omega
      obtain ⟨m, hm⟩ : ∃ m, p.1.length = m := ⟨_, rfl⟩
      have HMM : Hid (p.1.length = m) := hm
      rw [hm] at c0 c1 hE hsp hle
      obtain ⟨K1, hK1⟩ : ∃ K1 : Nat, K1 = K + 5 * m := ⟨_, rfl⟩
      have HK1 : Hid (K1 = K + 5 * m) := hK1
      have CM : Hid (Calls Tryz.prog 34 #[.slice (some ⟨es j, 0, none⟩) m m, .int .i64 (K : Int)] wr fun e w' => e = .returned (.int .i64 (K1 : Int)) ∧ Below wr.heap.size wr w') := by rw [hK1]; exact heldE_any (es j) m m K wr hE hk1 (by omega)
      rw [← hK1] at c1
      have hK1b : K1 ≤ 1000000000 := by omega
      clear hm hE hp hd hK1
      go_wp2_with fail
      refine CM.out.mono ?_
      rintro e' w1 ⟨rfl, hb1⟩
      have c1' := cell_later hb1 c1
      have hx1 : g < w1.heap.size := Nat.lt_of_lt_of_le hgw hb1.size
      have HM1 : Hid (Below w.heap.size w w1) := HM.out.trans (hb1.mono HM.out.size)
      clear c0 c1 hb1
      have hK0 : ¬ (K1 : Int) < 0 := by omega
      go_wp2
      go_roundw
      case rel =>
        have a1 := HNX.out
        have a2 := HK.out
        have a3 := HK1.out
        have a4 := HMM.out
        exact ⟨j + 1, K1 + 1, by omega, by go_num, by go_num, by omega, HM1.out⟩
      case measure => simp [intOf]; omega
    · have hltI : ¬ (j : Int) < (n : Int) := by omega
      have HKN : Hid (K = k + mkR B) := by
        have := HK.out
        rw [List.take_of_length_le (by rw [HLN.out]; omega)] at this
        exact this
      go_wp2
      go_ret
      exact ⟨by have e := HKN.out; first | rfl | (subst e; rfl) | (rw [e]; simp) | (simp [e]), HM.out⟩
end Go.Proofs.YtlmgojlffgkciaaGreat
