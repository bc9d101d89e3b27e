/-
  The lists that the laws of merging draw: entries of unlike times, dealt out to at most three lists; by a walk of its Go text.
-/
import Derived.Test.YtkdalacclafihaaBn36
import Derived.Test.YtkdalacclafihaaBn05
import Derived.Test.YtkdalacclafihaaBn19
import Derived.Test.YtkdalacclafihaaBn08
import Derived.Test.YtkdalacclafihaaBn26
namespace Go.Proofs.Ytkdalacclafihaa
open Go.RowKit

/-- What list i of N is dealt of the first k. -/
def selT (L : List EntD) (N i : Nat) : Nat → List EntD
  | 0 => []
  | k + 1 => selT L N i k ++ (if k % N = i then (L[k]?).toList else [])
theorem deal_step {α : Type} (f : Nat → List α) (x : List α) (j : Nat) : ∀ n, j < n → (((List.range n).map (fun i => f i ++ (if j = i then x else []))).flatten).Perm (((List.range n).map f).flatten ++ x)
  | 0, h => absurd h (Nat.not_lt_zero _)
  | n + 1, h => by
    rw [List.range_succ, List.map_append, List.flatten_append, List.map_append, List.flatten_append]
    simp only [List.map_cons, List.map_nil, List.flatten_cons, List.flatten_nil, List.append_nil]
    by_cases hj : j = n
    · subst hj
      rw [if_pos rfl]
      have e : (List.range j).map (fun i => f i ++ (if j = i then x else [])) = (List.range j).map f := by
        apply List.map_congr_left
        intro i hi
        have := List.mem_range.1 hi
        rw [if_neg (by omega), List.append_nil]
      rw [e, List.append_assoc]
    · rw [if_neg hj, List.append_nil]
      have ih := deal_step f x j n (by omega)
      refine (ih.append_right (f n)).trans ?_
      rw [List.append_assoc, List.append_assoc]
      exact List.Perm.append_left _ List.perm_append_comm
theorem deal_perm (L : List EntD) (N : Nat) (hN : 0 < N) : ∀ k, (((List.range N).map (fun i => selT L N i k)).flatten).Perm (L.take k)
  | 0 => by
    have : (((List.range N).map (fun i => selT L N i 0)).flatten) = [] := by
      rw [List.flatten_eq_nil_iff]
      intro l hl
      obtain ⟨i, _, rfl⟩ := List.mem_map.1 hl
      rfl
    rw [this, List.take_zero]
  | k + 1 => by
    have h1 := deal_step (fun i => selT L N i k) ((L[k]?).toList) (k % N) N (Nat.mod_lt _ hN)
    have h2 := (deal_perm L N hN k).append_right ((L[k]?).toList)
    rw [List.take_add_one]
    exact h1.trans h2
/-- Slices that are not nil. -/
def SomeV (vs : List Value) : Prop := ∀ v ∈ vs, ∃ b m d, v = Value.slice (some ⟨b, 0, none⟩) m d
/-- Lists that have been drawn. -/
def MergeDr (w : World) (e : Ending) (w' : World) : Prop :=
  ∃ (g n c : Nat) (P : List (List EntD)) (vs : List Value) (L : List EntD), e = .returned (.slice (some ⟨g, 0, none⟩) n c) ∧ PartsOwn w' w.heap.size g n c P vs none ∧ n ≤ 3 ∧ L.length ≤ 16 ∧ AllX L 32 ∧ (P.flatten.Perm L ∨ P = []) ∧ SomeV vs ∧ Below w.heap.size w w'
theorem parts_none (w : World) (base : Nat) (h : base ≤ w.heap.size) : PartsOwn (w.alloc (.cells #[] 24)) base w.heap.size 0 0 [] [] none := by
  have := World.ownsRow_lit (base := base) (e := 24) (size := 1) w #[] 0 (by first | exact h | simp) (by first | exact h | simp) (by first | exact h | simp)
  exact ⟨by simpa using this, rfl, (fun e => by cases e), (fun i A hA => by simp at hA)⟩
theorem PartsOwn.lt {w : World} {base g n c : Nat} {P : List (List EntD)} {vs : List Value} {y : Option Nat} (h : PartsOwn w base g n c P vs y) : base ≤ g ∧ g < w.heap.size := h.owns.lt g rfl

theorem ownsRow_succ' {W : World} {base : Nat} {e : TypeId} {size : Nat} {v : Value} {k : Nat} {xs : List Value} (h : W.ownsRow base e size v (k + 1) xs) : ∃ g cap, v = .slice (some ⟨g, 0, none⟩) (k + 1) cap := by
  rcases h.2 with ⟨_, h0⟩ | ⟨g, cap, _, hv, _⟩
  · omega
  · exact ⟨g, cap, hv⟩

set_option maxRecDepth 100000 in
set_option maxHeartbeats 4000000 in
theorem drawMerge_any (a : Option Addr) (len cap : Nat) (w : World) (hb : BytesAt w a len cap) :
    Calls Try.prog 16 #[.slice a len cap] w (MergeDr w) := by
  obtain ⟨hc1, hc2, hc3⟩ := hb
  obtain ⟨i0, hi, hz0, hz1, hz2⟩ := info_parts Try.infoEnt
  obtain ⟨j0, hj, hy0, hy1, hy2⟩ := info_parts Try.infoEntS
  go_enter Try.func16, Try.ntmps16
  go_wp2_with fail
  refine (l9Open_any a len cap w hc1 hc2 hc3).mono ?_
  rintro e w1 ⟨len', rfl, hR1, hb1, hsz1⟩
  obtain ⟨R, hR⟩ : ∃ R, R = w.heap.size := ⟨_, rfl⟩
  rw [← hR] at hR1 ⊢
  have HRw : Hid (w.heap.size ≤ R) := by show w.heap.size ≤ R; omega
  have HLOW : Hid (Low a len' R) := by
    rcases hR1.bytes with h0 | ⟨b, off, ha, h1, h2, _⟩
    · exact Or.inl h0
    · exact Or.inr (fun b' off' e => by rw [ha] at e; cases e; omega)
  obtain ⟨W, hW⟩ : ∃ W, W = w1.alloc (.cells #[] 24) := ⟨_, rfl⟩
  obtain ⟨G, hG⟩ : ∃ G, G = w1.heap.size := ⟨_, rfl⟩
  have kW : Below w1.heap.size w1 W := by rw [hW]; exact (Below.refl _ _).alloc (Nat.le_refl _) _
  have HPO : Hid (PartsOwn W w.heap.size G 0 0 [] [] none) := by rw [hW, hG]; exact parts_none w1 _ hb1.size
  have HR1 : Hid (RdAt W R a len' cap 0) := hR1.below kW
  have HB1 : Hid (Below w.heap.size w W) := hb1.trans (kW.mono hb1.size)
  have hGR : R < G := by rw [hG]; exact hR1.lt
  have HW : Hid (W = w1.alloc (.cells #[] 24)) := hW
  have HG : Hid (G = w1.heap.size) := hG
  clear hc1 hc2 hc3 hsz1 hR hR1 hb1 hW hG kW
  go_upto_region 3 with fail
  rw [← HW.out, ← HG.out]
  clear HW HG
  go_wp2_with fail
  refine (l3List_x R 0 16 a len' cap W HR1.out HLOW.out (by omega) (by omega)).mono ?_
  rintro e w2 ⟨ga, na, ca, Pp, L, rfl, hO, hn, hX, hR2, hP, hg2⟩
  have HLN : Hid (L.length = na) := hO.len
  have HO2 : Hid (OwnE w2 w.heap.size ga na ca L) := hO.mono HB1.out.size
  have HX : Hid (AllX L 32) := hX
  have HR2 : Hid (RdAt w2 R a len' cap Pp) := hR2
  have HB2 : Hid (Below w.heap.size w w2) := below_read HB1.out hg2 HRw.out
  have HP2 : Hid (PartsOwn w2 w.heap.size G 0 0 [] [] none) := ⟨HPO.out.owns.kept hg2 (.inr (fun e => by have h1 := Option.some.inj e; simp only at h1; omega)), rfl, (fun e => by cases e), (fun i A hA => by simp at hA)⟩
  have hRa : R < ga := Nat.lt_of_lt_of_le HR1.out.lt hO.lt.1
  clear hO hX hR2 hg2 HPO HR1 HB1
  go_wp2_with fail
  refine (pick_any R Pp a len' cap 4 w2 HR2.out (by omega) (by omega)).mono ?_
  rintro e w3 ⟨q, rfl, hq, hR3, hg3⟩
  have HO3 : Hid (OwnE w3 w.heap.size ga na ca L) := HO2.out.gR hg3 hRa
  have HB3 : Hid (Below w.heap.size w w3) := below_read HB2.out hg3 HRw.out
  have HP3 : Hid (PartsOwn w3 w.heap.size G 0 0 [] [] none) := ⟨HP2.out.owns.kept hg3 (.inr (fun e => by have h1 := Option.some.inj e; simp only at h1; omega)), rfl, (fun e => by cases e), (fun i A hA => by simp at hA)⟩
  have hq0 : 0 ≤ q ∧ q < 4 := by unfold PickR at hq; omega
  obtain ⟨N, hN⟩ := Int.eq_ofNat_of_zero_le hq0.1
  subst hN
  have hN3 : N ≤ 3 := by omega
  clear hq hR3 hg3 HO2 HR2 HB2 HP2 hq0
  go_wp2
  go_loopw [4, 7] (fun ov iv wr => ∃ (i g c : Nat) (vs : List Value), i ≤ N ∧ iv = .int .i64 i ∧ ov = .slice (some ⟨g, 0, none⟩) i c ∧ PartsOwn wr w.heap.size g i c ((List.range i).map (fun j => selT L N j na)) vs none ∧ OwnE wr w.heap.size ga na ca L ∧ SomeV vs ∧ Below w.heap.size w wr) (fun _ iv _ => N - (intOf iv).toNat)
  case atStart => exact ⟨0, G, 0, [], Nat.zero_le _, rfl, rfl, HP3.out, HO3.out, (fun v hv => by cases hv), HB3.out⟩
  case round =>
    clear HP3 HO3 HB3
    obtain ⟨i, g, c, vs, hiN, rfl, rfl, hPO, hO, hsv, hb⟩ := hrel
    have HSV : Hid (SomeV vs) := hsv
    clear hsv
    rename World => wo
    have HPO : Hid (PartsOwn wo w.heap.size g i c ((List.range i).map (fun j => selT L N j na)) vs none) := hPO
    have HO : Hid (OwnE wo w.heap.size ga na ca L) := hO
    have HB : Hid (Below w.heap.size w wo) := hb
    clear hPO hO hb
    by_cases hlt : i < N
    · have hltI : (i : Int) < (N : Int) := by omega
      have HOP : Hid (OwnE (wo.alloc (.cells #[] 36)) wo.heap.size wo.heap.size 0 0 []) := own_empty wo _ (Nat.le_refl _)
      have HBP : Hid (Below wo.heap.size wo (wo.alloc (.cells #[] 36))) := (Below.refl _ _).alloc (Nat.le_refl _) _
      have hbw : w.heap.size ≤ wo.heap.size := HB.out.size
      go_wp2
      go_loopw [8, 9] (fun pv kv wq => ∃ (k gp m cp : Nat), k ≤ na ∧ kv = .int .i64 k ∧ m ≤ k ∧ pv = .slice (some ⟨gp, 0, none⟩) m cp ∧ OwnE wq wo.heap.size gp m cp (selT L N i k) ∧ Below wo.heap.size wo wq) (fun _ kv _ => na - (intOf kv).toNat)
      case atStart => exact ⟨0, wo.heap.size, 0, 0, Nat.zero_le _, rfl, Nat.le_refl _, rfl, HOP.out, HBP.out⟩
      case round =>
        clear HOP HBP
        obtain ⟨k, gp, m, cp, hk, rfl, hmk, rfl, hOp, hbq⟩ := hrel
        have HOP : Hid (OwnE wr wo.heap.size gp m cp (selT L N i k)) := hOp
        have HBQ : Hid (Below wo.heap.size wo wr) := hbq
        have hzq := hbq.size
        clear hOp hbq
        by_cases hkn : k < na
        · have hknI : (k : Int) < (na : Int) := by omega
          have hrem : (k : Int).tmod (N : Int) = ((k % N : Nat) : Int) := by rw [Int.tmod_eq_emod_of_nonneg (by omega)]; rfl
          have hN0 : ¬ (N : Int) = 0 := by omega
          have hN0' : ((N : Int) == 0) = false := by simp; omega
          have hwr : IntKind.i64.wrap ((k % N : Nat) : Int) = ((k % N : Nat) : Int) := by
            have : k % N < N := Nat.mod_lt _ (by omega)
            rw [IntKind.wrap_i64]; omega
          obtain ⟨es, eq, ed, et, en, hx, hw, e0, e1, e2, e3, e4⟩ := HO.out.entsAt.ent HBQ.out HO.out.lt.2 k hkn
          simp only [Nat.zero_add] at e0 e1 e2 e3 e4
          have HX : Hid (L[k]? = some (es, eq, ed, et, en)) := hx
          have HEW : Hid (EntW (es, eq, ed, et, en)) := hw
          have zga : ga < wr.heap.size := by have := HO.out.lt.2; omega
          clear hx hw
          obtain ⟨km, hkm⟩ : ∃ km, km = k % N := ⟨_, rfl⟩
          have HKM : Hid (km = k % N) := hkm
          rw [← hkm] at hrem hwr
          clear hkm
          by_cases hi2 : km = i
          · subst hi2
            have HSEL : Hid (selT L N km (k + 1) = selT L N km k ++ [(es, eq, ed, et, en)]) := by
              show selT L N km k ++ (if k % N = km then (L[k]?).toList else []) = _
              rw [if_pos HKM.out.symm, HX.out]
              rfl
            go_wp2_with (at_builtin; refine wpList_append_own_at _ rfl _ _ 24 rfl wo.heap.size 36 i0 _ 5 56 Try.underlying24 hi hz0 hz1 hz2 rfl (by decide) _ _ _ rfl (HOP.out.owns.alloc _) ⟨wr.heap.size, 0, none⟩ 1 1 (entCells (es, eq, ed, et, en)) rfl rfl (cell_five _ _ _ _ _ _ _) (flatE_one [(es, eq, ed, et, en)]) (by unfold maxLen; omega) (by omega) (by simp; omega) ?_; intro v1 w1 hown1 hgrow1 hnil1 hat1; obtain ⟨g1, c1, rfl⟩ := ownsRow_succ' hown1)
            go_roundw
            case rel =>
              have hgr : (wr.alloc (.cells #[.string es, .int .i64 eq, .int .i64 ed, .string et, .int .i64 en] 36)).grownBy w1 (some gp) := hgrow1
              refine ⟨k + 1, g1, m + 1, c1, by omega, by go_num, by omega, rfl, ?_, ?_⟩
              · rw [HSEL.out]
                refine ⟨by rw [flatE_append]; simpa [flatE] using hown1, by rw [List.length_append, HOP.out.len]; rfl, fun l hl => ?_⟩
                rcases List.mem_append.1 hl with h1 | h1
                · exact HOP.out.ents l h1
                · rw [List.mem_singleton] at h1
                  subst h1
                  exact HEW.out
              · exact ((HBQ.out.alloc hzq _).grown hgr (by simp; omega) (fun j e => by cases e; exact HOP.out.lt.1))
            case measure => simp [intOf]; omega
          · have hneI : ¬ (km : Int) = (i : Int) := by omega
            have hneb : ((km : Int) == (i : Int)) = false := by simp; omega
            have HSEL : Hid (selT L N i (k + 1) = selT L N i k) := by
              show selT L N i k ++ (if k % N = i then (L[k]?).toList else []) = _
              rw [if_neg (by rw [← HKM.out]; exact hi2), List.append_nil]
            go_wp2
            go_roundw
            case rel => exact ⟨k + 1, gp, m, cp, by omega, by go_num, by omega, rfl, by rw [HSEL.out]; exact HOP.out, HBQ.out⟩
            case measure => simp [intOf]; omega
        · have hknI : ¬ (k : Int) < (na : Int) := by omega
          obtain rfl : k = na := by omega
          have HPW : Hid (PartsOwn wr w.heap.size g i c ((List.range i).map (fun j => selT L N j k)) vs none) := HPO.out.below HBQ.out
          have HOW : Hid (OwnE wr w.heap.size ga k ca L) := HO.out.below HBQ.out
          have HBW : Hid (Below w.heap.size w wr) := HB.out.trans (HBQ.out.mono hbw)
          have HGP : Hid (g < gp) := by have h1 := HPO.out.lt.2; have h2 := HOP.out.lt.1; show g < gp; omega
          clear HPO HO HB
          have wi : IntKind.i64.wrap ((i : Int) + 1) = ((i + 1 : Nat) : Int) := by rw [IntWalk.i64_left]; unfold wrap64; omega
          go_wp2_with (at_builtin; refine wpList_append_own_at _ rfl _ _ 26 rfl w.heap.size 24 j0 _ 1 24 Try.underlying26 hj hy0 hy1 hy2 rfl (by decide) _ _ _ rfl (HPW.out.owns.alloc _) ⟨wr.heap.size, 0, none⟩ 1 1 [Value.slice (some ⟨gp, 0, none⟩) m cp] rfl rfl (cell_one_new _ _ _) (by simp [Value.oneCell']) (by unfold maxLen; omega) (by omega) (by simp; omega) ?_; intro v2 w2 hown2 hgrow2 hnil2 hat2; obtain ⟨g2, c2, rfl⟩ := ownsRow_succ' hown2)
          go_roundw
          case rel =>
            have ka : Below wr.heap.size wr (wr.alloc (.cells #[.slice (some ⟨gp, 0, none⟩) m cp] 24)) := (Below.refl _ _).alloc (Nat.le_refl _) _
            have hgr : (wr.alloc (.cells #[.slice (some ⟨gp, 0, none⟩) m cp] 24)).grownBy w2 (some g) := hgrow2
            have hP2 := (HPW.out.below ka).push (A := selT L N i k) hown2 hgr (by
              rcases hat2 with h | h
              · exact .inl (Option.some.inj h)
              · exact .inr (Option.some.inj h)) (HOP.out.below ka).entsAt (fun x e _ => by cases e; have := HGP.out; show gp ≠ g; omega)
            refine ⟨i + 1, g2, c2, vs ++ [Value.slice (some ⟨gp, 0, none⟩) m cp], by omega, by go_num, rfl, ?_, ?_, (fun v hv => ?_), ?_⟩
            · rw [List.range_succ, List.map_append]
              exact hP2
            · exact (HOW.out.below ka).grown hgr (fun e => (rows_ne HOW.out.owns HPW.out.owns (by decide) rfl) (by rw [e]; rfl))
            · rcases List.mem_append.1 hv with h1 | h1
              · exact HSV.out v h1
              · rw [List.mem_singleton] at h1
                exact ⟨gp, m, cp, h1⟩
            · exact (HBW.out.alloc (by omega) _).grown hgr (by simp; omega) (fun j e => by cases e; exact HPW.out.lt.1)
          case measure => simp [intOf]; omega
    · have hltI : ¬ (i : Int) < (N : Int) := by omega
      obtain rfl : i = N := by omega
      go_wp2
      go_ret
      refine ⟨g, i, c, _, vs, L, rfl, HPO.out, hN3, by rw [HLN.out]; exact hn, HX.out, ?_, HSV.out, HB.out⟩
      by_cases h0 : i = 0
      · subst h0
        exact .inr rfl
      · left
        have := deal_perm L i (by omega) na
        rw [List.take_of_length_le (by rw [HLN.out]; omega)] at this
        exact this
end Go.Proofs.Ytkdalacclafihaa
