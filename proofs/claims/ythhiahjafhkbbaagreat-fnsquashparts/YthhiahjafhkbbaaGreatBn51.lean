/-
  The walk of the law FnSquashParts: it answers true at all bytes: entries squashed in two parts and then together tell what they tell squashed at once.
-/
import Derived.Test.YthhiahjafhkbbaaGreatBn32
import Derived.Test.YthhiahjafhkbbaaGreatBn33
import Derived.Test.YthhiahjafhkbbaaGreatBn41
import Derived.Test.YthhiahjafhkbbaaGreatBn45
import Derived.Test.YthhiahjafhkbbaaGreatBn46
import Derived.Test.YthhiahjafhkbbaaGreatBn50
namespace Go.Proofs.YthhiahjafhkbbaaGreat
open Go.RowKit

/-- What lies where ahead of the parting. -/
structure PqSt (w wi : World) (g n c gs m cs : Nat) (ag : Option Addr) (ng cg : Nat) (L : List EntD) (S : List Int) (F : List EntD) : Prop where
  all : Below w.heap.size w wi
  ol : OwnE wi w.heap.size g n c L
  os : OwnN wi w.heap.size gs m cs S
  og : OwnO wi w.heap.size ag ng cg F
theorem PqSt.below {w wi wj : World} {g n c gs m cs : Nat} {ag : Option Addr} {ng cg : Nat} {L : List EntD} {S : List Int} {F : List EntD} (h : PqSt w wi g n c gs m cs ag ng cg L S F) (hb : Below wi.heap.size wi wj) : PqSt w wj g n c gs m cs ag ng cg L S F :=
  ⟨h.all.trans (hb.mono h.all.size), h.ol.below hb, h.os.below hb, h.og.below hb⟩
theorem ints_nil (lo : Nat) (w : World) : IntsIn lo w none 0 0 [] := ⟨rfl, Nat.le_refl _, Nat.zero_le _, (fun q hq => by cases hq), (fun _ => rfl), (fun x e => by cases e), (fun x e => by cases e)⟩
theorem parts_two (w : World) (s s' : Option Addr) (m d m' d' : Nat) (A B : List EntD) (h : EntsAt w s m d A) (h' : EntsAt w s' m' d' B) : PartsAt (w.alloc (.cells #[.slice s m d, .slice s' m' d'] 23)) (some ⟨w.heap.size, 0, none⟩) 2 2 [A, B] := by
  have ka : Below w.heap.size w (w.alloc (.cells #[.slice s m d, .slice s' m' d'] 23)) := (Below.refl _ _).alloc (Nat.le_refl _) _
  refine ⟨rfl, Nat.le_refl _, by unfold maxLen; omega, (fun e => by cases e), ?_, ?_⟩
  · rintro x e _
    cases e
    exact ⟨by simp, rfl⟩
  · rintro x e i hi
    cases e
    have : i = 0 ∨ i = 1 := by simp at hi; omega
    rcases this with rfl | rfl
    · exact ⟨s, m, d, by simp, h.keep ka⟩
    · exact ⟨s', m', d', by simp, h'.keep ka⟩
theorem filter_snoc {L : List EntD} {k : Nat} {e : EntD} (h : L[k]? = some e) (p : EntD → Bool) : (L.take (k + 1)).filter p = (L.take k).filter p ++ [e].filter p := by
  rw [List.take_add_one, h]
  simp [List.filter_append]
theorem row_two {w : World} {base g n c : Nat} {L : List EntD} {e : EntD} {w' : World} {g' c' : Nat} (h : OwnE w base g n c L) (he : EntW e) (ho : w'.ownsRow base 30 5 (.slice (some ⟨g', 0, none⟩) (n + 1) c') (n + 1) (flatE L ++ entCells e)) : OwnE w' base g' (n + 1) c' (L ++ [e]) := by
  refine ⟨by rw [flatE_append]; simpa [flatE] using ho, by rw [List.length_append, h.len]; rfl, fun l hl => ?_⟩
  rcases List.mem_append.1 hl with h1 | h1
  · exact h.ents l h1
  · rw [List.mem_singleton] at h1
    subst h1
    exact he

set_option maxRecDepth 100000 in
set_option maxHeartbeats 8000000 in
theorem walkFnSquashParts (a : Option Addr) (len cap : Nat) (a2 : Option Addr) (len2 cap2 : Nat) (w : World) (h : BytesAt w a len cap) (h2 : BytesAt w a2 len2 cap2) :
    Calls Tryz.prog 3 #[.slice a len cap, .slice a2 len2 cap2] w fun e w' => e = .returned (.bool true) ∧ Below w.heap.size w w' := by
  have hm1 := Nat.le_trans h.1 h.2.1
  have hm2 := Nat.le_trans h2.1 h2.2.1
  unfold maxLen at hm1 hm2
  clear h2
  by_cases hbig : 1048576 < len
  · go_enter Tryz.func3, Tryz.ntmps3
    go_wp2
    go_ret
    exact ⟨rfl, Below.refl _ _⟩
  by_cases hbig2 : 1048576 < len2
  · go_enter Tryz.func3, Tryz.ntmps3
    go_wp2
    go_ret
    exact ⟨rfl, Below.refl _ _⟩
  obtain ⟨i0, hi, hz0, hz1, hz2⟩ := info_parts Tryz.infoInt
  obtain ⟨j0, hj, hy0, hy1, hy2⟩ := info_parts Tryz.infoEnt
  have CD := drawSq_any a len cap w h
  clear h
  go_enter Tryz.func3, Tryz.ntmps3
  go_wp2_with fail
  refine CD.mono ?_
  rintro e w1 ⟨g, n, c, L, gs, m, cs, S, b, rfl, hO, hN, hD, hm, hS, hgs, hb1⟩
  have HLN : Hid (L.length = n) := hO.len
  have HSS : Hid (S.length = m) := hN.len
  have hn15 : n ≤ 15 := by have h1 := hO.len; have h2 := hD.1; omega
  have HO1 : Hid (OwnE w1 w.heap.size g n c L) := hO
  have HN1 : Hid (OwnN w1 w.heap.size gs m cs S) := hN
  have HB1 : Hid (Below w.heap.size w w1) := hb1
  have HDE : Hid (∀ e ∈ L, entB e.1 e.2.1 e.2.2.1 e.2.2.2.1 e.2.2.2.2 = true) := hD.2.1
  obtain ⟨F, hF⟩ : ∃ F, F = squashL L S true := ⟨_, rfl⟩
  have HF : Hid (F = squashL L S true) := hF
  have CI : Hid (∀ (lo : Nat) (al : Option Addr) (nl cl : Nat) (M : List EntD) (a3 : Option Addr) (m3 c3 : Nat) (T : List Int) (bb : Bool) (w' : World), EntsAt w' al nl cl M → IntsIn lo w' a3 m3 c3 T → nl ≤ 1000 → m3 ≤ 1000 → Calls Tryz.prog 8 #[.slice al nl cl, .slice a3 m3 c3, .bool bb] w' fun e w'' => ∃ ar n' c', e = .returned (.slice ar n' c') ∧ OwnO w'' w'.heap.size ar n' c' (squashL M T bb) ∧ Below w'.heap.size w' w'') := fun lo al nl cl M a3 m3 c3 T bb w' h1 h2 h3 h4 => callsIn_wide.1 (implSquashO lo al nl cl M a3 m3 c3 T bb w' h1 h2 (by omega) (by omega))
  have CS : Hid (∀ (lo : Nat) (w' : World), EntsAt w' (some ⟨g, 0, none⟩) n c L → IntsIn lo w' (some ⟨gs, 0, none⟩) m cs S → Calls Tryz.prog 10 #[.slice (some ⟨g, 0, none⟩) n c, .slice (some ⟨gs, 0, none⟩) m cs, .bool true] w' fun e w'' => ∃ g' n' c', e = .returned (.slice (some ⟨g', 0, none⟩) n' c') ∧ OwnE w'' w'.heap.size g' n' c' F ∧ Below w'.heap.size w' w'') := by rw [hF]; exact fun lo w' h1 h2 => specSquash lo _ n c L _ _ _ S true w' h1 h2 (by omega)
  have HFL : Hid (F.length ≤ n) := by show F.length ≤ n; rw [hF]; have := squashL_len L S true; rw [HLN.out] at this; exact this
  clear hb1 hO hN CD hF hD hS hgs
  have C1 := CI.out _ _ _ _ L _ _ _ S true w1 HO1.out.entsAt HN1.out.ints (by omega) (by omega)
  rw [← HF.out] at C1
  go_wp2_with fail
  refine C1.mono ?_
  rintro e w2 ⟨ag, ng, cg, rfl, hG2, hb2⟩
  have hng : ng ≤ n := by have h1 := hG2.len; have h2 := HFL.out; omega
  have HGL : Hid (F.length = ng) := hG2.len
  have T2 : Hid (PqSt w w2 g n c gs m cs ag ng cg L S F) := ⟨HB1.out.trans (hb2.mono HB1.out.size), HO1.out.below hb2, HN1.out.below hb2, hG2.mono HB1.out.size⟩
  clear hG2 hb2 HB1 HO1 HN1 C1
  go_upto_region 5 with fail
  go_cut [56] (fun s56 wx => ∃ B : Bool, s56 = .bool B ∧ (B = false → rightB L = true) ∧ PqSt w wx g n c gs m cs ag ng cg L S F)
  case first =>
    go_wp2_with fail
    refine (CS.out _ _ T2.out.ol.entsAt T2.out.os.ints).mono ?_
    rintro e w3 ⟨gw, nw, cw, rfl, hW3, hb3⟩
    have HW3 : Hid (EntsAt w3 (some ⟨gw, 0, none⟩) nw cw F) := hW3.entsAt
    have T3 : Hid (PqSt w w3 g n c gs m cs ag ng cg L S F) := T2.out.below hb3
    clear hW3 hb3 T2
    go_wp2_with fail
    refine (wpEnts_any _ _ _ _ _ _ F F _ T3.out.og.entsAt HW3.out).mono ?_
    rintro e w4 ⟨rfl, hb4⟩
    rw [decide_eq_true rfl]
    have T4 : Hid (PqSt w w4 g n c gs m cs ag ng cg L S F) := T3.out.below hb4
    clear hb4 T3 HW3
    by_cases hn0 : n = 0
    · have HR : Hid (rightB L = true) := by
        have : L = [] := List.length_eq_zero_iff.1 (by rw [HLN.out]; exact hn0)
        show rightB L = true
        rw [this]
        rfl
      have hnI : ¬ (0 : Int) < (n : Int) := by omega
      have hnd : decide ((0 : Int) < (n : Int)) = false := decide_eq_false hnI
      have hnN : ¬ 0 < n := by omega
      have hne : decide (0 < n) = false := decide_eq_false hnN
      clear hn0
      go_wp2
      go_meet
      exact ⟨false, rfl, fun _ => HR.out, T4.out⟩
    · have hnI : (0 : Int) < (n : Int) := by omega
      have hnd : decide ((0 : Int) < (n : Int)) = true := decide_eq_true hnI
      have hnN : 0 < n := by omega
      have hne : decide (0 < n) = true := decide_eq_true hnN
      by_cases hg0 : ng = 0
      · subst hg0
        have C5 := CI.out 0 _ _ _ L none 0 0 [] false w4 T4.out.ol.entsAt (ints_nil 0 w4) (by omega) (by omega)
        go_wp2_with fail
        refine C5.mono ?_
        rintro e w5 ⟨ak, nk, ck, rfl, hK5, hb5⟩
        have T5 : Hid (PqSt w w5 g n c gs m cs ag 0 cg L S F) := T4.out.below hb5
        have HKL : Hid ((squashL L [] false).length = nk) := hK5.len
        have hkb : nk ≤ 15 := by have h1 := hK5.len; have h2 := squashL_len L [] false; rw [HLN.out] at h2; omega
        clear hK5 hb5 C5 T4
        by_cases hk0 : nk = 0
        · subst hk0
          go_wp2
          go_meet
          exact ⟨true, rfl, (fun e => by cases e), T5.out⟩
        · have hkI : ¬ (nk : Int) = 0 := by omega
          have hkb' : ((nk : Int) == 0) = false := by simp; omega
          have HR : Hid (rightB L = true) := by
            show rightB L = true
            cases hr : rightB L with
            | true => rfl
            | false =>
              have h1 := HKL.out
              unfold squashL at h1
              rw [if_neg (by rw [hr]; exact Bool.false_ne_true)] at h1
              exact absurd h1.symm hk0
          go_wp2
          go_meet
          exact ⟨false, rfl, fun _ => HR.out, T5.out⟩
      · have hgI : ¬ (ng : Int) = 0 := by omega
        have hgb : ((ng : Int) == 0) = false := by simp; omega
        have HR : Hid (rightB L = true) := by
          show rightB L = true
          cases hr : rightB L with
          | true => rfl
          | false =>
            have h1 := HGL.out
            rw [HF.out] at h1
            unfold squashL at h1
            rw [if_neg (by rw [hr]; exact Bool.false_ne_true)] at h1
            exact absurd h1.symm hg0
        go_wp2
        go_meet
        exact ⟨false, rfl, fun _ => HR.out, T4.out⟩
  case rest =>
  obtain ⟨B, rfl, hBR, hT⟩ := hcut
  have TC : Hid (PqSt w wc g n c gs m cs ag ng cg L S F) := hT
  clear T2 hT
  cases B with
  | true =>
    go_wp2_with fail
    refine (CS.out _ _ TC.out.ol.entsAt TC.out.os.ints).mono ?_
    rintro e w3 ⟨gw, nw, cw, rfl, hW3, hb3⟩
    have HW3 : Hid (EntsAt w3 (some ⟨gw, 0, none⟩) nw cw F) := hW3.entsAt
    have T3 : Hid (PqSt w w3 g n c gs m cs ag ng cg L S F) := TC.out.below hb3
    clear hW3 hb3 TC
    go_wp2_with fail
    refine (wpEnts_any _ _ _ _ _ _ F F _ T3.out.og.entsAt HW3.out).mono ?_
    rintro e w4 ⟨rfl, hb4⟩
    rw [decide_eq_true rfl]
    have T4 : Hid (PqSt w w4 g n c gs m cs ag ng cg L S F) := T3.out.below hb4
    clear hb4 T3 HW3
    go_wp2
    go_ret
    exact ⟨rfl, T4.out.all⟩
  | false =>
    have hr : rightB L = true := hBR rfl
    clear hBR CS
    obtain ⟨av, hav⟩ : ∃ av, av = len2 % 30 := ⟨_, rfl⟩
    have hrem : (len2 : Int).tmod 30 = (av : Int) := by rw [hav, Int.tmod_eq_emod_of_nonneg (by omega)]; rfl
    have hwav : IntKind.i64.wrap (av : Int) = (av : Int) := by rw [IntKind.wrap_i64]; omega
    have havb : av < 30 := by omega
    clear hav
    obtain ⟨hPR, hPT⟩ := parts_tell hr S (av : Int)
    have HPR : Hid (rightB (sortE (squashL (highL L av) S false ++ squashL (lowL L av) S true)) = true) := hPR
    have HPT : Hid (∀ key t, t ∈ S ∨ 100000 ≤ t → cellL (squashL (sortE (squashL (highL L av) S false ++ squashL (lowL L av) S true)) S true) key t = cellL (squashL L S true) key t) := hPT
    have HRL : Hid (rightB L = true) := hr
    clear hPR hPT hr
    have HH0 : Hid (OwnE ((wc.alloc (.cells #[] 30)).alloc (.cells #[] 30)) wc.heap.size wc.heap.size 0 0 []) := (own_empty wc _ (Nat.le_refl _)).below ((Below.refl _ _).alloc (Nat.le_refl _) _)
    have HW0 : Hid (OwnE ((wc.alloc (.cells #[] 30)).alloc (.cells #[] 30)) wc.heap.size (wc.heap.size + 1) 0 0 []) := by
      have := own_empty (wc.alloc (.cells #[] 30)) wc.heap.size (by simp)
      rw [World.size_alloc] at this
      exact this
    have HB0 : Hid (Below wc.heap.size wc ((wc.alloc (.cells #[] 30)).alloc (.cells #[] 30))) := ((Below.refl _ _).alloc (Nat.le_refl _) _).alloc (by simp) _
    go_wp2
    clear hrem hwav
    go_loopw [10, 11, 12] (fun hv lv iv wr => ∃ (i gh nh ch gl nl cl : Nat) (X Y : List EntD), i ≤ n ∧ iv = .int .i64 i ∧ X = highL (L.take i) av ∧ Y = lowL (L.take i) av ∧ nh ≤ i ∧ nl ≤ i ∧ hv = .slice (some ⟨gh, 0, none⟩) nh ch ∧ lv = .slice (some ⟨gl, 0, none⟩) nl cl ∧ OwnE wr wc.heap.size gh nh ch X ∧ OwnE wr wc.heap.size gl nl cl Y ∧ gh ≠ gl ∧ Below wc.heap.size wc wr) (fun _ _ iv _ => n - (intOf iv).toNat)
    case atStart => exact ⟨0, wc.heap.size, 0, 0, wc.heap.size + 1, 0, 0, [], [], Nat.zero_le _, rfl, rfl, rfl, Nat.le_refl _, Nat.le_refl _, rfl, by simp, HH0.out, HW0.out, by omega, HB0.out⟩
    case round =>
      clear HH0 HW0 HB0
      obtain ⟨i, gh, nh, ch, gl, nl, cl, X, Y, hin, rfl, hX, hY, hnh, hnl, rfl, rfl, hOh, hOl, hne, hb⟩ := hrel
      have HX : Hid (X = highL (L.take i) av) := hX
      have HY : Hid (Y = lowL (L.take i) av) := hY
      have HOH : Hid (OwnE wr wc.heap.size gh nh ch X) := hOh
      have HOL : Hid (OwnE wr wc.heap.size gl nl cl Y) := hOl
      have HB : Hid (Below wc.heap.size wc wr) := hb
      have hbs := hb.size
      clear hX hY hOh hOl hb
      by_cases hlt : i < n
      · have hltI : (i : Int) < (n : Int) := by omega
        obtain ⟨es, eq, ed, et, en, hx, hw, e0, e1, e2, e3, e4⟩ := TC.out.ol.entsAt.ent HB.out TC.out.ol.lt.2 i hlt
        simp only [Nat.zero_add] at e0 e1 e2 e3 e4
        have HLX : Hid (L[i]? = some (es, eq, ed, et, en)) := hx
        have HEW : Hid (EntW (es, eq, ed, et, en)) := hw
        have zg : g < wr.heap.size := Nat.lt_of_lt_of_le TC.out.ol.lt.2 hbs
        clear hx hw
        have ka : Below wr.heap.size wr (wr.alloc (.cells #[.string es, .int .i64 eq, .int .i64 ed, .string et, .int .i64 en] 30)) := (Below.refl _ _).alloc (Nat.le_refl _) _
        have HKA : Hid (Below wr.heap.size wr (wr.alloc (.cells #[.string es, .int .i64 eq, .int .i64 ed, .string et, .int .i64 en] 30))) := ka
        clear ka
        by_cases hq : (av : Int) < eq
        · have hx2 : highL (L.take (i + 1)) av = X ++ [(es, eq, ed, et, en)] ∧ lowL (L.take (i + 1)) av = Y := by
            rw [HX.out, HY.out]
            unfold highL lowL
            rw [filter_snoc HLX.out, filter_snoc HLX.out]
            have h2 : ¬ eq ≤ (av : Int) := by omega
            simp [hq, h2]
          have HX2 : Hid (highL (L.take (i + 1)) av = X ++ [(es, eq, ed, et, en)] ∧ lowL (L.take (i + 1)) av = Y) := hx2
          clear hx2
          go_wp2_with (at_builtin; refine wpList_append_own_at _ rfl _ _ 23 rfl wc.heap.size 30 j0 _ 5 56 Tryz.underlying23 hj hy0 hy1 hy2 rfl (by decide) _ _ _ rfl (HOH.out.owns.alloc _) ⟨wr.heap.size, 0, none⟩ 1 1 (entCells (es, eq, ed, et, en)) rfl rfl (cell_five _ _ _ _ _ _ _) (flatE_one [(es, eq, ed, et, en)]) (by unfold maxLen; omega) (by omega) (by simp; omega) ?_; intro v1 w5 hown5 hgrow5 hnil5 hat5; obtain ⟨g5, c5, rfl⟩ := row_some hown5 hnil5)
          go_roundw
          case rel =>
            have hgr : (wr.alloc (.cells #[.string es, .int .i64 eq, .int .i64 ed, .string et, .int .i64 en] 30)).grownBy w5 (some gh) := hgrow5
            refine ⟨i + 1, g5, nh + 1, c5, gl, nl, cl, _, _, by omega, by go_num, HX2.out.1.symm, HX2.out.2.symm, by omega, by omega, rfl, rfl, row_two HOH.out HEW.out hown5, (HOL.out.below HKA.out).grown hgr (fun e => hne (Option.some.inj e).symm), ?_, (HB.out.alloc hbs _).grown hgr (by simp; omega) (fun j e => by cases e; exact HOH.out.lt.1)⟩
            have hl1 := HOL.out.lt.2
            rcases hat5 with h | h
            · have h1 : g5 = gh := Option.some.inj h
              omega
            · have h1 : g5 = (wr.alloc (.cells #[.string es, .int .i64 eq, .int .i64 ed, .string et, .int .i64 en] 30)).heap.size := Option.some.inj h
              rw [World.size_alloc] at h1
              omega
          case measure => simp [intOf]; omega
        · have hx2 : highL (L.take (i + 1)) av = X ∧ lowL (L.take (i + 1)) av = Y ++ [(es, eq, ed, et, en)] := by
            rw [HX.out, HY.out]
            unfold highL lowL
            rw [filter_snoc HLX.out, filter_snoc HLX.out]
            have h2 : eq ≤ (av : Int) := by omega
            simp [hq, h2]
          have HX2 : Hid (highL (L.take (i + 1)) av = X ∧ lowL (L.take (i + 1)) av = Y ++ [(es, eq, ed, et, en)]) := hx2
          clear hx2
          go_wp2_with (at_builtin; refine wpList_append_own_at _ rfl _ _ 23 rfl wc.heap.size 30 j0 _ 5 56 Tryz.underlying23 hj hy0 hy1 hy2 rfl (by decide) _ _ _ rfl (HOL.out.owns.alloc _) ⟨wr.heap.size, 0, none⟩ 1 1 (entCells (es, eq, ed, et, en)) rfl rfl (cell_five _ _ _ _ _ _ _) (flatE_one [(es, eq, ed, et, en)]) (by unfold maxLen; omega) (by omega) (by simp; omega) ?_; intro v1 w5 hown5 hgrow5 hnil5 hat5; obtain ⟨g5, c5, rfl⟩ := row_some hown5 hnil5)
          go_roundw
          case rel =>
            have hgr : (wr.alloc (.cells #[.string es, .int .i64 eq, .int .i64 ed, .string et, .int .i64 en] 30)).grownBy w5 (some gl) := hgrow5
            refine ⟨i + 1, gh, nh, ch, g5, nl + 1, c5, _, _, by omega, by go_num, HX2.out.1.symm, HX2.out.2.symm, by omega, by omega, rfl, rfl, (HOH.out.below HKA.out).grown hgr (fun e => hne (Option.some.inj e)), row_two HOL.out HEW.out hown5, ?_, (HB.out.alloc hbs _).grown hgr (by simp; omega) (fun j e => by cases e; exact HOL.out.lt.1)⟩
            have hl1 := HOH.out.lt.2
            rcases hat5 with h | h
            · have h1 : g5 = gl := Option.some.inj h
              omega
            · have h1 : g5 = (wr.alloc (.cells #[.string es, .int .i64 eq, .int .i64 ed, .string et, .int .i64 en] 30)).heap.size := Option.some.inj h
              rw [World.size_alloc] at h1
              omega
          case measure => simp [intOf]; omega
      · have hltI : ¬ (i : Int) < (n : Int) := by omega
        have hXL : X = highL L av := by rw [HX.out, List.take_of_length_le (by rw [HLN.out]; omega)]
        have hYL : Y = lowL L av := by rw [HY.out, List.take_of_length_le (by rw [HLN.out]; omega)]
        have TR : Hid (PqSt w wr g n c gs m cs ag ng cg L S F) := TC.out.below HB.out
        obtain ⟨Hh, hHh⟩ : ∃ Hh, Hh = squashL (highL L av) S false := ⟨_, rfl⟩
        obtain ⟨Wl, hWl⟩ : ∃ Wl, Wl = squashL (lowL L av) S true := ⟨_, rfl⟩
        rw [← hHh, ← hWl] at HPR HPT
        have hHl : Hh.length ≤ nh := by rw [hHh]; have h1 := squashL_len (highL L av) S false; have h2 := HOH.out.len; rw [hXL] at h2; omega
        have hWll : Wl.length ≤ nl := by rw [hWl]; have h1 := squashL_len (lowL L av) S true; have h2 := HOL.out.len; rw [hYL] at h2; omega
        have hsmH : ∀ e ∈ Hh, SmE e := by
          rw [hHh]
          have hrH : rightB (highL L av) = true := strict_right (strict_filter (right_strict HRL.out) _) (fun e he => HDE.out e (List.mem_filter.1 he).1)
          exact squash_small hrH S false
        have hsmW : ∀ e ∈ Wl, SmE e := by
          rw [hWl]
          have hrW : rightB (lowL L av) = true := strict_right (strict_filter (right_strict HRL.out) _) (fun e he => HDE.out e (List.mem_filter.1 he).1)
          exact squash_small hrW S true
        have C1 := CI.out _ _ _ _ X _ _ _ S false wr HOH.out.entsAt TR.out.os.ints (by omega) (by omega)
        rw [hXL, ← hHh] at C1
        have HSMA : Hid ((∀ e ∈ Hh, SmE e) ∧ ∀ e ∈ Wl, SmE e) := ⟨hsmH, hsmW⟩
        have HLA : Hid (Hh.length ≤ nh ∧ Wl.length ≤ nl) := ⟨hHl, hWll⟩
        have HYL : Hid (Y = lowL L av) := hYL
        have HWL : Hid (Wl = squashL (lowL L av) S true) := hWl
        clear hXL hYL hHh hWl hsmH hsmW hHl hWll HX HY TC HB
        go_wp2_with fail
        refine C1.mono ?_
        rintro e w5 ⟨ah, mh, dh, rfl, hO5, hb5⟩
        have TR5 : Hid (PqSt w w5 g n c gs m cs ag ng cg L S F) := TR.out.below hb5
        have HH5 : Hid (EntsAt w5 ah mh dh Hh) := hO5.entsAt
        have C2 := CI.out _ _ _ _ Y _ _ _ S true w5 (HOL.out.below hb5).entsAt TR5.out.os.ints (by omega) (by omega)
        rw [HYL.out, ← HWL.out] at C2
        clear hO5 hb5 C1 TR HOH HOL HYL HWL
        go_wp2_with fail
        refine C2.mono ?_
        rintro e w6 ⟨al, ml, dl, rfl, hO6, hb6⟩
        have TR6 : Hid (PqSt w w6 g n c gs m cs ag ng cg L S F) := TR5.out.below hb6
        have HH6 : Hid (EntsAt w6 ah mh dh Hh) := HH5.out.keep hb6
        have HL6 : Hid (EntsAt w6 al ml dl Wl) := hO6.entsAt
        clear hO6 hb6 C2 TR5 HH5
        have HPA := parts_two w6 ah al mh dh ml dl Hh Wl HH6.out HL6.out
        have hfl : [Hh, Wl].flatten = Hh ++ Wl := by simp
        have hfn : [Hh, Wl].flatten.length ≤ 30 := by rw [hfl, List.length_append]; have h1 := HLA.out.1; have h2 := HLA.out.2; omega
        have CM := callsIn_wide.1 (implMerge _ _ _ [Hh, Wl] _ HPA (by omega) (by omega) (fun e he => by
          rw [hfl] at he
          rcases List.mem_append.1 he with h1 | h1
          · exact HSMA.out.1 e h1
          · exact HSMA.out.2 e h1))
        have HKA : Hid (Below w6.heap.size w6 (w6.alloc (.cells #[.slice ah mh dh, .slice al ml dl] 23))) := (Below.refl _ _).alloc (Nat.le_refl _) _
        obtain ⟨W6, hW6⟩ : ∃ W6, W6 = w6.alloc (.cells #[.slice ah mh dh, .slice al ml dl] 23) := ⟨_, rfl⟩
        have HFL2 : Hid ([Hh, Wl].flatten = Hh ++ Wl) := hfl
        have HFN : Hid ([Hh, Wl].flatten.length ≤ 30) := hfn
        clear hfl hfn HPA
        go_wp2_with fail
        refine CM.mono ?_
        rintro e w7 ⟨⟨g7, rfl, hO7⟩, hb7⟩
        have hb67 : Below w6.heap.size w6 w7 := HKA.out.trans (hb7.mono HKA.out.size)
        have TR7 : Hid (PqSt w w7 g n c gs m cs ag ng cg L S F) := TR6.out.below hb67
        rw [HFL2.out] at hO7 ⊢
        obtain ⟨n7, hn7⟩ : ∃ n7, (Hh ++ Wl).length = n7 := ⟨_, rfl⟩
        have hn30 : n7 ≤ 30 := by have := HFN.out; rw [HFL2.out] at this; omega
        rw [hn7] at hO7 ⊢
        have C3 := CI.out _ _ _ _ _ _ _ _ S true w7 hO7.entsAt TR7.out.os.ints (by omega) (by omega)
        clear hb7 hb67 HKA TR6 HH6 HL6 CM hO7 hn7 hW6
        go_wp2_with fail
        refine C3.mono ?_
        rintro e w8 ⟨aa, na, ca, rfl, hO8, hb8⟩
        obtain ⟨A, hA⟩ : ∃ A, A = squashL (sortE (Hh ++ Wl)) S true := ⟨_, rfl⟩
        rw [← hA] at hO8
        have hna : na ≤ 30 := by
          have h1 := hO8.len
          have h2 := squashL_len (sortE (Hh ++ Wl)) S true
          rw [← hA] at h2
          have h3 := HFN.out
          rw [HFL2.out] at h3
          have h4 : (sortE (Hh ++ Wl)).length = (Hh ++ Wl).length := (sort_both _).2.length_eq
          omega
        have TR8 : Hid (PqSt w w8 g n c gs m cs ag ng cg L S F) := TR7.out.below hb8
        have HA8 : Hid (OwnO w8 w.heap.size aa na ca A) := hO8.mono TR7.out.all.size
        have HSA : Hid (∀ e ∈ A, e.2.2.2.1.size ≤ 281474976710656) := by rw [hA]; exact fun e he => (squash_small HPR.out S true e he).2
        have HSF : Hid (∀ e ∈ F, e.2.2.2.1.size ≤ 281474976710656) := by rw [HF.out]; exact fun e he => (squash_small HRL.out S true e he).2
        have HEQ : Hid (∀ key t, t ∈ 100000 :: S → cellL A key t = cellL F key t) := fun key t ht => by
          rw [hA, HF.out]
          exact HPT.out key t (by rcases List.mem_cons.1 ht with rfl | h; exact .inr (Int.le_refl _); exact .inl h)
        clear hO8 hb8 C3 TR7 hA HPT HPR HSMA HLA HFN HFL2
        obtain ⟨Xb, hXb⟩ : ∃ Xb, Xb = w8.heap.size := ⟨_, rfl⟩
        obtain ⟨w9, hw9⟩ : ∃ w9, w9 = w8.alloc (.cells #[.int .i64 100000] 3) := ⟨_, rfl⟩
        have k89 : Below w8.heap.size w8 w9 := by rw [hw9]; exact (Below.refl _ _).alloc (Nat.le_refl _) _
        have TR9 : Hid (PqSt w w9 g n c gs m cs ag ng cg L S F) := TR8.out.below k89
        have HA9 : Hid (OwnO w9 w.heap.size aa na ca A) := HA8.out.below k89
        have HX9 : Hid (OwnN w9 w.heap.size Xb 1 1 [100000]) := by rw [hw9, hXb]; exact own_last w8 _ TR8.out.all.size
        have HNX : Hid (g ≠ Xb ∧ (∀ x, ag = some x → x.block ≠ Xb) ∧ ∀ x, aa = some x → x.block ≠ Xb) := ⟨by have := TR8.out.ol.lt.2; omega, fun x e => by have := (TR8.out.og.lt x e).2; omega, fun x e => by have := (HA8.out.lt x e).2; omega⟩
        clear k89 TR8 HA8
        go_wp2_with (at_builtin; rw [← hw9, ← hXb]; refine wpList_append_own_at _ rfl _ _ 24 rfl w.heap.size 3 i0 _ 1 8 Tryz.underlying24 hi hz0 hz1 hz2 rfl (by decide) _ _ _ rfl HX9.out.owns ⟨gs, 0, none⟩ m cs (S.map (Value.int .i64)) rfl (by rw [List.length_map, HSS.out]; omega) (ints_news TR9.out.os.ints) (fun u hu => by obtain ⟨q, _, rfl⟩ := List.mem_map.1 hu; rfl) (by unfold maxLen; omega) (by omega) (by have := HX9.out.lt; omega) ?_; intro v1 w10 hown10 hgrow10 hnil10 hat10; obtain ⟨gt, ct, rfl⟩ := fq_some hown10 hnil10)
        have hgr : w9.grownBy w10 (some Xb) := hgrow10
        have HT10 : Hid (OwnN w10 w.heap.size gt (1 + m) ct (100000 :: S)) := ⟨by simpa using hown10, by rw [List.length_cons, HSS.out]; omega, fun x hx => by
          rcases List.mem_cons.1 hx with rfl | hx
          · decide
          · exact TR9.out.os.wfs x hx⟩
        have HB10 : Hid (Below w.heap.size w w10) := TR9.out.all.grown hgr TR9.out.all.size (fun k e => by cases e; exact HX9.out.lt.1)
        have HL10 : Hid (OwnE w10 w.heap.size g n c L) := TR9.out.ol.grown hgr (fun e => HNX.out.1 (Option.some.inj e))
        have HG10 : Hid (EntsAt w10 ag ng cg F) := (TR9.out.og.grown hgr (fun x e e' => HNX.out.2.1 x e (by cases e'; rfl))).entsAt
        have HA10 : Hid (EntsAt w10 aa na ca A) := (HA9.out.grown hgr (fun x e e' => HNX.out.2.2 x e (by cases e'; rfl))).entsAt
        obtain ⟨nt, hnt⟩ : ∃ nt, nt = 1 + m := ⟨_, rfl⟩
        obtain ⟨TT, hTT⟩ : ∃ TT, TT = 100000 :: S := ⟨_, rfl⟩
        rw [← hnt, ← hTT] at HT10
        rw [← hTT] at HEQ
        try rw [← hnt]
        have hnt4 : nt ≤ 4 := by omega
        clear hnt hTT hown10 hgrow10 hnil10 hat10 hgr TR9 HA9 HX9 HNX hw9 hXb
        go_loopw [16] (fun iv wq => ∃ i : Nat, i ≤ n ∧ iv = .int .i64 i ∧ Below w10.heap.size w10 wq) (fun iv _ => n - (intOf iv).toNat)
        case atStart => exact ⟨0, Nat.zero_le _, rfl, Below.refl _ _⟩
        case round =>
          obtain ⟨i, hi1, rfl, hbq⟩ := hrel
          have HBQ : Hid (Below w10.heap.size w10 wr) := hbq
          clear hbq
          by_cases hil : i < n
          · have hilI : (i : Int) < (n : Int) := by omega
            obtain ⟨s, q, d, t, mm, hx, _, _⟩ := HL10.out.entsAt.ent HBQ.out HL10.out.lt.2 i hil
            have HXI : Hid (L[i]? = some (s, q, d, t, mm)) := hx
            clear hx
            go_wp2
            go_loopw [17] (fun kv wq => ∃ k : Nat, k ≤ nt ∧ kv = .int .i64 k ∧ Below w10.heap.size w10 wq) (fun kv _ => nt - (intOf kv).toNat)
            case atStart => exact ⟨0, Nat.zero_le _, rfl, HBQ.out⟩
            case round =>
              clear HBQ
              obtain ⟨k, hk1, rfl, hbq⟩ := hrel
              have HBQ : Hid (Below w10.heap.size w10 wr) := hbq
              by_cases hkl : k < nt
              · have hklI : (k : Int) < (nt : Int) := by omega
                obtain ⟨s1, q1, d1, t1, m1, hx, _, e0, _⟩ := HL10.out.entsAt.ent hbq HL10.out.lt.2 i hil
                rw [HXI.out] at hx
                cases hx
                simp only [Nat.zero_add] at e0
                obtain ⟨tq, hTk, _, c0⟩ := HT10.out.ints.num hbq k hkl
                simp only [Nat.zero_add] at c0
                have hmem : tq ∈ TT := List.mem_of_getElem? hTk
                obtain ⟨x, hxx⟩ : ∃ x, x = cellL F s tq := ⟨_, rfl⟩
                have hxa : cellL A s tq = x := by rw [hxx]; exact HEQ.out s tq hmem
                obtain ⟨xb, xt, xn⟩ := x
                have CA : Hid (∀ w', Below wr.heap.size wr w' → Calls Tryz.prog 12 #[.slice aa na ca, .string s, .int .i64 tq] w' fun e w'' => e = .returned (.agg #[.bool xb, .string xt, .int .i64 xn]) ∧ Below w'.heap.size w' w'') := fun w' kk => by
                  have := implCellAll _ _ _ A s tq w' (HA10.out.keep (HBQ.out.trans (kk.mono HBQ.out.size))) (by omega) HSA.out
                  rw [hxa] at this
                  exact this
                have CO : Hid (∀ w', Below wr.heap.size wr w' → Calls Tryz.prog 12 #[.slice ag ng cg, .string s, .int .i64 tq] w' fun e w'' => e = .returned (.agg #[.bool xb, .string xt, .int .i64 xn]) ∧ Below w'.heap.size w' w'') := fun w' kk => by
                  have := implCellAll _ _ _ F s tq w' (HG10.out.keep (HBQ.out.trans (kk.mono HBQ.out.size))) (by omega) HSF.out
                  rw [← hxx] at this
                  exact this
                have heq := neqC_same xb xt xn
                have zg : g < wr.heap.size := Nat.lt_of_lt_of_le HL10.out.lt.2 hbq.size
                have zt : gt < wr.heap.size := Nat.lt_of_lt_of_le HT10.out.lt.2 hbq.size
                have k0 : Below wr.heap.size wr wr.drew := (Below.refl _ wr).drew
                have HMK : Hid (∀ w', Below wr.heap.size wr w' → (w'.cell? ⟨g, i * 5, none⟩ = some (.string s) ∧ w'.cell? ⟨gt, k, none⟩ = some (.int .i64 tq) ∧ g < w'.heap.size ∧ gt < w'.heap.size)) := fun w' kk => ⟨cell_later kk e0, cell_later kk c0, Nat.lt_of_lt_of_le zg kk.size, Nat.lt_of_lt_of_le zt kk.size⟩
                clear e0 c0 hTk hmem hxx hxa zg zt hbq
                go_wp2_with fail
                refine wp_region_held_drew (S := (fun w' => w'.cell? ⟨g, i * 5, none⟩ = some (.string s) ∧ w'.cell? ⟨gt, k, none⟩ = some (.int .i64 tq) ∧ g < w'.heap.size ∧ gt < w'.heap.size)) (by kernel_rfl) (HMK.out _ k0) (fun hHeld => ?_)
                refine wpAnyH_takeL (i := 0) (v := ?_) rfl (by kernel_rfl) (by kernel_rfl) (by kernel_rfl) (fun _ _ _ h => h) (Or.inl ⟨by rfl, ?_⟩) hHeld ?_
                rotate_left
                · (intro w hSw; (try dsimp only at hSw); go_simp; try with_reducible rfl)
                try go_frame
                refine wpAnyH_takeL (i := 1) (v := ?_) rfl (by kernel_rfl) (by kernel_rfl) (by kernel_rfl) (fun _ _ _ h => h) (Or.inl ⟨by rfl, ?_⟩) hHeld ?_
                rotate_left
                · (intro w hSw; (try dsimp only at hSw); go_simp; try with_reducible rfl)
                try go_frame
                refine wpAnyH_takeL (i := 2) (v := ?_) rfl (by kernel_rfl) (by kernel_rfl) (by kernel_rfl) (fun _ _ _ h => h) (Or.inl ⟨by rfl, ?_⟩) hHeld ?_
                rotate_left
                · (intro w hSw; (try dsimp only at hSw); go_simp; try with_reducible rfl)
                try go_frame
                refine wpAnyH_takeL (i := 3) (v := ?_) rfl (by kernel_rfl) (by kernel_rfl) (by kernel_rfl) (fun _ _ _ h => h) (Or.inl ⟨by rfl, ?_⟩) hHeld ?_
                rotate_left
                · (intro w hSw; (try dsimp only at hSw); go_simp; try with_reducible rfl)
                try go_frame
                refine wpAnyH_takeL (i := 4) (v := ?_) rfl (by kernel_rfl) (by kernel_rfl) (by kernel_rfl) (fun _ _ _ h => h) (Or.inl ⟨by rfl, ?_⟩) hHeld ?_
                rotate_left
                · (intro w hSw; (try dsimp only at hSw); go_simp; try with_reducible rfl)
                try go_frame
                refine wpAnyH_takeL (i := 5) (v := ?_) rfl (by kernel_rfl) (by kernel_rfl) (by kernel_rfl) (fun _ _ _ h => h) (Or.inl ⟨by rfl, ?_⟩) hHeld ?_
                rotate_left
                · (intro w hSw; (try dsimp only at hSw); go_simp; try with_reducible rfl)
                try go_frame
                refine wpAnyH_takeL (i := 6) (v := ?_) rfl (by kernel_rfl) (by kernel_rfl) (by kernel_rfl) (fun _ _ _ h => h) (Or.inl ⟨by rfl, ?_⟩) hHeld ?_
                rotate_left
                · (intro w hSw; (try dsimp only at hSw); go_simp; try with_reducible rfl)
                try go_frame
                refine wpAnyH_takeL (i := 7) (v := ?_) rfl (by kernel_rfl) (by kernel_rfl) (by kernel_rfl) (fun _ _ _ h => h) (Or.inl ⟨by rfl, ?_⟩) hHeld ?_
                rotate_left
                · (intro w hSw; (try dsimp only at hSw); go_simp; try with_reducible rfl)
                try go_frame
                refine wpAnyH_takeL (i := 8) (v := ?_) rfl (by kernel_rfl) (by kernel_rfl) (by kernel_rfl) (fun _ _ _ h => h) (Or.inl ⟨by rfl, ?_⟩) hHeld ?_
                rotate_left
                · (intro w hSw; (try dsimp only at hSw); go_simp; try with_reducible rfl)
                try go_frame
                refine wpAnyH_takeL (i := 9) (v := ?_) rfl (by kernel_rfl) (by kernel_rfl) (by kernel_rfl) (fun _ _ _ h => h) (Or.inl ⟨by rfl, ?_⟩) hHeld ?_
                rotate_left
                · (intro w hSw; (try dsimp only at hSw); go_simp; try with_reducible rfl)
                try go_frame
                refine wpAnyH_takeL (i := 11) (v := ?_) rfl (by kernel_rfl) (by kernel_rfl) (by kernel_rfl) (fun _ _ _ h => h) (Or.inl ⟨by rfl, ?_⟩) hHeld ?_
                rotate_left
                · (intro w hSw; (try dsimp only at hSw); go_simp; try with_reducible rfl)
                try go_frame
                refine wpAnyH_takeL (i := 12) (v := ?_) rfl (by kernel_rfl) (by kernel_rfl) (by kernel_rfl) (fun _ _ _ h => h) (Or.inl ⟨by rfl, ?_⟩) hHeld ?_
                rotate_left
                · (intro w hSw; (try dsimp only at hSw); go_simp; try with_reducible rfl)
                try go_frame
                refine wpAnyH_takeL (i := 13) (v := ?_) rfl (by kernel_rfl) (by kernel_rfl) (by kernel_rfl) (fun _ _ _ h => h) (Or.inl ⟨by rfl, ?_⟩) hHeld ?_
                rotate_left
                · (intro w hSw; (try dsimp only at hSw); go_simp; try with_reducible rfl)
                try go_frame
                refine wpAnyH_takeL (i := 14) (v := ?_) rfl (by kernel_rfl) (by kernel_rfl) (by kernel_rfl) (fun _ _ _ h => h) (Or.inl ⟨by rfl, ?_⟩) hHeld ?_
                rotate_left
                · (intro w hSw; (try dsimp only at hSw); go_simp; try with_reducible rfl)
                try go_frame
                refine wpAnyH_takeL (i := 15) (v := ?_) rfl (by kernel_rfl) (by kernel_rfl) (by kernel_rfl) (fun _ _ _ h => h) (Or.inl ⟨by rfl, ?_⟩) hHeld ?_
                rotate_left
                · (intro w hSw; (try dsimp only at hSw); go_simp; try with_reducible rfl)
                try go_frame
                refine wpAnyH_takeL (i := 16) (v := ?_) rfl (by kernel_rfl) (by kernel_rfl) (by kernel_rfl) (fun _ _ _ h => h) (Or.inl ⟨by rfl, ?_⟩) hHeld ?_
                rotate_left
                · (intro w hSw; (try dsimp only at hSw); go_simp; try with_reducible rfl)
                try go_frame
                refine wpAnyH_takeL (i := 17) (v := ?_) rfl (by kernel_rfl) (by kernel_rfl) (by kernel_rfl) (fun _ _ _ h => h) (Or.inl ⟨by rfl, ?_⟩) hHeld ?_
                rotate_left
                · (intro w hSw; (try dsimp only at hSw); go_simp; try with_reducible rfl)
                try go_frame
                refine wpAnyH_takeL (i := 18) (v := ?_) rfl (by kernel_rfl) (by kernel_rfl) (by kernel_rfl) (fun _ _ _ h => h) (Or.inl ⟨by rfl, ?_⟩) hHeld ?_
                rotate_left
                · (intro w hSw; (try dsimp only at hSw); go_simp; try with_reducible rfl)
                try go_frame
                refine wpAnyH_takeL (i := 19) (v := ?_) rfl (by kernel_rfl) (by kernel_rfl) (by kernel_rfl) (fun _ _ _ h => h) (Or.inl ⟨by rfl, ?_⟩) hHeld ?_
                rotate_left
                · (intro w hSw; (try dsimp only at hSw); go_simp; try with_reducible rfl)
                try go_frame
                refine wpAnyH_takeL (i := 20) (v := ?_) rfl (by kernel_rfl) (by kernel_rfl) (by kernel_rfl) (fun _ _ _ h => h) (Or.inl ⟨by rfl, ?_⟩) hHeld ?_
                rotate_left
                · (intro w hSw; (try dsimp only at hSw); go_simp; try with_reducible rfl)
                try go_frame
                refine wpAnyH_ready (rs := [10]) (by kernel_rfl) (by simp) ?_
                refine consL rfl (fun K hK => ?_) AllReadyH.nil
                go_simp
                refine (CA.out _ k0).mono ?_
                rintro e v1 ⟨rfl, b1⟩
                have k1 : Below wr.heap.size wr v1 := k0.trans (b1.mono k0.size)
                go_wp2_with fail
                refine hK.out _ _ (HMK.out _ k1) (fun hHeld => ?_)
                clear hK K
                try go_frame
                refine wpAnyH_ready (rs := [21]) (by kernel_rfl) (by simp) ?_
                refine consL rfl (fun K hK => ?_) AllReadyH.nil
                go_simp
                refine (CO.out _ k1).mono ?_
                rintro e v2 ⟨rfl, b2⟩
                have k2 : Below wr.heap.size wr v2 := k1.trans (b2.mono k1.size)
                go_wp2_with fail
                refine hK.out _ _ (HMK.out _ k2) (fun hHeld => ?_)
                clear hK K
                try go_frame
                refine wpAnyH_takeL (i := 22) (v := ?_) rfl (by kernel_rfl) (by kernel_rfl) (by kernel_rfl) (fun _ _ _ h => h) (Or.inl ⟨by rfl, ?_⟩) hHeld ?_
                rotate_left
                · (intro w hSw; (try dsimp only at hSw); go_simp; try with_reducible rfl)
                try go_frame
                refine wpAnyH_done (by kernel_rfl) ?_ _
                clear HMK hHeld
                have HB2 : Hid (Below w10.heap.size w10 v2) := HBQ.out.trans (k2.mono HBQ.out.size)
                clear k0 k1 k2 b1 b2 HBQ
                go_wp2
                go_roundw
                case rel => exact ⟨k + 1, by omega, by go_num, HB2.out⟩
                case measure => simp [intOf]; omega
              · have hklI : ¬ (k : Int) < (nt : Int) := by omega
                clear hbq
                go_wp2
                go_roundw
                case rel => exact ⟨i + 1, by omega, by go_num, HBQ.out⟩
                case measure => simp [intOf]; omega
          · have hilI : ¬ (i : Int) < (n : Int) := by omega
            go_wp2
            go_ret
            exact ⟨rfl, HB10.out.trans (HBQ.out.mono HB10.out.size)⟩
end Go.Proofs.YthhiahjafhkbbaaGreat
