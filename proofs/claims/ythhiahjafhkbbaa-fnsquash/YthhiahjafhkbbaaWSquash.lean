/-
  The walk of the law FnSquash: it answers true at all bytes: what is left of entries tells of each key the same at each time that is kept, and at the last.
-/
import Derived.Test.YthhiahjafhkbbaaSqX
import Derived.Test.YthhiahjafhkbbaaSqG
import Derived.Test.YthhiahjafhkbbaaSqT
import Derived.Test.YthhiahjafhkbbaaDrawSq
import Derived.Test.YthhiahjafhkbbaaWpEnts
import Derived.Test.YthhiahjafhkbbaaCellAI
namespace Go.Proofs.Ythhiahjafhkbbaa
open Go.RowKit

set_option maxRecDepth 100000 in
theorem neqC_same (b : Bool) (t : ByteArray) (n : Int) (w : World) : (binOp .neq 35 (.agg #[.bool b, .string t, .int .i64 n]) (.agg #[.bool b, .string t, .int .i64 n])).run Try.prog w = .ok (.bool false) w := by
  have hs := run_equalIn_struct (P := Try.prog) w 9999 35 #[.bool b, .string t, .int .i64 n] #[.bool b, .string t, .int .i64 n] (by kernel_rfl) (by kernel_rfl)
  simp [binOp, Op.equal, Op.maxDepth, hs, go_sem, Try.underlying35]

/-! Keys and times of what is left. -/
def kq (e : EntD) : ByteArray × Int := (e.1, e.2.1)
theorem cl_sub (b : Bool) : ∀ c : List EntD, ((clS b c).map kq).Sublist (c.map kq)
  | [] => List.Sublist.refl _
  | e :: R => by
    show ((classG b e.1 e.2.1 (e :: R)).map kq).Sublist _
    unfold classG
    by_cases h1 : sumOkB (joinG true 0 (e :: R)).2.2 = true
    · rw [if_pos h1]
      by_cases h2 : b = true ∧ (joinG true 0 (e :: R)).1 = 2
      · rw [if_pos h2]; exact List.nil_sublist _
      · rw [if_neg h2]
        simp only [List.map_cons, List.map_nil, kq]
        exact List.Sublist.cons_cons _ (List.nil_sublist _)
    · rw [if_neg h1]; exact List.Sublist.refl _
theorem left_sub (bottom : Bool) : ∀ Cs : List (List EntD), ((Cs.foldr (Sq.stepD clS) (bottom, [])).2.map kq).Sublist (Cs.flatten.map kq)
  | [] => List.Sublist.refl _
  | c :: Cs => by
    have ih := left_sub bottom Cs
    rw [List.foldr_cons, List.flatten_cons, List.map_append]
    generalize Cs.foldr (Sq.stepD clS) (bottom, []) = st at ih ⊢
    show ((clS st.1 c ++ st.2).map kq).Sublist _
    rw [List.map_append]
    exact List.Sublist.append (cl_sub _ c) ih
theorem flat_sub (S : List Int) (bottom : Bool) : ∀ Gs : List (List EntD), ((Gs.flatMap (leftS S bottom)).map kq).Sublist (Gs.flatten.map kq)
  | [] => List.Sublist.refl _
  | G :: Gs => by
    have ih := flat_sub S bottom Gs
    have h := left_sub bottom (Sq.parts (cutB S) G)
    rw [Sq.parts_flat] at h
    rw [List.flatMap_cons, List.flatten_cons, List.map_append, List.map_append]
    exact List.Sublist.append h ih
theorem squash_pair {L : List EntD} (h : L.Pairwise (fun a b => lessB a.1 a.2.1 b.1 b.2.1 = true)) (S : List Int) (bottom : Bool) : (squashL L S bottom).Pairwise (fun a b => lessB a.1 a.2.1 b.1 b.2.1 = true) := by
  unfold squashL
  by_cases hr : rightB L = true
  · rw [if_pos hr]
    have hs := flat_sub S bottom (Sq.parts keyEq L)
    rw [Sq.parts_flat] at hs
    have h1 : (L.map kq).Pairwise (fun a b => lessB a.1 a.2 b.1 b.2 = true) := List.pairwise_map.2 h
    exact List.pairwise_map.1 (h1.sublist hs)
  · rw [if_neg hr]; exact List.Pairwise.nil
theorem squash_small {L : List EntD} (hr : rightB L = true) (S : List Int) (bottom : Bool) : ∀ e ∈ squashL L S bottom, SmE e := by
  unfold squashL
  rw [if_pos hr]
  intro e he
  obtain ⟨G, hG, heG⟩ := List.mem_flatMap.1 he
  have key : ∀ Cs : List (List EntD), (∀ c ∈ Cs, ∀ e ∈ c, SmE e) → ∀ e ∈ (Cs.foldr (Sq.stepD clS) (bottom, [])).2, SmE e := by
    intro Cs
    induction Cs with
    | nil => intro _ e he; cases he
    | cons c Cs ih =>
      intro h e he
      have ih' := ih (fun x hx => h x (List.mem_cons_of_mem _ hx))
      rw [List.foldr_cons] at he
      generalize Cs.foldr (Sq.stepD clS) (bottom, []) = st at ih' he
      have he' : e ∈ clS st.1 c ++ st.2 := he
      rcases List.mem_append.1 he' with h1 | h1
      · exact clS_small _ c (h c List.mem_cons_self) e h1
      · exact ih' e h1
  exact key _ (fun c hc e he => right_sm hr e ((part_len _ _ G hG).2 e ((part_len _ _ c hc).2 e he))) e heG
theorem cell_squash {L : List EntD} (hr : rightB L = true) (S : List Int) (bottom : Bool) (key : ByteArray) (t : Int) (ht : t ∈ S ∨ 100000 ≤ t) : cellL (squashL L S bottom) key t = cellL L key t := by
  rw [cell_ev (squash_pair (right_pair hr) S bottom), cell_ev (right_pair hr), squash_tells hr S bottom key t ht]
theorem right_all {L : List EntD} {n : Nat} (hl : L.length = n) (h1 : ∀ e ∈ L, entB e.1 e.2.1 e.2.2.1 e.2.2.2.1 e.2.2.2.2 = true) (h2 : ∀ j, 1 ≤ j → j < n → ∀ x y, L[j - 1]? = some x → L[j]? = some y → lessB x.1 x.2.1 y.1 y.2.1 = true) : rightB L = true := by
  refine right_of (k := n) (fun j hj => ?_) (by omega)
  have hjl : j < L.length := by omega
  have he := List.getElem?_eq_getElem hjl
  match j, hj, hjl, he with
  | 0, _, hjl, he => rw [okAt_zero he]; exact h1 _ (List.getElem_mem hjl)
  | j + 1, hj, hjl, he =>
    have hd := List.getElem?_eq_getElem (l := L) (i := j) (by omega)
    rw [okAt_succ he hd, h1 _ (List.getElem_mem hjl), h2 (j + 1) (by omega) hj _ _ (show L[j + 1 - 1]? = _ from hd) he]
    rfl

/-- What lies where. -/
structure FqSt (w wi : World) (g n c gt nt ct : Nat) (ag : Option Addr) (ng cg : Nat) (L : List EntD) (T : List Int) (F : List EntD) : Prop where
  all : Below w.heap.size w wi
  ol : OwnE wi w.heap.size g n c L
  ot : OwnN wi w.heap.size gt nt ct T
  og : OwnO wi w.heap.size ag ng cg F
theorem FqSt.below {w wi wj : World} {g n c gt nt ct : Nat} {ag : Option Addr} {ng cg : Nat} {L : List EntD} {T : List Int} {F : List EntD} (h : FqSt w wi g n c gt nt ct ag ng cg L T F) (hb : Below wi.heap.size wi wj) : FqSt w wj g n c gt nt ct ag ng cg L T F :=
  ⟨h.all.trans (hb.mono h.all.size), h.ol.below hb, h.ot.below hb, h.og.below hb⟩
theorem own_last (w : World) (base : Nat) (h : base ≤ w.heap.size) : OwnN (w.alloc (.cells #[.int .i64 100000] 3)) base w.heap.size 1 1 [100000] :=
  ⟨by have := World.ownsRow_lit (base := base) (e := 3) (size := 1) w #[.int .i64 100000] 1 h (by unfold maxLen; omega) (by simp); simpa using this, rfl, fun q hq => by
    simp only [List.mem_cons, List.not_mem_nil, or_false] at hq
    subst hq
    decide⟩
theorem ints_news {w : World} {lo g n c : Nat} {S : List Int} (h : IntsIn lo w (some ⟨g, 0, none⟩) n c S) : ∀ j u, (S.map (Value.int .i64))[j]? = some u → w.cell? ((⟨g, 0, none⟩ : Addr).add j) = some u := by
  intro j u hj
  rw [List.getElem?_map] at hj
  by_cases hl : j < S.length
  · rw [List.getElem?_eq_getElem hl] at hj
    simp at hj
    subst hj
    rw [Go.WideShapes.add_plain]
    exact h.cells _ rfl j hl
  · rw [List.getElem?_eq_none (by omega)] at hj; cases hj
theorem fq_some {w : World} {base : Nat} {e : TypeId} {size k X m : Nat} {v : Value} {xs : List Value} (h : w.ownsRow base e size v k xs) (hn : v = .slice none 0 0 ↔ Value.slice (some ⟨X, 0, none⟩) 1 1 = .slice none 0 0 ∧ m = 0) : ∃ g cap, v = .slice (some ⟨g, 0, none⟩) k cap := by
  rcases h.2 with ⟨hv, h0⟩ | ⟨g, cap, _, rfl, _⟩
  · have := (hn.1 hv).1; cases this
  · exact ⟨g, cap, rfl⟩
theorem fqA {w w5 w6 : World} {X g n c gs m cs g6 c6 : Nat} {ag : Option Addr} {ng cg : Nat} {L : List EntD} {S : List Int} {F : List EntD} (hX : OwnN w5 w.heap.size X 1 1 [100000]) (hall : Below w.heap.size w w5) (hol : OwnE w5 w.heap.size g n c L) (hos : OwnN w5 w.heap.size gs m cs S) (hog : OwnO w5 w.heap.size ag ng cg F) (h1 : g ≠ X) (h2 : ∀ x, ag = some x → x.block ≠ X)
    (hown : w6.ownsRow w.heap.size 3 1 (.slice (some ⟨g6, 0, none⟩) (1 + m) c6) (1 + m) (([100000] : List Int).map (Value.int .i64) ++ S.map (Value.int .i64))) (hgrow : w5.grownBy w6 (Value.slice (some ⟨X, 0, none⟩) 1 1).ownBlock) : FqSt w w6 g n c g6 (1 + m) c6 ag ng cg L (100000 :: S) F := by
  have hg' : w5.grownBy w6 (some X) := by simpa [Value.ownBlock] using hgrow
  refine ⟨hall.grown hg' hall.size (fun k e => by cases e; exact hX.lt.1), hol.grown hg' (fun e => h1 (Option.some.inj e)), ⟨by simpa using hown, by rw [List.length_cons, hos.len]; omega, fun x hx => ?_⟩, hog.grown hg' (fun x e e' => h2 x e (by cases e'; rfl))⟩
  rcases List.mem_cons.1 hx with rfl | hx
  · decide
  · exact hos.wfs x hx

set_option maxRecDepth 100000 in
set_option maxHeartbeats 8000000 in
theorem walkFnSquash (a : Option Addr) (len cap : Nat) (w : World) (h : BytesAt w a len cap) :
    Calls Try.prog 6 #[.slice a len cap] w fun e w' => e = .returned (.bool true) ∧ Below w.heap.size w w' := by
  by_cases hl : len ≤ 1048576
  · have hlI : ¬ (1048576 : Int) < (len : Int) := by omega
    obtain ⟨i0, hi, hz0, hz1, hz2⟩ := info_parts Try.infoInt
    have CD := drawSq_any a len cap w h
    clear h
    go_enter Try.func6, Try.ntmps6
    go_wp2_with fail
    refine CD.mono ?_
    rintro e w1 ⟨g, n, c, L, gs, m, cs, S, b, rfl, hO, hN, hD, hm, hS, hgs, hb1⟩
    have HB1 : Hid (Below w.heap.size w w1) := hb1
    have HO1 : Hid (OwnE w1 w.heap.size g n c L) := hO
    have HN1 : Hid (OwnN w1 w.heap.size gs m cs S) := hN
    have HLN : Hid (L.length = n) := hO.len
    have hn15 : n ≤ 15 := by have h1 := hO.len; have h2 := hD.1; omega
    have CI := callsIn_wide.1 (implSquash _ g 0 n c L _ _ _ S b w1 hO.entsAt hN.ints (by omega) (by omega) hO.lt.2)
    have CS : Hid (∀ (lo : Nat) (w' : World), EntsAt w' (some ⟨g, 0, none⟩) n c L → IntsIn lo w' (some ⟨gs, 0, none⟩) m cs S → Calls Try.prog 12 #[.slice (some ⟨g, 0, none⟩) n c, .slice (some ⟨gs, 0, none⟩) m cs, .bool b] w' fun e w'' => ∃ g' n' c', e = .returned (.slice (some ⟨g', 0, none⟩) n' c') ∧ OwnE w'' w'.heap.size g' n' c' (squashL L S b) ∧ Below w'.heap.size w' w'') := fun lo w' h1 h2 => specSquash lo _ _ _ L _ _ _ S b w' h1 h2 (by omega)
    have HFL : Hid ((squashL L S b).length ≤ n) := by have := squashL_len L S b; show (squashL L S b).length ≤ n; rw [HLN.out] at this; exact this
    have HNR : Hid (rightB L = false → squashL L S b = []) := fun hr => by unfold squashL; rw [hr]; rfl
    have HSM : Hid (rightB L = true → ∀ e ∈ squashL L S b, SmE e) := fun hr => squash_small hr S b
    have HCE : Hid (rightB L = true → ∀ key t, t ∈ 100000 :: S → cellL (squashL L S b) key t = cellL L key t) := fun hr key t ht => cell_squash hr S b key t (by rcases List.mem_cons.1 ht with rfl | h; exact .inr (Int.le_refl _); exact .inl h)
    have HDE : Hid (∀ e ∈ L, entB e.1 e.2.1 e.2.2.1 e.2.2.2.1 e.2.2.2.2 = true) := hD.2.1
    obtain ⟨F, hF⟩ : ∃ F, squashL L S b = F := ⟨_, rfl⟩
    rw [hF] at CS HFL HNR HSM CI
    simp only [hF] at HCE
    have HSS : Hid (S.length = m) := hN.len
    clear hb1 hO hN CD hF hD hS hl hlI
    go_wp2_with fail
    refine CI.mono ?_
    rintro e w2 ⟨ag, ng, cg, rfl, hG2, hb2⟩
    have HB2 : Hid (Below w.heap.size w w2) := HB1.out.trans (hb2.mono HB1.out.size)
    have HO2 : Hid (OwnE w2 w.heap.size g n c L) := HO1.out.below hb2
    have HN2 : Hid (OwnN w2 w.heap.size gs m cs S) := HN1.out.below hb2
    have HG2 : Hid (OwnO w2 w.heap.size ag ng cg F) := hG2.mono HB1.out.size
    have hng : ng ≤ n := by have h1 := hG2.len; have h2 := HFL.out; omega
    have HGL : Hid (F.length = ng) := hG2.len
    clear hG2 hb2 HB1 HO1 HN1 CI
    go_wp2_with fail
    refine (CS.out _ _ HO2.out.entsAt HN2.out.ints).mono ?_
    rintro e w3 ⟨gw, nw, cw, rfl, hW3, hb3⟩
    have HW3 : Hid (EntsAt w3 (some ⟨gw, 0, none⟩) nw cw F) := hW3.entsAt
    have HG3 : Hid (EntsAt w3 ag ng cg F) := HG2.out.entsAt.keep hb3
    go_wp2_with fail
    refine (wpEnts_any _ _ _ _ _ _ F F _ HG3.out HW3.out).mono ?_
    rintro e w4 ⟨rfl, hb4⟩
    have k24 : Below w2.heap.size w2 w4 := hb3.trans (hb4.mono hb3.size)
    have hFF : decide (F = F) = true := by simp
    rw [hFF]
    obtain ⟨X, hX⟩ : ∃ X, X = w4.heap.size := ⟨_, rfl⟩
    obtain ⟨w5, hw5⟩ : ∃ w5, w5 = w4.alloc (.cells #[.int .i64 100000] 3) := ⟨_, rfl⟩
    have k45 : Below w4.heap.size w4 w5 := by rw [hw5]; exact (Below.refl _ _).alloc (Nat.le_refl _) _
    have k25 : Below w2.heap.size w2 w5 := k24.trans (k45.mono k24.size)
    have HB5 : Hid (Below w.heap.size w w5) := HB2.out.trans (k25.mono HB2.out.size)
    have HX5 : Hid (OwnN w5 w.heap.size X 1 1 [100000]) := by rw [hw5, hX]; exact own_last w4 _ (HB2.out.trans (k24.mono HB2.out.size)).size
    have HO5 : Hid (OwnE w5 w.heap.size g n c L) := HO2.out.below k25
    have HN5 : Hid (OwnN w5 w.heap.size gs m cs S) := HN2.out.below k25
    have HG5 : Hid (OwnO w5 w.heap.size ag ng cg F) := HG2.out.below k25
    have hgX : g ≠ X := by have h1 := HO2.out.lt.2; have h2 := k24.size; omega
    have HAX : Hid (∀ x, ag = some x → x.block ≠ X) := fun x e => by have h1 := (HG2.out.lt x e).2; have h2 := k24.size; omega
    clear hb3 hb4 k24 k45 k25 HB2 HO2 HN2 HG2 HW3 HG3 hW3 CS hFF
    go_wp2_with (at_builtin; rw [← hw5, ← hX]; refine wpList_append_own_at _ rfl _ _ 23 rfl w.heap.size 3 i0 _ 1 8 Try.underlying23 hi hz0 hz1 hz2 rfl (by decide) _ _ _ rfl HX5.out.owns ⟨gs, 0, none⟩ m cs (S.map (Value.int .i64)) rfl (by rw [List.length_map, HSS.out]; omega) (ints_news HN5.out.ints) (fun u hu => by obtain ⟨q, _, rfl⟩ := List.mem_map.1 hu; rfl) (by unfold maxLen; omega) (by omega) HB5.out.size ?_; intro v6 w6 hown6 hgrow6 hnil6 hat6; obtain ⟨gt, ct, hv6⟩ := fq_some hown6 hnil6; subst hv6; have T6 := fqA HX5.out HB5.out HO5.out HN5.out HG5.out hgX HAX.out hown6 hgrow6; clear hown6 hgrow6 hnil6 hat6 hw5 hX HX5 HB5 HO5 HN5 HG5 hgX HAX)
    have T6 : Hid (FqSt w w6 g n c gt (1 + m) ct ag ng cg L (100000 :: S) F) := T6
    obtain ⟨nt, hnt⟩ : ∃ nt, nt = 1 + m := ⟨_, rfl⟩
    obtain ⟨TT, hTT⟩ : ∃ TT, TT = 100000 :: S := ⟨_, rfl⟩
    rw [← hnt, ← hTT] at T6
    rw [← hTT] at HCE
    try rw [← hnt]
    have hnt4 : nt ≤ 4 := by omega
    clear hnt hTT HSS hm
    go_loopw [8] (fun iv wr => ∃ i : Nat, 1 ≤ i ∧ (i ≤ n ∨ i = 1) ∧ iv = .int .i64 i ∧ FqSt w wr g n c gt nt ct ag ng cg L TT F ∧ (∀ j, 1 ≤ j → j < i → ∀ x y, L[j - 1]? = some x → L[j]? = some y → lessB x.1 x.2.1 y.1 y.2.1 = true)) (fun iv _ => n - (intOf iv).toNat)
    case atStart => exact ⟨1, Nat.le_refl _, .inr rfl, rfl, T6.out, fun j h1 h2 => by omega⟩
    case round =>
      clear T6
      obtain ⟨i, hi1, hin, rfl, hT, hless⟩ := hrel
      have HT : Hid (FqSt w wr g n c gt nt ct ag ng cg L TT F) := hT
      have HLS : Hid (∀ j, 1 ≤ j → j < i → ∀ x y, L[j - 1]? = some x → L[j]? = some y → lessB x.1 x.2.1 y.1 y.2.1 = true) := hless
      clear hT hless
      by_cases hil : i < n
      · have hilI : (i : Int) < (n : Int) := by omega
        obtain ⟨p, hp⟩ : ∃ p, i = p + 1 := ⟨i - 1, by omega⟩
        have wi : IntKind.i64.wrap ((i : Int) - 1) = (p : Int) := by
          have e : (i : Int) - 1 = (p : Int) := by omega
          rw [e, IntWalk.i64_left]; unfold wrap64; omega
        have hpI : (p : Int) < (n : Int) := by omega
        have HP : Hid (i = p + 1) := hp
        have zg := HT.out.ol.lt.2
        obtain ⟨s, q, d, t, m, hx, _, g0, g1, g2, g3, g4⟩ := HT.out.ol.entsAt.ent (Below.refl _ wr) zg p (by omega)
        obtain ⟨s', q', d', t', m', hy, _, e0, e1, e2, e3, e4⟩ := HT.out.ol.entsAt.ent (Below.refl _ wr) zg i hil
        simp only [Nat.zero_add] at g0 g1 g2 g3 g4 e0 e1 e2 e3 e4
        have HX : Hid (L[p]? = some (s, q, d, t, m)) := hx
        have HY : Hid (L[i]? = some (s', q', d', t', m')) := hy
        have k0 : Below wr.heap.size wr wr.drew := (Below.refl _ wr).drew
        have HMK : Hid (∀ w', Below wr.heap.size wr w' → (w'.cell? ⟨g, p * 5, none⟩ = some (.string s) ∧ w'.cell? ⟨g, p * 5 + 1, none⟩ = some (.int .i64 q) ∧ w'.cell? ⟨g, p * 5 + 2, none⟩ = some (.int .i64 d) ∧ w'.cell? ⟨g, p * 5 + 3, none⟩ = some (.string t) ∧ w'.cell? ⟨g, p * 5 + 4, none⟩ = some (.int .i64 m) ∧ w'.cell? ⟨g, i * 5, none⟩ = some (.string s') ∧ w'.cell? ⟨g, i * 5 + 1, none⟩ = some (.int .i64 q') ∧ w'.cell? ⟨g, i * 5 + 2, none⟩ = some (.int .i64 d') ∧ w'.cell? ⟨g, i * 5 + 3, none⟩ = some (.string t') ∧ w'.cell? ⟨g, i * 5 + 4, none⟩ = some (.int .i64 m') ∧ g < w'.heap.size)) := fun w' kk => ⟨cell_later kk g0, cell_later kk g1, cell_later kk g2, cell_later kk g3, cell_later kk g4, cell_later kk e0, cell_later kk e1, cell_later kk e2, cell_later kk e3, cell_later kk e4, Nat.lt_of_lt_of_le zg kk.size⟩
        clear hx hy g0 g1 g2 g3 g4 e0 e1 e2 e3 e4 hp
        cases hlb : lessB s q s' q' with
        | true =>
          go_wp2_with fail
          refine wp_region_held_drew (S := (fun w' => w'.cell? ⟨g, p * 5, none⟩ = some (.string s) ∧ w'.cell? ⟨g, p * 5 + 1, none⟩ = some (.int .i64 q) ∧ w'.cell? ⟨g, p * 5 + 2, none⟩ = some (.int .i64 d) ∧ w'.cell? ⟨g, p * 5 + 3, none⟩ = some (.string t) ∧ w'.cell? ⟨g, p * 5 + 4, none⟩ = some (.int .i64 m) ∧ w'.cell? ⟨g, i * 5, none⟩ = some (.string s') ∧ w'.cell? ⟨g, i * 5 + 1, none⟩ = some (.int .i64 q') ∧ w'.cell? ⟨g, i * 5 + 2, none⟩ = some (.int .i64 d') ∧ w'.cell? ⟨g, i * 5 + 3, none⟩ = some (.string t') ∧ w'.cell? ⟨g, i * 5 + 4, none⟩ = some (.int .i64 m') ∧ g < w'.heap.size)) (by kernel_rfl) (HMK.out _ k0) (fun hHeld => ?_)
          refine wpAnyH_takeL (i := 0) (v := ?_) rfl (by kernel_rfl) (by kernel_rfl) (by kernel_rfl) (fun _ _ _ h => h) (Or.inl ⟨by rfl, ?_⟩) hHeld ?_
          rotate_left
          · (intro w hSw; (try dsimp only at hSw); go_simp; try with_reducible rfl)
          try go_frame
          refine wpAnyH_takeL (i := 1) (v := ?_) rfl (by kernel_rfl) (by kernel_rfl) (by kernel_rfl) (fun _ _ _ h => h) (Or.inl ⟨by rfl, ?_⟩) hHeld ?_
          rotate_left
          · (intro w hSw; (try dsimp only at hSw); go_simp; try with_reducible rfl)
          try go_frame
          refine wpAnyH_takeL (i := 2) (v := ?_) rfl (by kernel_rfl) (by kernel_rfl) (by kernel_rfl) (fun _ _ _ h => h) (Or.inl ⟨by rfl, ?_⟩) hHeld ?_
          rotate_left
          · (intro w hSw; (try dsimp only at hSw); go_simp; try with_reducible rfl)
          try go_frame
          refine wpAnyH_takeL (i := 3) (v := ?_) rfl (by kernel_rfl) (by kernel_rfl) (by kernel_rfl) (fun _ _ _ h => h) (Or.inl ⟨by rfl, ?_⟩) hHeld ?_
          rotate_left
          · (intro w hSw; (try dsimp only at hSw); go_simp; try with_reducible rfl)
          try go_frame
          refine wpAnyH_takeL (i := 4) (v := ?_) rfl (by kernel_rfl) (by kernel_rfl) (by kernel_rfl) (fun _ _ _ h => h) (Or.inl ⟨by rfl, ?_⟩) hHeld ?_
          rotate_left
          · (intro w hSw; (try dsimp only at hSw); go_simp; try with_reducible rfl)
          try go_frame
          refine wpAnyH_takeL (i := 5) (v := ?_) rfl (by kernel_rfl) (by kernel_rfl) (by kernel_rfl) (fun _ _ _ h => h) (Or.inl ⟨by rfl, ?_⟩) hHeld ?_
          rotate_left
          · (intro w hSw; (try dsimp only at hSw); go_simp; try with_reducible rfl)
          try go_frame
          refine wpAnyH_takeL (i := 6) (v := ?_) rfl (by kernel_rfl) (by kernel_rfl) (by kernel_rfl) (fun _ _ _ h => h) (Or.inl ⟨by rfl, ?_⟩) hHeld ?_
          rotate_left
          · (intro w hSw; (try dsimp only at hSw); go_simp; try with_reducible rfl)
          try go_frame
          refine wpAnyH_takeL (i := 7) (v := ?_) rfl (by kernel_rfl) (by kernel_rfl) (by kernel_rfl) (fun _ _ _ h => h) (Or.inl ⟨by rfl, ?_⟩) hHeld ?_
          rotate_left
          · (intro w hSw; (try dsimp only at hSw); go_simp; try with_reducible rfl)
          try go_frame
          refine wpAnyH_takeL (i := 8) (v := ?_) rfl (by kernel_rfl) (by kernel_rfl) (by kernel_rfl) (fun _ _ _ h => h) (Or.inl ⟨by rfl, ?_⟩) hHeld ?_
          rotate_left
          · (intro w hSw; (try dsimp only at hSw); go_simp; try with_reducible rfl)
          try go_frame
          refine wpAnyH_ready (rs := [9]) (by kernel_rfl) (by simp) ?_
          refine consL rfl (fun K hK => ?_) AllReadyH.nil
          go_simp
          refine (implLess s t s' t' q d m q' d' m' _).mono ?_
          rintro e w1 ⟨rfl, b1⟩
          have k1 : Below wr.heap.size wr w1 := k0.trans (b1.mono k0.size)
          go_wp2_with fail
          refine hK.out _ _ (HMK.out _ k1) (fun hHeld => ?_)
          clear hK K
          try go_frame
          refine wpAnyH_takeL (i := 10) (v := ?_) rfl (by kernel_rfl) (by kernel_rfl) (by kernel_rfl) (fun _ _ _ h => h) (Or.inl ⟨by rfl, ?_⟩) hHeld ?_
          rotate_left
          · (intro w hSw; (try dsimp only at hSw); go_simp; try with_reducible rfl)
          try go_frame
          refine wpAnyH_done (by kernel_rfl) ?_ _
          clear HMK hHeld
          have T1 : Hid (FqSt w w1 g n c gt nt ct ag ng cg L TT F) := HT.out.below k1
          clear k1 k0 HT b1
          go_wp2
          go_roundw
          case rel =>
            refine ⟨i + 1, by omega, by omega, by go_num, T1.out, fun j h1 h2 x y hx hy => ?_⟩
            have hpp := HP.out
            by_cases hj : j < i
            · exact HLS.out j h1 hj x y hx hy
            · have : j = i := by omega
              subst this
              rw [HY.out] at hy
              rw [show j - 1 = p by omega, HX.out] at hx
              cases hx
              cases hy
              exact hlb
          case measure => simp [intOf]; omega
        | false =>
          have HRF : Hid (rightB L = false) := by
            show rightB L = false
            rw [Bool.eq_false_iff]
            intro hr
            have hpp := HP.out
            have := right_next hr HX.out (by rw [← hpp]; exact HY.out)
            simp only at this
            rw [hlb] at this
            cases this
          have hng0 : ng = 0 := by rw [← HGL.out, HNR.out HRF.out]; rfl
          subst hng0
          go_wp2_with fail
          refine wp_region_held_drew (S := (fun w' => w'.cell? ⟨g, p * 5, none⟩ = some (.string s) ∧ w'.cell? ⟨g, p * 5 + 1, none⟩ = some (.int .i64 q) ∧ w'.cell? ⟨g, p * 5 + 2, none⟩ = some (.int .i64 d) ∧ w'.cell? ⟨g, p * 5 + 3, none⟩ = some (.string t) ∧ w'.cell? ⟨g, p * 5 + 4, none⟩ = some (.int .i64 m) ∧ w'.cell? ⟨g, i * 5, none⟩ = some (.string s') ∧ w'.cell? ⟨g, i * 5 + 1, none⟩ = some (.int .i64 q') ∧ w'.cell? ⟨g, i * 5 + 2, none⟩ = some (.int .i64 d') ∧ w'.cell? ⟨g, i * 5 + 3, none⟩ = some (.string t') ∧ w'.cell? ⟨g, i * 5 + 4, none⟩ = some (.int .i64 m') ∧ g < w'.heap.size)) (by kernel_rfl) (HMK.out _ k0) (fun hHeld => ?_)
          refine wpAnyH_takeL (i := 0) (v := ?_) rfl (by kernel_rfl) (by kernel_rfl) (by kernel_rfl) (fun _ _ _ h => h) (Or.inl ⟨by rfl, ?_⟩) hHeld ?_
          rotate_left
          · (intro w hSw; (try dsimp only at hSw); go_simp; try with_reducible rfl)
          try go_frame
          refine wpAnyH_takeL (i := 1) (v := ?_) rfl (by kernel_rfl) (by kernel_rfl) (by kernel_rfl) (fun _ _ _ h => h) (Or.inl ⟨by rfl, ?_⟩) hHeld ?_
          rotate_left
          · (intro w hSw; (try dsimp only at hSw); go_simp; try with_reducible rfl)
          try go_frame
          refine wpAnyH_takeL (i := 2) (v := ?_) rfl (by kernel_rfl) (by kernel_rfl) (by kernel_rfl) (fun _ _ _ h => h) (Or.inl ⟨by rfl, ?_⟩) hHeld ?_
          rotate_left
          · (intro w hSw; (try dsimp only at hSw); go_simp; try with_reducible rfl)
          try go_frame
          refine wpAnyH_takeL (i := 3) (v := ?_) rfl (by kernel_rfl) (by kernel_rfl) (by kernel_rfl) (fun _ _ _ h => h) (Or.inl ⟨by rfl, ?_⟩) hHeld ?_
          rotate_left
          · (intro w hSw; (try dsimp only at hSw); go_simp; try with_reducible rfl)
          try go_frame
          refine wpAnyH_takeL (i := 4) (v := ?_) rfl (by kernel_rfl) (by kernel_rfl) (by kernel_rfl) (fun _ _ _ h => h) (Or.inl ⟨by rfl, ?_⟩) hHeld ?_
          rotate_left
          · (intro w hSw; (try dsimp only at hSw); go_simp; try with_reducible rfl)
          try go_frame
          refine wpAnyH_takeL (i := 5) (v := ?_) rfl (by kernel_rfl) (by kernel_rfl) (by kernel_rfl) (fun _ _ _ h => h) (Or.inl ⟨by rfl, ?_⟩) hHeld ?_
          rotate_left
          · (intro w hSw; (try dsimp only at hSw); go_simp; try with_reducible rfl)
          try go_frame
          refine wpAnyH_takeL (i := 6) (v := ?_) rfl (by kernel_rfl) (by kernel_rfl) (by kernel_rfl) (fun _ _ _ h => h) (Or.inl ⟨by rfl, ?_⟩) hHeld ?_
          rotate_left
          · (intro w hSw; (try dsimp only at hSw); go_simp; try with_reducible rfl)
          try go_frame
          refine wpAnyH_takeL (i := 7) (v := ?_) rfl (by kernel_rfl) (by kernel_rfl) (by kernel_rfl) (fun _ _ _ h => h) (Or.inl ⟨by rfl, ?_⟩) hHeld ?_
          rotate_left
          · (intro w hSw; (try dsimp only at hSw); go_simp; try with_reducible rfl)
          try go_frame
          refine wpAnyH_takeL (i := 8) (v := ?_) rfl (by kernel_rfl) (by kernel_rfl) (by kernel_rfl) (fun _ _ _ h => h) (Or.inl ⟨by rfl, ?_⟩) hHeld ?_
          rotate_left
          · (intro w hSw; (try dsimp only at hSw); go_simp; try with_reducible rfl)
          try go_frame
          refine wpAnyH_ready (rs := [9]) (by kernel_rfl) (by simp) ?_
          refine consL rfl (fun K hK => ?_) AllReadyH.nil
          go_simp
          refine (implLess s t s' t' q d m q' d' m' _).mono ?_
          rintro e w1 ⟨rfl, b1⟩
          have k1 : Below wr.heap.size wr w1 := k0.trans (b1.mono k0.size)
          go_wp2_with fail
          refine hK.out _ _ (HMK.out _ k1) (fun hHeld => ?_)
          clear hK K
          try go_frame
          refine wpAnyH_takeL (i := 10) (v := ?_) rfl (by kernel_rfl) (by kernel_rfl) (by kernel_rfl) (fun _ _ _ h => h) (Or.inl ⟨by rfl, ?_⟩) hHeld ?_
          rotate_left
          · (intro w hSw; (try dsimp only at hSw); go_simp; try with_reducible rfl)
          try go_frame
          refine wpAnyH_done (by kernel_rfl) ?_ _
          clear HMK hHeld
          have HB1 : Hid (Below w.heap.size w w1) := (HT.out.below k1).all
          clear k1 k0 HT b1
          go_wp2
          go_ret
          exact ⟨rfl, HB1.out⟩
      · have hilI : ¬ (i : Int) < (n : Int) := by omega
        have HRT : Hid (rightB L = true) := right_all HLN.out HDE.out (fun j h1 h2 => HLS.out j h1 (by omega))
        clear HLS HNR
        go_wp2
        go_loopw [9] (fun iv wr => ∃ i : Nat, i ≤ n ∧ iv = .int .i64 i ∧ FqSt w wr g n c gt nt ct ag ng cg L TT F) (fun iv _ => n - (intOf iv).toNat)
        case atStart => exact ⟨0, Nat.zero_le _, rfl, HT.out⟩
        case round =>
          clear HT hilI hil hi1 hin
          obtain ⟨i, hin, rfl, hT⟩ := hrel
          have HT : Hid (FqSt w wr g n c gt nt ct ag ng cg L TT F) := hT
          clear hT
          by_cases hil : i < n
          · have hilI : (i : Int) < (n : Int) := by omega
            go_wp2
            go_loopw [10] (fun kv wr => ∃ k : Nat, k ≤ nt ∧ kv = .int .i64 k ∧ FqSt w wr g n c gt nt ct ag ng cg L TT F) (fun kv _ => nt - (intOf kv).toNat)
            case atStart => exact ⟨0, Nat.zero_le _, rfl, HT.out⟩
            case round =>
              clear HT
              obtain ⟨k, hkn, rfl, hT⟩ := hrel
              have HT : Hid (FqSt w wr g n c gt nt ct ag ng cg L TT F) := hT
              clear hT
              by_cases hkl : k < nt
              · have hklI : (k : Int) < (nt : Int) := by omega
                have zg := HT.out.ol.lt.2
                have zt := HT.out.ot.lt.2
                obtain ⟨s, q, d, t, m, hx, _, g0, _⟩ := HT.out.ol.entsAt.ent (Below.refl _ wr) zg i hil
                obtain ⟨tt, htt, _, e0⟩ := HT.out.ot.ints.num (Below.refl _ wr) k hkl
                simp only [Nat.zero_add] at g0 e0
                obtain ⟨xb, xt, xn, hcl⟩ : ∃ xb xt xn, cellL L s tt = (xb, xt, xn) := ⟨_, _, _, rfl⟩
                have hcf : cellL F s tt = (xb, xt, xn) := by rw [HCE.out HRT.out s tt (List.mem_of_getElem? htt), hcl]
                have CL : Hid (∀ w', Below wr.heap.size wr w' → Calls Try.prog 22 #[.slice (some ⟨g, 0, none⟩) n c, .string s, .int .i64 tt] w' fun e w'' => e = .returned (.agg #[.bool xb, .string xt, .int .i64 xn]) ∧ Below w'.heap.size w' w'') := fun w' kk => by
                  have := implCellAll (some ⟨g, 0, none⟩) n c L s tt w' (HT.out.below kk).ol.entsAt (by omega) (by have h1 := find_len L s tt; have h2 := HLN.out; omega) (fun e he => (right_sm HRT.out e he).2)
                  rw [hcl] at this
                  exact this
                have CO : Hid (∀ w', Below wr.heap.size wr w' → Calls Try.prog 22 #[.slice ag ng cg, .string s, .int .i64 tt] w' fun e w'' => e = .returned (.agg #[.bool xb, .string xt, .int .i64 xn]) ∧ Below w'.heap.size w' w'') := fun w' kk => by
                  have := implCellAll ag ng cg F s tt w' (HT.out.below kk).og.entsAt (by omega) (by have h1 := find_len F s tt; have h2 := HGL.out; omega) (fun e he => (HSM.out HRT.out e he).2)
                  rw [hcf] at this
                  exact this
                have hneq := neqC_same xb xt xn
                have k0 : Below wr.heap.size wr wr.drew := (Below.refl _ wr).drew
                have HMK : Hid (∀ w', Below wr.heap.size wr w' → (w'.cell? ⟨g, i * 5, none⟩ = some (.string s) ∧ w'.cell? ⟨gt, k, none⟩ = some (.int .i64 tt) ∧ g < w'.heap.size ∧ gt < w'.heap.size)) := fun w' kk => ⟨cell_later kk g0, cell_later kk e0, Nat.lt_of_lt_of_le zg kk.size, Nat.lt_of_lt_of_le zt kk.size⟩
                clear hx htt g0 e0 hcl hcf
                go_wp2_with fail
                refine wp_region_held_drew (S := (fun w' => w'.cell? ⟨g, i * 5, none⟩ = some (.string s) ∧ w'.cell? ⟨gt, k, none⟩ = some (.int .i64 tt) ∧ g < w'.heap.size ∧ gt < w'.heap.size)) (by kernel_rfl) (HMK.out _ k0) (fun hHeld => ?_)
                refine wpAnyH_takeL (i := 0) (v := ?_) rfl (by kernel_rfl) (by kernel_rfl) (by kernel_rfl) (fun _ _ _ h => h) (Or.inl ⟨by rfl, ?_⟩) hHeld ?_
                rotate_left
                · (intro w hSw; (try dsimp only at hSw); go_simp; try with_reducible rfl)
                try go_frame
                refine wpAnyH_takeL (i := 1) (v := ?_) rfl (by kernel_rfl) (by kernel_rfl) (by kernel_rfl) (fun _ _ _ h => h) (Or.inl ⟨by rfl, ?_⟩) hHeld ?_
                rotate_left
                · (intro w hSw; (try dsimp only at hSw); go_simp; try with_reducible rfl)
                try go_frame
                refine wpAnyH_takeL (i := 2) (v := ?_) rfl (by kernel_rfl) (by kernel_rfl) (by kernel_rfl) (fun _ _ _ h => h) (Or.inl ⟨by rfl, ?_⟩) hHeld ?_
                rotate_left
                · (intro w hSw; (try dsimp only at hSw); go_simp; try with_reducible rfl)
                try go_frame
                refine wpAnyH_takeL (i := 3) (v := ?_) rfl (by kernel_rfl) (by kernel_rfl) (by kernel_rfl) (fun _ _ _ h => h) (Or.inl ⟨by rfl, ?_⟩) hHeld ?_
                rotate_left
                · (intro w hSw; (try dsimp only at hSw); go_simp; try with_reducible rfl)
                try go_frame
                refine wpAnyH_takeL (i := 4) (v := ?_) rfl (by kernel_rfl) (by kernel_rfl) (by kernel_rfl) (fun _ _ _ h => h) (Or.inl ⟨by rfl, ?_⟩) hHeld ?_
                rotate_left
                · (intro w hSw; (try dsimp only at hSw); go_simp; try with_reducible rfl)
                try go_frame
                refine wpAnyH_takeL (i := 5) (v := ?_) rfl (by kernel_rfl) (by kernel_rfl) (by kernel_rfl) (fun _ _ _ h => h) (Or.inl ⟨by rfl, ?_⟩) hHeld ?_
                rotate_left
                · (intro w hSw; (try dsimp only at hSw); go_simp; try with_reducible rfl)
                try go_frame
                refine wpAnyH_takeL (i := 6) (v := ?_) rfl (by kernel_rfl) (by kernel_rfl) (by kernel_rfl) (fun _ _ _ h => h) (Or.inl ⟨by rfl, ?_⟩) hHeld ?_
                rotate_left
                · (intro w hSw; (try dsimp only at hSw); go_simp; try with_reducible rfl)
                try go_frame
                refine wpAnyH_takeL (i := 7) (v := ?_) rfl (by kernel_rfl) (by kernel_rfl) (by kernel_rfl) (fun _ _ _ h => h) (Or.inl ⟨by rfl, ?_⟩) hHeld ?_
                rotate_left
                · (intro w hSw; (try dsimp only at hSw); go_simp; try with_reducible rfl)
                try go_frame
                refine wpAnyH_takeL (i := 8) (v := ?_) rfl (by kernel_rfl) (by kernel_rfl) (by kernel_rfl) (fun _ _ _ h => h) (Or.inl ⟨by rfl, ?_⟩) hHeld ?_
                rotate_left
                · (intro w hSw; (try dsimp only at hSw); go_simp; try with_reducible rfl)
                try go_frame
                refine wpAnyH_takeL (i := 9) (v := ?_) rfl (by kernel_rfl) (by kernel_rfl) (by kernel_rfl) (fun _ _ _ h => h) (Or.inl ⟨by rfl, ?_⟩) hHeld ?_
                rotate_left
                · (intro w hSw; (try dsimp only at hSw); go_simp; try with_reducible rfl)
                try go_frame
                refine wpAnyH_takeL (i := 11) (v := ?_) rfl (by kernel_rfl) (by kernel_rfl) (by kernel_rfl) (fun _ _ _ h => h) (Or.inl ⟨by rfl, ?_⟩) hHeld ?_
                rotate_left
                · (intro w hSw; (try dsimp only at hSw); go_simp; try with_reducible rfl)
                try go_frame
                refine wpAnyH_takeL (i := 12) (v := ?_) rfl (by kernel_rfl) (by kernel_rfl) (by kernel_rfl) (fun _ _ _ h => h) (Or.inl ⟨by rfl, ?_⟩) hHeld ?_
                rotate_left
                · (intro w hSw; (try dsimp only at hSw); go_simp; try with_reducible rfl)
                try go_frame
                refine wpAnyH_takeL (i := 13) (v := ?_) rfl (by kernel_rfl) (by kernel_rfl) (by kernel_rfl) (fun _ _ _ h => h) (Or.inl ⟨by rfl, ?_⟩) hHeld ?_
                rotate_left
                · (intro w hSw; (try dsimp only at hSw); go_simp; try with_reducible rfl)
                try go_frame
                refine wpAnyH_takeL (i := 14) (v := ?_) rfl (by kernel_rfl) (by kernel_rfl) (by kernel_rfl) (fun _ _ _ h => h) (Or.inl ⟨by rfl, ?_⟩) hHeld ?_
                rotate_left
                · (intro w hSw; (try dsimp only at hSw); go_simp; try with_reducible rfl)
                try go_frame
                refine wpAnyH_takeL (i := 15) (v := ?_) rfl (by kernel_rfl) (by kernel_rfl) (by kernel_rfl) (fun _ _ _ h => h) (Or.inl ⟨by rfl, ?_⟩) hHeld ?_
                rotate_left
                · (intro w hSw; (try dsimp only at hSw); go_simp; try with_reducible rfl)
                try go_frame
                refine wpAnyH_takeL (i := 16) (v := ?_) rfl (by kernel_rfl) (by kernel_rfl) (by kernel_rfl) (fun _ _ _ h => h) (Or.inl ⟨by rfl, ?_⟩) hHeld ?_
                rotate_left
                · (intro w hSw; (try dsimp only at hSw); go_simp; try with_reducible rfl)
                try go_frame
                refine wpAnyH_takeL (i := 17) (v := ?_) rfl (by kernel_rfl) (by kernel_rfl) (by kernel_rfl) (fun _ _ _ h => h) (Or.inl ⟨by rfl, ?_⟩) hHeld ?_
                rotate_left
                · (intro w hSw; (try dsimp only at hSw); go_simp; try with_reducible rfl)
                try go_frame
                refine wpAnyH_takeL (i := 18) (v := ?_) rfl (by kernel_rfl) (by kernel_rfl) (by kernel_rfl) (fun _ _ _ h => h) (Or.inl ⟨by rfl, ?_⟩) hHeld ?_
                rotate_left
                · (intro w hSw; (try dsimp only at hSw); go_simp; try with_reducible rfl)
                try go_frame
                refine wpAnyH_takeL (i := 19) (v := ?_) rfl (by kernel_rfl) (by kernel_rfl) (by kernel_rfl) (fun _ _ _ h => h) (Or.inl ⟨by rfl, ?_⟩) hHeld ?_
                rotate_left
                · (intro w hSw; (try dsimp only at hSw); go_simp; try with_reducible rfl)
                try go_frame
                refine wpAnyH_takeL (i := 20) (v := ?_) rfl (by kernel_rfl) (by kernel_rfl) (by kernel_rfl) (fun _ _ _ h => h) (Or.inl ⟨by rfl, ?_⟩) hHeld ?_
                rotate_left
                · (intro w hSw; (try dsimp only at hSw); go_simp; try with_reducible rfl)
                try go_frame
                refine wpAnyH_ready (rs := [10]) (by kernel_rfl) (by simp) ?_
                refine consL rfl (fun K hK => ?_) AllReadyH.nil
                go_simp
                refine (CO.out _ k0).mono ?_
                rintro e w1 ⟨rfl, b1⟩
                have k1 : Below wr.heap.size wr w1 := k0.trans (b1.mono k0.size)
                go_wp2_with fail
                refine hK.out _ _ (HMK.out _ k1) (fun hHeld => ?_)
                clear hK K
                try go_frame
                refine wpAnyH_ready (rs := [21]) (by kernel_rfl) (by simp) ?_
                refine consL rfl (fun K hK => ?_) AllReadyH.nil
                go_simp
                refine (CL.out _ k1).mono ?_
                rintro e w2 ⟨rfl, b2⟩
                have k2 : Below wr.heap.size wr w2 := k1.trans (b2.mono k1.size)
                go_wp2_with fail
                refine hK.out _ _ (HMK.out _ k2) (fun hHeld => ?_)
                clear hK K
                try go_frame
                refine wpAnyH_takeL (i := 22) (v := ?_) rfl (by kernel_rfl) (by kernel_rfl) (by kernel_rfl) (fun _ _ _ h => h) (Or.inl ⟨by rfl, ?_⟩) hHeld ?_
                rotate_left
                · (intro w hSw; (try dsimp only at hSw); go_simp; try with_reducible rfl)
                try go_frame
                refine wpAnyH_done (by kernel_rfl) ?_ _
                clear HMK hHeld CL CO
                have T2 : Hid (FqSt w w2 g n c gt nt ct ag ng cg L TT F) := HT.out.below k2
                clear k2 k1 k0 HT b1 b2 hneq
                go_wp2
                go_roundw
                case rel => exact ⟨k + 1, by omega, by go_num, T2.out⟩
                case measure => simp [intOf]; omega
              · have hklI : ¬ (k : Int) < (nt : Int) := by omega
                go_wp2
                go_roundw
                case rel => exact ⟨i + 1, by omega, by go_num, HT.out⟩
                case measure => simp [intOf]; omega
          · have hilI : ¬ (i : Int) < (n : Int) := by omega
            have hle : (ng : Int) ≤ (n : Int) := by omega
            go_wp2
            go_ret
            exact ⟨rfl, HT.out.all⟩
  · have hlI : (1048576 : Int) < (len : Int) := by omega
    go_enter Try.func6, Try.ntmps6
    go_wp2
    go_ret
    exact ⟨rfl, Below.refl _ _⟩
end Go.Proofs.Ythhiahjafhkbbaa
