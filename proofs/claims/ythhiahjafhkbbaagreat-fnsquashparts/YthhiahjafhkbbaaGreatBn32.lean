/-
  Entries squashed in two parts, the newer above the older, and then together. Plain but for what the laws' own lists of times and cells are.
-/
import Derived.Test.YthhiahjafhkbbaaGreatBn11
import Derived.Test.YthhiahjafhkbbaaGreatBn12
import Derived.Test.YthhiahjafhkbbaaGreatBn28
import Derived.Test.YthhiahjafhkbbaaGreatBn29
import Derived.Test.YthhiahjafhkbbaaGreatBn31
namespace Go.Proofs.YthhiahjafhkbbaaGreat
open Go.RowKit

set_option maxRecDepth 100000 in
theorem neqC_same (b : Bool) (t : ByteArray) (n : Int) (w : World) : (binOp .neq 34 (.agg #[.bool b, .string t, .int .i64 n]) (.agg #[.bool b, .string t, .int .i64 n])).run Tryz.prog w = .ok (.bool false) w := by
  have hs := run_equalIn_struct (P := Tryz.prog) w 9999 34 #[.bool b, .string t, .int .i64 n] #[.bool b, .string t, .int .i64 n] (by kernel_rfl) (by kernel_rfl)
  simp [binOp, Op.equal, Op.maxDepth, hs, go_sem, Tryz.underlying34]
/-! Keys and times of what is left. -/
def kq (e : EntD) : ByteArray × Int := (e.1, e.2.1)
theorem cl_sub (b : Bool) : ∀ c : List EntD, ((clS b c).map kq).Sublist (c.map kq)
  | [] => List.Sublist.refl _
  | e :: R => by
    show ((classG b e.1 e.2.1 (e :: R)).map kq).Sublist _
    unfold classG
    by_cases h1 : sumOkB (joinG true 0 (e :: R)).2.2 = true
    · rw [if_pos h1]
      by_cases h2 : b = true ∧ (joinG true 0 (e :: R)).1 = 2
      · rw [if_pos h2]; exact List.nil_sublist _
      · rw [if_neg h2]
        simp only [List.map_cons, List.map_nil, kq]
        exact List.Sublist.cons_cons _ (List.nil_sublist _)
    · rw [if_neg h1]; exact List.Sublist.refl _
theorem left_sub (bottom : Bool) : ∀ Cs : List (List EntD), ((Cs.foldr (Sq.stepD clS) (bottom, [])).2.map kq).Sublist (Cs.flatten.map kq)
  | [] => List.Sublist.refl _
  | c :: Cs => by
    have ih := left_sub bottom Cs
    rw [List.foldr_cons, List.flatten_cons, List.map_append]
    generalize Cs.foldr (Sq.stepD clS) (bottom, []) = st at ih ⊢
    show ((clS st.1 c ++ st.2).map kq).Sublist _
    rw [List.map_append]
    exact List.Sublist.append (cl_sub _ c) ih
theorem flat_sub (S : List Int) (bottom : Bool) : ∀ Gs : List (List EntD), ((Gs.flatMap (leftS S bottom)).map kq).Sublist (Gs.flatten.map kq)
  | [] => List.Sublist.refl _
  | G :: Gs => by
    have ih := flat_sub S bottom Gs
    have h := left_sub bottom (Sq.parts (cutB S) G)
    rw [Sq.parts_flat] at h
    rw [List.flatMap_cons, List.flatten_cons, List.map_append, List.map_append]
    exact List.Sublist.append h ih
theorem squash_pair {L : List EntD} (h : L.Pairwise (fun a b => lessB a.1 a.2.1 b.1 b.2.1 = true)) (S : List Int) (bottom : Bool) : (squashL L S bottom).Pairwise (fun a b => lessB a.1 a.2.1 b.1 b.2.1 = true) := by
  unfold squashL
  by_cases hr : rightB L = true
  · rw [if_pos hr]
    have hs := flat_sub S bottom (Sq.parts keyEq L)
    rw [Sq.parts_flat] at hs
    have h1 : (L.map kq).Pairwise (fun a b => lessB a.1 a.2 b.1 b.2 = true) := List.pairwise_map.2 h
    exact List.pairwise_map.1 (h1.sublist hs)
  · rw [if_neg hr]; exact List.Pairwise.nil
theorem right_all {L : List EntD} {n : Nat} (hl : L.length = n) (h1 : ∀ e ∈ L, entB e.1 e.2.1 e.2.2.1 e.2.2.2.1 e.2.2.2.2 = true) (h2 : ∀ j, 1 ≤ j → j < n → ∀ x y, L[j - 1]? = some x → L[j]? = some y → lessB x.1 x.2.1 y.1 y.2.1 = true) : rightB L = true := by
  refine right_of (k := n) (fun j hj => ?_) (by omega)
  have hjl : j < L.length := by omega
  have he := List.getElem?_eq_getElem hjl
  match j, hj, hjl, he with
  | 0, _, hjl, he => rw [okAt_zero he]; exact h1 _ (List.getElem_mem hjl)
  | j + 1, hj, hjl, he =>
    have hd := List.getElem?_eq_getElem (l := L) (i := j) (by omega)
    rw [okAt_succ he hd, h1 _ (List.getElem_mem hjl), h2 (j + 1) (by omega) hj _ _ (show L[j + 1 - 1]? = _ from hd) he]
    rfl
theorem right_squash {L : List EntD} (hr : rightB L = true) (S : List Int) (bottom : Bool) : rightB (squashL L S bottom) = true := by
  have hp := squash_pair (right_pair hr) S bottom
  refine right_all rfl (squash_ents (fun e he => by obtain ⟨j, hj⟩ := List.getElem?_of_mem he; exact right_ent hr hj) S bottom) (fun j h1 h2 x y hx hy => ?_)
  obtain ⟨hi, ei⟩ := List.getElem?_eq_some_iff.1 hx
  obtain ⟨hj, ej⟩ := List.getElem?_eq_some_iff.1 hy
  have := (List.pairwise_iff_getElem.1 hp) (j - 1) j hi hj (by omega)
  rw [ei, ej] at this
  exact this
theorem squash_small {L : List EntD} (hr : rightB L = true) (S : List Int) (bottom : Bool) : ∀ e ∈ squashL L S bottom, SmE e := by
  unfold squashL
  rw [if_pos hr]
  intro e he
  obtain ⟨G, hG, heG⟩ := List.mem_flatMap.1 he
  have key : ∀ Cs : List (List EntD), (∀ c ∈ Cs, ∀ e ∈ c, SmE e) → ∀ e ∈ (Cs.foldr (Sq.stepD clS) (bottom, [])).2, SmE e := by
    intro Cs
    induction Cs with
    | nil => intro _ e he; cases he
    | cons c Cs ih =>
      intro h e he
      have ih' := ih (fun x hx => h x (List.mem_cons_of_mem _ hx))
      rw [List.foldr_cons] at he
      generalize Cs.foldr (Sq.stepD clS) (bottom, []) = st at ih' he
      have he' : e ∈ clS st.1 c ++ st.2 := he
      rcases List.mem_append.1 he' with h1 | h1
      · exact clS_small _ c (h c List.mem_cons_self) e h1
      · exact ih' e h1
  exact key _ (fun c hc e he => right_sm hr e ((part_len _ _ G hG).2 e ((part_len _ _ c hc).2 e he))) e heG
theorem cell_squash {L : List EntD} (hr : rightB L = true) (S : List Int) (bottom : Bool) (key : ByteArray) (t : Int) (ht : t ∈ S ∨ 100000 ≤ t) : cellL (squashL L S bottom) key t = cellL L key t := by
  rw [cell_ev (squash_pair (right_pair hr) S bottom), cell_ev (right_pair hr), squash_tells hr S bottom key t ht]
theorem own_last (w : World) (base : Nat) (h : base ≤ w.heap.size) : OwnN (w.alloc (.cells #[.int .i64 100000] 3)) base w.heap.size 1 1 [100000] :=
  ⟨by have := World.ownsRow_lit (base := base) (e := 3) (size := 1) w #[.int .i64 100000] 1 h (by unfold maxLen; omega) (by simp); simpa using this, rfl, fun q hq => by
    simp only [List.mem_cons, List.not_mem_nil, or_false] at hq
    subst hq
    decide⟩
theorem ints_news {w : World} {lo g n c : Nat} {S : List Int} (h : IntsIn lo w (some ⟨g, 0, none⟩) n c S) : ∀ j u, (S.map (Value.int .i64))[j]? = some u → w.cell? ((⟨g, 0, none⟩ : Addr).add j) = some u := by
  intro j u hj
  rw [List.getElem?_map] at hj
  by_cases hl : j < S.length
  · rw [List.getElem?_eq_getElem hl] at hj
    simp at hj
    subst hj
    rw [Go.WideShapes.add_plain]
    exact h.cells _ rfl j hl
  · rw [List.getElem?_eq_none (by omega)] at hj; cases hj
theorem fq_some {w : World} {base : Nat} {e : TypeId} {size k X m : Nat} {v : Value} {xs : List Value} (h : w.ownsRow base e size v k xs) (hn : v = .slice none 0 0 ↔ Value.slice (some ⟨X, 0, none⟩) 1 1 = .slice none 0 0 ∧ m = 0) : ∃ g cap, v = .slice (some ⟨g, 0, none⟩) k cap := by
  rcases h.2 with ⟨hv, h0⟩ | ⟨g, cap, _, rfl, _⟩
  · have := (hn.1 hv).1; cases this
  · exact ⟨g, cap, rfl⟩

theorem pair_strict {L : List EntD} (h : L.Pairwise (fun a b => lessB a.1 a.2.1 b.1 b.2.1 = true)) : Strict L := h
theorem strict_right {L : List EntD} (h : Strict L) (he : ∀ e ∈ L, entE e = true) : rightB L = true := by
  refine right_all rfl he (fun j h1 h2 x y hx hy => ?_)
  obtain ⟨hi, ei⟩ := List.getElem?_eq_some_iff.1 hx
  obtain ⟨hj, ej⟩ := List.getElem?_eq_some_iff.1 hy
  have := (List.pairwise_iff_getElem.1 h) (j - 1) j hi hj (by omega)
  rw [ei, ej] at this
  exact this
theorem strict_filter {L : List EntD} (h : Strict L) (p : EntD → Bool) : Strict (L.filter p) := List.Pairwise.sublist List.filter_sublist h
/-- Of one key the newer stands ahead. -/
theorem less_newer {x y : EntD} (hk : x.1 = y.1) (h : y.2.1 < x.2.1) : lessE x y = true := by
  have h1 := lessB_one x.1 y.1 x.2.1 y.2.1
  have h2 : decide (¬ x.2.1 = y.2.1) = true := decide_eq_true (by omega)
  rw [h2, Bool.or_true] at h1
  cases h3 : lessE x y with
  | true => rfl
  | false =>
    unfold lessE at h3
    rw [h3, Bool.false_or] at h1
    rcases lessB_true h1 with h4 | h4
    · rw [hk, bless_self] at h4; cases h4
    · omega
/-- Two lists, one newer than the other, merged: what a key has. -/
theorem merge_find {H W : List EntD} {at' : Int} (hH : Strict H) (hW : Strict W) (h1 : ∀ e ∈ H, at' < e.2.1) (h2 : ∀ e ∈ W, e.2.1 ≤ at') (key : ByteArray) (t : Int) : findL (sortE (H ++ W)) key t = findL H key t ++ findL W key t := by
  have hs : Strict (findL H key t ++ findL W key t) := by
    unfold Strict
    rw [List.pairwise_append]
    refine ⟨strict_filter hH _, strict_filter hW _, fun x hx y hy => ?_⟩
    have hx1 := find_all hx
    have hy1 := find_all hy
    exact less_newer (by rw [hx1.1, hy1.1]) (by have a1 := h1 x (find_mem hx); have a2 := h2 y (find_mem hy); omega)
  have hw : Weak (findL (sortE (H ++ W)) key t) := List.Pairwise.sublist List.filter_sublist (sort_both _).1
  have hp : (findL (sortE (H ++ W)) key t).Perm (findL H key t ++ findL W key t) := by
    have := (sort_both (H ++ W)).2.filter (fun e : EntD => decide (e.1 = key) && decide (e.2.1 ≤ t))
    rw [List.filter_append] at this
    exact this
  exact (strict_weak hs hw hp.symm).symm
def highL (L : List EntD) (at' : Int) : List EntD := L.filter (fun e => decide (at' < e.2.1))
def lowL (L : List EntD) (at' : Int) : List EntD := L.filter (fun e => decide (e.2.1 ≤ at'))
theorem high_low {L : List EntD} (at' : Int) : (highL L at' ++ lowL L at').Perm L := by
  have h : lowL L at' = L.filter (fun e => !decide (at' < e.2.1)) := by
    unfold lowL
    congr 1
    funext e
    by_cases h1 : at' < e.2.1
    · simp [h1]
    · simp [h1]; omega
  rw [h]
  exact List.filter_append_perm _ L
theorem squash_times {L : List EntD} (p : Int → Prop) (h : ∀ e ∈ L, p e.2.1) (S : List Int) (b : Bool) : ∀ e ∈ squashL L S b, p e.2.1 :=
  squash_all (fun e => p e.2.1) S b (fun b c hc _ x hx => by
    obtain ⟨y, hy, _, h2⟩ := clS_mem b c x hx
    show p x.2.1
    rw [h2]
    exact h y (hc y hy))
/-- Squashed in two parts, then together: right, and it tells the same. -/
theorem parts_tell {L : List EntD} (hr : rightB L = true) (S : List Int) (at' : Int) :
    rightB (sortE (squashL (highL L at') S false ++ squashL (lowL L at') S true)) = true ∧
      ∀ key t, t ∈ S ∨ 100000 ≤ t → cellL (squashL (sortE (squashL (highL L at') S false ++ squashL (lowL L at') S true)) S true) key t = cellL (squashL L S true) key t := by
  have hsL : Strict L := right_strict hr
  have heL : ∀ e ∈ L, entE e = true := fun e he => by obtain ⟨j, hj⟩ := List.getElem?_of_mem he; exact right_ent hr hj
  have hrH : rightB (highL L at') = true := strict_right (strict_filter hsL _) (fun e he => heL e (List.mem_filter.1 he).1)
  have hrW : rightB (lowL L at') = true := strict_right (strict_filter hsL _) (fun e he => heL e (List.mem_filter.1 he).1)
  have tH : ∀ e ∈ highL L at', at' < e.2.1 := fun e he => by simpa using (List.mem_filter.1 he).2
  have tW : ∀ e ∈ lowL L at', e.2.1 ≤ at' := fun e he => by simpa using (List.mem_filter.1 he).2
  obtain ⟨H, hH⟩ : ∃ H, H = squashL (highL L at') S false := ⟨_, rfl⟩
  obtain ⟨W, hW⟩ : ∃ W, W = squashL (lowL L at') S true := ⟨_, rfl⟩
  have sH : Strict H := by rw [hH]; exact squash_pair (right_pair hrH) S false
  have sW : Strict W := by rw [hW]; exact squash_pair (right_pair hrW) S true
  have uH : ∀ e ∈ H, at' < e.2.1 := by rw [hH]; exact squash_times (fun q => at' < q) tH S false
  have uW : ∀ e ∈ W, e.2.1 ≤ at' := by rw [hW]; exact squash_times (fun q => q ≤ at') tW S true
  have eH : ∀ e ∈ H, entE e = true := by rw [hH]; exact squash_ents (fun e he => heL e (List.mem_filter.1 he).1) S false
  have eW : ∀ e ∈ W, entE e = true := by rw [hW]; exact squash_ents (fun e he => heL e (List.mem_filter.1 he).1) S true
  rw [← hH, ← hW]
  have hB : rightB (sortE (H ++ W)) = true := by
    refine strict_right ?_ (fun e he => ?_)
    · obtain ⟨b1, b2⟩ := sort_both (H ++ W)
      have hu : (H ++ W).Pairwise (fun a b => ¬ (a.1 = b.1 ∧ a.2.1 = b.2.1)) := by
        have un : ∀ {A : List EntD}, Strict A → A.Pairwise (fun a b => ¬ (a.1 = b.1 ∧ a.2.1 = b.2.1)) := fun h => h.imp (fun {a b} hab e => by
          unfold lessE at hab
          rw [e.1, e.2, lessB_self] at hab
          cases hab)
        rw [List.pairwise_append]
        exact ⟨un sH, un sW, fun x hx y hy e => by have a1 := uH x hx; have a2 := uW y hy; omega⟩
      have hu2 : (sortE (H ++ W)).Pairwise (fun a b => ¬ (a.1 = b.1 ∧ a.2.1 = b.2.1)) := (b2.pairwise_iff (fun h e => h ⟨e.1.symm, e.2.symm⟩)).2 hu
      refine (List.Pairwise.and b1 hu2).imp (fun {a b} h => ?_)
      have h1 := lessB_one a.1 b.1 a.2.1 b.2.1
      have h2 := h.1
      unfold lessE at h2 ⊢
      rw [h2, Bool.or_false] at h1
      rw [h1]
      by_cases e : a.1 = b.1
      · have : ¬ a.2.1 = b.2.1 := fun e2 => h.2 ⟨e, e2⟩
        simp [this]
      · simp [e]
    · rcases List.mem_append.1 ((sort_both (H ++ W)).2.mem_iff.1 he) with h | h
      · exact eH e h
      · exact eW e h
  refine ⟨hB, fun key t ht => ?_⟩
  have hLe : sortE (highL L at' ++ lowL L at') = L := (strict_weak hsL (sort_both _).1 ((sort_both _).2.trans (high_low at')).symm).symm
  have f1 := merge_find sH sW uH uW key t
  have f2 := merge_find (strict_filter hsL _) (strict_filter hsL _) tH tW key t
  have f2' : findL L key t = findL (highL L at') key t ++ findL (lowL L at') key t := by
    have h3 : findL (sortE (highL L at' ++ lowL L at')) key t = _ := f2
    rw [hLe] at h3
    exact h3
  rw [cell_squash hB S true key t ht, cell_squash hr S true key t ht, cell_ev (right_pair hB), cell_ev (right_pair hr), f1, f2', ev_app, ev_app]
  have g1 : ev (findL W key t) noC = ev (findL (lowL L at') key t) noC := by rw [hW]; exact squash_tells hrW S true key t ht
  rw [g1, hH]
  exact squash_tells_on hrH S false key t ht _ (fun h => by cases h)
end Go.Proofs.YthhiahjafhkbbaaGreat
