/-
  What the program's sumsOf makes at every posting: a new map that holds, by accounts, the sums of the legs of the currency; by a walk of its Go text.
-/
import Derived.Test.YtfblpbihpmhgjaaDoorBp27
import Derived.Test.YtfblpbihpmhgjaaDoorBp12
import Derived.Maps.OwnIn
namespace Go.Proofs.YtfblpbihpmhgjaaDoor
open Go.RowKit Go.Shelf

attribute [local go_sem] Oper.semAt_some

set_option maxRecDepth 100000 in
set_option maxHeartbeats 2000000 in
theorem sumsOf_in (id cur : Int) (a : Option Addr) (len cap : Nat) (L : List LegD) (w : World) (hL : LegsAt w a len cap L) :
    CallsIn Fence.wide 5 Tryd.prog 163 #[.agg #[.int .i64 id, .slice a len cap], .int .i64 cur] w fun e W' => e = .returned (.map (some (w.heap.size + 1))) ∧ (∃ D, MapIs D (yieldsOf id L cur) ∧ W'.ownsMap Tryd.prog 9 (plainElem (H := Unit) Tryd.prog 3) (w.heap.size + 1) (yieldsOf id L cur).length D) ∧ Below w.heap.size w W' := by
  have hmm := @run_makeMap Tryd.prog
  refine callsIn_of_wp_marks Tryd.func163 rfl trivial ?_ rfl
  simp only [Tryd.ntmps163, List.size_toArray, List.length_cons, List.length_nil, Nat.reduceAdd, Nat.reduceSub, Array.replicate_succ, Array.replicate_zero, List.push_toArray, List.append_toArray, List.nil_append, List.cons_append]
  gi_wp2_with (refine ⟨trivial, ?_⟩; gi_at_call 180; refine (legsOf_in _ _ _ _ _ _ _).mono ?_; rintro e w' ⟨rfl, rfl⟩)
  have hB0 : Below w.heap.size w (((((w.alloc (.cells #[.int .i64 id, .slice a len cap] 29)).alloc (.map #[] 0)).alloc (.cells #[.map (some (w.heap.size + 1))] 210)).alloc (.cells #[.int .i64 id, .slice a len cap] 29)).alloc (.cells #[.int .i64 cur] 3)) :=
    (((((Below.refl _ w).alloc (Nat.le_refl _) _).alloc (by simp) _).alloc (by simp; omega) _).alloc (by simp; omega) _).alloc (by simp; omega) _
  have hsz : (((((w.alloc (.cells #[.int .i64 id, .slice a len cap] 29)).alloc (.map #[] 0)).alloc (.cells #[.map (some (w.heap.size + 1))] 210)).alloc (.cells #[.int .i64 id, .slice a len cap] 29)).alloc (.cells #[.int .i64 cur] 3)).heap.size = w.heap.size + 5 := by simp
  have hm0 := ((((World.ownsMap_made (w.alloc (.cells #[.int .i64 id, .slice a len cap] 29)) Tryd.prog 9 (plainElem (H := Unit) Tryd.prog 3)).alloc (.cells #[.map (some (w.heap.size + 1))] 210)).alloc (.cells #[.int .i64 id, .slice a len cap] 29)).alloc (.cells #[.int .i64 cur] 3))
  have bS := ((Boxed.new ((w.alloc (.cells #[.int .i64 id, .slice a len cap] 29)).alloc (.map #[] 0)) 210 (.map (some (w.heap.size + 1)))).alloc (.cells #[.int .i64 id, .slice a len cap] 29)).alloc (.cells #[.int .i64 cur] 3)
  have bC := Boxed.new ((((w.alloc (.cells #[.int .i64 id, .slice a len cap] 29)).alloc (.map #[] 0)).alloc (.cells #[.map (some (w.heap.size + 1))] 210)).alloc (.cells #[.int .i64 id, .slice a len cap] 29)) 3 (.int .i64 cur)
  simp only [World.size_alloc] at hm0 bS bC
  have cp0 : (((((w.alloc (.cells #[.int .i64 id, .slice a len cap] 29)).alloc (.map #[] 0)).alloc (.cells #[.map (some (w.heap.size + 1))] 210)).alloc (.cells #[.int .i64 id, .slice a len cap] 29)).alloc (.cells #[.int .i64 cur] 3)).cell? ⟨w.heap.size + 1 + 1 + 1, 0, none⟩ = some (.int .i64 id) := by
    refine cell_later ((Below.refl _ _).alloc (Nat.le_refl _) _) ?_
    refine (World.cell?_alloc_at _ _ _ _ ?_).trans rfl
    simp
  have cp1 : (((((w.alloc (.cells #[.int .i64 id, .slice a len cap] 29)).alloc (.map #[] 0)).alloc (.cells #[.map (some (w.heap.size + 1))] 210)).alloc (.cells #[.int .i64 id, .slice a len cap] 29)).alloc (.cells #[.int .i64 cur] 3)).cell? ⟨w.heap.size + 1 + 1 + 1, 1, none⟩ = some (.slice a len cap) := by
    refine cell_later ((Below.refl _ _).alloc (Nat.le_refl _) _) ?_
    refine (World.cell?_alloc_at _ _ _ _ ?_).trans rfl
    simp
  obtain ⟨W0, hW0⟩ : ∃ W0, (((((w.alloc (.cells #[.int .i64 id, .slice a len cap] 29)).alloc (.map #[] 0)).alloc (.cells #[.map (some (w.heap.size + 1))] 210)).alloc (.cells #[.int .i64 id, .slice a len cap] 29)).alloc (.cells #[.int .i64 cur] 3)) = W0 := ⟨_, rfl⟩
  rw [hW0] at hB0 hsz hm0 bS bC cp0 cp1 ⊢
  clear hW0
  have hY4 := yieldsOf_len id L cur
  refine wpIn_rangeFunc_ownH rfl (by omega) (gf := 187) (lb := #[.pointer (some ⟨w.heap.size + 1 + 1 + 1, 0, none⟩), .pointer (some ⟨w.heap.size + 1 + 1 + 1 + 1, 0, none⟩)]) rfl trivial (enters_of Tryd.func187 (by kernel_rfl) rfl)
    (legs_stops (5 - 1) (by omega) (w.heap.size + 1 + 1 + 1) (w.heap.size + 1 + 1 + 1 + 1) (w.heap.size + 1) (w.heap.size + 5) id cur a len cap L W0 (by omega) (by omega) (by omega) cp0 cp1 bC.cell (hL.keep hB0) (fun x e hp => by have := (hL.lies x e hp).1; omega)) ButM.trans (butM_b (by omega)) (Below.refl _ _) (fun _ => rfl)
    (fun pre W => (Boxed W (w.heap.size + 1 + 1) 210 (.map (some (w.heap.size + 1))) ∧ ∃ D, MapIs D pre ∧ W.ownsMap Tryd.prog 9 (plainElem (H := Unit) Tryd.prog 3) (w.heap.size + 1) pre.length D) ∧ (Below w.heap.size w W ∧ w.heap.size + 5 ≤ W.heap.size))
    (fun _ _ _ => False)
    (OwnFrom.and (OwnFrom.and (Own.from (boxed_own _ _ _) _) (fun s A B row hs hg hr => by obtain ⟨D, h1, h2⟩ := hs; exact ⟨D, h1, h2.kept hg (fun e => by have := (hr _ e.symm).1; omega)⟩)) (OwnFrom.and (ownFrom_below (Nat.le_refl _) (by omega)) (fun s A B row hs hg hr => Nat.le_trans hs hg.size)))
    (fun _ _ _ _ _ hs _ _ => hs)
    ⟨⟨bS, _, mapIs_nil, hm0⟩, hB0, by omega⟩
    (fun x a' W => ∃ Bx, w.heap.size + 5 ≤ Bx ∧ W.cell? ⟨Bx, 0, none⟩ = some (.string x.1.1) ∧ W.cell? ⟨Bx, 2, none⟩ = some (.int .i64 x.1.2.2) ∧ a' = { tmps := #[.agg #[.int .i64 id, .slice a len cap], .int .i64 cur, .pointer (some ⟨w.heap.size, 0, none⟩), undef, .map none, .pointer (some ⟨w.heap.size + 1 + 1, 0, none⟩), .pointer (some ⟨Bx, 0, none⟩), .map (some (w.heap.size + 1)), .agg #[.int .i64 id, .slice a len cap], .int .i64 cur, .func (.func 187) #[] #[.pointer (some ⟨w.heap.size + 1 + 1 + 1, 0, none⟩), .pointer (some ⟨w.heap.size + 1 + 1 + 1 + 1, 0, none⟩)], legV x.1, undef, undef, undef, undef, undef, undef, undef, undef], defers := [] })
    (fun x a' _ X Y row hs hg hr => by obtain ⟨Bx, h1, h2, h3, h4⟩ := hs; exact ⟨Bx, h1, cell_kept h2 hg (fun r e => (hr r e).2), cell_kept h3 hg (fun r e => (hr r e).2), h4⟩)
    ?assign ?body ?done ?stop
  case assign =>
    rintro l pre x W K ⟨⟨bS1, D, hM, hown⟩, hB1, hW5⟩ hK
    have hsW := hB1.size
    have hlt := bS1.lt
    gi_wp2
    refine hK _ _ ((KeepsOthers.alloc _ _).from _) (ButM.of ((Below.refl _ W).alloc ?_ _)) ⟨⟨bS1.alloc _, D, hM, hown.alloc _⟩, hB1.alloc hB1.size _, by simp; omega⟩ ⟨W.heap.size, hW5, by simp, by simp, rfl⟩
    exact hW5
  case body =>
    rintro l pre x a' W hl _ ⟨⟨bS1, D, hM, hown⟩, hB1, hW5⟩ ⟨Bx, hBx, cx0, cx2, rfl⟩ hlt
    have cS := bS1.cell
    have hkey := Go.WideMaps.keyOf_string_mk (k := 9) Tryd.underlying9 (s := x.1.1) (by have := acct_size x; unfold maxLen; omega)
    have hnb := numY_bd x
    have hab := atY_bd pre (keyY x)
    have hat0 := hM.at (keyY x)
    have hM1 := hM.snoc x
    have HM1 : Hid (MapIs (D.put (.string (keyY x)) (.lit (.int .i64 (atY pre (keyY x) + numY x)))) (pre ++ [x])) := hM1
    have HAT : Hid (D.atKey (.string (keyY x)) (.lit (.int .i64 0)) = .lit (.int .i64 (atY pre (keyY x)))) := hat0
    obtain ⟨hn1, hn2⟩ := hnb
    obtain ⟨hc1, hc2⟩ := hab
    obtain ⟨c0, hc0⟩ : ∃ c0, c0 = atY pre (keyY x) := ⟨_, rfl⟩
    obtain ⟨m0, hm0'⟩ : ∃ m0, m0 = numY x := ⟨_, rfl⟩
    have hplen : (pre.length : Int) ≤ 4 := by omega
    rw [← hc0] at hc1 hc2 HM1 HAT
    rw [← hm0'] at hn1 hn2 HM1
    have cx2' : W.cell? ⟨Bx, 2, none⟩ = some (.int .i64 m0) := by rw [cx2, hm0']; rfl
    clear cx2 hc0 hm0' hM hM1 hat0 hm0 bC cp0 cp1 bS
    have hb1 : -4000 ≤ c0 := by omega
    have hb2 : c0 ≤ 4000 := by omega
    clear hc1 hc2
    gi_wp2_with (first
      | (gi_at_lookup; refine wpListIn_lookup_own_int _ rfl _ _ 210 rfl 9 3 .i64 (Maps.string_keyed Tryd.underlying9) Tryd.underlying210 Tryd.underlying3 (Tryd.zeroValue3 _) (w.heap.size + 1) pre.length _ rfl hown _ _ rfl hkey ?_; intro c hat hwc; obtain rfl : c0 = c := by (have := HAT.out.symm.trans hat; simpa using this))
      | (gi_at_mapUpdate; refine wpListIn_mapUpdate_own _ rfl _ _ _ 210 rfl 9 3 (Maps.string_keyed Tryd.underlying9) Tryd.underlying210 _ (w.heap.size + 1) pre.length _ rfl hown ?_ _ _ _ rfl rfl hkey _ [] (plainElem_int Tryd.underlying3 ?_) ?_; unfold maxLen; omega; exact WalkArith.wf_i64 (by omega); intro w1 hown1 hgrow1))
    obtain ⟨es, ck, hh, _⟩ := hown
    exact ⟨KeepsFrom.of_grownBy hgrow1 (fun j e => by cases e; omega), ButM.grown hgrow1 hW5,
      ⟨bS1.kept hgrow1 (by simp), _, HM1.out, by rw [List.length_append]; exact hown1⟩, hB1.grown hgrow1 hB1.size (fun k e => by cases e; omega), Nat.le_trans hW5 hgrow1.size⟩
  case done =>
    rintro D zs W hD rfl ⟨⟨bS1, D', hM, hown⟩, hB1, hW5⟩ hK
    have cS := bS1.cell
    gi_wp2
    refine ⟨by simp, .inl ⟨_, _, rfl, run_takeDeferred hK, ?_⟩⟩
    exact ⟨_, results_tmp rfl _ _ _, rfl, ⟨D', hM, hown.kept (grownBy_putObj' _ D _) (fun e => by cases e; omega)⟩, hB1.trans (belowK_b (w := w) (Nat.le_refl _) W D _ _ (by omega) hK rfl rfl)⟩
  case stop =>
    rintro D c pre W _ _ h _
    exact h.elim
end Go.Proofs.YtfblpbihpmhgjaaDoor
