/-
  What a law draws to be squashed: entries, times and a bool; by walks of its Go text.
-/
import Derived.Test.YthhiahjafhkbbaaGreatBn43
import Derived.Test.YthhiahjafhkbbaaGreatBn44
import Derived.Test.YthhiahjafhkbbaaGreatBn29
import Derived.Deep.LoopGhost
namespace Go.Proofs.YthhiahjafhkbbaaGreat
open Go.RowKit

/-- Entries that may be drawn to be squashed. -/
def DrOk (L : List EntD) : Prop := L.length ≤ 15 ∧ (∀ e ∈ L, entB e.1 e.2.1 e.2.2.1 e.2.2.2.1 e.2.2.2.2 = true) ∧
  (rightB L = true → (∀ e ∈ L.tail, -100 ≤ e.2.2.2.2 ∧ e.2.2.2.2 ≤ 100) ∧ ∀ e, L[0]? = some e → (-100 ≤ e.2.2.2.2 ∧ e.2.2.2.2 ≤ 100) ∨ e.2.2.2.2 = 1000000 ∨ e.2.2.2.2 = -1000000) ∧ ∀ e ∈ L, e.2.1 ≤ 1000
theorem entX_ok {k t : ByteArray} {q d n : Int} (h : EntX k t q d n) (h1 : 1 ≤ q) (h2 : q ≤ 100000) : entB k q d t n = true := by
  obtain ⟨_, _, hd, hn, _, ht, hk, hs, hl, hu⟩ := h
  rw [entB_rest hk h1 h2 (by omega) (by omega) hs]
  rcases hd with rfl | rfl | rfl
  · exact kindB_1
  · rw [kindB_2, ht (by omega), hn rfl]; rfl
  · rw [kindB_3, ht (by omega)]; rfl
theorem ent_N {k t : ByteArray} {q d n n' : Int} (h : entB k q d t n = true) (hd : d ≠ 2) (h1 : -1000000 ≤ n') (h2 : n' ≤ 1000000) : entB k q d t n' = true := by
  unfold entB at h ⊢
  simp only [Bool.and_eq_true, decide_eq_true_eq] at h ⊢
  obtain ⟨a, b, c, _, _, f, g⟩ := h
  refine ⟨a, b, c, h1, h2, f, ?_⟩
  by_cases d1 : d = 1
  · subst d1; exact kindB_1
  · by_cases d3 : d = 3
    · subst d3; rw [kindB_3] at g ⊢; exact g
    · rw [kindB_0 d1 hd d3] at g; cases g
theorem drOk_sort {L : List EntD} {B : Nat} (h : AllX L B) (hB : B ≤ 1000) (hl : L.length ≤ 14) : DrOk (sortE L) ∧ ∀ e ∈ sortE L, -100 ≤ e.2.2.2.2 ∧ e.2.2.2.2 ≤ 100 := by
  have hm : ∀ e, e ∈ sortE L ↔ e ∈ L := fun e => (sort_both L).2.mem_iff
  have hn : ∀ e ∈ sortE L, -100 ≤ e.2.2.2.2 ∧ e.2.2.2.2 ≤ 100 := fun e he => by
    obtain ⟨⟨_, _, _, _, _, _, _, _, h3⟩, _⟩ := h.1 e ((hm e).1 he)
    exact h3
  refine ⟨⟨by rw [(sort_both L).2.length_eq]; omega, fun e he => ?_, fun _ => ⟨fun e he => hn e (List.mem_of_mem_tail he), fun e he => .inl (hn e (List.mem_of_getElem? he))⟩, fun e he => by have := (h.1 e ((hm e).1 he)).2.2; omega⟩, hn⟩
  obtain ⟨h1, h2, h3⟩ := h.1 e ((hm e).1 he)
  exact entX_ok h1 h2 (by omega)
theorem drOk_first {s t : ByteArray} {q d n n' : Int} {L : List EntD} (h : DrOk ((s, q, d, t, n) :: L)) (hn : ∀ e ∈ L, -100 ≤ e.2.2.2.2 ∧ e.2.2.2.2 ≤ 100) (hd : d ≠ 2) (h' : n' = 1000000 ∨ n' = -1000000) : DrOk ((s, q, d, t, n') :: L) := by
  obtain ⟨h1, h2, h3, h4⟩ := h
  refine ⟨by simpa using h1, fun e he => ?_, fun _ => ⟨fun e he => hn e (by simpa using he), fun e he => ?_⟩, fun e he => ?_⟩
  · rcases List.mem_cons.1 he with rfl | he
    · have hb : -1000000 ≤ n' ∧ n' ≤ 1000000 := by rcases h' with rfl | rfl <;> omega
      exact ent_N (k := s) (t := t) (q := q) (d := d) (n := n) (n' := n') (h2 (s, q, d, t, n) List.mem_cons_self) hd hb.1 hb.2
    · exact h2 e (List.mem_cons_of_mem _ he)
  · simp at he
    subst he
    exact .inr h'
  · rcases List.mem_cons.1 he with rfl | he
    · exact h4 (s, q, d, t, n) List.mem_cons_self
    · exact h4 e (List.mem_cons_of_mem _ he)
theorem drOk_twice {e : EntD} {L : List EntD} (h : DrOk (e :: L)) (hl : (e :: L).length ≤ 14) : DrOk ((e :: L) ++ [e]) := by
  obtain ⟨h1, h2, h3, h4⟩ := h
  refine ⟨by simp at hl ⊢; omega, fun x hx => ?_, fun hr => ?_, fun x hx => ?_⟩
  · rcases List.mem_append.1 hx with h | h
    · exact h2 x h
    · rw [List.mem_singleton] at h; subst h; exact h2 x List.mem_cons_self
  · exfalso
    have := right_less hr (i := 0) (j := (e :: L).length) (by simp) (d := e) (e := e) (by simp) (by rw [List.getElem?_append_right (Nat.le_refl _)]; simp)
    rw [lessB_self] at this
    cases this
  · rcases List.mem_append.1 hx with h | h
    · exact h4 x h
    · rw [List.mem_singleton] at h; subst h; exact h4 x List.mem_cons_self

theorem own_setN {w : World} {base g n c : Nat} {s t : ByteArray} {q d m : Int} {L : List EntD} (h : OwnE w base g n c ((s, q, d, t, m) :: L)) (x : Int) (hx : (Lit.int .i64 x).wf = true) :
    OwnE (w.setCell ⟨g, 4, none⟩ (.int .i64 x)) base g n c ((s, q, d, t, x) :: L) ∧ w.grownBy (w.setCell ⟨g, 4, none⟩ (.int .i64 x)) (some g) := by
  have h1 := h.owns.stored 4 (.int .i64 x)
  have e : (flatE ((s, q, d, t, m) :: L)).set 4 (.int .i64 x) = flatE ((s, q, d, t, x) :: L) := by simp [flatE, entCells]
  rw [e] at h1
  refine ⟨⟨h1.1, by simpa using h.len, fun l hl => ?_⟩, h1.2⟩
  rcases List.mem_cons.1 hl with rfl | hl
  · have hw := h.ents _ List.mem_cons_self
    exact ⟨hw.1, hw.2.1, hw.2.2.1, hw.2.2.2.1, hx⟩
  · exact h.ents l (List.mem_cons_of_mem _ hl)

/-- The reader and a row of entries. -/
structure SdSt (w wi : World) (R : Nat) (a : Option Addr) (len cap P g n c : Nat) (L : List EntD) : Prop where
  all : Below w.heap.size w wi
  rd : RdAt wi R a len cap P
  own : OwnE wi w.heap.size g n c L
  hr : w.heap.size ≤ R
  gr : R < g
  low : Low a len R
theorem SdSt.read {w wi wj : World} {R : Nat} {a : Option Addr} {len cap P P' g n c : Nat} {L : List EntD} (h : SdSt w wi R a len cap P g n c L) (hg : wi.grownBy wj (some R)) (hr : RdAt wj R a len cap P') : SdSt w wj R a len cap P' g n c L :=
  ⟨h.all.grown hg h.all.size (fun k e => by cases e; exact h.hr), hr, h.own.gR hg h.gr, h.hr, h.gr, h.low⟩
theorem SdSt.below {w wi wj : World} {R : Nat} {a : Option Addr} {len cap P g n c : Nat} {L : List EntD} (h : SdSt w wi R a len cap P g n c L) (hb : Below wi.heap.size wi wj) : SdSt w wj R a len cap P g n c L := h.read (grown_below hb) (h.rd.below hb)
theorem SdSt.step {w wi wj : World} {R : Nat} {a : Option Addr} {len cap P g n c g' n' c' : Nat} {L L' : List EntD} (h : SdSt w wi R a len cap P g n c L) (hg : wi.grownBy wj (some g)) (ho : OwnE wj w.heap.size g' n' c' L') (hgr : R < g') : SdSt w wj R a len cap P g' n' c' L' :=
  ⟨h.all.grown hg h.all.size (fun k e => by cases e; have := h.hr; have := h.gr; omega), h.rd.grown hg h.low (fun k e => by cases e; exact h.gr), ho, h.hr, hgr, h.low⟩
theorem SdSt.more {w wi wj : World} {R : Nat} {a : Option Addr} {len cap P g n c g' c' : Nat} {L : List EntD} {e : EntD} (h : SdSt w wi R a len cap P g n c L) (hg : wi.grownBy wj (Value.slice (some ⟨g, 0, none⟩) n c).ownBlock) (ho : wj.ownsRow (R + 1) 30 5 (.slice (some ⟨g', 0, none⟩) (n + 1) c') (n + 1) (flatE L ++ flatE [e])) (he : EntW e) : SdSt w wj R a len cap P g' (n + 1) c' (L ++ [e]) := by
  have hg' : wi.grownBy wj (some g) := by simpa [Value.ownBlock] using hg
  have hb := (ho.lt g' rfl).1
  have hO : OwnE wj (R + 1) g' (n + 1) c' (L ++ [e]) := ⟨by rw [flatE_append]; exact ho, by simp [h.own.len], fun x hx => by rcases List.mem_append.1 hx with h1 | h1; exact h.own.ents x h1; rw [List.mem_singleton] at h1; subst h1; exact he⟩
  exact h.step hg' (hO.mono (by have := h.hr; omega)) (by omega)
theorem sd_raise {w : World} {base base' g n c : Nat} {L : List EntD} (h : OwnE w base g n c L) (hb : base' ≤ g) : w.ownsRow base' 30 5 (.slice (some ⟨g, 0, none⟩) n c) n (flatE L) := by
  obtain ⟨h1, h2⟩ := h.owns
  refine ⟨h1, ?_⟩
  rcases h2 with h2 | ⟨g', cap', cur, e, _, h3⟩
  · exact .inl h2
  · simp only [Value.slice.injEq, Option.some.injEq, Addr.mk.injEq, and_true, true_and] at e
    obtain ⟨e1, e2⟩ := e
    subst e1 e2
    exact .inr ⟨g, c, cur, rfl, hb, h3⟩

set_option maxRecDepth 100000 in
set_option maxHeartbeats 2000000 in
theorem l4Ents_x (R P many : Nat) (a : Option Addr) (len cap : Nat) (w : World) (h : RdAt w R a len cap P) (hlow : Low a len R) (hP : P < 80000) (hm : many ≤ 100) :
    Calls Tryz.prog 28 #[.pointer (some ⟨R, 0, none⟩), .int .i64 many] w fun e w' => ∃ (g n c P' : Nat) (L : List EntD), e = .returned (.slice (some ⟨g, 0, none⟩) n c) ∧ OwnE w' w.heap.size g n c (sortE L) ∧ n ≤ many ∧ AllX L (2 * many) ∧ RdAt w' R a len cap P' ∧ P' ≤ P + 1 + 8 * many ∧ w.grownBy w' (some R) := by
  go_enter Tryz.func28, Tryz.ntmps28
  go_wp2_with fail
  refine (l3List_x R P many a len cap w h hlow hP hm).mono ?_
  rintro e w1 ⟨g, n, c, P', L, rfl, hO, hn, hF, hR, hP', hG⟩
  have HR : Hid (RdAt w1 R a len cap P') := hR
  have HG : Hid (w.grownBy w1 (some R)) := hG
  have HF : Hid (AllX L (2 * many)) := hF
  have hz := hG.size
  go_wp2_with fail
  refine (specSort _ n c L w1 hO.entsAt (by omega)).mono ?_
  rintro e w2 ⟨g2, c2, rfl, hO2, hb2⟩
  have HO2 : Hid (OwnE w2 w.heap.size g2 n c2 (sortE L)) := hO2.mono hz
  have HR2 : Hid (RdAt w2 R a len cap P') := HR.out.below hb2
  have HG2 : Hid (w.grownBy w2 (some R)) := grown_trans HG.out (grown_below hb2)
  clear hO hR hG hF hb2 hO2 HR HG
  go_wp2
  go_ret
  exact ⟨g2, n, c2, P', L, rfl, HO2.out, hn, HF.out, HR2.out, hP', HG2.out⟩

theorem ownN_nil (w : World) (base : Nat) (h : base ≤ w.heap.size) : OwnN (w.alloc (.cells #[] 3)) base w.heap.size 0 0 [] :=
  ⟨by have := World.ownsRow_lit (base := base) (e := 3) (size := 1) w #[] 0 h (by simp) (by simp); simpa using this, rfl, fun q hq => by cases hq⟩
theorem cellI_one (w : World) (o : Value) (T : TypeId) : ∀ j u, [o][j]? = some u → (w.alloc (.cells #[o] T)).cell? ((⟨w.heap.size, 0, none⟩ : Addr).add j) = some u := by
  intro j u hj
  match j, hj with
  | 0, hj => simp at hj; subst hj; rw [Go.WideShapes.add_plain]; simp
  | j + 1, hj => simp at hj

theorem wf_pick {q : Int} (h1 : 0 ≤ q) (h2 : q < 20) : (Lit.int .i64 q).wf = true := WalkArith.wf_i64 (by omega)
/-- A number behind numbers. -/
theorem snapsA {w w2 w3 : World} {R : Nat} {a : Option Addr} {len cap P g m c : Nat} {S : List Int} {q : Int} {v3 : Value} {o : Obj} (hO : OwnN w2 w.heap.size g m c S) (hG : w.grownBy w2 (some R)) (hR : RdAt w2 R a len cap P) (hlow : Low a len R) (hgR : R < g) (hq : (Lit.int .i64 q).wf = true)
    (hown : w3.ownsRow w.heap.size 3 1 v3 (m + 1) (S.map (Value.int .i64) ++ [.int .i64 q])) (hgrow : (w2.alloc o).grownBy w3 (Value.slice (some ⟨g, 0, none⟩) m c).ownBlock) :
    ∃ g3 c3, v3 = .slice (some ⟨g3, 0, none⟩) (m + 1) c3 ∧ Hid (OwnN w3 w.heap.size g3 (m + 1) c3 (S ++ [q])) ∧ Hid (w.grownBy w3 (some R)) ∧ Hid (RdAt w3 R a len cap P) := by
  obtain ⟨g3, c3, rfl⟩ : ∃ g cap, v3 = .slice (some ⟨g, 0, none⟩) (m + 1) cap := by
    rcases hown.2 with ⟨hv, h0⟩ | ⟨g, cap, cur, hv, _⟩
    · omega
    · exact ⟨g, cap, hv⟩
  have hal : Below w2.heap.size w2 (w2.alloc o) := (Below.refl _ _).alloc (Nat.le_refl _) _
  have hg' : (w2.alloc o).grownBy w3 (some g) := by simpa [Value.ownBlock] using hgrow
  refine ⟨g3, c3, rfl, ⟨by rw [List.map_append]; exact hown, by rw [List.length_append, hO.len]; rfl, fun x hx => ?_⟩, grown_then (grown_trans hG (grown_below hal)) hg' (fun j e => by cases e; exact hO.lt.1), (hR.below hal).grown hg' hlow (fun k e => by cases e; exact hgR)⟩
  rcases List.mem_append.1 hx with h | h
  · exact hO.wfs x h
  · rw [List.mem_singleton] at h; subst h; exact hq

set_option maxRecDepth 100000 in
set_option maxHeartbeats 4000000 in
theorem l4Snaps_any (R P : Nat) (a : Option Addr) (len cap : Nat) (w : World) (h : RdAt w R a len cap P) (hlow : Low a len R) (hP : P < 80000) :
    Calls Tryz.prog 31 #[.pointer (some ⟨R, 0, none⟩)] w fun e w' => ∃ (g m c P' : Nat) (S : List Int), e = .returned (.slice (some ⟨g, 0, none⟩) m c) ∧ OwnN w' w.heap.size g m c S ∧ m ≤ 3 ∧ (∀ s ∈ S, 0 ≤ s ∧ s < 20) ∧ RdAt w' R a len cap P' ∧ P' ≤ P + 5 ∧ w.grownBy w' (some R) := by
  have hRw := h.lt
  have kt : Below w.heap.size w (w.alloc (.cells #[] 3)) := (Below.refl _ _).alloc (Nat.le_refl _) _
  have HO0 : Hid (OwnN (w.alloc (.cells #[] 3)) w.heap.size w.heap.size 0 0 []) := ownN_nil w _ (Nat.le_refl _)
  have HR0 : Hid (RdAt (w.alloc (.cells #[] 3)) R a len cap P) := h.below kt
  have HG0 : Hid (w.grownBy (w.alloc (.cells #[] 3)) (some R)) := grown_below kt
  have HLOW : Hid (Low a len R) := hlow
  obtain ⟨i0, hi, hz0, hz1, hz2⟩ := info_parts Tryz.infoInt
  clear kt h hlow
  go_enter Tryz.func31, Tryz.ntmps31
  go_wp2_with fail
  refine (pick_any R P a len cap _ _ HR0.out (by omega) (by omega)).mono ?_
  rintro e w1 ⟨q1, rfl, hq1, R1, g1⟩
  have hq0 := hq1.1
  have hqm := hq1.2 (by omega)
  obtain ⟨I0, hI0⟩ := Int.eq_ofNat_of_zero_le hq0
  subst hI0
  have HO1 : Hid (OwnN w1 w.heap.size w.heap.size 0 0 []) := HO0.out.grown g1 (fun e => by cases e; omega)
  have HG1 : Hid (w.grownBy w1 (some R)) := grown_trans HG0.out g1
  have HR1 : Hid (RdAt w1 R a len cap (P + 1)) := R1
  clear HO0 HR0 HG0 R1 g1 hq1 hq0
  go_wp2
  go_loopw [3, 4] (fun o iv wr => ∃ (i g m c P' : Nat) (S : List Int), i ≤ 3 ∧ m + i ≤ 3 ∧ iv = .int .i64 (i : Nat) ∧ o = .slice (some ⟨g, 0, none⟩) m c ∧ OwnN wr w.heap.size g m c S ∧ (∀ s ∈ S, 0 ≤ s ∧ s < 20) ∧ RdAt wr R a len cap P' ∧ P' + i ≤ P + 1 + 3 ∧ w.grownBy wr (some R)) (fun _ iv _ => (intOf iv).toNat)
  case atStart => exact ⟨I0, w.heap.size, 0, 0, P + 1, [], by omega, by omega, rfl, rfl, HO1.out, (fun s hs => by cases hs), HR1.out, by omega, HG1.out⟩
  case round =>
    clear HO1 HR1 HG1 hqm
    obtain ⟨i, g, m, c, P', S, hi3, hmi, rfl, rfl, hO, hS, hR, hP', hG⟩ := hrel
    have HO : Hid (OwnN wr w.heap.size g m c S) := hO
    have HS : Hid (∀ s ∈ S, 0 ≤ s ∧ s < 20) := hS
    have HG : Hid (w.grownBy wr (some R)) := hG
    have HR : Hid (RdAt wr R a len cap P') := hR
    clear hO hS hG hR
    by_cases hi0 : i = 0
    · subst hi0
      go_wp2
      go_ret
      exact ⟨g, m, c, P', S, rfl, HO.out, by omega, HS.out, HR.out, by omega, HG.out⟩
    · have hiI : (0 : Int) < (i : Int) := by omega
      have hiN : 0 < i := by omega
      go_wp2_with fail
      refine (pick_any R P' a len cap _ _ HR.out (by omega) (by omega)).mono ?_
      rintro e w2 ⟨q2, rfl, hq2, R2, g2⟩
      have hqa := hq2.1
      have hqb := hq2.2 (by omega)
      have hgR : R < g := by have := HO.out.lt.1; omega
      have HO2 : Hid (OwnN w2 w.heap.size g m c S) := HO.out.grown g2 (fun e => by cases e; omega)
      have HG2 : Hid (w.grownBy w2 (some R)) := grown_trans HG.out g2
      have HR2 : Hid (RdAt w2 R a len cap (P' + 1)) := R2
      have hs2 := HG2.out.size
      clear HO HG HR R2 g2 hq2
      go_wp2_with (at_builtin; refine wpList_append_own_at _ rfl _ _ 24 rfl w.heap.size 3 i0 _ 1 8 Tryz.underlying24 hi hz0 hz1 hz2 rfl (by decide) _ _ _ rfl (HO2.out.owns.alloc _) ⟨w2.heap.size, 0, none⟩ 1 1 [.int .i64 q2] rfl rfl (cellI_one _ _ _) (by simp [Value.oneCell']) (by unfold maxLen; omega) (by omega) (by simp; omega) ?_; intro v3 w3 hown3 hgrow3 hnil3 hat3; obtain ⟨g3, c3, rfl, HO3, HG3, HR3⟩ := snapsA HO2.out HG2.out HR2.out HLOW.out hgR (wf_pick hqa hqb) hown3 hgrow3; clear hown3 hgrow3 hnil3 hat3 HO2 HG2 HR2)
      have wi : IntKind.i64.wrap ((i : Int) - 1) = ((i - 1 : Nat) : Int) := by
        have e : ((i - 1 : Nat) : Int) = (i : Int) - 1 := by omega
        rw [e, IntWalk.i64_left]; unfold wrap64; omega
      go_wp2
      go_roundw
      case rel => exact ⟨i - 1, g3, m + 1, c3, P' + 1, S ++ [q2], by omega, by omega, by go_num, rfl, HO3.out, (fun s hs => by rcases List.mem_append.1 hs with h | h; exact HS.out s h; rw [List.mem_singleton] at h; subst h; exact ⟨hqa, hqb⟩), HR3.out, by omega, HG3.out⟩
      case measure => simp [intOf]; omega

theorem OwnN.mono {w : World} {base base' g n c : Nat} {S : List Int} (h : OwnN w base g n c S) (hb : base' ≤ base) : OwnN w base' g n c S := by
  refine ⟨⟨h.owns.1, ?_⟩, h.len, h.wfs⟩
  rcases h.owns.2 with h1 | ⟨g', cap, cur, hv, hb', r⟩
  · exact .inl h1
  · exact .inr ⟨g', cap, cur, hv, Nat.le_trans hb hb', r⟩
theorem sd_some {w : World} {base : Nat} {e : TypeId} {size k : Nat} {v : Value} {xs : List Value} (h : w.ownsRow base e size v (k + 1) xs) : ∃ g cap, v = .slice (some ⟨g, 0, none⟩) (k + 1) cap := by
  rcases h.2 with ⟨_, h0⟩ | ⟨g, cap, _, rfl, _⟩
  · omega
  · exact ⟨g, cap, rfl⟩
theorem cell_fiveD (w : World) (T : TypeId) (s t : ByteArray) (q d n : Int) : ∀ j u, (entCells (s, q, d, t, n))[j]? = some u → (w.alloc (.cells #[.string s, .int .i64 q, .int .i64 d, .string t, .int .i64 n] T)).cell? ((⟨w.heap.size, 0, none⟩ : Addr).add j) = some u := by
  intro j u hj
  rw [Go.WideShapes.add_plain]
  match j, hj with
  | 0, hj => simp [entCells] at hj; subst hj; simp
  | 1, hj => simp [entCells] at hj; subst hj; simp
  | 2, hj => simp [entCells] at hj; subst hj; simp
  | 3, hj => simp [entCells] at hj; subst hj; simp
  | 4, hj => simp [entCells] at hj; subst hj; simp
  | j + 5, hj => simp [entCells] at hj
/-- What is drawn. -/
def SqDr (w : World) (e : Ending) (w' : World) : Prop :=
  ∃ (g n c : Nat) (L : List EntD) (gs m cs : Nat) (S : List Int) (b : Bool), e = .returned (.tuple #[.slice (some ⟨g, 0, none⟩) n c, .slice (some ⟨gs, 0, none⟩) m cs, .bool b]) ∧ OwnE w' w.heap.size g n c L ∧ OwnN w' w.heap.size gs m cs S ∧ DrOk L ∧ m ≤ 3 ∧ (∀ s ∈ S, 0 ≤ s ∧ s < 20) ∧ g ≠ gs ∧ Below w.heap.size w w'
def Big (z : Int) : Prop := z = 1000000 ∨ z = -1000000

set_option maxRecDepth 100000 in
set_option maxHeartbeats 8000000 in
theorem drawSq_any (a : Option Addr) (len cap : Nat) (w : World) (hb : BytesAt w a len cap) :
    Calls Tryz.prog 7 #[.slice a len cap] w (SqDr w) := by
  obtain ⟨hc1, hc2, hc3⟩ := hb
  obtain ⟨i0, hi, hz0, hz1, hz2⟩ := info_parts Tryz.infoEnt
  go_enter Tryz.func7, Tryz.ntmps7
  go_wp2_with fail
  refine (l9Open_any a len cap w hc1 hc2 hc3).mono ?_
  rintro e w1 ⟨len', rfl, hR1, hb1, hsz1⟩
  obtain ⟨R, hR⟩ : ∃ R, R = w.heap.size := ⟨_, rfl⟩
  rw [← hR] at hR1 ⊢
  have low : Low a len' R := by
    rcases hR1.bytes with h0 | ⟨b, off, ha, h1, h2, _⟩
    · exact Or.inl h0
    · exact Or.inr (fun b' off' e => by rw [ha] at e; cases e; omega)
  have HLOW : Hid (Low a len' R) := low
  have HR1 : Hid (RdAt w1 R a len' cap 0) := hR1
  have HB1 : Hid (Below w.heap.size w w1) := hb1
  have hw1 : w1.heap.size = R + 1 := by omega
  have hRw : w.heap.size ≤ R := by omega
  clear hc1 hc2 hc3 hb1 hR1 low hsz1 hR
  go_wp2_with fail
  refine (l4Ents_x R 0 14 a len' cap w1 HR1.out HLOW.out (by omega) (by omega)).mono ?_
  rintro e w2 ⟨g, n, c, P2, L0, rfl, hO2, hn, hF, hR2, hP2, hG2⟩
  have hlen0 : L0.length ≤ 14 := by have h1 := hO2.len; rw [(sort_both L0).2.length_eq] at h1; omega
  have hD := drOk_sort hF (by omega) hlen0
  obtain ⟨L, hL⟩ : ∃ L, sortE L0 = L := ⟨_, rfl⟩
  rw [hL] at hD hO2
  have HD : Hid (DrOk L) := hD.1
  have HN : Hid (∀ e ∈ L, -100 ≤ e.2.2.2.2 ∧ e.2.2.2.2 ≤ 100) := hD.2
  have hg2 := hO2.lt.1
  have S2 : Hid (SdSt w w2 R a len' cap P2 g n c L) := ⟨HB1.out.grown hG2 HB1.out.size (fun k e => by cases e; exact hRw), hR2, hO2.mono HB1.out.size, hRw, by omega, HLOW.out⟩
  clear hO2 hF hR2 hG2 HR1 HB1 HLOW hw1 hg2 hRw hL hD hlen0
  go_upto_region 3 with fail
  go_cut [25] (fun s25 wx => ∃ (B : Bool) (PB : Nat), s25 = .bool B ∧ (B = true → ∃ s q d t m L1, L = (s, q, d, t, m) :: L1 ∧ d ≠ 2) ∧ SdSt w wx R a len' cap PB g n c L ∧ PB ≤ P2 + 1)
  case first =>
    cases hLL : L with
    | nil =>
      have hn0 : n = 0 := by have := S2.out.own.len; rw [hLL] at this; simpa using this.symm
      subst hn0
      subst hLL
      go_wp2
      go_meet
      exact ⟨false, P2, rfl, (fun h => by cases h), S2.out, by omega⟩
    | cons e0 L1 =>
      subst hLL
      obtain ⟨es, eq, ed, et, em⟩ := e0
      have hn0 : 0 < n := by rw [← S2.out.own.len]; simp
      have hnI : (0 : Int) < (n : Int) := by omega
      obtain ⟨_, _, c2, _, _⟩ := S2.out.own.entsAt.cells _ rfl 0 (by simp)
      simp only [Nat.zero_mul, Nat.add_zero, Nat.zero_add, List.getElem_cons_zero] at c2
      have zg := S2.out.own.lt.2
      by_cases hd : ed = 2
      · subst hd
        go_wp2
        go_meet
        exact ⟨false, P2, rfl, (fun h => by cases h), S2.out, by omega⟩
      · have hdB : (ed == 2) = false := by simpa using hd
        have HD2 : Hid (ed ≠ 2) := hd
        go_wp2_with fail
        refine (pick_any R P2 a len' cap 16 w2 S2.out.rd (by omega) (by omega)).mono ?_
        rintro e w3 ⟨q3, rfl, hq3, R3, g3⟩
        have S3 : Hid (SdSt w w3 R a len' cap (P2 + 1) g n c ((es, eq, ed, et, em) :: L1)) := S2.out.read g3 R3
        clear R3 g3 hq3 c2 zg
        go_wp2
        go_meet
        exact ⟨_, P2 + 1, rfl, (fun _ => ⟨es, eq, ed, et, em, L1, rfl, HD2.out⟩), S3.out, by omega⟩
  case rest =>
  obtain ⟨B, PB, rfl, hB, S3, hPB⟩ := hcut
  have S3 : Hid (SdSt w wc R a len' cap PB g n c L) := S3
  clear S2
  go_upto_if 25 with fail
  go_cut [6] (fun s6 wx => ∃ (L' : List EntD) (P' : Nat), s6 = .slice (some ⟨g, 0, none⟩) n c ∧ SdSt w wx R a len' cap P' g n c L' ∧ DrOk L' ∧ P' ≤ P2 + 2)
  case first =>
    cases hBB : B with
    | false =>
      go_wp2
      go_meet
      exact ⟨L, PB, rfl, S3.out, HD.out, by omega⟩
    | true =>
      obtain ⟨es, eq, ed, et, em, L1, rfl, hd⟩ := hB hBB
      have hn0 : 0 < n := by rw [← S3.out.own.len]; simp
      have hnI : (0 : Int) < (n : Int) := by omega
      clear hBB hB
      go_wp2_with fail
      obtain ⟨w3, hw3⟩ : ∃ w3, w3 = wc := ⟨_, rfl⟩
      subst hw3
      have ka : Below w3.heap.size w3 (w3.alloc (.cells (([1000000, -1000000] : List Int).map (Value.int .i64)).toArray 3)) := (Below.refl _ _).alloc (Nat.le_refl _) _
      have S4 := S3.out.below ka
      refine (num_any Big R PB a len' cap w3.heap.size 0 2 2 _ S4.rd (by omega) (by omega) (by omega) (by have := S3.out.rd.lt; omega) (by simp) (ints_new w3 3 [1000000, -1000000] Big ?_)).mono ?_
      · intro s hs
        simp only [List.mem_cons, List.not_mem_nil, or_false] at hs
        rcases hs with rfl | rfl <;> (unfold Big; decide)
      rintro e w5 ⟨nv, rfl, hnv, R5, g5⟩
      have S5 : Hid (SdSt w w5 R a len' cap (PB + 1) g n c ((es, eq, ed, et, em) :: L1)) := S4.read g5 R5
      have HBG : Hid (Big nv) := hnv
      have hwv : (Lit.int .i64 nv).wf = true := by rcases hnv with rfl | rfl <;> decide
      obtain ⟨_, _, _, _, x4⟩ := S5.out.own.entsAt.cells _ rfl 0 (by simp)
      simp only [Nat.zero_mul, Nat.add_zero, Nat.zero_add, List.getElem_cons_zero] at x4
      have y4 := S5.out.own.owns.frozenAt 4
      have zg := S5.out.own.lt.2
      have T := own_setN S5.out.own nv hwv
      have S6 : Hid (SdSt w (w5.setCell ⟨g, 4, none⟩ (.int .i64 nv)) R a len' cap (PB + 1) g n c ((es, eq, ed, et, nv) :: L1)) := S5.out.step T.2 T.1 S5.out.gr
      have HD6 : Hid (DrOk ((es, eq, ed, et, nv) :: L1)) := drOk_first HD.out (fun e he => HN.out e (List.mem_cons_of_mem _ he)) hd HBG.out
      clear S4 ka R5 g5 hnv T S5 S3 HBG hwv
      go_wp2
      go_meet
      exact ⟨_, PB + 1, rfl, S6.out, HD6.out, by omega⟩
  case rest =>
    clear S3 hB
    obtain ⟨L3, P3, rfl, S3, hD3, hP3⟩ := hcut
    have S3 : Hid (SdSt w wc R a len' cap P3 g n c L3) := S3
    have HD3 : Hid (DrOk L3) := hD3
    clear hD3 HD HN
    go_upto_region 5 with fail
    go_cut [39] (fun s39 wx => ∃ (D : Bool) (PD : Nat), s39 = .bool D ∧ (D = true → 1 < n) ∧ SdSt w wx R a len' cap PD g n c L3 ∧ PD ≤ P3 + 1)
    case first =>
      by_cases hn1 : 1 < n
      · have hnI : (1 : Int) < (n : Int) := by omega
        go_wp2_with fail
        refine (pick_any R P3 a len' cap 24 wc S3.out.rd (by omega) (by omega)).mono ?_
        rintro e w4 ⟨q4, rfl, hq4, R4, g4⟩
        have S4 : Hid (SdSt w w4 R a len' cap (P3 + 1) g n c L3) := S3.out.read g4 R4
        clear R4 g4 hq4 S3
        go_wp2
        go_meet
        exact ⟨_, P3 + 1, rfl, (fun _ => hn1), S4.out, by omega⟩
      · have hnI : ¬ (1 : Int) < (n : Int) := by omega
        go_wp2
        go_meet
        exact ⟨false, P3, rfl, (fun h => by cases h), S3.out, by omega⟩
    case rest =>
    clear S3
    obtain ⟨D, PD, rfl, hDn, S4, hPD⟩ := hcut
    have S4 : Hid (SdSt w wc R a len' cap PD g n c L3) := S4
    go_upto_if 39 with fail
    go_cut [6] (fun s6 wx => ∃ (g n c : Nat) (L' : List EntD) (P' : Nat), s6 = .slice (some ⟨g, 0, none⟩) n c ∧ SdSt w wx R a len' cap P' g n c L' ∧ DrOk L' ∧ P' ≤ P3 + 1)
    case first =>
      cases hDD : D with
      | false =>
        go_wp2
        go_meet
        exact ⟨g, n, c, L3, PD, rfl, S4.out, HD3.out, by omega⟩
      | true =>
        have hn1 := hDn hDD
        clear hDn hDD
        have hn0 : 0 < n := by omega
        have hn0I : (0 : Int) < (n : Int) := by omega
        obtain ⟨e0, L1, hL3⟩ : ∃ e0 L1, L3 = e0 :: L1 := by
          cases L3 with
          | nil => have := S4.out.own.len; simp at this; omega
          | cons e0 L1 => exact ⟨e0, L1, rfl⟩
        subst hL3
        obtain ⟨es, eq, ed, et, em⟩ := e0
        obtain ⟨w4, hw4⟩ : ∃ w4, w4 = wc := ⟨_, rfl⟩
        subst hw4
        obtain ⟨x0, x1, x2, x3, x4⟩ := S4.out.own.entsAt.cells _ rfl 0 (by simp)
        simp only [Nat.zero_mul, Nat.add_zero, Nat.zero_add, List.getElem_cons_zero] at x0 x1 x2 x3 x4
        have zg := S4.out.own.lt.2
        have hew := S4.out.own.ents _ List.mem_cons_self
        have hl4 := S4.out.own.len
        have HRW : Hid (w4.ownsRow (R + 1) 30 5 (.slice (some ⟨g, 0, none⟩) n c) n (flatE ((es, eq, ed, et, em) :: L1))) := sd_raise S4.out.own (by have := S4.out.gr; omega)
        have hzR := S4.out.rd.lt
        have hal : ∀ o, Below w4.heap.size w4 (w4.alloc o) := fun o => (Below.refl _ _).alloc (Nat.le_refl _) o
        have HD5 : Hid (DrOk (((es, eq, ed, et, em) :: L1) ++ [(es, eq, ed, et, em)])) := drOk_twice HD3.out (by omega)
        have HL4 : Hid (((es, eq, ed, et, em) :: L1).length = n) := hl4
        clear hl4
        go_wp2_with (at_builtin; refine wpList_append_own_at _ rfl _ _ 23 rfl (R + 1) 30 i0 _ 5 56 Tryz.underlying23 hi hz0 hz1 hz2 rfl (by decide) _ _ _ rfl (HRW.out.alloc _) ⟨w4.heap.size, 0, none⟩ 1 1 (entCells (es, eq, ed, et, em)) rfl rfl (cell_fiveD _ _ _ _ _ _ _) (flatE_one [(es, eq, ed, et, em)]) (by unfold maxLen; omega) (by omega) (by simp; omega) ?_; intro v5 w5 hown5 hgrow5 hnil5 hat5; obtain ⟨g5, c5, rfl⟩ := sd_some hown5; have S5 := (S4.out.below (hal _)).more hgrow5 (by simpa [flatE] using hown5) hew; clear hown5 hgrow5 hnil5 hat5)
        go_meet
        exact ⟨g5, n + 1, c5, _, PD, rfl, S5, HD5.out, by omega⟩
    case rest =>
      clear S4 HD3 hn hDn hPD
      obtain ⟨g, n, c, L4, P4, rfl, S4, hD4, hP4⟩ := hcut
      have S4 : Hid (SdSt w wc R a len' cap P4 g n c L4) := S4
      have HD4 : Hid (DrOk L4) := hD4
      clear hD4
      go_wp2_with fail
      refine (l4Snaps_any R P4 a len' cap wc S4.out.rd S4.out.low (by omega)).mono ?_
      rintro e w5 ⟨gs, m, cs, P5, S, rfl, hN5, hm, hS, R5, hP5, g5⟩
      have S5 : Hid (SdSt w w5 R a len' cap P5 g n c L4) := S4.out.read g5 R5
      have HN5 : Hid (OwnN w5 wc.heap.size gs m cs S) := hN5
      have HSS : Hid (∀ s ∈ S, 0 ≤ s ∧ s < 20) := hS
      have hgs : g ≠ gs := by have h1 := S4.out.own.lt.2; have h2 := hN5.lt.1; omega
      have hRs : R ≠ gs := by have h1 := S4.out.rd.lt; have h2 := hN5.lt.1; omega
      have hwc := S4.out.all.size
      clear S4 hN5 hS R5 g5
      go_wp2_with fail
      refine (pick_any R P5 a len' cap 2 w5 S5.out.rd (by omega) (by omega)).mono ?_
      rintro e w6 ⟨q6, rfl, hq6, R6, g6⟩
      have S6 : Hid (SdSt w w6 R a len' cap (P5 + 1) g n c L4) := S5.out.read g6 R6
      have HN6 : Hid (OwnN w6 w.heap.size gs m cs S) := (HN5.out.mono hwc).grown g6 (fun e => hRs (Option.some.inj e).symm)
      clear S5 HN5 R6 g6 hq6
      go_wp2
      refine bodyPost_ret (v := .tuple #[.slice (some ⟨g, 0, none⟩) n c, .slice (some ⟨gs, 0, none⟩) m cs, .bool (q6 == 0)]) (by simp [results, Tryz.results7, go_sem]) rfl ?_
      exact ⟨g, n, c, L4, gs, m, cs, S, _, rfl, S6.out.own, HN6.out, HD4.out, hm, HSS.out, hgs, S6.out.all⟩
end Go.Proofs.YthhiahjafhkbbaaGreat
