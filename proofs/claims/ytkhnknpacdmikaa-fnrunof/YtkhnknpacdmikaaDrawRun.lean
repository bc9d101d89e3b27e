/-
  Lists of entries in order that a law draws; the state of a run that is drawn; by walks of the Go text.
  The run that a law draws, by a walk of its Go text.
  What lies where while a run, and something beside it, is drawn. No function of the program is walked here.
-/
import Derived.Test.YtkhnknpacdmikaaListE
import Derived.Test.YtkhnknpacdmikaaSortS
import Derived.Test.YtkhnknpacdmikaaSortP
import Derived.Test.YtkhnknpacdmikaaRunOk
import Derived.Test.YtkhnknpacdmikaaBent3
import Derived.Test.YtkhnknpacdmikaaBytesD
namespace Go.Proofs.Ytkhnknpacdmikaa
open Go.RowKit

theorem sort_allF {L : List EntD} (h : AllF L) : AllF (sortE L) := fun e he => h e ((sort_both L).2.mem_iff.1 he)

set_option maxHeartbeats 1000000 in
theorem l4Ents_any (R P many : Nat) (a : Option Addr) (len cap : Nat) (w : World) (h : RdAt w R a len cap P) (hlow : Low a len R) (hP : P < 80000) (hm : many ≤ 100) :
    Calls Try.prog 86 #[.pointer (some ⟨R, 0, none⟩), .int .i64 many] w (ListR R a len cap P many w) := by
  go_enter Try.func86, Try.ntmps86
  go_wp2_with fail
  refine (l3List_any R P many a len cap w h hlow hP hm).mono ?_
  rintro e w1 ⟨g, n, c, P', L, rfl, hO, hn, hF, hR, hP', hG⟩
  have HR : Hid (RdAt w1 R a len cap P') := hR
  have HG : Hid (w.grownBy w1 (some R)) := hG
  have HF : Hid (AllF L) := hF
  have hz := hG.size
  go_wp2_with fail
  refine (specSort _ n c L w1 hO.entsAt (by omega)).mono ?_
  rintro e w2 ⟨g2, c2, rfl, hO2, hb2⟩
  have HO2 : Hid (OwnE w2 w.heap.size g2 n c2 (sortE L)) := hO2.mono hz
  have HR2 : Hid (RdAt w2 R a len cap P') := HR.out.below hb2
  have HG2 : Hid (w.grownBy w2 (some R)) := grown_trans HG.out (grown_below hb2)
  clear hO hR hG hF hb2 hO2 HR HG
  go_wp2
  go_ret
  exact ⟨g2, n, c2, P', sortE L, rfl, HO2.out, hn, sort_allF HF.out, HR2.out, hP', HG2.out⟩

set_option maxHeartbeats 800000 in
theorem specRunA (a : Option Addr) (n c : Nat) (L : List EntD) (w : World) (hL : EntsAt w a n c L) :
    Calls Try.prog 50 #[.slice a n c] w fun e w' => e = .returned (.agg #[.slice a n c, .int .i64 ((maskL L : Nat) : Int)]) ∧ Below w.heap.size w w' := by
  go_enter Try.func50, Try.ntmps50
  go_wp2_with fail
  refine (specMaskL a n c L _ (hL.keep ((Below.refl _ _).alloc (Nat.le_refl _) _))).mono ?_
  rintro e w1 ⟨rfl, hb1⟩
  obtain ⟨hc1, hf1⟩ := bcell hb1
  have hz := hb1.size
  simp at hz
  go_wp2
  refine bodyPost_ret (v := .agg #[.slice a n c, .int .i64 ((maskL L : Nat) : Int)]) (by simp [results, Try.results50, go_sem, hc1]) rfl ⟨rfl, ?_⟩
  have hB : Below w.heap.size w w1 := ((Below.refl _ _).alloc (Nat.le_refl _) _).trans (hb1.mono (by simp))
  exact (hB.setCell (p := ⟨w.heap.size, 0, none⟩) (Nat.le_refl _) _).setCell (p := ⟨w.heap.size, 1, none⟩) (Nat.le_refl _) _

theorem grown_set (w : World) (Z o : Nat) (v : Value) : w.grownBy (w.setCell ⟨Z, o, none⟩ v) (some Z) :=
  ⟨rfl, rfl, rfl, by simp [World.setCell], fun k _ hk => Below.heap_setCell _ _ _ _ (fun e => hk (by rw [e]))⟩

/-- The result's block X, the run's block Y, its entries at g, and the reader. -/
structure DrSt (w wi : World) (R : Nat) (a : Option Addr) (len cap P X Y g n c : Nat) (m : Int) (L : List EntD) : Prop where
  rd : RdAt wi R a len cap P
  gr : w.grownBy wi (some R)
  x0 : ∃ v, wi.cell? ⟨X, 0, none⟩ = some v
  x1 : ∃ v, wi.cell? ⟨X, 1, none⟩ = some v
  fx : ∀ o, wi.frozen? ⟨X, o, none⟩ = false
  y0 : wi.cell? ⟨Y, 0, none⟩ = some (.slice (some ⟨g, 0, none⟩) n c)
  y1 : wi.cell? ⟨Y, 1, none⟩ = some (.int .i64 m)
  fy : ∀ o, wi.frozen? ⟨Y, o, none⟩ = false
  own : OwnE wi w.heap.size g n c L
  hx : w.heap.size ≤ X
  hy : w.heap.size ≤ Y
  hr : R < w.heap.size
  nxy : X ≠ Y
  ngx : X < g
  ngy : g ≠ Y
  low : Low a len R
theorem DrSt.ltX {w wi : World} {R : Nat} {a : Option Addr} {len cap P X Y g n c : Nat} {m : Int} {L : List EntD} (h : DrSt w wi R a len cap P X Y g n c m L) : X < wi.heap.size := by
  obtain ⟨v, hv⟩ := h.x0
  exact World.block_lt_of_cell? _ _ hv
theorem DrSt.ltY {w wi : World} {R : Nat} {a : Option Addr} {len cap P X Y g n c : Nat} {m : Int} {L : List EntD} (h : DrSt w wi R a len cap P X Y g n c m L) : Y < wi.heap.size := World.block_lt_of_cell? _ _ h.y0
/-- Behind a step that turns one other block, and the reader to what is said. -/
theorem DrSt.step {w wi wj : World} {R : Nat} {a : Option Addr} {len cap P P' X Y g g' n n' c c' Z : Nat} {m : Int} {L L' : List EntD} (h : DrSt w wi R a len cap P X Y g n c m L) (hg : wi.grownBy wj (some Z)) (hr : RdAt wj R a len cap P') (hZ : Z = R ∨ w.heap.size ≤ Z) (zx : Z ≠ X) (zy : Z ≠ Y) (ho : OwnE wj w.heap.size g' n' c' L') (y0' : wj.cell? ⟨Y, 0, none⟩ = some (.slice (some ⟨g', 0, none⟩) n' c')) (nx : X < g') (ny : g' ≠ Y) : DrSt w wj R a len cap P' X Y g' n' c' m L' where
  rd := hr
  gr := by
    rcases hZ with rfl | hZ
    · exact grown_trans h.gr hg
    · exact grown_old h.gr hZ hg
  x0 := by obtain ⟨v, hv⟩ := h.x0; exact ⟨v, (grown_cell hg (x := ⟨X, 0, none⟩) h.ltX (Ne.symm zx)).trans hv⟩
  x1 := by obtain ⟨v, hv⟩ := h.x1; exact ⟨v, (grown_cell hg (x := ⟨X, 1, none⟩) h.ltX (Ne.symm zx)).trans hv⟩
  fx := fun o => (grown_frozen hg (x := ⟨X, o, none⟩) h.ltX (fun e => zx (by cases e; rfl))).trans (h.fx o)
  y0 := y0'
  y1 := (grown_cell hg (x := ⟨Y, 1, none⟩) h.ltY (Ne.symm zy)).trans h.y1
  fy := fun o => (grown_frozen hg (x := ⟨Y, o, none⟩) h.ltY (fun e => zy (by cases e; rfl))).trans (h.fy o)
  own := ho
  hx := h.hx
  hy := h.hy
  hr := h.hr
  nxy := h.nxy
  ngx := nx
  ngy := ny
  low := h.low
theorem DrSt.read {w wi wj : World} {R : Nat} {a : Option Addr} {len cap P P' X Y g n c : Nat} {m : Int} {L : List EntD} (h : DrSt w wi R a len cap P X Y g n c m L) (hg : wi.grownBy wj (some R)) (hr : RdAt wj R a len cap P') : DrSt w wj R a len cap P' X Y g n c m L := by
  have h1 := h.hr
  have h2 := h.hx
  have h3 := h.hy
  have h4 := h.own.lt.1
  have hyr : Y ≠ R := by omega
  exact h.step hg hr (Or.inl rfl) (by omega) (by omega) (h.own.grown hg (fun e => by cases e; omega)) ((grown_cell hg (x := ⟨Y, 0, none⟩) h.ltY hyr).trans h.y0) h.ngx h.ngy
theorem DrSt.below {w wi wj : World} {R : Nat} {a : Option Addr} {len cap P X Y g n c : Nat} {m : Int} {L : List EntD} (h : DrSt w wi R a len cap P X Y g n c m L) (hb : Below wi.heap.size wi wj) : DrSt w wj R a len cap P X Y g n c m L := h.read (grown_below hb) (h.rd.below hb)
theorem DrSt.mask {w wi : World} {R : Nat} {a : Option Addr} {len cap P X Y g n c : Nat} {m : Int} {L : List EntD} (h : DrSt w wi R a len cap P X Y g n c m L) (m' : Int) : DrSt w (wi.setCell ⟨Y, 1, none⟩ (.int .i64 m')) R a len cap P X Y g n c m' L where
  rd := h.rd.grown (grown_set wi Y 1 _) h.low (fun k e => by cases e; have := h.hr; have := h.hy; omega)
  gr := grown_old h.gr h.hy (grown_set wi Y 1 _)
  x0 := by obtain ⟨v, hv⟩ := h.x0; exact ⟨v, (grown_cell (grown_set wi Y 1 _) (x := ⟨X, 0, none⟩) h.ltX h.nxy).trans hv⟩
  x1 := by obtain ⟨v, hv⟩ := h.x1; exact ⟨v, (grown_cell (grown_set wi Y 1 _) (x := ⟨X, 1, none⟩) h.ltX h.nxy).trans hv⟩
  fx := fun o => by rw [World.frozen?_setCell]; exact h.fx o
  y0 := by rw [World.cell?_setCell_other _ _ _ _ (by simp)]; exact h.y0
  y1 := World.cell?_setCell_same' _ _ _ (by rw [h.y1]; rfl)
  fy := fun o => by rw [World.frozen?_setCell]; exact h.fy o
  own := h.own.grown (grown_set wi Y 1 _) (fun e => h.ngy (by cases e; rfl))
  hx := h.hx
  hy := h.hy
  hr := h.hr
  nxy := h.nxy
  ngx := h.ngx
  ngy := h.ngy
  low := h.low
/-- Other entries are put into the run. -/
theorem DrSt.ents {w wi : World} {R : Nat} {a : Option Addr} {len cap P X Y g n c g' n' c' : Nat} {m : Int} {L L' : List EntD} (h : DrSt w wi R a len cap P X Y g n c m L) (ho : OwnE wi w.heap.size g' n' c' L') (nx : X < g') (ny : g' ≠ Y) : DrSt w (wi.setCell ⟨Y, 0, none⟩ (.slice (some ⟨g', 0, none⟩) n' c')) R a len cap P X Y g' n' c' m L' where
  rd := h.rd.grown (grown_set wi Y 0 _) h.low (fun k e => by cases e; have := h.hr; have := h.hy; omega)
  gr := grown_old h.gr h.hy (grown_set wi Y 0 _)
  x0 := by obtain ⟨v, hv⟩ := h.x0; exact ⟨v, (grown_cell (grown_set wi Y 0 _) (x := ⟨X, 0, none⟩) h.ltX h.nxy).trans hv⟩
  x1 := by obtain ⟨v, hv⟩ := h.x1; exact ⟨v, (grown_cell (grown_set wi Y 0 _) (x := ⟨X, 1, none⟩) h.ltX h.nxy).trans hv⟩
  fx := fun o => by rw [World.frozen?_setCell]; exact h.fx o
  y0 := World.cell?_setCell_same' _ _ _ (by rw [h.y0]; rfl)
  y1 := by rw [World.cell?_setCell_other _ _ _ _ (by simp)]; exact h.y1
  fy := fun o => by rw [World.frozen?_setCell]; exact h.fy o
  own := ho.grown (grown_set wi Y 0 _) (fun e => ny (by cases e; rfl))
  hx := h.hx
  hy := h.hy
  hr := h.hr
  nxy := h.nxy
  ngx := nx
  ngy := ny
  low := h.low
theorem OwnE.rebase {w : World} {base g n c : Nat} {L : List EntD} (h : OwnE w base g n c L) : OwnE w g g n c L := by
  refine ⟨⟨h.owns.1, ?_⟩, h.len, h.ents⟩
  rcases h.owns.2 with ⟨hv, _⟩ | ⟨g', cap, cur, hv, hb, hr⟩
  · cases hv
  · cases hv
    exact .inr ⟨g, c, cur, rfl, Nat.le_refl _, hr⟩
/-- The entries have grown, and are put into the run. -/
theorem DrSt.grewTo {w wi wj : World} {R : Nat} {a : Option Addr} {len cap P X Y g n c g' n' c' : Nat} {m : Int} {L L' : List EntD} (h : DrSt w wi R a len cap P X Y g n c m L) (hg : wi.grownBy wj (some g)) (ho : OwnE wj g g' n' c' L') (hn : 1 ≤ n') : DrSt w (wj.setCell ⟨Y, 0, none⟩ (.slice (some ⟨g', 0, none⟩) n' c')) R a len cap P X Y g' n' c' m L' := by
  have hb := h.own.lt.1
  have hgg := ho.lt.1
  have hxg := h.ngx
  have hr := h.hr
  have y0j := (grown_cell hg (x := ⟨Y, 0, none⟩) h.ltY (Ne.symm h.ngy)).trans h.y0
  have y1j := (grown_cell hg (x := ⟨Y, 1, none⟩) h.ltY (Ne.symm h.ngy)).trans h.y1
  have nxg : X ≠ g := by omega
  have hlX : X < wj.heap.size := Nat.lt_of_lt_of_le h.ltX hg.size
  have hlY : Y < wj.heap.size := Nat.lt_of_lt_of_le h.ltY hg.size
  have ny : g' ≠ Y := fun e => by
    have hc := (ho.entsAt.cells _ rfl 0 (by rw [ho.len]; omega)).1
    subst e
    simp only [Nat.zero_mul, Nat.zero_add] at hc
    rw [y0j] at hc
    cases hc
  exact {
    rd := (h.rd.grown hg h.low (fun k e => by cases e; omega)).grown (grown_set wj Y 0 _) h.low (fun k e => by cases e; have := h.hy; omega)
    gr := grown_old (grown_old h.gr hb hg) h.hy (grown_set wj Y 0 _)
    x0 := by obtain ⟨v, hv⟩ := h.x0; exact ⟨v, (grown_cell (grown_set wj Y 0 _) (x := ⟨X, 0, none⟩) hlX h.nxy).trans ((grown_cell hg (x := ⟨X, 0, none⟩) h.ltX nxg).trans hv)⟩
    x1 := by obtain ⟨v, hv⟩ := h.x1; exact ⟨v, (grown_cell (grown_set wj Y 0 _) (x := ⟨X, 1, none⟩) hlX h.nxy).trans ((grown_cell hg (x := ⟨X, 1, none⟩) h.ltX nxg).trans hv)⟩
    fx := fun o => by rw [World.frozen?_setCell]; exact (grown_frozen hg (x := ⟨X, o, none⟩) h.ltX (fun e => nxg (by cases e; rfl))).trans (h.fx o)
    y0 := World.cell?_setCell_same' _ _ _ (by rw [y0j]; rfl)
    y1 := by rw [World.cell?_setCell_other _ _ _ _ (by simp)]; exact y1j
    fy := fun o => by rw [World.frozen?_setCell]; exact (grown_frozen hg (x := ⟨Y, o, none⟩) h.ltY (fun e => h.ngy (by cases e; rfl))).trans (h.fy o)
    own := (ho.mono hb).grown (grown_set wj Y 0 _) (fun e => ny (by cases e; rfl))
    hx := h.hx
    hy := h.hy
    hr := h.hr
    nxy := h.nxy
    ngx := by omega
    ngy := ny
    low := h.low }
/-- A run that has been drawn. -/
def RunR (R : Nat) (a : Option Addr) (len cap P : Nat) (w : World) (e : Ending) (w' : World) : Prop :=
  ∃ (g n c P' : Nat) (m : Int) (L : List EntD), e = .returned (.agg #[.slice (some ⟨g, 0, none⟩) n c, .int .i64 m]) ∧ OwnE w' w.heap.size g n c L ∧ n ≤ 13 ∧ AllF L ∧ (Lit.int .i64 m).wf = true ∧ RdAt w' R a len cap P' ∧ P' ≤ P + 150 ∧ w.grownBy w' (some R)
theorem DrSt.done {w wi : World} {R : Nat} {a : Option Addr} {len cap P P0 X Y g n c : Nat} {m : Int} {L : List EntD} (h : DrSt w wi R a len cap P X Y g n c m L) (hn : n ≤ 13) (hF : AllF L) (hm : (Lit.int .i64 m).wf = true) (hP : P ≤ P0 + 150) (u v : Value) :
    RunR R a len cap P0 w (.returned (.agg #[.slice (some ⟨g, 0, none⟩) n c, .int .i64 m])) ((wi.setCell ⟨X, 0, none⟩ u).setCell ⟨X, 1, none⟩ v) := by
  have hRX : R < X := by have := h.hr; have := h.hx; omega
  refine ⟨g, n, c, P, m, L, rfl, ?_, hn, hF, hm, ?_, hP, ?_⟩
  · exact (h.own.grown (grown_set wi X 0 u) (fun e => Nat.ne_of_lt h.ngx (by cases e; rfl))).grown (grown_set _ X 1 v) (fun e => Nat.ne_of_lt h.ngx (by cases e; rfl))
  · exact (h.rd.grown (grown_set wi X 0 u) h.low (fun k e => by cases e; exact hRX)).grown (grown_set _ X 1 v) h.low (fun k e => by cases e; exact hRX)
  · exact grown_old (grown_old h.gr h.hx (grown_set wi X 0 u)) h.hx (grown_set _ X 1 v)
end Go.Proofs.Ytkhnknpacdmikaa

namespace Go.Proofs.Ytkhnknpacdmikaa
open Go.RowKit

def Nx (z : Int) : Prop := -1 ≤ z ∧ z ≤ 65536
theorem allF_set {L : List EntD} {k : Nat} {s t : ByteArray} {q d n : Int} (h : AllF L) (he : EntF s t q d n) : AllF (L.set k (s, q, d, t, n)) := fun e hm => by
  rcases List.mem_or_eq_of_mem_set hm with h1 | rfl
  · exact h e h1
  · exact he
theorem OwnE.put {w : World} {base g n c k : Nat} {L : List EntD} (h : OwnE w base g n c L) (hk : k < n) (s t : ByteArray) (q d m : Int) (hw : EntW (s, q, d, t, m)) :
    OwnE (((((w.setCell ⟨g, k * 5, none⟩ (.string s)).setCell ⟨g, k * 5 + 1, none⟩ (.int .i64 q)).setCell ⟨g, k * 5 + 2, none⟩ (.int .i64 d)).setCell ⟨g, k * 5 + 3, none⟩ (.string t)).setCell ⟨g, k * 5 + 4, none⟩ (.int .i64 m)) base g n c (L.set k (s, q, d, t, m)) := by
  have t0 := h.owns.stored (k * 5) (.string s)
  have t1 := t0.1.stored (k * 5 + 1) (.int .i64 q)
  have t2 := t1.1.stored (k * 5 + 2) (.int .i64 d)
  have t3 := t2.1.stored (k * 5 + 3) (.string t)
  have t4 := t3.1.stored (k * 5 + 4) (.int .i64 m)
  have hX : (flatE L).length = n * 5 := h.owns.1
  refine ⟨?_, by rw [List.length_set]; exact h.len, fun e hm => ?_⟩
  · have t5 := t4.1
    have key : ∀ xs : List Value, xs.length = n * 5 → (∀ j l, (L.set k (s, q, d, t, m))[j]? = some l → RowEnt xs j l) → xs = flatE (L.set k (s, q, d, t, m)) := fun xs hx hh => row_flat (by rw [hx, List.length_set, h.len]) hh
    rw [key _ t5.1 (fun j l hl => ?_)] at t5
    · exact t5
    · by_cases hjk : j = k
      · subst hjk
        rw [List.getElem?_set_self (by rw [h.len]; exact hk)] at hl
        cases hl
        exact rowEnt_same s t q d m (by rw [hX]; omega)
      · rw [List.getElem?_set_ne (Ne.symm hjk)] at hl
        exact rowEnt_other (flatE_has L j l hl) hjk _ _ _ _ _
  · rcases List.mem_or_eq_of_mem_set hm with h1 | rfl
    · exact h.ents e h1
    · exact hw
theorem grown_five (w : World) (g k : Nat) (v0 v1 v2 v3 v4 : Value) : w.grownBy (((((w.setCell ⟨g, k, none⟩ v0).setCell ⟨g, k + 1, none⟩ v1).setCell ⟨g, k + 2, none⟩ v2).setCell ⟨g, k + 3, none⟩ v3).setCell ⟨g, k + 4, none⟩ v4) (some g) :=
  grown_trans (grown_trans (grown_trans (grown_trans (grown_set _ g _ _) (grown_set _ g _ _)) (grown_set _ g _ _)) (grown_set _ g _ _)) (grown_set _ g _ _)
theorem DrSt.put {w wi : World} {R : Nat} {a : Option Addr} {len cap P X Y g n c k : Nat} {m : Int} {L : List EntD} (h : DrSt w wi R a len cap P X Y g n c m L) (hk : k < n) (s t : ByteArray) (q d nn : Int) (hw : EntW (s, q, d, t, nn)) :
    DrSt w (((((wi.setCell ⟨g, k * 5, none⟩ (.string s)).setCell ⟨g, k * 5 + 1, none⟩ (.int .i64 q)).setCell ⟨g, k * 5 + 2, none⟩ (.int .i64 d)).setCell ⟨g, k * 5 + 3, none⟩ (.string t)).setCell ⟨g, k * 5 + 4, none⟩ (.int .i64 nn)) R a len cap P X Y g n c m (L.set k (s, q, d, t, nn)) :=
  h.step (grown_five wi g (k * 5) _ _ _ _ _) (h.rd.grown (grown_five wi g (k * 5) _ _ _ _ _) h.low (fun j e => by cases e; have := h.hr; have := h.own.lt.1; omega)) (Or.inr h.own.lt.1) (Nat.ne_of_gt h.ngx) h.ngy (h.own.put hk s t q d nn hw) ((grown_cell (grown_five wi g (k * 5) _ _ _ _ _) (x := ⟨Y, 0, none⟩) h.ltY (Ne.symm h.ngy)).trans h.y0) h.ngx h.ngy

theorem DrSt.at {w wi : World} {R : Nat} {a : Option Addr} {len cap P X Y g n c k : Nat} {m : Int} {L : List EntD} (h : DrSt w wi R a len cap P X Y g n c m L) (hF : AllF L) (hk : k < n) :
    ∃ s t q d nn, EntF s t q d nn ∧ wi.cell? ⟨g, k * 5, none⟩ = some (.string s) ∧ wi.cell? ⟨g, k * 5 + 1, none⟩ = some (.int .i64 q) ∧ wi.cell? ⟨g, k * 5 + 2, none⟩ = some (.int .i64 d) ∧ wi.cell? ⟨g, k * 5 + 3, none⟩ = some (.string t) ∧ wi.cell? ⟨g, k * 5 + 4, none⟩ = some (.int .i64 nn) := by
  have hl : k < L.length := by rw [h.own.len]; exact hk
  obtain ⟨e0, e1, e2, e3, e4⟩ := h.own.entsAt.cells _ rfl k hl
  simp only [Nat.zero_add] at e0 e1 e2 e3 e4
  exact ⟨_, _, _, _, _, hF _ (List.getElem_mem hl), e0, e1, e2, e3, e4⟩

set_option maxRecDepth 100000 in
set_option maxHeartbeats 16000000 in
theorem l4Draw_any (R P : Nat) (a : Option Addr) (len cap : Nat) (w : World) (h : RdAt w R a len cap P) (hlow : Low a len R) (hP : P < 70000) :
    Calls Try.prog 53 #[.pointer (some ⟨R, 0, none⟩)] w (RunR R a len cap P w) := by
  obtain ⟨i0, hi, hz0, hz1, hz2⟩ := info_parts Try.infoEnt
  have hRw := h.lt
  have HRW : Hid (R < w.heap.size) := hRw
  have HLOW : Hid (Low a len R) := hlow
  have kA : Below w.heap.size w (w.alloc (.cells #[.slice none 0 0, .int .i64 0] 26)) := (Below.refl _ _).alloc (Nat.le_refl _) _
  go_enter Try.func53, Try.ntmps53
  go_wp2_with fail
  refine (l4Ents_any R P 12 a len cap _ (h.below kA) hlow (by omega) (by omega)).mono ?_
  rintro e w1 ⟨g, n, c, P1, L, rfl, hO, hn, hF, hR1, hP1, hG1⟩
  obtain ⟨X, hX⟩ : ∃ X, X = w.heap.size := ⟨_, rfl⟩
  have hXR : X ≠ R := by omega
  have hXa : X < (w.alloc (.cells #[.slice none 0 0, .int .i64 0] 26)).heap.size := by rw [hX]; simp
  have x0 : w1.cell? ⟨X, 0, none⟩ = some (.slice none 0 0) := (grown_cell hG1 (x := ⟨X, 0, none⟩) hXa hXR).trans (by rw [hX]; simp)
  have x1 : w1.cell? ⟨X, 1, none⟩ = some (.int .i64 0) := (grown_cell hG1 (x := ⟨X, 1, none⟩) hXa hXR).trans (by rw [hX]; simp)
  have fx : ∀ o, w1.frozen? ⟨X, o, none⟩ = false := fun o => (grown_frozen hG1 (x := ⟨X, o, none⟩) hXa (fun e => hXR (by cases e; rfl))).trans (by rw [hX]; exact World.frozen?_alloc_new w _ _ o)
  have hXw : w.heap.size ≤ X := by omega
  have hgX0 : X < g := by have := hO.lt.1; simp at this; omega
  have HO1 : Hid (OwnE w1 w.heap.size g n c L) := hO.mono (by simp)
  have HG1 : Hid (w.grownBy w1 (some R)) := grown_trans (grown_below kA) hG1
  have HR1 : Hid (RdAt w1 R a len cap P1) := hR1
  have HF1 : Hid (AllF L) := hF
  have zX := World.block_lt_of_cell? _ _ x0
  simp only at zX
  rw [← hX]
  clear hO hG1 hR1 hF kA hXa hX h hlow hRw
  by_cases hn0 : n = 0
  · subst hn0
    have kB : Below w1.heap.size w1 (w1.alloc (.cells #[.string ⟨#[97]⟩, .int .i64 1, .int .i64 1, .string ⟨#[]⟩, .int .i64 2] 31)) := (Below.refl _ _).alloc (Nat.le_refl _) _
    have hFa : EntF ⟨#[97]⟩ ⟨#[]⟩ 1 1 2 := by unfold EntF Few; decide
    have oN : OwnE (w1.alloc (.cells #[.string ⟨#[97]⟩, .int .i64 1, .int .i64 1, .string ⟨#[]⟩, .int .i64 2] 31)) w.heap.size w1.heap.size 1 1 [(⟨#[97]⟩, 1, 1, ⟨#[]⟩, 2)] := by
      have := World.ownsRow_lit (base := w.heap.size) (e := 31) (size := 5) w1 #[.string ⟨#[97]⟩, .int .i64 1, .int .i64 1, .string ⟨#[]⟩, .int .i64 2] 1 HG1.out.size (by unfold maxLen; omega) rfl
      exact ⟨by simpa [flatE, entCells] using this, rfl, allF_w (allF_one hFa)⟩
    go_wp2_with fail
    obtain ⟨wl, hwl⟩ : ∃ wl, wl = w1.alloc (.cells #[.string ⟨#[97]⟩, .int .i64 1, .int .i64 1, .string ⟨#[]⟩, .int .i64 2] 31) := ⟨_, rfl⟩
    rw [← hwl] at kB oN ⊢
    obtain ⟨gl, hgl⟩ : ∃ gl, gl = w1.heap.size := ⟨_, rfl⟩
    obtain ⟨LL, hLL⟩ : ∃ LL : List EntD, LL = [(⟨#[97]⟩, 1, 1, ⟨#[]⟩, 2)] := ⟨_, rfl⟩
    have hgX : X < gl := by omega
    have HFl : Hid (AllF LL) := by rw [hLL]; exact allF_one hFa
    rw [← hgl, ← hLL] at oN
    rw [← hgl]
    have HOl : Hid (OwnE wl w.heap.size gl 1 1 LL) := oN
    have HRl : Hid (RdAt wl R a len cap P1) := HR1.out.below kB
    have HGl : Hid (w.grownBy wl (some R)) := grown_trans HG1.out (grown_below kB)
    have x0l := cell_later kB x0
    have x1l := cell_later kB x1
    have fxl : ∀ o, wl.frozen? ⟨X, o, none⟩ = false := fun o => (kB.frozen (p := ⟨X, o, none⟩) zX).trans (fx o)
    have zXl : X < wl.heap.size := Nat.lt_of_lt_of_le zX kB.size
    clear hwl hgl hLL oN kB hFa HO1 HR1 HG1 HF1 x0 x1 fx zX hgX0 hXR
    refine (specRunA _ 1 1 LL wl HOl.out.entsAt).mono ?_
    rintro e wr ⟨rfl, hbr⟩
    obtain ⟨M, hM⟩ : ∃ M : Int, M = ((maskL LL : Nat) : Int) := ⟨_, rfl⟩
    have hM0 : 0 ≤ M := by omega
    have hM1 : M < 65536 := by have := maskL_lt LL; omega
    rw [← hM]
    clear hM
    obtain ⟨Y, hY⟩ : ∃ Y, Y = wr.heap.size := ⟨_, rfl⟩
    obtain ⟨W, hW⟩ : ∃ W, W = wr.alloc (.cells #[.slice (some ⟨gl, 0, none⟩) 1 1, .int .i64 M] 26) := ⟨_, rfl⟩
    have kW : Below wr.heap.size wr W := by rw [hW]; exact (Below.refl _ _).alloc (Nat.le_refl _) _
    have kk := hbr.trans (kW.mono hbr.size)
    have S0 : Hid (DrSt w W R a len cap P1 X Y gl 1 1 M LL) := ⟨HRl.out.below kk, grown_trans HGl.out (grown_below kk), ⟨_, cell_later kk x0l⟩, ⟨_, cell_later kk x1l⟩, (fun o => (kk.frozen (p := ⟨X, o, none⟩) zXl).trans (fxl o)), by rw [hW, hY]; simp, by rw [hW, hY]; simp, (fun o => by rw [hW, hY]; exact World.frozen?_alloc_new wr _ _ o), HOl.out.below kk, hXw, by have := HGl.out.size; have := hbr.size; omega, HRW.out, by have := hbr.size; omega, hgX, by have := HOl.out.lt.2; have := hbr.size; omega, HLOW.out⟩
    have sz0 := S0.out.ltY
    go_wp2_with fail
    rw [← hW, ← hY]
    clear hW hY kW kk hbr x0l x1l fxl zXl HRl HGl HOl sz0
    refine (pick_any R P1 a len cap _ W S0.out.rd (by omega) (by omega)).mono ?_
    rintro e w5 ⟨qk, rfl, hqk, R5, g5⟩
    have S5 : Hid (DrSt w w5 R a len cap (P1 + 1) X Y gl 1 1 M LL) := S0.out.read g5 R5
    obtain ⟨k, hk⟩ := Int.eq_ofNat_of_zero_le hqk.1
    subst hk
    have hkn : k < 1 := by have := hqk.2 (by omega); omega
    have hknI : (k : Int) < ((1 : Nat) : Int) := by omega
    have hknJ : (k : Int) < 1 := by omega
    clear R5 g5 S0 hqk
    go_wp2_with fail
    refine (pick_any R (P1 + 1) a len cap _ w5 S5.out.rd (by omega) (by omega)).mono ?_
    rintro e w6 ⟨z, rfl, hz, R6, g6⟩
    have S6 : Hid (DrSt w w6 R a len cap (P1 + 1 + 1) X Y gl 1 1 M LL) := S5.out.read g6 R6
    clear R6 g6 S5 hz
    by_cases z0 : z = 0
    · subst z0
      go_wp2_with fail
      have k0 := S6.out.below (Below.refl _ w6).drew
      have hn13 : True := trivial
      refine wp_region_held_drew (S := (fun w' => Y < w'.heap.size)) (by kernel_rfl) (k0.ltY) (fun hHeld => ?_)
      generalize w6.drew = wd at k0 hHeld ⊢
      refine wpAnyH_takeL (i := 0) (v := ?_) rfl (by kernel_rfl) (by kernel_rfl) (by kernel_rfl) (fun _ _ _ h => h) (Or.inl ⟨by rfl, ?_⟩) hHeld ?_
      rotate_left
      · (intro w hSw; (try dsimp only at hSw); go_simp; try with_reducible rfl)
      try go_frame
      refine wpAnyH_takeL (i := 2) (v := ?_) rfl (by kernel_rfl) (by kernel_rfl) (by kernel_rfl) (fun _ _ _ h => h) (Or.inl ⟨by rfl, ?_⟩) hHeld ?_
      rotate_left
      · (intro w hSw; (try dsimp only at hSw); go_simp; try with_reducible rfl)
      try go_frame
      refine wpAnyH_ready (rs := [1, 3]) (by kernel_rfl) (by simp) ?_
      refine consL rfl (fun K hK => ?_) (consL rfl (fun K hK => ?_) AllReadyH.nil)
      · have q1y := k0.y1
        go_simp
        clear q1y
        refine hK.out _ _ (k0.ltY) (fun hHeld => ?_)
        clear hK K
        try go_frame
        refine wpAnyH_ready (rs := [3]) (by kernel_rfl) (by simp) ?_
        refine consL rfl (fun K hK => ?_) AllReadyH.nil
        go_simp
        have kc : Below wd.heap.size wd (wd.alloc (.cells ((([1, -1, 65536] : List Int).map (Value.int .i64)).toArray) 3)) := (Below.refl _ _).alloc (Nat.le_refl _) _
        have kb := k0.below kc
        have cb := ints_new wd 3 [1, -1, 65536] Nx (by intro s hs; simp only [List.mem_cons, List.not_mem_nil, or_false] at hs; rcases hs with rfl | rfl | rfl <;> (unfold Nx; decide))
        have bR : wd.heap.size ≠ R := by have := k0.rd.lt; omega
        have bl : wd.heap.size < (wd.alloc (.cells ((([1, -1, 65536] : List Int).map (Value.int .i64)).toArray) 3)).heap.size := by simp
        simp only [List.map_cons, List.map_nil] at kc kb cb bl
        generalize wd.heap.size = gb at cb bR bl ⊢
        generalize wd.alloc (.cells #[.int .i64 1, .int .i64 (-1), .int .i64 65536] 3) = wb at kb cb bl ⊢
        refine hK.out _ _ (kb.ltY) (fun hHeld => ?_)
        clear hK K
        try go_frame
        refine wpAnyH_ready (rs := [4]) (by kernel_rfl) (by simp) ?_
        refine consL rfl (fun K hK => ?_) AllReadyH.nil
        go_simp
        refine (num_any Nx R _ a len cap gb 0 3 3 _ kb.rd (by omega) (by omega) (by omega) bR bl cb).mono ?_
        rintro e w8 ⟨zn, rfl, hzn, R8, g8⟩
        have kn := kb.read g8 R8
        obtain ⟨hz1n, hz2n⟩ := hzn
        have HWR : Hid (IntKind.i64.wrap (M + zn) = M + zn) := by unfold Hid; simp [IntKind.wrap, IntKind.bits, IntKind.signed]; omega
        go_wp2_with fail
        refine hK.out _ _ (kn.ltY) (fun hHeld => ?_)
        clear hK K
        try go_frame
        refine wpAnyH_takeL (i := 5) (v := ?_) rfl (by kernel_rfl) (by kernel_rfl) (by kernel_rfl) (fun _ _ _ h => h) (Or.inl ⟨by rfl, ?_⟩) hHeld ?_
        rotate_left
        · (intro w hSw; (try dsimp only at hSw); go_simp; try with_reducible rfl)
        try go_frame
        refine wpAnyH_takeL (i := 6) (v := ?_) rfl (by kernel_rfl) (by kernel_rfl) (by kernel_rfl) (fun _ _ _ h => h) (Or.inl ⟨by rfl, ?_⟩) hHeld ?_
        rotate_left
        · (intro w hSw; (try dsimp only at hSw); go_simp; try with_reducible rfl)
        try go_frame
        refine wpAnyH_ready (rs := [7]) (by kernel_rfl) (by simp) ?_
        refine consL rfl (fun K hK => ?_) AllReadyH.nil
        have q7y := kn.y1
        have f7y := kn.fy 1
        go_simp
        have ks := kn.mask (IntKind.i64.wrap (M + zn))
        clear q7y f7y
        refine hK.out _ _ (ks.ltY) (fun hHeld => ?_)
        clear hK K
        try go_frame
        refine wpAnyH_done (by kernel_rfl) ?_ _
        generalize w8.setCell ⟨Y, 1, none⟩ (.int .i64 (IntKind.i64.wrap (M + zn))) = w9 at ks ⊢
        rw [HWR.out] at ks
        have ey0 := ks.y0
        have ey1 := ks.y1
        have ezY := ks.ltY
        obtain ⟨ev0, ec0⟩ := ks.x0
        obtain ⟨ev1, ec1⟩ := ks.x1
        have ef0 := ks.fx 0
        have ef1 := ks.fx 1
        have exy := ks.nxy
        have HEND : Hid (DrSt w _ R a len cap _ X Y gl 1 1 (M + zn) LL) := ks
        go_wp2
        refine bodyPost_ret (v := .agg #[.slice (some ⟨gl, 0, none⟩) 1 1, .int .i64 (M + zn)]) (by simp [results, Try.results53, go_sem, ec0, ec1]) rfl ?_
        exact HEND.out.done (by omega) HFl.out (WalkArith.wf_i64 (by omega)) (by omega) _ _
      · go_simp
        have kc : Below wd.heap.size wd (wd.alloc (.cells ((([1, -1, 65536] : List Int).map (Value.int .i64)).toArray) 3)) := (Below.refl _ _).alloc (Nat.le_refl _) _
        have kb := k0.below kc
        have cb := ints_new wd 3 [1, -1, 65536] Nx (by intro s hs; simp only [List.mem_cons, List.not_mem_nil, or_false] at hs; rcases hs with rfl | rfl | rfl <;> (unfold Nx; decide))
        have bR : wd.heap.size ≠ R := by have := k0.rd.lt; omega
        have bl : wd.heap.size < (wd.alloc (.cells ((([1, -1, 65536] : List Int).map (Value.int .i64)).toArray) 3)).heap.size := by simp
        simp only [List.map_cons, List.map_nil] at kc kb cb bl
        generalize wd.heap.size = gb at cb bR bl ⊢
        generalize wd.alloc (.cells #[.int .i64 1, .int .i64 (-1), .int .i64 65536] 3) = wb at kb cb bl ⊢
        refine hK.out _ _ (kb.ltY) (fun hHeld => ?_)
        clear hK K
        try go_frame
        refine wpAnyH_ready (rs := [1, 4]) (by kernel_rfl) (by simp) ?_
        refine consL rfl (fun K hK => ?_) (consL rfl (fun K hK => ?_) AllReadyH.nil)
        · have q1y := kb.y1
          go_simp
          clear q1y
          refine hK.out _ _ (kb.ltY) (fun hHeld => ?_)
          clear hK K
          try go_frame
          refine wpAnyH_ready (rs := [4]) (by kernel_rfl) (by simp) ?_
          refine consL rfl (fun K hK => ?_) AllReadyH.nil
          go_simp
          refine (num_any Nx R _ a len cap gb 0 3 3 _ kb.rd (by omega) (by omega) (by omega) bR bl cb).mono ?_
          rintro e w8 ⟨zn, rfl, hzn, R8, g8⟩
          have kn := kb.read g8 R8
          obtain ⟨hz1n, hz2n⟩ := hzn
          have HWR : Hid (IntKind.i64.wrap (M + zn) = M + zn) := by unfold Hid; simp [IntKind.wrap, IntKind.bits, IntKind.signed]; omega
          go_wp2_with fail
          refine hK.out _ _ (kn.ltY) (fun hHeld => ?_)
          clear hK K
          try go_frame
          refine wpAnyH_takeL (i := 5) (v := ?_) rfl (by kernel_rfl) (by kernel_rfl) (by kernel_rfl) (fun _ _ _ h => h) (Or.inl ⟨by rfl, ?_⟩) hHeld ?_
          rotate_left
          · (intro w hSw; (try dsimp only at hSw); go_simp; try with_reducible rfl)
          try go_frame
          refine wpAnyH_takeL (i := 6) (v := ?_) rfl (by kernel_rfl) (by kernel_rfl) (by kernel_rfl) (fun _ _ _ h => h) (Or.inl ⟨by rfl, ?_⟩) hHeld ?_
          rotate_left
          · (intro w hSw; (try dsimp only at hSw); go_simp; try with_reducible rfl)
          try go_frame
          refine wpAnyH_ready (rs := [7]) (by kernel_rfl) (by simp) ?_
          refine consL rfl (fun K hK => ?_) AllReadyH.nil
          have q7y := kn.y1
          have f7y := kn.fy 1
          go_simp
          have ks := kn.mask (IntKind.i64.wrap (M + zn))
          clear q7y f7y
          refine hK.out _ _ (ks.ltY) (fun hHeld => ?_)
          clear hK K
          try go_frame
          refine wpAnyH_done (by kernel_rfl) ?_ _
          generalize w8.setCell ⟨Y, 1, none⟩ (.int .i64 (IntKind.i64.wrap (M + zn))) = w9 at ks ⊢
          rw [HWR.out] at ks
          have ey0 := ks.y0
          have ey1 := ks.y1
          have ezY := ks.ltY
          obtain ⟨ev0, ec0⟩ := ks.x0
          obtain ⟨ev1, ec1⟩ := ks.x1
          have ef0 := ks.fx 0
          have ef1 := ks.fx 1
          have exy := ks.nxy
          have HEND : Hid (DrSt w _ R a len cap _ X Y gl 1 1 (M + zn) LL) := ks
          go_wp2
          refine bodyPost_ret (v := .agg #[.slice (some ⟨gl, 0, none⟩) 1 1, .int .i64 (M + zn)]) (by simp [results, Try.results53, go_sem, ec0, ec1]) rfl ?_
          exact HEND.out.done (by omega) HFl.out (WalkArith.wf_i64 (by omega)) (by omega) _ _
        · go_simp
          refine (num_any Nx R _ a len cap gb 0 3 3 _ kb.rd (by omega) (by omega) (by omega) bR bl cb).mono ?_
          rintro e w8 ⟨zn, rfl, hzn, R8, g8⟩
          have kn := kb.read g8 R8
          obtain ⟨hz1n, hz2n⟩ := hzn
          have HWR : Hid (IntKind.i64.wrap (M + zn) = M + zn) := by unfold Hid; simp [IntKind.wrap, IntKind.bits, IntKind.signed]; omega
          go_wp2_with fail
          refine hK.out _ _ (kn.ltY) (fun hHeld => ?_)
          clear hK K
          try go_frame
          refine wpAnyH_ready (rs := [1]) (by kernel_rfl) (by simp) ?_
          refine consL rfl (fun K hK => ?_) AllReadyH.nil
          have q1y := kn.y1
          go_simp
          clear q1y
          refine hK.out _ _ (kn.ltY) (fun hHeld => ?_)
          clear hK K
          try go_frame
          refine wpAnyH_takeL (i := 5) (v := ?_) rfl (by kernel_rfl) (by kernel_rfl) (by kernel_rfl) (fun _ _ _ h => h) (Or.inl ⟨by rfl, ?_⟩) hHeld ?_
          rotate_left
          · (intro w hSw; (try dsimp only at hSw); go_simp; try with_reducible rfl)
          try go_frame
          refine wpAnyH_takeL (i := 6) (v := ?_) rfl (by kernel_rfl) (by kernel_rfl) (by kernel_rfl) (fun _ _ _ h => h) (Or.inl ⟨by rfl, ?_⟩) hHeld ?_
          rotate_left
          · (intro w hSw; (try dsimp only at hSw); go_simp; try with_reducible rfl)
          try go_frame
          refine wpAnyH_ready (rs := [7]) (by kernel_rfl) (by simp) ?_
          refine consL rfl (fun K hK => ?_) AllReadyH.nil
          have q7y := kn.y1
          have f7y := kn.fy 1
          go_simp
          have ks := kn.mask (IntKind.i64.wrap (M + zn))
          clear q7y f7y
          refine hK.out _ _ (ks.ltY) (fun hHeld => ?_)
          clear hK K
          try go_frame
          refine wpAnyH_done (by kernel_rfl) ?_ _
          generalize w8.setCell ⟨Y, 1, none⟩ (.int .i64 (IntKind.i64.wrap (M + zn))) = w9 at ks ⊢
          rw [HWR.out] at ks
          have ey0 := ks.y0
          have ey1 := ks.y1
          have ezY := ks.ltY
          obtain ⟨ev0, ec0⟩ := ks.x0
          obtain ⟨ev1, ec1⟩ := ks.x1
          have ef0 := ks.fx 0
          have ef1 := ks.fx 1
          have exy := ks.nxy
          have HEND : Hid (DrSt w _ R a len cap _ X Y gl 1 1 (M + zn) LL) := ks
          go_wp2
          refine bodyPost_ret (v := .agg #[.slice (some ⟨gl, 0, none⟩) 1 1, .int .i64 (M + zn)]) (by simp [results, Try.results53, go_sem, ec0, ec1]) rfl ?_
          exact HEND.out.done (by omega) HFl.out (WalkArith.wf_i64 (by omega)) (by omega) _ _
    by_cases z1 : z = 1
    · subst z1
      go_wp2_with fail
      have k0 := S6.out.below (Below.refl _ w6).drew
      have hn13 : True := trivial
      refine wp_region_held_drew (S := (fun w' => w'.cell? ⟨Y, 0, none⟩ = some (.slice (some ⟨gl, 0, none⟩) 1 1) ∧ Y < w'.heap.size ∧ gl < w'.heap.size)) (by kernel_rfl) (⟨k0.y0, k0.ltY, k0.own.lt.2⟩) (fun hHeld => ?_)
      generalize w6.drew = wd at k0 hHeld ⊢
      refine wpAnyH_takeL (i := 0) (v := ?_) rfl (by kernel_rfl) (by kernel_rfl) (by kernel_rfl) (fun _ _ _ h => h) (Or.inl ⟨by rfl, ?_⟩) hHeld ?_
      rotate_left
      · (intro w hSw; (try dsimp only at hSw); go_simp; try with_reducible rfl)
      try go_frame
      refine wpAnyH_takeL (i := 1) (v := ?_) rfl (by kernel_rfl) (by kernel_rfl) (by kernel_rfl) (fun _ _ _ h => h) (Or.inl ⟨by rfl, ?_⟩) hHeld ?_
      rotate_left
      · (intro w hSw; (try dsimp only at hSw); go_simp; try with_reducible rfl)
      try go_frame
      refine wpAnyH_takeL (i := 2) (v := ?_) rfl (by kernel_rfl) (by kernel_rfl) (by kernel_rfl) (fun _ _ _ h => h) (Or.inl ⟨by rfl, ?_⟩) hHeld ?_
      rotate_left
      · (intro w hSw; (try dsimp only at hSw); go_simp; try with_reducible rfl)
      try go_frame
      refine wpAnyH_takeL (i := 3) (v := ?_) rfl (by kernel_rfl) (by kernel_rfl) (by kernel_rfl) (fun _ _ _ h => h) (Or.inl ⟨by rfl, ?_⟩) hHeld ?_
      rotate_left
      · (intro w hSw; (try dsimp only at hSw); go_simp; try with_reducible rfl)
      try go_frame
      refine wpAnyH_takeL (i := 4) (v := ?_) rfl (by kernel_rfl) (by kernel_rfl) (by kernel_rfl) (fun _ _ _ h => h) (Or.inl ⟨by rfl, ?_⟩) hHeld ?_
      rotate_left
      · (intro w hSw; (try dsimp only at hSw); go_simp; try with_reducible rfl)
      try go_frame
      refine wpAnyH_takeL (i := 5) (v := ?_) rfl (by kernel_rfl) (by kernel_rfl) (by kernel_rfl) (fun _ _ _ h => h) (Or.inl ⟨by rfl, ?_⟩) hHeld ?_
      rotate_left
      · (intro w hSw; (try dsimp only at hSw); go_simp; try with_reducible rfl)
      try go_frame
      refine wpAnyH_takeL (i := 6) (v := ?_) rfl (by kernel_rfl) (by kernel_rfl) (by kernel_rfl) (fun _ _ _ h => h) (Or.inl ⟨by rfl, ?_⟩) hHeld ?_
      rotate_left
      · (intro w hSw; (try dsimp only at hSw); go_simp; try with_reducible rfl)
      try go_frame
      refine wpAnyH_takeL (i := 7) (v := ?_) rfl (by kernel_rfl) (by kernel_rfl) (by kernel_rfl) (fun _ _ _ h => h) (Or.inl ⟨by rfl, ?_⟩) hHeld ?_
      rotate_left
      · (intro w hSw; (try dsimp only at hSw); go_simp; try with_reducible rfl)
      try go_frame
      refine wpAnyH_takeL (i := 8) (v := ?_) rfl (by kernel_rfl) (by kernel_rfl) (by kernel_rfl) (fun _ _ _ h => h) (Or.inl ⟨by rfl, ?_⟩) hHeld ?_
      rotate_left
      · (intro w hSw; (try dsimp only at hSw); go_simp; try with_reducible rfl)
      try go_frame
      refine wpAnyH_takeL (i := 9) (v := ?_) rfl (by kernel_rfl) (by kernel_rfl) (by kernel_rfl) (fun _ _ _ h => h) (Or.inl ⟨by rfl, ?_⟩) hHeld ?_
      rotate_left
      · (intro w hSw; (try dsimp only at hSw); go_simp; try with_reducible rfl)
      try go_frame
      refine wpAnyH_ready (rs := [10]) (by kernel_rfl) (by simp) ?_
      refine consL rfl (fun K hK => ?_) AllReadyH.nil
      obtain ⟨es, et, eq, ed, en, hEk, e0, e1, e2, e3, e4⟩ := k0.at HFl.out hkn
      go_simp
      clear e0 e1 e2 e3 e4
      refine hK.out _ _ (⟨k0.y0, k0.ltY, k0.own.lt.2⟩) (fun hHeld => ?_)
      clear hK K
      try go_frame
      refine wpAnyH_ready (rs := [11]) (by kernel_rfl) (by simp) ?_
      refine consL rfl (fun K hK => ?_) AllReadyH.nil
      go_simp
      refine (l3Bent_any R _ a len cap _ _ _ _ _ _ k0.rd (by omega) hEk).mono ?_
      rintro e wq1 ⟨es1, et1, eq1, ed1, en1, Pq1, rfl, hE1, Rq1, hPq1, gq1⟩
      have kq1 := k0.read gq1 Rq1
      go_wp2_with fail
      refine hK.out _ _ (⟨kq1.y0, kq1.ltY, kq1.own.lt.2⟩) (fun hHeld => ?_)
      clear hK K
      try go_frame
      refine wpAnyH_ready (rs := [12]) (by kernel_rfl) (by simp) ?_
      refine consL rfl (fun K hK => ?_) AllReadyH.nil
      go_simp
      refine (l3Bent_any R _ a len cap _ _ _ _ _ _ kq1.rd (by omega) hE1).mono ?_
      rintro e wq2 ⟨es2, et2, eq2, ed2, en2, Pq2, rfl, hE2, Rq2, hPq2, gq2⟩
      have kq2 := kq1.read gq2 Rq2
      go_wp2_with fail
      refine hK.out _ _ (⟨kq2.y0, kq2.ltY, kq2.own.lt.2⟩) (fun hHeld => ?_)
      clear hK K
      try go_frame
      refine wpAnyH_ready (rs := [13]) (by kernel_rfl) (by simp) ?_
      refine consL rfl (fun K hK => ?_) AllReadyH.nil
      go_simp
      refine (l3Bent_any R _ a len cap _ _ _ _ _ _ kq2.rd (by omega) hE2).mono ?_
      rintro e wq3 ⟨es3, et3, eq3, ed3, en3, Pq3, rfl, hE3, Rq3, hPq3, gq3⟩
      have kq3 := kq2.read gq3 Rq3
      go_wp2_with fail
      refine hK.out _ _ (⟨kq3.y0, kq3.ltY, kq3.own.lt.2⟩) (fun hHeld => ?_)
      clear hK K
      try go_frame
      refine wpAnyH_takeL (i := 14) (v := ?_) rfl (by kernel_rfl) (by kernel_rfl) (by kernel_rfl) (fun _ _ _ h => h) (Or.inl ⟨by rfl, ?_⟩) hHeld ?_
      rotate_left
      · (intro w hSw; (try dsimp only at hSw); go_simp; try with_reducible rfl)
      try go_frame
      refine wpAnyH_ready (rs := [15]) (by kernel_rfl) (by simp) ?_
      refine consL rfl (fun K hK => ?_) AllReadyH.nil
      obtain ⟨x0, x1, x2, x3, x4⟩ := kq3.own.entsAt.cells _ rfl k (by rw [kq3.own.len]; exact hkn)
      simp only [Nat.zero_add] at x0 x1 x2 x3 x4
      have y0 := kq3.own.owns.frozenAt (k * 5)
      have y1 := kq3.own.owns.frozenAt (k * 5 + 1)
      have y2 := kq3.own.owns.frozenAt (k * 5 + 2)
      have y3 := kq3.own.owns.frozenAt (k * 5 + 3)
      have y4 := kq3.own.owns.frozenAt (k * 5 + 4)
      go_simp
      have ks := kq3.put hkn es3 et3 eq3 ed3 en3 (entF_w hE3)
      clear x0 x1 x2 x3 x4 y0 y1 y2 y3 y4
      refine hK.out _ _ (⟨ks.y0, ks.ltY, ks.own.lt.2⟩) (fun hHeld => ?_)
      clear hK K
      try go_frame
      refine wpAnyH_done (by kernel_rfl) ?_ _
      generalize ((((wq3.setCell ⟨gl, k * 5, none⟩ (.string es3)).setCell ⟨gl, k * 5 + 1, none⟩ (.int .i64 eq3)).setCell ⟨gl, k * 5 + 2, none⟩ (.int .i64 ed3)).setCell ⟨gl, k * 5 + 3, none⟩ (.string et3)).setCell ⟨gl, k * 5 + 4, none⟩ (.int .i64 en3) = w9 at ks ⊢
      have HFs : Hid (AllF (LL.set k (es3, eq3, ed3, et3, en3))) := allF_set HFl.out hE3
      have ey0 := ks.y0
      have ey1 := ks.y1
      have ezY := ks.ltY
      obtain ⟨ev0, ec0⟩ := ks.x0
      obtain ⟨ev1, ec1⟩ := ks.x1
      have ef0 := ks.fx 0
      have ef1 := ks.fx 1
      have exy := ks.nxy
      have HEND : Hid (DrSt w _ R a len cap _ X Y gl 1 1 M (LL.set k (es3, eq3, ed3, et3, en3))) := ks
      go_wp2
      refine bodyPost_ret (v := .agg #[.slice (some ⟨gl, 0, none⟩) 1 1, .int .i64 M]) (by simp [results, Try.results53, go_sem, ec0, ec1]) rfl ?_
      exact HEND.out.done (by omega) HFs.out (WalkArith.wf_i64 (by omega)) (by omega) _ _
    by_cases z2 : z = 2
    · subst z2
      go_wp2_with fail
      have k0 := S6.out.below (Below.refl _ w6).drew
      have hn13 : True := trivial
      refine wp_region_held_drew (S := (fun w' => Y < w'.heap.size)) (by kernel_rfl) (k0.ltY) (fun hHeld => ?_)
      generalize w6.drew = wd at k0 hHeld ⊢
      refine wpAnyH_takeL (i := 0) (v := ?_) rfl (by kernel_rfl) (by kernel_rfl) (by kernel_rfl) (fun _ _ _ h => h) (Or.inl ⟨by rfl, ?_⟩) hHeld ?_
      rotate_left
      · (intro w hSw; (try dsimp only at hSw); go_simp; try with_reducible rfl)
      try go_frame
      refine wpAnyH_takeL (i := 2) (v := ?_) rfl (by kernel_rfl) (by kernel_rfl) (by kernel_rfl) (fun _ _ _ h => h) (Or.inl ⟨by rfl, ?_⟩) hHeld ?_
      rotate_left
      · (intro w hSw; (try dsimp only at hSw); go_simp; try with_reducible rfl)
      try go_frame
      refine wpAnyH_takeL (i := 4) (v := ?_) rfl (by kernel_rfl) (by kernel_rfl) (by kernel_rfl) (fun _ _ _ h => h) (Or.inl ⟨by rfl, ?_⟩) hHeld ?_
      rotate_left
      · (intro w hSw; (try dsimp only at hSw); go_simp; try with_reducible rfl)
      try go_frame
      refine wpAnyH_ready (rs := [1, 3]) (by kernel_rfl) (by simp) ?_
      refine consL rfl (fun K hK => ?_) (consL rfl (fun K hK => ?_) AllReadyH.nil)
      · have q0y := k0.y0
        go_simp
        clear q0y
        refine hK.out _ _ (k0.ltY) (fun hHeld => ?_)
        clear hK K
        try go_frame
        refine wpAnyH_ready (rs := [3]) (by kernel_rfl) (by simp) ?_
        refine consL rfl (fun K hK => ?_) AllReadyH.nil
        have q0y := k0.y0
        go_simp
        clear q0y
        refine hK.out _ _ (k0.ltY) (fun hHeld => ?_)
        clear hK K
        try go_frame
        refine wpAnyH_takeL (i := 5) (v := ?_) rfl (by kernel_rfl) (by kernel_rfl) (by kernel_rfl) (fun _ _ _ h => h) (Or.inl ⟨by rfl, ?_⟩) hHeld ?_
        rotate_left
        · (intro w hSw; (try dsimp only at hSw); go_simp; try with_reducible rfl)
        try go_frame
        refine wpAnyH_ready (rs := [6]) (by kernel_rfl) (by simp) ?_
        refine consL rfl (fun K hK => ?_) AllReadyH.nil
        obtain ⟨es, et, eq, ed, en, hEk, e0, e1, e2, e3, e4⟩ := k0.at HFl.out hkn
        go_simp
        clear e0 e1 e2 e3 e4
        refine hK.out _ _ (k0.ltY) (fun hHeld => ?_)
        clear hK K
        try go_frame
        refine wpAnyH_ready (rs := [7]) (by kernel_rfl) (by simp) ?_
        refine consL rfl (fun K hK => ?_) AllReadyH.nil
        go_simp
        have kc : Below wd.heap.size wd (wd.alloc (.cells #[.string es, .int .i64 eq, .int .i64 ed, .string et, .int .i64 en] 31)) := (Below.refl _ _).alloc (Nat.le_refl _) _
        have kb := k0.below kc
        have rN : EntsAt (wd.alloc (.cells #[.string es, .int .i64 eq, .int .i64 ed, .string et, .int .i64 en] 31)) (some ⟨wd.heap.size, 0, none⟩) 1 1 [(es, eq, ed, et, en)] := ents_one wd _ _ _ _ _ (entF_w hEk)
        generalize wd.heap.size = gb at rN ⊢
        generalize wd.alloc (.cells #[.string es, .int .i64 eq, .int .i64 ed, .string et, .int .i64 en] 31) = wb at kb rN ⊢
        refine hK.out _ _ (kb.ltY) (fun hHeld => ?_)
        clear hK K
        try go_frame
        refine wpAnyH_ready (rs := [8]) (by kernel_rfl) (by simp) ?_
        refine consL rfl (fun K hK => ?_) AllReadyH.nil
        refine step_append_own rfl (.tmp 50) (.tmp 56) 23 rfl gl 31 i0 _ 5 56 Try.underlying23 hi hz0 hz1 hz2 rfl (Nat.succ_pos 4) _ _ _ rfl kb.own.rebase.owns ⟨gb, 0, none⟩ 1 1 (flatE [(es, eq, ed, et, en)]) rfl rfl (ents_news rN) (flatE_one _) ?_ ?_ ?_ ?_
        · unfold maxLen; omega
        · omega
        · exact Nat.le_of_lt kb.own.lt.2
        intro v8 w8 ho8 hg8 hn8
        obtain ⟨g8, c8, rfl⟩ := row_some ho8 hn8
        have hg8' : wb.grownBy w8 (some gl) := hg8
        refine hK.out _ _ (Nat.lt_of_lt_of_le kb.ltY hg8.size) (fun hHeld => ?_)
        clear hK K
        try go_frame
        refine wpAnyH_takeL (i := 9) (v := ?_) rfl (by kernel_rfl) (by kernel_rfl) (by kernel_rfl) (fun _ _ _ h => h) (Or.inl ⟨by rfl, ?_⟩) hHeld ?_
        rotate_left
        · (intro w hSw; (try dsimp only at hSw); go_simp; try with_reducible rfl)
        try go_frame
        refine wpAnyH_ready (rs := [10]) (by kernel_rfl) (by simp) ?_
        refine consL rfl (fun K hK => ?_) AllReadyH.nil
        have hO8 : OwnE w8 gl g8 (1 + 1) c8 (LL ++ [(es, eq, ed, et, en)]) := ⟨by rw [flatE_append]; exact ho8, by simp [kb.own.len], allF_w (allF_app HFl.out (allF_one hEk))⟩
        have ks := kb.grewTo hg8' hO8 (by omega)
        have q0y := (grown_cell hg8' (x := ⟨Y, 0, none⟩) kb.ltY (Ne.symm kb.ngy)).trans kb.y0
        have f0y := (grown_frozen hg8' (x := ⟨Y, 0, none⟩) kb.ltY (fun e => kb.ngy (by cases e; rfl))).trans (kb.fy 0)
        go_simp
        clear q0y f0y
        refine hK.out _ _ (ks.ltY) (fun hHeld => ?_)
        clear hK K
        try go_frame
        refine wpAnyH_done (by kernel_rfl) ?_ _
        generalize w8.setCell ⟨Y, 0, none⟩ (.slice (some ⟨g8, 0, none⟩) (1 + 1) c8) = w9 at ks ⊢
        have HFs : Hid (AllF (LL ++ [(es, eq, ed, et, en)])) := allF_app HFl.out (allF_one hEk)
        have ey0 := ks.y0
        have ey1 := ks.y1
        have ezY := ks.ltY
        obtain ⟨ev0, ec0⟩ := ks.x0
        obtain ⟨ev1, ec1⟩ := ks.x1
        have ef0 := ks.fx 0
        have ef1 := ks.fx 1
        have exy := ks.nxy
        have HEND : Hid (DrSt w _ R a len cap _ X Y g8 (1 + 1) c8 M (LL ++ [(es, eq, ed, et, en)])) := ks
        go_wp2
        refine bodyPost_ret (v := .agg #[.slice (some ⟨g8, 0, none⟩) (1 + 1) c8, .int .i64 M]) (by simp [results, Try.results53, go_sem, ec0, ec1]) rfl ?_
        exact HEND.out.done (by omega) HFs.out (WalkArith.wf_i64 (by omega)) (by omega) _ _
      · have q0y := k0.y0
        go_simp
        clear q0y
        refine hK.out _ _ (k0.ltY) (fun hHeld => ?_)
        clear hK K
        try go_frame
        refine wpAnyH_takeL (i := 5) (v := ?_) rfl (by kernel_rfl) (by kernel_rfl) (by kernel_rfl) (fun _ _ _ h => h) (Or.inl ⟨by rfl, ?_⟩) hHeld ?_
        rotate_left
        · (intro w hSw; (try dsimp only at hSw); go_simp; try with_reducible rfl)
        try go_frame
        refine wpAnyH_ready (rs := [1, 6]) (by kernel_rfl) (by simp) ?_
        refine consL rfl (fun K hK => ?_) (consL rfl (fun K hK => ?_) AllReadyH.nil)
        · have q0y := k0.y0
          go_simp
          clear q0y
          refine hK.out _ _ (k0.ltY) (fun hHeld => ?_)
          clear hK K
          try go_frame
          refine wpAnyH_ready (rs := [6]) (by kernel_rfl) (by simp) ?_
          refine consL rfl (fun K hK => ?_) AllReadyH.nil
          obtain ⟨es, et, eq, ed, en, hEk, e0, e1, e2, e3, e4⟩ := k0.at HFl.out hkn
          go_simp
          clear e0 e1 e2 e3 e4
          refine hK.out _ _ (k0.ltY) (fun hHeld => ?_)
          clear hK K
          try go_frame
          refine wpAnyH_ready (rs := [7]) (by kernel_rfl) (by simp) ?_
          refine consL rfl (fun K hK => ?_) AllReadyH.nil
          go_simp
          have kc : Below wd.heap.size wd (wd.alloc (.cells #[.string es, .int .i64 eq, .int .i64 ed, .string et, .int .i64 en] 31)) := (Below.refl _ _).alloc (Nat.le_refl _) _
          have kb := k0.below kc
          have rN : EntsAt (wd.alloc (.cells #[.string es, .int .i64 eq, .int .i64 ed, .string et, .int .i64 en] 31)) (some ⟨wd.heap.size, 0, none⟩) 1 1 [(es, eq, ed, et, en)] := ents_one wd _ _ _ _ _ (entF_w hEk)
          generalize wd.heap.size = gb at rN ⊢
          generalize wd.alloc (.cells #[.string es, .int .i64 eq, .int .i64 ed, .string et, .int .i64 en] 31) = wb at kb rN ⊢
          refine hK.out _ _ (kb.ltY) (fun hHeld => ?_)
          clear hK K
          try go_frame
          refine wpAnyH_ready (rs := [8]) (by kernel_rfl) (by simp) ?_
          refine consL rfl (fun K hK => ?_) AllReadyH.nil
          refine step_append_own rfl (.tmp 50) (.tmp 56) 23 rfl gl 31 i0 _ 5 56 Try.underlying23 hi hz0 hz1 hz2 rfl (Nat.succ_pos 4) _ _ _ rfl kb.own.rebase.owns ⟨gb, 0, none⟩ 1 1 (flatE [(es, eq, ed, et, en)]) rfl rfl (ents_news rN) (flatE_one _) ?_ ?_ ?_ ?_
          · unfold maxLen; omega
          · omega
          · exact Nat.le_of_lt kb.own.lt.2
          intro v8 w8 ho8 hg8 hn8
          obtain ⟨g8, c8, rfl⟩ := row_some ho8 hn8
          have hg8' : wb.grownBy w8 (some gl) := hg8
          refine hK.out _ _ (Nat.lt_of_lt_of_le kb.ltY hg8.size) (fun hHeld => ?_)
          clear hK K
          try go_frame
          refine wpAnyH_takeL (i := 9) (v := ?_) rfl (by kernel_rfl) (by kernel_rfl) (by kernel_rfl) (fun _ _ _ h => h) (Or.inl ⟨by rfl, ?_⟩) hHeld ?_
          rotate_left
          · (intro w hSw; (try dsimp only at hSw); go_simp; try with_reducible rfl)
          try go_frame
          refine wpAnyH_ready (rs := [10]) (by kernel_rfl) (by simp) ?_
          refine consL rfl (fun K hK => ?_) AllReadyH.nil
          have hO8 : OwnE w8 gl g8 (1 + 1) c8 (LL ++ [(es, eq, ed, et, en)]) := ⟨by rw [flatE_append]; exact ho8, by simp [kb.own.len], allF_w (allF_app HFl.out (allF_one hEk))⟩
          have ks := kb.grewTo hg8' hO8 (by omega)
          have q0y := (grown_cell hg8' (x := ⟨Y, 0, none⟩) kb.ltY (Ne.symm kb.ngy)).trans kb.y0
          have f0y := (grown_frozen hg8' (x := ⟨Y, 0, none⟩) kb.ltY (fun e => kb.ngy (by cases e; rfl))).trans (kb.fy 0)
          go_simp
          clear q0y f0y
          refine hK.out _ _ (ks.ltY) (fun hHeld => ?_)
          clear hK K
          try go_frame
          refine wpAnyH_done (by kernel_rfl) ?_ _
          generalize w8.setCell ⟨Y, 0, none⟩ (.slice (some ⟨g8, 0, none⟩) (1 + 1) c8) = w9 at ks ⊢
          have HFs : Hid (AllF (LL ++ [(es, eq, ed, et, en)])) := allF_app HFl.out (allF_one hEk)
          have ey0 := ks.y0
          have ey1 := ks.y1
          have ezY := ks.ltY
          obtain ⟨ev0, ec0⟩ := ks.x0
          obtain ⟨ev1, ec1⟩ := ks.x1
          have ef0 := ks.fx 0
          have ef1 := ks.fx 1
          have exy := ks.nxy
          have HEND : Hid (DrSt w _ R a len cap _ X Y g8 (1 + 1) c8 M (LL ++ [(es, eq, ed, et, en)])) := ks
          go_wp2
          refine bodyPost_ret (v := .agg #[.slice (some ⟨g8, 0, none⟩) (1 + 1) c8, .int .i64 M]) (by simp [results, Try.results53, go_sem, ec0, ec1]) rfl ?_
          exact HEND.out.done (by omega) HFs.out (WalkArith.wf_i64 (by omega)) (by omega) _ _
        · obtain ⟨es, et, eq, ed, en, hEk, e0, e1, e2, e3, e4⟩ := k0.at HFl.out hkn
          go_simp
          clear e0 e1 e2 e3 e4
          refine hK.out _ _ (k0.ltY) (fun hHeld => ?_)
          clear hK K
          try go_frame
          refine wpAnyH_ready (rs := [1, 7]) (by kernel_rfl) (by simp) ?_
          refine consL rfl (fun K hK => ?_) (consL rfl (fun K hK => ?_) AllReadyH.nil)
          · have q0y := k0.y0
            go_simp
            clear q0y
            refine hK.out _ _ (k0.ltY) (fun hHeld => ?_)
            clear hK K
            try go_frame
            refine wpAnyH_ready (rs := [7]) (by kernel_rfl) (by simp) ?_
            refine consL rfl (fun K hK => ?_) AllReadyH.nil
            go_simp
            have kc : Below wd.heap.size wd (wd.alloc (.cells #[.string es, .int .i64 eq, .int .i64 ed, .string et, .int .i64 en] 31)) := (Below.refl _ _).alloc (Nat.le_refl _) _
            have kb := k0.below kc
            have rN : EntsAt (wd.alloc (.cells #[.string es, .int .i64 eq, .int .i64 ed, .string et, .int .i64 en] 31)) (some ⟨wd.heap.size, 0, none⟩) 1 1 [(es, eq, ed, et, en)] := ents_one wd _ _ _ _ _ (entF_w hEk)
            generalize wd.heap.size = gb at rN ⊢
            generalize wd.alloc (.cells #[.string es, .int .i64 eq, .int .i64 ed, .string et, .int .i64 en] 31) = wb at kb rN ⊢
            refine hK.out _ _ (kb.ltY) (fun hHeld => ?_)
            clear hK K
            try go_frame
            refine wpAnyH_ready (rs := [8]) (by kernel_rfl) (by simp) ?_
            refine consL rfl (fun K hK => ?_) AllReadyH.nil
            refine step_append_own rfl (.tmp 50) (.tmp 56) 23 rfl gl 31 i0 _ 5 56 Try.underlying23 hi hz0 hz1 hz2 rfl (Nat.succ_pos 4) _ _ _ rfl kb.own.rebase.owns ⟨gb, 0, none⟩ 1 1 (flatE [(es, eq, ed, et, en)]) rfl rfl (ents_news rN) (flatE_one _) ?_ ?_ ?_ ?_
            · unfold maxLen; omega
            · omega
            · exact Nat.le_of_lt kb.own.lt.2
            intro v8 w8 ho8 hg8 hn8
            obtain ⟨g8, c8, rfl⟩ := row_some ho8 hn8
            have hg8' : wb.grownBy w8 (some gl) := hg8
            refine hK.out _ _ (Nat.lt_of_lt_of_le kb.ltY hg8.size) (fun hHeld => ?_)
            clear hK K
            try go_frame
            refine wpAnyH_takeL (i := 9) (v := ?_) rfl (by kernel_rfl) (by kernel_rfl) (by kernel_rfl) (fun _ _ _ h => h) (Or.inl ⟨by rfl, ?_⟩) hHeld ?_
            rotate_left
            · (intro w hSw; (try dsimp only at hSw); go_simp; try with_reducible rfl)
            try go_frame
            refine wpAnyH_ready (rs := [10]) (by kernel_rfl) (by simp) ?_
            refine consL rfl (fun K hK => ?_) AllReadyH.nil
            have hO8 : OwnE w8 gl g8 (1 + 1) c8 (LL ++ [(es, eq, ed, et, en)]) := ⟨by rw [flatE_append]; exact ho8, by simp [kb.own.len], allF_w (allF_app HFl.out (allF_one hEk))⟩
            have ks := kb.grewTo hg8' hO8 (by omega)
            have q0y := (grown_cell hg8' (x := ⟨Y, 0, none⟩) kb.ltY (Ne.symm kb.ngy)).trans kb.y0
            have f0y := (grown_frozen hg8' (x := ⟨Y, 0, none⟩) kb.ltY (fun e => kb.ngy (by cases e; rfl))).trans (kb.fy 0)
            go_simp
            clear q0y f0y
            refine hK.out _ _ (ks.ltY) (fun hHeld => ?_)
            clear hK K
            try go_frame
            refine wpAnyH_done (by kernel_rfl) ?_ _
            generalize w8.setCell ⟨Y, 0, none⟩ (.slice (some ⟨g8, 0, none⟩) (1 + 1) c8) = w9 at ks ⊢
            have HFs : Hid (AllF (LL ++ [(es, eq, ed, et, en)])) := allF_app HFl.out (allF_one hEk)
            have ey0 := ks.y0
            have ey1 := ks.y1
            have ezY := ks.ltY
            obtain ⟨ev0, ec0⟩ := ks.x0
            obtain ⟨ev1, ec1⟩ := ks.x1
            have ef0 := ks.fx 0
            have ef1 := ks.fx 1
            have exy := ks.nxy
            have HEND : Hid (DrSt w _ R a len cap _ X Y g8 (1 + 1) c8 M (LL ++ [(es, eq, ed, et, en)])) := ks
            go_wp2
            refine bodyPost_ret (v := .agg #[.slice (some ⟨g8, 0, none⟩) (1 + 1) c8, .int .i64 M]) (by simp [results, Try.results53, go_sem, ec0, ec1]) rfl ?_
            exact HEND.out.done (by omega) HFs.out (WalkArith.wf_i64 (by omega)) (by omega) _ _
          · go_simp
            have kc : Below wd.heap.size wd (wd.alloc (.cells #[.string es, .int .i64 eq, .int .i64 ed, .string et, .int .i64 en] 31)) := (Below.refl _ _).alloc (Nat.le_refl _) _
            have kb := k0.below kc
            have rN : EntsAt (wd.alloc (.cells #[.string es, .int .i64 eq, .int .i64 ed, .string et, .int .i64 en] 31)) (some ⟨wd.heap.size, 0, none⟩) 1 1 [(es, eq, ed, et, en)] := ents_one wd _ _ _ _ _ (entF_w hEk)
            generalize wd.heap.size = gb at rN ⊢
            generalize wd.alloc (.cells #[.string es, .int .i64 eq, .int .i64 ed, .string et, .int .i64 en] 31) = wb at kb rN ⊢
            refine hK.out _ _ (kb.ltY) (fun hHeld => ?_)
            clear hK K
            try go_frame
            refine wpAnyH_ready (rs := [1]) (by kernel_rfl) (by simp) ?_
            refine consL rfl (fun K hK => ?_) AllReadyH.nil
            have q0y := kb.y0
            go_simp
            clear q0y
            refine hK.out _ _ (kb.ltY) (fun hHeld => ?_)
            clear hK K
            try go_frame
            refine wpAnyH_ready (rs := [8]) (by kernel_rfl) (by simp) ?_
            refine consL rfl (fun K hK => ?_) AllReadyH.nil
            refine step_append_own rfl (.tmp 50) (.tmp 56) 23 rfl gl 31 i0 _ 5 56 Try.underlying23 hi hz0 hz1 hz2 rfl (Nat.succ_pos 4) _ _ _ rfl kb.own.rebase.owns ⟨gb, 0, none⟩ 1 1 (flatE [(es, eq, ed, et, en)]) rfl rfl (ents_news rN) (flatE_one _) ?_ ?_ ?_ ?_
            · unfold maxLen; omega
            · omega
            · exact Nat.le_of_lt kb.own.lt.2
            intro v8 w8 ho8 hg8 hn8
            obtain ⟨g8, c8, rfl⟩ := row_some ho8 hn8
            have hg8' : wb.grownBy w8 (some gl) := hg8
            refine hK.out _ _ (Nat.lt_of_lt_of_le kb.ltY hg8.size) (fun hHeld => ?_)
            clear hK K
            try go_frame
            refine wpAnyH_takeL (i := 9) (v := ?_) rfl (by kernel_rfl) (by kernel_rfl) (by kernel_rfl) (fun _ _ _ h => h) (Or.inl ⟨by rfl, ?_⟩) hHeld ?_
            rotate_left
            · (intro w hSw; (try dsimp only at hSw); go_simp; try with_reducible rfl)
            try go_frame
            refine wpAnyH_ready (rs := [10]) (by kernel_rfl) (by simp) ?_
            refine consL rfl (fun K hK => ?_) AllReadyH.nil
            have hO8 : OwnE w8 gl g8 (1 + 1) c8 (LL ++ [(es, eq, ed, et, en)]) := ⟨by rw [flatE_append]; exact ho8, by simp [kb.own.len], allF_w (allF_app HFl.out (allF_one hEk))⟩
            have ks := kb.grewTo hg8' hO8 (by omega)
            have q0y := (grown_cell hg8' (x := ⟨Y, 0, none⟩) kb.ltY (Ne.symm kb.ngy)).trans kb.y0
            have f0y := (grown_frozen hg8' (x := ⟨Y, 0, none⟩) kb.ltY (fun e => kb.ngy (by cases e; rfl))).trans (kb.fy 0)
            go_simp
            clear q0y f0y
            refine hK.out _ _ (ks.ltY) (fun hHeld => ?_)
            clear hK K
            try go_frame
            refine wpAnyH_done (by kernel_rfl) ?_ _
            generalize w8.setCell ⟨Y, 0, none⟩ (.slice (some ⟨g8, 0, none⟩) (1 + 1) c8) = w9 at ks ⊢
            have HFs : Hid (AllF (LL ++ [(es, eq, ed, et, en)])) := allF_app HFl.out (allF_one hEk)
            have ey0 := ks.y0
            have ey1 := ks.y1
            have ezY := ks.ltY
            obtain ⟨ev0, ec0⟩ := ks.x0
            obtain ⟨ev1, ec1⟩ := ks.x1
            have ef0 := ks.fx 0
            have ef1 := ks.fx 1
            have exy := ks.nxy
            have HEND : Hid (DrSt w _ R a len cap _ X Y g8 (1 + 1) c8 M (LL ++ [(es, eq, ed, et, en)])) := ks
            go_wp2
            refine bodyPost_ret (v := .agg #[.slice (some ⟨g8, 0, none⟩) (1 + 1) c8, .int .i64 M]) (by simp [results, Try.results53, go_sem, ec0, ec1]) rfl ?_
            exact HEND.out.done (by omega) HFs.out (WalkArith.wf_i64 (by omega)) (by omega) _ _
    by_cases z3 : z = 3
    · subst z3
      have k0 := (S6.out.below ((Below.refl w6.heap.size w6).alloc (Nat.le_refl _) (.cells #[] 31)))
      have oE : OwnE (w6.alloc (.cells #[] 31)) w.heap.size w6.heap.size 0 0 [] := own_empty w6 _ S6.out.gr.size
      have ks := k0.ents oE S6.out.ltX (by have := S6.out.ltY; omega)
      have q6y := S6.out.y0
      have f6y := S6.out.fy 0
      have q6z := S6.out.ltY
      rw [World.setCell_alloc_past _ _ _ _ q6z] at ks
      clear k0 oE
      go_upto_region 17 with fail
      clear q6y f6y q6z S6
      generalize w6.heap.size = g9 at ks ⊢
      generalize (w6.setCell ⟨Y, 0, none⟩ (.slice (some ⟨g9, 0, none⟩) 0 0)).alloc (.cells #[] 31) = w9 at ks ⊢
      have ey0 := ks.y0
      have ey1 := ks.y1
      have ezY := ks.ltY
      obtain ⟨ev0, ec0⟩ := ks.x0
      obtain ⟨ev1, ec1⟩ := ks.x1
      have ef0 := ks.fx 0
      have ef1 := ks.fx 1
      have exy := ks.nxy
      have HEND : Hid (DrSt w _ R a len cap _ X Y g9 0 0 M []) := ks
      go_wp2
      refine bodyPost_ret (v := .agg #[.slice (some ⟨g9, 0, none⟩) 0 0, .int .i64 M]) (by simp [results, Try.results53, go_sem, ec0, ec1]) rfl ?_
      exact HEND.out.done (by omega) (fun e he => by cases he) (WalkArith.wf_i64 (by omega)) (by omega) _ _
    by_cases z4 : z = 4
    · subst z4
      have ks := S6.out.mask 65535
      have q6y := S6.out.y0
      have q61 := S6.out.y1
      have f6y := S6.out.fy 1
      have q6z := S6.out.ltY
      have q6x := S6.out.ltX
      obtain ⟨ew0, ed0⟩ := S6.out.x0
      obtain ⟨ew1, ed1⟩ := S6.out.x1
      have eg0 := S6.out.fx 0
      have eg1 := S6.out.fx 1
      have exy := S6.out.nxy
      have HEND : Hid (DrSt w _ R a len cap _ X Y gl 1 1 65535 LL) := ks
      clear ks
      go_wp2
      refine bodyPost_ret (v := .agg #[.slice (some ⟨gl, 0, none⟩) 1 1, .int .i64 65535]) (by simp [results, Try.results53, go_sem, ed0, ed1]) rfl ?_
      exact HEND.out.done (by omega) HFl.out (WalkArith.wf_i64 (by omega)) (by omega) _ _
    have k6 := S6.out
    have ey0 := k6.y0
    have ey1 := k6.y1
    have ezY := k6.ltY
    obtain ⟨ev0, ec0⟩ := k6.x0
    obtain ⟨ev1, ec1⟩ := k6.x1
    have ef0 := k6.fx 0
    have ef1 := k6.fx 1
    have exy := k6.nxy
    have HEND : Hid (DrSt w _ R a len cap _ X Y gl 1 1 M LL) := k6
    go_wp2
    refine bodyPost_ret (v := .agg #[.slice (some ⟨gl, 0, none⟩) 1 1, .int .i64 M]) (by simp [results, Try.results53, go_sem, ec0, ec1]) rfl ?_
    exact HEND.out.done (by omega) HFl.out (WalkArith.wf_i64 (by omega)) (by omega) _ _
  · have hnI : ¬ ((n : Nat) : Int) = 0 := by omega
    have hn1 : 1 ≤ n := by omega
    have hgX : X < g := by omega
    have HFl : Hid (AllF L) := HF1.out
    have HOl : Hid (OwnE w1 w.heap.size g n c L) := HO1.out
    have HRl : Hid (RdAt w1 R a len cap P1) := HR1.out
    have HGl : Hid (w.grownBy w1 (some R)) := HG1.out
    have x0l := x0
    have x1l := x1
    have fxl := fx
    have zXl := zX
    clear HO1 HR1 HG1 HF1 x0 x1 fx zX hgX0 hXR
    go_wp2_with fail
    refine (specRunA _ n c L w1 HOl.out.entsAt).mono ?_
    rintro e wr ⟨rfl, hbr⟩
    obtain ⟨M, hM⟩ : ∃ M : Int, M = ((maskL L : Nat) : Int) := ⟨_, rfl⟩
    have hM0 : 0 ≤ M := by omega
    have hM1 : M < 65536 := by have := maskL_lt L; omega
    rw [← hM]
    clear hM
    obtain ⟨Y, hY⟩ : ∃ Y, Y = wr.heap.size := ⟨_, rfl⟩
    obtain ⟨W, hW⟩ : ∃ W, W = wr.alloc (.cells #[.slice (some ⟨g, 0, none⟩) n c, .int .i64 M] 26) := ⟨_, rfl⟩
    have kW : Below wr.heap.size wr W := by rw [hW]; exact (Below.refl _ _).alloc (Nat.le_refl _) _
    have kk := hbr.trans (kW.mono hbr.size)
    have S0 : Hid (DrSt w W R a len cap P1 X Y g n c M L) := ⟨HRl.out.below kk, grown_trans HGl.out (grown_below kk), ⟨_, cell_later kk x0l⟩, ⟨_, cell_later kk x1l⟩, (fun o => (kk.frozen (p := ⟨X, o, none⟩) zXl).trans (fxl o)), by rw [hW, hY]; simp, by rw [hW, hY]; simp, (fun o => by rw [hW, hY]; exact World.frozen?_alloc_new wr _ _ o), HOl.out.below kk, hXw, by have := HGl.out.size; have := hbr.size; omega, HRW.out, by have := hbr.size; omega, hgX, by have := HOl.out.lt.2; have := hbr.size; omega, HLOW.out⟩
    have sz0 := S0.out.ltY
    go_wp2_with fail
    rw [← hW, ← hY]
    clear hW hY kW kk hbr x0l x1l fxl zXl HRl HGl HOl sz0
    refine (pick_any R P1 a len cap _ W S0.out.rd (by omega) (by omega)).mono ?_
    rintro e w5 ⟨qk, rfl, hqk, R5, g5⟩
    have S5 : Hid (DrSt w w5 R a len cap (P1 + 1) X Y g n c M L) := S0.out.read g5 R5
    obtain ⟨k, hk⟩ := Int.eq_ofNat_of_zero_le hqk.1
    subst hk
    have hkn : k < n := by have := hqk.2 (by omega); omega
    have hknI : (k : Int) < ((n : Nat) : Int) := by omega
    have hknJ : (k : Int) < n := by omega
    clear R5 g5 S0 hqk
    go_wp2_with fail
    refine (pick_any R (P1 + 1) a len cap _ w5 S5.out.rd (by omega) (by omega)).mono ?_
    rintro e w6 ⟨z, rfl, hz, R6, g6⟩
    have S6 : Hid (DrSt w w6 R a len cap (P1 + 1 + 1) X Y g n c M L) := S5.out.read g6 R6
    clear R6 g6 S5 hz
    by_cases z0 : z = 0
    · subst z0
      go_wp2_with fail
      have k0 := S6.out.below (Below.refl _ w6).drew
      have hn13 : True := trivial
      refine wp_region_held_drew (S := (fun w' => Y < w'.heap.size)) (by kernel_rfl) (k0.ltY) (fun hHeld => ?_)
      generalize w6.drew = wd at k0 hHeld ⊢
      refine wpAnyH_takeL (i := 0) (v := ?_) rfl (by kernel_rfl) (by kernel_rfl) (by kernel_rfl) (fun _ _ _ h => h) (Or.inl ⟨by rfl, ?_⟩) hHeld ?_
      rotate_left
      · (intro w hSw; (try dsimp only at hSw); go_simp; try with_reducible rfl)
      try go_frame
      refine wpAnyH_takeL (i := 2) (v := ?_) rfl (by kernel_rfl) (by kernel_rfl) (by kernel_rfl) (fun _ _ _ h => h) (Or.inl ⟨by rfl, ?_⟩) hHeld ?_
      rotate_left
      · (intro w hSw; (try dsimp only at hSw); go_simp; try with_reducible rfl)
      try go_frame
      refine wpAnyH_ready (rs := [1, 3]) (by kernel_rfl) (by simp) ?_
      refine consL rfl (fun K hK => ?_) (consL rfl (fun K hK => ?_) AllReadyH.nil)
      · have q1y := k0.y1
        go_simp
        clear q1y
        refine hK.out _ _ (k0.ltY) (fun hHeld => ?_)
        clear hK K
        try go_frame
        refine wpAnyH_ready (rs := [3]) (by kernel_rfl) (by simp) ?_
        refine consL rfl (fun K hK => ?_) AllReadyH.nil
        go_simp
        have kc : Below wd.heap.size wd (wd.alloc (.cells ((([1, -1, 65536] : List Int).map (Value.int .i64)).toArray) 3)) := (Below.refl _ _).alloc (Nat.le_refl _) _
        have kb := k0.below kc
        have cb := ints_new wd 3 [1, -1, 65536] Nx (by intro s hs; simp only [List.mem_cons, List.not_mem_nil, or_false] at hs; rcases hs with rfl | rfl | rfl <;> (unfold Nx; decide))
        have bR : wd.heap.size ≠ R := by have := k0.rd.lt; omega
        have bl : wd.heap.size < (wd.alloc (.cells ((([1, -1, 65536] : List Int).map (Value.int .i64)).toArray) 3)).heap.size := by simp
        simp only [List.map_cons, List.map_nil] at kc kb cb bl
        generalize wd.heap.size = gb at cb bR bl ⊢
        generalize wd.alloc (.cells #[.int .i64 1, .int .i64 (-1), .int .i64 65536] 3) = wb at kb cb bl ⊢
        refine hK.out _ _ (kb.ltY) (fun hHeld => ?_)
        clear hK K
        try go_frame
        refine wpAnyH_ready (rs := [4]) (by kernel_rfl) (by simp) ?_
        refine consL rfl (fun K hK => ?_) AllReadyH.nil
        go_simp
        refine (num_any Nx R _ a len cap gb 0 3 3 _ kb.rd (by omega) (by omega) (by omega) bR bl cb).mono ?_
        rintro e w8 ⟨zn, rfl, hzn, R8, g8⟩
        have kn := kb.read g8 R8
        obtain ⟨hz1n, hz2n⟩ := hzn
        have HWR : Hid (IntKind.i64.wrap (M + zn) = M + zn) := by unfold Hid; simp [IntKind.wrap, IntKind.bits, IntKind.signed]; omega
        go_wp2_with fail
        refine hK.out _ _ (kn.ltY) (fun hHeld => ?_)
        clear hK K
        try go_frame
        refine wpAnyH_takeL (i := 5) (v := ?_) rfl (by kernel_rfl) (by kernel_rfl) (by kernel_rfl) (fun _ _ _ h => h) (Or.inl ⟨by rfl, ?_⟩) hHeld ?_
        rotate_left
        · (intro w hSw; (try dsimp only at hSw); go_simp; try with_reducible rfl)
        try go_frame
        refine wpAnyH_takeL (i := 6) (v := ?_) rfl (by kernel_rfl) (by kernel_rfl) (by kernel_rfl) (fun _ _ _ h => h) (Or.inl ⟨by rfl, ?_⟩) hHeld ?_
        rotate_left
        · (intro w hSw; (try dsimp only at hSw); go_simp; try with_reducible rfl)
        try go_frame
        refine wpAnyH_ready (rs := [7]) (by kernel_rfl) (by simp) ?_
        refine consL rfl (fun K hK => ?_) AllReadyH.nil
        have q7y := kn.y1
        have f7y := kn.fy 1
        go_simp
        have ks := kn.mask (IntKind.i64.wrap (M + zn))
        clear q7y f7y
        refine hK.out _ _ (ks.ltY) (fun hHeld => ?_)
        clear hK K
        try go_frame
        refine wpAnyH_done (by kernel_rfl) ?_ _
        generalize w8.setCell ⟨Y, 1, none⟩ (.int .i64 (IntKind.i64.wrap (M + zn))) = w9 at ks ⊢
        rw [HWR.out] at ks
        have ey0 := ks.y0
        have ey1 := ks.y1
        have ezY := ks.ltY
        obtain ⟨ev0, ec0⟩ := ks.x0
        obtain ⟨ev1, ec1⟩ := ks.x1
        have ef0 := ks.fx 0
        have ef1 := ks.fx 1
        have exy := ks.nxy
        have HEND : Hid (DrSt w _ R a len cap _ X Y g n c (M + zn) L) := ks
        go_wp2
        refine bodyPost_ret (v := .agg #[.slice (some ⟨g, 0, none⟩) n c, .int .i64 (M + zn)]) (by simp [results, Try.results53, go_sem, ec0, ec1]) rfl ?_
        exact HEND.out.done (by omega) HFl.out (WalkArith.wf_i64 (by omega)) (by omega) _ _
      · go_simp
        have kc : Below wd.heap.size wd (wd.alloc (.cells ((([1, -1, 65536] : List Int).map (Value.int .i64)).toArray) 3)) := (Below.refl _ _).alloc (Nat.le_refl _) _
        have kb := k0.below kc
        have cb := ints_new wd 3 [1, -1, 65536] Nx (by intro s hs; simp only [List.mem_cons, List.not_mem_nil, or_false] at hs; rcases hs with rfl | rfl | rfl <;> (unfold Nx; decide))
        have bR : wd.heap.size ≠ R := by have := k0.rd.lt; omega
        have bl : wd.heap.size < (wd.alloc (.cells ((([1, -1, 65536] : List Int).map (Value.int .i64)).toArray) 3)).heap.size := by simp
        simp only [List.map_cons, List.map_nil] at kc kb cb bl
        generalize wd.heap.size = gb at cb bR bl ⊢
        generalize wd.alloc (.cells #[.int .i64 1, .int .i64 (-1), .int .i64 65536] 3) = wb at kb cb bl ⊢
        refine hK.out _ _ (kb.ltY) (fun hHeld => ?_)
        clear hK K
        try go_frame
        refine wpAnyH_ready (rs := [1, 4]) (by kernel_rfl) (by simp) ?_
        refine consL rfl (fun K hK => ?_) (consL rfl (fun K hK => ?_) AllReadyH.nil)
        · have q1y := kb.y1
          go_simp
          clear q1y
          refine hK.out _ _ (kb.ltY) (fun hHeld => ?_)
          clear hK K
          try go_frame
          refine wpAnyH_ready (rs := [4]) (by kernel_rfl) (by simp) ?_
          refine consL rfl (fun K hK => ?_) AllReadyH.nil
          go_simp
          refine (num_any Nx R _ a len cap gb 0 3 3 _ kb.rd (by omega) (by omega) (by omega) bR bl cb).mono ?_
          rintro e w8 ⟨zn, rfl, hzn, R8, g8⟩
          have kn := kb.read g8 R8
          obtain ⟨hz1n, hz2n⟩ := hzn
          have HWR : Hid (IntKind.i64.wrap (M + zn) = M + zn) := by unfold Hid; simp [IntKind.wrap, IntKind.bits, IntKind.signed]; omega
          go_wp2_with fail
          refine hK.out _ _ (kn.ltY) (fun hHeld => ?_)
          clear hK K
          try go_frame
          refine wpAnyH_takeL (i := 5) (v := ?_) rfl (by kernel_rfl) (by kernel_rfl) (by kernel_rfl) (fun _ _ _ h => h) (Or.inl ⟨by rfl, ?_⟩) hHeld ?_
          rotate_left
          · (intro w hSw; (try dsimp only at hSw); go_simp; try with_reducible rfl)
          try go_frame
          refine wpAnyH_takeL (i := 6) (v := ?_) rfl (by kernel_rfl) (by kernel_rfl) (by kernel_rfl) (fun _ _ _ h => h) (Or.inl ⟨by rfl, ?_⟩) hHeld ?_
          rotate_left
          · (intro w hSw; (try dsimp only at hSw); go_simp; try with_reducible rfl)
          try go_frame
          refine wpAnyH_ready (rs := [7]) (by kernel_rfl) (by simp) ?_
          refine consL rfl (fun K hK => ?_) AllReadyH.nil
          have q7y := kn.y1
          have f7y := kn.fy 1
          go_simp
          have ks := kn.mask (IntKind.i64.wrap (M + zn))
          clear q7y f7y
          refine hK.out _ _ (ks.ltY) (fun hHeld => ?_)
          clear hK K
          try go_frame
          refine wpAnyH_done (by kernel_rfl) ?_ _
          generalize w8.setCell ⟨Y, 1, none⟩ (.int .i64 (IntKind.i64.wrap (M + zn))) = w9 at ks ⊢
          rw [HWR.out] at ks
          have ey0 := ks.y0
          have ey1 := ks.y1
          have ezY := ks.ltY
          obtain ⟨ev0, ec0⟩ := ks.x0
          obtain ⟨ev1, ec1⟩ := ks.x1
          have ef0 := ks.fx 0
          have ef1 := ks.fx 1
          have exy := ks.nxy
          have HEND : Hid (DrSt w _ R a len cap _ X Y g n c (M + zn) L) := ks
          go_wp2
          refine bodyPost_ret (v := .agg #[.slice (some ⟨g, 0, none⟩) n c, .int .i64 (M + zn)]) (by simp [results, Try.results53, go_sem, ec0, ec1]) rfl ?_
          exact HEND.out.done (by omega) HFl.out (WalkArith.wf_i64 (by omega)) (by omega) _ _
        · go_simp
          refine (num_any Nx R _ a len cap gb 0 3 3 _ kb.rd (by omega) (by omega) (by omega) bR bl cb).mono ?_
          rintro e w8 ⟨zn, rfl, hzn, R8, g8⟩
          have kn := kb.read g8 R8
          obtain ⟨hz1n, hz2n⟩ := hzn
          have HWR : Hid (IntKind.i64.wrap (M + zn) = M + zn) := by unfold Hid; simp [IntKind.wrap, IntKind.bits, IntKind.signed]; omega
          go_wp2_with fail
          refine hK.out _ _ (kn.ltY) (fun hHeld => ?_)
          clear hK K
          try go_frame
          refine wpAnyH_ready (rs := [1]) (by kernel_rfl) (by simp) ?_
          refine consL rfl (fun K hK => ?_) AllReadyH.nil
          have q1y := kn.y1
          go_simp
          clear q1y
          refine hK.out _ _ (kn.ltY) (fun hHeld => ?_)
          clear hK K
          try go_frame
          refine wpAnyH_takeL (i := 5) (v := ?_) rfl (by kernel_rfl) (by kernel_rfl) (by kernel_rfl) (fun _ _ _ h => h) (Or.inl ⟨by rfl, ?_⟩) hHeld ?_
          rotate_left
          · (intro w hSw; (try dsimp only at hSw); go_simp; try with_reducible rfl)
          try go_frame
          refine wpAnyH_takeL (i := 6) (v := ?_) rfl (by kernel_rfl) (by kernel_rfl) (by kernel_rfl) (fun _ _ _ h => h) (Or.inl ⟨by rfl, ?_⟩) hHeld ?_
          rotate_left
          · (intro w hSw; (try dsimp only at hSw); go_simp; try with_reducible rfl)
          try go_frame
          refine wpAnyH_ready (rs := [7]) (by kernel_rfl) (by simp) ?_
          refine consL rfl (fun K hK => ?_) AllReadyH.nil
          have q7y := kn.y1
          have f7y := kn.fy 1
          go_simp
          have ks := kn.mask (IntKind.i64.wrap (M + zn))
          clear q7y f7y
          refine hK.out _ _ (ks.ltY) (fun hHeld => ?_)
          clear hK K
          try go_frame
          refine wpAnyH_done (by kernel_rfl) ?_ _
          generalize w8.setCell ⟨Y, 1, none⟩ (.int .i64 (IntKind.i64.wrap (M + zn))) = w9 at ks ⊢
          rw [HWR.out] at ks
          have ey0 := ks.y0
          have ey1 := ks.y1
          have ezY := ks.ltY
          obtain ⟨ev0, ec0⟩ := ks.x0
          obtain ⟨ev1, ec1⟩ := ks.x1
          have ef0 := ks.fx 0
          have ef1 := ks.fx 1
          have exy := ks.nxy
          have HEND : Hid (DrSt w _ R a len cap _ X Y g n c (M + zn) L) := ks
          go_wp2
          refine bodyPost_ret (v := .agg #[.slice (some ⟨g, 0, none⟩) n c, .int .i64 (M + zn)]) (by simp [results, Try.results53, go_sem, ec0, ec1]) rfl ?_
          exact HEND.out.done (by omega) HFl.out (WalkArith.wf_i64 (by omega)) (by omega) _ _
    by_cases z1 : z = 1
    · subst z1
      go_wp2_with fail
      have k0 := S6.out.below (Below.refl _ w6).drew
      have hn13 : True := trivial
      refine wp_region_held_drew (S := (fun w' => w'.cell? ⟨Y, 0, none⟩ = some (.slice (some ⟨g, 0, none⟩) n c) ∧ Y < w'.heap.size ∧ g < w'.heap.size)) (by kernel_rfl) (⟨k0.y0, k0.ltY, k0.own.lt.2⟩) (fun hHeld => ?_)
      generalize w6.drew = wd at k0 hHeld ⊢
      refine wpAnyH_takeL (i := 0) (v := ?_) rfl (by kernel_rfl) (by kernel_rfl) (by kernel_rfl) (fun _ _ _ h => h) (Or.inl ⟨by rfl, ?_⟩) hHeld ?_
      rotate_left
      · (intro w hSw; (try dsimp only at hSw); go_simp; try with_reducible rfl)
      try go_frame
      refine wpAnyH_takeL (i := 1) (v := ?_) rfl (by kernel_rfl) (by kernel_rfl) (by kernel_rfl) (fun _ _ _ h => h) (Or.inl ⟨by rfl, ?_⟩) hHeld ?_
      rotate_left
      · (intro w hSw; (try dsimp only at hSw); go_simp; try with_reducible rfl)
      try go_frame
      refine wpAnyH_takeL (i := 2) (v := ?_) rfl (by kernel_rfl) (by kernel_rfl) (by kernel_rfl) (fun _ _ _ h => h) (Or.inl ⟨by rfl, ?_⟩) hHeld ?_
      rotate_left
      · (intro w hSw; (try dsimp only at hSw); go_simp; try with_reducible rfl)
      try go_frame
      refine wpAnyH_takeL (i := 3) (v := ?_) rfl (by kernel_rfl) (by kernel_rfl) (by kernel_rfl) (fun _ _ _ h => h) (Or.inl ⟨by rfl, ?_⟩) hHeld ?_
      rotate_left
      · (intro w hSw; (try dsimp only at hSw); go_simp; try with_reducible rfl)
      try go_frame
      refine wpAnyH_takeL (i := 4) (v := ?_) rfl (by kernel_rfl) (by kernel_rfl) (by kernel_rfl) (fun _ _ _ h => h) (Or.inl ⟨by rfl, ?_⟩) hHeld ?_
      rotate_left
      · (intro w hSw; (try dsimp only at hSw); go_simp; try with_reducible rfl)
      try go_frame
      refine wpAnyH_takeL (i := 5) (v := ?_) rfl (by kernel_rfl) (by kernel_rfl) (by kernel_rfl) (fun _ _ _ h => h) (Or.inl ⟨by rfl, ?_⟩) hHeld ?_
      rotate_left
      · (intro w hSw; (try dsimp only at hSw); go_simp; try with_reducible rfl)
      try go_frame
      refine wpAnyH_takeL (i := 6) (v := ?_) rfl (by kernel_rfl) (by kernel_rfl) (by kernel_rfl) (fun _ _ _ h => h) (Or.inl ⟨by rfl, ?_⟩) hHeld ?_
      rotate_left
      · (intro w hSw; (try dsimp only at hSw); go_simp; try with_reducible rfl)
      try go_frame
      refine wpAnyH_takeL (i := 7) (v := ?_) rfl (by kernel_rfl) (by kernel_rfl) (by kernel_rfl) (fun _ _ _ h => h) (Or.inl ⟨by rfl, ?_⟩) hHeld ?_
      rotate_left
      · (intro w hSw; (try dsimp only at hSw); go_simp; try with_reducible rfl)
      try go_frame
      refine wpAnyH_takeL (i := 8) (v := ?_) rfl (by kernel_rfl) (by kernel_rfl) (by kernel_rfl) (fun _ _ _ h => h) (Or.inl ⟨by rfl, ?_⟩) hHeld ?_
      rotate_left
      · (intro w hSw; (try dsimp only at hSw); go_simp; try with_reducible rfl)
      try go_frame
      refine wpAnyH_takeL (i := 9) (v := ?_) rfl (by kernel_rfl) (by kernel_rfl) (by kernel_rfl) (fun _ _ _ h => h) (Or.inl ⟨by rfl, ?_⟩) hHeld ?_
      rotate_left
      · (intro w hSw; (try dsimp only at hSw); go_simp; try with_reducible rfl)
      try go_frame
      refine wpAnyH_ready (rs := [10]) (by kernel_rfl) (by simp) ?_
      refine consL rfl (fun K hK => ?_) AllReadyH.nil
      obtain ⟨es, et, eq, ed, en, hEk, e0, e1, e2, e3, e4⟩ := k0.at HFl.out hkn
      go_simp
      clear e0 e1 e2 e3 e4
      refine hK.out _ _ (⟨k0.y0, k0.ltY, k0.own.lt.2⟩) (fun hHeld => ?_)
      clear hK K
      try go_frame
      refine wpAnyH_ready (rs := [11]) (by kernel_rfl) (by simp) ?_
      refine consL rfl (fun K hK => ?_) AllReadyH.nil
      go_simp
      refine (l3Bent_any R _ a len cap _ _ _ _ _ _ k0.rd (by omega) hEk).mono ?_
      rintro e wq1 ⟨es1, et1, eq1, ed1, en1, Pq1, rfl, hE1, Rq1, hPq1, gq1⟩
      have kq1 := k0.read gq1 Rq1
      go_wp2_with fail
      refine hK.out _ _ (⟨kq1.y0, kq1.ltY, kq1.own.lt.2⟩) (fun hHeld => ?_)
      clear hK K
      try go_frame
      refine wpAnyH_ready (rs := [12]) (by kernel_rfl) (by simp) ?_
      refine consL rfl (fun K hK => ?_) AllReadyH.nil
      go_simp
      refine (l3Bent_any R _ a len cap _ _ _ _ _ _ kq1.rd (by omega) hE1).mono ?_
      rintro e wq2 ⟨es2, et2, eq2, ed2, en2, Pq2, rfl, hE2, Rq2, hPq2, gq2⟩
      have kq2 := kq1.read gq2 Rq2
      go_wp2_with fail
      refine hK.out _ _ (⟨kq2.y0, kq2.ltY, kq2.own.lt.2⟩) (fun hHeld => ?_)
      clear hK K
      try go_frame
      refine wpAnyH_ready (rs := [13]) (by kernel_rfl) (by simp) ?_
      refine consL rfl (fun K hK => ?_) AllReadyH.nil
      go_simp
      refine (l3Bent_any R _ a len cap _ _ _ _ _ _ kq2.rd (by omega) hE2).mono ?_
      rintro e wq3 ⟨es3, et3, eq3, ed3, en3, Pq3, rfl, hE3, Rq3, hPq3, gq3⟩
      have kq3 := kq2.read gq3 Rq3
      go_wp2_with fail
      refine hK.out _ _ (⟨kq3.y0, kq3.ltY, kq3.own.lt.2⟩) (fun hHeld => ?_)
      clear hK K
      try go_frame
      refine wpAnyH_takeL (i := 14) (v := ?_) rfl (by kernel_rfl) (by kernel_rfl) (by kernel_rfl) (fun _ _ _ h => h) (Or.inl ⟨by rfl, ?_⟩) hHeld ?_
      rotate_left
      · (intro w hSw; (try dsimp only at hSw); go_simp; try with_reducible rfl)
      try go_frame
      refine wpAnyH_ready (rs := [15]) (by kernel_rfl) (by simp) ?_
      refine consL rfl (fun K hK => ?_) AllReadyH.nil
      obtain ⟨x0, x1, x2, x3, x4⟩ := kq3.own.entsAt.cells _ rfl k (by rw [kq3.own.len]; exact hkn)
      simp only [Nat.zero_add] at x0 x1 x2 x3 x4
      have y0 := kq3.own.owns.frozenAt (k * 5)
      have y1 := kq3.own.owns.frozenAt (k * 5 + 1)
      have y2 := kq3.own.owns.frozenAt (k * 5 + 2)
      have y3 := kq3.own.owns.frozenAt (k * 5 + 3)
      have y4 := kq3.own.owns.frozenAt (k * 5 + 4)
      go_simp
      have ks := kq3.put hkn es3 et3 eq3 ed3 en3 (entF_w hE3)
      clear x0 x1 x2 x3 x4 y0 y1 y2 y3 y4
      refine hK.out _ _ (⟨ks.y0, ks.ltY, ks.own.lt.2⟩) (fun hHeld => ?_)
      clear hK K
      try go_frame
      refine wpAnyH_done (by kernel_rfl) ?_ _
      generalize ((((wq3.setCell ⟨g, k * 5, none⟩ (.string es3)).setCell ⟨g, k * 5 + 1, none⟩ (.int .i64 eq3)).setCell ⟨g, k * 5 + 2, none⟩ (.int .i64 ed3)).setCell ⟨g, k * 5 + 3, none⟩ (.string et3)).setCell ⟨g, k * 5 + 4, none⟩ (.int .i64 en3) = w9 at ks ⊢
      have HFs : Hid (AllF (L.set k (es3, eq3, ed3, et3, en3))) := allF_set HFl.out hE3
      have ey0 := ks.y0
      have ey1 := ks.y1
      have ezY := ks.ltY
      obtain ⟨ev0, ec0⟩ := ks.x0
      obtain ⟨ev1, ec1⟩ := ks.x1
      have ef0 := ks.fx 0
      have ef1 := ks.fx 1
      have exy := ks.nxy
      have HEND : Hid (DrSt w _ R a len cap _ X Y g n c M (L.set k (es3, eq3, ed3, et3, en3))) := ks
      go_wp2
      refine bodyPost_ret (v := .agg #[.slice (some ⟨g, 0, none⟩) n c, .int .i64 M]) (by simp [results, Try.results53, go_sem, ec0, ec1]) rfl ?_
      exact HEND.out.done (by omega) HFs.out (WalkArith.wf_i64 (by omega)) (by omega) _ _
    by_cases z2 : z = 2
    · subst z2
      go_wp2_with fail
      have k0 := S6.out.below (Below.refl _ w6).drew
      have hn13 : True := trivial
      refine wp_region_held_drew (S := (fun w' => Y < w'.heap.size)) (by kernel_rfl) (k0.ltY) (fun hHeld => ?_)
      generalize w6.drew = wd at k0 hHeld ⊢
      refine wpAnyH_takeL (i := 0) (v := ?_) rfl (by kernel_rfl) (by kernel_rfl) (by kernel_rfl) (fun _ _ _ h => h) (Or.inl ⟨by rfl, ?_⟩) hHeld ?_
      rotate_left
      · (intro w hSw; (try dsimp only at hSw); go_simp; try with_reducible rfl)
      try go_frame
      refine wpAnyH_takeL (i := 2) (v := ?_) rfl (by kernel_rfl) (by kernel_rfl) (by kernel_rfl) (fun _ _ _ h => h) (Or.inl ⟨by rfl, ?_⟩) hHeld ?_
      rotate_left
      · (intro w hSw; (try dsimp only at hSw); go_simp; try with_reducible rfl)
      try go_frame
      refine wpAnyH_takeL (i := 4) (v := ?_) rfl (by kernel_rfl) (by kernel_rfl) (by kernel_rfl) (fun _ _ _ h => h) (Or.inl ⟨by rfl, ?_⟩) hHeld ?_
      rotate_left
      · (intro w hSw; (try dsimp only at hSw); go_simp; try with_reducible rfl)
      try go_frame
      refine wpAnyH_ready (rs := [1, 3]) (by kernel_rfl) (by simp) ?_
      refine consL rfl (fun K hK => ?_) (consL rfl (fun K hK => ?_) AllReadyH.nil)
      · have q0y := k0.y0
        go_simp
        clear q0y
        refine hK.out _ _ (k0.ltY) (fun hHeld => ?_)
        clear hK K
        try go_frame
        refine wpAnyH_ready (rs := [3]) (by kernel_rfl) (by simp) ?_
        refine consL rfl (fun K hK => ?_) AllReadyH.nil
        have q0y := k0.y0
        go_simp
        clear q0y
        refine hK.out _ _ (k0.ltY) (fun hHeld => ?_)
        clear hK K
        try go_frame
        refine wpAnyH_takeL (i := 5) (v := ?_) rfl (by kernel_rfl) (by kernel_rfl) (by kernel_rfl) (fun _ _ _ h => h) (Or.inl ⟨by rfl, ?_⟩) hHeld ?_
        rotate_left
        · (intro w hSw; (try dsimp only at hSw); go_simp; try with_reducible rfl)
        try go_frame
        refine wpAnyH_ready (rs := [6]) (by kernel_rfl) (by simp) ?_
        refine consL rfl (fun K hK => ?_) AllReadyH.nil
        obtain ⟨es, et, eq, ed, en, hEk, e0, e1, e2, e3, e4⟩ := k0.at HFl.out hkn
        go_simp
        clear e0 e1 e2 e3 e4
        refine hK.out _ _ (k0.ltY) (fun hHeld => ?_)
        clear hK K
        try go_frame
        refine wpAnyH_ready (rs := [7]) (by kernel_rfl) (by simp) ?_
        refine consL rfl (fun K hK => ?_) AllReadyH.nil
        go_simp
        have kc : Below wd.heap.size wd (wd.alloc (.cells #[.string es, .int .i64 eq, .int .i64 ed, .string et, .int .i64 en] 31)) := (Below.refl _ _).alloc (Nat.le_refl _) _
        have kb := k0.below kc
        have rN : EntsAt (wd.alloc (.cells #[.string es, .int .i64 eq, .int .i64 ed, .string et, .int .i64 en] 31)) (some ⟨wd.heap.size, 0, none⟩) 1 1 [(es, eq, ed, et, en)] := ents_one wd _ _ _ _ _ (entF_w hEk)
        generalize wd.heap.size = gb at rN ⊢
        generalize wd.alloc (.cells #[.string es, .int .i64 eq, .int .i64 ed, .string et, .int .i64 en] 31) = wb at kb rN ⊢
        refine hK.out _ _ (kb.ltY) (fun hHeld => ?_)
        clear hK K
        try go_frame
        refine wpAnyH_ready (rs := [8]) (by kernel_rfl) (by simp) ?_
        refine consL rfl (fun K hK => ?_) AllReadyH.nil
        refine step_append_own rfl (.tmp 50) (.tmp 56) 23 rfl g 31 i0 _ 5 56 Try.underlying23 hi hz0 hz1 hz2 rfl (Nat.succ_pos 4) _ _ _ rfl kb.own.rebase.owns ⟨gb, 0, none⟩ 1 1 (flatE [(es, eq, ed, et, en)]) rfl rfl (ents_news rN) (flatE_one _) ?_ ?_ ?_ ?_
        · unfold maxLen; omega
        · omega
        · exact Nat.le_of_lt kb.own.lt.2
        intro v8 w8 ho8 hg8 hn8
        obtain ⟨g8, c8, rfl⟩ := row_some ho8 hn8
        have hg8' : wb.grownBy w8 (some g) := hg8
        refine hK.out _ _ (Nat.lt_of_lt_of_le kb.ltY hg8.size) (fun hHeld => ?_)
        clear hK K
        try go_frame
        refine wpAnyH_takeL (i := 9) (v := ?_) rfl (by kernel_rfl) (by kernel_rfl) (by kernel_rfl) (fun _ _ _ h => h) (Or.inl ⟨by rfl, ?_⟩) hHeld ?_
        rotate_left
        · (intro w hSw; (try dsimp only at hSw); go_simp; try with_reducible rfl)
        try go_frame
        refine wpAnyH_ready (rs := [10]) (by kernel_rfl) (by simp) ?_
        refine consL rfl (fun K hK => ?_) AllReadyH.nil
        have hO8 : OwnE w8 g g8 (n + 1) c8 (L ++ [(es, eq, ed, et, en)]) := ⟨by rw [flatE_append]; exact ho8, by simp [kb.own.len], allF_w (allF_app HFl.out (allF_one hEk))⟩
        have ks := kb.grewTo hg8' hO8 (by omega)
        have q0y := (grown_cell hg8' (x := ⟨Y, 0, none⟩) kb.ltY (Ne.symm kb.ngy)).trans kb.y0
        have f0y := (grown_frozen hg8' (x := ⟨Y, 0, none⟩) kb.ltY (fun e => kb.ngy (by cases e; rfl))).trans (kb.fy 0)
        go_simp
        clear q0y f0y
        refine hK.out _ _ (ks.ltY) (fun hHeld => ?_)
        clear hK K
        try go_frame
        refine wpAnyH_done (by kernel_rfl) ?_ _
        generalize w8.setCell ⟨Y, 0, none⟩ (.slice (some ⟨g8, 0, none⟩) (n + 1) c8) = w9 at ks ⊢
        have HFs : Hid (AllF (L ++ [(es, eq, ed, et, en)])) := allF_app HFl.out (allF_one hEk)
        have ey0 := ks.y0
        have ey1 := ks.y1
        have ezY := ks.ltY
        obtain ⟨ev0, ec0⟩ := ks.x0
        obtain ⟨ev1, ec1⟩ := ks.x1
        have ef0 := ks.fx 0
        have ef1 := ks.fx 1
        have exy := ks.nxy
        have HEND : Hid (DrSt w _ R a len cap _ X Y g8 (n + 1) c8 M (L ++ [(es, eq, ed, et, en)])) := ks
        go_wp2
        refine bodyPost_ret (v := .agg #[.slice (some ⟨g8, 0, none⟩) (n + 1) c8, .int .i64 M]) (by simp [results, Try.results53, go_sem, ec0, ec1]) rfl ?_
        exact HEND.out.done (by omega) HFs.out (WalkArith.wf_i64 (by omega)) (by omega) _ _
      · have q0y := k0.y0
        go_simp
        clear q0y
        refine hK.out _ _ (k0.ltY) (fun hHeld => ?_)
        clear hK K
        try go_frame
        refine wpAnyH_takeL (i := 5) (v := ?_) rfl (by kernel_rfl) (by kernel_rfl) (by kernel_rfl) (fun _ _ _ h => h) (Or.inl ⟨by rfl, ?_⟩) hHeld ?_
        rotate_left
        · (intro w hSw; (try dsimp only at hSw); go_simp; try with_reducible rfl)
        try go_frame
        refine wpAnyH_ready (rs := [1, 6]) (by kernel_rfl) (by simp) ?_
        refine consL rfl (fun K hK => ?_) (consL rfl (fun K hK => ?_) AllReadyH.nil)
        · have q0y := k0.y0
          go_simp
          clear q0y
          refine hK.out _ _ (k0.ltY) (fun hHeld => ?_)
          clear hK K
          try go_frame
          refine wpAnyH_ready (rs := [6]) (by kernel_rfl) (by simp) ?_
          refine consL rfl (fun K hK => ?_) AllReadyH.nil
          obtain ⟨es, et, eq, ed, en, hEk, e0, e1, e2, e3, e4⟩ := k0.at HFl.out hkn
          go_simp
          clear e0 e1 e2 e3 e4
          refine hK.out _ _ (k0.ltY) (fun hHeld => ?_)
          clear hK K
          try go_frame
          refine wpAnyH_ready (rs := [7]) (by kernel_rfl) (by simp) ?_
          refine consL rfl (fun K hK => ?_) AllReadyH.nil
          go_simp
          have kc : Below wd.heap.size wd (wd.alloc (.cells #[.string es, .int .i64 eq, .int .i64 ed, .string et, .int .i64 en] 31)) := (Below.refl _ _).alloc (Nat.le_refl _) _
          have kb := k0.below kc
          have rN : EntsAt (wd.alloc (.cells #[.string es, .int .i64 eq, .int .i64 ed, .string et, .int .i64 en] 31)) (some ⟨wd.heap.size, 0, none⟩) 1 1 [(es, eq, ed, et, en)] := ents_one wd _ _ _ _ _ (entF_w hEk)
          generalize wd.heap.size = gb at rN ⊢
          generalize wd.alloc (.cells #[.string es, .int .i64 eq, .int .i64 ed, .string et, .int .i64 en] 31) = wb at kb rN ⊢
          refine hK.out _ _ (kb.ltY) (fun hHeld => ?_)
          clear hK K
          try go_frame
          refine wpAnyH_ready (rs := [8]) (by kernel_rfl) (by simp) ?_
          refine consL rfl (fun K hK => ?_) AllReadyH.nil
          refine step_append_own rfl (.tmp 50) (.tmp 56) 23 rfl g 31 i0 _ 5 56 Try.underlying23 hi hz0 hz1 hz2 rfl (Nat.succ_pos 4) _ _ _ rfl kb.own.rebase.owns ⟨gb, 0, none⟩ 1 1 (flatE [(es, eq, ed, et, en)]) rfl rfl (ents_news rN) (flatE_one _) ?_ ?_ ?_ ?_
          · unfold maxLen; omega
          · omega
          · exact Nat.le_of_lt kb.own.lt.2
          intro v8 w8 ho8 hg8 hn8
          obtain ⟨g8, c8, rfl⟩ := row_some ho8 hn8
          have hg8' : wb.grownBy w8 (some g) := hg8
          refine hK.out _ _ (Nat.lt_of_lt_of_le kb.ltY hg8.size) (fun hHeld => ?_)
          clear hK K
          try go_frame
          refine wpAnyH_takeL (i := 9) (v := ?_) rfl (by kernel_rfl) (by kernel_rfl) (by kernel_rfl) (fun _ _ _ h => h) (Or.inl ⟨by rfl, ?_⟩) hHeld ?_
          rotate_left
          · (intro w hSw; (try dsimp only at hSw); go_simp; try with_reducible rfl)
          try go_frame
          refine wpAnyH_ready (rs := [10]) (by kernel_rfl) (by simp) ?_
          refine consL rfl (fun K hK => ?_) AllReadyH.nil
          have hO8 : OwnE w8 g g8 (n + 1) c8 (L ++ [(es, eq, ed, et, en)]) := ⟨by rw [flatE_append]; exact ho8, by simp [kb.own.len], allF_w (allF_app HFl.out (allF_one hEk))⟩
          have ks := kb.grewTo hg8' hO8 (by omega)
          have q0y := (grown_cell hg8' (x := ⟨Y, 0, none⟩) kb.ltY (Ne.symm kb.ngy)).trans kb.y0
          have f0y := (grown_frozen hg8' (x := ⟨Y, 0, none⟩) kb.ltY (fun e => kb.ngy (by cases e; rfl))).trans (kb.fy 0)
          go_simp
          clear q0y f0y
          refine hK.out _ _ (ks.ltY) (fun hHeld => ?_)
          clear hK K
          try go_frame
          refine wpAnyH_done (by kernel_rfl) ?_ _
          generalize w8.setCell ⟨Y, 0, none⟩ (.slice (some ⟨g8, 0, none⟩) (n + 1) c8) = w9 at ks ⊢
          have HFs : Hid (AllF (L ++ [(es, eq, ed, et, en)])) := allF_app HFl.out (allF_one hEk)
          have ey0 := ks.y0
          have ey1 := ks.y1
          have ezY := ks.ltY
          obtain ⟨ev0, ec0⟩ := ks.x0
          obtain ⟨ev1, ec1⟩ := ks.x1
          have ef0 := ks.fx 0
          have ef1 := ks.fx 1
          have exy := ks.nxy
          have HEND : Hid (DrSt w _ R a len cap _ X Y g8 (n + 1) c8 M (L ++ [(es, eq, ed, et, en)])) := ks
          go_wp2
          refine bodyPost_ret (v := .agg #[.slice (some ⟨g8, 0, none⟩) (n + 1) c8, .int .i64 M]) (by simp [results, Try.results53, go_sem, ec0, ec1]) rfl ?_
          exact HEND.out.done (by omega) HFs.out (WalkArith.wf_i64 (by omega)) (by omega) _ _
        · obtain ⟨es, et, eq, ed, en, hEk, e0, e1, e2, e3, e4⟩ := k0.at HFl.out hkn
          go_simp
          clear e0 e1 e2 e3 e4
          refine hK.out _ _ (k0.ltY) (fun hHeld => ?_)
          clear hK K
          try go_frame
          refine wpAnyH_ready (rs := [1, 7]) (by kernel_rfl) (by simp) ?_
          refine consL rfl (fun K hK => ?_) (consL rfl (fun K hK => ?_) AllReadyH.nil)
          · have q0y := k0.y0
            go_simp
            clear q0y
            refine hK.out _ _ (k0.ltY) (fun hHeld => ?_)
            clear hK K
            try go_frame
            refine wpAnyH_ready (rs := [7]) (by kernel_rfl) (by simp) ?_
            refine consL rfl (fun K hK => ?_) AllReadyH.nil
            go_simp
            have kc : Below wd.heap.size wd (wd.alloc (.cells #[.string es, .int .i64 eq, .int .i64 ed, .string et, .int .i64 en] 31)) := (Below.refl _ _).alloc (Nat.le_refl _) _
            have kb := k0.below kc
            have rN : EntsAt (wd.alloc (.cells #[.string es, .int .i64 eq, .int .i64 ed, .string et, .int .i64 en] 31)) (some ⟨wd.heap.size, 0, none⟩) 1 1 [(es, eq, ed, et, en)] := ents_one wd _ _ _ _ _ (entF_w hEk)
            generalize wd.heap.size = gb at rN ⊢
            generalize wd.alloc (.cells #[.string es, .int .i64 eq, .int .i64 ed, .string et, .int .i64 en] 31) = wb at kb rN ⊢
            refine hK.out _ _ (kb.ltY) (fun hHeld => ?_)
            clear hK K
            try go_frame
            refine wpAnyH_ready (rs := [8]) (by kernel_rfl) (by simp) ?_
            refine consL rfl (fun K hK => ?_) AllReadyH.nil
            refine step_append_own rfl (.tmp 50) (.tmp 56) 23 rfl g 31 i0 _ 5 56 Try.underlying23 hi hz0 hz1 hz2 rfl (Nat.succ_pos 4) _ _ _ rfl kb.own.rebase.owns ⟨gb, 0, none⟩ 1 1 (flatE [(es, eq, ed, et, en)]) rfl rfl (ents_news rN) (flatE_one _) ?_ ?_ ?_ ?_
            · unfold maxLen; omega
            · omega
            · exact Nat.le_of_lt kb.own.lt.2
            intro v8 w8 ho8 hg8 hn8
            obtain ⟨g8, c8, rfl⟩ := row_some ho8 hn8
            have hg8' : wb.grownBy w8 (some g) := hg8
            refine hK.out _ _ (Nat.lt_of_lt_of_le kb.ltY hg8.size) (fun hHeld => ?_)
            clear hK K
            try go_frame
            refine wpAnyH_takeL (i := 9) (v := ?_) rfl (by kernel_rfl) (by kernel_rfl) (by kernel_rfl) (fun _ _ _ h => h) (Or.inl ⟨by rfl, ?_⟩) hHeld ?_
            rotate_left
            · (intro w hSw; (try dsimp only at hSw); go_simp; try with_reducible rfl)
            try go_frame
            refine wpAnyH_ready (rs := [10]) (by kernel_rfl) (by simp) ?_
            refine consL rfl (fun K hK => ?_) AllReadyH.nil
            have hO8 : OwnE w8 g g8 (n + 1) c8 (L ++ [(es, eq, ed, et, en)]) := ⟨by rw [flatE_append]; exact ho8, by simp [kb.own.len], allF_w (allF_app HFl.out (allF_one hEk))⟩
            have ks := kb.grewTo hg8' hO8 (by omega)
            have q0y := (grown_cell hg8' (x := ⟨Y, 0, none⟩) kb.ltY (Ne.symm kb.ngy)).trans kb.y0
            have f0y := (grown_frozen hg8' (x := ⟨Y, 0, none⟩) kb.ltY (fun e => kb.ngy (by cases e; rfl))).trans (kb.fy 0)
            go_simp
            clear q0y f0y
            refine hK.out _ _ (ks.ltY) (fun hHeld => ?_)
            clear hK K
            try go_frame
            refine wpAnyH_done (by kernel_rfl) ?_ _
            generalize w8.setCell ⟨Y, 0, none⟩ (.slice (some ⟨g8, 0, none⟩) (n + 1) c8) = w9 at ks ⊢
            have HFs : Hid (AllF (L ++ [(es, eq, ed, et, en)])) := allF_app HFl.out (allF_one hEk)
            have ey0 := ks.y0
            have ey1 := ks.y1
            have ezY := ks.ltY
            obtain ⟨ev0, ec0⟩ := ks.x0
            obtain ⟨ev1, ec1⟩ := ks.x1
            have ef0 := ks.fx 0
            have ef1 := ks.fx 1
            have exy := ks.nxy
            have HEND : Hid (DrSt w _ R a len cap _ X Y g8 (n + 1) c8 M (L ++ [(es, eq, ed, et, en)])) := ks
            go_wp2
            refine bodyPost_ret (v := .agg #[.slice (some ⟨g8, 0, none⟩) (n + 1) c8, .int .i64 M]) (by simp [results, Try.results53, go_sem, ec0, ec1]) rfl ?_
            exact HEND.out.done (by omega) HFs.out (WalkArith.wf_i64 (by omega)) (by omega) _ _
          · go_simp
            have kc : Below wd.heap.size wd (wd.alloc (.cells #[.string es, .int .i64 eq, .int .i64 ed, .string et, .int .i64 en] 31)) := (Below.refl _ _).alloc (Nat.le_refl _) _
            have kb := k0.below kc
            have rN : EntsAt (wd.alloc (.cells #[.string es, .int .i64 eq, .int .i64 ed, .string et, .int .i64 en] 31)) (some ⟨wd.heap.size, 0, none⟩) 1 1 [(es, eq, ed, et, en)] := ents_one wd _ _ _ _ _ (entF_w hEk)
            generalize wd.heap.size = gb at rN ⊢
            generalize wd.alloc (.cells #[.string es, .int .i64 eq, .int .i64 ed, .string et, .int .i64 en] 31) = wb at kb rN ⊢
            refine hK.out _ _ (kb.ltY) (fun hHeld => ?_)
            clear hK K
            try go_frame
            refine wpAnyH_ready (rs := [1]) (by kernel_rfl) (by simp) ?_
            refine consL rfl (fun K hK => ?_) AllReadyH.nil
            have q0y := kb.y0
            go_simp
            clear q0y
            refine hK.out _ _ (kb.ltY) (fun hHeld => ?_)
            clear hK K
            try go_frame
            refine wpAnyH_ready (rs := [8]) (by kernel_rfl) (by simp) ?_
            refine consL rfl (fun K hK => ?_) AllReadyH.nil
            refine step_append_own rfl (.tmp 50) (.tmp 56) 23 rfl g 31 i0 _ 5 56 Try.underlying23 hi hz0 hz1 hz2 rfl (Nat.succ_pos 4) _ _ _ rfl kb.own.rebase.owns ⟨gb, 0, none⟩ 1 1 (flatE [(es, eq, ed, et, en)]) rfl rfl (ents_news rN) (flatE_one _) ?_ ?_ ?_ ?_
            · unfold maxLen; omega
            · omega
            · exact Nat.le_of_lt kb.own.lt.2
            intro v8 w8 ho8 hg8 hn8
            obtain ⟨g8, c8, rfl⟩ := row_some ho8 hn8
            have hg8' : wb.grownBy w8 (some g) := hg8
            refine hK.out _ _ (Nat.lt_of_lt_of_le kb.ltY hg8.size) (fun hHeld => ?_)
            clear hK K
            try go_frame
            refine wpAnyH_takeL (i := 9) (v := ?_) rfl (by kernel_rfl) (by kernel_rfl) (by kernel_rfl) (fun _ _ _ h => h) (Or.inl ⟨by rfl, ?_⟩) hHeld ?_
            rotate_left
            · (intro w hSw; (try dsimp only at hSw); go_simp; try with_reducible rfl)
            try go_frame
            refine wpAnyH_ready (rs := [10]) (by kernel_rfl) (by simp) ?_
            refine consL rfl (fun K hK => ?_) AllReadyH.nil
            have hO8 : OwnE w8 g g8 (n + 1) c8 (L ++ [(es, eq, ed, et, en)]) := ⟨by rw [flatE_append]; exact ho8, by simp [kb.own.len], allF_w (allF_app HFl.out (allF_one hEk))⟩
            have ks := kb.grewTo hg8' hO8 (by omega)
            have q0y := (grown_cell hg8' (x := ⟨Y, 0, none⟩) kb.ltY (Ne.symm kb.ngy)).trans kb.y0
            have f0y := (grown_frozen hg8' (x := ⟨Y, 0, none⟩) kb.ltY (fun e => kb.ngy (by cases e; rfl))).trans (kb.fy 0)
            go_simp
            clear q0y f0y
            refine hK.out _ _ (ks.ltY) (fun hHeld => ?_)
            clear hK K
            try go_frame
            refine wpAnyH_done (by kernel_rfl) ?_ _
            generalize w8.setCell ⟨Y, 0, none⟩ (.slice (some ⟨g8, 0, none⟩) (n + 1) c8) = w9 at ks ⊢
            have HFs : Hid (AllF (L ++ [(es, eq, ed, et, en)])) := allF_app HFl.out (allF_one hEk)
            have ey0 := ks.y0
            have ey1 := ks.y1
            have ezY := ks.ltY
            obtain ⟨ev0, ec0⟩ := ks.x0
            obtain ⟨ev1, ec1⟩ := ks.x1
            have ef0 := ks.fx 0
            have ef1 := ks.fx 1
            have exy := ks.nxy
            have HEND : Hid (DrSt w _ R a len cap _ X Y g8 (n + 1) c8 M (L ++ [(es, eq, ed, et, en)])) := ks
            go_wp2
            refine bodyPost_ret (v := .agg #[.slice (some ⟨g8, 0, none⟩) (n + 1) c8, .int .i64 M]) (by simp [results, Try.results53, go_sem, ec0, ec1]) rfl ?_
            exact HEND.out.done (by omega) HFs.out (WalkArith.wf_i64 (by omega)) (by omega) _ _
    by_cases z3 : z = 3
    · subst z3
      have k0 := (S6.out.below ((Below.refl w6.heap.size w6).alloc (Nat.le_refl _) (.cells #[] 31)))
      have oE : OwnE (w6.alloc (.cells #[] 31)) w.heap.size w6.heap.size 0 0 [] := own_empty w6 _ S6.out.gr.size
      have ks := k0.ents oE S6.out.ltX (by have := S6.out.ltY; omega)
      have q6y := S6.out.y0
      have f6y := S6.out.fy 0
      have q6z := S6.out.ltY
      rw [World.setCell_alloc_past _ _ _ _ q6z] at ks
      clear k0 oE
      go_upto_region 17 with fail
      clear q6y f6y q6z S6
      generalize w6.heap.size = g9 at ks ⊢
      generalize (w6.setCell ⟨Y, 0, none⟩ (.slice (some ⟨g9, 0, none⟩) 0 0)).alloc (.cells #[] 31) = w9 at ks ⊢
      have ey0 := ks.y0
      have ey1 := ks.y1
      have ezY := ks.ltY
      obtain ⟨ev0, ec0⟩ := ks.x0
      obtain ⟨ev1, ec1⟩ := ks.x1
      have ef0 := ks.fx 0
      have ef1 := ks.fx 1
      have exy := ks.nxy
      have HEND : Hid (DrSt w _ R a len cap _ X Y g9 0 0 M []) := ks
      go_wp2
      refine bodyPost_ret (v := .agg #[.slice (some ⟨g9, 0, none⟩) 0 0, .int .i64 M]) (by simp [results, Try.results53, go_sem, ec0, ec1]) rfl ?_
      exact HEND.out.done (by omega) (fun e he => by cases he) (WalkArith.wf_i64 (by omega)) (by omega) _ _
    by_cases z4 : z = 4
    · subst z4
      have ks := S6.out.mask 65535
      have q6y := S6.out.y0
      have q61 := S6.out.y1
      have f6y := S6.out.fy 1
      have q6z := S6.out.ltY
      have q6x := S6.out.ltX
      obtain ⟨ew0, ed0⟩ := S6.out.x0
      obtain ⟨ew1, ed1⟩ := S6.out.x1
      have eg0 := S6.out.fx 0
      have eg1 := S6.out.fx 1
      have exy := S6.out.nxy
      have HEND : Hid (DrSt w _ R a len cap _ X Y g n c 65535 L) := ks
      clear ks
      go_wp2
      refine bodyPost_ret (v := .agg #[.slice (some ⟨g, 0, none⟩) n c, .int .i64 65535]) (by simp [results, Try.results53, go_sem, ed0, ed1]) rfl ?_
      exact HEND.out.done (by omega) HFl.out (WalkArith.wf_i64 (by omega)) (by omega) _ _
    have k6 := S6.out
    have ey0 := k6.y0
    have ey1 := k6.y1
    have ezY := k6.ltY
    obtain ⟨ev0, ec0⟩ := k6.x0
    obtain ⟨ev1, ec1⟩ := k6.x1
    have ef0 := k6.fx 0
    have ef1 := k6.fx 1
    have exy := k6.nxy
    have HEND : Hid (DrSt w _ R a len cap _ X Y g n c M L) := k6
    go_wp2
    refine bodyPost_ret (v := .agg #[.slice (some ⟨g, 0, none⟩) n c, .int .i64 M]) (by simp [results, Try.results53, go_sem, ec0, ec1]) rfl ?_
    exact HEND.out.done (by omega) HFl.out (WalkArith.wf_i64 (by omega)) (by omega) _ _
end Go.Proofs.Ytkhnknpacdmikaa

namespace Go.Proofs.Ytkhnknpacdmikaa
open Go.RowKit

structure MySt (w wi : World) (R : Nat) (a : Option Addr) (len cap P X Y g n c : Nat) (m : Int) (L : List EntD) : Prop where
  all : Below w.heap.size w wi
  rd : RdAt wi R a len cap P
  x0 : ∃ v, wi.cell? ⟨X, 0, none⟩ = some v
  x1 : ∃ v, wi.cell? ⟨X, 1, none⟩ = some v
  fx : ∀ o, wi.frozen? ⟨X, o, none⟩ = false
  y0 : wi.cell? ⟨Y, 0, none⟩ = some (.slice (some ⟨g, 0, none⟩) n c)
  y1 : wi.cell? ⟨Y, 1, none⟩ = some (.int .i64 m)
  own : OwnE wi w.heap.size g n c L
  hx : w.heap.size ≤ X
  hr : w.heap.size ≤ R
  nxr : X ≠ R
  nyr : Y ≠ R
  nxy : X ≠ Y
  ngr : g ≠ R
  ngx : g ≠ X
  nbx : ∀ b off, a = some ⟨b, off, none⟩ → 0 < len → b ≠ X
theorem MySt.ltX {w wi : World} {R : Nat} {a : Option Addr} {len cap P X Y g n c : Nat} {m : Int} {L : List EntD} (h : MySt w wi R a len cap P X Y g n c m L) : X < wi.heap.size := by
  obtain ⟨v, hv⟩ := h.x0
  exact World.block_lt_of_cell? _ _ hv
theorem MySt.ltY {w wi : World} {R : Nat} {a : Option Addr} {len cap P X Y g n c : Nat} {m : Int} {L : List EntD} (h : MySt w wi R a len cap P X Y g n c m L) : Y < wi.heap.size := World.block_lt_of_cell? _ _ h.y0
theorem MySt.read {w wi wj : World} {R : Nat} {a : Option Addr} {len cap P P' X Y g n c : Nat} {m : Int} {L : List EntD} (h : MySt w wi R a len cap P X Y g n c m L) (hg : wi.grownBy wj (some R)) (hr : RdAt wj R a len cap P') : MySt w wj R a len cap P' X Y g n c m L where
  all := h.all.grown hg h.all.size (fun k e => by cases e; exact h.hr)
  rd := hr
  x0 := by obtain ⟨v, hv⟩ := h.x0; exact ⟨v, (grown_cell hg (x := ⟨X, 0, none⟩) h.ltX h.nxr).trans hv⟩
  x1 := by obtain ⟨v, hv⟩ := h.x1; exact ⟨v, (grown_cell hg (x := ⟨X, 1, none⟩) h.ltX h.nxr).trans hv⟩
  fx := fun o => (grown_frozen hg (x := ⟨X, o, none⟩) h.ltX (fun e => h.nxr (by cases e; rfl))).trans (h.fx o)
  y0 := (grown_cell hg (x := ⟨Y, 0, none⟩) h.ltY h.nyr).trans h.y0
  y1 := (grown_cell hg (x := ⟨Y, 1, none⟩) h.ltY h.nyr).trans h.y1
  own := h.own.grown hg (fun e => h.ngr (by cases e; rfl))
  hx := h.hx
  hr := h.hr
  nxr := h.nxr
  nyr := h.nyr
  nxy := h.nxy
  ngr := h.ngr
  ngx := h.ngx
  nbx := h.nbx
theorem MySt.below {w wi wj : World} {R : Nat} {a : Option Addr} {len cap P X Y g n c : Nat} {m : Int} {L : List EntD} (h : MySt w wi R a len cap P X Y g n c m L) (hb : Below wi.heap.size wi wj) : MySt w wj R a len cap P X Y g n c m L := h.read (grown_below hb) (h.rd.below hb)
theorem MySt.setX {w wi : World} {R : Nat} {a : Option Addr} {len cap P X Y g n c : Nat} {m : Int} {L : List EntD} (h : MySt w wi R a len cap P X Y g n c m L) (o : Nat) (u : Value) : MySt w (wi.setCell ⟨X, o, none⟩ u) R a len cap P X Y g n c m L where
  all := h.all.setCell (p := ⟨X, o, none⟩) h.hx _
  rd := h.rd.other h.nxr h.nbx o u
  x0 := by
    obtain ⟨v, hv⟩ := h.x0
    by_cases ho : 0 = o
    · subst ho; exact ⟨u, World.cell?_setCell_same' _ _ _ (by rw [hv]; rfl)⟩
    · exact ⟨v, by rw [World.cell?_setCell_other _ _ _ _ (by intro e; cases e; exact ho rfl)]; exact hv⟩
  x1 := by
    obtain ⟨v, hv⟩ := h.x1
    by_cases ho : 1 = o
    · subst ho; exact ⟨u, World.cell?_setCell_same' _ _ _ (by rw [hv]; rfl)⟩
    · exact ⟨v, by rw [World.cell?_setCell_other _ _ _ _ (by intro e; cases e; exact ho rfl)]; exact hv⟩
  fx := fun q => by rw [World.frozen?_setCell]; exact h.fx q
  y0 := (grown_cell (grown_set wi X o u) (x := ⟨Y, 0, none⟩) h.ltY (Ne.symm h.nxy)).trans h.y0
  y1 := (grown_cell (grown_set wi X o u) (x := ⟨Y, 1, none⟩) h.ltY (Ne.symm h.nxy)).trans h.y1
  own := h.own.grown (grown_set wi X o u) (fun e => h.ngx (by cases e; rfl))
  hx := h.hx
  hr := h.hr
  nxr := h.nxr
  nyr := h.nyr
  nxy := h.nxy
  ngr := h.ngr
  ngx := h.ngx
  nbx := h.nbx
end Go.Proofs.Ytkhnknpacdmikaa
