/-
  Lists of entries in order that a law draws; the state of a run that is drawn; by walks of the Go text.
-/
import Derived.Test.YtnopbjhlnjbodaaListE
import Derived.Test.YtnopbjhlnjbodaaSortS
import Derived.Test.YtnopbjhlnjbodaaSortP
import Derived.Test.YtnopbjhlnjbodaaRunOk
import Derived.Test.YtnopbjhlnjbodaaBent3
namespace Go.Proofs.Ytnopbjhlnjbodaa
open Go.RowKit

theorem sort_allF {L : List EntD} (h : AllF L) : AllF (sortE L) := fun e he => h e ((sort_both L).2.mem_iff.1 he)

set_option maxHeartbeats 1000000 in
theorem l4Ents_any (R P many : Nat) (a : Option Addr) (len cap : Nat) (w : World) (h : RdAt w R a len cap P) (hlow : Low a len R) (hP : P < 80000) (hm : many ≤ 100) :
    Calls Try.prog 62 #[.pointer (some ⟨R, 0, none⟩), .int .i64 many] w (ListR R a len cap P many w) := by
  go_enter Try.func62, Try.ntmps62
  go_wp2_with fail
  refine (l3List_any R P many a len cap w h hlow hP hm).mono ?_
  rintro e w1 ⟨g, n, c, P', L, rfl, hO, hn, hF, hR, hP', hG⟩
  have HR : Hid (RdAt w1 R a len cap P') := hR
  have HG : Hid (w.grownBy w1 (some R)) := hG
  have HF : Hid (AllF L) := hF
  have hz := hG.size
  go_wp2_with fail
  refine (specSort _ n c L w1 hO.entsAt (by omega)).mono ?_
  rintro e w2 ⟨g2, c2, rfl, hO2, hb2⟩
  have HO2 : Hid (OwnE w2 w.heap.size g2 n c2 (sortE L)) := hO2.mono hz
  have HR2 : Hid (RdAt w2 R a len cap P') := HR.out.below hb2
  have HG2 : Hid (w.grownBy w2 (some R)) := grown_trans HG.out (grown_below hb2)
  clear hO hR hG hF hb2 hO2 HR HG
  go_wp2
  go_ret
  exact ⟨g2, n, c2, P', sortE L, rfl, HO2.out, hn, sort_allF HF.out, HR2.out, hP', HG2.out⟩

set_option maxHeartbeats 800000 in
theorem specRunA (a : Option Addr) (n c : Nat) (L : List EntD) (w : World) (hL : EntsAt w a n c L) :
    Calls Try.prog 63 #[.slice a n c] w fun e w' => e = .returned (.agg #[.slice a n c, .int .i64 ((maskL L : Nat) : Int)]) ∧ Below w.heap.size w w' := by
  go_enter Try.func63, Try.ntmps63
  go_wp2_with fail
  refine (specMaskL a n c L _ (hL.keep ((Below.refl _ _).alloc (Nat.le_refl _) _))).mono ?_
  rintro e w1 ⟨rfl, hb1⟩
  obtain ⟨hc1, hf1⟩ := bcell hb1
  have hz := hb1.size
  simp at hz
  go_wp2
  refine bodyPost_ret (v := .agg #[.slice a n c, .int .i64 ((maskL L : Nat) : Int)]) (by simp [results, Try.results63, go_sem, hc1]) rfl ⟨rfl, ?_⟩
  have hB : Below w.heap.size w w1 := ((Below.refl _ _).alloc (Nat.le_refl _) _).trans (hb1.mono (by simp))
  exact (hB.setCell (p := ⟨w.heap.size, 0, none⟩) (Nat.le_refl _) _).setCell (p := ⟨w.heap.size, 1, none⟩) (Nat.le_refl _) _

theorem grown_set (w : World) (Z o : Nat) (v : Value) : w.grownBy (w.setCell ⟨Z, o, none⟩ v) (some Z) :=
  ⟨rfl, rfl, rfl, by simp [World.setCell], fun k _ hk => Below.heap_setCell _ _ _ _ (fun e => hk (by rw [e]))⟩

/-- The result's block X, the run's block Y, its entries at g, and the reader. -/
structure DrSt (w wi : World) (R : Nat) (a : Option Addr) (len cap P X Y g n c : Nat) (m : Int) (L : List EntD) : Prop where
  rd : RdAt wi R a len cap P
  gr : w.grownBy wi (some R)
  x0 : ∃ v, wi.cell? ⟨X, 0, none⟩ = some v
  x1 : ∃ v, wi.cell? ⟨X, 1, none⟩ = some v
  fx : ∀ o, wi.frozen? ⟨X, o, none⟩ = false
  y0 : wi.cell? ⟨Y, 0, none⟩ = some (.slice (some ⟨g, 0, none⟩) n c)
  y1 : wi.cell? ⟨Y, 1, none⟩ = some (.int .i64 m)
  fy : ∀ o, wi.frozen? ⟨Y, o, none⟩ = false
  own : OwnE wi w.heap.size g n c L
  hx : w.heap.size ≤ X
  hy : w.heap.size ≤ Y
  hr : R < w.heap.size
  nxy : X ≠ Y
  ngx : X < g
  ngy : g ≠ Y
  low : Low a len R
theorem DrSt.ltX {w wi : World} {R : Nat} {a : Option Addr} {len cap P X Y g n c : Nat} {m : Int} {L : List EntD} (h : DrSt w wi R a len cap P X Y g n c m L) : X < wi.heap.size := by
  obtain ⟨v, hv⟩ := h.x0
  exact World.block_lt_of_cell? _ _ hv
theorem DrSt.ltY {w wi : World} {R : Nat} {a : Option Addr} {len cap P X Y g n c : Nat} {m : Int} {L : List EntD} (h : DrSt w wi R a len cap P X Y g n c m L) : Y < wi.heap.size := World.block_lt_of_cell? _ _ h.y0
/-- Behind a step that turns one other block, and the reader to what is said. -/
theorem DrSt.step {w wi wj : World} {R : Nat} {a : Option Addr} {len cap P P' X Y g g' n n' c c' Z : Nat} {m : Int} {L L' : List EntD} (h : DrSt w wi R a len cap P X Y g n c m L) (hg : wi.grownBy wj (some Z)) (hr : RdAt wj R a len cap P') (hZ : Z = R ∨ w.heap.size ≤ Z) (zx : Z ≠ X) (zy : Z ≠ Y) (ho : OwnE wj w.heap.size g' n' c' L') (y0' : wj.cell? ⟨Y, 0, none⟩ = some (.slice (some ⟨g', 0, none⟩) n' c')) (nx : X < g') (ny : g' ≠ Y) : DrSt w wj R a len cap P' X Y g' n' c' m L' where
  rd := hr
  gr := by
    rcases hZ with rfl | hZ
    · exact grown_trans h.gr hg
    · exact grown_old h.gr hZ hg
  x0 := by obtain ⟨v, hv⟩ := h.x0; exact ⟨v, (grown_cell hg (x := ⟨X, 0, none⟩) h.ltX (Ne.symm zx)).trans hv⟩
  x1 := by obtain ⟨v, hv⟩ := h.x1; exact ⟨v, (grown_cell hg (x := ⟨X, 1, none⟩) h.ltX (Ne.symm zx)).trans hv⟩
  fx := fun o => (grown_frozen hg (x := ⟨X, o, none⟩) h.ltX (fun e => zx (by cases e; rfl))).trans (h.fx o)
  y0 := y0'
  y1 := (grown_cell hg (x := ⟨Y, 1, none⟩) h.ltY (Ne.symm zy)).trans h.y1
  fy := fun o => (grown_frozen hg (x := ⟨Y, o, none⟩) h.ltY (fun e => zy (by cases e; rfl))).trans (h.fy o)
  own := ho
  hx := h.hx
  hy := h.hy
  hr := h.hr
  nxy := h.nxy
  ngx := nx
  ngy := ny
  low := h.low
theorem DrSt.read {w wi wj : World} {R : Nat} {a : Option Addr} {len cap P P' X Y g n c : Nat} {m : Int} {L : List EntD} (h : DrSt w wi R a len cap P X Y g n c m L) (hg : wi.grownBy wj (some R)) (hr : RdAt wj R a len cap P') : DrSt w wj R a len cap P' X Y g n c m L := by
  have h1 := h.hr
  have h2 := h.hx
  have h3 := h.hy
  have h4 := h.own.lt.1
  have hyr : Y ≠ R := by omega
  exact h.step hg hr (Or.inl rfl) (by omega) (by omega) (h.own.grown hg (fun e => by cases e; omega)) ((grown_cell hg (x := ⟨Y, 0, none⟩) h.ltY hyr).trans h.y0) h.ngx h.ngy
theorem DrSt.below {w wi wj : World} {R : Nat} {a : Option Addr} {len cap P X Y g n c : Nat} {m : Int} {L : List EntD} (h : DrSt w wi R a len cap P X Y g n c m L) (hb : Below wi.heap.size wi wj) : DrSt w wj R a len cap P X Y g n c m L := h.read (grown_below hb) (h.rd.below hb)
theorem DrSt.mask {w wi : World} {R : Nat} {a : Option Addr} {len cap P X Y g n c : Nat} {m : Int} {L : List EntD} (h : DrSt w wi R a len cap P X Y g n c m L) (m' : Int) : DrSt w (wi.setCell ⟨Y, 1, none⟩ (.int .i64 m')) R a len cap P X Y g n c m' L where
  rd := h.rd.grown (grown_set wi Y 1 _) h.low (fun k e => by cases e; have := h.hr; have := h.hy; omega)
  gr := grown_old h.gr h.hy (grown_set wi Y 1 _)
  x0 := by obtain ⟨v, hv⟩ := h.x0; exact ⟨v, (grown_cell (grown_set wi Y 1 _) (x := ⟨X, 0, none⟩) h.ltX h.nxy).trans hv⟩
  x1 := by obtain ⟨v, hv⟩ := h.x1; exact ⟨v, (grown_cell (grown_set wi Y 1 _) (x := ⟨X, 1, none⟩) h.ltX h.nxy).trans hv⟩
  fx := fun o => by rw [World.frozen?_setCell]; exact h.fx o
  y0 := by rw [World.cell?_setCell_other _ _ _ _ (by simp)]; exact h.y0
  y1 := World.cell?_setCell_same' _ _ _ (by rw [h.y1]; rfl)
  fy := fun o => by rw [World.frozen?_setCell]; exact h.fy o
  own := h.own.grown (grown_set wi Y 1 _) (fun e => h.ngy (by cases e; rfl))
  hx := h.hx
  hy := h.hy
  hr := h.hr
  nxy := h.nxy
  ngx := h.ngx
  ngy := h.ngy
  low := h.low
/-- Other entries are put into the run. -/
theorem DrSt.ents {w wi : World} {R : Nat} {a : Option Addr} {len cap P X Y g n c g' n' c' : Nat} {m : Int} {L L' : List EntD} (h : DrSt w wi R a len cap P X Y g n c m L) (ho : OwnE wi w.heap.size g' n' c' L') (nx : X < g') (ny : g' ≠ Y) : DrSt w (wi.setCell ⟨Y, 0, none⟩ (.slice (some ⟨g', 0, none⟩) n' c')) R a len cap P X Y g' n' c' m L' where
  rd := h.rd.grown (grown_set wi Y 0 _) h.low (fun k e => by cases e; have := h.hr; have := h.hy; omega)
  gr := grown_old h.gr h.hy (grown_set wi Y 0 _)
  x0 := by obtain ⟨v, hv⟩ := h.x0; exact ⟨v, (grown_cell (grown_set wi Y 0 _) (x := ⟨X, 0, none⟩) h.ltX h.nxy).trans hv⟩
  x1 := by obtain ⟨v, hv⟩ := h.x1; exact ⟨v, (grown_cell (grown_set wi Y 0 _) (x := ⟨X, 1, none⟩) h.ltX h.nxy).trans hv⟩
  fx := fun o => by rw [World.frozen?_setCell]; exact h.fx o
  y0 := World.cell?_setCell_same' _ _ _ (by rw [h.y0]; rfl)
  y1 := by rw [World.cell?_setCell_other _ _ _ _ (by simp)]; exact h.y1
  fy := fun o => by rw [World.frozen?_setCell]; exact h.fy o
  own := ho.grown (grown_set wi Y 0 _) (fun e => ny (by cases e; rfl))
  hx := h.hx
  hy := h.hy
  hr := h.hr
  nxy := h.nxy
  ngx := nx
  ngy := ny
  low := h.low
theorem OwnE.rebase {w : World} {base g n c : Nat} {L : List EntD} (h : OwnE w base g n c L) : OwnE w g g n c L := by
  refine ⟨⟨h.owns.1, ?_⟩, h.len, h.ents⟩
  rcases h.owns.2 with ⟨hv, _⟩ | ⟨g', cap, cur, hv, hb, hr⟩
  · cases hv
  · cases hv
    exact .inr ⟨g, c, cur, rfl, Nat.le_refl _, hr⟩
/-- The entries have grown, and are put into the run. -/
theorem DrSt.grewTo {w wi wj : World} {R : Nat} {a : Option Addr} {len cap P X Y g n c g' n' c' : Nat} {m : Int} {L L' : List EntD} (h : DrSt w wi R a len cap P X Y g n c m L) (hg : wi.grownBy wj (some g)) (ho : OwnE wj g g' n' c' L') (hn : 1 ≤ n') : DrSt w (wj.setCell ⟨Y, 0, none⟩ (.slice (some ⟨g', 0, none⟩) n' c')) R a len cap P X Y g' n' c' m L' := by
  have hb := h.own.lt.1
  have hgg := ho.lt.1
  have hxg := h.ngx
  have hr := h.hr
  have y0j := (grown_cell hg (x := ⟨Y, 0, none⟩) h.ltY (Ne.symm h.ngy)).trans h.y0
  have y1j := (grown_cell hg (x := ⟨Y, 1, none⟩) h.ltY (Ne.symm h.ngy)).trans h.y1
  have nxg : X ≠ g := by omega
  have hlX : X < wj.heap.size := Nat.lt_of_lt_of_le h.ltX hg.size
  have hlY : Y < wj.heap.size := Nat.lt_of_lt_of_le h.ltY hg.size
  have ny : g' ≠ Y := fun e => by
    have hc := (ho.entsAt.cells _ rfl 0 (by rw [ho.len]; omega)).1
    subst e
    simp only [Nat.zero_mul, Nat.zero_add] at hc
    rw [y0j] at hc
    cases hc
  exact {
    rd := (h.rd.grown hg h.low (fun k e => by cases e; omega)).grown (grown_set wj Y 0 _) h.low (fun k e => by cases e; have := h.hy; omega)
    gr := grown_old (grown_old h.gr hb hg) h.hy (grown_set wj Y 0 _)
    x0 := by obtain ⟨v, hv⟩ := h.x0; exact ⟨v, (grown_cell (grown_set wj Y 0 _) (x := ⟨X, 0, none⟩) hlX h.nxy).trans ((grown_cell hg (x := ⟨X, 0, none⟩) h.ltX nxg).trans hv)⟩
    x1 := by obtain ⟨v, hv⟩ := h.x1; exact ⟨v, (grown_cell (grown_set wj Y 0 _) (x := ⟨X, 1, none⟩) hlX h.nxy).trans ((grown_cell hg (x := ⟨X, 1, none⟩) h.ltX nxg).trans hv)⟩
    fx := fun o => by rw [World.frozen?_setCell]; exact (grown_frozen hg (x := ⟨X, o, none⟩) h.ltX (fun e => nxg (by cases e; rfl))).trans (h.fx o)
    y0 := World.cell?_setCell_same' _ _ _ (by rw [y0j]; rfl)
    y1 := by rw [World.cell?_setCell_other _ _ _ _ (by simp)]; exact y1j
    fy := fun o => by rw [World.frozen?_setCell]; exact (grown_frozen hg (x := ⟨Y, o, none⟩) h.ltY (fun e => h.ngy (by cases e; rfl))).trans (h.fy o)
    own := (ho.mono hb).grown (grown_set wj Y 0 _) (fun e => ny (by cases e; rfl))
    hx := h.hx
    hy := h.hy
    hr := h.hr
    nxy := h.nxy
    ngx := by omega
    ngy := ny
    low := h.low }
/-- A run that has been drawn. -/
def RunR (R : Nat) (a : Option Addr) (len cap P : Nat) (w : World) (e : Ending) (w' : World) : Prop :=
  ∃ (g n c P' : Nat) (m : Int) (L : List EntD), e = .returned (.agg #[.slice (some ⟨g, 0, none⟩) n c, .int .i64 m]) ∧ OwnE w' w.heap.size g n c L ∧ n ≤ 13 ∧ AllF L ∧ (Lit.int .i64 m).wf = true ∧ RdAt w' R a len cap P' ∧ P' ≤ P + 150 ∧ w.grownBy w' (some R)
theorem DrSt.done {w wi : World} {R : Nat} {a : Option Addr} {len cap P P0 X Y g n c : Nat} {m : Int} {L : List EntD} (h : DrSt w wi R a len cap P X Y g n c m L) (hn : n ≤ 13) (hF : AllF L) (hm : (Lit.int .i64 m).wf = true) (hP : P ≤ P0 + 150) (u v : Value) :
    RunR R a len cap P0 w (.returned (.agg #[.slice (some ⟨g, 0, none⟩) n c, .int .i64 m])) ((wi.setCell ⟨X, 0, none⟩ u).setCell ⟨X, 1, none⟩ v) := by
  have hRX : R < X := by have := h.hr; have := h.hx; omega
  refine ⟨g, n, c, P, m, L, rfl, ?_, hn, hF, hm, ?_, hP, ?_⟩
  · exact (h.own.grown (grown_set wi X 0 u) (fun e => Nat.ne_of_lt h.ngx (by cases e; rfl))).grown (grown_set _ X 1 v) (fun e => Nat.ne_of_lt h.ngx (by cases e; rfl))
  · exact (h.rd.grown (grown_set wi X 0 u) h.low (fun k e => by cases e; exact hRX)).grown (grown_set _ X 1 v) h.low (fun k e => by cases e; exact hRX)
  · exact grown_old (grown_old h.gr h.hx (grown_set wi X 0 u)) h.hx (grown_set _ X 1 v)
end Go.Proofs.Ytnopbjhlnjbodaa
