/-
  The document's l5Flush and TreeFlush: what they answer at a right tree, by walks of their Go text.
-/
import Derived.Test.YtlmgojlffgkciaaGreatFz38
import Derived.Test.YtlmgojlffgkciaaGreatFz43
import Derived.Test.YtlmgojlffgkciaaGreatFz44
import Derived.Test.YtlmgojlffgkciaaGreatFz45
import Derived.Test.YtlmgojlffgkciaaGreatFz16
import Derived.Test.YtlmgojlffgkciaaGreatFz30
namespace Go.Proofs.YtlmgojlffgkciaaGreat
open Go.RowKit
set_option maxRecDepth 100000
set_option maxHeartbeats 8000000
theorem RunsG.grownR {base g n c G sz : Nat} {w w' : World} {B : List RunD} (h : RunsG base w g n c B) (hG : BlockOf w G 102 sz) (hne : g ≠ G) (hg : w.grownBy w' (some G)) : RunsG base w' g n c B := by
  obtain ⟨h1, h2, xs, h3, h4⟩ := h
  refine ⟨h1, h2, xs, h3.kept hg (.inr ?_), fun i p hp => ?_⟩
  · intro e
    have e' : g = G := by simpa [Value.ownBlock] using e
    exact hne e'
  · obtain ⟨e, d, a1, a2, a3⟩ := h4 i p hp
    obtain ⟨s4, k4⟩ := kind_row a3.owns
    refine ⟨e, d, a1, a2, a3.grown hg (fun e' => ?_)⟩
    have e'' : e = G := Option.some.inj e'
    subst e''
    exact absurd (hG.kind k4) (by decide)
def DocRB (b0 b1 : Nat) (q : Int) (M : List EntD) (V : List (List RunD)) (S : List Int) (ok : Bool) (w : World) (e : Ending) (w' : World) : Prop :=
  ∃ am nm cm av nv cv ak ns cs, e = .returned (.tuple #[.agg #[.int .i64 q, .slice am nm cm, .slice av nv cv, .slice ak ns cs], .bool ok]) ∧ TreeIn b1 w' am nm cm av nv cv ak ns cs M V S ∧ Below b0 w w'
structure FlSt (b0 : Nat) (w wi : World) (base X : Nat) (q : Int) (g1 nm c1 G c g3 ns c3 gA dA gB dB gC dC : Nat) (M : List EntD) (A B C : List RunD) (S : List Int) : Prop where
  low : Below b0 w wi
  bx : Box4 wi X (.int .i64 q) (.slice (some ⟨g1, 0, none⟩) nm c1) (.slice (some ⟨G, 0, none⟩) 3 c) (.slice (some ⟨g3, 0, none⟩) ns c3)
  br : Box4 wi (X + 1) (.int .i64 0) (.slice none 0 0) (.slice none 0 0) (.slice none 0 0)
  mem : OwnE wi base g1 nm c1 M
  sn : wi.ownsRow base 3 1 (.slice (some ⟨g3, 0, none⟩) ns c3) ns (S.map (Value.int .i64))
  row : wi.ownsRow base 64 1 (.slice (some ⟨G, 0, none⟩) 3 c) 3 [.slice (some ⟨gA, 0, none⟩) A.length dA, .slice (some ⟨gB, 0, none⟩) B.length dB, .slice (some ⟨gC, 0, none⟩) C.length dC]
  rA : RunsG base wi gA A.length dA A
  rB : RunsG base wi gB B.length dB B
  rC : RunsG base wi gC C.length dC C
  kx : BlockOf wi X 31 4 ∧ BlockOf wi (X + 1) 31 4
  apart : gA ≠ gB ∧ gA ≠ gC
  top : b0 ≤ base ∧ b0 ≤ w.heap.size ∧ w.heap.size ≤ X
theorem FlSt.below {q : Int} {w wi wj : World} {b0 base X g1 nm c1 G c g3 ns c3 gA dA gB dB gC dC : Nat} {M : List EntD} {A B C : List RunD} {S : List Int} (h : FlSt b0 w wi base X q g1 nm c1 G c g3 ns c3 gA dA gB dB gC dC M A B C S) (hb : Below wi.heap.size wi wj) : FlSt b0 w wj base X q g1 nm c1 G c g3 ns c3 gA dA gB dB gC dC M A B C S :=
  ⟨h.low.trans (hb.mono (Nat.le_trans h.top.2.1 h.low.size)), h.bx.keep hb, h.br.keep hb, h.mem.below hb, rowg_keep h.sn hb, rowg_keep h.row hb, h.rA.below hb, h.rB.below hb, h.rC.below hb, ⟨h.kx.1.below hb, h.kx.2.below hb⟩, h.apart, h.top⟩
theorem FlSt.head {w wi : World} {q : Int} {b0 base X g1 nm c1 G c g3 ns c3 gA dA gB dB gC dC : Nat} {M : List EntD} {A B C : List RunD} {S : List Int} (h : FlSt b0 w wi base X q g1 nm c1 G c g3 ns c3 gA dA gB dB gC dC M A B C S) : wi.cell? ⟨G, 0, none⟩ = some (.slice (some ⟨gA, 0, none⟩) A.length dA) ∧ wi.cell? ⟨G, 1, none⟩ = some (.slice (some ⟨gB, 0, none⟩) B.length dB) ∧ wi.cell? ⟨G, 2, none⟩ = some (.slice (some ⟨gC, 0, none⟩) C.length dC) ∧ G < wi.heap.size ∧ wi.frozen? ⟨G, 0, none⟩ = false :=
  ⟨h.row.cellAt 0 (by omega), h.row.cellAt 1 (by omega), h.row.cellAt 2 (by omega), (h.row.lt G rfl).2, h.row.frozenAt 0⟩
structure FlEnd (b0 : Nat) (w wi : World) (base X : Nat) (u0 u1 u2 u3 : Value) (G c g3 ns c3 g8 c8 n8 gB dB gC dC : Nat) (A B C : List RunD) (S : List Int) : Prop where
  low : Below b0 w wi
  bx : Box4 wi X u0 u1 u2 u3
  br : Box4 wi (X + 1) (.int .i64 0) (.slice none 0 0) (.slice none 0 0) (.slice none 0 0)
  sn : wi.ownsRow base 3 1 (.slice (some ⟨g3, 0, none⟩) ns c3) ns (S.map (Value.int .i64))
  cells : wi.cell? ⟨G, 0, none⟩ = some (.slice (some ⟨g8, 0, none⟩) n8 c8) ∧ wi.cell? ⟨G, 1, none⟩ = some (.slice (some ⟨gB, 0, none⟩) B.length dB) ∧ wi.cell? ⟨G, 2, none⟩ = some (.slice (some ⟨gC, 0, none⟩) C.length dC)
  kg : BlockOf wi G 64 (c * 1)
  rA : RunsG base wi g8 n8 c8 A
  rB : RunsG base wi gB B.length dB B
  rC : RunsG base wi gC C.length dC C
  kx : BlockOf wi X 31 4 ∧ BlockOf wi (X + 1) 31 4
  top : b0 ≤ base ∧ b0 ≤ w.heap.size ∧ w.heap.size ≤ X
theorem FlEnd.below {w wi wj : World} {b0 base X : Nat} {u0 u1 u2 u3 : Value} {G c g3 ns c3 g8 c8 n8 gB dB gC dC : Nat} {A B C : List RunD} {S : List Int} (h : FlEnd b0 w wi base X u0 u1 u2 u3 G c g3 ns c3 g8 c8 n8 gB dB gC dC A B C S) (hb : Below wi.heap.size wi wj) : FlEnd b0 w wj base X u0 u1 u2 u3 G c g3 ns c3 g8 c8 n8 gB dB gC dC A B C S :=
  ⟨h.low.trans (hb.mono (Nat.le_trans h.top.2.1 h.low.size)), h.bx.keep hb, h.br.keep hb, rowg_keep h.sn hb, ⟨cell_later hb h.cells.1, cell_later hb h.cells.2.1, cell_later hb h.cells.2.2⟩, h.kg.below hb, h.rA.below hb, h.rB.below hb, h.rC.below hb, ⟨h.kx.1.below hb, h.kx.2.below hb⟩, h.top⟩
theorem flEnd_set {w wi : World} {b0 base X Y o : Nat} {u : Value} {u0 u1 u2 u3 v0 v1 v2 v3 : Value} {G c g3 ns c3 g8 c8 n8 gB dB gC dC : Nat} {A B C : List RunD} {S : List Int} (h : FlEnd b0 w wi base X u0 u1 u2 u3 G c g3 ns c3 g8 c8 n8 gB dB gC dC A B C S) (hY : BlockOf wi Y 31 4) (hw : b0 ≤ Y) (hx : Box4 (wi.setCell ⟨Y, o, none⟩ u) X v0 v1 v2 v3) (hr : Box4 (wi.setCell ⟨Y, o, none⟩ u) (X + 1) (.int .i64 0) (.slice none 0 0) (.slice none 0 0) (.slice none 0 0)) : FlEnd b0 w (wi.setCell ⟨Y, o, none⟩ u) base X v0 v1 v2 v3 G c g3 ns c3 g8 c8 n8 gB dB gC dC A B C S := by
  have hg : wi.grownBy (wi.setCell ⟨Y, o, none⟩ u) (some Y) := setg _ _ _ _
  have hne : G ≠ Y := fun e => by subst e; exact absurd (hY.kind h.kg) (by decide)
  obtain ⟨_, k3⟩ := kind_row h.sn
  refine ⟨h.low.setCell (p := ⟨Y, o, none⟩) hw _, hx, hr, h.sn.kept hg (.inr fun e => ?_), ⟨?_, ?_, ?_⟩, h.kg.setCell _, h.rA.grown hY (by decide) (by decide) hg, h.rB.grown hY (by decide) (by decide) hg, h.rC.grown hY (by decide) (by decide) hg, ⟨h.kx.1.setCell _, h.kx.2.setCell _⟩, h.top⟩
  · have e' : g3 = Y := by simpa [Value.ownBlock] using e
    subst e'
    exact absurd (hY.kind k3) (by decide)
  · exact hg.cell h.cells.1 (fun e => hne (Option.some.inj e))
  · exact hg.cell h.cells.2.1 (fun e => hne (Option.some.inj e))
  · exact hg.cell h.cells.2.2 (fun e => hne (Option.some.inj e))
theorem CopyG.split {base g1 nm c1 G nv c g3 ns c3 : Nat} {w : World} {M : List EntD} {A B C : List RunD} {S : List Int} (h : CopyG base w g1 nm c1 G nv c g3 ns c3 M [A, B, C] S) : ∃ gA dA gB dB gC dC, w.ownsRow base 64 1 (.slice (some ⟨G, 0, none⟩) 3 c) 3 [.slice (some ⟨gA, 0, none⟩) A.length dA, .slice (some ⟨gB, 0, none⟩) B.length dB, .slice (some ⟨gC, 0, none⟩) C.length dC] ∧ RunsG base w gA A.length dA A ∧ RunsG base w gB B.length dB B ∧ RunsG base w gC C.length dC C ∧ gA ≠ gB ∧ gA ≠ gC := by
  obtain ⟨h1, xs, h3, h4, h5⟩ := h.levs
  have hn : nv = 3 := h1.symm
  subst hn
  obtain ⟨gA, dA, a1, a2⟩ := h4 0 A rfl
  obtain ⟨gB, dB, b1, b2⟩ := h4 1 B rfl
  obtain ⟨gC, dC, c1', c2⟩ := h4 2 C rfl
  have hx : xs = [.slice (some ⟨gA, 0, none⟩) A.length dA, .slice (some ⟨gB, 0, none⟩) B.length dB, .slice (some ⟨gC, 0, none⟩) C.length dC] := by
    have hl := h3.1
    match xs, hl, a1, b1, c1' with
    | [x, y, z], _, a1, b1, c1' => simp at a1 b1 c1'; rw [a1, b1, c1']
  rw [hx] at h3 h5
  exact ⟨gA, dA, gB, dB, gC, dC, h3, a2, b2, c2, h5 0 1 _ _ _ _ _ _ (by omega) rfl rfl, h5 0 2 _ _ _ _ _ _ (by omega) rfl rfl⟩
theorem flEnd_put {w wb w8 : World} {q m : Int} {b0 base X g1 nm c1 G c g3 ns c3 gA dA gB dB gC dC gl nl cl g8 c8 : Nat} {M L : List EntD} {A B C : List RunD} {S : List Int} {xsA : List Value} (k3 : FlSt b0 w wb base X q g1 nm c1 G c g3 ns c3 gA dA gB dB gC dC M A B C S) (o3 : OwnE wb base gl nl cl L) (hm : (Lit.int .i64 m).wf = true)
    (a2 : ∀ p ∈ A, (Lit.int .i64 p.2).wf = true) (a3 : wb.ownsRow base 102 2 (.slice (some ⟨gA, 0, none⟩) A.length dA) A.length xsA) (a4 : ∀ (i : Nat) (p : RunD), A[i]? = some p → ∃ e d, xsA[i * 2]? = some (.slice (some ⟨e, 0, none⟩) p.1.length d) ∧ xsA[i * 2 + 1]? = some (.int .i64 p.2) ∧ OwnE wb base e p.1.length d p.1)
    (hg : wb.grownBy w8 (some gA)) (ho : w8.ownsRow base 102 2 (.slice (some ⟨g8, 0, none⟩) (A.length + 1) c8) (A.length + 1) (xsA ++ [.slice (some ⟨gl, 0, none⟩) nl cl, .int .i64 m])) :
    FlEnd b0 w (w8.setCell ⟨G, 0, none⟩ (.slice (some ⟨g8, 0, none⟩) (A.length + 1) c8)) base X (.int .i64 q) (.slice (some ⟨g1, 0, none⟩) nm c1) (.slice (some ⟨G, 0, none⟩) 3 c) (.slice (some ⟨g3, 0, none⟩) ns c3) G c g3 ns c3 g8 c8 (A.length + 1) gB dB gC dC (A ++ [(L, m)]) B C S := by
  obtain ⟨sA, kA⟩ := kind_row a3
  have kR : BlockOf wb G 64 (c * 1) := blockOf_row k3.row
  obtain ⟨_, k1⟩ := kind_row k3.sn
  have hGA : G ≠ gA := fun e => by subst e; exact absurd (kR.kind kA) (by decide)
  have hXA : X ≠ gA := fun e => by subst e; exact absurd (k3.kx.1.kind kA) (by decide)
  have hXA1 : X + 1 ≠ gA := fun e => by rw [← e] at kA; exact absurd (k3.kx.2.kind kA) (by decide)
  have hXG : X ≠ G := fun e => by rw [← e] at kR; exact absurd (k3.kx.1.kind kR) (by decide)
  have hXG1 : X + 1 ≠ G := fun e => by rw [← e] at kR; exact absurd (k3.kx.2.kind kR) (by decide)
  have hs3 : g3 ≠ gA := fun e => by subst e; exact absurd (k1.kind kA) (by decide)
  have hs4 : g3 ≠ G := fun e => by subst e; exact absurd (k1.kind kR) (by decide)
  have hkeep : ∀ {Y t sz : Nat}, BlockOf wb Y t sz → Y ≠ gA → BlockOf w8 Y t sz := fun {Y t sz} hB hne => by
    obtain ⟨cur, h1, h2⟩ := hB
    exact ⟨cur, (hg.block Y (Array.getElem?_eq_some_iff.1 h1).1 (fun e => hne (Option.some.inj e))).trans h1, h2⟩
  have hlen := o3.len
  have hpush : RunsG base w8 g8 (A.length + 1) c8 (A ++ [(L, m)]) := runsG_push rfl a2 a3 a4 (by rw [hlen]; exact o3) hm hg (by rw [hlen]; exact ho)
  have hB8 := k3.rB.grownR kA (fun e => k3.apart.1 e.symm) hg
  have hC8 := k3.rC.grownR kA (fun e => k3.apart.2 e.symm) hg
  have kR8 := hkeep kR hGA
  have hset : w8.grownBy (w8.setCell ⟨G, 0, none⟩ (.slice (some ⟨g8, 0, none⟩) (A.length + 1) c8)) (some G) := setg _ _ _ _
  have hGs : some G ≠ some gA := fun e => hGA (Option.some.inj e)
  have hgb := (a3.lt gA rfl).1
  have hGb := (k3.row.lt G rfl).1
  refine ⟨?_, ?_, ?_, ?_, ⟨?_, ?_, ?_⟩, kR8.setCell _, hpush.grown kR8 (by decide) (by decide) hset, hB8.grown kR8 (by decide) (by decide) hset, hC8.grown kR8 (by decide) (by decide) hset, ⟨(hkeep k3.kx.1 hXA).setCell _, (hkeep k3.kx.2 hXA1).setCell _⟩, k3.top⟩
  · exact (k3.low.grown hg (Nat.le_trans k3.top.2.1 k3.low.size) (fun k e => by cases e; have := k3.top; omega)).setCell (p := ⟨G, 0, none⟩) (by show _ ≤ G; have := k3.top; omega) _
  · exact (k3.bx.grownB hg hXA).other (fun e => hXG e.symm) _
  · exact (k3.br.grownB hg hXA1).other (fun e => hXG1 e.symm) _
  · exact (k3.sn.kept hg (.inr (by simpa [Value.ownBlock] using fun e => hs3 e))).kept hset (.inr (by simpa [Value.ownBlock] using fun e => hs4 e))
  · exact World.cell?_setCell_same' _ _ _ (by rw [hg.cell k3.head.1 hGs]; rfl)
  · rw [World.cell?_setCell_other _ _ _ _ (by simp)]
    exact hg.cell k3.head.2.1 hGs
  · rw [World.cell?_setCell_other _ _ _ _ (by simp)]
    exact hg.cell k3.head.2.2.1 hGs
theorem docR_flush {w wi : World} {q : Int} {b0 base X : Nat} {u0 u1 u2 u3 : Value} {G c g3 ns c3 g8 c8 n8 gB dB gC dC ge : Nat} {A B C : List RunD} {S : List Int} (h : FlEnd b0 w wi base X u0 u1 u2 u3 G c g3 ns c3 g8 c8 n8 gB dB gC dC A B C S) (hG : base ≤ G) (hc : 3 ≤ c) (hc2 : c ≤ maxLen) (hl : S.length = ns) (hw : ∀ z ∈ S, (Lit.int .i64 z).wf = true) (v0 v1 v2 v3 : Value) :
    DocRB b0 base q [] [A, B, C] S true w (.returned (.tuple #[.agg #[.int .i64 q, .slice (some ⟨ge, 0, none⟩) 0 0, .slice (some ⟨G, 0, none⟩) 3 c, .slice (some ⟨g3, 0, none⟩) ns c3], .bool true])) ((((wi.setCell ⟨X + 1, 0, none⟩ v0).setCell ⟨X + 1, 1, none⟩ v1).setCell ⟨X + 1, 2, none⟩ v2).setCell ⟨X + 1, 3, none⟩ v3) := by
  have hx : b0 ≤ X + 1 := by have := h.top; omega
  have step : ∀ (wk : World) (o : Nat) (u : Value), (Below b0 w wk ∧ wk.ownsRow base 3 1 (.slice (some ⟨g3, 0, none⟩) ns c3) ns (S.map (Value.int .i64)) ∧ (wk.cell? ⟨G, 0, none⟩ = some (.slice (some ⟨g8, 0, none⟩) n8 c8) ∧ wk.cell? ⟨G, 1, none⟩ = some (.slice (some ⟨gB, 0, none⟩) B.length dB) ∧ wk.cell? ⟨G, 2, none⟩ = some (.slice (some ⟨gC, 0, none⟩) C.length dC)) ∧ BlockOf wk G 64 (c * 1) ∧ RunsG base wk g8 n8 c8 A ∧ RunsG base wk gB B.length dB B ∧ RunsG base wk gC C.length dC C ∧ BlockOf wk (X + 1) 31 4) → (Below b0 w (wk.setCell ⟨X + 1, o, none⟩ u) ∧ (wk.setCell ⟨X + 1, o, none⟩ u).ownsRow base 3 1 (.slice (some ⟨g3, 0, none⟩) ns c3) ns (S.map (Value.int .i64)) ∧ ((wk.setCell ⟨X + 1, o, none⟩ u).cell? ⟨G, 0, none⟩ = some (.slice (some ⟨g8, 0, none⟩) n8 c8) ∧ (wk.setCell ⟨X + 1, o, none⟩ u).cell? ⟨G, 1, none⟩ = some (.slice (some ⟨gB, 0, none⟩) B.length dB) ∧ (wk.setCell ⟨X + 1, o, none⟩ u).cell? ⟨G, 2, none⟩ = some (.slice (some ⟨gC, 0, none⟩) C.length dC)) ∧ BlockOf (wk.setCell ⟨X + 1, o, none⟩ u) G 64 (c * 1) ∧ RunsG base (wk.setCell ⟨X + 1, o, none⟩ u) g8 n8 c8 A ∧ RunsG base (wk.setCell ⟨X + 1, o, none⟩ u) gB B.length dB B ∧ RunsG base (wk.setCell ⟨X + 1, o, none⟩ u) gC C.length dC C ∧ BlockOf (wk.setCell ⟨X + 1, o, none⟩ u) (X + 1) 31 4) := by
    rintro wk o u ⟨h1, h2, ⟨h3, h4, h5⟩, h6, h7, h8, h9, hk⟩
    have hg : wk.grownBy (wk.setCell ⟨X + 1, o, none⟩ u) (some (X + 1)) := setg _ _ _ _
    obtain ⟨_, k3⟩ := kind_row h2
    have hne : some G ≠ some (X + 1) := fun e => by have e' := Option.some.inj e; rw [e'] at h6; exact absurd (hk.kind h6) (by decide)
    refine ⟨h1.setCell (p := ⟨X + 1, o, none⟩) hx _, h2.kept hg (.inr fun e => ?_), ⟨hg.cell h3 hne, hg.cell h4 hne, hg.cell h5 hne⟩, h6.setCell _, h7.grown hk (by decide) (by decide) hg, h8.grown hk (by decide) (by decide) hg, h9.grown hk (by decide) (by decide) hg, hk.setCell _⟩
    have e' : g3 = X + 1 := by simpa [Value.ownBlock] using e
    rw [e'] at k3
    exact absurd (hk.kind k3) (by decide)
  obtain ⟨f1, f2, f3, f4, f5, f6, f7, _⟩ := step _ 3 v3 (step _ 2 v2 (step _ 1 v1 (step _ 0 v0 ⟨h.low, h.sn, h.cells, h.kg, h.rA, h.rB, h.rC, h.kx.2⟩)))
  refine ⟨_, _, _, _, _, _, _, _, _, rfl, ?_, f1⟩
  refine ⟨⟨⟨rfl, Nat.le_refl _, Nat.zero_le _, (fun e he => by cases he), (fun e => by cases e), (fun x e hp => absurd hp (Nat.not_lt_zero _)), fun x e i hi => absurd hi (Nat.not_lt_zero _)⟩, fun x e hp => absurd hp (Nat.not_lt_zero _)⟩, ⟨rfl, hc, hc2, (fun e => by cases e), ?_, ?_⟩, intsIn_row f2 hl hw⟩
  · rintro x e _
    cases e
    exact ⟨World.block_lt_of_cell? _ _ f3.1, rfl, hG⟩
  · rintro x e i hi
    cases e
    simp only [Nat.zero_add]
    match i, hi with
    | 0, _ => exact ⟨_, _, _, f3.1, f5.runsIn⟩
    | 1, _ => exact ⟨_, _, _, f3.2.1, f6.runsIn⟩
    | 2, _ => exact ⟨_, _, _, f3.2.2, f7.runsIn⟩
theorem specFlushN (base : Nat) (q : Int) (g1 nm c1 G c g3 ns c3 : Nat) (M : List EntD) (A B C : List RunD) (S : List Int) (w : World) (hcp : CopyG base w g1 nm c1 G 3 c g3 ns c3 M [A, B, C] S) (b0 : Nat) (hb0 : b0 ≤ base) (hbw : base ≤ w.heap.size) (hno : nm = 0 ∨ 4 ≤ A.length) :
    Calls Tryz.prog 62 #[.agg #[.int .i64 q, .slice (some ⟨g1, 0, none⟩) nm c1, .slice (some ⟨G, 0, none⟩) 3 c, .slice (some ⟨g3, 0, none⟩) ns c3]] w (DocRB b0 base q M [A, B, C] S false w) := by
  obtain ⟨gA, dA, gB, dB, gC, dC, hrow, hrA, hrB, hrC, hne1, hne2⟩ := hcp.split
  have hml := hcp.mem.len
  have hsl := hcp.slen
  have HSW : Hid (∀ z ∈ S, (Lit.int .i64 z).wf = true) := hcp.swf
  have HSL : Hid (S.length = ns) := hsl
  have hrc := row_rooms hrow
  have HC3 : Hid (3 ≤ c ∧ c ≤ maxLen) := hrc
  have HGB : Hid (base ≤ G) := (hrow.lt G rfl).1
  obtain ⟨X, hX⟩ : ∃ X, X = w.heap.size := ⟨_, rfl⟩
  obtain ⟨W, hW⟩ : ∃ W, W = (w.alloc (.cells #[.int .i64 q, .slice (some ⟨g1, 0, none⟩) nm c1, .slice (some ⟨G, 0, none⟩) 3 c, .slice (some ⟨g3, 0, none⟩) ns c3] 31)).alloc (.cells #[.int .i64 0, .slice none 0 0, .slice none 0 0, .slice none 0 0] 31) := ⟨_, rfl⟩
  have kW : Below w.heap.size w W := by rw [hW]; exact ((Below.refl _ _).alloc (Nat.le_refl _) _).alloc (by simp) _
  have bx : Box4 W X (.int .i64 q) (.slice (some ⟨g1, 0, none⟩) nm c1) (.slice (some ⟨G, 0, none⟩) 3 c) (.slice (some ⟨g3, 0, none⟩) ns c3) := by rw [hW, hX]; exact (Box4.new _ _ _ _ _ _).alloc _
  have br : Box4 W (X + 1) (.int .i64 0) (.slice none 0 0) (.slice none 0 0) (.slice none 0 0) := by
    have := Box4.new (w.alloc (.cells #[.int .i64 q, .slice (some ⟨g1, 0, none⟩) nm c1, .slice (some ⟨G, 0, none⟩) 3 c, .slice (some ⟨g3, 0, none⟩) ns c3] 31)) 31 (.int .i64 0) (.slice none 0 0) (.slice none 0 0) (.slice none 0 0)
    rw [World.size_alloc] at this
    rw [hW, hX]
    exact this
  have kx : BlockOf W X 31 4 ∧ BlockOf W (X + 1) 31 4 := by
    rw [hW, hX]
    refine ⟨BlockOf.below ⟨_, (by show (w.heap.push _)[w.heap.size]? = _; exact Array.getElem?_push_size), rfl⟩ ((Below.refl _ _).alloc (Nat.le_refl _) _), ?_⟩
    refine ⟨#[.int .i64 0, .slice none 0 0, .slice none 0 0, .slice none 0 0], ?_, rfl⟩
    show ((w.heap.push _).push _)[w.heap.size + 1]? = _
    have := Array.getElem?_push_size (xs := w.heap.push (.cells #[.int .i64 q, .slice (some ⟨g1, 0, none⟩) nm c1, .slice (some ⟨G, 0, none⟩) 3 c, .slice (some ⟨g3, 0, none⟩) ns c3] 31 (0, 0))) (x := .cells #[.int .i64 0, .slice none 0 0, .slice none 0 0, .slice none 0 0] 31 (0, 0))
    rw [Array.size_push] at this
    exact this
  have ST : Hid (FlSt b0 w W base X q g1 nm c1 G c g3 ns c3 gA dA gB dB gC dC M A B C S) := ⟨kW.mono (Nat.le_trans hb0 hbw), bx, br, hcp.mem.below kW, rowg_keep hcp.sn kW, rowg_keep hrow kW, hrA.below kW, hrB.below kW, hrC.below kW, kx, ⟨hne1, hne2⟩, ⟨hb0, Nat.le_trans hb0 hbw, by rw [hX]; exact Nat.le_refl _⟩⟩
  have hcpW := hcp.below kW
  clear hcp hrow hrA hrB hrC hne1 hne2 kW bx br kx hsl hrc
  have x0 := ST.out.bx.c0
  have x1 := ST.out.bx.c1
  have x2 := ST.out.bx.c2
  have x3 := ST.out.bx.c3
  have xf := ST.out.bx.fz
  have xz := ST.out.bx.lt
  have r0 := ST.out.br.c0
  have r1 := ST.out.br.c1
  have r2 := ST.out.br.c2
  have r3 := ST.out.br.c3
  have rf := ST.out.br.fz
  have rz := ST.out.br.lt
  obtain ⟨h0, _, _, hz, _⟩ := ST.out.head
  have HCP : Hid (CopyG base W g1 nm c1 G 3 c g3 ns c3 M [A, B, C] S) := hcpW
  by_cases hm : nm = 0
  · subst hm
    go_enter Tryz.func62, Tryz.ntmps62
    go_upto_region 1 with fail
    rw [← hX, ← hW]
    clear hX hW
    go_wp2
    refine bodyPost_ret (v := .tuple #[.agg #[.int .i64 q, .slice (some ⟨g1, 0, none⟩) 0 c1, .slice (some ⟨G, 0, none⟩) 3 c, .slice (some ⟨g3, 0, none⟩) ns c3], .bool false]) ?_ rfl ?_
    · have e := (((ST.out.br.set0 (.int .i64 q)).set1 (.slice (some ⟨g1, 0, none⟩) 0 c1)).set2 (.slice (some ⟨G, 0, none⟩) 3 c)).set3 (.slice (some ⟨g3, 0, none⟩) ns c3)
      simp [results, Tryz.results62, go_sem, e.c0, e.c1, e.c2, e.c3]
    · have hx : b0 ≤ X + 1 := by have := ST.out.top; omega
      refine ⟨_, _, _, _, _, _, _, _, _, rfl, (((((HCP.out.kind ST.out.kx.2 (by decide) (by decide) (by decide) (by decide) (setg _ _ _ _)).kind (ST.out.kx.2.setCell _) (by decide) (by decide) (by decide) (by decide) (setg _ _ _ _)).kind ((ST.out.kx.2.setCell _).setCell _) (by decide) (by decide) (by decide) (by decide) (setg _ _ _ _)).kind (((ST.out.kx.2.setCell _).setCell _).setCell _) (by decide) (by decide) (by decide) (by decide) (setg _ _ _ _))).treeIn, ?_⟩
      exact (((ST.out.low.setCell (p := ⟨X + 1, 0, none⟩) hx _).setCell (p := ⟨X + 1, 1, none⟩) hx _).setCell (p := ⟨X + 1, 2, none⟩) hx _).setCell (p := ⟨X + 1, 3, none⟩) hx _
  · have hA : 4 ≤ A.length := by omega
    have hA4 : (A.length : Int) ≥ 4 := by omega
    obtain ⟨la, hla⟩ : ∃ la, la = A.length := ⟨_, rfl⟩
    rw [← hla] at h0 hA4
    have hmI : ¬ (nm : Int) = 0 := by omega
    clear hla
    go_enter Tryz.func62, Tryz.ntmps62
    go_upto_region 1 with fail
    rw [← hX, ← hW]
    clear hX hW
    go_wp2
    refine bodyPost_ret (v := .tuple #[.agg #[.int .i64 q, .slice (some ⟨g1, 0, none⟩) nm c1, .slice (some ⟨G, 0, none⟩) 3 c, .slice (some ⟨g3, 0, none⟩) ns c3], .bool false]) ?_ rfl ?_
    · have e := (((ST.out.br.set0 (.int .i64 q)).set1 (.slice (some ⟨g1, 0, none⟩) nm c1)).set2 (.slice (some ⟨G, 0, none⟩) 3 c)).set3 (.slice (some ⟨g3, 0, none⟩) ns c3)
      simp [results, Tryz.results62, go_sem, e.c0, e.c1, e.c2, e.c3]
    · have hx : b0 ≤ X + 1 := by have := ST.out.top; omega
      refine ⟨_, _, _, _, _, _, _, _, _, rfl, (((((HCP.out.kind ST.out.kx.2 (by decide) (by decide) (by decide) (by decide) (setg _ _ _ _)).kind (ST.out.kx.2.setCell _) (by decide) (by decide) (by decide) (by decide) (setg _ _ _ _)).kind ((ST.out.kx.2.setCell _).setCell _) (by decide) (by decide) (by decide) (by decide) (setg _ _ _ _)).kind (((ST.out.kx.2.setCell _).setCell _).setCell _) (by decide) (by decide) (by decide) (by decide) (setg _ _ _ _))).treeIn, ?_⟩
      exact (((ST.out.low.setCell (p := ⟨X + 1, 0, none⟩) hx _).setCell (p := ⟨X + 1, 1, none⟩) hx _).setCell (p := ⟨X + 1, 2, none⟩) hx _).setCell (p := ⟨X + 1, 3, none⟩) hx _
theorem specFlushY (base : Nat) (q : Int) (g1 nm c1 G c g3 ns c3 : Nat) (M : List EntD) (A B C : List RunD) (S : List Int) (w : World) (hcp : CopyG base w g1 nm c1 G 3 c g3 ns c3 M [A, B, C] S) (b0 : Nat) (hb0 : b0 ≤ base) (hbw : base ≤ w.heap.size) (hnm : 1 ≤ nm) (hnm2 : nm ≤ 1048576) (hA : A.length < 4) :
    Calls Tryz.prog 62 #[.agg #[.int .i64 q, .slice (some ⟨g1, 0, none⟩) nm c1, .slice (some ⟨G, 0, none⟩) 3 c, .slice (some ⟨g3, 0, none⟩) ns c3]] w (DocRB b0 base q [] [A ++ [flushR M S], B, C] S true w) := by
  obtain ⟨gA, dA, gB, dB, gC, dC, hrow, hrA, hrB, hrC, hne1, hne2⟩ := hcp.split
  have hml := hcp.mem.len
  have hsl := hcp.slen
  have HSW : Hid (∀ z ∈ S, (Lit.int .i64 z).wf = true) := hcp.swf
  have HSL : Hid (S.length = ns) := hsl
  have hrc := row_rooms hrow
  have HC3 : Hid (3 ≤ c ∧ c ≤ maxLen) := hrc
  have HGB : Hid (base ≤ G) := (hrow.lt G rfl).1
  obtain ⟨X, hX⟩ : ∃ X, X = w.heap.size := ⟨_, rfl⟩
  obtain ⟨W, hW⟩ : ∃ W, W = (w.alloc (.cells #[.int .i64 q, .slice (some ⟨g1, 0, none⟩) nm c1, .slice (some ⟨G, 0, none⟩) 3 c, .slice (some ⟨g3, 0, none⟩) ns c3] 31)).alloc (.cells #[.int .i64 0, .slice none 0 0, .slice none 0 0, .slice none 0 0] 31) := ⟨_, rfl⟩
  have kW : Below w.heap.size w W := by rw [hW]; exact ((Below.refl _ _).alloc (Nat.le_refl _) _).alloc (by simp) _
  have bx : Box4 W X (.int .i64 q) (.slice (some ⟨g1, 0, none⟩) nm c1) (.slice (some ⟨G, 0, none⟩) 3 c) (.slice (some ⟨g3, 0, none⟩) ns c3) := by rw [hW, hX]; exact (Box4.new _ _ _ _ _ _).alloc _
  have br : Box4 W (X + 1) (.int .i64 0) (.slice none 0 0) (.slice none 0 0) (.slice none 0 0) := by
    have := Box4.new (w.alloc (.cells #[.int .i64 q, .slice (some ⟨g1, 0, none⟩) nm c1, .slice (some ⟨G, 0, none⟩) 3 c, .slice (some ⟨g3, 0, none⟩) ns c3] 31)) 31 (.int .i64 0) (.slice none 0 0) (.slice none 0 0) (.slice none 0 0)
    rw [World.size_alloc] at this
    rw [hW, hX]
    exact this
  have kx : BlockOf W X 31 4 ∧ BlockOf W (X + 1) 31 4 := by
    rw [hW, hX]
    refine ⟨BlockOf.below ⟨_, (by show (w.heap.push _)[w.heap.size]? = _; exact Array.getElem?_push_size), rfl⟩ ((Below.refl _ _).alloc (Nat.le_refl _) _), ?_⟩
    refine ⟨#[.int .i64 0, .slice none 0 0, .slice none 0 0, .slice none 0 0], ?_, rfl⟩
    show ((w.heap.push _).push _)[w.heap.size + 1]? = _
    have := Array.getElem?_push_size (xs := w.heap.push (.cells #[.int .i64 q, .slice (some ⟨g1, 0, none⟩) nm c1, .slice (some ⟨G, 0, none⟩) 3 c, .slice (some ⟨g3, 0, none⟩) ns c3] 31 (0, 0))) (x := .cells #[.int .i64 0, .slice none 0 0, .slice none 0 0, .slice none 0 0] 31 (0, 0))
    rw [Array.size_push] at this
    exact this
  have ST : Hid (FlSt b0 w W base X q g1 nm c1 G c g3 ns c3 gA dA gB dB gC dC M A B C S) := ⟨kW.mono (Nat.le_trans hb0 hbw), bx, br, hcp.mem.below kW, rowg_keep hcp.sn kW, rowg_keep hrow kW, hrA.below kW, hrB.below kW, hrC.below kW, kx, ⟨hne1, hne2⟩, ⟨hb0, Nat.le_trans hb0 hbw, by rw [hX]; exact Nat.le_refl _⟩⟩
  clear hcp hrow hrA hrB hrC hne1 hne2 kW bx br kx hsl hrc
  have x0 := ST.out.bx.c0
  have x1 := ST.out.bx.c1
  have x2 := ST.out.bx.c2
  have x3 := ST.out.bx.c3
  have xf := ST.out.bx.fz
  have xz := ST.out.bx.lt
  have r0 := ST.out.br.c0
  have r1 := ST.out.br.c1
  have r2 := ST.out.br.c2
  have r3 := ST.out.br.c3
  have rf := ST.out.br.fz
  have rz := ST.out.br.lt
  obtain ⟨h0, _, _, hz, _⟩ := ST.out.head
  obtain ⟨L, hL⟩ : ∃ L, L = squashL M S false := ⟨_, rfl⟩
  obtain ⟨m, hm⟩ : ∃ m : Int, m = ((maskL L : Nat) : Int) := ⟨_, rfl⟩
  have HMW : Hid ((Lit.int .i64 m).wf = true) := by have := maskL_lt L; rw [hm]; exact WalkArith.wf_i64 (by omega)
  have CQ : Hid (∀ w', EntsAt w' (some ⟨g1, 0, none⟩) nm c1 M → w'.ownsRow base 3 1 (.slice (some ⟨g3, 0, none⟩) ns c3) ns (S.map (Value.int .i64)) → Calls Tryz.prog 97 #[.slice (some ⟨g1, 0, none⟩) nm c1, .slice (some ⟨g3, 0, none⟩) ns c3, .bool false] w' fun e w'' => ∃ gl nl cl, e = .returned (.slice (some ⟨gl, 0, none⟩) nl cl) ∧ OwnE w'' w'.heap.size gl nl cl L ∧ Below w'.heap.size w' w'') := fun w' h1 h2 => by
    rw [hL]
    exact specSquash base _ nm c1 M _ ns c3 S false w' h1 (intsIn_row h2 HSL.out HSW.out) hnm2
  have CL4 : Hid (∀ (gl nl cl : Nat) (w' : World), EntsAt w' (some ⟨gl, 0, none⟩) nl cl L → Calls Tryz.prog 96 #[.slice (some ⟨gl, 0, none⟩) nl cl] w' fun e w'' => e = .returned (.agg #[.slice (some ⟨gl, 0, none⟩) nl cl, .int .i64 m]) ∧ Below w'.heap.size w' w'') := fun gl nl cl w' h => by
    rw [hm]
    exact specRunL _ nl cl L w' h
  have hfr : flushR M S = (L, m) := by unfold flushR; rw [hm, hL]
  rw [hfr]
  clear hfr hL hm
  obtain ⟨i0, hi, hz0, hz1, hz2⟩ := info_parts Tryz.infoRun
  have hA4 : ¬ (A.length : Int) ≥ 4 := by omega
  have hA5 : A.length + 1 ≤ 4 := by omega
  have hmI : ¬ (nm : Int) = 0 := by omega
  have HBS : Hid (∀ w' : World, Below b0 w w' → base ≤ w'.heap.size) := fun w' k => Nat.le_trans hbw k.size
  have k0 : FlSt b0 w W.drew base X q g1 nm c1 G c g3 ns c3 gA dA gB dB gC dC M A B C S := ST.out.below (Below.refl _ W).drew
  clear hA hml hb0 hbw
  go_enter Tryz.func62, Tryz.ntmps62
  go_upto_region 1 with fail
  rw [← hX, ← hW]
  clear hX hW
  go_upto_region 3 with fail
  clear x0 x1 x2 x3 xf xz r0 r1 r2 r3 rf rz h0 hz ST
  refine wp_region_held_drew (S := (fun w' => w'.cell? ⟨X, 1, none⟩ = some (.slice (some ⟨g1, 0, none⟩) nm c1) ∧ w'.cell? ⟨X, 2, none⟩ = some (.slice (some ⟨G, 0, none⟩) 3 c) ∧ w'.cell? ⟨X, 3, none⟩ = some (.slice (some ⟨g3, 0, none⟩) ns c3) ∧ X < w'.heap.size ∧ G < w'.heap.size)) (by kernel_rfl) (⟨k0.bx.c1, k0.bx.c2, k0.bx.c3, k0.bx.lt, k0.head.2.2.2.1⟩) (fun hHeld => ?_)
  generalize W.drew = wd at k0 hHeld ⊢
  refine tkL 0 hHeld ?_; try go_frame
  refine tkL 1 hHeld ?_; try go_frame
  refine tkL 2 hHeld ?_; try go_frame
  refine tkL 3 hHeld ?_; try go_frame
  refine tkL 4 hHeld ?_; try go_frame
  refine tkL 6 hHeld ?_; try go_frame
  refine tkL 7 hHeld ?_; try go_frame
  refine tkL 8 hHeld ?_; try go_frame
  refine tkL 9 hHeld ?_; try go_frame
  refine wpAnyH_ready (rs := [5, 10]) (by kernel_rfl) (by simp) ?_
  refine consL rfl (fun K hK => ?_) (consL rfl (fun K hK => ?_) AllReadyH.nil)
  · have q5 := k0.head.1
    go_simp
    clear q5
    refine hK.out _ _ (⟨k0.bx.c1, k0.bx.c2, k0.bx.c3, k0.bx.lt, k0.head.2.2.2.1⟩) (fun hHeld => ?_)
    clear hK K
    try go_frame
    refine wpAnyH_ready (rs := [10]) (by kernel_rfl) (by simp) ?_
    refine consL rfl (fun K hK => ?_) AllReadyH.nil
    go_simp
    refine (CQ.out _ k0.mem.entsAt k0.sn).mono ?_
    rintro e w1 ⟨gl, nl, cl, rfl, hO1, hb1⟩
    have k1 := k0.below hb1
    have o1 : OwnE w1 base gl nl cl L := hO1.mono (HBS.out _ k0.low)
    go_wp2_with fail
    refine hK.out _ _ (⟨k1.bx.c1, k1.bx.c2, k1.bx.c3, k1.bx.lt, k1.head.2.2.2.1⟩) (fun hHeld => ?_)
    clear hK K
    try go_frame
    refine wpAnyH_ready (rs := [11]) (by kernel_rfl) (by simp) ?_
    refine consL rfl (fun K hK => ?_) AllReadyH.nil
    go_simp
    refine (CL4.out _ _ _ _ o1.entsAt).mono ?_
    rintro e w2 ⟨rfl, hb2⟩
    have k2 := k1.below hb2
    have o2 := o1.below hb2
    go_wp2_with fail
    refine hK.out _ _ (⟨k2.bx.c1, k2.bx.c2, k2.bx.c3, k2.bx.lt, k2.head.2.2.2.1⟩) (fun hHeld => ?_)
    clear hK K
    try go_frame
    refine wpAnyH_ready (rs := [12]) (by kernel_rfl) (by simp) ?_
    refine consL rfl (fun K hK => ?_) AllReadyH.nil
    go_simp
    have kc : Below w2.heap.size w2 (w2.alloc (.cells #[.slice (some ⟨gl, 0, none⟩) nl cl, .int .i64 m] 102)) := (Below.refl _ _).alloc (Nat.le_refl _) _
    have k3 := k2.below kc
    have o3 := o2.below kc
    have hcn := cell_two_new' w2 (.slice (some ⟨gl, 0, none⟩) nl cl) (.int .i64 m) 102
    generalize w2.heap.size = gb at hcn ⊢
    generalize w2.alloc (.cells #[.slice (some ⟨gl, 0, none⟩) nl cl, .int .i64 m] 102) = wb at k3 o3 hcn ⊢
    refine hK.out _ _ (⟨k3.bx.c1, k3.bx.c2, k3.bx.c3, k3.bx.lt, k3.head.2.2.2.1⟩) (fun hHeld => ?_)
    clear hK K
    try go_frame
    refine wpAnyH_ready (rs := [13]) (by kernel_rfl) (by simp) ?_
    refine consL rfl (fun K hK => ?_) AllReadyH.nil
    obtain ⟨a1, a2, xsA, a3, a4⟩ := k3.rA
    have hXg : X ≠ gA := fun e => by subst e; obtain ⟨_, kk⟩ := kind_row a3; exact absurd (k3.kx.1.kind kk) (by decide)
    refine step_append_own rfl (.tmp 22) (.tmp 29) 64 rfl base 102 i0 _ 2 32 Tryz.underlying64 hi hz0 hz1 hz2 rfl (by decide) _ _ _ rfl a3 ⟨gb, 0, none⟩ 1 1 [.slice (some ⟨gl, 0, none⟩) nl cl, .int .i64 m] rfl rfl hcn (by intro u hu; simp at hu; rcases hu with rfl | rfl <;> rfl) ?_ ?_ ?_ ?_
    · unfold maxLen; omega
    · omega
    · have h1 := (a3.lt gA rfl); omega
    intro v8 w8 ho8 hg8 hn8
    obtain ⟨g8, c8, rfl⟩ := ownsRow_succ ho8
    have hg8' : wb.grownBy w8 (some gA) := hg8
    refine hK.out _ _ (⟨(k3.bx.grownB hg8' hXg).c1, (k3.bx.grownB hg8' hXg).c2, (k3.bx.grownB hg8' hXg).c3, (k3.bx.grownB hg8' hXg).lt, Nat.lt_of_lt_of_le k3.head.2.2.2.1 hg8'.size⟩) (fun hHeld => ?_)
    clear hK K
    try go_frame
    refine tkL 14 hHeld ?_; try go_frame
    refine wpAnyH_ready (rs := [15]) (by kernel_rfl) (by simp) ?_
    refine consL rfl (fun K hK => ?_) AllReadyH.nil
    have hGA : G ≠ gA := fun e => by subst e; obtain ⟨_, kk⟩ := kind_row a3; obtain ⟨_, kr⟩ := kind_row k3.row; exact absurd (kr.kind kk) (by decide)
    have hGs : some G ≠ some gA := fun e => hGA (Option.some.inj e)
    have q0 := hg8'.cell k3.head.1 hGs
    have qf := (grown_frozen hg8' (x := ⟨G, 0, none⟩) k3.head.2.2.2.1 hGs).trans k3.head.2.2.2.2
    have qz := Nat.lt_of_lt_of_le k3.head.2.2.2.1 hg8'.size
    go_simp
    have ks : FlEnd b0 w (w8.setCell ⟨G, 0, none⟩ (.slice (some ⟨g8, 0, none⟩) (A.length + 1) c8)) base X (.int .i64 q) (.slice (some ⟨g1, 0, none⟩) nm c1) (.slice (some ⟨G, 0, none⟩) 3 c) (.slice (some ⟨g3, 0, none⟩) ns c3) G c g3 ns c3 g8 c8 (A.length + 1) gB dB gC dC (A ++ [(L, m)]) B C S := flEnd_put k3 o3 HMW.out a2 a3 a4 hg8' ho8
    clear q0 qf qz
    refine hK.out _ _ (⟨ks.bx.c1, ks.bx.c2, ks.bx.c3, ks.bx.lt, World.block_lt_of_cell? _ _ ks.cells.1⟩) (fun hHeld => ?_)
    clear hK K
    try go_frame
    refine wpAnyH_done (by kernel_rfl) ?_ _
    obtain ⟨w9, hw9⟩ : ∃ w9, w9 = w8.setCell ⟨G, 0, none⟩ (.slice (some ⟨g8, 0, none⟩) (A.length + 1) c8) := ⟨_, rfl⟩
    rw [← hw9] at ks
    have KS : Hid (FlEnd b0 w w9 base X (.int .i64 q) (.slice (some ⟨g1, 0, none⟩) nm c1) (.slice (some ⟨G, 0, none⟩) 3 c) (.slice (some ⟨g3, 0, none⟩) ns c3) G c g3 ns c3 g8 c8 (A.length + 1) gB dB gC dC (A ++ [(L, m)]) B C S) := ks
    rw [← hw9]
    clear hw9 ks k3 o3 hcn hg8' ho8 a1 a2 a3 a4 hXg hGA hGs hHeld k0 k1 k2 o1 o2
    have y1 := KS.out.bx.c1
    have yf := KS.out.bx.fz
    have yz := KS.out.bx.lt
    obtain ⟨wA, hwA⟩ : ∃ wA, wA = (w9.setCell ⟨X, 1, none⟩ (.slice (some ⟨w9.heap.size, 0, none⟩) 0 0)).alloc (.cells #[] 78) := ⟨_, rfl⟩
    obtain ⟨ge, hge⟩ : ∃ ge, ge = w9.heap.size := ⟨_, rfl⟩
    have KA : Hid (FlEnd b0 w wA base X (.int .i64 q) (.slice (some ⟨ge, 0, none⟩) 0 0) (.slice (some ⟨G, 0, none⟩) 3 c) (.slice (some ⟨g3, 0, none⟩) ns c3) G c g3 ns c3 g8 c8 (A.length + 1) gB dB gC dC (A ++ [(L, m)]) B C S) := by
      rw [hwA, ← hge]
      refine FlEnd.below ?_ ((Below.refl _ _).alloc (Nat.le_refl _) _)
      exact flEnd_set KS.out KS.out.kx.1 (by have := KS.out.top; omega) (KS.out.bx.set1 _) (KS.out.br.other (by omega) _)
    go_upto_region 5 with fail
    rw [← hwA]
    try rw [← hge]
    clear hwA hge y1 yf yz KS
    have y0 := KA.out.bx.c0
    have y1 := KA.out.bx.c1
    have y2 := KA.out.bx.c2
    have y3 := KA.out.bx.c3
    have yz := KA.out.bx.lt
    have r0 := KA.out.br.c0
    have r1 := KA.out.br.c1
    have r2 := KA.out.br.c2
    have r3 := KA.out.br.c3
    have rf := KA.out.br.fz
    have rz := KA.out.br.lt
    go_wp2
    refine bodyPost_ret (v := .tuple #[.agg #[.int .i64 q, .slice (some ⟨ge, 0, none⟩) 0 0, .slice (some ⟨G, 0, none⟩) 3 c, .slice (some ⟨g3, 0, none⟩) ns c3], .bool true]) ?_ rfl ?_
    · have e := (((KA.out.br.set0 (.int .i64 q)).set1 (.slice (some ⟨ge, 0, none⟩) 0 0)).set2 (.slice (some ⟨G, 0, none⟩) 3 c)).set3 (.slice (some ⟨g3, 0, none⟩) ns c3)
      simp [results, Tryz.results62, go_sem, e.c0, e.c1, e.c2, e.c3]
    · exact docR_flush KA.out HGB.out HC3.out.1 HC3.out.2 HSL.out HSW.out _ _ _ _
  · go_simp
    refine (CQ.out _ k0.mem.entsAt k0.sn).mono ?_
    rintro e w1 ⟨gl, nl, cl, rfl, hO1, hb1⟩
    have k1 := k0.below hb1
    have o1 : OwnE w1 base gl nl cl L := hO1.mono (HBS.out _ k0.low)
    go_wp2_with fail
    refine hK.out _ _ (⟨k1.bx.c1, k1.bx.c2, k1.bx.c3, k1.bx.lt, k1.head.2.2.2.1⟩) (fun hHeld => ?_)
    clear hK K
    try go_frame
    refine wpAnyH_ready (rs := [5, 11]) (by kernel_rfl) (by simp) ?_
    refine consL rfl (fun K hK => ?_) (consL rfl (fun K hK => ?_) AllReadyH.nil)
    · have q5 := k1.head.1
      go_simp
      clear q5
      refine hK.out _ _ (⟨k1.bx.c1, k1.bx.c2, k1.bx.c3, k1.bx.lt, k1.head.2.2.2.1⟩) (fun hHeld => ?_)
      clear hK K
      try go_frame
      refine wpAnyH_ready (rs := [11]) (by kernel_rfl) (by simp) ?_
      refine consL rfl (fun K hK => ?_) AllReadyH.nil
      go_simp
      refine (CL4.out _ _ _ _ o1.entsAt).mono ?_
      rintro e w2 ⟨rfl, hb2⟩
      have k2 := k1.below hb2
      have o2 := o1.below hb2
      go_wp2_with fail
      refine hK.out _ _ (⟨k2.bx.c1, k2.bx.c2, k2.bx.c3, k2.bx.lt, k2.head.2.2.2.1⟩) (fun hHeld => ?_)
      clear hK K
      try go_frame
      refine wpAnyH_ready (rs := [12]) (by kernel_rfl) (by simp) ?_
      refine consL rfl (fun K hK => ?_) AllReadyH.nil
      go_simp
      have kc : Below w2.heap.size w2 (w2.alloc (.cells #[.slice (some ⟨gl, 0, none⟩) nl cl, .int .i64 m] 102)) := (Below.refl _ _).alloc (Nat.le_refl _) _
      have k3 := k2.below kc
      have o3 := o2.below kc
      have hcn := cell_two_new' w2 (.slice (some ⟨gl, 0, none⟩) nl cl) (.int .i64 m) 102
      generalize w2.heap.size = gb at hcn ⊢
      generalize w2.alloc (.cells #[.slice (some ⟨gl, 0, none⟩) nl cl, .int .i64 m] 102) = wb at k3 o3 hcn ⊢
      refine hK.out _ _ (⟨k3.bx.c1, k3.bx.c2, k3.bx.c3, k3.bx.lt, k3.head.2.2.2.1⟩) (fun hHeld => ?_)
      clear hK K
      try go_frame
      refine wpAnyH_ready (rs := [13]) (by kernel_rfl) (by simp) ?_
      refine consL rfl (fun K hK => ?_) AllReadyH.nil
      obtain ⟨a1, a2, xsA, a3, a4⟩ := k3.rA
      have hXg : X ≠ gA := fun e => by subst e; obtain ⟨_, kk⟩ := kind_row a3; exact absurd (k3.kx.1.kind kk) (by decide)
      refine step_append_own rfl (.tmp 22) (.tmp 29) 64 rfl base 102 i0 _ 2 32 Tryz.underlying64 hi hz0 hz1 hz2 rfl (by decide) _ _ _ rfl a3 ⟨gb, 0, none⟩ 1 1 [.slice (some ⟨gl, 0, none⟩) nl cl, .int .i64 m] rfl rfl hcn (by intro u hu; simp at hu; rcases hu with rfl | rfl <;> rfl) ?_ ?_ ?_ ?_
      · unfold maxLen; omega
      · omega
      · have h1 := (a3.lt gA rfl); omega
      intro v8 w8 ho8 hg8 hn8
      obtain ⟨g8, c8, rfl⟩ := ownsRow_succ ho8
      have hg8' : wb.grownBy w8 (some gA) := hg8
      refine hK.out _ _ (⟨(k3.bx.grownB hg8' hXg).c1, (k3.bx.grownB hg8' hXg).c2, (k3.bx.grownB hg8' hXg).c3, (k3.bx.grownB hg8' hXg).lt, Nat.lt_of_lt_of_le k3.head.2.2.2.1 hg8'.size⟩) (fun hHeld => ?_)
      clear hK K
      try go_frame
      refine tkL 14 hHeld ?_; try go_frame
      refine wpAnyH_ready (rs := [15]) (by kernel_rfl) (by simp) ?_
      refine consL rfl (fun K hK => ?_) AllReadyH.nil
      have hGA : G ≠ gA := fun e => by subst e; obtain ⟨_, kk⟩ := kind_row a3; obtain ⟨_, kr⟩ := kind_row k3.row; exact absurd (kr.kind kk) (by decide)
      have hGs : some G ≠ some gA := fun e => hGA (Option.some.inj e)
      have q0 := hg8'.cell k3.head.1 hGs
      have qf := (grown_frozen hg8' (x := ⟨G, 0, none⟩) k3.head.2.2.2.1 hGs).trans k3.head.2.2.2.2
      have qz := Nat.lt_of_lt_of_le k3.head.2.2.2.1 hg8'.size
      go_simp
      have ks : FlEnd b0 w (w8.setCell ⟨G, 0, none⟩ (.slice (some ⟨g8, 0, none⟩) (A.length + 1) c8)) base X (.int .i64 q) (.slice (some ⟨g1, 0, none⟩) nm c1) (.slice (some ⟨G, 0, none⟩) 3 c) (.slice (some ⟨g3, 0, none⟩) ns c3) G c g3 ns c3 g8 c8 (A.length + 1) gB dB gC dC (A ++ [(L, m)]) B C S := flEnd_put k3 o3 HMW.out a2 a3 a4 hg8' ho8
      clear q0 qf qz
      refine hK.out _ _ (⟨ks.bx.c1, ks.bx.c2, ks.bx.c3, ks.bx.lt, World.block_lt_of_cell? _ _ ks.cells.1⟩) (fun hHeld => ?_)
      clear hK K
      try go_frame
      refine wpAnyH_done (by kernel_rfl) ?_ _
      obtain ⟨w9, hw9⟩ : ∃ w9, w9 = w8.setCell ⟨G, 0, none⟩ (.slice (some ⟨g8, 0, none⟩) (A.length + 1) c8) := ⟨_, rfl⟩
      rw [← hw9] at ks
      have KS : Hid (FlEnd b0 w w9 base X (.int .i64 q) (.slice (some ⟨g1, 0, none⟩) nm c1) (.slice (some ⟨G, 0, none⟩) 3 c) (.slice (some ⟨g3, 0, none⟩) ns c3) G c g3 ns c3 g8 c8 (A.length + 1) gB dB gC dC (A ++ [(L, m)]) B C S) := ks
      rw [← hw9]
      clear hw9 ks k3 o3 hcn hg8' ho8 a1 a2 a3 a4 hXg hGA hGs hHeld k0 k1 k2 o1 o2
      have y1 := KS.out.bx.c1
      have yf := KS.out.bx.fz
      have yz := KS.out.bx.lt
      obtain ⟨wA, hwA⟩ : ∃ wA, wA = (w9.setCell ⟨X, 1, none⟩ (.slice (some ⟨w9.heap.size, 0, none⟩) 0 0)).alloc (.cells #[] 78) := ⟨_, rfl⟩
      obtain ⟨ge, hge⟩ : ∃ ge, ge = w9.heap.size := ⟨_, rfl⟩
      have KA : Hid (FlEnd b0 w wA base X (.int .i64 q) (.slice (some ⟨ge, 0, none⟩) 0 0) (.slice (some ⟨G, 0, none⟩) 3 c) (.slice (some ⟨g3, 0, none⟩) ns c3) G c g3 ns c3 g8 c8 (A.length + 1) gB dB gC dC (A ++ [(L, m)]) B C S) := by
        rw [hwA, ← hge]
        refine FlEnd.below ?_ ((Below.refl _ _).alloc (Nat.le_refl _) _)
        exact flEnd_set KS.out KS.out.kx.1 (by have := KS.out.top; omega) (KS.out.bx.set1 _) (KS.out.br.other (by omega) _)
      go_upto_region 5 with fail
      rw [← hwA]
      try rw [← hge]
      clear hwA hge y1 yf yz KS
      have y0 := KA.out.bx.c0
      have y1 := KA.out.bx.c1
      have y2 := KA.out.bx.c2
      have y3 := KA.out.bx.c3
      have yz := KA.out.bx.lt
      have r0 := KA.out.br.c0
      have r1 := KA.out.br.c1
      have r2 := KA.out.br.c2
      have r3 := KA.out.br.c3
      have rf := KA.out.br.fz
      have rz := KA.out.br.lt
      go_wp2
      refine bodyPost_ret (v := .tuple #[.agg #[.int .i64 q, .slice (some ⟨ge, 0, none⟩) 0 0, .slice (some ⟨G, 0, none⟩) 3 c, .slice (some ⟨g3, 0, none⟩) ns c3], .bool true]) ?_ rfl ?_
      · have e := (((KA.out.br.set0 (.int .i64 q)).set1 (.slice (some ⟨ge, 0, none⟩) 0 0)).set2 (.slice (some ⟨G, 0, none⟩) 3 c)).set3 (.slice (some ⟨g3, 0, none⟩) ns c3)
        simp [results, Tryz.results62, go_sem, e.c0, e.c1, e.c2, e.c3]
      · exact docR_flush KA.out HGB.out HC3.out.1 HC3.out.2 HSL.out HSW.out _ _ _ _
    · go_simp
      refine (CL4.out _ _ _ _ o1.entsAt).mono ?_
      rintro e w2 ⟨rfl, hb2⟩
      have k2 := k1.below hb2
      have o2 := o1.below hb2
      go_wp2_with fail
      refine hK.out _ _ (⟨k2.bx.c1, k2.bx.c2, k2.bx.c3, k2.bx.lt, k2.head.2.2.2.1⟩) (fun hHeld => ?_)
      clear hK K
      try go_frame
      refine wpAnyH_ready (rs := [5, 12]) (by kernel_rfl) (by simp) ?_
      refine consL rfl (fun K hK => ?_) (consL rfl (fun K hK => ?_) AllReadyH.nil)
      · have q5 := k2.head.1
        go_simp
        clear q5
        refine hK.out _ _ (⟨k2.bx.c1, k2.bx.c2, k2.bx.c3, k2.bx.lt, k2.head.2.2.2.1⟩) (fun hHeld => ?_)
        clear hK K
        try go_frame
        refine wpAnyH_ready (rs := [12]) (by kernel_rfl) (by simp) ?_
        refine consL rfl (fun K hK => ?_) AllReadyH.nil
        go_simp
        have kc : Below w2.heap.size w2 (w2.alloc (.cells #[.slice (some ⟨gl, 0, none⟩) nl cl, .int .i64 m] 102)) := (Below.refl _ _).alloc (Nat.le_refl _) _
        have k3 := k2.below kc
        have o3 := o2.below kc
        have hcn := cell_two_new' w2 (.slice (some ⟨gl, 0, none⟩) nl cl) (.int .i64 m) 102
        generalize w2.heap.size = gb at hcn ⊢
        generalize w2.alloc (.cells #[.slice (some ⟨gl, 0, none⟩) nl cl, .int .i64 m] 102) = wb at k3 o3 hcn ⊢
        refine hK.out _ _ (⟨k3.bx.c1, k3.bx.c2, k3.bx.c3, k3.bx.lt, k3.head.2.2.2.1⟩) (fun hHeld => ?_)
        clear hK K
        try go_frame
        refine wpAnyH_ready (rs := [13]) (by kernel_rfl) (by simp) ?_
        refine consL rfl (fun K hK => ?_) AllReadyH.nil
        obtain ⟨a1, a2, xsA, a3, a4⟩ := k3.rA
        have hXg : X ≠ gA := fun e => by subst e; obtain ⟨_, kk⟩ := kind_row a3; exact absurd (k3.kx.1.kind kk) (by decide)
        refine step_append_own rfl (.tmp 22) (.tmp 29) 64 rfl base 102 i0 _ 2 32 Tryz.underlying64 hi hz0 hz1 hz2 rfl (by decide) _ _ _ rfl a3 ⟨gb, 0, none⟩ 1 1 [.slice (some ⟨gl, 0, none⟩) nl cl, .int .i64 m] rfl rfl hcn (by intro u hu; simp at hu; rcases hu with rfl | rfl <;> rfl) ?_ ?_ ?_ ?_
        · unfold maxLen; omega
        · omega
        · have h1 := (a3.lt gA rfl); omega
        intro v8 w8 ho8 hg8 hn8
        obtain ⟨g8, c8, rfl⟩ := ownsRow_succ ho8
        have hg8' : wb.grownBy w8 (some gA) := hg8
        refine hK.out _ _ (⟨(k3.bx.grownB hg8' hXg).c1, (k3.bx.grownB hg8' hXg).c2, (k3.bx.grownB hg8' hXg).c3, (k3.bx.grownB hg8' hXg).lt, Nat.lt_of_lt_of_le k3.head.2.2.2.1 hg8'.size⟩) (fun hHeld => ?_)
        clear hK K
        try go_frame
        refine tkL 14 hHeld ?_; try go_frame
        refine wpAnyH_ready (rs := [15]) (by kernel_rfl) (by simp) ?_
        refine consL rfl (fun K hK => ?_) AllReadyH.nil
        have hGA : G ≠ gA := fun e => by subst e; obtain ⟨_, kk⟩ := kind_row a3; obtain ⟨_, kr⟩ := kind_row k3.row; exact absurd (kr.kind kk) (by decide)
        have hGs : some G ≠ some gA := fun e => hGA (Option.some.inj e)
        have q0 := hg8'.cell k3.head.1 hGs
        have qf := (grown_frozen hg8' (x := ⟨G, 0, none⟩) k3.head.2.2.2.1 hGs).trans k3.head.2.2.2.2
        have qz := Nat.lt_of_lt_of_le k3.head.2.2.2.1 hg8'.size
        go_simp
        have ks : FlEnd b0 w (w8.setCell ⟨G, 0, none⟩ (.slice (some ⟨g8, 0, none⟩) (A.length + 1) c8)) base X (.int .i64 q) (.slice (some ⟨g1, 0, none⟩) nm c1) (.slice (some ⟨G, 0, none⟩) 3 c) (.slice (some ⟨g3, 0, none⟩) ns c3) G c g3 ns c3 g8 c8 (A.length + 1) gB dB gC dC (A ++ [(L, m)]) B C S := flEnd_put k3 o3 HMW.out a2 a3 a4 hg8' ho8
        clear q0 qf qz
        refine hK.out _ _ (⟨ks.bx.c1, ks.bx.c2, ks.bx.c3, ks.bx.lt, World.block_lt_of_cell? _ _ ks.cells.1⟩) (fun hHeld => ?_)
        clear hK K
        try go_frame
        refine wpAnyH_done (by kernel_rfl) ?_ _
        obtain ⟨w9, hw9⟩ : ∃ w9, w9 = w8.setCell ⟨G, 0, none⟩ (.slice (some ⟨g8, 0, none⟩) (A.length + 1) c8) := ⟨_, rfl⟩
        rw [← hw9] at ks
        have KS : Hid (FlEnd b0 w w9 base X (.int .i64 q) (.slice (some ⟨g1, 0, none⟩) nm c1) (.slice (some ⟨G, 0, none⟩) 3 c) (.slice (some ⟨g3, 0, none⟩) ns c3) G c g3 ns c3 g8 c8 (A.length + 1) gB dB gC dC (A ++ [(L, m)]) B C S) := ks
        rw [← hw9]
        clear hw9 ks k3 o3 hcn hg8' ho8 a1 a2 a3 a4 hXg hGA hGs hHeld k0 k1 k2 o1 o2
        have y1 := KS.out.bx.c1
        have yf := KS.out.bx.fz
        have yz := KS.out.bx.lt
        obtain ⟨wA, hwA⟩ : ∃ wA, wA = (w9.setCell ⟨X, 1, none⟩ (.slice (some ⟨w9.heap.size, 0, none⟩) 0 0)).alloc (.cells #[] 78) := ⟨_, rfl⟩
        obtain ⟨ge, hge⟩ : ∃ ge, ge = w9.heap.size := ⟨_, rfl⟩
        have KA : Hid (FlEnd b0 w wA base X (.int .i64 q) (.slice (some ⟨ge, 0, none⟩) 0 0) (.slice (some ⟨G, 0, none⟩) 3 c) (.slice (some ⟨g3, 0, none⟩) ns c3) G c g3 ns c3 g8 c8 (A.length + 1) gB dB gC dC (A ++ [(L, m)]) B C S) := by
          rw [hwA, ← hge]
          refine FlEnd.below ?_ ((Below.refl _ _).alloc (Nat.le_refl _) _)
          exact flEnd_set KS.out KS.out.kx.1 (by have := KS.out.top; omega) (KS.out.bx.set1 _) (KS.out.br.other (by omega) _)
        go_upto_region 5 with fail
        rw [← hwA]
        try rw [← hge]
        clear hwA hge y1 yf yz KS
        have y0 := KA.out.bx.c0
        have y1 := KA.out.bx.c1
        have y2 := KA.out.bx.c2
        have y3 := KA.out.bx.c3
        have yz := KA.out.bx.lt
        have r0 := KA.out.br.c0
        have r1 := KA.out.br.c1
        have r2 := KA.out.br.c2
        have r3 := KA.out.br.c3
        have rf := KA.out.br.fz
        have rz := KA.out.br.lt
        go_wp2
        refine bodyPost_ret (v := .tuple #[.agg #[.int .i64 q, .slice (some ⟨ge, 0, none⟩) 0 0, .slice (some ⟨G, 0, none⟩) 3 c, .slice (some ⟨g3, 0, none⟩) ns c3], .bool true]) ?_ rfl ?_
        · have e := (((KA.out.br.set0 (.int .i64 q)).set1 (.slice (some ⟨ge, 0, none⟩) 0 0)).set2 (.slice (some ⟨G, 0, none⟩) 3 c)).set3 (.slice (some ⟨g3, 0, none⟩) ns c3)
          simp [results, Tryz.results62, go_sem, e.c0, e.c1, e.c2, e.c3]
        · exact docR_flush KA.out HGB.out HC3.out.1 HC3.out.2 HSL.out HSW.out _ _ _ _
      · go_simp
        have kc : Below w2.heap.size w2 (w2.alloc (.cells #[.slice (some ⟨gl, 0, none⟩) nl cl, .int .i64 m] 102)) := (Below.refl _ _).alloc (Nat.le_refl _) _
        have k3 := k2.below kc
        have o3 := o2.below kc
        have hcn := cell_two_new' w2 (.slice (some ⟨gl, 0, none⟩) nl cl) (.int .i64 m) 102
        generalize w2.heap.size = gb at hcn ⊢
        generalize w2.alloc (.cells #[.slice (some ⟨gl, 0, none⟩) nl cl, .int .i64 m] 102) = wb at k3 o3 hcn ⊢
        refine hK.out _ _ (⟨k3.bx.c1, k3.bx.c2, k3.bx.c3, k3.bx.lt, k3.head.2.2.2.1⟩) (fun hHeld => ?_)
        clear hK K
        try go_frame
        refine wpAnyH_ready (rs := [5]) (by kernel_rfl) (by simp) ?_
        refine consL rfl (fun K hK => ?_) AllReadyH.nil
        have q5 := k3.head.1
        go_simp
        clear q5
        refine hK.out _ _ (⟨k3.bx.c1, k3.bx.c2, k3.bx.c3, k3.bx.lt, k3.head.2.2.2.1⟩) (fun hHeld => ?_)
        clear hK K
        try go_frame
        refine wpAnyH_ready (rs := [13]) (by kernel_rfl) (by simp) ?_
        refine consL rfl (fun K hK => ?_) AllReadyH.nil
        obtain ⟨a1, a2, xsA, a3, a4⟩ := k3.rA
        have hXg : X ≠ gA := fun e => by subst e; obtain ⟨_, kk⟩ := kind_row a3; exact absurd (k3.kx.1.kind kk) (by decide)
        refine step_append_own rfl (.tmp 22) (.tmp 29) 64 rfl base 102 i0 _ 2 32 Tryz.underlying64 hi hz0 hz1 hz2 rfl (by decide) _ _ _ rfl a3 ⟨gb, 0, none⟩ 1 1 [.slice (some ⟨gl, 0, none⟩) nl cl, .int .i64 m] rfl rfl hcn (by intro u hu; simp at hu; rcases hu with rfl | rfl <;> rfl) ?_ ?_ ?_ ?_
        · unfold maxLen; omega
        · omega
        · have h1 := (a3.lt gA rfl); omega
        intro v8 w8 ho8 hg8 hn8
        obtain ⟨g8, c8, rfl⟩ := ownsRow_succ ho8
        have hg8' : wb.grownBy w8 (some gA) := hg8
        refine hK.out _ _ (⟨(k3.bx.grownB hg8' hXg).c1, (k3.bx.grownB hg8' hXg).c2, (k3.bx.grownB hg8' hXg).c3, (k3.bx.grownB hg8' hXg).lt, Nat.lt_of_lt_of_le k3.head.2.2.2.1 hg8'.size⟩) (fun hHeld => ?_)
        clear hK K
        try go_frame
        refine tkL 14 hHeld ?_; try go_frame
        refine wpAnyH_ready (rs := [15]) (by kernel_rfl) (by simp) ?_
        refine consL rfl (fun K hK => ?_) AllReadyH.nil
        have hGA : G ≠ gA := fun e => by subst e; obtain ⟨_, kk⟩ := kind_row a3; obtain ⟨_, kr⟩ := kind_row k3.row; exact absurd (kr.kind kk) (by decide)
        have hGs : some G ≠ some gA := fun e => hGA (Option.some.inj e)
        have q0 := hg8'.cell k3.head.1 hGs
        have qf := (grown_frozen hg8' (x := ⟨G, 0, none⟩) k3.head.2.2.2.1 hGs).trans k3.head.2.2.2.2
        have qz := Nat.lt_of_lt_of_le k3.head.2.2.2.1 hg8'.size
        go_simp
        have ks : FlEnd b0 w (w8.setCell ⟨G, 0, none⟩ (.slice (some ⟨g8, 0, none⟩) (A.length + 1) c8)) base X (.int .i64 q) (.slice (some ⟨g1, 0, none⟩) nm c1) (.slice (some ⟨G, 0, none⟩) 3 c) (.slice (some ⟨g3, 0, none⟩) ns c3) G c g3 ns c3 g8 c8 (A.length + 1) gB dB gC dC (A ++ [(L, m)]) B C S := flEnd_put k3 o3 HMW.out a2 a3 a4 hg8' ho8
        clear q0 qf qz
        refine hK.out _ _ (⟨ks.bx.c1, ks.bx.c2, ks.bx.c3, ks.bx.lt, World.block_lt_of_cell? _ _ ks.cells.1⟩) (fun hHeld => ?_)
        clear hK K
        try go_frame
        refine wpAnyH_done (by kernel_rfl) ?_ _
        obtain ⟨w9, hw9⟩ : ∃ w9, w9 = w8.setCell ⟨G, 0, none⟩ (.slice (some ⟨g8, 0, none⟩) (A.length + 1) c8) := ⟨_, rfl⟩
        rw [← hw9] at ks
        have KS : Hid (FlEnd b0 w w9 base X (.int .i64 q) (.slice (some ⟨g1, 0, none⟩) nm c1) (.slice (some ⟨G, 0, none⟩) 3 c) (.slice (some ⟨g3, 0, none⟩) ns c3) G c g3 ns c3 g8 c8 (A.length + 1) gB dB gC dC (A ++ [(L, m)]) B C S) := ks
        rw [← hw9]
        clear hw9 ks k3 o3 hcn hg8' ho8 a1 a2 a3 a4 hXg hGA hGs hHeld k0 k1 k2 o1 o2
        have y1 := KS.out.bx.c1
        have yf := KS.out.bx.fz
        have yz := KS.out.bx.lt
        obtain ⟨wA, hwA⟩ : ∃ wA, wA = (w9.setCell ⟨X, 1, none⟩ (.slice (some ⟨w9.heap.size, 0, none⟩) 0 0)).alloc (.cells #[] 78) := ⟨_, rfl⟩
        obtain ⟨ge, hge⟩ : ∃ ge, ge = w9.heap.size := ⟨_, rfl⟩
        have KA : Hid (FlEnd b0 w wA base X (.int .i64 q) (.slice (some ⟨ge, 0, none⟩) 0 0) (.slice (some ⟨G, 0, none⟩) 3 c) (.slice (some ⟨g3, 0, none⟩) ns c3) G c g3 ns c3 g8 c8 (A.length + 1) gB dB gC dC (A ++ [(L, m)]) B C S) := by
          rw [hwA, ← hge]
          refine FlEnd.below ?_ ((Below.refl _ _).alloc (Nat.le_refl _) _)
          exact flEnd_set KS.out KS.out.kx.1 (by have := KS.out.top; omega) (KS.out.bx.set1 _) (KS.out.br.other (by omega) _)
        go_upto_region 5 with fail
        rw [← hwA]
        try rw [← hge]
        clear hwA hge y1 yf yz KS
        have y0 := KA.out.bx.c0
        have y1 := KA.out.bx.c1
        have y2 := KA.out.bx.c2
        have y3 := KA.out.bx.c3
        have yz := KA.out.bx.lt
        have r0 := KA.out.br.c0
        have r1 := KA.out.br.c1
        have r2 := KA.out.br.c2
        have r3 := KA.out.br.c3
        have rf := KA.out.br.fz
        have rz := KA.out.br.lt
        go_wp2
        refine bodyPost_ret (v := .tuple #[.agg #[.int .i64 q, .slice (some ⟨ge, 0, none⟩) 0 0, .slice (some ⟨G, 0, none⟩) 3 c, .slice (some ⟨g3, 0, none⟩) ns c3], .bool true]) ?_ rfl ?_
        · have e := (((KA.out.br.set0 (.int .i64 q)).set1 (.slice (some ⟨ge, 0, none⟩) 0 0)).set2 (.slice (some ⟨G, 0, none⟩) 3 c)).set3 (.slice (some ⟨g3, 0, none⟩) ns c3)
          simp [results, Tryz.results62, go_sem, e.c0, e.c1, e.c2, e.c3]
        · exact docR_flush KA.out HGB.out HC3.out.1 HC3.out.2 HSL.out HSW.out _ _ _ _
end Go.Proofs.YtlmgojlffgkciaaGreat
