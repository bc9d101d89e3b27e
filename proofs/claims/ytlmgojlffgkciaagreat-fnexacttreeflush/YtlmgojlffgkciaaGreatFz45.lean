/-
  The program's snap: what it makes of a tree, by a walk of its Go text.
  The document's l5Has and TreeSnap: what they answer at a right tree, by walks of their Go text.
-/
import Derived.RangeFuncBox
import Derived.Test.YtlmgojlffgkciaaGreatFz38
import Derived.Test.YtlmgojlffgkciaaGreatFz29
import Derived.Test.YtlmgojlffgkciaaGreatFz37
import Derived.Test.YtlmgojlffgkciaaGreatFz30
namespace Go.Proofs.YtlmgojlffgkciaaGreat
open Go.RowKit
theorem intsIn_row {w : World} {base g n c : Nat} {S : List Int} (h : w.ownsRow base 3 1 (.slice (some ⟨g, 0, none⟩) n c) n (S.map (Value.int .i64))) (hl : S.length = n) (hw : ∀ z ∈ S, (Lit.int .i64 z).wf = true) : IntsIn base w (some ⟨g, 0, none⟩) n c S := by
  have hrc := row_rooms h
  refine ⟨hl, hrc.1, hrc.2, hw, (fun e => by cases e), ?_, ?_⟩
  · rintro x e _
    cases e
    exact ⟨(h.lt g rfl).2, rfl, (h.lt g rfl).1⟩
  · rintro x e i hi
    cases e
    simp only [Nat.zero_add]
    have h1 := h.cellAt i (by omega)
    rw [List.getElem?_map, List.getElem?_eq_getElem hi] at h1
    exact h1
end Go.Proofs.YtlmgojlffgkciaaGreat

namespace Go.Proofs.YtlmgojlffgkciaaGreat
open Go.RowKit
theorem Box4.grownB {w w' : World} {b g : Nat} {u0 u1 u2 u3 : Value} (h : Box4 w b u0 u1 u2 u3) (hg : w.grownBy w' (some g)) (hne : b ≠ g) : Box4 w' b u0 u1 u2 u3 :=
  have hn : some b ≠ some g := fun e => hne (Option.some.inj e)
  ⟨hg.cell h.c0 hn, hg.cell h.c1 hn, hg.cell h.c2 hn, hg.cell h.c3 hn, fun o => (grown_frozen hg (x := ⟨b, o, none⟩) h.lt hn).trans (h.fz o)⟩
theorem CopyG.kind {base g1 nm c1 G nv c g3 ns c3 Y T sz : Nat} {w w' : World} {M : List EntD} {V : List (List RunD)} {S : List Int} (h : CopyG base w g1 nm c1 G nv c g3 ns c3 M V S) (hB : BlockOf w Y T sz) (t0 : T ≠ 64) (t1 : T ≠ 102) (t2 : T ≠ 78) (t3 : T ≠ 3) (hg : w.grownBy w' (some Y)) : CopyG base w' g1 nm c1 G nv c g3 ns c3 M V S := by
  obtain ⟨_, k1⟩ := kind_row h.mem.owns
  obtain ⟨_, k3⟩ := kind_row h.sn
  refine ⟨h.mem.grown hg (fun e => ?_), h.levs.grown hB t0 t1 t2 hg, h.slen, h.swf, h.sn.kept hg (.inr fun e => ?_)⟩
  · have e' : g1 = Y := Option.some.inj e
    subst e'
    exact t2 (hB.kind k1)
  · have e' : g3 = Y := by simpa [Value.ownBlock] using e
    subst e'
    exact t3 (hB.kind k3)
end Go.Proofs.YtlmgojlffgkciaaGreat
