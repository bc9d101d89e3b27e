/-
  The marks that loops over functions leave in a frame, and leaving with them; no statement of the program stands here.
  The state of the merging: what is pushed, what is given out, what is left; no function is walked here.
-/
import Derived.Maps.OwnIn
import Derived.Test.YtapjkbpfhmbfaaaGreatDoorSo21
import Derived.Test.YtapjkbpfhmbfaaaGreatDoorSo20
import Derived.Test.YtapjkbpfhmbfaaaGreatDoorSo02
namespace Go.Proofs.YtapjkbpfhmbfaaaGreatDoor
open Go.RowKit Go.Shelf
def marksOf (ds : List Nat) : List Deferred := ds.map (fun D => { target := .collected D, args := #[] })
def MarksAt (base : Nat) (w : World) (ds : List Nat) : Prop := ds.Nodup ∧ ∀ D ∈ ds, base ≤ D ∧ w.heap[D]? = some (.deferred (some []))
theorem leaves_marks {F : Fence} {n base : Nat} {P : Program} {fn : Func} {tmps : Array Value} {R : Ending → World → Prop} : ∀ (ds : List Nat) (W : World), MarksAt base W ds →
    (∀ W', Below base W W' → (∀ (k : Nat) (o : Obj), W.heap[k]? = some o → o.isCells = true → W'.heap[k]? = some o) → LeavesInM F n P fn tmps R [] .returning W') → LeavesInM F n P fn tmps R (marksOf ds) .returning W
  | [], W, _, h => h W (Below.refl _ _) (fun _ _ h _ => h)
  | D :: ds, W, hm, h => by
    obtain ⟨hnd, hD⟩ := hm
    rw [List.nodup_cons] at hnd
    have hk := (hD D (List.mem_cons_self ..)).2
    have hb := (hD D (List.mem_cons_self ..)).1
    have hB : Below base W (W.putObj D (.deferred none)) := ⟨rfl, rfl, rfl, by simp [World.putObj], fun k hk => World.putObj_heap_other (by omega)⟩
    refine ⟨by simp, .inl ⟨D, _, rfl, run_takeDeferred hk, ?_⟩⟩
    refine leaves_marks ds (W.putObj D (.deferred none)) ⟨hnd.2, fun D' hD' => ⟨(hD D' (List.mem_cons_of_mem _ hD')).1, ?_⟩⟩ (fun W' hb' hc' => h W' (hB.trans hb') (fun k o ho hc => hc' k o ?_ hc))
    · have hne : D' ≠ D := fun e => hnd.1 (e ▸ hD')
      exact (World.putObj_heap_other hne).trans (hD D' (List.mem_cons_of_mem _ hD')).2
    · have hne : k ≠ D := fun e => by subst e; rw [hk] at ho; cases ho; cases hc
      exact (World.putObj_heap_other hne).trans ho
theorem keepS_box {n₀ B : Nat} {W W' : World} {t : TypeId} {v : Value} (h : Below n₀ W W') (hv : Boxed W B t v) (hv' : Boxed W' B t v) : KeepS (fun k => k < n₀ ∨ k = B) W W' :=
  ⟨h.os, h.tape, h.output, h.size, fun k hk => by
    rcases hk with hk | rfl
    · exact h.block k hk
    · exact (show W'.heap[k]? = _ from hv').trans (show W.heap[k]? = _ from hv).symm⟩
theorem marks_own {β : Type} {base : Nat} {ds : List Nat} {B : Nat} (hB : ∀ D ∈ ds, D < B) : OwnFrom B (fun (_ : β) W => MarksAt base W ds) := fun _ X Y row hs hg hr =>
  ⟨hs.1, fun D hD => ⟨(hs.2 D hD).1, by
    have h0 := (hs.2 D hD).2
    refine (hg.block D (Array.getElem?_eq_some_iff.1 h0).1 (fun e => ?_)).trans h0
    have := (hr D e.symm).1
    have := hB D hD
    omega⟩⟩
theorem MarksAt.others {base : Nat} {w w' : World} {ds : List Nat} (h : MarksAt base w ds) (hk : KeepsOthers w w') : MarksAt base w' ds := ⟨h.1, fun D hD => ⟨(h.2 D hD).1, hk.same D _ (h.2 D hD).2 rfl⟩⟩
end Go.Proofs.YtapjkbpfhmbfaaaGreatDoor

namespace Go.Proofs.YtapjkbpfhmbfaaaGreatDoor
open Go.RowKit Go.Shelf
def JS (w : World) (BH : Nat) (Z : List (List EntD)) (W : World) : Prop := ∃ v X H, HpV W w.heap.size BH v X H ∧ Mg.HSt H Z ∧ Mg.HeapTo (Mg.lessS lessE) H.length H ∧ H.length = Z.length
theorem JS.empty {w W : World} {BH : Nat} (hb : Boxed W BH 217 (.slice none 0 0)) (hB : w.heap.size ≤ BH) : JS w BH [] W := ⟨_, _, _, HpV.empty hb hB, Mg.HSt.nil, fun _ _ hc => absurd hc (Nat.not_lt_zero _), rfl⟩
theorem JS.own {w : World} {BH B : Nat} {β : Type} (f : β → List (List EntD)) (hB : w.heap.size ≤ B) : OwnFrom B (fun (s : β) W => JS w BH (f s) W) := fun s X Y row hs hg hr => by
  obtain ⟨v, X, H, h1, h2, h3, h4⟩ := hs
  exact ⟨v, X, H, h1.own hB hg hr, h2, h3, h4⟩
theorem JS.below {w W W' : World} {BH : Nat} {Z : List (List EntD)} (h : JS w BH Z W) (hb : Below W.heap.size W W') : JS w BH Z W' := by
  obtain ⟨v, X, H, h1, h2, h3, h4⟩ := h
  exact ⟨v, X, H, h1.below hb, h2, h3, h4⟩
theorem HpV.form {w : World} {base BH : Nat} {v : Value} {X : List StrD} {H : List (List EntD × Nat)} (h : HpV w base BH v X H) : ∃ av cv, v = .slice av H.length cv := by
  rcases h.row.2 with ⟨hv, h0⟩ | ⟨g, cap, cur, hv, _⟩
  · exact ⟨none, 0, by rw [hv, h0]⟩
  · exact ⟨_, _, hv⟩
theorem JS.push {w W3 : World} {BH : Nat} {Z : List (List EntD)} {H H3 : List (List EntD × Nat)} {v3 : Value} {X3 : List StrD} {e : EntD} {l : List EntD} (hS : Mg.HSt H Z) (hL : H.length = Z.length) (hV3 : HpV W3 w.heap.size BH v3 X3 H3) (hP3 : H3.Perm (H ++ [(e :: l, H.length)])) (hT3 : Mg.HeapTo (Mg.lessS lessE) H3.length H3) : JS w BH (Z ++ [e :: l]) W3 := by
  refine ⟨v3, X3, H3, hV3, ?_, hT3, ?_⟩
  · rw [hL] at hP3
    exact hS.push.perm hP3
  · rw [hP3.length_eq, List.length_append, List.length_append, hL]; rfl
theorem mPart_flat {P : List (List EntD)} {i : Nat} {L : List EntD} (h : P[i]? = some L) : (P.take (i + 1)).flatten = (P.take i).flatten ++ L := by
  rw [List.take_add_one, h]
  simp
theorem mPart_len {P : List (List EntD)} {i : Nat} {L : List EntD} (h : P[i]? = some L) : (P.take i).flatten.length + L.length ≤ P.flatten.length := by
  have h1 : P.flatten = (P.take (i + 1)).flatten ++ (P.drop (i + 1)).flatten := by rw [← List.flatten_append, List.take_append_drop]
  rw [h1, mPart_flat h, List.length_append, List.length_append]
  omega
theorem flat_ge : ∀ {Z : List (List EntD)}, (∀ l ∈ Z, l ≠ [] ∧ Mg.Asc lessE l) → Z.length ≤ Z.flatten.length
  | [], _ => Nat.le_refl _
  | l :: Z, h => by
    have h1 := (h l List.mem_cons_self).1
    have h2 := flat_ge (Z := Z) (fun x hx => h x (List.mem_cons_of_mem _ hx))
    have h3 : 0 < l.length := List.length_pos_iff.2 h1
    rw [List.flatten_cons, List.length_append, List.length_cons]
    omega
theorem flat_set {Z : List (List EntD)} {k : Nat} {m : EntD} {r : List EntD} (h : Z[k]? = some (m :: r)) : (Z.set k r).flatten.length + 1 = Z.flatten.length := by
  obtain ⟨hl, he⟩ := List.getElem?_eq_some_iff.1 h
  have hZ : Z = Z.take k ++ (m :: r) :: Z.drop (k + 1) := by
    conv => lhs; rw [← List.take_append_drop k Z]
    rw [List.drop_eq_getElem_cons hl, he]
  obtain ⟨A, B, hA, hlen⟩ : ∃ A B, Z = A ++ (m :: r) :: B ∧ A.length = k := ⟨_, _, hZ, by rw [List.length_take]; omega⟩
  have hset : Z.set k r = A ++ r :: B := by
    rw [hA, List.set_append_right _ _ (by omega), hlen]
    simp
  rw [hset, hA]
  simp
  omega
theorem HpSt.kept {w w' : World} {base BH g n c : Nat} {X : List StrD} {H : List (List EntD × Nat)} {row : Option Nat} (h : HpSt w base BH g n c X H) (hg : w.grownBy w' row) (h1 : some BH ≠ row) (h2 : some g ≠ row) (h3 : ∀ x ∈ X, some x.1 ≠ row) : HpSt w' base BH g n c X H := by
  have hbl := World.block_lt_of_cell? _ _ h.box
  refine ⟨?_, h.own.grown hg h2, h.len, fun k x s hx hs => ?_, h.ne⟩
  · rw [World.cell?_of_block (a := ⟨BH, 0, none⟩) (hg.block BH hbl h1)]
    exact h.box
  · obtain ⟨l, r1, r2, r3, r4⟩ := h.rest k x s hx hs
    refine ⟨l, r1, r2.grownB hg (fun y ey _ => ?_), Nat.lt_of_lt_of_le r3 hg.size, r4⟩
    cases ey
    exact h3 x (List.mem_of_getElem? hx)
theorem HpSt.cut {w : World} {base BH g n c xb xo xn xc xk no : Nat} {X : List StrD} {R : List (List EntD × Nat)} {e : EntD} {l : List EntD} (h : HpSt w base BH g n c ((xb, xo, xn, xc, xk) :: X) ((e :: l, xk) :: R)) (hE : EntsAt w (some ⟨xb, no, none⟩) (xn - 1) (xc - 1) l) :
    HpSt (w.setCell ⟨g, 0, none⟩ (.slice (some ⟨xb, no, none⟩) (xn - 1) (xc - 1))) base BH g n c ((xb, no, xn - 1, xc - 1, xk) :: X) ((l, xk) :: R) := by
  have hg := grown_cellH w g 0 (.slice (some ⟨xb, no, none⟩) (xn - 1) (xc - 1))
  have hO : OwnH (w.setCell ⟨g, 0, none⟩ (.slice (some ⟨xb, no, none⟩) (xn - 1) (xc - 1))) base g n c ((xb, no, xn - 1, xc - 1, xk) :: X) := ⟨(h.own.owns.stored 0 (.slice (some ⟨xb, no, none⟩) (xn - 1) (xc - 1))).1, h.own.len⟩
  have hbl := World.block_lt_of_cell? _ _ h.box
  refine ⟨?_, hO, h.len, fun k x s hx hs => ?_, h.ne⟩
  · rw [World.cell?_of_block (a := ⟨BH, 0, none⟩) (hg.block BH hbl (fun e => h.ne (Option.some.inj e)))]
    exact h.box
  · match k, hx, hs with
    | 0, hx, hs =>
      simp at hx hs
      subst hx
      subst hs
      obtain ⟨_, _, _, r3, r4⟩ := h.rest 0 _ _ rfl rfl
      refine ⟨l, rfl, hE.grownB hg (fun y ey _ => ?_), Nat.lt_of_lt_of_le r3 hg.size, r4⟩
      cases ey
      exact fun e' => r4.1 (Option.some.inj e')
    | k + 1, hx, hs =>
      obtain ⟨l', r1, r2, r3, r4⟩ := h.rest (k + 1) x s (by simpa using hx) (by simpa using hs)
      refine ⟨l', r1, r2.grownB hg (fun y ey _ => ?_), Nat.lt_of_lt_of_le r3 hg.size, r4⟩
      cases ey
      exact fun e' => r4.1 (Option.some.inj e')
theorem EntsAt.tail {w : World} {b off len cap : Nat} {e : EntD} {l : List EntD} (h : EntsAt w (some ⟨b, off, none⟩) len cap (e :: l)) : ∃ no, (if cap - 1 = 0 then no = off else no = off + 5) ∧ EntsAt w (some ⟨b, no, none⟩) (len - 1) (cap - 1) l := by
  have hl := h.length
  have hr := h.room
  simp at hl
  by_cases hc : cap - 1 = 0
  · refine ⟨off, by rw [if_pos hc], ?_⟩
    have hl0 : l = [] := List.length_eq_zero_iff.1 (by omega)
    subst hl0
    have h1 : len - 1 = 0 := by omega
    rw [h1, hc]
    exact ⟨rfl, Nat.le_refl _, Nat.zero_le _, (fun e h => by cases h), (fun e => by cases e), (fun x e hp => absurd hp (Nat.lt_irrefl _)), (fun x e i hi => by simp at hi)⟩
  · refine ⟨off + 5, by rw [if_neg hc], ?_⟩
    have := h.sub (i := 1) (j := len) (by omega) (Nat.le_refl _)
    simp only [Nat.one_mul, List.drop_succ_cons, List.drop_zero] at this
    rw [List.take_of_length_le (by omega)] at this
    exact this
theorem heap_dead {k : Nat} {m : EntD} {R : List (List EntD × Nat)} {n : Nat} (h : Mg.HeapTo (Mg.lessS lessE) n (([m], k) :: R)) (hR : ∀ s ∈ R, s.1 ≠ []) : Mg.HeapTo (Mg.lessS lessE) n (([], k) :: R) := by
  intro c c0 hc u v hu hv
  have hv' : (([m], k) :: R)[c]? = some v := by
    match c, c0, hv with
    | c + 1, _, hv => simpa using hv
  by_cases hp : (c - 1) / 2 = 0
  · rw [hp] at hu
    simp at hu
    subst hu
    have hv2 : v ∈ R := by
      match c, c0, hv with
      | c + 1, _, hv => exact List.mem_of_getElem? (by simpa using hv)
    obtain ⟨b, r, hb⟩ := List.exists_cons_of_ne_nil (hR v hv2)
    obtain ⟨v1, v2⟩ := v
    simp only at hb
    subst hb
    rfl
  · obtain ⟨p, hp'⟩ : ∃ p, (c - 1) / 2 = p + 1 := ⟨(c - 1) / 2 - 1, by omega⟩
    refine h c c0 hc u v ?_ hv'
    rw [hp'] at hu ⊢
    simpa using hu
structure MInv (w : World) (BH : Nat) (P : List (List EntD)) (ds : List Nat) (av : Value) (W : World) (out : List EntD) (Z : List (List EntD)) (H : List (List EntD × Nat)) : Prop where
  box : ∃ a c, W.cell? ⟨BH, 0, none⟩ = some (.slice a H.length c)
  fr : W.frozen? ⟨BH, 0, none⟩ = false
  hp : 0 < H.length → ∃ g c X, HpSt W w.heap.size BH g H.length c X H ∧ ∀ x ∈ X, x.1 < w.heap.size
  hst : Mg.HSt H Z
  heap : Mg.HeapTo (Mg.lessS lessE) H.length H
  mst : Mg.MSt lessE P.flatten out Z
  row : W.ownsRow (BH + 1) 87 5 av out.length (flatE out)
  ents : ∀ e ∈ out, EntW e
  len : out.length + Z.flatten.length = P.flatten.length
  few : H.length ≤ 1048576
  mks : MarksAt w.heap.size W ds
  bel : Below w.heap.size w W
theorem MInv.start {w W : World} {BH : Nat} {P Z : List (List EntD)} {ds : List Nat} (hJ : JS w BH Z W) (hZ : Z.flatten = P.flatten) (hA : ∀ l ∈ Z, l ≠ [] ∧ Mg.Asc lessE l) (hP : P.flatten.length ≤ 1048576) (hmk : MarksAt w.heap.size W ds) (hb : Below w.heap.size w W) : ∃ H, MInv w BH P ds (.slice none 0 0) W [] Z H := by
  obtain ⟨v, X, H, hV, hS, hT, hL⟩ := hJ
  obtain ⟨av, cv, hv⟩ := hV.form
  refine ⟨H, ⟨⟨av, cv, by rw [← hv]; exact hV.box.cell⟩, hV.box.frozen, fun h0 => ?_, hS, hT, ?_, ⟨rfl, .inl ⟨rfl, rfl⟩⟩, (fun e he => by cases he), by rw [hZ]; simp, ?_, hmk, hb⟩⟩
  · rcases hV.row.2 with ⟨_, h1⟩ | ⟨g, cap, cur, hv', _⟩
    · omega
    · rw [hv'] at hV
      exact ⟨g, cap, X, hV.hp rfl, hV.low⟩
  · rw [← hZ]
    exact Mg.MSt.start (fun l hl => (hA l hl).2)
  · have := flat_ge hA
    rw [hZ] at this
    omega
theorem MInv.first {w W : World} {BH : Nat} {P Z : List (List EntD)} {ds : List Nat} {av : Value} {out : List EntD} {H : List (List EntD × Nat)} (h : MInv w BH P ds av W out Z H) (h0 : 0 < H.length) :
    ∃ g c X xb xo xn xc xk e l R, H = (e :: l, xk) :: R ∧ HpSt W w.heap.size BH g H.length c ((xb, xo, xn, xc, xk) :: X) H ∧ (∀ x ∈ (xb, xo, xn, xc, xk) :: X, x.1 < w.heap.size) ∧ EntsAt W (some ⟨xb, xo, none⟩) xn xc (e :: l) := by
  obtain ⟨g, c, X, hS, hl⟩ := h.hp h0
  have hXl := hS.own.len
  match H, X, h0, hS, hl, h with
  | [], _, h0, _, _, _ => exact absurd h0 (by simp)
  | s :: R, [], _, _, _, _ => simp at hXl
  | s :: R, (xb, xo, xn, xc, xk) :: X, _, hS, hl, h =>
    obtain ⟨l0, rfl, hE, _⟩ := hS.rest 0 _ _ rfl rfl
    obtain ⟨e, l, rfl⟩ := List.exists_cons_of_ne_nil ((h.hst.live _ List.mem_cons_self).1)
    exact ⟨g, c, X, xb, xo, xn, xc, xk, e, l, R, rfl, hS, hl, hE⟩
theorem row_ents {W : World} {base : Nat} {av : Value} {out : List EntD} (h : W.ownsRow base 87 5 av out.length (flatE out)) (hw : ∀ e ∈ out, EntW e) : ∃ a c, av = .slice a out.length c ∧ EntsAt W a out.length c out := by
  rcases h.2 with ⟨rfl, h0⟩ | ⟨g, cap, cur, rfl, _⟩
  · have : out = [] := List.length_eq_zero_iff.1 h0
    subst this
    exact ⟨none, 0, rfl, ⟨rfl, Nat.le_refl _, Nat.zero_le _, by simp, fun _ => rfl, (fun x e => by cases e), (fun x e => by cases e)⟩⟩
  · exact ⟨_, cap, rfl, OwnE.entsAt ⟨h, rfl, hw⟩⟩
theorem OwnE.cellsKept {w w' : World} {base g n c : Nat} {L : List EntD} (h : OwnE w base g n c L) (hc : ∀ (k : Nat) (o : Obj), w.heap[k]? = some o → o.isCells = true → w'.heap[k]? = some o) : OwnE w' base g n c L := by
  refine ⟨⟨h.owns.1, ?_⟩, h.len, h.ents⟩
  rcases h.owns.2 with hn | ⟨g1, cap1, cur1, e1, hb1, hgb, rest⟩
  · exact .inl hn
  · exact .inr ⟨g1, cap1, cur1, e1, hb1, hc g1 _ hgb rfl, rest⟩
theorem flatE_single (e : EntD) : flatE [e] = entCells e := by simp [flatE]
theorem MInv.next {w W w4 : World} {BH xk g c : Nat} {P Z : List (List EntD)} {ds : List Nat} {av av' : Value} {out l : List EntD} {e : EntD} {R H4 : List (List EntD × Nat)} {X4 : List StrD} (h : MInv w BH P ds av W out Z ((e :: l, xk) :: R)) (hS4 : HpSt w4 w.heap.size BH g H4.length c X4 H4) (hH4 : Mg.HSt H4 (Z.set xk l)) (hT4 : Mg.HeapTo (Mg.lessS lessE) H4.length H4)
    (hx4 : ∀ x ∈ X4, x.1 < w.heap.size) (hf4 : w4.frozen? ⟨BH, 0, none⟩ = false) (hrow : w4.ownsRow (BH + 1) 87 5 av' (out.length + 1) (flatE out ++ entCells e)) (hew : EntW e) (hmk : MarksAt w.heap.size w4 ds) (hbel : Below w.heap.size w w4) (hfew : H4.length ≤ 1048576) : MInv w BH P ds av' w4 (out ++ [e]) (Z.set xk l) H4 := by
  obtain ⟨h1, h2⟩ := h.hst.least less_wk h.heap
  have h3 := flat_set h1
  have h4 := h.len
  refine ⟨⟨_, _, hS4.box⟩, hf4, fun _ => ⟨g, c, X4, hS4, hx4⟩, hH4, hT4, h.mst.step less_wk h1 h2, ?_, ?_, ?_, hfew, hmk, hbel⟩
  · rw [List.length_append, flatE_append, flatE_single]
    exact hrow
  · intro x hx
    rcases List.mem_append.1 hx with h5 | h5
    · exact h.ents x h5
    · rw [List.mem_singleton] at h5
      subst h5
      exact hew
  · rw [List.length_append, List.length_singleton]
    omega
def sliceLen : Value → Nat
  | .slice _ n _ => n
  | _ => 0
end Go.Proofs.YtapjkbpfhmbfaaaGreatDoor
