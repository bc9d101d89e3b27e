/-
  The state of the merging: what is pushed, what is given out, what is left; no function is walked here.
  Contracts of the library's strings package at this program, laid by the kit's own command.
  What the laws draw from a list of numbers, from a list of texts, and an account, by walks of their Go text.
-/
import Derived.Test.YthhiahjafhkbbaaGreatBn39
import Derived.Test.YthhiahjafhkbbaaGreatBn40
import Derived.Test.YthhiahjafhkbbaaGreatBn42
import Derived.Test.YthhiahjafhkbbaaGreatBn29
import Derived.Test.YthhiahjafhkbbaaGreatBn20
import Derived.Shelf.LaysM
import Derived.Shelf.Strconv.Clone
import Derived.Test.YthhiahjafhkbbaaGreatProg
import Derived.Test.YthhiahjafhkbbaaGreatBn21
import Derived.Test.YthhiahjafhkbbaaGreatBn02
namespace Go.Proofs.YthhiahjafhkbbaaGreat
open Go.RowKit Go.Shelf

/-- All stretches so far are pushed. -/
def JS (w : World) (BH : Nat) (Z : List (List EntD)) (W : World) : Prop := ∃ v X H, HpV W w.heap.size BH v X H ∧ Mg.HSt H Z ∧ Mg.HeapTo (Mg.lessS lessE) H.length H ∧ H.length = Z.length
theorem JS.empty {w W : World} {BH : Nat} (hb : Boxed W BH 74 (.slice none 0 0)) (hB : w.heap.size ≤ BH) : JS w BH [] W := ⟨_, _, _, HpV.empty hb hB, Mg.HSt.nil, fun _ _ hc => absurd hc (Nat.not_lt_zero _), rfl⟩
theorem JS.own {w : World} {BH B : Nat} {β : Type} (f : β → List (List EntD)) (hB : w.heap.size ≤ B) : OwnFrom B (fun (s : β) W => JS w BH (f s) W) := fun s X Y row hs hg hr => by
  obtain ⟨v, X, H, h1, h2, h3, h4⟩ := hs
  exact ⟨v, X, H, h1.own hB hg hr, h2, h3, h4⟩
theorem JS.below {w W W' : World} {BH : Nat} {Z : List (List EntD)} (h : JS w BH Z W) (hb : Below W.heap.size W W') : JS w BH Z W' := by
  obtain ⟨v, X, H, h1, h2, h3, h4⟩ := h
  exact ⟨v, X, H, h1.below hb, h2, h3, h4⟩
theorem HpV.form {w : World} {base BH : Nat} {v : Value} {X : List StrD} {H : List (List EntD × Nat)} (h : HpV w base BH v X H) : ∃ av cv, v = .slice av H.length cv := by
  rcases h.row.2 with ⟨hv, h0⟩ | ⟨g, cap, cur, hv, _⟩
  · exact ⟨none, 0, by rw [hv, h0]⟩
  · exact ⟨_, _, hv⟩
theorem JS.push {w W3 : World} {BH : Nat} {Z : List (List EntD)} {H H3 : List (List EntD × Nat)} {v3 : Value} {X3 : List StrD} {e : EntD} {l : List EntD} (hS : Mg.HSt H Z) (hL : H.length = Z.length) (hV3 : HpV W3 w.heap.size BH v3 X3 H3) (hP3 : H3.Perm (H ++ [(e :: l, H.length)])) (hT3 : Mg.HeapTo (Mg.lessS lessE) H3.length H3) : JS w BH (Z ++ [e :: l]) W3 := by
  refine ⟨v3, X3, H3, hV3, ?_, hT3, ?_⟩
  · rw [hL] at hP3
    exact hS.push.perm hP3
  · rw [hP3.length_eq, List.length_append, List.length_append, hL]; rfl
theorem mPart_flat {P : List (List EntD)} {i : Nat} {L : List EntD} (h : P[i]? = some L) : (P.take (i + 1)).flatten = (P.take i).flatten ++ L := by
  rw [List.take_add_one, h]
  simp
theorem mPart_len {P : List (List EntD)} {i : Nat} {L : List EntD} (h : P[i]? = some L) : (P.take i).flatten.length + L.length ≤ P.flatten.length := by
  have h1 : P.flatten = (P.take (i + 1)).flatten ++ (P.drop (i + 1)).flatten := by rw [← List.flatten_append, List.take_append_drop]
  rw [h1, mPart_flat h, List.length_append, List.length_append]
  omega
theorem flat_ge : ∀ {Z : List (List EntD)}, (∀ l ∈ Z, l ≠ [] ∧ Mg.Asc lessE l) → Z.length ≤ Z.flatten.length
  | [], _ => Nat.le_refl _
  | l :: Z, h => by
    have h1 := (h l List.mem_cons_self).1
    have h2 := flat_ge (Z := Z) (fun x hx => h x (List.mem_cons_of_mem _ hx))
    have h3 : 0 < l.length := List.length_pos_iff.2 h1
    rw [List.flatten_cons, List.length_append, List.length_cons]
    omega
theorem flat_set {Z : List (List EntD)} {k : Nat} {m : EntD} {r : List EntD} (h : Z[k]? = some (m :: r)) : (Z.set k r).flatten.length + 1 = Z.flatten.length := by
  obtain ⟨hl, he⟩ := List.getElem?_eq_some_iff.1 h
  have hZ : Z = Z.take k ++ (m :: r) :: Z.drop (k + 1) := by
    conv => lhs; rw [← List.take_append_drop k Z]
    rw [List.drop_eq_getElem_cons hl, he]
  obtain ⟨A, B, hA, hlen⟩ : ∃ A B, Z = A ++ (m :: r) :: B ∧ A.length = k := ⟨_, _, hZ, by rw [List.length_take]; omega⟩
  have hset : Z.set k r = A ++ r :: B := by
    rw [hA, List.set_append_right _ _ (by omega), hlen]
    simp
  rw [hset, hA]
  simp
  omega
/-- What grows elsewhere leaves a heap as it is. -/
theorem HpSt.kept {w w' : World} {base BH g n c : Nat} {X : List StrD} {H : List (List EntD × Nat)} {row : Option Nat} (h : HpSt w base BH g n c X H) (hg : w.grownBy w' row) (h1 : some BH ≠ row) (h2 : some g ≠ row) (h3 : ∀ x ∈ X, some x.1 ≠ row) : HpSt w' base BH g n c X H := by
  have hbl := World.block_lt_of_cell? _ _ h.box
  refine ⟨?_, h.own.grown hg h2, h.len, fun k x s hx hs => ?_, h.ne⟩
  · rw [World.cell?_of_block (a := ⟨BH, 0, none⟩) (hg.block BH hbl h1)]
    exact h.box
  · obtain ⟨l, r1, r2, r3, r4⟩ := h.rest k x s hx hs
    refine ⟨l, r1, r2.grownB hg (fun y ey _ => ?_), Nat.lt_of_lt_of_le r3 hg.size, r4⟩
    cases ey
    exact h3 x (List.mem_of_getElem? hx)
/-- The first stretch is shorter by its first. -/
theorem HpSt.cut {w : World} {base BH g n c xb xo xn xc xk no : Nat} {X : List StrD} {R : List (List EntD × Nat)} {e : EntD} {l : List EntD} (h : HpSt w base BH g n c ((xb, xo, xn, xc, xk) :: X) ((e :: l, xk) :: R)) (hE : EntsAt w (some ⟨xb, no, none⟩) (xn - 1) (xc - 1) l) :
    HpSt (w.setCell ⟨g, 0, none⟩ (.slice (some ⟨xb, no, none⟩) (xn - 1) (xc - 1))) base BH g n c ((xb, no, xn - 1, xc - 1, xk) :: X) ((l, xk) :: R) := by
  have hg := grown_cellH w g 0 (.slice (some ⟨xb, no, none⟩) (xn - 1) (xc - 1))
  have hO : OwnH (w.setCell ⟨g, 0, none⟩ (.slice (some ⟨xb, no, none⟩) (xn - 1) (xc - 1))) base g n c ((xb, no, xn - 1, xc - 1, xk) :: X) := ⟨(h.own.owns.stored 0 (.slice (some ⟨xb, no, none⟩) (xn - 1) (xc - 1))).1, h.own.len⟩
  have hbl := World.block_lt_of_cell? _ _ h.box
  refine ⟨?_, hO, h.len, fun k x s hx hs => ?_, h.ne⟩
  · rw [World.cell?_of_block (a := ⟨BH, 0, none⟩) (hg.block BH hbl (fun e => h.ne (Option.some.inj e)))]
    exact h.box
  · match k, hx, hs with
    | 0, hx, hs =>
      simp at hx hs
      subst hx
      subst hs
      obtain ⟨_, _, _, r3, r4⟩ := h.rest 0 _ _ rfl rfl
      refine ⟨l, rfl, hE.grownB hg (fun y ey _ => ?_), Nat.lt_of_lt_of_le r3 hg.size, r4⟩
      cases ey
      exact fun e' => r4.1 (Option.some.inj e')
    | k + 1, hx, hs =>
      obtain ⟨l', r1, r2, r3, r4⟩ := h.rest (k + 1) x s (by simpa using hx) (by simpa using hs)
      refine ⟨l', r1, r2.grownB hg (fun y ey _ => ?_), Nat.lt_of_lt_of_le r3 hg.size, r4⟩
      cases ey
      exact fun e' => r4.1 (Option.some.inj e')
/-- What is left of a list behind its first. -/
theorem EntsAt.tail {w : World} {b off len cap : Nat} {e : EntD} {l : List EntD} (h : EntsAt w (some ⟨b, off, none⟩) len cap (e :: l)) : ∃ no, (if cap - 1 = 0 then no = off else no = off + 5) ∧ EntsAt w (some ⟨b, no, none⟩) (len - 1) (cap - 1) l := by
  have hl := h.length
  have hr := h.room
  simp at hl
  by_cases hc : cap - 1 = 0
  · refine ⟨off, by rw [if_pos hc], ?_⟩
    have hl0 : l = [] := List.length_eq_zero_iff.1 (by omega)
    subst hl0
    have h1 : len - 1 = 0 := by omega
    rw [h1, hc]
    exact ⟨rfl, Nat.le_refl _, Nat.zero_le _, (fun e h => by cases h), (fun e => by cases e), (fun x e hp => absurd hp (Nat.lt_irrefl _)), (fun x e i hi => by simp at hi)⟩
  · refine ⟨off + 5, by rw [if_neg hc], ?_⟩
    have := h.sub (i := 1) (j := len) (by omega) (Nat.le_refl _)
    simp only [Nat.one_mul, List.drop_succ_cons, List.drop_zero] at this
    rw [List.take_of_length_le (by omega)] at this
    exact this
theorem heap_dead {k : Nat} {m : EntD} {R : List (List EntD × Nat)} {n : Nat} (h : Mg.HeapTo (Mg.lessS lessE) n (([m], k) :: R)) (hR : ∀ s ∈ R, s.1 ≠ []) : Mg.HeapTo (Mg.lessS lessE) n (([], k) :: R) := by
  intro c c0 hc u v hu hv
  have hv' : (([m], k) :: R)[c]? = some v := by
    match c, c0, hv with
    | c + 1, _, hv => simpa using hv
  by_cases hp : (c - 1) / 2 = 0
  · rw [hp] at hu
    simp at hu
    subst hu
    have hv2 : v ∈ R := by
      match c, c0, hv with
      | c + 1, _, hv => exact List.mem_of_getElem? (by simpa using hv)
    obtain ⟨b, r, hb⟩ := List.exists_cons_of_ne_nil (hR v hv2)
    obtain ⟨v1, v2⟩ := v
    simp only at hb
    subst hb
    rfl
  · obtain ⟨p, hp'⟩ : ∃ p, (c - 1) / 2 = p + 1 := ⟨(c - 1) / 2 - 1, by omega⟩
    refine h c c0 hc u v ?_ hv'
    rw [hp'] at hu ⊢
    simpa using hu
/-- What is given out so far, what is left, and where all this lies. -/
structure MInv (w : World) (BH : Nat) (P : List (List EntD)) (ds : List Nat) (av : Value) (W : World) (out : List EntD) (Z : List (List EntD)) (H : List (List EntD × Nat)) : Prop where
  box : ∃ a c, W.cell? ⟨BH, 0, none⟩ = some (.slice a H.length c)
  fr : W.frozen? ⟨BH, 0, none⟩ = false
  hp : 0 < H.length → ∃ g c X, HpSt W w.heap.size BH g H.length c X H ∧ ∀ x ∈ X, x.1 < w.heap.size
  hst : Mg.HSt H Z
  heap : Mg.HeapTo (Mg.lessS lessE) H.length H
  mst : Mg.MSt lessE P.flatten out Z
  row : W.ownsRow (BH + 1) 30 5 av out.length (flatE out)
  ents : ∀ e ∈ out, EntW e
  len : out.length + Z.flatten.length = P.flatten.length
  few : H.length ≤ 1048576
  mks : MarksAt w.heap.size W ds
  bel : Below w.heap.size w W
theorem MInv.start {w W : World} {BH : Nat} {P Z : List (List EntD)} {ds : List Nat} (hJ : JS w BH Z W) (hZ : Z.flatten = P.flatten) (hA : ∀ l ∈ Z, l ≠ [] ∧ Mg.Asc lessE l) (hP : P.flatten.length ≤ 1048576) (hmk : MarksAt w.heap.size W ds) (hb : Below w.heap.size w W) : ∃ H, MInv w BH P ds (.slice none 0 0) W [] Z H := by
  obtain ⟨v, X, H, hV, hS, hT, hL⟩ := hJ
  obtain ⟨av, cv, hv⟩ := hV.form
  refine ⟨H, ⟨⟨av, cv, by rw [← hv]; exact hV.box.cell⟩, hV.box.frozen, fun h0 => ?_, hS, hT, ?_, ⟨rfl, .inl ⟨rfl, rfl⟩⟩, (fun e he => by cases he), by rw [hZ]; simp, ?_, hmk, hb⟩⟩
  · rcases hV.row.2 with ⟨_, h1⟩ | ⟨g, cap, cur, hv', _⟩
    · omega
    · rw [hv'] at hV
      exact ⟨g, cap, X, hV.hp rfl, hV.low⟩
  · rw [← hZ]
    exact Mg.MSt.start (fun l hl => (hA l hl).2)
  · have := flat_ge hA
    rw [hZ] at this
    omega
/-- The first of the heap, and what is left of it. -/
theorem MInv.first {w W : World} {BH : Nat} {P Z : List (List EntD)} {ds : List Nat} {av : Value} {out : List EntD} {H : List (List EntD × Nat)} (h : MInv w BH P ds av W out Z H) (h0 : 0 < H.length) :
    ∃ g c X xb xo xn xc xk e l R, H = (e :: l, xk) :: R ∧ HpSt W w.heap.size BH g H.length c ((xb, xo, xn, xc, xk) :: X) H ∧ (∀ x ∈ (xb, xo, xn, xc, xk) :: X, x.1 < w.heap.size) ∧ EntsAt W (some ⟨xb, xo, none⟩) xn xc (e :: l) := by
  obtain ⟨g, c, X, hS, hl⟩ := h.hp h0
  have hXl := hS.own.len
  match H, X, h0, hS, hl, h with
  | [], _, h0, _, _, _ => exact absurd h0 (by simp)
  | s :: R, [], _, _, _, _ => simp at hXl
  | s :: R, (xb, xo, xn, xc, xk) :: X, _, hS, hl, h =>
    obtain ⟨l0, rfl, hE, _⟩ := hS.rest 0 _ _ rfl rfl
    obtain ⟨e, l, rfl⟩ := List.exists_cons_of_ne_nil ((h.hst.live _ List.mem_cons_self).1)
    exact ⟨g, c, X, xb, xo, xn, xc, xk, e, l, R, rfl, hS, hl, hE⟩
theorem row_ents {W : World} {base : Nat} {av : Value} {out : List EntD} (h : W.ownsRow base 30 5 av out.length (flatE out)) (hw : ∀ e ∈ out, EntW e) : ∃ a c, av = .slice a out.length c ∧ EntsAt W a out.length c out := by
  rcases h.2 with ⟨rfl, h0⟩ | ⟨g, cap, cur, rfl, _⟩
  · have : out = [] := List.length_eq_zero_iff.1 h0
    subst this
    exact ⟨none, 0, rfl, ⟨rfl, Nat.le_refl _, Nat.zero_le _, by simp, fun _ => rfl, (fun x e => by cases e), (fun x e => by cases e)⟩⟩
  · exact ⟨_, cap, rfl, OwnE.entsAt ⟨h, rfl, hw⟩⟩
theorem OwnE.cellsKept {w w' : World} {base g n c : Nat} {L : List EntD} (h : OwnE w base g n c L) (hc : ∀ (k : Nat) (o : Obj), w.heap[k]? = some o → o.isCells = true → w'.heap[k]? = some o) : OwnE w' base g n c L := by
  refine ⟨⟨h.owns.1, ?_⟩, h.len, h.ents⟩
  rcases h.owns.2 with hn | ⟨g1, cap1, cur1, e1, hb1, hgb, rest⟩
  · exact .inl hn
  · exact .inr ⟨g1, cap1, cur1, e1, hb1, hc g1 _ hgb rfl, rest⟩
theorem flatE_single (e : EntD) : flatE [e] = entCells e := by simp [flatE]
/-- One more is given out. -/
theorem MInv.next {w W w4 : World} {BH xk g c : Nat} {P Z : List (List EntD)} {ds : List Nat} {av av' : Value} {out l : List EntD} {e : EntD} {R H4 : List (List EntD × Nat)} {X4 : List StrD} (h : MInv w BH P ds av W out Z ((e :: l, xk) :: R)) (hS4 : HpSt w4 w.heap.size BH g H4.length c X4 H4) (hH4 : Mg.HSt H4 (Z.set xk l)) (hT4 : Mg.HeapTo (Mg.lessS lessE) H4.length H4)
    (hx4 : ∀ x ∈ X4, x.1 < w.heap.size) (hf4 : w4.frozen? ⟨BH, 0, none⟩ = false) (hrow : w4.ownsRow (BH + 1) 30 5 av' (out.length + 1) (flatE out ++ entCells e)) (hew : EntW e) (hmk : MarksAt w.heap.size w4 ds) (hbel : Below w.heap.size w w4) (hfew : H4.length ≤ 1048576) : MInv w BH P ds av' w4 (out ++ [e]) (Z.set xk l) H4 := by
  obtain ⟨h1, h2⟩ := h.hst.least less_wk h.heap
  have h3 := flat_set h1
  have h4 := h.len
  refine ⟨⟨_, _, hS4.box⟩, hf4, fun _ => ⟨g, c, X4, hS4, hx4⟩, hH4, hT4, h.mst.step less_wk h1 h2, ?_, ?_, ?_, hfew, hmk, hbel⟩
  · rw [List.length_append, flatE_append, flatE_single]
    exact hrow
  · intro x hx
    rcases List.mem_append.1 hx with h5 | h5
    · exact h.ents x h5
    · rw [List.mem_singleton] at h5
      subst h5
      exact hew
  · rw [List.length_append, List.length_singleton]
    omega
def sliceLen : Value → Nat
  | .slice _ n _ => n
  | _ => 0
end Go.Proofs.YthhiahjafhkbbaaGreat

namespace Go.Proofs.YthhiahjafhkbbaaGreat
open Go.Shelf
def Tryz.laysM316_ren : Go.Shelf.Ren := ⟨fun | 316 => 120 | n => n, fun | 9 => 9 | 3 => 3 | 4 => 4 | 37 => 22 | 0 => 0 | 127 => 194 | 5 => 5 | n => n, fun | n => n⟩
theorem Tryz.laysM316 : Go.Proofs.LaysM.n316 Tryz.prog Tryz.laysM316_ren := {
  mixed := by kernel_rfl
  f316 := Tryz.func120.trans (congrArg some (by kernel_rfl))
  t0 := Tryz.underlying0
  a0 := Tryz.isAgg0
  z0 := Tryz.sizeOf0
  v0 := Tryz.zeroValue0
  t3 := Tryz.underlying3
  a3 := Tryz.isAgg3
  z3 := Tryz.sizeOf3
  v3 := Tryz.zeroValue3
  t4 := Tryz.underlying4
  a4 := Tryz.isAgg4
  z4 := Tryz.sizeOf4
  v4 := Tryz.zeroValue4
  t9 := Tryz.underlying9
  a9 := Tryz.isAgg9
  z9 := Tryz.sizeOf9
  v9 := Tryz.zeroValue9
  t37 := Tryz.underlying22
  a37 := Tryz.isAgg22
  z37 := Tryz.sizeOf22
  v37 := Tryz.zeroValue22
  t127 := Tryz.underlying194
  a127 := Tryz.isAgg194
  z127 := Tryz.sizeOf194
  v127 := Tryz.zeroValue194
  t5 := Tryz.underlying5
  a5 := Tryz.isAgg5
  z5 := Tryz.sizeOf5
  v5 := Tryz.zeroValue5
  i0 := by kernel_rfl
  i3 := by kernel_rfl
  i4 := by kernel_rfl
  i5 := by kernel_rfl
  i9 := by kernel_rfl
  i37 := by kernel_rfl
  i127 := by kernel_rfl }
open Go.RowKit in
/-- internal/stringslite.Clone (what strings.Clone calls): "Clone returns a fresh copy of s.": THE SAME BYTES. Of what was there nothing has turned (a new row is laid, and frozen, where s is not empty). (LAID: no walk: one application.) -/
theorem Tryz.stringslite_Clone (s : ByteArray) (w : World) (hlim : s.size ≤ 281474976710656) :
    Calls Tryz.prog 120 #[.string s] w fun e w' => e = .returned (.string s) ∧ Below w.heap.size w w' := Any.stringslite_Clone Tryz.laysM316 s w hlim
end Go.Proofs.YthhiahjafhkbbaaGreat

namespace Go.Proofs.YthhiahjafhkbbaaGreat
open Go.RowKit

set_option maxHeartbeats 400000 in
theorem num_any (Q : Int → Prop) (R P : Nat) (a : Option Addr) (len cap : Nat) (b off m c : Nat) (w : World) (h : RdAt w R a len cap P) (hP : P < 100000) (hm1 : 1 ≤ m) (hm2 : m ≤ 100) (hbR : b ≠ R) (hbw : b < w.heap.size)
    (hc : ∀ i, i < m → ∃ z : Int, w.cell? ⟨b, off + i, none⟩ = some (.int .i64 z) ∧ Q z) :
    Calls Tryz.prog 30 #[.pointer (some ⟨R, 0, none⟩), .slice (some ⟨b, off, none⟩) m c] w fun e w' => ∃ z : Int, e = .returned (.int .i64 z) ∧ Q z ∧ RdAt w' R a len cap (P + 1) ∧ w.grownBy w' (some R) := by
  have HC : Hid (∀ i, i < m → ∃ z : Int, w.cell? ⟨b, off + i, none⟩ = some (.int .i64 z) ∧ Q z) := hc
  clear hc
  go_enter Tryz.func30, Tryz.ntmps30
  go_wp2_with fail
  refine (pick_any R P a len cap _ _ h hP (by omega)).mono ?_
  rintro e w1 ⟨q, rfl, hq, hR1, hg1⟩
  obtain ⟨k, rfl⟩ := Int.eq_ofNat_of_zero_le hq.1
  have hk : k < m := by have := hq.2 (by omega); omega
  obtain ⟨z, hz, hQ⟩ := HC.out k hk
  have hz1 : w1.cell? ⟨b, off + k, none⟩ = some (.int .i64 z) := (grown_cell hg1 (x := ⟨b, off + k, none⟩) hbw hbR).trans hz
  clear hz hq
  go_wp2
  go_ret
  exact ⟨z, rfl, hQ, hR1, hg1⟩

set_option maxHeartbeats 400000 in
theorem of_any (Q : ByteArray → Prop) (R P : Nat) (a : Option Addr) (len cap : Nat) (b off m c : Nat) (w : World) (h : RdAt w R a len cap P) (hP : P < 100000) (hm1 : 1 ≤ m) (hm2 : m ≤ 100) (hbR : b ≠ R) (hbw : b < w.heap.size)
    (hc : ∀ i, i < m → ∃ z : ByteArray, w.cell? ⟨b, off + i, none⟩ = some (.string z) ∧ Q z) :
    Calls Tryz.prog 141 #[.pointer (some ⟨R, 0, none⟩), .slice (some ⟨b, off, none⟩) m c] w fun e w' => ∃ z : ByteArray, e = .returned (.string z) ∧ Q z ∧ RdAt w' R a len cap (P + 1) ∧ w.grownBy w' (some R) := by
  have HC : Hid (∀ i, i < m → ∃ z : ByteArray, w.cell? ⟨b, off + i, none⟩ = some (.string z) ∧ Q z) := hc
  clear hc
  go_enter Tryz.func141, Tryz.ntmps141
  go_wp2_with fail
  refine (pick_any R P a len cap _ _ h hP (by omega)).mono ?_
  rintro e w1 ⟨q, rfl, hq, hR1, hg1⟩
  obtain ⟨k, rfl⟩ := Int.eq_ofNat_of_zero_le hq.1
  have hk : k < m := by have := hq.2 (by omega); omega
  obtain ⟨z, hz, hQ⟩ := HC.out k hk
  have hz1 : w1.cell? ⟨b, off + k, none⟩ = some (.string z) := (grown_cell hg1 (x := ⟨b, off + k, none⟩) hbw hbR).trans hz
  clear hz hq
  go_wp2
  go_ret
  exact ⟨z, rfl, hQ, hR1, hg1⟩

/-- The cells of a list of texts that has just been written out. -/
theorem strs_new (w : World) (t : TypeId) (l : List ByteArray) (Q : ByteArray → Prop) (hQ : ∀ s ∈ l, Q s) : ∀ i, i < l.length → ∃ z : ByteArray, (w.alloc (.cells (l.map Value.string).toArray t)).cell? ⟨w.heap.size, 0 + i, none⟩ = some (.string z) ∧ Q z := by
  intro i hi
  refine ⟨l[i], ?_, hQ _ (List.getElem_mem hi)⟩
  rw [Nat.zero_add, World.cell?_alloc_new]
  simp [hi]
theorem ints_new (w : World) (t : TypeId) (l : List Int) (Q : Int → Prop) (hQ : ∀ s ∈ l, Q s) : ∀ i, i < l.length → ∃ z : Int, (w.alloc (.cells (l.map (Value.int .i64)).toArray t)).cell? ⟨w.heap.size, 0 + i, none⟩ = some (.int .i64 z) ∧ Q z := by
  intro i hi
  refine ⟨l[i], ?_, hQ _ (List.getElem_mem hi)⟩
  rw [Nat.zero_add, World.cell?_alloc_new]
  simp [hi]

/-- A text of few bytes, and not the account none. -/
def FewB (s : ByteArray) : Prop := s.size ≤ 8 ∧ ¬ s.data.toList = [110, 111, 110, 101]

theorem rd_new (w : World) (a : Option Addr) (len cap : Nat) (t : TypeId) (few : len ≤ 2000) (hb : len = 0 ∨ ∃ b off, a = some ⟨b, off, none⟩ ∧ b < w.heap.size ∧ ∀ i, i < len → ∃ z : Nat, z ≤ 255 ∧ w.cell? ⟨b, off + i, none⟩ = some (.int .u8 z)) :
    RdAt (w.alloc (.cells #[.slice a len cap, .int .i64 0] t)) w.heap.size a len cap 0 := by
  refine ⟨by simp, by simp, by simp, few, ?_⟩
  rcases hb with h0 | ⟨b, off, ha, hbw, hc⟩
  · exact Or.inl h0
  · refine Or.inr ⟨b, off, ha, by omega, by simp; omega, fun i hi => ?_⟩
    obtain ⟨z, hz, hcc⟩ := hc i hi
    exact ⟨z, hz, cell_later ((Below.refl _ _).alloc (Nat.le_refl _) _) hcc⟩

set_option maxHeartbeats 400000 in
theorem l9Open_any (a : Option Addr) (len cap : Nat) (w : World) (hl : len ≤ cap) (hcap : cap ≤ maxLen) (hb : len = 0 ∨ ∃ b off, a = some ⟨b, off, none⟩ ∧ b < w.heap.size ∧ ∀ i, i < len → ∃ z : Nat, z ≤ 255 ∧ w.cell? ⟨b, off + i, none⟩ = some (.int .u8 z)) :
    Calls Tryz.prog 27 #[.slice a len cap] w fun e w' => ∃ len', e = .returned (.pointer (some ⟨w.heap.size, 0, none⟩)) ∧ RdAt w' w.heap.size a len' cap 0 ∧ Below w.heap.size w w' ∧ w'.heap.size = w.heap.size + 1 := by
  unfold maxLen at hcap
  have HB : Hid (len = 0 ∨ ∃ b off, a = some ⟨b, off, none⟩ ∧ b < w.heap.size ∧ ∀ i, i < len → ∃ z : Nat, z ≤ 255 ∧ w.cell? ⟨b, off + i, none⟩ = some (.int .u8 z)) := hb
  clear hb
  by_cases h2 : 2000 < len
  · obtain ⟨b, off, rfl, hbw, hby⟩ : ∃ b off, a = some ⟨b, off, none⟩ ∧ b < w.heap.size ∧ ∀ i, i < len → ∃ z : Nat, z ≤ 255 ∧ w.cell? ⟨b, off + i, none⟩ = some (.int .u8 z) := by
      rcases HB.out with h0 | h0
      · omega
      · exact h0
    have HBY : Hid (∀ i, i < len → ∃ z : Nat, z ≤ 255 ∧ w.cell? ⟨b, off + i, none⟩ = some (.int .u8 z)) := hby
    clear hby
    have hcI : (2000 : Int) ≤ (cap : Int) := by omega
    go_enter Tryz.func27, Tryz.ntmps27
    go_wp2
    go_ret
    exact ⟨2000, rfl, rd_new w _ 2000 cap _ (by omega) (Or.inr ⟨b, off, rfl, hbw, fun i hi => HBY.out i (by omega)⟩), (Below.refl _ _).alloc (Nat.le_refl _) _, by simp⟩
  · go_enter Tryz.func27, Tryz.ntmps27
    go_wp2
    go_ret
    exact ⟨len, rfl, rd_new w _ len cap _ (by omega) HB.out, (Below.refl _ _).alloc (Nat.le_refl _) _, by simp⟩

end Go.Proofs.YthhiahjafhkbbaaGreat
