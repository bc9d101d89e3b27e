/-
  A list of entries of the call's own, or the nil list. No function of the program is walked here.
  Entries behind entries, by the library's append.
  What the program's order of entries leaves behind: blocks of its own alone; and that it is an order.
  Rows of entries as the library's sorts see them. No function of the program is walked here.
  Contracts of the library's slices package at this program, laid by the kit's own command.
  What the program's CellDo makes of every cell and every entry, kind by kind, by walks of its Go text.
-/
import Derived.Test.YtlmgojlffgkciaaGreatCe12
import Derived.Maps.AppendAt
import Derived.Laws.AppendOwnNone
import Derived.Test.YtlmgojlffgkciaaGreatCe26
import Derived.Sort.Grow
import Derived.Sort.Statements
import Derived.Shelf.SlSortCmp.InsertionK
import Derived.Test.YtlmgojlffgkciaaGreatCe04
import Derived.Test.YtlmgojlffgkciaaGreatCe00
import Derived.Ground.SlsfProg
import Derived.Test.YtlmgojlffgkciaaGreatProg
import Derived.Deep.RegionHeld3
import Derived.Deep.DeepCutAuto
import Derived.Test.YtlmgojlffgkciaaGreatCe05
namespace Go.Proofs.YtlmgojlffgkciaaGreat
open Go.RowKit
structure OwnO (w : World) (base : Nat) (a : Option Addr) (n c : Nat) (L : List EntD) : Prop where
  nil : a = none → n = 0 ∧ c = 0 ∧ L = []
  own : ∀ x, a = some x → ∃ g, x = ⟨g, 0, none⟩ ∧ OwnE w base g n c L
theorem OwnO.some {w : World} {base g n c : Nat} {L : List EntD} (h : OwnE w base g n c L) : OwnO w base (some ⟨g, 0, none⟩) n c L := ⟨(fun e => by cases e), (fun x e => by cases e; exact ⟨g, rfl, h⟩)⟩
theorem OwnO.none (w : World) (base : Nat) : OwnO w base none 0 0 [] := ⟨fun _ => ⟨rfl, rfl, rfl⟩, fun x e => by cases e⟩
theorem OwnO.len {w : World} {base : Nat} {a : Option Addr} {n c : Nat} {L : List EntD} (h : OwnO w base a n c L) : L.length = n := by
  cases a with
  | none => obtain ⟨h1, _, h3⟩ := h.nil rfl; rw [h1, h3]; rfl
  | some x => obtain ⟨g, _, h2⟩ := h.own x rfl; exact h2.len
theorem OwnO.entsAt {w : World} {base : Nat} {a : Option Addr} {n c : Nat} {L : List EntD} (h : OwnO w base a n c L) : EntsAt w a n c L := by
  cases a with
  | none =>
    obtain ⟨h1, h2, h3⟩ := h.nil rfl
    subst h1 h2 h3
    exact ⟨rfl, Nat.le_refl _, Nat.zero_le _, by simp, fun _ => rfl, (fun x e => by cases e), (fun x e => by cases e)⟩
  | some x => obtain ⟨g, rfl, h2⟩ := h.own x rfl; exact h2.entsAt
theorem OwnO.lt {w : World} {base : Nat} {a : Option Addr} {n c : Nat} {L : List EntD} (h : OwnO w base a n c L) : ∀ x, a = .some x → base ≤ x.block ∧ x.block < w.heap.size := fun x e => by
  obtain ⟨g, rfl, h2⟩ := h.own x e
  exact h2.lt
theorem OwnO.grown {w w' : World} {base : Nat} {a : Option Addr} {n c : Nat} {L : List EntD} {row : Option Nat} (h : OwnO w base a n c L) (hg : w.grownBy w' row) (hne : ∀ x, a = .some x → .some x.block ≠ row) : OwnO w' base a n c L :=
  ⟨h.nil, fun x e => by obtain ⟨g, rfl, h2⟩ := h.own x e; exact ⟨g, rfl, h2.grown hg (hne _ e)⟩⟩
theorem grown_of_below {w w' : World} (hb : Below w.heap.size w w') : w.grownBy w' none := ⟨hb.os, hb.tape, hb.output, hb.size, fun k hk _ => hb.block k hk⟩
theorem OwnO.below {w w' : World} {base : Nat} {a : Option Addr} {n c : Nat} {L : List EntD} (h : OwnO w base a n c L) (hb : Below w.heap.size w w') : OwnO w' base a n c L := h.grown (grown_of_below hb) (fun x _ e => by cases e)
end Go.Proofs.YtlmgojlffgkciaaGreat

namespace Go.Proofs.YtlmgojlffgkciaaGreat
open Go.RowKit
theorem appEnts {ops : Array Oper} {rest : List Oper} {o : Oper} {a : Act} {w : World} {Q : Exit → Act → World → Prop} (hgd : o.guard = none) (s x : Operand)
    (ho : o.op = .call { callee := .builtin .append, args := #[s, x], argTypes := #[28, 28] })
    (base base' g n c : Nat) (X : List EntD) (hs : a.eval s = .slice (some ⟨g, 0, none⟩) n c) (hO : OwnE w base g n c X) (ax : Option Addr) (m cx : Nat) (M : List EntD) (hx : a.eval x = .slice ax m cx) (hM : OwnO w base' ax m cx M) (hn : n ≤ 1048576) (hm : m ≤ 1048576) (k : Nat) (hk : k = n + m)
    (h : ∀ g' c' w', OwnE w' base g' k c' (X ++ M) → w.grownBy w' (some g) → wpList Tryz.prog ops Q rest (a.put o.dst (.slice (some ⟨g', 0, none⟩) k c')) w') : wpList Tryz.prog ops Q (o :: rest) a w := by
  subst hk
  obtain ⟨i0, hi, hz0, hz1, hz2⟩ := info_parts Tryz.infoEnt
  cases ax with
  | none =>
    obtain ⟨rfl, rfl, rfl⟩ := hM.nil rfl
    refine wpList_append_own_none hgd s x 28 ho base 78 i0 5 Tryz.underlying28 hi _ n (flatE X) hs hO.owns hx ?_
    have := h g c w (by simpa using hO) (World.grownBy.refl _ _)
    simpa using this
  | some x' =>
    obtain ⟨gx, rfl, hE⟩ := hM.own x' rfl
    refine wpList_append_own_at _ hgd s x 28 ho base 78 i0 _ 5 56 Tryz.underlying28 hi hz0 hz1 hz2 rfl (by decide) _ n (flatE X) hs hO.owns ⟨gx, 0, none⟩ m cx (flatE M) hx (by rw [flatE_len, hE.len]) (ents_news hE.entsAt) (flatE_one _) (by unfold maxLen; omega) (by omega) (by have := hO.lt; omega) ?_
    intro v' w' hown hgrow hnil hat
    obtain ⟨g', c', rfl⟩ : ∃ g cap, v' = .slice (some ⟨g, 0, none⟩) (n + m) cap := by
      rcases hown.2 with ⟨hv, h0⟩ | ⟨g, cap, _, rfl, _⟩
      · have := (hnil.1 hv).1; cases this
      · exact ⟨g, cap, rfl⟩
    refine h g' c' w' ⟨by rw [flatE_append]; exact hown, by rw [List.length_append, hO.len, hE.len], fun l hl => ?_⟩ (by simpa [Value.ownBlock] using hgrow)
    rcases List.mem_append.1 hl with h1 | h1
    · exact hO.ents l h1
    · exact hE.ents l h1
end Go.Proofs.YtlmgojlffgkciaaGreat

namespace Go.Proofs.YtlmgojlffgkciaaGreat
open Go.RowKit Go.Sort
theorem alloc_grow (w : World) (o : Obj) : w.alloc o = grow w #[o] := by
  unfold World.alloc grow
  simp
end Go.Proofs.YtlmgojlffgkciaaGreat

namespace Go.Proofs.YtlmgojlffgkciaaGreat
open Go.RowKit Go.Sort
theorem five (i : Nat) (j : Nat) (hj : j < 5) : (i * 5 + j) / 5 = i ∧ (i * 5 + j) % 5 = j := by omega
theorem ent_five (x : EntD) : (entCells x)[0]! = .string x.1 ∧ (entCells x)[1]! = .int .i64 x.2.1 ∧ (entCells x)[2]! = .int .i64 x.2.2.1 ∧ (entCells x)[3]! = .string x.2.2.2.1 ∧ (entCells x)[4]! = .int .i64 x.2.2.2.2 := ⟨rfl, rfl, rfl, rfl, rfl⟩
theorem holds_ents {w : World} {base g n c : Nat} {L : List EntD} (hO : OwnE w base g n c L) : HoldsK entCells 5 w g 0 L.toArray := by
  intro t ht
  rw [size_flatK] at ht
  have hl := hO.len
  have hlt : t / 5 < L.length := by simp at ht; omega
  refine ⟨?_, by rw [Nat.zero_add]; exact hO.owns.frozenAt _⟩
  rw [get_flatK _ _ _ _ ht]
  obtain ⟨c0, c1, c2, c3, c4⟩ := hO.entsAt.cells _ rfl (t / 5) hlt
  have e : (L.toArray)[t / 5]! = L[t / 5] := by simp [hlt]
  rw [e]
  obtain ⟨z0, z1, z2, z3, z4⟩ := ent_five L[t / 5]
  have hm : t % 5 < 5 := Nat.mod_lt _ (by omega)
  have ht5 : t = t / 5 * 5 + t % 5 := by omega
  rcases (show t % 5 = 0 ∨ t % 5 = 1 ∨ t % 5 = 2 ∨ t % 5 = 3 ∨ t % 5 = 4 by omega) with h | h | h | h | h
  · rw [h, z0]; rw [show (0 : Nat) + t = 0 + t / 5 * 5 by omega]; exact c0
  · rw [h, z1]; rw [show (0 : Nat) + t = 0 + t / 5 * 5 + 1 by omega]; exact c1
  · rw [h, z2]; rw [show (0 : Nat) + t = 0 + t / 5 * 5 + 2 by omega]; exact c2
  · rw [h, z3]; rw [show (0 : Nat) + t = 0 + t / 5 * 5 + 3 by omega]; exact c3
  · rw [h, z4]; rw [show (0 : Nat) + t = 0 + t / 5 * 5 + 4 by omega]; exact c4
theorem ents_holds {w : World} {g : Nat} {D : Array EntD} (h : HoldsK entCells 5 w g 0 D) (i : Nat) (hi : i < D.toList.length) : EntCells w g (0 + i * 5) D.toList[i] := by
  have hi' : i < D.size := by simpa using hi
  have e : D[i]! = D.toList[i] := by simp [hi']
  have key : ∀ j, j < 5 → w.cell? ⟨g, 0 + i * 5 + j, none⟩ = some ((entCells D.toList[i])[j]!) := fun j hj => by
    have hlt : i * 5 + j < D.size * 5 := by omega
    have := (h (i * 5 + j) (by rw [size_flatK]; exact hlt)).1
    rw [get_flatK _ _ _ _ hlt, (five i j hj).1, (five i j hj).2, e] at this
    rw [Nat.add_assoc]
    exact this
  obtain ⟨z0, z1, z2, z3, z4⟩ := ent_five D.toList[i]
  exact ⟨by rw [← z0]; exact key 0 (by omega), by rw [← z1]; exact key 1 (by omega), by rw [← z2]; exact key 2 (by omega), by rw [← z3]; exact key 3 (by omega), by rw [← z4]; exact key 4 (by omega)⟩
theorem grown_sorted {w : World} {g n : Nat} {os : Array Obj} (d : Array EntD) : w.grownBy (sortWorldK entCells 5 w g 0 n d os) (some g) := by
  unfold sortWorldK putRowK
  refine ⟨rfl, rfl, rfl, by simp, fun k hk hne => ?_⟩
  rw [heap_grow_old _ _ (by simpa using hk)]
  have : g ≠ k := fun e => hne (by rw [e])
  simp [putRow, mapBlock, Sort.ahead, Array.getElem?_modify, this]
end Go.Proofs.YtlmgojlffgkciaaGreat

namespace Go.Proofs.YtlmgojlffgkciaaGreat
open Go.Shelf
def Tryz.insL_ren : Go.Shelf.Ren := ⟨fun | 20 => 195 | n => n, fun | 24 => 78 | 22 => 28 | 3 => 3 | 25 => 159 | 4 => 4 | 0 => 0 | n => n, fun | n => n⟩
theorem Tryz.insL : Go.Proofs.SlLaysF0.n20 Tryz.prog Tryz.insL_ren := {
  mixed := by kernel_rfl
  f20 := ⟨Tryz.f195.name, by decide, Tryz.func195.trans (congrArg some (by kernel_rfl))⟩
  t0 := Tryz.underlying0
  a0 := Tryz.isAgg0
  z0 := Tryz.sizeOf0
  v0 := Tryz.zeroValue0
  t3 := Tryz.underlying3
  a3 := Tryz.isAgg3
  z3 := Tryz.sizeOf3
  v3 := Tryz.zeroValue3
  t4 := Tryz.underlying4
  a4 := Tryz.isAgg4
  z4 := Tryz.sizeOf4
  v4 := Tryz.zeroValue4
  t22 := Tryz.underlying28
  a22 := Tryz.isAgg28
  z22 := Tryz.sizeOf28
  v22 := Tryz.zeroValue28
  t25 := Tryz.underlying159
  a25 := Tryz.isAgg159
  z25 := Tryz.sizeOf159
  v25 := Tryz.zeroValue159 }
end Go.Proofs.YtlmgojlffgkciaaGreat

namespace Go.Proofs.YtlmgojlffgkciaaGreat
open Go.RowKit
set_option maxRecDepth 100000
set_option maxHeartbeats 400000
attribute [local go_sem] Oper.semAt_some
def cellV (c : CellD) : Value := .agg #[.bool c.1, .string c.2.1, .int .i64 c.2.2]
def cellN (b : Bool) (t : ByteArray) (n : Int) (d : Int) (t' : ByteArray) (n' : Int) : CellD :=
  if d = 1 then (true, t', n') else if d = 2 then (false, ⟨#[]⟩, 0) else if d = 3 then (true, t, wrap64 (n + n')) else (b, t, n)
theorem cellN_1 {b : Bool} {t t' : ByteArray} {n n' : Int} : cellN b t n 1 t' n' = (true, t', n') := by simp [cellN]
theorem cellN_2 {b : Bool} {t t' : ByteArray} {n n' : Int} : cellN b t n 2 t' n' = (false, ⟨#[]⟩, 0) := by simp [cellN]
theorem cellN_3 {b : Bool} {t t' : ByteArray} {n n' : Int} : cellN b t n 3 t' n' = (true, t, wrap64 (n + n')) := by simp [cellN]
theorem cellN_0 {b : Bool} {t t' : ByteArray} {n d n' : Int} (h1 : ¬ d = 1) (h2 : ¬ d = 2) (h3 : ¬ d = 3) : cellN b t n d t' n' = (b, t, n) := by simp [cellN, h1, h2, h3]
theorem do_putKind (b : Bool) (t k t' : ByteArray) (n q d n' : Int) (w : World) :
    Calls Tryz.prog 261 #[.agg #[], .agg #[.bool b, .string t, .int .i64 n], .agg #[.string k, .int .i64 q, .int .i64 d, .string t', .int .i64 n']] w fun e w' => e = .returned (cellV (true, t', n')) ∧ Below w.heap.size w w' := by
  go_enter Tryz.func261, Tryz.ntmps261
  go_wp2
  refine bodyPost_ret (v := .agg #[.bool true, .string t', .int .i64 n']) (by simp [results, Tryz.results261, go_sem]) rfl ⟨rfl, ?_⟩
  exact (((((Below.refl _ _).alloc (Nat.le_refl _) _).alloc (by simp) _).alloc (by simp; omega) _).alloc (by simp; omega) _)
theorem do_delKind (b : Bool) (t k t' : ByteArray) (n q d n' : Int) (w : World) :
    Calls Tryz.prog 263 #[.agg #[], .agg #[.bool b, .string t, .int .i64 n], .agg #[.string k, .int .i64 q, .int .i64 d, .string t', .int .i64 n']] w fun e w' => e = .returned (cellV (false, ⟨#[]⟩, 0)) ∧ Below w.heap.size w w' := by
  go_enter Tryz.func263, Tryz.ntmps263
  go_wp2
  refine bodyPost_ret (v := .agg #[.bool false, .string ⟨#[]⟩, .int .i64 0]) (by simp [results, Tryz.results263, go_sem]) rfl ⟨rfl, ?_⟩
  exact (((((Below.refl _ _).alloc (Nat.le_refl _) _).alloc (by simp) _).alloc (by simp; omega) _).alloc (by simp; omega) _)
theorem do_addKind (b : Bool) (t k t' : ByteArray) (n q d n' : Int) (w : World) :
    Calls Tryz.prog 265 #[.agg #[], .agg #[.bool b, .string t, .int .i64 n], .agg #[.string k, .int .i64 q, .int .i64 d, .string t', .int .i64 n']] w fun e w' => e = .returned (cellV (true, t, wrap64 (n + n'))) ∧ Below w.heap.size w w' := by
  go_enter Tryz.func265, Tryz.ntmps265
  go_wp2
  refine bodyPost_ret (v := .agg #[.bool true, .string t, .int .i64 (wrap64 (n + n'))]) (by simp [results, Tryz.results265, go_sem]) rfl ⟨rfl, ?_⟩
  exact (((((Below.refl _ _).alloc (Nat.le_refl _) _).alloc (by simp) _).alloc (by simp; omega) _).alloc (by simp; omega) _)
theorem do_noKind (b : Bool) (t k t' : ByteArray) (n q d n' : Int) (w : World) :
    Calls Tryz.prog 267 #[.agg #[], .agg #[.bool b, .string t, .int .i64 n], .agg #[.string k, .int .i64 q, .int .i64 d, .string t', .int .i64 n']] w fun e w' => e = .returned (cellV (b, t, n)) ∧ Below w.heap.size w w' := by
  go_enter Tryz.func267, Tryz.ntmps267
  go_wp2
  refine bodyPost_ret (v := .agg #[.bool b, .string t, .int .i64 n]) (by simp [results, Tryz.results267, go_sem]) rfl ⟨rfl, ?_⟩
  exact (((((Below.refl _ _).alloc (Nat.le_refl _) _).alloc (by simp) _).alloc (by simp; omega) _).alloc (by simp; omega) _)
end Go.Proofs.YtlmgojlffgkciaaGreat
