/-
  What a loop body over a function leaves as it was; no statement of the program stands here.
  slices.Backward at entries: what it yields, for every loop body that keeps what it reads, by walks of its Go text.
  The library's slices.Sort at numbers at this program, laid by the kit's own command.
  A contract of the library's slices package at this program, laid by the kit's own command.
-/
import Derived.Test.YthhiahjafhkbbaaGreatBn02
import Derived.RangeFuncNested
import Derived.RangeFuncBound
import Derived.RangeFuncCalls
import Derived.RangeFuncLeaves
import Derived.RangeFuncBox
import Derived.Shelf.Abstract
import Derived.Shelf.RegionOpen
import Derived.WalkKit
import Derived.OwnWalkIn
import Derived.TacticsInMore
import Derived.LoopNIn
import Derived.LoopIn
import Derived.Ground.SlgmProg
import Derived.Shelf.SortM.Plain
import Derived.Shelf.SortM.SortNone
import Derived.Test.YthhiahjafhkbbaaGreatProg
import Derived.Ground.Names2Prog
import Derived.Shelf.Slices.SearchI
import Derived.Shelf.Slices.Empties
namespace Go.Proofs.YthhiahjafhkbbaaGreat
open Go.RowKit Go.Shelf

/-- The blocks of K are as they were. -/
structure KeepS (K : Nat → Prop) (w w' : World) : Prop where
  os : w'.os = w.os
  tape : w'.tape = w.tape
  output : w'.output = w.output
  size : w.heap.size ≤ w'.heap.size
  block : ∀ k, K k → w'.heap[k]? = w.heap[k]?
theorem KeepS.of {K : Nat → Prop} {n₀ : Nat} {w w' : World} (h : Below n₀ w w') (hK : ∀ k, K k → k < n₀) : KeepS K w w' := ⟨h.os, h.tape, h.output, h.size, fun k hk => h.block k (hK k hk)⟩
theorem KeepS.refl (K : Nat → Prop) (w : World) : KeepS K w w := ⟨rfl, rfl, rfl, Nat.le_refl _, fun _ _ => rfl⟩
theorem KeepS.trans {K : Nat → Prop} {a b c : World} (h : KeepS K a b) (k : KeepS K b c) : KeepS K a c :=
  ⟨k.os.trans h.os, k.tape.trans h.tape, k.output.trans h.output, Nat.le_trans h.size k.size, fun i hi => (k.block i hi).trans (h.block i hi)⟩
theorem KeepS.cell {K : Nat → Prop} {w w' : World} (h : KeepS K w w') {p : Addr} (hp : K p.block) : w'.cell? p = w.cell? p := World.cell?_of_block (w := w) (h.block p.block hp)
theorem KeepS.grown {K : Nat → Prop} {w w' : World} {row : Option Nat} (hg : w.grownBy w' row) (hK : ∀ k, K k → k < w.heap.size ∧ some k ≠ row) : KeepS K w w' := ⟨hg.os, hg.tape, hg.output, hg.size, fun k hk => hg.block k (hK k hk).1 (hK k hk).2⟩
theorem keepS_b {K : Nat → Prop} {w : World} (hK : ∀ k, K k → k < w.heap.size) (W : World) (l : Nat) (o o' : Obj) (hl : w.heap.size ≤ l) (h : W.heap[l]? = some o) (hc : o.isCells = false) (hw : o.isWalk = false) : KeepS K W (W.putObj l o') :=
  KeepS.of (belowK_b (n₀ := w.heap.size) (w := w) (Nat.le_refl _) W l o o' hl h hc hw) hK
theorem EntsAt.keepS {K : Nat → Prop} {w w' : World} {a : Option Addr} {len cap : Nat} {L : List EntD} (h : EntsAt w a len cap L) (hk : KeepS K w w') (hK : ∀ x, a = some x → 0 < len → K x.block) : EntsAt w' a len cap L :=
  h.moved hk.size (fun x e hp o => hk.cell (p := ⟨x.block, o, none⟩) (hK x e hp))
end Go.Proofs.YthhiahjafhkbbaaGreat

namespace Go.Proofs.YthhiahjafhkbbaaGreat
open Go.RowKit Go.Shelf

attribute [local go_sem] Oper.semAt_some

/-- From the last on, down to k. -/
def downTo (n k : Nat) : List (Fin n) := ((List.finRange n).drop k).reverse
theorem down_all (n : Nat) : downTo n n = [] := by simp [downTo]
theorem down_step {n k : Nat} (h : k < n) : downTo n k = downTo n (k + 1) ++ [⟨k, h⟩] := by
  unfold downTo
  rw [List.drop_eq_getElem_cons (by simpa using h)]
  simp
theorem down_pre (n k : Nat) : downTo n k <+: downTo n 0 := by
  unfold downTo
  rw [List.drop_zero]
  exact List.reverse_prefix.2 (List.drop_suffix _ _)
theorem down_len (n k : Nat) : (downTo n k).length = n - k := by simp [downTo]

/-- The element number i of the row at b, o is that of u0 u1 u2 u3 u4. -/
def LieE (K : Nat → Prop) (w : World) (a : Option Addr) (len : Nat) (u0 u1 u2 u3 u4 : Nat → Value) : Prop := ∀ b o, a = some ⟨b, o, none⟩ → 1 ≤ len → K b ∧ ∀ i, i < len → w.cell? ⟨b, o + i * 5, none⟩ = some (u0 i) ∧ w.cell? ⟨b, o + i * 5 + 1, none⟩ = some (u1 i) ∧ w.cell? ⟨b, o + i * 5 + 2, none⟩ = some (u2 i) ∧ w.cell? ⟨b, o + i * 5 + 3, none⟩ = some (u3 i) ∧ w.cell? ⟨b, o + i * 5 + 4, none⟩ = some (u4 i)

set_option maxRecDepth 100000 in
set_option maxHeartbeats 2000000 in
theorem backE1_in (n l Bp : Nat) (K : Nat → Prop) (hn : 1 ≤ n) (a : Option Addr) (len cap : Nat) (u0 u1 u2 u3 u4 : Nat → Value) (J Jx : List (Fin len) → World → Prop) (W : World)
    (hY : ∀ pre (x : Fin len) W1, J pre W1 → pre.length < len → YieldAt Fence.wide (n - 1) Tryz.prog l #[.int .i64 (x.1 : Nat), .agg #[u0 x.1, u1 x.1, u2 x.1, u3 x.1, u4 x.1]] W1 fun e W' =>
      (e = .returned (.bool true) ∧ J (pre ++ [x]) W' ∧ KeepS K W1 W') ∨ (e = .returned (.bool false) ∧ Jx (pre ++ [x]) W'))
    (hKB : K Bp) (hp0 : W.cell? ⟨Bp, 0, none⟩ = some (.slice a len cap)) (hs : 1 ≤ len → ∃ b o, a = some ⟨b, o, none⟩) (hroom : len ≤ cap) (hbig : cap ≤ maxLen) (hKs : ∀ k, K k → k < W.heap.size)
    (hV : LieE K W a len u0 u1 u2 u3 u4) (h0 : J [] W) :
    CallsIn Fence.wide n Tryz.prog 83 #[.func (.yield l) #[] #[], .pointer (some ⟨Bp, 0, none⟩)] W fun e W' => (∃ v, e = .returned v) ∧
      ((∃ ys, ys = downTo len 0 ∧ J ys W') ∨ (∃ pre, pre <+: downTo len 0 ∧ Jx pre W')) := by
  unfold maxLen at hbig
  have HKS : Hid (∀ k, K k → k < W.heap.size) := hKs
  clear hKs
  refine callsIn_of_wp Tryz.func83 rfl trivial ?_ rfl
  simp only [Tryz.ntmps83, List.size_toArray, List.length_cons, List.length_nil, Nat.reduceAdd, Nat.reduceSub, Array.replicate_succ, Array.replicate_zero, List.push_toArray, List.append_toArray, List.nil_append, List.cons_append]
  have wl : IntKind.i64.wrap ((len : Int) - 1) = (len : Int) - 1 := by rw [IntWalk.i64_left]; unfold wrap64; omega
  gi_wp2
  gi_loopw [3] (fun iv wr => ∃ k : Nat, k ≤ len ∧ iv = .int .i64 ((k : Int) - 1) ∧ J (downTo len k) wr ∧ KeepS K W wr) (fun iv _ => (intOf iv + 1).toNat)
  case atStart => exact ⟨len, Nat.le_refl _, rfl, by rw [down_all]; exact h0, KeepS.refl _ _⟩
  case round =>
    obtain ⟨k, hk, rfl, hJs, hb⟩ := hrel
    have HB : Hid (KeepS K W wr) := hb
    have hcc := (hb.cell (p := ⟨Bp, 0, none⟩) hKB).trans hp0
    have hszw := hb.size
    have hBw : Bp < wr.heap.size := Nat.lt_of_lt_of_le (HKS.out Bp hKB) hszw
    cases k with
    | zero =>
      gi_wp2
      go_end0
      exact ⟨⟨_, rfl⟩, .inl ⟨_, rfl, hJs⟩⟩
    | succ j =>
      have hj : ((j + 1 : Nat) : Int) - 1 = (j : Int) := by omega
      rw [hj]
      have hjI : (j : Int) < (len : Int) := by omega
      have hjN : j < len := by omega
      have hj0 : (0 : Int) ≤ (j : Int) := by omega
      have wj : IntKind.i64.wrap ((j : Int) - 1) = (j : Int) - 1 := by rw [IntWalk.i64_left]; unfold wrap64; omega
      obtain ⟨b, o, rfl⟩ := hs (by omega)
      obtain ⟨hKb, hVe⟩ := hV b o rfl (by omega)
      have hbW : b < wr.heap.size := Nat.lt_of_lt_of_le (HKS.out b hKb) hszw
      obtain ⟨g0, g1, g2, g3, g4⟩ := hVe j hjN
      have c0 := (HB.out.cell (p := ⟨b, o + j * 5, none⟩) hKb).trans g0
      have c1 := (HB.out.cell (p := ⟨b, o + j * 5 + 1, none⟩) hKb).trans g1
      have c2 := (HB.out.cell (p := ⟨b, o + j * 5 + 2, none⟩) hKb).trans g2
      have c3 := (HB.out.cell (p := ⟨b, o + j * 5 + 3, none⟩) hKb).trans g3
      have c4 := (HB.out.cell (p := ⟨b, o + j * 5 + 4, none⟩) hKb).trans g4
      clear g0 g1 g2 g3 g4
      obtain ⟨fn, tmps, assign, body, hy, hR⟩ := hY _ ⟨j, hjN⟩ _ hJs (by rw [down_len]; omega)
      simp only at hy
      clear hb hV hVe
      gi_wp2
      refine hR.mono ?_
      rintro e W3 (⟨rfl, hJ3, hk3⟩ | ⟨rfl, hJx3⟩)
      · gi_wp2
        go_roundw
        case rel => exact ⟨j, by omega, by go_num, by rw [down_step hjN]; exact hJ3, HB.out.trans hk3⟩
        case measure => simp [intOf]
      · gi_wp2
        refine bodyPost_ret (results_none rfl _ _ _) rfl ?_
        exact ⟨⟨_, rfl⟩, .inr ⟨_, by rw [← down_step hjN]; exact down_pre _ _, hJx3⟩⟩

/-- The slice is boxed; the function value captures the box. -/
theorem backE_in (n : Nat) (a : Option Addr) (len cap : Nat) (w : World) :
    CallsIn Fence.wide n Tryz.prog 35 #[.slice a len cap] w fun e w' => e = .returned (.func (.func 83) #[] #[.pointer (some ⟨w.heap.size, 0, none⟩)]) ∧
      w' = w.alloc (.cells #[.slice a len cap] 23) := by
  refine callsIn_of_wp Tryz.func35 rfl trivial ?_ rfl
  simp only [Tryz.ntmps35, List.size_toArray, List.length_cons, List.length_nil, Nat.reduceAdd, Nat.reduceSub, Array.replicate_succ, Array.replicate_zero, List.push_toArray, List.append_toArray, List.nil_append, List.cons_append]
  gi_wp2
  go_ret
  exact ⟨rfl, rfl⟩

/-- What it hands back stops as a range wants it: all from the last on, or a beginning of them. -/
theorem backE_stops (n : Nat) (hn : 1 ≤ n) (Bp : Nat) (K : Nat → Prop) (a : Option Addr) (len cap : Nat) (u0 u1 u2 u3 u4 : Nat → Value) (w : World)
    (hKB : K Bp) (hp0 : w.cell? ⟨Bp, 0, none⟩ = some (.slice a len cap)) (hs : 1 ≤ len → ∃ b o, a = some ⟨b, o, none⟩) (hroom : len ≤ cap) (hbig : cap ≤ maxLen) (hKs : ∀ k, K k → k < w.heap.size)
    (hV : LieE K w a len u0 u1 u2 u3 u4) :
    SeqStopsK Fence.wide n Tryz.prog 83 #[.pointer (some ⟨Bp, 0, none⟩)] (fun x : Fin len => #[Value.int .i64 (x.1 : Nat), .agg #[u0 x.1, u1 x.1, u2 x.1, u3 x.1, u4 x.1]]) (KeepS K) (fun ys => ys = downTo len 0) (fun pre => pre <+: downTo len 0) len w :=
  fun l J Jx W hW _ _ hY h0 => backE1_in n l Bp K hn a len cap u0 u1 u2 u3 u4 J Jx W hY hKB (cell_later hW hp0) hs hroom hbig (fun k hk => Nat.lt_of_lt_of_le (hKs k hk) hW.size) (fun b o e h1 => ⟨(hV b o e h1).1, fun i hi => by obtain ⟨g0, g1, g2, g3, g4⟩ := (hV b o e h1).2 i hi; exact ⟨cell_later hW g0, cell_later hW g1, cell_later hW g2, cell_later hW g3, cell_later hW g4⟩⟩) h0

end Go.Proofs.YthhiahjafhkbbaaGreat

namespace Go.Proofs.YthhiahjafhkbbaaGreat
open Go.Shelf
def Tryz.laysSlM5_f94_ren : Go.Shelf.Ren := ⟨fun | 5 => 117 | 8 => 147 | 7 => 146 | 19 => 166 | 20 => 167 | 10 => 158 | 11 => 159 | 12 => 160 | 13 => 161 | 14 => 162 | 15 => 163 | 16 => 148 | 17 => 164 | 18 => 165 | 30 => 177 | 31 => 178 | 32 => 179 | 33 => 180 | 34 => 181 | 35 => 126 | 40 => 184 | n => n, fun | 23 => 24 | 25 => 3 | 3 => 3 | 32 => 193 | 22 => 24 | 0 => 0 | 44 => 209 | 46 => 211 | 4 => 4 | 36 => 204 | 35 => 203 | 41 => 166 | 5 => 5 | 9 => 9 | 53 => 219 | 57 => 223 | 63 => 225 | 64 => 226 | n => n, fun | n => n⟩
theorem Tryz.laysSlM5_f94 : Go.Proofs.SlLaysM.n5 Tryz.prog Tryz.laysSlM5_f94_ren := {
  mixed := by kernel_rfl
  f5 := ⟨Tryz.f117.name, by decide, Tryz.func117.trans (congrArg some (by kernel_rfl))⟩
  f7 := ⟨Tryz.f146.name, by decide, Tryz.func146.trans (congrArg some (by kernel_rfl))⟩
  f8 := Tryz.func147.trans (congrArg some (by kernel_rfl))
  f10 := ⟨Tryz.f158.name, by decide, Tryz.func158.trans (congrArg some (by kernel_rfl))⟩
  f11 := ⟨Tryz.f159.name, by decide, Tryz.func159.trans (congrArg some (by kernel_rfl))⟩
  f12 := ⟨Tryz.f160.name, by decide, Tryz.func160.trans (congrArg some (by kernel_rfl))⟩
  f13 := ⟨Tryz.f161.name, by decide, Tryz.func161.trans (congrArg some (by kernel_rfl))⟩
  f14 := ⟨Tryz.f162.name, by decide, Tryz.func162.trans (congrArg some (by kernel_rfl))⟩
  f15 := ⟨Tryz.f163.name, by decide, Tryz.func163.trans (congrArg some (by kernel_rfl))⟩
  f16 := ⟨Tryz.f148.name, by decide, Tryz.func148.trans (congrArg some (by kernel_rfl))⟩
  f17 := ⟨Tryz.f164.name, by decide, Tryz.func164.trans (congrArg some (by kernel_rfl))⟩
  f18 := ⟨Tryz.f165.name, by decide, Tryz.func165.trans (congrArg some (by kernel_rfl))⟩
  f19 := Tryz.func166.trans (congrArg some (by kernel_rfl))
  f20 := Tryz.func167.trans (congrArg some (by kernel_rfl))
  f30 := ⟨Tryz.f177.name, by decide, Tryz.func177.trans (congrArg some (by kernel_rfl))⟩
  f31 := Tryz.func178.trans (congrArg some (by kernel_rfl))
  f32 := Tryz.func179.trans (congrArg some (by kernel_rfl))
  f33 := ⟨Tryz.f180.name, by decide, Tryz.func180.trans (congrArg some (by kernel_rfl))⟩
  f34 := ⟨Tryz.f181.name, by decide, Tryz.func181.trans (congrArg some (by kernel_rfl))⟩
  f35 := ⟨Tryz.f126.name, by decide, Tryz.func126.trans (congrArg some (by kernel_rfl))⟩
  f40 := ⟨Tryz.f184.name, by decide, Tryz.func184.trans (congrArg some (by kernel_rfl))⟩
  t0 := Tryz.underlying0
  a0 := Tryz.isAgg0
  z0 := Tryz.sizeOf0
  v0 := Tryz.zeroValue0
  t3 := Tryz.underlying3
  a3 := Tryz.isAgg3
  z3 := Tryz.sizeOf3
  v3 := Tryz.zeroValue3
  t4 := Tryz.underlying4
  a4 := Tryz.isAgg4
  z4 := Tryz.sizeOf4
  v4 := Tryz.zeroValue4
  t5 := Tryz.underlying5
  a5 := Tryz.isAgg5
  z5 := Tryz.sizeOf5
  v5 := Tryz.zeroValue5
  t9 := Tryz.underlying9
  a9 := Tryz.isAgg9
  z9 := Tryz.sizeOf9
  v9 := Tryz.zeroValue9
  t22 := Tryz.underlying24
  a22 := Tryz.isAgg24
  z22 := Tryz.sizeOf24
  v22 := Tryz.zeroValue24
  t23 := Tryz.underlying24
  a23 := Tryz.isAgg24
  z23 := Tryz.sizeOf24
  v23 := Tryz.zeroValue24
  t25 := Tryz.underlying3
  a25 := Tryz.isAgg3
  z25 := Tryz.sizeOf3
  v25 := Tryz.zeroValue3
  t32 := Tryz.underlying193
  a32 := Tryz.isAgg193
  z32 := Tryz.sizeOf193
  v32 := Tryz.zeroValue193
  t35 := Tryz.underlying203
  a35 := Tryz.isAgg203
  z35 := Tryz.sizeOf203
  v35 := Tryz.zeroValue203
  t36 := Tryz.underlying204
  a36 := Tryz.isAgg204
  z36 := Tryz.sizeOf204
  v36 := Tryz.zeroValue204
  t41 := Tryz.underlying166
  a41 := Tryz.isAgg166
  z41 := Tryz.sizeOf166
  v41 := Tryz.zeroValue166
  t44 := Tryz.underlying209
  a44 := Tryz.isAgg209
  z44 := Tryz.sizeOf209
  v44 := Tryz.zeroValue209
  t46 := Tryz.underlying211
  a46 := Tryz.isAgg211
  z46 := Tryz.sizeOf211
  v46 := Tryz.zeroValue211
  t53 := Tryz.underlying219
  a53 := Tryz.isAgg219
  z53 := Tryz.sizeOf219
  v53 := Tryz.zeroValue219
  t57 := Tryz.underlying223
  a57 := Tryz.isAgg223
  z57 := Tryz.sizeOf223
  v57 := Tryz.zeroValue223
  t63 := Tryz.underlying225
  a63 := Tryz.isAgg225
  z63 := Tryz.sizeOf225
  v63 := Tryz.zeroValue225
  t64 := Tryz.underlying226
  a64 := Tryz.isAgg226
  z64 := Tryz.sizeOf226
  v64 := Tryz.zeroValue226 }
open Go.Sort Go.RowKit in
theorem Tryz.slices_Sort_int (blk off cap : Nat) (zs : List Int) (w : World) (hH : Holds (Value.int .i64) w blk off zs.toArray) (hblk : blk < w.heap.size) (hsz : zs.length < 4611686018427387904) :
    Calls Tryz.prog 117 #[.slice (some ⟨blk, off, none⟩) zs.length cap] w fun e w' =>
      e = .returned (.tuple #[]) ∧ ∃ n os, w' = grow (putRow (Value.int .i64) (Sort.ahead w n) blk off (zs.mergeSort fun x y => decide (x ≤ y)).toArray) os := AnyM.slices_Sort_int Tryz.laysSlM5_f94 blk off cap zs w hH hblk hsz
open Go.RowKit Go.Sort in
/-- .. and plain. (LAID AT THE INSTANCE 'slices.Sort[[]int,int]': no walk: one application.) -/
theorem Tryz.slices_Sort_int_none (p : Option Addr) (cap : Nat) (w : World) :
    Calls Tryz.prog 117 #[.slice p 0 cap] w fun e w' => e = .returned (.tuple #[]) ∧ w' = w := AnyM.slices_Sort_int_none Tryz.laysSlM5_f94 p cap w
end Go.Proofs.YthhiahjafhkbbaaGreat

namespace Go.Proofs.YthhiahjafhkbbaaGreat
open Go.Shelf
def Tryz.lays25_ren : Go.Shelf.Ren := ⟨fun | 25 => 119 | 31 => 148 | 32 => 149 | 37 => 126 | n => n, fun | 22 => 24 | 3 => 3 | 4 => 4 | 40 => 193 | 0 => 0 | n => n, fun | n => n⟩
theorem Tryz.lays25 : Go.Proofs.Lays2.n25 Tryz.prog Tryz.lays25_ren := {
  mixed := by kernel_rfl
  f25 := Tryz.func119.trans (congrArg some (by kernel_rfl))
  f31 := Tryz.func148.trans (congrArg some (by kernel_rfl))
  f32 := Tryz.func149.trans (congrArg some (by kernel_rfl))
  f37 := Tryz.func126.trans (congrArg some (by kernel_rfl))
  t0 := Tryz.underlying0
  a0 := Tryz.isAgg0
  z0 := Tryz.sizeOf0
  v0 := Tryz.zeroValue0
  t3 := Tryz.underlying3
  a3 := Tryz.isAgg3
  z3 := Tryz.sizeOf3
  v3 := Tryz.zeroValue3
  t4 := Tryz.underlying4
  a4 := Tryz.isAgg4
  z4 := Tryz.sizeOf4
  v4 := Tryz.zeroValue4
  t22 := Tryz.underlying24
  a22 := Tryz.isAgg24
  z22 := Tryz.sizeOf24
  v22 := Tryz.zeroValue24
  t40 := Tryz.underlying193
  a40 := Tryz.isAgg193
  z40 := Tryz.sizeOf193
  v40 := Tryz.zeroValue193 }
end Go.Proofs.YthhiahjafhkbbaaGreat
