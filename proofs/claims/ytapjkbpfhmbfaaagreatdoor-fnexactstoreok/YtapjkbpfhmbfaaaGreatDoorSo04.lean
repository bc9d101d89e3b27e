/-
  What a strings.Builder does at this program when a byte or a text is written, and what of all else is kept, by walks of its Go text.
  The program's reader of a log: its next piece, word, number, by walks of its Go text.
  The program's reader of a log: its next word and number, by walks of its Go text.
  The program's reader of a log: its next number, by a walk of its Go text.
-/
import Derived.Lib.OwnKind
import Derived.Lib.BufferKept
import Derived.Lib.Walk
import Derived.Laws.AppendOwn
import Derived.Lib.MakeNoZero
import Derived.Laws.Externs
import Derived.Laws.IdiomCopy
import Derived.Test.YtapjkbpfhmbfaaaGreatDoorSo03
import Derived.Test.YtapjkbpfhmbfaaaGreatDoorSo01
import Derived.Laws.IdiomStrings
import Derived.Deep.RegionHeld3
import Derived.Deep.RegionWith
import Derived.Lib.LaidTab
import Derived.Laws.RangeAny
import Derived.WalkMore
import Derived.Lib.Hide
import Derived.Lib.IndexLaws
namespace Go.Proofs.YtapjkbpfhmbfaaaGreatDoor
set_option maxRecDepth 100000
set_option maxHeartbeats 2000000
open Go.RowKit Go.Shelf
theorem Tryz.sizeBuilder : (Tryz.prog.info? 163).map (·.size) = some 2 := by kernel_rfl
theorem check_used (b : Nat) (w : World) (h0 : w.cell? ⟨b, 0, none⟩ = some (.pointer (some ⟨b, 0, none⟩))) :
    Calls Tryz.prog 201 #[.pointer (some ⟨b, 0, none⟩)] w fun e w' => e = .returned (.tuple #[]) ∧ w' = w := by
  obtain ⟨j, hj, _⟩ := Option.map_eq_some_iff.1 Tryz.sizeBuilder
  go_enter Tryz.func201, Tryz.ntmps201
  go_wp2
  rw [Lib.run_neq_ptr_same w _ Tryz.underlying161 hj]
  go_wp2
  go_end0
  exact ⟨rfl, rfl⟩
theorem check_fresh (b : Nat) (w : World) (h0 : w.cell? ⟨b, 0, none⟩ = some (.pointer none)) (hsh : w.shape? b = some (163, 2)) (hfz : w.frozen? ⟨b, 0, none⟩ = false) :
    Calls Tryz.prog 201 #[.pointer (some ⟨b, 0, none⟩)] w fun e w' => e = .returned (.tuple #[]) ∧ w' = w.setCell ⟨b, 0, none⟩ (.pointer (some ⟨b, 0, none⟩)) := by
  obtain ⟨j, hj, hjs⟩ := Option.map_eq_some_iff.1 Tryz.sizeBuilder
  go_enter Tryz.func201, Tryz.ntmps201
  go_wp2
  rw [Lib.run_to_unsafe w ⟨b, 0, none⟩ Tryz.underlying161 Tryz.underlying264 hj (by rw [hjs]; decide) hsh (Nat.zero_lt_succ 1)]
  simp only [Result.andThen]
  rw [Oper.upon_value]
  go_wp2
  rw [run_callFunc_extern Tryz.func246 (by kernel_rfl) (by kernel_rfl) (by kernel_rfl) (e := Extern.AbiNoEscape.same) (by kernel_rfl)]
  rw [Lib.run_noEscape]
  simp only [Result.andThen]
  rw [Oper.upon_value]
  go_wp2
  rw [Lib.run_from_unsafe w ⟨b, 0, none⟩ Tryz.underlying264 Tryz.underlying161 hj hsh (by kernel_rfl)]
  simp only [Result.andThen]
  rw [Oper.upon_value]
  go_wp2
  go_end0
  exact ⟨rfl, rfl⟩
theorem check_any (B b : Nat) (bs : List Value) (w : World) (h : Lib.IsBuilder 163 5 B b bs w) :
    Calls Tryz.prog 201 #[.pointer (some ⟨b, 0, none⟩)] w fun e w' => e = .returned (.tuple #[]) ∧ (Lib.BuilderAt 163 5 B b (.pointer (some ⟨b, 0, none⟩)) bs w' ∧ Below B w w' ∧ Lib.OthersKept 5 (some b) w w') := by
  rcases h with h | h
  · refine (check_fresh b w h.cell0 h.shape h.frozen0).mono ?_
    rintro e w' ⟨rfl, rfl⟩
    exact ⟨rfl, h.used _, (Below.refl B w).setCell (p := ⟨b, 0, none⟩) h.1 _, (Lib.OthersKept.refl 5 (some b) w).setCell (b := b) ⟨b, 0, none⟩ rfl _⟩
  · refine (check_used b w h.cell0).mono ?_
    rintro e w' ⟨rfl, rfl⟩
    exact ⟨rfl, h, Below.refl B _, Lib.OthersKept.refl _ _ _⟩
theorem writeByte_any (B b : Nat) (bs : List Value) (c : Int) (w : World) (h : Lib.IsBuilder 163 5 B b bs w) (hlen : bs.length + 1 ≤ 140737488355328) (hBw : B ≤ w.heap.size) :
    Calls Tryz.prog 211 #[.pointer (some ⟨b, 0, none⟩), .int .u8 c] w fun e w' => e = .returned .nilIface ∧ (Lib.BuilderAt 163 5 B b (.pointer (some ⟨b, 0, none⟩)) (bs ++ [.int .u8 c]) w' ∧ Below B w w' ∧ Lib.OthersKept 5 (some b) w w') := by
  obtain ⟨i0, hi, hz0, hz1, hz2⟩ := info_parts Tryz.Builder_Extra_169.infoByte
  go_enter Tryz.func211, Tryz.ntmps211
  go_wp2_with (go_at_call 201; refine (check_any B b bs _ h).mono ?_)
  rintro e w1 ⟨rfl, h1, hb1, hk1⟩
  obtain ⟨hB, v, hbk, hown, hne⟩ := h1
  have c0 : w1.cell? ⟨b, 0, none⟩ = some (.pointer (some ⟨b, 0, none⟩)) := by rw [Lib.cell_of_heap hbk]; rfl
  have c1 : w1.cell? ⟨b, 1, none⟩ = some v := by rw [Lib.cell_of_heap hbk]; rfl
  go_wp2_with (at_builtin; refine wpList_append_own _ rfl _ _ 142 rfl B 5 i0 (.int .u8 0) 1 1 Tryz.underlying142 hi hz0 hz1 hz2 rfl (by decide) _ _ _ rfl (hown.alloc _) ⟨w1.heap.size, 0, none⟩ 1 1 [.int .u8 c] rfl rfl ?c1 ?c2 ?c3 ?c4 ?c5 ?_)
  case c1 =>
    intro j u hj
    match j, hj with
    | 0, hj => simp at hj; subst hj; simp [Addr.add]
  case c2 => intro u hu; simp at hu; subst hu; rfl
  case c3 => unfold maxLen; omega
  case c4 => omega
  case c5 => have := hb1.size; simp; omega
  intro v' w2 hown' hgrow _
  have hlt : b < w1.heap.size := by
    rcases Nat.lt_or_ge b w1.heap.size with h' | h'
    · exact h'
    · simp [Array.getElem?_eq_none h'] at hbk
  have hb2 : w2.heap[b]? = some (.cells #[.pointer (some ⟨b, 0, none⟩), v] 163 (0, 0)) := by
    rw [hgrow.block b (by simp; omega) (fun e => hne e.symm), Lib.alloc_old w1 _ b hlt]
    exact hbk
  have d0 : w2.cell? ⟨b, 0, none⟩ = some (.pointer (some ⟨b, 0, none⟩)) := by rw [Lib.cell_of_heap hb2]; rfl
  have d1 : w2.cell? ⟨b, 1, none⟩ = some v := by rw [Lib.cell_of_heap hb2]; rfl
  have f1 : w2.frozen? ⟨b, 1, none⟩ = false := Lib.frozen_of_heap hb2 1
  obtain ⟨g, cap, rfl⟩ : ∃ g cap, v' = .slice (some ⟨g, 0, none⟩) (bs.length + 1) cap := by
    rcases hown'.2 with ⟨_, h0⟩ | ⟨g, cap, cur, hv, _⟩
    · omega
    · exact ⟨g, cap, hv⟩
  go_wp2
  go_ret
  refine ⟨rfl, ?_, ?_, ?_⟩
  · exact Lib.BuilderAt.put (T := 163) (e := 5) hB hb2 (bs' := bs ++ [.int .u8 c]) (by simpa using hown') Tryz.Builder_Extra_169.neB5
  · exact ((hb1.alloc (by have := hb1.size; omega) _).grown hgrow (by have := hb1.size; simp; omega) (fun k hk => (hown.lt k hk).1)).setCell (p := ⟨b, 1, none⟩) hB _
  · exact ((hk1.alloc _).grown hgrow (fun g hg => Lib.ownsRow_kind (hown.alloc _) g hg)).setCell (b := b) ⟨b, 1, none⟩ rfl _
theorem writeString_any (B b : Nat) (bs : List Value) (s : ByteArray) (w : World) (h : Lib.IsBuilder 163 5 B b bs w) (hlen : bs.length + s.size ≤ 140737488355328) (hBw : B ≤ w.heap.size) :
    Calls Tryz.prog 154 #[.pointer (some ⟨b, 0, none⟩), .string s] w fun e w' => e = .returned (.tuple #[.int .i64 s.size, .nilIface]) ∧ (Lib.BuilderAt 163 5 B b (.pointer (some ⟨b, 0, none⟩)) (bs ++ Lib.strCells s) w' ∧ Below B w w' ∧ Lib.OthersKept 5 (some b) w w') := by
  obtain ⟨i0, hi, hz0, hz1, hz2⟩ := info_parts Tryz.Builder_Extra_169.infoByte
  go_enter Tryz.func154, Tryz.ntmps154
  go_wp2_with (go_at_call 201; refine (check_any B b bs _ h).mono ?_)
  rintro e w1 ⟨rfl, h1, hb1, hk1⟩
  obtain ⟨hB, v, hbk, hown, hne⟩ := h1
  have c0 : w1.cell? ⟨b, 0, none⟩ = some (.pointer (some ⟨b, 0, none⟩)) := by rw [Lib.cell_of_heap hbk]; rfl
  have c1 : w1.cell? ⟨b, 1, none⟩ = some v := by rw [Lib.cell_of_heap hbk]; rfl
  go_wp2_with (at_builtin; refine Lib.wpList_append_own_string _ rfl _ _ 142 9 rfl B 5 i0 Tryz.underlying142 Tryz.underlying9 hi hz0 hz1 hz2 _ _ _ rfl hown s rfl ?c3 ?c4 ?c5 ?_)
  case c3 => unfold maxLen; omega
  case c4 => omega
  case c5 => have := hb1.size; omega
  intro v' w2 hown' hgrow _
  have hlt : b < w1.heap.size := by
    rcases Nat.lt_or_ge b w1.heap.size with h' | h'
    · exact h'
    · simp [Array.getElem?_eq_none h'] at hbk
  have hb2 : w2.heap[b]? = some (.cells #[.pointer (some ⟨b, 0, none⟩), v] 163 (0, 0)) := by
    rw [hgrow.block b hlt (fun e => hne e.symm)]
    exact hbk
  have d0 : w2.cell? ⟨b, 0, none⟩ = some (.pointer (some ⟨b, 0, none⟩)) := by rw [Lib.cell_of_heap hb2]; rfl
  have d1 : w2.cell? ⟨b, 1, none⟩ = some v := by rw [Lib.cell_of_heap hb2]; rfl
  have f1 : w2.frozen? ⟨b, 1, none⟩ = false := Lib.frozen_of_heap hb2 1
  obtain ⟨ao, n', cap, rfl⟩ : ∃ ao n' cap, v' = .slice ao n' cap := by
    rcases hown'.2 with ⟨hv, _⟩ | ⟨g, cap, cur, hv, _⟩
    · exact ⟨_, _, _, hv⟩
    · exact ⟨_, _, _, hv⟩
  go_wp2
  go_ret2
  refine ⟨rfl, ?_, ?_, ?_⟩
  · exact Lib.BuilderAt.put (T := 163) (e := 5) hB hb2 (bs' := bs ++ Lib.strCells s) (by simpa [Lib.strCells_length] using hown') Tryz.Builder_Extra_169.neB5
  · exact (hb1.grown hgrow (by have := hb1.size; omega) (fun k hk => (hown.lt k hk).1)).setCell (p := ⟨b, 1, none⟩) hB _
  · exact (hk1.grown hgrow (fun g hg => Lib.ownsRow_kind hown g hg)).setCell (b := b) ⟨b, 1, none⟩ rfl _
structure BldIn (B b : Nat) (W w : World) (l : List UInt8) : Prop where
  bld : Lib.IsBuilder 163 5 B b (Lib.byteCells l) w
  kept : Lib.OthersKept 5 (some b) W w
  bel : Below B W w
theorem ownsRow_kb {B : Nat} {e : TypeId} {k : Nat} {v : Value} {n : Nat} {xs : List Value} {w w' : World} (h : w.ownsRow B e k v n xs) (hb : Below w.heap.size w w') : w'.ownsRow B e k v n xs :=
  h.kept (row := none) ⟨hb.os, hb.tape, hb.output, hb.size, fun j hj _ => hb.block j hj⟩ (by cases hv : v.ownBlock <;> simp)
theorem isBuilder_below {B b : Nat} {bs : List Value} {w w' : World} (h : Lib.IsBuilder 163 5 B b bs w) (hb : Below w.heap.size w w') : Lib.IsBuilder 163 5 B b bs w' := by
  have f : ∀ {p}, Lib.BuilderAt 163 5 B b p bs w → Lib.BuilderAt 163 5 B b p bs w' := by
    rintro p ⟨h1, v, h2, h3, h4⟩
    exact ⟨h1, v, (hb.block b (Array.getElem?_eq_some_iff.1 h2).1).trans h2, ownsRow_kb h3 hb, h4⟩
  rcases h with h | h
  · exact Or.inl (f h)
  · exact Or.inr (f h)
theorem BldIn.below {B b : Nat} {W w w' : World} {l : List UInt8} (h : BldIn B b W w l) (hB : B ≤ W.heap.size) (hb : Below w.heap.size w w') : BldIn B b W w' l :=
  ⟨isBuilder_below h.bld hb, h.kept.below hb, h.bel.trans (hb.mono (Nat.le_trans hB h.bel.size))⟩
theorem BldIn.size {B b : Nat} {W w : World} {l : List UInt8} (h : BldIn B b W w l) (hB : B ≤ W.heap.size) : B ≤ w.heap.size := Nat.le_trans hB h.bel.size
theorem BldIn.box {B b X : Nat} {W w : World} {l : List UInt8} {cs : Array Value} {t : TypeId} (h : BldIn B b W w l) (hX : W.heap[X]? = some (.cells cs t (0, 0))) (ht : t ≠ 5) (hb : X ≠ b) : w.heap[X]? = some (.cells cs t (0, 0)) :=
  h.kept X _ hX (by simpa using hb) (fun c fz e => by cases e; exact ht rfl)
theorem BldIn.here {B b : Nat} {W w : World} {l : List UInt8} (h : BldIn B b W w l) : BldIn B b w w l := ⟨h.bld, Lib.OthersKept.refl _ _ _, Below.refl _ _⟩
theorem BldIn.trans {B b : Nat} {W w w' : World} {l l' : List UInt8} (h : BldIn B b W w l) (k : BldIn B b w w' l') : BldIn B b W w' l' := ⟨k.bld, h.kept.trans k.kept, h.bel.trans k.bel⟩
theorem put_byte (B b : Nat) (l : List UInt8) (c : UInt8) (z : Int) (W w : World) (h : BldIn B b W w l) (hz : (c.toNat : Int) = z) (hlen : l.length + 1 ≤ 140737488355328) (hB : B ≤ W.heap.size) :
    Calls Tryz.prog 211 #[.pointer (some ⟨b, 0, none⟩), .int .u8 z] w fun e w' => e = .returned .nilIface ∧ BldIn B b W w' (l ++ [c]) := by
  refine (writeByte_any B b _ z w h.bld (by simpa [Lib.byteCells] using hlen) (h.size hB)).mono ?_
  rintro e w' ⟨rfl, h1, h2, h3⟩
  refine ⟨rfl, Or.inr ?_, h.kept.trans h3, h.bel.trans h2⟩
  rw [← hz] at h1
  simpa [Lib.byteCells] using h1
theorem put_str (B b : Nat) (l : List UInt8) (s : ByteArray) (W w : World) (h : BldIn B b W w l) (hlen : l.length + s.size ≤ 140737488355328) (hB : B ≤ W.heap.size) :
    Calls Tryz.prog 154 #[.pointer (some ⟨b, 0, none⟩), .string s] w fun e w' => e = .returned (.tuple #[.int .i64 s.size, .nilIface]) ∧ BldIn B b W w' (l ++ s.data.toList) := by
  refine (writeString_any B b _ s w h.bld (by simpa [Lib.byteCells] using hlen) (h.size hB)).mono ?_
  rintro e w' ⟨rfl, h1, h2, h3⟩
  refine ⟨rfl, Or.inr ?_, h.kept.trans h3, h.bel.trans h2⟩
  simpa [Lib.byteCells, Lib.strCells] using h1
end Go.Proofs.YtapjkbpfhmbfaaaGreatDoor

namespace Go.Proofs.YtapjkbpfhmbfaaaGreatDoor
set_option maxRecDepth 100000
set_option maxHeartbeats 2000000
open Go.RowKit Go.Shelf
structure LrAt (w : World) (X : Nat) (t : ByteArray) (k : Nat) : Prop where
  c0 : w.cell? ⟨X, 0, none⟩ = some (.string t)
  c1 : w.cell? ⟨X, 1, none⟩ = some (.int .i64 (k : Int))
  fz : ∀ o, w.frozen? ⟨X, o, none⟩ = false
  le : k ≤ t.size
theorem LrAt.lt {w : World} {X : Nat} {t : ByteArray} {k : Nat} (h : LrAt w X t k) : X < w.heap.size := World.block_lt_of_cell? _ _ h.c0
theorem LrAt.go {w : World} {X : Nat} {t : ByteArray} {k : Nat} (h : LrAt w X t k) {j : Nat} (hj : j ≤ t.size) {z : Int} (hz : z = (j : Int)) : LrAt (w.setCell ⟨X, 1, none⟩ (.int .i64 z)) X t j := by
  subst hz
  refine ⟨?_, ?_, fun o => ?_, hj⟩
  · rw [World.cell?_setCell_other _ _ _ _ (by simp)]; exact h.c0
  · exact World.cell?_setCell_same' _ _ _ (by rw [h.c1]; rfl)
  · rw [World.frozen?_setCell]; exact h.fz o
theorem piece_eq (t : ByteArray) (k m : Nat) (h : k + m ≤ t.size) : ((t.extract k ((k : Int) + (m : Int)).toNat).data.toList, t.data.toList.drop (k + m)) = pieceP (m : Int) (t.data.toList.drop k) := by
  have e1 : ((k : Int) + (m : Int)).toNat = k + m := by omega
  rw [pieceP, if_neg (by rw [List.length_drop, bytes_len]; omega), e1]
  simp only [Int.toNat_natCast, List.drop_drop]
  rw [ByteArray.data_extract, Array.toList_extract, List.extract_eq_take_drop]
  simp
theorem LrAt.drew {w : World} {X : Nat} {t : ByteArray} {k : Nat} (h : LrAt w X t k) : LrAt w.drew X t k := ⟨h.c0, h.c1, h.fz, h.le⟩
theorem piece_any (X k : Nat) (t : ByteArray) (n : Int) (w : World) (h : LrAt w X t k) (ht : t.size ≤ 1048576) (hn : -9223372036854775808 ≤ n) (hn2 : n ≤ 9223372036854775807) :
    Calls Tryz.prog 270 #[.pointer (some ⟨X, 0, none⟩), .int .i64 n] w fun e w' => ∃ (s : ByteArray) (j : Nat), e = .returned (.string s) ∧ (s.data.toList, t.data.toList.drop j) = pieceP n (t.data.toList.drop k) ∧ LrAt w' X t j ∧ w.grownBy w' (some X) := by
  have HL : Hid (LrAt w X t k) := h
  have hle := h.le
  have HMK : Hid (∀ w', Below w.heap.size w w' → (w'.cell? ⟨X, 0, none⟩ = some (.string t) ∧ w'.cell? ⟨X, 1, none⟩ = some (.int .i64 (k : Int)) ∧ X < w'.heap.size)) := fun w' kk => ⟨cell_later kk h.c0, cell_later kk h.c1, Nat.lt_of_lt_of_le h.lt kk.size⟩
  have k0 : Below w.heap.size w w.drew := (Below.refl _ w).drew
  clear h
  by_cases h0 : n < 0
  · go_enter Tryz.func270, Tryz.ntmps270
    go_wp2_with fail
    refine wp_region_held_drew (S := (fun w' => w'.cell? ⟨X, 0, none⟩ = some (.string t) ∧ w'.cell? ⟨X, 1, none⟩ = some (.int .i64 (k : Int)) ∧ X < w'.heap.size)) (by kernel_rfl) (HMK.out _ k0) (fun hHeld => ?_)
    refine tkL 0 hHeld ?_; try go_frame
    refine tkL 1 hHeld ?_; try go_frame
    refine tkL 2 hHeld ?_; try go_frame
    refine tkN 3 hHeld ?_; try go_frame
    refine tkN 4 hHeld ?_; try go_frame
    refine tkN 5 hHeld ?_; try go_frame
    refine tkN 6 hHeld ?_; try go_frame
    refine tkN 7 hHeld ?_; try go_frame
    refine tkN 8 hHeld ?_; try go_frame
    refine tkN 9 hHeld ?_; try go_frame
    refine tkN 10 hHeld ?_; try go_frame
    refine tkN 11 hHeld ?_; try go_frame
    refine tkN 12 hHeld ?_; try go_frame
    refine tkN 13 hHeld ?_; try go_frame
    refine tkN 14 hHeld ?_; try go_frame
    refine tkL 15 hHeld ?_; try go_frame
    refine wpAnyH_done (by kernel_rfl) ?_ _
    go_wp2
    go_ret
    exact ⟨⟨#[]⟩, k, rfl, by rw [pieceP, if_pos (Or.inl h0)], HL.out.drew, gOf k0 _⟩
  by_cases h1 : (t.size : Int) - (k : Int) < n
  · go_enter Tryz.func270, Tryz.ntmps270
    have hd : decide (n < 0) = false := decide_eq_false h0
    have hwr : IntKind.i64.wrap ((t.size : Int) - (k : Int)) = (t.size : Int) - (k : Int) := by rw [IntWalk.i64_left]; unfold wrap64; omega
    go_wp2_with fail
    refine wp_region_held_drew (S := (fun w' => w'.cell? ⟨X, 0, none⟩ = some (.string t) ∧ w'.cell? ⟨X, 1, none⟩ = some (.int .i64 (k : Int)) ∧ X < w'.heap.size)) (by kernel_rfl) (HMK.out _ k0) (fun hHeld => ?_)
    refine tkL 0 hHeld ?_; try go_frame
    refine tkL 1 hHeld ?_; try go_frame
    refine tkL 2 hHeld ?_; try go_frame
    refine tkL 3 hHeld ?_; try go_frame
    refine tkL 4 hHeld ?_; try go_frame
    refine tkL 5 hHeld ?_; try go_frame
    refine tkL 6 hHeld ?_; try go_frame
    refine tkL 7 hHeld ?_; try go_frame
    refine tkL 8 hHeld ?_; try go_frame
    refine tkL 9 hHeld ?_; try go_frame
    refine tkL 10 hHeld ?_; try go_frame
    refine tkL 11 hHeld ?_; try go_frame
    refine tkL 12 hHeld ?_; try go_frame
    refine tkL 13 hHeld ?_; try go_frame
    refine tkL 14 hHeld ?_; try go_frame
    refine tkL 15 hHeld ?_; try go_frame
    refine wpAnyH_done (by kernel_rfl) ?_ _
    go_wp2
    go_ret
    exact ⟨⟨#[]⟩, k, rfl, by rw [pieceP, if_pos (Or.inr (by rw [List.length_drop, bytes_len]; omega))], HL.out.drew, gOf k0 _⟩
  obtain ⟨m, rfl⟩ := Int.eq_ofNat_of_zero_le (show 0 ≤ n by omega)
  have hd : decide ((m : Int) < 0) = false := decide_eq_false (by omega)
  have hd1 : decide ((t.size : Int) - (k : Int) < (m : Int)) = false := decide_eq_false h1
  have hwr : IntKind.i64.wrap ((t.size : Int) - (k : Int)) = (t.size : Int) - (k : Int) := by rw [IntWalk.i64_left]; unfold wrap64; omega
  go_enter Tryz.func270, Tryz.ntmps270
  go_wp2_with fail
  refine wp_region_held_drew (S := (fun w' => w'.cell? ⟨X, 0, none⟩ = some (.string t) ∧ w'.cell? ⟨X, 1, none⟩ = some (.int .i64 (k : Int)) ∧ X < w'.heap.size)) (by kernel_rfl) (HMK.out _ k0) (fun hHeld => ?_)
  refine tkL 0 hHeld ?_; try go_frame
  refine tkL 1 hHeld ?_; try go_frame
  refine tkL 2 hHeld ?_; try go_frame
  refine tkL 3 hHeld ?_; try go_frame
  refine tkL 4 hHeld ?_; try go_frame
  refine tkL 5 hHeld ?_; try go_frame
  refine tkL 6 hHeld ?_; try go_frame
  refine tkL 7 hHeld ?_; try go_frame
  refine tkL 8 hHeld ?_; try go_frame
  refine tkL 9 hHeld ?_; try go_frame
  refine tkL 10 hHeld ?_; try go_frame
  refine tkL 11 hHeld ?_; try go_frame
  refine tkL 12 hHeld ?_; try go_frame
  refine tkL 13 hHeld ?_; try go_frame
  refine tkL 14 hHeld ?_; try go_frame
  refine tkL 15 hHeld ?_; try go_frame
  refine wpAnyH_done (by kernel_rfl) ?_ _
  have c0 := (HMK.out _ k0).1
  have c1 := (HMK.out _ k0).2.1
  have cX := (HMK.out _ k0).2.2
  have cf : w.drew.frozen? ⟨X, 1, none⟩ = false := HL.out.fz 1
  have hsum : IntKind.i64.wrap ((k : Int) + (m : Int)) = (k : Int) + (m : Int) := by rw [IntWalk.i64_left]; unfold wrap64; omega
  have hback : IntKind.i64.wrap (k : Int) = (k : Int) := by rw [IntWalk.i64_left]; unfold wrap64; omega
  have hb1 : (k : Int) ≤ (k : Int) + (m : Int) := by omega
  have hb2 : (k : Int) + (m : Int) ≤ (t.size : Int) := by omega
  have hb0 : 0 ≤ (k : Int) + (m : Int) := by omega
  go_wp2_with fail
  obtain ⟨W2, hW2⟩ : ∃ W, W = (w.setCell ⟨X, 1, none⟩ (.int .i64 ((k : Int) + (m : Int)))).drew := ⟨_, rfl⟩
  have L2 : LrAt W2 X t (k + m) := by rw [hW2]; exact (HL.out.go (by omega) (by omega)).drew
  have G2 : w.grownBy W2 (some X) := by rw [hW2]; exact gTr (gSet _ _ _ _) (gOf ((Below.refl _ _).drew) _)
  have HL2 : Hid (LrAt W2 X t (k + m)) := L2
  have j0 : Below W2.heap.size W2 W2.drew := (Below.refl _ W2).drew
  have d1 : W2.cell? ⟨X, 1, none⟩ = some (.int .i64 ((k : Int) + (m : Int))) := L2.c1
  have HM2 : Hid (W2.drew.cell? ⟨X, 0, none⟩ = some (.string t) ∧ W2.drew.cell? ⟨X, 1, none⟩ = some (.int .i64 ((k : Int) + (m : Int))) ∧ X < W2.drew.heap.size) := ⟨L2.c0, d1, L2.lt⟩
  have HG2 : Hid (w.grownBy W2 (some X)) := G2
  rw [← hW2]
  clear hW2 L2 d1 G2 c0 c1 cX cf hHeld
  refine wp_region_held_drew (S := (fun w' => w'.cell? ⟨X, 0, none⟩ = some (.string t) ∧ w'.cell? ⟨X, 1, none⟩ = some (.int .i64 ((k : Int) + (m : Int))) ∧ X < w'.heap.size)) (by kernel_rfl) HM2.out (fun hHeld => ?_)
  refine tkL 0 hHeld ?_; try go_frame
  refine tkL 1 hHeld ?_; try go_frame
  refine tkL 2 hHeld ?_; try go_frame
  refine tkL 3 hHeld ?_; try go_frame
  refine tkL 4 hHeld ?_; try go_frame
  refine tkL 5 hHeld ?_; try go_frame
  refine tkL 6 hHeld ?_; try go_frame
  refine tkL 7 hHeld ?_; try go_frame
  refine tkL 8 hHeld ?_; try go_frame
  refine tkL 9 hHeld ?_; try go_frame
  refine tkL 10 hHeld ?_; try go_frame
  refine tkL 11 hHeld ?_; try go_frame
  refine tkL 12 hHeld ?_; try go_frame
  refine tkL 13 hHeld ?_; try go_frame
  refine tkL 14 hHeld ?_; try go_frame
  refine tkL 15 hHeld ?_; try go_frame
  refine wpAnyH_done (by kernel_rfl) ?_ _
  go_wp2
  go_ret
  exact ⟨_, k + m, rfl, piece_eq t k m (by omega), HL2.out.drew, gTr HG2.out (gOf j0 _)⟩
end Go.Proofs.YtapjkbpfhmbfaaaGreatDoor

namespace Go.Proofs.YtapjkbpfhmbfaaaGreatDoor
set_option maxRecDepth 100000
set_option maxHeartbeats 2000000
open Go.RowKit Go.Shelf
theorem idx_any (s : ByteArray) (w : World) : Calls Tryz.prog 295 #[.string s, .int .u8 32] w fun e w' => e = .returned (.int .i64 (Lib.indexByte s.data.toList 32)) ∧ w = w' := by
  go_enter Tryz.func295, Tryz.ntmps295
  go_wp2_with fail
  refine (Tryz.stringslite_IndexByte s 32 _).mono ?_
  rintro e w1 ⟨rfl, rfl⟩
  go_wp2
  go_ret
  exact ⟨rfl, rfl⟩
theorem idx_cases : ∀ (l : List UInt8), (Lib.indexByte l 32 = -1 ∧ (32 : UInt8) ∉ l) ∨ ∃ u r, l = u ++ 32 :: r ∧ (32 : UInt8) ∉ u ∧ Lib.indexByte l 32 = (u.length : Int)
  | [] => Or.inl ⟨rfl, by simp⟩
  | x :: l => by
    by_cases hx : x = 32
    · subst hx
      exact Or.inr ⟨[], l, rfl, by simp, by simp [Lib.indexByte]⟩
    · have hxb : (x == 32) = false := by simpa using hx
      rcases idx_cases l with ⟨h1, h2⟩ | ⟨u, r, rfl, h2, h3⟩
      · exact Or.inl ⟨by simp [Lib.indexByte, hxb, h1], by simp [h2, Ne.symm hx]⟩
      · have hne : (Lib.indexByte (u ++ 32 :: r) 32 == -1) = false := by rw [h3]; simp
        exact Or.inr ⟨x :: u, r, rfl, by simp [h2, Ne.symm hx], by show Lib.indexByte (x :: (u ++ 32 :: r)) 32 = _; rw [Lib.indexByte, hxb, hne, h3]; simp⟩
theorem word_pieces {l a b c d : List UInt8} (h1 : (a, b) = pieceP (Lib.indexByte l 32) l) (h2 : (c, d) = pieceP 1 b) : (a, d) = wordP l := by
  rcases idx_cases l with ⟨e1, e2⟩ | ⟨u, r, rfl, e2, e3⟩
  · rw [e1, pieceP, if_pos (Or.inl (by decide))] at h1
    cases h1
    rw [wordP, if_neg e2]
    rw [pieceP] at h2
    split at h2
    · rename_i h
      have hl : l.length = 0 := by
        rcases h with h | h
        · omega
        · omega
      rw [List.length_eq_zero_iff] at hl
      subst hl
      cases h2
      rfl
    · cases h2
      rfl
  · rw [e3, piece_hit] at h1
    cases h1
    rw [word_hit _ _ e2]
    have : pieceP 1 (32 :: r) = ([32], r) := piece_hit [32] r
    rw [this] at h2
    cases h2
    rfl
theorem word_any (X k : Nat) (t : ByteArray) (w : World) (h : LrAt w X t k) (ht : t.size ≤ 1048576) :
    Calls Tryz.prog 269 #[.pointer (some ⟨X, 0, none⟩)] w fun e w' => ∃ (s : ByteArray) (j : Nat), e = .returned (.string s) ∧ (s.data.toList, t.data.toList.drop j) = wordP (t.data.toList.drop k) ∧ LrAt w' X t j ∧ w.grownBy w' (some X) := by
  have HL : Hid (LrAt w.drew X t k) := h.drew
  have hle := h.le
  have c0 : w.drew.cell? ⟨X, 0, none⟩ = some (.string t) := h.c0
  have c1 : w.drew.cell? ⟨X, 1, none⟩ = some (.int .i64 (k : Int)) := h.c1
  have hX := h.lt
  clear h
  have hkI : (k : Int) ≤ (t.size : Int) := by omega
  have hk0 : 0 ≤ (k : Int) := by omega
  have CP : Hid (Calls Tryz.prog 270 #[.pointer (some ⟨X, 0, none⟩), .int .i64 (Lib.indexByte (List.take (t.size - k) (List.drop k t.data.toList)) 32)] w.drew fun e w' => ∃ (s : ByteArray) (j : Nat), e = .returned (.string s) ∧ (s.data.toList, t.data.toList.drop j) = pieceP (Lib.indexByte (t.data.toList.drop k) 32) (t.data.toList.drop k) ∧ LrAt w' X t j ∧ w.drew.grownBy w' (some X)) := by
    have e0 : List.take (t.size - k) (List.drop k t.data.toList) = t.data.toList.drop k := List.take_of_length_le (by rw [List.length_drop, bytes_len]; omega)
    have hr : -1 ≤ Lib.indexByte (t.data.toList.drop k) 32 ∧ Lib.indexByte (t.data.toList.drop k) 32 ≤ 1048576 := by
      rcases idx_cases (t.data.toList.drop k) with ⟨h1, _⟩ | ⟨u, r, h1, _, h3⟩
      · rw [h1]; omega
      · rw [h3]
        have := congrArg List.length h1
        rw [List.length_drop, bytes_len] at this
        simp at this
        omega
    rw [e0]
    exact piece_any X k t _ _ HL.out ht (by omega) (by omega)
  go_enter Tryz.func269, Tryz.ntmps269
  go_wp2_with fail
  have HS0 : Hid (w.drew.cell? ⟨X, 0, none⟩ = some (.string t) ∧ X < w.drew.heap.size) := ⟨c0, hX⟩
  refine wp_region_held_drew (S := (fun w' => w'.cell? ⟨X, 0, none⟩ = some (.string t) ∧ X < w'.heap.size)) (by kernel_rfl) HS0.out (fun hHeld => ?_)
  refine tkL 0 hHeld ?_; try go_frame
  refine tkL 1 hHeld ?_; try go_frame
  refine tkL 2 hHeld ?_; try go_frame
  refine tkL 3 hHeld ?_; try go_frame
  refine tkL 4 hHeld ?_; try go_frame
  refine tkL 5 hHeld ?_; try go_frame
  refine tkL 6 hHeld ?_; try go_frame
  refine tkL 7 hHeld ?_; try go_frame
  refine wpAnyH_ready (rs := [8]) (by kernel_rfl) (by simp) ?_
  refine consL rfl (fun K hK => ?_) AllReadyH.nil
  go_simp
  refine hK.out _ _ HS0.out (fun hHeld => ?_)
  clear hK K
  try go_frame
  refine tkL 9 hHeld ?_; try go_frame
  refine wpAnyH_ready (rs := [10]) (by kernel_rfl) (by simp) ?_
  refine consL rfl (fun K hK => ?_) AllReadyH.nil
  go_simp
  refine (idx_any _ _).mono ?_
  rintro e w0 ⟨rfl, rfl⟩
  go_wp2_with fail
  refine hK.out _ _ HS0.out (fun hHeld => ?_)
  clear hK K
  try go_frame
  refine wpAnyH_ready (rs := [11]) (by kernel_rfl) (by simp) ?_
  refine consL rfl (fun K hK => ?_) AllReadyH.nil
  go_simp
  refine CP.out.mono ?_
  rintro e w1 ⟨s, j, rfl, hs, hL1, hg1⟩
  have HS : Hid ((s.data.toList, t.data.toList.drop j) = pieceP (Lib.indexByte (t.data.toList.drop k) 32) (t.data.toList.drop k)) := hs
  have HL1 : Hid (LrAt w1 X t j) := hL1
  have HG1 : Hid (w.drew.grownBy w1 (some X)) := hg1
  clear hs hL1 hg1
  go_wp2_with fail
  refine hK.out _ _ ⟨HL1.out.c0, HL1.out.lt⟩ (fun hHeld => ?_)
  clear hK K
  try go_frame
  refine tkL 12 hHeld ?_; try go_frame
  refine wpAnyH_done (by kernel_rfl) ?_ _
  all_goals
    go_wp2_with fail
    refine (piece_any X j t 1 _ HL1.out ht (by omega) (by omega)).mono ?_
    rintro e w2 ⟨s2, j2, rfl, hs2, hL2, hg2⟩
    have HS2 : Hid ((s.data.toList, t.data.toList.drop j2) = wordP (t.data.toList.drop k)) := word_pieces HS.out hs2
    clear hs2
    go_wp2
    go_ret
    exact ⟨s, j2, rfl, HS2.out, hL2, gTr (gTr (gOf ((Below.refl _ _).drew) _) HG1.out) hg2⟩
end Go.Proofs.YtapjkbpfhmbfaaaGreatDoor

namespace Go.Proofs.YtapjkbpfhmbfaaaGreatDoor
set_option maxRecDepth 100000
set_option maxHeartbeats 2000000
open Go.RowKit Go.Shelf
theorem LrAt.below {w w' : World} {X : Nat} {t : ByteArray} {k : Nat} (h : LrAt w X t k) (hb : Below w.heap.size w w') : LrAt w' X t k := ⟨cell_later hb h.c0, cell_later hb h.c1, fun o => by rw [hb.frozen (p := ⟨X, o, none⟩) h.lt]; exact h.fz o, h.le⟩
theorem wordP_len (l : List UInt8) : (wordP l).1.length ≤ l.length := by
  rw [wordP]
  split
  · exact (List.takeWhile_prefix _).length_le
  · simp
theorem low_of_grown {B X : Nat} {w w' : World} (h : w.grownBy w' (some X)) (hB : B ≤ X) (hX : X < w.heap.size) : Below B w w' :=
  ⟨h.os, h.tape, h.output, h.size, fun i hi => h.block i (by omega) (fun e => by cases e; omega)⟩
theorem number_any (B X k : Nat) (t : ByteArray) (w : World) (h : LrAt w X t k) (ht : t.size ≤ 1048576) (hB : B ≤ X) (hE : ErrB B w) :
    Calls Tryz.prog 243 #[.pointer (some ⟨X, 0, none⟩)] w fun e w' => ∃ (v : Int) (j : Nat), e = .returned (.int .i64 v) ∧ (v, t.data.toList.drop j) = numP (t.data.toList.drop k) ∧ (Lit.int .i64 v).wf = true ∧ LrAt w' X t j ∧ w.grownBy w' (some X) := by
  have HL : Hid (LrAt w X t k) := h
  have HE : Hid (ErrB B w) := hE
  have hX := h.lt
  clear h hE
  go_enter Tryz.func243, Tryz.ntmps243
  go_wp2_with fail
  refine (word_any X k t _ HL.out ht).mono ?_
  rintro e w1 ⟨s, j, rfl, hs, hL1, hg1⟩
  have HS : Hid ((s.data.toList, t.data.toList.drop j) = wordP (t.data.toList.drop k)) := hs
  have HL1 : Hid (LrAt w1 X t j) := hL1
  have HG1 : Hid (w.grownBy w1 (some X)) := hg1
  have hsz : s.size ≤ 1048576 := by
    have h1 := wordP_len (t.data.toList.drop k)
    rw [← hs] at h1
    rw [List.length_drop, bytes_len, bytes_len] at h1
    omega
  have hv : ErrV w1 := HE.out w1 (low_of_grown hg1 hB hX)
  clear hs hL1 hg1
  go_wp2_with fail
  refine (Tryz.atoi_any s (by omega) _ hv).mono ?_
  rintro e w2 ⟨hr, hb2⟩
  have HL2 : Hid (LrAt w2 X t j) := HL1.out.below hb2
  have HG2 : Hid (w.grownBy w2 (some X)) := gTr HG1.out (gOf hb2 _)
  clear hb2 hv
  rcases hr with ⟨v, hv, rfl⟩ | ⟨hno, n, T, N, rfl⟩
  · have hb := Lib.atoiAll_bounds hv
    have HN : Hid ((v, t.data.toList.drop j) = numP (t.data.toList.drop k)) := by
      show _ = _
      rw [numP, ← HS.out]
      simp only [hv]
    clear hv
    go_wp2
    go_ret
    exact ⟨v, j, rfl, HN.out, WalkArith.wf_i64 (by omega), HL2.out, HG2.out⟩
  · have HN : Hid (((0 : Int), t.data.toList.drop j) = numP (t.data.toList.drop k)) := by
      show _ = _
      rw [numP, ← HS.out]
      cases hv : Lib.atoiAll s.data.toList with
      | ok v => exact absurd hv (hno v)
      | _ => rfl
    clear hno
    go_wp2
    go_ret
    exact ⟨0, j, rfl, HN.out, by decide, HL2.out, HG2.out⟩
end Go.Proofs.YtapjkbpfhmbfaaaGreatDoor
