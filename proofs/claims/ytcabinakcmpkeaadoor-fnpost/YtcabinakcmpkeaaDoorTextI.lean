/-
  What the program's PostText answers at every posting, by a walk of its Go text.
-/
import Derived.Test.YtcabinakcmpkeaaDoorDecA
import Derived.Test.YtcabinakcmpkeaaDoorTextP
import Derived.Test.YtcabinakcmpkeaaDoorShelfN
import Derived.Test.YtcabinakcmpkeaaDoorPostOkI
import Derived.Lib.AppendIntMem
import Derived.Lib.ItoaLen
import Derived.Lib.Slices
import Derived.Lib.Hide
import Derived.Lib.OwnKind
import Derived.Laws.IdiomStrings
import Derived.OwnWalk
import Derived.BigCall
import Derived.Deep.RegionHeld3
import Derived.Deep.RegionWith
import Derived.Deep.DeepCutAuto
namespace Go.Proofs.YtcabinakcmpkeaaDoor
open Go.RowKit Go.Shelf

theorem Tryd.infoByteT : (Tryd.prog.info? 5).map (fun i => (i.zero, i.size, i.bytes)) = some (some (.int .u8 0), 1, 1) := by kernel_rfl

/-- A text that grows in memory of the call's own (from B on), whatever else lies there is kept since W. -/
structure TxtIn (B : Nat) (w0 W w : World) (v : Value) (l : List UInt8) : Prop where
  own : w.ownsRow B 5 1 v l.length (Lib.byteCells l)
  bel : Below B w0 w
  kept : Lib.OthersKept 5 none W w
theorem TxtIn.size {B : Nat} {w0 W w : World} {v : Value} {l : List UInt8} (h : TxtIn B w0 W w v l) (hB : B ≤ w0.heap.size) : B ≤ w.heap.size := Nat.le_trans hB h.bel.size
theorem TxtIn.byte {B : Nat} {w0 W w w' : World} {v v' : Value} {l : List UInt8} {o : Obj} {c : UInt8} {z : Int} (h : TxtIn B w0 W w v l) (hB : B ≤ w0.heap.size) (hz : (c.toNat : Int) = z)
    (h1 : w'.ownsRow B 5 1 v' (l.length + 1) (Lib.byteCells l ++ [Value.int .u8 z])) (h2 : (w.alloc o).grownBy w' v.ownBlock) : TxtIn B w0 W w' v' (l ++ [c]) := by
  have hs := h.size hB
  refine ⟨?_, (h.bel.alloc hs _).grown h2 (by simp; omega) (fun k hk => (h.own.lt k hk).1), (h.kept.alloc o).grown h2 (fun g hg => Lib.ownsRow_kind (h.own.alloc o) g hg)⟩
  rw [← hz] at h1
  simpa [Lib.byteCells] using h1
theorem TxtIn.str {B : Nat} {w0 W w w' : World} {v v' : Value} {l : List UInt8} {s : ByteArray} (h : TxtIn B w0 W w v l) (hB : B ≤ w0.heap.size)
    (h1 : w'.ownsRow B 5 1 v' (l.length + s.size) (Lib.byteCells l ++ Lib.strCells s)) (h2 : w.grownBy w' v.ownBlock) : TxtIn B w0 W w' v' (l ++ s.data.toList) := by
  have hs := h.size hB
  refine ⟨?_, h.bel.grown h2 hs (fun k hk => (h.own.lt k hk).1), h.kept.grown h2 (fun g hg => Lib.ownsRow_kind h.own g hg)⟩
  have e : (l ++ s.data.toList).length = l.length + s.size := by rw [List.length_append, Array.length_toList]; rfl
  rw [e]
  simpa [Lib.byteCells, Lib.strCells] using h1
theorem TxtIn.int {B : Nat} {w0 W w w' : World} {v v' : Value} {l : List UInt8} {i : Int} (h : TxtIn B w0 W w v l)
    (h1 : w'.ownsRow B 5 1 v' (l.length + (Lib.itoa i).length) (Lib.byteCells l ++ Lib.byteCells (Lib.itoa i))) (h2 : Below B w w') (h3 : Lib.OthersKept 5 none w w') : TxtIn B w0 W w' v' (l ++ Lib.itoa i) := by
  refine ⟨?_, h.bel.trans h2, h.kept.trans h3⟩
  rw [List.length_append]
  simpa [Lib.byteCells] using h1
theorem TxtIn.box {B X : Nat} {w0 W w : World} {v : Value} {l : List UInt8} {cs : Array Value} {t : TypeId} (h : TxtIn B w0 W w v l) (hX : W.heap[X]? = some (.cells cs t (0, 0))) (ht : t ≠ 5) : w.heap[X]? = some (.cells cs t (0, 0)) :=
  h.kept X _ hX (by simp) (fun c fz e => by cases e; exact ht rfl)

set_option maxHeartbeats 2000000 in
set_option maxRecDepth 100000 in
theorem implText (id : Int) (a : Option Addr) (len cap : Nat) (L : List LegD) (w : World) (hL : LegsAt w a len cap L) (htab : Lib.TabIs Tryd.prog w "internal/strconv.uint64pow10" .u64 Lib.pow10Tab) :
    Calls Tryd.prog 12 #[.agg #[.int .i64 id, .slice a len cap]] w fun e w' => e = .returned (.string (textB id L)) ∧ Below w.heap.size w w' := by
  have hk0 : Below w.heap.size w (w.alloc (.cells #[.int .i64 id, .slice a len cap] 29)) := (Below.refl _ _).alloc (Nat.le_refl _) _
  have hL0 := hL.keep hk0
  cases hp : postB id L with
  | false =>
    go_enter Tryd.func12, Tryd.ntmps12
    go_wp2_with (go_at_call 29; refine (implPostOk _ _ _ _ L _ hL0).mono ?_; rw [hp]; rintro e w1 ⟨rfl, hb1⟩)
    go_ret
    exact ⟨retD_str (textB_no hp).symm, hk0.trans (hb1.mono (by simp))⟩
  | true =>
    obtain ⟨i0, i1, l1, l4, hall⟩ := postB_all hp
    have hlen := hL.length
    obtain ⟨b, off, rfl, hbw⟩ := hL.form (by omega)
    have HALL : Hid (∀ l ∈ L, legB l = true) := hall
    have HLEN : Hid (L.length = len) := hlen
    have HL : Hid (LegsAt w (some ⟨b, off, none⟩) len cap L) := hL
    have hle : len ≤ 4 := by omega
    have HP : Hid (postB id L = true) := hp
    have hT := Lib.tabBelow_of_tabIs htab
    clear hall hlen hL l1 l4
    have hz := Lib.itoa_length_le id (by omega) (by omega)
    go_enter Tryd.func12, Tryd.ntmps12
    go_wp2_with fail
    refine (implPostOk _ _ _ _ L _ hL0).mono ?_
    rw [hp]
    rintro e w1 ⟨rfl, hb1⟩
    have hx1 : w1.cell? ⟨w.heap.size, 0, none⟩ = some (.int .i64 id) := (hb1.cell (p := ⟨w.heap.size, 0, none⟩) (by simp)).trans (by simp)
    have hy1 : w1.cell? ⟨w.heap.size, 1, none⟩ = some (.slice (some ⟨b, off, none⟩) len cap) := (hb1.cell (p := ⟨w.heap.size, 1, none⟩) (by simp)).trans (by simp)
    have hB1 : Below w.heap.size w w1 := hk0.trans (hb1.mono (by simp))
    have hz1 : w.heap.size < w1.heap.size := by have := hb1.size; simp at this; omega
    have hT1 : Lib.TabBelow Tryd.prog w1.heap.size w1 "internal/strconv.uint64pow10" .u64 Lib.pow10Tab := fun w' k => hT w' (hB1.trans (k.mono hB1.size))
    clear hb1 hk0 hL0 hp hT
    go_wp2_with fail
    refine (Tryd.appendInt w1.heap.size 0 id (by omega) (by omega) (.slice none 0 0) [] w1 (World.ownsRow_nil _ _ _ _) (Nat.le_refl _) (by omega) hT1).mono ?_
    rintro e w2 ⟨v2, rfl, hown2, hnx2, -⟩
    rw [Nat.zero_add, List.nil_append] at hown2
    have hx2 := cell_later hnx2 hx1
    have hy2 := cell_later hnx2 hy1
    have hz2 : w1.heap.size ≤ w2.heap.size := hnx2.size
    obtain ⟨B, hBe⟩ : ∃ B, B = w1.heap.size := ⟨_, rfl⟩
    rw [← hBe] at hown2 hnx2 hz2 hz1 hT1
    have HT : Hid (Lib.TabBelow Tryd.prog B w1 "internal/strconv.uint64pow10" .u64 Lib.pow10Tab) := hT1
    have hBw : w.heap.size ≤ B := by omega
    have HBE : Hid (B = w1.heap.size) := hBe
    have HO2 : Hid (w2.ownsRow B 5 1 v2 (Lib.itoa id).length (Lib.byteCells (Lib.itoa id))) := hown2
    clear hx1 hy1 hT1 hBe hown2
    obtain ⟨i5, hi, hz0, hz1', hz2'⟩ := info_parts Tryd.infoByteT
    go_wp2
    go_loopw [3, 15] (fun v i wr => ∃ k : Nat, k ≤ len ∧ i = .int .i64 k ∧ TxtIn B w1 wr wr v (Lib.itoa id ++ legsT (L.take k))) (fun _ i _ => len - (intOf i).toNat)
    case atStart => exact ⟨0, Nat.zero_le _, rfl, ⟨by simpa [legsT] using HO2.out, hnx2, Lib.OthersKept.refl _ _ _⟩⟩
    case round =>
      obtain ⟨k, hk, rfl, hT0⟩ := hrel
      have hBw1 : B ≤ w1.heap.size := by rw [HBE.out]; exact Nat.le_refl _
      have hB : Below w.heap.size w wr := hB1.trans (hT0.bel.mono hBw)
      by_cases hlt : k < len
      · obtain ⟨s, c, n, hg, hlw, g0, g1, g2⟩ := HL.out.leg hB hbw k hlt
        have hlB := HALL.out _ (List.mem_of_getElem? hg)
        obtain ⟨_, p1, p2, p3, p4, p5⟩ := legB_parts hlB
        simp only at p1 p2 p3 p4 p5
        have HG : Hid (L[k]? = some (s, c, n)) := hg
        obtain ⟨l0, hl0⟩ : ∃ x, x = Lib.itoa id ++ legsT (L.take k) := ⟨_, rfl⟩
        have E0 : Hid (l0 = Lib.itoa id ++ legsT (L.take k)) := hl0
        have z0 : l0.length ≤ 240 := by
          rw [hl0]
          have e1 := legsT_len (L.take k) (fun l hl => HALL.out l (List.mem_of_mem_take hl))
          have e3 : (L.take k).length ≤ k := by simp; omega
          simp only [List.length_append]
          omega
        rw [← hl0] at hT0
        have zc := Lib.itoa_length_le c (by omega) (by omega)
        have zn := Lib.itoa_length_le n (by omega) (by omega)
        clear hl0 hg hlw hlB
        obtain ⟨W, hW⟩ : ∃ W, W = wr.alloc (.cells #[.string s, .int .i64 c, .int .i64 n] 58) := ⟨_, rfl⟩
        obtain ⟨X, hX⟩ : ∃ X, X = wr.heap.size := ⟨_, rfl⟩
        have hBX : B ≤ X := by rw [hX]; exact hT0.size hBw1
        have T0 : Hid (TxtIn B w1 W W u3 l0) := by rw [hW]; exact ⟨hT0.own.alloc _, hT0.bel.alloc (hT0.size hBw1) _, Lib.OthersKept.refl _ _ _⟩
        have HX : Hid (W.heap[X]? = some (.cells #[.string s, .int .i64 c, .int .i64 n] 58 (0, 0))) := by show W.heap[X]? = _; rw [hW, hX]; exact Array.getElem?_push_size
        have hltI : (k : Int) < (len : Int) := by omega
        go_upto_region 7 with fail
        rw [← hW, ← hX]
        clear hW hX
        go_wp2_with (at_builtin; refine wpList_append_own _ rfl _ _ 49 rfl B 5 i5 (.int .u8 0) 1 1 Tryd.underlying49 hi hz0 hz1' hz2' rfl (by decide) _ _ _ rfl (T0.out.own.alloc _) ⟨W.heap.size, 0, none⟩ 1 1 [Value.int .u8 32] rfl rfl (by intro j u' hj; match j, hj with | 0, hj => simp at hj; subst hj; simp [Addr.add]) (by intro u' hu'; simp at hu'; subst hu'; rfl) (by unfold maxLen; omega) (by omega) (by have := T0.out.size hBw1; simp; omega) ?_)
        intro v3 w3 o1 g1 _
        obtain ⟨l1, hl1⟩ : ∃ x, x = l0 ++ [32] := ⟨_, rfl⟩
        have T1 : Hid (TxtIn B w1 W w3 v3 l1) := by rw [hl1]; exact T0.out.byte hBw1 (c := 32) rfl o1 g1
        have E1 : Hid (l1 = l0 ++ [32]) := hl1
        have z1 : l1.length ≤ 241 := by rw [hl1]; simp; omega
        clear o1 g1 hl1
        have b2 := T1.out.box HX.out (by decide)
        have c2 : w3.cell? ⟨X, 0, none⟩ = some (.string s) := by rw [Lib.cell_of_heap b2]; rfl
        clear b2
        go_wp2_with (at_builtin; refine Lib.wpList_append_own_string _ rfl _ _ 49 9 rfl B 5 i5 Tryd.underlying49 Tryd.underlying9 hi hz0 hz1' hz2' _ _ _ rfl T1.out.own s rfl (by unfold maxLen; omega) (by omega) (T1.out.size hBw1) ?_)
        intro v4 w4 o2 g2' _
        obtain ⟨l2, hl2⟩ : ∃ x, x = l1 ++ s.data.toList := ⟨_, rfl⟩
        have T2 : Hid (TxtIn B w1 W w4 v4 l2) := by rw [hl2]; exact T1.out.str hBw1 o2 g2'
        have E2 : Hid (l2 = l1 ++ s.data.toList) := hl2
        have z2 : l2.length ≤ 245 := by rw [hl2, List.length_append, show s.data.toList.length = s.size by rw [Array.length_toList]; rfl]; omega
        clear o2 g2' hl2 c2
        go_wp2_with (at_builtin; refine wpList_append_own _ rfl _ _ 49 rfl B 5 i5 (.int .u8 0) 1 1 Tryd.underlying49 hi hz0 hz1' hz2' rfl (by decide) _ _ _ rfl (T2.out.own.alloc _) ⟨w4.heap.size, 0, none⟩ 1 1 [Value.int .u8 58] rfl rfl (by intro j u' hj; match j, hj with | 0, hj => simp at hj; subst hj; simp [Addr.add]) (by intro u' hu'; simp at hu'; subst hu'; rfl) (by unfold maxLen; omega) (by omega) (by have := T2.out.size hBw1; simp; omega) ?_)
        intro v5 w5 o3 g3 _
        obtain ⟨l3, hl3⟩ : ∃ x, x = l2 ++ [58] := ⟨_, rfl⟩
        have T3 : Hid (TxtIn B w1 W w5 v5 l3) := by rw [hl3]; exact T2.out.byte hBw1 (c := 58) rfl o3 g3
        have E3 : Hid (l3 = l2 ++ [58]) := hl3
        have z3 : l3.length ≤ 246 := by rw [hl3]; simp; omega
        clear o3 g3 hl3
        have b4 := T3.out.box HX.out (by decide)
        have c4 : w5.cell? ⟨X, 1, none⟩ = some (.int .i64 c) := by rw [Lib.cell_of_heap b4]; rfl
        clear b4
        go_wp2_with fail
        refine (Tryd.appendInt B l3.length c (by omega) (by omega) v5 (Lib.byteCells l3) w5 T3.out.own (T3.out.size hBw1) (by omega) (HT.out.on T3.out.bel)).mono ?_
        rintro e w6 ⟨v6, rfl, o4, g4, k4⟩
        obtain ⟨l4, hl4⟩ : ∃ x, x = l3 ++ Lib.itoa c := ⟨_, rfl⟩
        have T4 : Hid (TxtIn B w1 W w6 v6 l4) := by rw [hl4]; exact T3.out.int o4 g4 k4
        have E4 : Hid (l4 = l3 ++ Lib.itoa c) := hl4
        have z4 : l4.length ≤ 267 := by rw [hl4, List.length_append]; omega
        clear o4 g4 k4 hl4 c4
        go_wp2_with (at_builtin; refine wpList_append_own _ rfl _ _ 49 rfl B 5 i5 (.int .u8 0) 1 1 Tryd.underlying49 hi hz0 hz1' hz2' rfl (by decide) _ _ _ rfl (T4.out.own.alloc _) ⟨w6.heap.size, 0, none⟩ 1 1 [Value.int .u8 58] rfl rfl (by intro j u' hj; match j, hj with | 0, hj => simp at hj; subst hj; simp [Addr.add]) (by intro u' hu'; simp at hu'; subst hu'; rfl) (by unfold maxLen; omega) (by omega) (by have := T4.out.size hBw1; simp; omega) ?_)
        intro v7 w7 o5 g5 _
        obtain ⟨l5, hl5⟩ : ∃ x, x = l4 ++ [58] := ⟨_, rfl⟩
        have T5 : Hid (TxtIn B w1 W w7 v7 l5) := by rw [hl5]; exact T4.out.byte hBw1 (c := 58) rfl o5 g5
        have E5 : Hid (l5 = l4 ++ [58]) := hl5
        have z5 : l5.length ≤ 268 := by rw [hl5]; simp; omega
        clear o5 g5 hl5
        have b6 := T5.out.box HX.out (by decide)
        have c6 : w7.cell? ⟨X, 2, none⟩ = some (.int .i64 n) := by rw [Lib.cell_of_heap b6]; rfl
        clear b6
        go_wp2_with fail
        refine (Tryd.appendInt B l5.length n (by omega) (by omega) v7 (Lib.byteCells l5) w7 T5.out.own (T5.out.size hBw1) (by omega) (HT.out.on T5.out.bel)).mono ?_
        rintro e w8 ⟨v8, rfl, o6, g6, k6⟩
        obtain ⟨l6, hl6⟩ : ∃ x, x = l5 ++ Lib.itoa n := ⟨_, rfl⟩
        have T6 : Hid (TxtIn B w1 W w8 v8 l6) := by rw [hl6]; exact T5.out.int o6 g6 k6
        have E6 : Hid (l6 = l5 ++ Lib.itoa n) := hl6
        have z6 : l6.length ≤ 289 := by rw [hl6, List.length_append]; omega
        clear o6 g6 k6 hl6 c6
        go_wp2
        go_roundw
        case rel =>
          refine ⟨k + 1, by omega, by go_num, ?_⟩
          have e : l6 = Lib.itoa id ++ legsT (L.take (k + 1)) := by
            rw [E6.out, E5.out, E4.out, E3.out, E2.out, E1.out, E0.out, legsT_take HG.out]
            simp [legT]
          rw [← e]
          exact ⟨T6.out.own, T6.out.bel, Lib.OthersKept.refl _ _ _⟩
        case measure => simp [intOf]; omega
      · have hkn : k = len := by omega
        have hfin : Lib.itoa id ++ legsT (L.take k) = postT id L := by
          rw [List.take_of_length_le (by rw [HLEN.out]; omega)]
          rfl
        rw [hfin] at hT0
        obtain ⟨l, hl⟩ : ∃ l, l = postT id L := ⟨_, rfl⟩
        have HF : Hid (l = postT id L) := hl
        rw [← hl] at hT0
        have hpos : 0 < l.length := by
          rw [hl]
          have e1 : 0 < (Lib.itoa id).length := by
            obtain ⟨u, rfl⟩ : ∃ u : Nat, id = u := ⟨id.toNat, by omega⟩
            rw [Lib.itoa_nonneg, Lib.decDigits_length]
            exact Lib.nDigits_pos u
          simp only [postT, List.length_append]
          omega
        clear hl hfin
        rcases hT0.own.2 with ⟨-, h0⟩ | ⟨g, cap', cur, rfl, -, -, -, -, -, -⟩
        · omega
        · have hcv := run_convert_bytes_back (P := Tryd.prog) wr 49 9 5 ⟨g, 0, none⟩ cap' l Tryd.underlying49 Tryd.underlying5 Tryd.underlying9 (fun j hj => hT0.own.cells (g := g) rfl j _ (by simp [Lib.byteCells, hj]))
          go_wp2
          go_ret
          exact ⟨retD_str (by rw [textB_yes HP.out, HF.out]), hB⟩

end Go.Proofs.YtcabinakcmpkeaaDoor
