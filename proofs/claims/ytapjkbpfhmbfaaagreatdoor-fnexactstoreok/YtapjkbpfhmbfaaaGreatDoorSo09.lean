/-
  What the program's FrameText answers of every list of entries, by walks of its Go text.
-/
import Derived.Lib.AppendIntMem
import Derived.Test.YtapjkbpfhmbfaaaGreatDoorSo07
import Derived.Test.YtapjkbpfhmbfaaaGreatDoorSo08
import Derived.Test.YtapjkbpfhmbfaaaGreatDoorSo04
namespace Go.Proofs.YtapjkbpfhmbfaaaGreatDoor
set_option maxRecDepth 100000
set_option maxHeartbeats 2000000
open Go.RowKit Go.Shelf
def numsT : List Int → List UInt8
  | [] => []
  | x :: r => Lib.itoa x ++ 32 :: numsT r
theorem numsT_append (A B : List Int) : numsT (A ++ B) = numsT A ++ numsT B := by
  induction A with
  | nil => rfl
  | cons l r ih => simp [numsT, ih]
theorem numsT_take {L : List Int} {k : Nat} {x : Int} (h : L[k]? = some x) : numsT (L.take (k + 1)) = numsT (L.take k) ++ (Lib.itoa x ++ [32]) := by
  rw [List.take_add_one, h, numsT_append]
  simp [numsT]
theorem entT_nums (k : ByteArray) (q d : Int) (t : ByteArray) (n : Int) : entT (k, q, d, t, n) = k.data.toList ++ [32] ++ numsT [q, d, n, (t.size : Int)] ++ t.data.toList := by
  simp [entT, numsT]
theorem numsT_len : ∀ (L : List Int), (∀ x ∈ L, -1000000 ≤ x ∧ x ≤ 1000000) → (numsT L).length ≤ 22 * L.length
  | [], _ => by simp [numsT]
  | l :: r, h => by
    have hl := h l (by simp)
    have h1 := Lib.itoa_length_le l (by omega) (by omega)
    have h2 := numsT_len r (fun x hx => h x (by simp [hx]))
    simp only [numsT, List.length_append, List.length_cons]
    omega
theorem writeEnt (B b : Nat) (l : List UInt8) (k t : ByteArray) (q d n : Int) (W w : World) (h : BldIn B b W w l) (hB : B ≤ W.heap.size) (hl : l.length ≤ 10000) (hok : entOk (k, q, d, t, n) = true)
    (hT : Lib.TabBelow Tryz.prog B W "internal/strconv.uint64pow10" .u64 Lib.pow10Tab) :
    Calls Tryz.prog 168 #[.pointer (some ⟨b, 0, none⟩), .agg #[.string k, .int .i64 q, .int .i64 d, .string t, .int .i64 n]] w fun e w' => e = .returned (.tuple #[]) ∧ BldIn B b W w' (l ++ entT (k, q, d, t, n)) := by
  obtain ⟨p1, p2, p3, p4, p5, p6, p7, p8⟩ := ent_parts hok
  simp only at p1 p2 p3 p4 p5 p6 p7 p8
  have hBw := h.size hB
  have hbw : b < w.heap.size := by
    rcases h.bld with ⟨_, v, h1, _⟩ | ⟨_, v, h1, _⟩
    · exact (Array.getElem?_eq_some_iff.1 h1).1
    · exact (Array.getElem?_eq_some_iff.1 h1).1
  have HT : Hid (Lib.TabBelow Tryz.prog B W "internal/strconv.uint64pow10" .u64 Lib.pow10Tab) := hT
  obtain ⟨V, hV⟩ : ∃ V, V = w.alloc (.cells #[.string k, .int .i64 q, .int .i64 d, .string t, .int .i64 n] 87) := ⟨_, rfl⟩
  obtain ⟨X, hX⟩ : ∃ X, X = w.heap.size := ⟨_, rfl⟩
  have hh : BldIn B b W V l := h.below hB (by rw [hV]; exact (Below.refl _ _).alloc (Nat.le_refl _) _)
  have HH : Hid (BldIn B b W V l) := hh
  have hXb : X ≠ b := by omega
  have HX : Hid (V.heap[X]? = some (.cells #[.string k, .int .i64 q, .int .i64 d, .string t, .int .i64 n] 87 (0, 0))) := by show V.heap[X]? = _; rw [hV, hX]; exact Array.getElem?_push_size
  have hBV : B ≤ V.heap.size := hh.size hB
  have c0 : V.cell? ⟨X, 0, none⟩ = some (.string k) := by rw [Lib.cell_of_heap HX.out]; rfl
  clear h hh hT
  go_enter Tryz.func168, Tryz.ntmps168
  go_upto_region 1 with fail
  rw [← hV, ← hX]
  clear hV hX
  go_wp2_with fail
  refine (put_str B b l k V V HH.out.here (by omega) hBV).mono ?_
  rintro e w1 ⟨rfl, T1⟩
  have T1' : Hid (BldIn B b V w1 (l ++ k.data.toList)) := T1
  clear T1
  go_wp2_with fail
  refine (put_byte B b _ 32 32 V w1 T1'.out rfl (by rw [List.length_append, bytes_len]; omega) hBV).mono ?_
  rintro e w2 ⟨rfl, T2⟩
  obtain ⟨l2, hl2⟩ : ∃ x, x = l ++ k.data.toList ++ [32] := ⟨_, rfl⟩
  rw [← hl2] at T2
  have z2 : l2.length ≤ 10009 := by rw [hl2, List.length_append, List.length_append, bytes_len]; simp; omega
  have E2 : Hid (l2 = l ++ k.data.toList ++ [32]) := hl2
  have T2' : Hid (BldIn B b V w2 l2) := T2
  have bx := T2.box HX.out (by decide) hXb
  have c1 : w2.cell? ⟨X, 1, none⟩ = some (.int .i64 q) := by rw [Lib.cell_of_heap bx]; rfl
  have c2 : w2.cell? ⟨X, 2, none⟩ = some (.int .i64 d) := by rw [Lib.cell_of_heap bx]; rfl
  have c3 : w2.cell? ⟨X, 3, none⟩ = some (.string t) := by rw [Lib.cell_of_heap bx]; rfl
  have c4 : w2.cell? ⟨X, 4, none⟩ = some (.int .i64 n) := by rw [Lib.cell_of_heap bx]; rfl
  clear T2 hl2 T1' bx
  obtain ⟨z, hz⟩ : ∃ z : Int, z = (t.size : Int) := ⟨_, rfl⟩
  have EZ : Hid (z = (t.size : Int)) := hz
  have hz0 : -1000000 ≤ z ∧ z ≤ 1000000 := by omega
  obtain ⟨xs, hxs⟩ : ∃ xs, xs = [q, d, n, z] := ⟨_, rfl⟩
  have EX : Hid (xs = [q, d, n, z]) := hxs
  have HXS : Hid (∀ x ∈ xs, -1000000 ≤ x ∧ x ≤ 1000000) := by
    show ∀ x ∈ xs, -1000000 ≤ x ∧ x ≤ 1000000
    rw [hxs]
    intro x hx
    simp only [List.mem_cons, List.not_mem_nil, or_false] at hx
    rcases hx with rfl | rfl | rfl | rfl <;> omega
  obtain ⟨U, hU⟩ : ∃ U, U = w2.alloc (.cells #[.int .i64 q, .int .i64 d, .int .i64 n, .int .i64 (t.size : Int)] 3) := ⟨_, rfl⟩
  obtain ⟨Y, hY⟩ : ∃ Y, Y = w2.heap.size := ⟨_, rfl⟩
  have HY : Hid (U.heap[Y]? = some (.cells #[.int .i64 q, .int .i64 d, .int .i64 n, .int .i64 z] 3 (0, 0))) := by show U.heap[Y]? = _; rw [hU, hY, hz]; exact Array.getElem?_push_size
  have hU' : Below w2.heap.size w2 U := by rw [hU]; exact (Below.refl _ _).alloc (Nat.le_refl _) _
  have T3 : BldIn B b V U l2 := T2'.out.below hBV hU'
  have T3' : Hid (BldIn B b V U l2) := T3
  have hBU : B ≤ U.heap.size := T3.size hBV
  have hYb : Y ≠ b := by
    have h1 := HH.out.bel.size
    have h2 : b < w2.heap.size := by
      rcases T2'.out.bld with ⟨_, v, h1, _⟩ | ⟨_, v, h1, _⟩
      · exact (Array.getElem?_eq_some_iff.1 h1).1
      · exact (Array.getElem?_eq_some_iff.1 h1).1
    omega
  have HXU : Hid (U.heap[X]? = some (.cells #[.string k, .int .i64 q, .int .i64 d, .string t, .int .i64 n] 87 (0, 0))) := T3.box HX.out (by decide) hXb
  have hlx : xs.length = 4 := by rw [hxs]; rfl
  have HLX : Hid (xs.length = 4) := hlx
  clear T3 hU' hz hxs hlx T2'
  go_wp2
  rw [← hU, ← hY]
  clear hU hY
  go_loopw [23] (fun i wr => ∃ j : Nat, j ≤ 4 ∧ i = .int .i64 j ∧ BldIn B b U wr (l2 ++ numsT (xs.take j))) (fun i _ => 4 - (intOf i).toNat)
  case atStart => exact ⟨0, by omega, rfl, by simpa [numsT] using T3'.out.here⟩
  case round =>
    obtain ⟨j, hj, rfl, hT⟩ := hrel
    obtain ⟨l3, hl3⟩ : ∃ x, x = l2 ++ numsT (xs.take j) := ⟨_, rfl⟩
    have E3 : Hid (l3 = l2 ++ numsT (xs.take j)) := hl3
    have z3 : l3.length ≤ 10100 := by
      have h1 := numsT_len (xs.take j) (fun x hx => HXS.out x (List.mem_of_mem_take hx))
      have h2 : (xs.take j).length ≤ j := by simp; omega
      rw [hl3, List.length_append]
      omega
    rw [← hl3] at hT
    have HTT : Hid (BldIn B b U wr l3) := hT
    clear hl3
    by_cases hlt : j < 4
    · obtain ⟨x, hx⟩ : ∃ x, xs[j]? = some x := ⟨xs[j]'(by rw [HLX.out]; exact hlt), List.getElem?_eq_getElem _⟩
      have HGX : Hid (xs[j]? = some x) := hx
      have hxx := HXS.out x (List.mem_of_getElem? hx)
      have by_ := hT.box HY.out (by decide) hYb
      have cy : wr.cell? ⟨Y, j, none⟩ = some (.int .i64 x) := by
        rw [Lib.cell_of_heap by_]
        have e : (#[Value.int .i64 q, .int .i64 d, .int .i64 n, .int .i64 z] : Array Value) = (xs.map (Value.int .i64)).toArray := by rw [EX.out]; rfl
        rw [e]
        simp [hx]
      have hyl : Y < wr.heap.size := (Array.getElem?_eq_some_iff.1 by_).1
      have hti := HT.out wr (HH.out.bel.trans (T3'.out.bel.trans hT.bel))
      have hltI : (j : Int) < 4 := by omega
      have hzx := Lib.itoa_length_le x (by omega) (by omega)
      clear hx by_ hT
      go_wp2_with fail
      refine (Tryz.itoa_any x (by omega) (by omega) wr hti).mono ?_
      rintro e w4 ⟨rfl, kk, os, rfl⟩
      obtain ⟨w4, hw4⟩ : ∃ w4, w4 = Sort.grow (wr.drewN kk) os := ⟨_, rfl⟩
      have hb4 : Below wr.heap.size wr w4 := by rw [hw4]; exact Lib.below_grow _ _ (Nat.le_refl _) _ _
      rw [← hw4]
      have T4 : Hid (BldIn B b U w4 l3) := HTT.out.below hBU hb4
      clear hw4 hb4 HTT cy hyl hti
      go_wp2_with fail
      refine (put_str B b l3 ⟨(Lib.itoa x).toArray⟩ U w4 T4.out (by rw [str_size]; omega) hBU).mono ?_
      rintro e w5 ⟨rfl, T5⟩
      have T5' : Hid (BldIn B b U w5 (l3 ++ Lib.itoa x)) := show BldIn B b U w5 (l3 ++ Lib.itoa x) from by simpa using T5
      clear T5 T4
      go_wp2_with fail
      refine (put_byte B b _ 32 32 U w5 T5'.out rfl (by rw [List.length_append]; omega) hBU).mono ?_
      rintro e w6 ⟨rfl, T6⟩
      go_wp2
      go_roundw
      case rel =>
        refine ⟨j + 1, by omega, by go_num, ?_⟩
        have e : l2 ++ numsT (xs.take (j + 1)) = l3 ++ Lib.itoa x ++ [32] := by rw [numsT_take HGX.out, E3.out]; simp
        rw [e]
        exact T6
      case measure => simp [intOf]; omega
    · have hj4 : j = 4 := by omega
      have bx := hT.box HXU.out (by decide) hXb
      have c5 : wr.cell? ⟨X, 3, none⟩ = some (.string t) := by rw [Lib.cell_of_heap bx]; rfl
      clear bx
      go_wp2_with fail
      refine (put_str B b l3 t U wr HTT.out (by omega) hBU).mono ?_
      rintro e w7 ⟨rfl, T7⟩
      go_wp2
      go_end0
      refine ⟨rfl, ?_⟩
      have e : l ++ entT (k, q, d, t, n) = l3 ++ t.data.toList := by
        rw [entT_nums, E3.out, hj4, List.take_of_length_le (by rw [HLX.out]; omega), EX.out, EZ.out, E2.out]
        simp
      rw [e]
      exact HH.out.trans (T3'.out.trans T7)
theorem implFrame (a : Option Addr) (len cap : Nat) (L : List EntD) (w : World) (hL : EntsAt w a len cap L) (htab : Lib.TabIs Tryz.prog w "internal/strconv.uint64pow10" .u64 Lib.pow10Tab) :
    Calls Tryz.prog 120 #[.slice a len cap] w fun e w' => e = .returned (.string (frameB L)) ∧ Below w.heap.size w w' := by
  cases hp : doneB L with
  | false =>
    go_enter Tryz.func120, Tryz.ntmps120
    go_wp2_with (go_at_call 167; refine (implDone _ _ _ L _ hL).mono ?_; rw [hp]; rintro e w1 ⟨rfl, hb1⟩)
    go_ret
    exact ⟨retD_str (frameB_no hp).symm, hb1⟩
  | true =>
    obtain ⟨l1, l12, hall⟩ := done_parts hp
    have hlen := hL.length
    obtain ⟨b0, off, rfl, hbb⟩ := hL.form (by omega)
    have HALL : Hid (∀ e ∈ L, entOk e = true) := hall
    have HLEN : Hid (L.length = len) := hlen
    have HL : Hid (EntsAt w (some ⟨b0, off, none⟩) len cap L) := hL
    have hle : len ≤ 12 := by omega
    have hbl := hL.room
    have hbc := hL.big
    unfold maxLen at hbc
    have HP : Hid (doneB L = true) := hp
    have HT0 := Lib.tabBelow_of_tabIs htab
    clear hall hlen l1 l12
    go_enter Tryz.func120, Tryz.ntmps120
    go_wp2_with fail
    refine (implDone _ _ _ L _ hL).mono ?_
    rw [hp]
    rintro e w1 ⟨rfl, hb1⟩
    clear hL hp
    obtain ⟨W, hW⟩ : ∃ W, W = w1.alloc (.cells #[.pointer none, .slice none 0 0] 163) := ⟨_, rfl⟩
    obtain ⟨B, hBe⟩ : ∃ B, B = w1.heap.size := ⟨_, rfl⟩
    have hI : Lib.IsBuilder 163 5 B B [] W := by rw [hW, hBe]; exact Lib.fresh_isBuilder _ _ w1
    have T0 : Hid (BldIn B B W W []) := ⟨hI, Lib.OthersKept.refl _ _ _, Below.refl _ _⟩
    have kW : Below w1.heap.size w1 W := by rw [hW]; exact (Below.refl _ _).alloc (Nat.le_refl _) _
    have hBW : B ≤ W.heap.size := by rw [hBe]; exact kW.size
    have hwB : w.heap.size ≤ B := by rw [hBe]; exact hb1.size
    have KW : Hid (Below w.heap.size w W) := hb1.trans (kW.mono hb1.size)
    have HT : Hid (Lib.TabBelow Tryz.prog B W "internal/strconv.uint64pow10" .u64 Lib.pow10Tab) := fun w' k => HT0 w' (KW.out.trans (k.mono hwB))
    clear hI HT0 kW
    go_wp2
    rw [← hW, ← hBe]
    clear hW hBe
    go_loopw [11] (fun i wr => ∃ j : Nat, j ≤ len ∧ i = .int .i64 j ∧ BldIn B B W wr (entsT (L.take j))) (fun i _ => len - (intOf i).toNat)
    case atStart => exact ⟨0, by omega, rfl, by simpa [entsT] using T0.out⟩
    case round =>
      obtain ⟨j, hj, rfl, hT⟩ := hrel
      have hb : Below w.heap.size w wr := KW.out.trans (hT.bel.mono hwB)
      have hz : (entsT (L.take j)).length ≤ 1920 := by
        have e1 := entsT_len (L.take j) (fun l hl => HALL.out l (List.mem_of_mem_take hl))
        have e3 : (L.take j).length ≤ j := by simp; omega
        omega
      obtain ⟨l, hl⟩ : ∃ l, l = entsT (L.take j) := ⟨_, rfl⟩
      have EL : Hid (l = entsT (L.take j)) := hl
      rw [← hl] at hT hz
      have HTT : Hid (BldIn B B W wr l) := hT
      clear hl hT
      by_cases hlt : j < len
      · obtain ⟨s, q, d, t, n, hg, hlw, g0, g1, g2, g3, g4⟩ := HL.out.ent hb hbb j hlt
        have hlB := HALL.out _ (List.mem_of_getElem? hg)
        have HG : Hid (L[j]? = some (s, q, d, t, n)) := hg
        have T1 : Hid (BldIn B B W (wr.alloc (.cells #[.string s, .int .i64 q, .int .i64 d, .string t, .int .i64 n] 87)) l) := HTT.out.below hBW ((Below.refl _ _).alloc (Nat.le_refl _) _)
        have hltI : (j : Int) < (len : Int) := by omega
        have hb0 : b0 < wr.heap.size := Nat.lt_of_lt_of_le hbb hb.size
        clear hg hlw
        go_wp2_with fail
        refine (writeEnt B B l s t q d n W _ T1.out hBW (by omega) hlB HT.out).mono ?_
        rintro e w3 ⟨rfl, T3⟩
        go_wp2
        go_roundw
        case rel => exact ⟨j + 1, by omega, by go_num, by rw [entsT_take HG.out, ← EL.out]; exact T3⟩
        case measure => simp [intOf]; omega
      · have hjn : j = len := by omega
        have hfull : l = entsT L := by rw [EL.out, List.take_of_length_le (by rw [HLEN.out]; omega)]
        have EF : Hid (l = entsT L) := hfull
        have hbs : (Lib.byteCells l).length = l.length := by simp [Lib.byteCells]
        have CL : Hid (Calls Tryz.prog 170 #[.pointer (some ⟨B, 0, none⟩)] wr fun e w' => e = .returned (.int .i64 (l.length : Int)) ∧ w' = wr) := by
          have := Tryz.Builder_Len B B (Lib.byteCells l) wr HTT.out.bld
          rw [hbs] at this
          exact this
        obtain ⟨N, hN⟩ : ∃ N : Int, N = (l.length : Int) := ⟨_, rfl⟩
        have EN : Hid (N = (l.length : Int)) := hN
        have hN0 : 0 ≤ N ∧ N ≤ 1920 := by omega
        rw [← hN] at CL
        have hti := HT.out wr HTT.out.bel
        obtain ⟨Z, hZ⟩ : ∃ Z, Z = decT N := ⟨_, rfl⟩
        have EZ : Hid (Z = decT N) := hZ
        have hZz : Z.size ≤ 21 := by rw [hZ]; exact decT_size N (by omega) (by omega)
        have CI : Hid (Calls Tryz.prog 169 #[.int .i64 N] wr fun e w' => e = .returned (.string Z) ∧ ∃ k os, w' = Sort.grow (wr.drewN k) os) := by
          show Calls _ _ _ _ _
          rw [hZ]
          exact Tryz.itoa_any N (by omega) (by omega) wr hti
        obtain ⟨O, hO⟩ : ∃ O : ByteArray, O = ⟨l.toArray⟩ := ⟨_, rfl⟩
        have EO : Hid (O = ⟨l.toArray⟩) := hO
        have hOz : O.size ≤ 1920 := by rw [hO, str_size]; exact hz
        have CS : Hid (∀ w', BldIn B B W w' l → Calls Tryz.prog 156 #[.pointer (some ⟨B, 0, none⟩)] w' fun e w'' => e = .returned (.string O) ∧ Below B w' w'') := fun w' h => by rw [hO]; exact Tryz.Builder_String_any B B l w' h.bld (h.size hBW)
        clear hfull hN hZ hO hbs hti
        have q1 : ¬ 9223372036854775807 < Z.size + 1 := by omega
        have q2 : ¬ 9223372036854775807 < Z.size + 1 + O.size := by omega
        have q3 : ¬ 9223372036854775807 < Z.size + 1 + O.size + 1 := by omega
        go_wp2_with fail
        refine CL.out.mono ?_
        rintro e w4 ⟨rfl, rfl⟩
        go_wp2_with fail
        refine CI.out.mono ?_
        rintro e w5 ⟨rfl, kk, os, rfl⟩
        obtain ⟨w5, hw5⟩ : ∃ w5, w5 = Sort.grow (w4.drewN kk) os := ⟨_, rfl⟩
        have hb5 : Below w4.heap.size w4 w5 := by rw [hw5]; exact Lib.below_grow _ _ (Nat.le_refl _) _ _
        rw [← hw5]
        have T5 : BldIn B B W w5 l := HTT.out.below hBW hb5
        have K5 : Hid (Below w.heap.size w w5) := KW.out.trans (T5.bel.mono hwB)
        clear hw5 hb5
        go_wp2_with fail
        refine (CS.out _ T5).mono ?_
        rintro e w6 ⟨rfl, hb6⟩
        go_wp2
        go_ret
        exact ⟨retD_str (by rw [frameB_yes HP.out, ← EF.out]; exact frame_end EO.out (by rw [EZ.out, EN.out])), K5.out.trans (hb6.mono hwB)⟩
end Go.Proofs.YtapjkbpfhmbfaaaGreatDoor
