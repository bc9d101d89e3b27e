/-
  What the program's StoreOk answers, by a walk of its Go text.
  What the document's l6Up answers, by a walk of its Go text.
  A block of a kind and a size, whatever it holds.
-/
import Derived.Test.YtapjkbpfhmbfaaaGreatDoorSo44
import Derived.Test.YtapjkbpfhmbfaaaGreatDoorSo38
import Derived.Test.YtapjkbpfhmbfaaaGreatDoorSo15
import Derived.Test.YtapjkbpfhmbfaaaGreatDoorSo02
namespace Go.Proofs.YtapjkbpfhmbfaaaGreatDoor
open Go.RowKit
set_option maxRecDepth 100000
set_option maxHeartbeats 4000000
theorem whole_ex : ∀ (n : Nat) (l : List UInt8), l.length ≤ n → ∃ P k, Whole l P k
  | 0, l, h => by
    have : l = [] := List.eq_nil_of_length_eq_zero (by omega)
    subst this
    exact ⟨[], 0, whole_nil⟩
  | n + 1, l, h => by
    by_cases he : ∃ L, FrAt l L
    · obtain ⟨L, hd, r, rfl⟩ := he
      have h1 := frameT_pos L
      rw [List.length_append] at h
      obtain ⟨P, k, hw⟩ := whole_ex n r (by omega)
      exact ⟨L :: P, _, Whole.one hd hw⟩
    · exact ⟨[], 0, Whole.none (fun L hL => he ⟨L, hL⟩)⟩
def SoE (up : Bool) (q : Int) (M : List EntD) (V : List (List RunD)) (S : List Int) (lg : ByteArray) (sf sd : Int) (U : List (List RunD)) (w : World) (e : Ending) (w' : World) : Prop := ∃ b, e = .returned (.bool b) ∧ (∀ P k, Whole lg.data.toList P k → b = stB up q M V S lg sf sd U P k) ∧ Below w.heap.size w w'
theorem implStoreOk (lo : Nat) (up : Bool) (q : Int) (am av ak dv : Option Addr) (nm cm nv cv ns cs nd cd : Nat) (M : List EntD) (V : List (List RunD)) (S : List Int) (lg : ByteArray) (sf sd : Int) (U : List (List RunD)) (w : World) (hT : TreeIn lo w am nm cm av nv cv ak ns cs M V S) (hU : LevelsIn lo w dv nd cd U) (hlg : lg.size ≤ 1048576) (hE : ErrB w.heap.size w) (hTB : TabB w.heap.size w) :
    Calls Tryz.prog 14 #[.agg #[.bool up, .int .i64 q, .slice am nm cm, .slice av nv cv, .slice ak ns cs, .string lg, .int .i64 sf, .slice dv nd cd, .int .i64 sd]] w (SoE up q M V S lg sf sd U w) := by
  obtain ⟨X, hX⟩ := ex' w.heap.size
  obtain ⟨W, hW⟩ := ex' (w.alloc (.cells #[.bool up, .int .i64 q, .slice am nm cm, .slice av nv cv, .slice ak ns cs, .string lg, .int .i64 sf, .slice dv nd cd, .int .i64 sd] 40))
  have kW : Below w.heap.size w W := by rw [hW]; exact (Below.refl _ _).alloc (Nat.le_refl _) _
  have bx : Box9 W X (.bool up) (.int .i64 q) (.slice am nm cm) (.slice av nv cv) (.slice ak ns cs) (.string lg) (.int .i64 sf) (.slice dv nd cd) (.int .i64 sd) := by rw [hW, hX]; exact Box9.new _ _ _ _ _ _ _ _ _ _ _
  have CS := implShareStore lo up q am av ak dv nm cm nv cv ns cs nd cd M V S lg sf sd U W (hT.keep kW) (hU.keep kW) hlg (fun w' kk => hE w' (kW.trans (kk.mono kW.size))) (fun w' kk => hTB w' (kW.trans (kk.mono kW.size)))
  have HKW := hiD kW
  have x0 := bx.c0
  have x1 := bx.c1
  have x2 := bx.c2
  have x3 := bx.c3
  have x4 := bx.c4
  have x5 := bx.c5
  have x6 := bx.c6
  have x7 := bx.c7
  have x8 := bx.c8
  have xz := bx.lt
  clear kW bx hT hU hE hTB
  go_enter Tryz.func14, Tryz.ntmps14
  go_upto_region 1 with fail
  rw [← hX, ← hW]
  clear hX hW
  go_wp2_with fail
  refine CS.mono ?_
  rintro e w1 ⟨v, b, rfl, ⟨u, z, z2, z3, T, p0, s0, t0, p1, s1, t1, p2, s2, t2, p3, s3, t3, p4, s4, t4, p5, s5, t5, p6, s6, t6, p7, s7, t7, rfl⟩, hb, hk, _⟩
  have HB := hiD hb
  have HK := hiD hk
  clear hb hk x0 x1 x2 x3 x4 x5 x6 x7 x8 xz CS
  go_wp2
  go_ret
  exact ⟨b, rfl, HB.out, (HKW.out.trans (HK.out.mono HKW.out.size)).alloc (Nat.le_trans HKW.out.size HK.out.size) _⟩
end Go.Proofs.YtapjkbpfhmbfaaaGreatDoor

namespace Go.Proofs.YtapjkbpfhmbfaaaGreatDoor
open Go.RowKit
set_option maxRecDepth 100000
set_option maxHeartbeats 8000000
def upB (q : Int) (M : List EntD) (V : List (List RunD)) (S : List Int) (lg : ByteArray) (sd : Int) (U : List (List RunD)) (P : List (List EntD)) (k : Nat) : Bool :=
  treeB q M V S && (decide (U = V) && (decide (0 ≤ sd) && (decide (sd ≤ q) && (decide (k = lg.size) && (decide (sortE (P.map (lateL sd)).flatten = M) && decide (lastQ sd P = q))))))
def UpE (q : Int) (M : List EntD) (V : List (List RunD)) (S : List Int) (lg : ByteArray) (sd : Int) (U : List (List RunD)) (w : World) (e : Ending) (w' : World) : Prop := ∃ b, e = .returned (.bool b) ∧ (∀ P k, Whole lg.data.toList P k → b = upB q M V S lg sd U P k) ∧ Below w.heap.size w w'
theorem specUp (lo : Nat) (up : Bool) (q : Int) (am av ak dv : Option Addr) (nm cm nv cv ns cs nd cd : Nat) (M : List EntD) (V : List (List RunD)) (S : List Int) (lg : ByteArray) (sf sd : Int) (U : List (List RunD)) (w : World) (hT : TreeIn lo w am nm cm av nv cv ak ns cs M V S) (hU : LevelsIn lo w dv nd cd U) (hlg : lg.size ≤ 1048576) :
    Calls Tryz.prog 39 #[.agg #[.bool up, .int .i64 q, .slice am nm cm, .slice av nv cv, .slice ak ns cs, .string lg, .int .i64 sf, .slice dv nd cd, .int .i64 sd]] w (UpE q M V S lg sd U w) := by
  obtain ⟨X, hX⟩ := ex' w.heap.size
  obtain ⟨W, hW⟩ := ex' (w.alloc (.cells #[.bool up, .int .i64 q, .slice am nm cm, .slice av nv cv, .slice ak ns cs, .string lg, .int .i64 sf, .slice dv nd cd, .int .i64 sd] 40))
  have kW : Below w.heap.size w W := by rw [hW]; exact (Below.refl _ _).alloc (Nat.le_refl _) _
  have bx : Box9 W X (.bool up) (.int .i64 q) (.slice am nm cm) (.slice av nv cv) (.slice ak ns cs) (.string lg) (.int .i64 sf) (.slice dv nd cd) (.int .i64 sd) := by rw [hW, hX]; exact Box9.new _ _ _ _ _ _ _ _ _ _ _
  have HBX := hiD bx
  have HKW := hiD kW
  have HT := hiD (hT.keep kW)
  have HU := hiD (hU.keep kW)
  have HMN : Hid (M.length = nm) := hT.mem.1.length
  obtain ⟨TB, hTB⟩ := ex' (treeB q M V S)
  have HTB := hiD hTB
  have CT := specTreeOk lo q am av ak nm cm nv cv ns cs M V S W HT.out
  rw [← hTB] at CT
  have x1 := bx.c1
  have x2 := bx.c2
  have x3 := bx.c3
  have x4 := bx.c4
  have xz := bx.lt
  clear kW bx hT hU hTB
  go_enter Tryz.func39, Tryz.ntmps39
  go_upto_region 1 with fail
  rw [← hX, ← hW]
  clear hX hW
  go_wp2_with fail
  refine CT.mono ?_
  rintro e w1 ⟨rfl, hb1⟩
  have KB1 := hiD hb1
  have K1 : Hid (Below w.heap.size w w1) := HKW.out.trans (hb1.mono HKW.out.size)
  have xl := HBX.out.keep hb1
  have y1 := xl.c1
  have y2 := xl.c2
  have y3 := xl.c3
  have y5 := xl.c5
  have y7 := xl.c7
  have y8 := xl.c8
  have yz := xl.lt
  clear hb1 CT x1 x2 x3 x4 xz xl
  cases hTv : TB with
  | false =>
    rw [hTv] at HTB
    go_wp2
    go_ret
    exact ⟨false, rfl, fun P k _ => by unfold upB; rw [← HTB.out]; rfl, K1.out⟩
  | true =>
    rw [hTv] at HTB
    obtain ⟨EQ, hEQ⟩ := ex' (decide (U = V))
    have HEQ := hiD hEQ
    have CL := specLevels lo lo dv av nd cd nv cv U V w1 (HU.out.keep KB1.out) (HT.out.keep KB1.out).levels
    rw [← hEQ] at CL
    clear hEQ hTv
    go_wp2_with fail
    refine CL.mono ?_
    rintro e w2 ⟨rfl, hb2⟩
    have KB2 : Hid (Below W.heap.size W w2) := KB1.out.trans (hb2.mono KB1.out.size)
    have K2 : Hid (Below w.heap.size w w2) := K1.out.trans (hb2.mono K1.out.size)
    have xl := HBX.out.keep KB2.out
    have z1 := xl.c1
    have z2 := xl.c2
    have z5 := xl.c5
    have z8 := xl.c8
    have zz := xl.lt
    clear hb2 CL y1 y2 y3 y5 y7 y8 yz xl
    cases hEv : EQ with
    | false =>
      rw [hEv] at HEQ
      go_wp2
      go_ret
      exact ⟨false, rfl, fun P k _ => by unfold upB; rw [← HTB.out, ← HEQ.out]; rfl, K2.out⟩
    | true =>
      rw [hEv] at HEQ
      clear hEv
      by_cases s0 : sd < 0
      · have s0' : ¬ 0 ≤ sd := by omega
        have hd : Hid (decide (0 ≤ sd) = false) := decide_eq_false s0'
        go_wp2
        go_ret
        exact ⟨false, rfl, fun P k _ => by unfold upB; rw [← HTB.out, ← HEQ.out, hd.out]; rfl, K2.out⟩
      have s0' : 0 ≤ sd := by omega
      by_cases s1 : sd > q
      · have s1' : ¬ sd ≤ q := by omega
        have hd : Hid (decide (sd ≤ q) = false) := decide_eq_false s1'
        have hd0 : Hid (decide (0 ≤ sd) = true) := decide_eq_true s0'
        go_wp2
        go_ret
        exact ⟨false, rfl, fun P k _ => by unfold upB; rw [← HTB.out, ← HEQ.out, hd.out, hd0.out]; rfl, K2.out⟩
      have s1' : sd ≤ q := by omega
      have hd1 : Hid (decide (sd ≤ q) = true) := decide_eq_true s1'
      have hd0 : Hid (decide (0 ≤ sd) = true) := decide_eq_true s0'
      have CR := specRd lg w2 hlg
      go_wp2_with fail
      refine CR.mono ?_
      rintro e w3 ⟨⟨P, k, g, n, c, rfl, hwh, hP⟩, hb3⟩
      have KB3 : Hid (Below W.heap.size W w3) := KB2.out.trans (hb3.mono KB2.out.size)
      have K3 : Hid (Below w.heap.size w w3) := K2.out.trans (hb3.mono K2.out.size)
      have HWH := hiD hwh
      have hfl : P.flatten.length ≤ 1048576 := by
        have h1 := (whole_txt hwh).2
        have h2 := whole_le hwh
        have h3 : lg.data.toList.length = lg.size := by rw [Array.length_toList]; rfl
        have h4 := flat_szP P
        omega
      have CM := specMem (some ⟨g, 0, none⟩) n c P sd w3 hP hfl
      have xl := HBX.out.keep KB3.out
      have u1 := xl.c1
      have u2 := xl.c2
      have u5 := xl.c5
      have u8 := xl.c8
      have uz := xl.lt
      clear hb3 hwh hP hfl CR z1 z2 z5 z8 zz xl
      go_wp2_with fail
      refine CM.mono ?_
      rintro e w4 ⟨g2, cg, rfl, hO, hb4⟩
      have KB4 : Hid (Below W.heap.size W w4) := KB3.out.trans (hb4.mono KB3.out.size)
      have K4 : Hid (Below w.heap.size w w4) := K3.out.trans (hb4.mono K3.out.size)
      have xl := HBX.out.keep KB4.out
      have v1 := xl.c1
      have v2 := xl.c2
      have v5 := xl.c5
      have vz := xl.lt
      obtain ⟨N, hN⟩ := ex' (P.map (lateL sd)).flatten.length
      rw [← hN] at hO ⊢
      obtain ⟨SL, hSL⟩ := ex' (sortE (P.map (lateL sd)).flatten)
      rw [← hSL] at hO
      obtain ⟨LQ, hLQ⟩ := ex' (lastQ sd P)
      rw [← hLQ]
      have HSL := hiD hSL
      have HLQ := hiD hLQ
      have CE := specEq (some ⟨g2, 0, none⟩) am N cg nm cm SL M w4 hO.entsAt (HT.out.mem.1.keep KB4.out)
      have HR : Hid (∀ b, b = (decide (k = lg.size) && (decide (SL = M) && decide (LQ = q))) → ∀ P' k', Whole lg.data.toList P' k' → b = upB q M V S lg sd U P' k') := fun b hb P' k' hW' => by
        obtain ⟨rfl, rfl⟩ := whole_inj HWH.out hW'
        unfold upB
        rw [← HTB.out, ← HEQ.out, hd0.out, hd1.out, hb, HSL.out, HLQ.out]
        rfl
      clear hb4 hN hSL hLQ hO CM u1 u2 u5 u8 uz xl s0 s0' s1 s1'
      by_cases h1 : k = lg.size
      · have h1I : (k : Int) = (lg.size : Int) := by omega
        have h1b : ((k : Int) == (lg.size : Int)) = true := by simpa using h1I
        have hk : Hid (decide (k = lg.size) = true) := decide_eq_true h1
        obtain ⟨kk, hkk⟩ : ∃ kk : Int, kk = (k : Int) := ⟨_, rfl⟩
        rw [← hkk] at h1I h1b ⊢
        clear h1 hkk
        obtain ⟨ES, hES⟩ := ex' (decide (SL = M))
        have HES := hiD hES
        rw [← hES] at CE
        clear hES
        go_wp2_with fail
        refine CE.mono ?_
        rintro e w5 ⟨rfl, hb5⟩
        have K5 : Hid (Below w.heap.size w w5) := K4.out.trans (hb5.mono K4.out.size)
        have xl := HBX.out.keep (KB4.out.trans (hb5.mono KB4.out.size))
        have t1 := xl.c1
        have tz := xl.lt
        clear hb5 CE xl v1 v2 v5 vz
        cases hSv : ES with
        | false =>
          rw [hSv] at HES
          have HR2 := hiD (HR.out false (by rw [hk.out, ← HES.out]; rfl))
          clear HR hSv
          go_wp2
          go_ret
          exact ⟨false, rfl, HR2.out, K5.out⟩
        | true =>
          rw [hSv] at HES
          by_cases h2 : LQ = q
          · have h2b : (LQ == q) = true := by simpa using h2
            have HR2 := hiD (HR.out true (by rw [hk.out, ← HES.out, decide_eq_true h2]; rfl))
            clear HR hSv
            go_wp2
            go_ret
            exact ⟨true, rfl, HR2.out, K5.out⟩
          · have h2b : (LQ == q) = false := by simpa using h2
            have HR2 := hiD (HR.out false (by rw [hk.out, ← HES.out, decide_eq_false h2]; rfl))
            clear HR hSv
            go_wp2
            go_ret
            exact ⟨false, rfl, HR2.out, K5.out⟩
      · have h1I : ¬ (k : Int) = (lg.size : Int) := by omega
        have h1b : ((k : Int) == (lg.size : Int)) = false := by simpa using h1I
        have HR2 := hiD (HR.out false (by rw [decide_eq_false h1]; rfl))
        clear HR CE
        go_wp2
        go_ret
        exact ⟨false, rfl, HR2.out, K4.out⟩
end Go.Proofs.YtapjkbpfhmbfaaaGreatDoor

namespace Go.Proofs.YtapjkbpfhmbfaaaGreatDoor
open Go.RowKit
def BlockOf (w : World) (g t sz : Nat) : Prop := ∃ cur : Array Value, w.heap[g]? = some (.cells cur t (0, 0)) ∧ cur.size = sz
theorem BlockOf.lt {w : World} {g t sz : Nat} (h : BlockOf w g t sz) : g < w.heap.size := by
  obtain ⟨cur, h, _⟩ := h
  exact (Array.getElem?_eq_some_iff.1 h).1
theorem BlockOf.cell {w : World} {g t sz : Nat} (h : BlockOf w g t sz) {o : Nat} (ho : o < sz) : ∃ v, w.cell? ⟨g, o, none⟩ = some v := by
  obtain ⟨cur, h, hs⟩ := h
  exact ⟨cur[o]'(by omega), by simp [World.cell?, h, Array.getElem?_eq_getElem (show o < cur.size by omega)]⟩
theorem BlockOf.frozen {w : World} {g t sz : Nat} (h : BlockOf w g t sz) (o : Nat) : w.frozen? ⟨g, o, none⟩ = false := by
  obtain ⟨cur, h, hs⟩ := h
  simp [World.frozen?, h]
theorem BlockOf.setCell {w : World} {g t sz : Nat} (h : BlockOf w g t sz) {b o : Nat} (v : Value) (_ : True := trivial) : BlockOf (w.setCell ⟨b, o, none⟩ v) g t sz := by
  obtain ⟨cur, h, hs⟩ := h
  by_cases e : g = b
  · subst e
    exact ⟨_, heap_setCell_same w g o cur t v h, by simp [hs]⟩
  · exact ⟨cur, (Below.heap_setCell _ _ _ _ e).trans h, hs⟩
theorem BlockOf.below {w w' : World} {g t sz : Nat} (h : BlockOf w g t sz) (hb : Below w.heap.size w w') : BlockOf w' g t sz := by
  obtain ⟨cur, h', hs⟩ := h
  exact ⟨cur, (hb.block g (Array.getElem?_eq_some_iff.1 h').1).trans h', hs⟩
theorem BlockOf.kind {w : World} {g t t' sz sz' : Nat} (h : BlockOf w g t sz) (h' : BlockOf w g t' sz') : t = t' := by
  obtain ⟨cur, h1, _⟩ := h
  obtain ⟨cur', h2, _⟩ := h'
  rw [h1] at h2
  cases h2
  rfl
end Go.Proofs.YtapjkbpfhmbfaaaGreatDoor
