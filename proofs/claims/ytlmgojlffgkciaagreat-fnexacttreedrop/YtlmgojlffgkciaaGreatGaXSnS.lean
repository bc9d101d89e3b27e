/-
  The document's l5Has and TreeSnap: what they answer at a right tree, by walks of their Go text.
-/
import Derived.Test.YtlmgojlffgkciaaGreatGa20
import Derived.Test.YtlmgojlffgkciaaGreatGaXSnI
import Derived.Test.YtlmgojlffgkciaaGreatGa19
namespace Go.Proofs.YtlmgojlffgkciaaGreat
open Go.RowKit
set_option maxRecDepth 100000
set_option maxHeartbeats 8000000
theorem specHas (lo : Nat) (q sq : Int) (am av ak : Option Addr) (nm cm nv cv ns cs : Nat) (S : List Int) (w : World) (hS : IntsIn lo w ak ns cs S) (hn : ns ≤ 1048576) :
    Calls Tryz.prog 39 #[.agg #[.int .i64 q, .slice am nm cm, .slice av nv cv, .slice ak ns cs], .int .i64 sq] w fun e w' => e = .returned (.bool (decide (sq ∈ S))) ∧ Below w.heap.size w w' := by
  obtain ⟨X, hX⟩ : ∃ X, X = w.heap.size := ⟨_, rfl⟩
  obtain ⟨W, hW⟩ : ∃ W, W = w.alloc (.cells #[.int .i64 q, .slice am nm cm, .slice av nv cv, .slice ak ns cs] 31) := ⟨_, rfl⟩
  have kW : Below w.heap.size w W := by rw [hW]; exact (Below.refl _ _).alloc (Nat.le_refl _) _
  have x3 : W.cell? ⟨X, 3, none⟩ = some (.slice ak ns cs) := by rw [hW, hX]; simp
  have HS : Hid (IntsIn lo W ak ns cs S) := hS.keep kW
  have HL : Hid (S.length = ns) := hS.length
  have HB : Hid (Below w.heap.size w W) := kW
  have xz := World.block_lt_of_cell? _ _ x3
  simp only at xz
  obtain ⟨Z, hZ⟩ : ∃ Z, Z = decide (sq ∈ S) := ⟨_, rfl⟩
  have HZ : Hid (Z = decide (sq ∈ S)) := hZ
  rw [← hZ]
  clear hS kW hZ
  go_enter Tryz.func39, Tryz.ntmps39
  go_upto_region 1 with fail
  rw [← hX, ← hW]
  clear hX hW
  go_wp2
  go_loopw [5] (fun iv wr => ∃ (k : Nat), k ≤ ns ∧ iv = .int .i64 k ∧ (∀ j, j < k → ¬ S[j]? = some sq) ∧ W = wr) (fun iv _ => ns - (intOf iv).toNat)
  case atStart => exact ⟨0, Nat.zero_le _, rfl, fun j hj => absurd hj (Nat.not_lt_zero _), rfl⟩
  case round =>
    obtain ⟨k, hk, rfl, hno, rfl⟩ := hrel
    have HNO : Hid (∀ j, j < k → ¬ S[j]? = some sq) := hno
    clear hno
    by_cases hlt : k < ns
    · have hltI : (k : Int) < (ns : Int) := by omega
      obtain ⟨b, off, rfl, hbb⟩ := HS.out.form (by omega)
      obtain ⟨z, hz, _, g0⟩ := HS.out.num (Below.refl _ W) k hlt
      have HZZ : Hid (S[k]? = some z) := hz
      clear hz
      by_cases hq : z = sq
      · subst hq
        have HR : Hid (Z = true) := by show _ = _; rw [HZ.out]; exact decide_eq_true (List.mem_of_getElem? HZZ.out)
        go_wp2
        go_ret
        exact ⟨by have e := HR.out; first | (rw [e]; rfl) | (subst e; rfl) | simp [e], HB.out⟩
      · have hqb : (z == sq) = false := by simpa using hq
        go_wp2
        go_roundw
        case rel =>
          refine ⟨k + 1, by omega, by go_num, fun j hj => ?_, by first | rfl | trivial⟩
          by_cases e : j = k
          · subst e
            rw [HZZ.out]
            intro h
            exact hq (Option.some.inj h)
          · exact HNO.out j (by omega)
        case measure => simp [intOf]; omega
    · have hltI : ¬ (k : Int) < (ns : Int) := by omega
      have HR : Hid (Z = false) := by
        show _ = _
        rw [HZ.out]
        refine decide_eq_false (fun hm => ?_)
        obtain ⟨j, hj⟩ := List.getElem?_of_mem hm
        have hjl := (List.getElem?_eq_some_iff.1 hj).1
        rw [HL.out] at hjl
        exact HNO.out j (by omega) hj
      go_wp2
      go_ret
      exact ⟨by have e := HR.out; first | (rw [e]; rfl) | (subst e; rfl) | simp [e], HB.out⟩
theorem Box4.grownB {w w' : World} {b g : Nat} {u0 u1 u2 u3 : Value} (h : Box4 w b u0 u1 u2 u3) (hg : w.grownBy w' (some g)) (hne : b ≠ g) : Box4 w' b u0 u1 u2 u3 :=
  have hn : some b ≠ some g := fun e => hne (Option.some.inj e)
  ⟨hg.cell h.c0 hn, hg.cell h.c1 hn, hg.cell h.c2 hn, hg.cell h.c3 hn, fun o => (grown_frozen hg (x := ⟨b, o, none⟩) h.lt hn).trans (h.fz o)⟩
theorem CopyG.kind {base g1 nm c1 G nv c g3 ns c3 Y T sz : Nat} {w w' : World} {M : List EntD} {V : List (List RunD)} {S : List Int} (h : CopyG base w g1 nm c1 G nv c g3 ns c3 M V S) (hB : BlockOf w Y T sz) (t0 : T ≠ 64) (t1 : T ≠ 102) (t2 : T ≠ 78) (t3 : T ≠ 3) (hg : w.grownBy w' (some Y)) : CopyG base w' g1 nm c1 G nv c g3 ns c3 M V S := by
  obtain ⟨_, k1⟩ := kind_row h.mem.owns
  obtain ⟨_, k3⟩ := kind_row h.sn
  refine ⟨h.mem.grown hg (fun e => ?_), h.levs.grown hB t0 t1 t2 hg, h.slen, h.swf, h.sn.kept hg (.inr fun e => ?_)⟩
  · have e' : g1 = Y := Option.some.inj e
    subst e'
    exact t2 (hB.kind k1)
  · have e' : g3 = Y := by simpa [Value.ownBlock] using e
    subst e'
    exact t3 (hB.kind k3)
def SnapD (q : Int) (nm nv n : Nat) (M : List EntD) (V : List (List RunD)) (S : List Int) (ok : Bool) (w : World) (e : Ending) (w' : World) : Prop :=
  ∃ g1 c1 G c g3 c3, e = .returned (.tuple #[.agg #[.int .i64 q, .slice (some ⟨g1, 0, none⟩) nm c1, .slice (some ⟨G, 0, none⟩) nv c, .slice (some ⟨g3, 0, none⟩) n c3], .bool ok]) ∧ CopyG w.heap.size w' g1 nm c1 G nv c g3 n c3 M V S ∧ Below w.heap.size w w'
theorem CopyG.push {base g1 nm c1 G nv c g3 ns c3 g4 c4 : Nat} {w w' : World} {M : List EntD} {V : List (List RunD)} {S : List Int} {q : Int} (h : CopyG base w g1 nm c1 G nv c g3 ns c3 M V S) (hg : w.grownBy w' (some g3)) (ho : w'.ownsRow base 3 1 (.slice (some ⟨g4, 0, none⟩) (ns + 1) c4) (ns + 1) (S.map (Value.int .i64) ++ [.int .i64 q])) (hq : (Lit.int .i64 q).wf = true) : CopyG base w' g1 nm c1 G nv c g4 (ns + 1) c4 M V (S ++ [q]) :=
  ⟨own_grown h.mem h.sn (by decide) hg, levs_grown h.levs h.sn (by decide) (by decide) (by decide) hg, by rw [List.length_append, h.slen]; rfl, fun z hz => by
    rcases List.mem_append.1 hz with h1 | h1
    · exact h.swf z h1
    · rw [List.mem_singleton] at h1; subst h1; exact hq, by rw [List.map_append]; exact ho⟩
theorem specSnap (lo : Nat) (q : Int) (b1 nm cm : Nat) (av : Option Addr) (nv cv b3 ns cs : Nat) (M : List EntD) (V : List (List RunD)) (S : List Int) (w : World) (hT : TreeIn lo w (some ⟨b1, 0, none⟩) nm cm av nv cv (some ⟨b3, 0, none⟩) ns cs M V S) (hq : (Lit.int .i64 q).wf = true) (htb : treeB q M V S = true) :
    Calls Tryz.prog 11 #[.agg #[.int .i64 q, .slice (some ⟨b1, 0, none⟩) nm cm, .slice av nv cv, .slice (some ⟨b3, 0, none⟩) ns cs]] w fun e w' => (ns < 4 ∧ q ∉ S → SnapD q nm nv (ns + 1) M V (S ++ [q]) true w e w') ∧ (¬ (ns < 4 ∧ q ∉ S) → SnapD q nm nv ns M V S false w e w') := by
  have hsl := hT.snaps.length
  have hns : ns ≤ 4 := by
    have h1 := (tree_parts htb).2.2.2.2.2.2.1
    unfold snapsB at h1
    rw [Bool.and_eq_true] at h1
    have h2 := of_decide_eq_true h1.1
    omega
  have hnm : nm ≤ 60 := by have h1 := (tree_parts htb).2.2.1; have h2 := hT.mem.1.length; omega
  obtain ⟨A, B, C, hV3⟩ := three_of htb
  have hnv : nv ≤ 100 := by have h1 := hT.levels.length; rw [hV3] at h1; have h2 : ([A, B, C] : List (List RunD)).length = 3 := rfl; omega
  have hlv : ∀ B ∈ V, B.length ≤ 100 ∧ ∀ r ∈ B, 1 ≤ r.1.length ∧ r.1.length ≤ 10000 := by
    have h8 : levelsB V q = true := (tree_parts htb).2.2.2.2.2.2.2.1
    rw [hV3] at h8 ⊢
    unfold levelsB at h8
    simp only [Bool.and_eq_true] at h8
    intro Z hZm
    simp only [List.mem_cons, List.not_mem_nil, or_false] at hZm
    rcases hZm with rfl | rfl | rfl
    · exact runs_small h8.1 (by omega)
    · exact runs_small h8.2.1 (by omega)
    · exact runs_small h8.2.2 (by omega)
  obtain ⟨Z, hZ⟩ : ∃ Z, Z = decide (q ∈ S) := ⟨_, rfl⟩
  have CO : Hid (∀ w', Below w.heap.size w w' → Calls Tryz.prog 37 #[.agg #[.int .i64 q, .slice (some ⟨b1, 0, none⟩) nm cm, .slice av nv cv, .slice (some ⟨b3, 0, none⟩) ns cs]] w' fun e w'' => e = .returned (.bool true) ∧ Below w'.heap.size w' w'') := fun w' k => by
    have := specTreeOk lo q _ _ _ _ _ _ _ _ _ M V S w' (hT.keep k)
    rw [htb] at this
    exact this
  have CC : Hid (∀ w', Below w.heap.size w w' → Calls Tryz.prog 38 #[.agg #[.int .i64 q, .slice (some ⟨b1, 0, none⟩) nm cm, .slice av nv cv, .slice (some ⟨b3, 0, none⟩) ns cs]] w' fun e w'' => ∃ g1 c1 G c g3 c3, e = .returned (.agg #[.int .i64 q, .slice (some ⟨g1, 0, none⟩) nm c1, .slice (some ⟨G, 0, none⟩) nv c, .slice (some ⟨g3, 0, none⟩) ns c3]) ∧ CopyG w'.heap.size w'' g1 nm c1 G nv c g3 ns c3 M V S ∧ Below w'.heap.size w' w'') := fun w' k => specCopy lo q b1 nm cm av nv cv b3 ns cs M V S w' (hT.keep k) (by omega) (by omega) (by omega) hlv
  have CH : Hid (∀ w', Below w.heap.size w w' → Calls Tryz.prog 39 #[.agg #[.int .i64 q, .slice (some ⟨b1, 0, none⟩) nm cm, .slice av nv cv, .slice (some ⟨b3, 0, none⟩) ns cs], .int .i64 q] w' fun e w'' => e = .returned (.bool Z) ∧ Below w'.heap.size w' w'') := fun w' k => by rw [hZ]; exact specHas lo q q _ _ _ _ _ _ _ _ _ S w' (hT.snaps.keep k) (by omega)
  obtain ⟨i0, hi, hz0, hz1, hz2⟩ := info_parts Tryz.infoInt
  obtain ⟨X, hX⟩ : ∃ X, X = w.heap.size := ⟨_, rfl⟩
  obtain ⟨W, hW⟩ : ∃ W, W = (w.alloc (.cells #[.int .i64 q, .slice (some ⟨b1, 0, none⟩) nm cm, .slice av nv cv, .slice (some ⟨b3, 0, none⟩) ns cs] 31)).alloc (.cells #[.int .i64 0, .slice none 0 0, .slice none 0 0, .slice none 0 0] 31) := ⟨_, rfl⟩
  have kW : Below w.heap.size w W := by rw [hW]; exact ((Below.refl _ _).alloc (Nat.le_refl _) _).alloc (by simp) _
  have bx : Box4 W X (.int .i64 q) (.slice (some ⟨b1, 0, none⟩) nm cm) (.slice av nv cv) (.slice (some ⟨b3, 0, none⟩) ns cs) := by rw [hW, hX]; exact (Box4.new _ _ _ _ _ _).alloc _
  have br : Box4 W (X + 1) (.int .i64 0) (.slice none 0 0) (.slice none 0 0) (.slice none 0 0) := by
    have := Box4.new (w.alloc (.cells #[.int .i64 q, .slice (some ⟨b1, 0, none⟩) nm cm, .slice av nv cv, .slice (some ⟨b3, 0, none⟩) ns cs] 31)) 31 (.int .i64 0) (.slice none 0 0) (.slice none 0 0) (.slice none 0 0)
    rw [World.size_alloc] at this
    rw [hW, hX]
    exact this
  have HX : Hid (X = w.heap.size) := hX
  have K0 : Hid (Below w.heap.size w W) := kW
  have hd : (ns < 4 ∧ q ∉ S) ↔ (ns < 4 ∧ Z = false) := by rw [hZ]; simp
  clear hT kW hlv hsl htb hZ hV3
  go_enter Tryz.func11, Tryz.ntmps11
  go_wp2_with fail
  rw [← hX, ← hW]
  clear hX hW
  refine (CO.out _ K0.out).mono ?_
  rintro e w1 ⟨rfl, hb1⟩
  have K1 : Hid (Below w.heap.size w w1) := K0.out.trans (hb1.mono K0.out.size)
  have bx1 := bx.keep hb1
  have br1 := br.keep hb1
  have x0 := bx1.c0
  have x1 := bx1.c1
  have x2 := bx1.c2
  have x3 := bx1.c3
  have xf := bx1.fz
  have xz := bx1.lt
  clear hb1 bx br
  go_wp2_with fail
  clear x0 x1 x2 x3 xf xz
  refine (CC.out _ K1.out).mono ?_
  rintro e w2 ⟨g1, c1, G, c, g3, c3, rfl, hC2, hb2⟩
  obtain ⟨Y, hY⟩ : ∃ Y, Y = w2.heap.size := ⟨_, rfl⟩
  obtain ⟨w3, hw3⟩ : ∃ w3, w3 = w2.alloc (.cells #[.int .i64 q, .slice (some ⟨g1, 0, none⟩) nm c1, .slice (some ⟨G, 0, none⟩) nv c, .slice (some ⟨g3, 0, none⟩) ns c3] 31) := ⟨_, rfl⟩
  have k3 : Below w2.heap.size w2 w3 := by rw [hw3]; exact (Below.refl _ _).alloc (Nat.le_refl _) _
  have K3 : Hid (Below w.heap.size w w3) := (K1.out.trans (hb2.mono K1.out.size)).trans (k3.mono (Nat.le_trans K1.out.size hb2.size))
  have HC3 : Hid (CopyG w1.heap.size w3 g1 nm c1 G nv c g3 ns c3 M V S) := hC2.below k3
  have bx3 := (bx1.keep hb2).keep k3
  have br3 := (br1.keep hb2).keep k3
  have by3 : Box4 w3 Y (.int .i64 q) (.slice (some ⟨g1, 0, none⟩) nm c1) (.slice (some ⟨G, 0, none⟩) nv c) (.slice (some ⟨g3, 0, none⟩) ns c3) := by rw [hw3, hY]; exact Box4.new _ _ _ _ _ _
  have HXB : Hid (X + 1 < w1.heap.size) := br1.lt
  have HBB : Hid (w.heap.size ≤ w1.heap.size) := K1.out.size
  have HYX : Hid (X < Y ∧ X + 1 < Y) := by rw [hY]; exact ⟨(bx1.keep hb2).lt, (br1.keep hb2).lt⟩
  have HB3 : Hid (BlockOf w3 Y 31 4) := by rw [hw3, hY]; exact ⟨_, (by show (w2.heap.push _)[w2.heap.size]? = _; exact Array.getElem?_push_size), rfl⟩
  have HG3 : Hid (g3 < Y) := by rw [hY]; exact (hC2.sn.lt g3 rfl).2
  have x0 := bx3.c0
  have x1 := bx3.c1
  have x2 := bx3.c2
  have x3 := bx3.c3
  have xf := bx3.fz
  have xz := bx3.lt
  clear hb2 k3 hC2 bx1 br1
  go_upto_region 4 with fail
  rw [← hw3]
  try rw [← hY]
  clear hw3 hY
  go_wp2_with fail
  refine (CH.out _ K3.out).mono ?_
  rintro e w4 ⟨rfl, hb4⟩
  have K4 : Hid (Below w.heap.size w w4) := K3.out.trans (hb4.mono K3.out.size)
  have HC4 : Hid (CopyG w1.heap.size w4 g1 nm c1 G nv c g3 ns c3 M V S) := HC3.out.below hb4
  have HB34 : Hid (Below w3.heap.size w3 w4) := hb4
  have bx4 := bx3.keep hb4
  have br4 := br3.keep hb4
  have by4 := by3.keep hb4
  clear x0 x1 x2 x3 xf xz hb4 bx3 br3 by3
  have x0 := bx4.c0
  have x1 := bx4.c1
  have x2 := bx4.c2
  have x3 := bx4.c3
  have xf := bx4.fz
  have xz := bx4.lt
  have y0 := by4.c0
  have y1 := by4.c1
  have y2 := by4.c2
  have y3 := by4.c3
  have yf := by4.fz
  have yz := by4.lt
  have r0 := br4.c0
  have r1 := br4.c1
  have r2 := br4.c2
  have r3 := br4.c3
  have rf := br4.fz
  have rz := br4.lt
  have HCF : Hid (CopyG w1.heap.size w4 g1 nm c1 G nv c g3 ns c3 M V S) := HC4.out
  cases Z with
  | true =>
    have hok : ¬ (ns < 4 ∧ q ∉ S) := fun h => by have := (hd.1 h).2; cases this
    clear hd
    go_wp2
    refine bodyPost_ret (v := .tuple #[.agg #[.int .i64 q, .slice (some ⟨g1, 0, none⟩) nm c1, .slice (some ⟨G, 0, none⟩) nv c, .slice (some ⟨g3, 0, none⟩) (ns) c3], .bool false]) ?_ rfl ⟨fun hn => absurd hn hok, fun _ => ⟨g1, c1, G, c, g3, c3, rfl, ?_, ?_⟩⟩
    · have e := (((br4.set0 (.int .i64 q)).set1 (.slice (some ⟨g1, 0, none⟩) nm c1)).set2 (.slice (some ⟨G, 0, none⟩) nv c)).set3 (.slice (some ⟨g3, 0, none⟩) (ns) c3)
      simp [results, Tryz.results11, go_sem, e.c0, e.c1, e.c2, e.c3]
    · exact (HCF.out.four HXB.out _ _ _ _).mono HBB.out
    · have hx : w.heap.size ≤ X + 1 := by have := HX.out; omega
      exact (((K4.out.setCell (p := ⟨X + 1, 0, none⟩) hx _).setCell (p := ⟨X + 1, 1, none⟩) hx _).setCell (p := ⟨X + 1, 2, none⟩) hx _).setCell (p := ⟨X + 1, 3, none⟩) hx _
  | false =>
    by_cases h4 : ns < 4
    · have hok : ns < 4 ∧ q ∉ S := hd.2 ⟨h4, rfl⟩
      have h4I : ¬ (ns : Int) ≥ 4 := by omega
      have hyx := HYX.out
      have hsn := HC4.out.sn.alloc (.cells #[.int .i64 q] 3)
      have hwz := K4.out.size
      have HB1 : Hid (w1.heap.size ≤ w4.heap.size) := by have h1 := (HC4.out.sn.lt g3 rfl); show _ ≤ _; omega
      have hb1z := HB1.out
      have HRG : Hid (X + 1 ≠ g3) := by have h1 := (HC4.out.sn.lt g3 rfl).1; have h2 := HXB.out; show _ ≠ _; omega
      clear hd HCF
      go_upto_region 7 with (at_builtin; refine wpList_append_own _ rfl _ _ 24 rfl w1.heap.size 3 i0 _ 1 8 Tryz.underlying24 hi hz0 hz1 hz2 rfl (by decide) _ _ _ rfl hsn ⟨w4.heap.size, 0, none⟩ 1 1 [Value.int .i64 q] rfl rfl (cell_one_new' _ _ _) (by simp [Value.oneCell']) (by unfold maxLen; omega) (by omega) (by simp; omega) ?_; intro v5 w5 ho5 hg5 hn5; obtain ⟨g4, c4, rfl⟩ := ownsRow_succ ho5; have hg5 : (w4.alloc (.cells #[.int .i64 q] 3)).grownBy w5 (some g3) := hg5; have by5 := (by4.alloc (.cells #[.int .i64 q] 3)).grownB hg5 (by have := HG3.out; omega); have br5 := (br4.alloc (.cells #[.int .i64 q] 3)).grownB hg5 HRG.out; have y0 := by5.c0; have y1 := by5.c1; have y2 := by5.c2; have y3 := by5.c3; have yf := by5.fz; have yz := by5.lt)
      have ka : Below w4.heap.size w4 (w4.alloc (.cells #[.int .i64 q] 3)) := (Below.refl _ _).alloc (Nat.le_refl _) _
      have hC5 := (HC4.out.below ka).push hg5 ho5 hq
      have K5 : Below w.heap.size w w5 := (K4.out.alloc K4.out.size _).grown hg5 (by simp; omega) (fun k e => by cases e; exact Nat.le_trans HBB.out (HC4.out.sn.lt g3 rfl).1)
      obtain ⟨w6, hw6⟩ : ∃ w6, w6 = w5.setCell ⟨Y, 3, none⟩ (.slice (some ⟨g4, 0, none⟩) (ns + 1) c4) := ⟨_, rfl⟩
      have hset : w5.grownBy w6 (some Y) := by rw [hw6]; exact setg _ _ _ _
      have hB5 : BlockOf w5 Y 31 4 := by
        obtain ⟨cur, h1, h2⟩ := (HB3.out.below HB34.out).below ka
        exact ⟨cur, (hg5.block Y (Array.getElem?_eq_some_iff.1 h1).1 (fun e => by have := Option.some.inj e; have := HG3.out; omega)).trans h1, h2⟩
      have HCF : Hid (CopyG w1.heap.size w6 g1 nm c1 G nv c g4 (ns + 1) c4 M V (S ++ [q])) := hC5.kind hB5 (by decide) (by decide) (by decide) (by decide) hset
      have by6 : Box4 w6 Y (.int .i64 q) (.slice (some ⟨g1, 0, none⟩) nm c1) (.slice (some ⟨G, 0, none⟩) nv c) (.slice (some ⟨g4, 0, none⟩) (ns + 1) c4) := by rw [hw6]; exact by5.set3 _
      have br6 : Box4 w6 (X + 1) (.int .i64 0) (.slice none 0 0) (.slice none 0 0) (.slice none 0 0) := by rw [hw6]; exact br5.other (b' := Y) (o := 3) (by omega) _
      have HR6 : Hid (Box4 w6 (X + 1) (.int .i64 0) (.slice none 0 0) (.slice none 0 0) (.slice none 0 0)) := br6
      have K6 : Hid (Below w.heap.size w w6) := by rw [hw6]; exact K5.setCell (p := ⟨Y, 3, none⟩) (by show _ ≤ Y; have := HX.out; omega) _
      rw [← hw6]
      clear hw6 hB5 hC5 hset y0 y1 y2 y3 yf yz by5 br5 ka K5 x0 x1 x2 x3 xf xz r0 r1 r2 r3 rf rz
      have y0 := by6.c0
      have y1 := by6.c1
      have y2 := by6.c2
      have y3 := by6.c3
      have yf := by6.fz
      have yz := by6.lt
      have r0 := br6.c0
      have r1 := br6.c1
      have r2 := br6.c2
      have r3 := br6.c3
      have rf := br6.fz
      have rz := br6.lt
      go_wp2
      refine bodyPost_ret (v := .tuple #[.agg #[.int .i64 q, .slice (some ⟨g1, 0, none⟩) nm c1, .slice (some ⟨G, 0, none⟩) nv c, .slice (some ⟨g4, 0, none⟩) (ns + 1) c4], .bool true]) ?_ rfl ⟨fun _ => ⟨g1, c1, G, c, g4, c4, rfl, ?_, ?_⟩, fun hn => absurd hok hn⟩
      · have e := (((HR6.out.set0 (.int .i64 q)).set1 (.slice (some ⟨g1, 0, none⟩) nm c1)).set2 (.slice (some ⟨G, 0, none⟩) nv c)).set3 (.slice (some ⟨g4, 0, none⟩) (ns + 1) c4)
        simp [results, Tryz.results11, go_sem, e.c0, e.c1, e.c2, e.c3]
      · exact (HCF.out.four HXB.out _ _ _ _).mono HBB.out
      · have hx : w.heap.size ≤ X + 1 := by have := HX.out; omega
        exact (((K6.out.setCell (p := ⟨X + 1, 0, none⟩) hx _).setCell (p := ⟨X + 1, 1, none⟩) hx _).setCell (p := ⟨X + 1, 2, none⟩) hx _).setCell (p := ⟨X + 1, 3, none⟩) hx _
    · have hok : ¬ (ns < 4 ∧ q ∉ S) := fun h => h4 h.1
      have h4I : (ns : Int) ≥ 4 := by omega
      clear hd
      go_wp2
      refine bodyPost_ret (v := .tuple #[.agg #[.int .i64 q, .slice (some ⟨g1, 0, none⟩) nm c1, .slice (some ⟨G, 0, none⟩) nv c, .slice (some ⟨g3, 0, none⟩) (ns) c3], .bool false]) ?_ rfl ⟨fun hn => absurd hn hok, fun _ => ⟨g1, c1, G, c, g3, c3, rfl, ?_, ?_⟩⟩
      · have e := (((br4.set0 (.int .i64 q)).set1 (.slice (some ⟨g1, 0, none⟩) nm c1)).set2 (.slice (some ⟨G, 0, none⟩) nv c)).set3 (.slice (some ⟨g3, 0, none⟩) (ns) c3)
        simp [results, Tryz.results11, go_sem, e.c0, e.c1, e.c2, e.c3]
      · exact (HCF.out.four HXB.out _ _ _ _).mono HBB.out
      · have hx : w.heap.size ≤ X + 1 := by have := HX.out; omega
        exact (((K4.out.setCell (p := ⟨X + 1, 0, none⟩) hx _).setCell (p := ⟨X + 1, 1, none⟩) hx _).setCell (p := ⟨X + 1, 2, none⟩) hx _).setCell (p := ⟨X + 1, 3, none⟩) hx _
end Go.Proofs.YtlmgojlffgkciaaGreat
