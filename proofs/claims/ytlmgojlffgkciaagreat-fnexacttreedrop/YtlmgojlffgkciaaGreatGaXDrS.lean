/-
  The document's TreeDrop: what it answers at a right tree, by a walk of its Go text.
-/
import Derived.Test.YtlmgojlffgkciaaGreatGaXSnS
import Derived.Test.YtlmgojlffgkciaaGreatGaXDrP
import Derived.Test.YtlmgojlffgkciaaGreatGa19
namespace Go.Proofs.YtlmgojlffgkciaaGreat
open Go.RowKit
set_option maxRecDepth 100000
set_option maxHeartbeats 8000000
structure DropSt (w wr : World) (base X Y : Nat) (u0 u1 u2 u3 : Value) (q : Int) (g1 nm c1 G nv c g n4 c4 : Nat) (M : List EntD) (V : List (List RunD)) (S : List Int) : Prop where
  low : Below w.heap.size w wr
  bx : Box4 wr X u0 u1 u2 u3
  br : Box4 wr (X + 1) (.int .i64 0) (.slice none 0 0) (.slice none 0 0) (.slice none 0 0)
  hy : Box4 wr Y (.int .i64 q) (.slice (some ⟨g1, 0, none⟩) nm c1) (.slice (some ⟨G, 0, none⟩) nv c) (.slice (some ⟨g, 0, none⟩) n4 c4)
  cp : CopyG base wr g1 nm c1 G nv c g n4 c4 M V S
  ky : BlockOf wr Y 31 4
  lows : X + 1 < base ∧ X + 1 < Y ∧ w.heap.size ≤ base ∧ w.heap.size ≤ X
theorem DropSt.below {w wr wj : World} {base X Y : Nat} {u0 u1 u2 u3 : Value} {q : Int} {g1 nm c1 G nv c g n4 c4 : Nat} {M : List EntD} {V : List (List RunD)} {S : List Int} (h : DropSt w wr base X Y u0 u1 u2 u3 q g1 nm c1 G nv c g n4 c4 M V S) (hb : Below wr.heap.size wr wj) : DropSt w wj base X Y u0 u1 u2 u3 q g1 nm c1 G nv c g n4 c4 M V S :=
  ⟨h.low.trans (hb.mono h.low.size), h.bx.keep hb, h.br.keep hb, h.hy.keep hb, h.cp.below hb, h.ky.below hb, h.lows⟩
theorem DropSt.ne {w wr : World} {base X Y : Nat} {u0 u1 u2 u3 : Value} {q : Int} {g1 nm c1 G nv c g n4 c4 : Nat} {M : List EntD} {V : List (List RunD)} {S : List Int} (h : DropSt w wr base X Y u0 u1 u2 u3 q g1 nm c1 G nv c g n4 c4 M V S) : X ≠ g ∧ X + 1 ≠ g ∧ Y ≠ g := by
  have h1 := (h.cp.sn.lt g rfl).1
  have h2 := h.lows
  refine ⟨by omega, by omega, fun e => ?_⟩
  obtain ⟨_, k3⟩ := kind_row h.cp.sn
  subst e
  exact absurd (h.ky.kind k3) (by decide)
theorem DropSt.push {w wr w2 : World} {base X Y : Nat} {u0 u1 u2 u3 : Value} {q z : Int} {g1 nm c1 G nv c g n4 c4 g' c' : Nat} {M : List EntD} {V : List (List RunD)} {S : List Int} (h : DropSt w wr base X Y u0 u1 u2 u3 q g1 nm c1 G nv c g n4 c4 M V S) (hg : wr.grownBy w2 (some g)) (ho : w2.ownsRow base 3 1 (.slice (some ⟨g', 0, none⟩) (n4 + 1) c') (n4 + 1) (S.map (Value.int .i64) ++ [.int .i64 z])) (hz : (Lit.int .i64 z).wf = true) : DropSt w (w2.setCell ⟨Y, 3, none⟩ (.slice (some ⟨g', 0, none⟩) (n4 + 1) c')) base X Y u0 u1 u2 u3 q g1 nm c1 G nv c g' (n4 + 1) c' M V (S ++ [z]) := by
  obtain ⟨e1, e2, e3⟩ := h.ne
  have hl := h.lows
  have hB5 : BlockOf w2 Y 31 4 := by
    obtain ⟨cur, h1, h2⟩ := h.ky
    exact ⟨cur, (hg.block Y (Array.getElem?_eq_some_iff.1 h1).1 (fun e => e3 (Option.some.inj e))).trans h1, h2⟩
  have hset : w2.grownBy (w2.setCell ⟨Y, 3, none⟩ (.slice (some ⟨g', 0, none⟩) (n4 + 1) c')) (some Y) := setg _ _ _ _
  refine ⟨?_, ?_, ?_, ?_, ?_, ?_, h.lows⟩
  · exact (h.low.grown hg h.low.size (fun k e => by cases e; have := (h.cp.sn.lt g rfl).1; omega)).setCell (p := ⟨Y, 3, none⟩) (by show _ ≤ Y; omega) _
  · exact (h.bx.grownB hg e1).other (by omega) _
  · exact (h.br.grownB hg e2).other (by omega) _
  · exact (h.hy.grownB hg e3).set3 _
  · exact (h.cp.push hg ho hz).kind hB5 (by decide) (by decide) (by decide) (by decide) hset
  · exact hB5.setCell _
theorem docR_copy {base nm nv n g1 c1 G c g3 c3 : Nat} {q : Int} {M : List EntD} {V : List (List RunD)} {S : List Int} {ok : Bool} {w w' : World} {e : Ending} (he : e = .returned (.tuple #[.agg #[.int .i64 q, .slice (some ⟨g1, 0, none⟩) nm c1, .slice (some ⟨G, 0, none⟩) nv c, .slice (some ⟨g3, 0, none⟩) n c3], .bool ok])) (hc : CopyG base w' g1 nm c1 G nv c g3 n c3 M V S) (hb : Below w.heap.size w w') : DocR q M V S ok w e w' :=
  ⟨_, _, _, _, _, _, _, _, _, he, hc.treeIn.lowR (Nat.zero_le _), hb⟩
theorem specDrop (lo : Nat) (q : Int) (b1 nm cm : Nat) (av : Option Addr) (nv cv b3 ns cs : Nat) (M : List EntD) (V : List (List RunD)) (S : List Int) (sq : Int) (w : World) (hT : TreeIn lo w (some ⟨b1, 0, none⟩) nm cm av nv cv (some ⟨b3, 0, none⟩) ns cs M V S) (htb : treeB q M V S = true) :
    Calls Tryz.prog 17 #[.agg #[.int .i64 q, .slice (some ⟨b1, 0, none⟩) nm cm, .slice av nv cv, .slice (some ⟨b3, 0, none⟩) ns cs], .int .i64 sq] w (DocR q M V (dropL S sq) (decide (sq ∈ S)) w) := by
  have hsl := hT.snaps.length
  have hns : ns ≤ 4 := by
    have h1 := (tree_parts htb).2.2.2.2.2.2.1
    unfold snapsB at h1
    rw [Bool.and_eq_true] at h1
    have h2 := of_decide_eq_true h1.1
    omega
  have hnm : nm ≤ 60 := by have h1 := (tree_parts htb).2.2.1; have h2 := hT.mem.1.length; omega
  obtain ⟨A, B, C, hV3⟩ := three_of htb
  have hnv : nv ≤ 100 := by have h1 := hT.levels.length; rw [hV3] at h1; have h2 : ([A, B, C] : List (List RunD)).length = 3 := rfl; omega
  have hlv : ∀ B ∈ V, B.length ≤ 100 ∧ ∀ r ∈ B, 1 ≤ r.1.length ∧ r.1.length ≤ 10000 := by
    have h8 : levelsB V q = true := (tree_parts htb).2.2.2.2.2.2.2.1
    rw [hV3] at h8 ⊢
    unfold levelsB at h8
    simp only [Bool.and_eq_true] at h8
    intro Z hZm
    simp only [List.mem_cons, List.not_mem_nil, or_false] at hZm
    rcases hZm with rfl | rfl | rfl
    · exact runs_small h8.1 (by omega)
    · exact runs_small h8.2.1 (by omega)
    · exact runs_small h8.2.2 (by omega)
  have CO : Hid (∀ w', Below w.heap.size w w' → Calls Tryz.prog 37 #[.agg #[.int .i64 q, .slice (some ⟨b1, 0, none⟩) nm cm, .slice av nv cv, .slice (some ⟨b3, 0, none⟩) ns cs]] w' fun e w'' => e = .returned (.bool true) ∧ Below w'.heap.size w' w'') := fun w' k => by
    have := specTreeOk lo q _ _ _ _ _ _ _ _ _ M V S w' (hT.keep k)
    rw [htb] at this
    exact this
  have CC : Hid (∀ w', Below w.heap.size w w' → Calls Tryz.prog 38 #[.agg #[.int .i64 q, .slice (some ⟨b1, 0, none⟩) nm cm, .slice av nv cv, .slice (some ⟨b3, 0, none⟩) ns cs]] w' fun e w'' => ∃ g1 c1 G c g3 c3, e = .returned (.agg #[.int .i64 q, .slice (some ⟨g1, 0, none⟩) nm c1, .slice (some ⟨G, 0, none⟩) nv c, .slice (some ⟨g3, 0, none⟩) ns c3]) ∧ CopyG w'.heap.size w'' g1 nm c1 G nv c g3 ns c3 M V S ∧ Below w'.heap.size w' w'') := fun w' k => specCopy lo q b1 nm cm av nv cv b3 ns cs M V S w' (hT.keep k) (by omega) (by omega) (by omega) hlv
  obtain ⟨i0, hi, hz0, hz1, hz2⟩ := info_parts Tryz.infoInt
  obtain ⟨X, hX⟩ : ∃ X, X = w.heap.size := ⟨_, rfl⟩
  obtain ⟨W, hW⟩ : ∃ W, W = (w.alloc (.cells #[.int .i64 q, .slice (some ⟨b1, 0, none⟩) nm cm, .slice av nv cv, .slice (some ⟨b3, 0, none⟩) ns cs] 31)).alloc (.cells #[.int .i64 0, .slice none 0 0, .slice none 0 0, .slice none 0 0] 31) := ⟨_, rfl⟩
  have kW : Below w.heap.size w W := by rw [hW]; exact ((Below.refl _ _).alloc (Nat.le_refl _) _).alloc (by simp) _
  have bx : Box4 W X (.int .i64 q) (.slice (some ⟨b1, 0, none⟩) nm cm) (.slice av nv cv) (.slice (some ⟨b3, 0, none⟩) ns cs) := by rw [hW, hX]; exact (Box4.new _ _ _ _ _ _).alloc _
  have br : Box4 W (X + 1) (.int .i64 0) (.slice none 0 0) (.slice none 0 0) (.slice none 0 0) := by
    have := Box4.new (w.alloc (.cells #[.int .i64 q, .slice (some ⟨b1, 0, none⟩) nm cm, .slice av nv cv, .slice (some ⟨b3, 0, none⟩) ns cs] 31)) 31 (.int .i64 0) (.slice none 0 0) (.slice none 0 0) (.slice none 0 0)
    rw [World.size_alloc] at this
    rw [hW, hX]
    exact this
  have HX : Hid (X = w.heap.size) := hX
  have K0 : Hid (Below w.heap.size w W) := kW
  have HIN : Hid (IntsIn lo w (some ⟨b3, 0, none⟩) ns cs S) := hT.snaps
  have HSL : Hid (S.length = ns) := hsl
  have HSW : Hid (∀ z ∈ S, (Lit.int .i64 z).wf = true) := hT.snaps.wfs
  clear hT hsl
  clear kW hlv htb hV3
  go_enter Tryz.func17, Tryz.ntmps17
  go_wp2_with fail
  rw [← hX, ← hW]
  clear hX hW
  refine (CO.out _ K0.out).mono ?_
  rintro e w1 ⟨rfl, hb1⟩
  have K1 : Hid (Below w.heap.size w w1) := K0.out.trans (hb1.mono K0.out.size)
  have bx1 := bx.keep hb1
  have br1 := br.keep hb1
  have x0 := bx1.c0
  have x1 := bx1.c1
  have x2 := bx1.c2
  have x3 := bx1.c3
  have xf := bx1.fz
  have xz := bx1.lt
  clear hb1 bx br
  go_wp2_with fail
  clear x0 x1 x2 x3 xf xz
  refine (CC.out _ K1.out).mono ?_
  rintro e w2 ⟨g1, c1, G, c, g3, c3, rfl, hC2, hb2⟩
  obtain ⟨Y, hY⟩ : ∃ Y, Y = w2.heap.size := ⟨_, rfl⟩
  obtain ⟨w3, hw3⟩ : ∃ w3, w3 = w2.alloc (.cells #[.int .i64 q, .slice (some ⟨g1, 0, none⟩) nm c1, .slice (some ⟨G, 0, none⟩) nv c, .slice (some ⟨g3, 0, none⟩) ns c3] 31) := ⟨_, rfl⟩
  have k3 : Below w2.heap.size w2 w3 := by rw [hw3]; exact (Below.refl _ _).alloc (Nat.le_refl _) _
  have K3 : Hid (Below w.heap.size w w3) := (K1.out.trans (hb2.mono K1.out.size)).trans (k3.mono (Nat.le_trans K1.out.size hb2.size))
  have HC3 : Hid (CopyG w1.heap.size w3 g1 nm c1 G nv c g3 ns c3 M V S) := hC2.below k3
  have bx3 := (bx1.keep hb2).keep k3
  have br3 := (br1.keep hb2).keep k3
  have by3 : Box4 w3 Y (.int .i64 q) (.slice (some ⟨g1, 0, none⟩) nm c1) (.slice (some ⟨G, 0, none⟩) nv c) (.slice (some ⟨g3, 0, none⟩) ns c3) := by rw [hw3, hY]; exact Box4.new _ _ _ _ _ _
  have HXB : Hid (X + 1 < w1.heap.size) := br1.lt
  have HBB : Hid (w.heap.size ≤ w1.heap.size) := K1.out.size
  have HYX : Hid (X < Y ∧ X + 1 < Y) := by rw [hY]; exact ⟨(bx1.keep hb2).lt, (br1.keep hb2).lt⟩
  have HB3 : Hid (BlockOf w3 Y 31 4) := by rw [hw3, hY]; exact ⟨_, (by show (w2.heap.push _)[w2.heap.size]? = _; exact Array.getElem?_push_size), rfl⟩
  have HG3 : Hid (g3 < Y) := by rw [hY]; exact (hC2.sn.lt g3 rfl).2
  clear hb2 k3 hC2 bx1 br1
  go_upto_region 4 with fail
  rw [← hw3]
  try rw [← hY]
  clear hw3 hY
  have y0 := by3.c0
  have y1 := by3.c1
  have y2 := by3.c2
  have y3 := by3.c3
  have yf := by3.fz
  have yz := by3.lt
  obtain ⟨w4, hw4⟩ : ∃ w4, w4 = (w3.setCell ⟨Y, 3, none⟩ (.slice (some ⟨w3.heap.size, 0, none⟩) 0 0)).alloc (.cells #[] 3) := ⟨_, rfl⟩
  obtain ⟨ws, hws⟩ : ∃ ws, ws = w3.setCell ⟨Y, 3, none⟩ (.slice (some ⟨w3.heap.size, 0, none⟩) 0 0) := ⟨_, rfl⟩
  have hsz : ws.heap.size = w3.heap.size := by rw [hws]; simp [World.setCell]
  have ka : Below ws.heap.size ws w4 := by rw [hw4, ← hws]; exact (Below.refl _ _).alloc (Nat.le_refl _) _
  have hbase : w1.heap.size ≤ w3.heap.size := by have h1 := (HC3.out.sn.lt g3 rfl); omega
  have ho4 : w4.ownsRow w1.heap.size 3 1 (.slice (some ⟨w3.heap.size, 0, none⟩) 0 0) 0 [] := by
    refine ⟨rfl, Or.inr ⟨w3.heap.size, 0, #[], rfl, hbase, ?_, Nat.le_refl _, Nat.zero_le _, rfl, rfl⟩⟩
    rw [hw4, ← hws, ← hsz]
    show (ws.heap.push _)[ws.heap.size]? = _
    exact Array.getElem?_push_size
  have ST4 : Hid (DropSt w w4 w1.heap.size X Y (.int .i64 q) (.slice (some ⟨b1, 0, none⟩) nm cm) (.slice av nv cv) (.slice (some ⟨b3, 0, none⟩) ns cs) q g1 nm c1 G nv c w3.heap.size 0 0 M V (dropL (S.take 0) sq)) := by
    have hcs : CopyG w1.heap.size ws g1 nm c1 G nv c g3 ns c3 M V S := by rw [hws]; exact HC3.out.kind HB3.out (by decide) (by decide) (by decide) (by decide) (setg _ _ _ _)
    have hB5 : BlockOf ws Y 31 4 := by rw [hws]; exact HB3.out.setCell _
    have hbx : Box4 ws X (.int .i64 q) (.slice (some ⟨b1, 0, none⟩) nm cm) (.slice av nv cv) (.slice (some ⟨b3, 0, none⟩) ns cs) := by rw [hws]; exact bx3.other (by have := HYX.out; omega) _
    have hbr : Box4 ws (X + 1) (.int .i64 0) (.slice none 0 0) (.slice none 0 0) (.slice none 0 0) := by rw [hws]; exact br3.other (by have := HYX.out; omega) _
    have hby : Box4 ws Y (.int .i64 q) (.slice (some ⟨g1, 0, none⟩) nm c1) (.slice (some ⟨G, 0, none⟩) nv c) (.slice (some ⟨w3.heap.size, 0, none⟩) 0 0) := by rw [hws]; exact by3.set3 _
    have hlow : Below w.heap.size w ws := by rw [hws]; exact K3.out.setCell (p := ⟨Y, 3, none⟩) (by show _ ≤ Y; have := HX.out; have := HYX.out; omega) _
    have hyx := HYX.out
    exact ⟨hlow.trans (ka.mono hlow.size), hbx.keep ka, hbr.keep ka, hby.keep ka, ⟨(hcs.below ka).mem, (hcs.below ka).levs, rfl, (fun z hz => by cases hz), ho4⟩, hB5.below ka, ⟨HXB.out, hyx.2, HBB.out, by have := HX.out; omega⟩⟩
  obtain ⟨g4, hg4⟩ : ∃ g4, g4 = w3.heap.size := ⟨_, rfl⟩
  clear ho4 ka hbase hsz hws
  go_wp2
  rw [← hw4]
  rw [← hg4] at ST4
  clear hw4 hg4 y0 y1 y2 y3 yf yz bx3 br3 by3 HC3 K3 HB3 HG3 HYX CO CC K1 K0
  have HCZ0 : Hid (∀ (k : Nat) (z : Int), S[k]? = some z → ∀ w', Below w.heap.size w w' → w'.cell? ⟨b3, k, none⟩ = some (.int .i64 z) ∧ b3 < w'.heap.size) := fun k z hz w' kk => by
    have hk := (List.getElem?_eq_some_iff.1 hz).1
    have h1 := (HIN.out.keep kk).cells _ rfl k hk
    have h2 := (HIN.out.keep kk).lies _ rfl (by rw [← HSL.out]; omega)
    rw [(List.getElem?_eq_some_iff.1 hz).2] at h1
    simp only [Nat.zero_add] at h1
    exact ⟨h1, h2.1⟩
  go_loopw [7] (fun iv wr => ∃ (k g n4 c4 : Nat), k ≤ ns ∧ iv = .int .i64 k ∧ n4 ≤ k ∧ DropSt w wr w1.heap.size X Y (.int .i64 q) (.slice (some ⟨b1, 0, none⟩) nm cm) (.slice av nv cv) (.slice (some ⟨b3, 0, none⟩) ns cs) q g1 nm c1 G nv c g n4 c4 M V (dropL (S.take k) sq)) (fun iv _ => ns - (intOf iv).toNat)
  case atStart => exact ⟨0, g4, 0, 0, Nat.zero_le _, rfl, Nat.le_refl _, ST4.out⟩
  case round =>
    clear ST4
    obtain ⟨k, g, n4, c4, hk, rfl, hn4, hst⟩ := hrel
    have ST : Hid (DropSt w wr w1.heap.size X Y (.int .i64 q) (.slice (some ⟨b1, 0, none⟩) nm cm) (.slice av nv cv) (.slice (some ⟨b3, 0, none⟩) ns cs) q g1 nm c1 G nv c g n4 c4 M V (dropL (S.take k) sq)) := hst
    clear hst
    by_cases hlt : k < ns
    · have hltI : (k : Int) < (ns : Int) := by omega
      obtain ⟨z, hz⟩ : ∃ z, S[k]? = some z := ⟨_, List.getElem?_eq_getElem (by rw [HSL.out]; exact hlt)⟩
      have HZW : Hid ((Lit.int .i64 z).wf = true) := HSW.out z (List.mem_of_getElem? hz)
      have HCZ : Hid (∀ w', Below w.heap.size w w' → w'.cell? ⟨b3, k, none⟩ = some (.int .i64 z) ∧ b3 < w'.heap.size) := HCZ0.out k z hz
      have x3 := ST.out.bx.c3
      have xz := ST.out.bx.lt
      obtain ⟨bz, bl⟩ := HCZ.out _ ST.out.low
      by_cases hzs : z = sq
      · subst hzs
        have HKS : Hid (DropSt w wr w1.heap.size X Y (.int .i64 q) (.slice (some ⟨b1, 0, none⟩) nm cm) (.slice av nv cv) (.slice (some ⟨b3, 0, none⟩) ns cs) q g1 nm c1 G nv c g n4 c4 M V (dropL (S.take (k + 1)) z)) := by
          show DropSt _ _ _ _ _ _ _ _ _ _ _ _ _ _ _ _ _ _ _ _ _ _
          rw [drop_take hz, if_pos rfl]
          exact ST.out
        clear hz ST
        go_wp2
        go_roundw
        case rel => exact ⟨k + 1, g, n4, c4, by omega, by go_num, by omega, HKS.out⟩
        case measure => simp [intOf]; omega
      · have HDT : Hid (dropL (S.take (k + 1)) sq = dropL (S.take k) sq ++ [z]) := by show _ = _; rw [drop_take hz, if_neg hzs]
        have hzd : decide (z = sq) = false := decide_eq_false hzs
        have hzb : (z == sq) = false := by simpa using hzs
        clear hz
        have k0 := ST.out.below (Below.refl _ wr).drew
        go_wp2_with fail
        clear x3 xz bz bl
        refine wp_region_held_drew (S := (fun w' => w'.cell? ⟨X, 3, none⟩ = some (.slice (some ⟨b3, 0, none⟩) ns cs) ∧ w'.cell? ⟨b3, k, none⟩ = some (.int .i64 z) ∧ X < w'.heap.size ∧ b3 < w'.heap.size ∧ Y < w'.heap.size)) (by kernel_rfl) (⟨k0.bx.c3, (HCZ.out _ k0.low).1, k0.bx.lt, (HCZ.out _ k0.low).2, k0.hy.lt⟩) (fun hHeld => ?_)
        generalize wr.drew = wd at k0 hHeld ⊢
        refine tkL 0 hHeld ?_; try go_frame
        refine tkL 2 hHeld ?_; try go_frame
        refine tkL 3 hHeld ?_; try go_frame
        refine tkL 4 hHeld ?_; try go_frame
        refine tkL 5 hHeld ?_; try go_frame
        refine tkL 6 hHeld ?_; try go_frame
        refine wpAnyH_ready (rs := [1, 7]) (by kernel_rfl) (by simp) ?_
        refine consL rfl (fun K hK => ?_) (consL rfl (fun K hK => ?_) AllReadyH.nil)
        · have q3 := k0.hy.c3
          go_simp
          clear q3
          refine hK.out _ _ (⟨k0.bx.c3, (HCZ.out _ k0.low).1, k0.bx.lt, (HCZ.out _ k0.low).2, k0.hy.lt⟩) (fun hHeld => ?_)
          clear hK K
          try go_frame
          refine wpAnyH_ready (rs := [7]) (by kernel_rfl) (by simp) ?_
          refine consL rfl (fun K hK => ?_) AllReadyH.nil
          go_simp
          have kc : Below wd.heap.size wd (wd.alloc (.cells #[.int .i64 z] 3)) := (Below.refl _ _).alloc (Nat.le_refl _) _
          have kb := k0.below kc
          have hcn := cell_one_new' wd (.int .i64 z) 3
          generalize wd.heap.size = gb at hcn ⊢
          generalize wd.alloc (.cells #[.int .i64 z] 3) = wb at kb hcn ⊢
          refine hK.out _ _ (⟨kb.bx.c3, (HCZ.out _ kb.low).1, kb.bx.lt, (HCZ.out _ kb.low).2, kb.hy.lt⟩) (fun hHeld => ?_)
          clear hK K
          try go_frame
          refine wpAnyH_ready (rs := [8]) (by kernel_rfl) (by simp) ?_
          refine consL rfl (fun K hK => ?_) AllReadyH.nil
          refine step_append_own rfl (.tmp 31) (.tmp 37) 24 rfl w1.heap.size 3 i0 _ 1 8 Tryz.underlying24 hi hz0 hz1 hz2 rfl (by decide) _ _ _ rfl kb.cp.sn ⟨gb, 0, none⟩ 1 1 [Value.int .i64 z] rfl rfl hcn (by simp [Value.oneCell']) ?_ ?_ ?_ ?_
          · unfold maxLen; omega
          · omega
          · have h1 := (kb.cp.sn.lt g rfl); omega
          intro v8 w8 ho8 hg8 hn8
          obtain ⟨g8, c8, rfl⟩ := ownsRow_succ ho8
          have hg8' : wb.grownBy w8 (some g) := hg8
          have hlow8 : Below w.heap.size w w8 := kb.low.grown hg8' kb.low.size (fun k e => by cases e; have h1 := (kb.cp.sn.lt g rfl).1; have h2 := kb.lows; omega)
          refine hK.out _ _ (⟨(kb.bx.grownB hg8' kb.ne.1).c3, (HCZ.out _ hlow8).1, (kb.bx.grownB hg8' kb.ne.1).lt, (HCZ.out _ hlow8).2, (kb.hy.grownB hg8' kb.ne.2.2).lt⟩) (fun hHeld => ?_)
          clear hK K
          try go_frame
          refine tkL 9 hHeld ?_; try go_frame
          refine wpAnyH_ready (rs := [10]) (by kernel_rfl) (by simp) ?_
          refine consL rfl (fun K hK => ?_) AllReadyH.nil
          have by8 := kb.hy.grownB hg8' kb.ne.2.2
          have q3 := by8.c3
          have qf := by8.fz 3
          have qz := by8.lt
          go_simp
          have ks := kb.push hg8' ho8 HZW.out
          clear q3 qf qz by8
          refine hK.out _ _ (⟨ks.bx.c3, (HCZ.out _ ks.low).1, ks.bx.lt, (HCZ.out _ ks.low).2, ks.hy.lt⟩) (fun hHeld => ?_)
          clear hK K
          try go_frame
          refine wpAnyH_done (by kernel_rfl) ?_ _
          have HKS : Hid (DropSt w (w8.setCell ⟨Y, 3, none⟩ (.slice (some ⟨g8, 0, none⟩) (n4 + 1) c8)) w1.heap.size X Y (.int .i64 q) (.slice (some ⟨b1, 0, none⟩) nm cm) (.slice av nv cv) (.slice (some ⟨b3, 0, none⟩) ns cs) q g1 nm c1 G nv c g8 (n4 + 1) c8 M V (dropL (S.take (k + 1)) sq)) := by rw [HDT.out]; exact ks
          generalize w8.setCell ⟨Y, 3, none⟩ (.slice (some ⟨g8, 0, none⟩) (n4 + 1) c8) = w9 at HKS ⊢
          clear ks kb k0 hg8' ho8 hlow8 hcn hHeld
          go_wp2
          go_roundw
          case rel => exact ⟨k + 1, g8, n4 + 1, c8, by omega, by go_num, by omega, HKS.out⟩
          case measure => simp [intOf]; omega
        · go_simp
          have kc : Below wd.heap.size wd (wd.alloc (.cells #[.int .i64 z] 3)) := (Below.refl _ _).alloc (Nat.le_refl _) _
          have kb := k0.below kc
          have hcn := cell_one_new' wd (.int .i64 z) 3
          generalize wd.heap.size = gb at hcn ⊢
          generalize wd.alloc (.cells #[.int .i64 z] 3) = wb at kb hcn ⊢
          refine hK.out _ _ (⟨kb.bx.c3, (HCZ.out _ kb.low).1, kb.bx.lt, (HCZ.out _ kb.low).2, kb.hy.lt⟩) (fun hHeld => ?_)
          clear hK K
          try go_frame
          refine wpAnyH_ready (rs := [1]) (by kernel_rfl) (by simp) ?_
          refine consL rfl (fun K hK => ?_) AllReadyH.nil
          have q3 := kb.hy.c3
          go_simp
          clear q3
          refine hK.out _ _ (⟨kb.bx.c3, (HCZ.out _ kb.low).1, kb.bx.lt, (HCZ.out _ kb.low).2, kb.hy.lt⟩) (fun hHeld => ?_)
          clear hK K
          try go_frame
          refine wpAnyH_ready (rs := [8]) (by kernel_rfl) (by simp) ?_
          refine consL rfl (fun K hK => ?_) AllReadyH.nil
          refine step_append_own rfl (.tmp 31) (.tmp 37) 24 rfl w1.heap.size 3 i0 _ 1 8 Tryz.underlying24 hi hz0 hz1 hz2 rfl (by decide) _ _ _ rfl kb.cp.sn ⟨gb, 0, none⟩ 1 1 [Value.int .i64 z] rfl rfl hcn (by simp [Value.oneCell']) ?_ ?_ ?_ ?_
          · unfold maxLen; omega
          · omega
          · have h1 := (kb.cp.sn.lt g rfl); omega
          intro v8 w8 ho8 hg8 hn8
          obtain ⟨g8, c8, rfl⟩ := ownsRow_succ ho8
          have hg8' : wb.grownBy w8 (some g) := hg8
          have hlow8 : Below w.heap.size w w8 := kb.low.grown hg8' kb.low.size (fun k e => by cases e; have h1 := (kb.cp.sn.lt g rfl).1; have h2 := kb.lows; omega)
          refine hK.out _ _ (⟨(kb.bx.grownB hg8' kb.ne.1).c3, (HCZ.out _ hlow8).1, (kb.bx.grownB hg8' kb.ne.1).lt, (HCZ.out _ hlow8).2, (kb.hy.grownB hg8' kb.ne.2.2).lt⟩) (fun hHeld => ?_)
          clear hK K
          try go_frame
          refine tkL 9 hHeld ?_; try go_frame
          refine wpAnyH_ready (rs := [10]) (by kernel_rfl) (by simp) ?_
          refine consL rfl (fun K hK => ?_) AllReadyH.nil
          have by8 := kb.hy.grownB hg8' kb.ne.2.2
          have q3 := by8.c3
          have qf := by8.fz 3
          have qz := by8.lt
          go_simp
          have ks := kb.push hg8' ho8 HZW.out
          clear q3 qf qz by8
          refine hK.out _ _ (⟨ks.bx.c3, (HCZ.out _ ks.low).1, ks.bx.lt, (HCZ.out _ ks.low).2, ks.hy.lt⟩) (fun hHeld => ?_)
          clear hK K
          try go_frame
          refine wpAnyH_done (by kernel_rfl) ?_ _
          have HKS : Hid (DropSt w (w8.setCell ⟨Y, 3, none⟩ (.slice (some ⟨g8, 0, none⟩) (n4 + 1) c8)) w1.heap.size X Y (.int .i64 q) (.slice (some ⟨b1, 0, none⟩) nm cm) (.slice av nv cv) (.slice (some ⟨b3, 0, none⟩) ns cs) q g1 nm c1 G nv c g8 (n4 + 1) c8 M V (dropL (S.take (k + 1)) sq)) := by rw [HDT.out]; exact ks
          generalize w8.setCell ⟨Y, 3, none⟩ (.slice (some ⟨g8, 0, none⟩) (n4 + 1) c8) = w9 at HKS ⊢
          clear ks kb k0 hg8' ho8 hlow8 hcn hHeld
          go_wp2
          go_roundw
          case rel => exact ⟨k + 1, g8, n4 + 1, c8, by omega, by go_num, by omega, HKS.out⟩
          case measure => simp [intOf]; omega
    · have hltI : ¬ (k : Int) < (ns : Int) := by omega
      have HTK : Hid (S.take k = S) := List.take_of_length_le (by rw [HSL.out]; omega)
      have x3 := ST.out.bx.c3
      have xz := ST.out.bx.lt
      have k0 := ST.out.below (Below.refl _ wr).drew
      go_wp2_with fail
      clear x3 xz
      refine wp_region_held_drew (S := (fun w' => w'.cell? ⟨Y, 0, none⟩ = some (.int .i64 q) ∧ w'.cell? ⟨Y, 1, none⟩ = some (.slice (some ⟨g1, 0, none⟩) nm c1) ∧ w'.cell? ⟨Y, 2, none⟩ = some (.slice (some ⟨G, 0, none⟩) nv c) ∧ w'.cell? ⟨Y, 3, none⟩ = some (.slice (some ⟨g, 0, none⟩) n4 c4) ∧ w'.cell? ⟨X, 3, none⟩ = some (.slice (some ⟨b3, 0, none⟩) ns cs) ∧ X < w'.heap.size ∧ Y < w'.heap.size)) (by kernel_rfl) (⟨k0.hy.c0, k0.hy.c1, k0.hy.c2, k0.hy.c3, k0.bx.c3, k0.bx.lt, k0.hy.lt⟩) (fun hHeld => ?_)
      generalize wr.drew = wd at k0 hHeld ⊢
      refine tkL 0 hHeld ?_; try go_frame
      refine tkL 1 hHeld ?_; try go_frame
      refine tkL 2 hHeld ?_; try go_frame
      refine tkL 3 hHeld ?_; try go_frame
      refine tkL 4 hHeld ?_; try go_frame
      refine tkL 5 hHeld ?_; try go_frame
      refine tkL 6 hHeld ?_; try go_frame
      refine tkL 7 hHeld ?_; try go_frame
      refine wpAnyH_ready (rs := [8]) (by kernel_rfl) (by simp) ?_
      refine consL rfl (fun K hK => ?_) AllReadyH.nil
      have r0 := k0.br.c0
      have r1 := k0.br.c1
      have r2 := k0.br.c2
      have r3 := k0.br.c3
      have rf := k0.br.fz
      have rz := k0.br.lt
      have hxy : X + 1 ≠ Y := by have := k0.lows; omega
      have hxx : X + 1 ≠ X := by omega
      have by4 := (((k0.hy.other (b' := X + 1) (o := 0) hxy (.int .i64 q)).other (b' := X + 1) (o := 1) hxy (.slice (some ⟨g1, 0, none⟩) nm c1)).other (b' := X + 1) (o := 2) hxy (.slice (some ⟨G, 0, none⟩) nv c)).other (b' := X + 1) (o := 3) hxy (.slice (some ⟨g, 0, none⟩) n4 c4)
      have bx4 := (((k0.bx.other (b' := X + 1) (o := 0) hxx (.int .i64 q)).other (b' := X + 1) (o := 1) hxx (.slice (some ⟨g1, 0, none⟩) nm c1)).other (b' := X + 1) (o := 2) hxx (.slice (some ⟨G, 0, none⟩) nv c)).other (b' := X + 1) (o := 3) hxx (.slice (some ⟨g, 0, none⟩) n4 c4)
      go_simp
      clear r0 r1 r2 r3 rf rz
      refine hK.out _ _ (⟨by4.c0, by4.c1, by4.c2, by4.c3, bx4.c3, bx4.lt, by4.lt⟩) (fun hHeld => ?_)
      clear hK K
      try go_frame
      refine tkL 9 hHeld ?_; try go_frame
      refine wpAnyH_done (by kernel_rfl) ?_ _
      clear by4 bx4 hxy hxx hHeld
      go_wp2
      refine bodyPost_ret (v := .tuple #[.agg #[.int .i64 q, .slice (some ⟨g1, 0, none⟩) nm c1, .slice (some ⟨G, 0, none⟩) nv c, .slice (some ⟨g, 0, none⟩) n4 c4], .bool (decide ((n4 : Int) < (ns : Int)))]) ?_ rfl ?_
      · have e := (((k0.br.set0 (.int .i64 q)).set1 (.slice (some ⟨g1, 0, none⟩) nm c1)).set2 (.slice (some ⟨G, 0, none⟩) nv c)).set3 (.slice (some ⟨g, 0, none⟩) n4 c4)
        simp [results, Tryz.results17, go_sem, e.c0, e.c1, e.c2, e.c3]
      · have hl := k0.lows
        have hx : w.heap.size ≤ X + 1 := by omega
        have hc := k0.cp.four (X := X + 1) hl.1 (.int .i64 q) (.slice (some ⟨g1, 0, none⟩) nm c1) (.slice (some ⟨G, 0, none⟩) nv c) (.slice (some ⟨g, 0, none⟩) n4 c4)
        have hn4 := k0.cp.slen
        rw [HTK.out] at hc hn4
        refine docR_copy ?_ hc ((((k0.low.setCell (p := ⟨X + 1, 0, none⟩) hx _).setCell (p := ⟨X + 1, 1, none⟩) hx _).setCell (p := ⟨X + 1, 2, none⟩) hx _).setCell (p := ⟨X + 1, 3, none⟩) hx _)
        rw [← drop_lt, HSL.out, hn4]
        simp
theorem specDropNo (lo : Nat) (q : Int) (am av ak : Option Addr) (nm cm nv cv ns cs : Nat) (M : List EntD) (V : List (List RunD)) (S : List Int) (sq : Int) (w : World) (hT : TreeIn lo w am nm cm av nv cv ak ns cs M V S) (htb : treeB q M V S = false) :
    Calls Tryz.prog 17 #[.agg #[.int .i64 q, .slice am nm cm, .slice av nv cv, .slice ak ns cs], .int .i64 sq] w (NoneR w) := by
  obtain ⟨X, hX⟩ : ∃ X, X = w.heap.size := ⟨_, rfl⟩
  obtain ⟨W, hW⟩ : ∃ W, W = (w.alloc (.cells #[.int .i64 q, .slice am nm cm, .slice av nv cv, .slice ak ns cs] 31)).alloc (.cells #[.int .i64 0, .slice none 0 0, .slice none 0 0, .slice none 0 0] 31) := ⟨_, rfl⟩
  have kW : Below w.heap.size w W := by rw [hW]; exact ((Below.refl _ _).alloc (Nat.le_refl _) _).alloc (by simp) _
  have br : Box4 W (X + 1) (.int .i64 0) (.slice none 0 0) (.slice none 0 0) (.slice none 0 0) := by
    have := Box4.new (w.alloc (.cells #[.int .i64 q, .slice am nm cm, .slice av nv cv, .slice ak ns cs] 31)) 31 (.int .i64 0) (.slice none 0 0) (.slice none 0 0) (.slice none 0 0)
    rw [World.size_alloc] at this
    rw [hW, hX]
    exact this
  have HX : Hid (X = w.heap.size) := hX
  have K0 : Hid (Below w.heap.size w W) := kW
  have CO : Hid (∀ w', Below w.heap.size w w' → Calls Tryz.prog 37 #[.agg #[.int .i64 q, .slice am nm cm, .slice av nv cv, .slice ak ns cs]] w' fun e w'' => e = .returned (.bool false) ∧ Below w'.heap.size w' w'') := fun w' k => by
    have := specTreeOk lo q _ _ _ _ _ _ _ _ _ M V S w' (hT.keep k)
    rw [htb] at this
    exact this
  clear hT kW htb
  go_enter Tryz.func17, Tryz.ntmps17
  go_wp2_with fail
  rw [← hX, ← hW]
  clear hX hW
  refine (CO.out _ K0.out).mono ?_
  rintro e w1 ⟨rfl, hb1⟩
  have K1 : Hid (Below w.heap.size w w1) := K0.out.trans (hb1.mono K0.out.size)
  have br1 := br.keep hb1
  have r0 := br1.c0
  have r1 := br1.c1
  have r2 := br1.c2
  have r3 := br1.c3
  have rf := br1.fz
  have rz := br1.lt
  clear hb1 br
  go_wp2
  refine bodyPost_ret (v := .tuple #[.agg #[.int .i64 0, .slice none 0 0, .slice none 0 0, .slice none 0 0], .bool false]) ?_ rfl ⟨rfl, ?_⟩
  · have e := (((br1.set0 (.int .i64 0)).set1 (.slice none 0 0)).set2 (.slice none 0 0)).set3 (.slice none 0 0)
    simp [results, Tryz.results17, go_sem, e.c0, e.c1, e.c2, e.c3]
  · have hx : w.heap.size ≤ X + 1 := by have := HX.out; omega
    exact (((K1.out.setCell (p := ⟨X + 1, 0, none⟩) hx _).setCell (p := ⟨X + 1, 1, none⟩) hx _).setCell (p := ⟨X + 1, 2, none⟩) hx _).setCell (p := ⟨X + 1, 3, none⟩) hx _
end Go.Proofs.YtlmgojlffgkciaaGreat
