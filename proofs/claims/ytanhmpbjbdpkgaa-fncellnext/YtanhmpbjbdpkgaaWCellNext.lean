/-
  The walk of the law FnCellNext: it answers true at all bytes: what a key has at a time is what it had just ahead of it, and what was done at that time.
-/
import Derived.Test.YtanhmpbjbdpkgaaCellAI
import Derived.Test.YtanhmpbjbdpkgaaCellAS
import Derived.Test.YtanhmpbjbdpkgaaDrawAll
namespace Go.Proofs.Ytanhmpbjbdpkgaa
open Go.RowKit

attribute [local go_sem] Oper.semAt_some

/-- Two boxes of cells, and all below. -/
structure NextSt (w wi : World) (X Y : Nat) (x0 x1 x2 y0 y1 y2 : Value) : Prop where
  low : Below w.heap.size w wi
  bx : Box3 wi X x0 x1 x2
  by' : Box3 wi Y y0 y1 y2
theorem NextSt.below {w wi wj : World} {X Y : Nat} {x0 x1 x2 y0 y1 y2 : Value} (h : NextSt w wi X Y x0 x1 x2 y0 y1 y2) (hb : Below wi.heap.size wi wj) : NextSt w wj X Y x0 x1 x2 y0 y1 y2 :=
  ⟨h.low.trans (hb.mono h.low.size), h.bx.below hb, h.by'.below hb⟩
theorem NextSt.set {w wi : World} {X Y : Nat} {x0 x1 x2 y0 y1 y2 : Value} (h : NextSt w wi X Y x0 x1 x2 y0 y1 y2) (hY : w.heap.size ≤ Y) (hX : X ≠ Y) (u0 u1 u2 : Value) :
    NextSt w (((wi.setCell ⟨Y, 0, none⟩ u0).setCell ⟨Y, 1, none⟩ u1).setCell ⟨Y, 2, none⟩ u2) X Y x0 x1 x2 u0 u1 u2 :=
  ⟨((h.low.setCell (p := ⟨Y, 0, none⟩) hY _).setCell (p := ⟨Y, 1, none⟩) hY _).setCell (p := ⟨Y, 2, none⟩) hY _, ((h.bx.other hX 0 _).other hX 1 _).other hX 2 _, h.by'.setAll _ _ _⟩
set_option maxRecDepth 100000 in
set_option maxHeartbeats 8000000 in
theorem walkFnCellNext (a : Option Addr) (len cap : Nat) (w : World) (h : BytesAt w a len cap) :
    Calls Try.prog 7 #[.slice a len cap] w fun e w' => e = .returned (.bool true) ∧ Below w.heap.size w w' := by
  have H : Hid (BytesAt w a len cap) := h
  have hm := Nat.le_trans h.1 h.2.1
  unfold maxLen at hm
  clear h
  by_cases hbig : 1048576 < len
  · go_enter Try.func7, Try.ntmps7
    go_wp2
    go_ret
    exact ⟨rfl, Below.refl _ _⟩
  go_enter Try.func7, Try.ntmps7
  go_wp2_with fail
  refine (drawAll_any a len cap w H.out).mono ?_
  rintro e w1 ⟨g, n, c, L, key, seq, rfl, hO, hn, hX, hK, hsq, hb1⟩
  have HO : Hid (OwnE w1 w.heap.size g n c L) := hO
  have HB1 : Hid (Below w.heap.size w w1) := hb1
  have HLN : Hid (L.length = n) := hO.len
  have HTX : Hid (∀ e ∈ L, e.2.2.2.1.size ≤ 281474976710656) := few_text hX
  have CI : Hid (∀ w' sq, Below w1.heap.size w1 w' → Calls Try.prog 21 #[.slice (some ⟨g, 0, none⟩) n c, .string key, .int .i64 sq] w' fun e w'' => e = .returned (cellV (cellL L key sq)) ∧ Below w'.heap.size w' w'') := fun w' sq k => implCellAll _ _ _ L key sq w' (HO.out.entsAt.keep k) (by omega) (by have := find_len L key sq; rw [HLN.out] at this; omega) HTX.out
  have CS : Hid (∀ w' sq, Below w1.heap.size w1 w' → Calls Try.prog 20 #[.slice (some ⟨g, 0, none⟩) n c, .string key, .int .i64 sq] w' fun e w'' => e = .returned (cellV (cellL L key sq)) ∧ Below w'.heap.size w' w'') := fun w' sq k => specCellAll _ _ _ L key sq w' (HO.out.entsAt.keep k) (by omega)
  have hmc := hO.entsAt.room
  have hcb := hO.entsAt.big
  unfold maxLen at hcb
  have hs1 : IntKind.i64.wrap (seq - 1) = seq - 1 := by rw [IntWalk.i64_left]; unfold wrap64; omega
  obtain ⟨x, hx⟩ : ∃ x, x = cellL L key seq := ⟨_, rfl⟩
  obtain ⟨y, hy⟩ : ∃ y, y = cellL L key (seq - 1) := ⟨_, rfl⟩
  have HXC : Hid (x = (atL L key seq).foldl doC y) := by rw [hx, hy]; exact cell_next L key seq
  have HYS : Hid (y.2.1.size ≤ 281474976710656) := by rw [hy]; exact cellL_size HTX.out
  have CIX : Hid (∀ w', Below w1.heap.size w1 w' → Calls Try.prog 21 #[.slice (some ⟨g, 0, none⟩) n c, .string key, .int .i64 seq] w' fun e w'' => e = .returned (cellV x) ∧ Below w'.heap.size w' w'') := by rw [hx]; exact fun w' k => CI.out w' seq k
  have CSX : Hid (∀ w', Below w1.heap.size w1 w' → Calls Try.prog 20 #[.slice (some ⟨g, 0, none⟩) n c, .string key, .int .i64 seq] w' fun e w'' => e = .returned (cellV x) ∧ Below w'.heap.size w' w'') := by rw [hx]; exact fun w' k => CS.out w' seq k
  have CIY : Hid (∀ w', Below w1.heap.size w1 w' → Calls Try.prog 21 #[.slice (some ⟨g, 0, none⟩) n c, .string key, .int .i64 (seq - 1)] w' fun e w'' => e = .returned (cellV y) ∧ Below w'.heap.size w' w'') := by rw [hy]; exact fun w' k => CI.out w' (seq - 1) k
  clear hO hX hK hb1 H CI CS hx hy
  obtain ⟨xb, xt, xn⟩ := x
  obtain ⟨yb, yt, yn⟩ := y
  unfold cellV at CIX CSX CIY
  simp only at CIX CSX CIY
  go_wp2_with fail
  refine (CIX.out _ (Below.refl _ _)).mono ?_
  rintro e w2 ⟨rfl, hb2⟩
  obtain ⟨X, hXX⟩ : ∃ X, X = w2.heap.size := ⟨_, rfl⟩
  obtain ⟨W, hW⟩ : ∃ W, W = w2.alloc (.cells #[.bool xb, .string xt, .int .i64 xn] 35) := ⟨_, rfl⟩
  have kW : Below w2.heap.size w2 W := by rw [hW]; exact (Below.refl _ _).alloc (Nat.le_refl _) _
  have HBX : Hid (Box3 W X (.bool xb) (.string xt) (.int .i64 xn)) := by rw [hW, hXX]; exact Box3.new _ _ _ _ _
  have HKW : Hid (Below w1.heap.size w1 W) := hb2.trans (kW.mono hb2.size)
  clear CIX kW hb2
  go_upto_region 5 with fail
  rw [← hW, ← hXX]
  clear hW hXX
  have hne := neq_cell_same xb xt xn
  have k0 : Below W.heap.size W W.drew := (Below.refl _ W).drew
  have HMK : Hid (∀ w', Below W.heap.size W w' → (w'.cell? ⟨X, 0, none⟩ = some (.bool xb) ∧ w'.cell? ⟨X, 1, none⟩ = some (.string xt) ∧ w'.cell? ⟨X, 2, none⟩ = some (.int .i64 xn) ∧ X < w'.heap.size)) := fun w' k => ⟨cell_later k HBX.out.c0, cell_later k HBX.out.c1, cell_later k HBX.out.c2, Nat.lt_of_lt_of_le HBX.out.lt k.size⟩
  go_region_held3 (fun w' => w'.cell? ⟨X, 0, none⟩ = some (.bool xb) ∧ w'.cell? ⟨X, 1, none⟩ = some (.string xt) ∧ w'.cell? ⟨X, 2, none⟩ = some (.int .i64 xn) ∧ X < w'.heap.size) (first | with_reducible exact HMK.out _ k3 | with_reducible exact HMK.out _ k0) (first
    | (go_at_call 20; with_reducible refine (CSX.out _ (HKW.out.trans (k0.mono HKW.out.size))).mono ?_; rintro e w3 ⟨rfl, hb3⟩; have k3 : Below W.heap.size W w3 := k0.trans (hb3.mono k0.size)))
  have HK3 : Hid (Below w1.heap.size w1 w3) := HKW.out.trans (k3.mono HKW.out.size)
  have HBX3 : Hid (Box3 w3 X (.bool xb) (.string xt) (.int .i64 xn)) := HBX.out.below k3
  clear CSX HMK k0 k3 hb3 HBX hne
  go_wp2_with fail
  with_reducible refine (CIY.out _ HK3.out).mono ?_
  rintro e w4 ⟨rfl, hb4⟩
  obtain ⟨Y, hYY⟩ : ∃ Y, Y = w4.heap.size := ⟨_, rfl⟩
  obtain ⟨V, hV⟩ : ∃ V, V = w4.alloc (.cells #[.bool yb, .string yt, .int .i64 yn] 35) := ⟨_, rfl⟩
  have kV : Below w4.heap.size w4 V := by rw [hV]; exact (Below.refl _ _).alloc (Nat.le_refl _) _
  have HNS : Hid (NextSt w1 V X Y (.bool xb) (.string xt) (.int .i64 xn) (.bool yb) (.string yt) (.int .i64 yn)) := ⟨(HK3.out.trans (hb4.mono HK3.out.size)).trans (kV.mono (Nat.le_trans HK3.out.size hb4.size)), (HBX3.out.below hb4).below kV, by rw [hV, hYY]; exact Box3.new _ _ _ _ _⟩
  have HYW : Hid (w1.heap.size ≤ Y) := by rw [hYY]; exact Nat.le_trans HK3.out.size hb4.size
  have HXY : Hid (X ≠ Y) := by have := HBX3.out.lt; have := hb4.size; show X ≠ Y; omega
  clear CIY kV hb4
  go_wp2
  rw [← hV, ← hYY]
  clear hV hYY HBX3 HK3
  go_loopw [8] (fun iv wr => ∃ (k : Nat) (cc : CellD), k ≤ n ∧ iv = .int .i64 k ∧ cc = (atL (L.take k) key seq).foldl doC (yb, yt, yn) ∧ NextSt w1 wr X Y (.bool xb) (.string xt) (.int .i64 xn) (.bool cc.1) (.string cc.2.1) (.int .i64 cc.2.2) ∧ cc.2.1.size ≤ 281474976710656) (fun iv _ => n - (intOf iv).toNat)
  case atStart => exact ⟨0, (yb, yt, yn), Nat.zero_le _, rfl, rfl, HNS.out, HYS.out⟩
  case round =>
    obtain ⟨k, cc, hk, rfl, hcc, hst, hcs⟩ := hrel
    have HCC : Hid (cc = (atL (L.take k) key seq).foldl doC (yb, yt, yn)) := hcc
    have HS : Hid (NextSt w1 wr X Y (.bool xb) (.string xt) (.int .i64 xn) (.bool cc.1) (.string cc.2.1) (.int .i64 cc.2.2)) := hst
    have HCS : Hid (cc.2.1.size ≤ 281474976710656) := hcs
    clear hcc hst hcs HNS
    by_cases hlt : k < n
    · obtain ⟨s, q, d, t, nn, hg, hlw, g0, g1, g2, g3, g4⟩ := HO.out.entsAt.ent HS.out.low HO.out.lt.2 k hlt
      have HG : Hid (L[k]? = some (s, q, d, t, nn)) := hg
      simp only [Nat.zero_add] at g0 g1 g2 g3 g4
      have hgr : g < wr.heap.size := Nat.lt_of_lt_of_le HO.out.lt.2 HS.out.low.size
      clear hg hlw
      by_cases hks : s = key
      · by_cases hq : q = seq
        · have HAT : Hid (atL (L.take (k + 1)) key seq = atL (L.take k) key seq ++ [(s, q, d, t, nn)]) := at_take_yes HG.out hks hq
          have HMS : Hid (∀ w', Below w1.heap.size w1 w' → (w'.cell? ⟨g, k * 5, none⟩ = some (.string s) ∧ w'.cell? ⟨g, k * 5 + 1, none⟩ = some (.int .i64 q) ∧ w'.cell? ⟨g, k * 5 + 2, none⟩ = some (.int .i64 d) ∧ w'.cell? ⟨g, k * 5 + 3, none⟩ = some (.string t) ∧ w'.cell? ⟨g, k * 5 + 4, none⟩ = some (.int .i64 nn) ∧ g < w'.heap.size)) := fun w' kb => by
            obtain ⟨s', q', d', t', n', hg', _, e0, e1, e2, e3, e4⟩ := HO.out.entsAt.ent kb HO.out.lt.2 k hlt
            rw [HG.out] at hg'
            cases hg'
            simp only [Nat.zero_add] at e0 e1 e2 e3 e4
            exact ⟨e0, e1, e2, e3, e4, Nat.lt_of_lt_of_le HO.out.lt.2 kb.size⟩
          obtain ⟨dc, hdc⟩ : ∃ dc, dc = cellN cc.1 cc.2.1 cc.2.2 d t nn := ⟨_, rfl⟩
          have hts : t.size ≤ 281474976710656 := HTX.out _ (List.mem_of_getElem? HG.out)
          have hdo : ∀ w, Calls Try.prog 29 #[.agg #[.bool cc.1, .string cc.2.1, .int .i64 cc.2.2], .agg #[.string s, .int .i64 q, .int .i64 d, .string t, .int .i64 nn]] w fun e w' => e = .returned (cellV dc) ∧ Below w.heap.size w w' := by rw [hdc]; exact fun w => implCell cc.1 cc.2.1 s t cc.2.2 q d nn w HCS.out hts
          have HDC : Hid (dc = (atL (L.take (k + 1)) key seq).foldl doC (yb, yt, yn)) := by
            show dc = _
            rw [HAT.out, List.foldl_append, ← HCC.out, hdc]
            rfl
          have HDS : Hid (dc.2.1.size ≤ 281474976710656) := by rw [hdc]; exact cellN_size HCS.out hts
          have k0 : NextSt w1 wr.drew X Y (.bool xb) (.string xt) (.int .i64 xn) (.bool cc.1) (.string cc.2.1) (.int .i64 cc.2.2) := HS.out.below (Below.refl _ _).drew
          subst hks
          subst hq
          clear hdc HS HCC HAT hts
          go_upto_region 12 with fail
          refine wp_region_held_drew (S := (fun w' => w'.cell? ⟨g, k * 5, none⟩ = some (.string s) ∧ w'.cell? ⟨g, k * 5 + 1, none⟩ = some (.int .i64 q) ∧ w'.cell? ⟨g, k * 5 + 2, none⟩ = some (.int .i64 d) ∧ w'.cell? ⟨g, k * 5 + 3, none⟩ = some (.string t) ∧ w'.cell? ⟨g, k * 5 + 4, none⟩ = some (.int .i64 nn) ∧ g < w'.heap.size)) (by kernel_rfl) (HMS.out _ k0.low) (fun hHeld => ?_)
          generalize wr.drew = wd at k0 hHeld ⊢
          refine wpAnyH_takeL (i := 1) (v := ?_) rfl (by kernel_rfl) (by kernel_rfl) (by kernel_rfl) (fun _ _ _ h => h) (Or.inl ⟨by rfl, ?_⟩) hHeld ?_
          rotate_left
          · (intro w hSw; (try dsimp only at hSw); go_simp; try with_reducible rfl)
          try go_frame
          refine wpAnyH_takeL (i := 2) (v := ?_) rfl (by kernel_rfl) (by kernel_rfl) (by kernel_rfl) (fun _ _ _ h => h) (Or.inl ⟨by rfl, ?_⟩) hHeld ?_
          rotate_left
          · (intro w hSw; (try dsimp only at hSw); go_simp; try with_reducible rfl)
          try go_frame
          refine wpAnyH_takeL (i := 3) (v := ?_) rfl (by kernel_rfl) (by kernel_rfl) (by kernel_rfl) (fun _ _ _ h => h) (Or.inl ⟨by rfl, ?_⟩) hHeld ?_
          rotate_left
          · (intro w hSw; (try dsimp only at hSw); go_simp; try with_reducible rfl)
          try go_frame
          refine wpAnyH_takeL (i := 4) (v := ?_) rfl (by kernel_rfl) (by kernel_rfl) (by kernel_rfl) (fun _ _ _ h => h) (Or.inl ⟨by rfl, ?_⟩) hHeld ?_
          rotate_left
          · (intro w hSw; (try dsimp only at hSw); go_simp; try with_reducible rfl)
          try go_frame
          refine wpAnyH_ready (rs := [0]) (by kernel_rfl) (by simp) ?_
          refine consL rfl (fun K hK => ?_) AllReadyH.nil
          have c0 := k0.by'.c0
          have c1 := k0.by'.c1
          have c2 := k0.by'.c2
          have cl := k0.by'.lt
          go_simp
          clear c0 c1 c2 cl
          refine hK.out _ _ (HMS.out _ k0.low) (fun hHeld => ?_)
          clear hK K
          try go_frame
          refine wpAnyH_ready (rs := [5]) (by kernel_rfl) (by simp) ?_
          refine consL rfl (fun K hK => ?_) AllReadyH.nil
          go_simp
          refine (hdo _).mono ?_
          rintro e w1' ⟨rfl, b1⟩
          have k1 := k0.below b1
          unfold cellV
          go_wp2_with fail
          refine hK.out _ _ (HMS.out _ k1.low) (fun hHeld => ?_)
          clear hK K
          try go_frame
          refine wpAnyH_ready (rs := [6]) (by kernel_rfl) (by simp) ?_
          refine consL rfl (fun K hK => ?_) AllReadyH.nil
          have c0 := k1.by'.c0
          have c1 := k1.by'.c1
          have c2 := k1.by'.c2
          have cl := k1.by'.lt
          have f0 := k1.by'.fr 0
          have f1 := k1.by'.fr 1
          have f2 := k1.by'.fr 2
          go_simp
          have k2 := k1.set HYW.out HXY.out (.bool dc.1) (.string dc.2.1) (.int .i64 dc.2.2)
          clear c0 c1 c2 cl f0 f1 f2
          refine hK.out _ _ (HMS.out _ k2.low) (fun hHeld => ?_)
          clear hK K
          try go_frame
          refine wpAnyH_done (by kernel_rfl) ?_ _
          have HK : Hid (NextSt w1 _ X Y (.bool xb) (.string xt) (.int .i64 xn) (.bool dc.1) (.string dc.2.1) (.int .i64 dc.2.2)) := k2
          clear hdo hHeld
          go_wp2
          go_roundw
          case rel => exact ⟨k + 1, dc, by omega, by go_num, HDC.out, HK.out, HDS.out⟩
          case measure => simp [intOf]; omega
        · have HAT : Hid (atL (L.take (k + 1)) key seq = atL (L.take k) key seq) := at_take_no HG.out (fun h => hq h.2)
          have hqb : (q == seq) = false := by simpa using hq
          subst hks
          go_wp2
          go_roundw
          case rel => exact ⟨k + 1, cc, by omega, by go_num, by rw [HAT.out]; exact HCC.out, HS.out, HCS.out⟩
          case measure => simp [intOf]; omega
      · have HAT : Hid (atL (L.take (k + 1)) key seq = atL (L.take k) key seq) := at_take_no HG.out (fun h => hks h.1)
        have hne : ¬ s.toList = key.toList := by
          rw [ByteArray.toList_eq, ByteArray.toList_eq]
          intro h
          exact hks (ByteArray.ext (Array.toList_inj.1 h))
        have hne' : (s.toList == key.toList) = false := by simpa using hne
        clear hks
        go_wp2
        go_roundw
        case rel => exact ⟨k + 1, cc, by omega, by go_num, by rw [HAT.out]; exact HCC.out, HS.out, HCS.out⟩
        case measure => simp [intOf]; omega
    · have HE : Hid (cc = (xb, xt, xn)) := by
        show cc = _
        rw [HCC.out, List.take_of_length_le (by rw [HLN.out]; omega)]
        exact HXC.out.symm
      have he := HE.out
      subst he
      have c0 := HS.out.bx.c0
      have c1 := HS.out.bx.c1
      have c2 := HS.out.bx.c2
      have cl := HS.out.bx.lt
      have d0 := HS.out.by'.c0
      have d1 := HS.out.by'.c1
      have d2 := HS.out.by'.c2
      have dl := HS.out.by'.lt
      simp only at d0 d1 d2
      have heq := eql_cell_same xb xt xn
      go_wp2
      go_ret
      exact ⟨rfl, HB1.out.trans (HS.out.low.mono HB1.out.size)⟩
end Go.Proofs.Ytanhmpbjbdpkgaa
