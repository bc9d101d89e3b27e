/-
  The document's l5Write: what it makes of a tree and a list of entries, by a walk of its Go text.
-/
import Derived.Test.YtlmgojlffgkciaaGreatGaXStS
import Derived.Test.YtlmgojlffgkciaaGreatGa19
import Derived.Test.YtlmgojlffgkciaaGreatGa20
import Derived.Test.YtlmgojlffgkciaaGreatGaXStabW
namespace Go.Proofs.YtlmgojlffgkciaaGreat
open Go.RowKit
set_option maxRecDepth 100000
set_option maxHeartbeats 8000000
def DocRL (lo : Nat) (q : Int) (M : List EntD) (V : List (List RunD)) (S : List Int) (ok : Bool) (w : World) (e : Ending) (w' : World) : Prop :=
  ∃ am nm cm av nv cv ak ns cs, e = .returned (.tuple #[.agg #[.int .i64 q, .slice am nm cm, .slice av nv cv, .slice ak ns cs], .bool ok]) ∧ TreeIn lo w' am nm cm av nv cv ak ns cs M V S ∧ Below w.heap.size w w'
def WrD (lo : Nat) (q : Int) (M K : List EntD) (V : List (List RunD)) (S : List Int) (w : World) (e : Ending) (w' : World) : Prop :=
  (writeO q M K = true → DocRL lo (q + K.length) ((stL q K).foldl putE M) V S true w e w') ∧ (writeO q M K = false → DocRL lo q M V S false w e w')
theorem stampS_got {q : Int} {K : List EntD} {n : Nat} {w w' : World} {e : Ending} (h : StampS q K n w e w') : ((stampB q K = true ∧ 1 ≤ n ∧ n ≤ 12 ∧ ∃ g c, e = .returned (.tuple #[.slice (some ⟨g, 0, none⟩) n c, .bool true]) ∧ OwnE w' w.heap.size g n c (stL q K)) ∨ ((stampB q K = false ∨ n = 0 ∨ 12 < n) ∧ ∃ a m c, e = .returned (.tuple #[.slice a m c, .bool false]))) ∧ Below w.heap.size w w' := by
  obtain ⟨v, ok, he, h1, h2, h3⟩ := h
  refine ⟨?_, h3⟩
  cases hs : stampB q K with
  | true =>
    obtain ⟨⟨g, c, rfl, h4⟩, rfl⟩ := h1 hs
    by_cases hn : 1 ≤ n ∧ n ≤ 12
    · exact .inl ⟨rfl, hn.1, hn.2, g, c, by rw [he]; simp [hn.1, hn.2], h4⟩
    · refine .inr ⟨.inr (by omega), some ⟨g, 0, none⟩, n, c, ?_⟩
      rw [he, show (decide (1 ≤ n) && decide (n ≤ 12)) = false by simp; omega]
  | false =>
    obtain ⟨rfl, a, m, c, rfl⟩ := h2 hs
    exact .inr ⟨.inl rfl, a, m, c, he⟩
theorem fold_snoc (M : List EntD) {D : List EntD} {i : Nat} {e : EntD} (h : D[i]? = some e) : (D.take (i + 1)).foldl putE M = putE ((D.take i).foldl putE M) e := by
  rw [List.take_add_one, h]
  simp
structure WSt (lo : Nat) (w wr : World) (X gd nb cd : Nat) (D : List EntD) (q : Int) (g n c : Nat) (L : List EntD) (u2 u3 : Value) : Prop where
  low : Below w.heap.size w wr
  bx : Box4 wr X (.int .i64 q) (.slice (some ⟨g, 0, none⟩) n c) u2 u3
  br : Box4 wr (X + 1) (.int .i64 0) (.slice none 0 0) (.slice none 0 0) (.slice none 0 0)
  mem : OwnE wr lo g n c L
  dn : OwnE wr 0 gd nb cd D
  ne : g ≠ X ∧ g ≠ X + 1 ∧ gd ≠ X ∧ gd ≠ X + 1
  hx : w.heap.size ≤ X
  hlo : lo ≤ w.heap.size
theorem WSt.below {lo : Nat} {w wr ws : World} {X gd nb cd : Nat} {D : List EntD} {q : Int} {g n c : Nat} {L : List EntD} {u2 u3 : Value} (h : WSt lo w wr X gd nb cd D q g n c L u2 u3) (hb : Below wr.heap.size wr ws) : WSt lo w ws X gd nb cd D q g n c L u2 u3 :=
  ⟨h.low.trans (hb.mono h.low.size), h.bx.keep hb, h.br.keep hb, h.mem.below hb, h.dn.below hb, h.ne, h.hx, h.hlo⟩
theorem WSt.held {lo : Nat} {w wr : World} {X gd nb cd : Nat} {D : List EntD} {q : Int} {g n c : Nat} {L : List EntD} {u2 u3 : Value} {i : Nat} {s t : ByteArray} {q0 d m : Int} (h : WSt lo w wr X gd nb cd D q g n c L u2 u3) (hg : D[i]? = some (s, q0, d, t, m)) : wr.cell? ⟨gd, i * 5, none⟩ = some (.string s) ∧ wr.cell? ⟨gd, i * 5 + 1, none⟩ = some (.int .i64 q0) ∧ wr.cell? ⟨gd, i * 5 + 2, none⟩ = some (.int .i64 d) ∧ wr.cell? ⟨gd, i * 5 + 3, none⟩ = some (.string t) ∧ wr.cell? ⟨gd, i * 5 + 4, none⟩ = some (.int .i64 m) ∧ gd < wr.heap.size ∧ X < wr.heap.size := by
  obtain ⟨c0, c1, c2, c3, c4⟩ := h.dn.at5 hg
  exact ⟨c0, c1, c2, c3, c4, h.dn.lt.2, h.bx.lt⟩
theorem WSt.put {lo : Nat} {w wr : World} {X gd nb cd : Nat} {D : List EntD} {q : Int} {g n c : Nat} {L : List EntD} {u2 u3 : Value} {base g2 n2 c2 : Nat} {L2 : List EntD} (h : WSt lo w wr X gd nb cd D q g n c L u2 u3) (hO : OwnE wr base g2 n2 c2 L2) (hb : X + 1 < base) : WSt lo w (wr.setCell ⟨X, 1, none⟩ (.slice (some ⟨g2, 0, none⟩) n2 c2)) X gd nb cd D q g2 n2 c2 L2 u2 u3 := by
  have hl := hO.lt.1
  exact ⟨h.low.setCell (p := ⟨X, 1, none⟩) h.hx _, h.bx.set1 _, h.br.other (by omega) _, (hO.mono (by have := h.hx; have := h.hlo; omega)).setCell (p := ⟨X, 1, none⟩) (by show X ≠ g2; omega) _, h.dn.setCell (p := ⟨X, 1, none⟩) (fun e => h.ne.2.2.1 e.symm) _, ⟨by omega, by omega, h.ne.2.2.1, h.ne.2.2.2⟩, h.hx, h.hlo⟩
theorem specWrite5 (lo : Nat) (q : Int) (g1 nm c1 : Nat) (av : Option Addr) (nv cv : Nat) (ak : Option Addr) (ns cs : Nat) (M : List EntD) (V : List (List RunD)) (S : List Int) (ab : Option Addr) (nb cb : Nat) (K : List EntD) (w : World) (hT : TreeIn lo w (some ⟨g1, 0, none⟩) nm c1 av nv cv ak ns cs M V S) (hlo : lo ≤ w.heap.size) (hO : OwnE w lo g1 nm c1 M) (hK : EntsAt w ab nb cb K) (hnb : nb ≤ 1048576) (hnm : nm ≤ 60) (hq0 : 0 ≤ q) (hq1 : q ≤ 100000) :
    Calls Tryz.prog 56 #[.agg #[.int .i64 q, .slice (some ⟨g1, 0, none⟩) nm c1, .slice av nv cv, .slice ak ns cs], .slice ab nb cb] w (WrD lo q M K V S w) := by
  obtain ⟨X, hX⟩ : ∃ X, X = w.heap.size := ⟨_, rfl⟩
  obtain ⟨W, hW⟩ : ∃ W, W = (w.alloc (.cells #[.int .i64 q, .slice (some ⟨g1, 0, none⟩) nm c1, .slice av nv cv, .slice ak ns cs] 31)).alloc (.cells #[.int .i64 0, .slice none 0 0, .slice none 0 0, .slice none 0 0] 31) := ⟨_, rfl⟩
  have kW : Below w.heap.size w W := by rw [hW]; exact ((Below.refl _ _).alloc (Nat.le_refl _) _).alloc (by simp) _
  have bx : Box4 W X (.int .i64 q) (.slice (some ⟨g1, 0, none⟩) nm c1) (.slice av nv cv) (.slice ak ns cs) := by rw [hW, hX]; exact (Box4.new _ _ _ _ _ _).alloc _
  have br : Box4 W (X + 1) (.int .i64 0) (.slice none 0 0) (.slice none 0 0) (.slice none 0 0) := by
    have := Box4.new (w.alloc (.cells #[.int .i64 q, .slice (some ⟨g1, 0, none⟩) nm c1, .slice av nv cv, .slice ak ns cs] 31)) 31 (.int .i64 0) (.slice none 0 0) (.slice none 0 0) (.slice none 0 0)
    rw [World.size_alloc] at this
    rw [hW, hX]
    exact this
  have HX : Hid (X = w.heap.size) := hX
  have HSZ : Hid (W.heap.size = X + 1 + 1) := by show _ = _; rw [hW, hX]; simp
  have K0 : Hid (Below w.heap.size w W) := kW
  have HT : Hid (TreeIn lo w (some ⟨g1, 0, none⟩) nm c1 av nv cv ak ns cs M V S) := hT
  have HKL : Hid (K.length = nb) := hK.length
  have HML : Hid (M.length = nm) := hO.len
  have HOM : Hid (OwnE w lo g1 nm c1 M) := hO
  have CT : Hid (Calls Tryz.prog 93 #[.slice ab nb cb, .int .i64 q] W (StampS q K nb W)) := specStamp ab nb cb K q W (hK.keep kW) hnb hq0 hq1
  clear kW hT hK hO
  have e1 : IntKind.i64.wrap ((nm : Int) + (nb : Int)) = (nm : Int) + (nb : Int) := by rw [IntWalk.i64_left]; unfold wrap64; omega
  have e2 : IntKind.i64.wrap (q + (nb : Int)) = q + (nb : Int) := by rw [IntWalk.i64_left]; unfold wrap64; omega
  go_enter Tryz.func56, Tryz.ntmps56
  go_upto_region 1 with fail
  rw [← hX, ← hW]
  clear hX hW
  have x0 := bx.c0
  have x1 := bx.c1
  have x2 := bx.c2
  have x3 := bx.c3
  have xf := bx.fz
  have xz := bx.lt
  go_wp2_with fail
  clear x0 x1 x2 x3 xf xz
  refine CT.out.mono ?_
  rintro e w1 hst
  obtain ⟨hst, hb1⟩ := stampS_got hst
  have K1 : Hid (Below w.heap.size w w1) := K0.out.trans (hb1.mono K0.out.size)
  have KW1 : Hid (Below W.heap.size W w1) := hb1
  have bx1 := bx.keep hb1
  have br1 := br.keep hb1
  clear hb1 bx br CT
  rcases hst with ⟨hsB, hn1, hn12, gd, cd, rfl, hD⟩ | ⟨hno, ad, md, cd, rfl⟩
  rotate_left
  · have HNO : Hid (writeO q M K = false) := by
      show _ = _
      have := HKL.out
      unfold writeO
      rcases hno with h | h | h
      · rw [h]; simp
      · simp [show ¬ 1 ≤ K.length by omega]
      · simp [show ¬ K.length ≤ 12 by omega]
    have HR : Hid (Box4 w1 (X + 1) (.int .i64 0) (.slice none 0 0) (.slice none 0 0) (.slice none 0 0)) := br1
    have x0 := bx1.c0
    have x1 := bx1.c1
    have x2 := bx1.c2
    have x3 := bx1.c3
    have xf := bx1.fz
    have xz := bx1.lt
    have r0 := br1.c0
    have r1 := br1.c1
    have r2 := br1.c2
    have r3 := br1.c3
    have rf := br1.fz
    have rz := br1.lt
    clear bx1 br1
    go_wp2
    refine bodyPost_ret (v := .tuple #[.agg #[.int .i64 q, .slice (some ⟨g1, 0, none⟩) nm c1, .slice av nv cv, .slice ak ns cs], .bool false]) ?_ rfl (show WrD lo q M K V S w _ _ from ⟨(fun h => by rw [HNO.out] at h; cases h), fun _ => ⟨_, _, _, _, _, _, _, _, _, rfl, ?_, ?_⟩⟩)
    · have e := ((((HR.out.set0 (.int .i64 q)).set1 (.slice (some ⟨g1, 0, none⟩) nm c1)).set2 (.slice av nv cv)).set3 (.slice ak ns cs))
      simp [results, Tryz.results56, go_sem, e.c0, e.c1, e.c2, e.c3]
    · have hx : w.heap.size ≤ X + 1 := by have := HX.out; omega
      exact HT.out.keep ((((K1.out.setCell (p := ⟨X + 1, 0, none⟩) hx _).setCell (p := ⟨X + 1, 1, none⟩) hx _).setCell (p := ⟨X + 1, 2, none⟩) hx _).setCell (p := ⟨X + 1, 3, none⟩) hx _)
    · have hx : w.heap.size ≤ X + 1 := by have := HX.out; omega
      exact ((((K1.out.setCell (p := ⟨X + 1, 0, none⟩) hx _).setCell (p := ⟨X + 1, 1, none⟩) hx _).setCell (p := ⟨X + 1, 2, none⟩) hx _).setCell (p := ⟨X + 1, 3, none⟩) hx _)
  have HD : Hid (OwnE w1 W.heap.size gd nb cd (stL q K)) := hD
  have HSB : Hid (stampB q K = true) := hsB
  clear hD hsB
  by_cases h60 : 60 < nm + nb
  · have h60I : (nm : Int) + (nb : Int) > 60 := by omega
    have h60J : (60 : Int) < (nm : Int) + (nb : Int) := by omega
    have HNO : Hid (writeO q M K = false) := by show _ = _; have := HKL.out; have := HML.out; unfold writeO; simp [show ¬ M.length + K.length ≤ 60 by omega]
    have HR : Hid (Box4 w1 (X + 1) (.int .i64 0) (.slice none 0 0) (.slice none 0 0) (.slice none 0 0)) := br1
    have x0 := bx1.c0
    have x1 := bx1.c1
    have x2 := bx1.c2
    have x3 := bx1.c3
    have xf := bx1.fz
    have xz := bx1.lt
    have r0 := br1.c0
    have r1 := br1.c1
    have r2 := br1.c2
    have r3 := br1.c3
    have rf := br1.fz
    have rz := br1.lt
    clear bx1 br1
    go_wp2
    refine bodyPost_ret (v := .tuple #[.agg #[.int .i64 q, .slice (some ⟨g1, 0, none⟩) nm c1, .slice av nv cv, .slice ak ns cs], .bool false]) ?_ rfl (show WrD lo q M K V S w _ _ from ⟨(fun h => by rw [HNO.out] at h; cases h), fun _ => ⟨_, _, _, _, _, _, _, _, _, rfl, ?_, ?_⟩⟩)
    · have e := ((((HR.out.set0 (.int .i64 q)).set1 (.slice (some ⟨g1, 0, none⟩) nm c1)).set2 (.slice av nv cv)).set3 (.slice ak ns cs))
      simp [results, Tryz.results56, go_sem, e.c0, e.c1, e.c2, e.c3]
    · have hx : w.heap.size ≤ X + 1 := by have := HX.out; omega
      exact HT.out.keep ((((K1.out.setCell (p := ⟨X + 1, 0, none⟩) hx _).setCell (p := ⟨X + 1, 1, none⟩) hx _).setCell (p := ⟨X + 1, 2, none⟩) hx _).setCell (p := ⟨X + 1, 3, none⟩) hx _)
    · have hx : w.heap.size ≤ X + 1 := by have := HX.out; omega
      exact ((((K1.out.setCell (p := ⟨X + 1, 0, none⟩) hx _).setCell (p := ⟨X + 1, 1, none⟩) hx _).setCell (p := ⟨X + 1, 2, none⟩) hx _).setCell (p := ⟨X + 1, 3, none⟩) hx _)
  have h60I : ¬ (nm : Int) + (nb : Int) > 60 := by omega
  have h60J : ¬ (60 : Int) < (nm : Int) + (nb : Int) := by omega
  have HYES : Hid (writeO q M K = true) := by
    show _ = _
    have h1 := HKL.out
    have h2 := HML.out
    have h3 := HSB.out
    unfold writeO
    rw [h3]
    simp
    omega
  have ST : Hid (WSt lo w w1 X gd nb cd (stL q K) (q) g1 (nm) c1 (M) (.slice av nv cv) (.slice ak ns cs)) := by
    have hl := HOM.out.lt.2
    have hd := HD.out.lt.1
    have hx := HX.out
    have hs := HSZ.out
    exact ⟨K1.out, bx1, br1, (HOM.out.below K0.out).below KW1.out, HD.out.mono (Nat.zero_le _), ⟨by omega, by omega, by omega, by omega⟩, by omega, hlo⟩
  have x0 := bx1.c0
  have x1 := bx1.c1
  have x2 := bx1.c2
  have x3 := bx1.c3
  have xf := bx1.fz
  have xz := bx1.lt
  clear bx1 br1
  go_wp2_with fail
  clear x0 x1 x2 x3 xf xz
  go_loopw [8] (fun iv wr => ∃ i g c : Nat, i ≤ nb ∧ iv = .int .i64 i ∧ WSt lo w wr X gd nb cd (stL q K) (q) g (nm + i) c (((stL q K).take i).foldl putE M) (.slice av nv cv) (.slice ak ns cs)) (fun iv _ => nb - (intOf iv).toNat)
  case atStart => exact ⟨0, g1, c1, Nat.zero_le _, rfl, ST.out⟩
  case round =>
    clear ST HD K1 KW1 HOM HSB
    obtain ⟨i, g, c, hin, rfl, hst⟩ := hrel
    have HS : Hid (WSt lo w wr X gd nb cd (stL q K) (q) g (nm + i) c (((stL q K).take i).foldl putE M) (.slice av nv cv) (.slice ak ns cs)) := hst
    clear hst
    by_cases hlt : i < nb
    · have hltI : (i : Int) < (nb : Int) := by omega
      obtain ⟨⟨s, q0, d, t, m⟩, hg⟩ : ∃ e, (stL q K)[i]? = some e := ⟨_, List.getElem?_eq_getElem (by rw [stL_len, HKL.out]; exact hlt)⟩
      have HG : Hid ((stL q K)[i]? = some (s, q0, d, t, m)) := hg
      have HEW : Hid (EntW (s, q0, d, t, m)) := HS.out.dn.entsAt.ents _ (List.mem_of_getElem? hg)
      obtain ⟨LL, hLL⟩ : ∃ LL, LL = ((stL q K).take i).foldl putE M := ⟨_, rfl⟩
      have HLL : Hid (LL = ((stL q K).take i).foldl putE M) := hLL
      have k0 : WSt lo w wr.drew X gd nb cd (stL q K) (q) g (nm + i) c (LL) (.slice av nv cv) (.slice ak ns cs) := by rw [hLL]; exact HS.out.below (Below.refl _ wr).drew
      clear hg hLL HS
      go_upto_region 7 with fail
      refine wp_region_held_drew (S := (fun w' => w'.cell? ⟨gd, i * 5, none⟩ = some (.string s) ∧ w'.cell? ⟨gd, i * 5 + 1, none⟩ = some (.int .i64 q0) ∧ w'.cell? ⟨gd, i * 5 + 2, none⟩ = some (.int .i64 d) ∧ w'.cell? ⟨gd, i * 5 + 3, none⟩ = some (.string t) ∧ w'.cell? ⟨gd, i * 5 + 4, none⟩ = some (.int .i64 m) ∧ gd < w'.heap.size ∧ X < w'.heap.size)) (by kernel_rfl) (k0.held HG.out) (fun hHeld => ?_)
      generalize wr.drew = wd at k0 hHeld ⊢
      refine tkL 0 hHeld ?_; try go_frame
      refine tkL 2 hHeld ?_; try go_frame
      refine tkL 3 hHeld ?_; try go_frame
      refine tkL 4 hHeld ?_; try go_frame
      refine tkL 5 hHeld ?_; try go_frame
      refine wpAnyH_ready (rs := [1]) (by kernel_rfl) (by simp) ?_
      refine consL rfl (fun K hK => ?_) AllReadyH.nil
      have q1 := k0.bx.c1
      have qz := k0.bx.lt
      go_simp
      clear q1 qz
      refine hK.out _ _ (k0.held HG.out) (fun hHeld => ?_)
      clear hK K
      try go_frame
      refine wpAnyH_ready (rs := [6]) (by kernel_rfl) (by simp) ?_
      refine consL rfl (fun K hK => ?_) AllReadyH.nil
      go_simp
      refine (specPut g (nm + i) c LL s t q0 d m _ k0.mem.entsAt k0.mem.lt.2 (by omega) HEW.out).mono ?_
      rintro e w2 ⟨g2, c2, rfl, hO2, hb2⟩
      have k2 := k0.below hb2
      go_wp2_with fail
      refine hK.out _ _ (k2.held HG.out) (fun hHeld => ?_)
      clear hK K
      try go_frame
      refine tkL 7 hHeld ?_; try go_frame
      refine wpAnyH_ready (rs := [8]) (by kernel_rfl) (by simp) ?_
      refine consL rfl (fun K hK => ?_) AllReadyH.nil
      have q1 := k2.bx.c1
      have qf := k2.bx.fz
      have qz := k2.bx.lt
      go_simp
      have ks := k2.put (g2 := g2) (n2 := nm + i + 1) (c2 := c2) hO2 k0.br.lt
      clear q1 qf qz
      refine hK.out _ _ (ks.held HG.out) (fun hHeld => ?_)
      clear hK K
      try go_frame
      refine wpAnyH_done (by kernel_rfl) ?_ _
      generalize w2.setCell ⟨X, 1, none⟩ (.slice (some ⟨g2, 0, none⟩) (nm + i + 1) c2) = w9 at ks ⊢
      have KS : Hid (WSt lo w w9 X gd nb cd (stL q K) (q) g2 (nm + i + 1) c2 (putE LL (s, q0, d, t, m)) (.slice av nv cv) (.slice ak ns cs)) := ks
      clear ks k2 k0 hO2 hb2 hHeld
      go_wp2
      go_roundw
      case rel =>
        refine ⟨i + 1, g2, c2, by omega, by go_num, ?_⟩
        have h := KS.out
        rw [HLL.out, ← fold_snoc M HG.out] at h
        exact h
      case measure => simp [intOf]; omega
    · have hltI : ¬ (i : Int) < (nb : Int) := by omega
      obtain rfl : i = nb := by omega
      have hfull : (stL q K).take i = stL q K := List.take_of_length_le (by rw [stL_len, HKL.out]; omega)
      have HF : Hid (OwnE wr lo g (nm + i) c ((stL q K).foldl putE M)) := by have h := HS.out.mem; rw [hfull] at h; exact h
      have hbx := HS.out.bx
      have hbr := HS.out.br
      have HB : Hid (Below w.heap.size w wr) := HS.out.low
      have HNE : Hid (g ≠ X ∧ g ≠ X + 1) := ⟨HS.out.ne.1, HS.out.ne.2.1⟩
      clear HS hfull
      have x0 := hbx.c0
      have x1 := hbx.c1
      have x2 := hbx.c2
      have x3 := hbx.c3
      have xf := hbx.fz
      have xz := hbx.lt
      obtain ⟨w3, hw3⟩ : ∃ w3, w3 = wr.setCell ⟨X, 0, none⟩ (.int .i64 (q + (i : Int))) := ⟨_, rfl⟩
      have hx0 := HX.out
      have bx3 : Box4 w3 X (.int .i64 (q + (i : Int))) (.slice (some ⟨g, 0, none⟩) (nm + i) c) (.slice av nv cv) (.slice ak ns cs) := by rw [hw3]; exact hbx.set0 _
      have br3 : Box4 w3 (X + 1) (.int .i64 0) (.slice none 0 0) (.slice none 0 0) (.slice none 0 0) := by rw [hw3]; exact hbr.other (by omega) _
      have HF3 : Hid (OwnE w3 lo g (nm + i) c ((stL q K).foldl putE M)) := by rw [hw3]; exact HF.out.setCell (p := ⟨X, 0, none⟩) (fun e => HNE.out.1 e.symm) _
      have HB3 : Hid (Below w.heap.size w w3) := by rw [hw3]; exact HB.out.setCell (p := ⟨X, 0, none⟩) (by show _ ≤ X; omega) _
      clear hx0
      go_upto_region 9 with fail
      rw [← hw3]
      clear hw3 x0 x1 x2 x3 xf xz hbx hbr HF HB
      have x0 := bx3.c0
      have x1 := bx3.c1
      have x2 := bx3.c2
      have x3 := bx3.c3
      have xf := bx3.fz
      have xz := bx3.lt
      have r0 := br3.c0
      have r1 := br3.c1
      have r2 := br3.c2
      have r3 := br3.c3
      have rf := br3.fz
      have rz := br3.lt
      have HR : Hid (Box4 w3 (X + 1) (.int .i64 0) (.slice none 0 0) (.slice none 0 0) (.slice none 0 0)) := br3
      clear bx3 br3
      go_wp2
      have hkl := HKL.out
      have hx : w.heap.size ≤ X + 1 := by have := HX.out; omega
      refine bodyPost_ret (v := .tuple #[.agg #[.int .i64 (q + (i : Int)), .slice (some ⟨g, 0, none⟩) (nm + i) c, .slice av nv cv, .slice ak ns cs], .bool true]) ?_ rfl (show WrD lo q M K V S w _ _ from ⟨fun _ => ⟨_, _, _, _, _, _, _, _, _, by rw [hkl], ?_, ((((HB3.out.setCell (p := ⟨X + 1, 0, none⟩) hx _).setCell (p := ⟨X + 1, 1, none⟩) hx _).setCell (p := ⟨X + 1, 2, none⟩) hx _).setCell (p := ⟨X + 1, 3, none⟩) hx _)⟩, fun h => by rw [HYES.out] at h; cases h⟩)
      · have e := ((((HR.out.set0 (.int .i64 (q + (i : Int)))).set1 (.slice (some ⟨g, 0, none⟩) (nm + i) c)).set2 (.slice av nv cv)).set3 (.slice ak ns cs))
        simp [results, Tryz.results56, go_sem, e.c0, e.c1, e.c2, e.c3]
      · have hn : ∀ o, (⟨X + 1, o, none⟩ : Addr).block ≠ g := fun o e => HNE.out.2 e.symm
        exact ⟨⟨((((HF3.out.setCell (hn 0) _).setCell (hn 1) _).setCell (hn 2) _).setCell (hn 3) _).entsAt, fun x e _ => by cases e; exact HF3.out.lt.1⟩, (HT.out.keep ((((HB3.out.setCell (p := ⟨X + 1, 0, none⟩) hx _).setCell (p := ⟨X + 1, 1, none⟩) hx _).setCell (p := ⟨X + 1, 2, none⟩) hx _).setCell (p := ⟨X + 1, 3, none⟩) hx _)).levels, (HT.out.keep ((((HB3.out.setCell (p := ⟨X + 1, 0, none⟩) hx _).setCell (p := ⟨X + 1, 1, none⟩) hx _).setCell (p := ⟨X + 1, 2, none⟩) hx _).setCell (p := ⟨X + 1, 3, none⟩) hx _)).snaps⟩
end Go.Proofs.YtlmgojlffgkciaaGreat
