/-
  The program's cell and TreeCell: what they answer at a right tree, by walks of their Go text.
-/
import Derived.Test.YtlmgojlffgkciaaGreatCe27
import Derived.Test.YtlmgojlffgkciaaGreatCe28
import Derived.Test.YtlmgojlffgkciaaGreatCe36
import Derived.Test.YtlmgojlffgkciaaGreatCe38
import Derived.Test.YtlmgojlffgkciaaGreatCe39
import Derived.Test.YtlmgojlffgkciaaGreatCe42
namespace Go.Proofs.YtlmgojlffgkciaaGreat
open Go.RowKit
set_option maxRecDepth 100000
set_option maxHeartbeats 16000000
theorem runs_slice {lo : Nat} {w : World} {b n c i j : Nat} {B : List RunD} (h : RunsIn lo w (some ⟨b, 0, none⟩) n c B) (hij : i ≤ j) (hj : j ≤ n) : RunsIn lo w (some ⟨b, if c = i then 0 else i * 2, none⟩) (j - i) (c - i) ((B.drop i).take (j - i)) where
  length := by rw [List.length_take, List.length_drop, h.length]; omega
  room := by have := h.room; omega
  big := by have := h.big; omega
  nil := fun e => by cases e
  lies := fun x e hp => by
    have h1 := h.lies _ rfl (by omega)
    cases e
    exact h1
  runs := fun x e t ht => by
    rw [List.length_take, List.length_drop, h.length] at ht
    have hc : ¬ c = i := by have := h.room; omega
    have hl : i + t < B.length := by rw [h.length]; omega
    have h1 := h.runs _ rfl (i + t) hl
    cases e
    rw [List.getElem_take, List.getElem_drop, if_neg hc]
    simp only [Nat.zero_add] at h1
    rw [show i * 2 + t * 2 = (i + t) * 2 by omega]
    exact h1
theorem implCell (q : Int) (b1 nm cm e0 n0 c0 e1 n1 c1 e2 n2 c2 : Nat) (ak : Option Addr) (nk ck : Nat) (M : List EntD) (A B C : List RunD) (S : List Int) (key : ByteArray) (seq : Int) (w : World) (hSh : ShIn w (some ⟨b1, 0, none⟩) nm cm (some ⟨e0, 0, none⟩) n0 c0 (some ⟨e1, 0, none⟩) n1 c1 (some ⟨e2, 0, none⟩) n2 c2 ak nk ck M A B C S) (hnm : nm ≤ 60) (hA : A.length ≤ 4) (hB : B.length ≤ 8) (hC : C.length ≤ 8) (hM : rightB M = true) (hok : ∀ Z ∈ [A, B, C], ∀ r ∈ Z, runB r.1 r.2 = true) (hap1 : levApart B = true) (hap2 : levApart C = true) :
    Calls Tryz.prog 54 #[.agg #[.int .i64 q, .slice (some ⟨b1, 0, none⟩) nm cm, .slice (some ⟨e0, 0, none⟩) n0 c0, .slice (some ⟨e1, 0, none⟩) n1 c1, .slice (some ⟨e2, 0, none⟩) n2 c2, .slice ak nk ck], .string key, .int .i64 seq] w fun e w' => e = .returned (cellV (cellL (M ++ [A, B, C].flatMap (fun Z => findB Z key seq)) key seq)) ∧ Below w.heap.size w w' := by
  have hl0 := hSh.r0.length
  have hl1 := hSh.r1.length
  have hl2 := hSh.r2.length
  have hn0 : n0 ≤ 4 := by omega
  have hn1 : n1 ≤ 8 := by omega
  have hn2 : n2 ≤ 8 := by omega
  have HOK0 : Hid (∀ r ∈ A, runB r.1 r.2 = true) := hok A (by simp)
  have HOK1 : Hid (∀ r ∈ B, runB r.1 r.2 = true) := hok B (by simp)
  have HOK2 : Hid (∀ r ∈ C, runB r.1 r.2 = true) := hok C (by simp)
  have HAP1 : Hid (levApart B = true) := hap1
  have HAP2 : Hid (levApart C = true) := hap2
  have HSH : Hid (ShIn w (some ⟨b1, 0, none⟩) nm cm (some ⟨e0, 0, none⟩) n0 c0 (some ⟨e1, 0, none⟩) n1 c1 (some ⟨e2, 0, none⟩) n2 c2 ak nk ck M A B C S) := hSh
  have HSM : Hid (∀ e ∈ M ++ [A, B, C].flatMap (fun Z => findB Z key seq), e.2.2.2.1.size ≤ 281474976710656) := fun e he => by
    rcases List.mem_append.1 he with h | h
    · exact (right_small hM e h).2
    · obtain ⟨Z, hZ, hZe⟩ := List.mem_flatMap.1 h
      obtain ⟨r, hr, hre⟩ := List.mem_flatMap.1 hZe
      exact (right_small (run_parts (hok Z hZ r hr)).1 e (List.mem_filter.1 hre).1).2
  obtain ⟨RC, hRC⟩ : ∃ RC, RC = cellV (cellL (M ++ [A, B, C].flatMap (fun Z => findB Z key seq)) key seq) := ⟨_, rfl⟩
  have CA : Hid (∀ (base g n c : Nat) (w' : World), OwnE w' base g n c (M ++ [A, B, C].flatMap (fun Z => findB Z key seq)) → n ≤ 1048576 → Calls Tryz.prog 92 #[.slice (some ⟨g, 0, none⟩) n c, .string key, .int .i64 seq] w' fun e w'' => e = .returned RC ∧ Below w'.heap.size w' w'') := fun base g n c w' h hn => by
    rw [hRC]
    exact implCellAll _ n c _ key seq w' h.entsAt hn HSM.out
  obtain ⟨rb, rt, rn, hRV⟩ : ∃ (rb : Bool) (rt : ByteArray) (rn : Int), RC = .agg #[.bool rb, .string rt, .int .i64 rn] := by
    rw [hRC]
    exact ⟨_, _, _, rfl⟩
  rw [← hRC]
  clear hRC hl0 hl1 hl2 hok hap1 hap2 hM hA hB hC
  subst hRV
  obtain ⟨X, hX⟩ : ∃ X, X = w.heap.size := ⟨_, rfl⟩
  obtain ⟨W, hW⟩ : ∃ W, W = (w.alloc (.cells #[.int .i64 q, .slice (some ⟨b1, 0, none⟩) nm cm, .slice (some ⟨e0, 0, none⟩) n0 c0, .slice (some ⟨e1, 0, none⟩) n1 c1, .slice (some ⟨e2, 0, none⟩) n2 c2, .slice ak nk ck] 67)).alloc (.cells #[.bool false, .string ⟨#[]⟩, .int .i64 0] 41) := ⟨_, rfl⟩
  have kW : Below w.heap.size w W := by rw [hW]; exact ((Below.refl _ _).alloc (Nat.le_refl _) _).alloc (by simp) _
  have bx : Box6 W X (.int .i64 q) (.slice (some ⟨b1, 0, none⟩) nm cm) (.slice (some ⟨e0, 0, none⟩) n0 c0) (.slice (some ⟨e1, 0, none⟩) n1 c1) (.slice (some ⟨e2, 0, none⟩) n2 c2) (.slice ak nk ck) := by rw [hW, hX]; exact (Box6.new _ _ _ _ _ _ _ _).alloc _
  have CC : Hid (Calls Tryz.prog 89 #[.slice (some ⟨b1, 0, none⟩) nm cm] W fun e w' => ∃ g c', e = .returned (.slice (some ⟨g, 0, none⟩) nm c') ∧ OwnE w' W.heap.size g nm c' M ∧ Below W.heap.size W w') := cloneRow b1 nm cm M W (hSh.mem.keep kW) (by omega)
  have K0 : Hid (Below w.heap.size w W) := kW
  have HX : Hid (X = w.heap.size) := hX
  have BX : Hid (Box6 W X (.int .i64 q) (.slice (some ⟨b1, 0, none⟩) nm cm) (.slice (some ⟨e0, 0, none⟩) n0 c0) (.slice (some ⟨e1, 0, none⟩) n1 c1) (.slice (some ⟨e2, 0, none⟩) n2 c2) (.slice ak nk ck)) := bx
  have HRB : Hid (W.cell? ⟨X + 1, 0, none⟩ = some (.bool false) ∧ W.cell? ⟨X + 1, 1, none⟩ = some (.string ⟨#[]⟩) ∧ W.cell? ⟨X + 1, 2, none⟩ = some (.int .i64 0) ∧ (∀ o, W.frozen? ⟨X + 1, o, none⟩ = false) ∧ X + 1 < W.heap.size) := by
    rw [hW, hX]
    refine ⟨?_, ?_, ?_, fun o => ?_, ?_⟩ <;> simp
  have x1 := bx.c1
  have xz := bx.lt
  clear kW bx hSh
  go_enter Tryz.func54, Tryz.ntmps54
  go_wp2_with fail
  rw [← hX, ← hW]
  clear hX hW x1 xz
  refine CC.out.mono ?_
  rintro e w1 ⟨g, c', rfl, hO1, hb1⟩
  have HO1 : Hid (OwnE w1 W.heap.size g nm c' M) := hO1
  have K1 : Hid (Below w.heap.size w w1) := K0.out.trans (hb1.mono K0.out.size)
  have bx1 := BX.out.keep hb1
  have x2 := bx1.c2
  have x3 := bx1.c3
  have x4 := bx1.c4
  have xz := bx1.lt
  have HK1 : Hid (Below W.heap.size W w1) := hb1
  clear hb1 hO1 CC bx1
  go_wp2
  clear x2 x3 x4 xz
  go_loopw [7, 19] (fun fv kv wr => ∃ (k gf nf cf : Nat), k ≤ 3 ∧ kv = .int .i64 k ∧ fv = .slice (some ⟨gf, 0, none⟩) nf cf ∧ nf ≤ 60 + 1200 * k ∧ OwnE wr W.heap.size gf nf cf (M ++ ([A, B, C].take k).flatMap (fun Z => findB Z key seq)) ∧ (Below w.heap.size w wr ∧ Below W.heap.size W wr)) (fun _ kv _ => 3 - (intOf kv).toNat)
  case atStart => exact ⟨0, g, nm, c', by omega, rfl, rfl, by omega, by simpa using HO1.out, K1.out, HK1.out⟩
  case round =>
    clear HO1 K1 HK1
    obtain ⟨k, gf, nf, cf, hk, rfl, rfl, hnf, hOX, hbX, hbW⟩ := hrel
    have HOX : Hid (OwnE wr W.heap.size gf nf cf (M ++ ([A, B, C].take k).flatMap (fun Z => findB Z key seq))) := hOX
    have HBX : Hid (Below w.heap.size w wr) := hbX
    have HBW : Hid (Below W.heap.size W wr) := hbW
    clear hOX hbX hbW
    match k, hk with
    | 0, _ =>
      have HR : Hid (∀ w', Below w.heap.size w w' → RunsIn 0 w' (some ⟨e0, 0, none⟩) n0 c0 A) := fun w' kk => HSH.out.r0.keep kk
      have HL0 : Hid (A.length = n0) := HSH.out.r0.length
      obtain ⟨G, hG⟩ : ∃ G, G = M ++ ([A, B, C].take 0).flatMap (fun Z => findB Z key seq) := ⟨_, rfl⟩
      have HG : Hid (G = M ++ ([A, B, C].take 0).flatMap (fun Z => findB Z key seq)) := hG
      have HOF0 : Hid (OwnE wr W.heap.size gf nf cf G) := by rw [hG]; exact HOX.out
      clear hG HOX
      obtain ⟨BB, hBB⟩ : ∃ BB, BB = A := ⟨_, rfl⟩
      have HBB : Hid (∀ w', Below w.heap.size w w' → RunsIn 0 w' (some ⟨e0, 0, none⟩) n0 c0 BB) := by rw [hBB]; exact HR.out
      have HOK : Hid (∀ r ∈ BB, runB r.1 r.2 = true) := by rw [hBB]; exact HOK0.out
      have HNN : Hid (BB.length = n0) := by rw [hBB]; exact HL0.out
      have HN8 : Hid (n0 ≤ 8) := by show _ ≤ _; omega
      have HFB : Hid (findB BB key seq = findB A key seq) := by rw [hBB]; rfl
      have HOF : Hid (OwnE wr W.heap.size gf nf cf G) := HOF0.out
      have HBF : Hid (Below w.heap.size w wr) := HBX.out
      have HBWF : Hid (Below W.heap.size W wr) := HBW.out
      clear hBB HOF0 HR
      go_wp2_with fail
      rw [idxR_0]
      go_wp2
      go_loopw [7, 39] (fun fv jv wr => ∃ (j g n c : Nat), j ≤ n0 ∧ jv = .int .i64 j ∧ fv = .slice (some ⟨g, 0, none⟩) n c ∧ n ≤ 60 + 150 * j ∧ OwnE wr W.heap.size g n c (G ++ findB (BB.take j) key seq) ∧ (Below w.heap.size w wr ∧ Below W.heap.size W wr)) (fun _ jv _ => n0 - (intOf jv).toNat)
      case atStart => exact ⟨0, gf, nf, cf, Nat.zero_le _, rfl, rfl, by omega, by simpa [findB] using HOF.out, HBF.out, HBWF.out⟩
      case round =>
        clear HOF HBF HBWF
        obtain ⟨j, g, n, c, hj, rfl, rfl, hn, hO, hb, hbW⟩ := hrel
        have HBW : Hid (Below W.heap.size W wr) := hbW
        clear hbW
        have HO : Hid (OwnE wr W.heap.size g n c (G ++ findB (BB.take j) key seq)) := hO
        have HB : Hid (Below w.heap.size w wr) := hb
        clear hO hb
        by_cases hlt : j < n0
        · have hltI : (j : Int) < ((n0 : Nat) : Int) := by omega
          have hltJ : (j : Int) < n0 := by omega
          obtain ⟨L, m, s, ne, ce, hr, hmw, g0, g1, hE⟩ := (HBB.out _ HB.out).run (Below.refl _ wr) j hlt
          have HGI : Hid (BB[j]? = some (L, m)) := hr
          try simp only [Nat.zero_add] at g0 g1
          have hbb := ((HBB.out _ HB.out).lies _ rfl (by omega)).1
          simp only at hbb
          obtain ⟨hrt, hl1, hl2⟩ := run_parts (HOK.out _ (List.mem_of_getElem? hr))
          have HEL : Hid (EntsAt wr s ne ce L) := hE.1
          have hne : ne ≤ 150 := by have := hE.1.length; simp only at hl2; omega
          have HFD : Hid (foundL L m key seq = findL L key seq) := by
            show foundL L m key seq = _
            exact found_yes (HOK.out _ (List.mem_of_getElem? hr))
          clear hr hE hrt hl1 hl2
          obtain ⟨wq, hwq⟩ : ∃ wq, wq = wr.alloc (.cells #[.slice s ne ce, .int .i64 m] 102) := ⟨_, rfl⟩
          have kq : Below wr.heap.size wr wq := by rw [hwq]; exact (Below.refl _ _).alloc (Nat.le_refl _) _
          have CF : Hid (Calls Tryz.prog 91 #[.agg #[.slice s ne ce, .int .i64 m], .string key, .int .i64 seq] wq (FoundV (findL L key seq) wq)) := by
            have h := implFind s ne ce L m key seq wq (HEL.out.keep kq) (by omega)
            rw [HFD.out] at h
            exact h
          have HBQ : Hid (Below w.heap.size w wq) := HB.out.trans (kq.mono HB.out.size)
          have HBWQ : Hid (Below W.heap.size W wq) := HBW.out.trans (kq.mono HBW.out.size)
          have HOQ : Hid (OwnE wq W.heap.size g n c (G ++ findB (BB.take j) key seq)) := HO.out.below kq
          clear kq
          go_wp2_with fail
          rw [← hwq]
          clear hwq
          refine CF.out.mono ?_
          intro e w1 hfv
          obtain ⟨ar, nr, cr, rfl, hOr, hb1⟩ := foundV_own hfv
          have HB1 : Hid (Below w.heap.size w w1) := HBQ.out.trans (hb1.mono HBQ.out.size)
          have HO1 : Hid (OwnE w1 W.heap.size g n c (G ++ findB (BB.take j) key seq)) := HOQ.out.below hb1
          have HBW1 : Hid (Below W.heap.size W w1) := HBWQ.out.trans (hb1.mono HBWQ.out.size)
          have HOR : Hid (OwnO w1 wq.heap.size ar nr cr (findL L key seq)) := hOr
          have hnr : nr ≤ 150 := by have h1 := hOr.entsAt.length; have h2 := find_len L key seq; have h3 := HEL.out.length; omega
          obtain ⟨nk', hnk⟩ : ∃ nk', nk' = n + nr := ⟨_, rfl⟩
          have HNK : Hid (nk' = n + nr) := hnk
          have HNB : Hid (nk' ≤ 60 + 150 * (j + 1)) := by show _ ≤ _; omega
          have hnB : n ≤ 1048576 := by have := HN8.out; omega
          have hjB : j ≤ 8 := by have := HN8.out; omega
          clear hfv hOr hb1 hnk
          go_wp2_with (at_builtin; refine appEnts rfl _ _ rfl W.heap.size wq.heap.size g n c _ rfl HO1.out ar nr cr _ rfl HOR.out hnB (by omega) nk' HNK.out ?_; intro g2 c2 w2 hO2 hg2)
          go_roundw
          case rel =>
            refine ⟨j + 1, g2, nk', c2, by omega, by go_num, rfl, HNB.out, ?_, HB1.out.grown hg2 HB1.out.size (fun k e => by cases e; exact Nat.le_trans K0.out.size HO1.out.lt.1), HBW1.out.grown hg2 HBW1.out.size (fun k e => by cases e; exact HO1.out.lt.1)⟩
            rw [List.take_add_one, HGI.out]
            have e1 : findB (BB.take j ++ (some (L, m)).toList) key seq = findB (BB.take j) key seq ++ findL L key seq := by rw [findB_app]; simp [findB]
            rw [e1, ← List.append_assoc]
            exact hO2
          case measure => simp [intOf]; omega
        · have hltI : ¬ (j : Int) < ((n0 : Nat) : Int) := by omega
          have hltJ : ¬ (j : Int) < n0 := by omega
          have hjn : j = n0 := by omega
          have HEND : Hid (OwnE wr W.heap.size g n c (M ++ ([A, B, C].take 1).flatMap (fun Z => findB Z key seq)) ∧ n ≤ 60 + 1200) := by
            have h := HO.out
            rw [hjn, List.take_of_length_le (by rw [HNN.out]; omega)] at h
            refine ⟨?_, by have := HN8.out; omega⟩
            rw [HG.out, HFB.out] at h; simpa [List.take, List.flatMap_cons, List.append_assoc] using h
          clear hjn HO
          go_wp2
          go_roundw
          case rel => exact ⟨1, g, n, c, by omega, by go_num, rfl, by have := HEND.out.2; omega, HEND.out.1, HB.out, HBW.out⟩
          case measure => simp [intOf]
    | 1, _ =>
      have HR : Hid (∀ w', Below w.heap.size w w' → RunsIn 0 w' (some ⟨e1, 0, none⟩) n1 c1 B) := fun w' kk => HSH.out.r1.keep kk
      have HL1 : Hid (B.length = n1) := HSH.out.r1.length
      obtain ⟨G, hG⟩ : ∃ G, G = M ++ ([A, B, C].take 1).flatMap (fun Z => findB Z key seq) := ⟨_, rfl⟩
      have HG : Hid (G = M ++ ([A, B, C].take 1).flatMap (fun Z => findB Z key seq)) := hG
      have HOF0 : Hid (OwnE wr W.heap.size gf nf cf G) := by rw [hG]; exact HOX.out
      clear hG HOX
      have CM : Hid (Calls Tryz.prog 90 #[.slice (some ⟨e1, 0, none⟩) n1 c1, .agg #[.string key, .string key]] wr fun e' w' => ∃ i j : Nat, e' = .returned (.tuple #[.int .i64 i, .int .i64 j]) ∧ MeetR B key key i j ∧ Below wr.heap.size wr w') := implMeeting 0 _ n1 c1 B key key wr (HR.out _ HBX.out) (by omega) HAP1.out HOK1.out
      go_wp2_with fail
      rw [idxR_1]
      go_wp2_with fail
      refine CM.out.mono ?_
      rintro e' w1 ⟨i0, j0, rfl, hme, hb1⟩
      have HB1 : Hid (Below w.heap.size w w1) := HBX.out.trans (hb1.mono HBX.out.size)
      have HOF1 : Hid (OwnE w1 W.heap.size gf nf cf G) := HOF0.out.below hb1
      have HME : Hid (MeetR B key key i0 j0) := hme
      have hij : i0 ≤ j0 := hme.le HOK1.out (.inl rfl)
      have hjn0 : j0 ≤ n1 := by have h1 := hme.2.1; have h2 := HL1.out; omega
      have hcap := (HR.out _ HB1.out).room
      have hijI : (i0 : Int) ≤ (j0 : Int) := by omega
      have hjcI : (j0 : Int) ≤ (c1 : Int) := by omega
      obtain ⟨ox, hox⟩ : ∃ ox, ox = if c1 = i0 then 0 else i0 * 2 := ⟨_, rfl⟩
      obtain ⟨nn, hnn⟩ : ∃ nn, nn = j0 - i0 := ⟨_, rfl⟩
      obtain ⟨cx, hcx⟩ : ∃ cx, cx = c1 - i0 := ⟨_, rfl⟩
      obtain ⟨BB, hBB⟩ : ∃ BB, BB = (B.drop i0).take (j0 - i0) := ⟨_, rfl⟩
      have HBB : Hid (∀ w', Below w.heap.size w w' → RunsIn 0 w' (some ⟨e1, ox, none⟩) nn cx BB) := fun w' kk => by rw [hBB, hox, hnn, hcx]; exact runs_slice (HR.out w' kk) hij hjn0
      have HOK : Hid (∀ r ∈ BB, runB r.1 r.2 = true) := by rw [hBB]; exact fun r hr => HOK1.out r (List.mem_of_mem_drop (List.mem_of_mem_take hr))
      have HNN : Hid (BB.length = nn) := by show _ = _; rw [hBB, hnn, List.length_take, List.length_drop, HL1.out]; omega
      have HN8 : Hid (nn ≤ 8) := by show _ ≤ _; omega
      have HFB : Hid (findB BB key seq = findB B key seq) := by rw [hBB]; exact meet_find HME.out HOK1.out seq
      have HOF : Hid (OwnE w1 W.heap.size gf nf cf G) := HOF1.out
      have HBF : Hid (Below w.heap.size w w1) := HB1.out
      have HBWF : Hid (Below W.heap.size W w1) := HBW.out.trans (hb1.mono HBW.out.size)
      have hav : (if c1 = i0 then some (⟨e1, 0, none⟩ : Addr) else some ⟨e1, i0 * 2, none⟩) = some ⟨e1, ox, none⟩ := by rw [hox]; split <;> rfl
      clear hb1 hme HOF0 CM HME HOF1 HR hBB hox
      go_upto_region 8 with fail
      try rw [hav]
      rw [← hnn, ← hcx]
      clear hav hnn hcx hij hjn0 hijI hjcI hcap
      go_wp2
      go_loopw [7, 39] (fun fv jv wr => ∃ (j g n c : Nat), j ≤ nn ∧ jv = .int .i64 j ∧ fv = .slice (some ⟨g, 0, none⟩) n c ∧ n ≤ 1260 + 150 * j ∧ OwnE wr W.heap.size g n c (G ++ findB (BB.take j) key seq) ∧ (Below w.heap.size w wr ∧ Below W.heap.size W wr)) (fun _ jv _ => nn - (intOf jv).toNat)
      case atStart => exact ⟨0, gf, nf, cf, Nat.zero_le _, rfl, rfl, by omega, by simpa [findB] using HOF.out, HBF.out, HBWF.out⟩
      case round =>
        clear HOF HBF HBWF
        obtain ⟨j, g, n, c, hj, rfl, rfl, hn, hO, hb, hbW⟩ := hrel
        have HBW : Hid (Below W.heap.size W wr) := hbW
        clear hbW
        have HO : Hid (OwnE wr W.heap.size g n c (G ++ findB (BB.take j) key seq)) := hO
        have HB : Hid (Below w.heap.size w wr) := hb
        clear hO hb
        by_cases hlt : j < nn
        · have hltI : (j : Int) < ((nn : Nat) : Int) := by omega
          have hltJ : (j : Int) < nn := by omega
          obtain ⟨L, m, s, ne, ce, hr, hmw, g0, g1, hE⟩ := (HBB.out _ HB.out).run (Below.refl _ wr) j hlt
          have HGI : Hid (BB[j]? = some (L, m)) := hr
          try simp only [Nat.zero_add] at g0 g1
          have hbb := ((HBB.out _ HB.out).lies _ rfl (by omega)).1
          simp only at hbb
          obtain ⟨hrt, hl1, hl2⟩ := run_parts (HOK.out _ (List.mem_of_getElem? hr))
          have HEL : Hid (EntsAt wr s ne ce L) := hE.1
          have hne : ne ≤ 150 := by have := hE.1.length; simp only at hl2; omega
          have HFD : Hid (foundL L m key seq = findL L key seq) := by
            show foundL L m key seq = _
            exact found_yes (HOK.out _ (List.mem_of_getElem? hr))
          clear hr hE hrt hl1 hl2
          obtain ⟨wq, hwq⟩ : ∃ wq, wq = wr.alloc (.cells #[.slice s ne ce, .int .i64 m] 102) := ⟨_, rfl⟩
          have kq : Below wr.heap.size wr wq := by rw [hwq]; exact (Below.refl _ _).alloc (Nat.le_refl _) _
          have CF : Hid (Calls Tryz.prog 91 #[.agg #[.slice s ne ce, .int .i64 m], .string key, .int .i64 seq] wq (FoundV (findL L key seq) wq)) := by
            have h := implFind s ne ce L m key seq wq (HEL.out.keep kq) (by omega)
            rw [HFD.out] at h
            exact h
          have HBQ : Hid (Below w.heap.size w wq) := HB.out.trans (kq.mono HB.out.size)
          have HBWQ : Hid (Below W.heap.size W wq) := HBW.out.trans (kq.mono HBW.out.size)
          have HOQ : Hid (OwnE wq W.heap.size g n c (G ++ findB (BB.take j) key seq)) := HO.out.below kq
          clear kq
          go_wp2_with fail
          rw [← hwq]
          clear hwq
          refine CF.out.mono ?_
          intro e w1 hfv
          obtain ⟨ar, nr, cr, rfl, hOr, hb1⟩ := foundV_own hfv
          have HB1 : Hid (Below w.heap.size w w1) := HBQ.out.trans (hb1.mono HBQ.out.size)
          have HO1 : Hid (OwnE w1 W.heap.size g n c (G ++ findB (BB.take j) key seq)) := HOQ.out.below hb1
          have HBW1 : Hid (Below W.heap.size W w1) := HBWQ.out.trans (hb1.mono HBWQ.out.size)
          have HOR : Hid (OwnO w1 wq.heap.size ar nr cr (findL L key seq)) := hOr
          have hnr : nr ≤ 150 := by have h1 := hOr.entsAt.length; have h2 := find_len L key seq; have h3 := HEL.out.length; omega
          obtain ⟨nk', hnk⟩ : ∃ nk', nk' = n + nr := ⟨_, rfl⟩
          have HNK : Hid (nk' = n + nr) := hnk
          have HNB : Hid (nk' ≤ 1260 + 150 * (j + 1)) := by show _ ≤ _; omega
          have hnB : n ≤ 1048576 := by have := HN8.out; omega
          have hjB : j ≤ 8 := by have := HN8.out; omega
          clear hfv hOr hb1 hnk
          go_wp2_with (at_builtin; refine appEnts rfl _ _ rfl W.heap.size wq.heap.size g n c _ rfl HO1.out ar nr cr _ rfl HOR.out hnB (by omega) nk' HNK.out ?_; intro g2 c2 w2 hO2 hg2)
          go_roundw
          case rel =>
            refine ⟨j + 1, g2, nk', c2, by omega, by go_num, rfl, HNB.out, ?_, HB1.out.grown hg2 HB1.out.size (fun k e => by cases e; exact Nat.le_trans K0.out.size HO1.out.lt.1), HBW1.out.grown hg2 HBW1.out.size (fun k e => by cases e; exact HO1.out.lt.1)⟩
            rw [List.take_add_one, HGI.out]
            have e1 : findB (BB.take j ++ (some (L, m)).toList) key seq = findB (BB.take j) key seq ++ findL L key seq := by rw [findB_app]; simp [findB]
            rw [e1, ← List.append_assoc]
            exact hO2
          case measure => simp [intOf]; omega
        · have hltI : ¬ (j : Int) < ((nn : Nat) : Int) := by omega
          have hltJ : ¬ (j : Int) < nn := by omega
          have hjn : j = nn := by omega
          have HEND : Hid (OwnE wr W.heap.size g n c (M ++ ([A, B, C].take 2).flatMap (fun Z => findB Z key seq)) ∧ n ≤ 1260 + 1200) := by
            have h := HO.out
            rw [hjn, List.take_of_length_le (by rw [HNN.out]; omega)] at h
            refine ⟨?_, by have := HN8.out; omega⟩
            rw [HG.out, HFB.out] at h; simpa [List.take, List.flatMap_cons, List.append_assoc] using h
          clear hjn HO
          go_wp2
          go_roundw
          case rel => exact ⟨2, g, n, c, by omega, by go_num, rfl, by have := HEND.out.2; omega, HEND.out.1, HB.out, HBW.out⟩
          case measure => simp [intOf]
    | 2, _ =>
      have HR : Hid (∀ w', Below w.heap.size w w' → RunsIn 0 w' (some ⟨e2, 0, none⟩) n2 c2 C) := fun w' kk => HSH.out.r2.keep kk
      have HL2 : Hid (C.length = n2) := HSH.out.r2.length
      obtain ⟨G, hG⟩ : ∃ G, G = M ++ ([A, B, C].take 2).flatMap (fun Z => findB Z key seq) := ⟨_, rfl⟩
      have HG : Hid (G = M ++ ([A, B, C].take 2).flatMap (fun Z => findB Z key seq)) := hG
      have HOF0 : Hid (OwnE wr W.heap.size gf nf cf G) := by rw [hG]; exact HOX.out
      clear hG HOX
      have CM : Hid (Calls Tryz.prog 90 #[.slice (some ⟨e2, 0, none⟩) n2 c2, .agg #[.string key, .string key]] wr fun e' w' => ∃ i j : Nat, e' = .returned (.tuple #[.int .i64 i, .int .i64 j]) ∧ MeetR C key key i j ∧ Below wr.heap.size wr w') := implMeeting 0 _ n2 c2 C key key wr (HR.out _ HBX.out) (by omega) HAP2.out HOK2.out
      go_wp2_with fail
      rw [idxR_2]
      go_wp2_with fail
      refine CM.out.mono ?_
      rintro e' w1 ⟨i0, j0, rfl, hme, hb1⟩
      have HB1 : Hid (Below w.heap.size w w1) := HBX.out.trans (hb1.mono HBX.out.size)
      have HOF1 : Hid (OwnE w1 W.heap.size gf nf cf G) := HOF0.out.below hb1
      have HME : Hid (MeetR C key key i0 j0) := hme
      have hij : i0 ≤ j0 := hme.le HOK2.out (.inl rfl)
      have hjn0 : j0 ≤ n2 := by have h1 := hme.2.1; have h2 := HL2.out; omega
      have hcap := (HR.out _ HB1.out).room
      have hijI : (i0 : Int) ≤ (j0 : Int) := by omega
      have hjcI : (j0 : Int) ≤ (c2 : Int) := by omega
      obtain ⟨ox, hox⟩ : ∃ ox, ox = if c2 = i0 then 0 else i0 * 2 := ⟨_, rfl⟩
      obtain ⟨nn, hnn⟩ : ∃ nn, nn = j0 - i0 := ⟨_, rfl⟩
      obtain ⟨cx, hcx⟩ : ∃ cx, cx = c2 - i0 := ⟨_, rfl⟩
      obtain ⟨BB, hBB⟩ : ∃ BB, BB = (C.drop i0).take (j0 - i0) := ⟨_, rfl⟩
      have HBB : Hid (∀ w', Below w.heap.size w w' → RunsIn 0 w' (some ⟨e2, ox, none⟩) nn cx BB) := fun w' kk => by rw [hBB, hox, hnn, hcx]; exact runs_slice (HR.out w' kk) hij hjn0
      have HOK : Hid (∀ r ∈ BB, runB r.1 r.2 = true) := by rw [hBB]; exact fun r hr => HOK2.out r (List.mem_of_mem_drop (List.mem_of_mem_take hr))
      have HNN : Hid (BB.length = nn) := by show _ = _; rw [hBB, hnn, List.length_take, List.length_drop, HL2.out]; omega
      have HN8 : Hid (nn ≤ 8) := by show _ ≤ _; omega
      have HFB : Hid (findB BB key seq = findB C key seq) := by rw [hBB]; exact meet_find HME.out HOK2.out seq
      have HOF : Hid (OwnE w1 W.heap.size gf nf cf G) := HOF1.out
      have HBF : Hid (Below w.heap.size w w1) := HB1.out
      have HBWF : Hid (Below W.heap.size W w1) := HBW.out.trans (hb1.mono HBW.out.size)
      have hav : (if c2 = i0 then some (⟨e2, 0, none⟩ : Addr) else some ⟨e2, i0 * 2, none⟩) = some ⟨e2, ox, none⟩ := by rw [hox]; split <;> rfl
      clear hb1 hme HOF0 CM HME HOF1 HR hBB hox
      go_upto_region 8 with fail
      try rw [hav]
      rw [← hnn, ← hcx]
      clear hav hnn hcx hij hjn0 hijI hjcI hcap
      go_wp2
      go_loopw [7, 39] (fun fv jv wr => ∃ (j g n c : Nat), j ≤ nn ∧ jv = .int .i64 j ∧ fv = .slice (some ⟨g, 0, none⟩) n c ∧ n ≤ 2460 + 150 * j ∧ OwnE wr W.heap.size g n c (G ++ findB (BB.take j) key seq) ∧ (Below w.heap.size w wr ∧ Below W.heap.size W wr)) (fun _ jv _ => nn - (intOf jv).toNat)
      case atStart => exact ⟨0, gf, nf, cf, Nat.zero_le _, rfl, rfl, by omega, by simpa [findB] using HOF.out, HBF.out, HBWF.out⟩
      case round =>
        clear HOF HBF HBWF
        obtain ⟨j, g, n, c, hj, rfl, rfl, hn, hO, hb, hbW⟩ := hrel
        have HBW : Hid (Below W.heap.size W wr) := hbW
        clear hbW
        have HO : Hid (OwnE wr W.heap.size g n c (G ++ findB (BB.take j) key seq)) := hO
        have HB : Hid (Below w.heap.size w wr) := hb
        clear hO hb
        by_cases hlt : j < nn
        · have hltI : (j : Int) < ((nn : Nat) : Int) := by omega
          have hltJ : (j : Int) < nn := by omega
          obtain ⟨L, m, s, ne, ce, hr, hmw, g0, g1, hE⟩ := (HBB.out _ HB.out).run (Below.refl _ wr) j hlt
          have HGI : Hid (BB[j]? = some (L, m)) := hr
          try simp only [Nat.zero_add] at g0 g1
          have hbb := ((HBB.out _ HB.out).lies _ rfl (by omega)).1
          simp only at hbb
          obtain ⟨hrt, hl1, hl2⟩ := run_parts (HOK.out _ (List.mem_of_getElem? hr))
          have HEL : Hid (EntsAt wr s ne ce L) := hE.1
          have hne : ne ≤ 150 := by have := hE.1.length; simp only at hl2; omega
          have HFD : Hid (foundL L m key seq = findL L key seq) := by
            show foundL L m key seq = _
            exact found_yes (HOK.out _ (List.mem_of_getElem? hr))
          clear hr hE hrt hl1 hl2
          obtain ⟨wq, hwq⟩ : ∃ wq, wq = wr.alloc (.cells #[.slice s ne ce, .int .i64 m] 102) := ⟨_, rfl⟩
          have kq : Below wr.heap.size wr wq := by rw [hwq]; exact (Below.refl _ _).alloc (Nat.le_refl _) _
          have CF : Hid (Calls Tryz.prog 91 #[.agg #[.slice s ne ce, .int .i64 m], .string key, .int .i64 seq] wq (FoundV (findL L key seq) wq)) := by
            have h := implFind s ne ce L m key seq wq (HEL.out.keep kq) (by omega)
            rw [HFD.out] at h
            exact h
          have HBQ : Hid (Below w.heap.size w wq) := HB.out.trans (kq.mono HB.out.size)
          have HBWQ : Hid (Below W.heap.size W wq) := HBW.out.trans (kq.mono HBW.out.size)
          have HOQ : Hid (OwnE wq W.heap.size g n c (G ++ findB (BB.take j) key seq)) := HO.out.below kq
          clear kq
          go_wp2_with fail
          rw [← hwq]
          clear hwq
          refine CF.out.mono ?_
          intro e w1 hfv
          obtain ⟨ar, nr, cr, rfl, hOr, hb1⟩ := foundV_own hfv
          have HB1 : Hid (Below w.heap.size w w1) := HBQ.out.trans (hb1.mono HBQ.out.size)
          have HO1 : Hid (OwnE w1 W.heap.size g n c (G ++ findB (BB.take j) key seq)) := HOQ.out.below hb1
          have HBW1 : Hid (Below W.heap.size W w1) := HBWQ.out.trans (hb1.mono HBWQ.out.size)
          have HOR : Hid (OwnO w1 wq.heap.size ar nr cr (findL L key seq)) := hOr
          have hnr : nr ≤ 150 := by have h1 := hOr.entsAt.length; have h2 := find_len L key seq; have h3 := HEL.out.length; omega
          obtain ⟨nk', hnk⟩ : ∃ nk', nk' = n + nr := ⟨_, rfl⟩
          have HNK : Hid (nk' = n + nr) := hnk
          have HNB : Hid (nk' ≤ 2460 + 150 * (j + 1)) := by show _ ≤ _; omega
          have hnB : n ≤ 1048576 := by have := HN8.out; omega
          have hjB : j ≤ 8 := by have := HN8.out; omega
          clear hfv hOr hb1 hnk
          go_wp2_with (at_builtin; refine appEnts rfl _ _ rfl W.heap.size wq.heap.size g n c _ rfl HO1.out ar nr cr _ rfl HOR.out hnB (by omega) nk' HNK.out ?_; intro g2 c2 w2 hO2 hg2)
          go_roundw
          case rel =>
            refine ⟨j + 1, g2, nk', c2, by omega, by go_num, rfl, HNB.out, ?_, HB1.out.grown hg2 HB1.out.size (fun k e => by cases e; exact Nat.le_trans K0.out.size HO1.out.lt.1), HBW1.out.grown hg2 HBW1.out.size (fun k e => by cases e; exact HO1.out.lt.1)⟩
            rw [List.take_add_one, HGI.out]
            have e1 : findB (BB.take j ++ (some (L, m)).toList) key seq = findB (BB.take j) key seq ++ findL L key seq := by rw [findB_app]; simp [findB]
            rw [e1, ← List.append_assoc]
            exact hO2
          case measure => simp [intOf]; omega
        · have hltI : ¬ (j : Int) < ((nn : Nat) : Int) := by omega
          have hltJ : ¬ (j : Int) < nn := by omega
          have hjn : j = nn := by omega
          have HEND : Hid (OwnE wr W.heap.size g n c (M ++ ([A, B, C].take 3).flatMap (fun Z => findB Z key seq)) ∧ n ≤ 2460 + 1200) := by
            have h := HO.out
            rw [hjn, List.take_of_length_le (by rw [HNN.out]; omega)] at h
            refine ⟨?_, by have := HN8.out; omega⟩
            rw [HG.out, HFB.out] at h; simpa [List.take, List.flatMap_cons, List.append_assoc] using h
          clear hjn HO
          go_wp2
          go_roundw
          case rel => exact ⟨3, g, n, c, by omega, by go_num, rfl, by have := HEND.out.2; omega, HEND.out.1, HB.out, HBW.out⟩
          case measure => simp [intOf]
    | 3, _ =>
      have HO3 : Hid (OwnE wr W.heap.size gf nf cf (M ++ [A, B, C].flatMap (fun Z => findB Z key seq))) := HOX.out
      go_wp2_with fail
      refine (CA.out _ _ _ _ _ HO3.out (by omega)).mono ?_
      rintro e w2 ⟨rfl, hb2⟩
      have K2 : Hid (Below w.heap.size w w2) := HBX.out.trans (hb2.mono HBX.out.size)
      have hkk := HBW.out.trans (hb2.mono HBW.out.size)
      obtain ⟨r0, r1, r2, rf, rz⟩ := HRB.out
      have r0 := cell_later hkk r0
      have r1 := cell_later hkk r1
      have r2 := cell_later hkk r2
      have rf : ∀ o, w2.frozen? ⟨X + 1, o, none⟩ = false := fun o => (hkk.frozen (p := ⟨X + 1, o, none⟩) rz).trans (rf o)
      have rz := Nat.lt_of_lt_of_le rz hkk.size
      clear hb2 hkk
      go_wp2
      refine bodyPost_ret (v := .agg #[.bool rb, .string rt, .int .i64 rn]) ?_ rfl ⟨rfl, ?_⟩
      · have e0' : (((w2.setCell ⟨X + 1, 0, none⟩ (.bool rb)).setCell ⟨X + 1, 1, none⟩ (.string rt)).setCell ⟨X + 1, 2, none⟩ (.int .i64 rn)).cell? ⟨X + 1, 0, none⟩ = some (.bool rb) := by rw [World.cell?_setCell_other _ _ _ _ (by simp), World.cell?_setCell_other _ _ _ _ (by simp)]; exact World.cell?_setCell_same' _ _ _ (by rw [r0]; rfl)
        have e1' : (((w2.setCell ⟨X + 1, 0, none⟩ (.bool rb)).setCell ⟨X + 1, 1, none⟩ (.string rt)).setCell ⟨X + 1, 2, none⟩ (.int .i64 rn)).cell? ⟨X + 1, 1, none⟩ = some (.string rt) := by rw [World.cell?_setCell_other _ _ _ _ (by simp)]; exact World.cell?_setCell_same' _ _ _ (by rw [World.cell?_setCell_other _ _ _ _ (by simp), r1]; rfl)
        have e2' : (((w2.setCell ⟨X + 1, 0, none⟩ (.bool rb)).setCell ⟨X + 1, 1, none⟩ (.string rt)).setCell ⟨X + 1, 2, none⟩ (.int .i64 rn)).cell? ⟨X + 1, 2, none⟩ = some (.int .i64 rn) := World.cell?_setCell_same' _ _ _ (by rw [World.cell?_setCell_other _ _ _ _ (by simp), World.cell?_setCell_other _ _ _ _ (by simp), r2]; rfl)
        simp [results, Tryz.results54, go_sem, e0', e1', e2']
      · have hx : w.heap.size ≤ X + 1 := by have := HX.out; omega
        exact ((K2.out.setCell (p := ⟨X + 1, 0, none⟩) hx _).setCell (p := ⟨X + 1, 1, none⟩) hx _).setCell (p := ⟨X + 1, 2, none⟩) hx _
end Go.Proofs.YtlmgojlffgkciaaGreat
