/-
  The document's l5Cell: what it answers at a right tree, by a walk of its Go text.
-/
import Derived.Laws.Cover1
import Derived.Test.YtlmgojlffgkciaaGreatCe18
import Derived.Test.YtlmgojlffgkciaaGreatCe28
import Derived.Test.YtlmgojlffgkciaaGreatCe46
import Derived.Test.YtlmgojlffgkciaaGreatCe37
import Derived.Test.YtlmgojlffgkciaaGreatCe24
import Derived.Test.YtlmgojlffgkciaaGreatCe38
namespace Go.Proofs.YtlmgojlffgkciaaGreat
open Go.RowKit
set_option maxRecDepth 100000
set_option maxHeartbeats 16000000
theorem specCell5 (lo : Nat) (q : Int) (am : Option Addr) (nm cm b off cv : Nat) (ak : Option Addr) (ns cs : Nat) (M : List EntD) (A B C : List RunD) (S : List Int) (key : ByteArray) (seq : Int) (w : World) (hT : TreeIn lo w am nm cm (some ⟨b, off, none⟩) 3 cv ak ns cs M [A, B, C] S) (hnm : nm ≤ 60) (hl : ∀ Z ∈ [A, B, C], Z.length ≤ 8) (hok : ∀ Z ∈ [A, B, C], ∀ r ∈ Z, runB r.1 r.2 = true) :
    Calls Tryz.prog 52 #[.agg #[.int .i64 q, .slice am nm cm, .slice (some ⟨b, off, none⟩) 3 cv, .slice ak ns cs], .string key, .int .i64 seq] w fun e w' => e = .returned (cellV (cellL (findL M key seq ++ [A, B, C].flatMap (fun Z => findB Z key seq)) key seq)) ∧ Below w.heap.size w w' := by
  have HT : Hid (TreeIn lo w am nm cm (some ⟨b, off, none⟩) 3 cv ak ns cs M [A, B, C] S) := hT
  have HL8 : Hid (∀ Z ∈ [A, B, C], Z.length ≤ 8) := hl
  have HOKA : Hid (∀ Z ∈ [A, B, C], ∀ r ∈ Z, runB r.1 r.2 = true) := hok
  obtain ⟨RC, hRC⟩ : ∃ RC, RC = cellV (cellL (findL M key seq ++ [A, B, C].flatMap (fun Z => findB Z key seq)) key seq) := ⟨_, rfl⟩
  have CA : Hid (∀ (base g n c : Nat) (w' : World), OwnE w' base g n c (findL M key seq ++ [A, B, C].flatMap (fun Z => findB Z key seq)) → n ≤ 1048576 → Calls Tryz.prog 87 #[.slice (some ⟨g, 0, none⟩) n c, .string key, .int .i64 seq] w' fun e w'' => e = .returned RC ∧ Below w'.heap.size w' w'') := fun base g n c w' h hn => by
    rw [hRC]
    exact specCellAll _ n c _ key seq w' h.entsAt hn
  obtain ⟨rb, rt, rn, hRV⟩ : ∃ (rb : Bool) (rt : ByteArray) (rn : Int), RC = .agg #[.bool rb, .string rt, .int .i64 rn] := by
    rw [hRC]
    exact ⟨_, _, _, rfl⟩
  rw [← hRC]
  clear hRC
  subst hRV
  obtain ⟨FM, hFM⟩ : ∃ FM, FM = findL M key seq := ⟨_, rfl⟩
  have HFM : Hid (FM.length ≤ nm) := by have h1 := find_len M key seq; have h2 := hT.mem.1.length; show _ ≤ _; rw [hFM]; omega
  obtain ⟨X, hX⟩ : ∃ X, X = w.heap.size := ⟨_, rfl⟩
  obtain ⟨W, hW⟩ : ∃ W, W = (w.alloc (.cells #[.int .i64 q, .slice am nm cm, .slice (some ⟨b, off, none⟩) 3 cv, .slice ak ns cs] 31)).alloc (.cells #[.bool false, .string ⟨#[]⟩, .int .i64 0] 41) := ⟨_, rfl⟩
  have kW : Below w.heap.size w W := by rw [hW]; exact ((Below.refl _ _).alloc (Nat.le_refl _) _).alloc (by simp) _
  have bx : Box4 W X (.int .i64 q) (.slice am nm cm) (.slice (some ⟨b, off, none⟩) 3 cv) (.slice ak ns cs) := by rw [hW, hX]; exact (Box4.new _ _ _ _ _ _).alloc _
  have CC : Hid (Calls Tryz.prog 86 #[.slice am nm cm, .string key, .int .i64 seq] W fun e w' => ∃ g n c, e = .returned (.slice (some ⟨g, 0, none⟩) n c) ∧ OwnE w' W.heap.size g n c FM ∧ Below W.heap.size W w') := by rw [hFM]; exact specFindL am nm cm M key seq W (hT.mem.1.keep kW) (by omega)
  rw [← hFM] at CA
  have K0 : Hid (Below w.heap.size w W) := kW
  have HX : Hid (X = w.heap.size) := hX
  have HX2 : Hid (∀ w', Below W.heap.size W w' → w'.cell? ⟨X, 2, none⟩ = some (.slice (some ⟨b, off, none⟩) 3 cv) ∧ X < w'.heap.size) := fun w' k => ⟨cell_later k bx.c2, Nat.lt_of_lt_of_le bx.lt k.size⟩
  have HRB : Hid (W.cell? ⟨X + 1, 0, none⟩ = some (.bool false) ∧ W.cell? ⟨X + 1, 1, none⟩ = some (.string ⟨#[]⟩) ∧ W.cell? ⟨X + 1, 2, none⟩ = some (.int .i64 0) ∧ (∀ o, W.frozen? ⟨X + 1, o, none⟩ = false) ∧ X + 1 < W.heap.size) := by
    rw [hW, hX]
    refine ⟨?_, ?_, ?_, fun o => ?_, ?_⟩ <;> simp
  have x1 := bx.c1
  have xz := bx.lt
  clear kW bx hT hl hok hFM
  go_enter Tryz.func52, Tryz.ntmps52
  go_wp2_with fail
  rw [← hX, ← hW]
  clear hX hW x1 xz
  refine CC.out.mono ?_
  rintro e w1 ⟨g, n, c, rfl, hO1, hb1⟩
  have HO1 : Hid (OwnE w1 W.heap.size g n c FM) := hO1
  have hnn : n ≤ 60 := by have h1 := hO1.len; have h2 := HFM.out; omega
  have HK1 : Hid (Below W.heap.size W w1) := hb1
  clear hb1 hO1 CC
  go_wp2
  go_loopw [7, 8] (fun fv kv wr => ∃ (k gf nf cf : Nat), k ≤ 3 ∧ kv = .int .i64 k ∧ fv = .slice (some ⟨gf, 0, none⟩) nf cf ∧ nf ≤ 60 + 1200 * k ∧ OwnE wr W.heap.size gf nf cf (FM ++ ([A, B, C].take k).flatMap (fun Z => findB Z key seq)) ∧ Below W.heap.size W wr) (fun _ kv _ => 3 - (intOf kv).toNat)
  case atStart => exact ⟨0, g, n, c, by omega, rfl, rfl, by omega, by simpa using HO1.out, HK1.out⟩
  case round =>
    clear HO1 HK1
    obtain ⟨k, gf, nf, cf, hk, rfl, rfl, hnf, hOX, hbW⟩ := hrel
    have HOX : Hid (OwnE wr W.heap.size gf nf cf (FM ++ ([A, B, C].take k).flatMap (fun Z => findB Z key seq))) := hOX
    have HBW : Hid (Below W.heap.size W wr) := hbW
    clear hOX hbW
    obtain ⟨x2, xz⟩ := HX2.out _ HBW.out
    by_cases hk3 : k < 3
    · have hk3I : (k : Int) < 3 := by omega
      have HKW : Hid (∀ w', Below W.heap.size W w' → Below w.heap.size w w') := fun w' kk => K0.out.trans (kk.mono K0.out.size)
      obtain ⟨Z, sz, nz, cz, hZ, gz, hRZ⟩ := HT.out.levels.level (HKW.out _ HBW.out) k hk3
      have hbz := (HT.out.levels.lies _ rfl (by omega)).1
      simp only at hbz
      have HCZ : Hid (∀ w', Below W.heap.size W w' → w'.cell? ⟨b, off + k, none⟩ = some (.slice sz nz cz) ∧ b < w'.heap.size ∧ RunsIn lo w' sz nz cz Z) := fun w' kk => by
        obtain ⟨Z', sz', nz', cz', hZ', gz', hRZ'⟩ := HT.out.levels.level (HKW.out _ kk) k hk3
        rw [hZ] at hZ'
        cases hZ'
        have e1 : wr.cell? ⟨b, off + k, none⟩ = w.cell? ⟨b, off + k, none⟩ := World.cell?_of_block ((HKW.out _ HBW.out).block b hbz)
        have e2 : w'.cell? ⟨b, off + k, none⟩ = w.cell? ⟨b, off + k, none⟩ := World.cell?_of_block ((HKW.out _ kk).block b hbz)
        rw [e2, ← e1, gz] at gz'
        cases gz'
        exact ⟨by rw [e2, ← e1]; exact gz, Nat.lt_of_lt_of_le hbz (HKW.out _ kk).size, hRZ'⟩
      have HZM : Hid (Z ∈ [A, B, C]) := List.mem_of_getElem? hZ
      have HNZ : Hid (Z.length = nz) := hRZ.length
      have HZK : Hid ([A, B, C][k]? = some Z) := hZ
      have hnz : nz ≤ 8 := by have h1 := HL8.out Z HZM.out; have h2 := HNZ.out; omega
      obtain ⟨G, hG⟩ : ∃ G, G = FM ++ ([A, B, C].take k).flatMap (fun Z => findB Z key seq) := ⟨_, rfl⟩
      have HG : Hid (G = FM ++ ([A, B, C].take k).flatMap (fun Z => findB Z key seq)) := hG
      have HOF : Hid (OwnE wr W.heap.size gf nf cf G) := by rw [hG]; exact HOX.out
      have HBF : Hid (Below W.heap.size W wr) := HBW.out
      clear hG HOX gz hRZ hZ hbz
      go_wp2
      clear x2 xz
      go_loopw [7, 9] (fun fv jv wr => ∃ (j g n c : Nat), j ≤ nz ∧ jv = .int .i64 j ∧ fv = .slice (some ⟨g, 0, none⟩) n c ∧ n ≤ 60 + 1200 * k + 150 * j ∧ OwnE wr W.heap.size g n c (G ++ findB (Z.take j) key seq) ∧ Below W.heap.size W wr) (fun _ jv _ => nz - (intOf jv).toNat)
      case atStart => exact ⟨0, gf, nf, cf, Nat.zero_le _, rfl, rfl, by omega, by simpa [findB] using HOF.out, HBF.out⟩
      case round =>
        clear HOF HBF HBW
        obtain ⟨j, g, n, c, hj, rfl, rfl, hn, hO, hb⟩ := hrel
        have HO : Hid (OwnE wr W.heap.size g n c (G ++ findB (Z.take j) key seq)) := hO
        have HB : Hid (Below W.heap.size W wr) := hb
        clear hO hb
        obtain ⟨x2, xz⟩ := HX2.out _ HB.out
        obtain ⟨gz, gbz, _⟩ := HCZ.out _ HB.out
        by_cases hlt : j < nz
        · have hltI : (j : Int) < (nz : Int) := by omega
          have hRZ := (HCZ.out _ HB.out).2.2
          obtain ⟨bz, oz, rfl, hbz⟩ := hRZ.form (by omega)
          obtain ⟨L, m, s, ne, ce, hr, hmw, g0, g1, hE⟩ := hRZ.run (Below.refl _ wr) j hlt
          have HGI : Hid (Z[j]? = some (L, m)) := hr
          obtain ⟨hrt, hl1, hl2⟩ := run_parts (HOKA.out Z HZM.out _ (List.mem_of_getElem? hr))
          simp only at hrt hl1 hl2
          have HRT : Hid (rightB L = true) := hrt
          have hel := hE.1.length
          have HEL : Hid (∀ w', Below wr.heap.size wr w' → EntsAt w' s ne ce L) := fun w' kk => hE.1.keep kk
          have hne : ne ≤ 150 := by omega
          have hne1 : 1 ≤ ne := by omega
          obtain ⟨be, oe, rfl, hbe⟩ := hE.1.form hne1
          obtain ⟨s0, q0, d0, t0, m0, hg0, _, z0, _⟩ := hE.1.ent (Below.refl _ wr) hbe 0 (by omega)
          obtain ⟨s1, q1, d1, t1, m1, hg1, _, z1, _⟩ := hE.1.ent (Below.refl _ wr) hbe (ne - 1) (by omega)
          simp only [Nat.zero_mul, Nat.add_zero] at z0
          have HLO : Hid (lowK L = s0) := by show lowK L = s0; unfold lowK; rw [hg0]
          have HHI : Hid (highK L = s1) := by show highK L = s1; unfold highK; rw [hel, hg1]
          have hj1 : (0 : Int) ≤ (ne : Int) - 1 := by omega
          have hj2 : (ne : Int) - 1 < (ne : Int) := by omega
          have hjt : ((ne : Int) - 1).toNat = ne - 1 := by omega
          have hpos : (0 : Int) < (ne : Int) := by omega
          have wj : IntKind.i64.wrap ((ne : Int) - 1) = (ne : Int) - 1 := by rw [IntWalk.i64_left]; unfold wrap64; omega
          have hjB : j ≤ 8 := by omega
          have hnB : n ≤ 1048576 := by omega
          have HSK : Hid (findL L key seq = [] → OwnE wr W.heap.size g n c (G ++ findB (Z.take (j + 1)) key seq)) := fun h0 => by
            have e1 : findB (Z.take (j + 1)) key seq = findB (Z.take j) key seq := by
              rw [List.take_add_one, HGI.out, findB_app]
              simp [findB, h0]
            rw [e1]
            exact HO.out
          clear hr hrt hl1 hl2 hE hg0 hg1 hRZ hel
          cases h1 : Op.bytesLess key.toList s0.toList with
          | true =>
            have HS : Hid (OwnE wr W.heap.size g n c (G ++ findB (Z.take (j + 1)) key seq)) := HSK.out (find_none_low HRT.out (by rw [HLO.out]; exact h1))
            go_wp2
            go_roundw
            case rel => exact ⟨j + 1, g, n, c, by omega, by go_num, rfl, by omega, HS.out, HB.out⟩
            case measure => simp [intOf]; omega
          | false =>
            by_cases h2 : Op.bytesLess s1.toList key.toList = true
            · have h3 : Op.bytesLess key.toList s1.toList = false := bless_asymm _ _ h2
              have h4 : (key.toList == s1.toList) = false := by
                rw [beq_eq_false_iff_ne]
                intro e
                rw [e, bless_self] at h2
                cases h2
              have HS : Hid (OwnE wr W.heap.size g n c (G ++ findB (Z.take (j + 1)) key seq)) := HSK.out (find_none_high HRT.out (by rw [HHI.out]; exact h2))
              clear h2
              go_wp2
              go_roundw
              case rel => exact ⟨j + 1, g, n, c, by omega, by go_num, rfl, by omega, HS.out, HB.out⟩
              case measure => simp [intOf]; omega
            · have h3 : (Op.bytesLess key.toList s1.toList || key.toList == s1.toList) = true := by
                by_cases he : key.toList = s1.toList
                · rw [he]; simp
                · rcases bless_total _ _ he with h | h
                  · rw [h]; rfl
                  · exact absurd h h2
              have CF : Hid (Calls Tryz.prog 86 #[.slice (some ⟨be, oe, none⟩) ne ce, .string key, .int .i64 seq] wr fun e w' => ∃ g n c, e = .returned (.slice (some ⟨g, 0, none⟩) n c) ∧ OwnE w' wr.heap.size g n c (findL L key seq) ∧ Below wr.heap.size wr w') := specFindL _ ne ce L key seq wr (HEL.out _ (Below.refl _ _)) (by omega)
              clear h2
              go_wp2_with fail
              refine CF.out.mono ?_
              rintro e w1 ⟨gr, nr, cr, rfl, hOr, hb1⟩
              have HB1 : Hid (Below W.heap.size W w1) := HB.out.trans (hb1.mono HB.out.size)
              have HO1 : Hid (OwnE w1 W.heap.size g n c (G ++ findB (Z.take j) key seq)) := HO.out.below hb1
              have HOR : Hid (OwnO w1 wr.heap.size (some ⟨gr, 0, none⟩) nr cr (findL L key seq)) := OwnO.some hOr
              have hnr : nr ≤ 150 := by have h1 := hOr.len; have h2 := find_len L key seq; have h3 := (HEL.out _ (Below.refl _ _)).length; omega
              obtain ⟨nk', hnk⟩ : ∃ nk', nk' = n + nr := ⟨_, rfl⟩
              have HNK : Hid (nk' = n + nr) := hnk
              have HNB : Hid (nk' ≤ 60 + 1200 * k + 150 * (j + 1)) := by show _ ≤ _; omega
              clear hOr hb1 hnk x2 xz gz gbz g0 g1 z0 z1
              go_wp2_with (at_builtin; refine appEnts rfl _ _ rfl W.heap.size wr.heap.size g n c _ rfl HO1.out _ nr cr _ rfl HOR.out hnB (by omega) nk' HNK.out ?_; intro g2 c2 w2 hO2 hg2)
              go_roundw
              case rel =>
                refine ⟨j + 1, g2, nk', c2, by omega, by go_num, rfl, HNB.out, ?_, HB1.out.grown hg2 HB1.out.size (fun k e => by cases e; exact HO1.out.lt.1)⟩
                rw [List.take_add_one, HGI.out]
                have e1 : findB (Z.take j ++ (some (L, m)).toList) key seq = findB (Z.take j) key seq ++ findL L key seq := by rw [findB_app]; simp [findB]
                rw [e1, ← List.append_assoc]
                exact hO2
              case measure => simp [intOf]; omega
        · have hltI : ¬ (j : Int) < (nz : Int) := by omega
          have hjn : j = nz := by omega
          have HEND : Hid (OwnE wr W.heap.size g n c (FM ++ ([A, B, C].take (k + 1)).flatMap (fun Z => findB Z key seq)) ∧ n ≤ 60 + 1200 * (k + 1)) := by
            have h := HO.out
            rw [hjn, List.take_of_length_le (by rw [HNZ.out]; omega)] at h
            refine ⟨?_, by omega⟩
            rw [HG.out] at h
            rw [List.take_add_one, HZK.out, List.flatMap_append, ← List.append_assoc]
            simpa using h
          clear hjn HO
          go_wp2
          go_roundw
          case rel => exact ⟨k + 1, g, n, c, by omega, by go_num, rfl, HEND.out.2, HEND.out.1, HB.out⟩
          case measure => simp [intOf]; omega
    · have hk3I : ¬ (k : Int) < 3 := by omega
      obtain rfl : k = 3 := by omega
      have HO3 : Hid (OwnE wr W.heap.size gf nf cf (FM ++ [A, B, C].flatMap (fun Z => findB Z key seq))) := HOX.out
      go_wp2_with fail
      clear x2 xz
      refine (CA.out _ _ _ _ _ HO3.out (by omega)).mono ?_
      rintro e w2 ⟨rfl, hb2⟩
      have hkk := HBW.out.trans (hb2.mono HBW.out.size)
      have K2 : Hid (Below w.heap.size w w2) := K0.out.trans (hkk.mono K0.out.size)
      obtain ⟨r0, r1, r2, rf, rz⟩ := HRB.out
      have r0 := cell_later hkk r0
      have r1 := cell_later hkk r1
      have r2 := cell_later hkk r2
      have rf : ∀ o, w2.frozen? ⟨X + 1, o, none⟩ = false := fun o => (hkk.frozen (p := ⟨X + 1, o, none⟩) rz).trans (rf o)
      have rz := Nat.lt_of_lt_of_le rz hkk.size
      clear hb2 hkk
      go_wp2
      refine bodyPost_ret (v := .agg #[.bool rb, .string rt, .int .i64 rn]) ?_ rfl ⟨rfl, ?_⟩
      · have e0' : (((w2.setCell ⟨X + 1, 0, none⟩ (.bool rb)).setCell ⟨X + 1, 1, none⟩ (.string rt)).setCell ⟨X + 1, 2, none⟩ (.int .i64 rn)).cell? ⟨X + 1, 0, none⟩ = some (.bool rb) := by rw [World.cell?_setCell_other _ _ _ _ (by simp), World.cell?_setCell_other _ _ _ _ (by simp)]; exact World.cell?_setCell_same' _ _ _ (by rw [r0]; rfl)
        have e1' : (((w2.setCell ⟨X + 1, 0, none⟩ (.bool rb)).setCell ⟨X + 1, 1, none⟩ (.string rt)).setCell ⟨X + 1, 2, none⟩ (.int .i64 rn)).cell? ⟨X + 1, 1, none⟩ = some (.string rt) := by rw [World.cell?_setCell_other _ _ _ _ (by simp)]; exact World.cell?_setCell_same' _ _ _ (by rw [World.cell?_setCell_other _ _ _ _ (by simp), r1]; rfl)
        have e2' : (((w2.setCell ⟨X + 1, 0, none⟩ (.bool rb)).setCell ⟨X + 1, 1, none⟩ (.string rt)).setCell ⟨X + 1, 2, none⟩ (.int .i64 rn)).cell? ⟨X + 1, 2, none⟩ = some (.int .i64 rn) := World.cell?_setCell_same' _ _ _ (by rw [World.cell?_setCell_other _ _ _ _ (by simp), World.cell?_setCell_other _ _ _ _ (by simp), r2]; rfl)
        simp [results, Tryz.results52, go_sem, e0', e1', e2']
      · have hx : w.heap.size ≤ X + 1 := by have := HX.out; omega
        exact ((K2.out.setCell (p := ⟨X + 1, 0, none⟩) hx _).setCell (p := ⟨X + 1, 1, none⟩) hx _).setCell (p := ⟨X + 1, 2, none⟩) hx _
end Go.Proofs.YtlmgojlffgkciaaGreat
