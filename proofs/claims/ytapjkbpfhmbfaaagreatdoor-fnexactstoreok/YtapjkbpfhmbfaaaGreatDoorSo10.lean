/-
  What the document's l9Num answers at every text, by walks of its Go text.
  The document's number at a place of a text, by a walk of its Go text.
  The document's number at a place of a text, or at none, by a walk of its Go text.
-/
import Derived.Deep.RegionWith
import Derived.Deep.DeepCutAuto
import Derived.Test.YtapjkbpfhmbfaaaGreatDoorSo00
import Derived.Test.YtapjkbpfhmbfaaaGreatDoorSo01
import Derived.Test.YtapjkbpfhmbfaaaGreatDoorSo05
namespace Go.Proofs.YtapjkbpfhmbfaaaGreatDoor
open Go.RowKit
set_option maxRecDepth 100000
set_option maxHeartbeats 4000000
def NumR (l : List UInt8) (n : Int) (b : Bool) : Prop := (∀ m, -10000000 ≤ m → m ≤ 10000000 → l = Lib.itoa m → n = m ∧ b = true) ∧ -100000000000000000 ≤ n ∧ n ≤ 100000000000000000
def NumE (l : List UInt8) (e : Ending) : Prop := ∃ n b, e = .returned (.tuple #[.int .i64 n, .bool b]) ∧ NumR l n b
theorem drop_atQ (t : ByteArray) (pos : Nat) (h : pos < t.size) : t.data.toList.drop pos = t[pos] :: t.data.toList.drop (pos + 1) := by
  have h' : pos < t.data.toList.length := by rw [Array.length_toList]; exact h
  rw [List.drop_eq_getElem_cons h']
  rfl
theorem take_atQ (t : ByteArray) (pos : Nat) (h : pos < t.size) : t.data.toList.take (pos + 1) = t.data.toList.take pos ++ [t[pos]] := by
  have h' : pos < t.data.toList.length := by rw [Array.length_toList]; exact h
  rw [List.take_succ_eq_append_getElem h']
  rfl
theorem bytes_cut (s : ByteArray) (i j : Nat) : (s.extract i j).data.toList = (s.data.toList.drop i).take (j - i) := by
  simp [ByteArray.data_extract, List.extract_eq_take_drop]
def DigQ (neg : Bool) (U : List UInt8) : Prop := 1 ≤ U.length ∧ U.length ≤ 8 ∧ U.all digC = true ∧ ∀ r, U = 48 :: r → (r = [] ∧ neg = false)
theorem digQ_pos {U : List UInt8} {m : Int} (m0 : -10000000 ≤ m) (m1 : m ≤ 10000000) (h45 : ∀ r, U ≠ 45 :: r) (e : U = Lib.itoa m) : DigQ false U ∧ (dv U : Int) = m := by
  rcases itoa_cases m m0 m1 with ⟨k, k1, rfl, e1, e2⟩ | ⟨k, rfl, e1, e2⟩
  · exact absurd (e.trans e1) (h45 _)
  · have eU : U = Lib.decDigits k := e.trans e1
    subst eU
    refine ⟨⟨?_, e2, digits_all k, fun r hr => ⟨?_, rfl⟩⟩, by rw [dv_digits]⟩
    · rw [Lib.decDigits_length]; exact Lib.nDigits_pos k
    · rcases Nat.eq_zero_or_pos k with rfl | hk
      · rw [Lib.decDigits_one (by decide)] at hr
        exact (List.cons.inj hr).2.symm
      · exact absurd hr (digits_head k hk r)
theorem digQ_neg {U : List UInt8} {m : Int} (m0 : -10000000 ≤ m) (m1 : m ≤ 10000000) (e : 45 :: U = Lib.itoa m) : DigQ true U ∧ -(dv U : Int) = m := by
  rcases itoa_cases m m0 m1 with ⟨k, k1, rfl, e1, e2⟩ | ⟨k, rfl, e1, e2⟩
  · have eU : U = Lib.decDigits k := (List.cons.inj (e.trans e1)).2
    subst eU
    refine ⟨⟨?_, e2, digits_all k, fun r hr => absurd hr (digits_head k k1 r)⟩, by rw [dv_digits]⟩
    rw [Lib.decDigits_length]; exact Lib.nDigits_pos k
  · have := digits_all k
    rw [← e1, ← e] at this
    simp only [List.all_cons, Bool.and_eq_true] at this
    exact absurd this.1 (by decide)
theorem specNum_neg (s : ByteArray) (w : World) (hs : s.size ≤ 1048576) (h1 : 0 < s.size) (h45 : s[0] = 45) :
    Calls Tryz.prog 237 #[.string s] w fun e w' => NumE s.data.toList e ∧ w = w' := by
  have hI : (0 : Int) < (s.size : Int) := by omega
  have hb0 : ((s[0]).toNat : Int) = 45 := by rw [h45]; rfl
  obtain ⟨u, hu⟩ : ∃ u, u = s.extract 1 s.size := ⟨_, rfl⟩
  have eU : s.data.toList = 45 :: u.data.toList := by
    have h2 := drop_atQ s 0 h1
    rw [List.drop_zero, h45] at h2
    rw [h2, hu]
    congr 1
    rw [bytes_cut]
    simp
    exact (List.take_of_length_le (by simp)).symm
  have HUL : Hid (u.data.toList.length = u.size) := by show _ = _; rw [Array.length_toList]; rfl
  have hus : u.size ≤ 1048576 := by have h3 := congrArg List.length eU; rw [Array.length_toList, List.length_cons, HUL.out] at h3; have : s.data.size = s.size := rfl; omega
  have HQ : Hid (∀ m, -10000000 ≤ m → m ≤ 10000000 → s.data.toList = Lib.itoa m → DigQ true u.data.toList ∧ -(dv u.data.toList : Int) = m) := fun m m0 m1 e => digQ_neg m0 m1 (eU.symm.trans e)
  clear eU
  go_enter Tryz.func237, Tryz.ntmps237
  go_upto_region 4 with fail
  rw [← hu]
  clear hu hb0 hI h45 h1 hs
  by_cases z0 : u.size = 0
  · have z0' : (u.size : Int) = 0 := by omega
    have z0b : ((u.size : Int) == 0) = true := by simpa using z0'
    have z0d : decide ((u.size : Int) = 0) = true := decide_eq_true z0'
    have Z0 : Hid (u.size = 0) := z0
    clear z0' z0
    go_wp2
    go_ret2
    exact ⟨⟨0, false, rfl, fun m m0 m1 e => absurd (HQ.out m m0 m1 e).1 (fun h => by have := h.1; rw [HUL.out] at this; have := Z0.out; omega), by omega, by omega⟩, rfl⟩
  have z0b : ((u.size : Int) == 0) = false := by rw [beq_eq_false_iff_ne]; omega
  have z0i : ¬ (u.size : Int) = 0 := by omega
  by_cases z17 : (17 : Int) < (u.size : Int)
  · go_wp2
    go_ret2
    exact ⟨⟨0, false, rfl, fun m m0 m1 e => absurd (HQ.out m m0 m1 e).1 (fun h => by have := h.2.1; rw [HUL.out] at this; omega), by omega, by omega⟩, rfl⟩
  have zp : 0 < u.size := by omega
  have zpI : (0 : Int) < (u.size : Int) := by omega
  obtain ⟨c0, hc0⟩ : ∃ c0, c0 = u[0] := ⟨_, rfl⟩
  have HHEAD : Hid (u.data.toList = c0 :: u.data.toList.drop 1) := by
    have := drop_atQ u 0 zp
    rw [List.drop_zero, ← hc0] at this
    exact this
  have hix : u[0] = c0 := hc0.symm
  have HIX : Hid (u[0] = c0) := hix
  clear hc0
  by_cases z48 : c0 = 48
  · have hb48 : ((u[0]).toNat : Int) = 48 := by rw [hix, z48]; rfl
    have Z48 : Hid (c0 = 48) := z48
    clear z48 hix
    go_wp2
    all_goals
      go_ret2
      exact ⟨⟨0, false, rfl, fun m m0 m1 e => absurd (HQ.out m m0 m1 e).1 (fun h => by have := (h.2.2.2 _ (by rw [HHEAD.out, Z48.out])).2; cases this), by omega, by omega⟩, rfl⟩
  have hb48 : ¬ ((u[0]).toNat : Int) = 48 := by
    rw [hix]
    intro e
    apply z48
    apply UInt8.toNat_inj.1
    have e48 : (48 : UInt8).toNat = 48 := by decide
    omega
  have hb48b : (((u[0]).toNat : Int) == 48) = false := by simpa using hb48
  clear z48 hix
  go_wp2
  go_loop [5, 6] (fun n i => ∃ k N : Nat, k ≤ u.size ∧ i = .int .i64 k ∧ n = .int .i64 (N : Int) ∧ N = dv (u.data.toList.take k) ∧ (u.data.toList.take k).all digC = true) (fun _ i => u.size - (intOf i).toNat)
  case atStart => exact ⟨0, 0, Nat.zero_le _, rfl, rfl, rfl, rfl⟩
  case round =>
    obtain ⟨k, N, hk, rfl, rfl, hN, hall⟩ := hrel
    have HN : Hid (N = dv (u.data.toList.take k)) := hN
    have HALL : Hid ((u.data.toList.take k).all digC = true) := hall
    have hNlt : N < 100000000000000000 := by
      rw [hN]
      have h1 := dv_lt _ hall
      have h2 : (u.data.toList.take k).length ≤ 17 := by rw [List.length_take, HUL.out]; omega
      have h3 : 10 ^ (u.data.toList.take k).length ≤ 10 ^ 17 := Nat.pow_le_pow_right (by decide) h2
      have h4 : (10 : Nat) ^ 17 = 100000000000000000 := by decide
      omega
    clear hN hall
    by_cases hlt : k < u.size
    · have hltI : (k : Int) < (u.size : Int) := by omega
      obtain ⟨c, hc⟩ : ∃ c, c = u[k] := ⟨_, rfl⟩
      have hN16 : N < 10000000000000000 := by
        rw [HN.out]
        have h1 := dv_lt _ HALL.out
        have h2 : (u.data.toList.take k).length ≤ 16 := by rw [List.length_take, HUL.out]; omega
        have h3 : 10 ^ (u.data.toList.take k).length ≤ 10 ^ 16 := Nat.pow_le_pow_right (by decide) h2
        have h4 : (10 : Nat) ^ 16 = 10000000000000000 := by decide
        omega
      have HTK : Hid (u.data.toList.take (k + 1) = u.data.toList.take k ++ [c]) := by rw [hc]; exact take_atQ u k hlt
      have HMEM : Hid (c ∈ u.data.toList) := by
        have h0 : c ∈ u.data.toList.take (k + 1) := by rw [HTK.out]; simp
        exact List.mem_of_mem_take h0
      cases hd : digC c with
      | true =>
        have hd' := hd
        simp only [digC, Bool.and_eq_true, decide_eq_true_eq] at hd'
        have d1 : ¬ ((u[k]).toNat : Int) < 48 := by rw [← hc]; omega
        have d2 : ¬ (57 : Int) < ((u[k]).toNat : Int) := by rw [← hc]; omega
        have d3 : (48 : Int) ≤ ((u[k]).toNat : Int) := by omega
        have d4 : ((u[k]).toNat : Int) ≤ 57 := by omega
        have HD : Hid (digC c = true) := hd
        have HC : Hid (c = u[k]) := hc
        clear hd hc hd'
        go_wp2
        go_round
        case rel =>
          refine ⟨k + 1, N * 10 + (c.toNat - 48), by omega, by go_num, ?_, by rw [HTK.out, dv_snoc, ← HN.out], by rw [HTK.out, List.all_append, HALL.out]; simp [HD.out]⟩
          rw [HC.out]
          congr 1
          omega
        case measure => simp [intOf]; omega
      | false =>
        have hd' := hd
        simp only [digC, Bool.and_eq_false_iff, decide_eq_false_iff_not] at hd'
        have hb : ((u[k]).toNat : Int) < 48 ∨ (57 : Int) < ((u[k]).toNat : Int) := by rw [← hc]; omega
        have HD : Hid (digC c = false) := hd
        clear hd hc hd'
        rcases hb with hb | hb
        · go_wp2
          go_ret2
          exact ⟨⟨0, false, rfl, fun m m0 m1 e => absurd (HQ.out m m0 m1 e).1 (fun h => by have := List.all_eq_true.1 h.2.2.1 c HMEM.out; rw [HD.out] at this; cases this), by omega, by omega⟩, rfl⟩
        · go_wp2
          go_ret2
          exact ⟨⟨0, false, rfl, fun m m0 m1 e => absurd (HQ.out m m0 m1 e).1 (fun h => by have := List.all_eq_true.1 h.2.2.1 c HMEM.out; rw [HD.out] at this; cases this), by omega, by omega⟩, rfl⟩
    · have hkn : k = u.size := by omega
      have hNI : (N : Int) ≤ 100000000000000000 := by omega
      go_wp2
      go_ret2
      refine ⟨⟨-(N : Int), true, rfl, fun m m0 m1 e => ⟨?_, rfl⟩, by omega, by omega⟩, rfl⟩
      have := (HQ.out m m0 m1 e).2
      rw [HN.out, hkn, List.take_of_length_le (by rw [HUL.out]; exact Nat.le_refl _)]
      exact this
theorem specNum_pos (s : ByteArray) (w : World) (hs : s.size ≤ 1048576) (h45 : ∀ h : 0 < s.size, s[0] ≠ 45) :
    Calls Tryz.prog 237 #[.string s] w fun e w' => NumE s.data.toList e ∧ w = w' := by
  obtain ⟨u, hu⟩ : ∃ u, u = s := ⟨_, rfl⟩
  have HUL : Hid (u.data.toList.length = u.size) := by show _ = _; rw [Array.length_toList]; rfl
  have hus : u.size ≤ 1048576 := by rw [hu]; exact hs
  have h45' : ∀ r, s.data.toList ≠ 45 :: r := by
    intro r e
    have hp : 0 < s.size := by have h3 := congrArg List.length e; rw [Array.length_toList] at h3; simp at h3; have : s.data.size = s.size := rfl; omega
    have h2 := drop_atQ s 0 hp
    rw [List.drop_zero, e] at h2
    exact h45 hp (List.cons.inj h2).1.symm
  have HQ : Hid (∀ m, -10000000 ≤ m → m ≤ 10000000 → s.data.toList = Lib.itoa m → DigQ false u.data.toList ∧ (dv u.data.toList : Int) = m) := fun m m0 m1 e => by rw [hu]; exact digQ_pos m0 m1 h45' e
  subst hu
  by_cases y0 : u.size = 0
  · have z0' : (u.size : Int) = 0 := by omega
    have z0b : ((u.size : Int) == 0) = true := by simpa using z0'
    have z0d : decide ((u.size : Int) = 0) = true := decide_eq_true z0'
    have z0n : ¬ (0 : Int) < (u.size : Int) := by omega
    have Z0 : Hid (u.size = 0) := y0
    clear z0' y0
    go_enter Tryz.func237, Tryz.ntmps237
    go_wp2
    go_ret2
    exact ⟨⟨0, false, rfl, fun m m0 m1 e => absurd (HQ.out m m0 m1 e).1 (fun h => by have := h.1; rw [HUL.out] at this; have := Z0.out; omega), by omega, by omega⟩, rfl⟩
  have yp : 0 < u.size := by omega
  have ypI : (0 : Int) < (u.size : Int) := by omega
  have h45i : ¬ ((u[0]).toNat : Int) = 45 := by
    intro e
    apply h45 yp
    apply UInt8.toNat_inj.1
    have e45 : (45 : UInt8).toNat = 45 := by decide
    omega
  have h45b : (((u[0]).toNat : Int) == 45) = false := by simpa using h45i
  clear h45 h45' hs
  go_enter Tryz.func237, Tryz.ntmps237
  go_upto_region 4 with fail
  clear h45i h45b y0
  by_cases z0 : u.size = 0
  · have z0' : (u.size : Int) = 0 := by omega
    have z0b : ((u.size : Int) == 0) = true := by simpa using z0'
    have z0d : decide ((u.size : Int) = 0) = true := decide_eq_true z0'
    have Z0 : Hid (u.size = 0) := z0
    clear z0' z0
    go_wp2
    go_ret2
    exact ⟨⟨0, false, rfl, fun m m0 m1 e => absurd (HQ.out m m0 m1 e).1 (fun h => by have := h.1; rw [HUL.out] at this; have := Z0.out; omega), by omega, by omega⟩, rfl⟩
  have z0b : ((u.size : Int) == 0) = false := by rw [beq_eq_false_iff_ne]; omega
  have z0i : ¬ (u.size : Int) = 0 := by omega
  by_cases z17 : (17 : Int) < (u.size : Int)
  · go_wp2
    go_ret2
    exact ⟨⟨0, false, rfl, fun m m0 m1 e => absurd (HQ.out m m0 m1 e).1 (fun h => by have := h.2.1; rw [HUL.out] at this; omega), by omega, by omega⟩, rfl⟩
  have zp : 0 < u.size := by omega
  have zpI : (0 : Int) < (u.size : Int) := by omega
  obtain ⟨c0, hc0⟩ : ∃ c0, c0 = u[0] := ⟨_, rfl⟩
  have HHEAD : Hid (u.data.toList = c0 :: u.data.toList.drop 1) := by
    have := drop_atQ u 0 zp
    rw [List.drop_zero, ← hc0] at this
    exact this
  have hix : u[0] = c0 := hc0.symm
  have HIX : Hid (u[0] = c0) := hix
  clear hc0
  by_cases z48 : c0 = 48
  · have hb48 : ((u[0]).toNat : Int) = 48 := by rw [hix, z48]; rfl
    have hb48b : (((u[0]).toNat : Int) == 48) = true := by rw [hb48]; rfl
    have Z48 : Hid (c0 = 48) := z48
    by_cases z1 : (1 : Int) < (u.size : Int)
    · clear z48 hix hb48
      go_wp2
      go_ret2
      exact ⟨⟨0, false, rfl, fun m m0 m1 e => absurd (HQ.out m m0 m1 e).1 (fun h => by have := (h.2.2.2 _ (by rw [HHEAD.out, Z48.out])).1; have h2 := congrArg List.length this; simp only [List.length_drop, List.length_nil, HUL.out] at h2; omega), by omega, by omega⟩, rfl⟩
    · clear z48 hix hb48
      go_wp2
      go_loop [5, 6] (fun n i => ∃ k N : Nat, k ≤ u.size ∧ i = .int .i64 k ∧ n = .int .i64 (N : Int) ∧ N = dv (u.data.toList.take k) ∧ (u.data.toList.take k).all digC = true) (fun _ i => u.size - (intOf i).toNat)
      case atStart => exact ⟨0, 0, Nat.zero_le _, rfl, rfl, rfl, rfl⟩
      case round =>
        obtain ⟨k, N, hk, rfl, rfl, hN, hall⟩ := hrel
        have HN : Hid (N = dv (u.data.toList.take k)) := hN
        have HALL : Hid ((u.data.toList.take k).all digC = true) := hall
        have hNlt : N < 100000000000000000 := by
          rw [hN]
          have h1 := dv_lt _ hall
          have h2 : (u.data.toList.take k).length ≤ 17 := by rw [List.length_take, HUL.out]; omega
          have h3 : 10 ^ (u.data.toList.take k).length ≤ 10 ^ 17 := Nat.pow_le_pow_right (by decide) h2
          have h4 : (10 : Nat) ^ 17 = 100000000000000000 := by decide
          omega
        clear hN hall
        by_cases hlt : k < u.size
        · have hltI : (k : Int) < (u.size : Int) := by omega
          obtain ⟨c, hc⟩ : ∃ c, c = u[k] := ⟨_, rfl⟩
          have hN16 : N < 10000000000000000 := by
            rw [HN.out]
            have h1 := dv_lt _ HALL.out
            have h2 : (u.data.toList.take k).length ≤ 16 := by rw [List.length_take, HUL.out]; omega
            have h3 : 10 ^ (u.data.toList.take k).length ≤ 10 ^ 16 := Nat.pow_le_pow_right (by decide) h2
            have h4 : (10 : Nat) ^ 16 = 10000000000000000 := by decide
            omega
          have HTK : Hid (u.data.toList.take (k + 1) = u.data.toList.take k ++ [c]) := by rw [hc]; exact take_atQ u k hlt
          have HMEM : Hid (c ∈ u.data.toList) := by
            have h0 : c ∈ u.data.toList.take (k + 1) := by rw [HTK.out]; simp
            exact List.mem_of_mem_take h0
          cases hd : digC c with
          | true =>
            have hd' := hd
            simp only [digC, Bool.and_eq_true, decide_eq_true_eq] at hd'
            have d1 : ¬ ((u[k]).toNat : Int) < 48 := by rw [← hc]; omega
            have d2 : ¬ (57 : Int) < ((u[k]).toNat : Int) := by rw [← hc]; omega
            have d3 : (48 : Int) ≤ ((u[k]).toNat : Int) := by omega
            have d4 : ((u[k]).toNat : Int) ≤ 57 := by omega
            have HD : Hid (digC c = true) := hd
            have HC : Hid (c = u[k]) := hc
            clear hd hc hd'
            go_wp2
            go_round
            case rel =>
              refine ⟨k + 1, N * 10 + (c.toNat - 48), by omega, by go_num, ?_, by rw [HTK.out, dv_snoc, ← HN.out], by rw [HTK.out, List.all_append, HALL.out]; simp [HD.out]⟩
              rw [HC.out]
              congr 1
              omega
            case measure => simp [intOf]; omega
          | false =>
            have hd' := hd
            simp only [digC, Bool.and_eq_false_iff, decide_eq_false_iff_not] at hd'
            have hb : ((u[k]).toNat : Int) < 48 ∨ (57 : Int) < ((u[k]).toNat : Int) := by rw [← hc]; omega
            have HD : Hid (digC c = false) := hd
            clear hd hc hd'
            rcases hb with hb | hb
            · go_wp2
              go_ret2
              exact ⟨⟨0, false, rfl, fun m m0 m1 e => absurd (HQ.out m m0 m1 e).1 (fun h => by have := List.all_eq_true.1 h.2.2.1 c HMEM.out; rw [HD.out] at this; cases this), by omega, by omega⟩, rfl⟩
            · go_wp2
              go_ret2
              exact ⟨⟨0, false, rfl, fun m m0 m1 e => absurd (HQ.out m m0 m1 e).1 (fun h => by have := List.all_eq_true.1 h.2.2.1 c HMEM.out; rw [HD.out] at this; cases this), by omega, by omega⟩, rfl⟩
        · have hkn : k = u.size := by omega
          have hNI : (N : Int) ≤ 100000000000000000 := by omega
          go_wp2
          go_ret2
          refine ⟨⟨(N : Int), true, rfl, fun m m0 m1 e => ⟨?_, rfl⟩, by omega, by omega⟩, rfl⟩
          have := (HQ.out m m0 m1 e).2
          rw [HN.out, hkn, List.take_of_length_le (by rw [HUL.out]; exact Nat.le_refl _)]
          exact this
  have hb48 : ¬ ((u[0]).toNat : Int) = 48 := by
    rw [hix]
    intro e
    apply z48
    apply UInt8.toNat_inj.1
    have e48 : (48 : UInt8).toNat = 48 := by decide
    omega
  have hb48b : (((u[0]).toNat : Int) == 48) = false := by simpa using hb48
  clear z48 hix
  go_wp2
  go_loop [5, 6] (fun n i => ∃ k N : Nat, k ≤ u.size ∧ i = .int .i64 k ∧ n = .int .i64 (N : Int) ∧ N = dv (u.data.toList.take k) ∧ (u.data.toList.take k).all digC = true) (fun _ i => u.size - (intOf i).toNat)
  case atStart => exact ⟨0, 0, Nat.zero_le _, rfl, rfl, rfl, rfl⟩
  case round =>
    obtain ⟨k, N, hk, rfl, rfl, hN, hall⟩ := hrel
    have HN : Hid (N = dv (u.data.toList.take k)) := hN
    have HALL : Hid ((u.data.toList.take k).all digC = true) := hall
    have hNlt : N < 100000000000000000 := by
      rw [hN]
      have h1 := dv_lt _ hall
      have h2 : (u.data.toList.take k).length ≤ 17 := by rw [List.length_take, HUL.out]; omega
      have h3 : 10 ^ (u.data.toList.take k).length ≤ 10 ^ 17 := Nat.pow_le_pow_right (by decide) h2
      have h4 : (10 : Nat) ^ 17 = 100000000000000000 := by decide
      omega
    clear hN hall
    by_cases hlt : k < u.size
    · have hltI : (k : Int) < (u.size : Int) := by omega
      obtain ⟨c, hc⟩ : ∃ c, c = u[k] := ⟨_, rfl⟩
      have hN16 : N < 10000000000000000 := by
        rw [HN.out]
        have h1 := dv_lt _ HALL.out
        have h2 : (u.data.toList.take k).length ≤ 16 := by rw [List.length_take, HUL.out]; omega
        have h3 : 10 ^ (u.data.toList.take k).length ≤ 10 ^ 16 := Nat.pow_le_pow_right (by decide) h2
        have h4 : (10 : Nat) ^ 16 = 10000000000000000 := by decide
        omega
      have HTK : Hid (u.data.toList.take (k + 1) = u.data.toList.take k ++ [c]) := by rw [hc]; exact take_atQ u k hlt
      have HMEM : Hid (c ∈ u.data.toList) := by
        have h0 : c ∈ u.data.toList.take (k + 1) := by rw [HTK.out]; simp
        exact List.mem_of_mem_take h0
      cases hd : digC c with
      | true =>
        have hd' := hd
        simp only [digC, Bool.and_eq_true, decide_eq_true_eq] at hd'
        have d1 : ¬ ((u[k]).toNat : Int) < 48 := by rw [← hc]; omega
        have d2 : ¬ (57 : Int) < ((u[k]).toNat : Int) := by rw [← hc]; omega
        have d3 : (48 : Int) ≤ ((u[k]).toNat : Int) := by omega
        have d4 : ((u[k]).toNat : Int) ≤ 57 := by omega
        have HD : Hid (digC c = true) := hd
        have HC : Hid (c = u[k]) := hc
        clear hd hc hd'
        go_wp2
        go_round
        case rel =>
          refine ⟨k + 1, N * 10 + (c.toNat - 48), by omega, by go_num, ?_, by rw [HTK.out, dv_snoc, ← HN.out], by rw [HTK.out, List.all_append, HALL.out]; simp [HD.out]⟩
          rw [HC.out]
          congr 1
          omega
        case measure => simp [intOf]; omega
      | false =>
        have hd' := hd
        simp only [digC, Bool.and_eq_false_iff, decide_eq_false_iff_not] at hd'
        have hb : ((u[k]).toNat : Int) < 48 ∨ (57 : Int) < ((u[k]).toNat : Int) := by rw [← hc]; omega
        have HD : Hid (digC c = false) := hd
        clear hd hc hd'
        rcases hb with hb | hb
        · go_wp2
          go_ret2
          exact ⟨⟨0, false, rfl, fun m m0 m1 e => absurd (HQ.out m m0 m1 e).1 (fun h => by have := List.all_eq_true.1 h.2.2.1 c HMEM.out; rw [HD.out] at this; cases this), by omega, by omega⟩, rfl⟩
        · go_wp2
          go_ret2
          exact ⟨⟨0, false, rfl, fun m m0 m1 e => absurd (HQ.out m m0 m1 e).1 (fun h => by have := List.all_eq_true.1 h.2.2.1 c HMEM.out; rw [HD.out] at this; cases this), by omega, by omega⟩, rfl⟩
    · have hkn : k = u.size := by omega
      have hNI : (N : Int) ≤ 100000000000000000 := by omega
      go_wp2
      go_ret2
      refine ⟨⟨(N : Int), true, rfl, fun m m0 m1 e => ⟨?_, rfl⟩, by omega, by omega⟩, rfl⟩
      have := (HQ.out m m0 m1 e).2
      rw [HN.out, hkn, List.take_of_length_le (by rw [HUL.out]; exact Nat.le_refl _)]
      exact this
theorem specNum (s : ByteArray) (w : World) (hs : s.size ≤ 1048576) : Calls Tryz.prog 237 #[.string s] w fun e w' => NumE s.data.toList e ∧ w = w' := by
  by_cases h : ∃ h : 0 < s.size, s[0] = 45
  · obtain ⟨h1, h2⟩ := h
    exact specNum_neg s w hs h1 h2
  · exact specNum_pos s w hs (fun h1 h2 => h ⟨h1, h2⟩)
end Go.Proofs.YtapjkbpfhmbfaaaGreatDoor

namespace Go.Proofs.YtapjkbpfhmbfaaaGreatDoor
open Go.RowKit
set_option maxRecDepth 100000
set_option maxHeartbeats 1000000
def PlaceE (t : ByteArray) (z : Int) : Prop := z = -1 ∨ ∃ j : Nat, z = (j : Int) ∧ j ≤ t.size
def NumAt (t : ByteArray) (k : Nat) (e : Ending) : Prop :=
  ∃ n z : Int, e = .returned (.tuple #[.int .i64 n, .int .i64 z]) ∧ (-9223372036854775808 ≤ n ∧ n ≤ 9223372036854775807) ∧ PlaceE t z ∧ (z ≠ -1 → (k : Int) < z) ∧
    ∀ (m : Int) (r : List UInt8), -10000000 ≤ m → m ≤ 10000000 → t.data.toList.drop k = Lib.itoa m ++ 32 :: r → n = m ∧ ∃ j : Nat, z = (j : Int) ∧ t.data.toList.drop j = r
theorem split_one {u v r q : List UInt8} (h : u ++ 32 :: r = v ++ 32 :: q) (hu : (32 : UInt8) ∉ u) (hv : (32 : UInt8) ∉ v) : u = v ∧ r = q := by
  have h1 := word_hit u r hu
  rw [h, word_hit v q hv] at h1
  cases h1
  exact ⟨rfl, rfl⟩
theorem specNumAt (t : ByteArray) (k : Nat) (w : World) (hk : k ≤ t.size) (ht : t.size ≤ 1048576) :
    Calls Tryz.prog 187 #[.string t, .int .i64 (k : Int)] w fun e w' => NumAt t k e ∧ Below w.heap.size w w' := by
  have hk0 : ¬ (k : Int) < 0 := by omega
  go_enter Tryz.func187, Tryz.ntmps187
  go_wp2_with fail
  refine (specWord t k _ hk ht).mono ?_
  rintro e w1 ⟨he, hb1⟩
  obtain ⟨s, z, rfl, hs, hz⟩ : ∃ (s : ByteArray) (z : Int), e = .returned (.tuple #[.string s, .int .i64 z]) ∧ s.size ≤ 1048576 ∧ (PlaceE t z ∧ (z ≠ -1 → (k : Int) < z) ∧ ∀ (m : Int) (r : List UInt8), t.data.toList.drop k = Lib.itoa m ++ 32 :: r → s.data.toList = Lib.itoa m ∧ ∃ j : Nat, z = (j : Int) ∧ t.data.toList.drop j = r) := by
    rcases he with ⟨j, h1, h2, h3, h4, rfl⟩ | ⟨h1, rfl⟩
    · refine ⟨_, _, rfl, by rw [ByteArray.size_extract]; omega, Or.inr ⟨j + 1, by omega, by omega⟩, fun _ => by omega, fun m r hm => ?_⟩
      obtain ⟨e1, e2⟩ := split_one (h3.symm.trans hm) h4 (itoa_sp m)
      exact ⟨e1, j + 1, by omega, e2⟩
    · refine ⟨_, _, rfl, by decide, Or.inl rfl, fun h => absurd rfl h, fun m r hm => ?_⟩
      rw [hm] at h1
      simp at h1
  have HZ : Hid (PlaceE t z ∧ (z ≠ -1 → (k : Int) < z) ∧ ∀ (m : Int) (r : List UInt8), t.data.toList.drop k = Lib.itoa m ++ 32 :: r → s.data.toList = Lib.itoa m ∧ ∃ j : Nat, z = (j : Int) ∧ t.data.toList.drop j = r) := hz
  clear hz he
  go_wp2_with fail
  refine (specNum s _ hs).mono ?_
  rintro e w2 ⟨⟨n, b, rfl, hn, hn1, hn2⟩, rfl⟩
  have HN : Hid (∀ (m : Int), -10000000 ≤ m → m ≤ 10000000 → s.data.toList = Lib.itoa m → n = m ∧ b = true) := hn
  clear hn
  cases b with
  | true =>
    go_wp2
    refine bodyPost_ret (v := .tuple #[.int .i64 n, .int .i64 z]) (by simp [results, Tryz.results187, go_sem]) rfl ⟨⟨n, z, rfl, ⟨by omega, by omega⟩, HZ.out.1, HZ.out.2.1, fun m r m0 m1 hm => ?_⟩, hb1⟩
    obtain ⟨e1, e2⟩ := HZ.out.2.2 m r hm
    exact ⟨(HN.out m m0 m1 e1).1, e2⟩
  | false =>
    go_wp2
    refine bodyPost_ret (v := .tuple #[.int .i64 0, .int .i64 (-1)]) (by simp [results, Tryz.results187, go_sem]) rfl ⟨⟨0, -1, rfl, ⟨by omega, by omega⟩, Or.inl rfl, fun h => absurd rfl h, fun m r m0 m1 hm => ?_⟩, hb1⟩
    obtain ⟨e1, e2⟩ := HZ.out.2.2 m r hm
    have := (HN.out m m0 m1 e1).2
    cases this
end Go.Proofs.YtapjkbpfhmbfaaaGreatDoor

namespace Go.Proofs.YtapjkbpfhmbfaaaGreatDoor
open Go.RowKit
set_option maxHeartbeats 400000 in
theorem specNumNo (t : ByteArray) (w : World) : Calls Tryz.prog 187 #[.string t, .int .i64 (-1)] w fun e w' => e = .returned (.tuple #[.int .i64 0, .int .i64 (-1)]) ∧ Below w.heap.size w w' := by
  go_enter Tryz.func187, Tryz.ntmps187
  go_wp2
  exact bodyPost_ret (v := .tuple #[.int .i64 0, .int .i64 (-1)]) (by simp [results, Tryz.results187, go_sem]) rfl ⟨rfl, Below.refl _ _⟩
theorem specNumZ (t : ByteArray) (z : Int) (w : World) (hz : PlaceE t z) (ht : t.size ≤ 1048576) :
    Calls Tryz.prog 187 #[.string t, .int .i64 z] w fun e w' => (∃ n z' : Int, e = .returned (.tuple #[.int .i64 n, .int .i64 z']) ∧ (-9223372036854775808 ≤ n ∧ n ≤ 9223372036854775807) ∧ PlaceE t z' ∧ (z' ≠ -1 → z < z') ∧ ∀ (k : Nat) (m : Int) (r : List UInt8), z = (k : Int) → -10000000 ≤ m → m ≤ 10000000 → t.data.toList.drop k = Lib.itoa m ++ 32 :: r → n = m ∧ ∃ j : Nat, z' = (j : Int) ∧ t.data.toList.drop j = r) ∧ Below w.heap.size w w' := by
  rcases hz with rfl | ⟨j, rfl, hj⟩
  · refine (specNumNo t w).mono ?_
    rintro e w' ⟨rfl, hb⟩
    exact ⟨⟨0, -1, rfl, ⟨by omega, by omega⟩, Or.inl rfl, fun h => absurd rfl h, fun k m r hk => by omega⟩, hb⟩
  · refine (specNumAt t j w hj ht).mono ?_
    rintro e w' ⟨⟨n, z', rfl, h1, h2, h3, h4⟩, hb⟩
    refine ⟨⟨n, z', rfl, h1, h2, h3, fun k m r hk m0 m1 hm => ?_⟩, hb⟩
    have : j = k := by omega
    subst this
    exact h4 m r m0 m1 hm
end Go.Proofs.YtapjkbpfhmbfaaaGreatDoor
