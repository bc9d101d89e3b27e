/-
  The library's heap.Pop at the program's heads, by a walk of its Go text.
-/
import Derived.Test.YtlmgojlffgkciaaGreatGaXMgF
import Derived.Test.YtlmgojlffgkciaaGreatGaXMgO
namespace Go.Proofs.YtlmgojlffgkciaaGreat
open Go.RowKit
set_option maxRecDepth 100000
set_option maxHeartbeats 4000000
theorem heapPop (base BH g n c k : Nat) (X0 : List StrD) (H0 : List (List EntD × Nat)) (u : List EntD × Nat) (w : World) (hk : n = k + 1) (hn : n ≤ 1048576) (hB : base ≤ BH) (hfr : w.frozen? ⟨BH, 0, none⟩ = false) (hS : HpSt w base BH g n c X0 H0) (hH : Mg.HeapTo (Mg.lessS lessE) n H0) (hu : H0[0]? = some u) (hLv : ∀ (j : Nat) h, 0 < j → H0[j]? = some h → h.1 ≠ []) :
    Calls Tryz.prog 109 #[.iface 134 (.pointer (some ⟨BH, 0, none⟩))] w fun e w' => (∃ v, e = .returned v) ∧ (∃ X H, HpSt w' base BH g k c X H ∧ (u :: H).Perm H0 ∧ Mg.HeapTo (Mg.lessS lessE) k H ∧ ∀ x ∈ X, x ∈ X0) ∧ Below base w w' ∧ KeepsOthers w w' ∧ w'.frozen? ⟨BH, 0, none⟩ = false ∧ ∃ wm, w.grownBy wm (some g) ∧ wm.grownBy w' (some BH) := by
  have hl := hS.len
  have hXL := hS.own.len
  have hgb := hS.own.lt.1
  have hsz := hS.own.lt.2
  have zb := World.block_lt_of_cell? _ _ hS.box
  simp only at zb
  have hne := hS.ne
  have HGC : Hid (∃ cc, w.heap[g]? = some (.cells cc 136 (0, 0))) := hS.own.cells
  obtain ⟨v, hv⟩ : ∃ v, H0[k]? = some v := ⟨_, List.getElem?_eq_getElem (by omega)⟩
  obtain ⟨x, hx⟩ : ∃ x, X0[0]? = some x := ⟨_, List.getElem?_eq_getElem (by omega)⟩
  obtain ⟨y, hy⟩ : ∃ y, X0[k]? = some y := ⟨_, List.getElem?_eq_getElem (by omega)⟩
  have hm := hmLen BH g n c w hS.box
  have hm2 := hmSwap BH g n c w hS.box
  have CN := headsLen (some ⟨g, 0, none⟩) n c w
  have CW : Calls Tryz.prog 258 #[.slice (some ⟨g, 0, none⟩) n c, .int .i64 0, .int .i64 k] w fun e w' => e = .returned (.tuple #[]) ∧ OwnH w' base g n c ((X0.set 0 y).set k x) ∧ w.grownBy w' (some g) := headsSwap base g n c 0 k X0 x y w hS.own hx hy
  have wk : IntKind.i64.wrap ((n : Int) - 1) = (k : Int) := by rw [IntKind.wrap_i64]; omega
  have HS : Hid (HpSt w base BH g n c X0 H0) := hS
  have HHp : Hid (Mg.HeapTo (Mg.lessS lessE) n H0) := hH
  have HFR : Hid (w.frozen? ⟨BH, 0, none⟩ = false) := hfr
  have HK : Hid (n = k + 1) := hk
  have HLV : Hid (LiveTo k (Mg.sw H0 0 k u v)) := fun j s hj hs => by
    rw [Mg.sw_get hu hv, if_neg (by omega)] at hs
    by_cases h2 : j = 0
    · rw [if_pos h2] at hs; cases hs; exact hLv k _ (by omega) hv
    · rw [if_neg h2] at hs; exact hLv j s (by omega) hs
  have HXP : Hid ((Mg.sw X0 0 k x y).Perm X0) := Mg.sw_perm hx hy
  clear hS hH hfr hk hLv
  go_enter Tryz.func109, Tryz.ntmps109
  go_wp2_with fail
  refine CN.mono ?_
  rintro e w1 ⟨rfl, rfl⟩
  go_wp2_with fail
  refine CW.mono ?_
  rintro e w2 ⟨rfl, hO2, hg2⟩
  have HS2 : Hid (HpSt w2 base BH g n c (Mg.sw X0 0 k x y) (Mg.sw H0 0 k u v)) := HS.out.swap hx hy hu hv hg2 hO2
  have HD2 : Mg.DownI (Mg.lessS lessE) k (Mg.sw H0 0 k u v) 0 := Mg.down_start (HHp.out.fewer (by have := HK.out; omega)) (fun j j0 hj => by rw [Mg.sw_get hu hv, if_neg (by omega), if_neg (by omega)])
  have CD := heapDown base BH g n k c 0 _ _ w2 hn (by have := HK.out; omega) (by have := HK.out; omega) HS2.out HD2 HLV.out
  have HG2 : Hid (w1.grownBy w2 (some g)) := hg2
  have HPM : Hid ((Mg.sw H0 0 k u v).Perm H0) := Mg.sw_perm hu hv
  have HAT : Hid ((Mg.sw H0 0 k u v)[k]? = some u) := by show _ = _; rw [Mg.sw_get hu hv, if_pos rfl]
  clear hO2 hg2 HD2 CW CN hm hm2 HS HHp hu hv hx hy HS2
  go_wp2_with fail
  refine CD.mono ?_
  rintro e w3 ⟨⟨b, rfl⟩, ⟨X, H, hS3, hP3, hQ3, hK3, hH3⟩, hg3⟩
  have hg13 : w1.grownBy w3 (some g) := HG2.out.trans hg3
  have HK3 : Hid (KeepsOthers w1 w3) := KeepsOthers.of_grownBy hg13 (fun j o e ho => by cases e; obtain ⟨cc, hc⟩ := HGC.out; rw [hc] at ho; cases ho; rfl)
  have HG13 : Hid (w1.grownBy w3 (some g)) := hg13
  have HB3 : Hid (Below base w1 w3) := (Below.refl base w1).grown hg13 (by omega) (fun j e => by cases e; exact hgb)
  have hfr3 : w3.frozen? ⟨BH, 0, none⟩ = false := by rw [grown_frozen hg13 (x := ⟨BH, 0, none⟩) zb (fun e => hne (Option.some.inj e))]; exact HFR.out
  have hm := hmPop BH w3
  have CP := headsPop base BH g n c k X H w3 HK.out hn hB hfr3 hS3
  have HHL : Hid (H.length = n) := hS3.len
  have HPF : Hid ((u :: H.take k).Perm H0) := by
    have hlen := hS3.len
    have hku : H[k]? = some u := by rw [(hK3 k (Nat.le_refl _)).2]; exact HAT.out
    have hlt : k < H.length := (List.getElem?_eq_some_iff.1 hku).1
    have hd : H = H.take k ++ [u] := by
      conv => lhs; rw [← List.take_append_drop k H, List.drop_eq_getElem_cons hlt, List.drop_of_length_le (by have := HK.out; omega)]
      rw [(List.getElem?_eq_some_iff.1 hku).2]
    have hp : (u :: H.take k).Perm H := by
      conv => rhs; rw [hd]
      exact (List.perm_append_singleton u (H.take k)).symm
    exact hp.trans (hP3.trans HPM.out)
  have HXM : Hid (∀ z ∈ X.take k, z ∈ X0) := fun z hz => HXP.out.mem_iff.1 (hQ3.mem_iff.1 (List.mem_of_mem_take hz))
  have HHF : Hid (Mg.HeapTo (Mg.lessS lessE) k (H.take k)) := hH3.same (fun j hj => by rw [List.getElem?_take_of_lt hj])
  clear hS3 hP3 hQ3 hK3 hH3 hg3 hg13 CD
  go_wp2_with fail
  refine CP.mono ?_
  rintro e w4 ⟨⟨v4, rfl⟩, hS4, hb4, hk4, hf4, hgb4⟩
  have HGB4 : Hid (w3.grownBy w4 (some BH)) := hgb4
  have HS4 : Hid (HpSt w4 base BH g k c (X.take k) (H.take k)) := hS4
  have HB4 : Hid (Below base w1 w4) := HB3.out.trans hb4
  have HK4 : Hid (KeepsOthers w1 w4) := HK3.out.trans hk4
  have HF4 : Hid (w4.frozen? ⟨BH, 0, none⟩ = false) := hf4
  clear hS4 hb4 CP hm HB3 hk4 hf4 hgb4
  go_wp2
  go_ret
  exact ⟨⟨_, rfl⟩, ⟨_, _, HS4.out, HPF.out, HHF.out, HXM.out⟩, HB4.out, HK4.out, HF4.out, w3, HG13.out, HGB4.out⟩
end Go.Proofs.YtlmgojlffgkciaaGreat
