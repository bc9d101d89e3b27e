/-
  The walk of the law FnCellSum: it answers true at all bytes: what a key has is what was put last, and what was added since.
-/
import Derived.Test.YtanhmpbjbdpkgaaCellAI
import Derived.Test.YtanhmpbjbdpkgaaCellAS
import Derived.Test.YtanhmpbjbdpkgaaDrawAll
namespace Go.Proofs.Ytanhmpbjbdpkgaa
open Go.RowKit

/-- Of what a key has up to a time that from a time on. -/
def sinceL (L : List EntD) (key : ByteArray) (seq m : Int) : List EntD := (findL L key seq).filter (fun e => decide (m ≤ e.2.1))
theorem since_yes {L : List EntD} {key : ByteArray} {seq m : Int} {k : Nat} {e : EntD} (h : L[k]? = some e) (h1 : e.1 = key) (h2 : e.2.1 ≤ seq) (h3 : m ≤ e.2.1) : sinceL (L.take (k + 1)) key seq m = sinceL (L.take k) key seq m ++ [e] := by
  unfold sinceL
  rw [find_snoc_yes h h1 h2, List.filter_append]
  simp [h3]
theorem since_no {L : List EntD} {key : ByteArray} {seq m : Int} {k : Nat} {e : EntD} (h : L[k]? = some e) (h1 : ¬ (e.1 = key ∧ e.2.1 ≤ seq ∧ m ≤ e.2.1)) : sinceL (L.take (k + 1)) key seq m = sinceL (L.take k) key seq m := by
  unfold sinceL
  by_cases hf : e.1 = key ∧ e.2.1 ≤ seq
  · have h3 : ¬ m ≤ e.2.1 := fun h3 => h1 ⟨hf.1, hf.2, h3⟩
    rw [find_snoc_yes h hf.1 hf.2, List.filter_append]
    simp [h3]
  · rw [find_snoc_no h hf]
theorem last_yes {L : List EntD} {key : ByteArray} {seq : Int} {k : Nat} {e : EntD} (h : L[k]? = some e) (h1 : e.1 = key) (h2 : e.2.1 ≤ seq) : lastL (findL (L.take (k + 1)) key seq) = lastG (lastL (findL (L.take k) key seq)) e := by
  rw [find_snoc_yes h h1 h2]
  simp [lastL]
theorem last_no {L : List EntD} {key : ByteArray} {seq : Int} {k : Nat} {e : EntD} (h : L[k]? = some e) (h1 : ¬ (e.1 = key ∧ e.2.1 ≤ seq)) : lastL (findL (L.take (k + 1)) key seq) = lastL (findL (L.take k) key seq) := by
  rw [find_snoc_no h h1]

set_option maxRecDepth 100000 in
set_option maxHeartbeats 8000000 in
theorem walkFnCellSum (a : Option Addr) (len cap : Nat) (w : World) (h : BytesAt w a len cap) :
    Calls Try.prog 8 #[.slice a len cap] w fun e w' => e = .returned (.bool true) ∧ Below w.heap.size w w' := by
  have H : Hid (BytesAt w a len cap) := h
  have hm := Nat.le_trans h.1 h.2.1
  unfold maxLen at hm
  clear h
  by_cases hbig : 1048576 < len
  · go_enter Try.func8, Try.ntmps8
    go_wp2
    go_ret
    exact ⟨rfl, Below.refl _ _⟩
  go_enter Try.func8, Try.ntmps8
  go_wp2_with fail
  refine (drawAll_any a len cap w H.out).mono ?_
  rintro e w1 ⟨g, n, c, L, key, seq, rfl, hO, hn, hX, hK, hsq, hb1⟩
  have HO : Hid (OwnE w1 w.heap.size g n c L) := hO
  have HB1 : Hid (Below w.heap.size w w1) := hb1
  have HLN : Hid (L.length = n) := hO.len
  have HTX : Hid (∀ e ∈ L, e.2.2.2.1.size ≤ 281474976710656) := few_text hX
  have HFT : Hid (∀ e ∈ L, Fit e) := hX.fit
  have hmc := hO.entsAt.room
  have hcb := hO.entsAt.big
  unfold maxLen at hcb
  obtain ⟨x, hx⟩ : ∃ x, x = cellL L key seq := ⟨_, rfl⟩
  have HXC : Hid (x = (sinceL L key seq (lastL (findL L key seq))).foldl sumG (false, ⟨#[]⟩, 0)) := by
    rw [hx]
    exact fold_sum (hX.2.find key seq) (fun e he => hX.fit e (find_mem he)) (by have := find_len L key seq; rw [HLN.out] at this; omega)
  have CIX : Hid (∀ w', Below w1.heap.size w1 w' → Calls Try.prog 21 #[.slice (some ⟨g, 0, none⟩) n c, .string key, .int .i64 seq] w' fun e w'' => e = .returned (cellV x) ∧ Below w'.heap.size w' w'') := by rw [hx]; exact fun w' k => implCellAll _ _ _ L key seq w' (HO.out.entsAt.keep k) (by omega) (by have := find_len L key seq; rw [HLN.out] at this; omega) HTX.out
  have CSX : Hid (∀ w', Below w1.heap.size w1 w' → Calls Try.prog 20 #[.slice (some ⟨g, 0, none⟩) n c, .string key, .int .i64 seq] w' fun e w'' => e = .returned (cellV x) ∧ Below w'.heap.size w' w'') := by rw [hx]; exact fun w' k => specCellAll _ _ _ L key seq w' (HO.out.entsAt.keep k) (by omega)
  clear hO hX hK hb1 H hx
  obtain ⟨xb, xt, xn⟩ := x
  unfold cellV at CIX CSX
  simp only at CIX CSX
  go_wp2_with fail
  refine (CIX.out _ (Below.refl _ _)).mono ?_
  rintro e w2 ⟨rfl, hb2⟩
  obtain ⟨X, hXX⟩ : ∃ X, X = w2.heap.size := ⟨_, rfl⟩
  obtain ⟨W, hW⟩ : ∃ W, W = w2.alloc (.cells #[.bool xb, .string xt, .int .i64 xn] 35) := ⟨_, rfl⟩
  have kW : Below w2.heap.size w2 W := by rw [hW]; exact (Below.refl _ _).alloc (Nat.le_refl _) _
  have HBX : Hid (Box3 W X (.bool xb) (.string xt) (.int .i64 xn)) := by rw [hW, hXX]; exact Box3.new _ _ _ _ _
  have HKW : Hid (Below w1.heap.size w1 W) := hb2.trans (kW.mono hb2.size)
  clear CIX kW hb2
  go_upto_region 5 with fail
  rw [← hW, ← hXX]
  clear hW hXX
  have hne := neq_cell_same xb xt xn
  have k0 : Below W.heap.size W W.drew := (Below.refl _ W).drew
  have HMK : Hid (∀ w', Below W.heap.size W w' → (w'.cell? ⟨X, 0, none⟩ = some (.bool xb) ∧ w'.cell? ⟨X, 1, none⟩ = some (.string xt) ∧ w'.cell? ⟨X, 2, none⟩ = some (.int .i64 xn) ∧ X < w'.heap.size)) := fun w' k => ⟨cell_later k HBX.out.c0, cell_later k HBX.out.c1, cell_later k HBX.out.c2, Nat.lt_of_lt_of_le HBX.out.lt k.size⟩
  go_region_held3 (fun w' => w'.cell? ⟨X, 0, none⟩ = some (.bool xb) ∧ w'.cell? ⟨X, 1, none⟩ = some (.string xt) ∧ w'.cell? ⟨X, 2, none⟩ = some (.int .i64 xn) ∧ X < w'.heap.size) (first | with_reducible exact HMK.out _ k3 | with_reducible exact HMK.out _ k0) (first
    | (go_at_call 20; with_reducible refine (CSX.out _ (HKW.out.trans (k0.mono HKW.out.size))).mono ?_; rintro e w3 ⟨rfl, hb3⟩; have k3 : Below W.heap.size W w3 := k0.trans (hb3.mono k0.size)))
  have HK3 : Hid (Below w1.heap.size w1 w3) := HKW.out.trans (k3.mono HKW.out.size)
  have HBX3 : Hid (Box3 w3 X (.bool xb) (.string xt) (.int .i64 xn)) := HBX.out.below k3
  clear CSX HMK k0 k3 hb3 HBX hne
  go_wp2
  go_loopw [7, 8] (fun lv iv wr => ∃ (k : Nat) (m : Int), k ≤ n ∧ iv = .int .i64 k ∧ lv = .int .i64 m ∧ m = lastL (findL (L.take k) key seq) ∧ wr = w3) (fun _ iv _ => n - (intOf iv).toNat)
  case atStart => exact ⟨0, 0, Nat.zero_le _, rfl, rfl, rfl, rfl⟩
  case round =>
    obtain ⟨k, m, hk, rfl, rfl, hmm, rfl⟩ := hrel
    have HM : Hid (m = lastL (findL (L.take k) key seq)) := hmm
    clear hmm
    by_cases hlt : k < n
    · obtain ⟨s, q, d, t, nn, hg, hlw, g0, g1, g2, g3, g4⟩ := HO.out.entsAt.ent HK3.out HO.out.lt.2 k hlt
      have HG : Hid (L[k]? = some (s, q, d, t, nn)) := hg
      simp only [Nat.zero_add] at g0 g1 g2 g3 g4
      have hgr : g < wr.heap.size := Nat.lt_of_lt_of_le HO.out.lt.2 HK3.out.size
      clear hg hlw
      by_cases hks : s = key
      · by_cases hq : q ≤ seq
        · have HL1 : Hid (lastL (findL (L.take (k + 1)) key seq) = lastG m (s, q, d, t, nn)) := by
            show lastL (findL (L.take (k + 1)) key seq) = _
            rw [last_yes HG.out hks hq, ← HM.out]
          subst hks
          by_cases hd : d = 3
          · have HV : Hid (m = lastL (findL (L.take (k + 1)) s seq)) := by
              show m = _
              rw [HL1.out, hd]
              simp [lastG]
            subst hd
            go_wp2
            go_roundw
            case rel => exact ⟨k + 1, m, by omega, by go_num, rfl, HV.out, by trivial⟩
            case measure => simp [intOf]; omega
          · have hdb : (d == 3) = false := by simpa using hd
            by_cases hmq : m < q
            · have HV : Hid (q = lastL (findL (L.take (k + 1)) s seq)) := by
                show q = _
                rw [HL1.out]
                simp [lastG, hd, hmq]
              go_wp2
              go_roundw
              case rel => exact ⟨k + 1, q, by omega, by go_num, rfl, HV.out, by trivial⟩
              case measure => simp [intOf]; omega
            · have HV : Hid (m = lastL (findL (L.take (k + 1)) s seq)) := by
                show m = _
                rw [HL1.out]
                simp [lastG, hmq]
              go_wp2
              go_roundw
              case rel => exact ⟨k + 1, m, by omega, by go_num, rfl, HV.out, by trivial⟩
              case measure => simp [intOf]; omega
        · have HV : Hid (m = lastL (findL (L.take (k + 1)) key seq)) := by
            show m = _
            rw [last_no HG.out (fun h => hq h.2)]
            exact HM.out
          subst hks
          go_wp2
          go_roundw
          case rel => exact ⟨k + 1, m, by omega, by go_num, rfl, HV.out, by trivial⟩
          case measure => simp [intOf]; omega
      · have HV : Hid (m = lastL (findL (L.take (k + 1)) key seq)) := by
          show m = _
          rw [last_no HG.out (fun h => hks h.1)]
          exact HM.out
        have hne : ¬ s.toList = key.toList := by
          rw [ByteArray.toList_eq, ByteArray.toList_eq]
          intro h
          exact hks (ByteArray.ext (Array.toList_inj.1 h))
        have hne' : (s.toList == key.toList) = false := by simpa using hne
        clear hks
        go_wp2
        go_roundw
        case rel => exact ⟨k + 1, m, by omega, by go_num, rfl, HV.out, by trivial⟩
        case measure => simp [intOf]; omega
    · have HML : Hid (m = lastL (findL L key seq)) := by
        show m = _
        rw [HM.out, List.take_of_length_le (by rw [HLN.out]; omega)]
      clear HM
      go_wp2
      clear hlt hk
      go_loopw [9, 10, 11, 12] (fun nv tv hv iv wq => ∃ (k : Nat) (cc : CellD), k ≤ n ∧ iv = .int .i64 k ∧ nv = .int .i64 cc.2.2 ∧ tv = .string cc.2.1 ∧ hv = .bool cc.1 ∧ cc = (sinceL (L.take k) key seq m).foldl sumG (false, ⟨#[]⟩, 0) ∧ (-1000 * (k : Int) ≤ cc.2.2 ∧ cc.2.2 ≤ 1000 * (k : Int)) ∧ wq = wr) (fun _ _ _ iv _ => n - (intOf iv).toNat)
      case atStart => exact ⟨0, (false, ⟨#[]⟩, 0), Nat.zero_le _, rfl, rfl, rfl, rfl, rfl, by simp, rfl⟩
      case round =>
      obtain ⟨k, cc, hk, rfl, rfl, rfl, rfl, hcc, hbd, rfl⟩ := hrel
      have HCC : Hid (cc = (sinceL (L.take k) key seq m).foldl sumG (false, ⟨#[]⟩, 0)) := hcc
      clear hcc
      by_cases hlt : k < n
      · obtain ⟨s, q, d, t, nn, hg, hlw, g0, g1, g2, g3, g4⟩ := HO.out.entsAt.ent HK3.out HO.out.lt.2 k hlt
        have HG : Hid (L[k]? = some (s, q, d, t, nn)) := hg
        have hft := HFT.out _ (List.mem_of_getElem? hg)
        obtain ⟨_, hkd, _, hnb⟩ := hft
        simp only at hkd hnb
        simp only [Nat.zero_add] at g0 g1 g2 g3 g4
        have hgr : g < wr.heap.size := Nat.lt_of_lt_of_le HO.out.lt.2 HK3.out.size
        clear hg hlw
        by_cases hks : s = key
        · by_cases hq : q ≤ seq
          · by_cases hmq : m ≤ q
            · obtain ⟨cb, ct, cn⟩ := cc
              simp only at hbd
              have HV : Hid (sumG (cb, ct, cn) (s, q, d, t, nn) = (sinceL (L.take (k + 1)) key seq m).foldl sumG (false, ⟨#[]⟩, 0)) := by
                show sumG (cb, ct, cn) (s, q, d, t, nn) = _
                rw [since_yes HG.out hks hq hmq, List.foldl_append, ← HCC.out]
                rfl
              have hwn : IntKind.i64.wrap (cn + nn) = cn + nn := by rw [IntWalk.i64_left]; unfold wrap64; omega
              have hnmq : ¬ q < m := by omega
              subst hks
              rcases hkd with rfl | rfl | rfl
              · have HS : Hid (sumG (cb, ct, cn) (s, q, 1, t, nn) = (true, t, cn + nn)) := by show sumG (cb, ct, cn) (s, q, 1, t, nn) = _; simp [sumG]
                cases cb with
                | true =>
                  go_wp2
                  go_roundw
                  case rel => exact ⟨k + 1, (true, t, cn + nn), by omega, by go_num, rfl, rfl, rfl, HS.out.symm.trans HV.out, by simp only; omega, by trivial⟩
                  case measure => simp [intOf]; omega
                | false =>
                  go_wp2
                  go_roundw
                  case rel => exact ⟨k + 1, (true, t, cn + nn), by omega, by go_num, rfl, rfl, rfl, HS.out.symm.trans HV.out, by simp only; omega, by trivial⟩
                  case measure => simp [intOf]; omega
              · have HS : Hid (sumG (cb, ct, cn) (s, q, 2, t, nn) = (cb, ct, cn + nn)) := by show sumG (cb, ct, cn) (s, q, 2, t, nn) = _; simp [sumG]
                cases cb with
                | true =>
                  go_wp2
                  go_roundw
                  case rel => exact ⟨k + 1, (true, ct, cn + nn), by omega, by go_num, rfl, rfl, rfl, HS.out.symm.trans HV.out, by simp only; omega, by trivial⟩
                  case measure => simp [intOf]; omega
                | false =>
                  go_wp2
                  go_roundw
                  case rel => exact ⟨k + 1, (false, ct, cn + nn), by omega, by go_num, rfl, rfl, rfl, HS.out.symm.trans HV.out, by simp only; omega, by trivial⟩
                  case measure => simp [intOf]; omega
              · have HS : Hid (sumG (cb, ct, cn) (s, q, 3, t, nn) = (true, ct, cn + nn)) := by show sumG (cb, ct, cn) (s, q, 3, t, nn) = _; simp [sumG]
                cases cb with
                | true =>
                  go_wp2
                  go_roundw
                  case rel => exact ⟨k + 1, (true, ct, cn + nn), by omega, by go_num, rfl, rfl, rfl, HS.out.symm.trans HV.out, by simp only; omega, by trivial⟩
                  case measure => simp [intOf]; omega
                | false =>
                  go_wp2
                  go_roundw
                  case rel => exact ⟨k + 1, (true, ct, cn + nn), by omega, by go_num, rfl, rfl, rfl, HS.out.symm.trans HV.out, by simp only; omega, by trivial⟩
                  case measure => simp [intOf]; omega
            · have HV : Hid (cc = (sinceL (L.take (k + 1)) key seq m).foldl sumG (false, ⟨#[]⟩, 0)) := by
                show cc = _
                rw [since_no HG.out (fun h => hmq h.2.2)]
                exact HCC.out
              subst hks
              go_wp2
              go_roundw
              case rel => exact ⟨k + 1, cc, by omega, by go_num, rfl, rfl, rfl, HV.out, by omega, by trivial⟩
              case measure => simp [intOf]; omega
          · have HV : Hid (cc = (sinceL (L.take (k + 1)) key seq m).foldl sumG (false, ⟨#[]⟩, 0)) := by
              show cc = _
              rw [since_no HG.out (fun h => hq h.2.1)]
              exact HCC.out
            subst hks
            go_wp2
            go_roundw
            case rel => exact ⟨k + 1, cc, by omega, by go_num, rfl, rfl, rfl, HV.out, by omega, by trivial⟩
            case measure => simp [intOf]; omega
        · have HV : Hid (cc = (sinceL (L.take (k + 1)) key seq m).foldl sumG (false, ⟨#[]⟩, 0)) := by
            show cc = _
            rw [since_no HG.out (fun h => hks h.1)]
            exact HCC.out
          have hne : ¬ s.toList = key.toList := by
            rw [ByteArray.toList_eq, ByteArray.toList_eq]
            intro h
            exact hks (ByteArray.ext (Array.toList_inj.1 h))
          have hne' : (s.toList == key.toList) = false := by simpa using hne
          clear hks
          go_wp2
          go_roundw
          case rel => exact ⟨k + 1, cc, by omega, by go_num, rfl, rfl, rfl, HV.out, by omega, by trivial⟩
          case measure => simp [intOf]; omega
      · have HE : Hid (cc = (xb, xt, xn)) := by
          show cc = _
          rw [HCC.out, List.take_of_length_le (by rw [HLN.out]; omega), HML.out]
          exact HXC.out.symm
        have he := HE.out
        subst he
        have c0 := HBX3.out.c0
        have c1 := HBX3.out.c1
        have c2 := HBX3.out.c2
        have cl := HBX3.out.lt
        have heq := eql_cell_same xb xt xn
        go_wp2
        go_ret
        exact ⟨rfl, HB1.out.trans (HK3.out.mono HB1.out.size)⟩
end Go.Proofs.Ytanhmpbjbdpkgaa
