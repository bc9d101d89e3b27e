/-
  How a tally lies in memory; what the program's isOver and mayTake answer, by walks of their Go text.
-/
import Derived.Test.YtfblpbihpmhgjaaDoorBp25
import Derived.Test.YtfblpbihpmhgjaaDoorBp29
import Derived.Test.YtfblpbihpmhgjaaDoorBp30
import Derived.Deep.RegionHeld3
import Derived.Deep.DeepCutAuto
namespace Go.Proofs.YtfblpbihpmhgjaaDoor
open Go.RowKit

/-- The tally in box T: its two maps, and its row of accounts. -/
structure TallyAt (w : World) (T mi mb : Nat) (va : Value) (Bi B : List PostD) (L : List LegD) (A : List ByteArray) : Prop where
  c0 : w.cell? ⟨T, 0, none⟩ = some (.map (some mi))
  c1 : w.cell? ⟨T, 1, none⟩ = some (.map (some mb))
  c2 : w.cell? ⟨T, 2, none⟩ = some va
  f2 : w.frozen? ⟨T, 2, none⟩ = false
  ids : ∃ D, w.ownsMap Tryd.prog 3 (plainElem (H := Unit) Tryd.prog 3) mi Bi.length D ∧ IdsIs D Bi
  bals : ∃ D, w.ownsMap Tryd.prog 178 (plainElem (H := Unit) Tryd.prog 3) mb (4 * B.length + L.length) D ∧ BalIs D B L
  row : w.ownsRow (T + 1) 9 1 va A.length (A.map .string)
  hmi : mi < T
  hmb : mb < T
  hne : mi ≠ mb

theorem cell_far2 {w w' : World} {row : Option Nat} {x : Addr} {u : Value} (h : w.cell? x = some u) (hg : w.grownBy w' row) (hr : some x.block ≠ row) : w'.cell? x = some u :=
  (World.cell?_of_block (hg.block x.block (World.block_lt_of_cell? _ _ h) hr)).trans h
theorem frozen_far {w w' : World} {row : Option Nat} (hg : w.grownBy w' row) {x : Addr} (hx : x.block < w.heap.size) (hn : some x.block ≠ row) : w'.frozen? x = w.frozen? x := World.frozen?_of_block (hg.block x.block hx hn)

/-- Something else has grown. -/
theorem TallyAt.grown {w w' : World} {T mi mb : Nat} {va : Value} {Bi B : List PostD} {L : List LegD} {A : List ByteArray} {row : Option Nat} (h : TallyAt w T mi mb va Bi B L A) (hg : w.grownBy w' row)
    (hT : some T ≠ row) (hi : some mi ≠ row) (hb : some mb ≠ row) (hv : va.ownBlock = none ∨ va.ownBlock ≠ row) : TallyAt w' T mi mb va Bi B L A := by
  obtain ⟨Di, oi, ii⟩ := h.ids
  obtain ⟨Db, ob, ib⟩ := h.bals
  exact ⟨cell_far2 h.c0 hg hT, cell_far2 h.c1 hg hT, cell_far2 h.c2 hg hT, (frozen_far hg (x := ⟨T, 2, none⟩) (World.block_lt_of_cell? _ _ h.c2) hT).trans h.f2, ⟨Di, oi.kept hg hi, ii⟩, ⟨Db, ob.kept hg hb, ib⟩, h.row.kept hg hv, h.hmi, h.hmb, h.hne⟩
theorem grown_of_belowT {w w' : World} (hb : Below w.heap.size w w') : w.grownBy w' none := ⟨hb.os, hb.tape, hb.output, hb.size, fun k hk _ => hb.block k hk⟩
theorem own_none {v : Value} : v.ownBlock = none ∨ v.ownBlock ≠ none := by
  cases v.ownBlock
  · exact Or.inl rfl
  · exact Or.inr (by simp)
theorem TallyAt.below {w w' : World} {T mi mb : Nat} {va : Value} {Bi B : List PostD} {L : List LegD} {A : List ByteArray} (h : TallyAt w T mi mb va Bi B L A) (hb : Below w.heap.size w w') : TallyAt w' T mi mb va Bi B L A :=
  h.grown (grown_of_belowT hb) (by simp) (by simp) (by simp) own_none

/-- What of a tally is asked: its two maps, in box T. -/
structure TalAt (w : World) (T mi mb : Nat) (Bi B : List PostD) (L : List LegD) : Prop where
  c0 : w.cell? ⟨T, 0, none⟩ = some (.map (some mi))
  c1 : w.cell? ⟨T, 1, none⟩ = some (.map (some mb))
  ids : ∃ D, w.ownsMap Tryd.prog 3 (plainElem (H := Unit) Tryd.prog 3) mi Bi.length D ∧ IdsIs D Bi
  bals : ∃ D, w.ownsMap Tryd.prog 178 (plainElem (H := Unit) Tryd.prog 3) mb (4 * B.length + L.length) D ∧ BalIs D B L
theorem TallyAt.tal {w : World} {T mi mb : Nat} {va : Value} {Bi B : List PostD} {L : List LegD} {A : List ByteArray} (h : TallyAt w T mi mb va Bi B L A) : TalAt w T mi mb Bi B L := ⟨h.c0, h.c1, h.ids, h.bals⟩
theorem TalAt.below {w w' : World} {T mi mb : Nat} {Bi B : List PostD} {L : List LegD} (h : TalAt w T mi mb Bi B L) (hb : Below w.heap.size w w') : TalAt w' T mi mb Bi B L := by
  obtain ⟨Di, oi, ii⟩ := h.ids
  obtain ⟨Db, ob, ib⟩ := h.bals
  exact ⟨cell_far2 h.c0 (grown_of_belowT hb) (by simp), cell_far2 h.c1 (grown_of_belowT hb) (by simp), ⟨Di, oi.kept (grown_of_belowT hb) (by simp), ii⟩, ⟨Db, ob.kept (grown_of_belowT hb) (by simp), ib⟩⟩

theorem TalAt.look {w : World} {T mi mb : Nat} {Bi B : List PostD} {L : List LegD} (h : TalAt w T mi mb Bi B L) {s : ByteArray} {c : Int} (hs : s.size ≤ maxLen) (hc : (Lit.int .i64 c).wf = true) :
    (Instr.lookup 115 (.map (some mb)) (.agg #[.string s, .int .i64 c]) false).run Tryd.prog w = .ok (.int .i64 (balK B L s c)) w := by
  obtain ⟨D, ho, hD⟩ := h.bals
  obtain ⟨x, hrun, hat, _⟩ := ho.lookup_int Tryd.keyedPu Tryd.underlying115 Tryd.underlying3 (Tryd.zeroInt w) (keyOf_pu hs hc)
  rw [hD.2 s c hs hc] at hat
  have : balK B L s c = x := by simpa using hat
  rw [this]
  exact hrun
theorem TalAt.lookId {w : World} {T mi mb : Nat} {Bi B : List PostD} {L : List LegD} (h : TalAt w T mi mb Bi B L) {id : Int} (hc : (Lit.int .i64 id).wf = true) :
    (Instr.lookup 114 (.map (some mi)) (.int .i64 id) false).run Tryd.prog w = .ok (.int .i64 (if hasP Bi id = true then 1 else 0)) w := by
  obtain ⟨D, ho, hD⟩ := h.ids
  obtain ⟨x, hrun, hat, _⟩ := ho.lookup_int Tryd.keyedId Tryd.underlying114 Tryd.underlying3 (Tryd.zeroInt w) (Maps.keyOf_int_mk Tryd.underlying3 hc)
  rw [hD.val id hc] at hat
  have : (if hasP Bi id = true then (1 : Int) else 0) = x := by simpa using hat
  rw [this]
  exact hrun

theorem TallyAt.look {w : World} {T mi mb : Nat} {va : Value} {Bi B : List PostD} {L : List LegD} {A : List ByteArray} (h : TallyAt w T mi mb va Bi B L A) {s : ByteArray} {c : Int} (hs : s.size ≤ maxLen) (hc : (Lit.int .i64 c).wf = true) :
    (Instr.lookup 115 (.map (some mb)) (.agg #[.string s, .int .i64 c]) false).run Tryd.prog w = .ok (.int .i64 (balK B L s c)) w := h.tal.look hs hc

set_option maxHeartbeats 2000000 in
theorem implOver (T mi mb : Nat) (Bi B : List PostD) (id : Int) (s : Option Addr) (m cm : Nat) (L : List LegD) (w : World) (hT : TalAt w T mi mb Bi B []) (hL : LegsAt w s m cm L) (h40 : B.length ≤ 40) (hp : postB id L = true) :
    Calls Tryd.prog 121 #[.pointer (some ⟨T, 0, none⟩), .agg #[.int .i64 id, .slice s m cm]] w fun e w' => e = .returned (.bool (overP B (id, L))) ∧ Below w.heap.size w w' := by
  have HLEN : Hid (L.length = m) := hL.length
  have HBL : Hid (B.length ≤ 40) := h40
  have hm4 : m ≤ 4 := by have := postB_len hp; have := hL.length; omega
  have HT : Hid (TalAt w T mi mb Bi B []) := hT
  have HL : Hid (LegsAt w s m cm L) := hL
  have HPB : Hid (postB id L = true) := hp
  have hB : Below w.heap.size w (w.alloc (.cells #[.int .i64 id, .slice s m cm] 29)) := (Below.refl _ _).alloc (Nat.le_refl _) _
  clear hT hL hp h40
  go_enter Tryd.func121, Tryd.ntmps121
  go_wp2
  go_loopw [11] (fun i wr => ∃ k : Nat, k ≤ m ∧ i = .int .i64 k ∧ Below (w.heap.size + 1) (w.alloc (.cells #[.int .i64 id, .slice s m cm] 29)) wr ∧ (L.take k).any (overL B (id, L)) = false) (fun i _ => m - (intOf i).toNat)
  case atStart => exact ⟨0, Nat.zero_le _, rfl, Below.refl _ _, rfl⟩
  case round =>
    obtain ⟨k, hk, rfl, hb0, hno⟩ := hrel
    have HNO : Hid ((L.take k).any (overL B (id, L)) = false) := hno
    clear hno
    have hb : Below w.heap.size w wr := hB.trans (hb0.mono (by omega))
    have e0 : wr.cell? ⟨w.heap.size, 0, none⟩ = some (.int .i64 id) := (hb0.cell (p := ⟨w.heap.size, 0, none⟩) (by simp)).trans (by simp)
    have e1 : wr.cell? ⟨w.heap.size, 1, none⟩ = some (.slice s m cm) := (hb0.cell (p := ⟨w.heap.size, 1, none⟩) (by simp)).trans (by simp)
    obtain ⟨X, hX⟩ : ∃ X, X = w.heap.size := ⟨_, rfl⟩
    rw [← hX] at e0 e1
    simp only [← hX]
    have HX : Hid (X = w.heap.size) := hX
    have HB0 : Hid (Below (w.heap.size + 1) (w.alloc (.cells #[.int .i64 id, .slice s m cm] 29)) wr) := hb0
    clear hX hB hb0
    by_cases hlt : k < m
    · obtain ⟨b, off, rfl, hbb⟩ := HL.out.form (by omega)
      obtain ⟨t, cu, nn, hgk, hlw, g0, g1, g2⟩ := HL.out.leg hb hbb k hlt
      have HGK : Hid (L[k]? = some (t, cu, nn)) := hgk
      have hbk : b < wr.heap.size := Nat.lt_of_lt_of_le hbb hb.size
      have hXk : X < wr.heap.size := World.block_lt_of_cell? _ _ e0
      have hts : t.size ≤ maxLen := hlw.1
      have hcw : (Lit.int .i64 cu).wf = true := hlw.2.1
      clear hgk hlw
      have hbd := balP_bd40 HBL.out t cu
      have hto := toP_bd (id, L) t cu
      obtain ⟨A0, hA0⟩ : ∃ A0, A0 = balP B t cu := ⟨_, rfl⟩
      obtain ⟨T0, hT0⟩ : ∃ T0, T0 = toP (id, L) t cu := ⟨_, rfl⟩
      have HA0 : Hid (balK B [] t cu = A0) := (balK_nil B t cu).trans hA0.symm
      have HTS : Hid (T0 = atY (yieldsOf id L cu) t.data.toList) := hT0
      have HO : Hid (overL B (id, L) (t, cu, nn) = (decide (2000 < A0 + T0) || decide (A0 + T0 < -2000))) := overL_bool B (id, L) (t, cu, nn) (by rw [hA0, hT0])
      rw [← hA0] at hbd
      rw [← hT0] at hto
      obtain ⟨ha1, ha2⟩ := hbd
      obtain ⟨ht1, ht2⟩ := hto
      clear hA0 hT0
      go_upto_region 4 with fail
      obtain ⟨Y, hY⟩ : ∃ Y, Y = wr.heap.size := ⟨_, rfl⟩
      obtain ⟨W, hW⟩ : ∃ W, W = wr.alloc (.cells #[.string t, .int .i64 cu, .int .i64 nn] 69) := ⟨_, rfl⟩
      have kW : Below wr.heap.size wr W := by rw [hW]; exact (Below.refl _ _).alloc (Nat.le_refl _) _
      have y0 : W.cell? ⟨Y, 0, none⟩ = some (.string t) := by rw [hW, hY]; simp
      have y1 : W.cell? ⟨Y, 1, none⟩ = some (.int .i64 cu) := by rw [hW, hY]; simp
      have x0 := cell_later kW e0
      have x1 := cell_later kW e1
      have hBW : Below w.heap.size w W := hb.trans (kW.mono hb.size)
      have HBW : Hid (Below (w.heap.size + 1) (w.alloc (.cells #[.int .i64 id, .slice (some ⟨b, off, none⟩) m cm] 29)) W) := HB0.out.trans (kW.mono (by have := HB0.out.size; simpa using this))
      rw [← hW, ← hY]
      clear hW hY kW e0 e1 g0 g1 g2 hb hbk hXk HB0
      have hLW := HL.out.keep hBW
      have HTW : Hid (TalAt W T mi mb Bi B []) := HT.out.below hBW
      have k0 : Below W.heap.size W W.drew := (Below.refl _ W).drew
      have HMK : Hid (∀ w', Below W.heap.size W w' → (w'.cell? ⟨Y, 0, none⟩ = some (.string t) ∧ w'.cell? ⟨Y, 1, none⟩ = some (.int .i64 cu) ∧ w'.cell? ⟨X, 0, none⟩ = some (.int .i64 id) ∧ w'.cell? ⟨X, 1, none⟩ = some (.slice (some ⟨b, off, none⟩) m cm) ∧ w'.cell? ⟨T, 1, none⟩ = some (.map (some mb)) ∧ (Instr.lookup 115 (.map (some mb)) (.agg #[.string t, .int .i64 cu]) false).run Tryd.prog w' = .ok (.int .i64 A0) w' ∧ Below W.heap.size W w')) := fun w' k => ⟨cell_later k y0, cell_later k y1, cell_later k x0, cell_later k x1, (HTW.out.below k).c1, by rw [← HA0.out]; exact (HTW.out.below k).look hts hcw, k⟩
      go_region_held3 (fun w' => w'.cell? ⟨Y, 0, none⟩ = some (.string t) ∧ w'.cell? ⟨Y, 1, none⟩ = some (.int .i64 cu) ∧ w'.cell? ⟨X, 0, none⟩ = some (.int .i64 id) ∧ w'.cell? ⟨X, 1, none⟩ = some (.slice (some ⟨b, off, none⟩) m cm) ∧ w'.cell? ⟨T, 1, none⟩ = some (.map (some mb)) ∧ (Instr.lookup 115 (.map (some mb)) (.agg #[.string t, .int .i64 cu]) false).run Tryd.prog w' = .ok (.int .i64 A0) w' ∧ Below W.heap.size W w') (first | exact HMK.out _ k1 | exact HMK.out _ k0) (first
        | (go_at_call 145; refine (implTo id cu t (some ⟨b, off, none⟩) m cm L _ (hLW.keep k0) hts).mono ?_; rw [← HTS.out]; rintro e w1 ⟨rfl, hb1⟩; have k1 : Below W.heap.size W w1 := k0.trans (hb1.mono k0.size)))
      all_goals
        have hBx : Below w.heap.size w w1 := hBW.trans (k1.mono hBW.size)
        have HBx : Hid (Below (w.heap.size + 1) (w.alloc (.cells #[.int .i64 id, .slice (some ⟨b, off, none⟩) m cm] 29)) w1) := HBW.out.trans (k1.mono (by have := HBW.out.size; simpa using this))
        clear k1 hb1 x0 x1 y0 y1 hLW hBW
        by_cases ho1 : 2000 < A0 + T0
        · go_wp2
          go_ret
          refine ⟨ret_bool (overP_yes (p := (id, L)) HGK.out (HO.out.trans ?_)).symm, hBx⟩
          simp [ho1]
        · by_cases ho2 : A0 + T0 < -2000
          · go_wp2
            go_ret
            refine ⟨ret_bool (overP_yes (p := (id, L)) HGK.out (HO.out.trans ?_)).symm, hBx⟩
            simp [ho2]
          · go_wp2
            go_roundw
            case rel => exact ⟨k + 1, by omega, by go_num, (by rw [HX.out]; exact HBx.out), over_take_no (p := (id, L)) HGK.out (HO.out.trans (by simp [ho1, ho2])) HNO.out⟩
            case measure => simp [intOf]; omega
    · go_wp2
      go_ret
      refine ⟨ret_bool ?_, hb⟩
      have := HNO.out
      rw [List.take_of_length_le (by rw [HLEN.out]; omega)] at this
      exact this.symm
end Go.Proofs.YtfblpbihpmhgjaaDoor
