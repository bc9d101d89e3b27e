/-
  What the program's mayTake answers at every tally and posting, by a walk of its Go text.
  What the program's take turns in a tally, at every posting that may be taken, by a walk of its Go text.
-/
import Derived.Test.YtfblpbihpmhgjaaDoorBp31
import Derived.WalkArith
import Derived.Deep.RegionWith
namespace Go.Proofs.YtfblpbihpmhgjaaDoor
open Go.RowKit

/-- How posting ends, as an error. -/
def endV (c : Int) : Value := if c = 0 then .nilIface else .iface 159 (.agg #[.int .i64 c])
theorem postB_id {id : Int} {L : List LegD} (h : postB id L = true) : 0 ≤ id ∧ id ≤ 99 := by
  simp [postB] at h
  exact ⟨h.1, h.2.1⟩
theorem endV_ret {c : Int} {v : Value} (h : v = endV c) : Ending.returned v = .returned (endV c) := by rw [h]

set_option maxRecDepth 100000 in
set_option maxHeartbeats 2000000 in
theorem implMay (T mi mb : Nat) (B : List PostD) (id : Int) (s : Option Addr) (m cm : Nat) (L : List LegD) (w : World) (hT : TalAt w T mi mb B B []) (hL : LegsAt w s m cm L) (h40 : B.length ≤ 40) :
    Calls Tryd.prog 88 #[.pointer (some ⟨T, 0, none⟩), .agg #[.int .i64 id, .slice s m cm]] w fun e w' => e = .returned (endV (codeP B (id, L))) ∧ Below w.heap.size w w' := by
  have HT : Hid (TalAt w T mi mb B B []) := hT
  have HL : Hid (LegsAt w s m cm L) := hL
  have kB : Below w.heap.size w (w.alloc (.cells #[.int .i64 id, .slice s m cm] 29)) := (Below.refl _ _).alloc (Nat.le_refl _) _
  clear hT hL
  obtain ⟨X, hX⟩ : ∃ X, X = w.heap.size := ⟨_, rfl⟩
  obtain ⟨W, hW⟩ : ∃ W, W = w.alloc (.cells #[.int .i64 id, .slice s m cm] 29) := ⟨_, rfl⟩
  have x0 : W.cell? ⟨X, 0, none⟩ = some (.int .i64 id) := by rw [hW, hX]; simp
  have x1 : W.cell? ⟨X, 1, none⟩ = some (.slice s m cm) := by rw [hW, hX]; simp
  rw [← hW] at kB
  go_enter Tryd.func88, Tryd.ntmps88
  go_upto_region 1 with fail
  rw [← hW]
  simp only [← hX]
  clear hW hX
  cases hf : fairB id L with
  | false =>
    go_wp2_with (go_at_call 120; refine (implFair _ _ _ _ L _ (HL.out.keep kB)).mono ?_; rw [hf]; rintro e w1 ⟨rfl, hb1⟩)
    go_ret
    exact ⟨endV_ret (by simp [codeP, hf, endV]), kB.trans (hb1.mono kB.size)⟩
  | true =>
    have hpb := fair_post (p := (id, L)) hf
    have hid := postB_id hpb
    have hwf : (Lit.int .i64 id).wf = true := WalkArith.wf_i64 (by omega)
    have HPB : Hid (postB id L = true) := hpb
    clear hpb hid
    go_wp2_with fail
    refine (implFair _ _ _ _ L _ (HL.out.keep kB)).mono ?_
    rw [hf]
    rintro e w1 ⟨rfl, hb1⟩
    have k1 : Below w.heap.size w w1 := kB.trans (hb1.mono kB.size)
    have x10 := cell_later hb1 x0
    have x11 := cell_later hb1 x1
    have HT1 : Hid (TalAt w1 T mi mb B B []) := HT.out.below k1
    clear x0 x1 hb1 kB
    have k10 : Below w1.heap.size w1 w1.drew := (Below.refl _ w1).drew
    cases hh : hasP B id with
    | true =>
      have HMK : Hid (∀ w', Below w1.heap.size w1 w' → (w'.cell? ⟨X, 0, none⟩ = some (.int .i64 id) ∧ w'.cell? ⟨T, 0, none⟩ = some (.map (some mi)) ∧ (Instr.lookup 114 (.map (some mi)) (.int .i64 id) false).run Tryd.prog w' = .ok (.int .i64 1) w' ∧ Below w1.heap.size w1 w')) := fun w' k => ⟨cell_later k x10, (HT1.out.below k).c0, by have := (HT1.out.below k).lookId hwf; rw [hh] at this; exact this, k⟩
      go_upto_region 3 with fail
      go_region_held3 (fun w' => w'.cell? ⟨X, 0, none⟩ = some (.int .i64 id) ∧ w'.cell? ⟨T, 0, none⟩ = some (.map (some mi)) ∧ (Instr.lookup 114 (.map (some mi)) (.int .i64 id) false).run Tryd.prog w' = .ok (.int .i64 1) w' ∧ Below w1.heap.size w1 w') (exact HMK.out _ k10) (fail)
      all_goals
        go_wp2
        go_ret
        exact ⟨endV_ret (by simp [codeP, hf, hh, endV]), k1.trans (k10.mono k1.size)⟩
    | false =>
      have HMK : Hid (∀ w', Below w1.heap.size w1 w' → (w'.cell? ⟨X, 0, none⟩ = some (.int .i64 id) ∧ w'.cell? ⟨T, 0, none⟩ = some (.map (some mi)) ∧ (Instr.lookup 114 (.map (some mi)) (.int .i64 id) false).run Tryd.prog w' = .ok (.int .i64 0) w' ∧ Below w1.heap.size w1 w')) := fun w' k => ⟨cell_later k x10, (HT1.out.below k).c0, by have := (HT1.out.below k).lookId hwf; rw [hh] at this; exact this, k⟩
      go_upto_region 3 with fail
      go_region_held3 (fun w' => w'.cell? ⟨X, 0, none⟩ = some (.int .i64 id) ∧ w'.cell? ⟨T, 0, none⟩ = some (.map (some mi)) ∧ (Instr.lookup 114 (.map (some mi)) (.int .i64 id) false).run Tryd.prog w' = .ok (.int .i64 0) w' ∧ Below w1.heap.size w1 w') (exact HMK.out _ k10) (fail)
      have k2 : Below w.heap.size w w1.drew := k1.trans (k10.mono k1.size)
      cases ho : overP B (id, L) with
      | true =>
        go_wp2_with (go_at_call 121; refine (implOver _ _ _ _ B _ _ _ _ L _ (HT.out.below k2) (HL.out.keep k2) h40 HPB.out).mono ?_; rw [ho]; rintro e w3 ⟨rfl, hb3⟩)
        go_ret
        exact ⟨endV_ret (by simp [codeP, hf, hh, ho, endV]), k2.trans (hb3.mono k2.size)⟩
      | false =>
        go_wp2_with fail
        refine (implOver _ _ _ _ B _ _ _ _ L _ (HT.out.below k2) (HL.out.keep k2) h40 HPB.out).mono ?_
        rw [ho]
        rintro e w3 ⟨rfl, hb3⟩
        have k3 : Below w.heap.size w w3 := k2.trans (hb3.mono k2.size)
        have T3 := HT.out.below k3
        have c03 := T3.c0
        obtain ⟨D, hown, hD⟩ := T3.ids
        have hlen := hown.len Tryd.underlying114 3
        rw [hD.size] at hlen
        clear x10 x11 hb3 k2 T3 hown hD HMK HT1 k10
        by_cases hn : 40 ≤ B.length
        · go_wp2
          go_ret
          exact ⟨endV_ret (by simp [codeP, hf, hh, ho, hn, endV]), k3⟩
        · go_wp2
          go_ret
          exact ⟨endV_ret (by simp [codeP, hf, hh, ho, hn, endV]), k3⟩
end Go.Proofs.YtfblpbihpmhgjaaDoor

namespace Go.Proofs.YtfblpbihpmhgjaaDoor
open Go.RowKit

theorem row_slice {w : World} {base e n : Nat} {v : Value} {xs : List Value} (h : w.ownsRow base e 1 v n xs) : ∃ a c, v = .slice a n c := by
  rcases h.2 with ⟨rfl, rfl⟩ | ⟨g, cap, _, rfl, _⟩
  · exact ⟨none, 0, rfl⟩
  · exact ⟨_, _, rfl⟩
theorem row_far {w : World} {T n : Nat} {v : Value} {xs : List Value} (h : w.ownsRow (T + 1) 9 1 v n xs) {x : Nat} (hx : x ≤ T) : v.ownBlock = none ∨ v.ownBlock ≠ some x := by
  cases hv : v.ownBlock with
  | none => exact Or.inl rfl
  | some g => exact Or.inr (fun e => by cases e; have := (h.lt _ hv).1; omega)
theorem legs_grown {w w' : World} {row : Option Nat} {s : Option Addr} {m cm : Nat} {L : List LegD} {z : Nat} (h : LegsAt w s m cm L) (hg : w.grownBy w' row) (hz : ∀ x, s = some x → 0 < m → x.block < z) (hr : ∀ x, row = some x → z ≤ x) : LegsAt w' s m cm L := by
  refine h.moved hg.size ?_
  intro x e hp o
  refine World.cell?_of_block (hg.block x.block (h.lies x e hp).1 ?_)
  intro e'
  have h1 := hr x.block e'.symm
  have h2 := hz x e hp
  omega

theorem TallyAt.ids' {w : World} {T mi mb : Nat} {va : Value} {B : List PostD} {A : List ByteArray} {id : Int} {L : List LegD} (h : TallyAt w T mi mb va B B [] A) (hw : (Lit.int .i64 id).wf = true) (hno : hasP B id = false) (hn : B.length < 40) :
    ∃ w1, (Instr.mapUpdate 114 (.map (some mi)) (.int .i64 id) (.int .i64 1)).run Tryd.prog w = .ok () w1 ∧ TallyAt w1 T mi mb va (B ++ [(id, L)]) B [] A ∧ w.grownBy w1 (some mi) := by
  obtain ⟨D, ho, hD⟩ := h.ids
  obtain ⟨w1, hrun, h1, h2⟩ := ho.update Tryd.keyedId Tryd.underlying114 (by unfold maxLen; omega) (Maps.keyOf_int_mk Tryd.underlying3 hw) (plainElem_int Tryd.underlying3 (show (Lit.int .i64 1).wf = true by decide))
  have hTi : some T ≠ some mi := fun e => by cases e; have := h.hmi; omega
  have hbi : some mb ≠ some mi := fun e => by cases e; exact h.hne rfl
  obtain ⟨Db, ob, ib⟩ := h.bals
  refine ⟨w1, hrun, ⟨cell_far2 h.c0 h2 hTi, cell_far2 h.c1 h2 hTi, cell_far2 h.c2 h2 hTi, (frozen_far h2 (x := ⟨T, 2, none⟩) (World.block_lt_of_cell? _ _ h.c2) hTi).trans h.f2, ⟨_, by simpa using h1, hD.push (ho.tidy Tryd.keyedId) hw hno⟩, ⟨Db, ob.kept h2 hbi, ib⟩, h.row.kept h2 (row_far h.row (by have := h.hmi; omega)), h.hmi, h.hmb, h.hne⟩, h2⟩

theorem TallyAt.bal' {w : World} {T mi mb : Nat} {va : Value} {Bi B : List PostD} {A : List ByteArray} {Lk : List LegD} {l : LegD} (h : TallyAt w T mi mb va Bi B Lk A) (hl : legB l = true) (hw : LegW l) (hn : B.length ≤ 40) (hk : Lk.length ≤ 4) :
    ∃ (v0 : Value) (st : Int) (w2 w3 : World), (Instr.mapEntry 115 (.map (some mb)) (.agg #[.string l.1, .int .i64 l.2.1])).run Tryd.prog w = .ok (.tuple #[v0, .int .i64 st]) w2 ∧
      (Instr.entryStore 115 (.map (some mb)) (.int .i64 st) (.int .i64 (balK B Lk l.1 l.2.1 + l.2.2))).run Tryd.prog w2 = .ok () w3 ∧ (Instr.lookup 115 (.map (some mb)) (.agg #[.string l.1, .int .i64 l.2.1]) false).run Tryd.prog w2 = .ok (.int .i64 (balK B Lk l.1 l.2.1)) w2 ∧ w.grownBy w2 (some mb) ∧ TallyAt w3 T mi mb va Bi B (Lk ++ [l]) A ∧ w.grownBy w3 (some mb) := by
  obtain ⟨D, ho, hD⟩ := h.bals
  have hbd := balK_bd hn hk l.1 l.2.1
  have hnum : -1000 ≤ l.2.2 ∧ l.2.2 ≤ 1000 := by simp [legB] at hl; omega
  obtain ⟨v0, st, w2, w3, r1, r2, g2, o3, g3⟩ := entry_law (x := balK B Lk l.1 l.2.1 + l.2.2) ho (by unfold maxLen; omega) hw.1 hw.2.1 (WalkArith.wf_i64 (by omega))
  have hTi : some T ≠ some mb := fun e => by cases e; have := h.hmb; omega
  have hbi : some mi ≠ some mb := fun e => by cases e; exact h.hne rfl
  obtain ⟨Di, oi, ii⟩ := h.ids
  have hlk := entry_look ho (by unfold maxLen; omega) hw.1 hw.2.1 r1 (h.look hw.1 hw.2.1)
  refine ⟨v0, st, w2, w3, r1, r2, hlk, g2, ⟨cell_far2 h.c0 g3 hTi, cell_far2 h.c1 g3 hTi, cell_far2 h.c2 g3 hTi, (frozen_far g3 (x := ⟨T, 2, none⟩) (World.block_lt_of_cell? _ _ h.c2) hTi).trans h.f2, ⟨Di, oi.kept g3 hbi, ii⟩, ⟨_, ?_, hD.push hl hw.1 hw.2.1⟩, h.row.kept g3 (row_far h.row (by have := h.hmb; omega)), h.hmi, h.hmb, h.hne⟩, g3⟩
  rw [List.length_append, List.length_singleton, ← Nat.add_assoc]
  exact o3

theorem TallyAt.acc' {w w5 : World} {T mi mb : Nat} {va v' : Value} {Bi B : List PostD} {A : List ByteArray} {Lk : List LegD} {t : ByteArray} (h : TallyAt w T mi mb va Bi B Lk A) (hm : hitI A t = false) (hi : Inserted w w5 (T + 1) A.length va v' ((A.take (posI A t) ++ t :: A.drop (posI A t)).map .string)) :
    TallyAt (w5.setCell ⟨T, 2, none⟩ v') T mi mb v' Bi B Lk (insI A t) := by
  obtain ⟨r, g, hb⟩ := hi
  obtain ⟨Di, oi, ii⟩ := h.ids
  obtain ⟨Db, ob, ib⟩ := h.bals
  have hTw : T < w.heap.size := World.block_lt_of_cell? _ _ h.c0
  have ne : ∀ x, x ≤ T → some x ≠ va.ownBlock := fun x hx e => by have := (h.row.lt x e.symm).1; omega
  have hv' : ∀ x, v'.ownBlock = some x → T + 1 ≤ x := fun x e => (r.lt x e).1
  have gs : w5.grownBy (w5.setCell ⟨T, 2, none⟩ v') (some T) := ⟨rfl, rfl, rfl, by simp [World.setCell], fun k _ hk => Below.heap_setCell _ _ _ _ (fun e => hk (by rw [e]))⟩
  have hiT : some mi ≠ some T := fun e => by cases e; have := h.hmi; omega
  have hbT : some mb ≠ some T := fun e => by cases e; have := h.hmb; omega
  have c2' := cell_far2 h.c2 g (ne T (Nat.le_refl _))
  have hlen : (insI A t).length = A.length + 1 := by
    unfold insI
    have := posI_le A t
    rw [hm]
    simp
    omega
  refine ⟨?_, ?_, World.cell?_setCell_same _ _ _ c2', ?_, ⟨Di, (oi.kept g (ne mi (by have := h.hmi; omega))).kept gs hiT, ii⟩, ⟨Db, (ob.kept g (ne mb (by have := h.hmb; omega))).kept gs hbT, ib⟩, ?_, h.hmi, h.hmb, h.hne⟩
  · exact (World.cell?_setCell_other _ _ _ _ (by simp)).trans (cell_far2 h.c0 g (ne T (Nat.le_refl _)))
  · exact (World.cell?_setCell_other _ _ _ _ (by simp)).trans (cell_far2 h.c1 g (ne T (Nat.le_refl _)))
  · rw [World.frozen?_setCell]
    exact (frozen_far g (x := ⟨T, 2, none⟩) hTw (ne T (Nat.le_refl _))).trans h.f2
  · rw [hlen]
    have e1 : insI A t = A.take (posI A t) ++ t :: A.drop (posI A t) := by unfold insI; rw [hm]; simp
    rw [e1]
    refine r.kept gs ?_
    cases hv : v'.ownBlock with
    | none => exact Or.inl rfl
    | some x => exact Or.inr (fun e => by cases e; have := hv' _ hv; omega)

theorem TallyAt.done {w : World} {T mi mb : Nat} {va : Value} {B : List PostD} {A : List ByteArray} {id : Int} {L : List LegD} (h : TallyAt w T mi mb va (B ++ [(id, L)]) B L A) (hp : postB id L = true) : TallyAt w T mi mb va (B ++ [(id, L)]) (B ++ [(id, L)]) [] A := by
  obtain ⟨Db, ob, ib⟩ := h.bals
  exact ⟨h.c0, h.c1, h.c2, h.f2, h.ids, ⟨Db, ob.mono (by have := postB_len hp; simp; omega), ib.done hp⟩, h.row, h.hmi, h.hmb, h.hne⟩
end Go.Proofs.YtfblpbihpmhgjaaDoor
