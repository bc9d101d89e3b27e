/-
  The document's copy of levels, by a walk of its Go text.
-/
import Derived.Test.YtapjkbpfhmbfaaaGreatDoorSo29
import Derived.Test.YtapjkbpfhmbfaaaGreatDoorSo03
import Derived.Test.YtapjkbpfhmbfaaaGreatDoorSo16
import Derived.Test.YtapjkbpfhmbfaaaGreatDoorSo34
import Derived.Test.YtapjkbpfhmbfaaaGreatDoorSo45
namespace Go.Proofs.YtapjkbpfhmbfaaaGreatDoor
open Go.RowKit
set_option maxRecDepth 100000
set_option maxHeartbeats 4000000
theorem cell_two_new' (w : World) (x y : Value) (t : TypeId) : ∀ j u, [x, y][j]? = some u → (w.alloc (.cells #[x, y] t)).cell? ((⟨w.heap.size, 0, none⟩ : Addr).add j) = some u := by
  intro j u hj
  rw [Go.WideShapes.add_plain, Nat.zero_add]
  match j, hj with
  | 0, hj => simp at hj; subst hj; simp
  | 1, hj => simp at hj; subst hj; simp
theorem cell_one_new' (w : World) (x : Value) (t : TypeId) : ∀ j u, [x][j]? = some u → (w.alloc (.cells #[x] t)).cell? ((⟨w.heap.size, 0, none⟩ : Addr).add j) = some u := by
  intro j u hj
  rw [Go.WideShapes.add_plain, Nat.zero_add]
  match j, hj with
  | 0, hj => simp at hj; subst hj; simp
theorem rowg_mono {w : World} {base base' T size n : Nat} {v : Value} {xs : List Value} (h : w.ownsRow base T size v n xs) (hb : base' ≤ base) : w.ownsRow base' T size v n xs := by
  refine ⟨h.1, ?_⟩
  rcases h.2 with h2 | ⟨g, cap, cur, hv, hg, r⟩
  · exact Or.inl h2
  · exact Or.inr ⟨g, cap, cur, hv, Nat.le_trans hb hg, r⟩
theorem kind_row {w : World} {base e size n m g cap : Nat} {xs : List Value} (h : w.ownsRow base e size (.slice (some ⟨g, 0, none⟩) m cap) n xs) : ∃ sz, BlockOf w g e sz := by
  rcases h.2 with ⟨h', _⟩ | ⟨g', cap', cur, h', _, hg, _, _, hs, _⟩
  · simp at h'
  · simp only [Value.slice.injEq, Option.some.injEq, Addr.mk.injEq, and_true] at h'
    obtain ⟨rfl, _⟩ := h'
    exact ⟨_, cur, hg, rfl⟩
def RunsG (base : Nat) (w : World) (g n c : Nat) (B : List RunD) : Prop :=
  B.length = n ∧ (∀ p ∈ B, (Lit.int .i64 p.2).wf = true) ∧ ∃ xs, w.ownsRow base 135 2 (.slice (some ⟨g, 0, none⟩) n c) n xs ∧ ∀ (i : Nat) (p : RunD), B[i]? = some p → ∃ e d, xs[i * 2]? = some (.slice (some ⟨e, 0, none⟩) p.1.length d) ∧ xs[i * 2 + 1]? = some (.int .i64 p.2) ∧ OwnE w base e p.1.length d p.1
theorem RunsG.below {base g n c : Nat} {w w' : World} {B : List RunD} (h : RunsG base w g n c B) (hb : Below w.heap.size w w') : RunsG base w' g n c B := by
  obtain ⟨h1, h2, xs, h3, h4⟩ := h
  exact ⟨h1, h2, xs, h3.kept (row := none) ⟨hb.os, hb.tape, hb.output, hb.size, fun k hk _ => hb.block k hk⟩ (.inr (by simp [Value.ownBlock])), fun i p hp => by obtain ⟨e, d, a1, a2, a3⟩ := h4 i p hp; exact ⟨e, d, a1, a2, a3.below hb⟩⟩
theorem RunsG.mono {base base' g n c : Nat} {w : World} {B : List RunD} (h : RunsG base w g n c B) (hb : base' ≤ base) : RunsG base' w g n c B := by
  obtain ⟨h1, h2, xs, h3, h4⟩ := h
  exact ⟨h1, h2, xs, rowg_mono h3 hb, fun i p hp => by obtain ⟨e, d, a1, a2, a3⟩ := h4 i p hp; exact ⟨e, d, a1, a2, a3.mono hb⟩⟩
theorem RunsG.lt {base g n c : Nat} {w : World} {B : List RunD} (h : RunsG base w g n c B) : base ≤ g ∧ g < w.heap.size := by
  obtain ⟨_, _, xs, h3, _⟩ := h
  exact h3.lt g rfl
theorem RunsG.grown {base g n c G T sz : Nat} {w w' : World} {B : List RunD} (h : RunsG base w g n c B) (hG : BlockOf w G T sz) (t1 : T ≠ 135) (t2 : T ≠ 87) (hg : w.grownBy w' (some G)) : RunsG base w' g n c B := by
  obtain ⟨h1, h2, xs, h3, h4⟩ := h
  obtain ⟨s3, k3⟩ := kind_row h3
  refine ⟨h1, h2, xs, h3.kept hg (.inr ?_), fun i p hp => ?_⟩
  · intro e
    have e' : g = G := by simpa [Value.ownBlock] using e
    subst e'
    exact t1 (hG.kind k3)
  · obtain ⟨e, d, a1, a2, a3⟩ := h4 i p hp
    obtain ⟨s4, k4⟩ := kind_row a3.owns
    refine ⟨e, d, a1, a2, a3.grown hg (fun e' => ?_)⟩
    have e'' : e = G := Option.some.inj e'
    subst e''
    exact t2 (hG.kind k4)
theorem runsG_push {base g n c g' c' e d : Nat} {w w' : World} {xs : List Value} {B : List RunD} {L : List EntD} {m : Int} (h1 : B.length = n) (h2 : ∀ p ∈ B, (Lit.int .i64 p.2).wf = true) (h3 : w.ownsRow base 135 2 (.slice (some ⟨g, 0, none⟩) n c) n xs)
    (h4 : ∀ (i : Nat) (p : RunD), B[i]? = some p → ∃ e d, xs[i * 2]? = some (.slice (some ⟨e, 0, none⟩) p.1.length d) ∧ xs[i * 2 + 1]? = some (.int .i64 p.2) ∧ OwnE w base e p.1.length d p.1)
    (hL : OwnE w base e L.length d L) (hm : (Lit.int .i64 m).wf = true) (hg : w.grownBy w' (some g)) (ho : w'.ownsRow base 135 2 (.slice (some ⟨g', 0, none⟩) (n + 1) c') (n + 1) (xs ++ [.slice (some ⟨e, 0, none⟩) L.length d, .int .i64 m])) : RunsG base w' g' (n + 1) c' (B ++ [(L, m)]) := by
  obtain ⟨s3, k3⟩ := kind_row h3
  have hne : ∀ {e d : Nat} {L : List EntD}, OwnE w base e L.length d L → OwnE w' base e L.length d L := fun {e d L} hO => by
    obtain ⟨s4, k4⟩ := kind_row hO.owns
    refine hO.grown hg (fun e' => ?_)
    have e'' : e = g := Option.some.inj e'
    subst e''
    exact absurd (k3.kind k4) (by decide)
  have hxl := h3.1
  refine ⟨by rw [List.length_append, h1]; rfl, fun p hp => ?_, _, ho, fun i p hp => ?_⟩
  · rcases List.mem_append.1 hp with h | h
    · exact h2 p h
    · rw [List.mem_singleton] at h; subst h; exact hm
  · by_cases hi : i < B.length
    · rw [List.getElem?_append_left hi] at hp
      obtain ⟨e0, d0, a1, a2, a3⟩ := h4 i p hp
      exact ⟨e0, d0, by rw [List.getElem?_append_left (by omega)]; exact a1, by rw [List.getElem?_append_left (by omega)]; exact a2, hne a3⟩
    · have hi' := (List.getElem?_eq_some_iff.1 hp).1
      rw [List.length_append] at hi'
      have hi2 : i = B.length := by have : [(L, m)].length = 1 := rfl; omega
      subst hi2
      rw [List.getElem?_append_right (Nat.le_refl _), Nat.sub_self] at hp
      cases hp
      refine ⟨e, d, ?_, ?_, hne hL⟩
      · rw [List.getElem?_append_right (by omega), show B.length * 2 - xs.length = 0 by omega]; rfl
      · rw [List.getElem?_append_right (by omega), show B.length * 2 + 1 - xs.length = 1 by omega]; rfl
theorem RunsG.runsIn {base g n c : Nat} {w : World} {B : List RunD} (h : RunsG base w g n c B) : RunsIn base w (some ⟨g, 0, none⟩) n c B := by
  obtain ⟨h1, h2, xs, h3, h4⟩ := h
  have hrc := row_rooms h3
  refine ⟨h1, hrc.1, hrc.2, (fun e => by cases e), ?_, ?_⟩
  · rintro x e _
    cases e
    exact ⟨(h3.lt g rfl).2, rfl, (h3.lt g rfl).1⟩
  · rintro x e i hi
    cases e
    obtain ⟨e0, d0, a1, a2, a3⟩ := h4 i _ (List.getElem?_eq_getElem hi)
    refine ⟨h2 _ (List.getElem_mem hi), _, _, _, ?_, ?_, a3.entsAt, fun x e _ => by cases e; exact a3.lt.1⟩
    · simp only [Nat.zero_add]
      exact (h3.cellAt _ (by omega)).trans a1
    · simp only [Nat.zero_add]
      exact (h3.cellAt _ (by omega)).trans a2
def DistX (xs : List Value) : Prop := ∀ (i j gi ni di gj nj dj : Nat), i < j → xs[i]? = some (.slice (some ⟨gi, 0, none⟩) ni di) → xs[j]? = some (.slice (some ⟨gj, 0, none⟩) nj dj) → gi ≠ gj
theorem distX_push {xs : List Value} {g n d : Nat} (h : DistX xs) (hl : ∀ (i gi ni di : Nat), xs[i]? = some (.slice (some ⟨gi, 0, none⟩) ni di) → gi ≠ g) : DistX (xs ++ [.slice (some ⟨g, 0, none⟩) n d]) := by
  intro i j gi ni di gj nj dj hij hi hj
  have hj' := (List.getElem?_eq_some_iff.1 hj).1
  rw [List.length_append] at hj'
  have h1 : ([Value.slice (some ⟨g, 0, none⟩) n d] : List Value).length = 1 := rfl
  rw [List.getElem?_append_left (by omega)] at hi
  by_cases hx : j < xs.length
  · rw [List.getElem?_append_left hx] at hj
    exact h i j gi ni di gj nj dj hij hi hj
  · have hje : j = xs.length := by omega
    subst hje
    rw [List.getElem?_append_right (Nat.le_refl _), Nat.sub_self] at hj
    cases hj
    exact hl i gi ni di hi
def LevsG (base : Nat) (w : World) (G n c : Nat) (V : List (List RunD)) : Prop :=
  V.length = n ∧ ∃ xs, w.ownsRow base 64 1 (.slice (some ⟨G, 0, none⟩) n c) n xs ∧ (∀ (i : Nat) (B : List RunD), V[i]? = some B → ∃ g d, xs[i]? = some (.slice (some ⟨g, 0, none⟩) B.length d) ∧ RunsG base w g B.length d B) ∧ DistX xs
theorem LevsG.below {base g n c : Nat} {w w' : World} {V : List (List RunD)} (h : LevsG base w g n c V) (hb : Below w.heap.size w w') : LevsG base w' g n c V := by
  obtain ⟨h1, xs, h3, h4, h5⟩ := h
  exact ⟨h1, xs, h3.kept (row := none) ⟨hb.os, hb.tape, hb.output, hb.size, fun k hk _ => hb.block k hk⟩ (.inr (by simp [Value.ownBlock])), (fun i p hp => by obtain ⟨e, d, a1, a3⟩ := h4 i p hp; exact ⟨e, d, a1, a3.below hb⟩), h5⟩
theorem levsG_push {base g n c g' c' e d : Nat} {w w' : World} {xs : List Value} {V : List (List RunD)} {B : List RunD} (h1 : V.length = n) (h3 : w.ownsRow base 64 1 (.slice (some ⟨g, 0, none⟩) n c) n xs)
    (h4 : ∀ (i : Nat) (B : List RunD), V[i]? = some B → ∃ g d, xs[i]? = some (.slice (some ⟨g, 0, none⟩) B.length d) ∧ RunsG base w g B.length d B)
    (hL : RunsG base w e B.length d B) (hg : w.grownBy w' (some g)) (ho : w'.ownsRow base 64 1 (.slice (some ⟨g', 0, none⟩) (n + 1) c') (n + 1) (xs ++ [.slice (some ⟨e, 0, none⟩) B.length d])) (hd : DistX xs) (hl : ∀ (i gi ni di : Nat), xs[i]? = some (.slice (some ⟨gi, 0, none⟩) ni di) → gi ≠ e) : LevsG base w' g' (n + 1) c' (V ++ [B]) := by
  obtain ⟨s3, k3⟩ := kind_row h3
  have hxl := h3.1
  refine ⟨by rw [List.length_append, h1]; rfl, _, ho, fun i p hp => ?_, distX_push hd hl⟩
  by_cases hi : i < V.length
  · rw [List.getElem?_append_left hi] at hp
    obtain ⟨e0, d0, a1, a3⟩ := h4 i p hp
    exact ⟨e0, d0, by rw [List.getElem?_append_left (by omega)]; exact a1, a3.grown k3 (by decide) (by decide) hg⟩
  · have hi' := (List.getElem?_eq_some_iff.1 hp).1
    rw [List.length_append] at hi'
    have hi2 : i = V.length := by have : [B].length = 1 := rfl; omega
    subst hi2
    rw [List.getElem?_append_right (Nat.le_refl _), Nat.sub_self] at hp
    cases hp
    exact ⟨e, d, by rw [List.getElem?_append_right (by omega), show V.length - xs.length = 0 by omega]; rfl, hL.grown k3 (by decide) (by decide) hg⟩
theorem LevsG.grown {base g n c G T sz : Nat} {w w' : World} {V : List (List RunD)} (h : LevsG base w g n c V) (hG : BlockOf w G T sz) (t0 : T ≠ 64) (t1 : T ≠ 135) (t2 : T ≠ 87) (hg : w.grownBy w' (some G)) : LevsG base w' g n c V := by
  obtain ⟨h1, xs, h3, h4, h5⟩ := h
  obtain ⟨s3, k3⟩ := kind_row h3
  refine ⟨h1, xs, h3.kept hg (.inr ?_), (fun i p hp => by obtain ⟨e, d, a1, a3⟩ := h4 i p hp; exact ⟨e, d, a1, a3.grown hG t1 t2 hg⟩), h5⟩
  intro e
  have e' : g = G := by simpa [Value.ownBlock] using e
  subst e'
  exact t0 (hG.kind k3)
theorem LevsG.mono {base base' g n c : Nat} {w : World} {V : List (List RunD)} (h : LevsG base w g n c V) (hb : base' ≤ base) : LevsG base' w g n c V := by
  obtain ⟨h1, xs, h3, h4, h5⟩ := h
  exact ⟨h1, xs, rowg_mono h3 hb, (fun i p hp => by obtain ⟨e, d, a1, a3⟩ := h4 i p hp; exact ⟨e, d, a1, a3.mono hb⟩), h5⟩
theorem LevsG.levelsIn {base g n c : Nat} {w : World} {V : List (List RunD)} (h : LevsG base w g n c V) : LevelsIn base w (some ⟨g, 0, none⟩) n c V := by
  obtain ⟨h1, xs, h3, h4, _⟩ := h
  have hrc := row_rooms h3
  refine ⟨h1, hrc.1, hrc.2, (fun e => by cases e), ?_, ?_⟩
  · rintro x e _
    cases e
    exact ⟨(h3.lt g rfl).2, rfl, (h3.lt g rfl).1⟩
  · rintro x e i hi
    cases e
    obtain ⟨e0, d0, a1, a3⟩ := h4 i _ (List.getElem?_eq_getElem hi)
    refine ⟨_, _, _, ?_, a3.runsIn⟩
    simp only [Nat.zero_add]
    exact (h3.cellAt _ (by omega)).trans a1
theorem specCopyLevels (lo : Nat) (a : Option Addr) (nv cv : Nat) (V : List (List RunD)) (w : World) (hV : LevelsIn lo w a nv cv V) (hnv : nv ≤ 100) (hS : ∀ B ∈ V, B.length ≤ 100 ∧ ∀ r ∈ B, 1 ≤ r.1.length ∧ r.1.length ≤ 10000) :
    Calls Tryz.prog 60 #[.slice a nv cv] w fun e w' => ∃ G c, e = .returned (.slice (some ⟨G, 0, none⟩) nv c) ∧ LevsG w.heap.size w' G nv c V ∧ Below w.heap.size w w' := by
  have HVL : Hid (V.length = nv) := hV.length
  have HV : Hid (LevelsIn lo w a nv cv V) := hV
  have HS : Hid (∀ B ∈ V, B.length ≤ 100 ∧ ∀ r ∈ B, 1 ≤ r.1.length ∧ r.1.length ≤ 10000) := hS
  clear hV hS
  obtain ⟨i0, hi, hz0, hz1, hz2⟩ := info_parts Tryz.infoEnt
  obtain ⟨j0, hj, hy0, hy1, hy2⟩ := info_parts Tryz.infoRun
  obtain ⟨l0, hl, hx0, hx1, hx2⟩ := info_parts Tryz.infoRunL
  have HE0 : Hid (LevsG w.heap.size (w.alloc (.cells #[] 64)) w.heap.size 0 0 (V.take 0)) := by
    have := World.ownsRow_lit (base := w.heap.size) (e := 64) (size := 1) w #[] 0 (Nat.le_refl _) (by simp) (by simp)
    exact ⟨by simp, _, this, (fun i B hB => by simp at hB), fun i j gi ni di gj nj dj _ hi _ => by simp at hi⟩
  have hB0 : Below w.heap.size w (w.alloc (.cells #[] 64)) := (Below.refl _ _).alloc (Nat.le_refl _) _
  go_enter Tryz.func60, Tryz.ntmps60
  go_wp2
  go_loopw [3, 4] (fun o iv wr => ∃ (i G c : Nat), i ≤ nv ∧ iv = .int .i64 i ∧ o = .slice (some ⟨G, 0, none⟩) i c ∧ LevsG w.heap.size wr G i c (V.take i) ∧ Below w.heap.size w wr) (fun _ iv _ => nv - (intOf iv).toNat)
  case atStart => exact ⟨0, _, 0, Nat.zero_le _, rfl, rfl, HE0.out, hB0⟩
  case round =>
    clear HE0 hB0
    obtain ⟨i, G, c0, hin, rfl, rfl, hLG, hbw⟩ := hrel
    have HLG : Hid (LevsG w.heap.size wr G i c0 (V.take i)) := hLG
    have HBW : Hid (Below w.heap.size w wr) := hbw
    clear hLG
    by_cases hlt : i < nv
    · have hltI : (i : Int) < (nv : Int) := by omega
      obtain ⟨b, off, rfl, hbb⟩ := HV.out.form (by omega)
      obtain ⟨B, aB, nB, cB, hB, gB, hRB⟩ := HV.out.level (Below.refl _ w) i hlt
      have HGI : Hid (V[i]? = some B) := hB
      have HSB : Hid (B.length ≤ 100 ∧ ∀ r ∈ B, 1 ≤ r.1.length ∧ r.1.length ≤ 10000) := HS.out B (List.mem_of_getElem? hB)
      have HNB : Hid (B.length = nB) := hRB.length
      have HRB : Hid (RunsIn lo w aB nB cB B) := hRB
      have HCB : Hid (w.cell? ⟨b, off + i, none⟩ = some (.slice aB nB cB)) := gB
      have hnB : nB ≤ 100 := by have := HSB.out.1; have := HNB.out; omega
      clear hB gB hRB hbw
      go_upto_region 6 with fail
      obtain ⟨Wi, hWi⟩ : ∃ Wi, Wi = wr.heap.size := ⟨_, rfl⟩
      obtain ⟨wq, hwq⟩ : ∃ wq, wq = wr.alloc (.cells #[] 135) := ⟨_, rfl⟩
      have kq : Below wr.heap.size wr wq := by rw [hwq]; exact (Below.refl _ _).alloc (Nat.le_refl _) _
      have HG0 : Hid (RunsG Wi wq Wi 0 0 (B.take 0)) := by
        have := World.ownsRow_lit (base := wr.heap.size) (e := 135) (size := 2) wr #[] 0 (Nat.le_refl _) (by simp) (by simp)
        rw [hwq, hWi]
        exact ⟨by simp, fun p hp => by simp at hp, _, this, fun i B hB => by simp at hB⟩
      have HKQ : Hid (Below Wi wr wq) := by rw [hWi]; exact kq
      have HWW : Hid (w.heap.size ≤ Wi ∧ Wi = wr.heap.size) := ⟨by rw [hWi]; exact HBW.out.size, hWi⟩
      rw [← hwq, ← hWi]
      clear hwq hWi kq
      obtain ⟨Wq, hWq⟩ : ∃ Wq, Wq = wr := ⟨_, rfl⟩
      rw [← hWq] at HLG HBW HKQ HWW
      clear hWq
      go_wp2
      go_loopw [5, 6] (fun o kv wr => ∃ (j g c : Nat), j ≤ nB ∧ kv = .int .i64 j ∧ o = .slice (some ⟨g, 0, none⟩) j c ∧ RunsG Wi wr g j c (B.take j) ∧ Below Wi Wq wr) (fun _ kv _ => nB - (intOf kv).toNat)
      case atStart => exact ⟨0, _, 0, Nat.zero_le _, rfl, rfl, HG0.out, HKQ.out⟩
      case round =>
        clear HG0 HKQ
        obtain ⟨j, g, c, hjn, rfl, rfl, hRG, hbi⟩ := hrel
        have HRG : Hid (RunsG Wi wr g j c (B.take j)) := hRG
        have HBI : Hid (Below Wi Wq wr) := hbi
        have HGW : Hid (Wi ≤ g) := hRG.lt.1
        have hbr : Below w.heap.size w wr := HBW.out.trans (hbi.mono HWW.out.1)
        have HWI : Hid (Wi ≤ wr.heap.size) := by have h1 := HWW.out.2; have h2 := hbi.size; show Wi ≤ _; omega
        have tl := cell_later hbr HCB.out
        have zb := Nat.lt_of_lt_of_le hbb hbr.size
        clear hRG hbi
        by_cases hkn : j < nB
        · have hknI : (j : Int) < (nB : Int) := by omega
          obtain ⟨rb, ro, rfl, hrb⟩ := HRB.out.form (by omega)
          obtain ⟨L, mm, s, m, d, hgj, hmw, r0, r1, hLk⟩ := HRB.out.run hbr j hkn
          have HGJ : Hid (B[j]? = some (L, mm)) := hgj
          have HMW : Hid ((Lit.int .i64 mm).wf = true) := hmw
          have hsz := HSB.out.2 _ (List.mem_of_getElem? hgj)
          simp only at hsz
          have HLM : Hid (L.length = m) := hLk.1.length
          have hm : 1 ≤ m ∧ m ≤ 10000 := by have := HLM.out; omega
          obtain ⟨sb, so, rfl, hsb⟩ := hLk.1.form (by omega)
          have HLE : Hid (EntsAt wr (some ⟨sb, so, none⟩) m d L) := hLk.1
          have zr := Nat.lt_of_lt_of_le hrb hbr.size
          have k0 : Below wr.heap.size wr wr.drew := (Below.refl _ wr).drew
          have HMK : Hid (∀ w', Below wr.heap.size wr w' → (fun w' => w'.cell? ⟨b, off + i, none⟩ = some (.slice (some ⟨rb, ro, none⟩) nB cB) ∧ w'.cell? ⟨rb, ro + j * 2, none⟩ = some (.slice (some ⟨sb, so, none⟩) m d) ∧ w'.cell? ⟨rb, ro + j * 2 + 1, none⟩ = some (.int .i64 mm) ∧ b < w'.heap.size ∧ rb < w'.heap.size) w') := fun w' kk => ⟨cell_later kk tl, cell_later kk r0, cell_later kk r1, Nat.lt_of_lt_of_le zb kk.size, Nat.lt_of_lt_of_le zr kk.size⟩
          have HMK2 : Hid (∀ (wb w' : World), wb.grownBy w' (some g) → Below wr.heap.size wr wb → (fun w' => w'.cell? ⟨b, off + i, none⟩ = some (.slice (some ⟨rb, ro, none⟩) nB cB) ∧ w'.cell? ⟨rb, ro + j * 2, none⟩ = some (.slice (some ⟨sb, so, none⟩) m d) ∧ w'.cell? ⟨rb, ro + j * 2 + 1, none⟩ = some (.int .i64 mm) ∧ b < w'.heap.size ∧ rb < w'.heap.size) w') := fun wb w' hg kk => by
            have hgl := HGW.out
            have hww := HWW.out
            have hbw := HBW.out.size
            have hne : ∀ {x : Nat}, x < w.heap.size → some x ≠ some g := fun {x} hx e => by have := Option.some.inj e; omega
            exact ⟨hg.cell (cell_later kk tl) (hne hbb), hg.cell (cell_later kk r0) (hne hrb), hg.cell (cell_later kk r1) (hne hrb), Nat.lt_of_lt_of_le zb (Nat.le_trans kk.size hg.size), Nat.lt_of_lt_of_le zr (Nat.le_trans kk.size hg.size)⟩
          clear hgj hmw hLk hsz hsb
          go_wp2_with fail
          clear tl r0 r1 zr zb
          refine wp_region_held_drew (S := (fun w' => w'.cell? ⟨b, off + i, none⟩ = some (.slice (some ⟨rb, ro, none⟩) nB cB) ∧ w'.cell? ⟨rb, ro + j * 2, none⟩ = some (.slice (some ⟨sb, so, none⟩) m d) ∧ w'.cell? ⟨rb, ro + j * 2 + 1, none⟩ = some (.int .i64 mm) ∧ b < w'.heap.size ∧ rb < w'.heap.size)) (by kernel_rfl) (HMK.out _ k0) (fun hHeld => ?_)
          generalize wr.drew = wd at k0 hHeld ⊢
          refine tkL 0 hHeld ?_; try go_frame
          refine tkL 2 hHeld ?_; try go_frame
          refine tkL 3 hHeld ?_; try go_frame
          refine tkL 4 hHeld ?_; try go_frame
          refine tkL 5 hHeld ?_; try go_frame
          refine tkL 6 hHeld ?_; try go_frame
          refine tkL 7 hHeld ?_; try go_frame
          refine tkL 8 hHeld ?_; try go_frame
          refine tkL 9 hHeld ?_; try go_frame
          refine tkL 11 hHeld ?_; try go_frame
          refine tkL 12 hHeld ?_; try go_frame
          refine tkL 13 hHeld ?_; try go_frame
          refine tkL 14 hHeld ?_; try go_frame
          refine tkL 15 hHeld ?_; try go_frame
          refine tkL 16 hHeld ?_; try go_frame
          refine tkL 17 hHeld ?_; try go_frame
          refine tkL 18 hHeld ?_; try go_frame
          refine wpAnyH_ready (rs := [1]) (by kernel_rfl) (by simp) ?_
          refine consL rfl (fun K hK => ?_) AllReadyH.nil
          go_simp
          have ka0 : Below wd.heap.size wd (wd.alloc (.cells #[] 87)) := (Below.refl _ _).alloc (Nat.le_refl _) _
          have oa := own_empty wd wr.heap.size k0.size
          have ka := k0.trans (ka0.mono k0.size)
          have ga1 : wr.heap.size ≤ wd.heap.size := k0.size
          generalize wd.heap.size = ga at oa ga1 ⊢
          generalize wd.alloc (.cells #[] 87) = wa at oa ka ⊢
          clear ka0
          refine hK.out _ _ (HMK.out _ ka) (fun hHeld => ?_)
          clear hK K
          try go_frame
          refine wpAnyH_ready (rs := [10]) (by kernel_rfl) (by simp) ?_
          refine consL rfl (fun K hK => ?_) AllReadyH.nil
          refine step_append_own rfl (.tmp 25) (.tmp 33) 33 rfl wr.heap.size 87 i0 _ 5 56 Tryz.underlying33 hi hz0 hz1 hz2 rfl (Nat.succ_pos 4) _ _ _ rfl oa.owns ⟨sb, so, none⟩ m d (flatE L) rfl (by rw [flatE_len, HLM.out]) (ents_news_at (HLE.out.keep ka)) (flatE_one _) ?_ ?_ ?_ ?_
          · unfold maxLen; omega
          · omega
          · exact ka.size
          intro v1 w1 ho1 hg1 hn1
          obtain ⟨e1, d1, rfl⟩ := row_some ho1 hn1
          have hg1' : wa.grownBy w1 (some ga) := hg1
          have k1 : Below wr.heap.size wr w1 := ka.grown hg1' ka.size (fun k e => by cases e; exact ga1)
          have o1 : OwnE w1 wr.heap.size e1 m d1 L := ⟨by have h1 := ho1; rw [Nat.zero_add] at h1; simpa [flatE] using h1, HLM.out, HLE.out.ents⟩
          rw [Nat.zero_add]
          clear ho1 hg1 hn1 hg1' oa ga1 ka
          refine hK.out _ _ (HMK.out _ k1) (fun hHeld => ?_)
          clear hK K
          try go_frame
          refine tkL 19 hHeld ?_; try go_frame
          refine wpAnyH_ready (rs := [20]) (by kernel_rfl) (by simp) ?_
          refine consL rfl (fun K hK => ?_) AllReadyH.nil
          go_simp
          have kb0 : Below w1.heap.size w1 (w1.alloc (.cells #[.slice (some ⟨e1, 0, none⟩) m d1, .int .i64 mm] 135)) := (Below.refl _ _).alloc (Nat.le_refl _) _
          have kb := k1.trans (kb0.mono k1.size)
          have ob := o1.below kb0
          have nw := cell_two_new' w1 (.slice (some ⟨e1, 0, none⟩) m d1) (.int .i64 mm) 135
          generalize w1.heap.size = gb at nw ⊢
          generalize w1.alloc (.cells #[.slice (some ⟨e1, 0, none⟩) m d1, .int .i64 mm] 135) = wb at kb ob nw ⊢
          clear kb0
          refine hK.out _ _ (HMK.out _ kb) (fun hHeld => ?_)
          clear hK K
          try go_frame
          refine wpAnyH_ready (rs := [21]) (by kernel_rfl) (by simp) ?_
          refine consL rfl (fun K hK => ?_) AllReadyH.nil
          obtain ⟨hl2, hw2, xs2, ho2, hx2⟩ := HRG.out.below kb
          refine step_append_own rfl (.tmp 24) (.tmp 44) 64 rfl Wi 135 j0 _ 2 32 Tryz.underlying64 hj hy0 hy1 hy2 rfl (Nat.succ_pos 1) _ _ _ rfl ho2 ⟨gb, 0, none⟩ 1 1 [Value.slice (some ⟨e1, 0, none⟩) m d1, Value.int .i64 mm] rfl rfl nw (by simp [Value.oneCell']) ?_ ?_ ?_ ?_
          · unfold maxLen; omega
          · omega
          · have h1 := kb.size; have h2 := HWI.out; omega
          intro v2 w2 ho3 hg2 hn2
          obtain ⟨g2, c2, rfl⟩ := row_some ho3 hn2
          have hg2 : wb.grownBy w2 (some g) := hg2
          have hG2 := runsG_push (L := L) hl2 hw2 ho2 hx2 (by rw [HLM.out]; exact ob.mono HWI.out) HMW.out hg2 (by rw [HLM.out]; exact ho3)
          have k2 := (HBI.out.trans (kb.mono HWI.out)).grown hg2 (Nat.le_trans HWI.out kb.size) (fun k e => by cases e; exact HGW.out)
          refine hK.out _ _ (HMK2.out _ w2 hg2 kb) (fun hHeld => ?_)
          clear hK K
          try go_frame
          refine tkL 22 hHeld ?_; try go_frame
          refine wpAnyH_done (by kernel_rfl) ?_ _
          have HG2 : Hid (RunsG Wi w2 g2 (j + 1) c2 (B.take (j + 1))) := by rw [List.take_add_one, HGJ.out]; exact hG2
          have HK2 : Hid (Below Wi Wq w2) := k2
          clear hHeld hG2 k2 ho3 hg2 hn2 hl2 hw2 ho2 hx2 kb ob nw k1 o1 k0
          go_wp2
          go_roundw
          case rel => exact ⟨j + 1, g2, c2, by omega, by go_num, rfl, HG2.out, HK2.out⟩
          case measure => simp [intOf]; omega
        · have hknI : ¬ (j : Int) < (nB : Int) := by omega
          obtain rfl : j = nB := by omega
          have kx : Below Wq.heap.size Wq wr := by have h1 := HBI.out; rw [HWW.out.2] at h1; exact h1
          obtain ⟨q1, xs, p2, p3, p4⟩ := HLG.out
          have HLOW : Hid (∀ (i' gi ni di : Nat), xs[i']? = some (.slice (some ⟨gi, 0, none⟩) ni di) → gi ≠ g) := fun i' gi ni di hx => by
            have hi' := (List.getElem?_eq_some_iff.1 hx).1
            have hxl := p2.1
            obtain ⟨B', hB'⟩ : ∃ B', (V.take i)[i']? = some B' := ⟨_, List.getElem?_eq_getElem (by rw [q1]; omega)⟩
            obtain ⟨g', d', a1, a3⟩ := p3 i' B' hB'
            rw [hx] at a1
            cases a1
            have h1 := a3.lt.2
            have h2 := HGW.out
            have h3 := HWW.out.2
            omega
          have HRW : Hid (RunsG w.heap.size wr g j c B) := by
            have h1 := HRG.out.mono HWW.out.1
            rw [List.take_of_length_le (by rw [HNB.out]; omega)] at h1
            exact h1
          have HBR : Hid (Below w.heap.size w wr) := hbr
          have wi : IntKind.i64.wrap ((i : Int) + 1) = ((i + 1 : Nat) : Int) := by rw [IntWalk.i64_left]; unfold wrap64; omega
          clear HLG HRG
          have HDX : Hid (DistX xs) := p4
          have ka : Below wr.heap.size wr (wr.alloc (.cells #[.slice (some ⟨g, 0, none⟩) j c] 64)) := (Below.refl _ _).alloc (Nat.le_refl _) _
          have kxa := kx.trans (ka.mono kx.size)
          have q2 := p2.kept (row := none) ⟨kxa.os, kxa.tape, kxa.output, kxa.size, fun k hk _ => kxa.block k hk⟩ (.inr (by simp [Value.ownBlock]))
          have q3 : ∀ (i' : Nat) (B : List RunD), (V.take i)[i']? = some B → ∃ e d, xs[i']? = some (.slice (some ⟨e, 0, none⟩) B.length d) ∧ RunsG w.heap.size (wr.alloc (.cells #[.slice (some ⟨g, 0, none⟩) j c] 64)) e B.length d B := fun i' B hB => by obtain ⟨g', d', a1, a3⟩ := p3 i' B hB; exact ⟨g', d', a1, a3.below kxa⟩
          clear p2 p3 p4 kx kxa
          have HQ : Hid (_ ∧ _) := ⟨q2, q3⟩
          have hbz := hbr.size
          clear hbr
          go_wp2_with (at_builtin; refine wpList_append_own _ rfl _ _ 34 rfl w.heap.size 64 l0 _ 1 24 Tryz.underlying34 hl hx0 hx1 hx2 rfl (by decide) _ _ _ rfl HQ.out.1 ⟨wr.heap.size, 0, none⟩ 1 1 [Value.slice (some ⟨g, 0, none⟩) j c] rfl rfl (cell_one_new' _ _ _) (by simp [Value.oneCell']) (by unfold maxLen; omega) (by omega) (by simp; omega) ?_; intro v2 w2 hown2 hgrow2 hnil2; obtain ⟨g2, c2, rfl⟩ := row_some hown2 hnil2)
          go_roundw
          case rel =>
            have hgr : (wr.alloc (.cells #[.slice (some ⟨g, 0, none⟩) j c] 64)).grownBy w2 (some G) := hgrow2
            have hnb := HNB.out
            have hpush := levsG_push (B := B) q1 HQ.out.1 HQ.out.2 (by rw [hnb]; exact HRW.out.below ka) hgr (by rw [hnb]; exact hown2) HDX.out HLOW.out
            refine ⟨i + 1, g2, c2, by omega, by go_num, rfl, by rw [List.take_add_one, HGI.out]; exact hpush, ?_⟩
            exact (HBR.out.alloc HBR.out.size _).grown hgr (by simp; omega) (fun k e => by cases e; exact (HQ.out.1.lt G rfl).1)
          case measure => simp [intOf]; omega
    · have hltI : ¬ (i : Int) < (nv : Int) := by omega
      obtain rfl : i = nv := by omega
      have HLV : Hid (LevsG w.heap.size wr G i c0 V) := by
        have := HLG.out
        rw [List.take_of_length_le (by rw [HVL.out]; omega)] at this
        exact this
      clear hbw
      go_wp2
      go_ret
      exact ⟨G, c0, rfl, HLV.out, HBW.out⟩
end Go.Proofs.YtapjkbpfhmbfaaaGreatDoor
