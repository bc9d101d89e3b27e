/-
  What the program's placeIn and RunFind answer at every run, by walks of their Go text.
  What a search finds, in memory of its own.
  Contracts of the library's slices package at this program, laid by the kit's own command.
  The library's stable sort at few entries, by the order of their times: what it leaves, by walks of its Go text and of the program's order.
-/
import Derived.Test.YtkdalacclafihaaBn32
import Derived.Test.YtkdalacclafihaaBn41
import Derived.Test.YtkdalacclafihaaBn22
import Derived.Test.YtkdalacclafihaaBn19
import Derived.Ground.SlsfProg
import Derived.Shelf.SlSortCmp.InsertionK
import Derived.Test.YtkdalacclafihaaProg
import Derived.Test.YtkdalacclafihaaBn38
import Derived.Test.YtkdalacclafihaaBn26
import Derived.Test.YtkdalacclafihaaBn07
namespace Go.Proofs.Ytkdalacclafihaa
open Go.RowKit

/-- The place of a key and a time. -/
def PlaceR (L : List EntD) (key : ByteArray) (q : Int) (len : Nat) (w : World) (e : Ending) (w' : World) : Prop :=
  ∃ (i : Nat), e = .returned (.int .i64 (i : Int)) ∧ i ≤ len ∧ Parted L key q i i ∧ Below w.heap.size w w'

set_option maxRecDepth 100000 in
set_option maxHeartbeats 1000000 in
theorem implPlace (b off len cap : Nat) (L : List EntD) (key : ByteArray) (q : Int) (w : World) (hL : EntsAt w (some ⟨b, off, none⟩) len cap L) (hr : rightB L = true) (hlen : len ≤ 1048576) (hlen1 : 1 ≤ len) :
    Calls Try.prog 51 #[.slice (some ⟨b, off, none⟩) len cap, .string key, .int .i64 q] w (PlaceR L key q len w) := by
  go_enter Try.func51, Try.ntmps51
  go_wp2_with fail
  refine (searchF b off len cap L key _ q _ _ w hL hr hlen hlen1).mono ?_
  rintro e w1 ⟨i, B, rfl, hi, hP, hb1⟩
  have HP : Hid (Parted L key q i i) := hP
  clear hP hL
  go_wp2
  go_ret
  exact ⟨i, rfl, hi, HP.out, hb1⟩

/-- A list of the call's own, or the nil list. -/
def FoundV (F : List EntD) (w : World) (e : Ending) (w' : World) : Prop :=
  ((e = .returned (.slice none 0 0) ∧ F = []) ∨ ∃ g n c, e = .returned (.slice (some ⟨g, 0, none⟩) n c) ∧ OwnE w' w.heap.size g n c F) ∧ Below w.heap.size w w'
theorem entB_sizes {k t : ByteArray} {q d n : Int} (h : entB k q d t n = true) : k.size ≤ 281474976710656 ∧ t.size ≤ 281474976710656 := by
  simp [entB, keyB] at h
  omega
theorem right_sizes {L : List EntD} (h : rightB L = true) (i k : Nat) : ∀ e ∈ (L.drop i).take k, e.1.size ≤ 281474976710656 ∧ e.2.2.2.1.size ≤ 281474976710656 := by
  intro e he
  obtain ⟨p, hp, rfl⟩ := List.getElem_of_mem (List.mem_of_mem_drop (List.mem_of_mem_take he))
  exact entB_sizes (right_ent h (List.getElem?_eq_getElem hp))

set_option maxRecDepth 100000 in
set_option maxHeartbeats 1000000 in
theorem implFind (a : Option Addr) (len cap : Nat) (L : List EntD) (m : Int) (key : ByteArray) (seq : Int) (w : World) (hL : EntsAt w a len cap L) (hlen : len ≤ 1048576) :
    Calls Try.prog 22 #[.agg #[.slice a len cap, .int .i64 m], .string key, .int .i64 seq] w (FoundV (foundL L m key seq) w) := by
  obtain ⟨F, hF0⟩ : ∃ F, F = foundL L m key seq := ⟨_, rfl⟩
  rw [← hF0]
  have kA : Below w.heap.size w (w.alloc (.cells #[.slice a len cap, .int .i64 m] 42)) := (Below.refl _ _).alloc (Nat.le_refl _) _
  have HLEN : Hid (L.length = len) := hL.length
  have hbl := hL.room
  have hbc := hL.big
  unfold maxLen at hbc
  go_enter Try.func22, Try.ntmps22
  go_wp2_with fail
  refine (implRunOk _ _ _ L _ _ (hL.keep kA)).mono ?_
  rintro e w1 ⟨rfl, hb1⟩
  have x0 : w1.cell? ⟨w.heap.size, 0, none⟩ = some (.slice a len cap) := cell_later hb1 (by simp)
  have hB1 : Below w.heap.size w w1 := kA.trans (hb1.mono (by simp))
  clear hb1 kA
  cases hr : runB L m with
  | false =>
    have HF0 : Hid (F = []) := by rw [hF0]; exact found_no hr
    clear hL hF0 hr
    go_wp2
    go_ret
    exact ⟨Or.inl ⟨rfl, HF0.out⟩, hB1⟩
  | true =>
    obtain ⟨p1, p2, p3, p4⟩ := runB_parts hr
    have h1 : 1 ≤ len := by have := HLEN.out; omega
    obtain ⟨b, off, rfl, hbb⟩ := hL.form h1
    have HL : Hid (EntsAt w (some ⟨b, off, none⟩) len cap L) := hL
    have HR3 : Hid (rightB L = true) := p3
    have HF0 : Hid (F = findL L key seq) := by rw [hF0]; exact found_yes hr
    clear hL p1 p2 p3 p4 hr hF0
    go_wp2_with fail
    refine (implPlace b off len cap L key seq _ (HL.out.keep hB1) HR3.out hlen h1).mono ?_
    rintro e w2 ⟨i, rfl, hi, hPi, hb2⟩
    have y0 := cell_later hb2 x0
    have hB2 := hB1.trans (hb2.mono hB1.size)
    have HPi : Hid (Parted L key seq i i) := hPi
    clear hb2 hPi x0 hB1
    go_wp2_with fail
    refine (implPlace b off len cap L key 0 _ (HL.out.keep hB2) HR3.out hlen h1).mono ?_
    rintro e w3 ⟨j, rfl, hj, hPj, hb3⟩
    have z0 := cell_later hb3 y0
    have hB3 := hB2.trans (hb3.mono hB2.size)
    have hF := find_stretch HR3.out (L := L) (key := key) (seq := seq) (i := i) (j := j) (by rw [HLEN.out]; exact hi) (by rw [HLEN.out]; exact hj) HPi.out.1 HPi.out.2 hPj.1 hPj.2
    obtain ⟨hij, hF⟩ := hF
    have HF : Hid (findL L key seq = (L.drop i).take (j - i)) := hF
    clear hb3 hPj y0 hB2 hF HPi
    have hsz := right_sizes HR3.out i (j - i)
    have HSZ : Hid (∀ e ∈ (L.drop i).take (j - i), e.1.size ≤ 281474976710656 ∧ e.2.2.2.1.size ≤ 281474976710656) := hsz
    clear hsz
    by_cases hci : cap = i
    · subst hci
      have hE : EntsAt w3 (some ⟨b, off, none⟩) (j - cap) 0 ((L.drop cap).take (j - cap)) := by
        have hj0 : j - cap = 0 := by omega
        rw [hj0]
        exact ⟨rfl, Nat.le_refl _, Nat.zero_le _, by simp, (fun e => by cases e), (fun x e hp => absurd hp (Nat.not_lt_zero _)), fun x e k hk => by simp at hk⟩
      have HE : Hid (EntsAt w3 (some ⟨b, off, none⟩) (j - cap) 0 ((L.drop cap).take (j - cap))) := hE
      clear hE
      go_wp2_with fail
      with_reducible refine (cloneE_any _ _ _ _ _ HE.out (by omega) HSZ.out).mono ?_
      rintro e w4 ⟨rfl, hO, hlt, hb4⟩
      have HO : Hid (OwnE w4 w3.heap.size w3.heap.size (j - cap) (j - cap) ((L.drop cap).take (j - cap))) := hO
      clear hO
      go_wp2
      go_ret
      exact ⟨Or.inr ⟨_, _, _, rfl, by rw [HF0.out, HF.out]; exact HO.out.mono hB3.size⟩, hB3.trans (hb4.mono hB3.size)⟩
    · have hE : EntsAt w3 (some ⟨b, off + i * 5, none⟩) (j - i) (cap - i) ((L.drop i).take (j - i)) := (HL.out.keep hB3).sub hij hj
      have HE : Hid (EntsAt w3 (some ⟨b, off + i * 5, none⟩) (j - i) (cap - i) ((L.drop i).take (j - i))) := hE
      clear hE
      go_wp2_with fail
      all_goals
        refine (cloneE_any _ _ _ _ _ HE.out (by omega) HSZ.out).mono ?_
        rintro e w4 ⟨rfl, hO, hlt, hb4⟩
        have HO : Hid (OwnE w4 w3.heap.size w3.heap.size (j - i) (j - i) ((L.drop i).take (j - i))) := hO
        clear hO
        go_wp2
        go_ret
        exact ⟨Or.inr ⟨_, _, _, rfl, by rw [HF0.out, HF.out]; exact HO.out.mono hB3.size⟩, hB3.trans (hb4.mono hB3.size)⟩
end Go.Proofs.Ytkdalacclafihaa

namespace Go.Proofs.Ytkdalacclafihaa
open Go.RowKit

theorem foundV_own {F : List EntD} {w w' : World} {e : Ending} (h : FoundV F w e w') : ∃ a n c, e = .returned (.slice a n c) ∧ OwnO w' w.heap.size a n c F ∧ Below w.heap.size w w' := by
  obtain ⟨h1 | ⟨g, n, c, rfl, hO⟩, hb⟩ := h
  · obtain ⟨rfl, rfl⟩ := h1
    exact ⟨none, 0, 0, rfl, OwnO.none _ _, hb⟩
  · exact ⟨_, n, c, rfl, OwnO.some hO, hb⟩

theorem found_len (L : List EntD) (m : Int) (key : ByteArray) (seq : Int) : (foundL L m key seq).length ≤ L.length := by
  unfold foundL
  split
  · exact find_len _ _ _
  · exact Nat.zero_le _
end Go.Proofs.Ytkdalacclafihaa

namespace Go.Proofs.Ytkdalacclafihaa
open Go.Shelf
def Try.insL_ren : Go.Shelf.Ren := ⟨fun | 20 => 78 | n => n, fun | 24 => 36 | 22 => 24 | 3 => 3 | 25 => 78 | 4 => 4 | 0 => 0 | n => n, fun | n => n⟩
theorem Try.insL : Go.Proofs.SlLaysF0.n20 Try.prog Try.insL_ren := {
  mixed := by kernel_rfl
  f20 := ⟨Try.f78.name, by decide, Try.func78.trans (congrArg some (by kernel_rfl))⟩
  t0 := Try.underlying0
  a0 := Try.isAgg0
  z0 := Try.sizeOf0
  v0 := Try.zeroValue0
  t3 := Try.underlying3
  a3 := Try.isAgg3
  z3 := Try.sizeOf3
  v3 := Try.zeroValue3
  t4 := Try.underlying4
  a4 := Try.isAgg4
  z4 := Try.sizeOf4
  v4 := Try.zeroValue4
  t22 := Try.underlying24
  a22 := Try.isAgg24
  z22 := Try.sizeOf24
  v22 := Try.zeroValue24
  t25 := Try.underlying78
  a25 := Try.isAgg78
  z25 := Try.sizeOf78
  v25 := Try.zeroValue78 }
end Go.Proofs.Ytkdalacclafihaa

namespace Go.Proofs.Ytkdalacclafihaa
open Go.RowKit Go.Sort

set_option maxRecDepth 100000 in
set_option maxHeartbeats 1000000 in
theorem implSeq (ka ta kb tb : ByteArray) (qa da na qb db nb : Int) (w : World) :
    Calls Try.prog 48 #[.agg #[.string ka, .int .i64 qa, .int .i64 da, .string ta, .int .i64 na], .agg #[.string kb, .int .i64 qb, .int .i64 db, .string tb, .int .i64 nb]] w fun e w' => e = .returned (.int .i64 (Lib.compareInt qa qb)) ∧ ∃ q os', w' = grow (w.drewN q) os' := by
  obtain ⟨D, hD⟩ : ∃ D, D = Lib.compareInt qa qb := ⟨_, rfl⟩
  have c2 : ∀ w, Calls Try.prog 64 #[.int .i64 qa, .int .i64 qb] w fun e w' => e = .returned (.int .i64 D) ∧ w' = w := by rw [hD]; exact intCompare qa qb
  rw [← hD]
  clear hD
  go_enter Try.func48, Try.ntmps48
  go_wp2_with fail
  refine (c2 _).mono ?_
  rintro e w' ⟨rfl, rfl⟩
  go_wp2
  go_ret
  refine ⟨rfl, 0, #[.cells #[.string ka, .int .i64 qa, .int .i64 da, .string ta, .int .i64 na] 36, .cells #[.string kb, .int .i64 qb, .int .i64 db, .string tb, .int .i64 nb] 36], ?_⟩
  rw [alloc_grow, alloc_grow, grow_grow]
  rfl

def seqCf (x y : EntD) : Int := Lib.compareInt x.2.1 y.2.1
theorem seq_lt : ltOf seqCf = ltT := by
  funext x y
  unfold ltOf seqCf ltT Lib.compareInt
  by_cases h : x.2.1 < y.2.1
  · simp [h]
  · by_cases h2 : x.2.1 > y.2.1 <;> simp [h, h2]

set_option maxRecDepth 100000 in
theorem insRow (base g n c : Nat) (L : List EntD) (w : World) (hO : OwnE w base g n c L) (hn : n ≤ 1048576) :
    Calls Try.prog 78 #[.slice (some ⟨g, 0, none⟩) n c, .int .i64 0, .int .i64 n, .func (.func 48) #[] #[]] w fun e w' => e = .returned (.tuple #[]) ∧ EntsAt w' (some ⟨g, 0, none⟩) n c (cutC L) ∧ w.grownBy w' (some g) := by
  have hE := hO.entsAt
  have hl := hO.len
  have hsz : L.toArray.size = n := by simp [hl]
  have eg : ∀ args w, (callFunc 48 args).run Try.prog w = .ok (.enter 48 args) w := enters_of Try.func48 (by kernel_rfl) rfl
  have hcmp : CmpLays Try.prog 48 #[] entCells 5 seqCf g 0 L.toArray.size w := fun m os dk _ x y => implSeq x.1 x.2.2.2.1 y.1 y.2.2.2.1 x.2.1 x.2.2.1 x.2.2.2.2 y.2.1 y.2.2.1 y.2.2.2.2 _
  have h := AnyQ.insertionSortCmpFunc Try.insL 5 Try.isAgg36 Try.sizeOf36 entCells (fun _ => rfl) (fun x v hv => by simp [entCells] at hv; rcases hv with rfl | rfl | rfl | rfl | rfl <;> rfl) seqCf 48 #[] g 0 c 0 n L.toArray w eg hcmp (holds_ents hO) hO.lt.2 (Nat.zero_le _) (by rw [hsz]; omega) (by rw [hsz]; omega)
  rw [hsz, seq_lt] at h
  have hins : insertionSort ltT L.toArray 0 n = (cutC L).toArray := by rw [← hl]; exact ins_sort L
  rw [hins] at h
  have h' : Calls Try.prog 78 #[.slice (some ⟨g, 0, none⟩) n c, .int .i64 0, .int .i64 n, .func (.func 48) #[] #[]] w fun e w' => e = .returned (.tuple #[]) ∧ ∃ m os, w' = sortWorldK entCells 5 w g 0 m (cutC L).toArray os := h
  refine h'.mono ?_
  rintro e w' ⟨rfl, m, os, rfl⟩
  have hH := holdsK_sortWorldK_c entCells 5 w g 0 L.toArray (cutC L).toArray m os (holds_ents hO) hO.lt.2 (by simp [cutC_len])
  refine ⟨rfl, ?_, grown_sorted _⟩
  exact ⟨by rw [cutC_len, hl], hE.room, hE.big, fun l hl' => hO.ents l (cutC_mem.1 hl'), (fun e => by cases e), (fun x e _ => by cases e; exact ⟨Nat.lt_of_lt_of_le hO.lt.2 (grown_sorted _).size, rfl⟩), (fun x e i hi => by cases e; exact ents_holds hH i hi)⟩

set_option maxRecDepth 100000 in
set_option maxHeartbeats 1000000 in
theorem stableFew (base g n c : Nat) (L : List EntD) (w : World) (hO : OwnE w base g n c L) (hn : n < 20) :
    Calls Try.prog 70 #[.slice (some ⟨g, 0, none⟩) n c, .int .i64 n, .func (.func 48) #[] #[]] w fun e w' => e = .returned (.tuple #[]) ∧ EntsAt w' (some ⟨g, 0, none⟩) n c (cutC L) ∧ w.grownBy w' (some g) := by
  have HO : Hid (OwnE w base g n c L) := hO
  have h20 : ¬ (20 : Int) ≤ (n : Int) := by omega
  have h21 : ¬ (20 : Int) < (n : Int) := by omega
  clear hO
  go_enter Try.func70, Try.ntmps70
  go_wp2
  go_loopw [7, 8] (fun va vb wr => va = .int .i64 0 ∧ vb = .int .i64 20 ∧ wr = w) (fun _ _ _ => 0)
  case atStart => exact ⟨rfl, rfl, rfl⟩
  case round =>
    obtain ⟨rfl, rfl, rfl⟩ := hrel
    go_wp2_with fail
    refine (insRow base g n c L _ HO.out (by omega)).mono ?_
    rintro e w1 ⟨rfl, hE, hG⟩
    have HE : Hid (EntsAt w1 (some ⟨g, 0, none⟩) n c (cutC L)) := hE
    have HG : Hid (wr.grownBy w1 (some g)) := hG
    clear hE hG HO
    go_wp2
    go_loopw [6] (fun va wq => va = .int .i64 20 ∧ wq = w1) (fun _ _ => 0)
    case atStart => exact ⟨rfl, rfl⟩
    case round =>
      obtain ⟨rfl, rfl⟩ := hrel
      go_wp2
      go_end0
      exact ⟨rfl, HE.out, HG.out⟩
end Go.Proofs.Ytkdalacclafihaa
