/-
  The library's stable sort at few entries, by the order of their times: what it leaves, by walks of its Go text and of the program's order.
-/
import Derived.Test.YthhiahjafhkbbaaSortK
import Derived.Test.YthhiahjafhkbbaaShelfF
import Derived.Test.YthhiahjafhkbbaaCellS
import Derived.Test.YthhiahjafhkbbaaAppend
namespace Go.Proofs.Ythhiahjafhkbbaa
open Go.RowKit Go.Sort

set_option maxRecDepth 100000 in
set_option maxHeartbeats 1000000 in
theorem implSeq (ka ta kb tb : ByteArray) (qa da na qb db nb : Int) (w : World) :
    Calls Try.prog 52 #[.agg #[.string ka, .int .i64 qa, .int .i64 da, .string ta, .int .i64 na], .agg #[.string kb, .int .i64 qb, .int .i64 db, .string tb, .int .i64 nb]] w fun e w' => e = .returned (.int .i64 (Lib.compareInt qa qb)) ∧ ∃ q os', w' = grow (w.drewN q) os' := by
  obtain ⟨D, hD⟩ : ∃ D, D = Lib.compareInt qa qb := ⟨_, rfl⟩
  have c2 : ∀ w, Calls Try.prog 80 #[.int .i64 qa, .int .i64 qb] w fun e w' => e = .returned (.int .i64 D) ∧ w' = w := by rw [hD]; exact intCompare qa qb
  rw [← hD]
  clear hD
  go_enter Try.func52, Try.ntmps52
  go_wp2_with fail
  refine (c2 _).mono ?_
  rintro e w' ⟨rfl, rfl⟩
  go_wp2
  go_ret
  refine ⟨rfl, 0, #[.cells #[.string ka, .int .i64 qa, .int .i64 da, .string ta, .int .i64 na] 54, .cells #[.string kb, .int .i64 qb, .int .i64 db, .string tb, .int .i64 nb] 54], ?_⟩
  rw [alloc_grow, alloc_grow, grow_grow]
  rfl

def seqCf (x y : EntD) : Int := Lib.compareInt x.2.1 y.2.1
theorem seq_lt : ltOf seqCf = ltT := by
  funext x y
  unfold ltOf seqCf ltT Lib.compareInt
  by_cases h : x.2.1 < y.2.1
  · simp [h]
  · by_cases h2 : x.2.1 > y.2.1 <;> simp [h, h2]

set_option maxRecDepth 100000 in
theorem insRow (base g n c : Nat) (L : List EntD) (w : World) (hO : OwnE w base g n c L) (hn : n ≤ 1048576) :
    Calls Try.prog 98 #[.slice (some ⟨g, 0, none⟩) n c, .int .i64 0, .int .i64 n, .func (.func 52) #[] #[]] w fun e w' => e = .returned (.tuple #[]) ∧ EntsAt w' (some ⟨g, 0, none⟩) n c (cutC L) ∧ w.grownBy w' (some g) := by
  have hE := hO.entsAt
  have hl := hO.len
  have hsz : L.toArray.size = n := by simp [hl]
  have eg : ∀ args w, (callFunc 52 args).run Try.prog w = .ok (.enter 52 args) w := enters_of Try.func52 (by kernel_rfl) rfl
  have hcmp : CmpLays Try.prog 52 #[] entCells 5 seqCf g 0 L.toArray.size w := fun m os dk _ x y => implSeq x.1 x.2.2.2.1 y.1 y.2.2.2.1 x.2.1 x.2.2.1 x.2.2.2.2 y.2.1 y.2.2.1 y.2.2.2.2 _
  have h := AnyQ.insertionSortCmpFunc Try.insL 5 Try.isAgg54 Try.sizeOf54 entCells (fun _ => rfl) (fun x v hv => by simp [entCells] at hv; rcases hv with rfl | rfl | rfl | rfl | rfl <;> rfl) seqCf 52 #[] g 0 c 0 n L.toArray w eg hcmp (holds_ents hO) hO.lt.2 (Nat.zero_le _) (by rw [hsz]; omega) (by rw [hsz]; omega)
  rw [hsz, seq_lt] at h
  have hins : insertionSort ltT L.toArray 0 n = (cutC L).toArray := by rw [← hl]; exact ins_sort L
  rw [hins] at h
  have h' : Calls Try.prog 98 #[.slice (some ⟨g, 0, none⟩) n c, .int .i64 0, .int .i64 n, .func (.func 52) #[] #[]] w fun e w' => e = .returned (.tuple #[]) ∧ ∃ m os, w' = sortWorldK entCells 5 w g 0 m (cutC L).toArray os := h
  refine h'.mono ?_
  rintro e w' ⟨rfl, m, os, rfl⟩
  have hH := holdsK_sortWorldK_c entCells 5 w g 0 L.toArray (cutC L).toArray m os (holds_ents hO) hO.lt.2 (by simp [cutC_len])
  refine ⟨rfl, ?_, grown_sorted _⟩
  exact ⟨by rw [cutC_len, hl], hE.room, hE.big, fun l hl' => hO.ents l (cutC_mem.1 hl'), (fun e => by cases e), (fun x e _ => by cases e; exact ⟨Nat.lt_of_lt_of_le hO.lt.2 (grown_sorted _).size, rfl⟩), (fun x e i hi => by cases e; exact ents_holds hH i hi)⟩

set_option maxRecDepth 100000 in
set_option maxHeartbeats 1000000 in
theorem stableFew (base g n c : Nat) (L : List EntD) (w : World) (hO : OwnE w base g n c L) (hn : n < 20) :
    Calls Try.prog 79 #[.slice (some ⟨g, 0, none⟩) n c, .int .i64 n, .func (.func 52) #[] #[]] w fun e w' => e = .returned (.tuple #[]) ∧ EntsAt w' (some ⟨g, 0, none⟩) n c (cutC L) ∧ w.grownBy w' (some g) := by
  have HO : Hid (OwnE w base g n c L) := hO
  have h20 : ¬ (20 : Int) ≤ (n : Int) := by omega
  have h21 : ¬ (20 : Int) < (n : Int) := by omega
  clear hO
  go_enter Try.func79, Try.ntmps79
  go_wp2
  go_loopw [7, 8] (fun va vb wr => va = .int .i64 0 ∧ vb = .int .i64 20 ∧ wr = w) (fun _ _ _ => 0)
  case atStart => exact ⟨rfl, rfl, rfl⟩
  case round =>
    obtain ⟨rfl, rfl, rfl⟩ := hrel
    go_wp2_with fail
    refine (insRow base g n c L _ HO.out (by omega)).mono ?_
    rintro e w1 ⟨rfl, hE, hG⟩
    have HE : Hid (EntsAt w1 (some ⟨g, 0, none⟩) n c (cutC L)) := hE
    have HG : Hid (wr.grownBy w1 (some g)) := hG
    clear hE hG HO
    go_wp2
    go_loopw [6] (fun va wq => va = .int .i64 20 ∧ wq = w1) (fun _ _ => 0)
    case atStart => exact ⟨rfl, rfl⟩
    case round =>
      obtain ⟨rfl, rfl⟩ := hrel
      go_wp2
      go_end0
      exact ⟨rfl, HE.out, HG.out⟩
end Go.Proofs.Ythhiahjafhkbbaa
