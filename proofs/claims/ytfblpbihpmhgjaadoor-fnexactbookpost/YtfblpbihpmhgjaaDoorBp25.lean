/-
  slices.Insert of one string into a row of the call's own, and slices.BinarySearch in it: what they leave, whatever room there is.
-/
import Derived.Test.YtfblpbihpmhgjaaDoorBp22
import Derived.Test.YtfblpbihpmhgjaaDoorBp24
import Derived.Laws.OwnMore
import Derived.Deep.QuietTactic
import Derived.BigQuiet
namespace Go.Proofs.YtfblpbihpmhgjaaDoor
open Go.RowKit Go.Shelf

/-- Cells written one behind the other. -/
def setMany (xs : List Value) : Nat → List Value → List Value
  | _, [] => xs
  | o, v :: r => setMany (xs.set o v) (o + 1) r

theorem own_setCells {base e g n cap : Nat} : ∀ (vs : List Value) (o : Nat) (xs : List Value) (w : World), w.ownsRow base e 1 (.slice (some ⟨g, 0, none⟩) n cap) n xs →
    (w.setCells g o vs).ownsRow base e 1 (.slice (some ⟨g, 0, none⟩) n cap) n (setMany xs o vs) ∧ w.grownBy (w.setCells g o vs) (some g)
  | [], _, xs, w, h => ⟨h, ⟨rfl, rfl, rfl, Nat.le_refl _, fun _ _ _ => rfl⟩⟩
  | v :: r, o, xs, w, h => by
    obtain ⟨h1, g1⟩ := h.stored o v
    obtain ⟨h2, g2⟩ := own_setCells r (o + 1) _ _ h1
    refine ⟨h2, ⟨g2.os.trans g1.os, g2.tape.trans g1.tape, g2.output.trans g1.output, Nat.le_trans g1.size g2.size, fun k hk hne => (g2.block k (Nat.lt_of_lt_of_le hk g1.size) hne).trans (g1.block k hk hne)⟩⟩

theorem setMany_eq : ∀ (vs : List Value) (o : Nat) (xs : List Value), o + vs.length ≤ xs.length → setMany xs o vs = xs.take o ++ vs ++ xs.drop (o + vs.length)
  | [], o, xs, _ => by simp [setMany]
  | v :: r, o, xs, h => by
    simp only [List.length_cons] at h
    rw [setMany, setMany_eq r (o + 1) (xs.set o v) (by simp; omega)]
    rw [List.take_set, List.drop_set_of_lt (by omega)]
    rw [List.take_add_one, List.set_append_right _ _ (by simp; omega)]
    have ho : o < xs.length := by omega
    simp [Nat.min_eq_left (Nat.le_of_lt ho), List.getElem?_eq_getElem ho, Nat.add_assoc, Nat.add_comm 1]

theorem setMany_len : ∀ (vs : List Value) (o : Nat) (xs : List Value), (setMany xs o vs).length = xs.length
  | [], _, _ => rfl
  | v :: r, o, xs => by rw [setMany, setMany_len r]; simp

theorem grown_drew {w w' : World} {row : Option Nat} (h : w.drew.grownBy w' row) : w.grownBy w' row := ⟨h.os, h.tape, h.output, h.size, h.block⟩
theorem grown_drew' {w w' : World} {row : Option Nat} (h : w.grownBy w' row) : w.grownBy w'.drew row := ⟨h.os, h.tape, h.output, h.size, h.block⟩

theorem grown_any {w w' : World} {row : Option Nat} (h : w.grownBy w' none) : w.grownBy w' row := ⟨h.os, h.tape, h.output, h.size, fun k hk _ => h.block k hk (by simp)⟩

/-- What a row of strings is. -/
theorem strs_form {w : World} {base n c : Nat} {a : Option Addr} {xs : List Value} (h : w.ownsRow base 9 1 (.slice a n c) n xs) :
    (a = none ∧ n = 0 ∧ c = 0) ∨ ∃ g cur, a = some ⟨g, 0, none⟩ ∧ base ≤ g ∧ w.heap[g]? = some (.cells cur 9 (0, 0)) ∧ n ≤ c ∧ c ≤ maxLen ∧ cur.size = c ∧ cur.toList.take n = xs := by
  rcases h.2 with ⟨h', hn⟩ | ⟨g, cap, cur, h', hb, hg, hnc, hcm, hs, ht⟩
  · simp at h'
    exact Or.inl ⟨h'.1, hn, h'.2.2⟩
  · simp at h'
    obtain ⟨rfl, rfl⟩ := h'
    exact Or.inr ⟨g, cur, rfl, hb, hg, hnc, hcm, by simpa using hs, by simpa using ht⟩
theorem strs_make {w : World} {base n c g : Nat} {cur : Array Value} (hb : base ≤ g) (hg : w.heap[g]? = some (.cells cur 9 (0, 0))) (hnc : n ≤ c) (hcm : c ≤ maxLen) (hs : cur.size = c) :
    w.ownsRow base 9 1 (.slice (some ⟨g, 0, none⟩) n c) n (cur.toList.take n) :=
  ⟨by simp; omega, .inr ⟨g, c, cur, rfl, hb, hg, hnc, hcm, by simpa using hs, by simp⟩⟩

theorem ins_list {cs xs : List Value} {i n : Nat} {u : Value} (hx : xs.length = n + 1) (hc : xs.take n = cs) (hn : cs.length = n) (hi : i ≤ n) : setMany (setMany xs (i + 1) (cs.drop i)) i [u] = cs.take i ++ u :: cs.drop i := by
  rw [setMany_eq [u] _ _ (by rw [setMany_len]; simp; omega)]
  rw [setMany_eq _ _ _ (by simp; omega)]
  have e1 : xs.take (i + 1) = cs.take i ++ (xs.drop i).take 1 := by
    rw [← hc, List.take_take, Nat.min_eq_left hi, List.take_add]
  have e2 : xs.drop (i + 1 + (cs.drop i).length) = [] := by
    apply List.drop_eq_nil_of_le
    simp
    omega
  rw [e2, e1]
  have l1 : (cs.take i).length = i := by simp; omega
  have l2 : ((xs.drop i).take 1).length = 1 := by simp; omega
  have l3 : (cs.take i ++ (xs.drop i).take 1).length = i + 1 := by rw [List.length_append, l1, l2]
  rw [List.append_nil, List.take_append_of_le_length (by rw [l3]; omega), List.take_append_of_le_length (by rw [l1]; omega), List.take_of_length_le (by rw [l1]; omega)]
  have e3 : ((cs.take i ++ (xs.drop i).take 1) ++ cs.drop i).drop (i + [u].length) = cs.drop i := by
    have : i + [u].length = (cs.take i ++ (xs.drop i).take 1).length := by rw [l3]; rfl
    rw [this, List.drop_left]
  rw [e3]
  simp

theorem ins_list2 {cs xs : List Value} {i n : Nat} {u : Value} (hx : xs.length = n + 1) (hc : xs.take i = cs.take i) (hn : cs.length = n) (hi : i ≤ n) : setMany (setMany xs i [u]) (i + 1) (cs.drop i) = cs.take i ++ u :: cs.drop i := by
  rw [setMany_eq (cs.drop i) _ _ (by rw [setMany_len]; simp; omega), setMany_eq [u] _ _ (by simp; omega), hc]
  have l1 : (cs.take i ++ [u]).length = i + 1 := by simp; omega
  rw [List.take_append_of_le_length (by rw [l1]; omega), List.take_of_length_le (by rw [l1]; omega)]
  have e2 : (cs.take i ++ [u] ++ xs.drop (i + [u].length)).drop (i + 1 + (cs.drop i).length) = [] := by
    apply List.drop_eq_nil_of_le
    rw [List.length_append, l1]
    simp
    omega
  rw [e2]
  simp

theorem one_string (L : List ByteArray) : ∀ v ∈ L.map Value.string, v.oneCell' = true := by
  intro v hv
  obtain ⟨s, _, rfl⟩ := List.mem_map.1 hv
  rfl

/-- What Insert leaves. -/
def Inserted (w w' : World) (base n : Nat) (v v' : Value) (xs : List Value) : Prop :=
  w'.ownsRow base 9 1 v' (n + 1) xs ∧ w.grownBy w' v.ownBlock ∧ (v'.ownBlock = v.ownBlock ∨ v'.ownBlock = some w.heap.size)

set_option maxHeartbeats 1000000 in
theorem insert_any (base n c i vb : Nat) (a : Option Addr) (A : List ByteArray) (s : ByteArray) (w : World) (hown : w.ownsRow base 9 1 (.slice a n c) n (A.map .string)) (hi : i ≤ n) (hn : n ≤ 1000) (hbase : base ≤ w.heap.size)
    (hv : w.heap[vb]? = some (.cells #[.string s] 9 (0, 0))) (hne : (Value.slice a n c).ownBlock ≠ some vb) :
    Calls Tryd.prog 143 #[.slice a n c, .int .i64 i, .slice (some ⟨vb, 0, none⟩) 1 1] w fun e w' => ∃ v', e = .returned v' ∧ Inserted w w' base n (.slice a n c) v' ((A.take i ++ s :: A.drop i).map .string) := by
  have hcl : (A.map Value.string).length = n := by have := hown.1; simpa using this
  have hal : A.length = n := by simpa using hcl
  have hvs : ∀ j v, ([Value.string s] : List Value)[j]? = some v → w.cell? ⟨vb, 0 + j, none⟩ = some v := by
    intro j v hj
    rw [cell_of_row w vb (0 + j) _ _ _ hv]
    simpa using hj
  have h1v : ∀ v ∈ ([Value.string s] : List Value), v.oneCell' = true := by intro v hv'; simp at hv'; subst hv'; rfl
  have h1c := one_string A
  have hlist : (A.take i ++ s :: A.drop i).map Value.string = (A.map Value.string).take i ++ .string s :: (A.map Value.string).drop i := by simp [List.map_take, List.map_drop]
  rw [hlist]
  generalize hcs : A.map Value.string = cs at *
  have et : Tryd.lays22_ren.t 9 = 9 := rfl
  rcases strs_form hown with ⟨rfl, rfl, rfl⟩ | ⟨g, cur, rfl, hbg, hg, hnc, hcm, hcs', htk⟩
  · obtain rfl : i = 0 := by omega
    obtain rfl : cs = [] := List.length_eq_zero_iff.1 hcl
    refine (Any2.slices_Insert_string_end_grow Tryd.lays22 none 0 0 vb 0 1 1 [] [.string s] w (by omega) (by omega) (by omega) (by omega) rfl rfl (fun _ => rfl) (fun a e => by cases e) hvs h1v).mono ?_
    rintro e w' ⟨rfl, rfl⟩
    rw [et]
    refine ⟨_, rfl, ?_, grown_drew (World.grownBy_alloc w.drew _ none), Or.inr rfl⟩
    have hge := grownCap_ge w (0 + 1) 0 9
    have hle := grownCap_le_maxLen w (0 + 1) 0 9 (by unfold maxLen; omega)
    generalize grownCap w (0 + 1) 0 9 = C at hge hle ⊢
    have := strs_make (w := w.drew.alloc (.cells (([] ++ [Value.string s]).toArray ++ Builtin.zeroCells (Value.string ⟨#[]⟩).cells (C - (0 + 1))) 9)) (base := base) (n := 0 + 1) (c := C) (g := w.heap.size) hbase (heap_alloc_new w.drew _) hge hle (by
      rw [Array.size_append, size_zeroCells]
      simp [Value.cells]
      omega)
    simpa using this
  · have hsh : w.shape? g = some (9, c) := by simp [World.shape?, hg, hcs']
    have hshv : w.shape? vb = some (9, 1) := by simp [World.shape?, hv]
    have hgv : vb ≠ g := fun e => hne (by simp [Value.ownBlock, e])
    have hcc : ∀ j v, cs[j]? = some v → w.cell? ⟨g, 0 + j, none⟩ = some v := by
      intro j v hj
      have hjn : j < n := by rw [← hcl]; exact (List.getElem?_eq_some_iff.1 hj).1
      rw [cell_of_row w g (0 + j) _ _ _ hg]
      rw [← htk, List.getElem?_take, if_pos hjn] at hj
      simpa using hj
    have hsp : ∀ j, j < c → (w.cell? ⟨g, 0 + j, none⟩).isSome = true := by
      intro j hj
      rw [cell_of_row w g (0 + j) _ _ _ hg]
      simp [hcs', hj]
    have hfz : ∀ j, w.frozen? ⟨g, j, none⟩ = false := fun j => frozen_of_row w g j cur _ hg
    have hfv : ∀ j, w.frozen? ⟨vb, j, none⟩ = false := fun j => frozen_of_row w vb j _ _ hv
    by_cases hroom : n + 1 ≤ c
    · have hrow := strs_make (w := w) (base := base) (n := n + 1) (c := c) (g := g) hbg hg hroom hcm hcs'
      have hxl : (cur.toList.take (n + 1)).length = n + 1 := by simp; omega
      have hxt : (cur.toList.take (n + 1)).take n = cs := by rw [List.take_take, Nat.min_eq_left (by omega)]; exact htk
      by_cases hin : i < n
      · refine (Any2.slices_Insert_string_shift Tryd.lays22 g 0 n c i vb 0 1 1 cs [.string s] w hin (by omega) hroom (by unfold maxLen at hcm; omega) hgv hcl rfl hcc (fun j hj => hsp j (by omega)) (fun j _ => hfz _) hvs h1c h1v 9 9 1 c hshv hsh (by omega) (hfv _) (hfv _)).mono ?_
        rintro e w' ⟨rfl, rfl⟩
        have hd : w.drew.ownsRow base 9 1 (.slice (some ⟨g, 0, none⟩) (n + 1) c) (n + 1) (cur.toList.take (n + 1)) := hrow
        obtain ⟨r1, g1⟩ := own_setCells (cs.drop i) (0 + (i + 1)) _ _ hd
        obtain ⟨r2, g2⟩ := own_setCells [.string s] (0 + i) _ _ r1
        refine ⟨_, rfl, ?_, ?_, Or.inl rfl⟩
        · rw [Nat.zero_add, Nat.zero_add, ins_list hxl hxt hcl hi] at r2
          simpa only [Nat.zero_add] using r2
        · exact ⟨g2.os.trans g1.os, g2.tape.trans g1.tape, g2.output.trans g1.output, Nat.le_trans g1.size g2.size, fun k hk hne' => (g2.block k (Nat.lt_of_lt_of_le hk g1.size) hne').trans (g1.block k hk hne')⟩
      · obtain rfl : i = n := by omega
        refine (Any2.slices_Insert_string_end_room Tryd.lays22 g 0 i c vb 0 1 1 [.string s] w (by omega) hroom (by unfold maxLen at hcm; omega) rfl (fun j hj => by have := hsp (i + j) (by omega); simpa using this) (fun j _ => hfz _) hvs h1v).mono ?_
        rintro e w' ⟨rfl, rfl⟩
        obtain ⟨r2, g2⟩ := own_setCells [.string s] (0 + i) _ _ hrow
        refine ⟨_, rfl, ?_, g2, Or.inl rfl⟩
        have he := ins_list (u := Value.string s) hxl hxt hcl (Nat.le_refl i)
        rw [List.drop_of_length_le (l := cs) (by omega)] at he
        rw [Nat.zero_add] at r2
        rw [List.drop_of_length_le (l := cs) (by omega), ← he, Nat.zero_add]
        exact r2
    · have hcn : c = n := by omega
      subst hcn
      have hge := grownCap_ge w (c + 1) c 9
      have hle := grownCap_le_maxLen w (c + 1) c 9 (by unfold maxLen; omega)
      by_cases hin : i < c
      · refine (Any2.slices_Insert_string_grow Tryd.lays22 g 0 c c i vb 0 1 1 cs [.string s] w hin (by omega) (Nat.le_refl _) (by omega) (by omega) hcl rfl hcc hvs h1c h1v).mono ?_
        rintro e w' ⟨rfl, rfl⟩
        rw [et]
        generalize grownCap w (c + 1) c 9 = C at hge hle ⊢
        have hsz : ((cs.take i).toArray ++ Builtin.zeroCells (Value.string ⟨#[]⟩).cells (c + 1 - i) ++ Builtin.zeroCells (Value.string ⟨#[]⟩).cells (C - (c + 1))).size = C := by
          rw [Array.size_append, Array.size_append, size_zeroCells, size_zeroCells]
          simp [Value.cells, hcl]
          omega
        have hrow := strs_make (w := w.alloc (.cells ((cs.take i).toArray ++ Builtin.zeroCells (Value.string ⟨#[]⟩).cells (c + 1 - i) ++ Builtin.zeroCells (Value.string ⟨#[]⟩).cells (C - (c + 1))) 9)) (base := base) (n := c + 1) (c := C) (g := w.heap.size) hbase (heap_alloc_new w _) hge hle hsz
        have hxi : ((((cs.take i).toArray ++ Builtin.zeroCells (Value.string ⟨#[]⟩).cells (c + 1 - i) ++ Builtin.zeroCells (Value.string ⟨#[]⟩).cells (C - (c + 1))).toList).take (c + 1)).take i = cs.take i := by
          rw [List.take_take, Nat.min_eq_left (by omega), Array.toList_append, Array.toList_append, List.append_assoc, List.take_append_of_le_length (by simp [hcl]; omega)]
          exact List.take_of_length_le (by simp; omega)
        have hxl : ((((cs.take i).toArray ++ Builtin.zeroCells (Value.string ⟨#[]⟩).cells (c + 1 - i) ++ Builtin.zeroCells (Value.string ⟨#[]⟩).cells (C - (c + 1))).toList).take (c + 1)).length = c + 1 := by
          rw [List.length_take, Array.length_toList, hsz]
          omega
        have gr0 := World.grownBy_alloc w (.cells ((cs.take i).toArray ++ Builtin.zeroCells (Value.string ⟨#[]⟩).cells (c + 1 - i) ++ Builtin.zeroCells (Value.string ⟨#[]⟩).cells (C - (c + 1))) 9) none
        generalize ((cs.take i).toArray ++ Builtin.zeroCells (Value.string ⟨#[]⟩).cells (c + 1 - i) ++ Builtin.zeroCells (Value.string ⟨#[]⟩).cells (C - (c + 1))) = cur0 at hrow hxi hxl gr0 ⊢
        have hd : ((w.alloc (.cells cur0 9)).drew).ownsRow base 9 1 (.slice (some ⟨w.heap.size, 0, none⟩) (c + 1) C) (c + 1) (cur0.toList.take (c + 1)) := hrow
        obtain ⟨r1, g1⟩ := own_setCells [.string s] i _ _ hd
        have r1' : (((w.alloc (.cells cur0 9)).drew.setCells w.heap.size i [.string s]).drew).ownsRow base 9 1 (.slice (some ⟨w.heap.size, 0, none⟩) (c + 1) C) (c + 1) (setMany (cur0.toList.take (c + 1)) i [.string s]) := r1
        obtain ⟨r2, g2⟩ := own_setCells (cs.drop i) (i + 1) _ _ r1'
        rw [ins_list2 hxl hxi hcl hi] at r2
        refine ⟨_, rfl, r2, ?_, Or.inr rfl⟩
        have hs1 : w.heap.size < (w.alloc (.cells cur0 9)).heap.size := by simp
        refine ⟨g2.os.trans (g1.os.trans gr0.os), g2.tape.trans (g1.tape.trans gr0.tape), g2.output.trans (g1.output.trans gr0.output), Nat.le_trans gr0.size (Nat.le_trans g1.size g2.size), fun k hk _ => ?_⟩
        have n1 : some k ≠ some w.heap.size := by intro e; cases e; omega
        exact (g2.block k (Nat.lt_of_lt_of_le (Nat.lt_trans hk hs1) g1.size) n1).trans ((g1.block k (Nat.lt_trans hk hs1) n1).trans (gr0.block k hk (by simp)))
      · obtain rfl : i = c := by omega
        refine (Any2.slices_Insert_string_end_grow Tryd.lays22 (some ⟨g, 0, none⟩) i i vb 0 1 1 cs [.string s] w (by omega) (Nat.le_refl _) (by omega) (by omega) hcl rfl (fun e => by cases e) (fun a e j v hj => by cases e; rw [Addr.add_lit]; exact hcc j v hj) hvs h1v).mono ?_
        rintro e w' ⟨rfl, rfl⟩
        rw [et]
        refine ⟨_, rfl, ?_, ?_, Or.inr rfl⟩
        · generalize grownCap w (i + 1) i 9 = C at hge hle ⊢
          have := strs_make (w := w.drew.alloc (.cells ((cs ++ [Value.string s]).toArray ++ Builtin.zeroCells (Value.string ⟨#[]⟩).cells (C - (i + 1))) 9)) (base := base) (n := i + 1) (c := C) (g := w.heap.size) hbase (heap_alloc_new w.drew _) hge hle (by
            rw [Array.size_append, size_zeroCells]
            simp [Value.cells, hcl]
            omega)
          rw [List.drop_of_length_le (l := cs) (by omega), List.take_of_length_le (l := cs) (by omega)]
          rw [Array.toList_append, List.take_append_of_le_length (by simp [hcl])] at this
          rw [List.take_of_length_le (by simp [hcl])] at this
          simpa using this
        · exact grown_any (grown_drew (World.grownBy_alloc w.drew _ none))

theorem nth_map {A : List ByteArray} {j : Nat} (h : j < A.length) : (A.map Value.string)[j]? = some (.string (nthS A j)) := by
  simp [nthS, List.getElem?_eq_getElem h]

set_option maxHeartbeats 1000000 in
theorem search_any (base n c : Nat) (a : Option Addr) (A : List ByteArray) (s : ByteArray) (w : World) (hown : w.ownsRow base 9 1 (.slice a n c) n (A.map .string)) (hn : n ≤ 1000) :
    Calls Tryd.prog 142 #[.slice a n c, .string s] w fun e w' => e = .returned (.tuple #[.int .i64 (posI A s : Nat), .bool (hitI A s)]) ∧ Below w.heap.size w w' := by
  have hal : A.length = n := by have := hown.1; simpa using this
  by_cases h0 : n = 0
  · subst h0
    obtain rfl : A = [] := List.length_eq_zero_iff.1 hal
    refine (Any2.slices_BinarySearch_string_empty Tryd.lays26 a c s w).mono ?_
    rintro e w' ⟨rfl, rfl⟩
    exact ⟨rfl, Below.refl _ _⟩
  · rcases strs_form hown with ⟨_, h, _⟩ | ⟨g, cur, rfl, hbg, hg, hnc, hcm, hcs', htk⟩
    · exact absurd h h0
    refine (Any2.slices_BinarySearch_string Tryd.lays26 g 0 n c (nthS A) s w (by omega) (fun j hj => ?_)).mono ?_
    · rw [Nat.zero_add, hown.cellAt j (by omega)]
      exact nth_map (by omega)
    · rintro e w' ⟨rfl, q, rfl⟩
      refine ⟨?_, below_drewN (Below.refl _ _) q⟩
      subst hal
      rfl
end Go.Proofs.YtfblpbihpmhgjaaDoor
