/-
  The library's copy and its sort, at rows of entries: what they leave.
-/
import Derived.Test.YtnopbjhlnjbodaaSortP
import Derived.Test.YtnopbjhlnjbodaaShelfD
import Derived.Test.YtnopbjhlnjbodaaShelfE
namespace Go.Proofs.Ytnopbjhlnjbodaa
open Go.RowKit Go.Sort

set_option maxRecDepth 100000 in
theorem cloneRow (b n c : Nat) (L : List EntD) (w : World) (hL : EntsAt w (some ⟨b, 0, none⟩) n c L) (hn : n ≤ 1048576) :
    Calls Try.prog 92 #[.slice (some ⟨b, 0, none⟩) n c] w fun e w' => ∃ g c', e = .returned (.slice (some ⟨g, 0, none⟩) n c') ∧ OwnE w' w.heap.size g n c' L ∧ Below w.heap.size w w' := by
  obtain ⟨i0, hi, hz0, hz1, hz2⟩ := info_parts Try.infoEnt
  have h := AnyE.slices_Clone Try.cloneL i0 _ 5 56 hi hz0 hz1 hz2 rfl (by decide) Try.sizeOf32 b 0 n c (flatE L) w (by rw [flatE_len, hL.length]) (by unfold maxLen; omega) (by omega) (fun j u hu => by have := ents_news hL j u hu; rwa [WideShapes.add_plain] at this) (flatE_one _)
  have h' : Calls Try.prog 92 #[.slice (some ⟨b, 0, none⟩) n c] w fun e w' => ∃ v', e = .returned v' ∧ w'.ownsRow w.heap.size 32 5 v' n (flatE L) ∧ v' ≠ .slice none 0 0 ∧ Below w.heap.size w w' := h
  refine h'.mono ?_
  rintro e w' ⟨v', rfl, ho, hne, hb⟩
  obtain ⟨g, c', rfl⟩ : ∃ g cap, v' = .slice (some ⟨g, 0, none⟩) n cap := by
    rcases ho.2 with ⟨hv, h0⟩ | ⟨g, cap, cur, hv, _⟩
    · exact absurd hv hne
    · exact ⟨g, cap, hv⟩
  exact ⟨g, c', rfl, ⟨ho, hL.length, hL.ents⟩, hb⟩

theorem five (i : Nat) (j : Nat) (hj : j < 5) : (i * 5 + j) / 5 = i ∧ (i * 5 + j) % 5 = j := by omega
theorem ent_five (x : EntD) : (entCells x)[0]! = .string x.1 ∧ (entCells x)[1]! = .int .i64 x.2.1 ∧ (entCells x)[2]! = .int .i64 x.2.2.1 ∧ (entCells x)[3]! = .string x.2.2.2.1 ∧ (entCells x)[4]! = .int .i64 x.2.2.2.2 := ⟨rfl, rfl, rfl, rfl, rfl⟩
theorem holds_ents {w : World} {base g n c : Nat} {L : List EntD} (hO : OwnE w base g n c L) : HoldsK entCells 5 w g 0 L.toArray := by
  intro t ht
  rw [size_flatK] at ht
  have hl := hO.len
  have hlt : t / 5 < L.length := by simp at ht; omega
  refine ⟨?_, by rw [Nat.zero_add]; exact hO.owns.frozenAt _⟩
  rw [get_flatK _ _ _ _ ht]
  obtain ⟨c0, c1, c2, c3, c4⟩ := hO.entsAt.cells _ rfl (t / 5) hlt
  have e : (L.toArray)[t / 5]! = L[t / 5] := by simp [hlt]
  rw [e]
  obtain ⟨z0, z1, z2, z3, z4⟩ := ent_five L[t / 5]
  have hm : t % 5 < 5 := Nat.mod_lt _ (by omega)
  have ht5 : t = t / 5 * 5 + t % 5 := by omega
  rcases (show t % 5 = 0 ∨ t % 5 = 1 ∨ t % 5 = 2 ∨ t % 5 = 3 ∨ t % 5 = 4 by omega) with h | h | h | h | h
  · rw [h, z0]; rw [show (0 : Nat) + t = 0 + t / 5 * 5 by omega]; exact c0
  · rw [h, z1]; rw [show (0 : Nat) + t = 0 + t / 5 * 5 + 1 by omega]; exact c1
  · rw [h, z2]; rw [show (0 : Nat) + t = 0 + t / 5 * 5 + 2 by omega]; exact c2
  · rw [h, z3]; rw [show (0 : Nat) + t = 0 + t / 5 * 5 + 3 by omega]; exact c3
  · rw [h, z4]; rw [show (0 : Nat) + t = 0 + t / 5 * 5 + 4 by omega]; exact c4
theorem ents_holds {w : World} {g : Nat} {D : Array EntD} (h : HoldsK entCells 5 w g 0 D) (i : Nat) (hi : i < D.toList.length) : EntCells w g (0 + i * 5) D.toList[i] := by
  have hi' : i < D.size := by simpa using hi
  have e : D[i]! = D.toList[i] := by simp [hi']
  have key : ∀ j, j < 5 → w.cell? ⟨g, 0 + i * 5 + j, none⟩ = some ((entCells D.toList[i])[j]!) := fun j hj => by
    have hlt : i * 5 + j < D.size * 5 := by omega
    have := (h (i * 5 + j) (by rw [size_flatK]; exact hlt)).1
    rw [get_flatK _ _ _ _ hlt, (five i j hj).1, (five i j hj).2, e] at this
    rw [Nat.add_assoc]
    exact this
  obtain ⟨z0, z1, z2, z3, z4⟩ := ent_five D.toList[i]
  exact ⟨by rw [← z0]; exact key 0 (by omega), by rw [← z1]; exact key 1 (by omega), by rw [← z2]; exact key 2 (by omega), by rw [← z3]; exact key 3 (by omega), by rw [← z4]; exact key 4 (by omega)⟩
theorem grown_sorted {w : World} {g n : Nat} {os : Array Obj} (d : Array EntD) : w.grownBy (sortWorldK entCells 5 w g 0 n d os) (some g) := by
  unfold sortWorldK putRowK
  refine ⟨rfl, rfl, rfl, by simp, fun k hk hne => ?_⟩
  rw [heap_grow_old _ _ (by simpa using hk)]
  have : g ≠ k := fun e => hne (by rw [e])
  simp [putRow, mapBlock, Sort.ahead, Array.getElem?_modify, this]

set_option maxRecDepth 100000 in
theorem sortRow (base g n c : Nat) (L : List EntD) (w : World) (hO : OwnE w base g n c L) (hn : n ≤ 1048576) :
    Calls Try.prog 93 #[.slice (some ⟨g, 0, none⟩) n c, .func (.func 94) #[] #[]] w fun e w' => e = .returned (.tuple #[]) ∧ ∃ D, Weak D ∧ D.Perm L ∧ EntsAt w' (some ⟨g, 0, none⟩) n c D ∧ w.grownBy w' (some g) := by
  have hE := hO.entsAt
  have hl := hO.len
  have hsz : L.toArray.size = n := by simp [hl]
  have eg : ∀ args w, (callFunc 94 args).run Try.prog w = .ok (.enter 94 args) w := enters_of Try.func94 (by kernel_rfl) rfl
  have hcmp : CmpLays Try.prog 94 #[] entCells 5 (fun x y : EntD => ordI x.1 x.2.1 y.1 y.2.1) g 0 L.toArray.size w := fun m os dk _ x y => implOrderX x.1 x.2.2.2.1 y.1 y.2.2.2.1 x.2.1 x.2.2.1 x.2.2.2.2 y.2.1 y.2.2.1 y.2.2.2.2 _
  have h := AnyQ.slices_SortFunc Try.sortL 5 Try.isAgg32 Try.sizeOf32 entCells (fun _ => rfl) (fun x v hv => by simp [entCells] at hv; rcases hv with rfl | rfl | rfl | rfl | rfl <;> rfl) (fun x y : EntD => ordI x.1 x.2.1 y.1 y.2.1) less_swo 94 #[] g 0 c L.toArray w eg hcmp (holds_ents hO) hO.lt.2 (by rw [hsz]; omega)
  rw [hsz] at h
  have h' : Calls Try.prog 93 #[.slice (some ⟨g, 0, none⟩) n c, .func (.func 94) #[] #[]] w fun e w' => e = .returned (.tuple #[]) ∧ ∃ d' m os, PermIn 0 n L.toArray d' ∧ SortedIn (ltOf (fun x y : EntD => ordI x.1 x.2.1 y.1 y.2.1)) 0 n d' ∧ w' = sortWorldK entCells 5 w g 0 m d' os := h
  refine h'.mono ?_
  rintro e w' ⟨rfl, d', m, os, hp, hs, rfl⟩
  have hd : d'.size = n := hp.1.trans hsz
  have hperm : d'.toList.Perm L := by
    have := hp.2.2
    rw [← hd] at this
    have e1 : d'.extract 0 d'.size = d' := Array.extract_size
    have e2 : L.toArray.extract 0 d'.size = L.toArray := by rw [hd, ← hsz]; exact Array.extract_size
    rw [e1, e2] at this
    exact this
  have hH := holdsK_sortWorldK_c entCells 5 w g 0 L.toArray d' m os (holds_ents hO) hO.lt.2 hp.1
  refine ⟨rfl, d'.toList, ?_, hperm, ?_, grown_sorted d'⟩
  · unfold Weak
    rw [List.pairwise_iff_getElem]
    intro i j hi hj hij
    have hi' : i < d'.size := by simpa using hi
    have hj' : j < d'.size := by simpa using hj
    have := hs i j (Nat.zero_le _) hij (by omega)
    rw [ltOf_less] at this
    have e1 : d'[i]! = d'.toList[i] := by simp [hi']
    have e2 : d'[j]! = d'.toList[j] := by simp [hj']
    rw [e1, e2] at this
    exact this
  · exact ⟨by simpa using hd, hE.room, hE.big, fun l hl' => hO.ents l (hperm.mem_iff.1 hl'), (fun e => by cases e), (fun x e _ => by cases e; exact ⟨Nat.lt_of_lt_of_le hO.lt.2 (grown_sorted d').size, rfl⟩), (fun x e i hi => by cases e; exact ents_holds hH i hi)⟩
end Go.Proofs.Ytnopbjhlnjbodaa
