/-
  Contracts of the library's slices package at this program, laid by the kit's own command.
  Contracts of the library's slices package at this program, laid by the kit's own command.
  The library's copy and its sort, at rows of entries: what they leave.
-/
import Derived.Ground.SlsfProg
import Derived.Shelf.SlSortCmp.WholeK
import Derived.Test.YtkdalacclafihaaProg
import Derived.Ground.SlgnProg
import Derived.Shelf.SlicesE.Clone
import Derived.Test.YtkdalacclafihaaBn11
import Derived.Test.YtkdalacclafihaaBn38
namespace Go.Proofs.Ytkdalacclafihaa
open Go.Shelf
def Try.sortL_ren : Go.Shelf.Ren := ⟨fun | 6 => 44 | 15 => 67 | 14 => 66 | 28 => 86 | 29 => 87 | 20 => 78 | 21 => 79 | 22 => 80 | 23 => 81 | 24 => 82 | 25 => 83 | 26 => 84 | 27 => 85 | 46 => 94 | 47 => 95 | 48 => 96 | 49 => 97 | 50 => 98 | 57 => 104 | n => n, fun | 22 => 24 | 24 => 36 | 25 => 78 | 3 => 3 | 39 => 112 | 0 => 0 | 53 => 134 | 55 => 136 | 4 => 4 | 46 => 128 | 45 => 127 | 50 => 120 | 5 => 5 | 9 => 9 | 66 => 139 | 70 => 143 | 76 => 146 | 77 => 147 | n => n, fun | n => n⟩
theorem Try.sortL : Go.Proofs.SlLaysF0.n6 Try.prog Try.sortL_ren := {
  mixed := by kernel_rfl
  f6 := ⟨Try.f44.name, by decide, Try.func44.trans (congrArg some (by kernel_rfl))⟩
  f14 := ⟨Try.f66.name, by decide, Try.func66.trans (congrArg some (by kernel_rfl))⟩
  f15 := Try.func67.trans (congrArg some (by kernel_rfl))
  f20 := ⟨Try.f78.name, by decide, Try.func78.trans (congrArg some (by kernel_rfl))⟩
  f21 := ⟨Try.f79.name, by decide, Try.func79.trans (congrArg some (by kernel_rfl))⟩
  f22 := ⟨Try.f80.name, by decide, Try.func80.trans (congrArg some (by kernel_rfl))⟩
  f23 := ⟨Try.f81.name, by decide, Try.func81.trans (congrArg some (by kernel_rfl))⟩
  f24 := ⟨Try.f82.name, by decide, Try.func82.trans (congrArg some (by kernel_rfl))⟩
  f25 := ⟨Try.f83.name, by decide, Try.func83.trans (congrArg some (by kernel_rfl))⟩
  f26 := ⟨Try.f84.name, by decide, Try.func84.trans (congrArg some (by kernel_rfl))⟩
  f27 := ⟨Try.f85.name, by decide, Try.func85.trans (congrArg some (by kernel_rfl))⟩
  f28 := Try.func86.trans (congrArg some (by kernel_rfl))
  f29 := Try.func87.trans (congrArg some (by kernel_rfl))
  f46 := ⟨Try.f94.name, by decide, Try.func94.trans (congrArg some (by kernel_rfl))⟩
  f47 := Try.func95.trans (congrArg some (by kernel_rfl))
  f48 := Try.func96.trans (congrArg some (by kernel_rfl))
  f49 := ⟨Try.f97.name, by decide, Try.func97.trans (congrArg some (by kernel_rfl))⟩
  f50 := ⟨Try.f98.name, by decide, Try.func98.trans (congrArg some (by kernel_rfl))⟩
  f57 := ⟨Try.f104.name, by decide, Try.func104.trans (congrArg some (by kernel_rfl))⟩
  t0 := Try.underlying0
  a0 := Try.isAgg0
  z0 := Try.sizeOf0
  v0 := Try.zeroValue0
  t3 := Try.underlying3
  a3 := Try.isAgg3
  z3 := Try.sizeOf3
  v3 := Try.zeroValue3
  t4 := Try.underlying4
  a4 := Try.isAgg4
  z4 := Try.sizeOf4
  v4 := Try.zeroValue4
  t5 := Try.underlying5
  a5 := Try.isAgg5
  z5 := Try.sizeOf5
  v5 := Try.zeroValue5
  t9 := Try.underlying9
  a9 := Try.isAgg9
  z9 := Try.sizeOf9
  v9 := Try.zeroValue9
  t22 := Try.underlying24
  a22 := Try.isAgg24
  z22 := Try.sizeOf24
  v22 := Try.zeroValue24
  t25 := Try.underlying78
  a25 := Try.isAgg78
  z25 := Try.sizeOf78
  v25 := Try.zeroValue78
  t39 := Try.underlying112
  a39 := Try.isAgg112
  z39 := Try.sizeOf112
  v39 := Try.zeroValue112
  t45 := Try.underlying127
  a45 := Try.isAgg127
  z45 := Try.sizeOf127
  v45 := Try.zeroValue127
  t46 := Try.underlying128
  a46 := Try.isAgg128
  z46 := Try.sizeOf128
  v46 := Try.zeroValue128
  t50 := Try.underlying120
  a50 := Try.isAgg120
  z50 := Try.sizeOf120
  v50 := Try.zeroValue120
  t53 := Try.underlying134
  a53 := Try.isAgg134
  z53 := Try.sizeOf134
  v53 := Try.zeroValue134
  t55 := Try.underlying136
  a55 := Try.isAgg136
  z55 := Try.sizeOf136
  v55 := Try.zeroValue136
  t66 := Try.underlying139
  a66 := Try.isAgg139
  z66 := Try.sizeOf139
  v66 := Try.zeroValue139
  t70 := Try.underlying143
  a70 := Try.isAgg143
  z70 := Try.sizeOf143
  v70 := Try.zeroValue143
  t76 := Try.underlying146
  a76 := Try.isAgg146
  z76 := Try.sizeOf146
  v76 := Try.zeroValue146
  t77 := Try.underlying147
  a77 := Try.isAgg147
  z77 := Try.sizeOf147
  v77 := Try.zeroValue147 }
end Go.Proofs.Ytkdalacclafihaa

namespace Go.Proofs.Ytkdalacclafihaa
open Go.Shelf
def Try.cloneL_ren : Go.Shelf.Ren := ⟨fun | 41 => 43 | n => n, fun | 22 => 24 | 23 => 36 | 4 => 4 | n => n, fun | n => n⟩
theorem Try.cloneL : Go.Proofs.SlLaysE0.n41 Try.prog Try.cloneL_ren := {
  mixed := by kernel_rfl
  f41 := ⟨Try.f43.name, by decide, Try.func43.trans (congrArg some (by kernel_rfl))⟩
  t4 := Try.underlying4
  a4 := Try.isAgg4
  z4 := Try.sizeOf4
  v4 := Try.zeroValue4
  t22 := Try.underlying24
  a22 := Try.isAgg24
  z22 := Try.sizeOf24
  v22 := Try.zeroValue24 }
end Go.Proofs.Ytkdalacclafihaa

namespace Go.Proofs.Ytkdalacclafihaa
open Go.RowKit Go.Sort

set_option maxRecDepth 100000 in
theorem cloneRow (b n c : Nat) (L : List EntD) (w : World) (hL : EntsAt w (some ⟨b, 0, none⟩) n c L) (hn : n ≤ 1048576) :
    Calls Try.prog 43 #[.slice (some ⟨b, 0, none⟩) n c] w fun e w' => ∃ g c', e = .returned (.slice (some ⟨g, 0, none⟩) n c') ∧ OwnE w' w.heap.size g n c' L ∧ Below w.heap.size w w' := by
  obtain ⟨i0, hi, hz0, hz1, hz2⟩ := info_parts Try.infoEnt
  have h := AnyE.slices_Clone Try.cloneL i0 _ 5 56 hi hz0 hz1 hz2 rfl (by decide) Try.sizeOf36 b 0 n c (flatE L) w (by rw [flatE_len, hL.length]) (by unfold maxLen; omega) (by omega) (fun j u hu => by have := ents_news hL j u hu; rwa [WideShapes.add_plain] at this) (flatE_one _)
  have h' : Calls Try.prog 43 #[.slice (some ⟨b, 0, none⟩) n c] w fun e w' => ∃ v', e = .returned v' ∧ w'.ownsRow w.heap.size 36 5 v' n (flatE L) ∧ v' ≠ .slice none 0 0 ∧ Below w.heap.size w w' := h
  refine h'.mono ?_
  rintro e w' ⟨v', rfl, ho, hne, hb⟩
  obtain ⟨g, c', rfl⟩ : ∃ g cap, v' = .slice (some ⟨g, 0, none⟩) n cap := by
    rcases ho.2 with ⟨hv, h0⟩ | ⟨g, cap, cur, hv, _⟩
    · exact absurd hv hne
    · exact ⟨g, cap, hv⟩
  exact ⟨g, c', rfl, ⟨ho, hL.length, hL.ents⟩, hb⟩

set_option maxRecDepth 100000 in
theorem sortRow (base g n c : Nat) (L : List EntD) (w : World) (hO : OwnE w base g n c L) (hn : n ≤ 1048576) :
    Calls Try.prog 44 #[.slice (some ⟨g, 0, none⟩) n c, .func (.func 41) #[] #[]] w fun e w' => e = .returned (.tuple #[]) ∧ ∃ D, Weak D ∧ D.Perm L ∧ EntsAt w' (some ⟨g, 0, none⟩) n c D ∧ w.grownBy w' (some g) := by
  have hE := hO.entsAt
  have hl := hO.len
  have hsz : L.toArray.size = n := by simp [hl]
  have eg : ∀ args w, (callFunc 41 args).run Try.prog w = .ok (.enter 41 args) w := enters_of Try.func41 (by kernel_rfl) rfl
  have hcmp : CmpLays Try.prog 41 #[] entCells 5 (fun x y : EntD => ordI x.1 x.2.1 y.1 y.2.1) g 0 L.toArray.size w := fun m os dk _ x y => implOrderX x.1 x.2.2.2.1 y.1 y.2.2.2.1 x.2.1 x.2.2.1 x.2.2.2.2 y.2.1 y.2.2.1 y.2.2.2.2 _
  have h := AnyQ.slices_SortFunc Try.sortL 5 Try.isAgg36 Try.sizeOf36 entCells (fun _ => rfl) (fun x v hv => by simp [entCells] at hv; rcases hv with rfl | rfl | rfl | rfl | rfl <;> rfl) (fun x y : EntD => ordI x.1 x.2.1 y.1 y.2.1) less_swo 41 #[] g 0 c L.toArray w eg hcmp (holds_ents hO) hO.lt.2 (by rw [hsz]; omega)
  rw [hsz] at h
  have h' : Calls Try.prog 44 #[.slice (some ⟨g, 0, none⟩) n c, .func (.func 41) #[] #[]] w fun e w' => e = .returned (.tuple #[]) ∧ ∃ d' m os, PermIn 0 n L.toArray d' ∧ SortedIn (ltOf (fun x y : EntD => ordI x.1 x.2.1 y.1 y.2.1)) 0 n d' ∧ w' = sortWorldK entCells 5 w g 0 m d' os := h
  refine h'.mono ?_
  rintro e w' ⟨rfl, d', m, os, hp, hs, rfl⟩
  have hd : d'.size = n := hp.1.trans hsz
  have hperm : d'.toList.Perm L := by
    have := hp.2.2
    rw [← hd] at this
    have e1 : d'.extract 0 d'.size = d' := Array.extract_size
    have e2 : L.toArray.extract 0 d'.size = L.toArray := by rw [hd, ← hsz]; exact Array.extract_size
    rw [e1, e2] at this
    exact this
  have hH := holdsK_sortWorldK_c entCells 5 w g 0 L.toArray d' m os (holds_ents hO) hO.lt.2 hp.1
  refine ⟨rfl, d'.toList, ?_, hperm, ?_, grown_sorted d'⟩
  · unfold Weak
    rw [List.pairwise_iff_getElem]
    intro i j hi hj hij
    have hi' : i < d'.size := by simpa using hi
    have hj' : j < d'.size := by simpa using hj
    have := hs i j (Nat.zero_le _) hij (by omega)
    rw [ltOf_less] at this
    have e1 : d'[i]! = d'.toList[i] := by simp [hi']
    have e2 : d'[j]! = d'.toList[j] := by simp [hj']
    rw [e1, e2] at this
    exact this
  · exact ⟨by simpa using hd, hE.room, hE.big, fun l hl' => hO.ents l (hperm.mem_iff.1 hl'), (fun e => by cases e), (fun x e _ => by cases e; exact ⟨Nat.lt_of_lt_of_le hO.lt.2 (grown_sorted d').size, rfl⟩), (fun x e i hi => by cases e; exact ents_holds hH i hi)⟩
end Go.Proofs.Ytkdalacclafihaa
