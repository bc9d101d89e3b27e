/-
  What is squashed of a right list is right: plain facts.
  Rows of entries as the library's sorts see them. No function of the program is walked here.
  Contracts of the library's slices package at this program, laid by the kit's own command.
  Contracts of the library's slices package at this program, laid by the kit's own command.
  The library's copy and its sort, at rows of entries: what they leave.
  What the program's RunOf answers at every list of entries, by a walk of its Go text.
-/
import Derived.Test.YtlmgojlffgkciaaGreatFz33
import Derived.Test.YtlmgojlffgkciaaGreatFz30
import Derived.Test.YtlmgojlffgkciaaGreatFz01
import Derived.Ground.SlsfProg
import Derived.Shelf.SlSortCmp.WholeK
import Derived.Test.YtlmgojlffgkciaaGreatProg
import Derived.Ground.SlgnProg
import Derived.Shelf.SlicesE.Clone
import Derived.Test.YtlmgojlffgkciaaGreatFz19
import Derived.Test.YtlmgojlffgkciaaGreatFz09
namespace Go.Proofs.YtlmgojlffgkciaaGreat
open Go.RowKit
/-! Keys and times of what is left. -/
def kq (e : EntD) : ByteArray × Int := (e.1, e.2.1)
theorem cl_sub (b : Bool) : ∀ c : List EntD, ((clS b c).map kq).Sublist (c.map kq)
  | [] => List.Sublist.refl _
  | e :: R => by
    show ((classG b e.1 e.2.1 (e :: R)).map kq).Sublist _
    unfold classG
    by_cases h1 : sumOkB (joinG true 0 (e :: R)).2.2 = true
    · rw [if_pos h1]
      by_cases h2 : b = true ∧ (joinG true 0 (e :: R)).1 = 2
      · rw [if_pos h2]; exact List.nil_sublist _
      · rw [if_neg h2]
        simp only [List.map_cons, List.map_nil, kq]
        exact List.Sublist.cons_cons _ (List.nil_sublist _)
    · rw [if_neg h1]; exact List.Sublist.refl _
theorem left_sub (bottom : Bool) : ∀ Cs : List (List EntD), ((Cs.foldr (Sq.stepD clS) (bottom, [])).2.map kq).Sublist (Cs.flatten.map kq)
  | [] => List.Sublist.refl _
  | c :: Cs => by
    have ih := left_sub bottom Cs
    rw [List.foldr_cons, List.flatten_cons, List.map_append]
    generalize Cs.foldr (Sq.stepD clS) (bottom, []) = st at ih ⊢
    show ((clS st.1 c ++ st.2).map kq).Sublist _
    rw [List.map_append]
    exact List.Sublist.append (cl_sub _ c) ih
theorem flat_sub (S : List Int) (bottom : Bool) : ∀ Gs : List (List EntD), ((Gs.flatMap (leftS S bottom)).map kq).Sublist (Gs.flatten.map kq)
  | [] => List.Sublist.refl _
  | G :: Gs => by
    have ih := flat_sub S bottom Gs
    have h := left_sub bottom (Sq.parts (cutB S) G)
    rw [Sq.parts_flat] at h
    rw [List.flatMap_cons, List.flatten_cons, List.map_append, List.map_append]
    exact List.Sublist.append h ih
theorem squash_pair {L : List EntD} (h : L.Pairwise (fun a b => lessB a.1 a.2.1 b.1 b.2.1 = true)) (S : List Int) (bottom : Bool) : (squashL L S bottom).Pairwise (fun a b => lessB a.1 a.2.1 b.1 b.2.1 = true) := by
  unfold squashL
  by_cases hr : rightB L = true
  · rw [if_pos hr]
    have hs := flat_sub S bottom (Sq.parts keyEq L)
    rw [Sq.parts_flat] at hs
    have h1 : (L.map kq).Pairwise (fun a b => lessB a.1 a.2 b.1 b.2 = true) := List.pairwise_map.2 h
    exact List.pairwise_map.1 (h1.sublist hs)
  · rw [if_neg hr]; exact List.Pairwise.nil
theorem right_all {L : List EntD} {n : Nat} (hl : L.length = n) (h1 : ∀ e ∈ L, entB e.1 e.2.1 e.2.2.1 e.2.2.2.1 e.2.2.2.2 = true) (h2 : ∀ j, 1 ≤ j → j < n → ∀ x y, L[j - 1]? = some x → L[j]? = some y → lessB x.1 x.2.1 y.1 y.2.1 = true) : rightB L = true := by
  refine right_of (k := n) (fun j hj => ?_) (by omega)
  have hjl : j < L.length := by omega
  have he := List.getElem?_eq_getElem hjl
  match j, hj, hjl, he with
  | 0, _, hjl, he => rw [okAt_zero he]; exact h1 _ (List.getElem_mem hjl)
  | j + 1, hj, hjl, he =>
    have hd := List.getElem?_eq_getElem (l := L) (i := j) (by omega)
    rw [okAt_succ he hd, h1 _ (List.getElem_mem hjl), h2 (j + 1) (by omega) hj _ _ (show L[j + 1 - 1]? = _ from hd) he]
    rfl
theorem right_squash {L : List EntD} (hr : rightB L = true) (S : List Int) (bottom : Bool) : rightB (squashL L S bottom) = true := by
  have hp := squash_pair (right_pair hr) S bottom
  refine right_all rfl (squash_ents (fun e he => by obtain ⟨j, hj⟩ := List.getElem?_of_mem he; exact right_ent hr hj) S bottom) (fun j h1 h2 x y hx hy => ?_)
  obtain ⟨hi, ei⟩ := List.getElem?_eq_some_iff.1 hx
  obtain ⟨hj, ej⟩ := List.getElem?_eq_some_iff.1 hy
  have := (List.pairwise_iff_getElem.1 hp) (j - 1) j hi hj (by omega)
  rw [ei, ej] at this
  exact this
end Go.Proofs.YtlmgojlffgkciaaGreat

namespace Go.Proofs.YtlmgojlffgkciaaGreat
open Go.RowKit Go.Sort
theorem five (i : Nat) (j : Nat) (hj : j < 5) : (i * 5 + j) / 5 = i ∧ (i * 5 + j) % 5 = j := by omega
theorem ent_five (x : EntD) : (entCells x)[0]! = .string x.1 ∧ (entCells x)[1]! = .int .i64 x.2.1 ∧ (entCells x)[2]! = .int .i64 x.2.2.1 ∧ (entCells x)[3]! = .string x.2.2.2.1 ∧ (entCells x)[4]! = .int .i64 x.2.2.2.2 := ⟨rfl, rfl, rfl, rfl, rfl⟩
theorem holds_ents {w : World} {base g n c : Nat} {L : List EntD} (hO : OwnE w base g n c L) : HoldsK entCells 5 w g 0 L.toArray := by
  intro t ht
  rw [size_flatK] at ht
  have hl := hO.len
  have hlt : t / 5 < L.length := by simp at ht; omega
  refine ⟨?_, by rw [Nat.zero_add]; exact hO.owns.frozenAt _⟩
  rw [get_flatK _ _ _ _ ht]
  obtain ⟨c0, c1, c2, c3, c4⟩ := hO.entsAt.cells _ rfl (t / 5) hlt
  have e : (L.toArray)[t / 5]! = L[t / 5] := by simp [hlt]
  rw [e]
  obtain ⟨z0, z1, z2, z3, z4⟩ := ent_five L[t / 5]
  have hm : t % 5 < 5 := Nat.mod_lt _ (by omega)
  have ht5 : t = t / 5 * 5 + t % 5 := by omega
  rcases (show t % 5 = 0 ∨ t % 5 = 1 ∨ t % 5 = 2 ∨ t % 5 = 3 ∨ t % 5 = 4 by omega) with h | h | h | h | h
  · rw [h, z0]; rw [show (0 : Nat) + t = 0 + t / 5 * 5 by omega]; exact c0
  · rw [h, z1]; rw [show (0 : Nat) + t = 0 + t / 5 * 5 + 1 by omega]; exact c1
  · rw [h, z2]; rw [show (0 : Nat) + t = 0 + t / 5 * 5 + 2 by omega]; exact c2
  · rw [h, z3]; rw [show (0 : Nat) + t = 0 + t / 5 * 5 + 3 by omega]; exact c3
  · rw [h, z4]; rw [show (0 : Nat) + t = 0 + t / 5 * 5 + 4 by omega]; exact c4
theorem ents_holds {w : World} {g : Nat} {D : Array EntD} (h : HoldsK entCells 5 w g 0 D) (i : Nat) (hi : i < D.toList.length) : EntCells w g (0 + i * 5) D.toList[i] := by
  have hi' : i < D.size := by simpa using hi
  have e : D[i]! = D.toList[i] := by simp [hi']
  have key : ∀ j, j < 5 → w.cell? ⟨g, 0 + i * 5 + j, none⟩ = some ((entCells D.toList[i])[j]!) := fun j hj => by
    have hlt : i * 5 + j < D.size * 5 := by omega
    have := (h (i * 5 + j) (by rw [size_flatK]; exact hlt)).1
    rw [get_flatK _ _ _ _ hlt, (five i j hj).1, (five i j hj).2, e] at this
    rw [Nat.add_assoc]
    exact this
  obtain ⟨z0, z1, z2, z3, z4⟩ := ent_five D.toList[i]
  exact ⟨by rw [← z0]; exact key 0 (by omega), by rw [← z1]; exact key 1 (by omega), by rw [← z2]; exact key 2 (by omega), by rw [← z3]; exact key 3 (by omega), by rw [← z4]; exact key 4 (by omega)⟩
theorem grown_sorted {w : World} {g n : Nat} {os : Array Obj} (d : Array EntD) : w.grownBy (sortWorldK entCells 5 w g 0 n d os) (some g) := by
  unfold sortWorldK putRowK
  refine ⟨rfl, rfl, rfl, by simp, fun k hk hne => ?_⟩
  rw [heap_grow_old _ _ (by simpa using hk)]
  have : g ≠ k := fun e => hne (by rw [e])
  simp [putRow, mapBlock, Sort.ahead, Array.getElem?_modify, this]
end Go.Proofs.YtlmgojlffgkciaaGreat

namespace Go.Proofs.YtlmgojlffgkciaaGreat
open Go.Shelf
def Tryz.sortL_ren : Go.Shelf.Ren := ⟨fun | 6 => 144 | 15 => 181 | 14 => 180 | 28 => 208 | 29 => 209 | 20 => 195 | 21 => 201 | 22 => 202 | 23 => 203 | 24 => 204 | 25 => 205 | 26 => 206 | 27 => 207 | 46 => 216 | 47 => 217 | 48 => 218 | 49 => 219 | 50 => 220 | 57 => 227 | n => n, fun | 22 => 28 | 24 => 78 | 25 => 159 | 3 => 3 | 39 => 197 | 0 => 0 | 53 => 235 | 55 => 237 | 4 => 4 | 46 => 229 | 45 => 228 | 50 => 198 | 5 => 5 | 9 => 9 | 66 => 241 | 70 => 245 | 76 => 249 | 77 => 106 | n => n, fun | n => n⟩
theorem Tryz.sortL : Go.Proofs.SlLaysF0.n6 Tryz.prog Tryz.sortL_ren := {
  mixed := by kernel_rfl
  f6 := ⟨Tryz.f144.name, by decide, Tryz.func144.trans (congrArg some (by kernel_rfl))⟩
  f14 := ⟨Tryz.f180.name, by decide, Tryz.func180.trans (congrArg some (by kernel_rfl))⟩
  f15 := Tryz.func181.trans (congrArg some (by kernel_rfl))
  f20 := ⟨Tryz.f195.name, by decide, Tryz.func195.trans (congrArg some (by kernel_rfl))⟩
  f21 := ⟨Tryz.f201.name, by decide, Tryz.func201.trans (congrArg some (by kernel_rfl))⟩
  f22 := ⟨Tryz.f202.name, by decide, Tryz.func202.trans (congrArg some (by kernel_rfl))⟩
  f23 := ⟨Tryz.f203.name, by decide, Tryz.func203.trans (congrArg some (by kernel_rfl))⟩
  f24 := ⟨Tryz.f204.name, by decide, Tryz.func204.trans (congrArg some (by kernel_rfl))⟩
  f25 := ⟨Tryz.f205.name, by decide, Tryz.func205.trans (congrArg some (by kernel_rfl))⟩
  f26 := ⟨Tryz.f206.name, by decide, Tryz.func206.trans (congrArg some (by kernel_rfl))⟩
  f27 := ⟨Tryz.f207.name, by decide, Tryz.func207.trans (congrArg some (by kernel_rfl))⟩
  f28 := Tryz.func208.trans (congrArg some (by kernel_rfl))
  f29 := Tryz.func209.trans (congrArg some (by kernel_rfl))
  f46 := ⟨Tryz.f216.name, by decide, Tryz.func216.trans (congrArg some (by kernel_rfl))⟩
  f47 := Tryz.func217.trans (congrArg some (by kernel_rfl))
  f48 := Tryz.func218.trans (congrArg some (by kernel_rfl))
  f49 := ⟨Tryz.f219.name, by decide, Tryz.func219.trans (congrArg some (by kernel_rfl))⟩
  f50 := ⟨Tryz.f220.name, by decide, Tryz.func220.trans (congrArg some (by kernel_rfl))⟩
  f57 := ⟨Tryz.f227.name, by decide, Tryz.func227.trans (congrArg some (by kernel_rfl))⟩
  t0 := Tryz.underlying0
  a0 := Tryz.isAgg0
  z0 := Tryz.sizeOf0
  v0 := Tryz.zeroValue0
  t3 := Tryz.underlying3
  a3 := Tryz.isAgg3
  z3 := Tryz.sizeOf3
  v3 := Tryz.zeroValue3
  t4 := Tryz.underlying4
  a4 := Tryz.isAgg4
  z4 := Tryz.sizeOf4
  v4 := Tryz.zeroValue4
  t5 := Tryz.underlying5
  a5 := Tryz.isAgg5
  z5 := Tryz.sizeOf5
  v5 := Tryz.zeroValue5
  t9 := Tryz.underlying9
  a9 := Tryz.isAgg9
  z9 := Tryz.sizeOf9
  v9 := Tryz.zeroValue9
  t22 := Tryz.underlying28
  a22 := Tryz.isAgg28
  z22 := Tryz.sizeOf28
  v22 := Tryz.zeroValue28
  t25 := Tryz.underlying159
  a25 := Tryz.isAgg159
  z25 := Tryz.sizeOf159
  v25 := Tryz.zeroValue159
  t39 := Tryz.underlying197
  a39 := Tryz.isAgg197
  z39 := Tryz.sizeOf197
  v39 := Tryz.zeroValue197
  t45 := Tryz.underlying228
  a45 := Tryz.isAgg228
  z45 := Tryz.sizeOf228
  v45 := Tryz.zeroValue228
  t46 := Tryz.underlying229
  a46 := Tryz.isAgg229
  z46 := Tryz.sizeOf229
  v46 := Tryz.zeroValue229
  t50 := Tryz.underlying198
  a50 := Tryz.isAgg198
  z50 := Tryz.sizeOf198
  v50 := Tryz.zeroValue198
  t53 := Tryz.underlying235
  a53 := Tryz.isAgg235
  z53 := Tryz.sizeOf235
  v53 := Tryz.zeroValue235
  t55 := Tryz.underlying237
  a55 := Tryz.isAgg237
  z55 := Tryz.sizeOf237
  v55 := Tryz.zeroValue237
  t66 := Tryz.underlying241
  a66 := Tryz.isAgg241
  z66 := Tryz.sizeOf241
  v66 := Tryz.zeroValue241
  t70 := Tryz.underlying245
  a70 := Tryz.isAgg245
  z70 := Tryz.sizeOf245
  v70 := Tryz.zeroValue245
  t76 := Tryz.underlying249
  a76 := Tryz.isAgg249
  z76 := Tryz.sizeOf249
  v76 := Tryz.zeroValue249
  t77 := Tryz.underlying106
  a77 := Tryz.isAgg106
  z77 := Tryz.sizeOf106
  v77 := Tryz.zeroValue106 }
end Go.Proofs.YtlmgojlffgkciaaGreat

namespace Go.Proofs.YtlmgojlffgkciaaGreat
open Go.Shelf
def Tryz.cloneL_ren : Go.Shelf.Ren := ⟨fun | 41 => 89 | n => n, fun | 22 => 28 | 23 => 78 | 4 => 4 | n => n, fun | n => n⟩
theorem Tryz.cloneL : Go.Proofs.SlLaysE0.n41 Tryz.prog Tryz.cloneL_ren := {
  mixed := by kernel_rfl
  f41 := ⟨Tryz.f89.name, by decide, Tryz.func89.trans (congrArg some (by kernel_rfl))⟩
  t4 := Tryz.underlying4
  a4 := Tryz.isAgg4
  z4 := Tryz.sizeOf4
  v4 := Tryz.zeroValue4
  t22 := Tryz.underlying28
  a22 := Tryz.isAgg28
  z22 := Tryz.sizeOf28
  v22 := Tryz.zeroValue28 }
end Go.Proofs.YtlmgojlffgkciaaGreat

namespace Go.Proofs.YtlmgojlffgkciaaGreat
set_option maxRecDepth 100000
open Go.RowKit Go.Sort
theorem sortRow (base g n c : Nat) (L : List EntD) (w : World) (hO : OwnE w base g n c L) (hn : n ≤ 1048576) :
    Calls Tryz.prog 144 #[.slice (some ⟨g, 0, none⟩) n c, .func (.func 145) #[] #[]] w fun e w' => e = .returned (.tuple #[]) ∧ ∃ D, Weak D ∧ D.Perm L ∧ EntsAt w' (some ⟨g, 0, none⟩) n c D ∧ w.grownBy w' (some g) := by
  have hE := hO.entsAt
  have hl := hO.len
  have hsz : L.toArray.size = n := by simp [hl]
  have eg : ∀ args w, (callFunc 145 args).run Tryz.prog w = .ok (.enter 145 args) w := enters_of Tryz.func145 (by kernel_rfl) rfl
  have hcmp : CmpLays Tryz.prog 145 #[] entCells 5 (fun x y : EntD => ordI x.1 x.2.1 y.1 y.2.1) g 0 L.toArray.size w := fun m os dk _ x y => implOrderX x.1 x.2.2.2.1 y.1 y.2.2.2.1 x.2.1 x.2.2.1 x.2.2.2.2 y.2.1 y.2.2.1 y.2.2.2.2 _
  have h := AnyQ.slices_SortFunc Tryz.sortL 5 Tryz.isAgg78 Tryz.sizeOf78 entCells (fun _ => rfl) (fun x v hv => by simp [entCells] at hv; rcases hv with rfl | rfl | rfl | rfl | rfl <;> rfl) (fun x y : EntD => ordI x.1 x.2.1 y.1 y.2.1) less_swo 145 #[] g 0 c L.toArray w eg hcmp (holds_ents hO) hO.lt.2 (by rw [hsz]; omega)
  rw [hsz] at h
  have h' : Calls Tryz.prog 144 #[.slice (some ⟨g, 0, none⟩) n c, .func (.func 145) #[] #[]] w fun e w' => e = .returned (.tuple #[]) ∧ ∃ d' m os, PermIn 0 n L.toArray d' ∧ SortedIn (ltOf (fun x y : EntD => ordI x.1 x.2.1 y.1 y.2.1)) 0 n d' ∧ w' = sortWorldK entCells 5 w g 0 m d' os := h
  refine h'.mono ?_
  rintro e w' ⟨rfl, d', m, os, hp, hs, rfl⟩
  have hd : d'.size = n := hp.1.trans hsz
  have hperm : d'.toList.Perm L := by
    have := hp.2.2
    rw [← hd] at this
    have e1 : d'.extract 0 d'.size = d' := Array.extract_size
    have e2 : L.toArray.extract 0 d'.size = L.toArray := by rw [hd, ← hsz]; exact Array.extract_size
    rw [e1, e2] at this
    exact this
  have hH := holdsK_sortWorldK_c entCells 5 w g 0 L.toArray d' m os (holds_ents hO) hO.lt.2 hp.1
  refine ⟨rfl, d'.toList, ?_, hperm, ?_, grown_sorted d'⟩
  · unfold Weak
    rw [List.pairwise_iff_getElem]
    intro i j hi hj hij
    have hi' : i < d'.size := by simpa using hi
    have hj' : j < d'.size := by simpa using hj
    have := hs i j (Nat.zero_le _) hij (by omega)
    rw [ltOf_less] at this
    have e1 : d'[i]! = d'.toList[i] := by simp [hi']
    have e2 : d'[j]! = d'.toList[j] := by simp [hj']
    rw [e1, e2] at this
    exact this
  · exact ⟨by simpa using hd, hE.room, hE.big, fun l hl' => hO.ents l (hperm.mem_iff.1 hl'), (fun e => by cases e), (fun x e _ => by cases e; exact ⟨Nat.lt_of_lt_of_le hO.lt.2 (grown_sorted d').size, rfl⟩), (fun x e i hi => by cases e; exact ents_holds hH i hi)⟩
end Go.Proofs.YtlmgojlffgkciaaGreat

namespace Go.Proofs.YtlmgojlffgkciaaGreat
open Go.RowKit
theorem cloneE_ex (a : Option Addr) (len cap : Nat) (L : List EntD) (w : World) (hL : EntsAt w a len cap L) (hbig : len ≤ 1048576) (hsm : ∀ e ∈ L, e.1.size ≤ 281474976710656 ∧ e.2.2.2.1.size ≤ 281474976710656) :
    Calls Tryz.prog 111 #[.slice a len cap] w fun e w' => ∃ Z, e = .returned (.slice (some ⟨Z, 0, none⟩) len len) ∧ w.heap.size ≤ Z ∧ OwnE w' w.heap.size Z len len L ∧ Below w.heap.size w w' := by
  refine (cloneE_any a len cap L w hL hbig hsm).mono ?_
  rintro e w' ⟨rfl, h1, _, h2⟩
  exact ⟨_, rfl, Nat.le_refl _, h1, h2⟩
theorem ent_sizes {k t : ByteArray} {q d n : Int} (h : entB k q d t n = true) : k.size ≤ 281474976710656 ∧ t.size ≤ 281474976710656 := by
  simp only [entB, keyB, Bool.and_eq_true, decide_eq_true_eq] at h
  omega
theorem right_small {L : List EntD} (h : rightB L = true) : ∀ e ∈ L, e.1.size ≤ 281474976710656 ∧ e.2.2.2.1.size ≤ 281474976710656 := fun e he => by
  obtain ⟨i, hi, rfl⟩ := List.getElem_of_mem he
  exact ent_sizes (right_ent h (List.getElem?_eq_getElem hi))
structure Of8 (w wi : World) (X Y : Nat) (m : Int) : Prop where
  all : Below w.heap.size w wi
  r0 : ∃ v, wi.cell? ⟨X, 0, none⟩ = some v
  r1 : ∃ v, wi.cell? ⟨X, 1, none⟩ = some v
  fr : ∀ o, wi.frozen? ⟨X, o, none⟩ = false
  y1 : wi.cell? ⟨Y, 1, none⟩ = some (.int .i64 m)
theorem Of8.ltX {w wi : World} {X Y : Nat} {m : Int} (h : Of8 w wi X Y m) : X < wi.heap.size := by
  obtain ⟨v, hv⟩ := h.r0
  exact World.block_lt_of_cell? _ _ hv
theorem Of8.call {w wi wj : World} {X Y : Nat} {m : Int} (h : Of8 w wi X Y m) (hb : Below wi.heap.size wi wj) : Of8 w wj X Y m :=
  ⟨h.all.trans (hb.mono h.all.size), by obtain ⟨v, hv⟩ := h.r0; exact ⟨v, cell_later hb hv⟩, by obtain ⟨v, hv⟩ := h.r1; exact ⟨v, cell_later hb hv⟩, fun o => (hb.frozen (p := ⟨X, o, none⟩) h.ltX).trans (h.fr o), cell_later hb h.y1⟩
theorem cell_some {w : World} {X o p : Nat} {v u : Value} (h : w.cell? ⟨X, p, none⟩ = some v) : ∃ z, (w.setCell ⟨X, o, none⟩ u).cell? ⟨X, p, none⟩ = some z := by
  by_cases hp : p = o
  · subst hp
    exact ⟨u, World.cell?_setCell_same' _ _ _ (by rw [h]; rfl)⟩
  · exact ⟨v, by rw [World.cell?_setCell_other _ _ _ _ (by intro e; cases e; exact hp rfl)]; exact h⟩
theorem Of8.store {w wi : World} {X Y : Nat} {m : Int} (h : Of8 w wi X Y m) (o : Nat) (u : Value) (hXY : X ≠ Y) (hX : w.heap.size ≤ X) : Of8 w (wi.setCell ⟨X, o, none⟩ u) X Y m :=
  ⟨h.all.setCell (p := ⟨X, o, none⟩) hX _, by obtain ⟨v, hv⟩ := h.r0; exact cell_some hv, by obtain ⟨v, hv⟩ := h.r1; exact cell_some hv, fun q => by rw [World.frozen?_setCell]; exact h.fr q, by rw [World.cell?_setCell_other _ _ _ _ (by intro e; cases e; exact hXY rfl)]; exact h.y1⟩
end Go.Proofs.YtlmgojlffgkciaaGreat
