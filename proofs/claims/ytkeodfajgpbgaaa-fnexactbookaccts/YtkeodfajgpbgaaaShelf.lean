/-
  Two contracts of the library's slices package at this program, laid by the kit's own command.
-/
import Derived.Ground.Names2Prog
import Derived.Shelf.Spec.SearchS
import Derived.Shelf.Spec.SlicesInsert
import Derived.Shelf.Spec.SlicesInsertGrow
import Derived.Test.YtkeodfajgpbgaaaProg
namespace Go.Proofs.Ytkeodfajgpbgaaa
open Go.Shelf
def Try.lays26_ren : Go.Shelf.Ren := ⟨fun | 26 => 212 | 33 => 243 | 34 => 244 | 38 => 262 | n => n, fun | 24 => 53 | 9 => 9 | 3 => 3 | 4 => 4 | 40 => 271 | 0 => 0 | n => n, fun | n => n⟩
theorem Try.lays26 : Go.Proofs.Lays2.n26 Try.prog Try.lays26_ren := {
  mixed := by kernel_rfl
  f26 := Try.func212.trans (congrArg some (by kernel_rfl))
  f33 := Try.func243.trans (congrArg some (by kernel_rfl))
  f34 := Try.func244.trans (congrArg some (by kernel_rfl))
  f38 := Try.func262.trans (congrArg some (by kernel_rfl))
  t0 := Try.underlying0
  a0 := Try.isAgg0
  z0 := Try.sizeOf0
  v0 := Try.zeroValue0
  t3 := Try.underlying3
  a3 := Try.isAgg3
  z3 := Try.sizeOf3
  v3 := Try.zeroValue3
  t4 := Try.underlying4
  a4 := Try.isAgg4
  z4 := Try.sizeOf4
  v4 := Try.zeroValue4
  t9 := Try.underlying9
  a9 := Try.isAgg9
  z9 := Try.sizeOf9
  v9 := Try.zeroValue9
  t24 := Try.underlying53
  a24 := Try.isAgg53
  z24 := Try.sizeOf53
  v24 := Try.zeroValue53
  t40 := Try.underlying271
  a40 := Try.isAgg271
  z40 := Try.sizeOf271
  v40 := Try.zeroValue271 }
def Try.lays22_ren : Go.Shelf.Ren := ⟨fun | 22 => 213 | 29 => 245 | 30 => 246 | 36 => 263 | 17 => 278 | n => n, fun | 24 => 53 | 9 => 9 | 3 => 3 | 4 => 4 | 0 => 0 | n => n, fun | n => n⟩
theorem Try.lays22 : Go.Proofs.Lays2.n22 Try.prog Try.lays22_ren := {
  mixed := by kernel_rfl
  f17 := Try.func278.trans (congrArg some (by kernel_rfl))
  f22 := Try.func213.trans (congrArg some (by kernel_rfl))
  f29 := Try.func245.trans (congrArg some (by kernel_rfl))
  f30 := Try.func246.trans (congrArg some (by kernel_rfl))
  f36 := Try.func263.trans (congrArg some (by kernel_rfl))
  t0 := Try.underlying0
  a0 := Try.isAgg0
  z0 := Try.sizeOf0
  v0 := Try.zeroValue0
  t3 := Try.underlying3
  a3 := Try.isAgg3
  z3 := Try.sizeOf3
  v3 := Try.zeroValue3
  t4 := Try.underlying4
  a4 := Try.isAgg4
  z4 := Try.sizeOf4
  v4 := Try.zeroValue4
  t9 := Try.underlying9
  a9 := Try.isAgg9
  z9 := Try.sizeOf9
  v9 := Try.zeroValue9
  t24 := Try.underlying53
  a24 := Try.isAgg53
  z24 := Try.sizeOf53
  v24 := Try.zeroValue53
  i9 := by kernel_rfl }
end Go.Proofs.Ytkeodfajgpbgaaa
