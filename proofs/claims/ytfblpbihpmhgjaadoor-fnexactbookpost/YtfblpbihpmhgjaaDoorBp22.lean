/-
  Two contracts of the library's slices package at this program, laid by the kit's own command.
-/
import Derived.Ground.Names2Prog
import Derived.Shelf.Spec.SearchS
import Derived.Shelf.Spec.SlicesInsert
import Derived.Shelf.Spec.SlicesInsertGrow
import Derived.Test.YtfblpbihpmhgjaaDoorProg
namespace Go.Proofs.YtfblpbihpmhgjaaDoor
open Go.Shelf
def Tryd.lays26_ren : Go.Shelf.Ren := ⟨fun | 26 => 142 | 33 => 159 | 34 => 160 | 38 => 178 | n => n, fun | 24 => 73 | 9 => 9 | 3 => 3 | 4 => 4 | 40 => 207 | 0 => 0 | n => n, fun | n => n⟩
theorem Tryd.lays26 : Go.Proofs.Lays2.n26 Tryd.prog Tryd.lays26_ren := {
  mixed := by kernel_rfl
  f26 := Tryd.func142.trans (congrArg some (by kernel_rfl))
  f33 := Tryd.func159.trans (congrArg some (by kernel_rfl))
  f34 := Tryd.func160.trans (congrArg some (by kernel_rfl))
  f38 := Tryd.func178.trans (congrArg some (by kernel_rfl))
  t0 := Tryd.underlying0
  a0 := Tryd.isAgg0
  z0 := Tryd.sizeOf0
  v0 := Tryd.zeroValue0
  t3 := Tryd.underlying3
  a3 := Tryd.isAgg3
  z3 := Tryd.sizeOf3
  v3 := Tryd.zeroValue3
  t4 := Tryd.underlying4
  a4 := Tryd.isAgg4
  z4 := Tryd.sizeOf4
  v4 := Tryd.zeroValue4
  t9 := Tryd.underlying9
  a9 := Tryd.isAgg9
  z9 := Tryd.sizeOf9
  v9 := Tryd.zeroValue9
  t24 := Tryd.underlying73
  a24 := Tryd.isAgg73
  z24 := Tryd.sizeOf73
  v24 := Tryd.zeroValue73
  t40 := Tryd.underlying207
  a40 := Tryd.isAgg207
  z40 := Tryd.sizeOf207
  v40 := Tryd.zeroValue207 }
def Tryd.lays22_ren : Go.Shelf.Ren := ⟨fun | 22 => 143 | 29 => 161 | 30 => 162 | 36 => 179 | 17 => 186 | n => n, fun | 24 => 73 | 9 => 9 | 3 => 3 | 4 => 4 | 0 => 0 | n => n, fun | n => n⟩
theorem Tryd.lays22 : Go.Proofs.Lays2.n22 Tryd.prog Tryd.lays22_ren := {
  mixed := by kernel_rfl
  f17 := Tryd.func186.trans (congrArg some (by kernel_rfl))
  f22 := Tryd.func143.trans (congrArg some (by kernel_rfl))
  f29 := Tryd.func161.trans (congrArg some (by kernel_rfl))
  f30 := Tryd.func162.trans (congrArg some (by kernel_rfl))
  f36 := Tryd.func179.trans (congrArg some (by kernel_rfl))
  t0 := Tryd.underlying0
  a0 := Tryd.isAgg0
  z0 := Tryd.sizeOf0
  v0 := Tryd.zeroValue0
  t3 := Tryd.underlying3
  a3 := Tryd.isAgg3
  z3 := Tryd.sizeOf3
  v3 := Tryd.zeroValue3
  t4 := Tryd.underlying4
  a4 := Tryd.isAgg4
  z4 := Tryd.sizeOf4
  v4 := Tryd.zeroValue4
  t9 := Tryd.underlying9
  a9 := Tryd.isAgg9
  z9 := Tryd.sizeOf9
  v9 := Tryd.zeroValue9
  t24 := Tryd.underlying73
  a24 := Tryd.isAgg73
  z24 := Tryd.sizeOf73
  v24 := Tryd.zeroValue73
  i9 := by kernel_rfl }
end Go.Proofs.YtfblpbihpmhgjaaDoor
