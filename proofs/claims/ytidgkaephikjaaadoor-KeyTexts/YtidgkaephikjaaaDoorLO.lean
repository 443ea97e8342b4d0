/- The library contracts of the kit, laid at the numbers of this program: plain text. -/
import Derived.Test.YtidgkaephikjaaaDoorRows
import Derived.Shelf.Lays
import Derived.Shelf.LaysM
namespace Go.Proofs.YtidgkaephikjaaaDoor
open Go.Shelf

def Tryd.l284_ren : Go.Shelf.Ren := ⟨fun | 284 => 79 | 129 => 69 | 317 => 93 | 318 => 94 | n => n, fun | 53 => 23 | 3 => 3 | 212 => 115 | 0 => 0 | 4 => 4 | 46 => 66 | 5 => 5 | 9 => 9 | n => n, fun | 17 => 1 | n => n⟩

theorem Tryd.l284 : Go.Proofs.LaysM.n284 Tryd.prog Tryd.l284_ren := {
  mixed := by kernel_rfl,
  f129 := Tryd.func69.trans (congrArg some (by kernel_rfl)),
  f284 := Tryd.func79.trans (congrArg some (by kernel_rfl)),
  f317 := Tryd.func93.trans (congrArg some (by kernel_rfl)),
  f318 := Tryd.func94.trans (congrArg some (by kernel_rfl)),
  t0 := Tryd.underlying0,
  a0 := Tryd.isAgg0,
  z0 := Tryd.sizeOf0,
  v0 := Tryd.zeroValue0,
  t3 := Tryd.underlying3,
  a3 := Tryd.isAgg3,
  z3 := Tryd.sizeOf3,
  v3 := Tryd.zeroValue3,
  t4 := Tryd.underlying4,
  a4 := Tryd.isAgg4,
  z4 := Tryd.sizeOf4,
  v4 := Tryd.zeroValue4,
  t5 := Tryd.underlying5,
  a5 := Tryd.isAgg5,
  z5 := Tryd.sizeOf5,
  v5 := Tryd.zeroValue5,
  t9 := Tryd.underlying9,
  a9 := Tryd.isAgg9,
  z9 := Tryd.sizeOf9,
  v9 := Tryd.zeroValue9,
  t46 := Tryd.underlying66,
  a46 := Tryd.isAgg66,
  z46 := Tryd.sizeOf66,
  v46 := Tryd.zeroValue66,
  t53 := Tryd.underlying23,
  a53 := Tryd.isAgg23,
  z53 := Tryd.sizeOf23,
  v53 := Tryd.zeroValue23,
  t212 := Tryd.underlying115,
  a212 := Tryd.isAgg115,
  z212 := Tryd.sizeOf115,
  v212 := Tryd.zeroValue115,
  g17 := by kernel_rfl,
  i0 := by kernel_rfl,
  i3 := by kernel_rfl,
  i4 := by kernel_rfl,
  i5 := by kernel_rfl,
  i9 := by kernel_rfl,
  i46 := by kernel_rfl,
  i53 := by kernel_rfl,
  i212 := by kernel_rfl,
  m17 := by kernel_rfl }

end Go.Proofs.YtidgkaephikjaaaDoor
