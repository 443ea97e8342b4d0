/- The library contracts of the kit, laid at the numbers of this program: plain text. -/
import Derived.Test.YtidgkaephikjaaaDoorRows
import Derived.Shelf.Lays
namespace Go.Proofs.YtidgkaephikjaaaDoor
open Go.Shelf

def Tryd.l283_ren : Go.Shelf.Ren := ⟨fun | 283 => 78 | n => n, fun | 3 => 3 | 9 => 9 | 4 => 4 | n => n, fun | n => n⟩

theorem Tryd.l283 : Go.Proofs.Lays.n283 Tryd.prog Tryd.l283_ren := {
  mixed := by kernel_rfl,
  f283 := Tryd.func78.trans (congrArg some (by kernel_rfl)),
  t3 := Tryd.underlying3,
  a3 := Tryd.isAgg3,
  z3 := Tryd.sizeOf3,
  v3 := Tryd.zeroValue3,
  t4 := Tryd.underlying4,
  a4 := Tryd.isAgg4,
  z4 := Tryd.sizeOf4,
  v4 := Tryd.zeroValue4,
  t9 := Tryd.underlying9,
  a9 := Tryd.isAgg9,
  z9 := Tryd.sizeOf9,
  v9 := Tryd.zeroValue9 }

def Tryd.l285_ren : Go.Shelf.Ren := ⟨fun | 285 => 80 | n => n, fun | 37 => 41 | 53 => 23 | 3 => 3 | 4 => 4 | 51 => 87 | 9 => 9 | 5 => 5 | 0 => 0 | n => n, fun | n => n⟩

theorem Tryd.l285 : Go.Proofs.Lays.n285 Tryd.prog Tryd.l285_ren := {
  mixed := by kernel_rfl,
  f285 := Tryd.func80.trans (congrArg some (by kernel_rfl)),
  t0 := Tryd.underlying0,
  a0 := Tryd.isAgg0,
  z0 := Tryd.sizeOf0,
  v0 := Tryd.zeroValue0,
  t3 := Tryd.underlying3,
  a3 := Tryd.isAgg3,
  z3 := Tryd.sizeOf3,
  v3 := Tryd.zeroValue3,
  t4 := Tryd.underlying4,
  a4 := Tryd.isAgg4,
  z4 := Tryd.sizeOf4,
  v4 := Tryd.zeroValue4,
  t5 := Tryd.underlying5,
  a5 := Tryd.isAgg5,
  z5 := Tryd.sizeOf5,
  v5 := Tryd.zeroValue5,
  t9 := Tryd.underlying9,
  a9 := Tryd.isAgg9,
  z9 := Tryd.sizeOf9,
  v9 := Tryd.zeroValue9,
  t37 := Tryd.underlying41,
  a37 := Tryd.isAgg41,
  z37 := Tryd.sizeOf41,
  v37 := Tryd.zeroValue41,
  t51 := Tryd.underlying87,
  a51 := Tryd.isAgg87,
  z51 := Tryd.sizeOf87,
  v51 := Tryd.zeroValue87,
  t53 := Tryd.underlying23,
  a53 := Tryd.isAgg23,
  z53 := Tryd.sizeOf23,
  v53 := Tryd.zeroValue23 }

end Go.Proofs.YtidgkaephikjaaaDoor
