/- The library contracts of the kit, laid at the numbers of this program: plain text. -/
import Derived.Test.YtmhcmlegdoapdaaDoorRows
import Derived.Shelf.Lays
namespace Go.Proofs.YtmhcmlegdoapdaaDoor
open Go.Shelf

def Tryd.l129_ren : Go.Shelf.Ren := ⟨fun | 129 => 64 | n => n, fun | 53 => 24 | 3 => 3 | 4 => 4 | 46 => 102 | 5 => 5 | 9 => 9 | n => n, fun | n => n⟩

theorem Tryd.l129 : Go.Proofs.Lays.n129 Tryd.prog Tryd.l129_ren := {
  mixed := by kernel_rfl,
  f129 := Tryd.func64.trans (congrArg some (by kernel_rfl)),
  t3 := Tryd.underlying3,
  a3 := Tryd.isAgg3,
  z3 := Tryd.sizeOf3,
  v3 := Tryd.zeroValue3,
  t4 := Tryd.underlying4,
  a4 := Tryd.isAgg4,
  z4 := Tryd.sizeOf4,
  v4 := Tryd.zeroValue4,
  t5 := Tryd.underlying5,
  a5 := Tryd.isAgg5,
  z5 := Tryd.sizeOf5,
  v5 := Tryd.zeroValue5,
  t9 := Tryd.underlying9,
  a9 := Tryd.isAgg9,
  z9 := Tryd.sizeOf9,
  v9 := Tryd.zeroValue9,
  t46 := Tryd.underlying102,
  a46 := Tryd.isAgg102,
  z46 := Tryd.sizeOf102,
  v46 := Tryd.zeroValue102,
  t53 := Tryd.underlying24,
  a53 := Tryd.isAgg24,
  z53 := Tryd.sizeOf24,
  v53 := Tryd.zeroValue24 }

end Go.Proofs.YtmhcmlegdoapdaaDoor
