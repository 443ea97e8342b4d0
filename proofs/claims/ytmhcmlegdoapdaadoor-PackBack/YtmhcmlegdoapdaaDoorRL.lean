/- Package pack: a field of a kind, read of any bytes (any). -/
import Derived.Test.YtmhcmlegdoapdaaDoorRKB
import Derived.Test.YtmhcmlegdoapdaaDoorRKC
import Derived.Test.YtmhcmlegdoapdaaDoorRKD
namespace Go.Proofs.YtmhcmlegdoapdaaDoor
open Go.RowKit

/-- A field of a kind that is one, of any bytes. -/
theorem field_any {sb : Nat} (k : Int) (h1 : 1 ≤ k) (h7 : k ≤ 7) (R : Nat) (l : List Int) (at' : Int) (fl : Value) (w : World) (h : Lft w R sb l at' fl) (hRk : Ranks w) (hRg : R ≠ 0) (hsb : sb < w.heap.size) :
    Calls Tryd.prog 56 #[.pointer (some ⟨R, 0, none⟩), .int .i64 k] w fun e w' => PostF w R sb l at' fl (pfield k l) e w' := by
  obtain rfl | rfl | rfl | rfl | rfl | rfl | rfl : k = 1 ∨ k = 2 ∨ k = 3 ∨ k = 4 ∨ k = 5 ∨ k = 6 ∨ k = 7 := by omega
  · exact field1_any R l at' fl w h hsb
  · exact field2_any R l at' fl w h hsb
  · exact field3_any R l at' fl w h hsb
  · exact field4_any R l at' fl w h hsb
  · exact field5_any R l at' fl w h hsb
  · exact field6_any R l at' fl w h hRk hRg hsb
  · exact field7_any R l at' fl w h hRk hRg hsb

end Go.Proofs.YtmhcmlegdoapdaaDoor
