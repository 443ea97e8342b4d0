/- SeekRises: both cases. -/
import Derived.Test.YtfopidhleijljaaDoorSX
namespace Go.Proofs.YtfopidhleijljaaDoor
open Go.RowKit Go.Maps Go.ChangeMaps

set_option maxHeartbeats 4000000 in
set_option maxRecDepth 100000 in
theorem rises_all (h : Int) (s : Rf) (tr tn : Int) (va0 : Value) (l : List An) (hl : ∀ a ∈ l, AOk a) (hb0 : 0 ≤ s.bt) (hi0 : (Lit.int .i64 s.id).wf = true) (w : World) (hR : Ranks w) (hO : AnSl w va0 l) : Calls Tryd.prog 3 #[.agg (cfL h s tr tn).toArray, va0] w fun e w' => e = .returned (.bool true) ∧ Below w.heap.size w w' := by
  cases hm : mayC h s tr tn with
  | false => exact rises_bad h s tr tn va0 hb0 hm w hR
  | true => exact rises_good h s tr tn va0 l hl hb0 hi0 hm w hR hO

end Go.Proofs.YtfopidhleijljaaDoor
