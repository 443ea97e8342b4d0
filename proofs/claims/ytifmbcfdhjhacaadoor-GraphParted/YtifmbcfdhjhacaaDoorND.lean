/- The document's Row. -/
import Derived.Test.YtifmbcfdhjhacaaDoorNB
namespace Go.Proofs.YtifmbcfdhjhacaaDoor
open Go.RowKit Go.Maps Go.ChangeMaps







end Go.Proofs.YtifmbcfdhjhacaaDoor
