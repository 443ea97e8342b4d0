/- The document's members. -/
import Derived.Test.YtifmbcfdhjhacaaDoorNA
import Derived.Test.YtifmbcfdhjhacaaDoorNS
namespace Go.Proofs.YtifmbcfdhjhacaaDoor
open Go.RowKit Go.Maps Go.ChangeMaps



end Go.Proofs.YtifmbcfdhjhacaaDoor
