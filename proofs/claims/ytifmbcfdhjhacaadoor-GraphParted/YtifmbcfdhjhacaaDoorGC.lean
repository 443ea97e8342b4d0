/- Package graph: beside. -/
import Derived.Test.YtifmbcfdhjhacaaDoorGB
namespace Go.Proofs.YtifmbcfdhjhacaaDoor
open Go.RowKit Go.Maps



end Go.Proofs.YtifmbcfdhjhacaaDoor
