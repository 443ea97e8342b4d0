/- Package graph: beside. -/
import Derived.Test.YtdhmdmlbhphdcaaDoorGB
namespace Go.Proofs.YtdhmdmlbhphdcaaDoor
open Go.RowKit Go.Maps



end Go.Proofs.YtdhmdmlbhphdcaaDoor
