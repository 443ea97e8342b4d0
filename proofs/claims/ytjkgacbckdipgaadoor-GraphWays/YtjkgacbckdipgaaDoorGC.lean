/- Package graph: beside. -/
import Derived.Test.YtjkgacbckdipgaaDoorGB
namespace Go.Proofs.YtjkgacbckdipgaaDoor
open Go.RowKit Go.Maps



end Go.Proofs.YtjkgacbckdipgaaDoor
