/- Package key: Compare and Less; the document's Compare and Less. -/
import Derived.Test.YtcjkgeanofggdaaDoorA
namespace Go.Proofs.YtcjkgeanofggdaaDoor
open Go.RowKit





end Go.Proofs.YtcjkgeanofggdaaDoor
