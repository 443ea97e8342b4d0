/- Package key: Compare and Less; the document's Compare and Less. -/
import Derived.Test.YtmhcmlegdoapdaaDoorA
namespace Go.Proofs.YtmhcmlegdoapdaaDoor
open Go.RowKit





end Go.Proofs.YtmhcmlegdoapdaaDoor
