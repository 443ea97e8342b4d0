/- Package key: Compare and Less; the document's Compare and Less. -/
import Derived.Test.YtjjjpainmldfnaaDoorA
namespace Go.Proofs.YtjjjpainmldfnaaDoor
open Go.RowKit





end Go.Proofs.YtjjjpainmldfnaaDoor
