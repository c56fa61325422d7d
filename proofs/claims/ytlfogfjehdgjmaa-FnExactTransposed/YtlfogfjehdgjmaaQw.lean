/- A region that draws its order and only reads, walked once, with what is left behind a letter: nothing can be laid open ahead of its time. -/
import Derived.Test.YtlfogfjehdgjmaaWw
import Derived.Deep.QuietTactic
namespace Go.Proofs.Ytlfogfjehdgjmaa
open Go.RowKit
end Go.Proofs.Ytlfogfjehdgjmaa
