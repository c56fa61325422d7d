/- The walk of the count of a word's bits. -/
import Derived.Test.YtinilehbhdpdkaaLenH
namespace Go.Proofs.Ytinilehbhdpdkaa
open Go.RowKit
end Go.Proofs.Ytinilehbhdpdkaa
