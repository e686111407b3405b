import Derived.Test.YtamfbplchblkbaaBase
import Derived.Shelf.Sort.Plain
import Derived.Shelf.Lay
namespace Go.Proofs
shelf_lay Lays.n189 Nm 189 at Try as Try.lays189
end Go.Proofs
#print axioms Go.Proofs.Try.lays189
