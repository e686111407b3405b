import Derived.Test.YtcefihmnnndleaaDoorBase
import Derived.Shelf.Strings.Split
import Derived.Shelf.Strings.FieldsFuncAny
import Derived.Shelf.Strings.IndexAnyAll
import Derived.Shelf.Lay
namespace Go.Proofs
set_option maxRecDepth 100000
shelf_lay Lays.n146 Nm 146 at Tryd as Tryd.lays146
shelf_lay Lays.n229 Nm 229 at Tryd as Tryd.lays229
shelf_lay Lays.n153 Nm 153 at Tryd as Tryd.lays153
end Go.Proofs
