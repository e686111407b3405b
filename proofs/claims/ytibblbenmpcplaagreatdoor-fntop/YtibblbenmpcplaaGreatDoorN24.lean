import Derived.Test.YtibblbenmpcplaaGreatDoorN00
import Derived.Conc.MuLone
import Derived.Deep.AppendLies
import Derived.Deep.CutBlock
import Derived.Deep.DeepCutAuto
import Derived.Deep.OwnRows
import Derived.Laws.CopyOwn
import Derived.Lib.SmallJoins
import Derived.LoopIn
import Derived.LoopNIn
import Derived.OrdersHeld
import Derived.OwnWalkIn
import Derived.RangeFuncBound
import Derived.RangeFuncNested
import Derived.Shelf.Bits.Mul64
import Derived.Shelf.RegionOpen
import Derived.Test.YtibblbenmpcplaaGreatDoorProg
import Derived.WalkLawsBesides
set_option linter.unusedVariables false
set_option linter.unusedSimpArgs false
set_option maxRecDepth 20000
set_option maxHeartbeats 8000000
namespace Go.Proofs.YtibblbenmpcplaaGreatDoor
section
open Go.RowKit Go.Shelf Go.Maps
theorem sD (z:Int) : -9223372036854775808<=wrap64 z:=by unfold wrap64;omega
end
end Go.Proofs.YtibblbenmpcplaaGreatDoor
