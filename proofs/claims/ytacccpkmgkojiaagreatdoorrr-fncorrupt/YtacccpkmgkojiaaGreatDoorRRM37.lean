import Derived.BigQuiet
import Derived.Deep.QuietTactic
import Derived.KernelRfl
import Derived.OpenShut
import Derived.ProofKit
import Derived.Shelf.Lay
import Derived.Shelf.Sort.Plain
import Derived.Test.YtacccpkmgkojiaaGreatDoorRRProg
import Derived.WalkKit
import Derived.WalkLawsBesides
namespace Go.Proofs
shelf_lay Lays.n189 Nm 189 at Tryz as Tryz.lays189
end Go.Proofs
