import Derived.Test.YtcefihmnnndleaaDoorScI
import Derived.Test.YtcefihmnnndleaaDoorScL
import Derived.Test.YtcefihmnnndleaaDoorScK
namespace Go.Proofs.YtcefihmnnndleaaDoor
theorem sp_op (v : Value) (q : List (List UInt8)) (B : Nat) (w : World) (hq : Ws B w v q) (hne : 0 < q.length) (hl : q.length ≤ 1048576) (hwl : ∀ x ∈ q, x.length ≤ 1048576) :
    Calls Tryd.prog 20 #[v] w fun e w' => ∃ r, e = .returned r ∧ OpR w w' (opM q) r ∧ RowKit.Below w.heap.size w w' := by
  cases h : hitM 6 q with
  | false => exact sp_opA v q B w hq hne hl hwl h
  | true => exact sp_opB v q B w hq hne hl hwl h
end Go.Proofs.YtcefihmnnndleaaDoor
