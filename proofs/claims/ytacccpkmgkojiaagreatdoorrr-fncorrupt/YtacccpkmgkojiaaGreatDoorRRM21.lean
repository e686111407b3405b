import Derived.Below
import Derived.BigGuardIn
import Derived.BigQuiet
import Derived.BigRegionIn
import Derived.Conc.MuLone
import Derived.Deep.AppendLies
import Derived.Deep.CutBlock
import Derived.Deep.DeepCutAuto
import Derived.Deep.LoopGhost
import Derived.Deep.MidRow
import Derived.Deep.OwnRows
import Derived.Deep.QuietTactic
import Derived.Deep.RegionHeld
import Derived.Deep.RegionLaw
import Derived.Deep.RegionWith
import Derived.KernelRfl
import Derived.Laws.CopyOwn
import Derived.Laws.OwnMore
import Derived.Laws.Rows
import Derived.Laws.Tables
import Derived.Lib.SmallJoins
import Derived.LoopIn
import Derived.LoopNIn
import Derived.Maps.OwnOps
import Derived.Maps.OwnSet
import Derived.OpenShut
import Derived.OrdersHeld
import Derived.OwnWalkIn
import Derived.ProofKit
import Derived.RangeFuncBound
import Derived.RangeFuncCalls
import Derived.RangeFuncLeaves
import Derived.RangeFuncNested
import Derived.Shelf.Abstract
import Derived.Shelf.Bits.Mul64
import Derived.Shelf.RegionOpen
import Derived.TacticsInMore
import Derived.Test.YtacccpkmgkojiaaGreatDoorRRProg
import Derived.WalkKit
import Derived.WalkLawsBesides
import Derived.Test.YtacccpkmgkojiaaGreatDoorRRM00
import Derived.Test.YtacccpkmgkojiaaGreatDoorRRM01
import Derived.Test.YtacccpkmgkojiaaGreatDoorRRM02
import Derived.Test.YtacccpkmgkojiaaGreatDoorRRM06
import Derived.Test.YtacccpkmgkojiaaGreatDoorRRM09
import Derived.Test.YtacccpkmgkojiaaGreatDoorRRM10
import Derived.Test.YtacccpkmgkojiaaGreatDoorRRM15
import Derived.Test.YtacccpkmgkojiaaGreatDoorRRM16
import Derived.Test.YtacccpkmgkojiaaGreatDoorRRM17
import Derived.Test.YtacccpkmgkojiaaGreatDoorRRM18
namespace Go.Proofs.YtacccpkmgkojiaaGreatDoorRR
set_option linter.unusedVariables false
set_option linter.unusedSimpArgs false
set_option maxRecDepth 20000
set_option maxHeartbeats 8000000
open Go.RowKit Go.Maps
theorem us_cells {W:World} {B:Nat} {va:Option Addr} {vn vc:Nat} {l:List Nat} (h:W.ownsRow B 23 1 (.slice va vn vc) l.length (Us l)):vn=l.length∧∀ i,i < l.length→∃ g,va=some ⟨g,0,none⟩∧W.cell? ⟨g,i,none⟩=some (Vu ((l[i]?.getD 0:Nat):Int)):=by
 have hv:vn=l.length:=by
  obtain⟨a,c,e⟩:=own_sl2 h;injection e with _ e2 _
 subst hv;refine⟨rfl,fun i hi=>?_⟩;obtain⟨g,hg⟩:=own_at h (by omega);subst hg;refine⟨g,rfl,own_cell h i _ ?_⟩;simp [Us,hi]
theorem im_index (B:Nat) (va:Option Addr) (vn vc p:Nat) (l:List Nat) (W:World) (h:W.ownsRow B 23 1 (.slice va vn vc) l.length (Us l)) (hl:l.length≤100000) :
  Calls Tryz.prog 143 #[.slice va vn vc,Vu (p:Nat)] W fun e W'=>(∃ i:Int,e=.returned (Vi i)∧(decide (0≤i)=l.contains p))∧W'=W:=by
 obtain⟨rfl,hc⟩:=us_cells h;have HC:=hid hc;clear hc h;obtain⟨n,hn⟩:∃ n,l.length=n:=⟨_,rfl⟩;rw [hn] at hl ⊢;have HN:=hid hn;clear hn;go_enter Tryz.func143,Tryz.ntmps143;go_wp2;go_loopw [8] (fun i wr=>∃ k:Nat,k≤n∧i=Vi k∧wr=W∧Hid (∀ j,j < k→l[j]?.getD 0≠p)) (fun i _=>n - (intOf i).toNat)
 case atStart=>exact ⟨0,Nat.zero_le _,rfl,rfl,hid (fun j hj=>by omega)⟩
 case round =>
  obtain⟨k,hk,rfl,rfl,HJ⟩:=hrel
  by_cases hlt:k < n
  ·obtain⟨g,rfl,hcell⟩:=HC.out k (by rw [HN.out];exact hlt);have HM:=hid (show l[k]?.getD 0∈l by rw [List.getElem?_eq_getElem (by rw [HN.out];exact hlt)];exact List.getElem_mem _);generalize hq:l[k]?.getD 0=q at *;have HQ:=hid hq;clear hq
   by_cases he:p=q
   ·subst he;go_wp2;go_ret;refine⟨⟨_,rfl,?_⟩,rfl⟩;rw [List.contains_iff_mem.2 HM.out];simp
   have he':((p:Int)==(q:Int))=false:=by simp;omega
   go_wp2;go_roundw
   case rel=>exact ⟨k+1,by omega,by go_num,trivial,hid (fun j hj=>by
    rcases Nat.lt_succ_iff_lt_or_eq.1 hj with h1|h1
    ·exact HJ.out j h1
    subst h1;rw [HQ.out];exact fun e=>he e.symm)⟩
   case measure=>simp [intOf];omega
  obtain rfl:k=n:=by omega
  go_wp2;go_ret;refine⟨⟨-1,rfl,?_⟩,rfl⟩;have:l.contains p=false:=by
   cases hc:l.contains p with
   | false=>rfl
   | true =>
    exfalso;have hm:=List.contains_iff_mem.1 hc;obtain⟨j,hj⟩:=List.getElem?_of_mem hm;have hjl:=(List.getElem?_eq_some_iff.1 hj).1;exact HJ.out j (by rw [←HN.out];exact hjl) (by rw [hj];rfl)
  rw [this];rfl
theorem im_contains (B:Nat) (va:Option Addr) (vn vc p:Nat) (l:List Nat) (W:World) (h:W.ownsRow B 23 1 (.slice va vn vc) l.length (Us l)) (hl:l.length≤100000) :
  Calls Tryz.prog 101 #[.slice va vn vc,Vu (p:Nat)] W fun e W'=>e=.returned (.bool (l.contains p))∧W'=W:=by
 have C:=hid (im_index B va vn vc p l W h hl);clear h;go_enter Tryz.func101,Tryz.ntmps101;go_wp2_with fail;refine (C.out).mono ?_;rintro e W2 ⟨⟨i,rfl,hi⟩,rfl⟩;have HI:=hid hi;clear hi C;go_wp2;go_ret;rw [←HI.out];exact⟨rfl,rfl⟩
end Go.Proofs.YtacccpkmgkojiaaGreatDoorRR
