import Derived.Below
import Derived.BigGuardIn
import Derived.BigQuiet
import Derived.BigRegionIn
import Derived.Conc.MuLone
import Derived.Deep.AppendLies
import Derived.Deep.CutBlock
import Derived.Deep.DeepCutAuto
import Derived.Deep.LoopGhost
import Derived.Deep.MidRow
import Derived.Deep.OwnRows
import Derived.Deep.QuietTactic
import Derived.Deep.RegionHeld
import Derived.Deep.RegionLaw
import Derived.Deep.RegionWith
import Derived.KernelRfl
import Derived.Laws.BytesString
import Derived.Laws.CopyOwn
import Derived.Laws.OwnMore
import Derived.Laws.Rows
import Derived.Laws.Tables
import Derived.Lib.SmallJoins
import Derived.LoopIn
import Derived.LoopNIn
import Derived.Maps.OwnOps
import Derived.Maps.OwnSet
import Derived.OpenShut
import Derived.OrdersHeld
import Derived.OwnWalkIn
import Derived.ProofKit
import Derived.RangeFuncBound
import Derived.RangeFuncCalls
import Derived.RangeFuncLeaves
import Derived.RangeFuncNested
import Derived.Shelf.Abstract
import Derived.Shelf.Bits.Mul64
import Derived.Shelf.RegionOpen
import Derived.TacticsInMore
import Derived.Test.YtacccpkmgkojiaaGreatDoorRRProg
import Derived.WalkKit
import Derived.WalkLawsBesides
import Derived.Test.YtacccpkmgkojiaaGreatDoorRRM00
import Derived.Test.YtacccpkmgkojiaaGreatDoorRRM01
import Derived.Test.YtacccpkmgkojiaaGreatDoorRRM02
import Derived.Test.YtacccpkmgkojiaaGreatDoorRRM06
import Derived.Test.YtacccpkmgkojiaaGreatDoorRRM09
import Derived.Test.YtacccpkmgkojiaaGreatDoorRRM10
import Derived.Test.YtacccpkmgkojiaaGreatDoorRRM15
import Derived.Test.YtacccpkmgkojiaaGreatDoorRRM17
import Derived.Test.YtacccpkmgkojiaaGreatDoorRRM18
import Derived.Test.YtacccpkmgkojiaaGreatDoorRRM22
namespace Go.Proofs.YtacccpkmgkojiaaGreatDoorRR
set_option linter.unusedVariables false
set_option linter.unusedSimpArgs false
set_option maxRecDepth 20000
set_option maxHeartbeats 8000000
open Go.RowKit Go.Maps
theorem all_zero {l:List Int} (h:∀ j,j < l.length→l[j]?.getD 0≤0) (ho:okB l):l.all (· == 0)=true:=by
 rw [List.all_eq_true];intro x hx;obtain⟨j,hj⟩:=List.getElem?_of_mem hx;have hjl:=(List.getElem?_eq_some_iff.1 hj).1;have h1:=h j hjl;rw [hj] at h1;have h2:=ho x hx;simp at h1 ⊢;omega
theorem not_all_zero {l:List Int} {j:Nat} (hj:j < l.length) (h:0 < l[j]?.getD 0):l.all (· == 0)=false:=by
 cases e:l.all (· == 0) with
 | false=>rfl
 | true =>
  exfalso;rw [List.all_eq_true] at e;have hm:l[j]?.getD 0∈l:=by rw [List.getElem?_eq_getElem hj];exact List.getElem_mem _
  have:=e _ hm;rw [beq_iff_eq] at this;omega
theorem im_max (u:Value) (data:List Int) (W:World) (h:Bs W u data) (hb:okB data) (h0:0 < data.length) (hl:data.length≤100000) :
  Calls Tryz.prog 130 #[u] W fun e W'=>∃ M:Int,e=.returned (.int .u8 M)∧decide (0 < M) = !(data.all (· == 0))∧W'=W:=by
 obtain⟨a,cp,rfl,hc⟩:=h;obtain⟨g,rfl,hc0⟩:=hc 0 h0;have HC:=hid (show ∀ i,i < data.length→W.cell? ⟨g,i,none⟩=some (.int .u8 (data[i]?.getD 0)) from fun i hi=>by
  obtain⟨g',e1,e2⟩:=hc i hi
  cases e1
  exact e2)
 have HB:=hid hb;have HG:=hid (fun i=>hb.get i);have AZ:=hid (fun hh=>all_zero (l:=data) hh hb);have NZ:=hid (fun j hj hh=>not_all_zero (l:=data) (j:=j) hj hh);clear hc hb;obtain⟨n,hn⟩:∃ n,data.length=n:=⟨_,rfl⟩;rw [hn] at HC AZ NZ h0 hl ⊢;clear hn;have g0:=HG.out 0;generalize hx0:data[0]?.getD 0=x0 at *;have HX0:=hid hx0;clear hx0;have hlt0:¬((n:Int) < 1):=by omega
 go_enter Tryz.func130,Tryz.ntmps130;go_wp2;go_loopw [3,4] (fun m i wr=>∃ (k:Nat) (M:Int),k≤n∧1≤k∧i=Vi k∧m=.int .u8 M∧wr=W∧Hid (0≤M∧M≤255)∧Hid ((0 < M→∃ j,j < k∧0 < data[j]?.getD 0)∧(M≤0→∀ j,j < k→data[j]?.getD 0≤0))) (fun _ i _=>n - (intOf i).toNat)
 case atStart=>exact ⟨1,x0,by omega,Nat.le_refl _,rfl,rfl,rfl,hid g0,hid ⟨fun h=>⟨0,by omega,by rw [HX0.out];exact h⟩,fun h j hj=>by
  obtain rfl:j=0:=by omega
  rw [HX0.out];exact h⟩⟩
 case round =>
  obtain⟨k,M,hk,hk1,rfl,rfl,rfl,HM,HJ⟩:=hrel
  by_cases hlt:k < n
  ·have hck:=HC.out k hlt;have gk:=HG.out k;generalize hx:data[k]?.getD 0=x at *;have HX:=hid hx;clear hx
   by_cases hmx:M≤x
   ·have hmax:max M x=x:=by omega
    go_wp2;go_roundw
    case rel=>exact ⟨k+1,x,by omega,by omega,by go_num,by congr 1;split <;> omega,trivial,hid gk,hid ⟨fun hh=>⟨k,by omega,by rw [HX.out];exact hh⟩,fun hh j hj=>by
     rcases Nat.lt_succ_iff_lt_or_eq.1 hj with h1|h1
     ·exact HJ.out.2 (by omega) j h1
     subst h1;rw [HX.out];exact hh⟩⟩
    case measure=>simp [intOf];omega
   have hmax:max M x=M:=by omega
   go_wp2;go_roundw
   case rel=>exact ⟨k+1,M,by omega,by omega,by go_num,by congr 1;split <;> omega,trivial,HM,hid ⟨fun hh=>by
    obtain⟨j,hj,h2⟩:=HJ.out.1 hh;exact⟨j,by omega,h2⟩,fun hh j hj=>by
    rcases Nat.lt_succ_iff_lt_or_eq.1 hj with h1|h1
    ·exact HJ.out.2 hh j h1
    subst h1;rw [HX.out];omega⟩⟩
   case measure=>simp [intOf];omega
  obtain rfl:k=n:=by omega
  go_wp2;go_ret;refine⟨M,rfl,?_,rfl⟩
  by_cases hM:0 < M
  ·obtain⟨j,hj,hh⟩:=HJ.out.1 hM;rw [NZ.out j hj hh];simpa using hM
  rw [AZ.out (HJ.out.2 (by omega))];simpa using hM
end Go.Proofs.YtacccpkmgkojiaaGreatDoorRR
