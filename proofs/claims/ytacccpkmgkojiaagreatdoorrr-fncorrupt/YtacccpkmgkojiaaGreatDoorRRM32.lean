import Derived.Below
import Derived.BigGuardIn
import Derived.BigQuiet
import Derived.BigRegionIn
import Derived.Conc.MuLone
import Derived.Deep.AppendLies
import Derived.Deep.CutBlock
import Derived.Deep.DeepCutAuto
import Derived.Deep.LoopGhost
import Derived.Deep.MidRow
import Derived.Deep.OwnRows
import Derived.Deep.QuietTactic
import Derived.Deep.RegionHeld
import Derived.Deep.RegionLaw
import Derived.Deep.RegionWith
import Derived.Defers
import Derived.KernelRfl
import Derived.Laws.BytesString
import Derived.Laws.CopyOwn
import Derived.Laws.OwnMore
import Derived.Laws.Rows
import Derived.Laws.Tables
import Derived.Lib.SliceRun
import Derived.Lib.SmallJoins
import Derived.LoopIn
import Derived.LoopNIn
import Derived.Maps.OwnOps
import Derived.Maps.OwnSet
import Derived.Maps.RangeWalk
import Derived.OpenShut
import Derived.OrdersHeld
import Derived.OwnWalkIn
import Derived.ProofKit
import Derived.RangeFuncBound
import Derived.RangeFuncCalls
import Derived.RangeFuncLeaves
import Derived.RangeFuncNested
import Derived.Recover
import Derived.Shelf.Abstract
import Derived.Shelf.Bits.Mul64
import Derived.Shelf.RegionOpen
import Derived.TacticsInMore
import Derived.Test.YtacccpkmgkojiaaGreatDoorRRProg
import Derived.WalkKit
import Derived.WalkLawsBesides
import Derived.Test.YtacccpkmgkojiaaGreatDoorRRM00
import Derived.Test.YtacccpkmgkojiaaGreatDoorRRM01
import Derived.Test.YtacccpkmgkojiaaGreatDoorRRM02
import Derived.Test.YtacccpkmgkojiaaGreatDoorRRM06
import Derived.Test.YtacccpkmgkojiaaGreatDoorRRM08
import Derived.Test.YtacccpkmgkojiaaGreatDoorRRM09
import Derived.Test.YtacccpkmgkojiaaGreatDoorRRM10
import Derived.Test.YtacccpkmgkojiaaGreatDoorRRM12
import Derived.Test.YtacccpkmgkojiaaGreatDoorRRM15
import Derived.Test.YtacccpkmgkojiaaGreatDoorRRM17
import Derived.Test.YtacccpkmgkojiaaGreatDoorRRM18
import Derived.Test.YtacccpkmgkojiaaGreatDoorRRM22
import Derived.Test.YtacccpkmgkojiaaGreatDoorRRM24
import Derived.Test.YtacccpkmgkojiaaGreatDoorRRM26
import Derived.Test.YtacccpkmgkojiaaGreatDoorRRM27
namespace Go.Proofs.YtacccpkmgkojiaaGreatDoorRR
set_option linter.unusedVariables false
set_option linter.unusedSimpArgs false
set_option maxRecDepth 20000
set_option maxHeartbeats 8000000
open Go.RowKit Go.Maps
theorem eql_nil (w:World):(binOp .eql 20 .nilIface .nilIface).run Tryz.prog w=.ok (.bool true) w:=by kernel_rfl
theorem eql_ref (c:Int) (w:World):(binOp .eql 20 (.iface 112 (.agg #[Vi c])) .nilIface).run Tryz.prog w=.ok (.bool false) w:=by kernel_rfl
theorem ta_ref (c:Int) (w:World):(Instr.typeAssert (.iface 112 (.agg #[Vi c])) 20 112 true).run Tryz.prog w=.ok (.tuple #[.agg #[Vi c],.bool true]) w:=by kernel_rfl
theorem im_idle (X2 X4:Nat) (W:World) :
  CallsD Tryz.prog 61 #[Vp X2 0,Vp X4 0] .returning W fun e u' W'=>e=.returned (.tuple #[])∧u'=.returning∧W'=W:=by
 have e1:=eql_nil;refine callsD_of_wpS Tryz.func61 rfl fun c₀ cs hu=>?_
 apply wpS_seq;apply wpS_region;simp [wpOpsS,go_sem,recoverD,hu,Tryz.ntmps61,Exit.thenS];refine wpS_of_wp ?_;go_wp2
 cases c₀
 simp_all [bodyPostS,results,Tryz.results61]
def CaR (B:Nat) (y:Ly) (cf:Cf) (h:Hs) (an:Value) (X4:Nat) (code:Int) (W:World) (e:Ending) (u':FrameMode) (W':World):Prop:=e=.returned (.tuple #[])∧u'=.panicking [{ v:=.iface 112 (.agg #[Vi code]),recovered:=true }]∧∃ V V',Below W.heap.size W V∧Hg B y cf h an V'∧Bi B V V'∧W'=V'.setRow X4 #[Vi code,Vu 0,Vi 0,Vn]
theorem im_catch (B:Nat) (y:Ly) (cf:Cf) (h:Hs) (an:Value) (X2 X4:Nat) (code:Int) (W:World) (x2:W.cell? ⟨X2,0,none⟩=some (Vp y.P 0)) (x4:W.heap[X4]?=some (.cells #[Vi 0,Vu 0,Vi 0,Vn] 49 (0,0))) (tk:Tk B y cf h an W) :
  CallsD Tryz.prog 61 #[Vp X2 0,Vp X4 0] (.panicking (refV code)) W (CaR B y cf h an X4 code W):=by
 have e1:=eql_ref code;have e2:=ta_ref code;have b0:Below W.heap.size W (W.alloc (.cells #[Vi code] 112)):=(Below.refl _ _).alloc (Nat.le_refl _) _;have x2':=below_cell b0 x2;have TK:=hid (tk _ b0);have X4':=hid (below_at x4 b0);have B0:=hid b0;have cD:=al_last W (.cells #[Vi code] 112);clear tk x2 x4 b0;refine callsD_of_wpS Tryz.func61 rfl fun c₀ cs hu=>?_
 unfold refV at hu;apply wpS_seq;apply wpS_region;simp [wpOpsS,go_sem,recoverD,hu,Tryz.ntmps61,Exit.thenS];simp only [Array.replicate_succ,Array.replicate_zero,List.push_toArray,List.nil_append,List.cons_append,List.append_toArray,List.setIfInBounds_toArray,List.set_cons_zero,List.set_cons_succ];refine wpS_of_wp ?_;go_wp2_with fail;refine (TK.out).mono ?_;rintro e V ⟨rfl,hg,bi⟩;have X5:=hid (bi.ky.cells _ _ _ _ X4'.out (by unfold hI;decide));have c5:=one_of (bi.ky.cells _ _ _ _ cD (by unfold hI;decide));have HF:=hid (And.intro hg bi);clear hg bi TK x2' cD;go_wp2_with (refine wpList_store_row rfl 49 _ _ rfl _ _ rfl rfl 49 _ X5.out (by kernel_rfl) rfl (by simp [Value.oneCell']) ?_);refine⟨rfl,_,rfl,.tuple #[],by simp [results,Tryz.results61],rfl,rfl,_,V,B0.out,HF.out.1,HF.out.2,rfl⟩
end Go.Proofs.YtacccpkmgkojiaaGreatDoorRR
