import Derived.Below
import Derived.BigGuardIn
import Derived.BigQuiet
import Derived.BigRegionIn
import Derived.Conc.MuLone
import Derived.Deep.AppendLies
import Derived.Deep.CutBlock
import Derived.Deep.DeepCutAuto
import Derived.Deep.LoopGhost
import Derived.Deep.MidRow
import Derived.Deep.OwnRows
import Derived.Deep.QuietTactic
import Derived.Deep.RegionHeld
import Derived.Deep.RegionLaw
import Derived.Deep.RegionWith
import Derived.KernelRfl
import Derived.Laws.BytesString
import Derived.Laws.CopyOwn
import Derived.Laws.OwnMore
import Derived.Laws.Rows
import Derived.Laws.Tables
import Derived.Lib.SliceRun
import Derived.Lib.SmallJoins
import Derived.LoopIn
import Derived.LoopNIn
import Derived.Maps.OwnOps
import Derived.Maps.OwnSet
import Derived.Maps.RangeWalk
import Derived.OpenShut
import Derived.OrdersHeld
import Derived.OwnWalkIn
import Derived.ProofKit
import Derived.RangeFuncBound
import Derived.RangeFuncCalls
import Derived.RangeFuncLeaves
import Derived.RangeFuncNested
import Derived.Shelf.Abstract
import Derived.Shelf.Bits.Mul64
import Derived.Shelf.RegionOpen
import Derived.TacticsInMore
import Derived.Test.YtacccpkmgkojiaaGreatDoorRRProg
import Derived.WalkKit
import Derived.WalkLawsBesides
import Derived.Test.YtacccpkmgkojiaaGreatDoorRRM00
import Derived.Test.YtacccpkmgkojiaaGreatDoorRRM01
import Derived.Test.YtacccpkmgkojiaaGreatDoorRRM02
import Derived.Test.YtacccpkmgkojiaaGreatDoorRRM06
import Derived.Test.YtacccpkmgkojiaaGreatDoorRRM08
import Derived.Test.YtacccpkmgkojiaaGreatDoorRRM09
import Derived.Test.YtacccpkmgkojiaaGreatDoorRRM10
import Derived.Test.YtacccpkmgkojiaaGreatDoorRRM14
import Derived.Test.YtacccpkmgkojiaaGreatDoorRRM15
import Derived.Test.YtacccpkmgkojiaaGreatDoorRRM17
import Derived.Test.YtacccpkmgkojiaaGreatDoorRRM18
import Derived.Test.YtacccpkmgkojiaaGreatDoorRRM22
import Derived.Test.YtacccpkmgkojiaaGreatDoorRRM24
import Derived.Test.YtacccpkmgkojiaaGreatDoorRRM26
namespace Go.Proofs.YtacccpkmgkojiaaGreatDoorRR
set_option linter.unusedVariables false
set_option linter.unusedSimpArgs false
set_option maxRecDepth 20000
set_option maxHeartbeats 8000000
open Go.RowKit Go.Maps
theorem ta_l2 (g:Nat) (w:World):(Instr.typeAssert (.iface 175 (Vp g 0)) 115 175 true).run Tryz.prog w=.ok (.tuple #[Vp g 0,.bool true]) w:=by kernel_rfl
theorem co_fit {a c:Nat} (hc:c < 12):(co (a:Int)==(c:Int))=decide (a≤1016∧coN a=c):=by
 by_cases h:a≤1016
 ·obtain⟨h1,_⟩:=co_c h;rw [h1]
  by_cases h2:coN a=c
  ·simp [h,h2]
  have:((coN a:Int)==(c:Int))=false:=by simp;omega
  rw [this];simp [h2]
 rw [show co (a:Int) = -1 from coFrom_big _ (by omega) 12 0];have:((-1:Int)==(c:Int))=false:=by simp
 rw [this];simp [h]
theorem im_fits_s (g b c s j a:Nat) (W:World) (h:Sc g b c s j W) :
  Calls Tryz.prog 93 #[.iface 164 (Vp g 0),Vu (a:Nat)] W fun e W'=>e=.returned (.bool (decide (a≤1016∧coN a=c)))∧Below W.heap.size W W':=by
 have CO:=hid (fun V (hV:Below W.heap.size W V)=>im_ClassOf (a:Nat) (by omega) V (h.below hV).tb);have CF:=hid (co_fit (a:=a) h.hc);have ta:=fun w=>ta_s g w
 obtain⟨c2,_,d0,_,_,_,_,_⟩:=h;generalize hb9:decide (a≤1016∧coN a=c)=bb at *;clear hb9;generalize co (a:Int)=x at *;go_enter Tryz.func93,Tryz.ntmps93;go_upto_region 4 with fail
 refine wp_region_held (S:=fun W9=>W9.cell? ⟨g,2,none⟩=some (Vp b 0)∧W9.cell? ⟨b,0,none⟩=some (Vi (c:Nat))) (by kernel_rfl) ?_;simp only [List.size_toArray,List.length_cons,List.length_nil,Nat.reduceAdd,Array.replicate_succ,Array.replicate_zero,List.push_toArray,List.nil_append,List.cons_append];have hS:=(⟨c2,d0⟩:W.drew.cell? ⟨g,2,none⟩=some (Vp b 0)∧W.drew.cell? ⟨b,0,none⟩=some (Vi (c:Nat)));refine py hS ?_;simp only [f0,f1,Nat.reduceAdd,lz,l0,ls];refine pk 2 13 (Vp g 0) hS ?_;simp only [lz,l0,ls];refine pk 3 14 (Vp g 0) hS ?_;simp only [lz,l0,ls];refine pk 4 15 (Vp g 2) hS ?_;simp only [lz,l0,ls];refine pz 5 16 (Vp b 0) hS ?_;simp only [lz,l0,ls];refine pk 6 17 (Vp b 0) hS ?_;simp only [lz,l0,ls];refine pk 7 18 (Vp b 0) hS ?_;simp only [lz,l0,ls];refine pz 8 19 (Vi (c:Nat)) hS ?_;simp only [lz,l0,ls];refine po 1 fun K' hK=>?_
 go_simp;refine (CO.out _ (Below.refl _ _).drew).mono ?_;rintro e U1 ⟨rfl,rfl⟩;refine hK.out _ _ ⟨hS,?_⟩;clear hK K'
 iterate 2 (refine py hS ?_;simp only [f0,f1,Nat.reduceAdd,lz,l0,ls])
 refine wpAnyH_done (by kernel_rfl) ?_ _;rw [CF.out];clear hS c2 d0 CO CF;go_wp2;go_ret;exact⟨rfl,(Below.refl _ _).drew⟩
theorem im_fits_l (g a:Nat) (r:Rg9) (W:World) (h:Lc g r W) (ha:a < 18446744073709551616) :
  Calls Tryz.prog 93 #[.iface 175 (Vp g 0),Vu (a:Nat)] W fun e W'=>e=.returned (.bool (decide (1016 < a∧pagesN a=r.pages)))∧Below W.heap.size W W':=by
 have PF:=hid (fun V=>im_pagesFor a V ha);have ta:=fun w=>ta_l g w
 have ta2:=fun w=>ta_l2 g w
 have c4:=h.c4;clear h
 by_cases hs:1016 < a
 ·have HB:=hid (show decide (1016 < a∧pagesN a=r.pages)=(((pagesN a:Nat):Int)==((r.pages:Nat):Int)) by
   by_cases e:pagesN a=r.pages
   ·simp [hs,e]
   have:(((pagesN a:Nat):Int)==((r.pages:Nat):Int))=false:=by simp;omega
   rw [this];simp [e])
  have hsi:decide ((1016:Int) < (a:Int))=true:=by simp;omega
  generalize decide (1016 < a∧pagesN a=r.pages)=bb at *;generalize pagesN a=pp at *;generalize r.pages=rp at *;go_enter Tryz.func93,Tryz.ntmps93;go_upto_region 7 with fail
  refine wp_region_held (S:=fun W9=>W9.cell? ⟨g,4,none⟩=some (Vi (rp:Nat))) (by kernel_rfl) ?_;simp only [List.size_toArray,List.length_cons,List.length_nil,Nat.reduceAdd,Array.replicate_succ,Array.replicate_zero,List.push_toArray,List.nil_append,List.cons_append];have hS:=(c4:W.drew.cell? ⟨g,4,none⟩=some (Vi (rp:Nat)));refine pk 0 24 (Vu (a:Nat)) hS ?_;simp only [lz,l0,ls];refine pz 1 25 (.bool true) hS ?_;simp only [lz,l0,ls];refine pk 2 26 (.bool true) hS ?_;simp only [lz,l0,ls];refine pk 3 27 (Vu (a:Nat)) hS ?_;simp only [lz,l0,ls];refine pk 5 29 (Vp g 0) hS ?_;simp only [lz,l0,ls];refine pk 6 30 (Vp g 0) hS ?_;simp only [lz,l0,ls];refine pk 7 31 (Vp g 4) hS ?_;simp only [lz,l0,ls];refine pz 8 32 (Vi (rp:Nat)) hS ?_;simp only [lz,l0,ls];refine po 4 fun K' hK=>?_
  go_simp;refine (PF.out _).mono ?_;rintro e U1 ⟨rfl,rfl⟩;refine hK.out _ _ ⟨hS,?_⟩;clear hK K';refine pk 9 33 (.bool ((pp:Int)==(rp:Int))) hS ?_;simp only [lz,l0,ls];refine pk 10 34 (.bool ((pp:Int)==(rp:Int))) hS ?_;simp only [lz,l0,ls];refine pk 11 4 (.bool ((pp:Int)==(rp:Int))) hS ?_;simp only [lz,l0,ls];refine wpAnyH_done (by kernel_rfl) ?_ _;rw [←HB.out];clear hS c4 PF HB;go_wp2;go_ret;exact⟨rfl,(Below.refl _ _).drew⟩
 have HB:=hid (show decide (1016 < a∧pagesN a=r.pages)=false by simp [hs]);rw [HB.out];have hsi:decide ((1016:Int) < (a:Int))=false:=by simp;omega
 clear HB;generalize r.pages=rp at *;go_enter Tryz.func93,Tryz.ntmps93;go_upto_region 7 with fail
 refine wp_region_held (S:=fun W9=>W9.cell? ⟨g,4,none⟩=some (Vi (rp:Nat))) (by kernel_rfl) ?_;simp only [List.size_toArray,List.length_cons,List.length_nil,Nat.reduceAdd,Array.replicate_succ,Array.replicate_zero,List.push_toArray,List.nil_append,List.cons_append];have hS:=(c4:W.drew.cell? ⟨g,4,none⟩=some (Vi (rp:Nat)));refine pk 0 24 (Vu (a:Nat)) hS ?_;simp only [lz,l0,ls];refine pz 1 25 (.bool false) hS ?_;simp only [lz,l0,ls];refine pk 2 26 (.bool false) hS ?_;simp only [lz,l0,ls];refine ps 3 27 hS ?_;simp only [lz,l0,ls];refine ps 4 28 hS ?_;simp only [lz,l0,ls];refine ps 5 29 hS ?_;simp only [lz,l0,ls];refine ps 6 30 hS ?_;simp only [lz,l0,ls];refine ps 7 31 hS ?_;simp only [lz,l0,ls];refine ps 8 32 hS ?_;simp only [lz,l0,ls];refine ps 9 33 hS ?_;simp only [lz,l0,ls];refine pk 10 34 (.bool false) hS ?_;simp only [lz,l0,ls];refine pk 11 4 (.bool false) hS ?_;simp only [lz,l0,ls];refine wpAnyH_done (by kernel_rfl) ?_ _;clear hS c4 PF;go_wp2;go_ret;exact⟨rfl,(Below.refl _ _).drew⟩
end Go.Proofs.YtacccpkmgkojiaaGreatDoorRR
