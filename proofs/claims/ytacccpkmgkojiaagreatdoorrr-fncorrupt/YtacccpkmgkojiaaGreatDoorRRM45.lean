import Derived.Below
import Derived.BigGuardIn
import Derived.BigQuiet
import Derived.BigRegion
import Derived.BigRegionIn
import Derived.Conc.MuLone
import Derived.Deep.AppendLies
import Derived.Deep.AppendSrc
import Derived.Deep.CutBlock
import Derived.Deep.DeepCutAuto
import Derived.Deep.LoopGhost
import Derived.Deep.MidRow
import Derived.Deep.OwnRows
import Derived.Deep.QuietTactic
import Derived.Deep.RegionHeld
import Derived.Deep.RegionLaw
import Derived.Deep.RegionWith
import Derived.Defers
import Derived.Ground.SlsfProg
import Derived.KernelRfl
import Derived.Laws.BytesString
import Derived.Laws.CopyOwn
import Derived.Laws.OwnMore
import Derived.Laws.Rows
import Derived.Laws.Tables
import Derived.Lib.SliceRun
import Derived.Lib.SmallJoins
import Derived.LoopIn
import Derived.LoopNIn
import Derived.Maps.AppendAt
import Derived.Maps.OwnOps
import Derived.Maps.OwnSet
import Derived.Maps.RangeWalk
import Derived.OpenShut
import Derived.OrdersHeld
import Derived.OwnWalkIn
import Derived.ProofKit
import Derived.RangeFuncBound
import Derived.RangeFuncCalls
import Derived.RangeFuncLeaves
import Derived.RangeFuncNested
import Derived.Recover
import Derived.Shelf.Abstract
import Derived.Shelf.Bits.Mul64
import Derived.Shelf.Lay
import Derived.Shelf.RegionOpen
import Derived.Shelf.SlGeneric
import Derived.Shelf.SlSortCmp.WholeK
import Derived.Shelf.Slices.In.SortNone
import Derived.Shelf.Sort.Plain
import Derived.Sort.AssemblyPlain
import Derived.Sort.KeysCollected
import Derived.Sort.OwnSortedInts
import Derived.Sort.Walk13a
import Derived.TacticsInMore
import Derived.Test.YtacccpkmgkojiaaGreatDoorRRProg
import Derived.WalkKit
import Derived.WalkLawsBesides
import Derived.Test.YtacccpkmgkojiaaGreatDoorRRM00
import Derived.Test.YtacccpkmgkojiaaGreatDoorRRM01
import Derived.Test.YtacccpkmgkojiaaGreatDoorRRM02
import Derived.Test.YtacccpkmgkojiaaGreatDoorRRM06
import Derived.Test.YtacccpkmgkojiaaGreatDoorRRM08
import Derived.Test.YtacccpkmgkojiaaGreatDoorRRM09
import Derived.Test.YtacccpkmgkojiaaGreatDoorRRM10
import Derived.Test.YtacccpkmgkojiaaGreatDoorRRM12
import Derived.Test.YtacccpkmgkojiaaGreatDoorRRM15
import Derived.Test.YtacccpkmgkojiaaGreatDoorRRM16
import Derived.Test.YtacccpkmgkojiaaGreatDoorRRM17
import Derived.Test.YtacccpkmgkojiaaGreatDoorRRM18
import Derived.Test.YtacccpkmgkojiaaGreatDoorRRM22
import Derived.Test.YtacccpkmgkojiaaGreatDoorRRM24
import Derived.Test.YtacccpkmgkojiaaGreatDoorRRM26
import Derived.Test.YtacccpkmgkojiaaGreatDoorRRM31
import Derived.Test.YtacccpkmgkojiaaGreatDoorRRM33
import Derived.Test.YtacccpkmgkojiaaGreatDoorRRM34
import Derived.Test.YtacccpkmgkojiaaGreatDoorRRM38
import Derived.Test.YtacccpkmgkojiaaGreatDoorRRM41
namespace Go.Proofs.YtacccpkmgkojiaaGreatDoorRR
set_option linter.unusedVariables false
set_option linter.unusedSimpArgs false
set_option maxRecDepth 20000
set_option maxHeartbeats 8000000
open Go.RowKit Go.Maps Go.Shelf
attribute [local go_sem] Oper.semAt_some
theorem vals_in (l X n0 m:Nat) (hm:1≤m) (va:Option Addr) (vc base:Nat) (zs:List Nat) (J Jx:List Nat→World→Prop) (W:World)
  (hY:∀ pre (x:Nat) W1,J pre W1→pre.length < zs.length→YieldAt Fence.wide (m - 1) Tryz.prog l #[Vu (x:Nat)] W1 fun e W' =>
   (e=.returned (.bool true)∧J (pre++[x]) W'∧Below n0 W1 W')∨(e=.returned (.bool false)∧Jx (pre++[x]) W'))
  (hX:W.cell? ⟨X,0,none⟩=some (.slice va zs.length vc)) (hr:W.ownsRow base 23 1 (.slice va zs.length vc) zs.length (Us zs)) (hrn:∀ g,(Value.slice va zs.length vc).ownBlock=some g→g < n0) (hl:zs.length≤1000) (h0:J [] W) :
  CallsIn Fence.wide m Tryz.prog 114 #[.func (.yield l) #[] #[],Vp X 0] W fun e W'=>(∃ v,e=.returned v) ∧
   ((∃ ys,ys=zs∧J ys W')∨(∃ pre,pre <+: zs∧Jx pre W')):=by
 obtain⟨n,hn⟩:∃ n,zs.length=n:=⟨_,rfl⟩;rw [hn] at hX hr hrn hl hY;have HY:=hid hY;have HR:=hid hr;have HN:=hid hrn;have HL:=hid hn;have H0:=hid h0;clear hY hr hrn hn h0;refine callsIn_of_wp Tryz.func114 rfl trivial ?_ rfl;simp only [Tryz.ntmps114,List.size_toArray,List.length_cons,List.length_nil,Nat.reduceAdd,Nat.reduceSub,Array.replicate_succ,Array.replicate_zero,List.push_toArray,List.append_toArray,List.nil_append,List.cons_append]
 gi_wp2
 gi_loopw [7] (fun i wr=>∃ k:Nat,k≤n∧i=Vi k∧Hid (J (zs.take k) wr)∧Hid (Below n0 W wr)) (fun i _=>n - (intOf i).toNat)
 case atStart=>exact ⟨0,Nat.zero_le _,rfl,H0,hid (Below.refl _ _)⟩
 case round =>
  clear hX;obtain⟨k,hk,rfl,HJ,HB⟩:=hrel
  by_cases hlt:k < n
  ·obtain⟨G,rfl⟩:=own_at HR.out (by omega);obtain⟨x,hx⟩:∃ x,zs[k]?=some x:=⟨_,List.getElem?_eq_getElem (by rw [HL.out];exact hlt)⟩;have ck:wr.cell? ⟨G,k,none⟩=some (Vu (x:Nat)):=(HB.out.cell (p:=⟨G,k,none⟩) (HN.out G rfl)).trans (own_cell HR.out k _ (Us_at hx));obtain⟨fn,tmps,assign,body,hy,hR⟩:=HY.out (zs.take k) x wr HJ.out (by rw [List.length_take];omega);have HF:=hid (show zs.take (k+1)=zs.take k++[x] by rw [List.take_add_one,hx];rfl);have HRd:=hid hR;clear hR hx HJ
   gi_wp2
   refine HRd.out.mono ?_;rintro e W3 (⟨rfl,hJ3,hk3⟩|⟨rfl,hJx3⟩)
   ·have J3:=hid (show J (zs.take (k+1)) W3 by rw [HF.out];exact hJ3);have B3:=hid (HB.out.trans hk3);clear hJ3 hk3 hy
    gi_wp2
    go_roundw
    case rel=>exact ⟨k+1,by omega,by go_num,J3,B3⟩
    case measure=>simp [intOf];omega
   have J3:=hid (show Jx (zs.take (k+1)) W3 by rw [HF.out];exact hJx3);clear hJx3 hy
   gi_wp2
   refine bodyPost_ret (results_none rfl _ _ _) rfl ?_;exact⟨⟨_,rfl⟩,.inr ⟨_,List.take_prefix _ _,J3.out⟩⟩
  obtain rfl:n=k:=by omega
  have HE:=hid (show zs.take n=zs by rw [←HL.out,List.take_length])
  gi_wp2
  go_end0
  exact⟨⟨_,rfl⟩,.inl ⟨zs,rfl,by rw [←HE.out];exact HJ.out⟩⟩
theorem im_appendSeq_in (X:Nat) (va:Option Addr) (vc base:Nat) (zs:List Nat) (w:World) (hX:w.heap[X]?=some (.cells #[.slice va zs.length vc] 35 (0,0))) (hr:w.ownsRow base 23 1 (.slice va zs.length vc) zs.length (Us zs)) (hl:zs.length≤1000) :
  CallsIn Fence.wide 5 Tryz.prog 151 #[Vn,.func (.func 114) #[] #[Vp X 0]] w fun e W'=>∃ v,e=.returned v∧W'.ownsRow w.heap.size 23 1 v zs.length (Us zs)∧Below w.heap.size w W':=by
 obtain⟨i0,hi,hz0,hz1,hz2⟩:=info_parts info22;have HX:=hid hX;have HR:=hid hr;have HN:=hid (show ∀ g,(Value.slice va zs.length vc).ownBlock=some g→g < w.heap.size from fun g hg=>by obtain ⟨_,c,hc⟩:=own_lt hr hg;exact lt_blk hc);clear hX hr;refine callsIn_of_wp_marks Tryz.func151 rfl trivial ?_ rfl;simp only [Tryz.ntmps151,List.size_toArray,List.length_cons,List.length_nil,Nat.reduceAdd,Nat.reduceSub,Array.replicate_succ,Array.replicate_zero,List.push_toArray,List.append_toArray,List.nil_append,List.cons_append]
 gi_wp2
 have bO:=Boxed.new w 35 (Vn);have hB0:Below w.heap.size w (w.alloc (.cells #[Vn] 35)):=(Below.refl _ w).alloc (Nat.le_refl _) _;refine wpIn_rangeFunc_ownG rfl (by omega) (gf:=114) (lb:=#[Vp X 0]) rfl trivial (enters_of Tryz.func114 (by kernel_rfl) rfl)
  (encs:=fun x:Nat=>#[Vu (x:Nat)]) (Kp:=Below w.heap.size) (S:=fun ys=>ys=zs) (Sp:=fun pre=>pre <+: zs) (N:=zs.length) (w0:=w.alloc (.cells #[Vn] 35))
  (fun l J Jx W hW hJ hJx hY h0=>vals_in l X w.heap.size 4 (by omega) va vc base zs J Jx W hY ((hW.cell (p:=⟨X,0,none⟩) (by have:=lt_blk HX.out;simp;omega)).trans (by rw [cell_of_row _ _ _ _ _ _ (below_at HX.out hB0)];rfl)) (own_bel (own_bel HR.out hB0) (hW)) HN.out hl h0)
  belowK_t (belowK_b (by simp)) (Below.refl _ _) (fun _=>rfl)
  (fun pre W=>(∃ v,Boxed W w.heap.size 35 v∧W.ownsRow w.heap.size 23 1 v pre.length (Us pre)∧True)∧Below w.heap.size w W)
  (fun _ _ _=>False)
  (OwnFrom.and (Own.from (holdsRow_own w.heap.size w.heap.size 35 23 1 (fun pre:List Nat=>pre.length) (fun pre=>Us pre) (fun pre v=>True)) _) (ownFrom_below (Nat.le_refl _) (by simp)))
  (fun _ _ _ _ _ hs _ _=>hs)
  ⟨⟨_,bO,World.ownsRow_nil _ _ _ _,trivial⟩,hB0⟩
  (fun x=>{ tmps:=#[Vn,.func (.func 114) #[] #[Vp X 0],Vp w.heap.size 0,undef,Vn,Vu (x:Nat),.func (.func 114) #[] #[Vp X 0],Vu (x:Nat),undef,undef,undef,undef,undef],defers:=[] }) ?assign ?body ?done ?stop
 case assign =>
  intro l x W K hK
  gi_wp2
  exact hK
 case body =>
  rintro l pre x W ⟨⟨v,hv,hrow,_⟩,hB⟩ hlt;have hc:=hv.cell;have hb9:=hB.size
  gi_wp2_with (gi_at_builtin;refine wpListIn_append_own _ rfl _ _ 35 rfl w.heap.size 23 i0 (Vu 0) 1 8 Tryz.underlying35 hi hz0 hz1 hz2 rfl (by decide) _ _ _ rfl (hrow.alloc _) ⟨W.heap.size,0,none⟩ 1 1 [Vu (x:Nat)] rfl rfl (cell_one_new _ _ _) (by simp [Value.oneCell']) (by unfold maxLen;omega) (by omega) (by simp;omega) ?_;intro v' w1 hown' hgrow _;obtain ⟨g',cap',rfl⟩:=ownsRow_succ hown';obtain ⟨hv1,hv2,hr2,hk2,hb2⟩:=hv.appended (by decide) hrow hB.size (Nat.le_refl _) hown' hgrow;have hc1:=hv1.cell;have hf1:=hv1.frozen)
  exact⟨hk2.from _,hb2,⟨_,hv2,by simpa [Us] using hr2,trivial⟩,hB.trans hb2⟩
 case done =>
  rintro D ys W hD rfl ⟨⟨v,hv,hrow,_⟩,hB⟩ hK;have hc:=hv.cell
  gi_wp2
  refine⟨by simp,.inl ⟨_,_,rfl,run_takeDeferred hK,?_⟩⟩;exact⟨_,results_tmp rfl _ _ _,v,rfl,ownsRow_putObj hrow _ hK rfl,hB.trans (belowK_b (w:=w) (Nat.le_refl _) W D _ _ (by simp at hD;omega) hK rfl rfl)⟩
 case stop =>
  rintro D c pre W _ _ h _;exact h.elim
end Go.Proofs.YtacccpkmgkojiaaGreatDoorRR
