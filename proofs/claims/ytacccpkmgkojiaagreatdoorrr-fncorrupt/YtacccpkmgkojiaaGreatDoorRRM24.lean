import Derived.Below
import Derived.BigGuardIn
import Derived.BigQuiet
import Derived.BigRegionIn
import Derived.Conc.MuLone
import Derived.Deep.AppendLies
import Derived.Deep.CutBlock
import Derived.Deep.DeepCutAuto
import Derived.Deep.LoopGhost
import Derived.Deep.MidRow
import Derived.Deep.OwnRows
import Derived.Deep.QuietTactic
import Derived.Deep.RegionHeld
import Derived.Deep.RegionLaw
import Derived.Deep.RegionWith
import Derived.KernelRfl
import Derived.Laws.BytesString
import Derived.Laws.CopyOwn
import Derived.Laws.OwnMore
import Derived.Laws.Rows
import Derived.Laws.Tables
import Derived.Lib.SmallJoins
import Derived.LoopIn
import Derived.LoopNIn
import Derived.Maps.OwnOps
import Derived.Maps.OwnSet
import Derived.OpenShut
import Derived.OrdersHeld
import Derived.OwnWalkIn
import Derived.ProofKit
import Derived.RangeFuncBound
import Derived.RangeFuncCalls
import Derived.RangeFuncLeaves
import Derived.RangeFuncNested
import Derived.Shelf.Abstract
import Derived.Shelf.Bits.Mul64
import Derived.Shelf.RegionOpen
import Derived.TacticsInMore
import Derived.Test.YtacccpkmgkojiaaGreatDoorRRProg
import Derived.WalkKit
import Derived.WalkLawsBesides
import Derived.Test.YtacccpkmgkojiaaGreatDoorRRM00
import Derived.Test.YtacccpkmgkojiaaGreatDoorRRM01
import Derived.Test.YtacccpkmgkojiaaGreatDoorRRM02
import Derived.Test.YtacccpkmgkojiaaGreatDoorRRM04
import Derived.Test.YtacccpkmgkojiaaGreatDoorRRM05
import Derived.Test.YtacccpkmgkojiaaGreatDoorRRM06
import Derived.Test.YtacccpkmgkojiaaGreatDoorRRM07
import Derived.Test.YtacccpkmgkojiaaGreatDoorRRM08
import Derived.Test.YtacccpkmgkojiaaGreatDoorRRM09
import Derived.Test.YtacccpkmgkojiaaGreatDoorRRM10
import Derived.Test.YtacccpkmgkojiaaGreatDoorRRM14
import Derived.Test.YtacccpkmgkojiaaGreatDoorRRM15
import Derived.Test.YtacccpkmgkojiaaGreatDoorRRM16
import Derived.Test.YtacccpkmgkojiaaGreatDoorRRM17
import Derived.Test.YtacccpkmgkojiaaGreatDoorRRM18
import Derived.Test.YtacccpkmgkojiaaGreatDoorRRM19
import Derived.Test.YtacccpkmgkojiaaGreatDoorRRM22
import Derived.Test.YtacccpkmgkojiaaGreatDoorRRM23
namespace Go.Proofs.YtacccpkmgkojiaaGreatDoorRR
set_option linter.unusedVariables false
set_option linter.unusedSimpArgs false
set_option maxRecDepth 20000
set_option maxHeartbeats 8000000
open Go.RowKit Go.Maps
def updB (f:Nat→Nat→Bool) (c s:Nat) (v:Bool):Nat→Nat→Bool:=fun c' s'=>if c'=c∧s'=s then v else f c' s'
theorem Hp.setOn {B:Nat} {y:Ly} {d:Dy} {cf:Cf} {h:Hs} {W:World} (hp:Hp B y d cf h W) {c s:Nat} (hc:c < 12) (hs:s < 6) (v:Bool):Hp B y { d with on:=updB d.on c s v } cf h (W.setCell ⟨y.sb c s,2,none⟩ (.bool v))∧Bi B W (W.setCell ⟨y.sb c s,2,none⟩ (.bool v)):=by
 have hb:=hp.sl c s hc hs;have g:=grown_set (grown_refl W (y.sb c s)) 2 (.bool v);have k:Ky (· = 163) W (W.setCell ⟨y.sb c s,2,none⟩ (.bool v)):=Ky.grown hb rfl g;have bl:Below B W (W.setCell ⟨y.sb c s,2,none⟩ (.bool v)):=(Below.refl B W).grown g hp.bW (fun r hr=>by simp at hr;have:=hp.ap.bsb c s hc hs;omega);have hM:(W.setCell ⟨y.sb c s,2,none⟩ (.bool v)).heap[y.M]?=W.heap[y.M]?:=Below.heap_setCell _ _ _ _ (fun e=>by
  obtain⟨D,⟨es,c2,h2,_⟩,_⟩:=hp.sp.map;rw [e,hb] at h2;cases h2)
 have hR:(W.setCell ⟨y.sb c s,2,none⟩ (.bool v)).heap[y.R]?=W.heap[y.R]?:=Below.heap_setCell _ _ _ _ (fun e=>by
  obtain⟨es,c2,h2⟩:=hp.mp.typ;rw [e,hb] at h2;cases h2)
 refine⟨⟨hp.ap,Nat.le_trans hp.bW bl.size,hp.box.ky k (by decide),hp.ds.belowB bl hp.ap.da,hp.sp.ky k (by decide) hM,hp.pg.ky k (by decide),hp.bf,
 fun c' s' hc' hs'=>?_,fun c s hc hs=>row_ky (hp.rw c s hc hs) k (by decide),fun c s j hc hs hj=>k.cells _ _ _ _ (hp.sm c s j hc hs hj) (by decide),
 fun c hc=>(hp.wt c hc).ky k (by decide) (by decide) (by decide),hp.mp.same hR,hp.lo,fun r hr=>by obtain ⟨g,h1,h2,h3⟩:=hp.lb r hr;exact⟨g,h1,h2,k.cells _ _ _ _ h3 (by decide)⟩,hp.li,hp.ro.ky k (by decide),own_ky hp.rl k (by decide),hp.rr,hp.tb.belowB bl hp.ap.b0⟩,Bi.ofGrown hb (.inr (.inr (.inr (.inl rfl)))) (hp.ap.bsb c s hc hs) hp.bW g⟩
 by_cases e:c'=c∧s'=s
 ·obtain⟨rfl,rfl⟩:=e;show (W.setCell ⟨y.sb c' s',2,none⟩ (.bool v)).heap[y.sb c' s']?=some (.cells (sbC c' s' (updB d.on c' s' v c' s') _ _ _) 163 (0,0));have:updB d.on c' s' v c' s'=v:=by unfold updB;rw [if_pos ⟨rfl,rfl⟩]
  rw [this];have h2:=hp.sl c' s' hc' hs';simp [World.setCell,Array.getElem?_modify,h2,sbC]
 show (W.setCell ⟨y.sb c s,2,none⟩ (.bool v)).heap[y.sb c' s']?=some (.cells (sbC c' s' (updB d.on c s v c' s') _ _ _) 163 (0,0));have:updB d.on c s v c' s'=d.on c' s':=by unfold updB;rw [if_neg e]
 rw [this,Below.heap_setCell _ _ _ _ (fun e2=>e (by have:=hp.ap.isb c' s' c s hc' hs' hc hs e2;exact this))];exact hp.sl c' s' hc' hs'
def Kl (lg:Nat→Option Nat) (d:Dy):Prop:=∀ b g,lg b=some g→d.lg b=some g
theorem Kl.trans {lg:Nat→Option Nat} {d d':Dy} (h:Kl lg d) (k:Kl d.lg d'):Kl lg d':=fun b g e=>k b g (h b g e)
theorem Kl.refl (d:Dy):Kl d.lg d:=fun _ _ e=>e
def Hgl (B:Nat) (y:Ly) (cf:Cf) (h:Hs) (an:Value) (lg:Nat→Option Nat) (W:World):Prop:=∃ d,Hp B y d cf h W∧Gd d h an∧Kl lg d
inductive RmR (B:Nat) (y:Ly) (cf:Cf) (h:Hs) (an:Value) (lg:Nat→Option Nat) (c:Nat):Option (Nat×Hs)→Ending→World→Prop
 | yes (s:Nat) (h1:Hs) (W':World) (hg:Hgl B y cf h1 an lg W'):RmR B y cf h an lg c (some (s,h1)) (.returned (Vp (y.sb c s) 0)) W'
 | no (W':World) (tk:Tk B y cf h an W'):RmR B y cf h an lg c none (.panicked (refV 1)) W'
def slab6 (y:Ly) (c:Nat):List Value:=[Vp (y.sb c 0) 0,Vp (y.sb c 1) 0,Vp (y.sb c 2) 0,Vp (y.sb c 3) 0,Vp (y.sb c 4) 0,Vp (y.sb c 5) 0]
theorem Hp.range6 {B:Nat} {y:Ly} {d:Dy} {cf:Cf} {h:Hs} {W:World} (hp:Hp B y d cf h W) {c:Nat} (hc:c < 12):W.rangeAt y.P (7+c*6) (slab6 y c):=by
 intro j v hv;have hj:j < 6:=by have:=(List.getElem?_eq_some_iff.1 hv).1;simpa [slab6] using this
 have:=hp.slabAt c j hc hj;rw [this,←hv]
 rcases (show j=0∨j=1∨j=2∨j=3∨j=4∨j=5 by omega) with rfl|rfl|rfl|rfl|rfl|rfl <;> rfl
theorem slab6_get (y:Ly) (c k:Nat) (hk:k < 6):(slab6 y c)[k]?=some (Vp (y.sb c k) 0):=by
 rcases (show k=0∨k=1∨k=2∨k=3∨k=4∨k=5 by omega) with rfl|rfl|rfl|rfl|rfl|rfl <;> rfl
theorem pickS_some {h:Hs} {c k:Nat} (hk:k < 6) (h1:(onS h c k && !(freeS h c k).isEmpty)=true) (hl:∀ s,s < k→(onS h c s && !(freeS h c s).isEmpty)=false):pickS h c=some k:=by
 unfold pickS;rw [List.find?_eq_some_iff_append];refine⟨h1,List.range k,(List.range (6 - k - 1)).map (fun i=>k+1+i),?_,fun a ha=>?_⟩
 ·rcases (show k=0∨k=1∨k=2∨k=3∨k=4∨k=5 by omega) with rfl|rfl|rfl|rfl|rfl|rfl <;> rfl
 rw [hl a (by simpa using ha)];rfl
theorem pickS_none {h:Hs} {c:Nat} (hl:∀ s,s < 6→(onS h c s && !(freeS h c s).isEmpty)=false):pickS h c=none:=by
 unfold pickS;rw [List.find?_eq_none];intro a ha;rw [hl a (by simpa using ha)];simp
theorem offS_some {h:Hs} {c k:Nat} (hk:k < 6) (h1:onS h c k=false) (hl:∀ s,s < k→onS h c s=true):offS h c=some k:=by
 unfold offS;rw [List.find?_eq_some_iff_append];refine⟨by rw [h1];rfl,List.range k,(List.range (6 - k - 1)).map (fun i=>k+1+i),?_,fun a ha=>?_⟩
 ·rcases (show k=0∨k=1∨k=2∨k=3∨k=4∨k=5 by omega) with rfl|rfl|rfl|rfl|rfl|rfl <;> rfl
 rw [hl a (by simpa using ha)];rfl
theorem offS_none {h:Hs} {c:Nat} (hl:∀ s,s < 6→onS h c s=true):offS h c=none:=by
 unfold offS;rw [List.find?_eq_none];intro a ha;rw [hl a (by simpa using ha)];simp
theorem im_undoS (X b:Nat) (v0:Value) (W:World) (hX:W.cell? ⟨X,0,none⟩=some (Vp b 0)) (hc:W.cell? ⟨b,2,none⟩=some v0) (hf:W.frozen? ⟨b,2,none⟩=false) :
  Calls Tryz.prog 166 #[Vp X 0] W fun e W'=>e=.returned (.tuple #[])∧W'=W.setCell ⟨b,2,none⟩ (.bool false):=by
 go_enter Tryz.func166,Tryz.ntmps166;go_wp2
 go_end0
 exact⟨rfl,rfl⟩
theorem im_takeBackS (B:Nat) (y:Ly) (d:Dy) (cf:Cf) (h:Hs) (X c s:Nat) (W:World) (hp:Hp B y d cf h W) (hc:c < 12) (hs:s < 6) (hX:W.cell? ⟨X,0,none⟩=some (Vp (y.sb c s) 0)) (hu:d.un=.func (.func 166) #[] #[Vp X 0]) :
  Calls Tryz.prog 62 #[Vp y.P 0] W fun e W'=>e=.returned (.tuple #[])∧Hp B y { d with on:=updB d.on c s false,un:=.nilFunc } cf h W'∧Bi B W W':=by
 have bc:=hp.bc c s hc hs;have fz:W.frozen? ⟨y.sb c s,2,none⟩=false:=by simp [World.frozen?,hp.sl c s hc hs]
 have US:=hid (im_undoS X (y.sb c s) _ W hX bc.d2 fz);obtain⟨h1,b1⟩:=hp.setOn hc hs false;have c120:=hp.cell 120 (by omega) _ rfl;have e120:boxF cf y d h.used 120=d.un:=rfl;rw [e120,hu] at c120;have c1:=h1.cell 120 (by omega) (.func (.func 166) #[] #[Vp X 0]) (by show d.un=_;exact hu);have f1:=h1.box.free 120;have st1:=storeNil _ _ y.P 120 c1 f1;have H2:=hid (h1.setDy 120 .nilFunc { d with on:=updB d.on c s false,un:=.nilFunc } (.inr ⟨rfl,rfl⟩));have B2:=hid (b1.trans (h1.bi118 120 .nilFunc));have nq:=fun w=>neq_func (.func 166) #[] #[Vp X 0] w
 clear h1 b1 hp bc fz hX c1 f1;go_enter Tryz.func62,Tryz.ntmps62;go_wp2_with fail;refine (US.out).mono ?_;rintro e W2 ⟨rfl,rfl⟩;clear US;go_wp2
 go_end0
 exact⟨rfl,H2.out,B2.out⟩
end Go.Proofs.YtacccpkmgkojiaaGreatDoorRR
namespace Go.Proofs.YtacccpkmgkojiaaGreatDoorRR
set_option linter.unusedVariables false
set_option linter.unusedSimpArgs false
set_option maxRecDepth 20000
set_option maxHeartbeats 8000000
open Go.RowKit Go.Maps
theorem not67:¬hI 80:=by unfold hI;decide
def SwR (B:Nat) (y:Ly) (cf:Cf) (h:Hs) (an:Value) (lg:Nat→Option Nat) (c:Nat) (W:World) (e:Ending) (W':World):Prop:=RmR B y cf h an lg c (roomS cf h c) e W'∧Bi B W W'
theorem im_swr (B:Nat) (y:Ly) (d:Dy) (cf:Cf) (h:Hs) (an:Value) (c:Nat) (W:World) (hp:Hp B y d cf h W) (gd:Gd d h an) (i:Inv cf h) (hc:c < 12) :
  Calls Tryz.prog 127 #[Vp y.P 0,Vi (c:Nat)] W (SwR B y cf h an d.lg c W):=by
 have HPB:=hid (fun V (hV:Below W.heap.size W V)=>hp.below hV);have BW:=hid hp.bW;have hz:=szN_in hc;have RG:=hid (fun V (hV:Below W.heap.size W V)=>(hp.below hV).range6 hc);have FR:=hid (fun V (hV:Below W.heap.size W V) k (hk:k < 6)=>im_free (y.sb c k) (y.sr c k) c k (slN c) (y.sc c k) (d.on c k) (y.sm c k) (h.st c k) V ((hp.below hV).bc c k hc hk) (by omega) (fun j hj=>(hp.below hV).rowAt c k j hc hk hj) (fun j hj=>((hp.below hV).smAt c k j hc hk hj).1));have FL:=hid (fun V (hV:Below W.heap.size W V) k (hk:k < 6)=>((hp.below hV).bc c k hc hk).d2);have HI:=hid i;have GD:=hid gd;have SG:=hid (slab6_get y c);have hix:∀ (k:Nat),k < 6→∀ w,(Instr.index 81 (.agg (slab6 y c).toArray) (Vi (k:Nat))).run Tryz.prog w=.ok (Vp (y.sb c k) 0) w:=fun k hk w=>by
  rcases (show k=0∨k=1∨k=2∨k=3∨k=4∨k=5 by omega) with rfl|rfl|rfl|rfl|rfl|rfl <;> kernel_rfl
 have HIX:=hid hix;clear hp gd i hix;go_enter Tryz.func127,Tryz.ntmps127;go_wp2_with (refine wpList_load_mid rfl 81 _ rfl _ _ rfl _ _ (RG.out _ (Below.refl _ _)) Tryz.underlying81 rfl (by kernel_rfl) ?_);generalize hA6:(slab6 y c).toArray=A6 at *;have HA6:=hid hA6;clear hA6;go_loopw [15] (fun i wr=>∃ k:Nat,k≤6∧i=Vi k∧Hid (∀ s,s < k→(onS h c s && !(freeS h c s).isEmpty)=false)∧Hid (Below W.heap.size W wr)) (fun i _=>6 - (intOf i).toNat)
 case atStart=>exact ⟨0,Nat.zero_le _,rfl,hid (fun s hs=>by omega),hid (Below.refl _ _)⟩
 case round =>
  obtain⟨k,hk,rfl,HN,HB⟩:=hrel
  by_cases hlt:k < 6
  ·have ix:=HIX.out k hlt;have fl:=FL.out wr HB.out k hlt;have FK:=hid (fun V (hV:Below W.heap.size W V)=>FR.out V hV k hlt);have HON:=hid (GD.out.on c k hc hlt);have HLK:=hid (fun (h1:(onS h c k && !(freeS h c k).isEmpty)=true)=>pickS_some hlt h1 HN.out);generalize hon:d.on c k=on at *;rw [frM_freeS] at FK
   cases on with
   | false =>
    have HK2:=hid (show ∀ s,s < k+1→(onS h c s && !(freeS h c s).isEmpty)=false from fun s hs=>by
     rcases Nat.lt_succ_iff_lt_or_eq.1 hs with h1|h1
     ·exact HN.out s h1
     subst h1;rw [←HON.out];rfl)
    clear HN HON HLK FK hon;generalize y.sb c k=gb at *;go_wp2;go_roundw
    case rel=>exact ⟨k+1,by omega,by go_num,HK2,HB⟩
    case measure=>simp [intOf];omega
   | true =>
    go_wp2_with fail;refine (FK.out _ HB.out).mono ?_;rintro e V ⟨v,rfl,own,bV⟩;obtain⟨va,vc,rfl⟩:=own_sl2 own;have HBV:=hid (HB.out.trans (bV.mono HB.out.size));have HEM:=hid (show (freeS h c k).isEmpty=decide ((freeS h c k).length=0) by cases freeS h c k <;> simp);clear own bV FK fl ix hon HB;generalize hfl:(freeS h c k).length=n at *;clear hfl
    by_cases hn0:n=0
    ·have HK2:=hid (show ∀ s,s < k+1→(onS h c s && !(freeS h c s).isEmpty)=false from fun s hs=>by
      rcases Nat.lt_succ_iff_lt_or_eq.1 hs with h1|h1
      ·exact HN.out s h1
      subst h1;rw [HEM.out,hn0];simp)
     subst hn0;clear HN HON HLK HEM;generalize y.sb c k=gb at *;go_wp2;go_roundw
     case rel=>exact ⟨k+1,by omega,by go_num,HK2,HBV⟩
     case measure=>simp [intOf];omega
    have HPK:=hid (HLK.out (by rw [←HON.out,HEM.out];simp [hn0]));have HRS:=hid (show roomS cf h c=some (k,h) by unfold roomS;rw [HPK.out]);have hn1:(0:Int) < (n:Int):=by omega
    clear HN HON HLK HEM HPK;go_wp2;go_ret;refine⟨?_,Bi.ofBelow HBV.out BW.out⟩;rw [HRS.out];exact .yes k h _ ⟨d,HPB.out _ HBV.out,GD.out,Kl.refl d⟩
  obtain rfl:k=6:=by omega
  have HPN:=hid (pickS_none HN.out);clear HN hlt;go_wp2_with (refine wpList_load_mid rfl 81 _ rfl _ _ rfl _ _ (RG.out _ HB.out) Tryz.underlying81 rfl (by kernel_rfl) ?_);rw [HA6.out];have hmf:∀ (fn:Fn) (first cap:Array Value) (w:World),(Instr.makeFunc fn first cap).run Tryz.prog w=.ok (.func fn first cap) w:=fun _ _ _ _=>rfl
  clear FR RG HA6 SG;go_loopw [36] (fun i wq=>∃ k:Nat,k≤6∧i=Vi k∧Hid (∀ s,s < k→onS h c s=true)∧Hid (Below W.heap.size W wq)) (fun i _=>6 - (intOf i).toNat)
  case atStart=>exact ⟨0,Nat.zero_le _,rfl,hid (fun s hs=>by omega),HB⟩
  case round =>
   clear HB;obtain⟨k,hk,rfl,HN,HB⟩:=hrel
   by_cases hlt:k < 6
   ·have ix:=HIX.out k hlt;have HON:=hid (GD.out.on c k hc hlt);have HOF:=hid (fun (h1:onS h c k=false)=>offS_some hlt h1 HN.out);have bX:Below wr.heap.size wr (wr.alloc (.cells #[Vp (y.sb c k) 0] 80)):=(Below.refl _ _).alloc (Nat.le_refl _) _;have X:=al_last wr (.cells #[Vp (y.sb c k) 0] 80);have BX:=hid (HB.out.trans (bX.mono HB.out.size));have fl:=FL.out _ BX.out k hlt;have HXB:=hid HB.out.size;clear bX;go_upto_region 10 with fail
    generalize wr.alloc _=V at *;generalize wr.heap.size=XX at *;have x0:V.cell? ⟨XX,0,none⟩=some (Vp (y.sb c k) 0):=by rw [cell_of_row _ _ _ _ _ _ X];rfl
    have XH:=hid X;clear X HB;generalize hon:d.on c k=on at *
    cases on with
    | true =>
     have HK2:=hid (show ∀ s,s < k+1→onS h c s=true from fun s hs=>by
      rcases Nat.lt_succ_iff_lt_or_eq.1 hs with h1|h1
      ·exact HN.out s h1
      subst h1;exact HON.out.symm)
     clear HN HON HOF hon;generalize y.sb c k=gb at *;go_wp2;go_roundw
     case rel=>exact ⟨k+1,by omega,by go_num,HK2,BX⟩
     case measure=>simp [intOf];omega
    | false =>
     have HO2:=hid (HOF.out HON.out.symm);obtain⟨hp1,bi1⟩:=(HPB.out V BX.out).setOn hc hlt true;have fz:V.frozen? ⟨y.sb c k,2,none⟩=false:=by simp [World.frozen?,(HPB.out V BX.out).sl c k hc hlt]
     have HP1:=hid hp1;have BI1:=hid ((Bi.ofBelow BX.out BW.out).trans bi1);have X1:=hid (bi1.ky.cells _ _ _ _ XH.out not67);have SPG:=hid (im_spaging (y.sb c k) (y.sr c k) (y.sm c k 0) c k (slN c) (y.sc c k) _ 0 _ (hp1.bc c k hc hlt) (by omega) (hp1.scAt c k 0 hc hlt (by omega)) (hp1.rowAt c k 0 hc hlt (by omega)));have hps:=slabP_in hc hlt;have hpo:∀ i,i < pgN c→(h.m (slabP c k+i)).isSome=false:=fun i hi=>by rw [HI.out.slab c k hc hlt i hi];exact HON.out.symm
     have CM:=hid (fun U (hU:Hp B y { d with on:=updB d.on c k true } cf h U)=>im_commit B y { d with on:=updB d.on c k true } cf h (slabP c k) (pgN c) (.func 166) #[] #[Vp XX 0] U hU HI.out.out (by omega) (by omega) hpo);have TD:=hid (show ∀ f',Gd { d with on:=updB d.on c k true,f:=f',un:=.nilFunc } { h with m:=freshM h.m (slabP c k) (pgN c) } an from fun f'=>⟨fun c' s' hc' hs'=>by
      show updB d.on c k true c' s'=(freshM h.m (slabP c k) (pgN c) (slabP c' s')).isSome;unfold updB
      by_cases e:c'=c∧s'=k
      ·obtain⟨rfl,rfl⟩:=e;rw [if_pos ⟨rfl,rfl⟩,freshM_in _ _ _ _ (Nat.le_refl _) (by omega)];rfl
      rw [if_neg e,freshM_eq,if_neg (by
       have hq:=szN_in hc'
       rcases slab_apart hc' hs' hc hlt e with h5|h5 <;> omega)]
      exact GD.out.on c' s' hc' hs',rfl,GD.out.an⟩)
     have TB:=hid (show ∀ f' V',Hp B y { d with on:=updB d.on c k true,f:=f',un:=.func (.func 166) #[] #[Vp XX 0] } cf h V'→V'.heap[XX]?=some (.cells #[Vp (y.sb c k) 0] 80 (0,0))→Tk B y cf h an V' from fun f' V' hV' hX' V'' b''=>by
      refine (im_takeBackS B y _ cf h XX c k V'' (hV'.below b'') hc hlt (by rw [cell_of_row _ _ _ _ _ _ ((b''.block _ (lt_blk hX')).trans hX')];rfl) rfl).mono ?_;rintro e W9 ⟨rfl,h9,b9⟩;refine⟨rfl,⟨_,h9,fun c' s' hc' hs'=>?_,rfl,GD.out.an⟩,b9⟩;show updB (updB d.on c k true) c k false c' s'=onS h c' s';unfold updB
      by_cases e:c'=c∧s'=k
      ·obtain⟨rfl,rfl⟩:=e;rw [if_pos ⟨rfl,rfl⟩];exact HON.out
      rw [if_neg e,if_neg e];exact GD.out.on c' s' hc' hs')
     have HRY:=hid (fun (hb:¬((cf.bud:Int) < (cntM h.m 283:Int)+(pgN c:Nat)))=>show roomS cf h c=some (k,{ h with m:=freshM h.m (slabP c k) (pgN c) }) by unfold roomS;rw [HPN.out];dsimp only;rw [HO2.out];dsimp only;rw [if_neg (by omega)]);have HRN:=hid (fun (hb:(cf.bud:Int) < (cntM h.m 283:Int)+(pgN c:Nat))=>show roomS cf h c=none by unfold roomS;rw [HPN.out];dsimp only;rw [HO2.out];dsimp only;rw [if_pos (by omega)]);clear hp1 bi1 hon HN HON HOF hps hpo;go_upto_region 12 with fail
     generalize V.setCell ⟨y.sb c k,2,none⟩ (.bool true)=U at *;have x1:U.cell? ⟨XX,0,none⟩=some (Vp (y.sb c k) 0):=by rw [cell_of_row _ _ _ _ _ _ X1.out];rfl
     clear fl fz x0 XH;go_wp2_with fail;refine (SPG.out).mono ?_;rintro e U2 ⟨rfl,b2⟩;have HP2:=hid (HP1.out.below b2);have BI2:=hid (BI1.out.add b2 HP1.out.bW);have X2:=hid ((b2.block _ (lt_blk X1.out)).trans X1.out);clear SPG b2 HP1 BI1 X1 x1;go_wp2_with fail;refine (CM.out _ HP2.out).mono ?_;rintro e U3 ⟨f',bi3,⟨hb,rfl,hp3⟩|⟨hb,rfl,hp3⟩⟩
     ·have x3:U3.cell? ⟨XX,0,none⟩=some (Vp (y.sb c k) 0):=by rw [cell_of_row _ _ _ _ _ _ (bi3.ky.cells _ _ _ _ X2.out not67)];rfl
      have HF:=hid (And.intro hp3 (And.intro (BI2.out.trans bi3) (HRY.out (by omega))));clear hp3 bi3 CM HP2 BI2 X2 HRY HRN hb;go_wp2;go_ret;refine⟨?_,HF.out.2.1⟩;rw [HF.out.2.2];exact .yes k _ _ ⟨_,HF.out.1,TD.out f',fun _ _ e=>e⟩
     refine⟨rfl,?_,BI2.out.trans bi3⟩;rw [HRN.out (by omega)];exact .no _ (TB.out f' U3 hp3 (bi3.ky.cells _ _ _ _ X2.out not67))
   obtain rfl:k=6:=by omega
   have HRN:=hid (show roomS cf h c=none by unfold roomS;rw [HPN.out];dsimp only;rw [offS_none HN.out]);clear HN HPN;go_wp2;refine⟨rfl,?_,Bi.ofBelow HB.out BW.out⟩;rw [HRN.out];exact .no _ (Hg.tk ⟨d,HPB.out _ HB.out,GD.out⟩)
end Go.Proofs.YtacccpkmgkojiaaGreatDoorRR
namespace Go.Proofs.YtacccpkmgkojiaaGreatDoorRR
set_option linter.unusedVariables false
set_option linter.unusedSimpArgs false
set_option maxRecDepth 20000
set_option maxHeartbeats 8000000
open Go.RowKit Go.Maps
theorem Hp.setSlot {B:Nat} {y:Ly} {d:Dy} {cf:Cf} {h:Hs} {W W':World} (hp:Hp B y d cf h W) {c s j:Nat} (hc:c < 12) (hs:s < 6) (hj:j < slN c) (st' rq':Int) (g:W.grownBy W' (some (y.sm c s j))) (hb:W'.heap[y.sm c s j]?=some (.cells (smC st' rq' (y.sb c s) j) 168 (0,0))) :
  Hp B y d cf { h with st:=upd3 h.st c s j st',rq:=upd3 h.rq c s j rq' } W'∧Bi B W W':=by
 have hb0:=hp.sm c s j hc hs hj;have k:Ky (· = 168) W W':=Ky.grown hb0 rfl g;have bl:Below B W W':=(Below.refl B W).grown g hp.bW (fun r hr=>by simp at hr;have:=hp.ap.bsm c s j hc hs hj;omega);have hM:W'.heap[y.M]?=W.heap[y.M]?:=g.block _ hp.sp.lt.2 (fun e=>by
  simp at e;obtain⟨D,⟨es,c2,h2,_⟩,_⟩:=hp.sp.map;rw [e,hb0] at h2;cases h2)
 have hR:W'.heap[y.R]?=W.heap[y.R]?:=by
  obtain⟨es,c2,h2⟩:=hp.mp.typ;exact g.block _ (lt_blk h2) (fun e=>by simp at e;rw [e,hb0] at h2;cases h2)
 refine⟨⟨hp.ap,Nat.le_trans hp.bW bl.size,hp.box.ky k (by decide),hp.ds.belowB bl hp.ap.da,hp.sp.ky k (by decide) hM,hp.pg.ky k (by decide),hp.bf,
 fun c s hc hs=>k.cells _ _ _ _ (hp.sl c s hc hs) (by decide),fun c s hc hs=>row_ky (hp.rw c s hc hs) k (by decide),fun c' s' j' hc' hs' hj'=>?_,
 fun c hc=>(hp.wt c hc).ky k (by decide) (by decide) (by decide),hp.mp.same hR,hp.lo,fun r hr=>by obtain ⟨g,h1,h2,h3⟩:=hp.lb r hr;exact⟨g,h1,h2,k.cells _ _ _ _ h3 (by decide)⟩,hp.li,hp.ro.ky k (by decide),own_ky hp.rl k (by decide),hp.rr,hp.tb.belowB bl hp.ap.b0⟩,Bi.ofGrown hb0 (.inr (.inr (.inr (.inr (.inl rfl))))) (hp.ap.bsm c s j hc hs hj) hp.bW g⟩
 show W'.heap[y.sm c' s' j']?=some (.cells (smC (upd3 h.st c s j st' c' s' j') (upd3 h.rq c s j rq' c' s' j') (y.sb c' s') j') 168 (0,0))
 by_cases e:c'=c∧s'=s∧j'=j
 ·obtain⟨rfl,rfl,rfl⟩:=e;rw [upd3_same,upd3_same];exact hb
 rw [upd3_ne _ _ e,upd3_ne _ _ e];have h2:=hp.sm c' s' j' hc' hs' hj';rw [g.block _ (lt_blk h2) (fun e2=>by
  simp at e2;exact e (hp.ap.ism c' s' j' c s j hc' hs' hj' hc hs hj e2))]
 exact h2
theorem Hp.setSt1 {B:Nat} {y:Ly} {d:Dy} {cf:Cf} {h:Hs} {W:World} (hp:Hp B y d cf h W) {c s j:Nat} (hc:c < 12) (hs:s < 6) (hj:j < slN c) (st':Int) :
  Hp B y d cf { h with st:=upd3 h.st c s j st' } (W.setCell ⟨y.sm c s j,0,none⟩ (Vi st'))∧Bi B W (W.setCell ⟨y.sm c s j,0,none⟩ (Vi st')):=by
 have h2:=hp.sm c s j hc hs hj;have:=hp.setSlot hc hs hj st' (h.rq c s j) (W':=W.setCell ⟨y.sm c s j,0,none⟩ (Vi st')) (grown_set (grown_refl W (y.sm c s j)) 0 _) (by simp [World.setCell,Array.getElem?_modify,h2,smC]);rw [upd3_self h.rq rfl] at this;exact this
theorem Hp.setRec {B:Nat} {y:Ly} {d:Dy} {cf:Cf} {h:Hs} {W:World} (hp:Hp B y d cf h W) {c s j:Nat} (hc:c < 12) (hs:s < 6) (hj:j < slN c) (st' rq':Int) :
  Hp B y d cf { h with st:=upd3 h.st c s j st',rq:=upd3 h.rq c s j rq' } (W.setCells (y.sm c s j) 0 [Vi st',Vi rq'])∧Bi B W (W.setCells (y.sm c s j) 0 [Vi st',Vi rq']):=by
 have h2:=hp.sm c s j hc hs hj;refine hp.setSlot hc hs hj st' rq' ?_ ?_
 ·simp only [World.setCells];exact grown_set (grown_set (grown_refl W (y.sm c s j)) 0 _) _ _
 simp [World.setCells,World.setCell,Array.getElem?_modify,h2,smC]
inductive TaR (B:Nat) (y:Ly) (cf:Cf) (an:Value) (lg:Nat→Option Nat):Option Nat×Hs→Ending→World→Prop
 | slot (c s j:Nat) (h1:Hs) (W':World) (hc:c < 12) (hs:s < 6) (hj:j < slN c) (hl:h1.st c s j=1) (hg:Hgl B y cf h1 an lg W'):TaR B y cf an lg (some (adr c s j),h1) (.returned (.iface 164 (Vp (y.sm c s j) 0))) W'
 | range (r:Rg9) (g:Nat) (d:Dy) (h1:Hs) (W':World) (hr:r∈h1.rg) (hl:r.st=1) (hd:d.lg r.base=some g) (hp:Hp B y d cf h1 W') (gd:Gd d h1 an) (kl:Kl lg d):TaR B y cf an lg (some r.base,h1) (.returned (.iface 175 (Vp g 0))) W'
 | no (h1:Hs) (W':World) (tk:Tk B y cf h1 an W'):TaR B y cf an lg (none,h1) (.panicked (refV 1)) W'
def TaW (B:Nat) (y:Ly) (cf:Cf) (an:Value) (lg:Nat→Option Nat) (W:World) (r:Option Nat×Hs) (e:Ending) (W':World):Prop:=TaR B y cf an lg r e W'∧Bi B W W'
theorem Gd.st {d:Dy} {h:Hs} {an:Value} (g:Gd d h an) {h':Hs} (hm:∀ k,(h'.m k).isSome=(h.m k).isSome):Gd d h' an:=⟨fun c s hc hs=>by rw [g.on c s hc hs];exact (hm _).symm,g.un,g.an⟩
end Go.Proofs.YtacccpkmgkojiaaGreatDoorRR
namespace Go.Proofs.YtacccpkmgkojiaaGreatDoorRR
set_option linter.unusedVariables false
set_option linter.unusedSimpArgs false
set_option maxRecDepth 20000
set_option maxHeartbeats 8000000
open Go.RowKit Go.Maps
theorem own186 {W:World} {B n c k:Nat} {a:Option Addr} {g:Nat→Nat} {l:List Nat} (h:W.ownsRow B 164 1 (.slice a n c) l.length (Pt g l)) (hk:k < l.length) (q:Nat) (hq:l[k]?=some q):∃ gg,a=some ⟨gg,0,none⟩∧W.cell? ⟨gg,k,none⟩=some (Vp (g q) 0):=by
 have hv:n=l.length:=by
  obtain⟨a,c,e⟩:=own_sl2 h;injection e with _ e2 _
 subst hv;obtain⟨gg,hg⟩:=own_at h (by omega);subst hg;exact⟨gg,rfl,own_cell h k _ (by simp [Pt,hq])⟩
theorem Hp.daRow {B:Nat} {y:Ly} {d:Dy} {cf:Cf} {h:Hs} {U:World} (hp:Hp B y d cf h U) {g n:Nat} {ys:List Int} (hr:RowV U g 5 (Ns .u8 ys)) (hn:ys.length=n):Da y.S y.M d.f U (some ⟨g,0,none⟩) n ys:=by
 subst hn;refine⟨rfl,fun i hi=>⟨⟨g,0,none⟩,rfl,?_,?_,?_,?_,?_⟩⟩
 ·rw [Addr.add_mid,Nat.zero_add];exact cell_n hr i hi
 ·rw [Addr.add_mid];exact hr.lt
 ·rw [Addr.add_mid];obtain⟨c,h1,_⟩:=hr;intro e;have e':g=y.S:=e;rw [e',hp.sp.box] at h1;simp at h1
 ·rw [Addr.add_mid];obtain⟨c,h1,_⟩:=hr;intro e;have e':g=y.M:=e;obtain⟨D,⟨es,c2,h2,_⟩,_⟩:=hp.sp.map;rw [e',h2] at h1
  cases h1
 rw [Addr.add_mid];intro k hk;obtain⟨c,h1,_⟩:=hr
 rcases hp.pg.at' k with ⟨e1,_⟩|⟨b',l,xs,e1,_,_,e4⟩
 ·rw [hk] at e1;cases e1
 rw [hk] at e1
 cases e1
 rw [e4] at h1;simp at h1
theorem not186:¬hI 164:=by unfold hI;decide
theorem Inv.accL {cf:Cf} {h:Hs} (i:Inv cf h) {c s j:Nat} (hc:c < 12) (hs:s < 6) (hj:j < slN c) (hon:onS h c s=true):accC h.m (adr c s j) ((szN c:Nat):Int)=0:=by
 have:=i.accS hc hs hj hon 0 (szN c) (by have:=szN_in hc;omega) (by omega);simpa using this
theorem im_takeSlot (B:Nat) (y:Ly) (d:Dy) (cf:Cf) (h:Hs) (an:Value) (a:Nat) (W:World) (hp:Hp B y d cf h W) (gd:Gd d h an) (i:Inv cf h) (hb:Byt h.m) (ha:a≤1016) (hu:h.used+2000≤1000000) (dk:Dok cf) :
  Calls Tryz.prog 90 #[Vp y.P 0,Vu (a:Nat)] W (TaW B y cf an d.lg W (mallocM cf h a)):=by
 obtain⟨hco,hc,hca⟩:=co_c ha;have CO:=hid (im_ClassOf (a:Nat) (by omega) W hp.tb);rw [hco] at CO;have MM:=hid (mallocM_small (cf:=cf) (h:=h) ha);have HF:=hid (show freeN h (coN a) 6 < 2000 by
  have h1:=freeN_le h (coN a) 6;have h2:=szN_in hc;have:6*slN (coN a)≤6*64:=Nat.mul_le_mul_left _ (by omega);omega)
 have hz:=szN_in hc;generalize hce:coN a=c at *;obtain⟨res,hres⟩:∃ res,smallM cf c 2000 h=res:=⟨_,rfl⟩;rw [hres] at MM;obtain⟨mres,hmres⟩:∃ mres,mallocM cf h a=mres:=⟨_,rfl⟩;rw [hmres] at MM ⊢;have HR:=hid hres;have HP0:=hid hp;have GD0:=hid gd;have I0:=hid i;have BY0:=hid hb;have DK:=hid dk;have HU:=hid hu;have BW:=hid hp.bW;clear hres hmres hp gd i hb dk hu hco hce;go_enter Tryz.func90,Tryz.ntmps90;go_wp2_with fail;refine (CO.out).mono ?_;rintro e W1 ⟨rfl,rfl⟩;clear CO;go_wp2;go_loopg [6] 2000 (fun gk _ wr=>∃ (hk:Hs) (dk9:Dy),Hid (smallM cf c gk hk=res)∧Hid (freeN hk c 6 < gk)∧Hid (Hp B y dk9 cf hk wr)∧Hid (Gd dk9 hk an)∧Hid (Inv cf hk)∧Hid (Byt hk.m)∧Hid (Bi B W1 wr)∧Hid (hk.used+gk≤h.used+2000)∧Hid (Kl d.lg dk9))
 case atStart=>exact ⟨h,d,HR,HF,HP0,GD0,I0,BY0,hid (Bi.refl _ _),hid (Nat.le_refl _),hid (Kl.refl d)⟩
 case round =>
  obtain⟨hk,d1,KR,KF,KP,KG,KI,KY,KB,KU,KL⟩:=hrel;clear HP0 GD0 I0 BY0 HR HF;obtain⟨f,hgf⟩:∃ f,gk=f+1:=⟨gk - 1,by have:=KF.out;omega⟩;have KGF:=hid hgf;have KR2:=hid (show (match roomS cf hk c with
    | none=>(none,hk)
    | some (s,h1)=>if clean h1.m (adr c s (pickJ cf h1 c s)) (szN c) then (some (s,pickJ cf h1 c s),{ h1 with used:=h1.used+1 })
     else smallM cf c f { h1 with used:=h1.used+1,st:=upd3 h1.st c s (pickJ cf h1 c s) 4 })=res by
   have:=KR.out;rw [hgf,smallM_succ] at this;exact this)
  have SW:=hid (im_swr B y d1 cf hk an c wr KP.out KG.out KI.out hc);have RM:=hid (fun s h1 (hr:roomS cf hk c=some (s,h1))=>And.intro (KI.out.room hc hr) (roomS_m hr));clear hgf KR;go_wp2_with fail;refine (SW.out).mono ?_;rintro e V ⟨rm,bi⟩;have BI:=hid (KB.out.trans bi);clear SW bi;generalize hro:roomS cf hk c=ro at *;have HRO:=hid hro;clear hro
  cases rm with
  | no _ tk =>
   have HE:=hid (show mres=(none,hk) by rw [MM.out,←KR2.out];rfl);refine⟨rfl,?_,BI.out⟩;rw [HE.out];exact .no hk V tk
  | yes s h1 _ hg =>
   obtain⟨d2,hp2,gd2,kl2⟩:=hg;have KL2:=hid (KL.out.trans kl2);clear kl2;obtain⟨⟨hs6,j1,hon,hlen,hst,hu1,hse⟩,hrm⟩:=RM.out s h1 rfl;have KR3:=hid (show (if clean h1.m (adr c s (pickJ cf h1 c s)) (szN c) then (some (s,pickJ cf h1 c s),{ h1 with used:=h1.used+1 })
     else smallM cf c f { h1 with used:=h1.used+1,st:=upd3 h1.st c s (pickJ cf h1 c s) 4 })=res from KR2.out)
   obtain⟨hpk,hpj,hpf⟩:=pick_in cf hlen;have hfb:=freeS_len h1 c s;have hdl:=dr_lt cf h1 hlen;have BY1:=hid (show Byt h1.m by rcases hrm with e|e <;> rw [e];exact KY.out;exact KY.out.fresh _ _);have HP2:=hid hp2;have GD2:=hid gd2;have J1:=hid j1;have HON:=hid hon;have HSE:=hid hse;have HU1:=hid hu1;have HPF:=hid hpf;have HPJ:=hid hpj;have FRE:=hid (im_free (y.sb c s) (y.sr c s) c s (slN c) (y.sc c s) (d2.on c s) (y.sm c s) (h1.st c s) V (hp2.bc c s hc hs6) (by omega) (fun j hj=>hp2.rowAt c s j hc hs6 hj) (fun j hj=>(hp2.smAt c s j hc hs6 hj).1));rw [frM_freeS] at FRE;have DR:=hid (fun U (hU:Hp B y d2 cf h1 U)=>im_draw B y d2 cf h1 (freeS h1 c s).length U hU (by omega) (by omega) (by have:=HU.out;have:=KU.out;have:=HU1.out;omega) DK.out.len);have hq0:0 < (freeS h1 c s).length:=hlen;have OWN:=hid (fun (U:World) (va:Option Addr) (vn vc:Nat) (hU:U.ownsRow V.heap.size 164 1 (.slice va vn vc) (freeS h1 c s).length (Pt (y.sm c s) (freeS h1 c s)))=>own186 hU hdl _ hpk);clear hp2 gd2 j1 hon hse hst hu1 hrm hpk hpf KR2 RM KY KI;generalize hjj:pickJ cf h1 c s=j at *;clear hjj;generalize hdd:dr cf h1 (freeS h1 c s).length=dd at *;clear hdd;generalize hll:(freeS h1 c s).length=ll at *;clear hll;go_wp2_with fail;refine (FRE.out).mono ?_;rintro e V1 ⟨v,rfl,own,b1⟩;obtain⟨va,vc,rfl⟩:=own_sl2 own;have HP3:=hid (HP2.out.below b1);have BI3:=hid (BI.out.add b1 HP2.out.bW);have OW3:=hid own;clear own b1 FRE HP2 BI;go_wp2_with fail;refine (DR.out _ HP3.out).mono ?_;rintro e V2 ⟨rfl,hp4,bi4⟩;have HP4:=hid hp4;have BI4:=hid (BI3.out.trans bi4);obtain⟨gg,rfl,hcell⟩:=OWN.out V2 va ll vc (own_ky OW3.out bi4.ky not186);clear hp4 bi4 DR OW3 HP3 BI3 OWN;have hdl':(dd:Int) < (ll:Int):=by omega
   have SB:=hid (fun U (hU:Hp B y d2 cf { h1 with used:=h1.used+1 } U)=>im_sbase (y.sm c s j) (y.sb c s) c s j U (hU.scAt c s j hc hs6 HPJ.out));have SZ:=hid (fun U (hU:Hp B y d2 cf { h1 with used:=h1.used+1 } U)=>im_SlotSize (c:Nat) U hU.tb);rw [sz_c hc] at SZ;have hA:=adr_in hc hs6 HPJ.out;have LD:=hid (fun U (hU:Hp B y d2 cf { h1 with used:=h1.used+1 } U)=>im_hload B y d2 cf { h1 with used:=h1.used+1 } (adr c s j) (szN c) U hU J1.out.out (by omega) (by omega));rw [Nat.min_eq_left (by omega)] at LD;have LD2:=hid (show ∀ U (hU:Hp B y d2 cf { h1 with used:=h1.used+1 } U),Calls Tryz.prog 70 #[Vp y.P 0,Vu (adr c s j:Nat),Vu (szN c:Nat)] U (AskR B y d2 cf { h1 with used:=h1.used+1 } U h1.m 0 (loadB h1.m (adr c s j) (szN c))) from fun U hU=>by
    have:=LD.out U hU;dsimp only at this;rw [J1.out.accL hc hs6 HPJ.out HON.out,if_pos rfl] at this;exact this)
   have MX:=hid (fun u U (hU:Bs U u (loadB h1.m (adr c s j) (szN c)))=>im_max u _ U hU (BY1.out.load _ _) (by simp [loadB];omega) (by simp [loadB];omega));have HCL:=hid (show clean h1.m (adr c s j) (szN c)=(loadB h1.m (adr c s j) (szN c)).all (· == 0) from rfl);clear LD;generalize loadB h1.m (adr c s j) (szN c)=data at *;generalize hgm:y.sm c s j=gm at *;have HGM:=hid hgm;clear hgm;go_wp2_with fail;refine (SB.out _ HP4.out).mono ?_;rintro e V3 ⟨rfl,b3⟩;have HP5:=hid (HP4.out.below b3);have BI5:=hid (BI4.out.add b3 HP4.out.bW);clear b3 HP4 BI4 hcell;go_wp2_with fail;refine (SZ.out _ HP5.out).mono ?_;rintro e V4 ⟨rfl,rfl⟩;clear SZ;go_wp2_with fail;refine (LD2.out _ HP5.out).mono ?_;rintro e V5 ⟨f',hp6,bi6,⟨_,v,rfl,own6⟩|⟨hn,_⟩⟩
   rotate_left
   ·exact absurd rfl hn
   have HP6:=hid (show Hp B y { d2 with f:=f' } cf { h1 with used:=h1.used+1 } V5 from hp6);have BI6:=hid (BI5.out.trans bi6);have BS6:=hid (bs_own own6);clear hp6 bi6 own6 LD2 HP5 BI5;go_wp2_with fail;refine (MX.out _ _ BS6.out).mono ?_;rintro e V6 ⟨M,rfl,hM,rfl⟩;have HM:=hid hM;clear hM MX BS6;have HG6:=hid (show Gd { d2 with f:=f' } { h1 with used:=h1.used+1 } an from ⟨GD2.out.on,GD2.out.un,GD2.out.an⟩)
   cases hcl:data.all (fun x=>x==0) with
   | false =>
    have hM1:(0:Int) < M:=by have:=HM.out;rw [hcl] at this;simpa using this
    have HR9:=hid (show smallM cf c f { h1 with used:=h1.used+1,st:=upd3 h1.st c s j 4 }=res by
     have:=KR3.out;rw [if_neg (by rw [HCL.out,hcl];decide)] at this;exact this)
    obtain⟨h7,b7⟩:=HP6.out.setSt1 hc hs6 HPJ.out 4;have sa:=(HP6.out.smAt c s j hc hs6 HPJ.out).1;have fz:V6.frozen? ⟨y.sm c s j,0,none⟩=false:=by simp [World.frozen?,HP6.out.sm c s j hc hs6 HPJ.out]
    rw [HGM.out] at h7 b7 sa fz;have H7:=hid (show Hp B y { d2 with f:=f' } cf { h1 with used:=h1.used+1,st:=upd3 h1.st c s j 4 } (V6.setCell ⟨gm,0,none⟩ (Vi 4)) from h7);have B7:=hid (BI6.out.trans b7);have G7:=hid (show Gd { d2 with f:=f' } { h1 with used:=h1.used+1,st:=upd3 h1.st c s j 4 } an from ⟨GD2.out.on,GD2.out.un,GD2.out.an⟩);have I7:=hid (show Inv cf { h1 with used:=h1.used+1,st:=upd3 h1.st c s j 4 } from (J1.out.used (h1.used+1)).retire hc hs6 HPJ.out HPF.out HON.out);have F7:=hid (show freeN { h1 with used:=h1.used+1,st:=upd3 h1.st c s j 4 } c 6 < f by
     have q1:=(freeN_set (h:=h1) (s:=s) HPJ.out HPF.out 6).2 hs6;have q2:freeN { h1 with used:=h1.used+1,st:=upd3 h1.st c s j 4 } c 6=freeN { h1 with st:=upd3 h1.st c s j 4 } c 6:=rfl;have q3:freeN h1 c 6=freeN hk c 6:=freeN_st HSE.out c 6;have q4:=KF.out;have q5:=KGF.out;omega)
    have U7:=hid (show h1.used+1+f≤h.used+2000 by
     have q1:=KU.out;have q2:=HU1.out;have q5:=KGF.out;omega)
    generalize h1.st c s j=z4 at sa;clear h7 b7 hcl HM HCL KR3 HP6 BI6 SB HG6 GD2 KP KG;go_wp2
    go_roundg f
    case rel=>exact ⟨_,_,HR9,F7,H7,G7,I7,BY1,B7,U7,hid (show Kl d.lg { d2 with f:=f' } from KL2.out)⟩
    case measure=>have:=KGF.out;omega
   | true =>
    have hM1:¬((0:Int) < M):=by have:=HM.out;rw [hcl] at this;simpa using this
    have HE:=hid (show mres=(some (adr c s j),{ h1 with used:=h1.used+1,st:=upd3 h1.st c s j 1,rq:=upd3 h1.rq c s j a,m:=storeM h1.m (adr c s j+usN c) (can cf (adr c s j)) 8 }) by
     have:=KR3.out;rw [if_pos (by rw [HCL.out,hcl])] at this;rw [MM.out,←this];rfl)
    obtain⟨h7,b7⟩:=HP6.out.setRec hc hs6 HPJ.out 1 (a:Nat);have hbk:=HP6.out.sm c s j hc hs6 HPJ.out;rw [HGM.out] at h7 b7 hbk;have s0:V6.cell? ⟨gm,0,none⟩=some (Vi (h1.st c s j)):=by rw [cell_of_row _ _ _ _ _ _ hbk];rfl
    have s1:V6.cell? ⟨gm,1,none⟩=some (Vi (h1.rq c s j)):=by rw [cell_of_row _ _ _ _ _ _ hbk];rfl
    have z0:V6.frozen? ⟨gm,0,none⟩=false:=by simp [World.frozen?,hbk]
    have z1:V6.frozen? ⟨gm,1,none⟩=false:=by simp [World.frozen?,hbk]
    simp only [World.setCells,Nat.zero_add] at h7 b7;clear hbk;generalize h1.st c s j=q0 at s0;generalize h1.rq c s j=q1 at s1;have H7:=hid h7;have B7:=hid (BI6.out.trans b7);clear h7 b7 hcl HM HCL KR3 HP6 BI6 KP KG KF KU;go_upto_region 7 with fail
    generalize (V6.setCell ⟨gm,0,none⟩ (Vi 1)).setCell ⟨gm,1,none⟩ (Vi (a:Nat))=V8 at *;clear s0 s1 z0 z1 SB HG6;obtain⟨h8,hh8⟩:∃ h8:Hs,h8={ h1 with used:=h1.used+1,st:=upd3 h1.st c s j 1,rq:=upd3 h1.rq c s j a }:=⟨_,rfl⟩;obtain⟨d8,hd8⟩:∃ d8:Dy,d8={ d2 with f:=f' }:=⟨_,rfl⟩;have HM8:=hid (show h8.m=h1.m by rw [hh8]);have H8:=hid (show Hp B y d8 cf h8 V8 by rw [hh8,hd8];exact H7.out);have CA:=hid (fun U (hU:Hp B y d8 cf h8 U)=>im_canaryAt (y.sm c s j) (y.sb c s) c s j U (hU.scAt c s j hc hs6 HPJ.out));have SB:=hid (fun U (hU:Hp B y d8 cf h8 U)=>im_sbase (y.sm c s j) (y.sb c s) c s j U (hU.scAt c s j hc hs6 HPJ.out));rw [HGM.out] at CA SB;have CN:=hid (fun U=>impl_any cf.key (adr c s j:Nat) U DK.out.key0 DK.out.key1 (by omega) (by omega));have hacc:accC h1.m (adr c s j+usN c) ((8:Nat):Int)=0:=J1.out.accS hc hs6 HPJ.out HON.out (usN c) 8 (by omega) (by omega);have ST:=hid (fun U g (hU:Hp B y d8 cf h8 U) (hr:RowV U g 5 (Ns .u8 (can cf (adr c s j))))=>im_hstore B y d8 cf h8 (adr c s j+usN c) (some ⟨g,0,none⟩) 8 8 (can cf (adr c s j)) U hU (by rw [HM8.out];exact J1.out.out) (by omega) (hU.daRow hr (by unfold can;exact cRow_len _)) (Nat.le_refl _));have ST2:=hid (show ∀ (U:World) (g:Nat) (hU:Hp B y d8 cf h8 U) (hr:RowV U g 5 (Ns .u8 (can cf (adr c s j)))),Calls Tryz.prog 71 #[Vp y.P 0,Vu (adr c s j+usN c:Nat),Vl g 8 8] U (StoR B y d8 cf h8 U (storeM h1.m (adr c s j+usN c) (can cf (adr c s j)) 8) 0) from fun U g hU hr=>by
     have:=ST.out U g hU hr;rw [show (can cf (adr c s j)).length=8 by unfold can;exact cRow_len _,HM8.out,hacc,if_pos rfl] at this;exact this)
    have FIN:=hid (show ∀ f9 U,Hp B y { d8 with f:=f9 } cf { h8 with m:=storeM h1.m (adr c s j+usN c) (can cf (adr c s j)) 8 } U→TaR B y cf an d.lg mres (.returned (.iface 164 (Vp gm 0))) U from fun f9 U hU=>by
     rw [HE.out,←HGM.out];refine .slot c s j _ U hc hs6 HPJ.out ?_ ⟨{ d8 with f:=f9 },?_,?_,by show Kl d.lg { d8 with f:=f9 };rw [hd8];exact KL2.out⟩
     ·show upd3 h1.st c s j 1 c s j=1;exact upd3_same _ _ _ _ _
     ·rw [hh8] at hU;exact hU
     refine⟨fun c' s' hc' hs'=>?_,by rw [hd8];exact GD2.out.un,by rw [hd8];exact GD2.out.an⟩;show d8.on c' s'=(storeM h1.m _ _ 8 (slabP c' s')).isSome;rw [storeM_is,hd8];exact GD2.out.on c' s' hc' hs')
    have HC8:=hid (show cRow (cx cf.key ((adr c s j:Nat):Int))=can cf (adr c s j) from rfl);have CK:=hid (show ∀ U d9 h9,Hp B y d9 cf h9 U→U.cell? ⟨y.P,4,none⟩=some (Vu cf.key) from fun U d9 h9 hU=>hU.cell 4 (by omega) _ rfl);clear ST hacc hh8 hd8 H7 HE GD2 HM8;generalize hAA:adr c s j=AA at *;generalize usN c=uu at *;refine wp_region_held (S:=fun W9=>W9.cell? ⟨y.P,4,none⟩=some (Vu cf.key)) (by kernel_rfl) ?_;simp only [List.size_toArray,List.length_cons,List.length_nil,Nat.reduceAdd,Array.replicate_succ,Array.replicate_zero,List.push_toArray,List.nil_append,List.cons_append];have hS:=CK.out V8.drew _ _ (H8.out.below (Below.refl _ _).drew)
    iterate 2 (refine py hS ?_;simp only [f0,f1,Nat.reduceAdd,lz,l0,ls])
    refine pk 3 43 (Vp y.P 0) hS ?_;simp only [lz,l0,ls];refine pk 4 44 (Vp y.P 0) hS ?_;simp only [lz,l0,ls];refine pk 5 45 (Vp y.P 0) hS ?_;simp only [lz,l0,ls];refine pk 6 46 (Vp y.P 4) hS ?_;simp only [lz,l0,ls];refine pz 7 47 (Vu cf.key) hS ?_;simp only [lz,l0,ls];refine pk 8 48 (Vp gm 0) hS ?_;simp only [lz,l0,ls];refine po 2 fun K' hK=>?_
    go_simp;refine (CA.out _ (H8.out.below (Below.refl _ _).drew)).mono ?_;rintro e U1 ⟨rfl,b1⟩;have k1:Below V8.heap.size V8 U1:=⟨b1.os,b1.tape,b1.output,b1.size,b1.block⟩;have p1:=H8.out.below k1;have q1:=CK.out _ _ _ p1;refine hK.out _ _ ⟨q1,?_⟩;clear hS;have hS:=q1;clear hK K';refine po 9 fun K' hK=>?_
    go_simp;refine (SB.out _ p1).mono ?_;rintro e U2 ⟨rfl,b2⟩;have k2:=bl_trans k1 b2;have p2:=H8.out.below k2;have q2:=CK.out _ _ _ p2;refine hK.out _ _ ⟨q2,?_⟩;clear hS;have hS:=q2;clear hK K';refine po 10 fun K' hK=>?_
    go_simp;refine (CN.out _).mono ?_;rintro e U3 ⟨rfl,r3,b3⟩;have k3:=bl_trans k2 b3;have p3:=H8.out.below k3;have q3:=CK.out _ _ _ p3;refine hK.out _ _ ⟨q3,?_⟩;clear hS;have hS:=q3;rw [HC8.out] at r3;clear hK K';refine po 11 fun K' hK=>?_
    go_simp;refine (ST2.out _ _ p3 r3).mono ?_;rintro e U4 ⟨f9,p4,bi4,⟨_,rfl⟩|⟨hn,_⟩⟩
    rotate_left
    ·exact absurd rfl hn
    have q4:=CK.out _ _ _ p4;refine hK.out _ _ ⟨q4,?_⟩;clear hS;have hS:=q4;clear hK K';refine wpAnyH_done (by kernel_rfl) ?_ _;have FF:=hid (And.intro (FIN.out f9 U4 p4) ((B7.out.add k3 H8.out.bW).trans bi4));clear p1 p2 p3 p4 q1 q2 q3 q4 k1 k2 k3 b1 b2 b3 r3 bi4 hS CA SB CN ST2 FIN CK H8 B7;go_wp2;go_ret;exact FF.out
end Go.Proofs.YtacccpkmgkojiaaGreatDoorRR
