import Derived.Below
import Derived.BigGuardIn
import Derived.BigQuiet
import Derived.BigRegionIn
import Derived.Conc.MuLone
import Derived.Deep.AppendLies
import Derived.Deep.CutBlock
import Derived.Deep.DeepCutAuto
import Derived.Deep.LoopGhost
import Derived.Deep.MidRow
import Derived.Deep.OwnRows
import Derived.Deep.QuietTactic
import Derived.Deep.RegionHeld
import Derived.Deep.RegionLaw
import Derived.Deep.RegionWith
import Derived.KernelRfl
import Derived.Laws.BytesString
import Derived.Laws.CopyOwn
import Derived.Laws.OwnMore
import Derived.Laws.Rows
import Derived.Laws.Tables
import Derived.Lib.SliceRun
import Derived.Lib.SmallJoins
import Derived.LoopIn
import Derived.LoopNIn
import Derived.Maps.OwnOps
import Derived.Maps.OwnSet
import Derived.Maps.RangeWalk
import Derived.OpenShut
import Derived.OrdersHeld
import Derived.OwnWalkIn
import Derived.ProofKit
import Derived.RangeFuncBound
import Derived.RangeFuncCalls
import Derived.RangeFuncLeaves
import Derived.RangeFuncNested
import Derived.Shelf.Abstract
import Derived.Shelf.Bits.Mul64
import Derived.Shelf.RegionOpen
import Derived.TacticsInMore
import Derived.Test.YtacccpkmgkojiaaGreatDoorRRProg
import Derived.WalkKit
import Derived.WalkLawsBesides
import Derived.Test.YtacccpkmgkojiaaGreatDoorRRM00
import Derived.Test.YtacccpkmgkojiaaGreatDoorRRM01
import Derived.Test.YtacccpkmgkojiaaGreatDoorRRM02
import Derived.Test.YtacccpkmgkojiaaGreatDoorRRM06
import Derived.Test.YtacccpkmgkojiaaGreatDoorRRM08
import Derived.Test.YtacccpkmgkojiaaGreatDoorRRM09
import Derived.Test.YtacccpkmgkojiaaGreatDoorRRM10
import Derived.Test.YtacccpkmgkojiaaGreatDoorRRM14
import Derived.Test.YtacccpkmgkojiaaGreatDoorRRM15
import Derived.Test.YtacccpkmgkojiaaGreatDoorRRM17
import Derived.Test.YtacccpkmgkojiaaGreatDoorRRM18
import Derived.Test.YtacccpkmgkojiaaGreatDoorRRM19
import Derived.Test.YtacccpkmgkojiaaGreatDoorRRM21
import Derived.Test.YtacccpkmgkojiaaGreatDoorRRM22
import Derived.Test.YtacccpkmgkojiaaGreatDoorRRM24
import Derived.Test.YtacccpkmgkojiaaGreatDoorRRM25
namespace Go.Proofs.YtacccpkmgkojiaaGreatDoorRR
set_option linter.unusedVariables false
set_option linter.unusedSimpArgs false
set_option maxRecDepth 20000
set_option maxHeartbeats 8000000
open Go.RowKit Go.Maps
def Ta (T:Nat) (tk:Nat→Bool) (W:World):Prop:=∃ c,W.heap[T]?=some (.cells c 238 (0,0))∧c.size=96∧∀ q,q < 96→c[q]?=some (.bool (tk q))
theorem Ta.cell {T:Nat} {tk:Nat→Bool} {W:World} (h:Ta T tk W) (q:Nat) (hq:q < 96):W.cell? ⟨T,q,none⟩=some (.bool (tk q))∧W.frozen? ⟨T,q,none⟩=false:=by
 obtain⟨c,h1,h2,h3⟩:=h;exact⟨by rw [cell_of_row _ _ _ _ _ _ h1];exact h3 q hq,by simp [World.frozen?,h1]⟩
theorem Ta.lt {T:Nat} {tk:Nat→Bool} {W:World} (h:Ta T tk W):T < W.heap.size:=by
 obtain⟨c,h1,_⟩:=h;exact lt_blk h1
theorem Ta.same {T:Nat} {tk:Nat→Bool} {W W':World} (h:Ta T tk W) (e:W'.heap[T]?=W.heap[T]?):Ta T tk W':=by
 obtain⟨c,h1,h2⟩:=h;exact⟨c,e.trans h1,h2⟩
theorem Ta.eq {T:Nat} {tk tk':Nat→Bool} {W:World} (h:Ta T tk W) (e:∀ q,q < 96→tk' q=tk q):Ta T tk' W:=by
 obtain⟨c,h1,h2,h3⟩:=h;exact⟨c,h1,h2,fun q hq=>by rw [e q hq];exact h3 q hq⟩
theorem Ta.set {T:Nat} {tk:Nat→Bool} {W:World} (h:Ta T tk W) (k:Nat) (hk:k < 96):Ta T (fun q=>tk q || decide (q=k)) (W.setCell ⟨T,k,none⟩ (.bool true)):=by
 obtain⟨c,h1,h2,h3⟩:=h;refine⟨c.setIfInBounds k (.bool true),by simp [World.setCell,Array.getElem?_modify,h1],by simpa using h2,fun q hq=>?_⟩;rw [Array.getElem?_setIfInBounds]
 by_cases e:k=q
 ·subst e;simp [h2,hk]
 rw [if_neg e,h3 q hq];have:decide (q=k)=false:=by simp;omega
 dsimp only;rw [this,Bool.or_false]
theorem below_none9 {W W':World} (h:Below W.heap.size W W'):W.grownBy W' none:=⟨h.os,h.tape,h.output,h.size,fun k hk _=>h.block k hk⟩
def mkP9 (c:Option Nat):Value:=.pointer (c.map fun b=>⟨b,0,none⟩)
theorem zero260:Tryz.zeroCells238=Array.replicate 96 (.bool false):=by kernel_rfl
def metR (rg:List Rg9) (left:Lit→Bool):List Rg9:=rg.filter fun r => !left (.int .u64 (r.base:Nat))
theorem metR_none {rg:List Rg9} {left:Lit→Bool} (h:∀ r∈rg,left (.int .u64 (r.base:Nat))=true) (q:Nat):tkn (metR rg left) q=false:=by
 have:metR rg left=[]:=by
  unfold metR;rw [List.filter_eq_nil_iff];intro r hr;rw [h r hr];simp
 rw [this];rfl
theorem metR_all {rg:List Rg9} {left:Lit→Bool} (h:∀ kl,left kl=false):metR rg left=rg:=by
 unfold metR;rw [List.filter_eq_self];intro r hr;rw [h];rfl
theorem metR_step {rg:List Rg9} {left:Lit→Bool} {r:Rg9} (hr:r∈rg) (hu:∀ r'∈rg,r'.base=r.base→r'=r) (q:Nat):tkn (metR rg (fun z=>left z && !z.sameKey (.int .u64 (r.base:Nat)))) q=(tkn (metR rg left) q || (decide (r.first≤187+q) && decide (187+q < r.first+r.ext))):=by
 unfold tkn metR;rw [List.any_filter,List.any_filter]
 cases e:(decide (r.first≤187+q) && decide (187+q < r.first+r.ext)) with
 | true =>
  rw [Bool.or_true,List.any_eq_true];refine⟨r,hr,?_⟩;rw [e];simp [Lit.sameKey]
 | false =>
  rw [Bool.or_false];rw [Bool.eq_iff_iff,List.any_eq_true,List.any_eq_true];constructor
  ·rintro⟨x,hx,hc⟩;refine⟨x,hx,?_⟩
   by_cases ex:x.base=r.base
   ·have:=hu x hx ex;subst this;rw [e] at hc;simp at hc
   have hne:(Lit.int .u64 (x.base:Nat)).sameKey (.int .u64 (r.base:Nat))=false:=by
    simp [Lit.sameKey];omega
   dsimp only at hc;rw [hne] at hc;simpa using hc
  rintro⟨x,hx,hc⟩;refine⟨x,hx,?_⟩
  by_cases ex:x.base=r.base
  ·have:=hu x hx ex;subst this;rw [e] at hc;simp at hc
  have hne:(Lit.int .u64 (x.base:Nat)).sameKey (.int .u64 (r.base:Nat))=false:=by
   simp [Lit.sameKey];omega
  dsimp only;rw [hne];simpa using hc
theorem Inv.uniq {cf:Cf} {h:Hs} (i:Inv cf h) {r r':Rg9} (hr:r∈h.rg) (hr':r'∈h.rg) (e:r'.base=r.base):r'=r:=by
 have h1:=i.baseP hr;have h2:=i.baseP hr';have h3:=i.rgs r hr;have h4:=i.rgs r' hr';obtain⟨a,ha⟩:=List.getElem?_of_mem hr;obtain⟨b,hb⟩:=List.getElem?_of_mem hr';have la:=List.getElem?_eq_some_iff.1 ha;have lb:=List.getElem?_eq_some_iff.1 hb;have hp:=List.pairwise_iff_getElem.1 i.apart;unfold Rg9.ext at h3 h4
 rcases Nat.lt_trichotomy a b with hlt|heq|hlt
 ·have:=hp a b la.1 lb.1 hlt;rw [la.2,lb.2] at this;unfold Rg9.ext at this;rw [e] at h2;omega
 ·subst heq;rw [ha] at hb;exact (Option.some.inj hb).symm
 have:=hp b a lb.1 la.1 hlt;rw [la.2,lb.2] at this;unfold Rg9.ext at this;rw [e] at h2;omega
inductive RoR (W:World):Option Nat→Ending→World→Prop
 | yes (s:Nat) (W':World) (b:Below W.heap.size W W'):RoR W (some s) (.returned (Vi (s:Nat))) W'
 | no (W':World) (b:Below W.heap.size W W'):RoR W none (.panicked (refV 1)) W'
theorem im_room (B:Nat) (y:Ly) (d:Dy) (cf:Cf) (h:Hs) (n:Nat) (W:World) (hp:Hp B y d cf h W) (i:Inv cf h) (hn:1≤n) (hn2:n≤18014398509482000) :
  Calls Tryz.prog 132 #[.pointer (some ⟨y.P,0,none⟩),.int .i64 (n:Nat)] W (RoR W (roomL h n)):=by
 have HPB:=hid (fun V (hV:Below W.heap.size W V)=>hp.below hV);have HI:=hid i;have LS:=hid (fun V (hV:Below W.heap.size W V)=>im_LargeStart V (hp.below hV).tb);clear hp i;go_enter Tryz.func132,Tryz.ntmps132;go_upto_region 2 with fail
 have bT:Below W.heap.size W (W.alloc (.cells Tryz.zeroCells238 238)):=(Below.refl _ _).alloc (Nat.le_refl _) _;have T0:Ta W.heap.size (fun _=>false) (W.alloc (.cells Tryz.zeroCells238 238)):=⟨_,al_last W _,by rw [zero260];simp,fun q hq=>by rw [zero260];simp [hq]⟩;have hpV:=HPB.out _ bT;obtain⟨D,hown,hsz,hat,hhas⟩:=hpV.mp.map;have c115:=hpV.cell 115 (by omega) (.map (some y.R)) rfl;have HRlt:=hid (show y.R < (W.alloc (.cells Tryz.zeroCells238 238)).heap.size by obtain ⟨es,c,hR⟩:=hpV.mp.typ;exact lt_blk hR);have HRW:=hid (show y.R < W.heap.size by obtain ⟨es,c,hR⟩:=(HPB.out W (Below.refl _ _)).mp.typ;exact lt_blk hR);generalize W.alloc _=V at *;obtain⟨T,hT⟩:∃ T,T=W.heap.size:=⟨_,rfl⟩;rw [←hT] at T0 ⊢;have HT:=hid hT;clear hT;have HD:=hid (And.intro hat hhas);have HLB:=hid hpV.lb;have HLO:=hid hpV.lo;have BT:=hid bT;clear hpV hat hhas bT;go_wp2_with (at_range;refine wpList_range_own _ rfl _ 90 rfl 23 175 keyed22 Tryz.underlying90 ptrE y.R 4096 D rfl hown ?_;intro w0 hrg0 hg0 hs0)
 go_frame
 obtain⟨r,hr⟩:∃ r,r=V.heap.size:=⟨_,rfl⟩;have b0:Below V.heap.size V w0:=(Below.refl V.heap.size V).grown hg0 (Nat.le_refl _) (by simp);have T1:=hid (T0.same (b0.block _ T0.lt));have B0:=hid (BT.out.trans (b0.mono BT.out.size));have HTr:=hid (show T < r by rw [hr];exact T0.lt);have HrW:=hid (show W.heap.size≤r by rw [hr];exact BT.out.size);have HRr:=hid (show y.R < r by rw [hr];exact HRlt.out);rw [←hr] at hrg0 ⊢;have RG0:=hid hrg0;have TA0:=hid (T1.out.eq (tk':=tkn (metR h.rg (has D))) (fun q hq=>metR_none (fun r hr=>by
  have h1:=HI.out.baseP hr;rw [HD.out.2 r.base (by omega),HLO.out r.base];exact List.any_eq_true.2 ⟨r,hr,by simp⟩) q))
 clear hrg0 hg0 hs0 hown T0 T1 b0 hr c115 HRlt;go_loopw [7] (fun _ wr=>∃ (left:Lit→Bool) (cnt:Nat),Hid (wr.ranges Tryz.prog 23 ptrE y.R r 4096 D left cnt)∧Hid (Ta T (tkn (metR h.rg left)) wr)∧Hid (Below W.heap.size W wr)) (fun _ wr=>wr.rangeLeft y.R r)
 case atStart=>exact ⟨_,_,RG0,TA0,B0⟩
 case round =>
  obtain⟨left,cnt,hrg,hta,hbel⟩:=hrel;clear RG0 TA0 B0;go_wp2_with (at_next;refine wpList_next_ranges _ rfl _ rfl 23 keyed22 ptrE (Value.int .u64) mkP9 (fun key kl hk=>by obtain ⟨x,rfl,_⟩:=Maps.keyOf_int_inv Tryz.underlying23 hk;exact⟨x,rfl⟩) (fun v y hv=>by exact (ptrE_inv hv).elim (fun ⟨b,e,_⟩=>⟨some b,e⟩) (fun ⟨e,_⟩=>⟨none,e⟩)) y.R r 4096 D left cnt rfl hrg.out ?_ ?_)
  ·intro hc0 hl0;have TA:=hid (show Ta T (tkn h.rg) wr by have:=hta.out;rw [metR_all hl0] at this;exact this);clear hta hrg hc0 hl0 HD;have HEX:=hid (show ∀ r∈h.rg,187≤r.first∧1≤r.ext from fun r hr=>by
    have:=HI.out.rgs r hr;unfold Rg9.ext;omega)
   go_wp2;go_loopw [9,35] (fun fr i wq=>∃ k:Nat,k≤96∧i=.int .i64 k∧fr=.int .i64 (frn (tkn h.rg) k:Nat)∧Hid (∀ j,j≤k→frn (tkn h.rg) j < n)∧Hid (Ta T (tkn h.rg) wq)∧Hid (Below W.heap.size W wq)) (fun _ i _=>96 - (intOf i).toNat)
   case atStart=>exact ⟨0,Nat.zero_le _,rfl,rfl,hid (fun j hj=>by
    obtain rfl:j=0:=by omega
    show 0 < n;omega),TA,hbel⟩
   case round =>
    clear TA hbel;obtain⟨k,hk,rfl,rfl,HJ,TA,HB⟩:=hrel
    by_cases hlt:k < 96
    ·have hcell:=(TA.out.cell k hlt).1;have hfl:=frn_le (tkn h.rg) k;have HS:=hid (show frn (tkn h.rg) (k+1)=if tkn h.rg k then 0 else frn (tkn h.rg) k+1 from rfl);have HRS:=hid (fun h1=>roomL_some HEX.out hn hlt h1 HJ.out);generalize tkn h.rg k=tk at *
     cases tk with
     | true =>
      have HN:=hid (show ∀ j,j≤k+1→frn (tkn h.rg) j < n from fun j hj=>by
       by_cases e:j=k+1
       ·subst e;rw [HS.out];simp;omega
       exact HJ.out j (by omega))
      have h0n:((0:Int)==(n:Int))=false:=by simp;omega
      have HS2:=hid (show frn (tkn h.rg) (k+1)=0 by rw [HS.out];rfl);generalize frn (tkn h.rg) k=fk at *;clear HS HRS HJ;go_wp2;go_roundw
      case rel=>exact ⟨k+1,by omega,by go_num,by rw [HS2.out];rfl,HN,TA,HB⟩
      case measure=>simp [intOf];omega
     | false =>
      have HS2:=hid (show frn (tkn h.rg) (k+1)=frn (tkn h.rg) k+1 by rw [HS.out];rfl);have hjk:=HJ.out k (Nat.le_refl _);generalize hfk:frn (tkn h.rg) k=fk at *;clear hfk
      by_cases he:fk+1=n
      ·have HR:=hid (HRS.out (by rw [HS2.out];exact he));have hen:((fk:Int)+1==(n:Int))=true:=by simp;omega
       have LSw:=hid (LS.out wr HB.out);have HEQ:=hid (show ((187+(k+1 - n):Nat):Int)=187+(k:Int)+1 - (n:Int) by omega);clear HS HRS HJ HS2 he;go_wp2_with fail;refine (LSw.out).mono ?_;rintro e V9 ⟨rfl,b9⟩;have B9:=hid (HB.out.trans (b9.mono HB.out.size));clear b9 LSw;go_wp2;go_ret;rw [HR.out];have:=RoR.yes (W:=W) (187+(k+1 - n)) V9 B9.out;rw [HEQ.out] at this;exact this
      have HN:=hid (show ∀ j,j≤k+1→frn (tkn h.rg) j < n from fun j hj=>by
       by_cases e:j=k+1
       ·subst e;rw [HS2.out];omega
       exact HJ.out j (by omega))
      have hen:((fk:Int)+1==(n:Int))=false:=by simp;omega
      clear HS HRS HJ he;go_wp2;go_roundw
      case rel=>exact ⟨k+1,by omega,by go_num,by rw [HS2.out];simp,HN,TA,HB⟩
      case measure=>simp [intOf];omega
    obtain rfl:k=96:=by omega
    have HR:=hid (roomL_none HEX.out hn HJ.out);generalize frn (tkn h.rg) 96=fk at *;clear HJ;go_wp2;refine⟨rfl,?_⟩;rw [HR.out];exact .no _ HB.out
  intro x c kl yd yp w2 cnt2 hkey hlk hv hatk hrg2 hlt hg2 hs2 hen;obtain⟨x',ex,rfl,hwf⟩:=Maps.keyOf_int_inv Tryz.underlying23 hkey
  cases ex
  have hbx:=bounds_u64 hwf;obtain⟨kk,rfl⟩:∃ kk:Nat,x=(kk:Int):=⟨x.toNat,by omega⟩;have hhk:=has_true_of_atKey hatk;rw [HD.out.2 kk (by omega),HLO.out kk] at hhk;obtain⟨rr,hrm,hrb⟩:=List.any_eq_true.1 hhk;simp at hrb;subst hrb;obtain⟨g,hlg,lc⟩:=(HPB.out W (Below.refl _ _)).lcAt HI.out hrm;have e1:=hatk .nil;rw [HD.out.1 rr.base (by omega),hlg] at e1;obtain rfl:c=some g:=by
   cases c with
   | none=>simp [mkP9,ptrE] at hv;rw [←hv.1] at e1;simp [asD] at e1
   | some b =>
    simp [mkP9,ptrE] at hv;rw [←hv.1] at e1;simp [asD] at e1;have:b=g:=by omega
    rw [this]
  have b2:Below W.heap.size W w2:=hbel.out.grown hg2 hbel.out.size (fun j e=>by cases e;exact HrW.out);have B2:=hid b2;have TA2:=hid (hta.out.same (hg2.block _ hta.out.lt (fun e=>by simp at e;have:=HTr.out;omega)));have G2:=hid hrg2;have LE:=hid (And.intro hrg2.left_eq hrg.out.left_eq);have LC:=hid (fun V (hV:Below W.heap.size W V)=>lc.below hV);have EX:=hid (fun V (hV:Below W.heap.size W V)=>im_extent g rr V (lc.below hV));have hri:=HI.out.rgs rr hrm;have STEP:=hid (fun q=>metR_step (left:=left) hrm (fun r' h' e=>HI.out.uniq hrm h' e) q);have hGT:=hid (show g≠T by
   have:=(HPB.out W (Below.refl _ _)).lb rr hrm;obtain⟨g',h1,h2,h3⟩:=this;rw [hlg] at h1
   cases h1
   have:=lt_blk h3;rw [HT.out];omega)
  unfold mkP9 at hen ⊢;simp only [Option.map_some] at hen ⊢;have hex:rr.ext≤96:=by omega
  have hfi:rr.first≤283:=by omega
  have hf0:187≤rr.first:=by omega
  have hfe:rr.first+rr.ext≤283:=by omega
  clear hkey hlk hv hatk hrg2 hg2 hs2 hhk e1 hta hbel hrg hlg lc hri b2 hbx hwf;generalize hbse:rr.base=bs at *;clear hbse;go_wp2_with fail;refine (EX.out _ B2.out).mono ?_;rintro e w3 ⟨rfl,rfl⟩;clear EX;have G3:=hid (show w2.drew.ranges Tryz.prog 23 ptrE y.R r 4096 D (fun z=>left z && !z.sameKey (.int .u64 (bs:Nat))) cnt2 from G2.out.kept ((Below.refl w2.heap.size w2).drew |> below_none9) (by simp) (by simp));have TA3:=hid (show Ta T (fun q=>tkn (metR h.rg left) q || (decide (rr.first≤187+q) && decide (187+q < rr.first+0))) w2.drew from (TA2.out.same (W':=w2.drew) rfl).eq (fun q hq=>by
   have:(decide (rr.first≤187+q) && decide (187+q < rr.first+0))=false:=by simp <;> omega
   rw [this,Bool.or_false]))
  have B3:=hid (show Below W.heap.size W w2.drew from B2.out.drew);clear G2 TA2 B2 hen;generalize w2.drew=W3 at *;go_wp2;go_loopw [22] (fun i wq=>∃ k:Nat,k≤rr.ext∧i=.int .i64 k∧Hid (wq.ranges Tryz.prog 23 ptrE y.R r 4096 D (fun z=>left z && !z.sameKey (.int .u64 (bs:Nat))) cnt2)∧Hid (Ta T (fun q=>tkn (metR h.rg left) q || (decide (rr.first≤187+q) && decide (187+q < rr.first+k))) wq)∧Hid (Below W.heap.size W wq)) (fun i _=>rr.ext - (intOf i).toNat)
  case atStart=>exact ⟨0,Nat.zero_le _,rfl,G3,TA3,B3⟩
  case round =>
   clear G3 TA3 B3;obtain⟨k,hk,rfl,G,TA,HB⟩:=hrel
   by_cases hlk:k < rr.ext
   ·obtain⟨ix,hix⟩:∃ ix:Nat,rr.first=187+ix:=⟨rr.first - 187,by omega⟩
    obtain⟨ij,hij⟩:∃ ij,ij=ix+k:=⟨_,rfl⟩;have hi96:ij < 96:=by omega
    have CK:=hid (fun V (hV:Below W.heap.size W V)=>(LC.out V hV).c2);have LSw:=hid (fun V (hV:Below W.heap.size W V)=>LS.out V hV);have hw1:IntKind.i64.wrap ((rr.first:Int) - 187)=(ix:Int):=by rw [wrapI9 _ (by omega) (by omega)];omega
    have hw2:IntKind.i64.wrap ((ix:Int)+(k:Int))=(ij:Int):=by rw [wrapI9 _ (by omega) (by omega)];omega
    have HTE:=hid (show ∀ q,q < 96→(tkn (metR h.rg left) q || (decide (rr.first≤187+q) && decide (187+q < rr.first+(k+1))))=((tkn (metR h.rg left) q || (decide (rr.first≤187+q) && decide (187+q < rr.first+k))) || decide (q=ij)) from fun q hq=>by
     rw [hix,hij]
     by_cases e:q=ix+k
     ·subst e;simp;omega
     rw [show decide (q=ix+k)=false by simp [e],Bool.or_false];congr 2;exact decide_eq_decide.2 (by omega))
    generalize hfst:rr.first=fs at *
    clear hfst hix hij;go_upto_region 8 with fail
    refine wp_region_held (S:=fun W9=>W9.cell? ⟨g,2,none⟩=some (.int .i64 (fs:Nat))) (by kernel_rfl) ?_;simp only [List.size_toArray,List.length_cons,List.length_nil,Nat.reduceAdd,Array.replicate_succ,Array.replicate_zero,List.push_toArray,List.nil_append,List.cons_append];have hS:=CK.out wr.drew HB.out.drew;refine pk 0 25 (.pointer (some ⟨g,0,none⟩)) hS ?_;simp only [lz,l0,ls];refine pk 1 26 (.pointer (some ⟨g,0,none⟩)) hS ?_;simp only [lz,l0,ls];refine pk 2 27 (.pointer (some ⟨g,2,none⟩)) hS ?_;simp only [lz,l0,ls];refine pz 3 28 (.int .i64 (fs:Nat)) hS ?_;simp only [lz,l0,ls];refine pk 6 31 (.int .i64 (k:Nat)) hS ?_;simp only [lz,l0,ls];refine po 4 fun K' hK=>?_
    go_simp;refine (LSw.out _ HB.out.drew).mono ?_;rintro e U1 ⟨rfl,b1⟩;have k1:Below W.heap.size W U1:=HB.out.drew.trans (b1.mono HB.out.size);have q1:=CK.out _ k1;have b1w:Below wr.heap.size wr U1:=⟨b1.os,b1.tape,b1.output,b1.size,b1.block⟩;have ta1:=TA.out.same (b1w.block _ TA.out.lt);have g1:=G.out.kept (below_none9 b1w) (by simp) (by simp);refine hK.out _ _ ⟨q1,?_⟩;clear hS;have hS:=q1;obtain⟨cT,fT⟩:=ta1.cell ij hi96;clear hK K';refine pz 5 30 (.int .i64 (ix:Nat)) hS ?_;simp only [lz,l0,ls];refine pz 7 32 (.int .i64 (ij:Nat)) hS ?_;simp only [lz,l0,ls];refine pz 8 33 (.pointer (some ⟨T,ij,none⟩)) hS ?_;simp only [lz,l0,ls];refine po 9 fun K' hK=>?_
    go_simp;have ta2:=ta1.set ij hi96;have gr2:=grown_set (grown_refl U1 T) ij (.bool true);have g2:=g1.kept gr2 (by simp;have:=HRW.out;have:=HT.out;omega) (by simp;have:=HTr.out;omega);have k2:Below W.heap.size W (U1.setCell ⟨T,ij,none⟩ (.bool true)):=k1.grown gr2 k1.size (fun j e=>by simp at e;have:=HT.out;omega);have q2:=CK.out _ k2;refine hK.out _ _ ⟨q2,?_⟩;clear hK K';refine wpAnyH_done (by kernel_rfl) ?_ _;have FF:=hid (And.intro g2 (And.intro (ta2.eq HTE.out) k2));clear g2 ta2 k2 q2 k1 q1 ta1 g1 b1 b1w gr2 cT fT hS CK LSw HTE G TA HB;go_wp2;go_roundw
    case rel=>exact ⟨k+1,by omega,by go_num,hid FF.out.1,hid FF.out.2.1,hid FF.out.2.2⟩
    case measure=>simp [intOf];omega
   obtain rfl:k=rr.ext:=by omega
   have TA4:=hid (TA.out.eq (fun q hq=>STEP.out q));have LE4:=hid G.out.left_eq;go_wp2;go_roundw
   case rel=>exact ⟨_,cnt2,G,TA4,HB⟩
   case measure=>rw [LE4.out,LE.out.2];exact hlt
end Go.Proofs.YtacccpkmgkojiaaGreatDoorRR
namespace Go.Proofs.YtacccpkmgkojiaaGreatDoorRR
set_option linter.unusedVariables false
set_option linter.unusedSimpArgs false
set_option maxRecDepth 20000
set_option maxHeartbeats 8000000
open Go.RowKit Go.Maps
def cov (r:Rg9) (x:Nat):Bool:=decide (r.first≤x/1024) && decide (x/1024 < r.first+r.ext)
theorem im_indexFunc (B:Nat) (L:Nat) (r:Rg9) (va:Option Addr) (vn vc:Nat) (l:List Nat) (W:World) (h:W.ownsRow B 23 1 (.slice va vn vc) l.length (Us l)) (hl:l.length≤100000) (hx:∀ x∈l,x < 18446744073709551616) (lc:Lc L r W) :
  Calls Tryz.prog 168 #[.slice va vn vc,.func (.func 138) #[Vp L 0] #[]] W fun e W'=>Below W.heap.size W W'∧((e=.returned (Vi (-1))∧∀ x∈l,cov r x=false)∨∃ k:Nat,k < l.length∧e=.returned (Vi (k:Nat))∧cov r (l[k]?.getD 0)=true∧∀ j,j < k→cov r (l[j]?.getD 0)=false):=by
 obtain⟨rfl,hc⟩:=us_cells h;have HC:=hid hc;have CV:=hid (fun V (hV:Below W.heap.size W V) x (hx9:x < 18446744073709551616)=>im_covers L x r V (lc.below hV) hx9);have HX:=hid hx;clear hc h hx lc;obtain⟨n,hn⟩:∃ n,l.length=n:=⟨_,rfl⟩;rw [hn] at hl ⊢;have HN:=hid hn;clear hn;go_enter Tryz.func168,Tryz.ntmps168;go_wp2;go_loopw [8] (fun i wr=>∃ k:Nat,k≤n∧i=Vi k∧Hid (Below W.heap.size W wr)∧Hid (∀ j,j < k→cov r (l[j]?.getD 0)=false)) (fun i _=>n - (intOf i).toNat)
 case atStart=>exact ⟨0,Nat.zero_le _,rfl,hid (Below.refl _ _),hid (fun j hj=>by omega)⟩
 case round =>
  obtain⟨k,hk,rfl,HB,HJ⟩:=hrel
  by_cases hlt:k < n
  ·obtain⟨g,rfl,hcell⟩:=HC.out k (by rw [HN.out];exact hlt);have hcell2:=below_cell HB.out hcell;have hq9:l[k]?.getD 0 < 18446744073709551616:=HX.out _ (by rw [List.getElem?_eq_getElem (by rw [HN.out];exact hlt)];exact List.getElem_mem _);clear hcell;generalize hq:l[k]?.getD 0=q at *;have HQ:=hid hq;clear hq;have CVq:=hid (CV.out wr HB.out q hq9);rw [show (decide (r.first≤q/1024) && decide (q/1024 < r.first+r.ext))=cov r q from rfl] at CVq;go_wp2_with fail;refine (CVq.out).mono ?_;rintro e V ⟨rfl,bV⟩;have BV:=hid (HB.out.trans (bV.mono HB.out.size));clear bV CVq
   cases hcv:cov r q with
   | true =>
    go_wp2;go_ret;exact⟨BV.out,.inr ⟨k,hlt,rfl,by rw [HQ.out];exact hcv,HJ.out⟩⟩
   | false =>
    have HJ2:=hid (show ∀ j,j < k+1→cov r (l[j]?.getD 0)=false from fun j hj=>by
     rcases Nat.lt_succ_iff_lt_or_eq.1 hj with h1|h1
     ·exact HJ.out j h1
     subst h1;rw [HQ.out];exact hcv)
    clear HJ;go_wp2;go_roundw
    case rel=>exact ⟨k+1,by omega,by go_num,BV,HJ2⟩
    case measure=>simp [intOf];omega
  obtain rfl:k=n:=by omega
  go_wp2;go_ret;refine⟨HB.out,.inl ⟨rfl,fun x hx=>?_⟩⟩;obtain⟨j,hj⟩:=List.getElem?_of_mem hx;have hjl:=(List.getElem?_eq_some_iff.1 hj).1;have:=HJ.out j (by rw [←HN.out];exact hjl);rw [hj] at this;exact this
def keepJ (r:Rg9) (l:List Nat) (j:Nat):List Nat:=(l.take j).filter fun x => !cov r x
theorem keepJ_succ (r:Rg9) (l:List Nat) (j:Nat) (h:j < l.length):keepJ r l (j+1)=keepJ r l j++(if cov r (l[j]?.getD 0) then [] else [l[j]?.getD 0]):=by
 unfold keepJ;rw [List.take_add_one,List.filter_append,List.getElem?_eq_getElem h];congr 1;simp only [Option.toList_some,Option.getD_some,List.filter_cons,List.filter_nil]
 cases cov r l[j] <;> rfl
theorem keepJ_first (r:Rg9) (l:List Nat) (k:Nat) (hk:k≤l.length) (h:∀ j,j < k→cov r (l[j]?.getD 0)=false):keepJ r l k=l.take k:=by
 unfold keepJ;rw [List.filter_eq_self];intro x hx;obtain⟨j,hj⟩:=List.getElem?_of_mem hx;have hjl:=(List.getElem?_eq_some_iff.1 hj).1;rw [List.length_take] at hjl;rw [List.getElem?_take_of_lt (by omega)] at hj;have:=h j (by omega);rw [hj] at this;simp at this;rw [this];rfl
theorem keepJ_len (r:Rg9) (l:List Nat) (j:Nat):(keepJ r l j).length≤j:=by
 unfold keepJ;have:=List.length_filter_le (fun x => !cov r x) (l.take j);rw [List.length_take] at this;omega
theorem keepJ_lt (r:Rg9) (l:List Nat) (k j:Nat) (hk:k < j) (hj:j≤l.length) (hc:cov r (l[k]?.getD 0)=true):(keepJ r l j).length < j:=by
 induction j with
 | zero=>omega
 | succ j ih =>
  rw [keepJ_succ r l j (by omega),List.length_append];have h1:=keepJ_len r l j
  by_cases e:k=j
  ·subst e;rw [if_pos hc];simp;omega
  have:=ih (by omega) (by omega)
  split <;> simp <;> omega
structure Ct (g cap n:Nat) (l:List Nat) (is:List Nat) (j:Nat) (W:World):Prop where
 row:∃ c,W.heap[g]?=some (.cells c 23 (0,0))∧c.size=cap∧(∀ q,q < is.length→c[q]?=some (Vu ((is[q]?.getD 0:Nat):Int)))∧∀ q,j≤q→q < n→c[q]?=some (Vu ((l[q]?.getD 0:Nat):Int))
theorem Ct.cell {g cap n:Nat} {l is:List Nat} {j:Nat} {W:World} (h:Ct g cap n l is j W) {q:Nat} (h1:j≤q) (h2:q < n):W.cell? ⟨g,q,none⟩=some (Vu ((l[q]?.getD 0:Nat):Int)):=by
 obtain⟨c,a1,a2,a3,a4⟩:=h.row;rw [cell_of_row _ _ _ _ _ _ a1];exact a4 q h1 h2
theorem Ct.free {g cap n:Nat} {l is:List Nat} {j:Nat} {W:World} (h:Ct g cap n l is j W) (q:Nat):W.frozen? ⟨g,q,none⟩=false:=by
 obtain⟨c,a1,_⟩:=h.row;simp [World.frozen?,a1]
theorem Ct.anyC {g cap n:Nat} {l is:List Nat} {j:Nat} {W:World} (h:Ct g cap n l is j W) {q:Nat} (hq:q < cap):∃ v,W.cell? ⟨g,q,none⟩=some v:=by
 obtain⟨c,a1,a2,_⟩:=h.row;rw [cell_of_row _ _ _ _ _ _ a1];exact⟨_,Array.getElem?_eq_getElem (by omega)⟩
theorem Ct.same {g cap n:Nat} {l is:List Nat} {j:Nat} {W W':World} (h:Ct g cap n l is j W) (e:W'.heap[g]?=W.heap[g]?):Ct g cap n l is j W':=by
 obtain⟨c,a1,a2⟩:=h.row;exact⟨c,e.trans a1,a2⟩
theorem Ct.lt {g cap n:Nat} {l is:List Nat} {j:Nat} {W:World} (h:Ct g cap n l is j W):g < W.heap.size:=by
 obtain⟨c,a1,_⟩:=h.row;exact lt_blk a1
theorem Ct.skip {g cap n:Nat} {l is:List Nat} {j:Nat} {W:World} (h:Ct g cap n l is j W):Ct g cap n l is (j+1) W:=by
 obtain⟨c,a1,a2,a3,a4⟩:=h.row;exact⟨c,a1,a2,a3,fun q h1 h2=>a4 q (by omega) h2⟩
theorem Ct.put {g cap n:Nat} {l is:List Nat} {j:Nat} {W:World} (h:Ct g cap n l is j W) (x:Nat) (hi:is.length≤j) (hj:j < n) (hn:n≤cap):Ct g cap n l (is++[x]) (j+1) (W.setCell ⟨g,is.length,none⟩ (Vu (x:Nat))):=by
 obtain⟨c,a1,a2,a3,a4⟩:=h.row;refine⟨c.setIfInBounds is.length (Vu (x:Nat)),by simp [World.setCell,Array.getElem?_modify,a1],by simpa using a2,fun q hq=>?_,fun q h1 h2=>?_⟩
 ·rw [Array.getElem?_setIfInBounds]
  by_cases e:is.length=q
  ·subst e;simp;omega
  rw [if_neg e];have hq2:q < is.length:=by simp at hq;omega
  rw [a3 q hq2,List.getElem?_append_left hq2]
 rw [Array.getElem?_setIfInBounds,if_neg (by omega)];exact a4 q (by omega) h2
end Go.Proofs.YtacccpkmgkojiaaGreatDoorRR
namespace Go.Proofs.YtacccpkmgkojiaaGreatDoorRR
set_option linter.unusedVariables false
set_option linter.unusedSimpArgs false
set_option maxRecDepth 20000
set_option maxHeartbeats 8000000
open Go.RowKit Go.Maps
theorem zero22 (w:World):(zeroValue 23).run Tryz.prog w=.ok (Vu 0) w:=by kernel_rfl
theorem setCells_grown (w:World) (g:Nat):∀ (vs:List Value) (o:Nat) (w0:World),w0.grownBy w (some g)→w0.grownBy (w.setCells g o vs) (some g)
 | [],o,w0,h=>h
 | v::vs,o,w0,h=>by
  show w0.grownBy ((w.setCell ⟨g,o,none⟩ v).setCells g (o+1) vs) (some g)
  exact setCells_grown _ g vs (o+1) w0 (grown_set h o v)
theorem Ct.cells {g cap n:Nat} {l is:List Nat} {j:Nat} : ∀ (vs:List Value) (o:Nat) {W:World},Ct g cap n l is j W→is.length≤o→n≤j→Ct g cap n l is j (W.setCells g o vs)
 | [],o,W,h,_,_=>h
 | v::vs,o,W,h,ho,hn=>by
  show Ct g cap n l is j ((W.setCell ⟨g,o,none⟩ v).setCells g (o+1) vs)
  refine Ct.cells vs (o+1) ?_ (by omega) hn
  obtain⟨c,a1,a2,a3,a4⟩:=h.row
  refine⟨c.setIfInBounds o v,by simp [World.setCell,Array.getElem?_modify,a1],by simpa using a2,fun q hq=>?_,fun q h1 h2=>by omega⟩
  rw [Array.getElem?_setIfInBounds,if_neg (by omega)]
  exact a3 q hq
theorem Ct.own {B g cap n:Nat} {l is:List Nat} {j:Nat} {W:World} (h:Ct g cap n l is j W) (hB:B≤g) (hi:is.length≤cap) (hc:cap≤maxLen):W.ownsRow B 23 1 (Vl g is.length cap) is.length (Us is):=by
 obtain⟨c,a1,a2,a3,a4⟩:=h.row;refine⟨by simp [Us],.inr ⟨g,cap,c,rfl,hB,a1,hi,hc,by omega,?_⟩⟩;rw [Nat.mul_one];apply List.ext_getElem?;intro q
 by_cases hq:q < is.length
 ·rw [List.getElem?_take_of_lt hq,Array.getElem?_toList,a3 q hq];simp [Us,hq]
 rw [List.getElem?_eq_none (by simp;omega),List.getElem?_eq_none (by simp [Us];omega)]
def DlR (B:Nat) (va:Option Addr) (vn vc:Nat) (l':List Nat) (W:World) (e:Ending) (W':World):Prop:=∃ v',e=.returned v'∧W'.ownsRow B 23 1 v' l'.length (Us l')∧W.grownBy W' (Value.slice va vn vc).ownBlock∧v'.ownBlock=(Value.slice va vn vc).ownBlock
theorem grown_below {W V V':World} {o:Option Nat} (h:W.grownBy V o) (b:Below V.heap.size V V'):W.grownBy V' o:=⟨b.os.trans h.os,b.tape.trans h.tape,b.output.trans h.output,Nat.le_trans h.size b.size,fun k hk hne=>(b.block k (Nat.lt_of_lt_of_le hk h.size)).trans (h.block k hk hne)⟩
theorem im_deleteFunc (B:Nat) (L:Nat) (r:Rg9) (va:Option Addr) (vn vc:Nat) (l:List Nat) (W:World) (h:W.ownsRow B 23 1 (.slice va vn vc) l.length (Us l)) (hl:l.length≤100000) (hx:∀ x∈l,x < 18446744073709551616) (lc:Lc L r W) (hL:∃ c,W.heap[L]?=some (.cells c 188 (0,0))) :
  Calls Tryz.prog 137 #[.slice va vn vc,.func (.func 138) #[Vp L 0] #[]] W (DlR B va vn vc (l.filter fun x => !cov r x) W):=by
 have IX:=hid (im_indexFunc B L r va vn vc l W h hl hx lc);have hvn:=(us_cells h).1;subst hvn;have HO:=hid h;have HX:=hid hx;have HLc:=hid lc;have HL:=hid hL;clear h hx lc hL;go_enter Tryz.func137,Tryz.ntmps137;go_wp2_with fail;refine (IX.out).mono ?_;rintro e V ⟨bV,⟨rfl,hno⟩|⟨k,hk,rfl,hcv,hfirst⟩⟩
 ·have HF:=hid (show l.filter (fun x => !cov r x)=l by rw [List.filter_eq_self];intro x hx;rw [hno x hx];rfl);have BV:=hid bV;clear bV IX hno;go_wp2;go_ret;rw [HF.out];exact⟨_,rfl,own_bel HO.out BV.out,grown_below ⟨rfl,rfl,rfl,Nat.le_refl _,fun _ _ _=>rfl⟩ BV.out,rfl⟩
 obtain⟨g,hg⟩:=own_at HO.out (by omega);subst hg;have hrow:∃ cap cur,vc=cap∧B≤g∧W.heap[g]?=some (.cells cur 23 (0,0))∧l.length≤cap∧cap≤maxLen∧cur.size=cap∧cur.toList.take l.length=Us l:=by
  rcases HO.out.2 with ⟨e,_⟩|⟨g',cap,cur,e,h1,h2,h3,h4,h5,h6⟩
  ·cases e
  cases e
  exact⟨vc,cur,rfl,h1,h2,h3,h4,by omega,by simpa using h6⟩
 obtain⟨cap,cur,rfl,hB,hcur,hlc,hcm,hcs,htk⟩:=hrow;have CT0:Ct g vc l.length l (keepJ r l k) (k+1) V:=by
  refine⟨cur,(bV.block _ (lt_blk hcur)).trans hcur,hcs,fun q hq=>?_,fun q h1 h2=>?_⟩
  ·rw [keepJ_first r l k (by omega) hfirst] at hq ⊢;rw [List.length_take] at hq;have e1:(cur.toList.take l.length)[q]?=(Us l)[q]?:=by rw [htk]
   rw [List.getElem?_take_of_lt (by omega),Array.getElem?_toList] at e1;rw [e1,List.getElem?_take_of_lt (by omega)];simp [Us,show q < l.length by omega]
  have e1:(cur.toList.take l.length)[q]?=(Us l)[q]?:=by rw [htk]
  rw [List.getElem?_take_of_lt (by omega),Array.getElem?_toList] at e1;rw [e1];simp [Us,h2]
 have hk1:keepJ r l (k+1)=keepJ r l k:=by rw [keepJ_succ r l k hk,if_pos hcv,List.append_nil]
 have hkl:(keepJ r l k).length=k:=by rw [keepJ_first r l k (by omega) hfirst,List.length_take];omega
 have KL:=hid (fun j (h1:k < j) (h2:j≤l.length)=>keepJ_lt r l k j h1 h2 hcv);have GR0:=hid (grown_below (grown_refl W g) bV);have CT1:=hid (show Ct g vc l.length l (keepJ r l (k+1)) (k+1) V by rw [hk1];exact CT0);have HKL:=hid (show (keepJ r l (k+1)).length=k by rw [hk1];exact hkl);have KS:=hid (fun j h1=>keepJ_succ r l j h1);have KW:=hid (show keepJ r l l.length=l.filter (fun x => !cov r x) by unfold keepJ;rw [List.take_length]);have CV:=hid (fun U (hU:W.grownBy U (some g)) x (hx9:x < 18446744073709551616)=>im_covers L x r U (by
  obtain⟨c,hc⟩:=HL.out;have hne:L≠g:=fun e=>by rw [e,hcur] at hc;simp at hc
  have e1:U.heap[L]?=W.heap[L]?:=hU.block L (lt_blk hc) (by simpa using hne);have cc:∀ i,U.cell? ⟨L,i,none⟩=W.cell? ⟨L,i,none⟩:=fun i=>by unfold World.cell?;rw [e1]
  exact⟨(cc 0).trans HLc.out.c0,(cc 1).trans HLc.out.c1,(cc 2).trans HLc.out.c2,(cc 3).trans HLc.out.c3,(cc 4).trans HLc.out.c4,HLc.out.hf,HLc.out.hu,HLc.out.hp⟩) hx9)
 clear CT0 hk1 hkl IX bV HO hcur htk hcs HL HLc hfirst hcv;generalize hn:l.length=n at *;have HN:=hid hn;clear hn;have hne1:((k:Int) == -1)=false:=by simp <;> omega
 go_wp2;go_loopw [5,6] (fun i j wr=>∃ jj:Nat,k < jj∧jj≤n∧j=Vi jj∧i=Vi ((keepJ r l jj).length:Nat)∧Hid (Ct g vc n l (keepJ r l jj) jj wr)∧Hid (W.grownBy wr (some g))) (fun _ j _=>n - (intOf j).toNat)
 case atStart=>exact ⟨k+1,by omega,by omega,by go_num,by rw [HKL.out],CT1,GR0⟩
 case round =>
  clear CT1 GR0;obtain⟨j,hkj,hj,rfl,rfl,CT,GR⟩:=hrel
  by_cases hlt:j < n
  ·have hcell:=CT.out.cell (Nat.le_refl j) hlt;have hq9:l[j]?.getD 0 < 18446744073709551616:=HX.out _ (by rw [List.getElem?_eq_getElem (by rw [HN.out];exact hlt)];exact List.getElem_mem _);have HS:=hid (KS.out j hlt);have hkl:=keepJ_len r l j;generalize hq:l[j]?.getD 0=q at *;clear hq;have CVq:=hid (CV.out wr GR.out q hq9);rw [show (decide (r.first≤q/1024) && decide (q/1024 < r.first+r.ext))=cov r q from rfl] at CVq;generalize hks:keepJ r l j=is at *;clear hks;go_wp2_with fail;refine (CVq.out).mono ?_;rintro e U ⟨rfl,bU⟩;have CT2:=hid (CT.out.same (bU.block _ CT.out.lt));have GR2:=hid (grown_below GR.out bU);clear bU CVq hcell CT GR
   cases hcv:cov r q with
   | true =>
    have HS2:=hid (show keepJ r l (j+1)=is by rw [HS.out,hcv];simp);clear HS;go_wp2;go_roundw
    case rel=>exact ⟨j+1,by omega,by omega,by go_num,by rw [HS2.out],hid (by rw [HS2.out];exact CT2.out.skip),GR2⟩
    case measure=>simp [intOf];omega
   | false =>
    have HS2:=hid (show keepJ r l (j+1)=is++[q] by rw [HS.out,hcv];simp);obtain⟨v0,c0⟩:=CT2.out.anyC (q:=is.length) (by omega);have f0:=CT2.out.free is.length;have CT3:=hid (CT2.out.put q hkl hlt hlc);have GR3:=hid (grown_set GR2.out is.length (Vu (q:Nat)));have hii:(is.length:Int) < (n:Int):=by omega
    clear HS CT2 GR2;generalize hil:is.length=il at *;have HIL:=hid hil;clear hil;go_wp2;go_roundw
    case rel=>exact ⟨j+1,by omega,by omega,by go_num,by rw [HS2.out,List.length_append,HIL.out];simp,hid (by rw [HS2.out];exact CT3.out),GR3⟩
    case measure=>simp [intOf];omega
  obtain rfl:j=n:=by omega
  have hlk:=KL.out j hkj (Nat.le_refl _);generalize hks:keepJ r l j=is at *;have HKS:=hid hks;clear hks;have hcl:∀ ty,(Builtin.clear_ #[35] ty #[.slice (some ⟨g,is.length,none⟩) (j - is.length) (vc - is.length)]).run Tryz.prog wr=.ok (.tuple #[]) (wr.setCells g is.length (List.replicate (j - is.length) (Vu 0))) :=
   fun ty=>Lib.run_clear_slice wr 35 23 ty (Vu 0) Tryz.underlying35 zero22 rfl rfl g is.length _ _ (by omega) (fun q hq=>by obtain ⟨v,hv⟩:=CT.out.anyC (q:=is.length+q) (by omega);rw [hv];rfl) (fun q hq=>CT.out.free _)
  have CT5:=hid (CT.out.cells (List.replicate (j - is.length) (Vu 0)) is.length (Nat.le_refl _) (Nat.le_refl _));have GR5:=hid (setCells_grown wr g (List.replicate (j - is.length) (Vu 0)) is.length W GR.out);clear CT GR;generalize hil:is.length=il at *;have HIL:=hid hil;clear hil;go_wp2;go_ret;refine⟨_,rfl,?_,GR5.out,rfl⟩;have ho:=CT5.out.own hB (by rw [HIL.out];omega) hcm;rw [HIL.out] at ho;rw [←KW.out,HIL.out];exact ho
end Go.Proofs.YtacccpkmgkojiaaGreatDoorRR
namespace Go.Proofs.YtacccpkmgkojiaaGreatDoorRR
set_option linter.unusedVariables false
set_option linter.unusedSimpArgs false
set_option maxRecDepth 20000
set_option maxHeartbeats 8000000
open Go.RowKit Go.Maps
theorem turned_fr {W W':World} {R:Nat} (mt:W.mapTurned W' R):Fr R R (fun _=>none) (fun _=>none) W W':=(Fr.refl R R (fun _=>none) W).turned mt
theorem turned_ky {W W':World} {R:Nat} (mt:W.mapTurned W' R) (hR:∃ es c,W.heap[R]?=some (.map es c)):Ky (fun _=>False) W W':=by
 have f:=turned_fr mt;obtain⟨es,c,h1⟩:=hR;refine⟨f.os,f.tape,f.output,f.size,fun g cc t fr hg _=>?_⟩;have hne:g≠R:=fun e=>by rw [e,h1] at hg;cases hg
 rw [f.block g (lt_blk hg) hne hne (fun k hk=>by cases hk)];exact hg
theorem wpo_delete (tm tx:TypeId) {o:Oper} {a:Act} {W W':World} {K:Act→World→Prop} {Q:Exit→Act→World→Prop} (m x:Operand) {vm vx v:Value} (hop:o.op=Op.call { callee:=Callee.builtin Builtin.delete,args:=#[m,x],argTypes:=#[tm,tx] }) (hm:a.eval m=vm) (hx:a.eval x=vx)
  (hrun:(Builtin.delete_ #[tm,tx] o.type #[vm,vx]).run Tryz.prog W=.ok v W') (hK:K (a.put o.dst v) W'):Oper.wp Tryz.prog o a W K Q:=by
 unfold Oper.wp;simp [execOp,hop,resolve,invoke,builtin,hm,hx,hrun,Result.andThen];exact hK
theorem wpo_update (tm:TypeId) {o:Oper} {a:Act} {W W':World} {K:Act→World→Prop} {Q:Exit→Act→World→Prop} (m x u:Operand) {vm vx vu:Value} (hop:o.op=Op.mapUpdate tm m x u) (hm:a.eval m=vm) (hx:a.eval x=vx) (hu:a.eval u=vu)
  (hrun:(Instr.mapUpdate tm vm vx vu).run Tryz.prog W=.ok () W') (hK:K (a.put o.dst undef) W'):Oper.wp Tryz.prog o a W K Q:=by
 unfold Oper.wp;simp [execOp,hop,hm,hx,hu,hrun,Result.andThen];exact hK
theorem Ky.cellK {W W':World} (k:Ky (fun _=>False) W W') {g i:Nat} {v:Value} (h:W.cell? ⟨g,i,none⟩=some v):W'.cell? ⟨g,i,none⟩=some v:=by
 unfold World.cell? at h ⊢
 split at h
 case h_1 c t f hg =>
  rw [k.cells g c t f hg (fun e=>e)];exact h
 case h_2=>cases h
theorem Hp.turn {B:Nat} {y:Ly} {d:Dy} {cf:Cf} {h:Hs} {W W':World} (hp:Hp B y d cf h W) (mt:W.mapTurned W' y.R) (lg':Nat→Option Nat) (rg':List Rg9) (mr:Mr y.R rg'.length lg' W') (lo:∀ k,(lg' k).isSome=rg'.any fun r=>r.base==k) (lb:∀ r∈rg',∃ g,lg' r.base=some g∧B≤g∧W.heap[g]?=some (.cells (lgC r) 188 (0,0))) (li:∀ k k' g,lg' k=some g→lg' k'=some g→k=k') :
  Hp B y { d with lg:=lg' } cf { h with rg:=rg' } W'∧Bi B W W':=by
 have f:=turned_fr mt;have k:=turned_ky mt hp.mp.typ;have bl:Below B W W':=⟨f.os,f.tape,f.output,f.size,fun g hg=>f.block g (Nat.lt_of_lt_of_le hg hp.bW) (by have:=hp.ap.bR;omega) (by have:=hp.ap.bR;omega) (fun j hj=>by cases hj)⟩;have hM:W'.heap[y.M]?=W.heap[y.M]?:=f.block _ hp.sp.lt.2 hp.ap.mr hp.ap.mr (fun j hj=>by cases hj);exact⟨⟨hp.ap,Nat.le_trans hp.bW bl.size,hp.box.ky k (fun e=>e),hp.ds.belowB bl hp.ap.da,hp.sp.ky k (fun e=>e) hM,hp.pg.ky k (fun e=>e),hp.bf,
 fun c s hc hs=>k.cells _ _ _ _ (hp.sl c s hc hs) (fun e=>e),fun c s hc hs=>row_ky (hp.rw c s hc hs) k (fun e=>e),fun c s j hc hs hj=>k.cells _ _ _ _ (hp.sm c s j hc hs hj) (fun e=>e),
 fun c hc=>(hp.wt c hc).ky k (fun e=>e) (fun e=>e) (fun e=>e),mr,lo,fun r hr=>by obtain ⟨g,h1,h2,h3⟩:=lb r hr;exact⟨g,h1,h2,k.cells _ _ _ _ h3 (fun e=>e)⟩,li,hp.ro.ky k (fun e=>e),own_ky hp.rl k (fun e=>e),hp.rr,hp.tb.belowB bl hp.ap.b0⟩,bl,k.more (fun t e=>e.elim)⟩
theorem Hp.addR {B:Nat} {y:Ly} {d:Dy} {cf:Cf} {h:Hs} {W W':World} (hp:Hp B y d cf h W) {r:Rg9} {L:Nat} (hL:W.heap[L]?=some (.cells (lgC r) 188 (0,0))) (hBL:B≤L) (hnew:∀ k,d.lg k≠some L) (h0:d.lg r.base=none) (mr:Mr y.R (h.rg.length+1) (upd d.lg r.base (some L)) W') (mt:W.mapTurned W' y.R) :
  Hp B y { d with lg:=upd d.lg r.base (some L) } cf { h with rg:=h.rg++[r] } W'∧Bi B W W':=by
 refine hp.turn mt _ (h.rg++[r]) (by rw [List.length_append];exact mr) (fun k=>?_) (fun r' hr'=>?_) (fun k k' g h1 h2=>?_)
 ·rw [List.any_append]
  by_cases e:k=r.base
  ·subst e;rw [upd_same];simp
  rw [upd_other _ _ _ _ e,hp.lo k];have:(r.base==k)=false:=by simp;omega
  simp [this]
 ·rcases List.mem_append.1 hr' with h1|h1
  ·obtain⟨g,a1,a2,a3⟩:=hp.lb r' h1;have hne:r'.base≠r.base:=fun e=>by rw [e,h0] at a1;cases a1
   exact⟨g,by rw [upd_other _ _ _ _ hne];exact a1,a2,a3⟩
  have:r'=r:=by simpa using h1
  subst this;exact⟨L,upd_same _ _ _,hBL,hL⟩
 by_cases e:k=r.base
 ·subst e;rw [upd_same] at h1
  cases h1
  by_cases e':k'=r.base
  ·exact e'.symm
  rw [upd_other _ _ _ _ e'] at h2;exact absurd h2 (hnew k')
 rw [upd_other _ _ _ _ e] at h1
 by_cases e':k'=r.base
 ·subst e';rw [upd_same] at h2
  cases h2
  exact absurd h1 (hnew k)
 rw [upd_other _ _ _ _ e'] at h2;exact hp.li k k' g h1 h2
theorem Hp.backR {B:Nat} {y:Ly} {d:Dy} {cf:Cf} {h:Hs} {W W':World} {r:Rg9} {L:Nat} {lg:Nat→Option Nat} (hp:Hp B y d cf { h with rg:=h.rg++[r] } W) (hd:d.lg=upd lg r.base (some L)) (h0:lg r.base=none) (lo:∀ k,(lg k).isSome=h.rg.any fun r=>r.base==k) (mr:Mr y.R h.rg.length (upd d.lg r.base none) W') (mt:W.mapTurned W' y.R) :
  Hp B y { d with lg:=lg } cf h W'∧Bi B W W':=by
 have e1:upd d.lg r.base none=lg:=by
  rw [hd]
  funext k
  by_cases e:k=r.base
  ·subst e;rw [upd_same,h0]
  rw [upd_other _ _ _ _ e,upd_other _ _ _ _ e]
 rw [e1] at mr;have ne:∀ r'∈h.rg,r'.base≠r.base:=fun r' hr' e=>by
  have:=lo r'.base;rw [e,h0] at this;have h2:h.rg.any (fun x=>x.base==r.base)=true:=List.any_eq_true.2 ⟨r',hr',by simp [e]⟩;rw [h2] at this
  cases this
 exact hp.turn mt lg h.rg mr lo (fun r' hr'=>by
  obtain⟨g,a1,a2,a3⟩:=hp.lb r' (List.mem_append_left _ hr');rw [hd,upd_other _ _ _ _ (ne r' hr')] at a1;exact⟨g,a1,a2,a3⟩) (fun k k' g h1 h2=>by
  have q:∀ k,lg k=some g→d.lg k=some g:=fun k hk=>by
   rw [hd]
   by_cases e:k=r.base
   ·subst e;rw [h0] at hk;cases hk
   rw [upd_other _ _ _ _ e];exact hk
  exact hp.li k k' g (q k h1) (q k' h2))
theorem im_undoR (B:Nat) (y:Ly) (d:Dy) (cf:Cf) (h:Hs) (r:Rg9) (L X2 X5:Nat) (lg:Nat→Option Nat) (W:World) (hp:Hp B y d cf { h with rg:=h.rg++[r] } W) (hd:d.lg=upd lg r.base (some L)) (h0:lg r.base=none) (lo:∀ k,(lg k).isSome=h.rg.any fun r=>r.base==k) (lc:Lc L r W) (hb:r.base < 18446744073709551616)
  (x2:W.cell? ⟨X2,0,none⟩=some (Vp y.P 0)) (x5:W.cell? ⟨X5,0,none⟩=some (Vp L 0)) :
  Calls Tryz.prog 136 #[Vp X2 0,Vp X5 0] W fun e W'=>e=.returned (.tuple #[])∧Hp B y { d with lg:=lg } cf h W'∧Bi B W W':=by
 have c115:W.cell? ⟨y.P,115,none⟩=some (.map (some y.R)):=hp.cell 115 (by omega) _ rfl;have LB:=hid (fun V (hV:Below W.heap.size W V)=>im_lbase L r V (lc.below hV));have HPB:=hid (fun V (hV:Below W.heap.size W V)=>hp.below hV);have BKR:=hid (fun V W' (hV:Below W.heap.size W V) (mr:Mr y.R h.rg.length (upd d.lg r.base none) W') (mt:V.mapTurned W' y.R)=>(hp.below hV).backR hd h0 lo mr mt);have HBW:=hid hp.bW;have HDL:=hid (show ((d.lg r.base).isSome=true) by rw [hd,upd_same];rfl);have CK:=hid (show ∀ V,Below W.heap.size W V→V.cell? ⟨X2,0,none⟩=some (Vp y.P 0)∧V.cell? ⟨X5,0,none⟩=some (Vp L 0)∧V.cell? ⟨y.P,115,none⟩=some (.map (some y.R)) from fun V hV=>⟨below_cell hV x2,below_cell hV x5,below_cell hV c115⟩);clear hp hd h0 lo lc x2 x5 c115;go_enter Tryz.func136,Tryz.ntmps136;go_wp2;refine wp_region_held (S:=fun W9=>W9.cell? ⟨X2,0,none⟩=some (Vp y.P 0)∧W9.cell? ⟨X5,0,none⟩=some (Vp L 0)∧W9.cell? ⟨y.P,115,none⟩=some (.map (some y.R))) (by kernel_rfl) ?_;simp only [List.size_toArray,List.length_cons,List.length_nil,Nat.reduceAdd,Array.replicate_succ,Array.replicate_zero,List.push_toArray,List.nil_append,List.cons_append];have hS:=CK.out _ (Below.refl _ _).drew
 iterate 5 (refine py hS ?_;simp only [f0,f1,Nat.reduceAdd,lz,l0,ls])
 refine po 5 fun K' hK=>?_
 go_simp;refine (LB.out _ (Below.refl _ _).drew).mono ?_;rintro e U1 ⟨rfl,rfl⟩;have h1:=CK.out W.drew.drew (Below.refl _ _).drew.drew;refine hK.out _ _ ⟨h1,?_⟩;clear hS;have hS:=h1;clear hK K';refine po 6 fun K' hK=>?_
 obtain⟨U2,hdel,mr2,mt2⟩:=(HPB.out W.drew.drew (Below.refl _ _).drew.drew).mp.del r.base hb 0;have K2:=hid ((turned_ky mt2 (HPB.out W.drew.drew (Below.refl _ _).drew.drew).mp.typ));have c1:=K2.out.cellK h1.1;have c2:=K2.out.cellK h1.2.1;have c3:=K2.out.cellK h1.2.2;refine wpo_delete 90 23 (.tmp 5) (.tmp 7) (vm:=.map (some y.R)) (vx:=Vu (r.base:Nat)) (by kernel_rfl) (by kernel_rfl) (by kernel_rfl) hdel ?_;refine hK.out _ _ ⟨⟨c1,c2,c3⟩,?_⟩;refine wpAnyH_done (by kernel_rfl) ?_ _;have FF:=hid (BKR.out _ U2 (Below.refl _ _).drew.drew (by
   have:=mr2;rw [if_pos HDL.out] at this;simpa using this) mt2)
 have F2:=hid (show Bi B W U2 from ((Bi.refl B W).add (Below.refl _ _).drew.drew HBW.out).trans FF.out.2);clear mr2 mt2 hdel K2 c1 c2 c3 h1 hS BKR CK LB HPB;go_wp2
 go_end0
 exact⟨rfl,FF.out.1,F2.out⟩
theorem im_takeBackR (B:Nat) (y:Ly) (d:Dy) (cf:Cf) (h:Hs) (r:Rg9) (L X2 X5:Nat) (lg:Nat→Option Nat) (W:World) (hp:Hp B y d cf { h with rg:=h.rg++[r] } W) (hd:d.lg=upd lg r.base (some L)) (h0:lg r.base=none) (lo:∀ k,(lg k).isSome=h.rg.any fun r=>r.base==k) (lc:Lc L r W) (hb:r.base < 18446744073709551616)
  (x2:W.cell? ⟨X2,0,none⟩=some (Vp y.P 0)) (x5:W.cell? ⟨X5,0,none⟩=some (Vp L 0)) (hu:d.un=.func (.func 136) #[] #[Vp X2 0,Vp X5 0]) :
  Calls Tryz.prog 62 #[Vp y.P 0] W fun e W'=>e=.returned (.tuple #[])∧Hp B y { d with lg:=lg,un:=.nilFunc } cf h W'∧Bi B W W':=by
 have UR:=hid (im_undoR B y d cf h r L X2 X5 lg W hp hd h0 lo lc hb x2 x5);have c120:=hp.cell 120 (by omega) _ rfl;have e120:∀ u,boxF cf y d u 120=d.un:=fun _=>rfl
 rw [e120,hu] at c120;have nq:=fun w=>neq_func (.func 136) #[] #[Vp X2 0,Vp X5 0] w
 have HU:=hid hu;clear hp hd h0 lo lc x2 x5 e120 hu;go_enter Tryz.func62,Tryz.ntmps62;go_wp2_with fail;refine (UR.out).mono ?_;rintro e W2 ⟨rfl,h2,b2⟩;have c1:=h2.cell 120 (by omega) (.func (.func 136) #[] #[Vp X2 0,Vp X5 0]) (by show d.un=_;exact HU.out);have st1:=storeNil _ _ y.P 120 c1 (h2.box.free 120);have H2:=hid (h2.setDy 120 .nilFunc { d with lg:=lg,un:=.nilFunc } (.inr ⟨rfl,rfl⟩));have B2:=hid (b2.trans (h2.bi118 120 .nilFunc));clear UR h2 b2;go_wp2
 go_end0
 exact⟨rfl,H2.out,B2.out⟩
theorem Hp.rows {B:Nat} {y:Ly} {d:Dy} {cf:Cf} {h:Hs} {W W':World} (hp:Hp B y d cf h W) (k:Ky (fun t=>t=23∨t=92) W W') (bl:Below B W W') (hM:W'.heap[y.M]?=W.heap[y.M]?) (hR:W'.heap[y.R]?=W.heap[y.R]?) (ro rl:Value) (row rel:List Nat) (bx:Bxh y.P (boxF cf y { d with ro:=ro,rl:=rl } h.used) W') (h1:Um B W' ro row) (h2:W'.ownsRow B 23 1 rl rel.length (Us rel)) (h3:∀ g,umBlock ro=some g→rl.ownBlock≠some g) :
  Hp B y { d with ro:=ro,rl:=rl } cf { h with row:=row,rel:=rel } W' :=
 ⟨hp.ap,Nat.le_trans hp.bW bl.size,bx,hp.ds.belowB bl hp.ap.da,hp.sp.ky k (by decide) hM,hp.pg.ky k (by decide),hp.bf,
 fun c s hc hs=>k.cells _ _ _ _ (hp.sl c s hc hs) (by decide),fun c s hc hs=>row_ky (hp.rw c s hc hs) k (by decide),fun c s j hc hs hj=>k.cells _ _ _ _ (hp.sm c s j hc hs hj) (by decide),
 fun c hc=>(hp.wt c hc).ky k (by decide) (by decide) (by decide),hp.mp.same hR,hp.lo,fun r hr=>by obtain ⟨g,h1,h2,h3⟩:=hp.lb r hr;exact⟨g,h1,h2,k.cells _ _ _ _ h3 (by decide)⟩,hp.li,h1,h2,h3,hp.tb.belowB bl hp.ap.b0⟩
theorem umBlock_um {B:Nat} {W:World} {v:Value} {l:List Nat} (h:Um B W v l) {g:Nat} (hg:umBlock v=some g):B≤g∧∃ c,W.heap[g]?=some (.cells c 23 (0,0)):=by
 rcases h with ⟨rfl,_⟩|⟨g',o,cap,c,rfl,h2,h3,_⟩
 ·cases hg
 cases hg
 exact⟨h2,c,h3⟩
theorem Um.kept {B:Nat} {W W':World} {v:Value} {l:List Nat} (h:Um B W v l) {r:Option Nat} (hg:W.grownBy W' r) (hne:∀ g,umBlock v=some g→r≠some g):Um B W' v l:=by
 rcases h with h|⟨g,o,cap,c,rfl,h2,h3,h4⟩
 ·exact .inl h
 exact .inr ⟨g,o,cap,c,rfl,h2,by rw [hg.block g (lt_blk h3) (fun e=>hne g rfl e.symm)];exact h3,h4⟩
structure Gw (B:Nat) (y:Ly) (W W1:World):Prop where
 k:Ky (· = 23) W W1
 bl:Below B W W1
 m:W1.heap[y.M]?=W.heap[y.M]?
 r:W1.heap[y.R]?=W.heap[y.R]?
theorem Hp.gw {B:Nat} {y:Ly} {d:Dy} {cf:Cf} {h:Hs} {W W1:World} (hp:Hp B y d cf h W) {o:Option Nat} (ho:∀ g,o=some g→B≤g∧∃ c,W.heap[g]?=some (.cells c 23 (0,0))) (g:W.grownBy W1 o):Gw B y W W1:=by
 refine⟨Ky.grownO (fun P hP=>by obtain ⟨_,c,hc⟩:=ho P hP;exact⟨c,23,(0,0),hc,rfl⟩) g,(Below.refl B W).grown g hp.bW (fun r hr=>(ho r hr).1),?_,?_⟩
 ·refine g.block _ hp.sp.lt.2 (fun e=>?_);obtain⟨_,c,hc⟩:=ho _ e.symm;obtain⟨D,⟨es,c2,h2,_⟩,_⟩:=hp.sp.map;rw [hc] at h2;cases h2
 obtain⟨es,c2,h2⟩:=hp.mp.typ;refine g.block _ (lt_blk h2) (fun e=>?_);obtain⟨_,c,hc⟩:=ho _ e.symm;rw [hc] at h2;cases h2
theorem Gw.bi {B:Nat} {y:Ly} {W W1:World} (g:Gw B y W W1):Bi B W W1:=⟨g.bl,g.k.more (fun t e=>by subst e;unfold hI;decide)⟩
theorem Hp.setRl {B:Nat} {y:Ly} {d:Dy} {cf:Cf} {h:Hs} {W W1:World} (hp:Hp B y d cf h W) {v':Value} {l':List Nat} (own:W1.ownsRow B 23 1 v' l'.length (Us l')) (g:W.grownBy W1 d.rl.ownBlock) (ho:∀ g,umBlock d.ro=some g→v'.ownBlock≠some g) :
  Hp B y { d with rl:=v' } cf { h with rel:=l' } (W1.setCell ⟨y.P,117,none⟩ v')∧Bi B W (W1.setCell ⟨y.P,117,none⟩ v')∧W1.cell? ⟨y.P,117,none⟩=some d.rl∧W1.frozen? ⟨y.P,117,none⟩=false:=by
 have gw:=hp.gw (fun g hg=>own_lt hp.rl hg) g;have bx:=hp.box.ky gw.k (by decide);have bx2:=bx.set 117 (by omega) v';rw [boxF_dy cf y d h.used 117 v' { d with rl:=v' } (.inr (.inl ⟨rfl,rfl⟩))] at bx2;have hu:=hp.ro.kept g (fun g1 hg1=>hp.rr g1 hg1);have kS:=bx.kyS 117 v';have bS:Below B W1 (W1.setCell ⟨y.P,117,none⟩ v'):=(Below.refl B W1).grown (grown_set (grown_refl W1 y.P) _ _) (Nat.le_trans hp.bW gw.bl.size) (fun r hr=>by simp at hr;have:=hp.ap.bP;omega);have hM:(W1.setCell ⟨y.P,117,none⟩ v').heap[y.M]?=W1.heap[y.M]?:=Below.heap_setCell _ _ _ _ (fun e=>by
  obtain⟨c,h1,_⟩:=hp.box;obtain⟨D,⟨es,c2,h2,_⟩,_⟩:=hp.sp.map;rw [e,h1] at h2;cases h2)
 have hR:(W1.setCell ⟨y.P,117,none⟩ v').heap[y.R]?=W1.heap[y.R]?:=Below.heap_setCell _ _ _ _ (fun e=>by
  obtain⟨c,h1,_⟩:=hp.box;obtain⟨es,c2,h2⟩:=hp.mp.typ;rw [e,h1] at h2;cases h2)
 have c0:=bx.cell 117 (by omega);refine⟨hp.rows ((gw.k.more (fun t e=>.inl e)).trans (kS.more (fun t e=>.inr e))) (gw.bl.trans bS) (hM.trans gw.m) (hR.trans gw.r) d.ro v' h.row l' bx2 (hu.ky kS (by decide)) (own_ky own kS (by decide)) ho,gw.bi.trans ⟨bS,kS.more (fun t e=>by subst e;unfold hI;decide)⟩,c0,bx.free 117⟩
end Go.Proofs.YtacccpkmgkojiaaGreatDoorRR
