import Derived.Test.YtgandbaejlfppaaGreatDoorN22
import Derived.Test.YtgandbaejlfppaaGreatDoorN25
namespace Go.Proofs.YtgandbaejlfppaaGreatDoor
set_option linter.unusedVariables false
set_option linter.unusedSimpArgs false
set_option maxRecDepth 20000
set_option maxHeartbeats 8000000
open Go.RowKit Go.Maps
def Ta (T:Nat) (tk:Nat→Bool) (W:World):Prop:=∃ c,W.heap[T]?=some (.cells c 194 (0,0))∧c.size=96∧∀ q,q < 96→c[q]?=some (.bool (tk q))
theorem Ta.cell {T:Nat} {tk:Nat→Bool} {W:World} (h:Ta T tk W) (q:Nat) (hq:q < 96):W.cell? ⟨T,q,none⟩=some (.bool (tk q))∧W.frozen? ⟨T,q,none⟩=false:=by
 obtain⟨c,h1,h2,h3⟩:=h;exact⟨by rw [cell_of_row _ _ _ _ _ _ h1];exact h3 q hq,by simp [World.frozen?,h1]⟩
theorem Ta.lt {T:Nat} {tk:Nat→Bool} {W:World} (h:Ta T tk W):T < W.heap.size:=by
 obtain⟨c,h1,_⟩:=h;exact lt_blk h1
theorem Ta.same {T:Nat} {tk:Nat→Bool} {W W':World} (h:Ta T tk W) (e:W'.heap[T]?=W.heap[T]?):Ta T tk W':=by
 obtain⟨c,h1,h2⟩:=h;exact⟨c,e.trans h1,h2⟩
theorem Ta.eq {T:Nat} {tk tk':Nat→Bool} {W:World} (h:Ta T tk W) (e:∀ q,q < 96→tk' q=tk q):Ta T tk' W:=by
 obtain⟨c,h1,h2,h3⟩:=h;exact⟨c,h1,h2,fun q hq=>by rw [e q hq];exact h3 q hq⟩
theorem Ta.set {T:Nat} {tk:Nat→Bool} {W:World} (h:Ta T tk W) (k:Nat) (hk:k < 96):Ta T (fun q=>tk q || decide (q=k)) (W.setCell ⟨T,k,none⟩ (.bool true)):=by
 obtain⟨c,h1,h2,h3⟩:=h;refine⟨c.setIfInBounds k (.bool true),by simp [World.setCell,Array.getElem?_modify,h1],by simpa using h2,fun q hq=>?_⟩;rw [Array.getElem?_setIfInBounds]
 by_cases e:k=q
 ·subst e;simp [h2,hk]
 rw [if_neg e,h3 q hq];have:decide (q=k)=false:=by simp;omega
 dsimp only;rw [this,Bool.or_false]
theorem below_none9 {W W':World} (h:Below W.heap.size W W'):W.grownBy W' none:=⟨h.os,h.tape,h.output,h.size,fun k hk _=>h.block k hk⟩
def mkP9 (c:Option Nat):Value:=.pointer (c.map fun b=>⟨b,0,none⟩)
theorem zero260:Tryz.zeroCells194=Array.replicate 96 (.bool false):=by kernel_rfl
def metR (rg:List Rg9) (left:Lit→Bool):List Rg9:=rg.filter fun r => !left (.int .u64 (r.base:Nat))
theorem metR_none {rg:List Rg9} {left:Lit→Bool} (h:∀ r∈rg,left (.int .u64 (r.base:Nat))=true) (q:Nat):tkn (metR rg left) q=false:=by
 have:metR rg left=[]:=by
  unfold metR;rw [List.filter_eq_nil_iff];intro r hr;rw [h r hr];simp
 rw [this];rfl
theorem metR_all {rg:List Rg9} {left:Lit→Bool} (h:∀ kl,left kl=false):metR rg left=rg:=by
 unfold metR;rw [List.filter_eq_self];intro r hr;rw [h];rfl
theorem metR_step {rg:List Rg9} {left:Lit→Bool} {r:Rg9} (hr:r∈rg) (hu:∀ r'∈rg,r'.base=r.base→r'=r) (q:Nat):tkn (metR rg (fun z=>left z && !z.sameKey (.int .u64 (r.base:Nat)))) q=(tkn (metR rg left) q || (decide (r.first≤187+q) && decide (187+q < r.first+r.ext))):=by
 unfold tkn metR;rw [List.any_filter,List.any_filter]
 cases e:(decide (r.first≤187+q) && decide (187+q < r.first+r.ext)) with
 | true =>
  rw [Bool.or_true,List.any_eq_true];refine⟨r,hr,?_⟩;rw [e];simp [Lit.sameKey]
 | false =>
  rw [Bool.or_false];rw [Bool.eq_iff_iff,List.any_eq_true,List.any_eq_true];constructor
  ·rintro⟨x,hx,hc⟩;refine⟨x,hx,?_⟩
   by_cases ex:x.base=r.base
   ·have:=hu x hx ex;subst this;rw [e] at hc;simp at hc
   have hne:(Lit.int .u64 (x.base:Nat)).sameKey (.int .u64 (r.base:Nat))=false:=by
    simp [Lit.sameKey];omega
   dsimp only at hc;rw [hne] at hc;simpa using hc
  rintro⟨x,hx,hc⟩;refine⟨x,hx,?_⟩
  by_cases ex:x.base=r.base
  ·have:=hu x hx ex;subst this;rw [e] at hc;simp at hc
  have hne:(Lit.int .u64 (x.base:Nat)).sameKey (.int .u64 (r.base:Nat))=false:=by
   simp [Lit.sameKey];omega
  dsimp only;rw [hne];simpa using hc
theorem Inv.uniq {cf:Cf} {h:Hs} (i:Inv cf h) {r r':Rg9} (hr:r∈h.rg) (hr':r'∈h.rg) (e:r'.base=r.base):r'=r:=by
 have h1:=i.baseP hr;have h2:=i.baseP hr';have h3:=i.rgs r hr;have h4:=i.rgs r' hr';obtain⟨a,ha⟩:=List.getElem?_of_mem hr;obtain⟨b,hb⟩:=List.getElem?_of_mem hr';have la:=List.getElem?_eq_some_iff.1 ha;have lb:=List.getElem?_eq_some_iff.1 hb;have hp:=List.pairwise_iff_getElem.1 i.apart;unfold Rg9.ext at h3 h4
 rcases Nat.lt_trichotomy a b with hlt|heq|hlt
 ·have:=hp a b la.1 lb.1 hlt;rw [la.2,lb.2] at this;unfold Rg9.ext at this;rw [e] at h2;omega
 ·subst heq;rw [ha] at hb;exact (Option.some.inj hb).symm
 have:=hp b a lb.1 la.1 hlt;rw [la.2,lb.2] at this;unfold Rg9.ext at this;rw [e] at h2;omega
inductive RoR (W:World):Option Nat→Ending→World→Prop
 | yes (s:Nat) (W':World) (b:Below W.heap.size W W'):RoR W (some s) (.returned (Vi (s:Nat))) W'
 | no (W':World) (b:Below W.heap.size W W'):RoR W none (.panicked (refV 1)) W'
theorem im_room (B:Nat) (y:Ly) (d:Dy) (cf:Cf) (h:Hs) (n:Nat) (W:World) (hp:Hp B y d cf h W) (i:Inv cf h) (hn:1≤n) (hn2:n≤18014398509482000) :
  Calls Tryz.prog 98 #[.pointer (some ⟨y.P,0,none⟩),.int .i64 (n:Nat)] W (RoR W (roomL h n)):=by
 have HPB:=hid (fun V (hV:Below W.heap.size W V)=>hp.below hV);have HI:=hid i;have LS:=hid (fun V (hV:Below W.heap.size W V)=>im_LargeStart V (hp.below hV).tb);clear hp i;go_enter Tryz.func98,Tryz.ntmps98;go_upto_region 2 with fail
 have bT:Below W.heap.size W (W.alloc (.cells Tryz.zeroCells194 194)):=(Below.refl _ _).alloc (Nat.le_refl _) _;have T0:Ta W.heap.size (fun _=>false) (W.alloc (.cells Tryz.zeroCells194 194)):=⟨_,al_last W _,by rw [zero260];simp,fun q hq=>by rw [zero260];simp [hq]⟩;have hpV:=HPB.out _ bT;obtain⟨D,hown,hsz,hat,hhas⟩:=hpV.mp.map;have c115:=hpV.cell 115 (by omega) (.map (some y.R)) rfl;have HRlt:=hid (show y.R < (W.alloc (.cells Tryz.zeroCells194 194)).heap.size by obtain ⟨es,c,hR⟩:=hpV.mp.typ;exact lt_blk hR);have HRW:=hid (show y.R < W.heap.size by obtain ⟨es,c,hR⟩:=(HPB.out W (Below.refl _ _)).mp.typ;exact lt_blk hR);generalize W.alloc _=V at *;obtain⟨T,hT⟩:∃ T,T=W.heap.size:=⟨_,rfl⟩;rw [←hT] at T0 ⊢;have HT:=hid hT;clear hT;have HD:=hid (And.intro hat hhas);have HLB:=hid hpV.lb;have HLO:=hid hpV.lo;have BT:=hid bT;clear hpV hat hhas bT;go_wp2_with (at_range;refine wpList_range_own _ rfl _ 71 rfl 23 145 keyed22 Tryz.underlying71 ptrE y.R 4096 D rfl hown ?_;intro w0 hrg0 hg0 hs0)
 go_frame
 obtain⟨r,hr⟩:∃ r,r=V.heap.size:=⟨_,rfl⟩;have b0:Below V.heap.size V w0:=(Below.refl V.heap.size V).grown hg0 (Nat.le_refl _) (by simp);have T1:=hid (T0.same (b0.block _ T0.lt));have B0:=hid (BT.out.trans (b0.mono BT.out.size));have HTr:=hid (show T < r by rw [hr];exact T0.lt);have HrW:=hid (show W.heap.size≤r by rw [hr];exact BT.out.size);have HRr:=hid (show y.R < r by rw [hr];exact HRlt.out);rw [←hr] at hrg0 ⊢;have RG0:=hid hrg0;have TA0:=hid (T1.out.eq (tk':=tkn (metR h.rg (has D))) (fun q hq=>metR_none (fun r hr=>by
  have h1:=HI.out.baseP hr;rw [HD.out.2 r.base (by omega),HLO.out r.base];exact List.any_eq_true.2 ⟨r,hr,by simp⟩) q))
 clear hrg0 hg0 hs0 hown T0 T1 b0 hr c115 HRlt;go_loopw [7] (fun _ wr=>∃ (left:Lit→Bool) (cnt:Nat),Hid (wr.ranges Tryz.prog 23 ptrE y.R r 4096 D left cnt)∧Hid (Ta T (tkn (metR h.rg left)) wr)∧Hid (Below W.heap.size W wr)) (fun _ wr=>wr.rangeLeft y.R r)
 case atStart=>exact ⟨_,_,RG0,TA0,B0⟩
 case round =>
  obtain⟨left,cnt,hrg,hta,hbel⟩:=hrel;clear RG0 TA0 B0;go_wp2_with (at_next;refine wpList_next_ranges _ rfl _ rfl 23 keyed22 ptrE (Value.int .u64) mkP9 (fun key kl hk=>by obtain ⟨x,rfl,_⟩:=Maps.keyOf_int_inv Tryz.underlying23 hk;exact⟨x,rfl⟩) (fun v y hv=>by exact (ptrE_inv hv).elim (fun ⟨b,e,_⟩=>⟨some b,e⟩) (fun ⟨e,_⟩=>⟨none,e⟩)) y.R r 4096 D left cnt rfl hrg.out ?_ ?_)
  ·intro hc0 hl0;have TA:=hid (show Ta T (tkn h.rg) wr by have:=hta.out;rw [metR_all hl0] at this;exact this);clear hta hrg hc0 hl0 HD;have HEX:=hid (show ∀ r∈h.rg,187≤r.first∧1≤r.ext from fun r hr=>by
    have:=HI.out.rgs r hr;unfold Rg9.ext;omega)
   go_wp2;go_loopw [9,35] (fun fr i wq=>∃ k:Nat,k≤96∧i=.int .i64 k∧fr=.int .i64 (frn (tkn h.rg) k:Nat)∧Hid (∀ j,j≤k→frn (tkn h.rg) j < n)∧Hid (Ta T (tkn h.rg) wq)∧Hid (Below W.heap.size W wq)) (fun _ i _=>96 - (intOf i).toNat)
   case atStart=>exact ⟨0,Nat.zero_le _,rfl,rfl,hid (fun j hj=>by
    obtain rfl:j=0:=by omega
    show 0 < n;omega),TA,hbel⟩
   case round =>
    clear TA hbel;obtain⟨k,hk,rfl,rfl,HJ,TA,HB⟩:=hrel
    by_cases hlt:k < 96
    ·have hcell:=(TA.out.cell k hlt).1;have hfl:=frn_le (tkn h.rg) k;have HS:=hid (show frn (tkn h.rg) (k+1)=if tkn h.rg k then 0 else frn (tkn h.rg) k+1 from rfl);have HRS:=hid (fun h1=>roomL_some HEX.out hn hlt h1 HJ.out);generalize tkn h.rg k=tk at *
     cases tk with
     | true =>
      have HN:=hid (show ∀ j,j≤k+1→frn (tkn h.rg) j < n from fun j hj=>by
       by_cases e:j=k+1
       ·subst e;rw [HS.out];simp;omega
       exact HJ.out j (by omega))
      have h0n:((0:Int)==(n:Int))=false:=by simp;omega
      have HS2:=hid (show frn (tkn h.rg) (k+1)=0 by rw [HS.out];rfl);generalize frn (tkn h.rg) k=fk at *;clear HS HRS HJ;go_wp2;go_roundw
      case rel=>exact ⟨k+1,by omega,by go_num,by rw [HS2.out];rfl,HN,TA,HB⟩
      case measure=>simp [intOf];omega
     | false =>
      have HS2:=hid (show frn (tkn h.rg) (k+1)=frn (tkn h.rg) k+1 by rw [HS.out];rfl);have hjk:=HJ.out k (Nat.le_refl _);generalize hfk:frn (tkn h.rg) k=fk at *;clear hfk
      by_cases he:fk+1=n
      ·have HR:=hid (HRS.out (by rw [HS2.out];exact he));have hen:((fk:Int)+1==(n:Int))=true:=by simp;omega
       have LSw:=hid (LS.out wr HB.out);have HEQ:=hid (show ((187+(k+1 - n):Nat):Int)=187+(k:Int)+1 - (n:Int) by omega);clear HS HRS HJ HS2 he;go_wp2_with fail;refine (LSw.out).mono ?_;rintro e V9 ⟨rfl,b9⟩;have B9:=hid (HB.out.trans (b9.mono HB.out.size));clear b9 LSw;go_wp2;go_ret;rw [HR.out];have:=RoR.yes (W:=W) (187+(k+1 - n)) V9 B9.out;rw [HEQ.out] at this;exact this
      have HN:=hid (show ∀ j,j≤k+1→frn (tkn h.rg) j < n from fun j hj=>by
       by_cases e:j=k+1
       ·subst e;rw [HS2.out];omega
       exact HJ.out j (by omega))
      have hen:((fk:Int)+1==(n:Int))=false:=by simp;omega
      clear HS HRS HJ he;go_wp2;go_roundw
      case rel=>exact ⟨k+1,by omega,by go_num,by rw [HS2.out];simp,HN,TA,HB⟩
      case measure=>simp [intOf];omega
    obtain rfl:k=96:=by omega
    have HR:=hid (roomL_none HEX.out hn HJ.out);generalize frn (tkn h.rg) 96=fk at *;clear HJ;go_wp2;refine⟨rfl,?_⟩;rw [HR.out];exact .no _ HB.out
  intro x c kl yd yp w2 cnt2 hkey hlk hv hatk hrg2 hlt hg2 hs2 hen;obtain⟨x',ex,rfl,hwf⟩:=Maps.keyOf_int_inv Tryz.underlying23 hkey
  cases ex
  have hbx:=bounds_u64 hwf;obtain⟨kk,rfl⟩:∃ kk:Nat,x=(kk:Int):=⟨x.toNat,by omega⟩;have hhk:=has_true_of_atKey hatk;rw [HD.out.2 kk (by omega),HLO.out kk] at hhk;obtain⟨rr,hrm,hrb⟩:=List.any_eq_true.1 hhk;simp at hrb;subst hrb;obtain⟨g,hlg,lc⟩:=(HPB.out W (Below.refl _ _)).lcAt HI.out hrm;have e1:=hatk .nil;rw [HD.out.1 rr.base (by omega),hlg] at e1;obtain rfl:c=some g:=by
   cases c with
   | none=>simp [mkP9,ptrE] at hv;rw [←hv.1] at e1;simp [asD] at e1
   | some b =>
    simp [mkP9,ptrE] at hv;rw [←hv.1] at e1;simp [asD] at e1;have:b=g:=by omega
    rw [this]
  have b2:Below W.heap.size W w2:=hbel.out.grown hg2 hbel.out.size (fun j e=>by cases e;exact HrW.out);have B2:=hid b2;have TA2:=hid (hta.out.same (hg2.block _ hta.out.lt (fun e=>by simp at e;have:=HTr.out;omega)));have G2:=hid hrg2;have LE:=hid (And.intro hrg2.left_eq hrg.out.left_eq);have LC:=hid (fun V (hV:Below W.heap.size W V)=>lc.below hV);have EX:=hid (fun V (hV:Below W.heap.size W V)=>im_extent g rr V (lc.below hV));have hri:=HI.out.rgs rr hrm;have STEP:=hid (fun q=>metR_step (left:=left) hrm (fun r' h' e=>HI.out.uniq hrm h' e) q);have hGT:=hid (show g≠T by
   have:=(HPB.out W (Below.refl _ _)).lb rr hrm;obtain⟨g',h1,h2,h3⟩:=this;rw [hlg] at h1
   cases h1
   have:=lt_blk h3;rw [HT.out];omega)
  unfold mkP9 at hen ⊢;simp only [Option.map_some] at hen ⊢;have hex:rr.ext≤96:=by omega
  have hfi:rr.first≤283:=by omega
  have hf0:187≤rr.first:=by omega
  have hfe:rr.first+rr.ext≤283:=by omega
  clear hkey hlk hv hatk hrg2 hg2 hs2 hhk e1 hta hbel hrg hlg lc hri b2 hbx hwf;generalize hbse:rr.base=bs at *;clear hbse;go_wp2_with fail;refine (EX.out _ B2.out).mono ?_;rintro e w3 ⟨rfl,rfl⟩;clear EX;have G3:=hid (show w2.drew.ranges Tryz.prog 23 ptrE y.R r 4096 D (fun z=>left z && !z.sameKey (.int .u64 (bs:Nat))) cnt2 from G2.out.kept ((Below.refl w2.heap.size w2).drew |> below_none9) (by simp) (by simp));have TA3:=hid (show Ta T (fun q=>tkn (metR h.rg left) q || (decide (rr.first≤187+q) && decide (187+q < rr.first+0))) w2.drew from (TA2.out.same (W':=w2.drew) rfl).eq (fun q hq=>by
   have:(decide (rr.first≤187+q) && decide (187+q < rr.first+0))=false:=by simp <;> omega
   rw [this,Bool.or_false]))
  have B3:=hid (show Below W.heap.size W w2.drew from B2.out.drew);clear G2 TA2 B2 hen;generalize w2.drew=W3 at *;go_wp2;go_loopw [22] (fun i wq=>∃ k:Nat,k≤rr.ext∧i=.int .i64 k∧Hid (wq.ranges Tryz.prog 23 ptrE y.R r 4096 D (fun z=>left z && !z.sameKey (.int .u64 (bs:Nat))) cnt2)∧Hid (Ta T (fun q=>tkn (metR h.rg left) q || (decide (rr.first≤187+q) && decide (187+q < rr.first+k))) wq)∧Hid (Below W.heap.size W wq)) (fun i _=>rr.ext - (intOf i).toNat)
  case atStart=>exact ⟨0,Nat.zero_le _,rfl,G3,TA3,B3⟩
  case round =>
   clear G3 TA3 B3;obtain⟨k,hk,rfl,G,TA,HB⟩:=hrel
   by_cases hlk:k < rr.ext
   ·obtain⟨ix,hix⟩:∃ ix:Nat,rr.first=187+ix:=⟨rr.first - 187,by omega⟩
    obtain⟨ij,hij⟩:∃ ij,ij=ix+k:=⟨_,rfl⟩;have hi96:ij < 96:=by omega
    have CK:=hid (fun V (hV:Below W.heap.size W V)=>(LC.out V hV).c2);have LSw:=hid (fun V (hV:Below W.heap.size W V)=>LS.out V hV);have hw1:IntKind.i64.wrap ((rr.first:Int) - 187)=(ix:Int):=by rw [wrapI9 _ (by omega) (by omega)];omega
    have hw2:IntKind.i64.wrap ((ix:Int)+(k:Int))=(ij:Int):=by rw [wrapI9 _ (by omega) (by omega)];omega
    have HTE:=hid (show ∀ q,q < 96→(tkn (metR h.rg left) q || (decide (rr.first≤187+q) && decide (187+q < rr.first+(k+1))))=((tkn (metR h.rg left) q || (decide (rr.first≤187+q) && decide (187+q < rr.first+k))) || decide (q=ij)) from fun q hq=>by
     rw [hix,hij]
     by_cases e:q=ix+k
     ·subst e;simp;omega
     rw [show decide (q=ix+k)=false by simp [e],Bool.or_false];congr 2;exact decide_eq_decide.2 (by omega))
    generalize hfst:rr.first=fs at *
    clear hfst hix hij;go_upto_region 8 with fail
    refine wp_region_held (S:=fun W9=>W9.cell? ⟨g,2,none⟩=some (.int .i64 (fs:Nat))) (by kernel_rfl) ?_;simp only [List.size_toArray,List.length_cons,List.length_nil,Nat.reduceAdd,Array.replicate_succ,Array.replicate_zero,List.push_toArray,List.nil_append,List.cons_append];have hS:=CK.out wr.drew HB.out.drew;refine pk 0 25 (.pointer (some ⟨g,0,none⟩)) hS ?_;simp only [lz,l0,ls];refine pk 1 26 (.pointer (some ⟨g,0,none⟩)) hS ?_;simp only [lz,l0,ls];refine pk 2 27 (.pointer (some ⟨g,2,none⟩)) hS ?_;simp only [lz,l0,ls];refine pz 3 28 (.int .i64 (fs:Nat)) hS ?_;simp only [lz,l0,ls];refine pk 6 31 (.int .i64 (k:Nat)) hS ?_;simp only [lz,l0,ls];refine po 4 fun K' hK=>?_
    go_simp;refine (LSw.out _ HB.out.drew).mono ?_;rintro e U1 ⟨rfl,b1⟩;have k1:Below W.heap.size W U1:=HB.out.drew.trans (b1.mono HB.out.size);have q1:=CK.out _ k1;have b1w:Below wr.heap.size wr U1:=⟨b1.os,b1.tape,b1.output,b1.size,b1.block⟩;have ta1:=TA.out.same (b1w.block _ TA.out.lt);have g1:=G.out.kept (below_none9 b1w) (by simp) (by simp);refine hK.out _ _ ⟨q1,?_⟩;clear hS;have hS:=q1;obtain⟨cT,fT⟩:=ta1.cell ij hi96;clear hK K';refine pz 5 30 (.int .i64 (ix:Nat)) hS ?_;simp only [lz,l0,ls];refine pz 7 32 (.int .i64 (ij:Nat)) hS ?_;simp only [lz,l0,ls];refine pz 8 33 (.pointer (some ⟨T,ij,none⟩)) hS ?_;simp only [lz,l0,ls];refine po 9 fun K' hK=>?_
    go_simp;have ta2:=ta1.set ij hi96;have gr2:=grown_set (grown_refl U1 T) ij (.bool true);have g2:=g1.kept gr2 (by simp;have:=HRW.out;have:=HT.out;omega) (by simp;have:=HTr.out;omega);have k2:Below W.heap.size W (U1.setCell ⟨T,ij,none⟩ (.bool true)):=k1.grown gr2 k1.size (fun j e=>by simp at e;have:=HT.out;omega);have q2:=CK.out _ k2;refine hK.out _ _ ⟨q2,?_⟩;clear hK K';refine wpAnyH_done (by kernel_rfl) ?_ _;have FF:=hid (And.intro g2 (And.intro (ta2.eq HTE.out) k2));clear g2 ta2 k2 q2 k1 q1 ta1 g1 b1 b1w gr2 cT fT hS CK LSw HTE G TA HB;go_wp2;go_roundw
    case rel=>exact ⟨k+1,by omega,by go_num,hid FF.out.1,hid FF.out.2.1,hid FF.out.2.2⟩
    case measure=>simp [intOf];omega
   obtain rfl:k=rr.ext:=by omega
   have TA4:=hid (TA.out.eq (fun q hq=>STEP.out q));have LE4:=hid G.out.left_eq;go_wp2;go_roundw
   case rel=>exact ⟨_,cnt2,G,TA4,HB⟩
   case measure=>rw [LE4.out,LE.out.2];exact hlt
end Go.Proofs.YtgandbaejlfppaaGreatDoor
namespace Go.Proofs.YtgandbaejlfppaaGreatDoor
set_option linter.unusedVariables false
set_option linter.unusedSimpArgs false
set_option maxRecDepth 20000
set_option maxHeartbeats 8000000
open Go.RowKit Go.Maps
theorem room_free {cf:Cf} {h:Hs} (i:Inv cf h) {s g p:Nat} (hr:roomL h (g+p+1)=some s):(∀ j,j < p→(h.m (s+g+j)).isSome=false)∧(h.rg.any fun r=>r.base==(s+g)*1024)=false:=by
 obtain⟨r1,r2,r3⟩:=room_in hr;constructor
 ·intro j hj
  cases hk:(h.m (s+g+j)).isSome with
  | false=>rfl
  | true =>
   obtain⟨r,hr,_,h1,h2⟩:=(i.big _ (by omega)).1 hk;have:=r3 r hr;have he:r.ext=r.guards+r.pages+1:=rfl;omega
 cases hk:(h.rg.any fun r=>r.base==(s+g)*1024) with
 | false=>rfl
 | true =>
  obtain⟨r,hr,hb⟩:=List.any_eq_true.1 hk;have hb':(r.first+r.guards)*1024=(s+g)*1024:=by simpa [Rg9.base] using hb
  have:=r3 r hr;have he:r.ext=r.guards+r.pages+1:=rfl;omega
theorem cov_filter (s g p:Nat) (st rq:Int) (l:List Nat):(l.filter fun x => !cov ⟨s,g,p,st,rq⟩ x)=l.filter fun b=>b/1024 < s || s+(g+p+1)≤b/1024:=by
 congr 1
 funext x
 have he:(⟨s,g,p,st,rq⟩:Rg9).ext=g+p+1:=rfl;unfold cov;rw [he];dsimp only
 by_cases h1:s≤x/1024 <;> by_cases h2:x/1024 < s+(g+p+1) <;> simp [h1,h2] <;> omega
theorem ror9 {W W':World} {o:Option Nat} {e:Ending} (h:RoR W o e W'):(∃ s:Nat,e=.returned (Vi (s:Nat))∧o=some s∧Below W.heap.size W W')∨(e=.panicked (refV 1)∧o=none∧Below W.heap.size W W'):=by
 cases h with
 | yes s _ b=>exact .inl ⟨s,rfl,rfl,b⟩
 | no _ b=>exact .inr ⟨rfl,rfl,b⟩
theorem one_of {W:World} {g:Nat} {v:Value} {t:TypeId} (h:W.heap[g]?=some (.cells #[v] t (0,0))):W.cell? ⟨g,0,none⟩=some v:=by rw [cell_of_row _ _ _ _ _ _ h];rfl
theorem lc_of {g:Nat} {r:Rg9} {W:World} (h:W.heap[g]?=some (.cells (lgC r) 158 (0,0))) (h1:r.first≤300) (h2:r.guards≤3) (h3:r.pages≤18014398509481984):Lc g r W:=by
 refine⟨?_,?_,?_,?_,?_,h1,h2,h3⟩ <;> rw [cell_of_row _ _ _ _ _ _ h] <;> rfl
theorem pagesN_max {a:Nat} (h:a < 18446744073709551616):pagesN a≤18014398509481984:=by
 unfold pagesN
 split <;> omega
theorem im_takeRange (B : Nat) (y : Ly) (d : Dy) (cf : Cf) (h : Hs) (an : Value) (a : Nat) (W : World) (hp : Hp B y d cf h W) (gd : Gd d h an) (i : Inv cf h) (ha : 1016 < a) (ha2 : a < 18446744073709551616) (hu : h.used + 2000 ≤ 1000000) (dk : Dok cf) (hf : h.rg.length < 4096) (hrl : h.rel.length ≤ 100000) :
    Calls Tryz.prog 63 #[.pointer (some ⟨y.P, 0, none⟩), .int .u64 (a : Nat)] W (TaW B y cf an d.lg W (mallocM cf h a)) := by
  have HMM := hid (mallocM_large cf h ha)
  obtain ⟨mres, hmres⟩ : ∃ mres, mallocM cf h a = mres := ⟨_, rfl⟩
  rw [hmres] at HMM ⊢
  clear hmres
  have HP0 := hid hp
  have GD0 := hid gd
  have I0 := hid i
  have DR := hid (fun V (hV : Below W.heap.size W V) => im_draw B y d cf h 3 V (hp.below hV) (by omega) (by omega) (by omega) dk.len)
  have PF := hid (fun V => im_pagesFor a V ha2)
  clear hp gd i
  go_enter Tryz.func63, Tryz.ntmps63
  go_wp2_with fail
  have bV0 : Below W.heap.size W (W.alloc (.cells #[.pointer (some ⟨y.P, 0, none⟩)] 58)) := (Below.refl _ _).alloc (Nat.le_refl _) _
  have x0 := al_last W (.cells #[.pointer (some ⟨y.P, 0, none⟩)] 58)
  refine (DR.out _ bV0).mono ?_
  rintro e V1 ⟨rfl, hp1, b1⟩
  have hdl : dr cf h 3 < 3 := by
    unfold dr
    omega
  have HP1 := hid hp1
  have BI1 := hid (Bi.trans (Bi.ofBelow bV0 HP0.out.bW) b1)
  have X2 := hid (show V1.heap[W.heap.size]? = some (.cells #[.pointer (some ⟨y.P, 0, none⟩)] 58 (0, 0)) from b1.ky.cells _ _ _ _ x0 (by unfold hI; decide))
  generalize hX2e : W.heap.size = x2 at *
  clear hp1 b1 x0 bV0 DR HP0 hX2e
  generalize hdd : dr cf h 3 = dd at *
  have HDD := hid hdd
  clear hdd
  go_wp2_with fail
  refine (PF.out _).mono ?_
  rintro e V2 ⟨rfl, rfl⟩
  clear PF
  go_upto_region 3 with fail
  generalize hV3e : (V2.alloc (.cells #[.int .i64 1, .int .i64 (wrap64 (a : Nat)), .int .i64 0, .int .i64 (1 + (dd : Nat)), .int .i64 (pagesN a : Nat)] 158)).alloc (.cells #[.pointer (some ⟨V2.heap.size, 0, none⟩)] 145) = V3
  have b3 : Below V2.heap.size V2 V3 := by rw [← hV3e]; exact ((Below.refl _ _).alloc (Nat.le_refl _) _).alloc (by rw [al_size]; omega) _
  have hL : V3.heap[V2.heap.size]? = some (.cells (lgC ⟨0, 1 + dd, pagesN a, 1, wrap64 (a : Nat)⟩) 158 (0, 0)) := by
    rw [← hV3e, al_old _ _ _ (by rw [al_size]; omega), al_last]
    simp [lgC]
  have hX5 : V3.heap[V2.heap.size + 1]? = some (.cells #[.pointer (some ⟨V2.heap.size, 0, none⟩)] 145 (0, 0)) := by
    have h1 := al_last (V2.alloc (.cells #[.int .i64 1, .int .i64 (wrap64 (a : Nat)), .int .i64 0, .int .i64 (1 + (dd : Nat)), .int .i64 (pagesN a : Nat)] 158)) (.cells #[.pointer (some ⟨V2.heap.size, 0, none⟩)] 145)
    rw [al_size, hV3e] at h1
    exact h1
  have HP3 := hid (HP1.out.below b3)
  have BI3 := hid (BI1.out.add b3 HP1.out.bW)
  have X2b := hid (show V3.heap[x2]? = some (.cells #[.pointer (some ⟨y.P, 0, none⟩)] 58 (0, 0)) by rw [b3.block _ (lt_blk X2.out)]; exact X2.out)
  have HBL := hid (show B ≤ V2.heap.size from HP1.out.bW)
  have NL := hid (show ∀ k, d.lg k ≠ some V2.heap.size from fun k hk => by
    have h1 := HP1.out.lo k
    rw [hk] at h1
    have h2 : h.rg.any (fun r => r.base == k) = true := h1.symm
    obtain ⟨r, hr, hrk⟩ := List.any_eq_true.1 h2
    have hrk' : r.base = k := by simpa using hrk
    obtain ⟨g, e1, _, e3⟩ := HP1.out.lb r hr
    rw [hrk', hk] at e1
    cases e1
    have := lt_blk e3
    omega)
  have HPL := hid (fun V (hV : Below V2.heap.size V2 V) => And.intro (HP1.out.below hV) (BI1.out.add hV HP1.out.bW))
  have B3 := hid b3
  have X2c := hid (fun V (hV : Below V2.heap.size V2 V) => show V.heap[x2]? = some (.cells #[.pointer (some ⟨y.P, 0, none⟩)] 58 (0, 0)) by rw [hV.block _ (lt_blk X2.out)]; exact X2.out)
  clear hV3e b3 HP1 BI1 X2
  obtain ⟨L, hLe⟩ : ∃ L, V2.heap.size = L := ⟨_, rfl⟩
  have HLE := hid hLe
  rw [hLe] at hL hX5 HBL NL ⊢
  clear hLe
  generalize hX5e : L + 1 = X5 at *
  have HL := hid hL
  have HX5 := hid hX5
  have HLX := hid (show L ≠ X5 by omega)
  clear hL hX5 hX5e
  have PG := hid (pagesN_max ha2)
  obtain ⟨pp, hpp⟩ : ∃ pp, pagesN a = pp := ⟨_, rfl⟩
  have HPP := hid hpp
  rw [hpp] at HL PG ⊢
  clear hpp
  rw [HPP.out] at HMM
  have I1 := hid (I0.out.used (h.used + 1))
  have G1 := hid (show Gd d { h with used := h.used + 1 } an from ⟨GD0.out.on, GD0.out.un, GD0.out.an⟩)
  clear I0 GD0 HDD
  generalize hh1 : ({ h with used := h.used + 1 } : Hs) = h1 at *
  have hf1 : h1.rg.length < 4096 := by rw [← hh1]; exact hf
  have hrl1 : h1.rel.length ≤ 100000 := by rw [← hh1]; exact hrl
  clear hh1 hf hrl hu
  generalize hwa : wrap64 (a : Nat) = wa at *
  have HWA := hid hwa
  clear hwa
  have CK := hid (show ∀ V, Below V3.heap.size V3 V → V.cell? ⟨X5, 0, none⟩ = some (.pointer (some ⟨L, 0, none⟩)) ∧ V.cell? ⟨x2, 0, none⟩ = some (.pointer (some ⟨y.P, 0, none⟩)) from fun V hV => ⟨by rw [cell_of_row _ _ _ _ _ _ (show V.heap[X5]? = _ by rw [hV.block _ (lt_blk HX5.out)]; exact HX5.out)]; rfl, by rw [cell_of_row _ _ _ _ _ _ (show V.heap[x2]? = _ by rw [hV.block _ (lt_blk X2b.out)]; exact X2b.out)]; rfl⟩)
  have LC0 := hid (show ∀ V, Below V3.heap.size V3 V → Lc L ⟨0, 1 + dd, pp, 1, wa⟩ V from fun V hV => lc_of (by rw [hV.block _ (lt_blk HL.out)]; exact HL.out) (by simp) (by simp; omega) PG.out)
  have EX := hid (fun V (hV : Below V3.heap.size V3 V) => im_extent L ⟨0, 1 + dd, pp, 1, wa⟩ V (LC0.out V hV))
  have RO := hid (fun V (hV : Below V3.heap.size V3 V) => im_room B y d cf h1 (1 + dd + pp + 1) V (HP3.out.below hV) I1.out (by omega) (by have := PG.out; omega))
  have NOW := hid (show ∀ U, roomL h1 (1 + dd + pp + 1) = none → Below V3.heap.size V3 U → TaW B y cf an d.lg W mres (.panicked (refV 1)) U from fun U hr hU => by
    have e1 : mres = (none, h1) := by
      rw [HMM.out]
      split
      · rfl
      · rw [hr]; rfl
    rw [e1]
    exact ⟨.no _ _ (Hg.tk ⟨d, HP3.out.below hU, G1.out⟩), BI3.out.add hU HP3.out.bW⟩)
  have FZ := hid (show ∀ V, Below V3.heap.size V3 V → V.frozen? ⟨L, 2, none⟩ = false from fun V hV => by
    have : V.heap[L]? = _ := (hV.block _ (lt_blk HL.out)).trans HL.out
    simp [World.frozen?, this])
  have ST2 := hid (show ∀ V (s : Nat), Below V3.heap.size V3 V → (V.setCell ⟨L, 2, none⟩ (.int .i64 (s : Nat))).heap[L]? = some (.cells (lgC ⟨s, 1 + dd, pp, 1, wa⟩) 158 (0, 0)) ∧ (V.setCell ⟨L, 2, none⟩ (.int .i64 (s : Nat))).heap[X5]? = some (.cells #[.pointer (some ⟨L, 0, none⟩)] 145 (0, 0)) ∧ Hp B y d cf h1 (V.setCell ⟨L, 2, none⟩ (.int .i64 (s : Nat))) ∧ Bi B W (V.setCell ⟨L, 2, none⟩ (.int .i64 (s : Nat))) ∧ (V.setCell ⟨L, 2, none⟩ (.int .i64 (s : Nat))).heap[x2]? = some (.cells #[.pointer (some ⟨y.P, 0, none⟩)] 58 (0, 0)) from fun V s hV => by
    have hVL : V.heap[L]? = _ := (hV.block _ (lt_blk HL.out)).trans HL.out
    have hVX : V.heap[X5]? = _ := (hV.block _ (lt_blk HX5.out)).trans HX5.out
    have k : Below V2.heap.size V2 (V.setCell ⟨L, 2, none⟩ (.int .i64 (s : Nat))) := by
      have k1 : Below V2.heap.size V2 V := B3.out.trans (hV.mono B3.out.size)
      exact k1.grown (grown_set (grown_refl V L) 2 _) k1.size (fun r hr => by simp at hr; have := HLE.out; omega)
    refine ⟨by simp [World.setCell, Array.getElem?_modify, hVL, lgC], ?_, (HPL.out _ k).1, (HPL.out _ k).2, X2c.out _ k⟩
    rw [Below.heap_setCell _ _ _ _ (fun e => HLX.out e.symm)]
    exact hVX)
  generalize hrm : roomL h1 (1 + dd + pp + 1) = rm at *
  have HRM := hid hrm
  clear hrm
  refine wp_region_held (S := fun W9 => W9.cell? ⟨X5, 0, none⟩ = some (.pointer (some ⟨L, 0, none⟩)) ∧ W9.cell? ⟨x2, 0, none⟩ = some (.pointer (some ⟨y.P, 0, none⟩))) (by kernel_rfl) ?_
  simp only [List.size_toArray, List.length_cons, List.length_nil, Nat.reduceAdd, Array.replicate_succ, Array.replicate_zero, List.push_toArray, List.nil_append, List.cons_append]
  have hS := CK.out _ (Below.refl _ _).drew
  refine wpAnyH_put (i := 0) (d := 19) (v := .pointer (some ⟨L, 0, none⟩)) rfl (by kernel_rfl) (by kernel_rfl) (by kernel_rfl) (by kernel_rfl) (fun _ _ _ h => h) (Or.inl ⟨by kernel_rfl, fun W hS => by obtain ⟨y0, y1⟩ := hS; first | (go_simp; done) | (go_simp; omega)⟩) hS ?_
  simp only [List.setIfInBounds_toArray, List.set_cons_zero, List.set_cons_succ]
  refine wpAnyH_put (i := 1) (d := 20) (v := .pointer (some ⟨y.P, 0, none⟩)) rfl (by kernel_rfl) (by kernel_rfl) (by kernel_rfl) (by kernel_rfl) (fun _ _ _ h => h) (Or.inl ⟨by kernel_rfl, fun W hS => by obtain ⟨y0, y1⟩ := hS; first | (go_simp; done) | (go_simp; omega)⟩) hS ?_
  simp only [List.setIfInBounds_toArray, List.set_cons_zero, List.set_cons_succ]
  refine wpAnyH_put (i := 2) (d := 21) (v := .pointer (some ⟨L, 0, none⟩)) rfl (by kernel_rfl) (by kernel_rfl) (by kernel_rfl) (by kernel_rfl) (fun _ _ _ h => h) (Or.inl ⟨by kernel_rfl, fun W hS => by obtain ⟨y0, y1⟩ := hS; first | (go_simp; done) | (go_simp; omega)⟩) hS ?_
  simp only [List.setIfInBounds_toArray, List.set_cons_zero, List.set_cons_succ]
  refine wpAnyH_one (r := 3) (by kernel_rfl) ?_
  refine wpOp_do rfl (by kernel_rfl) (fun K' hK => ?_)
  go_simp
  refine (EX.out _ (Below.refl _ _).drew).mono ?_
  rintro e U1 ⟨rfl, rfl⟩
  have q1 := CK.out _ (Below.refl _ V3).drew.drew
  refine hK.out _ _ ⟨q1, ?_⟩
  clear hS
  have hS := q1
  clear hK K'
  refine wpAnyH_one (r := 4) (by kernel_rfl) ?_
  refine wpOp_do rfl (by kernel_rfl) (fun K' hK => ?_)
  go_simp
  refine (RO.out _ (Below.refl _ V3).drew.drew).mono ?_
  rintro e U2 hro
  rcases ror9 hro with ⟨s, rfl, hrs, b2⟩ | ⟨rfl, hrs, b2⟩
  rotate_left
  · have k2 : Below V3.heap.size V3 U2 := (Below.refl _ V3).drew.drew.trans ⟨b2.os, b2.tape, b2.output, b2.size, b2.block⟩
    exact ⟨rfl, NOW.out U2 hrs k2⟩
  have k2 : Below V3.heap.size V3 U2 := (Below.refl _ V3).drew.drew.trans ⟨b2.os, b2.tape, b2.output, b2.size, b2.block⟩
  have q2 := CK.out _ k2
  refine hK.out _ _ ⟨q2, ?_⟩
  clear hS hro
  have hS := q2
  have c2L := (LC0.out U2 k2).c2
  have f2L : U2.frozen? ⟨L, 2, none⟩ = false := FZ.out U2 k2
  clear hK K'
  refine wpAnyH_put (i := 5) (d := 24) (v := .pointer (some ⟨L, 0, none⟩)) rfl (by kernel_rfl) (by kernel_rfl) (by kernel_rfl) (by kernel_rfl) (fun _ _ _ h => h) (Or.inl ⟨by kernel_rfl, fun _ _ => by kernel_rfl⟩) hS ?_
  simp only [List.setIfInBounds_toArray, List.set_cons_zero, List.set_cons_succ]
  refine wpAnyH_put (i := 6) (d := 25) (v := .pointer (some ⟨L, 2, none⟩)) rfl (by kernel_rfl) (by kernel_rfl) (by kernel_rfl) (by kernel_rfl) (fun _ _ _ h => h) (Or.inl ⟨by kernel_rfl, fun _ _ => by kernel_rfl⟩) hS ?_
  simp only [List.setIfInBounds_toArray, List.set_cons_zero, List.set_cons_succ]
  refine wpAnyH_one (r := 7) (by kernel_rfl) ?_
  refine wpOp_do rfl (by kernel_rfl) (fun K' hK => ?_)
  go_simp
  obtain ⟨hL4, hX4, hp4, bi4, hx4⟩ := ST2.out U2 s k2
  have q3 : _ ∧ _ := ⟨one_of hX4, one_of hx4⟩
  refine hK.out _ _ ⟨q3, ?_⟩
  clear hK K'
  refine wpAnyH_done (by kernel_rfl) ?_ _
  generalize U2.setCell ⟨L, 2, none⟩ (.int .i64 (s : Nat)) = V4 at *
  have HRS := hid (HRM.out.trans hrs)
  have HRQ := hid hrs
  obtain ⟨r1, r2, r3⟩ := room_in HRS.out
  have hwa : wa = (a : Nat) := by
    rw [← HWA.out]
    have q := pagesN_le a
    rw [HPP.out] at q
    exact wrap64_in (by omega) (by omega)
  subst hwa
  obtain ⟨hfree, hany⟩ := room_free I1.out HRS.out
  obtain ⟨r, hr⟩ : ∃ r : Rg9, r = ⟨s, 1 + dd, pp, 1, (a : Nat)⟩ := ⟨_, rfl⟩
  have HR := hid hr
  rw [← hr] at hL4
  have hb9 : r.base = (s + (1 + dd)) * 1024 := by rw [hr]; rfl
  have hbl : r.base < 18446744073709551616 := by rw [hb9]; omega
  have HL4 := hid hL4
  have HX4 := hid hX4
  have Hx4 := hid hx4
  have HP4 := hid hp4
  have BI4 := hid bi4
  have FRE := hid hfree
  have H0 := hid (show d.lg r.base = none by
    have := hp4.lo r.base
    rw [hb9, hany] at this
    rw [hb9]
    simpa using this)
  have HB9 := hid hb9
  have RIN := hid (And.intro r1 r2)
  have PP1 := hid (show 1 ≤ pp by have := pagesN_pos ha; rw [HPP.out] at this; exact this)
  clear hL4 hX4 hx4 hp4 bi4 hfree hany hr hb9 r1 r2 r3 q1 q2 q3 hS k2 b2 c2L f2L NOW RO EX LC0 CK FZ ST2 HPL B3 X2c HLE hrs HL HX5 X2b HP3 BI3 HRM HPP HWA PG
  have CK := hid (show V4.cell? ⟨X5, 0, none⟩ = some (.pointer (some ⟨L, 0, none⟩)) ∧ V4.cell? ⟨x2, 0, none⟩ = some (.pointer (some ⟨y.P, 0, none⟩)) ∧ V4.cell? ⟨y.P, 115, none⟩ = some (.map (some y.R)) from ⟨one_of HX4.out, one_of Hx4.out, HP4.out.cell 115 (by omega) _ rfl⟩)
  have LC4 := hid (show ∀ V, Below V4.heap.size V4 V → Lc L r V from fun V hV => lc_of (by rw [hV.block _ (lt_blk HL4.out)]; exact HL4.out) (by rw [HR.out]; have := RIN.out; simp; omega) (by rw [HR.out]; simp; omega) (by rw [HR.out]; have := RIN.out; simp; omega))
  have LB := hid (fun V (hV : Below V4.heap.size V4 V) => im_lbase L r V (LC4.out V hV))
  have CD := hid (show V4.drew.drew.cell? ⟨X5, 0, none⟩ = some (.pointer (some ⟨L, 0, none⟩)) ∧ V4.drew.drew.cell? ⟨x2, 0, none⟩ = some (.pointer (some ⟨y.P, 0, none⟩)) ∧ V4.drew.drew.cell? ⟨y.P, 115, none⟩ = some (.map (some y.R)) from CK.out)
  have HPD := hid (HP4.out.below (Below.refl _ V4).drew.drew)
  go_upto_region 4 with fail
  refine wp_region_held (S := fun W9 => W9.cell? ⟨X5, 0, none⟩ = some (.pointer (some ⟨L, 0, none⟩)) ∧ W9.cell? ⟨x2, 0, none⟩ = some (.pointer (some ⟨y.P, 0, none⟩)) ∧ W9.cell? ⟨y.P, 115, none⟩ = some (.map (some y.R))) (by kernel_rfl) ?_
  simp only [List.size_toArray, List.length_cons, List.length_nil, Nat.reduceAdd, Array.replicate_succ, Array.replicate_zero, List.push_toArray, List.nil_append, List.cons_append]
  have hS := CK.out
  refine wpAnyH_put (i := 0) (d := 26) (v := .pointer (some ⟨y.P, 0, none⟩)) rfl (by kernel_rfl) (by kernel_rfl) (by kernel_rfl) (by kernel_rfl) (fun _ _ _ h => h) (Or.inl ⟨by kernel_rfl, fun W hS => by obtain ⟨y0, y1, y2⟩ := hS; first | (go_simp; done) | (go_simp; omega)⟩) hS ?_
  simp only [List.setIfInBounds_toArray, List.set_cons_zero, List.set_cons_succ]
  refine wpAnyH_put (i := 1) (d := 27) (v := .pointer (some ⟨y.P, 0, none⟩)) rfl (by kernel_rfl) (by kernel_rfl) (by kernel_rfl) (by kernel_rfl) (fun _ _ _ h => h) (Or.inl ⟨by kernel_rfl, fun _ _ => by kernel_rfl⟩) hS ?_
  simp only [List.setIfInBounds_toArray, List.set_cons_zero, List.set_cons_succ]
  refine wpAnyH_put (i := 2) (d := 28) (v := .pointer (some ⟨y.P, 115, none⟩)) rfl (by kernel_rfl) (by kernel_rfl) (by kernel_rfl) (by kernel_rfl) (fun _ _ _ h => h) (Or.inl ⟨by kernel_rfl, fun _ _ => by kernel_rfl⟩) hS ?_
  simp only [List.setIfInBounds_toArray, List.set_cons_zero, List.set_cons_succ]
  refine wpAnyH_put (i := 3) (d := 29) (v := .map (some y.R)) rfl (by kernel_rfl) (by kernel_rfl) (by kernel_rfl) (by kernel_rfl) (fun _ _ _ h => h) (Or.inl ⟨by kernel_rfl, fun W hS => by obtain ⟨y0, y1, y2⟩ := hS; first | (go_simp; done) | (go_simp; omega)⟩) hS ?_
  simp only [List.setIfInBounds_toArray, List.set_cons_zero, List.set_cons_succ]
  refine wpAnyH_put (i := 4) (d := 30) (v := .pointer (some ⟨L, 0, none⟩)) rfl (by kernel_rfl) (by kernel_rfl) (by kernel_rfl) (by kernel_rfl) (fun _ _ _ h => h) (Or.inl ⟨by kernel_rfl, fun W hS => by obtain ⟨y0, y1, y2⟩ := hS; first | (go_simp; done) | (go_simp; omega)⟩) hS ?_
  simp only [List.setIfInBounds_toArray, List.set_cons_zero, List.set_cons_succ]
  refine wpAnyH_put (i := 6) (d := 32) (v := .pointer (some ⟨L, 0, none⟩)) rfl (by kernel_rfl) (by kernel_rfl) (by kernel_rfl) (by kernel_rfl) (fun _ _ _ h => h) (Or.inl ⟨by kernel_rfl, fun W hS => by obtain ⟨y0, y1, y2⟩ := hS; first | (go_simp; done) | (go_simp; omega)⟩) hS ?_
  simp only [List.setIfInBounds_toArray, List.set_cons_zero, List.set_cons_succ]
  refine wpAnyH_one (r := 5) (by kernel_rfl) ?_
  refine wpOp_do rfl (by kernel_rfl) (fun K' hK => ?_)
  go_simp
  refine (LB.out _ (Below.refl _ _).drew).mono ?_
  rintro e U1 ⟨rfl, rfl⟩
  have q1 := CD.out
  refine hK.out _ _ ⟨q1, ?_⟩
  clear hS
  have hS := q1
  clear hK K'
  refine wpAnyH_one (r := 7) (by kernel_rfl) ?_
  refine wpOp_do rfl (by kernel_rfl) (fun K' hK => ?_)
  obtain ⟨V5, hput, mr5, mt5⟩ := HPD.out.mp.put r.base L hbl H0.out hf1
  have k5 := turned_ky mt5 HPD.out.mp.typ
  refine wpo_update 71 (.tmp 29) (.tmp 31) (.tmp 32) (vm := .map (some y.R)) (vx := .int .u64 (r.base : Nat)) (vu := .pointer (some ⟨L, 0, none⟩)) (by kernel_rfl) (by kernel_rfl) (by kernel_rfl) (by kernel_rfl) hput ?_
  refine hK.out _ _ ⟨⟨k5.cellK q1.1, k5.cellK q1.2.1, k5.cellK q1.2.2⟩, ?_⟩
  clear hK K'
  refine wpAnyH_done (by kernel_rfl) ?_ _
  have kD : Below V4.heap.size V4 V4.drew.drew := (Below.refl _ _).drew.drew
  have hLD : V4.drew.drew.heap[L]? = some (.cells (lgC r) 158 (0, 0)) := (kD.block _ (lt_blk HL4.out)).trans HL4.out
  obtain ⟨hp5, b5⟩ := HPD.out.addR hLD HBL.out NL.out H0.out mr5 mt5
  have HP5 := hid hp5
  have BI5 := hid ((BI4.out.add kD HP4.out.bW).trans b5)
  have HX5 := hid (show V5.heap[X5]? = some (.cells #[.pointer (some ⟨L, 0, none⟩)] 145 (0, 0)) from k5.cells _ _ _ _ ((kD.block _ (lt_blk HX4.out)).trans HX4.out) (fun e => e))
  have Hx5 := hid (show V5.heap[x2]? = some (.cells #[.pointer (some ⟨y.P, 0, none⟩)] 58 (0, 0)) from k5.cells _ _ _ _ ((kD.block _ (lt_blk Hx4.out)).trans Hx4.out) (fun e => e))
  have LO := hid HP4.out.lo
  have HL5 := hid (show V5.heap[L]? = some (.cells (lgC r) 158 (0, 0)) from k5.cells _ _ _ _ hLD (fun e => e))
  clear kD hLD hp5 b5 k5 mr5 mt5 hput HPD HL4 HX4 Hx4 HP4 BI4 q1 hS CK CD LC4 LB
  have LCv := hid (show ∀ V : World, V.heap[L]? = some (.cells (lgC r) 158 (0, 0)) → Lc L r V from fun V hV => lc_of hV (by rw [HR.out]; have := RIN.out; simp; omega) (by rw [HR.out]; simp; omega) (by rw [HR.out]; have := RIN.out; simp; omega))
  have LP := hid (fun V (hV : Below V5.heap.size V5 V) => im_lpaging L 0 r V (LCv.out V (by rw [hV.block _ (lt_blk HL5.out)]; exact HL5.out)))
  have hrp : r.pages = pp ∧ r.first + r.guards = s + (1 + dd) := by rw [HR.out]; exact ⟨rfl, rfl⟩
  rw [hrp.1, hrp.2] at LP
  clear hrp
  obtain ⟨d5, hd5⟩ : ∃ d5 : Dy, d5 = { d with lg := upd d.lg r.base (some L) } := ⟨_, rfl⟩
  rw [← hd5] at HP5
  have HD5 := hid hd5
  have G5 := hid (show d5.lg = upd d.lg r.base (some L) ∧ d5.un = .nilFunc ∧ d5.an = an ∧ (∀ c s, c < 12 → s < 6 → d5.on c s = onS h1 c s) by rw [hd5]; exact ⟨rfl, G1.out.un, G1.out.an, G1.out.on⟩)
  clear hd5 HD5
  have CM := hid (fun V (hV : Below V5.heap.size V5 V) => im_commit B y d5 cf { h1 with rg := h1.rg ++ [r] } (s + (1 + dd)) pp (.func 102) #[] #[.pointer (some ⟨x2, 0, none⟩), .pointer (some ⟨X5, 0, none⟩)] V (HP5.out.below hV) I1.out.out PP1.out (by have := RIN.out; omega) FRE.out)
  have CD := hid (show ∀ V, Below V5.heap.size V5 V → V.cell? ⟨X5, 0, none⟩ = some (.pointer (some ⟨L, 0, none⟩)) ∧ V.cell? ⟨x2, 0, none⟩ = some (.pointer (some ⟨y.P, 0, none⟩)) from fun V hV => ⟨one_of ((hV.block _ (lt_blk HX5.out)).trans HX5.out), one_of ((hV.block _ (lt_blk Hx5.out)).trans Hx5.out)⟩)
  have HM2 := hid (show mres = putL cf h1 (1 + dd) pp a (some s) by
    rw [HMM.out, if_neg (by have := RIN.out; omega), HRQ.out])
  have NOW := hid (show ∀ f' U1 U, Below V5.heap.size V5 U1 → Bi B U1 U → (cf.bud : Int) < (cntM h1.m 283 : Int) + pp → Hp B y { d5 with f := f', un := .func (.func 102) #[] #[.pointer (some ⟨x2, 0, none⟩), .pointer (some ⟨X5, 0, none⟩)] } cf { h1 with rg := h1.rg ++ [r] } U → TaW B y cf an d.lg W mres (.panicked (refV 1)) U from fun f' U1 U hU1 hU hb hp => by
    have e1 : mres = (none, h1) := by
      rw [HM2.out]
      show (if cf.bud < cntM h1.m 283 + pp then (none, h1) else _) = _
      rw [if_pos (by omega)]
    rw [e1]
    refine ⟨.no _ _ (fun V hV => ?_), (BI5.out.add hU1 HP5.out.bW).trans hU⟩
    have hpV := hp.below hV
    obtain ⟨g, e3, _, e5⟩ := hpV.lb r (by simp)
    have e4 : d5.lg r.base = some g := e3
    rw [G5.out.1, upd_same] at e4
    cases e4
    have cx : ∀ (g : Nat) (c : Array Value) (t : TypeId), ¬ hI t → V5.heap[g]? = some (.cells c t (0, 0)) → V.heap[g]? = some (.cells c t (0, 0)) := fun g c t ht hg => by
      have h1 := hU.ky.cells _ _ _ _ ((hU1.block _ (lt_blk hg)).trans hg) ht
      exact (hV.block _ (lt_blk h1)).trans h1
    refine (im_takeBackR B y _ cf h1 r L x2 X5 d.lg V hpV G5.out.1 H0.out LO.out (LCv.out V e5) hbl (one_of (cx _ _ _ (by unfold hI; decide) Hx5.out)) (one_of (cx _ _ _ (by unfold hI; decide) HX5.out)) rfl).mono ?_
    rintro e V' ⟨rfl, hp', bi'⟩
    exact ⟨rfl, ⟨_, hp', ⟨fun c s hc hs => G5.out.2.2.2 c s hc hs, rfl, G5.out.2.2.1⟩⟩, bi'⟩)
  clear HMM
  go_upto_region 5 with fail
  refine wp_region_held (S := fun W9 => W9.cell? ⟨X5, 0, none⟩ = some (.pointer (some ⟨L, 0, none⟩)) ∧ W9.cell? ⟨x2, 0, none⟩ = some (.pointer (some ⟨y.P, 0, none⟩))) (by kernel_rfl) ?_
  simp only [List.size_toArray, List.length_cons, List.length_nil, Nat.reduceAdd, Array.replicate_succ, Array.replicate_zero, List.push_toArray, List.nil_append, List.cons_append]
  have hS := CD.out _ (Below.refl _ _).drew
  refine wpAnyH_put (i := 0) (d := 33) (v := .pointer (some ⟨y.P, 0, none⟩)) rfl (by kernel_rfl) (by kernel_rfl) (by kernel_rfl) (by kernel_rfl) (fun _ _ _ h => h) (Or.inl ⟨by kernel_rfl, fun W hS => by obtain ⟨y0, y1⟩ := hS; first | (go_simp; done) | (go_simp; omega)⟩) hS ?_
  simp only [List.setIfInBounds_toArray, List.set_cons_zero, List.set_cons_succ]
  refine wpAnyH_put (i := 1) (d := 34) (v := .pointer (some ⟨L, 0, none⟩)) rfl (by kernel_rfl) (by kernel_rfl) (by kernel_rfl) (by kernel_rfl) (fun _ _ _ h => h) (Or.inl ⟨by kernel_rfl, fun W hS => by obtain ⟨y0, y1⟩ := hS; first | (go_simp; done) | (go_simp; omega)⟩) hS ?_
  simp only [List.setIfInBounds_toArray, List.set_cons_zero, List.set_cons_succ]
  refine wpAnyH_put (i := 3) (d := 36) (v := .func (.func 102) #[] #[.pointer (some ⟨x2, 0, none⟩), .pointer (some ⟨X5, 0, none⟩)]) rfl (by kernel_rfl) (by kernel_rfl) (by kernel_rfl) (by kernel_rfl) (fun _ _ _ h => h) (Or.inl ⟨by kernel_rfl, fun W hS => by obtain ⟨y0, y1⟩ := hS; first | (go_simp; done) | (go_simp; omega)⟩) hS ?_
  simp only [List.setIfInBounds_toArray, List.set_cons_zero, List.set_cons_succ]
  refine wpAnyH_one (r := 2) (by kernel_rfl) ?_
  refine wpOp_do rfl (by kernel_rfl) (fun K' hK => ?_)
  go_simp
  refine (LP.out _ (Below.refl _ _).drew).mono ?_
  rintro e U1 ⟨rfl, b1⟩
  have k1 : Below V5.heap.size V5 U1 := ⟨b1.os, b1.tape, b1.output, b1.size, b1.block⟩
  have q1 := CD.out _ k1
  refine hK.out _ _ ⟨q1, ?_⟩
  clear hS
  have hS := q1
  clear hK K'
  refine wpAnyH_one (r := 4) (by kernel_rfl) ?_
  refine wpOp_do rfl (by kernel_rfl) (fun K' hK => ?_)
  go_simp
  refine (CM.out _ k1).mono ?_
  rintro e V6 ⟨f', bi6, ⟨hbud, rfl, hp6⟩ | ⟨hbud, rfl, hp6⟩⟩
  rotate_left
  · exact ⟨rfl, NOW.out f' U1 V6 k1 bi6 hbud hp6⟩
  have q2 : _ ∧ _ := ⟨one_of (bi6.ky.cells _ _ _ _ ((k1.block _ (lt_blk HX5.out)).trans HX5.out) (by unfold hI; decide)), one_of (bi6.ky.cells _ _ _ _ ((k1.block _ (lt_blk Hx5.out)).trans Hx5.out) (by unfold hI; decide))⟩
  refine hK.out _ _ ⟨q2, ?_⟩
  clear hS
  have hS := q2
  clear hK K'
  refine wpAnyH_done (by kernel_rfl) ?_ _
  obtain ⟨d6, hd6⟩ : ∃ d6 : Dy, d6 = { d5 with f := f', un := .nilFunc } := ⟨_, rfl⟩
  obtain ⟨h6, hh6⟩ : ∃ h6 : Hs, h6 = { h1 with rg := h1.rg ++ [r], m := freshM h1.m (s + (1 + dd)) pp } := ⟨_, rfl⟩
  have HP6 := hid (show Hp B y d6 cf h6 V6 by rw [hd6, hh6]; exact hp6)
  have BI6 := hid ((BI5.out.add k1 HP5.out.bW).trans bi6)
  have G6 := hid (show d6.lg = upd d.lg r.base (some L) ∧ d6.un = .nilFunc ∧ d6.an = an ∧ (∀ c s, c < 12 → s < 6 → d6.on c s = onS h1 c s) by rw [hd6]; exact ⟨G5.out.1, rfl, G5.out.2.2.1, G5.out.2.2.2⟩)
  have HH6 := hid hh6
  have HX6 := hid (show V6.heap[X5]? = some (.cells #[.pointer (some ⟨L, 0, none⟩)] 145 (0, 0)) from bi6.ky.cells _ _ _ _ ((k1.block _ (lt_blk HX5.out)).trans HX5.out) (by unfold hI; decide))
  have Hx6 := hid (show V6.heap[x2]? = some (.cells #[.pointer (some ⟨y.P, 0, none⟩)] 58 (0, 0)) from bi6.ky.cells _ _ _ _ ((k1.block _ (lt_blk Hx5.out)).trans Hx5.out) (by unfold hI; decide))
  have HBU := hid (show ¬ cf.bud < cntM h1.m 283 + pp from fun e => hbud (by show (cf.bud : Int) < _; have : (cf.bud : Int) < ((cntM h1.m 283 + pp : Nat) : Int) := by omega
                                                                             simpa using this))
  have HL6 := hid (show V6.heap[L]? = some (.cells (lgC r) 158 (0, 0)) by
    obtain ⟨g, e3, _, e5⟩ := HP6.out.lb r (by rw [hh6]; simp)
    rw [G6.out.1, upd_same] at e3
    cases e3
    exact e5)
  have hrl6 : h6.rel = h1.rel := by rw [hh6]
  have HRX := hid (show ∀ x ∈ h6.rel, x < 18446744073709551616 from fun x hx => by
    rw [hrl6] at hx
    have := I1.out.rel x hx
    omega)
  have HRL := hid (show h6.rel.length ≤ 100000 by rw [hrl6]; exact hrl1)
  have H09 := H0
  clear hp6 bi6 hd6 hh6 k1 b1 q1 q2 hS hbud NOW CM LP CD HP5 BI5 HX5 Hx5 HL5 G5 LO NL H0 FRE hrl6
  obtain ⟨va, vn, vc, hrle⟩ := own_sl4 HP6.out.rl
  have HRE := hid hrle
  have HPD := hid (HP6.out.below (Below.refl _ V6).drew)
  have DF := hid (im_deleteFunc B L r va vn vc h6.rel V6.drew (by have := HPD.out.rl; rw [hrle] at this; exact this) HRL.out HRX.out (LCv.out _ ((Below.refl V6.heap.size V6).drew.block _ (lt_blk HL6.out) |>.trans HL6.out)) ⟨_, (Below.refl V6.heap.size V6).drew.block _ (lt_blk HL6.out) |>.trans HL6.out⟩)
  have hcf : (h6.rel.filter fun x => !cov r x) = h6.rel.filter fun b => b / 1024 < s || s + (1 + dd + pp + 1) ≤ b / 1024 := by rw [HR.out]; exact cov_filter s (1 + dd) pp 1 _ _
  rw [hcf] at DF
  clear hcf
  generalize hfl : (h6.rel.filter fun b => b / 1024 < s || s + (1 + dd + pp + 1) ≤ b / 1024) = fl at *
  have HFL := hid hfl
  have c117 : V6.drew.cell? ⟨y.P, 117, none⟩ = some (.slice va vn vc) := HPD.out.cell 117 (by omega) _ hrle
  have CD := hid (show ∀ V : World, Ky (· = 23) V6.drew V → V.cell? ⟨X5, 0, none⟩ = some (.pointer (some ⟨L, 0, none⟩)) ∧ V.cell? ⟨x2, 0, none⟩ = some (.pointer (some ⟨y.P, 0, none⟩)) from fun V hV => ⟨one_of (hV.cells _ _ _ _ (show V6.drew.heap[X5]? = _ from HX6.out) (by decide)), one_of (hV.cells _ _ _ _ (show V6.drew.heap[x2]? = _ from Hx6.out) (by decide))⟩)
  have SRL := hid (show ∀ (U : World) (wa : Option Addr) (wn wc : Nat), U.ownsRow B 23 1 (.slice wa wn wc) fl.length (Us fl) → V6.drew.grownBy U (Value.slice va vn vc).ownBlock → (Value.slice wa wn wc).ownBlock = (Value.slice va vn vc).ownBlock → _ from fun U wa wn wc own gr ob => HPD.out.setRl (v' := .slice wa wn wc) own (by rw [HRE.out]; exact gr) (fun g hg => by rw [ob, ← HRE.out]; exact HPD.out.rr g hg))
  have GWK := hid (show ∀ U : World, V6.drew.grownBy U (Value.slice va vn vc).ownBlock → Ky (· = 23) V6.drew U from fun U gr => (HPD.out.gw (fun g hg => own_lt HPD.out.rl hg) (by rw [HRE.out]; exact gr)).k)
  have KLG := hid (show ∀ b g, d.lg b = some g → d6.lg b = some g from fun b g hb => by
    rw [G6.out.1]
    by_cases e : b = r.base
    · subst e; rw [H09.out] at hb; cases hb
    · rw [upd_other _ _ _ _ e]; exact hb)
  have FIN := hid (show ∀ v' U, Hp B y { d6 with rl := v' } cf { h6 with rel := fl } U → Bi B V6.drew U → TaW B y cf an d.lg W mres (.returned (.iface 145 (.pointer (some ⟨L, 0, none⟩)))) U from fun v' U hU hbi => by
    have e1 : mres = (some r.base, { h6 with rel := fl }) := by
      rw [HM2.out]
      show (if cf.bud < cntM h1.m 283 + pp then (none, h1) else _) = _
      rw [if_neg HBU.out, ← HFL.out, HH6.out, HB9.out, HR.out]
    rw [e1]
    refine ⟨.range r L { d6 with rl := v' } _ U (by rw [HH6.out]; simp) (by rw [HR.out]) (by show d6.lg r.base = _; rw [G6.out.1, upd_same]) hU ⟨fun c s' hc hs => ?_, G6.out.2.1, G6.out.2.2.1⟩ (fun b g hb => KLG.out b g hb), (BI6.out.add (Below.refl _ _).drew HP6.out.bW).trans hbi⟩
    show d6.on c s' = (h6.m (slabP c s')).isSome
    rw [G6.out.2.2.2 c s' hc hs, HH6.out]
    show (h1.m (slabP c s')).isSome = (freshM h1.m (s + (1 + dd)) pp (slabP c s')).isSome
    have := slabP_in hc hs
    rw [freshM_lo _ _ _ _ (by have := RIN.out; omega)])
  have NP := hid (show X5 ≠ y.P ∧ x2 ≠ y.P from by
    obtain ⟨c, hb, _⟩ := HP6.out.box
    constructor
    · intro e; have := HX6.out; rw [e, hb] at this; simp at this
    · intro e; have := Hx6.out; rw [e, hb] at this; simp at this)
  clear hfl hrle HM2 HBU G6 HH6 HX6 Hx6 HL6 HRX HRL I1 G1 HR LCv HB9 HRS HRQ HP6 HPD
  have SX := hid (show ∀ (V : World) (v : Value), V.cell? ⟨X5, 0, none⟩ = some (.pointer (some ⟨L, 0, none⟩)) ∧ V.cell? ⟨x2, 0, none⟩ = some (.pointer (some ⟨y.P, 0, none⟩)) → (V.setCell ⟨y.P, 117, none⟩ v).cell? ⟨X5, 0, none⟩ = some (.pointer (some ⟨L, 0, none⟩)) ∧ (V.setCell ⟨y.P, 117, none⟩ v).cell? ⟨x2, 0, none⟩ = some (.pointer (some ⟨y.P, 0, none⟩)) from fun V v hV => by
    have n5 : X5 ≠ y.P := NP.out.1
    have n2 : x2 ≠ y.P := NP.out.2
    unfold World.cell? at hV ⊢
    rw [Below.heap_setCell _ _ _ _ n5, Below.heap_setCell _ _ _ _ n2]
    exact hV)
  go_upto_region 6 with fail
  refine wp_region_held (S := fun W9 => W9.cell? ⟨X5, 0, none⟩ = some (.pointer (some ⟨L, 0, none⟩)) ∧ W9.cell? ⟨x2, 0, none⟩ = some (.pointer (some ⟨y.P, 0, none⟩))) (by kernel_rfl) ?_
  simp only [List.size_toArray, List.length_cons, List.length_nil, Nat.reduceAdd, Array.replicate_succ, Array.replicate_zero, List.push_toArray, List.nil_append, List.cons_append]
  have hS := CD.out _ (Ky.refl _ _)
  refine wpAnyH_put (i := 0) (d := 38) (v := .pointer (some ⟨y.P, 0, none⟩)) rfl (by kernel_rfl) (by kernel_rfl) (by kernel_rfl) (by kernel_rfl) (fun _ _ _ h => h) (Or.inl ⟨by kernel_rfl, fun W hS => by obtain ⟨y0, y1⟩ := hS; first | (go_simp; done) | (go_simp; omega)⟩) hS ?_
  simp only [List.setIfInBounds_toArray, List.set_cons_zero, List.set_cons_succ]
  refine wpAnyH_put (i := 1) (d := 39) (v := .pointer (some ⟨y.P, 0, none⟩)) rfl (by kernel_rfl) (by kernel_rfl) (by kernel_rfl) (by kernel_rfl) (fun _ _ _ h => h) (Or.inl ⟨by kernel_rfl, fun W hS => by obtain ⟨y0, y1⟩ := hS; first | (go_simp; done) | (go_simp; omega)⟩) hS ?_
  simp only [List.setIfInBounds_toArray, List.set_cons_zero, List.set_cons_succ]
  refine wpAnyH_put (i := 2) (d := 40) (v := .pointer (some ⟨y.P, 0, none⟩)) rfl (by kernel_rfl) (by kernel_rfl) (by kernel_rfl) (by kernel_rfl) (fun _ _ _ h => h) (Or.inl ⟨by kernel_rfl, fun _ _ => by kernel_rfl⟩) hS ?_
  simp only [List.setIfInBounds_toArray, List.set_cons_zero, List.set_cons_succ]
  refine wpAnyH_put (i := 3) (d := 41) (v := .pointer (some ⟨y.P, 117, none⟩)) rfl (by kernel_rfl) (by kernel_rfl) (by kernel_rfl) (by kernel_rfl) (fun _ _ _ h => h) (Or.inl ⟨by kernel_rfl, fun _ _ => by kernel_rfl⟩) hS ?_
  simp only [List.setIfInBounds_toArray, List.set_cons_zero, List.set_cons_succ]
  refine wpAnyH_put (i := 5) (d := 43) (v := .pointer (some ⟨L, 0, none⟩)) rfl (by kernel_rfl) (by kernel_rfl) (by kernel_rfl) (by kernel_rfl) (fun _ _ _ h => h) (Or.inl ⟨by kernel_rfl, fun W hS => by obtain ⟨y0, y1⟩ := hS; first | (go_simp; done) | (go_simp; omega)⟩) hS ?_
  simp only [List.setIfInBounds_toArray, List.set_cons_zero, List.set_cons_succ]
  refine wpAnyH_put (i := 6) (d := 44) (v := .func (.func 104) #[.pointer (some ⟨L, 0, none⟩)] #[]) rfl (by kernel_rfl) (by kernel_rfl) (by kernel_rfl) (by kernel_rfl) (fun _ _ _ h => h) (Or.inl ⟨by kernel_rfl, fun W hS => by obtain ⟨y0, y1⟩ := hS; first | (go_simp; done) | (go_simp; omega)⟩) hS ?_
  simp only [List.setIfInBounds_toArray, List.set_cons_zero, List.set_cons_succ]
  refine wpAnyH_one (r := 4) (by kernel_rfl) ?_
  refine wpOp_do rfl (by kernel_rfl) (fun K' hK => ?_)
  go_simp
  refine hK.out _ _ ⟨hS, ?_⟩
  clear hK K'
  refine wpAnyH_one (r := 7) (by kernel_rfl) ?_
  refine wpOp_do rfl (by kernel_rfl) (fun K' hK => ?_)
  go_simp
  refine (DF.out).mono ?_
  rintro e U1 ⟨v', rfl, own1, gr1, ob1⟩
  obtain ⟨wa, wc, rfl⟩ := own_sl2 own1
  obtain ⟨hp7, bi7, c7, f7⟩ := SRL.out U1 wa _ wc own1 gr1 ob1
  rw [HRE.out] at c7
  have q1 := CD.out U1 (GWK.out U1 gr1)
  refine hK.out _ _ ⟨q1, ?_⟩
  clear hS
  have hS := q1
  clear hK K'
  refine wpAnyH_put (i := 8) (d := 46) (v := .pointer (some ⟨y.P, 0, none⟩)) rfl (by kernel_rfl) (by kernel_rfl) (by kernel_rfl) (by kernel_rfl) (fun _ _ _ h => h) (Or.inl ⟨by kernel_rfl, fun _ _ => by kernel_rfl⟩) hS ?_
  simp only [List.setIfInBounds_toArray, List.set_cons_zero, List.set_cons_succ]
  refine wpAnyH_put (i := 9) (d := 47) (v := .pointer (some ⟨y.P, 117, none⟩)) rfl (by kernel_rfl) (by kernel_rfl) (by kernel_rfl) (by kernel_rfl) (fun _ _ _ h => h) (Or.inl ⟨by kernel_rfl, fun _ _ => by kernel_rfl⟩) hS ?_
  simp only [List.setIfInBounds_toArray, List.set_cons_zero, List.set_cons_succ]
  refine wpAnyH_one (r := 10) (by kernel_rfl) ?_
  refine wpOp_do rfl (by kernel_rfl) (fun K' hK => ?_)
  go_simp
  have q2 := SX.out U1 (.slice wa fl.length wc) q1
  refine hK.out _ _ ⟨q2, ?_⟩
  clear hK K'
  refine wpAnyH_done (by kernel_rfl) ?_ _
  have FF := hid (FIN.out _ _ hp7 bi7)
  have qx := q2.1
  clear hp7 bi7 own1 gr1 ob1 c7 f7 q1 q2 hS CD SRL GWK FIN DF SX c117
  go_wp2
  go_ret
  exact FF.out
end Go.Proofs.YtgandbaejlfppaaGreatDoor
