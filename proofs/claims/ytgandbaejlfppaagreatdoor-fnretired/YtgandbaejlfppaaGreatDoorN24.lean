import Derived.Test.YtgandbaejlfppaaGreatDoorN21
namespace Go.Proofs.YtgandbaejlfppaaGreatDoor
set_option linter.unusedVariables false
set_option linter.unusedSimpArgs false
set_option maxRecDepth 20000
set_option maxHeartbeats 8000000
open Go.RowKit
theorem info186:(Tryz.prog.info? 133).map (fun i=>(i.zero,i.size,i.bytes))=some (some (.pointer none),1,8):=by kernel_rfl
def frM (st:Nat→Int) (n:Nat):List Nat:=(List.range n).filter fun j=>isFree (st j)
def Pt (g:Nat→Nat) (l:List Nat):List Value:=l.map fun j=>Vp (g j) 0
theorem frM_yes (st:Nat→Int) (n:Nat) (h:isFree (st n)=true):frM st (n+1)=frM st n++[n]:=by
 unfold frM;rw [List.range_succ,List.filter_append];simp [h]
theorem frM_no (st:Nat→Int) (n:Nat) (h:isFree (st n)=false):frM st (n+1)=frM st n:=by
 unfold frM;rw [List.range_succ,List.filter_append];simp [h]
theorem frM_len (st:Nat→Int) (n:Nat):(frM st n).length≤n:=by
 unfold frM;have:=List.length_filter_le (fun j=>isFree (st j)) (List.range n);simpa using this
theorem frM_freeS (h:Hs) (c s:Nat):frM (h.st c s) (slN c)=freeS h c s:=rfl
theorem im_free (b r c s n cap:Nat) (on:Bool) (g:Nat→Nat) (st:Nat→Int) (W:World) (h:Bc b r c s n cap on W) (hn:n≤64) (hr:∀ j,j < n→W.cell? ⟨r,j,none⟩=some (Vp (g j) 0)) (hst:∀ j,j < n→W.cell? ⟨g j,0,none⟩=some (Vi (st j))) :
  Calls Tryz.prog 94 #[Vp b 0] W fun e W'=>∃ v,e=.returned v∧W'.ownsRow W.heap.size 133 1 v (frM st n).length (Pt g (frM st n))∧Below W.heap.size W W':=by
 obtain⟨i0,hi0,hz0,hz1,hz2⟩:=info_parts info186;obtain⟨_,_,_,d3⟩:=h;have HR:=hid hr;have HT:=hid hst;clear hr hst;go_enter Tryz.func94,Tryz.ntmps94;go_wp2;go_loopw [3,11] (fun v i wr=>∃ k:Nat,k≤n∧i=Vi k∧Hid (wr.ownsRow W.heap.size 133 1 v (frM st k).length (Pt g (frM st k)))∧Hid (Below W.heap.size W wr)) (fun _ i _=>n - (intOf i).toNat)
 case atStart=>exact ⟨0,Nat.zero_le _,rfl,hid ⟨rfl,.inl ⟨rfl,rfl⟩⟩,hid (Below.refl _ _)⟩
 case round =>
  obtain⟨k,hk,rfl,HO,HB⟩:=hrel;obtain⟨va,vb,vc,rfl⟩:∃ p l cc,u3=.slice p l cc:=by rcases HO.out.2 with ⟨rfl,_⟩|⟨g,cp,cur,rfl,_⟩ <;> exact ⟨_,_,_,rfl⟩
  by_cases hlt:k < n
  ·have d0:=below_cell HB.out (HR.out k hlt);have d1:=below_cell HB.out (HT.out k hlt);have hle:=frM_len st k;have FY:=hid (frM_yes st k);have FN:=hid (frM_no st k);generalize hx:st k=x at *;clear hx;generalize hq:frM st k=q at *;clear hq;have HG:=hid (show Pt g (q++[k])=Pt g q++[Vp (g k) 0] by simp [Pt]);generalize g k=G at *
   by_cases h0:x=0
   ·subst h0;have F:=hid (FY.out rfl);clear FY FN;have O8:=hid (HO.out.alloc (.cells #[Vp G 0] 133));have B8:=hid (HB.out.alloc HB.out.size (.cells #[Vp G 0] 133));go_wp2_with (at_builtin;refine wpList_append_own _ rfl _ _ 130 rfl W.heap.size 133 i0 (.pointer none) 1 8 Tryz.underlying130 hi0 hz0 hz1 hz2 rfl (by omega) _ _ _ rfl O8.out _ 1 1 [Vp G 0] rfl rfl ?hc ?h1c ?b1 ?b2 ?b3 ?_)
    case hc=>exact one_new _ _ _ _ (by simp)
    case h1c=>intro u hu;simp at hu;subst hu;rfl
    case b1=>unfold maxLen;omega
    case b2=>omega
    case b3=>exact B8.out.size
    intro v1 w9 ho9 hg9 _;have HN9:=hid (And.intro ho9 (B8.out.grown hg9 B8.out.size (own_base O8.out)));clear ho9 hg9;go_wp2;go_roundw
    case rel=>exact ⟨k+1,by omega,by go_num,hid (by rw [F.out,List.length_append,HG.out];exact HN9.out.1),hid HN9.out.2⟩
    case measure=>simp [intOf];omega
   have h0':(x==0)=false:=by simpa using h0
   by_cases h3:x=3
   ·subst h3;have F:=hid (FY.out rfl);clear FY FN h0';have O8:=hid (HO.out.alloc (.cells #[Vp G 0] 133));have B8:=hid (HB.out.alloc HB.out.size (.cells #[Vp G 0] 133));go_wp2_with (at_builtin;refine wpList_append_own _ rfl _ _ 130 rfl W.heap.size 133 i0 (.pointer none) 1 8 Tryz.underlying130 hi0 hz0 hz1 hz2 rfl (by omega) _ _ _ rfl O8.out _ 1 1 [Vp G 0] rfl rfl ?hc ?h1c ?b1 ?b2 ?b3 ?_)
    case hc=>exact one_new _ _ _ _ (by simp)
    case h1c=>intro u hu;simp at hu;subst hu;rfl
    case b1=>unfold maxLen;omega
    case b2=>omega
    case b3=>exact B8.out.size
    intro v1 w9 ho9 hg9 _;have HN9:=hid (And.intro ho9 (B8.out.grown hg9 B8.out.size (own_base O8.out)));clear ho9 hg9;go_wp2;go_roundw
    case rel=>exact ⟨k+1,by omega,by go_num,hid (by rw [F.out,List.length_append,HG.out];exact HN9.out.1),hid HN9.out.2⟩
    case measure=>simp [intOf];omega
   have h3':(x==3)=false:=by simpa using h3
   have F:=hid (FN.out (by unfold isFree;rw [h0',h3'];rfl));clear FY FN h0 h3;go_wp2;go_roundw
   case rel=>exact ⟨k+1,by omega,by go_num,hid (by rw [F.out];exact HO.out),HB⟩
   case measure=>simp [intOf];omega
  obtain rfl:k=n:=by omega
  go_wp2;go_ret;exact⟨_,rfl,HO.out,HB.out⟩
end Go.Proofs.YtgandbaejlfppaaGreatDoor
namespace Go.Proofs.YtgandbaejlfppaaGreatDoor
set_option linter.unusedVariables false
set_option linter.unusedSimpArgs false
set_option maxRecDepth 20000
set_option maxHeartbeats 8000000
open Go.RowKit Go.Maps
theorem not67:¬hI 61:=by unfold hI;decide
def SwR (B:Nat) (y:Ly) (cf:Cf) (h:Hs) (an:Value) (lg:Nat→Option Nat) (c:Nat) (W:World) (e:Ending) (W':World):Prop:=RmR B y cf h an lg c (roomS cf h c) e W'∧Bi B W W'
theorem im_swr (B:Nat) (y:Ly) (d:Dy) (cf:Cf) (h:Hs) (an:Value) (c:Nat) (W:World) (hp:Hp B y d cf h W) (gd:Gd d h an) (i:Inv cf h) (hc:c < 12) :
  Calls Tryz.prog 93 #[Vp y.P 0,Vi (c:Nat)] W (SwR B y cf h an d.lg c W):=by
 have HPB:=hid (fun V (hV:Below W.heap.size W V)=>hp.below hV);have BW:=hid hp.bW;have hz:=szN_in hc;have RG:=hid (fun V (hV:Below W.heap.size W V)=>(hp.below hV).range6 hc);have FR:=hid (fun V (hV:Below W.heap.size W V) k (hk:k < 6)=>im_free (y.sb c k) (y.sr c k) c k (slN c) (y.sc c k) (d.on c k) (y.sm c k) (h.st c k) V ((hp.below hV).bc c k hc hk) (by omega) (fun j hj=>(hp.below hV).rowAt c k j hc hk hj) (fun j hj=>((hp.below hV).smAt c k j hc hk hj).1));have FL:=hid (fun V (hV:Below W.heap.size W V) k (hk:k < 6)=>((hp.below hV).bc c k hc hk).d2);have HI:=hid i;have GD:=hid gd;have SG:=hid (slab6_get y c);have hix:∀ (k:Nat),k < 6→∀ w,(Instr.index 62 (.agg (slab6 y c).toArray) (Vi (k:Nat))).run Tryz.prog w=.ok (Vp (y.sb c k) 0) w:=fun k hk w=>by
  rcases (show k=0∨k=1∨k=2∨k=3∨k=4∨k=5 by omega) with rfl|rfl|rfl|rfl|rfl|rfl <;> kernel_rfl
 have HIX:=hid hix;clear hp gd i hix;go_enter Tryz.func93,Tryz.ntmps93;go_wp2_with (refine wpList_load_mid rfl 62 _ rfl _ _ rfl _ _ (RG.out _ (Below.refl _ _)) Tryz.underlying62 rfl (by kernel_rfl) ?_);generalize hA6:(slab6 y c).toArray=A6 at *;have HA6:=hid hA6;clear hA6;go_loopw [15] (fun i wr=>∃ k:Nat,k≤6∧i=Vi k∧Hid (∀ s,s < k→(onS h c s && !(freeS h c s).isEmpty)=false)∧Hid (Below W.heap.size W wr)) (fun i _=>6 - (intOf i).toNat)
 case atStart=>exact ⟨0,Nat.zero_le _,rfl,hid (fun s hs=>by omega),hid (Below.refl _ _)⟩
 case round =>
  obtain⟨k,hk,rfl,HN,HB⟩:=hrel
  by_cases hlt:k < 6
  ·have ix:=HIX.out k hlt;have fl:=FL.out wr HB.out k hlt;have FK:=hid (fun V (hV:Below W.heap.size W V)=>FR.out V hV k hlt);have HON:=hid (GD.out.on c k hc hlt);have HLK:=hid (fun (h1:(onS h c k && !(freeS h c k).isEmpty)=true)=>pickS_some hlt h1 HN.out);generalize hon:d.on c k=on at *;rw [frM_freeS] at FK
   cases on with
   | false =>
    have HK2:=hid (show ∀ s,s < k+1→(onS h c s && !(freeS h c s).isEmpty)=false from fun s hs=>by
     rcases Nat.lt_succ_iff_lt_or_eq.1 hs with h1|h1
     ·exact HN.out s h1
     subst h1;rw [←HON.out];rfl)
    clear HN HON HLK FK hon;generalize y.sb c k=gb at *;go_wp2;go_roundw
    case rel=>exact ⟨k+1,by omega,by go_num,HK2,HB⟩
    case measure=>simp [intOf];omega
   | true =>
    go_wp2_with fail;refine (FK.out _ HB.out).mono ?_;rintro e V ⟨v,rfl,own,bV⟩;obtain⟨va,vc,rfl⟩:=own_sl2 own;have HBV:=hid (HB.out.trans (bV.mono HB.out.size));have HEM:=hid (show (freeS h c k).isEmpty=decide ((freeS h c k).length=0) by cases freeS h c k <;> simp);clear own bV FK fl ix hon HB;generalize hfl:(freeS h c k).length=n at *;clear hfl
    by_cases hn0:n=0
    ·have HK2:=hid (show ∀ s,s < k+1→(onS h c s && !(freeS h c s).isEmpty)=false from fun s hs=>by
      rcases Nat.lt_succ_iff_lt_or_eq.1 hs with h1|h1
      ·exact HN.out s h1
      subst h1;rw [HEM.out,hn0];simp)
     subst hn0;clear HN HON HLK HEM;generalize y.sb c k=gb at *;go_wp2;go_roundw
     case rel=>exact ⟨k+1,by omega,by go_num,HK2,HBV⟩
     case measure=>simp [intOf];omega
    have HPK:=hid (HLK.out (by rw [←HON.out,HEM.out];simp [hn0]));have HRS:=hid (show roomS cf h c=some (k,h) by unfold roomS;rw [HPK.out]);have hn1:(0:Int) < (n:Int):=by omega
    clear HN HON HLK HEM HPK;go_wp2;go_ret;refine⟨?_,Bi.ofBelow HBV.out BW.out⟩;rw [HRS.out];exact .yes k h _ ⟨d,HPB.out _ HBV.out,GD.out,Kl.refl d⟩
  obtain rfl:k=6:=by omega
  have HPN:=hid (pickS_none HN.out);clear HN hlt;go_wp2_with (refine wpList_load_mid rfl 62 _ rfl _ _ rfl _ _ (RG.out _ HB.out) Tryz.underlying62 rfl (by kernel_rfl) ?_);rw [HA6.out];have hmf:∀ (fn:Fn) (first cap:Array Value) (w:World),(Instr.makeFunc fn first cap).run Tryz.prog w=.ok (.func fn first cap) w:=fun _ _ _ _=>rfl
  clear FR RG HA6 SG;go_loopw [36] (fun i wq=>∃ k:Nat,k≤6∧i=Vi k∧Hid (∀ s,s < k→onS h c s=true)∧Hid (Below W.heap.size W wq)) (fun i _=>6 - (intOf i).toNat)
  case atStart=>exact ⟨0,Nat.zero_le _,rfl,hid (fun s hs=>by omega),HB⟩
  case round =>
   clear HB;obtain⟨k,hk,rfl,HN,HB⟩:=hrel
   by_cases hlt:k < 6
   ·have ix:=HIX.out k hlt;have HON:=hid (GD.out.on c k hc hlt);have HOF:=hid (fun (h1:onS h c k=false)=>offS_some hlt h1 HN.out);have bX:Below wr.heap.size wr (wr.alloc (.cells #[Vp (y.sb c k) 0] 61)):=(Below.refl _ _).alloc (Nat.le_refl _) _;have X:=al_last wr (.cells #[Vp (y.sb c k) 0] 61);have BX:=hid (HB.out.trans (bX.mono HB.out.size));have fl:=FL.out _ BX.out k hlt;have HXB:=hid HB.out.size;clear bX;go_upto_region 10 with fail
    generalize wr.alloc _=V at *;generalize wr.heap.size=XX at *;have x0:V.cell? ⟨XX,0,none⟩=some (Vp (y.sb c k) 0):=by rw [cell_of_row _ _ _ _ _ _ X];rfl
    have XH:=hid X;clear X HB;generalize hon:d.on c k=on at *
    cases on with
    | true =>
     have HK2:=hid (show ∀ s,s < k+1→onS h c s=true from fun s hs=>by
      rcases Nat.lt_succ_iff_lt_or_eq.1 hs with h1|h1
      ·exact HN.out s h1
      subst h1;exact HON.out.symm)
     clear HN HON HOF hon;generalize y.sb c k=gb at *;go_wp2;go_roundw
     case rel=>exact ⟨k+1,by omega,by go_num,HK2,BX⟩
     case measure=>simp [intOf];omega
    | false =>
     have HO2:=hid (HOF.out HON.out.symm);obtain⟨hp1,bi1⟩:=(HPB.out V BX.out).setOn hc hlt true;have fz:V.frozen? ⟨y.sb c k,2,none⟩=false:=by simp [World.frozen?,(HPB.out V BX.out).sl c k hc hlt]
     have HP1:=hid hp1;have BI1:=hid ((Bi.ofBelow BX.out BW.out).trans bi1);have X1:=hid (bi1.ky.cells _ _ _ _ XH.out not67);have SPG:=hid (im_spaging (y.sb c k) (y.sr c k) (y.sm c k 0) c k (slN c) (y.sc c k) _ 0 _ (hp1.bc c k hc hlt) (by omega) (hp1.scAt c k 0 hc hlt (by omega)) (hp1.rowAt c k 0 hc hlt (by omega)));have hps:=slabP_in hc hlt;have hpo:∀ i,i < pgN c→(h.m (slabP c k+i)).isSome=false:=fun i hi=>by rw [HI.out.slab c k hc hlt i hi];exact HON.out.symm
     have CM:=hid (fun U (hU:Hp B y { d with on:=updB d.on c k true } cf h U)=>im_commit B y { d with on:=updB d.on c k true } cf h (slabP c k) (pgN c) (.func 120) #[] #[Vp XX 0] U hU HI.out.out (by omega) (by omega) hpo);have TD:=hid (show ∀ f',Gd { d with on:=updB d.on c k true,f:=f',un:=.nilFunc } { h with m:=freshM h.m (slabP c k) (pgN c) } an from fun f'=>⟨fun c' s' hc' hs'=>by
      show updB d.on c k true c' s'=(freshM h.m (slabP c k) (pgN c) (slabP c' s')).isSome;unfold updB
      by_cases e:c'=c∧s'=k
      ·obtain⟨rfl,rfl⟩:=e;rw [if_pos ⟨rfl,rfl⟩,freshM_in _ _ _ _ (Nat.le_refl _) (by omega)];rfl
      rw [if_neg e,freshM_eq,if_neg (by
       have hq:=szN_in hc'
       rcases slab_apart hc' hs' hc hlt e with h5|h5 <;> omega)]
      exact GD.out.on c' s' hc' hs',rfl,GD.out.an⟩)
     have TB:=hid (show ∀ f' V',Hp B y { d with on:=updB d.on c k true,f:=f',un:=.func (.func 120) #[] #[Vp XX 0] } cf h V'→V'.heap[XX]?=some (.cells #[Vp (y.sb c k) 0] 61 (0,0))→Tk B y cf h an V' from fun f' V' hV' hX' V'' b''=>by
      refine (im_takeBackS B y _ cf h XX c k V'' (hV'.below b'') hc hlt (by rw [cell_of_row _ _ _ _ _ _ ((b''.block _ (lt_blk hX')).trans hX')];rfl) rfl).mono ?_;rintro e W9 ⟨rfl,h9,b9⟩;refine⟨rfl,⟨_,h9,fun c' s' hc' hs'=>?_,rfl,GD.out.an⟩,b9⟩;show updB (updB d.on c k true) c k false c' s'=onS h c' s';unfold updB
      by_cases e:c'=c∧s'=k
      ·obtain⟨rfl,rfl⟩:=e;rw [if_pos ⟨rfl,rfl⟩];exact HON.out
      rw [if_neg e,if_neg e];exact GD.out.on c' s' hc' hs')
     have HRY:=hid (fun (hb:¬((cf.bud:Int) < (cntM h.m 283:Int)+(pgN c:Nat)))=>show roomS cf h c=some (k,{ h with m:=freshM h.m (slabP c k) (pgN c) }) by unfold roomS;rw [HPN.out];dsimp only;rw [HO2.out];dsimp only;rw [if_neg (by omega)]);have HRN:=hid (fun (hb:(cf.bud:Int) < (cntM h.m 283:Int)+(pgN c:Nat))=>show roomS cf h c=none by unfold roomS;rw [HPN.out];dsimp only;rw [HO2.out];dsimp only;rw [if_pos (by omega)]);clear hp1 bi1 hon HN HON HOF hps hpo;go_upto_region 12 with fail
     generalize V.setCell ⟨y.sb c k,2,none⟩ (.bool true)=U at *;have x1:U.cell? ⟨XX,0,none⟩=some (Vp (y.sb c k) 0):=by rw [cell_of_row _ _ _ _ _ _ X1.out];rfl
     clear fl fz x0 XH;go_wp2_with fail;refine (SPG.out).mono ?_;rintro e U2 ⟨rfl,b2⟩;have HP2:=hid (HP1.out.below b2);have BI2:=hid (BI1.out.add b2 HP1.out.bW);have X2:=hid ((b2.block _ (lt_blk X1.out)).trans X1.out);clear SPG b2 HP1 BI1 X1 x1;go_wp2_with fail;refine (CM.out _ HP2.out).mono ?_;rintro e U3 ⟨f',bi3,⟨hb,rfl,hp3⟩|⟨hb,rfl,hp3⟩⟩
     ·have x3:U3.cell? ⟨XX,0,none⟩=some (Vp (y.sb c k) 0):=by rw [cell_of_row _ _ _ _ _ _ (bi3.ky.cells _ _ _ _ X2.out not67)];rfl
      have HF:=hid (And.intro hp3 (And.intro (BI2.out.trans bi3) (HRY.out (by omega))));clear hp3 bi3 CM HP2 BI2 X2 HRY HRN hb;go_wp2;go_ret;refine⟨?_,HF.out.2.1⟩;rw [HF.out.2.2];exact .yes k _ _ ⟨_,HF.out.1,TD.out f',fun _ _ e=>e⟩
     refine⟨rfl,?_,BI2.out.trans bi3⟩;rw [HRN.out (by omega)];exact .no _ (TB.out f' U3 hp3 (bi3.ky.cells _ _ _ _ X2.out not67))
   obtain rfl:k=6:=by omega
   have HRN:=hid (show roomS cf h c=none by unfold roomS;rw [HPN.out];dsimp only;rw [offS_none HN.out]);clear HN HPN;go_wp2;refine⟨rfl,?_,Bi.ofBelow HB.out BW.out⟩;rw [HRN.out];exact .no _ (Hg.tk ⟨d,HPB.out _ HB.out,GD.out⟩)
end Go.Proofs.YtgandbaejlfppaaGreatDoor
namespace Go.Proofs.YtgandbaejlfppaaGreatDoor
set_option linter.unusedVariables false
set_option linter.unusedSimpArgs false
set_option maxRecDepth 20000
set_option maxHeartbeats 8000000
open Go.RowKit Go.Shelf Go.Maps
theorem heap_any (w0 : World) (a : Option Addr) (len cap : Nat) (zs : List Int) (h0 : IsRow .u8 w0 a len cap zs) (hlen : len ≤ 1048576) (R : Nat) (W : World) (hR : Rd w0 a len cap R W W) :
    Calls Tryz.prog 22 #[.pointer (some ⟨R, 0, none⟩)] W fun e W' => ∃ c : Cd, e = .returned (.agg (cdC c).toArray) ∧ c.ds.length ≤ 60 ∧ Ok4 W.heap.size c W' ∧ Rd w0 a len cap R W W' := by
  have N := hid (fun V (hV : Rd w0 a len cap R V V) => next_any w0 a len cap zs h0 hlen R V V hV)
  have WD := hid (fun V (hV : Rd w0 a len cap R V V) => wide_any w0 a len cap zs h0 hlen R V V hV)
  have AP := hid sp_ArenaPages
  have RN := hid hR.lt
  have R1 := hid (hR.below ((Below.refl _ _).alloc (Nat.le_refl _) (.cells #[.int .i64 0, .int .i64 0, .int .i64 0, .int .i64 0, .int .u64 0, .slice none 0 0] 26)))
  have Y1 := hid (al_last W (.cells #[.int .i64 0, .int .i64 0, .int .i64 0, .int .i64 0, .int .u64 0, .slice none 0 0] 26))
  clear h0 hR
  go_enter Tryz.func22, Tryz.ntmps22
  go_wp2_with fail
  generalize W.alloc (.cells #[.int .i64 0, .int .i64 0, .int .i64 0, .int .i64 0, .int .u64 0, .slice none 0 0] 26) = V1 at R1 Y1 ⊢
  refine (N.out _ R1.out.at).mono ?_
  rintro e V2 ⟨⟨k, hk, rfl⟩, r2⟩
  have R2 := hid (R1.out.of r2)
  have Y2 := hid ((r2.g.block _ (lt_blk Y1.out) (fun e => by cases e; have := RN.out; omega)).trans Y1.out)
  clear r2 R1 Y1
  go_wp2_with fail
  refine (N.out _ R2.out.at).mono ?_
  rintro e V3 ⟨⟨b9, hb9, rfl⟩, r2⟩
  have R3 := hid (R2.out.of r2)
  have Y3 := hid ((r2.g.block _ (lt_blk Y2.out) (fun e => by cases e; have := RN.out; omega)).trans Y2.out)
  clear r2 R2 Y2
  go_wp2_with fail
  refine (WD.out _ R3.out.at).mono ?_
  rintro e V4 ⟨⟨ky, hk0, hk1, rfl⟩, r2⟩
  have R4 := hid (R3.out.of r2)
  have Y4 := hid ((r2.g.block _ (lt_blk Y3.out) (fun e => by cases e; have := RN.out; omega)).trans Y3.out)
  clear r2 R3 Y3
  have O0 := hid (show Ch w0 a len cap R W V4.heap.size W.heap.size ⟨(k : Int) % 4, (k : Int) / 4 % 5 + 1, (k : Int) / 20 % 3 + 1, (b9 : Nat), ky, [], none, 0⟩ (V4.alloc (.cells #[.int .i64 ((k : Int) % 4), .int .i64 ((k : Int) / 4 % 5 + 1), .int .i64 ((k : Int) / 20 % 3 + 1), .int .i64 (b9 : Nat), .int .u64 ky, .slice none 0 0] 26)) from by
    have b := (Below.refl V4.heap.size V4).alloc (Nat.le_refl _) (.cells #[.int .i64 ((k : Int) % 4), .int .i64 ((k : Int) / 4 % 5 + 1), .int .i64 ((k : Int) / 20 % 3 + 1), .int .i64 (b9 : Nat), .int .u64 ky, .slice none 0 0] 26)
    have hl := lt_blk Y4.out
    exact ⟨R4.out.below b, RN.out, al_last V4 _, R4.out.g.size, by rw [b.block _ hl]; exact Y4.out, Nat.le_refl _, by omega, ⟨hk0, hk1, fun x hx => (by cases hx), ⟨rfl, .inl ⟨rfl, rfl⟩⟩⟩⟩)
  clear R4 Y4
  go_upto_block 0 with fail
  generalize V4.alloc (.cells #[.int .i64 ((k : Int) % 4), .int .i64 ((k : Int) / 4 % 5 + 1), .int .i64 ((k : Int) / 20 % 3 + 1), .int .i64 (b9 : Nat), .int .u64 ky, .slice none 0 0] 26) = V5 at O0 ⊢
  generalize V4.heap.size = X at O0 ⊢
  generalize hYY : W.heap.size = Y at O0 ⊢
  obtain ⟨c0, hc0, O1⟩ : ∃ c : Cd, c.ds = [] ∧ Hid (Ch w0 a len cap R W X Y c V5) := ⟨_, rfl, O0⟩
  clear O0
  go_cut [25] (fun _ w' => ∃ c, c.ds = [] ∧ Hid (Ch w0 a len cap R W X Y c w'))
  case first =>
    cases g0 : ((k : Int) == 255)
    case true =>
      go_wp2_with fail
      refine (N.out _ O1.out.rd.at).mono ?_
      rintro e V9 ⟨⟨c9, hc9, rfl⟩, r⟩
      have O9 := hid (O1.out.next r)
      clear r O1
      obtain ⟨z0, z1, z2, z3, z4, z5⟩ := O9.out.cells
      have zf := O9.out.fr 0
      go_wp2
      go_meet
      case rel => (refine ⟨_, ?_, hid (O9.out.setMi _)⟩; exact hc0)
    cases g1 : ((k : Int) == 254)
    case true =>
      go_wp2_with fail
      refine (N.out _ O1.out.rd.at).mono ?_
      rintro e V9 ⟨⟨c9, hc9, rfl⟩, r⟩
      have O9 := hid (O1.out.next r)
      clear r O1
      obtain ⟨z0, z1, z2, z3, z4, z5⟩ := O9.out.cells
      have zf := O9.out.fr 1
      go_wp2
      go_meet
      case rel => (refine ⟨_, ?_, hid (O9.out.setFi _)⟩; exact hc0)
    cases g2 : ((k : Int) == 253)
    case true =>
      go_wp2_with fail
      refine (N.out _ O1.out.rd.at).mono ?_
      rintro e V9 ⟨⟨c9, hc9, rfl⟩, r⟩
      have O9 := hid (O1.out.next r)
      clear r O1
      obtain ⟨z0, z1, z2, z3, z4, z5⟩ := O9.out.cells
      have zf := O9.out.fr 2
      go_wp2
      go_meet
      case rel => (refine ⟨_, ?_, hid (O9.out.setLa _)⟩; exact hc0)
    cases g3 : ((k : Int) == 252)
    case true =>
      go_wp2_with fail
      refine (AP.out _).mono ?_
      rintro e V8 ⟨rfl, b⟩
      have O8 := hid (O1.out.below b)
      clear b O1
      go_wp2_with fail
      refine (N.out _ O8.out.rd.at).mono ?_
      rintro e V9 ⟨⟨c9, hc9, rfl⟩, r⟩
      have O9 := hid (O8.out.next r)
      clear r O8
      obtain ⟨z0, z1, z2, z3, z4, z5⟩ := O9.out.cells
      have zf := O9.out.fr 3
      go_wp2
      go_meet
      case rel => (refine ⟨_, ?_, hid (O9.out.setBu _)⟩; exact hc0)
    go_wp2
    go_meet
    case rel => exact ⟨c0, hc0, O1⟩
  case rest =>
    clear O1 hc0 c0
    obtain ⟨c0, hc0, O1⟩ := hcut
    go_upto_if 56 with fail
    go_cut [56] (fun _ w' => ∃ c, c.ds = [] ∧ Hid (Ch w0 a len cap R W X Y c w'))
    case first =>
      cases g9 : ((k : Int) % 3 == 0)
      case true =>
        obtain ⟨z0, z1, z2, z3, z4, z5⟩ := O1.out.cells
        have zf := O1.out.fr 3
        go_wp2
        go_meet
        case rel => (refine ⟨_, ?_, hid (O1.out.setBu _)⟩; exact hc0)
      go_wp2
      go_meet
      case rel => exact ⟨c0, hc0, O1⟩
    case rest =>
      clear O1 hc0 c0
      obtain ⟨c0, hc0, O1⟩ := hcut
      go_wp2_with fail
      refine (N.out _ O1.out.rd.at).mono ?_
      rintro e V6 ⟨⟨c6, hc6, rfl⟩, r⟩
      have O6 := hid (O1.out.next r)
      clear r O1
      obtain ⟨n, hn, en⟩ : ∃ n : Nat, n < 60 ∧ (c6 : Int) % 60 = (n : Int) := ⟨c6 % 60, by omega, by omega⟩
      go_wp2
      rw [en]
      clear en
      go_loopw [6] (fun i wr => ∃ (j : Nat) (c : Cd), j ≤ n ∧ i = .int .i64 j ∧ c.ds.length = j ∧ Hid (Ch w0 a len cap R W X Y c wr)) (fun i _ => n - (intOf i).toNat)
      case atStart => exact ⟨0, c0, Nat.zero_le _, rfl, by rw [hc0]; rfl, O6⟩
      case round =>
        obtain ⟨j, c, hj, rfl, hcl, HC⟩ := hrel
        clear O6
        by_cases hlt : j < n
        · go_wp2
          have HL := hid hcl
          clear hcl
          obtain ⟨z0, z1, z2, z3, z4, z5⟩ := HC.out.drew.cells
          have M := hid HC.out.drew
          refine wp_region_drewD (by kernel_rfl) ?_
          generalize wr.drew = V0 at M z0 z1 z2 z3 z4 z5 ⊢
          simp only [List.size_toArray, List.length_cons, List.length_nil, Nat.reduceAdd, Array.replicate_succ, Array.replicate_zero, List.push_toArray, List.nil_append, List.cons_append]
          refine wpAny_put (i := 0) (d := 70) (v := .pointer (some ⟨X, 5, none⟩)) rfl (by kernel_rfl) (by kernel_rfl) (by kernel_rfl) (by kernel_rfl) (fun _ _ _ h => h) (Or.inl ⟨by kernel_rfl, fun _ => by kernel_rfl⟩) ?_
          simp only [List.setIfInBounds_toArray, List.set_cons_zero, List.set_cons_succ]
          refine wpAny_put (i := 2) (d := 72) (v := .pointer (some ⟨R, 0, none⟩)) rfl (by kernel_rfl) (by kernel_rfl) (by kernel_rfl) (by kernel_rfl) (fun _ _ _ h => h) (Or.inl ⟨by kernel_rfl, fun _ => by kernel_rfl⟩) ?_
          simp only [List.setIfInBounds_toArray, List.set_cons_zero, List.set_cons_succ]
          refine wpAny_ready (rs := [1, 3]) (by kernel_rfl) (by simp) ?_
          refine AllReady.cons rfl (fun K hK => ?_) (AllReady.cons rfl (fun K hK => ?_) AllReady.nil)
          · go_simp
            refine hK _ _ ?_
            clear hK K
            simp only [List.setIfInBounds_toArray, List.set_cons_zero, List.set_cons_succ]
            refine wpAny_one (r := 3) (by kernel_rfl) ?_
            refine wpOp_do rfl (by kernel_rfl) (fun K hK => ?_)
            go_simp
            refine (N.out _ M.out.rd.at).mono ?_
            rintro e V6 ⟨⟨cq, hcq, rfl⟩, r⟩
            have Oq := hid (M.out.next r)
            obtain ⟨y0, y1, y2, y3, y4, y5⟩ := Oq.out.cells
            obtain ⟨da', dc', w', happ, f5, x5, ch⟩ := Oq.out.app (by have := HL.out; omega) ((cq : Int) - 40) (by omega)
            have HA := hid ch
            clear r ch M z0 z1 z2 z3 z4 z5
            refine hK.out _ _ ?_
            clear hK K
            simp only [List.setIfInBounds_toArray, List.set_cons_zero, List.set_cons_succ]
            refine wpAny_put (i := 4) (d := 74) (v := .int .i64 ((cq : Int) - 40)) rfl (by kernel_rfl) (by kernel_rfl) (by kernel_rfl) (by kernel_rfl) (fun _ _ _ h => h) (Or.inl ⟨by kernel_rfl, fun _ => by first | (go_simp; done) | (go_simp; exact wrap64D _ (by omega) (by omega))⟩) ?_
            simp only [List.setIfInBounds_toArray, List.set_cons_zero, List.set_cons_succ]
            refine wpAny_one (r := 5) (by kernel_rfl) ?_
            refine wpOp_do rfl (by kernel_rfl) (fun K hK => ?_)
            go_simp
            refine hK.out _ _ ?_
            clear hK K
            simp only [List.setIfInBounds_toArray, List.set_cons_zero, List.set_cons_succ]
            refine wpAny_one (r := 6) (by kernel_rfl) ?_
            refine wpOp_do rfl (by kernel_rfl) (fun K hK => ?_)
            refine wpo_appD 24 (.tmp 71) (.tmp 75) (by kernel_rfl) (by kernel_rfl) (by kernel_rfl) (by kernel_rfl) happ ?_
            refine hK.out _ _ ?_
            clear hK K
            simp only [List.setIfInBounds_toArray, List.set_cons_zero, List.set_cons_succ]
            refine wpAny_put (i := 7) (d := 77) (v := .pointer (some ⟨X, 5, none⟩)) rfl (by kernel_rfl) (by kernel_rfl) (by kernel_rfl) (by kernel_rfl) (fun _ _ _ h => h) (Or.inl ⟨by kernel_rfl, fun _ => by kernel_rfl⟩) ?_
            simp only [List.setIfInBounds_toArray, List.set_cons_zero, List.set_cons_succ]
            refine wpAny_one (r := 8) (by kernel_rfl) ?_
            refine wpOp_do rfl (by kernel_rfl) (fun K hK => ?_)
            go_simp
            refine hK.out _ _ ?_
            clear hK K
            simp only [List.setIfInBounds_toArray, List.set_cons_zero, List.set_cons_succ]
            refine wpAny_done (by kernel_rfl) ?_ _
            go_wp2
            go_roundw
            case rel => exact ⟨j + 1, { c with ds := c.ds ++ [(cq : Int) - 40], da := da', dc := dc' }, by omega, by go_num, by simp [HL.out], HA⟩
            case measure => simp [intOf]; omega
          · skip
            go_simp
            refine (N.out _ M.out.rd.at).mono ?_
            rintro e V6 ⟨⟨cq, hcq, rfl⟩, r⟩
            have Oq := hid (M.out.next r)
            obtain ⟨y0, y1, y2, y3, y4, y5⟩ := Oq.out.cells
            obtain ⟨da', dc', w', happ, f5, x5, ch⟩ := Oq.out.app (by have := HL.out; omega) ((cq : Int) - 40) (by omega)
            have HA := hid ch
            clear r ch M z0 z1 z2 z3 z4 z5
            refine hK _ _ ?_
            clear hK K
            simp only [List.setIfInBounds_toArray, List.set_cons_zero, List.set_cons_succ]
            refine wpAny_put (i := 4) (d := 74) (v := .int .i64 ((cq : Int) - 40)) rfl (by kernel_rfl) (by kernel_rfl) (by kernel_rfl) (by kernel_rfl) (fun _ _ _ h => h) (Or.inl ⟨by kernel_rfl, fun _ => by first | (go_simp; done) | (go_simp; exact wrap64D _ (by omega) (by omega))⟩) ?_
            simp only [List.setIfInBounds_toArray, List.set_cons_zero, List.set_cons_succ]
            refine wpAny_ready (rs := [1, 5]) (by kernel_rfl) (by simp) ?_
            refine AllReady.cons rfl (fun K hK => ?_) (AllReady.cons rfl (fun K hK => ?_) AllReady.nil)
            · go_simp
              refine hK _ _ ?_
              clear hK K
              simp only [List.setIfInBounds_toArray, List.set_cons_zero, List.set_cons_succ]
              refine wpAny_one (r := 5) (by kernel_rfl) ?_
              refine wpOp_do rfl (by kernel_rfl) (fun K hK => ?_)
              go_simp
              refine hK.out _ _ ?_
              clear hK K
              simp only [List.setIfInBounds_toArray, List.set_cons_zero, List.set_cons_succ]
              refine wpAny_one (r := 6) (by kernel_rfl) ?_
              refine wpOp_do rfl (by kernel_rfl) (fun K hK => ?_)
              refine wpo_appD 24 (.tmp 71) (.tmp 75) (by kernel_rfl) (by kernel_rfl) (by kernel_rfl) (by kernel_rfl) happ ?_
              refine hK.out _ _ ?_
              clear hK K
              simp only [List.setIfInBounds_toArray, List.set_cons_zero, List.set_cons_succ]
              refine wpAny_put (i := 7) (d := 77) (v := .pointer (some ⟨X, 5, none⟩)) rfl (by kernel_rfl) (by kernel_rfl) (by kernel_rfl) (by kernel_rfl) (fun _ _ _ h => h) (Or.inl ⟨by kernel_rfl, fun _ => by kernel_rfl⟩) ?_
              simp only [List.setIfInBounds_toArray, List.set_cons_zero, List.set_cons_succ]
              refine wpAny_one (r := 8) (by kernel_rfl) ?_
              refine wpOp_do rfl (by kernel_rfl) (fun K hK => ?_)
              go_simp
              refine hK.out _ _ ?_
              clear hK K
              simp only [List.setIfInBounds_toArray, List.set_cons_zero, List.set_cons_succ]
              refine wpAny_done (by kernel_rfl) ?_ _
              go_wp2
              go_roundw
              case rel => exact ⟨j + 1, { c with ds := c.ds ++ [(cq : Int) - 40], da := da', dc := dc' }, by omega, by go_num, by simp [HL.out], HA⟩
              case measure => simp [intOf]; omega
            · go_simp
              have y5b := below_cell ((Below.refl V6.heap.size V6).alloc (Nat.le_refl _) (.cells #[.int .i64 ((cq : Int) - 40)] 3)) y5
              refine hK _ _ ?_
              clear hK K
              simp only [List.setIfInBounds_toArray, List.set_cons_zero, List.set_cons_succ]
              refine wpAny_one (r := 1) (by kernel_rfl) ?_
              refine wpOp_do rfl (by kernel_rfl) (fun K hK => ?_)
              go_simp
              refine hK.out _ _ ?_
              clear hK K
              simp only [List.setIfInBounds_toArray, List.set_cons_zero, List.set_cons_succ]
              refine wpAny_one (r := 6) (by kernel_rfl) ?_
              refine wpOp_do rfl (by kernel_rfl) (fun K hK => ?_)
              refine wpo_appD 24 (.tmp 71) (.tmp 75) (by kernel_rfl) (by kernel_rfl) (by kernel_rfl) (by kernel_rfl) happ ?_
              refine hK.out _ _ ?_
              clear hK K
              simp only [List.setIfInBounds_toArray, List.set_cons_zero, List.set_cons_succ]
              refine wpAny_put (i := 7) (d := 77) (v := .pointer (some ⟨X, 5, none⟩)) rfl (by kernel_rfl) (by kernel_rfl) (by kernel_rfl) (by kernel_rfl) (fun _ _ _ h => h) (Or.inl ⟨by kernel_rfl, fun _ => by kernel_rfl⟩) ?_
              simp only [List.setIfInBounds_toArray, List.set_cons_zero, List.set_cons_succ]
              refine wpAny_one (r := 8) (by kernel_rfl) ?_
              refine wpOp_do rfl (by kernel_rfl) (fun K hK => ?_)
              go_simp
              refine hK.out _ _ ?_
              clear hK K
              simp only [List.setIfInBounds_toArray, List.set_cons_zero, List.set_cons_succ]
              refine wpAny_done (by kernel_rfl) ?_ _
              go_wp2
              go_roundw
              case rel => exact ⟨j + 1, { c with ds := c.ds ++ [(cq : Int) - 40], da := da', dc := dc' }, by omega, by go_num, by simp [HL.out], HA⟩
              case measure => simp [intOf]; omega
        · have : j = n := by omega
          subst this
          have HL := hid hcl
          clear hcl
          go_wp2_with (first | (refine wpList_load_row rfl 26 _ rfl _ rfl _ _ _ _ HC.out.x Tryz.underlying26 rfl (by kernel_rfl) ?_) | (refine wpList_store_row rfl 26 _ _ rfl _ _ rfl rfl 26 _ HC.out.y (by kernel_rfl) rfl (by simp [cdC, Value.oneCell']) ?_))
          refine bodyPost_ret (results_cell_row (by rfl) _ _ Y 26 _ (0, 0) _ (by rfl) (setRow_at HC.out.y _) Tryz.underlying26 rfl (by kernel_rfl)) (by rfl) ?_
          have g := grown_setRow wr Y (cdC c).toArray
          have hy := HC.out.yn
          have hr := HC.out.rn
          have od := HC.out.od.kept g (own_neT HC.out.od.d HC.out.y (by decide))
          exact ⟨c, rfl, by have := HL.out; omega, od, HC.out.rd.app g (fun r e => by cases e; omega)⟩
end Go.Proofs.YtgandbaejlfppaaGreatDoor
