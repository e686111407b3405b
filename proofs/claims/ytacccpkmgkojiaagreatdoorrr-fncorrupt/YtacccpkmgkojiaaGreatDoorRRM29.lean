import Derived.Below
import Derived.BigGuardIn
import Derived.BigQuiet
import Derived.BigRegionIn
import Derived.Conc.MuLone
import Derived.Deep.AppendLies
import Derived.Deep.AppendSrc
import Derived.Deep.CutBlock
import Derived.Deep.DeepCutAuto
import Derived.Deep.LoopGhost
import Derived.Deep.MidRow
import Derived.Deep.OwnRows
import Derived.Deep.QuietTactic
import Derived.Deep.RegionHeld
import Derived.Deep.RegionLaw
import Derived.Deep.RegionWith
import Derived.KernelRfl
import Derived.Laws.BytesString
import Derived.Laws.CopyOwn
import Derived.Laws.OwnMore
import Derived.Laws.Rows
import Derived.Laws.Tables
import Derived.Lib.SliceRun
import Derived.Lib.SmallJoins
import Derived.LoopIn
import Derived.LoopNIn
import Derived.Maps.AppendAt
import Derived.Maps.OwnOps
import Derived.Maps.OwnSet
import Derived.Maps.RangeWalk
import Derived.OpenShut
import Derived.OrdersHeld
import Derived.OwnWalkIn
import Derived.ProofKit
import Derived.RangeFuncBound
import Derived.RangeFuncCalls
import Derived.RangeFuncLeaves
import Derived.RangeFuncNested
import Derived.Shelf.Abstract
import Derived.Shelf.Bits.Mul64
import Derived.Shelf.RegionOpen
import Derived.TacticsInMore
import Derived.Test.YtacccpkmgkojiaaGreatDoorRRProg
import Derived.WalkKit
import Derived.WalkLawsBesides
import Derived.Test.YtacccpkmgkojiaaGreatDoorRRM00
import Derived.Test.YtacccpkmgkojiaaGreatDoorRRM01
import Derived.Test.YtacccpkmgkojiaaGreatDoorRRM02
import Derived.Test.YtacccpkmgkojiaaGreatDoorRRM05
import Derived.Test.YtacccpkmgkojiaaGreatDoorRRM06
import Derived.Test.YtacccpkmgkojiaaGreatDoorRRM07
import Derived.Test.YtacccpkmgkojiaaGreatDoorRRM08
import Derived.Test.YtacccpkmgkojiaaGreatDoorRRM09
import Derived.Test.YtacccpkmgkojiaaGreatDoorRRM10
import Derived.Test.YtacccpkmgkojiaaGreatDoorRRM14
import Derived.Test.YtacccpkmgkojiaaGreatDoorRRM15
import Derived.Test.YtacccpkmgkojiaaGreatDoorRRM17
import Derived.Test.YtacccpkmgkojiaaGreatDoorRRM18
import Derived.Test.YtacccpkmgkojiaaGreatDoorRRM22
import Derived.Test.YtacccpkmgkojiaaGreatDoorRRM24
import Derived.Test.YtacccpkmgkojiaaGreatDoorRRM26
import Derived.Test.YtacccpkmgkojiaaGreatDoorRRM27
namespace Go.Proofs.YtacccpkmgkojiaaGreatDoorRR
set_option linter.unusedVariables false
set_option linter.unusedSimpArgs false
set_option maxRecDepth 20000
set_option maxHeartbeats 8000000
open Go.RowKit Go.Maps
theorem mk52 (n:Nat) (h:n≤1048576) (w:World):(Instr.makeSlice 22 (Vi (n:Int)) (Vi (n:Int))).run Tryz.prog w=.ok (Vl w.heap.size n n) (w.alloc (.cells (madeCells #[Value.int .u8 0] n) 5)) :=
 run_make_row' 22 5 (.int .u8 0) 1 Tryz.underlying22 (by kernel_rfl) rfl .i64 .i64 n (by omega) (by omega) w
theorem made_row (n:Nat) (w:World):RowV (w.alloc (.cells (madeCells #[Value.int .u8 0] n) 5)) w.heap.size 5 (Ns .u8 (List.replicate n 0)):=by
 rw [made_bytes];exact⟨_,al_last w _,by simp,fun i hi=>by simp⟩
theorem Hp.setQ {B:Nat} {y:Ly} {d:Dy} {cf:Cf} {h:Hs} {W W':World} (hp:Hp B y d cf h W) {c:Nat} (hc:c < 12) {mix fifo:List Int} (q:Qr W' (y.qm c) (y.qr c) (y.qg c) (y.qq c) cf.fifo mix fifo) (b:But (Qs (y.qr c) (y.qg c) (y.qq c)) W W') :
  Hp B y d cf { h with mx:=updL h.mx c mix,ff:=updL h.ff c fifo } W'∧Bi B W W':=by
 have q0:=hp.wt c hc;have bq:=hp.ap.bq c hc;have t3:∃ x,W.heap[y.qr c]?=some (.cells x 3 (0,0)):=by obtain ⟨x,h1,_⟩:=q0.mx.2;exact⟨x,h1⟩
 have t3':∃ x,W.heap[y.qq c]?=some (.cells x 3 (0,0)):=by obtain ⟨ps,o,hh,_,⟨x,h1,_⟩,_⟩:=q0.qu;exact⟨x,h1⟩
 have t179:∃ x,W.heap[y.qg c]?=some (.cells x 157 (0,0)):=by obtain ⟨ps,o,hh,h1,_⟩:=q0.qu;exact⟨_,h1⟩
 obtain⟨x1,t3⟩:=t3;obtain⟨x2,t3'⟩:=t3';obtain⟨x3,t179⟩:=t179;have nt:∀ g cc t f,W.heap[g]?=some (.cells cc t f)→¬(t=3∨t=157)→¬Qs (y.qr c) (y.qg c) (y.qq c) g:=fun g cc t f hg ht hS=>by
  rcases hS with e|e|e
  ·rw [e,t3] at hg;cases hg;exact ht (.inl rfl)
  ·rw [e,t179] at hg;cases hg;exact ht (.inr rfl)
  rw [e,t3'] at hg;cases hg;exact ht (.inl rfl)
 have nm:∀ g es c2,W.heap[g]?=some (.map es c2)→¬Qs (y.qr c) (y.qg c) (y.qq c) g:=fun g es c2 hg hS=>by
  rcases hS with e|e|e
  ·rw [e,t3] at hg;cases hg
  ·rw [e,t179] at hg;cases hg
  rw [e,t3'] at hg;cases hg
 have k:Ky (fun t=>t=3∨t=157) W W':=⟨b.os,b.tape,b.output,b.size,fun g cc t f hg ht=>by rw [b.block g (lt_blk hg) (nt g cc t f hg ht)];exact hg⟩;have bl:Below B W W':=⟨b.os,b.tape,b.output,b.size,fun g hg=>b.block g (Nat.lt_of_lt_of_le hg hp.bW) (fun hS=>by rcases hS with e|e|e <;> omega)⟩;have hM:W'.heap[y.M]?=W.heap[y.M]?:=by
  obtain⟨D,⟨es,c2,h2,_⟩,_⟩:=hp.sp.map;exact b.block _ (lt_blk h2) (nm _ _ _ h2)
 have hR:W'.heap[y.R]?=W.heap[y.R]?:=by
  obtain⟨es,c2,h2⟩:=hp.mp.typ;exact b.block _ (lt_blk h2) (nm _ _ _ h2)
 refine⟨⟨hp.ap,Nat.le_trans hp.bW bl.size,hp.box.ky k (by decide),hp.ds.belowB bl hp.ap.da,hp.sp.ky k (by decide) hM,hp.pg.ky k (by decide),hp.bf,
 fun c s hc hs=>k.cells _ _ _ _ (hp.sl c s hc hs) (by decide),fun c s hc hs=>row_ky (hp.rw c s hc hs) k (by decide),fun c' s' j' hc' hs' hj'=>k.cells _ _ _ _ (hp.sm c' s' j' hc' hs' hj') (by decide),
 fun c' hc'=>?_,hp.mp.same hR,hp.lo,fun r hr=>by obtain ⟨g,h1,h2,h3⟩:=hp.lb r hr;exact⟨g,h1,h2,k.cells _ _ _ _ h3 (by decide)⟩,hp.li,hp.ro.ky k (by decide),own_ky hp.rl k (by decide),hp.rr,hp.tb.belowB bl hp.ap.b0⟩,bl,k.more (fun t e=>by rcases e with rfl|rfl <;> (unfold hI;decide))⟩
 by_cases e:c'=c
 ·subst e;show Qr W' _ _ _ _ _ (updL h.mx c' mix c') (updL h.ff c' fifo c');rw [updL_same,updL_same];exact q
 show Qr W' _ _ _ _ _ (updL h.mx c mix c') (updL h.ff c fifo c');rw [updL_ne _ _ e,updL_ne _ _ e];have q1:=hp.wt c' hc';obtain⟨i1,i2,i3,i4⟩:=hp.ap.iq c c' hc hc' (fun e2=>e e2.symm);obtain⟨j1,j2,j3,j4⟩:=hp.ap.iq c' c hc' hc e;obtain⟨ps,o,hh,g1,⟨x,g2,_⟩,_⟩:=q1.qu;refine q1.but b (nt _ _ _ _ q1.mx.1 (by decide)) ?_ ?_ ?_
 ·intro hS
  rcases hS with e|e|e
  ·exact i1 e.symm
  ·obtain⟨xx,h1,_⟩:=q1.mx.2;rw [e,t179] at h1;cases h1
  exact j2 e
 ·intro hS
  rcases hS with e|e|e
  ·rw [e,t3] at g1;cases g1
  ·exact i4 e.symm
  rw [e,t3'] at g1;cases g1
 intro hS
 rcases hS with e|e|e
 ·exact i2 e.symm
 ·rw [e,t179] at g2;cases g2
 exact i3 e.symm
theorem box_q (cf:Cf) (y:Ly) (d:Dy) (u c k:Nat) (hc:c < 12) (hk:k < 3):boxF cf y d u (79+c*3+k)=qcV cf y c k:=by
 unfold boxF;rw [if_neg (by omega),if_neg (by omega),if_pos (by omega)];have e1:(79+c*3+k - 79)/3=c:=by omega
 have e2:(79+c*3+k - 79) % 3=k:=by omega
 rw [e1,e2]
theorem Hp.qAt {B:Nat} {y:Ly} {d:Dy} {cf:Cf} {h:Hs} {W:World} (hp:Hp B y d cf h W) (c:Nat) (hc:c < 12):W.cell? ⟨y.P,79+c*3+2,none⟩=some (if cf.mix=0 then .iface 84 (Vp (y.qg c) 0) else .iface 83 (Vp (y.qm c) 0)):=by
 refine hp.cell _ (by omega) _ ?_;rw [box_q cf y d h.used c 2 hc (by omega)];rfl
def PuR (B:Nat) (y:Ly) (d:Dy) (cf:Cf) (h:Hs) (c:Nat) (x dd:Int) (W:World) (e:Ending) (W':World):Prop:=e=.returned (Vi (wpM cf.fifo (h.mx c) (h.ff c) x dd).2.2)∧Hp B y d cf { h with mx:=updL h.mx c (wpM cf.fifo (h.mx c) (h.ff c) x dd).1,ff:=updL h.ff c (wpM cf.fifo (h.mx c) (h.ff c) x dd).2.1 } W'∧Bi B W W'
theorem im_push0 (B:Nat) (y:Ly) (d:Dy) (cf:Cf) (h:Hs) (c:Nat) (x dd:Int) (W:World) (hp:Hp B y d cf h W) (hml:(h.mx c).length=cf.mix) (dk:Dok cf) (hc:c < 12) (h0:cf.mix=0) :
  Calls Tryz.prog 265 #[Vp (y.qg c) 0,Vi x,Vi dd] W (PuR B y d cf h c x dd W):=by
 refine (epushL _ _ _ _ _ _ _ x dd W (hp.wt c hc) (by have:=dk.fifo;omega) (by rw [hml];exact h0)).mono ?_;rintro e W' ⟨z,rfl,rfl,q,b⟩;exact⟨rfl,hp.setQ hc q b⟩
theorem im_push1 (B:Nat) (y:Ly) (d:Dy) (cf:Cf) (h:Hs) (c:Nat) (x dd:Int) (W:World) (hp:Hp B y d cf h W) (hml:(h.mx c).length=cf.mix) (dk:Dok cf) (hc:c < 12) (h0:cf.mix≠0) :
  Calls Tryz.prog 263 #[Vp (y.qm c) 0,Vi x,Vi dd] W (PuR B y d cf h c x dd W):=by
 refine (mpush _ _ _ _ _ _ _ x dd W (hp.wt c hc) (fun e=>h0 (by rw [←hml,e];rfl)) (by rw [hml];have:=dk.mix;omega) (by have:=dk.fifo;omega)).mono ?_;rintro e W' ⟨z,rfl,rfl,q,b⟩;exact⟨rfl,hp.setQ hc q b⟩
end Go.Proofs.YtacccpkmgkojiaaGreatDoorRR
namespace Go.Proofs.YtacccpkmgkojiaaGreatDoorRR
set_option linter.unusedVariables false
set_option linter.unusedSimpArgs false
set_option maxRecDepth 20000
set_option maxHeartbeats 8000000
open Go.RowKit Go.Maps
def Klg (d d':Dy):Prop:=∀ b g,d.lg b=some g→(d'.lg b).isSome=true→d'.lg b=some g
theorem Klg.ofEq {d d':Dy} (h:d'.lg=d.lg):Klg d d':=fun b g h1 _=>by rw [h];exact h1
def ReR (B:Nat) (y:Ly) (d:Dy) (cf:Cf) (h':Hs) (an:Value) (W:World) (e:Ending) (W':World):Prop:=e=.returned (.tuple #[])∧(∃ d',Hp B y d' cf h' W'∧Gd d' h' an∧Klg d d')∧Bi B W W'
theorem im_releaseSlot (B:Nat) (y:Ly) (d:Dy) (cf:Cf) (h:Hs) (k:Nat) (an:Value) (c s j:Nat) (W:World) (hp:Hp B y d cf h W) (gd:Gd d h an) (o:Okh cf h k) (hc:c < 12) (hs:s < 6) (hj:j < slN c) (hl:h.st c s j=1) :
  Calls Tryz.prog 95 #[Vp y.P 0,Vp (y.sm c s j) 0] W (ReR B y d cf (freeSlot cf h c s j) an W):=by
 obtain⟨res,hres⟩:∃ res,freeSlot cf h c s j=res:=⟨_,rfl⟩;rw [hres];have HRES:=hid (hres.symm.trans (freeSlot_eq cf h c s j));have HFR:=hid (o.inv.freed o.dok.fifo1 hc hs hj hl);clear hres;have hz:=szN_in hc;have hA:=adr_in hc hs hj;have hon:=o.inv.onLive hc hs hj hl;have GD:=hid gd;have OK:=hid o;have HP0:=hid hp;have BW:=hid hp.bW;obtain⟨c2,c3,d0,d1,_,_,_,_⟩:=hp.scAt c s j hc hs hj;have SB:=hid (fun V (hV:Below W.heap.size W V)=>im_sbase (y.sm c s j) (y.sb c s) c s j V ((hp.scAt c s j hc hs hj).below hV));have SZ:=hid (fun V (hV:Below W.heap.size W V)=>im_SlotSize (c:Nat) V (hp.below hV).tb);rw [sz_c hc] at SZ;have hmk:=fun w=>mk52 (szN c) (by omega) w
 have ST:=hid (show ∀ V,Below W.heap.size W V→Calls Tryz.prog 71 #[Vp y.P 0,Vu (adr c s j:Nat),Vl V.heap.size (szN c) (szN c)] (V.alloc (.cells (madeCells #[Value.int .u8 0] (szN c)) 5)) (StoR B y d cf h (V.alloc (.cells (madeCells #[Value.int .u8 0] (szN c)) 5)) (storeM h.m (adr c s j) (List.replicate (szN c) 0) (szN c)) 0) from fun V hV=>by
  have b2:Below W.heap.size W (V.alloc (.cells (madeCells #[Value.int .u8 0] (szN c)) 5)):=hV.alloc hV.size _;have:=im_hstore B y d cf h (adr c s j) (some ⟨V.heap.size,0,none⟩) (szN c) (szN c) (List.replicate (szN c) 0) _ (hp.below b2) o.inv.out (by omega) ((hp.below b2).daRow (made_row (szN c) V) (by simp)) (Nat.le_refl _);rw [List.length_replicate,o.inv.accL hc hs hj hon,if_pos rfl] at this;exact this)
 have GWB:=hid (show ∀ V,Below W.heap.size W V→Bi B W (V.alloc (.cells (madeCells #[Value.int .u8 0] (szN c)) 5)) from fun V hV=>Bi.ofBelow (hV.alloc hV.size _) hp.bW);clear hp gd o hon;generalize hgm:y.sm c s j=gm at *;have HGM:=hid hgm;generalize hgb:y.sb c s=gb at *;have HGB:=hid hgb;clear hgm hgb c3 d1;have DB:=hid (show storeM h.m (adr c s j) (List.replicate (szN c) 0) (szN c)=(freeA cf h c s j).m from rfl);go_enter Tryz.func95,Tryz.ntmps95;go_wp2_with fail;refine (SB.out _ (Below.refl _ _)).mono ?_;rintro e V1 ⟨rfl,b1⟩;have B1:=hid b1;clear b1 SB;go_wp2_with fail;refine (SZ.out _ B1.out).mono ?_;rintro e V2 ⟨rfl,rfl⟩;clear SZ;go_wp2_with fail;refine (ST.out _ B1.out).mono ?_;rintro e V3 ⟨f3,hp3,bi3,⟨_,rfl⟩|⟨hn,_⟩⟩
 rotate_left
 ·exact absurd rfl hn
 have HP3:=hid hp3;have BI3:=hid ((GWB.out _ B1.out).trans bi3);clear hp3 bi3 ST GWB hmk B1 HP0;obtain⟨h7,b7⟩:=HP3.out.setRec hc hs hj 2 0;have hbk:=HP3.out.sm c s j hc hs hj;rw [HGM.out] at h7 b7 hbk;have s0:V3.cell? ⟨gm,0,none⟩=some (Vi (h.st c s j)):=by rw [cell_of_row _ _ _ _ _ _ hbk];rfl
 have s1:V3.cell? ⟨gm,1,none⟩=some (Vi (h.rq c s j)):=by rw [cell_of_row _ _ _ _ _ _ hbk];rfl
 have z0:V3.frozen? ⟨gm,0,none⟩=false:=by simp [World.frozen?,hbk]
 have z1:V3.frozen? ⟨gm,1,none⟩=false:=by simp [World.frozen?,hbk]
 simp only [World.setCells,Nat.zero_add] at h7 b7;clear hbk;generalize h.st c s j=q0 at s0;generalize h.rq c s j=q1 at s1;have c0P:=h7.cell 0 (by omega) (Vi (cf.mix:Nat)) rfl;have H7:=hid h7;have B7:=hid (BI3.out.trans b7);clear h7 b7 HP3 BI3
 go_upto_if 31 with fail
 generalize (V3.setCell ⟨gm,0,none⟩ (Vi 2)).setCell ⟨gm,1,none⟩ (Vi 0)=V7 at *;clear s0 s1 z0 z1 c2 d0;obtain⟨dd,hdd⟩:∃ dd:Nat,(if cf.mix=0 then 0 else dr cf h cf.mix)=dd:=⟨_,rfl⟩;obtain⟨d3,hd3⟩:∃ d3:Dy,d3={ d with f:=f3 }:=⟨_,rfl⟩;obtain⟨h2,hh2⟩:∃ h2:Hs,h2={ h with m:=storeM h.m (adr c s j) (List.replicate (szN c) 0) (szN c),st:=upd3 h.st c s j 2,rq:=upd3 h.rq c s j 0 }:=⟨_,rfl⟩;obtain⟨h3,hh3⟩:∃ h3:Hs,h3={ h2 with used:=if cf.mix=0 then h.used else h.used+1 }:=⟨_,rfl⟩;have H8:=hid (show Hp B y d3 cf h2 V7 by rw [hd3,hh2];exact H7.out);have HU2:=hid (show h2.used=h.used by rw [hh2]);have KL:=hid (show d3.lg=d.lg by rw [hd3]);have GD3:=hid (show (∀ c s,c < 12→s < 6→d3.on c s=onS h c s)∧d3.un=.nilFunc∧d3.an=an by rw [hd3];exact⟨GD.out.on,GD.out.un,GD.out.an⟩);have HMX:=hid (show h3.mx=h.mx∧h3.ff=h.ff by rw [hh3,hh2];exact⟨rfl,rfl⟩);have HFA:=hid (show freeA cf h c s j={ h3 with mx:=updL h3.mx c (wpM cf.fifo (h3.mx c) (h3.ff c) ((s*slN c+j:Nat):Int) (dd:Int)).1,ff:=updL h3.ff c (wpM cf.fifo (h3.mx c) (h3.ff c) ((s*slN c+j:Nat):Int) (dd:Int)).2.1 } by rw [hh3,hh2,←hdd];rfl);have HLF:=hid (show (wpM cf.fifo (h3.mx c) (h3.ff c) ((s*slN c+j:Nat):Int) (dd:Int)).2.2=leftM cf h c s j by rw [HMX.out.1,HMX.out.2,←hdd];rfl);have HON:=hid (show ∀ c' s',onS (freeA cf h c s j) c' s'=onS h c' s' from fun c' s'=>storeM_is _ _ _ _ _);have HDD:=hid hdd;have HH3:=hid hh3;clear hd3 hh2 hh3 hdd H7 GD DB hl
 go_cut [5] (fun s5 w'=>s5=Vi (dd:Nat)∧Hid (Hp B y d3 cf h3 w')∧Hid (Bi B W w'))
 case first =>
  by_cases hm0:cf.mix=0
  ·have E0:=hid (show dd=0 by rw [←HDD.out,if_pos hm0]);have E3:=hid (show h3=h2 by rw [HH3.out,if_pos hm0,←HU2.out]);have hm0':¬((0:Int) < (cf.mix:Int)):=by omega
   clear hm0;go_wp2
   go_meet
   case rel=>exact ⟨by rw [E0.out];rfl,by rw [E3.out];exact H8,B7⟩
  have E0:=hid (show dd=dr cf h2 cf.mix by rw [←HDD.out,if_neg hm0];unfold dr;rw [HU2.out]);have E3:=hid (show h3={ h2 with used:=h2.used+1 } by rw [HH3.out,if_neg hm0,HU2.out]);have hm0':(0:Int) < (cf.mix:Int):=by omega
  have DR:=hid (im_draw B y d3 cf h2 cf.mix V7 H8.out (by omega) (by have:=OK.out.dok.mix;omega) (by rw [HU2.out];have h1:=OK.out.few.used;have h2:=OK.out.kk;have:2100*k≤2100*302:=Nat.mul_le_mul_left _ h2;omega) OK.out.dok.len);clear hm0;go_wp2_with fail;refine DR.out.mono ?_;rintro e V8 ⟨rfl,h8,b8⟩;have H9:=hid h8;have B8:=hid (B7.out.trans b8);clear h8 b8 DR;go_wp2
  go_meet
  case rel=>exact ⟨by rw [E0.out],by rw [E3.out];exact H9,B8⟩
 case rest =>
  obtain⟨rfl,H3,B3⟩:=hcut;clear H8 B7 c0P HDD HH3 HU2
  rename_i wc
  obtain⟨n,hn⟩:∃ n,slN c=n:=⟨_,rfl⟩;have HN:=hid hn;have SL:=hid (fun V (hV:Tb V)=>im_SlabSlots (c:Nat) V hV);rw [sl_c hc,hn] at SL;have hsn:(0:Int)≤(s:Int)*(n:Int)∧(s:Int)*(n:Int)≤384:=by
   have h1:s*n≤6*64:=Nat.mul_le_mul (by omega) (by omega);have h2:((s*n:Nat):Int)=(s:Int)*(n:Int):=by simp
   omega
  have hjn:(j:Int) < 64:=by omega
  have hw1:IntKind.i64.wrap ((s:Int)*(n:Int))=(s:Int)*(n:Int):=by rw [IntKind.wrap_i64];omega
  have hw2:IntKind.i64.wrap ((s:Int)*(n:Int)+(j:Int))=(s:Int)*(n:Int)+(j:Int):=by rw [IntKind.wrap_i64];omega
  have CK:=hid (show ∀ (U:World) d9 h9,Hp B y d9 cf h9 U→U.cell? ⟨y.P,79+c*3+2,none⟩=some (if cf.mix=0 then .iface 84 (Vp (y.qg c) 0) else .iface 83 (Vp (y.qm c) 0))∧U.cell? ⟨gm,2,none⟩=some (Vp gb 0)∧U.cell? ⟨gb,1,none⟩=some (Vi (s:Nat))∧U.cell? ⟨gm,3,none⟩=some (Vi (j:Nat)) from fun U d9 h9 hU=>by
   obtain⟨c2,c3,_,d1,_⟩:=hU.scAt c s j hc hs (by rw [HN.out];omega);rw [HGM.out,HGB.out] at c2;rw [HGM.out] at c3;rw [HGB.out] at d1;exact⟨hU.qAt c hc,c2,d1,c3⟩)
  have HML:=hid (show (h3.mx c).length=cf.mix by rw [HMX.out.1];exact OK.out.inv.mxl c hc);have PU0:=hid (fun (h0:cf.mix=0) U (hU:Hp B y d3 cf h3 U)=>im_push0 B y d3 cf h3 c ((s*slN c+j:Nat):Int) (dd:Int) U hU HML.out OK.out.dok hc h0);have PU1:=hid (fun (h0:cf.mix≠0) U (hU:Hp B y d3 cf h3 U)=>im_push1 B y d3 cf h3 c ((s*slN c+j:Nat):Int) (dd:Int) U hU HML.out OK.out.dok hc h0);unfold PuR at PU0 PU1;rw [HLF.out,←HFA.out] at PU0 PU1;have hx:((s*slN c+j:Nat):Int)=(s:Int)*(n:Int)+(j:Int):=by rw [hn];simp
  rw [hx] at PU0 PU1;clear hx HMX HML;clear HLF HFA;generalize hfa:freeA cf h c s j=fA at *;generalize hlf:leftM cf h c s j=lf at *;clear hfa hlf;go_upto_region 6 with fail
  go_cut [6] (fun s6 w'=>s6=Vi lf∧Hid (Hp B y d3 cf fA w')∧Hid (Bi B W w'))
  case first =>
   by_cases hm0:cf.mix=0
   ·have PU:=hid (PU0.out hm0);rw [if_pos hm0] at CK;have hmq:=fun w=>meth_q ⟨y.qg c,0,none⟩ w
    clear PU0 PU1;generalize y.qg c=qg at *;refine wp_region_held (S:=fun W9=>W9.cell? ⟨y.P,79+c*3+2,none⟩=some (.iface 84 (Vp qg 0))∧W9.cell? ⟨gm,2,none⟩=some (Vp gb 0)∧W9.cell? ⟨gb,1,none⟩=some (Vi (s:Nat))∧W9.cell? ⟨gm,3,none⟩=some (Vi (j:Nat))) (by kernel_rfl) ?_;simp only [List.size_toArray,List.length_cons,List.length_nil,Nat.reduceAdd,Array.replicate_succ,Array.replicate_zero,List.push_toArray,List.nil_append,List.cons_append];have hS:=CK.out _ _ _ (H3.out.below (Below.refl _ _).drew);refine pk 0 39 (Vp y.P 0) hS ?_;simp only [lz,l0,ls];refine pk 1 40 (Vi (c:Nat)) hS ?_;simp only [lz,l0,ls];refine pk 2 41 (Vp y.P 0) hS ?_;simp only [lz,l0,ls];refine pk 3 42 (Vp y.P 79) hS ?_;simp only [lz,l0,ls];refine pz 4 43 (Vp y.P (79+c*3)) hS ?_;simp only [lz,l0,ls];refine pk 5 44 (Vp y.P (79+c*3+2)) hS ?_;simp only [lz,l0,ls];refine pz 6 45 (.iface 84 (Vp qg 0)) hS ?_;simp only [lz,l0,ls];refine pk 7 46 (Vp gm 0) hS ?_;simp only [lz,l0,ls];refine pk 8 47 (Vp gm 0) hS ?_;simp only [lz,l0,ls];refine pk 9 48 (Vp gm 2) hS ?_;simp only [lz,l0,ls];refine pz 10 49 (Vp gb 0) hS ?_;simp only [lz,l0,ls];refine pk 11 50 (Vp gb 0) hS ?_;simp only [lz,l0,ls];refine pk 12 51 (Vp gb 1) hS ?_;simp only [lz,l0,ls];refine pz 13 52 (Vi (s:Nat)) hS ?_;simp only [lz,l0,ls];refine pk 14 53 (Vi (c:Nat)) hS ?_;simp only [lz,l0,ls];refine pk 17 56 (Vp gm 0) hS ?_;simp only [lz,l0,ls];refine pk 18 57 (Vp gm 0) hS ?_;simp only [lz,l0,ls];refine pk 19 58 (Vp gm 3) hS ?_;simp only [lz,l0,ls];refine pz 20 59 (Vi (j:Nat)) hS ?_;simp only [lz,l0,ls];refine pk 22 61 (Vi (dd:Nat)) hS ?_;simp only [lz,l0,ls];refine pk 23 62 (.iface 84 (Vp qg 0)) hS ?_;simp only [lz,l0,ls];refine pk 24 63 (.iface 84 (Vp qg 0)) hS ?_;simp only [lz,l0,ls];refine po 15 fun K' hK=>?_
    go_simp;refine (SL.out _ (H3.out.below (Below.refl _ _).drew).tb).mono ?_;rintro e U1 ⟨rfl,rfl⟩;refine hK.out _ _ ⟨hS,?_⟩;clear hK K';refine pz 16 55 (Vi ((s:Int)*(n:Int))) hS ?_;simp only [lz,l0,ls];refine pz 21 60 (Vi ((s:Int)*(n:Int)+(j:Int))) hS ?_;simp only [lz,l0,ls];refine po 25 fun K' hK=>?_
    go_simp;refine (PU.out _ (H3.out.below (Below.refl _ _).drew)).mono ?_;rintro e U2 ⟨rfl,hp6,bi6⟩;have q2:=CK.out _ _ _ hp6;refine hK.out _ _ ⟨q2,?_⟩;clear hS;have hS:=q2;clear hK K';refine pk 26 6 (Vi lf) hS ?_;simp only [lz,l0,ls];refine wpAnyH_done (by kernel_rfl) ?_ _;have H6:=hid hp6;have B6:=hid ((B3.out.add (Below.refl _ _).drew H3.out.bW).trans bi6);clear hp6 bi6 q2 hS;go_wp2_with fail
    go_meet
    case rel=>exact ⟨rfl,H6,B6⟩
   have PU:=hid (PU1.out hm0);rw [if_neg hm0] at CK;have hmq:=fun w=>meth_m ⟨y.qm c,0,none⟩ w
   clear PU0 PU1;generalize y.qm c=qm at *;refine wp_region_held (S:=fun W9=>W9.cell? ⟨y.P,79+c*3+2,none⟩=some (.iface 83 (Vp qm 0))∧W9.cell? ⟨gm,2,none⟩=some (Vp gb 0)∧W9.cell? ⟨gb,1,none⟩=some (Vi (s:Nat))∧W9.cell? ⟨gm,3,none⟩=some (Vi (j:Nat))) (by kernel_rfl) ?_;simp only [List.size_toArray,List.length_cons,List.length_nil,Nat.reduceAdd,Array.replicate_succ,Array.replicate_zero,List.push_toArray,List.nil_append,List.cons_append];have hS:=CK.out _ _ _ (H3.out.below (Below.refl _ _).drew);refine pk 0 39 (Vp y.P 0) hS ?_;simp only [lz,l0,ls];refine pk 1 40 (Vi (c:Nat)) hS ?_;simp only [lz,l0,ls];refine pk 2 41 (Vp y.P 0) hS ?_;simp only [lz,l0,ls];refine pk 3 42 (Vp y.P 79) hS ?_;simp only [lz,l0,ls];refine pz 4 43 (Vp y.P (79+c*3)) hS ?_;simp only [lz,l0,ls];refine pk 5 44 (Vp y.P (79+c*3+2)) hS ?_;simp only [lz,l0,ls];refine pz 6 45 (.iface 83 (Vp qm 0)) hS ?_;simp only [lz,l0,ls];refine pk 7 46 (Vp gm 0) hS ?_;simp only [lz,l0,ls];refine pk 8 47 (Vp gm 0) hS ?_;simp only [lz,l0,ls];refine pk 9 48 (Vp gm 2) hS ?_;simp only [lz,l0,ls];refine pz 10 49 (Vp gb 0) hS ?_;simp only [lz,l0,ls];refine pk 11 50 (Vp gb 0) hS ?_;simp only [lz,l0,ls];refine pk 12 51 (Vp gb 1) hS ?_;simp only [lz,l0,ls];refine pz 13 52 (Vi (s:Nat)) hS ?_;simp only [lz,l0,ls];refine pk 14 53 (Vi (c:Nat)) hS ?_;simp only [lz,l0,ls];refine pk 17 56 (Vp gm 0) hS ?_;simp only [lz,l0,ls];refine pk 18 57 (Vp gm 0) hS ?_;simp only [lz,l0,ls];refine pk 19 58 (Vp gm 3) hS ?_;simp only [lz,l0,ls];refine pz 20 59 (Vi (j:Nat)) hS ?_;simp only [lz,l0,ls];refine pk 22 61 (Vi (dd:Nat)) hS ?_;simp only [lz,l0,ls];refine pk 23 62 (.iface 83 (Vp qm 0)) hS ?_;simp only [lz,l0,ls];refine pk 24 63 (.iface 83 (Vp qm 0)) hS ?_;simp only [lz,l0,ls];refine po 15 fun K' hK=>?_
   go_simp;refine (SL.out _ (H3.out.below (Below.refl _ _).drew).tb).mono ?_;rintro e U1 ⟨rfl,rfl⟩;refine hK.out _ _ ⟨hS,?_⟩;clear hK K';refine pz 16 55 (Vi ((s:Int)*(n:Int))) hS ?_;simp only [lz,l0,ls];refine pz 21 60 (Vi ((s:Int)*(n:Int)+(j:Int))) hS ?_;simp only [lz,l0,ls];refine po 25 fun K' hK=>?_
   go_simp;refine (PU.out _ (H3.out.below (Below.refl _ _).drew)).mono ?_;rintro e U2 ⟨rfl,hp6,bi6⟩;have q2:=CK.out _ _ _ hp6;refine hK.out _ _ ⟨q2,?_⟩;clear hS;have hS:=q2;clear hK K';refine pk 26 6 (Vi lf) hS ?_;simp only [lz,l0,ls];refine wpAnyH_done (by kernel_rfl) ?_ _;have H6:=hid hp6;have B6:=hid ((B3.out.add (Below.refl _ _).drew H3.out.bW).trans bi6);clear hp6 bi6 q2 hS;go_wp2_with fail
   go_meet
   case rel=>exact ⟨rfl,H6,B6⟩
  case rest =>
   obtain⟨rfl,H6,B6⟩:=hcut;clear H3 B3 PU0 PU1 CK hw1 hw2 hsn;have GDA:=hid (show Gd d3 fA an from ⟨fun c s hc hs=>by rw [GD3.out.1 c s hc hs,HON.out],GD3.out.2.1,GD3.out.2.2⟩)
   rcases HFR.out with ⟨e,inv⟩|⟨s',j',e,e1,e2,hs',hj',hon',inv⟩
   ·subst e;have HE:=hid (show res=fA by rw [HRES.out,if_pos rfl]);clear HFR HRES;go_wp2
    go_end0
    rw [HE.out];exact⟨rfl,⟨d3,H6.out,GDA.out,Klg.ofEq KL.out⟩,B6.out⟩
   obtain⟨lf9,rfl⟩:∃ lf9:Nat,lf=(lf9:Int):=⟨lf.toNat,by omega⟩;rw [Int.toNat_natCast] at e1 e2 HRES;have HE:=hid (show res=releaseM fA c s' j' by rw [HRES.out,if_neg (by omega),e1,e2]);rw [hn] at e1 e2 hj';have hq1:(lf9:Int).tdiv (n:Int)=(s':Int):=by rw [Int.tdiv_eq_ediv_of_nonneg (by omega),←e1];simp
   have hq2:(lf9:Int).tmod (n:Int)=(j':Int):=by rw [Int.tmod_eq_emod_of_nonneg (by omega),←e2];simp
   have hn0:¬((n:Int)=0):=by omega
   have hne:((lf9:Int) == -1)=false:=by simp
   have hi1:(s':Int) < 6:=by omega
   have hi2:(j':Int) < (n:Int):=by omega
   have hjc:j' < slN c:=by rw [hn];exact hj'
   have HJC:=hid hjc;have INV:=hid inv;have HO9:=hid (show onS fA c s'=true by rw [HON.out];exact hon');have hw3:IntKind.i64.wrap (s':Int)=(s':Int):=by rw [IntKind.wrap_i64];omega
   have hw4:IntKind.i64.wrap (j':Int)=(j':Int):=by rw [IntKind.wrap_i64];omega
   obtain⟨gb',hgb'⟩:∃ g,y.sb c s'=g:=⟨_,rfl⟩;obtain⟨gm',hgm'⟩:∃ g,y.sm c s' j'=g:=⟨_,rfl⟩;obtain⟨gr',hgr'⟩:∃ g,y.sr c s'=g:=⟨_,rfl⟩;obtain⟨gc',hgc'⟩:∃ g,y.sc c s'=g:=⟨_,rfl⟩;have CK:=hid (show ∀ (U:World) d9 h9,Hp B y d9 cf h9 U→U.cell? ⟨y.P,7+c*6+s',none⟩=some (Vp gb' 0) from fun U d9 h9 hU=>by
    rw [←hgb'];exact hU.slabAt c s' hc hs')
   have CR:=hid (show ∀ (U:World) d9 h9,Hp B y d9 cf h9 U→U.cell? ⟨gb',3,none⟩=some (Vl gr' n gc')∧U.cell? ⟨gr',j',none⟩=some (Vp gm' 0) from fun U d9 h9 hU=>by
    rw [←hgb',←hgr',←hgc',←hgm',←HN.out];exact⟨(hU.bc c s' hc hs').d3,hU.rowAt c s' j' hc hs' HJC.out⟩)
   have SET:=hid (show ∀ (U:World),Hp B y d3 cf fA U→(∃ z,U.cell? ⟨gm',0,none⟩=some (Vi z))∧U.frozen? ⟨gm',0,none⟩=false∧Hp B y d3 cf { fA with st:=upd3 fA.st c s' j' 3 } (U.setCell ⟨gm',0,none⟩ (Vi 3))∧Bi B U (U.setCell ⟨gm',0,none⟩ (Vi 3)) from fun U hU=>by
    have h1:=(hU.smAt c s' j' hc hs' HJC.out).1;have h2:=hU.sm c s' j' hc hs' HJC.out;have h3:=hU.setSt1 hc hs' HJC.out 3;rw [hgm'] at h1 h2 h3;exact⟨⟨_,h1⟩,by simp [World.frozen?,h2],h3.1,h3.2⟩)
   have HGB2:=hid hgb';have HGM2:=hid hgm';have HGR2:=hid hgr';have HGC2:=hid hgc';clear inv e e1 e2 hon' hjc hgb' hgm' hgr' hgc' HFR HRES HON GD3;go_upto_region 8 with fail
   refine wp_region_held (S:=fun W9=>W9.cell? ⟨y.P,7+c*6+s',none⟩=some (Vp gb' 0)) (by kernel_rfl) ?_;simp only [List.size_toArray,List.length_cons,List.length_nil,Nat.reduceAdd,Array.replicate_succ,Array.replicate_zero,List.push_toArray,List.nil_append,List.cons_append];have hS:=CK.out _ _ _ (H6.out.below (Below.refl _ _).drew);refine pk 0 67 (Vp y.P 0) hS ?_;simp only [lz,l0,ls];refine pk 1 68 (Vi (c:Nat)) hS ?_;simp only [lz,l0,ls];refine pk 2 69 (Vi (lf9:Nat)) hS ?_;simp only [lz,l0,ls];refine pk 3 70 (Vi (c:Nat)) hS ?_;simp only [lz,l0,ls];refine pk 6 73 (Vp y.P 0) hS ?_;simp only [lz,l0,ls];refine pk 7 74 (Vp y.P 7) hS ?_;simp only [lz,l0,ls];refine pz 8 75 (Vp y.P (7+c*6)) hS ?_;simp only [lz,l0,ls];refine po 4 fun K' hK=>?_
   go_simp;refine (SL.out _ (H6.out.below (Below.refl _ _).drew).tb).mono ?_;rintro e U1 ⟨rfl,rfl⟩;refine hK.out _ _ ⟨hS,?_⟩;clear hK K';refine pz 5 72 (Vi (s':Nat)) hS ?_;simp only [lz,l0,ls];refine pz 9 76 (Vp y.P (7+c*6+s')) hS ?_;simp only [lz,l0,ls];refine pz 10 77 (Vp gb' 0) hS ?_;simp only [lz,l0,ls];refine pk 11 7 (Vp gb' 0) hS ?_;simp only [lz,l0,ls];refine wpAnyH_done (by kernel_rfl) ?_ _;have H8:=hid (H6.out.below (Below.refl _ _).drew);have B8:=hid (B6.out.add (Below.refl _ _).drew H6.out.bW);clear hS H6 B6 CK;go_upto_region 9 with fail
   generalize World.drew _=V8 at *;obtain⟨⟨z9,cz⟩,fz,_,_⟩:=SET.out _ (H8.out.below (Below.refl _ V8).drew);refine wp_region_held (S:=fun W9=>W9.cell? ⟨gb',3,none⟩=some (Vl gr' n gc')∧W9.cell? ⟨gr',j',none⟩=some (Vp gm' 0)) (by kernel_rfl) ?_;simp only [List.size_toArray,List.length_cons,List.length_nil,Nat.reduceAdd,Array.replicate_succ,Array.replicate_zero,List.push_toArray,List.nil_append,List.cons_append];have hS:=CR.out _ _ _ (H8.out.below (Below.refl _ _).drew);refine pk 0 78 (Vp gb' 0) hS ?_;simp only [lz,l0,ls];refine pk 1 79 (Vp gb' 0) hS ?_;simp only [lz,l0,ls];refine pk 2 80 (Vp gb' 3) hS ?_;simp only [lz,l0,ls];refine pz 3 81 (Vl gr' n gc') hS ?_;simp only [lz,l0,ls];refine pk 4 82 (Vi (lf9:Nat)) hS ?_;simp only [lz,l0,ls];refine pk 5 83 (Vi (c:Nat)) hS ?_;simp only [lz,l0,ls];refine po 6 fun K' hK=>?_
   go_simp;refine (SL.out _ (H8.out.below (Below.refl _ _).drew).tb).mono ?_;rintro e U1 ⟨rfl,rfl⟩;refine hK.out _ _ ⟨hS,?_⟩;clear hK K';refine pz 7 85 (Vi (j':Nat)) hS ?_;simp only [lz,l0,ls];refine pz 8 86 (Vp gr' j') hS ?_;simp only [lz,l0,ls];refine pz 9 87 (Vp gm' 0) hS ?_;simp only [lz,l0,ls];refine pk 10 88 (Vp gm' 0) hS ?_;simp only [lz,l0,ls];refine pk 11 89 (Vp gm' 0) hS ?_;simp only [lz,l0,ls];refine pk 12 90 (Vp gm' 0) hS ?_;simp only [lz,l0,ls];refine po 13 fun K' hK=>?_
   go_simp;obtain⟨_,_,h9,b9⟩:=SET.out _ (H8.out.below (Below.refl _ V8).drew);have q9:=CR.out _ _ _ h9;refine hK.out _ _ ⟨q9,?_⟩;clear hK K';refine wpAnyH_done (by kernel_rfl) ?_ _;obtain⟨h10,hh10⟩:∃ h10:Hs,h10={ fA with st:=upd3 fA.st c s' j' 3 }:=⟨_,rfl⟩;have H9:=hid (show Hp B y d3 cf h10 (V8.setCell ⟨gm',0,none⟩ (Vi 3)).drew by rw [hh10];exact h9);have B9:=hid (show Bi B W (V8.setCell ⟨gm',0,none⟩ (Vi 3)).drew from (B8.out.add (Below.refl _ _).drew H8.out.bW).trans b9);rw [←hh10] at INV;have HE2:=hid (show res=if (freeS h10 c s').length=n then { h10 with m:=goneM h10.m (slabP c s') (pgN c) } else h10 by rw [HE.out,hh10,←HN.out];rfl);have GDB:=hid (show Gd d3 h10 an by rw [hh10];exact⟨GDA.out.on,GDA.out.un,GDA.out.an⟩);have HOA:=hid (show onS h10 c s'=true by rw [hh10];exact HO9.out);generalize (V8.setCell ⟨gm',0,none⟩ (Vi 3)).drew=V9 at *;have FR:=hid (show ∀ U,Hp B y d3 cf h10 U→_ from fun U hU=>im_free (y.sb c s') (y.sr c s') c s' (slN c) (y.sc c s') (d3.on c s') (y.sm c s') (h10.st c s') U (hU.bc c s' hc hs') (by omega) (fun j hj=>hU.rowAt c s' j hc hs' hj) (fun j hj=>(hU.smAt c s' j hc hs' hj).1));rw [frM_freeS,HGB2.out] at FR;obtain⟨ll,hll⟩:∃ ll,(freeS h10 c s').length=ll:=⟨_,rfl⟩;rw [hll] at FR HE2;have C3:=hid (show ∀ (U:World) d9 h9,Hp B y d9 cf h9 U→U.cell? ⟨gb',3,none⟩=some (Vl gr' n gc') from fun U d9 h9 hU=>(CR.out U d9 h9 hU).1);have HLL:=hid hll;clear hh10 h9 b9 q9 hS cz fz SET CR H8 B8 HE GDA HO9 hll;go_upto_region 10 with fail
   refine wp_region_held (S:=fun W9=>W9.cell? ⟨gb',3,none⟩=some (Vl gr' n gc')) (by kernel_rfl) ?_;simp only [List.size_toArray,List.length_cons,List.length_nil,Nat.reduceAdd,Array.replicate_succ,Array.replicate_zero,List.push_toArray,List.nil_append,List.cons_append];have hS:=C3.out _ _ _ (H9.out.below (Below.refl _ _).drew);refine pk 0 91 (Vp gb' 0) hS ?_;simp only [lz,l0,ls];refine pk 3 94 (Vp gb' 0) hS ?_;simp only [lz,l0,ls];refine pk 4 95 (Vp gb' 0) hS ?_;simp only [lz,l0,ls];refine pk 5 96 (Vp gb' 3) hS ?_;simp only [lz,l0,ls];refine pz 6 97 (Vl gr' n gc') hS ?_;simp only [lz,l0,ls];refine pz 7 98 (Vi (n:Nat)) hS ?_;simp only [lz,l0,ls];refine po 1 fun K' hK=>?_
   go_simp;refine (FR.out _ (H9.out.below (Below.refl _ _).drew)).mono ?_;rintro e U1 ⟨v,rfl,own,b1⟩;obtain⟨va,vc,rfl⟩:=own_sl2 own;have k1:Below V9.heap.size V9 U1:=⟨b1.os,b1.tape,b1.output,b1.size,b1.block⟩;have q1:=C3.out _ _ _ (H9.out.below k1);refine hK.out _ _ ⟨q1,?_⟩;clear hS;have hS:=q1;clear hK K';refine pz 2 93 (Vi (ll:Nat)) hS ?_;simp only [lz,l0,ls];refine pk 8 99 (.bool ((ll:Int)==(n:Int))) hS ?_;simp only [lz,l0,ls];refine wpAnyH_done (by kernel_rfl) ?_ _;have H10:=hid (H9.out.below k1);have B10:=hid (B9.out.add k1 H9.out.bW);clear k1 q1 hS own b1 H9 B9 FR C3
   by_cases hfull:ll=n
   ·have hlb:((ll:Int)==(n:Int))=true:=by simp [hfull]
    have SP:=hid (im_spaging (y.sb c s') (y.sr c s') (y.sm c s' 0) c s' (slN c) (y.sc c s') (d3.on c s') 1 U1 (H10.out.bc c s' hc hs') (by omega) (H10.out.scAt c s' 0 hc hs' (by omega)) (H10.out.rowAt c s' 0 hc hs' (by omega)));have hdr:=stepM_drop (bud:=(cf.bud:Nat)) (m:=h10.m) (p:=slabP c s') (c:=pgN c) (by omega) (by have:=slabP_in hc hs';omega) (fun i hi=>by rw [INV.out.slab c s' hc hs' i hi];exact HOA.out);have AK:=hid (fun U (hU:Hp B y d3 cf h10 U)=>im_ask B y d3 cf h10 1 (slabP c s':Nat) (pgN c:Nat) 0 0 none 0 0 [] U hU INV.out.out (by omega) (by have:=slabP_in hc hs';omega) (Da.nil _ _ _ _) (Nat.le_refl _));rw [hdr] at AK;have ON:=hid (show ∀ c' s9,c' < 12→s9 < 6→(goneM h10.m (slabP c s') (pgN c) (slabP c' s9)).isSome=updB d3.on c s' false c' s9 from fun c' s9 hc' hs9=>by
     have hz':=szN_in hc';unfold updB;rw [goneM_eq]
     by_cases e:c'=c∧s9=s'
     ·obtain⟨rfl,rfl⟩:=e;rw [if_pos (by omega),if_pos ⟨rfl,rfl⟩];rfl
     rw [if_neg e,if_neg (by have:=slab_apart hc' hs9 hc hs' e;omega),GDB.out.on c' s9 hc' hs9];rfl)
    have HE3:=hid (show res={ h10 with m:=goneM h10.m (slabP c s') (pgN c) } by rw [HE2.out,if_pos hfull]);rw [HGB2.out] at SP;clear HE2 hdr HLL;go_wp2_with fail;refine (SP.out).mono ?_;rintro e V11 ⟨rfl,b11⟩;have H11:=hid (H10.out.below b11);have B11:=hid (B10.out.add b11 H10.out.bW);clear b11 SP H10 B10;go_wp2_with fail;refine (AK.out _ H11.out).mono ?_;rintro e V12 ⟨f12,hp12,bi12,⟨_,v12,rfl,_⟩|⟨hn9,_⟩⟩
    rotate_left
    ·exact absurd rfl hn9
    obtain⟨h13,b13⟩:=hp12.setOn hc hs' false;have cb:=(hp12.bc c s' hc hs').d2;have fb:V12.frozen? ⟨y.sb c s',2,none⟩=false:=by simp [World.frozen?,hp12.sl c s' hc hs']
    have H13:=hid h13;have B13:=hid ((B11.out.trans bi12).trans b13);rw [HGB2.out] at cb fb H13 B13;clear h13 b13 AK H11 B11 hp12 bi12;go_wp2
    go_end0
    rw [HE3.out];refine⟨rfl,⟨_,H13.out,⟨fun c' s9 hc' hs9=>?_,GDB.out.un,GDB.out.an⟩,Klg.ofEq KL.out⟩,B13.out⟩;exact (ON.out c' s9 hc' hs9).symm
   have hlb:((ll:Int)==(n:Int))=false:=by simp;omega
   have HE3:=hid (show res=h10 by rw [HE2.out,if_neg hfull]);clear HE2 HLL hfull;go_wp2
   go_end0
   rw [HE3.out];exact⟨rfl,⟨d3,H10.out,GDB.out,Klg.ofEq KL.out⟩,B10.out⟩
end Go.Proofs.YtacccpkmgkojiaaGreatDoorRR
namespace Go.Proofs.YtacccpkmgkojiaaGreatDoorRR
set_option linter.unusedVariables false
set_option linter.unusedSimpArgs false
set_option maxRecDepth 20000
set_option maxHeartbeats 8000000
open Go.RowKit Go.Maps
theorem wpo_append (t:TypeId) {o:Oper} {a:Act} {W W':World} {K:Act→World→Prop} {Q:Exit→Act→World→Prop} (s x:Operand) {v v2 v':Value} (hop:o.op=.call { callee:=.builtin .append,args:=#[s,x],argTypes:=#[t,t] }) (ht:o.type=t) (hs:a.eval s=v) (hx:a.eval x=v2)
  (hr:(Builtin.append_ #[t,t] t #[v,v2]).run Tryz.prog W=.ok v' W') (hK:K (a.put o.dst v') W'):Oper.wp Tryz.prog o a W K Q:=by
 unfold Oper.wp;simp [execOp,hop,ht,resolve,invoke,builtin,hs,hx,hr,Result.andThen];exact hK
theorem um_new (W:World) (B:Nat) (l:List Nat) (cap:Nat) (hc:l.length≤cap) (hm:cap≤maxLen) (hB:B≤W.heap.size) :
  Um B (W.drew.alloc (.cells ((Us l).toArray++Builtin.zeroCells (Value.int .u64 0).cells (cap - l.length)) 23)) (Vl W.heap.size l.length cap) l:=by
 have hb:=al_last W.drew (.cells ((Us l).toArray++Builtin.zeroCells (Value.int .u64 0).cells (cap - l.length)) 23);have hz:(Builtin.zeroCells (Value.int .u64 0).cells (cap - l.length))=Array.replicate (cap - l.length) (Vu 0):=by
  apply Array.ext';simp [Builtin.zeroCells,Value.cells,Nat.mod_one];rw [List.map_const',List.length_range]
 refine .inr ⟨W.heap.size,0,cap,_,rfl,hB,hb,?_,hc,hm,?_,?_⟩
 ·simp [hz,Us_len];omega
 ·intro u hu;simp [hz,Us] at hu
  rcases hu with ⟨n,_,rfl⟩|⟨_,rfl⟩ <;> rfl
 intro i hi;rw [Nat.zero_add,Array.getElem?_append_left (by simp [Us_len];exact hi)];simp [Us,hi]
theorem um_app (B:Nat) (W:World) (v:Value) (l:List Nat) (x:Nat) (g c:Nat) (hu:Um B W v l) (hx:W.cell? ⟨g,0,none⟩=some (Vu (x:Nat))) (hl:l.length≤100000) (hB:B≤W.heap.size) :
  ∃ v' W',(Builtin.append_ #[35,35] 35 #[v,Vl g 1 c]).run Tryz.prog W=.ok v' W'∧Um B W' v' (l++[x])∧W.grownBy W' (umBlock v)∧(umBlock v'=umBlock v∨umBlock v'=some W.heap.size)∧∃ a cap,v'=.slice a (l.length+1) cap:=by
 obtain⟨i0,hi0,hz0,hz1,hz2⟩:=info_parts info22;have src:=Src.ofSlice (P:=Tryz.prog) W (size:=i0.size) Tryz.underlying35 ⟨g,0,none⟩ 1 c [Vu (x:Nat)] (by rw [hz1];rfl) (fun j u hj=>by
  cases j with
  | zero=>simp at hj;subst hj;rw [Addr.add_mid];exact hx
  | succ j=>simp at hj) (fun u hu=>by simp at hu;subst hu;rfl)
 have grow:∀ (base:Option Addr) (cap:Nat),(Builtin.firstCells i0.size l.length (.slice base l.length cap)).run Tryz.prog W.drew=.ok (Us l).toArray W.drew→cap < l.length+1→∀ row,
   ∃ v' W',(Builtin.append_ #[35,35] 35 #[.slice base l.length cap,Vl g 1 c]).run Tryz.prog W=.ok v' W'∧Um B W' v' (l++[x])∧W.grownBy W' row∧(umBlock v'=some W.heap.size)∧∃ a cap,v'=.slice a (l.length+1) cap:=fun base cap hold hg row=>by
  have hr:=run_append_grow_src (P:=Tryz.prog) W 35 35 35 23 i0 (Vu 0) Tryz.underlying35 hi0 hz0 base l.length cap (Us l) hold _ 1 _ src hg (by omega) (growslice_fits hg (by rw [hz2];omega))
  refine⟨_,_,hr,?_,?_,rfl,_,_,rfl⟩
  ·have:=um_new W B (l++[x]) (grownCap W (l.length+1) cap 23) (by rw [List.length_append];exact grownCap_ge _ _ _ _) (grownCap_le_maxLen _ _ _ _ (by unfold maxLen;omega)) hB;rw [Us_snoc,List.length_append] at this;exact this
  exact⟨rfl,rfl,rfl,by rw [al_size];exact Nat.le_succ _,fun k hk _=>al_old W.drew _ k hk⟩
 rcases hu with ⟨rfl,rfl⟩|⟨b,o,cap,cc,rfl,h2,h3,h4,h5,h6,h7,h8⟩
 ·obtain⟨v',W',e1,e2,e3,e4,e5⟩:=grow none 0 (run_firstCells_none W.drew i0.size 0 0 0) (by simp) none;exact⟨v',W',e1,e2,e3,.inr e4,e5⟩
 have cl:∀ i,i < l.length→W.cell? ⟨b,o+i,none⟩=some (Vu ((l[i]?.getD 0:Nat):Int)):=fun i hi=>by rw [cell_of_row _ _ _ _ _ _ h3];exact h8 i hi
 by_cases hroom:l.length+1≤cap
 ·have hr:=run_append_room_src (P:=Tryz.prog) W 35 35 35 23 i0 Tryz.underlying35 hi0 b o l.length cap _ 1 _ src hroom (fun j hj=>by
   have:j=0:=by simpa using hj
   subst this;rw [cell_of_row _ _ _ _ _ _ h3,hz1,Array.getElem?_eq_getElem (by omega)];rfl) (fun j hj=>by simp [World.frozen?,h3])
  refine⟨_,_,hr,?_,?_,.inl rfl,_,_,rfl⟩
  ·have hb:(W.setCell ⟨b,o+l.length,none⟩ (Vu (x:Nat))).heap[b]?=some (.cells (cc.setIfInBounds (o+l.length) (Vu (x:Nat))) 23 (0,0)):=by simp [World.setCell,Array.getElem?_modify,h3]
   rw [hz1,Nat.mul_one];refine .inr ⟨b,o,cap,_,by rw [List.length_append];rfl,h2,hb,by simpa using h4,by rw [List.length_append];exact hroom,h6,?_,?_⟩
   ·intro u hu;rw [Array.toList_setIfInBounds] at hu
    rcases List.mem_or_eq_of_mem_set hu with h|rfl
    ·exact h7 u h
    rfl
   intro i hi;rw [List.length_append,List.length_singleton] at hi;rw [Array.getElem?_setIfInBounds]
   by_cases e:o+l.length=o+i
   ·rw [if_pos e,if_pos (by omega)];have:i=l.length:=by omega
    subst this;simp
   rw [if_neg e,h8 i (by omega),List.getElem?_append_left (by omega)]
  rw [hz1,Nat.mul_one];exact grown_set (grown_refl W b) _ _
 obtain⟨v',W',e1,e2,e3,e4,e5⟩:=grow (some ⟨b,o,none⟩) cap (by
  rw [hz1];exact run_firstCells_some W.drew 1 l.length ⟨b,o,none⟩ l.length cap (Us l) (by rw [Us_len,Nat.mul_one]) (fun j u hj=>by
   rw [Addr.add_mid];have hjl:j < l.length:=by
    have:=(List.getElem?_eq_some_iff.1 hj).1;rw [Us_len] at this;exact this
   have:=cl j hjl;simp [Us,hjl] at hj this;rw [←hj];exact this)) (by omega) (some b)
 exact⟨v',W',e1,e2,e3,.inr e4,e5⟩
theorem um_tail {B:Nat} {W:World} {g o n cap:Nat} {l:List Nat} (hu:Um B W (.slice (some ⟨g,o,none⟩) n cap) l) (h2:2≤l.length):n=l.length∧n≤cap∧Um B W (.slice (some ⟨g,o+1,none⟩) (n - 1) (cap - 1)) l.tail∧W.cell? ⟨g,o,none⟩=some (Vu ((l[0]?.getD 0:Nat):Int)):=by
 rcases hu with ⟨e,rfl⟩|⟨b,o',cap',cc,e,h2,h3,h4,h5,h6,h7,h8⟩
 ·simp at h2
 simp at e;obtain⟨⟨rfl,rfl⟩,rfl,rfl⟩:=e;refine⟨rfl,h5,.inr ⟨g,o+1,cap - 1,cc,by rw [List.length_tail],h2,h3,by omega,by rw [List.length_tail];omega,by omega,h7,fun i hi=>?_⟩,?_⟩
 ·rw [List.length_tail] at hi;rw [show o+1+i=o+(i+1) by omega,h8 (i+1) (by omega)];simp
 rw [cell_of_row _ _ _ _ _ _ h3];have:=h8 0 (by omega);simpa using this
theorem um_slice {B:Nat} {W:World} {v:Value} {l:List Nat} (hu:Um B W v l) (h1:1≤l.length):∃ g o cap,v=.slice (some ⟨g,o,none⟩) l.length cap∧l.length≤cap:=by
 rcases hu with ⟨e,rfl⟩|⟨b,o',cap',cc,e,h2,h3,h4,h5,_⟩
 ·simp at h1
 exact⟨b,o',cap',e,h5⟩
theorem um_slice0 {B:Nat} {W:World} {v:Value} {l:List Nat} (hu:Um B W v l):∃ a cap,v=.slice a l.length cap:=by
 rcases hu with ⟨e,rfl⟩|⟨b,o',cap',cc,e,h2,h3,h4,h5,_⟩
 ·exact⟨none,0,e⟩
 exact⟨_,cap',e⟩
theorem Hp.setRo {B:Nat} {y:Ly} {d:Dy} {cf:Cf} {h:Hs} {W W1:World} (hp:Hp B y d cf h W) {v':Value} {row':List Nat} (um:Um B W1 v' row') (g:W.grownBy W1 (umBlock d.ro)) (ho:∀ g,umBlock v'=some g→d.rl.ownBlock≠some g) :
  Hp B y { d with ro:=v' } cf { h with row:=row' } (W1.setCell ⟨y.P,116,none⟩ v')∧Bi B W (W1.setCell ⟨y.P,116,none⟩ v')∧W1.cell? ⟨y.P,116,none⟩=some d.ro∧W1.frozen? ⟨y.P,116,none⟩=false:=by
 have gw:=hp.gw (fun g hg=>umBlock_um hp.ro hg) g;have bx:=hp.box.ky gw.k (by decide);have bx2:=bx.set 116 (by omega) v';rw [boxF_dy cf y d h.used 116 v' { d with ro:=v' } (.inl ⟨rfl,rfl⟩)] at bx2;have hu:=own_kept hp.rl g (fun g1 hg1 e=>hp.rr g1 e hg1);have kS:=bx.kyS 116 v';have bS:Below B W1 (W1.setCell ⟨y.P,116,none⟩ v'):=(Below.refl B W1).grown (grown_set (grown_refl W1 y.P) _ _) (Nat.le_trans hp.bW gw.bl.size) (fun r hr=>by simp at hr;have:=hp.ap.bP;omega);have hM:(W1.setCell ⟨y.P,116,none⟩ v').heap[y.M]?=W1.heap[y.M]?:=Below.heap_setCell _ _ _ _ (fun e=>by
  obtain⟨c,h1,_⟩:=hp.box;obtain⟨D,⟨es,c2,h2,_⟩,_⟩:=hp.sp.map;rw [e,h1] at h2;cases h2)
 have hR:(W1.setCell ⟨y.P,116,none⟩ v').heap[y.R]?=W1.heap[y.R]?:=Below.heap_setCell _ _ _ _ (fun e=>by
  obtain⟨c,h1,_⟩:=hp.box;obtain⟨es,c2,h2⟩:=hp.mp.typ;rw [e,h1] at h2;cases h2)
 exact⟨hp.rows ((gw.k.more (fun t e=>.inl e)).trans (kS.more (fun t e=>.inr e))) (gw.bl.trans bS) (hM.trans gw.m) (hR.trans gw.r) v' d.rl row' h.rel bx2 (um.ky kS (by decide)) (own_ky hu kS (by decide)) ho,gw.bi.trans ⟨bS,kS.more (fun t e=>by subst e;unfold hI;decide)⟩,bx.cell 116 (by omega),bx.free 116⟩
def setR (rg:List Rg9) (b:Nat) (st rq:Int):List Rg9:=rg.map fun x=>if x.base=b then { x with st:=st,rq:=rq } else x
theorem setR_base (b:Nat) (st rq:Int) (x:Rg9):(if x.base=b then { x with st:=st,rq:=rq } else x:Rg9).base=x.base:=by split <;> rfl
theorem Hp.setLg {B:Nat} {y:Ly} {d:Dy} {cf:Cf} {h:Hs} {W W':World} (hp:Hp B y d cf h W) {r:Rg9} (hr:r∈h.rg) (hu:∀ x∈h.rg,x.base=r.base→x=r) {L:Nat} (hL:d.lg r.base=some L) (st rq:Int) (g:W.grownBy W' (some L)) (hb:W'.heap[L]?=some (.cells (lgC { r with st:=st,rq:=rq }) 188 (0,0))) :
  Hp B y d cf { h with rg:=setR h.rg r.base st rq } W'∧Bi B W W':=by
 obtain⟨L',e1,hBL,hb0⟩:=hp.lb r hr;rw [hL] at e1
 cases e1
 have k:Ky (· = 188) W W':=Ky.grown hb0 rfl g;have bl:Below B W W':=(Below.refl B W).grown g hp.bW (fun r hr=>by simp at hr;omega);have hM:W'.heap[y.M]?=W.heap[y.M]?:=g.block _ hp.sp.lt.2 (fun e=>by
  simp at e;obtain⟨D,⟨es,c2,h2,_⟩,_⟩:=hp.sp.map;rw [e,hb0] at h2;cases h2)
 have hR:W'.heap[y.R]?=W.heap[y.R]?:=by
  obtain⟨es,c2,h2⟩:=hp.mp.typ;exact g.block _ (lt_blk h2) (fun e=>by simp at e;rw [e,hb0] at h2;cases h2)
 have hlen:(setR h.rg r.base st rq).length=h.rg.length:=by simp [setR]
 have mp9:=hp.mp.same hR;rw [←hlen] at mp9;refine⟨⟨hp.ap,Nat.le_trans hp.bW bl.size,hp.box.ky k (by decide),hp.ds.belowB bl hp.ap.da,hp.sp.ky k (by decide) hM,hp.pg.ky k (by decide),hp.bf,
 fun c s hc hs=>k.cells _ _ _ _ (hp.sl c s hc hs) (by decide),fun c s hc hs=>row_ky (hp.rw c s hc hs) k (by decide),fun c' s' j' hc' hs' hj'=>k.cells _ _ _ _ (hp.sm c' s' j' hc' hs' hj') (by decide),
 fun c hc=>(hp.wt c hc).ky k (by decide) (by decide) (by decide),mp9,fun q=>?_,fun x hx=>?_,hp.li,hp.ro.ky k (by decide),own_ky hp.rl k (by decide),hp.rr,hp.tb.belowB bl hp.ap.b0⟩,bl,k.more (fun t e=>by subst e;unfold hI;decide)⟩
 ·show (d.lg q).isSome=(setR h.rg r.base st rq).any fun r=>r.base==q
  rw [hp.lo q];unfold setR;rw [List.any_map];congr 1
  funext x
  show _=((if x.base=r.base then { x with st:=st,rq:=rq } else x:Rg9).base==q);rw [setR_base]
 obtain⟨x0,hx0,rfl⟩:=List.mem_map.1 hx;rw [setR_base]
 by_cases e:x0.base=r.base
 ·have:=hu x0 hx0 e;subst this;rw [if_pos rfl];exact⟨L,hL,hBL,hb⟩
 rw [if_neg e];obtain⟨g',a1,a2,a3⟩:=hp.lb x0 hx0;refine⟨g',a1,a2,?_⟩;rw [g.block _ (lt_blk a3) (fun e2=>by simp at e2;rw [e2] at a1;exact e (hp.li _ _ _ a1 hL))];exact a3
theorem Hp.cutR {B:Nat} {y:Ly} {d:Dy} {cf:Cf} {h:Hs} {W W':World} (hp:Hp B y d cf h W) (b:Nat) (hb:(d.lg b).isSome=true) (hnd:∃ r∈h.rg,r.base=b) (mr:Mr y.R (h.rg.length - 1) (upd d.lg b none) W') (mt:W.mapTurned W' y.R) (hlen:h.rg.length - 1≤(h.rg.filter fun x=>x.base≠b).length) :
  Hp B y { d with lg:=upd d.lg b none } cf { h with rg:=h.rg.filter fun x=>x.base≠b } W'∧Bi B W W':=by
 refine hp.turn mt _ (h.rg.filter fun x=>x.base≠b) ?_ (fun k=>?_) (fun r' hr'=>?_) (fun k k' g h1 h2=>?_)
 ·obtain⟨D,h1,h2,h3⟩:=mr.map;exact⟨D,h1,Nat.le_trans h2 hlen,h3⟩
 ·by_cases e:k=b
  ·subst e;rw [upd_same];simp
  rw [upd_other _ _ _ _ e,hp.lo k,List.any_filter];congr 1
  funext x
  by_cases e2:x.base=k
  ·have:x.base≠b:=fun e3=>e (e2.symm.trans e3)
   simp [e2,e]
  simp [e2]
 ·obtain⟨h1,h2⟩:=List.mem_filter.1 hr';have hne:r'.base≠b:=by simpa using h2
  rw [upd_other _ _ _ _ hne];exact hp.lb r' h1
 have q:∀ k,upd d.lg b none k=some g→d.lg k=some g:=fun k hk=>by
  by_cases e:k=b
  ·subst e;rw [upd_same] at hk;cases hk
  rw [upd_other _ _ _ _ e] at hk;exact hk
 exact hp.li k k' g (q k h1) (q k' h2)
theorem app_us_at (W:World) (B:Nat) (v:Value) (l:List Nat) (x:Nat) (g c:Nat) (hown:W.ownsRow B 23 1 v l.length (Us l)) (hx:W.cell? ⟨g,0,none⟩=some (Vu (x:Nat))) (hl:l.length≤100000) (hB:B≤W.heap.size) :
  ∃ v' w',(Builtin.append_ #[35,35] 35 #[v,Vl g 1 c]).run Tryz.prog W=.ok v' w'∧w'.ownsRow B 23 1 v' (l++[x]).length (Us (l++[x]))∧W.grownBy w' v.ownBlock∧(v'.ownBlock=v.ownBlock∨v'.ownBlock=some W.heap.size):=by
 obtain⟨i0,hi0,hz0,hz1,hz2⟩:=info_parts info22;obtain⟨v',w',e1,e2,e3,_,e5⟩:=run_append_own_at (P:=Tryz.prog) W B 35 35 23 i0 _ 1 8 Tryz.underlying35 hi0 hz0 hz1 hz2 rfl (by omega) v _ _ hown ⟨g,0,none⟩ 1 c [Vu (x:Nat)] rfl (fun j u hj=>by
  cases j with
  | zero=>simp at hj;subst hj;rw [Addr.add_mid];exact hx
  | succ j=>simp at hj) (fun u hu=>by simp at hu;subst hu;rfl) (by unfold maxLen;omega) (by omega) hB
 exact⟨v',w',e1,by rw [List.length_append,Us_snoc];exact e2,e3,e5⟩
theorem cut_len {rg:List Rg9} (hp:rg.Pairwise fun a b=>a.first+a.ext≤b.first∨b.first+b.ext≤a.first) (b:Nat):rg.length - 1≤(rg.filter fun x=>x.base≠b).length:=by
 induction rg with
 | nil=>simp
 | cons r l ih =>
  obtain⟨h1,h2⟩:=List.pairwise_cons.1 hp
  by_cases e:r.base=b
  ·have:(l.filter fun x=>x.base≠b)=l:=by
    rw [List.filter_eq_self];intro x hx;have:=h1 x hx;have e1:x.ext=x.guards+x.pages+1:=rfl;have e2:r.ext=r.guards+r.pages+1:=rfl;have hne:x.base≠b:=fun e3=>by
     have e4:(r.first+r.guards)*1024=(x.first+x.guards)*1024:=e.trans e3.symm;omega
    simpa using hne
   rw [List.filter_cons_of_neg (by simp [e]),this];simp
  rw [List.filter_cons_of_pos (by simp [e])];have:=ih h2;simp only [List.length_cons];omega
end Go.Proofs.YtacccpkmgkojiaaGreatDoorRR
