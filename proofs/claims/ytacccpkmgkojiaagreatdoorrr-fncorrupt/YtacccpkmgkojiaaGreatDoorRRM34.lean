import Derived.Below
import Derived.BigGuardIn
import Derived.BigQuiet
import Derived.BigRegionIn
import Derived.Conc.MuLone
import Derived.Deep.AppendLies
import Derived.Deep.AppendSrc
import Derived.Deep.CutBlock
import Derived.Deep.DeepCutAuto
import Derived.Deep.LoopGhost
import Derived.Deep.MidRow
import Derived.Deep.OwnRows
import Derived.Deep.QuietTactic
import Derived.Deep.RegionHeld
import Derived.Deep.RegionLaw
import Derived.Deep.RegionWith
import Derived.Defers
import Derived.KernelRfl
import Derived.Laws.BytesString
import Derived.Laws.CopyOwn
import Derived.Laws.OwnMore
import Derived.Laws.Rows
import Derived.Laws.Tables
import Derived.Lib.SliceRun
import Derived.Lib.SmallJoins
import Derived.LoopIn
import Derived.LoopNIn
import Derived.Maps.AppendAt
import Derived.Maps.OwnOps
import Derived.Maps.OwnSet
import Derived.Maps.RangeWalk
import Derived.OpenShut
import Derived.OrdersHeld
import Derived.OwnWalkIn
import Derived.ProofKit
import Derived.RangeFuncBound
import Derived.RangeFuncCalls
import Derived.RangeFuncLeaves
import Derived.RangeFuncNested
import Derived.Recover
import Derived.Shelf.Abstract
import Derived.Shelf.Bits.Mul64
import Derived.Shelf.RegionOpen
import Derived.TacticsInMore
import Derived.Test.YtacccpkmgkojiaaGreatDoorRRProg
import Derived.WalkKit
import Derived.WalkLawsBesides
import Derived.Test.YtacccpkmgkojiaaGreatDoorRRM00
import Derived.Test.YtacccpkmgkojiaaGreatDoorRRM01
import Derived.Test.YtacccpkmgkojiaaGreatDoorRRM02
import Derived.Test.YtacccpkmgkojiaaGreatDoorRRM04
import Derived.Test.YtacccpkmgkojiaaGreatDoorRRM05
import Derived.Test.YtacccpkmgkojiaaGreatDoorRRM06
import Derived.Test.YtacccpkmgkojiaaGreatDoorRRM07
import Derived.Test.YtacccpkmgkojiaaGreatDoorRRM08
import Derived.Test.YtacccpkmgkojiaaGreatDoorRRM09
import Derived.Test.YtacccpkmgkojiaaGreatDoorRRM10
import Derived.Test.YtacccpkmgkojiaaGreatDoorRRM12
import Derived.Test.YtacccpkmgkojiaaGreatDoorRRM13
import Derived.Test.YtacccpkmgkojiaaGreatDoorRRM14
import Derived.Test.YtacccpkmgkojiaaGreatDoorRRM15
import Derived.Test.YtacccpkmgkojiaaGreatDoorRRM17
import Derived.Test.YtacccpkmgkojiaaGreatDoorRRM18
import Derived.Test.YtacccpkmgkojiaaGreatDoorRRM22
import Derived.Test.YtacccpkmgkojiaaGreatDoorRRM24
import Derived.Test.YtacccpkmgkojiaaGreatDoorRRM26
import Derived.Test.YtacccpkmgkojiaaGreatDoorRRM27
import Derived.Test.YtacccpkmgkojiaaGreatDoorRRM29
import Derived.Test.YtacccpkmgkojiaaGreatDoorRRM31
import Derived.Test.YtacccpkmgkojiaaGreatDoorRRM32
import Derived.Test.YtacccpkmgkojiaaGreatDoorRRM33
namespace Go.Proofs.YtacccpkmgkojiaaGreatDoorRR
set_option linter.unusedVariables false
set_option linter.unusedSimpArgs false
set_option maxRecDepth 20000
set_option maxHeartbeats 8000000
open Go.RowKit Go.Maps
def RuR (B:Nat) (y:Ly) (cf:Cf) (an:Value) (W:World) (r:An4×Hs) (e:Ending) (W':World):Prop:=∃ v,e=.returned (ansV r.1 v)∧W'.ownsRow W.heap.size 5 1 v r.1.data.length (Ns .u8 r.1.data)∧Hg B y cf r.2 an W'∧Bi B W W'
structure Lo (P X2 X3 X4:Nat) (op:Array Value) (V:World):Prop where
 x2:V.heap[X2]?=some (.cells #[Vp P 0] 77 (0,0))
 x3:V.heap[X3]?=some (.cells op 42 (0,0))
 x4:V.heap[X4]?=some (.cells #[Vi 0,Vu 0,Vi 0,Vn] 49 (0,0))
theorem Lo.bi {B P X2 X3 X4:Nat} {op:Array Value} {V V':World} (l:Lo P X2 X3 X4 op V) (b:Bi B V V'):Lo P X2 X3 X4 op V' :=
 ⟨b.ky.cells _ _ _ _ l.x2 (by unfold hI;decide),b.ky.cells _ _ _ _ l.x3 (by unfold hI;decide),b.ky.cells _ _ _ _ l.x4 (by unfold hI;decide)⟩
theorem Lo.below {P X2 X3 X4:Nat} {op:Array Value} {V V':World} (l:Lo P X2 X3 X4 op V) (b:Below V.heap.size V V'):Lo P X2 X3 X4 op V' :=
 ⟨below_at l.x2 b,below_at l.x3 b,below_at l.x4 b⟩
theorem three_below (W:World) (P:Nat) (op:Array Value):Below W.heap.size W (three W P op) :=
 (((Below.refl _ _).alloc (Nat.le_refl _) _).alloc (by rw [al_size];omega) _).alloc (by rw [al_size,al_size];omega) _
theorem three_lo (W:World) (P:Nat) (op:Array Value):Lo P W.heap.size (W.heap.size+1) (W.heap.size+1+1) op (three W P op):=by
 have e1:=al_size W (.cells #[Vp P 0] 77);have e2:=al_size (W.alloc (.cells #[Vp P 0] 77)) (.cells op 42);refine⟨?_,?_,?_⟩
 ·unfold three;rw [al_old _ _ _ (by rw [e2,e1];omega),al_old _ _ _ (by rw [e1];omega)];exact al_last _ _
 ·unfold three;rw [al_old _ _ _ (by rw [e2,e1];omega),←e1];exact al_last _ _
 unfold three;rw [←e1,←e2];exact al_last _ _
theorem Bi.loc9 {B R:Nat} {W V V':World} (k:Bi B W V) (g:V.grownBy V' (some R)) (hR:W.heap.size≤R) (hB:B≤W.heap.size):Bi B W V':=by
 have hs:=k.bel.size;refine⟨k.bel.grown g (by omega) (fun r hr=>by simp at hr;omega),g.os.trans k.ky.os,g.tape.trans k.ky.tape,g.output.trans k.ky.output,Nat.le_trans k.ky.size g.size,fun x c t f h1 h2=>?_⟩;have h3:=k.ky.cells x c t f h1 h2;have:=lt_blk h1;rw [g.block x (by omega) (by simp;omega)];exact h3
theorem Hp.set81 {B:Nat} {y:Ly} {d:Dy} {cf:Cf} {h:Hs} {V:World} (hp:Hp B y d cf h V) {X:Nat} {c:Array Value} (x4:V.heap[X]?=some (.cells c 49 (0,0))) (hX:B≤X) (cs:Array Value):Hp B y d cf h (V.setRow X cs):=by
 have g:=grown_setRow V X cs;refine hp.keep ⟨Ky.grown x4 (by decide) g,?_,?_⟩ ((Below.refl B V).grown g hp.bW (fun r hr=>by simp at hr;omega))
 ·obtain⟨D,⟨es,c2,h2,_⟩,_⟩:=hp.sp.map;exact g.block _ (lt_blk h2) (fun e=>by simp at e;rw [←e,h2] at x4;cases x4)
 obtain⟨es,c2,h2⟩:=hp.mp.typ;exact g.block _ (lt_blk h2) (fun e=>by simp at e;rw [←e,h2] at x4;cases x4)
theorem Hg.set81 {B:Nat} {y:Ly} {cf:Cf} {h:Hs} {an:Value} {V:World} (hg:Hg B y cf h an V) {X:Nat} {c:Array Value} (x4:V.heap[X]?=some (.cells c 49 (0,0))) (hX:B≤X) (cs:Array Value):Hg B y cf h an (V.setRow X cs):=by
 obtain⟨d,h1,h2⟩:=hg;exact⟨d,h1.set81 x4 hX cs,h2⟩
theorem TaR.sz {B:Nat} {y:Ly} {cf:Cf} {an:Value} {lg:Nat→Option Nat} {r:Option Nat×Hs} {e:Ending} {W':World} (t:TaR B y cf an lg r e W'):SzR B y cf an (malA r.1,r.2) e W':=by
 rcases t.ob with ⟨e1,rfl,tk⟩|⟨q,v,d1,e1,rfl,ob,hp1,gd1,_⟩
 ·rw [e1];exact .no 1 _ _ tk
 rw [e1];exact .yes q v d1 _ _ ob hp1 gd1
theorem SzR.split {B:Nat} {y:Ly} {cf:Cf} {an:Value} {res:An4×Hs} {e:Ending} {V:World} (s:SzR B y cf an res e V):(∃ code h1,res=(.no code,h1)∧e=.panicked (refV code)∧Tk B y cf h1 an V)∨∃ q v d1 h1,res=(⟨0,q,0,[]⟩,h1)∧e=.returned v∧Ob B y d1 cf h1 q v∧Hp B y d1 cf h1 V∧Gd d1 h1 an:=by
 cases s with
 | yes q v d h1 _ ob hp gd=>exact .inr ⟨q,v,d,h1,rfl,rfl,ob,hp,gd⟩
 | no code h1 _ tk=>exact .inl ⟨code,h1,rfl,rfl,tk⟩
theorem tgt_lt {an:List An4} {o:Op6} {q:Nat} (ho:o.p < 18446744073709551616) (h:tgtM an o=some q):q < 18446744073709551616:=by
 unfold tgtM at h
 split at h
 ·cases h;exact ho
 split at h
 ·cases h
 cases h;exact Nat.mod_lt _ (by decide)
def Qf9 (P X2 X3 X4:Nat) (op:Array Value) (W V:World):Prop:=Below W.heap.size W V∧Lo P X2 X3 X4 op V
def Nf9 (B:Nat) (y:Ly) (cf:Cf) (an:Value) (res:An4×Hs) (X2 X3 X4:Nat) (op:Array Value) (W:World) (code:Int) (V:World):Prop:=∃ h1,res=(.no code,h1)∧Tk B y cf h1 an V∧Lo y.P X2 X3 X4 op V∧Bi B W V
def opA (o:Op6) (dd:Option Addr) (dc:Nat):Array Value:=#[Vi o.kd,Vi o.ref,Vu (o.p:Nat),Vu (o.a:Nat),Vu (o.b:Nat),.slice dd o.ys.length dc]
theorem run_frame (B:Nat) (y:Ly) (cf:Cf) (an:Value) (res:An4×Hs) (o:Op6) (dd:Option Addr) (dc:Nat) (W:World) (hB:B≤W.heap.size) :
  Rn9 y.P W.heap.size (W.heap.size+1) (W.heap.size+1+1) o.kd o.ref o.p o.a o.b dd o.ys.length dc (Qf9 y.P W.heap.size (W.heap.size+1) (W.heap.size+1+1) (opA o dd dc) W) (Nf9 B y cf an res W.heap.size (W.heap.size+1) (W.heap.size+1+1) (opA o dd dc) W) (RuR B y cf an W res):=by
 refine⟨fun V hV=>one_of hV.2.x2,fun V hV=>hV.2.x3,fun V hV=>hV.2.x4,fun V hV=>⟨hV.1.drew,hV.2.below (Below.refl _ _).drew⟩,fun V=>im_idle _ _ V,?_⟩;rintro code V ⟨h1,hres,tk,lo,bi⟩;refine (im_catch B y cf h1 an W.heap.size (W.heap.size+1+1) code V (one_of lo.x2) lo.x4 tk).mono ?_;rintro e u W' ⟨rfl,rfl,V1,V2,b1,hg,b2,rfl⟩;have x4:=((lo.below b1).bi b2).x4;refine⟨rfl,rfl,_,_,_,_,setRow_at x4 _,Vn,?_,?_,?_,?_⟩
 ·rw [hres];rfl
 ·rw [hres];exact own_none _ _
 ·rw [hres];exact hg.set81 x4 (by omega) _
 exact Bi.loc9 ((bi.add b1 (Nat.le_trans hB bi.bel.size)).trans b2) (grown_setRow _ _ _) (by omega) hB
theorem run_obj {B:Nat} {y:Ly} {cf:Cf} {an:Value} {res:An4×Hs} {o:Op6} {dd:Option Addr} {dc:Nat} {W V:World} {f:FuncId} {args:Array Value} (hB:B≤W.heap.size) (hV:Qf9 y.P W.heap.size (W.heap.size+1) (W.heap.size+1+1) (opA o dd dc) W V) (C:Calls Tryz.prog f args V (SzW B y cf an V res)) :
  Calls Tryz.prog f args V fun e V'=>(∃ code,e=.panicked (caught code)∧Nf9 B y cf an res W.heap.size (W.heap.size+1) (W.heap.size+1+1) (opA o dd dc) W code V')∨∃ t g fb,e=.returned (.iface t (Vp g 0))∧(t=164∧fb=100∨t=175∧fb=133)∧(fun t g fb V'=>∃ d1,Ob B y d1 cf res.2 res.1.addr (.iface t (Vp g 0))∧(t=164∧fb=100∨t=175∧fb=133)∧Hp B y d1 cf res.2 V'∧Gd d1 res.2 an∧Lo y.P W.heap.size (W.heap.size+1) (W.heap.size+1+1) (opA o dd dc) V'∧Bi B W V'∧res.1=⟨0,res.1.addr,0,[]⟩) t g fb V':=by
 refine C.mono ?_;rintro e V' ⟨sz,bi⟩;have b9:Bi B W V':=(Bi.ofBelow hV.1 hB).trans bi
 rcases sz.split with ⟨code,h1,hres,rfl,tk⟩|⟨q,v,d1,h1,hres,rfl,ob,hp1,gd1⟩
 ·exact .inl ⟨code,rfl,h1,hres,tk,hV.2.bi bi,b9⟩
 obtain⟨t,g,fb,rfl,ht⟩:=ob.shape;refine .inr ⟨t,g,fb,rfl,ht,d1,?_⟩;rw [hres];exact⟨ob,ht,hp1,gd1,hV.2.bi bi,b9,rfl⟩
theorem run_end {B:Nat} {y:Ly} {cf:Cf} {an:Value} {r:An4} {h1:Hs} {X2 X3 X4:Nat} {op:Array Value} {W V:World} {v:Value} (hB:B≤W.heap.size) (hX:W.heap.size≤X4) (hg:Hg B y cf h1 an V) (lo:Lo y.P X2 X3 X4 op V) (bi:Bi B W V) (ow:V.ownsRow W.heap.size 5 1 v r.data.length (Ns .u8 r.data)) (cs:Array Value) :
  RuR B y cf an W (r,h1) (.returned (ansV r v)) (V.setRow X4 cs) :=
 ⟨v,rfl,own_ky ow (Ky.grown lo.x4 rfl (grown_setRow V X4 cs):Ky (· = 49) V _) (by decide),hg.set81 lo.x4 (by omega) cs,Bi.loc9 bi (grown_setRow _ _ _) hX hB⟩
theorem doM_0 (cf:Cf) (h:Hs) (o:Op6) (p:Nat) (k:o.kd=0):doM cf h o p=(malA (mallocM cf h o.a).1,(mallocM cf h o.a).2):=by
 unfold doM;dsimp only;rw [if_pos k]
 cases mallocM cf h o.a with
 | mk x h1=>cases x <;> rfl
theorem doM_1 (cf:Cf) (h:Hs) (o:Op6) (p:Nat) (k:o.kd=1):doM cf h o p=(malA (prodM cf h o.a o.b).1,(prodM cf h o.a o.b).2):=by
 unfold doM prodM;dsimp only;rw [if_neg (by omega),if_pos k]
 split
 ·rfl
 cases mallocM cf h (o.a*o.b) with
 | mk x h1=>cases x <;> rfl
theorem doM_2 (cf:Cf) (h:Hs) (o:Op6) (p:Nat) (k:o.kd=2):doM cf h o p=reallocM cf h p o.a:=by
 unfold doM;dsimp only;rw [if_neg (by omega),if_neg (by omega),if_pos k]
theorem doM_3 (cf:Cf) (h:Hs) (o:Op6) (p:Nat) (k:o.kd=3):doM cf h o p=match wholeFd cf h (findM h p) with
  | .no code=>(.no code,h)
  | .slot c s j=>(.no 0,freeSlot cf h c s j)
  | .range r=>(.no 0,freeRange cf h r):=by
 unfold doM;dsimp only;rw [if_neg (by omega),if_neg (by omega),if_neg (by omega),if_pos k]
 cases findM h p with
 | no code=>rfl
 | range r=>rfl
 | slot c s j =>
  unfold wholeFd;dsimp only
  cases sound cf h c s j <;> rfl
theorem doM_4 (cf:Cf) (h:Hs) (o:Op6) (p:Nat) (k:o.kd=4):doM cf h o p=match findM h p with
  | .no code=>(.no code,h)
  | .slot c s j=>(⟨0,0,usN c,[]⟩,h)
  | .range r=>(⟨0,0,r.pages*1024,[]⟩,h):=by
 unfold doM;dsimp only;rw [if_neg (by omega),if_neg (by omega),if_neg (by omega),if_neg (by omega),if_pos k]
 cases findM h p <;> rfl
theorem doM_5 (cf:Cf) (h:Hs) (o:Op6) (p:Nat) (k:o.kd=5):doM cf h o p=(if 4096 < o.a then (.no 6,h) else (⟨accC h.m p (o.a:Int),0,0,if accC h.m p (o.a:Int)=0 then loadB h.m p o.a else []⟩,h)):=by
 unfold doM;dsimp only;rw [if_neg (by omega),if_neg (by omega),if_neg (by omega),if_neg (by omega),if_neg (by omega),if_pos k]
theorem doM_6 (cf:Cf) (h:Hs) (o:Op6) (p:Nat) (k:o.kd=6):doM cf h o p=(.no (accC h.m p (o.ys.length:Int)),{ h with m:=if accC h.m p (o.ys.length:Int)=0 then storeM h.m p o.ys o.ys.length else h.m }):=by
 unfold doM;dsimp only;rw [if_neg (by omega),if_neg (by omega),if_neg (by omega),if_neg (by omega),if_neg (by omega),if_neg (by omega),if_pos k]
theorem doM_7 (cf:Cf) (h:Hs) (o:Op6) (p:Nat) (k0:¬o.kd=0) (k1:¬o.kd=1) (k2:¬o.kd=2) (k3:¬o.kd=3) (k4:¬o.kd=4) (k5:¬o.kd=5) (k6:¬o.kd=6):doM cf h o p=(.no 6,h):=by
 unfold doM;dsimp only;rw [if_neg k0,if_neg k1,if_neg k2,if_neg k3,if_neg k4,if_neg k5,if_neg k6]
theorem accC_far (m:Nat→Option (Bool×List Int)) (a:Nat):accC m a ((4097:Nat):Int)=6:=by
 unfold accC;simp
theorem own_mono9 {W:World} {B B':Nat} {e:TypeId} {sz:Nat} {v:Value} {n:Nat} {xs:List Value} (h:W.ownsRow B e sz v n xs) (hb:B'≤B):W.ownsRow B' e sz v n xs:=by
 refine⟨h.1,?_⟩
 rcases h.2 with h2|⟨g,cap,cur,h1,h2,h3⟩
 ·exact .inl h2
 exact .inr ⟨g,cap,cur,h1,Nat.le_trans hb h2,h3⟩
theorem im_run (B B':Nat) (y:Ly) (d:Dy) (cf:Cf) (h:Hs) (k:Nat) (l:List Aw) (va:Option Addr) (vn vc:Nat) (o:Op6) (dd:Option Addr) (dc:Nat) (W:World) (hp:Hp B y d cf h W) (gd:Gd d h (.slice va vn vc)) (ok:Okh cf h k) (hk:k≤301) (hA:Ans9 B' W l (.slice va vn vc)) (hop:o.p < 18446744073709551616) (hoa:o.a < 18446744073709551616) (hob:o.b < 18446744073709551616) (hr1 : -9223372036854775808≤o.ref) (hdc:o.ys.length≤dc) (da:Da y.S y.M d.f W dd o.ys.length o.ys) :
  Calls Tryz.prog 38 #[Vp y.P 0,opV6 o dd dc] W (RuR B y cf (.slice va vn vc) W (stepH cf h (l.map (·.1)) o)):=by
 have hB:=hp.bW;have hrl:h.rel.length≤100000:=by have:=ok.few.rel;omega
 have h0:Qf9 y.P W.heap.size (W.heap.size+1) (W.heap.size+1+1) (opA o dd dc) W (three W y.P (opA o dd dc)):=⟨three_below _ _ _,three_lo _ _ _⟩;have TG:∀ V,Qf9 y.P W.heap.size (W.heap.size+1) (W.heap.size+1+1) (opA o dd dc) W V→Calls Tryz.prog 63 #[Vp y.P 0,.agg (opA o dd dc)] V (TgtR V (tgtM (l.map (·.1)) o)):=fun V hV =>
  im_target B' y.P o dd o.ys.length dc l va vn vc V ((hp.below hV.1).cell 119 (by omega) _ gd.an) ⟨own_bel hA.row hV.1,hA.len⟩ hop hr1
 have HV:=fun V (hV:Qf9 y.P W.heap.size (W.heap.size+1) (W.heap.size+1+1) (opA o dd dc) W V)=>hp.below hV.1
 rw [stepH_tgt]
 cases htg:tgtM (l.map (·.1)) o with
 | none =>
  refine im_runT y.P _ _ _ o.kd o.ref o.p o.a o.b dd o.ys.length dc W _ _ _ (run_frame B y cf (.slice va vn vc) (.no 6,h) o dd dc W hB) rfl rfl rfl h0 ?_;intro V hV;refine (TG V hV).mono ?_;rintro e V' ⟨b,⟨p,e1,_⟩|⟨_,rfl⟩⟩
  ·rw [htg] at e1;cases e1
  exact⟨rfl,h,rfl,Hg.tk ⟨d,(HV V hV).below b,gd⟩,hV.2.below b,(Bi.ofBelow hV.1 hB).add b (HV V hV).bW⟩
 | some q =>
  dsimp only;have hq:=tgt_lt hop htg;have TQ:∀ V,Qf9 y.P W.heap.size (W.heap.size+1) (W.heap.size+1+1) (opA o dd dc) W V→Calls Tryz.prog 63 #[Vp y.P 0,.agg (opA o dd dc)] V fun e V'=>e=.returned (Vu (q:Nat))∧Qf9 y.P W.heap.size (W.heap.size+1) (W.heap.size+1+1) (opA o dd dc) W V':=fun V hV=>by
   refine (TG V hV).mono ?_;rintro e V' ⟨b,⟨p,e1,rfl⟩|⟨e1,_⟩⟩
   ·rw [htg] at e1;cases e1;exact⟨rfl,hV.1.trans (b.mono hV.1.size),hV.2.below b⟩
   rw [htg] at e1;cases e1
  have hinv:=(ok.inv.do ok.dok.fifo1 ok.few o q).1;have NO:∀ (res:An4×Hs) code V V',Qf9 y.P W.heap.size (W.heap.size+1) (W.heap.size+1+1) (opA o dd dc) W V→res=(.no code,h)→(∃ f',Hp B y { d with f:=f' } cf h V')→Bi B V V'→Nf9 B y cf (.slice va vn vc) res W.heap.size (W.heap.size+1) (W.heap.size+1+1) (opA o dd dc) W code V':=fun res code V V' hV hres ⟨f',hf⟩ bi =>
   ⟨h,hres,Hg.tk ⟨_,hf,gd.fr f'⟩,hV.2.bi bi,(Bi.ofBelow hV.1 hB).trans bi⟩
  obtain⟨res,hres⟩:∃ res,doM cf h o q=res:=⟨_,rfl⟩;rw [hres] at hinv ⊢;have RF:=run_frame B y cf (.slice va vn vc) res o dd dc W hB;have OBJ:∀ V:World,(∃ t g fb d1,Ob B y d1 cf res.2 res.1.addr (.iface t (Vp g 0))∧(t=164∧fb=100∨t=175∧fb=133)∧Hp B y d1 cf res.2 V∧Gd d1 res.2 (.slice va vn vc)∧Lo y.P W.heap.size (W.heap.size+1) (W.heap.size+1+1) (opA o dd dc) V∧Bi B W V∧res.1=⟨0,res.1.addr,0,[]⟩)→V.heap[W.heap.size+1+1]?=some (.cells #[Vi 0,Vu 0,Vi 0,Vn] 49 (0,0))∧RuR B y cf (.slice va vn vc) W res (.returned (.agg #[Vi 0,Vu (res.1.addr:Nat),Vi 0,Vn])) (V.setRow (W.heap.size+1+1) #[Vi 0,Vu (res.1.addr:Nat),Vi 0,Vn]):=by
   rintro V ⟨t,g,fb,d1,ob,ht,hp1,gd1,lo,bi,he⟩;refine⟨lo.x4,?_⟩;have:=run_end (r:=⟨0,res.1.addr,0,[]⟩) hB (show W.heap.size≤W.heap.size+1+1 by omega) ⟨d1,hp1,gd1⟩ lo bi (own_none V W.heap.size) #[Vi 0,Vu (res.1.addr:Nat),Vi 0,Vn];obtain⟨⟨c9,a9,s9,y9⟩,h9⟩:=res
   cases he
   exact this
  by_cases k0:o.kd=0
  ·have e0:res=(malA (mallocM cf h o.a).1,(mallocM cf h o.a).2):=by rw [←hres,doM_0 cf h o q k0]
   refine im_run0 y.P _ _ _ o.kd o.ref o.p o.a o.b dd o.ys.length dc q res.1.addr _ (fun V=>∃ t g fb d1,Ob B y d1 cf res.2 res.1.addr (.iface t (Vp g 0))∧(t=164∧fb=100∨t=175∧fb=133)∧Hp B y d1 cf res.2 V∧Gd d1 res.2 (.slice va vn vc)∧Lo y.P W.heap.size (W.heap.size+1) (W.heap.size+1+1) (opA o dd dc) V∧Bi B W V∧res.1=⟨0,res.1.addr,0,[]⟩) W _ _ _ RF rfl rfl rfl h0 k0 TQ (fun V hV=>run_obj hB hV ((im_take B y d cf h k _ o.a V (HV V hV) gd ok hoa).mono fun e V' t=>by rw [e0];exact⟨t.1.sz,t.2⟩)) ?_ OBJ;rintro t g fb V ⟨d1,ob,ht,hp1,gd1,lo,bi,he⟩;refine (ob.base ht hp1 hinv).mono ?_;rintro e V' ⟨rfl,b⟩;exact⟨rfl,t,g,fb,d1,ob,ht,hp1.below b,gd1,lo.below b,bi.add b hp1.bW,he⟩
  by_cases k1:o.kd=1
  ·have e0:res=(malA (prodM cf h o.a o.b).1,(prodM cf h o.a o.b).2):=by rw [←hres,doM_1 cf h o q k1]
   refine im_run1 y.P _ _ _ o.kd o.ref o.p o.a o.b dd o.ys.length dc q res.1.addr _ (fun V=>∃ t g fb d1,Ob B y d1 cf res.2 res.1.addr (.iface t (Vp g 0))∧(t=164∧fb=100∨t=175∧fb=133)∧Hp B y d1 cf res.2 V∧Gd d1 res.2 (.slice va vn vc)∧Lo y.P W.heap.size (W.heap.size+1) (W.heap.size+1+1) (opA o dd dc) V∧Bi B W V∧res.1=⟨0,res.1.addr,0,[]⟩) W _ _ _ RF rfl rfl rfl h0 k1 TQ (fun V hV=>run_obj hB hV ((im_takeProduct B y d cf h k _ o.a o.b V (HV V hV) gd ok hoa hob).mono fun e V' t=>by rw [e0];exact⟨t.1.sz,t.2⟩)) ?_ OBJ;rintro t g fb V ⟨d1,ob,ht,hp1,gd1,lo,bi,he⟩;refine (ob.base ht hp1 hinv).mono ?_;rintro e V' ⟨rfl,b⟩;exact⟨rfl,t,g,fb,d1,ob,ht,hp1.below b,gd1,lo.below b,bi.add b hp1.bW,he⟩
  by_cases k2:o.kd=2
  ·have e0:res=reallocM cf h q o.a:=by rw [←hres,doM_2 cf h o q k2]
   refine im_run2 y.P _ _ _ o.kd o.ref o.p o.a o.b dd o.ys.length dc q res.1.addr _ (fun V=>∃ t g fb d1,Ob B y d1 cf res.2 res.1.addr (.iface t (Vp g 0))∧(t=164∧fb=100∨t=175∧fb=133)∧Hp B y d1 cf res.2 V∧Gd d1 res.2 (.slice va vn vc)∧Lo y.P W.heap.size (W.heap.size+1) (W.heap.size+1+1) (opA o dd dc) V∧Bi B W V∧res.1=⟨0,res.1.addr,0,[]⟩) W _ _ _ RF rfl rfl rfl h0 k2 TQ (fun V hV=>run_obj hB hV (by rw [e0];exact im_resize B y d cf h k _ q o.a V (HV V hV) gd ok hk hq hoa)) ?_ OBJ;rintro t g fb V ⟨d1,ob,ht,hp1,gd1,lo,bi,he⟩;refine (ob.base ht hp1 hinv).mono ?_;rintro e V' ⟨rfl,b⟩;exact⟨rfl,t,g,fb,d1,ob,ht,hp1.below b,gd1,lo.below b,bi.add b hp1.bW,he⟩
  by_cases k3:o.kd=3
  ·have e0:res=match wholeFd cf h (findM h q) with
     | .no code=>(.no code,h)
     | .slot c s j=>(.no 0,freeSlot cf h c s j)
     | .range r=>(.no 0,freeRange cf h r):=by rw [←hres,doM_3 cf h o q k3]
   have seen:=find_seen h q;refine im_run3 y.P _ _ _ o.kd o.ref o.p o.a o.b dd o.ys.length dc q
    (fun v V=>∃ f' fd,LkR y d fd (.returned v)∧wholeFd cf h (findM h q)=fd∧Hp B y { d with f:=f' } cf h V∧Lo y.P W.heap.size (W.heap.size+1) (W.heap.size+1+1) (opA o dd dc) V∧Bi B W V)
    (fun V=>res.1=.no 0∧Hg B y cf res.2 (.slice va vn vc) V∧Lo y.P W.heap.size (W.heap.size+1) (W.heap.size+1+1) (opA o dd dc) V∧Bi B W V) W _ _ _ RF rfl rfl rfl h0 k3 TQ ?_ ?_ ?_
   ·intro V hV;refine (im_intact B y d cf h q V (HV V hV) ok.inv ok.byt hq hrl ok.dok.key0 ok.dok.key1).mono ?_;rintro e V' ⟨f',lk,hf,bi⟩;have b9:Bi B W V':=(Bi.ofBelow hV.1 hB).trans bi;obtain⟨fd,hfd⟩:∃ fd,wholeFd cf h (findM h q)=fd:=⟨_,rfl⟩;rw [hfd] at lk e0
    cases lk with
    | no code=>exact .inl ⟨code,rfl,NO res code V V' hV e0 ⟨f',hf⟩ bi⟩
    | slot c s j=>exact .inr ⟨_,rfl,one_of (hV.2.bi bi).x2,f',_,.slot c s j,hfd,hf,hV.2.bi bi,b9⟩
    | range r g hg=>exact .inr ⟨_,rfl,one_of (hV.2.bi bi).x2,f',_,.range r g hg,hfd,hf,hV.2.bi bi,b9⟩
   ·rintro v V ⟨f',fd,lk,hfd,hf,lo,bi⟩;rw [hfd] at e0;have gdf:=gd.fr f'
    cases lk with
    | slot c s j =>
     have sn:c < 12∧s < 6∧j < slN c∧h.st c s j=1:=by
      cases hff:findM h q with
      | no code=>rw [hff] at hfd;cases hfd
      | range r=>rw [hff] at hfd;cases hfd
      | slot c' s' j' =>
       rw [hff] at hfd seen;unfold wholeFd at hfd;dsimp only at hfd
       split at hfd
       ·cases hfd
        cases seen with
        | slot _ _ _ h1 h2 h3 h4 h5=>exact ⟨h1,h2,h3,h5⟩
       cases hfd
     refine (im_release_s B y _ cf h k _ c s j V hf gdf ok sn.1 sn.2.1 sn.2.2.1 sn.2.2.2).mono ?_;rintro e V' ⟨rfl,⟨d9,hp9,gd9,_⟩,b9⟩;rw [e0];exact⟨rfl,one_of (lo.bi b9).x2,rfl,⟨d9,hp9,gd9⟩,lo.bi b9,bi.trans b9⟩
    | range r g hg =>
     have sn:r∈h.rg∧r.st=1:=by
      cases hff:findM h q with
      | no code=>rw [hff] at hfd;cases hfd
      | slot c s j =>
       rw [hff] at hfd;unfold wholeFd at hfd;dsimp only at hfd
       split at hfd <;> cases hfd
      | range r' =>
       rw [hff] at hfd seen
       cases hfd
       cases seen with
       | range _ h1 h2 h3=>exact ⟨h1,h3⟩
     refine (im_release_l B y _ cf h k _ r g V hf gdf ok sn.1 sn.2 hg).mono ?_;rintro e V' ⟨rfl,⟨d9,hp9,gd9,_⟩,b9⟩;rw [e0];exact⟨rfl,one_of (lo.bi b9).x2,rfl,⟨d9,hp9,gd9⟩,lo.bi b9,bi.trans b9⟩
   rintro V ⟨e1,hg,lo,bi⟩;refine⟨lo.x4,?_⟩;have:=run_end (r:=.no 0) hB (show W.heap.size≤W.heap.size+1+1 by omega) hg lo bi (own_none V W.heap.size) #[Vi 0,Vu 0,Vi 0,Vn];obtain⟨r9,h9⟩:=res
   cases e1
   exact this
  by_cases k4:o.kd=4
  ·have e0:res=match findM h q with
     | .no code=>(.no code,h)
     | .slot c s j=>(⟨0,0,usN c,[]⟩,h)
     | .range r=>(⟨0,0,r.pages*1024,[]⟩,h):=by rw [←hres,doM_4 cf h o q k4]
   have seen:=find_seen h q;refine im_run4 y.P _ _ _ o.kd o.ref o.p o.a o.b dd o.ys.length dc q res.1.size
    (fun t g fb V=>Below W.heap.size W V∧Lo y.P W.heap.size (W.heap.size+1) (W.heap.size+1+1) (opA o dd dc) V∧res=(⟨0,0,res.1.size,[]⟩,h)∧Calls Tryz.prog fb #[Vp g 0] V fun e V'=>e=.returned (Vi (res.1.size:Nat))∧V'=V)
    (fun V=>Below W.heap.size W V∧Lo y.P W.heap.size (W.heap.size+1) (W.heap.size+1+1) (opA o dd dc) V∧res=(⟨0,0,res.1.size,[]⟩,h)) W _ _ _ RF rfl rfl rfl h0 k4 TQ ?_ ?_ ?_
   ·intro V hV;refine (im_lookUp B y d cf h q V (HV V hV) ok.inv hq hrl).mono ?_;rintro e V' ⟨lk,b⟩;have bB:Below W.heap.size W V':=hV.1.trans (b.mono hV.1.size);have hpV:=hp.below bB
    cases hfd:findM h q with
    | no code =>
     rw [hfd] at lk e0
     cases lk
     exact .inl ⟨code,rfl,NO res code V V' hV e0 ⟨d.f,hpV⟩ (Bi.ofBelow b (HV V hV).bW)⟩
    | slot c s j =>
     rw [hfd] at lk e0 seen
     cases lk
     cases seen with
     | slot _ _ _ hc hs hj _ _ =>
     refine .inr ⟨164,_,141,rfl,.inl ⟨rfl,rfl⟩,bB,hV.2.below b,by rw [e0],?_⟩;rw [e0];exact im_susable _ _ c s j V' (hpV.scAt c s j hc hs hj)
    | range r =>
     rw [hfd] at lk e0 seen
     cases lk with
     | range _ g hg =>
     cases seen with
     | range _ hr hb hl =>
     obtain⟨r1,r2,r3,r4,r5,r6⟩:=ok.inv.rgs r hr;have hex:r.ext=r.guards+r.pages+1:=rfl;refine .inr ⟨175,_,267,rfl,.inr ⟨rfl,rfl⟩,bB,hV.2.below b,by rw [e0],?_⟩;rw [e0];exact im_lusable g r V' (hpV.lcOf ok.inv hr hg) (by omega)
   ·rintro t g fb V ⟨bB,lo,e1,C⟩;refine C.mono ?_;rintro e V' ⟨rfl,rfl⟩;exact⟨rfl,bB,lo,e1⟩
   rintro V ⟨bB,lo,e1⟩;refine⟨lo.x4,?_⟩;have:=run_end (r:=⟨0,0,res.1.size,[]⟩) hB (show W.heap.size≤W.heap.size+1+1 by omega) ⟨d,hp.below bB,gd⟩ lo (Bi.ofBelow bB hB) (own_none V W.heap.size) #[Vi 0,Vu 0,Vi (res.1.size:Nat),Vn];rw [←e1] at this;exact this
  by_cases k5:o.kd=5
  ·have e0:res=(if 4096 < o.a then (.no 6,h) else (⟨accC h.m q (o.a:Int),0,0,if accC h.m q (o.a:Int)=0 then loadB h.m q o.a else []⟩,h)):=by rw [←hres,doM_5 cf h o q k5]
   refine im_run5 y.P _ _ _ o.kd o.ref o.p o.a o.b dd o.ys.length dc q
    (fun v V=>(∃ f',Hp B y { d with f:=f' } cf h V)∧Lo y.P W.heap.size (W.heap.size+1) (W.heap.size+1+1) (opA o dd dc) V∧Bi B W V∧res=(⟨0,0,0,res.1.data⟩,h)∧V.ownsRow W.heap.size 5 1 v res.1.data.length (Ns .u8 res.1.data)) W _ _ _ RF rfl rfl rfl h0 k5 TQ ?_ ?_
   ·intro V hV;refine (im_hload B y d cf h q o.a V (HV V hV) ok.inv.out hq hoa).mono ?_;rintro e V' ⟨f',hf,bi,hc⟩;have b9:Bi B W V':=(Bi.ofBelow hV.1 hB).trans bi;have hle:W.heap.size≤V.heap.size:=hV.1.size
    by_cases hgt:4096 < o.a
    ·rw [if_pos hgt] at e0;rw [Nat.min_eq_right (show 4097≤o.a by omega),accC_far] at hc
     rcases hc with ⟨h1,_⟩|⟨_,rfl⟩
     ·cases h1
     exact .inl ⟨6,rfl,NO res 6 V V' hV e0 ⟨f',hf⟩ bi⟩
    rw [if_neg hgt] at e0;rw [Nat.min_eq_left (show o.a≤4097 by omega)] at hc
    rcases hc with ⟨h1,v,rfl,ow⟩|⟨h1,rfl⟩
    ·obtain⟨a9,n9,c9,rfl⟩:=own_sl4 ow;rw [if_pos h1] at e0 ow;rw [h1] at e0;refine .inr ⟨a9,n9,c9,rfl,⟨f',hf⟩,hV.2.bi bi,b9,by rw [e0],?_⟩;rw [e0];exact own_mono9 ow hle
    rw [if_neg h1] at e0;exact .inl ⟨_,rfl,NO res _ V V' hV e0 ⟨f',hf⟩ bi⟩
   rintro v V ⟨⟨f',hf⟩,lo,bi,e1,ow⟩;refine⟨lo.x4,?_⟩;have:=run_end (r:=⟨0,0,0,res.1.data⟩) hB (show W.heap.size≤W.heap.size+1+1 by omega) ⟨_,hf,gd.fr f'⟩ lo bi ow #[Vi 0,Vu 0,Vi 0,v];rw [←e1] at this;exact this
  by_cases k6:o.kd=6
  ·have e0:res=(.no (accC h.m q (o.ys.length:Int)),{ h with m:=if accC h.m q (o.ys.length:Int)=0 then storeM h.m q o.ys o.ys.length else h.m }):=by rw [←hres,doM_6 cf h o q k6]
   refine im_run6 y.P _ _ _ o.kd o.ref o.p o.a o.b dd o.ys.length dc q
    (fun V=>res.1=.no 0∧Hg B y cf res.2 (.slice va vn vc) V∧Lo y.P W.heap.size (W.heap.size+1) (W.heap.size+1+1) (opA o dd dc) V∧Bi B W V) W _ _ _ RF rfl rfl rfl h0 k6 TQ ?_ ?_
   ·intro V hV;refine (im_hstore B y d cf h q dd o.ys.length dc o.ys V (HV V hV) ok.inv.out hq (da.belowD hV.1) hdc).mono ?_;rintro e V' ⟨f',hf,bi,hc⟩;have b9:Bi B W V':=(Bi.ofBelow hV.1 hB).trans bi;have g9:Gd { d with f:=f' } { h with m:=if accC h.m q (o.ys.length:Int)=0 then storeM h.m q o.ys o.ys.length else h.m } (.slice va vn vc):=(gd.fr f').st (fun k=>by
     dsimp only
     split
     ·exact storeM_is _ _ _ _ _
     rfl)
    rcases hc with ⟨h1,rfl⟩|⟨h1,rfl⟩
    ·refine .inr ⟨rfl,?_⟩;rw [e0];exact⟨by rw [h1],⟨_,hf,g9⟩,hV.2.bi bi,b9⟩
    refine .inl ⟨_,rfl,_,e0,Hg.tk ⟨_,hf,g9⟩,hV.2.bi bi,b9⟩
   rintro V ⟨e1,hg,lo,bi⟩;refine⟨lo.x4,?_⟩;have:=run_end (r:=.no 0) hB (show W.heap.size≤W.heap.size+1+1 by omega) hg lo bi (own_none V W.heap.size) #[Vi 0,Vu 0,Vi 0,Vn];obtain⟨r9,h9⟩:=res
   cases e1
   exact this
  have e0:res=(.no 6,h):=by rw [←hres,doM_7 cf h o q k0 k1 k2 k3 k4 k5 k6]
  refine im_runN y.P _ _ _ o.kd o.ref o.p o.a o.b dd o.ys.length dc q W _ _ _ RF rfl rfl rfl h0 TQ (by omega) ?_;intro V hV;exact NO res 6 V V hV e0 ⟨d.f,HV V hV⟩ (Bi.refl _ _)
end Go.Proofs.YtacccpkmgkojiaaGreatDoorRR
namespace Go.Proofs.YtacccpkmgkojiaaGreatDoorRR
set_option linter.unusedVariables false
set_option linter.unusedSimpArgs false
set_option maxRecDepth 20000
set_option maxHeartbeats 8000000
open Go.RowKit Go.Maps
def slV (sm:Nat→Nat) (n:Nat):List Value:=(List.range n).map fun j=>Vp (sm j) 0
theorem slV_snoc (sm:Nat→Nat) (n x:Nat):slV (fun k=>if k=n then x else sm k) (n+1)=slV sm n++[Vp x 0]:=by
 unfold slV;rw [List.range_succ,List.map_append];congr 1
 ·refine List.map_congr_left fun k hk=>?_
  have:=List.mem_range.1 hk;have e:¬k=n:=by omega
  simp [e]
 simp
structure Sl9 (B g c s n:Nat) (sm:Nat→Nat) (v:Value) (W:World):Prop where
 box:W.heap[g]?=some (.cells #[Vi (c:Nat),Vi (s:Nat),.bool false,v] 163 (0,0))
 row:W.ownsRow B 164 1 v n (slV sm n)
 sms:∀ j,j < n→W.heap[sm j]?=some (.cells (smC 0 0 g j) 168 (0,0))∧B≤sm j
 inj:∀ i j,i < n→j < n→sm i=sm j→i=j
 bg:B≤g
theorem Sl9.ky {S:TypeId→Prop} {B g c s n:Nat} {sm:Nat→Nat} {v:Value} {W W':World} (h:Sl9 B g c s n sm v W) (k:Ky S W W') (h1:¬S 163) (h2:¬S 164) (h3:¬S 168):Sl9 B g c s n sm v W' :=
 ⟨k.cells _ _ _ _ h.box h1,own_ky h.row k h2,fun j hj=>⟨k.cells _ _ _ _ (h.sms j hj).1 h3,(h.sms j hj).2⟩,h.inj,h.bg⟩
theorem Sl9.below {B g c s n:Nat} {sm:Nat→Nat} {v:Value} {W W':World} (h:Sl9 B g c s n sm v W) (b:Below W.heap.size W W'):Sl9 B g c s n sm v W' :=
 h.ky (Ky.below b:Ky (fun _=>False) W W') (fun e=>e) (fun e=>e) (fun e=>e)
theorem Sl9.add {B g c s n:Nat} {sm:Nat→Nat} {v:Value} {V:World} (h:Sl9 B g c s n sm v V) (hB:B≤V.heap.size) (hn:n≤100) :
  ∃ v' w4,(Builtin.append_ #[161,161] 161 #[v,Vl (V.heap.size+1) 1 1]).run Tryz.prog ((V.alloc (.cells (smC 0 0 g n) 168)).alloc (.cells #[Vp V.heap.size 0] 164))=.ok v' w4∧w4.cell? ⟨g,3,none⟩=some v∧w4.frozen? ⟨g,3,none⟩=false∧Sl9 B g c s (n+1) (fun k=>if k=n then V.heap.size else sm k) v' (w4.setCell ⟨g,3,none⟩ v')∧Below B V (w4.setCell ⟨g,3,none⟩ v'):=by
 obtain⟨i0,hi0,hz0,hz1,hz2⟩:=info_parts info186;obtain⟨V1,hV1⟩:∃ V1,V1=V.alloc (.cells (smC 0 0 g n) 168):=⟨_,rfl⟩;obtain⟨V2,hV2⟩:∃ V2,V2=V1.alloc (.cells #[Vp V.heap.size 0] 164):=⟨_,rfl⟩;have s1:V1.heap.size=V.heap.size+1:=by rw [hV1];exact al_size _ _
 have b1:Below V.heap.size V V1:=by rw [hV1];exact (Below.refl _ _).alloc (Nat.le_refl _) _
 have b2:Below V1.heap.size V1 V2:=by rw [hV2];exact (Below.refl _ _).alloc (Nat.le_refl _) _
 have l1:V1.heap[V.heap.size]?=some (.cells (smC 0 0 g n) 168 (0,0)):=by rw [hV1];exact al_last _ _
 have l2:V2.heap[V.heap.size]?=some (.cells (smC 0 0 g n) 168 (0,0)):=below_at l1 b2;have l3:V2.heap[V.heap.size+1]?=some (.cells #[Vp V.heap.size 0] 164 (0,0)):=by rw [hV2,←s1];exact al_last _ _
 have h2:=(h.below b1).below b2;have hB2:B≤V2.heap.size:=Nat.le_trans (Nat.le_trans hB b1.size) b2.size;rw [←hV1,←hV2];obtain⟨v',w4,e4,o4,g4,_⟩:=run_append_own (P:=Tryz.prog) V2 B 161 161 164 i0 (.pointer none) 1 8 Tryz.underlying161 hi0 hz0 hz1 hz2 rfl (by omega) v n (slV sm n) h2.row ⟨V.heap.size+1,0,none⟩ 1 1 [Vp V.heap.size 0] rfl (fun j u hj=>by
  cases j with
  | zero=>simp at hj;subst hj;rw [Addr.add_mid];exact one_of l3
  | succ j=>simp at hj) (fun u hu=>by simp at hu;subst hu;rfl) (by unfold maxLen;omega) (by omega) hB2
 have k4:Ky (· = 164) V2 w4:=Ky.grownO (fun P hP=>by obtain ⟨_,c,hc⟩:=own_lt h2.row hP;exact⟨c,164,_,hc,rfl⟩) g4;have bx4:=k4.cells _ _ _ _ h2.box (by decide);have k5:Ky (· = 163) w4 (w4.setCell ⟨g,3,none⟩ v'):=Ky.grown bx4 rfl (grown_set (grown_refl w4 g) 3 v');refine⟨v',w4,e4,by simp [World.cell?,bx4],by simp [World.frozen?,bx4],⟨by simp [World.setCell,Array.getElem?_modify,bx4],?_,fun j hj=>?_,fun i j hi hj e=>?_,h.bg⟩,?_⟩
 ·rw [slV_snoc];exact own_ky o4 k5 (by decide)
 ·by_cases e:j=n
  ·rw [if_pos e,e];exact⟨k5.cells _ _ _ _ (k4.cells _ _ _ _ l2 (by decide)) (by decide),hB⟩
  rw [if_neg e];have:=h2.sms j (by omega);exact⟨k5.cells _ _ _ _ (k4.cells _ _ _ _ this.1 (by decide)) (by decide),this.2⟩
 ·by_cases e1:i=n
  ·by_cases e2:j=n
   ·omega
   rw [if_pos e1,if_neg e2] at e;have:=lt_blk (h.sms j (by omega)).1;omega
  by_cases e2:j=n
  ·rw [if_neg e1,if_pos e2] at e;have:=lt_blk (h.sms i (by omega)).1;omega
  rw [if_neg e1,if_neg e2] at e;exact h.inj i j (by omega) (by omega) e
 exact (((b1.mono hB).trans (b2.mono (Nat.le_trans hB b1.size))).grown g4 hB2 (fun P hP=>(own_lt h2.row hP).1)).setCell h.bg _
structure Slb (B:Nat) (W:World) (c s g r cap:Nat) (sm:Nat→Nat):Prop where
 box:W.heap[g]?=some (.cells (sbC c s false r (slN c) cap) 163 (0,0))
 row:RowV W r 164 ((List.range (slN c)).map fun j=>Vp (sm j) 0)
 sms:∀ j,j < slN c→W.heap[sm j]?=some (.cells (smC 0 0 g j) 168 (0,0))∧B≤sm j
 inj:∀ i j,i < slN c→j < slN c→sm i=sm j→i=j
 bg:B≤g
 br:B≤r
theorem Sl9.done {B g c s:Nat} {sm:Nat→Nat} {v:Value} {W:World} (h:Sl9 B g c s (slN c) sm v W) (hc:c < 12):∃ r cap,Slb B W c s g r cap sm:=by
 have hz:=szN_in hc
 rcases h.row.2 with ⟨_,h0⟩|⟨r,cap,cur,rfl,h1,h2,h3,h4,h5,h6⟩
 ·omega
 exact⟨r,cap,h.box,RowV.ofOwns h.row,h.sms,h.inj,h.bg,h1⟩
theorem im_newSlab (c s:Nat) (hc:c < 12) (W:World) (tb:Tb W) :
  Calls Tryz.prog 60 #[Vi (c:Nat),Vi (s:Nat)] W fun e W'=>∃ g r cap sm,e=.returned (Vp g 0)∧Slb W.heap.size W' c s g r cap sm∧Below W.heap.size W W':=by
 have hz:=szN_in hc;have SS:=hid (fun V (hV:Below W.heap.size W V)=>im_SlabSlots (c:Nat) V (tb.ofBelow hV));rw [sl_c hc] at SS;have HD:=hid (fun B g sm v V (h:Sl9 B g c s (slN c) sm v V)=>h.done hc);have N0:=hid (show Sl9 W.heap.size W.heap.size c s 0 (fun _=>0) (Vn) (W.alloc (.cells #[Vi (c:Nat),Vi (s:Nat),.bool false,Vn] 163)) from ⟨al_last W _,⟨rfl,.inl ⟨rfl,rfl⟩⟩,fun j hj=>by omega,fun i j hi=>by omega,Nat.le_refl _⟩);have b0:Below W.heap.size W (W.alloc (.cells #[Vi (c:Nat),Vi (s:Nat),.bool false,Vn] 163)):=(Below.refl _ _).alloc (Nat.le_refl _) _;have B0:=hid b0;clear b0 tb;have hle:slN c≤64:=by omega
 generalize slN c=n at *;clear hz;go_enter Tryz.func60,Tryz.ntmps60;go_wp2_with fail;refine (SS.out _ B0.out).mono ?_;rintro e V ⟨rfl,hVV⟩;rw [hVV];clear hVV V SS;generalize W.alloc (.cells #[Vi (c:Nat),Vi (s:Nat),.bool false,Vn] 163)=V0 at *;obtain⟨g,hg⟩:∃ g,g=W.heap.size:=⟨_,rfl⟩;rw [←hg];have N1:=hid (show Sl9 W.heap.size g c s 0 (fun _=>0) (Vn) V0 by rw [hg];exact N0.out);clear N0 hg;go_wp2;go_loopw [13] (fun i wr=>∃ (k:Nat) (sm:Nat→Nat) (v:Value),k≤n∧i=Vi k∧Hid (Sl9 W.heap.size g c s k sm v wr)∧Hid (Below W.heap.size W wr)) (fun i _=>n - (intOf i).toNat)
 case atStart=>exact ⟨0,_,_,Nat.zero_le _,rfl,N1,B0⟩
 case round =>
  clear N1 B0;obtain⟨k,sm,v,hk,rfl,HS,HB⟩:=hrel
  by_cases hlt:k < n
  ·obtain⟨va,vn,vc,rfl⟩:=own_sl4 HS.out.row;obtain⟨v',w4,happ,c3,f3,S4,b4⟩:=HS.out.add HB.out.size (by omega);obtain⟨wa,wn,wc,rfl⟩:=own_sl4 S4.row;have HN:=hid (And.intro S4 (HB.out.trans b4));have c30:wr.cell? ⟨g,3,none⟩=some (.slice va vn vc):=by simp [World.cell?,HS.out.box]
   clear S4 b4;unfold smC at happ;go_wp2_with (at_builtin;refine list_app rfl _ _ rfl rfl rfl rfl happ ?_);go_wp2;go_roundw
   case rel=>exact ⟨k+1,_,_,by omega,by go_num,hid HN.out.1,hid HN.out.2⟩
   case measure=>simp [intOf];omega
  obtain rfl:k=n:=by omega
  go_wp2;go_ret;obtain⟨r,cap,hd⟩:=HD.out _ _ _ _ _ HS.out;exact⟨g,r,cap,sm,rfl,hd,HB.out⟩
end Go.Proofs.YtacccpkmgkojiaaGreatDoorRR
namespace Go.Proofs.YtacccpkmgkojiaaGreatDoorRR
set_option linter.unusedVariables false
set_option linter.unusedSimpArgs false
set_option maxRecDepth 20000
set_option maxHeartbeats 8000000
open Go.RowKit Go.Maps
structure Sb9 where
 g:Nat
 r:Nat
 cap:Nat
 sm:Nat→Nat
structure Qb9 where
 m:Nat
 r:Nat
 g:Nat
 q:Nat
def qcN (mix:Nat) (q:Qb9) (k:Nat):Value:=if k=0 then Vp q.m 0 else if k=1 then Vp q.g 0 else if mix=0 then .iface 84 (Vp q.g 0) else .iface 83 (Vp q.m 0)
def boxN (cf:Cf) (da:Option Addr) (dc S R:Nat) (fl:Nat→Sb9) (qs:Nat→Qb9) (k w:Nat) (i:Nat):Value :=
 if i < 7 then ([Vi (cf.mix:Nat),Vi (cf.fifo:Nat),Vi (cf.large:Nat),Vi (cf.bud:Nat),Vu cf.key,.slice da cf.ds.length dc,Vp S 0]:List Value)[i]?.getD undef
 else if i < 79 then (if i - 7 < k then Vp ((fl (i - 7)).g) 0 else .pointer none)
 else if i < 115 then (if (i - 79)/3 < w then qcN cf.mix (qs ((i - 79)/3)) ((i - 79) % 3) else if (i - 79) % 3=2 then .nilIface else .pointer none)
 else ([.map (some R),Vn,Vn,Vi 0,Vn,.nilFunc]:List Value)[i - 115]?.getD undef
structure Nh (B P S M R:Nat) (da:Option Addr) (dc:Nat) (cf:Cf) (fl:Nat→Sb9) (qs:Nat→Qb9) (k w:Nat) (W:World):Prop where
 box:Bxh P (boxN cf da dc S R fl qs k w) W
 bW:B≤W.heap.size
 ds:Sl W da cf.ds
 dab:∀ a,da=some a→a.block < B
 sp:Im S M 0 283 (cf.bud:Nat) (fun _=>none) W
 mp:Mr R 0 (fun _=>none) W
 bP:B≤P
 bS:B≤S
 bM:B≤M
 bR:B≤R
 mr:M≠R
 sl:∀ i,i < k→Slb B W (i/6) (i % 6) (fl i).g (fl i).r (fl i).cap (fl i).sm
 is:∀ i j,i < k→j < k→i≠j→(fl i).g≠(fl j).g∧∀ a b,a < slN (i/6)→b < slN (j/6)→(fl i).sm a≠(fl j).sm b
 wt:∀ c,c < w→Qr W (qs c).m (qs c).r (qs c).g (qs c).q cf.fifo (List.replicate cf.mix (-1)) []∧B≤(qs c).m∧B≤(qs c).r∧B≤(qs c).g∧B≤(qs c).q
 iq:∀ c c',c < w→c' < w→c≠c'→(qs c).r≠(qs c').r∧(qs c).r≠(qs c').q∧(qs c).q≠(qs c').q∧(qs c).g≠(qs c').g
 tb:Tb W
 b0:0 < B
theorem Slb.ky {S:TypeId→Prop} {B:Nat} {W W':World} {c s g r cap:Nat} {sm:Nat→Nat} (h:Slb B W c s g r cap sm) (k:Ky S W W') (h1:¬S 163) (h2:¬S 164) (h3:¬S 168):Slb B W' c s g r cap sm :=
 ⟨k.cells _ _ _ _ h.box h1,row_ky h.row k h2,fun j hj=>⟨k.cells _ _ _ _ (h.sms j hj).1 h3,(h.sms j hj).2⟩,h.inj,h.bg,h.br⟩
theorem Slb.mono {B B':Nat} {W:World} {c s g r cap:Nat} {sm:Nat→Nat} (h:Slb B W c s g r cap sm) (hb:B'≤B):Slb B' W c s g r cap sm :=
 ⟨h.box,h.row,fun j hj=>⟨(h.sms j hj).1,Nat.le_trans hb (h.sms j hj).2⟩,h.inj,Nat.le_trans hb h.bg,Nat.le_trans hb h.br⟩
theorem Nh.below {B P S M R:Nat} {da:Option Addr} {dc:Nat} {cf:Cf} {fl:Nat→Sb9} {qs:Nat→Qb9} {k w:Nat} {W W':World} (h:Nh B P S M R da dc cf fl qs k w W) (b:Below W.heap.size W W'):Nh B P S M R da dc cf fl qs k w W':=by
 have ky:Ky (fun _=>False) W W':=Ky.below b;obtain⟨es,c,hR⟩:=h.mp.typ;exact⟨h.box.ky ky (fun e=>e),Nat.le_trans h.bW b.size,h.ds.below b,h.dab,h.sp.ky ky (fun e=>e) (b.block _ h.sp.lt.2),h.mp.same (b.block _ (lt_blk hR)),h.bP,h.bS,h.bM,h.bR,h.mr,fun i hi=>(h.sl i hi).ky ky (fun e=>e) (fun e=>e) (fun e=>e),h.is,fun c hc=>⟨(h.wt c hc).1.ky ky (fun e=>e) (fun e=>e) (fun e=>e),(h.wt c hc).2⟩,h.iq,h.tb.ofBelow b,h.b0⟩
theorem Nh.setP {B P S M R:Nat} {da:Option Addr} {dc:Nat} {cf:Cf} {fl:Nat→Sb9} {qs:Nat→Qb9} {k w:Nat} {W:World} (h:Nh B P S M R da dc cf fl qs k w W) (j:Nat) (v:Value):Ky (· = 92) W (W.setCell ⟨P,j,none⟩ v)∧Below B W (W.setCell ⟨P,j,none⟩ v)∧(W.setCell ⟨P,j,none⟩ v).heap[M]?=W.heap[M]?∧(W.setCell ⟨P,j,none⟩ v).heap[R]?=W.heap[R]?:=by
 have nM:M≠P:=fun e=>by
  obtain⟨c,h1,_⟩:=h.box;obtain⟨D,⟨es,c2,h2,_⟩,_⟩:=h.sp.map;rw [e,h1] at h2;cases h2
 have nR:R≠P:=fun e=>by
  obtain⟨c,h1,_⟩:=h.box;obtain⟨es,c2,h2⟩:=h.mp.typ;rw [e,h1] at h2;cases h2
 exact⟨h.box.kyS j v,(Below.refl B W).setCell h.bP _,Below.heap_setCell _ _ _ _ nM,Below.heap_setCell _ _ _ _ nR⟩
theorem Nh.addS {B P S M R:Nat} {da:Option Addr} {dc:Nat} {cf:Cf} {fl:Nat→Sb9} {qs:Nat→Qb9} {k w:Nat} {V W:World} (h:Nh B P S M R da dc cf fl qs k w V) (b:Below V.heap.size V W) {g r cap:Nat} {sm:Nat→Nat} (hs:Slb V.heap.size W (k/6) (k % 6) g r cap sm) (hk:k < 72) :
  Nh B P S M R da dc cf (fun i=>if i=k then ⟨g,r,cap,sm⟩ else fl i) qs (k+1) w (W.setCell ⟨P,7+k,none⟩ (Vp g 0)):=by
 have h2:=h.below b;obtain⟨k1,b1,m1,r1⟩:=h2.setP (7+k) (Vp g 0);have hB:=h.bW;have bx:=h2.box.set (7+k) (by omega) (Vp g 0);have eF:updF (boxN cf da dc S R fl qs k w) (7+k) (Vp g 0)=boxN cf da dc S R (fun i=>if i=k then ⟨g,r,cap,sm⟩ else fl i) qs (k+1) w:=by
  funext i
  unfold updF boxN
  by_cases e:i=7+k
  ·subst e;rw [if_pos rfl,if_neg (by omega),if_pos (by omega),if_pos (by omega)];simp
  rw [if_neg e]
  by_cases h7:i < 7
  ·rw [if_pos h7,if_pos h7]
  rw [if_neg h7,if_neg h7]
  by_cases h79:i < 79
  ·rw [if_pos h79,if_pos h79]
   by_cases hlt:i - 7 < k
   ·rw [if_pos hlt,if_pos (by omega)];simp [show ¬(i - 7=k) by omega]
   rw [if_neg hlt,if_neg (by omega)]
  rw [if_neg h79,if_neg h79]
 rw [eF] at bx;refine⟨bx,Nat.le_trans h2.bW b1.size,h2.ds.belowB b1 h.dab,h.dab,h2.sp.ky k1 (by decide) m1,h2.mp.same r1,h.bP,h.bS,h.bM,h.bR,h.mr,fun i hi=>?_,fun i j hi hj hne=>?_,fun c hc=>⟨(h2.wt c hc).1.ky k1 (by decide) (by decide) (by decide),(h2.wt c hc).2⟩,h.iq,h2.tb.belowB b1 h.b0,h.b0⟩
 ·by_cases e:i=k
  ·subst e;simp only [if_pos];exact (hs.mono hB).ky k1 (by decide) (by decide) (by decide)
  simp only [if_neg e];exact (h2.sl i (by omega)).ky k1 (by decide) (by decide) (by decide)
 have old:∀ i,i < k→(fl i).g < V.heap.size∧∀ a,a < slN (i/6)→(fl i).sm a < V.heap.size:=fun i hi=>⟨lt_blk (h.sl i hi).box,fun a ha=>lt_blk ((h.sl i hi).sms a ha).1⟩
 by_cases e1:i=k
 ·have e2:¬j=k:=by omega
  have:=old j (by omega);simp only [if_pos e1,if_neg e2];refine⟨by have:=hs.bg;omega,fun a b ha hb=>?_⟩;have h1:=(hs.sms a (by rw [←e1];exact ha)).2;have h3:=this.2 b hb;omega
 by_cases e2:j=k
 ·have:=old i (by omega);simp only [if_neg e1,if_pos e2];refine⟨by have:=hs.bg;omega,fun a b ha hb=>?_⟩;have h1:=(hs.sms b (by rw [←e2];exact hb)).2;have h3:=this.2 a ha;omega
 simp only [if_neg e1,if_neg e2];exact h.is i j (by omega) (by omega) hne
theorem Nh.addW {B P S M R:Nat} {da:Option Addr} {dc:Nat} {cf:Cf} {fl:Nat→Sb9} {qs:Nat→Qb9} {k w:Nat} {V W:World} (h:Nh B P S M R da dc cf fl qs k w V) (b:Below V.heap.size V W) {m r g q:Nat} (hq:Qr W m r g q cf.fifo (List.replicate cf.mix (-1)) []) (hb:V.heap.size≤m∧V.heap.size≤r∧V.heap.size≤g∧V.heap.size≤q) (hw:w < 12) {W':World} (hW:W'=((W.setCell ⟨P,79+w*3,none⟩ (Vp m 0)).setCell ⟨P,79+w*3+1,none⟩ (Vp g 0)).setCell ⟨P,79+w*3+2,none⟩ (if cf.mix=0 then .iface 84 (Vp g 0) else .iface 83 (Vp m 0))) :
  Nh B P S M R da dc cf fl (fun i=>if i=w then ⟨m,r,g,q⟩ else qs i) k (w+1) W':=by
 have h2:=h.below b;obtain⟨c,hc,hcs,hci⟩:=h2.box;obtain⟨v3,hv3⟩:∃ v3,v3=(if cf.mix=0 then .iface 84 (Vp g 0) else .iface 83 (Vp m 0):Value):=⟨_,rfl⟩;rw [←hv3] at hW;have bx:=((h2.box.set (79+w*3) (by omega) (Vp m 0)).set (79+w*3+1) (by omega) (Vp g 0)).set (79+w*3+2) (by omega) v3;rw [←hW] at bx;have gr:W.grownBy W' (some P):=by rw [hW];exact grown_set (grown_set (grown_set (grown_refl W P) _ _) _ _) _ _
 have k1:Ky (· = 92) W W':=Ky.grown hc rfl gr;have b1:Below B W W':=(Below.refl B W).grown gr h2.bW (fun r hr=>by simp at hr;have:=h.bP;omega);have nM:M≠P:=fun e=>by
  obtain⟨D,⟨es,c2,h2,_⟩,_⟩:=h2.sp.map;rw [e,hc] at h2;cases h2
 have nR:R≠P:=fun e=>by
  obtain⟨es,c2,h2⟩:=h2.mp.typ;rw [e,hc] at h2;cases h2
 have m1:W'.heap[M]?=W.heap[M]?:=gr.block _ h2.sp.lt.2 (by simpa using nM);have r1:W'.heap[R]?=W.heap[R]?:=by
  obtain⟨es,c2,h3⟩:=h2.mp.typ;exact gr.block _ (lt_blk h3) (by simpa using nR)
 have eF:updF (updF (updF (boxN cf da dc S R fl qs k w) (79+w*3) (Vp m 0)) (79+w*3+1) (Vp g 0)) (79+w*3+2) v3=boxN cf da dc S R fl (fun i=>if i=w then ⟨m,r,g,q⟩ else qs i) k (w+1):=by
  funext i
  unfold updF boxN
  by_cases e2:i=79+w*3+2
  ·rw [if_pos e2,if_neg (by omega),if_neg (by omega),if_pos (by omega),if_pos (by omega),show (i - 79)/3=w by omega,show (i - 79) % 3=2 by omega,hv3];simp [qcN]
  rw [if_neg e2]
  by_cases e1:i=79+w*3+1
  ·rw [if_pos e1,if_neg (by omega),if_neg (by omega),if_pos (by omega),if_pos (by omega),show (i - 79)/3=w by omega,show (i - 79) % 3=1 by omega];simp [qcN]
  rw [if_neg e1]
  by_cases e0:i=79+w*3
  ·rw [if_pos e0,if_neg (by omega),if_neg (by omega),if_pos (by omega),if_pos (by omega),show (i - 79)/3=w by omega,show (i - 79) % 3=0 by omega];simp [qcN]
  rw [if_neg e0]
  by_cases h7:i < 7
  ·rw [if_pos h7,if_pos h7]
  rw [if_neg h7,if_neg h7]
  by_cases h79:i < 79
  ·rw [if_pos h79,if_pos h79]
  rw [if_neg h79,if_neg h79]
  by_cases h115:i < 115
  ·rw [if_pos h115,if_pos h115]
   by_cases hlt:(i - 79)/3 < w
   ·rw [if_pos hlt,if_pos (by omega)];simp [show ¬((i - 79)/3=w) by omega]
   rw [if_neg hlt,if_neg (show ¬(i - 79)/3 < w+1 by omega)]
  rw [if_neg h115,if_neg h115]
 rw [eF] at bx;have old:∀ c,c < w→(qs c).r < V.heap.size∧(qs c).g < V.heap.size∧(qs c).q < V.heap.size:=fun c hc=>by
  obtain⟨⟨q1,q2⟩,⟨ps,o,hh,q3,q4,_⟩,_⟩:=(h.wt c hc).1;exact⟨q2.lt,lt_blk q3,q4.lt⟩
 have hB:=h.bW;refine⟨bx,Nat.le_trans h2.bW b1.size,h2.ds.belowB b1 h.dab,h.dab,h2.sp.ky k1 (by decide) m1,h2.mp.same r1,h.bP,h.bS,h.bM,h.bR,h.mr,fun i hi=>(h2.sl i hi).ky k1 (by decide) (by decide) (by decide),h.is,fun c hc=>?_,fun c c' hc hc' hne=>?_,h2.tb.belowB b1 h.b0,h.b0⟩
 ·by_cases e:c=w
  ·subst e;simp only [if_pos];exact⟨hq.ky k1 (by decide) (by decide) (by decide),by omega,by omega,by omega,by omega⟩
  simp only [if_neg e];exact⟨(h2.wt c (by omega)).1.ky k1 (by decide) (by decide) (by decide),(h2.wt c (by omega)).2⟩
 by_cases e1:c=w
 ·have e2:¬c'=w:=by omega
  have:=old c' (by omega);simp only [if_pos e1,if_neg e2];exact⟨by omega,by omega,by omega,by omega⟩
 by_cases e2:c'=w
 ·have:=old c (by omega);simp only [if_neg e1,if_pos e2];exact⟨by omega,by omega,by omega,by omega⟩
 simp only [if_neg e1,if_neg e2];exact h.iq c c' (by omega) (by omega) hne
def lyN (P S M R:Nat) (da:Option Addr) (dc:Nat) (fl:Nat→Sb9) (qs:Nat→Qb9):Ly where
 P:=P
 S:=S
 M:=M
 R:=R
 sb:=fun c s=>(fl (c*6+s)).g
 sr:=fun c s=>(fl (c*6+s)).r
 sc:=fun c s=>(fl (c*6+s)).cap
 sm:=fun c s j=>(fl (c*6+s)).sm j
 qm:=fun c=>(qs c).m
 qr:=fun c=>(qs c).r
 qg:=fun c=>(qs c).g
 qq:=fun c=>(qs c).q
 da:=da
 dc:=dc
def dyN:Dy where
 f:=fun _=>none
 on:=fun _ _=>false
 lg:=fun _=>none
 ro:=Vn
 rl:=Vn
 an:=Vn
 un:=.nilFunc
theorem Nh.made {B P S M R:Nat} {da:Option Addr} {dc:Nat} {cf:Cf} {fl:Nat→Sb9} {qs:Nat→Qb9} {W:World} (h:Nh B P S M R da dc cf fl qs 72 12 W):Hp B (lyN P S M R da dc fl qs) dyN cf (newH cf) W∧Gd dyN (newH cf) (Vn):=by
 have ix:∀ c s:Nat,c < 12→s < 6→c*6+s < 72∧(c*6+s)/6=c∧(c*6+s) % 6=s:=fun c s hc hs=>by omega
 refine⟨⟨⟨h.b0,h.bP,h.bS,h.bM,h.bR,h.mr,fun c s hc hs=>?_,fun c s hc hs=>?_,fun c s j hc hs hj=>?_,fun c hc=>(h.wt c hc).2,fun c s c' s' hc hs hc' hs' e=>?_,fun c s j c' s' j' hc hs hj hc' hs' hj' e=>?_,fun c c' hc hc' hne=>h.iq c c' hc hc' hne,h.dab⟩,h.bW,?_,h.ds,h.sp,?_,(fun k g e=>by cases e),fun c s hc hs=>?_,fun c s hc hs=>?_,fun c s j hc hs hj=>?_,fun c hc=>?_,h.mp,(fun k=>rfl),(fun r hr=>by cases hr),(fun k k' g e=>by cases e),?_,?_,?_,h.tb⟩,?_⟩
 ·obtain⟨i1,i2,i3⟩:=ix c s hc hs;exact (h.sl _ i1).bg
 ·obtain⟨i1,i2,i3⟩:=ix c s hc hs;exact (h.sl _ i1).br
 ·obtain⟨i1,i2,i3⟩:=ix c s hc hs;exact ((h.sl _ i1).sms j (by rw [i2];exact hj)).2
 ·by_cases e9:c*6+s=c'*6+s'
  ·exact⟨by omega,by omega⟩
  exact absurd e (h.is _ _ (ix c s hc hs).1 (ix c' s' hc' hs').1 e9).1
 ·obtain⟨i1,i2,i3⟩:=ix c s hc hs;obtain⟨i1',i2',i3'⟩:=ix c' s' hc' hs'
  by_cases e9:c*6+s=c'*6+s'
  ·obtain⟨rfl,rfl⟩:c=c'∧s=s':=⟨by omega,by omega⟩;exact⟨rfl,rfl,(h.sl _ i1).inj j j' (by rw [i2];exact hj) (by rw [i2];exact hj') e⟩
  exact absurd e ((h.is _ _ i1 i1' e9).2 j j' (by rw [i2];exact hj) (by rw [i2'];exact hj'))
 ·obtain⟨c,h1,h2,h3⟩:=h.box;refine⟨c,h1,h2,fun i hi=>?_⟩;rw [h3 i hi];unfold boxN boxF;congr 1
  by_cases h7:i < 7
  ·rw [if_pos h7,if_pos h7];rfl
  rw [if_neg h7,if_neg h7]
  by_cases h79:i < 79
  ·rw [if_pos h79,if_pos h79,if_pos (by omega)];show _=Value.pointer (some ⟨(fl ((i - 7)/6*6+(i - 7) % 6)).g,0,none⟩);rw [show (i - 7)/6*6+(i - 7) % 6=i - 7 by omega]
  rw [if_neg h79,if_neg h79]
  by_cases h115:i < 115
  ·rw [if_pos h115,if_pos h115,if_pos (by omega)];rfl
  rw [if_neg h115,if_neg h115];rfl
 ·exact⟨fun k=>.inl ⟨rfl,rfl⟩,fun k k' b e=>by cases e⟩
 ·obtain⟨i1,i2,i3⟩:=ix c s hc hs;have:=(h.sl _ i1).box;rw [i2,i3] at this;exact this
 ·obtain⟨i1,i2,i3⟩:=ix c s hc hs;have:=(h.sl _ i1).row;rw [i2] at this;exact this
 ·obtain⟨i1,i2,i3⟩:=ix c s hc hs;exact ((h.sl _ i1).sms j (by rw [i2];exact hj)).1
 ·exact (h.wt c hc).1
 ·exact .inl ⟨rfl,rfl⟩
 ·exact⟨rfl,.inl ⟨rfl,rfl⟩⟩
 ·intro g e;cases e
 exact⟨fun c s hc hs=>rfl,rfl,rfl⟩
end Go.Proofs.YtacccpkmgkojiaaGreatDoorRR
