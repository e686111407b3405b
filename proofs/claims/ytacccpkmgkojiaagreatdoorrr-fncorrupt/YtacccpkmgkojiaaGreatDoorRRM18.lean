import Derived.Below
import Derived.BigGuardIn
import Derived.BigQuiet
import Derived.BigRegionIn
import Derived.Conc.MuLone
import Derived.Deep.AppendLies
import Derived.Deep.CutBlock
import Derived.Deep.DeepCutAuto
import Derived.Deep.LoopGhost
import Derived.Deep.MidRow
import Derived.Deep.OwnRows
import Derived.Deep.QuietTactic
import Derived.Deep.RegionHeld
import Derived.Deep.RegionLaw
import Derived.Deep.RegionWith
import Derived.KernelRfl
import Derived.Laws.CopyOwn
import Derived.Laws.OwnMore
import Derived.Laws.Rows
import Derived.Laws.Tables
import Derived.Lib.SmallJoins
import Derived.LoopIn
import Derived.LoopNIn
import Derived.Maps.OwnOps
import Derived.Maps.OwnSet
import Derived.OpenShut
import Derived.OrdersHeld
import Derived.OwnWalkIn
import Derived.ProofKit
import Derived.RangeFuncBound
import Derived.RangeFuncCalls
import Derived.RangeFuncLeaves
import Derived.RangeFuncNested
import Derived.Shelf.Abstract
import Derived.Shelf.Bits.Mul64
import Derived.Shelf.RegionOpen
import Derived.TacticsInMore
import Derived.Test.YtacccpkmgkojiaaGreatDoorRRProg
import Derived.WalkKit
import Derived.WalkLawsBesides
import Derived.Test.YtacccpkmgkojiaaGreatDoorRRM00
import Derived.Test.YtacccpkmgkojiaaGreatDoorRRM01
import Derived.Test.YtacccpkmgkojiaaGreatDoorRRM02
import Derived.Test.YtacccpkmgkojiaaGreatDoorRRM03
import Derived.Test.YtacccpkmgkojiaaGreatDoorRRM04
import Derived.Test.YtacccpkmgkojiaaGreatDoorRRM05
import Derived.Test.YtacccpkmgkojiaaGreatDoorRRM06
import Derived.Test.YtacccpkmgkojiaaGreatDoorRRM07
import Derived.Test.YtacccpkmgkojiaaGreatDoorRRM08
import Derived.Test.YtacccpkmgkojiaaGreatDoorRRM09
import Derived.Test.YtacccpkmgkojiaaGreatDoorRRM10
import Derived.Test.YtacccpkmgkojiaaGreatDoorRRM14
import Derived.Test.YtacccpkmgkojiaaGreatDoorRRM15
import Derived.Test.YtacccpkmgkojiaaGreatDoorRRM16
import Derived.Test.YtacccpkmgkojiaaGreatDoorRRM17
namespace Go.Proofs.YtacccpkmgkojiaaGreatDoorRR
set_option linter.unusedVariables false
set_option linter.unusedSimpArgs false
set_option maxRecDepth 20000
set_option maxHeartbeats 8000000
open Go.RowKit Go.Maps
structure Ly where
 P:Nat
 S:Nat
 M:Nat
 R:Nat
 sb:Nat→Nat→Nat
 sr:Nat→Nat→Nat
 sc:Nat→Nat→Nat
 sm:Nat→Nat→Nat→Nat
 qm:Nat→Nat
 qr:Nat→Nat
 qg:Nat→Nat
 qq:Nat→Nat
 da:Option Addr
 dc:Nat
structure Dy where
 f:Nat→Option Nat
 on:Nat→Nat→Bool
 lg:Nat→Option Nat
 ro:Value
 rl:Value
 an:Value
 un:Value
def sbC (c s:Nat) (on:Bool) (r n cap:Nat):Array Value:=#[Vi (c:Nat),Vi (s:Nat),.bool on,Vl r n cap]
def smC (st rq:Int) (b j:Nat):Array Value:=#[Vi st,Vi rq,Vp b 0,Vi (j:Nat)]
def lgC (r:Rg9):Array Value:=#[Vi r.st,Vi r.rq,Vi (r.first:Nat),Vi (r.guards:Nat),Vi (r.pages:Nat)]
def qcV (cf:Cf) (y:Ly) (c k:Nat):Value:=if k=0 then Vp (y.qm c) 0 else if k=1 then Vp (y.qg c) 0 else if cf.mix=0 then .iface 84 (Vp (y.qg c) 0) else .iface 83 (Vp (y.qm c) 0)
def boxF (cf:Cf) (y:Ly) (d:Dy) (used:Nat) (i:Nat):Value :=
 if i < 7 then ([Vi (cf.mix:Nat),Vi (cf.fifo:Nat),Vi (cf.large:Nat),Vi (cf.bud:Nat),Vu cf.key,.slice y.da cf.ds.length y.dc,Vp y.S 0]:List Value)[i]?.getD undef
 else if i < 79 then Vp (y.sb ((i - 7)/6) ((i - 7) % 6)) 0
 else if i < 115 then qcV cf y ((i - 79)/3) ((i - 79) % 3)
 else ([.map (some y.R),d.ro,d.rl,Vi (used:Nat),d.an,d.un]:List Value)[i - 115]?.getD undef
def Bxh (P:Nat) (F:Nat→Value) (W:World):Prop:=∃ c,W.heap[P]?=some (.cells c 92 (0,0))∧c.size=121∧∀ i,i < 121→c[i]?=some (F i)
theorem Bxh.cell {P:Nat} {F:Nat→Value} {W:World} (h:Bxh P F W) (i:Nat) (hi:i < 121):W.cell? ⟨P,i,none⟩=some (F i):=by
 obtain⟨c,h1,h2,h3⟩:=h;rw [cell_of_row _ _ _ _ _ _ h1];exact h3 i hi
theorem Bxh.free {P:Nat} {F:Nat→Value} {W:World} (h:Bxh P F W) (i:Nat):W.frozen? ⟨P,i,none⟩=false:=by
 obtain⟨c,h1,h2,h3⟩:=h;simp [World.frozen?,h1]
theorem Bxh.lt {P:Nat} {F:Nat→Value} {W:World} (h:Bxh P F W):P < W.heap.size:=by
 obtain⟨c,h1,_⟩:=h;exact lt_blk h1
theorem Bxh.ky {S:TypeId→Prop} {P:Nat} {F:Nat→Value} {W W':World} (h:Bxh P F W) (k:Ky S W W') (hs:¬S 92):Bxh P F W':=by
 obtain⟨c,h1,h2⟩:=h;exact⟨c,k.cells _ _ _ _ h1 hs,h2⟩
def updF (F:Nat→Value) (i:Nat) (v:Value):Nat→Value:=fun j=>if j=i then v else F j
theorem Bxh.set {P:Nat} {F:Nat→Value} {W:World} (h:Bxh P F W) (i:Nat) (hi:i < 121) (v:Value):Bxh P (updF F i v) (W.setCell ⟨P,i,none⟩ v):=by
 obtain⟨c,h1,h2,h3⟩:=h;refine⟨c.setIfInBounds i v,by simp [World.setCell,Array.getElem?_modify,h1],by simpa using h2,fun j hj=>?_⟩;rw [Array.getElem?_setIfInBounds];unfold updF
 by_cases e:i=j
 ·subst e;simp [h2,hi]
 rw [if_neg e,if_neg (fun e2=>e e2.symm)];exact h3 j hj
theorem Bxh.kyS {P:Nat} {F:Nat→Value} {W:World} (h:Bxh P F W) (i:Nat) (v:Value):Ky (· = 92) W (W.setCell ⟨P,i,none⟩ v):=by
 obtain⟨c,h1,_⟩:=h;exact Ky.grown h1 rfl (grown_set (grown_refl W P) i v)
theorem boxF_used (cf:Cf) (y:Ly) (d:Dy) (u u':Nat):updF (boxF cf y d u) 118 (Vi (u':Nat))=boxF cf y d u':=by
 funext i
 unfold updF boxF
 by_cases e:i=118
 ·subst e;rfl
 rw [if_neg e]
 by_cases h1:i < 7
 ·simp [h1]
 by_cases h2:i < 79
 ·simp [h1,h2]
 by_cases h3:i < 115
 ·simp [h1,h2,h3]
 simp only [h1,h2,h3,if_false]
 rcases (show i=115∨i=116∨i=117∨i=119∨i=120∨121≤i by omega) with rfl|rfl|rfl|rfl|rfl|h4
 ·rfl
 ·rfl
 ·rfl
 ·rfl
 ·rfl
 rw [List.getElem?_eq_none (by simp;omega),List.getElem?_eq_none (by simp;omega)]
theorem boxF_dy (cf:Cf) (y:Ly) (d:Dy) (u i:Nat) (v:Value) (d':Dy) (hi:(i=116∧d'={ d with ro:=v })∨(i=117∧d'={ d with rl:=v })∨(i=119∧d'={ d with an:=v })∨(i=120∧d'={ d with un:=v })):updF (boxF cf y d u) i v=boxF cf y d' u:=by
 funext j
 unfold updF boxF
 by_cases h1:j < 7
 ·have:j≠i:=by rcases hi with ⟨h,_⟩|⟨h,_⟩|⟨h,_⟩|⟨h,_⟩ <;> omega
  rw [if_neg this];simp [h1]
 by_cases h2:j < 79
 ·have:j≠i:=by rcases hi with ⟨h,_⟩|⟨h,_⟩|⟨h,_⟩|⟨h,_⟩ <;> omega
  rw [if_neg this];simp [h1,h2]
 by_cases h3:j < 115
 ·have:j≠i:=by rcases hi with ⟨h,_⟩|⟨h,_⟩|⟨h,_⟩|⟨h,_⟩ <;> omega
  rw [if_neg this];simp [h1,h2,h3]
 simp only [h1,h2,h3,if_false]
 by_cases h4:121≤j
 ·rw [if_neg (by rcases hi with ⟨h,_⟩|⟨h,_⟩|⟨h,_⟩|⟨h,_⟩ <;> omega),List.getElem?_eq_none (by simp;omega),List.getElem?_eq_none (by simp;omega)]
 rcases hi with ⟨rfl,rfl⟩|⟨rfl,rfl⟩|⟨rfl,rfl⟩|⟨rfl,rfl⟩ <;> rcases (show j=115∨j=116∨j=117∨j=118∨j=119∨j=120 by omega) with rfl|rfl|rfl|rfl|rfl|rfl <;> rfl
structure Mr (R n:Nat) (lo:Nat→Option Nat) (W:World):Prop where
 map:∃ D:DataW Unit,W.ownsMap Tryz.prog 23 ptrE R 4096 D∧Maps.size D≤n∧(∀ k:Nat,k < 18446744073709551616→D.atKey (.int .u64 k) .nil=asD (lo k))∧∀ k:Nat,k < 18446744073709551616→has D (.int .u64 k)=(lo k).isSome
theorem Mr.same {R n:Nat} {lo:Nat→Option Nat} {W W':World} (h:Mr R n lo W) (hR:W'.heap[R]?=W.heap[R]?):Mr R n lo W':=by
 obtain⟨D,⟨es,c,h1,h2⟩,h3⟩:=h.map;exact⟨D,⟨es,c,hR.trans h1,h2⟩,h3⟩
theorem Mr.typ {R n:Nat} {lo:Nat→Option Nat} {W:World} (h:Mr R n lo W):∃ es c,W.heap[R]?=some (.map es c):=by
 obtain⟨D,⟨es,c,h1,h2⟩,h3⟩:=h.map;exact⟨es,c,h1⟩
def Um (B:Nat) (W:World) (v:Value) (l:List Nat):Prop:=(v=Vn∧l=[])∨∃ (g o cap:Nat) (c:Array Value),v=.slice (some ⟨g,o,none⟩) l.length cap∧B≤g∧W.heap[g]?=some (.cells c 23 (0,0))∧o+cap=c.size∧l.length≤cap∧cap≤maxLen∧(∀ u∈c.toList,u.oneCell'=true)∧∀ i,i < l.length→c[o+i]?=some (Vu ((l[i]?.getD 0:Nat):Int))
theorem Um.ky {S:TypeId→Prop} {B:Nat} {W W':World} {v:Value} {l:List Nat} (h:Um B W v l) (k:Ky S W W') (hs:¬S 23):Um B W' v l:=by
 rcases h with h|⟨g,o,cap,c,h1,h2,h3,h4⟩
 ·exact .inl h
 exact .inr ⟨g,o,cap,c,h1,h2,k.cells _ _ _ _ h3 hs,h4⟩
def umBlock:Value→Option Nat
 | .slice (some a) _ _=>some a.block
 | _=>none
structure Aps (B:Nat) (y:Ly):Prop where
 b0:0 < B
 bP:B≤y.P
 bS:B≤y.S
 bM:B≤y.M
 bR:B≤y.R
 mr:y.M≠y.R
 bsb:∀ c s,c < 12→s < 6→B≤y.sb c s
 bsr:∀ c s,c < 12→s < 6→B≤y.sr c s
 bsm:∀ c s j,c < 12→s < 6→j < slN c→B≤y.sm c s j
 bq:∀ c,c < 12→B≤y.qm c∧B≤y.qr c∧B≤y.qg c∧B≤y.qq c
 isb:∀ c s c' s',c < 12→s < 6→c' < 12→s' < 6→y.sb c s=y.sb c' s'→c=c'∧s=s'
 ism:∀ c s j c' s' j',c < 12→s < 6→j < slN c→c' < 12→s' < 6→j' < slN c'→y.sm c s j=y.sm c' s' j'→c=c'∧s=s'∧j=j'
 iq:∀ c c',c < 12→c' < 12→c≠c'→y.qr c≠y.qr c'∧y.qr c≠y.qq c'∧y.qq c≠y.qq c'∧y.qg c≠y.qg c'
 da:∀ a,y.da=some a→a.block < B
structure Hp (B:Nat) (y:Ly) (d:Dy) (cf:Cf) (h:Hs) (W:World):Prop where
 ap:Aps B y
 bW:B≤W.heap.size
 box:Bxh y.P (boxF cf y d h.used) W
 ds:Sl W y.da cf.ds
 sp:Im y.S y.M 0 283 (cf.bud:Nat) d.f W
 pg:Pg d.f h.m W
 bf:∀ k g,d.f k=some g→B≤g
 sl:∀ c s,c < 12→s < 6→W.heap[y.sb c s]?=some (.cells (sbC c s (d.on c s) (y.sr c s) (slN c) (y.sc c s)) 163 (0,0))
 rw:∀ c s,c < 12→s < 6→RowV W (y.sr c s) 164 ((List.range (slN c)).map fun j=>Vp (y.sm c s j) 0)
 sm:∀ c s j,c < 12→s < 6→j < slN c→W.heap[y.sm c s j]?=some (.cells (smC (h.st c s j) (h.rq c s j) (y.sb c s) j) 168 (0,0))
 wt:∀ c,c < 12→Qr W (y.qm c) (y.qr c) (y.qg c) (y.qq c) cf.fifo (h.mx c) (h.ff c)
 mp:Mr y.R h.rg.length d.lg W
 lo:∀ k,(d.lg k).isSome=h.rg.any fun r=>r.base==k
 lb:∀ r∈h.rg,∃ g,d.lg r.base=some g∧B≤g∧W.heap[g]?=some (.cells (lgC r) 188 (0,0))
 li:∀ k k' g,d.lg k=some g→d.lg k'=some g→k=k'
 ro:Um B W d.ro h.row
 rl:W.ownsRow B 23 1 d.rl h.rel.length (Us h.rel)
 rr:∀ g,umBlock d.ro=some g→d.rl.ownBlock≠some g
 tb:Tb W
def Tied (d:Dy) (h:Hs):Prop:=∀ c s,c < 12→s < 6→d.on c s=onS h c s
structure Kt9 (S:TypeId→Prop) (y:Ly) (W W':World):Prop where
 ky:Ky S W W'
 m:W'.heap[y.M]?=W.heap[y.M]?
 r:W'.heap[y.R]?=W.heap[y.R]?
theorem Im.ky {S:TypeId→Prop} {A M:Nat} {st n bud:Int} {f:Nat→Option Nat} {W W':World} (h:Im A M st n bud f W) (k:Ky S W W') (hs:¬S 152) (hm:W'.heap[M]?=W.heap[M]?):Im A M st n bud f W':=by
 obtain⟨D,⟨es,c,h1,h2⟩,h3⟩:=h.map;exact⟨k.cells _ _ _ _ h.box hs,D,⟨es,c,hm.trans h1,h2⟩,h3⟩
theorem Pg.ky {S:TypeId→Prop} {f:Nat→Option Nat} {m:Nat→Option (Bool×List Int)} {W W':World} (h:Pg f m W) (k:Ky S W W') (hs:¬S 185):Pg f m W':=by
 refine h.other (fun j b hb=>?_)
 rcases h.at' j with ⟨e1,_⟩|⟨b',l,xs,e1,_,_,e4⟩
 ·rw [hb] at e1;cases e1
 rw [hb] at e1;cases e1;rw [k.cells _ _ _ _ e4 hs,e4]
theorem Qr.ky {S:TypeId→Prop} {W W':World} {M rm G rq n:Nat} {mix fifo:List Int} (h:Qr W M rm G rq n mix fifo) (k:Ky S W W') (h1:¬S 159) (h2:¬S 157) (h3:¬S 3):Qr W' M rm G rq n mix fifo:=by
 obtain⟨⟨a,b⟩,⟨ps,o,hh,c,e,g⟩,ne⟩:=h;exact⟨⟨k.cells _ _ _ _ a h1,row_ky b k h3⟩,⟨ps,o,hh,k.cells _ _ _ _ c h2,row_ky e k h3,g⟩,ne⟩
theorem Tb.belowB {B:Nat} {W W':World} (h:Tb W) (hb:Below B W W') (h0:0 < B):Tb W':=by
 obtain⟨t,fr,h⟩:=h.row;exact⟨t,fr,by rw [hb.block 0 h0];exact h⟩
theorem Sl.belowB {B:Nat} {W W':World} {a:Option Addr} {zs:List Int} (h:Sl W a zs) (hb:Below B W W') (ha:∀ x,a=some x→x.block < B):Sl W' a zs:=by
 rcases h with h|⟨g,e,c,h1,h2⟩
 ·exact .inl h
 exact .inr ⟨g,e,c,by rw [hb.block g (ha _ e)];exact h1,h2⟩
theorem Hp.keep {B:Nat} {y:Ly} {d:Dy} {cf:Cf} {h:Hs} {W W':World} (hp:Hp B y d cf h W) (k:Kt9 (fun t=>t≠92∧t≠152∧t≠185∧t≠163∧t≠164∧t≠168∧t≠159∧t≠157∧t≠3∧t≠188∧t≠23) y W W') (b:Below B W W'):Hp B y d cf h W' :=
 ⟨hp.ap,Nat.le_trans hp.bW b.size,hp.box.ky k.ky (by decide),hp.ds.belowB b hp.ap.da,hp.sp.ky k.ky (by decide) k.m,hp.pg.ky k.ky (by decide),hp.bf,
 fun c s hc hs=>k.ky.cells _ _ _ _ (hp.sl c s hc hs) (by decide),fun c s hc hs=>row_ky (hp.rw c s hc hs) k.ky (by decide),fun c s j hc hs hj=>k.ky.cells _ _ _ _ (hp.sm c s j hc hs hj) (by decide),
 fun c hc=>(hp.wt c hc).ky k.ky (by decide) (by decide) (by decide),hp.mp.same k.r,hp.lo,fun r hr=>by obtain ⟨g,h1,h2,h3⟩:=hp.lb r hr;exact⟨g,h1,h2,k.ky.cells _ _ _ _ h3 (by decide)⟩,hp.li,hp.ro.ky k.ky (by decide),own_ky hp.rl k.ky (by decide),hp.rr,hp.tb.belowB b hp.ap.b0⟩
theorem Hp.below {B:Nat} {y:Ly} {d:Dy} {cf:Cf} {h:Hs} {W W':World} (hp:Hp B y d cf h W) (b:Below W.heap.size W W'):Hp B y d cf h W':=by
 obtain⟨es,c,hR⟩:=hp.mp.typ;exact hp.keep ⟨Ky.below b,b.block _ hp.sp.lt.2,b.block _ (lt_blk hR)⟩ (b.mono hp.bW)
theorem Hp.cell {B:Nat} {y:Ly} {d:Dy} {cf:Cf} {h:Hs} {W:World} (hp:Hp B y d cf h W) (i:Nat) (hi:i < 121) (v:Value) (hv:boxF cf y d h.used i=v):W.cell? ⟨y.P,i,none⟩=some v:=by rw [hp.box.cell i hi,hv]
end Go.Proofs.YtacccpkmgkojiaaGreatDoorRR
namespace Go.Proofs.YtacccpkmgkojiaaGreatDoorRR
set_option linter.unusedVariables false
set_option linter.unusedSimpArgs false
set_option maxRecDepth 20000
set_option maxHeartbeats 8000000
open Go.RowKit
theorem info186:(Tryz.prog.info? 164).map (fun i=>(i.zero,i.size,i.bytes))=some (some (.pointer none),1,8):=by kernel_rfl
def frM (st:Nat→Int) (n:Nat):List Nat:=(List.range n).filter fun j=>isFree (st j)
def Pt (g:Nat→Nat) (l:List Nat):List Value:=l.map fun j=>Vp (g j) 0
theorem frM_yes (st:Nat→Int) (n:Nat) (h:isFree (st n)=true):frM st (n+1)=frM st n++[n]:=by
 unfold frM;rw [List.range_succ,List.filter_append];simp [h]
theorem frM_no (st:Nat→Int) (n:Nat) (h:isFree (st n)=false):frM st (n+1)=frM st n:=by
 unfold frM;rw [List.range_succ,List.filter_append];simp [h]
theorem frM_len (st:Nat→Int) (n:Nat):(frM st n).length≤n:=by
 unfold frM;have:=List.length_filter_le (fun j=>isFree (st j)) (List.range n);simpa using this
theorem frM_freeS (h:Hs) (c s:Nat):frM (h.st c s) (slN c)=freeS h c s:=rfl
theorem im_free (b r c s n cap:Nat) (on:Bool) (g:Nat→Nat) (st:Nat→Int) (W:World) (h:Bc b r c s n cap on W) (hn:n≤64) (hr:∀ j,j < n→W.cell? ⟨r,j,none⟩=some (Vp (g j) 0)) (hst:∀ j,j < n→W.cell? ⟨g j,0,none⟩=some (Vi (st j))) :
  Calls Tryz.prog 128 #[Vp b 0] W fun e W'=>∃ v,e=.returned v∧W'.ownsRow W.heap.size 164 1 v (frM st n).length (Pt g (frM st n))∧Below W.heap.size W W':=by
 obtain⟨i0,hi0,hz0,hz1,hz2⟩:=info_parts info186;obtain⟨_,_,_,d3⟩:=h;have HR:=hid hr;have HT:=hid hst;clear hr hst;go_enter Tryz.func128,Tryz.ntmps128;go_wp2;go_loopw [3,11] (fun v i wr=>∃ k:Nat,k≤n∧i=Vi k∧Hid (wr.ownsRow W.heap.size 164 1 v (frM st k).length (Pt g (frM st k)))∧Hid (Below W.heap.size W wr)) (fun _ i _=>n - (intOf i).toNat)
 case atStart=>exact ⟨0,Nat.zero_le _,rfl,hid ⟨rfl,.inl ⟨rfl,rfl⟩⟩,hid (Below.refl _ _)⟩
 case round =>
  obtain⟨k,hk,rfl,HO,HB⟩:=hrel;obtain⟨va,vb,vc,rfl⟩:∃ p l cc,u3=.slice p l cc:=by rcases HO.out.2 with ⟨rfl,_⟩|⟨g,cp,cur,rfl,_⟩ <;> exact ⟨_,_,_,rfl⟩
  by_cases hlt:k < n
  ·have d0:=below_cell HB.out (HR.out k hlt);have d1:=below_cell HB.out (HT.out k hlt);have hle:=frM_len st k;have FY:=hid (frM_yes st k);have FN:=hid (frM_no st k);generalize hx:st k=x at *;clear hx;generalize hq:frM st k=q at *;clear hq;have HG:=hid (show Pt g (q++[k])=Pt g q++[Vp (g k) 0] by simp [Pt]);generalize g k=G at *
   by_cases h0:x=0
   ·subst h0;have F:=hid (FY.out rfl);clear FY FN;have O8:=hid (HO.out.alloc (.cells #[Vp G 0] 164));have B8:=hid (HB.out.alloc HB.out.size (.cells #[Vp G 0] 164));go_wp2_with (at_builtin;refine wpList_append_own _ rfl _ _ 161 rfl W.heap.size 164 i0 (.pointer none) 1 8 Tryz.underlying161 hi0 hz0 hz1 hz2 rfl (by omega) _ _ _ rfl O8.out _ 1 1 [Vp G 0] rfl rfl ?hc ?h1c ?b1 ?b2 ?b3 ?_)
    case hc=>exact one_new _ _ _ _ (by simp)
    case h1c=>intro u hu;simp at hu;subst hu;rfl
    case b1=>unfold maxLen;omega
    case b2=>omega
    case b3=>exact B8.out.size
    intro v1 w9 ho9 hg9 _;have HN9:=hid (And.intro ho9 (B8.out.grown hg9 B8.out.size (own_base O8.out)));clear ho9 hg9;go_wp2;go_roundw
    case rel=>exact ⟨k+1,by omega,by go_num,hid (by rw [F.out,List.length_append,HG.out];exact HN9.out.1),hid HN9.out.2⟩
    case measure=>simp [intOf];omega
   have h0':(x==0)=false:=by simpa using h0
   by_cases h3:x=3
   ·subst h3;have F:=hid (FY.out rfl);clear FY FN h0';have O8:=hid (HO.out.alloc (.cells #[Vp G 0] 164));have B8:=hid (HB.out.alloc HB.out.size (.cells #[Vp G 0] 164));go_wp2_with (at_builtin;refine wpList_append_own _ rfl _ _ 161 rfl W.heap.size 164 i0 (.pointer none) 1 8 Tryz.underlying161 hi0 hz0 hz1 hz2 rfl (by omega) _ _ _ rfl O8.out _ 1 1 [Vp G 0] rfl rfl ?hc ?h1c ?b1 ?b2 ?b3 ?_)
    case hc=>exact one_new _ _ _ _ (by simp)
    case h1c=>intro u hu;simp at hu;subst hu;rfl
    case b1=>unfold maxLen;omega
    case b2=>omega
    case b3=>exact B8.out.size
    intro v1 w9 ho9 hg9 _;have HN9:=hid (And.intro ho9 (B8.out.grown hg9 B8.out.size (own_base O8.out)));clear ho9 hg9;go_wp2;go_roundw
    case rel=>exact ⟨k+1,by omega,by go_num,hid (by rw [F.out,List.length_append,HG.out];exact HN9.out.1),hid HN9.out.2⟩
    case measure=>simp [intOf];omega
   have h3':(x==3)=false:=by simpa using h3
   have F:=hid (FN.out (by unfold isFree;rw [h0',h3'];rfl));clear FY FN h0 h3;go_wp2;go_roundw
   case rel=>exact ⟨k+1,by omega,by go_num,hid (by rw [F.out];exact HO.out),HB⟩
   case measure=>simp [intOf];omega
  obtain rfl:k=n:=by omega
  go_wp2;go_ret;exact⟨_,rfl,HO.out,HB.out⟩
end Go.Proofs.YtacccpkmgkojiaaGreatDoorRR
namespace Go.Proofs.YtacccpkmgkojiaaGreatDoorRR
set_option linter.unusedVariables false
set_option linter.unusedSimpArgs false
set_option maxRecDepth 20000
set_option maxHeartbeats 8000000
open Go.RowKit
def hI (t:TypeId):Prop:=t=92∨t=152∨t=185∨t=163∨t=168∨t=188∨t=157∨t=159∨t=3∨t=23
structure Bi (B:Nat) (W W':World):Prop where
 bel:Below B W W'
 ky:Ky hI W W'
theorem Bi.refl (B:Nat) (W:World):Bi B W W:=⟨Below.refl _ _,Ky.refl _ _⟩
theorem Bi.trans {B:Nat} {a b c:World} (h:Bi B a b) (k:Bi B b c):Bi B a c:=⟨h.bel.trans k.bel,h.ky.trans k.ky⟩
theorem Bi.ofBelow {B:Nat} {W W':World} (b:Below W.heap.size W W') (hB:B≤W.heap.size):Bi B W W':=⟨b.mono hB,Ky.below b⟩
theorem Bi.add {B:Nat} {W V V':World} (h:Bi B W V) (b:Below V.heap.size V V') (hB:B≤V.heap.size):Bi B W V':=h.trans (Bi.ofBelow b hB)
theorem Bi.ofGrown {B P:Nat} {W W':World} {c:Array Value} {t:TypeId} {f:Nat×Nat} (hP:W.heap[P]?=some (.cells c t f)) (ht:hI t) (hB:B≤P) (hW:B≤W.heap.size) (hg:W.grownBy W' (some P)):Bi B W W' :=
 ⟨(Below.refl B W).grown hg hW (fun r hr=>by simp at hr;omega),Ky.grown hP ht hg⟩
def refV (code:Int):List PanicEntry:=[{ v:=.iface 112 (.agg #[Vi code]),recovered:=false }]
theorem Hp.usedP {B:Nat} {y:Ly} {d:Dy} {cf:Cf} {h:Hs} {W:World} (hp:Hp B y d cf h W) (u:Nat):Hp B y d cf { h with used:=u } (W.setCell ⟨y.P,118,none⟩ (Vi (u:Nat))):=by
 have k:=hp.box.kyS 118 (Vi (u:Nat));have hb:Below B W (W.setCell ⟨y.P,118,none⟩ (Vi (u:Nat))):=(Below.refl B W).grown (grown_set (grown_refl W y.P) _ _) hp.bW (fun r hr=>by simp at hr;have:=hp.ap.bP;omega);have bx:=hp.box.set 118 (by omega) (Vi (u:Nat));rw [boxF_used] at bx;have hM:(W.setCell ⟨y.P,118,none⟩ (Vi (u:Nat))).heap[y.M]?=W.heap[y.M]?:=Below.heap_setCell _ _ _ _ (fun e=>by
  obtain⟨c,h1,_⟩:=hp.box;obtain⟨D,⟨es,c2,h2,_⟩,_⟩:=hp.sp.map;rw [e,h1] at h2;cases h2)
 have hR:(W.setCell ⟨y.P,118,none⟩ (Vi (u:Nat))).heap[y.R]?=W.heap[y.R]?:=Below.heap_setCell _ _ _ _ (fun e=>by
  obtain⟨c,h1,_⟩:=hp.box;obtain⟨es,c2,h2⟩:=hp.mp.typ;rw [e,h1] at h2;cases h2)
 exact⟨hp.ap,Nat.le_trans hp.bW hb.size,bx,hp.ds.belowB hb hp.ap.da,hp.sp.ky k (by decide) hM,hp.pg.ky k (by decide),hp.bf,
 fun c s hc hs=>k.cells _ _ _ _ (hp.sl c s hc hs) (by decide),fun c s hc hs=>row_ky (hp.rw c s hc hs) k (by decide),fun c s j hc hs hj=>k.cells _ _ _ _ (hp.sm c s j hc hs hj) (by decide),
 fun c hc=>(hp.wt c hc).ky k (by decide) (by decide) (by decide),hp.mp.same hR,hp.lo,fun r hr=>by obtain ⟨g,h1,h2,h3⟩:=hp.lb r hr;exact⟨g,h1,h2,k.cells _ _ _ _ h3 (by decide)⟩,hp.li,hp.ro.ky k (by decide),own_ky hp.rl k (by decide),hp.rr,hp.tb.belowB hb hp.ap.b0⟩
theorem Hp.bi118 {B:Nat} {y:Ly} {d:Dy} {cf:Cf} {h:Hs} {W:World} (hp:Hp B y d cf h W) (i:Nat) (v:Value):Bi B W (W.setCell ⟨y.P,i,none⟩ v):=by
 obtain⟨c,h1,_⟩:=hp.box;exact Bi.ofGrown h1 (.inl rfl) hp.ap.bP hp.bW (grown_set (grown_refl W y.P) _ _)
theorem im_draw (B:Nat) (y:Ly) (d:Dy) (cf:Cf) (h:Hs) (n:Nat) (W:World) (hp:Hp B y d cf h W) (hn:1≤n) (hn2:n≤1000000) (hu:h.used≤1000000) (hd:cf.ds.length≤20000) :
  Calls Tryz.prog 129 #[Vp y.P 0,Vi n] W fun e W'=>e=.returned (Vi (dr cf h n:Nat))∧Hp B y d cf { h with used:=h.used+1 } W'∧Bi B W W':=by
 have c118:W.cell? ⟨y.P,118,none⟩=some (Vi (h.used:Nat)):=hp.cell 118 (by omega) _ rfl;have c5:W.cell? ⟨y.P,5,none⟩=some (.slice y.da cf.ds.length y.dc):=hp.cell 5 (by omega) _ rfl;have f118:W.frozen? ⟨y.P,118,none⟩=false:=hp.box.free 118;have ec:((h.used+1:Nat):Int)=(h.used:Int)+1:=by omega
 have H1:=hid (hp.usedP (h.used+1));have G1:=hid (hp.bi118 118 (Vi (h.used+1:Nat)));rw [ec] at H1 G1;clear ec
 by_cases hlt:h.used < cf.ds.length
 ·obtain⟨g,hda,hc⟩:=hp.ds.cells h.used hlt;rw [hda] at c5;have HE:=hid (show dr cf h n=md (cf.ds[h.used]?.getD 0) n from rfl);generalize cf.ds[h.used]?.getD 0=q at HE hc;have M:=hid (fun W'=>modulo_in q n W' hn (by omega));generalize cf.ds.length=dl at *;generalize hus:h.used=us at c118 hc hlt H1 G1 hu;clear hp hda;have hlt':(us:Int) < (dl:Int):=by omega
  go_enter Tryz.func129,Tryz.ntmps129;go_wp2;go_region;go_wp2;go_region;go_wp2_with fail;refine (M.out _).mono ?_;rintro e W2 ⟨rfl,rfl⟩;go_wp2;go_ret;refine⟨?_,H1.out.below (Below.refl _ _).drew.drew,⟨G1.out.bel.os,G1.out.bel.tape,G1.out.bel.output,G1.out.bel.size,G1.out.bel.block⟩,⟨G1.out.ky.os,G1.out.ky.tape,G1.out.ky.output,G1.out.ky.size,G1.out.ky.cells⟩⟩;rw [HE.out];rfl
 have HE:=hid (show dr cf h n=md 0 n by unfold dr md;rw [List.getElem?_eq_none (by omega)];rfl);have M:=hid (fun W'=>modulo_in 0 n W' hn (by omega));generalize cf.ds.length=dl at *;generalize hus:h.used=us at c118 hlt H1 G1 hu;clear hp;have hlt':¬((us:Int) < (dl:Int)):=by omega
 go_enter Tryz.func129,Tryz.ntmps129;go_wp2;go_region;go_wp2_with fail;refine (M.out _).mono ?_;rintro e W2 ⟨rfl,rfl⟩;go_wp2;go_ret;refine⟨?_,H1.out.below (Below.refl _ _).drew,⟨G1.out.bel.os,G1.out.bel.tape,G1.out.bel.output,G1.out.bel.size,G1.out.bel.block⟩,⟨G1.out.ky.os,G1.out.ky.tape,G1.out.ky.output,G1.out.ky.size,G1.out.ky.cells⟩⟩;rw [HE.out];rfl
theorem Fr.kt {S M:Nat} {st n bud:Int} {f f':Nat→Option Nat} {m:Nat→Option (Bool×List Int)} {W W':World} (hi:Im S M st n bud f W) (hp:Pg f m W) (h:Fr S M f f' W W'):Ky (fun t=>t=152∨t=185) W W':=by
 refine⟨h.os,h.tape,h.output,h.size,fun g c t fr hg ht=>?_⟩;rw [h.block g (lt_blk hg) ?_ ?_ ?_]
 ·exact hg
 ·rintro rfl;rw [hi.box] at hg;simp at hg;exact ht (.inl hg.2.1.symm)
 ·rintro rfl;obtain⟨D,⟨es,c2,h2,_⟩,_⟩:=hi.map;rw [h2] at hg;cases hg
 intro k hk
 rcases hp.at' k with ⟨e1,_⟩|⟨b',l,xs,e1,_,_,e4⟩
 ·rw [hk] at e1;cases e1
 rw [hk] at e1;cases e1;rw [e4] at hg;simp at hg;exact ht (.inr hg.2.1.symm)
theorem Hp.space {B:Nat} {y:Ly} {d:Dy} {cf:Cf} {h:Hs} {W W':World} {f':Nat→Option Nat} {m':Nat→Option (Bool×List Int)} (hp:Hp B y d cf h W) (hi:Im y.S y.M 0 283 (cf.bud:Nat) f' W') (hg:Pg f' m' W') (hf:Fr y.S y.M d.f f' W W') :
  Hp B y { d with f:=f' } cf { h with m:=m' } W'∧Bi B W W':=by
 have k:=hf.kt hp.sp hp.pg;have hb:Below B W W':=⟨hf.os,hf.tape,hf.output,hf.size,fun g hg'=>hf.block g (Nat.lt_of_lt_of_le hg' hp.bW) (by have:=hp.ap.bS;omega) (by have:=hp.ap.bM;omega) (fun j hj=>by have:=hp.bf j g hj;omega)⟩;have hR:W'.heap[y.R]?=W.heap[y.R]?:=by
  obtain⟨es,c2,h2⟩:=hp.mp.typ;refine hf.block _ (lt_blk h2) (fun e=>?_) (fun e=>hp.ap.mr e.symm) (fun j hj=>?_)
  ·rw [e,hp.sp.box] at h2;cases h2
  rcases hp.pg.at' j with ⟨e1,_⟩|⟨b',l,xs,e1,_,_,e4⟩
  ·rw [hj] at e1;cases e1
  rw [hj] at e1;cases e1;rw [e4] at h2;cases h2
 refine⟨⟨hp.ap,Nat.le_trans hp.bW hb.size,hp.box.ky k (by decide),hp.ds.belowB hb hp.ap.da,hi,hg,fun j g hj=>?_,
 fun c s hc hs=>?_,fun c s hc hs=>row_ky (hp.rw c s hc hs) k (by decide),fun c s j hc hs hj=>k.cells _ _ _ _ (hp.sm c s j hc hs hj) (by decide),
 fun c hc=>(hp.wt c hc).ky k (by decide) (by decide) (by decide),hp.mp.same hR,hp.lo,fun r hr=>by obtain ⟨g,h1,h2,h3⟩:=hp.lb r hr;exact⟨g,h1,h2,k.cells _ _ _ _ h3 (by decide)⟩,hp.li,hp.ro.ky k (by decide),own_ky hp.rl k (by decide),hp.rr,hp.tb.belowB hb hp.ap.b0⟩,hb,k.more (fun t ht=>by unfold hI;rcases ht with e|e <;> simp [e])⟩
 ·rcases hf.made j g hj with ⟨i,hi9⟩|h9
  ·exact hp.bf i g hi9
  exact Nat.le_trans hp.bW h9
 exact k.cells _ _ _ _ (hp.sl c s hc hs) (by decide)
end Go.Proofs.YtacccpkmgkojiaaGreatDoorRR
namespace Go.Proofs.YtacccpkmgkojiaaGreatDoorRR
set_option linter.unusedVariables false
set_option linter.unusedSimpArgs false
set_option maxRecDepth 20000
set_option maxHeartbeats 8000000
open Go.RowKit
theorem not202:¬hI 181:=by unfold hI;decide
theorem not157:¬hI 201:=by unfold hI;decide
theorem own_sl4 {W:World} {base:Nat} {e:TypeId} {size:Nat} {v:Value} {n:Nat} {xs:List Value} (h:W.ownsRow base e size v n xs):∃ a n c,v=.slice a n c:=by
 obtain⟨a,c,h⟩:=own_sl2 h;exact⟨a,n,c,h⟩
theorem Hp.off {B:Nat} {y:Ly} {d:Dy} {cf:Cf} {h:Hs} {W W':World} (hp:Hp B y d cf h W) {t:TypeId} (ht:t≠92∧t≠152∧t≠185∧t≠163∧t≠164∧t≠168∧t≠159∧t≠157∧t≠3∧t≠188∧t≠23) {Y:Nat} {c:Array Value} (hY:W.heap[Y]?=some (.cells c t (0,0))) (b:Below B W W') (g:W.grownBy W' (some Y)):Hp B y d cf h W':=by
 refine hp.keep ⟨(Ky.grown hY rfl g:Ky (· = t) W W').more (fun u hu=>by subst hu;exact ht),?_,?_⟩ b
 ·obtain⟨D,⟨es,c2,h2,_⟩,_⟩:=hp.sp.map;exact g.block _ (lt_blk h2) (fun e=>by simp at e;rw [e,hY] at h2;cases h2)
 obtain⟨es,c2,h2⟩:=hp.mp.typ;exact g.block _ (lt_blk h2) (fun e=>by simp at e;rw [e,hY] at h2;cases h2)
theorem Bi.loc {B Y:Nat} {W V V':World} (h:Bi B W V) (g:V.grownBy V' (some Y)) (hY:W.heap.size≤Y) (hB:B≤W.heap.size):Bi B W V' :=
 ⟨h.bel.trans ((Below.refl B V).grown g (Nat.le_trans hB h.bel.size) (fun r hr=>by simp at hr;omega)),g.os.trans h.ky.os,g.tape.trans h.ky.tape,g.output.trans h.ky.output,Nat.le_trans h.ky.size g.size,fun gg c u f hg hu=>by
  rw [g.block gg (Nat.lt_of_lt_of_le (lt_blk hg) h.ky.size) (fun e=>by simp at e;have:=lt_blk hg;omega)]
  exact h.ky.cells gg c u f hg hu⟩
def AskR (B:Nat) (y:Ly) (d:Dy) (cf:Cf) (h:Hs) (W:World) (m':Nat→Option (Bool×List Int)) (code:Int) (data:List Int) (e:Ending) (W':World):Prop :=
 ∃ f',Hp B y { d with f:=f' } cf { h with m:=m' } W'∧Bi B W W'∧((code=0∧∃ v,e=.returned v∧W'.ownsRow W.heap.size 5 1 v data.length (Ns .u8 data))∨(code≠0∧e=.panicked (refV code)))
theorem own_bel {W W':World} {B:Nat} {e:TypeId} {sz:Nat} {v:Value} {n:Nat} {xs:List Value} (h:W.ownsRow B e sz v n xs) (b:Below W.heap.size W W'):W'.ownsRow B e sz v n xs:=own_ky h (Ky.below b:Ky (fun _=>False) W W') (fun e=>e)
theorem Da.belowD {S M:Nat} {f:Nat→Option Nat} {w w':World} {p:Option Addr} {n:Nat} {ys:List Int} (h:Da S M f w p n ys) (b:Below w.heap.size w w'):Da S M f w' p n ys :=
 ⟨h.1,fun i hi=>by obtain ⟨x,h1,h2,h3,h4⟩:=h.2 i hi;exact⟨x,h1,below_cell b h2,Nat.lt_of_lt_of_le h3 b.size,h4⟩⟩
theorem im_ask (B:Nat) (y:Ly) (d:Dy) (cf:Cf) (h:Hs) (kd p c:Int) (a:Nat) (n:Int) (da:Option Addr) (dl dc:Nat) (ys:List Int) (W:World) (hp:Hp B y d cf h W) (hout:∀ k,283≤k→h.m k=none) (ha:a < 18446744073709551616) (hpm:p≤9223372036854775807) (hd:Da y.S y.M d.f W da dl ys) (hdc:dl≤dc) :
  Calls Tryz.prog 103 #[Vp y.P 0,opV kd p c a n da dl dc] W (AskR B y d cf h W (stepM 283 (cf.bud:Nat) h.m kd p c a n ys).1 (stepM 283 (cf.bud:Nat) h.m kd p c a n ys).2.1 (stepM 283 (cf.bud:Nat) h.m kd p c a n ys).2.2):=by
 have DO:=hid (fun V (hV:Below W.heap.size W V)=>im_do y.S y.M 283 (cf.bud:Nat) d.f h.m kd p c a n da dl dc ys V (hp.below hV).sp (hp.below hV).pg hout (by omega) ha hpm (hd.belowD hV) hdc);have FI:=hid (fun V V' f' m' (hV:Below W.heap.size W V) (hi:Im y.S y.M 0 283 (cf.bud:Nat) f' V') (hg:Pg f' m' V') (hf:Fr y.S y.M d.f f' V V')=>(hp.below hV).space hi hg hf);have C6:=hp.cell 6 (by omega) _ rfl;have BW:=hid hp.bW;generalize stepM 283 (cf.bud:Nat) h.m kd p c a n ys=r at *;obtain⟨m',code,data⟩:=r;dsimp only at *;unfold opV at DO ⊢;obtain⟨V,hV⟩:∃ V,V=W.alloc (.cells #[Vi kd,Vi p,Vi c,Vu (a:Nat),Vi n,.slice da dl dc] 181):=⟨_,rfl⟩;have bV:Below W.heap.size W V:=by rw [hV];exact (Below.refl _ _).alloc (Nat.le_refl _) _
 have X:=(show V.heap[W.heap.size]?=some (.cells #[Vi kd,Vi p,Vi c,Vu (a:Nat),Vi n,.slice da dl dc] 181 (0,0)) by rw [hV];exact al_last W _);have C6V:=below_cell bV C6;have BV:=hid bV;obtain⟨SP,hSP⟩:∃ SP,SP=y.S:=⟨_,rfl⟩;obtain⟨PP,hPP⟩:∃ PP,PP=y.P:=⟨_,rfl⟩;have e6:boxF cf y d h.used 6=Vp y.S 0:=rfl;rw [e6] at C6V;rw [←hSP] at DO C6V;rw [←hPP] at C6V ⊢;clear hp hd C6 bV e6;obtain⟨XX,hXX⟩:∃ XX,XX=W.heap.size:=⟨_,rfl⟩;have CK:=hid (show ∀ W9:World,W9.cell? ⟨PP,6,none⟩=some (Vp SP 0)→W9.heap[XX]?=some (.cells #[Vi kd,Vi p,Vi c,Vu (a:Nat),Vi n,.slice da dl dc] 181 (0,0))→W9.cell? ⟨PP,6,none⟩=some (Vp SP 0)∧W9.cell? ⟨XX,0,none⟩=some (Vi kd)∧W9.cell? ⟨XX,1,none⟩=some (Vi p)∧W9.cell? ⟨XX,2,none⟩=some (Vi c)∧W9.cell? ⟨XX,3,none⟩=some (Vu (a:Nat))∧W9.cell? ⟨XX,4,none⟩=some (Vi n)∧W9.cell? ⟨XX,5,none⟩=some (.slice da dl dc) from fun W9 c6 x=>by
  exact⟨c6,by rw [cell_of_row _ _ _ _ _ _ x];rfl,by rw [cell_of_row _ _ _ _ _ _ x];rfl,by rw [cell_of_row _ _ _ _ _ _ x];rfl,by rw [cell_of_row _ _ _ _ _ _ x];rfl,by rw [cell_of_row _ _ _ _ _ _ x];rfl,by rw [cell_of_row _ _ _ _ _ _ x];rfl⟩)
 have HSP:=hid hSP;have HPP:=hid hPP;rw [←hXX] at X;have HXX:=hid hXX;have XV:=hid X;have C6W:=hid C6V;clear C6V X hSP hPP;go_enter Tryz.func103,Tryz.ntmps103;go_upto_region 1 with fail
 refine Eq.mp (congrArg _ hV) ?_;clear hV;rw [←hXX];clear hXX;refine wp_region_held (S:=fun W9=>W9.cell? ⟨PP,6,none⟩=some (Vp SP 0)∧W9.cell? ⟨XX,0,none⟩=some (Vi kd)∧W9.cell? ⟨XX,1,none⟩=some (Vi p)∧W9.cell? ⟨XX,2,none⟩=some (Vi c)∧W9.cell? ⟨XX,3,none⟩=some (Vu (a:Nat))∧W9.cell? ⟨XX,4,none⟩=some (Vi n)∧W9.cell? ⟨XX,5,none⟩=some (.slice da dl dc)) (by kernel_rfl) ?_;simp only [List.size_toArray,List.length_cons,List.length_nil,Nat.reduceAdd,Array.replicate_succ,Array.replicate_zero,List.push_toArray,List.nil_append,List.cons_append];have hS:=CK.out V.drew C6W.out XV.out
 iterate 5 (refine py hS ?_;simp only [f0,f1,Nat.reduceAdd,lz,l0,ls])
 refine wpAnyH_all (rs:=[5,6]) (by kernel_rfl) (by simp) (fun i9 hi9=>?_)
 rcases (by simpa using hi9:i9=5∨i9=6) with hi9|hi9
 ·subst hi9;refine wpOp_do rfl (by kernel_rfl) (fun K' hK=>?_);go_simp;refine (DO.out _ (BV.out.drew)).mono ?_;rintro e V1 ⟨v,rfl,own1,f',i1,g1,fr1⟩;rw [HSP.out] at i1 fr1;obtain⟨hp1,bi1⟩:=FI.out _ V1 f' m' (BV.out.drew) i1 g1 fr1;have kt1:=bi1.ky;obtain⟨va,vn,vc,rfl⟩:=own_sl4 own1;have x1:V1.heap[XX]?=some (.cells #[Vi kd,Vi p,Vi c,Vu (a:Nat),Vi n,.slice da dl dc] 181 (0,0)):=kt1.cells _ _ _ _ (show V.drew.heap[XX]?=_ from XV.out) not202;have p1:V1.cell? ⟨PP,6,none⟩=some (Vp SP 0):=by rw [HPP.out,HSP.out];exact hp1.cell 6 (by omega) _ rfl
  have h1:=CK.out _ p1 x1;refine hK.out _ _ ⟨h1,?_⟩;clear hS;have hS:=h1;clear hK K';refine po 6 fun K' hK=>?_
  go_simp;have b2:Below V1.heap.size V1 (V1.alloc (.cells #[Vi 0,Vn] 201)):=(Below.refl _ _).alloc (Nat.le_refl _) _;have Y2:=al_last V1 (.cells #[Vi 0,Vn] 201);have h2:=CK.out _ (below_cell b2 p1) ((b2.block _ (lt_blk x1)).trans x1);refine hK.out _ _ ⟨h2,?_⟩;clear hS hK K';have hS:=h2;have BI:=(Bi.ofBelow BV.out.drew BW.out).trans (bi1.add b2 (Nat.le_trans BW.out (Nat.le_trans BV.out.size bi1.bel.size)));have HP2:=hp1.below b2;have OW2:=own_bel (own_mono own1 (BV.out.size)) b2;have X2b:=(b2.block _ (lt_blk x1)).trans x1;generalize V1.alloc _=V2 at *;generalize hYe:V1.heap.size=Y at *;have BY:W.heap.size≤Y:=by rw [←hYe];exact Nat.le_trans BV.out.size bi1.bel.size
  have X2:=X2b;clear hYe;refine po 7 fun K' hK=>?_
  refine wp_store_row 201 _ _ rfl Y _ rfl rfl 201 _ Y2 (by kernel_rfl) rfl (by simp [Value.oneCell']) ?_;have g3:=grown_setRow V2 Y #[Vi code,.slice va vn vc];have k3:Ky (· = 201) V2 (V2.setRow Y #[Vi code,.slice va vn vc]):=Ky.grown Y2 rfl g3;have x2:V2.heap[XX]?=some (.cells #[Vi kd,Vi p,Vi c,Vu (a:Nat),Vi n,.slice da dl dc] 181 (0,0)):=X2;have hYB:B≤Y:=Nat.le_trans BW.out BY;have b3:Below B V2 (V2.setRow Y #[Vi code,.slice va vn vc]):=(Below.refl _ _).grown g3 HP2.bW (fun r hr=>by simp at hr;omega);have HP3:=HP2.off (by decide) Y2 b3 g3;have h3:=CK.out _ (show (V2.setRow Y #[Vi code,.slice va vn vc]).cell? ⟨PP,6,none⟩=_ by rw [HPP.out,HSP.out];exact HP3.cell 6 (by omega) _ rfl) (k3.cells _ _ _ _ x2 (by decide));refine hK.out _ _ ⟨h3,?_⟩;clear hS hK K';have hS:=h3;refine wpAnyH_done (by kernel_rfl) ?_ _;have XU:=setRow_at (v:=V2) Y2 #[Vi code,.slice va vn vc];have HU:=And.intro HP3 (And.intro (BI.loc g3 BY BW.out) (own_ky OW2 k3 (by decide)));clear h3 x2 X2 k3 g3 b3 HP2 HP3 BI OW2 Y2 hYB BY;generalize V2.setRow Y #[Vi code,.slice va vn vc]=U at *;have HF:=hid (show Hp B y { d with f:=f' } cf { h with m:=m' } U∧Bi B W U∧U.ownsRow W.heap.size 5 1 (.slice va vn vc) data.length (Ns .u8 data) from HU);have y0:U.cell? ⟨Y,0,none⟩=some (Vi code):=by rw [cell_of_row _ _ _ _ _ _ XU];rfl
  have y1:U.cell? ⟨Y,1,none⟩=some (.slice va vn vc):=by rw [cell_of_row _ _ _ _ _ _ XU];rfl
  clear HU XU hS
  by_cases hc0:code=0
  ·subst hc0;go_wp2;go_ret;exact⟨f',HF.out.1,HF.out.2.1,.inl ⟨rfl,_,rfl,HF.out.2.2⟩⟩
  have hc0':(code != 0)=true:=by simpa using hc0
  go_wp2;exact⟨rfl,f',HF.out.1,HF.out.2.1,.inr ⟨hc0,rfl⟩⟩
 subst hi9;refine wpOp_do rfl (by kernel_rfl) (fun K' hK=>?_);go_simp;have b2:Below V.heap.size V (V.alloc (.cells #[Vi 0,Vn] 201)).drew:=((Below.refl _ _).alloc (Nat.le_refl _) _).drew;have Y1:(V.alloc (.cells #[Vi 0,Vn] 201)).drew.heap[V.heap.size]?=_:=al_last V (.cells #[Vi 0,Vn] 201);have h2:=CK.out _ (below_cell b2 C6W.out) ((b2.block _ (lt_blk XV.out)).trans XV.out);refine hK.out _ _ ⟨h2,?_⟩;clear hS hK K';have hS:=h2;have x0:=(b2.block _ (lt_blk XV.out)).trans XV.out;have BV2:=BV.out.trans (b2.mono BV.out.size);have SZ:=b2.size;generalize World.drew (V.alloc _)=V0 at *;generalize hYe:V.heap.size=Y at *;refine po 5 fun K' hK=>?_
 go_simp;refine (DO.out _ (BV2)).mono ?_;rintro e V1 ⟨v,rfl,own1,f',i1,g1,fr1⟩;rw [HSP.out] at i1 fr1;obtain⟨hp1,bi1⟩:=FI.out _ V1 f' m' (BV2) i1 g1 fr1;have kt1:=bi1.ky;obtain⟨va,vn,vc,rfl⟩:=own_sl4 own1;have x1:V1.heap[XX]?=some (.cells #[Vi kd,Vi p,Vi c,Vu (a:Nat),Vi n,.slice da dl dc] 181 (0,0)):=kt1.cells _ _ _ _ x0 not202;have p1:V1.cell? ⟨PP,6,none⟩=some (Vp SP 0):=by rw [HPP.out,HSP.out];exact hp1.cell 6 (by omega) _ rfl
 have h1:=CK.out _ p1 x1;refine hK.out _ _ ⟨h1,?_⟩;clear hS;have hS:=h1;clear hK K';have Y2:=kt1.cells _ _ _ _ Y1 not157;have BI:=(Bi.ofBelow BV2 BW.out).trans bi1;have HP2:=hp1;have OW2:=own_mono own1 BV2.size;have BY:W.heap.size≤Y:=by rw [←hYe];exact BV.out.size
 have X2:=x1;clear hYe;generalize hVe:V1=V2 at *;clear hVe;refine po 7 fun K' hK=>?_
 refine wp_store_row 201 _ _ rfl Y _ rfl rfl 201 _ Y2 (by kernel_rfl) rfl (by simp [Value.oneCell']) ?_;have g3:=grown_setRow V2 Y #[Vi code,.slice va vn vc];have k3:Ky (· = 201) V2 (V2.setRow Y #[Vi code,.slice va vn vc]):=Ky.grown Y2 rfl g3;have x2:V2.heap[XX]?=some (.cells #[Vi kd,Vi p,Vi c,Vu (a:Nat),Vi n,.slice da dl dc] 181 (0,0)):=X2;have hYB:B≤Y:=Nat.le_trans BW.out BY;have b3:Below B V2 (V2.setRow Y #[Vi code,.slice va vn vc]):=(Below.refl _ _).grown g3 HP2.bW (fun r hr=>by simp at hr;omega);have HP3:=HP2.off (by decide) Y2 b3 g3;have h3:=CK.out _ (show (V2.setRow Y #[Vi code,.slice va vn vc]).cell? ⟨PP,6,none⟩=_ by rw [HPP.out,HSP.out];exact HP3.cell 6 (by omega) _ rfl) (k3.cells _ _ _ _ x2 (by decide));refine hK.out _ _ ⟨h3,?_⟩;clear hS hK K';have hS:=h3;refine wpAnyH_done (by kernel_rfl) ?_ _;have XU:=setRow_at (v:=V2) Y2 #[Vi code,.slice va vn vc];have HU:=And.intro HP3 (And.intro (BI.loc g3 BY BW.out) (own_ky OW2 k3 (by decide)));clear h3 x2 X2 k3 g3 b3 HP2 HP3 BI OW2 Y2 hYB BY;generalize V2.setRow Y #[Vi code,.slice va vn vc]=U at *;have HF:=hid (show Hp B y { d with f:=f' } cf { h with m:=m' } U∧Bi B W U∧U.ownsRow W.heap.size 5 1 (.slice va vn vc) data.length (Ns .u8 data) from HU);have y0:U.cell? ⟨Y,0,none⟩=some (Vi code):=by rw [cell_of_row _ _ _ _ _ _ XU];rfl
 have y1:U.cell? ⟨Y,1,none⟩=some (.slice va vn vc):=by rw [cell_of_row _ _ _ _ _ _ XU];rfl
 clear HU XU hS
 by_cases hc0:code=0
 ·subst hc0;go_wp2;go_ret;exact⟨f',HF.out.1,HF.out.2.1,.inl ⟨rfl,_,rfl,HF.out.2.2⟩⟩
 have hc0':(code != 0)=true:=by simpa using hc0
 go_wp2;exact⟨rfl,f',HF.out.1,HF.out.2.1,.inr ⟨hc0,rfl⟩⟩
end Go.Proofs.YtacccpkmgkojiaaGreatDoorRR
namespace Go.Proofs.YtacccpkmgkojiaaGreatDoorRR
set_option linter.unusedVariables false
set_option linter.unusedSimpArgs false
set_option maxRecDepth 20000
set_option maxHeartbeats 8000000
open Go.RowKit
theorem Da.nil (S M:Nat) (f:Nat→Option Nat) (w:World):Da S M f w none 0 []:=⟨rfl,fun i hi=>by omega⟩
theorem im_hload (B:Nat) (y:Ly) (d:Dy) (cf:Cf) (h:Hs) (a n:Nat) (W:World) (hp:Hp B y d cf h W) (hout:∀ k,283≤k→h.m k=none) (ha:a < 18446744073709551616) (hn:n < 18446744073709551616) :
  Calls Tryz.prog 70 #[Vp y.P 0,Vu (a:Nat),Vu (n:Nat)] W (AskR B y d cf h W h.m (accC h.m a ((min n 4097:Nat):Int)) (if accC h.m a ((min n 4097:Nat):Int)=0 then loadB h.m a (min n 4097) else [])):=by
 have C:=hid (im_ask B y d cf h 4 0 0 a ((min n 4097:Nat):Int) none 0 0 [] W hp hout ha (by omega) (Da.nil _ _ _ _) (Nat.le_refl _));unfold stepM at C;simp only [if_pos] at C;rw [Int.toNat_natCast] at C;unfold opV at C;generalize (if accC h.m a ((min n 4097:Nat):Int)=0 then loadB h.m a (min n 4097) else [])=data at *;generalize accC h.m a ((min n 4097:Nat):Int)=code at *;clear hp hout;generalize y.P=P at *
 by_cases hle:n≤4097
 ·rw [Nat.min_eq_left hle] at C;go_enter Tryz.func70,Tryz.ntmps70;go_wp2_with fail;refine (C.out).mono ?_;rintro e W' ⟨f',hp1,bi,⟨hc,v,rfl,own⟩|⟨hc,rfl⟩⟩
  ·have HF:=hid (And.intro hp1 (And.intro bi own));clear hp1 bi own C;go_wp2;go_ret;exact⟨f',HF.out.1,HF.out.2.1,.inl ⟨hc,v,rfl,HF.out.2.2⟩⟩
  exact⟨rfl,f',hp1,bi,.inr ⟨hc,rfl⟩⟩
 rw [Nat.min_eq_right (by omega)] at C;go_enter Tryz.func70,Tryz.ntmps70;go_wp2_with fail;refine (C.out).mono ?_;rintro e W' ⟨f',hp1,bi,⟨hc,v,rfl,own⟩|⟨hc,rfl⟩⟩
 ·have HF:=hid (And.intro hp1 (And.intro bi own));clear hp1 bi own C;go_wp2;go_ret;exact⟨f',HF.out.1,HF.out.2.1,.inl ⟨hc,v,rfl,HF.out.2.2⟩⟩
 exact⟨rfl,f',hp1,bi,.inr ⟨hc,rfl⟩⟩
def StoR (B:Nat) (y:Ly) (d:Dy) (cf:Cf) (h:Hs) (W:World) (m':Nat→Option (Bool×List Int)) (code:Int) (e:Ending) (W':World):Prop :=
 ∃ f',Hp B y { d with f:=f' } cf { h with m:=m' } W'∧Bi B W W'∧((code=0∧e=.returned (.tuple #[]))∨(code≠0∧e=.panicked (refV code)))
theorem im_hstore (B:Nat) (y:Ly) (d:Dy) (cf:Cf) (h:Hs) (a:Nat) (da:Option Addr) (dl dc:Nat) (ys:List Int) (W:World) (hp:Hp B y d cf h W) (hout:∀ k,283≤k→h.m k=none) (ha:a < 18446744073709551616) (hd:Da y.S y.M d.f W da dl ys) (hdc:dl≤dc) :
  Calls Tryz.prog 71 #[Vp y.P 0,Vu (a:Nat),.slice da dl dc] W (StoR B y d cf h W (if accC h.m a (ys.length:Int)=0 then storeM h.m a ys ys.length else h.m) (accC h.m a (ys.length:Int))):=by
 have C:=hid (im_ask B y d cf h 5 0 0 a 0 da dl dc ys W hp hout ha (by omega) hd hdc);unfold stepM at C;rw [if_neg (by decide),if_pos rfl] at C;unfold opV at C;dsimp only at C;generalize (if accC h.m a (ys.length:Int)=0 then storeM h.m a ys ys.length else h.m)=m' at *;generalize accC h.m a (ys.length:Int)=code at *;clear hp hout hd;generalize y.P=P at *;go_enter Tryz.func71,Tryz.ntmps71;go_wp2_with fail;refine (C.out).mono ?_;rintro e W' ⟨f',hp1,bi,⟨hc,v,rfl,own⟩|⟨hc,rfl⟩⟩
 ·have HF:=hid (And.intro hp1 (And.intro bi own));clear hp1 bi own C;go_wp2
  go_end0
  exact⟨f',HF.out.1,HF.out.2.1,.inl ⟨hc,rfl⟩⟩
 exact⟨rfl,f',hp1,bi,.inr ⟨hc,rfl⟩⟩
end Go.Proofs.YtacccpkmgkojiaaGreatDoorRR
namespace Go.Proofs.YtacccpkmgkojiaaGreatDoorRR
set_option linter.unusedVariables false
set_option linter.unusedSimpArgs false
set_option maxRecDepth 20000
set_option maxHeartbeats 8000000
open Go.RowKit
def tgtM (an:List An4) (o:Op6):Option Nat :=
 if o.ref=0 then some o.p
 else if o.ref < 0∨(an.length:Int) < o.ref then none
 else some ((o.p+((an[o.ref.toNat - 1]?.map An4.addr).getD 0)) % 18446744073709551616)
theorem stepH_tgt (cf:Cf) (h:Hs) (an:List An4) (o:Op6):stepH cf h an o=match tgtM an o with
  | some p=>doM cf h o p
  | none=>(.no 6,h):=by
 unfold stepH tgtM
 by_cases h1:o.ref=0
 ·rw [if_pos h1,if_pos h1]
 rw [if_neg h1,if_neg h1]
 by_cases h2:o.ref < 0∨(an.length:Int) < o.ref
 ·rw [if_pos h2,if_pos h2]
 rw [if_neg h2,if_neg h2]
structure Ans9 (B:Nat) (W:World) (l:List Aw) (v:Value):Prop where
 row:W.ownsRow B 49 4 v l.length (flatB l)
 len:l.length≤300
def TgtR (W:World) (r:Option Nat) (e:Ending) (W':World):Prop:=Below W.heap.size W W'∧((∃ p,r=some p∧e=.returned (Vu (p:Nat)))∨(r=none∧e=.panicked (refV 6)))
theorem im_target (B P:Nat) (o:Op6) (dd:Option Addr) (dl dc:Nat) (l:List Aw) (va:Option Addr) (vn vc:Nat) (W:World) (c119:W.cell? ⟨P,119,none⟩=some (.slice va vn vc)) (hA:Ans9 B W l (.slice va vn vc)) (ho:o.p < 18446744073709551616) (hr1 : -9223372036854775808≤o.ref) :
  Calls Tryz.prog 63 #[Vp P 0,.agg #[Vi o.kd,Vi o.ref,Vu (o.p:Nat),Vu (o.a:Nat),Vu (o.b:Nat),.slice dd dl dc]] W (TgtR W (tgtM (l.map (·.1)) o)):=by
 have hvn:vn=l.length:=by
  obtain⟨a,c,e⟩:=own_sl2 hA.row;injection e with _ e2 _
 have hll:=hA.len;obtain⟨V,hV⟩:∃ V,V=W.alloc (.cells #[Vi o.kd,Vi o.ref,Vu (o.p:Nat),Vu (o.a:Nat),Vu (o.b:Nat),.slice dd dl dc] 42):=⟨_,rfl⟩;have bV:Below W.heap.size W V:=by rw [hV];exact (Below.refl _ _).alloc (Nat.le_refl _) _
 have X:=(show V.heap[W.heap.size]?=some (.cells #[Vi o.kd,Vi o.ref,Vu (o.p:Nat),Vu (o.a:Nat),Vu (o.b:Nat),.slice dd dl dc] 42 (0,0)) by rw [hV];exact al_last W _);have z1:V.cell? ⟨W.heap.size,1,none⟩=some (Vi o.ref):=by rw [cell_of_row _ _ _ _ _ _ X];rfl
 have z2:V.cell? ⟨W.heap.size,2,none⟩=some (Vu (o.p:Nat)):=by rw [cell_of_row _ _ _ _ _ _ X];rfl
 have y9:=below_cell bV c119;have AV:=hid (own_bel hA.row bV);have BV:=hid bV;clear c119 hA X bV
 by_cases hr0:o.ref=0
 ·have HE:=hid (show tgtM (l.map (·.1)) o=some o.p by unfold tgtM;rw [if_pos hr0]);have hz:(o.ref==0)=true:=by simpa using hr0
  clear y9 AV hr0;generalize o.ref=rf at *;go_enter Tryz.func63,Tryz.ntmps63;go_upto_region 1 with fail
  refine Eq.mp (congrArg _ hV) ?_;clear hV;generalize W.heap.size=X at z1 z2 ⊢;go_wp2;go_ret;rw [HE.out];exact⟨BV.out,.inl ⟨_,rfl,rfl⟩⟩
 have hz:(o.ref==0)=false:=by simpa using hr0
 by_cases hneg:o.ref < 0
 ·have HE:=hid (show tgtM (l.map (·.1)) o=none by unfold tgtM;rw [if_neg hr0,if_pos (.inl hneg)]);clear AV hr0;generalize o.ref=rf at *;go_enter Tryz.func63,Tryz.ntmps63;go_upto_region 1 with fail
  refine Eq.mp (congrArg _ hV) ?_;clear hV;generalize W.heap.size=X at z1 z2 ⊢;go_upto_region 3 with fail
  refine wp_region_held (S:=fun W9=>W9.cell? ⟨X,1,none⟩=some (Vi rf)∧W9.cell? ⟨P,119,none⟩=some (.slice va vn vc)) (by kernel_rfl) ?_;simp only [List.size_toArray,List.length_cons,List.length_nil,Nat.reduceAdd,Array.replicate_succ,Array.replicate_zero,List.push_toArray,List.nil_append,List.cons_append];have hS:=And.intro (show V.drew.cell? _=_ from z1) (show V.drew.cell? _=_ from y9);refine pk 0 10 (Vp X 1) hS ?_;simp only [lz,l0,ls];refine pz 1 11 (Vi (rf)) hS ?_;simp only [lz,l0,ls];refine pz 2 12 (.bool true) hS ?_;simp only [lz,l0,ls];refine pk 3 13 (.bool true) hS ?_;simp only [lz,l0,ls];refine ps 4 14 hS ?_;simp only [lz,l0,ls];refine ps 5 15 hS ?_;simp only [lz,l0,ls];refine ps 6 16 hS ?_;simp only [lz,l0,ls];refine ps 7 17 hS ?_;simp only [lz,l0,ls];refine ps 8 18 hS ?_;simp only [lz,l0,ls];refine ps 9 19 hS ?_;simp only [lz,l0,ls];refine ps 10 20 hS ?_;simp only [lz,l0,ls];refine ps 11 21 hS ?_;simp only [lz,l0,ls];refine pz 12 22 (.bool true) hS ?_;simp only [lz,l0,ls];refine wpAnyH_done (by kernel_rfl) ?_ _;clear hS;go_wp2;rw [HE.out];exact⟨rfl,BV.out.drew,.inr ⟨rfl,rfl⟩⟩
 by_cases hgt:(l.length:Int) < o.ref
 ·have HE:=hid (show tgtM (l.map (·.1)) o=none by unfold tgtM;rw [if_neg hr0,if_pos (.inr (by simpa using hgt))]);clear AV hr0;rw [←hvn] at hgt;generalize o.ref=rf at *;go_enter Tryz.func63,Tryz.ntmps63;go_upto_region 1 with fail
  refine Eq.mp (congrArg _ hV) ?_;clear hV;generalize W.heap.size=X at z1 z2 ⊢;go_upto_region 3 with fail
  refine wp_region_held (S:=fun W9=>W9.cell? ⟨X,1,none⟩=some (Vi rf)∧W9.cell? ⟨P,119,none⟩=some (.slice va vn vc)) (by kernel_rfl) ?_;simp only [List.size_toArray,List.length_cons,List.length_nil,Nat.reduceAdd,Array.replicate_succ,Array.replicate_zero,List.push_toArray,List.nil_append,List.cons_append];have hS:=And.intro (show V.drew.cell? _=_ from z1) (show V.drew.cell? _=_ from y9);refine pk 0 10 (Vp X 1) hS ?_;simp only [lz,l0,ls];refine pz 1 11 (Vi (rf)) hS ?_;simp only [lz,l0,ls];refine pz 2 12 (.bool false) hS ?_;simp only [lz,l0,ls];refine pk 3 13 (.bool false) hS ?_;simp only [lz,l0,ls];refine pk 4 14 (Vp X 1) hS ?_;simp only [lz,l0,ls];refine pz 5 15 (Vi (rf)) hS ?_;simp only [lz,l0,ls];refine pk 6 16 (Vp P 0) hS ?_;simp only [lz,l0,ls];refine pk 7 17 (Vp P 0) hS ?_;simp only [lz,l0,ls];refine pk 8 18 (Vp P 119) hS ?_;simp only [lz,l0,ls];refine pz 9 19 (.slice va vn vc) hS ?_;simp only [lz,l0,ls];refine pz 10 20 (Vi (vn:Nat)) hS ?_;simp only [lz,l0,ls];refine pz 11 21 (.bool true) hS ?_;simp only [lz,l0,ls];refine pz 12 22 (.bool true) hS ?_;simp only [lz,l0,ls];refine wpAnyH_done (by kernel_rfl) ?_ _;clear hS;go_wp2;rw [HE.out];exact⟨rfl,BV.out.drew,.inr ⟨rfl,rfl⟩⟩
 obtain⟨rr,hrr⟩:∃ rr:Nat,o.ref=(rr:Int)+1:=⟨(o.ref - 1).toNat,by omega⟩;have hrk:rr < l.length:=by omega
 obtain⟨q,hq⟩:∃ q,l[rr]?=some q:=⟨_,List.getElem?_eq_getElem hrk⟩;obtain⟨gA,hgA⟩:∃ gA,va=some ⟨gA,0,none⟩:=by
  rw [hvn] at AV;exact own_at AV.out (by omega)
 subst hgA;have cA:V.cell? ⟨gA,rr*4+1,none⟩=some (Vu (q.1.addr:Nat)):=by
  have:=AV.out;rw [hvn] at this;exact own_cell this (rr*4+1) _ (flat_at aC 4 (fun _=>rfl) l rr q hq 1 (by omega))
 have HE:=hid (show tgtM (l.map (·.1)) o=some ((o.p+q.1.addr) % 18446744073709551616) by
  unfold tgtM;rw [if_neg hr0,if_neg (by simp;omega)];have e1:o.ref.toNat - 1=rr:=by omega
  rw [e1,List.getElem?_map,hq];rfl)
 have hr2:(o.ref - 1)=(rr:Int):=by omega
 have hwr:IntKind.i64.wrap (o.ref - 1)=(rr:Int):=by rw [hr2];rw [IntKind.wrap_i64];omega
 have hrk':(rr:Int) < (vn:Int):=by omega
 have HWR:=hid (show IntKind.u64.wrap ((o.p:Int)+(q.1.addr:Int))=(((o.p+q.1.addr) % 18446744073709551616:Nat):Int) by rw [wrap_u64x];simp);rw [←hvn] at hgt;clear hr0 hq hrr AV hrk hvn hll hr2;generalize q.1.addr=ya at *;generalize o.ref=rf at *;go_enter Tryz.func63,Tryz.ntmps63;go_upto_region 1 with fail
 refine Eq.mp (congrArg _ hV) ?_;clear hV;generalize W.heap.size=X at z1 z2 ⊢;go_upto_region 3 with fail
 refine wp_region_held (S:=fun W9=>W9.cell? ⟨X,1,none⟩=some (Vi rf)∧W9.cell? ⟨P,119,none⟩=some (Vl gA vn vc)) (by kernel_rfl) ?_;simp only [List.size_toArray,List.length_cons,List.length_nil,Nat.reduceAdd,Array.replicate_succ,Array.replicate_zero,List.push_toArray,List.nil_append,List.cons_append];have hS:=And.intro (show V.drew.cell? _=_ from z1) (show V.drew.cell? _=_ from y9);refine pk 0 10 (Vp X 1) hS ?_;simp only [lz,l0,ls];refine pz 1 11 (Vi (rf)) hS ?_;simp only [lz,l0,ls];refine pz 2 12 (.bool false) hS ?_;simp only [lz,l0,ls];refine pk 3 13 (.bool false) hS ?_;simp only [lz,l0,ls];refine pk 4 14 (Vp X 1) hS ?_;simp only [lz,l0,ls];refine pz 5 15 (Vi (rf)) hS ?_;simp only [lz,l0,ls];refine pk 6 16 (Vp P 0) hS ?_;simp only [lz,l0,ls];refine pk 7 17 (Vp P 0) hS ?_;simp only [lz,l0,ls];refine pk 8 18 (Vp P 119) hS ?_;simp only [lz,l0,ls];refine pz 9 19 (Vl gA vn vc) hS ?_;simp only [lz,l0,ls];refine pz 10 20 (Vi (vn:Nat)) hS ?_;simp only [lz,l0,ls];refine pz 11 21 (.bool false) hS ?_;simp only [lz,l0,ls];refine pz 12 22 (.bool false) hS ?_;simp only [lz,l0,ls];refine wpAnyH_done (by kernel_rfl) ?_ _;clear hS;go_upto_region 5 with fail
 refine wp_region_held (S:=fun W9=>W9.cell? ⟨X,1,none⟩=some (Vi rf)∧W9.cell? ⟨X,2,none⟩=some (Vu (o.p:Nat))∧W9.cell? ⟨P,119,none⟩=some (Vl gA vn vc)∧W9.cell? ⟨gA,rr*4+1,none⟩=some (Vu (ya:Nat))) (by kernel_rfl) ?_;simp only [List.size_toArray,List.length_cons,List.length_nil,Nat.reduceAdd,Array.replicate_succ,Array.replicate_zero,List.push_toArray,List.nil_append,List.cons_append];have hS:=And.intro (show V.drew.drew.cell? _=_ from z1) (And.intro (show V.drew.drew.cell? _=_ from z2) (And.intro (show V.drew.drew.cell? _=_ from y9) (show V.drew.drew.cell? _=_ from cA)));refine pk 0 25 (Vp X 2) hS ?_;simp only [lz,l0,ls];refine pz 1 26 (Vu (o.p:Nat)) hS ?_;simp only [lz,l0,ls];refine pk 2 27 (Vp P 0) hS ?_;simp only [lz,l0,ls];refine pk 3 28 (Vp P 0) hS ?_;simp only [lz,l0,ls];refine pk 4 29 (Vp P 119) hS ?_;simp only [lz,l0,ls];refine pz 5 30 (Vl gA vn vc) hS ?_;simp only [lz,l0,ls];refine pk 6 31 (Vp X 1) hS ?_;simp only [lz,l0,ls];refine pz 7 32 (Vi rf) hS ?_;simp only [lz,l0,ls];refine pz 8 33 (Vi (rr:Nat)) hS ?_;simp only [lz,l0,ls];refine pz 9 34 (Vp gA (rr*4)) hS ?_;simp only [lz,l0,ls];refine pk 10 35 (Vp gA (rr*4+1)) hS ?_;simp only [lz,l0,ls];refine pz 11 36 (Vu (ya:Nat)) hS ?_;simp only [lz,l0,ls];refine pz 12 37 (Vu (IntKind.u64.wrap ((o.p:Int)+(ya:Int)))) hS ?_;simp only [lz,l0,ls];refine pk 13 4 (Vu (IntKind.u64.wrap ((o.p:Int)+(ya:Int)))) hS ?_;simp only [lz,l0,ls];refine wpAnyH_done (by kernel_rfl) ?_ _;clear hS;go_wp2;go_ret;rw [HE.out];exact⟨BV.out.drew.drew,.inl ⟨_,rfl,by rw [←HWR.out];rfl⟩⟩
end Go.Proofs.YtacccpkmgkojiaaGreatDoorRR
