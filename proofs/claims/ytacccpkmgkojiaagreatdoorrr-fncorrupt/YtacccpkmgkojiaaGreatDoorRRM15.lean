import Derived.Below
import Derived.BigGuardIn
import Derived.BigQuiet
import Derived.BigRegionIn
import Derived.Conc.MuLone
import Derived.Deep.AppendLies
import Derived.Deep.CutBlock
import Derived.Deep.DeepCutAuto
import Derived.Deep.LoopGhost
import Derived.Deep.MidRow
import Derived.Deep.OwnRows
import Derived.Deep.QuietTactic
import Derived.Deep.RegionLaw
import Derived.Deep.RegionWith
import Derived.KernelRfl
import Derived.Laws.CopyOwn
import Derived.Laws.OwnMore
import Derived.Laws.Rows
import Derived.Laws.Tables
import Derived.Lib.SmallJoins
import Derived.LoopIn
import Derived.LoopNIn
import Derived.Maps.OwnOps
import Derived.Maps.OwnSet
import Derived.OpenShut
import Derived.OrdersHeld
import Derived.OwnWalkIn
import Derived.ProofKit
import Derived.RangeFuncBound
import Derived.RangeFuncCalls
import Derived.RangeFuncLeaves
import Derived.RangeFuncNested
import Derived.Shelf.Abstract
import Derived.Shelf.Bits.Mul64
import Derived.Shelf.RegionOpen
import Derived.TacticsInMore
import Derived.Test.YtacccpkmgkojiaaGreatDoorRRProg
import Derived.WalkKit
import Derived.WalkLawsBesides
import Derived.Test.YtacccpkmgkojiaaGreatDoorRRM00
import Derived.Test.YtacccpkmgkojiaaGreatDoorRRM01
import Derived.Test.YtacccpkmgkojiaaGreatDoorRRM02
import Derived.Test.YtacccpkmgkojiaaGreatDoorRRM05
import Derived.Test.YtacccpkmgkojiaaGreatDoorRRM06
import Derived.Test.YtacccpkmgkojiaaGreatDoorRRM07
import Derived.Test.YtacccpkmgkojiaaGreatDoorRRM08
import Derived.Test.YtacccpkmgkojiaaGreatDoorRRM09
import Derived.Test.YtacccpkmgkojiaaGreatDoorRRM10
import Derived.Test.YtacccpkmgkojiaaGreatDoorRRM13
import Derived.Test.YtacccpkmgkojiaaGreatDoorRRM14
namespace Go.Proofs.YtacccpkmgkojiaaGreatDoorRR
set_option linter.unusedVariables false
set_option linter.unusedSimpArgs false
set_option maxRecDepth 20000
set_option maxHeartbeats 8000000
open Go.RowKit
structure Ky (S:TypeId→Prop) (W W':World):Prop where
 os:W'.os=W.os
 tape:W'.tape=W.tape
 output:W'.output=W.output
 size:W.heap.size≤W'.heap.size
 cells:∀ (g:Nat) (c:Array Value) (t:TypeId) (f:Nat×Nat),W.heap[g]?=some (.cells c t f)→¬S t→W'.heap[g]?=some (.cells c t f)
theorem Ky.below {S:TypeId→Prop} {W W':World} (h:Below W.heap.size W W'):Ky S W W':=⟨h.os,h.tape,h.output,h.size,fun g c t f hg _=>by rw [h.block g (lt_blk hg)];exact hg⟩
theorem Ky.refl (S:TypeId→Prop) (W:World):Ky S W W:=Ky.below (Below.refl _ _)
theorem Ky.trans {S:TypeId→Prop} {a b c:World} (h:Ky S a b) (k:Ky S b c):Ky S a c:=⟨k.os.trans h.os,k.tape.trans h.tape,k.output.trans h.output,Nat.le_trans h.size k.size,fun g cc t f hg ht=>k.cells g cc t f (h.cells g cc t f hg ht) ht⟩
theorem Ky.more {S S':TypeId→Prop} {W W':World} (h:Ky S W W') (hs:∀ t,S t→S' t):Ky S' W W':=⟨h.os,h.tape,h.output,h.size,fun g c t f hg ht=>h.cells g c t f hg (fun e=>ht (hs t e))⟩
theorem Ky.grown {S:TypeId→Prop} {W W':World} {P:Nat} {c:Array Value} {t:TypeId} {f:Nat×Nat} (hP:W.heap[P]?=some (.cells c t f)) (hS:S t) (hg:W.grownBy W' (some P)):Ky S W W':=by
 refine⟨hg.os,hg.tape,hg.output,hg.size,fun g c' t' f' hg' ht=>?_⟩;rw [hg.block g (lt_blk hg') (fun e=>?_)]
 ·exact hg'
 simp at e;subst e;rw [hP] at hg';simp at hg';exact ht (hg'.2.1▸hS)
theorem own_ky {S:TypeId→Prop} {W W':World} {B:Nat} {e:TypeId} {sz:Nat} {v:Value} {n:Nat} {xs:List Value} (h:W.ownsRow B e sz v n xs) (k:Ky S W W') (he:¬S e):W'.ownsRow B e sz v n xs:=by
 refine⟨h.1,?_⟩
 rcases h.2 with h2|⟨g,cap,cur,h1,h2,h3,h4⟩
 ·exact .inl h2
 exact .inr ⟨g,cap,cur,h1,h2,k.cells _ _ _ _ h3 he,h4⟩
theorem row_ky {S:TypeId→Prop} {W W':World} {g:Nat} {e:TypeId} {xs:List Value} (h:RowV W g e xs) (k:Ky S W W') (he:¬S e):RowV W' g e xs:=by
 obtain⟨c,h1,h2⟩:=h;exact⟨c,k.cells _ _ _ _ h1 he,h2⟩
def Us (zs:List Nat):List Value:=zs.map fun (n:Nat)=>Value.int .u64 (n:Int)
end Go.Proofs.YtacccpkmgkojiaaGreatDoorRR
namespace Go.Proofs.YtacccpkmgkojiaaGreatDoorRR
set_option linter.unusedVariables false
set_option linter.unusedSimpArgs false
set_option maxRecDepth 20000
set_option maxHeartbeats 8000000
open Go.RowKit
theorem own_sl2 {W:World} {base:Nat} {e:TypeId} {size:Nat} {v:Value} {n:Nat} {xs:List Value} (h:W.ownsRow base e size v n xs):∃ a c,v=.slice a n c:=by
 rcases h.2 with ⟨rfl,h0⟩|⟨g,cap,cur,rfl,_⟩
 ·subst h0;exact⟨_,_,rfl⟩
 exact⟨_,_,rfl⟩
theorem own_at {W:World} {B:Nat} {e:TypeId} {sz:Nat} {a:Option Addr} {n cap:Nat} {xs:List Value} (h:W.ownsRow B e sz (.slice a n cap) n xs) (hn:0 < n):∃ G,a=some ⟨G,0,none⟩:=by
 rcases h.2 with ⟨_,h0⟩|⟨g,cap',cur,e,_⟩
 ·omega
 simp at e;exact⟨g,e.1⟩
end Go.Proofs.YtacccpkmgkojiaaGreatDoorRR
namespace Go.Proofs.YtacccpkmgkojiaaGreatDoorRR
set_option linter.unusedVariables false
set_option linter.unusedSimpArgs false
set_option maxRecDepth 20000
set_option maxHeartbeats 8000000
open Go.RowKit
theorem own_set {W:World} {B:Nat} {e:TypeId} {sz:Nat} {G n cap:Nat} {xs:List Value} (h:W.ownsRow B e sz (Vl G n cap) n xs) (i:Nat) (hi:i < xs.length) (v:Value):(W.setCell ⟨G,i,none⟩ v).ownsRow B e sz (Vl G n cap) n (xs.set i v):=by
 refine⟨by rw [List.length_set];exact h.1,?_⟩
 rcases h.2 with ⟨e,_⟩|⟨g,cap',cur,e,h1,h2,h3,h4,h5,h6⟩
 ·simp at e
 simp at e;obtain⟨rfl,rfl⟩:=e;refine .inr ⟨G,cap,cur.setIfInBounds i v,rfl,h1,?_,h3,h4,by simpa using h5,?_⟩
 ·simp [World.setCell,Array.getElem?_modify,h2]
 rw [←h6,Array.toList_setIfInBounds,List.take_set]
theorem own_blk {W:World} {B:Nat} {e:TypeId} {sz:Nat} {G n cap:Nat} {xs:List Value} (h:W.ownsRow B e sz (Vl G n cap) n xs):∃ c,W.heap[G]?=some (.cells c e (0,0)):=by
 rcases h.2 with ⟨e,_⟩|⟨g,cap',cur,e,h1,h2,_⟩
 ·simp at e
 simp at e;obtain⟨rfl,rfl⟩:=e;exact⟨cur,h2⟩
end Go.Proofs.YtacccpkmgkojiaaGreatDoorRR
namespace Go.Proofs.YtacccpkmgkojiaaGreatDoorRR
set_option linter.unusedVariables false
set_option linter.unusedSimpArgs false
set_option maxRecDepth 20000
set_option maxHeartbeats 8000000
open Go.RowKit
theorem wrapU9 (x:Int) (h1:0≤x) (h2:x < 18446744073709551616):IntKind.u64.wrap x=x:=by
 rw [wrap_u64x];omega
theorem sp_usN (c:Nat) (W:World) (hc:c < 12):Calls Tryz.prog 22 #[Vi c] W fun e W'=>e=.returned (Vi (usN c:Nat))∧Below W.heap.size W W':=by
 refine (sp_Usable (c:Int) W).mono ?_;rintro e W' ⟨rfl,b⟩;exact⟨ret_int (us_c hc),b⟩
end Go.Proofs.YtacccpkmgkojiaaGreatDoorRR
namespace Go.Proofs.YtacccpkmgkojiaaGreatDoorRR
set_option linter.unusedVariables false
set_option linter.unusedSimpArgs false
set_option maxRecDepth 20000
set_option maxHeartbeats 8000000
open Go.RowKit
theorem freshM_in (m:Nat→Option (Bool×List Int)) (p:Nat):∀ k j,p≤j→j < p+k→freshM m p k j=some (false,List.replicate 1024 0)
 | 0,j,h1,h2=>by omega
 | k+1,j,h1,h2=>by
  show updM (freshM m p k) (p+k) _ j=_
  by_cases e:j=p+k
  ·subst e;rw [updM_same]
  rw [updM_other _ _ _ _ e];exact freshM_in m p k j h1 (by omega)
theorem freshM_lo (m:Nat→Option (Bool×List Int)) (p:Nat):∀ k j,j < p→freshM m p k j=m j
 | 0,j,h=>rfl
 | k+1,j,h=>by
  show updM (freshM m p k) (p+k) _ j=m j
  rw [updM_other _ _ _ _ (by omega)]
  exact freshM_lo m p k j h
theorem freshM_eq (m:Nat→Option (Bool×List Int)) (p k j:Nat):freshM m p k j=if p≤j∧j < p+k then some (false,List.replicate 1024 0) else m j:=by
 split
 ·rename_i h;exact freshM_in m p k j h.1 h.2
 rename_i h
 by_cases e:j < p
 ·exact freshM_lo m p k j e
 exact freshM_at m p k j (by omega)
theorem goneM_in (m:Nat→Option (Bool×List Int)) (p:Nat):∀ k j,p≤j→j < p+k→goneM m p k j=none
 | 0,j,h1,h2=>by omega
 | k+1,j,h1,h2=>by
  show updM (goneM m p k) (p+k) _ j=_
  by_cases e:j=p+k
  ·subst e;rw [updM_same]
  rw [updM_other _ _ _ _ e];exact goneM_in m p k j h1 (by omega)
theorem goneM_lo (m:Nat→Option (Bool×List Int)) (p:Nat):∀ k j,j < p→goneM m p k j=m j
 | 0,j,h=>rfl
 | k+1,j,h=>by
  show updM (goneM m p k) (p+k) _ j=m j
  rw [updM_other _ _ _ _ (by omega)]
  exact goneM_lo m p k j h
theorem goneM_eq (m:Nat→Option (Bool×List Int)) (p k j:Nat):goneM m p k j=if p≤j∧j < p+k then none else m j:=by
 split
 ·rename_i h;exact goneM_in m p k j h.1 h.2
 rename_i h
 by_cases e:j < p
 ·exact goneM_lo m p k j e
 exact goneM_at m p k j (by omega)
theorem putM_some (m:Nat→Option (Bool×List Int)) (p:Nat) (x:Int) (j:Nat):(putM m p x j).isSome=(m j).isSome:=by
 unfold putM
 by_cases e:j=p/1024
 ·subst e;rw [updM_same,Option.isSome_map]
 rw [updM_other _ _ _ _ e]
theorem storeM_is (m:Nat→Option (Bool×List Int)) (a:Nat) (ys:List Int):∀ k j,(storeM m a ys k j).isSome=(m j).isSome
 | 0,j=>rfl
 | k+1,j=>by simp only [storeM];rw [putM_some];exact storeM_is m a ys k j
def Fine (m:Nat→Option (Bool×List Int)):Prop:=∀ k q,m k=some q→q.1=false∧q.2.length=1024
theorem Fine.put {m:Nat→Option (Bool×List Int)} (h:Fine m) (p:Nat) (x:Int):Fine (putM m p x):=by
 intro k q hq;unfold putM at hq
 by_cases e:k=p/1024
 ·subst e;rw [updM_same] at hq
  cases hm:m (p/1024) with
  | none=>rw [hm] at hq;cases hq
  | some r =>
   rw [hm] at hq;simp at hq;subst hq;have:=h _ _ hm;exact⟨this.1,by simp [this.2]⟩
 rw [updM_other _ _ _ _ e] at hq;exact h k q hq
theorem Fine.store {m:Nat→Option (Bool×List Int)} (h:Fine m) (a:Nat) (ys:List Int):∀ k,Fine (storeM m a ys k)
 | 0=>h
 | k+1=>(Fine.store h a ys k).put _ _
theorem Fine.fresh {m:Nat→Option (Bool×List Int)} (h:Fine m) (p k:Nat):Fine (freshM m p k):=by
 intro j q hq;rw [freshM_eq] at hq
 split at hq
 ·injection hq with hq
  subst hq;exact⟨rfl,List.length_replicate⟩
 exact h j q hq
theorem Fine.gone {m:Nat→Option (Bool×List Int)} (h:Fine m) (p k:Nat):Fine (goneM m p k):=by
 intro j q hq;rw [goneM_eq] at hq
 split at hq
 ·cases hq
 exact h j q hq
theorem Fine.open {m:Nat→Option (Bool×List Int)} (h:Fine m) (k:Nat):isOpen (m k)=(m k).isSome:=by
 cases hm:m k with
 | none=>rfl
 | some q=>obtain ⟨l,xs⟩:=q;have:=(h k _ hm).1;simp at this;subst this;rfl
/-! slabs lie apart -/
theorem rgN_mono {c d:Nat} (h:c < d) (hd:d < 12):rgN c+6*(pgN c+1)≤rgN d:=by
 have key:∀ d:Fin 12,∀ c:Fin 12,c.val < d.val→rgN c.val+6*(pgN c.val+1)≤rgN d.val:=by decide +kernel
 exact key ⟨d,hd⟩ ⟨c,by omega⟩ h
theorem slab_apart {c s c' s':Nat} (hc:c < 12) (hs:s < 6) (hc':c' < 12) (hs':s' < 6) (hne:¬(c=c'∧s=s')):slabP c s+(pgN c+1)≤slabP c' s'∨slabP c' s'+(pgN c'+1)≤slabP c s:=by
 unfold slabP;have m1:s*(pgN c+1)≤5*(pgN c+1):=Nat.mul_le_mul_right _ (by omega);have m2:s'*(pgN c'+1)≤5*(pgN c'+1):=Nat.mul_le_mul_right _ (by omega)
 rcases Nat.lt_trichotomy c c' with h|h|h
 ·have:=rgN_mono h hc';omega
 ·subst h
  rcases Nat.lt_trichotomy s s' with h2|h2|h2
  ·have:(s+1)*(pgN c+1)≤s'*(pgN c+1):=Nat.mul_le_mul_right _ h2;rw [Nat.add_mul,Nat.one_mul] at this;omega
  ·exact absurd ⟨rfl,h2⟩ hne
  have:(s'+1)*(pgN c+1)≤s*(pgN c+1):=Nat.mul_le_mul_right _ h2;rw [Nat.add_mul,Nat.one_mul] at this;omega
 have:=rgN_mono h hc;omega
def inQ (h:Hs) (c:Nat):List Int:=(h.mx c++h.ff c).filter fun v=>decide (v ≠ -1)
structure Inv (cf:Cf) (h:Hs):Prop where
 st:okSt h
 fine:Fine h.m
 out:∀ k,283≤k→h.m k=none
 slab:∀ c s,c < 12→s < 6→∀ i,i < pgN c→(h.m (slabP c s+i)).isSome=onS h c s
 off:∀ c s,c < 12→s < 6→onS h c s=false→∀ j,j < slN c→isFree (h.st c s j)=true
 req:∀ c s j,c < 12→s < 6→j < slN c→(h.st c s j=1→0≤h.rq c s j∧h.rq c s j≤usN c)∧(h.st c s j≠1→h.rq c s j=0)
 mxl:∀ c,c < 12→(h.mx c).length=cf.mix
 ffl:∀ c,c < 12→(h.ff c).length≤cf.fifo
 ffn:∀ c,c < 12→∀ v∈h.ff c,0≤v
 mxn:∀ c,c < 12→∀ v∈h.mx c,-1≤v
 wait:∀ c s j,c < 12→s < 6→j < slN c→(h.st c s j=2↔((s*slN c+j:Nat):Int)∈inQ h c)
 wlt:∀ c,c < 12→∀ v∈inQ h c,v < 6*slN c
 wnd:∀ c,c < 12→(inQ h c).Nodup
 rgs:∀ r∈h.rg,187≤r.first∧r.first+r.ext≤283∧1≤r.guards∧r.guards≤3∧1≤r.pages∧(r.st=1∧1016 < r.rq∧pagesN r.rq.toNat=r.pages∨r.st=2∧r.rq=0)
 apart:h.rg.Pairwise fun a b=>a.first+a.ext≤b.first∨b.first+b.ext≤a.first
 big:∀ k,187≤k→((h.m k).isSome=true↔∃ r∈h.rg,r.st=1∧r.first+r.guards≤k∧k < r.first+r.guards+r.pages)
 low:∀ k,k < 187→(h.m k).isSome=true→∃ c s,c < 12∧s < 6∧slabP c s≤k∧k < slabP c s+pgN c
 row:∀ b,b∈h.row↔∃ r∈h.rg,r.st=2∧r.base=b
 rownd:h.row.Nodup
 rowl:h.row.length≤cf.large
 rel:∀ b∈h.rel,b % 1024=0∧187≤b/1024∧b/1024 < 283∧∀ r∈h.rg,b/1024 < r.first∨r.first+r.ext≤b/1024
theorem inQ_new (cf:Cf) (c:Nat):inQ (newH cf) c=[]:=by
 unfold inQ newH;simp
theorem Inv.new (cf:Cf):Inv cf (newH cf):=by
 refine⟨fun c s j=>⟨by simp [newH],by simp [newH]⟩,fun k q hq=>by simp [newH] at hq,fun k hk=>rfl,fun c s hc hs i hi=>rfl,fun c s hc hs ho j hj=>rfl,fun c s j hc hs hj=>⟨by simp [newH],fun _=>rfl⟩,fun c hc=>by simp [newH],fun c hc=>by simp [newH],fun c hc v hv=>by simp [newH] at hv,fun c hc v hv=>?_,fun c s j hc hs hj=>?_,fun c hc v hv=>?_,fun c hc=>?_,fun r hr=>by simp [newH] at hr,by simp [newH],fun k hk=>by simp [newH],fun k hk hx=>by simp [newH] at hx,fun b=>by simp [newH],by simp [newH],by simp [newH],fun b hb=>by simp [newH] at hb⟩
 ·simp [newH] at hv;omega
 ·rw [inQ_new];simp [newH]
 ·rw [inQ_new] at hv;cases hv
 rw [inQ_new];exact List.nodup_nil
theorem Inv.used {cf:Cf} {h:Hs} (i:Inv cf h) (u:Nat):Inv cf { h with used:=u } :=
 ⟨i.st,i.fine,i.out,i.slab,i.off,i.req,i.mxl,i.ffl,i.ffn,i.mxn,i.wait,i.wlt,i.wnd,i.rgs,i.apart,i.big,i.low,i.row,i.rownd,i.rowl,i.rel⟩
theorem Inv.bytes {cf:Cf} {h:Hs} (i:Inv cf h) (a:Nat) (ys:List Int) (n:Nat):Inv cf { h with m:=storeM h.m a ys n }:=by
 have on:∀ c s,onS { h with m:=storeM h.m a ys n } c s=onS h c s:=fun c s=>storeM_is _ _ _ _ _
 refine⟨i.st,i.fine.store _ _ _,fun k hk=>?_,fun c s hc hs j hj=>?_,fun c s hc hs ho=>i.off c s hc hs ((on c s).symm.trans ho),i.req,i.mxl,i.ffl,i.ffn,i.mxn,i.wait,i.wlt,i.wnd,i.rgs,i.apart,fun k hk=>?_,fun k hk hx=>?_,i.row,i.rownd,i.rowl,i.rel⟩
 ·have:=storeM_is h.m a ys n k;rw [i.out k hk] at this;simpa using this
 ·rw [on];exact (storeM_is _ _ _ _ _).trans (i.slab c s hc hs j hj)
 ·have:=i.big k hk;rw [←storeM_is h.m a ys n k] at this;exact this
 exact i.low k hk ((storeM_is h.m a ys n k)▸hx)
theorem Inv.fresh {cf:Cf} {h:Hs} (i:Inv cf h) {c s:Nat} (hc:c < 12) (hs:s < 6):Inv cf { h with m:=freshM h.m (slabP c s) (pgN c) }:=by
 have hp:=slabP_in hc hs;have hz:=szN_in hc;have on:∀ c' s',c' < 12→s' < 6→∀ k,k < pgN c'→freshM h.m (slabP c s) (pgN c) (slabP c' s'+k)=if c'=c∧s'=s then some (false,List.replicate 1024 0) else h.m (slabP c' s'+k):=fun c' s' hc' hs' k hk=>by
  rw [freshM_eq]
  by_cases e:c'=c∧s'=s
  ·obtain⟨rfl,rfl⟩:=e;rw [if_pos (by omega),if_pos ⟨rfl,rfl⟩]
  rw [if_neg e,if_neg];have:=slab_apart hc' hs' hc hs e;omega
 have onx:∀ c' s',c' < 12→s' < 6→onS { h with m:=freshM h.m (slabP c s) (pgN c) } c' s'=if c'=c∧s'=s then true else onS h c' s':=fun c' s' hc' hs'=>by
  have:=szN_in hc';have h0:=on c' s' hc' hs' 0 (by omega);unfold onS;rw [Nat.add_zero] at h0;show (freshM h.m (slabP c s) (pgN c) (slabP c' s')).isSome=_;rw [h0]
  split <;> rfl
 refine⟨i.st,i.fine.fresh _ _,fun k hk=>?_,fun c' s' hc' hs' j hj=>?_,fun c' s' hc' hs' ho=>?_,i.req,i.mxl,i.ffl,i.ffn,i.mxn,i.wait,i.wlt,i.wnd,i.rgs,i.apart,fun k hk=>?_,fun k hk hx=>?_,i.row,i.rownd,i.rowl,i.rel⟩
 ·show freshM h.m _ _ k=none;rw [freshM_eq,if_neg (by omega)];exact i.out k hk
 ·rw [onx c' s' hc' hs'];show (freshM h.m _ _ _).isSome=_;rw [on c' s' hc' hs' j hj]
  split
  ·rfl
  exact i.slab c' s' hc' hs' j hj
 ·rw [onx c' s' hc' hs'] at ho
  split at ho
  ·cases ho
  exact i.off c' s' hc' hs' ho
 ·show (freshM h.m _ _ k).isSome=true↔_;rw [freshM_eq,if_neg (by omega)];exact i.big k hk
 have hx':(freshM h.m (slabP c s) (pgN c) k).isSome=true:=hx;rw [freshM_eq] at hx'
 split at hx'
 ·rename_i e;exact⟨c,s,hc,hs,e.1,e.2⟩
 exact i.low k hk hx'
end Go.Proofs.YtacccpkmgkojiaaGreatDoorRR
namespace Go.Proofs.YtacccpkmgkojiaaGreatDoorRR
set_option linter.unusedVariables false
set_option linter.unusedSimpArgs false
set_option maxRecDepth 20000
set_option maxHeartbeats 8000000
open Go.RowKit
theorem upd3_same (f:Nat→Nat→Nat→Int) (c s j:Nat) (v:Int):upd3 f c s j v c s j=v:=by unfold upd3;rw [if_pos ⟨rfl,rfl,rfl⟩]
theorem upd3_ne (f:Nat→Nat→Nat→Int) {c s j c' s' j':Nat} (v:Int) (h:¬(c'=c∧s'=s∧j'=j)):upd3 f c s j v c' s' j'=f c' s' j':=by unfold upd3;rw [if_neg h]
theorem upd3_self (f:Nat→Nat→Nat→Int) {c s j:Nat} {v:Int} (h:f c s j=v):upd3 f c s j v=f:=by
 funext c' s' j'
 by_cases e:c'=c∧s'=s∧j'=j
 ·obtain⟨rfl,rfl,rfl⟩:=e;rw [upd3_same,h]
 rw [upd3_ne _ _ e]
theorem isFree_or {x:Int} : isFree x=true↔x=0∨x=3:=by unfold isFree;simp
theorem num_div {n s j:Nat} (hj:j < n):(s*n+j)/n=s∧(s*n+j) % n=j:=by
 have hn:0 < n:=by omega
 constructor
 ·rw [Nat.mul_comm,Nat.mul_add_div hn,Nat.div_eq_of_lt hj,Nat.add_zero]
 rw [Nat.mul_comm,Nat.mul_add_mod,Nat.mod_eq_of_lt hj]
theorem num_inj {n s j s' j':Nat} (hj:j < n) (hj':j' < n) (h:s*n+j=s'*n+j'):s=s'∧j=j':=by
 have h1:=num_div (s:=s) hj;have h2:=num_div (s:=s') hj';rw [h] at h1;exact⟨h1.1.symm.trans h2.1,h1.2.symm.trans h2.2⟩
theorem num_lt {n s j:Nat} (hs:s < 6) (hj:j < n):s*n+j < 6*n:=by
 have:(s+1)*n≤6*n:=Nat.mul_le_mul_right _ hs;rw [Nat.add_mul,Nat.one_mul] at this;omega
theorem Inv.setSt {cf:Cf} {h:Hs} (i:Inv cf h) {c s j:Nat} (hc:c < 12) (hs:s < 6) (hj:j < slN c) (v r:Int) (h0:0≤v) (h4:v≤4) (hv2:v≠2) (ho:h.st c s j≠2) (hon:isFree v=true∨onS h c s=true) (h1:v=1→0≤r∧r≤usN c) (hn1:v≠1→r=0):Inv cf { h with st:=upd3 h.st c s j v,rq:=upd3 h.rq c s j r }:=by
 refine⟨fun c' s' j'=>?_,i.fine,i.out,i.slab,fun c' s' hc' hs' hx j' hj'=>?_,fun c' s' j' hc' hs' hj'=>?_,i.mxl,i.ffl,i.ffn,i.mxn,fun c' s' j' hc' hs' hj'=>?_,i.wlt,i.wnd,i.rgs,i.apart,i.big,i.low,i.row,i.rownd,i.rowl,i.rel⟩
 all_goals (by_cases e:c'=c∧s'=s∧j'=j)
 ·obtain⟨rfl,rfl,rfl⟩:=e;show 0≤upd3 h.st c' s' j' v c' s' j'∧upd3 h.st c' s' j' v c' s' j'≤4;rw [upd3_same];exact⟨h0,h4⟩
 ·show 0≤upd3 h.st c s j v c' s' j'∧upd3 h.st c s j v c' s' j'≤4;rw [upd3_ne _ _ e];exact i.st c' s' j'
 ·obtain⟨rfl,rfl,rfl⟩:=e;show isFree (upd3 h.st c' s' j' v c' s' j')=true;rw [upd3_same]
  rcases hon with hq|hq
  ·exact hq
  have hx':onS h c' s'=false:=hx;rw [hx'] at hq;cases hq
 ·show isFree (upd3 h.st c s j v c' s' j')=true;rw [upd3_ne _ _ e];exact i.off c' s' hc' hs' hx j' hj'
 ·obtain⟨rfl,rfl,rfl⟩:=e;show (upd3 h.st c' s' j' v c' s' j'=1→0≤upd3 h.rq c' s' j' r c' s' j'∧upd3 h.rq c' s' j' r c' s' j'≤usN c')∧(upd3 h.st c' s' j' v c' s' j'≠1→upd3 h.rq c' s' j' r c' s' j'=0);rw [upd3_same,upd3_same];exact⟨h1,hn1⟩
 ·show (upd3 h.st c s j v c' s' j'=1→0≤upd3 h.rq c s j r c' s' j'∧upd3 h.rq c s j r c' s' j'≤usN c')∧(upd3 h.st c s j v c' s' j'≠1→upd3 h.rq c s j r c' s' j'=0);rw [upd3_ne _ _ e,upd3_ne _ _ e];exact i.req c' s' j' hc' hs' hj'
 ·obtain⟨rfl,rfl,rfl⟩:=e;show upd3 h.st c' s' j' v c' s' j'=2↔_∈inQ h c';rw [upd3_same,←i.wait c' s' j' hc' hs' hj'];exact⟨fun e=>absurd e hv2,fun e=>absurd e ho⟩
 show upd3 h.st c s j v c' s' j'=2↔_∈inQ h c';rw [upd3_ne _ _ e];exact i.wait c' s' j' hc' hs' hj'
theorem Inv.retire {cf:Cf} {h:Hs} (i:Inv cf h) {c s j:Nat} (hc:c < 12) (hs:s < 6) (hj:j < slN c) (ho:isFree (h.st c s j)=true) (hon:onS h c s=true):Inv cf { h with st:=upd3 h.st c s j 4 }:=by
 rw [isFree_or] at ho;have:=i.setSt hc hs hj 4 0 (by omega) (by omega) (by omega) (by omega) (.inr hon) (by omega) (fun _=>rfl);rw [upd3_self h.rq ((i.req c s j hc hs hj).2 (by omega))] at this;exact this
theorem Inv.drop {cf:Cf} {h:Hs} (i:Inv cf h) {c s:Nat} (hc:c < 12) (hs:s < 6) (hf:∀ j,j < slN c→isFree (h.st c s j)=true):Inv cf { h with m:=goneM h.m (slabP c s) (pgN c) }:=by
 have hp:=slabP_in hc hs;have hz:=szN_in hc;have on:∀ c' s',c' < 12→s' < 6→∀ k,k < pgN c'→goneM h.m (slabP c s) (pgN c) (slabP c' s'+k)=if c'=c∧s'=s then none else h.m (slabP c' s'+k):=fun c' s' hc' hs' k hk=>by
  rw [goneM_eq]
  by_cases e:c'=c∧s'=s
  ·obtain⟨rfl,rfl⟩:=e;rw [if_pos (by omega),if_pos ⟨rfl,rfl⟩]
  rw [if_neg e,if_neg];have:=slab_apart hc' hs' hc hs e;omega
 have onx:∀ c' s',c' < 12→s' < 6→onS { h with m:=goneM h.m (slabP c s) (pgN c) } c' s'=if c'=c∧s'=s then false else onS h c' s':=fun c' s' hc' hs'=>by
  have:=szN_in hc';have h0:=on c' s' hc' hs' 0 (by omega);unfold onS;rw [Nat.add_zero] at h0;show (goneM h.m (slabP c s) (pgN c) (slabP c' s')).isSome=_;rw [h0]
  split <;> rfl
 refine⟨i.st,i.fine.gone _ _,fun k hk=>?_,fun c' s' hc' hs' j hj=>?_,fun c' s' hc' hs' ho=>?_,i.req,i.mxl,i.ffl,i.ffn,i.mxn,i.wait,i.wlt,i.wnd,i.rgs,i.apart,fun k hk=>?_,fun k hk hx=>?_,i.row,i.rownd,i.rowl,i.rel⟩
 ·show goneM h.m _ _ k=none;rw [goneM_eq]
  split
  ·rfl
  exact i.out k hk
 ·rw [onx c' s' hc' hs'];show (goneM h.m _ _ _).isSome=_;rw [on c' s' hc' hs' j hj]
  split
  ·rfl
  exact i.slab c' s' hc' hs' j hj
 ·rw [onx c' s' hc' hs'] at ho
  split at ho
  ·rename_i e;obtain ⟨rfl,rfl⟩:=e;exact hf
  exact i.off c' s' hc' hs' ho
 ·show (goneM h.m _ _ k).isSome=true↔_;rw [goneM_eq,if_neg (by omega)];exact i.big k hk
 have hx':(goneM h.m (slabP c s) (pgN c) k).isSome=true:=hx;rw [goneM_eq] at hx'
 split at hx'
 ·cases hx'
 exact i.low k hk hx'
/-! what a push does to the numbers that wait -/
def nq (l:List Int):List Int:=l.filter fun v=>decide (v ≠ -1)
theorem nq_app (a b:List Int):nq (a++b)=nq a++nq b:=by unfold nq;rw [List.filter_append]
theorem pushF_perm {n:Nat} {xs:List Int} {x:Int} (hn:1≤n) (hl:xs.length≤n) (hx:0≤x) (hnn:∀ v∈xs,0≤v):(pushF n xs x).1.length≤n∧(∀ v∈(pushF n xs x).1,0≤v)∧(((pushF n xs x).2 = -1∧(x::xs).Perm (pushF n xs x).1)∨(0≤(pushF n xs x).2∧(x::xs).Perm ((pushF n xs x).2::(pushF n xs x).1))):=by
 unfold pushF
 by_cases h:xs.length < n
 ·rw [if_pos h];refine⟨by simp;omega,fun v hv=>?_,.inl ⟨rfl,?_⟩⟩
  ·rcases List.mem_append.1 hv with h1|h1
   ·exact hnn v h1
   simp at h1;omega
  exact (List.perm_append_comm (l₁:=xs) (l₂:=[x])).symm
 rw [if_neg h]
 cases xs with
 | nil=>simp at h;omega
 | cons y ys =>
  refine⟨by simp at hl h ⊢;omega,fun v hv=>?_,.inr ⟨hnn _ (by simp),?_⟩⟩
  ·rcases List.mem_append.1 hv with h1|h1
   ·exact hnn v (by simp at h1 ⊢;exact .inr h1)
   simp at h1;omega
  show (x::y::ys).Perm (y::(ys++[x]));exact (List.Perm.swap y x ys).trans (List.Perm.cons y (List.perm_append_comm (l₁:=ys) (l₂:=[x])).symm)
theorem nq_perm {a b:List Int} (h:a.Perm b):(nq a).Perm (nq b):=h.filter _
theorem nq_nn {l:List Int} (h:∀ v∈l,0≤v):nq l=l:=by
 unfold nq;rw [List.filter_eq_self];intro v hv;have:=h v hv;simp;omega
theorem set_perm:∀ (l:List Int) (i:Nat) (y x:Int),l[i]?=some y→(x::l).Perm (y::l.set i x)
 | [],i,y,x,h=>by simp at h
 | a::l,0,y,x,h=>by simp at h;subst h;exact List.Perm.swap a x l
 | a::l,i+1,y,x,h=>by
  simp at h
  have ih:=set_perm l i y x h
  exact (List.Perm.swap a x l).trans ((List.Perm.cons a ih).trans (List.Perm.swap y a _))
theorem wpM_perm {n:Nat} {mx ff:List Int} {x d:Int} (hn:1≤n) (hl:ff.length≤n) (hx:0≤x) (hff:∀ v∈ff,0≤v) (hmx:∀ v∈mx,-1≤v):(wpM n mx ff x d).1.length=mx.length∧(wpM n mx ff x d).2.1.length≤n∧(∀ v∈(wpM n mx ff x d).2.1,0≤v)∧(∀ v∈(wpM n mx ff x d).1,-1≤v)∧(((wpM n mx ff x d).2.2 = -1∧(x::nq (mx++ff)).Perm (nq ((wpM n mx ff x d).1++(wpM n mx ff x d).2.1)))∨(0≤(wpM n mx ff x d).2.2∧(x::nq (mx++ff)).Perm ((wpM n mx ff x d).2.2::nq ((wpM n mx ff x d).1++(wpM n mx ff x d).2.1)))):=by
 unfold wpM
 by_cases h0:mx=[]
 ·subst h0;rw [if_pos rfl];obtain⟨p1,p2,p3⟩:=pushF_perm hn hl hx hff;refine⟨rfl,p1,p2,?_,?_⟩
  ·intro v hv
   cases hv
  dsimp only;rw [List.nil_append,List.nil_append,nq_nn hff,nq_nn p2];exact p3
 rw [if_neg h0];have hml:0 < mx.length:=List.length_pos_iff.2 h0;have hi:md d mx.length < mx.length:=by
  unfold md;have h1:=Int.emod_nonneg d (show ((mx.length:Nat):Int)≠0 by omega);have h2:=Int.emod_lt_of_pos d (show (0:Int) < (mx.length:Nat) by omega);omega
 generalize md d mx.length=k at *;obtain⟨y,hy⟩:∃ y,mx[k]?=some y:=⟨_,List.getElem?_eq_getElem hi⟩;have hyn:=hmx y (List.mem_of_getElem? hy);have hset:=set_perm mx k y x hy;have hb:∀ v∈mx.set k x,-1≤v:=fun v hv=>by
  rcases List.mem_or_eq_of_mem_set hv with h|h
  ·exact hmx v h
  omega
 rw [hy];simp only [Option.getD_some]
 by_cases hy1:y = -1
 ·rw [if_pos hy1];refine⟨by simp,hl,hff,hb,.inl ⟨rfl,?_⟩⟩;dsimp only;have e1:=nq_perm hset;have e2:nq (y::mx.set k x)=nq (mx.set k x):=by subst hy1;rfl
  have e3:nq (x::mx)=x::nq mx:=by unfold nq;rw [List.filter_cons_of_pos (by simp;omega)]
  rw [e2,e3] at e1;rw [nq_app,nq_app];exact List.Perm.append_right (nq ff) e1
 rw [if_neg hy1];have hy0:0≤y:=by omega
 obtain⟨p1,p2,p3⟩:=pushF_perm (x:=y) hn hl hy0 hff;refine⟨by simp,p1,p2,hb,?_⟩;dsimp only;have e1:=nq_perm hset;have e2:nq (y::mx.set k x)=y::nq (mx.set k x):=by unfold nq;rw [List.filter_cons_of_pos (by simp;omega)]
 have e3:nq (x::mx)=x::nq mx:=by unfold nq;rw [List.filter_cons_of_pos (by simp;omega)]
 rw [e2,e3] at e1;rw [nq_app,nq_app,nq_nn hff,nq_nn p2];have e4:(x::(nq mx++ff)).Perm (nq (mx.set k x)++(y::ff)):=by
  refine (List.Perm.append_right ff e1).trans ?_;exact (List.perm_middle (a:=y) (l₁:=nq (mx.set k x)) (l₂:=ff)).symm
 rcases p3 with ⟨q1,q2⟩|⟨q1,q2⟩
 ·exact .inl ⟨q1,e4.trans (List.Perm.append_left _ q2)⟩
 refine .inr ⟨q1,e4.trans ((List.Perm.append_left _ q2).trans ?_)⟩;exact List.perm_middle
end Go.Proofs.YtacccpkmgkojiaaGreatDoorRR
namespace Go.Proofs.YtacccpkmgkojiaaGreatDoorRR
set_option linter.unusedVariables false
set_option linter.unusedSimpArgs false
set_option maxRecDepth 20000
set_option maxHeartbeats 8000000
open Go.RowKit
theorem inQ_nq (h:Hs) (c:Nat):inQ h c=nq (h.mx c++h.ff c):=rfl
theorem freeS_all {h:Hs} {c s:Nat} : (freeS h c s).length=slN c↔∀ j,j < slN c→isFree (h.st c s j)=true:=by
 unfold freeS;constructor
 ·intro hl j hj;have:=List.length_filter_eq_length_iff.1 (by rw [hl,List.length_range]:((List.range (slN c)).filter fun j=>isFree (h.st c s j)).length=(List.range (slN c)).length);exact this j (List.mem_range.2 hj)
 intro hf;have:((List.range (slN c)).filter fun j=>isFree (h.st c s j))=List.range (slN c):=by
  rw [List.filter_eq_self];intro j hj;exact hf j (List.mem_range.1 hj)
 rw [this,List.length_range]
def leftM (cf:Cf) (h:Hs) (c s j:Nat):Int:=(wpM cf.fifo (h.mx c) (h.ff c) ((s*slN c+j:Nat):Int) ((if cf.mix=0 then 0 else dr cf h cf.mix:Nat):Int)).2.2
def freeA (cf:Cf) (h:Hs) (c s j:Nat):Hs :=
 { h with m:=storeM h.m (adr c s j) (List.replicate (szN c) 0) (szN c),st:=upd3 h.st c s j 2,rq:=upd3 h.rq c s j 0,used:=if cf.mix=0 then h.used else h.used+1,mx:=updL h.mx c (wpM cf.fifo (h.mx c) (h.ff c) ((s*slN c+j:Nat):Int) ((if cf.mix=0 then 0 else dr cf h cf.mix:Nat):Int)).1,ff:=updL h.ff c (wpM cf.fifo (h.mx c) (h.ff c) ((s*slN c+j:Nat):Int) ((if cf.mix=0 then 0 else dr cf h cf.mix:Nat):Int)).2.1 }
theorem freeSlot_eq (cf:Cf) (h:Hs) (c s j:Nat):freeSlot cf h c s j=if leftM cf h c s j = -1 then freeA cf h c s j else releaseM (freeA cf h c s j) c ((leftM cf h c s j).toNat/slN c) ((leftM cf h c s j).toNat % slN c):=by
 unfold freeSlot leftM freeA
 by_cases h0:cf.mix=0
 ·simp only [h0,if_true]
 simp only [h0,if_false];rfl
theorem updL_same (f:Nat→List Int) (c:Nat) (v:List Int):updL f c v c=v:=by unfold updL;rw [if_pos rfl]
theorem updL_ne (f:Nat→List Int) {c d:Nat} (v:List Int) (h:d≠c):updL f c v d=f d:=by unfold updL;rw [if_neg h]
theorem Inv.freed {cf:Cf} {h:Hs} (i:Inv cf h) (hf1:1≤cf.fifo) {c s j:Nat} (hc:c < 12) (hs:s < 6) (hj:j < slN c) (hl:h.st c s j=1) :
  (leftM cf h c s j = -1∧Inv cf (freeA cf h c s j)) ∨
  (∃ s' j',0≤leftM cf h c s j∧(leftM cf h c s j).toNat/slN c=s'∧(leftM cf h c s j).toNat % slN c=j'∧s' < 6∧j' < slN c∧onS h c s'=true∧Inv cf { freeA cf h c s j with st:=upd3 (freeA cf h c s j).st c s' j' 3 }):=by
 have hz:=szN_in hc;have hq0:(0:Int)≤((s*slN c+j:Nat):Int):=by omega
 obtain⟨w1,w2,w3,w4,w5⟩:=wpM_perm (d:=((if cf.mix=0 then 0 else dr cf h cf.mix:Nat):Int)) hf1 (i.ffl c hc) hq0 (i.ffn c hc) (i.mxn c hc);have hL:leftM cf h c s j=(wpM cf.fifo (h.mx c) (h.ff c) ((s*slN c+j:Nat):Int) ((if cf.mix=0 then 0 else dr cf h cf.mix:Nat):Int)).2.2:=rfl;have hA:freeA cf h c s j={ h with m:=storeM h.m (adr c s j) (List.replicate (szN c) 0) (szN c),st:=upd3 h.st c s j 2,rq:=upd3 h.rq c s j 0,used:=if cf.mix=0 then h.used else h.used+1,mx:=updL h.mx c (wpM cf.fifo (h.mx c) (h.ff c) ((s*slN c+j:Nat):Int) ((if cf.mix=0 then 0 else dr cf h cf.mix:Nat):Int)).1,ff:=updL h.ff c (wpM cf.fifo (h.mx c) (h.ff c) ((s*slN c+j:Nat):Int) ((if cf.mix=0 then 0 else dr cf h cf.mix:Nat):Int)).2.1 }:=rfl;generalize wpM cf.fifo (h.mx c) (h.ff c) ((s*slN c+j:Nat):Int) ((if cf.mix=0 then 0 else dr cf h cf.mix:Nat):Int)=r at *;generalize leftM cf h c s j=left at *;obtain⟨M,F,z⟩:=r;dsimp only at hL w1 w2 w3 w4 w5 hA;subst hL;have ib:=i.bytes (adr c s j) (List.replicate (szN c) 0) (szN c);have hon:onS h c s=true:=by
  cases h9:onS h c s with
  | true=>rfl
  | false=>have:=i.off c s hc hs h9 j hj;rw [hl] at this;simp [isFree] at this
 have hnot:((s*slN c+j:Nat):Int)∉inQ h c:=fun hm=>by
  have:=(i.wait c s j hc hs hj).2 hm;omega
 have hnd:(((s*slN c+j:Nat):Int)::inQ h c).Nodup:=List.nodup_cons.2 ⟨hnot,i.wnd c hc⟩;have hlt:∀ v∈((s*slN c+j:Nat):Int)::inQ h c,v < 6*slN c:=fun v hv=>by
  rcases List.mem_cons.1 hv with h1|h1
  ·have:=num_lt hs hj;omega
  exact i.wlt c hc v h1
 have hin:∀ s' j',s' < 6→j' < slN c→(upd3 h.st c s j 2 c s' j'=2↔((s'*slN c+j':Nat):Int)∈((s*slN c+j:Nat):Int)::inQ h c):=fun s' j' hs' hj'=>by
  by_cases e:s'=s∧j'=j
  ·obtain⟨rfl,rfl⟩:=e;rw [upd3_same];simp
  rw [upd3_ne _ _ (by rintro ⟨_,h1,h2⟩;exact e ⟨h1,h2⟩),i.wait c s' j' hc hs' hj',List.mem_cons];refine⟨.inr,fun h1=>?_⟩
  rcases h1 with h1|h1
  ·have:=num_inj hj' hj (show s'*slN c+j'=s*slN c+j by omega);exact absurd this e
  exact h1
 have hQ:∀ st',inQ { freeA cf h c s j with st:=st' } c=nq (M++F):=fun st'=>by
  rw [hA];unfold inQ;dsimp only;rw [updL_same,updL_same];rfl
 have hQ2:∀ st' c',c'≠c→inQ { freeA cf h c s j with st:=st' } c'=inQ h c':=fun st' c' hne=>by
  rw [hA];unfold inQ;dsimp only;rw [updL_ne _ _ hne,updL_ne _ _ hne]
 have build:∀ st',(∀ c' s' j',0≤st' c' s' j'∧st' c' s' j'≤4)→(∀ c' s' j',c'≠c→st' c' s' j'=h.st c' s' j')→(∀ s' j',s' < 6→j' < slN c→isFree (h.st c s' j')=true→onS h c s'=false→isFree (st' c s' j')=true)→(∀ s' j',s' < 6→j' < slN c→(st' c s' j'=1↔h.st c s' j'=1∧¬(s'=s∧j'=j)))→(∀ s' j',s' < 6→j' < slN c→(st' c s' j'=2↔((s'*slN c+j':Nat):Int)∈nq (M++F)))→(nq (M++F)).Nodup→(∀ v∈nq (M++F),v < 6*slN c)→Inv cf { freeA cf h c s j with st:=st' }:=by
  intro st' a1 a2 a3 a4 a5 a6 a7;refine⟨a1,?_,?_,?_,?_,?_,?_,?_,?_,?_,?_,?_,?_,?_,?_,?_,?_,?_,?_,?_,?_⟩
  ·rw [hA];exact ib.fine
  ·rw [hA];exact ib.out
  ·rw [hA];exact ib.slab
  ·intro c' s' hc' hs' ho j' hj';have ho':onS h c' s'=false:=by
    have e:onS { freeA cf h c s j with st:=st' } c' s'=onS h c' s':=by rw [hA];exact storeM_is _ _ _ _ _
    rw [e] at ho;exact ho
   show isFree (st' c' s' j')=true
   by_cases e:c'=c
   ·subst e;exact a3 s' j' hs' hj' (i.off c' s' hc' hs' ho' j' hj') ho'
   rw [a2 c' s' j' e];exact i.off c' s' hc' hs' ho' j' hj'
  ·intro c' s' j' hc' hs' hj';have e:({ freeA cf h c s j with st:=st' } : Hs).rq=upd3 h.rq c s j 0:=by rw [hA]
   rw [e];show (st' c' s' j'=1→_)∧(st' c' s' j'≠1→_);have old:=i.req c' s' j' hc' hs' hj'
   by_cases e:c'=c∧s'=s∧j'=j
   ·obtain⟨rfl,rfl,rfl⟩:=e;rw [upd3_same];refine⟨fun h1=>?_,fun _=>rfl⟩;exact absurd ⟨rfl,rfl⟩ ((a4 s' j' hs' hj').1 h1).2
   rw [upd3_ne _ _ e]
   by_cases ec:c'=c
   ·subst ec;refine⟨fun h1=>old.1 ((a4 s' j' hs' hj').1 h1).1,fun h1=>old.2 (fun h2=>h1 ((a4 s' j' hs' hj').2 ⟨h2,fun h3=>e ⟨rfl,h3⟩⟩))⟩
   rw [a2 c' s' j' ec];exact old
  ·intro c' hc';have e:({ freeA cf h c s j with st:=st' } : Hs).mx=updL h.mx c M:=by rw [hA]
   rw [e]
   by_cases ec:c'=c
   ·subst ec;rw [updL_same,w1];exact i.mxl c' hc'
   rw [updL_ne _ _ ec];exact i.mxl c' hc'
  ·intro c' hc';have e:({ freeA cf h c s j with st:=st' } : Hs).ff=updL h.ff c F:=by rw [hA]
   rw [e]
   by_cases ec:c'=c
   ·subst ec;rw [updL_same];exact w2
   rw [updL_ne _ _ ec];exact i.ffl c' hc'
  ·intro c' hc';have e:({ freeA cf h c s j with st:=st' } : Hs).ff=updL h.ff c F:=by rw [hA]
   rw [e]
   by_cases ec:c'=c
   ·subst ec;rw [updL_same];exact w3
   rw [updL_ne _ _ ec];exact i.ffn c' hc'
  ·intro c' hc';have e:({ freeA cf h c s j with st:=st' } : Hs).mx=updL h.mx c M:=by rw [hA]
   rw [e]
   by_cases ec:c'=c
   ·subst ec;rw [updL_same];exact w4
   rw [updL_ne _ _ ec];exact i.mxn c' hc'
  ·intro c' s' j' hc' hs' hj';show st' c' s' j'=2↔_
   by_cases ec:c'=c
   ·subst ec;rw [hQ];exact a5 s' j' hs' hj'
   rw [hQ2 _ _ ec,a2 c' s' j' ec];exact i.wait c' s' j' hc' hs' hj'
  ·intro c' hc'
   by_cases ec:c'=c
   ·subst ec;rw [hQ];exact a7
   rw [hQ2 _ _ ec];exact i.wlt c' hc'
  ·intro c' hc'
   by_cases ec:c'=c
   ·subst ec;rw [hQ];exact a6
   rw [hQ2 _ _ ec];exact i.wnd c' hc'
  ·rw [hA];exact i.rgs
  ·rw [hA];exact i.apart
  ·rw [hA];exact ib.big
  ·rw [hA];exact ib.low
  ·rw [hA];exact i.row
  ·rw [hA];exact i.rownd
  ·rw [hA];exact i.rowl
  rw [hA];exact i.rel
 rw [←inQ_nq] at w5
 rcases w5 with ⟨e1,e2⟩|⟨e1,e2⟩
 ·left;refine⟨e1,?_⟩;have:=build (upd3 h.st c s j 2) (fun c' s' j'=>?_) (fun c' s' j' hne=>upd3_ne _ _ (by rintro ⟨h1,_⟩;exact hne h1)) (fun s' j' hs' hj' hf ho=>?_) (fun s' j' hs' hj'=>?_) (fun s' j' hs' hj'=>(hin s' j' hs' hj').trans e2.mem_iff) (e2.nodup_iff.1 hnd) (fun v hv=>hlt v (e2.mem_iff.2 hv))
  ·rw [hA] at this ⊢;exact this
  ·by_cases e:c'=c∧s'=s∧j'=j
   ·obtain⟨rfl,rfl,rfl⟩:=e;rw [upd3_same];omega
   rw [upd3_ne _ _ e];exact i.st c' s' j'
  ·by_cases e:c=c∧s'=s∧j'=j
   ·obtain⟨_,rfl,rfl⟩:=e;rw [hon] at ho;cases ho
   rw [upd3_ne _ _ e];exact hf
  by_cases e:c=c∧s'=s∧j'=j
  ·obtain⟨_,rfl,rfl⟩:=e;rw [upd3_same];simp
  rw [upd3_ne _ _ e];exact⟨fun h1=>⟨h1,fun h2=>e ⟨rfl,h2⟩⟩,fun h1=>h1.1⟩
 right;have hzm:left∈((s*slN c+j:Nat):Int)::inQ h c:=e2.mem_iff.2 (by simp);have hzn:=hlt left hzm;have hd:left.toNat/slN c < 6:=Nat.div_lt_of_lt_mul (by rw [Nat.mul_comm];omega);have hm:left.toNat % slN c < slN c:=Nat.mod_lt _ (by omega);have he:((left.toNat/slN c*slN c+left.toNat % slN c:Nat):Int)=left:=by
  rw [Nat.div_add_mod'];omega
 have hst2:upd3 h.st c s j 2 c (left.toNat/slN c) (left.toNat % slN c)=2:=(hin _ _ hd hm).2 (by rw [he];exact hzm);generalize left.toNat/slN c=s1 at *;generalize left.toNat % slN c=j1 at *;have hon1:onS h c s1=true:=by
  by_cases e:c=c∧s1=s∧j1=j
  ·obtain⟨_,rfl,rfl⟩:=e;exact hon
  rw [upd3_ne _ _ e] at hst2
  cases h9:onS h c s1 with
  | true=>rfl
  | false=>have:=i.off c s1 hc hd h9 j1 hm;rw [hst2] at this;simp [isFree] at this
 refine⟨s1,j1,e1,rfl,rfl,hd,hm,hon1,?_⟩;have hstA:(freeA cf h c s j).st=upd3 h.st c s j 2:=by rw [hA]
 rw [hstA];have hnd2:=e2.nodup_iff.1 hnd;have hz9:=(List.nodup_cons.1 hnd2).1;refine build (upd3 (upd3 h.st c s j 2) c s1 j1 3) (fun c' s' j'=>?_) (fun c' s' j' hne=>?_) (fun s' j' hs' hj' hf ho=>?_) (fun s' j' hs' hj'=>?_) (fun s' j' hs' hj'=>?_) (List.nodup_cons.1 hnd2).2 (fun v hv=>hlt v (e2.mem_iff.2 (List.mem_cons_of_mem _ hv)))
 ·by_cases e:c'=c∧s'=s1∧j'=j1
  ·obtain⟨rfl,rfl,rfl⟩:=e;rw [upd3_same];omega
  rw [upd3_ne _ _ e]
  by_cases e:c'=c∧s'=s∧j'=j
  ·obtain⟨rfl,rfl,rfl⟩:=e;rw [upd3_same];omega
  rw [upd3_ne _ _ e];exact i.st c' s' j'
 ·rw [upd3_ne _ _ (by rintro ⟨h1,_⟩;exact hne h1),upd3_ne _ _ (by rintro ⟨h1,_⟩;exact hne h1)]
 ·by_cases e:c=c∧s'=s1∧j'=j1
  ·obtain⟨_,rfl,rfl⟩:=e;rw [hon1] at ho;cases ho
  rw [upd3_ne _ _ e]
  by_cases e:c=c∧s'=s∧j'=j
  ·obtain⟨_,rfl,rfl⟩:=e;rw [hon] at ho;cases ho
  rw [upd3_ne _ _ e];exact hf
 ·by_cases e:c=c∧s'=s1∧j'=j1
  ·obtain⟨_,rfl,rfl⟩:=e;rw [upd3_same];refine⟨fun h1=>by omega,fun h1=>?_⟩;rw [upd3_ne _ _ (by rintro ⟨_,h2⟩;exact h1.2 h2)] at hst2;omega
  rw [upd3_ne _ _ e]
  by_cases e:c=c∧s'=s∧j'=j
  ·obtain⟨_,rfl,rfl⟩:=e;rw [upd3_same];simp
  rw [upd3_ne _ _ e];exact⟨fun h1=>⟨h1,fun h2=>e ⟨rfl,h2⟩⟩,fun h1=>h1.1⟩
 by_cases e:c=c∧s'=s1∧j'=j1
 ·obtain⟨_,rfl,rfl⟩:=e;rw [upd3_same,he];exact⟨fun h1=>by omega,fun h1=>absurd h1 hz9⟩
 rw [upd3_ne _ _ e,hin s' j' hs' hj',e2.mem_iff,List.mem_cons];refine⟨fun h1=>?_,.inr⟩
 rcases h1 with h1|h1
 ·rw [←he] at h1;have:=num_inj hj' hm (show s'*slN c+j'=s1*slN c+j1 by omega);exact absurd ⟨rfl,this⟩ e
 exact h1
theorem Inv.fSlot {cf:Cf} {h:Hs} (i:Inv cf h) (hf1:1≤cf.fifo) {c s j:Nat} (hc:c < 12) (hs:s < 6) (hj:j < slN c) (hl:h.st c s j=1):Inv cf (freeSlot cf h c s j):=by
 rw [freeSlot_eq]
 rcases i.freed hf1 hc hs hj hl with ⟨e,h1⟩|⟨s',j',e,e1,e2,hs',hj',hon,h1⟩
 ·rw [if_pos e];exact h1
 rw [if_neg (by omega),e1,e2];unfold releaseM;dsimp only
 split
 ·rename_i hfull
  exact h1.drop hc hs' (freeS_all.1 hfull)
 exact h1
end Go.Proofs.YtacccpkmgkojiaaGreatDoorRR
namespace Go.Proofs.YtacccpkmgkojiaaGreatDoorRR
set_option linter.unusedVariables false
set_option linter.unusedSimpArgs false
set_option maxRecDepth 20000
set_option maxHeartbeats 8000000
open Go.RowKit
theorem find_lt {P:Nat→Bool} {n k:Nat} (h:(List.range n).find? P=some k):k < n∧P k=true:=by
 rw [List.find?_range_eq_some] at h;exact⟨by simpa using h.2.1,h.1⟩
structure Stay (h h':Hs):Prop where
 live:∀ c s j,isFree (h.st c s j)=false→h'.st c s j=h.st c s j
 mem:∀ k,(h.m k).isSome=true→h'.m k=h.m k
 rq:h'.rq=h.rq
 mx:h'.mx=h.mx
 ff:h'.ff=h.ff
 rg:h'.rg=h.rg
 row:h'.row=h.row
 rel:h'.rel=h.rel
theorem Stay.refl (h:Hs):Stay h h:=⟨fun _ _ _ _=>rfl,fun _ _=>rfl,rfl,rfl,rfl,rfl,rfl,rfl⟩
theorem Stay.trans {a b c:Hs} (h:Stay a b) (k:Stay b c):Stay a c:=by
 refine⟨fun x y z hf=>?_,fun p hp=>?_,k.rq.trans h.rq,k.mx.trans h.mx,k.ff.trans h.ff,k.rg.trans h.rg,k.row.trans h.row,k.rel.trans h.rel⟩
 ·rw [k.live x y z (by rw [h.live x y z hf];exact hf),h.live x y z hf]
 rw [k.mem p (by rw [h.mem p hp];exact hp),h.mem p hp]
theorem Inv.room {cf:Cf} {h:Hs} (i:Inv cf h) {c:Nat} (hc:c < 12) {s:Nat} {h1:Hs} (hr:roomS cf h c=some (s,h1)):s < 6∧Inv cf h1∧onS h1 c s=true∧0 < (freeS h1 c s).length∧Stay h h1∧h1.used=h.used∧h1.st=h.st:=by
 unfold roomS at hr
 cases hp:pickS h c with
 | some s0 =>
  rw [hp] at hr;simp at hr;obtain⟨rfl,rfl⟩:=hr;obtain⟨h1,h2⟩:=find_lt hp;simp at h2;refine⟨h1,i,h2.1,?_,Stay.refl _,rfl,rfl⟩;have:=h2.2;exact List.length_pos_iff.2 this
 | none =>
  rw [hp] at hr;dsimp only at hr
  cases hq:offS h c with
  | none=>rw [hq] at hr;cases hr
  | some s0 =>
   rw [hq] at hr;dsimp only at hr
   split at hr
   ·cases hr
   simp at hr;obtain⟨rfl,rfl⟩:=hr;obtain⟨hs,h2⟩:=find_lt hq;simp at h2;have hz:=szN_in hc;have hon:onS { h with m:=freshM h.m (slabP c s0) (pgN c) } c s0=true:=by
    unfold onS;show (freshM h.m (slabP c s0) (pgN c) (slabP c s0)).isSome=true;rw [freshM_eq,if_pos (by omega)];rfl
   refine⟨hs,i.fresh hc hs,hon,?_,⟨fun _ _ _ _=>rfl,fun k hk=>?_,rfl,rfl,rfl,rfl,rfl,rfl⟩,rfl,rfl⟩
   ·have:=freeS_all.2 (i.off c s0 hc hs h2);show 0 < (freeS h c s0).length;omega
   show freshM h.m (slabP c s0) (pgN c) k=h.m k;rw [freshM_eq,if_neg];intro hk2;have:=i.slab c s0 hc hs (k - slabP c s0) (by omega);rw [show slabP c s0+(k - slabP c s0)=k by omega,hk,h2] at this
   cases this
def freeN (h:Hs) (c:Nat):Nat→Nat
 | 0=>0
 | s+1=>freeN h c s+(freeS h c s).length
theorem freeS_len (h:Hs) (c s:Nat):(freeS h c s).length≤slN c:=by
 unfold freeS;have:=List.length_filter_le (fun j=>isFree (h.st c s j)) (List.range (slN c));simpa using this
theorem freeN_le (h:Hs) (c:Nat):∀ s,freeN h c s≤s*slN c
 | 0=>by simp [freeN]
 | s+1=>by
  have:=freeN_le h c s
  have h2:=freeS_len h c s
  simp only [freeN]
  rw [Nat.add_mul,Nat.one_mul]
  omega
theorem filter_len_lt {l:List Nat} {p q:Nat→Bool} (hq:∀ a∈l,q a=true→p a=true) {a:Nat} (ha:a∈l) (hp:p a=true) (hn:q a=false):(l.filter q).length < (l.filter p).length:=by
 induction l with
 | nil=>cases ha
 | cons b r ih =>
  have hle:(r.filter q).length≤(r.filter p).length:=by
   rw [←List.countP_eq_length_filter,←List.countP_eq_length_filter];exact List.countP_mono_left (fun x hx h=>hq x (List.mem_cons_of_mem _ hx) h)
  by_cases e:a=b
  ·subst e;rw [List.filter_cons_of_pos hp,List.filter_cons_of_neg (by simp [hn])];simp;omega
  have har:a∈r:=by simpa [e] using ha
  have:=ih (fun x hx=>hq x (List.mem_cons_of_mem _ hx)) har
  by_cases hb:q b=true
  ·rw [List.filter_cons_of_pos hb,List.filter_cons_of_pos (hq b (by simp) hb)];simp;omega
  rw [List.filter_cons_of_neg hb]
  by_cases hb2:p b=true
  ·rw [List.filter_cons_of_pos hb2];simp;omega
  rw [List.filter_cons_of_neg hb2];exact this
theorem freeS_set {h:Hs} {c s j:Nat} (hj:j < slN c) (hf:isFree (h.st c s j)=true):(freeS { h with st:=upd3 h.st c s j 4 } c s).length < (freeS h c s).length:=by
 unfold freeS;refine filter_len_lt (fun k hk hx=>?_) (List.mem_range.2 hj) hf ?_
 ·by_cases e:k=j
  ·subst e;dsimp only at hx;rw [upd3_same] at hx;cases hx
  dsimp only at hx;rw [upd3_ne _ _ (by rintro ⟨_,_,h⟩;exact e h)] at hx;exact hx
 dsimp only;rw [upd3_same];rfl
theorem freeN_set {h:Hs} {c s j:Nat} (hj:j < slN c) (hf:isFree (h.st c s j)=true):∀ n,(n≤s→freeN { h with st:=upd3 h.st c s j 4 } c n=freeN h c n)∧(s < n→freeN { h with st:=upd3 h.st c s j 4 } c n < freeN h c n)
 | 0=>⟨fun _=>rfl,fun h=>by omega⟩
 | n+1=>by
  have ih:=freeN_set (s:=s) hj hf n
  have hoth:∀ s',s'≠s→freeS { h with st:=upd3 h.st c s j 4 } c s'=freeS h c s':=fun s' hne=>by
   unfold freeS
   apply List.filter_congr
   intro k _
   dsimp only
   rw [upd3_ne _ _ (by rintro ⟨_,h,_⟩;exact hne h)]
  simp only [freeN]
  constructor
  ·intro hn
   rw [ih.1 (by omega),hoth n (by omega)]
  intro hn
  by_cases e:n=s
  ·subst e
   rw [ih.1 (by omega)]
   have:=freeS_set (h:=h) (s:=n) hj hf
   omega
  have:=ih.2 (by omega)
  rw [hoth n e];omega
theorem dr_lt (cf:Cf) (h:Hs) {n:Nat} (hn:0 < n):dr cf h n < n:=by
 unfold dr;have h1:=Int.emod_nonneg (cf.ds[h.used]?.getD 0) (show ((n:Nat):Int)≠0 by omega);have h2:=Int.emod_lt_of_pos (cf.ds[h.used]?.getD 0) (show (0:Int) < (n:Nat) by omega);omega
def pickJ (cf:Cf) (h:Hs) (c s:Nat):Nat:=(freeS h c s)[dr cf h (freeS h c s).length]?.getD 0
theorem pick_in (cf:Cf) {h:Hs} {c s:Nat} (hl:0 < (freeS h c s).length):(freeS h c s)[dr cf h (freeS h c s).length]?=some (pickJ cf h c s)∧pickJ cf h c s < slN c∧isFree (h.st c s (pickJ cf h c s))=true:=by
 have hd:=dr_lt cf h hl;have h1:(freeS h c s)[dr cf h (freeS h c s).length]?=some (pickJ cf h c s):=by
  unfold pickJ;rw [List.getElem?_eq_getElem hd];rfl
 refine⟨h1,?_⟩;have hm:=List.mem_of_getElem? h1;unfold freeS at hm;obtain⟨h2,h3⟩:=List.mem_filter.1 hm;exact⟨List.mem_range.1 h2,h3⟩
theorem smallM_succ (cf:Cf) (c f:Nat) (h:Hs):smallM cf c (f+1) h=match roomS cf h c with
  | none=>(none,h)
  | some (s,h1)=>if clean h1.m (adr c s (pickJ cf h1 c s)) (szN c) then (some (s,pickJ cf h1 c s),{ h1 with used:=h1.used+1 })
   else smallM cf c f { h1 with used:=h1.used+1,st:=upd3 h1.st c s (pickJ cf h1 c s) 4 }:=rfl
structure Got9 (cf:Cf) (c:Nat) (h:Hs) (o:Option (Nat×Nat)) (h':Hs):Prop where
 inv:Inv cf h'
 stay:Stay h h'
 some:∀ s j,o=some (s,j)→s < 6∧j < slN c∧onS h' c s=true∧isFree (h'.st c s j)=true∧isFree (h.st c s j)=true∧clean h'.m (adr c s j) (szN c)=true
theorem Inv.small {cf:Cf} {c:Nat} (hc:c < 12):∀ (f:Nat) {h:Hs},Inv cf h→Got9 cf c h (smallM cf c f h).1 (smallM cf c f h).2∧(smallM cf c f h).2.used≤h.used+f
 | 0,h,i=>⟨⟨i,Stay.refl _,fun s j e=>by cases e⟩,Nat.le_refl _⟩
 | f+1,h,i=>by
  rw [smallM_succ]
  cases hr:roomS cf h c with
  | none=>exact ⟨⟨i,Stay.refl _,fun s j e=>by cases e⟩,by dsimp only;omega⟩
  | some q =>
   obtain⟨s,h1⟩:=q
   obtain⟨hs,i1,hon,hlen,hst,hu,hse⟩:=i.room hc hr
   obtain⟨_,p1,p2⟩:=pick_in cf hlen
   dsimp only
   generalize pickJ cf h1 c s=j at *
   split
   ·rename_i hcl
    refine⟨⟨i1.used _,⟨hst.live,hst.mem,hst.rq,hst.mx,hst.ff,hst.rg,hst.row,hst.rel⟩,fun s' j' e=>?_⟩,by dsimp only;omega⟩
    simp at e
    obtain⟨rfl,rfl⟩:=e
    refine⟨hs,p1,hon,p2,?_,hcl⟩
    rw [←hse];exact p2
   have i2:Inv cf { h1 with used:=h1.used+1,st:=upd3 h1.st c s j 4 }:=(i1.used (h1.used+1)).retire hc hs p1 p2 hon
   obtain⟨ih,ihu⟩:=Inv.small hc f i2
   have st2:Stay h1 { h1 with used:=h1.used+1,st:=upd3 h1.st c s j 4 }:=by
    refine⟨fun c' s' j' hf=>?_,fun _ _=>rfl,rfl,rfl,rfl,rfl,rfl,rfl⟩;refine upd3_ne _ _ ?_;rintro⟨rfl,rfl,rfl⟩;rw [p2] at hf;cases hf
   refine⟨⟨ih.inv,hst.trans (st2.trans ih.stay),fun s' j' e=>?_⟩,?_⟩
   ·obtain⟨a1,a2,a3,a4,a5,a6⟩:=ih.some s' j' e;refine⟨a1,a2,a3,a4,?_,a6⟩;rw [←hse];have a5':isFree (upd3 h1.st c s j 4 c s' j')=true:=a5
    by_cases e:c=c∧s'=s∧j'=j
    ·obtain⟨_,rfl,rfl⟩:=e;exact p2
    rw [upd3_ne _ _ e] at a5';exact a5'
   dsimp only at ihu;omega
end Go.Proofs.YtacccpkmgkojiaaGreatDoorRR
namespace Go.Proofs.YtacccpkmgkojiaaGreatDoorRR
set_option linter.unusedVariables false
set_option linter.unusedSimpArgs false
set_option maxRecDepth 20000
set_option maxHeartbeats 8000000
open Go.RowKit
theorem list_app {P:Program} {t:TypeId} {ops:Array Oper} {rest:List Oper} {o:Oper} {a:Act} {w:World} {Q:Exit→Act→World→Prop} (hgd:o.guard=none) (s x:Operand)
  (ho:o.op=.call { callee:=.builtin .append,args:=#[s,x],argTypes:=#[t,t] }) (ht:o.type=t) {v v2 v':Value} {w':World} (hs:a.eval s=v) (hx:a.eval x=v2)
  (hr:(Builtin.append_ #[t,t] t #[v,v2]).run P w=.ok v' w') (h:wpList P ops Q rest (a.put o.dst v') w'):wpList P ops Q (o::rest) a w:=by
 refine wpList_plain hgd fun K hK=>?_
 unfold Oper.wp;simp [execOp,ho,ht,resolve,invoke,builtin,hs,hx,hr,Result.andThen];exact hK _ _ h
theorem info22:(Tryz.prog.info? 23).map (fun i=>(i.zero,i.size,i.bytes))=some (some (Vu 0),1,8):=by kernel_rfl
theorem Us_snoc (l:List Nat) (n:Nat):Us (l++[n])=Us l++[Vu (n:Int)]:=by simp [Us]
theorem Us_len (l:List Nat):(Us l).length=l.length:=by simp [Us]
theorem app_us (W:World) (B:Nat) (v:Value) (l m:List Nat) (x:Addr) (c:Nat) (hown:W.ownsRow B 23 1 v l.length (Us l)) (hg:∀ j u,(Us m)[j]?=some u→W.cell? (x.add j)=some u) (hl:l.length+m.length≤100000) (hB:B≤W.heap.size) :
  ∃ v' w',(Builtin.append_ #[35,35] 35 #[v,.slice (some x) m.length c]).run Tryz.prog W=.ok v' w'∧w'.ownsRow B 23 1 v' (l++m).length (Us (l++m))∧W.grownBy w' v.ownBlock:=by
 obtain⟨i0,hi0,hz0,hz1,hz2⟩:=info_parts info22;have h1:∀ u∈Us m,u.oneCell'=true:=fun u hu=>by
  simp only [Us,List.mem_map] at hu;obtain⟨n,_,rfl⟩:=hu;rfl
 obtain⟨v',w',e1,e2,e3,_⟩:=run_append_own (P:=Tryz.prog) W B 35 35 23 i0 _ 1 8 Tryz.underlying35 hi0 hz0 hz1 hz2 rfl (by omega) v _ _ hown x m.length c (Us m) (by rw [Us_len,Nat.mul_one]) hg h1 (by unfold maxLen;omega) (by omega) hB;exact⟨v',w',e1,by rw [List.length_append];simpa [Us] using e2,e3⟩
end Go.Proofs.YtacccpkmgkojiaaGreatDoorRR
namespace Go.Proofs.YtacccpkmgkojiaaGreatDoorRR
set_option linter.unusedVariables false
set_option linter.unusedSimpArgs false
set_option maxRecDepth 20000
set_option maxHeartbeats 8000000
open Go.RowKit
theorem runH_snoc (cf:Cf) (o:Op6):∀ (l:List Op6) (h:Hs) (an:List An4),runH cf (l++[o]) h an=((stepH cf (runH cf l h an).1 (runH cf l h an).2 o).2,(runH cf l h an).2++[(stepH cf (runH cf l h an).1 (runH cf l h an).2 o).1])
 | [],h,an=>rfl
 | p::l,h,an=>by
  show runH cf (l++[o]) _ _=_
  rw [runH_snoc cf o l]
  rfl
theorem runH_len (cf:Cf):∀ (l:List Op6) (h:Hs) (an:List An4),(runH cf l h an).2.length=an.length+l.length
 | [],h,an=>rfl
 | p::l,h,an=>by
  show (runH cf l _ _).2.length=_
  rw [runH_len cf l]
  simp
  omega
abbrev Aw:=An4×Value
def aC (y:Aw):List Value:=[Vi y.1.code,Vu (y.1.addr:Nat),Vi (y.1.size:Nat),y.2]
def flatB (l:List Aw):List Value:=l.flatMap aC
theorem flatB_snoc (l:List Aw) (y:Aw):flatB (l++[y])=flatB l++aC y:=by simp [flatB]
theorem info81b:(Tryz.prog.info? 49).map (fun i=>(i.zero,i.size,i.bytes))=some (some (.agg #[Vi 0,Vu 0,Vi 0,Vn]),4,48):=by kernel_rfl
theorem app_an (W:World) (B:Nat) (v:Value) (l:List Aw) (y:Aw) (g c:Nat) (hown:W.ownsRow B 49 4 v l.length (flatB l)) (hg:W.heap[g]?=some (.cells (aC y).toArray 49 (0,0))) (hy:y.2.oneCell'=true) (hl:l.length≤1000) (hB:B≤W.heap.size) :
  ∃ v' w',(Builtin.append_ #[31,31] 31 #[v,Vl g 1 c]).run Tryz.prog W=.ok v' w'∧w'.ownsRow B 49 4 v' (l++[y]).length (flatB (l++[y]))∧W.grownBy w' v.ownBlock:=by
 obtain⟨i0,hi0,hz0,hz1,hz2⟩:=info_parts info81b;have hnw:∀ j u,(aC y)[j]?=some u→W.cell? ((⟨g,0,none⟩:Addr).add j)=some u:=fun j u hj=>by
  rw [Addr.add_mid,Nat.zero_add,cell_of_row _ _ j _ _ _ hg];simpa using hj
 have h1:∀ u∈aC y,u.oneCell'=true:=fun u hu=>by
  simp only [aC,List.mem_cons,List.not_mem_nil,or_false] at hu
  rcases hu with rfl|rfl|rfl|rfl
  ·rfl
  ·rfl
  ·rfl
  exact hy
 obtain⟨v',w',e1,e2,e3,_⟩:=run_append_own (P:=Tryz.prog) W B 31 31 49 i0 _ 4 48 Tryz.underlying31 hi0 hz0 hz1 hz2 rfl (by omega) v _ _ hown ⟨g,0,none⟩ 1 c (aC y) rfl hnw h1 (by unfold maxLen;omega) (by omega) hB;exact⟨v',w',e1,by rw [flatB_snoc,List.length_append];exact e2,e3⟩
end Go.Proofs.YtacccpkmgkojiaaGreatDoorRR
namespace Go.Proofs.YtacccpkmgkojiaaGreatDoorRR
set_option linter.unusedVariables false
set_option linter.unusedSimpArgs false
set_option maxRecDepth 20000
set_option maxHeartbeats 8000000
open Go.RowKit
theorem own_fz {W:World} {B:Nat} {e:TypeId} {sz:Nat} {G n cap:Nat} {xs:List Value} (h:W.ownsRow B e sz (Vl G n cap) n xs) (i:Nat):W.frozen? ⟨G,i,none⟩=false:=by
 rcases h.2 with ⟨e,_⟩|⟨g,cap',cur,e,h1,h2,h3,h4,h5,h6⟩
 ·simp at e
 simp at e;obtain⟨rfl,rfl⟩:=e;simp [World.frozen?,h2]
theorem Us_at {l:List Nat} {i x:Nat} (h:l[i]?=some x):(Us l)[i]?=some (Vu (x:Nat)):=by simp [Us,h]
theorem Us_set (l:List Nat) (i x:Nat):(Us l).set i (Vu (x:Nat))=Us (l.set i x):=by simp [Us,List.map_set]
end Go.Proofs.YtacccpkmgkojiaaGreatDoorRR
