import Derived.Below
import Derived.BigGuardIn
import Derived.BigQuiet
import Derived.BigRegionIn
import Derived.Conc.MuLone
import Derived.Deep.AppendLies
import Derived.Deep.CutBlock
import Derived.Deep.DeepCutAuto
import Derived.Deep.LoopGhost
import Derived.Deep.MidRow
import Derived.Deep.OwnRows
import Derived.Deep.QuietTactic
import Derived.Deep.RegionHeld
import Derived.Deep.RegionLaw
import Derived.Deep.RegionWith
import Derived.KernelRfl
import Derived.Laws.CopyOwn
import Derived.Laws.OwnMore
import Derived.Laws.Rows
import Derived.Laws.Tables
import Derived.Lib.SmallJoins
import Derived.LoopIn
import Derived.LoopNIn
import Derived.Maps.OwnOps
import Derived.Maps.OwnSet
import Derived.OpenShut
import Derived.OrdersHeld
import Derived.OwnWalkIn
import Derived.ProofKit
import Derived.RangeFuncBound
import Derived.RangeFuncCalls
import Derived.RangeFuncLeaves
import Derived.RangeFuncNested
import Derived.Shelf.Abstract
import Derived.Shelf.Bits.Mul64
import Derived.Shelf.RegionOpen
import Derived.TacticsInMore
import Derived.Test.YtacccpkmgkojiaaGreatDoorRRProg
import Derived.WalkKit
import Derived.WalkLawsBesides
import Derived.Test.YtacccpkmgkojiaaGreatDoorRRM00
import Derived.Test.YtacccpkmgkojiaaGreatDoorRRM01
import Derived.Test.YtacccpkmgkojiaaGreatDoorRRM02
import Derived.Test.YtacccpkmgkojiaaGreatDoorRRM03
import Derived.Test.YtacccpkmgkojiaaGreatDoorRRM04
import Derived.Test.YtacccpkmgkojiaaGreatDoorRRM05
import Derived.Test.YtacccpkmgkojiaaGreatDoorRRM06
import Derived.Test.YtacccpkmgkojiaaGreatDoorRRM08
import Derived.Test.YtacccpkmgkojiaaGreatDoorRRM09
import Derived.Test.YtacccpkmgkojiaaGreatDoorRRM10
import Derived.Test.YtacccpkmgkojiaaGreatDoorRRM14
import Derived.Test.YtacccpkmgkojiaaGreatDoorRRM15
namespace Go.Proofs.YtacccpkmgkojiaaGreatDoorRR
set_option linter.unusedVariables false
set_option linter.unusedSimpArgs false
set_option maxRecDepth 20000
set_option maxHeartbeats 8000000
open Go.RowKit
theorem room_in {h:Hs} {n s:Nat} (hr:roomL h n=some s):187≤s∧s+n≤283∧∀ r∈h.rg,s+n≤r.first∨r.first+r.ext≤s:=by
 unfold roomL at hr;rw [Option.map_eq_some_iff] at hr;obtain⟨k,hk,rfl⟩:=hr;obtain⟨h1,h2⟩:=find_lt hk;simp at h2;refine⟨by omega,by omega,fun r hr=>?_⟩;exact h2.2 r hr
theorem pagesN_pos {a:Nat} (h:1016 < a):1≤pagesN a:=by
 unfold pagesN
 split <;> omega
theorem Inv.large {cf:Cf} {h:Hs} (i:Inv cf h) {s g a:Nat} (hg1:1≤g) (hg3:g≤3) (ha:1016 < a) (hr:roomL h (g+pagesN a+1)=some s):Inv cf { h with m:=freshM h.m (s+g) (pagesN a),rg:=h.rg++[⟨s,g,pagesN a,1,a⟩],rel:=h.rel.filter fun b=>b/1024 < s || s+(g+pagesN a+1)≤b/1024 }:=by
 obtain⟨r1,r2,r3⟩:=room_in hr;have hp:=pagesN_pos ha;obtain⟨p,hpe⟩:∃ p,pagesN a=p:=⟨_,rfl⟩;rw [hpe] at r2 r3 hp ⊢;have hfr:∀ k,k < 187→freshM h.m (s+g) p k=h.m k:=fun k hk=>by rw [freshM_eq,if_neg (by omega)]
 have hon:∀ c' s',c' < 12→s' < 6→onS { h with m:=freshM h.m (s+g) p,rg:=h.rg++[⟨s,g,p,1,a⟩],rel:=h.rel.filter fun b=>b/1024 < s || s+(g+p+1)≤b/1024 } c' s'=onS h c' s':=fun c' s' hc' hs'=>by
  have:=slabP_in hc' hs';unfold onS;show (freshM h.m (s+g) p (slabP c' s')).isSome=_;rw [hfr _ (by omega)]
 refine⟨i.st,i.fine.fresh _ _,fun k hk=>?_,fun c' s' hc' hs' j hj=>?_,fun c' s' hc' hs' ho=>?_,i.req,i.mxl,i.ffl,i.ffn,i.mxn,i.wait,i.wlt,i.wnd,fun r hr=>?_,?_,fun k hk=>?_,fun k hk hx=>?_,fun b=>?_,i.rownd,i.rowl,fun b hb=>?_⟩
 ·show freshM h.m _ _ k=none;rw [freshM_eq,if_neg (by omega)];exact i.out k hk
 ·have:=slabP_in hc' hs';rw [hon c' s' hc' hs'];show (freshM h.m _ _ _).isSome=_;rw [hfr _ (by omega)];exact i.slab c' s' hc' hs' j hj
 ·rw [hon c' s' hc' hs'] at ho;exact i.off c' s' hc' hs' ho
 ·rcases List.mem_append.1 hr with h1|h1
  ·exact i.rgs r h1
  simp at h1;subst h1;dsimp only [Rg9.ext];refine⟨by omega,by omega,by omega,by omega,by omega,.inl ⟨rfl,by omega,?_⟩⟩;rw [Int.toNat_natCast];exact hpe
 ·rw [List.pairwise_append];refine⟨i.apart,by simp,fun x hx y hy=>?_⟩;simp at hy;subst hy;have:=r3 x hx;dsimp only [Rg9.ext] at this ⊢;omega
 ·show (freshM h.m (s+g) p k).isSome=true↔_;rw [freshM_eq];have old:=i.big k hk;constructor
  ·intro hx
   split at hx
   ·rename_i e
    exact⟨_,List.mem_append_right _ (List.mem_singleton.2 rfl),rfl,e.1,e.2⟩
   obtain⟨r,hr,h1⟩:=old.1 hx;exact⟨r,List.mem_append_left _ hr,h1⟩
  rintro⟨r,hr,h1⟩
  rcases List.mem_append.1 hr with h2|h2
  ·split
   ·rfl
   exact old.2 ⟨r,h2,h1⟩
  simp at h2;subst h2;rw [if_pos h1.2];rfl
 ·have hx':(freshM h.m (s+g) p k).isSome=true:=hx;rw [hfr k hk] at hx';exact i.low k hk hx'
 ·show b∈h.row↔_;rw [i.row b];constructor
  ·rintro⟨r,hr,h1⟩;exact⟨r,List.mem_append_left _ hr,h1⟩
  rintro⟨r,hr,h1⟩
  rcases List.mem_append.1 hr with h2|h2
  ·exact⟨r,h2,h1⟩
  simp at h2;subst h2;have:(1:Int)=2:=h1.1;omega
 obtain⟨h1,h2⟩:=List.mem_filter.1 hb;obtain⟨q1,q2,q3,q4⟩:=i.rel b h1;refine⟨q1,q2,q3,fun r hr=>?_⟩
 rcases List.mem_append.1 hr with h3|h3
 ·exact q4 r h3
 simp at h3;subst h3;simp at h2;exact h2
theorem base_in {cf:Cf} {h:Hs} (i:Inv cf h) {r:Rg9} (hr:r∈h.rg):r.base=(r.first+r.guards)*1024∧r.base/1024=r.first+r.guards∧r.base % 1024=0∧r.ext=r.guards+r.pages+1:=by
 unfold Rg9.base Rg9.ext;refine⟨rfl,?_,?_,rfl⟩ <;> omega
theorem pair_ne {l:List Rg9} (ha:l.Pairwise fun a b=>a.first+a.ext≤b.first∨b.first+b.ext≤a.first) {r q:Rg9} (hr:r∈l) (hq:q∈l) (hg:∀ x∈l,1≤x.guards) (hb:r.base=q.base):r=q:=by
 induction l with
 | nil=>cases hr
 | cons a t ih =>
  have hb':r.first+r.guards=q.first+q.guards:=by unfold Rg9.base at hb;omega
  have hx:∀ x∈t,(x.first+x.guards=a.first+a.guards)→False:=fun x hx he=>by
   have:=(List.pairwise_cons.1 ha).1 x hx;unfold Rg9.ext at this;omega
  rcases List.mem_cons.1 hr with h1|h1 <;> rcases List.mem_cons.1 hq with h2|h2
  ·rw [h1,h2]
  ·subst h1;exact absurd hb'.symm (hx q h2)
  ·subst h2;exact absurd hb' (hx r h1)
  exact ih (List.pairwise_cons.1 ha).2 h1 h2 (fun x hx=>hg x (List.mem_cons_of_mem _ hx))
theorem Inv.one {cf:Cf} {h:Hs} (i:Inv cf h) {r q:Rg9} (hr:r∈h.rg) (hq:q∈h.rg) (hb:r.base=q.base):r=q :=
 pair_ne i.apart hr hq (fun x hx=>(i.rgs x hx).2.2.1) hb
theorem Inv.setRq {cf:Cf} {h:Hs} (i:Inv cf h) {r:Rg9} (hr:r∈h.rg) (h1:r.st=1) {a:Nat} (ha:1016 < a) (hp:pagesN a=r.pages):Inv cf { h with rg:=h.rg.map fun x=>if x.base=r.base then { x with rq:=a } else x }:=by
 have key:∀ x,(if x.base=r.base then ({ x with rq:=(a:Int) } : Rg9) else x).first=x.first∧(if x.base=r.base then ({ x with rq:=(a:Int) } : Rg9) else x).guards=x.guards∧(if x.base=r.base then ({ x with rq:=(a:Int) } : Rg9) else x).pages=x.pages∧(if x.base=r.base then ({ x with rq:=(a:Int) } : Rg9) else x).st=x.st:=fun x=>by
  split <;> exact ⟨rfl,rfl,rfl,rfl⟩
 refine⟨i.st,i.fine,i.out,i.slab,i.off,i.req,i.mxl,i.ffl,i.ffn,i.mxn,i.wait,i.wlt,i.wnd,fun y hy=>?_,?_,fun k hk=>?_,i.low,fun b=>?_,i.rownd,i.rowl,fun b hb=>?_⟩
 ·obtain⟨x,hx,rfl⟩:=List.mem_map.1 hy;obtain⟨k1,k2,k3,k4⟩:=key x;have old:=i.rgs x hx;unfold Rg9.ext at old ⊢;rw [k1,k2,k3,k4];refine⟨old.1,old.2.1,old.2.2.1,old.2.2.2.1,old.2.2.2.2.1,?_⟩
  by_cases e:x.base=r.base
  ·have:=i.one hx hr e;subst this;rw [if_pos rfl];exact .inl ⟨h1,by dsimp only;omega,by dsimp only;rw [Int.toNat_natCast];exact hp⟩
  rw [if_neg e];exact old.2.2.2.2.2
 ·show (h.rg.map _).Pairwise _;rw [List.pairwise_map];refine i.apart.imp (fun {x y} hxy=>?_);unfold Rg9.ext at hxy ⊢;rw [(key x).1,(key x).2.1,(key x).2.2.1,(key y).1,(key y).2.1,(key y).2.2.1];exact hxy
 ·show (h.m k).isSome=true↔_;rw [i.big k hk];constructor
  ·rintro⟨x,hx,q1,q2⟩;refine⟨_,List.mem_map.2 ⟨x,hx,rfl⟩,?_⟩;rw [(key x).1,(key x).2.1,(key x).2.2.1,(key x).2.2.2];exact⟨q1,q2⟩
  rintro⟨y,hy,q1,q2⟩;obtain⟨x,hx,rfl⟩:=List.mem_map.1 hy;rw [(key x).2.2.2] at q1;rw [(key x).1,(key x).2.1,(key x).2.2.1] at q2;exact⟨x,hx,q1,q2⟩
 ·show b∈h.row↔_;rw [i.row b];constructor
  ·rintro⟨x,hx,q1,q2⟩;refine⟨_,List.mem_map.2 ⟨x,hx,rfl⟩,?_⟩;have e:(if x.base=r.base then ({ x with rq:=(a:Int) } : Rg9) else x).base=x.base:=by split <;> rfl
   rw [e,(key x).2.2.2];exact⟨q1,q2⟩
  rintro⟨y,hy,q1,q2⟩;obtain⟨x,hx,rfl⟩:=List.mem_map.1 hy;rw [(key x).2.2.2] at q1;have e:(if x.base=r.base then ({ x with rq:=(a:Int) } : Rg9) else x).base=x.base:=by split <;> rfl
  rw [e] at q2;exact⟨x,hx,q1,q2⟩
 obtain⟨q1,q2,q3,q4⟩:=i.rel b hb;refine⟨q1,q2,q3,fun y hy=>?_⟩;obtain⟨x,hx,rfl⟩:=List.mem_map.1 hy;have:=q4 x hx;unfold Rg9.ext at this ⊢;rw [(key x).1,(key x).2.1,(key x).2.2.1];exact this
end Go.Proofs.YtacccpkmgkojiaaGreatDoorRR
namespace Go.Proofs.YtacccpkmgkojiaaGreatDoorRR
set_option linter.unusedVariables false
set_option linter.unusedSimpArgs false
set_option maxRecDepth 20000
set_option maxHeartbeats 8000000
open Go.RowKit
def frA (h:Hs) (r:Rg9):Hs:={ h with m:=goneM h.m (r.first+r.guards) r.pages,rg:=h.rg.map fun x=>if x.base=r.base then { x with st:=2,rq:=0 } else x,row:=h.row++[r.base] }
theorem freeRange_eq (cf:Cf) (h:Hs) (r:Rg9):freeRange cf h r=if cf.large < (h.row++[r.base]).length then { frA h r with rg:=(frA h r).rg.filter fun x=>x.base≠(h.row++[r.base])[0]?.getD 0,rel:=h.rel++[(h.row++[r.base])[0]?.getD 0],row:=(h.row++[r.base]).tail } else frA h r:=rfl
theorem Inv.fA {cf:Cf} {h:Hs} (i:Inv cf h) {r:Rg9} (hr:r∈h.rg) (h1:r.st=1) (cf':Cf) (hm:cf'.mix=cf.mix) (hf:cf'.fifo=cf.fifo) (hl:h.row.length+1≤cf'.large):Inv cf' (frA h r):=by
 have key:∀ x:Rg9,(if x.base=r.base then ({ x with st:=2,rq:=0 } : Rg9) else x).first=x.first∧(if x.base=r.base then ({ x with st:=2,rq:=0 } : Rg9) else x).guards=x.guards∧(if x.base=r.base then ({ x with st:=2,rq:=0 } : Rg9) else x).pages=x.pages∧(if x.base=r.base then ({ x with st:=2,rq:=0 } : Rg9) else x).base=x.base:=fun x=>by
  split <;> exact ⟨rfl,rfl,rfl,rfl⟩
 obtain⟨b1,b2,b3,b4,b5,b6⟩:=i.rgs r hr;have hx4:r.ext=r.guards+r.pages+1:=rfl;have hfr:∀ k,k < 187→goneM h.m (r.first+r.guards) r.pages k=h.m k:=fun k hk=>by rw [goneM_eq,if_neg (by omega)]
 have hon:∀ c' s',c' < 12→s' < 6→onS (frA h r) c' s'=onS h c' s':=fun c' s' hc' hs'=>by
  have:=slabP_in hc' hs';unfold onS;show (goneM h.m (r.first+r.guards) r.pages (slabP c' s')).isSome=_;rw [hfr _ (by omega)]
 have far:∀ x∈h.rg,x≠r→x.first+x.ext≤r.first∨r.first+r.ext≤x.first:=fun x hx hne=>by
  have aux:∀ {l:List Rg9},(l.Pairwise fun a b=>a.first+a.ext≤b.first∨b.first+b.ext≤a.first)→x∈l→r∈l→x.first+x.ext≤r.first∨r.first+r.ext≤x.first:=fun {l}=>by
   induction l with
   | nil=>intro _ hx;cases hx
   | cons a t ih =>
    intro hp hx hr;obtain⟨p1,p2⟩:=List.pairwise_cons.1 hp
    rcases List.mem_cons.1 hx with e1|e1 <;> rcases List.mem_cons.1 hr with e2|e2
    ·exact absurd (e1.trans e2.symm) hne
    ·subst e1;exact p1 r e2
    ·subst e2;have:=p1 x e1;omega
    exact ih p2 e1 e2
  exact aux i.apart hx hr
 refine⟨i.st,i.fine.gone _ _,fun k hk=>?_,fun c' s' hc' hs' j hj=>?_,fun c' s' hc' hs' ho=>?_,i.req,fun c hc=>hm▸i.mxl c hc,fun c hc=>hf▸i.ffl c hc,i.ffn,i.mxn,i.wait,i.wlt,i.wnd,fun y hy=>?_,?_,fun k hk=>?_,fun k hk hx=>?_,fun b=>?_,?_,?_,fun b hb=>?_⟩
 ·show goneM h.m _ _ k=none;rw [goneM_eq]
  split
  ·rfl
  exact i.out k hk
 ·have:=slabP_in hc' hs';rw [hon c' s' hc' hs'];show (goneM h.m _ _ _).isSome=_;rw [hfr _ (by omega)];exact i.slab c' s' hc' hs' j hj
 ·rw [hon c' s' hc' hs'] at ho;exact i.off c' s' hc' hs' ho
 ·obtain⟨x,hx,rfl⟩:=List.mem_map.1 hy;obtain⟨k1,k2,k3,k4⟩:=key x;have old:=i.rgs x hx;unfold Rg9.ext at old ⊢;rw [k1,k2,k3];refine⟨old.1,old.2.1,old.2.2.1,old.2.2.2.1,old.2.2.2.2.1,?_⟩
  by_cases e:x.base=r.base
  ·rw [if_pos e];exact .inr ⟨rfl,rfl⟩
  rw [if_neg e];exact old.2.2.2.2.2
 ·show (h.rg.map _).Pairwise _;rw [List.pairwise_map];refine i.apart.imp (fun {x y} hxy=>?_);unfold Rg9.ext at hxy ⊢;rw [(key x).1,(key x).2.1,(key x).2.2.1,(key y).1,(key y).2.1,(key y).2.2.1];exact hxy
 ·show (goneM h.m (r.first+r.guards) r.pages k).isSome=true↔_;rw [goneM_eq];have old:=i.big k hk;constructor
  ·intro hx
   split at hx
   ·cases hx
   rename_i hn
   obtain⟨x,hx1,q1,q2⟩:=old.1 hx;have hne:x.base≠r.base:=fun e=>by
    have:=i.one hx1 hr e;subst this;exact hn q2
   refine⟨x,List.mem_map.2 ⟨x,hx1,by rw [if_neg hne]⟩,q1,q2⟩
  rintro⟨y,hy,q1,q2⟩;obtain⟨x,hx1,rfl⟩:=List.mem_map.1 hy;have hne:x.base≠r.base:=fun e=>by
   rw [if_pos e] at q1;have:(2:Int)=1:=q1;omega
  rw [if_neg hne] at q1 q2;have:=far x hx1 (fun e=>hne (by rw [e]));unfold Rg9.ext at this;rw [if_neg (by omega)];exact old.2 ⟨x,hx1,q1,q2⟩
 ·have hx':(goneM h.m (r.first+r.guards) r.pages k).isSome=true:=hx;rw [hfr k hk] at hx';exact i.low k hk hx'
 ·show b∈h.row++[r.base]↔_;rw [List.mem_append,i.row b];constructor
  ·rintro (⟨x,hx,q1,q2⟩|h2)
   ·have hne:x.base≠r.base:=fun e=>by
     have:=i.one hx hr e;subst this;omega
    exact⟨x,List.mem_map.2 ⟨x,hx,by rw [if_neg hne]⟩,q1,q2⟩
   simp at h2;subst h2;exact⟨_,List.mem_map.2 ⟨r,hr,rfl⟩,by rw [if_pos rfl],(key r).2.2.2⟩
  rintro⟨y,hy,q1,q2⟩;obtain⟨x,hx,rfl⟩:=List.mem_map.1 hy;rw [(key x).2.2.2] at q2
  by_cases e:x.base=r.base
  ·right;simp;rw [←q2,e]
  rw [if_neg e] at q1;exact .inl ⟨x,hx,q1,q2⟩
 ·show (h.row++[r.base]).Nodup;rw [List.nodup_append];refine⟨i.rownd,by simp,fun a ha b hb=>?_⟩;simp at hb;subst hb;rintro rfl;obtain⟨x,hx,q1,q2⟩:=(i.row _).1 ha;have:=i.one hx hr q2;subst this;omega
 ·show (h.row++[r.base]).length≤_;simp;omega
 obtain⟨q1,q2,q3,q4⟩:=i.rel b hb;refine⟨q1,q2,q3,fun y hy=>?_⟩;obtain⟨x,hx,rfl⟩:=List.mem_map.1 hy;have:=q4 x hx;unfold Rg9.ext at this ⊢;rw [(key x).1,(key x).2.1,(key x).2.2.1];exact this
theorem Inv.leave {cf:Cf} {h:Hs} (i:Inv cf h) {b0:Nat} {t:List Nat} (hrow:h.row=b0::t) (cf':Cf) (hm:cf'.mix=cf.mix) (hf:cf'.fifo=cf.fifo) (hl:t.length≤cf'.large):Inv cf' { h with rg:=h.rg.filter fun x=>x.base≠b0,rel:=h.rel++[b0],row:=t }:=by
 obtain⟨r0,hr0,s0,e0⟩:=(i.row b0).1 (by rw [hrow];simp);have hnd:=i.rownd;rw [hrow] at hnd;obtain⟨n1,n2⟩:=List.nodup_cons.1 hnd;have hin:∀ x,x∈(h.rg.filter fun x=>decide (x.base≠b0))↔x∈h.rg∧x.base≠b0:=fun x=>by rw [List.mem_filter];simp
 refine⟨i.st,i.fine,i.out,i.slab,i.off,i.req,fun c hc=>hm▸i.mxl c hc,fun c hc=>hf▸i.ffl c hc,i.ffn,i.mxn,i.wait,i.wlt,i.wnd,fun y hy=>i.rgs y ((hin y).1 hy).1,i.apart.filter _,fun k hk=>?_,i.low,fun b=>?_,n2,hl,fun b hb=>?_⟩
 ·show (h.m k).isSome=true↔_;rw [i.big k hk];constructor
  ·rintro⟨x,hx,q1,q2⟩;refine⟨x,(hin x).2 ⟨hx,fun e=>?_⟩,q1,q2⟩;have:=i.one hx hr0 (e.trans e0.symm);subst this;omega
  rintro⟨x,hx,q⟩;exact⟨x,((hin x).1 hx).1,q⟩
 ·show b∈t↔_;have old:=i.row b;rw [hrow] at old;constructor
  ·intro hb;obtain⟨x,hx,q1,q2⟩:=old.1 (List.mem_cons_of_mem _ hb);refine⟨x,(hin x).2 ⟨hx,fun e=>?_⟩,q1,q2⟩;rw [q2] at e;subst e;exact n1 hb
  rintro⟨x,hx,q1,q2⟩;obtain⟨h1,h2⟩:=(hin x).1 hx
  rcases List.mem_cons.1 (old.2 ⟨x,h1,q1,q2⟩) with e|e
  ·exact absurd (q2.trans e) h2
  exact e
 rcases List.mem_append.1 hb with h1|h1
 ·obtain⟨q1,q2,q3,q4⟩:=i.rel b h1;exact⟨q1,q2,q3,fun y hy=>q4 y ((hin y).1 hy).1⟩
 simp at h1;subst h1;obtain⟨b1,b2,b3,b4,b5,b6⟩:=i.rgs r0 hr0;obtain⟨f1,f2,f3,f4⟩:=base_in i hr0;rw [e0] at f2 f3;refine⟨f3,by omega,by omega,fun y hy=>?_⟩;obtain⟨hy1,hy2⟩:=(hin y).1 hy;rw [f2];have aux:∀ {l:List Rg9},(l.Pairwise fun a b=>a.first+a.ext≤b.first∨b.first+b.ext≤a.first)→y∈l→r0∈l→y.first+y.ext≤r0.first∨r0.first+r0.ext≤y.first:=fun {l}=>by
  induction l with
  | nil=>intro _ hx;cases hx
  | cons a t ih =>
   intro hp hx hr;obtain⟨p1,p2⟩:=List.pairwise_cons.1 hp
   rcases List.mem_cons.1 hx with e1|e1 <;> rcases List.mem_cons.1 hr with e2|e2
   ·have:=e1.trans e2.symm;subst this;exact absurd e0 hy2
   ·subst e1;exact p1 r0 e2
   ·subst e2;have:=p1 y e1;omega
   exact ih p2 e1 e2
 have:=aux i.apart hy1 hr0;omega
theorem Inv.fRange {cf:Cf} {h:Hs} (i:Inv cf h) {r:Rg9} (hr:r∈h.rg) (h1:r.st=1):Inv cf (freeRange cf h r):=by
 rw [freeRange_eq]
 by_cases hl:cf.large < (h.row++[r.base]).length
 ·rw [if_pos hl];have i1:=i.fA hr h1 { cf with large:=cf.large+1 } rfl rfl (by have:=i.rowl;dsimp only;omega);obtain⟨b0,t,hbt⟩:∃ b0 t,h.row++[r.base]=b0::t:=by
   cases h.row with
   | nil=>exact ⟨_,_,rfl⟩
   | cons a l=>exact ⟨a,l++[r.base],rfl⟩
  have i2:=i1.leave (b0:=b0) (t:=t) hbt cf rfl rfl (by
   have h2:=congrArg List.length hbt;have:=i.rowl;simp at h2;omega)
  rw [hbt];exact i2
 rw [if_neg hl];exact i.fA hr h1 cf rfl rfl (by simp at hl;omega)
end Go.Proofs.YtacccpkmgkojiaaGreatDoorRR
namespace Go.Proofs.YtacccpkmgkojiaaGreatDoorRR
set_option linter.unusedVariables false
set_option linter.unusedSimpArgs false
set_option maxRecDepth 20000
set_option maxHeartbeats 8000000
open Go.RowKit
theorem co_c2 {a:Nat} (h:a≤1016):coN a < 12∧a+8≤szN (coN a):=(co_c h).2
inductive Seen (h:Hs) (p:Nat):Fd→Prop
 | slot (c s j:Nat):c < 12→s < 6→j < slN c→adr c s j=p→h.st c s j=1→Seen h p (.slot c s j)
 | range (r:Rg9):r∈h.rg→r.base=p→r.st=1→Seen h p (.range r)
 | no (code:Int):(code=3∨code=4)→Seen h p (.no code)
theorem allS_in {t:Nat×Nat×Nat} (h:t∈allS):t.1 < 12∧t.2.1 < 6∧t.2.2 < slN t.1:=by
 unfold allS at h;simp only [List.mem_flatMap,List.mem_range,List.mem_map] at h;obtain⟨c,hc,s,hs,j,hj,rfl⟩:=h;exact⟨hc,hs,hj⟩
theorem find_seen (h:Hs) (p:Nat):Seen h p (findM h p):=by
 unfold findM
 cases e:slotAt p with
 | some t =>
  obtain⟨c,s,j⟩:=t;unfold slotAt at e;have h1:=allS_in (List.mem_of_find?_eq_some e);have h2:=List.find?_some e;simp at h2;dsimp only at h1 ⊢
  split
  ·rename_i h3;exact .slot c s j h1.1 h1.2.1 h1.2.2 h2 h3
  split
  ·exact .no 3 (.inl rfl)
  exact .no 4 (.inr rfl)
 | none =>
  dsimp only
  cases e2:h.rg.find? fun r=>r.base==p with
  | some r =>
   have h1:=List.mem_of_find?_eq_some e2;have h2:=List.find?_some e2;simp at h2;dsimp only
   split
   ·rename_i h3;exact .range r h1 h2 h3
   exact .no 4 (.inr rfl)
  | none =>
   dsimp only
   split
   ·exact .no 4 (.inr rfl)
   exact .no 3 (.inl rfl)
structure Few (k:Nat) (h:Hs):Prop where
 rg:h.rg.length≤k
 rel:h.rel.length≤k
 row:h.row.length≤k
 used:h.used≤2100*k
theorem Few.mono {k k':Nat} {h:Hs} (f:Few k h) (hk:k≤k'):Few k' h :=
 ⟨Nat.le_trans f.rg hk,Nat.le_trans f.rel hk,Nat.le_trans f.row hk,Nat.le_trans f.used (Nat.mul_le_mul_left _ hk)⟩
theorem Inv.malloc {cf:Cf} {h:Hs} (i:Inv cf h) {k:Nat} (f:Few k h) (a:Nat):Inv cf (mallocM cf h a).2∧(mallocM cf h a).2.rg.length≤k+1∧(mallocM cf h a).2.rel.length≤k∧(mallocM cf h a).2.row.length≤k∧(mallocM cf h a).2.used≤h.used+2000:=by
 unfold mallocM
 by_cases ha:a≤1016
 ·rw [if_pos ha];obtain⟨hc,hsz⟩:=co_c2 ha;generalize coN a=c at *;obtain⟨g,hu⟩:=Inv.small hc 2000 i
  cases e:smallM cf c 2000 h with
  | mk o h1 =>
   rw [e] at g hu;have f1:h1.rg.length≤k+1∧h1.rel.length≤k∧h1.row.length≤k:=by
    dsimp only at g;rw [g.stay.rg,g.stay.rel,g.stay.row];exact⟨by have:=f.rg;omega,f.rel,f.row⟩
   cases o with
   | none=>exact ⟨g.inv,f1.1,f1.2.1,f1.2.2,hu⟩
   | some q =>
    obtain⟨s,j⟩:=q;obtain⟨hs,hj,hon,hfr,_,_⟩:=g.some s j rfl;rw [isFree_or] at hfr;have hz:=szN_in hc;have i1:=g.inv.setSt hc hs hj 1 (a:Int) (by omega) (by omega) (by omega) (by dsimp only at hfr ⊢;omega) (.inr hon) (fun _=>⟨by omega,by omega⟩) (fun e=>absurd rfl e);exact⟨i1.bytes (adr c s j+usN c) (can cf (adr c s j)) 8,f1.1,f1.2.1,f1.2.2,hu⟩
 rw [if_neg ha];dsimp only;have hd:=dr_lt cf h (n:=3) (by omega);have i1:=i.used (h.used+1);have f0:=f.rg
 split
 ·exact⟨i1,by dsimp only;omega,f.rel,f.row,by dsimp only;omega⟩
 split
 ·exact⟨i1,by dsimp only;omega,f.rel,f.row,by dsimp only;omega⟩
 rename_i s hr
 split
 ·exact⟨i1,by dsimp only;omega,f.rel,f.row,by dsimp only;omega⟩
 refine⟨i1.large (by omega) (by omega) (by omega) hr,by simp;omega,?_,f.row,by dsimp only;omega⟩;exact Nat.le_trans (List.length_filter_le _ _) f.rel
theorem Inv.fAny {cf:Cf} {h:Hs} (i:Inv cf h) (hf1:1≤cf.fifo) {p:Nat} {x:Fd} (hx:Seen h p x):Inv cf (freeM cf h x)∧(freeM cf h x).rg.length≤h.rg.length∧(freeM cf h x).rel.length≤h.rel.length+1∧(freeM cf h x).row.length≤h.row.length+1∧(freeM cf h x).used≤h.used+1:=by
 cases hx with
 | slot c s j hc hs hj hp hl =>
  refine⟨i.fSlot hf1 hc hs hj hl,?_⟩;show (freeSlot cf h c s j).rg.length≤_∧(freeSlot cf h c s j).rel.length≤_∧(freeSlot cf h c s j).row.length≤_∧(freeSlot cf h c s j).used≤_;rw [freeSlot_eq];have ha:(freeA cf h c s j).rg=h.rg∧(freeA cf h c s j).rel=h.rel∧(freeA cf h c s j).row=h.row∧(freeA cf h c s j).used≤h.used+1:=by
   unfold freeA;refine⟨rfl,rfl,rfl,?_⟩;dsimp only
   split <;> omega
  have hb:∀ a b,(releaseM (freeA cf h c s j) c a b).rg=h.rg∧(releaseM (freeA cf h c s j) c a b).rel=h.rel∧(releaseM (freeA cf h c s j) c a b).row=h.row∧(releaseM (freeA cf h c s j) c a b).used≤h.used+1:=fun a b=>by
   unfold releaseM;dsimp only
   split <;> exact ha
  split
  ·rw [ha.1,ha.2.1,ha.2.2.1];exact⟨Nat.le_refl _,by omega,by omega,ha.2.2.2⟩
  obtain⟨x1,x2,x3,x4⟩:=hb ((leftM cf h c s j).toNat/slN c) ((leftM cf h c s j).toNat % slN c);rw [x1,x2,x3];exact⟨Nat.le_refl _,by omega,by omega,x4⟩
 | range r hr hb hs =>
  refine⟨i.fRange hr hs,?_⟩;show (freeRange cf h r).rg.length≤_∧(freeRange cf h r).rel.length≤_∧(freeRange cf h r).row.length≤_∧(freeRange cf h r).used≤_;rw [freeRange_eq];unfold frA
  split
  ·dsimp only;refine⟨?_,by simp,by simp,by omega⟩;exact Nat.le_trans (List.length_filter_le _ _) (by simp)
  dsimp only;exact⟨by simp,by omega,by simp,by omega⟩
 | no code hc=>exact ⟨i,Nat.le_refl _,Nat.le_add_right _ _,Nat.le_add_right _ _,Nat.le_add_right _ _⟩
theorem Inv.realloc {cf:Cf} {h:Hs} (i:Inv cf h) (hf1:1≤cf.fifo) {k:Nat} (f:Few k h) (p a:Nat):Inv cf (reallocM cf h p a).2∧Few (k+1) (reallocM cf h p a).2:=by
 obtain⟨m1,m2,m3,m4,m5⟩:=i.malloc f a;have fu:=f.used;have fz:Few (k+1) h:=f.mono (by omega);have fm:Few (k+1) (mallocM cf h a).2:=⟨m2,by omega,by omega,by omega⟩;have tk:∀ old:Nat,∀ q h1,mallocM cf h a=(some q,h1)→Inv cf (freeM cf { h1 with m:=copyM h1.m p q (min old a) } (findM { h1 with m:=copyM h1.m p q (min old a) } p))∧Few (k+1) (freeM cf { h1 with m:=copyM h1.m p q (min old a) } (findM { h1 with m:=copyM h1.m p q (min old a) } p)):=fun old q h1 e=>by
  rw [e] at m1 m2 m3 m4 m5;dsimp only at m1 m2 m3 m4 m5;have i2:Inv cf { h1 with m:=copyM h1.m p q (min old a) }:=m1.bytes q _ _;obtain⟨g1,g2,g3,g4,g5⟩:=i2.fAny hf1 (find_seen _ p);generalize freeM cf { h1 with m:=copyM h1.m p q (min old a) } (findM { h1 with m:=copyM h1.m p q (min old a) } p)=h9 at *;dsimp only at g2 g3 g4 g5;exact⟨g1,by omega,by omega,by omega,by omega⟩
 unfold reallocM;dsimp only
 by_cases hp:p=0
 ·rw [if_pos hp]
  cases e:mallocM cf h a with
  | mk o h1 =>
   rw [e] at m1 fm
   cases o with
   | none=>exact ⟨m1,fm⟩
   | some q=>exact ⟨m1,fm⟩
 rw [if_neg hp];have hs:=find_seen h p
 cases e:findM h p with
 | no code=>exact ⟨i,fz⟩
 | slot c s j =>
  rw [e] at hs;dsimp only
  split
  ·exact⟨i,fz⟩
  split
  ·rename_i hfit
   cases hs with
   | slot _ _ _ hc hs hj hp hl =>
    obtain⟨_,hsz⟩:=co_c2 hfit.1;rw [hfit.2] at hsz;have hz:=szN_in hc;have hon:onS h c s=true:=by
     cases h9:onS h c s with
     | true=>rfl
     | false=>have:=i.off c s hc hs h9 j hj;rw [hl] at this;simp [isFree] at this
    have:=i.setSt hc hs hj 1 (a:Int) (by omega) (by omega) (by omega) (by omega) (.inr hon) (fun _=>⟨by omega,by omega⟩) (fun e=>absurd rfl e);rw [upd3_self h.st hl] at this;exact⟨this,fz.rg,fz.rel,fz.row,fz.used⟩
  cases e2:mallocM cf h a with
  | mk o h1 =>
   cases o with
   | none=>rw [e2] at m1 fm;exact⟨m1,fm⟩
   | some q=>exact tk _ q h1 e2
 | range r =>
  rw [e] at hs;dsimp only
  split
  ·rename_i hfit
   cases hs with
   | range _ hr hb hs =>
    refine⟨i.setRq hr hs hfit.1 hfit.2,?_⟩;exact⟨by simp;exact fz.rg,fz.rel,fz.row,fz.used⟩
  cases e2:mallocM cf h a with
  | mk o h1 =>
   cases o with
   | none=>rw [e2] at m1 fm;exact⟨m1,fm⟩
   | some q=>exact tk _ q h1 e2
theorem Inv.do {cf:Cf} {h:Hs} (i:Inv cf h) (hf1:1≤cf.fifo) {k:Nat} (f:Few k h) (o:Op6) (p:Nat):Inv cf (doM cf h o p).2∧Few (k+1) (doM cf h o p).2:=by
 have fz:Few (k+1) h:=f.mono (by omega);have fu:=f.used;have mal:∀ n,Inv cf (mallocM cf h n).2∧Few (k+1) (mallocM cf h n).2:=fun n=>by
  obtain⟨m1,m2,m3,m4,m5⟩:=i.malloc f n;exact⟨m1,m2,by omega,by omega,by omega⟩
 have mal2:∀ n,Inv cf (match mallocM cf h n with
  | (none,h1)=>(An4.no 1,h1)
  | (some q,h1)=>(⟨0,q,0,[]⟩,h1)).2∧Few (k+1) (match mallocM cf h n with
  | (none,h1)=>(An4.no 1,h1)
  | (some q,h1)=>(⟨0,q,0,[]⟩,h1)).2:=fun n=>by
  have:=mal n
  cases e:mallocM cf h n with
  | mk o h1 =>
   rw [e] at this
   cases o with
   | none=>exact this
   | some q=>exact this
 unfold doM;dsimp only
 split
 ·exact mal2 _
 split
 ·split
  ·exact⟨i,fz⟩
  exact mal2 _
 split
 ·exact i.realloc hf1 f p o.a
 split
 ·have hs:=find_seen h p;obtain⟨g1,g2,g3,g4,g5⟩:=i.fAny hf1 hs;have ff:Few (k+1) (freeM cf h (findM h p)):=⟨by have:=f.rg;omega,by have:=f.rel;omega,by have:=f.row;omega,by omega⟩
  cases e:findM h p with
  | no code=>exact ⟨i,fz⟩
  | slot c s j =>
   rw [e] at g1 ff;dsimp only
   split
   ·exact⟨i,fz⟩
   exact⟨g1,ff⟩
  | range r=>rw [e] at g1 ff;exact⟨g1,ff⟩
 split
 ·cases e:findM h p with
  | no code=>exact ⟨i,fz⟩
  | slot c s j=>exact ⟨i,fz⟩
  | range r=>exact ⟨i,fz⟩
 split
 ·split <;> exact ⟨i,fz⟩
 split
 ·dsimp only
  split
  ·exact⟨i.bytes p o.ys _,fz.rg,fz.rel,fz.row,fz.used⟩
  exact⟨i,fz⟩
 exact⟨i,fz⟩
theorem Inv.step {cf:Cf} {h:Hs} (i:Inv cf h) (hf1:1≤cf.fifo) {k:Nat} (f:Few k h) (an:List An4) (o:Op6):Inv cf (stepH cf h an o).2∧Few (k+1) (stepH cf h an o).2:=by
 unfold stepH
 split
 ·exact i.do hf1 f o _
 split
 ·exact⟨i,f.mono (by omega)⟩
 exact i.do hf1 f o _
end Go.Proofs.YtacccpkmgkojiaaGreatDoorRR
namespace Go.Proofs.YtacccpkmgkojiaaGreatDoorRR
set_option linter.unusedVariables false
set_option linter.unusedSimpArgs false
set_option maxRecDepth 20000
set_option maxHeartbeats 8000000
open Go.RowKit
inductive Area (h:Hs) (p n:Nat):Prop
 | slot (c s j:Nat):c < 12→s < 6→j < slN c→adr c s j=p→h.st c s j=1→n≤szN c→Area h p n
 | range (r:Rg9):r∈h.rg→r.base=p→r.st=1→n≤r.pages*1024→Area h p n
theorem Inv.on1 {cf:Cf} {h:Hs} (i:Inv cf h) {c s j:Nat} (hc:c < 12) (hs:s < 6) (hj:j < slN c) (hl:isFree (h.st c s j)=false):onS h c s=true:=by
 cases h9:onS h c s with
 | true=>rfl
 | false=>have:=i.off c s hc hs h9 j hj;rw [hl] at this;cases this
theorem Inv.openA {cf:Cf} {h:Hs} (i:Inv cf h) {p n:Nat} (a:Area h p n) {k:Nat} (hk:k < n):isOpen (h.m ((p+k)/1024))=true:=by
 rw [i.fine.open]
 cases a with
 | slot c s j hc hs hj hp hl hn =>
  have hon:=i.on1 hc hs hj (by rw [hl];rfl);have h1:=adr_in hc hs hj;have h2:slabP c s*1024≤adr c s j:=by unfold adr;omega
  have h3:=i.slab c s hc hs ((p+k)/1024 - slabP c s) (by omega);rw [show slabP c s+((p+k)/1024 - slabP c s)=(p+k)/1024 by omega,hon] at h3;exact h3
 | range r hr hb hs hn =>
  have h1:=i.rgs r hr;unfold Rg9.base at hb;exact (i.big _ (by omega)).2 ⟨r,hr,hs,by omega,by omega⟩
theorem slot_apart {c s j c' s' j':Nat} (hc:c < 12) (hs:s < 6) (hj:j < slN c) (hc':c' < 12) (hs':s' < 6) (hj':j' < slN c') (hne:¬(c=c'∧s=s'∧j=j')):adr c s j+szN c≤adr c' s' j'∨adr c' s' j'+szN c'≤adr c s j:=by
 have h1:=adr_in hc hs hj;have h2:=adr_in hc' hs' hj';have g1:slabP c s*1024≤adr c s j:=by unfold adr;omega
 have g2:slabP c' s'*1024≤adr c' s' j':=by unfold adr;omega
 by_cases e:c=c'∧s=s'
 ·obtain⟨rfl,rfl⟩:=e;unfold adr
  rcases Nat.lt_trichotomy j j' with h|h|h
  ·have:(j+1)*szN c≤j'*szN c:=Nat.mul_le_mul_right _ h;rw [Nat.add_mul,Nat.one_mul] at this;omega
  ·exact absurd ⟨rfl,rfl,h⟩ hne
  have:(j'+1)*szN c≤j*szN c:=Nat.mul_le_mul_right _ h;rw [Nat.add_mul,Nat.one_mul] at this;omega
 have:=slab_apart hc hs hc' hs' e;omega
theorem Inv.far {cf:Cf} {h:Hs} (i:Inv cf h) {r q:Rg9} (hr:r∈h.rg) (hq:q∈h.rg) (hne:r≠q):r.first+r.ext≤q.first∨q.first+q.ext≤r.first:=by
 have aux:∀ {l:List Rg9},(l.Pairwise fun a b=>a.first+a.ext≤b.first∨b.first+b.ext≤a.first)→r∈l→q∈l→r.first+r.ext≤q.first∨q.first+q.ext≤r.first:=fun {l}=>by
  induction l with
  | nil=>intro _ hx;cases hx
  | cons a t ih =>
   intro hp hx hr;obtain⟨p1,p2⟩:=List.pairwise_cons.1 hp
   rcases List.mem_cons.1 hx with e1|e1 <;> rcases List.mem_cons.1 hr with e2|e2
   ·exact absurd (e1.trans e2.symm) hne
   ·subst e1;exact p1 q e2
   ·subst e2;have:=p1 r e1;omega
   exact ih p2 e1 e2
 exact aux i.apart hr hq
theorem Inv.apartA {cf:Cf} {h:Hs} (i:Inv cf h) {p n q m:Nat} (a:Area h p n) (b:Area h q m) (hne:p≠q):p+n≤q∨q+m≤p:=by
 cases a with
 | slot c s j hc hs hj hp hl hn =>
  cases b with
  | slot c' s' j' hc' hs' hj' hp' hl' hn' =>
   have:=slot_apart hc hs hj hc' hs' hj' (by rintro ⟨rfl,rfl,rfl⟩;exact hne (hp.symm.trans hp'));omega
  | range r hr hb hs' hn' =>
   have h1:=adr_in hc hs hj;have h2:=i.rgs r hr;unfold Rg9.base at hb;omega
 | range r hr hb hs hn =>
  cases b with
  | slot c' s' j' hc' hs' hj' hp' hl' hn' =>
   have h1:=adr_in hc' hs' hj';have h2:=i.rgs r hr;unfold Rg9.base at hb;omega
  | range r' hr' hb' hs' hn' =>
   have:=i.far hr hr' (by rintro rfl;exact hne (hb.symm.trans hb'));unfold Rg9.ext at this;unfold Rg9.base at hb hb';omega
theorem pagesN_le (a:Nat):a≤pagesN a*1024:=by
 unfold pagesN
 split <;> omega
structure Gave (cf:Cf) (h:Hs) (a q:Nat) (h1:Hs):Prop where
 inv:Inv cf h1
 area:Area h1 q a
 fresh:∀ n,¬Area h q n
 live:∀ c s j,c < 12→s < 6→j < slN c→h.st c s j=1→h1.st c s j=1∧h1.rq c s j=h.rq c s j
 rg:h1.rg=h.rg∨∃ r,h1.rg=h.rg++[r]∧r.base=q
 rel:∀ b,b∈h1.rel→b∈h.rel
theorem Inv.gave {cf:Cf} {h:Hs} (i:Inv cf h) {a q:Nat} {h1:Hs} (he:mallocM cf h a=(some q,h1)):Gave cf h a q h1:=by
 have i1:=(i.malloc (k:=h.rg.length+h.rel.length+h.row.length+h.used) ⟨by omega,by omega,by omega,by omega⟩ a).1;rw [he] at i1;dsimp only at i1;unfold mallocM at he
 by_cases ha:a≤1016
 ·rw [if_pos ha] at he;obtain⟨hc,hsz⟩:=co_c2 ha;generalize coN a=c at *;obtain⟨g,hu⟩:=Inv.small hc 2000 i
  cases e:smallM cf c 2000 h with
  | mk o h0 =>
   rw [e] at g hu he
   cases o with
   | none=>simp at he
   | some t =>
    obtain⟨s,j⟩:=t;simp at he;obtain⟨rfl,rfl⟩:=he;obtain⟨hs,hj,hon,hf1,hf0,hcl⟩:=g.some s j rfl;refine⟨i1,.slot c s j hc hs hj rfl (upd3_same _ _ _ _ _) (by omega),fun n hA=>?_,fun c' s' j' hc' hs' hj' hl=>?_,.inl g.stay.rg,fun b hb=>g.stay.rel▸hb⟩
    ·cases hA with
     | slot c' s' j' hc' hs' hj' hp' hl' hn' =>
      by_cases hne:c'=c∧s'=s∧j'=j
      ·obtain⟨rfl,rfl,rfl⟩:=hne;rw [hl'] at hf0;simp [isFree] at hf0
      have:=slot_apart hc' hs' hj' hc hs hj hne;have z1:=szN_in hc;have z2:=szN_in hc';omega
     | range r hr hb hs' hn' =>
      have h1:=adr_in hc hs hj;have h2:=i.rgs r hr;unfold Rg9.base at hb;omega
    have hne:¬(c'=c∧s'=s∧j'=j):=by
     rintro⟨rfl,rfl,rfl⟩;rw [hl] at hf0;simp [isFree] at hf0
    have hlv:=g.stay.live c' s' j' (by rw [hl];rfl);refine⟨?_,?_⟩
    ·show upd3 h0.st c s j 1 c' s' j'=1;rw [upd3_ne _ _ hne];exact hlv.trans hl
    show upd3 h0.rq c s j a c' s' j'=h.rq c' s' j';rw [upd3_ne _ _ hne];exact congrFun (congrFun (congrFun g.stay.rq c') s') j'
 rw [if_neg ha] at he;dsimp only at he;have hd:=dr_lt cf h (n:=3) (by omega)
 split at he
 ·simp at he
 split at he
 ·simp at he
 rename_i s hr
 split at he
 ·simp at he
 obtain⟨r1,r2,r3⟩:=room_in hr;simp at he;obtain⟨rfl,rfl⟩:=he;have hp:=pagesN_le a;refine⟨i1,.range ⟨s,1+dr cf h 3,pagesN a,1,a⟩ (List.mem_append_right _ (List.mem_singleton.2 rfl)) rfl rfl hp,fun n hA=>?_,fun c' s' j' hc' hs' hj' hl=>⟨hl,rfl⟩,.inr ⟨_,rfl,rfl⟩,fun b hb=>(List.mem_filter.1 hb).1⟩
 cases hA with
 | slot c' s' j' hc' hs' hj' hp' hl' hn' =>
  have h1:=adr_in hc' hs' hj';omega
 | range r hr hb hs' hn' =>
  have h2:=r3 r hr;have h3:=i.rgs r hr;unfold Rg9.base at hb;unfold Rg9.ext at h2;omega
theorem Gave.keeps {cf:Cf} {h h1:Hs} {a q:Nat} (g:Gave cf h a q h1) {p n:Nat} (A:Area h p n):Area h1 p n∧p≠q:=by
 refine⟨?_,fun e=>g.fresh n (e▸A)⟩
 cases A with
 | slot c s j hc hs hj hp hl hn=>exact .slot c s j hc hs hj hp (g.live c s j hc hs hj hl).1 hn
 | range r hr hb hs hn =>
  refine .range r ?_ hb hs hn
  rcases g.rg with e|⟨r',e,_⟩
  ·rw [e];exact hr
  rw [e];exact List.mem_append_left _ hr
theorem find_slotS {h h':Hs} {p c s j:Nat} (hf:findM h p=.slot c s j) (hl:h'.st c s j=1):findM h' p=.slot c s j:=by
 unfold findM at hf ⊢
 cases e:slotAt p with
 | some t =>
  obtain⟨c',s',j'⟩:=t;rw [e] at hf;dsimp only at hf ⊢
  split at hf
  ·simp at hf;obtain⟨rfl,rfl,rfl⟩:=hf;rw [if_pos hl]
  split at hf <;> cases hf
 | none =>
  rw [e] at hf;dsimp only at hf
  cases e2:h.rg.find? fun r=>r.base==p with
  | some r=>rw [e2] at hf;dsimp only at hf;split at hf <;> cases hf
  | none=>rw [e2] at hf;dsimp only at hf;split at hf <;> cases hf
theorem find_rangeS {h h':Hs} {p:Nat} {r:Rg9} (hf:findM h p=.range r) (hr:h'.rg=h.rg∨∃ r',h'.rg=h.rg++[r']):findM h' p=.range r:=by
 unfold findM at hf ⊢
 cases e:slotAt p with
 | some t =>
  obtain⟨c',s',j'⟩:=t;rw [e] at hf;dsimp only at hf ⊢
  split at hf
  ·cases hf
  split at hf <;> cases hf
 | none =>
  rw [e] at hf;dsimp only at hf ⊢
  cases e2:h.rg.find? fun r=>r.base==p with
  | some r0 =>
   rw [e2] at hf;have e3:(h'.rg.find? fun r=>r.base==p)=some r0:=by
    rcases hr with h1|⟨r',h1⟩
    ·rw [h1];exact e2
    rw [h1,List.find?_append,e2];rfl
   rw [e3];exact hf
  | none=>rw [e2] at hf;dsimp only at hf;split at hf <;> cases hf
theorem putM_byte (m:Nat→Option (Bool×List Int)) (p:Nat) (x:Int) (a:Nat) (h:a≠p):byteAt (putM m p x) a=byteAt m a:=by
 unfold byteAt putM
 by_cases e:a/1024=p/1024
 ·rw [e,updM_same];have hne:p % 1024≠a % 1024:=by omega
  cases m (p/1024) with
  | none=>rfl
  | some q=>simp [hne]
 rw [updM_other _ _ _ _ e]
theorem storeM_byte (m:Nat→Option (Bool×List Int)) (q:Nat) (ys:List Int) (a:Nat):∀ k,(a < q∨q+k≤a)→byteAt (storeM m q ys k) a=byteAt m a
 | 0,_=>rfl
 | k+1,h=>by
  show byteAt (putM (storeM m q ys k) (q+k) _) a=_
  rw [putM_byte _ _ _ _ (by omega)]
  exact storeM_byte m q ys a k (by omega)
end Go.Proofs.YtacccpkmgkojiaaGreatDoorRR
namespace Go.Proofs.YtacccpkmgkojiaaGreatDoorRR
set_option linter.unusedVariables false
set_option linter.unusedSimpArgs false
set_option maxRecDepth 20000
set_option maxHeartbeats 8000000
open Go.RowKit
theorem wrapI9 (x:Int) (h1 : -9223372036854775808≤x) (h2:x≤9223372036854775807):IntKind.i64.wrap x=x:=by
 rw [IntKind.wrap_i64];omega
theorem im_covers (g a:Nat) (r:Rg9) (W:World) (h:Lc g r W) (ha:a < 18446744073709551616) :
  Calls Tryz.prog 138 #[Vp g 0,Vu (a:Nat)] W fun e W'=>e=.returned (.bool (decide (r.first≤a/1024) && decide (a/1024 < r.first+r.ext)))∧Below W.heap.size W W':=by
 have EX:=hid (fun V (hV:V.heap=W.heap)=>im_extent g r V ⟨by unfold World.cell?;rw [hV];exact h.c0,by unfold World.cell?;rw [hV];exact h.c1,by unfold World.cell?;rw [hV];exact h.c2,by unfold World.cell?;rw [hV];exact h.c3,by unfold World.cell?;rw [hV];exact h.c4,h.hf,h.hu,h.hp⟩);obtain⟨_,_,c2,_,_,hf,hu,hp⟩:=h;have he:r.ext≤18014398509482000:=by unfold Rg9.ext;omega
 obtain⟨p,hpe⟩:∃ p,p=a/1024:=⟨_,rfl⟩;have hp9:p < 18014398509481984:=by omega
 have HP:=hid (show (a:Int)/1024=(p:Int) by omega);rw [←hpe];have CK:=hid (show ∀ W9:World,W9.heap=W.heap→W9.cell? ⟨g,2,none⟩=some (Vi (r.first:Nat))∧W9.heap=W.heap from fun W9 k=>⟨by unfold World.cell?;rw [k];exact c2,k⟩);generalize r.first=f at *
 generalize r.ext=x at *;have hwr:IntKind.i64.wrap ((f:Int)+(x:Int))=(f:Int)+(x:Int):=wrapI9 _ (by omega) (by omega);clear hu hp c2 hpe
 by_cases h1:f≤p
 ·have h1i:(f:Int)≤(p:Int):=by omega
  rw [decide_eq_true h1,Bool.true_and];go_enter Tryz.func138,Tryz.ntmps138;go_upto_region 2 with fail
  rw [HP.out];clear HP h1;refine wp_region_held (S:=fun W9=>W9.cell? ⟨g,2,none⟩=some (Vi (f:Nat))∧W9.heap=W.heap) (by kernel_rfl) ?_;simp only [List.size_toArray,List.length_cons,List.length_nil,Nat.reduceAdd,Array.replicate_succ,Array.replicate_zero,List.push_toArray,List.nil_append,List.cons_append];have hS:=CK.out _ rfl;refine pk 0 9 (Vi (p:Nat)) hS ?_;simp only [lz,l0,ls];refine pk 1 10 (Vp g 0) hS ?_;simp only [lz,l0,ls];refine pk 2 11 (Vp g 0) hS ?_;simp only [lz,l0,ls];refine pk 3 12 (Vp g 2) hS ?_;simp only [lz,l0,ls];refine pz 4 13 (Vi (f:Nat)) hS ?_;simp only [lz,l0,ls];refine pz 5 14 (.bool true) hS ?_;simp only [lz,l0,ls];refine pk 6 15 (.bool true) hS ?_;simp only [lz,l0,ls];refine pk 7 16 (Vi (p:Nat)) hS ?_;simp only [lz,l0,ls];refine pk 8 17 (Vp g 0) hS ?_;simp only [lz,l0,ls];refine pk 9 18 (Vp g 0) hS ?_;simp only [lz,l0,ls];refine pk 10 19 (Vp g 2) hS ?_;simp only [lz,l0,ls];refine pz 11 20 (Vi (f:Nat)) hS ?_;simp only [lz,l0,ls];refine pk 12 21 (Vp g 0) hS ?_;simp only [lz,l0,ls];refine po 13 fun K' hK=>?_
  go_simp;refine (EX.out W.drew rfl).mono ?_;rintro e W2 ⟨rfl,rfl⟩;have h2:=CK.out W.drew.drew rfl;refine hK.out _ _ ⟨h2,?_⟩;clear hS;have hS:=h2;clear hK K';refine pz 14 23 (Vi ((f:Int)+(x:Int))) hS ?_;simp only [lz,l0,ls];refine pz 15 24 (.bool (decide ((p:Int) < (f:Int)+(x:Int)))) hS ?_;simp only [lz,l0,ls];refine pz 16 25 (.bool (decide ((p:Int) < (f:Int)+(x:Int)))) hS ?_;simp only [lz,l0,ls];refine pk 17 4 (.bool (decide ((p:Int) < (f:Int)+(x:Int)))) hS ?_;simp only [lz,l0,ls];refine wpAnyH_done (by kernel_rfl) ?_ _;clear hS;go_wp2;go_ret;refine⟨?_,(Below.refl _ _).drew.drew⟩;show Ending.returned (.bool (decide ((p:Int) < (f:Int)+(x:Int))))=_;congr 2;exact decide_eq_decide.2 (by omega)
 have h1i:(p:Int) < (f:Int):=by omega
 rw [decide_eq_false h1,Bool.false_and];go_enter Tryz.func138,Tryz.ntmps138;go_upto_region 2 with fail
 rw [HP.out];clear HP h1;refine wp_region_held (S:=fun W9=>W9.cell? ⟨g,2,none⟩=some (Vi (f:Nat))∧W9.heap=W.heap) (by kernel_rfl) ?_;simp only [List.size_toArray,List.length_cons,List.length_nil,Nat.reduceAdd,Array.replicate_succ,Array.replicate_zero,List.push_toArray,List.nil_append,List.cons_append];have hS:=CK.out _ rfl;refine pk 0 9 (Vi (p:Nat)) hS ?_;simp only [lz,l0,ls];refine pk 1 10 (Vp g 0) hS ?_;simp only [lz,l0,ls];refine pk 2 11 (Vp g 0) hS ?_;simp only [lz,l0,ls];refine pk 3 12 (Vp g 2) hS ?_;simp only [lz,l0,ls];refine pz 4 13 (Vi (f:Nat)) hS ?_;simp only [lz,l0,ls];refine pz 5 14 (.bool false) hS ?_;simp only [lz,l0,ls];refine pk 6 15 (.bool false) hS ?_;simp only [lz,l0,ls];refine ps 7 16 hS ?_;simp only [lz,l0,ls];refine ps 8 17 hS ?_;simp only [lz,l0,ls];refine ps 9 18 hS ?_;simp only [lz,l0,ls];refine ps 10 19 hS ?_;simp only [lz,l0,ls];refine ps 11 20 hS ?_;simp only [lz,l0,ls];refine ps 12 21 hS ?_;simp only [lz,l0,ls];refine ps 13 22 hS ?_;simp only [lz,l0,ls];refine ps 14 23 hS ?_;simp only [lz,l0,ls];refine ps 15 24 hS ?_;simp only [lz,l0,ls];refine pz 16 25 (.bool false) hS ?_;simp only [lz,l0,ls];refine pk 17 4 (.bool false) hS ?_;simp only [lz,l0,ls];refine wpAnyH_done (by kernel_rfl) ?_ _;clear hS;go_wp2;go_ret;refine⟨?_,(Below.refl _ _).drew⟩;rfl
theorem im_lpaging (g:Nat) (k:Int) (r:Rg9) (W:World) (h:Lc g r W) :
  Calls Tryz.prog 135 #[Vp g 0,Vi k] W fun e W'=>e=.returned (opV k (r.first+r.guards:Nat) (r.pages:Nat) 0 0 none 0 0)∧Below W.heap.size W W':=by
 obtain⟨_,_,c2,c3,c4,hf,hu,hp⟩:=h;have HE:=hid (show ((r.first+r.guards:Nat):Int)=(r.first:Int)+(r.guards:Int) by omega);generalize r.first=f at *
 generalize r.guards=u at *;generalize r.pages=p at *;obtain⟨V,hV⟩:∃ V,V=W.alloc (.cells #[Vi 0,Vi 0,Vi 0,Vu 0,Vi 0,Vn] 181):=⟨_,rfl⟩;have bV:Below W.heap.size W V:=by rw [hV];exact (Below.refl _ _).alloc (Nat.le_refl _) _
 have X:=(show V.heap[W.heap.size]?=some (.cells #[Vi 0,Vi 0,Vi 0,Vu 0,Vi 0,Vn] 181 (0,0)) by rw [hV];exact al_last W _);have CK:=hid (show ∀ W9,Below W.heap.size W W9→W9.cell? ⟨g,2,none⟩=some (Vi (f:Nat))∧W9.cell? ⟨g,3,none⟩=some (Vi (u:Nat))∧W9.cell? ⟨g,4,none⟩=some (Vi (p:Nat)) from fun W9 k=>⟨below_cell k c2,below_cell k c3,below_cell k c4⟩);have hwr:IntKind.i64.wrap ((f:Int)+(u:Int))=(f:Int)+(u:Int):=wrapI9 _ (by omega) (by omega);have BV:=hid bV;have XV:=hid X;clear c2 c3 c4 bV X;go_enter Tryz.func135,Tryz.ntmps135;go_upto_region 1 with fail
 refine Eq.mp (congrArg _ hV) ?_;clear hV;obtain⟨X,hX⟩:∃ X,X=W.heap.size:=⟨_,rfl⟩;rw [←hX] at XV ⊢;have HX:=hid hX;clear hX;refine wp_region_held (S:=fun W9=>W9.cell? ⟨g,2,none⟩=some (Vi (f:Nat))∧W9.cell? ⟨g,3,none⟩=some (Vi (u:Nat))∧W9.cell? ⟨g,4,none⟩=some (Vi (p:Nat))) (by kernel_rfl) ?_;simp only [List.size_toArray,List.length_cons,List.length_nil,Nat.reduceAdd,Array.replicate_succ,Array.replicate_zero,List.push_toArray,List.nil_append,List.cons_append];have hS:=CK.out _ BV.out.drew
 iterate 15 (refine py hS ?_;simp only [f0,f1,Nat.reduceAdd,lz,l0,ls])
 refine po 15 fun K' hK=>?_
 refine wp_store_row 181 _ _ rfl X _ rfl rfl 181 _ XV.out (by kernel_rfl) rfl (by simp [Value.oneCell']) ?_;have k2:Below W.heap.size W (V.drew.setRow X #[Vi k,Vi ((f:Int)+(u:Int)),Vi (p:Nat),Vu 0,Vi 0,Vn]):=below_setRow BV.out.drew (by rw [HX.out];exact Nat.le_refl _) _;refine hK.out _ _ ⟨CK.out _ k2,?_⟩;refine wpAnyH_done (by kernel_rfl) ?_ _;have X2:=setRow_at (v:=V.drew) XV.out #[Vi k,Vi ((f:Int)+(u:Int)),Vi (p:Nat),Vu 0,Vi 0,Vn];go_wp2_with fail;refine bodyPost_ret (results_cell_row (by rfl) _ _ X 181 _ (0,0) _ (by rfl) X2 Tryz.underlying181 rfl (by kernel_rfl)) (by rfl) ?_;rw [HE.out];exact⟨rfl,k2⟩
structure Bc (b r c s n cap:Nat) (on:Bool) (W:World):Prop where
 d0:W.cell? ⟨b,0,none⟩=some (Vi (c:Nat))
 d1:W.cell? ⟨b,1,none⟩=some (Vi (s:Nat))
 d2:W.cell? ⟨b,2,none⟩=some (.bool on)
 d3:W.cell? ⟨b,3,none⟩=some (Vl r n cap)
theorem im_spaging (b r g0 c s n cap:Nat) (on:Bool) (k:Int) (W:World) (h:Bc b r c s n cap on W) (hn:0 < n) (hsc:Sc g0 b c s 0 W) (hr0:W.cell? ⟨r,0,none⟩=some (Vp g0 0)) :
  Calls Tryz.prog 140 #[Vp b 0,Vi k] W fun e W'=>e=.returned (opV k (slabP c s:Nat) (pgN c:Nat) 0 0 none 0 0)∧Below W.heap.size W W':=by
 have hA:=adr_in hsc.hc hsc.hs hsc.hj;have hP:=slabP_in hsc.hc hsc.hs;have hpe:=pg_c hsc.hc;have SB:=hid (fun V (hV:Below W.heap.size W V)=>im_sbase g0 b c s 0 V (hsc.below hV));have SG:=hid (fun V (hV:Below W.heap.size W V)=>im_SlabPages (c:Nat) V (hsc.tb.ofBelow hV));rw [hpe] at SG;have HE:=hid (show ((adr c s 0:Nat):Int)/1024=(slabP c s:Nat) by unfold adr;omega);generalize hAe:adr c s 0=A at *;have hA2:A≤200000:=by omega
 generalize slabP c s=q at *;generalize pgN c=pc at *;obtain⟨d0,_,_,d3⟩:=h;have CK:=hid (show ∀ W9,Below W.heap.size W W9→W9.cell? ⟨b,0,none⟩=some (Vi (c:Nat))∧W9.cell? ⟨b,3,none⟩=some (Vl r n cap)∧W9.cell? ⟨r,0,none⟩=some (Vp g0 0) from fun W9 k=>⟨below_cell k d0,below_cell k d3,below_cell k hr0⟩);clear d0 d3 hr0 hsc hA hP hpe hAe;obtain⟨V,hV⟩:∃ V,V=W.alloc (.cells #[Vi 0,Vi 0,Vi 0,Vu 0,Vi 0,Vn] 181):=⟨_,rfl⟩;have bV:Below W.heap.size W V:=by rw [hV];exact (Below.refl _ _).alloc (Nat.le_refl _) _
 have X:=(show V.heap[W.heap.size]?=some (.cells #[Vi 0,Vi 0,Vi 0,Vu 0,Vi 0,Vn] 181 (0,0)) by rw [hV];exact al_last W _);have BV:=hid bV;have XV:=hid X;have hwr:IntKind.i64.wrap ((A:Int)/1024)=(q:Int):=by rw [HE.out];exact wrapI9 _ (by have:=HE.out;omega) (by have:=HE.out;omega)
 have hwu:IntKind.u64.wrap ((A:Int)/1024)=(A:Int)/1024:=wrapU9 _ (by omega) (by omega);clear bV X;go_enter Tryz.func140,Tryz.ntmps140;go_upto_region 1 with fail
 refine Eq.mp (congrArg _ hV) ?_;clear hV;obtain⟨X,hX⟩:∃ X,X=W.heap.size:=⟨_,rfl⟩;rw [←hX] at XV ⊢;have HX:=hid hX;clear hX;refine wp_region_held (S:=fun W9=>W9.cell? ⟨b,0,none⟩=some (Vi (c:Nat))∧W9.cell? ⟨b,3,none⟩=some (Vl r n cap)∧W9.cell? ⟨r,0,none⟩=some (Vp g0 0)) (by kernel_rfl) ?_;simp only [List.size_toArray,List.length_cons,List.length_nil,Nat.reduceAdd,Array.replicate_succ,Array.replicate_zero,List.push_toArray,List.nil_append,List.cons_append];have hS:=CK.out _ BV.out.drew
 iterate 7 (refine py hS ?_;simp only [f0,f1,Nat.reduceAdd,lz,l0,ls])
 refine pk 10 15 (Vp b 0) hS ?_;simp only [lz,l0,ls];refine pk 11 16 (Vp b 0) hS ?_;simp only [lz,l0,ls];refine pk 12 17 (Vp b 0) hS ?_;simp only [lz,l0,ls];refine pz 13 18 (Vi (c:Nat)) hS ?_;simp only [lz,l0,ls];refine po 7 fun K' hK=>?_
 go_simp;refine (SB.out _ BV.out.drew).mono ?_;rintro e W2 ⟨rfl,b2⟩;have k2:Below W.heap.size W W2:=BV.out.drew.trans (b2.mono BV.out.size);have h2:=CK.out _ k2;have XV2:W2.heap[X]?=some (.cells #[Vi 0,Vi 0,Vi 0,Vu 0,Vi 0,Vn] 181 (0,0)):=(b2.block _ (lt_blk (W:=V.drew) XV.out)).trans XV.out;refine hK.out _ _ ⟨h2,?_⟩;clear hS;have hS:=h2;clear hK K';refine pz 8 13 (Vu ((A:Int)/1024)) hS ?_;simp only [lz,l0,ls];refine pz 9 14 (Vi (q:Nat)) hS ?_;simp only [lz,l0,ls];refine po 14 fun K' hK=>?_
 go_simp;refine (SG.out _ k2).mono ?_;rintro e W3 ⟨rfl,hw⟩;rw [hw];clear hw W3;refine hK.out _ _ ⟨h2,?_⟩;clear hK K';refine py hS ?_;simp only [f0,f1,Nat.reduceAdd,lz,l0,ls];refine po 16 fun K' hK=>?_
 refine wp_store_row 181 _ _ rfl X _ rfl rfl 181 _ XV2 (by kernel_rfl) rfl (by simp [Value.oneCell']) ?_;have k4:Below W.heap.size W (W2.setRow X #[Vi k,Vi (q:Nat),Vi (pc:Nat),Vu 0,Vi 0,Vn]):=below_setRow k2 (by rw [HX.out];exact Nat.le_refl _) _;refine hK.out _ _ ⟨CK.out _ k4,?_⟩;refine wpAnyH_done (by kernel_rfl) ?_ _;have X2:=setRow_at (v:=W2) XV2 #[Vi k,Vi (q:Nat),Vi (pc:Nat),Vu 0,Vi 0,Vn];go_wp2_with fail;refine bodyPost_ret (results_cell_row (by rfl) _ _ X 181 _ (0,0) _ (by rfl) X2 Tryz.underlying181 rfl (by kernel_rfl)) (by rfl) ?_;exact⟨rfl,k4⟩
end Go.Proofs.YtacccpkmgkojiaaGreatDoorRR
namespace Go.Proofs.YtacccpkmgkojiaaGreatDoorRR
set_option linter.unusedVariables false
set_option linter.unusedSimpArgs false
set_option maxRecDepth 20000
set_option maxHeartbeats 8000000
open Go.RowKit
theorem Inv.openS {cf:Cf} {h:Hs} (i:Inv cf h) {c s j k:Nat} (hc:c < 12) (hs:s < 6) (hj:j < slN c) (hon:onS h c s=true) (hk:k < szN c):isOpen (h.m ((adr c s j+k)/1024))=true:=by
 have h1:=adr_in hc hs hj;have h2:slabP c s*1024≤adr c s j:=by unfold adr;omega
 have h3:=i.slab c s hc hs ((adr c s j+k)/1024 - slabP c s) (by omega);rw [show slabP c s+((adr c s j+k)/1024 - slabP c s)=(adr c s j+k)/1024 by omega,hon] at h3;rw [i.fine.open];exact h3
theorem freeN_st {h h':Hs} (e:h.st=h'.st) (c:Nat):∀ n,freeN h c n=freeN h' c n
 | 0=>rfl
 | n+1=>by
  simp only [freeN,freeS]
  rw [freeN_st e c n,e]
end Go.Proofs.YtacccpkmgkojiaaGreatDoorRR
namespace Go.Proofs.YtacccpkmgkojiaaGreatDoorRR
set_option linter.unusedVariables false
set_option linter.unusedSimpArgs false
set_option maxRecDepth 20000
set_option maxHeartbeats 8000000
open Go.RowKit
def ansV (a:An4) (v:Value):Value:=.agg #[Vi a.code,Vu (a.addr:Nat),Vi (a.size:Nat),v]
def malA:Option Nat→An4
 | none=>.no 1
 | some q=>⟨0,q,0,[]⟩
structure Dok (cf:Cf):Prop where
 len:cf.ds.length≤20000
 wf:∀ d∈cf.ds,(Lit.int .i64 d).wf=true
 key0:0≤cf.key
 key1:cf.key < 18446744073709551616
 mix:cf.mix≤16
 fifo1:1≤cf.fifo
 fifo:cf.fifo≤32
 large:cf.large≤16
 bud:cf.bud≤283
theorem accC_open {m:Nat→Option (Bool×List Int)} {a n:Nat} (h0:1≤n) (h1:n≤4096) (h2:a+n≤1000000) (ho:∀ k,k < n→isOpen (m ((a+k)/1024))=true):accC m a (n:Int)=0:=by
 unfold accC;rw [if_neg (by omega),if_neg (by omega),if_neg (by omega),Int.toNat_natCast,reachN_of ho];rfl
theorem sp_co (a:Nat) (W:World) (ha:a≤1016):Calls Tryz.prog 21 #[Vu a] W fun e W'=>e=.returned (Vi (coN a:Nat))∧Below W.heap.size W W':=by
 refine (sp_ClassOf (a:Int) (by omega) (by omega) W).mono ?_;rintro e W' ⟨rfl,b⟩;exact⟨ret_int (co_c ha).1,b⟩
def putS (cf:Cf) (c a:Nat):Option (Nat×Nat)×Hs→Option Nat×Hs
 | (none,h1)=>(none,h1)
 | (some (s,j),h1)=>(some (adr c s j),{ h1 with st:=upd3 h1.st c s j 1,rq:=upd3 h1.rq c s j a,m:=storeM h1.m (adr c s j+usN c) (can cf (adr c s j)) 8 })
theorem mallocM_small (cf:Cf) (h:Hs) {a:Nat} (ha:a≤1016):mallocM cf h a=putS cf (coN a) a (smallM cf (coN a) 2000 h):=by
 unfold mallocM putS;rw [if_pos ha];rfl
end Go.Proofs.YtacccpkmgkojiaaGreatDoorRR
namespace Go.Proofs.YtacccpkmgkojiaaGreatDoorRR
set_option linter.unusedVariables false
set_option linter.unusedSimpArgs false
set_option maxRecDepth 20000
set_option maxHeartbeats 8000000
open Go.RowKit
theorem own_lt {W:World} {B:Nat} {e:TypeId} {sz:Nat} {v:Value} {n:Nat} {xs:List Value} (h:W.ownsRow B e sz v n xs) {g:Nat} (hg:v.ownBlock=some g):B≤g∧∃ c,W.heap[g]?=some (.cells c e (0,0)):=by
 rcases h.2 with ⟨rfl,h0⟩|⟨g',cap,cur,rfl,h1,h2,_⟩
 ·simp [Value.ownBlock] at hg
 simp [Value.ownBlock] at hg;subst hg;exact⟨h1,cur,h2⟩
theorem own_kept {W W':World} {B:Nat} {e:TypeId} {sz:Nat} {v:Value} {n:Nat} {xs:List Value} (h:W.ownsRow B e sz v n xs) {r:Option Nat} (hg:W.grownBy W' r) (hne:∀ g,v.ownBlock=some g→r≠some g):W'.ownsRow B e sz v n xs:=by
 refine⟨h.1,?_⟩
 rcases h.2 with h2|⟨g',cap,cur,rfl,h1,h2,h3⟩
 ·exact .inl h2
 refine .inr ⟨g',cap,cur,rfl,h1,?_,h3⟩;rw [hg.block g' (lt_blk h2) (fun e=>hne g' rfl e.symm)];exact h2
theorem Ky.grownO {S:TypeId→Prop} {W W':World} {r:Option Nat} (hr:∀ P,r=some P→∃ c t f,W.heap[P]?=some (.cells c t f)∧S t) (hg:W.grownBy W' r):Ky S W W':=by
 refine⟨hg.os,hg.tape,hg.output,hg.size,fun g c' t' f' hg' ht=>?_⟩;rw [hg.block g (lt_blk hg') (fun e=>?_)]
 ·exact hg'
 obtain⟨c,t,f,h1,h2⟩:=hr g e.symm;rw [hg'] at h1;simp at h1;exact ht (h1.2.1▸h2)
end Go.Proofs.YtacccpkmgkojiaaGreatDoorRR
namespace Go.Proofs.YtacccpkmgkojiaaGreatDoorRR
set_option linter.unusedVariables false
set_option linter.unusedSimpArgs false
set_option maxRecDepth 20000
set_option maxHeartbeats 8000000
open Go.RowKit
def putL (cf:Cf) (h1:Hs) (g p a:Nat):Option Nat→Option Nat×Hs
 | none=>(none,h1)
 | some s=>if cf.bud < cntM h1.m 283+p then (none,h1)
   else (some ((s+g)*1024),{ h1 with m:=freshM h1.m (s+g) p,rg:=h1.rg++[⟨s,g,p,1,a⟩],rel:=h1.rel.filter fun b=>b/1024 < s || s+(g+p+1)≤b/1024 })
theorem mallocM_large (cf:Cf) (h:Hs) {a:Nat} (ha:1016 < a):mallocM cf h a=if 96 < pagesN a then (none,{ h with used:=h.used+1 }) else putL cf { h with used:=h.used+1 } (1+dr cf h 3) (pagesN a) a (roomL { h with used:=h.used+1 } (1+dr cf h 3+pagesN a+1)):=by
 unfold mallocM;rw [if_neg (by omega)];dsimp only
 split
 ·rfl
 cases roomL { h with used:=h.used+1 } (1+dr cf h 3+pagesN a+1) with
 | none=>rfl
 | some s=>rfl
end Go.Proofs.YtacccpkmgkojiaaGreatDoorRR
namespace Go.Proofs.YtacccpkmgkojiaaGreatDoorRR
set_option linter.unusedVariables false
set_option linter.unusedSimpArgs false
set_option maxRecDepth 20000
set_option maxHeartbeats 8000000
open Go.RowKit
def cfgV (cf:Cf) (da:Option Addr) (dc:Nat):Value:=.agg #[Vi (cf.mix:Nat),Vi (cf.fifo:Nat),Vi (cf.large:Nat),Vi (cf.bud:Nat),Vu cf.key,.slice da cf.ds.length dc]
theorem results_pair {P:Program} {fn:Func} {p q:Tmp} (h:fn.results=#[.tmp p,.tmp q]) (tmps:Array Value) (w:World):(results fn tmps).run P w=.ok (.tuple #[tmps.getD p undef,tmps.getD q undef]) w:=by
 simp [results,h]
theorem Few.new (cf:Cf):Few 0 (newH cf):=⟨Nat.le_refl _,Nat.le_refl _,Nat.le_refl _,Nat.le_refl _⟩
end Go.Proofs.YtacccpkmgkojiaaGreatDoorRR
