import Derived.Test.YtgandbaejlfppaaGreatDoorN16
namespace Go.Proofs.YtgandbaejlfppaaGreatDoor
set_option linter.unusedVariables false
set_option linter.unusedSimpArgs false
set_option maxRecDepth 20000
set_option maxHeartbeats 8000000
open Go.RowKit
theorem upd3_same (f:Nat→Nat→Nat→Int) (c s j:Nat) (v:Int):upd3 f c s j v c s j=v:=by unfold upd3;rw [if_pos ⟨rfl,rfl,rfl⟩]
theorem upd3_ne (f:Nat→Nat→Nat→Int) {c s j c' s' j':Nat} (v:Int) (h:¬(c'=c∧s'=s∧j'=j)):upd3 f c s j v c' s' j'=f c' s' j':=by unfold upd3;rw [if_neg h]
theorem upd3_self (f:Nat→Nat→Nat→Int) {c s j:Nat} {v:Int} (h:f c s j=v):upd3 f c s j v=f:=by
 funext c' s' j'
 by_cases e:c'=c∧s'=s∧j'=j
 ·obtain⟨rfl,rfl,rfl⟩:=e;rw [upd3_same,h]
 rw [upd3_ne _ _ e]
theorem isFree_or {x:Int} : isFree x=true↔x=0∨x=3:=by unfold isFree;simp
theorem num_div {n s j:Nat} (hj:j < n):(s*n+j)/n=s∧(s*n+j) % n=j:=by
 have hn:0 < n:=by omega
 constructor
 ·rw [Nat.mul_comm,Nat.mul_add_div hn,Nat.div_eq_of_lt hj,Nat.add_zero]
 rw [Nat.mul_comm,Nat.mul_add_mod,Nat.mod_eq_of_lt hj]
theorem num_inj {n s j s' j':Nat} (hj:j < n) (hj':j' < n) (h:s*n+j=s'*n+j'):s=s'∧j=j':=by
 have h1:=num_div (s:=s) hj;have h2:=num_div (s:=s') hj';rw [h] at h1;exact⟨h1.1.symm.trans h2.1,h1.2.symm.trans h2.2⟩
theorem num_lt {n s j:Nat} (hs:s < 6) (hj:j < n):s*n+j < 6*n:=by
 have:(s+1)*n≤6*n:=Nat.mul_le_mul_right _ hs;rw [Nat.add_mul,Nat.one_mul] at this;omega
theorem Inv.setSt {cf:Cf} {h:Hs} (i:Inv cf h) {c s j:Nat} (hc:c < 12) (hs:s < 6) (hj:j < slN c) (v r:Int) (h0:0≤v) (h4:v≤4) (hv2:v≠2) (ho:h.st c s j≠2) (hon:isFree v=true∨onS h c s=true) (h1:v=1→0≤r∧r≤usN c) (hn1:v≠1→r=0):Inv cf { h with st:=upd3 h.st c s j v,rq:=upd3 h.rq c s j r }:=by
 refine⟨fun c' s' j'=>?_,i.fine,i.out,i.slab,fun c' s' hc' hs' hx j' hj'=>?_,fun c' s' j' hc' hs' hj'=>?_,i.mxl,i.ffl,i.ffn,i.mxn,fun c' s' j' hc' hs' hj'=>?_,i.wlt,i.wnd,i.rgs,i.apart,i.big,i.low,i.row,i.rownd,i.rowl,i.rel⟩
 all_goals (by_cases e:c'=c∧s'=s∧j'=j)
 ·obtain⟨rfl,rfl,rfl⟩:=e;show 0≤upd3 h.st c' s' j' v c' s' j'∧upd3 h.st c' s' j' v c' s' j'≤4;rw [upd3_same];exact⟨h0,h4⟩
 ·show 0≤upd3 h.st c s j v c' s' j'∧upd3 h.st c s j v c' s' j'≤4;rw [upd3_ne _ _ e];exact i.st c' s' j'
 ·obtain⟨rfl,rfl,rfl⟩:=e;show isFree (upd3 h.st c' s' j' v c' s' j')=true;rw [upd3_same]
  rcases hon with hq|hq
  ·exact hq
  have hx':onS h c' s'=false:=hx;rw [hx'] at hq;cases hq
 ·show isFree (upd3 h.st c s j v c' s' j')=true;rw [upd3_ne _ _ e];exact i.off c' s' hc' hs' hx j' hj'
 ·obtain⟨rfl,rfl,rfl⟩:=e;show (upd3 h.st c' s' j' v c' s' j'=1→0≤upd3 h.rq c' s' j' r c' s' j'∧upd3 h.rq c' s' j' r c' s' j'≤usN c')∧(upd3 h.st c' s' j' v c' s' j'≠1→upd3 h.rq c' s' j' r c' s' j'=0);rw [upd3_same,upd3_same];exact⟨h1,hn1⟩
 ·show (upd3 h.st c s j v c' s' j'=1→0≤upd3 h.rq c s j r c' s' j'∧upd3 h.rq c s j r c' s' j'≤usN c')∧(upd3 h.st c s j v c' s' j'≠1→upd3 h.rq c s j r c' s' j'=0);rw [upd3_ne _ _ e,upd3_ne _ _ e];exact i.req c' s' j' hc' hs' hj'
 ·obtain⟨rfl,rfl,rfl⟩:=e;show upd3 h.st c' s' j' v c' s' j'=2↔_∈inQ h c';rw [upd3_same,←i.wait c' s' j' hc' hs' hj'];exact⟨fun e=>absurd e hv2,fun e=>absurd e ho⟩
 show upd3 h.st c s j v c' s' j'=2↔_∈inQ h c';rw [upd3_ne _ _ e];exact i.wait c' s' j' hc' hs' hj'
theorem Inv.retire {cf:Cf} {h:Hs} (i:Inv cf h) {c s j:Nat} (hc:c < 12) (hs:s < 6) (hj:j < slN c) (ho:isFree (h.st c s j)=true) (hon:onS h c s=true):Inv cf { h with st:=upd3 h.st c s j 4 }:=by
 rw [isFree_or] at ho;have:=i.setSt hc hs hj 4 0 (by omega) (by omega) (by omega) (by omega) (.inr hon) (by omega) (fun _=>rfl);rw [upd3_self h.rq ((i.req c s j hc hs hj).2 (by omega))] at this;exact this
theorem Inv.drop {cf:Cf} {h:Hs} (i:Inv cf h) {c s:Nat} (hc:c < 12) (hs:s < 6) (hf:∀ j,j < slN c→isFree (h.st c s j)=true):Inv cf { h with m:=goneM h.m (slabP c s) (pgN c) }:=by
 have hp:=slabP_in hc hs;have hz:=szN_in hc;have on:∀ c' s',c' < 12→s' < 6→∀ k,k < pgN c'→goneM h.m (slabP c s) (pgN c) (slabP c' s'+k)=if c'=c∧s'=s then none else h.m (slabP c' s'+k):=fun c' s' hc' hs' k hk=>by
  rw [goneM_eq]
  by_cases e:c'=c∧s'=s
  ·obtain⟨rfl,rfl⟩:=e;rw [if_pos (by omega),if_pos ⟨rfl,rfl⟩]
  rw [if_neg e,if_neg];have:=slab_apart hc' hs' hc hs e;omega
 have onx:∀ c' s',c' < 12→s' < 6→onS { h with m:=goneM h.m (slabP c s) (pgN c) } c' s'=if c'=c∧s'=s then false else onS h c' s':=fun c' s' hc' hs'=>by
  have:=szN_in hc';have h0:=on c' s' hc' hs' 0 (by omega);unfold onS;rw [Nat.add_zero] at h0;show (goneM h.m (slabP c s) (pgN c) (slabP c' s')).isSome=_;rw [h0]
  split <;> rfl
 refine⟨i.st,i.fine.gone _ _,fun k hk=>?_,fun c' s' hc' hs' j hj=>?_,fun c' s' hc' hs' ho=>?_,i.req,i.mxl,i.ffl,i.ffn,i.mxn,i.wait,i.wlt,i.wnd,i.rgs,i.apart,fun k hk=>?_,fun k hk hx=>?_,i.row,i.rownd,i.rowl,i.rel⟩
 ·show goneM h.m _ _ k=none;rw [goneM_eq]
  split
  ·rfl
  exact i.out k hk
 ·rw [onx c' s' hc' hs'];show (goneM h.m _ _ _).isSome=_;rw [on c' s' hc' hs' j hj]
  split
  ·rfl
  exact i.slab c' s' hc' hs' j hj
 ·rw [onx c' s' hc' hs'] at ho
  split at ho
  ·rename_i e;obtain ⟨rfl,rfl⟩:=e;exact hf
  exact i.off c' s' hc' hs' ho
 ·show (goneM h.m _ _ k).isSome=true↔_;rw [goneM_eq,if_neg (by omega)];exact i.big k hk
 have hx':(goneM h.m (slabP c s) (pgN c) k).isSome=true:=hx;rw [goneM_eq] at hx'
 split at hx'
 ·cases hx'
 exact i.low k hk hx'
/-! what a push does to the numbers that wait -/
def nq (l:List Int):List Int:=l.filter fun v=>decide (v ≠ -1)
theorem nq_app (a b:List Int):nq (a++b)=nq a++nq b:=by unfold nq;rw [List.filter_append]
theorem pushF_perm {n:Nat} {xs:List Int} {x:Int} (hn:1≤n) (hl:xs.length≤n) (hx:0≤x) (hnn:∀ v∈xs,0≤v):(pushF n xs x).1.length≤n∧(∀ v∈(pushF n xs x).1,0≤v)∧(((pushF n xs x).2 = -1∧(x::xs).Perm (pushF n xs x).1)∨(0≤(pushF n xs x).2∧(x::xs).Perm ((pushF n xs x).2::(pushF n xs x).1))):=by
 unfold pushF
 by_cases h:xs.length < n
 ·rw [if_pos h];refine⟨by simp;omega,fun v hv=>?_,.inl ⟨rfl,?_⟩⟩
  ·rcases List.mem_append.1 hv with h1|h1
   ·exact hnn v h1
   simp at h1;omega
  exact (List.perm_append_comm (l₁:=xs) (l₂:=[x])).symm
 rw [if_neg h]
 cases xs with
 | nil=>simp at h;omega
 | cons y ys =>
  refine⟨by simp at hl h ⊢;omega,fun v hv=>?_,.inr ⟨hnn _ (by simp),?_⟩⟩
  ·rcases List.mem_append.1 hv with h1|h1
   ·exact hnn v (by simp at h1 ⊢;exact .inr h1)
   simp at h1;omega
  show (x::y::ys).Perm (y::(ys++[x]));exact (List.Perm.swap y x ys).trans (List.Perm.cons y (List.perm_append_comm (l₁:=ys) (l₂:=[x])).symm)
theorem nq_perm {a b:List Int} (h:a.Perm b):(nq a).Perm (nq b):=h.filter _
theorem nq_nn {l:List Int} (h:∀ v∈l,0≤v):nq l=l:=by
 unfold nq;rw [List.filter_eq_self];intro v hv;have:=h v hv;simp;omega
theorem set_perm:∀ (l:List Int) (i:Nat) (y x:Int),l[i]?=some y→(x::l).Perm (y::l.set i x)
 | [],i,y,x,h=>by simp at h
 | a::l,0,y,x,h=>by simp at h;subst h;exact List.Perm.swap a x l
 | a::l,i+1,y,x,h=>by
  simp at h
  have ih:=set_perm l i y x h
  exact (List.Perm.swap a x l).trans ((List.Perm.cons a ih).trans (List.Perm.swap y a _))
theorem wpM_perm {n:Nat} {mx ff:List Int} {x d:Int} (hn:1≤n) (hl:ff.length≤n) (hx:0≤x) (hff:∀ v∈ff,0≤v) (hmx:∀ v∈mx,-1≤v):(wpM n mx ff x d).1.length=mx.length∧(wpM n mx ff x d).2.1.length≤n∧(∀ v∈(wpM n mx ff x d).2.1,0≤v)∧(∀ v∈(wpM n mx ff x d).1,-1≤v)∧(((wpM n mx ff x d).2.2 = -1∧(x::nq (mx++ff)).Perm (nq ((wpM n mx ff x d).1++(wpM n mx ff x d).2.1)))∨(0≤(wpM n mx ff x d).2.2∧(x::nq (mx++ff)).Perm ((wpM n mx ff x d).2.2::nq ((wpM n mx ff x d).1++(wpM n mx ff x d).2.1)))):=by
 unfold wpM
 by_cases h0:mx=[]
 ·subst h0;rw [if_pos rfl];obtain⟨p1,p2,p3⟩:=pushF_perm hn hl hx hff;refine⟨rfl,p1,p2,?_,?_⟩
  ·intro v hv
   cases hv
  dsimp only;rw [List.nil_append,List.nil_append,nq_nn hff,nq_nn p2];exact p3
 rw [if_neg h0];have hml:0 < mx.length:=List.length_pos_iff.2 h0;have hi:md d mx.length < mx.length:=by
  unfold md;have h1:=Int.emod_nonneg d (show ((mx.length:Nat):Int)≠0 by omega);have h2:=Int.emod_lt_of_pos d (show (0:Int) < (mx.length:Nat) by omega);omega
 generalize md d mx.length=k at *;obtain⟨y,hy⟩:∃ y,mx[k]?=some y:=⟨_,List.getElem?_eq_getElem hi⟩;have hyn:=hmx y (List.mem_of_getElem? hy);have hset:=set_perm mx k y x hy;have hb:∀ v∈mx.set k x,-1≤v:=fun v hv=>by
  rcases List.mem_or_eq_of_mem_set hv with h|h
  ·exact hmx v h
  omega
 rw [hy];simp only [Option.getD_some]
 by_cases hy1:y = -1
 ·rw [if_pos hy1];refine⟨by simp,hl,hff,hb,.inl ⟨rfl,?_⟩⟩;dsimp only;have e1:=nq_perm hset;have e2:nq (y::mx.set k x)=nq (mx.set k x):=by subst hy1;rfl
  have e3:nq (x::mx)=x::nq mx:=by unfold nq;rw [List.filter_cons_of_pos (by simp;omega)]
  rw [e2,e3] at e1;rw [nq_app,nq_app];exact List.Perm.append_right (nq ff) e1
 rw [if_neg hy1];have hy0:0≤y:=by omega
 obtain⟨p1,p2,p3⟩:=pushF_perm (x:=y) hn hl hy0 hff;refine⟨by simp,p1,p2,hb,?_⟩;dsimp only;have e1:=nq_perm hset;have e2:nq (y::mx.set k x)=y::nq (mx.set k x):=by unfold nq;rw [List.filter_cons_of_pos (by simp;omega)]
 have e3:nq (x::mx)=x::nq mx:=by unfold nq;rw [List.filter_cons_of_pos (by simp;omega)]
 rw [e2,e3] at e1;rw [nq_app,nq_app,nq_nn hff,nq_nn p2];have e4:(x::(nq mx++ff)).Perm (nq (mx.set k x)++(y::ff)):=by
  refine (List.Perm.append_right ff e1).trans ?_;exact (List.perm_middle (a:=y) (l₁:=nq (mx.set k x)) (l₂:=ff)).symm
 rcases p3 with ⟨q1,q2⟩|⟨q1,q2⟩
 ·exact .inl ⟨q1,e4.trans (List.Perm.append_left _ q2)⟩
 refine .inr ⟨q1,e4.trans ((List.Perm.append_left _ q2).trans ?_)⟩;exact List.perm_middle
end Go.Proofs.YtgandbaejlfppaaGreatDoor
namespace Go.Proofs.YtgandbaejlfppaaGreatDoor
set_option linter.unusedVariables false
set_option linter.unusedSimpArgs false
set_option maxRecDepth 20000
set_option maxHeartbeats 8000000
open Go.RowKit
theorem inQ_nq (h:Hs) (c:Nat):inQ h c=nq (h.mx c++h.ff c):=rfl
theorem freeS_all {h:Hs} {c s:Nat} : (freeS h c s).length=slN c↔∀ j,j < slN c→isFree (h.st c s j)=true:=by
 unfold freeS;constructor
 ·intro hl j hj;have:=List.length_filter_eq_length_iff.1 (by rw [hl,List.length_range]:((List.range (slN c)).filter fun j=>isFree (h.st c s j)).length=(List.range (slN c)).length);exact this j (List.mem_range.2 hj)
 intro hf;have:((List.range (slN c)).filter fun j=>isFree (h.st c s j))=List.range (slN c):=by
  rw [List.filter_eq_self];intro j hj;exact hf j (List.mem_range.1 hj)
 rw [this,List.length_range]
def leftM (cf:Cf) (h:Hs) (c s j:Nat):Int:=(wpM cf.fifo (h.mx c) (h.ff c) ((s*slN c+j:Nat):Int) ((if cf.mix=0 then 0 else dr cf h cf.mix:Nat):Int)).2.2
def freeA (cf:Cf) (h:Hs) (c s j:Nat):Hs :=
 { h with m:=storeM h.m (adr c s j) (List.replicate (szN c) 0) (szN c),st:=upd3 h.st c s j 2,rq:=upd3 h.rq c s j 0,used:=if cf.mix=0 then h.used else h.used+1,mx:=updL h.mx c (wpM cf.fifo (h.mx c) (h.ff c) ((s*slN c+j:Nat):Int) ((if cf.mix=0 then 0 else dr cf h cf.mix:Nat):Int)).1,ff:=updL h.ff c (wpM cf.fifo (h.mx c) (h.ff c) ((s*slN c+j:Nat):Int) ((if cf.mix=0 then 0 else dr cf h cf.mix:Nat):Int)).2.1 }
theorem freeSlot_eq (cf:Cf) (h:Hs) (c s j:Nat):freeSlot cf h c s j=if leftM cf h c s j = -1 then freeA cf h c s j else releaseM (freeA cf h c s j) c ((leftM cf h c s j).toNat/slN c) ((leftM cf h c s j).toNat % slN c):=by
 unfold freeSlot leftM freeA
 by_cases h0:cf.mix=0
 ·simp only [h0,if_true]
 simp only [h0,if_false];rfl
theorem updL_same (f:Nat→List Int) (c:Nat) (v:List Int):updL f c v c=v:=by unfold updL;rw [if_pos rfl]
theorem updL_ne (f:Nat→List Int) {c d:Nat} (v:List Int) (h:d≠c):updL f c v d=f d:=by unfold updL;rw [if_neg h]
theorem Inv.freed {cf:Cf} {h:Hs} (i:Inv cf h) (hf1:1≤cf.fifo) {c s j:Nat} (hc:c < 12) (hs:s < 6) (hj:j < slN c) (hl:h.st c s j=1) :
  (leftM cf h c s j = -1∧Inv cf (freeA cf h c s j)) ∨
  (∃ s' j',0≤leftM cf h c s j∧(leftM cf h c s j).toNat/slN c=s'∧(leftM cf h c s j).toNat % slN c=j'∧s' < 6∧j' < slN c∧onS h c s'=true∧Inv cf { freeA cf h c s j with st:=upd3 (freeA cf h c s j).st c s' j' 3 }):=by
 have hz:=szN_in hc;have hq0:(0:Int)≤((s*slN c+j:Nat):Int):=by omega
 obtain⟨w1,w2,w3,w4,w5⟩:=wpM_perm (d:=((if cf.mix=0 then 0 else dr cf h cf.mix:Nat):Int)) hf1 (i.ffl c hc) hq0 (i.ffn c hc) (i.mxn c hc);have hL:leftM cf h c s j=(wpM cf.fifo (h.mx c) (h.ff c) ((s*slN c+j:Nat):Int) ((if cf.mix=0 then 0 else dr cf h cf.mix:Nat):Int)).2.2:=rfl;have hA:freeA cf h c s j={ h with m:=storeM h.m (adr c s j) (List.replicate (szN c) 0) (szN c),st:=upd3 h.st c s j 2,rq:=upd3 h.rq c s j 0,used:=if cf.mix=0 then h.used else h.used+1,mx:=updL h.mx c (wpM cf.fifo (h.mx c) (h.ff c) ((s*slN c+j:Nat):Int) ((if cf.mix=0 then 0 else dr cf h cf.mix:Nat):Int)).1,ff:=updL h.ff c (wpM cf.fifo (h.mx c) (h.ff c) ((s*slN c+j:Nat):Int) ((if cf.mix=0 then 0 else dr cf h cf.mix:Nat):Int)).2.1 }:=rfl;generalize wpM cf.fifo (h.mx c) (h.ff c) ((s*slN c+j:Nat):Int) ((if cf.mix=0 then 0 else dr cf h cf.mix:Nat):Int)=r at *;generalize leftM cf h c s j=left at *;obtain⟨M,F,z⟩:=r;dsimp only at hL w1 w2 w3 w4 w5 hA;subst hL;have ib:=i.bytes (adr c s j) (List.replicate (szN c) 0) (szN c);have hon:onS h c s=true:=by
  cases h9:onS h c s with
  | true=>rfl
  | false=>have:=i.off c s hc hs h9 j hj;rw [hl] at this;simp [isFree] at this
 have hnot:((s*slN c+j:Nat):Int)∉inQ h c:=fun hm=>by
  have:=(i.wait c s j hc hs hj).2 hm;omega
 have hnd:(((s*slN c+j:Nat):Int)::inQ h c).Nodup:=List.nodup_cons.2 ⟨hnot,i.wnd c hc⟩;have hlt:∀ v∈((s*slN c+j:Nat):Int)::inQ h c,v < 6*slN c:=fun v hv=>by
  rcases List.mem_cons.1 hv with h1|h1
  ·have:=num_lt hs hj;omega
  exact i.wlt c hc v h1
 have hin:∀ s' j',s' < 6→j' < slN c→(upd3 h.st c s j 2 c s' j'=2↔((s'*slN c+j':Nat):Int)∈((s*slN c+j:Nat):Int)::inQ h c):=fun s' j' hs' hj'=>by
  by_cases e:s'=s∧j'=j
  ·obtain⟨rfl,rfl⟩:=e;rw [upd3_same];simp
  rw [upd3_ne _ _ (by rintro ⟨_,h1,h2⟩;exact e ⟨h1,h2⟩),i.wait c s' j' hc hs' hj',List.mem_cons];refine⟨.inr,fun h1=>?_⟩
  rcases h1 with h1|h1
  ·have:=num_inj hj' hj (show s'*slN c+j'=s*slN c+j by omega);exact absurd this e
  exact h1
 have hQ:∀ st',inQ { freeA cf h c s j with st:=st' } c=nq (M++F):=fun st'=>by
  rw [hA];unfold inQ;dsimp only;rw [updL_same,updL_same];rfl
 have hQ2:∀ st' c',c'≠c→inQ { freeA cf h c s j with st:=st' } c'=inQ h c':=fun st' c' hne=>by
  rw [hA];unfold inQ;dsimp only;rw [updL_ne _ _ hne,updL_ne _ _ hne]
 have build:∀ st',(∀ c' s' j',0≤st' c' s' j'∧st' c' s' j'≤4)→(∀ c' s' j',c'≠c→st' c' s' j'=h.st c' s' j')→(∀ s' j',s' < 6→j' < slN c→isFree (h.st c s' j')=true→onS h c s'=false→isFree (st' c s' j')=true)→(∀ s' j',s' < 6→j' < slN c→(st' c s' j'=1↔h.st c s' j'=1∧¬(s'=s∧j'=j)))→(∀ s' j',s' < 6→j' < slN c→(st' c s' j'=2↔((s'*slN c+j':Nat):Int)∈nq (M++F)))→(nq (M++F)).Nodup→(∀ v∈nq (M++F),v < 6*slN c)→Inv cf { freeA cf h c s j with st:=st' }:=by
  intro st' a1 a2 a3 a4 a5 a6 a7;refine⟨a1,?_,?_,?_,?_,?_,?_,?_,?_,?_,?_,?_,?_,?_,?_,?_,?_,?_,?_,?_,?_⟩
  ·rw [hA];exact ib.fine
  ·rw [hA];exact ib.out
  ·rw [hA];exact ib.slab
  ·intro c' s' hc' hs' ho j' hj';have ho':onS h c' s'=false:=by
    have e:onS { freeA cf h c s j with st:=st' } c' s'=onS h c' s':=by rw [hA];exact storeM_is _ _ _ _ _
    rw [e] at ho;exact ho
   show isFree (st' c' s' j')=true
   by_cases e:c'=c
   ·subst e;exact a3 s' j' hs' hj' (i.off c' s' hc' hs' ho' j' hj') ho'
   rw [a2 c' s' j' e];exact i.off c' s' hc' hs' ho' j' hj'
  ·intro c' s' j' hc' hs' hj';have e:({ freeA cf h c s j with st:=st' } : Hs).rq=upd3 h.rq c s j 0:=by rw [hA]
   rw [e];show (st' c' s' j'=1→_)∧(st' c' s' j'≠1→_);have old:=i.req c' s' j' hc' hs' hj'
   by_cases e:c'=c∧s'=s∧j'=j
   ·obtain⟨rfl,rfl,rfl⟩:=e;rw [upd3_same];refine⟨fun h1=>?_,fun _=>rfl⟩;exact absurd ⟨rfl,rfl⟩ ((a4 s' j' hs' hj').1 h1).2
   rw [upd3_ne _ _ e]
   by_cases ec:c'=c
   ·subst ec;refine⟨fun h1=>old.1 ((a4 s' j' hs' hj').1 h1).1,fun h1=>old.2 (fun h2=>h1 ((a4 s' j' hs' hj').2 ⟨h2,fun h3=>e ⟨rfl,h3⟩⟩))⟩
   rw [a2 c' s' j' ec];exact old
  ·intro c' hc';have e:({ freeA cf h c s j with st:=st' } : Hs).mx=updL h.mx c M:=by rw [hA]
   rw [e]
   by_cases ec:c'=c
   ·subst ec;rw [updL_same,w1];exact i.mxl c' hc'
   rw [updL_ne _ _ ec];exact i.mxl c' hc'
  ·intro c' hc';have e:({ freeA cf h c s j with st:=st' } : Hs).ff=updL h.ff c F:=by rw [hA]
   rw [e]
   by_cases ec:c'=c
   ·subst ec;rw [updL_same];exact w2
   rw [updL_ne _ _ ec];exact i.ffl c' hc'
  ·intro c' hc';have e:({ freeA cf h c s j with st:=st' } : Hs).ff=updL h.ff c F:=by rw [hA]
   rw [e]
   by_cases ec:c'=c
   ·subst ec;rw [updL_same];exact w3
   rw [updL_ne _ _ ec];exact i.ffn c' hc'
  ·intro c' hc';have e:({ freeA cf h c s j with st:=st' } : Hs).mx=updL h.mx c M:=by rw [hA]
   rw [e]
   by_cases ec:c'=c
   ·subst ec;rw [updL_same];exact w4
   rw [updL_ne _ _ ec];exact i.mxn c' hc'
  ·intro c' s' j' hc' hs' hj';show st' c' s' j'=2↔_
   by_cases ec:c'=c
   ·subst ec;rw [hQ];exact a5 s' j' hs' hj'
   rw [hQ2 _ _ ec,a2 c' s' j' ec];exact i.wait c' s' j' hc' hs' hj'
  ·intro c' hc'
   by_cases ec:c'=c
   ·subst ec;rw [hQ];exact a7
   rw [hQ2 _ _ ec];exact i.wlt c' hc'
  ·intro c' hc'
   by_cases ec:c'=c
   ·subst ec;rw [hQ];exact a6
   rw [hQ2 _ _ ec];exact i.wnd c' hc'
  ·rw [hA];exact i.rgs
  ·rw [hA];exact i.apart
  ·rw [hA];exact ib.big
  ·rw [hA];exact ib.low
  ·rw [hA];exact i.row
  ·rw [hA];exact i.rownd
  ·rw [hA];exact i.rowl
  rw [hA];exact i.rel
 rw [←inQ_nq] at w5
 rcases w5 with ⟨e1,e2⟩|⟨e1,e2⟩
 ·left;refine⟨e1,?_⟩;have:=build (upd3 h.st c s j 2) (fun c' s' j'=>?_) (fun c' s' j' hne=>upd3_ne _ _ (by rintro ⟨h1,_⟩;exact hne h1)) (fun s' j' hs' hj' hf ho=>?_) (fun s' j' hs' hj'=>?_) (fun s' j' hs' hj'=>(hin s' j' hs' hj').trans e2.mem_iff) (e2.nodup_iff.1 hnd) (fun v hv=>hlt v (e2.mem_iff.2 hv))
  ·rw [hA] at this ⊢;exact this
  ·by_cases e:c'=c∧s'=s∧j'=j
   ·obtain⟨rfl,rfl,rfl⟩:=e;rw [upd3_same];omega
   rw [upd3_ne _ _ e];exact i.st c' s' j'
  ·by_cases e:c=c∧s'=s∧j'=j
   ·obtain⟨_,rfl,rfl⟩:=e;rw [hon] at ho;cases ho
   rw [upd3_ne _ _ e];exact hf
  by_cases e:c=c∧s'=s∧j'=j
  ·obtain⟨_,rfl,rfl⟩:=e;rw [upd3_same];simp
  rw [upd3_ne _ _ e];exact⟨fun h1=>⟨h1,fun h2=>e ⟨rfl,h2⟩⟩,fun h1=>h1.1⟩
 right;have hzm:left∈((s*slN c+j:Nat):Int)::inQ h c:=e2.mem_iff.2 (by simp);have hzn:=hlt left hzm;have hd:left.toNat/slN c < 6:=Nat.div_lt_of_lt_mul (by rw [Nat.mul_comm];omega);have hm:left.toNat % slN c < slN c:=Nat.mod_lt _ (by omega);have he:((left.toNat/slN c*slN c+left.toNat % slN c:Nat):Int)=left:=by
  rw [Nat.div_add_mod'];omega
 have hst2:upd3 h.st c s j 2 c (left.toNat/slN c) (left.toNat % slN c)=2:=(hin _ _ hd hm).2 (by rw [he];exact hzm);generalize left.toNat/slN c=s1 at *;generalize left.toNat % slN c=j1 at *;have hon1:onS h c s1=true:=by
  by_cases e:c=c∧s1=s∧j1=j
  ·obtain⟨_,rfl,rfl⟩:=e;exact hon
  rw [upd3_ne _ _ e] at hst2
  cases h9:onS h c s1 with
  | true=>rfl
  | false=>have:=i.off c s1 hc hd h9 j1 hm;rw [hst2] at this;simp [isFree] at this
 refine⟨s1,j1,e1,rfl,rfl,hd,hm,hon1,?_⟩;have hstA:(freeA cf h c s j).st=upd3 h.st c s j 2:=by rw [hA]
 rw [hstA];have hnd2:=e2.nodup_iff.1 hnd;have hz9:=(List.nodup_cons.1 hnd2).1;refine build (upd3 (upd3 h.st c s j 2) c s1 j1 3) (fun c' s' j'=>?_) (fun c' s' j' hne=>?_) (fun s' j' hs' hj' hf ho=>?_) (fun s' j' hs' hj'=>?_) (fun s' j' hs' hj'=>?_) (List.nodup_cons.1 hnd2).2 (fun v hv=>hlt v (e2.mem_iff.2 (List.mem_cons_of_mem _ hv)))
 ·by_cases e:c'=c∧s'=s1∧j'=j1
  ·obtain⟨rfl,rfl,rfl⟩:=e;rw [upd3_same];omega
  rw [upd3_ne _ _ e]
  by_cases e:c'=c∧s'=s∧j'=j
  ·obtain⟨rfl,rfl,rfl⟩:=e;rw [upd3_same];omega
  rw [upd3_ne _ _ e];exact i.st c' s' j'
 ·rw [upd3_ne _ _ (by rintro ⟨h1,_⟩;exact hne h1),upd3_ne _ _ (by rintro ⟨h1,_⟩;exact hne h1)]
 ·by_cases e:c=c∧s'=s1∧j'=j1
  ·obtain⟨_,rfl,rfl⟩:=e;rw [hon1] at ho;cases ho
  rw [upd3_ne _ _ e]
  by_cases e:c=c∧s'=s∧j'=j
  ·obtain⟨_,rfl,rfl⟩:=e;rw [hon] at ho;cases ho
  rw [upd3_ne _ _ e];exact hf
 ·by_cases e:c=c∧s'=s1∧j'=j1
  ·obtain⟨_,rfl,rfl⟩:=e;rw [upd3_same];refine⟨fun h1=>by omega,fun h1=>?_⟩;rw [upd3_ne _ _ (by rintro ⟨_,h2⟩;exact h1.2 h2)] at hst2;omega
  rw [upd3_ne _ _ e]
  by_cases e:c=c∧s'=s∧j'=j
  ·obtain⟨_,rfl,rfl⟩:=e;rw [upd3_same];simp
  rw [upd3_ne _ _ e];exact⟨fun h1=>⟨h1,fun h2=>e ⟨rfl,h2⟩⟩,fun h1=>h1.1⟩
 by_cases e:c=c∧s'=s1∧j'=j1
 ·obtain⟨_,rfl,rfl⟩:=e;rw [upd3_same,he];exact⟨fun h1=>by omega,fun h1=>absurd h1 hz9⟩
 rw [upd3_ne _ _ e,hin s' j' hs' hj',e2.mem_iff,List.mem_cons];refine⟨fun h1=>?_,.inr⟩
 rcases h1 with h1|h1
 ·rw [←he] at h1;have:=num_inj hj' hm (show s'*slN c+j'=s1*slN c+j1 by omega);exact absurd ⟨rfl,this⟩ e
 exact h1
theorem Inv.fSlot {cf:Cf} {h:Hs} (i:Inv cf h) (hf1:1≤cf.fifo) {c s j:Nat} (hc:c < 12) (hs:s < 6) (hj:j < slN c) (hl:h.st c s j=1):Inv cf (freeSlot cf h c s j):=by
 rw [freeSlot_eq]
 rcases i.freed hf1 hc hs hj hl with ⟨e,h1⟩|⟨s',j',e,e1,e2,hs',hj',hon,h1⟩
 ·rw [if_pos e];exact h1
 rw [if_neg (by omega),e1,e2];unfold releaseM;dsimp only
 split
 ·rename_i hfull
  exact h1.drop hc hs' (freeS_all.1 hfull)
 exact h1
end Go.Proofs.YtgandbaejlfppaaGreatDoor
namespace Go.Proofs.YtgandbaejlfppaaGreatDoor
set_option linter.unusedVariables false
set_option linter.unusedSimpArgs false
set_option maxRecDepth 20000
set_option maxHeartbeats 8000000
open Go.RowKit
theorem find_lt {P:Nat→Bool} {n k:Nat} (h:(List.range n).find? P=some k):k < n∧P k=true:=by
 rw [List.find?_range_eq_some] at h;exact⟨by simpa using h.2.1,h.1⟩
structure Stay (h h':Hs):Prop where
 live:∀ c s j,isFree (h.st c s j)=false→h'.st c s j=h.st c s j
 mem:∀ k,(h.m k).isSome=true→h'.m k=h.m k
 rq:h'.rq=h.rq
 mx:h'.mx=h.mx
 ff:h'.ff=h.ff
 rg:h'.rg=h.rg
 row:h'.row=h.row
 rel:h'.rel=h.rel
theorem Stay.refl (h:Hs):Stay h h:=⟨fun _ _ _ _=>rfl,fun _ _=>rfl,rfl,rfl,rfl,rfl,rfl,rfl⟩
theorem Stay.trans {a b c:Hs} (h:Stay a b) (k:Stay b c):Stay a c:=by
 refine⟨fun x y z hf=>?_,fun p hp=>?_,k.rq.trans h.rq,k.mx.trans h.mx,k.ff.trans h.ff,k.rg.trans h.rg,k.row.trans h.row,k.rel.trans h.rel⟩
 ·rw [k.live x y z (by rw [h.live x y z hf];exact hf),h.live x y z hf]
 rw [k.mem p (by rw [h.mem p hp];exact hp),h.mem p hp]
theorem Inv.room {cf:Cf} {h:Hs} (i:Inv cf h) {c:Nat} (hc:c < 12) {s:Nat} {h1:Hs} (hr:roomS cf h c=some (s,h1)):s < 6∧Inv cf h1∧onS h1 c s=true∧0 < (freeS h1 c s).length∧Stay h h1∧h1.used=h.used∧h1.st=h.st:=by
 unfold roomS at hr
 cases hp:pickS h c with
 | some s0 =>
  rw [hp] at hr;simp at hr;obtain⟨rfl,rfl⟩:=hr;obtain⟨h1,h2⟩:=find_lt hp;simp at h2;refine⟨h1,i,h2.1,?_,Stay.refl _,rfl,rfl⟩;have:=h2.2;exact List.length_pos_iff.2 this
 | none =>
  rw [hp] at hr;dsimp only at hr
  cases hq:offS h c with
  | none=>rw [hq] at hr;cases hr
  | some s0 =>
   rw [hq] at hr;dsimp only at hr
   split at hr
   ·cases hr
   simp at hr;obtain⟨rfl,rfl⟩:=hr;obtain⟨hs,h2⟩:=find_lt hq;simp at h2;have hz:=szN_in hc;have hon:onS { h with m:=freshM h.m (slabP c s0) (pgN c) } c s0=true:=by
    unfold onS;show (freshM h.m (slabP c s0) (pgN c) (slabP c s0)).isSome=true;rw [freshM_eq,if_pos (by omega)];rfl
   refine⟨hs,i.fresh hc hs,hon,?_,⟨fun _ _ _ _=>rfl,fun k hk=>?_,rfl,rfl,rfl,rfl,rfl,rfl⟩,rfl,rfl⟩
   ·have:=freeS_all.2 (i.off c s0 hc hs h2);show 0 < (freeS h c s0).length;omega
   show freshM h.m (slabP c s0) (pgN c) k=h.m k;rw [freshM_eq,if_neg];intro hk2;have:=i.slab c s0 hc hs (k - slabP c s0) (by omega);rw [show slabP c s0+(k - slabP c s0)=k by omega,hk,h2] at this
   cases this
def freeN (h:Hs) (c:Nat):Nat→Nat
 | 0=>0
 | s+1=>freeN h c s+(freeS h c s).length
theorem freeS_len (h:Hs) (c s:Nat):(freeS h c s).length≤slN c:=by
 unfold freeS;have:=List.length_filter_le (fun j=>isFree (h.st c s j)) (List.range (slN c));simpa using this
theorem freeN_le (h:Hs) (c:Nat):∀ s,freeN h c s≤s*slN c
 | 0=>by simp [freeN]
 | s+1=>by
  have:=freeN_le h c s
  have h2:=freeS_len h c s
  simp only [freeN]
  rw [Nat.add_mul,Nat.one_mul]
  omega
theorem filter_len_lt {l:List Nat} {p q:Nat→Bool} (hq:∀ a∈l,q a=true→p a=true) {a:Nat} (ha:a∈l) (hp:p a=true) (hn:q a=false):(l.filter q).length < (l.filter p).length:=by
 induction l with
 | nil=>cases ha
 | cons b r ih =>
  have hle:(r.filter q).length≤(r.filter p).length:=by
   rw [←List.countP_eq_length_filter,←List.countP_eq_length_filter];exact List.countP_mono_left (fun x hx h=>hq x (List.mem_cons_of_mem _ hx) h)
  by_cases e:a=b
  ·subst e;rw [List.filter_cons_of_pos hp,List.filter_cons_of_neg (by simp [hn])];simp;omega
  have har:a∈r:=by simpa [e] using ha
  have:=ih (fun x hx=>hq x (List.mem_cons_of_mem _ hx)) har
  by_cases hb:q b=true
  ·rw [List.filter_cons_of_pos hb,List.filter_cons_of_pos (hq b (by simp) hb)];simp;omega
  rw [List.filter_cons_of_neg hb]
  by_cases hb2:p b=true
  ·rw [List.filter_cons_of_pos hb2];simp;omega
  rw [List.filter_cons_of_neg hb2];exact this
theorem freeS_set {h:Hs} {c s j:Nat} (hj:j < slN c) (hf:isFree (h.st c s j)=true):(freeS { h with st:=upd3 h.st c s j 4 } c s).length < (freeS h c s).length:=by
 unfold freeS;refine filter_len_lt (fun k hk hx=>?_) (List.mem_range.2 hj) hf ?_
 ·by_cases e:k=j
  ·subst e;dsimp only at hx;rw [upd3_same] at hx;cases hx
  dsimp only at hx;rw [upd3_ne _ _ (by rintro ⟨_,_,h⟩;exact e h)] at hx;exact hx
 dsimp only;rw [upd3_same];rfl
theorem freeN_set {h:Hs} {c s j:Nat} (hj:j < slN c) (hf:isFree (h.st c s j)=true):∀ n,(n≤s→freeN { h with st:=upd3 h.st c s j 4 } c n=freeN h c n)∧(s < n→freeN { h with st:=upd3 h.st c s j 4 } c n < freeN h c n)
 | 0=>⟨fun _=>rfl,fun h=>by omega⟩
 | n+1=>by
  have ih:=freeN_set (s:=s) hj hf n
  have hoth:∀ s',s'≠s→freeS { h with st:=upd3 h.st c s j 4 } c s'=freeS h c s':=fun s' hne=>by
   unfold freeS
   apply List.filter_congr
   intro k _
   dsimp only
   rw [upd3_ne _ _ (by rintro ⟨_,h,_⟩;exact hne h)]
  simp only [freeN]
  constructor
  ·intro hn
   rw [ih.1 (by omega),hoth n (by omega)]
  intro hn
  by_cases e:n=s
  ·subst e
   rw [ih.1 (by omega)]
   have:=freeS_set (h:=h) (s:=n) hj hf
   omega
  have:=ih.2 (by omega)
  rw [hoth n e];omega
theorem dr_lt (cf:Cf) (h:Hs) {n:Nat} (hn:0 < n):dr cf h n < n:=by
 unfold dr;have h1:=Int.emod_nonneg (cf.ds[h.used]?.getD 0) (show ((n:Nat):Int)≠0 by omega);have h2:=Int.emod_lt_of_pos (cf.ds[h.used]?.getD 0) (show (0:Int) < (n:Nat) by omega);omega
def pickJ (cf:Cf) (h:Hs) (c s:Nat):Nat:=(freeS h c s)[dr cf h (freeS h c s).length]?.getD 0
theorem pick_in (cf:Cf) {h:Hs} {c s:Nat} (hl:0 < (freeS h c s).length):(freeS h c s)[dr cf h (freeS h c s).length]?=some (pickJ cf h c s)∧pickJ cf h c s < slN c∧isFree (h.st c s (pickJ cf h c s))=true:=by
 have hd:=dr_lt cf h hl;have h1:(freeS h c s)[dr cf h (freeS h c s).length]?=some (pickJ cf h c s):=by
  unfold pickJ;rw [List.getElem?_eq_getElem hd];rfl
 refine⟨h1,?_⟩;have hm:=List.mem_of_getElem? h1;unfold freeS at hm;obtain⟨h2,h3⟩:=List.mem_filter.1 hm;exact⟨List.mem_range.1 h2,h3⟩
theorem smallM_succ (cf:Cf) (c f:Nat) (h:Hs):smallM cf c (f+1) h=match roomS cf h c with
  | none=>(none,h)
  | some (s,h1)=>if clean h1.m (adr c s (pickJ cf h1 c s)) (szN c) then (some (s,pickJ cf h1 c s),{ h1 with used:=h1.used+1 })
   else smallM cf c f { h1 with used:=h1.used+1,st:=upd3 h1.st c s (pickJ cf h1 c s) 4 }:=rfl
structure Got9 (cf:Cf) (c:Nat) (h:Hs) (o:Option (Nat×Nat)) (h':Hs):Prop where
 inv:Inv cf h'
 stay:Stay h h'
 some:∀ s j,o=some (s,j)→s < 6∧j < slN c∧onS h' c s=true∧isFree (h'.st c s j)=true∧isFree (h.st c s j)=true∧clean h'.m (adr c s j) (szN c)=true
theorem Inv.small {cf:Cf} {c:Nat} (hc:c < 12):∀ (f:Nat) {h:Hs},Inv cf h→Got9 cf c h (smallM cf c f h).1 (smallM cf c f h).2∧(smallM cf c f h).2.used≤h.used+f
 | 0,h,i=>⟨⟨i,Stay.refl _,fun s j e=>by cases e⟩,Nat.le_refl _⟩
 | f+1,h,i=>by
  rw [smallM_succ]
  cases hr:roomS cf h c with
  | none=>exact ⟨⟨i,Stay.refl _,fun s j e=>by cases e⟩,by dsimp only;omega⟩
  | some q =>
   obtain⟨s,h1⟩:=q
   obtain⟨hs,i1,hon,hlen,hst,hu,hse⟩:=i.room hc hr
   obtain⟨_,p1,p2⟩:=pick_in cf hlen
   dsimp only
   generalize pickJ cf h1 c s=j at *
   split
   ·rename_i hcl
    refine⟨⟨i1.used _,⟨hst.live,hst.mem,hst.rq,hst.mx,hst.ff,hst.rg,hst.row,hst.rel⟩,fun s' j' e=>?_⟩,by dsimp only;omega⟩
    simp at e
    obtain⟨rfl,rfl⟩:=e
    refine⟨hs,p1,hon,p2,?_,hcl⟩
    rw [←hse];exact p2
   have i2:Inv cf { h1 with used:=h1.used+1,st:=upd3 h1.st c s j 4 }:=(i1.used (h1.used+1)).retire hc hs p1 p2 hon
   obtain⟨ih,ihu⟩:=Inv.small hc f i2
   have st2:Stay h1 { h1 with used:=h1.used+1,st:=upd3 h1.st c s j 4 }:=by
    refine⟨fun c' s' j' hf=>?_,fun _ _=>rfl,rfl,rfl,rfl,rfl,rfl,rfl⟩;refine upd3_ne _ _ ?_;rintro⟨rfl,rfl,rfl⟩;rw [p2] at hf;cases hf
   refine⟨⟨ih.inv,hst.trans (st2.trans ih.stay),fun s' j' e=>?_⟩,?_⟩
   ·obtain⟨a1,a2,a3,a4,a5,a6⟩:=ih.some s' j' e;refine⟨a1,a2,a3,a4,?_,a6⟩;rw [←hse];have a5':isFree (upd3 h1.st c s j 4 c s' j')=true:=a5
    by_cases e:c=c∧s'=s∧j'=j
    ·obtain⟨_,rfl,rfl⟩:=e;exact p2
    rw [upd3_ne _ _ e] at a5';exact a5'
   dsimp only at ihu;omega
end Go.Proofs.YtgandbaejlfppaaGreatDoor
namespace Go.Proofs.YtgandbaejlfppaaGreatDoor
set_option linter.unusedVariables false
set_option linter.unusedSimpArgs false
set_option maxRecDepth 20000
set_option maxHeartbeats 8000000
open Go.RowKit
theorem room_in {h:Hs} {n s:Nat} (hr:roomL h n=some s):187≤s∧s+n≤283∧∀ r∈h.rg,s+n≤r.first∨r.first+r.ext≤s:=by
 unfold roomL at hr;rw [Option.map_eq_some_iff] at hr;obtain⟨k,hk,rfl⟩:=hr;obtain⟨h1,h2⟩:=find_lt hk;simp at h2;refine⟨by omega,by omega,fun r hr=>?_⟩;exact h2.2 r hr
theorem pagesN_pos {a:Nat} (h:1016 < a):1≤pagesN a:=by
 unfold pagesN
 split <;> omega
theorem Inv.large {cf:Cf} {h:Hs} (i:Inv cf h) {s g a:Nat} (hg1:1≤g) (hg3:g≤3) (ha:1016 < a) (hr:roomL h (g+pagesN a+1)=some s):Inv cf { h with m:=freshM h.m (s+g) (pagesN a),rg:=h.rg++[⟨s,g,pagesN a,1,a⟩],rel:=h.rel.filter fun b=>b/1024 < s || s+(g+pagesN a+1)≤b/1024 }:=by
 obtain⟨r1,r2,r3⟩:=room_in hr;have hp:=pagesN_pos ha;obtain⟨p,hpe⟩:∃ p,pagesN a=p:=⟨_,rfl⟩;rw [hpe] at r2 r3 hp ⊢;have hfr:∀ k,k < 187→freshM h.m (s+g) p k=h.m k:=fun k hk=>by rw [freshM_eq,if_neg (by omega)]
 have hon:∀ c' s',c' < 12→s' < 6→onS { h with m:=freshM h.m (s+g) p,rg:=h.rg++[⟨s,g,p,1,a⟩],rel:=h.rel.filter fun b=>b/1024 < s || s+(g+p+1)≤b/1024 } c' s'=onS h c' s':=fun c' s' hc' hs'=>by
  have:=slabP_in hc' hs';unfold onS;show (freshM h.m (s+g) p (slabP c' s')).isSome=_;rw [hfr _ (by omega)]
 refine⟨i.st,i.fine.fresh _ _,fun k hk=>?_,fun c' s' hc' hs' j hj=>?_,fun c' s' hc' hs' ho=>?_,i.req,i.mxl,i.ffl,i.ffn,i.mxn,i.wait,i.wlt,i.wnd,fun r hr=>?_,?_,fun k hk=>?_,fun k hk hx=>?_,fun b=>?_,i.rownd,i.rowl,fun b hb=>?_⟩
 ·show freshM h.m _ _ k=none;rw [freshM_eq,if_neg (by omega)];exact i.out k hk
 ·have:=slabP_in hc' hs';rw [hon c' s' hc' hs'];show (freshM h.m _ _ _).isSome=_;rw [hfr _ (by omega)];exact i.slab c' s' hc' hs' j hj
 ·rw [hon c' s' hc' hs'] at ho;exact i.off c' s' hc' hs' ho
 ·rcases List.mem_append.1 hr with h1|h1
  ·exact i.rgs r h1
  simp at h1;subst h1;dsimp only [Rg9.ext];refine⟨by omega,by omega,by omega,by omega,by omega,.inl ⟨rfl,by omega,?_⟩⟩;rw [Int.toNat_natCast];exact hpe
 ·rw [List.pairwise_append];refine⟨i.apart,by simp,fun x hx y hy=>?_⟩;simp at hy;subst hy;have:=r3 x hx;dsimp only [Rg9.ext] at this ⊢;omega
 ·show (freshM h.m (s+g) p k).isSome=true↔_;rw [freshM_eq];have old:=i.big k hk;constructor
  ·intro hx
   split at hx
   ·rename_i e
    exact⟨_,List.mem_append_right _ (List.mem_singleton.2 rfl),rfl,e.1,e.2⟩
   obtain⟨r,hr,h1⟩:=old.1 hx;exact⟨r,List.mem_append_left _ hr,h1⟩
  rintro⟨r,hr,h1⟩
  rcases List.mem_append.1 hr with h2|h2
  ·split
   ·rfl
   exact old.2 ⟨r,h2,h1⟩
  simp at h2;subst h2;rw [if_pos h1.2];rfl
 ·have hx':(freshM h.m (s+g) p k).isSome=true:=hx;rw [hfr k hk] at hx';exact i.low k hk hx'
 ·show b∈h.row↔_;rw [i.row b];constructor
  ·rintro⟨r,hr,h1⟩;exact⟨r,List.mem_append_left _ hr,h1⟩
  rintro⟨r,hr,h1⟩
  rcases List.mem_append.1 hr with h2|h2
  ·exact⟨r,h2,h1⟩
  simp at h2;subst h2;have:(1:Int)=2:=h1.1;omega
 obtain⟨h1,h2⟩:=List.mem_filter.1 hb;obtain⟨q1,q2,q3,q4⟩:=i.rel b h1;refine⟨q1,q2,q3,fun r hr=>?_⟩
 rcases List.mem_append.1 hr with h3|h3
 ·exact q4 r h3
 simp at h3;subst h3;simp at h2;exact h2
theorem base_in {cf:Cf} {h:Hs} (i:Inv cf h) {r:Rg9} (hr:r∈h.rg):r.base=(r.first+r.guards)*1024∧r.base/1024=r.first+r.guards∧r.base % 1024=0∧r.ext=r.guards+r.pages+1:=by
 unfold Rg9.base Rg9.ext;refine⟨rfl,?_,?_,rfl⟩ <;> omega
theorem pair_ne {l:List Rg9} (ha:l.Pairwise fun a b=>a.first+a.ext≤b.first∨b.first+b.ext≤a.first) {r q:Rg9} (hr:r∈l) (hq:q∈l) (hg:∀ x∈l,1≤x.guards) (hb:r.base=q.base):r=q:=by
 induction l with
 | nil=>cases hr
 | cons a t ih =>
  have hb':r.first+r.guards=q.first+q.guards:=by unfold Rg9.base at hb;omega
  have hx:∀ x∈t,(x.first+x.guards=a.first+a.guards)→False:=fun x hx he=>by
   have:=(List.pairwise_cons.1 ha).1 x hx;unfold Rg9.ext at this;omega
  rcases List.mem_cons.1 hr with h1|h1 <;> rcases List.mem_cons.1 hq with h2|h2
  ·rw [h1,h2]
  ·subst h1;exact absurd hb'.symm (hx q h2)
  ·subst h2;exact absurd hb' (hx r h1)
  exact ih (List.pairwise_cons.1 ha).2 h1 h2 (fun x hx=>hg x (List.mem_cons_of_mem _ hx))
theorem Inv.one {cf:Cf} {h:Hs} (i:Inv cf h) {r q:Rg9} (hr:r∈h.rg) (hq:q∈h.rg) (hb:r.base=q.base):r=q :=
 pair_ne i.apart hr hq (fun x hx=>(i.rgs x hx).2.2.1) hb
theorem Inv.setRq {cf:Cf} {h:Hs} (i:Inv cf h) {r:Rg9} (hr:r∈h.rg) (h1:r.st=1) {a:Nat} (ha:1016 < a) (hp:pagesN a=r.pages):Inv cf { h with rg:=h.rg.map fun x=>if x.base=r.base then { x with rq:=a } else x }:=by
 have key:∀ x,(if x.base=r.base then ({ x with rq:=(a:Int) } : Rg9) else x).first=x.first∧(if x.base=r.base then ({ x with rq:=(a:Int) } : Rg9) else x).guards=x.guards∧(if x.base=r.base then ({ x with rq:=(a:Int) } : Rg9) else x).pages=x.pages∧(if x.base=r.base then ({ x with rq:=(a:Int) } : Rg9) else x).st=x.st:=fun x=>by
  split <;> exact ⟨rfl,rfl,rfl,rfl⟩
 refine⟨i.st,i.fine,i.out,i.slab,i.off,i.req,i.mxl,i.ffl,i.ffn,i.mxn,i.wait,i.wlt,i.wnd,fun y hy=>?_,?_,fun k hk=>?_,i.low,fun b=>?_,i.rownd,i.rowl,fun b hb=>?_⟩
 ·obtain⟨x,hx,rfl⟩:=List.mem_map.1 hy;obtain⟨k1,k2,k3,k4⟩:=key x;have old:=i.rgs x hx;unfold Rg9.ext at old ⊢;rw [k1,k2,k3,k4];refine⟨old.1,old.2.1,old.2.2.1,old.2.2.2.1,old.2.2.2.2.1,?_⟩
  by_cases e:x.base=r.base
  ·have:=i.one hx hr e;subst this;rw [if_pos rfl];exact .inl ⟨h1,by dsimp only;omega,by dsimp only;rw [Int.toNat_natCast];exact hp⟩
  rw [if_neg e];exact old.2.2.2.2.2
 ·show (h.rg.map _).Pairwise _;rw [List.pairwise_map];refine i.apart.imp (fun {x y} hxy=>?_);unfold Rg9.ext at hxy ⊢;rw [(key x).1,(key x).2.1,(key x).2.2.1,(key y).1,(key y).2.1,(key y).2.2.1];exact hxy
 ·show (h.m k).isSome=true↔_;rw [i.big k hk];constructor
  ·rintro⟨x,hx,q1,q2⟩;refine⟨_,List.mem_map.2 ⟨x,hx,rfl⟩,?_⟩;rw [(key x).1,(key x).2.1,(key x).2.2.1,(key x).2.2.2];exact⟨q1,q2⟩
  rintro⟨y,hy,q1,q2⟩;obtain⟨x,hx,rfl⟩:=List.mem_map.1 hy;rw [(key x).2.2.2] at q1;rw [(key x).1,(key x).2.1,(key x).2.2.1] at q2;exact⟨x,hx,q1,q2⟩
 ·show b∈h.row↔_;rw [i.row b];constructor
  ·rintro⟨x,hx,q1,q2⟩;refine⟨_,List.mem_map.2 ⟨x,hx,rfl⟩,?_⟩;have e:(if x.base=r.base then ({ x with rq:=(a:Int) } : Rg9) else x).base=x.base:=by split <;> rfl
   rw [e,(key x).2.2.2];exact⟨q1,q2⟩
  rintro⟨y,hy,q1,q2⟩;obtain⟨x,hx,rfl⟩:=List.mem_map.1 hy;rw [(key x).2.2.2] at q1;have e:(if x.base=r.base then ({ x with rq:=(a:Int) } : Rg9) else x).base=x.base:=by split <;> rfl
  rw [e] at q2;exact⟨x,hx,q1,q2⟩
 obtain⟨q1,q2,q3,q4⟩:=i.rel b hb;refine⟨q1,q2,q3,fun y hy=>?_⟩;obtain⟨x,hx,rfl⟩:=List.mem_map.1 hy;have:=q4 x hx;unfold Rg9.ext at this ⊢;rw [(key x).1,(key x).2.1,(key x).2.2.1];exact this
end Go.Proofs.YtgandbaejlfppaaGreatDoor
namespace Go.Proofs.YtgandbaejlfppaaGreatDoor
set_option linter.unusedVariables false
set_option linter.unusedSimpArgs false
set_option maxRecDepth 20000
set_option maxHeartbeats 8000000
open Go.RowKit
def frA (h:Hs) (r:Rg9):Hs:={ h with m:=goneM h.m (r.first+r.guards) r.pages,rg:=h.rg.map fun x=>if x.base=r.base then { x with st:=2,rq:=0 } else x,row:=h.row++[r.base] }
theorem freeRange_eq (cf:Cf) (h:Hs) (r:Rg9):freeRange cf h r=if cf.large < (h.row++[r.base]).length then { frA h r with rg:=(frA h r).rg.filter fun x=>x.base≠(h.row++[r.base])[0]?.getD 0,rel:=h.rel++[(h.row++[r.base])[0]?.getD 0],row:=(h.row++[r.base]).tail } else frA h r:=rfl
theorem Inv.fA {cf:Cf} {h:Hs} (i:Inv cf h) {r:Rg9} (hr:r∈h.rg) (h1:r.st=1) (cf':Cf) (hm:cf'.mix=cf.mix) (hf:cf'.fifo=cf.fifo) (hl:h.row.length+1≤cf'.large):Inv cf' (frA h r):=by
 have key:∀ x:Rg9,(if x.base=r.base then ({ x with st:=2,rq:=0 } : Rg9) else x).first=x.first∧(if x.base=r.base then ({ x with st:=2,rq:=0 } : Rg9) else x).guards=x.guards∧(if x.base=r.base then ({ x with st:=2,rq:=0 } : Rg9) else x).pages=x.pages∧(if x.base=r.base then ({ x with st:=2,rq:=0 } : Rg9) else x).base=x.base:=fun x=>by
  split <;> exact ⟨rfl,rfl,rfl,rfl⟩
 obtain⟨b1,b2,b3,b4,b5,b6⟩:=i.rgs r hr;have hx4:r.ext=r.guards+r.pages+1:=rfl;have hfr:∀ k,k < 187→goneM h.m (r.first+r.guards) r.pages k=h.m k:=fun k hk=>by rw [goneM_eq,if_neg (by omega)]
 have hon:∀ c' s',c' < 12→s' < 6→onS (frA h r) c' s'=onS h c' s':=fun c' s' hc' hs'=>by
  have:=slabP_in hc' hs';unfold onS;show (goneM h.m (r.first+r.guards) r.pages (slabP c' s')).isSome=_;rw [hfr _ (by omega)]
 have far:∀ x∈h.rg,x≠r→x.first+x.ext≤r.first∨r.first+r.ext≤x.first:=fun x hx hne=>by
  have aux:∀ {l:List Rg9},(l.Pairwise fun a b=>a.first+a.ext≤b.first∨b.first+b.ext≤a.first)→x∈l→r∈l→x.first+x.ext≤r.first∨r.first+r.ext≤x.first:=fun {l}=>by
   induction l with
   | nil=>intro _ hx;cases hx
   | cons a t ih =>
    intro hp hx hr;obtain⟨p1,p2⟩:=List.pairwise_cons.1 hp
    rcases List.mem_cons.1 hx with e1|e1 <;> rcases List.mem_cons.1 hr with e2|e2
    ·exact absurd (e1.trans e2.symm) hne
    ·subst e1;exact p1 r e2
    ·subst e2;have:=p1 x e1;omega
    exact ih p2 e1 e2
  exact aux i.apart hx hr
 refine⟨i.st,i.fine.gone _ _,fun k hk=>?_,fun c' s' hc' hs' j hj=>?_,fun c' s' hc' hs' ho=>?_,i.req,fun c hc=>hm▸i.mxl c hc,fun c hc=>hf▸i.ffl c hc,i.ffn,i.mxn,i.wait,i.wlt,i.wnd,fun y hy=>?_,?_,fun k hk=>?_,fun k hk hx=>?_,fun b=>?_,?_,?_,fun b hb=>?_⟩
 ·show goneM h.m _ _ k=none;rw [goneM_eq]
  split
  ·rfl
  exact i.out k hk
 ·have:=slabP_in hc' hs';rw [hon c' s' hc' hs'];show (goneM h.m _ _ _).isSome=_;rw [hfr _ (by omega)];exact i.slab c' s' hc' hs' j hj
 ·rw [hon c' s' hc' hs'] at ho;exact i.off c' s' hc' hs' ho
 ·obtain⟨x,hx,rfl⟩:=List.mem_map.1 hy;obtain⟨k1,k2,k3,k4⟩:=key x;have old:=i.rgs x hx;unfold Rg9.ext at old ⊢;rw [k1,k2,k3];refine⟨old.1,old.2.1,old.2.2.1,old.2.2.2.1,old.2.2.2.2.1,?_⟩
  by_cases e:x.base=r.base
  ·rw [if_pos e];exact .inr ⟨rfl,rfl⟩
  rw [if_neg e];exact old.2.2.2.2.2
 ·show (h.rg.map _).Pairwise _;rw [List.pairwise_map];refine i.apart.imp (fun {x y} hxy=>?_);unfold Rg9.ext at hxy ⊢;rw [(key x).1,(key x).2.1,(key x).2.2.1,(key y).1,(key y).2.1,(key y).2.2.1];exact hxy
 ·show (goneM h.m (r.first+r.guards) r.pages k).isSome=true↔_;rw [goneM_eq];have old:=i.big k hk;constructor
  ·intro hx
   split at hx
   ·cases hx
   rename_i hn
   obtain⟨x,hx1,q1,q2⟩:=old.1 hx;have hne:x.base≠r.base:=fun e=>by
    have:=i.one hx1 hr e;subst this;exact hn q2
   refine⟨x,List.mem_map.2 ⟨x,hx1,by rw [if_neg hne]⟩,q1,q2⟩
  rintro⟨y,hy,q1,q2⟩;obtain⟨x,hx1,rfl⟩:=List.mem_map.1 hy;have hne:x.base≠r.base:=fun e=>by
   rw [if_pos e] at q1;have:(2:Int)=1:=q1;omega
  rw [if_neg hne] at q1 q2;have:=far x hx1 (fun e=>hne (by rw [e]));unfold Rg9.ext at this;rw [if_neg (by omega)];exact old.2 ⟨x,hx1,q1,q2⟩
 ·have hx':(goneM h.m (r.first+r.guards) r.pages k).isSome=true:=hx;rw [hfr k hk] at hx';exact i.low k hk hx'
 ·show b∈h.row++[r.base]↔_;rw [List.mem_append,i.row b];constructor
  ·rintro (⟨x,hx,q1,q2⟩|h2)
   ·have hne:x.base≠r.base:=fun e=>by
     have:=i.one hx hr e;subst this;omega
    exact⟨x,List.mem_map.2 ⟨x,hx,by rw [if_neg hne]⟩,q1,q2⟩
   simp at h2;subst h2;exact⟨_,List.mem_map.2 ⟨r,hr,rfl⟩,by rw [if_pos rfl],(key r).2.2.2⟩
  rintro⟨y,hy,q1,q2⟩;obtain⟨x,hx,rfl⟩:=List.mem_map.1 hy;rw [(key x).2.2.2] at q2
  by_cases e:x.base=r.base
  ·right;simp;rw [←q2,e]
  rw [if_neg e] at q1;exact .inl ⟨x,hx,q1,q2⟩
 ·show (h.row++[r.base]).Nodup;rw [List.nodup_append];refine⟨i.rownd,by simp,fun a ha b hb=>?_⟩;simp at hb;subst hb;rintro rfl;obtain⟨x,hx,q1,q2⟩:=(i.row _).1 ha;have:=i.one hx hr q2;subst this;omega
 ·show (h.row++[r.base]).length≤_;simp;omega
 obtain⟨q1,q2,q3,q4⟩:=i.rel b hb;refine⟨q1,q2,q3,fun y hy=>?_⟩;obtain⟨x,hx,rfl⟩:=List.mem_map.1 hy;have:=q4 x hx;unfold Rg9.ext at this ⊢;rw [(key x).1,(key x).2.1,(key x).2.2.1];exact this
theorem Inv.leave {cf:Cf} {h:Hs} (i:Inv cf h) {b0:Nat} {t:List Nat} (hrow:h.row=b0::t) (cf':Cf) (hm:cf'.mix=cf.mix) (hf:cf'.fifo=cf.fifo) (hl:t.length≤cf'.large):Inv cf' { h with rg:=h.rg.filter fun x=>x.base≠b0,rel:=h.rel++[b0],row:=t }:=by
 obtain⟨r0,hr0,s0,e0⟩:=(i.row b0).1 (by rw [hrow];simp);have hnd:=i.rownd;rw [hrow] at hnd;obtain⟨n1,n2⟩:=List.nodup_cons.1 hnd;have hin:∀ x,x∈(h.rg.filter fun x=>decide (x.base≠b0))↔x∈h.rg∧x.base≠b0:=fun x=>by rw [List.mem_filter];simp
 refine⟨i.st,i.fine,i.out,i.slab,i.off,i.req,fun c hc=>hm▸i.mxl c hc,fun c hc=>hf▸i.ffl c hc,i.ffn,i.mxn,i.wait,i.wlt,i.wnd,fun y hy=>i.rgs y ((hin y).1 hy).1,i.apart.filter _,fun k hk=>?_,i.low,fun b=>?_,n2,hl,fun b hb=>?_⟩
 ·show (h.m k).isSome=true↔_;rw [i.big k hk];constructor
  ·rintro⟨x,hx,q1,q2⟩;refine⟨x,(hin x).2 ⟨hx,fun e=>?_⟩,q1,q2⟩;have:=i.one hx hr0 (e.trans e0.symm);subst this;omega
  rintro⟨x,hx,q⟩;exact⟨x,((hin x).1 hx).1,q⟩
 ·show b∈t↔_;have old:=i.row b;rw [hrow] at old;constructor
  ·intro hb;obtain⟨x,hx,q1,q2⟩:=old.1 (List.mem_cons_of_mem _ hb);refine⟨x,(hin x).2 ⟨hx,fun e=>?_⟩,q1,q2⟩;rw [q2] at e;subst e;exact n1 hb
  rintro⟨x,hx,q1,q2⟩;obtain⟨h1,h2⟩:=(hin x).1 hx
  rcases List.mem_cons.1 (old.2 ⟨x,h1,q1,q2⟩) with e|e
  ·exact absurd (q2.trans e) h2
  exact e
 rcases List.mem_append.1 hb with h1|h1
 ·obtain⟨q1,q2,q3,q4⟩:=i.rel b h1;exact⟨q1,q2,q3,fun y hy=>q4 y ((hin y).1 hy).1⟩
 simp at h1;subst h1;obtain⟨b1,b2,b3,b4,b5,b6⟩:=i.rgs r0 hr0;obtain⟨f1,f2,f3,f4⟩:=base_in i hr0;rw [e0] at f2 f3;refine⟨f3,by omega,by omega,fun y hy=>?_⟩;obtain⟨hy1,hy2⟩:=(hin y).1 hy;rw [f2];have aux:∀ {l:List Rg9},(l.Pairwise fun a b=>a.first+a.ext≤b.first∨b.first+b.ext≤a.first)→y∈l→r0∈l→y.first+y.ext≤r0.first∨r0.first+r0.ext≤y.first:=fun {l}=>by
  induction l with
  | nil=>intro _ hx;cases hx
  | cons a t ih =>
   intro hp hx hr;obtain⟨p1,p2⟩:=List.pairwise_cons.1 hp
   rcases List.mem_cons.1 hx with e1|e1 <;> rcases List.mem_cons.1 hr with e2|e2
   ·have:=e1.trans e2.symm;subst this;exact absurd e0 hy2
   ·subst e1;exact p1 r0 e2
   ·subst e2;have:=p1 y e1;omega
   exact ih p2 e1 e2
 have:=aux i.apart hy1 hr0;omega
theorem Inv.fRange {cf:Cf} {h:Hs} (i:Inv cf h) {r:Rg9} (hr:r∈h.rg) (h1:r.st=1):Inv cf (freeRange cf h r):=by
 rw [freeRange_eq]
 by_cases hl:cf.large < (h.row++[r.base]).length
 ·rw [if_pos hl];have i1:=i.fA hr h1 { cf with large:=cf.large+1 } rfl rfl (by have:=i.rowl;dsimp only;omega);obtain⟨b0,t,hbt⟩:∃ b0 t,h.row++[r.base]=b0::t:=by
   cases h.row with
   | nil=>exact ⟨_,_,rfl⟩
   | cons a l=>exact ⟨a,l++[r.base],rfl⟩
  have i2:=i1.leave (b0:=b0) (t:=t) hbt cf rfl rfl (by
   have h2:=congrArg List.length hbt;have:=i.rowl;simp at h2;omega)
  rw [hbt];exact i2
 rw [if_neg hl];exact i.fA hr h1 cf rfl rfl (by simp at hl;omega)
end Go.Proofs.YtgandbaejlfppaaGreatDoor
namespace Go.Proofs.YtgandbaejlfppaaGreatDoor
set_option linter.unusedVariables false
set_option linter.unusedSimpArgs false
set_option maxRecDepth 20000
set_option maxHeartbeats 8000000
open Go.RowKit
theorem co_c2 {a:Nat} (h:a≤1016):coN a < 12∧a+8≤szN (coN a):=(co_c h).2
inductive Seen (h:Hs) (p:Nat):Fd→Prop
 | slot (c s j:Nat):c < 12→s < 6→j < slN c→adr c s j=p→h.st c s j=1→Seen h p (.slot c s j)
 | range (r:Rg9):r∈h.rg→r.base=p→r.st=1→Seen h p (.range r)
 | no (code:Int):(code=3∨code=4)→Seen h p (.no code)
theorem allS_in {t:Nat×Nat×Nat} (h:t∈allS):t.1 < 12∧t.2.1 < 6∧t.2.2 < slN t.1:=by
 unfold allS at h;simp only [List.mem_flatMap,List.mem_range,List.mem_map] at h;obtain⟨c,hc,s,hs,j,hj,rfl⟩:=h;exact⟨hc,hs,hj⟩
theorem find_seen (h:Hs) (p:Nat):Seen h p (findM h p):=by
 unfold findM
 cases e:slotAt p with
 | some t =>
  obtain⟨c,s,j⟩:=t;unfold slotAt at e;have h1:=allS_in (List.mem_of_find?_eq_some e);have h2:=List.find?_some e;simp at h2;dsimp only at h1 ⊢
  split
  ·rename_i h3;exact .slot c s j h1.1 h1.2.1 h1.2.2 h2 h3
  split
  ·exact .no 3 (.inl rfl)
  exact .no 4 (.inr rfl)
 | none =>
  dsimp only
  cases e2:h.rg.find? fun r=>r.base==p with
  | some r =>
   have h1:=List.mem_of_find?_eq_some e2;have h2:=List.find?_some e2;simp at h2;dsimp only
   split
   ·rename_i h3;exact .range r h1 h2 h3
   exact .no 4 (.inr rfl)
  | none =>
   dsimp only
   split
   ·exact .no 4 (.inr rfl)
   exact .no 3 (.inl rfl)
structure Few (k:Nat) (h:Hs):Prop where
 rg:h.rg.length≤k
 rel:h.rel.length≤k
 row:h.row.length≤k
 used:h.used≤2100*k
theorem Few.mono {k k':Nat} {h:Hs} (f:Few k h) (hk:k≤k'):Few k' h :=
 ⟨Nat.le_trans f.rg hk,Nat.le_trans f.rel hk,Nat.le_trans f.row hk,Nat.le_trans f.used (Nat.mul_le_mul_left _ hk)⟩
theorem Inv.malloc {cf:Cf} {h:Hs} (i:Inv cf h) {k:Nat} (f:Few k h) (a:Nat):Inv cf (mallocM cf h a).2∧(mallocM cf h a).2.rg.length≤k+1∧(mallocM cf h a).2.rel.length≤k∧(mallocM cf h a).2.row.length≤k∧(mallocM cf h a).2.used≤h.used+2000:=by
 unfold mallocM
 by_cases ha:a≤1016
 ·rw [if_pos ha];obtain⟨hc,hsz⟩:=co_c2 ha;generalize coN a=c at *;obtain⟨g,hu⟩:=Inv.small hc 2000 i
  cases e:smallM cf c 2000 h with
  | mk o h1 =>
   rw [e] at g hu;have f1:h1.rg.length≤k+1∧h1.rel.length≤k∧h1.row.length≤k:=by
    dsimp only at g;rw [g.stay.rg,g.stay.rel,g.stay.row];exact⟨by have:=f.rg;omega,f.rel,f.row⟩
   cases o with
   | none=>exact ⟨g.inv,f1.1,f1.2.1,f1.2.2,hu⟩
   | some q =>
    obtain⟨s,j⟩:=q;obtain⟨hs,hj,hon,hfr,_,_⟩:=g.some s j rfl;rw [isFree_or] at hfr;have hz:=szN_in hc;have i1:=g.inv.setSt hc hs hj 1 (a:Int) (by omega) (by omega) (by omega) (by dsimp only at hfr ⊢;omega) (.inr hon) (fun _=>⟨by omega,by omega⟩) (fun e=>absurd rfl e);exact⟨i1.bytes (adr c s j+usN c) (can cf (adr c s j)) 8,f1.1,f1.2.1,f1.2.2,hu⟩
 rw [if_neg ha];dsimp only;have hd:=dr_lt cf h (n:=3) (by omega);have i1:=i.used (h.used+1);have f0:=f.rg
 split
 ·exact⟨i1,by dsimp only;omega,f.rel,f.row,by dsimp only;omega⟩
 split
 ·exact⟨i1,by dsimp only;omega,f.rel,f.row,by dsimp only;omega⟩
 rename_i s hr
 split
 ·exact⟨i1,by dsimp only;omega,f.rel,f.row,by dsimp only;omega⟩
 refine⟨i1.large (by omega) (by omega) (by omega) hr,by simp;omega,?_,f.row,by dsimp only;omega⟩;exact Nat.le_trans (List.length_filter_le _ _) f.rel
theorem Inv.fAny {cf:Cf} {h:Hs} (i:Inv cf h) (hf1:1≤cf.fifo) {p:Nat} {x:Fd} (hx:Seen h p x):Inv cf (freeM cf h x)∧(freeM cf h x).rg.length≤h.rg.length∧(freeM cf h x).rel.length≤h.rel.length+1∧(freeM cf h x).row.length≤h.row.length+1∧(freeM cf h x).used≤h.used+1:=by
 cases hx with
 | slot c s j hc hs hj hp hl =>
  refine⟨i.fSlot hf1 hc hs hj hl,?_⟩;show (freeSlot cf h c s j).rg.length≤_∧(freeSlot cf h c s j).rel.length≤_∧(freeSlot cf h c s j).row.length≤_∧(freeSlot cf h c s j).used≤_;rw [freeSlot_eq];have ha:(freeA cf h c s j).rg=h.rg∧(freeA cf h c s j).rel=h.rel∧(freeA cf h c s j).row=h.row∧(freeA cf h c s j).used≤h.used+1:=by
   unfold freeA;refine⟨rfl,rfl,rfl,?_⟩;dsimp only
   split <;> omega
  have hb:∀ a b,(releaseM (freeA cf h c s j) c a b).rg=h.rg∧(releaseM (freeA cf h c s j) c a b).rel=h.rel∧(releaseM (freeA cf h c s j) c a b).row=h.row∧(releaseM (freeA cf h c s j) c a b).used≤h.used+1:=fun a b=>by
   unfold releaseM;dsimp only
   split <;> exact ha
  split
  ·rw [ha.1,ha.2.1,ha.2.2.1];exact⟨Nat.le_refl _,by omega,by omega,ha.2.2.2⟩
  obtain⟨x1,x2,x3,x4⟩:=hb ((leftM cf h c s j).toNat/slN c) ((leftM cf h c s j).toNat % slN c);rw [x1,x2,x3];exact⟨Nat.le_refl _,by omega,by omega,x4⟩
 | range r hr hb hs =>
  refine⟨i.fRange hr hs,?_⟩;show (freeRange cf h r).rg.length≤_∧(freeRange cf h r).rel.length≤_∧(freeRange cf h r).row.length≤_∧(freeRange cf h r).used≤_;rw [freeRange_eq];unfold frA
  split
  ·dsimp only;refine⟨?_,by simp,by simp,by omega⟩;exact Nat.le_trans (List.length_filter_le _ _) (by simp)
  dsimp only;exact⟨by simp,by omega,by simp,by omega⟩
 | no code hc=>exact ⟨i,Nat.le_refl _,Nat.le_add_right _ _,Nat.le_add_right _ _,Nat.le_add_right _ _⟩
theorem Inv.realloc {cf:Cf} {h:Hs} (i:Inv cf h) (hf1:1≤cf.fifo) {k:Nat} (f:Few k h) (p a:Nat):Inv cf (reallocM cf h p a).2∧Few (k+1) (reallocM cf h p a).2:=by
 obtain⟨m1,m2,m3,m4,m5⟩:=i.malloc f a;have fu:=f.used;have fz:Few (k+1) h:=f.mono (by omega);have fm:Few (k+1) (mallocM cf h a).2:=⟨m2,by omega,by omega,by omega⟩;have tk:∀ old:Nat,∀ q h1,mallocM cf h a=(some q,h1)→Inv cf (freeM cf { h1 with m:=copyM h1.m p q (min old a) } (findM { h1 with m:=copyM h1.m p q (min old a) } p))∧Few (k+1) (freeM cf { h1 with m:=copyM h1.m p q (min old a) } (findM { h1 with m:=copyM h1.m p q (min old a) } p)):=fun old q h1 e=>by
  rw [e] at m1 m2 m3 m4 m5;dsimp only at m1 m2 m3 m4 m5;have i2:Inv cf { h1 with m:=copyM h1.m p q (min old a) }:=m1.bytes q _ _;obtain⟨g1,g2,g3,g4,g5⟩:=i2.fAny hf1 (find_seen _ p);generalize freeM cf { h1 with m:=copyM h1.m p q (min old a) } (findM { h1 with m:=copyM h1.m p q (min old a) } p)=h9 at *;dsimp only at g2 g3 g4 g5;exact⟨g1,by omega,by omega,by omega,by omega⟩
 unfold reallocM;dsimp only
 by_cases hp:p=0
 ·rw [if_pos hp]
  cases e:mallocM cf h a with
  | mk o h1 =>
   rw [e] at m1 fm
   cases o with
   | none=>exact ⟨m1,fm⟩
   | some q=>exact ⟨m1,fm⟩
 rw [if_neg hp];have hs:=find_seen h p
 cases e:findM h p with
 | no code=>exact ⟨i,fz⟩
 | slot c s j =>
  rw [e] at hs;dsimp only
  split
  ·exact⟨i,fz⟩
  split
  ·rename_i hfit
   cases hs with
   | slot _ _ _ hc hs hj hp hl =>
    obtain⟨_,hsz⟩:=co_c2 hfit.1;rw [hfit.2] at hsz;have hz:=szN_in hc;have hon:onS h c s=true:=by
     cases h9:onS h c s with
     | true=>rfl
     | false=>have:=i.off c s hc hs h9 j hj;rw [hl] at this;simp [isFree] at this
    have:=i.setSt hc hs hj 1 (a:Int) (by omega) (by omega) (by omega) (by omega) (.inr hon) (fun _=>⟨by omega,by omega⟩) (fun e=>absurd rfl e);rw [upd3_self h.st hl] at this;exact⟨this,fz.rg,fz.rel,fz.row,fz.used⟩
  cases e2:mallocM cf h a with
  | mk o h1 =>
   cases o with
   | none=>rw [e2] at m1 fm;exact⟨m1,fm⟩
   | some q=>exact tk _ q h1 e2
 | range r =>
  rw [e] at hs;dsimp only
  split
  ·rename_i hfit
   cases hs with
   | range _ hr hb hs =>
    refine⟨i.setRq hr hs hfit.1 hfit.2,?_⟩;exact⟨by simp;exact fz.rg,fz.rel,fz.row,fz.used⟩
  cases e2:mallocM cf h a with
  | mk o h1 =>
   cases o with
   | none=>rw [e2] at m1 fm;exact⟨m1,fm⟩
   | some q=>exact tk _ q h1 e2
theorem Inv.do {cf:Cf} {h:Hs} (i:Inv cf h) (hf1:1≤cf.fifo) {k:Nat} (f:Few k h) (o:Op6) (p:Nat):Inv cf (doM cf h o p).2∧Few (k+1) (doM cf h o p).2:=by
 have fz:Few (k+1) h:=f.mono (by omega);have fu:=f.used;have mal:∀ n,Inv cf (mallocM cf h n).2∧Few (k+1) (mallocM cf h n).2:=fun n=>by
  obtain⟨m1,m2,m3,m4,m5⟩:=i.malloc f n;exact⟨m1,m2,by omega,by omega,by omega⟩
 have mal2:∀ n,Inv cf (match mallocM cf h n with
  | (none,h1)=>(An4.no 1,h1)
  | (some q,h1)=>(⟨0,q,0,[]⟩,h1)).2∧Few (k+1) (match mallocM cf h n with
  | (none,h1)=>(An4.no 1,h1)
  | (some q,h1)=>(⟨0,q,0,[]⟩,h1)).2:=fun n=>by
  have:=mal n
  cases e:mallocM cf h n with
  | mk o h1 =>
   rw [e] at this
   cases o with
   | none=>exact this
   | some q=>exact this
 unfold doM;dsimp only
 split
 ·exact mal2 _
 split
 ·split
  ·exact⟨i,fz⟩
  exact mal2 _
 split
 ·exact i.realloc hf1 f p o.a
 split
 ·have hs:=find_seen h p;obtain⟨g1,g2,g3,g4,g5⟩:=i.fAny hf1 hs;have ff:Few (k+1) (freeM cf h (findM h p)):=⟨by have:=f.rg;omega,by have:=f.rel;omega,by have:=f.row;omega,by omega⟩
  cases e:findM h p with
  | no code=>exact ⟨i,fz⟩
  | slot c s j =>
   rw [e] at g1 ff;dsimp only
   split
   ·exact⟨i,fz⟩
   exact⟨g1,ff⟩
  | range r=>rw [e] at g1 ff;exact⟨g1,ff⟩
 split
 ·cases e:findM h p with
  | no code=>exact ⟨i,fz⟩
  | slot c s j=>exact ⟨i,fz⟩
  | range r=>exact ⟨i,fz⟩
 split
 ·split <;> exact ⟨i,fz⟩
 split
 ·dsimp only
  split
  ·exact⟨i.bytes p o.ys _,fz.rg,fz.rel,fz.row,fz.used⟩
  exact⟨i,fz⟩
 exact⟨i,fz⟩
theorem Inv.step {cf:Cf} {h:Hs} (i:Inv cf h) (hf1:1≤cf.fifo) {k:Nat} (f:Few k h) (an:List An4) (o:Op6):Inv cf (stepH cf h an o).2∧Few (k+1) (stepH cf h an o).2:=by
 unfold stepH
 split
 ·exact i.do hf1 f o _
 split
 ·exact⟨i,f.mono (by omega)⟩
 exact i.do hf1 f o _
end Go.Proofs.YtgandbaejlfppaaGreatDoor
namespace Go.Proofs.YtgandbaejlfppaaGreatDoor
set_option linter.unusedVariables false
set_option linter.unusedSimpArgs false
set_option maxRecDepth 20000
set_option maxHeartbeats 8000000
open Go.RowKit
inductive Area (h:Hs) (p n:Nat):Prop
 | slot (c s j:Nat):c < 12→s < 6→j < slN c→adr c s j=p→h.st c s j=1→n≤szN c→Area h p n
 | range (r:Rg9):r∈h.rg→r.base=p→r.st=1→n≤r.pages*1024→Area h p n
theorem Inv.on1 {cf:Cf} {h:Hs} (i:Inv cf h) {c s j:Nat} (hc:c < 12) (hs:s < 6) (hj:j < slN c) (hl:isFree (h.st c s j)=false):onS h c s=true:=by
 cases h9:onS h c s with
 | true=>rfl
 | false=>have:=i.off c s hc hs h9 j hj;rw [hl] at this;cases this
theorem Inv.openA {cf:Cf} {h:Hs} (i:Inv cf h) {p n:Nat} (a:Area h p n) {k:Nat} (hk:k < n):isOpen (h.m ((p+k)/1024))=true:=by
 rw [i.fine.open]
 cases a with
 | slot c s j hc hs hj hp hl hn =>
  have hon:=i.on1 hc hs hj (by rw [hl];rfl);have h1:=adr_in hc hs hj;have h2:slabP c s*1024≤adr c s j:=by unfold adr;omega
  have h3:=i.slab c s hc hs ((p+k)/1024 - slabP c s) (by omega);rw [show slabP c s+((p+k)/1024 - slabP c s)=(p+k)/1024 by omega,hon] at h3;exact h3
 | range r hr hb hs hn =>
  have h1:=i.rgs r hr;unfold Rg9.base at hb;exact (i.big _ (by omega)).2 ⟨r,hr,hs,by omega,by omega⟩
theorem slot_apart {c s j c' s' j':Nat} (hc:c < 12) (hs:s < 6) (hj:j < slN c) (hc':c' < 12) (hs':s' < 6) (hj':j' < slN c') (hne:¬(c=c'∧s=s'∧j=j')):adr c s j+szN c≤adr c' s' j'∨adr c' s' j'+szN c'≤adr c s j:=by
 have h1:=adr_in hc hs hj;have h2:=adr_in hc' hs' hj';have g1:slabP c s*1024≤adr c s j:=by unfold adr;omega
 have g2:slabP c' s'*1024≤adr c' s' j':=by unfold adr;omega
 by_cases e:c=c'∧s=s'
 ·obtain⟨rfl,rfl⟩:=e;unfold adr
  rcases Nat.lt_trichotomy j j' with h|h|h
  ·have:(j+1)*szN c≤j'*szN c:=Nat.mul_le_mul_right _ h;rw [Nat.add_mul,Nat.one_mul] at this;omega
  ·exact absurd ⟨rfl,rfl,h⟩ hne
  have:(j'+1)*szN c≤j*szN c:=Nat.mul_le_mul_right _ h;rw [Nat.add_mul,Nat.one_mul] at this;omega
 have:=slab_apart hc hs hc' hs' e;omega
theorem Inv.far {cf:Cf} {h:Hs} (i:Inv cf h) {r q:Rg9} (hr:r∈h.rg) (hq:q∈h.rg) (hne:r≠q):r.first+r.ext≤q.first∨q.first+q.ext≤r.first:=by
 have aux:∀ {l:List Rg9},(l.Pairwise fun a b=>a.first+a.ext≤b.first∨b.first+b.ext≤a.first)→r∈l→q∈l→r.first+r.ext≤q.first∨q.first+q.ext≤r.first:=fun {l}=>by
  induction l with
  | nil=>intro _ hx;cases hx
  | cons a t ih =>
   intro hp hx hr;obtain⟨p1,p2⟩:=List.pairwise_cons.1 hp
   rcases List.mem_cons.1 hx with e1|e1 <;> rcases List.mem_cons.1 hr with e2|e2
   ·exact absurd (e1.trans e2.symm) hne
   ·subst e1;exact p1 q e2
   ·subst e2;have:=p1 r e1;omega
   exact ih p2 e1 e2
 exact aux i.apart hr hq
theorem Inv.apartA {cf:Cf} {h:Hs} (i:Inv cf h) {p n q m:Nat} (a:Area h p n) (b:Area h q m) (hne:p≠q):p+n≤q∨q+m≤p:=by
 cases a with
 | slot c s j hc hs hj hp hl hn =>
  cases b with
  | slot c' s' j' hc' hs' hj' hp' hl' hn' =>
   have:=slot_apart hc hs hj hc' hs' hj' (by rintro ⟨rfl,rfl,rfl⟩;exact hne (hp.symm.trans hp'));omega
  | range r hr hb hs' hn' =>
   have h1:=adr_in hc hs hj;have h2:=i.rgs r hr;unfold Rg9.base at hb;omega
 | range r hr hb hs hn =>
  cases b with
  | slot c' s' j' hc' hs' hj' hp' hl' hn' =>
   have h1:=adr_in hc' hs' hj';have h2:=i.rgs r hr;unfold Rg9.base at hb;omega
  | range r' hr' hb' hs' hn' =>
   have:=i.far hr hr' (by rintro rfl;exact hne (hb.symm.trans hb'));unfold Rg9.ext at this;unfold Rg9.base at hb hb';omega
theorem pagesN_le (a:Nat):a≤pagesN a*1024:=by
 unfold pagesN
 split <;> omega
structure Gave (cf:Cf) (h:Hs) (a q:Nat) (h1:Hs):Prop where
 inv:Inv cf h1
 area:Area h1 q a
 fresh:∀ n,¬Area h q n
 live:∀ c s j,c < 12→s < 6→j < slN c→h.st c s j=1→h1.st c s j=1∧h1.rq c s j=h.rq c s j
 rg:h1.rg=h.rg∨∃ r,h1.rg=h.rg++[r]∧r.base=q
 rel:∀ b,b∈h1.rel→b∈h.rel
theorem Inv.gave {cf:Cf} {h:Hs} (i:Inv cf h) {a q:Nat} {h1:Hs} (he:mallocM cf h a=(some q,h1)):Gave cf h a q h1:=by
 have i1:=(i.malloc (k:=h.rg.length+h.rel.length+h.row.length+h.used) ⟨by omega,by omega,by omega,by omega⟩ a).1;rw [he] at i1;dsimp only at i1;unfold mallocM at he
 by_cases ha:a≤1016
 ·rw [if_pos ha] at he;obtain⟨hc,hsz⟩:=co_c2 ha;generalize coN a=c at *;obtain⟨g,hu⟩:=Inv.small hc 2000 i
  cases e:smallM cf c 2000 h with
  | mk o h0 =>
   rw [e] at g hu he
   cases o with
   | none=>simp at he
   | some t =>
    obtain⟨s,j⟩:=t;simp at he;obtain⟨rfl,rfl⟩:=he;obtain⟨hs,hj,hon,hf1,hf0,hcl⟩:=g.some s j rfl;refine⟨i1,.slot c s j hc hs hj rfl (upd3_same _ _ _ _ _) (by omega),fun n hA=>?_,fun c' s' j' hc' hs' hj' hl=>?_,.inl g.stay.rg,fun b hb=>g.stay.rel▸hb⟩
    ·cases hA with
     | slot c' s' j' hc' hs' hj' hp' hl' hn' =>
      by_cases hne:c'=c∧s'=s∧j'=j
      ·obtain⟨rfl,rfl,rfl⟩:=hne;rw [hl'] at hf0;simp [isFree] at hf0
      have:=slot_apart hc' hs' hj' hc hs hj hne;have z1:=szN_in hc;have z2:=szN_in hc';omega
     | range r hr hb hs' hn' =>
      have h1:=adr_in hc hs hj;have h2:=i.rgs r hr;unfold Rg9.base at hb;omega
    have hne:¬(c'=c∧s'=s∧j'=j):=by
     rintro⟨rfl,rfl,rfl⟩;rw [hl] at hf0;simp [isFree] at hf0
    have hlv:=g.stay.live c' s' j' (by rw [hl];rfl);refine⟨?_,?_⟩
    ·show upd3 h0.st c s j 1 c' s' j'=1;rw [upd3_ne _ _ hne];exact hlv.trans hl
    show upd3 h0.rq c s j a c' s' j'=h.rq c' s' j';rw [upd3_ne _ _ hne];exact congrFun (congrFun (congrFun g.stay.rq c') s') j'
 rw [if_neg ha] at he;dsimp only at he;have hd:=dr_lt cf h (n:=3) (by omega)
 split at he
 ·simp at he
 split at he
 ·simp at he
 rename_i s hr
 split at he
 ·simp at he
 obtain⟨r1,r2,r3⟩:=room_in hr;simp at he;obtain⟨rfl,rfl⟩:=he;have hp:=pagesN_le a;refine⟨i1,.range ⟨s,1+dr cf h 3,pagesN a,1,a⟩ (List.mem_append_right _ (List.mem_singleton.2 rfl)) rfl rfl hp,fun n hA=>?_,fun c' s' j' hc' hs' hj' hl=>⟨hl,rfl⟩,.inr ⟨_,rfl,rfl⟩,fun b hb=>(List.mem_filter.1 hb).1⟩
 cases hA with
 | slot c' s' j' hc' hs' hj' hp' hl' hn' =>
  have h1:=adr_in hc' hs' hj';omega
 | range r hr hb hs' hn' =>
  have h2:=r3 r hr;have h3:=i.rgs r hr;unfold Rg9.base at hb;unfold Rg9.ext at h2;omega
theorem Gave.keeps {cf:Cf} {h h1:Hs} {a q:Nat} (g:Gave cf h a q h1) {p n:Nat} (A:Area h p n):Area h1 p n∧p≠q:=by
 refine⟨?_,fun e=>g.fresh n (e▸A)⟩
 cases A with
 | slot c s j hc hs hj hp hl hn=>exact .slot c s j hc hs hj hp (g.live c s j hc hs hj hl).1 hn
 | range r hr hb hs hn =>
  refine .range r ?_ hb hs hn
  rcases g.rg with e|⟨r',e,_⟩
  ·rw [e];exact hr
  rw [e];exact List.mem_append_left _ hr
theorem find_slotS {h h':Hs} {p c s j:Nat} (hf:findM h p=.slot c s j) (hl:h'.st c s j=1):findM h' p=.slot c s j:=by
 unfold findM at hf ⊢
 cases e:slotAt p with
 | some t =>
  obtain⟨c',s',j'⟩:=t;rw [e] at hf;dsimp only at hf ⊢
  split at hf
  ·simp at hf;obtain⟨rfl,rfl,rfl⟩:=hf;rw [if_pos hl]
  split at hf <;> cases hf
 | none =>
  rw [e] at hf;dsimp only at hf
  cases e2:h.rg.find? fun r=>r.base==p with
  | some r=>rw [e2] at hf;dsimp only at hf;split at hf <;> cases hf
  | none=>rw [e2] at hf;dsimp only at hf;split at hf <;> cases hf
theorem find_rangeS {h h':Hs} {p:Nat} {r:Rg9} (hf:findM h p=.range r) (hr:h'.rg=h.rg∨∃ r',h'.rg=h.rg++[r']):findM h' p=.range r:=by
 unfold findM at hf ⊢
 cases e:slotAt p with
 | some t =>
  obtain⟨c',s',j'⟩:=t;rw [e] at hf;dsimp only at hf ⊢
  split at hf
  ·cases hf
  split at hf <;> cases hf
 | none =>
  rw [e] at hf;dsimp only at hf ⊢
  cases e2:h.rg.find? fun r=>r.base==p with
  | some r0 =>
   rw [e2] at hf;have e3:(h'.rg.find? fun r=>r.base==p)=some r0:=by
    rcases hr with h1|⟨r',h1⟩
    ·rw [h1];exact e2
    rw [h1,List.find?_append,e2];rfl
   rw [e3];exact hf
  | none=>rw [e2] at hf;dsimp only at hf;split at hf <;> cases hf
theorem putM_byte (m:Nat→Option (Bool×List Int)) (p:Nat) (x:Int) (a:Nat) (h:a≠p):byteAt (putM m p x) a=byteAt m a:=by
 unfold byteAt putM
 by_cases e:a/1024=p/1024
 ·rw [e,updM_same];have hne:p % 1024≠a % 1024:=by omega
  cases m (p/1024) with
  | none=>rfl
  | some q=>simp [hne]
 rw [updM_other _ _ _ _ e]
theorem storeM_byte (m:Nat→Option (Bool×List Int)) (q:Nat) (ys:List Int) (a:Nat):∀ k,(a < q∨q+k≤a)→byteAt (storeM m q ys k) a=byteAt m a
 | 0,_=>rfl
 | k+1,h=>by
  show byteAt (putM (storeM m q ys k) (q+k) _) a=_
  rw [putM_byte _ _ _ _ (by omega)]
  exact storeM_byte m q ys a k (by omega)
end Go.Proofs.YtgandbaejlfppaaGreatDoor
