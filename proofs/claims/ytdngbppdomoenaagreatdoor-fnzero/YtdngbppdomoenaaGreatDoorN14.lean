import Derived.Test.YtdngbppdomoenaaGreatDoorN10
set_option linter.unusedVariables false
set_option linter.unusedSimpArgs false
set_option maxRecDepth 20000
set_option maxHeartbeats 8000000
namespace Go.Proofs.YtdngbppdomoenaaGreatDoor
open Go.Proofs.Tryz
variable {c j n s s':Nat} {h:Hs} {m:Nat->Option (Bool×List Int)} {cf:Cf} {x:Int}
section
open Go.RowKit Go.Shelf
theorem Da.keep {S M f w V p ys} (h:Da S M f w p n ys) (a:Fr S M f f w V):Da S M f V p n ys:=by
 refine⟨h.1,λi j=>?_⟩;obtain⟨x,e,c,l,b,d,g⟩:=h.2 i j;refine⟨x,e,?_,Fq l a.size,b,d,g⟩;unfold World.cell? at c ⊢;rw [a.block _ l b d g];exact c
theorem wQ (S M) (g:Nat) (bud f m p c) (a:Nat) (n d b) (j:Nat) (ys w) (h:Im S M 0 g bud f w) (u:Pg f m w) (ha:a<18446744073709551616) (o:Da S M f w d b ys) (s:b<=j) :
  Calls prog 149 #[J S 0,j_ 5 p c a n d b j] w λe t=>e=.returned (.agg #[I (bT g bud m 5 p c a n ys).2.1,C])/\IF S M g bud f (bT g bud m 5 p c a n ys).1 w t:=by
 have v:bT g bud m 5 p c a n ys=(if b_ m a (ys.length:Int)=0 then ax m a ys ys.length else m,b_ m a (ys.length:Int),[]):=by unfold bT;rw [Gu av,Gv rfl]
 rw [v,o.1];refine run_store S M g bud f m _ _ p c a n d b j w h u (λV i q r=>?_);by_cases l:b_ m a (b:Int)=0
 ·rw [l,Gv rfl];obtain⟨k,K,x,y,z⟩:=rO l;obtain rfl:b=k:=Z;have A:=yt S M 1 g bud f m a b j d ys V i q x s y (o.keep r) (λd o=>jN q (z d o)) (λW k o=>by
   have:=iv S M 1 g bud f m a (b:Nat) W k o ha;rwa [l] at this)
  refine ((callsIn_wide (n:=5)).1 A).mono ?_;rintro e t ⟨rfl,B,F,G⟩;exact⟨rfl,f,B,F,G⟩
 rw [Gu l];refine (uL S a _ b j d V (by simpa using l) (iv S M 1 g bud f m a b _ (i.alloc _) (q.alloc _) ha)).mono ?_;rintro e t ⟨rfl,rfl⟩;exact⟨rfl,f,i.alloc _,q.alloc _,Fr.ofGrown (GH _ _ none)⟩
theorem D_ (S M) (b:Nat) (bud f m kd) (p:Int) (c) (a:Nat) (n d dl) (j:Nat) (ys w) (h:Im S M 0 b bud f w) (o:Pg f m w) (l:∀ k,b<=k->m k=none) (k:b<=4096) (ha:a<18446744073709551616) (q:p<=9223372036854775807) (x:Da S M f w d dl ys) (s:dl<=j) :
  Calls prog 149 #[J S 0,j_ kd p c a n d dl j] w λe g=>∃ v,e=.returned (.agg #[I (bT b bud m kd p c a n ys).2.1,v])/\g.ownsRow w.heap.size 5 1 v (bT b bud m kd p c a n ys).2.2.length (Ns .u8 (bT b bud m kd p c a n ys).2.2)/\IF S M b bud f (bT b bud m kd p c a n ys).1 w g:=by
 have i:∀ (e:Ending) (g:World),(bT b bud m kd p c a n ys).2.2=[]->(e=.returned (.agg #[I (bT b bud m kd p c a n ys).2.1,C])/\IF S M b bud f (bT b bud m kd p c a n ys).1 w g)->∃ v,e=.returned (.agg #[I (bT b bud m kd p c a n ys).2.1,v])/\g.ownsRow w.heap.size 5 1 v (bT b bud m kd p c a n ys).2.2.length (Ns .u8 (bT b bud m kd p c a n ys).2.2)/\IF S M b bud f (bT b bud m kd p c a n ys).1 w g:=by
  rintro e g t ⟨rfl,r⟩;exact⟨_,rfl,by rw [t];exact⟨rfl,.inl ⟨rfl,rfl⟩⟩,r⟩
 by_cases r:kd=4;·subst r;exact yW S M b bud f m p c a n d dl j ys w h o ha
 by_cases t:kd=5;·subst t;refine (wQ S M b bud f m p c a n d dl j ys w h o ha x s).mono (λe g=>i e g ?_);unfold bT;rw [Gu av,Gv rfl]
 by_cases u:kd<0\/5<kd;·refine (yU S M b bud f m kd p c a n d dl j ys w h o u).mono (λe g=>i e g ?_);unfold bT;rw [Gu r,Gu t,Gv u]
 refine (z_ S M b bud f m kd p c a n d dl j ys w h o l k q Z).mono (λe g=>i e g ?_);unfold bT;rw [Gu r,Gu t,Gu u];split <;> rfl
theorem nK (m) (p:Nat):∀ k j,p+k<=j->aU m p k j=m j
 | 0,j,h=>rfl
 | k+1,j,h=>by
  show eb (aU m p k) (p+k) _ j=m j
  rw [aV _ _ _ _ Z]
  exact nK m p k j Z
theorem pX (m) (p:Nat):∀ k j,p+k<=j->bI m p k j=m j
 | 0,j,h=>rfl
 | k+1,j,h=>by
  show eb (bI m p k) (p+k) _ j=m j
  rw [aV _ _ _ _ Z]
  exact pX m p k j Z
end
section
open Go.RowKit
theorem lZ (c s:Nat) (W:World) (a:c<12) (f:s<6) :
  Calls prog 46 #[I c,I s] W λe d=>e=.returned (I (aB c s:Nat))/\D W d:=by
 refine (iw (c:Int) (s:Int) Z Z W).mono ?_;rintro e d ⟨rfl,b⟩;refine⟨cP ?_,b⟩;rw [vY a,pU a];unfold aB;simp
theorem CQ (B x cf h) (c s:Nat) (W) (b:Sh B x cf h W) (i:c<12) (d:s<6) :
  Calls prog 219 #[J x.P 0,I c,I s] W λe g=>e=.returned (.bool (dy h c s))/\D W g:=by
 have j:W.cell? ⟨x.P,6,none⟩=some (J x.T 0):=b.cell 6 _ rfl;have k:=cy i d;obtain⟨l,v,w,m,n,o,f,_⟩:=b.sp.page (aB c s) Z;obtain⟨q,r⟩:=b.sp.c;have t:=H (show dy h c s=l from f.symm);have a:=H (λg=>lZ c s g i d);generalize aB c s=p at *;have u:p<283:=Z;clear b n o r f k;go_enter func219,ntmps219;go_wp2
 go_region_with (first|(go_at_call 46;refine (a _).mono ?_;rintro e k ⟨rfl,f⟩;have b:D W k:=⟨f.os,f.tape,f.output,f.size,f.block⟩;have n:=ad b j;have o:=ad b q;have r:=ad b m))
 all_goals (go_wp2;go_ret;rw [t.out];exact⟨rfl,b⟩)
def xj (h:Hs):Prop:=∀ c s j,0<=h.st c s j/\h.st c s j<=4
theorem vU (l:xj h) (m:c<12) (n:s<6):(iZ h c s [1,2,4] 1062=[])↔(freeS h c s).length=aM c:=by
 unfold iZ freeS;rw [Ik];constructor
 ·intro g;have:((List.range (aM c)).filter λj=>aZ (h.st c s j))=List.range (aM c):=by
   rw [Hw];intro j e;rw [F0] at e;obtain⟨k,a,d⟩:=pw m n e;have b:=g k (F0.2 a);unfold dB at b;rw [d] at b;have f:=l c s j;unfold aZ;simp at b ⊢;omega
  rw [this,Gm]
 intro o k a;rw [F0] at a;have d:∀ j∈List.range (aM c),aZ (h.st c s j)=true:=by
  have:=List.length_filter_eq_length_iff.1 (by rw [o,Gm]:((List.range (aM c)).filter λj=>aZ (h.st c s j)).length=(List.range (aM c)).length);exact this
 intro g;simp only [FV,beq_iff_eq] at g;obtain⟨b,f,e⟩:=g;have p:=mg a;have i:=d (sA k).2.2 (F0.2 (by rw [<-b];exact p.2.2));unfold dB at e;rw [b,f] at e;unfold aZ at i;simp at e i;omega
theorem ye (c:Nat) (W:World) (d:c<12):Calls prog 53 #[I c] W λe a=>e=.returned (I (dH c:Nat))/\D W a:=by
 refine (dW (c:Int) W).mono ?_;rintro e a ⟨rfl,b⟩;exact⟨cP (pU d),b⟩
theorem kr {P:Program} {b:Func} (h:b.results=#[]) (a:Array Value) (w:World):(results b a).run P w=.ok (.tuple #[]) w:=by
 simp [results,h]
theorem jD (m) (p:Nat):∀ k j,p<=j->j<p+k->aU m p k j=some (false,List.replicate 1024 0)
 | 0,j,a,b=>by omega
 | k+1,j,a,b=>by
  show eb (aU m p k) (p+k) _ j=_
  by_cases e:j=p+k
  ·subst e;rw [bL]
  rw [aV _ _ _ _ e];exact jD m p k j a Z
theorem jH (m) (p:Nat):∀ k j,j<p->aU m p k j=m j
 | 0,j,h=>rfl
 | k+1,j,h=>by
  show eb (aU m p k) (p+k) _ j=m j
  rw [aV _ _ _ _ Z]
  exact jH m p k j h
theorem cY (m p) (k j:Nat):aU m p k j=if p<=j/\j<p+k then some (false,List.replicate 1024 0) else m j:=by
 split;·rename_i h;exact jD m p k j h.1 h.2
 rename_i h;by_cases e:j<p;·exact jH m p k j e
 exact nK m p k j Z
theorem rE (m) (p:Nat):∀ k j,p<=j->j<p+k->bI m p k j=none
 | 0,j,a,b=>by omega
 | k+1,j,a,b=>by
  show eb (bI m p k) (p+k) _ j=_
  by_cases e:j=p+k
  ·subst e;rw [bL]
  rw [aV _ _ _ _ e];exact rE m p k j a Z
theorem ly (m) (p:Nat):∀ k j,j<p->bI m p k j=m j
 | 0,j,h=>rfl
 | k+1,j,h=>by
  show eb (bI m p k) (p+k) _ j=m j
  rw [aV _ _ _ _ Z]
  exact ly m p k j h
theorem dC (m p) (k j:Nat):bI m p k j=if p<=j/\j<p+k then none else m j:=by
 split;·rename_i h;exact rE m p k j h.1 h.2
 rename_i h;by_cases e:j<p;·exact ly m p k j e
 exact pX m p k j Z
theorem uR (m p x) (j:Nat):(dX m p x j).isSome=(m j).isSome:=by
 unfold dX;by_cases e:j=p/1024;·subst e;rw [bL,Option.isSome_map]
 rw [aV _ _ _ _ e]
theorem cX (m a ys):∀ k j,(ax m a ys k j).isSome=(m j).isSome
 | 0,j=>rfl
 | k+1,j=>by simp only [ax];rw [uR];exact cX m a ys k j
def Fine (m:Nat->Option (Bool×List Int)):Prop:=∀ k q,m k=some q->q.1=false/\q.2.length=1024
theorem Fine.put (h:Fine m) (p x):Fine (dX m p x):=by
 intro k q a;unfold dX at a;by_cases e:k=p/1024
 ·subst e;rw [bL] at a;cases b:m (p/1024) with
  | none=>rw [b] at a;cases a
  | some r =>
   rw [b] at a;simp at a;subst a;have:=h _ _ b;exact⟨this.1,by simp [this.2]⟩
 rw [aV _ _ _ _ e] at a;exact h k q a
theorem Fine.store {m} (h:Fine m) (a ys):∀ k,Fine (ax m a ys k)
 | 0=>h
 | k+1=>(Fine.store h a ys k).put _ _
theorem Fine.fresh (h:Fine m) (p k:Nat):Fine (aU m p k):=by
 intro j q a;rw [cY] at a;split at a
 ·injection a with a;subst a;exact⟨rfl,FO⟩
 exact h j q a
theorem Fine.gone (h:Fine m) (p k:Nat):Fine (bI m p k):=by
 intro j q a;rw [dC] at a;split at a;·cases a
 exact h j q a
theorem Fine.open (h:Fine m) (k:Nat):isOpen (m k)=(m k).isSome:=by
 cases a:m k with
 | none=>rfl
 | some q=>obtain ⟨l,b⟩:=q;have:=(h k _ a).1;simp at this;subst this;rfl
/-! slabs lie apart -/
theorem q_ {d:Nat} (h:c<d) (b:d<12):yI c+6*(dH c+1)<=yI d:=by
 have a:∀ d:Fin 12,∀ c:Fin 12,c.val<d.val->yI c.val+6*(dH c.val+1)<=yI d.val:=by decide +kernel
 exact a ⟨d,b⟩ ⟨c,Z⟩ h
theorem dP {a:Nat} (f:c<12) (i:s<6) (d:a<12) (g:s'<6) (e:¬(c=a/\s=s')):aB c s+(dH c+1)<=aB a s'\/aB a s'+(dH a+1)<=aB c s:=by
 unfold aB;have j:s*(dH c+1)<=5*(dH c+1):=F5 _ Z;have k:s'*(dH a+1)<=5*(dH a+1):=F5 _ Z;rcases Hn c a with h|h|h;·have:=q_ h d;omega
 ·subst h;rcases Hn s s' with b|b|b;·have:(s+1)*(dH c+1)<=s'*(dH c+1):=F5 _ b;rw [Gj,Gl] at this;omega
  ·exact absurd ⟨rfl,b⟩ e
  have:(s'+1)*(dH c+1)<=s*(dH c+1):=F5 _ b;rw [Gj,Gl] at this;omega
 have:=q_ h f;omega
def nh (h:Hs) (c:Nat):List Int:=(h.mx c++h.ff c).filter λv=>decide (v ≠ -1)
structure Inv (cf:Cf) (h:Hs):Prop where
 st:xj h
 fine:Fine h.m
 out:∀ k,283<=k->h.m k=none
 slab:∀ c s,c<12->s<6->∀ i,i<dH c->(h.m (aB c s+i)).isSome=dy h c s
 off:∀ c s,c<12->s<6->dy h c s=false->∀ j,j<aM c->aZ (h.st c s j)=true
 req:∀ c s j,c<12->s<6->j<aM c->(h.st c s j=1->0<=h.rq c s j/\h.rq c s j<=fo c)/\(h.st c s j≠1->h.rq c s j=0)
 mxl:∀ c,c<12->(h.mx c).length=cf.mix
 ffl:∀ c,c<12->(h.ff c).length<=cf.fifo
 ffn:∀ c,c<12->∀ v∈h.ff c,0<=v
 mxn:∀ c,c<12->∀ v∈h.mx c,-1<=v
 wait:∀ c s j,c<12->s<6->j<aM c->(h.st c s j=2↔((s*aM c+j:Nat):Int)∈nh h c)
 wlt:∀ c,c<12->∀ v∈nh h c,v<6*aM c
 wnd:∀ c,c<12->(nh h c).Nodup
 rgs:∀ r∈h.rg,187<=r.first/\r.first+r.ext<=283/\1<=r.guards/\r.guards<=3/\1<=r.pages/\(r.st=1/\1016<r.rq/\aR r.rq.toNat=r.pages\/r.st=2/\r.rq=0)
 apart:h.rg.Pairwise λa b=>a.first+a.ext<=b.first\/b.first+b.ext<=a.first
 big:∀ k,187<=k->((h.m k).isSome=true↔∃ r∈h.rg,r.st=1/\r.first+r.guards<=k/\k<r.first+r.guards+r.pages)
 low:∀ k,k<187->(h.m k).isSome=true->∃ c s,c<12/\s<6/\aB c s<=k/\k<aB c s+dH c
 row:∀ b,b∈h.row↔∃ r∈h.rg,r.st=2/\r.base=b
 rownd:h.row.Nodup
 rowl:h.row.length<=cf.large
 rel:∀ b∈h.rel,b%1024=0/\187<=b/1024/\b/1024<283/\∀ r∈h.rg,b/1024<r.first\/r.first+r.ext<=b/1024
theorem pB (cf c):nh (aS cf) c=[]:=by
 unfold nh aS;simp
theorem Inv.new (cf):Inv cf (aS cf):=by
 refine⟨λc s j=>⟨by simp [aS],by simp [aS]⟩,λk q l=>by simp [aS] at l,λk f=>rfl,λc s a e i p=>rfl,λc s a e t j g=>rfl,λc s j a e g=>⟨by simp [aS],λ_=>rfl⟩,λc a=>by simp [aS],λc a=>by simp [aS],λc a v d=>by simp [aS] at d,λc a v d=>?_,λc s j a e g=>?_,λc a v d=>?_,λc a=>?_,λr m=>by simp [aS] at m,by simp [aS],λk f=>by simp [aS],λk f n=>by simp [aS] at n,λb=>by simp [aS],by simp [aS],by simp [aS],λb o=>by simp [aS] at o⟩;·simp [aS] at d;omega
 ·rw [pB];simp [aS]
 ·rw [pB] at d;cases d
 rw [pB];exact List.nodup_nil
theorem Inv.used (i:Inv cf h) (u:Nat):Inv cf { h with used:=u } :=
 ⟨i.st,i.fine,i.out,i.slab,i.off,i.req,i.mxl,i.ffl,i.ffn,i.mxn,i.wait,i.wlt,i.wnd,i.rgs,i.apart,i.big,i.low,i.row,i.rownd,i.rowl,i.rel⟩
theorem Inv.bytes (i:Inv cf h) (a ys) (n:Nat):Inv cf { h with m:=ax h.m a ys n }:=by
 have f:∀ c s,dy { h with m:=ax h.m a ys n } c s=dy h c s:=λc s=>cX _ _ _ _ _
 refine⟨i.st,i.fine.store _ _ _,λk b=>?_,λc s d e j g=>?_,λc s d e l=>i.off c s d e ((f c s).symm.trans l),i.req,i.mxl,i.ffl,i.ffn,i.mxn,i.wait,i.wlt,i.wnd,i.rgs,i.apart,λk b=>?_,λk b o=>?_,i.row,i.rownd,i.rowl,i.rel⟩;·have:=cX h.m a ys n k;rw [i.out k b] at this;simpa using this
 ·rw [f];exact (cX _ _ _ _ _).trans (i.slab c s d e j g)
 ·have:=i.big k b;rw [<-cX h.m a ys n k] at this;exact this
 exact i.low k b ((cX h.m a ys n k)▸o)
theorem Inv.fresh {cf h} (i:Inv cf h) {c s:Nat} (n:c<12) (p:s<6):Inv cf { h with m:=aU h.m (aB c s) (dH c) }:=by
 have v:=cy n p;have w:=bd n;have q:∀ b s',b<12->s'<6->∀ k,k<dH b->aU h.m (aB c s) (dH c) (aB b s'+k)=if b=c/\s'=s then some (false,List.replicate 1024 0) else h.m (aB b s'+k):=λb s' a d k g=>by
  rw [cY];by_cases e:b=c/\s'=s;·obtain⟨rfl,rfl⟩:=e;rw [Gv Z,Gv ⟨rfl,rfl⟩]
  rw [Gu e,Gu];have:=dP a d n p e;omega
 have l:∀ b s',b<12->s'<6->dy { h with m:=aU h.m (aB c s) (dH c) } b s'=if b=c/\s'=s then true else dy h b s':=λb s' a d=>by
  have:=bd a;have r:=q b s' a d 0 Z;unfold dy;rw [Gt] at r;show (aU h.m (aB c s) (dH c) (aB b s')).isSome=_;rw [r];split <;> rfl
 refine⟨i.st,i.fine.fresh _ _,λk g=>?_,λb s' a d j t=>?_,λb s' a d o=>?_,i.req,i.mxl,i.ffl,i.ffn,i.mxn,i.wait,i.wlt,i.wnd,i.rgs,i.apart,λk g=>?_,λk g u=>?_,i.row,i.rownd,i.rowl,i.rel⟩;·show aU h.m _ _ k=none;rw [cY,Gu Z];exact i.out k g
 ·rw [l b s' a d];show (aU h.m _ _ _).isSome=_;rw [q b s' a d j t];split;·rfl
  exact i.slab b s' a d j t
 ·rw [l b s' a d] at o;split at o;·cases o
  exact i.off b s' a d o
 ·show (aU h.m _ _ k).isSome=true↔_;rw [cY,Gu Z];exact i.big k g
 have f:(aU h.m (aB c s) (dH c) k).isSome=true:=u;rw [cY] at f;split at f;·rename_i e;exact⟨c,s,n,p,e.1,e.2⟩
 exact i.low k g f
theorem aO (f c s j v):aE f c s j v c s j=v:=by unfold aE;rw [Gv ⟨rfl,rfl,rfl⟩]
theorem a_ (f) {a b:Nat} (v) (h:¬(a=c/\s'=s/\b=j)):aE f c s j v a s' b=f a s' b:=by unfold aE;rw [Gu h]
theorem gB (f:Nat->Nat->Nat->Int) {v:Int} (h:f c s j=v):aE f c s j v=f:=by
 funext a s' b;by_cases e:a=c/\s'=s/\b=j;·obtain⟨rfl,rfl,rfl⟩:=e;rw [aO,h]
 rw [a_ _ _ e]
theorem jJ:aZ x=true↔x=0\/x=3:=by unfold aZ;simp
theorem pc (a:j<n):(s*n+j)/n=s/\(s*n+j)%n=j:=by
 have b:0<n:=Z;constructor;·rw [Gq,Nat.mul_add_div b,Nat.div_eq_of_lt a,Gt]
 rw [Gq,Nat.mul_add_mod,Hi a]
theorem uk {a:Nat} (e:j<n) (b:a<n) (h:s*n+j=s'*n+a):s=s'/\j=a:=by
 have c:=pc (s:=s) e;have d:=pc (s:=s') b;rw [h] at c;exact⟨c.1.symm.trans d.1,c.2.symm.trans d.2⟩
theorem Ck (a:s<6) (b:j<n):s*n+j<6*n:=by
 have:(s+1)*n<=6*n:=F5 _ a;rw [Gj,Gl] at this;omega
theorem Inv.setSt (i:Inv cf h) (x:c<12) (y:s<6) (z:j<aM c) (v r:Int) (q:0<=v) (t:v<=4) (l:v≠2) (u:h.st c s j≠2) (m:aZ v=true\/dy h c s=true) (w:v=1->0<=r/\r<=fo c) (n:v≠1->r=0):Inv cf { h with st:=aE h.st c s j v,rq:=aE h.rq c s j r }:=by
 refine⟨λa s' b=>?_,i.fine,i.out,i.slab,λa s' d f p b g=>?_,λa s' b d f g=>?_,i.mxl,i.ffl,i.ffn,i.mxn,λa s' b d f g=>?_,i.wlt,i.wnd,i.rgs,i.apart,i.big,i.low,i.row,i.rownd,i.rowl,i.rel⟩
 all_goals (by_cases e:a=c/\s'=s/\b=j)
 ·obtain⟨rfl,rfl,rfl⟩:=e;show 0<=aE h.st a s' b v a s' b/\aE h.st a s' b v a s' b<=4;rw [aO];exact⟨q,t⟩
 ·show 0<=aE h.st c s j v a s' b/\aE h.st c s j v a s' b<=4;rw [a_ _ _ e];exact i.st a s' b
 ·obtain⟨rfl,rfl,rfl⟩:=e;show aZ (aE h.st a s' b v a s' b)=true;rw [aO];rcases m with k|k;·exact k
  have o:dy h a s'=false:=p;rw [o] at k;cases k
 ·show aZ (aE h.st c s j v a s' b)=true;rw [a_ _ _ e];exact i.off a s' d f p b g
 ·obtain⟨rfl,rfl,rfl⟩:=e;show (aE h.st a s' b v a s' b=1->0<=aE h.rq a s' b r a s' b/\aE h.rq a s' b r a s' b<=fo a)/\(aE h.st a s' b v a s' b≠1->aE h.rq a s' b r a s' b=0);rw [aO,aO];exact⟨w,n⟩
 ·show (aE h.st c s j v a s' b=1->0<=aE h.rq c s j r a s' b/\aE h.rq c s j r a s' b<=fo a)/\(aE h.st c s j v a s' b≠1->aE h.rq c s j r a s' b=0);rw [a_ _ _ e,a_ _ _ e];exact i.req a s' b d f g
 ·obtain⟨rfl,rfl,rfl⟩:=e;show aE h.st a s' b v a s' b=2↔_∈nh h a;rw [aO,<-i.wait a s' b d f g];exact⟨λe=>absurd e l,λe=>absurd e u⟩
 show aE h.st c s j v a s' b=2↔_∈nh h a;rw [a_ _ _ e];exact i.wait a s' b d f g
theorem Inv.retire (i:Inv cf h) (b:c<12) (d:s<6) (e:j<aM c) (f:aZ (h.st c s j)=true) (a:dy h c s=true):Inv cf { h with st:=aE h.st c s j 4 }:=by
 rw [jJ] at f;have:=i.setSt b d e 4 0 Z Z Z Z (.inr a) Z (λ_=>rfl);rw [gB h.rq ((i.req c s j b d e).2 Z)] at this;exact this
theorem Inv.drop (i:Inv cf h) (o:c<12) (q:s<6) (v:∀ j,j<aM c->aZ (h.st c s j)=true):Inv cf { h with m:=bI h.m (aB c s) (dH c) }:=by
 have x:=cy o q;have y:=bd o;have r:∀ d s',d<12->s'<6->∀ k,k<dH d->bI h.m (aB c s) (dH c) (aB d s'+k)=if d=c/\s'=s then none else h.m (aB d s'+k):=λd s' b f k l=>by
  rw [dC];by_cases e:d=c/\s'=s;·obtain⟨rfl,rfl⟩:=e;rw [Gv Z,Gv ⟨rfl,rfl⟩]
  rw [Gu e,Gu];have:=dP b f o q e;omega
 have n:∀ d s',d<12->s'<6->dy { h with m:=bI h.m (aB c s) (dH c) } d s'=if d=c/\s'=s then false else dy h d s':=λd s' b f=>by
  have:=bd b;have t:=r d s' b f 0 Z;unfold dy;rw [Gt] at t;show (bI h.m (aB c s) (dH c) (aB d s')).isSome=_;rw [t];split <;> rfl
 refine⟨i.st,i.fine.gone _ _,λk l=>?_,λd s' b f j u=>?_,λd s' b f p=>?_,i.req,i.mxl,i.ffl,i.ffn,i.mxn,i.wait,i.wlt,i.wnd,i.rgs,i.apart,λk l=>?_,λk l w=>?_,i.row,i.rownd,i.rowl,i.rel⟩
 ·show bI h.m _ _ k=none;rw [dC];split;·rfl
  exact i.out k l
 ·rw [n d s' b f];show (bI h.m _ _ _).isSome=_;rw [r d s' b f j u];split;·rfl
  exact i.slab d s' b f j u
 ·rw [n d s' b f] at p;split at p;·rename_i e;obtain ⟨rfl,rfl⟩:=e;exact v
  exact i.off d s' b f p
 ·show (bI h.m _ _ k).isSome=true↔_;rw [dC,Gu Z];exact i.big k l
 have g:(bI h.m (aB c s) (dH c) k).isSome=true:=w;rw [dC] at g;split at g;·cases g
 exact i.low k l g
/-! what a push does to the numbers that wait -/
def nq (l:List Int):List Int:=l.filter λv=>decide (v ≠ -1)
theorem oI (a b:List Int):nq (a++b)=nq a++nq b:=by unfold nq;rw [GZ]
theorem mH {a:List Int} (g:1<=n) (f:a.length<=n) (i:0<=x) (c:∀ v∈a,0<=v):(cQ n a x).1.length<=n/\(∀ v∈(cQ n a x).1,0<=v)/\(((cQ n a x).2 = -1/\(x::a).Perm (cQ n a x).1)\/(0<=(cQ n a x).2/\(x::a).Perm ((cQ n a x).2::(cQ n a x).1))):=by
 unfold cQ;by_cases h:a.length<n
 ·rw [Gv h];refine⟨bK,λv e=>?_,.inl ⟨rfl,?_⟩⟩
  ·rcases FM.1 e with b|b;·exact c v b
   simp at b;omega
  exact (List.perm_append_comm (l₁:=a) (l₂:=[x])).symm
 rw [Gu h];cases a with
 | nil=>simp at h;omega
 | cons y d =>
  refine⟨by simp at f h ⊢;omega,λv e=>?_,.inr ⟨c _ bF,?_⟩⟩
  ·rcases FM.1 e with b|b;·exact c v (by simp at b ⊢;exact .inr b)
   simp at b;omega
  show (x::y::d).Perm (y::(d++[x]));exact (List.Perm.swap y x d).trans (List.Perm.cons y (List.perm_append_comm (l₁:=d) (l₂:=[x])).symm)
theorem tA {a b:List Int} (h:a.Perm b):(nq a).Perm (nq b):=h.filter _
theorem tP {l:List Int} (h:∀ v∈l,0<=v):nq l=l:=by
 unfold nq;rw [Hw];intro v a;have:=h v a;simp;omega
theorem set_perm:∀ (l:List Int) (i:Nat) (y x:Int),l[i]?=some y->(x::l).Perm (y::l.set i x)
 | [],i,y,x,h=>by simp at h
 | a::l,0,y,x,h=>by simp at h;subst h;exact List.Perm.swap a x l
 | a::l,i+1,y,x,h=>by
  simp at h
  have b:=set_perm l i y x h
  exact (List.Perm.swap a x l).trans ((List.Perm.cons a b).trans (List.Perm.swap y a _))
theorem rD {b c:List Int} {d} (B:1<=n) (m:c.length<=n) (K:0<=x) (e:∀ v∈c,0<=v) (i:∀ v∈b,-1<=v):(er n b c x d).1.length=b.length/\(er n b c x d).2.1.length<=n/\(∀ v∈(er n b c x d).2.1,0<=v)/\(∀ v∈(er n b c x d).1,-1<=v)/\(((er n b c x d).2.2 = -1/\(x::nq (b++c)).Perm (nq ((er n b c x d).1++(er n b c x d).2.1)))\/(0<=(er n b c x d).2.2/\(x::nq (b++c)).Perm ((er n b c x d).2.2::nq ((er n b c x d).1++(er n b c x d).2.1)))):=by
 unfold er;by_cases o:b=[]
 ·subst o;rw [Gv rfl];obtain⟨p,j,q⟩:=mH B m K e;refine⟨rfl,p,j,?_,?_⟩
  ·intro v r;cases r
  dsimp only;rw [Fy,Fy,tP e,tP j];exact q
 rw [Gu o];have L:0<b.length:=List.length_pos_iff.2 o;have M:md d b.length<b.length:=by
  unfold md;have f:=Ix d (show ((b.length:Nat):Int)≠0 by omega);have g:=Ij d (show (0:Int)<(b.length:Nat) by omega);omega
 generalize md d b.length=k at *;obtain⟨y,s⟩:∃ y,b[k]?=some y:=⟨_,Fj M⟩;have N:=i y (Fz s);have f:=set_perm b k y x s;have F:∀ v∈b.set k x,-1<=v:=λv r=>by
  rcases List.mem_or_eq_of_mem_set r with h|h;·exact i v h
  omega
 rw [s];simp only [Hb];by_cases g:y = -1
 ·rw [Gv g];refine⟨bF,m,e,F,.inl ⟨rfl,?_⟩⟩;dsimp only;have l:=tA f;have t:nq (y::b.set k x)=nq (b.set k x):=by subst g;rfl
  have u:nq (x::b)=x::nq b:=by unfold nq;rw [G8 bK]
  rw [t,u] at l;rw [oI,oI];exact List.Perm.append_right (nq c) l
 rw [Gu g];have w:0<=y:=Z;obtain⟨p,j,q⟩:=mH (x:=y) B m w e;refine⟨bF,p,j,F,?_⟩;dsimp only;have l:=tA f;have t:nq (y::b.set k x)=y::nq (b.set k x):=by unfold nq;rw [G8 bK]
 have u:nq (x::b)=x::nq b:=by unfold nq;rw [G8 bK]
 rw [t,u] at l;rw [oI,oI,tP e,tP j];have G:(x::(nq b++c)).Perm (nq (b.set k x)++(y::c)):=by
  refine (List.Perm.append_right c l).trans ?_;exact (List.perm_middle (a:=y) (l₁:=nq (b.set k x)) (l₂:=c)).symm
 rcases q with ⟨z,A⟩|⟨z,A⟩;·exact .inl ⟨z,G.trans (List.Perm.append_left _ A)⟩
 refine .inr ⟨z,G.trans ((List.Perm.append_left _ A).trans ?_)⟩;exact List.perm_middle
theorem oQ (h c):nh h c=nq (h.mx c++h.ff c):=rfl
theorem jW:(freeS h c s).length=aM c↔∀ j,j<aM c->aZ (h.st c s j)=true:=by
 unfold freeS;constructor;·intro b j a;have:=List.length_filter_eq_length_iff.1 (by rw [b,Gm]:((List.range (aM c)).filter λj=>aZ (h.st c s j)).length=(List.range (aM c)).length);exact this j (F0.2 a)
 intro b;have:((List.range (aM c)).filter λj=>aZ (h.st c s j))=List.range (aM c):=by
  rw [Hw];intro j a;exact b j (F0.1 a)
 rw [this,Gm]
def eB (cf:Cf) (h:Hs) (c s j:Nat):Int:=(er cf.fifo (h.mx c) (h.ff c) ((s*aM c+j:Nat):Int) ((if cf.mix=0 then 0 else dr cf h cf.mix:Nat):Int)).2.2
def bQ (cf:Cf) (h:Hs) (c s j:Nat):Hs :=
 { h with m:=ax h.m (aX c s j) (List.replicate (bX c) 0) (bX c),st:=aE h.st c s j 2,rq:=aE h.rq c s j 0,used:=if cf.mix=0 then h.used else h.used+1,mx:=ep h.mx c (er cf.fifo (h.mx c) (h.ff c) ((s*aM c+j:Nat):Int) ((if cf.mix=0 then 0 else dr cf h cf.mix:Nat):Int)).1,ff:=ep h.ff c (er cf.fifo (h.mx c) (h.ff c) ((s*aM c+j:Nat):Int) ((if cf.mix=0 then 0 else dr cf h cf.mix:Nat):Int)).2.1 }
theorem dQ (cf h c s j):aL cf h c s j=if eB cf h c s j = -1 then bQ cf h c s j else bO (bQ cf h c s j) c ((eB cf h c s j).toNat/aM c) ((eB cf h c s j).toNat%aM c):=by
 unfold aL eB bQ;by_cases a:cf.mix=0;·simp only [a,Iv]
 simp only [a,Iu];rfl
theorem ey (f c v):ep f c v c=v:=by unfold ep;rw [Gv rfl]
theorem gj (f) {d:Nat} (v) (h:d≠c):ep f c v d=f d:=by unfold ep;rw [Gu h]
theorem Inv.freed (i:Inv cf h) (Y:1<=cf.fifo) (u:c<12) (hs:s<6) (X:j<aM c) (hl:h.st c s j=1) :
  (eB cf h c s j = -1/\Inv cf (bQ cf h c s j)) \/
  (∃ s' a,0<=eB cf h c s j/\(eB cf h c s j).toNat/aM c=s'/\(eB cf h c s j).toNat%aM c=a/\s'<6/\a<aM c/\dy h c s'=true/\Inv cf { bQ cf h c s j with st:=aE (bQ cf h c s j).st c s' a 3 }):=by
 have hz:=bd u;have a0:(0:Int)<=((s*aM c+j:Nat):Int):=Z;obtain⟨w1,w2,w3,w4,w5⟩:=rD (d:=((if cf.mix=0 then 0 else dr cf h cf.mix:Nat):Int)) Y (i.ffl c u) a0 (i.ffn c u) (i.mxn c u);have hL:eB cf h c s j=(er cf.fifo (h.mx c) (h.ff c) ((s*aM c+j:Nat):Int) ((if cf.mix=0 then 0 else dr cf h cf.mix:Nat):Int)).2.2:=rfl;have p:bQ cf h c s j={ h with m:=ax h.m (aX c s j) (List.replicate (bX c) 0) (bX c),st:=aE h.st c s j 2,rq:=aE h.rq c s j 0,used:=if cf.mix=0 then h.used else h.used+1,mx:=ep h.mx c (er cf.fifo (h.mx c) (h.ff c) ((s*aM c+j:Nat):Int) ((if cf.mix=0 then 0 else dr cf h cf.mix:Nat):Int)).1,ff:=ep h.ff c (er cf.fifo (h.mx c) (h.ff c) ((s*aM c+j:Nat):Int) ((if cf.mix=0 then 0 else dr cf h cf.mix:Nat):Int)).2.1 }:=rfl;generalize er cf.fifo (h.mx c) (h.ff c) ((s*aM c+j:Nat):Int) ((if cf.mix=0 then 0 else dr cf h cf.mix:Nat):Int)=r at *;generalize eB cf h c s j=left at *;obtain⟨M,F,z⟩:=r;dsimp only at hL w1 w2 w3 w4 w5 p;subst hL;have Q:=i.bytes (aX c s j) (List.replicate (bX c) 0) (bX c);have K:dy h c s=true:=by
  cases h9:dy h c s with
  | true=>rfl
  | false=>have:=i.off c s u hs h9 j X;rw [hl] at this;simp [aZ] at this
 have R:((s*aM c+j:Nat):Int)∉nh h c:=λP=>by
  have:=(i.wait c s j u hs X).2 P;omega
 have S:(((s*aM c+j:Nat):Int)::nh h c).Nodup:=Gr.2 ⟨R,i.wnd c u⟩;have L:∀ v∈((s*aM c+j:Nat):Int)::nh h c,v<6*aM c:=λv T=>by
  rcases FG.1 T with l|l;·have:=Ck hs X;omega
  exact i.wlt c u v l
 have N:∀ s' a,s'<6->a<aM c->(aE h.st c s j 2 c s' a=2↔((s'*aM c+a:Nat):Int)∈((s*aM c+j:Nat):Int)::nh h c):=λs' a k g=>by
  by_cases e:s'=s/\a=j;·obtain⟨rfl,rfl⟩:=e;rw [aO];simp
  rw [a_ _ _ (by rintro ⟨_,l,x⟩;exact e ⟨l,x⟩),i.wait c s' a u k g,FG];refine⟨.inr,λl=>?_⟩;rcases l with l|l;·have:=uk g X (show s'*aM c+a=s*aM c+j by omega);exact absurd this e
  exact l
 have hQ:∀ f,nh { bQ cf h c s j with st:=f } c=nq (M++F):=λf=>by
  rw [p];unfold nh;dsimp only;rw [ey,ey];rfl
 have O:∀ f b,b≠c->nh { bQ cf h c s j with st:=f } b=nh h b:=λf b q=>by
  rw [p];unfold nh;dsimp only;rw [gj _ _ q,gj _ _ q]
 have t:∀ f,(∀ b s' a,0<=f b s' a/\f b s' a<=4)->(∀ b s' a,b≠c->f b s' a=h.st b s' a)->(∀ s' a,s'<6->a<aM c->aZ (h.st c s' a)=true->dy h c s'=false->aZ (f c s' a)=true)->(∀ s' a,s'<6->a<aM c->(f c s' a=1↔h.st c s' a=1/\¬(s'=s/\a=j)))->(∀ s' a,s'<6->a<aM c->(f c s' a=2↔((s'*aM c+a:Nat):Int)∈nq (M++F)))->(nq (M++F)).Nodup->(∀ v∈nq (M++F),v<6*aM c)->Inv cf { bQ cf h c s j with st:=f }:=by
  intro f G A V B W a6 a7;refine⟨G,?_,?_,?_,?_,?_,?_,?_,?_,?_,?_,?_,?_,?_,?_,?_,?_,?_,?_,?_,?_⟩;·rw [p];exact Q.fine
  ·rw [p];exact Q.out
  ·rw [p];exact Q.slab
  ·intro b s' n k w a g;have o:dy h b s'=false:=by
    have e:dy { bQ cf h c s j with st:=f } b s'=dy h b s':=(by rw [p];exact cX _ _ _ _ _);rw [e] at w;exact w
   show aZ (f b s' a)=true;by_cases e:b=c;·subst e;exact V s' a k g (i.off b s' n k o a g) o
   rw [A b s' a e];exact i.off b s' n k o a g
  ·intro b s' a n k g;have e:({ bQ cf h c s j with st:=f } : Hs).rq=aE h.rq c s j 0:=(by rw [p]);rw [e];show (f b s' a=1->_)/\(f b s' a≠1->_);have y:=i.req b s' a n k g;by_cases e:b=c/\s'=s/\a=j;·obtain⟨rfl,rfl,rfl⟩:=e;rw [aO];refine⟨λl=>?_,λ_=>rfl⟩;exact absurd ⟨rfl,rfl⟩ ((B s' a k g).1 l).2
   rw [a_ _ _ e];by_cases o:b=c;·subst o;refine⟨λl=>y.1 ((B s' a k g).1 l).1,λl=>y.2 (λx=>l ((B s' a k g).2 ⟨x,λr=>e ⟨rfl,r⟩⟩))⟩
   rw [A b s' a o];exact y
  ·intro b n;have e:({ bQ cf h c s j with st:=f } : Hs).mx=ep h.mx c M:=(by rw [p]);rw [e];by_cases o:b=c;·subst o;rw [ey,w1];exact i.mxl b n
   rw [gj _ _ o];exact i.mxl b n
  ·intro b n;have e:({ bQ cf h c s j with st:=f } : Hs).ff=ep h.ff c F:=(by rw [p]);rw [e];by_cases o:b=c;·subst o;rw [ey];exact w2
   rw [gj _ _ o];exact i.ffl b n
  ·intro b n;have e:({ bQ cf h c s j with st:=f } : Hs).ff=ep h.ff c F:=(by rw [p]);rw [e];by_cases o:b=c;·subst o;rw [ey];exact w3
   rw [gj _ _ o];exact i.ffn b n
  ·intro b n;have e:({ bQ cf h c s j with st:=f } : Hs).mx=ep h.mx c M:=(by rw [p]);rw [e];by_cases o:b=c;·subst o;rw [ey];exact w4
   rw [gj _ _ o];exact i.mxn b n
  ·intro b s' a n k g;show f b s' a=2↔_;by_cases o:b=c;·subst o;rw [hQ];exact W s' a k g
   rw [O _ _ o,A b s' a o];exact i.wait b s' a n k g
  ·intro b n;by_cases o:b=c;·subst o;rw [hQ];exact a7
   rw [O _ _ o];exact i.wlt b n
  ·intro b n;by_cases o:b=c;·subst o;rw [hQ];exact a6
   rw [O _ _ o];exact i.wnd b n
  ·rw [p];exact i.rgs
  ·rw [p];exact i.apart
  ·rw [p];exact Q.big
  ·rw [p];exact Q.low
  ·rw [p];exact i.row
  ·rw [p];exact i.rownd
  ·rw [p];exact i.rowl
  rw [p];exact i.rel
 rw [<-oQ] at w5;rcases w5 with ⟨e1,A⟩|⟨e1,A⟩
 ·left;refine⟨e1,?_⟩;have:=t (aE h.st c s j 2) (λb s' a=>?_) (λb s' a q=>a_ _ _ (by rintro ⟨l,_⟩;exact q l)) (λs' a k g hf w=>?_) (λs' a k g=>?_) (λs' a k g=>(N s' a k g).trans A.mem_iff) (A.nodup_iff.1 S) (λv T=>L v (A.mem_iff.2 T));·rw [p] at this ⊢;exact this
  ·by_cases e:b=c/\s'=s/\a=j;·obtain⟨rfl,rfl,rfl⟩:=e;rw [aO];omega
   rw [a_ _ _ e];exact i.st b s' a
  ·by_cases e:c=c/\s'=s/\a=j;·obtain⟨_,rfl,rfl⟩:=e;rw [K] at w;cases w
   rw [a_ _ _ e];exact hf
  by_cases e:c=c/\s'=s/\a=j;·obtain⟨_,rfl,rfl⟩:=e;rw [aO];simp
  rw [a_ _ _ e];exact⟨λl=>⟨l,λx=>e ⟨rfl,x⟩⟩,λl=>l.1⟩
 right;have V:left∈((s*aM c+j:Nat):Int)::nh h c:=A.mem_iff.2 bF;have a9:=L left V;have hd:left.toNat/aM c<6:=Nat.div_lt_of_lt_mul (by rw [Gq];omega);have P:left.toNat%aM c<aM c:=Nat.mod_lt _ Z;have he:((left.toNat/aM c*aM c+left.toNat%aM c:Nat):Int)=left:=by
  rw [Nat.div_add_mod'];omega
 have n:aE h.st c s j 2 c (left.toNat/aM c) (left.toNat%aM c)=2:=(N _ _ hd P).2 (by rw [he];exact V);generalize left.toNat/aM c=o at *;generalize left.toNat%aM c=y at *;have B:dy h c o=true:=by
  by_cases e:c=c/\o=s/\y=j;·obtain⟨_,rfl,rfl⟩:=e;exact K
  rw [a_ _ _ e] at n;cases h9:dy h c o with
  | true=>rfl
  | false=>have:=i.off c o u hd h9 y P;rw [n] at this;simp [aZ] at this
 refine⟨o,y,e1,rfl,rfl,hd,P,B,?_⟩;have W:(bQ cf h c s j).st=aE h.st c s j 2:=by rw [p]
 rw [W];have G:=A.nodup_iff.1 S;have a8:=(Gr.1 G).1;refine t (aE (aE h.st c s j 2) c o y 3) (λb s' a=>?_) (λb s' a q=>?_) (λs' a k g hf w=>?_) (λs' a k g=>?_) (λs' a k g=>?_) (Gr.1 G).2 (λv T=>L v (A.mem_iff.2 (Hu _ T)))
 ·by_cases e:b=c/\s'=o/\a=y;·obtain⟨rfl,rfl,rfl⟩:=e;rw [aO];omega
  rw [a_ _ _ e];by_cases e:b=c/\s'=s/\a=j;·obtain⟨rfl,rfl,rfl⟩:=e;rw [aO];omega
  rw [a_ _ _ e];exact i.st b s' a
 ·rw [a_ _ _ (by rintro ⟨l,_⟩;exact q l),a_ _ _ (by rintro ⟨l,_⟩;exact q l)]
 ·by_cases e:c=c/\s'=o/\a=y;·obtain⟨_,rfl,rfl⟩:=e;rw [B] at w;cases w
  rw [a_ _ _ e];by_cases e:c=c/\s'=s/\a=j;·obtain⟨_,rfl,rfl⟩:=e;rw [K] at w;cases w
  rw [a_ _ _ e];exact hf
 ·by_cases e:c=c/\s'=o/\a=y;·obtain⟨_,rfl,rfl⟩:=e;rw [aO];refine⟨λl=>Z,λl=>?_⟩;rw [a_ _ _ (by rintro ⟨_,x⟩;exact l.2 x)] at n;omega
  rw [a_ _ _ e];by_cases e:c=c/\s'=s/\a=j;·obtain⟨_,rfl,rfl⟩:=e;rw [aO];simp
  rw [a_ _ _ e];exact⟨λl=>⟨l,λx=>e ⟨rfl,x⟩⟩,λl=>l.1⟩
 by_cases e:c=c/\s'=o/\a=y;·obtain⟨_,rfl,rfl⟩:=e;rw [aO,he];exact⟨λl=>Z,λl=>absurd l a8⟩
 rw [a_ _ _ e,N s' a k g,A.mem_iff,FG];refine⟨λl=>?_,.inr⟩;rcases l with l|l;·rw [<-he] at l;have:=uk g P (show s'*aM c+a=o*aM c+y by omega);exact absurd ⟨rfl,this⟩ e
 exact l
theorem Inv.fSlot (i:Inv cf h) (d:1<=cf.fifo) (g:c<12) (k:s<6) (l:j<aM c) (m:h.st c s j=1):Inv cf (aL cf h c s j):=by
 rw [dQ];rcases i.freed d g k l m with ⟨e,b⟩|⟨s',r,e,n,o,f,p,q,b⟩;·rw [Gv e];exact b
 rw [Gu Z,n,o];unfold bO;dsimp only;split
 ·rename_i a;exact b.drop g f (jW.1 a)
 exact b
theorem k_ {P:Nat->Bool} {k:Nat} (h:(List.range n).find? P=some k):k<n/\P k=true:=by
 rw [Ib] at h;exact⟨by simpa using h.2.1,h.1⟩
structure Stay (h h':Hs):Prop where
 live:∀ c s j,aZ (h.st c s j)=false->h'.st c s j=h.st c s j
 mem:∀ k,(h.m k).isSome=true->h'.m k=h.m k
 rq:h'.rq=h.rq
 mx:h'.mx=h.mx
 ff:h'.ff=h.ff
 rg:h'.rg=h.rg
 row:h'.row=h.row
 rel:h'.rel=h.rel
theorem Stay.refl (h):Stay h h:=⟨λ_ _ _ _=>rfl,λ_ _=>rfl,rfl,rfl,rfl,rfl,rfl,rfl⟩
theorem Stay.trans {a b c} (h:Stay a b) (k:Stay b c):Stay a c:=by
 refine⟨λx y z d=>?_,λp e=>?_,k.rq.trans h.rq,k.mx.trans h.mx,k.ff.trans h.ff,k.rg.trans h.rg,k.row.trans h.row,k.rel.trans h.rel⟩;·rw [k.live x y z (by rw [h.live x y z d];exact d),h.live x y z d]
 rw [k.mem p (by rw [h.mem p e];exact e),h.mem p e]
theorem Inv.room (i:Inv cf h) (f:c<12) {d:Hs} (a:dm cf h c=some (s,d)):s<6/\Inv cf d/\dy d c s=true/\0<(freeS d c s).length/\Stay h d/\d.used=h.used/\d.st=h.st:=by
 unfold dm at a;cases j:kj h c with
 | some b =>
  rw [j] at a;simp at a;obtain⟨rfl,rfl⟩:=a;obtain⟨d,e⟩:=k_ j;simp at e;refine⟨d,i,e.1,?_,Stay.refl _,rfl,rfl⟩;have:=e.2;exact List.length_pos_iff.2 this
 | none =>
  rw [j] at a;dsimp only at a;cases l:qO h c with
  | none=>rw [l] at a;cases a
  | some b =>
   rw [l] at a;dsimp only at a;split at a;·cases a
   simp at a;obtain⟨rfl,rfl⟩:=a;obtain⟨g,e⟩:=k_ l;simp at e;have q:=bd f;have n:dy { h with m:=aU h.m (aB c b) (dH c) } c b=true:=by
    unfold dy;show (aU h.m (aB c b) (dH c) (aB c b)).isSome=true;rw [cY,Gv Z];rfl
   refine⟨g,i.fresh f g,n,?_,⟨λ_ _ _ _=>rfl,λk o=>?_,rfl,rfl,rfl,rfl,rfl,rfl⟩,rfl,rfl⟩;·have:=jW.2 (i.off c b f g e);show 0<(freeS h c b).length;omega
   show aU h.m (aB c b) (dH c) k=h.m k;rw [cY,Gu];intro p;have:=i.slab c b f g (k-aB c b) Z;rw [show aB c b+(k-aB c b)=k by omega,o,e] at this;cases this
def dz (h:Hs) (c:Nat):Nat->Nat
 | 0=>0
 | s+1=>dz h c s+(freeS h c s).length
theorem iA (h c s):(freeS h c s).length<=aM c:=by
 unfold freeS;have:=GN (λj=>aZ (h.st c s j)) (List.range (aM c));simpa using this
theorem mc (h c):∀ s,dz h c s<=s*aM c
 | 0=>by simp [dz]
 | s+1=>by
  have:=mc h c s
  have a:=iA h c s
  simp only [dz]
  rw [Gj,Gl]
  omega
theorem nu {l:List Nat} {p q:Nat->Bool} (d:∀ a∈l,q a=true->p a=true) {a:Nat} (ha:a∈l) (j:p a=true) (k:q a=false):(l.filter q).length<(l.filter p).length:=by
 induction l with
 | nil=>cases ha
 | cons b r m =>
  have n:(r.filter q).length<=(r.filter p).length:=by
   rw [<-List.countP_eq_length_filter,<-List.countP_eq_length_filter];exact List.countP_mono_left (λx f h=>d x (Hu _ f) h)
  by_cases e:a=b;·subst e;rw [G8 j,If (by simp [k])];simp;omega
  have g:a∈r:=by simpa [e] using ha
  have:=m (λx f=>d x (Hu _ f)) g;by_cases i:q b=true;·rw [G8 i,G8 (d b bF i)];simp;omega
  rw [If i];by_cases c:p b=true;·rw [G8 c];simp;omega
  rw [If c];exact this
theorem uA (b:j<aM c) (d:aZ (h.st c s j)=true):(freeS { h with st:=aE h.st c s j 4 } c s).length<(freeS h c s).length:=by
 unfold freeS;refine nu (λk e a=>?_) (F0.2 b) d ?_
 ·by_cases e:k=j;·subst e;dsimp only at a;rw [aO] at a;cases a
  dsimp only at a;rw [a_ _ _ (by rintro ⟨_,_,h⟩;exact e h)] at a;exact a
 dsimp only;rw [aO];rfl
theorem jC {h:Hs} {c s j:Nat} (f:j<aM c) (g:aZ (h.st c s j)=true):∀ n,(n<=s->dz { h with st:=aE h.st c s j 4 } c n=dz h c n)/\(s<n->dz { h with st:=aE h.st c s j 4 } c n<dz h c n)
 | 0=>⟨λ_=>rfl,λh=>Z⟩
 | n+1=>by
  have b:=jC (s:=s) f g n
  have a:∀ s',s'≠s->freeS { h with st:=aE h.st c s j 4 } c s'=freeS h c s':=λs' d=>by
   unfold freeS
   apply List.filter_congr
   intro k _
   dsimp only
   rw [a_ _ _ (by rintro ⟨_,h,_⟩;exact d h)]
  simp only [dz]
  constructor
  ·intro i
   rw [b.1 Z,a n Z]
  intro i
  by_cases e:n=s
  ·subst e
   rw [b.1 Z]
   have:=uA (h:=h) (s:=n) f g
   omega
  have:=b.2 Z
  rw [a n e];omega
theorem oy (cf h) (a:0<n):dr cf h n<n:=by
 unfold dr;have b:=Ix (cf.ds[h.used]?.getD 0) (show ((n:Nat):Int)≠0 by omega);have c:=Ij (cf.ds[h.used]?.getD 0) (show (0:Int)<(n:Nat) by omega);omega
def dR (cf:Cf) (h:Hs) (c s:Nat):Nat:=(freeS h c s)[dr cf h (freeS h c s).length]?.getD 0
theorem oK (cf) (d:0<(freeS h c s).length):(freeS h c s)[dr cf h (freeS h c s).length]?=some (dR cf h c s)/\dR cf h c s<aM c/\aZ (h.st c s (dR cf h c s))=true:=by
 have e:=oy cf h d;have a:(freeS h c s)[dr cf h (freeS h c s).length]?=some (dR cf h c s):=by
  unfold dR;rw [Fj e];rfl
 refine⟨a,?_⟩;have b:=Fz a;unfold freeS at b;obtain⟨f,g⟩:=F_.1 b;exact⟨F0.1 f,g⟩
theorem ii (cf c) (f:Nat) (h:Hs):cr cf c (f+1) h=match dm cf h c with
  | none=>(none,h)
  | some (s,a)=>if clean a.m (aX c s (dR cf a c s)) (bX c) then (some (s,dR cf a c s),{ a with used:=a.used+1 })
   else cr cf c f { a with used:=a.used+1,st:=aE a.st c s (dR cf a c s) 4 }:=rfl
structure En (cf:Cf) (c:Nat) (h:Hs) (o:Option (Nat×Nat)) (h':Hs):Prop where
 inv:Inv cf h'
 stay:Stay h h'
 some:∀ s j,o=some (s,j)->s<6/\j<aM c/\dy h' c s=true/\aZ (h'.st c s j)=true/\aZ (h.st c s j)=true/\clean h'.m (aX c s j) (bX c)=true
theorem Inv.small {cf} {c:Nat} (o:c<12):∀ (f:Nat) {h:Hs},Inv cf h->En cf c h (cr cf c f h).1 (cr cf c f h).2/\(cr cf c f h).2.used<=h.used+f
 | 0,h,i=>⟨⟨i,Stay.refl _,λs j e=>by cases e⟩,Fe _⟩
 | f+1,h,i=>by
  rw [ii]
  cases z:dm cf h c with
  | none=>exact ⟨⟨i,Stay.refl _,λs j e=>by cases e⟩,iK⟩
  | some q =>
   obtain⟨s,b⟩:=q
   obtain⟨v,w,d,g,a,N,k⟩:=i.room o z
   obtain⟨_,x,l⟩:=oK cf g
   dsimp only
   generalize dR cf b c s=j at *
   split
   ·rename_i p
    refine⟨⟨w.used _,⟨a.live,a.mem,a.rq,a.mx,a.ff,a.rg,a.row,a.rel⟩,λs' m e=>?_⟩,iK⟩
    simp at e
    obtain⟨rfl,rfl⟩:=e
    refine⟨v,x,d,l,?_,p⟩
    rw [<-k];exact l
   have A:Inv cf { b with used:=b.used+1,st:=aE b.st c s j 4 }:=(w.used (b.used+1)).retire o v x l d
   obtain⟨r,t⟩:=Inv.small o f A
   have u:Stay b { b with used:=b.used+1,st:=aE b.st c s j 4 }:=by
    refine⟨λO s' m y=>?_,λ_ _=>rfl,rfl,rfl,rfl,rfl,rfl,rfl⟩;refine a_ _ _ ?_;rintro⟨rfl,rfl,rfl⟩;rw [l] at y;cases y
   refine⟨⟨r.inv,a.trans (u.trans r.stay),λs' m e=>?_⟩,?_⟩
   ·obtain⟨B,F,G,K,L,M⟩:=r.some s' m e;refine⟨B,F,G,K,?_,M⟩;rw [<-k];have n:aZ (aE b.st c s j 4 c s' m)=true:=L
    by_cases e:c=c/\s'=s/\m=j
    ·obtain⟨_,rfl,rfl⟩:=e;exact l
    rw [a_ _ _ e] at n;exact n
   dsimp only at t;omega
end
section
open Go.RowKit Go.Maps
theorem lw {W:World} {B:Nat} {d:Option Addr} {b f:Nat} {l:List Nat} (h:W.ownsRow B 23 1 (.slice d b f) l.length (Us l)):b=l.length/\∀ i,i<l.length->∃ g,d=some ⟨g,0,none⟩/\W.cell? ⟨g,i,none⟩=some (U ((l[i]?.getD 0:Nat):Int)):=by
 have j:b=l.length:=by
  obtain⟨a,c,e⟩:=aK h;injection e with _ k _
 subst j;refine⟨rfl,λi a=>?_⟩;obtain⟨g,e⟩:=cn h Z;subst e;refine⟨g,rfl,bC h i _ ?_⟩;simp [Us,a]
theorem wX (B:Nat) (o:Option Addr) (r s p:Nat) (l:List Nat) (W:World) (h:W.ownsRow B 23 1 (.slice o r s) l.length (Us l)) (v:l.length<=100000) :
  Calls prog 148 #[.slice o r s,U p] W λe w=>(∃ i:Int,e=.returned (I i)/\(decide (0<=i)=l.contains p))/\w=W:=by
 obtain⟨rfl,c⟩:=lw h;have x:=H c;clear c h;obtain⟨n,a⟩:∃ n,l.length=n:=⟨_,rfl⟩;rw [a] at v ⊢;have d:=H a;clear a;go_enter func148,ntmps148;go_wp2;go_loopw [8] (λi wr=>∃ k:Nat,k<=n/\i=I k/\wr=W/\Hid (∀ j,j<k->l[j]?.getD 0≠p)) (λi _=>n-(intOf i).toNat);case atStart=>exact ⟨0,Fs _,rfl,rfl,H (λj a=>Z)⟩
 case round =>
  obtain⟨k,F,rfl,rfl,t⟩:=hrel;by_cases b:k<n
  ·obtain⟨g,rfl,f⟩:=x.out k (by rw [d.out];exact b);have y:=H (show l[k]?.getD 0∈l by rw [Fj (by rw [d.out];exact b)];exact Ie _);generalize m:l[k]?.getD 0=q at *;have z:=H m;clear m;by_cases u:p=q;·subst u;go_wp2;go_ret;refine⟨⟨_,rfl,?_⟩,rfl⟩;rw [List.contains_iff_mem.2 y.out];simp
   have A:((p:Int)==(q:Int))=false:=bK;go_wp2;go_roundw
   case rel=>exact ⟨k+1,Z,aY,trivial,H (λj a=>by
    rcases Nat.lt_succ_iff_lt_or_eq.1 a with m|m;·exact t j m
    subst m;rw [z.out];exact λe=>u e.symm)⟩
   case measure=>simp [intOf];omega
  obtain rfl:k=n:=Z;go_wp2;go_ret;refine⟨⟨-1,rfl,?_⟩,rfl⟩;have:l.contains p=false:=by
   cases c:l.contains p with
   | false=>rfl
   | true =>
    exfalso;have g:=List.contains_iff_mem.1 c;obtain⟨j,a⟩:=GQ g;have f:=(Fl.1 a).1;exact t j (by rw [<-d.out];exact f) (by rw [a];rfl)
  rw [this];rfl
theorem qt (B:Nat) (b:Option Addr) (c d p:Nat) (l:List Nat) (W:World) (h:W.ownsRow B 23 1 (.slice b c d) l.length (Us l)) (g:l.length<=100000) :
  Calls prog 107 #[.slice b c d,U p] W λe j=>e=.returned (.bool (l.contains p))/\j=W:=by
 have a:=H (wX B b c d p l W h g);clear h;go_enter func107,ntmps107;go_wp2_with fail;refine (a).mono ?_;rintro e m ⟨⟨i,rfl,f⟩,rfl⟩;have k:=H f;clear f a;go_wp2;go_ret;rw [<-k.out];exact⟨rfl,rfl⟩
end
section
open Go.RowKit Go.Shelf Go.Maps
theorem ED (f:World) (a:Option Addr) (b c:Nat) (o:List Int) (e:IsRow .u8 f a b c o) (d:b<=1048576) (R gv tt W X Y k):B0 f a b c R gv tt W X Y k (λm=>m=2):=by
 intro m K Q q w u9 u10 u11 u12 u13 u14 u15 u16 u17 u18 u19 u20 u21 u22 u23 u24 u25 u26 u27 u28 u29 u32 u33 u34 u35 u36 u37 u38 u39 u40 u41 u42 u43 u44 u45 u46 u47 u48 u49 u50 u51 u52 u53 u54 u55 u56 u57 u58 u59 u60 u61 u62 u63 u64 u65 u66 u67 u68 u69 u70 u71 u72 u73 u74 u75 u76 u77 u78 u79 u80 u81 u82 u83 u84 u85 u86 u87 u88 u89 u90 u91 u92 u93 u94 u95 u96 u97 u98 u99 u100 u101 u102 u103 u104 u105 u106 u107 u108 u109 u110 u111 u112 u113 u114 u115 u116 u117 u118 u119 u120 u121 u122 u123 u124 u125 u126 u127 u128 u129 u130 u131 u132 u133 u134 u135 u136 u137 u138 u139 u140 u141 u142 u143 u144 u145 u146 u147 u148 z l i;have N:=H (λV (g:Rd f a b c R V V)=>ca f a b c o e d R V V g);have B:=H (λV (g:Rd f a b c R V V)=>cO f a b c o e d R V V g);have v:=H (λV (g:Rd f a b c R V V)=>bZ f a b c o e d R V V g);have F:=H (λn (j:n<=10000) V (g:Rd f a b c R V V)=>cW f a b c o e d R n j V V g);have G:=H cd;have x:=H u64_in;clear e;have y:=H i;clear i
 conv=>arg 2;whnf
 obtain rfl:=z;cases tt
 ·go_wp2_with fail;refine (v _ l.rd.at).mono ?_;rintro e t ⟨⟨u,p,s,rfl⟩,r⟩;have i:=H (l.next r);clear r l;go_wp2_with (refine eF i.x ?_;have j:=H (i.row 0 u 0 p s Z Z);generalize t.setRow X _=A at j ⊢;clear i);apply y.out;exact j
 ·go_wp2_with fail;refine (v _ l.rd.at).mono ?_;rintro e t ⟨⟨u,p,s,rfl⟩,r⟩;have i:=H (l.next r);clear r l;go_wp2_with (refine eF i.x ?_;have j:=H (i.row 0 u 0 p s Z Z);generalize t.setRow X _=A at j ⊢;clear i;obtain ⟨i,L,M,O,P,S⟩:=j.cells;have T:=j.fr 3);apply y.out;exact H (j.setA _ (by first|omega|exact (x _).1|(simp;done)) (by first|omega|exact (x _).2|(simp;done)))
theorem EH (g:World) (a:Option Addr) (c d:Nat) (A:List Int) (b:IsRow .u8 g a c d A) (f:c<=1048576) (R gv tt W X Y k):B0 g a c d R gv tt W X Y k (λm=>m=13):=by
 intro m K Q q w u9 u10 u11 u12 u13 u14 u15 u16 u17 u18 u19 u20 u21 u22 u23 u24 u25 u26 u27 u28 u29 u32 u33 u34 u35 u36 u37 u38 u39 u40 u41 u42 u43 u44 u45 u46 u47 u48 u49 u50 u51 u52 u53 u54 u55 u56 u57 u58 u59 u60 u61 u62 u63 u64 u65 u66 u67 u68 u69 u70 u71 u72 u73 u74 u75 u76 u77 u78 u79 u80 u81 u82 u83 u84 u85 u86 u87 u88 u89 u90 u91 u92 u93 u94 u95 u96 u97 u98 u99 u100 u101 u102 u103 u104 u105 u106 u107 u108 u109 u110 u111 u112 u113 u114 u115 u116 u117 u118 u119 u120 u121 u122 u123 u124 u125 u126 u127 u128 u129 u130 u131 u132 u133 u134 u135 u136 u137 u138 u139 u140 u141 u142 u143 u144 u145 u146 u147 u148 hm l e;have N:=H (λV (j:Rd g a c d R V V)=>ca g a c d A b f R V V j);have WD:=H (λV (j:Rd g a c d R V V)=>cO g a c d A b f R V V j);have RQ:=H (λV (j:Rd g a c d R V V)=>bZ g a c d A b f R V V j);have BY:=H (λn (T:n<=10000) V (j:Rd g a c d R V V)=>cW g a c d A b f R n T V V j);have US:=H cd;have HU:=H u64_in;clear b;have HK:=H e;clear e
 conv=>arg 2;whnf
 obtain rfl:=hm;obtain⟨o,p,s,t,x,y⟩:=l.cells;have z:=l.fr 0;go_wp2_with fail;have i:=H (l.setKd 6);clear l o p s t x y z;refine (N _ i.rd.at).mono ?_;rintro e a4 ⟨⟨B,a0,rfl⟩,r⟩;have b:=H (i.next r);clear r i;obtain⟨n,T,L⟩:∃ n:Nat,n<=24/\(B:Int)%24+1=(n:Int):=⟨B%24+1,Z,Z⟩;go_wp2_with fail;refine (BY n Z _ b.rd.at).mono ?_;rintro e a5 ⟨v,ys,rfl,M,l,G,r⟩;obtain⟨va,vb,vc,rfl⟩:=eW G;have O:=fP G;subst M;obtain rfl:=O;have F:=dV b.rd.g.size G;have i:=H (b.next r);have HB:=H F;have P:=H l;clear l;clear r G F L b;obtain⟨o,p,s,t,x,y⟩:=i.cells;have z:=i.fr 5;go_wp2_with fail;have b:=H (i.setD va vc ys HB P);clear i o p s t x y z;refine (N _ b.rd.at).mono ?_;rintro e a6 ⟨⟨S,a1,rfl⟩,r⟩;have i:=H (b.next r);clear r b;obtain⟨o,p,s,t,x,y⟩:=i.cells;have z:=i.fr 2;have L:=H (i.setP ((S:Int)%20) Z Z);by_cases a2:200<=k
 ·go_wp2_with fail;clear o p s t x y z;refine (N _ L.rd.at).mono ?_;rintro e a7 ⟨⟨F,a3,rfl⟩,r⟩;have G:=H (L.next r);clear r L;have hu:=ot ((F:Int)%12);go_wp2_with fail;refine (US _ _).mono ?_;rintro e a8 ⟨rfl,b⟩;have l:=H (G.below b);clear b G;generalize us ((F:Int)%12)=u at hu ⊢;go_wp2_with fail;refine (N _ l.rd.at).mono ?_;rintro e a9 ⟨⟨b0,G,rfl⟩,r⟩;have b:=H (l.next r);clear r l;obtain⟨o,p,s,t,x,y⟩:=b.cells;have z:=b.fr 2;go_wp2;apply HK.out;exact H (b.setP _ (by first|omega|exact (HU _).1|(simp;done)) (by first|omega|exact (HU _).2|(simp;done)))
 ·go_wp2;apply HK.out;exact L
end
end Go.Proofs.YtdngbppdomoenaaGreatDoor
