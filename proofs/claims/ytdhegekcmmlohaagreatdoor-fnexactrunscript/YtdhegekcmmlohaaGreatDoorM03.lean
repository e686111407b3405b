import Derived.Test.YtdhegekcmmlohaaGreatDoorM02
set_option linter.unusedVariables false
set_option linter.unusedSimpArgs false
set_option maxRecDepth 20000
set_option maxHeartbeats 8000000
namespace Go.Proofs.YtdhegekcmmlohaaGreatDoor
open Go.Proofs.Tryz Go.RowKit Go.Maps Go.Shelf Go.ChangeShapes Go.WideShapes Go.ChangeAt
section
variable {W w:World}{c j k n s s':Nat}{ms:List Int}{cf:Cf}{a:Option Addr}{h:Hs}{m:Nat->Option (Bool×List Int)}{x:Int}
theorem Da.keep{S M f V p ys}(h:Da S M f w p n ys)(a:Fr S M f f w V):Da S M f V p n ys:=by
 refine⟨h.1,λi j=>?_⟩;have⟨x,e,c,l,b,d,g⟩:=h.2 i j;refine⟨x,e,?_,FG l a.size,b,d,g⟩;unfold World.cell? at c⊢;rw[a.block _ l b d g];exact c
theorem wR(S M)(g:Nat)(bud f m p c)(a:Nat)(n d b)(j:Nat)(ys w)(h:Im S M 0 g bud f w)(u:Pg f m w)(ha:a<18446744073709551616)(o:Da S M f w d b ys)(s:b<=j):
  QA 221 #[J S 0,kf 5 p c a n d b j] w λe t=>e=QJ (.agg #[I (bZ g bud m 5 p c a n ys).2.1,C])/\tg S M g bud f (bZ g bud m 5 p c a n ys).1 w t:=by
 have v:bZ g bud m 5 p c a n ys=(if ci m a (ys.length:Int)=0 then ay m a ys ys.length else m,ci m a (ys.length:Int),[]):=by unfold bZ;rw[GO ar,GP rfl]
 rw[v,o.1];refine run_store S M g bud f m _ _ p c a n d b j w h u (λV i q r=>?_);by_cases l:ci m a (b:Int)=0
 ·rw[l,GP rfl];have⟨k,K,x,y,z⟩:=rS l;obtain rfl:b=k:=Z;have A:=yu S M 1 g bud f m a b j d ys V i q x s y (o.keep r) (λd o=>jR q (z d o)) (λW o r=>by
   have:=iz S M 1 g bud f m a (b:Nat) W o r ha;rwa [l]at this)
  refine((callsIn_wide (n:=5)).1 A).mono ?_;rintro e t⟨rfl,B,F,G⟩;exact⟨rfl,f,B,F,G⟩
 rw[GO l];refine(uQ S a _ b j d V (by simpa using l) (iz S M 1 g bud f m a b _ (i.alloc _) (q.alloc _) ha)).mono ?_;rintro e t⟨rfl,rfl⟩;exact⟨rfl,f,i.alloc _,q.alloc _,Fr.ofGrown (GZ _ _ none)⟩
theorem Ek(S M)(b:Nat)(bud f m kd)(p:Int)(c)(a:Nat)(n d dl)(j:Nat)(ys w)(h:Im S M 0 b bud f w)(o:Pg f m w)(l:∀k,b<=k->m k=none)(q:b<=4096)(ha:a<18446744073709551616)(s:p<=9223372036854775807)(x:Da S M f w d dl ys)(t:dl<=j):
  QA 221 #[J S 0,kf kd p c a n d dl j] w λe g=>∃v,e=QJ (.agg #[I (bZ b bud m kd p c a n ys).2.1,v])/\g.ownsRow w.heap.size 5 1 v (bZ b bud m kd p c a n ys).2.2.length (Ns .u8 (bZ b bud m kd p c a n ys).2.2)/\tg S M b bud f (bZ b bud m kd p c a n ys).1 w g:=by
 have i:∀(e:Ending)(g:QM),(bZ b bud m kd p c a n ys).2.2=[]->(e=QJ (.agg #[I (bZ b bud m kd p c a n ys).2.1,C])/\tg S M b bud f (bZ b bud m kd p c a n ys).1 w g)->∃v,e=QJ (.agg #[I (bZ b bud m kd p c a n ys).2.1,v])/\g.ownsRow w.heap.size 5 1 v (bZ b bud m kd p c a n ys).2.2.length (Ns .u8 (bZ b bud m kd p c a n ys).2.2)/\tg S M b bud f (bZ b bud m kd p c a n ys).1 w g:=by
  rintro e g u⟨rfl,r⟩;exact⟨_,rfl,by rw[u];exact⟨rfl,.inl ⟨rfl,rfl⟩⟩,r⟩
 by_cases r:kd=4;·subst r;exact y_ S M b bud f m p c a n d dl j ys w h o ha
 by_cases u:kd=5;·subst u;refine(wR S M b bud f m p c a n d dl j ys w h o ha x t).mono (λe g=>i e g ?_);unfold bZ;rw[GO ar,GP rfl]
 by_cases v:kd<0\/5<kd;·refine(yX S M b bud f m kd p c a n d dl j ys w h o v).mono (λe g=>i e g ?_);unfold bZ;rw[GO r,GO u,GP v]
 refine(Af S M b bud f m kd p c a n d dl j ys w h o l q s Z).mono (λe g=>i e g ?_);unfold bZ;rw[GO r,GO u,GO v];split<;>rfl
theorem nI(m)(p:Nat):∀k j,p+k<=j->aT m p k j=m j
 |0,j,h=>rfl
 |k+1,j,h=>by
  show dT (aT m p k) (p+k) _ j=m j
  rw[aW _ _ _ _ Z]
  exact nI m p k j Z
theorem pX(m)(p:Nat):∀k j,p+k<=j->bQ m p k j=m j
 |0,j,h=>rfl
 |k+1,j,h=>by
  show dT (bQ m p k) (p+k) _ j=m j
  rw[aW _ _ _ _ Z]
  exact pX m p k j Z
theorem wM(a:List Int)(i k:Nat)(x:Int)(b:k<a.length):(a.set i x).take (k+1)=(a.set i x).take k++[if k=i then x else a[k]?.getD 0]:=by
 rw[F_];congr 1;rw[Gr];by_cases h:i=k;·subst h;simp[b]
 rw[GO h,GO (λe=>h e.symm)];simp[b]
structure Lp(w:QM)(s o:Nat)(am:QP)(lm cm:Nat)(af:QP)(lf cf n:Nat)(k:Nat)(a:QP)(c:Nat)(ms:List Int)(W:QM):Prop where
 ob:W.heap[o]?=some (.cells #[.slice a k c,C,I n] 113)
 ow:Ow W (o+1) a c (ms.take k)
 s0:W.heap[s]?=some (.cells #[.slice am lm cm,.slice af lf cf,I n] 113)
 s1:W.heap[s+1]?=some (.cells #[C,C,I 0] 113)
 b:D w W
theorem Fg(h:k<=ms.length):(ms.take k).length=k:=bG
theorem Lp.next{o am lm cm af lf cf}(h:Lp w s o am lm cm af lf cf n k a c ms W)(q:w.heap.size=s)(r:s+1<o)(A:ms.length=lm)(B:k<lm)(t:lm<=16)(x:Int)(v:ms.take (k+1)=ms.take k++[x]):
  ∃e f b,QI 28 (.slice a k c) (Vl W.heap.size 1 1) (W.alloc (.cells #[I x] 3)) (.slice e (k+1) f) b/\QG b o 0 (.slice a k c)/\b.frozen? (Qz o 0)=false/\Lp w s o am lm cm af lf cf n (k+1) e f ms (b.setCell (Qz o 0) (.slice e (k+1) f)):=by
 have d:D W (W.alloc (.cells #[I x] 3)):=(Fu _ W).alloc (Fv _) _;have e0:=Fg (ms:=ms) (k:=k) Z;have F:=dO h.ob;have⟨e,f,b,p,l,i⟩:=kV (W.alloc (.cells #[I x] 3)) (o+1) a c (ms.take k) (some (Qz W.heap.size 0)) 1 1 [x] (h.ow.below d) rfl bH (.inr ⟨_,rfl,λj u g=>by
  cases j with
  |zero=>
   simp[Ns]at g;subst g;rw[show((Qz W.heap.size 0):Addr).add 0=(Qz W.heap.size 0)from rfl,GT _ _ _ _ _ _ (dD W _)];rfl
  |succ j=>simp[Ns]at g⟩) (by rw[e0];omega) (by have:=d.size;omega)
 rw[e0]at p;rw[<-v]at l;have m:=i.at (ae h.ob d) Z;have y:=i.at (ae h.s0 d) Z;have z:=i.at (ae h.s1 d) Z;refine⟨e,f,b,p,bJ m,GY _ _ _ _ _ m,⟨?_,?_,oZ y _ _ _ Z,oZ z _ _ _ Z,?_⟩⟩;·rw[Ic _ _ _ _ _ _ m];rfl
 ·exact l.but (S:=λk=>k=o) ((But.refl _ b).set _ _ _ rfl) (λg e=>by have:=(l.base g e).1;omega)
 exact((az h.b d).trans (i.below (by rw[q];have:=d.size;omega) (λg b=>Z))).setCell iM _
theorem uf(W base a c zs y)(h:Ow W base a c zs)(g:zs.length<=1000000)(i:base<=W.heap.size):
  ∃d e b,QI 28 (.slice a zs.length c) (Vl W.heap.size 1 1) (W.alloc (.cells #[I y] 3)) (.slice d (zs.length+1) e) b/\Ow b base d e (zs++[y])/\But (λk=>base<=k) W b:=by
 have f:D W (W.alloc (.cells #[I y] 3)):=(Fu _ W).alloc (Fv _) _;have⟨d,e,b,l,m,i⟩:=kV (W.alloc (.cells #[I y] 3)) base a c zs (some (Qz W.heap.size 0)) 1 1 [y] (h.below f) rfl bH (.inr ⟨_,rfl,λj u g=>by
  cases j with
  |zero=>
   simp[Ns]at g;subst g;rw[show((Qz W.heap.size 0):Addr).add 0=(Qz W.heap.size 0)from rfl,GT _ _ _ _ _ _ (dD W _)];rfl
  |succ j=>simp[Ns]at g⟩) Z (by have:=f.size;omega)
 exact⟨d,e,b,l,m,(But.ofBelow f).trans i⟩
theorem Sl.srcs{zs}(h:Sl w a zs):(a=none/\zs=[])\/∃b,a=some b/\∀j u,(Ns .i64 zs)[j]?=some u->w.cell? (b.add j)=some u:=by
 rcases h with h|⟨g,rfl,c⟩;·exact .inl h
 right;refine⟨_,rfl,λj v hv=>?_⟩;have b:j<(Ns .i64 zs).length:=by
  by_cases b:j<(Ns .i64 zs).length;·exact b
  rw[FJ Z]at hv;cases hv
 have:=c.cell j b;rw[hv]at this;have e:((Qz g 0):Addr).add j=(Qz g j):=by cases j<;>simp[Addr.add]
 rw[e];exact this
def B_(w:World)(n:Nat)(M F:List Int)(z:Int)(e:Ending)(w':World):Prop:=
 ∃i c1 j c2,e=.returned (.tuple #[wv i M.length c1 j F.length c2 (n:Nat),I z])/\Wt w' i M.length j F.length M F/\(i=none->c1=0)/\(j=none->c2=0)/\D w w'/\(∀g,i=some ⟨g,0,none⟩->w.heap.size<=g)/\(∀g,j=some ⟨g,0,none⟩->w.heap.size<=g)
theorem Lp.fin{o am lm cm af lf cf W2}(h:Lp w s o am lm cm af lf cf n lm a c ms W)(K:w.heap.size=s)(y:s+1<o)(v:ms.length=lm){a2 c2 F}(p:D W W2)(m:Ow W2 W.heap.size a2 c2 F):
  W2.heap[o]?=some (.cells #[.slice a lm c,C,I n] 113)/\(∀b,b=W2.setCell (Qz o 1) (.slice a2 F.length c2)\/b=(W2.setCell (Qz o 1) (.slice a2 F.length c2)).drew ->
   QG b o 0 (.slice a lm c)/\QG b o 1 (.slice a2 F.length c2)/\b.cell? (Qz o 2)=some (I n) /\
   b.heap[s+1]?=some (.cells #[C,C,I 0] 113) /\
   ∀f z,f=((b.setCell ⟨s+1,0,none⟩ (.slice a lm c)).setCell ⟨s+1,1,none⟩ (.slice a2 F.length c2)).setCell ⟨s+1,2,none⟩ (I n)\/f=(((b.setCell ⟨s+1,0,none⟩ (.slice a lm c)).setCell ⟨s+1,1,none⟩ (.slice a2 F.length c2)).setCell ⟨s+1,2,none⟩ (I n)).drew->B_ w n ms F z (QJ (.tuple #[.agg #[.slice a lm c,.slice a2 F.length c2,I n],I z])) f):=by
 have L:=dO h.ob;have q:=ae h.ob p;have A:=ae h.s1 p;have e:ms.take lm=ms:=by rw[<-v,G9]
 have l:=h.ow;rw[e]at l;refine⟨q,λb x=>?_⟩;have d:But (λk=>k=o) W2 b:=by
  rcases x with rfl|rfl;·exact(But.refl _ W2).set _ _ _ rfl
  exact((But.refl (λk=>k=o) W2).set _ _ _ rfl).drew
 have i:b.heap[o]?=some (.cells #[.slice a lm c,.slice a2 F.length c2,I n] 113):=by
  rcases x with rfl|rfl;·rw[Ic _ _ _ _ _ _ q];rfl
  show(W2.setCell (Qz o 1) _).heap[o]?=_;rw[Ic _ _ _ _ _ _ q];rfl
 refine⟨bJ i,bJ i,bJ i,d.at A Z,λf z B=>?_⟩;have j:But (λk=>k=s+1) b f:=by
  rcases B with rfl|rfl;·exact(((But.refl (λk=>k=s+1) b).set _ _ _ rfl).set _ _ _ rfl).set _ _ _ rfl
  exact((((But.refl (λk=>k=s+1) b).set _ _ _ rfl).set _ _ _ rfl).set _ _ _ rfl).drew
 have r:Sl f a ms:=(((l.below p).but d (λg e=>by have:=(l.base g e).1;omega)).but j (λg e=>by have:=(l.base g e).1;omega)).sl;have t:Sl f a2 F:=((m.but d (λg e=>by have:=(m.base g e).1;omega)).but j (λg e=>by have:=(m.base g e).1;omega)).sl;refine⟨a,c,a2,c2,by rw[v];rfl,⟨r,rfl,t,rfl⟩,l.cap0,m.cap0,?_,λg e=>by have:=(l.base g e).1;omega,λg e=>by have:=(m.base g e).1;have:=h.b.size;omega⟩;have u:=az h.b p;exact(u.trans (d.below (by have:=u.size;omega) (λg G=>Z))).trans (j.below (by have:=u.size;have:=d.size;omega) (λg G=>Z))
def xl(h:Hs):Prop:=∀c s j,0<=h.st c s j/\h.st c s j<=4
theorem vW(l:xl h)(m:c<12)(n:s<6):(jc h c s [1,2,4] 1062=[])↔(freeS h c s).length=aM c:=by
 unfold jc freeS;rw[IC];constructor
 ·intro g;have:((List.range (aM c)).filter λj=>be (h.st c s j))=List.range (aM c):=by
   rw[Il];intro j e;rw[Gh]at e;have⟨k,a,d⟩:=Oa m n e;have b:=g k (Gh.2 a);unfold dC at b;rw[d]at b;have f:=l c s j;unfold be;simp at b⊢;omega
  rw[this,GG]
 intro o k a;rw[Gh]at a;have d:∀j∈List.range (aM c),be (h.st c s j)=true:=by
  have:=List.length_filter_eq_length_iff.1 (by rw[o,GG]:((List.range (aM c)).filter λj=>be (h.st c s j)).length=(List.range (aM c)).length);exact this
 intro g;simp only[Gi,beq_iff_eq]at g;have⟨b,f,e⟩:=g;have p:=mj a;have i:=d (sA k).2.2 (Gh.2 (by rw[<-b];exact p.2.2));unfold dC at e;rw[b,f]at e;unfold be at i;simp at e i;omega
theorem yh(c:Nat)(W:QM)(d:c<12):QA 118 #[I c] W λe a=>e=QJ (I (dI c:Nat))/\D W a:=by
 refine(em (c:Int) W).mono ?_;rintro e a⟨rfl,b⟩;exact⟨cX (pU d),b⟩
theorem kw{P:Program}{b:Func}(h:b.results=#[])(a:Array QN)(w:QM):(results b a).run P w=.ok (.tuple #[]) w:=by
 simp[results,h]
theorem jF(m)(p:Nat):∀k j,p<=j->j<p+k->aT m p k j=some (false,List.replicate 1024 0)
 |0,j,a,b=>by omega
 |k+1,j,a,b=>by
  show dT (aT m p k) (p+k) _ j=_
  by_cases e:j=p+k
  ·subst e;rw[bV]
  rw[aW _ _ _ _ e];exact jF m p k j a Z
theorem jJ(m)(p:Nat):∀k j,j<p->aT m p k j=m j
 |0,j,h=>rfl
 |k+1,j,h=>by
  show dT (aT m p k) (p+k) _ j=m j
  rw[aW _ _ _ _ Z]
  exact jJ m p k j h
theorem cO(m p)(k j:Nat):aT m p k j=if p<=j/\j<p+k then some (false,List.replicate 1024 0)else m j:=by
 split;·rename_i h;exact jF m p k j h.1 h.2
 rename_i h;by_cases e:j<p;·exact jJ m p k j e
 exact nI m p k j Z
theorem rH(m)(p:Nat):∀k j,p<=j->j<p+k->bQ m p k j=none
 |0,j,a,b=>by omega
 |k+1,j,a,b=>by
  show dT (bQ m p k) (p+k) _ j=_
  by_cases e:j=p+k
  ·subst e;rw[bV]
  rw[aW _ _ _ _ e];exact rH m p k j a Z
theorem lC(m)(p:Nat):∀k j,j<p->bQ m p k j=m j
 |0,j,h=>rfl
 |k+1,j,h=>by
  show dT (bQ m p k) (p+k) _ j=m j
  rw[aW _ _ _ _ Z]
  exact lC m p k j h
theorem eb(m p)(k j:Nat):bQ m p k j=if p<=j/\j<p+k then none else m j:=by
 split;·rename_i h;exact rH m p k j h.1 h.2
 rename_i h;by_cases e:j<p;·exact lC m p k j e
 exact pX m p k j Z
theorem uX(m p x)(j:Nat):(dZ m p x j).isSome=(m j).isSome:=by
 unfold dZ;by_cases e:j=p/1024;·subst e;rw[bV,Option.isSome_map]
 rw[aW _ _ _ _ e]
theorem dj(m a ys):∀k j,(ay m a ys k j).isSome=(m j).isSome
 |0,j=>rfl
 |k+1,j=>by simp only[ay];rw[uX];exact dj m a ys k j
def Fine(m:Nat->Option (Bool×List Int)):Prop:=∀k q,m k=some q->q.1=false/\q.2.length=1024
theorem Fine.put(h:Fine m)(p x):Fine (dZ m p x):=by
 intro k q a;unfold dZ at a;by_cases e:k=p/1024
 ·subst e;rw[bV]at a;cases b:m (p/1024)with
  |none=>rw[b]at a;cases a
  |some r=>
   rw[b]at a;simp at a;subst a;have:=h _ _ b;exact⟨this.1,by simp[this.2]⟩
 rw[aW _ _ _ _ e]at a;exact h k q a
theorem Fine.store{m}(h:Fine m)(a ys):∀k,Fine (ay m a ys k)
 |0=>h
 |k+1=>(Fine.store h a ys k).put _ _
theorem Fine.fresh(h:Fine m)(p k:Nat):Fine (aT m p k):=by
 intro j q a;rw[cO]at a;split at a
 ·injection a with a;subst a;exact⟨rfl,Gc⟩
 exact h j q a
theorem Fine.gone(h:Fine m)(p k:Nat):Fine (bQ m p k):=by
 intro j q a;rw[eb]at a;split at a;·cases a
 exact h j q a
theorem Fine.open(h:Fine m)(k:Nat):isOpen (m k)=(m k).isSome:=by
 cases a:m k with
 |none=>rfl
 |some q=>obtain⟨l,b⟩:=q;have:=(h k _ a).1;simp at this;subst this;rfl
/-! slabs lie apart -/
theorem rj{d:Nat}(h:c<d)(b:d<12):yJ c+6*(dI c+1)<=yJ d:=by
 have a:∀d:Fin 12,∀c:Fin 12,c.val<d.val->yJ c.val+6*(dI c.val+1)<=yJ d.val:=by decide +kernel
 exact a ⟨d,b⟩ ⟨c,Z⟩ h
theorem ew{a:Nat}(f:c<12)(i:s<6)(d:a<12)(g:s'<6)(e:¬(c=a/\s=s')):aD c s+(dI c+1)<=aD a s'\/aD a s'+(dI a+1)<=aD c s:=by
 unfold aD;have j:s*(dI c+1)<=5*(dI c+1):=Gm _ Z;have k:s'*(dI a+1)<=5*(dI a+1):=Gm _ Z;rcases Ie c a with h|h|h;·have:=rj h d;omega
 ·subst h;rcases Ie s s' with b|b|b;·have:(s+1)*(dI c+1)<=s'*(dI c+1):=Gm _ b;rw[Gy,GF]at this;omega
  ·exact absurd ⟨rfl,b⟩ e
  have:(s'+1)*(dI c+1)<=s*(dI c+1):=Gm _ b;rw[Gy,GF]at this;omega
 have:=rj h f;omega
def nM(h:Hs)(c:Nat):List Int:=(h.mx c++h.ff c).filter λv=>decide (v ≠ -1)
structure Inv(cf:Cf)(h:Hs):Prop where
 st:xl h
 fine:Fine h.m
 out:∀k,283<=k->h.m k=none
 slab:∀c s,c<12->s<6->∀i,i<dI c->(h.m (aD c s+i)).isSome=dA h c s
 off:∀c s,c<12->s<6->dA h c s=false->∀j,j<aM c->be (h.st c s j)=true
 req:∀c s j,c<12->s<6->j<aM c->(h.st c s j=1->0<=h.rq c s j/\h.rq c s j<=eV c)/\(h.st c s j≠1->h.rq c s j=0)
 mxl:∀c,c<12->(h.mx c).length=cf.mix
 ffl:∀c,c<12->(h.ff c).length<=cf.fifo
 ffn:∀c,c<12->∀v∈h.ff c,0<=v
 mxn:∀c,c<12->∀v∈h.mx c,-1<=v
 wait:∀c s j,c<12->s<6->j<aM c->(h.st c s j=2↔((s*aM c+j:Nat):Int)∈nM h c)
 wlt:∀c,c<12->∀v∈nM h c,v<6*aM c
 wnd:∀c,c<12->(nM h c).Nodup
 rgs:∀r∈h.rg,187<=r.first/\r.first+r.ext<=283/\1<=r.guards/\r.guards<=3/\1<=r.pages/\(r.st=1/\1016<r.rq/\aR r.rq.toNat=r.pages\/r.st=2/\r.rq=0)
 apart:h.rg.Pairwise λa b=>a.first+a.ext<=b.first\/b.first+b.ext<=a.first
 big:∀k,187<=k->((h.m k).isSome=true↔∃r∈h.rg,r.st=1/\r.first+r.guards<=k/\k<r.first+r.guards+r.pages)
 low:∀k,k<187->(h.m k).isSome=true->∃c s,c<12/\s<6/\aD c s<=k/\k<aD c s+dI c
 row:∀b,b∈h.row↔∃r∈h.rg,r.st=2/\r.base=b
 rownd:h.row.Nodup
 rowl:h.row.length<=cf.large
 rel:∀b∈h.rel,b%1024=0/\187<=b/1024/\b/1024<283/\∀r∈h.rg,b/1024<r.first\/r.first+r.ext<=b/1024
theorem pB(cf c):nM (aP cf) c=[]:=by
 unfold nM aP;simp
theorem Inv.new(cf):Inv cf (aP cf):=by
 refine⟨λc s j=>⟨by simp[aP],by simp[aP]⟩,λk q g=>by simp[aP]at g,λk e=>rfl,λc s a d i o=>rfl,λc s a d p j f=>rfl,λc s j a d f=>⟨by simp[aP],λ_=>rfl⟩,λc a=>by simp[aP],λc a=>by simp[aP],λc a v hv=>by simp[aP]at hv,λc a v hv=>?_,λc s j a d f=>?_,λc a v hv=>?_,λc a=>?_,λr l=>by simp[aP]at l,by simp[aP],λk e=>by simp[aP],λk e m=>by simp[aP]at m,λb=>by simp[aP],by simp[aP],by simp[aP],λb n=>by simp[aP]at n⟩;·simp[aP]at hv;omega
 ·rw[pB];simp[aP]
 ·rw[pB]at hv;cases hv
 rw[pB];exact List.nodup_nil
theorem Inv.used(i:Inv cf h)(u:Nat):Inv cf {h with used:=u}:=
 ⟨i.st,i.fine,i.out,i.slab,i.off,i.req,i.mxl,i.ffl,i.ffn,i.mxn,i.wait,i.wlt,i.wnd,i.rgs,i.apart,i.big,i.low,i.row,i.rownd,i.rowl,i.rel⟩
theorem Inv.bytes(i:Inv cf h)(a ys)(n:Nat):Inv cf {h with m:=ay h.m a ys n}:=by
 have f:∀c s,dA {h with m:=ay h.m a ys n} c s=dA h c s:=λc s=>dj _ _ _ _ _
 refine⟨i.st,i.fine.store _ _ _,λk b=>?_,λc s d e j g=>?_,λc s d e l=>i.off c s d e ((f c s).symm.trans l),i.req,i.mxl,i.ffl,i.ffn,i.mxn,i.wait,i.wlt,i.wnd,i.rgs,i.apart,λk b=>?_,λk b o=>?_,i.row,i.rownd,i.rowl,i.rel⟩;·have:=dj h.m a ys n k;rw[i.out k b]at this;simpa using this
 ·rw[f];exact(dj _ _ _ _ _).trans (i.slab c s d e j g)
 ·have:=i.big k b;rw[<-dj h.m a ys n k]at this;exact this
 exact i.low k b ((dj h.m a ys n k)▸o)
theorem Inv.fresh{cf h}(i:Inv cf h){c s:Nat}(n:c<12)(p:s<6):Inv cf {h with m:=aT h.m (aD c s) (dI c)}:=by
 have v:=cD n p;have w:=aX n;have q:∀b s',b<12->s'<6->∀k,k<dI b->aT h.m (aD c s) (dI c) (aD b s'+k)=if b=c/\s'=s then some (false,List.replicate 1024 0)else h.m (aD b s'+k):=λb s' a d k g=>by
  rw[cO];by_cases e:b=c/\s'=s;·obtain⟨rfl,rfl⟩:=e;rw[GP Z,GP ⟨rfl,rfl⟩]
  rw[GO e,GO];have:=ew a d n p e;omega
 have l:∀b s',b<12->s'<6->dA {h with m:=aT h.m (aD c s) (dI c)} b s'=if b=c/\s'=s then true else dA h b s':=λb s' a d=>by
  have:=aX a;have r:=q b s' a d 0 Z;unfold dA;rw[GK]at r;show(aT h.m (aD c s) (dI c) (aD b s')).isSome=_;rw[r];split<;>rfl
 refine⟨i.st,i.fine.fresh _ _,λk g=>?_,λb s' a d j t=>?_,λb s' a d o=>?_,i.req,i.mxl,i.ffl,i.ffn,i.mxn,i.wait,i.wlt,i.wnd,i.rgs,i.apart,λk g=>?_,λk g u=>?_,i.row,i.rownd,i.rowl,i.rel⟩;·show aT h.m _ _ k=none;rw[cO,GO Z];exact i.out k g
 ·rw[l b s' a d];show(aT h.m _ _ _).isSome=_;rw[q b s' a d j t];split;·rfl
  exact i.slab b s' a d j t
 ·rw[l b s' a d]at o;split at o;·cases o
  exact i.off b s' a d o
 ·show(aT h.m _ _ k).isSome=true↔_;rw[cO,GO Z];exact i.big k g
 have f:(aT h.m (aD c s) (dI c) k).isSome=true:=u;rw[cO]at f;split at f;·rename_i e;exact⟨c,s,n,p,e.1,e.2⟩
 exact i.low k g f
theorem aS(f c s j v):aE f c s j v c s j=v:=by unfold aE;rw[GP ⟨rfl,rfl,rfl⟩]
theorem aU(f){a b:Nat}(v)(h:¬(a=c/\s'=s/\b=j)):aE f c s j v a s' b=f a s' b:=by unfold aE;rw[GO h]
theorem gy(f:Nat->Nat->Nat->Int){v:Int}(h:f c s j=v):aE f c s j v=f:=by
 funext a s' b;by_cases e:a=c/\s'=s/\b=j;·obtain⟨rfl,rfl,rfl⟩:=e;rw[aS,h]
 rw[aU _ _ e]
theorem jL:be x=true↔x=0\/x=3:=by unfold be;simp
theorem N7(a:j<n):(s*n+j)/n=s/\(s*n+j)%n=j:=by
 have b:0<n:=Z;constructor;·rw[GL,Nat.mul_add_div b,Nat.div_eq_of_lt a,GK]
 rw[GL,Nat.mul_add_mod,H4 a]
theorem uv{a:Nat}(e:j<n)(b:a<n)(h:s*n+j=s'*n+a):s=s'/\j=a:=by
 have c:=N7 (s:=s) e;have d:=N7 (s:=s') b;rw[h]at c;exact⟨c.1.symm.trans d.1,c.2.symm.trans d.2⟩
theorem Cz(a:s<6)(b:j<n):s*n+j<6*n:=by
 have:(s+1)*n<=6*n:=Gm _ a;rw[Gy,GF]at this;omega
theorem Inv.setSt(i:Inv cf h)(x:c<12)(y:s<6)(z:j<aM c)(v r:Int)(q:0<=v)(t:v<=4)(l:v≠2)(u:h.st c s j≠2)(m:be v=true\/dA h c s=true)(w:v=1->0<=r/\r<=eV c)(n:v≠1->r=0):Inv cf {h with st:=aE h.st c s j v,rq:=aE h.rq c s j r}:=by
 refine⟨λa s' b=>?_,i.fine,i.out,i.slab,λa s' d f p b g=>?_,λa s' b d f g=>?_,i.mxl,i.ffl,i.ffn,i.mxn,λa s' b d f g=>?_,i.wlt,i.wnd,i.rgs,i.apart,i.big,i.low,i.row,i.rownd,i.rowl,i.rel⟩
 all_goals(by_cases e:a=c/\s'=s/\b=j)
 ·obtain⟨rfl,rfl,rfl⟩:=e;show 0<=aE h.st a s' b v a s' b/\aE h.st a s' b v a s' b<=4;rw[aS];exact⟨q,t⟩
 ·show 0<=aE h.st c s j v a s' b/\aE h.st c s j v a s' b<=4;rw[aU _ _ e];exact i.st a s' b
 ·obtain⟨rfl,rfl,rfl⟩:=e;show be (aE h.st a s' b v a s' b)=true;rw[aS];rcases m with k|k;·exact k
  have o:dA h a s'=false:=p;rw[o]at k;cases k
 ·show be (aE h.st c s j v a s' b)=true;rw[aU _ _ e];exact i.off a s' d f p b g
 ·obtain⟨rfl,rfl,rfl⟩:=e;show(aE h.st a s' b v a s' b=1->0<=aE h.rq a s' b r a s' b/\aE h.rq a s' b r a s' b<=eV a)/\(aE h.st a s' b v a s' b≠1->aE h.rq a s' b r a s' b=0);rw[aS,aS];exact⟨w,n⟩
 ·show(aE h.st c s j v a s' b=1->0<=aE h.rq c s j r a s' b/\aE h.rq c s j r a s' b<=eV a)/\(aE h.st c s j v a s' b≠1->aE h.rq c s j r a s' b=0);rw[aU _ _ e,aU _ _ e];exact i.req a s' b d f g
 ·obtain⟨rfl,rfl,rfl⟩:=e;show aE h.st a s' b v a s' b=2↔_∈nM h a;rw[aS,<-i.wait a s' b d f g];exact⟨λe=>absurd e l,λe=>absurd e u⟩
 show aE h.st c s j v a s' b=2↔_∈nM h a;rw[aU _ _ e];exact i.wait a s' b d f g
theorem Inv.retire(i:Inv cf h)(b:c<12)(d:s<6)(e:j<aM c)(f:be (h.st c s j)=true)(a:dA h c s=true):Inv cf {h with st:=aE h.st c s j 4}:=by
 rw[jL]at f;have:=i.setSt b d e 4 0 Z Z Z Z (.inr a) Z (λ_=>rfl);rw[gy h.rq ((i.req c s j b d e).2 Z)]at this;exact this
theorem Inv.drop(i:Inv cf h)(o:c<12)(q:s<6)(v:∀j,j<aM c->be (h.st c s j)=true):Inv cf {h with m:=bQ h.m (aD c s) (dI c)}:=by
 have x:=cD o q;have y:=aX o;have r:∀d s',d<12->s'<6->∀k,k<dI d->bQ h.m (aD c s) (dI c) (aD d s'+k)=if d=c/\s'=s then none else h.m (aD d s'+k):=λd s' b f k l=>by
  rw[eb];by_cases e:d=c/\s'=s;·obtain⟨rfl,rfl⟩:=e;rw[GP Z,GP ⟨rfl,rfl⟩]
  rw[GO e,GO];have:=ew b f o q e;omega
 have n:∀d s',d<12->s'<6->dA {h with m:=bQ h.m (aD c s) (dI c)} d s'=if d=c/\s'=s then false else dA h d s':=λd s' b f=>by
  have:=aX b;have t:=r d s' b f 0 Z;unfold dA;rw[GK]at t;show(bQ h.m (aD c s) (dI c) (aD d s')).isSome=_;rw[t];split<;>rfl
 refine⟨i.st,i.fine.gone _ _,λk l=>?_,λd s' b f j u=>?_,λd s' b f p=>?_,i.req,i.mxl,i.ffl,i.ffn,i.mxn,i.wait,i.wlt,i.wnd,i.rgs,i.apart,λk l=>?_,λk l w=>?_,i.row,i.rownd,i.rowl,i.rel⟩
 ·show bQ h.m _ _ k=none;rw[eb];split;·rfl
  exact i.out k l
 ·rw[n d s' b f];show(bQ h.m _ _ _).isSome=_;rw[r d s' b f j u];split;·rfl
  exact i.slab d s' b f j u
 ·rw[n d s' b f]at p;split at p;·rename_i e;obtain⟨rfl,rfl⟩:=e;exact v
  exact i.off d s' b f p
 ·show(bQ h.m _ _ k).isSome=true↔_;rw[eb,GO Z];exact i.big k l
 have g:(bQ h.m (aD c s) (dI c) k).isSome=true:=w;rw[eb]at g;split at g;·cases g
 exact i.low k l g
/-! what a push does to the numbers that wait -/
def nq(l:List Int):List Int:=l.filter λv=>decide (v ≠ -1)
theorem oE(a b:List Int):nq (a++b)=nq a++nq b:=by unfold nq;rw[Hl]
theorem mI{a:List Int}(f:1<=n)(e:a.length<=n)(g:0<=x)(c:∀v∈a,0<=v):(cu n a x).1.length<=n/\(∀v∈(cu n a x).1,0<=v)/\(((cu n a x).2 = -1/\(x::a).Perm (cu n a x).1)\/(0<=(cu n a x).2/\(x::a).Perm ((cu n a x).2::(cu n a x).1))):=by
 unfold cu;by_cases h:a.length<n
 ·rw[GP h];refine⟨bG,λv hv=>?_,.inl ⟨rfl,?_⟩⟩
  ·rcases F8.1 hv with b|b;·exact c v b
   simp at b;omega
  exact(List.perm_append_comm (l₁:=a) (l₂:=[x])).symm
 rw[GO h];cases a with
 |nil=>simp at h;omega
 | cons y d=>
  refine⟨by simp at e h⊢;omega,λv hv=>?_,.inr ⟨c _ bH,?_⟩⟩
  ·rcases F8.1 hv with b|b;·exact c v (by simp at b⊢;exact .inr b)
   simp at b;omega
  show(x::y::d).Perm (y::(d++[x]));exact(List.Perm.swap y x d).trans (List.Perm.cons y (List.perm_append_comm (l₁:=d) (l₂:=[x])).symm)
theorem tG{a b:List Int}(h:a.Perm b):(nq a).Perm (nq b):=h.filter _
theorem tU{l:List Int}(h:∀v∈l,0<=v):nq l=l:=by
 unfold nq;rw[Il];intro v hv;have:=h v hv;simp;omega
theorem set_perm:∀(l:List Int)(i:Nat)(y x:Int),l[i]?=some y->(x::l).Perm (y::l.set i x)
 |[],i,y,x,h=>by simp at h
 |a::l,0,y,x,h=>by simp at h;subst h;exact List.Perm.swap a x l
 |a::l,i+1,y,x,h=>by
  simp at h
  have b:=set_perm l i y x h
  exact(List.Perm.swap a x l).trans ((List.Perm.cons a b).trans (List.Perm.swap y a _))
theorem rG{b c:List Int}{d}(z:1<=n)(l:c.length<=n)(F:0<=x)(e:∀v∈c,0<=v)(i:∀v∈b,-1<=v):(ed n b c x d).1.length=b.length/\(ed n b c x d).2.1.length<=n/\(∀v∈(ed n b c x d).2.1,0<=v)/\(∀v∈(ed n b c x d).1,-1<=v)/\(((ed n b c x d).2.2 = -1/\(x::nq (b++c)).Perm (nq ((ed n b c x d).1++(ed n b c x d).2.1)))\/(0<=(ed n b c x d).2.2/\(x::nq (b++c)).Perm ((ed n b c x d).2.2::nq ((ed n b c x d).1++(ed n b c x d).2.1)))):=by
 unfold ed;by_cases m:b=[]
 ·subst m;rw[GP rfl];have⟨o,j,p⟩:=mI z l F e;refine⟨rfl,o,j,?_,?_⟩
  ·intro v hv;cases hv
  dsimp only;rw[FV,FV,tU e,tU j];exact p
 rw[GO m];have G:0<b.length:=List.length_pos_iff.2 m;have K:md d b.length<b.length:=by
  unfold md;have f:=IP d (show((b.length:Nat):Int)≠0 by omega);have g:=IB d (show(0:Int)<(b.length:Nat) by omega);omega
 generalize md d b.length=k at*;obtain⟨y,q⟩:∃y,b[k]?=some y:=⟨_,Fy K⟩;have L:=i y (FM q);have f:=set_perm b k y x q;have A:∀v∈b.set k x,-1<=v:=λv hv=>by
  rcases List.mem_or_eq_of_mem_set hv with h|h;·exact i v h
  omega
 rw[q];simp only[Ht];by_cases g:y = -1
 ·rw[GP g];refine⟨bH,l,e,A,.inl ⟨rfl,?_⟩⟩;dsimp only;have e1:=tG f;have r:nq (y::b.set k x)=nq (b.set k x):=by subst g;rfl
  have s:nq (x::b)=x::nq b:=by unfold nq;rw[Hn bG]
  rw[r,s]at e1;rw[oE,oE];exact List.Perm.append_right (nq c) e1
 rw[GO g];have t:0<=y:=Z;have⟨o,j,p⟩:=mI (x:=y) z l t e;refine⟨bH,o,j,A,?_⟩;dsimp only;have e1:=tG f;have r:nq (y::b.set k x)=y::nq (b.set k x):=by unfold nq;rw[Hn bG]
 have s:nq (x::b)=x::nq b:=by unfold nq;rw[Hn bG]
 rw[r,s]at e1;rw[oE,oE,tU e,tU j];have B:(x::(nq b++c)).Perm (nq (b.set k x)++(y::c)):=by
  refine(List.Perm.append_right c e1).trans ?_;exact(List.perm_middle (a:=y) (l₁:=nq (b.set k x)) (l₂:=c)).symm
 rcases p with⟨u,w⟩|⟨u,w⟩;·exact .inl ⟨u,B.trans (List.Perm.append_left _ w)⟩
 refine .inr ⟨u,B.trans ((List.Perm.append_left _ w).trans ?_)⟩;exact List.perm_middle
theorem oO(h c):nM h c=nq (h.mx c++h.ff c):=rfl
theorem ka:(freeS h c s).length=aM c↔∀j,j<aM c->be (h.st c s j)=true:=by
 unfold freeS;constructor;·intro b j a;have:=List.length_filter_eq_length_iff.1 (by rw[b,GG]:((List.range (aM c)).filter λj=>be (h.st c s j)).length=(List.range (aM c)).length);exact this j (Gh.2 a)
 intro b;have:((List.range (aM c)).filter λj=>be (h.st c s j))=List.range (aM c):=by
  rw[Il];intro j a;exact b j (Gh.1 a)
 rw[this,GG]
def er(cf:Cf)(h:Hs)(c s j:Nat):Int:=(ed cf.fifo (h.mx c) (h.ff c) ((s*aM c+j:Nat):Int) ((if cf.mix=0 then 0 else dr cf h cf.mix:Nat):Int)).2.2
def bX(cf:Cf)(h:Hs)(c s j:Nat):Hs:=
 {h with m:=ay h.m (bh c s j) (List.replicate (cy c) 0) (cy c),st:=aE h.st c s j 2,rq:=aE h.rq c s j 0,used:=if cf.mix=0 then h.used else h.used+1,mx:=dB h.mx c (ed cf.fifo (h.mx c) (h.ff c) ((s*aM c+j:Nat):Int) ((if cf.mix=0 then 0 else dr cf h cf.mix:Nat):Int)).1,ff:=dB h.ff c (ed cf.fifo (h.mx c) (h.ff c) ((s*aM c+j:Nat):Int) ((if cf.mix=0 then 0 else dr cf h cf.mix:Nat):Int)).2.1}
theorem cW(cf h c s j):aL cf h c s j=if er cf h c s j = -1 then bX cf h c s j else bK (bX cf h c s j) c ((er cf h c s j).toNat/aM c) ((er cf h c s j).toNat%aM c):=by
 unfold aL er bX;by_cases a:cf.mix=0;·simp only[a,IM]
 simp only[a,IL];rfl
theorem cP(f c v):dB f c v c=v:=by unfold dB;rw[GP rfl]
theorem eF(f){d:Nat}(v)(h:d≠c):dB f c v d=f d:=by unfold dB;rw[GO h]
theorem Inv.freed(i:Inv cf h)(W:1<=cf.fifo)(u:c<12)(X:s<6)(V:j<aM c)(hl:h.st c s j=1):
  (er cf h c s j = -1/\Inv cf (bX cf h c s j)) \/
  (∃s' a,0<=er cf h c s j/\(er cf h c s j).toNat/aM c=s'/\(er cf h c s j).toNat%aM c=a/\s'<6/\a<aM c/\dA h c s'=true/\Inv cf {bX cf h c s j with st:=aE (bX cf h c s j).st c s' a 3}):=by
 have hz:=aX u;have Y:(0:Int)<=((s*aM c+j:Nat):Int):=Z;have⟨w1,w2,w3,w4,w5⟩:=rG (d:=((if cf.mix=0 then 0 else dr cf h cf.mix:Nat):Int)) W (i.ffl c u) Y (i.ffn c u) (i.mxn c u);have hL:er cf h c s j=(ed cf.fifo (h.mx c) (h.ff c) ((s*aM c+j:Nat):Int) ((if cf.mix=0 then 0 else dr cf h cf.mix:Nat):Int)).2.2:=rfl;have p:bX cf h c s j={h with m:=ay h.m (bh c s j) (List.replicate (cy c) 0) (cy c),st:=aE h.st c s j 2,rq:=aE h.rq c s j 0,used:=if cf.mix=0 then h.used else h.used+1,mx:=dB h.mx c (ed cf.fifo (h.mx c) (h.ff c) ((s*aM c+j:Nat):Int) ((if cf.mix=0 then 0 else dr cf h cf.mix:Nat):Int)).1,ff:=dB h.ff c (ed cf.fifo (h.mx c) (h.ff c) ((s*aM c+j:Nat):Int) ((if cf.mix=0 then 0 else dr cf h cf.mix:Nat):Int)).2.1}:=rfl;generalize ed cf.fifo (h.mx c) (h.ff c) ((s*aM c+j:Nat):Int) ((if cf.mix=0 then 0 else dr cf h cf.mix:Nat):Int)=r at*;generalize er cf h c s j=left at*;have⟨M,F,z⟩:=r;dsimp only at hL w1 w2 w3 w4 w5 p;subst hL;have P:=i.bytes (bh c s j) (List.replicate (cy c) 0) (cy c);have G:dA h c s=true:=by
  cases h9:dA h c s with
  |true=>rfl
  |false=>have:=i.off c s u X h9 j V;rw[hl]at this;simp[be]at this
 have Q:((s*aM c+j:Nat):Int)∉nM h c:=λO=>by
  have:=(i.wait c s j u X V).2 O;omega
 have R:(((s*aM c+j:Nat):Int)::nM h c).Nodup:=GI.2 ⟨Q,i.wnd c u⟩;have K:∀v∈((s*aM c+j:Nat):Int)::nM h c,v<6*aM c:=λv hv=>by
  rcases F4.1 hv with l|l;·have:=Cz X V;omega
  exact i.wlt c u v l
 have L:∀s' a,s'<6->a<aM c->(aE h.st c s j 2 c s' a=2↔((s'*aM c+a:Nat):Int)∈((s*aM c+j:Nat):Int)::nM h c):=λs' a k g=>by
  by_cases e:s'=s/\a=j;·obtain⟨rfl,rfl⟩:=e;rw[aS];simp
  rw[aU _ _ (by rintro⟨_,l,x⟩;exact e ⟨l,x⟩),i.wait c s' a u k g,F4];refine⟨.inr,λl=>?_⟩;rcases l with l|l;·have:=uv g V (show s'*aM c+a=s*aM c+j by omega);exact absurd this e
  exact l
 have hQ:∀f,nM {bX cf h c s j with st:=f} c=nq (M++F):=λf=>by
  rw[p];unfold nM;dsimp only;rw[cP,cP];rfl
 have N:∀f b,b≠c->nM {bX cf h c s j with st:=f} b=nM h b:=λf b q=>by
  rw[p];unfold nM;dsimp only;rw[eF _ _ q,eF _ _ q]
 have t:∀f,(∀b s' a,0<=f b s' a/\f b s' a<=4)->(∀b s' a,b≠c->f b s' a=h.st b s' a)->(∀s' a,s'<6->a<aM c->be (h.st c s' a)=true->dA h c s'=false->be (f c s' a)=true)->(∀s' a,s'<6->a<aM c->(f c s' a=1↔h.st c s' a=1/\¬(s'=s/\a=j)))->(∀s' a,s'<6->a<aM c->(f c s' a=2↔((s'*aM c+a:Nat):Int)∈nq (M++F)))->(nq (M++F)).Nodup->(∀v∈nq (M++F),v<6*aM c)->Inv cf {bX cf h c s j with st:=f}:=by
  intro f S A T B a5 a6 a7;refine⟨S,?_,?_,?_,?_,?_,?_,?_,?_,?_,?_,?_,?_,?_,?_,?_,?_,?_,?_,?_,?_⟩;·rw[p];exact P.fine
  ·rw[p];exact P.out
  ·rw[p];exact P.slab
  ·intro b s' n k w a g;have o:dA h b s'=false:=by
    have e:dA {bX cf h c s j with st:=f} b s'=dA h b s':=(by rw[p];exact dj _ _ _ _ _);rw[e]at w;exact w
   show be (f b s' a)=true;by_cases e:b=c;·subst e;exact T s' a k g (i.off b s' n k o a g) o
   rw[A b s' a e];exact i.off b s' n k o a g
  ·intro b s' a n k g;have e:({bX cf h c s j with st:=f}:Hs).rq=aE h.rq c s j 0:=(by rw[p]);rw[e];show(f b s' a=1->_)/\(f b s' a≠1->_);have y:=i.req b s' a n k g;by_cases e:b=c/\s'=s/\a=j;·obtain⟨rfl,rfl,rfl⟩:=e;rw[aS];refine⟨λl=>?_,λ_=>rfl⟩;exact absurd ⟨rfl,rfl⟩ ((B s' a k g).1 l).2
   rw[aU _ _ e];by_cases o:b=c;·subst o;refine⟨λl=>y.1 ((B s' a k g).1 l).1,λl=>y.2 (λx=>l ((B s' a k g).2 ⟨x,λr=>e ⟨rfl,r⟩⟩))⟩
   rw[A b s' a o];exact y
  ·intro b n;have e:({bX cf h c s j with st:=f}:Hs).mx=dB h.mx c M:=(by rw[p]);rw[e];by_cases o:b=c;·subst o;rw[cP,w1];exact i.mxl b n
   rw[eF _ _ o];exact i.mxl b n
  ·intro b n;have e:({bX cf h c s j with st:=f}:Hs).ff=dB h.ff c F:=(by rw[p]);rw[e];by_cases o:b=c;·subst o;rw[cP];exact w2
   rw[eF _ _ o];exact i.ffl b n
  ·intro b n;have e:({bX cf h c s j with st:=f}:Hs).ff=dB h.ff c F:=(by rw[p]);rw[e];by_cases o:b=c;·subst o;rw[cP];exact w3
   rw[eF _ _ o];exact i.ffn b n
  ·intro b n;have e:({bX cf h c s j with st:=f}:Hs).mx=dB h.mx c M:=(by rw[p]);rw[e];by_cases o:b=c;·subst o;rw[cP];exact w4
   rw[eF _ _ o];exact i.mxn b n
  ·intro b s' a n k g;show f b s' a=2↔_;by_cases o:b=c;·subst o;rw[hQ];exact a5 s' a k g
   rw[N _ _ o,A b s' a o];exact i.wait b s' a n k g
  ·intro b n;by_cases o:b=c;·subst o;rw[hQ];exact a7
   rw[N _ _ o];exact i.wlt b n
  ·intro b n;by_cases o:b=c;·subst o;rw[hQ];exact a6
   rw[N _ _ o];exact i.wnd b n
  ·rw[p];exact i.rgs
  ·rw[p];exact i.apart
  ·rw[p];exact P.big
  ·rw[p];exact P.low
  ·rw[p];exact i.row
  ·rw[p];exact i.rownd
  ·rw[p];exact i.rowl
  rw[p];exact i.rel
 rw[<-oO]at w5;rcases w5 with⟨e1,y⟩|⟨e1,y⟩
 ·left;refine⟨e1,?_⟩;have:=t (aE h.st c s j 2) (λb s' a=>?_) (λb s' a q=>aU _ _ (by rintro⟨l,_⟩;exact q l)) (λs' a k g hf w=>?_) (λs' a k g=>?_) (λs' a k g=>(L s' a k g).trans y.mem_iff) (y.nodup_iff.1 R) (λv hv=>K v (y.mem_iff.2 hv));·rw[p]at this⊢;exact this
  ·by_cases e:b=c/\s'=s/\a=j;·obtain⟨rfl,rfl,rfl⟩:=e;rw[aS];omega
   rw[aU _ _ e];exact i.st b s' a
  ·by_cases e:c=c/\s'=s/\a=j;·obtain⟨_,rfl,rfl⟩:=e;rw[G]at w;cases w
   rw[aU _ _ e];exact hf
  by_cases e:c=c/\s'=s/\a=j;·obtain⟨_,rfl,rfl⟩:=e;rw[aS];simp
  rw[aU _ _ e];exact⟨λl=>⟨l,λx=>e ⟨rfl,x⟩⟩,λl=>l.1⟩
 right;have S:left∈((s*aM c+j:Nat):Int)::nM h c:=y.mem_iff.2 bH;have a8:=K left S;have hd:left.toNat/aM c<6:=Nat.div_lt_of_lt_mul (by rw[GL];omega);have O:left.toNat%aM c<aM c:=Nat.mod_lt _ Z;have he:((left.toNat/aM c*aM c+left.toNat%aM c:Nat):Int)=left:=by
  rw[Nat.div_add_mod'];omega
 have n:aE h.st c s j 2 c (left.toNat/aM c) (left.toNat%aM c)=2:=(L _ _ hd O).2 (by rw[he];exact S);generalize left.toNat/aM c=o at*;generalize left.toNat%aM c=j1 at*;have A:dA h c o=true:=by
  by_cases e:c=c/\o=s/\j1=j;·obtain⟨_,rfl,rfl⟩:=e;exact G
  rw[aU _ _ e]at n;cases h9:dA h c o with
  |true=>rfl
  |false=>have:=i.off c o u hd h9 j1 O;rw[n]at this;simp[be]at this
 refine⟨o,j1,e1,rfl,rfl,hd,O,A,?_⟩;have T:(bX cf h c s j).st=aE h.st c s j 2:=by rw[p]
 rw[T];have B:=y.nodup_iff.1 R;have a0:=(GI.1 B).1;refine t (aE (aE h.st c s j 2) c o j1 3) (λb s' a=>?_) (λb s' a q=>?_) (λs' a k g hf w=>?_) (λs' a k g=>?_) (λs' a k g=>?_) (GI.1 B).2 (λv hv=>K v (y.mem_iff.2 (Ij _ hv)))
 ·by_cases e:b=c/\s'=o/\a=j1;·obtain⟨rfl,rfl,rfl⟩:=e;rw[aS];omega
  rw[aU _ _ e];by_cases e:b=c/\s'=s/\a=j;·obtain⟨rfl,rfl,rfl⟩:=e;rw[aS];omega
  rw[aU _ _ e];exact i.st b s' a
 ·rw[aU _ _ (by rintro⟨l,_⟩;exact q l),aU _ _ (by rintro⟨l,_⟩;exact q l)]
 ·by_cases e:c=c/\s'=o/\a=j1;·obtain⟨_,rfl,rfl⟩:=e;rw[A]at w;cases w
  rw[aU _ _ e];by_cases e:c=c/\s'=s/\a=j;·obtain⟨_,rfl,rfl⟩:=e;rw[G]at w;cases w
  rw[aU _ _ e];exact hf
 ·by_cases e:c=c/\s'=o/\a=j1;·obtain⟨_,rfl,rfl⟩:=e;rw[aS];refine⟨λl=>Z,λl=>?_⟩;rw[aU _ _ (by rintro⟨_,x⟩;exact l.2 x)]at n;omega
  rw[aU _ _ e];by_cases e:c=c/\s'=s/\a=j;·obtain⟨_,rfl,rfl⟩:=e;rw[aS];simp
  rw[aU _ _ e];exact⟨λl=>⟨l,λx=>e ⟨rfl,x⟩⟩,λl=>l.1⟩
 by_cases e:c=c/\s'=o/\a=j1;·obtain⟨_,rfl,rfl⟩:=e;rw[aS,he];exact⟨λl=>Z,λl=>absurd l a0⟩
 rw[aU _ _ e,L s' a k g,y.mem_iff,F4];refine⟨λl=>?_,.inr⟩;rcases l with l|l;·rw[<-he]at l;have:=uv g O (show s'*aM c+a=o*aM c+j1 by omega);exact absurd ⟨rfl,this⟩ e
 exact l
theorem Inv.fSlot(i:Inv cf h)(d:1<=cf.fifo)(g:c<12)(k:s<6)(l:j<aM c)(m:h.st c s j=1):Inv cf (aL cf h c s j):=by
 rw[cW];rcases i.freed d g k l m with⟨e,b⟩|⟨s',q,e,e1,n,f,o,p,b⟩;·rw[GP e];exact b
 rw[GO Z,e1,n];unfold bK;dsimp only;split
 ·rename_i a;exact b.drop g f (ka.1 a)
 exact b
theorem lr{P:Nat->Bool}(h:(List.range n).find? P=some k):k<n/\P k=true:=by
 rw[Iu]at h;exact⟨by simpa using h.2.1,h.1⟩
structure Stay(h h':Hs):Prop where
 live:∀c s j,be (h.st c s j)=false->h'.st c s j=h.st c s j
 mem:∀k,(h.m k).isSome=true->h'.m k=h.m k
 rq:h'.rq=h.rq
 mx:h'.mx=h.mx
 ff:h'.ff=h.ff
 rg:h'.rg=h.rg
 row:h'.row=h.row
 rel:h'.rel=h.rel
theorem Stay.refl(h):Stay h h:=⟨λ_ _ _ _=>rfl,λ_ _=>rfl,rfl,rfl,rfl,rfl,rfl,rfl⟩
theorem Stay.trans{a b c}(h:Stay a b)(k:Stay b c):Stay a c:=by
 refine⟨λx y z d=>?_,λp e=>?_,k.rq.trans h.rq,k.mx.trans h.mx,k.ff.trans h.ff,k.rg.trans h.rg,k.row.trans h.row,k.rel.trans h.rel⟩;·rw[k.live x y z (by rw[h.live x y z d];exact d),h.live x y z d]
 rw[k.mem p (by rw[h.mem p e];exact e),h.mem p e]
theorem Inv.room(i:Inv cf h)(f:c<12){d:Hs}(a:cJ cf h c=some (s,d)):s<6/\Inv cf d/\dA d c s=true/\0<(freeS d c s).length/\Stay h d/\d.used=h.used/\d.st=h.st:=by
 unfold cJ at a;cases j:NW h c with
 |some b=>
  rw[j]at a;simp at a;obtain⟨rfl,rfl⟩:=a;have⟨d,e⟩:=lr j;simp at e;refine⟨d,i,e.1,?_,Stay.refl _,rfl,rfl⟩;have:=e.2;exact List.length_pos_iff.2 this
 | none=>
  rw[j]at a;dsimp only at a;cases l:qS h c with
  |none=>rw[l]at a;cases a
  | some b=>
   rw[l]at a;dsimp only at a;split at a;·cases a
   simp at a;obtain⟨rfl,rfl⟩:=a;have⟨g,e⟩:=lr l;simp at e;have q:=aX f;have n:dA {h with m:=aT h.m (aD c b) (dI c)} c b=true:=by
    unfold dA;show(aT h.m (aD c b) (dI c) (aD c b)).isSome=true;rw[cO,GP Z];rfl
   refine⟨g,i.fresh f g,n,?_,⟨λ_ _ _ _=>rfl,λk o=>?_,rfl,rfl,rfl,rfl,rfl,rfl⟩,rfl,rfl⟩;·have:=ka.2 (i.off c b f g e);show 0<(freeS h c b).length;omega
   show aT h.m (aD c b) (dI c) k=h.m k;rw[cO,GO];intro p;have:=i.slab c b f g (k-aD c b) Z;rw[show aD c b+(k-aD c b)=k by omega,o,e]at this;cases this
def dy(h:Hs)(c:Nat):Nat->Nat
 |0=>0
 |s+1=>dy h c s+(freeS h c s).length
theorem iD(h c s):(freeS h c s).length<=aM c:=by
 unfold freeS;have:=Hb (λj=>be (h.st c s j)) (List.range (aM c));simpa using this
theorem mf(h c):∀s,dy h c s<=s*aM c
 |0=>by simp[dy]
 |s+1=>by
  have:=mf h c s
  have a:=iD h c s
  simp only[dy]
  rw[Gy,GF]
  omega
theorem N4{l:List Nat}{p q:Nat->Bool}(d:∀a∈l,q a=true->p a=true){a:Nat}(ha:a∈l)(j:p a=true)(k:q a=false):(l.filter q).length<(l.filter p).length:=by
 induction l with
 |nil=>cases ha
 | cons b r m=>
  have n:(r.filter q).length<=(r.filter p).length:=by
   rw[<-List.countP_eq_length_filter,<-List.countP_eq_length_filter];exact List.countP_mono_left (λx f h=>d x (Ij _ f) h)
  by_cases e:a=b;·subst e;rw[Hn j,Ix (by simp[k])];simp;omega
  have g:a∈r:=by simpa[e]using ha
  have:=m (λx f=>d x (Ij _ f)) g;by_cases i:q b=true;·rw[Hn i,Hn (d b bH i)];simp;omega
  rw[Ix i];by_cases c:p b=true;·rw[Hn c];simp;omega
  rw[Ix c];exact this
theorem uH(b:j<aM c)(d:be (h.st c s j)=true):(freeS {h with st:=aE h.st c s j 4} c s).length<(freeS h c s).length:=by
 unfold freeS;refine N4 (λk e a=>?_) (Gh.2 b) d ?_
 ·by_cases e:k=j;·subst e;dsimp only at a;rw[aS]at a;cases a
  dsimp only at a;rw[aU _ _ (by rintro⟨_,_,h⟩;exact e h)]at a;exact a
 dsimp only;rw[aS];rfl
theorem jE{h:Hs}{c s j:Nat}(f:j<aM c)(g:be (h.st c s j)=true):∀n,(n<=s->dy {h with st:=aE h.st c s j 4} c n=dy h c n)/\(s<n->dy {h with st:=aE h.st c s j 4} c n<dy h c n)
 |0=>⟨λ_=>rfl,λh=>Z⟩
 | n+1=>by
  have b:=jE (s:=s) f g n
  have a:∀s',s'≠s->freeS {h with st:=aE h.st c s j 4} c s'=freeS h c s':=λs' d=>by
   unfold freeS
   apply List.filter_congr
   intro k _
   dsimp only
   rw[aU _ _ (by rintro⟨_,h,_⟩;exact d h)]
  simp only[dy]
  constructor
  ·intro i
   rw[b.1 Z,a n Z]
  intro i
  by_cases e:n=s
  ·subst e
   rw[b.1 Z]
   have:=uH (h:=h) (s:=n) f g
   omega
  have:=b.2 Z
  rw[a n e];omega
theorem mW(cf h)(a:0<n):dr cf h n<n:=by
 unfold dr;have b:=IP (cf.ds[h.used]?.getD 0) (show((n:Nat):Int)≠0 by omega);have c:=IB (cf.ds[h.used]?.getD 0) (show(0:Int)<(n:Nat) by omega);omega
def du(cf:Cf)(h:Hs)(c s:Nat):Nat:=(freeS h c s)[dr cf h (freeS h c s).length]?.getD 0
theorem oH(cf)(d:0<(freeS h c s).length):(freeS h c s)[dr cf h (freeS h c s).length]?=some (du cf h c s)/\du cf h c s<aM c/\be (h.st c s (du cf h c s))=true:=by
 have e:=mW cf h d;have a:(freeS h c s)[dr cf h (freeS h c s).length]?=some (du cf h c s):=by
  unfold du;rw[Fy e];rfl
 refine⟨a,?_⟩;have b:=FM a;unfold freeS at b;have⟨f,g⟩:=Gk.1 b;exact⟨Gh.1 f,g⟩
theorem f_(cf c)(f:Nat)(h:Hs):bN cf c (f+1) h=match cJ cf h c with
  |none=>(none,h)
  |some (s,a)=>if clean a.m (bh c s (du cf a c s)) (cy c)then(some (s,du cf a c s),{a with used:=a.used+1})
   else bN cf c f {a with used:=a.used+1,st:=aE a.st c s (du cf a c s) 4}:=rfl
structure Ey(cf:Cf)(c:Nat)(h:Hs)(o:Option (Nat×Nat))(h':Hs):Prop where
 inv:Inv cf h'
 stay:Stay h h'
 some:∀s j,o=some (s,j)->s<6/\j<aM c/\dA h' c s=true/\be (h'.st c s j)=true/\be (h.st c s j)=true/\clean h'.m (bh c s j) (cy c)=true
theorem Inv.small{cf}{c:Nat}(o:c<12):∀(f:Nat){h:Hs},Inv cf h->Ey cf c h (bN cf c f h).1 (bN cf c f h).2/\(bN cf c f h).2.used<=h.used+f
 |0,h,i=>⟨⟨i,Stay.refl _,λs j e=>by cases e⟩,Fv _⟩
 | f+1,h,i=>by
  rw[f_]
  cases z:cJ cf h c with
  |none=>exact⟨⟨i,Stay.refl _,λs j e=>by cases e⟩,iM⟩
  | some q=>
   have⟨s,b⟩:=q
   have⟨v,w,d,g,a,N,k⟩:=i.room o z
   have⟨_,x,l⟩:=oH cf g
   dsimp only
   generalize du cf b c s=j at*
   split
   ·rename_i p
    refine⟨⟨w.used _,⟨a.live,a.mem,a.rq,a.mx,a.ff,a.rg,a.row,a.rel⟩,λs' m e=>?_⟩,iM⟩
    simp at e
    obtain⟨rfl,rfl⟩:=e
    refine⟨v,x,d,l,?_,p⟩
    rw[<-k];exact l
   have A:Inv cf {b with used:=b.used+1,st:=aE b.st c s j 4}:=(w.used (b.used+1)).retire o v x l d
   have⟨r,t⟩:=Inv.small o f A
   have u:Stay b {b with used:=b.used+1,st:=aE b.st c s j 4}:=by
    refine⟨λO s' m y=>?_,λ_ _=>rfl,rfl,rfl,rfl,rfl,rfl,rfl⟩;refine aU _ _ ?_;rintro⟨rfl,rfl,rfl⟩;rw[l]at y;cases y
   refine⟨⟨r.inv,a.trans (u.trans r.stay),λs' m e=>?_⟩,?_⟩
   ·have⟨B,F,G,K,L,M⟩:=r.some s' m e;refine⟨B,F,G,K,?_,M⟩;rw[<-k];have n:be (aE b.st c s j 4 c s' m)=true:=L
    by_cases e:c=c/\s'=s/\m=j
    ·obtain⟨_,rfl,rfl⟩:=e;exact l
    rw[aU _ _ e]at n;exact n
   dsimp only at t;omega
theorem lA{B:Nat}{d:QP}{b f:Nat}{l:List Nat}(h:W.ownsRow B 27 1 (.slice d b f) l.length (Us l)):b=l.length/\∀i,i<l.length->∃g,d=some (Qz g 0)/\W.cell? (Qz g i)=some (U ((l[i]?.getD 0:Nat):Int)):=by
 have hv:b=l.length:=by
  have⟨a,c,e⟩:=aK h;injection e with _ j _
 subst hv;refine⟨rfl,λi e=>?_⟩;have⟨g,j⟩:=cr h Z;subst j;refine⟨g,rfl,bC h i _ ?_⟩;simp[Us,e]
theorem wZ(B:Nat)(o:QP)(r s p:Nat)(l:List Nat)(W:QM)(h:W.ownsRow B 27 1 (.slice o r s) l.length (Us l))(v:l.length<=100000):
  QA 219 #[.slice o r s,U p] W λe w=>(∃i:Int,e=QJ (I i)/\(decide (0<=i)=l.contains p))/\w=W:=by
 obtain⟨rfl,c⟩:=lA h;have x:=H c;have⟨n,a⟩:=Qa l.length;rw[a]at v⊢;have d:=H a;go_enter func219,ntmps219;go_wp2;go_loopw [8] (λi wr=>∃k:Nat,k<=n/\i=I k/\wr=W/\Hid (∀j,j<k->l[j]?.getD 0≠p)) (λi _=>n-(intOf i).toNat);case atStart=>exact⟨0,FH _,rfl,rfl,H (λj a=>Z)⟩
 case round=>
  obtain⟨k,F,rfl,rfl,t⟩:=hrel;by_cases b:k<n
  ·obtain⟨g,rfl,f⟩:=x.out k (by rw[d];exact b);have y:=H (show l[k]?.getD 0∈l by rw[Fy (by rw[d];exact b)];exact Iw _);generalize m:l[k]?.getD 0=q at*;have z:=H m;by_cases u:p=q;·subst u;go_wp2;go_ret;refine⟨⟨_,rfl,?_⟩,rfl⟩;rw[List.contains_iff_mem.2 y];simp
   have A:((p:Int)==(q:Int))=false:=bG;go_wp2;go_roundw
   case rel=>exact⟨k+1,Z,aY,trivial,H (λj a=>by
    rcases Nat.lt_succ_iff_lt_or_eq.1 a with m|m;·exact t j m
    subst m;rw[z];exact λe=>u e.symm)⟩
   case measure=>exact QE
  obtain rfl:k=n:=Z;go_wp2;go_ret;refine⟨⟨-1,rfl,?_⟩,rfl⟩;have:l.contains p=false:=by
   cases c:l.contains p with
   |false=>rfl
   |true=>
    exfalso;have g:=List.contains_iff_mem.1 c;have⟨j,a⟩:=He g;have f:=(Fz.1 a).1;exact t j (by rw[<-d.out];exact f) (by rw[a];rfl)
  rw[this];rfl
theorem qw(B:Nat)(b:QP)(c d p:Nat)(l:List Nat)(W:QM)(h:W.ownsRow B 27 1 (.slice b c d) l.length (Us l))(g:l.length<=100000):
  QA 163 #[.slice b c d,U p] W λe j=>e=QJ (.bool (l.contains p))/\j=W:=by
 have a:=H (wZ B b c d p l W h g);clear h;go_enter func163,ntmps163;go_wp2_with fail;refine(a).mono ?_;rintro e m⟨⟨i,rfl,f⟩,rfl⟩;have k:=H f;clear f;go_wp2;go_ret;rw[<-k.out];exact QB
end
end Go.Proofs.YtdhegekcmmlohaaGreatDoor
