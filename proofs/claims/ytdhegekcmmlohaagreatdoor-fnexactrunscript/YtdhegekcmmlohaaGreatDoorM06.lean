import Derived.Test.YtdhegekcmmlohaaGreatDoorM04
set_option linter.unusedVariables false
set_option linter.unusedSimpArgs false
set_option maxRecDepth 20000
set_option maxHeartbeats 8000000
namespace Go.Proofs.YtdhegekcmmlohaaGreatDoor
open Go.Proofs.Tryz Go.RowKit Go.Maps Go.Shelf Go.ChangeShapes Go.WideShapes Go.ChangeAt
section
variable {W W':World}{B:Nat}{y:Ly}{d:Dy}{cf:Cf}{h:Hs}
theorem iV(x:Int)(a: -9223372036854775808<=x)(b:x<=9223372036854775807):IntKind.i64.wrap x=x:=by
 rw[Hh];omega
theorem n_(g)(a:Nat)(r W)(h:Lc g r W)(ha:a<18446744073709551616):
  QA 215 #[J g 0,U a] W λe W'=>e=QJ (.bool (decide (r.first<=a/1024)&&decide (a/1024<r.first+r.ext)))/\D W W':=by
 have n:=H (λV(b:V.heap=W.heap)=>iE g r V ⟨by unfold World.cell?;rw[b];exact h.c0,by unfold World.cell?;rw[b];exact h.c1,by unfold World.cell?;rw[b];exact h.c2,by unfold World.cell?;rw[b];exact h.c3,by unfold World.cell?;rw[b];exact h.c4,h.hf,h.hu,h.hp⟩);have⟨_,_,i,_,_,s,l,m⟩:=h;have t:r.ext<=18014398509482000:=by unfold Rg9.ext;omega
 have⟨p,b⟩:=Qb (a/1024);have o:p<18014398509481984:=Z;have d:=H (show(a:Int)/1024=(p:Int) by omega);rw[<-b];have j:Hid (∀c:QM,c.heap=W.heap->c.cell? (Qz g 2)=some (I r.first)/\c.heap=W.heap):=(λc k=>⟨by unfold World.cell?;rw[k];exact i,k⟩);generalize r.first=f at*
 generalize r.ext=x at*;have q:IntKind.i64.wrap ((f:Int)+(x:Int))=(f:Int)+(x:Int):=iV _ Z Z;clear l m i b;by_cases i:f<=p
 ·have k:(f:Int)<=(p:Int):=Z;rw[G8 i,Bool.true_and];go_enter func215,ntmps215;go_upto_region 2 with fail
  rw[d];clear i;refine rh (S:=λc=>c.cell? (Qz g 2)=some (I f)/\c.heap=W.heap) ?_;have b:=j.out _ rfl;refine pk 0 (I p) b ?_;refine pk 1 (J g 0) b ?_;refine pk 2 (J g 0) b ?_;refine pk 3 (J g 2) b ?_;refine pz 4 (I f) b ?_;refine pz 5 Ql b ?_;refine pk 6 Ql b ?_;refine pk 7 (I p) b ?_;refine pk 8 (J g 0) b ?_;refine pk 9 (J g 0) b ?_;refine pk 10 (J g 2) b ?_;refine pz 11 (I f) b ?_;refine pk 12 (J g 0) b ?_;refine po 13 λK' l=>?_;go_simp;refine(n W.drew rfl).mono ?_;rintro e u⟨rfl,rfl⟩;have m:=j.out W.drew.drew rfl;refine l _ _ ⟨m,?_⟩;clear b;have b:=m;clear l K';refine pz 14 (I ((f:Int)+(x:Int))) b ?_;refine pz 15 (.bool (decide ((p:Int)<(f:Int)+(x:Int)))) b ?_;refine pz 16 (.bool (decide ((p:Int)<(f:Int)+(x:Int)))) b ?_;refine pk 17 (.bool (decide ((p:Int)<(f:Int)+(x:Int)))) b ?_;refine bY ?_;clear b;go_wp2;go_ret;refine⟨?_,(Fu _ _).drew.drew⟩;show Ending.returned (.bool (decide ((p:Int)<(f:Int)+(x:Int))))=_;congr 2;exact decide_eq_decide.2 Z
 have k:(p:Int)<(f:Int):=Z;rw[GR i,Bool.false_and];go_enter func215,ntmps215;go_upto_region 2 with fail
 rw[d];clear i;refine rh (S:=λc=>c.cell? (Qz g 2)=some (I f)/\c.heap=W.heap) ?_;have b:=j.out _ rfl;refine pk 0 (I p) b ?_;refine pk 1 (J g 0) b ?_;refine pk 2 (J g 0) b ?_;refine pk 3 (J g 2) b ?_;refine pz 4 (I f) b ?_;refine pz 5 Qk b ?_;refine pk 6 Qk b ?_;refine ps 7 b ?_;refine ps 8 b ?_;refine ps 9 b ?_;refine ps 10 b ?_;refine ps 11 b ?_;refine ps 12 b ?_;refine ps 13 b ?_;refine ps 14 b ?_;refine ps 15 b ?_;refine pz 16 Qk b ?_;refine pk 17 Qk b ?_;refine bY ?_;clear b;go_wp2;go_ret;refine⟨?_,(Fu _ _).drew⟩;rfl
theorem ma(g k r W)(h:Lc g r W):
  QA 212 #[J g 0,I k] W λe W'=>e=QJ (kf k (r.first+r.guards:Nat) (r.pages:Nat) 0 0 none 0 0)/\D W W':=by
 have⟨_,_,d,i,j,s,t,w⟩:=h;have o:=H (show((r.first+r.guards:Nat):Int)=(r.first:Int)+(r.guards:Int) by omega);generalize r.first=f at*
 generalize r.guards=u at*;generalize r.pages=p at*;have⟨V,b⟩:=Qb (W.alloc (.cells #[I 0,I 0,I 0,U 0,I 0,C] 284));have l:D W V:=by rw[b];exact(Fu _ _).alloc (Fv _) _
 have X:=(show V.heap[W.heap.size]?=some (.cells #[I 0,I 0,I 0,U 0,I 0,C] 284) by rw[b];exact ao W _);have m:Hid (∀a,D W a->QG a g 2 (I f)/\QG a g 3 (I u)/\QG a g 4 (I p)):=λa k=>⟨NI k d,NI k i,NI k j⟩;have q:IntKind.i64.wrap ((f:Int)+(u:Int))=(f:Int)+(u:Int):=iV _ Z Z;have⟨n,c⟩:=y7 l X;go_enter func212,ntmps212;go_upto_region 1 with fail
 refine Eq.mp (congrArg _ b) ?_;have⟨X,b⟩:=Qb W.heap.size;rw[<-b]at c⊢;have d:=H b;refine rh (S:=λa=>QG a g 2 (I f)/\QG a g 3 (I u)/\QG a g 4 (I p)) ?_;have i:=m.out _ n.drew;iterate 15 (refine py i ?_;simp only[f0,f1,Nat.reduceAdd,lz,l0,ls])
 refine po 15 λK' j=>?_;refine Ih 284 _ _ rfl X _ rfl rfl 284 _ c E rfl mL ?_;have b:D W (V.drew.setRow X #[I k,I ((f:Int)+(u:Int)),I p,U 0,I 0,C]):=below_setRow n.drew (by rw[d];exact Fv _) _;refine j _ _ ⟨m _ b,?_⟩;refine bY ?_;have l:=aw (v:=V.drew) c #[I k,I ((f:Int)+(u:Int)),I p,U 0,I 0,C];go_wp2_with fail;refine fM l underlying284 ?_;rw[o];exact⟨rfl,b⟩
structure Bc(b r c s n cap:Nat)(on:Bool)(W:QM):Prop where
 d0:W.cell? (Qz b 0)=some (I c)
 d1:W.cell? (Qz b 1)=some (I s)
 d2:W.cell? (Qz b 2)=some (.bool on)
 d3:W.cell? (Qz b 3)=some (Vl r n cap)
theorem Bc.below{b r c s n cap on}(h:Bc b r c s n cap on W)(k:D W W'):Bc b r c s n cap on W':=⟨NI k h.d0,NI k h.d1,NI k h.d2,NI k h.d3⟩
theorem mz(b r g0 c s n cap on k W)(h:Bc b r c s n cap on W)(M:0<n)(a:Sc g0 b c s 0 W)(g:QG W r 0 (J g0 0)):
  QA 216 #[J b 0,I k] W λe W'=>e=QJ (kf k (aD c s:Nat) (dI c:Nat) 0 0 none 0 0)/\D W W':=by
 have t:=ca a.hc a.hs a.hj;have u:=cD a.hc a.hs;have i:=pU a.hc;have⟨z,w⟩:=y7 (λV(f:D W V)=>eI g0 b c s 0 V (a.below f)) (λV(f:D W V)=>eY (c:Nat) V (a.tb.ofBelow f));rw[i]at w;have m:=H (show((bh c s 0:Nat):Int)/1024=(aD c s:Nat) by unfold bh;omega);generalize j:bh c s 0=A at*;have B:A<=200000:=Z;generalize aD c s=q at*;generalize dI c=pc at*;have⟨l,_,_,p⟩:=h;have o:Hid (∀d,D W d->QG d b 0 (I c)/\QG d b 3 (Vl r n cap)/\QG d r 0 (J g0 0)):=λd k=>⟨NI k l,NI k p,NI k g⟩;clear l p g a t u i j;have⟨V,f⟩:=Qb (W.alloc (.cells #[I 0,I 0,I 0,U 0,I 0,C] 284));have a:D W V:=by rw[f];exact(Fu _ _).alloc (Fv _) _
 have X:=(show V.heap[W.heap.size]?=some (.cells #[I 0,I 0,I 0,U 0,I 0,C] 284) by rw[f];exact ao W _);have⟨j,p⟩:=y7 a X;have F:IntKind.i64.wrap ((A:Int)/1024)=(q:Int):=by rw[m];exact iV _ (by have:=m.out;omega) (by have:=m.out;omega)
 have G:IntKind.u64.wrap ((A:Int)/1024)=(A:Int)/1024:=dX _ Z Z;clear a X;go_enter func216,ntmps216;go_upto_region 1 with fail
 refine Eq.mp (congrArg _ f) ?_;clear f;have⟨X,a⟩:=Qb W.heap.size;rw[<-a]at p⊢;have K:=H a;clear a;refine rh (S:=λd=>QG d b 0 (I c)/\QG d b 3 (Vl r n cap)/\QG d r 0 (J g0 0)) ?_;have a:=o.out _ j.drew;iterate 7 (refine py a ?_;simp only[f0,f1,Nat.reduceAdd,lz,l0,ls])
 refine pk 10 (J b 0) a ?_;refine pk 11 (J b 0) a ?_;refine pk 12 (J b 0) a ?_;refine pz 13 (I c) a ?_;refine po 7 λK' g=>?_;go_simp;refine(z _ j.drew).mono ?_;rintro e l⟨rfl,x⟩;have t:D W l:=j.drew.trans (x.mono j.size);have u:=o.out _ t;have i:l.heap[X]?=some (.cells #[I 0,I 0,I 0,U 0,I 0,C] 284):=(x.block _ (ag (W:=V.drew) p)).trans p;refine g _ _ ⟨u,?_⟩;clear a;have a:=u;clear g K';refine pz 8 (U ((A:Int)/1024)) a ?_;refine pz 9 (I q) a ?_;refine po 14 λK' g=>?_
 go_simp;refine(w _ t).mono ?_;rintro e L⟨rfl,y⟩;rw[y];clear y L;refine g _ _ ⟨u,?_⟩;clear g K';refine py a ?_;simp only[f0,f1,Nat.reduceAdd,lz,l0,ls];refine po 16 λK' g=>?_;refine Ih 284 _ _ rfl X _ rfl rfl 284 _ i E rfl mL ?_;have y:D W (l.setRow X #[I k,I q,I pc,U 0,I 0,C]):=below_setRow t (by rw[K];exact Fv _) _;refine g _ _ ⟨o _ y,?_⟩;refine bY ?_;have L:=aw (v:=l) i #[I k,I q,I pc,U 0,I 0,C];go_wp2_with fail;refine fM L underlying284 ?_;exact⟨rfl,y⟩
theorem ul:(prog.info? 268).map (λi=>(i.zero,i.size,i.bytes))=some (some (.pointer none),1,8):=E
def tP(st:Nat->Int)(n:Nat):List Nat:=(List.range n).filter λj=>be (st j)
def Pt(g:Nat->Nat)(l:List Nat):List Value:=l.map λj=>J (g j) 0
theorem zb(a:Nat->Int)(n:Nat)(h:be (a n)=true):tP a (n+1)=tP a n++[n]:=by
 unfold tP;rw[Gs,Hl];simp[h]
theorem Bl(a:Nat->Int)(n:Nat)(h:be (a n)=false):tP a (n+1)=tP a n:=by
 unfold tP;rw[Gs,Hl];simp[h]
theorem zg(st n):(tP st n).length<=n:=by
 unfold tP;have:=Hb (λj=>be (st j)) (List.range n);simpa using this
theorem jB(h:Hs)(c s:Nat):tP (h.st c s) (aM c)=freeS h c s:=rfl
theorem pa(b r c s n cap on)(g:Nat->Nat)(m:Nat->Int)(W)(h:Bc b r c s n cap on W)(hn:n<=64)(d:∀j,j<n->QG W r j (J (g j) 0))(a:∀j,j<n->W.cell? ⟨g j,0,none⟩=some (I (m j))):
  QA 205 #[J b 0] W λe W'=>∃v,e=QJ v/\W'.ownsRow W.heap.size 268 1 v (tP m n).length (Pt g (tP m n))/\D W W':=by
 have⟨Q,o,t,w,y⟩:=G0 ul;have⟨_,_,_,d3⟩:=h;have⟨S,T⟩:=y7 d a;go_enter func205,ntmps205;go_wp2;go_loopw [3,11] (λv i wr=>∃k:Nat,k<=n/\i=I k/\Hid (wr.ownsRow W.heap.size 268 1 v (tP m k).length (Pt g (tP m k)))/\Hid (D W wr)) (λ_ i _=>n-(intOf i).toNat);case atStart=>exact⟨0,FH _,rfl,H ⟨rfl,.inl ⟨rfl,rfl⟩⟩,H (Fu _ _)⟩
 case round=>
  obtain⟨k,hk,rfl,z,j⟩:=hrel;obtain⟨va,vb,vc,rfl⟩:∃p l a,u3=.slice p l a:=by rcases z.2 with⟨rfl,_⟩|⟨g,d,a,rfl,_⟩<;>exact⟨_,_,_,rfl⟩
  by_cases p:k<n
  ·have d0:=NI j (S k p);have d1:=NI j (T k p);have V:=zg m k;have⟨A,M⟩:=y7 (zb m k) (Bl m k);generalize a:m k=x at*;generalize a:tP m k=q at*;have R:=H (show Pt g (q++[k])=Pt g q++[J (g k) 0] by simp[Pt]);generalize g k=G at*;by_cases N:x=0
   ·subst N;have⟨F,B,l⟩:=Qe (A rfl) (z.alloc (.cells #[J G 0] 268)) (j.alloc j.size (.cells #[J G 0] 268));go_wp2_with (at_builtin;refine Ib _ rfl _ _ 265 rfl W.heap.size 268 Q (.pointer none) 1 8 underlying265 o t w y rfl Z _ _ _ rfl B _ 1 1 [J G 0] rfl rfl ?hc ?h1c ?b1 ?b2 ?b3 ?_);(case hc=>exact ek _ _ _ _ bH);(case h1c=>intro u K;simp at K;subst K;rfl);(case b1=>unfold maxLen;omega);(case b2=>omega);(case b3=>exact l.size);intro X Y a d _;have f:=H (IT a (l.grown d l.size (cI B)));go_wp2;go_roundw;(case rel=>exact⟨k+1,Z,aY,H (by rw[F,FC,R];exact f.1),H f.2⟩);case measure=>exact QE
   have L:(x==0)=false:=(by simpa using N);by_cases O:x=3
   ·subst O;have⟨F,B,l⟩:=Qe (A rfl) (z.alloc (.cells #[J G 0] 268)) (j.alloc j.size (.cells #[J G 0] 268));go_wp2_with (at_builtin;refine Ib _ rfl _ _ 265 rfl W.heap.size 268 Q (.pointer none) 1 8 underlying265 o t w y rfl Z _ _ _ rfl B _ 1 1 [J G 0] rfl rfl ?hc ?h1c ?b1 ?b2 ?b3 ?_);(case hc=>exact ek _ _ _ _ bH);(case h1c=>intro u K;simp at K;subst K;rfl);(case b1=>unfold maxLen;omega);(case b2=>omega);(case b3=>exact l.size);intro X Y a d _;have f:=H (IT a (l.grown d l.size (cI B)));go_wp2;go_roundw;(case rel=>exact⟨k+1,Z,aY,H (by rw[F,FC,R];exact f.1),H f.2⟩);case measure=>exact QE
   have P:(x==3)=false:=(by simpa using O);have F:=H (M (by unfold be;rw[L,P];rfl));go_wp2;go_roundw;(case rel=>exact⟨k+1,Z,aY,H (by rw[F];exact z),j⟩);case measure=>exact QE
  obtain rfl:k=n:=Z;go_wp2;go_ret;exact⟨_,rfl,z,j⟩
def hI(t:TypeId):Prop:=t=154\/t=256\/t=288\/t=267\/t=272\/t=291\/t=261\/t=263\/t=3\/t=27
structure Bi(B:Nat)(W W':QM):Prop where
 bel:Below B W W'
 ky:Ky hI W W'
theorem Bi.refl(B W):Bi B W W:=⟨Fu _ _,Ky.refl _ _⟩
theorem Bi.trans{B a b c}(h:Bi B a b)(k:Bi B b c):Bi B a c:=⟨h.bel.trans k.bel,h.ky.trans k.ky⟩
theorem Bi.ofBelow(b:D W W')(a:B<=W.heap.size):Bi B W W':=⟨b.mono a,Ky.below b⟩
theorem Bi.add{V V'}(h:Bi B W V)(b:D V V')(a:B<=V.heap.size):Bi B W V':=h.trans (Bi.ofBelow b a)
theorem Bi.ofGrown{P:Nat}{c:Array QN}{t:QO}{f:Nat×Nat}(b:W.heap[P]?=some (.cells c t f))(d:hI t)(g:B<=P)(e:B<=W.heap.size)(a:W.grownBy W' (some P)):Bi B W W':=
 ⟨(Fu B W).grown a e (λr c=>by simp at c;omega),Ky.grown b d a⟩
def ip(code:Int):List PanicEntry:=[{v:=.iface 203 (.agg #[I code]),recovered:=false}]
theorem Hp.usedP(b:Hp B y d cf h W)(u:Nat):Hp B y d cf {h with used:=u} (W.setCell (Qz y.P 118) (I u)):=by
 have k:=b.box.kyS 118 (I u);have m:Below B W (W.setCell (Qz y.P 118) (I u)):=(Fu B W).grown (au (al W y.P) _ _) b.bW (λr n=>by simp at n;have:=b.ap.bP;omega);have o:=b.box.set 118 Z (I u);rw[uL]at o;have p:(W.setCell (Qz y.P 118) (I u)).heap[y.M]?=W.heap[y.M]?:=GQ _ _ _ _ (λe=>by
  have⟨c,i,_⟩:=b.box;obtain⟨a,⟨q,t,f,_⟩,_⟩:=b.sp.map;rw[e,i]at f;cases f)
 have v:(W.setCell (Qz y.P 118) (I u)).heap[y.R]?=W.heap[y.R]?:=GQ _ _ _ _ (λe=>by
  have⟨c,i,_⟩:=b.box;have⟨q,t,f⟩:=b.mp.typ;rw[e,i]at f;cases f)
 exact⟨b.ap,Fx b.bW m.size,o,b.ds.belowB m b.ap.da,b.sp.ky k ar p,b.pg.ky k ar,b.bf,
 λc s a l=>k.cells _ _ _ _ (b.sl c s a l) ar,λc s a l=>cL (b.rw c s a l) k ar,λc s j a l w=>k.cells _ _ _ _ (b.sm c s j a l w) ar,
 λc a=>(b.wt c a).ky k ar ar ar,b.mp.same v,b.lo,λr n=>by obtain⟨g,i,f,x⟩:=b.lb r n;exact⟨g,i,f,k.cells _ _ _ _ x ar⟩,b.li,b.ro.ky k ar,ai b.rl k ar,b.rr,b.tb.belowB m b.ap.b0⟩
theorem Hp.bi118(a:Hp B y d cf h W)(i:Nat)(v:QN):Bi B W (W.setCell (Qz y.P i) v):=by
 have⟨c,b,_⟩:=a.box;exact Bi.ofGrown b (.inl rfl) a.ap.bP a.bW (au (al W y.P) _ _)
theorem oL(B y d cf h)(n:Nat)(W)(b:Hp B y d cf h W)(o:1<=n)(s:n<=1000000)(p:h.used<=1000000)(v:cf.ds.length<=20000):
  QA 206 #[J y.P 0,I n] W λe W'=>e=QJ (I (dr cf h n:Nat))/\Hp B y d cf {h with used:=h.used+1} W'/\Bi B W W':=by
 have c:W.cell? (Qz y.P 118)=some (I h.used):=b.cell 118 Z _ rfl;have t:W.cell? (Qz y.P 5)=some (.slice y.da cf.ds.length y.dc):=b.cell 5 Z _ rfl;have f118:W.frozen? (Qz y.P 118)=false:=b.box.free 118;have f:((h.used+1:Nat):Int)=(h.used:Int)+1:=Z;have⟨i,a⟩:=y7 (b.usedP (h.used+1)) (b.bi118 118 (I (h.used+1:Nat)));rw[f]at i a;by_cases f:h.used<cf.ds.length
 ·have⟨g,j,r⟩:=b.ds.cells h.used f;rw[j]at t;have k:Hid (dr cf h n=md (cf.ds[h.used]?.getD 0) n):=rfl;generalize cf.ds[h.used]?.getD 0=q at k r;have M:=H (λW'=>iA q n W' o Z);generalize cf.ds.length=l at*;generalize m:h.used=us at c r f i a p;have j:(us:Int)<(l:Int):=Z;go_enter func206,ntmps206;go_wp2;go_region;go_wp2;go_region;go_wp2_with fail;refine(M _).mono ?_;rintro e u⟨rfl,rfl⟩;go_wp2;go_ret;refine⟨?_,i.below (Fu _ _).drew.drew,⟨a.bel.os,a.bel.tape,a.bel.output,a.bel.size,a.bel.block⟩,⟨a.ky.os,a.ky.tape,a.ky.output,a.ky.size,a.ky.cells⟩⟩;rw[k];rfl
 have k:=H (show dr cf h n=md 0 n by unfold dr md;rw[FJ Z];rfl);have M:=H (λW'=>iA 0 n W' o Z);generalize cf.ds.length=l at*;generalize m:h.used=us at c f i a p;have j:¬((us:Int)<(l:Int)):=Z;go_enter func206,ntmps206;go_wp2;go_region;go_wp2_with fail;refine(M _).mono ?_;rintro e u⟨rfl,rfl⟩;go_wp2;go_ret;refine⟨?_,i.below (Fu _ _).drew,⟨a.bel.os,a.bel.tape,a.bel.output,a.bel.size,a.bel.block⟩,⟨a.ky.os,a.ky.tape,a.ky.output,a.ky.size,a.ky.cells⟩⟩;rw[k];rfl
theorem Fr.kt{S M st n bud f f' m}(d:Im S M st n bud f W)(i:Pg f m W)(h:Fr S M f f' W W'):Ky (λt=>t=256\/t=288) W W':=by
 refine⟨h.os,h.tape,h.output,h.size,λg c t o b e=>?_⟩;rw[h.block g (ag b) ?_ ?_ ?_];·exact b
 ·rintro rfl;rw[d.box]at b;simp at b;exact e (.inl b.2.1.symm)
 ·rintro rfl;obtain⟨a,⟨k,l,j,_⟩,_⟩:=d.map;rw[j]at b;cases b
 intro k a;rcases i.at' k with⟨e1,_⟩|⟨p,l,q,e1,_,_,j⟩;·rw[a]at e1;cases e1
 rw[a]at e1;cases e1;rw[j]at b;simp at b;exact e (.inr b.2.1.symm)
theorem Hp.space{f' m'}(a:Hp B y d cf h W)(v:Im y.S y.M 0 283 (cf.bud:Nat) f' W')(w:Pg f' m' W')(b:Fr y.S y.M d.f f' W W'):
  Hp B y {d with f:=f'} cf {h with m:=m'} W'/\Bi B W W':=by
 have k:=b.kt a.sp a.pg;have q:Below B W W':=⟨b.os,b.tape,b.output,b.size,λg t=>b.block g (FG t a.bW) (by have:=a.ap.bS;omega) (by have:=a.ap.bM;omega) (λj n=>by have:=a.bf j g n;omega)⟩;have x:W'.heap[y.R]?=W.heap[y.R]?:=by
  have⟨i,p,o⟩:=a.mp.typ;refine b.block _ (ag o) (λe=>?_) (λe=>a.ap.mr e.symm) (λj n=>?_);·rw[e,a.sp.box]at o;cases o
  rcases a.pg.at' j with⟨e1,_⟩|⟨r,l,s,e1,_,_,c⟩;·rw[n]at e1;cases e1
  rw[n]at e1;cases e1;rw[c]at o;cases o
 refine⟨⟨a.ap,Fx a.bW q.size,a.box.ky k ar,a.ds.belowB q a.ap.da,v,w,λj g n=>?_,
 λc s l p=>?_,λc s l p=>cL (a.rw c s l p) k ar,λc s j l p n=>k.cells _ _ _ _ (a.sm c s j l p n) ar,
 λc l=>(a.wt c l).ky k ar ar ar,a.mp.same x,a.lo,λr z=>by obtain⟨g,A,o,F⟩:=a.lb r z;exact⟨g,A,o,k.cells _ _ _ _ F ar⟩,a.li,a.ro.ky k ar,ai a.rl k ar,a.rr,a.tb.belowB q a.ap.b0⟩,q,k.more (λt i=>by unfold hI;rcases i with e|e<;>simp[e])⟩
 ·rcases b.made j g n with⟨i,u⟩|G;·exact a.bf i g u
  exact Fx a.bW G
 exact k.cells _ _ _ _ (a.sl c s l p) ar
end
def fw(code:Int):List PanicEntry:=[{v:=.iface 203 (.agg #[I code]),recovered:=false}]
structure Rn9(P X2 X3 X4:Nat)(kd ref:Int)(p a b:Nat)(d:QP)(dl dc:Nat)(Q:QM->Prop)(N:Int->QM->Prop)(post:Ending->QM->Prop):Prop where
 x2:∀V,Q V->V.cell? (Qz X2 0)=some (J P 0)
 x3:∀V,Q V->V.heap[X3]?=some (.cells #[I kd,I ref,U p,U a,U b,.slice d dl dc] 48)
 x4:∀V,Q V->V.heap[X4]?=some Qt
 qd:∀V,Q V->Q V.drew
 id:∀V,CallsD prog 96 #[J X2 0,J X4 0] .returning V λe u' W'=>e=QJ (.tuple #[])/\u'=.returning/\W'=V
 no:∀code V,N code V->CallsD prog 96 #[J X2 0,J X4 0] (.panicking (fw code)) V λe u W'=>e=QJ (.tuple #[])/\u=.panicking [{v:=.iface 203 (.agg #[I code]),recovered:=true}]/\∃r1 r2 r3 r4,W'.heap[X4]?=some (.cells #[r1,r2,r3,r4] 46)/\post (QJ (.agg #[r1,r2,r3,r4])) W'
theorem Rn9.cell{P X2 X3 X4 kd ref p a b d dl dc Q N post}(r:Rn9 P X2 X3 X4 kd ref p a b d dl dc Q N post){V:QM}(h:Q V):
  V.cell? (Qz X2 0)=some (J P 0)/\V.cell? (Qz X3 0)=some (I kd)/\V.cell? (Qz X3 1)=some (I ref)/\V.cell? (Qz X3 2)=some (U p)/\V.cell? (Qz X3 3)=some (U a)/\V.cell? (Qz X3 4)=some (U b)/\V.cell? (Qz X3 5)=some (.slice d dl dc):=by
 have c:=r.x3 V h;refine⟨r.x2 V h,?_,?_,?_,?_,?_,?_⟩<;>(rw[GT _ _ _ _ _ _ c];rfl)
theorem eT{P:Program}{e:Func}{t j:Array QN}{R:Ending->QM->Prop}(g:results e t=results e j):∀(a:List Deferred)(u:FrameMode)(w:QM),Leaves P e t R a u w->Leaves P e j R a u w
 |[],.returning,w,⟨v,b,f⟩=>⟨v,by rw[<-g];exact b,f⟩
 |[],.panicking c,w,h=>h
 |[],.run,w,h=>h
 | d::a,u,w,⟨k,fv,i,f,b,e1,l,h⟩=>⟨k,fv,i,f,b,e1,l,h.mono (λe b b b=>by
   cases e with
   |returned v=>exact eT g a _ _ b
   |panicked v=>exact eT g a _ _ b
   |outgrown=>exact b)⟩
theorem xr(t:Array QN)(d:Nat)(v:QN)(a:d≠4):results Tryz.f62 (t.setIfInBounds d v)=results Tryz.f62 t:=by
 unfold results;simp only[Tryz.results62];simp[a]
theorem fc{P X2 X3 X4 kd ref p a b d dl dc Q N post}(r:Rn9 P X2 X3 X4 kd ref p a b d dl dc Q N post){V:QM}(c:Int)(h:N c V)(g:Array QN)(i:g.getD 4 undef=J X4 0):
  Leaves prog Tryz.f62 g post [{target:=.fn (.func 96) #[J X2 0,J X4 0],args:=#[]}] (.panicking (fw c)) V:=by
 refine Iy (f:=96) (args:=#[J X2 0,J X4 0]) bH (by simp[go_sem]) ?_;refine(r.no c V h).mono ?_;rintro e u l⟨rfl,rfl,m,n,o,q,j,k⟩;exact⟨_,Gq dU _ _ X4 46 _ (0,0) _ i j underlying46 rfl E,k⟩
theorem eo{P X2 X3 X4 kd ref p a b d dl dc Q N post}(r:Rn9 P X2 X3 X4 kd ref p a b d dl dc Q N post){V:QM}(g i j k:QN)(l:V.heap[X4]?=some (.cells #[g,i,j,k] 46))(m:post (QJ (.agg #[g,i,j,k])) V)(c:Array QN)(n:c.getD 4 undef=J X4 0):
  Leaves prog Tryz.f62 c post [{target:=.fn (.func 96) #[J X2 0,J X4 0],args:=#[]}] .returning V:=by
 refine Iy (f:=96) (args:=#[J X2 0,J X4 0]) bH (by simp[go_sem]) ?_;refine(r.id V).mono ?_;rintro e u o⟨rfl,rfl,rfl⟩;exact⟨_,Gq dU _ _ X4 46 _ (0,0) _ n l underlying46 rfl E,m⟩
def three(W:World)(P:Nat)(op:Array Value):World:=((W.alloc (.cells #[J P 0] 139)).alloc (.cells op 48)).alloc Qt
theorem zv(P X2 X3 X4 kd ref p a b d dl dc)(W:QM)(Q N post)(i:Rn9 P X2 X3 X4 kd ref p a b d dl dc Q N post)(c:X2=W.heap.size)(f:X3=W.heap.size+1)(g:X4=W.heap.size+1+1)(j:Q (three W P #[I kd,I ref,U p,U a,U b,.slice d dl dc]))(k:∀V,Q V->QA 98 #[J P 0,.agg #[I kd,I ref,U p,U a,U b,.slice d dl dc]] V λe l=>e=.panicked (fw 6)/\N 6 l):
  QA 62 #[J P 0,.agg #[I kd,I ref,U p,U a,U b,.slice d dl dc]] W post:=by
 have⟨m,l,i⟩:=Qe i j k;unfold three at l;go_enter_defers func62,ntmps62;go_wp2_with fail;rw[<-g,<-f,<-c];refine(i _ l).mono ?_;rintro e V⟨rfl,j⟩;exact fc m 6 j _ rfl
theorem zh(P X2 X3 X4 kd ref p a b d dl dc)(q:Nat)(z:Nat)(v:Nat->Nat->Nat->QM->Prop)(x:QM->Prop)(W:QM)(Q N post)(f:Rn9 P X2 X3 X4 kd ref p a b d dl dc Q N post)(i:X2=W.heap.size)(l:X3=W.heap.size+1)(m:X4=W.heap.size+1+1)(o:Q (three W P #[I kd,I ref,U p,U a,U b,.slice d dl dc]))(G:kd=0)(y:∀V,Q V->QA 98 #[J P 0,.agg #[I kd,I ref,U p,U a,U b,.slice d dl dc]] V λe k=>e=QJ (U q)/\Q k)(A:∀V,Q V->QA 99 #[J P 0,U a] V λe k=>(∃c,e=.panicked (fw c)/\N c k)\/∃t g j,e=QJ (.iface t (J g 0))/\(t=268/\j=162\/t=278/\j=210)/\v t g j k)(B:∀t g j V,v t g j V->QA j #[J g 0] V λe k=>e=QJ (U z)/\x k)(f9:∀V,x V->V.heap[X4]?=some Qt/\post (QJ (.agg #[I 0,U z,I 0,C])) (V.setRow X4 #[I 0,U z,I 0,C])):
  QA 62 #[J P 0,.agg #[I kd,I ref,U p,U a,U b,.slice d dl dc]] W post:=by
 have⟨n,s⟩:=y7 f o;clear f o;have u:=H y;clear y;have w:=H A;clear A;have o:=H B;clear B;have r:=H f9;clear f9;subst G;unfold three at s;go_enter_defers func62,ntmps62;go_wp2_with fail;rw[<-m,<-l,<-i];refine(u _ s).mono ?_;rintro e V⟨rfl,f⟩;have F:=H f;have⟨K,L,M,O,R,S,T⟩:=n.cell f;clear f i l m;generalize W.heap.size=n0 at*;go_wp2_with fail;refine(w _ F).mono ?_;rintro e V2(⟨c,rfl,X⟩|⟨t,g,j,rfl,Y,f⟩);·exact fc n c X _ rfl
 have s:=H f;clear f K L M O R S T;rcases Y with⟨rfl,rfl⟩|⟨rfl,rfl⟩
 ·have F:=λw=>nX g w
  go_wp2_with fail;refine(o _ g _ _ s).mono ?_;rintro e K⟨rfl,f⟩;have⟨l,m⟩:=r.out _ f;have⟨i,u⟩:=y7 l m;clear f m l;go_wp2_with (refine eG i ?_);exact eo n (I 0) (U z) (I 0) (C) (aw i _) u _ rfl
 have F:=λw=>oy g w
 go_wp2_with fail;refine(o _ g _ _ s).mono ?_;rintro e K⟨rfl,f⟩;have⟨l,m⟩:=r.out _ f;have⟨i,u⟩:=y7 l m;clear f m l;go_wp2_with (refine eG i ?_);exact eo n (I 0) (U z) (I 0) (C) (aw i _) u _ rfl
theorem zn(P X2 X3 X4 kd ref p a b d dl dc)(q:Nat)(z:Nat)(v:Nat->Nat->Nat->QM->Prop)(x:QM->Prop)(W:QM)(Q N post)(f:Rn9 P X2 X3 X4 kd ref p a b d dl dc Q N post)(i:X2=W.heap.size)(l:X3=W.heap.size+1)(m:X4=W.heap.size+1+1)(o:Q (three W P #[I kd,I ref,U p,U a,U b,.slice d dl dc]))(G:kd=1)(y:∀V,Q V->QA 98 #[J P 0,.agg #[I kd,I ref,U p,U a,U b,.slice d dl dc]] V λe k=>e=QJ (U q)/\Q k)(A:∀V,Q V->QA 100 #[J P 0,U a,U b] V λe k=>(∃c,e=.panicked (fw c)/\N c k)\/∃t g j,e=QJ (.iface t (J g 0))/\(t=268/\j=162\/t=278/\j=210)/\v t g j k)(B:∀t g j V,v t g j V->QA j #[J g 0] V λe k=>e=QJ (U z)/\x k)(f9:∀V,x V->V.heap[X4]?=some Qt/\post (QJ (.agg #[I 0,U z,I 0,C])) (V.setRow X4 #[I 0,U z,I 0,C])):
  QA 62 #[J P 0,.agg #[I kd,I ref,U p,U a,U b,.slice d dl dc]] W post:=by
 have⟨n,s⟩:=y7 f o;clear f o;have u:=H y;clear y;have w:=H A;clear A;have o:=H B;clear B;have r:=H f9;clear f9;subst G;unfold three at s;go_enter_defers func62,ntmps62;go_wp2_with fail;rw[<-m,<-l,<-i];refine(u _ s).mono ?_;rintro e V⟨rfl,f⟩;have F:=H f;have⟨K,L,M,O,R,S,T⟩:=n.cell f;clear f i l m;generalize W.heap.size=n0 at*;go_wp2_with fail;refine(w _ F).mono ?_;rintro e V2(⟨c,rfl,X⟩|⟨t,g,j,rfl,Y,f⟩);·exact fc n c X _ rfl
 have s:=H f;clear f K L M O R S T;rcases Y with⟨rfl,rfl⟩|⟨rfl,rfl⟩
 ·have F:=λw=>nX g w
  go_wp2_with fail;refine(o _ g _ _ s).mono ?_;rintro e K⟨rfl,f⟩;have⟨l,m⟩:=r.out _ f;have⟨i,u⟩:=y7 l m;clear f m l;go_wp2_with (refine eG i ?_);exact eo n (I 0) (U z) (I 0) (C) (aw i _) u _ rfl
 have F:=λw=>oy g w
 go_wp2_with fail;refine(o _ g _ _ s).mono ?_;rintro e K⟨rfl,f⟩;have⟨l,m⟩:=r.out _ f;have⟨i,u⟩:=y7 l m;clear f m l;go_wp2_with (refine eG i ?_);exact eo n (I 0) (U z) (I 0) (C) (aw i _) u _ rfl
theorem yS(P X2 X3 X4 kd ref p a b d dl dc)(q:Nat)(z:Nat)(v:Nat->Nat->Nat->QM->Prop)(x:QM->Prop)(W:QM)(Q N post)(f:Rn9 P X2 X3 X4 kd ref p a b d dl dc Q N post)(i:X2=W.heap.size)(l:X3=W.heap.size+1)(m:X4=W.heap.size+1+1)(o:Q (three W P #[I kd,I ref,U p,U a,U b,.slice d dl dc]))(G:kd=2)(y:∀V,Q V->QA 98 #[J P 0,.agg #[I kd,I ref,U p,U a,U b,.slice d dl dc]] V λe k=>e=QJ (U q)/\Q k)(A:∀V,Q V->QA 101 #[J P 0,U q,U a] V λe k=>(∃c,e=.panicked (fw c)/\N c k)\/∃t g j,e=QJ (.iface t (J g 0))/\(t=268/\j=162\/t=278/\j=210)/\v t g j k)(B:∀t g j V,v t g j V->QA j #[J g 0] V λe k=>e=QJ (U z)/\x k)(f9:∀V,x V->V.heap[X4]?=some Qt/\post (QJ (.agg #[I 0,U z,I 0,C])) (V.setRow X4 #[I 0,U z,I 0,C])):
  QA 62 #[J P 0,.agg #[I kd,I ref,U p,U a,U b,.slice d dl dc]] W post:=by
 have⟨n,s⟩:=y7 f o;clear f o;have u:=H y;clear y;have w:=H A;clear A;have o:=H B;clear B;have r:=H f9;clear f9;subst G;unfold three at s;go_enter_defers func62,ntmps62;go_wp2_with fail;rw[<-m,<-l,<-i];refine(u _ s).mono ?_;rintro e V⟨rfl,f⟩;have F:=H f;have⟨K,L,M,O,R,S,T⟩:=n.cell f;clear f i l m;generalize W.heap.size=n0 at*;go_wp2_with fail;refine(w _ F).mono ?_;rintro e V2(⟨c,rfl,X⟩|⟨t,g,j,rfl,Y,f⟩);·exact fc n c X _ rfl
 have s:=H f;clear f K L M O R S T;rcases Y with⟨rfl,rfl⟩|⟨rfl,rfl⟩
 ·have F:=λw=>nX g w
  go_wp2_with fail;refine(o _ g _ _ s).mono ?_;rintro e K⟨rfl,f⟩;have⟨l,m⟩:=r.out _ f;have⟨i,u⟩:=y7 l m;clear f m l;go_wp2_with (refine eG i ?_);exact eo n (I 0) (U z) (I 0) (C) (aw i _) u _ rfl
 have F:=λw=>oy g w
 go_wp2_with fail;refine(o _ g _ _ s).mono ?_;rintro e K⟨rfl,f⟩;have⟨l,m⟩:=r.out _ f;have⟨i,u⟩:=y7 l m;clear f m l;go_wp2_with (refine eG i ?_);exact eo n (I 0) (U z) (I 0) (C) (aw i _) u _ rfl
theorem Ab(P X2 X3 X4 kd ref p a b d dl dc)(q:Nat)(z:Nat)(v:Nat->Nat->Nat->QM->Prop)(x:QM->Prop)(W:QM)(Q N post)(f:Rn9 P X2 X3 X4 kd ref p a b d dl dc Q N post)(i:X2=W.heap.size)(l:X3=W.heap.size+1)(m:X4=W.heap.size+1+1)(o:Q (three W P #[I kd,I ref,U p,U a,U b,.slice d dl dc]))(G:kd=4)(y:∀V,Q V->QA 98 #[J P 0,.agg #[I kd,I ref,U p,U a,U b,.slice d dl dc]] V λe k=>e=QJ (U q)/\Q k)(A:∀V,Q V->QA 104 #[J P 0,U q] V λe k=>(∃c,e=.panicked (fw c)/\N c k)\/∃t g j,e=QJ (.iface t (J g 0))/\(t=268/\j=217\/t=278/\j=346)/\v t g j k)(B:∀t g j V,v t g j V->QA j #[J g 0] V λe k=>e=QJ (I z)/\x k)(f9:∀V,x V->V.heap[X4]?=some Qt/\post (QJ (.agg #[I 0,U 0,I z,C])) (V.setRow X4 #[I 0,U 0,I z,C])):
  QA 62 #[J P 0,.agg #[I kd,I ref,U p,U a,U b,.slice d dl dc]] W post:=by
 have⟨n,s⟩:=y7 f o;clear f o;have u:=H y;clear y;have w:=H A;clear A;have o:=H B;clear B;have r:=H f9;clear f9;subst G;unfold three at s;go_enter_defers func62,ntmps62;go_wp2_with fail;rw[<-m,<-l,<-i];refine(u _ s).mono ?_;rintro e V⟨rfl,f⟩;have F:=H f;have⟨K,L,M,O,R,S,T⟩:=n.cell f;clear f i l m;generalize W.heap.size=n0 at*;go_wp2_with fail;refine(w _ F).mono ?_;rintro e V2(⟨c,rfl,X⟩|⟨t,g,j,rfl,Y,f⟩);·exact fc n c X _ rfl
 have s:=H f;clear f K L M O R S T;rcases Y with⟨rfl,rfl⟩|⟨rfl,rfl⟩
 ·have F:=λw=>DW g w
  go_wp2_with fail;refine(o _ g _ _ s).mono ?_;rintro e K⟨rfl,f⟩;have⟨l,m⟩:=r.out _ f;have⟨i,u⟩:=y7 l m;clear f m l;go_wp2_with (refine eG i ?_);exact eo n (I 0) (U 0) (I z) (C) (aw i _) u _ rfl
 have F:=λw=>DN g w
 go_wp2_with fail;refine(o _ g _ _ s).mono ?_;rintro e K⟨rfl,f⟩;have⟨l,m⟩:=r.out _ f;have⟨i,u⟩:=y7 l m;clear f m l;go_wp2_with (refine eG i ?_);exact eo n (I 0) (U 0) (I z) (C) (aw i _) u _ rfl
theorem zM(P X2 X3 X4 kd ref p a b d dl dc)(q:Nat)(s:QN->QM->Prop)(W:QM)(Q N post)(f:Rn9 P X2 X3 X4 kd ref p a b d dl dc Q N post)(g:X2=W.heap.size)(i:X3=W.heap.size+1)(j:X4=W.heap.size+1+1)(t:Q (three W P #[I kd,I ref,U p,U a,U b,.slice d dl dc]))(z:kd=5)(u:∀V,Q V->QA 98 #[J P 0,.agg #[I kd,I ref,U p,U a,U b,.slice d dl dc]] V λe k=>e=QJ (U q)/\Q k)(w:∀V,Q V->QA 105 #[J P 0,U q,U a] V λe k=>(∃c,e=.panicked (fw c)/\N c k)\/∃l m n,e=QJ (.slice l m n)/\s (.slice l m n) k)(f9:∀v V,s v V->V.heap[X4]?=some Qt/\post (QJ (.agg #[I 0,U 0,I 0,v])) (V.setRow X4 #[I 0,U 0,I 0,v])):
  QA 62 #[J P 0,.agg #[I kd,I ref,U p,U a,U b,.slice d dl dc]] W post:=by
 have⟨o,r⟩:=y7 f t;clear f t;have t:=H u;clear u;have v:=H w;clear w;have x:=H f9;clear f9;subst z;unfold three at r;go_enter_defers func62,ntmps62;go_wp2_with fail;rw[<-j,<-i,<-g];refine(t _ r).mono ?_;rintro e V⟨rfl,f⟩;have y:=H f;have⟨A,B,F,G,K,L,M⟩:=o.cell f;clear f g i j;generalize W.heap.size=O at*;go_wp2_with fail;refine(v _ y).mono ?_;rintro e R(⟨c,rfl,r⟩|⟨l,m,n,rfl,f⟩);·exact fc o c r _ rfl
 have⟨i,j⟩:=x.out _ _ f;have⟨g,t⟩:=y7 i j;clear f j i A B F G K L M;go_wp2_with (refine eG g ?_);exact eo o (I 0) (U 0) (I 0) (.slice l m n) (aw g _) t _ rfl
theorem zt(P X2 X3 X4 kd ref p a b d dl dc)(q:Nat)(n:QM->Prop)(W:QM)(Q N post)(f:Rn9 P X2 X3 X4 kd ref p a b d dl dc Q N post)(g:X2=W.heap.size)(i:X3=W.heap.size+1)(j:X4=W.heap.size+1+1)(o:Q (three W P #[I kd,I ref,U p,U a,U b,.slice d dl dc]))(w:kd=6)(r:∀V,Q V->QA 98 #[J P 0,.agg #[I kd,I ref,U p,U a,U b,.slice d dl dc]] V λe k=>e=QJ (U q)/\Q k)(s:∀V,Q V->QA 106 #[J P 0,U q,.slice d dl dc] V λe k=>(∃c,e=.panicked (fw c)/\N c k)\/e=QJ (.tuple #[])/\n k)(f9:∀V,n V->V.heap[X4]?=some Qt/\post (QJ (.agg #[I 0,U 0,I 0,C])) (V.setRow X4 #[I 0,U 0,I 0,C])):
  QA 62 #[J P 0,.agg #[I kd,I ref,U p,U a,U b,.slice d dl dc]] W post:=by
 have⟨l,m⟩:=y7 f o;clear f o;have o:=H r;clear r;have t:=H s;clear s;have u:=H f9;clear f9;subst w;unfold three at m;go_enter_defers func62,ntmps62;go_wp2_with fail;rw[<-j,<-i,<-g];refine(o _ m).mono ?_;rintro e V⟨rfl,f⟩;have v:=H f;have⟨x,y,z,A,B,F,G⟩:=l.cell f;clear f g i j;generalize W.heap.size=K at*;go_wp2_with fail;refine(t _ v).mono ?_;rintro e L(⟨c,rfl,m⟩|⟨rfl,f⟩);·exact fc l c m _ rfl
 have⟨i,j⟩:=u.out _ f;have⟨g,o⟩:=y7 i j;clear f j i x y z A B F G;go_wp2_with (refine eG g ?_);exact eo l (I 0) (U 0) (I 0) (C) (aw g _) o _ rfl
theorem yM(P X2 X3 X4 kd ref p a b d dl dc)(q:Nat)(W:QM)(Q N post)(j:Rn9 P X2 X3 X4 kd ref p a b d dl dc Q N post)(c:X2=W.heap.size)(f:X3=W.heap.size+1)(g:X4=W.heap.size+1+1)(k:Q (three W P #[I kd,I ref,U p,U a,U b,.slice d dl dc]))(l:∀V,Q V->QA 98 #[J P 0,.agg #[I kd,I ref,U p,U a,U b,.slice d dl dc]] V λe i=>e=QJ (U q)/\Q i)(r:kd<0\/6<kd)(m:∀V,Q V->N 6 V):
  QA 62 #[J P 0,.agg #[I kd,I ref,U p,U a,U b,.slice d dl dc]] W post:=by
 have⟨n,i⟩:=y7 j k;clear j k;have k:=H l;clear l;have o:=H m;clear m;unfold three at i;go_enter_defers func62,ntmps62;go_wp2_with fail;rw[<-g,<-f,<-c];refine(k _ i).mono ?_;rintro e V⟨rfl,j⟩;have m:=H j;have⟨s,t,u,v,w,x,y⟩:=n.cell j;clear j c f g;generalize W.heap.size=f at*;have g:(kd==0)=false:=bG;have i:(kd==1)=false:=bG;have j:(kd==2)=false:=bG;have k:(kd==3)=false:=bG;have z:(kd==4)=false:=bG;have A:(kd==5)=false:=bG;have z6:(kd==6)=false:=bG;have c:=H (o _ m);clear r;go_wp2;exact fc n 6 c _ rfl
theorem yU(P X2 X3 X4 kd ref p a b d dl dc)(q:Nat)(r:QN->QM->Prop)(s:QM->Prop)(W:QM)(Q N post)(n:Rn9 P X2 X3 X4 kd ref p a b d dl dc Q N post)(f:X2=W.heap.size)(g:X3=W.heap.size+1)(j:X4=W.heap.size+1+1)(o:Q (three W P #[I kd,I ref,U p,U a,U b,.slice d dl dc]))(F:kd=3)(t:∀V,Q V->QA 98 #[J P 0,.agg #[I kd,I ref,U p,U a,U b,.slice d dl dc]] V λe k=>e=QJ (U q)/\Q k)(u:∀V,Q V->QA 103 #[J P 0,U q] V λe k=>(∃c,e=.panicked (fw c)/\N c k)\/∃v,e=QJ v/\QG k X2 0 (J P 0)/\r v k)(w:∀v V,r v V->QA 102 #[J P 0,v] V λe k=>e=QJ (.tuple #[])/\QG k X2 0 (J P 0)/\s k)(f9:∀V,s V->V.heap[X4]?=some (.cells #[I 0,U 0,I 0,C] 46)/\post (QJ (.agg #[I 0,U 0,I 0,C])) (V.setRow X4 #[I 0,U 0,I 0,C])):
  QA 62 #[J P 0,.agg #[I kd,I ref,U p,U a,U b,.slice d dl dc]] W post:=by
 have l:=H n;have m:=H o;clear n o;have x:=H t;clear t;have y:=H u;clear u;have z:=H w;clear w;have A:=H f9;clear f9;subst F;unfold three at m;go_enter_defers func62,ntmps62;go_wp2_with fail;rw[<-j,<-g,<-f];refine(x _ m).mono ?_;rintro e V⟨rfl,n⟩;have o:=H n;have⟨B,G,K,L,M,O,R⟩:=l.cell n;clear n m x f g j;generalize W.heap.size=X at*;go_upto_region 11 with fail
 have T:=l.qd _ o;clear B G K L M O R;refine rh (S:=λf=>QG f X2 0 (J P 0)) ?_;have g:=l.x2 _ (l.qd _ o);refine aG (i:=0) (d:=41) (v:=J P 0) rfl E E E E (λ_ _ _ h=>eT (xr _ 41 _ ar) _ _ _ h) (Or.inl ⟨E,λW g=>by obtain G:=g;first|(go_simp;done)|(go_simp;omega)⟩) g ?_;simp only[lz,l0,ls];refine aG (i:=1) (d:=42) (v:=J P 0) rfl E E E E (λ_ _ _ h=>eT (xr _ 42 _ ar) _ _ _ h) (Or.inl ⟨E,λW g=>by obtain G:=g;first|(go_simp;done)|(go_simp;omega)⟩) g ?_;simp only[lz,l0,ls];refine aG (i:=2) (d:=43) (v:=U q) rfl E E E E (λ_ _ _ h=>eT (xr _ 43 _ ar) _ _ _ h) (Or.inl ⟨E,λ_ _=>E⟩) g ?_;simp only[lz,l0,ls];refine po 3 λK' m=>?_;go_simp;refine(y _ T).mono ?_;rintro e R(⟨c,rfl,K⟩|⟨v,rfl,L⟩)
 ·exact fc l c K _ rfl
 have⟨f,j⟩:=L;refine m _ _ ⟨f,?_⟩;clear g;have g:=f;have M:=H j;clear f j;clear m K';refine po 4 λK' m=>?_;go_simp;refine(z _ _ M).mono ?_;rintro e Y⟨rfl,f,j⟩;refine m _ _ ⟨f,?_⟩;have n:=H j;clear g;clear m K';refine bY ?_;have m:=n;have⟨x,B⟩:=A.out _ m;have g:=H x;have O:=H B;clear B A y z o x m n;go_wp2_with (refine eG g ?_);exact eo l (I 0) (U 0) (I 0) (C) (aw g _) O _ rfl
end Go.Proofs.YtdhegekcmmlohaaGreatDoor
