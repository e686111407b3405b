import Derived.Test.YtbcacchkcedffaaGreatDoorM01
set_option linter.all false
set_option maxRecDepth 20000
set_option maxHeartbeats 0
namespace Go.Proofs.YtbcacchkcedffaaGreatDoor
open Go.Proofs.Tryz Go.RowKit Go.Maps Go.Shelf Go.ChangeShapes Go.WideShapes Go.ChangeAt
section
variable {b c n:Nat}{W W':World}{e:TypeId}{xs:List Value}
def Cn{s j:Nat}(a:c<12):(rs (c:Int)+(s:Int)*(pg (c:Int)+1))*1024+(j:Int)*sz (c:Int)=((bh c s j:Nat):Int):=by rw[OT a,pU a,uT a];unfold bh aD;simp
def Tb.ofBelow(h:Tb W)(a:D W W'):Tb W':=by let⟨t,b,h⟩:=h.row;exact⟨t,b,by rwa[a.block 2 (ag h)]⟩
def fx(a:Addr)(W:QM):Calls prog 352 #[.pointer (some a)] W λe W'=>e=QJ (.pointer (some a))/\W'=W:=by go_wp2;go_ret;exact QB
structure Sc(g b c s j:Nat)(W:QM):Prop where
 c2:W.cell? (Qz g 2)=some (J b 0)
 c3:W.cell? (Qz g 3)=some (I j)
 d0:W.cell? (Qz b 0)=some (I c)
 d1:W.cell? (Qz b 1)=some (I s)
 tb:Tb W
 hc:c<12
 hs:s<6
 hj:j<aM c
def Sc.below{g s j}(h:Sc g b c s j W)(k:D W W'):Sc g b c s j W':=⟨NI k h.c2,NI k h.c3,NI k h.d0,NI k h.d1,h.tb.ofBelow k,h.hc,h.hs,h.hj⟩
def eI(g b c s j W)(h:Sc g b c s j W):
  Calls prog 114 #[J g 0] W λe W'=>e=QJ (U (bh c s j:Nat))/\D W W':=by
 let⟨i,m,n,o,p,f,q,r⟩:=h;let a:=H (kG (c:Nat) (s:Nat) (j:Nat) ⟨Z,Z,Z,Z,Z,by rw[vA f];omega⟩ W.drew ⟨p.row⟩);rw[Cn f]at a;let l:Hid (∀d,D W d->QG d g 2 (J b 0)/\QG d g 3 (I j)/\QG d b 0 (I c)/\QG d b 1 (I s)):=λd k=>⟨NI k i,NI k m,NI k n,NI k o⟩;go_in;go_upto_region 1 with fail
 refine rh (S:=λd=>QG d g 2 (J b 0)/\QG d g 3 (I j)/\QG d b 0 (I c)/\QG d b 1 (I s)) ?_;let i:=l.out _ ld;iterate 18 (apply py i;simp only[f0,f1,Nat.reduceAdd,lz,l0,ls])
 refine po 18 λK' n=>?_;go_simp;apply(a).mono;rintro e o⟨rfl,f⟩;let k:D W o:=⟨f.os,f.tape,f.output,f.size,f.block⟩;let m:=l.out _ k;refine n _ _ ⟨m,?_⟩;let i:=m
 iterate 5 (apply py i;simp only[f0,f1,Nat.reduceAdd,lz,l0,ls])
 refine bY ?_;have K2:=H k;go_wp2;go_ret;exact⟨rfl,K2⟩
def mh(g b c s j W)(h:Sc g b c s j W):
  Calls prog 167 #[J g 0] W λe W'=>e=QJ (I (eV c:Nat))/\W'=W:=by
 let⟨n,i,o,k,d,f,l,m⟩:=h;let a:=H (vG (c:Nat) W d);rw[D3 f]at a;go_in;go_wp2_with fail;apply (a).mono;rintro e d⟨rfl,rfl⟩;go_wp2;go_ret;exact QB
def kC(g b c s j W)(h:Sc g b c s j W):
  Calls prog 111 #[J g 0] W λe W'=>e=QJ (U (bh c s j+eV c:Nat))/\D W W':=by
 have⟨a,d⟩:=y7 (eI g b c s j W h) (λW'(f:D W W')=>mh g b c s j W' (h.below f));have ha:=ca h.hc h.hs h.hj;have f:=aX h.hc;have k:eV c<=1016:=Z;have l:=H (show((bh c s j+eV c:Nat):Int)=(bh c s j:Int)+(eV c:Int) by omega);have m:bh c s j<=200000:=Z;generalize bh c s j=A at*;generalize eV c=u at*;go_in;go_wp2_with fail;apply (a).mono;rintro e n⟨rfl,f⟩;let i:=H f;go_wp2_with fail;apply (d _ i).mono;rintro e a⟨rfl,rfl⟩;go_wp2;go_ret;refine⟨?_,i⟩;rw[l];rfl
def km(a:Nat)(W:QM)(ha:a<18446744073709551616):
  QA 157 #[U a] W λe W'=>e=QJ (I (aR a:Nat))/\W'=W:=by
 unfold aR;by_cases c:a%1024 > 0;.rw[GP c];let b:=H (show(((a/1024+1:Nat):Nat):Int)=(a:Int)/1024+1 by omega);go_enter func157,ntmps157;go_wp2;go_ret;rw[b];exact QB
 rw[GO c];let b:=H (show(((a/1024+0:Nat):Nat):Int)=(a:Int)/1024 by omega);go_enter func157,ntmps157;go_wp2;go_ret;rw[b];exact QB
structure Lc(g:Nat)(r:Rg9)(W:QM):Prop where
 c0:W.cell? (Qz g 0)=some (I r.st)
 c1:W.cell? (Qz g 1)=some (I r.rq)
 c2:W.cell? (Qz g 2)=some (I r.first)
 c3:W.cell? (Qz g 3)=some (I r.guards)
 c4:W.cell? (Qz g 4)=some (I r.pages)
 hf:r.first<=300
 hu:r.guards<=3
 hp:r.pages<=18014398509481984
def Lc.below{g r}(h:Lc g r W)(k:D W W'):Lc g r W':=⟨NI k h.c0,NI k h.c1,NI k h.c2,NI k h.c3,NI k h.c4,h.hf,h.hu,h.hp⟩
def ie(g r W)(h:Lc g r W):
  Calls prog 159 #[J g 0] W λe W'=>e=QJ (U r.base)/\W'=W.drew:=by
 let⟨_,_,b,c,_,d,i,_⟩:=h;have a:=H (show((r.base:Nat):Int)=((r.first:Int)+(r.guards:Int))*1024 by unfold Rg9.base;omega);generalize r.first=f at*
 generalize r.guards=u at*;go_wp2;go_region;go_wp2;go_ret;rw[a];exact QB
def sY(g r W)(h:Lc g r W)(a:r.pages<=300):
  Calls prog 353 #[J g 0] W λe W'=>e=QJ (I (r.pages*1024:Nat))/\W'=W:=by
 let⟨_,_,_,_,c,_,_,_⟩:=h;have b:=H (show((r.pages*1024:Nat):Int)=(r.pages:Int)*1024 by omega);generalize r.pages=p at*;go_wp2;go_ret;rw[b];exact QB
def iE(g r W)(h:Lc g r W):
  Calls prog 121 #[J g 0] W λe W'=>e=QJ (I r.ext)/\W'=W.drew:=by
 let⟨_,_,_,b,c,_,d,f⟩:=h;have a:=H (show((r.ext:Nat):Int)=(r.guards:Int)+(r.pages:Int)+1 by unfold Rg9.ext;omega);generalize r.guards=u at*;generalize r.pages=p at*;go_wp2;go_region;go_wp2;go_ret;rw[a];exact QB
def Sh.usedP{B x cf h}(a:Sh B x cf h W):Sh B x cf {h with used:=h.used+1} (W.setCell ⟨x.P,12,none⟩ (I (h.used+1:Nat))):=by apply a.boxed (Ky.grown a.box rfl (au (Q6 W x.P) 12 _)) (h.used+1);simp[World.setCell,FD,a.box,fN]
def oQ(B x cf h)(n:Nat)(W)(b:Sh B x cf h W)(p:1<=n)(s:n<=1000000)(l:h.used<=1000000)(v:cf.ds.length<=20000)(q:∀d∈cf.ds,(Lit.int .i64 d).wf=true):
  QA 259 #[J x.P 0,I n] W λe W'=>e=QJ (I (dr cf h n:Nat))/\Sh B x cf {h with used:=h.used+1} W'/\W.grownBy W' (some x.P):=by
 have f:W.cell? (Qz x.P 12)=some (I h.used):=b.cell 12 _ rfl;have t:W.cell? (Qz x.P 5)=some (.slice x.da cf.ds.length x.dc):=b.cell 5 _ rfl;have f12:W.frozen? (Qz x.P 12)=false:=by simp[QD,b.box]
 have c:((h.used+1:Nat):Int)=(h.used:Int)+1:=Z;have⟨i,a⟩:=y7 b.usedP (au (Q6 W x.P) 12 (I (h.used+1:Nat)));rw[c]at i a;by_cases c:h.used<cf.ds.length
 ·have⟨g,j,r⟩:=b.ds.cells h.used c;rw[j]at t;have k:Hid (dr cf h n=md (cf.ds[h.used]?.getD 0) n):=rfl;generalize cf.ds[h.used]?.getD 0=d at k r;have⟨M,w⟩:=y7 (λW'=>lU d n W' p Z) l;generalize cf.ds.length=m at*;generalize o:h.used=us at f r c i a l;have j:(us:Int)<(m:Int):=Z;go_enter func259,ntmps259;go_wp2;go_region;go_wp2;go_region;go_wp2_with fail;refine(M _).mono ?_;rintro e u⟨rfl,rfl⟩;go_wp2;go_ret;refine⟨?_,i.below ld.drew,⟨a.os,a.tape,a.output,a.size,a.block⟩⟩;rw[k];rfl
 have k:=H (show dr cf h n=md 0 n by unfold dr md;rw[FJ Z];rfl);have M:=H (λW'=>lU 0 n W' p Z);generalize cf.ds.length=m at*;generalize o:h.used=us at f c i a l;let j:¬((us:Int)<(m:Int)):=Z;go_enter func259,ntmps259;go_wp2;go_region;go_wp2_with fail;apply (M _).mono;rintro e u⟨rfl,rfl⟩;go_wp2;go_ret;refine⟨?_,i.below ld,⟨a.os,a.tape,a.output,a.size,a.block⟩⟩;rw[k];rfl
structure df where
 o:fL
 d:QP
 dc:Nat
abbrev Qn(q:df):Obj:=.cells #[I q.o.kd,I q.o.ref,U q.o.p,U q.o.a,U q.o.b,.slice q.d q.o.ys.length q.dc] 48
def fH(q:df):List Value:=[I q.o.kd,I q.o.ref,U q.o.p,U q.o.a,U q.o.b,.slice q.d q.o.ys.length q.dc]
structure Ois(w:QM)(A:QP)(ops:List df):Prop where
 at_:∀k q,ops[k]?=some q->∃G,A=some (Qz G 0)/\G<w.heap.size/\∀j u,(fH q)[j]?=some u->w.cell? (Qz G (k*6+j))=some u
 wf:∀q∈ops,q.o.p<18446744073709551616/\q.o.a<18446744073709551616/\q.o.b<18446744073709551616
 dat:∀q∈ops,∀i,i<q.o.ys.length->∃x,q.d=some x/\w.cell? (x.add i)=some (.int .u8 (q.o.ys[i]?.getD 0))/\(x.add i).block<w.heap.size
def cR{w}(b:D w W){x:Addr}{u:QN}(h:w.cell? x=some u):W.cell? x=some u:=NI b h
def Ois.dt{w A ops}(h:Ois w A ops){Q:Nat}(b:D w W)(k:w.heap.size<=Q)(a:∀g,e_ Q W g->w.heap.size<=g){q:df}(c:q∈ops):Dt Q W q.d q.o.ys.length q.o.ys:=by refine⟨rfl,λi d=>?_⟩;let⟨x,f,g,j⟩:=h.dat q c i d;exact⟨x,f,cR b g,FG j b.size,Z,λe=>by have:=a _ e;omega⟩
def PD(c:Int)(j:Nat)(a:0<=c)(b:c<=18446744073709551615):0<=c/2 ^ j/\c/2 ^ j<=18446744073709551615:=
 ⟨Int.ediv_nonneg a (Int.pow_nonneg Z),Int.le_trans (Int.ediv_le_self _ a) b⟩
def u64_in(z:Int):0<=IntKind.u64.wrap z/\IntKind.u64.wrap z<=18446744073709551615:=by rw[IntKind.wrap_u64];omega
structure Od6(B:Nat)(q:df)(W:QM):Prop where
  p:q.o.p<18446744073709551616
  a:q.o.a<18446744073709551616
  b:q.o.b<18446744073709551616
  d:W.ownsRow B 5 1 (.slice q.d q.o.ys.length q.dc) q.o.ys.length (Ns .u8 q.o.ys)
  r:0<=q.o.kd/\q.o.ys.length<=100
  y: ∀y ∈ q.o.ys,0<=y/\y<=255
def Ou{t:QO}{sz:Nat}{v:QN}(h:W.ownsRow b e sz v n xs){X:Nat}{j:Array QN}{f:Nat×Nat}(k:W.heap[X]?=some (.cells j t f))(c:e≠t):v.ownBlock≠some X:=λa=>by
 rcases h.2 with⟨d,_⟩|⟨g,l,m,d,o,i,_⟩
 .rw[d]at a;cases a
 .rw[d]at a
  have:g=X:=by simpa[Value.ownBlock]using a
  subst this
  rw[k]at i
  simp at i
  exact c i.2.1.symm
def Od6.kept{B q W}{W':QM}(h:Od6 B q W){r:Nat}(g:W.grownBy W' (some r))(a:(Value.slice q.d q.o.ys.length q.dc).ownBlock≠some r):Od6 B q W':=⟨h.p,h.a,h.b,h.d.kept g (.inr a),h.r,h.y⟩
def Dm(n:Nat):Code->Option Code
 | .block k c=>if k=n then some (.block k c)else Dm n c
 | .seq a b=>match Dm n a with
  |some c=>some c
  |none=>Dm n b
 | .scope c=>Dm n c
 | .loop c=>Dm n c
 | .cond _ a b=>match Dm n a with
  |some c=>some c
  |none=>Dm n b
 |_=>none
def CQ{sz:Nat}{d:QP}{l:Nat}(h:W.ownsRow b e sz (.slice d l c) n xs):l=n:=by
 rcases h.2 with⟨a,k⟩|⟨g,f,i,j,_⟩;.simp at a;omega
 .simp at j;omega
def MC{f:Nat}{sz:Nat}{v:QN}(i:f<=b)(h:W.ownsRow b e sz v n xs):W.ownsRow f e sz v n xs:=by
 refine⟨h.1,?_⟩;rcases h.2 with a|⟨g,c,d,j,a,k⟩;.exact .inl a
 .exact .inr ⟨g,c,d,j,Fx i a,k⟩
end
section
variable {c j s:Nat}
def EU(M rm G rq n mix fifo W)(h:Qr W M rm G rq n mix fifo)(a:mix.length<=1024):
  QA 125 #[J M 0] W λe c=>e=QJ (Vl W.heap.size mix.length mix.length)/\RowV c W.heap.size 3 (Ns .i64 mix)/\D W c:=by
 let b:=h.mx.1;let d:=h.mx.2;have:=row_in M rm mix.length 0 mix.length _ W.heap.size mix W rfl rfl (bJ b) (bJ b) (bJ b) d rfl aa gi a;rwa [IE,List.take_zero,Gl,G9]at this
def EZ(M rm G rq n mix fifo W)(h:Qr W M rm G rq n mix fifo)(a:n<=1024):
  QA 125 #[J G 0] W λe c=>e=QJ (Vl W.heap.size fifo.length fifo.length)/\RowV c W.heap.size 3 (Ns .i64 fifo)/\D W c:=by
 let⟨ps,o,k,b,d,f,j,g,l,e⟩:=h.qu;have:=row_in G rq n o k _ W.heap.size ps W rfl rfl (bJ b) (bJ b) (bJ b) d f Z g a;rw[<-e]at this;let i:fifo.length=k:=by rw[e];simp;omega
 rw[i];exact this
def jY{W:QM}{g:Nat}{a b c:QN}{x:Addr}(h:x.block≠g):(((W.setCell (Qz g 0) a).setCell (Qz g 1) b).setCell (Qz g 2) c).cell? x=W.cell? x:=by unfold World.cell?;rw[heap_setCell_other _ _ _ _ (by simpa using h),heap_setCell_other _ _ _ _ (by simpa using h),heap_setCell_other _ _ _ _ (by simpa using h)]
def xd(M rm G rq n){s:Nat}(t:QO)(a:Addr)(mix fifo)(w:QM)(g:s=w.heap.size)(h:Qr w M rm G rq n mix fifo)(x:mix.length<=1024)(y:n<=1024):
  Calls prog 67 #[.agg #[J M 0,J G 0,.iface t (.pointer (some a))]] w λe z=>∃b c,e=QJ (wv (some (Qz b 0)) mix.length mix.length (some (Qz c 0)) fifo.length fifo.length (n:Nat))/\RowV z b 3 (Ns .i64 mix)/\RowV z c 3 (Ns .i64 fifo)/\w.heap.size<=b/\b<c/\D w z:=by
 have b:=lF w (.cells #[J M 0,J G 0,.iface t (.pointer (some a))] 88) (.cells #[C,C,I 0] 123);have⟨ps,o,k,c,f⟩:=h.qu;clear f;have⟨T,V⟩:=y7 (λW(A:Qr W M rm G rq n mix fifo)=>EU M rm G rq n mix fifo W A x) (λW(A:Qr W M rm G rq n mix fifo)=>EZ M rm G rq n mix fifo W A y);have X:=dO c;have B:G≠s+1:=Z;have Y:G≠s:=Z;refine(let_mvar%?B:=some (Qz rq 0);?_);have j:=NI b.2.2 (show w.cell? (Qz G 0)=some (.slice ?B n n)from bJ c);have l:=h.but (But.ofBelow (S:=λ_=>False) b.2.2) id id id id;refine(let_mvar%?A:=(w.alloc (.cells #[J M 0,J G 0,.iface t (.pointer (some a))] 88)).alloc (.cells #[C,C,I 0] 123);?_);have q:=H (show w.heap.size+2<=(?A).heap.size by rw[cS,cS];omega);clear h c;go_wp2;rw[<-g];have c:=b.2.2;rw[<-g]at b;generalize ?A=f at*;have F:f.drew.cell? (Qz s 0)=some (J M 0)/\f.drew.cell? (Qz s 1)=some (J G 0)/\f.drew.cell? (Qz G 0)=some (.slice ?B n n):=⟨(GT f _ _ _ _ _ b.1).trans rfl,(GT f _ _ _ _ _ b.1).trans rfl,j⟩;have Q:Hid (Qr f.drew M rm G rq n mix fifo):=l.but (S:=λ_=>False) (But.refl _ _).drew id id id id;have HZ:Hid (f.drew.heap[s+1]?=some (.cells #[C,C,I 0] 123)):=b.2.1;have R:=H c.drew;clear c;have K:=H g;clear b g l j;apply wp_region_held (S:=λW=>W.cell? (Qz s 0)=some (J M 0)/\W.cell? (Qz s 1)=some (J G 0)/\W.cell? (Qz G 0)=some (.slice ?B n n)) E;simp only[FX,FN,F1,Nat.reduceAdd,FP,FO,FY,FV,F5];have b:=F;apply bo (i:=0) (d:=3) (v:=J s 0) rfl E E E E (λ_ _ _ h=>h) (Or.inl ⟨E,λ_ _=>E⟩) b;simp only[Fw,FA,FB];refine bo (i:=1) (d:=4) (v:=J M 0) rfl E E E E (λ_ _ _ h=>h) (Or.inl ⟨E,λW b=>by obtain⟨g,L,N⟩:=b;go_simp⟩) b ?_;simp only[Fw,FA,FB];apply bo (i:=2) (d:=5) (v:=J M 0) rfl E E E E (λ_ _ _ h=>h) (Or.inl ⟨E,λ_ _=>E⟩) b;simp only[Fw,FA,FB];apply bo (i:=3) (d:=6) (v:=J M 0) rfl E E E E (λ_ _ _ h=>h) (Or.inl ⟨E,λ_ _=>E⟩) b;simp only[Fw,FA,FB];apply bo (i:=5) (d:=8) (v:=J s 1) rfl E E E E (λ_ _ _ h=>h) (Or.inl ⟨E,λ_ _=>E⟩) b;simp only[Fw,FA,FB];refine bo (i:=6) (d:=9) (v:=J G 0) rfl E E E E (λ_ _ _ h=>h) (Or.inl ⟨E,λW b=>by obtain⟨g,L,N⟩:=b;go_simp⟩) b ?_;simp only[Fw,FA,FB];apply bo (i:=7) (d:=10) (v:=J G 0) rfl E E E E (λ_ _ _ h=>h) (Or.inl ⟨E,λ_ _=>E⟩) b;simp only[Fw,FA,FB];apply bo (i:=8) (d:=11) (v:=J G 0) rfl E E E E (λ_ _ _ h=>h) (Or.inl ⟨E,λ_ _=>E⟩) b;simp only[Fw,FA,FB];apply bo (i:=10) (d:=13) (v:=J s 1) rfl E E E E (λ_ _ _ h=>h) (Or.inl ⟨E,λ_ _=>E⟩) b;simp only[Fw,FA,FB];refine bo (i:=11) (d:=14) (v:=J G 0) rfl E E E E (λ_ _ _ h=>h) (Or.inl ⟨E,λW b=>by obtain⟨g,L,N⟩:=b;go_simp⟩) b ?_;simp only[Fw,FA,FB];apply bo (i:=12) (d:=15) (v:=J G 0) rfl E E E E (λ_ _ _ h=>h) (Or.inl ⟨E,λ_ _=>E⟩) b;simp only[Fw,FA,FB];apply bo (i:=13) (d:=16) (v:=J G 0) rfl E E E E (λ_ _ _ h=>h) (Or.inl ⟨E,λ_ _=>E⟩) b;simp only[Fw,FA,FB];apply bo (i:=14) (d:=17) (v:=J G 0) rfl E E E E (λ_ _ _ h=>h) (Or.inl ⟨E,λ_ _=>E⟩) b;simp only[Fw,FA,FB];refine bo (i:=15) (d:=18) (v:=.slice ?B n n) rfl E E E E (λ_ _ _ h=>h) (Or.inl ⟨E,λW b=>by obtain⟨g,L,N⟩:=b;go_simp⟩) b ?_;simp only[Fw,FA,FB];refine bo (i:=16) (d:=19) (v:=I n) rfl E E E E (λ_ _ _ h=>h) (Or.inl ⟨E,λW _=>by first|(go_simp;done)|(go_simp;omega)⟩) b ?_;simp only[Fw,FA,FB];apply cn (r:=4) E;refine dM rfl E (λK' j=>?_);go_simp;apply(T _ Q).mono;rintro e O⟨rfl,m,l⟩;have⟨B1,Q1,Z1,u⟩:=Qf (az R l) (Q.but (But.ofBelow (S:=λ_=>False) l) id id id id) (ae HZ l) m;have c:=(show _/\_/\_ from⟨NI l b.1,NI l b.2.1,NI l b.2.2⟩);refine j _ _ ⟨c,?_⟩;clear b m l;have b:=c;clear c;clear j K';apply cn (r:=9) E;refine dM rfl E (λK' j=>?_);go_simp;apply(V _ Q1).mono;rintro e p⟨rfl,P,l⟩;have⟨B2,m,R2,X1⟩:=Qf (az B1 l) (ae Z1 l) P (u.below l u.lt);have c:=(show _/\_/\_ from⟨NI l b.1,NI l b.2.1,NI l b.2.2⟩);refine j _ _ ⟨c,?_⟩;have L1:=H (u.lt);clear b P l;have b:=c;clear c;clear j K';apply bo (i:=17) (d:=20) (v:=.agg #[.slice (some (Qz f.drew.heap.size 0)) mix.length mix.length,.slice (some (Qz O.heap.size 0)) fifo.length fifo.length,I n]) rfl E E E E (λ_ _ _ h=>h) (Or.inl ⟨E,λ_ _=>E⟩) b;simp only[Fw,FA,FB];have d0:p.cell? ⟨s+1,0,none⟩=some C:=bJ m;have d1:p.cell? ⟨s+1,1,none⟩=some C:=bJ m;have d2:p.cell? ⟨s+1,2,none⟩=some (I 0):=bJ m;have f0:p.frozen? ⟨s+1,0,none⟩=false:=ah m;have f1:p.frozen? ⟨s+1,1,none⟩=false:=ah m;have f2:p.frozen? ⟨s+1,2,none⟩=false:=ah m;apply cn (r:=18) E;refine dM rfl E (λK' j=>?_);go_simp;refine j _ _ ⟨⟨?_,?_,?_⟩,?_⟩;·have:=b.1;rw[jY iM];exact this
 ·have:=b.2.1;rw[jY iM];exact this
 ·have:=b.2.2;rw[jY (by dsimp only;exact B)];exact this
 refine bY ?_;go_wp2;apply GX (Gq dU _ _ (s+1) 123 _ (0,0) _ dU (set3 m) underlying123 rfl E) dU;have c:=R.size;have l:=u.lt;have P:s+1≠f.drew.heap.size:=by have:=q.out;have:=K.out;show s+1≠f.heap.size;omega
 have g:s+1≠O.heap.size:=by have:=q.out;have:=K.out;have e:f.drew.heap.size=f.heap.size:=rfl;omega
 refine⟨f.drew.heap.size,O.heap.size,rfl,?_,?_,c,l,?_⟩;·exact((X1.other (Iq P) _).other (Iq P) _).other (Iq P) _
 ·exact((R2.other (Iq g) _).other (Iq g) _).other (Iq g) _
 ·have:=K.out;exact((B2.setCell iM _).setCell iM _).setCell iM _
def qH(a:Nat)(w:QM)(ha:a<18446744073709551616):
  QA 260 #[U a] w λe c=>e=QJ (U (aR a:Nat))/\c=w:=by
 by_cases h:0<a%1024
 .let b:=H (show aR a=a/1024+1 by unfold aR;rw[GP h]);let d:(0:Int)<(a:Int)%1024:=Z;go_enter func260,ntmps260;go_wp2;go_ret;refine⟨?_,rfl⟩;rw[b];exact cX Z
 let b:=H (show aR a=a/1024 by unfold aR;rw[GO h];rfl);let d:¬((0:Int)<(a:Int)%1024):=Z;go_enter func260,ntmps260;go_wp2;go_ret;refine⟨?_,rfl⟩;rw[b];exact cX Z
def mc(c s:Nat)(W:QM)(a:c<12)(f:s<6):
  QA 78 #[I c,I s] W λe d=>e=QJ (I (aD c s:Nat))/\D W d:=by
 apply(jO (c:Int) (s:Int) Z Z W).mono;rintro e d⟨rfl,b⟩;refine⟨cX ?_,b⟩;rw[OT a,pU a];unfold aD;simp
def Dc(B x cf h)(c s:Nat)(W)(b:Sh B x cf h W)(i:c<12)(d:s<6):
  Calls prog 304 #[J x.P 0,I c,I s] W λe g=>e=QJ (.bool (dA h c s))/\D W g:=by
 have j:W.cell? (Qz x.P 6)=some (J x.T 0):=b.cell 6 _ rfl;have k:=cD i d;have⟨l,v,w,m,n,o,f,_⟩:=b.sp.page (aD c s) Z;have⟨q,r⟩:=b.sp.c;have⟨t,a⟩:=y7 (show dA h c s=l from f.symm) (λg=>mc c s g i d);generalize aD c s=p at*;have u:p<283:=Z;clear b n o r f k;go_in;go_wp2
 go_region_with (first|(go_at_call 78;apply(a _).mono;rintro e k⟨rfl,f⟩;let b:D W k:=⟨f.os,f.tape,f.output,f.size,f.block⟩;let n:=NI b j;let o:=NI b q;let r:=NI b m))
 all_goals(go_wp2;go_ret;rw[t];exact⟨rfl,b⟩)
def uh(T Q bud){m}(a:Nat)(v:Int)(w)(h:Sx T Q 283 bud m w)(ha:a<1000000)(i:isOpen (m (a/1024))=true):
  QA 263 #[J T 0,U a,.int .u8 v] w λe b=>e=QJ (.tuple #[])/\Sx T Q 283 bud (dZ m a v) b/\Sf Q w b:=by
 cases d:m (a/1024)with
 |none=>rw[d]at i;cases i
 |some q=>
  let⟨l,j⟩:=q;apply(ud T Q 283 bud m a v w h Z Z d).mono;rintro e b⟨rfl,k,g,c,n,o,f⟩;refine⟨rfl,?_,Sf.ofPut h n o f⟩;have:dZ m a v=dT m (a/1024) (some (l,j.set (a%1024) v)):=by unfold dZ;rw[d];rfl
  rwa[this]
def xM(c:Nat)(W:QM)(d:c<12):QA 80 #[I c] W λe a=>e=QJ (I (aM c:Nat))/\D W a:=by apply(gM (c:Int) W).mono;rintro e a⟨rfl,b⟩;exact⟨cX (vA d),b⟩
def wC(cf:Cf)(x:Sm)(c:Nat):List Value:=[x.mv c,x.fv c,I cf.fifo]
def NS(cf x):(nO cf x).length=36:=by simp[nO,List.range,List.range.loop]
def gC(cf x){q r:Nat}(a:q<12)(b:r<3):(nO cf x)[q*3+r]?=(wC cf x q)[r]?:=eC (wC cf x) 3 (λ_=>rfl) (List.range 12) q q (by simp[a]) r b
def jW(f:Nat->Value)(c:Nat)(v:Value):Nat->Value:=λd=>if d=c then v else f d
def vC(cf)(x:Sm)(f:c<12)(vm vf):nO cf {x with mv:=jW x.mv c vm,fv:=jW x.fv c vf}=(((nO cf x).set (c*3) vm).set (c*3+1) vf).set (c*3+2) (I cf.fifo):=by
 apply Ho;intro i;by_cases g:i<36
 .let e:i=i/3*3+i%3:=Z;obtain⟨q,r,a,b,rfl⟩:∃q r,q<12/\r<3/\i=q*3+r:=⟨i/3,i%3,Z,Z,e⟩;rw[gC _ _ a b];simp only[Gr,Gj,NS];rw[gC _ _ a b];by_cases d:q=c
  .subst d;have:r=0\/r=1\/r=2:=Z;rcases this with rfl|rfl|rfl;.rw[GO Z,GO Z,GP Z,GP Z];simp[wC,jW]
   .rw[GO Z,GP rfl,GP Z];simp[wC,jW]
   rw[GP rfl,GP Z];simp[wC]
  rw[GO Z,GO Z,GO Z];simp[wC,jW,d]
 rw[FJ (by rw[NS];omega),FJ (by simp[NS];omega)]
def Sh.setWt{B x cf h V}(a:Sh B x cf h V){wb wc}(j:x.wv=Vl wb 12 wc)(m:c<12)(vm vf mx' ff')(n:Wq V vm mx')(o:Wq V vf ff'):
  Sh B {x with mv:=jW x.mv c vm,fv:=jW x.fv c vf} cf {h with mx:=dB h.mx c mx',ff:=dB h.ff c ff'} (((V.setCell (Qz wb (c*3)) vm).setCell (Qz wb (c*3+1)) vf).setCell (Qz wb (c*3+2)) (I cf.fifo))/\Ky (· =123) V (((V.setCell (Qz wb (c*3)) vm).setCell (Qz wb (c*3+1)) vf).setCell (Qz wb (c*3+2)) (I cf.fifo))/\V.grownBy (((V.setCell (Qz wb (c*3)) vm).setCell (Qz wb (c*3+1)) vf).setCell (Qz wb (c*3+2)) (I cf.fifo)) (some wb):=by
 let f:=a.wt;rw[j]at f;let⟨q,i⟩:=di f;let b:V.grownBy (((V.setCell (Qz wb (c*3)) vm).setCell (Qz wb (c*3+1)) vf).setCell (Qz wb (c*3+2)) (I cf.fifo)) (some wb):=au (au (au (Q6 V wb) _ _) _ _) _ _;let k:Ky (· =123) V _:=Ky.grown i rfl b;let p:=dP (dP (dP f (c*3) (by rw[NS];omega) vm) (c*3+1) (by rw[Gj,NS];omega) vf) (c*3+2) (by rw[Gj,Gj,NS];omega) (I cf.fifo);refine⟨⟨k.XC a.box,a.bp,a.bq,λg b=>a.bg g (cV (a.sp.qEq k ar) b),a.ds.ky k ar,a.sp.ky k ar ar ar,ai a.sl k,?_,λd l=>?_,ai a.rg k,ai a.ro k,ai a.rl k⟩,k,b⟩;.show World.ownsRow _ B 123 3 x.wv 12 _;rwa[vC cf x m,j]
 by_cases e:d=c;.subst e;simp only[jW,dB,IM];exact⟨n.ky k ar,o.ky k ar⟩
 simp only[jW,dB,GO e];exact⟨(a.wm d l).1.ky k ar,(a.wm d l).2.ky k ar⟩
def Sh.wtCells{B x cf h V}(e:Sh B x cf h V){wb wc}(f:x.wv=Vl wb 12 wc)(b:c<12):QG V wb (c*3) (x.mv c)/\QG V wb (c*3+1) (x.fv c)/\QG V wb (c*3+2) (I cf.fifo)/\∀i,V.frozen? (Qz wb i)=false:=by let a:=e.wt;rw[f]at a;let⟨g,d⟩:=di a;exact⟨bC a (c*3+0) _ (gC cf x b Z),bC a (c*3+1) _ (gC cf x b Z),bC a (c*3+2) _ (gC cf x b Z),λi=>by simp[QD,d]⟩
def fQ(c:Nat):Nat:=[0,384,576,702,798,858,906,936,960,990,1014,1038,1062].getD c 0
def Dz(t:Nat×Nat×Nat):Nat:=fQ t.1+t.2.1*aM t.1+t.2.2
def yD:(dF.zipIdx.all λp=>p.2==Dz p.1)=true:=by decide +kernel
def sN(c:Nat)(a:c<12):fQ c+6*aM c=fQ (c+1):=by have:∀c∈List.range 12,fQ c+6*aM c=fQ (c+1):=ar;exact this c (Gh.2 a)
def xk(a:c<12)(b:s<6)(d:j<aM c):(c,s,j)∈dF:=by unfold dF;exact List.mem_flatMap.2 ⟨c,Gh.2 a,List.mem_flatMap.2 ⟨s,Gh.2 b,FQ.2 ⟨j,Gh.2 d,rfl⟩⟩⟩
def Aq(b:c<12)(d:s<6)(e:j<aM c):dF[fQ c+s*aM c+j]?=some (c,s,j):=by
 let⟨k,a⟩:=List.mem_iff_getElem?.1 (xk b d e);let h:=List.all_eq_true.1 yD ((c,s,j),k) (List.mem_iff_getElem?.2 ⟨k,by rw[List.getElem?_zipIdx,a];simp⟩);let h:k=fQ c+s*aM c+j:=by simpa[Dz]using h
 rwa[<-h]
def uU(a:c<12)(b:s<6)(d:j<aM c):dF.take (fQ c+s*aM c+j+1)=dF.take (fQ c+s*aM c+j)++[(c,s,j)]:=by rw[F_,Aq a b d];rfl
def yI(t:Nat×Nat×Nat):List Value:=[I t.1,I t.2.1,I t.2.2,U (bh t.1 t.2.1 t.2.2:Nat),I 0,I 0]
def Ao:(prog.info? 242).map (λi=>(i.zero,i.size,i.bytes))=some (some (.agg #[I 0,I 0,I 0,U 0,I 0,I 0]),6,48):=E
def BL{W:QM}(B:Nat)(v:QN)(l:List (Nat×Nat×Nat))(r)(g:Nat)(c)(a:W.ownsRow B 242 6 v l.length (l.flatMap yI))(o:W.heap[g]?=some (.cells (yI r).toArray 242))(z:l.length<=2000)(p:B<=W.heap.size):
  ∃d b,QI 237 v (Vl g 1 c) W d b/\b.ownsRow B 242 6 d (l++[r]).length ((l++[r]).flatMap yI)/\W.grownBy b v.ownBlock:=by
 let⟨q,e,f,i,k⟩:=G0 Ao;let m:∀j u,(yI r)[j]?=some u->W.cell? (((Qz g 0):Addr).add j)=some u:=λj u s=>by rw[Addr.add_mid,Oi,GT _ _ j _ _ _ o];simpa using s
 let t:∀u∈yI r,u.oneCell'=true:=λu n=>by simp only[yI,F4,Gp,or_false]at n;rcases n with rfl|rfl|rfl|rfl|rfl|rfl<;>rfl
 let⟨d,b,w,x,y,_⟩:=Ia (P:=prog) W B 237 237 242 q _ 6 48 underlying237 e f i k rfl Z v _ _ a (Qz g 0) 1 c (yI r) rfl m t (by unfold maxLen;omega) Z p;exact⟨d,b,w,by rw[Gu,FC];simpa using x,y⟩
def xL:(prog.info? 123).map (λi=>(i.zero,i.size,i.bytes))=some (some (.agg #[C,C,I 0]),3,56):=E
def rU(fi:Nat)(p:Option Addr×Nat×Nat):List Value:=[.slice p.1 p.2.1 p.2.2,C,I fi]
def By{W:QM}(B:Nat)(v:QN)(fi)(l:List (Option Addr×Nat×Nat))(r)(g:Nat)(c)(a:W.ownsRow B 123 3 v l.length (l.flatMap (rU fi)))(o:W.heap[g]?=some (.cells (rU fi r).toArray 123))(z:l.length<=2000)(p:B<=W.heap.size):
  ∃d b,QI 35 v (Vl g 1 c) W d b/\b.ownsRow B 123 3 d (l++[r]).length ((l++[r]).flatMap (rU fi))/\W.grownBy b v.ownBlock:=by
 let⟨q,e,f,i,k⟩:=G0 xL;let m:∀j u,(rU fi r)[j]?=some u->W.cell? (((Qz g 0):Addr).add j)=some u:=λj u s=>by rw[Addr.add_mid,Oi,GT _ _ j _ _ _ o];simpa using s
 let t:∀u∈rU fi r,u.oneCell'=true:=λu n=>by simp only[rU,F4,Gp,or_false]at n;rcases n with rfl|rfl|rfl<;>rfl
 let⟨d,b,w,x,y,_⟩:=Ia (P:=prog) W B 35 35 123 q _ 3 56 underlying35 e f i k rfl Z v _ _ a (Qz g 0) 1 c (rU fi r) rfl m t (by unfold maxLen;omega) Z p;exact⟨d,b,w,by rw[Gu,FC];simpa using x,y⟩
end
section
variable {B P Q k n r:Nat}{h:Hs}{bud:Int}{m:Nat->Option (Bool×List Int)}{W W' W0:World}{x:Sm}{cf:Cf}{F:Nat->Value}{S:TypeId->Prop}
def Zn(e:List Nat):List Value:=e.map λ(n:Nat)=>Value.int .i64 (n:Int)
def yV(a:List Nat)(n:Nat):Zn (a++[n])=Zn a++[I (n:Int)]:=by simp[Zn]
def jr(e:List Int)(z:Int)(k r:Nat):List Nat:=if(e.take r).contains z then[k]else[]
def yE{a:List Int}{z:Int}(d:a.Nodup)(h:a[r]?=some z):jr a z k r=[]/\jr a z k (r+1)=[k]:=by
 let f:=(Fz.1 h).1;let b:(a.take r).contains z=false:=by rw[List.contains_eq_mem,decide_eq_false_iff_not];intro g;let⟨i,c⟩:=He g;let e:=(Fz.1 c).1;rw[Hm]at e;rw[Hf Z]at c;let j:=II.1 d i r Z f Z;rw[Fy Z]at c h;simp at c h;exact j (c.trans h.symm)
 refine⟨by unfold jr;rw[b];rfl,?_⟩;unfold jr;rw[F_,h];simp
def z8{a:List Int}{z y:Int}(b:z≠y)(h:a[r]?=some y):jr a z k (r+1)=jr a z k r:=by unfold jr;rw[F_,h];simp[b]
def Ci:(prog.info? 3).map (λi=>(i.zero,i.size,i.bytes))=some (some (I 0),1,8):=E
def yC(B x cf h)(c s:Nat)(a)(b R:Nat)(sts W)(f:Sh B x cf h W)(d:Sl W a sts)(g:sts.length=b)(S:sts.Nodup)(a6:b<=3):
  Calls prog 305 #[J x.P 0,I c,I s,.slice a b R] W λe W'=>∃v,e=QJ v/\W'.ownsRow W.heap.size 3 1 v (jc h c s sts 1062).length (Zn (jc h c s sts 1062))/\D W W':=by
 let⟨i0,T,Y,a0,a3⟩:=G0 Ci;let c7:W.cell? (Qz x.P 7)=some (Vl x.G 1062 x.gc):=f.cell 7 _ rfl;let⟨HS,HT,HL⟩:=Qe f d.cells g;go_wp2;refine(let_mvar%?A:=jc h c s sts;?_);go_loopw [9,19] (λv i wr=>∃k:Nat,k<=1062/\i=I k/\Hid (wr.ownsRow W.heap.size 3 1 v (?A k).length (Zn (?A k)))/\Hid (D W wr)) (λ_ i _=>1062-(intOf i).toNat);exact⟨0,aa,rfl,H ⟨rfl,.inl ⟨rfl,rfl⟩⟩,H th⟩
 obtain⟨k,hk,rfl,HO,M⟩:=hrel;by_cases a4:k<1062
 ·have⟨d0,d1,d2,d3,d4,d5⟩:=(HS.below M).slot a4;have HN:=H (xH h c s sts k);have a7:=zJ h c s sts k;obtain⟨va,vb,vc,rfl⟩:∃p l N,u9=.slice p l N:=by rcases HO.2 with⟨rfl,_⟩|⟨g,cp,a5,rfl,_⟩<;>exact⟨_,_,_,rfl⟩
  refine(let_mvar%?B:=((sA k).1:Nat);let_mvar%?C:=((sA k).2.1:Nat);let_mvar%?D:=I ((sA k).2.2:Nat);?_);have⟨n,o,O⟩:=Qe (HO.alloc (.cells #[I ?B,I ?C,?D,U (gt k:Nat),I (dC h k),I (fJ h k)] 242)) (M.alloc M.size (.cells #[I ?B,I ?C,?D,U (gt k:Nat),I (dC h k),I (fJ h k)] 242)) (ao wr (.cells #[I ?B,I ?C,?D,U (gt k:Nat),I (dC h k),I (fJ h k)] 242));by_cases hc:(sA k).1=c
  ·by_cases d:(sA k).2.1=s
   ·have HF:=H (show ?A (k+1)=?A k++jr sts (dC h k) k sts.length by rw[HN];unfold jr;rw[Ge gi];simp[hc,d])
    have a8:(?A k).length<=1062:=Z;generalize f:?A k=q at*;generalize dC h k=z at*;generalize fJ h k=z2 at*;generalize gt k=z3 at*;generalize (sA k).2.2=e3 at*;generalize (sA k).1=t at*;generalize (sA k).2.1=P at*;subst hc;subst d;let w:(wr.alloc (.cells #[I t,I P,I e3,U z3,I z,I z2] 242)).heap[wr.heap.size]?=some (.cells #[I t,I P,I e3,U z3,I z,I z2] 242):=O.out;go_wp2;generalize wr.alloc _=V at n o O w⊢;let f:Hid (wr.heap.size<=wr.heap.size):=gi;generalize wr.heap.size=X at O w⊢;let f:decide ((k:Int)<1062)=true:=bG;simp only[f];let⟨O0,X0⟩:=y7 (show V.ownsRow W.heap.size 3 1 (.slice va vb vc) (q++jr sts z k 0).length (Zn (q++jr sts z k 0)) by simpa[jr]using n.out) w;go_loopw [9,36] (λv i f=>∃r:Nat,r<=b/\i=I r/\Hid (f.ownsRow W.heap.size 3 1 v (q++jr sts z k r).length (Zn (q++jr sts z k r)))/\Hid (D W f)/\Hid (f.heap[X]?=some (.cells #[I t,I P,I e3,U z3,I z,I z2] 242))) (λ_ i _=>b-(intOf i).toNat);(case atStart=>exact⟨0,aa,rfl,O0,o,X0⟩);case round=>
     obtain⟨r,hr,rfl,A,F,Q⟩:=hrel;by_cases G:r<b
     .obtain⟨g,rfl,f⟩:=HT.out r (by rwa[HL]);let j:=NI F f;let w:wr.cell? (Qz X 4)=some (I z):=(by simp[QC,Q.out]);obtain⟨y,K⟩:∃y,sts[r]?=some y:=⟨_,Fy (by rwa[HL])⟩;rw[K]at j;simp only[Ht]at j;obtain⟨a9,b0,b4,rfl⟩:∃p l N,u9=.slice p l N:=by rcases A.2 with⟨rfl,_⟩|⟨g,cp,a5,rfl,_⟩<;>exact⟨_,_,_,rfl⟩
      by_cases f:z=y
      .subst f;let⟨l,m⟩:=yE (k:=k) S K;rw[l,Gl]at A;let⟨O8,B8,X8,A2⟩:=Qf (A.alloc (.cells #[I k] 3)) (F.alloc F.size (.cells #[I k] 3)) ((eg wr (.cells #[I k] 3) X (ag Q)).trans Q) m;go_wp2_with (at_builtin;refine Ib _ rfl _ _ 25 rfl W.heap.size 3 i0 (I 0) 1 8 underlying25 T Y a0 a3 rfl Z _ _ _ rfl O8 _ 1 1 [I k] rfl rfl ?hc ?h1c ?b1 ?b2 ?b3 ?_);(case hc=>exact ek _ _ _ _ bH);(case h1c=>intro u hu;simp at hu;subst hu;rfl);(case b1=>unfold maxLen;omega);(case b2=>omega);(case b3=>exact B8.size);intro v1 w9 p l _;let m:=H (IT p (IT (B8.grown l B8.size (cI O8)) ((l.block X (ag X8) (λe=>by let⟨N,L⟩:=mM O8 e.symm;rw[X8]at L;simp at L)).trans X8)))
       go_wp2;go_roundw;(exact⟨r+1,Z,aY,H (by rw[A2,FC,yV];exact m.1),H m.2.1,H m.2.2⟩);exact QE
      let A2:=H (z8 (k:=k) f K);let l:(z==y)=false:=(by simpa using f);go_wp2;go_roundw;(exact⟨r+1,Z,aY,H (by rw[A2];exact A),F,Q⟩);exact QE
     obtain rfl:r=b:=Z;go_wp2;go_roundw;(exact⟨k+1,Z,aY,H (by rw[HF,HL];exact A),F⟩);exact QE
   have f:=H (show ?A (k+1)=?A k by rw[HN,GO (by simp[d])];simp)
   have j:(?B:Int)=(c:Int):=Z;have l:((?C:Int) != (s:Int))=true:=bG;generalize (sA k).1=t at*;generalize (sA k).2.1=P at*;subst hc;go_wp2;go_roundw;(exact⟨k+1,Z,aY,H (by rw[f];exact n),o⟩);exact QE
  have f:=H (show ?A (k+1)=?A k by rw[HN,GO (by simp[hc])];simp)
  have j:((?B:Int) != (c:Int))=true:=bG;generalize (sA k).1=t at*;go_wp2;go_roundw;(exact⟨k+1,Z,aY,H (by rwa[f]),o⟩);exact QE
 have:k=1062:=Z;subst this;go_wp2;go_ret;exact⟨_,rfl,HO,M⟩
def dX(x:Int)(a:0<=x)(b:x<18446744073709551616):IntKind.u64.wrap x=x:=by rw[eu];omega
def xq(c:Nat)(W:QM)(a:c<12):QA 77 #[I c] W λe W'=>e=QJ (I (eV c:Nat))/\D W W':=by apply(gD (c:Int) W).mono;rintro e W'⟨rfl,b⟩;exact⟨cX (D3 a),b⟩
def wN(c:Nat)(W:QM)(a:c<12):QA 81 #[I c] W λe W'=>e=QJ (I (cy c:Nat))/\D W W':=by apply(dx (c:Int) W).mono;rintro e W'⟨rfl,b⟩;exact⟨cX (uT a),b⟩
def nP(c a:Nat)(v1 v2 v4 v5)(W:QM)(n:c<12)(ha:a<=1000000):
  Calls prog 257 #[.agg #[I c,I v1,I v2,U a,I v4,I v5]] W λe W'=>e=QJ (U (a+eV c:Nat))/\Below W.heap.size W W':=by
 have X:=ao W (.cells #[I c,I v1,I v2,U a,I v4,I v5] 242);refine(let_mvar%?A:=W.alloc (.cells #[I c,I v1,I v2,U a,I v4,I v5] 242);?_);have g:Hid (Below W.heap.size W ?A):=ph;have i:(?A).cell? (Qz W.heap.size 0)=some (I c):=by simp only[QC,X];rfl
 have j:(?A).cell? (Qz W.heap.size 3)=some (U a):=by simp only[QC,X];rfl
 have b:=H (λV=>xq c V n);have d:=aX n;have p:eV c<=1016:=Z;have q:=H (show((a+eV c:Nat):Int)=(a:Int)+(eV c:Int) by omega);generalize eV c=u at*;clear X d;go_wp2;generalize W.alloc _=V at g i j⊢;generalize k:W.heap.size=X at*
 go_region_with (first|(go_at_call 77;apply(b _).mono;rintro e o⟨rfl,d⟩;have f:Below V.heap.size V o:=⟨d.os,d.tape,d.output,d.size,d.block⟩;have l:=NI f j;have m:=NI f i))
 all_goals(
  have r:Hid (Below X W o):=(g.trans (f.mono (by have:=g.size;omega)))
  clear f d l m i j
  go_wp2
  go_ret
  refine⟨?_,k▸r.out⟩
  show Ending.returned (U (IntKind.u64.wrap ((a:Int)+IntKind.u64.wrap (u:Int))))=_
  rw[dX (u:Int) Z Z,dX _ Z Z,q])
def uC(W:QM):Calls prog 306 #[] W λe W'=>∃g,e=QJ (Vl g 2 2)/\RowV W' g 3 (Ns .i64 [0,3])/\D W W':=by let X:=ao W (.cells #[I 0,I 3] 3);let b:D W (W.alloc (.cells #[I 0,I 3] 3)):=ph;let r:RowV (W.alloc (.cells #[I 0,I 3] 3)) W.heap.size 3 (Ns .i64 [0,3]):=⟨_,X,by simp[Ns],λi a=>by simp[Ns]⟩;go_wp2;go_ret;exact⟨_,rfl,r,b⟩
def nY{α:Type}: ∀(n:Nat)(f:Nat->List α),(∀i,i<n->f i=[])->(List.range n).flatMap f=[]
 |0,f,_=>rfl
 |n+1,f,a=>by
  rw[Gs,Gu,nY n f (λi b=>a i Z)]
  simp[a n Z]
def mq{α:Type}: ∀(n c:Nat)(f:Nat->List α),c<n->(∀i,i<n->i≠c->f i=[])->(List.range n).flatMap f=f c
 |0,c,f,h,_=>by omega
 | n+1,c,f,h,a=>by
  rw[Gs,Gu]
  by_cases e:n=c
  .subst e
   rw[nY n f (λi b=>a i Z Z)]
   simp
  rw[mq n c f Z (λi b b=>a i Z b)]
  simp[a n Z e]
def qV:(List.range 1062).map sA=dF:=by
 apply Ho;intro i;by_cases a:i<1062;.rw[Oz a];simp[a]
 rw[FJ bG,FJ (by rw[fG];omega)]
def Ap(h)(c s:Nat){sts}(d:c<12)(e:s<6):(jc h c s sts 1062).map sA=((List.range (aM c)).filter λj=>sts.contains (h.st c s j)).map λj=>(c,s,j):=by
 let f:(jc h c s sts 1062).map sA=dF.filter λt=>t.1==c&&(t.2.1==s&&sts.contains (h.st t.1 t.2.1 t.2.2)):=by rw[<-qV,List.filter_map];rfl
 rw[f];unfold dF;rw[List.filter_flatMap,mq 12 c _ d (λi g a=>?_),List.filter_flatMap,mq 6 s _ e (λi g a=>?_),List.filter_map];.congr 1;apply List.filter_congr;intro j _;simp
 .rw[IC];intro t b;simp only[FQ]at b;obtain⟨j,_,rfl⟩:=b;simp[a]
 rw[IC];intro t b;simp only[List.mem_flatMap,FQ]at b;obtain⟨_,_,j,_,rfl⟩:=b;simp[a]
def t_(h)(c s:Nat)(a:c<12)(b:s<6):(jc h c s [0,3] 1062).map sA=(freeS h c s).map λj=>(c,s,j):=by rw[Ap h c s a b];congr 1;unfold freeS;apply List.filter_congr;intro j _;unfold be;simp only[List.contains_eq_mem,F4,Gp,or_false,Bool.decide_or];rfl
def kE(h)(c s:Nat)(a:c<12)(b:s<6):(jc h c s [0,3] 1062).length=(freeS h c s).length:=by have:=congrArg List.length (t_ h c s a b);simpa using this
def tw{c s K:Nat}(g:c<12)(i:s<6)(d:(jc h c s [0,3] 1062)[r]?=some K):K<1062/\∃j,(freeS h c s)[r]?=some j/\j<aM c/\sA K=(c,s,j):=by
 let f:=FM d;unfold jc at f;let k:=(Gk.1 f).1;refine⟨by simpa using k,?_⟩;let e:=congrArg (λl=>l[r]?) (t_ h c s g i);simp only[Gv,d,Hi]at e;cases b:(freeS h c s)[r]? with
 |none=>rw[b]at e;cases e
 |some j=>rw[b]at e;let a:=FM b;unfold freeS at a;let l:=(Gk.1 a).1;exact⟨j,rfl,by simpa using l,by simpa using e⟩
def vK(p):ce p=(fS p).map sA:=by unfold ce fS;rw[<-qV,List.find?_map];rfl
def AW(h:Hs):(List.range h.rg.length).map (uo h)=h.rg:=by
 apply Ho;intro i;by_cases a:i<h.rg.length;.simp[a,uo]
 rw[FJ bG,FJ Z]
def Aj(h:Hs)(p:Nat):(h.rg.find? λr=>r.base==p)=(fR h p).map (uo h):=by
 let e:(h.rg.find? λr=>r.base==p)=(((List.range h.rg.length).map (uo h)).find? λr=>r.base==p):=by rw[AW]
 rw[e,List.find?_map];rfl
def Ee{p}(h:fS p=some k):k<1062/\gt k=p:=by unfold fS at h;rw[Iu]at h;exact⟨by simpa using h.2.1,by simpa using h.1⟩
def D4{p i:Nat}(a:fR h p=some i):h.rg[i]?=some (uo h i)/\(uo h i).base=p:=by
 unfold fR at a;rw[Iu]at a;let b:i<h.rg.length:=by simpa using a.2.1
 exact⟨by simp[uo,b],by simpa using a.1⟩
inductive C9(h:Hs)(p:Nat):Fd->Int×Int×Int->Prop
 |slot (c s j K:Nat):K<1062->sA K=(c,s,j)->bh c s j=p->h.st c s j=1->C9 h p (.slot c s j) ((K:Int),-1,0)
 |range (r:Rg9) (i:Nat):h.rg[i]?=some r->r.base=p->r.st=1->C9 h p (.range r) (-1,(i:Int),0)
 |no (code:Int):(code=3\/code=4)->C9 h p (.no code) (-1,-1,code)
def jt(h p):C9 h p (aB h p) (fE h p):=by
 unfold aB fE;rw[vK];cases e:fS p with
 |some k=>
  let⟨f,ha⟩:=Ee e;obtain⟨⟨c,s,j⟩,b⟩:∃t,sA k=t:=⟨_,rfl⟩;let g:dC h k=h.st c s j:=by unfold dC;rw[b]
  let i:bh c s j=p:=by rw[<-ha];unfold gt;rw[b]
  simp only[Hi,b,g];by_cases a:h.st c s j=1;.rw[GP a,GP a];exact .slot c s j k f b i a
  rw[GO a,GO a];by_cases d:h.st c s j=0;.rw[GP d,GP d];exact .no 3 (.inl rfl)
  rw[GO d,GO d];exact .no 4 (.inr rfl)
 | none=>
  simp only[Option.map_none];rw[Aj];cases b:fR h p with
  |some i=>
   let⟨c,d⟩:=D4 b;simp only[Hi];by_cases a:(uo h i).st=1;.rw[GP a,GP a];exact .range _ i c d a
   rw[GO a,GO a];exact .no 4 (.inr rfl)
  |none=>
   simp only[Option.map_none];by_cases x:h.rel.contains p=true;.rw[GP x,GP x];exact .no 4 (.inr rfl)
   rw[GO x,GO x];exact .no 3 (.inl rfl)
def zD:(prog.info? 244).map (λi=>(i.zero,i.size,i.bytes))=some (some (.agg #[U 0,I 0,I 0,I 0,I 0,I 0]),6,48):=E
def iY:(prog.info? 24).map (λi=>(i.zero,i.size,i.bytes))=some (some (U 0),1,8):=E
def td(l:List Rg9)(r:Rg9):eM (l++[r])=eM l++rC r:=by simp[eM,rC]
def dS(l):(eM l).length=l.length*6:=by
 induction l with
 |nil=>rfl
 |cons r l a=>simp only[eM,If,FC,FN]at a⊢;rw[a];simp;omega
def k_(l:List Nat)(n:Nat):Us (l++[n])=Us l++[U (n:Int)]:=by simp[Us]
def fK(l):(Us l).length=l.length:=by simp[Us]
def wL{W:QM}(B:Nat)(v:QN)(l:List Rg9)(r){g:Nat}(c)(a:W.ownsRow B 244 6 v l.length (eM l))(o:W.heap[g]?=some (.cells (rC r).toArray 244))(z:l.length<=1000)(p:B<=W.heap.size):
  ∃d b,QI 238 v (Vl g 1 c) W d b/\b.ownsRow B 244 6 d (l++[r]).length (eM (l++[r]))/\W.grownBy b v.ownBlock:=by
 let⟨q,e,f,i,k⟩:=G0 zD;let m:∀j u,(rC r)[j]?=some u->W.cell? (((Qz g 0):Addr).add j)=some u:=λj u s=>by rw[Addr.add_mid,Oi,GT _ _ j _ _ _ o];simpa using s
 let t:∀u∈rC r,u.oneCell'=true:=λu n=>by simp only[rC,F4,Gp,or_false]at n;rcases n with rfl|rfl|rfl|rfl|rfl|rfl<;>rfl
 let⟨d,b,w,x,y,_⟩:=Ia (P:=prog) W B 238 238 244 q _ 6 48 underlying238 e f i k rfl Z v _ _ a (Qz g 0) 1 c (rC r) rfl m t (by unfold maxLen;omega) Z p;exact⟨d,b,w,by rwa[td,FC],y⟩
def jQ(W:QM)(B:Nat)(v:QN)(l m:List Nat)(x:Addr)(c:Nat)(a:W.ownsRow B 24 1 v l.length (Us l))(k:∀j u,(Us m)[j]?=some u->W.cell? (x.add j)=some u)(w:l.length+m.length<=100000)(o:B<=W.heap.size):
  ∃d b,QI 37 v (.slice (some x) m.length c) W d b/\b.ownsRow B 24 1 d (l++m).length (Us (l++m))/\W.grownBy b v.ownBlock:=by
 let⟨p,e,f,g,i⟩:=G0 iY;let q:∀u∈Us m,u.oneCell'=true:=λu j=>by simp only[Us,FQ]at j;obtain⟨n,_,rfl⟩:=j;rfl
 let⟨d,b,r,s,t,_⟩:=Ia (P:=prog) W B 37 37 24 p _ 1 8 underlying37 e f g i rfl Z v _ _ a x m.length c (Us m) (by rw[fK,Nat.mul_one]) k q (by unfold maxLen;omega) Z o;exact⟨d,b,r,by rw[FC];simpa[Us]using s,t⟩
def Dt.own{T V V1}(a:Sx T Q n bud m V)(j:D V V1){g cp}{b:List Int}(l:b.length=k)(d:V1.ownsRow V.heap.size 5 1 (Vl g k cp) k (Ns .u8 b)):Dt Q V1 (some (Qz g 0)) k b:=by
 subst l;let⟨c,o⟩:=di d;let p:V.heap.size<=g:=by
  rcases d.2 with⟨e,_⟩|⟨q,f,i,e,r,_⟩;.simp at e
  simp at e;omega
 refine⟨rfl,λi q=>⟨(Qz g 0),rfl,?_,?_,?_,λf=>?_⟩⟩;.rw[Addr.add_mid,Oi];exact bC d i _ (by simp[Ns,q])
 .rw[Addr.add_mid];exact ag o
 .rw[Addr.add_mid];have:=a.ltQ;show g≠Q;omega
 rw[Addr.add_mid]at f;let r:V1.heap[Q]?=V.heap[Q]?:=j.block Q a.ltQ;let⟨s,e⟩:=a.pgT (cV r f);have:=ag e;exact absurd this (by show¬g<_;omega)
def hT(t:TypeId):Prop:=t=240\/t=242\/t=123\/t=244\/t=24\/t=305\/t=5
structure Bk(B Q:Nat)(W W':QM):Prop where
 bel:Below B W W'
 ky:Ky hT W W'
 by5:∀(g:Nat)(c:Array QN)(f:Nat×Nat),W.heap[g]?=some (.cells c 5 f)->¬e_ Q W g->W'.heap[g]?=some (.cells c 5 f)
 pg:∀g,e_ Q W' g->e_ Q W g\/W.heap.size<=g
def Bk.refl(B Q W):Bk B Q W W:=⟨th,Ky.refl _ _,λ_ _ _ h _=>h,λ_ h=>.inl h⟩
def Bk.trans{B Q a b c}(h:Bk B Q a b)(k:Bk B Q b c):Bk B Q a c:=by
 refine⟨h.bel.trans k.bel,h.ky.trans k.ky,λg j f l e=>k.by5 g j f (h.by5 g j f l e) (λi=>?_),λg e=>?_⟩
 .rcases h.pg g i with d|d;.exact e d
  have:=ag l;omega
 rcases k.pg g e with d|d;.exact h.pg g d
 right;have:=h.bel.size;omega
def Bk.ofBelow(b:D W W')(d:Q<W.heap.size)(e:B<=W.heap.size):Bk B Q W W':=
 ⟨b.mono e,Ky.below b,λg c f a _=>by rwa[b.block g (ag a)],λg a=>.inl (cV (b.block Q d) a)⟩
def Bk.add{V V'}(h:Bk B Q W V)(b:D V V')(a:Q<V.heap.size)(c:B<=V.heap.size):Bk B Q W V':=h.trans (Bk.ofBelow b a c)
def Bk.ofGrown{c l:Array QN}{t:QO}{f m:Nat×Nat}(j:W.heap[P]?=some (.cells c t f))(d:W.heap[Q]?=some (.cells l 305 m))(n:hT t)(o:t≠5)(b:t≠305)(q:B<=P)(k:B<=W.heap.size)(i:W.grownBy W' (some P)):Bk B Q W W':=by
 let p:Q≠P:=λe=>by subst e;rw[j]at d;simp at d;exact b d.2.1
 refine⟨(Fu B W).grown i k (λr a=>by simp at a;omega),Ky.grown j n i,λg s u a _=>?_,λg a=>.inl (cV (i.block Q (ag d) bG) a)⟩;rw[i.block g (ag a) (λe=>?_)];.exact a
 simp at e;subst e;rw[j]at a;simp at a;exact o a.2.1
def Bk.ofSf{T}(i:Sx T Q n bud m W)(a:Sf Q W W')(k:B<=W.heap.size)(l:B<=Q)(b:∀g,e_ Q W g->B<=g):Bk B Q W W':=by
 refine⟨a.below k l b,(a.ky i).more (λt c=>by unfold hT;rcases c with h|h<;>simp[h]),λg c f d b=>?_,a.pg⟩;rw[a.block g (ag d) (λe=>?_) b];.exact d
 subst e;let⟨o,j,_⟩:=i.row;rw[d]at j;simp at j
def Sh.qrow(a:Sh B x cf h W):∃b,W.heap[x.Q]?=some (.cells b 305):=by let⟨b,c,_⟩:=a.sp.row;exact⟨b,c⟩
def Sh.ltQ{B x cf h W}(a:Sh B x cf h W):x.Q<W.heap.size:=a.sp.ltQ
def Sh.bkB(a:Sh B x cf h W)(k:Bk B x.Q W0 W)(c:B<=W0.heap.size)(b:D W W'):Bk B x.Q W0 W':=k.add b a.ltQ (Fx c k.bel.size)
def Sh.bkP(a:Sh B x cf h W)(k:Bk B x.Q W0 W)(b:B<=W0.heap.size)(g:W.grownBy W' (some x.P)):Bk B x.Q W0 W':=by let⟨d,c⟩:=a.qrow;exact k.trans (Bk.ofGrown a.box c (.inl rfl) ar ar a.bp (Fx b k.bel.size) g)
def Sh.bkG(a:Sh B x cf h W)(k:Bk B x.Q W0 W)(d:B<=W0.heap.size)(i:Nat)(v:QN):Bk B x.Q W0 (W.setCell (Qz x.G i) v):=by
 let⟨n,f⟩:=a.qrow;let⟨c,j⟩:=di a.sl;let l:B<=x.G:=by
  rcases a.sl.2 with⟨e,_⟩|⟨g,b,m,e,o,_⟩;.simp at e
  simp at e;omega
 exact k.trans (Bk.ofGrown j f (.inr (.inl rfl)) ar ar l (Fx d k.bel.size) (au (Q6 W x.G) i v))
def Sh.bkS(a:Sh B x cf h W)(k:Bk B x.Q W0 W)(b:B<=W0.heap.size)(f:Sf x.Q W W'):Bk B x.Q W0 W':=k.trans (Bk.ofSf a.sp f (Fx b k.bel.size) a.bq a.bg)
structure Ly where
 P:Nat
 S:Nat
 M:Nat
 R:Nat
 sb:Nat->Nat->Nat
 sr:Nat->Nat->Nat
 sc:Nat->Nat->Nat
 sm:Nat->Nat->Nat->Nat
 qm:Nat->Nat
 qr:Nat->Nat
 qg:Nat->Nat
 qq:Nat->Nat
 da:QP
 dc:Nat
structure Dy where
 f:Nat->Option Nat
 on:Nat->Nat->Bool
 lg:Nat->Option Nat
 ro:QN
 rl:QN
 an:QN
 un:QN
def CZ(c s:Nat)(on:Bool)(r n cap:Nat):Array Value:=#[I c,I s,.bool on,Vl r n cap]
def Oe(st rq:Int)(b j:Nat):Array Value:=#[I st,I rq,J b 0,I j]
def oV(r:Rg9):Array Value:=#[I r.st,I r.rq,I r.first,I r.guards,I r.pages]
def Eu(cf:Cf)(y:Ly)(c k:Nat):Value:=if k=0 then J (y.qm c) 0 else if k=1 then J (y.qg c) 0 else if cf.mix=0 then .iface 84 (J (y.qg c) 0)else .iface 83 (J (y.qm c) 0)
def boxF(cf:Cf)(y:Ly)(d:Dy)(used:Nat)(i:Nat):Value:=
 if i<7 then([I cf.mix,I cf.fifo,I cf.large,I cf.bud,U cf.key,.slice y.da cf.ds.length y.dc,J y.S 0]:List Value)[i]?.getD undef
 else if i<79 then J (y.sb ((i-7)/6) ((i-7)%6)) 0
 else if i<115 then Eu cf y ((i-79)/3) ((i-79)%3)
 else([.map (some y.R),d.ro,d.rl,I used,d.an,d.un]:List Value)[i-115]?.getD undef
def Bxh(P:Nat)(F:Nat->Value)(W:World):Prop:=∃c,W.heap[P]?=some (.cells c 92)/\c.size=121/\∀i,i<121->c[i]?=some (F i)
def Bxh.cell{P F W}(h:Bxh P F W)(i:Nat)(a:i<121):W.cell? (Qz P i)=some (F i):=by let⟨c,b,e,d⟩:=h;rw[ac b];exact d i a
def Bxh.free(h:Bxh P F W)(i:Nat):W.frozen? (Qz P i)=false:=by let⟨c,a,b,d⟩:=h;simp[QD,a]
def Bxh.lt(h:Bxh P F W):P<W.heap.size:=by let⟨c,a,_⟩:=h;exact ag a
def Bxh.ky(h:Bxh P F W)(k:Ky S W W')(a:¬S 92):Bxh P F W':=by let⟨c,b,d⟩:=h;exact⟨c,k.XC b a,d⟩
def kK(F:Nat->Value)(i:Nat)(v:Value):Nat->Value:=λj=>if j=i then v else F j
def Bxh.set(h:Bxh P F W)(i:Nat)(b:i<121)(v):Bxh P (kK F i v) (W.setCell (Qz P i) v):=by
 let⟨c,d,a,f⟩:=h;refine⟨c.setIfInBounds i v,by simp[World.setCell,FD,d],by simpa using a,λj g=>?_⟩;rw[FK];unfold kK;by_cases e:i=j;.subst e;simp[a,b]
 rw[GO e,GO (λa=>e a.symm)];exact f j g
def Bxh.kyS(h:Bxh P F W)(i:Nat)(v:QN):Ky (· =92) W (W.setCell (Qz P i) v):=by let⟨c,a,_⟩:=h;exact Ky.grown a rfl (au (Q6 W P) i v)
def uL(cf y d u)(c:Nat):kK (boxF cf y d u) 118 (I c)=boxF cf y d c:=by
 funext i;unfold kK boxF;by_cases e:i=118;.subst e;rfl
 rw[GO e];by_cases a:i<7;.simp[a]
 by_cases b:i<79;.simp[a,b]
 by_cases f:i<115;.simp[a,b,f]
 simp only[a,b,f,IL];rcases(show i=115\/i=116\/i=117\/i=119\/i=120\/121<=i by omega)with rfl|rfl|rfl|rfl|rfl|g;.rfl
 .rfl
 .rfl
 .rfl
 .rfl
 rw[FJ bG,FJ bG]
def pi(cf y)(d:Dy)(u)(i:Nat)(v:QN)(a:Dy)(b:(i=116/\a={d with ro:=v})\/(i=117/\a={d with rl:=v})\/(i=119/\a={d with an:=v})\/(i=120/\a={d with un:=v})):kK (boxF cf y d u) i v=boxF cf y a u:=by
 funext j;unfold kK boxF;by_cases c:j<7
 .have:j≠i:=by rcases b with⟨h,_⟩|⟨h,_⟩|⟨h,_⟩|⟨h,_⟩<;>omega
  rw[GO this];simp[c]
 by_cases e:j<79
 .have:j≠i:=by rcases b with⟨h,_⟩|⟨h,_⟩|⟨h,_⟩|⟨h,_⟩<;>omega
  rw[GO this];simp[c,e]
 by_cases f:j<115
 .have:j≠i:=by rcases b with⟨h,_⟩|⟨h,_⟩|⟨h,_⟩|⟨h,_⟩<;>omega
  rw[GO this];simp[c,e,f]
 simp only[c,e,f,IL];by_cases g:121<=j;.rw[GO (by rcases b with⟨h,_⟩|⟨h,_⟩|⟨h,_⟩|⟨h,_⟩<;>omega),FJ bG,FJ bG]
 rcases b with⟨rfl,rfl⟩|⟨rfl,rfl⟩|⟨rfl,rfl⟩|⟨rfl,rfl⟩<;>rcases(show j=115\/j=116\/j=117\/j=118\/j=119\/j=120 by omega)with rfl|rfl|rfl|rfl|rfl|rfl<;>rfl
structure Mr(R n:Nat)(lo:Nat->Option Nat)(W:QM):Prop where
 map:∃D:DataW Unit,W.ownsMap prog 24 ev R 4096 D/\Maps.size D<=n/\(∀k:Nat,k<18446744073709551616->D.atKey (.int .u64 k) .nil=sG (lo k))/\∀k:Nat,k<18446744073709551616->has D (.int .u64 k)=(lo k).isSome
def Mr.same{R lo}(h:Mr R n lo W)(b:W'.heap[R]?=W.heap[R]?):Mr R n lo W':=by obtain⟨a,⟨d,c,e,f⟩,g⟩:=h.map;exact⟨a,⟨d,c,b.trans e,f⟩,g⟩
def Mr.typ{R lo}(h:Mr R n lo W):∃b c,W.heap[R]?=some (.map b c):=by obtain⟨a,⟨b,c,d,e⟩,f⟩:=h.map;exact⟨b,c,d⟩
def Um(B:Nat)(W:World)(v:Value)(l:List Nat):Prop:=(v=C/\l=[])\/∃(g o cap:Nat)(c:Array Value),v=.slice (some ⟨g,o,none⟩) l.length cap/\B<=g/\W.heap[g]?=some (.cells c 24)/\o+cap=c.size/\l.length<=cap/\cap<=maxLen/\(∀u∈c.toList,u.oneCell'=true)/\∀i,i<l.length->c[o+i]?=some (U ((l[i]?.getD 0:Nat):Int))
def Um.ky{v l}(h:Um B W v l)(k:Ky S W W')(b:¬S 24):Um B W' v l:=by
 rcases h with h|⟨g,o,a,c,d,e,f,i⟩;.exact .inl h
 exact .inr ⟨g,o,a,c,d,e,k.XC f b,i⟩
def ee:Value->Option Nat
 | .slice (some a) _ _=>some a.block
 |_=>none
structure Fo(B:Nat)(y:Ly):Prop where
 b0:2<B
 bP:B<=y.P
 bS:B<=y.S
 bM:B<=y.M
 bR:B<=y.R
 mr:y.M≠y.R
 bsb:∀c s,c<12->s<6->B<=y.sb c s
 bsr:∀c s,c<12->s<6->B<=y.sr c s
 bsm:∀c s j,c<12->s<6->j<aM c->B<=y.sm c s j
 bq:∀c,c<12->B<=y.qm c/\B<=y.qr c/\B<=y.qg c/\B<=y.qq c
 isb:∀c s c' s',c<12->s<6->c'<12->s'<6->y.sb c s=y.sb c' s'->c=c'/\s=s'
 ism:∀c s j c' s' j',c<12->s<6->j<aM c->c'<12->s'<6->j'<aM c'->y.sm c s j=y.sm c' s' j'->c=c'/\s=s'/\j=j'
 iq:∀c c',c<12->c'<12->c≠c'->y.qr c≠y.qr c'/\y.qr c≠y.qq c'/\y.qq c≠y.qq c'/\y.qg c≠y.qg c'
 da:∀a,y.da=some a->a.block<B
structure Hp(B:Nat)(y:Ly)(d:Dy)(cf:Cf)(h:Hs)(W:QM):Prop where
 ap:Fo B y
 bW:B<=W.heap.size
 box:Bxh y.P (boxF cf y d h.used) W
 ds:Sl W y.da cf.ds
 sp:Im y.S y.M 0 283 (cf.bud:Nat) d.f W
 pg:Pg d.f h.m W
 bf:∀k g,d.f k=some g->B<=g
 sl:∀c s,c<12->s<6->W.heap[y.sb c s]?=some (.cells (CZ c s (d.on c s) (y.sr c s) (aM c) (y.sc c s)) 198)
 rw:∀c s,c<12->s<6->RowV W (y.sr c s) 199 ((List.range (aM c)).map λj=>J (y.sm c s j) 0)
 sm:∀c s j,c<12->s<6->j<aM c->W.heap[y.sm c s j]?=some (.cells (Oe (h.st c s j) (h.rq c s j) (y.sb c s) j) 203)
 wt:∀c,c<12->Qr W (y.qm c) (y.qr c) (y.qg c) (y.qq c) cf.fifo (h.mx c) (h.ff c)
 mp:Mr y.R h.rg.length d.lg W
 lo:∀k,(d.lg k).isSome=h.rg.any λr=>r.base==k
 lb:∀r∈h.rg,∃g,d.lg r.base=some g/\B<=g/\W.heap[g]?=some (.cells (oV r) 225)
 li:∀k k' g,d.lg k=some g->d.lg k'=some g->k=k'
 ro:Um B W d.ro h.row
 rl:W.ownsRow B 24 1 d.rl h.rel.length (Us h.rel)
 rr:∀g,ee d.ro=some g->d.rl.ownBlock≠some g
 tb:Tb W
def EN(d:Dy)(h:Hs):Prop:=∀c s,c<12->s<6->d.on c s=dA h c s
structure Fi(S:QO->Prop)(y:Ly)(W W':QM):Prop where
 ky:Ky S W W'
 m:W'.heap[y.M]?=W.heap[y.M]?
 r:W'.heap[y.R]?=W.heap[y.R]?
def Im.ky{A M st n f}(h:Im A M st n bud f W)(k:Ky S W W')(b:¬S 187)(d:W'.heap[M]?=W.heap[M]?):Im A M st n bud f W':=by obtain⟨a,⟨e,c,g,i⟩,j⟩:=h.map;exact⟨k.XC h.box b,a,⟨e,c,d.trans g,i⟩,j⟩
def Pg.ky{f}(h:Pg f m W)(k:Ky S W W')(d:¬S 220):Pg f m W':=by
 refine h.other (λj b c=>?_);rcases h.at' j with⟨a,_⟩|⟨e,l,g,a,_,_,b⟩;.rw[c]at a;cases a
 rw[c]at a;cases a;rw[k.XC b d,b]
def Qr.ky{M rm G rq mix fifo}(h:Qr W M rm G rq n mix fifo)(k:Ky S W W')(f:¬S 194)(i:¬S 192)(d:¬S 3):Qr W' M rm G rq n mix fifo:=by obtain⟨⟨a,b⟩,⟨ps,o,j,c,e,g⟩,l⟩:=h;exact⟨⟨k.XC a f,cL b k d⟩,⟨ps,o,j,k.XC c i,cL e k d,g⟩,l⟩
def Tb.belowB(h:Tb W)(a:Below B W W')(b:2<B):Tb W':=by let⟨t,c,h⟩:=h.row;exact⟨t,c,by rwa[a.block 2 b]⟩
def Sl.belowB{a zs}(h:Sl W a zs)(b:Below B W W')(ha:∀x,a=some x->x.block<B):Sl W' a zs:=by
 rcases h with h|⟨g,e,c,d,f⟩;.exact .inl h
 exact .inr ⟨g,e,c,by rwa[b.block g (ha _ e)],f⟩
def Hp.keep{y d}(a:Hp B y d cf h W)(k:Fi (λt=>t≠92/\t≠187/\t≠220/\t≠198/\t≠199/\t≠203/\t≠194/\t≠192/\t≠3/\t≠225/\t≠24) y W W')(b:Below B W W'):Hp B y d cf h W':=
 ⟨a.ap,Fx a.bW b.size,a.box.ky k.ky ar,a.ds.belowB b a.ap.da,a.sp.ky k.ky ar k.m,a.pg.ky k.ky ar,a.bf,
 λc s e f=>k.ky.XC (a.sl c s e f),λc s e f=>cL (a.rw c s e f) k.ky ar,λc s j e f i=>k.ky.XC (a.sm c s j e f i),
 λc e=>(a.wt c e).ky k.ky ar ar ar,a.mp.same k.r,a.lo,λr l=>by obtain⟨g,m,n,o⟩:=a.lb r l;exact⟨g,m,n,k.ky.XC o⟩,a.li,a.ro.ky k.ky ar,ai a.rl k.ky,a.rr,a.tb.belowB b a.ap.b0⟩
def Hp.below{B y d cf h W W'}(a:Hp B y d cf h W)(b:D W W'):Hp B y d cf h W':=by let⟨f,c,e⟩:=a.mp.typ;exact a.keep ⟨Ky.below b,b.block _ a.sp.lt.2,b.block _ (ag e)⟩ (b.mono a.bW)
def Hp.cell{B y d cf h W}(a:Hp B y d cf h W)(i:Nat)(b:i<121)(v:QN)(hv:boxF cf y d h.used i=v):W.cell? (Qz y.P i)=some v:=by rw[a.box.cell i b,hv]
end
section
variable {W w:World}{c j k n s s':Nat}{ms:List Int}{cf:Cf}{a:Option Addr}{h:Hs}{m:Nat->Option (Bool×List Int)}{x:Int}
def Da.keep{S M f V p ys}(h:Da S M f w p n ys)(a:Fr S M f f w V):Da S M f V p n ys:=by refine⟨h.1,λi j=>?_⟩;let⟨x,e,c,l,b,d,g⟩:=h.2 i j;refine⟨x,e,?_,FG l a.size,b,d,g⟩;unfold World.cell? at c⊢;rwa[a.block _ l b d g]
def wR(S M)(g:Nat)(bud f m p c)(a:Nat)(n d b)(j:Nat)(ys w)(h:Im S M 0 g bud f w)(u:Pg f m w)(ha:a<18446744073709551616)(o:Da S M f w d b ys)(s:b<=j):
  QA 171 #[J S 0,kf 5 p c a n d b j] w λe t=>e=QJ (.agg #[I (bZ g bud m 5 p c a n ys).2.1,C])/\tg S M g bud f (bZ g bud m 5 p c a n ys).1 w t:=by
 let v:bZ g bud m 5 p c a n ys=(if ci m a (ys.length:Int)=0 then ay m a ys ys.length else m,ci m a (ys.length:Int),[]):=by unfold bZ;rw[GO ar,GP rfl]
 rw[v,o.1];refine run_store S M g bud f m p c a n d b j w h u (λV i q r=>?_);by_cases l:ci m a (b:Int)=0
 .rw[l,GP rfl];let⟨k,K,x,y,z⟩:=rS l;obtain rfl:b=k:=Z
  apply((callsIn_wide (n:=5)).1 (yu S M 1 g bud f m a b j d ys V i q x s y (o.keep r) (λd o=>jR q (z d o)) (λW o r=>by have:=iz S M 1 g bud f m a (b:Nat) W o r ha;rwa [l]at this))).mono;rintro e t⟨rfl,B,F,G⟩;exact⟨rfl,f,B,F,G⟩
 rw[GO l];apply(uQ S a b j d V (by simpa using l) (iz S M 1 g bud f m a b _ (i.alloc _) (q.alloc _) ha)).mono;rintro e t⟨rfl,rfl⟩;exact⟨rfl,f,i.alloc _,q.alloc _,Fr.ofGrown (GZ _ _ none)⟩
def Ek(S M)(b:Nat)(bud f m kd)(p:Int)(c)(a:Nat)(n d dl)(j:Nat)(ys w)(h:Im S M 0 b bud f w)(o:Pg f m w)(l:∀k,b<=k->m k=none)(q:b<=4096)(ha:a<18446744073709551616)(s:p<=9223372036854775807)(x:Da S M f w d dl ys)(t:dl<=j):
  QA 171 #[J S 0,kf kd p c a n d dl j] w λe g=>∃v,e=QJ (.agg #[I (bZ b bud m kd p c a n ys).2.1,v])/\g.ownsRow w.heap.size 5 1 v (bZ b bud m kd p c a n ys).2.2.length (Ns .u8 (bZ b bud m kd p c a n ys).2.2)/\tg S M b bud f (bZ b bud m kd p c a n ys).1 w g:=by
 refine(let_mvar%?A:=bZ b bud m kd p c a n ys;?_);let i:∀(e:Ending)(g:QM),(?A).2.2=[]->(e=QJ (.agg #[I (?A).2.1,C])/\tg S M b bud f (?A).1 w g)->∃v,e=QJ (.agg #[I (?A).2.1,v])/\g.ownsRow w.heap.size 5 1 v (?A).2.2.length (Ns .u8 (?A).2.2)/\tg S M b bud f (?A).1 w g:=by rintro e g u⟨rfl,r⟩;exact⟨_,rfl,by rw[u];exact⟨rfl,.inl ⟨rfl,rfl⟩⟩,r⟩
 by_cases r:kd=4;.subst r;exact y_ S M b bud f m p c a n d dl j ys w h o ha
 by_cases u:kd=5;.subst u;refine(wR S M b bud f m p c a n d dl j ys w h o ha x t).mono (λe g=>i e g ?_);unfold bZ;rw[GO ar,GP rfl]
 by_cases v:kd<0\/5<kd;.refine(yX S M b bud f m kd p c a n d dl j ys w h o v).mono (λe g=>i e g ?_);unfold bZ;rw[GO r,GO u,GP v]
 refine(Af S M b bud f m kd p c a n d dl j ys w h o l q s Z).mono (λe g=>i e g ?_);unfold bZ;rw[GO r,GO u,GO v];split<;>rfl
def nI(m)(p:Nat):∀k j,p+k<=j->aT m p k j=m j
 |0,j,h=>rfl
 |k+1,j,h=>by
  show dT (aT m p k) (p+k) _ j=m j
  rw[aW _ _ _ _ Z]
  exact nI m p k j Z
def pX(m)(p:Nat):∀k j,p+k<=j->bQ m p k j=m j
 |0,j,h=>rfl
 |k+1,j,h=>by
  show dT (bQ m p k) (p+k) _ j=m j
  rw[aW _ _ _ _ Z]
  exact pX m p k j Z
def wM(a:List Int)(i k:Nat)(x:Int)(b:k<a.length):(a.set i x).take (k+1)=(a.set i x).take k++[if k=i then x else a[k]?.getD 0]:=by
 rw[F_];congr 1;rw[Gr];by_cases h:i=k;.subst h;simp[b]
 rw[GO h,GO (λe=>h e.symm)];simp[b]
structure Lp(w:QM)(s o:Nat)(am:QP)(lm cm:Nat)(af:QP)(lf cf n:Nat)(k:Nat)(a:QP)(c:Nat)(ms:List Int)(W:QM):Prop where
 ob:W.heap[o]?=some (.cells #[.slice a k c,C,I n] 123)
 ow:Ow W (o+1) a c (ms.take k)
 s0:W.heap[s]?=some (.cells #[.slice am lm cm,.slice af lf cf,I n] 123)
 s1:W.heap[s+1]?=some (.cells #[C,C,I 0] 123)
 b:D w W
def Fg(h:k<=ms.length):(ms.take k).length=k:=bG
def Lp.next{o am lm cm af lf cf}(h:Lp w s o am lm cm af lf cf n k a c ms W)(r:w.heap.size=s)(t:s+1<o)(B:ms.length=lm)(F:k<lm)(v:lm<=16)(x:Int)(y:ms.take (k+1)=ms.take k++[x]):
  ∃e f b,QI 25 (.slice a k c) (Vl W.heap.size 1 1) (W.alloc (.cells #[I x] 3)) (.slice e (k+1) f) b/\QG b o 0 (.slice a k c)/\b.frozen? (Qz o 0)=false/\Lp w s o am lm cm af lf cf n (k+1) e f ms (b.setCell (Qz o 0) (.slice e (k+1) f)):=by
 let d:D W (W.alloc (.cells #[I x] 3)):=(Fu _ W).alloc gi _;let p:=Fg (ms:=ms) (k:=k) Z;let G:=dO h.ob;let⟨e,f,b,q,l,i⟩:=kV (W.alloc (.cells #[I x] 3)) (o+1) a c (ms.take k) (some (Qz W.heap.size 0)) 1 1 [x] (h.ow.below d) rfl bH (.inr ⟨_,rfl,λj u g=>by
  cases j with
  |zero=>simp[Ns]at g;subst g;rw[show((Qz W.heap.size 0):Addr).add 0=(Qz W.heap.size 0)from rfl,ac (dD W _)];rfl
  |succ j=>simp[Ns]at g⟩) (by rw[p];omega) (by have:=d.size;omega)
 rw[p]at q;rw[<-y]at l;let m:=i.at (ae h.ob d) Z;refine⟨e,f,b,q,bJ m,ah m,⟨?_,?_,oZ (i.at (ae h.s0 d) Z) Z,oZ (i.at (ae h.s1 d) Z) Z,?_⟩⟩;.rw[Ic _ _ _ _ _ _ m];rfl
 .exact l.but (S:=λk=>k=o) ((But.refl _ b).set _ _ _ rfl) (λg e=>by have:=(l.base g e).1;omega)
 exact((az h.b d).trans (i.below (by rw[r];have:=d.size;omega) (λg b=>Z))).setCell iM _
def uf(W base a c zs y)(h:Ow W base a c zs)(g:zs.length<=1000000)(i:base<=W.heap.size):
  ∃d e b,QI 25 (.slice a zs.length c) (Vl W.heap.size 1 1) (W.alloc (.cells #[I y] 3)) (.slice d (zs.length+1) e) b/\Ow b base d e (zs++[y])/\But (λk=>base<=k) W b:=by
 let f:D W (W.alloc (.cells #[I y] 3)):=(Fu _ W).alloc gi _;let⟨d,e,b,l,m,i⟩:=kV (W.alloc (.cells #[I y] 3)) base a c zs (some (Qz W.heap.size 0)) 1 1 [y] (h.below f) rfl bH (.inr ⟨_,rfl,λj u g=>by
  cases j with
  |zero=>simp[Ns]at g;subst g;rw[show((Qz W.heap.size 0):Addr).add 0=(Qz W.heap.size 0)from rfl,ac (dD W _)];rfl
  |succ j=>simp[Ns]at g⟩) Z (by have:=f.size;omega)
 exact⟨d,e,b,l,m,(But.ofBelow f).trans i⟩
def Sl.srcs{zs}(h:Sl w a zs):(a=none/\zs=[])\/∃b,a=some b/\∀j u,(Ns .i64 zs)[j]?=some u->w.cell? (b.add j)=some u:=by
 rcases h with h|⟨g,rfl,c⟩;.exact .inl h
 right;refine⟨_,rfl,λj v hv=>?_⟩;let b:j<(Ns .i64 zs).length:=by
  by_cases b:j<(Ns .i64 zs).length;.exact b
  rw[FJ Z]at hv;cases hv
 have:=c.cell j b;rw[hv]at this;let e:((Qz g 0):Addr).add j=(Qz g j):=by cases j<;>simp[Addr.add]
 rw[e];exact this
def B_(w:World)(n:Nat)(M F:List Int)(z:Int)(e:Ending)(w':World):Prop:=
 ∃i c1 j c2,e=.returned (.tuple #[wv i M.length c1 j F.length c2 (n:Nat),I z])/\Wt w' i M.length j F.length M F/\(i=none->c1=0)/\(j=none->c2=0)/\D w w'/\(∀g,i=some ⟨g,0,none⟩->w.heap.size<=g)/\(∀g,j=some ⟨g,0,none⟩->w.heap.size<=g)
def Lp.fin{o am lm cm af lf cf W2}(h:Lp w s o am lm cm af lf cf n lm a c ms W)(K:w.heap.size=s)(y:s+1<o)(v:ms.length=lm){a2 c2 F}(p:D W W2)(m:Ow W2 W.heap.size a2 c2 F):
  W2.heap[o]?=some (.cells #[.slice a lm c,C,I n] 123)/\(∀b,b=W2.setCell (Qz o 1) (.slice a2 F.length c2)\/b=(W2.setCell (Qz o 1) (.slice a2 F.length c2)).drew ->
   QG b o 0 (.slice a lm c)/\QG b o 1 (.slice a2 F.length c2)/\b.cell? (Qz o 2)=some (I n) /\
   b.heap[s+1]?=some (.cells #[C,C,I 0] 123) /\
   ∀f z,f=((b.setCell ⟨s+1,0,none⟩ (.slice a lm c)).setCell ⟨s+1,1,none⟩ (.slice a2 F.length c2)).setCell ⟨s+1,2,none⟩ (I n)\/f=(((b.setCell ⟨s+1,0,none⟩ (.slice a lm c)).setCell ⟨s+1,1,none⟩ (.slice a2 F.length c2)).setCell ⟨s+1,2,none⟩ (I n)).drew->B_ w n ms F z (QJ (.tuple #[.agg #[.slice a lm c,.slice a2 F.length c2,I n],I z])) f):=by
 let L:=dO h.ob;let q:=ae h.ob p;let A:=ae h.s1 p;let e:ms.take lm=ms:=by rw[<-v,G9]
 let l:=h.ow;rw[e]at l;refine⟨q,λb x=>?_⟩;let d:But (λk=>k=o) W2 b:=by
  rcases x with rfl|rfl;.exact(But.refl _ W2).set _ _ _ rfl
  exact((But.refl (λk=>k=o) W2).set _ _ _ rfl).drew
 let i:b.heap[o]?=some (.cells #[.slice a lm c,.slice a2 F.length c2,I n] 123):=by
  rcases x with rfl|rfl;.rw[Ic _ _ _ _ _ _ q];rfl
  show(W2.setCell (Qz o 1) _).heap[o]?=_;rw[Ic _ _ _ _ _ _ q];rfl
 refine⟨bJ i,bJ i,bJ i,d.at A Z,λf z B=>?_⟩;let j:But (λk=>k=s+1) b f:=by
  rcases B with rfl|rfl;.exact(((But.refl (λk=>k=s+1) b).set _ _ _ rfl).set _ _ _ rfl).set _ _ _ rfl
  exact((((But.refl (λk=>k=s+1) b).set _ _ _ rfl).set _ _ _ rfl).set _ _ _ rfl).drew
 refine⟨a,c,a2,c2,by rw[v];rfl,⟨((((l.below p).but d (λg e=>by have:=(l.base g e).1;omega)).but j (λg e=>by have:=(l.base g e).1;omega)).sl),rfl,((m.but d (λg e=>by have:=(m.base g e).1;omega)).but j (λg e=>by have:=(m.base g e).1;omega)).sl,rfl⟩,l.cap0,m.cap0,?_,λg e=>by have:=(l.base g e).1;omega,λg e=>by have:=(m.base g e).1;have:=h.b.size;omega⟩;let u:=az h.b p;exact(u.trans (d.below (by have:=u.size;omega) (λg G=>Z))).trans (j.below (by have:=u.size;have:=d.size;omega) (λg G=>Z))
def xl(h:Hs):Prop:=∀c s j,0<=h.st c s j/\h.st c s j<=4
def vW(l:xl h)(m:c<12)(n:s<6):(jc h c s [1,2,4] 1062=[])↔(freeS h c s).length=aM c:=by
 unfold jc freeS;rw[IC];constructor
 .intro g;have:((List.range (aM c)).filter λj=>be (h.st c s j))=List.range (aM c):=by rw[Il];intro j e;rw[Gh]at e;let⟨k,a,d⟩:=Oa m n e;let b:=g k (Gh.2 a);unfold dC at b;rw[d]at b;let f:=l c s j;unfold be;simp at b⊢;omega
  rw[this,GG]
 intro o k a;rw[Gh]at a;let d:∀j∈List.range (aM c),be (h.st c s j)=true:=by have:=List.length_filter_eq_length_iff.1 (by rw[o,GG]:((List.range (aM c)).filter λj=>be (h.st c s j)).length=(List.range (aM c)).length);exact this
 intro g;simp[Gi,beq_iff_eq]at g;let⟨b,f,e⟩:=g;let i:=d (sA k).2.2 (Gh.2 (by rw[<-b];exact (mj a).2.2));unfold dC at e;rw[b,f]at e;unfold be at i;simp at e i;omega
def yh(c:Nat)(W:QM)(d:c<12):QA 79 #[I c] W λe a=>e=QJ (I (dI c:Nat))/\D W a:=by apply(em (c:Int) W).mono;rintro e a⟨rfl,b⟩;exact⟨cX (pU d),b⟩
def kw{P:Program}{b:Func}(h:b.results=#[]){a:Array QN}{w:QM}:(results b a).run P w=.ok (.tuple #[]) w:=by simp[results,h]
def jF(m)(p:Nat):∀k j,p<=j->j<p+k->aT m p k j=some (false,List.replicate 1024 0)
 |0,j,a,b=>by omega
 |k+1,j,a,b=>by
  show dT (aT m p k) (p+k) _ j=_
  by_cases e:j=p+k
  .subst e;rw[bV]
  rw[aW _ _ _ _ e];exact jF m p k j a Z
def jJ(m)(p:Nat):∀k j,j<p->aT m p k j=m j
 |0,j,h=>rfl
 |k+1,j,h=>by
  show dT (aT m p k) (p+k) _ j=m j
  rw[aW _ _ _ _ Z]
  exact jJ m p k j h
def cO(m p)(k j:Nat):aT m p k j=if p<=j/\j<p+k then some (false,List.replicate 1024 0)else m j:=by
 split;.rename_i h;exact jF m p k j h.1 h.2
 rename_i h;by_cases e:j<p;.exact jJ m p k j e
 exact nI m p k j Z
def rH(m)(p:Nat):∀k j,p<=j->j<p+k->bQ m p k j=none
 |0,j,a,b=>by omega
 |k+1,j,a,b=>by
  show dT (bQ m p k) (p+k) _ j=_
  by_cases e:j=p+k
  .subst e;rw[bV]
  rw[aW _ _ _ _ e];exact rH m p k j a Z
def lC(m)(p:Nat):∀k j,j<p->bQ m p k j=m j
 |0,j,h=>rfl
 |k+1,j,h=>by
  show dT (bQ m p k) (p+k) _ j=m j
  rw[aW _ _ _ _ Z]
  exact lC m p k j h
def eb(m p)(k j:Nat):bQ m p k j=if p<=j/\j<p+k then none else m j:=by
 split;.rename_i h;exact rH m p k j h.1 h.2
 rename_i h;by_cases e:j<p;.exact lC m p k j e
 exact pX m p k j Z
def uX(m p x)(j:Nat):(dZ m p x j).isSome=(m j).isSome:=by
 unfold dZ;by_cases e:j=p/1024;.subst e;rw[bV,Option.isSome_map]
 rw[aW _ _ _ _ e]
def dj(m a ys):∀k j,(ay m a ys k j).isSome=(m j).isSome
 |0,j=>rfl
 |k+1,j=>by simp[ay];rw[uX];exact dj m a ys k j
def Fine(m:Nat->Option (Bool×List Int)):Prop:=∀k q,m k=some q->q.1=false/\q.2.length=1024
def Fine.put(h:Fine m)(p x):Fine (dZ m p x):=by
 intro k q a;unfold dZ at a;by_cases e:k=p/1024
 .subst e;rw[bV]at a;cases b:m (p/1024)with
  |none=>rw[b]at a;cases a
  |some r=>rw[b]at a;simp at a;subst a;have:=h _ _ b;exact⟨this.1,by simp[this.2]⟩
 rw[aW _ _ _ _ e]at a;exact h k q a
def Fine.store{m}(h:Fine m)(a ys):∀k,Fine (ay m a ys k)
 |0=>h
 |k+1=>(Fine.store h a ys k).put _ _
def Fine.fresh(h:Fine m)(p k:Nat):Fine (aT m p k):=by
 intro j q a;rw[cO]at a;split at a
 .injection a with a;subst a;exact⟨rfl,Gc⟩
 exact h j q a
def Fine.gone(h:Fine m)(p k:Nat):Fine (bQ m p k):=by
 intro j q a;rw[eb]at a;split at a;.cases a
 exact h j q a
def Fine.open(h:Fine m)(k:Nat):isOpen (m k)=(m k).isSome:=by
 cases a:m k with
 |none=>rfl
 |some q=>obtain⟨l,b⟩:=q;have:=(h k _ a).1;simp at this;subst this;rfl
/-! slabs lie apart -/
def rj{d:Nat}(h:c<d)(b:d<12):yJ c+6*(dI c+1)<=yJ d:=by
 let a:∀d:Fin 12,∀c:Fin 12,c.val<d.val->yJ c.val+6*(dI c.val+1)<=yJ d.val:=by decide +kernel
 exact a ⟨d,b⟩ ⟨c,Z⟩ h
def ew{a:Nat}(f:c<12)(i:s<6)(d:a<12)(g:s'<6)(e:¬(c=a/\s=s')):aD c s+(dI c+1)<=aD a s'\/aD a s'+(dI a+1)<=aD c s:=by
 unfold aD;let j:s*(dI c+1)<=5*(dI c+1):=Gm _ Z;let k:s'*(dI a+1)<=5*(dI a+1):=Gm _ Z;rcases Ie c a with h|h|h;.have:=rj h d;omega
 .subst h;rcases Ie s s' with b|b|b;.have:(s+1)*(dI c+1)<=s'*(dI c+1):=Gm _ b;rw[Gy,GF]at this;omega
  .exact absurd ⟨rfl,b⟩ e
  have:(s'+1)*(dI c+1)<=s*(dI c+1):=Gm _ b;rw[Gy,GF]at this;omega
 have:=rj h f;omega
def nM(h:Hs)(c:Nat):List Int:=(h.mx c++h.ff c).filter λv=>decide (v ≠ -1)
structure Inv(cf:Cf)(h:Hs):Prop where
 st:xl h
 fine:Fine h.m
 out:∀k,283<=k->h.m k=none
 slab:∀c s,c<12->s<6->∀i,i<dI c->(h.m (aD c s+i)).isSome=dA h c s
 off:∀c s,c<12->s<6->dA h c s=false->∀j,j<aM c->be (h.st c s j)=true
 req:∀c s j,c<12->s<6->j<aM c->(h.st c s j=1->0<=h.rq c s j/\h.rq c s j<=eV c)/\(h.st c s j≠1->h.rq c s j=0)
 mxl:∀c,c<12->(h.mx c).length=cf.mix
 ffl:∀c,c<12->(h.ff c).length<=cf.fifo
 ffn:∀c,c<12->∀v∈h.ff c,0<=v
 mxn:∀c,c<12->∀v∈h.mx c,-1<=v
 wait:∀c s j,c<12->s<6->j<aM c->(h.st c s j=2↔((s*aM c+j:Nat):Int)∈nM h c)
 wlt:∀c,c<12->∀v∈nM h c,v<6*aM c
 wnd:∀c,c<12->(nM h c).Nodup
 rgs:∀r∈h.rg,187<=r.first/\r.first+r.ext<=283/\1<=r.guards/\r.guards<=3/\1<=r.pages/\(r.st=1/\1016<r.rq/\aR r.rq.toNat=r.pages\/r.st=2/\r.rq=0)
 apart:h.rg.Pairwise λa b=>a.first+a.ext<=b.first\/b.first+b.ext<=a.first
 big:∀k,187<=k->((h.m k).isSome=true↔∃r∈h.rg,r.st=1/\r.first+r.guards<=k/\k<r.first+r.guards+r.pages)
 low:∀k,k<187->(h.m k).isSome=true->∃c s,c<12/\s<6/\aD c s<=k/\k<aD c s+dI c
 row:∀b,b∈h.row↔∃r∈h.rg,r.st=2/\r.base=b
 rownd:h.row.Nodup
 rowl:h.row.length<=cf.large
 rel:∀b∈h.rel,b%1024=0/\187<=b/1024/\b/1024<283/\∀r∈h.rg,b/1024<r.first\/r.first+r.ext<=b/1024
def pB(cf c):nM (aP cf) c=[]:=by unfold nM aP;simp
def Inv.new(cf):Inv cf (aP cf):=by
 refine⟨λc s j=>⟨by simp[aP],by simp[aP]⟩,λk q g=>by simp[aP]at g,λk e=>rfl,λc s a d i o=>rfl,λc s a d p j f=>rfl,λc s j a d f=>⟨by simp[aP],λ_=>rfl⟩,λc a=>by simp[aP],λc a=>by simp[aP],λc a v hv=>by simp[aP]at hv,λc a v hv=>?_,λc s j a d f=>?_,λc a v hv=>?_,λc a=>?_,λr l=>by simp[aP]at l,by simp[aP],λk e=>by simp[aP],λk e m=>by simp[aP]at m,λb=>by simp[aP],by simp[aP],by simp[aP],λb n=>by simp[aP]at n⟩;.simp[aP]at hv;omega
 .rw[pB];simp[aP]
 .rw[pB]at hv;cases hv
 rw[pB];exact List.nodup_nil
def Inv.used(i:Inv cf h)(u:Nat):Inv cf {h with used:=u}:=
 ⟨i.st,i.fine,i.out,i.slab,i.off,i.req,i.mxl,i.ffl,i.ffn,i.mxn,i.wait,i.wlt,i.wnd,i.rgs,i.apart,i.big,i.low,i.row,i.rownd,i.rowl,i.rel⟩
def Inv.bytes(i:Inv cf h)(a ys)(n:Nat):Inv cf {h with m:=ay h.m a ys n}:=by
 let f:∀c s,dA {h with m:=ay h.m a ys n} c s=dA h c s:=λc s=>dj _ _ _ _ _
 refine⟨i.st,i.fine.store _ _ _,λk b=>?_,λc s d e j g=>?_,λc s d e l=>i.off c s d e ((f c s).symm.trans l),i.req,i.mxl,i.ffl,i.ffn,i.mxn,i.wait,i.wlt,i.wnd,i.rgs,i.apart,λk b=>?_,λk b o=>?_,i.row,i.rownd,i.rowl,i.rel⟩;.have:=dj h.m a ys n k;rw[i.out k b]at this;simpa using this
 .rw[f];exact(dj _ _ _ _ _).trans (i.slab c s d e j g)
 .have:=i.big k b;rw[<-dj h.m a ys n k]at this;exact this
 exact i.low k b ((dj h.m a ys n k)▸o)
def Inv.fresh{cf h}(i:Inv cf h){c s:Nat}(n:c<12)(p:s<6):Inv cf {h with m:=aT h.m (aD c s) (dI c)}:=by
 let v:=cD n p;refine(let_mvar%?A:=aT h.m (aD c s) (dI c);?_);let q:∀b s',b<12->s'<6->∀k,k<dI b->?A (aD b s'+k)=if b=c/\s'=s then some (false,List.replicate 1024 0)else h.m (aD b s'+k):=λb s' a d k g=>by
  rw[cO];by_cases e:b=c/\s'=s;.obtain⟨rfl,rfl⟩:=e;rw[GP Z,GP ⟨rfl,rfl⟩]
  rw[GO e,GO];have:=ew a d n p e;omega
 let l:∀b s',b<12->s'<6->dA {h with m:=?A} b s'=if b=c/\s'=s then true else dA h b s':=λb s' a d=>by have:=aX a;let r:=q b s' a d 0 Z;unfold dA;rw[GK]at r;show(?A (aD b s')).isSome=_;rw[r];split<;>rfl
 refine⟨i.st,i.fine.fresh _ _,λk g=>?_,λb s' a d j t=>?_,λb s' a d o=>?_,i.req,i.mxl,i.ffl,i.ffn,i.mxn,i.wait,i.wlt,i.wnd,i.rgs,i.apart,λk g=>?_,λk g u=>?_,i.row,i.rownd,i.rowl,i.rel⟩;.show aT h.m _ _ k=none;rw[cO,GO Z];exact i.out k g
 .rw[l b s' a d];show(aT h.m _ _ _).isSome=_;rw[q b s' a d j t];split;.rfl
  exact i.slab b s' a d j t
 .rw[l b s' a d]at o;split at o;.cases o
  exact i.off b s' a d o
 .show(aT h.m _ _ k).isSome=true↔_;rw[cO,GO Z];exact i.big k g
 let f:(?A k).isSome=true:=u;rw[cO]at f;split at f;.rename_i e;exact⟨c,s,n,p,e.1,e.2⟩
 exact i.low k g f
def aS{f c s j v}:aE f c s j v c s j=v:=by unfold aE;rw[GP ⟨rfl,rfl,rfl⟩]
def aU{f}{a b:Nat}{v}(h:¬(a=c/\s'=s/\b=j)):aE f c s j v a s' b=f a s' b:=by unfold aE;rw[GO h]
def gy(f:Nat->Nat->Nat->Int){v:Int}(h:f c s j=v):aE f c s j v=f:=by
 funext a s' b;by_cases e:a=c/\s'=s/\b=j;.obtain⟨rfl,rfl,rfl⟩:=e;rw[aS,h]
 rw[aU e]
def jL:be x=true↔x=0\/x=3:=by unfold be;simp
def N7(a:j<n):(s*n+j)/n=s/\(s*n+j)%n=j:=by
 let b:0<n:=Z;constructor;.rw[GL,Nat.mul_add_div b,Nat.div_eq_of_lt a,GK]
 rw[GL,Nat.mul_add_mod,H4 a]
def uv{a:Nat}(e:j<n)(b:a<n)(h:s*n+j=s'*n+a):s=s'/\j=a:=by let c:=N7 (s:=s) e;let d:=N7 (s:=s') b;rw[h]at c;exact⟨c.1.symm.trans d.1,c.2.symm.trans d.2⟩
def Cz(a:s<6)(b:j<n):s*n+j<6*n:=by have:(s+1)*n<=6*n:=Gm _ a;rw[Gy,GF]at this;omega
def Inv.setSt(i:Inv cf h)(x:c<12)(y:s<6)(z:j<aM c)(v r:Int)(q:0<=v)(t:v<=4)(l:v≠2)(u:h.st c s j≠2)(m:be v=true\/dA h c s=true)(w:v=1->0<=r/\r<=eV c)(n:v≠1->r=0):Inv cf {h with st:=aE h.st c s j v,rq:=aE h.rq c s j r}:=by
 refine⟨λa s' b=>?_,i.fine,i.out,i.slab,λa s' d f p b g=>?_,λa s' b d f g=>?_,i.mxl,i.ffl,i.ffn,i.mxn,λa s' b d f g=>?_,i.wlt,i.wnd,i.rgs,i.apart,i.big,i.low,i.row,i.rownd,i.rowl,i.rel⟩
 all_goals(by_cases e:a=c/\s'=s/\b=j)
 .obtain⟨rfl,rfl,rfl⟩:=e;show 0<=aE h.st a s' b v a s' b/\aE h.st a s' b v a s' b<=4;rw[aS];exact⟨q,t⟩
 .show 0<=aE h.st c s j v a s' b/\aE h.st c s j v a s' b<=4;rw[aU e];exact i.st a s' b
 .obtain⟨rfl,rfl,rfl⟩:=e;show be (aE h.st a s' b v a s' b)=true;rw[aS];rcases m with k|k;.exact k
  let o:dA h a s'=false:=p;rw[o]at k;cases k
 .show be (aE h.st c s j v a s' b)=true;rw[aU e];exact i.off a s' d f p b g
 .obtain⟨rfl,rfl,rfl⟩:=e;show(aE h.st a s' b v a s' b=1->0<=aE h.rq a s' b r a s' b/\aE h.rq a s' b r a s' b<=eV a)/\(aE h.st a s' b v a s' b≠1->aE h.rq a s' b r a s' b=0);rw[aS,aS];exact⟨w,n⟩
 .show(aE h.st c s j v a s' b=1->0<=aE h.rq c s j r a s' b/\aE h.rq c s j r a s' b<=eV a)/\(aE h.st c s j v a s' b≠1->aE h.rq c s j r a s' b=0);rw[aU e,aU e];exact i.req a s' b d f g
 .obtain⟨rfl,rfl,rfl⟩:=e;show aE h.st a s' b v a s' b=2↔_∈nM h a;rw[aS,<-i.wait a s' b d f g];exact⟨λe=>absurd e l,λe=>absurd e u⟩
 show aE h.st c s j v a s' b=2↔_∈nM h a;rw[aU e];exact i.wait a s' b d f g
def Inv.retire(i:Inv cf h)(b:c<12)(d:s<6)(e:j<aM c)(f:be (h.st c s j)=true)(a:dA h c s=true):Inv cf {h with st:=aE h.st c s j 4}:=by rw[jL]at f;have:=i.setSt b d e 4 0 Z Z Z Z (.inr a) Z (λ_=>rfl);rw[gy h.rq ((i.req c s j b d e).2 Z)]at this;exact this
def Inv.drop(i:Inv cf h)(o:c<12)(q:s<6)(v:∀j,j<aM c->be (h.st c s j)=true):Inv cf {h with m:=bQ h.m (aD c s) (dI c)}:=by
 let x:=cD o q;refine(let_mvar%?A:=bQ h.m (aD c s) (dI c);?_);let r:∀d s',d<12->s'<6->∀k,k<dI d->?A (aD d s'+k)=if d=c/\s'=s then none else h.m (aD d s'+k):=λd s' b f k l=>by
  rw[eb];by_cases e:d=c/\s'=s;.obtain⟨rfl,rfl⟩:=e;rw[GP Z,GP ⟨rfl,rfl⟩]
  rw[GO e,GO];have:=ew b f o q e;omega
 let n:∀d s',d<12->s'<6->dA {h with m:=?A} d s'=if d=c/\s'=s then false else dA h d s':=λd s' b f=>by have:=aX b;let t:=r d s' b f 0 Z;unfold dA;rw[GK]at t;show(?A (aD d s')).isSome=_;rw[t];split<;>rfl
 refine⟨i.st,i.fine.gone _ _,λk l=>?_,λd s' b f j u=>?_,λd s' b f p=>?_,i.req,i.mxl,i.ffl,i.ffn,i.mxn,i.wait,i.wlt,i.wnd,i.rgs,i.apart,λk l=>?_,λk l w=>?_,i.row,i.rownd,i.rowl,i.rel⟩
 .show bQ h.m _ _ k=none;rw[eb];split;.rfl
  exact i.out k l
 .rw[n d s' b f];show(bQ h.m _ _ _).isSome=_;rw[r d s' b f j u];split;.rfl
  exact i.slab d s' b f j u
 .rw[n d s' b f]at p;split at p;.rename_i e;obtain⟨rfl,rfl⟩:=e;exact v
  exact i.off d s' b f p
 .show(bQ h.m _ _ k).isSome=true↔_;rw[eb,GO Z];exact i.big k l
 let g:(?A k).isSome=true:=w;rw[eb]at g;split at g;.cases g
 exact i.low k l g
/-! what a push does to the numbers that wait -/
def nq(l:List Int):List Int:=l.filter λv=>decide (v ≠ -1)
def oE(a b:List Int):nq (a++b)=nq a++nq b:=by unfold nq;rw[Hl]
def mI{a:List Int}(f:1<=n)(e:a.length<=n)(g:0<=x)(c:∀v∈a,0<=v):(cu n a x).1.length<=n/\(∀v∈(cu n a x).1,0<=v)/\(((cu n a x).2 = -1/\(x::a).Perm (cu n a x).1)\/(0<=(cu n a x).2/\(x::a).Perm ((cu n a x).2::(cu n a x).1))):=by
 unfold cu;by_cases h:a.length<n
 .rw[GP h];refine⟨bG,λv hv=>?_,.inl ⟨rfl,?_⟩⟩
  .rcases F8.1 hv with b|b;.exact c v b
   simp at b;omega
  exact(List.perm_append_comm (l₁:=a) (l₂:=[x])).symm
 rw[GO h];cases a with
 |nil=>simp at h;omega
 | cons y d=>
  refine⟨by simp at e h⊢;omega,λv hv=>?_,.inr ⟨c _ bH,?_⟩⟩
  .rcases F8.1 hv with b|b;.exact c v (by simp at b⊢;exact .inr b)
   simp at b;omega
  exact(List.Perm.swap y x d).trans (List.Perm.cons y (List.perm_append_comm (l₁:=d) (l₂:=[x])).symm)
def tG{a b:List Int}(h:a.Perm b):(nq a).Perm (nq b):=h.filter _
def tU{l:List Int}(h:∀v∈l,0<=v):nq l=l:=by unfold nq;rw[Il];intro v hv;have:=h v hv;simp;omega
def set_perm:∀(l:List Int)(i:Nat)(y x:Int),l[i]?=some y->(x::l).Perm (y::l.set i x)
 |[],i,y,x,h=>by simp at h
 |a::l,0,y,x,h=>by simp at h;subst h;exact List.Perm.swap a x l
 |a::l,i+1,y,x,h=>by
  simp at h
  exact(List.Perm.swap a x l).trans ((List.Perm.cons a (set_perm l i y x h)).trans (List.Perm.swap y a _))
def rG{b c:List Int}{d}(A:1<=n)(m:c.length<=n)(G:0<=x)(e:∀v∈c,0<=v)(i:∀v∈b,-1<=v):(ed n b c x d).1.length=b.length/\(ed n b c x d).2.1.length<=n/\(∀v∈(ed n b c x d).2.1,0<=v)/\(∀v∈(ed n b c x d).1,-1<=v)/\(((ed n b c x d).2.2 = -1/\(x::nq (b++c)).Perm (nq ((ed n b c x d).1++(ed n b c x d).2.1)))\/(0<=(ed n b c x d).2.2/\(x::nq (b++c)).Perm ((ed n b c x d).2.2::nq ((ed n b c x d).1++(ed n b c x d).2.1)))):=by
 unfold ed;by_cases o:b=[]
 .subst o;rw[GP rfl];let⟨p,j,q⟩:=mI A m G e;refine⟨rfl,p,j,?_,?_⟩
  .intro v hv;cases hv
  rwa[FV,FV,tU e,tU j]
 rw[GO o];let K:=List.length_pos_iff.2 o;have L:md d b.length<b.length:=by unfold md;let f:=IP d (show((b.length:Nat):Int)≠0 by omega);let g:=IB d (show(0:Int)<(b.length:Nat) by omega);omega
 generalize md d b.length=k at*;obtain⟨y,r⟩:∃y,b[k]?=some y:=⟨_,Fy L⟩;let M:=i y (FM r);let f:=set_perm b k y x r;let B:∀v∈b.set k x,-1<=v:=λv hv=>by
  rcases List.mem_or_eq_of_mem_set hv with h|h;.exact i v h
  omega
 rw[r];simp[Ht];by_cases g:y = -1
 .rw[GP g];refine⟨bH,m,e,B,.inl ⟨rfl,?_⟩⟩;let l:=tG f;let s:nq (y::b.set k x)=nq (b.set k x):=by subst g;rfl
  let t:nq (x::b)=x::nq b:=by unfold nq;rw[Hn bG]
  rw[s,t]at l;rw[oE,oE];exact List.Perm.append_right (nq c) l
 rw[GO g];let u:0<=y:=Z;let⟨p,j,q⟩:=mI (x:=y) A m u e;refine⟨bH,p,j,B,?_⟩;let l:=tG f;let s:nq (y::b.set k x)=y::nq (b.set k x):=by unfold nq;rw[Hn bG]
 let t:nq (x::b)=x::nq b:=by unfold nq;rw[Hn bG]
 rw[s,t]at l;rw[oE,oE,tU e,tU j];let F:(x::(nq b++c)).Perm (nq (b.set k x)++(y::c)):=by apply(List.Perm.append_right c l).trans;exact(List.perm_middle (a:=y) (l₁:=nq (b.set k x)) (l₂:=c)).symm
 rcases q with⟨w,z⟩|⟨w,z⟩;.exact .inl ⟨w,F.trans (List.Perm.append_left _ z)⟩
 refine .inr ⟨w,F.trans ((List.Perm.append_left _ z).trans ?_)⟩;exact List.perm_middle
def oO(h c):nM h c=nq (h.mx c++h.ff c):=rfl
def ka:(freeS h c s).length=aM c↔∀j,j<aM c->be (h.st c s j)=true:=by
 unfold freeS;constructor;.intro b j a;refine(let_mvar%?A:=List.range (aM c);?_);have:=List.length_filter_eq_length_iff.1 (by rw[b,GG]:((?A).filter λj=>be (h.st c s j)).length=(?A).length);exact this j (Gh.2 a)
 intro b;have:((?A).filter λj=>be (h.st c s j))=?A:=by rw[Il];intro j a;exact b j (Gh.1 a)
 rw[this,GG]
def er(cf:Cf)(h:Hs)(c s j:Nat):Int:=(ed cf.fifo (h.mx c) (h.ff c) ((s*aM c+j:Nat):Int) ((if cf.mix=0 then 0 else dr cf h cf.mix:Nat):Int)).2.2
def bX(cf:Cf)(h:Hs)(c s j:Nat):Hs:=
 {h with m:=ay h.m (bh c s j) (List.replicate (cy c) 0) (cy c),st:=aE h.st c s j 2,rq:=aE h.rq c s j 0,used:=if cf.mix=0 then h.used else h.used+1,mx:=dB h.mx c (ed cf.fifo (h.mx c) (h.ff c) ((s*aM c+j:Nat):Int) ((if cf.mix=0 then 0 else dr cf h cf.mix:Nat):Int)).1,ff:=dB h.ff c (ed cf.fifo (h.mx c) (h.ff c) ((s*aM c+j:Nat):Int) ((if cf.mix=0 then 0 else dr cf h cf.mix:Nat):Int)).2.1}
def cW(cf h c s j):aL cf h c s j=if er cf h c s j = -1 then bX cf h c s j else bK (bX cf h c s j) c ((er cf h c s j).toNat/aM c) ((er cf h c s j).toNat%aM c):=by
 unfold aL er bX;by_cases a:cf.mix=0;.simp only[a,IM]
 simp[a,IL];rfl
def cP(f c v):dB f c v c=v:=by unfold dB;rw[GP rfl]
def eF{f}{d:Nat}{v}(h:d≠c):dB f c v d=f d:=by unfold dB;rw[GO h]
def Inv.freed(i:Inv cf h)(X:1<=cf.fifo)(u:c<12)(Y:s<6)(W:j<aM c)(hl:h.st c s j=1):
  (er cf h c s j = -1/\Inv cf (bX cf h c s j)) \/
  (∃s' a,0<=er cf h c s j/\(er cf h c s j).toNat/aM c=s'/\(er cf h c s j).toNat%aM c=a/\s'<6/\a<aM c/\dA h c s'=true/\Inv cf {bX cf h c s j with st:=aE (bX cf h c s j).st c s' a 3}):=by
 refine(let_mvar%?C:=((s*aM c+j:Nat):Int);?_);let a0:(0:Int)<=?C:=Z;refine(let_mvar%?E:=((if cf.mix=0 then 0 else dr cf h cf.mix:Nat):Int);?_);let⟨w1,w2,w3,w4,w5⟩:=rG (d:=?E) X (i.ffl c u) a0 (i.ffn c u) (i.mxn c u);refine(let_mvar%?A:=ed cf.fifo (h.mx c) (h.ff c) ?C ?E;?_);have hL:er cf h c s j=(?A).2.2:=rfl;refine(let_mvar%?B:=bX cf h c s j;let_mvar%?D:=aE h.st c s j 2;?_);have p:?B={h with m:=ay h.m (bh c s j) (List.replicate (cy c) 0) (cy c),st:=?D,rq:=aE h.rq c s j 0,used:=if cf.mix=0 then h.used else h.used+1,mx:=dB h.mx c (?A).1,ff:=dB h.ff c (?A).2.1}:=rfl;generalize ?A=r at*;generalize er cf h c s j=left at*;let⟨M,F,z⟩:=r;dsimp only at hL w1 w2 w3 w4 w5 p;subst hL;let Q:=i.bytes (bh c s j) (List.replicate (cy c) 0) (cy c);let K:dA h c s=true:=by
  cases h9:dA h c s with
  |true=>rfl
  |false=>have:=i.off c s u Y h9 j W;rw[hl]at this;simp[be]at this
 let R:?C∉nM h c:=λP=>by have:=(i.wait c s j u Y W).2 P;omega
 let S:=GI.2 ⟨R,i.wnd c u⟩;let L:∀v∈?C::nM h c,v<6*aM c:=λv hv=>by
  rcases F4.1 hv with l|l;.have:=Cz Y W;omega
  exact i.wlt c u v l
 let N:∀s' a,s'<6->a<aM c->(?D c s' a=2↔((s'*aM c+a:Nat):Int)∈?C::nM h c):=λs' a k g=>by
  by_cases e:s'=s/\a=j;.obtain⟨rfl,rfl⟩:=e;rw[aS];simp
  rw[aU (by rintro⟨_,l,x⟩;exact e ⟨l,x⟩),i.wait c s' a u k g,F4];refine⟨.inr,λl=>?_⟩;rcases l with l|l;.have:=uv g W (show s'*aM c+a=s*aM c+j by omega);exact absurd this e
  exact l
 let hQ:∀f,nM {?B with st:=f} c=nq (M++F):=λf=>by rw[p];unfold nM;dsimp only;rw[cP,cP];rfl
 let O:∀f b,b≠c->nM {?B with st:=f} b=nM h b:=λf b q=>by rw[p];unfold nM;dsimp only;rw[eF q,eF q]
 let t:∀f,(∀b s' a,0<=f b s' a/\f b s' a<=4)->(∀b s' a,b≠c->f b s' a=h.st b s' a)->(∀s' a,s'<6->a<aM c->be (h.st c s' a)=true->dA h c s'=false->be (f c s' a)=true)->(∀s' a,s'<6->a<aM c->(f c s' a=1↔h.st c s' a=1/\¬(s'=s/\a=j)))->(∀s' a,s'<6->a<aM c->(f c s' a=2↔((s'*aM c+a:Nat):Int)∈nq (M++F)))->(nq (M++F)).Nodup->(∀v∈nq (M++F),v<6*aM c)->Inv cf {?B with st:=f}:=by
  intro f G A T B V a6 a7;refine⟨G,?_,?_,?_,?_,?_,?_,?_,?_,?_,?_,?_,?_,?_,?_,?_,?_,?_,?_,?_,?_⟩;.rw[p];exact Q.fine
  .rw[p];exact Q.out
  .rw[p];exact Q.slab
  .intro b s' n k w a g;have o:dA h b s'=false:=by let e:dA {?B with st:=f} b s'=dA h b s':=(by rw[p];exact dj _ _ _ _ _);rw[e]at w;exact w
   show be (f b s' a)=true;by_cases e:b=c;.subst e;exact T s' a k g (i.off b s' n k o a g) o
   rw[A b s' a e];exact i.off b s' n k o a g
  .intro b s' a n k g;let e:({?B with st:=f}:Hs).rq=aE h.rq c s j 0:=(by rw[p]);rw[e];show(f b s' a=1->_)/\(f b s' a≠1->_);let y:=i.req b s' a n k g;by_cases e:b=c/\s'=s/\a=j;.obtain⟨rfl,rfl,rfl⟩:=e;rw[aS];refine⟨λl=>?_,λ_=>rfl⟩;exact absurd ⟨rfl,rfl⟩ ((B s' a k g).1 l).2
   rw[aU e];by_cases o:b=c;.subst o;refine⟨λl=>y.1 ((B s' a k g).1 l).1,λl=>y.2 (λx=>l ((B s' a k g).2 ⟨x,λr=>e ⟨rfl,r⟩⟩))⟩
   rwa[A b s' a o]
  .intro b n;let e:({?B with st:=f}:Hs).mx=dB h.mx c M:=(by rw[p]);rw[e];by_cases o:b=c;.subst o;rw[cP,w1];exact i.mxl b n
   rw[eF o];exact i.mxl b n
  .intro b n;let e:({?B with st:=f}:Hs).ff=dB h.ff c F:=(by rw[p]);rw[e];by_cases o:b=c;.subst o;rwa[cP]
   rw[eF o];exact i.ffl b n
  .intro b n;let e:({?B with st:=f}:Hs).ff=dB h.ff c F:=(by rw[p]);rw[e];by_cases o:b=c;.subst o;rwa[cP]
   rw[eF o];exact i.ffn b n
  .intro b n;let e:({?B with st:=f}:Hs).mx=dB h.mx c M:=(by rw[p]);rw[e];by_cases o:b=c;.subst o;rwa[cP]
   rw[eF o];exact i.mxn b n
  .intro b s' a n k g;show f b s' a=2↔_;by_cases o:b=c;.subst o;rw[hQ];exact V s' a k g
   rw[O _ _ o,A b s' a o];exact i.wait b s' a n k g
  .intro b n;by_cases o:b=c;.subst o;rwa[hQ]
   rw[O _ _ o];exact i.wlt b n
  .intro b n;by_cases o:b=c;.subst o;rwa[hQ]
   rw[O _ _ o];exact i.wnd b n
  .rw[p];exact i.rgs
  .rw[p];exact i.apart
  .rw[p];exact Q.big
  .rw[p];exact Q.low
  .rw[p];exact i.row
  .rw[p];exact i.rownd
  .rw[p];exact i.rowl
  rw[p];exact i.rel
 rw[<-oO]at w5;rcases w5 with⟨e1,A⟩|⟨e1,A⟩
 .left;refine⟨e1,?_⟩;have:=t (?D) (λb s' a=>?_) (λb s' a q=>aU (by rintro⟨l,_⟩;exact q l)) (λs' a k g hf w=>?_) (λs' a k g=>?_) (λs' a k g=>(N s' a k g).trans A.mem_iff) (A.nodup_iff.1 S) (λv hv=>L v (A.mem_iff.2 hv));.rw[p]at this⊢;exact this
  .by_cases e:b=c/\s'=s/\a=j;.obtain⟨rfl,rfl,rfl⟩:=e;rw[aS];omega
   rw[aU e];exact i.st b s' a
  .by_cases e:c=c/\s'=s/\a=j;.obtain⟨_,rfl,rfl⟩:=e;rw[K]at w;cases w
   rwa[aU e]
  by_cases e:c=c/\s'=s/\a=j;.obtain⟨_,rfl,rfl⟩:=e;rw[aS];simp
  rw[aU e];exact⟨λl=>⟨l,λx=>e ⟨rfl,x⟩⟩,λl=>l.1⟩
 right;have T:left∈?C::nM h c:=A.mem_iff.2 bH;have a9:=L left T;have hd:left.toNat/aM c<6:=Nat.div_lt_of_lt_mul (by rw[GL];omega);have P:left.toNat%aM c<aM c:=Nat.mod_lt _ Z;have he:((left.toNat/aM c*aM c+left.toNat%aM c:Nat):Int)=left:=by rw[Nat.div_add_mod'];omega
 have n:?D c (left.toNat/aM c) (left.toNat%aM c)=2:=(N _ _ hd P).2 (by rwa[he]);generalize left.toNat/aM c=o at*;generalize left.toNat%aM c=y at*;let B:dA h c o=true:=by
  by_cases e:c=c/\o=s/\y=j;.obtain⟨_,rfl,rfl⟩:=e;exact K
  rw[aU e]at n;cases h9:dA h c o with
  |true=>rfl
  |false=>have:=i.off c o u hd h9 y P;rw[n]at this;simp[be]at this
 refine⟨o,y,e1,rfl,rfl,hd,P,B,?_⟩;let V:(?B).st=?D:=by rw[p]
 rw[V];let G:=A.nodup_iff.1 S;refine t (aE (?D) c o y 3) (λb s' a=>?_) (λb s' a q=>?_) (λs' a k g hf w=>?_) (λs' a k g=>?_) (λs' a k g=>?_) (GI.1 G).2 (λv hv=>L v (A.mem_iff.2 (Ij _ hv)))
 .by_cases e:b=c/\s'=o/\a=y;.obtain⟨rfl,rfl,rfl⟩:=e;rw[aS];omega
  rw[aU e];by_cases e:b=c/\s'=s/\a=j;.obtain⟨rfl,rfl,rfl⟩:=e;rw[aS];omega
  rw[aU e];exact i.st b s' a
 .rw[aU (by rintro⟨l,_⟩;exact q l),aU (by rintro⟨l,_⟩;exact q l)]
 .by_cases e:c=c/\s'=o/\a=y;.obtain⟨_,rfl,rfl⟩:=e;rw[B]at w;cases w
  rw[aU e];by_cases e:c=c/\s'=s/\a=j;.obtain⟨_,rfl,rfl⟩:=e;rw[K]at w;cases w
  rwa[aU e]
 .by_cases e:c=c/\s'=o/\a=y;.obtain⟨_,rfl,rfl⟩:=e;rw[aS];refine⟨λl=>Z,λl=>?_⟩;rw[aU (by rintro⟨_,x⟩;exact l.2 x)]at n;omega
  rw[aU e];by_cases e:c=c/\s'=s/\a=j;.obtain⟨_,rfl,rfl⟩:=e;rw[aS];simp
  rw[aU e];exact⟨λl=>⟨l,λx=>e ⟨rfl,x⟩⟩,λl=>l.1⟩
 by_cases e:c=c/\s'=o/\a=y;.obtain⟨_,rfl,rfl⟩:=e;rw[aS,he];exact⟨λl=>Z,λl=>absurd l ((GI.1 G).1)⟩
 rw[aU e,N s' a k g,A.mem_iff,F4];refine⟨λl=>?_,.inr⟩;rcases l with l|l;.rw[<-he]at l;have:=uv g P (show s'*aM c+a=o*aM c+y by omega);exact absurd ⟨rfl,this⟩ e
 exact l
def Inv.fSlot(i:Inv cf h)(d:1<=cf.fifo)(g:c<12)(k:s<6)(l:j<aM c)(m:h.st c s j=1):Inv cf (aL cf h c s j):=by
 rw[cW];rcases i.freed d g k l m with⟨e,b⟩|⟨s',r,e,n,o,f,p,q,b⟩;.rw[GP e];exact b
 rw[GO Z,n,o];unfold bK;dsimp only;split
 .rename_i a;exact b.drop g f (ka.1 a)
 exact b
def lr{P:Nat->Bool}(h:(List.range n).find? P=some k):k<n/\P k=true:=by rw[Iu]at h;exact⟨by simpa using h.2.1,h.1⟩
structure Stay(h h':Hs):Prop where
 live:∀c s j,be (h.st c s j)=false->h'.st c s j=h.st c s j
 mem:∀k,(h.m k).isSome=true->h'.m k=h.m k
 rq:h'.rq=h.rq
 mx:h'.mx=h.mx
 ff:h'.ff=h.ff
 rg:h'.rg=h.rg
 row:h'.row=h.row
 rel:h'.rel=h.rel
def Stay.refl(h):Stay h h:=⟨λ_ _ _ _=>rfl,λ_ _=>rfl,rfl,rfl,rfl,rfl,rfl,rfl⟩
def Stay.trans{a b c}(h:Stay a b)(k:Stay b c):Stay a c:=by
 refine⟨λx y z d=>?_,λp e=>?_,k.rq.trans h.rq,k.mx.trans h.mx,k.ff.trans h.ff,k.rg.trans h.rg,k.row.trans h.row,k.rel.trans h.rel⟩;.rw[k.live x y z (by rwa[h.live x y z d]),h.live x y z d]
 rw[k.mem p (by rwa[h.mem p e]),h.mem p e]
def Inv.room(i:Inv cf h)(f:c<12){d:Hs}(a:cJ cf h c=some (s,d)):s<6/\Inv cf d/\dA d c s=true/\0<(freeS d c s).length/\Stay h d/\d.used=h.used/\d.st=h.st:=by
 unfold cJ at a;cases j:NW h c with
 |some b=>rw[j]at a;simp at a;obtain⟨rfl,rfl⟩:=a;let⟨d,e⟩:=lr j;simp at e;refine⟨d,i,e.1,?_,Stay.refl _,rfl,rfl⟩;have:=e.2;exact List.length_pos_iff.2 this
 | none=>
  rw[j]at a;cases l:qS h c with
  |none=>rw[l]at a;cases a
  | some b=>
   rw[l]at a;dsimp only at a;split at a;.cases a
   simp at a;obtain⟨rfl,rfl⟩:=a;let⟨g,e⟩:=lr l;simp at e;let q:=aX f;refine(let_mvar%?A:=aT h.m (aD c b) (dI c);?_);let n:dA {h with m:=?A} c b=true:=by unfold dA;show(?A (aD c b)).isSome=true;rw[cO,GP Z];rfl
   refine⟨g,i.fresh f g,n,?_,⟨λ_ _ _ _=>rfl,λk o=>?_,rfl,rfl,rfl,rfl,rfl,rfl⟩,rfl,rfl⟩;.have:=ka.2 (i.off c b f g e);show 0<(freeS h c b).length;omega
   show ?A k=h.m k;rw[cO,GO];intro p;have:=i.slab c b f g (k-aD c b) Z;rw[show aD c b+(k-aD c b)=k by omega,o,e]at this;cases this
def dy(h:Hs)(c:Nat):Nat->Nat
 |0=>0
 |s+1=>dy h c s+(freeS h c s).length
def iD(h c s):(freeS h c s).length<=aM c:=by unfold freeS;have:=Hb (λj=>be (h.st c s j)) (List.range (aM c));simpa using this
def mf(h c):∀s,dy h c s<=s*aM c
 |0=>by simp[dy]
 |s+1=>by
  have:=mf h c s
  let a:=iD h c s
  simp[dy]
  rw[Gy,GF]
  omega
def N4{l:List Nat}{p q:Nat->Bool}(d:∀a∈l,q a=true->p a=true){a:Nat}(ha:a∈l)(j:p a=true)(k:q a=false):(l.filter q).length<(l.filter p).length:=by
 induction l with
 |nil=>cases ha
 | cons b r m=>
  let n:(r.filter q).length<=(r.filter p).length:=by rw[<-List.countP_eq_length_filter,<-List.countP_eq_length_filter];exact List.countP_mono_left (λx f h=>d x (Ij _ f) h)
  by_cases e:a=b;.subst e;rw[Hn j,Ix (by simp[k])];simp;omega
  let g:a∈r:=by simpa[e]using ha
  have:=m (λx f=>d x (Ij _ f)) g;by_cases i:q b=true;.rw[Hn i,Hn (d b bH i)];simp;omega
  rw[Ix i];by_cases c:p b=true;.rw[Hn c];simp;omega
  rw[Ix c];exact this
def uH(b:j<aM c)(d:be (h.st c s j)=true):(freeS {h with st:=aE h.st c s j 4} c s).length<(freeS h c s).length:=by
 unfold freeS;refine N4 (λk e a=>?_) (Gh.2 b) d ?_
 .by_cases e:k=j;.subst e;dsimp only at a;rw[aS]at a;cases a
  dsimp only at a;rw[aU (by rintro⟨_,_,h⟩;exact e h)]at a;exact a
 dsimp only;rw[aS];rfl
def jE{h:Hs}{c s j:Nat}(f:j<aM c)(g:be (h.st c s j)=true):∀n,(n<=s->dy {h with st:=aE h.st c s j 4} c n=dy h c n)/\(s<n->dy {h with st:=aE h.st c s j 4} c n<dy h c n)
 |0=>⟨λ_=>rfl,λh=>Z⟩
 | n+1=>by
  let b:=jE (s:=s) f g n
  let a:∀s',s'≠s->freeS {h with st:=aE h.st c s j 4} c s'=freeS h c s':=λs' d=>by
   unfold freeS
   apply List.filter_congr
   intro k _
   dsimp only
   rw[aU (by rintro⟨_,h,_⟩;exact d h)]
  simp[dy]
  constructor
  .intro i
   rw[b.1 Z,a n Z]
  intro i
  by_cases e:n=s
  .subst e
   rw[b.1 Z]
   have:=uH (h:=h) (s:=n) f g
   omega
  have:=b.2 Z
  rw[a n e];omega
def mW(cf h)(a:0<n):dr cf h n<n:=by unfold dr;let c:=IB (cf.ds[h.used]?.getD 0) (show(0:Int)<(n:Nat) by omega);omega
def du(cf:Cf)(h:Hs)(c s:Nat):Nat:=(freeS h c s)[dr cf h (freeS h c s).length]?.getD 0
def oH(cf)(d:0<(freeS h c s).length):(freeS h c s)[dr cf h (freeS h c s).length]?=some (du cf h c s)/\du cf h c s<aM c/\be (h.st c s (du cf h c s))=true:=by
 let a:(freeS h c s)[dr cf h (freeS h c s).length]?=some (du cf h c s):=by unfold du;rw[Fy (mW cf h d)];rfl
 refine⟨a,?_⟩;let b:=FM a;unfold freeS at b;let⟨f,g⟩:=Gk.1 b;exact⟨Gh.1 f,g⟩
def f_(cf c)(f:Nat)(h:Hs):bN cf c (f+1) h=match cJ cf h c with
  |none=>(none,h)
  |some (s,a)=>if clean a.m (bh c s (du cf a c s)) (cy c)then(some (s,du cf a c s),{a with used:=a.used+1})
   else bN cf c f {a with used:=a.used+1,st:=aE a.st c s (du cf a c s) 4}:=rfl
structure Ey(cf:Cf)(c:Nat)(h:Hs)(o:Option (Nat×Nat))(h':Hs):Prop where
 inv:Inv cf h'
 stay:Stay h h'
 some:∀s j,o=some (s,j)->s<6/\j<aM c/\dA h' c s=true/\be (h'.st c s j)=true/\be (h.st c s j)=true/\clean h'.m (bh c s j) (cy c)=true
def Inv.small{cf}{c:Nat}(o:c<12):∀(f:Nat){h:Hs},Inv cf h->Ey cf c h (bN cf c f h).1 (bN cf c f h).2/\(bN cf c f h).2.used<=h.used+f
 |0,h,i=>⟨⟨i,Stay.refl _,λs j e=>by cases e⟩,gi⟩
 | f+1,h,i=>by
  rw[f_]
  cases z:cJ cf h c with
  |none=>exact⟨⟨i,Stay.refl _,λs j e=>by cases e⟩,iM⟩
  | some q=>
   let⟨s,b⟩:=q
   let⟨v,w,d,g,a,N,k⟩:=i.room o z
   let⟨_,x,l⟩:=oH cf g
   dsimp only
   generalize du cf b c s=j at*
   split
   .rename_i p
    refine⟨⟨w.used _,⟨a.live,a.mem,a.rq,a.mx,a.ff,a.rg,a.row,a.rel⟩,λs' m e=>?_⟩,iM⟩
    simp at e
    obtain⟨rfl,rfl⟩:=e
    refine⟨v,x,d,l,?_,p⟩
    rwa[<-k]
   let⟨r,t⟩:=Inv.small o f ((w.used (b.used+1)).retire o v x l d)
   let u:Stay b {b with used:=b.used+1,st:=aE b.st c s j 4}:=by refine⟨λO s' m y=>?_,λ_ _=>rfl,rfl,rfl,rfl,rfl,rfl,rfl⟩;apply aU;rintro⟨rfl,rfl,rfl⟩;rw[l]at y;cases y
   refine⟨⟨r.inv,a.trans (u.trans r.stay),λs' m e=>?_⟩,?_⟩
   .let⟨B,F,G,K,L,M⟩:=r.some s' m e;refine⟨B,F,G,K,?_,M⟩;rw[<-k];let n:be (aE b.st c s j 4 c s' m)=true:=L
    by_cases e:c=c/\s'=s/\m=j
    .obtain⟨_,rfl,rfl⟩:=e;exact l
    rw[aU e]at n;exact n
   dsimp only at t;omega
def lA{B:Nat}{d:QP}{b f:Nat}{l:List Nat}(h:W.ownsRow B 24 1 (.slice d b f) l.length (Us l)):b=l.length/\∀i,i<l.length->∃g,d=some (Qz g 0)/\W.cell? (Qz g i)=some (U ((l[i]?.getD 0:Nat):Int)):=by
 have hv:b=l.length:=by let⟨a,c,e⟩:=aK h;injection e with _ j _
 subst hv;refine⟨rfl,λi e=>?_⟩;let⟨g,j⟩:=cr h Z;subst j;refine⟨g,rfl,bC h i _ ?_⟩;simp[Us,e]
def wZ(B:Nat)(o:QP)(r s p:Nat)(l:List Nat)(W:QM)(h:W.ownsRow B 24 1 (.slice o r s) l.length (Us l))(v:l.length<=100000):
  Calls prog 169 #[.slice o r s,U p] W λe w=>(∃i:Int,e=QJ (I i)/\(decide (0<=i)=l.contains p))/\w=W:=by
 obtain⟨rfl,c⟩:=lA h;let⟨n,a⟩:=Qa l.length;rw[a]at v⊢;let d:=H a;go_wp2;go_loopw [8] (λi wr=>∃k:Nat,k<=n/\i=I k/\wr=W/\Hid (∀j,j<k->l[j]?.getD 0≠p)) (λi _=>n-(intOf i).toNat);exact⟨0,aa,rfl,rfl,H (λj a=>Z)⟩
 obtain⟨k,F,rfl,rfl,t⟩:=hrel;by_cases b:k<n
 .obtain⟨g,rfl,f⟩:=(H c).out k (by rwa[d]);have y:=H (show l[k]?.getD 0∈l by rw[Fy (by rwa[d])];exact Iw _);generalize m:l[k]?.getD 0=q at*;by_cases u:p=q;.subst u;go_wp2;go_ret;refine⟨⟨_,rfl,?_⟩,rfl⟩;rw[List.contains_iff_mem.2 y];simp
  go_wp2;go_roundw
  exact⟨k+1,Z,aY,trivial,H (λj a=>by
   rcases Nat.lt_succ_iff_lt_or_eq.1 a with m|m;.exact t j m
   subst m;rw[H m];exact λe=>u e.symm)⟩
  exact QE
 obtain rfl:k=n:=Z;go_wp2;go_ret;refine⟨⟨-1,rfl,?_⟩,rfl⟩;have:l.contains p=false:=by
  cases c:l.contains p with
  |false=>rfl
  |true=>exfalso;let g:=List.contains_iff_mem.1 c;let⟨j,a⟩:=He g;let f:=(Fz.1 a).1;exact t j (by rwa[<-d.out]) (by rw[a];rfl)
 rw[this];rfl
def qw(B:Nat)(b:QP)(c d p:Nat)(l:List Nat)(W:QM)(h:W.ownsRow B 24 1 (.slice b c d) l.length (Us l))(g:l.length<=100000):
  Calls prog 115 #[.slice b c d,U p] W λe j=>e=QJ (.bool (l.contains p))/\j=W:=by
 have a:=H (wZ B b c d p l W h g);clear h;go_in;go_wp2_with fail;apply (a).mono;rintro e m⟨⟨i,rfl,f⟩,rfl⟩;have k:=H f;clear f;go_wp2;go_ret;rw[<-k.out];exact QB
end
section
variable {w:World}{a c j k n p s:Nat}{h:Hs}{cf:Cf}{q r:Rg9}
def Ow.mono{b:Nat}{b' a zs}(h:Ow w b' a c zs)(k:b<=b'):Ow w b a c zs:=by
 refine⟨h.1,?_⟩;rcases h.2 with i|⟨g,d,f,e,l,j⟩;.exact .inl i
 exact .inr ⟨g,d,f,e,Z,j⟩
def iG(mix:List Int)(i:Nat)(x:Int)(k:Nat):Int:=if i<k then mix[i]?.getD 0 else x
def vq(am b cm af lf)(cf n:Nat)(mix fifo)(x:Int)(d w)(h:Wt w am b af lf mix fifo)(a8:af=none->cf=0)(f:eN mix fifo (n:Nat)=true)(hx:0<=x):
  Calls prog 265 #[wv am b cm af lf cf (n:Nat),I x,I d] w λe w'=>B_ w n (ed n mix fifo x d).1 (ed n mix fifo x d).2.1 (ed n mix fifo x d).2.2 e w':=by
 have⟨i,j⟩:=Qb (md d b);have g:=H (lF w (.cells #[.slice am b cm,.slice af lf cf,I n] 123) (.cells #[C,C,I 0] 123));have l:=H (u_ am b cm af lf cf (n:Nat) mix fifo (h.below g.2.2));rw[f]at l;have⟨g1,g2,g3,g4⟩:=ti f;rw[h.ml]at g1;rw[h.fl]at g4;have LM:=H (λW(P:0<b)=>lU d b W P Z);rw[<-j]at LM;have HI:Hid (0<b->i<b):=λP=>j▸oh d b P;have CM:=H (λW(hW:D w W)=>(h.m.below hW).cells);have GS:=H (λW(hW:D w W)=>(h.f.below hW).srcs);have ML:=H h.ml;have M:=H h.fl;have b7:¬(x<0):=Z;refine(let_mvar%?B:=mix.set i x;let_mvar%?C:=ed n mix fifo x d;?_);have HW:=H (show ?C=if b=0 then([],(cu n fifo x).1,(cu n fifo x).2)else if mix[i]?.getD 0 = -1 then(?B,fifo,-1)else(?B,(cu n fifo (mix[i]?.getD 0)).1,(cu n fifo (mix[i]?.getD 0)).2) by
  unfold ed;rw[h.ml,<-j];by_cases L:b=0;·rw[GP L,GP (List.length_eq_zero_iff.1 (by rw[h.ml];exact L))]
  rw[GO L,GO (λe=>L (by rw[<-h.ml,e];rfl))])
 have NB:=H (show∀k,k<b -> -1<=mix[k]?.getD 0 by
  intro k hk;unfold eN at f;simp[Gi]at f;have:=f.2.2.2.2.1;unfold nb at this;rw[List.all_eq_true]at this;have m:k<mix.length:=by rw[h.ml];exact hk
  have o:=this (mix[k]) bH;simp[m]at o⊢;exact o)
 unfold wv at l⊢;clear h f j;go_in;go_wp2_with fail;refine(l).mono ?_;rintro e Q⟨rfl,f⟩;have m:=H (az g.2.2 f);have j:=H (ae g.1 f);have o:=H (ae g.2.1 f);have S1:=H (show w.heap.size+1<Q.heap.size by have:=f.size;rw[cS,cS]at this;omega);clear f l g;refine(let_mvar%?D:=Qz w.heap.size;?_);have c2:Q.cell? (?D 2)=some (I n):=bJ j;have f:=H ((Fu _ Q).alloc gi (.cells #[C,C,I n] 123));have L0:=H (show Lp w w.heap.size Q.heap.size am b cm af lf cf n 0 none 0 (?B) (Q.alloc (.cells #[C,C,I n] 123))from
  ⟨dD _ _,Ow.nil _ _,ae j f,ae o f,az m f⟩)
 have c0:(Q.alloc (.cells #[C,C,I n] 123)).cell? (?D 0)=some (.slice am b cm):=bJ L0.s0;clear f j o m;go_wp2;generalize Q.heap.size=o at*;refine(let_mvar%?A:=iG mix i x;?_);go_loopw [28,9] (λv y wr=>∃(k:Nat)(a:QP)(c:Nat),k<=b/\v=I k/\y=I (?A k)/\Hid (Lp w w.heap.size o am b cm af lf cf n k a c (?B) wr)) (λv _ _=>b-(intOf v).toNat);case atStart=>exact⟨0,none,0,aa,rfl,rfl,L0⟩
 case round=>
  obtain⟨k,a,c,hk,rfl,rfl,s⟩:=hrel;clear L0 c0;by_cases N:k<b
  ·obtain⟨g,rfl,S⟩:=CM.out _ s.b k (by rw[ML];exact N);have P:0<b:=Z;have K:=HI.out P;have T:wr.cell? (?D 0)=some (Vl g b cm):=bJ s.s0;have V:wr.cell? (Qz o 0)=some (.slice a k c):=bJ s.ob;have f:=wM mix i k x (by rw[ML];exact N);by_cases l:k=i
   ·have t:((k:Int)==(i:Int))=true:=(by simp[l]);rw[GP l]at f;have⟨u,z,O,j,q,A,m⟩:=s.next rfl S1 (by rw[Gj,ML]) N g1 x f
    have F:=H m;have G:=H (show mix[k]?.getD 0=?A (k+1) by unfold iG;rw[GP Z,l]);clear m f l;go_wp2_with fail;refine(LM _ P).mono ?_;rintro e R⟨rfl,rfl⟩;go_wp2_with (at_builtin;refine up j ?_);go_roundw;(exact⟨k+1,u,z,Z,aY,by rw[<-G.out],F⟩);exact QE
   have t:((k:Int)==(i:Int))=false:=bG;rw[GO l]at f;have⟨u,z,O,j,q,A,m⟩:=s.next rfl S1 (by rw[Gj,ML]) N g1 _ f
   have F:=H m;have G:=H (show ?A k=?A (k+1) by
    unfold iG;by_cases h:i<k;·rw[GP h,GP Z]
    rw[GO h,GO Z])
   clear m f l;generalize mix[k]?.getD 0=y at*;go_wp2_with fail;refine(LM _ P).mono ?_;rintro e R⟨rfl,rfl⟩;go_wp2_with (at_builtin;refine up j ?_);go_roundw;(exact⟨k+1,u,z,Z,aY,by rw[<-G.out],F⟩);exact QE
  obtain rfl:b=k:=Z;have HY:=H (show -1<=?A b/\(?A b = -1->?C=(?B,fifo,-1))/\(0<=?A b->?C=(?B,(cu n fifo (?A b)).1,(cu n fifo (?A b)).2)) by
   rw[HW];by_cases L:b=0
   ·have e:?A b=x:=(by unfold iG;rw[GO Z]);have f:mix=[]:=List.length_eq_zero_iff.1 (by rw[ML];exact L);rw[e,GP L,f];exact⟨Z,λh=>Z,λ_=>rfl⟩
   have e:?A b=mix[i]?.getD 0:=(by unfold iG;rw[GP (HI Z)]);have f:=NB.out i (HI Z);rw[e,GO L];refine⟨f,λh=>by rw[GP h],λh=>by rw[GO Z]⟩)
  have⟨a2,c2,W2,j,z,l⟩:=kV wr wr.heap.size none 0 [] af lf cf fifo (Ow.nil _ _) M a8 (GS _ s.b) bG gi;simp[F1,Oi,FV]at j z;have f:=l.below gi (λ_ h=>h);have b8:wr.cell? (?D 1)=some (.slice af lf cf):=bJ s.s0;have R:(?B).length=b:=by rw[Gj,ML]
  generalize ?A b=y at*;by_cases hy:y = -1
  ·have t:¬(0<=y):=Z;have HE:=H (HY.2.1 hy);have n2:W2.cell? (?D 2)=some (I n):=(by rw[ac (ae s.s0 f)];rfl);have a0:(lf:Int)<=(n:Int):=Z;have⟨m,q⟩:=s.fin rfl S1 R f z;rw[M]at q;have⟨p0,p1,p2,l,O⟩:=q _ (.inl rfl);have o1:W2.cell? (Qz o 1)=some (C):=bJ m;have o2:W2.frozen? (Qz o 1)=false:=ah m;have P3:=H l;have P4:=H O;have d0:=(GT _ _ 0 _ _ _ l).trans rfl;have d1:=(GT _ _ 1 _ _ _ l).trans rfl;have d2:=(GT _ _ 2 _ _ _ l).trans rfl;have f0:=GY _ _ 0 _ _ l;have f1:=GY _ _ 1 _ _ l;have f2:=GY _ _ 2 _ _ l;go_wp2_with (at_builtin;refine up j ?_);refine GX (ic dU (w.heap.size+1) 123 (0,0) dU (set3 P3) underlying123 rfl E) dU ?_;rw[HE];exact P4 _ _ (.inl rfl)
  have a9:0<=y:=by have:=HY.1;omega
  have HE:=H (HY.2.2 a9);have⟨a3,c3,S,u,A,F⟩:=uf W2 wr.heap.size a2 c2 fifo y z (by rw[M];omega) f.size;have t:D wr S:=f.trans (F.below f.size (λ_ h=>h));have T:(fifo++[y]).length=lf+1:=by rw[FC,M];rfl
  rw[M]at u;have n2:S.cell? (?D 2)=some (I n):=by rw[ac (ae s.s0 t)];rfl
  by_cases a1:lf<n
  ·have a0:(lf:Int)+1<=(n:Int):=Z;have V:=H (show ?C=(?B,fifo++[y],-1) by rw[HE];unfold cu;rw[GP (by rw[M];exact a1)]);have⟨m,q⟩:=s.fin rfl S1 R t A;rw[T]at q;have⟨p0,p1,p2,l,O⟩:=q _ (.inl rfl);have o1:S.cell? (Qz o 1)=some (C):=bJ m;have o2:S.frozen? (Qz o 1)=false:=ah m;have P3:=H l;have P4:=H O;have d0:=(GT _ _ 0 _ _ _ l).trans rfl;have d1:=(GT _ _ 1 _ _ _ l).trans rfl;have d2:=(GT _ _ 2 _ _ _ l).trans rfl;have f0:=GY _ _ 0 _ _ l;have f1:=GY _ _ 1 _ _ l;have f2:=GY _ _ 2 _ _ l;go_wp2_with (at_builtin;first|(refine up j ?_;clear j)|refine up u ?_);refine GX (ic dU (w.heap.size+1) 123 (0,0) dU (set3 P3) underlying123 rfl E) dU ?_;rw[V];exact P4 _ _ (.inl rfl)
  have a0:¬((lf:Int)+1<=(n:Int)):=Z;have V:=H (show ?C=(?B,(fifo++[y]).drop 1,fifo[0]?.getD 0) by
   rw[HE];unfold cu;rw[GO (by rw[M];exact a1)];cases fifo with
   |nil=>have:=M.out;simp at this;omega
   |cons f r=>rfl)
  obtain⟨g,rfl,z⟩:∃g,a3=some (Qz g 0)/\RowV S g 3 (Ns .i64 (fifo++[y])):=by
   rcases A.sl with⟨_,L⟩|h;·simp at L
   exact h
  have F:=A.capge;rw[T]at F;have⟨dp,b0,a5⟩:=iy g 1 (lf+1) c3 Z F;simp[Nat.add_sub_cancel]at b0;have a6:=a5 Z;subst a6;have b2:=A.base g rfl;have l1:((fifo++[y]).drop 1).length=lf:=by rw[List.length_drop,T];omega
  have⟨a4,c4,W4,G,X,Y⟩:=kV S S.heap.size none 0 [] (some (Qz g 1)) lf (c3-1) ((fifo++[y]).drop 1) (Ow.nil _ _) l1 bH (.inr ⟨_,rfl,by have:=mU z 1 lf (by rw[T];omega);rwa [Ge Z]at this⟩) bG gi
  simp only[F1,Oi,FV]at G X;have K:=z.below (Y.below gi (λ_ h=>h)) z.lt;have⟨m,q⟩:=s.fin rfl S1 R (t.trans (Y.below (B:=wr.heap.size) t.size (λk h=>Fx t.size h))) (X.mono t.size);rw[l1]at q;have⟨p0,p1,p2,l,O⟩:=q _ (.inl rfl);have o1:W4.cell? (Qz o 1)=some (C):=bJ m;have o2:W4.frozen? (Qz o 1)=false:=ah m;have b3:g≠o:=by have:=dO s.ob;omega
  have b4:g≠w.heap.size+1:=by have:=dO s.ob;have:=S1.out;omega
  have b6:w.heap.size+1≠g:=λe=>b4 e.symm
  have q0:(W4.setCell (Qz o 1) (.slice a4 lf c4)).cell? (Qz g 0)=some (I (fifo[0]?.getD 0)):=by
   have:=jZ (K.other (p:=(Qz o 1)) b3 (.slice a4 lf c4)) 0 (by rw[T];omega);rw[this];congr 2;cases fifo with
   |nil=>have:=M.out;simp at this;omega
   |cons f r=>rfl
  have P3:=H l;have P4:=H O;have d0:=(GT _ _ 0 _ _ _ l).trans rfl;have d1:=(GT _ _ 1 _ _ _ l).trans rfl;have d2:=(GT _ _ 2 _ _ _ l).trans rfl;have f0:=GY _ _ 0 _ _ l;have f1:=GY _ _ 1 _ _ l;have f2:=GY _ _ 2 _ _ l;generalize fifo[0]?.getD 0=f at*;go_wp2_with (at_builtin;first|(refine up j ?_;clear j)|(refine up u ?_;clear u)|refine up G ?_);go_region
  all_goals
   go_wp2
   refine GX (ic dU (w.heap.size+1) 123 (0,0) dU (set3 P3) underlying123 rfl E) dU ?_
   rw[V]
   exact P4 _ _ (.inr rfl)
def yl(k:Nat):List.replicate k (-1:Int)++[-1]=List.replicate (k+1) (-1):=by rw[List.replicate_succ']
structure Ln(w:QM)(s o n k:Nat)(a:QP)(c:Nat)(W:QM):Prop where
 ob:W.heap[o]?=some (.cells #[.slice a k c,C,I n] 123)
 ow:Ow W (o+1) a c (List.replicate k (-1))
 s1:W.heap[s]?=some (.cells #[C,C,I 0] 123)
 b:D w W
def Ln.next{o a W}(h:Ln w s o n k a c W)(q:w.heap.size=s)(m:s<o)(r:k<=16):
  ∃d e b,QI 25 (.slice a k c) (Vl W.heap.size 1 1) (W.alloc (.cells #[I (-1)] 3)) (.slice d (k+1) e) b/\QG b o 0 (.slice a k c)/\b.frozen? (Qz o 0)=false/\Ln w s o n (k+1) d e (b.setCell (Qz o 0) (.slice d (k+1) e)):=by
 let t:=dO h.ob;let⟨d,e,b,l,f,i⟩:=uf W (o+1) a c (List.replicate k (-1)) (-1) h.ow bG Z;rw[Gc]at l;rw[yl]at f;let j:=i.at h.ob Z;refine⟨d,e,b,l,bJ j,ah j,⟨?_,?_,oZ (i.at h.s1 Z) Z,?_⟩⟩;.rw[Ic _ _ _ _ _ _ j];rfl
 .exact f.but (S:=λk=>k=o) ((But.refl _ b).set _ _ _ rfl) (λg e=>by have:=(f.base g e).1;omega)
 exact(h.b.trans (i.below (by have:=h.b.size;omega) (λg b=>Z))).setCell iM _
def xY(m n:Nat)(w:QM)(v:m<=16):
  Calls prog 181 #[I m,I n] w λe f=>∃a c,e=QJ (wv a m c none 0 0 (n:Nat))/\Ow f w.heap.size a c (List.replicate m (-1))/\D w f:=by
 let b:=lF w (.cells #[C,C,I 0] 123) (.cells #[C,C,I n] 123);refine(let_mvar%?B:=w.heap.size+1;?_);let g:=H (show Ln w w.heap.size (?B) n 0 none 0 ((w.alloc (.cells #[C,C,I 0] 123)).alloc (.cells #[C,C,I n] 123))from⟨b.2.1,Ow.nil _ _,b.1,b.2.2⟩);unfold wv;go_wp2;go_loopw [0] (λi wr=>∃(k:Nat)(a:QP)(c:Nat),k<=m/\i=I ((m:Int)-(k:Int))/\Hid (Ln w w.heap.size (?B) n k a c wr)) (λi _=>(intOf i).toNat);case atStart=>exact⟨0,none,0,aa,aY,g⟩
 case round=>
  obtain⟨k,a,c,x,rfl,b⟩:=hrel;by_cases l:k<m
  .let o:(0:Int)<(m:Int)-(k:Int):=Z;let⟨p,q,y,d,r,s,j⟩:=b.next rfl Z Z
   let u:wr.cell? ⟨?B,0,none⟩=some (.slice a k c):=bJ b.ob;go_wp2_with (at_builtin;refine up d ?_);go_roundw;(exact⟨k+1,p,q,Z,aY,(H j)⟩);exact QE
  obtain rfl:m=k:=Z;let o:¬((0:Int)<(m:Int)-(m:Int)):=Z;let u:wr.cell? ⟨?B,0,none⟩=some (.slice a m c):=bJ b.ob;let r:wr.cell? ⟨?B,1,none⟩=some (C):=bJ b.ob;let s:wr.cell? ⟨?B,2,none⟩=some (I n):=bJ b.ob;refine(let_mvar%?A:=Qz w.heap.size;?_);let d:wr.cell? (?A 0)=some (C):=bJ b.s1;let j:wr.cell? (?A 1)=some (C):=bJ b.s1;let p:wr.cell? (?A 2)=some (I 0):=bJ b.s1;let f0:wr.frozen? (?A 0)=false:=ah b.s1;let f1:wr.frozen? (?A 1)=false:=ah b.s1;let f2:wr.frozen? (?A 2)=false:=ah b.s1;go_wp2;apply GX (Gq dU _ _ w.heap.size 123 _ (0,0) _ dU (set3 b.s1) underlying123 rfl E) dU;refine⟨a,c,rfl,?_,((b.b.setCell iM _).setCell iM _).setCell iM _⟩;exact(b.ow.but (S:=λk=>k=w.heap.size) ((((But.refl (λk=>k=w.heap.size) wr).set _ _ _ rfl).set _ _ _ rfl).set _ _ _ rfl) (λg e=>by have:=(b.ow.base g e).1;omega)).mono Z
def gO(a:dV h n=some s):187<=s/\s+n<=283/\∀r∈h.rg,s+n<=r.first\/r.first+r.ext<=s:=by unfold dV at a;rw[Option.map_eq_some_iff]at a;obtain⟨k,c,rfl⟩:=a;let⟨d,b⟩:=lr c;simp at b;refine⟨Z,Z,λr a=>?_⟩;exact b.2 r a
def mF(h:1016<a):1<=aR a:=by unfold aR;split<;>omega
def Inv.large(i:Inv cf h){g:Nat}(M:1<=g)(N:g<=3)(ha:1016<a)(l:dV h (g+aR a+1)=some s):Inv cf {h with m:=aT h.m (s+g) (aR a),rg:=h.rg++[⟨s,g,aR a,1,a⟩],rel:=h.rel.filter λb=>b/1024<s || s+(g+aR a+1)<=b/1024}:=by
 let⟨X,O,G⟩:=gO l;let P:=mF ha;let⟨p,w⟩:=Qa (aR a);rw[w]at O G P⊢;refine(let_mvar%?A:=aT h.m (s+g) p;?_);let t:∀k,k<187->?A k=h.m k:=λk u=>by rw[cO,GO Z]
 let z:∀o q,o<12->q<6->dA {h with m:=?A,rg:=h.rg++[⟨s,g,p,1,a⟩],rel:=h.rel.filter λb=>b/1024<s || s+(g+p+1)<=b/1024} o q=dA h o q:=λo q c d=>by have:=cD c d;unfold dA;show(?A (aD o q)).isSome=_;rw[t _ Z]
 refine⟨i.st,i.fine.fresh _ _,λk u=>?_,λo q c d j Q=>?_,λo q c d K=>?_,i.req,i.mxl,i.ffl,i.ffn,i.mxn,i.wait,i.wlt,i.wnd,λr l=>?_,?_,λk u=>?_,λk u v=>?_,λb=>?_,i.rownd,i.rowl,λb R=>?_⟩;.show aT h.m _ _ k=none;rw[cO,GO Z];exact i.out k u
 .have:=cD c d;rw[z o q c d];show(aT h.m _ _ _).isSome=_;rw[t _ Z];exact i.slab o q c d j Q
 .rw[z o q c d]at K;exact i.off o q c d K
 .rcases F8.1 l with f|f;.exact i.rgs r f
  simp at f;subst f;dsimp only[Rg9.ext];refine⟨Z,Z,Z,Z,Z,.inl ⟨rfl,Z,?_⟩⟩;rwa[F0]
 .rw[Is];refine⟨i.apart,bH,λx v y L=>?_⟩;simp at L;subst L;have:=G x v;dsimp only[Rg9.ext]at this⊢;omega
 .show(?A k).isSome=true↔_;rw[cO];let A:=i.big k u;constructor
  .intro v;split at v
   .rename_i e;exact⟨_,List.mem_append_right _ (List.mem_singleton.2 rfl),rfl,e.1,e.2⟩
   let⟨r,l,f⟩:=A.1 v;exact⟨r,IF _ l,f⟩
  rintro⟨r,l,f⟩;rcases F8.1 l with n|n
  .split;.rfl
   exact A.2 ⟨r,n,f⟩
  simp at n;subst n;rw[GP f.2];rfl
 .let B:(?A k).isSome=true:=v;rw[t k u]at B;exact i.low k u B
 .show b∈h.row↔_;rw[i.row b];constructor;.rintro⟨r,l,f⟩;exact⟨r,IF _ l,f⟩
  rintro⟨r,l,f⟩;rcases F8.1 l with n|n;.exact⟨r,n,f⟩
  simp at n;subst n;have:(1:Int)=2:=f.1;omega
 let⟨f,n⟩:=Gk.1 R;let⟨S,T,V,W⟩:=i.rel b f;refine⟨S,T,V,λr l=>?_⟩;rcases F8.1 l with F|F;.exact W r F
 simp at F;subst F;simp at n;exact n
def tN(i:Inv cf h)(a:r∈h.rg):r.base=(r.first+r.guards)*1024/\r.base/1024=r.first+r.guards/\r.base%1024=0/\r.ext=r.guards+r.pages+1:=by unfold Rg9.base Rg9.ext;refine⟨rfl,?_,?_,rfl⟩<;>omega
def zG{l:List Rg9}(ha:l.Pairwise λa b=>a.first+a.ext<=b.first\/b.first+b.ext<=a.first)(f:r∈l)(g:q∈l)(i:∀x∈l,1<=x.guards)(j:r.base=q.base):r=q:=by
 induction l with
 |nil=>cases f
 | cons a t k=>
  let c:r.first+r.guards=q.first+q.guards:=by unfold Rg9.base at j;omega
  let b:∀x∈t,(x.first+x.guards=a.first+a.guards)->False:=λx b m=>by have:=(List.pairwise_cons.1 ha).1 x b;unfold Rg9.ext at this;omega
  rcases F4.1 f with d|d<;>rcases F4.1 g with e|e
  .rw[d,e]
  .subst d;exact absurd c.symm (b q e)
  .subst e;exact absurd c (b r d)
  exact k (List.pairwise_cons.1 ha).2 d e (λx b=>i x (Ij _ b))
def Inv.one(i:Inv cf h)(a:r∈h.rg)(b:q∈h.rg)(c:r.base=q.base):r=q:=
 zG i.apart a b (λx a=>(i.rgs x a).2.2.1) c
def Inv.setRq(i:Inv cf h)(l:r∈h.rg)(m:r.st=1)(ha:1016<a)(n:aR a=r.pages):Inv cf {h with rg:=h.rg.map λx=>if x.base=r.base then {x with rq:=a}else x}:=by
 let c:∀x,(if x.base=r.base then({x with rq:=(a:Int)}:Rg9)else x).first=x.first/\(if x.base=r.base then({x with rq:=(a:Int)}:Rg9)else x).guards=x.guards/\(if x.base=r.base then({x with rq:=(a:Int)}:Rg9)else x).pages=x.pages/\(if x.base=r.base then({x with rq:=(a:Int)}:Rg9)else x).st=x.st:=λx=>by split<;>exact⟨rfl,rfl,rfl,rfl⟩
 refine⟨i.st,i.fine,i.out,i.slab,i.off,i.req,i.mxl,i.ffl,i.ffn,i.mxn,i.wait,i.wlt,i.wnd,λy j=>?_,?_,λk o=>?_,i.low,λb=>?_,i.rownd,i.rowl,λb p=>?_⟩
 .obtain⟨x,f,rfl⟩:=FQ.1 j;let⟨g,q,s,t⟩:=c x;let d:=i.rgs x f;unfold Rg9.ext at d⊢;rw[g,q,s,t];refine⟨d.1,d.2.1,d.2.2.1,d.2.2.2.1,d.2.2.2.2.1,?_⟩;by_cases e:x.base=r.base;.have:=i.one f l e;subst this;rw[GP rfl];exact .inl ⟨m,iM,by rwa[F0]⟩
  rw[GO e];exact d.2.2.2.2.2
 .show(h.rg.map _).Pairwise _;rw[List.pairwise_map];refine i.apart.imp (λ{x y}d=>?_);unfold Rg9.ext at d⊢;rwa[(c x).1,(c x).2.1,(c x).2.2.1,(c y).1,(c y).2.1,(c y).2.2.1]
 .show(h.m k).isSome=true↔_;rw[i.big k o];constructor;.rintro⟨x,f,d,g⟩;refine⟨_,FQ.2 ⟨x,f,rfl⟩,?_⟩;rw[(c x).1,(c x).2.1,(c x).2.2.1,(c x).2.2.2];exact⟨d,g⟩
  rintro⟨y,j,d,g⟩;obtain⟨x,f,rfl⟩:=FQ.1 j;rw[(c x).2.2.2]at d;rw[(c x).1,(c x).2.1,(c x).2.2.1]at g;exact⟨x,f,d,g⟩
 .show b∈h.row↔_;rw[i.row b];constructor
  .rintro⟨x,f,d,g⟩;refine⟨_,FQ.2 ⟨x,f,rfl⟩,?_⟩;let e:(if x.base=r.base then({x with rq:=(a:Int)}:Rg9)else x).base=x.base:=(by split<;>rfl);rw[e,(c x).2.2.2];exact⟨d,g⟩
  rintro⟨y,j,d,g⟩;obtain⟨x,f,rfl⟩:=FQ.1 j;rw[(c x).2.2.2]at d;let e:(if x.base=r.base then({x with rq:=(a:Int)}:Rg9)else x).base=x.base:=by split<;>rfl
  rw[e]at g;exact⟨x,f,d,g⟩
 let⟨d,g,q,s⟩:=i.rel b p;refine⟨d,g,q,λy j=>?_⟩;obtain⟨x,f,rfl⟩:=FQ.1 j;have:=s x f;unfold Rg9.ext at this⊢;rw[(c x).1,(c x).2.1,(c x).2.2.1];exact this
def tV(h:Hs)(r:Rg9):Hs:={h with m:=bQ h.m (r.first+r.guards) r.pages,rg:=h.rg.map λx=>if x.base=r.base then {x with st:=2,rq:=0}else x,row:=h.row++[r.base]}
def cG(cf h r):aJ cf h r=if cf.large<(h.row++[r.base]).length then {tV h r with rg:=(tV h r).rg.filter λx=>x.base≠(h.row++[r.base])[0]?.getD 0,rel:=h.rel++[(h.row++[r.base])[0]?.getD 0],row:=(h.row++[r.base]).tail}else tV h r:=rfl
def Inv.fA(i:Inv cf h)(z:r∈h.rg)(h1:r.st=1)(w:Cf)(W:w.mix=cf.mix)(X:w.fifo=cf.fifo)(hl:h.row.length+1<=w.large):Inv w (tV h r):=by
 let d:∀x:Rg9,(if x.base=r.base then({x with st:=2,rq:=0}:Rg9)else x).first=x.first/\(if x.base=r.base then({x with st:=2,rq:=0}:Rg9)else x).guards=x.guards/\(if x.base=r.base then({x with st:=2,rq:=0}:Rg9)else x).pages=x.pages/\(if x.base=r.base then({x with st:=2,rq:=0}:Rg9)else x).base=x.base:=λx=>by split<;>exact⟨rfl,rfl,rfl,rfl⟩
 let⟨b1,b2,b3,b4,b5,b6⟩:=i.rgs r z;refine(let_mvar%?A:=bQ h.m (r.first+r.guards) r.pages;?_);let A:∀k,k<187->?A k=h.m k:=λk B=>by rw[eb,GO Z]
 let G:∀s u,s<12->u<6->dA (tV h r) s u=dA h s u:=λs u m n=>by have:=cD m n;unfold dA;show(?A (aD s u)).isSome=_;rw[A _ Z]
 let P:∀x∈h.rg,x≠r->x.first+x.ext<=r.first\/r.first+r.ext<=x.first:=λx f o=>by
  let Q:∀{l:List Rg9},(l.Pairwise λa b=>a.first+a.ext<=b.first\/b.first+b.ext<=a.first)->x∈l->r∈l->x.first+x.ext<=r.first\/r.first+r.ext<=x.first:=λ{l}=>by
   induction l with
   |nil=>intro _ f;cases f
   |cons a t ih=>
    intro hp f z;let⟨S,p2⟩:=List.pairwise_cons.1 hp;rcases F4.1 f with K|K<;>rcases F4.1 z with L|L
    .exact absurd (K.trans L.symm) o
    .subst K;exact S r L
    .subst L;have:=S x K;omega
    exact ih p2 K L
  exact Q i.apart f z
 refine⟨i.st,i.fine.gone _ _,λk B=>?_,λs u m n j hj=>?_,λs u m n T=>?_,i.req,λc R=>W▸i.mxl c R,λc R=>X▸i.ffl c R,i.ffn,i.mxn,i.wait,i.wlt,i.wnd,λy F=>?_,?_,λk B=>?_,λk B f=>?_,λb=>?_,?_,?_,λb O=>?_⟩
 .show bQ h.m _ _ k=none;rw[eb];split;.rfl
  exact i.out k B
 .have:=cD m n;rw[G s u m n];show(bQ h.m _ _ _).isSome=_;rw[A _ Z];exact i.slab s u m n j hj
 .rw[G s u m n]at T;exact i.off s u m n T
 .obtain⟨x,f,rfl⟩:=FQ.1 F;let⟨k1,k2,k3,k4⟩:=d x;let g:=i.rgs x f;unfold Rg9.ext at g⊢;rw[k1,k2,k3];refine⟨g.1,g.2.1,g.2.2.1,g.2.2.2.1,g.2.2.2.2.1,?_⟩;by_cases e:x.base=r.base;.rw[GP e];exact .inr ⟨rfl,rfl⟩
  rw[GO e];exact g.2.2.2.2.2
 .show(h.rg.map _).Pairwise _;rw[List.pairwise_map];refine i.apart.imp (λ{x y}M=>?_);unfold Rg9.ext at M⊢;rwa[(d x).1,(d x).2.1,(d x).2.2.1,(d y).1,(d y).2.1,(d y).2.2.1]
 .show(?A k).isSome=true↔_;rw[eb];let g:=i.big k B;constructor
  .intro f;split at f;.cases f
   rename_i hn;let⟨x,v,q,p⟩:=g.1 f;let o:x.base≠r.base:=λe=>by have:=i.one v z e;subst this;exact hn p
   refine⟨x,FQ.2 ⟨x,v,by rw[GO o]⟩,q,p⟩
  rintro⟨y,F,q,p⟩;obtain⟨x,v,rfl⟩:=FQ.1 F;let o:x.base≠r.base:=λe=>by rw[GP e]at q;have:(2:Int)=1:=q;omega
  rw[GO o]at q p;have:=P x v (λe=>o (by rw[e]));unfold Rg9.ext at this;rw[GO Z];exact g.2 ⟨x,v,q,p⟩
 .let N:(?A k).isSome=true:=f;rw[A k B]at N;exact i.low k B N
 .show b∈h.row++[r.base]↔_;rw[F8,i.row b];constructor
  .rintro(⟨x,f,q,p⟩|V)
   .let o:x.base≠r.base:=λe=>by have:=i.one f z e;subst this;omega
    exact⟨x,FQ.2 ⟨x,f,by rw[GO o]⟩,q,p⟩
   simp at V;subst V;exact⟨_,FQ.2 ⟨r,z,rfl⟩,by rw[GP rfl],(d r).2.2.2⟩
  rintro⟨y,F,q,p⟩;obtain⟨x,f,rfl⟩:=FQ.1 F;rw[(d x).2.2.2]at p;by_cases e:x.base=r.base;.right;simp;rw[<-p,e]
  rw[GO e]at q;exact .inl ⟨x,f,q,p⟩
 .show(h.row++[r.base]).Nodup;rw[List.nodup_append];refine⟨i.rownd,bH,λa ha b O=>?_⟩;simp at O;subst O;rintro rfl;let⟨x,f,q,p⟩:=(i.row _).1 ha;have:=i.one f z p;subst this;omega
 .show(h.row++[r.base]).length<=_;simp;omega
 let⟨q,p,q3,q4⟩:=i.rel b O;refine⟨q,p,q3,λy F=>?_⟩;obtain⟨x,f,rfl⟩:=FQ.1 F;have:=q4 x f;unfold Rg9.ext at this⊢;rw[(d x).1,(d x).2.1,(d x).2.2.1];exact this
def Inv.leave(i:Inv cf h){b0:Nat}{t:List Nat}(g:h.row=b0::t)(j:Cf)(M:j.mix=cf.mix)(N:j.fifo=cf.fifo)(O:t.length<=j.large):Inv j {h with rg:=h.rg.filter λx=>x.base≠b0,rel:=h.rel++[b0],row:=t}:=by
 let⟨p,m,X,A⟩:=(i.row b0).1 (by rw[g];simp);let s:=i.rownd;rw[g]at s;let⟨P,Q⟩:=GI.1 s;let d:∀x,x∈(h.rg.filter λx=>decide (x.base≠b0))↔x∈h.rg/\x.base≠b0:=λx=>by rw[Gk];simp
 refine⟨i.st,i.fine,i.out,i.slab,i.off,i.req,λc B=>M▸i.mxl c B,λc B=>N▸i.ffl c B,i.ffn,i.mxn,i.wait,i.wlt,i.wnd,λy u=>i.rgs y ((d y).1 u).1,i.apart.filter _,λk R=>?_,i.low,λb=>?_,Q,O,λb z=>?_⟩
 .show(h.m k).isSome=true↔_;rw[i.big k R];constructor;.rintro⟨x,f,o,n⟩;refine⟨x,(d x).2 ⟨f,λe=>?_⟩,o,n⟩;have:=i.one f m (e.trans A.symm);subst this;omega
  rintro⟨x,f,q⟩;exact⟨x,((d x).1 f).1,q⟩
 .show b∈t↔_;let l:=i.row b;rw[g]at l;constructor;.intro z;let⟨x,f,o,n⟩:=l.1 (Ij _ z);refine⟨x,(d x).2 ⟨f,λe=>?_⟩,o,n⟩;rw[n]at e;subst e;exact P z
  rintro⟨x,f,o,n⟩;let⟨r,v⟩:=(d x).1 f;rcases F4.1 (l.2 ⟨x,r,o,n⟩)with e|e;.exact absurd (n.trans e) v
  exact e
 rcases F8.1 z with r|r;.let⟨o,n,l,v⟩:=i.rel b r;exact⟨o,n,l,λy u=>v y ((d y).1 u).1⟩
 simp at r;subst r;let⟨Y,b2,b3,b4,b5,b6⟩:=i.rgs p m;let⟨f1,f2,f3,f4⟩:=tN i m;rw[A]at f2 f3;refine⟨f3,Z,Z,λy u=>?_⟩;let⟨F,G⟩:=(d y).1 u;rw[f2];let K:∀{l:List Rg9},(l.Pairwise λa b=>a.first+a.ext<=b.first\/b.first+b.ext<=a.first)->y∈l->p∈l->y.first+y.ext<=p.first\/p.first+p.ext<=y.first:=λ{l}=>by
  induction l with
  |nil=>intro _ f;cases f
  |cons a t S=>
   intro T f V;let⟨L,W⟩:=List.pairwise_cons.1 T;rcases F4.1 f with v|v<;>rcases F4.1 V with w|w
   .have:=v.trans w.symm;subst this;exact absurd A G
   .subst v;exact L p w
   .subst w;have:=L y v;omega
   exact S W v w
 have:=K i.apart F m;omega
def Inv.fRange(i:Inv cf h)(e:r∈h.rg)(f:r.st=1):Inv cf (aJ cf h r):=by
 rw[cG];by_cases c:cf.large<(h.row++[r.base]).length
 .rw[GP c];obtain⟨d,t,b⟩:∃d t,h.row++[r.base]=d::t:=by
   cases h.row with
   |nil=>exact⟨_,_,rfl⟩
   |cons a l=>exact⟨a,l++[r.base],rfl⟩
  let j:=(i.fA e f {cf with large:=cf.large+1} rfl rfl (by have:=i.rowl;dsimp only;omega)).leave (b0:=d) (t:=t) b cf rfl rfl (by let k:=congrArg List.length b;have:=i.rowl;simp at k;omega)
  rwa[b]
 rw[GO c];exact i.fA e f cf rfl rfl (by simp at c;omega)
def jf(h:a<=1016):fD a<12/\a+8<=cy (fD a):=(zO h).2
inductive Seen(h:Hs)(p:Nat):Fd->Prop
 |slot (c s j:Nat):c<12->s<6->j<aM c->bh c s j=p->h.st c s j=1->Seen h p (.slot c s j)
 |range (r:Rg9):r∈h.rg->r.base=p->r.st=1->Seen h p (.range r)
 |no (code:Int):(code=3\/code=4)->Seen h p (.no code)
def oD{t:Nat×Nat×Nat}(h:t∈dF):t.1<12/\t.2.1<6/\t.2.2<aM t.1:=by unfold dF at h;simp[List.mem_flatMap,Gh,FQ]at h;obtain⟨c,a,s,b,j,d,rfl⟩:=h;exact⟨a,b,d⟩
def bT(h p):Seen h p (aB h p):=by
 unfold aB;cases e:ce p with
 |some t=>
  let⟨c,s,j⟩:=t;unfold ce at e;let a:=oD (Ip e);let b:=List.find?_some e;simp at b;dsimp only at a⊢;split;.rename_i d;exact .slot c s j a.1 a.2.1 a.2.2 b d
  split;.exact .no 3 (.inl rfl)
  exact .no 4 (.inr rfl)
 | none=>
  cases f:h.rg.find? λr=>r.base==p with
  |some r=>
   let a:=Ip f;let b:=List.find?_some f;simp at b;dsimp only;split;.rename_i d;exact .range r a b d
   exact .no 4 (.inr rfl)
  |none=>
   dsimp only;split;.exact .no 4 (.inr rfl)
   exact .no 3 (.inl rfl)
structure Few(k:Nat)(h:Hs):Prop where
 rg:h.rg.length<=k
 rel:h.rel.length<=k
 row:h.row.length<=k
 used:h.used<=2100*k
def Few.mono{b:Nat}(f:Few k h)(a:k<=b):Few b h:=
 ⟨Fx f.rg a,Fx f.rel a,Fx f.row a,Fx f.used (IJ _ a)⟩
def Inv.malloc(i:Inv cf h)(f:Few k h)(a):Inv cf (av cf h a).2/\(av cf h a).2.rg.length<=k+1/\(av cf h a).2.rel.length<=k/\(av cf h a).2.row.length<=k/\(av cf h a).2.used<=h.used+2000:=by
 unfold av;by_cases ha:a<=1016
 .rw[GP ha];let⟨l,t⟩:=jf ha;generalize fD a=c at*;let⟨g,m⟩:=Inv.small l 2000 i;cases e:bN cf c 2000 h with
  | mk o p=>
   rw[e]at g m;let f1:p.rg.length<=k+1/\p.rel.length<=k/\p.row.length<=k:=by rw[g.stay.rg,g.stay.rel,g.stay.row];exact⟨by have:=f.rg;omega,f.rel,f.row⟩
   cases o with
   |none=>exact⟨g.inv,f1.1,f1.2.1,f1.2.2,m⟩
   |some q=>let⟨s,j⟩:=q;let⟨u,v,r,d,_,_⟩:=g.some s j rfl;rw[jL]at d;let x:=aX l;let b:=g.inv.setSt l u v 1 (a:Int) Z Z Z (by dsimp only at d⊢;omega) (.inr r) (λ_=>⟨Z,Z⟩) (λe=>absurd rfl e);exact⟨b.bytes (bh c s j+eV c) (can cf (bh c s j)) 8,f1.1,f1.2.1,f1.2.2,m⟩
 rw[GO ha];dsimp only;let y:=mW cf h (n:=3) Z;let b:=i.used (h.used+1);let f0:=f.rg;split;.exact⟨b,iM,f.rel,f.row,iM⟩
 split;.exact⟨b,iM,f.rel,f.row,iM⟩
 rename_i s w;split;.exact⟨b,iM,f.rel,f.row,iM⟩
 refine⟨b.large Z Z Z w,bG,?_,f.row,iM⟩;exact Fx (Hb _ _) f.rel
def Inv.fAny(i:Inv cf h)(d:1<=cf.fifo){x:Fd}(k:Seen h p x):Inv cf (db cf h x)/\(db cf h x).rg.length<=h.rg.length/\(db cf h x).rel.length<=h.rel.length+1/\(db cf h x).row.length<=h.row.length+1/\(db cf h x).used<=h.used+1:=by
 cases k with
 | slot c s j f e l u m=>
  refine⟨i.fSlot d f e l m,?_⟩;refine(let_mvar%?B:=aL cf h c s j;?_);show(?B).rg.length<=_/\(?B).rel.length<=_/\(?B).row.length<=_/\(?B).used<=_;rw[cW];refine(let_mvar%?A:=bX cf h c s j;?_);let ha:(?A).rg=h.rg/\(?A).rel=h.rel/\(?A).row=h.row/\(?A).used<=h.used+1:=by unfold bX;refine⟨rfl,rfl,rfl,?_⟩;dsimp only;split<;>omega
  let g:∀a b,(bK ?A c a b).rg=h.rg/\(bK ?A c a b).rel=h.rel/\(bK ?A c a b).row=h.row/\(bK ?A c a b).used<=h.used+1:=λa b=>by unfold bK;dsimp only;split<;>exact ha
  split;.rw[ha.1,ha.2.1,ha.2.2.1];exact⟨gi,Z,Z,ha.2.2.2⟩
  let⟨n,o,q,t⟩:=g ((er cf h c s j).toNat/aM c) ((er cf h c s j).toNat%aM c);rw[n,o,q];exact⟨gi,Z,Z,t⟩
 |range r b g e=>
  refine⟨i.fRange b e,?_⟩;show(aJ cf h r).rg.length<=_/\(aJ cf h r).rel.length<=_/\(aJ cf h r).row.length<=_/\(aJ cf h r).used<=_;rw[cG];unfold tV;split;.dsimp only;refine⟨?_,bH,bH,Z⟩;exact Fx (Hb _ _) bH
  dsimp only;exact⟨bH,Z,bH,Z⟩
 |no b f=>exact⟨i,gi,Nat.le_add_right _ _,Nat.le_add_right _ _,Nat.le_add_right _ _⟩
def Inv.realloc(i:Inv cf h)(w:1<=cf.fifo)(f:Few k h)(p a):Inv cf (a_ cf h p a).2/\Few (k+1) (a_ cf h p a).2:=by
 let⟨l,x,F,G,K⟩:=i.malloc f a;let Y:=f.used;let n:Few (k+1) h:=f.mono Z;let u:Few (k+1) (av cf h a).2:=⟨x,Z,Z,Z⟩;let L:∀d:Nat,∀q b,av cf h a=(some q,b)->Inv cf (db cf {b with m:=aZ b.m p q (min d a)} (aB {b with m:=aZ b.m p q (min d a)} p))/\Few (k+1) (db cf {b with m:=aZ b.m p q (min d a)} (aB {b with m:=aZ b.m p q (min d a)} p)):=λd q b e=>by rw[e]at l x F G K;dsimp only at l x F G K;let Q:Inv cf {b with m:=aZ b.m p q (min d a)}:=l.bytes q _ _;let⟨R,S,T,V,W⟩:=Q.fAny w (bT _ p);generalize db cf {b with m:=aZ b.m p q (min d a)} (aB {b with m:=aZ b.m p q (min d a)} p)=M at*;dsimp only at S T V W;exact⟨R,Z,Z,Z,Z⟩
 unfold a_;dsimp only;by_cases y:p=0
 .rw[GP y];cases e:av cf h a with
  |mk o b=>
   rw[e]at l u;cases o with
   |none=>exact⟨l,u⟩
   |some q=>exact⟨l,u⟩
 rw[GO y];let t:=bT h p;cases e:aB h p with
 |no N=>exact⟨i,n⟩
 | slot c s j=>
  rw[e]at t;dsimp only;split;.exact⟨i,n⟩
  split
  .rename_i g;cases t with
   | slot _ _ _ z t O y P=>
    let⟨_,A⟩:=jf g.1;rw[g.2]at A;let hz:=aX z;let B:dA h c s=true:=by
     cases M:dA h c s with
     |true=>rfl
     |false=>have:=i.off c s z t M j O;rw[P]at this;simp[be]at this
    have:=i.setSt z t O 1 (a:Int) Z Z Z Z (.inr B) (λ_=>⟨Z,Z⟩) (λe=>absurd rfl e);rw[gy h.st P]at this;exact⟨this,n.rg,n.rel,n.row,n.used⟩
  cases v:av cf h a with
  |mk o b=>
   cases o with
   |none=>rw[v]at l u;exact⟨l,u⟩
   |some q=>exact L _ q b v
 | range r=>
  rw[e]at t;dsimp only;split
  .rename_i g;cases t with
   |range _ X hb t=>refine⟨i.setRq X t g.1 g.2,?_⟩;exact⟨by simp;exact n.rg,n.rel,n.row,n.used⟩
  cases v:av cf h a with
  |mk o b=>
   cases o with
   |none=>rw[v]at l u;exact⟨l,u⟩
   |some q=>exact L _ q b v
def Inv.do(i:Inv cf h)(g:1<=cf.fifo)(f:Few k h)(o p):Inv cf (NQ cf h o p).2/\Few (k+1) (NQ cf h o p).2:=by
 let a:Few (k+1) h:=f.mono Z;let v:=f.used;let t:∀n,Inv cf (av cf h n).2/\Few (k+1) (av cf h n).2:=λn=>by let⟨b,d,e,l,m⟩:=i.malloc f n;exact⟨b,d,Z,Z,Z⟩
 let b:∀n,Inv cf (match av cf h n with
  |(none,d)=>(An4.no 1,d)
  |(some q,d)=>(⟨0,q,0,[]⟩,d)).2/\Few (k+1) (match av cf h n with
  |(none,d)=>(An4.no 1,d)
  |(some q,d)=>(⟨0,q,0,[]⟩,d)).2:=λn=>by
  have:=t n
  cases e:av cf h n with
  |mk o d=>
   rw[e]at this;cases o with
   |none=>exact this
   |some q=>exact this
 unfold NQ;dsimp only;split;.exact b _
 split
 .split;.exact⟨i,a⟩
  exact b _
 split;.exact i.realloc g f p o.a
 split
 .let u:=bT h p;let⟨l,w,x,y,z⟩:=i.fAny g u;let m:Few (k+1) (db cf h (aB h p)):=⟨by have:=f.rg;omega,by have:=f.rel;omega,by have:=f.row;omega,Z⟩;cases e:aB h p with
  |no d=>exact⟨i,a⟩
  |slot c s j=>
   rw[e]at l m;dsimp only;split;.exact⟨i,a⟩
   exact⟨l,m⟩
  |range r=>rw[e]at l m;exact⟨l,m⟩
 split
 .cases e:aB h p with
  |no d=>exact⟨i,a⟩
  |slot c s j=>exact⟨i,a⟩
  |range r=>exact⟨i,a⟩
 split;.split<;>exact⟨i,a⟩
 split
 .dsimp only;split;.exact⟨i.bytes p o.ys _,a.rg,a.rel,a.row,a.used⟩
  exact⟨i,a⟩
 exact⟨i,a⟩
def Inv.step(i:Inv cf h)(a:1<=cf.fifo)(f:Few k h)(an o):Inv cf (bU cf h an o).2/\Few (k+1) (bU cf h an o).2:=by
 unfold bU;split;.exact i.do a f o _
 split;.exact⟨i,f.mono Z⟩
 exact i.do a f o _
inductive Area(h:Hs)(p n:Nat):Prop
 |slot (c s j:Nat):c<12->s<6->j<aM c->bh c s j=p->h.st c s j=1->n<=cy c->Area h p n
 |range (r:Rg9):r∈h.rg->r.base=p->r.st=1->n<=r.pages*1024->Area h p n
def Inv.on1(i:Inv cf h)(a:c<12)(b:s<6)(d:j<aM c)(e:be (h.st c s j)=false):dA h c s=true:=by
 cases f:dA h c s with
 |true=>rfl
 |false=>have:=i.off c s a b f j d;rw[e]at this;cases this
def Inv.openA(i:Inv cf h)(a:Area h p n)(q:k<n):isOpen (h.m ((p+k)/1024))=true:=by
 rw[i.fine.open];cases a with
 |slot c s j d b f t l m=>
  let e:=i.on1 d b f (by rw[l];rfl);let o:=ca d b f;let u:aD c s*1024<=bh c s j:=by unfold bh;omega
  let g:=i.slab c s d b ((p+k)/1024-aD c s) Z;rw[show aD c s+((p+k)/1024-aD c s)=(p+k)/1024 by omega,e]at g;exact g
 |range r d e b m=>let o:=i.rgs r d;unfold Rg9.base at e;exact(i.big _ Z).2 ⟨r,d,b,Z,Z⟩
def gN{a d b:Nat}(l:c<12)(m:s<6)(n:j<aM c)(f:a<12)(g:d<6)(i:b<aM a)(k:¬(c=a/\s=d/\j=b)):bh c s j+cy c<=bh a d b\/bh a d b+cy a<=bh c s j:=by
 let o:=ca l m n;let p:=ca f g i;let q:aD c s*1024<=bh c s j:=by unfold bh;omega
 let r:aD a d*1024<=bh a d b:=by unfold bh;omega
 by_cases e:c=a/\s=d
 .obtain⟨rfl,rfl⟩:=e;unfold bh;rcases Ie j b with h|h|h;.have:(j+1)*cy c<=b*cy c:=Gm _ h;rw[Gy,GF]at this;omega
  .exact absurd ⟨rfl,rfl,h⟩ k
  have:(b+1)*cy c<=j*cy c:=Gm _ h;rw[Gy,GF]at this;omega
 have:=ew l m f g e;omega
def Inv.far(i:Inv cf h)(d:r∈h.rg)(k:q∈h.rg)(e:r≠q):r.first+r.ext<=q.first\/q.first+q.ext<=r.first:=by
 let f:∀{l:List Rg9},(l.Pairwise λa b=>a.first+a.ext<=b.first\/b.first+b.ext<=a.first)->r∈l->q∈l->r.first+r.ext<=q.first\/q.first+q.ext<=r.first:=λ{l}=>by
  induction l with
  |nil=>intro _ g;cases g
  |cons a t m=>
   intro n g d;let⟨j,o⟩:=List.pairwise_cons.1 n;rcases F4.1 g with b|b<;>rcases F4.1 d with c|c
   .exact absurd (b.trans c.symm) e
   .subst b;exact j q c
   .subst c;have:=j r b;omega
   exact m o b c
 exact f i.apart d k
def Inv.apartA(i:Inv cf h){q m}(a:Area h p n)(b:Area h q m)(k:p≠q):p+n<=q\/q+m<=p:=by
 cases a with
 | slot c s j t v x y L z=>
  cases b with
  |slot A B F e d f l w g=>have:=gN t v x e d f (by rintro⟨rfl,rfl,rfl⟩;exact k (y.symm.trans l));omega
  |range r u o d g=>let G:=ca t v x;let K:=i.rgs r u;unfold Rg9.base at o;omega
 | range r u o v z=>
  cases b with
  |slot A B F e d f l w g=>let G:=ca e d f;let K:=i.rgs r u;unfold Rg9.base at o;omega
  |range y x t d g=>have:=i.far u x (by rintro rfl;exact k (o.symm.trans t));unfold Rg9.ext at this;unfold Rg9.base at o t;omega
def gE(a:Nat):a<=aR a*1024:=by unfold aR;split<;>omega
structure Gave(cf:Cf)(h:Hs)(a q:Nat)(h1:Hs):Prop where
 inv:Inv cf h1
 area:Area h1 q a
 fresh:∀n,¬Area h q n
 live:∀c s j,c<12->s<6->j<aM c->h.st c s j=1->h1.st c s j=1/\h1.rq c s j=h.rq c s j
 rg:h1.rg=h.rg\/∃r,h1.rg=h.rg++[r]/\r.base=q
 rel:∀b,b∈h1.rel->b∈h.rel
def Inv.gave(i:Inv cf h){q:Nat}{K:Hs}(d:av cf h a=(some q,K)):Gave cf h a q K:=by
 let L:=(i.malloc (k:=h.rg.length+h.rel.length+h.row.length+h.used) ⟨Z,Z,Z,Z⟩ a).1;rw[d]at L;unfold av at d;by_cases ha:a<=1016
 .rw[GP ha]at d;let⟨B,T⟩:=jf ha;generalize fD a=c at*;let⟨g,V⟩:=Inv.small B 2000 i;cases e:bN cf c 2000 h with
  | mk o R=>
   rw[e]at g V d;cases o with
   |none=>simp at d
   | some t=>
    let⟨s,j⟩:=t;simp at d;obtain⟨rfl,rfl⟩:=d;let⟨M,N,W,X,x,Y⟩:=g.some s j rfl;refine⟨L,.slot c s j B M N rfl (aS) Z,λn O=>?_,λu v w l f m F=>?_,.inl g.stay.rg,λb y=>g.stay.rel▸y⟩
    .cases O with
     |slot u v w l f m P G z=>
      by_cases p:u=c/\v=s/\w=j;.obtain⟨rfl,rfl,rfl⟩:=p;rw[G]at x;simp[be]at x
      have:=gN l f m B M N p;let z1:=aX B;let z2:=aX l;omega
     |range r A y f z=>let K:=ca B M N;let S:=i.rgs r A;unfold Rg9.base at y;omega
    let p:¬(u=c/\v=s/\w=j):=by rintro⟨rfl,rfl,rfl⟩;rw[F]at x;simp[be]at x
    refine⟨?_,?_⟩;.show aE R.st c s j 1 u v w=1;rw[aU p];exact (g.stay.live u v w (by rw[F];rfl)).trans F
    show aE R.rq c s j a u v w=h.rq u v w;rw[aU p];exact congrFun (congrFun (congrFun g.stay.rq u) v) w
 rw[GO ha]at d;dsimp only at d;let hd:=mW cf h (n:=3) Z;split at d;.simp at d
 split at d;.simp at d
 rename_i s A;split at d;.simp at d
 let⟨r1,r2,r3⟩:=gO A;simp at d;obtain⟨rfl,rfl⟩:=d;let hp:=gE a;refine⟨L,.range ⟨s,1+dr cf h 3,aR a,1,a⟩ (List.mem_append_right _ (List.mem_singleton.2 rfl)) rfl rfl hp,λn O=>?_,λu v w l f m F=>⟨F,rfl⟩,.inr ⟨_,rfl,rfl⟩,λb y=>(Gk.1 y).1⟩;cases O with
 |slot u v w l f m P G z=>let K:=ca l f m;omega
 |range r A y f z=>let S:=r3 r A;unfold Rg9.base at y;unfold Rg9.ext at S;omega
def Gave.keeps{h1 q}(g:Gave cf h a q h1)(A:Area h p n):Area h1 p n/\p≠q:=by
 refine⟨?_,λe=>g.fresh n (e▸A)⟩;cases A with
 |slot c s j f b i k l d=>exact .slot c s j f b i k (g.live c s j f b i l).1 d
 |range r f i b d=>
  refine .range r ?_ i b d;rcases g.rg with e|⟨k,e,_⟩;.rwa[e]
  rw[e];exact IF _ f
def gW{b:Hs}(a:aB h p=.slot c s j)(f:b.st c s j=1):aB b p=.slot c s j:=by
 unfold aB at a⊢;cases e:ce p with
 |some t=>
  let⟨d,g,i⟩:=t;rw[e]at a;dsimp only at a⊢;split at a;.simp at a;obtain⟨rfl,rfl,rfl⟩:=a;rw[GP f]
  split at a<;>cases a
 |none=>
  rw[e]at a;cases d:h.rg.find? λr=>r.base==p with
  |some r=>rw[d]at a;dsimp only at a;split at a<;>cases a
  |none=>rw[d]at a;dsimp only at a;split at a<;>cases a
def fV{b:Hs}(a:aB h p=.range r)(g:b.rg=h.rg\/∃f,b.rg=h.rg++[f]):aB b p=.range r:=by
 unfold aB at a⊢;cases e:ce p with
 |some t=>
  let⟨c,d,i⟩:=t;rw[e]at a;dsimp only at a⊢;split at a;.cases a
  split at a<;>cases a
 | none=>
  rw[e]at a;cases c:h.rg.find? λr=>r.base==p with
  | some i=>
   rw[c]at a;let j:(b.rg.find? λr=>r.base==p)=some i:=by
    rcases g with d|⟨f,d⟩;.rwa[d]
    rw[d,List.find?_append,c];rfl
   rwa[j]
  |none=>rw[c]at a;dsimp only at a;split at a<;>cases a
def vz{m}{p:Nat}{x}{a:Nat}(h:a≠p):bO (dZ m p x) a=bO m a:=by
 unfold bO dZ;by_cases e:a/1024=p/1024
 .rw[e,bV];let b:p%1024≠a%1024:=Z;cases m (p/1024)with
  |none=>rfl
  |some q=>simp[b]
 rw[aW _ _ _ _ e]
def h_(m)(q:Nat)(ys)(a:Nat):∀k,(a<q\/q+k<=a)->bO (ay m q ys k) a=bO m a
 |0,_=>rfl
 |k+1,h=>by
  show bO (dZ (ay m q ys k) (q+k) _) a=_
  rw[vz Z]
  exact h_ m q ys a k Z
end
section
variable {W W':World}{B:Nat}{y:Ly}{d:Dy}{cf:Cf}{h:Hs}
def iV{x:Int}(a: -9223372036854775808<=x)(b:x<=9223372036854775807):IntKind.i64.wrap x=x:=by rw[Hh];omega
def n_(g)(a:Nat)(r W)(h:Lc g r W)(ha:a<18446744073709551616):
  QA 164 #[J g 0,U a] W λe W'=>e=QJ (.bool (decide (r.first<=a/1024)&&decide (a/1024<r.first+r.ext)))/\D W W':=by
 have n:=H (λV(b:V.heap=W.heap)=>iE g r V ⟨by unfold World.cell?;rw[b];exact h.c0,by unfold World.cell?;rw[b];exact h.c1,by unfold World.cell?;rw[b];exact h.c2,by unfold World.cell?;rw[b];exact h.c3,by unfold World.cell?;rw[b];exact h.c4,h.hf,h.hu,h.hp⟩);have⟨_,_,i,_,_,s,l,m⟩:=h;have t:r.ext<=18014398509482000:=by unfold Rg9.ext;omega
 have⟨p,b⟩:=Qb (a/1024);have d:=H (show(a:Int)/1024=(p:Int) by omega);rw[<-b];have j:Hid (∀c:QM,c.heap=W.heap->c.cell? (Qz g 2)=some (I r.first)/\c.heap=W.heap):=(λc k=>⟨by unfold World.cell?;rw[k];exact i,k⟩);generalize r.first=f at*
 generalize r.ext=x at*;have q:IntKind.i64.wrap ((f:Int)+(x:Int))=(f:Int)+(x:Int):=iV Z Z;clear l m i b;by_cases i:f<=p
 ·have k:(f:Int)<=(p:Int):=Z;rw[G8 i,Bool.true_and];go_enter func164,ntmps164;go_upto_region 2 with fail
  rw[d];clear i;refine rh (S:=λc=>c.cell? (Qz g 2)=some (I f)/\c.heap=W.heap) ?_;have b:=j.out _ rfl;(iterate 5 refine PX 0 b ?_);refine pz 5 Ql b ?_;refine pk 6 Ql b ?_;(iterate 6 refine PX 7 b ?_);refine po 13 λK' l=>?_;go_simp;apply(n W.drew rfl).mono;rintro e u⟨rfl,rfl⟩;have m:=j.out W.drew.drew rfl;refine l _ _ ⟨m,?_⟩;clear b;have b:=m;clear l K';apply PX 14 b;refine(let_mvar%?A:=(decide ((p:Int)<(f:Int)+(x:Int)));?_);refine pz 15 (.bool ?A) b ?_;refine pz 16 (.bool ?A) b ?_;refine pk 17 (.bool ?A) b ?_;refine bY ?_;clear b;go_wp2;go_ret;refine⟨?_,ld.drew⟩;show Ending.returned (.bool ?A)=_;congr 2;exact decide_eq_decide.2 Z
 have k:(p:Int)<(f:Int):=Z;rw[GR i,Bool.false_and];go_enter func164,ntmps164;go_upto_region 2 with fail
 rw[d];clear i;refine rh (S:=λc=>c.cell? (Qz g 2)=some (I f)/\c.heap=W.heap) ?_;have b:=j.out _ rfl;(iterate 5 refine PX 0 b ?_);refine pz 5 Qk b ?_;refine pk 6 Qk b ?_;refine ps 7 b ?_;refine ps 8 b ?_;refine ps 9 b ?_;refine ps 10 b ?_;refine ps 11 b ?_;refine ps 12 b ?_;refine ps 13 b ?_;refine ps 14 b ?_;refine ps 15 b ?_;refine pz 16 Qk b ?_;refine pk 17 Qk b ?_;refine bY ?_;clear b;go_wp2;go_ret;refine⟨?_,ld⟩;rfl
def ma(g k r W)(h:Lc g r W):
  Calls prog 161 #[J g 0,I k] W λe W'=>e=QJ (kf k (r.first+r.guards:Nat) (r.pages:Nat) 0 0 none 0 0)/\D W W':=by
 let⟨_,_,d,i,j,s,t,w⟩:=h;have o:=H (show((r.first+r.guards:Nat):Int)=(r.first:Int)+(r.guards:Int) by omega);generalize r.first=f at*
 generalize r.guards=u at*;generalize r.pages=p at*;let⟨V,b⟩:=Qb (W.alloc (.cells #[I 0,I 0,I 0,U 0,I 0,C] 216));let l:D W V:=by rw[b];exact ph
 let X:=(show V.heap[W.heap.size]?=some (.cells #[I 0,I 0,I 0,U 0,I 0,C] 216) by rw[b];exact ao W _);let m:Hid (∀a,D W a->QG a g 2 (I f)/\QG a g 3 (I u)/\QG a g 4 (I p)):=λa k=>⟨NI k d,NI k i,NI k j⟩;let q:IntKind.i64.wrap ((f:Int)+(u:Int))=(f:Int)+(u:Int):=iV Z Z;let⟨n,c⟩:=y7 l X;go_in;go_upto_region 1 with fail
 apply Eq.mp (congrArg _ b);let⟨X,b⟩:=Qb W.heap.size;rw[<-b]at c⊢;let d:=H b;refine rh (S:=λa=>QG a g 2 (I f)/\QG a g 3 (I u)/\QG a g 4 (I p)) ?_;let i:=m.out _ n.drew;iterate 15 (apply py i;simp only[f0,f1,Nat.reduceAdd,lz,l0,ls])
 refine po 15 λK' j=>?_;refine Ih 216 _ _ rfl X _ rfl rfl 216 _ c E rfl mL ?_;have b:D W (V.drew.setRow X #[I k,I ((f:Int)+(u:Int)),I p,U 0,I 0,C]):=below_setRow n.drew (by rw[d];exact gi) _;refine j _ _ ⟨m _ b,?_⟩;refine bY ?_;have l:=aw (v:=V.drew) c #[I k,I ((f:Int)+(u:Int)),I p,U 0,I 0,C];go_wp2;refine fM l underlying216 ?_;rw[o];exact⟨rfl,b⟩
structure Bc(b r c s n cap:Nat)(on:Bool)(W:QM):Prop where
 d0:W.cell? (Qz b 0)=some (I c)
 d1:W.cell? (Qz b 1)=some (I s)
 d2:W.cell? (Qz b 2)=some (.bool on)
 d3:W.cell? (Qz b 3)=some (Vl r n cap)
def Bc.below{b r c s n cap on}(h:Bc b r c s n cap on W)(k:D W W'):Bc b r c s n cap on W':=⟨NI k h.d0,NI k h.d1,NI k h.d2,NI k h.d3⟩
def mz(b r g0 c s n cap on k W)(h:Bc b r c s n cap on W)(M:0<n)(a:Sc g0 b c s 0 W)(g:QG W r 0 (J g0 0)):
  Calls prog 166 #[J b 0,I k] W λe W'=>e=QJ (kf k (aD c s:Nat) (dI c:Nat) 0 0 none 0 0)/\D W W':=by
 have t:=ca a.hc a.hs a.hj;have u:=cD a.hc a.hs;have i:=pU a.hc;have⟨z,w⟩:=y7 (λV(f:D W V)=>eI g0 b c s 0 V (a.below f)) (λV(f:D W V)=>eY (c:Nat) V (a.tb.ofBelow f));rw[i]at w;have m:=H (show((bh c s 0:Nat):Int)/1024=(aD c s:Nat) by unfold bh;omega);generalize j:bh c s 0=A at*;have B:A<=200000:=Z;generalize aD c s=q at*;generalize dI c=pc at*;have⟨l,_,_,p⟩:=h;have o:Hid (∀d,D W d->QG d b 0 (I c)/\QG d b 3 (Vl r n cap)/\QG d r 0 (J g0 0)):=λd k=>⟨NI k l,NI k p,NI k g⟩;clear l p g a t u i j;have⟨V,f⟩:=Qb (W.alloc (.cells #[I 0,I 0,I 0,U 0,I 0,C] 216));have a:D W V:=by rw[f];exact ph
 have X:=(show V.heap[W.heap.size]?=some (.cells #[I 0,I 0,I 0,U 0,I 0,C] 216) by rw[f];exact ao W _);have⟨j,p⟩:=y7 a X;have F:IntKind.i64.wrap ((A:Int)/1024)=(q:Int):=by rw[m];exact iV (by have:=m.out;omega) (by have:=m.out;omega)
 have G:IntKind.u64.wrap ((A:Int)/1024)=(A:Int)/1024:=dX _ Z Z;clear a X;go_in;go_upto_region 1 with fail
 refine Eq.mp (congrArg _ f) ?_;clear f;have⟨X,a⟩:=Qb W.heap.size;rw[<-a]at p⊢;have K:=H a;clear a;refine rh (S:=λd=>QG d b 0 (I c)/\QG d b 3 (Vl r n cap)/\QG d r 0 (J g0 0)) ?_;have a:=o.out _ j.drew;iterate 7 (refine py a ?_;simp only[f0,f1,Nat.reduceAdd,lz,l0,ls])
 (iterate 4 refine PX 10 a ?_);refine po 7 λK' g=>?_;go_simp;refine(z _ j.drew).mono ?_;rintro e l⟨rfl,x⟩;have t:D W l:=j.drew.trans (x.mono j.size);have u:=o.out _ t;have i:l.heap[X]?=some (.cells #[I 0,I 0,I 0,U 0,I 0,C] 216):=(x.block _ (ag (W:=V.drew) p)).trans p;refine g _ _ ⟨u,?_⟩;clear a;have a:=u;clear g K';(iterate 2 refine PX 8 a ?_);refine po 14 λK' g=>?_
 go_simp;refine(w _ t).mono ?_;rintro e L⟨rfl,y⟩;rw[y];clear y L;refine g _ _ ⟨u,?_⟩;clear g K';refine py a ?_;simp only[f0,f1,Nat.reduceAdd,lz,l0,ls];refine po 16 λK' g=>?_;refine Ih 216 _ _ rfl X _ rfl rfl 216 _ i E rfl mL ?_;have y:D W (l.setRow X #[I k,I q,I pc,U 0,I 0,C]):=below_setRow t (by rw[K];exact gi) _;refine g _ _ ⟨o _ y,?_⟩;refine bY ?_;have L:=aw (v:=l) i #[I k,I q,I pc,U 0,I 0,C];go_wp2;refine fM L underlying216 ?_;exact⟨rfl,y⟩
def ul:(prog.info? 199).map (λi=>(i.zero,i.size,i.bytes))=some (some (.pointer none),1,8):=E
def tP(st:Nat->Int)(n:Nat):List Nat:=(List.range n).filter λj=>be (st j)
def Pt(g:Nat->Nat)(l:List Nat):List Value:=l.map λj=>J (g j) 0
def zb(a:Nat->Int)(n:Nat)(h:be (a n)=true):tP a (n+1)=tP a n++[n]:=by unfold tP;rw[Gs,Hl];simp[h]
def Bl(a:Nat->Int)(n:Nat)(h:be (a n)=false):tP a (n+1)=tP a n:=by unfold tP;rw[Gs,Hl];simp[h]
def zg(st n):(tP st n).length<=n:=by unfold tP;have:=Hb (λj=>be (st j)) (List.range n);simpa using this
def jB(h:Hs)(c s:Nat):tP (h.st c s) (aM c)=freeS h c s:=rfl
def pa(b r c s n cap on)(g:Nat->Nat)(m:Nat->Int)(W)(h:Bc b r c s n cap on W)(Y:n<=64)(d:∀j,j<n->QG W r j (J (g j) 0))(a:∀j,j<n->W.cell? ⟨g j,0,none⟩=some (I (m j))):
  Calls prog 154 #[J b 0] W λe W'=>∃v,e=QJ v/\W'.ownsRow W.heap.size 199 1 v (tP m n).length (Pt g (tP m n))/\D W W':=by
 let⟨P,o,t,w,y⟩:=G0 ul;let⟨_,_,_,d3⟩:=h;let⟨R,S⟩:=y7 d a;go_wp2;go_loopw [3,11] (λv i wr=>∃k:Nat,k<=n/\i=I k/\Hid (wr.ownsRow W.heap.size 199 1 v (tP m k).length (Pt g (tP m k)))/\Hid (D W wr)) (λ_ i _=>n-(intOf i).toNat);exact⟨0,aa,rfl,H ⟨rfl,.inl ⟨rfl,rfl⟩⟩,H th⟩
 obtain⟨k,hk,rfl,z,j⟩:=hrel;obtain⟨va,vb,vc,rfl⟩:∃p l a,u3=.slice p l a:=by rcases z.2 with⟨rfl,_⟩|⟨g,d,a,rfl,_⟩<;>exact⟨_,_,_,rfl⟩
 by_cases l:k<n
 ·have d0:=NI j (R k l);have d1:=NI j (S k l);have T:=zg m k;have⟨p,L⟩:=y7 (zb m k) (Bl m k);generalize a:m k=x at*;generalize a:tP m k=q at*;have Q:=H (show Pt g (q++[k])=Pt g q++[J (g k) 0] by simp[Pt]);generalize g k=G at*;by_cases M:x=0
  .subst M;let⟨F,A,B8⟩:=Qe (p rfl) (z.alloc (.cells #[J G 0] 199)) (j.alloc j.size (.cells #[J G 0] 199));go_wp2_with (at_builtin;refine Ib _ rfl _ _ 196 rfl W.heap.size 199 P (.pointer none) 1 8 underlying196 o t w y rfl Z _ _ _ rfl A _ 1 1 [J G 0] rfl rfl ?hc ?h1c ?b1 ?b2 ?b3 ?_);(case hc=>exact ek _ _ _ _ bH);(case h1c=>intro u B;simp at B;subst B;rfl);(case b1=>unfold maxLen;omega);(case b2=>omega);(case b3=>exact B8.size);intro V X a d _;let f:=H (IT a (B8.grown d B8.size (cI A)));go_wp2;go_roundw;(exact⟨k+1,Z,aY,H (by rw[F,FC,Q];exact f.1),H f.2⟩);exact QE
  let K:(x==0)=false:=(by simpa using M);by_cases N:x=3
  .subst N;let⟨F,A,B8⟩:=Qe (p rfl) (z.alloc (.cells #[J G 0] 199)) (j.alloc j.size (.cells #[J G 0] 199));go_wp2_with (at_builtin;refine Ib _ rfl _ _ 196 rfl W.heap.size 199 P (.pointer none) 1 8 underlying196 o t w y rfl Z _ _ _ rfl A _ 1 1 [J G 0] rfl rfl ?hc ?h1c ?b1 ?b2 ?b3 ?_);(case hc=>exact ek _ _ _ _ bH);(case h1c=>intro u B;simp at B;subst B;rfl);(case b1=>unfold maxLen;omega);(case b2=>omega);(case b3=>exact B8.size);intro V X a d _;let f:=H (IT a (B8.grown d B8.size (cI A)));go_wp2;go_roundw;(exact⟨k+1,Z,aY,H (by rw[F,FC,Q];exact f.1),H f.2⟩);exact QE
  let O:(x==3)=false:=(by simpa using N);let F:=H (L (by unfold be;rw[K,O];rfl));go_wp2;go_roundw;(exact⟨k+1,Z,aY,H (by rwa[F]),j⟩);exact QE
 obtain rfl:k=n:=Z;go_wp2;go_ret;exact⟨_,rfl,z,j⟩
def hI(t:TypeId):Prop:=t=92\/t=187\/t=220\/t=198\/t=203\/t=225\/t=192\/t=194\/t=3\/t=24
structure Bi(B:Nat)(W W':QM):Prop where
 bel:Below B W W'
 ky:Ky hI W W'
def Bi.refl(B W):Bi B W W:=⟨th,Ky.refl _ _⟩
def Bi.trans{B a b c}(h:Bi B a b)(k:Bi B b c):Bi B a c:=⟨h.bel.trans k.bel,h.ky.trans k.ky⟩
def Bi.ofBelow(b:D W W')(a:B<=W.heap.size):Bi B W W':=⟨b.mono a,Ky.below b⟩
def Bi.add{V V'}(h:Bi B W V)(b:D V V')(a:B<=V.heap.size):Bi B W V':=h.trans (Bi.ofBelow b a)
def Bi.ofGrown{P:Nat}{c:Array QN}{t:QO}{f:Nat×Nat}(b:W.heap[P]?=some (.cells c t f))(d:hI t)(g:B<=P)(e:B<=W.heap.size)(a:W.grownBy W' (some P)):Bi B W W':=
 ⟨(Fu B W).grown a e (λr c=>by simp at c;omega),Ky.grown b d a⟩
def ip(code:Int):List PanicEntry:=[{v:=.iface 127 (.agg #[I code]),recovered:=false}]
def Hp.usedP(b:Hp B y d cf h W)(u:Nat):Hp B y d cf {h with used:=u} (W.setCell (Qz y.P 118) (I u)):=by
 let k:=b.box.kyS 118 (I u);refine(let_mvar%?A:=W.setCell (Qz y.P 118) (I u);?_);let m:Below B W ?A:=(Fu B W).grown (au (Q6 W y.P) _ _) b.bW (λr n=>by simp at n;have:=b.ap.bP;omega);let o:=b.box.set 118 Z (I u);rw[uL]at o;let p:(?A).heap[y.M]?=W.heap[y.M]?:=XB (λe=>by let⟨c,i,_⟩:=b.box;obtain⟨a,⟨q,t,f,_⟩,_⟩:=b.sp.map;rw[e,i]at f;cases f)
 let v:(?A).heap[y.R]?=W.heap[y.R]?:=XB (λe=>by let⟨c,i,_⟩:=b.box;let⟨q,t,f⟩:=b.mp.typ;rw[e,i]at f;cases f)
 exact⟨b.ap,Fx b.bW m.size,o,b.ds.belowB m b.ap.da,b.sp.ky k ar p,b.pg.ky k ar,b.bf,
 λc s a l=>k.XC (b.sl c s a l),λc s a l=>cL (b.rw c s a l) k ar,λc s j a l w=>k.XC (b.sm c s j a l w),
 λc a=>(b.wt c a).ky k ar ar ar,b.mp.same v,b.lo,λr n=>by obtain⟨g,i,f,x⟩:=b.lb r n;exact⟨g,i,f,k.XC x⟩,b.li,b.ro.ky k ar,ai b.rl k,b.rr,b.tb.belowB m b.ap.b0⟩
def Hp.bi118(a:Hp B y d cf h W)(i:Nat)(v:QN):Bi B W (W.setCell (Qz y.P i) v):=by let⟨c,b,_⟩:=a.box;exact Bi.ofGrown b (.inl rfl) a.ap.bP a.bW (au (Q6 W y.P) _ _)
def oL(B y d cf h)(n:Nat)(W)(b:Hp B y d cf h W)(o:1<=n)(s:n<=1000000)(p:h.used<=1000000)(v:cf.ds.length<=20000):
  QA 155 #[J y.P 0,I n] W λe W'=>e=QJ (I (dr cf h n:Nat))/\Hp B y d cf {h with used:=h.used+1} W'/\Bi B W W':=by
 have c:W.cell? (Qz y.P 118)=some (I h.used):=b.cell 118 Z _ rfl;have t:W.cell? (Qz y.P 5)=some (.slice y.da cf.ds.length y.dc):=b.cell 5 Z _ rfl;have f118:W.frozen? (Qz y.P 118)=false:=b.box.free 118;have f:((h.used+1:Nat):Int)=(h.used:Int)+1:=Z;have⟨i,a⟩:=y7 (b.usedP (h.used+1)) (b.bi118 118 (I (h.used+1:Nat)));rw[f]at i a;by_cases f:h.used<cf.ds.length
 ·have⟨g,j,r⟩:=b.ds.cells h.used f;rw[j]at t;have k:Hid (dr cf h n=md (cf.ds[h.used]?.getD 0) n):=rfl;generalize cf.ds[h.used]?.getD 0=q at k r;have M:=H (λW'=>iA q n W' o Z);generalize cf.ds.length=l at*;generalize m:h.used=us at c r f i a p;have j:(us:Int)<(l:Int):=Z;go_enter func155,ntmps155;go_wp2;go_region;go_wp2;go_region;go_wp2_with fail;refine(M _).mono ?_;rintro e u⟨rfl,rfl⟩;go_wp2;go_ret;refine⟨?_,i.below ld.drew,⟨a.bel.os,a.bel.tape,a.bel.output,a.bel.size,a.bel.block⟩,⟨a.ky.os,a.ky.tape,a.ky.output,a.ky.size,a.ky.cells⟩⟩;rw[k];rfl
 have k:=H (show dr cf h n=md 0 n by unfold dr md;rw[FJ Z];rfl);have M:=H (λW'=>iA 0 n W' o Z);generalize cf.ds.length=l at*;generalize m:h.used=us at c f i a p;let j:¬((us:Int)<(l:Int)):=Z;go_enter func155,ntmps155;go_wp2;go_region;go_wp2_with fail;apply (M _).mono;rintro e u⟨rfl,rfl⟩;go_wp2;go_ret;refine⟨?_,i.below ld,⟨a.bel.os,a.bel.tape,a.bel.output,a.bel.size,a.bel.block⟩,⟨a.ky.os,a.ky.tape,a.ky.output,a.ky.size,a.ky.cells⟩⟩;rw[k];rfl
def Fr.kt{S M st n bud f f' m}(d:Im S M st n bud f W)(j:Pg f m W)(h:Fr S M f f' W W'):Ky (λt=>t=187\/t=220) W W':=by
 refine⟨h.os,h.tape,h.output,h.size,λg c t p b e=>?_⟩;rw[h.block g (ag b) ?_ ?_ ?_];.exact b
 .rintro rfl;rw[d.box]at b;simp at b;exact e (.inl b.2.1.symm)
 .rintro rfl;obtain⟨a,⟨k,l,i,_⟩,_⟩:=d.map;rw[i]at b;cases b
 intro k i;rcases j.at' k with⟨a,_⟩|⟨q,l,r,a,_,_,o⟩;.rw[i]at a;cases a
 rw[i]at a;cases a;rw[o]at b;simp at b;exact e (.inr b.2.1.symm)
def Hp.space{f' m'}(a:Hp B y d cf h W)(v:Im y.S y.M 0 283 (cf.bud:Nat) f' W')(w:Pg f' m' W')(b:Fr y.S y.M d.f f' W W'):
  Hp B y {d with f:=f'} cf {h with m:=m'} W'/\Bi B W W':=by
 let k:=b.kt a.sp a.pg;let q:Below B W W':=⟨b.os,b.tape,b.output,b.size,λg t=>b.block g (FG t a.bW) (by have:=a.ap.bS;omega) (by have:=a.ap.bM;omega) (λj n=>by have:=a.bf j g n;omega)⟩;let x:W'.heap[y.R]?=W.heap[y.R]?:=by
  let⟨p,r,o⟩:=a.mp.typ;refine b.block _ (ag o) (λe=>?_) (λe=>a.ap.mr e.symm) (λj n=>?_);.rw[e,a.sp.box]at o;cases o
  rcases a.pg.at' j with⟨c,_⟩|⟨s,l,u,c,_,_,i⟩;.rw[n]at c;cases c
  rw[n]at c;cases c;rw[i]at o;cases o
 refine⟨⟨a.ap,Fx a.bW q.size,a.box.ky k ar,a.ds.belowB q a.ap.da,v,w,λj g n=>?_,
 λc s l p=>?_,λc s l p=>cL (a.rw c s l p) k ar,λc s j l p n=>k.XC (a.sm c s j l p n),
 λc l=>(a.wt c l).ky k ar ar ar,a.mp.same x,a.lo,λr z=>by obtain⟨g,A,o,F⟩:=a.lb r z;exact⟨g,A,o,k.XC F⟩,a.li,a.ro.ky k ar,ai a.rl k,a.rr,a.tb.belowB q a.ap.b0⟩,q,k.more (λt i=>by unfold hI;rcases i with e|e<;>simp[e])⟩
 .rcases b.made j g n with⟨i,u⟩|G;.exact a.bf i g u
  exact Fx a.bW G
 exact k.XC (a.sl c s l p)
end
section
variable {cf:Cf}{h:Hs}{B Q n:Nat}{W W':World}{t:TypeId}{x:Sm}{v:Value}{r:Option Nat}
def pJ(P:Nat->Bool):Nat->Int
 |0=> -1
 |n+1=>if P (5-n)then((5-n:Nat):Int)else pJ P n
def ux{P}:pJ P 6=match(List.range 6).find? P with|some s=>(s:Int)|none=> -1:=by have e:List.range 6=[0,1,2,3,4,5]:=rfl;rw[e];simp only[pJ,List.find?];cases P 0<;>cases P 1<;>cases P 2<;>cases P 3<;>cases P 4<;>cases P 5<;>rfl
def sK(P):∀n,n<=6 -> -1<=pJ P n/\pJ P n<=5
 |0,_=>by simp[pJ]
 |n+1,h=>by
  have:=sK P n Z
  simp only[pJ]
  split<;>omega
def Inv.openS(i:Inv cf h){c s j k:Nat}(b:c<12)(d:s<6)(f:j<aM c)(a:dA h c s=true)(g:k<cy c):isOpen (h.m ((bh c s j+k)/1024))=true:=by
 let l:=ca b d f;let m:aD c s*1024<=bh c s j:=by unfold bh;omega
 let e:=i.slab c s b d ((bh c s j+k)/1024-aD c s) Z;rw[show aD c s+((bh c s j+k)/1024-aD c s)=(bh c s j+k)/1024 by omega,a]at e;rwa[i.fine.open]
def ir(h:Hs)(c s:Nat):Bool:=dA h c s && !(freeS h c s).isEmpty
def sk(m a)(k:Nat):clean m a (k+1)=(clean m a k&&(bO m (a+k)==0)):=by unfold clean;rw[lP,List.all_append];simp
def Fh(c:Nat)(o:Option (Nat×Nat))(K:Int):Prop:=match o with|none=>K = -1|some (s,j)=>∃k:Nat,K=(k:Int)/\k<1062/\sA k=(c,s,j)
def mT{h a:Hs}(e:h.st=a.st)(c):∀n,dy h c n=dy a c n
 |0=>rfl
 |n+1=>by
  simp only[dy,freeS]
  rw[mT e c n,e]
def xf(B x cf h)(c:Nat)(W)(b:Sh B x cf h W)(f:B<=W.heap.size)(g:Inv cf h)(L:c<12)(i:h.used+2000<=1000000)(j:cf.ds.length<=20000)(k:∀d∈cf.ds,(Lit.int .i64 d).wf=true):
  Calls prog 255 #[J x.P 0,I c] W λe W'=>∃K:Int,e=QJ (I K)/\Sh B x cf (bN cf c 2000 h).2 W'/\Bk B x.Q W W'/\Fh c (bN cf c 2000 h).1 K:=by
 have⟨HS,HI,q⟩:=Qe b g f;have HF:=H (show dy h c 6<2000 by have l:=mf h c 6;have h2:=aX L;have:6*aM c<=6*64:=IJ _ Z;omega)
 have⟨z,a⟩:=Qa (bN cf c 2000 h);rw[a];have⟨HR,HU,HD⟩:=Qe a i (IT j k);clear b g f a i j k;go_wp2;refine(let_mvar%?B:=Sh B x cf;?_);go_loopg [5] 2000 (λgk _ wr=>∃o:Hs,Hid (bN cf c gk o=z)/\Hid (dy o c 6<gk)/\Hid (?B o wr)/\Hid (Inv cf o)/\Hid (Bk B x.Q W wr)/\Hid (o.used+gk<=h.used+2000));exact⟨h,HR,HF,HS,HI,H (Bk.refl _ _ _),H gi⟩
 have⟨o,KR,KF,KS,KI,KB,KU⟩:=hrel;have⟨ON,FR,OF⟩:=Qe (λV(T:?B o V)s(a:s<6)=>Dc B x cf o c s V T L a) uC (λV(T:?B o V)s g(hr:RowV V g 3 (Ns .i64 [0,3]))=>yC B x cf o c s (some (Qz g 0)) 2 2 [0,3] V T (.inr ⟨g,rfl,hr⟩) rfl ar Z);go_wp2;refine(let_mvar%?D:=pJ (ir o c);?_);go_loopw [5,6,7] (λa b s wq=>∃n:Nat,n<=6/\s=I (5-(n:Int))/\a=I (?D n)/\b=I (pJ (λs=>!dA o c s) n)/\Hid (?B o wq)/\Hid (Bk B x.Q W wq)) (λ_ _ s _=>(intOf s+1).toNat);exact⟨0,Z,rfl,rfl,rfl,KS,KB⟩
 case round=>
  clear KS KB;obtain⟨n,hn,rfl,rfl,rfl,M,BQ⟩:=hrel;have a8:Hid (B<=wr.heap.size):=Fx q BQ.bel.size;have d1:=sK (ir o c) n hn;have d2:=sK (λs=>!dA o c s) n hn;by_cases a4:n<6
  ·obtain⟨s,O⟩:∃s:Nat,s=5-n:=⟨_,rfl⟩;have f:(5-(n:Int))=(s:Int):=Z;have t:s<6:=Z;have d:=H (show ?D (n+1)=if ir o c s then(s:Int)else ?D n by rw[O];rfl);have i:=H (show pJ (λs=>!dA o c s) (n+1)=if(!dA o c s)then(s:Int)else pJ (λs=>!dA o c s) n by rw[O];rfl);have r:s+n=5:=Z;rw[f];clear O f;have f:=H (ON _ M s t);generalize ?D n=i1 at*;generalize pJ (λs=>!dA o c s) n=i2 at*;go_wp2_with fail;refine f.mono ?_;rintro e P⟨rfl,u⟩;have⟨S1,B1,L1⟩:=Qe (M.below u) (M.bkB BQ q u) (Fx a8 u.size);clear u;cases w:dA o c s
   ·have f:=H (d.trans (GO (by unfold ir;simp[w])));have k:=H (i.trans (GP (by simp[w])));clear w;go_wp2;go_roundw;(exact⟨n+1,Z,aY,by rw[f],by rw[k],S1,B1⟩);exact QE
   have k:=H (i.trans (GO (by simp[w])));go_wp2_with fail;refine(FR _).mono ?_;rintro e V2⟨g,rfl,j,N⟩;have⟨S2,B2,L2⟩:=Qe (S1.below N) (S1.bkB B1 q N) (Fx L1 N.size);have C2:=H (OF _ S2 s g j);go_wp2_with fail;refine C2.mono ?_;rintro e V3⟨v,rfl,j,b3⟩;have⟨S3,B3⟩:=y7 (S2.below b3) (S2.bkB B2 q b3);obtain⟨va,vc,rfl⟩:=aK j;have Q:=kE o c s L t;have b6:=iD o c s;have hz:=aX L;rw[Q];refine(let_mvar%?E:=freeS o c s;?_);by_cases j:(?E).length=0
   ·have f:=H (d.trans (GO (by unfold ir;rw[List.length_eq_zero_iff]at j;simp[j])));have p:¬((0:Int)<((?E).length:Int)):=Z;generalize (?E).length=fl at*;go_wp2;go_roundw;(exact⟨n+1,Z,aY,by rw[f],by rw[k],S3,B3⟩);exact QE
   have f:=H (d.trans (GP (by unfold ir;rw[List.length_eq_zero_iff]at j;simp[w,j])));have p:(0:Int)<((?E).length:Int):=Z;generalize (?E).length=fl at*;go_wp2;go_roundw;(exact⟨n+1,Z,aY,by rw[f],by rw[k],S3,B3⟩);exact QE
  obtain rfl:n=6:=Z;have⟨E1,E2⟩:=y7 (show ?D 6=match NW o c with|some s=>(s:Int)|none=> -1 from ux) (show pJ (λs=>!dA o c s) 6=match qS o c with|some s=>(s:Int)|none=> -1 from ux);generalize ?D 6=i1 at*;generalize pJ (λs=>!dA o c s) 6=i2 at*;obtain⟨f,d⟩:∃f,gk=f+1:=⟨gk-1,by have:=KF.out;omega⟩;have KG:=H d;have y:=H (show(match cJ cf o c with
    |none=>(none,o)
    |some (s,l)=>if clean l.m (bh c s (du cf l c s)) (cy c)then(some (s,du cf l c s),{l with used:=l.used+1})
     else bN cf c f {l with used:=l.used+1,st:=aE l.st c s (du cf l c s) 4})=z by
   have:=KR.out;rw[d,f_]at this;exact this)
  (go_upto_if 31 with fail);go_cut [5] (λd w'=>∃(p:Nat)(l:Hs),d=I p/\Hid (cJ cf o c=some (p,l))/\Hid (?B l w')/\Hid (Bk B x.Q W w'));case first=>
   cases k:NW o c with
   |some p=>have e1:i1=(p:Int):=(by have:=E1.out;rw[k]at this;exact this);subst e1;have a0:¬((p:Int)<0):=Z;have F:=H (show cJ cf o c=some (p,o) by unfold cJ;rw[k]);go_wp2;go_meet;exact⟨p,o,rfl,F,M,BQ⟩
   | none=>
    have e1:i1 = -1:=(by have:=E1.out;rw[k]at this;exact this);subst e1;have d:decide ((-1:Int)<0)=true:=ar;simp only[d];cases A:qS o c with
    |none=>have e2:i2 = -1:=(by have:=E2.out;rw[A]at this;exact this);subst e2;have F:=H (show z=(none,o) by have:=y.out;unfold cJ at this;rw[k,A]at this;exact this.symm);go_wp2;refine rh (S:=λ_=>True) ?_;have d:True:=trivial;refine PX 0 d ?_;refine pz 1 Ql d ?_;refine pk 2 Ql d ?_;(iterate 11 refine PX 3 d ?_);refine pz 14 Ql d ?_;refine bY ?_;have⟨i,B9⟩:=y7 (M.below ld) (M.bkB BQ q ld);go_wp2;go_ret;rw[F];exact⟨-1,rfl,i,B9,rfl⟩
    | some p=>
     have e2:i2=(p:Int):=(by have:=E2.out;rw[A]at this;exact this);subst e2;have⟨t,_⟩:=lr A;have a1:=cD L t;have R:wr.cell? (Qz x.P 6)=some (J x.T 0):=M.cell 6 _ rfl;have⟨CP,CG⟩:=y7 (λV=>mc c p V L t) (λV=>yh c V L);have a0:¬((p:Int)<0):=Z;have a2:decide ((p:Int)<0)=false:=bH;by_cases i:cf.bud<bz o.m 283+dI c
     ·have F:=H (show z=(none,o) by have:=y.out;unfold cJ at this;rw[k,A]at this;dsimp only at this;rw[GP i]at this;exact this.symm)
      have CC:=H (λV(T:D wr V)=>jm x.T x.Q 283 (cf.bud:Nat) o.m (aD c p) (dI c) V ((M.below T).sp) Z Z Z);generalize aD c p=sp at*;generalize dI c=pn at*;go_wp2;refine rh (S:=λW'=>QG W' x.P 6 (J x.T 0)) ?_;have d:=R;refine PX 0 d ?_;refine pz 1 Qk d ?_;refine pk 2 Qk d ?_;(iterate 6 refine PX 3 d ?_);refine PX 10 d ?_;refine po 9 λK' r=>?_;go_simp;refine(CP _).mono ?_;rintro e P⟨rfl,u⟩;have G:D wr P:=⟨u.os,u.tape,u.output,u.size,u.block⟩;have l:=NI G R;refine r _ _ ⟨l,?_⟩;have d:=l;refine po 11 λK' r=>?_
      go_simp;refine(CG _).mono ?_;rintro e V2⟨rfl,N⟩;have j:=az G N;have h2:=NI j R;refine r _ _ ⟨h2,?_⟩;have d:=h2;refine po 12 λK' r=>?_;go_simp;refine(CC _ j).mono ?_;rintro e V3⟨rfl,b3⟩;have k3:=az j b3;have X:=NI k3 R;refine r _ _ ⟨X,?_⟩;have d:=X;refine pz 13 Ql d ?_;refine pz 14 Ql d ?_;refine bY ?_;have Y:=H (IT (M.below k3) (M.bkB BQ q k3));go_wp2;go_ret;rw[F];exact⟨-1,rfl,Y.1,Y.2,rfl⟩
     have F:=H (show cJ cf o c=some (p,{o with m:=aT o.m (aD c p) (dI c)}) by unfold cJ;rw[k,A];dsimp only;rw[GO i])
     have CC:=H (λV(T:D wr V)=>iK x.T x.Q 283 (cf.bud:Nat) o.m (aD c p) (dI c) V ((M.below T).sp) Z Z Z);generalize aD c p=sp at*;generalize dI c=pn at*;go_wp2;refine rh (S:=λW'=>QG W' x.P 6 (J x.T 0)) ?_;have d:=R;refine PX 0 d ?_;refine pz 1 Qk d ?_;refine pk 2 Qk d ?_;(iterate 6 refine PX 3 d ?_);refine PX 10 d ?_;refine po 9 λK' r=>?_;go_simp;refine(CP _).mono ?_;rintro e P⟨rfl,u⟩;have G:D wr P:=⟨u.os,u.tape,u.output,u.size,u.block⟩;have l:=NI G R;refine r _ _ ⟨l,?_⟩;have d:=l;refine po 11 λK' r=>?_
     go_simp;refine(CG _).mono ?_;rintro e V2⟨rfl,N⟩;have j:=az G N;have h2:=NI j R;refine r _ _ ⟨h2,?_⟩;have d:=h2;refine po 12 λK' r=>?_;go_simp;refine(CC _ j).mono ?_;rintro e V3⟨rfl,i,f3⟩;have Y:=H (IT ((M.below j).space (Fx a8 j.size) _ i f3) ((M.below j).bkS (M.bkB BQ q j) q f3));have X:V3.cell? (Qz x.P 6)=some (J x.T 0):=Y.1.cell 6 _ rfl;refine r _ _ ⟨X,?_⟩;have d:=X;refine pz 13 Qk d ?_;refine pz 14 Qk d ?_;refine bY ?_;clear i f3 G j u N R d l h2 X;go_wp2
     go_meet;exact⟨p,_,rfl,F,H Y.1,H Y.2⟩
  case rest=>
   obtain⟨p,l,rfl,RM,S1,B1⟩:=hcut;have⟨t,j1,w,X,a0,c2,O⟩:=KI.room L RM;have i:=H (show(if clean l.m (bh c p (du cf l c p)) (cy c)then(some (p,du cf l c p),{l with used:=l.used+1})
     else bN cf c f {l with used:=l.used+1,st:=aE l.st c p (du cf l c p) 4})=z by
    have:=y.out;rw[RM]at this;exact this)
   have⟨k,A,F⟩:=oH cf X;have⟨J1,a9,b7,L1⟩:=Qf j1 w O (show B<=wc.heap.size from Fx q B1.bel.size);have b6:=iD l c p;have hz:=aX L;have Q:=kE l c p L t;have b8:=mW cf l X;refine(let_mvar%?C:=dr cf l (freeS l c p).length;?_);obtain⟨K,r⟩:∃K,(jc l c p [0,3] 1062)[?C]?=some K:=⟨_,Fy (by rw[Q];exact b8)⟩;have⟨a1,jj,a5,a3,G⟩:=tw L t r;rw[k]at a5;simp at a5;subst a5;have a7:=KU.out;have b4:=HU.out;have b9:l.used<=1000000:=(by have:=KF.out;omega);have⟨OF,DR,Y,a6,b0,a2⟩:=Qh (λV(T:?B l V)g(hr:RowV V g 3 (Ns .i64 [0,3]))=>yC B x cf l c p (some (Qz g 0)) 2 2 [0,3] V T (.inr ⟨g,rfl,hr⟩) rfl ar Z) (λV(T:?B l V)=>oQ B x cf l (freeS l c p).length V T Z Z b9 HD.1 HD.2) (show(Zn (jc l c p [0,3] 1062))[?C]?=some (I K) by simp[Zn,r]) G F A;have y:=i;rw[Q]at OF;generalize du cf l c p=j at*;generalize ?C=dd at*;generalize c0:(freeS l c p).length=fl at*;clear k A F j1 w O a0 Q r G a3 RM KI c0 a7 b4 M BQ d1 d2;go_wp2_with fail;refine(FR _).mono ?_;rintro e P⟨g,rfl,i,u⟩;have⟨S2,B2,L2⟩:=Qe (S1.below u) (S1.bkB B1 q u) (Fx L1 u.size);have C2:=H (OF _ S2 g i);clear u i S1 B1;go_wp2_with fail;refine C2.mono ?_;rintro e V2⟨v,rfl,i,N⟩;have⟨S3,B3,F⟩:=Qe (S2.below N) (S2.bkB B2 q N) (Fx L2 N.size);obtain⟨va,vc,rfl⟩:=aK i;obtain⟨G,rfl⟩:=cr i X;have k:=H i;clear i N;go_wp2_with fail;refine(DR _ S3).mono ?_;rintro e V3⟨rfl,A,i⟩;have cK:V3.cell? (Qz G dd)=some (I K):=bC (ai k (Ky.grown S3.box rfl i)) dd _ Y;have⟨S4,B4⟩:=y7 A (S3.bkP B3 q i);clear A i;obtain⟨h4,A⟩:∃h4:Hs,h4={l with used:=l.used+1}:=⟨_,rfl⟩;rw[<-A]at S4;have⟨SZ,Y⟩:=y7 (λV=>wN c V L) (show∀k,k<cy c->isOpen (l.m ((bh c p j+k)/1024))=true from λk b4=>J1.openS L t a2 a9 b4);have i:=ca L t a2;have a7:=H A;have⟨a,ha⟩:=Qa (bh c p j);have⟨zz,F⟩:=Qa (cy c);have HA:=H (show gt K=a by unfold gt;rw[a6];exact ha);rw[ha]at y Y i;rw[F]at y SZ Y i hz;have c3:=hz.1;have c4:=hz.2.1;have c5:a+zz<191488:=i.2.2;clear A ha F hz i;go_wp2;go_loopw [10,11] (λb i wq=>∃k:Nat,k<=zz/\i=I k/\b=.bool (clean l.m a k)/\Hid (?B h4 wq)/\Hid (Bk B x.Q W wq)) (λ_ i _=>zz-(intOf i).toNat);(case atStart=>exact⟨0,aa,rfl,rfl,S4,B4⟩);case round=>
    obtain⟨k,b4,rfl,rfl,S4,B4⟩:=hrel;go_wp2_with fail;refine(SZ _).mono ?_;rintro e V5⟨rfl,A⟩;have⟨F,B5⟩:=y7 (S4.below A) (S4.bkB B4 q A);by_cases a4:k<zz
    ·have c0:(k:Int)<(zz:Int):=Z;have HC:=H (sk l.m a k);cases A:clean l.m a k
     ·have a0:=H (show clean l.m a (k+1)=false by rw[HC,A];rfl);go_wp2;refine rh (S:=λ_=>True) ?_;have d:True:=trivial;refine pk 0 Qk d ?_;refine pk 1 Qk d ?_;(iterate 17 refine PX 2 d ?_);refine pz 19 Qk d ?_;refine pk 20 Qk d ?_;refine bY ?_;have⟨S6,B6⟩:=y7 (F.below ld) (F.bkB B5 q ld);go_wp2;go_roundw;(exact⟨k+1,Z,aY,by rw[a0],S6,B6⟩);exact QE
     have R:V5.cell? (Qz x.P 6)=some (J x.T 0):=F.cell 6 _ rfl;refine(let_mvar%?F:=Vl x.G 1062 x.gc;?_);have c7:V5.cell? (Qz x.P 7)=some ?F:=F.cell 7 _ rfl;have d3:=(F.slot a1).2.2.2.1;rw[HA]at d3;have a3:=Y.out k a4;have GC:Hid (∀P,D V5 P->QA 264 #[J x.T 0,U (IntKind.u64.wrap ((a:Int)+IntKind.u64.wrap (k:Int)))] P λe w'=>e=QJ (.int .u8 (bO l.m (a+k)))/\w'=P):=(λP b=>by rw[dX (k:Int) Z Z,dX _ Z Z];have:=(F.below b).sp;rw[a7]at this;exact kT x.T x.Q 283 (cf.bud:Nat) l.m (a+k) P this Z Z a3)
     rw[A,Bool.true_and]at HC;generalize bO l.m (a+k)=bt at*;by_cases a3:bt=0
     ·have a0:=H (show clean l.m a (k+1)=true by rw[HC,a3];rfl);subst a3;go_wp2;refine rh (S:=λW'=>QG W' x.P 6 (J x.T 0)/\QG W' x.P 7 ?F/\QG W' x.G (K*6+3) (U a)) ?_;have d:=(show _/\_/\_ from⟨R,c7,d3⟩);refine pk 0 Ql d ?_;refine pk 1 Ql d ?_;(iterate 15 refine PX 2 d ?_);refine po 17 λK' r=>?_;go_simp;refine(GC _ ld).mono ?_;rintro e P⟨rfl,rfl⟩;refine r _ _ ⟨d,?_⟩;refine pz 18 Ql d ?_;refine pz 19 Ql d ?_;refine pk 20 Ql d ?_;refine bY ?_;have⟨S6,B6⟩:=y7 (F.below ld) (F.bkB B5 q ld);go_wp2;go_roundw
      (exact⟨k+1,Z,aY,by rw[a0],S6,B6⟩);exact QE
     have a0:=H (show clean l.m a (k+1)=false by rw[HC];simpa using a3);have c1:(bt==0)=false:=(by simpa using a3);go_wp2;refine rh (S:=λW'=>QG W' x.P 6 (J x.T 0)/\QG W' x.P 7 ?F/\QG W' x.G (K*6+3) (U a)) ?_;have d:=(show _/\_/\_ from⟨R,c7,d3⟩);refine pk 0 Ql d ?_;refine pk 1 Ql d ?_;(iterate 15 refine PX 2 d ?_);refine po 17 λK' r=>?_;go_simp;refine(GC _ ld).mono ?_;rintro e P⟨rfl,rfl⟩;refine r _ _ ⟨d,?_⟩;refine pz 18 Qk d ?_;refine pz 19 Qk d ?_;refine pk 20 Qk d ?_;refine bY ?_;have⟨S6,B6⟩:=y7 (F.below ld) (F.bkB B5 q ld);go_wp2;go_roundw
     (exact⟨k+1,Z,aY,by rw[a0],S6,B6⟩);exact QE
    obtain rfl:k=zz:=Z;cases A:clean l.m a k
    ·refine(let_mvar%?A:=aE l.st c p j 4;?_);have a0:=H (show bN cf c f {l with used:=l.used+1,st:=?A}=z by have:=y.out;rw[GO (by rw[A];decide)]at this;exact this)
     have c7:V5.cell? (Qz x.P 7)=some (Vl x.G 1062 x.gc):=F.cell 7 _ rfl;have d4:=(F.slot a1).2.2.2.2.1;have f4:=F.slotF (K*6+4);have c0:=H (show B<=x.G by
      rcases F.sl.2 with⟨e,_⟩|⟨g,a3,c1,e,hg,_⟩;·simp at e
      simp at e;omega)
     have S6:=H (show ?B {l with used:=l.used+1,st:=?A} (V5.setCell (Qz x.G (K*6+4)) (I 4)) by have:=F.setSt a1 4;rw[a6,a7]at this;exact this)
     have⟨B6,I6⟩:=y7 (F.bkG B5 q (K*6+4) (I 4)) (show Inv cf {l with used:=l.used+1,st:=?A}from(J1.used (l.used+1)).retire L t a2 b0 a9);have F6:=H (show dy {l with used:=l.used+1,st:=?A} c 6<f by have q1:=(jE (h:=l) (s:=p) a2 b0 6).2 t;have q2:dy {l with used:=l.used+1,st:=?A} c 6=dy {l with st:=?A} c 6:=rfl;have q3:dy l c 6=dy o c 6:=mT b7 c 6;have q4:=KF.out;have q5:=KG.out;omega)
     have U6:=H (show l.used+1+f<=h.used+2000 by have q1:=KU.out;have q5:=KG.out;omega)
     generalize dC h4 K=z4 at d4;go_wp2
     go_roundg f
     (exact⟨_,a0,F6,S6,I6,B6,U6⟩);case measure=>have:=KG.out;omega
    have a0:=H (show z=(some (p,j),{l with used:=l.used+1}) by have:=y.out;rw[GP A]at this;exact this.symm)
    go_wp2;go_ret;rw[a0];exact⟨(K:Int),rfl,a7.out▸F.out,B5,K,rfl,a1,a6⟩
def jP(a:An4)(v:Value):Value:=.agg #[I a.code,U a.addr,I a.size,v]
def mQ:Option Nat->An4
 |none=>.no 1
 |some q=>⟨0,q,0,[]⟩
structure mE(cf:Cf):Prop where
 len:cf.ds.length<=20000
 wf:∀d∈cf.ds,(Lit.int .i64 d).wf=true
 key0:0<=cf.key
 key1:cf.key<18446744073709551616
 mix:cf.mix<=16
 fifo1:1<=cf.fifo
 fifo:cf.fifo<=32
 large:cf.large<=16
 bud:cf.bud<=283
def jI{m:Nat->Option (Bool×List Int)}{a:Nat}(c:1<=n)(d:n<=4096)(e:a+n<=1000000)(b:∀k,k<n->isOpen (m ((a+k)/1024))=true):ci m a (n:Int)=0:=by unfold ci;rw[GO Z,GO Z,GO Z,F0,jX b];rfl
def Av(a:Nat)(W:QM)(ha:a<=1016):QA 256 #[U a] W λe W'=>e=QJ (I (fD a:Nat))/\D W W':=by apply(sJ (a:Int) Z Z W).mono;rintro e W'⟨rfl,b⟩;exact⟨cX (zO ha).1,b⟩
def Bk.at(k:Bk B Q W W'){g:Nat}{c:Array QN}{f:Nat×Nat}(a:W.heap[g]?=some (.cells c t f))(b:¬hT t):W'.heap[g]?=some (.cells c t f):=k.ky.cells g c t f a b
def eB(h:t≠240/\t≠242/\t≠123/\t≠244/\t≠24/\t≠305/\t≠5):¬hT t:=by
 intro e;rcases e with e|e|e|e|e|e|e;.exact h.1 e
 .exact h.2.1 e
 .exact h.2.2.1 e
 .exact h.2.2.2.1 e
 .exact h.2.2.2.2.1 e
 .exact h.2.2.2.2.2.1 e
 exact h.2.2.2.2.2.2 e
def Bk.loc{R:Nat}{W0}(k:Bk B Q W0 W)(b:W.grownBy W' (some R))(l:W0.heap.size<=R)(i:Q<W0.heap.size)(m:B<=W0.heap.size):Bk B Q W0 W':=by
 let n:=k.bel.size;let d:∀g,g<W0.heap.size->W'.heap[g]?=W.heap[g]?:=λg j=>b.block g Z bG
 refine⟨k.bel.grown b Z (λr a=>by simp at a;omega),⟨b.os.trans k.ky.os,b.tape.trans k.ky.tape,b.output.trans k.ky.output,Fx k.ky.size b.size,λg c t f a e=>by rw[d g (ag a)];exact k.ky.cells g c t f a e⟩,λg c f a e=>by rw[d g (ag a)];exact k.by5 g c f a e,λg a=>k.pg g (cV (d Q i) a)⟩
def Sh.kyO{t:Nat}(a:Sh B x cf h W)(k:Ky (· =t) W W')(d:t=94\/t=63\/t=284):Sh B x cf h W':=by
 rcases d with rfl|rfl|rfl
 all_goals exact⟨k.XC a.box,a.bp,a.bq,λg e=>a.bg g (cV (a.sp.qEq k ar) e),a.ds.ky k ar,a.sp.ky k ar ar ar,ai a.sl k,ai a.wt k,λc b=>⟨(a.wm c b).1.ky k ar,(a.wm c b).2.ky k ar⟩,ai a.rg k,ai a.ro k,ai a.rl k⟩
def Sh.off81{R:Nat}{c:Array QN}(b:Sh B x cf h W)(d:W.heap[R]?=some (.cells c 94))(a:Array QN):Sh B x cf h (W.setRow R a):=b.kyO (Ky.grown d rfl (aj W R a)) (.inl rfl)
def A4(cf:Cf)(c a:Nat):Option (Nat×Nat)×Hs->Option Nat×Hs
 |(none,e)=>(none,e)
 |(some (s,j),e)=>(some (bh c s j),{e with st:=aE e.st c s j 1,rq:=aE e.rq c s j a,m:=ay e.m (bh c s j+eV c) (can cf (bh c s j)) 8})
def iP(cf h){a:Nat}(ha:a<=1016):av cf h a=A4 cf (fD a) a (bN cf (fD a) 2000 h):=by unfold av A4;rw[GP ha];rfl
def qz(B x cf h)(a:Nat)(W)(f:Sh B x cf h W)(hB:B<=W.heap.size)(n:Inv cf h)(hu:h.used+2000<=1000000)(g:mE cf)(ha:a<=1016):
  Calls prog 183 #[J x.P 0,U a] W λe W'=>e=QJ (jP (mQ (av cf h a).1) (C))/\Sh B x cf (av cf h a).2 W'/\Bk B x.Q W W':=by
 have⟨G,a1⟩:=jf ha;have r:=H (λV=>Av a V ha);have hz:=aX G;have⟨o,_⟩:=Inv.small G 2000 n;have⟨y,b⟩:=Qa (bN cf (fD a) 2000 h);have HM:=H (show av cf h a=A4 cf (fD a) a y by rw[<-b];exact iP cf h ha);have q:=H (λV(O:Sh B x cf h V)(c:B<=V.heap.size)=>xf B x cf h (fD a) V O c n G hu g.len g.wf);rw[b]at o;simp only[b]at q;have P:=H o;have t:=H hB;have HD:=H g;generalize fD a=c at*;have A:D W (W.alloc (.cells #[I 0,U 0,I 0,C] 94)):=ph;have j:=H (f.below A);have p:=H (f.bkB (Bk.refl _ _ _) hB A);have l:=H (ao W (.cells #[I 0,U 0,I 0,C] 94));have⟨i,d⟩:=Qa (av cf h a);rw[d];have T:=H d;have s:=f.ltQ;clear f b o n g A d;go_in;go_wp2_with fail;generalize W.alloc _=V at j p l⊢;have⟨R,b⟩:=Qb W.heap.size;rw[<-b]at l⊢;have HR:=H b;have HQ:=H s;clear b s;refine(r _).mono ?_;rintro e V1⟨rfl,b⟩;have f:=H (j.below b);have d:=H (j.bkB p t b);have g:=H (ae l b);clear b j p l r;go_wp2_with fail;refine(q _ f (Fx t d.bel.size)).mono ?_;rintro e p⟨K,rfl,j,b,L⟩;have z:=H j;have B2:=H (d.trans b);have X:=H (b.at g (eB ar));clear j b f d g q;have⟨o,b⟩:=y;cases o with
 |none=>have w:K = -1:=L;subst w;have HE:=H (show i=(none,b) by rw[<-T.out,HM];rfl);clear L HM;go_wp2_with (refine eG X ?_);refine fM (aw X _) underlying94 ?_;rw[HE];exact⟨rfl,z.off81 X _,B2.loc (aj p R _) (by rw[HR];exact gi) HQ t⟩
 | some q=>
  have⟨s,j⟩:=q;obtain⟨k,rfl,hk,f⟩:∃k:Nat,K=(k:Int)/\k<1062/\sA k=(c,s,j):=L;have⟨M,hj,d,_,_,_⟩:=P.some s j rfl;have a2:=ca G M hj;have I1:=H P.inv;refine(let_mvar%?B:=aE b.st c s j 1;let_mvar%?C:=bh c s j;let_mvar%?D:=aE b.rq c s j a;?_);have HE:=H (show i=(some (?C),{b with st:=?B,rq:=?D,m:=ay b.m (?C+eV c) (can cf (?C)) 8}) by rw[<-T.out,HM];rfl);have b3:=H f;refine(let_mvar%?E:=p.setCell (Qz x.G (k*6+4)) (I 1);?_);have n:=H (show Sh B x cf {b with st:=?B} ?E by have:=z.setSt hk 1;rw[f]at this;exact this)
  have B3:=H (z.bkG B2 t (k*6+4) (I 1));refine(let_mvar%?F:=some (Vl x.G 1062 x.gc);?_);have c7:p.cell? (Qz x.P 7)=?F:=z.cell 7 _ rfl;have d4:=(z.slot hk).2.2.2.2.1;have f4:=z.slotF (k*6+4);refine(let_mvar%?A:=(?E).setCell (Qz x.G (k*6+5)) (I a);?_);have Q:=H (show Sh B x cf {b with st:=?B,rq:=?D} (?A) by have:=n.setRq hk (a:Nat);rw[f]at this;exact this)
  have Y:=H (n.bkG B3 t (k*6+5) (I a));have a3:(?E).cell? (Qz x.P 7)=?F:=n.cell 7 _ rfl;have a4:=(n.slot hk).2.2.2.2.2;have f53:=n.slotF (k*6+5);have⟨e0,e1,e2,e3,e4,e5⟩:=Q.slot hk;have eA:gt k=?C:=by unfold gt;rw[f]
  have eS:dC {b with st:=?B,rq:=?D} k=1:=by unfold dC;rw[f];exact aS
  have eR:fJ {b with st:=?B,rq:=?D} k=(a:Nat):=by unfold fJ;rw[f];exact aS
  rw[eA]at e3;rw[eS]at e4;rw[eR]at e5;rw[f]at e0 e1 e2;have I4:=H (show Inv cf {b with st:=?B,rq:=?D}from by have g:=(P.some s j rfl).2.2.2.1;rw[jL]at g;exact P.inv.setSt G M hj 1 (a:Int) Z Z Z (by dsimp only at g⊢;omega) (.inr d) (λ_=>⟨Z,Z⟩) (λe=>absurd rfl e))
  have N:Hid (∀i,i<8->isOpen (b.m ((?C+eV c+i)/1024))=true):=(λi f=>by have:=P.inv.openS (k:=eV c+i) G M hj d Z;rw[H_];exact this)
  have CC:=H (λV f g i l=>nP c (?C) f g i l V G Z);have CS:=H (λV=>rO cf.key ((?C:Nat):Int) V HD.key0 HD.key1 Z Z);have a6:eV c+8<=cy c:=Z;have a0:Hid (can cf (?C)=gI (cx cf.key ((?C:Nat):Int))):=rfl;have⟨r,a7⟩:=Qa (?C);have⟨u,a8⟩:=Qa (eV c);rw[a7]at e3 N CC CS HE a2 a0;rw[a8]at N CC HE a6;have b4:r+u+8<=191488:=Z;have ST:=H (λV f g(O:Sx x.T x.Q 283 (cf.bud:Nat) b.m V)(hD:Dt x.Q V (some (Qz g 0)) 8 (gI (cx cf.key (r:Int))))=>qR x.T x.Q 283 (cf.bud:Nat) b.m (r+u) 8 f (some (Qz g 0)) _ V O hD Z Z 0 (jI Z Z Z N));have X4:=H (show(?A).heap[R]?=some (.cells #[I 0,U 0,I 0,C] 94) by have⟨c2,l⟩:=di z.sl;have⟨c3,F⟩:=di n.sl;exact(Ky.grown F rfl (au (Q6 _ x.G) _ _):Ky (· =242) _ _).XC ((Ky.grown l rfl (au (Q6 _ x.G) _ _):Ky (· =242) _ _).XC X ar))
  clear I1 P HM a1 hz d eA eS eR;have hv:(?A).heap.size=p.heap.size:=by simp[World.setCell]
  have HV:=H hv;clear hv;go_wp2;generalize ?A=V4 at Q Y X4 HV⊢;have A:D V4 (V4.alloc (.cells #[I c,I s,I j,U r,I 1,I a] 242)):=ph;have F:=H (ao V4 (.cells #[I c,I s,I j,U r,I 1,I a] 242));have l:=H (Q.below A);have B5:=H (Q.bkB Y t A);have X5:=H (ae X4 A);generalize V4.alloc _=V5 at l B5 X5 F⊢;rw[HV]at F;generalize p.heap.size=Y at F⊢;have SS:Hid (∀(V:QM){b:Hs},Sh B x cf b V->V.heap[Y]?=some (.cells #[I c,I s,I j,U r,I 1,I a] 242)->V.cell? (Qz x.P 6)=some (J x.T 0)/\V.cell? (Qz x.P 4)=some (U cf.key)/\V.cell? (Qz Y 0)=some (I c)/\V.cell? (Qz Y 1)=some (I s)/\V.cell? (Qz Y 2)=some (I j)/\V.cell? (Qz Y 3)=some (U r)/\V.cell? (Qz Y 4)=some (I 1)/\V.cell? (Qz Y 5)=some (I a)):=(λV b O b=>⟨O.cell 6 _ rfl,O.cell 4 _ rfl,by simp[QC,b],by simp[QC,b],by simp[QC,b],by simp[QC,b],by simp[QC,b],by simp[QC,b]⟩)
  refine rh (S:=λW'=>W'.cell? (Qz x.P 6)=some (J x.T 0)/\W'.cell? (Qz x.P 4)=some (U cf.key)/\W'.cell? (Qz Y 0)=some (I c)/\W'.cell? (Qz Y 1)=some (I s)/\W'.cell? (Qz Y 2)=some (I j)/\W'.cell? (Qz Y 3)=some (U r)/\W'.cell? (Qz Y 4)=some (I 1)/\W'.cell? (Qz Y 5)=some (I a)) ?_;have d:=SS.out _ (l.below ld) F;iterate 5 (refine py d ?_;simp only[f0,f1,Nat.reduceAdd,lz,l0,ls])
  (iterate 7 refine PX 6 d ?_);refine po 5 λK' w=>?_;go_simp;refine(CC _ _ _ _ _).mono ?_;rintro e V6⟨rfl,Q⟩;have k6:D V5 V6:=⟨Q.os,Q.tape,Q.output,Q.size,Q.block⟩;have h6:=SS.out _ (l.below k6) (ae F k6);refine w _ _ ⟨h6,?_⟩;have d:=h6;refine po 13 λK' w=>?_
  go_simp;refine(CS _).mono ?_;rintro e V7⟨v,rfl,o7,b7⟩;obtain⟨va,vc,rfl⟩:=aK o7;obtain⟨g,rfl⟩:=cr o7 Z;have n:=az k6 b7;refine(let_mvar%?G:=l.below n;?_);have h7:=SS.out _ ?G (ae F n);refine w _ _ ⟨h7,?_⟩;have d:=h7;refine po 14 λK' w=>?_;go_simp;refine(ST _ vc g (?G).sp (Dt.own (l.below k6).sp b7 (dK) o7)).mono ?_;rintro e V8⟨rfl,x8,f8⟩;have S8:=H ((?G).space (Fx (Fx t B5.bel.size) n.size) _ x8 f8);have B8:=H ((?G).bkS (l.bkB B5 t n) t f8);have Y8:=H ((f8.ky (?G).sp).XC (ae F n));have X8:=H ((f8.ky (?G).sp).XC (ae X5 n));have h8:=SS.out _ S8 Y8;refine w _ _ ⟨h8,?_⟩;have d:=h8;refine bY ?_;go_wp2_with (refine eG X8 ?_);refine fM (aw X8 _) underlying94 ?_;rw[HE];refine⟨rfl,S8.off81 X8 _,B8.loc (aj V8 R _) (by rw[HR];exact gi) HQ t⟩
def Sh.books(d:Sh B x cf h W)(k:Ky (λt=>t=240\/t=244\/t=24) W W')(f i j:QN)(e:List Rg9)(a b:List Nat)
  (m:W'.heap[x.P]?=some (.cells (fN cf {x with rv:=f,ov:=i,lv:=j} h.used) 240)) (n:W'.ownsRow B 244 6 f e.length (eM e)) (o:W'.ownsRow B 24 1 i a.length (Us a)) (p:W'.ownsRow B 24 1 j b.length (Us b)):
  Sh B {x with rv:=f,ov:=i,lv:=j} cf {h with rg:=e,row:=a,rel:=b} W':=
 ⟨m,d.bp,d.bq,λg q=>d.bg g (cV (d.sp.qEq k ar) q),d.ds.ky k ar,d.sp.ky k ar ar ar,ai d.sl k,ai d.wt k,λc l=>⟨(d.wm c l).1.ky k ar,(d.wm c l).2.ky k ar⟩,n,o,p⟩
def l_(x:Sm):Prop:=∀g,x.ov.ownBlock=some g->x.lv.ownBlock≠some g
def aF{e:QO}{sz:Nat}{c:List QN}(h:W.ownsRow B e sz v n c){g:Nat}(a:v.ownBlock=some g):B<=g/\∃c,W.heap[g]?=some (.cells c e):=by
 rcases h.2 with⟨rfl,j⟩|⟨k,d,b,rfl,f,i,_⟩;.simp[Value.ownBlock]at a
 simp[Value.ownBlock]at a;subst a;exact⟨f,b,i⟩
def lH{e:QO}{sz:Nat}{i:List QN}(h:W.ownsRow B e sz v n i)(j:W.grownBy W' r)(b:∀g,v.ownBlock=some g->r≠some g):W'.ownsRow B e sz v n i:=by
 refine⟨h.1,?_⟩;rcases h.2 with a|⟨c,d,f,rfl,g,a,k⟩;.exact .inl a
 refine .inr ⟨c,d,f,rfl,g,?_,k⟩;rwa[j.block c (ag a) (λe=>b c rfl e.symm)]
def Ky.grownO{S:QO->Prop}(i:∀P,r=some P->∃c t f,W.heap[P]?=some (.cells c t f)/\S t)(b:W.grownBy W' r):Ky S W W':=by
 refine⟨b.os,b.tape,b.output,b.size,λg l m n a j=>?_⟩;rw[b.block g (ag a) (λe=>?_)];.exact a
 let⟨c,t,f,d,k⟩:=i g e.symm;rw[a]at d;simp at d;exact j (d.2.1▸k)
def Bk.ofGrownO{n:Array QN}{o:Nat×Nat}(d:∀P,r=some P->B<=P/\∃c t f,W.heap[P]?=some (.cells c t f)/\hT t/\t≠5/\t≠305)(m:W.heap[Q]?=some (.cells n 305 o))(j:B<=W.heap.size)(i:W.grownBy W' r):Bk B Q W W':=by
 let k:some Q≠r:=λe=>by let⟨_,c,t,f,b,_,_,a⟩:=d Q e.symm;rw[m]at b;simp at b;exact a b.2.1.symm
 refine⟨(Fu B W).grown i j (λP l=>(d P l).1),Ky.grownO (λP l=>?_) i,λg q s a _=>?_,λg a=>.inl (cV (i.block Q (ag m) k) a)⟩;.let⟨_,c,t,f,b,p,_⟩:=d P l;exact⟨c,t,f,b,p⟩
 rw[i.block g (ag a) (λe=>?_)];.exact a
 let⟨_,c,t,f,b,_,p,_⟩:=d g e.symm;rw[a]at b;simp at b;exact p b.2.1.symm
def Sh.boxSet(a:Sh B x cf h W)(i:Nat)(v:QN):(W.setCell (Qz x.P i) v).heap[x.P]?=some (.cells ((fN cf x h.used).setIfInBounds i v) 240):=by simp[World.setCell,FD,a.box]
def Sh.boxF(a:Sh B x cf h W)(i:Nat):W.frozen? (Qz x.P i)=false:=by simp[QD,a.box]
end
section
variable {k n s:Nat}
def vI(s n:Nat)(rg:List Rg9)(k:Nat):Bool:=(rg.take k).all λr=>decide (s+n<=r.first) || decide (r.first+r.ext<=s)
def vV{a:List Rg9}{r:Rg9}(h:a[k]?=some r):vI s n a (k+1)=(vI s n a k&&(decide (s+n<=r.first) || decide (r.first+r.ext<=s))):=by unfold vI;rw[F_,h];simp
def pj{a:List Rg9}(h:a.length=k):vI s n a k=a.all λr=>decide (s+n<=r.first) || decide (r.first+r.ext<=s):=by unfold vI;rw[Ge Z]
def vj{h:Hs}(a:h.rg.length=k)(g:187<=s)(c:s+n<=283)(d:∀t,187<=t->t<s->(decide (t+n<=283)&&vI t n h.rg k)=false)(b:vI s n h.rg k=true):dV h n=some s:=by
 let e:∀j,j<s-187->(decide (j+n<=96)&&h.rg.all λr=>decide (187+j+n<=r.first) || decide (r.first+r.ext<=187+j))=false:=λj i=>by have:=d (187+j) Z Z;rw[pj a]at this;rw[show decide (j+n<=96)=decide (187+j+n<=283) by congr 1;simp;omega];exact this
 let f:(decide (s-187+n<=96)&&h.rg.all λr=>decide (187+(s-187)+n<=r.first) || decide (r.first+r.ext<=187+(s-187)))=true:=by rw[pj a]at b;rw[show 187+(s-187)=s by omega,b,G8 Z];rfl
 unfold dV;rw[iZ (k:=s-187) Z e f];simp;omega
def uK{h:Hs}(b:h.rg.length=k)(e:187<=s)(c:¬s+n<=283)(d:∀t,187<=t->t<s->(decide (t+n<=283)&&vI t n h.rg k)=false):dV h n=none:=by
 unfold dV;rw[jM (λj a=>?_)];.rfl
 by_cases a:187+j<s;.have:=d (187+j) Z a;rw[pj b]at this;rw[show decide (j+n<=96)=decide (187+j+n<=283) by congr 1;simp;omega];exact this
 rw[GR Z];rfl
def xG(W:QM):QA 82 #[] W λe a=>e=QJ (I 187)/\D W a:=gl W
def mA(W:QM):QA 83 #[] W λe a=>e=QJ (I 283)/\D W a:=gn W
def uW(B x cf h)(n:Nat)(W)(i:Sh B x cf h W)(T:h.rg.length<=1000)(w:1<=n)(V:n<=1000)(l:∀r∈h.rg,r.first<=100000/\r.ext<=100000):
  Calls prog 261 #[J x.P 0,I n] W λe X=>e=.returned (I (match dV h n with|some s=>(s:Int)|none=> -1))/\D W X:=by
 have⟨Y,rc,b⟩:=aK i.rg;have N:W.cell? ⟨x.P,9,none⟩=some (.slice Y h.rg.length rc):=by rw[<-b];exact i.cell 9 _ rfl
 have⟨g,f⟩:=Qa h.rg.length;rw[f]at N T;have c:=H f;have j:=H b;have O:=H i;have HF:=H l;have LA:=H xG;have AR:=H mA;obtain⟨d,a⟩:∃d:Int,(match dV h n with|some s=>(s:Int)|none=> -1)=d:=⟨_,rfl⟩;rw[a];have P:=H a;clear f b i l a;go_in;go_wp2_with fail;refine(LA _).mono ?_;rintro e W1⟨rfl,a⟩;have Q:=H a;clear a;go_wp2;go_loopw [5] (λv wr=>∃s:Nat,187<=s/\s<=284/\v=I s/\Hid (∀t,187<=t->t<s->(decide (t+n<=283)&&vI t n h.rg g)=false)/\Hid (D W wr)) (λv _=>284-(intOf v).toNat);case atStart=>exact⟨187,gi,Z,rfl,H (λt w h2=>Z),Q⟩
 case round=>
  obtain⟨s,l,a0,rfl,y,R⟩:=hrel;clear Q;go_wp2_with fail;refine(AR _).mono ?_;rintro e W2⟨rfl,a⟩;have p:=H (az R a);clear a;by_cases m:s+n<=283
  ·have f:(s:Int)+(n:Int)<=283:=Z;have A:=NI p N;go_wp2;have a:decide ((s:Int)+(n:Int)<=283)=true:=bG
   (try simp only[a]);clear a f;go_loopw [6,22] (λb i a=>∃k:Nat,k<=g/\i=I k/\b=.bool (vI s n h.rg k)/\Hid (D W a)) (λ_ i _=>g-(intOf i).toNat);(case atStart=>exact⟨0,aa,rfl,rfl,p⟩);case round=>
    obtain⟨k,hk,rfl,rfl,a⟩:=hrel;clear A p R;by_cases F:k<g
    ·obtain⟨r,o⟩:∃r,h.rg[k]?=some r:=⟨_,Fy (by rw[c];exact F)⟩;obtain⟨G,rfl⟩:=cr (j.out▸O.rg) (by rw[c];omega);have⟨d0,d1,d2,d3,d4,d5⟩:=(O.below a).range j o;have q:=H (a.alloc a.size (.cells #[U r.base,I r.first,I r.ext,I r.pages,I r.st,I r.rq] 244));have u:=H (vV (s:=s) (n:=n) o);have⟨q1,q2⟩:=HF.out r (FM o);generalize r.st=z at*;generalize r.rq=z2 at*;generalize r.ext=K at*;generalize r.base=z5 at*;generalize r.first=z6 at*
     generalize r.pages=z7 at*;generalize vI s n h.rg k=b at*;clear o;cases b
     ·go_wp2;go_roundw;(case rel=>exact⟨k+1,Z,aY,by rw[u];rfl,q⟩);case measure=>exact QE
     by_cases o:s+n<=z6
     ·have L:(s:Int)+(n:Int)<=(z6:Int):=Z;go_wp2;go_roundw;(case rel=>exact⟨k+1,Z,aY,by rw[u];simp[o],q⟩);case measure=>exact QE
     have L:¬((s:Int)+(n:Int)<=(z6:Int)):=Z;by_cases S:z6+K<=s
     ·have M:(z6:Int)+(K:Int)<=(s:Int):=Z;go_wp2;go_roundw;(case rel=>exact⟨k+1,Z,aY,by rw[u];simp[o,S],q⟩);case measure=>exact QE
     have M:¬((z6:Int)+(K:Int)<=(s:Int)):=Z;go_wp2;go_roundw;(case rel=>exact⟨k+1,Z,aY,by rw[u];simp[o,S],q⟩);case measure=>exact QE
    obtain rfl:k=g:=Z;cases o:vI s n h.rg k
    ·have q:=H (show∀t,187<=t->t<s+1->(decide (t+n<=283)&&vI t n h.rg k)=false from λt w h2=>by
      by_cases e:t=s;·subst e;rw[o];simp
      exact y t w Z)
     go_wp2;go_roundw;(case rel=>exact⟨s+1,Z,Z,aY,q,a⟩);case measure=>exact QE
    have q:=H (show d=(s:Int) by rw[<-P.out,vj c l m y o])
    go_wp2;go_ret;rw[q];exact⟨rfl,a⟩
  have f:¬((s:Int)+(n:Int)<=283):=Z;have q:=H (show d = -1 by rw[<-P.out,uK c l m y])
  go_wp2;go_ret;rw[q];exact⟨rfl,p⟩
def O7{p X Y a:Prop}(x:X)(y:Y)(z:a)(f:X->Y->a->p:=by(
 intro x y z
 go_quiet (fail)
 go_wp2
 go_ret
 exact⟨by rw[<-x,GR (by simp at z;omega)];rfl,y _ ⟨rfl,rfl,rfl,gi,λ_ _=>rfl⟩⟩)):p:=f x y z
def rB(mi fi la bu ky)(g:QP)(f i:Nat)(A:QP)(n j:Nat)(W:QM):
  Calls prog 71 #[.agg #[I mi,I fi,I la,I bu,U ky,.slice g f i],.slice A n j] W λe k=>e=QJ (.bool (decide (0<=mi/\mi<=16/\1<=fi/\fi<=32/\1<=la/\la<=16/\0<=bu/\bu<=283/\f<=20000/\n<=300)))/\D W k:=by
 have l:D W (W.alloc (.cells #[I mi,I fi,I la,I bu,U ky,.slice g f i] 27)):=ph;have a:=ao W (.cells #[I mi,I fi,I la,I bu,U ky,.slice g f i] 27);have r:=H mA;have⟨p,c⟩:=Qa (decide (0<=mi/\mi<=16/\1<=fi/\fi<=32/\1<=la/\la<=16/\0<=bu/\bu<=283/\f<=20000/\n<=300));rw[c];have b:=H c;have c:=l.size;go_wp2;generalize W.alloc _=V at l a c⊢;have d:Hid (∀k,D V k->D W k):=λk h=>l.trans (h.mono c);generalize W.heap.size=Y at a⊢;have o:Hid (∀c,D V c->D V c/\QG c Y 0 (I mi)/\QG c Y 1 (I fi)/\QG c Y 2 (I la)/\QG c Y 3 (I bu)/\QG c Y 5 (.slice g f i)):=(λc h=>⟨h,NI h (by simp only[QC,a];rfl),NI h (by simp only[QC,a];rfl),NI h (by simp only[QC,a];rfl),NI h (by simp only[QC,a];rfl),NI h (by simp only[QC,a];rfl)⟩)
 have s:=o.out _ th;have⟨_,a,l,m,q,t⟩:=s;cases u:decide (0<=mi);·exact O7 b d u
 cases v:decide (mi<=16);·exact O7 b d v
 cases w:decide (1<=fi);·exact O7 b d w
 cases x:decide (fi<=32);·exact O7 b d x
 cases y:decide (1<=la);·exact O7 b d y
 cases z:decide (la<=16);·exact O7 b d z
 cases B:decide (0<=bu);·exact O7 b d B
 refine rh (S:=λc=>D V c/\QG c Y 0 (I mi)/\QG c Y 1 (I fi)/\QG c Y 2 (I la)/\QG c Y 3 (I bu)/\QG c Y 5 (.slice g f i)) ?_;have a:=o.out _ ld;(iterate 2 refine PX 0 a ?_);refine pz 2 Ql a ?_;refine pk 3 Ql a ?_;(iterate 2 refine PX 4 a ?_);refine pz 6 Ql a ?_;refine pk 7 Ql a ?_;refine pk 8 Ql a ?_;(iterate 2 refine PX 9 a ?_);refine pz 11 Ql a ?_;refine pk 12 Ql a ?_;refine pk 13 Ql a ?_;(iterate 2 refine PX 14 a ?_);refine pz 16 Ql a ?_;refine pk 17 Ql a ?_;refine pk 18 Ql a ?_;(iterate 2 refine PX 19 a ?_);refine pz 21 Ql a ?_;refine pk 22 Ql a ?_;refine pk 23 Ql a ?_;(iterate 2 refine PX 24 a ?_);refine pz 26 Ql a ?_;refine pk 27 Ql a ?_;refine pk 28 Ql a ?_;(iterate 2 refine PX 29 a ?_);refine pz 31 Ql a ?_;refine pk 32 Ql a ?_;refine pk 33 Ql a ?_;(iterate 2 refine PX 34 a ?_);refine po 36 λK' m=>?_;go_simp;apply(r _).mono;rintro e t⟨rfl,l⟩;have q:=o.out _ (⟨l.os,l.tape,l.output,l.size,l.block⟩);refine m _ _ ⟨q,?_⟩;have a:=q
 cases m:decide (bu<=283);·refine pz 37 Qk a ?_;refine pk 38 Qk a ?_;refine pk 39 Qk a ?_;(iterate 4 refine PX 40 a ?_);refine pk 44 Qk a ?_;refine pk 45 Qk a ?_;(iterate 3 refine PX 46 a ?_);refine pk 49 Qk a ?_;refine pk 50 Qk a ?_;refine bY ?_;go_wp2;go_ret;exact⟨by rw[<-b.out,GR (by simp at m;omega)];rfl,d _ a.1⟩
 refine pz 37 Ql a ?_;refine pk 38 Ql a ?_;refine pk 39 Ql a ?_;(iterate 3 refine PX 40 a ?_);cases m:decide ((f:Int)<=20000);·refine pz 43 Qk a ?_;refine pk 44 Qk a ?_;refine pk 45 Qk a ?_;(iterate 3 refine PX 46 a ?_);refine pk 49 Qk a ?_;refine pk 50 Qk a ?_;refine bY ?_;go_wp2;go_ret;exact⟨by rw[<-b.out,GR (by simp at m;omega)];rfl,d _ a.1⟩
 refine pz 43 Ql a ?_;refine pk 44 Ql a ?_;refine pk 45 Ql a ?_;(iterate 2 refine PX 46 a ?_);cases m:decide ((n:Int)<=300);·refine pz 48 Qk a ?_;refine pk 49 Qk a ?_;refine pk 50 Qk a ?_;refine bY ?_;go_wp2;go_ret;exact⟨by rw[<-b.out,GR (by simp at m;omega)];rfl,d _ a.1⟩
 refine pz 48 Ql a ?_;refine pk 49 Ql a ?_;refine pk 50 Ql a ?_;refine bY ?_;go_wp2;go_ret;exact⟨by rw[<-b.out,G8 (by simp only[Hj]at*;omega)];rfl,d _ a.1⟩
end
def Sf.ofRow{Q:Nat}{W a:QM}(b:Below 0 W a)(d:∀g,g≠Q->a.heap[g]?=W.heap[g]?)(e:∀j g,a.cell? (Qz Q (j*3+2))=some (Vl g 1024 1024)->W.cell? (Qz Q (j*3+2))=some (Vl g 1024 1024)):Sf Q W a:=
 ⟨b.os,b.tape,b.output,b.size,λg _ c _=>d g c,λg⟨j,f⟩=>.inl ⟨j,e j g f⟩⟩
def Sx.drop1{T Q n bud m W}(h:Sx T Q n bud m W)(k:Nat)(f:k<n):
  Sx T Q n bud (dT m k none) (((W.setCell (Qz Q (k*3)) (.bool false)).setCell (Qz Q (k*3+1)) (.bool false)).setCell (Qz Q (k*3+2)) (C)) /\
  Sf Q W (((W.setCell (Qz Q (k*3)) (.bool false)).setCell (Qz Q (k*3+1)) (.bool false)).setCell (Qz Q (k*3+2)) (C)):=by
 refine⟨h.set3 k f none _ _ _ (λg j _ _ _=>bH) (λc a a b d _=>⟨a,b,d⟩),?_⟩;refine Sf.ofRow ((((Fu 0 W).setCell aa _).setCell aa _).setCell aa _) (λg b=>?_) (λj g a=>?_);.rw[XB b,XB b,XB b]
 let⟨c,d,_⟩:=h.row;let l:=bj (bj (bj d (i:=k*3) (.bool false)) (i:=k*3+1) (.bool false)) (i:=k*3+2) (C);simp only[QC,l]at a;simp only[QC,d];by_cases e:j=k;.subst e;rw[FK]at a;simp at a
 let q:(((c.setIfInBounds (k*3) (.bool false)).setIfInBounds (k*3+1) (.bool false)).setIfInBounds (k*3+2) (C))[j*3+2]?=c[j*3+2]?:=by rw[FK,GO Z,FK,GO Z,FK,GO Z]
 rw[q]at a;exact a
def qJ(T Q n bud m)(first a:Nat)(w)(h:Sx T Q n bud m w)(u:n<=4096)(v:first+a<=n):
  Calls prog 267 #[J T 0,I first,I a] w λe g=>e=QJ (.tuple #[])/\Sx T Q n bud (bQ m first a) g/\Sf Q w g:=by
 let⟨o,q⟩:=h.c;let r:=H h;go_wp2;go_loopw [6] (λi wr=>∃k:Nat,k<=a/\i=I ((first:Int)+(k:Int))/\Sx T Q n bud (bQ m first k) wr/\Sf Q w wr) (λi _=>first+a-(intOf i).toNat);exact⟨0,aa,aY,r,Sf.refl Q w⟩
 obtain⟨k,x,rfl,b,f⟩:=hrel;by_cases s:k<a
 .let⟨o,q⟩:=b.c;let⟨y,p,l,c,z,A,B,_⟩:=b.three (first+k) Z;let⟨F,j,t,_⟩:=b.row;let f1:∀i,wr.frozen? (Qz Q i)=false:=λi=>by simp[QD,j]
  have d:=H (IT (b.drop1 (first+k) Z) f);go_wp2;go_roundw;(exact⟨k+1,Z,aY,d.1.1,d.2.trans d.1.2⟩);exact QE
 have c:k=a:=Z;subst c;have d:=H (IT b f);go_wp2;go_end0;exact⟨rfl,d⟩
def Ax(g:Nat)(w:QM): (method 531 199 (.pointer (some ⟨g,0,none⟩)) "loop.example/s01868/impl.kept").run prog w=.ok (352,.pointer (some ⟨g,0,none⟩)) w:=E
def AM(g:Nat)(w:QM): (method 531 210 (.pointer (some ⟨g,0,none⟩)) "loop.example/s01868/impl.kept").run prog w=.ok (352,.pointer (some ⟨g,0,none⟩)) w:=E
def nX(g:Nat)(w:QM): (method 531 199 (.pointer (some ⟨g,0,none⟩)) "loop.example/s01868/impl.base").run prog w=.ok (114,.pointer (some ⟨g,0,none⟩)) w:=E
def Q9(g:Nat)(w:QM): (method 531 210 (.pointer (some ⟨g,0,none⟩)) "loop.example/s01868/impl.base").run prog w=.ok (159,.pointer (some ⟨g,0,none⟩)) w:=E
def DW(g:Nat)(w:QM): (method 531 199 (.pointer (some ⟨g,0,none⟩)) "loop.example/s01868/impl.usable").run prog w=.ok (167,.pointer (some ⟨g,0,none⟩)) w:=E
def DN(g:Nat)(w:QM): (method 531 210 (.pointer (some ⟨g,0,none⟩)) "loop.example/s01868/impl.usable").run prog w=.ok (353,.pointer (some ⟨g,0,none⟩)) w:=E
def BB(P a:Nat)(W:QM){b:Ending->QM->Prop}
  (c:QA 56 #[J P 0,U a] W λe V=>(∃v,e=.panicked v/\b (.panicked v) V)\/∃v,e=QJ v/\b (QJ v) V):
  Calls prog 58 #[J P 0,U (0:Nat),U a] W b:=by
 let f:=H c;go_in;go_wp2_with fail;apply (f).mono;rintro e V(⟨v,rfl,d⟩|⟨v,rfl,d⟩);.exact⟨rfl,d⟩
 let g:=H d;go_wp2;exact g
def ye(P)(p a:Nat)(code)(W:QM)(iF:p≠0)(R:QM->Prop)(b:QA 60 #[J P 0,U p] W λe V=>e=.panicked [{v:=.iface 127 (.agg #[I code]),recovered:=false}]/\R V):
  Calls prog 58 #[J P 0,U p,U a] W λe V=>e=.panicked [{v:=.iface 127 (.agg #[I code]),recovered:=false}]/\R V:=by
 let d:=H b;go_in;go_wp2_with fail;apply (d).mono;rintro e V⟨rfl,f⟩;exact⟨rfl,rfl,f⟩
def ot(P)(p a t:Nat)(g)(W:QM)(iF:p≠0)(r:t=199\/t=210)(Q:QM->Prop){c:Ending->QM->Prop}(f:QA 60 #[J P 0,U p] W λe V=>e=QJ (.iface t (J g 0))/\Q V)(i:∀V,Q V->QA 107 #[.iface t (J g 0),U a] V λe b=>e=QJ Ql/\Q b)(b:∀V,Q V->∃o,QG V g 1 (I o)/\V.frozen? (Qz g 1)=false)(z:IntKind.i64.wrap (a:Int)=(a:Int))(yO:∀V,Q V->c (QJ (.iface t (J g 0))) (V.setCell (Qz g 1) (I a))):
  QA 58 #[J P 0,U p,U a] W c:=by
 have s:((p:Int)==0)=false:=bG;have k:=H f;clear f;have l:=H i;clear i;have m:=H yO;clear yO;have n:=H b;clear iF b;rcases r with rfl|rfl
 ·have u:=λw=>Ax g w
  go_enter func58,ntmps58;go_wp2_with fail;refine(k).mono ?_;rintro e V⟨rfl,b⟩;have j:=H b;clear b;go_wp2_with fail;refine(l _ j).mono ?_;rintro e v⟨rfl,b⟩;have d:=H b;clear b;let⟨o,x,f1⟩:=n.out _ d;let q:=H (m _ d);go_wp2_with fail;apply (fx (Qz g 0) _).mono;rintro e y⟨rfl,rfl⟩;go_wp2;exact q
 let u:=λw=>AM g w
 go_enter func58,ntmps58;go_wp2_with fail;apply (k).mono;rintro e V⟨rfl,b⟩;have j:=H b;clear b;go_wp2_with fail;apply (l _ j).mono;rintro e v⟨rfl,b⟩;have d:=H b;clear b;let⟨o,x,f1⟩:=n.out _ d;let q:=H (m _ d);go_wp2_with fail;apply (fx (Qz g 0) _).mono;rintro e y⟨rfl,rfl⟩;go_wp2;exact q
def lK(P)(p a t:Nat)(g)(F q f:Nat)(W:QM)(iF:p≠0)(ht:t=199/\F=114\/t=210/\F=159)(O:f<9223372036854775808)(ha:a<18446744073709551616)(Q:QM->Prop)(l:Nat->Nat->Nat->QM->Prop)(R:Nat->Nat->QM->Prop)(k:Ending->QM->Prop)(r:QA 60 #[J P 0,U p] W λe V=>e=QJ (.iface t (J g 0))/\Q V)(s:∀V,Q V->QA 107 #[.iface t (J g 0),U a] V λe i=>e=QJ Qk/\Q i)(u:∀V,Q V->QA 56 #[J P 0,U a] V λe i=>(∃v,e=.panicked v/\k (.panicked v) i)\/∃d c b,e=QJ (.iface d (J c 0))/\(d=199/\b=114\/d=210/\b=159)/\l d c b i)(j:∀d c b V i,l d c b V->D V i->l d c b i)(x:∀d c b V,l d c b V->QA F #[J g 0] V λe i=>e=QJ (U p)/\D V i)(y:∀d c b V,l d c b V->QA b #[J c 0] V λe i=>e=QJ (U q)/\D V i)(n:∀d c b V,l d c b V->QG V g 1 (I f))(z:∀d c b V,l d c b V->QA 108 #[J P 0,U p,U q,U (min f a:Nat)] V λe i=>e=QJ (.tuple #[])/\R d c i)(A:∀d c V,R d c V->QA 59 #[J P 0,.iface t (J g 0)] V λe i=>e=QJ (.tuple #[])/\k (QJ (.iface d (J c 0))) i):
  Calls prog 58 #[J P 0,U p,U a] W k:=by
 have⟨S,T,X,m,Y,BN,CE,G⟩:=Qj r s u j x y n z;have RE:=H A;obtain⟨n,j⟩:∃n:Nat,min f a=n:=⟨_,rfl⟩;rw[j]at G;have HN:=H j;have a2:=λg w=>Ax g w
 rcases ht with⟨rfl,rfl⟩|⟨rfl,rfl⟩
 all_goals
  go_in
  go_wp2_with fail
  refine(S).mono ?_
  rintro e V⟨rfl,j⟩
  have o:=H j
  clear j S
  go_wp2_with fail
  refine(T _ o).mono ?_
  rintro e V1⟨rfl,j⟩
  have B:=H j
  clear j T o
  go_wp2_with fail
  refine(X _ B).mono ?_
  rintro e V2(⟨v,rfl,hv⟩|⟨d,c,b,rfl,K,j⟩)
  ·exact⟨rfl,hv⟩
  have L:=H j
  clear j X B
  rcases K with⟨rfl,rfl⟩|⟨rfl,rfl⟩
  all_goals
   go_wp2_with fail
   refine(Y _ c _ _ L).mono ?_
   rintro e V3⟨rfl,B⟩
   have o:=H (m _ _ _ _ _ L B)
   clear B L
   go_wp2_with fail
   refine(BN _ c _ _ o).mono ?_
   rintro e V4⟨rfl,B⟩
   have M:=H (m _ _ _ _ _ o B)
   clear B o
   go_wp2_with fail
   refine(fx (Qz g 0) _).mono ?_
   rintro e V5⟨rfl,rfl⟩
   have c1:=CE.out _ _ _ _ M
   have B:=H (G _ _ _ _ M)
   clear G CE Y BN m M
   have M:=HN.out
   have N:n=f/\(n:Int)<=(a:Int)\/n=a/\¬((f:Int)<=(n:Int)):=Z
   clear M
   rcases N with⟨rfl,M⟩|⟨rfl,M⟩
   all_goals
    go_wp2_with fail
    refine(B).mono ?_
    rintro e V6⟨rfl,j⟩
    have o:=H j
    clear j B c1
    go_wp2_with fail
    refine(RE _ _ _ o).mono ?_
    rintro e V9⟨rfl,j⟩
    have HF:=H j
    clear j RE o
    go_wp2
    exact HF
