import Derived.Test.YtbcacchkcedffaaGreatDoorM02
set_option linter.all false
set_option maxRecDepth 20000
set_option maxHeartbeats 0
namespace Go.Proofs.YtbcacchkcedffaaGreatDoor
open Go.Proofs.Tryz Go.RowKit Go.Maps Go.Shelf Go.ChangeShapes Go.WideShapes Go.ChangeAt
def vk(cf h c s j):sound cf h c s j=true↔∀i,i<8->bO h.m (bh c s j+eV c+i)=((can cf (bh c s j))[i]?).getD 0:=by
 unfold sound;rw[beq_iff_eq];let d:(can cf (bh c s j)).length=8:=dK;constructor;.intro e i a;rw[<-e];simp[aH,a]
 intro b;apply Ho;intro i;by_cases a:i<8;.have:=b i a;simp[aH,a];rw[this,Fy Z];rfl
 rw[FJ (by simp[aH];omega),FJ Z]
def yW{W:QM}{B:Nat}{v:QN}{c:List QN}(h:W.ownsRow B 5 1 v 8 c):∃g a,v=Vl g 8 a/\RowV W g 5 c:=by
 rcases h.2 with⟨_,l⟩|⟨g,a,b,rfl,d,e,f,i,j,k⟩;.omega
 exact⟨g,a,rfl,RowV.ofOwns (n:=8) (cap:=a) (base:=B) ⟨h.1,.inr ⟨g,a,b,rfl,d,e,f,i,j,k⟩⟩⟩
def q_(B x cf h)(K c s j:Nat)(W)(k:Sh B x cf h W)(hK:K<1062)(r:sA K=(c,s,j))(S:0<=cf.key)(T:cf.key<18446744073709551616)(b:∀i,i<8->isOpen (h.m ((bh c s j+eV c+i)/1024))=true):
  Calls prog 187 #[J x.P 0,I K] W λe W'=>e=QJ (.bool (sound cf h c s j))/\Below W.heap.size W W':=by
 have t:=mj hK;rw[r]at t;dsimp only at t;have⟨hc,a0,hj⟩:=t;have d:=ca hc a0 hj;have f:=aX hc;have v:W.cell? (Qz x.P 7)=some (Vl x.G 1062 x.gc):=k.cell 7 _ rfl;have⟨m,n,o,l,A,F⟩:=k.slot hK;have p:gt K=bh c s j:=by unfold gt;rw[r]
 rw[p]at l;rw[r]at m n o;have⟨HS,G,CS,w,y⟩:=Qg k (vk cf h c s j) (λV=>rO cf.key ((bh c s j:Nat):Int) V S T Z Z) (show can cf (bh c s j)=gI (cx cf.key ((bh c s j:Nat):Int))from rfl) (λV a g q r=>nP c (bh c s j) a g q r V hc Z);generalize dC h K=z at*;generalize fJ h K=L at*;have⟨a,ha⟩:=Qa (bh c s j);have⟨u,q⟩:=Qa (eV c);rw[ha]at l G CS w y d b;rw[q]at G y f b;have a1:=H b;have a4:a+u+8<=191488:=Z;have g:Below W.heap.size W (W.alloc (.cells #[I c,I s,I j,U a,I z,I L] 242)):=ph;have X:=ao W (.cells #[I c,I s,I j,U a,I z,I L] 242);clear k f d p ha q b;go_wp2;generalize W.alloc _=V at g X⊢;generalize f:W.heap.size=Y at g X⊢;have SV:=H (HS.below (f▸g));have x3:V.cell? (Qz Y 3)=some (U a):=by simp only[QC,X];rfl
 have p4:V.cell? (Qz x.P 4)=some (U cf.key):=SV.cell 4 _ rfl;have⟨XH,BA⟩:=y7 X g;clear X g m n o l A F v;refine(let_mvar%?A:=can cf a;?_);go_cut [22,23,24] (λb d g M=>d=I 8/\g=I 0/\∃g N,b=Vl g 8 N/\Hid (RowV M g 5 (Ns .u8 ?A))/\Hid (Below V.heap.size V M));case first=>
  go_region_with (first|(go_at_call 258;apply(CS _).mono;rintro e m⟨v,rfl,n,d⟩;obtain⟨g,N,rfl,O⟩:=yW n;have l:Below V.heap.size V m:=⟨d.os,d.tape,d.output,d.size,d.block⟩;have b:=NI l x3;have k:=NI l p4))
  all_goals(
   have o:=H l
   clear l d n b k
   go_wp2
   go_meet
   exact⟨rfl,rfl,g,N,rfl,H (by rw[w];exact O),o⟩)
 obtain⟨rfl,rfl,g,N,rfl,O,X⟩:=hcut;have HL:=H (show (?A).length=8 from by rw[w];exact dK);have BW:Hid (Below Y W wc):=BA.trans (X.mono (f▸BA.size));clear x3 p4;go_wp2;go_loopw [24] (λi wr=>∃k:Nat,k<=8/\i=I k/\Hid (∀j,j<k->bO h.m (a+u+j)=(?A[j]?).getD 0)/\Hid (Below wc.heap.size wc wr)) (λi _=>8-(intOf i).toNat);exact⟨0,aa,rfl,H (λj hj=>Z),H th⟩
 case round=>
  obtain⟨k,hk,rfl,P,A⟩:=hrel;have Q:Hid (Below Y W wr):=BW.trans (A.mono (f▸BW.size));by_cases n:k<8
  ·have RB:=H (O.below A O.lt);obtain⟨e,o⟩:∃e,?A[k]?=some e:=⟨_,Fy (by rw[HL];exact n)⟩;have r1:wr.cell? (Qz g k)=some (.int .u8 e):=by rw[RB.cell k (by simp[Ns,HL.out,n])];simp[Ns,o]
   have SR:=H (HS.below (f▸Q.out));have b:wr.heap[Y]?=some (.cells #[I c,I s,I j,U a,I z,I L] 242):=by have p:Y<V.heap.size:=(Array.getElem?_eq_some_iff.mp XH).1;rw[A.block Y (FG p X.size),X.block Y p];exact XH
   have q0:wr.cell? (Qz Y 0)=some (I c):=(by simp only[QC,b];rfl);have q1:wr.cell? (Qz Y 1)=some (I s):=(by simp only[QC,b];rfl);have q2:wr.cell? (Qz Y 2)=some (I j):=(by simp only[QC,b];rfl);have q3:wr.cell? (Qz Y 3)=some (U a):=(by simp only[QC,b];rfl);have q4:wr.cell? (Qz Y 4)=some (I z):=(by simp only[QC,b];rfl);have q5:wr.cell? (Qz Y 5)=some (I L):=(by simp only[QC,b];rfl);have R:wr.cell? (Qz x.P 6)=some (J x.T 0):=SR.cell 6 _ rfl;have HE:=H o;clear b o;refine(let_mvar%?B:=Below wr.heap.size wr;let_mvar%?C:=bO h.m (a+u+k);?_);have F:Hid (∀m,?B m->QA 264 #[J x.T 0,U (IntKind.u64.wrap (((a+u:Nat):Int)+IntKind.u64.wrap (k:Int)))] m λe M=>e=QJ (.int .u8 (?C))/\M=m):=(λm b=>by rw[dX (k:Int) Z Z,dX _ Z Z];exact kT x.T x.Q 283 (cf.bud:Nat) h.m (a+u+k) m (SR.below b).sp Z Z (a1 k n))
   have o:=H (show(?C=e)↔?C=(?A[k]?).getD 0 by rw[HE];exact Iff.rfl);have⟨b,q⟩:=Qa (?C);have p:=H q;rw[q]at F;clear q;by_cases q:b=e
   ·subst q;have F2:Hid (∀j,j<k+1->bO h.m (a+u+j)=(?A[j]?).getD 0):=(λj hj=>by
     by_cases v:j=k;·subst v;exact o.mp p
     exact P j Z)
    clear o p HE P RB;go_wp2
    go_region_with (first|(go_at_call 257;apply(y _ _ _ _ _).mono;rintro e1 m⟨rfl,d⟩;have l:?B m:=⟨d.os,d.tape,d.output,d.size,d.block⟩;have v:=NI l R)|(go_at_call 264;apply(F _ l).mono;rintro e2 V2⟨rfl,rfl⟩))
    all_goals(
     have B2:Hid (Below wc.heap.size wc V2):=A.trans (l.mono A.size)
     clear l d v R q0 q1 q2 q3 q4 q5 r1 F y
     go_wp2
     go_roundw
     exact⟨k+1,Z,aY,F2,B2⟩
     exact QE)
   have SF:=H (show sound cf h c s j=false by rw[Bool.eq_false_iff];intro a2;exact q (by rw[<-p.out];exact o.mpr (G.mp a2 k n)))
   clear o p HE P RB;go_wp2
   go_region_with (first|(go_at_call 257;apply(y _ _ _ _ _).mono;rintro e1 m⟨rfl,d⟩;have l:?B m:=⟨d.os,d.tape,d.output,d.size,d.block⟩;have v:=NI l R)|(go_at_call 264;apply(F _ l).mono;rintro e2 V2⟨rfl,rfl⟩))
   all_goals(
    have B2:Hid (Below Y W V2):=Q.trans (l.mono (f▸Q.size))
    clear l d v R q0 q1 q2 q3 q4 q5 r1 F y
    go_wp2
    go_ret
    rw[SF]
    exact⟨rfl,f▸B2.out⟩)
  obtain rfl:k=8:=Z;go_wp2;go_ret;rw[G.mpr P];exact⟨rfl,f▸Q.out⟩
section
variable {B:Nat}{x:Sm}{cf:Cf}{h:Hs}{W W0:World}
structure Br(x:Sm)(B:Nat)(W W':QM):Prop where
 bk:Bk B x.Q W W'
 rf:∀(g:Nat)(c:Array QN)(t:QO)(f:Nat×Nat),W.heap[g]?=some (.cells c t f)->g≠x.G->t≠305->t≠5->W'.heap[g]?=some (.cells c t f)
def Br.refl(x B W):Br x B W W:=⟨Bk.refl _ _ _,λ_ _ _ _ h _ _ _=>h⟩
def Sh.brB{W'}(a:Sh B x cf h W)(k:Br x B W0 W)(d:B<=W0.heap.size)(b:D W W'):Br x B W0 W':=
 ⟨a.bkB k.bk d b,λg c t f e i j l=>by
  have:=k.rf g c t f e i j l
  rw[b.block g (ag this)];exact this⟩
def Sh.brG(a:Sh B x cf h W)(k:Br x B W0 W)(b:B<=W0.heap.size)(i:Nat)(v:QN):Br x B W0 (W.setCell (Qz x.G i) v):=
 ⟨a.bkG k.bk b i v,λg c t f d e j l=>by
  have:=k.rf g c t f d e j l
  rw[(au (Q6 W x.G) i v).block g (ag this) bG];exact this⟩
def Sh.brS{W'}(a:Sh B x cf h W)(k:Br x B W0 W)(j:B<=W0.heap.size)(f:Sf x.Q W W'):Br x B W0 W':=
 ⟨a.bkS k.bk j f,λg c t b l m d i=>(f.ky a.sp).cells g c t b (k.rf g c t b l m d i) (by rintro(e|e);exact d e;exact i e)⟩
def qO(B x cf h)(c s j:Nat)(W)(k:Sh B x cf h W)(r:B<=W.heap.size)(L:xl h)(t:c<12)(d:s<6)(hj:j<aM c):
  Calls prog 266 #[J x.P 0,I c,I s,I j] W λe R=>e=QJ (.tuple #[])/\Sh B x cf (bK h c s j) R/\Br x B W R:=by
 have⟨K,M,b⟩:=Oa t d hj;obtain⟨a,i⟩:∃a:Hs,a={h with st:=aE h.st c s j 3}:=⟨_,rfl⟩;refine(let_mvar%?B:=Sh B x cf;?_);have u:=H (λ(V:QM)(f:?B h V)=>show ?B a (V.setCell (Qz x.G (K*6+4)) (I 3)) by have:=f.setSt M 3;rw[b]at this;rw[i];exact this)
 have a0:=H (show B<=x.G by
  rcases k.sl.2 with⟨e,_⟩|⟨g,l,n,e,o,_⟩;·simp at e
  simp at e;omega)
 have g:∀V,?B h V\/?B a V->V.cell? (Qz x.P 7)=some (Vl x.G 1062 x.gc):=λV f=>by
  rcases f with f|f;·exact f.cell 7 _ rfl
  exact f.cell 7 _ rfl
 have S:=H g;have a1:=g W (.inl k);have HS:=H k;have F:=H b;have T:=H i;clear k g b i;go_wp2;go_loopw [15] (λi wr=>∃k:Nat,k<=1062/\i=I k/\Hid (if K<k then ?B a wr else ?B h wr)/\Hid (Br x B W wr)) (λi _=>1062-(intOf i).toNat);exact⟨0,aa,rfl,H (by rw[GO Z];exact HS),H (Br.refl _ _ _)⟩
 obtain⟨k,hk,rfl,w,N⟩:=hrel;by_cases o:k<1062
 ·obtain⟨b,g,p⟩:∃b:Hs,?B b wr/\(?B h wr\/?B a wr):=by
   have:=w.out;split at this;·exact⟨a,this,.inr this⟩
   exact⟨h,this,.inl this⟩
  have⟨d0,d1,d2,d3,d4,d5⟩:=g.slot o;refine(let_mvar%?A:=(wr.alloc (.cells #[I ((sA k).1:Nat),I ((sA k).2.1:Nat),I ((sA k).2.2:Nat),U (gt k:Nat),I (dC b k),I (fJ b k)] 242));?_);have q:D wr ?A:=ph;have e7:(?A).cell? (Qz x.P 7)=some (Vl x.G 1062 x.gc):=NI q (S wr p);have G:Hid (Br x B W ?A):=g.brB N r q;by_cases v:k=K
  ·subst v;have l:=H (show ?B h ?A by have:=w.out;rw[GO Z]at this;exact this.below q)
   have n:=H (u _ l);have y:=H (l.brG G r (k*6+4) (I 3));have v4:=(l.slot o).2.2.2.2.1;have f4:=l.slotF (k*6+4);have A:(sA k).1=c:=(by rw[F]);have X:(sA k).2.1=s:=(by rw[F]);have Y:(sA k).2.2=j:=(by rw[F]);generalize dC b k=z at*;generalize dC h k=z0 at*;generalize fJ b k=z2 at*;generalize gt k=z3 at*;generalize (sA k).2.2=Q at*;generalize (sA k).1=O at*;generalize (sA k).2.1=P at*;subst A X Y;clear q g p;go_wp2;go_roundw;(exact⟨k+1,Z,aY,H (by rw[GP Z];exact n),y⟩);exact QE
  have l:=H (show(if K<k+1 then ?B a ?A else ?B h ?A) by
   have:=w.out;by_cases A:K<k;·rw[GP A]at this;rw[GP Z];exact this.below q
   rw[GO A]at this;rw[GO Z];exact this.below q)
  have A:¬((sA k).1=c/\(sA k).2.1=s/\(sA k).2.2=j):=λe=>v (v_ o M (by rw[F,Prod.ext_iff,Prod.ext_iff];exact e))
  generalize dC b k=z at*;generalize fJ b k=z2 at*;generalize gt k=z3 at*;generalize (sA k).2.2=Q at*;generalize (sA k).1=O at*;generalize (sA k).2.1=P at*;clear q g p;by_cases g:O=c
  ·subst g;by_cases p:P=s
   ·subst p;have q:((Q:Int)==(j:Int))=false:=bG;go_wp2;go_roundw;(exact⟨k+1,Z,aY,l,G⟩);exact QE
   have q:((P:Int)==(s:Int))=false:=bG;go_wp2;go_roundw;(exact⟨k+1,Z,aY,l,G⟩);exact QE
  have p:((O:Int)==(c:Int))=false:=bG;go_wp2;go_roundw;(exact⟨k+1,Z,aY,l,G⟩);exact QE
 obtain rfl:k=1062:=Z;have g:=H (show ?B a wr by have:=w.out;rw[GP M]at this;exact this);have z:xl a:=by
  rw[T];intro b l p;show 0<=aE h.st c s j 3 b l p/\aE h.st c s j 3 b l p<=4;unfold aE;split;·omega
  exact L b l p
 have G:=H (vW z t d);have X:=H (show bK h c s j=if(freeS a c s).length=aM c then {a with m:=bQ a.m (aD c s) (dI c)}else a by rw[T];rfl)
 have l:D wr (wr.alloc (.cells #[I 1,I 2,I 4] 3)):=ph;have q:=H (yC B x cf a c s (some (Qz wr.heap.size 0)) 3 3 [1,2,4] _ (g.below l) (.inr ⟨wr.heap.size,rfl,rowOf XD⟩) rfl ar Z);go_wp2_with fail;refine q.mono ?_;rintro e A⟨v,rfl,O,p⟩;obtain⟨va,vc,rfl⟩:=aK O;have n:=H ((g.below l).below p);have b:=az l p;have y:Hid (Br x B W A):=g.brB N r b;clear O p l b q g;by_cases b:(freeS a c s).length=aM c
 ·have O:=G.2 b;rw[O];have g:=H (X.trans (GP b));have P:A.cell? (Qz x.P 6)=some (J x.T 0):=n.cell 6 _ rfl;have Y:=H (λV=>mc c s V t d);have CG:=H (λV=>yh c V t);have hp:=cD t d;have CD:=H (λV(f:D A V)=>qJ x.T x.Q 283 (cf.bud:Nat) a.m (aD c s) (dI c) V ((n.below f).sp) Z Z);generalize aD c s=sp at*;generalize dI c=pn at*;clear G S u w N;go_wp2
  go_region_with (first
   |(go_at_call 78;refine(Y _).mono ?_;rintro e l⟨rfl,q⟩;have Q:D A l:=⟨q.os,q.tape,q.output,q.size,q.block⟩;have a2:=NI Q P)
   |(go_at_call 79;refine(CG _).mono ?_;rintro e V2⟨rfl,p⟩;have l:D A V2:=az Q p;have a2:=NI l P)
   |(go_at_call 267;refine(CD _ l).mono ?_;rintro e V3⟨rfl,x3,f3⟩))
  all_goals(
   have SF:=H (IT ((n.below l).space (Fx (Fx r y.bk.bel.size) l.size) _ x3 f3) ((n.below l).brS (n.brB y r l) r f3))
   clear x3 f3 Q l q p P Y CG CD
   go_wp2
   go_end0
   rw[g]
   exact⟨rfl,SF⟩)
 have g:=H (X.trans (GO b));refine(let_mvar%?C:=jc a c s [1,2,4] 1062;?_);have O:¬?C=[]:=λe=>b (G.1 e)
 have l:(((?C).length:Int)==0)=false:=by simp;exact O
 generalize (?C).length=q at*;go_wp2;go_end0;rw[g];exact⟨rfl,n,y⟩
end
def Du{B x cf h W0 W}{b:QM}(d:Sh B x cf h W){wb wc}(i:x.wv=Vl wb 12 wc)(k:Bk B x.Q W0 W)(j:B<=W0.heap.size)(g:W.grownBy b (some wb)):Bk B x.Q W0 b:=by
 let⟨p,l⟩:=d.qrow;let a:=d.wt;rw[i]at a;let⟨c,m⟩:=di a;let n:B<=wb:=by
  rcases a.2 with⟨e,_⟩|⟨g,f,o,e,q,_⟩;.simp at e
  simp at e;omega
 exact k.trans (Bk.ofGrown m l (.inr (.inr (.inl rfl))) ar ar n (Fx j k.bel.size) g)
def uJ(B x cf h)(K c s j:Nat)(lg:Int)(W)(n:Sh B x cf h W)(l:l_ x)(u:B<=W.heap.size)(f:Inv cf h)(hu:h.used<=999999)(y:mE cf)(g:K<1062)(b:sA K=(c,s,j))(hl:h.st c s j=1):
  Calls prog 188 #[J x.P 0,I K,I lg] W λe N=>e=QJ (.tuple #[])/\∃o:Sm,o.P=x.P/\o.Q=x.Q/\l_ o/\Sh B o cf (aL cf h c s j) N/\Bk B x.Q W N:=by
 have b9:=mj g;rw[b]at b9;dsimp only at b9;have⟨p,a5,hj⟩:=b9;have i:=ca p a5 hj;have q:=aX p;have r:=f.on1 p a5 hj (by rw[hl];rfl);refine(let_mvar%?A:=ed cf.fifo (h.mx c) (h.ff c) ((s*aM c+j:Nat):Int) ((if cf.mix=0 then 0 else dr cf h cf.mix:Nat):Int);let_mvar%?E:=bX cf h c s j;?_);have⟨c0,c3,e4,w,A⟩:=Qg (show∀k,k<cy c->isOpen (h.m ((bh c s j+k)/1024))=true from λk d9=>f.openS p a5 hj r d9) (f.freed y.fifo1 p a5 hj hl) (cW cf h c s j) (show ?E={h with m:=ay h.m (bh c s j) (List.replicate (cy c) 0) (cy c),st:=aE h.st c s j 2,rq:=aE h.rq c s j 0,used:=if cf.mix=0 then h.used else h.used+1,mx:=dB h.mx c (?A).1,ff:=dB h.ff c (?A).2.1}from rfl) (show er cf h c s j=(?A).2.2 from rfl);have⟨a6,d⟩:=Qa (aL cf h c s j);rw[d];have⟨b2,SZ,SL,F,HD,HI,b3,e5⟩:=Qj d (λV=>wN c V p) (λV=>xM c V p) u y f l b;have c7:W.cell? (Qz x.P 7)=some (.slice (some (Qz x.G 0)) 1062 x.gc):=n.cell 7 _ rfl;have⟨d0,d1,d2,d3,d4,d5⟩:=n.slot g;have M:gt K=bh c s j:=by unfold gt;rw[b]
 have O:dC h K=1:=by unfold dC;rw[b];exact hl
 rw[M]at d3;rw[O]at d4;rw[b]at d0 d1 d2;generalize fJ h K=rq at*;have e6:=H (show(h.mx c).length=cf.mix/\(h.ff c).length<=cf.fifo/\(∀v∈h.ff c,0<=v)/\(∀v∈h.mx c,-1<=v)from⟨f.mxl c p,f.ffl c p,f.ffn c p,f.mxn c p⟩);have⟨a,ha⟩:=Qa (bh c s j);have⟨z,t⟩:=Qa (cy c);rw[ha]at d3 c0 w i;rw[t]at c0 w SZ i q;have g9:=q.1;have h0:=q.2.1;have g5:4<=aM c/\aM c<=64:=⟨q.2.2.2.2.1,q.2.2.2.2.2.1⟩;have h4:a+z<191488:=i.2.2;have h8:(0:Int)<=(K:Int):=Z;have G:D W (W.alloc (.cells #[I c,I s,I j,U a,I 1,I rq] 242)):=ph;have⟨SA,BA,YA⟩:=Qe (n.below G) (n.bkB (Bk.refl _ _ _) u G) (ao W (.cells #[I c,I s,I j,U a,I 1,I rq] 242));have v:=H (show W.heap.size≠x.G by have⟨P,L⟩:=di n.sl;have:=ag L;omega)
 go_wp2;generalize W.alloc _=V at SA BA YA⊢;generalize W.heap.size=Y at YA v⊢;have SS:Hid (∀(V:QM){h':Hs},Sh B x cf h' V->V.heap[Y]?=some (.cells #[I c,I s,I j,U a,I 1,I rq] 242)->V.cell? (Qz x.P 6)=some (J x.T 0)/\V.cell? (Qz Y 3)=some (U a)):=(λV h' G hY=>⟨G.cell 6 _ rfl,by simp[QC,hY]⟩);refine(let_mvar%?C:=ay h.m a (List.replicate z 0);?_);go_loopw [7] (λi b=>∃k:Nat,k<=z/\i=I k/\Hid (Sh B x cf {h with m:=?C k} b)/\Hid (Bk B x.Q W b)/\Hid (b.heap[Y]?=some (.cells #[I c,I s,I j,U a,I 1,I rq] 242))) (λi _=>z-(intOf i).toNat);exact⟨0,aa,rfl,SA,BA,YA⟩
 obtain⟨k,d9,rfl,d,n,f⟩:=hrel;have y0:wr.cell? (Qz Y 0)=some (I c):=by simp[QC,f.out]
 go_wp2_with fail;refine(SZ _).mono ?_;rintro e y⟨rfl,l⟩;have⟨b,M,r⟩:=Qe (d.below l) (d.bkB n F l) (ae f l);by_cases e7:k<z
 ·have f:(k:Int)<(z:Int):=Z;have⟨q,t⟩:=SS.out _ b r;have d:=c0.out k e7;have n:=H (show ?C (k+1)=dZ (?C k) (a+k) 0 by show dZ _ _ _=_;rw[List.getElem?_replicate,GP e7];rfl)
  have L:Hid (∀f,Sx x.T x.Q 283 (cf.bud:Nat) (?C k) f->QA 263 #[J x.T 0,U (IntKind.u64.wrap ((a:Int)+IntKind.u64.wrap (k:Int))),.int .u8 0] f λe O=>e=QJ (.tuple #[])/\Sx x.T x.Q 283 (cf.bud:Nat) (dZ (?C k) (a+k) 0) O/\Sf x.Q f O):=(λf G=>by rw[dX (k:Int) Z Z,dX _ Z Z];exact uh x.T x.Q (cf.bud:Nat) (a+k) 0 f G Z (by rw[eO];exact d))
  go_wp2;refine rh (S:=λN=>N.cell? (Qz x.P 6)=some (J x.T 0)/\N.cell? (Qz Y 3)=some (U a)) ?_;have d:=(show _/\_ from⟨q,t⟩);(iterate 9 refine PX 0 d ?_);refine po 9 λK' g=>?_;go_simp;refine(L _ ((b.below ld).sp)).mono ?_;rintro e V6⟨rfl,u,f6⟩;have S6:=H (show Sh B x cf {h with m:=?C (k+1)} V6 by have:=(b.below ld).space (Fx F M.bel.size) _ u f6;rw[n];exact this);have⟨B6,Y6⟩:=y7 ((b.below ld).bkS (b.bkB M F ld) F f6) ((f6.ky (b.below ld).sp).XC r);have P:=SS.out _ S6 Y6;refine g _ _ ⟨P,?_⟩;clear g K';refine bY ?_;clear q t u f6 P;go_wp2;go_roundw
  (exact⟨k+1,Z,aY,S6,B6,Y6⟩);exact QE
 obtain rfl:k=z:=Z;obtain⟨L,f⟩:∃L:Hs,L={h with m:=ay h.m a (List.replicate k 0) k}:=⟨_,rfl⟩;rw[<-f]at b;have a7:=H f;clear f;refine(let_mvar%?D:=y.setCell (Qz x.G (K*6+4)) (I 2);?_);have S6:=H (show Sh B x cf {L with st:=aE L.st c s j 2} ?D by have:=b.setSt g 2;rw[e5]at this;exact this)
 have B6:=H (b.bkG M F (K*6+4) (I 2));have Y6:=H (show (?D).heap[Y]?=some (.cells #[I c,I s,I j,U a,I 1,I rq] 242) by rw[(au (Q6 y x.G) (K*6+4) (I 2)).block Y (ag r) (by simp;exact v)];exact r)
 refine(let_mvar%?B:=(?D).setCell (Qz x.G (K*6+5)) (I 0);?_);have q:=H (show Sh B x cf {L with st:=aE L.st c s j 2,rq:=aE L.rq c s j 0} (?B) by have:=S6.setRq g 0;rw[e5]at this;exact this)
 have B7:=H (S6.bkG B6 F (K*6+5) (I 0));have Y7:=H (show(?B).heap[Y]?=some (.cells #[I c,I s,I j,U a,I 1,I rq] 242) by rw[(au (Q6 _ x.G) (K*6+5) (I 0)).block Y (ag Y6) (by simp;exact v)];exact Y6)
 have c7:y.cell? (Qz x.P 7)=some (.slice (some (Qz x.G 0)) 1062 x.gc):=b.cell 7 _ rfl;have d4:=(b.slot g).2.2.2.2.1;have f4:=b.slotF (K*6+4);have T:(?D).cell? (Qz x.P 7)=some (.slice (some (Qz x.G 0)) 1062 x.gc):=S6.cell 7 _ rfl;have t:=(S6.slot g).2.2.2.2.2;have f56:=S6.slotF (K*6+5);have e8:(?B).cell? (Qz x.P 0)=some (I cf.mix):=q.cell 0 _ rfl;generalize dC L K=h9 at d4;generalize fJ _ K=i0 at t;obtain⟨Q,f⟩:∃Q:Hs,Q={L with st:=aE L.st c s j 2,rq:=aE L.rq c s j 0}:=⟨_,rfl⟩;rw[<-f]at q;have a8:=H (show Q.used=h.used by rw[f,a7]);obtain⟨dd,n⟩:∃dd:Nat,(if cf.mix=0 then 0 else dr cf h cf.mix:Nat)=dd:=⟨_,rfl⟩;obtain⟨h3,u⟩:∃h3:Hs,h3={Q with used:=if cf.mix=0 then h.used else h.used+1}:=⟨_,rfl⟩;have⟨e9,R,c4⟩:=Qe n u f;rw[n]at w A;clear n u f;go_upto_if 60 with fail
 generalize ?B=V7 at q B7 Y7 e8⊢;clear c7 d4 f4 T t f56;go_cut [8] (λs8 O=>s8=I dd/\Hid (Sh B x cf h3 O)/\Hid (Bk B x.Q W O)/\Hid (O.heap[Y]?=some (.cells #[I c,I s,I j,U a,I 1,I rq] 242)));case first=>
  by_cases b:cf.mix=0
  ·have f:dd=0:=(by rw[<-e9.out,GP b]);have n:h3=Q:=(by rw[R,GP b,<-a8.out]);have r:¬((0:Int)<(cf.mix:Int)):=Z;have⟨t,u⟩:=y7 f n;go_wp2;go_meet;exact⟨by rw[t];rfl,by rw[u];exact q,B7,Y7⟩
  have f:dd=dr cf Q cf.mix:=(by rw[<-e9.out,GO b];unfold dr;rw[a8]);have n:h3={Q with used:=Q.used+1}:=(by rw[R,GO b,a8]);have r:(0:Int)<(cf.mix:Int):=Z;have⟨t,u⟩:=y7 f n;have M:=H (oQ B x cf Q cf.mix V7 q Z (by have:=HD.mix;omega) (by rw[a8];omega) HD.len HD.wf);go_wp2_with fail;refine M.mono ?_;rintro e V8⟨rfl,s8,b⟩;have⟨T,B8,X⟩:=Qe s8 (q.bkP B7 F b) ((Ky.grown q.box rfl b:Ky (· =240) _ _).XC Y7);go_wp2;go_meet;exact⟨by rw[t],by rw[u];exact T,B8,X⟩
 case rest=>
  obtain⟨rfl,r,B3,Y3⟩:=hcut;have⟨wa,a9,t⟩:=aK r.wt;have⟨wb,g0⟩:=cr (t▸r.wt) Z;rw[g0]at t;have u:=H t;obtain⟨⟨am,cm,M,zm,c5⟩,⟨af,g1,T,zf,c8⟩⟩:=r.wm c p;have a4:h3.mx c=h.mx c:=(by rw[R,c4,a7]);have b4:h3.ff c=h.ff c:=(by rw[R,c4,a7]);rw[a4]at M c5;rw[b4]at T c8;have⟨lm,c9⟩:=Qa ((h.mx c).length);have⟨lf,d6⟩:=Qa ((h.ff c).length);rw[c9]at M;rw[d6]at T;have⟨b0,b1⟩:=y7 M T;have⟨n,hn⟩:=Qa (aM c);rw[hn]at SL w A hj g5;have⟨b,f⟩:=Qa (ed cf.fifo (h.mx c) (h.ff c) ((s*n+j:Nat):Int) (dd:Int));rw[f]at w A;have i1:(0:Int)<=(s:Int)*(n:Int)/\(s:Int)*(n:Int)<=384:=by have L:s*n<=6*64:=Nat.mul_le_mul Z Z;have Q:((s*n:Nat):Int)=(s:Int)*(n:Int):=bH;omega
  have i2:IntKind.i64.wrap ((s:Int)*(n:Int))=(s:Int)*(n:Int):=(by rw[Hh];omega);have i3:IntKind.i64.wrap ((s:Int)*(n:Int)+(j:Int))=(s:Int)*(n:Int)+(j:Int):=(by rw[Hh];omega);have X:eN (h.mx c) (h.ff c) (cf.fifo:Nat)=true:=by have⟨q1,q2,q3,q4⟩:=e6.out;have q5:=HD.mix;have q6:=HD.fifo1;have q7:=HD.fifo;unfold eN nb;simp only[Gi,Hj,List.all_eq_true];exact⟨Z,Z,Z,Z,q4,q3⟩
  have WP:Hid (∀V,D wc V->QA 265 #[.agg #[.slice am lm cm,.slice af lf g1,I cf.fifo],I ((s:Int)*(n:Int)+(j:Int)),I dd] V λe O=>B_ V cf.fifo b.1 b.2.1 b.2.2 e O):=(λV G=>by have:=vq am lm cm af lf g1 cf.fifo (h.mx c) (h.ff c) ((s*n+j:Nat):Int) (dd:Int) V ⟨c5.ky (Ky.below G:Ky (λ_=>False) _ _) (λe=>e),c9,c8.ky (Ky.below G:Ky (λ_=>False) _ _) (λe=>e),d6⟩ zf X Z;rw[f]at this;simpa[wv]using this)
  have b8:=H (show ?E={h3 with mx:=dB h3.mx c b.1,ff:=dB h3.ff c b.2.1} by rw[w,R,c4,a7]);have a0:Hid (∀(V:QM){o:Sm}{h':Hs},Sh B o cf h' V->o.P=x.P->o.wv=x.wv->V.heap[Y]?=some (.cells #[I c,I s,I j,U a,I 1,I rq] 242)->V.cell? (Qz x.P 8)=some (.slice (some (Qz wb 0)) 12 a9)/\V.cell? (Qz Y 0)=some (I c)/\V.cell? (Qz Y 1)=some (I s)/\V.cell? (Qz Y 2)=some (I j)):=(λV o h' G e1 e2 hY=>by refine⟨?_,by simp[QC,hY],by simp[QC,hY],by simp[QC,hY]⟩;rw[<-e1,<-t,<-e2];exact G.cell 8 _ rfl)
  have a3:=H (λV(G:D wc V)=>a0.out V (r.below G) rfl rfl (ae Y3 G));have⟨d7,d8,g2,_⟩:=r.wtCells t p;rw[M]at d7;rw[T]at d8;(go_upto_region 12 with fail);go_cut [9] (λf O=>f=I b.2.2/\∃o:Sm,o.P=x.P/\o.Q=x.Q/\o.G=x.G/\l_ o/\Hid (Sh B o cf (?E) O)/\Hid (Bk B x.Q W O)/\Hid (O.heap[Y]?=some (.cells #[I c,I s,I j,U a,I 1,I rq] 242)));case first=>
   refine rh (S:=λN=>N.cell? (Qz x.P 8)=some (.slice (some (Qz wb 0)) 12 a9)/\N.cell? (Qz Y 0)=some (I c)/\N.cell? (Qz Y 1)=some (I s)/\N.cell? (Qz Y 2)=some (I j)) ?_;have d:=a3.out _ ld;(iterate 13 refine PX 0 d ?_);(iterate 4 refine PX 14 d ?_);(iterate 2 refine PX 20 d ?_);refine PX 23 d ?_;refine lZ [13,18] λi9 T=>?_;rcases(by simpa using T:i9=13\/i9=18)with T|T
   ·subst T;refine cw λK' g=>?_;go_simp;refine g _ _ ⟨d,?_⟩;refine po 18 λK' g=>?_
    go_simp;refine(SL _).mono ?_;rintro e y⟨rfl,l⟩;have M:D wc y:=⟨l.os,l.tape,l.output,l.size,l.block⟩;have h5:=a3.out _ M;have w5:=(r.below M).wtCells u p;rw[b0,b1]at w5;have b4:=w5.1;have c5:=w5.2.1;have c8:=w5.2.2.1;refine g _ _ ⟨h5,?_⟩;have d:=h5;refine PX 19 d ?_;refine PX 22 d ?_;refine po 24 λK' g=>?_;go_simp;refine(WP _ M).mono ?_;rintro e V6⟨X,c1,a2,c2,rfl,a4,z1,z2,b6,n1,n2⟩;have t:=az M b6;have P:=a3.out _ t;have f:=(r.below t).wtCells u p;rw[b0,b1]at f;have c9:=f.1;have d6:=f.2.1;have g0:=f.2.2.1;have f60:=f.2.2.2 (c*3);have f61:=f.2.2.2 (c*3+1);have f62:=f.2.2.2 (c*3+2);have⟨q,K7,G7⟩:=(r.below t).setWt u p (.slice X b.1.length c1) (.slice a2 b.2.1.length c2) b.1 b.2.1 ⟨X,c1,rfl,z1,a4.m⟩ ⟨a2,c2,rfl,z2,a4.f⟩;have⟨B7,Y7⟩:=y7 (Du (r.below t) u (r.bkB B3 F t) F G7) (K7.XC (ae Y3 t));have h7:=a0.out _ q rfl rfl Y7;have q:=H q;refine g _ _ ⟨P,?_⟩;have d:=P;refine pk 25 (.tuple #[.agg #[.slice X b.1.length c1,.slice a2 b.2.1.length c2,I cf.fifo],I b.2.2]) d ?_;refine pz 26 (.agg #[.slice X b.1.length c1,.slice a2 b.2.1.length c2,I cf.fifo]) d ?_;refine pz 27 (I b.2.2) d ?_;refine pz 28 (.pointer (some (Qz wb (c*3)))) d ?_;refine po 29 λK' g=>?_
    go_simp;refine g _ _ ⟨h7,?_⟩;have d:=h7;refine PX 30 d ?_;refine bY ?_;go_wp2_with fail;go_meet;exact⟨rfl,{x with mv:=jW x.mv c (.slice X b.1.length c1),fv:=jW x.fv c (.slice a2 b.2.1.length c2)},rfl,rfl,rfl,b3,H (by rw[b8];exact q),B7,Y7⟩
   subst T;refine cw λK' g=>?_;go_simp;refine(SL _).mono ?_;rintro e y⟨rfl,l⟩;have M:D wc y:=⟨l.os,l.tape,l.output,l.size,l.block⟩;have h5:=a3.out _ M;have w5:=(r.below M).wtCells u p;rw[b0,b1]at w5;have b4:=w5.1;have c5:=w5.2.1;have c8:=w5.2.2.1;refine g _ _ ⟨h5,?_⟩;have d:=h5;refine PX 19 d ?_;refine PX 22 d ?_;refine po 13 λK' g=>?_
   go_simp;refine g _ _ ⟨d,?_⟩;refine po 24 λK' g=>?_;go_simp;refine(WP _ M).mono ?_;rintro e V6⟨X,c1,a2,c2,rfl,a4,z1,z2,b6,n1,n2⟩;have t:=az M b6;have P:=a3.out _ t;have f:=(r.below t).wtCells u p;rw[b0,b1]at f;have c9:=f.1;have d6:=f.2.1;have g0:=f.2.2.1;have f60:=f.2.2.2 (c*3);have f61:=f.2.2.2 (c*3+1);have f62:=f.2.2.2 (c*3+2);have⟨q,K7,G7⟩:=(r.below t).setWt u p (.slice X b.1.length c1) (.slice a2 b.2.1.length c2) b.1 b.2.1 ⟨X,c1,rfl,z1,a4.m⟩ ⟨a2,c2,rfl,z2,a4.f⟩;have⟨B7,Y7⟩:=y7 (Du (r.below t) u (r.bkB B3 F t) F G7) (K7.XC (ae Y3 t));have h7:=a0.out _ q rfl rfl Y7;have q:=H q;refine g _ _ ⟨P,?_⟩;have d:=P;refine pk 25 (.tuple #[.agg #[.slice X b.1.length c1,.slice a2 b.2.1.length c2,I cf.fifo],I b.2.2]) d ?_;refine pz 26 (.agg #[.slice X b.1.length c1,.slice a2 b.2.1.length c2,I cf.fifo]) d ?_;refine pz 27 (I b.2.2) d ?_;refine pz 28 (.pointer (some (Qz wb (c*3)))) d ?_;refine po 29 λK' g=>?_
   go_simp;refine g _ _ ⟨h7,?_⟩;have d:=h7;refine PX 30 d ?_;refine bY ?_;go_wp2_with fail;go_meet;exact⟨rfl,{x with mv:=jW x.mv c (.slice X b.1.length c1),fv:=jW x.fv c (.slice a2 b.2.1.length c2)},rfl,rfl,rfl,b3,H (by rw[b8];exact q),B7,Y7⟩
  case rest=>
   obtain⟨rfl,o,f,X,b4,c5,S9,B9,Y9⟩:=hcut;have r:=S9;have B3:=B9;have Y3:=Y9;have⟨a4,T,c9⟩:=Qe f X c5;have d6:=H (show Y≠o.G by rw[b4];exact v);clear S9 B9 Y9 f X b4 c5;have v:=d6;rcases c3 with⟨e,g0⟩|⟨s',j',e,e1,e2,b4,c5,g3,g0⟩
   ·have f:b.2.2 = -1:=(by rw[<-A.out];exact e);have HE:=H (show a6=?E by rw[<-b2.out,e4,GP e]);rw[f];clear f d7 d8 g2;go_wp2;refine GX (kw dU) dU ?_;rw[HE];exact⟨rfl,o,a4,T,c9,r,B3⟩
   obtain⟨f,X⟩:∃f:Nat,b.2.2=(f:Int):=⟨b.2.2.toNat,by rw[<-A.out];omega⟩;have c8:(er cf h c s j).toNat=f:=(by rw[A,X];simp);rw[c8,hn]at e1 e2;rw[hn]at c5;have HE:=H (show a6=bK (?E) c (f/n) (f%n) by rw[<-b2.out,e4,GO Z,c8,hn])
   have g4:xl (?E):=by
    rw[w];intro c' s' j';show 0<=aE h.st c s j 2 c' s' j'/\aE h.st c s j 2 c' s' j'<=4;by_cases e:c'=c/\s'=s/\j'=j;·obtain⟨rfl,rfl,rfl⟩:=e;rw[aS];omega
    rw[aU e];exact HI.st c' s' j'
   have RE:=H (λV(G:Sh B o cf (?E) V)(hBV:B<=V.heap.size)=>qO B o cf (?E) c (f/n) (f%n) V G hBV g4 p (by rw[e1];exact b4) (by rw[e2,hn];exact c5));rw[a4]at RE;have y0:wc.cell? (Qz Y 0)=some (I c):=(by simp[QC,Y3.out]);have i4:(f:Int).tdiv (n:Int)=((f/n:Nat):Int):=(by rw[Ig Z];simp);have i5:(f:Int).tmod (n:Int)=((f%n:Nat):Int):=(by rw[GH Z];simp);have i6:¬((n:Int)=0):=Z;have g6:¬(n=0):=Z;have i7:IntKind.i64.wrap ((f:Int)/(n:Int))=(f:Int)/(n:Int):=by have L:f/n<6:=(by rw[e1];exact b4);have Q:((f/n:Nat):Int)=(f:Int)/(n:Int):=bH;rw[Hh];omega
   have g7:(0:Int)<=(f:Int):=Z;rw[X];clear X c8 e e1 e2 b4 c5 g3 g0 g4 d7 d8 g2;go_wp2;refine rh (S:=λN=>N.cell? (Qz Y 0)=some (I c)) ?_;have d:=NI ld y0;(iterate 6 refine PX 0 d ?_);(iterate 3 refine PX 8 d ?_);refine po 6 λK' g=>?_;go_simp;refine(SL _).mono ?_;rintro e y⟨rfl,l⟩;have M:D wc y:=⟨l.os,l.tape,l.output,l.size,l.block⟩;have h5:=NI M y0;refine g _ _ ⟨h5,?_⟩;clear d;have d:=h5;clear g K';refine PX 7 d ?_;refine po 11 λK' g=>?_
   go_simp;refine(SL _).mono ?_;rintro e V6⟨rfl,b6⟩;have t:=az M b6;have P:=NI t y0;refine g _ _ ⟨P,?_⟩;clear d;have d:=P;clear g K';refine PX 12 d ?_;refine po 13 λK' g=>?_;go_simp;refine(RE _ (r.below t) (Fx (Fx F B3.bel.size) t.size)).mono ?_;rintro e V7⟨rfl,s7,X⟩;have h7:V7.cell? (Qz Y 0)=some (I c):=(by simp only[QC,X.rf _ _ _ _ (ae Y3.out t) v.out ar ar];rfl);have B7:=H ((T.out▸(r.bkB (T.out▸B3.out) F t):Bk B x.Q W V6).trans (T.out▸X.bk));refine g _ _ ⟨h7,?_⟩;clear d;clear g K';refine bY ?_;have q:=H s7;clear s7 X h5 P h7 M t l b6 y0;go_wp2;refine GX (kw dU) dU ?_;rw[HE];exact⟨rfl,o,a4,T,c9,q,B7⟩
