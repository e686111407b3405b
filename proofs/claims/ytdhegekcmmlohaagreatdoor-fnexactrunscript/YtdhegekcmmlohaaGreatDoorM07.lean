import Derived.Maps.RangeWalk
import Derived.Test.YtdhegekcmmlohaaGreatDoorM05
import Derived.Test.YtdhegekcmmlohaaGreatDoorM06
set_option linter.unusedVariables false
set_option linter.unusedSimpArgs false
set_option maxRecDepth 20000
set_option maxHeartbeats 8000000
namespace Go.Proofs.YtdhegekcmmlohaaGreatDoor
open Go.Proofs.Tryz Go.RowKit Go.Maps Go.Shelf Go.ChangeShapes Go.WideShapes Go.ChangeAt
theorem vk(cf h c s j):sound cf h c s j=true↔∀i,i<8->bO h.m (bh c s j+eV c+i)=((can cf (bh c s j))[i]?).getD 0:=by
 unfold sound;rw[beq_iff_eq];have d:(can cf (bh c s j)).length=8:=dK _;constructor;·intro e i a;rw[<-e];simp[aH,a]
 intro b;apply Ho;intro i;by_cases a:i<8;·have:=b i a;simp[aH,a];rw[this,Fy Z];rfl
 rw[FJ (by simp[aH];omega),FJ Z]
theorem yW{W:QM}{B:Nat}{v:QN}{c:List QN}(h:W.ownsRow B 5 1 v 8 c):∃g a,v=Vl g 8 a/\RowV W g 5 c:=by
 rcases h.2 with⟨_,l⟩|⟨g,a,b,rfl,d,e,f,i,j,k⟩;·omega
 exact⟨g,a,rfl,RowV.ofOwns (n:=8) (cap:=a) (base:=B) ⟨h.1,.inr ⟨g,a,b,rfl,d,e,f,i,j,k⟩⟩⟩
theorem q_(B x cf h)(K c s j:Nat)(W)(k:Sh B x cf h W)(hK:K<1062)(r:sA K=(c,s,j))(S:0<=cf.key)(T:cf.key<18446744073709551616)(b:∀i,i<8->isOpen (h.m ((bh c s j+eV c+i)/1024))=true):
  QA 76 #[J x.P 0,I K] W λe W'=>e=QJ (.bool (sound cf h c s j))/\Below W.heap.size W W':=by
 have t:=mj hK;rw[r]at t;dsimp only at t;have⟨hc,a0,hj⟩:=t;have d:=ca hc a0 hj;have f:=aX hc;have v:W.cell? (Qz x.P 7)=some (Vl x.G 1062 x.gc):=k.cell 7 _ rfl;have⟨m,n,o,l,A,F⟩:=k.slot hK;have p:gt K=bh c s j:=by unfold gt;rw[r]
 rw[p]at l;rw[r]at m n o;have⟨HS,G,CS,w,y⟩:=Qg k (vk cf h c s j) (λV=>rO cf.key ((bh c s j:Nat):Int) V S T Z Z) (show can cf (bh c s j)=gI (cx cf.key ((bh c s j:Nat):Int))from rfl) (λV a g q r=>nP c (bh c s j) a g q r V hc Z);generalize dC h K=z at*;generalize fJ h K=L at*;have⟨a,ha⟩:=Qa (bh c s j);have⟨u,q⟩:=Qa (eV c);rw[ha]at l G CS w y d b;rw[q]at G y f b;have a1:=H b;have a4:a+u+8<=191488:=Z;have g:Below W.heap.size W (W.alloc (.cells #[I c,I s,I j,U a,I z,I L] 109)):=(Fu _ _).alloc (Fv _) _;have X:=ao W (.cells #[I c,I s,I j,U a,I z,I L] 109);clear k f d p ha q b;go_enter func76,ntmps76;go_wp2;generalize W.alloc _=V at g X⊢;generalize f:W.heap.size=Y at g X⊢;have SV:=H (HS.below (f▸g));have x3:V.cell? (Qz Y 3)=some (U a):=by simp only[QC,X];rfl
 have p4:V.cell? (Qz x.P 4)=some (U cf.key):=SV.cell 4 _ rfl;have⟨XH,BA⟩:=y7 X g;clear X g m n o l A F v;go_cut [22,23,24] (λb d g M=>d=I 8/\g=I 0/\∃g N,b=Vl g 8 N/\Hid (RowV M g 5 (Ns .u8 (can cf a)))/\Hid (Below V.heap.size V M));case first=>
  go_region_with (first|(go_at_call 123;refine(CS _).mono ?_;rintro e m⟨v,rfl,n,d⟩;obtain⟨g,N,rfl,O⟩:=yW n;have l:Below V.heap.size V m:=⟨d.os,d.tape,d.output,d.size,d.block⟩;have b:=NI l x3;have k:=NI l p4))
  all_goals(
   have o:=H l
   clear l d n b k
   go_wp2
   go_meet
   case rel=>exact⟨rfl,rfl,g,N,rfl,H (by rw[w];exact O),o⟩)
 case rest=>
  obtain⟨rfl,rfl,g,N,rfl,O,X⟩:=hcut;have HL:=H (show(can cf a).length=8 from by rw[w];exact dK _);have BW:Hid (Below Y W wc):=BA.trans (X.mono (f▸BA.size));clear x3 p4;go_wp2_with fail;go_loopw [24] (λi wr=>∃k:Nat,k<=8/\i=I k/\Hid (∀j,j<k->bO h.m (a+u+j)=((can cf a)[j]?).getD 0)/\Hid (Below wc.heap.size wc wr)) (λi _=>8-(intOf i).toNat);case atStart=>exact⟨0,FH _,rfl,H (λj hj=>Z),H (Fu _ _)⟩
  case round=>
   obtain⟨k,hk,rfl,P,A⟩:=hrel;have Q:Hid (Below Y W wr):=BW.trans (A.mono (f▸BW.size));by_cases n:k<8
   ·have RB:=H (O.below A O.lt);obtain⟨e,o⟩:∃e,(can cf a)[k]?=some e:=⟨_,Fy (by rw[HL];exact n)⟩;have r1:wr.cell? (Qz g k)=some (.int .u8 e):=by
     rw[RB.cell k (by simp[Ns,HL.out,n])];simp[Ns,o]
    have SR:=H (HS.below (f▸Q.out));have b:wr.heap[Y]?=some (.cells #[I c,I s,I j,U a,I z,I L] 109):=by
     have l1:Y<V.heap.size:=(Array.getElem?_eq_some_iff.mp XH).1;rw[A.block Y (FG l1 X.size),X.block Y l1];exact XH
    have q0:wr.cell? (Qz Y 0)=some (I c):=(by simp only[QC,b];rfl);have q1:wr.cell? (Qz Y 1)=some (I s):=(by simp only[QC,b];rfl);have q2:wr.cell? (Qz Y 2)=some (I j):=(by simp only[QC,b];rfl);have q3:wr.cell? (Qz Y 3)=some (U a):=(by simp only[QC,b];rfl);have q4:wr.cell? (Qz Y 4)=some (I z):=(by simp only[QC,b];rfl);have q5:wr.cell? (Qz Y 5)=some (I L):=(by simp only[QC,b];rfl);have R:wr.cell? (Qz x.P 6)=some (J x.T 0):=SR.cell 6 _ rfl;have HE:=H o;clear b o;have F:Hid (∀m,Below wr.heap.size wr m->QA 129 #[J x.T 0,U (IntKind.u64.wrap (((a+u:Nat):Int)+IntKind.u64.wrap (k:Int)))] m λe M=>e=QJ (.int .u8 (bO h.m (a+u+k)))/\M=m):=(λm b=>by
     rw[dX (k:Int) Z Z,dX _ Z Z];exact kT x.T x.Q 283 (cf.bud:Nat) h.m (a+u+k) m (SR.below b).sp Z Z (a1 k n))
    have o:=H (show(bO h.m (a+u+k)=e)↔bO h.m (a+u+k)=((can cf a)[k]?).getD 0 by rw[HE];exact Iff.rfl);have⟨b,q⟩:=Qa (bO h.m (a+u+k));have p:=H q;rw[q]at F;clear q;by_cases q:b=e
    ·subst q;have F2:Hid (∀j,j<k+1->bO h.m (a+u+j)=((can cf a)[j]?).getD 0):=(λj hj=>by
      by_cases v:j=k;·subst v;exact o.mp p
      exact P j Z)
     clear o p HE P RB;go_wp2_with fail
     go_region_with (first|(go_at_call 122;refine(y _ _ _ _ _).mono ?_;rintro e1 m⟨rfl,d⟩;have l:Below wr.heap.size wr m:=⟨d.os,d.tape,d.output,d.size,d.block⟩;have v:=NI l R)|(go_at_call 129;refine(F _ l).mono ?_;rintro e2 V2⟨rfl,rfl⟩))
     all_goals(
      have B2:Hid (Below wc.heap.size wc V2):=A.trans (l.mono A.size)
      clear l d v R q0 q1 q2 q3 q4 q5 r1 F y
      go_wp2
      go_roundw
      case rel=>exact⟨k+1,Z,aY,F2,B2⟩
      case measure=>exact QE)
    have a3:(b==e)=false:=(by simpa using q);have a5:(b !=e)=true:=(by simpa using q);have SF:=H (show sound cf h c s j=false by
     rw[Bool.eq_false_iff];intro a2;exact q (by rw[<-p.out];exact o.mpr (G.mp a2 k n)))
    clear o p HE P RB;go_wp2_with fail
    go_region_with (first|(go_at_call 122;refine(y _ _ _ _ _).mono ?_;rintro e1 m⟨rfl,d⟩;have l:Below wr.heap.size wr m:=⟨d.os,d.tape,d.output,d.size,d.block⟩;have v:=NI l R)|(go_at_call 129;refine(F _ l).mono ?_;rintro e2 V2⟨rfl,rfl⟩))
    all_goals(
     have B2:Hid (Below Y W V2):=Q.trans (l.mono (f▸Q.size))
     clear l d v R q0 q1 q2 q3 q4 q5 r1 F y
     go_wp2
     go_ret
     rw[SF]
     exact⟨rfl,f▸B2.out⟩)
   obtain rfl:k=8:=Z;go_wp2_with fail;go_ret;rw[G.mpr P];exact⟨rfl,f▸Q.out⟩
section
variable {k n s:Nat}
def vI(s n:Nat)(rg:List Rg9)(k:Nat):Bool:=(rg.take k).all λr=>decide (s+n<=r.first) || decide (r.first+r.ext<=s)
theorem vV{a:List Rg9}{r:Rg9}(h:a[k]?=some r):vI s n a (k+1)=(vI s n a k&&(decide (s+n<=r.first) || decide (r.first+r.ext<=s))):=by
 unfold vI;rw[F_,h];simp
theorem pj{a:List Rg9}(h:a.length=k):vI s n a k=a.all λr=>decide (s+n<=r.first) || decide (r.first+r.ext<=s):=by
 unfold vI;rw[Ge Z]
theorem vj{h:Hs}(a:h.rg.length=k)(g:187<=s)(c:s+n<=283)(d:∀t,187<=t->t<s->(decide (t+n<=283)&&vI t n h.rg k)=false)(b:vI s n h.rg k=true):dV h n=some s:=by
 have e:∀j,j<s-187->(decide (j+n<=96)&&h.rg.all λr=>decide (187+j+n<=r.first) || decide (r.first+r.ext<=187+j))=false:=λj i=>by
  have:=d (187+j) Z Z;rw[pj a]at this;rw[show decide (j+n<=96)=decide (187+j+n<=283) by congr 1;simp;omega];exact this
 have f:(decide (s-187+n<=96)&&h.rg.all λr=>decide (187+(s-187)+n<=r.first) || decide (r.first+r.ext<=187+(s-187)))=true:=by
  rw[pj a]at b;rw[show 187+(s-187)=s by omega,b,G8 Z];rfl
 unfold dV;rw[iZ (k:=s-187) Z e f];simp;omega
theorem uK{h:Hs}(b:h.rg.length=k)(e:187<=s)(c:¬s+n<=283)(d:∀t,187<=t->t<s->(decide (t+n<=283)&&vI t n h.rg k)=false):dV h n=none:=by
 unfold dV;rw[jM (λj a=>?_)];·rfl
 by_cases a:187+j<s;·have:=d (187+j) Z a;rw[pj b]at this;rw[show decide (j+n<=96)=decide (187+j+n<=283) by congr 1;simp;omega];exact this
 rw[GR Z];rfl
theorem xG(W:QM):QA 67 #[] W λe a=>e=QJ (I 187)/\D W a:=gl W
theorem mA(W:QM):QA 41 #[] W λe a=>e=QJ (I 283)/\D W a:=gn W
theorem uW(B x cf h)(n:Nat)(W)(i:Sh B x cf h W)(T:h.rg.length<=1000)(w:1<=n)(V:n<=1000)(l:∀r∈h.rg,r.first<=100000/\r.ext<=100000):
  QA 126 #[J x.P 0,I n] W λe X=>e=.returned (I (match dV h n with|some s=>(s:Int)|none=> -1))/\D W X:=by
 have⟨Y,rc,b⟩:=aK i.rg;have N:W.cell? ⟨x.P,9,none⟩=some (.slice Y h.rg.length rc):=by rw[<-b];exact i.cell 9 _ rfl
 have⟨g,f⟩:=Qa h.rg.length;rw[f]at N T;have c:=H f;have j:=H b;have O:=H i;have HF:=H l;have LA:=H xG;have AR:=H mA;obtain⟨d,a⟩:∃d:Int,(match dV h n with|some s=>(s:Int)|none=> -1)=d:=⟨_,rfl⟩;rw[a];have P:=H a;clear f b i l a;go_enter func126,ntmps126;go_wp2_with fail;refine(LA _).mono ?_;rintro e W1⟨rfl,a⟩;have Q:=H a;clear a;go_wp2;go_loopw [5] (λv wr=>∃s:Nat,187<=s/\s<=284/\v=I s/\Hid (∀t,187<=t->t<s->(decide (t+n<=283)&&vI t n h.rg g)=false)/\Hid (D W wr)) (λv _=>284-(intOf v).toNat);case atStart=>exact⟨187,Fv _,Z,rfl,H (λt w h2=>Z),Q⟩
 case round=>
  obtain⟨s,l,a0,rfl,y,R⟩:=hrel;clear Q;go_wp2_with fail;refine(AR _).mono ?_;rintro e W2⟨rfl,a⟩;have p:=H (az R a);clear a;by_cases m:s+n<=283
  ·have f:(s:Int)+(n:Int)<=283:=Z;have A:=NI p N;go_wp2;have a:decide ((s:Int)+(n:Int)<=283)=true:=bG
   (try simp only[a]);clear a f;go_loopw [6,22] (λb i a=>∃k:Nat,k<=g/\i=I k/\b=.bool (vI s n h.rg k)/\Hid (D W a)) (λ_ i _=>g-(intOf i).toNat);(case atStart=>exact⟨0,FH _,rfl,rfl,p⟩);case round=>
    obtain⟨k,hk,rfl,rfl,a⟩:=hrel;clear A p R;by_cases F:k<g
    ·obtain⟨r,o⟩:∃r,h.rg[k]?=some r:=⟨_,Fy (by rw[c];exact F)⟩;obtain⟨G,rfl⟩:=cr (j.out▸O.rg) (by rw[c];omega);have⟨d0,d1,d2,d3,d4,d5⟩:=(O.below a).range j o;have q:=H (a.alloc a.size (.cells #[U r.base,I r.first,I r.ext,I r.pages,I r.st,I r.rq] 115));have u:=H (vV (s:=s) (n:=n) o);have⟨q1,q2⟩:=HF.out r (FM o);generalize r.st=z at*;generalize r.rq=z2 at*;generalize r.ext=K at*;generalize r.base=z5 at*;generalize r.first=z6 at*
     generalize r.pages=z7 at*;generalize vI s n h.rg k=b at*;clear o;cases b
     ·go_wp2;go_roundw;(case rel=>exact⟨k+1,Z,aY,by rw[u];rfl,q⟩);case measure=>exact QE
     by_cases o:s+n<=z6
     ·have L:(s:Int)+(n:Int)<=(z6:Int):=Z;go_wp2;go_roundw;(case rel=>exact⟨k+1,Z,aY,by rw[u];simp[o],q⟩);case measure=>exact QE
     have L:¬((s:Int)+(n:Int)<=(z6:Int)):=Z;by_cases S:z6+K<=s
     ·have M:(z6:Int)+(K:Int)<=(s:Int):=Z;go_wp2;go_roundw;(case rel=>exact⟨k+1,Z,aY,by rw[u];simp[o,S],q⟩);case measure=>exact QE
     have M:¬((z6:Int)+(K:Int)<=(s:Int)):=Z;go_wp2;go_roundw;(case rel=>exact⟨k+1,Z,aY,by rw[u];simp[o,S],q⟩);case measure=>exact QE
    obtain rfl:k=g:=Z;cases o:vI s n h.rg k
    ·have q:=H (show∀t,187<=t->t<s+1->(decide (t+n<=283)&&vI t n h.rg k)=false from λt w h2=>by
      by_cases e:t=s;·subst e;rw[o];simp
      exact y t w Z)
     go_wp2;go_roundw;(case rel=>exact⟨s+1,Z,Z,aY,q,a⟩);case measure=>exact QE
    have q:=H (show d=(s:Int) by
     rw[<-P.out,vj c l m y o])
    go_wp2;go_ret;rw[q];exact⟨rfl,a⟩
  have f:¬((s:Int)+(n:Int)<=283):=Z;have q:=H (show d = -1 by
   rw[<-P.out,uK c l m y])
  go_wp2;go_ret;rw[q];exact⟨rfl,p⟩
theorem O7{p X Y a:Prop}(x:X)(y:Y)(z:a)(f:X->Y->a->p:=by(
 intro x y z
 go_quiet (fail)
 go_wp2
 go_ret
 exact⟨by rw[<-x,GR (by simp at z;omega)];rfl,y _ ⟨rfl,rfl,rfl,Fv _,λ_ _=>rfl⟩⟩)):p:=f x y z
theorem rB(mi fi la bu ky)(g:QP)(f i:Nat)(A:QP)(n j:Nat)(W:QM):
  QA 24 #[.agg #[I mi,I fi,I la,I bu,U ky,.slice g f i],.slice A n j] W λe k=>e=QJ (.bool (decide (0<=mi/\mi<=16/\1<=fi/\fi<=32/\1<=la/\la<=16/\0<=bu/\bu<=283/\f<=20000/\n<=300)))/\D W k:=by
 have l:D W (W.alloc (.cells #[I mi,I fi,I la,I bu,U ky,.slice g f i] 30)):=(Fu _ _).alloc (Fv _) _;have a:=ao W (.cells #[I mi,I fi,I la,I bu,U ky,.slice g f i] 30);have r:=H mA;have⟨p,c⟩:=Qa (decide (0<=mi/\mi<=16/\1<=fi/\fi<=32/\1<=la/\la<=16/\0<=bu/\bu<=283/\f<=20000/\n<=300));rw[c];have b:=H c;have c:=l.size;go_enter func24,ntmps24;go_wp2_with fail;generalize W.alloc _=V at l a c⊢;have d:Hid (∀k,D V k->D W k):=λk h=>l.trans (h.mono c);generalize W.heap.size=Y at a⊢;have o:Hid (∀c,D V c->D V c/\QG c Y 0 (I mi)/\QG c Y 1 (I fi)/\QG c Y 2 (I la)/\QG c Y 3 (I bu)/\QG c Y 5 (.slice g f i)):=(λc h=>
  ⟨h,NI h (by simp only[QC,a];rfl),NI h (by simp only[QC,a];rfl),NI h (by simp only[QC,a];rfl),NI h (by simp only[QC,a];rfl),NI h (by simp only[QC,a];rfl)⟩)
 have s:=o.out _ (Fu _ _);have⟨_,a,l,m,q,t⟩:=s;cases u:decide (0<=mi);·exact O7 b d u
 cases v:decide (mi<=16);·exact O7 b d v
 cases w:decide (1<=fi);·exact O7 b d w
 cases x:decide (fi<=32);·exact O7 b d x
 cases y:decide (1<=la);·exact O7 b d y
 cases z:decide (la<=16);·exact O7 b d z
 cases B:decide (0<=bu);·exact O7 b d B
 refine rh (S:=λc=>D V c/\QG c Y 0 (I mi)/\QG c Y 1 (I fi)/\QG c Y 2 (I la)/\QG c Y 3 (I bu)/\QG c Y 5 (.slice g f i)) ?_;have a:=o.out _ (Fu _ _).drew;refine pk 0 (J Y 0) a ?_;refine pz 1 (I mi) a ?_;refine pz 2 Ql a ?_;refine pk 3 Ql a ?_;refine pk 4 (J Y 0) a ?_;refine pz 5 (I mi) a ?_;refine pz 6 Ql a ?_;refine pk 7 Ql a ?_;refine pk 8 Ql a ?_;refine pk 9 (J Y 1) a ?_;refine pz 10 (I fi) a ?_;refine pz 11 Ql a ?_;refine pk 12 Ql a ?_;refine pk 13 Ql a ?_;refine pk 14 (J Y 1) a ?_;refine pz 15 (I fi) a ?_;refine pz 16 Ql a ?_;refine pk 17 Ql a ?_;refine pk 18 Ql a ?_;refine pk 19 (J Y 2) a ?_;refine pz 20 (I la) a ?_;refine pz 21 Ql a ?_;refine pk 22 Ql a ?_;refine pk 23 Ql a ?_;refine pk 24 (J Y 2) a ?_;refine pz 25 (I la) a ?_;refine pz 26 Ql a ?_;refine pk 27 Ql a ?_;refine pk 28 Ql a ?_;refine pk 29 (J Y 3) a ?_;refine pz 30 (I bu) a ?_;refine pz 31 Ql a ?_;refine pk 32 Ql a ?_;refine pk 33 Ql a ?_;refine pk 34 (J Y 3) a ?_;refine pz 35 (I bu) a ?_;refine po 36 λK' m=>?_;go_simp;refine(r _).mono ?_;rintro e t⟨rfl,l⟩;have q:=o.out _ (show D V t from⟨l.os,l.tape,l.output,l.size,l.block⟩);refine m _ _ ⟨q,?_⟩;have a:=q
 cases m:decide (bu<=283);·refine pz 37 Qk a ?_;refine pk 38 Qk a ?_;refine pk 39 Qk a ?_;refine ps 40 a ?_;refine ps 41 a ?_;refine ps 42 a ?_;refine ps 43 a ?_;refine pk 44 Qk a ?_;refine pk 45 Qk a ?_;refine ps 46 a ?_;refine ps 47 a ?_;refine ps 48 a ?_;refine pk 49 Qk a ?_;refine pk 50 Qk a ?_;refine bY ?_;go_wp2;go_ret;exact⟨by rw[<-b.out,GR (by simp at m;omega)];rfl,d _ a.1⟩
 refine pz 37 Ql a ?_;refine pk 38 Ql a ?_;refine pk 39 Ql a ?_;refine pk 40 (J Y 5) a ?_;refine pz 41 (.slice g f i) a ?_;refine pz 42 (I f) a ?_;cases m:decide ((f:Int)<=20000);·refine pz 43 Qk a ?_;refine pk 44 Qk a ?_;refine pk 45 Qk a ?_;refine ps 46 a ?_;refine ps 47 a ?_;refine ps 48 a ?_;refine pk 49 Qk a ?_;refine pk 50 Qk a ?_;refine bY ?_;go_wp2;go_ret;exact⟨by rw[<-b.out,GR (by simp at m;omega)];rfl,d _ a.1⟩
 refine pz 43 Ql a ?_;refine pk 44 Ql a ?_;refine pk 45 Ql a ?_;refine pk 46 (.slice A n j) a ?_;refine pz 47 (I n) a ?_;cases m:decide ((n:Int)<=300);·refine pz 48 Qk a ?_;refine pk 49 Qk a ?_;refine pk 50 Qk a ?_;refine bY ?_;go_wp2;go_ret;exact⟨by rw[<-b.out,GR (by simp at m;omega)];rfl,d _ a.1⟩
 refine pz 48 Ql a ?_;refine pk 49 Ql a ?_;refine pk 50 Ql a ?_;refine bY ?_;go_wp2;go_ret;exact⟨by rw[<-b.out,G8 (by simp only[Hj]at*;omega)];rfl,d _ a.1⟩
end
def Dr(cf:Cf)(e:Hs)(g p a:Nat):Option Nat->Option Nat×Hs
 |none=>(none,e)
 | some s=>if cf.bud<bz e.m 283+p then(none,e)
   else(some ((s+g)*1024),{e with m:=aT e.m (s+g) p,rg:=e.rg++[⟨s,g,p,1,a⟩],rel:=e.rel.filter λb=>b/1024<s || s+(g+p+1)<=b/1024})
theorem iJ(cf h){a:Nat}(ha:1016<a):av cf h a=if 96<aR a then(none,{h with used:=h.used+1})else Dr cf {h with used:=h.used+1} (1+dr cf h 3) (aR a) a (dV {h with used:=h.used+1} (1+dr cf h 3+aR a+1)):=by
 unfold av;rw[GO Z];dsimp only;split;·rfl
 cases dV {h with used:=h.used+1} (1+dr cf h 3+aR a+1)with
 |none=>rfl
 |some s=>rfl
theorem rz(B x cf h)(a:Nat)(W)(i:Sh B x cf h W)(c:l_ x)(hB:B<=W.heap.size)(t:Inv cf h)(hu:h.used<=1000000)(l:mE cf)(y:h.rg.length<=900)(A:h.rel.length<=900)(ha:1016<a)(d7:a<18446744073709551616):
  QA 72 #[J x.P 0,U a] W λe X=>∃b:Sm,e=.returned (jP (mQ (av cf h a).1) (C))/\b.P=x.P/\b.Q=x.Q/\l_ b/\Sh B b cf (av cf h a).2 X/\Bk B x.Q W X:=by
 have⟨v,f⟩:=Qa (av cf h a);rw[f];have j:=H (f.symm.trans (iJ cf h ha));have g4:=mW cf h (n:=3) Z;have⟨o,q⟩:=y7 (λV(hV:Sh B x cf h V)=>oQ B x cf h 3 V hV Z Z hu l.len l.wf) (λV=>qH a V d7);have g5:=gE a;obtain⟨w,b⟩:∃w:Hs,w={h with used:=h.used+1}:=⟨_,rfl⟩;rw[<-b]at j o;have I1:=H (show Inv cf w by rw[b];exact t.used _);have a8:w.rg.length<=900:=by rw[b];exact y
 have a9:w.rel.length<=900:=by rw[b];exact A
 have F:=H (λV(hV:Sh B x cf w V)n(d:1<=n)(g:n<=1000)=>uW B x cf w n V hV Z d g (λr d=>by have:=I1.rgs r d;omega));have⟨z,a0⟩:=y7 hB c;have g6:¬((a:Int)<=1016):=Z;have bA:D W (W.alloc Qt):=(Fu _ _).alloc (Fv _) _;have⟨g,r,k⟩:=Qe (i.below bA) (i.bkB (Bk.refl _ _ _) hB bA) (ao W Qt);have G:=i.ltQ;generalize dr cf h 3=d at*;generalize s:aR a=p at*;clear i t l b f y A bA s c;go_enter func72,ntmps72;go_wp2_with fail;generalize W.alloc _=V at g r k⊢;have⟨R,b⟩:=Qb W.heap.size;rw[<-b]at k⊢;have⟨HR,HQ⟩:=y7 b G;clear b G;refine(o _ g).mono ?_;rintro e V1⟨rfl,c,b⟩;have⟨S1,B1,X1⟩:=Qe c (g.bkP r z b) ((Ky.grown g.box rfl b:Ky (· =106) _ _).cells _ _ _ _ k ar);clear c b;go_wp2_with fail;refine(q _).mono ?_;rintro e V2⟨rfl,rfl⟩;by_cases b0:96<p
 ·have b6:(96:Int)<(p:Int):=Z;have HE:=H (j.trans (GP b0));go_wp2_with (refine eG X1 ?_);refine fM (aw X1 _) underlying46 ?_;rw[HE];exact⟨x,rfl,rfl,rfl,a0,S1.off81 X1 _,B1.loc (aj _ R _) (by rw[HR];exact Fv _) HQ z⟩
 have b6:¬((96:Int)<(p:Int)):=Z;have HE:=H (j.trans (GO b0));have g3:(p:Int)<=96:=Z;have g9:a<=98304:=Z;go_wp2_with fail;refine(q _).mono ?_;rintro e V3⟨rfl,rfl⟩;have K:=H (show QA 126 #[J x.P 0,I (1+(d:Int)+(p:Int)+1)] V3 λe X=>e=.returned (I (match dV w (1+d+p+1)with|some s=>(s:Int)|none=> -1))/\D V3 X by
  rw[show(1+(d:Int)+(p:Int)+1)=((1+d+p+1:Nat):Int) by omega];exact F _ S1 _ Z Z)
 clear F q;have I2:=I1;cases a5:dV w (1+d+p+1)with
 |none=>
  rw[a5]at K HE;go_wp2_with fail;refine K.mono ?_;rintro e V4⟨rfl,b4⟩;have⟨T,B4,X4,M⟩:=Qf (S1.below b4) (S1.bkB B1 z b4) (ae X1 b4) (show v=(none,w)from HE);clear b4;go_wp2_with (refine eG X4 ?_);refine fM (aw X4 _) underlying46 ?_;rw[M];exact⟨x,rfl,rfl,rfl,a0,T.off81 X4 _,B4.loc (aj _ R _) (by rw[HR];exact Fv _) HQ z⟩
 | some s=>
  have⟨r1,r2,_⟩:=gO a5;rw[a5]at K HE;go_wp2_with fail;refine K.mono ?_;rintro e V4⟨rfl,b4⟩;have⟨T,B4,X4⟩:=Qe (S1.below b4) (S1.bkB B1 z b4) (ae X1 b4);have h0:¬((s:Int)<0):=Z;have f:V4.cell? (Qz x.P 6)=some (J x.T 0):=T.cell 6 _ rfl;clear b4;by_cases c:cf.bud<bz w.m 283+p
  ·have M:=H (show v=(none,w)from HE.trans (GP c));have CM:=H (show QA 127 #[J x.T 0,I ((s:Int)+(1+(d:Int))),I (p:Int)] V4 λe w'=>e=.returned Qk/\D V4 w' by
    rw[show((s:Int)+(1+(d:Int)))=((s+(1+d):Nat):Int) by omega];exact jm x.T x.Q 283 (cf.bud:Nat) w.m (s+(1+d)) p V4 T.sp Z Z Z)
   clear c HE;go_wp2_with fail;refine CM.mono ?_;rintro e V5⟨rfl,b⟩;have⟨S5,B5,X5⟩:=Qe (T.below b) (T.bkB B4 z b) (ae X4 b);clear b f;go_wp2_with (refine eG X5 ?_);refine fM (aw X5 _) underlying46 ?_;rw[M];exact⟨x,rfl,rfl,rfl,a0,S5.off81 X5 _,B5.loc (aj _ R _) (by rw[HR];exact Fv _) HQ z⟩
  have M:=H (show v=(some ((s+(1+d))*1024),{w with m:=aT w.m (s+(1+d)) p,rg:=w.rg++[⟨s,1+d,p,1,a⟩],rel:=w.rel.filter λb=>b/1024<s || s+((1+d)+p+1)<=b/1024})from HE.trans (GO c));have CM:=H (show QA 127 #[J x.T 0,I ((s:Int)+(1+(d:Int))),I (p:Int)] V4 λe w'=>e=.returned Ql/\Sx x.T x.Q 283 (cf.bud:Nat) (aT w.m (s+(1+d)) p) w'/\Sf x.Q V4 w' by
   rw[show((s:Int)+(1+(d:Int)))=((s+(1+d):Nat):Int) by omega];exact iK x.T x.Q 283 (cf.bud:Nat) w.m (s+(1+d)) p V4 T.sp Z Z Z)
  clear c HE;go_wp2_with fail;refine CM.mono ?_;rintro e V5⟨rfl,g,f5⟩;obtain⟨j,c⟩:∃j:Hs,j={w with m:=aT w.m (s+(1+d)) p}:=⟨_,rfl⟩;have S5:=H (show Sh B x cf j V5 by rw[c];exact T.space (Fx z B4.bel.size) _ g f5);have⟨B5,X5⟩:=y7 (T.bkS B4 z f5) ((f5.ky T.sp).cells _ _ _ _ X4 ar);have N:=H (show v=(some ((s+(1+d))*1024),{j with rg:=j.rg++[⟨s,1+d,p,1,a⟩],rel:=j.rel.filter λb=>b/1024<s || s+((1+d)+p+1)<=b/1024}) by rw[c];exact M);have h3:j.rg.length<=900:=by rw[c];exact a8
  have d8:j.rel.length<=900:=by rw[c];exact a9
  have b7:=H (show∀b∈j.rel,b<289792 from λb hb=>by rw[c]at hb;have:=I1.rel b hb;omega);clear g f5 f c a8 a9;go_wp2;obtain⟨f,c⟩:∃f:Rg9,f=⟨s,1+d,p,1,a⟩:=⟨_,rfl⟩;have i:#[Value.int IntKind.u64 (((s:Int)+(1+(d:Int)))*1024),Value.int IntKind.i64 (s:Int),Value.int IntKind.i64 (1+(d:Int)+(p:Int)+1),Value.int IntKind.i64 (p:Int),Value.int IntKind.i64 1,Value.int IntKind.i64 (a:Int)]=(rC f).toArray:=by
   rw[c];simp[rC,Rg9.base,Rg9.ext]
  rw[i];have b8:=H c;clear c;have bA:D V5 (V5.alloc (.cells (rC f).toArray 115)):=(Fu _ _).alloc (Fv _) _;have⟨O,Q,B6,X6⟩:=Qf (ao V5 (.cells (rC f).toArray 115)) (S5.below bA) (S5.bkB B5 z bA) (ae X5 bA);have⟨ra,rc,a6⟩:=aK S5.rg;have A:=H (show∀g,x.rv.ownBlock=some g->g≠V5.heap.size from λg hg=>by
   have⟨_,c,hc⟩:=aF S5.rg hg;have:=ag hc;omega)
  generalize V5.alloc _=V6 at Q B6 X6 O⊢;generalize V5.heap.size=Y at O A⊢;clear bA i;have c9:V6.cell? (Qz x.P 9)=some (.slice ra j.rg.length rc):=by rw[<-a6];exact Q.cell 9 _ rfl
  have a1:(V6.alloc (Qp f)).drew.cell? (Qz x.P 9)=some (.slice ra j.rg.length rc):=NI (((Fu _ _).alloc (Fv _) _).drew) c9;have k7:D V6 (V6.alloc (Qp f)).drew:=((Fu _ _).alloc (Fv _) _).drew;have g7:(V6.alloc (Qp f)).drew.heap[V6.heap.size]?=some (.cells (rC f).toArray 115):=ao V6 (.cells (rC f).toArray 115);have⟨y,B7,X7,Y7⟩:=Qf (Q.below k7) (Q.bkB B6 z k7) (ae X6 k7) (ae O k7);have⟨v8,F,e8,o8,g8⟩:=wL _ B x.rv j.rg f _ 1 y.rg g7 Z (Fx z B7.bel.size);rw[a6]at e8;have⟨o,r,d9⟩:=aK o8;subst d9;have b9:=H (show(j.rg++[f]).length=j.rg.length+1 by simp);rw[b9]at e8 o8;have i:Ky (· =115) _ F:=Ky.grownO (λP hP=>by obtain⟨_,c,hc⟩:=aF y.rg hP;exact⟨c,115,_,hc,rfl⟩) g8;have q:F.heap[x.P]?=some (.cells (fN cf x j.used) 106):=i.cells _ _ _ _ y.box ar;have L:=H (show F.heap[Y]?=some (.cells (rC f).toArray 115) by
   rw[g8.block Y (ag Y7) (λe=>A.out Y e.symm rfl)];exact Y7)
  have X8:=H (i.cells _ _ _ _ X7 ar);have⟨cq,k⟩:=y.qrow;have B8:=H (B7.trans (Bk.ofGrownO (λP hP=>by obtain⟨w,c,hc⟩:=aF y.rg hP;exact⟨w,c,115,_,hc,.inr (.inr (.inr (.inl rfl))),ar,ar⟩) k (Fx z B7.bel.size) g8));have q8:F.cell? (Qz x.P 9)=some (.slice ra j.rg.length rc):=by rw[<-a6];simp[QC,q,fN]
  have f8:F.frozen? (Qz x.P 9)=false:=by simp[QD,q]
  have l:Ky (· =106) F (F.setCell (Qz x.P 9) (.slice o (j.rg.length+1) r)):=Ky.grown q rfl (au (al F x.P) 9 (.slice o (j.rg.length+1) r));have P9:(F.setCell (Qz x.P 9) (.slice o (j.rg.length+1) r)).heap[x.P]?=some (.cells (fN cf {x with rv:=.slice o (j.rg.length+1) r,ov:=x.ov,lv:=x.lv} j.used) 106):=by
   simp[World.setCell,FD,q,fN]
  have S9:=H (show Sh B {x with rv:=.slice o (j.rg.length+1) r,ov:=x.ov,lv:=x.lv} cf {j with rg:=j.rg++[f],row:=j.row,rel:=j.rel} (F.setCell (Qz x.P 9) (.slice o (j.rg.length+1) r))from
   y.books ((i.more (λt ht=>.inr (.inl ht))).trans (l.more (λt ht=>.inl ht)))  (.slice o (j.rg.length+1) r) x.ov x.lv _ _ _ P9 (by rw[b9];exact ai o8 l ar) (ai (ai y.ro i ar) l ar) (ai (ai y.rl i ar) l ar))
  have⟨Y9,X9⟩:=y7 (l.cells _ _ _ _ L ar) (l.cells _ _ _ _ X8 ar);have B9:=H (show Bk B x.Q W (F.setCell (Qz x.P 9) (.slice o (j.rg.length+1) r)) by
   refine B8.trans (Bk.ofGrown q (i.cells _ _ _ _ k ar) (.inl rfl) ar ar y.bp (Fx z B8.bel.size) (au (al F x.P) 9 (.slice o (j.rg.length+1) r))))
  have G:=H (show∀V:World,V.heap[Y]?=some (.cells (rC f).toArray 115)->V.cell? (Qz Y 0)=some (U f.base)/\V.cell? (Qz Y 1)=some (I f.first)/\V.cell? (Qz Y 2)=some (I f.ext)/\V.cell? (Qz Y 3)=some (I f.pages)/\V.cell? (Qz Y 4)=some (I f.st)/\V.cell? (Qz Y 5)=some (I f.rq)from λV hV=>by
   refine⟨?_,?_,?_,?_,?_,?_⟩<;>(simp only[QC,hV];rfl))
  clear o8 g8 i q l P9 k k7 g7;go_cut [10] (λa w'=>a=J Y 0/\w'=F.setCell (Qz x.P 9) (.slice o (j.rg.length+1) r));case first=>
   refine rh (S:=λX=>X.cell? (Qz Y 0)=some (U f.base)/\X.cell? (Qz Y 1)=some (I f.first)/\X.cell? (Qz Y 2)=some (I f.ext)/\X.cell? (Qz Y 3)=some (I f.pages)/\X.cell? (Qz Y 4)=some (I f.st)/\X.cell? (Qz Y 5)=some (I f.rq)) ?_;have i:=G.out _ O;(iterate 4 (refine py i ?_;simp only[f0,f1,Nat.reduceAdd,lz,l0,ls]));refine pz 5 (.agg #[U f.base,I f.first,I f.ext,I f.pages,I f.st,I f.rq]) i ?_;refine lZ [4,6] λi9 l=>?_;rcases(by simpa using l:i9=4\/i9=6)with l|l
   ·subst l;refine cw λK' k=>?_;go_simp;refine k _ _ ⟨i,?_⟩;clear k K';refine po 6 λK' k=>?_
    go_simp;have q:=G.out _ Y7;refine k _ _ ⟨q,?_⟩;clear i;have i:=q;clear k K';refine gu 7 ?_;refine fq rfl rfl _ _ rfl rfl rfl rfl e8 ⟨G _ L,?_⟩;clear i;have i:=G.out _ L;refine pk 8 (J x.P 0) i ?_;refine pk 9 (J x.P 9) i ?_;refine po 10 λK' k=>?_;go_simp;refine k _ _ ⟨G _ Y9,?_⟩;clear i;clear k K';refine bY ?_;go_wp2_with fail
    go_meet;case rel=>exact⟨rfl,rfl⟩
   subst l;refine cw λK' k=>?_;go_simp;have q:=G.out _ Y7;refine k _ _ ⟨q,?_⟩;clear i;have i:=q;clear k K';refine po 4 λK' k=>?_
   go_simp;refine k _ _ ⟨i,?_⟩;clear k K';refine gu 7 ?_;refine fq rfl rfl _ _ rfl rfl rfl rfl e8 ⟨G _ L,?_⟩;clear i;have i:=G.out _ L;refine pk 8 (J x.P 0) i ?_;refine pk 9 (J x.P 9) i ?_;refine po 10 λK' k=>?_;go_simp;refine k _ _ ⟨G _ Y9,?_⟩;clear i;clear k K';refine bY ?_;go_wp2_with fail
   go_meet;case rel=>exact⟨rfl,rfl⟩
  case rest=>
  obtain⟨rfl,rfl⟩:=hcut;clear c9 a1 q8 f8 e8;obtain⟨l,i⟩:∃l:Sm,l={x with rv:=.slice o (j.rg.length+1) r,ov:=x.ov,lv:=x.lv}:=⟨_,rfl⟩;have L:l.P=x.P:=by rw[i]
  have O:l.Q=x.Q:=by rw[i]
  have Q:l.ov=x.ov:=by rw[i]
  have c0:=H (show∀g,l.ov.ownBlock=some g->g<(F.setCell (Qz x.P 9) (.slice o (j.rg.length+1) r)).heap.size from λg hg=>by
   rw[<-i]at S9;have⟨_,c,hc⟩:=aF S9.ro hg;exact ag hc)
  obtain⟨y,k⟩:∃y:Hs,y={j with rg:=j.rg++[f],row:=j.row,rel:=j.rel}:=⟨_,rfl⟩;obtain⟨A,q⟩:∃A:Nat->Bool,A=λb=>decide (b/1024<s) || decide (s+((1+d)+p+1)<=b/1024):=⟨_,rfl⟩
  have e2:=H (show v=(some ((s+(1+d))*1024),{y with rel:=y.rel.filter A}) by
   rw[k,q,N,b8])
  have c1:=H (show y.rel=j.rel by rw[k]);rw[<-k,<-i]at S9;have⟨e3,a1,a2⟩:=Qe q L O;generalize F.setCell (Qz x.P 9) (.slice o (j.rg.length+1) r)=V9 at S9 B9 X9 Y9 c0⊢;clear i k q L O Q;have⟨la,lc,i⟩:=aK S9.rl;have⟨L,k⟩:=Qa y.rel.length;have h4:L<=900:=by rw[<-k,c1];exact d8
  have e4:V9.cell? (Qz x.P 11)=some (.slice la L lc):=by rw[<-k,<-i,<-a1.out];exact S9.cell 11 _ rfl
  have⟨c2,HL⟩:=y7 i k;have YE:=H (show∀V:World,V.heap[Y]?=some (.cells (rC f).toArray 115)->V.cell? (Qz Y 0)=some (U (((s+(1+d))*1024:Nat):Int))/\V.cell? (Qz Y 2)=some (I (1+(d:Int)+(p:Int)+1))from λV hV=>by
   rw[b8]at hV;refine⟨?_,?_⟩;·simp only[QC,hV];rfl
   simp only[QC,hV];simp[rC,Rg9.ext])
  have⟨i0,c3,c4,c5,c7⟩:=G0 iY;clear i k;go_wp2;go_loopw [11,124] (λv i a=>∃k:Nat,k<=L/\i=I k/\Hid (a.ownsRow V9.heap.size 27 1 v ((y.rel.take k).filter A).length (Us ((y.rel.take k).filter A)))/\Hid (D V9 a)) (λ_ i _=>L-(intOf i).toNat);case atStart=>exact⟨0,FH _,rfl,H ⟨rfl,.inl ⟨rfl,rfl⟩⟩,H (Fu _ _)⟩
  case round=>
   clear e4;obtain⟨k,hk,rfl,OQ,BQ⟩:=hrel;have⟨N,O,e5⟩:=aK OQ;subst e5;by_cases e7:k<L
   ·obtain⟨b,hb⟩:∃b,y.rel[k]?=some b:=⟨_,Fy (by rw[HL];exact e7)⟩;obtain⟨G2,rfl⟩:=cr (c2.out▸S9.rl) (by rw[HL];omega);have d0:=NI BQ (bC (c2.out▸S9.rl) k (U b) (by simp[Us,hb]));have d2:b<289792:=b7.out b (by rw[<-c1.out];exact FM hb);have⟨_,y2⟩:=YE.out _ (ae Y9 BQ);have HN:=H (show(y.rel.take (k+1)).filter A=(y.rel.take k).filter A++(if A b then[b]else[]) by
     rw[F_,hb,Hl];simp only[IQ,List.filter_cons,List.filter_nil])
    have a7:((y.rel.take k).filter A).length<=900:=by
     have:=Hb A (y.rel.take k);have h2:=List.length_take_le k y.rel;omega
    generalize (y.rel.take k).filter A=q at*;have G:A b=(decide (b/1024<s) || decide (s+((1+d)+p+1)<=b/1024)):=(by rw[e3]);have⟨O8,B8⟩:=y7 (OQ.alloc (.cells #[U b] 27)) (BQ.alloc BQ.size (.cells #[U b] 27));clear hb;by_cases q1:b/1024<s
    ·have c8:(b:Int)/1024<(s:Int):=Z;have A2:=H (show(if A b then[b]else[])=[b] by rw[G,G8 q1];rfl);clear G;go_wp2_with (at_builtin;refine Ib _ rfl _ _ 39 rfl V9.heap.size 27 i0 (U 0) 1 8 underlying39 c3 c4 c5 c7 rfl Z _ _ _ rfl O8 _ 1 1 [U b] rfl rfl ?hc ?h1c ?b1 ?b2 ?b3 ?_);(case hc=>exact ek _ _ _ _ bH);(case h1c=>intro u hu;simp at hu;subst hu;rfl);(case b1=>unfold maxLen;omega);(case b2=>omega);(case b3=>exact B8.size);intro v1 w9 Q a3 _;have a4:=H (IT Q (B8.grown a3 B8.size (cI O8)));clear Q a3;go_wp2;go_roundw;(case rel=>exact⟨k+1,Z,aY,H (by rw[HN,A2,FC,k_];exact a4.1),H a4.2⟩);case measure=>exact QE
    have c8:¬((b:Int)/1024<(s:Int)):=Z;by_cases q2:s+((1+d)+p+1)<=b/1024
    ·have d1:(s:Int)+(1+(d:Int)+(p:Int)+1)<=(b:Int)/1024:=Z;have A2:=H (show(if A b then[b]else[])=[b] by rw[G,G8 q2,Bool.or_true];rfl);clear G;go_wp2_with (at_builtin;refine Ib _ rfl _ _ 39 rfl V9.heap.size 27 i0 (U 0) 1 8 underlying39 c3 c4 c5 c7 rfl Z _ _ _ rfl O8 _ 1 1 [U b] rfl rfl ?hcB ?h1cB ?b1B ?b2B ?b3B ?_);(case h1cB=>rfl);(case b1B=>unfold maxLen;omega);(case b2B=>omega);(case b3B=>(have:=BQ.size;omega));intro v1 w9 Q a3 _;have a4:=H (IT Q (B8.grown a3 B8.size (cI O8)));clear Q a3;go_wp2;go_roundw;(case rel=>exact⟨k+1,Z,aY,H (by rw[HN,A2,FC,k_];exact a4.1),H a4.2⟩);case measure=>exact QE
    have d1:¬((s:Int)+(1+(d:Int)+(p:Int)+1)<=(b:Int)/1024):=Z;have A2:=H (show(if A b then[b]else[])=[] by rw[G,GR q1,GR q2];rfl);clear G;go_wp2;go_roundw;(case rel=>exact⟨k+1,Z,aY,H (by rw[HN,A2,Gl];exact OQ),BQ⟩);case measure=>exact QE
   obtain rfl:k=L:=Z;have g0:=H (show y.rel.take k=y.rel from Ge (by rw[HL];exact Fv _));rw[g0]at OQ⊢;have⟨q,a4,c8,d1⟩:=Qf (S9.below BQ) (show Bk B x.Q W wr from a2.out▸(S9.bkB (a2.out▸B9.out) z BQ)) (ae X9 BQ) (ae Y9 BQ);have h6:wr.cell? (Qz x.P 11)=some l.lv:=(by rw[<-a1.out];exact q.cell 11 _ rfl);have f11:wr.frozen? (Qz x.P 11)=false:=(by rw[<-a1.out];exact q.boxF 11);generalize a7:(y.rel.filter A).length=Q at OQ⊢;have g2:=H a7;clear a7;have G:Ky (· =106) wr (wr.setCell (Qz l.P 11) (.slice N Q O)):=Ky.grown q.box rfl (au (al wr l.P) 11 (.slice N Q O));have d2:(wr.setCell (Qz l.P 11) (.slice N Q O)).heap[l.P]?=some (.cells (fN cf {l with rv:=l.rv,ov:=l.ov,lv:=.slice N Q O} y.used) 106):=by
    rw[q.boxSet];rfl
   have d3:=H (show Sh B {l with rv:=l.rv,ov:=l.ov,lv:=.slice N Q O} cf {y with rg:=y.rg,row:=y.row,rel:=y.rel.filter A} (wr.setCell (Qz l.P 11) (.slice N Q O))from
    q.books (G.more (λt ht=>.inl ht)) l.rv l.ov (.slice N Q O) _ _ _ d2 (ai q.rg G ar) (ai q.ro G ar) (by rw[g2];exact dm (ai OQ G ar) (Fx z B9.bel.size)))
   have⟨d4,a3,d5⟩:=Qe (show Bk B l.Q W (wr.setCell (Qz l.P 11) (.slice N Q O))from q.bkP (a2.out▸a4.out) z (au (al wr l.P) 11 (.slice N Q O))) (G.cells _ _ _ _ c8 ar) (G.cells _ _ _ _ d1 ar);have d6:=H (show l_ {l with rv:=l.rv,ov:=l.ov,lv:=.slice N Q O}from λg hg a=>by
    have w:=c0.out g hg;have h2:=(aF OQ a).1;omega)
   have⟨y0,_⟩:=YE.out _ d5;have e9:wr.setCell (Qz l.P 11) (.slice N Q O)=wr.setCell (Qz x.P 11) (.slice N Q O):=(by rw[a1]);rw[e9]at d3 d4 a3 d5 y0;clear e9;clear G d2;go_wp2_with (refine eG a3 ?_);refine fM (aw a3 _) underlying46 ?_;rw[e2];exact⟨{l with rv:=l.rv,ov:=l.ov,lv:=.slice N Q O},rfl,a1,a2,d6,d3.off81 a3 _,(a2.out▸d4.out).loc (aj _ R _) (by rw[HR];exact Fv _) HQ z⟩
section
variable {B:Nat}{x:Sm}{cf:Cf}{h:Hs}{W W0:World}
structure Br(x:Sm)(B:Nat)(W W':QM):Prop where
 bk:Bk B x.Q W W'
 rf:∀(g:Nat)(c:Array QN)(t:QO)(f:Nat×Nat),W.heap[g]?=some (.cells c t f)->g≠x.G->t≠179->t≠5->W'.heap[g]?=some (.cells c t f)
theorem Br.refl(x B W):Br x B W W:=⟨Bk.refl _ _ _,λ_ _ _ _ h _ _ _=>h⟩
theorem Sh.brB{W'}(a:Sh B x cf h W)(k:Br x B W0 W)(d:B<=W0.heap.size)(b:D W W'):Br x B W0 W':=
 ⟨a.bkB k.bk d b,λg c t f e i j l=>by
  have:=k.rf g c t f e i j l
  rw[b.block g (ag this)];exact this⟩
theorem Sh.brG(a:Sh B x cf h W)(k:Br x B W0 W)(b:B<=W0.heap.size)(i:Nat)(v:QN):Br x B W0 (W.setCell (Qz x.G i) v):=
 ⟨a.bkG k.bk b i v,λg c t f d e j l=>by
  have:=k.rf g c t f d e j l
  rw[(au (al W x.G) i v).block g (ag this) bG];exact this⟩
theorem Sh.brS{W'}(a:Sh B x cf h W)(k:Br x B W0 W)(j:B<=W0.heap.size)(f:Sf x.Q W W'):Br x B W0 W':=
 ⟨a.bkS k.bk j f,λg c t b l m d i=>(f.ky a.sp).cells g c t b (k.rf g c t b l m d i) (by rintro(e|e);exact d e;exact i e)⟩
theorem qO(B x cf h)(c s j:Nat)(W)(k:Sh B x cf h W)(r:B<=W.heap.size)(L:xl h)(t:c<12)(d:s<6)(hj:j<aM c):
  QA 131 #[J x.P 0,I c,I s,I j] W λe R=>e=QJ (.tuple #[])/\Sh B x cf (bK h c s j) R/\Br x B W R:=by
 have⟨K,M,b⟩:=Oa t d hj;obtain⟨a,i⟩:∃a:Hs,a={h with st:=aE h.st c s j 3}:=⟨_,rfl⟩;have u:=H (λ(V:QM)(f:Sh B x cf h V)=>show Sh B x cf a (V.setCell (Qz x.G (K*6+4)) (I 3)) by
  have:=f.setSt M 3;rw[b]at this;rw[i];exact this)
 have a0:=H (show B<=x.G by
  rcases k.sl.2 with⟨e,_⟩|⟨g,l,n,e,o,_⟩;·simp at e
  simp at e;omega)
 have g:∀V,Sh B x cf h V\/Sh B x cf a V->V.cell? (Qz x.P 7)=some (Vl x.G 1062 x.gc):=λV f=>by
  rcases f with f|f;·exact f.cell 7 _ rfl
  exact f.cell 7 _ rfl
 have S:=H g;have a1:=g W (.inl k);have HS:=H k;have F:=H b;have T:=H i;clear k g b i;go_enter func131,ntmps131;go_wp2;go_loopw [15] (λi wr=>∃k:Nat,k<=1062/\i=I k/\Hid (if K<k then Sh B x cf a wr else Sh B x cf h wr)/\Hid (Br x B W wr)) (λi _=>1062-(intOf i).toNat);case atStart=>exact⟨0,FH _,rfl,H (by rw[GO Z];exact HS),H (Br.refl _ _ _)⟩
 case round=>
  obtain⟨k,hk,rfl,w,N⟩:=hrel;by_cases o:k<1062
  ·obtain⟨b,g,p⟩:∃b:Hs,Sh B x cf b wr/\(Sh B x cf h wr\/Sh B x cf a wr):=by
    have:=w.out;split at this;·exact⟨a,this,.inr this⟩
    exact⟨h,this,.inl this⟩
   have⟨d0,d1,d2,d3,d4,d5⟩:=g.slot o;have q:D wr (wr.alloc (.cells #[I ((sA k).1:Nat),I ((sA k).2.1:Nat),I ((sA k).2.2:Nat),U (gt k:Nat),I (dC b k),I (fJ b k)] 109)):=(Fu _ _).alloc (Fv _) _;have e7:(wr.alloc (.cells #[I ((sA k).1:Nat),I ((sA k).2.1:Nat),I ((sA k).2.2:Nat),U (gt k:Nat),I (dC b k),I (fJ b k)] 109)).cell? (Qz x.P 7)=some (Vl x.G 1062 x.gc):=NI q (S wr p);have G:Hid (Br x B W (wr.alloc (.cells #[I ((sA k).1:Nat),I ((sA k).2.1:Nat),I ((sA k).2.2:Nat),U (gt k:Nat),I (dC b k),I (fJ b k)] 109))):=g.brB N r q;by_cases v:k=K
   ·subst v;have l:=H (show Sh B x cf h (wr.alloc (.cells #[I ((sA k).1:Nat),I ((sA k).2.1:Nat),I ((sA k).2.2:Nat),U (gt k:Nat),I (dC b k),I (fJ b k)] 109)) by
     have:=w.out;rw[GO Z]at this;exact this.below q)
    have n:=H (u _ l);have y:=H (l.brG G r (k*6+4) (I 3));have v4:=(l.slot o).2.2.2.2.1;have f4:=l.slotF (k*6+4);have e1:(sA k).1=c:=(by rw[F]);have A:(sA k).2.1=s:=(by rw[F]);have X:(sA k).2.2=j:=(by rw[F]);generalize dC b k=z at*;generalize dC h k=z0 at*;generalize fJ b k=Y at*;generalize gt k=z3 at*;generalize (sA k).2.2=Q at*;generalize (sA k).1=O at*;generalize (sA k).2.1=P at*;subst e1 A X;clear q g p;go_wp2;go_roundw;(case rel=>exact⟨k+1,Z,aY,H (by rw[GP Z];exact n),y⟩);case measure=>exact QE
   have l:=H (show(if K<k+1 then Sh B x cf a (wr.alloc (.cells #[I ((sA k).1:Nat),I ((sA k).2.1:Nat),I ((sA k).2.2:Nat),U (gt k:Nat),I (dC b k),I (fJ b k)] 109))else Sh B x cf h (wr.alloc (.cells #[I ((sA k).1:Nat),I ((sA k).2.1:Nat),I ((sA k).2.2:Nat),U (gt k:Nat),I (dC b k),I (fJ b k)] 109))) by
    have:=w.out;by_cases A:K<k;·rw[GP A]at this;rw[GP Z];exact this.below q
    rw[GO A]at this;rw[GO Z];exact this.below q)
   have A:¬((sA k).1=c/\(sA k).2.1=s/\(sA k).2.2=j):=λe=>v (v_ o M (by rw[F,Prod.ext_iff,Prod.ext_iff];exact e))
   generalize dC b k=z at*;generalize fJ b k=Y at*;generalize gt k=z3 at*;generalize (sA k).2.2=Q at*;generalize (sA k).1=O at*;generalize (sA k).2.1=P at*;clear q g p;by_cases g:O=c
   ·subst g;by_cases p:P=s
    ·subst p;have q:((Q:Int)==(j:Int))=false:=bG;go_wp2;go_roundw;(case rel=>exact⟨k+1,Z,aY,l,G⟩);case measure=>exact QE
    have q:((P:Int)==(s:Int))=false:=bG;go_wp2;go_roundw;(case rel=>exact⟨k+1,Z,aY,l,G⟩);case measure=>exact QE
   have p:((O:Int)==(c:Int))=false:=bG;go_wp2;go_roundw;(case rel=>exact⟨k+1,Z,aY,l,G⟩);case measure=>exact QE
  obtain rfl:k=1062:=Z;have g:=H (show Sh B x cf a wr by have:=w.out;rw[GP M]at this;exact this);have z:xl a:=by
   rw[T];intro b l p;show 0<=aE h.st c s j 3 b l p/\aE h.st c s j 3 b l p<=4;unfold aE;split;·omega
   exact L b l p
  have G:=H (vW z t d);have X:=H (show bK h c s j=if(freeS a c s).length=aM c then {a with m:=bQ a.m (aD c s) (dI c)}else a by
   rw[T];rfl)
  have l:D wr (wr.alloc (.cells #[I 1,I 2,I 4] 3)):=(Fu _ _).alloc (Fv _) _;have q:=H (yC B x cf a c s (some (Qz wr.heap.size 0)) 3 3 [1,2,4] _ (g.below l) (.inr ⟨wr.heap.size,rfl,rowOf (ao _ _)⟩) rfl ar Z);go_wp2_with fail;refine q.mono ?_;rintro e A⟨v,rfl,O,p⟩;obtain⟨va,vc,rfl⟩:=aK O;have n:=H ((g.below l).below p);have b:=az l p;have y:Hid (Br x B W A):=g.brB N r b;clear O p l b q g;by_cases b:(freeS a c s).length=aM c
  ·have O:=G.2 b;rw[O];have g:=H (X.trans (GP b));have P:A.cell? (Qz x.P 6)=some (J x.T 0):=n.cell 6 _ rfl;have Y:=H (λV=>mc c s V t d);have CG:=H (λV=>yh c V t);have hp:=cD t d;have CD:=H (λV(f:D A V)=>qJ x.T x.Q 283 (cf.bud:Nat) a.m (aD c s) (dI c) V ((n.below f).sp) Z Z);generalize aD c s=sp at*;generalize dI c=pn at*;clear G S u w N;go_wp2
   go_region_with (first
    |(go_at_call 119;refine(Y _).mono ?_;rintro e l⟨rfl,q⟩;have Q:D A l:=⟨q.os,q.tape,q.output,q.size,q.block⟩;have a2:=NI Q P)
    |(go_at_call 118;refine(CG _).mono ?_;rintro e V2⟨rfl,p⟩;have l:D A V2:=az Q p;have a2:=NI l P)
    |(go_at_call 132;refine(CD _ l).mono ?_;rintro e V3⟨rfl,x3,f3⟩))
   all_goals(
    have SF:=H (IT ((n.below l).space (Fx (Fx r y.bk.bel.size) l.size) _ x3 f3) ((n.below l).brS (n.brB y r l) r f3))
    clear x3 f3 Q l q p P Y CG CD
    go_wp2
    go_end0
    rw[g]
    exact⟨rfl,SF⟩)
  have g:=H (X.trans (GO b));have O:¬jc a c s [1,2,4] 1062=[]:=λe=>b (G.1 e)
  have l:(((jc a c s [1,2,4] 1062).length:Int)==0)=false:=by
   simp;exact O
  generalize (jc a c s [1,2,4] 1062).length=q at*;go_wp2;go_end0;rw[g];exact⟨rfl,n,y⟩
end
section
variable {r:Rg9}{B Q cap g i j n:Nat}{cf:Cf}{h:Hs}{W W':World}{v:Value}{m:Nat->Option (Bool×List Int)}{is l:List Nat}
theorem mo:∀k,bm (λ_=>none) 0 k=0
 |0=>rfl
 |k+1=>by simp[bm,mo k]
theorem ty(n bud)(w:QM):
  QA 92 #[I n,I bud] w λe a=>∃S M,e=QJ (J S 0)/\Im S M 0 n bud (λ_=>none) a/\D w a/\w.heap.size<=S/\w.heap.size<=M/\S≠M:=by
 have b:=@run_makeMap prog;go_enter func92,ntmps92;go_wp2;go_ret;refine⟨w.heap.size+1,w.heap.size,rfl,⟨by rw[<-aO w (.map #[] 0)];exact ao _ _,.map [],((World.ownsMap_made w prog 3 ev).alloc _).mono (FH _),by rw[mo];rfl,λk c=>?_,λk c=>?_⟩,((Fu _ _).alloc (Fv _) _).alloc (by rw[aO];omega) _,Z,Z,Z⟩;·rfl
 rfl
theorem tK(x y:Nat)(j:x<18446744073709551616)(k:y<18446744073709551616)(w:QM):
  QA 184 #[U x,U y] w λe m=>e=QJ (.tuple #[U ((x*y/18446744073709551616:Nat):Int),U ((x*y%18446744073709551616:Nat):Int)])/\m=w:=by
 have⟨n,l,o,c⟩:=Lib.mul64_hi x y j k;have q:=CT (a:=x/4294967296) (b:=y/4294967296) Z Z;have r:=CT (a:=x/4294967296) (b:=y%4294967296) Z Z;have s:=CT (a:=x%4294967296) (b:=y/4294967296) Z Z;have d:x/4294967296*(y/4294967296)<18446744073709551616:=Z;have f:x/4294967296*(y%4294967296)<18446744073709551616:=Z;have g:x%4294967296*(y/4294967296)<18446744073709551616:=Z;have i:x/4294967296*(y/4294967296)+(x/4294967296*(y%4294967296)+x%4294967296*(y%4294967296)/4294967296)/4294967296<18446744073709551616:=Z;have p:x/4294967296*(y/4294967296)+(x/4294967296*(y%4294967296)+x%4294967296*(y%4294967296)/4294967296)/4294967296+((x/4294967296*(y%4294967296)+x%4294967296*(y%4294967296)/4294967296)%4294967296+x%4294967296*(y/4294967296))/4294967296<18446744073709551616:=Z;go_enter func184,ntmps184;go_wp2;simp only[Mul64.maskN x j,Mul64.maskN y k,Mul64.divN,Mul64.mulN,Mul64.addN,Hv _ n,Hv _ f,Hv _ l,Mul64.maskN _ l,Hv _ g,Hv _ o,Hv _ d,Hv _ i,Hv _ p,Mul64.wrapM (x*y)];rw[c]
 go_ret2
 exact QB
theorem AT(m:Nat)(c:m<=16)(w:QM):
  QA 199 #[U 1,U m] w λe b=>e=QJ (.tuple #[U 0,U m])/\b=w:=by
 have a:=H (tK 1 m Z Z w);rw[GF,Nat.div_eq_of_lt Z,H4 Z]at a;go_enter func199,ntmps199;go_wp2_with fail;refine(a).mono ?_;rintro e b⟨rfl,rfl⟩;go_wp2
 go_ret2
 exact QB
theorem vR(g l a cap:Nat)(c:l<=cap):∀w:QM,(Instr.slice 28 (Vl g a cap) none (some (I l)) none).run prog w=.ok (Vl g l cap) w:=by
 intro w;have h:=run_slice_h (P:=prog) w 28 (some (Qz g 0)) a cap underlying28 .i64 (l:Int) Z Z;have b:∀w:QM,(sizeOf (prog.elem 28)).run prog w=.ok 1 w:=λw=>E
 rw[h,b];simp[sliced,Result.andThen,Addr.add]
theorem mY(m k a:Nat)(b:List Int)(c:b.length=m)(e:k+a<=m)(d:b.take k=List.replicate k (-1)):∃c:List Int,splice (Ns .i64 b) k (Ns .i64 (List.replicate a (-1)))=Ns .i64 c/\c.length=m/\c.take (k+a)=List.replicate (k+a) (-1):=by
 refine⟨b.take k++(List.replicate a (-1)++b.drop (k+a)),?_,?_,?_⟩;·simp[splice,Ns]
 ·simp;omega
 rw[d,<-GJ,List.replicate_append_replicate,Iz bH,Ge bH]
theorem vB(q)(m:Nat)(w)(R:m<=16)(p:RowV w q 3 (Ns .i64 [-1])):
  QA 151 #[Vl q 1 1,I m] w λe y=>∃g,e=QJ (Vl g m m)/\RowV y g 3 (Ns .i64 (List.replicate m (-1)))/\w.heap.size<=g/\D w y:=by
 have T:=H (AT m R w);have V:=λW=>BF m Z W
 have⟨g,n⟩:=Qb w.heap.size;have s:D w (w.alloc (.cells (madeCells #[I 0] m) 3)):=(Fu _ w).alloc (Fv _) _;have u:(w.alloc (.cells (madeCells #[I 0] m) 3)).heap[g]?=some (.cells (Ns .i64 (List.replicate m 0)).toArray 3):=by rw[<-si,n];exact dD _ _
 have⟨c,t⟩:=Qb (Nat.min 1 m);have b:c=min 1 m:=t;have⟨N,o,a,k⟩:=ii (w.alloc (.cells (madeCells #[I 0] m) 3)) (some (Qz g 0)) (some (Qz q 0)) m m 1 1 g 0 (Ns .i64 (List.replicate m 0)) u (Ns .i64 (List.replicate c (-1))) (by rw[NM,Gc];exact t) (λO=>⟨rfl,_,rfl,λj v hv=>by
  have e1:c=1:=by rw[NM,Gc]at O;omega
  rw[e1]at hv;have:=mU (p.below s p.lt) 0 1 bH j v (by simpa using hv);exact this⟩) (by rw[NM,NM];simp;omega) (jU _ _)
 rw[show(Ns .i64 (List.replicate c (-1))).length=c by rw[NM,Gc]]at o;have⟨B,f,l,d⟩:=mY m 0 c (List.replicate m 0) bH Z bH;rw[f]at a;rw[Oi]at d;have⟨F,G⟩:=y7 (show D w N/\N.heap[g]?=some (.cells (Ns .i64 B).toArray 3)/\B.length=m/\B.take c=List.replicate c (-1)from⟨below_grown s k Z,a,l,d⟩) n;have t1:¬((m:Int)<0):=Z;have t2:¬((9223372036854775807:Int)<(m:Int)):=Z;have P:=H b;clear s u k a f l d p t b;go_enter func151,ntmps151;go_wp2_with fail;refine(T).mono ?_;rintro e y⟨rfl,rfl⟩;rw[n]at o;clear n;go_wp2;rw[<-G.out];go_loopw [8] (λi wr=>∃(k:Nat)(s:List Int),k<=m/\(0<m->0<k)/\i=I k/\Hid (D y wr/\wr.heap[g]?=some (.cells (Ns .i64 s).toArray 3)/\s.length=m/\s.take k=List.replicate k (-1))) (λi _=>m-(intOf i).toNat);case atStart=>exact⟨c,B,by have:=P.out;omega,by have:=P.out;omega,rfl,F⟩
 case round=>
  obtain⟨k,s,hk,X,rfl,b⟩:=hrel;by_cases K:k<m
  ·have⟨a,n⟩:=Qb (Nat.min k (m-k));have u:a=min k (m-k):=n;have⟨dp,Y,z⟩:=iy g k m m Z (Fv _);have A:=z K;subst A;have a0:=vR g k m m Z;have⟨Q,L,x,t⟩:=ii wr.drew (some (Qz g k)) (some (Qz g 0)) (m-k) (m-k) k m g k (Ns .i64 s) b.2.1 (Ns .i64 (List.replicate a (-1))) (by rw[NM,Gc];exact n) (λO=>⟨rfl,_,rfl,λj v hv=>by
    have p:RowV wr.drew g 3 (Ns .i64 s):=rowOf b.2.1;refine mU p 0 a (by rw[b.2.2.1];omega) j v ?_;rw[IE];have:s.take a=List.replicate a (-1):=by
     have e:=congrArg (List.take a) b.2.2.2;rw[List.take_take,List.take_replicate,Hz Z]at e;exact e
    rw[this];exact hv⟩) (by rw[NM,NM,Gc,b.2.2.1];omega) (jU _ _)
   rw[show(Ns .i64 (List.replicate a (-1))).length=a by rw[NM,Gc]]at L;have⟨p,f,l,d⟩:=mY m k a s b.2.2.1 Z b.2.2.2;rw[f]at x;have HN:=H (show D y Q/\Q.heap[g]?=some (.cells (Ns .i64 p).toArray 3)/\p.length=m/\p.take (k+a)=List.replicate (k+a) (-1)from⟨below_grown b.1.drew t (by have:=G.out;omega),x,l,d⟩);have M:0<a/\k+a<=m:=(by have:=X Z;omega);have hw:IntKind.i64.wrap ((k:Int)+(a:Int))=(k:Int)+(a:Int):=(by rw[Hh];omega);clear b t x f l d n u z o;go_wp2;refine rh (S:=λ_=>True) ?_;have n:=trivial;(iterate 7 (refine py n ?_;simp only[f0,f1,Nat.reduceAdd,lz,l0,ls]));refine cn (r:=7) E ?_;refine dM rfl E (λK' t=>?_);go_simp;refine t _ _ ⟨trivial,?_⟩;clear t K';refine pz 8 (I ((k:Int)+(a:Int))) n ?_;refine pk 9 (I ((k:Int)+(a:Int))) n ?_;refine bY ?_;go_wp2;go_roundw;(case rel=>exact⟨k+a,p,M.2,Z,aY,HN⟩);case measure=>exact QE
  obtain rfl:m=k:=Z;have a:=H (show RowV wr g 3 (Ns .i64 (List.replicate m (-1))) by
   have:=rowOf b.2.1;rwa [<-b.2.2.2,<-b.2.2.1,G9])
  have n:=H b.1;clear b o;go_wp2;go_ret;exact⟨g,rfl,a,by have:=G.out;omega,n⟩
theorem fo(l:List Rg9){q t:Nat}(a:l[q]?=some r)(b:t<6):(eM l)[q*6+t]?=(rC r)[t]?:=eC rC 6 (λ_=>rfl) l q r a t b
theorem O_(l:List Rg9)(m:l[i]?=some r)(c d:Int):eM (l.set i {r with st:=c,rq:=d})=((eM l).set (i*6+4) (I c)).set (i*6+5) (I d):=by
 have f:=(Fz.1 m).1;apply Ho;intro k;by_cases o:k<l.length*6
 ·obtain⟨q,t,n,b,rfl⟩:∃q t,q<l.length/\t<6/\k=q*6+t:=⟨k/6,k%6,Z,Z,Z⟩;simp only[Gr,Gj,dS];by_cases e:q=i
  ·subst e;rw[fo _ (List.getElem?_set_self f) b,fo l m b];have:t=0\/t=1\/t=2\/t=3\/t=4\/t=5:=Z;rcases this with rfl|rfl|rfl|rfl|rfl|rfl;·rw[GO Z,GO Z];rfl
   ·rw[GO Z,GO Z];rfl
   ·rw[GO Z,GO Z];rfl
   ·rw[GO Z,GO Z];rfl
   ·rw[GO Z,GP rfl,GP Z];rfl
   rw[GP rfl,GP Z];rfl
  obtain⟨g,a⟩:∃g,l[q]?=some g:=⟨_,Fy n⟩;have j:(l.set i {r with st:=c,rq:=d})[q]?=some g:=by rw[List.getElem?_set_ne Z];exact a
  rw[fo _ j b,fo l a b,GO Z,GO Z]
 rw[FJ (by rw[dS];simp;omega),FJ (by simp[dS];omega)]
theorem Inv.mapSet(a:Inv cf h)(g:h.rg[i]?=some r)(f:Rg9->Rg9):(h.rg.map λx=>if x.base=r.base then f x else x)=h.rg.set i (f r):=by
 have j:=(Fz.1 g).1;apply Ho;intro k;rw[Gv];by_cases e:k=i;·subst e;rw[g,List.getElem?_set_self j];simp
 rw[List.getElem?_set_ne Z];cases o:h.rg[k]? with
 |none=>rfl
 | some q=>
  have l:q.base≠r.base:=λt=>by
   have m:=FM o;have:=a.one m (FM g) t;subst this;have⟨p,b⟩:=Fz.1 o;have⟨s,c⟩:=Fz.1 g;rcases Ie k i with d|d|d;·have:=II.1 a.apart k i p s d;rw[b,c]at this;have n:=a.rgs q m;unfold Rg9.ext at this n;omega
   ·exact e d
   have:=II.1 a.apart i k s p d;rw[b,c]at this;have n:=a.rgs q m;unfold Rg9.ext at this n;omega
  simp[l]
theorem Sh.setRange{x V}(a:Sh B x cf h V){G}(hv:x.rv=Vl G h.rg.length cap)(l:h.rg[i]?=some r)(b d:Int):
  Sh B x cf {h with rg:=h.rg.set i {r with st:=b,rq:=d}} ((V.setCell (Qz G (i*6+4)) (I b)).setCell (Qz G (i*6+5)) (I d))/\Ky (· =115) V ((V.setCell (Qz G (i*6+4)) (I b)).setCell (Qz G (i*6+5)) (I d))/\V.grownBy ((V.setCell (Qz G (i*6+4)) (I b)).setCell (Qz G (i*6+5)) (I d)) (some G):=by
 have f:=a.rg;rw[hv]at f;have n:=(Fz.1 l).1;have⟨p,j⟩:=di f;have e:V.grownBy ((V.setCell (Qz G (i*6+4)) (I b)).setCell (Qz G (i*6+5)) (I d)) (some G):=au (au (al V G) _ _) _ _;have k:Ky (· =115) V _:=Ky.grown j rfl e;have o:=dP (dP f (i*6+4) (by rw[dS];omega) (I b)) (i*6+5) (by rw[Gj,dS];omega) (I d);refine⟨⟨k.cells _ _ _ _ a.box ar,a.bp,a.bq,λg e=>a.bg g (cV (a.sp.qEq k ar) e),a.ds.ky k ar,a.sp.ky k ar ar ar,ai a.sl k ar,ai a.wt k ar,λc m=>⟨(a.wm c m).1.ky k ar,(a.wm c m).2.ky k ar⟩,?_,ai a.ro k ar,ai a.rl k ar⟩,k,e⟩;show World.ownsRow _ B 115 6 x.rv _ _;rw[hv,O_ h.rg l,Gj];exact o
theorem Eg{x W0}(a:Sh B x cf h W){G}(b:x.rv=Vl G n cap)(k:Bk B x.Q W0 W)(d:B<=W0.heap.size)(g:W.grownBy W' (some G)):Bk B x.Q W0 W':=by
 have⟨l,e⟩:=a.qrow;have f:x.rv.ownBlock=some G:=by rw[b];rfl
 have⟨i,c,j⟩:=aF a.rg f;exact k.trans (Bk.ofGrown j e (.inr (.inr (.inr (.inl rfl)))) ar ar i (Fx d k.bel.size) g)
theorem gF(cf)(o:fL):∀(l:List fL)(h:Hs)(a:List An4),NJ cf (l++[o]) h a=((bU cf (NJ cf l h a).1 (NJ cf l h a).2 o).2,(NJ cf l h a).2++[(bU cf (NJ cf l h a).1 (NJ cf l h a).2 o).1])
 |[],h,a=>rfl
 |p::l,h,a=>by
  show NJ cf (l++[o]) _ _=_
  rw[gF cf o l]
  rfl
theorem ft(cf):∀(l:List fL)(h:Hs)(a:List An4),(NJ cf l h a).2.length=a.length+l.length
 |[],h,a=>rfl
 |p::l,h,a=>by
  show(NJ cf l _ _).2.length=_
  rw[ft cf l]
  simp
  omega
theorem jp(cf:Cf)(b:1<=cf.fifo):∀(l:List fL)(h:Hs)(a:List An4)(k:Nat),Inv cf h->Few k h->Inv cf (NJ cf l h a).1/\Few (k+l.length) (NJ cf l h a).1
 |[],h,a,k,i,f=>⟨i,f⟩
 |p::l,h,a,k,i,f=>by
  have⟨c,f1⟩:=i.step b f a p
  have:=jp cf b l _ (a++[(bU cf h a p).1]) (k+1) c f1
  show Inv cf (NJ cf l _ _).1/\Few (k+(l.length+1)) (NJ cf l _ _).1
  rw[show k+(l.length+1)=k+1+l.length by omega]
  exact this
abbrev Aw:=An4×Value
def aC(y:Aw):List Value:=[I y.1.code,U y.1.addr,I y.1.size,y.2]
def fZ(l:List Aw):List Value:=l.flatMap aC
theorem ss(l:List Aw)(y:Aw):fZ (l++[y])=fZ l++aC y:=by simp[fZ]
structure Rs(B Q:Nat)(W:QM)(l:List Aw)(v:QN):Prop where
 row:W.ownsRow B 46 4 v l.length (fZ l)
 dat:∀y∈l,W.ownsRow B 5 1 y.2 y.1.data.length (Ns .u8 y.1.data)/\∀g,y.2.ownBlock=some g->¬e_ Q W g
 dis:l.Pairwise λy z=>∀g,y.2.ownBlock=some g->z.2.ownBlock≠some g
theorem za{a:Nat}{i:List QN}(h:W.ownsRow a 5 1 v n i)(j:∀g,v.ownBlock=some g->¬e_ Q W g)(k:Bk B Q W W'):W'.ownsRow a 5 1 v n i/\∀g,v.ownBlock=some g->¬e_ Q W' g:=by
 refine⟨⟨h.1,?_⟩,λg l e=>?_⟩
 ·rcases h.2 with c|⟨f,cap,b,rfl,d,c,m⟩;·exact .inl c
  exact .inr ⟨f,cap,b,rfl,d,k.by5 f b _ c (j f rfl),m⟩
 rcases k.pg g e with d|d;·exact j g l d
 have⟨_,c,b⟩:=aF h l;have:=ag b;omega
theorem Rs.bk{C l}(r:Rs C Q W l v)(k:Bk B Q W W'):Rs C Q W' l v:=
 ⟨ai r.row k.ky (eB ar),λy a=>za (r.dat y a).1 (r.dat y a).2 k,r.dis⟩
theorem zo:(prog.info? 46).map (λi=>(i.zero,i.size,i.bytes))=some (some (.agg #[I 0,U 0,I 0,C]),4,48):=E
theorem pA(W:QM)(B:Nat)(v:QN)(l:List Aw)(y)(g:Nat)(c)(a:W.ownsRow B 46 4 v l.length (fZ l))(o:W.heap[g]?=some (.cells (aC y).toArray 46))(p:y.2.oneCell'=true)(z:l.length<=1000)(q:B<=W.heap.size):
  ∃d b,(Builtin.append_ #[35,35] 35 #[v,Vl g 1 c]).run prog W=.ok d b/\b.ownsRow B 46 4 d (l++[y]).length (fZ (l++[y]))/\W.grownBy b v.ownBlock:=by
 have⟨r,e,f,i,k⟩:=G0 zo;have m:∀j u,(aC y)[j]?=some u->W.cell? (((Qz g 0):Addr).add j)=some u:=λj u s=>by
  rw[Addr.add_mid,Oi,GT _ _ j _ _ _ o];simpa using s
 have t:∀u∈aC y,u.oneCell'=true:=λu n=>by
  simp only[aC,F4,Gp,or_false]at n;rcases n with rfl|rfl|rfl|rfl;·rfl
  ·rfl
  ·rfl
  exact p
 have⟨d,b,e1,w,x,_⟩:=Ia (P:=prog) W B 35 35 46 r _ 4 48 underlying35 e f i k rfl Z v _ _ a (Qz g 0) 1 c (aC y) rfl m t (by unfold maxLen;omega) Z q;exact⟨d,b,e1,by rw[ss,FC];exact w,x⟩
theorem Bk.ofAns{f:Array QN}{i:Nat×Nat}{j:List QN}(d:W.ownsRow B 46 4 v n j)(e:W.heap[Q]?=some (.cells f 179 i))(g:W.grownBy W' v.ownBlock):Ky (· =46) W W'/\(∀g,e_ Q W' g->e_ Q W g)/\∀(a:Nat),a<=B->a<=W.heap.size->Below a W W':=by
 have k:Ky (· =46) W W':=Ky.grownO (λP b=>by obtain⟨_,c,l⟩:=aF d b;exact⟨c,46,_,l,rfl⟩) g;refine⟨k,λp c=>cV (k.cells _ _ _ _ e ar |>.trans e.symm) c,λa l m=>(Fu a W).grown g m (λP b=>Fx l (aF d b).1)⟩
def Byt(m:Nat->Option (Bool×List Int)):Prop:=∀k q,m k=some q->∀x∈q.2,0<=x/\x<=255
def okB(ys:List Int):Prop:=∀y∈ys,0<=y/\y<=255
theorem okB.get{ys}(h:okB ys)(i:Nat):0<=ys[i]?.getD 0/\ys[i]?.getD 0<=255:=by
 cases e:ys[i]? with
 |none=>simp
 |some y=>exact h y (FM e)
theorem Byt.put(h:Byt m)(p){x:Int}(d:0<=x/\x<=255):Byt (dZ m p x):=by
 intro k q a;unfold dZ at a;by_cases e:k=p/1024
 ·subst e;rw[bV]at a;cases b:m (p/1024)with
  |none=>rw[b]at a;cases a
  |some r=>
   rw[b]at a;simp at a;subst a;intro z f;rcases List.mem_or_eq_of_mem_set f with c|c;·exact h _ _ b z c
   rw[c];exact d
 rw[aW _ _ _ _ e]at a;exact h k q a
theorem Byt.store{m}(h:Byt m)(a){ys}(b:okB ys):∀k,Byt (ay m a ys k)
 |0=>h
 |k+1=>(Byt.store h a b k).put _ (b.get k)
theorem Byt.fresh(h:Byt m)(p k:Nat):Byt (aT m p k):=by
 intro j q a;rw[cO]at a;split at a
 ·injection a with a;subst a;intro x b;rw[List.eq_of_mem_replicate b];omega
 exact h j q a
theorem Byt.gone(h:Byt m)(p k:Nat):Byt (bQ m p k):=by
 intro j q a;rw[eb]at a;split at a;·cases a
 exact h j q a
theorem Byt.at(h:Byt m)(p):0<=bO m p/\bO m p<=255:=by
 unfold bO;cases a:m (p/1024)with
 |none=>simp
 |some q=>
  simp only[Hi,Ht];exact okB.get (λy b=>h _ _ a y b) _
theorem Byt.load(h:Byt m)(a n):okB (aH m a n):=by
 intro y b;unfold aH at b;simp only[FQ]at b;obtain⟨i,_,rfl⟩:=b;exact h.at _
theorem tT(cf a):okB (can cf a):=by
 intro y b;unfold can gI at b;simp only[FQ]at b;obtain⟨i,_,rfl⟩:=b;split;·omega
 have:=Dx (cx cf.key (a:Int)) i;omega
theorem wS(n:Nat):okB (List.replicate n 0):=λy a=>by rw[List.eq_of_mem_replicate a];omega
theorem tI{a:Hs}{c s:Nat}(e:cJ cf h c=some (s,a)):a.m=h.m\/a.m=aT h.m (aD c s) (dI c):=by
 unfold cJ at e;split at e;·injection e with e;injection e with e1 b;subst b;exact .inl rfl
 split at e;·cases e
 split at e;·cases e
 injection e with e;injection e with e1 b;subst e1;subst b;exact .inr rfl
theorem Byt.small{cf c}: ∀(f:Nat){h:Hs},Byt h.m->Byt (bN cf c f h).2.m
 |0,h,b=>b
 | f+1,h,b=>by
  unfold bN
  cases e:cJ cf h c with
  |none=>exact b
  |some q=>
   have⟨s,a⟩:=q
   have d:Byt a.m:=by rcases tI e with e1|e1<;>rw[e1];exact b;exact b.fresh _ _
   dsimp only
   split
   ·exact d
   exact Byt.small f (h:={a with used:=a.used+1,st:=_}) d
theorem Byt.malloc(b:Byt h.m)(a):Byt (av cf h a).2.m:=by
 unfold av;split
 ·have d:=Byt.small (cf:=cf) (c:=fD a) 2000 b;cases e:bN cf (fD a) 2000 h with
  | mk o f=>
   rw[e]at d;cases o with
   |none=>exact d
   |some q=>
    have⟨s,j⟩:=q;exact d.store _ (tT cf _) 8
 dsimp only;split;·exact b
 split;·exact b
 split;·exact b
 exact b.fresh _ _
theorem Byt.release(b:Byt h.m)(c s j):Byt (bK h c s j).m:=by
 unfold bK;dsimp only;split;·exact b.gone _ _
 exact b
theorem Byt.freeS(b:Byt h.m)(c s j):Byt (aL cf h c s j).m:=by
 unfold aL;dsimp only;have a:=b.store (bh c s j) (wS (cy c)) (cy c);split
 ·split;·exact a
  exact Byt.release (h:={m:=_,st:=_,rq:=_,mx:=_,ff:=_,rg:=_,row:=_,rel:=_,used:=_}) a _ _ _
 split;·exact a
 exact Byt.release (h:={m:=_,st:=_,rq:=_,mx:=_,ff:=_,rg:=_,row:=_,rel:=_,used:=_}) a _ _ _
theorem Byt.freeR(b:Byt h.m)(r):Byt (aJ cf h r).m:=by
 unfold aJ;dsimp only;split;·exact b.gone _ _
 exact b.gone _ _
theorem Byt.free(b:Byt h.m)(f:Fd):Byt (db cf h f).m:=by
 cases f with
 |slot c s j=>exact b.freeS c s j
 |range r=>exact b.freeR r
 |no _=>exact b
theorem Byt.realloc(b:Byt h.m)(p a):Byt (a_ cf h p a).2.m:=by
 have f:=b.malloc (cf:=cf) a;have g:∀d:Nat,Byt ((match av cf h a with
   |(none,c)=>((An4.no 1,c):An4×Hs)
   |(some q,c)=>(⟨0,q,0,[]⟩,db cf {c with m:=aZ c.m p q (min d a)} (aB {c with m:=aZ c.m p q (min d a)} p))).2.m):=λd=>by
  cases e:av cf h a with
  |mk o c=>
   rw[e]at f;cases o with
   |none=>exact f
   |some q=>exact Byt.free (h:={c with m:=aZ c.m p q (min d a)}) (Byt.store f _ (Byt.load f _ _) _) _
 unfold a_;dsimp only;split
 ·cases e:av cf h a with
  |mk o c=>
   rw[e]at f;cases o with
   |none=>exact f
   |some q=>exact f
 split;·exact b
 ·split;·exact b
  split;·exact b
  exact g _
 split;·exact b
 exact g _
theorem Byt.do(b:Byt h.m)(o:fL)(p)(f:okB o.ys):Byt (NQ cf h o p).2.m:=by
 have d:∀n:Nat,Byt ((match av cf h n with
   |(none,a)=>((An4.no 1,a):An4×Hs)
   |(some q,a)=>(⟨0,q,0,[]⟩,a)).2.m):=λn=>by
  have c:=b.malloc (cf:=cf) n
  cases e:av cf h n with
  |mk o a=>
   rw[e]at c;cases o with
   |none=>exact c
   |some q=>exact c
 unfold NQ;dsimp only;split;·exact d _
 split
 ·split;·exact b
  exact d _
 split;·exact b.realloc _ _
 split
 ·split;·exact b
  ·split;·exact b
   exact b.freeS _ _ _
  exact b.freeR _
 split;·split<;>exact b
 split;·split<;>exact b
 split
 ·dsimp only;split;·exact b.store _ f _
  exact b
 exact b
theorem Byt.step(b:Byt h.m)(an)(o:fL)(a:okB o.ys):Byt (bU cf h an o).2.m:=by
 unfold bU;split;·exact b.do o _ a
 split;·exact b
 exact b.do o _ a
theorem Byt.new(cf):Byt (aP cf).m:=λk q a=>by simp[aP]at a
def nr(r:Rg9)(x:Nat):Bool:=decide (r.first<=x/1024)&&decide (x/1024<r.first+r.ext)
theorem oY(B:Nat)(L r)(v:QP)(w y:Nat)(l:List Nat)(W:QM)(h:W.ownsRow B 27 1 (.slice v w y) l.length (Us l))(F:l.length<=100000)(f:∀x∈l,x<18446744073709551616)(b:Lc L r W):
  QA 238 #[.slice v w y,.func (.func 215) #[J L 0] #[]] W λe W'=>D W W'/\((e=QJ (I (-1))/\∀x∈l,nr r x=false)\/∃k:Nat,k<l.length/\e=QJ (I k)/\nr r (l[k]?.getD 0)=true/\∀j,j<k->nr r (l[j]?.getD 0)=false):=by
 obtain⟨rfl,c⟩:=lA h;have⟨G,K,M⟩:=Qe c (λV(d:D W V)x(a:x<18446744073709551616)=>n_ L x r V (b.below d) a) f;clear c h f b;have⟨n,a⟩:=Qa l.length;rw[a]at F⊢;have p:=H a;clear a;go_enter func238,ntmps238;go_wp2;go_loopw [8] (λi wr=>∃k:Nat,k<=n/\i=I k/\Hid (D W wr)/\Hid (∀j,j<k->nr r (l[j]?.getD 0)=false)) (λi _=>n-(intOf i).toNat);case atStart=>exact⟨0,FH _,rfl,H (Fu _ _),H (λj c=>Z)⟩
 case round=>
  obtain⟨k,N,rfl,d,m⟩:=hrel;by_cases b:k<n
  ·obtain⟨g,rfl,a⟩:=G.out k (by rw[p];exact b);have o:=NI d a;have s:l[k]?.getD 0<18446744073709551616:=M.out _ (by rw[Fy (by rw[p];exact b)];exact Iw _);clear a;generalize a:l[k]?.getD 0=q at*;have z:=H a;clear a;have a:=H (K wr d q s);rw[show(decide (r.first<=q/1024)&&decide (q/1024<r.first+r.ext))=nr r q from rfl]at a;go_wp2_with fail;refine(a).mono ?_;rintro e V⟨rfl,t⟩;have A:=H (d.trans (t.mono d.size));clear t;cases a:nr r q with
   |true=>
    go_wp2;go_ret;exact⟨A,.inr ⟨k,b,rfl,by rw[z];exact a,m⟩⟩
   | false=>
    have t:Hid (∀j,j<k+1->nr r (l[j]?.getD 0)=false):=(λj c=>by
     rcases Nat.lt_succ_iff_lt_or_eq.1 c with u|u;·exact m j u
     subst u;rw[z];exact a)
    clear m;go_wp2;go_roundw;(case rel=>exact⟨k+1,Z,aY,A,t⟩);case measure=>exact QE
  obtain rfl:k=n:=Z;go_wp2;go_ret;refine⟨d,.inl ⟨rfl,λx f=>?_⟩⟩;have⟨j,c⟩:=He f;have a:=(Fz.1 c).1;have:=m.out j (by rw[<-p.out];exact a);rw[c]at this;exact this
def dW(r:Rg9)(l:List Nat)(j:Nat):List Nat:=(l.take j).filter λx=>!nr r x
theorem jb(r)(l:List Nat)(j:Nat)(h:j<l.length):dW r l (j+1)=dW r l j++(if nr r (l[j]?.getD 0)then[]else[l[j]?.getD 0]):=by
 unfold dW;rw[F_,Hl,Fy h];congr 1;simp only[IQ,Ht,List.filter_cons,List.filter_nil];cases nr r l[j]<;>rfl
theorem kq(r)(l:List Nat)(k:Nat)(d:k<=l.length)(h:∀j,j<k->nr r (l[j]?.getD 0)=false):dW r l k=l.take k:=by
 unfold dW;rw[Il];intro x c;have⟨j,a⟩:=He c;have b:=(Fz.1 a).1;rw[Hm]at b;rw[Hf Z]at a;have:=h j Z;rw[a]at this;simp at this;rw[this];rfl
theorem nZ(r l j):(dW r l j).length<=j:=by
 unfold dW;have:=Hb (λx=>!nr r x) (l.take j);rw[Hm]at this;omega
theorem yG(r)(l:List Nat)(k j:Nat)(c:k<j)(d:j<=l.length)(a:nr r (l[k]?.getD 0)=true):(dW r l j).length<j:=by
 induction j with
 |zero=>omega
 |succ j b=>
  rw[jb r l j Z,FC];have f:=nZ r l j;by_cases e:k=j;·subst e;rw[GP a];simp;omega
  have:=b Z Z;split<;>simp<;>omega
structure Ct(g cap n:Nat)(l:List Nat)(is:List Nat)(j:Nat)(W:QM):Prop where
 row:∃c,W.heap[g]?=some (.cells c 27)/\c.size=cap/\(∀q,q<is.length->c[q]?=some (U ((is[q]?.getD 0:Nat):Int)))/\∀q,j<=q->q<n->c[q]?=some (U ((l[q]?.getD 0:Nat):Int))
theorem Ct.cell{g cap n l is j W}(h:Ct g cap n l is j W){q:Nat}(a:j<=q)(b:q<n):W.cell? (Qz g q)=some (U ((l[q]?.getD 0:Nat):Int)):=by
 have⟨c,d,f,i,e⟩:=h.row;rw[GT _ _ _ _ _ _ d];exact e q a b
theorem Ct.free(h:Ct g cap n l is j W)(q:Nat):W.frozen? (Qz g q)=false:=by
 have⟨c,a,_⟩:=h.row;simp[QD,a]
theorem Ct.anyC(h:Ct g cap n l is j W){q:Nat}(b:q<cap):∃v,W.cell? (Qz g q)=some v:=by
 have⟨c,a,d,_⟩:=h.row;rw[GT _ _ _ _ _ _ a];exact⟨_,Hw Z⟩
theorem Ct.same(h:Ct g cap n l is j W)(e:W'.heap[g]?=W.heap[g]?):Ct g cap n l is j W':=by
 have⟨c,a,b⟩:=h.row;exact⟨c,e.trans a,b⟩
theorem Ct.lt(h:Ct g cap n l is j W):g<W.heap.size:=by
 have⟨c,a,_⟩:=h.row;exact ag a
theorem Ct.skip(h:Ct g cap n l is j W):Ct g cap n l is (j+1) W:=by
 have⟨c,a,b,d,e⟩:=h.row;exact⟨c,a,b,d,λq i f=>e q Z f⟩
theorem Ct.put(h:Ct g cap n l is j W)(x:Nat)(o:is.length<=j)(p:j<n)(r:n<=cap):Ct g cap n l (is++[x]) (j+1) (W.setCell (Qz g is.length) (U x)):=by
 have⟨c,b,d,f,i⟩:=h.row;refine⟨c.setIfInBounds is.length (U x),by simp[World.setCell,FD,b],by simpa using d,λq k=>?_,λq s m=>?_⟩
 ·rw[FK];by_cases e:is.length=q;·subst e;simp;omega
  rw[GO e];have a:q<is.length:=by simp at k;omega
  rw[f q a,Ga a]
 rw[FK,GO Z];exact i q Z m
theorem EK(n:Nat)(h:n<=1048576)(w:QM):(Instr.makeSlice 22 (I (n:Int)) (I (n:Int))).run prog w=.ok (Vl w.heap.size n n) (w.alloc (.cells (madeCells #[Value.int .u8 0] n) 5)):=
 run_make_row' 22 5 (.int .u8 0) 1 underlying22 E rfl .i64 .i64 n Z Z w
theorem wi(n:Nat)(w:QM):RowV (w.alloc (.cells (madeCells #[Value.int .u8 0] n) 5)) w.heap.size 5 (Ns .u8 (List.replicate n 0)):=by
 rw[mR];exact⟨_,ao w _,bH,λi a=>bH⟩
theorem Hp.setQ{y d}(i:Hp B y d cf h W){c:Nat}(v:c<12){mix fifo}(q:Qr W' (y.qm c) (y.qr c) (y.qg c) (y.qq c) cf.fifo mix fifo)(b:But (Qs (y.qr c) (y.qg c) (y.qq c)) W W'):
  Hp B y d cf {h with mx:=dB h.mx c mix,ff:=dB h.ff c fifo} W'/\Bi B W W':=by
 have O:=i.wt c v;have bq:=i.ap.bq c v;have z:∃x,W.heap[y.qr c]?=some (.cells x 3):=by obtain⟨x,u,_⟩:=O.mx.2;exact⟨x,u⟩
 have m:∃x,W.heap[y.qq c]?=some (.cells x 3):=by obtain⟨ps,o,S,_,⟨x,u,_⟩,_⟩:=O.qu;exact⟨x,u⟩
 have j:∃x,W.heap[y.qg c]?=some (.cells x 261):=by obtain⟨ps,o,S,u,_⟩:=O.qu;exact⟨_,u⟩
 have⟨x1,z⟩:=z;have⟨x2,m⟩:=m;have⟨x3,j⟩:=j;have T:∀g F t f,W.heap[g]?=some (.cells F t f)->¬(t=3\/t=261)->¬Qs (y.qr c) (y.qg c) (y.qq c) g:=λg F t f l A n=>by
  rcases n with e|e|e;·rw[e,z]at l;cases l;exact A (.inl rfl)
  ·rw[e,j]at l;cases l;exact A (.inr rfl)
  rw[e,m]at l;cases l;exact A (.inl rfl)
 have V:∀g G K,W.heap[g]?=some (.map G K)->¬Qs (y.qr c) (y.qg c) (y.qq c) g:=λg G K l n=>by
  rcases n with e|e|e;·rw[e,z]at l;cases l
  ·rw[e,j]at l;cases l
  rw[e,m]at l;cases l
 have k:Ky (λt=>t=3\/t=261) W W':=⟨b.os,b.tape,b.output,b.size,λg F t f l A=>by rw[b.block g (ag l) (T g F t f l A)];exact l⟩;have L:Below B W W':=⟨b.os,b.tape,b.output,b.size,λg l=>b.block g (FG l i.bW) (λn=>by rcases n with e|e|e<;>omega)⟩;have Y:W'.heap[y.M]?=W.heap[y.M]?:=by
  obtain⟨a,⟨G,K,w,_⟩,_⟩:=i.sp.map;exact b.block _ (ag w) (V _ _ _ w)
 have hR:W'.heap[y.R]?=W.heap[y.R]?:=by
  have⟨G,K,w⟩:=i.mp.typ;exact b.block _ (ag w) (V _ _ _ w)
 refine⟨⟨i.ap,Fx i.bW L.size,i.box.ky k ar,i.ds.belowB L i.ap.da,i.sp.ky k ar Y,i.pg.ky k ar,i.bf,
 λc s v P=>k.cells _ _ _ _ (i.sl c s v P) ar,λc s v P=>cL (i.rw c s v P) k ar,λa s' j' p Q R=>k.cells _ _ _ _ (i.sm a s' j' p Q R) ar,
 λa p=>?_,i.mp.same hR,i.lo,λr hr=>by obtain⟨g,u,w,h3⟩:=i.lb r hr;exact⟨g,u,w,k.cells _ _ _ _ h3 ar⟩,i.li,i.ro.ky k ar,ai i.rl k ar,i.rr,i.tb.belowB L i.ap.b0⟩,L,k.more (λt e=>by rcases e with rfl|rfl<;>(unfold hI;decide))⟩
 by_cases e:a=c;·subst e;show Qr W' _ _ _ _ _ (dB h.mx a mix a) (dB h.ff a fifo a);rw[cP,cP];exact q
 show Qr W' _ _ _ _ _ (dB h.mx c mix a) (dB h.ff c fifo a);rw[eF _ _ e,eF _ _ e];have M:=i.wt a p;have⟨i1,i2,i3,i4⟩:=i.ap.iq c a v p (λf=>e f.symm);have⟨j1,j2,j3,j4⟩:=i.ap.iq a c p v e;obtain⟨ps,o,S,N,⟨x,X,_⟩,_⟩:=M.qu;refine M.but b (T _ _ _ _ M.mx.1 ar) ?_ ?_ ?_
 ·intro n;rcases n with e|e|e;·exact i1 e.symm
  ·have⟨xx,u,_⟩:=M.mx.2;rw[e,j]at u;cases u
  exact j2 e
 ·intro n;rcases n with e|e|e;·rw[e,z]at N;cases N
  ·exact i4 e.symm
  rw[e,m]at N;cases N
 intro n;rcases n with e|e|e;·exact i2 e.symm
 ·rw[e,j]at X;cases X
 exact i3 e.symm
theorem Df(cf y d u)(c k:Nat)(b:c<12)(e:k<3):boxF cf y d u (79+c*3+k)=Eu cf y c k:=by
 unfold boxF;rw[GO Z,GO Z,GP Z];have e1:(79+c*3+k-79)/3=c:=Z;have a:(79+c*3+k-79)%3=k:=Z;rw[e1,a]
theorem Hp.qAt{y d}(a:Hp B y d cf h W)(c:Nat)(b:c<12):W.cell? (Qz y.P (79+c*3+2))=some (if cf.mix=0 then .iface 146 (J (y.qg c) 0)else .iface 145 (J (y.qm c) 0)):=by
 refine a.cell _ Z _ ?_;rw[Df cf y d h.used c 2 b Z];rfl
def Ez(B:Nat)(y:Ly)(d:Dy)(cf:Cf)(h:Hs)(c:Nat)(x dd:Int)(W:World)(e:Ending)(W':World):Prop:=e=.returned (I (ed cf.fifo (h.mx c) (h.ff c) x dd).2.2)/\Hp B y d cf {h with mx:=dB h.mx c (ed cf.fifo (h.mx c) (h.ff c) x dd).1,ff:=dB h.ff c (ed cf.fifo (h.mx c) (h.ff c) x dd).2.1} W'/\Bi B W W'
theorem Of(B y d cf h)(c:Nat)(x dd W)(f:Hp B y d cf h W)(a:(h.mx c).length=cf.mix)(i:mE cf)(g:c<12)(j:cf.mix=0):
  QA 342 #[J (y.qg c) 0,I x,I dd] W (Ez B y d cf h c x dd W):=by
 refine(OU _ _ _ _ _ _ _ x dd W (f.wt c g) (by have:=i.fifo;omega) (by rw[a];exact j)).mono ?_;rintro e W'⟨z,rfl,rfl,q,b⟩;exact⟨rfl,f.setQ g q b⟩
theorem xI(B y d cf h)(c:Nat)(x dd W)(f:Hp B y d cf h W)(a:(h.mx c).length=cf.mix)(g:mE cf)(i:c<12)(j:cf.mix≠0):
  QA 340 #[J (y.qm c) 0,I x,I dd] W (Ez B y d cf h c x dd W):=by
 refine(Dg _ _ _ _ _ _ _ x dd W (f.wt c i) (λe=>j (by rw[<-a,e];rfl)) (by rw[a];have:=g.mix;omega) (by have:=g.fifo;omega)).mono ?_;rintro e W'⟨z,rfl,rfl,q,b⟩;exact⟨rfl,f.setQ i q b⟩
end
end Go.Proofs.YtdhegekcmmlohaaGreatDoor
