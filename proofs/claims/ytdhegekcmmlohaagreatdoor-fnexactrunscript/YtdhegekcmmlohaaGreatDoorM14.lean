import Derived.Test.YtdhegekcmmlohaaGreatDoorM12
import Derived.Test.YtdhegekcmmlohaaGreatDoorM13
set_option linter.unusedVariables false
set_option linter.unusedSimpArgs false
set_option maxRecDepth 20000
set_option maxHeartbeats 8000000
namespace Go.Proofs.YtdhegekcmmlohaaGreatDoor
open Go.Proofs.Tryz Go.RowKit Go.Maps Go.Shelf Go.ChangeShapes Go.WideShapes Go.ChangeAt
section
variable {B X2 X3 X4 q:Nat}{y:Ly}{d d':Dy}{cf:Cf}{h:Hs}{V V' W W':World}{an v:Value}{op:Array Value}
theorem jv(B y d cf h k an)(c s j:Nat)(W)(a:Hp B y d cf h W)(b:Gd d h an)(o:vJ cf h k)(i:c<12)(l:s<6)(m:j<aM c)(e:h.st c s j=1):
  QA 102 #[J y.P 0,.iface 268 (J (y.sm c s j) 0)] W (D7 B y d cf (aL cf h c s j) an W):=by
 have f:=H (lT B y d cf h k an c s j W a b o i l m e);have p:=λw=>BJ (y.sm c s j) w
 generalize aL cf h c s j=n at*;generalize y.sm c s j=q at*;go_enter func102,ntmps102;go_wp2_with fail;refine(f).mono ?_;rintro e V⟨rfl,a,b⟩;have g:=H (IT a b);go_wp2;go_end0;exact⟨rfl,g.1,g.2⟩
theorem ju(B y d cf h k an)(r:Rg9)(L:Nat)(W)(a:Hp B y d cf h W)(b:Gd d h an)(o:vJ cf h k)(c:r∈h.rg)(e:r.st=1)(f:d.lg r.base=some L):
  QA 102 #[J y.P 0,.iface 278 (J L 0)] W (D7 B y d cf (aJ cf h r) an W):=by
 have g:=H (kL B y d cf h k an r L W a b o c e f);have l:=λw=>CY L w
 have i:=λw=>AL L w
 generalize aJ cf h r=j at*;go_enter func102,ntmps102;go_wp2_with fail;refine(g).mono ?_;rintro e V⟨rfl,a,b⟩;have c:=H (IT a b);go_wp2;go_end0;exact⟨rfl,c.1,c.2⟩
inductive Ob(B:Nat)(y:Ly)(d:Dy)(cf:Cf)(h:Hs):Nat->Value->Prop
 |slot (c s j:Nat) (hc:c<12) (hs:s<6) (hj:j<aM c):Ob B y d cf h (bh c s j) (.iface 268 (J (y.sm c s j) 0))
 |range (r:Rg9) (g:Nat) (hr:r∈h.rg) (hl:r.st=1) (hd:d.lg r.base=some g):Ob B y d cf h r.base (.iface 278 (J g 0))
inductive SzR(B:Nat)(y:Ly)(cf:Cf)(an:Value):An4×Hs->Ending->World->Prop
 |yes (q:Nat) (v:Value) (d:Dy) (h1:Hs) (W':World) (ob:Ob B y d cf h1 q v) (hp:Hp B y d cf h1 W') (gd:Gd d h1 an):SzR B y cf an (⟨0,q,0,[]⟩,h1) (.returned v) W'
 |no (code:Int) (h1:Hs) (W':World) (tk:Tk B y cf h1 an W'):SzR B y cf an (.no code,h1) (.panicked (ip code)) W'
def Es(B:Nat)(y:Ly)(cf:Cf)(an:Value)(W:World)(r:An4×Hs)(e:Ending)(W':World):Prop:=SzR B y cf an r e W'/\Bi B W W'
theorem Hp.lcOf(b:Hp B y d cf h W)(i:Inv cf h){r:Rg9}(a:r∈h.rg){g:Nat}(c:d.lg r.base=some g):Lc g r W:=by
 have⟨j,e1,_,e⟩:=b.lb r a;rw[c]at e1;cases e1;have⟨k,l,m,f,n,_⟩:=i.rgs r a;have:r.ext=r.guards+r.pages+1:=rfl;exact nx e Z f Z
theorem TaR.ob{lg}{r:Option Nat×Hs}{e:Ending}(t:TaR B y cf an lg r e W'):(r.1=none/\e=.panicked (ip 1)/\Tk B y cf r.2 an W')\/∃q v d,r.1=some q/\e=QJ v/\Ob B y d cf r.2 q v/\Hp B y d cf r.2 W'/\Gd d r.2 an/\Kl lg d:=by
 cases t with
 |no a _ b=>exact .inl ⟨rfl,rfl,b⟩
 |slot c s j a _ f g i b k=>
  have⟨d,a,l,m⟩:=k;exact .inr ⟨_,_,d,rfl,rfl,.slot c s j f g i,a,l,m⟩
 |range r g d a _ c b f i j k=>exact .inr ⟨_,_,d,rfl,rfl,.range r g c b f,i,j,k⟩
theorem Ob.conv{a:Hs}(o:Ob B y d cf h q v)(b:a.rg=h.rg)(e:d'.lg=d.lg):Ob B y d' cf a q v:=by
 cases o with
 |slot c s j f g i=>exact .slot c s j f g i
 |range r g c f i=>exact .range r g (by rw[b];exact c) f (by rw[e];exact i)
theorem qB(cf h c s j):(aL cf h c s j).rg=h.rg:=by
 rw[cW];split;·rfl
 unfold bK;dsimp only;split<;>rfl
theorem Ob.afterS{c s j}(o:Ob B y d cf h q v)(b:Hp B y d' cf (aL cf h c s j) W')(e:Klg d d'):Ob B y d' cf (aL cf h c s j) q v:=by
 cases o with
 |slot c s j a f g=>exact .slot c s j a f g
 |range r g f i k=>
  have a:r∈(aL cf h c s j).rg:=by rw[qB];exact f
  refine .range r g a i (e _ _ k ?_);rw[b.lo];exact List.any_eq_true.2 ⟨r,a,bH⟩
theorem Ob.afterR{f:Rg9}(i:Inv cf h)(o:Ob B y d cf h q v)(k:q≠f.base)(w:Hp B y d' cf (aJ cf h f) W')(z:Klg d d'):Ob B y d' cf (aJ cf h f) q v:=by
 cases o with
 |slot c s j A F G=>exact .slot c s j A F G
 | range r g p t K=>
  have u:r∈gX h.rg f.base 2 0:=FQ.2 ⟨r,p,by rw[GO k]⟩;have m:r∈(aJ cf h f).rg:=by
   rw[iO];split
   ·rename_i L;refine Gk.2 ⟨u,?_⟩;have:r.base≠(h.row++[f.base])[0]?.getD 0:=λe=>by
     cases a:h.row with
     |nil=>rw[a]at e;exact k (by simpa using e)
     |cons b l=>
      rw[a]at e;have M:r.base=b:=(by simpa using e);have⟨x,N,n,O⟩:=(i.row b).1 (by rw[a];simp);have:=i.uniq p N (O.trans M.symm);rw[this,t]at n;cases n
    simpa using this
   exact u
  refine .range r g m t (z _ _ K ?_);rw[w.lo];exact List.any_eq_true.2 ⟨r,m,bH⟩
theorem Hp.setRq1(a:Hp B y d cf h W){c s j:Nat}(b:c<12)(e:s<6)(f:j<aM c)(rq'):
  Hp B y d cf {h with rq:=aE h.rq c s j rq'} (W.setCell ⟨y.sm c s j,1,none⟩ (I rq'))/\Bi B W (W.setCell ⟨y.sm c s j,1,none⟩ (I rq')):=by
 have g:=a.sm c s j b e f;have:=a.setSlot b e f (h.st c s j) rq' (W':=W.setCell ⟨y.sm c s j,1,none⟩ (I rq')) (au (al W (y.sm c s j)) 1 _) (by simp[World.setCell,FD,g,Oe]);rw[gy h.st rfl]at this;exact this
theorem Ob.base{t g a:Nat}(o:Ob B y d cf h q (.iface t (J g 0)))(f:t=268/\a=162\/t=278/\a=210)(k:Hp B y d cf h W)(i:Inv cf h):
  QA a #[J g 0] W λe V'=>e=QJ (U q)/\D W V':=by
 cases o with
 |slot c s j l m n=>
  rcases f with⟨_,rfl⟩|⟨b,_⟩;·exact eI _ _ c s j W (k.scAt c s j l m n)
  cases b
 |range r g c l j=>
  rcases f with⟨b,_⟩|⟨_,rfl⟩;·cases b
  refine(ie g r W (k.lcOf i c j)).mono ?_;rintro e V⟨rfl,rfl⟩;exact⟨rfl,(Fu _ _).drew⟩
theorem Ob.shape(o:Ob B y d cf h q v):∃t g a,v=.iface t (J g 0)/\(t=268/\a=162\/t=278/\a=210):=by
 cases o with
 |slot c s j a b e=>exact⟨_,_,_,rfl,.inl ⟨rfl,rfl⟩⟩
 |range r g a b c=>exact⟨_,_,_,rfl,.inr ⟨rfl,rfl⟩⟩
theorem Gd.fr(g:Gd d h an)(a:Nat->Option Nat):Gd {d with f:=a} h an:=⟨g.on,g.un,g.an⟩
theorem qp(B:Nat)(y:Ly)(d cf h k an)(p a t:Nat)(g)(Q j:Nat)(W:QM)(bW:B<=W.heap.size)(gd:Gd d h an)(o:vJ cf h k)(hk:k<=301)(iF:p≠0)(ha:a<18446744073709551616)(L:j<9223372036854775808)(ht:t=268/\Q=162\/t=278/\Q=210)(Kp:Dy->Hs->Prop)(IN:QA 103 #[J y.P 0,U p] W λe V=>e=QJ (.iface t (J g 0))/\∃n,Hp B y {d with f:=n} cf h V/\Bi B W V)(FT:∀n V,Hp B y {d with f:=n} cf h V->QA 155 #[.iface t (J g 0),U a] V λe V'=>e=QJ Qk/\D V V')(AR:Area h p j)(KP:∀q c i,Gave cf h a q c->Kl d.lg i->Kp i c)(KM:∀i n c m,Kp i c->Kp {i with f:=n} {c with m:=m})(BO:∀i c V,Inv cf c->Hp B y i cf c V->Kp i c->QA Q #[J g 0] V λe V'=>e=QJ (U p)/\D V V')(CE:∀i c V,Hp B y i cf c V->Kp i c->V.cell? (Qz g 1)=some (I j))(RE:∀i c V,Hp B y i cf c V->Gd i c an->vJ cf c (k+1)->Kp i c->QA 102 #[J y.P 0,.iface t (J g 0)] V (D7 B y i cf (db cf c (aB c p)) an V))(OA:∀i c P q v V,Inv cf c->Kp i c->Ob B y i cf c q v->q≠p->Hp B y P cf (db cf c (aB c p)) V->Klg i P->Ob B y P cf (db cf c (aB c p)) q v):
  QA 101 #[J y.P 0,U p,U a] W (Es B y cf an W (iQ cf h p a j)):=by
 have R:=λq c(e:av cf h a=(some q,c))=>o.inv.gave e
 have S:=o.inv.malloc o.few a;have G:=o.byt.malloc (cf:=cf) a;have M:=λn V(K:Hp B y {d with f:=n} cf h V)=>kW B y {d with f:=n} cf h k an a V K (gd.fr n) o ha
 unfold iQ;have⟨mr,T⟩:=Qa (av cf h a);rw[T]at S G⊢;simp only[T]at R M;have⟨oq,c⟩:=mr;have X:∀V,(∃n,Hp B y {d with f:=n} cf h V/\Bi B W V)->QA 155 #[.iface t (J g 0),U a] V λe V'=>e=QJ Qk/\∃n,Hp B y {d with f:=n} cf h V'/\Bi B W V':=by
  rintro V⟨n,K,w⟩;refine(FT n V K).mono ?_;rintro e V'⟨rfl,b⟩;exact⟨rfl,n,K.below b,w.add b K.bW⟩
 cases oq with
 |none=>
  refine lK y.P p a t g Q 0 j W iF ht L ha (λV=>∃n,Hp B y {d with f:=n} cf h V/\Bi B W V) (λ_ _ _ _=>False) (λ_ _ _=>False) _ IN X ?_ (λ_ _ _ _ _ h _=>h.elim) (λ_ _ _ _ h=>h.elim) (λ_ _ _ _ h=>h.elim) (λ_ _ _ _ h=>h.elim) (λ_ _ _ _ h=>h.elim) (λ_ _ _ h=>h.elim);rintro V⟨n,K,w⟩;refine(M n V K).mono ?_;rintro e V'⟨tr,N⟩;cases tr with
  |no _ _ l=>exact .inl ⟨_,rfl,.no 1 c V' l,w.trans N⟩
 | some q=>
  have O:=R q c rfl;have⟨ak,Y⟩:=O.keeps AR;have ap:=ak.le (Nat.min_le_left j a);have aq:=O.area.le (Nat.min_le_right j a);have⟨_,m2,m3,m4,m5⟩:=S;dsimp only at m2 m3 m4 m5 G;have o2:vJ cf {c with m:=aZ c.m p q (min j a)} (k+1):=
   ⟨O.inv.bytes _ _ _,Byt.store G _ (Byt.load G _ _) _,⟨m2,iM,iM,by have:=o.few.used;dsimp only;omega⟩,Z,o.dok,o.l1⟩
  refine lK y.P p a t g Q q j W iF ht L ha (λV=>∃n,Hp B y {d with f:=n} cf h V/\Bi B W V)
   (λx A s V=>∃i,Ob B y i cf c q (.iface x (J A 0))/\(x=268/\s=162\/x=278/\s=210)/\Hp B y i cf c V/\Gd i c an/\Kp i c/\Bi B W V)
   (λx A V=>∃i,Ob B y i cf {c with m:=aZ c.m p q (min j a)} q (.iface x (J A 0))/\Hp B y i cf {c with m:=aZ c.m p q (min j a)} V/\Gd i {c with m:=aZ c.m p q (min j a)} an/\Kp i {c with m:=aZ c.m p q (min j a)}/\Bi B W V)
   _ IN X ?_ ?_ ?_ ?_ ?_ ?_ ?_
  ·rintro V⟨n,K,w⟩;refine(M n V K).mono ?_;rintro e V'⟨tr,N⟩;rcases tr.ob with⟨e1,_,_⟩|⟨F,v,i,e1,rfl,z,l,r,kl⟩;·cases e1
   cases e1;obtain⟨x,A,s,rfl,u⟩:=z.shape;exact .inr ⟨x,A,s,rfl,u,i,z,u,l,r,KP q c i O kl,w.trans N⟩
  ·rintro x A s V V'⟨i,z,u,l,r,F,w⟩b;exact⟨i,z,u,l.below b,r,F,w.add b l.bW⟩
  ·rintro x A s V⟨i,z,u,l,r,F,w⟩;exact BO i c V O.inv l F
  ·rintro x A s V⟨i,z,u,l,r,F,w⟩;exact z.base u l O.inv
  ·rintro x A s V⟨i,z,u,l,r,F,w⟩;exact CE i c V l F
  ·rintro x A s V⟨i,z,u,l,r,F,w⟩;refine(zL B y i cf c p q (min j a) V l O.inv ap aq Y).mono ?_;rintro e V'⟨rfl,⟨n,a0⟩,N⟩;exact⟨rfl,{i with f:=n},z.conv rfl rfl,a0,(r.fr n).st (λk=>dj _ _ _ _ _),KM i n c _ F,w.trans N⟩
  rintro x A V⟨i,z,l,r,F,w⟩;refine(RE i _ V l r o2 F).mono ?_;rintro e V'⟨rfl,⟨P,a0,a1,kl⟩,N⟩;exact⟨rfl,.yes q _ P _ V' (OA i _ P q _ V' o2.inv F z (λe=>Y e.symm) a0 kl) a0 a1,w.trans N⟩
theorem uF(B y d cf h k an)(p a:Nat)(W)(hp:Hp B y d cf h W)(O:Gd d h an)(o:vJ cf h k)(hk:k<=301)(a2:p<18446744073709551616)(ha:a<18446744073709551616):
  QA 101 #[J y.P 0,U p,U a] W (Es B y cf an W (a_ cf h p a)):=by
 rw[hH];have hu:h.rel.length<=100000:=by have:=o.few.rel;omega
 by_cases iF:p=0
 ·subst iF;rw[GP rfl];refine BB y.P a W _ ((kW B y d cf h k an a W hp O o ha).mono ?_);rintro e V⟨g,P⟩;unfold oW;rcases g.ob with⟨e1,rfl,tk⟩|⟨q,v,w,e1,rfl,ob,b,c,X⟩;·rw[e1];exact .inl ⟨_,rfl,.no 1 _ V tk,P⟩
  rw[e1];exact .inr ⟨_,rfl,.yes q v w _ V ob b c,P⟩
 rw[GO iF];have G:=oA B y d cf h p W hp o.inv o.byt a2 hu o.dok.key0 o.dok.key1;have NO:∀t,QA 103 #[J y.P 0,U p] W (Dv B y d cf h W (.no t))->QA 101 #[J y.P 0,U p,U a] W (Es B y cf an W (.no t,h)):=λt hI=>by
  refine(ye y.P p a t W iF (λV=>Tk B y cf h an V/\Bi B W V) (hI.mono ?_)).mono ?_
  ·rintro e V⟨n,lk,i,P⟩;cases lk;exact⟨rfl,Hg.tk ⟨_,i,O.fr n⟩,P⟩
  rintro e V⟨rfl,tk,P⟩;exact⟨.no t h V tk,P⟩
 have F:=bT h p;cases hf:aB h p with
 |no t=>
  rw[hf]at G;exact NO t G
 | slot c s j=>
  dsimp only;rw[hf]at G F;cases F with
  |slot _ _ _ g r x M S=>
  have a3:=(o.inv.req c s j g r x).1 S;have hz:=aX g;unfold dR at G;dsimp only at G;cases a0:sound cf h c s j with
  |false=>
   rw[a0,GO ar]at G;rw[GP rfl];exact NO 5 G
  | true=>
   rw[a0,GP rfl]at G;rw[GO ar];have N:QA 103 #[J y.P 0,U p] W λe V=>e=QJ (.iface 268 (J (y.sm c s j) 0))/\∃n,Hp B y {d with f:=n} cf h V/\Bi B W V:=by
    refine G.mono ?_;rintro e V⟨n,lk,i,P⟩;cases lk;exact⟨rfl,n,i,P⟩
   by_cases l:a<=1016/\fD a=c
   ·rw[GP l];refine ot y.P p a 268 (y.sm c s j) W iF (.inl rfl) (λV=>∃n,Hp B y {d with f:=n} cf h V/\Bi B W V) _ N ?_ ?_ (iV _ Z Z) ?_;·rintro V⟨n,i,T⟩;refine(om (y.sm c s j) (y.sb c s) c s j a V (i.scAt c s j g r x)).mono ?_;rintro e V'⟨rfl,b⟩;exact⟨by rw[G8 l],n,i.below b,T.add b i.bW⟩
    ·rintro V⟨n,i,T⟩;have Y:=i.sm c s j g r x;exact⟨h.rq c s j,bJ Y,by simp[QD,Y]⟩
    rintro V⟨n,i,T⟩;obtain⟨Q,b9⟩:=i.setRq1 g r x (a:Nat);refine⟨.yes p _ _ _ _ ?_ Q ⟨O.on,O.un,O.an⟩,T.trans b9⟩;rw[<-M];exact .slot c s j g r x
   rw[GO l];obtain⟨z,A⟩:∃z:Nat,h.rq c s j=(z:Int):=⟨(h.rq c s j).toNat,Z⟩;rw[A,F0];refine qp B y d cf h k an p a 268 (y.sm c s j) 162 z W hp.bW O o hk iF ha Z (.inl ⟨rfl,rfl⟩) (λw u=>u.rq c s j=(z:Int)/\u.st c s j=1/\aB u p=.slot c s j) N ?_ (.slot c s j g r x M S Z) ?_ (λw n u m kp=>kp) ?_ ?_ ?_ ?_;·intro n V i;refine(om (y.sm c s j) (y.sb c s) c s j a V (i.scAt c s j g r x)).mono ?_;rintro e V'⟨rfl,b⟩;exact⟨by rw[GR l],b⟩
   ·intro q u w gv X;obtain⟨e1,K⟩:=gv.live c s j g r x S;exact⟨K.trans A,e1,gW hf e1⟩
   ·intro w u V i1 i kp;rw[<-M];exact eI _ _ c s j V (i.scAt c s j g r x)
   ·rintro w u V i⟨e1,K,R⟩;rw[GT _ _ _ _ _ _ (i.sm c s j g r x),e1];rfl
   ·rintro w u V i g1 o1⟨e1,K,R⟩;rw[R];exact jv B y w cf u (k+1) an c s j V i g1 o1 g r x K
   rintro w u d9 q v V i1⟨e1,K,R⟩ob a1 Q X;rw[R]at Q⊢;exact ob.afterS Q X
 | range r=>
  dsimp only;rw[hf]at G F;cases F with
  |range _ c Y S=>
  obtain⟨r1,r2,r3,r4,r5,r6⟩:=o.inv.rgs r c;have a4:r.ext=r.guards+r.pages+1:=rfl;unfold dR at G;dsimp only at G;obtain⟨g,s,_⟩:=hp.lb r c;have N:QA 103 #[J y.P 0,U p] W λe V=>e=QJ (.iface 278 (J g 0))/\∃n,Hp B y {d with f:=n} cf h V/\Bi B W V:=by
   refine G.mono ?_;rintro e V⟨n,lk,i,P⟩;cases lk with
   |range _ M j=>
    rw[s]at j;cases j;exact⟨rfl,n,i,P⟩
  have a3:0<=r.rq/\r.rq<=r.pages*1024:=by
   rcases r6 with⟨_,u,j⟩|⟨u,_⟩
   ·unfold aR at j;split at j<;>omega
   omega
  by_cases l:1016<a/\aR a=r.pages
  ·rw[GP l];have a0:=l.2;unfold aR at a0;refine ot y.P p a 278 g W iF (.inr rfl) (λV=>∃n,Hp B y {d with f:=n} cf h V/\Bi B W V) _ N ?_ ?_ (iV _ Z Z) ?_;·rintro V⟨n,i,T⟩;refine(nU g a r V (i.lcOf o.inv c s) ha).mono ?_;rintro e V'⟨rfl,b⟩;exact⟨by rw[G8 l],n,i.below b,T.add b i.bW⟩
   ·rintro V⟨n,i,T⟩;obtain⟨M,e1,_,j⟩:=i.lb r c;rw[show({d with f:=n}:Dy).lg r.base=d.lg r.base from rfl,s]at e1;cases e1;exact⟨r.rq,bJ j,by simp[QD,j]⟩
   rintro V⟨n,i,T⟩;obtain⟨M,e1,_,j⟩:=i.lb r c;rw[show({d with f:=n}:Dy).lg r.base=d.lg r.base from rfl,s]at e1;cases e1;obtain⟨Q,b9⟩:=i.setLg c (λx hx e=>o.inv.uniq c hx e) (L:=g) s 1 (a:Nat) (W':=V.setCell (Qz g 1) (I a)) (au (al V g) 1 _) (by simp[World.setCell,FD,j,oV,S]);have e9:gX h.rg r.base 1 (a:Nat)=h.rg.map λx=>if x.base=r.base then {x with rq:=(a:Int)}else x:=by
    unfold gX;refine List.map_congr_left λx hx=>?_;by_cases e:x.base=r.base
    ·rw[GP e,GP e,o.inv.uniq c hx e,S]
    rw[GO e,GO e]
   rw[e9]at Q;refine⟨.yes p _ _ _ _ ?_ Q ⟨O.on,O.un,O.an⟩,T.trans b9⟩;rw[<-Y];exact .range {r with rq:=(a:Int)} g (FQ.2 ⟨r,c,by rw[GP rfl]⟩) S s
  rw[GO l];obtain⟨z,A⟩:∃z:Nat,r.rq=(z:Int):=⟨r.rq.toNat,Z⟩;rw[A,F0];refine qp B y d cf h k an p a 278 g 210 z W hp.bW O o hk iF ha Z (.inr ⟨rfl,rfl⟩) (λw u=>r∈u.rg/\w.lg r.base=some g/\aB u p=.range r) N ?_ (.range r c Y S Z) ?_ (λw n u m kp=>kp) ?_ ?_ ?_ ?_;·intro n V i;refine(nU g a r V (i.lcOf o.inv c s) ha).mono ?_;rintro e V'⟨rfl,b⟩;exact⟨by rw[GR l],b⟩
  ·intro q u w gv X;refine⟨?_,X _ _ s,fV hf ?_⟩
   ·rcases gv.rg with e|⟨x,e,_⟩;·rw[e];exact c
    rw[e];exact IF _ c
   rcases gv.rg with e|⟨x,e,_⟩;·exact .inl e
   exact .inr ⟨x,e⟩
  ·rintro w u V i1 i⟨e1,K,R⟩;refine(ie g r V (i.lcOf i1 e1 K)).mono ?_;rintro e V⟨rfl,rfl⟩;exact⟨by rw[Y],(Fu _ _).drew⟩
  ·rintro w u V i⟨e1,K,R⟩;obtain⟨M,f1,_,j⟩:=i.lb r e1;rw[K]at f1;cases f1;rw[GT _ _ _ _ _ _ j,<-A];rfl
  ·rintro w u V i g1 o1⟨e1,K,R⟩;rw[R];exact ju B y w cf u (k+1) an r g V i g1 o1 e1 S K
  rintro w u d9 q v V i1⟨e1,K,R⟩ob a1 Q X;rw[R]at Q⊢;exact ob.afterR i1 (by rw[Y];exact a1) Q X
def Ep(B:Nat)(y:Ly)(cf:Cf)(an:Value)(W:World)(r:An4×Hs)(e:Ending)(W':World):Prop:=∃v,e=.returned (jP r.1 v)/\W'.ownsRow W.heap.size 5 1 v r.1.data.length (Ns .u8 r.1.data)/\Hg B y cf r.2 an W'/\Bi B W W'
structure Lo(P X2 X3 X4:Nat)(op:Array QN)(V:QM):Prop where
 x2:V.heap[X2]?=some (.cells #[J P 0] 139)
 x3:V.heap[X3]?=some (.cells op 48)
 x4:V.heap[X4]?=some Qt
theorem Lo.bi{P}(l:Lo P X2 X3 X4 op V)(b:Bi B V V'):Lo P X2 X3 X4 op V':=
 ⟨b.ky.cells _ _ _ _ l.x2 (by unfold hI;decide),b.ky.cells _ _ _ _ l.x3 (by unfold hI;decide),b.ky.cells _ _ _ _ l.x4 (by unfold hI;decide)⟩
theorem Lo.below{P}(l:Lo P X2 X3 X4 op V)(b:D V V'):Lo P X2 X3 X4 op V':=
 ⟨ae l.x2 b,ae l.x3 b,ae l.x4 b⟩
theorem qQ(W P op):D W (three W P op):=
 (((Fu _ _).alloc (Fv _) _).alloc (by rw[aO];omega) _).alloc (by rw[aO,aO];omega) _
theorem yz(W:QM)(P op):Lo P W.heap.size (W.heap.size+1) (W.heap.size+1+1) op (three W P op):=by
 have e1:=aO W (.cells #[J P 0] 139);have a:=aO (W.alloc (.cells #[J P 0] 139)) (.cells op 48);refine⟨?_,?_,?_⟩;·unfold three;rw[eg _ _ _ (by rw[a,e1];omega),eg _ _ _ (by rw[e1];omega)];exact ao _ _
 ·unfold three;rw[eg _ _ _ (by rw[a,e1];omega),<-e1];exact ao _ _
 unfold three;rw[<-e1,<-a];exact ao _ _
theorem Bi.loc9{R:Nat}(k:Bi B W V)(g:V.grownBy V' (some R))(e:W.heap.size<=R)(i:B<=W.heap.size):Bi B W V':=by
 have j:=k.bel.size;refine⟨k.bel.grown g Z (λr a=>by simp at a;omega),g.os.trans k.ky.os,g.tape.trans k.ky.tape,g.output.trans k.ky.output,Fx k.ky.size g.size,λx c t f a b=>?_⟩;have d:=k.ky.cells x c t f a b;have:=ag a;rw[g.block x Z bG];exact d
theorem Hp.set81(i:Hp B y d cf h V){X:Nat}{c:Array QN}(b:V.heap[X]?=some (.cells c 46))(m:B<=X)(j:Array QN):Hp B y d cf h (V.setRow X j):=by
 have g:=aj V X j;refine i.keep ⟨Ky.grown b ar g,?_,?_⟩ ((Fu B V).grown g i.bW (λr a=>by simp at a;omega));·obtain⟨a,⟨k,l,f,_⟩,_⟩:=i.sp.map;exact g.block _ (ag f) (λe=>by simp at e;rw[<-e,f]at b;cases b)
 have⟨k,l,f⟩:=i.mp.typ;exact g.block _ (ag f) (λe=>by simp at e;rw[<-e,f]at b;cases b)
theorem Hg.set81{B y cf h an V}(b:Hg B y cf h an V){X:Nat}{c:Array QN}(e:V.heap[X]?=some (.cells c 46))(f:B<=X)(a:Array QN):Hg B y cf h an (V.setRow X a):=by
 have⟨d,g,i⟩:=b;exact⟨d,g.set81 e f a,i⟩
theorem TaR.sz{lg}{r:Option Nat×Hs}{e:Ending}(t:TaR B y cf an lg r e W'):SzR B y cf an (mQ r.1,r.2) e W':=by
 rcases t.ob with⟨e1,rfl,c⟩|⟨q,v,d,e1,rfl,f,a,b,_⟩;·rw[e1];exact .no 1 _ _ c
 rw[e1];exact .yes q v d _ _ f a b
theorem SzR.split{c:An4×Hs}{e:Ending}(s:SzR B y cf an c e V):(∃a b,c=(.no a,b)/\e=.panicked (ip a)/\Tk B y cf b an V)\/∃q v f b,c=(⟨0,q,0,[]⟩,b)/\e=QJ v/\Ob B y f cf b q v/\Hp B y f cf b V/\Gd f b an:=by
 cases s with
 |yes q v d b _ f g i=>exact .inr ⟨q,v,d,b,rfl,rfl,f,g,i⟩
 |no a b _ f=>exact .inl ⟨a,b,rfl,rfl,f⟩
theorem BC{an}{o:fL}(a:o.p<18446744073709551616)(h:iS an o=some q):q<18446744073709551616:=by
 unfold iS at h;split at h;·cases h;exact a
 split at h;·cases h
 cases h;exact Nat.mod_lt _ ar
def Ay(P X2 X3 X4:Nat)(op:Array Value)(W V:World):Prop:=D W V/\Lo P X2 X3 X4 op V
def Ew(B:Nat)(y:Ly)(cf:Cf)(an:Value)(res:An4×Hs)(X2 X3 X4:Nat)(op:Array Value)(W:World)(code:Int)(V:World):Prop:=∃e,res=(.no code,e)/\Tk B y cf e an V/\Lo y.P X2 X3 X4 op V/\Bi B W V
def OB(o:fL)(dd:Option Addr)(dc:Nat):Array Value:=#[I o.kd,I o.ref,U o.p,U o.a,U o.b,.slice dd o.ys.length dc]
theorem nE(B:Nat)(y:Ly)(cf an res)(o:fL)(dd dc)(W:QM)(f:B<=W.heap.size):
  Rn9 y.P W.heap.size (W.heap.size+1) (W.heap.size+1+1) o.kd o.ref o.p o.a o.b dd o.ys.length dc (Ay y.P W.heap.size (W.heap.size+1) (W.heap.size+1+1) (OB o dd dc) W) (Ew B y cf an res W.heap.size (W.heap.size+1) (W.heap.size+1+1) (OB o dd dc) W) (Ep B y cf an W res):=by
 refine⟨λV b=>cN b.2.x2,λV b=>b.2.x3,λV b=>b.2.x4,λV b=>⟨b.1.drew,b.2.below (Fu _ _).drew⟩,λV=>Ar _ _ V,?_⟩;rintro c V⟨l,a,m,d,g⟩;refine(xT B y cf l an W.heap.size (W.heap.size+1+1) c V (cN d.x2) d.x4 m).mono ?_;rintro e u W'⟨rfl,rfl,p,q,i,n,j,rfl⟩;have k:=((d.below i).bi j).x4;refine⟨rfl,rfl,_,_,_,_,aw k _,C,?_,?_,?_,?_⟩;·rw[a];rfl
 ·rw[a];exact eL _ _
 ·rw[a];exact n.set81 k Z _
 exact Bi.loc9 ((g.add i (Fx f g.bel.size)).trans j) (aj _ _ _) Z f
theorem oX{res o dd dc}{f:FuncId}{d:Array QN}(w:B<=W.heap.size)(k:Ay y.P W.heap.size (W.heap.size+1) (W.heap.size+1+1) (OB o dd dc) W V)(a:QA f d V (Es B y cf an V res)):
  QA f d V λe V'=>(∃b,e=.panicked (fw b)/\Ew B y cf an res W.heap.size (W.heap.size+1) (W.heap.size+1+1) (OB o dd dc) W b V')\/∃t g i,e=QJ (.iface t (J g 0))/\(t=268/\i=162\/t=278/\i=210)/\(λt g i V'=>∃j,Ob B y j cf res.2 res.1.addr (.iface t (J g 0))/\(t=268/\i=162\/t=278/\i=210)/\Hp B y j cf res.2 V'/\Gd j res.2 an/\Lo y.P W.heap.size (W.heap.size+1) (W.heap.size+1+1) (OB o dd dc) V'/\Bi B W V'/\res.1=⟨0,res.1.addr,0,[]⟩) t g i V':=by
 refine a.mono ?_;rintro e V'⟨sz,l⟩;have p:Bi B W V':=(Bi.ofBelow k.1 w).trans l;rcases sz.split with⟨b,r,c,rfl,x⟩|⟨q,v,j,r,c,rfl,s,m,n⟩;·exact .inl ⟨b,rfl,r,c,x,k.2.bi l,p⟩
 obtain⟨t,g,i,rfl,u⟩:=s.shape;refine .inr ⟨t,g,i,rfl,u,j,?_⟩;rw[c];exact⟨s,u,m,n,k.2.bi l,p,rfl⟩
theorem run_end{r:An4}{h1}(c:B<=W.heap.size)(d:W.heap.size<=X4)(e:Hg B y cf h1 an V)(b:Lo y.P X2 X3 X4 op V)(f:Bi B W V)(g:V.ownsRow W.heap.size 5 1 v r.data.length (Ns .u8 r.data))(a:Array QN):
  Ep B y cf an W (r,h1) (QJ (jP r v)) (V.setRow X4 a):=
 ⟨v,rfl,ai g (Ky.grown b.x4 rfl (aj V X4 a):Ky (· =46) V _) ar,e.set81 b.x4 Z a,Bi.loc9 f (aj _ _ _) d c⟩
theorem Ea(cf h)(o:fL)(p)(k:o.kd=0):NQ cf h o p=(mQ (av cf h o.a).1,(av cf h o.a).2):=by
 unfold NQ;dsimp only;rw[GP k];cases av cf h o.a with
 |mk x a=>cases x<;>rfl
theorem Ej(cf h)(o:fL)(p)(k:o.kd=1):NQ cf h o p=(mQ (mB cf h o.a o.b).1,(mB cf h o.a o.b).2):=by
 unfold NQ mB;dsimp only;rw[GO Z,GP k];split;·rfl
 cases av cf h (o.a*o.b)with
 |mk x a=>cases x<;>rfl
theorem Dj(cf h)(o:fL)(p)(k:o.kd=2):NQ cf h o p=a_ cf h p o.a:=by
 unfold NQ;dsimp only;rw[GO Z,GO Z,GP k]
theorem C_(cf h)(o:fL)(p)(k:o.kd=3):NQ cf h o p=match dR cf h (aB h p)with
  | .no code=>(.no code,h)
  | .slot c s j=>(.no 0,aL cf h c s j)
  | .range r=>(.no 0,aJ cf h r):=by
 unfold NQ;dsimp only;rw[GO Z,GO Z,GO Z,GP k]
 cases aB h p with
 |no code=>rfl
 |range r=>rfl
 |slot c s j=>
  unfold dR;dsimp only
  cases sound cf h c s j<;>rfl
theorem D_(cf h)(o:fL)(p)(k:o.kd=4):NQ cf h o p=match aB h p with
  | .no code=>(.no code,h)
  | .slot c s j=>(⟨0,0,eV c,[]⟩,h)
  | .range r=>(⟨0,0,r.pages*1024,[]⟩,h):=by
 unfold NQ;dsimp only;rw[GO Z,GO Z,GO Z,GO Z,GP k]
 cases aB h p<;>rfl
theorem De(cf h)(o:fL)(p)(k:o.kd=5):NQ cf h o p=(if 4096<o.a then(.no 6,h)else(⟨ci h.m p (o.a:Int),0,0,if ci h.m p (o.a:Int)=0 then aH h.m p o.a else[]⟩,h)):=by
 unfold NQ;dsimp only;rw[GO Z,GO Z,GO Z,GO Z,GO Z,GP k]
theorem Dq(cf h)(o:fL)(p)(k:o.kd=6):NQ cf h o p=(.no (ci h.m p (o.ys.length:Int)),{h with m:=if ci h.m p (o.ys.length:Int)=0 then ay h.m p o.ys o.ys.length else h.m}):=by
 unfold NQ;dsimp only;rw[GO Z,GO Z,GO Z,GO Z,GO Z,GO Z,GP k]
theorem Dk(cf h)(o:fL)(p)(a:¬o.kd=0)(b:¬o.kd=1)(c:¬o.kd=2)(d:¬o.kd=3)(e:¬o.kd=4)(f:¬o.kd=5)(g:¬o.kd=6):NQ cf h o p=(.no 6,h):=by
 unfold NQ;dsimp only;rw[GO a,GO b,GO c,GO d,GO e,GO f,GO g]
theorem yg(m a):ci m a ((4097:Nat):Int)=6:=by
 unfold ci;simp
theorem aN{d:Nat}{e:QO}{sz:Nat}{n:Nat}{f:List QN}(h:W.ownsRow B e sz v n f)(i:d<=B):W.ownsRow d e sz v n f:=by
 refine⟨h.1,?_⟩;rcases h.2 with a|⟨g,b,c,j,a,k⟩;·exact .inl a
 exact .inr ⟨g,b,c,j,Fx i a,k⟩
theorem yv(B B' y d cf h k l)(Q:QP)(R S:Nat)(o:fL)(dd)(w:Nat)(W)(hp:Hp B y d cf h W)(gd:Gd d h (.slice Q R S))(N:vJ cf h k)(hk:k<=301)(hA:wK B' W l (.slice Q R S))(a5:o.p<18446744073709551616)(a0:o.a<18446744073709551616)(a8:o.b<18446744073709551616)(b0: -9223372036854775808<=o.ref)(b1:o.ys.length<=w)(da:Da y.S y.M d.f W dd o.ys.length o.ys):
  QA 62 #[J y.P 0,eZ o dd w] W (Ep B y cf (.slice Q R S) W (bU cf h (l.map (·.1)) o)):=by
 have P:=hp.bW;have a6:h.rel.length<=100000:=by have:=N.few.rel;omega
 have h0:Ay y.P W.heap.size (W.heap.size+1) (W.heap.size+1+1) (OB o dd w) W (three W y.P (OB o dd w)):=⟨qQ _ _ _,yz _ _ _⟩;have TG:∀V,Ay y.P W.heap.size (W.heap.size+1) (W.heap.size+1+1) (OB o dd w) W V->QA 98 #[J y.P 0,.agg (OB o dd w)] V (D9 V (iS (l.map (·.1)) o)):=λV n=>
  uD B' y.P o dd o.ys.length w l Q R S V ((hp.below n.1).cell 119 Z _ gd.an) ⟨ax hA.row n.1,hA.len⟩ a5 b0
 have HV:=λV(n:Ay y.P W.heap.size (W.heap.size+1) (W.heap.size+1+1) (OB o dd w) W V)=>hp.below n.1
 rw[vi];cases a1:iS (l.map (·.1)) o with
 |none=>
  refine zv y.P _ _ _ o.kd o.ref o.p o.a o.b dd o.ys.length w W _ _ _ (nE B y cf (.slice Q R S) (.no 6,h) o dd w W P) rfl rfl rfl h0 ?_;intro V n;refine(TG V n).mono ?_;rintro e V'⟨b,⟨p,e1,_⟩|⟨_,rfl⟩⟩;·rw[a1]at e1;cases e1
  exact⟨rfl,h,rfl,Hg.tk ⟨d,(HV V n).below b,gd⟩,n.2.below b,(Bi.ofBelow n.1 P).add b (HV V n).bW⟩
 | some q=>
  dsimp only;have hq:=BC a5 a1;have TQ:∀V,Ay y.P W.heap.size (W.heap.size+1) (W.heap.size+1+1) (OB o dd w) W V->QA 98 #[J y.P 0,.agg (OB o dd w)] V λe V'=>e=QJ (U q)/\Ay y.P W.heap.size (W.heap.size+1) (W.heap.size+1+1) (OB o dd w) W V':=λV n=>by
   refine(TG V n).mono ?_;rintro e V'⟨b,⟨p,e1,rfl⟩|⟨e1,_⟩⟩;·rw[a1]at e1;cases e1;exact⟨rfl,n.1.trans (b.mono n.1.size),n.2.below b⟩
   rw[a1]at e1;cases e1
  have hinv:=(N.inv.do N.dok.fifo1 N.few o q).1;have NO:∀(i:An4×Hs)code V V',Ay y.P W.heap.size (W.heap.size+1) (W.heap.size+1+1) (OB o dd w) W V->i=(.no code,h)->(∃L,Hp B y {d with f:=L} cf h V')->Bi B V V'->Ew B y cf (.slice Q R S) i W.heap.size (W.heap.size+1) (W.heap.size+1+1) (OB o dd w) W code V':=λi code V V' n x⟨L,O⟩z=>
   ⟨h,x,Hg.tk ⟨_,O,gd.fr L⟩,n.2.bi z,(Bi.ofBelow n.1 P).trans z⟩
  have⟨i,x⟩:=Qa (NQ cf h o q);rw[x]at hinv⊢;have RF:=nE B y cf (.slice Q R S) i o dd w W P;have a2:∀V:QM,(∃t g M K,Ob B y K cf i.2 i.1.addr (.iface t (J g 0))/\(t=268/\M=162\/t=278/\M=210)/\Hp B y K cf i.2 V/\Gd K i.2 (.slice Q R S)/\Lo y.P W.heap.size (W.heap.size+1) (W.heap.size+1+1) (OB o dd w) V/\Bi B W V/\i.1=⟨0,i.1.addr,0,[]⟩)->V.heap[W.heap.size+1+1]?=some Qt/\Ep B y cf (.slice Q R S) W i (QJ (.agg #[I 0,U i.1.addr,I 0,C])) (V.setRow (W.heap.size+1+1) #[I 0,U i.1.addr,I 0,C]):=by
   rintro V⟨t,g,M,K,ob,ht,F,T,G,z,he⟩;refine⟨G.x4,?_⟩;have:=run_end (r:=⟨0,i.1.addr,0,[]⟩) P (show W.heap.size<=W.heap.size+1+1 by omega) ⟨K,F,T⟩ G z (eL V W.heap.size) #[I 0,U i.1.addr,I 0,C];obtain⟨⟨c9,a9,a,j⟩,h9⟩:=i;cases he;exact this
  by_cases k0:o.kd=0
  ·have e0:i=(mQ (av cf h o.a).1,(av cf h o.a).2):=(by rw[<-x,Ea cf h o q k0]);refine zh y.P _ _ _ o.kd o.ref o.p o.a o.b dd o.ys.length w q i.1.addr _ (λV=>∃t g M K,Ob B y K cf i.2 i.1.addr (.iface t (J g 0))/\(t=268/\M=162\/t=278/\M=210)/\Hp B y K cf i.2 V/\Gd K i.2 (.slice Q R S)/\Lo y.P W.heap.size (W.heap.size+1) (W.heap.size+1+1) (OB o dd w) V/\Bi B W V/\i.1=⟨0,i.1.addr,0,[]⟩) W _ _ _ RF rfl rfl rfl h0 k0 TQ (λV n=>oX P n ((kW B y d cf h k _ o.a V (HV V n) gd N a0).mono λe V' t=>by rw[e0];exact⟨t.1.sz,t.2⟩)) ?_ a2;rintro t g M V⟨K,ob,ht,F,T,G,z,he⟩;refine(ob.base ht F hinv).mono ?_;rintro e V'⟨rfl,b⟩;exact⟨rfl,t,g,M,K,ob,ht,F.below b,T,G.below b,z.add b F.bW,he⟩
  by_cases k1:o.kd=1
  ·have e0:i=(mQ (mB cf h o.a o.b).1,(mB cf h o.a o.b).2):=(by rw[<-x,Ej cf h o q k1]);refine zn y.P _ _ _ o.kd o.ref o.p o.a o.b dd o.ys.length w q i.1.addr _ (λV=>∃t g M K,Ob B y K cf i.2 i.1.addr (.iface t (J g 0))/\(t=268/\M=162\/t=278/\M=210)/\Hp B y K cf i.2 V/\Gd K i.2 (.slice Q R S)/\Lo y.P W.heap.size (W.heap.size+1) (W.heap.size+1+1) (OB o dd w) V/\Bi B W V/\i.1=⟨0,i.1.addr,0,[]⟩) W _ _ _ RF rfl rfl rfl h0 k1 TQ (λV n=>oX P n ((lD B y d cf h k _ o.a o.b V (HV V n) gd N a0 a8).mono λe V' t=>by rw[e0];exact⟨t.1.sz,t.2⟩)) ?_ a2;rintro t g M V⟨K,ob,ht,F,T,G,z,he⟩;refine(ob.base ht F hinv).mono ?_;rintro e V'⟨rfl,b⟩;exact⟨rfl,t,g,M,K,ob,ht,F.below b,T,G.below b,z.add b F.bW,he⟩
  by_cases k2:o.kd=2
  ·have e0:i=a_ cf h q o.a:=(by rw[<-x,Dj cf h o q k2]);refine yS y.P _ _ _ o.kd o.ref o.p o.a o.b dd o.ys.length w q i.1.addr _ (λV=>∃t g M K,Ob B y K cf i.2 i.1.addr (.iface t (J g 0))/\(t=268/\M=162\/t=278/\M=210)/\Hp B y K cf i.2 V/\Gd K i.2 (.slice Q R S)/\Lo y.P W.heap.size (W.heap.size+1) (W.heap.size+1+1) (OB o dd w) V/\Bi B W V/\i.1=⟨0,i.1.addr,0,[]⟩) W _ _ _ RF rfl rfl rfl h0 k2 TQ (λV n=>oX P n (by rw[e0];exact uF B y d cf h k _ q o.a V (HV V n) gd N hk hq a0)) ?_ a2;rintro t g M V⟨K,ob,ht,F,T,G,z,he⟩;refine(ob.base ht F hinv).mono ?_;rintro e V'⟨rfl,b⟩;exact⟨rfl,t,g,M,K,ob,ht,F.below b,T,G.below b,z.add b F.bW,he⟩
  by_cases k3:o.kd=3
  ·have e0:i=match dR cf h (aB h q)with
     | .no code=>(.no code,h)
     | .slot c s j=>(.no 0,aL cf h c s j)
     | .range r=>(.no 0,aJ cf h r):=by rw[<-x,C_ cf h o q k3]
   have A:=bT h q;refine yU y.P _ _ _ o.kd o.ref o.p o.a o.b dd o.ys.length w q
    (λv V=>∃L fd,AG y d fd (QJ v)/\dR cf h (aB h q)=fd/\Hp B y {d with f:=L} cf h V/\Lo y.P W.heap.size (W.heap.size+1) (W.heap.size+1+1) (OB o dd w) V/\Bi B W V)
    (λV=>i.1=.no 0/\Hg B y cf i.2 (.slice Q R S) V/\Lo y.P W.heap.size (W.heap.size+1) (W.heap.size+1+1) (OB o dd w) V/\Bi B W V) W _ _ _ RF rfl rfl rfl h0 k3 TQ ?_ ?_ ?_
   ·intro V n;refine(oA B y d cf h q V (HV V n) N.inv N.byt hq a6 N.dok.key0 N.dok.key1).mono ?_;rintro e V'⟨L,lk,O,z⟩;have X:Bi B W V':=(Bi.ofBelow n.1 P).trans z;have⟨fd,u⟩:=Qa (dR cf h (aB h q));rw[u]at lk e0;cases lk with
    |no code=>exact .inl ⟨code,rfl,NO i code V V' n e0 ⟨L,O⟩ z⟩
    |slot c s j=>exact .inr ⟨_,rfl,cN (n.2.bi z).x2,L,_,.slot c s j,u,O,n.2.bi z,X⟩
    |range r g hg=>exact .inr ⟨_,rfl,cN (n.2.bi z).x2,L,_,.range r g hg,u,O,n.2.bi z,X⟩
   ·rintro v V⟨L,fd,lk,u,O,G,z⟩;rw[u]at e0;have a7:=gd.fr L;cases lk with
    | slot c s j=>
     have sn:c<12/\s<6/\j<aM c/\h.st c s j=1:=by
      cases a:aB h q with
      |no code=>rw[a]at u;cases u
      |range r=>rw[a]at u;cases u
      | slot c' s' j'=>
       rw[a]at u A;unfold dR at u;dsimp only at u;split at u
       ·cases u;cases A with
        |slot _ _ _ Y h2 h3 h4 h5=>exact⟨Y,h2,h3,h5⟩
       cases u
     refine(jv B y _ cf h k _ c s j V O a7 N sn.1 sn.2.1 sn.2.2.1 sn.2.2.2).mono ?_;rintro e V'⟨rfl,⟨d9,a3,a4,_⟩,X⟩;rw[e0];exact⟨rfl,cN (G.bi X).x2,rfl,⟨d9,a3,a4⟩,G.bi X,z.trans X⟩
    | range r g hg=>
     have sn:r∈h.rg/\r.st=1:=by
      cases a:aB h q with
      |no code=>rw[a]at u;cases u
      |slot c s j=>
       rw[a]at u;unfold dR at u;dsimp only at u;split at u<;>cases u
      |range r'=>
       rw[a]at u A;cases u;cases A with
       |range _ Y h2 h3=>exact⟨Y,h3⟩
     refine(ju B y _ cf h k _ r g V O a7 N sn.1 sn.2 hg).mono ?_;rintro e V'⟨rfl,⟨d9,a3,a4,_⟩,X⟩;rw[e0];exact⟨rfl,cN (G.bi X).x2,rfl,⟨d9,a3,a4⟩,G.bi X,z.trans X⟩
   rintro V⟨e1,hg,G,z⟩;refine⟨G.x4,?_⟩;have:=run_end (r:=.no 0) P (show W.heap.size<=W.heap.size+1+1 by omega) hg G z (eL V W.heap.size) #[I 0,U 0,I 0,C];have⟨r9,h9⟩:=i;cases e1;exact this
  by_cases k4:o.kd=4
  ·have e0:i=match aB h q with
     | .no code=>(.no code,h)
     | .slot c s j=>(⟨0,0,eV c,[]⟩,h)
     | .range r=>(⟨0,0,r.pages*1024,[]⟩,h):=by rw[<-x,D_ cf h o q k4]
   have A:=bT h q;refine Ab y.P _ _ _ o.kd o.ref o.p o.a o.b dd o.ys.length w q i.1.size
    (λt g M V=>D W V/\Lo y.P W.heap.size (W.heap.size+1) (W.heap.size+1+1) (OB o dd w) V/\i=(⟨0,0,i.1.size,[]⟩,h)/\QA M #[J g 0] V λe V'=>e=QJ (I i.1.size)/\V'=V)
    (λV=>D W V/\Lo y.P W.heap.size (W.heap.size+1) (W.heap.size+1+1) (OB o dd w) V/\i=(⟨0,0,i.1.size,[]⟩,h)) W _ _ _ RF rfl rfl rfl h0 k4 TQ ?_ ?_ ?_
   ·intro V n;refine(nJ B y d cf h q V (HV V n) N.inv hq a6).mono ?_;rintro e V'⟨lk,b⟩;have bB:D W V':=n.1.trans (b.mono n.1.size);have a:=hp.below bB;cases u:aB h q with
    |no code=>
     rw[u]at lk e0;cases lk;exact .inl ⟨code,rfl,NO i code V V' n e0 ⟨d.f,a⟩ (Bi.ofBelow b (HV V n).bW)⟩
    |slot c s j=>
     rw[u]at lk e0 A;cases lk;cases A with
     |slot _ _ _ hc hs hj _ _=>
     refine .inr ⟨268,_,217,rfl,.inl ⟨rfl,rfl⟩,bB,n.2.below b,by rw[e0],?_⟩;rw[e0];exact mh _ _ c s j V' (a.scAt c s j hc hs hj)
    |range r=>
     rw[u]at lk e0 A;cases lk with
     |range _ g hg=>
     cases A with
     |range _ hr hb hl=>
     have⟨r1,r2,r3,r4,r5,r6⟩:=N.inv.rgs r hr;have a3:r.ext=r.guards+r.pages+1:=rfl;refine .inr ⟨278,_,346,rfl,.inr ⟨rfl,rfl⟩,bB,n.2.below b,by rw[e0],?_⟩;rw[e0];exact sY g r V' (a.lcOf N.inv hr hg) Z
   ·rintro t g M V⟨bB,G,e1,a⟩;refine a.mono ?_;rintro e V'⟨rfl,rfl⟩;exact⟨rfl,bB,G,e1⟩
   rintro V⟨bB,G,e1⟩;refine⟨G.x4,?_⟩;have:=run_end (r:=⟨0,0,i.1.size,[]⟩) P (show W.heap.size<=W.heap.size+1+1 by omega) ⟨d,hp.below bB,gd⟩ G (Bi.ofBelow bB P) (eL V W.heap.size) #[I 0,U 0,I i.1.size,C];rw[<-e1]at this;exact this
  by_cases k5:o.kd=5
  ·have e0:i=(if 4096<o.a then(.no 6,h)else(⟨ci h.m q (o.a:Int),0,0,if ci h.m q (o.a:Int)=0 then aH h.m q o.a else[]⟩,h)):=(by rw[<-x,De cf h o q k5]);refine zM y.P _ _ _ o.kd o.ref o.p o.a o.b dd o.ys.length w q
    (λv V=>(∃L,Hp B y {d with f:=L} cf h V)/\Lo y.P W.heap.size (W.heap.size+1) (W.heap.size+1+1) (OB o dd w) V/\Bi B W V/\i=(⟨0,0,0,i.1.data⟩,h)/\V.ownsRow W.heap.size 5 1 v i.1.data.length (Ns .u8 i.1.data)) W _ _ _ RF rfl rfl rfl h0 k5 TQ ?_ ?_
   ·intro V n;refine(jy B y d cf h q o.a V (HV V n) N.inv.out hq a0).mono ?_;rintro e V'⟨L,O,z,hc⟩;have X:Bi B W V':=(Bi.ofBelow n.1 P).trans z;have a3:W.heap.size<=V.heap.size:=n.1.size;by_cases a:4096<o.a
    ·rw[GP a]at e0;rw[Nat.min_eq_right (show 4097<=o.a by omega),yg]at hc;rcases hc with⟨Y,_⟩|⟨_,rfl⟩;·cases Y
     exact .inl ⟨6,rfl,NO i 6 V V' n e0 ⟨L,O⟩ z⟩
    rw[GO a]at e0;rw[Hz (show o.a<=4097 by omega)]at hc;rcases hc with⟨Y,v,rfl,ow⟩|⟨Y,rfl⟩;·obtain⟨a9,n9,c9,rfl⟩:=aA ow;rw[GP Y]at e0 ow;rw[Y]at e0;refine .inr ⟨a9,n9,c9,rfl,⟨L,O⟩,n.2.bi z,X,by rw[e0],?_⟩;rw[e0];exact aN ow a3
    rw[GO Y]at e0;exact .inl ⟨_,rfl,NO i _ V V' n e0 ⟨L,O⟩ z⟩
   rintro v V⟨⟨L,O⟩,G,z,e1,ow⟩;refine⟨G.x4,?_⟩;have:=run_end (r:=⟨0,0,0,i.1.data⟩) P (show W.heap.size<=W.heap.size+1+1 by omega) ⟨_,O,gd.fr L⟩ G z ow #[I 0,U 0,I 0,v];rw[<-e1]at this;exact this
  by_cases a:o.kd=6
  ·have e0:i=(.no (ci h.m q (o.ys.length:Int)),{h with m:=if ci h.m q (o.ys.length:Int)=0 then ay h.m q o.ys o.ys.length else h.m}):=(by rw[<-x,Dq cf h o q a]);refine zt y.P _ _ _ o.kd o.ref o.p o.a o.b dd o.ys.length w q
    (λV=>i.1=.no 0/\Hg B y cf i.2 (.slice Q R S) V/\Lo y.P W.heap.size (W.heap.size+1) (W.heap.size+1+1) (OB o dd w) V/\Bi B W V) W _ _ _ RF rfl rfl rfl h0 a TQ ?_ ?_
   ·intro V n;refine(iw B y d cf h q dd o.ys.length w o.ys V (HV V n) N.inv.out hq (da.belowD n.1) b1).mono ?_;rintro e V'⟨L,O,z,hc⟩;have X:Bi B W V':=(Bi.ofBelow n.1 P).trans z;have g9:Gd {d with f:=L} {h with m:=if ci h.m q (o.ys.length:Int)=0 then ay h.m q o.ys o.ys.length else h.m} (.slice Q R S):=(gd.fr L).st (λk=>by
     dsimp only;split;·exact dj _ _ _ _ _
     rfl)
    rcases hc with⟨Y,rfl⟩|⟨Y,rfl⟩;·refine .inr ⟨rfl,?_⟩;rw[e0];exact⟨by rw[Y],⟨_,O,g9⟩,n.2.bi z,X⟩
    refine .inl ⟨_,rfl,_,e0,Hg.tk ⟨_,O,g9⟩,n.2.bi z,X⟩
   rintro V⟨e1,hg,G,z⟩;refine⟨G.x4,?_⟩;have:=run_end (r:=.no 0) P (show W.heap.size<=W.heap.size+1+1 by omega) hg G z (eL V W.heap.size) #[I 0,U 0,I 0,C];have⟨r9,h9⟩:=i;cases e1;exact this
  have e0:i=(.no 6,h):=by rw[<-x,Dk cf h o q k0 k1 k2 k3 k4 k5 a]
  refine yM y.P _ _ _ o.kd o.ref o.p o.a o.b dd o.ys.length w q W _ _ _ RF rfl rfl rfl h0 TQ Z ?_;intro V n;exact NO i 6 V V n e0 ⟨d.f,HV V n⟩ (Bi.refl _ _)
end
end Go.Proofs.YtdhegekcmmlohaaGreatDoor
