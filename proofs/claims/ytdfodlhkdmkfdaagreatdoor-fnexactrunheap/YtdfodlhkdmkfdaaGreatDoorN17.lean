import Derived.Test.YtdfodlhkdmkfdaaGreatDoorN11
set_option linter.unusedVariables false
set_option linter.unusedSimpArgs false
set_option maxRecDepth 20000
set_option maxHeartbeats 8000000
namespace Go.Proofs.YtdfodlhkdmkfdaaGreatDoor
open Go.Proofs.Tryz
variable {B Q k n s:Nat} {h:Hs} {W W' W0:World} {x:Sm} {cf:Cf}
section
open Go.RowKit
theorem mO (c s:Nat) (W:World) (a:c<12) (d:s<6) :
  Calls prog 135 #[I c,I s] W λe W'=>e=.returned (I (aF c s:Nat))/\D W W':=by
 refine (pG (c:Int) (s:Int) Z Z W).mono ?_;rintro e W' ⟨rfl,b⟩;refine⟨ct ?_,b⟩;rw [zt a,sY a];unfold aF;simp
theorem G0 (B x cf h) (c s:Nat) (W) (b:Sh B x cf h W) (g:c<12) (d:s<6) :
  Calls prog 183 #[J x.P 0,I c,I s] W λe W'=>e=.returned (.bool (dJ h c s))/\D W W':=by
 have i:W.cell? ⟨x.P,6,none⟩=some (J x.T 0):=b.cell 6 _ rfl;have j:=cL g d;obtain⟨k,u,v,l,m,n,f,_⟩:=b.sp.page (aF c s) Z;obtain⟨o,q⟩:=b.sp.c;have r:=H (show dJ h c s=k from f.symm);have a:=H (λW'=>mO c s W' g d);generalize aF c s=p at *;have t:p<283:=Z;clear b m n q f j;go_enter func183,ntmps183;go_wp2
 go_region_with (first|(go_at_call 135;refine (a _).mono ?_;rintro e j ⟨rfl,f⟩;have b:D W j:=⟨f.os,f.tape,f.output,f.size,f.block⟩;have m:=ol b i;have n:=ol b o;have q:=ol b l))
 all_goals (go_wp2;go_ret;rw [r.out];exact⟨rfl,b⟩)
def xS (s n:Nat) (rg:List Rg9) (k:Nat):Bool:=(rg.take k).all λr=>decide (s+n<=r.first) || decide (r.first+r.ext<=s)
theorem zZ {a:List Rg9} {r:Rg9} (h:a[k]?=some r):xS s n a (k+1)=(xS s n a k&&(decide (s+n<=r.first) || decide (r.first+r.ext<=s))):=by
 unfold xS;rw [JK,h];simp
theorem qb {a:List Rg9} (h:a.length=k):xS s n a k=a.all λr=>decide (s+n<=r.first) || decide (r.first+r.ext<=s):=by
 unfold xS;rw [JN Z]
theorem wP (a:h.rg.length=k) (g:187<=s) (c:s+n<=283) (d:∀ t,187<=t->t<s->(decide (t+n<=283)&&xS t n h.rg k)=false) (b:xS s n h.rg k=true):eh h n=some s:=by
 have e:∀ j,j<s-187->(decide (j+n<=96)&&h.rg.all λr=>decide (187+j+n<=r.first) || decide (r.first+r.ext<=187+j))=false:=λj i=>by
  have:=d (187+j) Z Z;rw [qb a] at this;rw [show decide (j+n<=96)=decide (187+j+n<=283) by congr 1;simp;omega];exact this
 have f:(decide (s-187+n<=96)&&h.rg.all λr=>decide (187+(s-187)+n<=r.first) || decide (r.first+r.ext<=187+(s-187)))=true:=by
  rw [qb a] at b;rw [show 187+(s-187)=s by omega,b,zB Z];rfl
 unfold eh;rw [js (k:=s-187) Z e f];simp;omega
theorem xL (b:h.rg.length=k) (e:187<=s) (c:¬s+n<=283) (d:∀ t,187<=t->t<s->(decide (t+n<=283)&&xS t n h.rg k)=false):eh h n=none:=by
 unfold eh;rw [kK (λj a=>?_)];·rfl
 by_cases a:187+j<s;·have:=d (187+j) Z a;rw [qb b] at this;rw [show decide (j+n<=96)=decide (187+j+n<=283) by congr 1;simp;omega];exact this
 rw [t5 Z];rfl
theorem yI (W:World):Calls prog 85 #[] W λe W'=>e=.returned (I 187)/\D W W':=jn W
theorem nk (W:World):Calls prog 39 #[] W λe W'=>e=.returned (I 283)/\D W W':=oI W
theorem xD (B x cf h) (n:Nat) (W) (i:Sh B x cf h W) (T:h.rg.length<=1000) (w:1<=n) (V:n<=1000) (l:∀ r∈h.rg,r.first<=100000/\r.ext<=100000) :
  Calls prog 142 #[J x.P 0,I n] W λe W'=>e=.returned (I (match eh h n with|some s=>(s:Int)|none => -1))/\D W W':=by
 obtain⟨X,Y,b⟩:=aG i.rg;have N:W.cell? ⟨x.P,9,none⟩=some (.slice X h.rg.length Y):=by rw [<-b];exact i.cell 9 _ rfl
 obtain⟨g,f⟩:∃ g,h.rg.length=g:=⟨_,rfl⟩;rw [f] at N T;have c:=H f;have j:=H b;have O:=H i;have HF:=H l;have LA:=H yI;have AR:=H nk;obtain⟨d,a⟩:∃ d:Int,(match eh h n with|some s=>(s:Int)|none => -1)=d:=⟨_,rfl⟩;rw [a];have P:=H a;clear f b i l a;go_enter func142,ntmps142;go_wp2_with fail;refine (LA _).mono ?_;rintro e W1 ⟨rfl,a⟩;have Q:=H a;clear a;go_wp2;go_loopw [5] (λv wr=>∃ s:Nat,187<=s/\s<=284/\v=I s/\Hid (∀ t,187<=t->t<s->(decide (t+n<=283)&&xS t n h.rg g)=false)/\Hid (D W wr)) (λv _=>284-(intOf v).toNat);case atStart=>exact ⟨187,Jo _,Z,rfl,H (λt w h2=>Z),Q⟩
 case round =>
  obtain⟨s,l,a0,rfl,y,R⟩:=hrel;clear Q;go_wp2_with fail;refine (AR _).mono ?_;rintro e W2 ⟨rfl,a⟩;have p:=H (aB R a);clear a;by_cases m:s+n<=283
  ·have f:(s:Int)+(n:Int)<=283:=Z;have A:=ol p N;go_wp2;have a:decide ((s:Int)+(n:Int)<=283)=true:=cd
   (try simp only [a]);clear a f;go_loopw [6,22] (λb i a=>∃ k:Nat,k<=g/\i=I k/\b=.bool (xS s n h.rg k)/\Hid (D W a)) (λ_ i _=>g-(intOf i).toNat);(case atStart=>exact ⟨0,Jt _,rfl,rfl,p⟩);case round =>
    obtain⟨k,hk,rfl,rfl,a⟩:=hrel;clear A p R;by_cases F:k<g
    ·obtain⟨r,o⟩:∃ r,h.rg[k]?=some r:=⟨_,Jq (by rw [c.out];exact F)⟩;obtain⟨G,rfl⟩:=cw (j.out▸O.rg) (by rw [c.out];omega);obtain⟨d0,d1,d2,d3,d4,d5⟩:=(O.below a).range j o;have q:=H (a.alloc a.size (.cells #[U r.base,I r.first,I r.ext,I r.pages,I r.st,I r.rq] 106));have u:=H (zZ (s:=s) (n:=n) o);obtain⟨q1,q2⟩:=HF.out r (JA o);generalize r.st=z at *;generalize r.rq=z2 at *;generalize r.ext=K at *;generalize r.base=z5 at *;generalize r.first=z6 at *
     generalize r.pages=z7 at *;generalize xS s n h.rg k=b at *;clear o;cases b
     ·go_wp2;go_roundw;(case rel=>exact ⟨k+1,Z,aR,by rw [u.out];rfl,q⟩);case measure=>simp [intOf];omega
     by_cases o:s+n<=z6
     ·have L:(s:Int)+(n:Int)<=(z6:Int):=Z;go_wp2;go_roundw;(case rel=>exact ⟨k+1,Z,aR,by rw [u.out];simp [o],q⟩);case measure=>simp [intOf];omega
     have L:¬((s:Int)+(n:Int)<=(z6:Int)):=Z;by_cases S:z6+K<=s
     ·have M:(z6:Int)+(K:Int)<=(s:Int):=Z;go_wp2;go_roundw;(case rel=>exact ⟨k+1,Z,aR,by rw [u.out];simp [o,S],q⟩);case measure=>simp [intOf];omega
     have M:¬((z6:Int)+(K:Int)<=(s:Int)):=Z;go_wp2;go_roundw;(case rel=>exact ⟨k+1,Z,aR,by rw [u.out];simp [o,S],q⟩);case measure=>simp [intOf];omega
    obtain rfl:k=g:=Z;cases o:xS s n h.rg k
    ·have q:=H (show ∀ t,187<=t->t<s+1->(decide (t+n<=283)&&xS t n h.rg k)=false from λt w h2=>by
      by_cases e:t=s;·subst e;rw [o];simp
      exact y t w Z)
     go_wp2;go_roundw;(case rel=>exact ⟨s+1,Z,Z,aR,q,a⟩);case measure=>simp [intOf];omega
    have q:=H (show d=(s:Int) by
     rw [<-P.out,wP c.out l m y.out o])
    go_wp2;go_ret;rw [q.out];exact⟨rfl,a⟩
  have f:¬((s:Int)+(n:Int)<=283):=Z;have q:=H (show d = -1 by
   rw [<-P.out,xL c.out l m y.out])
  go_wp2;go_ret;rw [q.out];exact⟨rfl,p⟩
theorem wJ (W:World):Calls prog 185 #[] W λe W'=>∃ g,e=.returned (Vl g 2 2)/\RowV W' g 3 (Ns .i64 [0,3])/\D W W':=by
 have X:=av W (.cells #[I 0,I 3] 3);have b:D W (W.alloc (.cells #[I 0,I 3] 3)):=(Jn _ _).alloc (Jo _) _;have r:RowV (W.alloc (.cells #[I 0,I 3] 3)) W.heap.size 3 (Ns .i64 [0,3]):=⟨_,X,by simp [Ns],λi a=>by simp [Ns]⟩;go_enter func185,ntmps185;go_wp2;go_ret;exact⟨_,rfl,r,b⟩
theorem oT {α:Type} : ∀ (n:Nat) (f:Nat->List α),(∀ i,i<n->f i=[])->(List.range n).flatMap f=[]
 | 0,f,_=>rfl
 | n+1,f,a=>by
  rw [J7,J9,oT n f (λi b=>a i Z)]
  simp [a n Z]
theorem mD {α:Type} : ∀ (n c:Nat) (f:Nat->List α),c<n->(∀ i,i<n->i≠c->f i=[])->(List.range n).flatMap f=f c
 | 0,c,f,h,_=>by omega
 | n+1,c,f,h,a=>by
  rw [J7,J9]
  by_cases e:n=c
  ·subst e
   rw [oT n f (λi b=>a i Z Z)]
   simp
  rw [mD n c f Z (λi b b=>a i Z b)]
  simp [a n Z e]
theorem s_:(List.range 1062).map sA=dM:=by
 apply GR;intro i;by_cases a:i<1062;·rw [hH a];simp [a]
 rw [JB cd,JB (by rw [gn];omega)]
theorem Bq (h) (c s:Nat) (sts) (d:c<12) (e:s<6):(jE h c s sts 1062).map sA=((List.range (aU c)).filter λj=>sts.contains (h.st c s j)).map λj=>(c,s,j):=by
 have f:(jE h c s sts 1062).map sA=dM.filter λt=>t.1==c&&(t.2.1==s&&sts.contains (h.st t.1 t.2.1 t.2.2)):=by
  rw [<-s_,List.filter_map];rfl
 rw [f];unfold dM;rw [List.filter_flatMap,mD 12 c _ d (λi g a=>?_),List.filter_flatMap,mD 6 s _ e (λi g a=>?_),List.filter_map];·congr 1;apply List.filter_congr;intro j _;simp
 ·rw [Lh];intro t b;simp only [JE] at b;obtain⟨j,_,rfl⟩:=b;simp [a]
 rw [Lh];intro t b;simp only [List.mem_flatMap,JE] at b;obtain⟨_,_,j,_,rfl⟩:=b;simp [a]
theorem v3 (h) (c s:Nat) (a:c<12) (b:s<6):(jE h c s [0,3] 1062).map sA=(freeS h c s).map λj=>(c,s,j):=by
 rw [Bq h c s _ a b];congr 1;unfold freeS;apply List.filter_congr;intro j _;unfold bv;simp only [List.contains_eq_mem,JG,Kf,or_false,Bool.decide_or];rfl
theorem lE (h) (c s:Nat) (a:c<12) (b:s<6):(jE h c s [0,3] 1062).length=(freeS h c s).length:=by
 have:=congrArg List.length (v3 h c s a b);simpa using this
theorem tS {c r K:Nat} (g:c<12) (i:s<6) (d:(jE h c s [0,3] 1062)[r]?=some K):K<1062/\∃ j,(freeS h c s)[r]?=some j/\j<aU c/\sA K=(c,s,j):=by
 have f:=JA d;unfold jE at f;have k:=(J8.1 f).1;refine⟨by simpa using k,?_⟩;have e:=congrArg (λl=>l[r]?) (v3 h c s g i);simp only [J6,d,DC] at e;cases b:(freeS h c s)[r]? with
 | none=>rw [b] at e;cases e
 | some j =>
  rw [b] at e;have a:=JA b;unfold freeS at a;have l:=(J8.1 a).1;exact⟨j,rfl,by simpa using l,by simpa using e⟩
theorem xG (p):bj p=(fS p).map sA:=by
 unfold bj fS;rw [<-s_,List.find?_map];rfl
theorem Ff (h:Hs):(List.range h.rg.length).map (vI h)=h.rg:=by
 apply GR;intro i;by_cases a:i<h.rg.length;·simp [a,vI]
 rw [JB cd,JB Z]
theorem Co (h:Hs) (p:Nat):(h.rg.find? λr=>r.base==p)=(fR h p).map (vI h):=by
 have e:(h.rg.find? λr=>r.base==p)=(((List.range h.rg.length).map (vI h)).find? λr=>r.base==p):=by rw [Ff]
 rw [e,List.find?_map];rfl
theorem Hr {p} (h:fS p=some k):k<1062/\gJ k=p:=by
 unfold fS at h;rw [KX] at h;exact⟨by simpa using h.2.1,by simpa using h.1⟩
theorem Gk {p i:Nat} (a:fR h p=some i):h.rg[i]?=some (vI h i)/\(vI h i).base=p:=by
 unfold fR at a;rw [KX] at a;have b:i<h.rg.length:=by simpa using a.2.1
 exact⟨by simp [vI,b],by simpa using a.1⟩
inductive Gu (h:Hs) (p:Nat):Fd->Int×Int×Int->Prop
 | slot (c s j K:Nat):K<1062->sA K=(c,s,j)->bF c s j=p->h.st c s j=1->Gu h p (.slot c s j) ((K:Int),-1,0)
 | range (r:Rg9) (i:Nat):h.rg[i]?=some r->r.base=p->r.st=1->Gu h p (.range r) (-1,(i:Int),0)
 | no (code:Int):(code=3\/code=4)->Gu h p (.no code) (-1,-1,code)
theorem jQ (h p):Gu h p (aP h p) (ga h p):=by
 unfold aP ga;rw [xG];cases e:fS p with
 | some k =>
  obtain⟨f,ha⟩:=Hr e;obtain⟨⟨c,s,j⟩,b⟩:∃ t,sA k=t:=⟨_,rfl⟩;have g:dH h k=h.st c s j:=by unfold dH;rw [b]
  have i:bF c s j=p:=by rw [<-ha];unfold gJ;rw [b]
  simp only [DC,b,g];by_cases a:h.st c s j=1;·rw [tm a,tm a];exact .slot c s j k f b i a
  rw [tg a,tg a];by_cases d:h.st c s j=0;·rw [tm d,tm d];exact .no 3 (.inl rfl)
  rw [tg d,tg d];exact .no 4 (.inr rfl)
 | none =>
  simp only [Option.map_none];rw [Co];cases b:fR h p with
  | some i =>
   obtain⟨c,d⟩:=Gk b;simp only [DC];by_cases a:(vI h i).st=1;·rw [tm a,tm a];exact .range _ i c d a
   rw [tg a,tg a];exact .no 4 (.inr rfl)
  | none =>
   simp only [Option.map_none];by_cases x:h.rel.contains p=true;·rw [tm x,tm x];exact .no 4 (.inr rfl)
   rw [tg x,tg x];exact .no 3 (.inl rfl)
theorem dh {P:Program} {t:TypeId} {c:Array Oper} {b:List Oper} {o:Oper} {a:Act} {w:World} {Q:Exit->Act->World->Prop} (d:o.guard=none) (s x:Operand)
  (i:o.op=.call { callee:=.builtin .append,args:=#[s,x],argTypes:=#[t,t] }) (j:o.type=t) {v e f:Value} {g:World} (k:a.eval s=v) (l:a.eval x=e)
  (m:(Builtin.append_ #[t,t] t #[v,e]).run P w=.ok f g) (h:wpList P c Q b (a.put o.dst f) g):wpList P c Q (o::b) a w:=by
 refine Lf d λK n=>?_;unfold Oper.wp;simp [execOp,i,j,resolve,invoke,builtin,k,l,m,Result.andThen];exact n _ _ h
theorem Ch:(prog.info? 106).map (λi=>(i.zero,i.size,i.bytes))=some (some (.agg #[U 0,I 0,I 0,I 0,I 0,I 0]),6,48):=E
theorem jB:(prog.info? 22).map (λi=>(i.zero,i.size,i.bytes))=some (some (U 0),1,8):=E
theorem tF (l:List Rg9) (r:Rg9):ft (l++[r])=ft l++rC r:=by simp [ft,rC]
theorem d_ (l):(ft l).length=l.length*6:=by
 induction l with
 | nil=>rfl
 | cons r l a=>simp only [ft,Kw,Jv,JD] at a ⊢;rw [a];simp;omega
theorem mg (l:List Nat) (n:Nat):Us (l++[n])=Us l++[U (n:Int)]:=by simp [Us]
theorem gt (l):(Us l).length=l.length:=by simp [Us]
theorem yk (W:World) (B:Nat) (v:Value) (l:List Rg9) (r) (g:Nat) (c) (a:W.ownsRow B 106 6 v l.length (ft l)) (o:W.heap[g]?=some (.cells (rC r).toArray 106)) (z:l.length<=1000) (p:B<=W.heap.size) :
  ∃ d b,(Builtin.append_ #[95,95] 95 #[v,Vl g 1 c]).run prog W=.ok d b/\b.ownsRow B 106 6 d (l++[r]).length (ft (l++[r]))/\W.grownBy b v.ownBlock:=by
 obtain⟨q,e,f,i,k⟩:=zr Ch;have m:∀ j u,(rC r)[j]?=some u->W.cell? ((⟨g,0,none⟩:Addr).add j)=some u:=λj u s=>by
  rw [Addr.add_mid,JQ,t6 _ _ j _ _ _ o];simpa using s
 have t:∀ u∈rC r,u.oneCell'=true:=λu n=>by
  simp only [rC,JG,Kf,or_false] at n;rcases n with rfl|rfl|rfl|rfl|rfl|rfl <;> rfl
 obtain⟨d,b,w,x,y,_⟩:=Kg (P:=prog) W B 95 95 106 q _ 6 48 underlying95 e f i k rfl Z v _ _ a ⟨g,0,none⟩ 1 c (rC r) rfl m t (by unfold maxLen;omega) Z p;exact⟨d,b,w,by rw [tF,Jv];exact x,y⟩
theorem kg (W:World) (B:Nat) (v:Value) (l m:List Nat) (x:Addr) (c:Nat) (a:W.ownsRow B 22 1 v l.length (Us l)) (k:∀ j u,(Us m)[j]?=some u->W.cell? (x.add j)=some u) (w:l.length+m.length<=100000) (o:B<=W.heap.size) :
  ∃ d b,(Builtin.append_ #[33,33] 33 #[v,.slice (some x) m.length c]).run prog W=.ok d b/\b.ownsRow B 22 1 d (l++m).length (Us (l++m))/\W.grownBy b v.ownBlock:=by
 obtain⟨p,e,f,g,i⟩:=zr jB;have q:∀ u∈Us m,u.oneCell'=true:=λu j=>by
  simp only [Us,JE] at j;obtain⟨n,_,rfl⟩:=j;rfl
 obtain⟨d,b,r,s,t,_⟩:=Kg (P:=prog) W B 33 33 22 p _ 1 8 underlying33 e f g i rfl Z v _ _ a x m.length c (Us m) (by rw [gt,Nat.mul_one]) k q (by unfold maxLen;omega) Z o;exact⟨d,b,r,by rw [Jv];simpa [Us] using s,t⟩
theorem Dt.own {T bud m V V1} (a:Sx T Q n bud m V) (j:D V V1) {g cp} {b:List Int} (l:b.length=k) (d:V1.ownsRow V.heap.size 5 1 (Vl g k cp) k (Ns .u8 b)):Dt Q V1 (some ⟨g,0,none⟩) k b:=by
 subst l;obtain⟨c,o⟩:=dz d;have p:V.heap.size<=g:=by
  rcases d.2 with ⟨e,_⟩|⟨q,f,i,e,r,_⟩;·simp at e
  simp at e;omega
 refine⟨rfl,λi q=>⟨⟨g,0,none⟩,rfl,?_,?_,?_,λf=>?_⟩⟩;·rw [Addr.add_mid,JQ];exact be d i _ (by simp [Ns,q])
 ·rw [Addr.add_mid];exact ah o
 ·rw [Addr.add_mid];have:=a.ltQ;show g≠Q;omega
 rw [Addr.add_mid] at f;have r:V1.heap[Q]?=V.heap[Q]?:=j.block Q a.ltQ;obtain⟨s,e⟩:=a.pgT (di r f);have:=ah e;exact absurd this (by show ¬g<_;omega)
def hT (t:TypeId):Prop:=t=97\/t=100\/t=104\/t=106\/t=22\/t=164\/t=5
structure Bk (B Q:Nat) (W W':World):Prop where
 bel:Below B W W'
 ky:Ky hT W W'
 by5:∀ (g:Nat) (c:Array Value) (f:Nat×Nat),W.heap[g]?=some (.cells c 5 f)->¬fm Q W g->W'.heap[g]?=some (.cells c 5 f)
 pg:∀ g,fm Q W' g->fm Q W g\/W.heap.size<=g
theorem Bk.refl (B Q W):Bk B Q W W:=⟨Jn _ _,Ky.refl _ _,λ_ _ _ h _=>h,λ_ h=>.inl h⟩
theorem Bk.trans {B Q a b c} (h:Bk B Q a b) (k:Bk B Q b c):Bk B Q a c:=by
 refine⟨h.bel.trans k.bel,h.ky.trans k.ky,λg j f l e=>k.by5 g j f (h.by5 g j f l e) (λi=>?_),λg e=>?_⟩
 ·rcases h.pg g i with d|d;·exact e d
  have:=ah l;omega
 rcases k.pg g e with d|d;·exact h.pg g d
 right;have:=h.bel.size;omega
theorem Bk.ofBelow (b:D W W') (d:Q<W.heap.size) (e:B<=W.heap.size):Bk B Q W W' :=
 ⟨b.mono e,Ky.below b,λg c f a _=>by rw [b.block g (ah a)];exact a,λg a=>.inl (di (b.block Q d) a)⟩
theorem Bk.add {V V'} (h:Bk B Q W V) (b:D V V') (a:Q<V.heap.size) (c:B<=V.heap.size):Bk B Q W V':=h.trans (Bk.ofBelow b a c)
theorem Bk.ofGrown {P:Nat} {c l:Array Value} {t:TypeId} {f m:Nat×Nat} (j:W.heap[P]?=some (.cells c t f)) (d:W.heap[Q]?=some (.cells l 164 m)) (n:hT t) (o:t≠5) (b:t≠164) (q:B<=P) (k:B<=W.heap.size) (i:W.grownBy W' (some P)):Bk B Q W W':=by
 have p:Q≠P:=λe=>by
  subst e;rw [j] at d;simp at d;exact b d.2.1
 refine⟨(Jn B W).grown i k (λr a=>by simp at a;omega),Ky.grown j n i,λg r s a _=>?_,λg a=>.inl (di (i.block Q (ah d) cd) a)⟩;rw [i.block g (ah a) (λe=>?_)];·exact a
 simp at e;subst e;rw [j] at a;simp at a;exact o a.2.1
theorem Bk.ofSf {T bud m} (i:Sx T Q n bud m W) (a:Sf Q W W') (k:B<=W.heap.size) (l:B<=Q) (b:∀ g,fm Q W g->B<=g):Bk B Q W W':=by
 refine⟨a.below k l b,(a.ky i).more (λt c=>by unfold hT;rcases c with h|h <;> simp [h]),λg c f d b=>?_,a.pg⟩;rw [a.block g (ah d) (λe=>?_) b];·exact d
 subst e;obtain⟨o,j,_⟩:=i.row;rw [d] at j;simp at j
theorem Sh.qrow (a:Sh B x cf h W):∃ b,W.heap[x.Q]?=some (.cells b 164):=by
 obtain⟨b,c,_⟩:=a.sp.row;exact⟨b,c⟩
theorem Sh.ltQ {B x cf h W} (a:Sh B x cf h W):x.Q<W.heap.size:=a.sp.ltQ
theorem Sh.bkB (a:Sh B x cf h W) (k:Bk B x.Q W0 W) (c:B<=W0.heap.size) (b:D W W'):Bk B x.Q W0 W':=k.add b a.ltQ (Jp c k.bel.size)
theorem Sh.bkP (a:Sh B x cf h W) (k:Bk B x.Q W0 W) (b:B<=W0.heap.size) (g:W.grownBy W' (some x.P)):Bk B x.Q W0 W':=by
 obtain⟨d,c⟩:=a.qrow;exact k.trans (Bk.ofGrown a.box c (.inl rfl) al al a.bp (Jp b k.bel.size) g)
theorem Sh.bkG (a:Sh B x cf h W) (k:Bk B x.Q W0 W) (d:B<=W0.heap.size) (i:Nat) (v:Value):Bk B x.Q W0 (W.setCell ⟨x.G,i,none⟩ v):=by
 obtain⟨n,f⟩:=a.qrow;obtain⟨c,j⟩:=dz a.sl;have l:B<=x.G:=by
  rcases a.sl.2 with ⟨e,_⟩|⟨g,b,m,e,o,_⟩;·simp at e
  simp at e;omega
 exact k.trans (Bk.ofGrown j f (.inr (.inl rfl)) al al l (Jp d k.bel.size) (au (ao W x.G) i v))
theorem Sh.bkS (a:Sh B x cf h W) (k:Bk B x.Q W0 W) (b:B<=W0.heap.size) (f:Sf x.Q W W'):Bk B x.Q W0 W':=k.trans (Bk.ofSf a.sp f (Jp b k.bel.size) a.bq a.bg)
theorem sT (mi fi la bu ky) (i:Option Addr) (g j:Nat) (A:Option Addr) (n k:Nat) (W:World) :
  Calls prog 19 #[.agg #[I mi,I fi,I la,I bu,U ky,.slice i g j],.slice A n k] W λe W'=>e=.returned (.bool (decide (0<=mi/\mi<=16/\1<=fi/\fi<=32/\1<=la/\la<=16/\0<=bu/\bu<=283/\g<=20000/\n<=300)))/\D W W':=by
 have d:D W (W.alloc (.cells #[I mi,I fi,I la,I bu,U ky,.slice i g j] 39)):=(Jn _ _).alloc (Jo _) _;have a:=av W (.cells #[I mi,I fi,I la,I bu,U ky,.slice i g j] 39);have r:=H nk;obtain⟨m,c⟩:∃ m,decide (0<=mi/\mi<=16/\1<=fi/\fi<=32/\1<=la/\la<=16/\0<=bu/\bu<=283/\g<=20000/\n<=300)=m:=⟨_,rfl⟩;rw [c];have b:=H c;clear c;have c:=d.size;go_enter func19,ntmps19;go_wp2_with fail;generalize W.alloc _=V at d a c ⊢;have f:=H (show ∀ W',D V W'->D W W' from λW' h=>d.trans (h.mono c));clear d c;generalize W.heap.size=Y at a ⊢;have o:=H (show ∀ d,D V d->D V d/\d.cell? ⟨Y,0,none⟩=some (I mi)/\d.cell? ⟨Y,1,none⟩=some (I fi)/\d.cell? ⟨Y,2,none⟩=some (I la)/\d.cell? ⟨Y,3,none⟩=some (I bu)/\d.cell? ⟨Y,5,none⟩=some (.slice i g j) from λd h =>
  ⟨h,ol h (by simp only [World.cell?,a];rfl),ol h (by simp only [World.cell?,a];rfl),ol h (by simp only [World.cell?,a];rfl),ol h (by simp only [World.cell?,a];rfl),ol h (by simp only [World.cell?,a];rfl)⟩)
 clear a;refine rh (S:=λd=>D V d/\d.cell? ⟨Y,0,none⟩=some (I mi)/\d.cell? ⟨Y,1,none⟩=some (I fi)/\d.cell? ⟨Y,2,none⟩=some (I la)/\d.cell? ⟨Y,3,none⟩=some (I bu)/\d.cell? ⟨Y,5,none⟩=some (.slice i g j)) ?_;have a:=o.out _ (Jn _ _).drew;refine pk 0 (J Y 0) a ?_;refine pz 1 (I mi) a ?_;cases c:decide (0<=mi);·refine pz 2 (.bool false) a ?_;refine pk 3 (.bool false) a ?_;refine ps 4 a ?_;refine ps 5 a ?_;refine ps 6 a ?_;refine pk 7 (.bool false) a ?_;refine pk 8 (.bool false) a ?_;refine ps 9 a ?_;refine ps 10 a ?_;refine ps 11 a ?_;refine pk 12 (.bool false) a ?_;refine pk 13 (.bool false) a ?_;refine ps 14 a ?_;refine ps 15 a ?_;refine ps 16 a ?_;refine pk 17 (.bool false) a ?_;refine pk 18 (.bool false) a ?_;refine ps 19 a ?_;refine ps 20 a ?_;refine ps 21 a ?_;refine pk 22 (.bool false) a ?_;refine pk 23 (.bool false) a ?_;refine ps 24 a ?_;refine ps 25 a ?_;refine ps 26 a ?_;refine pk 27 (.bool false) a ?_;refine pk 28 (.bool false) a ?_;refine ps 29 a ?_;refine ps 30 a ?_;refine ps 31 a ?_;refine pk 32 (.bool false) a ?_;refine pk 33 (.bool false) a ?_;refine ps 34 a ?_;refine ps 35 a ?_;refine ps 36 a ?_;refine ps 37 a ?_;refine pk 38 (.bool false) a ?_;refine pk 39 (.bool false) a ?_;refine ps 40 a ?_;refine ps 41 a ?_;refine ps 42 a ?_;refine ps 43 a ?_;refine pk 44 (.bool false) a ?_;refine pk 45 (.bool false) a ?_;refine ps 46 a ?_;refine ps 47 a ?_;refine ps 48 a ?_;refine pk 49 (.bool false) a ?_;refine pk 50 (.bool false) a ?_;refine bY ?_;go_wp2;go_ret;exact⟨by rw [<-b.out,t5 (by simp at c;omega)];rfl,f _ a.1⟩
 refine pz 2 (.bool true) a ?_;refine pk 3 (.bool true) a ?_;refine pk 4 (J Y 0) a ?_;refine pz 5 (I mi) a ?_;cases c:decide (mi<=16);·refine pz 6 (.bool false) a ?_;refine pk 7 (.bool false) a ?_;refine pk 8 (.bool false) a ?_;refine ps 9 a ?_;refine ps 10 a ?_;refine ps 11 a ?_;refine pk 12 (.bool false) a ?_;refine pk 13 (.bool false) a ?_;refine ps 14 a ?_;refine ps 15 a ?_;refine ps 16 a ?_;refine pk 17 (.bool false) a ?_;refine pk 18 (.bool false) a ?_;refine ps 19 a ?_;refine ps 20 a ?_;refine ps 21 a ?_;refine pk 22 (.bool false) a ?_;refine pk 23 (.bool false) a ?_;refine ps 24 a ?_;refine ps 25 a ?_;refine ps 26 a ?_;refine pk 27 (.bool false) a ?_;refine pk 28 (.bool false) a ?_;refine ps 29 a ?_;refine ps 30 a ?_;refine ps 31 a ?_;refine pk 32 (.bool false) a ?_;refine pk 33 (.bool false) a ?_;refine ps 34 a ?_;refine ps 35 a ?_;refine ps 36 a ?_;refine ps 37 a ?_;refine pk 38 (.bool false) a ?_;refine pk 39 (.bool false) a ?_;refine ps 40 a ?_;refine ps 41 a ?_;refine ps 42 a ?_;refine ps 43 a ?_;refine pk 44 (.bool false) a ?_;refine pk 45 (.bool false) a ?_;refine ps 46 a ?_;refine ps 47 a ?_;refine ps 48 a ?_;refine pk 49 (.bool false) a ?_;refine pk 50 (.bool false) a ?_;refine bY ?_;go_wp2;go_ret;exact⟨by rw [<-b.out,t5 (by simp at c;omega)];rfl,f _ a.1⟩
 refine pz 6 (.bool true) a ?_;refine pk 7 (.bool true) a ?_;refine pk 8 (.bool true) a ?_;refine pk 9 (J Y 1) a ?_;refine pz 10 (I fi) a ?_;cases c:decide (1<=fi);·refine pz 11 (.bool false) a ?_;refine pk 12 (.bool false) a ?_;refine pk 13 (.bool false) a ?_;refine ps 14 a ?_;refine ps 15 a ?_;refine ps 16 a ?_;refine pk 17 (.bool false) a ?_;refine pk 18 (.bool false) a ?_;refine ps 19 a ?_;refine ps 20 a ?_;refine ps 21 a ?_;refine pk 22 (.bool false) a ?_;refine pk 23 (.bool false) a ?_;refine ps 24 a ?_;refine ps 25 a ?_;refine ps 26 a ?_;refine pk 27 (.bool false) a ?_;refine pk 28 (.bool false) a ?_;refine ps 29 a ?_;refine ps 30 a ?_;refine ps 31 a ?_;refine pk 32 (.bool false) a ?_;refine pk 33 (.bool false) a ?_;refine ps 34 a ?_;refine ps 35 a ?_;refine ps 36 a ?_;refine ps 37 a ?_;refine pk 38 (.bool false) a ?_;refine pk 39 (.bool false) a ?_;refine ps 40 a ?_;refine ps 41 a ?_;refine ps 42 a ?_;refine ps 43 a ?_;refine pk 44 (.bool false) a ?_;refine pk 45 (.bool false) a ?_;refine ps 46 a ?_;refine ps 47 a ?_;refine ps 48 a ?_;refine pk 49 (.bool false) a ?_;refine pk 50 (.bool false) a ?_;refine bY ?_;go_wp2;go_ret;exact⟨by rw [<-b.out,t5 (by simp at c;omega)];rfl,f _ a.1⟩
 refine pz 11 (.bool true) a ?_;refine pk 12 (.bool true) a ?_;refine pk 13 (.bool true) a ?_;refine pk 14 (J Y 1) a ?_;refine pz 15 (I fi) a ?_;cases c:decide (fi<=32);·refine pz 16 (.bool false) a ?_;refine pk 17 (.bool false) a ?_;refine pk 18 (.bool false) a ?_;refine ps 19 a ?_;refine ps 20 a ?_;refine ps 21 a ?_;refine pk 22 (.bool false) a ?_;refine pk 23 (.bool false) a ?_;refine ps 24 a ?_;refine ps 25 a ?_;refine ps 26 a ?_;refine pk 27 (.bool false) a ?_;refine pk 28 (.bool false) a ?_;refine ps 29 a ?_;refine ps 30 a ?_;refine ps 31 a ?_;refine pk 32 (.bool false) a ?_;refine pk 33 (.bool false) a ?_;refine ps 34 a ?_;refine ps 35 a ?_;refine ps 36 a ?_;refine ps 37 a ?_;refine pk 38 (.bool false) a ?_;refine pk 39 (.bool false) a ?_;refine ps 40 a ?_;refine ps 41 a ?_;refine ps 42 a ?_;refine ps 43 a ?_;refine pk 44 (.bool false) a ?_;refine pk 45 (.bool false) a ?_;refine ps 46 a ?_;refine ps 47 a ?_;refine ps 48 a ?_;refine pk 49 (.bool false) a ?_;refine pk 50 (.bool false) a ?_;refine bY ?_;go_wp2;go_ret;exact⟨by rw [<-b.out,t5 (by simp at c;omega)];rfl,f _ a.1⟩
 refine pz 16 (.bool true) a ?_;refine pk 17 (.bool true) a ?_;refine pk 18 (.bool true) a ?_;refine pk 19 (J Y 2) a ?_;refine pz 20 (I la) a ?_;cases c:decide (1<=la);·refine pz 21 (.bool false) a ?_;refine pk 22 (.bool false) a ?_;refine pk 23 (.bool false) a ?_;refine ps 24 a ?_;refine ps 25 a ?_;refine ps 26 a ?_;refine pk 27 (.bool false) a ?_;refine pk 28 (.bool false) a ?_;refine ps 29 a ?_;refine ps 30 a ?_;refine ps 31 a ?_;refine pk 32 (.bool false) a ?_;refine pk 33 (.bool false) a ?_;refine ps 34 a ?_;refine ps 35 a ?_;refine ps 36 a ?_;refine ps 37 a ?_;refine pk 38 (.bool false) a ?_;refine pk 39 (.bool false) a ?_;refine ps 40 a ?_;refine ps 41 a ?_;refine ps 42 a ?_;refine ps 43 a ?_;refine pk 44 (.bool false) a ?_;refine pk 45 (.bool false) a ?_;refine ps 46 a ?_;refine ps 47 a ?_;refine ps 48 a ?_;refine pk 49 (.bool false) a ?_;refine pk 50 (.bool false) a ?_;refine bY ?_;go_wp2;go_ret;exact⟨by rw [<-b.out,t5 (by simp at c;omega)];rfl,f _ a.1⟩
 refine pz 21 (.bool true) a ?_;refine pk 22 (.bool true) a ?_;refine pk 23 (.bool true) a ?_;refine pk 24 (J Y 2) a ?_;refine pz 25 (I la) a ?_;cases c:decide (la<=16);·refine pz 26 (.bool false) a ?_;refine pk 27 (.bool false) a ?_;refine pk 28 (.bool false) a ?_;refine ps 29 a ?_;refine ps 30 a ?_;refine ps 31 a ?_;refine pk 32 (.bool false) a ?_;refine pk 33 (.bool false) a ?_;refine ps 34 a ?_;refine ps 35 a ?_;refine ps 36 a ?_;refine ps 37 a ?_;refine pk 38 (.bool false) a ?_;refine pk 39 (.bool false) a ?_;refine ps 40 a ?_;refine ps 41 a ?_;refine ps 42 a ?_;refine ps 43 a ?_;refine pk 44 (.bool false) a ?_;refine pk 45 (.bool false) a ?_;refine ps 46 a ?_;refine ps 47 a ?_;refine ps 48 a ?_;refine pk 49 (.bool false) a ?_;refine pk 50 (.bool false) a ?_;refine bY ?_;go_wp2;go_ret;exact⟨by rw [<-b.out,t5 (by simp at c;omega)];rfl,f _ a.1⟩
 refine pz 26 (.bool true) a ?_;refine pk 27 (.bool true) a ?_;refine pk 28 (.bool true) a ?_;refine pk 29 (J Y 3) a ?_;refine pz 30 (I bu) a ?_;cases c:decide (0<=bu);·refine pz 31 (.bool false) a ?_;refine pk 32 (.bool false) a ?_;refine pk 33 (.bool false) a ?_;refine ps 34 a ?_;refine ps 35 a ?_;refine ps 36 a ?_;refine ps 37 a ?_;refine pk 38 (.bool false) a ?_;refine pk 39 (.bool false) a ?_;refine ps 40 a ?_;refine ps 41 a ?_;refine ps 42 a ?_;refine ps 43 a ?_;refine pk 44 (.bool false) a ?_;refine pk 45 (.bool false) a ?_;refine ps 46 a ?_;refine ps 47 a ?_;refine ps 48 a ?_;refine pk 49 (.bool false) a ?_;refine pk 50 (.bool false) a ?_;refine bY ?_;go_wp2;go_ret;exact⟨by rw [<-b.out,t5 (by simp at c;omega)];rfl,f _ a.1⟩
 refine pz 31 (.bool true) a ?_;refine pk 32 (.bool true) a ?_;refine pk 33 (.bool true) a ?_;refine pk 34 (J Y 3) a ?_;refine pz 35 (I bu) a ?_;refine po 36 λK' p=>?_;go_simp;refine (r _).mono ?_;rintro e s ⟨rfl,l⟩;have q:=o.out _ (show D V s from ⟨l.os,l.tape,l.output,l.size,l.block⟩);refine p _ _ ⟨q,?_⟩;clear a;have a:=q;clear p K'
 cases c:decide (bu<=283);·refine pz 37 (.bool false) a ?_;refine pk 38 (.bool false) a ?_;refine pk 39 (.bool false) a ?_;refine ps 40 a ?_;refine ps 41 a ?_;refine ps 42 a ?_;refine ps 43 a ?_;refine pk 44 (.bool false) a ?_;refine pk 45 (.bool false) a ?_;refine ps 46 a ?_;refine ps 47 a ?_;refine ps 48 a ?_;refine pk 49 (.bool false) a ?_;refine pk 50 (.bool false) a ?_;refine bY ?_;go_wp2;go_ret;exact⟨by rw [<-b.out,t5 (by simp at c;omega)];rfl,f _ a.1⟩
 refine pz 37 (.bool true) a ?_;refine pk 38 (.bool true) a ?_;refine pk 39 (.bool true) a ?_;refine pk 40 (J Y 5) a ?_;refine pz 41 (.slice i g j) a ?_;refine pz 42 (I g) a ?_;cases c:decide ((g:Int)<=20000);·refine pz 43 (.bool false) a ?_;refine pk 44 (.bool false) a ?_;refine pk 45 (.bool false) a ?_;refine ps 46 a ?_;refine ps 47 a ?_;refine ps 48 a ?_;refine pk 49 (.bool false) a ?_;refine pk 50 (.bool false) a ?_;refine bY ?_;go_wp2;go_ret;exact⟨by rw [<-b.out,t5 (by simp at c;omega)];rfl,f _ a.1⟩
 refine pz 43 (.bool true) a ?_;refine pk 44 (.bool true) a ?_;refine pk 45 (.bool true) a ?_;refine pk 46 (.slice A n k) a ?_;refine pz 47 (I n) a ?_;cases c:decide ((n:Int)<=300);·refine pz 48 (.bool false) a ?_;refine pk 49 (.bool false) a ?_;refine pk 50 (.bool false) a ?_;refine bY ?_;go_wp2;go_ret;exact⟨by rw [<-b.out,t5 (by simp at c;omega)];rfl,f _ a.1⟩
 refine pz 48 (.bool true) a ?_;refine pk 49 (.bool true) a ?_;refine pk 50 (.bool true) a ?_;refine bY ?_;go_wp2;go_ret;exact⟨by rw [<-b.out,zB (by simp only [EN] at *;omega)];rfl,f _ a.1⟩
end
end Go.Proofs.YtdfodlhkdmkfdaaGreatDoor
