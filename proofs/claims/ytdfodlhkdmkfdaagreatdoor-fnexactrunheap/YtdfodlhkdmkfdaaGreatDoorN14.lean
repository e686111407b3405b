import Derived.Test.YtdfodlhkdmkfdaaGreatDoorN11
import Derived.Test.YtdfodlhkdmkfdaaGreatDoorN10
set_option linter.unusedVariables false
set_option linter.unusedSimpArgs false
set_option maxRecDepth 20000
set_option maxHeartbeats 8000000
namespace Go.Proofs.YtdfodlhkdmkfdaaGreatDoor
variable {a c j n s:Nat} {x:Int} {cf:Cf} {h:Hs} {r:Rg9}
section
open Go.RowKit
theorem a_ (f c s j v):aJ f c s j v c s j=v:=by unfold aJ;rw [tm ⟨rfl,rfl,rfl⟩]
theorem bo (f) {a b d:Nat} (v) (h:¬(a=c/\b=s/\d=j)):aJ f c s j v a b d=f a b d:=by unfold aJ;rw [tg h]
theorem iV (f:Nat->Nat->Nat->Int) {v:Int} (h:f c s j=v):aJ f c s j v=f:=by
 funext a b d;by_cases e:a=c/\b=s/\d=j;·obtain⟨rfl,rfl,rfl⟩:=e;rw [a_,h]
 rw [bo _ _ e]
theorem km:bv x=true↔x=0\/x=3:=by unfold bv;simp
theorem wB (a:j<n):(s*n+j)/n=s/\(s*n+j)%n=j:=by
 have b:0<n:=Z;constructor;·rw [Nat.mul_comm,Nat.mul_add_div b,Nat.div_eq_of_lt a,Kq]
 rw [Nat.mul_comm,Nat.mul_add_mod,Jx a]
theorem vA {a b:Nat} (f:j<n) (c:b<n) (h:s*n+j=a*n+b):s=a/\j=b:=by
 have d:=wB (s:=s) f;have e:=wB (s:=a) c;rw [h] at d;exact⟨d.1.symm.trans e.1,d.2.symm.trans e.2⟩
theorem DY (a:s<6) (b:j<n):s*n+j<6*n:=by
 have:(s+1)*n<=6*n:=JR _ a;rw [J4,Ki] at this;omega
theorem Inv.setSt (i:Inv cf h) (y:c<12) (z:s<6) (A:j<aU c) (v r:Int) (t:0<=v) (u:v<=4) (m:v≠2) (w:h.st c s j≠2) (n:bv v=true\/dJ h c s=true) (x:v=1->0<=r/\r<=fy c) (o:v≠1->r=0):Inv cf { h with st:=aJ h.st c s j v,rq:=aJ h.rq c s j r }:=by
 refine⟨λa b d=>?_,i.fine,i.out,i.slab,λa b f g q d k=>?_,λa b d f g k=>?_,i.mxl,i.ffl,i.ffn,i.mxn,λa b d f g k=>?_,i.wlt,i.wnd,i.rgs,i.apart,i.big,i.low,i.row,i.rownd,i.rowl,i.rel⟩
 all_goals (by_cases e:a=c/\b=s/\d=j)
 ·obtain⟨rfl,rfl,rfl⟩:=e;show 0<=aJ h.st a b d v a b d/\aJ h.st a b d v a b d<=4;rw [a_];exact⟨t,u⟩
 ·show 0<=aJ h.st c s j v a b d/\aJ h.st c s j v a b d<=4;rw [bo _ _ e];exact i.st a b d
 ·obtain⟨rfl,rfl,rfl⟩:=e;show bv (aJ h.st a b d v a b d)=true;rw [a_];rcases n with l|l;·exact l
  have p:dJ h a b=false:=q;rw [p] at l;cases l
 ·show bv (aJ h.st c s j v a b d)=true;rw [bo _ _ e];exact i.off a b f g q d k
 ·obtain⟨rfl,rfl,rfl⟩:=e;show (aJ h.st a b d v a b d=1->0<=aJ h.rq a b d r a b d/\aJ h.rq a b d r a b d<=fy a)/\(aJ h.st a b d v a b d≠1->aJ h.rq a b d r a b d=0);rw [a_,a_];exact⟨x,o⟩
 ·show (aJ h.st c s j v a b d=1->0<=aJ h.rq c s j r a b d/\aJ h.rq c s j r a b d<=fy a)/\(aJ h.st c s j v a b d≠1->aJ h.rq c s j r a b d=0);rw [bo _ _ e,bo _ _ e];exact i.req a b d f g k
 ·obtain⟨rfl,rfl,rfl⟩:=e;show aJ h.st a b d v a b d=2↔_∈rj h a;rw [a_,<-i.wait a b d f g k];exact⟨λe=>absurd e m,λe=>absurd e w⟩
 show aJ h.st c s j v a b d=2↔_∈rj h a;rw [bo _ _ e];exact i.wait a b d f g k
theorem Inv.retire (i:Inv cf h) (b:c<12) (d:s<6) (e:j<aU c) (f:bv (h.st c s j)=true) (a:dJ h c s=true):Inv cf { h with st:=aJ h.st c s j 4 }:=by
 rw [km] at f;have:=i.setSt b d e 4 0 Z Z Z Z (.inr a) Z (λ_=>rfl);rw [iV h.rq ((i.req c s j b d e).2 Z)] at this;exact this
theorem Inv.drop (i:Inv cf h) (p:c<12) (r:s<6) (w:∀ j,j<aU c->bv (h.st c s j)=true):Inv cf { h with m:=bQ h.m (aF c s) (dQ c) }:=by
 have y:=cL p r;have z:=bI p;have t:∀ d f,d<12->f<6->∀ k,k<dQ d->bQ h.m (aF c s) (dQ c) (aF d f+k)=if d=c/\f=s then none else h.m (aF d f+k):=λd f b g k n=>by
  rw [ep];by_cases e:d=c/\f=s;·obtain⟨rfl,rfl⟩:=e;rw [tm Z,tm ⟨rfl,rfl⟩]
  rw [tg e,tg];have:=eT b g p r e;omega
 have o:∀ d f,d<12->f<6->dJ { h with m:=bQ h.m (aF c s) (dQ c) } d f=if d=c/\f=s then false else dJ h d f:=λd f b g=>by
  have:=bI b;have u:=t d f b g 0 Z;unfold dJ;rw [Kq] at u;show (bQ h.m (aF c s) (dQ c) (aF d f)).isSome=_;rw [u];split <;> rfl
 refine⟨i.st,i.fine.gone _ _,λk n=>?_,λd f b g j v=>?_,λd f b g q=>?_,i.req,i.mxl,i.ffl,i.ffn,i.mxn,i.wait,i.wlt,i.wnd,i.rgs,i.apart,λk n=>?_,λk n x=>?_,i.row,i.rownd,i.rowl,i.rel⟩
 ·show bQ h.m _ _ k=none;rw [ep];split;·rfl
  exact i.out k n
 ·rw [o d f b g];show (bQ h.m _ _ _).isSome=_;rw [t d f b g j v];split;·rfl
  exact i.slab d f b g j v
 ·rw [o d f b g] at q;split at q;·rename_i e;obtain ⟨rfl,rfl⟩:=e;exact w
  exact i.off d f b g q
 ·show (bQ h.m _ _ k).isSome=true↔_;rw [ep,tg Z];exact i.big k n
 have l:(bQ h.m (aF c s) (dQ c) k).isSome=true:=x;rw [ep] at l;split at l;·cases l
 exact i.low k n l
/-! what a push does to the numbers that wait -/
def nq (l:List Int):List Int:=l.filter λv=>decide (v ≠ -1)
theorem qC (a b:List Int):nq (a++b)=nq a++nq b:=by unfold nq;rw [FV]
theorem nX {a:List Int} (g:1<=n) (f:a.length<=n) (i:0<=x) (c:∀ v∈a,0<=v):(dx n a x).1.length<=n/\(∀ v∈(dx n a x).1,0<=v)/\(((dx n a x).2 = -1/\(x::a).Perm (dx n a x).1)\/(0<=(dx n a x).2/\(x::a).Perm ((dx n a x).2::(dx n a x).1))):=by
 unfold dx;by_cases h:a.length<n
 ·rw [tm h];refine⟨cd,λv e=>?_,.inl ⟨rfl,?_⟩⟩
  ·rcases JV.1 e with b|b;·exact c v b
   simp at b;omega
  exact (List.perm_append_comm (l₁:=a) (l₂:=[x])).symm
 rw [tg h];cases a with
 | nil=>simp at h;omega
 | cons y d =>
  refine⟨by simp at f h ⊢;omega,λv e=>?_,.inr ⟨c _ bh,?_⟩⟩
  ·rcases JV.1 e with b|b;·exact c v (by simp at b ⊢;exact .inr b)
   simp at b;omega
  show (x::y::d).Perm (y::(d++[x]));exact (List.Perm.swap y x d).trans (List.Perm.cons y (List.perm_append_comm (l₁:=d) (l₂:=[x])).symm)
theorem vG {a b:List Int} (h:a.Perm b):(nq a).Perm (nq b):=h.filter _
theorem vY {l:List Int} (h:∀ v∈l,0<=v):nq l=l:=by
 unfold nq;rw [KE];intro v a;have:=h v a;simp;omega
theorem set_perm:∀ (l:List Int) (i:Nat) (y x:Int),l[i]?=some y->(x::l).Perm (y::l.set i x)
 | [],i,y,x,h=>by simp at h
 | a::l,0,y,x,h=>by simp at h;subst h;exact List.Perm.swap a x l
 | a::l,i+1,y,x,h=>by
  simp at h
  have b:=set_perm l i y x h
  exact (List.Perm.swap a x l).trans ((List.Perm.cons a b).trans (List.Perm.swap y a _))
theorem An {b c:List Int} {d} (B:1<=n) (m:c.length<=n) (K:0<=x) (e:∀ v∈c,0<=v) (i:∀ v∈b,-1<=v):(eH n b c x d).1.length=b.length/\(eH n b c x d).2.1.length<=n/\(∀ v∈(eH n b c x d).2.1,0<=v)/\(∀ v∈(eH n b c x d).1,-1<=v)/\(((eH n b c x d).2.2 = -1/\(x::nq (b++c)).Perm (nq ((eH n b c x d).1++(eH n b c x d).2.1)))\/(0<=(eH n b c x d).2.2/\(x::nq (b++c)).Perm ((eH n b c x d).2.2::nq ((eH n b c x d).1++(eH n b c x d).2.1)))):=by
 unfold eH;by_cases o:b=[]
 ·subst o;rw [tm rfl];obtain⟨p,j,q⟩:=nX B m K e;refine⟨rfl,p,j,?_,?_⟩
  ·intro v r;cases r
  dsimp only;rw [JF,JF,vY e,vY j];exact q
 rw [tg o];have L:0<b.length:=List.length_pos_iff.2 o;have M:md d b.length<b.length:=by
  unfold md;have f:=Lw d (show ((b.length:Nat):Int)≠0 by omega);have g:=Lg d (show (0:Int)<(b.length:Nat) by omega);omega
 generalize md d b.length=k at *;obtain⟨y,s⟩:∃ y,b[k]?=some y:=⟨_,Jq M⟩;have N:=i y (JA s);have f:=set_perm b k y x s;have F:∀ v∈b.set k x,-1<=v:=λv r=>by
  rcases List.mem_or_eq_of_mem_set r with h|h;·exact i v h
  omega
 rw [s];simp only [H4];by_cases g:y = -1
 ·rw [tm g];refine⟨bh,m,e,F,.inl ⟨rfl,?_⟩⟩;dsimp only;have l:=vG f;have t:nq (y::b.set k x)=nq (b.set k x):=by subst g;rfl
  have u:nq (x::b)=x::nq b:=by unfold nq;rw [GO cd]
  rw [t,u] at l;rw [qC,qC];exact List.Perm.append_right (nq c) l
 rw [tg g];have w:0<=y:=Z;obtain⟨p,j,q⟩:=nX (x:=y) B m w e;refine⟨bh,p,j,F,?_⟩;dsimp only;have l:=vG f;have t:nq (y::b.set k x)=y::nq (b.set k x):=by unfold nq;rw [GO cd]
 have u:nq (x::b)=x::nq b:=by unfold nq;rw [GO cd]
 rw [t,u] at l;rw [qC,qC,vY e,vY j];have G:(x::(nq b++c)).Perm (nq (b.set k x)++(y::c)):=by
  refine (List.Perm.append_right c l).trans ?_;exact (List.perm_middle (a:=y) (l₁:=nq (b.set k x)) (l₂:=c)).symm
 rcases q with ⟨z,A⟩|⟨z,A⟩;·exact .inl ⟨z,G.trans (List.Perm.append_left _ A)⟩
 refine .inr ⟨z,G.trans ((List.Perm.append_left _ A).trans ?_)⟩;exact List.perm_middle
theorem FA (h c):rj h c=nq (h.mx c++h.ff c):=rfl
theorem o_:(freeS h c s).length=aU c↔∀ j,j<aU c->bv (h.st c s j)=true:=by
 unfold freeS;constructor;·intro b j a;have:=List.length_filter_eq_length_iff.1 (by rw [b,Kn]:((List.range (aU c)).filter λj=>bv (h.st c s j)).length=(List.range (aU c)).length);exact this j (JW.2 a)
 intro b;have:((List.range (aU c)).filter λj=>bv (h.st c s j))=List.range (aU c):=by
  rw [KE];intro j a;exact b j (JW.1 a)
 rw [this,Kn]
def fD (cf:Cf) (h:Hs) (c s j:Nat):Int:=(eH cf.fifo (h.mx c) (h.ff c) ((s*aU c+j:Nat):Int) ((if cf.mix=0 then 0 else dr cf h cf.mix:Nat):Int)).2.2
def cn (cf:Cf) (h:Hs) (c s j:Nat):Hs :=
 { h with m:=ax h.m (bF c s j) (List.replicate (cR c) 0) (cR c),st:=aJ h.st c s j 2,rq:=aJ h.rq c s j 0,used:=if cf.mix=0 then h.used else h.used+1,mx:=er h.mx c (eH cf.fifo (h.mx c) (h.ff c) ((s*aU c+j:Nat):Int) ((if cf.mix=0 then 0 else dr cf h cf.mix:Nat):Int)).1,ff:=er h.ff c (eH cf.fifo (h.mx c) (h.ff c) ((s*aU c+j:Nat):Int) ((if cf.mix=0 then 0 else dr cf h cf.mix:Nat):Int)).2.1 }
theorem fc (cf h c s j):bH cf h c s j=if fD cf h c s j = -1 then cn cf h c s j else cV (cn cf h c s j) c ((fD cf h c s j).toNat/aU c) ((fD cf h c s j).toNat%aU c):=by
 unfold bH fD cn;by_cases a:cf.mix=0;·simp only [a,Lu]
 simp only [a,Lt];rfl
theorem eB (f c v):er f c v c=v:=by unfold er;rw [tm rfl]
theorem gB (f) {d:Nat} (v) (h:d≠c):er f c v d=f d:=by unfold er;rw [tg h]
theorem Inv.freed (i:Inv cf h) (a0:1<=cf.fifo) (w:c<12) (hs:s<6) (Y:j<aU c) (hl:h.st c s j=1) :
  (fD cf h c s j = -1/\Inv cf (cn cf h c s j)) \/
  (∃ a b,0<=fD cf h c s j/\(fD cf h c s j).toNat/aU c=a/\(fD cf h c s j).toNat%aU c=b/\a<6/\b<aU c/\dJ h c a=true/\Inv cf { cn cf h c s j with st:=aJ (cn cf h c s j).st c a b 3 }):=by
 have hz:=bI w;have a8:(0:Int)<=((s*aU c+j:Nat):Int):=Z;obtain⟨w1,w2,w3,w4,w5⟩:=An (d:=((if cf.mix=0 then 0 else dr cf h cf.mix:Nat):Int)) a0 (i.ffl c w) a8 (i.ffn c w) (i.mxn c w);have hL:fD cf h c s j=(eH cf.fifo (h.mx c) (h.ff c) ((s*aU c+j:Nat):Int) ((if cf.mix=0 then 0 else dr cf h cf.mix:Nat):Int)).2.2:=rfl;have q:cn cf h c s j={ h with m:=ax h.m (bF c s j) (List.replicate (cR c) 0) (cR c),st:=aJ h.st c s j 2,rq:=aJ h.rq c s j 0,used:=if cf.mix=0 then h.used else h.used+1,mx:=er h.mx c (eH cf.fifo (h.mx c) (h.ff c) ((s*aU c+j:Nat):Int) ((if cf.mix=0 then 0 else dr cf h cf.mix:Nat):Int)).1,ff:=er h.ff c (eH cf.fifo (h.mx c) (h.ff c) ((s*aU c+j:Nat):Int) ((if cf.mix=0 then 0 else dr cf h cf.mix:Nat):Int)).2.1 }:=rfl;generalize eH cf.fifo (h.mx c) (h.ff c) ((s*aU c+j:Nat):Int) ((if cf.mix=0 then 0 else dr cf h cf.mix:Nat):Int)=r at *;generalize fD cf h c s j=left at *;obtain⟨M,F,z⟩:=r;dsimp only at hL w1 w2 w3 w4 w5 q;subst hL;have R:=i.bytes (bF c s j) (List.replicate (cR c) 0) (cR c);have L:dJ h c s=true:=by
  cases h9:dJ h c s with
  | true=>rfl
  | false=>have:=i.off c s w hs h9 j Y;rw [hl] at this;simp [bv] at this
 have S:((s*aU c+j:Nat):Int)∉rj h c:=λQ=>by
  have:=(i.wait c s j w hs Y).2 Q;omega
 have T:(((s*aU c+j:Nat):Int)::rj h c).Nodup:=Km.2 ⟨S,i.wnd c w⟩;have N:∀ v∈((s*aU c+j:Nat):Int)::rj h c,v<6*aU c:=λv V=>by
  rcases JG.1 V with n|n;·have:=DY hs Y;omega
  exact i.wlt c w v n
 have O:∀ a b,a<6->b<aU c->(aJ h.st c s j 2 c a b=2↔((a*aU c+b:Nat):Int)∈((s*aU c+j:Nat):Int)::rj h c):=λa b l k=>by
  by_cases e:a=s/\b=j;·obtain⟨rfl,rfl⟩:=e;rw [a_];simp
  rw [bo _ _ (by rintro ⟨_,n,y⟩;exact e ⟨n,y⟩),i.wait c a b w l k,JG];refine⟨.inr,λn=>?_⟩;rcases n with n|n;·have:=vA k Y (show a*aU c+b=s*aU c+j by omega);exact absurd this e
  exact n
 have hQ:∀ g,rj { cn cf h c s j with st:=g } c=nq (M++F):=λg=>by
  rw [q];unfold rj;dsimp only;rw [eB,eB];rfl
 have P:∀ g f,f≠c->rj { cn cf h c s j with st:=g } f=rj h f:=λg f t=>by
  rw [q];unfold rj;dsimp only;rw [gB _ _ t,gB _ _ t]
 have u:∀ g,(∀ f a b,0<=g f a b/\g f a b<=4)->(∀ f a b,f≠c->g f a b=h.st f a b)->(∀ a b,a<6->b<aU c->bv (h.st c a b)=true->dJ h c a=false->bv (g c a b)=true)->(∀ a b,a<6->b<aU c->(g c a b=1↔h.st c a b=1/\¬(a=s/\b=j)))->(∀ a b,a<6->b<aU c->(g c a b=2↔((a*aU c+b:Nat):Int)∈nq (M++F)))->(nq (M++F)).Nodup->(∀ v∈nq (M++F),v<6*aU c)->Inv cf { cn cf h c s j with st:=g }:=by
  intro g K B W G X a6 a7;refine⟨K,?_,?_,?_,?_,?_,?_,?_,?_,?_,?_,?_,?_,?_,?_,?_,?_,?_,?_,?_,?_⟩;·rw [q];exact R.fine
  ·rw [q];exact R.out
  ·rw [q];exact R.slab
  ·intro f a o l x b k;have p:dJ h f a=false:=by
    have e:dJ { cn cf h c s j with st:=g } f a=dJ h f a:=(by rw [q];exact dD _ _ _ _ _);rw [e] at x;exact x
   show bv (g f a b)=true;by_cases e:f=c;·subst e;exact W a b l k (i.off f a o l p b k) p
   rw [B f a b e];exact i.off f a o l p b k
  ·intro f a b o l k;have e:({ cn cf h c s j with st:=g } : Hs).rq=aJ h.rq c s j 0:=(by rw [q]);rw [e];show (g f a b=1->_)/\(g f a b≠1->_);have A:=i.req f a b o l k;by_cases e:f=c/\a=s/\b=j;·obtain⟨rfl,rfl,rfl⟩:=e;rw [a_];refine⟨λn=>?_,λ_=>rfl⟩;exact absurd ⟨rfl,rfl⟩ ((G a b l k).1 n).2
   rw [bo _ _ e];by_cases p:f=c;·subst p;refine⟨λn=>A.1 ((G a b l k).1 n).1,λn=>A.2 (λy=>n ((G a b l k).2 ⟨y,λz=>e ⟨rfl,z⟩⟩))⟩
   rw [B f a b p];exact A
  ·intro f o;have e:({ cn cf h c s j with st:=g } : Hs).mx=er h.mx c M:=(by rw [q]);rw [e];by_cases p:f=c;·subst p;rw [eB,w1];exact i.mxl f o
   rw [gB _ _ p];exact i.mxl f o
  ·intro f o;have e:({ cn cf h c s j with st:=g } : Hs).ff=er h.ff c F:=(by rw [q]);rw [e];by_cases p:f=c;·subst p;rw [eB];exact w2
   rw [gB _ _ p];exact i.ffl f o
  ·intro f o;have e:({ cn cf h c s j with st:=g } : Hs).ff=er h.ff c F:=(by rw [q]);rw [e];by_cases p:f=c;·subst p;rw [eB];exact w3
   rw [gB _ _ p];exact i.ffn f o
  ·intro f o;have e:({ cn cf h c s j with st:=g } : Hs).mx=er h.mx c M:=(by rw [q]);rw [e];by_cases p:f=c;·subst p;rw [eB];exact w4
   rw [gB _ _ p];exact i.mxn f o
  ·intro f a b o l k;show g f a b=2↔_;by_cases p:f=c;·subst p;rw [hQ];exact X a b l k
   rw [P _ _ p,B f a b p];exact i.wait f a b o l k
  ·intro f o;by_cases p:f=c;·subst p;rw [hQ];exact a7
   rw [P _ _ p];exact i.wlt f o
  ·intro f o;by_cases p:f=c;·subst p;rw [hQ];exact a6
   rw [P _ _ p];exact i.wnd f o
  ·rw [q];exact i.rgs
  ·rw [q];exact i.apart
  ·rw [q];exact R.big
  ·rw [q];exact R.low
  ·rw [q];exact i.row
  ·rw [q];exact i.rownd
  ·rw [q];exact i.rowl
  rw [q];exact i.rel
 rw [<-FA] at w5;rcases w5 with ⟨e1,B⟩|⟨e1,B⟩
 ·left;refine⟨e1,?_⟩;have:=u (aJ h.st c s j 2) (λf a b=>?_) (λf a b t=>bo _ _ (by rintro ⟨n,_⟩;exact t n)) (λa b l k hf x=>?_) (λa b l k=>?_) (λa b l k=>(O a b l k).trans B.mem_iff) (B.nodup_iff.1 T) (λv V=>N v (B.mem_iff.2 V));·rw [q] at this ⊢;exact this
  ·by_cases e:f=c/\a=s/\b=j;·obtain⟨rfl,rfl,rfl⟩:=e;rw [a_];omega
   rw [bo _ _ e];exact i.st f a b
  ·by_cases e:c=c/\a=s/\b=j;·obtain⟨_,rfl,rfl⟩:=e;rw [L] at x;cases x
   rw [bo _ _ e];exact hf
  by_cases e:c=c/\a=s/\b=j;·obtain⟨_,rfl,rfl⟩:=e;rw [a_];simp
  rw [bo _ _ e];exact⟨λn=>⟨n,λy=>e ⟨rfl,y⟩⟩,λn=>n.1⟩
 right;have W:left∈((s*aU c+j:Nat):Int)::rj h c:=B.mem_iff.2 bh;have b0:=N left W;have hd:left.toNat/aU c<6:=Nat.div_lt_of_lt_mul (by rw [Nat.mul_comm];omega);have Q:left.toNat%aU c<aU c:=Nat.mod_lt _ Z;have he:((left.toNat/aU c*aU c+left.toNat%aU c:Nat):Int)=left:=by
  rw [Nat.div_add_mod'];omega
 have o:aJ h.st c s j 2 c (left.toNat/aU c) (left.toNat%aU c)=2:=(O _ _ hd Q).2 (by rw [he];exact W);generalize left.toNat/aU c=p at *;generalize left.toNat%aU c=A at *;have G:dJ h c p=true:=by
  by_cases e:c=c/\p=s/\A=j;·obtain⟨_,rfl,rfl⟩:=e;exact L
  rw [bo _ _ e] at o;cases h9:dJ h c p with
  | true=>rfl
  | false=>have:=i.off c p w hd h9 A Q;rw [o] at this;simp [bv] at this
 refine⟨p,A,e1,rfl,rfl,hd,Q,G,?_⟩;have X:(cn cf h c s j).st=aJ h.st c s j 2:=by rw [q]
 rw [X];have K:=B.nodup_iff.1 T;have a9:=(Km.1 K).1;refine u (aJ (aJ h.st c s j 2) c p A 3) (λf a b=>?_) (λf a b t=>?_) (λa b l k hf x=>?_) (λa b l k=>?_) (λa b l k=>?_) (Km.1 K).2 (λv V=>N v (B.mem_iff.2 (KC _ V)))
 ·by_cases e:f=c/\a=p/\b=A;·obtain⟨rfl,rfl,rfl⟩:=e;rw [a_];omega
  rw [bo _ _ e];by_cases e:f=c/\a=s/\b=j;·obtain⟨rfl,rfl,rfl⟩:=e;rw [a_];omega
  rw [bo _ _ e];exact i.st f a b
 ·rw [bo _ _ (by rintro ⟨n,_⟩;exact t n),bo _ _ (by rintro ⟨n,_⟩;exact t n)]
 ·by_cases e:c=c/\a=p/\b=A;·obtain⟨_,rfl,rfl⟩:=e;rw [G] at x;cases x
  rw [bo _ _ e];by_cases e:c=c/\a=s/\b=j;·obtain⟨_,rfl,rfl⟩:=e;rw [L] at x;cases x
  rw [bo _ _ e];exact hf
 ·by_cases e:c=c/\a=p/\b=A;·obtain⟨_,rfl,rfl⟩:=e;rw [a_];refine⟨λn=>Z,λn=>?_⟩;rw [bo _ _ (by rintro ⟨_,y⟩;exact n.2 y)] at o;omega
  rw [bo _ _ e];by_cases e:c=c/\a=s/\b=j;·obtain⟨_,rfl,rfl⟩:=e;rw [a_];simp
  rw [bo _ _ e];exact⟨λn=>⟨n,λy=>e ⟨rfl,y⟩⟩,λn=>n.1⟩
 by_cases e:c=c/\a=p/\b=A;·obtain⟨_,rfl,rfl⟩:=e;rw [a_,he];exact⟨λn=>Z,λn=>absurd n a9⟩
 rw [bo _ _ e,O a b l k,B.mem_iff,JG];refine⟨λn=>?_,.inr⟩;rcases n with n|n;·rw [<-he] at n;have:=vA k Q (show a*aU c+b=p*aU c+A by omega);exact absurd ⟨rfl,this⟩ e
 exact n
theorem Inv.fSlot (i:Inv cf h) (d:1<=cf.fifo) (g:c<12) (k:s<6) (l:j<aU c) (m:h.st c s j=1):Inv cf (bH cf h c s j):=by
 rw [fc];rcases i.freed d g k l m with ⟨e,b⟩|⟨r,t,e,n,o,f,p,q,b⟩;·rw [tm e];exact b
 rw [tg Z,n,o];unfold cV;dsimp only;split
 ·rename_i a;exact b.drop g f (o_.1 a)
 exact b
theorem mn {P:Nat->Bool} {k:Nat} (h:(List.range n).find? P=some k):k<n/\P k=true:=by
 rw [KX] at h;exact⟨by simpa using h.2.1,h.1⟩
structure Stay (h h':Hs):Prop where
 live:∀ c s j,bv (h.st c s j)=false->h'.st c s j=h.st c s j
 mem:∀ k,(h.m k).isSome=true->h'.m k=h.m k
 rq:h'.rq=h.rq
 mx:h'.mx=h.mx
 ff:h'.ff=h.ff
 rg:h'.rg=h.rg
 row:h'.row=h.row
 rel:h'.rel=h.rel
theorem Stay.refl (h):Stay h h:=⟨λ_ _ _ _=>rfl,λ_ _=>rfl,rfl,rfl,rfl,rfl,rfl,rfl⟩
theorem Stay.trans {a b c} (h:Stay a b) (k:Stay b c):Stay a c:=by
 refine⟨λx y z d=>?_,λp e=>?_,k.rq.trans h.rq,k.mx.trans h.mx,k.ff.trans h.ff,k.rg.trans h.rg,k.row.trans h.row,k.rel.trans h.rel⟩;·rw [k.live x y z (by rw [h.live x y z d];exact d),h.live x y z d]
 rw [k.mem p (by rw [h.mem p e];exact e),h.mem p e]
theorem Inv.room (i:Inv cf h) (f:c<12) {d:Hs} (a:dw cf h c=some (s,d)):s<6/\Inv cf d/\dJ d c s=true/\0<(freeS d c s).length/\Stay h d/\d.used=h.used/\d.st=h.st:=by
 unfold dw at a;cases j:kZ h c with
 | some b =>
  rw [j] at a;simp at a;obtain⟨rfl,rfl⟩:=a;obtain⟨d,e⟩:=mn j;simp at e;refine⟨d,i,e.1,?_,Stay.refl _,rfl,rfl⟩;have:=e.2;exact List.length_pos_iff.2 this
 | none =>
  rw [j] at a;dsimp only at a;cases l:rU h c with
  | none=>rw [l] at a;cases a
  | some b =>
   rw [l] at a;dsimp only at a;split at a;·cases a
   simp at a;obtain⟨rfl,rfl⟩:=a;obtain⟨g,e⟩:=mn l;simp at e;have q:=bI f;have n:dJ { h with m:=aT h.m (aF c b) (dQ c) } c b=true:=by
    unfold dJ;show (aT h.m (aF c b) (dQ c) (aF c b)).isSome=true;rw [c_,tm Z];rfl
   refine⟨g,i.fresh f g,n,?_,⟨λ_ _ _ _=>rfl,λk o=>?_,rfl,rfl,rfl,rfl,rfl,rfl⟩,rfl,rfl⟩;·have:=o_.2 (i.off c b f g e);show 0<(freeS h c b).length;omega
   show aT h.m (aF c b) (dQ c) k=h.m k;rw [c_,tg];intro p;have:=i.slab c b f g (k-aF c b) Z;rw [show aF c b+(k-aF c b)=k by omega,o,e] at this;cases this
def dE (h:Hs) (c:Nat):Nat->Nat
 | 0=>0
 | s+1=>dE h c s+(freeS h c s).length
theorem iY (h c s):(freeS h c s).length<=aU c:=by
 unfold freeS;have:=A1 (λj=>bv (h.st c s j)) (List.range (aU c));simpa using this
theorem nG (h c):∀ s,dE h c s<=s*aU c
 | 0=>by simp [dE]
 | s+1=>by
  have:=nG h c s
  have a:=iY h c s
  simp only [dE]
  rw [J4,Ki]
  omega
theorem oy {l:List Nat} {p q:Nat->Bool} (d:∀ a∈l,q a=true->p a=true) (ha:a∈l) (j:p a=true) (k:q a=false):(l.filter q).length<(l.filter p).length:=by
 induction l with
 | nil=>cases ha
 | cons b r m =>
  have n:(r.filter q).length<=(r.filter p).length:=by
   rw [<-List.countP_eq_length_filter,<-List.countP_eq_length_filter];exact List.countP_mono_left (λx f h=>d x (KC _ f) h)
  by_cases e:a=b;·subst e;rw [GO j,K_ (by simp [k])];simp;omega
  have g:a∈r:=by simpa [e] using ha
  have:=m (λx f=>d x (KC _ f)) g;by_cases i:q b=true;·rw [GO i,GO (d b bh i)];simp;omega
  rw [K_ i];by_cases c:p b=true;·rw [GO c];simp;omega
  rw [K_ c];exact this
theorem xt (b:j<aU c) (d:bv (h.st c s j)=true):(freeS { h with st:=aJ h.st c s j 4 } c s).length<(freeS h c s).length:=by
 unfold freeS;refine oy (λk e a=>?_) (JW.2 b) d ?_
 ·by_cases e:k=j;·subst e;dsimp only at a;rw [a_] at a;cases a
  dsimp only at a;rw [bo _ _ (by rintro ⟨_,_,h⟩;exact e h)] at a;exact a
 dsimp only;rw [a_];rfl
theorem kG {h:Hs} {c s j:Nat} (g:j<aU c) (i:bv (h.st c s j)=true):∀ n,(n<=s->dE { h with st:=aJ h.st c s j 4 } c n=dE h c n)/\(s<n->dE { h with st:=aJ h.st c s j 4 } c n<dE h c n)
 | 0=>⟨λ_=>rfl,λh=>Z⟩
 | n+1=>by
  have d:=kG (s:=s) g i n
  have a:∀ b,b≠s->freeS { h with st:=aJ h.st c s j 4 } c b=freeS h c b:=λb f=>by
   unfold freeS
   apply List.filter_congr
   intro k _
   dsimp only
   rw [bo _ _ (by rintro ⟨_,h,_⟩;exact f h)]
  simp only [dE]
  constructor
  ·intro k
   rw [d.1 Z,a n Z]
  intro k
  by_cases e:n=s
  ·subst e
   rw [d.1 Z]
   have:=xt (h:=h) (s:=n) g i
   omega
  have:=d.2 Z
  rw [a n e];omega
theorem pH (cf h) (a:0<n):dr cf h n<n:=by
 unfold dr;have b:=Lw (cf.ds[h.used]?.getD 0) (show ((n:Nat):Int)≠0 by omega);have c:=Lg (cf.ds[h.used]?.getD 0) (show (0:Int)<(n:Nat) by omega);omega
def dX (cf:Cf) (h:Hs) (c s:Nat):Nat:=(freeS h c s)[dr cf h (freeS h c s).length]?.getD 0
theorem qL (cf) (d:0<(freeS h c s).length):(freeS h c s)[dr cf h (freeS h c s).length]?=some (dX cf h c s)/\dX cf h c s<aU c/\bv (h.st c s (dX cf h c s))=true:=by
 have e:=pH cf h d;have a:(freeS h c s)[dr cf h (freeS h c s).length]?=some (dX cf h c s):=by
  unfold dX;rw [Jq e];rfl
 refine⟨a,?_⟩;have b:=JA a;unfold freeS at b;obtain⟨f,g⟩:=J8.1 b;exact⟨JW.1 f,g⟩
theorem iF (cf c) (f:Nat) (h:Hs):cy cf c (f+1) h=match dw cf h c with
  | none=>(none,h)
  | some (s,a)=>if clean a.m (bF c s (dX cf a c s)) (cR c) then (some (s,dX cf a c s),{ a with used:=a.used+1 })
   else cy cf c f { a with used:=a.used+1,st:=aJ a.st c s (dX cf a c s) 4 }:=rfl
structure Ib (cf:Cf) (c:Nat) (h:Hs) (o:Option (Nat×Nat)) (h':Hs):Prop where
 inv:Inv cf h'
 stay:Stay h h'
 some:∀ s j,o=some (s,j)->s<6/\j<aU c/\dJ h' c s=true/\bv (h'.st c s j)=true/\bv (h.st c s j)=true/\clean h'.m (bF c s j) (cR c)=true
theorem Inv.small {cf} {c:Nat} (p:c<12):∀ (f:Nat) {h:Hs},Inv cf h->Ib cf c h (cy cf c f h).1 (cy cf c f h).2/\(cy cf c f h).2.used<=h.used+f
 | 0,h,i=>⟨⟨i,Stay.refl _,λs j e=>by cases e⟩,Jo _⟩
 | f+1,h,i=>by
  rw [iF]
  cases A:dw cf h c with
  | none=>exact ⟨⟨i,Stay.refl _,λs j e=>by cases e⟩,it⟩
  | some q =>
   obtain⟨s,b⟩:=q
   obtain⟨w,x,d,g,a,O,k⟩:=i.room p A
   obtain⟨_,y,l⟩:=qL cf g
   dsimp only
   generalize dX cf b c s=j at *
   split
   ·rename_i r
    refine⟨⟨x.used _,⟨a.live,a.mem,a.rq,a.mx,a.ff,a.rg,a.row,a.rel⟩,λm n e=>?_⟩,it⟩
    simp at e
    obtain⟨rfl,rfl⟩:=e
    refine⟨w,y,d,l,?_,r⟩
    rw [<-k];exact l
   have B:Inv cf { b with used:=b.used+1,st:=aJ b.st c s j 4 }:=(x.used (b.used+1)).retire p w y l d
   obtain⟨t,u⟩:=Inv.small p f B
   have v:Stay b { b with used:=b.used+1,st:=aJ b.st c s j 4 }:=by
    refine⟨λP m n z=>?_,λ_ _=>rfl,rfl,rfl,rfl,rfl,rfl,rfl⟩;refine bo _ _ ?_;rintro⟨rfl,rfl,rfl⟩;rw [l] at z;cases z
   refine⟨⟨t.inv,a.trans (v.trans t.stay),λm n e=>?_⟩,?_⟩
   ·obtain⟨F,G,K,L,M,N⟩:=t.some m n e;refine⟨F,G,K,L,?_,N⟩;rw [<-k];have o:bv (aJ b.st c s j 4 c m n)=true:=M
    by_cases e:c=c/\m=s/\n=j
    ·obtain⟨_,rfl,rfl⟩:=e;exact l
    rw [bo _ _ e] at o;exact o
   dsimp only at u;omega
theorem jY (a:eh h n=some s):187<=s/\s+n<=283/\∀ r∈h.rg,s+n<=r.first\/r.first+r.ext<=s:=by
 unfold eh at a;rw [Option.map_eq_some_iff] at a;obtain⟨k,c,rfl⟩:=a;obtain⟨d,b⟩:=mn c;simp at b;refine⟨Z,Z,λr a=>?_⟩;exact b.2 r a
theorem m_ (h:1016<a):1<=aS a:=by
 unfold aS;split <;> omega
theorem Inv.large (i:Inv cf h) {g:Nat} (M:1<=g) (N:g<=3) (ha:1016<a) (l:eh h (g+aS a+1)=some s):Inv cf { h with m:=aT h.m (s+g) (aS a),rg:=h.rg++[⟨s,g,aS a,1,a⟩],rel:=h.rel.filter λb=>b/1024<s || s+(g+aS a+1)<=b/1024 }:=by
 obtain⟨X,O,G⟩:=jY l;have P:=m_ ha;obtain⟨p,w⟩:∃ p,aS a=p:=⟨_,rfl⟩;rw [w] at O G P ⊢;have t:∀ k,k<187->aT h.m (s+g) p k=h.m k:=λk u=>by rw [c_,tg Z]
 have z:∀ o q,o<12->q<6->dJ { h with m:=aT h.m (s+g) p,rg:=h.rg++[⟨s,g,p,1,a⟩],rel:=h.rel.filter λb=>b/1024<s || s+(g+p+1)<=b/1024 } o q=dJ h o q:=λo q c d=>by
  have:=cL c d;unfold dJ;show (aT h.m (s+g) p (aF o q)).isSome=_;rw [t _ Z]
 refine⟨i.st,i.fine.fresh _ _,λk u=>?_,λo q c d j Q=>?_,λo q c d K=>?_,i.req,i.mxl,i.ffl,i.ffn,i.mxn,i.wait,i.wlt,i.wnd,λr l=>?_,?_,λk u=>?_,λk u v=>?_,λb=>?_,i.rownd,i.rowl,λb R=>?_⟩;·show aT h.m _ _ k=none;rw [c_,tg Z];exact i.out k u
 ·have:=cL c d;rw [z o q c d];show (aT h.m _ _ _).isSome=_;rw [t _ Z];exact i.slab o q c d j Q
 ·rw [z o q c d] at K;exact i.off o q c d K
 ·rcases JV.1 l with f|f;·exact i.rgs r f
  simp at f;subst f;dsimp only [Rg9.ext];refine⟨Z,Z,Z,Z,Z,.inl ⟨rfl,Z,?_⟩⟩;rw [JL];exact w
 ·rw [KT];refine⟨i.apart,bh,λx v y L=>?_⟩;simp at L;subst L;have:=G x v;dsimp only [Rg9.ext] at this ⊢;omega
 ·show (aT h.m (s+g) p k).isSome=true↔_;rw [c_];have A:=i.big k u;constructor
  ·intro v;split at v
   ·rename_i e;exact⟨_,List.mem_append_right _ (List.mem_singleton.2 rfl),rfl,e.1,e.2⟩
   obtain⟨r,l,f⟩:=A.1 v;exact⟨r,Ll _ l,f⟩
  rintro⟨r,l,f⟩;rcases JV.1 l with n|n
  ·split;·rfl
   exact A.2 ⟨r,n,f⟩
  simp at n;subst n;rw [tm f.2];rfl
 ·have B:(aT h.m (s+g) p k).isSome=true:=v;rw [t k u] at B;exact i.low k u B
 ·show b∈h.row↔_;rw [i.row b];constructor;·rintro⟨r,l,f⟩;exact⟨r,Ll _ l,f⟩
  rintro⟨r,l,f⟩;rcases JV.1 l with n|n;·exact⟨r,n,f⟩
  simp at n;subst n;have:(1:Int)=2:=f.1;omega
 obtain⟨f,n⟩:=J8.1 R;obtain⟨S,T,V,W⟩:=i.rel b f;refine⟨S,T,V,λr l=>?_⟩;rcases JV.1 l with F|F;·exact W r F
 simp at F;subst F;simp at n;exact n
theorem wy (i:Inv cf h) (a:r∈h.rg):r.base=(r.first+r.guards)*1024/\r.base/1024=r.first+r.guards/\r.base%1024=0/\r.ext=r.guards+r.pages+1:=by
 unfold Rg9.base Rg9.ext;refine⟨rfl,?_,?_,rfl⟩ <;> omega
theorem CH {l:List Rg9} (ha:l.Pairwise λa b=>a.first+a.ext<=b.first\/b.first+b.ext<=a.first) {q:Rg9} (f:r∈l) (g:q∈l) (i:∀ x∈l,1<=x.guards) (j:r.base=q.base):r=q:=by
 induction l with
 | nil=>cases f
 | cons a t k =>
  have c:r.first+r.guards=q.first+q.guards:=by unfold Rg9.base at j;omega
  have b:∀ x∈t,(x.first+x.guards=a.first+a.guards)->False:=λx b m=>by
   have:=(List.pairwise_cons.1 ha).1 x b;unfold Rg9.ext at this;omega
  rcases JG.1 f with d|d <;> rcases JG.1 g with e|e
  ·rw [d,e]
  ·subst d;exact absurd c.symm (b q e)
  ·subst e;exact absurd c (b r d)
  exact k (List.pairwise_cons.1 ha).2 d e (λx b=>i x (KC _ b))
theorem Inv.one (i:Inv cf h) {q:Rg9} (a:r∈h.rg) (b:q∈h.rg) (c:r.base=q.base):r=q :=
 CH i.apart a b (λx a=>(i.rgs x a).2.2.1) c
theorem Inv.setRq (i:Inv cf h) (l:r∈h.rg) (m:r.st=1) (ha:1016<a) (n:aS a=r.pages):Inv cf { h with rg:=h.rg.map λx=>if x.base=r.base then { x with rq:=a } else x }:=by
 have c:∀ x,(if x.base=r.base then ({ x with rq:=(a:Int) } : Rg9) else x).first=x.first/\(if x.base=r.base then ({ x with rq:=(a:Int) } : Rg9) else x).guards=x.guards/\(if x.base=r.base then ({ x with rq:=(a:Int) } : Rg9) else x).pages=x.pages/\(if x.base=r.base then ({ x with rq:=(a:Int) } : Rg9) else x).st=x.st:=λx=>by
  split <;> exact ⟨rfl,rfl,rfl,rfl⟩
 refine⟨i.st,i.fine,i.out,i.slab,i.off,i.req,i.mxl,i.ffl,i.ffn,i.mxn,i.wait,i.wlt,i.wnd,λy j=>?_,?_,λk o=>?_,i.low,λb=>?_,i.rownd,i.rowl,λb p=>?_⟩
 ·obtain⟨x,f,rfl⟩:=JE.1 j;obtain⟨g,q,s,t⟩:=c x;have d:=i.rgs x f;unfold Rg9.ext at d ⊢;rw [g,q,s,t];refine⟨d.1,d.2.1,d.2.2.1,d.2.2.2.1,d.2.2.2.2.1,?_⟩;by_cases e:x.base=r.base;·have:=i.one f l e;subst this;rw [tm rfl];exact .inl ⟨m,it,by dsimp only;rw [JL];exact n⟩
  rw [tg e];exact d.2.2.2.2.2
 ·show (h.rg.map _).Pairwise _;rw [List.pairwise_map];refine i.apart.imp (λ{x y} d=>?_);unfold Rg9.ext at d ⊢;rw [(c x).1,(c x).2.1,(c x).2.2.1,(c y).1,(c y).2.1,(c y).2.2.1];exact d
 ·show (h.m k).isSome=true↔_;rw [i.big k o];constructor;·rintro⟨x,f,d,g⟩;refine⟨_,JE.2 ⟨x,f,rfl⟩,?_⟩;rw [(c x).1,(c x).2.1,(c x).2.2.1,(c x).2.2.2];exact⟨d,g⟩
  rintro⟨y,j,d,g⟩;obtain⟨x,f,rfl⟩:=JE.1 j;rw [(c x).2.2.2] at d;rw [(c x).1,(c x).2.1,(c x).2.2.1] at g;exact⟨x,f,d,g⟩
 ·show b∈h.row↔_;rw [i.row b];constructor
  ·rintro⟨x,f,d,g⟩;refine⟨_,JE.2 ⟨x,f,rfl⟩,?_⟩;have e:(if x.base=r.base then ({ x with rq:=(a:Int) } : Rg9) else x).base=x.base:=(by split <;> rfl);rw [e,(c x).2.2.2];exact⟨d,g⟩
  rintro⟨y,j,d,g⟩;obtain⟨x,f,rfl⟩:=JE.1 j;rw [(c x).2.2.2] at d;have e:(if x.base=r.base then ({ x with rq:=(a:Int) } : Rg9) else x).base=x.base:=by split <;> rfl
  rw [e] at g;exact⟨x,f,d,g⟩
 obtain⟨d,g,q,s⟩:=i.rel b p;refine⟨d,g,q,λy j=>?_⟩;obtain⟨x,f,rfl⟩:=JE.1 j;have:=s x f;unfold Rg9.ext at this ⊢;rw [(c x).1,(c x).2.1,(c x).2.2.1];exact this
def zd (h:Hs) (r:Rg9):Hs:={ h with m:=bQ h.m (r.first+r.guards) r.pages,rg:=h.rg.map λx=>if x.base=r.base then { x with st:=2,rq:=0 } else x,row:=h.row++[r.base] }
theorem ij (cf h r):aZ cf h r=if cf.large<(h.row++[r.base]).length then { zd h r with rg:=(zd h r).rg.filter λx=>x.base≠(h.row++[r.base])[0]?.getD 0,rel:=h.rel++[(h.row++[r.base])[0]?.getD 0],row:=(h.row++[r.base]).tail } else zd h r:=rfl
theorem Inv.fA (i:Inv cf h) (z:r∈h.rg) (h1:r.st=1) (w:Cf) (W:w.mix=cf.mix) (X:w.fifo=cf.fifo) (hl:h.row.length+1<=w.large):Inv w (zd h r):=by
 have d:∀ x:Rg9,(if x.base=r.base then ({ x with st:=2,rq:=0 } : Rg9) else x).first=x.first/\(if x.base=r.base then ({ x with st:=2,rq:=0 } : Rg9) else x).guards=x.guards/\(if x.base=r.base then ({ x with st:=2,rq:=0 } : Rg9) else x).pages=x.pages/\(if x.base=r.base then ({ x with st:=2,rq:=0 } : Rg9) else x).base=x.base:=λx=>by
  split <;> exact ⟨rfl,rfl,rfl,rfl⟩
 obtain⟨b1,b2,b3,b4,b5,b6⟩:=i.rgs r z;have Y:r.ext=r.guards+r.pages+1:=rfl;have A:∀ k,k<187->bQ h.m (r.first+r.guards) r.pages k=h.m k:=λk B=>by rw [ep,tg Z]
 have G:∀ s u,s<12->u<6->dJ (zd h r) s u=dJ h s u:=λs u m n=>by
  have:=cL m n;unfold dJ;show (bQ h.m (r.first+r.guards) r.pages (aF s u)).isSome=_;rw [A _ Z]
 have P:∀ x∈h.rg,x≠r->x.first+x.ext<=r.first\/r.first+r.ext<=x.first:=λx f o=>by
  have Q:∀ {l:List Rg9},(l.Pairwise λa b=>a.first+a.ext<=b.first\/b.first+b.ext<=a.first)->x∈l->r∈l->x.first+x.ext<=r.first\/r.first+r.ext<=x.first:=λ{l}=>by
   induction l with
   | nil=>intro _ f;cases f
   | cons a t ih =>
    intro hp f z;obtain⟨S,p2⟩:=List.pairwise_cons.1 hp;rcases JG.1 f with K|K <;> rcases JG.1 z with L|L
    ·exact absurd (K.trans L.symm) o
    ·subst K;exact S r L
    ·subst L;have:=S x K;omega
    exact ih p2 K L
  exact Q i.apart f z
 refine⟨i.st,i.fine.gone _ _,λk B=>?_,λs u m n j hj=>?_,λs u m n T=>?_,i.req,λc R=>W▸i.mxl c R,λc R=>X▸i.ffl c R,i.ffn,i.mxn,i.wait,i.wlt,i.wnd,λy F=>?_,?_,λk B=>?_,λk B f=>?_,λb=>?_,?_,?_,λb O=>?_⟩
 ·show bQ h.m _ _ k=none;rw [ep];split;·rfl
  exact i.out k B
 ·have:=cL m n;rw [G s u m n];show (bQ h.m _ _ _).isSome=_;rw [A _ Z];exact i.slab s u m n j hj
 ·rw [G s u m n] at T;exact i.off s u m n T
 ·obtain⟨x,f,rfl⟩:=JE.1 F;obtain⟨k1,k2,k3,k4⟩:=d x;have g:=i.rgs x f;unfold Rg9.ext at g ⊢;rw [k1,k2,k3];refine⟨g.1,g.2.1,g.2.2.1,g.2.2.2.1,g.2.2.2.2.1,?_⟩;by_cases e:x.base=r.base;·rw [tm e];exact .inr ⟨rfl,rfl⟩
  rw [tg e];exact g.2.2.2.2.2
 ·show (h.rg.map _).Pairwise _;rw [List.pairwise_map];refine i.apart.imp (λ{x y} M=>?_);unfold Rg9.ext at M ⊢;rw [(d x).1,(d x).2.1,(d x).2.2.1,(d y).1,(d y).2.1,(d y).2.2.1];exact M
 ·show (bQ h.m (r.first+r.guards) r.pages k).isSome=true↔_;rw [ep];have g:=i.big k B;constructor
  ·intro f;split at f;·cases f
   rename_i hn;obtain⟨x,v,q,p⟩:=g.1 f;have o:x.base≠r.base:=λe=>by
    have:=i.one v z e;subst this;exact hn p
   refine⟨x,JE.2 ⟨x,v,by rw [tg o]⟩,q,p⟩
  rintro⟨y,F,q,p⟩;obtain⟨x,v,rfl⟩:=JE.1 F;have o:x.base≠r.base:=λe=>by
   rw [tm e] at q;have:(2:Int)=1:=q;omega
  rw [tg o] at q p;have:=P x v (λe=>o (by rw [e]));unfold Rg9.ext at this;rw [tg Z];exact g.2 ⟨x,v,q,p⟩
 ·have N:(bQ h.m (r.first+r.guards) r.pages k).isSome=true:=f;rw [A k B] at N;exact i.low k B N
 ·show b∈h.row++[r.base]↔_;rw [JV,i.row b];constructor
  ·rintro (⟨x,f,q,p⟩|V)
   ·have o:x.base≠r.base:=λe=>by
     have:=i.one f z e;subst this;omega
    exact⟨x,JE.2 ⟨x,f,by rw [tg o]⟩,q,p⟩
   simp at V;subst V;exact⟨_,JE.2 ⟨r,z,rfl⟩,by rw [tm rfl],(d r).2.2.2⟩
  rintro⟨y,F,q,p⟩;obtain⟨x,f,rfl⟩:=JE.1 F;rw [(d x).2.2.2] at p;by_cases e:x.base=r.base;·right;simp;rw [<-p,e]
  rw [tg e] at q;exact .inl ⟨x,f,q,p⟩
 ·show (h.row++[r.base]).Nodup;rw [List.nodup_append];refine⟨i.rownd,bh,λa ha b O=>?_⟩;simp at O;subst O;rintro rfl;obtain⟨x,f,q,p⟩:=(i.row _).1 ha;have:=i.one f z p;subst this;omega
 ·show (h.row++[r.base]).length<=_;simp;omega
 obtain⟨q,p,q3,q4⟩:=i.rel b O;refine⟨q,p,q3,λy F=>?_⟩;obtain⟨x,f,rfl⟩:=JE.1 F;have:=q4 x f;unfold Rg9.ext at this ⊢;rw [(d x).1,(d x).2.1,(d x).2.2.1];exact this
theorem Inv.leave (i:Inv cf h) {b0:Nat} {t:List Nat} (g:h.row=b0::t) (j:Cf) (M:j.mix=cf.mix) (N:j.fifo=cf.fifo) (O:t.length<=j.large):Inv j { h with rg:=h.rg.filter λx=>x.base≠b0,rel:=h.rel++[b0],row:=t }:=by
 obtain⟨p,m,X,A⟩:=(i.row b0).1 (by rw [g];simp);have s:=i.rownd;rw [g] at s;obtain⟨P,Q⟩:=Km.1 s;have d:∀ x,x∈(h.rg.filter λx=>decide (x.base≠b0))↔x∈h.rg/\x.base≠b0:=λx=>by rw [J8];simp
 refine⟨i.st,i.fine,i.out,i.slab,i.off,i.req,λc B=>M▸i.mxl c B,λc B=>N▸i.ffl c B,i.ffn,i.mxn,i.wait,i.wlt,i.wnd,λy u=>i.rgs y ((d y).1 u).1,i.apart.filter _,λk R=>?_,i.low,λb=>?_,Q,O,λb z=>?_⟩
 ·show (h.m k).isSome=true↔_;rw [i.big k R];constructor;·rintro⟨x,f,o,n⟩;refine⟨x,(d x).2 ⟨f,λe=>?_⟩,o,n⟩;have:=i.one f m (e.trans A.symm);subst this;omega
  rintro⟨x,f,q⟩;exact⟨x,((d x).1 f).1,q⟩
 ·show b∈t↔_;have l:=i.row b;rw [g] at l;constructor;·intro z;obtain⟨x,f,o,n⟩:=l.1 (KC _ z);refine⟨x,(d x).2 ⟨f,λe=>?_⟩,o,n⟩;rw [n] at e;subst e;exact P z
  rintro⟨x,f,o,n⟩;obtain⟨r,v⟩:=(d x).1 f;rcases JG.1 (l.2 ⟨x,r,o,n⟩) with e|e;·exact absurd (n.trans e) v
  exact e
 rcases JV.1 z with r|r;·obtain⟨o,n,l,v⟩:=i.rel b r;exact⟨o,n,l,λy u=>v y ((d y).1 u).1⟩
 simp at r;subst r;obtain⟨Y,b2,b3,b4,b5,b6⟩:=i.rgs p m;obtain⟨f1,f2,f3,f4⟩:=wy i m;rw [A] at f2 f3;refine⟨f3,Z,Z,λy u=>?_⟩;obtain⟨F,G⟩:=(d y).1 u;rw [f2];have K:∀ {l:List Rg9},(l.Pairwise λa b=>a.first+a.ext<=b.first\/b.first+b.ext<=a.first)->y∈l->p∈l->y.first+y.ext<=p.first\/p.first+p.ext<=y.first:=λ{l}=>by
  induction l with
  | nil=>intro _ f;cases f
  | cons a t S =>
   intro T f V;obtain⟨L,W⟩:=List.pairwise_cons.1 T;rcases JG.1 f with v|v <;> rcases JG.1 V with w|w
   ·have:=v.trans w.symm;subst this;exact absurd A G
   ·subst v;exact L p w
   ·subst w;have:=L y v;omega
   exact S W v w
 have:=K i.apart F m;omega
theorem Inv.fRange (i:Inv cf h) (e:r∈h.rg) (f:r.st=1):Inv cf (aZ cf h r):=by
 rw [ij];by_cases c:cf.large<(h.row++[r.base]).length
 ·rw [tm c];have g:=i.fA e f { cf with large:=cf.large+1 } rfl rfl (by have:=i.rowl;dsimp only;omega);obtain⟨d,t,b⟩:∃ d t,h.row++[r.base]=d::t:=by
   cases h.row with
   | nil=>exact ⟨_,_,rfl⟩
   | cons a l=>exact ⟨a,l++[r.base],rfl⟩
  have j:=g.leave (b0:=d) (t:=t) b cf rfl rfl (by
   have k:=congrArg List.length b;have:=i.rowl;simp at k;omega)
  rw [b];exact j
 rw [tg c];exact i.fA e f cf rfl rfl (by simp at c;omega)
end
end Go.Proofs.YtdfodlhkdmkfdaaGreatDoor
