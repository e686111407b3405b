import Derived.Test.YtdngbppdomoenaaGreatDoorN41
set_option linter.unusedVariables false
set_option linter.unusedSimpArgs false
set_option maxRecDepth 20000
set_option maxHeartbeats 8000000
namespace Go.Proofs.YtdngbppdomoenaaGreatDoor
open Go.Proofs.Tryz
variable {W w:World} {B n p:Nat} {v:Value} {o:Oper} {h:Hs} {cf:Cf} {a:Act}
section
open Go.RowKit Go.Maps
theorem rb (cf):∀ (l r:List fL) (h:Hs) (a:List An4),bd cf (l++r) h a=bd cf r (bd cf l h a).1 (bd cf l h a).2
 | [],r,h,a=>rfl
 | o::l,r,h,a=>rb cf l r _ _
theorem nD (cf):∀ (r:List fL) (h:Hs) (a:List An4),(bd cf r h a).2.take a.length=a
 | [],h,a=>G9
 | o::r,h,a=>by
  show (bd cf r _ _).2.take a.length=a
  have:=nD cf r (bU cf h a o).2 (a++[(bU cf h a o).1])
  have b:=congrArg (List.take a.length) this
  rw [List.take_take,FC,Hz Z,Iz (Fv _),G9] at b
  exact b
theorem rP (cf) (a:List fL) (i:Nat) (b:i<=a.length):(bd cf a (aP cf) []).2.take i=(bd cf (a.take i) (aP cf) []).2:=by
 have e:=rb cf (a.take i) (a.drop i) (aP cf) [];rw [List.take_append_drop] at e;have:=nD cf (a.drop i) (bd cf (a.take i) (aP cf) []).1 (bd cf (a.take i) (aP cf) []).2;rw [<-e,ft,Hm,Hz b] at this;simpa using this
end
section
open Go.RowKit Go.Shelf Go.Maps
theorem qN (l):(iT l).length=l.length*6:=by
 induction l with
 | nil=>rfl
 | cons q l a=>rw [show iT (q::l)=fH q++iT l from rfl,FC,a,FN];simp [fH];omega
theorem uc (l r:List df):iT (l++r)=iT l++iT r:=by unfold iT;rw [Gu]
theorem tQ {c:List df} (l:W.ownsRow B 42 6 v c.length (iT c)) (a:List df) (G p:Nat)
  (r:∀ k q,a[k]?=some q->∀ j u,(fH q)[j]?=some u->W.cell? ⟨G,k*6+j,none⟩=some u) (A:c.length+a.length<=1000) (s:B<=W.heap.size) :
  ∃ i d,(Builtin.append_ #[27,27] 27 #[v,.slice (some ⟨G,0,none⟩) a.length p]).run prog W=.ok i d/\d.ownsRow B 42 6 i (c++a).length (iT (c++a))/\W.grownBy d v.ownBlock:=by
 obtain⟨t,k,m,n,o⟩:=G0 yK;have x:∀ j u,(iT a)[j]?=some u->W.cell? ((⟨G,0,none⟩:Addr).add j)=some u:=λj u f=>by
  have y:(⟨G,0,none⟩:Addr).add j=⟨G,j,none⟩:=by cases j <;> simp [Addr.add]
  have z:=(Fz.1 f).1;rw [qN] at z;obtain⟨q,g⟩:∃ q,a[j/6]?=some q:=⟨_,Fy Z⟩;have e:=flat_get fH 6 (λ_=>rfl) a (j/6) (j%6) q g Z;have b:j/6*6+j%6=j:=Z;rw [b] at e;have:=r (j/6) q g (j%6) u (by rw [<-e];exact f);rw [b] at this;rw [y];exact this
 have b:∀ u∈iT a,u.oneCell'=true:=λu f=>by
  unfold iT at f;obtain⟨q,_,g⟩:=List.mem_flatMap.1 f;simp [fH] at g;rcases g with rfl|rfl|rfl|rfl|rfl|rfl <;> rfl
 obtain⟨i,d,e,y,z,_⟩:=run_append_own_at (P:=prog) (w:=W) B 27 27 42 t _ 6 64 underlying27 k m n o rfl Z _ _ _ l ⟨G,0,none⟩ a.length p (iT a) (qN _) x b (by unfold maxLen;omega) Z s;refine⟨i,d,e,?_,z⟩;rw [FC,uc];exact y
theorem IU {w'} (h:D w w') {g:Nat} {o:Obj} (a:w.heap[g]?=some o):w'.heap[g]?=some o:=by rw [h.block g (ag a)];exact a
theorem Od6.bel {q W'} (h:Od6 B q W) (b:D W W'):Od6 B q W':=⟨h.p,h.a,h.b,by
 rcases h.d.2 with a|⟨g,e,c,f,a,d,i⟩
 ·exact⟨h.d.1,.inl a⟩
 ·exact⟨h.d.1,.inr ⟨g,e,c,f,a,by rw [b.block g (ag d)];exact d,i⟩⟩,h.r,h.y⟩
end
section
open Go.RowKit Go.Maps
abbrev Lv (h : Hs) (p : Nat) : Prop := Area h p 0
theorem Lv.of_eq {h'} (a:Lv h' p) (e:h'.st=h.st) (f:h'.rg=h.rg):Lv h p:=by
 cases a with
 | slot c s j g b i k l d=>exact .slot c s j g b i k (e▸l) d
 | range r c g b d=>exact .range r (f▸c) g b d
theorem Lv.in (i:Inv cf h) (a:Lv h p):p%16=0/\p<289792:=by
 cases a with
 | slot c s j b d f g m k =>
  have e:=ca b d f;have l:cy c%16=0:=by
   have:∀ c:Fin 12,cy c.val%16=0:=ar;exact this ⟨c,b⟩
  rw [<-g];refine⟨?_,Z⟩;unfold bh;rw [Nat.add_mod,Nat.mul_mod j,l];omega
 | range r b c d k =>
  have e:=i.rgs r b;unfold Rg9.ext at e;unfold Rg9.base at c;omega
theorem tR (a:¬Lv h p):∃ b,aB h p=.no b/\(b=3\/b=4):=by
 have:=bT h p;generalize aB h p=x at *;cases this with
 | slot c s j d e f g i=>exact absurd (.slot c s j d e f g i (FH _)) a
 | range r c f e=>exact absurd (.range r c f e (FH _)) a
 | no b d=>exact ⟨b,rfl,d⟩
theorem pY (cf c):∀ (f:Nat) (h:Hs) (d s j:Nat),(bN cf c f h).2.st d s j=h.st d s j\/(bN cf c f h).2.st d s j=4
 | 0,h,d,s,j=>.inl rfl
 | f+1,h,d,s,j=>by
  rw [f_]
  cases a:cJ cf h c with
  | none=>exact .inl rfl
  | some q =>
   obtain⟨g,b⟩:=q
   have i:b.st=h.st:=by
    unfold cJ at a
    split at a
    ·injection a with a;injection a with _ a;rw [<-a]
    ·split at a
     ·cases a
     ·split at a
      ·cases a
      ·injection a with a;injection a with _ a;rw [<-a]
   dsimp only
   split
   ·exact .inl (by rw [<-i])
   ·rcases pY cf c f { b with used:=b.used+1,st:=aE b.st c g (du cf b c g) 4 } d s j with e|e
    ·rw [e]
     show aE b.st c g (du cf b c g) 4 d s j=_\/_
     by_cases k:d=c/\s=g/\j=du cf b c g
     ·right
      show aE b.st c g (du cf b c g) 4 d s j=4
      unfold aE;rw [GP k]
     ·left;rw [aU _ _ k,i]
    ·exact .inr e
theorem Lv.malloc (i:Inv cf h) {a} {o:Option Nat} {z:Hs} (b:av cf h a=(o,z)) {x} (l:Lv z x):Lv h x\/o=some x:=by
 unfold av at b;by_cases ha:a<=1016
 ·rw [GP ha] at b;obtain⟨G,K⟩:=jf ha;generalize fD a=c at *;have g:=(Inv.small G 2000 i).1;have d:=pY cf c 2000 h;cases e:bN cf c 2000 h with
  | mk L M =>
   rw [e] at g b d;dsimp only at d;cases L with
   | none =>
    simp at b;obtain⟨rfl,rfl⟩:=b;cases l with
    | slot q s j k m y v f n =>
     rcases d q s j with u|u;·exact .inl (.slot q s j k m y v (u▸f) n)
     ·rw [u] at f;cases f
    | range r p w m n=>exact .inl (.range r (g.stay.rg▸p) w m n)
   | some t =>
    obtain⟨A,B⟩:=t;simp at b;obtain⟨rfl,rfl⟩:=b;cases l with
    | slot q s j k m y v f n =>
     by_cases F:q=c/\s=A/\j=B
     ·obtain⟨rfl,rfl,rfl⟩:=F;exact .inr (by rw [v])
     ·have f:aE M.st c A B 1 q s j=1:=f;rw [aU _ _ F] at f;rcases d q s j with u|u;·exact .inl (.slot q s j k m y v (u▸f) n)
      ·rw [u] at f;cases f
    | range r p w m n=>exact .inl (.range r (g.stay.rg▸p) w m n)
 ·rw [GO ha] at b;dsimp only at b;split at b
  ·simp at b;obtain⟨rfl,rfl⟩:=b;exact .inl (l.of_eq rfl rfl)
  ·split at b
   ·simp at b;obtain⟨rfl,rfl⟩:=b;exact .inl (l.of_eq rfl rfl)
   ·split at b
    ·simp at b;obtain⟨rfl,rfl⟩:=b;exact .inl (l.of_eq rfl rfl)
    ·simp at b;obtain⟨rfl,rfl⟩:=b;cases l with
     | slot q s j k m y v f n=>exact .inl (.slot q s j k m y v f n)
     | range r p w m n =>
      rcases F8.1 p with p|p;·exact .inl (.range r p w m n)
      ·rw [List.mem_singleton] at p;subst p;exact .inr (by rw [<-w];rfl)
theorem kn (h c s j):(bK h c s j).st=aE h.st c s j 3/\(bK h c s j).rg=h.rg:=by
 unfold bK;dsimp only;split <;> exact ⟨rfl,rfl⟩
theorem Lv.free (i:Inv cf h) {x:Fd} (Q:Seen h p x) (R:∀ q,x≠.no q) {y} (l:Lv (db cf h x) y):Lv h y/\y≠p:=by
 cases Q with
 | no q _=>exact absurd rfl (R q)
 | slot c s j K L P V W =>
  have w:∀ k m n,(aL cf h c s j).st k m n=1->h.st k m n=1/\¬(k=c/\m=s/\n=j):=by
   intro k m n a;have t:(bX cf h c s j).st k m n=1->h.st k m n=1/\¬(k=c/\m=s/\n=j):=λd=>by
    have d:aE h.st c s j 2 k m n=1:=d;by_cases e:k=c/\m=s/\n=j;·unfold aE at d;rw [GP e] at d;cases d
    ·rw [aU _ _ e] at d;exact⟨d,e⟩
   rw [cW] at a;split at a;·exact t a
   ·rw [(kn _ _ _ _).1] at a;unfold aE at a;split at a;·cases a
    ·exact t a
  have M:(aL cf h c s j).rg=h.rg:=by
   rw [cW];split;·rfl
   ·exact (kn _ _ _ _).2
  cases (show Lv (aL cf h c s j) y from l) with
  | slot k m n o b u A v g =>
   obtain⟨a,d⟩:=w k m n v;refine⟨.slot k m n o b u A a g,λe=>?_⟩;have:=gN o b u K L P d;have X:=aX K;have Y:=aX o;omega
  | range r B F b g =>
   rw [M] at B;refine⟨.range r B F b g,λe=>?_⟩;have a:=ca K L P;have d:=i.rgs r B;unfold Rg9.base at F;omega
 | range r B F L =>
  have S:∀ f,f∈(aJ cf h r).rg->f.st=1->f∈h.rg/\f.base≠r.base:=by
   have t:∀ f,f∈(tV h r).rg->f.st=1->f∈h.rg/\f.base≠r.base:=by
    intro f a d;have a:f∈h.rg.map λx=>if x.base=r.base then { x with st:=2,rq:=0 } else x:=a
    obtain⟨z,T,e⟩:=FQ.1 a;split at e;·rw [<-e] at d;cases d
    ·rename_i N;rw [<-e];exact⟨T,N⟩
   intro f a d;rw [cG] at a;split at a;·exact t f (Gk.1 a).1 d
   ·exact t f a d
  have w:(aJ cf h r).st=h.st:=by
   rw [cG];split <;> rfl
  cases (show Lv (aJ cf h r) y from l) with
  | slot k m n o b u A v g =>
   rw [w] at v;refine⟨.slot k m n o b u A v g,λe=>?_⟩;have a:=ca o b u;have d:=i.rgs r B;unfold Rg9.base at F;omega
  | range f O G b g =>
   obtain⟨a,d⟩:=S f O b;exact⟨.range f a G b g,λe=>d (by rw [G,F,e])⟩
structure EM (cf : Cf) (h : Hs) (o : fL) (p : Nat) (a : An4) (h1 : Hs) : Prop where
  up : ∀ x, Lv h1 x->Lv h x \/ (a.code=0/\o.kd<=2/\x=a.addr)
  fr : a.code=0->o.kd=3->¬ Lv h1 p
  mv : a.code=0->o.kd=2->p ≠ 0->p ≠ a.addr->¬ Lv h1 p
  kd : a.code=0->0<=o.kd
theorem tx (i:Inv cf h) (O:1<=cf.fifo) (p a) :
  (∀ x,Lv (a_ cf h p a).2 x->Lv h x\/((a_ cf h p a).1.code=0/\x=(a_ cf h p a).1.addr))/\((a_ cf h p a).1.code=0->p≠0->p≠(a_ cf h p a).1.addr->¬Lv (a_ cf h p a).2 p):=by
 unfold a_;dsimp only;by_cases v:p=0
 ·rw [GP v];cases e:av cf h a with
  | mk o b =>
   cases o with
   | none=>exact ⟨λx l=>(Lv.malloc i e l).elim .inl (λh=>by cases h),λ_ h=>absurd v h⟩
   | some q=>exact ⟨λx l=>(Lv.malloc i e l).elim .inl (λh=>.inr ⟨rfl,by injection h with h;exact h.symm⟩),λ_ h=>absurd v h⟩
 ·rw [GO v];have N:∀ (f:Nat) (y:Fd),aB h p=y->(∀ d,y≠.no d) ->
    (∀ x,Lv (match av cf h a with|(none,b)=>(An4.no 1,b)|(some q,b)=>(⟨0,q,0,[]⟩,db cf { b with m:=aZ b.m p q (min f a) } (aB { b with m:=aZ b.m p q (min f a) } p)):An4×Hs).2 x->Lv h x\/((match av cf h a with|(none,b)=>(An4.no 1,b)|(some q,b)=>(⟨0,q,0,[]⟩,db cf { b with m:=aZ b.m p q (min f a) } (aB { b with m:=aZ b.m p q (min f a) } p)):An4×Hs).1.code=0/\x=(match av cf h a with|(none,b)=>(An4.no 1,b)|(some q,b)=>(⟨0,q,0,[]⟩,db cf { b with m:=aZ b.m p q (min f a) } (aB { b with m:=aZ b.m p q (min f a) } p)):An4×Hs).1.addr)) /\
    ((match av cf h a with|(none,b)=>(An4.no 1,b)|(some q,b)=>(⟨0,q,0,[]⟩,db cf { b with m:=aZ b.m p q (min f a) } (aB { b with m:=aZ b.m p q (min f a) } p)):An4×Hs).1.code=0->¬Lv (match av cf h a with|(none,b)=>(An4.no 1,b)|(some q,b)=>(⟨0,q,0,[]⟩,db cf { b with m:=aZ b.m p q (min f a) } (aB { b with m:=aZ b.m p q (min f a) } p)):An4×Hs).2 p):=by
   intro f y A B
   cases e:av cf h a with
   | mk o b =>
    cases o with
    | none=>exact ⟨λx l=>(Lv.malloc i e l).elim .inl (λh=>by cases h),λk=>absurd (show (1:Int)=0 from k) ar⟩
    | some q =>
     dsimp only;have g:=i.gave e;have u:Inv cf { b with m:=aZ b.m p q (min f a) }:=g.inv.bytes _ _ _;have z:=bT { b with m:=aZ b.m p q (min f a) } p;have n:∀ d,aB { b with m:=aZ b.m p q (min f a) } p≠.no d:=by
      have G:=bT h p;rw [A] at G;cases G with
      | no d _=>exact absurd rfl (B d)
      | slot c s j k K r P t =>
       rw [gW (h':={ b with m:=aZ b.m p q (min f a) }) A (g.live c s j k K r t).1];intro d w;cases w
      | range r L M K =>
       rw [fV (h':={ b with m:=aZ b.m p q (min f a) }) A (by
        rcases g.rg with t|⟨F,t,_⟩;·exact .inl t
        ·exact .inr ⟨F,t⟩)]
       intro d w;cases w
     refine⟨λx l=>?_,λ_ l=>((Lv.free u z n l).2 rfl)⟩;have t:=(Lv.free u z n l).1;exact (Lv.malloc i e (t.of_eq rfl rfl:Lv b x)).elim .inl (λh=>.inr ⟨rfl,by injection h with h;exact h.symm⟩)
  cases G:aB h p with
  | no d=>exact ⟨λx l=>.inl l,λk P g=>by
    have:=bT h p;rw [G] at this;cases this with
    | no d w=>exact absurd (show d=0 from k) Z⟩
  | slot c s j =>
   dsimp only;split;·exact⟨λx l=>.inl l,λk=>absurd (show (5:Int)=0 from k) ar⟩
   ·split;·exact⟨λx l=>.inl (l.of_eq rfl rfl),λ_ _ h=>absurd rfl h⟩
    ·obtain⟨K,L⟩:=N (h.rq c s j).toNat _ G (λd h=>by cases h);exact⟨K,λk _ _=>L k⟩
  | range r =>
   dsimp only;split
   ·refine⟨λx l=>.inl ?_,λ_ _ h=>absurd rfl h⟩;cases l with
    | slot Q R S n g t z M u=>exact .slot Q R S n g t z M u
    | range F t n g u =>
     have t:F∈h.rg.map λx=>if x.base=r.base then { x with rq:=(a:Int) } else x:=t
     obtain⟨z,M,e⟩:=FQ.1 t;split at e;·rw [<-e] at n g;exact .range z M n g (FH _)
     ·rw [<-e] at n g;exact .range z M n g (FH _)
   ·obtain⟨K,L⟩:=N r.rq.toNat _ G (λd h=>by cases h);exact⟨K,λk _ _=>L k⟩
theorem AC (i:Inv cf h) (m:1<=cf.fifo) (o p):EM cf h o p (dv cf h o p).1 (dv cf h o p).2:=by
 have f:∀ n,o.kd<=1->0<=o.kd->EM cf h o p (match av cf h n with|(none,d)=>(An4.no 1,d)|(some q,d)=>(⟨0,q,0,[]⟩,d):An4×Hs).1 (match av cf h n with|(none,d)=>(An4.no 1,d)|(some q,d)=>(⟨0,q,0,[]⟩,d):An4×Hs).2:=by
  intro n g b;cases e:av cf h n with
  | mk c d =>
   cases c with
   | none=>exact ⟨λx l=>(Lv.malloc i e l).elim .inl (λh=>by cases h),λa=>absurd (show (1:Int)=0 from a) ar,λa=>absurd (show (1:Int)=0 from a) ar,λ_=>b⟩
   | some q=>exact ⟨λx l=>(Lv.malloc i e l).elim .inl (λh=>.inr ⟨rfl,Z,by injection h with h;exact h.symm⟩),λ_ h=>Z,λ_ h=>Z,λ_=>b⟩
 unfold dv;dsimp only;by_cases t:o.kd=0;·rw [GP t];exact f _ Z Z
 rw [GO t];by_cases u:o.kd=1
 ·rw [GP u];split;·exact⟨λx l=>.inl l,λa=>absurd (show (1:Int)=0 from a) ar,λa=>absurd (show (1:Int)=0 from a) ar,λ_=>Z⟩
  ·exact f _ Z Z
 rw [GO u];by_cases v:o.kd=2
 ·rw [GP v];obtain⟨b,c⟩:=tx i m p o.a;exact⟨λx l=>(b x l).elim .inl (λh=>.inr ⟨h.1,Z,h.2⟩),λ_ h=>Z,λa _=>c a,λ_=>Z⟩
 rw [GO v];by_cases w:o.kd=3
 ·rw [GP w];have e:=bT h p;cases k:aB h p with
  | no b =>
   rw [k] at e;cases e with
   | no b c=>exact ⟨λx l=>.inl l,λa=>absurd (show b=0 from a) Z,λa=>absurd (show b=0 from a) Z,λ_=>Z⟩
  | slot c s j =>
   rw [k] at e;dsimp only;split;·exact⟨λx l=>.inl l,λa=>absurd (show (5:Int)=0 from a) ar,λa=>absurd (show (5:Int)=0 from a) ar,λ_=>Z⟩
   ·have g:=λy=>Lv.free (cf:=cf) i e (λb h=>by cases h) (y:=y)
    exact⟨λx l=>.inl (g x l).1,λ_ _ l=>(g p l).2 rfl,λ_ h=>Z,λ_=>Z⟩
  | range r =>
   rw [k] at e;dsimp only;have g:=λy=>Lv.free (cf:=cf) i e (λb h=>by cases h) (y:=y)
   exact⟨λx l=>.inl (g x l).1,λ_ _ l=>(g p l).2 rfl,λ_ h=>Z,λ_=>Z⟩
 rw [GO w];by_cases e:o.kd=4
 ·rw [GP e];cases k:aB h p with
  | no b=>exact ⟨λx l=>.inl l,λ_ h=>Z,λ_ h=>Z,λ_=>Z⟩
  | slot c s j=>exact ⟨λx l=>.inl l,λ_ h=>Z,λ_ h=>Z,λ_=>Z⟩
  | range r=>exact ⟨λx l=>.inl l,λ_ h=>Z,λ_ h=>Z,λ_=>Z⟩
 rw [GO e];by_cases g:o.kd=5
 ·rw [GP g];split;·exact⟨λx l=>.inl l,λ_ h=>Z,λ_ h=>Z,λ_=>Z⟩
  ·exact⟨λx l=>.inl l,λ_ h=>Z,λ_ h=>Z,λ_=>Z⟩
 rw [GO g];by_cases z:o.kd=6
 ·rw [GP z];exact⟨λx l=>.inl (l.of_eq rfl rfl),λ_ h=>Z,λ_ h=>Z,λ_=>Z⟩
 rw [GO z];exact⟨λx l=>.inl l,λa=>absurd (show (6:Int)=0 from a) ar,λa=>absurd (show (6:Int)=0 from a) ar,λa=>absurd (show (6:Int)=0 from a) ar⟩
theorem yT (i:Inv cf h) (a:1<=cf.fifo) (an o):EM cf h o (m_ o an) (bU cf h an o).1 (bU cf h an o).2:=by
 unfold bU m_;by_cases c:o.ref=0;·rw [GP c,GO Z];exact AC i a o _
 ·rw [GO c];by_cases d:o.ref<0\/(an.length:Int)<o.ref
  ·rw [GP d];exact⟨λx l=>.inl l,λb=>absurd (show (6:Int)=0 from b) ar,λb=>absurd (show (6:Int)=0 from b) ar,λb=>absurd (show (6:Int)=0 from b) ar⟩
  ·rw [GO d,GP Z];exact AC i a o _
def jx (f : List Nat) (o : fL) (p : Nat) (a : An4) : List Nat :=
 if a.code ≠ 0 \/ 3<o.kd then f
 else if o.kd=3 then f++[p]
 else (if o.kd=2/\p ≠ 0/\p ≠ a.addr then f++[p] else f).filter λx => decide (x ≠ a.addr)
def gJ (e : List fL) (an : List An4) : Nat->List Nat
 | 0 => []
 | i+1 => match e[i]?, an[i]? with
  | some o, some a => jx (gJ e an i) o (m_ o (an.take i)) a
  | _, _ => gJ e an i
theorem sT {h1 o a} (t:EM cf h o p a h1) {f:List Nat} (i:∀ x∈f,¬Lv h x):∀ x∈jx f o p a,¬Lv h1 x:=by
 intro x b l;unfold jx at b;split at b
 ·rename_i g;rcases t.up x l with d|⟨n,q,_⟩;·exact i x b d
  ·rcases g with g|g;·exact g n
   ·omega
 ·rename_i g;have m:a.code=0:=by
   by_cases e:a.code=0;·exact e
   ·exact absurd (.inl e) g
  split at b
  ·rename_i r;rcases F8.1 b with b|b
   ·rcases t.up x l with d|⟨_,q,_⟩;·exact i x b d
    ·omega
   ·rw [List.mem_singleton] at b;subst b;exact t.fr m r l
  ·obtain⟨b,c⟩:=Gk.1 b;have c:x≠a.addr:=of_decide_eq_true c;split at b
   ·rename_i j;rcases F8.1 b with b|b
    ·rcases t.up x l with d|⟨_,_,k⟩;·exact i x b d
     ·exact c k
    ·rw [List.mem_singleton] at b;subst b;exact t.mv m j.1 j.2.1 j.2.2 l
   ·rcases t.up x l with d|⟨_,_,k⟩;·exact i x b d
    ·exact c k
theorem Cu (o p) (b:(dv cf h o p).1.code=0) (l:o.kd=3\/o.kd=2/\p≠0):Lv h p:=by
 have f:=bT h p;have g:(∀ a,aB h p≠.no a)->Lv h p:=λm=>by
  generalize aB h p=x at *;cases f with
  | slot c s j d e k i n=>exact .slot c s j d e k i n (FH _)
  | range r c j e=>exact .range r c j e (FH _)
  | no a d=>exact absurd rfl (m a)
 refine g λa e=>?_;rw [e] at f
 have d:a=3\/a=4:=by
  cases f with
  | no a d=>exact d
 unfold dv at b;rcases l with k|⟨k,i⟩
 ·simp only [k,e] at b;have b:a=0:=b;omega
 ·simp only [k] at b;have b:(a_ cf h p o.a).1.code=0:=b;unfold a_ at b;simp only [GO i,e] at b;have b:a=0:=b;omega
theorem xm (cf h an o) (a:(bU cf h an o).1.code=0):bU cf h an o=dv cf h o (m_ o an):=by
 unfold bU m_ at *;by_cases b:o.ref=0;·rw [GP b,GO Z]
 ·rw [GO b] at a ⊢;by_cases c:o.ref<0\/(an.length:Int)<o.ref
  ·rw [GP c] at a;exact absurd (show (6:Int)=0 from a) ar
  ·rw [GO c,GP Z]
theorem wG (cf:Cf) (c:1<=cf.fifo) (b:List fL) (i:Nat) (o:fL) (f:b[i]?=some o) (a:An4) (ha:(bd cf b (aP cf) []).2[i]?=some a) :
  ∃ h,Inv cf h/\(bd cf (b.take i) (aP cf) []).1=h/\bU cf h ((bd cf b (aP cf) []).2.take i) o=(a,(bd cf (b.take (i+1)) (aP cf) []).1):=by
 have l:=(Fz.1 f).1;have g:b.take (i+1)=b.take i++[o]:=by rw [F_,f];rfl
 refine⟨_,(jp cf c (b.take i) (aP cf) [] 0 (Inv.new cf) ⟨Fv _,Fv _,Fv _,Fv _⟩).1,rfl,?_⟩;rw [rP cf b i Z,g,gF];have e:=rP cf b (i+1) Z;rw [g,gF] at e;have d:=congrArg (λl=>l[i]?) e;have j:(bd cf (b.take i) (aP cf) []).2.length=i:=by rw [ft,Hm,Hz Z];simp
 simp only [Gx,ha] at d;rw [GP Z,Gn Z,j,Nat.sub_self] at d;have k:a=(bU cf (bd cf (b.take i) (aP cf) []).1 (bd cf (b.take i) (aP cf) []).2 o).1:=by simpa using d
 rw [k]
theorem oC (cf:Cf) (f:1<=cf.fifo) (b:List fL):∀ i,i<=b.length->∀ x∈gJ b (bd cf b (aP cf) []).2 i,¬Lv (bd cf (b.take i) (aP cf) []).1 x/\x%16=0/\x<289792
 | 0,_,x,c=>by cases c
 | i+1,z,x,c=>by
  have g:=oC cf f b i Z
  obtain⟨o,m⟩:∃ o,b[i]?=some o:=⟨_,Fy Z⟩
  obtain⟨a,ha⟩:∃ a,(bd cf b (aP cf) []).2[i]?=some a:=⟨_,Fy (by rw [ft];simp;omega)⟩
  obtain⟨h,d,j,l⟩:=wG cf f b i o m a ha
  unfold gJ at c
  rw [m,ha] at c
  dsimp only at c
  have n:=yT d f ((bd cf b (aP cf) []).2.take i) o
  rw [l] at n
  rw [j] at g
  refine⟨sT n (λy s=>(g y s).1) x c,?_⟩
  have k:a.code=0->(o.kd=3\/o.kd=2/\m_ o ((bd cf b (aP cf) []).2.take i)≠0)->m_ o ((bd cf b (aP cf) []).2.take i)%16=0/\m_ o ((bd cf b (aP cf) []).2.take i)<289792:=λp t=>by
   have u:=xm cf h ((bd cf b (aP cf) []).2.take i) o (by rw [l];exact p)
   refine Lv.in d (Cu (cf:=cf) o _ ?_ t)
   rw [<-u,l]
   exact p
  unfold jx at c
  split at c
  ·exact (g x c).2
  ·rename_i v
   have q:a.code=0:=by
    by_cases e:a.code=0
    ·exact e
    ·exact absurd (.inl e) v
   split at c
   ·rename_i w
    rcases F8.1 c with c|c
    ·exact (g x c).2
    ·rw [List.mem_singleton] at c
     rw [c]
     exact k q (.inl w)
   ·have c:=(Gk.1 c).1
    split at c
    ·rename_i r
     rcases F8.1 c with c|c
     ·exact (g x c).2
     ·rw [List.mem_singleton] at c
      rw [c]
      exact k q (.inr ⟨r.1,r.2.1⟩)
    ·exact (g x c).2
theorem r7 (cf h):∀ (d:List fL) (an:List An4),(∀ o∈d,o.kd=3/\o.ref=0/\¬Lv h o.p)->∃ f,bd cf d h an=(h,an++f)/\f.length=d.length/\∀ c∈f,c.code=3\/c.code=4
 | [],an,_=>⟨[],by simp [bd],rfl,λc g=>by cases g⟩
 | o::d,an,i=>by
  obtain⟨j,k,l⟩:=i o (List.mem_cons_self ..)
  obtain⟨a,m,g⟩:=tR l
  have e:bU cf h an o=(.no a,h):=by
   unfold bU
   rw [GP k]
   unfold dv
   simp only [j,m]
   rfl
  obtain⟨f,n,q,r⟩:=r7 cf h d (an++[.no a]) (λp b=>i p (Ij _ b))
  refine⟨.no a::f,?_,by simp [q],λc b=>?_⟩
  ·show bd cf d (bU cf h an o).2 (an++[(bU cf h an o).1])=_
   rw [e]
   dsimp only
   rw [n]
   simp
  ·rcases F4.1 b with rfl|b
   ·exact g
   ·exact r c b
def de (n : Nat) : List Nat->List fL
 | [] => []
 | x :: r => if n+3<=300 then ⟨3, 0, x, 0, 0, []⟩ :: ⟨3, 0, (x+1)%18446744073709551616, 0, 0, []⟩ :: ⟨3, 0, (x+18446744073709142016)%18446744073709551616, 0, 0, []⟩ :: de (n+3) r else de n r
theorem ql {cf h} (i:Inv cf h):∀ (f:List Nat) (n:Nat),(∀ x∈f,¬Lv h x/\x%16=0/\x<289792)->∀ o∈de n f,o.kd=3/\o.ref=0/\¬Lv h o.p
 | [],n,_,o,a=>by cases a
 | x::r,n,b,o,a=>by
  obtain⟨d,e,f⟩:=b x (List.mem_cons_self ..)
  have c:=λn=>ql i r n (λy e=>b y (Ij _ e))
  unfold de at a
  split at a
  ·rcases F4.1 a with rfl|a
   ·exact⟨rfl,rfl,d⟩
   ·rcases F4.1 a with rfl|a
    ·refine⟨rfl,rfl,λl=>?_⟩
     have:=Lv.in i l
     dsimp only at this
     omega
    ·rcases F4.1 a with rfl|a
     ·refine⟨rfl,rfl,λl=>?_⟩
      have:=Lv.in i l
      dsimp only at this
      omega
     ·exact c _ o a
  ·exact c _ o a
theorem ts (cf:Cf) (b:1<=cf.fifo) (a:List fL):∃ d,bd cf (a++de a.length (gJ a (bd cf a (aP cf) []).2 a.length)) (aP cf) []=((bd cf a (aP cf) []).1,(bd cf a (aP cf) []).2++d)/\d.length=(de a.length (gJ a (bd cf a (aP cf) []).2 a.length)).length/\∀ c∈d,c.code=3\/c.code=4:=by
 have c:=(jp cf b a (aP cf) [] 0 (Inv.new cf) ⟨Fv _,Fv _,Fv _,Fv _⟩).1;have d:=oC cf b a a.length (Fv _);rw [G9] at d;rw [rb];exact r7 cf _ _ _ (ql c _ _ d)
end
section
open Go.RowKit Go.Shelf Go.Maps
def AJ : Prop := ∀ (mi fi la bu ky : Int) (da : Option Addr) (dn dc : Nat) (A : Option Addr) (n cap : Nat) (w : World), ¬ (jg mi fi la bu dn/\n<=300) ->
 Calls prog 12 #[.agg #[.int .i64 mi, .int .i64 fi, .int .i64 la, .int .i64 bu, .int .u64 ky, .slice da dn dc], .slice A n cap] w λe W' => e=.returned (.agg #[.bool false, .slice none 0 0, .int .i64 0, .slice none 0 0, .slice none 0 0, .slice none 0 0, .slice none 0 0, .slice none 0 0, .slice none 0 0, .int .i64 0])/\D w W'
theorem zR (b:TypeId) (x:Operand) (d:o.op=.load b x) (g:Nat) (e:a.eval x=.pointer (some ⟨g,0,none⟩)) {c:Array Value} (f:(loadVar b ⟨g,0,none⟩).run prog w=.ok (.agg c) w):(execOp a.eval o).run prog w=.ok (.value (.agg c)) w:=by
 unfold execOp;simp only [d,e,Instr.loadAt,Instr.sureAddr,Sem.run_bind,Sem.run_pure,Result.andThen_ok,f]
theorem Ois.low {V A ops} (h:Ois w A ops) (b:D w V):Ois V A ops :=
 ⟨λk q a=>by obtain ⟨G,c,d,e⟩:=h.at_ k q a;exact⟨G,c,FG d b.size,λj u f=>ad b (e j u f)⟩,h.wf,λq a i g=>by obtain ⟨x,c,d,e⟩:=h.dat q a i g;exact⟨x,c,ad b d,FG e b.size⟩⟩
theorem ER (V) (k:Nat):D V (V.drewN k):=⟨rfl,rfl,rfl,Fv _,λ_ _=>rfl⟩
theorem uw {b c d e f g i j k:Value} (a:∀ v∈[b,c,d,e,f,g,i,j,k],v.oneCell'=true):(#[.bool true,b,c,d,e,f,g,i,j,k]:Array Value).all (·.oneCell')=true:=by
 have h:=a;simp only [F4,Gp,or_false,forall_eq_or_imp,forall_eq] at h;obtain⟨l,m,n,o,p,q,r,s,t⟩:=h;rw [<-Array.all_toList];simp only [List.all_cons,List.all_nil,Bool.and_true,Gi];exact⟨rfl,l,m,n,o,p,q,r,s,t⟩
def Anf (A : Option Addr) (an : List An4) (W : World) : Prop := ∀ j a, an[j]? = some a->∃ G, A=some ⟨G, 0, none⟩/\∃ (x : Option Addr) (y z : Nat), W.rangeAt G (j*4) [.int .i64 a.code, .int .u64 (a.addr : Nat), .int .i64 (a.size : Nat), .slice x y z]
theorem Anf.low {A an W'} (h:Anf A an W) (b:D W W'):Anf A an W':=λj a ha=>by
 obtain⟨G,c,x,y,z,d⟩:=h j a ha
 exact⟨G,c,x,y,z,λt u e=>ad b (d t u e)⟩
theorem qF {n:Value} {l:List Aw} {b:List An4} (d:W.ownsRow B 44 4 n l.length (fZ l)) (o:l.map (·.1)=b) (i:∀ z∈l,W.ownsRow B 5 1 z.2 z.1.data.length (Ns .u8 z.1.data)) :
  ∃ A c,n=.slice A b.length c/\b.length<=c/\Anf A b W:=by
 have e:l.length=b.length:=by rw [<-o,Gz]
 by_cases q:0<b.length
 ·obtain⟨G,k,f,_,_,p⟩:=Bd d o q;refine⟨_,k,f,?_,λj a ha=>⟨G,rfl,?_⟩⟩
  ·rcases d.2 with ⟨_,c⟩|⟨g,r,m,c,s,w,x,y,_⟩;·omega
   ·rw [f] at c;injection c with A F K;omega
  ·obtain⟨v,r,s,w,A,F⟩:=p j a ha;obtain⟨x,y,z,rfl⟩:∃ x y z,v=.slice x y z:=by
    rcases (i _ r).2 with ⟨c,_⟩|⟨_,_,_,c,_⟩;·exact⟨_,_,_,c⟩
    ·exact⟨_,_,_,c⟩
   refine⟨x,y,z,λt u hu=>?_⟩
   match t,hu with
   | 0,hu=>simp at hu;subst hu;exact s
   | 1,hu=>simp at hu;subst hu;exact w
   | 2,hu=>simp at hu;subst hu;exact A
   | 3,hu=>simp at hu;subst hu;exact F
   | t+4,hu=>simp at hu
 ·have c:b=[]:=List.length_eq_zero_iff.1 Z;rcases d.2 with ⟨f,p⟩|⟨g,k,m,f,_⟩;·exact⟨none,0,by rw [f,c];rfl,Z,λj a ha=>by rw [c] at ha;simp at ha⟩
  ·exact⟨_,k,by rw [f,e],by rw [c];exact FH _,λj a ha=>by rw [c] at ha;simp at ha⟩
def Rd1 (k:IntKind) (w:World) (u:Value) (e:List Int):Prop:=∃ a c,u=.slice a e.length c/\∀ i,i<e.length->∃ g,a=some ⟨g,0,none⟩/\w.cell? ⟨g,i,none⟩=some (.int k (e[i]?.getD 0))
theorem Rd1.below {k u zs} (h:Rd1 k w u zs) (b:D w W):Rd1 k W u zs:=by
 obtain⟨a,c,e,h⟩:=h;exact⟨a,c,e,λi d=>by obtain ⟨g,f,j⟩:=h i d;exact⟨g,f,ad b j⟩⟩
theorem Rd1.sl {k u zs} (h:Rd1 k w u zs):∃ a b c,u=.slice a b c:=by obtain ⟨a,c,e,_⟩:=h;exact⟨_,_,_,e⟩
theorem sH (u1 u2:Value) (a:List Int) (w:World) (g:Rd1 .i64 w u1 a) (k:Rd1 .i64 w u2 a) (l:a.length<=1048576):Calls prog 22 #[u1,u2] w λe o=>e=.returned (.bool true)/\∃ m,o=w.drewN m:=by
 obtain⟨r,s,rfl,c⟩:=g;obtain⟨t,u,rfl,d⟩:=k;have p:=H c;have q:=H d;obtain⟨n,b⟩:∃ n,a.length=n:=⟨_,rfl⟩;rw [b] at l ⊢;have f:=H b;clear c d b;go_enter func22,ntmps22;go_wp2_with fail;go_loopw [13] (λi wr=>∃ j m:Nat,j<=n/\i=I j/\Hid (wr=w.drewN m)) (λi _=>n-(intOf i).toNat);case atStart=>exact ⟨0,0,FH _,rfl,H (World.drewN_zero w).symm⟩
 case round =>
  obtain⟨j,m,v,rfl,b⟩:=hrel;obtain rfl:=b.out;clear b;by_cases b:j<n
  ·obtain⟨x,rfl,c⟩:=p.out j (by rw [f.out];exact b);obtain⟨y,rfl,d⟩:=q.out j (by rw [f.out];exact b);generalize a[j]?.getD 0=z at c d;(go_upto_region 6 with fail);go_quiet (fail);go_wp2;go_roundw;(case rel=>exact ⟨j+1,m+nq,Z,aY,H rfl⟩);case measure=>simp [intOf];omega
  go_wp2;go_ret;exact⟨rfl,m,rfl⟩
theorem wT (u1 u2:Value) (a:List Int) (w:World) (g:Rd1 .u64 w u1 a) (k:Rd1 .u64 w u2 a) (l:a.length<=1048576):Calls prog 47 #[u1,u2] w λe o=>e=.returned (.bool true)/\∃ m,o=w.drewN m:=by
 obtain⟨r,s,rfl,c⟩:=g;obtain⟨t,u,rfl,d⟩:=k;have p:=H c;have q:=H d;obtain⟨n,b⟩:∃ n,a.length=n:=⟨_,rfl⟩;rw [b] at l ⊢;have f:=H b;clear c d b;go_enter func47,ntmps47;go_wp2_with fail;go_loopw [13] (λi wr=>∃ j m:Nat,j<=n/\i=I j/\Hid (wr=w.drewN m)) (λi _=>n-(intOf i).toNat);case atStart=>exact ⟨0,0,FH _,rfl,H (World.drewN_zero w).symm⟩
 case round =>
  obtain⟨j,m,v,rfl,b⟩:=hrel;obtain rfl:=b.out;clear b;by_cases b:j<n
  ·obtain⟨x,rfl,c⟩:=p.out j (by rw [f.out];exact b);obtain⟨y,rfl,d⟩:=q.out j (by rw [f.out];exact b);generalize a[j]?.getD 0=z at c d;(go_upto_region 6 with fail);go_quiet (fail);go_wp2;go_roundw;(case rel=>exact ⟨j+1,m+nq,Z,aY,H rfl⟩);case measure=>simp [intOf];omega
  go_wp2;go_ret;exact⟨rfl,m,rfl⟩
def Re (w:World) (v:Value) (n sz:Nat) (e:Nat->List Value):Prop:=∃ a c,v=.slice a n c/\∀ k,k<n->(e k).length=sz/\∃ g,a=some ⟨g,0,none⟩/\w.rangeAt g (k*sz) (e k)
theorem Re.below {sz Cq9} (h:Re w v n sz Cq9) (b:D w W):Re W v n sz Cq9:=by
 obtain⟨a,c,e,h⟩:=h;exact⟨a,c,e,λk d=>by obtain ⟨f,g,i,l⟩:=h k d;exact⟨f,g,i,λj v m=>ad b (l j v m)⟩⟩
theorem Re.sl {sz Cq9} (h:Re w v n sz Cq9):∃ a b c,v=.slice a b c:=by obtain ⟨a,c,e,_⟩:=h;exact⟨_,_,_,e⟩
theorem tu {e sz:Nat} {b:List Value} (h:w.ownsRow B e sz v n b):Re w v n sz (λk=>(b.drop (k*sz)).take sz):=by
 rcases h.2 with ⟨rfl,rfl⟩|⟨g,d,f,rfl,o,i,p,q,r,l⟩;·exact⟨none,0,rfl,λk c=>Z⟩
 have m:=h.1;refine⟨_,_,rfl,λk c=>⟨?_,g,rfl,λj u a=>?_⟩⟩;·rw [Hm,List.length_drop,m];have:(k+1)*sz<=n*sz:=Gm _ c;rw [Gy] at this;omega
 rw [GT _ _ _ _ _ _ i];rw [Gx] at a;split at a
 ·rw [IR,<-l] at a;rw [Gx] at a;split at a;·simpa using a
  cases a
 cases a
theorem qX (b:TypeId) (x:Operand) (d:o.op=.load b x) (g i) (e:a.eval x=J g i) {c:Array Value} (f:(loadVar b ⟨g,i,none⟩).run prog w=.ok (.agg c) w):(execOp a.eval o).run prog w=.ok (.value (.agg c)) w:=by
 unfold execOp;simp only [d,e,Instr.loadAt,Instr.sureAddr,Sem.run_bind,Sem.run_pure,Result.andThen_ok,f]
theorem xe {b c:TypeId} {x y:Operand} {d e:Array Value} (f:o.op=.binOp .neq b x y c) (g:a.eval x=.agg d) (i:a.eval y=.agg e) (j:(binOp .neq b (.agg d) (.agg e)).run prog w=.ok (.bool false) w) (k:prog.eqGuardType prog.depth b=false:=by kernel_rfl):(execOp a.eval o).run prog w=.ok (.value (.bool false)) w:=by
 unfold execOp;simp only [f,g,i,Sem.run_bind,run_eqGuard_agg _ _ _ _ _ _ _ k,Result.andThen_ok,j,Sem.run_pure]
theorem Az (w) (a b:Array Value) (t:TypeId):D w ((w.alloc (.cells a t)).alloc (.cells b t))/\((w.alloc (.cells a t)).alloc (.cells b t)).heap[w.heap.size]?=some (.cells a t)/\((w.alloc (.cells a t)).alloc (.cells b t)).heap[w.heap.size+1]?=some (.cells b t):=by
 refine⟨((Fu _ _).alloc (Fv _) _).alloc (by rw [aO];omega) _,?_,?_⟩;·rw [eg _ _ _ (by rw [aO];omega)];exact ao _ _
 rw [<-aO w (.cells a t)];exact ao _ _
theorem IY (a b c d f) (W:World):(binOp .neq 51 (.agg #[I a,I b,I c,I d,I f]) (.agg #[I a,I b,I c,I d,I f])).run prog W=.ok (.bool false) W:=by
 have u3:=underlying3;have i:=Tryz.isAgg3;have j:=Tryz.sizeOf3;have u23:=underlying23;have e:=Tryz.isAgg23;have g:=Tryz.sizeOf23;rw [run_neq_struct,run_equalIn_agg _ _ _ _ _ E E];simp only [Program.fieldsOf,underlying51];go_simp
theorem IZ (a b c d f) (W:World):(binOp .neq 66 (.agg #[U a,I b,I c,I d,I f]) (.agg #[U a,I b,I c,I d,I f])).run prog W=.ok (.bool false) W:=by
 have u3:=underlying3;have i:=Tryz.isAgg3;have j:=Tryz.sizeOf3;have u23:=underlying23;have e:=Tryz.isAgg23;have g:=Tryz.sizeOf23;rw [run_neq_struct,run_equalIn_agg _ _ _ _ _ E E];simp only [Program.fieldsOf,underlying66];go_simp
theorem uE (w:World) (k:Int) (u f) (p q r:List Int) (nsq9 nrq9 S R Cq Dqq9) (M F:Nat->List Int) (vo:Value) (vs vw vr) (vl ve d0:Value) (vs' vw' vr') (d7 d8:Value) (o1:Rd1 .i64 w vo p) (o2:Rd1 .i64 w d0 p) (l1:Rd1 .u64 w vl q) (l2:Rd1 .u64 w d7 q) (e1:Rd1 .u64 w ve r) (e2:Rd1 .u64 w d8 r) (l:Re w vs nsq9 5 S) (m:Re w vs' nsq9 5 S) (o:∀ k,k<nsq9->∃ a b c d e:Int,S k=[I a,I b,I c,I d,I e]) (s:Re w vr nrq9 5 R) (t:Re w vr' nrq9 5 R) (x:∀ k,k<nrq9->∃ a b c d e:Int,R k=[U a,I b,I c,I d,I e]) (O:Re w vw 12 3 Cq) (Q:Re w vw' 12 3 Dqq9) (g:∀ k,k<12->∃ u1 u2,Cq k=[u1,u2,I f]/\Rd1 .i64 w u1 (M k)/\Rd1 .i64 w u2 (F k)) (y:∀ k,k<12->∃ u1 u2,Dqq9 k=[u1,u2,I f]/\Rd1 .i64 w u1 (M k)/\Rd1 .i64 w u2 (F k)) (z:p.length<=100000) (A:q.length<=100000) (B:r.length<=100000) (e4:nsq9<=100000) (e5:nrq9<=100000) (G:∀ k,k<12->(M k).length<=100000/\(F k).length<=100000) :
  Calls prog 17 #[.agg #[I k,vo,vs,vw,vr,vl,ve,I u],.agg #[I k,d0,vs',vw',vr',d7,d8,I u]] w λe w'=>e=.returned (.bool true)/\D w w':=by
 have O1:=H o1;have O2:=H o2;have L1:=H l1;have L2:=H l2;have E1:=H e1;have E2:=H e2;obtain⟨a1,c1,rfl,T⟩:=o1;obtain⟨b1,d1,rfl,V⟩:=o2;obtain⟨a5,c5,rfl,Y⟩:=l1;obtain⟨b5,d5,rfl,i4⟩:=l2;obtain⟨a6,c6,rfl,i5⟩:=e1;obtain⟨b6,d6,rfl,i6⟩:=e2;obtain⟨a2,c2,rfl,l⟩:=l;obtain⟨b2,d2,rfl,m⟩:=m;obtain⟨a4,c4,rfl,s⟩:=s;obtain⟨b4,d4,rfl,t⟩:=t;obtain⟨a3,c3,rfl,O⟩:=O;obtain⟨b3,d3,rfl,Q⟩:=Q;obtain⟨K,L,N⟩:=Az w #[I k,.slice a1 p.length c1,.slice a2 nsq9 c2,.slice a3 12 c3,.slice a4 nrq9 c4,.slice a5 q.length c5,.slice a6 r.length c6,I u] #[I k,.slice b1 p.length d1,.slice b2 nsq9 d2,.slice b3 12 d3,.slice b4 nrq9 d4,.slice b5 q.length d5,.slice b6 r.length d6,I u] 36;have S1:=H l;have S2:=H m;have HS:=H o;have R1:=H s;have R2:=H t;have HR:=H x;have Q1:=H O;have Q2:=H Q;have HC:=H g;have HD:=H y;have HM:=H G;have X:=H (IT z (IT A B));have B0:=H K;have i:=H L;have j:=H N;clear T V Y i4 i5 i6 l m o s t x O Q g y G K L N z A B;have n0:(k != k)=false:=bH;have n7:(u != u)=false:=bH;go_enter func17,ntmps17;go_upto_region 1 with fail
 generalize (w.alloc _).alloc _=g at B0 i j ⊢;generalize p.length=no at i j O1 O2 ⊢;generalize q.length=V at i j L1 L2 ⊢;generalize r.length=ne at i j E1 E2 ⊢;obtain⟨P,m⟩:∃ P,w.heap.size=P:=⟨_,rfl⟩;obtain⟨B,l⟩:∃ B,w.heap.size+1=B:=⟨_,rfl⟩;rw [m] at i;rw [l] at j;simp only [l];simp only [m];have x0:g.cell? ⟨P,0,none⟩=some (I k):=bJ i.out;have y0:g.cell? ⟨B,0,none⟩=some (I k):=bJ j.out;have x1:g.cell? ⟨P,1,none⟩=some (.slice a1 no c1):=bJ i.out;have y1:g.cell? ⟨B,1,none⟩=some (.slice b1 no d1):=bJ j.out;have x2:g.cell? ⟨P,2,none⟩=some (.slice a2 nsq9 c2):=bJ i.out;have y2:g.cell? ⟨B,2,none⟩=some (.slice b2 nsq9 d2):=bJ j.out;have x3:g.cell? ⟨P,3,none⟩=some (.slice a3 12 c3):=bJ i.out;have y3:g.cell? ⟨B,3,none⟩=some (.slice b3 12 d3):=bJ j.out;have x4:g.cell? ⟨P,4,none⟩=some (.slice a4 nrq9 c4):=bJ i.out;have y4:g.cell? ⟨B,4,none⟩=some (.slice b4 nrq9 d4):=bJ j.out;have x5:g.cell? ⟨P,5,none⟩=some (.slice a5 V c5):=bJ i.out;have y5:g.cell? ⟨B,5,none⟩=some (.slice b5 V d5):=bJ j.out;have x6:g.cell? ⟨P,6,none⟩=some (.slice a6 ne c6):=bJ i.out;have y6:g.cell? ⟨B,6,none⟩=some (.slice b6 ne d6):=bJ j.out;have x7:g.cell? ⟨P,7,none⟩=some (I u):=bJ i.out;have y7:g.cell? ⟨B,7,none⟩=some (I u):=bJ j.out;have e6:=H (IT m l);clear m l i j;go_wp2_with fail;go_loopw [50] (λi wr=>∃ j m:Nat,j<=nsq9/\i=I j/\Hid (wr=g.drewN m)) (λi _=>nsq9-(intOf i).toNat);case atStart=>exact ⟨0,0,FH _,rfl,H rfl⟩
 case round =>
  obtain⟨j,m,hj,rfl,K⟩:=hrel;obtain rfl:=K.out;clear K;by_cases l:j<nsq9
  ·obtain⟨O,y,rfl,s⟩:=S1.out j l;obtain⟨Q,z,rfl,t⟩:=S2.out j l;obtain⟨a,b,c,d,e,L⟩:=HS.out j l;rw [L] at s t;have Y:D g (g.drewN m).drew:=az (ER g m) (Fu _ _).drew;have L8:=run_loadVar_mid (P:=prog) (g.drewN m).drew y (j*5) 51 _ _ (λx v hv=>ad Y (ad B0.out (s x v hv))) underlying51 rfl E;have M8:=run_loadVar_mid (P:=prog) (g.drewN m).drew z (j*5) 51 _ _ (λx v hv=>ad Y (ad B0.out (t x v hv))) underlying51 rfl E;clear O Q s t L Y;(go_upto_region 6 with fail);refine rh (S:=λA=>(loadVar 51 ⟨y,j*5,none⟩).run prog A=.ok (.agg #[I a,I b,I c,I d,I e]) A/\(loadVar 51 ⟨z,j*5,none⟩).run prog A=.ok (.agg #[I a,I b,I c,I d,I e]) A/\A.cell? ⟨P,2,none⟩=some (Vl y nsq9 c2)/\A.cell? ⟨B,2,none⟩=some (Vl z nsq9 d2)) ?_;have o:=(show _/\_/\_/\_ from ⟨L8,M8,x2,y2⟩);refine pk 0 (J P 2) o ?_;refine pz 1 (Vl y nsq9 c2) o ?_;refine pk 2 (I j) o ?_;refine pz 3 (J y (j*5)) o ?_;refine pf 4 (.agg #[I a,I b,I c,I d,I e]) rfl o (λW h=>qX 51 _ rfl y (j*5) rfl h.1) ?_;refine pk 5 (J B 2) o ?_;refine pz 6 (Vl z nsq9 d2) o ?_;refine pk 7 (I j) o ?_;refine pz 8 (J z (j*5)) o ?_;refine pf 9 (.agg #[I a,I b,I c,I d,I e]) rfl o (λW h=>qX 51 _ rfl z (j*5) rfl h.2.1) ?_;refine pf 10 (.bool false) rfl o (λW h=>xe rfl rfl rfl (IY a b c d e W)) ?_;refine bY ?_;clear o L8 M8;go_wp2;go_roundw;(case rel=>exact ⟨j+1,m+1,Z,aY,H rfl⟩);case measure=>simp [intOf];omega
  clear hj;go_wp2_with fail;go_loopw [68] (λi wr=>∃ j m:Nat,j<=nrq9/\i=I j/\Hid (wr=g.drewN m)) (λi _=>nrq9-(intOf i).toNat);case atStart=>exact ⟨0,_,FH _,rfl,H rfl⟩
  case round =>
   obtain⟨j,m,hj,rfl,K⟩:=hrel;obtain rfl:=K.out;clear K;by_cases l:j<nrq9
   ·obtain⟨O,y,rfl,s⟩:=R1.out j l;obtain⟨Q,z,rfl,t⟩:=R2.out j l;obtain⟨a,b,c,d,e,L⟩:=HR.out j l;rw [L] at s t;have Y:D g (g.drewN m).drew:=az (ER g m) (Fu _ _).drew;have L8:=run_loadVar_mid (P:=prog) (g.drewN m).drew y (j*5) 66 _ _ (λx v hv=>ad Y (ad B0.out (s x v hv))) underlying66 rfl E;have M8:=run_loadVar_mid (P:=prog) (g.drewN m).drew z (j*5) 66 _ _ (λx v hv=>ad Y (ad B0.out (t x v hv))) underlying66 rfl E;clear O Q s t L Y;(go_upto_region 12 with fail);refine rh (S:=λA=>(loadVar 66 ⟨y,j*5,none⟩).run prog A=.ok (.agg #[U a,I b,I c,I d,I e]) A/\(loadVar 66 ⟨z,j*5,none⟩).run prog A=.ok (.agg #[U a,I b,I c,I d,I e]) A/\A.cell? ⟨P,4,none⟩=some (Vl y nrq9 c4)/\A.cell? ⟨B,4,none⟩=some (Vl z nrq9 d4)) ?_;have o:=(show _/\_/\_/\_ from ⟨L8,M8,x4,y4⟩);refine pk 0 (J P 4) o ?_;refine pz 1 (Vl y nrq9 c4) o ?_;refine pk 2 (I j) o ?_;refine pz 3 (J y (j*5)) o ?_;refine pf 4 (.agg #[U a,I b,I c,I d,I e]) rfl o (λW h=>qX 66 _ rfl y (j*5) rfl h.1) ?_;refine pk 5 (J B 4) o ?_;refine pz 6 (Vl z nrq9 d4) o ?_;refine pk 7 (I j) o ?_;refine pz 8 (J z (j*5)) o ?_;refine pf 9 (.agg #[U a,I b,I c,I d,I e]) rfl o (λW h=>qX 66 _ rfl z (j*5) rfl h.2.1) ?_;refine pf 10 (.bool false) rfl o (λW h=>xe rfl rfl rfl (IZ a b c d e W)) ?_;refine bY ?_;clear o L8 M8;go_wp2;go_roundw;(case rel=>exact ⟨j+1,m+1,Z,aY,H rfl⟩);case measure=>simp [intOf];omega
   clear hj;go_wp2_with fail;go_loopw [86] (λi wr=>∃ j m:Nat,j<=12/\i=I j/\Hid (wr=g.drewN m)) (λi _=>12-(intOf i).toNat);(case atStart=>exact ⟨0,_,FH _,rfl,H rfl⟩);case round =>
    obtain⟨j,m,hj,rfl,K⟩:=hrel;obtain rfl:=K.out;clear K;by_cases l:j<12
    ·obtain⟨O,y,rfl,s⟩:=Q1.out j l;obtain⟨Q,z,rfl,t⟩:=Q2.out j l;obtain⟨u1,u2,d9,m1,f1⟩:=HC.out j l;obtain⟨w1,w2,e0,m2,f2⟩:=HD.out j l;obtain⟨hm,hf⟩:=HM.out j l;rw [d9] at s;rw [e0] at t;obtain⟨G,T⟩:∃ G,g.drewN m=G:=⟨_,rfl⟩;have B1:=H (show D g G from by rw [<-T];exact ER _ _);have N:=H (az B0.out B1.out);rw [T];have z0:G.cell? ⟨y,j*3,none⟩=some u1:=ad N.out (s 0 _ rfl);have z1:G.cell? ⟨y,j*3+1,none⟩=some u2:=ad N.out (s 1 _ rfl);have z2:G.cell? ⟨y,j*3+2,none⟩=some (I f):=ad N.out (s 2 _ rfl);have z3:G.cell? ⟨z,j*3,none⟩=some w1:=ad N.out (t 0 _ rfl);have z4:G.cell? ⟨z,j*3+1,none⟩=some w2:=ad N.out (t 1 _ rfl);have z5:G.cell? ⟨z,j*3+2,none⟩=some (I f):=ad N.out (t 2 _ rfl);have X3:=ad B1.out x3;have Y3:=ad B1.out y3;have K1:=H (λn=>sH u1 w1 _ (G.drewN n) (m1.below (az N.out (ER _ n))) (m2.below (az N.out (ER _ n))) Z);have K2:=H (λn=>sH u2 w2 _ (G.drewN n) (f1.below (az N.out (ER _ n))) (f2.below (az N.out (ER _ n))) Z);obtain⟨a9,b9,c9,rfl⟩:=m1.sl;obtain⟨a8,b8,c8,rfl⟩:=m2.sl;obtain⟨a7,b7,c7,rfl⟩:=f1.sl;obtain⟨a0,b0,c0,rfl⟩:=f2.sl;have e3:(f != f)=false:=bH;have HV:=H T;clear O Q s t d9 e0 m1 f1 m2 f2 hm hf B1 N T;(go_upto_region 18 with fail);go_cut [133] (λs w'=>s=.bool false/\∃ n,Hid (w'=G.drewN n))
     case first=>as_aux_lemma =>
      go_quiet (first|(go_at_call 22;with_reducible exact Calls.quiet_of (K1.out _))|(go_at_call 22;with_reducible exact Calls.quiet_of (K2.out _)));go_wp2_with fail;go_meet;case rel=>exact ⟨rfl,_,H rfl⟩
     case rest =>
      obtain⟨rfl,n,K⟩:=hcut;have N:=K.out;rw [<-HV.out,World.drewN_drewN] at N;subst N;clear K z0 z1 z2 z3 z4 z5 X3 Y3;go_wp2;go_roundw;(case rel=>exact ⟨j+1,m+n,Z,aY,H rfl⟩);case measure=>simp [intOf];omega
    clear hj;have T:=H (λW (G:D g W)=>sH _ _ _ W ((O1.below B0.out).below G) ((O2.below B0.out).below G) (by have:=X.out;omega));have W2:=H (λW (G:D g W)=>wT _ _ _ W ((L1.below B0.out).below G) ((L2.below B0.out).below G) (by have:=X.out;omega));have W3:=H (λW (G:D g W)=>wT _ _ _ W ((E1.below B0.out).below G) ((E2.below B0.out).below G) (by have:=X.out;omega));go_wp2_with fail;refine (T.out _ (ER _ _)).mono ?_;rintro N A ⟨rfl,m1,rfl⟩;go_wp2_with fail;refine (W2.out _ (ER _ _)).mono ?_;rintro N A ⟨rfl,m2,rfl⟩;go_wp2_with fail;refine (W3.out _ (ER _ _)).mono ?_;rintro N A ⟨rfl,m3,rfl⟩;go_wp2;go_ret;exact⟨rfl,az B0.out (ER _ _)⟩
end
end Go.Proofs.YtdngbppdomoenaaGreatDoor
