import Derived.Test.YtdngbppdomoenaaGreatDoorN32
set_option linter.unusedVariables false
set_option linter.unusedSimpArgs false
set_option maxRecDepth 20000
set_option maxHeartbeats 8000000
namespace Go.Proofs.YtdngbppdomoenaaGreatDoor
variable {cf:Cf} {h h1:Hs} {a c j k n p s:Nat} {d v y:Int} {ff:List Int}
section
open Go.RowKit Go.Maps
theorem Inv.num9 (i:Inv cf h) (a:c<12) (b:v∈nM h c):0<=v/\v.toNat/aM c<6/\v.toNat%aM c<aM c/\((v.toNat/aM c*aM c+v.toNat%aM c:Nat):Int)=v/\h.st c (v.toNat/aM c) (v.toNat%aM c)=2:=by
 have k:=aX a;have g:0<=v:=by
  rw [oO] at b;unfold nq at b;obtain⟨h1,e⟩:=Gk.1 b;simp at e;rcases F8.1 h1 with d|d;·have:=i.mxn c a v d;omega
  ·exact i.ffn c a v d
 have j:=i.wlt c a v b;have d:v.toNat/aM c<6:=Nat.div_lt_of_lt_mul (by rw [GL];omega);have e:v.toNat%aM c<aM c:=Nat.mod_lt _ Z;have f:((v.toNat/aM c*aM c+v.toNat%aM c:Nat):Int)=v:=by
  rw [Nat.div_add_mod'];omega
 refine⟨g,d,e,f,?_⟩;rw [i.wait c _ _ a d e,f];exact b
theorem sT (i:Inv cf h) (o:1<=cf.fifo) (g:c<12) (z:s<6) (r:j<aM c) (B:h.st c s j=1) :
  ∃ a b v,a<6/\b<aM c/\aE h.st c s j 2 c a b=2/\(v=2\/v=3)/\(aL cf h c s j).st=aE (aE h.st c s j 2) c a b v/\(aL cf h c s j).rg=h.rg /\
   ((aL cf h c s j).m=ay h.m (bh c s j) (List.replicate (cy c) 0) (cy c)\/((aL cf h c s j).m=bQ (ay h.m (bh c s j) (List.replicate (cy c) 0) (cy c)) (aD c a) (dI c)/\∀ k,k<aM c->be ((aL cf h c s j).st c a k)=true)):=by
 have L:=aX g;obtain⟨M,N,O,P,F⟩:=rG (d:=((if cf.mix=0 then 0 else dr cf h cf.mix:Nat):Int)) (x:=((s*aM c+j:Nat):Int)) o (i.ffl c g) Z (i.ffn c g) (i.mxn c g);rw [cW];rcases i.freed o g z r B with ⟨e,_⟩|⟨a,b,e,l,m,t,u,_,_⟩
 ·rw [GP e];refine⟨s,j,2,z,r,aS _ _ _ _ _,.inl rfl,?_,rfl,.inl rfl⟩;rw [gy (aE h.st c s j 2) (aS _ _ _ _ _)];rfl
 ·rw [GO Z,l,m];have w:er cf h c s j∈((s*aM c+j:Nat):Int)::nM h c:=by
   rcases F with ⟨G,_⟩|⟨_,K⟩;·exact absurd G (by unfold er at e;omega)
   ·rw [oO];exact K.mem_iff.2 (List.mem_cons_self ..)
  have p:aE h.st c s j 2 c a b=2:=by
   rcases F4.1 w with q|q
   ·rw [q] at l m;have:=pb (n:=aM c) (s:=s) r;rw [F0] at l m;rw [this.1] at l;rw [this.2] at m;rw [<-l,<-m,aS]
   ·obtain⟨_,_,_,_,A⟩:=i.num9 g q;rw [l,m] at A;by_cases y:c=c/\a=s/\b=j;·rw [y.2.1,y.2.2,aS]
    ·rw [aU _ _ y];exact A
  refine⟨a,b,3,t,u,p,.inr rfl,?_,?_,?_⟩
  ·unfold bK;dsimp only;split <;> rfl
  ·unfold bK;dsimp only;split <;> rfl
  ·unfold bK;dsimp only;split
   ·rename_i f;exact .inr ⟨rfl,ka.1 f⟩
   ·exact .inl rfl
end
section
open Go.RowKit Go.Shelf Go.Maps
theorem IU {w w'} (h:D w w') {g:Nat} {o:Obj} (a:w.heap[g]?=some o):w'.heap[g]?=some o:=by rw [h.block g (ag a)];exact a
theorem Od6.bel {B q W W'} (h:Od6 B q W) (b:D W W'):Od6 B q W':=⟨h.p,h.a,h.b,by
 rcases h.d.2 with a|⟨g,e,c,h1,a,d,f⟩
 ·exact⟨h.d.1,.inl a⟩
 ·exact⟨h.d.1,.inr ⟨g,e,c,h1,a,by rw [b.block g (ag d)];exact d,f⟩⟩,h.r,h.y⟩
end
section
open Go.RowKit Go.Maps
abbrev Lv (h : Hs) (p : Nat) : Prop := Area h p 0
theorem Lv.of_eq {h'} (a:Lv h' p) (h1:h'.st=h.st) (e:h'.rg=h.rg):Lv h p:=by
 cases a with
 | slot c s j f b g i k d=>exact .slot c s j f b g i (h1▸k) d
 | range r f g b d=>exact .range r (e▸f) g b d
theorem Lv.in (i:Inv cf h) (a:Lv h p):p%16=0/\p<289792:=by
 cases a with
 | slot c s j b d e f l g =>
  have h1:=ca b d e;have k:cy c%16=0:=by
   have:∀ c:Fin 12,cy c.val%16=0:=ar;exact this ⟨c,b⟩
  rw [<-f];refine⟨?_,Z⟩;unfold bh;rw [Nat.add_mod,Nat.mul_mod j,k];omega
 | range r b e d g =>
  have h1:=i.rgs r b;unfold Rg9.ext at h1;unfold Rg9.base at e;omega
theorem pY (cf c):∀ (f:Nat) (h:Hs) (b s j:Nat),(bN cf c f h).2.st b s j=h.st b s j\/(bN cf c f h).2.st b s j=4
 | 0,h,b,s,j=>.inl rfl
 | f+1,h,b,s,j=>by
  rw [f_]
  cases a:cJ cf h c with
  | none=>exact .inl rfl
  | some q =>
   obtain⟨d,h1⟩:=q
   have g:h1.st=h.st:=by
    unfold cJ at a
    split at a
    ·injection a with a;injection a with _ a;rw [<-a]
    ·split at a
     ·cases a
     ·split at a
      ·cases a
      ·injection a with a;injection a with _ a;rw [<-a]
   dsimp only
   split
   ·exact .inl (by rw [<-g])
   ·rcases pY cf c f { h1 with used:=h1.used+1,st:=aE h1.st c d (du cf h1 c d) 4 } b s j with e|e
    ·rw [e]
     show aE h1.st c d (du cf h1 c d) 4 b s j=_\/_
     by_cases i:b=c/\s=d/\j=du cf h1 c d
     ·right
      show aE h1.st c d (du cf h1 c d) 4 b s j=4
      unfold aE;rw [GP i]
     ·left;rw [aU _ _ i,g]
    ·exact .inr e
theorem Lv.malloc (i:Inv cf h) {o:Option Nat} (b:av cf h a=(o,h1)) {x} (l:Lv h1 x):Lv h x\/o=some x:=by
 unfold av at b;by_cases ha:a<=1016
 ·rw [GP ha] at b;obtain⟨F,G⟩:=jf ha;generalize fD a=c at *;have g:=(Inv.small F 2000 i).1;have y:=pY cf c 2000 h;cases e:bN cf c 2000 h with
  | mk K L =>
   rw [e] at g b y;dsimp only at y;cases K with
   | none =>
    simp at b;obtain⟨rfl,rfl⟩:=b;cases l with
    | slot p s j f k w u d m =>
     rcases y p s j with q|q;·exact .inl (.slot p s j f k w u (q▸d) m)
     ·rw [q] at d;cases d
    | range r n v k m=>exact .inl (.range r (g.stay.rg▸n) v k m)
   | some t =>
    obtain⟨z,A⟩:=t;simp at b;obtain⟨rfl,rfl⟩:=b;cases l with
    | slot p s j f k w u d m =>
     by_cases B:p=c/\s=z/\j=A
     ·obtain⟨rfl,rfl,rfl⟩:=B;exact .inr (by rw [u])
     ·have d:aE L.st c z A 1 p s j=1:=d;rw [aU _ _ B] at d;rcases y p s j with q|q;·exact .inl (.slot p s j f k w u (q▸d) m)
      ·rw [q] at d;cases d
    | range r n v k m=>exact .inl (.range r (g.stay.rg▸n) v k m)
 ·rw [GO ha] at b;dsimp only at b;split at b
  ·simp at b;obtain⟨rfl,rfl⟩:=b;exact .inl (l.of_eq rfl rfl)
  ·split at b
   ·simp at b;obtain⟨rfl,rfl⟩:=b;exact .inl (l.of_eq rfl rfl)
   ·split at b
    ·simp at b;obtain⟨rfl,rfl⟩:=b;exact .inl (l.of_eq rfl rfl)
    ·simp at b;obtain⟨rfl,rfl⟩:=b;cases l with
     | slot p s j f k w u d m=>exact .inl (.slot p s j f k w u d m)
     | range r n v k m =>
      rcases F8.1 n with n|n;·exact .inl (.range r n v k m)
      ·rw [List.mem_singleton] at n;subst n;exact .inr (by rw [<-v];rfl)
theorem kn (h c s j):(bK h c s j).st=aE h.st c s j 3/\(bK h c s j).rg=h.rg:=by
 unfold bK;dsimp only;split <;> exact ⟨rfl,rfl⟩
theorem Lv.free (i:Inv cf h) {x:Fd} (P:Seen h p x) (Q:∀ o,x≠.no o) {y} (l:Lv (db cf h x) y):Lv h y/\y≠p:=by
 cases P with
 | no o _=>exact absurd rfl (Q o)
 | slot c s j G K O T V =>
  have v:∀ g k m,(aL cf h c s j).st g k m=1->h.st g k m=1/\¬(g=c/\k=s/\m=j):=by
   intro g k m h1;have q:(bX cf h c s j).st g k m=1->h.st g k m=1/\¬(g=c/\k=s/\m=j):=λb=>by
    have b:aE h.st c s j 2 g k m=1:=b;by_cases e:g=c/\k=s/\m=j;·unfold aE at b;rw [GP e] at b;cases b
    ·rw [aU _ _ e] at b;exact⟨b,e⟩
   rw [cW] at h1;split at h1;·exact q h1
   ·rw [(kn _ _ _ _).1] at h1;unfold aE at h1;split at h1;·cases h1
    ·exact q h1
  have L:(aL cf h c s j).rg=h.rg:=by
   rw [cW];split;·rfl
   ·exact (kn _ _ _ _).2
  cases (show Lv (aL cf h c s j) y from l) with
  | slot g k m n a t w u f =>
   obtain⟨h1,b⟩:=v g k m u;refine⟨.slot g k m n a t w h1 f,λe=>?_⟩;have:=gN n a t G K O b;have W:=aX G;have X:=aX n;omega
  | range r A B a f =>
   rw [L] at A;refine⟨.range r A B a f,λe=>?_⟩;have h1:=ca G K O;have b:=i.rgs r A;unfold Rg9.base at B;omega
 | range r A B K =>
  have R:∀ d,d∈(aJ cf h r).rg->d.st=1->d∈h.rg/\d.base≠r.base:=by
   have q:∀ d,d∈(tV h r).rg->d.st=1->d∈h.rg/\d.base≠r.base:=by
    intro d h1 b;have h1:d∈h.rg.map λx=>if x.base=r.base then { x with st:=2,rq:=0 } else x:=h1
    obtain⟨z,S,e⟩:=FQ.1 h1;split at e;·rw [<-e] at b;cases b
    ·rename_i M;rw [<-e];exact⟨S,M⟩
   intro d h1 b;rw [cG] at h1;split at h1;·exact q d (Gk.1 h1).1 b
   ·exact q d h1 b
  have v:(aJ cf h r).st=h.st:=by
   rw [cG];split <;> rfl
  cases (show Lv (aJ cf h r) y from l) with
  | slot g k m n a t w u f =>
   rw [v] at u;refine⟨.slot g k m n a t w u f,λe=>?_⟩;have h1:=ca n a t;have b:=i.rgs r A;unfold Rg9.base at B;omega
  | range d N F a f =>
   obtain⟨h1,b⟩:=R d N a;exact⟨.range d h1 F a f,λe=>b (by rw [F,B,e])⟩
structure EM (cf : Cf) (h : Hs) (o : fL) (p : Nat) (a : An4) (h1 : Hs) : Prop where
  up : ∀ x, Lv h1 x->Lv h x \/ (a.code=0/\o.kd<=2/\x=a.addr)
  fr : a.code=0->o.kd=3->¬ Lv h1 p
  mv : a.code=0->o.kd=2->p ≠ 0->p ≠ a.addr->¬ Lv h1 p
  kd : a.code=0->0<=o.kd
theorem tx (i:Inv cf h) (N:1<=cf.fifo) (p a) :
  (∀ x,Lv (a_ cf h p a).2 x->Lv h x\/((a_ cf h p a).1.code=0/\x=(a_ cf h p a).1.addr))/\((a_ cf h p a).1.code=0->p≠0->p≠(a_ cf h p a).1.addr->¬Lv (a_ cf h p a).2 p):=by
 unfold a_;dsimp only;by_cases u:p=0
 ·rw [GP u];cases e:av cf h a with
  | mk o h1 =>
   cases o with
   | none=>exact ⟨λx l=>(Lv.malloc i e l).elim .inl (λh=>by cases h),λ_ h=>absurd u h⟩
   | some q=>exact ⟨λx l=>(Lv.malloc i e l).elim .inl (λh=>.inr ⟨rfl,by injection h with h;exact h.symm⟩),λ_ h=>absurd u h⟩
 ·rw [GO u];have M:∀ (d:Nat) (y:Fd),aB h p=y->(∀ b,y≠.no b) ->
    (∀ x,Lv (match av cf h a with|(none,h1)=>(An4.no 1,h1)|(some q,h1)=>(⟨0,q,0,[]⟩,db cf { h1 with m:=aZ h1.m p q (min d a) } (aB { h1 with m:=aZ h1.m p q (min d a) } p)):An4×Hs).2 x->Lv h x\/((match av cf h a with|(none,h1)=>(An4.no 1,h1)|(some q,h1)=>(⟨0,q,0,[]⟩,db cf { h1 with m:=aZ h1.m p q (min d a) } (aB { h1 with m:=aZ h1.m p q (min d a) } p)):An4×Hs).1.code=0/\x=(match av cf h a with|(none,h1)=>(An4.no 1,h1)|(some q,h1)=>(⟨0,q,0,[]⟩,db cf { h1 with m:=aZ h1.m p q (min d a) } (aB { h1 with m:=aZ h1.m p q (min d a) } p)):An4×Hs).1.addr)) /\
    ((match av cf h a with|(none,h1)=>(An4.no 1,h1)|(some q,h1)=>(⟨0,q,0,[]⟩,db cf { h1 with m:=aZ h1.m p q (min d a) } (aB { h1 with m:=aZ h1.m p q (min d a) } p)):An4×Hs).1.code=0->¬Lv (match av cf h a with|(none,h1)=>(An4.no 1,h1)|(some q,h1)=>(⟨0,q,0,[]⟩,db cf { h1 with m:=aZ h1.m p q (min d a) } (aB { h1 with m:=aZ h1.m p q (min d a) } p)):An4×Hs).2 p):=by
   intro d y w A
   cases e:av cf h a with
   | mk o h1 =>
    cases o with
    | none=>exact ⟨λx l=>(Lv.malloc i e l).elim .inl (λh=>by cases h),λk=>absurd (show (1:Int)=0 from k) ar⟩
    | some q =>
     dsimp only;have g:=i.gave e;have t:Inv cf { h1 with m:=aZ h1.m p q (min d a) }:=g.inv.bytes _ _ _;have z:=bT { h1 with m:=aZ h1.m p q (min d a) } p;have f:∀ b,aB { h1 with m:=aZ h1.m p q (min d a) } p≠.no b:=by
      have F:=bT h p;rw [w] at F;cases F with
      | no b _=>exact absurd rfl (A b)
      | slot c s j k G n O r =>
       rw [gW (h':={ h1 with m:=aZ h1.m p q (min d a) }) w (g.live c s j k G n r).1];intro b v;cases v
      | range r K L G =>
       rw [fV (h':={ h1 with m:=aZ h1.m p q (min d a) }) w (by
        rcases g.rg with n|⟨B,n,_⟩;·exact .inl n
        ·exact .inr ⟨B,n⟩)]
       intro b v;cases v
     refine⟨λx l=>?_,λ_ l=>((Lv.free t z f l).2 rfl)⟩;have n:=(Lv.free t z f l).1;exact (Lv.malloc i e (n.of_eq rfl rfl:Lv h1 x)).elim .inl (λh=>.inr ⟨rfl,by injection h with h;exact h.symm⟩)
  cases F:aB h p with
  | no b=>exact ⟨λx l=>.inl l,λk O f=>by
    have:=bT h p;rw [F] at this;cases this with
    | no b v=>exact absurd (show b=0 from k) Z⟩
  | slot c s j =>
   dsimp only;split;·exact⟨λx l=>.inl l,λk=>absurd (show (5:Int)=0 from k) ar⟩
   ·split;·exact⟨λx l=>.inl (l.of_eq rfl rfl),λ_ _ h=>absurd rfl h⟩
    ·obtain⟨G,K⟩:=M (h.rq c s j).toNat _ F (λb h=>by cases h);exact⟨G,λk _ _=>K k⟩
  | range r =>
   dsimp only;split
   ·refine⟨λx l=>.inl ?_,λ_ _ h=>absurd rfl h⟩;cases l with
    | slot P Q R g f n z L t=>exact .slot P Q R g f n z L t
    | range B n g f t =>
     have n:B∈h.rg.map λx=>if x.base=r.base then { x with rq:=(a:Int) } else x:=n
     obtain⟨z,L,e⟩:=FQ.1 n;split at e;·rw [<-e] at g f;exact .range z L g f (FH _)
     ·rw [<-e] at g f;exact .range z L g f (FH _)
   ·obtain⟨G,K⟩:=M r.rq.toNat _ F (λb h=>by cases h);exact⟨G,λk _ _=>K k⟩
theorem AC (i:Inv cf h) (k:1<=cf.fifo) (o p):EM cf h o p (dv cf h o p).1 (dv cf h o p).2:=by
 have f:∀ n,o.kd<=1->0<=o.kd->EM cf h o p (match av cf h n with|(none,h1)=>(An4.no 1,h1)|(some q,h1)=>(⟨0,q,0,[]⟩,h1):An4×Hs).1 (match av cf h n with|(none,h1)=>(An4.no 1,h1)|(some q,h1)=>(⟨0,q,0,[]⟩,h1):An4×Hs).2:=by
  intro n g b;cases e:av cf h n with
  | mk d h1 =>
   cases d with
   | none=>exact ⟨λx l=>(Lv.malloc i e l).elim .inl (λh=>by cases h),λa=>absurd (show (1:Int)=0 from a) ar,λa=>absurd (show (1:Int)=0 from a) ar,λ_=>b⟩
   | some q=>exact ⟨λx l=>(Lv.malloc i e l).elim .inl (λh=>.inr ⟨rfl,Z,by injection h with h;exact h.symm⟩),λ_ h=>Z,λ_ h=>Z,λ_=>b⟩
 unfold dv;dsimp only;by_cases m:o.kd=0;·rw [GP m];exact f _ Z Z
 rw [GO m];by_cases t:o.kd=1
 ·rw [GP t];split;·exact⟨λx l=>.inl l,λa=>absurd (show (1:Int)=0 from a) ar,λa=>absurd (show (1:Int)=0 from a) ar,λ_=>Z⟩
  ·exact f _ Z Z
 rw [GO t];by_cases u:o.kd=2
 ·rw [GP u];obtain⟨b,d⟩:=tx i k p o.a;exact⟨λx l=>(b x l).elim .inl (λh=>.inr ⟨h.1,Z,h.2⟩),λ_ h=>Z,λa _=>d a,λ_=>Z⟩
 rw [GO u];by_cases v:o.kd=3
 ·rw [GP v];have d:=bT h p;cases g:aB h p with
  | no b =>
   rw [g] at d;cases d with
   | no b e=>exact ⟨λx l=>.inl l,λa=>absurd (show b=0 from a) Z,λa=>absurd (show b=0 from a) Z,λ_=>Z⟩
  | slot c s j =>
   rw [g] at d;dsimp only;split;·exact⟨λx l=>.inl l,λa=>absurd (show (5:Int)=0 from a) ar,λa=>absurd (show (5:Int)=0 from a) ar,λ_=>Z⟩
   ·have e:=λy=>Lv.free (cf:=cf) i d (λb h=>by cases h) (y:=y)
    exact⟨λx l=>.inl (e x l).1,λ_ _ l=>(e p l).2 rfl,λ_ h=>Z,λ_=>Z⟩
  | range r =>
   rw [g] at d;dsimp only;have e:=λy=>Lv.free (cf:=cf) i d (λb h=>by cases h) (y:=y)
   exact⟨λx l=>.inl (e x l).1,λ_ _ l=>(e p l).2 rfl,λ_ h=>Z,λ_=>Z⟩
 rw [GO v];by_cases d:o.kd=4
 ·rw [GP d];cases g:aB h p with
  | no b=>exact ⟨λx l=>.inl l,λ_ h=>Z,λ_ h=>Z,λ_=>Z⟩
  | slot c s j=>exact ⟨λx l=>.inl l,λ_ h=>Z,λ_ h=>Z,λ_=>Z⟩
  | range r=>exact ⟨λx l=>.inl l,λ_ h=>Z,λ_ h=>Z,λ_=>Z⟩
 rw [GO d];by_cases e:o.kd=5
 ·rw [GP e];split;·exact⟨λx l=>.inl l,λ_ h=>Z,λ_ h=>Z,λ_=>Z⟩
  ·exact⟨λx l=>.inl l,λ_ h=>Z,λ_ h=>Z,λ_=>Z⟩
 rw [GO e];by_cases w:o.kd=6
 ·rw [GP w];exact⟨λx l=>.inl (l.of_eq rfl rfl),λ_ h=>Z,λ_ h=>Z,λ_=>Z⟩
 rw [GO w];exact⟨λx l=>.inl l,λa=>absurd (show (6:Int)=0 from a) ar,λa=>absurd (show (6:Int)=0 from a) ar,λa=>absurd (show (6:Int)=0 from a) ar⟩
theorem yT (i:Inv cf h) (a:1<=cf.fifo) (an o):EM cf h o (m_ o an) (bU cf h an o).1 (bU cf h an o).2:=by
 unfold bU m_;by_cases h1:o.ref=0;·rw [GP h1,GO Z];exact AC i a o _
 ·rw [GO h1];by_cases c:o.ref<0\/(an.length:Int)<o.ref
  ·rw [GP c];exact⟨λx l=>.inl l,λb=>absurd (show (6:Int)=0 from b) ar,λb=>absurd (show (6:Int)=0 from b) ar,λb=>absurd (show (6:Int)=0 from b) ar⟩
  ·rw [GO c,GP Z];exact AC i a o _
def qG : List (Nat × Int)->Nat->Option (Int × Nat)
 | [], x => none
 | (y, c) :: R, x => if y=x then some (c, 0) else match qG R x with
  | none => none
  | some (d, n) => some (d, if c=d then n+1 else n)
inductive Wh (cf : Cf) (h : Hs) (x : Nat) (d : Int) (n : Nat) : Prop
  | live : Lv h x->Wh cf h x d n
  | slot (c s j : Nat) : c<12->s<6->j<aM c->bh c s j=x->d=(c : Int)->(cf.fifo<=n \/ ((s*aM c+j : Nat) : Int) ∈ h.mx c \/ ∃ i, (h.ff c)[i]? = some ((s*aM c+j : Nat) : Int)/\(h.ff c).length<=n+1+i)->Wh cf h x d n
  | range : 191488<=x->d = -1->(cf.large<=n \/ ∃ i, h.row[i]? = some x/\h.row.length<=n+1+i)->Wh cf h x d n
def WH (cf : Cf) (h : Hs) (R : List (Nat × Int)) : Prop := ∀ x d n, qG R x=some (d, n)->Wh cf h x d n
theorem Wh.mono {x} (w:Wh cf h x d n) (e:Lv h x->Lv h1 x) (f:h1.mx=h.mx) (g:h1.ff=h.ff) (i:h1.row=h.row):Wh cf h1 x d n:=by
 cases w with
 | live l=>exact .live (e l)
 | slot c s j k l m o a b=>exact .slot c s j k l m o a (by rw [f,g];exact b)
 | range k a b=>exact .range k a (by rw [i];exact b)
theorem Inv.waits (i:Inv cf h) (b:c<12) (d:s<6) (e:j<aM c) (f:((s*aM c+j:Nat):Int)∈h.mx c\/((s*aM c+j:Nat):Int)∈h.ff c):h.st c s j=2:=by
 rw [i.wait c s j b d e,oO];unfold nq;rw [Gk];exact⟨F8.2 f,G8 (λe=>by have a:=Int.natCast_nonneg (s*aM c+j);rw [e] at a;exact absurd a ar)⟩
theorem wT {a d f:Nat} (k:c<12) (l:s<6) (m:j<aM c) (b:a<12) (g:d<6) (i:f<aM a) (h:bh c s j=bh a d f):c=a/\s=d/\j=f:=by
 by_cases e:c=a/\s=d/\j=f;·exact e
 ·have:=gN k l m b g i e;have n:=aX k;have o:=aX b;omega
theorem uc (i:Inv cf h) {q:Nat} (b:av cf h a=(some q,h1)) (w:Wh cf h q d n):(0<=d->cf.fifo<=n)/\(d<0->cf.large<=n):=by
 have g:=i.gave b;unfold av at b;cases w with
 | live l=>exact absurd l (g.fresh 0)
 | slot c s j u v x Q N m =>
  refine⟨λ_=>?_,λy=>Z⟩;rcases m with m|m;·exact m
  ·exfalso;have R:h.st c s j=2:=i.waits u v x (m.imp id (λ⟨k,z,_⟩=>FM z));by_cases ha:a<=1016
   ·rw [GP ha] at b;obtain⟨f,A⟩:=jf ha;generalize fD a=B at *;have p:=(Inv.small f 2000 i).1;cases e:bN cf B 2000 h with
    | mk F S =>
     rw [e] at p b;cases F with
     | none=>simp at b
     | some t =>
      obtain⟨G,K⟩:=t;simp at b;obtain⟨b,_⟩:=b;obtain⟨L,M,_,_,O,_⟩:=p.some G K rfl;obtain⟨rfl,rfl,rfl⟩:=wT f L M u v x (b.trans Q.symm);rw [R] at O;simp [be] at O
   ·have hA:=g.area;have T:=ca u v x;rw [GO ha] at b;dsimp only at b;split at b;·simp at b
    ·split at b;·simp at b
     ·split at b;·simp at b
      ·rename_i V o _;simp at b;obtain⟨W,_⟩:=gO o;omega
 | range hx N m =>
  refine⟨λy=>Z,λ_=>?_⟩;rcases m with m|⟨k,z,_⟩;·exact m
  ·exfalso;obtain⟨r,P,_,X⟩:=(i.row q).1 (FM z);by_cases ha:a<=1016
   ·rw [GP ha] at b;obtain⟨f,A⟩:=jf ha;generalize fD a=B at *;have p:=(Inv.small f 2000 i).1;cases e:bN cf B 2000 h with
    | mk F S =>
     rw [e] at p b;cases F with
     | none=>simp at b
     | some t =>
      obtain⟨G,K⟩:=t;simp at b;obtain⟨b,_⟩:=b;obtain⟨L,M,_⟩:=p.some G K rfl;have T:=ca f L M;omega
   ·rw [GO ha] at b;dsimp only at b;have N:=mW cf h (n:=3) Z;split at b;·simp at b
    ·split at b;·simp at b
     ·split at b;·simp at b
      ·rename_i V o _;simp at b;obtain⟨W,r2,Y⟩:=gO o;have r4:=Y r P;have r5:=i.rgs r P;unfold Rg9.base at X;unfold Rg9.ext at r4;omega
theorem qN (i:Inv cf h) {o:Option Nat} (b:av cf h a=(o,h1)):(∀ x,Lv h x->Lv h1 x)/\h1.mx=h.mx/\h1.ff=h.ff/\h1.row=h.row:=by
 refine⟨λx l=>?_,?_⟩
 ·cases o with
  | some q=>exact ((i.gave b).keeps l).1
  | none =>
   unfold av at b;by_cases ha:a<=1016
   ·rw [GP ha] at b;obtain⟨f,g⟩:=jf ha;generalize fD a=k at *;have d:=(Inv.small f 2000 i).1;cases e:bN cf k 2000 h with
    | mk m u =>
     rw [e] at d b;cases m with
     | some t=>simp at b
     | none =>
      simp at b;subst b;cases l with
      | slot c s j r n v w q p=>exact .slot c s j r n v w ((d.stay.live c s j (by rw [q];rfl)).trans q) p
      | range r q v n p=>exact .range r (by rw [d.stay.rg];exact q) v n p
   ·rw [GO ha] at b;dsimp only at b;split at b;·simp at b;subst b;exact l.of_eq rfl rfl
    ·split at b;·simp at b;subst b;exact l.of_eq rfl rfl
     ·split at b;·simp at b;subst b;exact l.of_eq rfl rfl
      ·simp at b
 ·unfold av at b;by_cases ha:a<=1016
  ·rw [GP ha] at b;obtain⟨f,g⟩:=jf ha;generalize fD a=k at *;have d:=(Inv.small f 2000 i).1;cases e:bN cf k 2000 h with
   | mk m u =>
    rw [e] at d b;cases m with
    | some t=>simp at b;obtain ⟨_,rfl⟩:=b;exact⟨d.stay.mx,d.stay.ff,d.stay.row⟩
    | none=>simp at b;obtain ⟨_,rfl⟩:=b;exact⟨d.stay.mx,d.stay.ff,d.stay.row⟩
  ·rw [GO ha] at b;dsimp only at b;split at b;·simp at b;obtain ⟨_,rfl⟩:=b;exact⟨rfl,rfl,rfl⟩
   ·split at b;·simp at b;obtain ⟨_,rfl⟩:=b;exact⟨rfl,rfl,rfl⟩
    ·split at b;·simp at b;obtain ⟨_,rfl⟩:=b;exact⟨rfl,rfl,rfl⟩
     ·simp at b;obtain ⟨_,rfl⟩:=b;exact⟨rfl,rfl,rfl⟩
theorem tQ {i:Nat} (c:ff.length<=n) (a:ff[i]?=some v) (d:ff.length<=k+1+i):n<=k+1\/∃ b,(cu n ff y).1[b]?=some v/\(cu n ff y).1.length<=k+1+1+b:=by
 have b:=(Fz.1 a).1;unfold cu;split;·exact .inr ⟨i,by dsimp only;rw [Ga b];exact a,bG⟩
 ·cases i with
  | zero=>left;omega
  | succ i =>
   refine .inr ⟨i,?_,bG⟩;dsimp only;rw [Ga bG];simpa using a
theorem qP:∃ a,(cu n ff y).1[a]?=some y/\(cu n ff y).1.length<=k+1+a:=by
 unfold cu;split;·exact⟨ff.length,bH,bG⟩
 ·exact⟨ff.tail.length,by dsimp only;rw [Gn (Fv _)];simp,bG⟩
theorem DJ {a:List Int} (q:0<=v) (l:ff.length<=n) (b:v∈a\/∃ i,ff[i]?=some v/\ff.length<=k+1+i) :
  n<=k+1\/v∈(ed n a ff y d).1\/∃ i,(ed n a ff y d).2.1[i]?=some v/\(ed n a ff y d).2.1.length<=k+1+1+i:=by
 unfold ed;split
 ·rename_i e;rw [e] at b;rcases b with b|⟨i,h1,g⟩;·cases b
  ·rcases tQ (y:=y) l h1 g with f|f;·exact .inl f
   ·exact .inr (.inr f)
 ·have c:∀ m,v∈a->a[m]?.getD 0≠v->v∈a.set m y:=λm p j=>by
   obtain⟨t,o⟩:=He p;have:m≠t:=λe=>j (by rw [e,o];rfl)
   exact FM (i:=t) (by rw [List.getElem?_set_ne this];exact o)
  split
  ·rename_i e;rcases b with b|⟨i,h1,g⟩;·exact .inr (.inl (c _ b (by rw [e];omega)))
   ·exact .inr (.inr ⟨i,h1,iM⟩)
  ·rcases b with b|⟨i,h1,g⟩
   ·by_cases e:a[md d a.length]?.getD 0=v
    ·rw [e];exact .inr (.inr qP)
    ·exact .inr (.inl (c _ b e))
   ·rcases tQ (y:=a[md d a.length]?.getD 0) l h1 g with f|f;·exact .inl f
    ·exact .inr (.inr f)
theorem Bt {mx} : y∈(ed n mx ff y d).1\/∃ i,(ed n mx ff y d).2.1[i]?=some y/\(ed n mx ff y d).2.1.length<=0+1+i:=by
 unfold ed;split;·exact .inr qP
 ·rename_i a;have b:y∈mx.set (md d mx.length) y:=FM (i:=md d mx.length) (by
   rw [List.getElem?_set_self];exact oh d mx.length (List.length_pos_iff.2 a))
  split;·exact .inl b
  ·exact .inl b
theorem sP (cf h c s j):(aL cf h c s j).mx=(bX cf h c s j).mx/\(aL cf h c s j).ff=(bX cf h c s j).ff/\(aL cf h c s j).row=h.row:=by
 rw [cW];split;·exact⟨rfl,rfl,rfl⟩
 ·unfold bK;dsimp only;split <;> exact ⟨rfl,rfl,rfl⟩
theorem Lv.kept (i:Inv cf h) (L:1<=cf.fifo) {x:Fd} (T:Seen h p x) {y} (l:Lv h y) (o:y≠p):Lv (db cf h x) y:=by
 cases T with
 | no b _=>exact l
 | slot c s j t Q w F G =>
  show Lv (aL cf h c s j) y;obtain⟨M,N,v,O,P,e,_,S,V,_⟩:=sT i L t Q w G;cases l with
  | slot z A B q f u m n g =>
   refine .slot z A B q f u m ?_ g;have k:¬(z=c/\A=s/\B=j):=λ⟨a,b,d⟩=>o (by rw [<-m,<-F,a,b,d])
   have K:¬(z=c/\A=M/\B=N):=λ⟨a,b,d⟩=>by
    rw [<-a,<-b,<-d] at e;have r:aE h.st c s j 2 z A B=2:=(by rw [<-a];exact e);rw [aU _ _ k,n] at r;cases r
   rw [S,aU _ _ K,aU _ _ k];exact n
  | range r R K f g=>exact .range r (by rw [V];exact R) K f g
 | range r R K Q =>
  show Lv (aJ cf h r) y;have M:(aJ cf h r).st=h.st:=by
   rw [cG];split <;> rfl
  cases l with
  | slot z A B q f u m n g=>exact .slot z A B q f u m (by rw [M];exact n) g
  | range F G w f g =>
   have S:F∈(tV h r).rg:=by
    show F∈h.rg.map λx=>if x.base=r.base then { x with st:=2,rq:=0 } else x
    exact FQ.2 ⟨F,G,by rw [GO (λe=>o (by rw [<-w,<-K,e]))]⟩
   refine .range F ?_ w f g;rw [cG];split
   ·show F∈(tV h r).rg.filter _;refine Gk.2 ⟨S,G8 λe=>?_⟩;cases k:h.row with
    | nil=>rw [k] at e;exact o (by rw [<-w,<-K];exact e)
    | cons b t =>
     rw [k] at e;have e:F.base=b:=e;obtain⟨V,N,O,P⟩:=(i.row b).1 (by rw [k];exact List.mem_cons_self ..);have:=i.one G N (by rw [e,P]);rw [this,O] at f;cases f
   ·exact S
theorem oC (i:Inv cf h) (M:1<=cf.fifo) (a0:1<=cf.large) {x:Fd} (hx:Seen h p x) (hn:∀ m,x≠.no m) {R} (w:WH cf h R) {N:Int} (O:(∃ c s j,x=.slot c s j/\N=(c:Int))\/(∃ r,x=.range r/\N = -1)):WH cf (db cf h x) ((p,N)::R):=by
 intro y d n f;unfold qG at f;cases hx with
 | no m _=>exact absurd rfl (hn m)
 | slot c s j hc V hj hp hl =>
  obtain rfl:N=(c:Int):=by
   rcases O with ⟨q,P,Q,z,W⟩|⟨r,z,_⟩;·injection z with z;rw [W,z]
   ·cases z
  show Wh cf (aL cf h c s j) y d n;obtain⟨q1,q2,q3⟩:=sP cf h c s j;split at f
  ·rename_i e;injection f with f;injection f with A a;subst A a;refine .slot c s j hc V hj (hp.trans e) rfl (.inr ?_);rw [q1,q2];show _∈dB _ _ _ c\/∃ i,(dB _ _ _ c)[i]?=_/\(dB _ _ _ c).length<=_;rw [cP,cP];exact Bt
  ·rename_i o;cases B:qG R y with
   | none=>rw [B] at f;cases f
   | some t =>
    obtain⟨Y,n9⟩:=t;rw [B] at f;injection f with f;injection f with A a;subst A;cases w y Y n9 B with
    | live l=>exact .live (l.kept (x:=.slot c s j) i M (.slot c s j hc V hj hp hl) (λe=>o e.symm))
    | slot q P Q u F G K g b =>
     refine .slot q P Q u F G K g ?_;rw [q1,q2];show _\/_∈dB _ _ _ q\/∃ i,(dB _ _ _ q)[i]?=_/\(dB _ _ _ q).length<=_;by_cases ec:q=c
     ·subst ec;rw [cP,cP];rw [GP g.symm] at a;rcases b with b|b;·left;omega
      ·rw [<-a];exact DJ (Int.natCast_nonneg _) (i.ffl q u) b
     ·rw [eF _ _ ec,eF _ _ ec];rw [GO Z] at a;rw [<-a];exact b
    | range L g b =>
     rw [GO Z] at a;exact .range L g (by rw [q3,<-a];exact b)
 | range r hr X V =>
  obtain rfl:N = -1:=by
   rcases O with ⟨q,P,Q,z,W⟩|⟨r,_,W⟩;·cases z
   ·exact W
  show Wh cf (aJ cf h r) y d n;have v:(aJ cf h r).row=if cf.large<(h.row++[p]).length then (h.row++[p]).tail else h.row++[p]:=by
   rw [cG,X];split;·rfl
   ·show h.row++[r.base]=_;rw [X]
  have hq:(aJ cf h r).mx=h.mx/\(aJ cf h r).ff=h.ff:=by
   rw [cG];split <;> exact ⟨rfl,rfl⟩
  have S:191488<=p:=by
   have:=i.rgs r hr;unfold Rg9.base at X;omega
  split at f
  ·rename_i e;injection f with f;injection f with A a;subst A a e;refine .range S rfl (.inr ?_);rw [v];split
   ·rename_i k;rw [FC] at k;have o:h.row≠[]:=λe=>by rw [e] at k;simp at k;omega
    rw [List.tail_append_of_ne_nil o];exact⟨h.row.tail.length,by rw [Gn (Fv _)];simp,bG⟩
   ·exact⟨h.row.length,bH,bG⟩
  ·rename_i o;cases B:qG R y with
   | none=>rw [B] at f;cases f
   | some t =>
    obtain⟨Y,n9⟩:=t;rw [B] at f;injection f with f;injection f with A a;subst A;cases w y Y n9 B with
    | live l=>exact .live (l.kept (x:=.range r) i M (.range r hr X V) (λe=>o e.symm))
    | slot q P Q u F G K g b =>
     rw [GO Z] at a;exact .slot q P Q u F G K g (by rw [hq.1,hq.2,<-a];exact b)
    | range L g b =>
     rw [GP g.symm] at a;refine .range L g ?_;rcases b with b|⟨t,h1,h2⟩;·left;omega
     ·have T:=(Fz.1 h1).1;rw [v];split
      ·rename_i k;rw [FC] at k;simp only [FN,F1] at k;cases t with
       | zero=>left;omega
       | succ t =>
        refine .inr ⟨t,?_,bG⟩;rw [List.getElem?_tail,Ga T];exact h1
      ·exact .inr ⟨t,by rw [Ga T];exact h1,bG⟩
end
end Go.Proofs.YtdngbppdomoenaaGreatDoor
