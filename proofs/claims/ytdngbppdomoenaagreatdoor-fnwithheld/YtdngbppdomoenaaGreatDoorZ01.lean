import Derived.Test.YtdngbppdomoenaaGreatDoorZ00
set_option linter.unusedVariables false
set_option linter.unusedSimpArgs false
set_option maxRecDepth 20000
set_option maxHeartbeats 8000000
namespace Go.Proofs.YtdngbppdomoenaaGreatDoor
open Go.Proofs.Tryz
variable {j p:Nat} {cf:Cf} {h:Hs} {L R:List (Nat × Int)} {W:World} {v7 v8:Value}
section
open Go.RowKit Go.Maps
theorem rb (cf):∀ (l r:List fL) (h:Hs) (a:List An4),bd cf (l++r) h a=bd cf r (bd cf l h a).1 (bd cf l h a).2
 | [],r,h,a=>rfl
 | o::l,r,h,a=>rb cf l r _ _
theorem nD (cf):∀ (r:List fL) (h:Hs) (a:List An4),(bd cf r h a).2.take a.length=a
 | [],h,a=>G9
 | o::r,h,a=>by
  show (bd cf r _ _).2.take a.length=a
  have:=nD cf r (bU cf h a o).2 (a++[(bU cf h a o).1])
  have b:=congrArg (List.take a.length) this
  rw [List.take_take,FC,Hz Z,Iz (Fv _),G9] at b
  exact b
theorem rP (cf) (a:List fL) (i:Nat) (b:i<=a.length):(bd cf a (aP cf) []).2.take i=(bd cf (a.take i) (aP cf) []).2:=by
 have e:=rb cf (a.take i) (a.drop i) (aP cf) [];rw [List.take_append_drop] at e;have:=nD cf (a.drop i) (bd cf (a.take i) (aP cf) []).1 (bd cf (a.take i) (aP cf) []).2;rw [<-e,ft,Hm,Hz b] at this;simpa using this
theorem vL {k:Nat} {v:Value} (b:187<=k) (c:k<283) (a:Dec ((k*1024:Nat):Int) v):∃ p o:Int,v=pl 4 0 0 0 p o :=
 ⟨_,_,Dec.one a (.large _ Z Z)⟩
theorem uE {c s:Nat} {v:Value} (f:c<12) (g:s<6) (i:j<aM c) (l:Dec ((bh c s j:Nat):Int) v):v=pl 3 (c:Nat) (s:Nat) (j:Nat) 0 0:=by
 rcases wP l with ⟨r,t,u,b,d,e,m,n⟩|⟨k,_⟩
 ·have a:=fI f g i;rw [m,fI b d e] at a;injection a with a;injection a with o a;injection a with p q;rw [n,o,p,q]
 ·rw [fI f g i] at k;cases k
theorem Cu (o p) (b:(dv cf h o p).1.code=0) (l:o.kd=3\/o.kd=2/\p≠0):Lv h p:=by
 have f:=bT h p;have g:(∀ a,aB h p≠.no a)->Lv h p:=λm=>by
  generalize aB h p=x at *;cases f with
  | slot c s j d e k i n=>exact .slot c s j d e k i n (FH _)
  | range r c k e=>exact .range r c k e (FH _)
  | no a d=>exact absurd rfl (m a)
 refine g λa e=>?_;rw [e] at f
 have d:a=3\/a=4:=by
  cases f with
  | no a d=>exact d
 unfold dv at b;rcases l with k|⟨k,i⟩
 ·simp only [k,e] at b;have b:a=0:=b;omega
 ·simp only [k] at b;have b:(a_ cf h p o.a).1.code=0:=b;unfold a_ at b;simp only [GO i,e] at b;have b:a=0:=b;omega
theorem xm (cf h an o) (a:(bU cf h an o).1.code=0):bU cf h an o=dv cf h o (m_ o an):=by
 unfold bU m_ at *;by_cases b:o.ref=0;·rw [GP b,GO Z]
 ·rw [GO b] at a ⊢;by_cases c:o.ref<0\/(an.length:Int)<o.ref
  ·rw [GP c] at a;exact absurd (show (6:Int)=0 from a) ar
  ·rw [GO c,GP Z]
theorem wG (cf:Cf) (c:1<=cf.fifo) (b:List fL) (i:Nat) (o:fL) (f:b[i]?=some o) (a:An4) (ha:(bd cf b (aP cf) []).2[i]?=some a) :
  ∃ h,Inv cf h/\(bd cf (b.take i) (aP cf) []).1=h/\bU cf h ((bd cf b (aP cf) []).2.take i) o=(a,(bd cf (b.take (i+1)) (aP cf) []).1):=by
 have l:=(Fz.1 f).1;have g:b.take (i+1)=b.take i++[o]:=by rw [F_,f];rfl
 refine⟨_,(jp cf c (b.take i) (aP cf) [] 0 (Inv.new cf) ⟨Fv _,Fv _,Fv _,Fv _⟩).1,rfl,?_⟩;rw [rP cf b i Z,g,gF];have e:=rP cf b (i+1) Z;rw [g,gF] at e;have d:=congrArg (λl=>l[i]?) e;have j:(bd cf (b.take i) (aP cf) []).2.length=i:=by rw [ft,Hm,Hz Z];simp
 simp only [Gx,ha] at d;rw [GP Z,Gn Z,j,Nat.sub_self] at d;have k:a=(bU cf (bd cf (b.take i) (aP cf) []).1 (bd cf (b.take i) (aP cf) []).2 o).1:=by simpa using d
 rw [k]
def jx (p : Nat) : Int := match ce p with
 | some t => (t.1 : Int)
 | none => -1
theorem mX (a:∀ b,aB h p≠.no b):(∃ c s j,aB h p=.slot c s j/\jx p=(c:Int))\/(∃ r,aB h p=.range r/\jx p = -1):=by
 unfold aB jx at *;cases e:ce p with
 | some t =>
  obtain⟨c,s,j⟩:=t;rw [e] at a;dsimp only at a ⊢;split;·exact .inl ⟨c,s,j,rfl,rfl⟩
  ·rename_i d;split;·rename_i f;rw [GO d,GP f] at a;exact absurd rfl (a _)
   ·rename_i f;rw [GO d,GO f] at a;exact absurd rfl (a _)
 | none =>
  rw [e] at a;dsimp only at a ⊢;cases g:h.rg.find? λr=>r.base==p with
  | some r =>
   rw [g] at a;dsimp only at a ⊢;split;·exact .inr ⟨r,rfl,rfl⟩
   ·rename_i d;rw [GO d] at a;exact absurd rfl (a _)
  | none =>
   rw [g] at a;dsimp only at a;split at a <;> exact absurd rfl (a _)
theorem wX (i:Inv cf h) (l:Lv h p):(∃ c s j,c<12/\s<6/\j<aM c/\p=bh c s j/\jx p=(c:Int))\/(∃ k,187<=k/\k<283/\p=k*1024/\jx p = -1):=by
 cases l with
 | slot c s j a b d e g f =>
  refine .inl ⟨c,s,j,a,b,d,e.symm,?_⟩;unfold jx;rw [<-e,fI a b d]
 | range r g d b f =>
  have k:=i.rgs r g;have m:=d;unfold Rg9.base at d;unfold Rg9.ext at k;refine .inr ⟨r.first+r.guards,Z,Z,d.symm,?_⟩;unfold jx;cases e:ce p with
  | none=>rfl
  | some t =>
   obtain⟨c,s,j⟩:=t;unfold ce at e;have a:=oD (Ip e);have n:=List.find?_some e;simp at n;dsimp only at a;have o:=ca a.1 a.2.1 a.2.2;omega
def tu (o : fL) (p : Nat) (a : An4) : Prop := o.kd=3 \/ (o.kd=2/\p ≠ 0/\p ≠ a.addr)
instance (o : fL) (p : Nat) (a : An4) : Decidable (tu o p a) := by unfold tu; infer_instance
def stepW (R : List (Nat × Int)) (o : fL) (p : Nat) (a : An4) : List (Nat × Int) := if (a.code=0/\o.kd<=3)/\tu o p a then (p, jx p) :: R else R
def D1 (o : fL) (p : Nat) (a : An4) : Prop := a.code=0/\o.kd<=3/\o.kd ≠ 3/\(o.kd ≠ 2 \/ p=0 \/ p ≠ a.addr)
def gJ (e : List fL) (an : List An4) : Nat->List (Nat × Int)
 | 0 => []
 | i+1 => match e[i]?, an[i]? with
  | some o, some a => stepW (gJ e an i) o (m_ o (an.take i)) a
  | _, _ => gJ e an i
def okW (cf : Cf) (R : List (Nat × Int)) (x : Nat) : Prop := ∀ d n, qG R x=some (d, n)->(0<=d->cf.fifo<=n)/\(d<0->cf.large<=n)
theorem WH.keep {h1} (w:WH cf h R) (a:∀ x,Lv h x->Lv h1 x) (b:h1.mx=h.mx) (c:h1.ff=h.ff) (f:h1.row=h.row):WH cf h1 R:=λx d n e=>(w x d n e).mono (a x) b c f
structure Wt9' (cf : Cf) (h : Hs) (R : List (Nat × Int)) (o : fL) (p : Nat) (a : An4) (h1 : Hs) : Prop where
  wh : WH cf h1 (stepW R o p a)
  ok : D1 o p a->okW cf R a.addr
theorem Wt9'.same {h1} {o:fL} {a:An4} (w:WH cf h1 R) (b:a.code≠0\/3<o.kd):Wt9' cf h R o p a h1:=by
 refine⟨?_,λ⟨c,d,_⟩=>?_⟩
 ·unfold stepW;rw [GO];·exact w
  ·rintro⟨⟨c,d⟩,_⟩;rcases b with b|b;·exact b c
   ·omega
 ·rcases b with b|b;·exact absurd c b
  ·omega
theorem jN (i:Inv cf h) (w:WH cf h R) (o:fL) (p n:Nat) (l:o.kd<=1\/o.kd=2/\p=0):Wt9' cf h R o p (match av cf h n with|(none,a)=>(An4.no 1,a)|(some q,a)=>(⟨0,q,0,[]⟩,a):An4×Hs).1 (match av cf h n with|(none,a)=>(An4.no 1,a)|(some q,a)=>(⟨0,q,0,[]⟩,a):An4×Hs).2:=by
 cases e:av cf h n with
 | mk j a =>
  obtain⟨b,c,f,g⟩:=qN i e;cases j with
  | none=>exact .same (w.keep b c f g) (.inl (by show (1:Int)≠0;decide))
  | some q =>
   refine⟨?_,λ_ d m k=>uc i e (w q d m k)⟩;unfold stepW;rw [GO];·exact w.keep b c f g
   ·rintro⟨_,hm⟩;unfold tu at hm;omega
theorem ts (i:Inv cf h) (L:1<=cf.fifo) (M:1<=cf.large) (w:WH cf h R) (o:fL) (p a) (G:o.kd=2):Wt9' cf h R o p (a_ cf h p a).1 (a_ cf h p a).2:=by
 unfold a_;dsimp only;by_cases v:p=0
 ·rw [GP v];exact jN i w o p a (.inr ⟨G,v⟩)
 ·rw [GO v];have Q:∀ (n:Nat) (y:Fd),aB h p=y->(∀ b,y≠.no b)->Wt9' cf h R o p (match av cf h a with|(none,f)=>(An4.no 1,f)|(some q,f)=>(⟨0,q,0,[]⟩,db cf { f with m:=aZ f.m p q (min n a) } (aB { f with m:=aZ f.m p q (min n a) } p)):An4×Hs).1 (match av cf h a with|(none,f)=>(An4.no 1,f)|(some q,f)=>(⟨0,q,0,[]⟩,db cf { f with m:=aZ f.m p q (min n a) } (aB { f with m:=aZ f.m p q (min n a) } p)):An4×Hs).2:=by
   intro n y K A;cases e:av cf h a with
   | mk o9 f =>
    obtain⟨P,S,T,V⟩:=qN i e;cases o9 with
    | none=>exact .same (w.keep P S T V) (.inl (by show (1:Int)≠0;decide))
    | some q =>
     dsimp only;have g:=i.gave e;have lp:Lv h p:=by
      have t:=bT h p;rw [K] at t;cases t with
      | no b _=>exact absurd rfl (A b)
      | slot c s j k z F W N=>exact .slot c s j k z F W N (FH _)
      | range r X Y z=>exact .range r X Y z (FH _)
     have O:=(g.keeps lp).2;have i2:Inv cf { f with m:=aZ f.m p q (min n a) }:=g.inv.bytes _ _ _;have sn:=bT { f with m:=aZ f.m p q (min n a) } p;have B:∀ b,aB { f with m:=aZ f.m p q (min n a) } p≠.no b:=by
      have t:=bT h p;rw [K] at t;cases t with
      | no b _=>exact absurd rfl (A b)
      | slot c s j k z F W N =>
       rw [gW (h':={ f with m:=aZ f.m p q (min n a) }) K (g.live c s j k z F N).1];intro b d;cases d
      | range r X Y z =>
       rw [fV (h':={ f with m:=aZ f.m p q (min n a) }) K (by
        rcases g.rg with l|⟨u,l,_⟩;·exact .inl l
        ·exact .inr ⟨u,l⟩)]
       intro b d;cases d
     have w2:WH cf { f with m:=aZ f.m p q (min n a) } R:=(w.keep P S T V).keep (λx l=>l.of_eq rfl rfl) rfl rfl rfl;refine⟨?_,λ_ d m hd=>uc i e (w q d m hd)⟩;unfold stepW;rw [GP ⟨⟨rfl,Z⟩,.inr ⟨G,v,O⟩⟩];exact oC i2 L M sn B w2 (mX B)
  cases N:aB h p with
  | no b =>
   have t:=bT h p;rw [N] at t;cases t with
   | no b k=>exact .same w (.inl (by show b≠0;omega))
  | slot c s j =>
   dsimp only;split;·exact .same w (.inl (by show (5:Int)≠0;decide))
   ·split
    ·refine⟨?_,λk=>?_⟩
     ·unfold stepW;rw [GO];·exact w.keep (λx l=>l.of_eq rfl rfl) rfl rfl rfl
      ·rintro⟨_,d⟩;rcases d with d|⟨_,_,d⟩;·omega
       ·exact d rfl
     ·obtain⟨_,_,_,k⟩:=k;rcases k with k|k|k;·exact absurd G k
      ·exact absurd k v
      ·exact absurd rfl k
    ·exact Q _ _ N (λb h=>by cases h)
  | range r =>
   dsimp only;split
   ·refine⟨?_,λk=>?_⟩
    ·unfold stepW;rw [GO]
     ·refine w.keep (λx l=>?_) rfl rfl rfl;cases l with
      | slot S T V B g F O P z=>exact .slot S T V B g F O P z
      | range u B F g z =>
       by_cases e:u.base=r.base;·exact .range { u with rq:=(a:Int) } (FQ.2 ⟨u,B,by rw [GP e]⟩) F g (FH _)
       ·exact .range u (FQ.2 ⟨u,B,by rw [GO e]⟩) F g (FH _)
     ·rintro⟨_,d⟩;rcases d with d|⟨_,_,d⟩;·omega
      ·exact d rfl
    ·obtain⟨_,_,_,k⟩:=k;rcases k with k|k|k;·exact absurd G k
     ·exact absurd k v
     ·exact absurd rfl k
   ·exact Q _ _ N (λb h=>by cases h)
theorem Az (i:Inv cf h) (d:1<=cf.fifo) (f:1<=cf.large) (w:WH cf h R) (o p):Wt9' cf h R o p (dv cf h o p).1 (dv cf h o p).2:=by
 unfold dv;dsimp only;by_cases q:o.kd=0;·rw [GP q];exact jN i w o p _ (.inl Z)
 rw [GO q];by_cases t:o.kd=1
 ·rw [GP t];split;·exact .same w (.inl (by show (1:Int)≠0;decide))
  ·exact jN i w o p _ (.inl Z)
 rw [GO t];by_cases n:o.kd=2;·rw [GP n];exact ts i d f w o p o.a n
 rw [GO n];by_cases g:o.kd=3
 ·rw [GP g];have l:=bT h p;cases k:aB h p with
  | no a =>
   rw [k] at l;cases l with
   | no a m=>exact .same w (.inl (by show a≠0;omega))
  | slot c s j =>
   dsimp only;split;·exact .same w (.inl (by show (5:Int)≠0;decide))
   ·refine⟨?_,λm=>absurd g m.2.2.1⟩;unfold stepW;rw [GP ⟨⟨rfl,Z⟩,.inl g⟩];have b:∀ a,aB h p≠.no a:=λa e=>by rw [k] at e;cases e
    have:=oC i d f l b w (mX b);rw [k] at this;exact this
  | range r =>
   dsimp only;refine⟨?_,λm=>absurd g m.2.2.1⟩;unfold stepW;rw [GP ⟨⟨rfl,Z⟩,.inl g⟩];have b:∀ a,aB h p≠.no a:=λa e=>by rw [k] at e;cases e
   have:=oC i d f l b w (mX b);rw [k] at this;exact this
 rw [GO g];by_cases a:o.kd=4
 ·rw [GP a];cases aB h p <;> exact .same w (.inr Z)
 rw [GO a];by_cases b:o.kd=5
 ·rw [GP b];split <;> exact .same w (.inr Z)
 rw [GO b];by_cases c:o.kd=6
 ·rw [GP c];exact .same (w.keep (λx l=>l.of_eq rfl rfl) rfl rfl rfl) (.inr Z)
 rw [GO c];exact .same w (.inl (by show (6:Int)≠0;decide))
theorem tR (i:Inv cf h) (a:1<=cf.fifo) (b:1<=cf.large) (w:WH cf h R) (an o):Wt9' cf h R o (m_ o an) (bU cf h an o).1 (bU cf h an o).2:=by
 unfold bU m_;by_cases c:o.ref=0;·rw [GP c,GO Z];exact Az i a b w o _
 ·rw [GO c];by_cases d:o.ref<0\/(an.length:Int)<o.ref
  ·rw [GP d];exact .same w (.inl (by show (6:Int)≠0;decide))
  ·rw [GO d,GP Z];exact Az i a b w o _
theorem xe (cf:Cf) (c:1<=cf.fifo) (f:1<=cf.large) (b:List fL):∀ i,i<=b.length->WH cf (bd cf (b.take i) (aP cf) []).1 (gJ b (bd cf b (aP cf) []).2 i)
 | 0,_=>λx d n e=>by cases e
 | i+1,l=>by
  have d:=xe cf c f b i Z
  obtain⟨o,e⟩:∃ o,b[i]?=some o:=⟨_,Fy Z⟩
  obtain⟨a,ha⟩:∃ a,(bd cf b (aP cf) []).2[i]?=some a:=⟨_,Fy (by rw [ft];simp;omega)⟩
  obtain⟨h,g,j,k⟩:=wG cf c b i o e a ha
  rw [j] at d
  have:=(tR g c f d ((bd cf b (aP cf) []).2.take i) o).wh
  rw [k] at this
  unfold gJ
  rw [e,ha]
  exact this
theorem qX (cf:Cf) (d:1<=cf.fifo) (e:1<=cf.large) (b:List fL) (i:Nat) (o:fL) (l:b[i]?=some o) (a:An4) (ha:(bd cf b (aP cf) []).2[i]?=some a) :
  (a.code=0->0<=o.kd)/\(D1 o (m_ o ((bd cf b (aP cf) []).2.take i)) a->okW cf (gJ b (bd cf b (aP cf) []).2 i) a.addr) /\
  (a.code=0->tu o (m_ o ((bd cf b (aP cf) []).2.take i)) a->(∃ c s j,c<12/\s<6/\j<aM c/\m_ o ((bd cf b (aP cf) []).2.take i)=bh c s j/\jx (m_ o ((bd cf b (aP cf) []).2.take i))=(c:Int))\/(∃ k,187<=k/\k<283/\m_ o ((bd cf b (aP cf) []).2.take i)=k*1024/\jx (m_ o ((bd cf b (aP cf) []).2.take i)) = -1)):=by
 have s:=(Fz.1 l).1;have k:=xe cf d e b i Z;obtain⟨h,f,q,g⟩:=wG cf d b i o l a ha;rw [q] at k;have m:=tR f d e k ((bd cf b (aP cf) []).2.take i) o;have n:=yT f d ((bd cf b (aP cf) []).2.take i) o;rw [g] at m n;refine⟨n.kd,m.ok,λp c=>?_⟩;have r:=xm cf h ((bd cf b (aP cf) []).2.take i) o (by rw [g];exact p);refine wX f (Cu (cf:=cf) o _ ?_ ?_);·rw [<-r,g];exact p
 ·rcases c with c|c;·exact .inl c
  ·exact .inr ⟨c.1,c.2.1⟩
end
section
open Go.RowKit Go.Shelf Go.Maps
def gH (L : List (Nat × Int)) (d : Int) (j : Nat) : Nat->Nat
 | 0 => 0
 | k+1 => gH L d j k+(if j<k/\(L[k]?.map (·.2))=some d then 1 else 0)
theorem sH (L d j) (k:Nat):gH L d j (k+1)=gH L d j k+(if j<k/\(L[k]?.map (·.2))=some d then 1 else 0):=rfl
theorem Bh {d} {c:Nat} {f:Nat×Int} {a:Nat} (i:j<c) (g:L[c]?=some f) (k:gH L d j c=a) {b:Bool} (l:(f.2==d)=b):gH L d j (c+1)=a+(if b=true then 1 else 0):=by
 rw [sH,k,g];subst l;by_cases e:f.2=d;·rw [GP ⟨i,by simp [e]⟩,GP (by simp [e])]
 ·rw [GO (λh=>e (by simpa using h.2)),GO (by simp [e])]
theorem qI (L:List (Nat×Int)) (e:Nat×Int) (d j):∀ k,k<=L.length->gH (L++[e]) d j k=gH L d j k
 | 0,_=>rfl
 | k+1,h=>by
  unfold gH
  rw [qI L e d j k Z,Ga Z]
theorem oK (L d j):∀ k,gH L d j k<=k
 | 0=>Fv _
 | k+1=>by
  have:=oK L d j k
  rw [sH]
  split <;> omega
theorem pq (L d) (j:Nat):∀ k,k<=j+1->gH L d j k=0
 | 0,_=>rfl
 | k+1,h=>by
  unfold gH
  rw [pq L d j k Z,GO Z]
theorem tJ:∀ (R:List (Nat×Int)) (j:Nat) (x:Nat) (d:Int),R.reverse[j]?=some (x,d)->(∀ k e,j<k->R.reverse[k]?=some e->e.1≠x)->qG R x=some (d,gH R.reverse d j R.length)
 | [],j,x,d,h,_=>by simp at h
 | (y,c)::R,j,x,d,h,a=>by
  rw [List.reverse_cons] at h a
  have b:(R.reverse).length=R.length:=List.length_reverse
  unfold qG
  by_cases g:j<R.length
  ·rw [Ga Z] at h
   have i:y≠x:=a R.length (y,c) g (by rw [Gn Z,b,Nat.sub_self];rfl)
   rw [GO i,tJ R j x d h (λk e l f=>a k e l (by rw [Ga (by have:=(Fz.1 f).1;omega)];exact f))]
   dsimp only
   congr 2
   rw [List.reverse_cons,FN]
   rw [sH,qI _ _ _ _ _ Z,Gn Z,b,Nat.sub_self]
   by_cases e:c=d
   ·rw [GP e,GP ⟨g,by simp [e]⟩]
   ·rw [GO e,GO (λh=>e (by simpa using h.2))];omega
  ·have f:j=R.length:=by
    have:=(Fz.1 h).1
    simp at this
    omega
   subst f
   rw [Gn Z,b,Nat.sub_self] at h
   simp at h
   obtain⟨rfl,rfl⟩:=h
   rw [GP rfl]
   congr 2
   exact (pq _ _ _ _ bH).symm
theorem ql (ops an):∀ i,(gJ ops an i).length<=i
 | 0=>Fv _
 | i+1=>by
  have a:=ql ops an i
  unfold gJ
  split
  ·unfold stepW
   split
   ·simp;omega
   ·omega
  ·omega
theorem Eb {x} (h:okW cf R x) {d:Int} (a:R.reverse[j]?=some (x,d)) (b:∀ k e,j+1<=k->R.reverse[k]?=some e->e.1≠x):(0<=d->cf.fifo<=gH R.reverse d j R.reverse.length)/\(d<0->cf.large<=gH R.reverse d j R.reverse.length):=by
 rw [List.length_reverse];exact h _ _ (tJ R j x d a (λk e a c=>b k e a c))
theorem CJ:(prog.info? 3).map (λi=>(i.zero,i.size,i.bytes))=some (some (.int .i64 0),1,8):=E
theorem Cp (W:World) (B:Nat) (v:Value) (l:List Int) (x:Int) (g c:Nat) (a:W.ownsRow B 3 1 v l.length (Ns .i64 l)) (m:W.cell? ⟨g,0,none⟩=some (.int .i64 x)) (s:l.length<=100000) (n:B<=W.heap.size) :
  ∃ d b,(Builtin.append_ #[24,24] 24 #[v,.slice (some ⟨g,0,none⟩) 1 c]).run prog W=.ok d b/\b.ownsRow B 3 1 d (l++[x]).length (Ns .i64 (l++[x]))/\W.grownBy b v.ownBlock:=by
 obtain⟨o,e,f,i,k⟩:=G0 CJ;obtain⟨d,b,p,q,r,_⟩:=run_append_own_at (P:=prog) W B 24 24 3 o _ 1 8 underlying24 e f i k rfl Z v _ _ a ⟨g,0,none⟩ 1 c [.int .i64 x] rfl (λj u a=>by
  cases j with
  | zero=>simp at a;subst a;simpa [Addr.add] using m
  | succ j=>simp at a) (λu a=>by simp at a;subst a;rfl) (by unfold maxLen;omega) Z n
 refine⟨d,b,p,?_,r⟩;have:Ns .i64 (l++[x])=Ns .i64 l++[.int .i64 x]:=by simp [Ns]
 rw [this,FC];exact q
structure Wl (U : World) (L : List (Nat × Int)) (v7 v8 : Value) (W : World) : Prop where
  bel : D U W
  r7 : W.ownsRow U.heap.size 23 1 v7 L.length (Us (L.map (·.1)))
  r8 : W.ownsRow U.heap.size 3 1 v8 L.length (Ns .i64 (L.map (·.2)))
theorem Wl.low {U W'} (h:Wl U L v7 v8 W) (b:D W W'):Wl U L v7 v8 W':=⟨az h.bel b,ax h.r7 b,ax h.r8 b⟩
theorem Wl.app7 {U} (h:Wl U L v7 v8 W) (K:L.length<=400) (p:Nat) (f:Int) :
  ∃ (k:Option Addr) (l:Nat) (b:World),(Builtin.append_ #[34,34] 34 #[v7,.slice (some ⟨W.heap.size,0,none⟩) 1 1]).run prog (W.alloc (.cells #[.int .u64 (p:Nat)] 23))=.ok (.slice k (L.length+1) l) b /\
  ∃ (m:Option Addr) (o:Nat) (i:World),(Builtin.append_ #[24,24] 24 #[v8,.slice (some ⟨b.heap.size,0,none⟩) 1 1]).run prog (b.alloc (.cells #[.int .i64 f] 3))=.ok (.slice m (L.length+1) o) i/\Wl U (L++[(p,f)]) (.slice k (L.length+1) l) (.slice m (L.length+1) o) i:=by
 have j:∀ {W:World} {B:Nat} {e:TypeId} {v:Value} {n:Nat} {a:List Value},W.ownsRow B e 1 v n a->0<n->∃ a c,v=.slice a n c:=λh M=>by
  rcases h.2 with ⟨a,e⟩|⟨g,n,d,a,_⟩;·omega
  ·exact⟨_,_,a⟩
 have x:=(Fu W.heap.size W).alloc (Fv _) (.cells #[.int .u64 (p:Nat)] 23);have a:=h.low x;have v:=a.r7;rw [show L.length=(L.map (·.1)).length by simp] at v;obtain⟨y,b,z,A,w,_⟩:=nK (W.alloc (.cells #[.int .u64 (p:Nat)] 23)) U.heap.size v7 (L.map (·.1)) p W.heap.size 1 v (by rw [GT _ _ _ _ _ _ (ao W _)];rfl) bG a.bel.size;have B:Ky (· = 23) _ b:=Ky.grownO (λP q=>by obtain ⟨_,c,s⟩:=aF a.r7 q;exact⟨c,23,_,s,rfl⟩) w;have d:=a.bel.grown w a.bel.size (λr t=>(aF a.r7 t).1);have u:=ai a.r8 B ar;have g:=(Fu b.heap.size b).alloc (Fv _) (.cells #[.int .i64 f] 3);have n:=ax u g;rw [show L.length=(L.map (·.2)).length by simp] at n;obtain⟨F,i,f1,f2,f3⟩:=Cp (b.alloc (.cells #[.int .i64 f] 3)) U.heap.size v8 (L.map (·.2)) f b.heap.size 1 n (by rw [GT _ _ _ _ _ _ (ao b _)];rfl) bG (az d g).size;have G:Ky (· = 3) _ i:=Ky.grownO (λP q=>by obtain ⟨_,c,s⟩:=aF n q;exact⟨c,3,_,s,rfl⟩) f3;have e:=ai (ax A g) G ar;rw [show ((L.map (·.1))++[p]).length=L.length+1 by simp] at e;rw [show ((L.map (·.2))++[f]).length=L.length+1 by simp] at f2;obtain⟨k,l,rfl⟩:=j e Z;obtain⟨m,o,rfl⟩:=j f2 Z;refine⟨k,l,b,z,m,o,i,f1,(az d g).grown f3 (az d g).size (λr t=>(aF n t).1),?_,?_⟩;·rw [FC,Hr];exact e
 ·rw [FC,Hr];exact f2
theorem Wl.at {U} (h:Wl U L v7 v8 W) (s:0<L.length) :
  ∃ b d c f,v7=.slice (some ⟨b,0,none⟩) L.length d/\v8=.slice (some ⟨c,0,none⟩) L.length f/\∀ j e,L[j]?=some e->W.cell? ⟨b,j,none⟩=some (.int .u64 (e.1:Nat))/\W.cell? ⟨c,j,none⟩=some (.int .i64 e.2):=by
 rcases h.r7.2 with ⟨_,l⟩|⟨b,d,i,m,t,n,u,v,w,o⟩;·omega
 ·rcases h.r8.2 with ⟨_,l⟩|⟨c,f,k,p,x,q,y,z,A,r⟩;·omega
  ·refine⟨b,d,c,f,m,p,λj e g=>?_⟩;have B:=(Fz.1 g).1;refine⟨?_,?_⟩
   ·rw [GT _ _ _ _ _ _ n];have a:(Us (L.map (·.1)))[j]?=some (.int .u64 (e.1:Nat)):=(by simp [Us,g]);rw [<-o,Gx,GP Z,Gg] at a;exact a
   ·rw [GT _ _ _ _ _ _ q];have a:(Ns .i64 (L.map (·.2)))[j]?=some (.int .i64 e.2):=(by simp [Ns,g]);rw [<-r,Gx,GP Z,Gg] at a;exact a
theorem Wl.form {U} (h:Wl U L v7 v8 W):(∃ a c,v7=.slice a L.length c)/\∃ a c,v8=.slice a L.length c:=by
 refine⟨?_,?_⟩
 ·rcases h.r7.2 with ⟨a,b⟩|⟨g,d,c,a,_⟩;·exact⟨_,_,by rw [b];exact a⟩
  ·exact⟨_,_,a⟩
 ·rcases h.r8.2 with ⟨a,b⟩|⟨g,d,c,a,_⟩;·exact⟨_,_,by rw [b];exact a⟩
  ·exact⟨_,_,a⟩
end
end Go.Proofs.YtdngbppdomoenaaGreatDoor
