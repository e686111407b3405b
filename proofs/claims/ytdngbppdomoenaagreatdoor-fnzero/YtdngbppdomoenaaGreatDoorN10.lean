import Derived.Test.YtdngbppdomoenaaGreatDoorN09
set_option linter.unusedVariables false
set_option linter.unusedSimpArgs false
set_option maxRecDepth 20000
set_option maxHeartbeats 8000000
namespace Go.Proofs.YtdngbppdomoenaaGreatDoor
open Go.Proofs.Tryz
variable {m:Nat->Option (Bool×List Int)} {M S a cap g n:Nat} {f:Nat->Option Nat} {W w:World} {bud nn st:Int} {fifo mix:List Int}
section
open Go.RowKit Go.Shelf
theorem fM {f:Nat->Option Nat} {m:Nat->Option (Bool×List Int)} (h:∀ k,(f k).isSome=(m k).isSome) (p):∀ c,bm f p c=c↔IC m p true c=true
 | 0=>by simp [bm,IC]
 | k+1=>by
  have a:=fM h p k
  have b:=eI f p k
  simp only [bm,IC,FV,beq_iff_eq,<-h (p+k),<-a]
  cases (f (p+k)).isSome <;> simp <;> omega
theorem pM {f:Nat->Option Nat} {m:Nat->Option (Bool×List Int)} (h:∀ k,(f k).isSome=(m k).isSome) (p):∀ c,bm f p c=0↔IC m p false c=true
 | 0=>by simp [bm,IC]
 | k+1=>by
  have a:=pM h p k
  simp only [bm,IC,FV,beq_iff_eq,<-h (p+k),<-a]
  cases (f (p+k)).isSome <;> simp
theorem nT (nn:Nat) (p c):bH nn p c=true↔Ar nn p c:=by
 unfold bH Ar;rw [GX];omega
theorem z_ (S M) (nn:Nat) (bud f m) (r p:Int) (c a n d dl dc ys w) (h:Im S M 0 nn bud f w) (t:Pg f m w) (z:∀ k,nn<=k->m k=none) (F:nn<=4096) (u:p<=9223372036854775807) (B:r=0\/r=1\/r=2\/r=3) :
  Calls prog 149 #[J S 0,j_ r p c a n d dl dc] w λe o=>e=.returned (.agg #[I (bT nn bud m r p c a n ys).2.1,C])/\IF S M nn bud f (bT nn bud m r p c a n ys).1 w o:=by
 have g:(0:Int)<=nn:=Z;have j:(nn:Int)<=4096:=Z;have G:¬r=4:=Z;have K:¬r=5:=Z;have L:¬(r<0\/5<r):=Z;have k:=t.none_iff;have v:bm f 0 4096=bz m nn:=by
  rw [jZ k 4096,show 4096=nn+(4096-nn) by omega,mh z]
 unfold bT;rw [Gu G,Gu K,Gu L];by_cases s:Ar nn p c
 ·rw [Gv s];have b:=(nT nn p c).2 s;obtain⟨P,N,Q,R⟩:=s;obtain⟨p,rfl⟩:=GM N;obtain⟨c,rfl⟩:=GM (show 0<=c by omega);simp only [FD];have O:=eI f p c;rcases B with rfl|rfl|rfl|rfl
  ·refine lI S M nn bud f m _ _ p c a n d dl dc w h t (λV i q=>?_);simp only [ks,Iv];cases l:IC m p false c with
   | false =>
    simp only [Iv];refine (qh S M 1 nn bud f p c _ V i g j b rfl (by
     have:=(pM k p c);rw [l] at this;have x:bm f p c≠0:=λe=>by simpa using this.1 e
     omega)).mono ?_
    rintro e o ⟨rfl,rfl⟩;exact⟨rfl,f,i,q,Fr.refl _ _ _ _⟩
   | true =>
    have A:=(pM k p c).2 l;by_cases y:bud<(bz m nn:Int)+c;·simp only [Gv y,IA,Iu];refine (qH S M 1 nn bud f p c _ V i g j b A v y).mono ?_;rintro e o ⟨rfl,rfl⟩;exact⟨rfl,f,i.drew,q.drew,(Fr.refl _ _ _ _).drew⟩
    simp only [Gu y,IA,Iu];exact r_ S M 1 nn bud f m p c _ V i q g j b A v Z
  ·refine jw S M nn bud f m _ _ p c a n d dl dc w h t (λV i q=>?_);simp only [ks,show ¬((1:Int)=0) by omega,Iu,Iv];cases l:IC m p true c with
   | false =>
    simp only [Iv];refine (ni S M 1 nn bud f p c _ V i g j b rfl (by
     have:=(fM k p c);rw [l] at this;have x:bm f p c≠c:=λe=>by simpa using this.1 e
     omega)).mono ?_
    rintro e o ⟨rfl,rfl⟩;exact⟨rfl,f,i,q,Fr.refl _ _ _ _⟩
   | true =>
    simp only [IA,Iu];exact oH S M 1 nn bud f m p c V i q g j b ((fM k p c).2 l)
  ·refine qZ S M nn bud f m _ _ p c a n d dl dc w h t (λV i q=>?_);simp only [ks,show ¬((2:Int)=0) by omega,show ¬((2:Int)=1) by omega,Iu,Iv];cases l:IC m p true c with
   | false =>
    simp only [Iv];refine (jg S M 1 nn bud f p c _ true V i g j b rfl (by
     have:=(fM k p c);rw [l] at this;have x:bm f p c≠c:=λe=>by simpa using this.1 e
     omega)).mono ?_
    rintro e o ⟨rfl,rfl⟩;exact⟨rfl,f,i,q,Fr.refl _ _ _ _⟩
   | true =>
    simp only [IA,Iu];refine (kb S M 1 nn bud f m p c true V i q g j b ((fM k p c).2 l)).mono ?_;rintro e o ⟨rfl,y,x,A⟩;exact⟨rfl,f,y,x,A⟩
  refine mw S M nn bud f m _ _ p c a n d dl dc w h t (λV i q=>?_);simp only [ks,show ¬((3:Int)=0) by omega,show ¬((3:Int)=1) by omega,show ¬((3:Int)=2) by omega,Iu];cases l:IC m p true c with
  | false =>
   simp only [Iv];refine (jg S M 1 nn bud f p c _ false V i g j b rfl (by
    have:=(fM k p c);rw [l] at this;have x:bm f p c≠c:=λe=>by simpa using this.1 e
    omega)).mono ?_
   rintro e o ⟨rfl,rfl⟩;exact⟨rfl,f,i,q,Fr.refl _ _ _ _⟩
  | true =>
   simp only [IA,Iu];refine (kb S M 1 nn bud f m p c false V i q g j b ((fM k p c).2 l)).mono ?_;rintro e o ⟨rfl,y,x,A⟩;exact⟨rfl,f,y,x,A⟩
 rw [Gu s];have b:bH nn p c=false:=by
  cases l:bH nn p c with
  | false=>rfl
  | true=>exact absurd ((nT nn p c).1 l) s
 rcases B with rfl|rfl|rfl|rfl;·refine lI S M nn bud f m _ _ p c a n d dl dc w h t (λV i q=>(uP S M 1 nn bud f p c V i g j u b).mono ?_);rintro e o ⟨rfl,rfl⟩;exact⟨rfl,f,i,q,Fr.refl _ _ _ _⟩
 ·refine jw S M nn bud f m _ _ p c a n d dl dc w h t (λV i q=>(rG S M 1 nn bud f p c V i g j u b).mono ?_);rintro e o ⟨rfl,rfl⟩;exact⟨rfl,f,i,q,Fr.refl _ _ _ _⟩
 ·refine qZ S M nn bud f m _ _ p c a n d dl dc w h t (λV i q=>(lU S M 1 nn bud f p c true V i g j u b).mono ?_);rintro e o ⟨rfl,rfl⟩;exact⟨rfl,f,i,q,Fr.refl _ _ _ _⟩
 refine mw S M nn bud f m _ _ p c a n d dl dc w h t (λV i q=>(lU S M 1 nn bud f p c false V i g j u b).mono ?_);rintro e o ⟨rfl,rfl⟩;exact⟨rfl,f,i,q,Fr.refl _ _ _ _⟩
theorem iv (S M st nn bud f m) (a:Nat) (n w) (g:Im S M st nn bud f w) (i:Pg f m w) (ha:a<18446744073709551616) :
  Calls prog 228 #[J S 0,U a,I n] w λe j=>e=.returned (I (b_ m a n))/\j=w:=by
 unfold b_;by_cases b:n<0\/4096<n;·rw [Gv b];exact pC S a n w b
 rw [Gu b];by_cases d:n=0;·subst d;rw [Gv rfl];exact rM S a w
 rw [Gu d];by_cases c:4611686018427387904<=(a:Int)+(n-1);·rw [Gv c];exact sQ S a n w Z Z Z Z c
 rw [Gu c];obtain⟨k,rfl⟩:=GM (show 0<=n by omega);rw [FD,<-sB m a k Z];exact qG S M st nn bud f m a k _ _ w g i Z Z Z rfl rfl
theorem yU (S M) (nn:Nat) (bud f m) (b:Int) (p c a n d dl dc ys w) (h:Im S M 0 nn bud f w) (i:Pg f m w) (g:b<0\/5<b) :
  Calls prog 149 #[J S 0,j_ b p c a n d dl dc] w λe j=>e=.returned (.agg #[I (bT nn bud m b p c a n ys).2.1,C])/\IF S M nn bud f (bT nn bud m b p c a n ys).1 w j:=by
 unfold bT;rw [Gu (show ¬b=4 by omega),Gu (show ¬b=5 by omega),Gv g];exact wG S M nn bud f m b p c a n d dl dc w h i g
theorem rO {n} (h:b_ m a n=0):∃ k:Nat,n=k/\k<=4096/\(k=0\/a+k<=4611686018427387904)/\∀ d,d<k->isOpen (m ((a+d)/1024))=true:=by
 unfold b_ at h;by_cases b:n<0\/4096<n;·rw [Gv b] at h;cases h
 rw [Gu b] at h;obtain⟨k,rfl⟩:=GM (show 0<=n by omega);refine⟨k,rfl,Z,?_⟩;by_cases f:(k:Int)=0;·exact⟨.inl Z,λd c=>Z⟩
 rw [Gu f] at h;by_cases c:4611686018427387904<=(a:Int)+((k:Int)-1);·rw [Gv c] at h;cases h
 rw [Gu c] at h;refine⟨.inr Z,?_⟩;cases e:dE m a k with
 | false=>simp [e,je] at h
 | true=>exact gJ e
theorem jN (c:Pg f m W) {k:Nat} (h:isOpen (m k)=true):∃ g,f k=some g:=by
 rcases c.at' k with ⟨a,d⟩|⟨b,l,e,a,_⟩;·rw [d] at h;cases h
 exact⟨b,a⟩
theorem xu (S a n) (c:Int) (w:World) (f:(c != 0)=true) (h:Calls prog 228 #[J S 0,U a,I n] (w.alloc (.cells #[I 0,C] 210)) λe b=>e=.returned (I c)/\b=w.alloc (.cells #[I 0,C] 210)) :
  Calls prog 181 #[J S 0,U a,I n] w λe b=>e=.returned (.agg #[I c,C])/\b=w.alloc (.cells #[I c,C] 210):=by
 have d:=H h;clear h;go_enter func181,ntmps181;go_wp2_with fail;refine (d).mono ?_;rintro _ _ ⟨rfl,rfl⟩;go_wp2_with fail;refine GF (v:=.agg #[I c,C]) (by simp [results,Tryz.results181,go_sem]) rfl ⟨rfl,rfl⟩
theorem uL (S a) (c:Int) (n cap:Nat) (p:Option Addr) (w:World) (f:(c != 0)=true) (h:Calls prog 228 #[J S 0,U a,I n] (w.alloc (.cells #[.slice p n cap] 22)) λe b=>e=.returned (I c)/\b=w.alloc (.cells #[.slice p n cap] 22)) :
  Calls prog 182 #[J S 0,U a,.slice p n cap] w λe b=>e=.returned (I c)/\b=w.alloc (.cells #[.slice p n cap] 22):=by
 have d:=H h;clear h;go_enter func182,ntmps182;go_wp2_with fail;refine (d).mono ?_;rintro _ _ ⟨rfl,rfl⟩;go_wp2_with fail;go_ret;exact⟨rfl,rfl⟩
theorem yW (S M) (nn:Nat) (bud f m p c) (a:Nat) (n d dl dc ys w) (h:Im S M 0 nn bud f w) (j:Pg f m w) (ha:a<18446744073709551616) :
  Calls prog 149 #[J S 0,j_ 4 p c a n d dl dc] w λe g=>∃ v,e=.returned (.agg #[I (bT nn bud m 4 p c a n ys).2.1,v])/\g.ownsRow w.heap.size 5 1 v (bT nn bud m 4 p c a n ys).2.2.length (Ns .u8 (bT nn bud m 4 p c a n ys).2.2)/\IF S M nn bud f (bT nn bud m 4 p c a n ys).1 w g:=by
 have l:bT nn bud m 4 p c a n ys=(m,b_ m a n,if b_ m a n=0 then aI m a n.toNat else []):=by unfold bT;rw [Gv rfl]
 rw [l];refine run_load S M nn bud f m _ _ p c a n d dl dc w h j (λV i q=>?_);by_cases b:b_ m a n=0
 ·rw [b,Gv rfl];obtain⟨k,rfl,o,s,t⟩:=rO b;have u:=zn S M 1 nn bud f m a k V i q o s (λd j=>jN q (t d j)) (λW d j=>by
   have:=iv S M 1 nn bud f m a (k:Nat) W d j ha;rwa [b] at this)
  refine ((callsIn_wide (n:=5)).1 u).mono ?_;rintro e g ⟨v,rfl,x,r⟩;refine⟨v,rfl,?_,r⟩;simp only [FD];have y:(aI m a k).length=k:=by simp [aI]
  rw [y];exact x
 rw [Gu b];refine (xu S a n _ V (by simpa using b) (iv S M 1 nn bud f m a n _ (i.alloc _) (q.alloc _) ha)).mono ?_;rintro e g ⟨rfl,rfl⟩;exact⟨_,rfl,⟨rfl,.inl ⟨rfl,rfl⟩⟩,i.alloc _,q.alloc _,Fr.ofGrown (GH _ _ none)⟩
theorem tf (m k u v):eb (eb m k u) k v=eb m k v:=by
 funext j;unfold eb;split <;> rfl
theorem vB (m:Nat->Option (Bool×List Int)) (k:Nat) (v:Option (Bool×List Int)) (h:m k=v):eb m k v=m:=by
 funext j;unfold eb;split;·rename_i e;rw [e,h]
 rfl
theorem qp (b c:List Int) (a:Nat) (z:Int) (h:a+c.length<b.length):(splice b a c).set (a+c.length) z=splice b a (c++[z]):=by
 have d:(b.take a).length=a:=bK;have e:b.drop (a+c.length)=b[a+c.length]::b.drop (a+c.length+1):=List.drop_eq_getElem_cons h;unfold splice;rw [e,List.set_append_right _ _ Z,d,Nat.add_sub_cancel_left,List.set_append_right _ _ (Fe _),Nat.sub_self,Fh];simp [Hj]
theorem i_ (m a ys) (d:Nat) (f:Bool) (c:List Int) (g:c.length=1024) (i:ax m a ys d ((a+d)/1024)=some (f,c)) :
  ∀ l,(a+d)%1024+l<=1024->d+l<=ys.length->ax m a ys (d+l)=eb (ax m a ys d) ((a+d)/1024) (some (f,splice c ((a+d)%1024) ((ys.drop d).take l)))
 | 0,_,_=>by
  have e:splice c ((a+d)%1024) ((ys.drop d).take 0)=c:=by simp [splice]
  rw [e,Gt,vB _ _ _ i]
 | l+1,p,q=>by
  have e:=i_ m a ys d f c g i l Z Z
  have j:ax m a ys (d+(l+1))=dX (ax m a ys (d+l)) (a+(d+l)) (ys[d+l]?.getD 0):=rfl
  have k:(a+(d+l))/1024=(a+d)/1024:=Z
  have n:(a+(d+l))%1024=(a+d)%1024+l:=Z
  rw [j,e]
  unfold dX
  rw [k,n,bL,tf]
  simp only [GW]
  have b:((ys.drop d).take l).length=l:=bK
  have o:(ys.drop d).take (l+1)=(ys.drop d).take l++[ys[d+l]?.getD 0]:=by
   rw [FN,Iz,Fj Z];rfl
  rw [o,<-qp _ _ _ _ (by rw [b,g];omega),b]
theorem pq (l) (b c:List Int) (a:Nat) (f:b.length=1024) (h:a+c.length<=1024):(splice (ew l b).toList a (Ns .u8 c)).toArray=ew l (splice b a c):=by
 unfold ew splice;have d:a<=(Ns .u8 b).length:=by simp [Ns];omega
 have e:a+c.length<=(Ns .u8 b).length:=by simp [Ns];omega
 dsimp only;rw [Ih d,bo,List.drop_append_of_le_length e];simp [Ns]
attribute [local go_sem] Oper.semAt_some
def pt (m:Nat->Option (Bool×List Int)) (p:Nat) (e:List Int):Nat->Option (Bool×List Int):=eb m (p/1024) ((m (p/1024)).map λq=>(q.1,splice q.2 (p%1024) e))
def stF (m:Nat->Option (Bool×List Int)) (a n:Nat) (ys:List Int) (e:List { d:Nat // d<n }):Nat×(Nat->Option (Bool×List Int)) :=
 e.foldl (λs x=>(s.1+min (ct a n x.1) (n-s.1),pt s.2 (a+x.1) ((ys.drop s.1).take (min (ct a n x.1) (n-s.1))))) (0,m)
theorem pY (m a) (n:Nat) (ys) (b:List { d:Nat // d<n }) (x : { d:Nat // d<n }) :
  stF m a n ys (b++[x])=((stF m a n ys b).1+min (ct a n x.1) (n-(stF m a n ys b).1),pt (stF m a n ys b).2 (a+x.1) ((ys.drop (stF m a n ys b).1).take (min (ct a n x.1) (n-(stF m a n ys b).1)))):=by
 simp [stF]
theorem tV (a n:Nat) (c:List Int):∀ (b:List { d:Nat // d<n }) (s:Nat×(Nat->Option (Bool×List Int))),s.1<=n->(b.foldl (λs x=>(s.1+min (ct a n x.1) (n-s.1),pt s.2 (a+x.1) ((c.drop s.1).take (min (ct a n x.1) (n-s.1))))) s).1<=n
 | [],s,h=>h
 | x::b,s,h=>by
  rw [List.foldl_cons]
  exact tV a n c b _ iK
theorem BK (m a) (n:Nat) (ys) (b:List { d:Nat // d<n }):(stF m a n ys b).1<=n:=tV a n ys b _ (Fs _)
theorem oC (a n d:Nat):(a+d)%1024+ct a n d<=1024:=by unfold ct;omega
def Full (m:Nat->Option (Bool×List Int)):Prop:=∀ k q,m k=some q->q.2.length=1024
theorem lG (b c:List Int) (a:Nat) (h:a+c.length<=b.length):(splice b a c).length=b.length:=length_splice _ _ _ h
theorem Full.lay (h:Full m) (p:Nat) (b:List Int) (d:p%1024+b.length<=1024):Full (pt m p b):=by
 intro k q e;unfold pt at e;by_cases c:k=p/1024
 ·subst c;rw [bL] at e;cases a:m (p/1024) with
  | none=>rw [a] at e;cases e
  | some r =>
   rw [a] at e;simp only [GW,GY] at e;subst e;dsimp only;rw [lG _ _ _ (by rw [h _ _ a];exact d)];exact h _ _ a
 rw [aV _ _ _ _ c] at e;exact h k q e
theorem Full.store {m} (h:Full m) (a ys):∀ k,Full (ax m a ys k)
 | 0=>h
 | k+1=>by
  intro j q e
  have d:=Full.store h a ys k
  have b:dX (ax m a ys k) (a+k) (ys[k]?.getD 0) j=some q:=e
  unfold dX at b
  by_cases f:j=(a+k)/1024
  ·subst f
   rw [bL] at b
   cases c:ax m a ys k ((a+k)/1024) with
   | none=>rw [c] at b;cases b
   | some r =>
    rw [c] at b
    simp only [GW,GY] at b
    subst b
    simp
    exact d _ _ c
  rw [aV _ _ _ _ f] at b
  exact d j q b
theorem Got.stF {b:List Int} {c:List { d:Nat // d<n }} {d:Nat} (s:b.length=n) (l:Full m) (o:∀ d,d<n->(m ((a+d)/1024)).isSome=true) (h:Got a n c d):stF m a n b c=(d,ax m a b d):=by
 induction h with
 | zero=>rfl
 | @next c d h i g =>
  rw [pY,g];have t:=pF (a:=a) i;have p:min (ct a n d) (n-d)=ct a n d:=Z;dsimp only;rw [p];congr 1;have f:(ax m a b d ((a+d)/1024)).isSome=true:=by
   have:∀ k j,(ax m a b k j).isSome=(m j).isSome:=by
    intro k;induction k with
    | zero=>intro j;rfl
    | succ k g =>
     intro j;show (dX (ax m a b k) (a+k) (b[k]?.getD 0) j).isSome=_;unfold dX;by_cases e:j=(a+k)/1024;·subst e;rw [bL,Option.isSome_map];exact g _
     rw [aV _ _ _ _ e];exact g j
   rw [this];exact o d i
  obtain⟨q,e⟩:=Option.isSome_iff_exists.1 f;obtain⟨j,k⟩:=q;have r:=(l.store a b d) _ _ e;rw [i_ m a b d j k r e (ct a n d) (oC a n d) Z];unfold pt;rw [e];rfl
attribute [local go_sem] Oper.semAt_some
theorem Sd.keep {mm} {o:World} {DB p c} {k:Option Nat} (h:Sd S M st nn bud f mm w DB p n cap c W) (d:W.grownBy o k) (q:∀ r,k=some r->w.heap.size<=r/\∀ i t z,W.heap[r]?≠some (.cells i t z)):Sd S M st nn bud f mm w DB p n cap c o:=by
 have s:∀ (b:Nat) (i:Array Value) (t:TypeId) (z:Nat×Nat),W.heap[b]?=some (Obj.cells i t z)->o.heap[b]?=some (Obj.cells i t z):=by
  intro b i t z m;rw [d.block b (GL m) (λe=>(q b e.symm).2 i t z m)];exact m
 have v:o.heap[M]?=W.heap[M]?:=d.block M (Fq h.mlt h.fr.size) (λe=>by have:=(q M e.symm).1;have:=h.mlt;omega);refine⟨⟨s _ _ _ _ h.im.box,?_⟩,⟨?_,h.pg.inj⟩,?_,?_,h.mlt,h.dge⟩;·obtain⟨a,⟨j,g,m,l⟩,r⟩:=h.im.map;exact⟨a,⟨j,g,v.trans m,l⟩,r⟩
 ·intro j;rcases h.pg.at' j with a|⟨b,l,x,a,g,u,y⟩;·exact .inl a
  exact .inr ⟨b,l,x,a,g,u,s _ _ _ _ y⟩
 ·exact⟨d.os.trans h.fr.os,d.tape.trans h.fr.tape,d.output.trans h.fr.output,Fg h.fr.size d.size,λj l a g u=>by
   rw [d.block j (Fq l h.fr.size) (λe=>by have:=(q j e.symm).1;omega)];exact h.fr.block j l a g u,h.fr.made⟩
 obtain⟨l,a,g⟩:=h.box;exact⟨l,s _ _ _ _ a,g⟩
theorem Sd.piece {mm DB p c ys b} {x:Nat} (h:Sd S M st nn bud f mm w DB p n cap c W) (hc:c<=n) (a7:n<=cap) (T:Da S M f w p n ys) (O:f ((a+x)/1024)=some g) (hx:x<n) (V:Cl S b a n W) :
  ∃ y,W.heap[DB]?=some (.cells #[.slice y (n-c) (cap-c)] 22)/\∃ s r,(Builtin.copy_ #[22,22] 3 #[.slice (some ⟨g,(a+x)%1024,none⟩) (ct a n x) (1024-(a+x)%1024),.slice y (n-c) (cap-c)]).run prog W.drew=.ok (I (min (ct a n x) (n-c):Nat)) s /\
   (∀ w:World,(Instr.slice 22 (.slice y (n-c) (cap-c)) (some (I (min (ct a n x) (n-c):Nat))) none none).run prog w=.ok (.slice r (n-(c+min (ct a n x) (n-c))) (cap-(c+min (ct a n x) (n-c)))) w) /\
   s.cell? ⟨DB,0,none⟩=some (.slice y (n-c) (cap-c))/\s.frozen? ⟨DB,0,none⟩=false /\
   Sd S M st nn bud f (pt mm (a+x) ((ys.drop c).take (min (ct a n x) (n-c)))) w DB p n cap (c+min (ct a n x) (n-c)) (s.setCell ⟨DB,0,none⟩ (.slice r (n-(c+min (ct a n x) (n-c))) (cap-(c+min (ct a n x) (n-c))))) /\
   Kp S M b W (s.setCell ⟨DB,0,none⟩ (.slice r (n-(c+min (ct a n x) (n-c))) (cap-(c+min (ct a n x) (n-c)))))/\KeepsOthers W (s.setCell ⟨DB,0,none⟩ (.slice r (n-(c+min (ct a n x) (n-c))) (cap-(c+min (ct a n x) (n-c))))):=by
 obtain⟨y,i,G⟩:=h.box;obtain⟨k,hk⟩:∃ k,k=min (ct a n x) (n-c):=⟨_,rfl⟩;rw [<-hk];have a8:=oC a n x;have a9:=ma (a:=a) hx;obtain⟨l,X,hm,A,P⟩:=h.pg.cell O;have m:((ys.drop c).take k).length=k:=by rw [G0,List.length_drop,T.1];omega
 obtain⟨s,hr,K,u⟩:=sH W.drew (some ⟨g,(a+x)%1024,none⟩) y (ct a n x) (1024-(a+x)%1024) (n-c) (cap-c) g ((a+x)%1024) (ew l X).toList 194 (by rw [show W.drew.heap=W.heap from rfl];simpa using P) (Ns .u8 ((ys.drop c).take k)) (by rw [bo,m,hk];exact Nat.min_comm _ _) (λo=>by
  rw [bo,m] at o;obtain⟨Q,Y,e2⟩:=G Z;refine⟨rfl,_,e2,λj v d=>?_⟩;have e:j<k:=by
   by_cases e:j<k;·exact e
   rw [Ft (by rw [bo,m];omega)] at d;cases d
  obtain⟨q,B,e4⟩:=T.cell h.fr (c+j) Z;rw [Y] at B;cases B;rw [Addr.add_add];have:W.drew.cell? (Q.add (c+j))=W.cell? (Q.add (c+j)):=rfl;rw [this,e4,<-d];simp [Ns,e];have:c+j<ys.length:=by rw [T.1];omega
  simp [this]) (by rw [bo,m];simp [ew,Ns,A];omega) (λv d=>by
   simp only [Ns,FC] at d;obtain⟨z,_,rfl⟩:=d;rfl)
 rw [bo,m] at hr;rw [pq _ _ _ _ A (by rw [m];omega)] at K;obtain⟨r,a0,L⟩:=xC y k (n-c) (cap-c) Z Z;obtain⟨a1,a2⟩:=h.pg.apart h.im O;have a3:g≠DB:=λe=>by subst e;rw [P] at i;simp at i
 have d:W.grownBy s (some g):=⟨u.os,u.tape,u.output,u.size,u.block⟩;have o:s.heap[DB]?=some (.cells #[.slice y (n-c) (cap-c)] 22):=by rw [d.block DB (GL i) (by simpa using a3.symm)];exact i
 have F:s.grownBy (s.setCell ⟨DB,0,none⟩ (.slice r (n-(c+k)) (cap-(c+k)))) (some DB):=au (ar s DB) 0 _;have a4:DB≠S:=λe=>by rw [e,h.im.box] at i;simp at i
 have N:DB≠M:=by have:=h.mlt;have:=h.dge;omega
 have Y:n-c-k=n-(c+k):=Z;have e2:cap-c-k=cap-(c+k):=Z;refine⟨y,i,s,r,hr,λW=>by rw [a0 W,Y,e2],by simp [World.cell?,o],by simp [World.frozen?,o],⟨?_,?_,?_,?_,h.mlt,h.dge⟩,⟨?_,?_⟩,?_⟩;·exact (h.im.grownAt d a1 a2).grownAt F a4 N
 ·have q:=h.pg.lay O (l:=l) (xs:=splice X ((a+x)%1024) ((ys.drop c).take k)) (by rw [lG _ _ _ (by rw [m,A];omega),A]) K d;have B:pt mm (a+x) ((ys.drop c).take k)=eb mm ((a+x)/1024) (some (l,splice X ((a+x)%1024) ((ys.drop c).take k))):=by
   unfold pt;rw [hm];rfl
  rw [B];refine⟨?_,q.inj⟩;intro j;rcases q.at' j with t|⟨b2,l2,v,t,h2,h3,R⟩;·exact .inl t
  refine .inr ⟨b2,l2,v,t,h2,h3,?_⟩;rw [F.block b2 (GL R) (λe=>by cases e;rw [R] at o;simp at o)];exact R
 ·exact (h.fr.grownAt d (.inl ⟨_,O⟩)).grownAt F (.inr h.dge)
 ·refine⟨r,by rw [bj o];rfl,λv=>?_⟩;obtain⟨Q,B,e4⟩:=G Z;refine⟨Q,B,?_⟩;rw [L Z,e4];simp [Addr.add_add]
 ·exact Fg d.size F.size
 ·have q:∀ (b:Nat) (cs:Array Value) (t:TypeId) (z:Nat×Nat),W.heap[b]?=some (Obj.cells cs t z)->t≠194->t≠22->(s.setCell ⟨DB,0,none⟩ (.slice r (n-(c+k)) (cap-(c+k)))).heap[b]?=W.heap[b]?:=by
   intro R cs t z b a5 a6;have n1:R≠g:=λe=>by subst e;rw [P] at b;cases b;exact a5 rfl
   have n2:R≠DB:=λe=>by subst e;rw [i] at b;cases b;exact a6 rfl
   rw [F.block R (Fq (GL b) d.size) (by simpa using n2),d.block R (GL b) (by simpa using n1)]
  rintro g' (rfl|rfl|rfl|rfl|rfl);·exact q _ _ _ _ h.im.box av av
  ·have v:=Fq h.mlt h.fr.size;rw [F.block _ (Fq v d.size) (by simpa using N.symm),d.block _ v (by simpa using a2.symm)]
  ·exact q _ _ _ _ V.s av av
  ·exact q _ _ _ _ V.a av av
  exact q _ _ _ _ V.n av av
 exact (KeepsOthers.of_grownBy d (λj o e b=>by cases e;rw [P] at b;cases b;rfl)).trans (KeepsOthers.setCell _ _ _)
attribute [local go_sem] Oper.semAt_some
theorem Sd.init (g:Im S M st nn bud f w) (i:Pg f m w) (p:Option Addr) (n cap:Nat) (c:0<n->∃ x,p=some x):Sd S M st nn bud f m w w.heap.size p n cap 0 (w.alloc (.cells #[.slice p n cap] 22)):=by
 have d:=GH w (.cells #[.slice p n cap] 22) none;refine⟨g.grown d,i.grown d,Fr.ofGrown d,⟨p,(G_ w _).1,λh=>?_⟩,?_,Fe _⟩;·obtain⟨x,e⟩:=c h;exact⟨x,e,by rw [e];simp [Addr.add]⟩
 obtain⟨a,b,_⟩:=g.map;exact b.lt
theorem yt (S M st nn bud f m) (a n cap:Nat) (p v w) (r:Im S M st nn bud f w) (j:Pg f m w) (hn:n<=4096) (T:n<=cap) (ha:n=0\/a+n<=4611686018427387904) (o:Da S M f w p n v) (c:∀ d,d<n->∃ g,f ((a+d)/1024)=some g) (h:∀ w,Im S M st nn bud f w->Pg f m w->Calls prog 228 #[J S 0,U a,I n] w λe V=>e=.returned (I 0)/\V=w) :
  CallsIn Fence.wide 5 prog 182 #[J S 0,U a,.slice p n cap] w λe V=>e=.returned (I 0)/\Im S M st nn bud f V/\Pg f (ax m a v n) V/\Fr S M f f w V:=by
 have H1:=H h;have HI:=H (IB r j);have HP:=H c;have HD:=H o;have FU:=H (show Full m from λk q e=>by
  rcases j.at' k with ⟨_,P⟩|⟨b,l,xs,_,P,h3,_⟩;·rw [P] at e;cases e
  rw [P] at e;cases e;exact h3)
 have SO:=H (show ∀ d,d<n->(m ((a+d)/1024)).isSome=true from λd o=>by
  obtain⟨g,F⟩:=c d o;rw [<-j.none_iff,F];rfl)
 have k:0<n->∃ x,p=some x:=λh0=>by obtain ⟨x,e,_⟩:=o.2 0 h0;exact⟨x,e⟩
 have i:=H (Sd.init r j p n cap k);clear h r j c o k;refine callsIn_of_wp_marks func182 rfl trivial ?_ rfl;simp only [ntmps182,FA,Fx,FH,Nat.reduceAdd,Nat.reduceSub,Fw,Fv,FB,Ic,Fy,FJ]
 gi_wp2_with fail
 refine⟨trivial,?_⟩;refine ((callsIn_wide (n:=4)).2 (H1 _ (HI.1.alloc _) (HI.2.alloc _))).mono ?_;rintro _ _ ⟨rfl,rfl⟩
 gi_wp2_with fail
 refine⟨trivial,?_⟩;obtain⟨q,c⟩:∃ q,w.alloc (.cells #[.slice p n cap] 22)=q:=⟨_,rfl⟩;obtain⟨Q,L⟩:∃ Q,w.heap.size=Q:=⟨_,rfl⟩;have k:q.heap.size=Q+1:=by rw [<-c,<-L];simp
 have HZ:=H k;clear k;rw [c,L] at i;rw [c,L];clear c;refine ((callsIn_wide (n:=4)).2 (om _ _ _ _)).mono ?_;rintro e w4 ⟨rfl,rfl⟩;gi_wp2;have X:=H (Cl.made S a n q);have j:=eE (GH q (.cells #[J S 0] 77) none) (eE (GH _ (.cells #[U a] 23) none) (GH _ (.cells #[I n] 3) none));have Y:=H (i.keep j (λr e=>by cases e));have h4:q.heap.size+1+1+1=(((q.alloc (.cells #[J S 0] 77)).alloc (.cells #[U a] 23)).alloc (.cells #[I n] 3)).heap.size:=bF;have hS:=Fq (GL HI.1.box) i.fr.size;have hM:=Fq i.mlt i.fr.size;obtain⟨R,c⟩:∃ R,((q.alloc (.cells #[J S 0] 77)).alloc (.cells #[U a] 23)).alloc (.cells #[I n] 3)=R:=⟨_,rfl⟩;rw [c] at X Y h4;rw [c];clear j c i;have k:=HZ.out;refine wpIn_rangeFunc_ownF rfl Z (gf:=250) (lb:=#[J (q.heap.size+1+1) 0,J (q.heap.size+1) 0,J q.heap.size 0]) rfl trivial (enters_of func250 E rfl)
  (encs:=λx : { d:Nat // d<n }=>vi f a n x.1) (Kp:=Kp S M q.heap.size) (S:=λv=>Got a n v n) (Sp:=λj=>∃ d,Got a n j d) (N:=n) (w0:=R)
  (λl c i W d o s s h0=>nX S M st nn bud f a n l q.heap.size 4 Z hn ha HP c i W o s (X.kp (Kp.below (M:=M) (N:=R.heap.size) d Z Z Z)) (Y.im.kp (Kp.below (N:=R.heap.size) (b:=q.heap.size) d Z Z Z)) h0)
  Kp.trans (λW l o c y h _ _=>wO (S:=S) (M:=M) (b:=q.heap.size) (N:=R.heap.size) Z Z Z W l o c y h) (Fc _ _) (λ_=>rfl)
  (λj W=>Sd S M st nn bud f (stF m a n v j).2 w Q p n cap (stF m a n v j).1 W/\Cl S q.heap.size a n W)
  (λc j W=>False)
  ?own (λc s A B a0 d F hr=>d) ⟨Y,X⟩
  (λx=>{ tmps:=#[J S 0,U a,.slice p n cap,undef,undef,J Q 0,I 0,I 0,.slice (some ⟨(f ((a+x.1)/1024)).getD 0,(a+x.1)%1024,none⟩) (ct a n x.1) (1024-(a+x.1)%1024),J S 0,U a,.slice p n cap,I n,I 0,I 0,.bool false,undef,J S 0,U a,.slice p n cap,I n,.func (.func 250) #[] #[J (q.heap.size+1+1) 0,J (q.heap.size+1) 0,J q.heap.size 0],.slice (some ⟨(f ((a+x.1)/1024)).getD 0,(a+x.1)%1024,none⟩) (ct a n x.1) (1024-(a+x.1)%1024),undef,undef,undef,undef,undef],defers:=[] }) ?assign ?body ?done ?stop
 case own =>
  rintro s A B a0 ⟨y,u⟩ F hr;have K:∀ r,a0=some r->w.heap.size<=r/\∀ O t z,A.heap[r]?≠some (.cells O t z):=by
   intro r e;obtain⟨i,o,P,h3⟩:=hr r e;refine⟨Z,λO t z h5=>?_⟩;rw [h5] at P;cases P;cases h3
  have G:∀ (b:Nat) (O:Array Value) (t:TypeId) (z:Nat×Nat),A.heap[b]?=some (Obj.cells O t z)->B.heap[b]?=A.heap[b]?:=λb O t z i=>F.block b (GL i) (λe=>(K b e.symm).2 O t z i)
  exact⟨y.keep F K,(G _ _ _ _ u.s).trans u.s,(G _ _ _ _ u.a).trans u.a,(G _ _ _ _ u.n).trans u.n⟩
 case assign =>
  intro l x W K hK;clear k;unfold vi;gi_wp2;exact hK
 case stop =>
  intro i c j W _ _ h;exact h.elim
 case body =>
  rintro l j x W ⟨y,u⟩ a3;obtain⟨g,F⟩:=HP.out x.1 x.2;obtain⟨pd,G,W1,a4,a5,a6,a7,a8,a1,K,a2⟩:=y.piece (BK m a n v j) T HD F x.2 u;have HR:=H (IB a1 (IB K (IB a2 (u.kp K))));have c0:W.cell? ⟨Q,0,none⟩=some (.slice pd (n-(stF m a n v j).1) (cap-(stF m a n v j).1)):=by simp [World.cell?,G]
  rw [F];simp only [Hb];have ES:=H (pY m a n v j x);clear y u G a1 K a2 Y X k h4;gi_wp2
  gi_region
  all_goals
   gi_wp2
   refine⟨HR.2.2.1,HR.2.1,?_,HR.2.2.2⟩
   rw [ES.out]
   exact HR.1
 case done =>
  rintro i xs W hD G ⟨y,u⟩ hK;rw [Got.stF HD.1 FU.out SO.out G] at y;have g3:=grownBy_putObj' W i (.deferred none);have K:=y.keep g3 (λr e=>by cases e;exact⟨Z,λO t z h5=>by rw [hK] at h5;cases h5⟩);have HF:=H K;clear y u K g3 Y X k h4;gi_wp2;refine⟨bF,.inl ⟨_,_,rfl,run_takeDeferred hK,?_⟩⟩;refine⟨I 0,?_,rfl,HF.im,HF.pg,HF.fr⟩;simp [results,Tryz.f182,go_sem]
end
section
open Go.ChangeShapes Go.WideShapes Go.ChangeAt Go.RowKit
def Mx (w:World) (M r G:Nat) (mix:List Int):Prop:=w.heap[M]?=some (.cells #[Vl r mix.length mix.length,I (0:Nat),I mix.length,.iface 82 (J G 0)] 169)/\RowV w r 3 (Ns .i64 mix)
theorem Mx.but {S w w' M r G mix} (h:Mx w M r G mix) (a:But S w w') (b:¬S M) (c:¬S r):Mx w' M r G mix :=
 ⟨a.at h.1 b,h.2.but a c⟩
structure Qr (w:World) (M rm G rq n:Nat) (mix fifo:List Int):Prop where
 mx:Mx w M rm G mix
 qu:Qu w G rq n fifo
 ne:rm≠rq
theorem Qr.sep {rm G rq} (h:Qr w M rm G rq n mix fifo):M≠G/\M≠rq/\M≠rm/\G≠rm/\G≠rq:=by
 obtain⟨⟨a,b⟩,⟨ps,o,f,c,d,_⟩,e⟩:=h;refine⟨?_,d.ne a av,b.ne a av,b.ne c av,d.ne c av⟩;rintro rfl;rw [a] at c;simp at c
theorem Qr.but {S w w' M rm G rq n mix fifo} (h:Qr w M rm G rq n mix fifo) (a:But S w w') (b:¬S M) (c:¬S rm) (d:¬S G) (e:¬S rq):Qr w' M rm G rq n mix fifo :=
 ⟨h.mx.but a b c,h.qu.but a d e,h.ne⟩
def Qs (e G rq:Nat):Nat->Prop:=λk=>k=e\/k=G\/k=rq
theorem CZ (M rm G rq n mix fifo x d w) (h:Qr w M rm G rq n mix fifo) (l:mix≠[]) (i:mix.length<=1024) (m:n<=1024) :
  Calls prog 270 #[J M 0,I x,I d] w λe a=>∃ z,e=.returned (I z)/\z=(er n mix fifo x d).2.2/\Qr a M rm G rq n (er n mix fifo x d).1 (er n mix fifo x d).2.1/\But (Qs rm G rq) w a:=by
 have r:0<mix.length:=List.length_pos_iff.2 l;obtain⟨t,u,s,o,B⟩:=h.sep;have b:(mix.set (md d mix.length) x).length=mix.length:=bF;by_cases j:mix[md d mix.length]?.getD 0 = -1;·refine (qk M G rm mix.length _ mix x d w h.mx.1 h.mx.2 rfl r i rfl j).mono ?_;rintro e a ⟨rfl,p,c⟩;unfold er;rw [Gu l,Gv j];have f:But (Qs rm G rq) w a:=.ofGrown c (.inl rfl);refine⟨_,rfl,rfl,⟨⟨?_,p⟩,h.qu.but (But.ofGrown (S:=λk=>k=rm) c rfl) o (λe=>h.ne e.symm),h.ne⟩,f⟩;rw [b];exact fa c h.mx.1 s
 refine (wj M G rm mix.length _ mix x d w h.mx.1 h.mx.2 rfl r i rfl _ rfl j (λv a=>v=I (er n mix fifo x d).2.2/\Qr a M rm G rq n (er n mix fifo x d).1 (er n mix fifo x d).2.1/\But (Qs rm G rq) w a) (λv p c=>?_)).mono ?_
 ·have y:=h.qu.but (But.ofGrown (S:=λk=>k=rm) c rfl) o (λe=>h.ne e.symm);refine (Av G rq n fifo _ d v y m).mono ?_;rintro e a ⟨rfl,A,q⟩;refine⟨_,rfl,?_,?_,?_⟩;·unfold er;rw [Gu l,Gu j]
  ·unfold er;rw [Gu l,Gu j];refine⟨⟨?_,p.but q (λf=>f.elim (λe=>o e.symm) (λe=>h.ne e))⟩,A,h.ne⟩;rw [b];exact q.at (fa c h.mx.1 s) (λf=>f.elim (λe=>t e) (λe=>u e))
  exact (But.ofGrown c (.inl rfl)).trans (q.mono (λg f=>f.elim (λe=>.inr (.inl e)) (λe=>.inr (.inr e))))
 rintro e a ⟨z,rfl,q,f,y⟩;simp at q;exact⟨z,rfl,q,f,y⟩
def qv (M G:Nat) (mix:List Int):Value:=.agg #[J M 0,J G 0,if mix.length=0 then .iface 82 (J G 0) else .iface 81 (J M 0)]
theorem lC (w:World) (A B:Obj):(((w.alloc A).alloc B).heap[w.heap.size]?=some A)/\(((w.alloc A).alloc B).heap[w.heap.size+1]?=some B)/\D w ((w.alloc A).alloc B):=by
 have b:=dD w A;have a:=dD (w.alloc A) B;rw [db] at a;exact⟨lj b B,a,((Fc _ w).alloc (Fe _) A).alloc (by rw [db];omega) B⟩
theorem ae {w'} {o:Obj} (h:w.heap[g]?=some o) (a:D w w'):w'.heap[g]?=some o:=by
 rw [a.block g (dI h)];exact h
theorem xA {k:Nat} {A B:Obj} (c:W.heap[g]?=some A) (b:W.heap[k]?=some B) (a:A≠B):g≠k:=by
 rintro rfl;rw [c] at b;cases b;exact a rfl
theorem zj (am lm cm af lf cf) (n:Nat) (mix fifo w) (h:Wt w am lm af lf mix fifo) (hm:lm<=16) (hn:1<=n/\n<=32) (F:lf<=n) :
  Calls prog 62 #[wv am lm cm af lf cf (n:Nat)] w λe K=>∃ M a G c,e=.returned (qv M G mix)/\Qr K M a G c n mix fifo/\(w.heap.size<=M/\w.heap.size<=a/\w.heap.size<=G/\w.heap.size<=c)/\D w K:=by
 unfold wv;have b:=H (lC w (.cells #[.slice am lm cm,.slice af lf cf,I n] 68) (.cells #[.pointer none,.pointer none,.nilIface] 86));have i:=H (lN n lf cf af fifo _ h.fl F Z (h.f.below b.2.2));have v:=H (λW (d:D w W)=>lN lm lm cm am mix W h.ml (Fe _) Z (h.m.below d));have q:=H h.ml;have L:=H h.fl;clear h;go_enter func62,ntmps62;go_wp2_with fail;refine (i).mono ?_;rintro e j ⟨c,rfl,f,k,d⟩;have l:=H (az b.2.2 d);have r:=H (ae b.1 d);have x:=H (ae b.2.1 d);have p:=H f;have N:=H (show w.heap.size<=c/\c<j.heap.size from ⟨by have:=b.2.2.size;omega,f.lt⟩);clear d f k i b;have d:=H ((Fc _ j).alloc (Fe _) (.cells #[Vl c n n,I 0,I lf] 167));have O:(j.alloc (.cells #[Vl c n n,I 0,I lf] 167)).cell? ⟨w.heap.size,0,none⟩=some (.slice am lm cm):=by rw [Gz _ _ _ _ _ _ (ae r.out d.out)];rfl
 go_wp2_with fail;refine (v _ (az l d)).mono ?_;rintro e b ⟨a,rfl,y,s,k⟩;clear O;have L1:=l.size;have P:=H (ae (dD j (.cells #[Vl c n n,I 0,I lf] 167)) k);have f:=H ((p.below d p.lt).below k (Fq p.lt d.size));have t:=H (az (az l d) k);have Q:=H (ae (ae r d) k);have R:=H (ae (ae x d) k);have m:=H (show a≠c by have:=N.2;rw [db] at s;omega);have o:=H (show w.heap.size<=a by rw [db] at s;omega);have u:=H y;have S:=H (show w.heap.size<=j.heap.size by have:=l.size;omega);generalize j.heap.size=G at *;have i:=H ((Fc _ b).alloc (Fe _) (.cells #[Vl a lm lm,I 0,I lm,.iface 82 (J G 0)] 169));clear r x k y s l d p v;have T:=H (ae Q i);have d:=H (ae R i);have r:=H (dD b (.cells #[Vl a lm lm,I 0,I lm,.iface 82 (J G 0)] 169));have s:=H (ae P i);have v:=H (f.below i f.lt);have x:=H (u.below i u.lt);have y:=H (az t i);have V:=H t.size;have O:(b.alloc (.cells #[Vl a lm lm,I 0,I lm,.iface 82 (J G 0)] 169)).cell? ⟨w.heap.size,0,none⟩=some (.slice am lm cm):=bY T.out;have d0:(b.alloc (.cells #[Vl a lm lm,I 0,I lm,.iface 82 (J G 0)] 169)).cell? ⟨w.heap.size+1,0,none⟩=some (.pointer none):=bY d.out;have d1:(b.alloc (.cells #[Vl a lm lm,I 0,I lm,.iface 82 (J G 0)] 169)).cell? ⟨w.heap.size+1,1,none⟩=some (.pointer none):=bY d.out;have d2:(b.alloc (.cells #[Vl a lm lm,I 0,I lm,.iface 82 (J G 0)] 169)).cell? ⟨w.heap.size+1,2,none⟩=some .nilIface:=bY d.out;have f0:(b.alloc (.cells #[Vl a lm lm,I 0,I lm,.iface 82 (J G 0)] 169)).frozen? ⟨w.heap.size+1,0,none⟩=false:=GG _ _ _ _ _ d.out;have f1:(b.alloc (.cells #[Vl a lm lm,I 0,I lm,.iface 82 (J G 0)] 169)).frozen? ⟨w.heap.size+1,1,none⟩=false:=GG _ _ _ _ _ d.out;have f2:(b.alloc (.cells #[Vl a lm lm,I 0,I lm,.iface 82 (J G 0)] 169)).frozen? ⟨w.heap.size+1,2,none⟩=false:=GG _ _ _ _ _ d.out;have FIN:=H (show ∀ z A B:Value,∀ l,l=(((b.alloc (.cells #[Vl a lm lm,I 0,I lm,.iface 82 (J G 0)] 169)).setCell ⟨w.heap.size+1,0,none⟩ z).setCell ⟨w.heap.size+1,1,none⟩ A).setCell ⟨w.heap.size+1,2,none⟩ B->Qr l b.heap.size a G c n mix fifo/\(w.heap.size<=b.heap.size/\w.heap.size<=a/\w.heap.size<=G/\w.heap.size<=c)/\D w l from ?FIN);case FIN =>
  rintro z A B l rfl;have X:But (λk=>k=w.heap.size+1) (b.alloc (.cells #[Vl a lm lm,I 0,I lm,.iface 82 (J G 0)] 169)) ((((b.alloc (.cells #[Vl a lm lm,I 0,I lm,.iface 82 (J G 0)] 169)).setCell ⟨w.heap.size+1,0,none⟩ z).setCell ⟨w.heap.size+1,1,none⟩ A).setCell ⟨w.heap.size+1,2,none⟩ B):=(((But.refl (λk=>k=w.heap.size+1) (b.alloc (.cells #[Vl a lm lm,I 0,I lm,.iface 82 (J G 0)] 169))).set _ _ _ rfl).set _ _ _ rfl).set _ _ _ rfl;have Y:Qr (b.alloc (.cells #[Vl a lm lm,I 0,I lm,.iface 82 (J G 0)] 169)) b.heap.size a G c n mix fifo:=by
   refine⟨⟨by rw [q.out];exact r,?_⟩,⟨_,0,lf,s,v,?_,?_,F,λ_=>rfl,?_⟩,m⟩
   ·have:=x.out;rwa [Nat.sub_self,List.replicate_zero,F4] at this
   ·rw [Fo,FO,L.out];omega
   ·omega
   rw [Io,List.take_zero,F4,<-L.out,Ih (Fe _),GK]
  have p:=d.out;have n1:=xA r p bF;have n2:a≠w.heap.size+1:=(x.ne p av).symm;have n3:=xA s p bF;have n4:c≠w.heap.size+1:=(v.ne p av).symm;exact⟨Y.but X n1 n2 n3 n4,⟨V,o,S,N.1⟩,y.trans (X.below y.size (λg e=>Z))⟩
 clear T r s v x y V P f o S u i t Q R m;by_cases f:lm=0
 ·have i:qv b.heap.size G mix=.agg #[J b.heap.size 0,J G 0,.iface 82 (J G 0)]:=by unfold qv;rw [q.out,Gv f]
  have k:=H i;have m:((lm:Int)==0)=true:=by simp [f]
  clear i f;go_wp2;refine GF (Ga ef _ _ (w.heap.size+1) 86 _ (0,0) _ ef (set3 d _ _ _) underlying86 rfl E) ef ?_;exact⟨b.heap.size,a,G,c,by rw [k.out],FIN _ _ _ _ rfl⟩
 have i:qv b.heap.size G mix=.agg #[J b.heap.size 0,J G 0,.iface 81 (J b.heap.size 0)]:=by unfold qv;rw [q.out,Gu f]
 have k:=H i;have m:((lm:Int)==0)=false:=bK;clear i f;go_wp2;refine GF (Ga ef _ _ (w.heap.size+1) 86 _ (0,0) _ ef (set3 d _ _ _) underlying86 rfl E) ef ?_;exact⟨b.heap.size,a,G,c,by rw [k.out],FIN _ _ _ _ rfl⟩
theorem h_ {P:Program} {f:Func} {p q:Tmp} {b:TypeId} (h:f.results=#[.cell p b,.tmp q]) (a:Array Value) (w:World) (g) (t:TypeId) (c:Array Value) (i:Nat×Nat) (d:TypeDesc) (j:a.getD p undef=J g 0) (k:w.heap[g]?=some (.cells c t i)) (l:P.underlying b=some d) (m:(match d with | .struct _ | .array _ _=>true|_=>false)=true) (n:(P.info? b).map (·.size)=some c.size) :
  (results f a).run P w=.ok (.tuple #[.agg c,a.getD q undef]) w:=by
 have e:a[p]?.getD undef=J g 0:=by simpa using j
 simp [results,h,e,asAddr,run_loadVar_row w g t b c i d k l m n]
theorem Qr.below {w' rm G rq} (h:Qr w M rm G rq n mix fifo) (a:D w w'):Qr w' M rm G rq n mix fifo :=
 h.but (But.ofBelow (S:=λ_=>False) a) id id id id
theorem DD (M rm G rq n fifo x d w) (h:Qr w M rm G rq n [] fifo) (b:n<=1024) :
  Calls prog 272 #[J G 0,I x,I d] w λe c=>∃ z,e=.returned (I z)/\z=(er n [] fifo x d).2.2/\Qr c M rm G rq n (er n [] fifo x d).1 (er n [] fifo x d).2.1/\But (Qs rm G rq) w c:=by
 obtain⟨i,j,o,k,p⟩:=h.sep;refine (Av G rq n fifo x d w h.qu b).mono ?_;rintro e c ⟨rfl,l,f⟩;have m:er n [] fifo x d=([],(cQ n fifo x).1,(cQ n fifo x).2):=by unfold er;rw [Gv rfl]
 rw [m];exact⟨_,rfl,rfl,⟨h.mx.but f (λa=>a.elim (λe=>i e) (λe=>j e)) (λa=>a.elim (λe=>k e.symm) (λe=>h.ne e)),l,h.ne⟩,f.mono (λg a=>a.elim (λe=>.inr (.inl e)) (λe=>.inr (.inr e)))⟩
theorem s_ (h:fh mix fifo (n:Nat)=true):mix.length<=16/\1<=n/\n<=32/\fifo.length<=n:=by
 unfold fh at h;simp only [FV,GX] at h;omega
theorem BD (M rm G rq n mix fifo x d w) (h:Qr w M rm G rq n mix fifo) (a:n<=1024) (c:mix.length=0) :
  Calls prog 272 #[J G 0,I x,I d] w λe b=>∃ z,e=.returned (I z)/\z=(er n mix fifo x d).2.2/\Qr b M rm G rq n (er n mix fifo x d).1 (er n mix fifo x d).2.1/\But (Qs rm G rq) w b:=by
 obtain rfl:=List.length_eq_zero_iff.1 c;exact DD M rm G rq n fifo x d w h a
end
section
open Go.RowKit
theorem iU {P:Nat->Bool} : ∀ {n k:Nat},k<n->(∀ j,j<k->P j=false)->P k=true->(List.range n).find? P=some k:=by
 intro n k a b c;rw [Ib];exact⟨c,by simpa using a,λj d=>by simp [b j d]⟩
theorem jK {P:Nat->Bool} (a:∀ j,j<n->P j=false):(List.range n).find? P=none:=by
 rw [List.find?_range_eq_none];intro j b;simp [a j b]
def rC (r:Rg9):List Value:=[U r.base,I r.first,I r.ext,I r.pages,I r.st,I r.rq]
theorem aK {b:Nat} {e:TypeId} {c:Nat} {v:Value} {d:List Value} (h:W.ownsRow b e c v n d):∃ a c,v=.slice a n c:=by
 rcases h.2 with ⟨rfl,f⟩|⟨g,cap,i,rfl,_⟩;·subst f;exact⟨_,_,rfl⟩
 exact⟨_,_,rfl⟩
theorem cn {B:Nat} {e:TypeId} {sz:Nat} {a:Option Addr} {c:List Value} (h:W.ownsRow B e sz (.slice a n cap) n c) (f:0<n):∃ G,a=some ⟨G,0,none⟩:=by
 rcases h.2 with ⟨_,i⟩|⟨g,b,d,e,_⟩;·omega
 simp at e;exact⟨g,e.1⟩
theorem Sh.range {B x cf h W} (d:Sh B x cf h W) {G cap} (e:x.rv=Vl G h.rg.length cap) {k:Nat} {r:Rg9} (f:h.rg[k]?=some r):W.cell? ⟨G,k*6,none⟩=some (U r.base)/\W.cell? ⟨G,k*6+1,none⟩=some (I r.first)/\W.cell? ⟨G,k*6+2,none⟩=some (I r.ext)/\W.cell? ⟨G,k*6+3,none⟩=some (I r.pages)/\W.cell? ⟨G,k*6+4,none⟩=some (I r.st)/\W.cell? ⟨G,k*6+5,none⟩=some (I r.rq):=by
 have a:=eX rC 6 (λ_=>rfl) h.rg k r f;have c:=d.rg;rw [e] at c;have g:=λi v (j:i<6) b=>bC c (k*6+i) v ((a i j).trans b)
 exact⟨g 0 _ Z rfl,g 1 _ Z rfl,g 2 _ Z rfl,g 3 _ Z rfl,g 4 _ Z rfl,g 5 _ Z rfl⟩
def fS (p:Nat):Option Nat:=(List.range 1062).find? λk=>gu k==p
def uh (h:Hs) (i:Nat):Rg9:=(h.rg[i]?).getD ⟨0,0,0,0,0⟩
def fR (h:Hs) (p:Nat):Option Nat:=(List.range h.rg.length).find? λi=>(uh h i).base==p
def fV (h:Hs) (p:Nat):Int×Int×Int :=
 match fS p with
 | some k=>if dB h k=1 then ((k:Int),-1,0) else if dB h k=0 then (-1,-1,3) else (-1,-1,4)
 | none=>match fR h p with
  | some i=>if (uh h i).st=1 then (-1,(i:Int),0) else (-1,-1,4)
  | none=>if h.rel.contains p then (-1,-1,4) else (-1,-1,3)
theorem di {P:Program} {b:Func} {p q r:Tmp} (h:b.results=#[.tmp p,.tmp q,.tmp r]) (a:Array Value) (w:World):(results b a).run P w=.ok (.tuple #[a.getD p undef,a.getD q undef,a.getD r undef]) w:=by
 simp [results,h]
def Cz (t:Int×Int×Int):Value:=.tuple #[I t.1,I t.2.1,I t.2.2]
theorem kT (B x cf h) (p:Nat) (W) (a:Sh B x cf h W) (hn:h.rg.length<=1000) (hl:h.rel.length<=100000) :
  Calls prog 125 #[J x.P 0,U p] W λe W'=>e=.returned (Cz (fV h p))/\D W W':=by
 have c7:W.cell? ⟨x.P,7,none⟩=some (Vl x.G 1062 x.gc):=a.cell 7 _ rfl;have g:=H a;clear a;go_enter func125,ntmps125;go_wp2;go_loopw [18] (λi wr=>∃ k:Nat,k<=1062/\i=I k/\Hid (∀ j,j<k->(gu j==p)=false)/\Hid (D W wr)) (λi _=>1062-(intOf i).toNat);case atStart=>exact ⟨0,Fs _,rfl,H (λj y=>Z),H (Fc _ _)⟩
 case round =>
  obtain⟨k,hk,rfl,N,u⟩:=hrel;by_cases A:k<1062
  ·obtain⟨T,d1,d2,O,d4,d5⟩:=(g.below u).slot A;have d:=H (u.alloc u.size (.cells #[I ((sA k).1:Nat),I ((sA k).2.1:Nat),I ((sA k).2.2:Nat),U (gu k:Nat),I (dB h k),I (fX h k)] 146));by_cases ha:gu k=p
   ·have q:=H (show fV h p=if dB h k=1 then ((k:Int),-1,0) else if dB h k=0 then (-1,-1,3) else (-1,-1,4) by
     unfold fV fS;rw [iU A N.out (by simp [ha])])
    generalize dB h k=z at *;generalize fX h k=V at *;generalize (sA k).2.2=l at *;generalize (sA k).1=m at *;generalize (sA k).2.1=n at *;rw [ha] at O d;by_cases f:z=1;·have a:=H (q.trans (Gv f));subst f;go_wp2;refine GF (di ef _ _) ef ?_;rw [a.out];exact⟨rfl,d⟩
    have P:(z==1)=false:=(by simpa using f);by_cases b:z=0;·have a:=H (q.trans ((Gu f).trans (Gv b)));subst b;go_wp2;refine GF (di ef _ _) ef ?_;rw [a.out];exact⟨rfl,d⟩
    have c:(z==0)=false:=(by simpa using b);have a:=H (q.trans ((Gu f).trans (Gu b)));go_wp2;refine GF (di ef _ _) ef ?_;rw [a.out];exact⟨rfl,d⟩
   have Q:=H (show ∀ j,j<k+1->(gu j==p)=false from λj y=>by
    by_cases e:j=k;·subst e;simpa using ha
    exact N j Z)
   have s:(((gu k:Nat):Int) != (p:Int))=true:=bK;generalize gu k=b at O s d;go_wp2;go_roundw;(case rel=>exact ⟨k+1,Z,aY,Q,d⟩);case measure=>simp [intOf];omega
  obtain rfl:k=1062:=Z;have q:=H (show fS p=none from jK N);obtain⟨ra,rc,b⟩:=aK g.rg;have L:W.cell? ⟨x.P,9,none⟩=some (.slice ra h.rg.length rc):=by rw [<-b];exact g.cell 9 _ rfl
  replace L:=ad u L;obtain⟨v,c⟩:∃ v,h.rg.length=v:=⟨_,rfl⟩;rw [c] at L hn;have l:=H c;have F:=H b;clear c b c7;go_wp2;go_loopw [40] (λi R=>∃ k:Nat,k<=v/\i=I k/\Hid (∀ j,j<k->((uh h j).base==p)=false)/\Hid (D W R)) (λi _=>v-(intOf i).toNat);case atStart=>exact ⟨0,Fs _,rfl,H (λj y=>Z),u⟩
  case round =>
   obtain⟨k,a0,rfl,S,c⟩:=hrel;clear u L;by_cases o:k<v
   ·obtain⟨r,n⟩:∃ r,h.rg[k]?=some r:=⟨_,Fj (by rw [l.out];exact o)⟩;have b:uh h k=r:=(by unfold uh;rw [n];rfl);obtain⟨G,rfl⟩:=cn (F.out▸g.rg) (by rw [l.out];omega);obtain⟨T,d1,d2,O,d4,d5⟩:=(g.below c).range F n;have d:=H (c.alloc c.size (.cells #[U r.base,I r.first,I r.ext,I r.pages,I r.st,I r.rq] 148));by_cases ha:r.base=p
    ·have m:=H (show fV h p=if r.st=1 then (-1,(k:Int),0) else (-1,-1,4) by
      unfold fV;rw [q.out];dsimp only;unfold fR;rw [iU (by rw [l.out];exact o) S.out (by rw [b];simp [ha])];dsimp only;rw [b])
     generalize r.st=z at *;generalize r.rq=V at *;generalize r.ext=t at *;generalize r.base=w at *;subst ha;by_cases f:z=1;·have a:=H (m.trans (Gv f));subst f;go_wp2;refine GF (di ef _ _) ef ?_;rw [a.out];exact⟨rfl,d⟩
     have a:=H (m.trans (Gu f));have P:(z==1)=false:=(by simpa using f);go_wp2;refine GF (di ef _ _) ef ?_;rw [a.out];exact⟨rfl,d⟩
    have Q:=H (show ∀ j,j<k+1->((uh h j).base==p)=false from λj y=>by
     by_cases e:j=k;·subst e;rw [b];simpa using ha
     exact S j Z)
    have s:(((r.base:Nat):Int)==(p:Int))=false:=bK;generalize r.st=z at *;generalize r.rq=V at *;generalize r.ext=t at *;generalize r.base=w at *;go_wp2;go_roundw;(case rel=>exact ⟨k+1,Z,aY,Q,d⟩);case measure=>simp [intOf];omega
   obtain rfl:k=v:=Z;have G:=H (show fR h p=none by unfold fR;rw [l.out];exact jK S);obtain⟨la,lc,b⟩:=aK g.rl;have m:W.cell? ⟨x.P,11,none⟩=some (.slice la h.rel.length lc):=(by rw [<-b];exact g.cell 11 _ rfl);replace m:=ad c m;have X:=H b;clear b;obtain⟨w,b⟩:∃ w,h.rel.length=w:=⟨_,rfl⟩;rw [b] at m hl;have r:=H b;clear b;go_wp2;go_loopw [65] (λi R=>∃ k:Nat,k<=w/\i=I k/\Hid (∀ j,j<k->h.rel[j]?≠some p)/\Hid (D W R)) (λi _=>w-(intOf i).toNat);(case atStart=>exact ⟨0,Fs _,rfl,H (λj y=>Z),c⟩);case round =>
    obtain⟨k,a1,rfl,Y,n⟩:=hrel;clear c m;by_cases K:k<w
    ·obtain⟨b,M⟩:∃ b,h.rel[k]?=some b:=⟨_,Fj (by rw [r.out];exact K)⟩;obtain⟨G2,rfl⟩:=cn (X.out▸g.rl) (by rw [r.out];omega);have T:=ad n (bC (X.out▸g.rl) k (U b) (by simp [Us,M]));by_cases ha:b=p
     ·have t:=H (show fV h p=(-1,-1,4) by
       unfold fV;rw [q.out];dsimp only;rw [G.out];dsimp only;rw [Gv (by rw [List.contains_eq_mem,GX];exact ha▸Fz M)])
      subst ha;go_wp2;refine GF (di ef _ _) ef ?_;rw [t.out];exact⟨rfl,n⟩
     have s:(((b:Nat):Int)==(p:Int))=false:=bK;have F3:=H (show ∀ j,j<k+1->h.rel[j]?≠some p from λj y=>by
      by_cases e:j=k;·subst e;rw [M];simpa using ha
      exact Y j Z)
     clear M;go_wp2;go_roundw;(case rel=>exact ⟨k+1,Z,aY,F3,n⟩);case measure=>simp [intOf];omega
    obtain rfl:k=w:=Z;have t:=H (show fV h p=(-1,-1,3) by
     unfold fV;rw [q.out];dsimp only;rw [G.out];dsimp only;rw [Gu (by
      rw [List.contains_eq_mem,GX];intro M;obtain⟨i,b⟩:=GQ M;exact Y.out i (by rw [<-r.out];exact (Fl.1 b).1) b)])
    go_wp2;refine GF (di ef _ _) ef ?_;rw [t.out];exact⟨rfl,n⟩
end
end Go.Proofs.YtdngbppdomoenaaGreatDoor
