import Derived.Test.YtdfodlhkdmkfdaaGreatDoorN06
set_option linter.unusedVariables false
set_option linter.unusedSimpArgs false
set_option maxRecDepth 20000
set_option maxHeartbeats 8000000
namespace Go.Proofs.YtdfodlhkdmkfdaaGreatDoor
open Go.Proofs.Tryz
variable {M S a n:Nat} {bud nn st:Int} {f:Nat->Option Nat} {m:Nat->Option (Bool×List Int)} {W w:World}
section
open Go.RowKit Go.Shelf
theorem run_store (S M nn bud f m m' code p c) (a:Nat) (n) (d:Option Addr) (i j:Nat) (w) (h:Im S M 0 nn bud f w) (b:Pg f m w) (o:∀ V,Im S M 1 nn bud f V->Pg f m V->Fr S M f f w V->Calls prog 203 #[J S 0,U a,.slice d i j] V λe g=>e=.returned (I code)/\∃ k,Im S M 1 nn bud k g/\Pg k m' g/\Fr S M f k V g) :
  Calls prog 174 #[J S 0,kN 5 p c a n d i j] w λe g=>e=.returned (.agg #[I code,C])/\uv S M nn bud f m' w g:=by
 have l:=H h;have q:=H b;have r:=H o;clear h b o;unfold kN;go_enter_defers func174,ntmps174;go_wp2_with fail;refine (gy ((l.alloc _).alloc _)).mono ?_;rintro e V ⟨rfl,s⟩;have b:=H (Dl.first l q #[I 5,I p,I c,U a,I n,.slice d i j]);rw [<-s] at b;clear s l q;generalize u:w.heap.size+1=z at b ⊢;generalize w.heap.size=O at b ⊢;have v:V.cell? ⟨O,0,none⟩=some (I 5):=by simp [World.cell?,b.o]
 have x:V.cell? ⟨O,3,none⟩=some (U a):=by simp [World.cell?,b.o]
 have y:V.cell? ⟨O,5,none⟩=some (.slice d i j):=by simp [World.cell?,b.o]
 go_wp2_with fail;refine (r V b.im b.pg b.fr).mono ?_;rintro e A ⟨rfl,k,l,q,s⟩;have t:=H (b.move l q s);clear l q s b r v x y;go_wp2_with (refine fG t.r ?_);have b:=t.done #[I code,C];refine Lb (f:=118) (args:=#[J S 0]) bh (by simp [go_sem]) ?_;refine (Go.MuLone.unlock_deferred jS ⟨S,0,none⟩ .returning _ b.1 b.2.1).mono ?_;rintro e q l ⟨rfl,rfl,rfl⟩;exact⟨_,Ee b.2.2.1 underlying157,rfl,b.2.2.2⟩
theorem Dl.own {O Rb n f' V op} (h:Dl w op S M n bud f f' m O Rb V) {B:Nat} {v:Value} {k:Nat} {d:List Value} (b:V.ownsRow B 5 1 v k d) (g:w.heap.size<=B) (c:Array Value):((V.setRow Rb c).setCell ⟨S,0,none⟩ (.int .i32 0)).ownsRow w.heap.size 5 1 v k d:=by
 obtain⟨i,j,o⟩:=h.im.apartT h.pg h.r al al;have p:=h.im.setRow i j c;refine cv ?_ g;refine (b.kept (ar V Rb c) (.inr λe=>?_)).kept (au (ao _ S) 0 _) (.inr λe=>?_);·obtain⟨l,a⟩:=nV b e;rw [h.r] at a;simp at a
 obtain⟨l,a⟩:=nV b e;rw [h.im.box] at a;simp at a
theorem run_load (S M nn bud f m code) (i:List Int) (p c) (a:Nat) (n d dl dc w) (h:Im S M 0 nn bud f w) (b:Pg f m w) (k:∀ V,Im S M 1 nn bud f V->Pg f m V->Calls prog 202 #[J S 0,U a,I n] V λe g=>∃ v,e=.returned (.agg #[I code,v])/\g.ownsRow V.heap.size 5 1 v i.length (Ns .u8 i)/\Im S M 1 nn bud f g/\Pg f m g/\Fr S M f f V g) :
  Calls prog 174 #[J S 0,kN 4 p c a n d dl dc] w λe g=>∃ v,e=.returned (.agg #[I code,v])/\g.ownsRow w.heap.size 5 1 v i.length (Ns .u8 i)/\uv S M nn bud f m w g:=by
 have j:=H h;have l:=H b;have o:=H k;clear h b k;unfold kN;go_enter_defers func174,ntmps174;go_wp2_with fail;refine (gy ((j.alloc _).alloc _)).mono ?_;rintro e V ⟨rfl,q⟩;have b:=H (Dl.first j l #[I 4,I p,I c,U a,I n,.slice d dl dc]);rw [<-q] at b;clear q j l;generalize u:w.heap.size+1=F at b ⊢;generalize x:w.heap.size=O at b ⊢;have y:V.cell? ⟨O,0,none⟩=some (I 4):=by simp [World.cell?,b.o]
 have z:V.cell? ⟨O,3,none⟩=some (U a):=by simp [World.cell?,b.o]
 have A:V.cell? ⟨O,4,none⟩=some (I n):=by simp [World.cell?,b.o]
 have B:=H b.fr.size;go_wp2_with fail;refine (o V b.im b.pg).mono ?_;rintro e G ⟨v,rfl,l,q,r,s⟩;have j:=H (b.move q r s);have t:=H l;clear q r s b o y z A l;go_wp2_with (refine JX rfl 157 _ _ rfl _ _ rfl rfl 157 _ j.r E rfl (Bn t _) ?_);have b:=j.done #[I code,v];have l:=j.own t B #[I code,v];refine Lb (f:=118) (args:=#[J S 0]) bh (by simp [go_sem]) ?_;refine (Go.MuLone.unlock_deferred jS ⟨S,0,none⟩ .returning _ b.1 b.2.1).mono ?_;rintro e q o ⟨rfl,rfl,rfl⟩;exact⟨_,Ee b.2.2.1 underlying157,v,rfl,l,b.2.2.2⟩
theorem gj {f:Nat->Option Nat} {m:Nat->Option (Bool×List Int)} (h:∀ k,(f k).isSome=(m k).isSome) (p):∀ c,bz f p c=c↔fX m p true c=true
 | 0=>by simp [bz,fX]
 | k+1=>by
  have a:=gj h p k
  have b:=eI f p k
  simp only [bz,fX,JY,beq_iff_eq,<-h (p+k),<-a]
  cases (f (p+k)).isSome <;> simp <;> omega
theorem qU {f:Nat->Option Nat} {m:Nat->Option (Bool×List Int)} (h:∀ k,(f k).isSome=(m k).isSome) (p):∀ c,bz f p c=0↔fX m p false c=true
 | 0=>by simp [bz,fX]
 | k+1=>by
  have a:=qU h p k
  simp only [bz,fX,JY,beq_iff_eq,<-h (p+k),<-a]
  cases (f (p+k)).isSome <;> simp
theorem pI (nn:Nat) (p c):bK nn p c=true↔DN nn p c:=by
 unfold bK DN;rw [EN];omega
theorem AJ (S M) (nn:Nat) (bud f m) (r p:Int) (c a n d dl dc ys w) (h:Im S M 0 nn bud f w) (t:Pg f m w) (z:∀ k,nn<=k->m k=none) (F:nn<=4096) (u:p<=9223372036854775807) (B:r=0\/r=1\/r=2\/r=3) :
  Calls prog 174 #[J S 0,kN r p c a n d dl dc] w λe o=>e=.returned (.agg #[I (b_ nn bud m r p c a n ys).2.1,C])/\uv S M nn bud f (b_ nn bud m r p c a n ys).1 w o:=by
 have g:(0:Int)<=nn:=Z;have j:(nn:Int)<=4096:=Z;have G:¬r=4:=Z;have K:¬r=5:=Z;have L:¬(r<0\/5<r):=Z;have k:=t.none_iff;have v:bz f 0 4096=bG m nn:=by
  rw [kQ k 4096,show 4096=nn+(4096-nn) by omega,mJ z]
 unfold b_;rw [tg G,tg K,tg L];by_cases s:DN nn p c
 ·rw [tm s];have b:=(pI nn p c).2 s;obtain⟨P,N,Q,R⟩:=s;obtain⟨p,rfl⟩:=AP N;obtain⟨c,rfl⟩:=AP (show 0<=c by omega);simp only [JL];have O:=eI f p c;rcases B with rfl|rfl|rfl|rfl
  ·refine nw S M nn bud f m _ _ p c a n d dl dc w h t (λV i q=>?_);simp only [lA,Lu];cases l:fX m p false c with
   | false =>
    simp only [Lu];refine (tp S M 1 nn bud f p c _ V i g j b rfl (by
     have:=(qU k p c);rw [l] at this;have x:bz f p c≠0:=λe=>by simpa using this.1 e
     omega)).mono ?_
    rintro e o ⟨rfl,rfl⟩;exact⟨rfl,f,i,q,Fr.refl _ _ _ _⟩
   | true =>
    have A:=(qU k p c).2 l;by_cases y:bud<(bG m nn:Int)+c;·simp only [tm y,LF,Lt];refine (rK S M 1 nn bud f p c _ V i g j b A v y).mono ?_;rintro e o ⟨rfl,rfl⟩;exact⟨rfl,f,i.drew,q.drew,(Fr.refl _ _ _ _).drew⟩
    simp only [tg y,LF,Lt];exact uw S M 1 nn bud f m p c _ V i q g j b A v Z
  ·refine jL S M nn bud f m _ _ p c a n d dl dc w h t (λV i q=>?_);simp only [lA,show ¬((1:Int)=0) by omega,Lt,Lu];cases l:fX m p true c with
   | false =>
    simp only [Lu];refine (oL S M 1 nn bud f p c _ V i g j b rfl (by
     have:=(gj k p c);rw [l] at this;have x:bz f p c≠c:=λe=>by simpa using this.1 e
     omega)).mono ?_
    rintro e o ⟨rfl,rfl⟩;exact⟨rfl,f,i,q,Fr.refl _ _ _ _⟩
   | true =>
    simp only [LF,Lt];exact qn S M 1 nn bud f m p c V i q g j b ((gj k p c).2 l)
  ·refine r_ S M nn bud f m _ _ p c a n d dl dc w h t (λV i q=>?_);simp only [lA,show ¬((2:Int)=0) by omega,show ¬((2:Int)=1) by omega,Lt,Lu];cases l:fX m p true c with
   | false =>
    simp only [Lu];refine (jG S M 1 nn bud f p c _ true V i g j b rfl (by
     have:=(gj k p c);rw [l] at this;have x:bz f p c≠c:=λe=>by simpa using this.1 e
     omega)).mono ?_
    rintro e o ⟨rfl,rfl⟩;exact⟨rfl,f,i,q,Fr.refl _ _ _ _⟩
   | true =>
    simp only [LF,Lt];refine (bO S M 1 nn bud f m p c true V i q g j b ((gj k p c).2 l)).mono ?_;rintro e o ⟨rfl,y,x,A⟩;exact⟨rfl,f,y,x,A⟩
  refine ni S M nn bud f m _ _ p c a n d dl dc w h t (λV i q=>?_);simp only [lA,show ¬((3:Int)=0) by omega,show ¬((3:Int)=1) by omega,show ¬((3:Int)=2) by omega,Lt];cases l:fX m p true c with
  | false =>
   simp only [Lu];refine (jG S M 1 nn bud f p c _ false V i g j b rfl (by
    have:=(gj k p c);rw [l] at this;have x:bz f p c≠c:=λe=>by simpa using this.1 e
    omega)).mono ?_
   rintro e o ⟨rfl,rfl⟩;exact⟨rfl,f,i,q,Fr.refl _ _ _ _⟩
  | true =>
   simp only [LF,Lt];refine (bO S M 1 nn bud f m p c false V i q g j b ((gj k p c).2 l)).mono ?_;rintro e o ⟨rfl,y,x,A⟩;exact⟨rfl,f,y,x,A⟩
 rw [tg s];have b:bK nn p c=false:=by
  cases l:bK nn p c with
  | false=>rfl
  | true=>exact absurd ((pI nn p c).1 l) s
 rcases B with rfl|rfl|rfl|rfl;·refine nw S M nn bud f m _ _ p c a n d dl dc w h t (λV i q=>(xo S M 1 nn bud f p c V i g j u b).mono ?_);rintro e o ⟨rfl,rfl⟩;exact⟨rfl,f,i,q,Fr.refl _ _ _ _⟩
 ·refine jL S M nn bud f m _ _ p c a n d dl dc w h t (λV i q=>(rX S M 1 nn bud f p c V i g j u b).mono ?_);rintro e o ⟨rfl,rfl⟩;exact⟨rfl,f,i,q,Fr.refl _ _ _ _⟩
 ·refine r_ S M nn bud f m _ _ p c a n d dl dc w h t (λV i q=>(mR S M 1 nn bud f p c true V i g j u b).mono ?_);rintro e o ⟨rfl,rfl⟩;exact⟨rfl,f,i,q,Fr.refl _ _ _ _⟩
 refine ni S M nn bud f m _ _ p c a n d dl dc w h t (λV i q=>(mR S M 1 nn bud f p c false V i g j u b).mono ?_);rintro e o ⟨rfl,rfl⟩;exact⟨rfl,f,i,q,Fr.refl _ _ _ _⟩
theorem iT (S M st nn bud f m) (a:Nat) (n w) (g:Im S M st nn bud f w) (i:Pg f m w) (ha:a<18446744073709551616) :
  Calls prog 242 #[J S 0,U a,I n] w λe j=>e=.returned (I (cr m a n))/\j=w:=by
 unfold cr;by_cases b:n<0\/4096<n;·rw [tm b];exact qt S a n w b
 rw [tg b];by_cases d:n=0;·subst d;rw [tm rfl];exact so S a w
 rw [tg d];by_cases c:4611686018427387904<=(a:Int)+(n-1);·rw [tm c];exact tU S a n w Z Z Z Z c
 rw [tg c];obtain⟨k,rfl⟩:=AP (show 0<=n by omega);rw [JL,<-tM m a k Z];exact sM S M st nn bud f m a k _ _ w g i Z Z Z rfl rfl
theorem AT (S M) (nn:Nat) (bud f m) (b:Int) (p c a n d dl dc ys w) (h:Im S M 0 nn bud f w) (i:Pg f m w) (g:b<0\/5<b) :
  Calls prog 174 #[J S 0,kN b p c a n d dl dc] w λe j=>e=.returned (.agg #[I (b_ nn bud m b p c a n ys).2.1,C])/\uv S M nn bud f (b_ nn bud m b p c a n ys).1 w j:=by
 unfold b_;rw [tg (show ¬b=4 by omega),tg (show ¬b=5 by omega),tm g];exact yi S M nn bud f m b p c a n d dl dc w h i g
theorem rD {n} (h:cr m a n=0):∃ k:Nat,n=k/\k<=4096/\(k=0\/a+k<=4611686018427387904)/\∀ d,d<k->isOpen (m ((a+d)/1024))=true:=by
 unfold cr at h;by_cases b:n<0\/4096<n;·rw [tm b] at h;cases h
 rw [tg b] at h;obtain⟨k,rfl⟩:=AP (show 0<=n by omega);refine⟨k,rfl,Z,?_⟩;by_cases f:(k:Int)=0;·exact⟨.inl Z,λd c=>Z⟩
 rw [tg f] at h;by_cases c:4611686018427387904<=(a:Int)+((k:Int)-1);·rw [tm c] at h;cases h
 rw [tg c] at h;refine⟨.inr Z,?_⟩;cases e:dN m a k with
 | false=>simp [e,jM] at h
 | true=>exact ic e
theorem kF (c:Pg f m W) {k:Nat} (h:isOpen (m k)=true):∃ g,f k=some g:=by
 rcases c.at' k with ⟨a,d⟩|⟨b,l,e,a,_⟩;·rw [d] at h;cases h
 exact⟨b,a⟩
theorem yo (S a n) (c:Int) (w:World) (f:(c != 0)=true) (h:Calls prog 242 #[J S 0,U a,I n] (w.alloc (.cells #[I 0,C] 157)) λe b=>e=.returned (I c)/\b=w.alloc (.cells #[I 0,C] 157)) :
  Calls prog 202 #[J S 0,U a,I n] w λe b=>e=.returned (.agg #[I c,C])/\b=w.alloc (.cells #[I c,C] 157):=by
 have d:=H h;clear h;go_enter func202,ntmps202;go_wp2_with fail;refine (d).mono ?_;rintro _ _ ⟨rfl,rfl⟩;go_wp2_with fail;refine wA (v:=.agg #[I c,C]) (by simp [results,Tryz.results202,go_sem]) rfl ⟨rfl,rfl⟩
theorem wH (S a) (c:Int) (n b:Nat) (p:Option Addr) (w:World) (g:(c != 0)=true) (h:Calls prog 242 #[J S 0,U a,I n] (w.alloc (.cells #[.slice p n b] 52)) λe d=>e=.returned (I c)/\d=w.alloc (.cells #[.slice p n b] 52)) :
  Calls prog 203 #[J S 0,U a,.slice p n b] w λe d=>e=.returned (I c)/\d=w.alloc (.cells #[.slice p n b] 52):=by
 have f:=H h;clear h;go_enter func203,ntmps203;go_wp2_with fail;refine (f).mono ?_;rintro _ _ ⟨rfl,rfl⟩;go_wp2_with fail;go_ret;exact⟨rfl,rfl⟩
theorem AE (S M) (nn:Nat) (bud f m p c) (a:Nat) (n d dl dc ys w) (h:Im S M 0 nn bud f w) (j:Pg f m w) (ha:a<18446744073709551616) :
  Calls prog 174 #[J S 0,kN 4 p c a n d dl dc] w λe g=>∃ v,e=.returned (.agg #[I (b_ nn bud m 4 p c a n ys).2.1,v])/\g.ownsRow w.heap.size 5 1 v (b_ nn bud m 4 p c a n ys).2.2.length (Ns .u8 (b_ nn bud m 4 p c a n ys).2.2)/\uv S M nn bud f (b_ nn bud m 4 p c a n ys).1 w g:=by
 have l:b_ nn bud m 4 p c a n ys=(m,cr m a n,if cr m a n=0 then aI m a n.toNat else []):=by unfold b_;rw [tm rfl]
 rw [l];refine run_load S M nn bud f m _ _ p c a n d dl dc w h j (λV i q=>?_);by_cases b:cr m a n=0
 ·rw [b,tm rfl];obtain⟨k,rfl,o,s,t⟩:=rD b;have u:=BJ S M 1 nn bud f m a k V i q o s (λd j=>kF q (t d j)) (λW d j=>by
   have:=iT S M 1 nn bud f m a (k:Nat) W d j ha;rwa [b] at this)
  refine ((callsIn_wide (n:=5)).1 u).mono ?_;rintro e g ⟨v,rfl,x,r⟩;refine⟨v,rfl,?_,r⟩;simp only [JL];have y:(aI m a k).length=k:=by simp [aI]
  rw [y];exact x
 rw [tg b];refine (yo S a n _ V (by simpa using b) (iT S M 1 nn bud f m a n _ (i.alloc _) (q.alloc _) ha)).mono ?_;rintro e g ⟨rfl,rfl⟩;exact⟨_,rfl,⟨rfl,.inl ⟨rfl,rfl⟩⟩,i.alloc _,q.alloc _,Fr.ofGrown (y6 _ _ none)⟩
theorem uY (m k u v):dY (dY m k u) k v=dY m k v:=by
 funext j;unfold dY;split <;> rfl
theorem wS (m:Nat->Option (Bool×List Int)) (k:Nat) (v:Option (Bool×List Int)) (h:m k=v):dY m k v=m:=by
 funext j;unfold dY;split;·rename_i e;rw [e,h]
 rfl
theorem sG (b c:List Int) (a:Nat) (z:Int) (h:a+c.length<b.length):(splice b a c).set (a+c.length) z=splice b a (c++[z]):=by
 have d:(b.take a).length=a:=cd;have e:b.drop (a+c.length)=b[a+c.length]::b.drop (a+c.length+1):=List.drop_eq_getElem_cons h;unfold splice;rw [e,List.set_append_right _ _ Z,d,Nat.add_sub_cancel_left,List.set_append_right _ _ (Jo _),Nat.sub_self,Jy];simp [J2]
theorem jZ (m a ys) (d:Nat) (f:Bool) (c:List Int) (g:c.length=1024) (i:ax m a ys d ((a+d)/1024)=some (f,c)) :
  ∀ l,(a+d)%1024+l<=1024->d+l<=ys.length->ax m a ys (d+l)=dY (ax m a ys d) ((a+d)/1024) (some (f,splice c ((a+d)%1024) ((ys.drop d).take l)))
 | 0,_,_=>by
  have e:splice c ((a+d)%1024) ((ys.drop d).take 0)=c:=by simp [splice]
  rw [e,Kq,wS _ _ _ i]
 | l+1,p,q=>by
  have e:=jZ m a ys d f c g i l Z Z
  have j:ax m a ys (d+(l+1))=eu (ax m a ys (d+l)) (a+(d+l)) (ys[d+l]?.getD 0):=rfl
  have k:(a+(d+l))/1024=(a+d)/1024:=Z
  have n:(a+(d+l))%1024=(a+d)%1024+l:=Z
  rw [j,e]
  unfold eu
  rw [k,n,bZ,uY]
  simp only [DC]
  have b:((ys.drop d).take l).length=l:=cd
  have o:(ys.drop d).take (l+1)=(ys.drop d).take l++[ys[d+l]?.getD 0]:=by
   rw [JK,Lz,Jq Z];rfl
  rw [o,<-sG _ _ _ _ (by rw [b,g];omega),b]
theorem qT (l) (b c:List Int) (a:Nat) (f:b.length=1024) (h:a+c.length<=1024):(splice (eG l b).toList a (Ns .u8 c)).toArray=eG l (splice b a c):=by
 unfold eG splice;have d:a<=(Ns .u8 b).length:=by simp [Ns];omega
 have e:a+c.length<=(Ns .u8 b).length:=by simp [Ns];omega
 dsimp only;rw [Le d,aX,List.drop_append_of_le_length e];simp [Ns]
attribute [local go_sem] Oper.semAt_some
def qN (m:Nat->Option (Bool×List Int)) (p:Nat) (i:List Int):Nat->Option (Bool×List Int):=dY m (p/1024) ((m (p/1024)).map λq=>(q.1,splice q.2 (p%1024) i))
def stF (m:Nat->Option (Bool×List Int)) (a n:Nat) (ys:List Int) (i:List { d:Nat // d<n }):Nat×(Nat->Option (Bool×List Int)) :=
 i.foldl (λs x=>(s.1+min (bd a n x.1) (n-s.1),qN s.2 (a+x.1) ((ys.drop s.1).take (min (bd a n x.1) (n-s.1))))) (0,m)
theorem sN (m a) (n:Nat) (ys) (b:List { d:Nat // d<n }) (x : { d:Nat // d<n }) :
  stF m a n ys (b++[x])=((stF m a n ys b).1+min (bd a n x.1) (n-(stF m a n ys b).1),qN (stF m a n ys b).2 (a+x.1) ((ys.drop (stF m a n ys b).1).take (min (bd a n x.1) (n-(stF m a n ys b).1)))):=by
 simp [stF]
theorem vM (a n:Nat) (c:List Int):∀ (b:List { d:Nat // d<n }) (s:Nat×(Nat->Option (Bool×List Int))),s.1<=n->(b.foldl (λs x=>(s.1+min (bd a n x.1) (n-s.1),qN s.2 (a+x.1) ((c.drop s.1).take (min (bd a n x.1) (n-s.1))))) s).1<=n
 | [],s,h=>h
 | x::b,s,h=>by
  rw [List.foldl_cons]
  exact vM a n c b _ it
theorem Fc (m a) (n:Nat) (ys) (b:List { d:Nat // d<n }):(stF m a n ys b).1<=n:=vM a n ys b _ (Jt _)
theorem pJ (a n d:Nat):(a+d)%1024+bd a n d<=1024:=by unfold bd;omega
def Full (m:Nat->Option (Bool×List Int)):Prop:=∀ k q,m k=some q->q.2.length=1024
theorem nU (b c:List Int) (a:Nat) (h:a+c.length<=b.length):(splice b a c).length=b.length:=length_splice _ _ _ h
theorem Full.lay (h:Full m) (p:Nat) (b:List Int) (d:p%1024+b.length<=1024):Full (qN m p b):=by
 intro k q e;unfold qN at e;by_cases c:k=p/1024
 ·subst c;rw [bZ] at e;cases a:m (p/1024) with
  | none=>rw [a] at e;cases e
  | some r =>
   rw [a] at e;simp only [DC,FK] at e;subst e;dsimp only;rw [nU _ _ _ (by rw [h _ _ a];exact d)];exact h _ _ a
 rw [aW _ _ _ _ c] at e;exact h k q e
theorem Full.store {m} (h:Full m) (a ys):∀ k,Full (ax m a ys k)
 | 0=>h
 | k+1=>by
  intro j q e
  have d:=Full.store h a ys k
  have b:eu (ax m a ys k) (a+k) (ys[k]?.getD 0) j=some q:=e
  unfold eu at b
  by_cases f:j=(a+k)/1024
  ·subst f
   rw [bZ] at b
   cases c:ax m a ys k ((a+k)/1024) with
   | none=>rw [c] at b;cases b
   | some r =>
    rw [c] at b
    simp only [DC,FK] at b
    subst b
    simp
    exact d _ _ c
  rw [aW _ _ _ _ f] at b
  exact d j q b
theorem Got.stF {b:List Int} {c:List { d:Nat // d<n }} {d:Nat} (s:b.length=n) (l:Full m) (o:∀ d,d<n->(m ((a+d)/1024)).isSome=true) (h:Got a n c d):stF m a n b c=(d,ax m a b d):=by
 induction h with
 | zero=>rfl
 | @next c d h i g =>
  rw [sN,g];have t:=qD (a:=a) i;have p:min (bd a n d) (n-d)=bd a n d:=Z;dsimp only;rw [p];congr 1;have f:(ax m a b d ((a+d)/1024)).isSome=true:=by
   have:∀ k j,(ax m a b k j).isSome=(m j).isSome:=by
    intro k;induction k with
    | zero=>intro j;rfl
    | succ k g =>
     intro j;show (eu (ax m a b k) (a+k) (b[k]?.getD 0) j).isSome=_;unfold eu;by_cases e:j=(a+k)/1024;·subst e;rw [bZ,Option.isSome_map];exact g _
     rw [aW _ _ _ _ e];exact g j
   rw [this];exact o d i
  obtain⟨q,e⟩:=Option.isSome_iff_exists.1 f;obtain⟨j,k⟩:=q;have r:=(l.store a b d) _ _ e;rw [jZ m a b d j k r e (bd a n d) (pJ a n d) Z];unfold qN;rw [e];rfl
attribute [local go_sem] Oper.semAt_some
theorem Sd.keep {mm} {o:World} {DB p cap c} {k:Option Nat} (h:Sd S M st nn bud f mm w DB p n cap c W) (d:W.grownBy o k) (q:∀ r,k=some r->w.heap.size<=r/\∀ i t z,W.heap[r]?≠some (.cells i t z)):Sd S M st nn bud f mm w DB p n cap c o:=by
 have s:∀ (b:Nat) (i:Array Value) (t:TypeId) (z:Nat×Nat),W.heap[b]?=some (Obj.cells i t z)->o.heap[b]?=some (Obj.cells i t z):=by
  intro b i t z m;rw [d.block b (zQ m) (λe=>(q b e.symm).2 i t z m)];exact m
 have v:o.heap[M]?=W.heap[M]?:=d.block M (Ju h.mlt h.fr.size) (λe=>by have:=(q M e.symm).1;have:=h.mlt;omega);refine⟨⟨s _ _ _ _ h.im.box,?_⟩,⟨?_,h.pg.inj⟩,?_,?_,h.mlt,h.dge⟩;·obtain⟨a,⟨j,g,m,l⟩,r⟩:=h.im.map;exact⟨a,⟨j,g,v.trans m,l⟩,r⟩
 ·intro j;rcases h.pg.at' j with a|⟨b,l,x,a,g,u,y⟩;·exact .inl a
  exact .inr ⟨b,l,x,a,g,u,s _ _ _ _ y⟩
 ·exact⟨d.os.trans h.fr.os,d.tape.trans h.fr.tape,d.output.trans h.fr.output,Jp h.fr.size d.size,λj l a g u=>by
   rw [d.block j (Ju l h.fr.size) (λe=>by have:=(q j e.symm).1;omega)];exact h.fr.block j l a g u,h.fr.made⟩
 obtain⟨l,a,g⟩:=h.box;exact⟨l,s _ _ _ _ a,g⟩
theorem Sd.piece {mm DB p cap c ys b} {x:Nat} {g:Nat} (h:Sd S M st nn bud f mm w DB p n cap c W) (hc:c<=n) (a7:n<=cap) (T:Da S M f w p n ys) (O:f ((a+x)/1024)=some g) (hx:x<n) (V:Cl S b a n W) :
  ∃ y,W.heap[DB]?=some (.cells #[.slice y (n-c) (cap-c)] 52)/\∃ s r,(Builtin.copy_ #[52,52] 3 #[.slice (some ⟨g,(a+x)%1024,none⟩) (bd a n x) (1024-(a+x)%1024),.slice y (n-c) (cap-c)]).run prog W.drew=.ok (I (min (bd a n x) (n-c):Nat)) s /\
   (∀ w:World,(Instr.slice 52 (.slice y (n-c) (cap-c)) (some (I (min (bd a n x) (n-c):Nat))) none none).run prog w=.ok (.slice r (n-(c+min (bd a n x) (n-c))) (cap-(c+min (bd a n x) (n-c)))) w) /\
   s.cell? ⟨DB,0,none⟩=some (.slice y (n-c) (cap-c))/\s.frozen? ⟨DB,0,none⟩=false /\
   Sd S M st nn bud f (qN mm (a+x) ((ys.drop c).take (min (bd a n x) (n-c)))) w DB p n cap (c+min (bd a n x) (n-c)) (s.setCell ⟨DB,0,none⟩ (.slice r (n-(c+min (bd a n x) (n-c))) (cap-(c+min (bd a n x) (n-c))))) /\
   Kp S M b W (s.setCell ⟨DB,0,none⟩ (.slice r (n-(c+min (bd a n x) (n-c))) (cap-(c+min (bd a n x) (n-c)))))/\KeepsOthers W (s.setCell ⟨DB,0,none⟩ (.slice r (n-(c+min (bd a n x) (n-c))) (cap-(c+min (bd a n x) (n-c))))):=by
 obtain⟨y,i,G⟩:=h.box;obtain⟨k,hk⟩:∃ k,k=min (bd a n x) (n-c):=⟨_,rfl⟩;rw [<-hk];have a8:=pJ a n x;have a9:=nP (a:=a) hx;obtain⟨l,X,hm,A,P⟩:=h.pg.cell O;have m:((ys.drop c).take k).length=k:=by rw [F9,List.length_drop,T.1];omega
 obtain⟨s,hr,K,u⟩:=uD W.drew (some ⟨g,(a+x)%1024,none⟩) y (bd a n x) (1024-(a+x)%1024) (n-c) (cap-c) g ((a+x)%1024) (eG l X).toList 206 (by rw [show W.drew.heap=W.heap from rfl];simpa using P) (Ns .u8 ((ys.drop c).take k)) (by rw [aX,m,hk];exact Nat.min_comm _ _) (λo=>by
  rw [aX,m] at o;obtain⟨Q,Y,e2⟩:=G Z;refine⟨rfl,_,e2,λj v d=>?_⟩;have e:j<k:=by
   by_cases e:j<k;·exact e
   rw [JB (by rw [aX,m];omega)] at d;cases d
  obtain⟨q,B,e4⟩:=T.cell h.fr (c+j) Z;rw [Y] at B;cases B;rw [Addr.add_add];have:W.drew.cell? (Q.add (c+j))=W.cell? (Q.add (c+j)):=rfl;rw [this,e4,<-d];simp [Ns,e];have:c+j<ys.length:=by rw [T.1];omega
  simp [this]) (by rw [aX,m];simp [eG,Ns,A];omega) (λv d=>by
   simp only [Ns,JE] at d;obtain⟨z,_,rfl⟩:=d;rfl)
 rw [aX,m] at hr;rw [qT _ _ _ _ A (by rw [m];omega)] at K;obtain⟨r,a0,L⟩:=Af y k (n-c) (cap-c) Z Z;obtain⟨a1,a2⟩:=h.pg.apart h.im O;have a3:g≠DB:=λe=>by subst e;rw [P] at i;simp at i
 have d:W.grownBy s (some g):=⟨u.os,u.tape,u.output,u.size,u.block⟩;have o:s.heap[DB]?=some (.cells #[.slice y (n-c) (cap-c)] 52):=by rw [d.block DB (zQ i) (by simpa using a3.symm)];exact i
 have F:s.grownBy (s.setCell ⟨DB,0,none⟩ (.slice r (n-(c+k)) (cap-(c+k)))) (some DB):=au (ao s DB) 0 _;have a4:DB≠S:=λe=>by rw [e,h.im.box] at i;simp at i
 have N:DB≠M:=by have:=h.mlt;have:=h.dge;omega
 have Y:n-c-k=n-(c+k):=Z;have e2:cap-c-k=cap-(c+k):=Z;refine⟨y,i,s,r,hr,λW=>by rw [a0 W,Y,e2],by simp [World.cell?,o],by simp [World.frozen?,o],⟨?_,?_,?_,?_,h.mlt,h.dge⟩,⟨?_,?_⟩,?_⟩;·exact (h.im.grownAt d a1 a2).grownAt F a4 N
 ·have q:=h.pg.lay O (l:=l) (xs:=splice X ((a+x)%1024) ((ys.drop c).take k)) (by rw [nU _ _ _ (by rw [m,A];omega),A]) K d;have B:qN mm (a+x) ((ys.drop c).take k)=dY mm ((a+x)/1024) (some (l,splice X ((a+x)%1024) ((ys.drop c).take k))):=by
   unfold qN;rw [hm];rfl
  rw [B];refine⟨?_,q.inj⟩;intro j;rcases q.at' j with t|⟨b2,l2,v,t,h2,h3,R⟩;·exact .inl t
  refine .inr ⟨b2,l2,v,t,h2,h3,?_⟩;rw [F.block b2 (zQ R) (λe=>by cases e;rw [R] at o;simp at o)];exact R
 ·exact (h.fr.grownAt d (.inl ⟨_,O⟩)).grownAt F (.inr h.dge)
 ·refine⟨r,by rw [aO o];rfl,λv=>?_⟩;obtain⟨Q,B,e4⟩:=G Z;refine⟨Q,B,?_⟩;rw [L Z,e4];simp [Addr.add_add]
 ·exact Jp d.size F.size
 ·have q:∀ (b:Nat) (cs:Array Value) (t:TypeId) (z:Nat×Nat),W.heap[b]?=some (Obj.cells cs t z)->t≠206->t≠52->(s.setCell ⟨DB,0,none⟩ (.slice r (n-(c+k)) (cap-(c+k)))).heap[b]?=W.heap[b]?:=by
   intro R cs t z b a5 a6;have n1:R≠g:=λe=>by subst e;rw [P] at b;cases b;exact a5 rfl
   have n2:R≠DB:=λe=>by subst e;rw [i] at b;cases b;exact a6 rfl
   rw [F.block R (Ju (zQ b) d.size) (by simpa using n2),d.block R (zQ b) (by simpa using n1)]
  rintro g' (rfl|rfl|rfl|rfl|rfl);·exact q _ _ _ _ h.im.box al al
  ·have v:=Ju h.mlt h.fr.size;rw [F.block _ (Ju v d.size) (by simpa using N.symm),d.block _ v (by simpa using a2.symm)]
  ·exact q _ _ _ _ V.s al al
  ·exact q _ _ _ _ V.a al al
  exact q _ _ _ _ V.n al al
 exact (KeepsOthers.of_grownBy d (λj o e b=>by cases e;rw [P] at b;cases b;rfl)).trans (KeepsOthers.setCell _ _ _)
attribute [local go_sem] Oper.semAt_some
theorem Sd.init (i:Im S M st nn bud f w) (j:Pg f m w) (p:Option Addr) (n b:Nat) (d:0<n->∃ x,p=some x):Sd S M st nn bud f m w w.heap.size p n b 0 (w.alloc (.cells #[.slice p n b] 52)):=by
 have g:=y6 w (.cells #[.slice p n b] 52) none;refine⟨i.grown g,j.grown g,Fr.ofGrown g,⟨p,(G9 w _).1,λh=>?_⟩,?_,Jo _⟩;·obtain⟨x,e⟩:=d h;exact⟨x,e,by rw [e];simp [Addr.add]⟩
 obtain⟨a,c,_⟩:=i.map;exact c.lt
theorem zV (S M st nn bud f m) (a n u:Nat) (p y w) (r:Im S M st nn bud f w) (j:Pg f m w) (hn:n<=4096) (V:n<=u) (ha:n=0\/a+n<=4611686018427387904) (o:Da S M f w p n y) (c:∀ d,d<n->∃ g,f ((a+d)/1024)=some g) (h:∀ w,Im S M st nn bud f w->Pg f m w->Calls prog 242 #[J S 0,U a,I n] w λe X=>e=.returned (I 0)/\X=w) :
  CallsIn Fence.wide 5 prog 203 #[J S 0,U a,.slice p n u] w λe X=>e=.returned (I 0)/\Im S M st nn bud f X/\Pg f (ax m a y n) X/\Fr S M f f w X:=by
 have H1:=H h;have HI:=H (LG r j);have HP:=H c;have HD:=H o;have FU:=H (show Full m from λk q e=>by
  rcases j.at' k with ⟨_,Q⟩|⟨b,l,xs,_,Q,h3,_⟩;·rw [Q] at e;cases e
  rw [Q] at e;cases e;exact h3)
 have SO:=H (show ∀ d,d<n->(m ((a+d)/1024)).isSome=true from λd o=>by
  obtain⟨g,G⟩:=c d o;rw [<-j.none_iff,G];rfl)
 have k:0<n->∃ x,p=some x:=λh0=>by obtain ⟨x,e,_⟩:=o.2 0 h0;exact⟨x,e⟩
 have i:=H (Sd.init r j p n u k);clear h r j c o k;refine callsIn_of_wp_marks func203 rfl trivial ?_ rfl;simp only [ntmps203,JJ,JD,JO,Nat.reduceAdd,Nat.reduceSub,JI,JH,JM,KZ,JF,JP]
 gi_wp2_with fail
 refine⟨trivial,?_⟩;refine ((callsIn_wide (n:=4)).2 (H1 _ (HI.1.alloc _) (HI.2.alloc _))).mono ?_;rintro _ _ ⟨rfl,rfl⟩
 gi_wp2_with fail
 refine⟨trivial,?_⟩;obtain⟨q,c⟩:∃ q,w.alloc (.cells #[.slice p n u] 52)=q:=⟨_,rfl⟩;obtain⟨R,L⟩:∃ R,w.heap.size=R:=⟨_,rfl⟩;have k:q.heap.size=R+1:=by rw [<-c,<-L];simp
 have HZ:=H k;clear k;rw [c,L] at i;rw [c,L];clear c;refine ((callsIn_wide (n:=4)).2 (pC _ _ _ _)).mono ?_;rintro e w4 ⟨rfl,rfl⟩;gi_wp2;have Y:=H (Cl.made S a n q);have j:=eE (y6 q (.cells #[J S 0] 66) none) (eE (y6 _ (.cells #[U a] 22) none) (y6 _ (.cells #[I n] 3) none));have S4:=H (i.keep j (λr e=>by cases e));have h4:q.heap.size+1+1+1=(((q.alloc (.cells #[J S 0] 66)).alloc (.cells #[U a] 22)).alloc (.cells #[I n] 3)).heap.size:=bh;have hS:=Ju (zQ HI.1.box) i.fr.size;have hM:=Ju i.mlt i.fr.size;obtain⟨T,c⟩:∃ T,((q.alloc (.cells #[J S 0] 66)).alloc (.cells #[U a] 22)).alloc (.cells #[I n] 3)=T:=⟨_,rfl⟩;rw [c] at Y S4 h4;rw [c];clear j c i;have k:=HZ.out;refine wpIn_rangeFunc_ownF rfl Z (gf:=264) (lb:=#[J (q.heap.size+1+1) 0,J (q.heap.size+1) 0,J q.heap.size 0]) rfl trivial (enters_of func264 E rfl)
  (encs:=λx : { d:Nat // d<n }=>xA f a n x.1) (Kp:=Kp S M q.heap.size) (S:=λy=>Got a n y n) (Sp:=λj=>∃ d,Got a n j d) (N:=n) (w0:=T)
  (λl c i W d o s s h0=>oR S M st nn bud f a n l q.heap.size 4 Z hn ha HP c i W o s (Y.kp (Kp.below (M:=M) (N:=T.heap.size) d Z Z Z)) (S4.im.kp (Kp.below (N:=T.heap.size) (b:=q.heap.size) d Z Z Z)) h0)
  Kp.trans (λW l o c F h _ _=>Ap (S:=S) (M:=M) (b:=q.heap.size) (N:=T.heap.size) Z Z Z W l o c F h) (Jn _ _) (λ_=>rfl)
  (λj W=>Sd S M st nn bud f (stF m a n y j).2 w R p n u (stF m a n y j).1 W/\Cl S q.heap.size a n W)
  (λc j W=>False)
  ?own (λc s A B a0 d G hr=>d) ⟨S4,Y⟩
  (λx=>{ tmps:=#[J S 0,U a,.slice p n u,undef,undef,J R 0,I 0,I 0,.slice (some ⟨(f ((a+x.1)/1024)).getD 0,(a+x.1)%1024,none⟩) (bd a n x.1) (1024-(a+x.1)%1024),J S 0,U a,.slice p n u,I n,I 0,I 0,.bool false,undef,J S 0,U a,.slice p n u,I n,.func (.func 264) #[] #[J (q.heap.size+1+1) 0,J (q.heap.size+1) 0,J q.heap.size 0],.slice (some ⟨(f ((a+x.1)/1024)).getD 0,(a+x.1)%1024,none⟩) (bd a n x.1) (1024-(a+x.1)%1024),undef,undef,undef,undef,undef],defers:=[] }) ?assign ?body ?done ?stop
 case own =>
  rintro s A B a0 ⟨F,v⟩ G hr;have P:∀ r,a0=some r->w.heap.size<=r/\∀ O t z,A.heap[r]?≠some (.cells O t z):=by
   intro r e;obtain⟨i,o,Q,h3⟩:=hr r e;refine⟨Z,λO t z h5=>?_⟩;rw [h5] at Q;cases Q;cases h3
  have K:∀ (b:Nat) (O:Array Value) (t:TypeId) (z:Nat×Nat),A.heap[b]?=some (Obj.cells O t z)->B.heap[b]?=A.heap[b]?:=λb O t z i=>G.block b (zQ i) (λe=>(P b e.symm).2 O t z i)
  exact⟨F.keep G P,(K _ _ _ _ v.s).trans v.s,(K _ _ _ _ v.a).trans v.a,(K _ _ _ _ v.n).trans v.n⟩
 case assign =>
  intro l x W K hK;clear k;unfold xA;gi_wp2;exact hK
 case stop =>
  intro i c j W _ _ h;exact h.elim
 case body =>
  rintro l j x W ⟨F,v⟩ a3;obtain⟨g,G⟩:=HP.out x.1 x.2;obtain⟨pd,K,W1,a4,a5,a6,a7,a8,a1,P,a2⟩:=F.piece (Fc m a n y j) V HD G x.2 v;have HR:=H (LG a1 (LG P (LG a2 (v.kp P))));have c0:W.cell? ⟨R,0,none⟩=some (.slice pd (n-(stF m a n y j).1) (u-(stF m a n y j).1)):=by simp [World.cell?,K]
  rw [G];simp only [H4];have ES:=H (sN m a n y j x);clear F v K a1 P a2 S4 Y k h4;gi_wp2
  gi_region
  all_goals
   gi_wp2
   refine⟨HR.2.2.1,HR.2.1,?_,HR.2.2.2⟩
   rw [ES.out]
   exact HR.1
 case done =>
  rintro i xs W hD K ⟨F,v⟩ hK;rw [Got.stF HD.1 FU.out SO.out K] at F;have g3:=grownBy_putObj' W i (.deferred none);have P:=F.keep g3 (λr e=>by cases e;exact⟨Z,λO t z h5=>by rw [hK] at h5;cases h5⟩);have HF:=H P;clear F v P g3 S4 Y k h4;gi_wp2;refine⟨bh,.inl ⟨_,_,rfl,run_takeDeferred hK,?_⟩⟩;refine⟨I 0,?_,rfl,HF.im,HF.pg,HF.fr⟩;simp [results,Tryz.f203,go_sem]
end
end Go.Proofs.YtdfodlhkdmkfdaaGreatDoor
