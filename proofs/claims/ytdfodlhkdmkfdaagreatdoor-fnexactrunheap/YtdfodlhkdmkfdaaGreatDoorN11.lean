import Derived.Deep.RegionHeld
import Derived.Lib.SmallJoins
import Derived.Test.YtdfodlhkdmkfdaaGreatDoorN07
import Derived.Test.YtdfodlhkdmkfdaaGreatDoorN08
import Derived.Test.YtdfodlhkdmkfdaaGreatDoorN09
set_option linter.unusedVariables false
set_option linter.unusedSimpArgs false
set_option maxRecDepth 20000
set_option maxHeartbeats 8000000
namespace Go.Proofs.YtdfodlhkdmkfdaaGreatDoor
open Go.Proofs.Tryz
variable {W W' v w:World} {B G c g i k n s:Nat} {a:Option Addr} {ms:List Int} {cf:Cf} {h:Hs} {xs:List Value} {x:Sm} {m:Nat->Option (Bool×List Int)}
section
open Go.RowKit Go.Shelf
theorem Da.keep {S M f V p ys} (h:Da S M f w p n ys) (a:Fr S M f f w V):Da S M f V p n ys:=by
 refine⟨h.1,λi j=>?_⟩;obtain⟨x,e,c,l,b,d,g⟩:=h.2 i j;refine⟨x,e,?_,Ju l a.size,b,d,g⟩;unfold World.cell? at c ⊢;rw [a.block _ l b d g];exact c
theorem zg (S M) (g:Nat) (bud f m p c) (a:Nat) (n d b) (j:Nat) (ys w) (h:Im S M 0 g bud f w) (u:Pg f m w) (ha:a<18446744073709551616) (o:Da S M f w d b ys) (s:b<=j) :
  Calls prog 174 #[J S 0,kN 5 p c a n d b j] w λe t=>e=.returned (.agg #[I (b_ g bud m 5 p c a n ys).2.1,C])/\uv S M g bud f (b_ g bud m 5 p c a n ys).1 w t:=by
 have v:b_ g bud m 5 p c a n ys=(if cr m a (ys.length:Int)=0 then ax m a ys ys.length else m,cr m a (ys.length:Int),[]):=by unfold b_;rw [tg al,tm rfl]
 rw [v,o.1];refine run_store S M g bud f m _ _ p c a n d b j w h u (λV i q r=>?_);by_cases l:cr m a (b:Int)=0
 ·rw [l,tm rfl];obtain⟨k,K,x,y,z⟩:=rD l;obtain rfl:b=k:=Z;have A:=zV S M 1 g bud f m a b j d ys V i q x s y (o.keep r) (λd o=>kF q (z d o)) (λW o r=>by
   have:=iT S M 1 g bud f m a (b:Nat) W o r ha;rwa [l] at this)
  refine ((callsIn_wide (n:=5)).1 A).mono ?_;rintro e t ⟨rfl,B,F,G⟩;exact⟨rfl,f,B,F,G⟩
 rw [tg l];refine (wH S a _ b j d V (by simpa using l) (iT S M 1 g bud f m a b _ (i.alloc _) (q.alloc _) ha)).mono ?_;rintro e t ⟨rfl,rfl⟩;exact⟨rfl,f,i.alloc _,q.alloc _,Fr.ofGrown (y6 _ _ none)⟩
theorem Ks (S M) (b:Nat) (bud f m kd) (p:Int) (c) (a:Nat) (n d dl) (j:Nat) (ys w) (h:Im S M 0 b bud f w) (o:Pg f m w) (l:∀ k,b<=k->m k=none) (q:b<=4096) (ha:a<18446744073709551616) (s:p<=9223372036854775807) (y:Da S M f w d dl ys) (t:dl<=j) :
  Calls prog 174 #[J S 0,kN kd p c a n d dl j] w λe g=>∃ v,e=.returned (.agg #[I (b_ b bud m kd p c a n ys).2.1,v])/\g.ownsRow w.heap.size 5 1 v (b_ b bud m kd p c a n ys).2.2.length (Ns .u8 (b_ b bud m kd p c a n ys).2.2)/\uv S M b bud f (b_ b bud m kd p c a n ys).1 w g:=by
 have i:∀ (e:Ending) (g:World),(b_ b bud m kd p c a n ys).2.2=[]->(e=.returned (.agg #[I (b_ b bud m kd p c a n ys).2.1,C])/\uv S M b bud f (b_ b bud m kd p c a n ys).1 w g)->∃ v,e=.returned (.agg #[I (b_ b bud m kd p c a n ys).2.1,v])/\g.ownsRow w.heap.size 5 1 v (b_ b bud m kd p c a n ys).2.2.length (Ns .u8 (b_ b bud m kd p c a n ys).2.2)/\uv S M b bud f (b_ b bud m kd p c a n ys).1 w g:=by
  rintro e g u ⟨rfl,r⟩;exact⟨_,rfl,by rw [u];exact⟨rfl,.inl ⟨rfl,rfl⟩⟩,r⟩
 by_cases r:kd=4;·subst r;exact AE S M b bud f m p c a n d dl j ys w h o ha
 by_cases u:kd=5;·subst u;refine (zg S M b bud f m p c a n d dl j ys w h o ha y t).mono (λe g=>i e g ?_);unfold b_;rw [tg al,tm rfl]
 by_cases x:kd<0\/5<kd;·refine (AT S M b bud f m kd p c a n d dl j ys w h o x).mono (λe g=>i e g ?_);unfold b_;rw [tg r,tg u,tm x]
 refine (AJ S M b bud f m kd p c a n d dl j ys w h o l q s Z).mono (λe g=>i e g ?_);unfold b_;rw [tg r,tg u,tg x];split <;> rfl
theorem pO (m) (p:Nat):∀ k j,p+k<=j->aT m p k j=m j
 | 0,j,h=>rfl
 | k+1,j,h=>by
  show dY (aT m p k) (p+k) _ j=m j
  rw [aW _ _ _ _ Z]
  exact pO m p k j Z
theorem tf (m) (p:Nat):∀ k j,p+k<=j->bQ m p k j=m j
 | 0,j,h=>rfl
 | k+1,j,h=>by
  show dY (bQ m p k) (p+k) _ j=m j
  rw [aW _ _ _ _ Z]
  exact tf m p k j Z
end
section
open Go.ChangeShapes Go.WideShapes Go.ChangeAt Go.RowKit
structure Two (w:World) (g G:Nat) (cs:Array Value) (W:World):Prop where
 rt:Rt w g W
 row:W.heap[G]?=some (.cells cs 243)
 ne:g<G
theorem Rt.lt (h:Rt w g v):g<v.heap.size:=by
 by_cases b:g<v.heap.size;·exact b
 have:v.heap[g]?=none:=BC Z;have a:=h.blk;rw [this] at a;cases a
theorem Two.first (h:Rt w g v) (cs):Two w g v.heap.size cs ((v.alloc (.cells z6 243)).setRow v.heap.size cs) :=
 ⟨h.below (Below.setRow ((Jn _ _).alloc (Jo _) _) (Jo _) _),vH (iO _ _) _,h.lt⟩
theorem Two.below {w v v' g G cs} (h:Two w g G cs v) (b:D v v'):Two w g G cs v':=by
 have a:G<v.heap.size:=by
  by_cases a:G<v.heap.size;·exact a
  have:v.heap[G]?=none:=BC Z;have c:=h.row;rw [this] at c;cases c
 exact⟨h.rt.below b,by rw [b.block G a];exact h.row,h.ne⟩
theorem Two.set {cs} (h:Two w g G cs v) (i:Nat) (x:Value):Two w g G (cs.setIfInBounds i x) (v.setCell ⟨G,i,none⟩ x):=by
 have a:G≠g:=by have:=h.ne;omega
 refine⟨⟨?_,h.rt.bel.setCell (p:=⟨G,i,none⟩) (by have:=h.rt.new;have:=h.ne;show _<=G;omega) _,h.rt.new⟩,?_,h.ne⟩;·have:=h.rt.blk;rw [t4 _ _ _ _ (by exact KN a)];exact this
 simp [World.setCell,Jw,h.row]
theorem Two.cell {w v g G cs} (h:Two w g G cs v) (i:Nat):v.cell? ⟨G,i,none⟩=cs[i]?:=by
 simp [World.cell?,h.row]
theorem Two.free {cs} (h:Two w g G cs v) (i:Nat):v.frozen? ⟨G,i,none⟩=false:=by
 simp [World.frozen?,h.row]
end
section
open Go.RowKit
theorem FP (h:c<12):c=0\/c=1\/c=2\/c=3\/c=4\/c=5\/c=6\/c=7\/c=8\/c=9\/c=10\/c=11:=Z
theorem xH (h:c<12):sz (c:Int)=(cR c:Nat):=by
 rcases FP h with rfl|rfl|rfl|rfl|rfl|rfl|rfl|rfl|rfl|rfl|rfl|rfl <;> decide
theorem sY (h:c<12):pg (c:Int)=(dQ c:Nat):=by
 rcases FP h with rfl|rfl|rfl|rfl|rfl|rfl|rfl|rfl|rfl|rfl|rfl|rfl <;> decide
theorem wO (h:c<12):sl (c:Int)=(aU c:Nat):=by
 rcases FP h with rfl|rfl|rfl|rfl|rfl|rfl|rfl|rfl|rfl|rfl|rfl|rfl <;> decide
theorem Gc (h:c<12):us (c:Int)=(fy c:Nat):=by
 rcases FP h with rfl|rfl|rfl|rfl|rfl|rfl|rfl|rfl|rfl|rfl|rfl|rfl <;> decide
theorem zt (h:c<12):rs (c:Int)=(AC c:Nat):=by
 rcases FP h with rfl|rfl|rfl|rfl|rfl|rfl|rfl|rfl|rfl|rfl|rfl|rfl <;> decide
theorem bI (h:c<12):16<=cR c/\cR c<=1024/\1<=dQ c/\dQ c<=4/\4<=aU c/\aU c<=64/\aU c*cR c<=dQ c*1024/\fy c+8=cR c/\AC c+6*(dQ c+1)<=187/\1<=AC c:=by
 rcases FP h with rfl|rfl|rfl|rfl|rfl|rfl|rfl|rfl|rfl|rfl|rfl|rfl <;> decide
theorem cL (h:c<12) (a:s<6):1<=aF c s/\aF c s+dQ c<187:=by
 have:=bI h;unfold aF;have:s*(dQ c+1)<=5*(dQ c+1):=JR _ Z;omega
theorem cY {j:Nat} (h:c<12) (a:s<6) (b:j<aU c):1024<=bF c s j/\bF c s j+cR c<=(aF c s+dQ c)*1024/\bF c s j+cR c<191488:=by
 have d:=bI h;have e:=cL h a;have f:j*cR c+cR c<=aU c*cR c:=by
  have:(j+1)*cR c<=aU c*cR c:=JR _ b;rw [J4,Ki] at this;exact this
 unfold bF;omega
theorem CQ {a:Nat} (h:a<=1016):co (a:Int)=(gN a:Nat)/\gN a<12/\a+8<=cR (gN a):=by
 have b:∀ a:Fin 1017,co ((a.val:Nat):Int)=(gN a.val:Nat)/\gN a.val<12/\a.val+8<=cR (gN a.val):=by decide +kernel
 exact b ⟨a,Z⟩
end
section
open Go.ChangeShapes Go.WideShapes Go.ChangeAt Go.RowKit
theorem yv (a:List Int) (i k:Nat) (x:Int) (b:k<a.length):(a.set i x).take (k+1)=(a.set i x).take k++[if k=i then x else a[k]?.getD 0]:=by
 rw [JK];congr 1;rw [J5];by_cases h:i=k;·subst h;simp [b]
 rw [tg h,tg (λe=>h e.symm)];simp [b]
structure Lp (w:World) (s o:Nat) (am:Option Addr) (lm cm:Nat) (af:Option Addr) (lf cf n:Nat) (k:Nat) (a:Option Addr) (c:Nat) (ms:List Int) (W:World):Prop where
 ob:W.heap[o]?=some (.cells #[.slice a k c,C,I n] 104)
 ow:Ow W (o+1) a c (ms.take k)
 s0:W.heap[s]?=some (.cells #[.slice am lm cm,.slice af lf cf,I n] 104)
 s1:W.heap[s+1]?=some (.cells #[C,C,I 0] 104)
 b:D w W
theorem Jl (h:k<=ms.length):(ms.take k).length=k:=cd
theorem Lp.next {o am lm cm af lf cf} (h:Lp w s o am lm cm af lf cf n k a c ms W) (q:w.heap.size=s) (l:s+1<o) (z:ms.length=lm) (A:k<lm) (r:lm<=16) (x:Int) (t:ms.take (k+1)=ms.take k++[x]) :
  ∃ d e W',(Builtin.append_ #[23,23] 23 #[.slice a k c,Vl W.heap.size 1 1]).run prog (W.alloc (.cells #[I x] 3))=.ok (.slice d (k+1) e) W'/\W'.cell? ⟨o,0,none⟩=some (.slice a k c)/\W'.frozen? ⟨o,0,none⟩=false/\Lp w s o am lm cm af lf cf n (k+1) d e ms (W'.setCell ⟨o,0,none⟩ (.slice d (k+1) e)):=by
 have b:D W (W.alloc (.cells #[I x] 3)):=(Jn _ W).alloc (Jo _) _;have m:=Jl (ms:=ms) (k:=k) Z;have B:=dO h.ob;obtain⟨d,e,W',p,i,f⟩:=mc (W.alloc (.cells #[I x] 3)) (o+1) a c (ms.take k) (some ⟨W.heap.size,0,none⟩) 1 1 [x] (h.ow.below b) rfl bh (.inr ⟨_,rfl,λj u l=>by
  cases j with
  | zero =>
   simp [Ns] at l;subst l;rw [show (⟨W.heap.size,0,none⟩:Addr).add 0=⟨W.heap.size,0,none⟩ from rfl,t6 _ _ _ _ _ _ (dI W _)];rfl
  | succ j=>simp [Ns] at l⟩) (by rw [m];omega) (by have:=b.size;omega)
 rw [m] at p;rw [<-t] at i;have j:=f.at (ae h.ob b) Z;have v:=f.at (ae h.s0 b) Z;have y:=f.at (ae h.s1 b) Z;refine⟨d,e,W',p,aM j,xg _ _ _ _ _ j,⟨?_,?_,bT v _ _ _ Z,bT y _ _ _ Z,?_⟩⟩;·rw [Ku _ _ _ _ _ _ j];rfl
 ·exact i.but (S:=λk=>k=o) ((But.refl _ W').set _ _ _ rfl) (λg e=>by have:=(i.base g e).1;omega)
 exact ((aB h.b b).trans (f.below (by rw [q];have:=b.size;omega) (λg b=>Z))).setCell it _
theorem vJ (W base a c zs y) (h:Ow W base a c zs) (f:zs.length<=1000000) (g:base<=W.heap.size) :
  ∃ b d W',(Builtin.append_ #[23,23] 23 #[.slice a zs.length c,Vl W.heap.size 1 1]).run prog (W.alloc (.cells #[I y] 3))=.ok (.slice b (zs.length+1) d) W'/\Ow W' base b d (zs++[y])/\But (λk=>base<=k) W W':=by
 have e:D W (W.alloc (.cells #[I y] 3)):=(Jn _ W).alloc (Jo _) _;obtain⟨b,d,W',i,l,g⟩:=mc (W.alloc (.cells #[I y] 3)) base a c zs (some ⟨W.heap.size,0,none⟩) 1 1 [y] (h.below e) rfl bh (.inr ⟨_,rfl,λj u f=>by
  cases j with
  | zero =>
   simp [Ns] at f;subst f;rw [show (⟨W.heap.size,0,none⟩:Addr).add 0=⟨W.heap.size,0,none⟩ from rfl,t6 _ _ _ _ _ _ (dI W _)];rfl
  | succ j=>simp [Ns] at f⟩) Z (by have:=e.size;omega)
 exact⟨b,d,W',i,l,(But.ofBelow e).trans g⟩
theorem Sl.srcs {zs} (h:Sl w a zs):(a=none/\zs=[])\/∃ b,a=some b/\∀ j u,(Ns .i64 zs)[j]?=some u->w.cell? (b.add j)=some u:=by
 rcases h with h|⟨g,rfl,d⟩;·exact .inl h
 right;refine⟨_,rfl,λj v b=>?_⟩;have c:j<(Ns .i64 zs).length:=by
  by_cases c:j<(Ns .i64 zs).length;·exact c
  rw [JB Z] at b;cases b
 have:=d.cell j c;rw [b] at this;have e:(⟨g,0,none⟩:Addr).add j=⟨g,j,none⟩:=by cases j <;> simp [Addr.add]
 rw [e];exact this
def Ft (w:World) (n:Nat) (M F:List Int) (z:Int) (e:Ending) (t:World):Prop :=
 ∃ j c1 i c2,e=.returned (.tuple #[wv j M.length c1 i F.length c2 (n:Nat),I z])/\Wt t j M.length i F.length M F/\(j=none->c1=0)/\(i=none->c2=0)/\D w t/\(∀ g,j=some ⟨g,0,none⟩->w.heap.size<=g)/\(∀ g,i=some ⟨g,0,none⟩->w.heap.size<=g)
theorem Lp.fin {o am lm cm af lf cf W2} (h:Lp w s o am lm cm af lf cf n lm a c ms W) (K:w.heap.size=s) (y:s+1<o) (v:ms.length=lm) {a2 c2 F} (p:D W W2) (m:Ow W2 W.heap.size a2 c2 F) :
  W2.heap[o]?=some (.cells #[.slice a lm c,C,I n] 104)/\(∀ b,b=W2.setCell ⟨o,1,none⟩ (.slice a2 F.length c2)\/b=(W2.setCell ⟨o,1,none⟩ (.slice a2 F.length c2)).drew ->
   b.cell? ⟨o,0,none⟩=some (.slice a lm c)/\b.cell? ⟨o,1,none⟩=some (.slice a2 F.length c2)/\b.cell? ⟨o,2,none⟩=some (I n) /\
   b.heap[s+1]?=some (.cells #[C,C,I 0] 104) /\
   ∀ f z,f=((b.setCell ⟨s+1,0,none⟩ (.slice a lm c)).setCell ⟨s+1,1,none⟩ (.slice a2 F.length c2)).setCell ⟨s+1,2,none⟩ (I n)\/f=(((b.setCell ⟨s+1,0,none⟩ (.slice a lm c)).setCell ⟨s+1,1,none⟩ (.slice a2 F.length c2)).setCell ⟨s+1,2,none⟩ (I n)).drew->Ft w n ms F z (.returned (.tuple #[.agg #[.slice a lm c,.slice a2 F.length c2,I n],I z])) f):=by
 have L:=dO h.ob;have q:=ae h.ob p;have A:=ae h.s1 p;have e:ms.take lm=ms:=by rw [<-v,zM]
 have l:=h.ow;rw [e] at l;refine⟨q,λb x=>?_⟩;have d:But (λk=>k=o) W2 b:=by
  rcases x with rfl|rfl;·exact (But.refl _ W2).set _ _ _ rfl
  exact ((But.refl (λk=>k=o) W2).set _ _ _ rfl).drew
 have i:b.heap[o]?=some (.cells #[.slice a lm c,.slice a2 F.length c2,I n] 104):=by
  rcases x with rfl|rfl;·rw [Ku _ _ _ _ _ _ q];rfl
  show (W2.setCell ⟨o,1,none⟩ _).heap[o]?=_;rw [Ku _ _ _ _ _ _ q];rfl
 refine⟨aM i,aM i,aM i,d.at A Z,λf z B=>?_⟩;have j:But (λk=>k=s+1) b f:=by
  rcases B with rfl|rfl;·exact (((But.refl (λk=>k=s+1) b).set _ _ _ rfl).set _ _ _ rfl).set _ _ _ rfl
  exact ((((But.refl (λk=>k=s+1) b).set _ _ _ rfl).set _ _ _ rfl).set _ _ _ rfl).drew
 have r:Sl f a ms:=(((l.below p).but d (λg e=>by have:=(l.base g e).1;omega)).but j (λg e=>by have:=(l.base g e).1;omega)).sl;have t:Sl f a2 F:=((m.but d (λg e=>by have:=(m.base g e).1;omega)).but j (λg e=>by have:=(m.base g e).1;omega)).sl;refine⟨a,c,a2,c2,by rw [v];rfl,⟨r,rfl,t,rfl⟩,l.cap0,m.cap0,?_,λg e=>by have:=(l.base g e).1;omega,λg e=>by have:=(m.base g e).1;have:=h.b.size;omega⟩;have u:=aB h.b p;exact (u.trans (d.below (by have:=u.size;omega) (λg G=>Z))).trans (j.below (by have:=u.size;have:=d.size;omega) (λg G=>Z))
end
section
open Go.RowKit
theorem rV (a:Nat) (w:World) (ha:a<18446744073709551616) :
  Calls prog 141 #[U a] w λe c=>e=.returned (U (aS a:Nat))/\c=w:=by
 by_cases h:0<a%1024
 ·have b:=H (show aS a=a/1024+1 by unfold aS;rw [tm h]);have d:(0:Int)<(a:Int)%1024:=Z;go_enter func141,ntmps141;go_wp2;go_ret;refine⟨?_,rfl⟩;rw [b.out];exact ct Z
 have b:=H (show aS a=a/1024 by unfold aS;rw [tg h];rfl);have d:¬((0:Int)<(a:Int)%1024):=Z;go_enter func141,ntmps141;go_wp2;go_ret;refine⟨?_,rfl⟩;rw [b.out];exact ct Z
def GY:List (Nat×Nat×Nat)->Bool
 | a::b::r=>decide (bF a.1 a.2.1 a.2.2<bF b.1 b.2.1 b.2.2)&&GY (b::r)
 | _=>true
theorem AI:GY dM=true:=by decide +kernel
theorem sV:∀ (l:List (Nat×Nat×Nat)) (k:Nat) (a b:Nat×Nat×Nat),GY l=true->l[k]?=some a->l[k+1]?=some b->bF a.1 a.2.1 a.2.2<bF b.1 b.2.1 b.2.2
 | [],k,a,b,_,h,_=>by simp at h
 | [y],k,a,b,_,_,h=>by simp at h
 | y::z::r,0,a,b,c,d,e=>by
  simp [GY] at c d e
  subst d e
  exact c.1
 | y::z::r,k+1,a,b,c,d,e=>by
  simp only [GY,JY] at c
  exact sV (z::r) k a b c.2 (by simpa using d) (by simpa using e)
theorem yB (h:k+1<1062):gJ k<gJ (k+1):=sV dM k (sA k) (sA (k+1)) AI (hH Z) (hH h)
theorem nj {i:Nat} : ∀ {k:Nat},i<k->k<1062->gJ i<gJ k
 | 0,h,_=>by omega
 | k+1,h,a=>by
  have b:=yB a
  by_cases e:i=k
  ·subst e;exact b
  have:=nj (i:=i) (k:=k) Z Z
  omega
theorem yP (b:i<1062) (c:k<1062) (h:sA i=sA k):i=k:=by
 have e:gJ i=gJ k:=by unfold gJ;rw [h]
 rcases Kv i k with a|a|a;·have:=nj a c;omega
 ·exact a
 have:=nj a b;omega
theorem qo {j:Nat} (d:c<12) (e:s<6) (f:j<aU c):∃ k,k<1062/\sA k=(c,s,j):=by
 have g:(c,s,j)∈dM:=by
  unfold dM;simp only [List.mem_flatMap,JW,JE];exact⟨c,d,s,e,j,f,rfl⟩
 obtain⟨k,a⟩:=BR g;have b:=(Jr.1 a).1;rw [gn] at b;refine⟨k,b,?_⟩;unfold sA;rw [a];rfl
theorem nH (b:k<1062):(sA k).1<12/\(sA k).2.1<6/\(sA k).2.2<aU (sA k).1:=by
 have a:sA k∈dM:=JA (hH b);unfold dM at a;simp only [List.mem_flatMap,JW,JE] at a;obtain⟨c,d,s,f,j,g,e⟩:=a;rw [<-e];exact⟨d,f,g⟩
theorem sZ {v:Int} (a:k<1062) (b:i<1062):aJ h.st (sA k).1 (sA k).2.1 (sA k).2.2 v (sA i).1 (sA i).2.1 (sA i).2.2=if i=k then v else dH h i:=by
 unfold aJ dH;by_cases e:i=k;·subst e;simp
 rw [tg e,tg];rintro⟨h1,h2,h3⟩;exact e (yP b a (by rw [Prod.ext_iff,Prod.ext_iff];exact⟨h1,h2,h3⟩))
def sC (h:Hs) (t:Nat×Nat×Nat):List Value:=[I t.1,I t.2.1,I t.2.2,U (bF t.1 t.2.1 t.2.2:Nat),I (h.st t.1 t.2.1 t.2.2),I (h.rq t.1 t.2.1 t.2.2)]
theorem eV (h):(jK h).length=6372:=by
 have b:∀ l:List (Nat×Nat×Nat),(l.flatMap (sC h)).length=l.length*6:=λl=>by
  induction l with
  | nil=>rfl
  | cons a r c=>rw [Kw,Jv,c,JD];show 6+_=_;omega
 have:=b dM;rw [gn] at this;exact this
theorem ks (h) {q r:Nat} (a:q<1062) (b:r<6):(jK h)[q*6+r]?=(sC h (sA q))[r]?:=eY (sC h) 6 (λ_=>rfl) dM q (sA q) (hH a) r b
theorem oN (b:xs.length=6372) (a:∀ q r,q<1062->r<6->xs[q*6+r]?=(sC h (sA q))[r]?):jK h=xs:=by
 apply GR;intro i;by_cases c:i<6372
 ·have e:i=i/6*6+i%6:=Z;rw [e,ks h Z Z,a _ _ Z Z]
 rw [JB (by rw [eV];omega),JB Z]
theorem yj (h:Hs) (c:k<1062) (v:Int):jK { h with st:=aJ h.st (sA k).1 (sA k).2.1 (sA k).2.2 v }=(jK h).set (k*6+4) (I v):=by
 refine oN (by rw [JU,eV]) (λq r b d=>?_);rw [J5,ks h b d,eV];have a:=sZ (h:=h) (v:=v) c b;by_cases e:k*6+4=q*6+r
 ·have f:q=k:=Z;have g:r=4:=Z;subst f g;rw [tm rfl,tm Z];rw [tm rfl] at a;simp only [sC];rw [a];rfl
 rw [tg e];by_cases f:r=4;·subst f;rw [tg (show q≠k by omega)] at a;simp only [sC];rw [a];rfl
 have:r=0\/r=1\/r=2\/r=3\/r=5:=Z;rcases this with rfl|rfl|rfl|rfl|rfl <;> rfl
theorem Ag (h:Hs) (c:k<1062) (v:Int):jK { h with rq:=aJ h.rq (sA k).1 (sA k).2.1 (sA k).2.2 v }=(jK h).set (k*6+5) (I v):=by
 refine oN (by rw [JU,eV]) (λq r b d=>?_);rw [J5,ks h b d,eV];have a:=sZ (h:={ h with st:=h.rq }) (v:=v) c b;dsimp only at a;by_cases e:k*6+5=q*6+r
 ·have f:q=k:=Z;have g:r=5:=Z;subst f g;rw [tm rfl,tm Z];rw [tm rfl] at a;simp only [sC];rw [a];rfl
 rw [tg e];by_cases f:r=5;·subst f;rw [tg (show q≠k by omega)] at a;simp only [sC];rw [a];rfl
 have:r=0\/r=1\/r=2\/r=3\/r=4:=Z;rcases this with rfl|rfl|rfl|rfl|rfl <;> rfl
theorem dZ {e:TypeId} {sz:Nat} {cap} (h:W.ownsRow B e sz (Vl G n cap) n xs) (i:Nat) (m:i<xs.length) (v:Value):(W.setCell ⟨G,i,none⟩ v).ownsRow B e sz (Vl G n cap) n (xs.set i v):=by
 refine⟨by rw [JU];exact h.1,?_⟩;rcases h.2 with ⟨e,_⟩|⟨g,b,a,e,c,d,f,j,k,l⟩;·simp at e
 simp at e;obtain⟨rfl,rfl⟩:=e;refine .inr ⟨G,cap,a.setIfInBounds i v,rfl,c,?_,f,j,by simpa using k,?_⟩;·simp [World.setCell,Jw,d]
 rw [<-l,Array.toList_setIfInBounds,List.take_set]
theorem dz {e:TypeId} {sz:Nat} {cap} (h:W.ownsRow B e sz (Vl G n cap) n xs):∃ c,W.heap[G]?=some (.cells c e):=by
 rcases h.2 with ⟨e,_⟩|⟨g,b,a,e,f,d,_⟩;·simp at e
 simp at e;obtain⟨rfl,rfl⟩:=e;exact⟨a,d⟩
theorem Sh.slots {h'} (a:Sh B x cf h W) (k:Ky (· = 100) W W') (b:W'.ownsRow B 100 6 (Vl x.G 1062 x.gc) 1062 (jK h')) (e:h'.m=h.m) (f:h'.mx=h.mx) (i:h'.ff=h.ff) (j:h'.rg=h.rg) (l:h'.row=h.row) (m:h'.rel=h.rel) (n:h'.used=h.used):Sh B x cf h' W':=by
 refine⟨?_,a.bp,a.bq,λg o=>a.bg g (di (a.sp.qEq k al) o),a.ds.ky k al,?_,b,ai a.wt k al,λc d=>?_,?_,?_,?_⟩;·rw [n];exact k.cells _ _ _ _ a.box al
 ·rw [e];exact a.sp.ky k al al al
 ·rw [f,i];exact⟨(a.wm c d).1.ky k al,(a.wm c d).2.ky k al⟩
 ·rw [j];exact ai a.rg k al
 ·rw [l];exact ai a.ro k al
 rw [m];exact ai a.rl k al
theorem Sh.setSt (a:Sh B x cf h W) (b:k<1062) (v:Int):Sh B x cf { h with st:=aJ h.st (sA k).1 (sA k).2.1 (sA k).2.2 v } (W.setCell ⟨x.G,k*6+4,none⟩ (I v)):=by
 obtain⟨c,d⟩:=dz a.sl;refine a.slots (Ky.grown d rfl (au (ao W x.G) _ _)) ?_ rfl rfl rfl rfl rfl rfl rfl;rw [yj h b];exact dZ a.sl _ (by rw [eV];omega) _
theorem Sh.setRq (a:Sh B x cf h W) (b:k<1062) (v:Int):Sh B x cf { h with rq:=aJ h.rq (sA k).1 (sA k).2.1 (sA k).2.2 v } (W.setCell ⟨x.G,k*6+5,none⟩ (I v)):=by
 obtain⟨c,d⟩:=dz a.sl;refine a.slots (Ky.grown d rfl (au (ao W x.G) _ _)) ?_ rfl rfl rfl rfl rfl rfl rfl;rw [Ag h b];exact dZ a.sl _ (by rw [eV];omega) _
theorem Sh.slotF (a:Sh B x cf h W) (i:Nat):W.frozen? ⟨x.G,i,none⟩=false:=by
 obtain⟨c,b⟩:=dz a.sl;simp [World.frozen?,b]
theorem Sf.ky {T Q bud} (b:Sf Q W W') (e:Sx T Q n bud m W):Ky (λt=>t=164\/t=5) W W':=by
 refine⟨b.os,b.tape,b.output,b.size,λg c t f d i=>?_⟩;rw [b.block g (ah d) ?_ (λj=>?_)];·exact d
 ·rintro rfl;obtain⟨k,a,_⟩:=e.row;rw [d] at a;simp at a;exact i (.inl a.2.1)
 obtain⟨k,a⟩:=e.pgT j;rw [d] at a;simp at a;exact i (.inr a.2.1)
theorem Sh.space (a:Sh B x cf h W) (j:B<=W.heap.size) (m') (f:Sx x.T x.Q 283 (cf.bud:Nat) m' W') (b:Sf x.Q W W'):Sh B x cf { h with m:=m' } W':=by
 have k:=b.ky a.sp;refine⟨k.cells _ _ _ _ a.box al,a.bp,a.bq,λg i=>?_,a.ds.ky k al,f,ai a.sl k al,ai a.wt k al,λc d=>⟨(a.wm c d).1.ky k al,(a.wm c d).2.ky k al⟩,ai a.rg k al,ai a.ro k al,ai a.rl k al⟩;rcases b.pg g i with e|e;·exact a.bg g e
 omega
def Ai (h:Hs):Prop:=∀ c s j,0<=h.st c s j/\h.st c s j<=4
theorem Ab (l:Ai h) (m:c<12) (n:s<6):(jE h c s [1,2,4] 1062=[])↔(freeS h c s).length=aU c:=by
 unfold jE freeS;rw [Lh];constructor
 ·intro g;have:((List.range (aU c)).filter λj=>bv (h.st c s j))=List.range (aU c):=by
   rw [KE];intro j e;rw [JW] at e;obtain⟨k,a,d⟩:=qo m n e;have b:=g k (JW.2 a);unfold dH at b;rw [d] at b;have f:=l c s j;unfold bv;simp at b ⊢;omega
  rw [this,Kn]
 intro o k a;rw [JW] at a;have d:∀ j∈List.range (aU c),bv (h.st c s j)=true:=by
  have:=List.length_filter_eq_length_iff.1 (by rw [o,Kn]:((List.range (aU c)).filter λj=>bv (h.st c s j)).length=(List.range (aU c)).length);exact this
 intro g;simp only [JY,beq_iff_eq] at g;obtain⟨b,f,e⟩:=g;have p:=nH a;have i:=d (sA k).2.2 (JW.2 (by rw [<-b];exact p.2.2));unfold dH at e;rw [b,f] at e;unfold bv at i;simp at e i;omega
theorem p6 (c:Nat) (W:World) (a:c<12):Calls prog 134 #[I c] W λe W'=>e=.returned (I (dQ c:Nat))/\D W W':=by
 refine (fJ (c:Int) W).mono ?_;rintro e W' ⟨rfl,b⟩;exact⟨ct (sY a),b⟩
theorem lx {P:Program} {b:Func} (h:b.results=#[]) (a:Array Value) (w:World):(results b a).run P w=.ok (.tuple #[]) w:=by
 simp [results,h]
theorem kV (m) (p:Nat):∀ k j,p<=j->j<p+k->aT m p k j=some (false,List.replicate 1024 0)
 | 0,j,a,b=>by omega
 | k+1,j,a,b=>by
  show dY (aT m p k) (p+k) _ j=_
  by_cases e:j=p+k
  ·subst e;rw [bZ]
  rw [aW _ _ _ _ e];exact kV m p k j a Z
theorem kx (m) (p:Nat):∀ k j,j<p->aT m p k j=m j
 | 0,j,h=>rfl
 | k+1,j,h=>by
  show dY (aT m p k) (p+k) _ j=m j
  rw [aW _ _ _ _ Z]
  exact kx m p k j h
theorem c_ (m p) (k j:Nat):aT m p k j=if p<=j/\j<p+k then some (false,List.replicate 1024 0) else m j:=by
 split;·rename_i h;exact kV m p k j h.1 h.2
 rename_i h;by_cases e:j<p;·exact kx m p k j e
 exact pO m p k j Z
theorem sH (m) (p:Nat):∀ k j,p<=j->j<p+k->bQ m p k j=none
 | 0,j,a,b=>by omega
 | k+1,j,a,b=>by
  show dY (bQ m p k) (p+k) _ j=_
  by_cases e:j=p+k
  ·subst e;rw [bZ]
  rw [aW _ _ _ _ e];exact sH m p k j a Z
theorem my (m) (p:Nat):∀ k j,j<p->bQ m p k j=m j
 | 0,j,h=>rfl
 | k+1,j,h=>by
  show dY (bQ m p k) (p+k) _ j=m j
  rw [aW _ _ _ _ Z]
  exact my m p k j h
theorem ep (m p) (k j:Nat):bQ m p k j=if p<=j/\j<p+k then none else m j:=by
 split;·rename_i h;exact sH m p k j h.1 h.2
 rename_i h;by_cases e:j<p;·exact my m p k j e
 exact tf m p k j Z
theorem p5 (m p x) (j:Nat):(eu m p x j).isSome=(m j).isSome:=by
 unfold eu;by_cases e:j=p/1024;·subst e;rw [bZ,Option.isSome_map]
 rw [aW _ _ _ _ e]
theorem dD (m a ys):∀ k j,(ax m a ys k j).isSome=(m j).isSome
 | 0,j=>rfl
 | k+1,j=>by simp only [ax];rw [p5];exact dD m a ys k j
def Fine (m:Nat->Option (Bool×List Int)):Prop:=∀ k q,m k=some q->q.1=false/\q.2.length=1024
theorem Fine.put (h:Fine m) (p x):Fine (eu m p x):=by
 intro k q a;unfold eu at a;by_cases e:k=p/1024
 ·subst e;rw [bZ] at a;cases b:m (p/1024) with
  | none=>rw [b] at a;cases a
  | some r =>
   rw [b] at a;simp at a;subst a;have:=h _ _ b;exact⟨this.1,by simp [this.2]⟩
 rw [aW _ _ _ _ e] at a;exact h k q a
theorem Fine.store {m} (h:Fine m) (a ys):∀ k,Fine (ax m a ys k)
 | 0=>h
 | k+1=>(Fine.store h a ys k).put _ _
theorem Fine.fresh (h:Fine m) (p k:Nat):Fine (aT m p k):=by
 intro j q a;rw [c_] at a;split at a
 ·injection a with a;subst a;exact⟨rfl,JS⟩
 exact h j q a
theorem Fine.gone (h:Fine m) (p k:Nat):Fine (bQ m p k):=by
 intro j q a;rw [ep] at a;split at a;·cases a
 exact h j q a
theorem Fine.open (h:Fine m) (k:Nat):isOpen (m k)=(m k).isSome:=by
 cases a:m k with
 | none=>rfl
 | some q=>obtain ⟨l,xs⟩:=q;have:=(h k _ a).1;simp at this;subst this;rfl
/-! slabs lie apart -/
theorem sJ {d:Nat} (h:c<d) (b:d<12):AC c+6*(dQ c+1)<=AC d:=by
 have a:∀ d:Fin 12,∀ c:Fin 12,c.val<d.val->AC c.val+6*(dQ c.val+1)<=AC d.val:=by decide +kernel
 exact a ⟨d,b⟩ ⟨c,Z⟩ h
theorem eT {a b:Nat} (g:c<12) (j:s<6) (e:a<12) (i:b<6) (f:¬(c=a/\s=b)):aF c s+(dQ c+1)<=aF a b\/aF a b+(dQ a+1)<=aF c s:=by
 unfold aF;have k:s*(dQ c+1)<=5*(dQ c+1):=JR _ Z;have l:b*(dQ a+1)<=5*(dQ a+1):=JR _ Z;rcases Kv c a with h|h|h;·have:=sJ h e;omega
 ·subst h;rcases Kv s b with d|d|d;·have:(s+1)*(dQ c+1)<=b*(dQ c+1):=JR _ d;rw [J4,Ki] at this;omega
  ·exact absurd ⟨rfl,d⟩ f
  have:(b+1)*(dQ c+1)<=s*(dQ c+1):=JR _ d;rw [J4,Ki] at this;omega
 have:=sJ h g;omega
def rj (h:Hs) (c:Nat):List Int:=(h.mx c++h.ff c).filter λv=>decide (v ≠ -1)
structure Inv (cf:Cf) (h:Hs):Prop where
 st:Ai h
 fine:Fine h.m
 out:∀ k,283<=k->h.m k=none
 slab:∀ c s,c<12->s<6->∀ i,i<dQ c->(h.m (aF c s+i)).isSome=dJ h c s
 off:∀ c s,c<12->s<6->dJ h c s=false->∀ j,j<aU c->bv (h.st c s j)=true
 req:∀ c s j,c<12->s<6->j<aU c->(h.st c s j=1->0<=h.rq c s j/\h.rq c s j<=fy c)/\(h.st c s j≠1->h.rq c s j=0)
 mxl:∀ c,c<12->(h.mx c).length=cf.mix
 ffl:∀ c,c<12->(h.ff c).length<=cf.fifo
 ffn:∀ c,c<12->∀ v∈h.ff c,0<=v
 mxn:∀ c,c<12->∀ v∈h.mx c,-1<=v
 wait:∀ c s j,c<12->s<6->j<aU c->(h.st c s j=2↔((s*aU c+j:Nat):Int)∈rj h c)
 wlt:∀ c,c<12->∀ v∈rj h c,v<6*aU c
 wnd:∀ c,c<12->(rj h c).Nodup
 rgs:∀ r∈h.rg,187<=r.first/\r.first+r.ext<=283/\1<=r.guards/\r.guards<=3/\1<=r.pages/\(r.st=1/\1016<r.rq/\aS r.rq.toNat=r.pages\/r.st=2/\r.rq=0)
 apart:h.rg.Pairwise λa b=>a.first+a.ext<=b.first\/b.first+b.ext<=a.first
 big:∀ k,187<=k->((h.m k).isSome=true↔∃ r∈h.rg,r.st=1/\r.first+r.guards<=k/\k<r.first+r.guards+r.pages)
 low:∀ k,k<187->(h.m k).isSome=true->∃ c s,c<12/\s<6/\aF c s<=k/\k<aF c s+dQ c
 row:∀ b,b∈h.row↔∃ r∈h.rg,r.st=2/\r.base=b
 rownd:h.row.Nodup
 rowl:h.row.length<=cf.large
 rel:∀ b∈h.rel,b%1024=0/\187<=b/1024/\b/1024<283/\∀ r∈h.rg,b/1024<r.first\/r.first+r.ext<=b/1024
theorem qR (cf c):rj (bC cf) c=[]:=by
 unfold rj bC;simp
theorem Inv.new (cf):Inv cf (bC cf):=by
 refine⟨λc s j=>⟨by simp [bC],by simp [bC]⟩,λk q l=>by simp [bC] at l,λk f=>rfl,λc s a e i p=>rfl,λc s a e t j g=>rfl,λc s j a e g=>⟨by simp [bC],λ_=>rfl⟩,λc a=>by simp [bC],λc a=>by simp [bC],λc a v d=>by simp [bC] at d,λc a v d=>?_,λc s j a e g=>?_,λc a v d=>?_,λc a=>?_,λr m=>by simp [bC] at m,by simp [bC],λk f=>by simp [bC],λk f n=>by simp [bC] at n,λb=>by simp [bC],by simp [bC],by simp [bC],λb o=>by simp [bC] at o⟩;·simp [bC] at d;omega
 ·rw [qR];simp [bC]
 ·rw [qR] at d;cases d
 rw [qR];exact List.nodup_nil
theorem Inv.used (i:Inv cf h) (u:Nat):Inv cf { h with used:=u } :=
 ⟨i.st,i.fine,i.out,i.slab,i.off,i.req,i.mxl,i.ffl,i.ffn,i.mxn,i.wait,i.wlt,i.wnd,i.rgs,i.apart,i.big,i.low,i.row,i.rownd,i.rowl,i.rel⟩
theorem Inv.bytes (i:Inv cf h) (a ys) (n:Nat):Inv cf { h with m:=ax h.m a ys n }:=by
 have f:∀ c s,dJ { h with m:=ax h.m a ys n } c s=dJ h c s:=λc s=>dD _ _ _ _ _
 refine⟨i.st,i.fine.store _ _ _,λk b=>?_,λc s d e j g=>?_,λc s d e l=>i.off c s d e ((f c s).symm.trans l),i.req,i.mxl,i.ffl,i.ffn,i.mxn,i.wait,i.wlt,i.wnd,i.rgs,i.apart,λk b=>?_,λk b o=>?_,i.row,i.rownd,i.rowl,i.rel⟩;·have:=dD h.m a ys n k;rw [i.out k b] at this;simpa using this
 ·rw [f];exact (dD _ _ _ _ _).trans (i.slab c s d e j g)
 ·have:=i.big k b;rw [<-dD h.m a ys n k] at this;exact this
 exact i.low k b ((dD h.m a ys n k)▸o)
theorem Inv.fresh {cf h} (i:Inv cf h) {c s:Nat} (o:c<12) (q:s<6):Inv cf { h with m:=aT h.m (aF c s) (dQ c) }:=by
 have w:=cL o q;have x:=bI o;have r:∀ b d,b<12->d<6->∀ k,k<dQ b->aT h.m (aF c s) (dQ c) (aF b d+k)=if b=c/\d=s then some (false,List.replicate 1024 0) else h.m (aF b d+k):=λb d a f k l=>by
  rw [c_];by_cases e:b=c/\d=s;·obtain⟨rfl,rfl⟩:=e;rw [tm Z,tm ⟨rfl,rfl⟩]
  rw [tg e,tg];have:=eT a f o q e;omega
 have n:∀ b d,b<12->d<6->dJ { h with m:=aT h.m (aF c s) (dQ c) } b d=if b=c/\d=s then true else dJ h b d:=λb d a f=>by
  have:=bI a;have t:=r b d a f 0 Z;unfold dJ;rw [Kq] at t;show (aT h.m (aF c s) (dQ c) (aF b d)).isSome=_;rw [t];split <;> rfl
 refine⟨i.st,i.fine.fresh _ _,λk l=>?_,λb d a f j u=>?_,λb d a f p=>?_,i.req,i.mxl,i.ffl,i.ffn,i.mxn,i.wait,i.wlt,i.wnd,i.rgs,i.apart,λk l=>?_,λk l v=>?_,i.row,i.rownd,i.rowl,i.rel⟩;·show aT h.m _ _ k=none;rw [c_,tg Z];exact i.out k l
 ·rw [n b d a f];show (aT h.m _ _ _).isSome=_;rw [r b d a f j u];split;·rfl
  exact i.slab b d a f j u
 ·rw [n b d a f] at p;split at p;·cases p
  exact i.off b d a f p
 ·show (aT h.m _ _ k).isSome=true↔_;rw [c_,tg Z];exact i.big k l
 have g:(aT h.m (aF c s) (dQ c) k).isSome=true:=v;rw [c_] at g;split at g;·rename_i e;exact⟨c,s,o,q,e.1,e.2⟩
 exact i.low k l g
end
end Go.Proofs.YtdfodlhkdmkfdaaGreatDoor
namespace Go.Proofs.YtdfodlhkdmkfdaaGreatDoor.product
open Go.Proofs.Tryz
set_option linter.unusedVariables false
set_option linter.unusedSimpArgs false
set_option maxRecDepth 20000
set_option maxHeartbeats 8000000
open Go.ChangeShapes Go.WideShapes Go.ChangeAt Go.RowKit
theorem sp_Product_no (x y:Nat) (d:x<18446744073709551616) (f:y<18446744073709551616) (h:18446744073709551616<=x*y) (w:World) :
  Calls prog 91 #[U x,U y] w λe c=>e=.returned (.tuple #[U 0,.bool false])/\c=w:=by
 have a:0<x:=by
  rcases Nat.eq_zero_or_pos x with b|b;·subst b;simp at h
  exact b
 have b:(18446744073709551615:Int)/(x:Int)<(y:Int):=by
  have:18446744073709551615/x<y:=by
   rw [Nat.div_lt_iff_lt_mul a,Nat.mul_comm];omega
  show ((18446744073709551615:Nat):Int)/(x:Int)<(y:Int);rw [<-Int.natCast_ediv];exact Int.ofNat_lt.2 this
 have g:((x:Int) != 0)=true:=cd;clear h;go_enter func91,ntmps91;go_wp2
 go_ret2
 exact⟨rfl,rfl⟩
theorem sp_Product_zero (y:Nat) (b:y<18446744073709551616) (w:World) :
  Calls prog 91 #[U 0,U y] w λe a=>e=.returned (.tuple #[U 0,.bool true])/\a=w:=by
 go_enter func91,ntmps91;go_wp2
 go_ret2
 exact⟨rfl,rfl⟩
theorem sp_Product_yes (x y:Nat) (a:0<x) (f:x<18446744073709551616) (g:y<18446744073709551616) (h:x*y<18446744073709551616) (w:World) :
  Calls prog 91 #[U x,U y] w λe c=>e=.returned (.tuple #[U ((x*y:Nat):Int),.bool true])/\c=w:=by
 have i:(y:Int)<=(18446744073709551615:Int)/(x:Int):=by
  have:y<=18446744073709551615/x:=by
   rw [Nat.le_div_iff_mul_le a,Nat.mul_comm];omega
  show (y:Int)<=((18446744073709551615:Nat):Int)/(x:Int);rw [<-Int.natCast_ediv];exact Int.ofNat_le.2 this
 have j:((x:Int) != 0)=true:=cd;have b:IntKind.u64.wrap ((x:Int)*(y:Int))=((x*y:Nat):Int):=by
  rw [Mul64.mulN,IP _ h]
 have d:=Eb b;clear h b;go_enter func91,ntmps91;go_wp2
 go_ret2
 exact⟨by rw [<-d.out];rfl,rfl⟩
end Go.Proofs.YtdfodlhkdmkfdaaGreatDoor.product
namespace Go.Proofs.YtdfodlhkdmkfdaaGreatDoor
open Go.Proofs.Tryz
variable {W W' v w:World} {B G c g i k n s:Nat} {a:Option Addr} {ms:List Int} {cf:Cf} {h:Hs} {xs:List Value} {x:Sm} {m:Nat->Option (Bool×List Int)}
section
open Go.RowKit
def ot (tk:Nat->Bool):Nat->Nat
 | 0=>0
 | k+1=>if tk k then 0 else ot tk k+1
theorem qe (tk):∀ k,ot tk k<=k
 | 0=>Jo _
 | k+1=>by have:=qe tk k;unfold ot;split <;> omega
theorem jU (tk):∀ k n,n<=ot tk k↔n<=k/\∀ q,k-n<=q->q<k->tk q=false
 | 0,n=>by
  simp only [ot]
  exact⟨λh=>⟨h,λq _ a=>Z⟩,λh=>h.1⟩
 | k+1,n=>by
  have c:=jU tk k
  simp only [ot]
  cases d:tk k with
  | true =>
   simp only [Lu]
   constructor
   ·intro h
    exact⟨Z,λq b a=>Z⟩
   intro ⟨b,a⟩
   by_cases f:n=0
   ·omega
   have:=a k Z Z
   rw [d] at this;cases this
  | false =>
   simp only [Bool.false_eq_true,Lt]
   constructor
   ·intro h
    refine⟨by have:=qe tk k;omega,λq b a=>?_⟩
    by_cases e:q=k
    ·subst e;exact d
    exact ((c (n-1)).1 Z).2 q Z Z
   intro ⟨b,a⟩
   by_cases f:n=0
   ·omega
   have:=(c (n-1)).2 ⟨Z,λq e g=>a q Z Z⟩
   omega
theorem find_range {N:Nat} {p:Nat->Bool} (a:k<N) (b:p k=true) (c:∀ i,i<k->p i=false):(List.range N).find? p=some k:=by
 rw [KX];exact⟨b,JW.2 a,λj d=>by rw [c j d];rfl⟩
def io (rg:List Rg9) (q:Nat):Bool:=rg.any λr=>decide (r.first<=187+q)&&decide (187+q<r.first+r.ext)
theorem qF (c:List Rg9) (k:∀ r∈c,187<=r.first/\1<=r.ext) (m:1<=n):(c.all λr=>decide (187+i+n<=r.first) || decide (r.first+r.ext<=187+i))=true↔∀ q,i<=q->q<i+n->io c q=false:=by
 rw [List.all_eq_true];constructor
 ·intro h q g j;unfold io;cases e:c.any _ with
  | false=>rfl
  | true =>
   exfalso;obtain⟨r,f,b⟩:=List.any_eq_true.1 e;have:=h r f;simp at this b;omega
 intro h r f;have o:=k r f;simp;by_cases g:187+i+n<=r.first
 ·exact .inl g
 by_cases j:r.first+r.ext<=187+i
 ·exact .inr j
 exfalso;have d:∀ q,i<=q->q<i+n->¬(r.first<=187+q/\187+q<r.first+r.ext):=λq a b l=>by
  have:=h q a b;unfold io at this;have e:(c.any λr=>decide (r.first<=187+q)&&decide (187+q<r.first+r.ext))=true:=List.any_eq_true.2 ⟨r,f,by simp;exact l⟩;rw [e] at this;cases this
 by_cases e:r.first<=187+i
 ·exact d i (Jo _) Z ⟨e,Z⟩
 exact d (r.first-187) Z Z ⟨Z,Z⟩
theorem uF (c:∀ r∈h.rg,187<=r.first/\1<=r.ext) (d:1<=n) (l:k<96) (m:ot (io h.rg) (k+1)=n) (f:∀ j,j<=k->ot (io h.rg) j<n):eh h n=some (187+(k+1-n)):=by
 have g:=qe (io h.rg) (k+1);unfold eh;rw [find_range (k:=k+1-n) Z ?_ ?_];·rfl
 ·simp only [JY,EN];refine⟨Z,(qF h.rg c d).2 (λq a b=>?_)⟩;exact ((jU (io h.rg) (k+1) n).1 Z).2 q a Z
 intro i o;cases e:(decide (i+n<=96)&&h.rg.all λr=>decide (187+i+n<=r.first) || decide (r.first+r.ext<=187+i)) with
 | false=>rfl
 | true =>
  exfalso;simp only [JY,EN] at e;have j:=(qF h.rg c d).1 e.2;have:=(jU (io h.rg) (i+n) n).2 ⟨Z,λq a b=>j q Z b⟩;have:=f (i+n) Z;omega
theorem vg (c:∀ r∈h.rg,187<=r.first/\1<=r.ext) (d:1<=n) (f:∀ j,j<=96->ot (io h.rg) j<n):eh h n=none:=by
 unfold eh;rw [List.find?_eq_none.2];·rfl
 intro i j e;simp only [JY,EN] at e;have g:=(qF h.rg c d).1 e.2;have:=(jU (io h.rg) (i+n) n).2 ⟨Z,λq a b=>g q Z b⟩;have:=f (i+n) Z;omega
end
end Go.Proofs.YtdfodlhkdmkfdaaGreatDoor
