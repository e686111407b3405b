import Derived.LoopIn
import Derived.LoopNIn
import Derived.OwnWalkIn
import Derived.RangeFuncBound
import Derived.RangeFuncNested
import Derived.Shelf.RegionOpen
import Derived.Test.YtibblbenmpcplaaGreatDoorN00
set_option linter.unusedVariables false
set_option linter.unusedSimpArgs false
set_option maxRecDepth 20000
set_option maxHeartbeats 8000000
namespace Go.Proofs.YtibblbenmpcplaaGreatDoor
open Go.Proofs.Tryz
variable {DB M R S a b d n:Nat} {bud nn st:Int} {f:Nat->Option Nat} {W w:World} {m:Nat->Option (Bool×List Int)} {v:Value}
section
open Go.ChangeShapes Go.WideShapes Go.ChangeAt Go.RowKit
theorem eu (x:Int):IntKind.u64.wrap x=x%18446744073709551616:=by
 simp [IntKind.wrap,IntKind.signed,IntKind.bits]
theorem Ah (a n:Int):IntKind.u64.wrap (IntKind.u64.wrap (a+n)-1)=IntKind.u64.wrap (a+(n-1)):=by
 rw [eu,eu,eu];omega
theorem qe (a n:Int) (ha:0<=a) (b:a<=18446744073709551615) (c:1<=n) (d:n<=4194304) (h:4611686018427387904<=a+(n-1)) :
 IntKind.u64.wrap (a+(n-1))<a\/(a<=IntKind.u64.wrap (a+(n-1))/\4611686018427387904<=IntKind.u64.wrap (a+(n-1))):=by
 rw [eu];omega
def rR:Ending:=.returned (.tuple #[I 0,I 0,.bool false])
theorem rF (a n:Int) (w:World) (h:n<1\/4194304<n) :
  Calls prog 210 #[U a,I n] w λe b=>e=rR/\b=w:=by
 rcases h with h|h
 ·go_enter func210,ntmps210;go_wp2
  go_ret3
  exact⟨rfl,rfl⟩
 have c:¬n<1:=Z;go_enter func210,ntmps210;go_wp2
 go_ret3
 exact⟨rfl,rfl⟩
theorem qf (a n:Int) (w:World) (h:n<1\/4194304<n) :
  Calls prog 235 #[U a,I n] w λe b=>e=rR/\b=w:=by
 rcases h with h|h
 ·go_enter func235,ntmps235;go_wp2
  go_ret3
  exact⟨rfl,rfl⟩
 have c:¬n<1:=Z;go_enter func235,ntmps235;go_wp2
 go_ret3
 exact⟨rfl,rfl⟩
theorem qD (a n L:Int) (w:World) (c:1<=n) (d:n<=4194304) (f:IntKind.u64.wrap (IntKind.u64.wrap (a+n)-1)=L) (h:L<a\/(a<=L/\4611686018427387904<=L)) :
  Calls prog 210 #[U a,I n] w λe b=>e=rR/\b=w:=by
 rcases h with h|⟨g,h⟩
 all_goals
  go_enter func210,ntmps210
  go_wp2
  go_ret3
  exact⟨rfl,rfl⟩
theorem rN (a n L:Int) (w:World) (c:1<=n) (d:n<=4194304) (f:IntKind.u64.wrap (a+(n-1))=L) (h:L<a\/(a<=L/\4611686018427387904<=L)) :
  Calls prog 235 #[U a,I n] w λe b=>e=rR/\b=w:=by
 rcases h with h|⟨g,h⟩
 all_goals
  go_enter func235,ntmps235
  go_wp2
  go_ret3
  exact⟨rfl,rfl⟩
theorem qA (a n:Int) (w:World) (ha:0<=a) (c:1<=n) (d:n<=4194304) (f:a+(n-1)<4611686018427387904) :
  Calls prog 210 #[U a,I n] w λe b=>e=.returned (.tuple #[I (a/1024),I ((a+n-1)/1024),.bool true])/\b=w:=by
 go_enter func210,ntmps210;go_wp2
 go_ret3
 exact⟨rfl,rfl⟩
theorem rE (a n:Int) (w:World) (ha:0<=a) (c:1<=n) (d:n<=4194304) (f:a+(n-1)<4611686018427387904) :
  Calls prog 235 #[U a,I n] w λe b=>e=.returned (.tuple #[I (a/1024),I ((a+(n-1))/1024),.bool true])/\b=w:=by
 go_enter func235,ntmps235;go_wp2
 go_ret3
 exact⟨rfl,rfl⟩
theorem tB (a n:Int) (w:World) (ha:0<=a) (b:a<=18446744073709551615) (h:n<1\/4194304<n\/4611686018427387904<=a+(n-1)) :
  Calls prog 210 #[U a,I n] w λe c=>e=rR/\c=w:=by
 by_cases d:n<1\/4194304<n;·exact rF a n w d
 exact qD a n _ w Z Z (Ah a n) (qe a n ha b Z Z Z)
theorem tA (a n:Int) (w:World) (ha:0<=a) (b:a<=18446744073709551615) (h:n<1\/4194304<n\/4611686018427387904<=a+(n-1)) :
  Calls prog 235 #[U a,I n] w λe c=>e=rR/\c=w:=by
 by_cases d:n<1\/4194304<n;·exact qf a n w d
 exact rN a n _ w Z Z rfl (qe a n ha b Z Z Z)
end
section
open Go.ChangeShapes Go.WideShapes Go.ChangeAt Go.RowKit Go.Maps
def isOpen:Option (Bool×List Int)->Bool
 | some (l,_) => !l
 | none=>false
def gx (m:Nat->Option (Bool×List Int)) (first:Nat):Nat->Bool
 | 0=>true
 | k+1=>gx m first k&&isOpen (m (first+k))
def jk (b:Bool):Int:=if b then 0 else 2
theorem hC {m:Nat->Option (Bool×List Int)} {first k:Nat} (h:isOpen (m (first+k))=false):∀ N,k<N->gx m first N=false
 | 0,hk=>by omega
 | N+1,hk=>by
  simp only [gx]
  by_cases e:k=N
  ·subst e;simp [h]
  rw [hC h N Z];rfl
theorem nB {m first} : ∀ {N:Nat},gx m first N=true->∀ k,k<N->isOpen (m (first+k))=true
 | 0,_,k,a=>by omega
 | N+1,h,k,a=>by
  simp only [gx,Gi] at h
  by_cases e:k=N
  ·subst e;exact h.2
  exact nB h.1 k Z
theorem pC (S a) (n:Int) (w:World) (h:n<0\/4096<n) :
  Calls prog 214 #[J S 0,U a,I n] w λe b=>e=.returned (I 6)/\b=w:=by
 rcases h with h|h;·go_enter func214,ntmps214;go_wp2;go_ret;exact⟨rfl,rfl⟩
 have c:¬n<0:=Z;go_enter func214,ntmps214;go_wp2;go_ret;exact⟨rfl,rfl⟩
theorem rQ (S a) (w:World) :
  Calls prog 214 #[J S 0,U a,I 0] w λe b=>e=.returned (I 0)/\b=w:=by
 go_enter func214,ntmps214;go_wp2;go_ret;exact⟨rfl,rfl⟩
theorem sV (S) (a n:Int) (w:World) (ha:0<=a) (b:a<=18446744073709551615) (f:1<=n) (g:n<=4096) (h:4611686018427387904<=a+(n-1)) :
  Calls prog 214 #[J S 0,U a,I n] w λe c=>e=.returned (I 2)/\c=w:=by
 have d:=H (tA a n w ha b (.inr (.inr h)));clear h;go_enter func214,ntmps214;go_wp2_with fail;refine d.mono ?_;rintro _ _ ⟨rfl,rfl⟩;unfold rR;go_wp2_with fail;go_ret;exact⟨rfl,rfl⟩
theorem qK (S M st nn bud f m) (a n p q:Nat) (w) (c:Im S M st nn bud f w) (j:Pg f m w) (x:1<=n) (y:n<=4096) (h:a+(n-1)<4611686018427387904) (d:p=a/1024) (g:q=(a+(n-1))/1024) :
  Calls prog 214 #[J S 0,U a,I n] w λe u=>e=.returned (I (jk (gx m p (q+1-p))))/\u=w:=by
 have i:=H (rE a n w Z Z Z Z);have l:(a:Int)/1024=(p:Int):=Z;have o:((a:Int)+((n:Int)-1))/1024=(q:Int):=Z;rw [l,o] at i;have v:p<=q:=Z;have z:q<4503599627370496:=Z;have t:=H (IT c j);obtain⟨_,_,_,A⟩:=c.c;clear l o d g c j h;go_enter func214,ntmps214;go_wp2_with fail;refine i.mono ?_;rintro _ B ⟨rfl,rfl⟩;go_wp2_with fail;clear i;go_loop [10,11] (λi _=>∃ j:Nat,j<=q+1-p/\i=I ((p:Int)+(j:Int))/\gx m p j=true) (λi _=>q+1-(intOf i).toNat);case atStart=>exact ⟨0,FH _,aY,rfl⟩
 case round =>
  obtain⟨j,F,rfl,d⟩:=hrel;by_cases s:j<q+1-p
  ·have c:=t.1.look (p+j) Z;have g:((p+j:Nat):Int)=(p:Int)+(j:Int):=Z;rw [g] at c;clear g;rcases t.2.at' (p+j) with ⟨o,g⟩|⟨b,l,G,o,g,_⟩;·rw [o] at c;simp only [Option.map_none] at c;have r:=H (hC (m:=m) (first:=p) (k:=j) (by rw [g];rfl) (q+1-p) s);clear o g d;go_wp2;go_ret;exact⟨cX (by rw [r.out];rfl),rfl⟩
   rw [o] at c;simp only [Hi] at c;obtain⟨K,_⟩:=t.2.lockCell o g;cases l with
   | true =>
    have r:=H (hC (m:=m) (first:=p) (k:=j) (by rw [g];rfl) (q+1-p) s);clear o g d;go_wp2;go_ret;exact⟨cX (by rw [r.out];rfl),rfl⟩
   | false =>
    have r:=H (show gx m p (j+1)=true by simp only [gx];rw [d,g];rfl);clear o g d;go_wp2
    go_round
    (case rel=>exact ⟨j+1,Z,aY,r⟩);case measure=>simp [intOf];omega
  have c:j=q+1-p:=Z;have r:=H (c▸d);clear d c;go_wp2;go_ret;exact⟨cX (by rw [r.out];rfl),rfl⟩
end
section
open Go.RowKit Go.Shelf
attribute [local go_sem] Oper.semAt_some
theorem oj (S a n) (w:World) :
  Calls prog 215 #[J S 0,U a,I n] w λe b=>e=.returned (.func (.func 236) #[] #[J (w.heap.size+1+1) 0,J (w.heap.size+1) 0,J w.heap.size 0]) /\
   b=((w.alloc (.cells #[J S 0] 58)).alloc (.cells #[U a] 23)).alloc (.cells #[I n] 3):=by
 go_enter func215,ntmps215;go_wp2;go_ret;exact⟨rfl,rfl⟩
def ct (a n d:Nat):Nat:=min ((a+d)%1024+n-d) 1024-(a+d)%1024
def vt (f:Nat->Option Nat) (a n d:Nat):Array Value:=#[.slice (some ⟨(f ((a+d)/1024)).getD 0,(a+d)%1024,none⟩) (ct a n d) (1024-(a+d)%1024)]
inductive Got (a n:Nat):List { d:Nat // d<n }->Nat->Prop
 | zero:Got a n [] 0
 | next {ys:List { d:Nat // d<n }} {d:Nat} (h:Got a n ys d) (hd:d<n):Got a n (ys++[⟨d,hd⟩]) (d+ct a n d)
theorem me (h:d<n):1<=ct a n d:=by unfold ct;omega
theorem pF (h:d<n):d+ct a n d<=n:=by unfold ct;omega
theorem Got.le {b:List { d:Nat // d<n }} (h:Got a n b d):d<=n/\b.length<=d:=by
 induction h with
 | zero=>exact ⟨FH _,Fv _⟩
 | next h c f =>
  have g:=me (a:=a) c;have e:=pF (a:=a) c;exact⟨e,bG⟩
def Kp (S M b:Nat) (A B:World):Prop:=A.heap.size<=B.heap.size/\∀ g,g=S\/g=M\/g=b\/g=b+1\/g=b+1+1->B.heap[g]?=A.heap[g]?
theorem Kp.refl (S M b A):Kp S M b A A:=⟨Fv _,λ_ _=>rfl⟩
theorem Kp.trans {S M b A B C} (h:Kp S M b A B) (k:Kp S M b B C):Kp S M b A C:=⟨Fx h.1 k.1,λg a=>(k.2 g a).trans (h.2 g a)⟩
theorem Im.kp {n A B} (h:Im S M st n bud f A) (k:Kp S M b A B):Im S M st n bud f B:=by
 obtain⟨a,⟨d,c,e,g⟩,r⟩:=h.map;exact⟨(k.2 S bH).trans h.box,a,⟨d,c,(k.2 M bH).trans e,g⟩,r⟩
structure Cl (S b:Nat) (a n:Int) (W:World):Prop where
 s:W.heap[b]?=some (.cells #[J S 0] 58)
 a:W.heap[b+1]?=some (.cells #[U a] 23)
 n:W.heap[b+1+1]?=some (.cells #[I n] 3)
theorem Cl.kp {a n A B} (h:Cl S b a n A) (k:Kp S M b A B):Cl S b a n B :=
 ⟨(k.2 b bH).trans h.s,(k.2 (b+1) bH).trans h.a,(k.2 (b+1+1) bH).trans h.n⟩
theorem Cl.c {a n} (h:Cl S b a n W):W.cell? ⟨b,0,none⟩=some (J S 0)/\W.cell? ⟨b+1,0,none⟩=some (U a)/\W.cell? ⟨b+1+1,0,none⟩=some (I n):=by
 have c:=h.s;have d:=h.a;have e:=h.n;refine⟨by simp [World.cell?,c],by simp [World.cell?,d],by simp [World.cell?,e]⟩
theorem Ak (g) (l h:Int) (w:World) (b:0<=l) (i:l<1024) (c:l<=h) (d:h<=1024) :
  (Instr.sliceAt 177 (J g 0) (some (I l)) (some (I h)) none).run prog w=.ok (.slice (some ⟨g,l.toNat,none⟩) (h.toNat-l.toNat) (1024-l.toNat)) w:=by
 have a:prog.arrayLen 177=1024:=E;have e:h<=(prog.arrayLen 177:Int):=by rw [a];exact d
 have f:(sizeOf (prog.elem 177)).run prog w=.ok 1 w:=E;rw [run_sliceAt_array_lh w 177 _ E _ _ l h b c e,f];show Result.ok (slicedAt ⟨g,0,none⟩ l.toNat h.toNat (prog.arrayLen 177) 1) w=_;rw [a];unfold slicedAt;rw [GO Z];simp [Addr.add];omega
theorem qo (g a n d:Nat) (b:Int) (w:World) (f:d<n) (i:b=min (((a:Int)+(d:Int))%1024+(n:Int)-(d:Int)) 1024) :
  (Instr.sliceAt 177 (J g 0) (some (I (((a:Int)+(d:Int))%1024))) (some (I b)) none).run prog w=.ok (.slice (some ⟨g,(a+d)%1024,none⟩) (ct a n d) (1024-(a+d)%1024)) w:=by
 have c:(((a:Int)+(d:Int))%1024).toNat=(a+d)%1024:=Z;have e:b.toNat-(a+d)%1024=ct a n d:=by unfold ct;omega
 rw [Ak g _ b w Z Z Z Z,c,e]
theorem nW (S M st nn bud) (f:Nat->Option Nat) (a n:Nat) (l:Nat) (b) (m:Nat) (hm:2<=m) (hn:n<=4096) (ha:n=0\/a+n<=4611686018427387904) (j:∀ d,d<n->∃ g,f ((a+d)/1024)=some g) (c Jx:List { d:Nat // d<n }->World->Prop) (W:World) (q:AbidesFrom W.heap.size c) (N:∀ i (x : { d:Nat // d<n }) k,c i k->i.length<n->YieldAt Fence.wide (m-1) prog l (vt f a n x.1) k λe z =>
   (e=.returned (.bool true)/\c (i++[x]) z/\Kp S M b k z)\/(e=.returned (.bool false)/\Jx (i++[x]) z)) (k:Cl S b a n W) (o:Im S M st nn bud f W) (p:c [] W) :
  CallsIn Fence.wide m prog 236 #[.func (.yield l) #[] #[],J (b+1+1) 0,J (b+1) 0,J b 0] W λe z=>(∃ v,e=.returned v) /\
   ((∃ t,Got a n t n/\c t z)\/(∃ i,(∃ d,Got a n i d)/\Jx i z)):=by
 have R:=H N;have K:=H (IT k (IT o p));have T:=H j;clear N q k o p j;refine callsIn_of_wp func236 rfl trivial ?_ rfl;simp only [ntmps236,FX,FN,F1,Nat.reduceAdd,Nat.reduceSub,FP,FO,FY,Iv,FV,F5];gi_wp2
 gi_loopw [5] (λi wr=>∃ (d:Nat) (t:List { d:Nat // d<n }),d<=n/\i=I d/\Hid (Got a n t d)/\Hid (c t wr)/\Hid (Kp S M b W wr))
  (λi _=>n-(intOf i).toNat)
 case atStart=>exact ⟨0,[],FH _,rfl,Got.zero,K.2.2,Kp.refl _ _ _ _⟩
 case round =>
  obtain⟨d,t,hd,rfl,p,A,u⟩:=hrel;obtain⟨c0,c1,c2⟩:=(K.1.kp u).c;have o:=K.2.1.kp u.out;obtain⟨_,_,_,c4⟩:=o.c;by_cases j:d<n
  ·obtain⟨g,r⟩:=T.out d j;have q:=o.look ((a+d)/1024) Z;rw [r] at q;simp only [Hi] at q;have k:(((a+d)/1024:Nat):Int)=((a:Int)+(d:Int))/1024:=Z;rw [k] at q;clear k o;have k:t.length<n:=Nat.lt_of_le_of_lt p.le.2 j;obtain⟨fn,O,G,P,y,s⟩:=R.out t ⟨d,j⟩ wr A k;unfold vt at y;rw [r] at y;simp only [Ht] at y;have Q:=H s;have x:=H (IT (p.next j) (IT (me (a:=a) j) (pF (a:=a) j)));clear s k r;by_cases B:((a:Int)+(d:Int))%1024+(n:Int)-(d:Int)<=1024
   ·have L:=qo g a n d _ wr j (by rw [Int.min_eq_left B]);have F:=H (show (d:Int)+(((a:Int)+(d:Int))%1024+(n:Int)-(d:Int)-((a:Int)+(d:Int))%1024)=((d+ct a n d:Nat):Int) by unfold ct;omega);generalize ct a n d=pl at *;gi_wp2;refine⟨λ_=>Z,?_⟩;refine Q.mono ?_;rintro e V (⟨rfl,r,s⟩|⟨rfl,k⟩)
    ·have w:=H (IT r (u.trans s));clear r s y;gi_wp2;go_roundw;(case rel=>exact ⟨d+pl,t++[⟨d,j⟩],x.2.2,qb F,H x.1,H w.1,H w.2⟩);case measure =>
      have X:=x.2.1;have Y:=F.out;simp only [intOf];omega
    have w:=H k;clear k y;gi_wp2;refine GX (Ir rfl _ _ _) rfl ?_;exact⟨⟨_,rfl⟩,.inr ⟨_,⟨_,x.1⟩,w⟩⟩
   have L:=qo g a n d 1024 wr j (by rw [Int.min_eq_right Z]);have F:=H (show (d:Int)+(1024-((a:Int)+(d:Int))%1024)=((d+ct a n d:Nat):Int) by unfold ct;omega);generalize ct a n d=pl at *;gi_wp2;refine⟨λ_=>Z,?_⟩;refine Q.mono ?_;rintro e V (⟨rfl,r,s⟩|⟨rfl,k⟩)
   ·have w:=H (IT r (u.trans s));clear r s y;gi_wp2;go_roundw;(case rel=>exact ⟨d+pl,t++[⟨d,j⟩],x.2.2,qb F,H x.1,H w.1,H w.2⟩);case measure =>
     have X:=x.2.1;have Y:=F.out;simp only [intOf];omega
   have w:=H k;clear k y;gi_wp2;refine GX (Ir rfl _ _ _) rfl ?_;exact⟨⟨_,rfl⟩,.inr ⟨_,⟨_,x.1⟩,w⟩⟩
  have k:d=n:=Z;subst k;gi_wp2;go_end0;exact⟨⟨_,rfl⟩,.inl ⟨_,p,A⟩⟩
def bO (m:Nat->Option (Bool×List Int)) (p:Nat):Int:=((((m (p/1024)).map λq=>q.2).getD [])[p%1024]?).getD 0
def ge (m:Nat->Option (Bool×List Int)) (a n d:Nat):List Int:=(List.range (ct a n d)).map λi=>bO m (a+(d+i))
def dh (m:Nat->Option (Bool×List Int)) (a n:Nat) (ys:List { d:Nat // d<n }):List Int:=ys.flatMap λx=>ge m a n x.1
theorem gV (m a) (n:Nat) (b:List { d:Nat // d<n }) (x : { d:Nat // d<n }):dh m a n (b++[x])=dh m a n b++ge m a n x.1:=by
 simp [dh,Gu]
theorem iW (m a n d):(ge m a n d).length=ct a n d:=by simp [ge]
theorem qy (a n d):ct a n d<=1024:=by unfold ct;omega
theorem ko (m a) (n:Nat):∀ b:List { d:Nat // d<n },(dh m a n b).length<=1024*b.length
 | []=>by simp [dh]
 | x::b=>by
  have e:=ko m a n b
  have f:=qy a n x.1
  have c:dh m a n (x::b)=ge m a n x.1++dh m a n b:=by simp [dh]
  rw [c,FC,iW,FN]
  omega
theorem Got.bytes {b:List { d:Nat // d<n }} (h:Got a n b d):dh m a n b=(List.range d).map λi=>bO m (a+i):=by
 induction h with
 | zero=>rfl
 | next h e c =>
  rw [gV,c,List.range_add,Hr];simp [ge]
structure Ld (S M:Nat) (st nn bud:Int) (f:Nat->Option Nat) (m:Nat->Option (Bool×List Int)) (w:World) (R DB:Nat) (v:Value) (W:World):Prop where
 im:Im S M st nn bud f W
 pg:Pg f m W
 fr:Fr S M f f w W
 res:W.heap[R]?=some (.cells #[I 0,C] 197)
 box:W.heap[DB]?=some (.cells #[v] 22)
 mlt:M<w.heap.size
 rge:w.heap.size<=R
 dge:w.heap.size<=DB
theorem Ld.keep {n:World} {i:Option Nat} (h:Ld S M st nn bud f m w R DB v W) (d:W.grownBy n i)
  (p:∀ r,i=some r->w.heap.size<=r/\∀ c t z,W.heap[r]?=some (.cells c t z)->t=5):Ld S M st nn bud f m w R DB v n:=by
 have o:∀ (b:Nat) (c:Array Value) (t:TypeId) (z:Nat×Nat),W.heap[b]?=some (Obj.cells c t z)->t≠5->n.heap[b]?=some (Obj.cells c t z):=by
  intro b c t z k a;rw [d.block b (G_ k) (λe=>a ((p b e.symm).2 c t z k))];exact k
 have u:n.heap[M]?=W.heap[M]?:=d.block M (FG h.mlt h.fr.size) (λe=>by have:=(p M e.symm).1;have:=h.mlt;omega);refine⟨⟨o _ _ _ _ h.im.box ar,?_⟩,⟨?_,h.pg.inj⟩,?_,o _ _ _ _ h.res ar,o _ _ _ _ h.box ar,h.mlt,h.rge,h.dge⟩;·obtain⟨a,⟨j,g,k,l⟩,r⟩:=h.im.map;exact⟨a,⟨j,g,u.trans k,l⟩,r⟩
 ·intro j;rcases h.pg.at' j with a|⟨b,l,g,a,q,s,x⟩;·exact .inl a
  exact .inr ⟨b,l,g,a,q,s,o _ _ _ _ x ar⟩
 refine⟨d.os.trans h.fr.os,d.tape.trans h.fr.tape,d.output.trans h.fr.output,Fx h.fr.size d.size,?_,h.fr.made⟩;intro g j a q s;rw [d.block g (FG j h.fr.size) (λe=>by have:=(p g e.symm).1;omega)];exact h.fr.block g j a q s
theorem Ld.store (h:Ld S M st nn bud f m w R DB v W) (v'):Ld S M st nn bud f m w R DB v' (W.setCell ⟨DB,0,none⟩ v'):=by
 have n:∀ (b:Nat) (c:Array Value) (t:TypeId) (z:Nat×Nat),W.heap[b]?=some (Obj.cells c t z)->t≠22->(W.setCell ⟨DB,0,none⟩ v').heap[b]?=some (Obj.cells c t z):=by
  intro b c t z a d;rw [GQ _ _ _ _ ?_];·exact a
  intro e;simp at e;subst e;rw [h.box] at a;cases a;exact d rfl
 have d:DB≠S/\DB≠M:=by
  constructor;·intro e;subst e;have a:=h.box;rw [h.im.box] at a;simp at a
  have:=h.mlt;have:=h.dge;omega
 refine⟨h.im.setCell (p:=⟨DB,0,none⟩) d.1 d.2 v',⟨?_,h.pg.inj⟩,?_,n _ _ _ _ h.res ar,?_,h.mlt,h.rge,h.dge⟩
 ·intro j;rcases h.pg.at' j with a|⟨b,l,g,a,i,k,o⟩;·exact .inl a
  exact .inr ⟨b,l,g,a,i,k,n _ _ _ _ o ar⟩
 ·refine⟨h.fr.os,h.fr.tape,h.fr.output,by simp [World.setCell];exact h.fr.size,?_,h.fr.made⟩;intro g j a i k;rw [GQ _ _ _ _ ?_];·exact h.fr.block g j a i k
  intro e;simp at e;have:=h.dge;omega
 rw [bj h.box];rfl
theorem Ld.cells (h:Ld S M st nn bud f m w R DB v W) :
  W.cell? ⟨DB,0,none⟩=some v/\W.frozen? ⟨DB,0,none⟩=false/\W.cell? ⟨R,0,none⟩=some (I 0)/\W.cell? ⟨R,1,none⟩=some (C)/\W.frozen? ⟨R,0,none⟩=false/\W.frozen? ⟨R,1,none⟩=false:=by
 have b:=h.box;have a:=h.res;refine⟨by simp [World.cell?,b],by simp [World.frozen?,b],by simp [World.cell?,a],by simp [World.cell?,a],by simp [World.frozen?,a],by simp [World.frozen?,a]⟩
theorem re (h:Pg f m W) {g:Nat} (i:f ((a+d)/1024)=some g) :
  ∀ j u,(Ns .u8 (ge m a n d))[j]?=some u->W.cell? ((⟨g,(a+d)%1024,none⟩:Addr).add j)=some u:=by
 intro j u b;obtain⟨l,k,o,v,p⟩:=h.cell i;simp only [Ns,ge,List.map_map,Gv] at b;have c:j<ct a n d:=by
  rcases Nat.lt_or_ge j (ct a n d) with e|e;·exact e
  rw [FJ (by simpa using e)] at b;simp at b
 rw [List.getElem?_range c] at b;simp at b;have w:(a+d)%1024+j<1024:=by unfold ct at c;omega
 have q:(a+(d+j))/1024=(a+d)/1024:=Z;have r:(a+(d+j))%1024=(a+d)%1024+j:=Z;rw [<-b];simp only [bO,q,r,o,Hi,Ht];have s:=ja l k ((a+d)%1024+j) Z;have t:(⟨g,(a+d)%1024,none⟩:Addr).add j=⟨g,(a+d)%1024+j,none⟩:=by
  by_cases e:j=0;·subst e;simp [Addr.add]
  simp [Addr.add,e]
 rw [t];simp only [World.cell?,p];exact s
end
section
open Go.ChangeShapes Go.WideShapes Go.ChangeAt Go.RowKit
theorem fy {c:Int} (h:0<=c/\c<12):1<=pg c/\pg c<=4:=by
 rcases fh h with rfl|rfl|rfl|rfl|rfl|rfl|rfl|rfl|rfl|rfl|rfl|rfl <;> decide
theorem xX {c:Int} (h:¬(0<=c/\c<12)):pg c=0:=by simp only [pg,gP h];decide
theorem AO (c):0<=pg c/\pg c<=4:=by
 by_cases h:0<=c/\c<12;·have:=fy h;omega
 rw [xX h];omega
theorem kh {c:Int} (h:0<=c/\c<12):4<=sl c/\sl c<=64/\sl c=pg c*1024/sz c/\sl c*sz c<=pg c*1024:=by
 rcases fh h with rfl|rfl|rfl|rfl|rfl|rfl|rfl|rfl|rfl|rfl|rfl|rfl <;> decide
theorem xW {c:Int} (h:¬(0<=c/\c<12)):sl c=0:=by simp only [sl,GO h]
theorem uj {c:Int} (h:0<=c/\c<12):us c=sz c-8:=by simp only [us,GP h]
theorem sW {c:Int} (h:¬(0<=c/\c<12)):us c=0:=by simp only [us,GO h]
theorem eY (c w) (a:Tb w) :
  Calls prog 111 #[I c] w λe b=>e=.returned (I (pg c))/\b=w:=by
 have d:=hidR (dJ c w a);have f:=Eh c;unfold pg;generalize sz c=s at d f ⊢;clear a;go_enter func111,ntmps111;go_wp2_with fail;refine (d).mono ?_;rintro e b ⟨rfl,rfl⟩;go_wp2;go_ret;exact⟨rfl,rfl⟩
theorem gK (c w) (b:Tb w) :
  Calls prog 70 #[I c] w λe a=>e=.returned (I (sl c))/\a=w:=by
 have f:=hidR (dJ c w b);have g:=hidR (eY c w b);by_cases h:0<=c/\c<12;·have i:=eJ h;have j:=fy h;rw [(kh h).2.2.1];have d:=hidR (GA _ w h);generalize sz c=s at f i ⊢;generalize pg c=p at g j ⊢;clear b h;go_enter func70,ntmps70;go_wp2_with fail;refine (d).mono ?_;rintro e a ⟨rfl,rfl⟩;go_wp2_with fail;refine (g).mono ?_;rintro e a ⟨rfl,rfl⟩;go_wp2_with fail;refine (f).mono ?_;rintro e a ⟨rfl,rfl⟩;go_wp2;go_ret;exact⟨rfl,rfl⟩
 rw [xW h];have d:=hidR (dY _ w h);clear b h;go_enter func70,ntmps70;go_wp2_with fail;refine (d).mono ?_;rintro e a ⟨rfl,rfl⟩;go_wp2;go_ret;exact⟨rfl,rfl⟩
end
end Go.Proofs.YtibblbenmpcplaaGreatDoor
