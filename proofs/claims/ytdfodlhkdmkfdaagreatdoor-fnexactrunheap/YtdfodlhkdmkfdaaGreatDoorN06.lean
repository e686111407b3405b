import Derived.Test.YtdfodlhkdmkfdaaGreatDoorN05
set_option linter.unusedVariables false
set_option linter.unusedSimpArgs false
set_option maxRecDepth 20000
set_option maxHeartbeats 8000000
namespace Go.Proofs.YtdfodlhkdmkfdaaGreatDoor
open Go.Proofs.Tryz
variable {M S g:Nat} {bud n:Int} {f:Nat->Option Nat} {W W' w:World} {m:Nat->Option (Bool×List Int)}
section
open Go.RowKit Go.Shelf
def dN (m:Nat->Option (Bool×List Int)) (a:Nat):Nat->Bool
 | 0=>true
 | k+1=>dN m a k&&isOpen (m ((a+k)/1024))
theorem jP {m:Nat->Option (Bool×List Int)} {a k:Nat} (h:isOpen (m ((a+k)/1024))=false):∀ N,k<N->dN m a N=false
 | 0,hk=>by omega
 | N+1,hk=>by
  simp only [dN]
  by_cases e:k=N
  ·subst e;simp [h]
  rw [jP h N Z];rfl
theorem ic {m a} : ∀ {N:Nat},dN m a N=true->∀ k,k<N->isOpen (m ((a+k)/1024))=true
 | 0,_,k,b=>by omega
 | N+1,h,k,b=>by
  simp only [dN,JY] at h
  by_cases e:k=N
  ·subst e;exact h.2
  exact ic h.1 k Z
theorem kv {m:Nat->Option (Bool×List Int)} {a:Nat} : ∀ {N:Nat},(∀ k,k<N->isOpen (m ((a+k)/1024))=true)->dN m a N=true
 | 0,_=>rfl
 | N+1,h=>by
  simp only [dN]
  rw [kv (λk a=>h k Z),h N Z]
  rfl
theorem ts {m:Nat->Option (Bool×List Int)} {p:Nat} : ∀ {N:Nat},(∀ k,k<N->isOpen (m (p+k))=true)->gT m p N=true
 | 0,_=>rfl
 | N+1,h=>by
  simp only [gT]
  rw [ts (λk a=>h k Z),h N Z]
  rfl
theorem tM (m) (a n:Nat) (g:1<=n):gT m (a/1024) ((a+(n-1))/1024+1-a/1024)=dN m a n:=by
 cases c:dN m a n
 ·cases d:gT m (a/1024) ((a+(n-1))/1024+1-a/1024);·rfl
  exfalso;have:dN m a n=true:=kv (λk f=>by
   have b:=pW d ((a+k)/1024-a/1024) Z;rwa [show a/1024+((a+k)/1024-a/1024)=(a+k)/1024 by omega] at b)
  rw [c] at this;cases this
 refine ts (λk f=>?_);by_cases e:k=0;·have b:=ic c 0 Z;subst e;simpa using b
 have b:=ic c ((a/1024+k)*1024-a) Z;rwa [show (a+((a/1024+k)*1024-a))/1024=a/1024+k by omega] at b
theorem lK (T a) (n:Int) (w:World) (h:n<0\/4096<n) :
  Calls prog 149 #[J T 0,U a,I n] w λe b=>e=.returned (I 6)/\b=w:=by
 rcases h with h|h;·go_enter func149,ntmps149;go_wp2;go_ret;exact⟨rfl,rfl⟩
 have c:¬n<0:=Z;go_enter func149,ntmps149;go_wp2;go_ret;exact⟨rfl,rfl⟩
theorem ng (T a) (w:World) :
  Calls prog 149 #[J T 0,U a,I 0] w λe b=>e=.returned (I 0)/\b=w:=by
 go_enter func149,ntmps149;go_wp2;go_ret;exact⟨rfl,rfl⟩
theorem oz (T) (a n:Int) (w:World) (ha:0<=a) (b:a<=18446744073709551615) (f:1<=n) (g:n<=4096) (h:4611686018427387904<=a+(n-1)) :
  Calls prog 149 #[J T 0,U a,I n] w λe c=>e=.returned (I 2)/\c=w:=by
 have d:=H (tx a n w ha b (.inr (.inr h)));clear h;go_enter func149,ntmps149;go_wp2_with fail;refine d.mono ?_;rintro _ _ ⟨rfl,rfl⟩;unfold rB;go_wp2_with fail;go_ret;exact⟨rfl,rfl⟩
theorem mV (T Q nn bud m) (a n:Nat) (w) (b:Sx T Q nn bud m w) (k:nn<=4096) (q:1<=n) (r:n<=4096) (h:a+(n-1)<4611686018427387904) :
  Calls prog 149 #[J T 0,U a,I n] w λe l=>e=.returned (I (jM (dN m a n)))/\l=w:=by
 have c:=H (ss a n w Z Z Z Z);have o:=H (λ(j:Nat) (p:j<n)=>xP T Q nn bud m (a+j) w b k Z);clear b;go_enter func149,ntmps149;go_wp2_with fail;refine c.mono ?_;rintro _ s ⟨rfl,rfl⟩;go_wp2_with fail;clear c;go_loop [10] (λi=>∃ j:Nat,j<=n/\i=I j/\dN m a j=true) (λi=>n-(intOf i).toNat);case atStart=>exact ⟨0,Jt _,rfl,rfl⟩
 case round =>
  obtain⟨j,p,rfl,b⟩:=hrel;by_cases d:j<n
  ·have f:=H (o.out j d);rw [show ((a+j:Nat):Int)=(a:Int)+(j:Int) by omega] at f;cases c:isOpen (m ((a+j)/1024));·have g:=H (jP c n d);rw [c] at f;clear c b;go_wp2_with fail;refine f.mono ?_;rintro _ _ ⟨rfl,rfl⟩;go_wp2_with fail;go_ret;exact⟨ct (by rw [g.out];rfl),rfl⟩
   have g:=H (show dN m a (j+1)=true by simp only [dN];rw [b,c];rfl);rw [c] at f;clear c b;go_wp2_with fail;refine f.mono ?_;rintro _ _ ⟨rfl,rfl⟩;go_wp2_with fail
   go_round
   (case rel=>exact ⟨j+1,Z,aR,g.out⟩);case measure=>simp [intOf];omega
  have c:j=n:=Z;have g:=H (c▸b);clear b c;go_wp2;go_ret;exact⟨ct (by rw [g.out];rfl),rfl⟩
abbrev E7:Go.Conc.Locks.MuLink:={ lock:=117,unlock:=118,ilock:=175,iunlock:=176,lockSlow:=208,unlockSlow:=211,disable:=204,enable:=206,acquire:=207,relMerge:=209,cas32:=205,add32:=210,tMutex:=172,tIMutex:=170,tPMutex:=246,tPIMutex:=265,tPI32:=267,tUP:=269,tNoCopy:=167,tU32:=168 }
theorem jS:Go.Conc.Locks.MuLib prog E7 :=
 ⟨func117,func118,func175,func176,func204,func206,func207,func209,func205,func210,underlying170,Tryz.runUnderlying170,Tryz.sizeOf170,Tryz.isAgg170,Tryz.zeroValue170,underlying172,Tryz.runUnderlying172,Tryz.sizeOf172,Tryz.isAgg172,Tryz.zeroValue172,underlying246,Tryz.runUnderlying246,Tryz.sizeOf246,Tryz.isAgg246,Tryz.zeroValue246,underlying265,Tryz.runUnderlying265,Tryz.sizeOf265,Tryz.isAgg265,Tryz.zeroValue265,underlying267,Tryz.runUnderlying267,Tryz.sizeOf267,Tryz.isAgg267,Tryz.zeroValue267,underlying269,Tryz.runUnderlying269,Tryz.sizeOf269,Tryz.isAgg269,Tryz.zeroValue269,underlying167,Tryz.runUnderlying167,Tryz.sizeOf167,Tryz.isAgg167,Tryz.zeroValue167,underlying21,Tryz.runUnderlying21,Tryz.sizeOf21,Tryz.isAgg21,Tryz.zeroValue21,E⟩
theorem gy (h:Im S M 0 n bud f w):Calls prog 117 #[J S 0] w λe a=>e=.returned (.tuple #[])/\a=w.setCell ⟨S,0,none⟩ (.int .i32 1) :=
 Go.MuLone.lock_free jS ⟨S,0,none⟩ w (by simp [World.cell?,h.box]) (by simp [World.frozen?,h.box])
theorem Im.st {st} (h:Im S M st n bud f w) (st'):Im S M st' n bud f (w.setCell ⟨S,0,none⟩ (.int .i32 st')):=by
 obtain⟨a,c,g⟩:=h.map;refine⟨aO h.box _,a,c.kept (au (ao w S) 0 _) (λe=>?_),g⟩;obtain⟨i,b,d,_⟩:=c;simp at e;subst e;rw [h.box] at d;cases d
def cr (m:Nat->Option (Bool×List Int)) (a:Nat) (n:Int):Int :=
 if n<0\/4096<n then 6 else if n=0 then 0 else if 4611686018427387904<=(a:Int)+(n-1) then 2 else jM (dN m a n.toNat)
theorem pt (T Q nn bud m) (a:Nat) (n w) (g:Sx T Q nn bud m w) (b:nn<=4096) (ha:a<18446744073709551616) :
  Calls prog 149 #[J T 0,U a,I n] w λe i=>e=.returned (I (cr m a n))/\i=w:=by
 unfold cr;by_cases c:n<0\/4096<n;·rw [tm c];exact lK T a n w c
 rw [tg c];by_cases d:n=0;·rw [tm d];subst d;exact ng T a w
 rw [tg d];by_cases f:4611686018427387904<=(a:Int)+(n-1);·rw [tm f];exact oz T a n w Z Z Z Z f
 rw [tg f];obtain⟨k,rfl⟩:=AP (show 0<=n by omega);exact mV T Q nn bud m a k w g b Z Z Z
theorem lw {m a} : ∀ {n:Nat},dN m a n=true->∀ i,i<n->isOpen (m ((a+i)/1024))=true
 | 0,_,i,b=>by omega
 | n+1,h,i,b=>by
  simp only [dN,JY] at h
  by_cases e:i=n
  ·subst e;exact h.2
  exact lw h.1 i Z
theorem vh {a} (h:cr m a n=0):0<=n/\n<=4096/\(n=0\/(a:Int)+n<=4611686018427387904)/\∀ i,i<n.toNat->isOpen (m ((a+i)/1024))=true:=by
 unfold cr at h;split at h;·omega
 split at h;·rename_i c b;subst b;exact⟨Z,Z,.inl rfl,λi d=>by simp at d⟩
 split at h;·omega
 rename_i c b e;refine⟨Z,Z,.inr Z,lw ?_⟩;unfold jM at h;split at h;·assumption
 omega
theorem qW (T a n) (c:Int) (w) (f:(c==0)=false) (h:∀ W,D w W->Calls prog 149 #[J T 0,U a,I n] W λe b=>e=.returned (I c)/\b=W) :
  Calls prog 97 #[J T 0,U a,I n] w λe b=>e=.returned (.agg #[I c,C])/\D w b:=by
 have d:=H h;clear h;by_cases g:0<n
 all_goals
  go_enter func97,ntmps97
  go_wp2_with fail
  refine (d _ ((Jn _ _).alloc (Jo _) _)).mono ?_
  rintro _ i ⟨rfl,rfl⟩
  go_wp2_with fail
  refine A9 1 ?_
  rw [IA]
  go_wp2
  exact wA (v:=.agg #[I c,C]) (by simp [results,Tryz.results97,go_sem]) rfl ⟨rfl,((Jn _ w).alloc (Jo _) _).alloc bh _⟩
theorem oH (T a) (c:Int) (d:Option Addr) (b f:Nat) (w) (j:(c==0)=false) (h:∀ W,D w W->Calls prog 149 #[J T 0,U a,I b] W λe g=>e=.returned (I c)/\g=W) :
  Calls prog 98 #[J T 0,U a,.slice d b f] w λe g=>e=.returned (.agg #[I c,C])/\D w g:=by
 have i:=H h;clear h;by_cases k:0<b
 all_goals
  go_enter func98,ntmps98
  go_wp2_with fail
  refine (i _ ((Jn _ _).alloc (Jo _) _)).mono ?_
  rintro _ l ⟨rfl,rfl⟩
  go_wp2_with fail
  refine A9 1 ?_
  rw [IA]
  go_wp2
  exact wA (v:=.agg #[I c,C]) (by simp [results,Tryz.results98,go_sem]) rfl ⟨rfl,((Jn _ w).alloc (Jo _) _).alloc bh _⟩
theorem AV (T Q nn bud m) (a:Nat) (n w) (j:Sx T Q nn bud m w) (d:nn<=4096) (ha:a<18446744073709551616) (c:Int) (i:cr m a n=c) :
  Calls prog 97 #[J T 0,U a,I n] w λe f=>∃ v,e=.returned (.agg #[I c,v])/\f.ownsRow w.heap.size 5 1 v (if c=0 then n.toNat else 0) (Ns .u8 (if c=0 then aI m a n.toNat else []))/\D w f:=by
 have b:∀ W,D w W->Calls prog 149 #[J T 0,U a,I n] W λe f=>e=.returned (I c)/\f=W:=λW p=>by
  have:=pt T Q nn bud m a n W (j.below p) d ha;rw [i] at this;exact this
 by_cases g:c=0
 ·subst g;obtain⟨q,r,s,l⟩:=vh i;obtain⟨k,rfl⟩:=AP q;simp only [Lu,JL] at l ⊢;rcases Nat.eq_zero_or_pos k with o|o;·subst o;exact lC T Q nn bud m a 0 w j d Z Z (λi i=>Z) b
  exact lC T Q nn bud m a k w j d Z Z l b
 refine (qW T a n c w (by simp [g]) b).mono ?_;rintro e f ⟨rfl,k⟩;refine⟨_,rfl,?_,k⟩;rw [tg g,tg g];exact⟨rfl,.inl ⟨rfl,rfl⟩⟩
theorem sy (T Q nn bud m) (a:Nat) (len) (f:Nat) (d ys w) (j:Sx T Q nn bud m w) (n:Dt Q w d len ys) (g:nn<=4096) (ha:a<18446744073709551616) (c:Int) (i:cr m a (len:Int)=c) :
  Calls prog 98 #[J T 0,U a,.slice d len f] w λe k=>e=.returned (.agg #[I c,C])/\Sx T Q nn bud (if c=0 then ax m a ys len else m) k/\Sf Q w k:=by
 have b:∀ W,D w W->Calls prog 149 #[J T 0,U a,I len] W λe k=>e=.returned (I c)/\k=W:=λW q=>by
  have:=pt T Q nn bud m a len W (j.below q) g ha;rw [i] at this;exact this
 by_cases l:c=0
 ·subst l;obtain⟨r,s,t,o⟩:=vh i;simp only [Lu,JL] at o ⊢;rcases Nat.eq_zero_or_pos len with p|p;·subst p;exact jH T Q nn bud m a 0 f d ys w j n g Z Z (λi i=>Z) b
  exact jH T Q nn bud m a len f d ys w j n g Z Z o b
 refine (oH T a c d len f w (by simp [l]) b).mono ?_;rintro e k ⟨rfl,o⟩;rw [tg l];exact⟨rfl,j.below o,Sf.ofBelow o j.ltQ⟩
theorem Im.lt {S M st n bud f w} (h:Im S M st n bud f w):S<w.heap.size/\M<w.heap.size:=by
 obtain⟨a,b,c⟩:=h.map;exact⟨ah h.box,b.lt⟩
theorem Im.setRow {S M st n bud f w} (h:Im S M st n bud f w) {r:Nat} (d:r≠S) (e:r≠M) (b:Array Value):Im S M st n bud f (w.setRow r b):=by
 have c:=ar w r b;obtain⟨a,g,i⟩:=h.map;exact⟨(c.block S (ah h.box) (by simpa using KN d)).trans h.box,a,g.kept c (by simpa using KN e),i⟩
theorem Im.apartT {st} (h:Im S M st n bud f W) (j:Pg f m W) {c:Array Value} {t:TypeId} {o:Nat×Nat} (d:W.heap[g]?=some (.cells c t o)) (p:t≠174) (q:t≠206):g≠S/\g≠M/\∀ k,f k≠some g:=by
 refine⟨?_,?_,λk i=>?_⟩;·rintro rfl;have:=h.box;rw [d] at this;simp at this;exact p this.2.1
 ·rintro rfl;obtain⟨a,⟨l,b,e,_⟩,_⟩:=h.map;rw [d] at e;cases e
 rcases j.at' k with ⟨a,_⟩|⟨b,l,r,a,_,_,e⟩;·rw [i] at a;cases a
 rw [i] at a;cases a;rw [d] at e;simp at e;exact q e.2.1
theorem Pg.other (h:Pg f m W) (c:∀ k b,f k=some b->W'.heap[b]?=W.heap[b]?):Pg f m W' :=
 ⟨λk=>(h.at' k).imp id λ⟨b,l,d,a,e,g,i⟩=>⟨b,l,d,a,e,g,(c k b a).trans i⟩,h.inj⟩
structure Dl (w:World) (op:Array Value) (S M:Nat) (nn bud:Int) (f f':Nat->Option Nat) (m:Nat->Option (Bool×List Int)) (O Rb:Nat) (V:World):Prop where
 im:Im S M 1 nn bud f' V
 pg:Pg f' m V
 fr:Fr S M f f' w V
 o:V.heap[O]?=some (.cells op 202)
 r:V.heap[Rb]?=some (.cells #[I 0,C] 157)
 hO:O=w.heap.size
 hR:Rb=w.heap.size+1
theorem Dl.first (h:Im S M 0 n bud f w) (i:Pg f m w) (op):Dl w op S M n bud f f m w.heap.size (w.heap.size+1) (((w.alloc (.cells op 202)).alloc (.cells #[I 0,C] 157)).setCell ⟨S,0,none⟩ (.int .i32 1)):=by
 have o:=h.lt;have c:=(h.alloc (.cells op 202)).alloc (.cells #[I 0,C] 157);have d:=(i.alloc (.cells op 202)).alloc (.cells #[I 0,C] 157);refine⟨c.st 1,d.other (λk b a=>t4 _ _ _ _ (d.apart c a).1),?_,?_,?_,rfl,rfl⟩;·have a:D w ((w.alloc (.cells op 202)).alloc (.cells #[I 0,C] 157)):=((Jn _ _).alloc (Jo _) _).alloc (by rw [aA];omega) _;have b:=au (ao ((w.alloc (.cells op 202)).alloc (.cells #[I 0,C] 157)) S) 0 (.int .i32 1);exact⟨b.os.trans a.os,b.tape.trans a.tape,b.output.trans a.output,Jp a.size b.size,λg e j p q=>(b.block g (Ju e a.size) (by simpa using j)).trans (a.block g e),λk g l=>.inl ⟨k,l⟩⟩
 ·rw [t4 _ _ _ _ (by show w.heap.size≠S;omega),dG _ _ _ (by rw [aA];omega)];exact av _ _
 rw [t4 _ _ _ _ (by show w.heap.size+1≠S;omega),<-aA w (.cells op 202)];exact av _ _
theorem Dl.move {O Rb f' f'' m' V V' op} (h:Dl w op S M n bud f f' m O Rb V) (b:Im S M 1 n bud f'' V') (c:Pg f'' m' V') (a:Fr S M f' f'' V V'):Dl w op S M n bud f f'' m' O Rb V':=by
 obtain⟨d,e,g⟩:=h.im.apartT h.pg h.o al al;obtain⟨i,j,k⟩:=h.im.apartT h.pg h.r al al;exact⟨b,c,h.fr.trans a,(a.block O (ah h.o) d e g).trans h.o,(a.block Rb (ah h.r) i j k).trans h.r,h.hO,h.hR⟩
def uv (S M:Nat) (n bud:Int) (f:Nat->Option Nat) (m:Nat->Option (Bool×List Int)) (w i:World):Prop:=∃ j,Im S M 0 n bud j i/\Pg j m i/\Fr S M f j w i
theorem Dl.done {O Rb f' V op} (h:Dl w op S M n bud f f' m O Rb V) (a:Array Value):(V.setRow Rb a).cell? ⟨S,0,none⟩=some (.int .i32 1)/\(V.setRow Rb a).frozen? ⟨S,0,none⟩=false/\((V.setRow Rb a).setCell ⟨S,0,none⟩ (.int .i32 0)).heap[Rb]?=some (.cells a 157)/\uv S M n bud f m w ((V.setRow Rb a).setCell ⟨S,0,none⟩ (.int .i32 0)):=by
 obtain⟨o,q,r⟩:=h.im.apartT h.pg h.r al al;have i:=h.im.setRow o q a;have c:=ar V Rb a;have p:Pg f' m (V.setRow Rb a):=h.pg.other (λk b d=>c.block b (by
  rcases h.pg.at' k with ⟨e,_⟩|⟨s,l,t,e,_,_,j⟩;·rw [d] at e;cases e
  rw [d] at e;cases e;exact ah j) (λe=>by cases e;exact r k d))
 have e:=au (ao (V.setRow Rb a) S) 0 (.int .i32 0);refine⟨by simp [World.cell?,i.box],by simp [World.frozen?,i.box],?_,f',i.st 0,p.other (λk b d=>t4 _ _ _ _ (p.apart i d).1),?_⟩;·rw [t4 _ _ _ _ o];exact aw h.r a
 have u:=h.hR;exact⟨e.os.trans (c.os.trans h.fr.os),e.tape.trans (c.tape.trans h.fr.tape),e.output.trans (c.output.trans h.fr.output),Jp h.fr.size (Jp c.size e.size),λg j l s t=>(e.block g (Ju j (Jp h.fr.size c.size)) (by simpa using l)).trans ((c.block g (Ju j h.fr.size) cd).trans (h.fr.block g j l s t)),h.fr.made⟩
theorem yi (S M nn bud f m) (b:Int) (p c a n d dl dc w) (h:Im S M 0 nn bud f w) (g:Pg f m w) (k:b<0\/5<b) :
  Calls prog 174 #[J S 0,kN b p c a n d dl dc] w λe l=>e=.returned (.agg #[I 6,C])/\uv S M nn bud f m w l:=by
 have o:¬b=0:=Z;have q:¬b=1:=Z;have r:¬b=2:=Z;have s:¬b=3:=Z;have t:¬b=4:=Z;have u:¬b=5:=Z;have i:=H h;have j:=H g;clear h k g;unfold kN;go_enter_defers func174,ntmps174;go_wp2_with fail;refine (gy ((i.alloc _).alloc _)).mono ?_;rintro e V ⟨rfl,k⟩;have g:=H (Dl.first i j #[I b,I p,I c,U a,I n,.slice d dl dc]);rw [<-k] at g;clear k i j;generalize j:w.heap.size+1=v at g ⊢;generalize w.heap.size=O at g ⊢;have x:V.cell? ⟨O,0,none⟩=some (I b):=by simp [World.cell?,g.o]
 go_wp2_with (refine fG g.r ?_);have i:=g.done #[I 6,C];refine Lb (f:=118) (args:=#[J S 0]) bh (by simp [go_sem]) ?_;refine (Go.MuLone.unlock_deferred jS ⟨S,0,none⟩ .returning _ i.1 i.2.1).mono ?_;rintro e y k ⟨rfl,rfl,rfl⟩;exact⟨_,Ee i.2.2.1 underlying157,rfl,i.2.2.2⟩
theorem nw (S M nn bud f m m' code p c a n d dl dc w) (h:Im S M 0 nn bud f w) (b:Pg f m w) (k:∀ V,Im S M 1 nn bud f V->Pg f m V->Calls prog 199 #[J S 0,I p,I c] V λe g=>e=.returned (I code)/\∃ i,Im S M 1 nn bud i g/\Pg i m' g/\Fr S M f i V g) :
  Calls prog 174 #[J S 0,kN 0 p c a n d dl dc] w λe g=>e=.returned (.agg #[I code,C])/\uv S M nn bud f m' w g:=by
 have j:=H h;have l:=H b;have o:=H k;clear h b k;unfold kN;go_enter_defers func174,ntmps174;go_wp2_with fail;refine (gy ((j.alloc _).alloc _)).mono ?_;rintro e V ⟨rfl,q⟩;have b:=H (Dl.first j l #[I 0,I p,I c,U a,I n,.slice d dl dc]);rw [<-q] at b;clear q j l;generalize s:w.heap.size+1=x at b ⊢;generalize w.heap.size=O at b ⊢;have t:V.cell? ⟨O,0,none⟩=some (I 0):=by simp [World.cell?,b.o]
 have u:V.cell? ⟨O,1,none⟩=some (I p):=by simp [World.cell?,b.o]
 have v:V.cell? ⟨O,2,none⟩=some (I c):=by simp [World.cell?,b.o]
 go_wp2_with fail;refine (o V b.im b.pg).mono ?_;rintro e y ⟨rfl,i,j,l,q⟩;have r:=H (b.move j l q);clear j l q b o t u v;go_wp2_with (refine fG r.r ?_);have b:=r.done #[I code,C];refine Lb (f:=118) (args:=#[J S 0]) bh (by simp [go_sem]) ?_;refine (Go.MuLone.unlock_deferred jS ⟨S,0,none⟩ .returning _ b.1 b.2.1).mono ?_;rintro e l j ⟨rfl,rfl,rfl⟩;exact⟨_,Ee b.2.2.1 underlying157,rfl,b.2.2.2⟩
theorem jL (S M nn bud f m m' code p c a n d dl dc w) (h:Im S M 0 nn bud f w) (b:Pg f m w) (k:∀ V,Im S M 1 nn bud f V->Pg f m V->Calls prog 200 #[J S 0,I p,I c] V λe g=>e=.returned (I code)/\∃ i,Im S M 1 nn bud i g/\Pg i m' g/\Fr S M f i V g) :
  Calls prog 174 #[J S 0,kN 1 p c a n d dl dc] w λe g=>e=.returned (.agg #[I code,C])/\uv S M nn bud f m' w g:=by
 have j:=H h;have l:=H b;have o:=H k;clear h b k;unfold kN;go_enter_defers func174,ntmps174;go_wp2_with fail;refine (gy ((j.alloc _).alloc _)).mono ?_;rintro e V ⟨rfl,q⟩;have b:=H (Dl.first j l #[I 1,I p,I c,U a,I n,.slice d dl dc]);rw [<-q] at b;clear q j l;generalize s:w.heap.size+1=x at b ⊢;generalize w.heap.size=O at b ⊢;have t:V.cell? ⟨O,0,none⟩=some (I 1):=by simp [World.cell?,b.o]
 have u:V.cell? ⟨O,1,none⟩=some (I p):=by simp [World.cell?,b.o]
 have v:V.cell? ⟨O,2,none⟩=some (I c):=by simp [World.cell?,b.o]
 go_wp2_with fail;refine (o V b.im b.pg).mono ?_;rintro e y ⟨rfl,i,j,l,q⟩;have r:=H (b.move j l q);clear j l q b o t u v;go_wp2_with (refine fG r.r ?_);have b:=r.done #[I code,C];refine Lb (f:=118) (args:=#[J S 0]) bh (by simp [go_sem]) ?_;refine (Go.MuLone.unlock_deferred jS ⟨S,0,none⟩ .returning _ b.1 b.2.1).mono ?_;rintro e l j ⟨rfl,rfl,rfl⟩;exact⟨_,Ee b.2.2.1 underlying157,rfl,b.2.2.2⟩
theorem r_ (S M nn bud f m m' code p c a n d dl dc w) (h:Im S M 0 nn bud f w) (b:Pg f m w) (k:∀ V,Im S M 1 nn bud f V->Pg f m V->Calls prog 201 #[J S 0,I p,I c,.bool true] V λe g=>e=.returned (I code)/\∃ i,Im S M 1 nn bud i g/\Pg i m' g/\Fr S M f i V g) :
  Calls prog 174 #[J S 0,kN 2 p c a n d dl dc] w λe g=>e=.returned (.agg #[I code,C])/\uv S M nn bud f m' w g:=by
 have j:=H h;have l:=H b;have o:=H k;clear h b k;unfold kN;go_enter_defers func174,ntmps174;go_wp2_with fail;refine (gy ((j.alloc _).alloc _)).mono ?_;rintro e V ⟨rfl,q⟩;have b:=H (Dl.first j l #[I 2,I p,I c,U a,I n,.slice d dl dc]);rw [<-q] at b;clear q j l;generalize s:w.heap.size+1=x at b ⊢;generalize w.heap.size=O at b ⊢;have t:V.cell? ⟨O,0,none⟩=some (I 2):=by simp [World.cell?,b.o]
 have u:V.cell? ⟨O,1,none⟩=some (I p):=by simp [World.cell?,b.o]
 have v:V.cell? ⟨O,2,none⟩=some (I c):=by simp [World.cell?,b.o]
 go_wp2_with fail;refine (o V b.im b.pg).mono ?_;rintro e y ⟨rfl,i,j,l,q⟩;have r:=H (b.move j l q);clear j l q b o t u v;go_wp2_with (refine fG r.r ?_);have b:=r.done #[I code,C];refine Lb (f:=118) (args:=#[J S 0]) bh (by simp [go_sem]) ?_;refine (Go.MuLone.unlock_deferred jS ⟨S,0,none⟩ .returning _ b.1 b.2.1).mono ?_;rintro e l j ⟨rfl,rfl,rfl⟩;exact⟨_,Ee b.2.2.1 underlying157,rfl,b.2.2.2⟩
theorem ni (S M nn bud f m m' code p c a n d dl dc w) (h:Im S M 0 nn bud f w) (b:Pg f m w) (k:∀ V,Im S M 1 nn bud f V->Pg f m V->Calls prog 201 #[J S 0,I p,I c,.bool false] V λe g=>e=.returned (I code)/\∃ i,Im S M 1 nn bud i g/\Pg i m' g/\Fr S M f i V g) :
  Calls prog 174 #[J S 0,kN 3 p c a n d dl dc] w λe g=>e=.returned (.agg #[I code,C])/\uv S M nn bud f m' w g:=by
 have j:=H h;have l:=H b;have o:=H k;clear h b k;unfold kN;go_enter_defers func174,ntmps174;go_wp2_with fail;refine (gy ((j.alloc _).alloc _)).mono ?_;rintro e V ⟨rfl,q⟩;have b:=H (Dl.first j l #[I 3,I p,I c,U a,I n,.slice d dl dc]);rw [<-q] at b;clear q j l;generalize s:w.heap.size+1=x at b ⊢;generalize w.heap.size=O at b ⊢;have t:V.cell? ⟨O,0,none⟩=some (I 3):=by simp [World.cell?,b.o]
 have u:V.cell? ⟨O,1,none⟩=some (I p):=by simp [World.cell?,b.o]
 have v:V.cell? ⟨O,2,none⟩=some (I c):=by simp [World.cell?,b.o]
 go_wp2_with fail;refine (o V b.im b.pg).mono ?_;rintro e y ⟨rfl,i,j,l,q⟩;have r:=H (b.move j l q);clear j l q b o t u v;go_wp2_with (refine fG r.r ?_);have b:=r.done #[I code,C];refine Lb (f:=118) (args:=#[J S 0]) bh (by simp [go_sem]) ?_;refine (Go.MuLone.unlock_deferred jS ⟨S,0,none⟩ .returning _ b.1 b.2.1).mono ?_;rintro e l j ⟨rfl,rfl,rfl⟩;exact⟨_,Ee b.2.2.1 underlying157,rfl,b.2.2.2⟩
def fX (m:Nat->Option (Bool×List Int)) (p:Nat) (b:Bool):Nat->Bool
 | 0=>true
 | k+1=>fX m p b k&&((m (p+k)).isSome==b)
instance (nn:Nat) (p c:Int):Decidable (DN nn p c):=by unfold DN;infer_instance
def lA (n:Nat) (bud:Int) (m:Nat->Option (Bool×List Int)) (kd:Int) (p c:Nat):(Nat->Option (Bool×List Int))×Int :=
 if kd=0 then
  if fX m p false c=false then (m,6) else if bud<(bG m n:Int)+c then (m,1) else (aT m p c,0)
 else if fX m p true c=false then (m,6)
 else if kd=1 then (bQ m p c,0)
 else if kd=2 then (gY m p true c,0) else (gY m p false c,0)
def b_ (n:Nat) (bud:Int) (m:Nat->Option (Bool×List Int)) (kd p c:Int) (a:Nat) (len:Int) (ys:List Int):(Nat->Option (Bool×List Int))×Int×List Int :=
 if kd=4 then (m,cr m a len,if cr m a len=0 then aI m a len.toNat else [])
 else if kd=5 then (if cr m a (ys.length:Int)=0 then ax m a ys ys.length else m,cr m a (ys.length:Int),[])
 else if kd<0\/5<kd then (m,6,[])
 else if DN n p c then ((lA n bud m kd p.toNat c.toNat).1,(lA n bud m kd p.toNat c.toNat).2,[])
 else (m,6,[])
def Ans (Q:Nat) (w i:World) (e:Ending) (code:Int) (data:List Int):Prop:=∃ v,e=.returned (.agg #[I code,v])/\i.ownsRow w.heap.size 5 1 v data.length (Ns .u8 data)/\∀ g,v.ownBlock=some g->¬fm Q i g
theorem Ans.none (Q w w' code):Ans Q w w' (.returned (.agg #[I code,C])) code []:=⟨_,rfl,⟨rfl,.inl ⟨rfl,rfl⟩⟩,λg h=>by cases h⟩
attribute [local go_sem] Oper.semAt_some
def Da (S M:Nat) (f:Nat->Option Nat) (w:World) (p:Option Addr) (n:Nat) (ys:List Int):Prop :=
 ys.length=n/\∀ i,i<n->∃ x,p=some x/\w.cell? (x.add i)=some (.int .u8 (ys[i]?.getD 0))/\(x.add i).block<w.heap.size/\(x.add i).block≠S/\(x.add i).block≠M/\∀ k,f k≠some (x.add i).block
theorem Da.cell {S M f f' w W p n ys} (h:Da S M f w p n ys) (a:Fr S M f f' w W):∀ i,i<n->∃ x,p=some x/\W.cell? (x.add i)=some (.int .u8 (ys[i]?.getD 0)):=by
 intro i b;obtain⟨x,e,c,l,d,g,j⟩:=h.2 i b;refine⟨x,e,?_⟩;unfold World.cell? at c ⊢;rw [a.block _ l d g j];exact c
structure Sd (S M:Nat) (st nn bud:Int) (f:Nat->Option Nat) (mm:Nat->Option (Bool×List Int)) (w:World) (DB:Nat) (p:Option Addr) (n cap c:Nat) (W:World):Prop where
 im:Im S M st nn bud f W
 pg:Pg f mm W
 fr:Fr S M f f w W
 box:∃ pd,W.heap[DB]?=some (.cells #[.slice pd (n-c) (cap-c)] 52)/\(c<n->∃ x,p=some x/\pd=some (x.add c))
 mlt:M<w.heap.size
 dge:w.heap.size<=DB
theorem uD (w:World) (n o:Option Addr) (a c b d g f:Nat) (i:List Value) (t:TypeId) (p:w.heap[g]?=some (.cells i.toArray t)) (e:List Value) (q:e.length=Nat.min b a)
  (k:0<e.length->n=some ⟨g,f,none⟩/\∃ m,o=some m/\∀ j v,e[j]?=some v->w.cell? (m.add j)=some v)
  (j:f+e.length<=i.length) (r:∀ v∈e,v.oneCell'=true) :
  ∃ l,(Builtin.copy_ #[52,52] 3 #[.slice n a c,.slice o b d]).run prog w=.ok (I e.length) l/\l.heap[g]?=some (.cells (splice i f e).toArray t)/\w.grownBy l (some g):=by
 by_cases s:e.length=0;·obtain rfl:e=[]:=KD s;refine⟨w,run_copy_none (P:=prog) w 52 52 3 5 n o a c b d underlying52 E (by simpa using q.symm),by simpa [splice] using p,ao w g⟩
 obtain⟨rfl,m,rfl,l⟩:=k Z;refine⟨_,run_copy_row (P:=prog) w 52 52 3 5 g f a c m b d i.toArray t e underlying52 E p q l (by simpa using j) r,?_,ar w g _⟩;simpa [splice] using setRow_heap w g _ _ t _ p
theorem Af (c:Option Addr) (l a b:Nat) (f:l<=a) (g:a<=b):∃ d,(∀ w:World,(Instr.slice 52 (.slice c a b) (some (I l)) none none).run prog w=.ok (.slice d (a-l) (b-l)) w)/\(l<a->d=c.map λx=>x.add l):=by
 have d:prog.elem 52=5:=E;have h:=λw=>run_slice_l (P:=prog) w 52 c a b (by rw [d];exact underlying52) .i64 (l:Int) Z Z
 have e:∀ w:World,(sizeOf (prog.elem 52)).run prog w=.ok 1 w:=λw=>E
 refine⟨if b=l then c else c.map λx=>x.add l,λw=>?_,λh=>?_⟩;·rw [h w,e];simp [sliced,Result.andThen]
 rw [tg Z]
theorem Pg.lay {mm} (h:Pg f mm W) {k:Nat} (c:f k=some g) {l} {xs:List Int} (m:xs.length=1024) (n:W'.heap[g]?=some (.cells (eG l xs) 206)) (o:W.grownBy W' (some g)):Pg f (dY mm k (some (l,xs))) W':=by
 refine⟨?_,h.inj⟩;intro j;by_cases e:j=k;·subst e;exact .inr ⟨g,l,xs,c,bZ _ _ _,m,n⟩
 rw [aW mm k j _ e];rcases h.at' j with a|⟨d,p,b,a,q,r,i⟩;·exact .inl a
 refine .inr ⟨d,p,b,a,q,r,?_⟩;rw [o.block d (zQ i) (λb=>by cases b;exact e (h.inj j k _ a c))];exact i
theorem Im.grownAt {st} (h:Im S M st n bud f W) (e:W.grownBy W' (some g)) (i:g≠S) (j:g≠M):Im S M st n bud f W':=by
 obtain⟨a,⟨k,b,c,l⟩,r⟩:=h.map;refine⟨by rw [e.block S (zQ h.box) (by simpa using i.symm)];exact h.box,a,⟨k,b,?_,l⟩,r⟩;have d:M<W.heap.size:=by
  by_cases m:M<W.heap.size;·exact m
  rw [BC Z] at c;cases c
 rw [e.block M d (by simpa using j.symm)];exact c
theorem Fr.grownAt (h:Fr S M f f w W) (a:W.grownBy W' (some g)) (b:(∃ k,f k=some g)\/w.heap.size<=g):Fr S M f f w W' :=
 ⟨a.os.trans h.os,a.tape.trans h.tape,a.output.trans h.output,Jp h.size a.size,λj c i l d=>by
  rw [a.block j (Ju c h.size) (λe=>by
   cases e
   rcases b with ⟨k,b⟩|b
   ·exact d k b
   omega)]
  exact h.block j c i l d,h.made⟩
end
section
open Go.ChangeShapes Go.WideShapes Go.ChangeAt Go.RowKit
theorem tH (G r n o k:Nat) (ps:List Int) (x d:Int) (w:World) (a:w.heap[G]?=some (.cells #[Vl r n n,I o,I n] 179)) (c:RowV w r 3 (Ns .i64 ps)) (j:ps.length=n) (m:o<n) (p:n<=1024) (l:(o+1)%n=k) :
  Calls prog 285 #[J G 0,I x,I d] w λe f=>e=.returned (I (ps[o]?.getD 0))/\f.heap[G]?=some (.cells #[Vl r n n,I k,I n] 179)/\RowV f r 3 (Ns .i64 (ps.set o x))/\But (λk=>k=G\/k=r) w f:=by
 have b:G≠r:=c.ne a al;have g:w.cell? ⟨G,0,none⟩=some (Vl r n n):=aM a;have i:w.cell? ⟨G,1,none⟩=some (I o):=aM a;have q:w.cell? ⟨G,2,none⟩=some (I n):=aM a;have s:=H (lV G r n n o 0 o ps x w.drew (by rw [Kq,Jx m]) j Z Z Z Z g i c);have t:=H a;have z:((n:Int)==0)=false:=cd;have u:((o:Int)+1)%(n:Int)=(k:Int):=by rw [<-l];simp
 clear a c j l;go_enter func285,ntmps285;go_wp2;go_region;go_wp2_with fail;refine (s).mono ?_;rintro e c ⟨rfl,l,j⟩;have a:=H (fa (k:=G) j t b);have v:=H l;have y:=H j;clear l j g i q;have g:c.cell? ⟨G,0,none⟩=some (Vl r n n):=aM a.out;have i:c.cell? ⟨G,1,none⟩=some (I o):=aM a.out;have f1:c.frozen? ⟨G,1,none⟩=false:=xg _ _ _ _ _ a.out;go_wp2;go_region;rw [u];go_wp2;go_ret;refine⟨rfl,?_,?_,?_⟩;·show (c.setCell ⟨G,1,none⟩ _).heap[G]?=_;rw [Ku _ _ _ _ _ _ a.out];rfl
 ·exact (v.other (by simpa using b.symm) _).drew
 exact (((But.refl _ w).drew.trans (.ofGrown y (.inr rfl))).set _ _ _ (.inl rfl)).drew
theorem sk (ps:List Int) (o:Nat) (x:Int) (h:o<ps.length):(ps.set o x).drop (o+1)=ps.drop (o+1):=by
 rw [List.drop_set_of_lt Z]
theorem gI (ps:List Int) (o:Nat) (x:Int) (h:o<ps.length):(ps.set o x).take (o+1)=ps.take o++[x]:=by
 rw [JK,List.take_set_of_le (Jo _)];simp [h]
theorem Do (G r n xs x d w) (h:Qu w G r n xs) (a:n<=1024) :
  Calls prog 285 #[J G 0,I x,I d] w λe j=>e=.returned (I (dx n xs x).2)/\Qu j G r n (dx n xs x).1/\But (λk=>k=G\/k=r) w j:=by
 obtain⟨ps,o,h,s,t,k,u,A,v,rfl⟩:=h;by_cases g:h<n
 ·obtain rfl:=v g;refine (tB G r n h ps x d w s t k g a).mono ?_;rintro e j ⟨rfl,b,c,f⟩;have m:(ps.drop 0++ps.take 0).take h=ps.take h:=bh;have p:dx n (ps.take h) x=(ps.take h++[x],-1):=by
   unfold dx;rw [tm cd]
  rw [m,p];refine⟨rfl,⟨ps.set h x,0,h+1,b,c,by simpa using k,u,Z,λ_=>rfl,?_⟩,f⟩;simp only [Lk,List.take_zero,J3];rw [gI _ _ _ Z]
 have q:h=n:=Z;subst q;refine (tH G r h o _ ps x d w s t k u a rfl).mono ?_;rintro e j ⟨rfl,b,c,f⟩;have y:ps.drop o=(ps[o]?.getD 0)::ps.drop (o+1):=by
  rw [List.drop_eq_getElem_cons Z];congr 1;rw [Jq Z];rfl
 have m:(ps.drop o++ps.take o).take h=ps.drop o++ps.take o:=JN cd;have p:dx h (ps.drop o++ps.take o) x=(ps.drop (o+1)++ps.take o++[x],ps[o]?.getD 0):=by
  unfold dx;rw [tg cd,y];rfl
 rw [m,p];refine⟨rfl,⟨ps.set o x,_,h,b,c,by simpa using k,Nat.mod_lt _ Z,Z,λh=>Z,?_⟩,f⟩;by_cases z:o+1<h;·rw [Jx z,sk _ _ _ Z,gI _ _ _ Z,JN (l:=ps.drop (o+1)++(ps.take o++[x])) cd,Kr]
 have i:o+1=h:=Z;rw [i,Nat.mod_self];simp only [Lk,List.take_zero,J3];rw [List.drop_of_length_le Z,JF,<-i,gI _ _ _ Z]
def eH (n:Nat) (mix fifo:List Int) (slot i:Int):List Int×List Int×Int :=
 if mix=[] then ([],(dx n fifo slot).1,(dx n fifo slot).2)
 else if mix[md i mix.length]?.getD 0 = -1 then (mix.set (md i mix.length) slot,fifo,-1)
 else (mix.set (md i mix.length) slot,(dx n fifo (mix[md i mix.length]?.getD 0)).1,(dx n fifo (mix[md i mix.length]?.getD 0)).2)
theorem sS (M G r n k:Nat) (a:List Int) (x d:Int) (w:World) (b:w.heap[M]?=some (.cells #[Vl r n n,I (0:Nat),I n,.iface 71 (J G 0)] 181)) (c:RowV w r 3 (Ns .i64 a)) (g:a.length=n) (j:0<n) (y:n<=1024) (f:md d n=k) (z:a[k]?.getD 0 = -1) :
  Calls prog 283 #[J M 0,I x,I d] w λe q=>e=.returned (I (-1))/\RowV q r 3 (Ns .i64 (a.set k x))/\w.grownBy q (some r):=by
 have l:M≠r:=c.ne b al;have A:w.cell? ⟨M,0,none⟩=some (Vl r n n):=aM b;have B:w.cell? ⟨M,1,none⟩=some (I (0:Nat)):=aM b;have F:w.cell? ⟨M,2,none⟩=some (I n):=aM b;have m:k<n:=f▸ru d n j;have s:=H (lV M r n n 0 k k a x w.drew (by rw [JQ,Jx m]) g j Z Z Z A B c);have t:=H (λW=>iW d n W j Z);rw [f] at t;have u:=H b;clear b c g f;rw [z] at s;go_enter func283,ntmps283;go_wp2;refine rh (S:=λW=>W.cell? ⟨M,2,none⟩=some (I n)/\Hid (W.heap[M]?=some (.cells #[Vl r n n,I (0:Nat),I n,.iface 71 (J G 0)] 181))) ?_;have b:=(show _/\Hid _ from ⟨F,u⟩);iterate 9 (refine py b ?_;simp only [f0,f1,Nat.reduceAdd,lz,l0,ls])
 refine pk 10 (I x) b ?_;refine cE (r:=9) E ?_;refine dS rfl E (λK' c=>?_);go_simp;refine (t _).mono ?_;rintro e o ⟨rfl,rfl⟩;refine c _ _ ⟨b,?_⟩;clear c K';refine cE (r:=11) E ?_;refine dS rfl E (λK' c=>?_);go_simp;refine (s).mono ?_;rintro e o ⟨rfl,v,p⟩;have f:=H (fa (k:=M) p u l);have g:o.cell? ⟨M,2,none⟩=some (I n)/\Hid (o.heap[M]?=some (.cells #[Vl r n n,I (0:Nat),I n,.iface 71 (J G 0)] 181)):=⟨aM f.out,f⟩;refine c _ _ ⟨g,?_⟩;have K:=H v;have i:=H p;clear b v p;have b:=g;clear c K';refine pk 12 (I (-1)) b ?_;refine bY ?_;go_wp2;go_ret;exact⟨rfl,K,⟨i.os,i.tape,i.output,i.size,i.block⟩⟩
theorem yf (a : Addr) (w : World) : (method 660 71 (.pointer (some a)) "loop.example/s01868/impl.push").run prog w=.ok (285, .pointer (some a)) w := E
theorem EK (a : Addr) (w : World) : (method 660 70 (.pointer (some a)) "loop.example/s01868/impl.push").run prog w=.ok (283, .pointer (some a)) w := E
theorem zO (M G r n k:Nat) (b:List Int) (x d:Int) (w:World) (f:w.heap[M]?=some (.cells #[Vl r n n,I (0:Nat),I n,.iface 71 (J G 0)] 181)) (g:RowV w r 3 (Ns .i64 b)) (j:b.length=n) (m:0<n) (B:n<=1024) (i:md d n=k) (y:Int) (F:b[k]?.getD 0=y) (K:y ≠ -1)
  (R:Value->World->Prop) (a:∀ c,RowV c r 3 (Ns .i64 (b.set k x))->w.grownBy c (some r)->Calls prog 285 #[J G 0,I y,I d] c λe o=>∃ z,e=.returned (I z)/\R (I z) o) :
  Calls prog 283 #[J M 0,I x,I d] w λe o=>∃ z,e=.returned (I z)/\R (I z) o:=by
 have p:M≠r:=g.ne f al;have L:w.cell? ⟨M,0,none⟩=some (Vl r n n):=aM f;have N:w.cell? ⟨M,1,none⟩=some (I (0:Nat)):=aM f;have O:w.cell? ⟨M,2,none⟩=some (I n):=aM f;have q:k<n:=i▸ru d n m;have t:=H (lV M r n n 0 k k b x w.drew (by rw [JQ,Jx q]) j m Z Z Z L N g);have u:=H (λW=>iW d n W m Z);rw [i] at u;have v:=H f;clear f g j i;rw [F] at t;have P:=H a;clear a;have Q:(y == -1)=false:=by simpa using K
 go_enter func283,ntmps283;go_wp2;refine rh (S:=λW=>W.cell? ⟨M,2,none⟩=some (I n)/\Hid (W.heap[M]?=some (.cells #[Vl r n n,I (0:Nat),I n,.iface 71 (J G 0)] 181))) ?_;have g:=(show _/\Hid _ from ⟨O,v⟩);iterate 9 (refine py g ?_;simp only [f0,f1,Nat.reduceAdd,lz,l0,ls])
 refine pk 10 (I x) g ?_;refine cE (r:=9) E ?_;refine dS rfl E (λK' i=>?_);go_simp;refine (u _).mono ?_;rintro e c ⟨rfl,rfl⟩;refine i _ _ ⟨g,?_⟩;clear i K';refine cE (r:=11) E ?_;refine dS rfl E (λK' i=>?_);go_simp;refine (t).mono ?_;rintro e c ⟨rfl,A,s⟩;have f:=H (fa (k:=M) s v p);have j:c.cell? ⟨M,2,none⟩=some (I n)/\Hid (c.heap[M]?=some (.cells #[Vl r n n,I (0:Nat),I n,.iface 71 (J G 0)] 181)):=⟨aM f.out,f⟩;refine i _ _ ⟨j,?_⟩;have T:=H A;have l:=H s;clear g A s;have g:=j;clear i K';refine pk 12 (I (y)) g ?_;refine bY ?_;have V:c.cell? ⟨M,3,none⟩=some (.iface 71 (J G 0)):=aM f.out;have s:=λw=>yf ⟨G,0,none⟩ w
 go_wp2_with fail;refine (P c T ⟨l.os,l.tape,l.output,l.size,l.block⟩).mono ?_;rintro e X ⟨z,rfl,A⟩;go_wp2;go_ret;exact⟨z,rfl,A⟩
end
end Go.Proofs.YtdfodlhkdmkfdaaGreatDoor
