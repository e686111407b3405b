import Derived.Test.YtdfodlhkdmkfdaaGreatDoorN40
import Derived.Test.YtdfodlhkdmkfdaaGreatDoorN39
set_option linter.unusedVariables false
set_option linter.unusedSimpArgs false
set_option maxRecDepth 20000
set_option maxHeartbeats 8000000
namespace Go.Proofs.YtdfodlhkdmkfdaaGreatDoor
open Go.Proofs.Tryz
section
open Go.RowKit Go.Maps
theorem iM (p:Nat->Bool) (d:Array Nat) (j:Nat):∀ i,i<=j+1->i<=Sort.scanUp p d j i/\Sort.scanUp p d j i<=j+1:=by
 intro i;induction h:j+1-i generalizing i with
 | zero =>
  intro a;rw [Sort.scanUp,tg cd];omega
 | succ n b =>
  intro a;rw [Sort.scanUp];split;·have:=b (i+1) Z Z;omega
  omega
theorem iD (p:Nat->Bool) (d:Array Nat) (i:Nat):∀ j,i<=j+1->i<=Sort.scanDown p d i j+1/\Sort.scanDown p d i j<=j:=by
 intro j;induction j with
 | zero=>intro h;exact⟨h,Jo _⟩
 | succ j a =>
  intro h;rw [Sort.scanDown];split
  ·rename_i b;simp at b;have:=a Z;omega
  omega
theorem tD (p : Nat->Bool) (d : Array Nat) (j : Nat) : ∀ i, Sort.scanUp p d j i<=j->p d[Sort.scanUp p d j i]! = false := by
 intro i;induction h:j+1-i generalizing i with
 | zero =>
  rw [Sort.scanUp,tg cd];intro a;omega
 | succ n b =>
  rw [Sort.scanUp];split;·exact b (i+1) Z
  ·rename_i c;intro a;simpa [a] using c
theorem uX (p : Nat->Bool) (d : Array Nat) (i : Nat) (e : 1<=i) : ∀ j, i<=Sort.scanDown p d i j->p d[Sort.scanDown p d i j]! = false := by
 intro j;induction j with
 | zero=>intro h;simp [Sort.scanDown] at h;omega
 | succ j a =>
  rw [Sort.scanDown];split;·exact a
  ·rename_i b;intro c;simpa [c] using b
theorem qI {p q:Nat->Bool} (k:∀ x,q x = !p x) {d:Array Nat} {i j I2 a:Nat} (l:1<=I2) (b:Sort.scanUp p d j i=I2) (c:Sort.scanDown q d I2 j=a) (m:a<=j):I2≠a:=by
 intro e;have f:=tD p d j i (by rw [b];omega);have g:=uX q d I2 l j (by rw [c];omega);rw [b] at f;rw [c,<-e,k,f] at g;cases g
theorem FB (G N cp) (a b n:Nat) (d V0 V) (A:Au G N cp V0 d V) (h1:a<=n) (h2:n<b) (hb:b<=N) (hN:N<=100000) :
  Calls prog 238 #[.slice (some ⟨G,0,none⟩) N cp,.int .i64 a,.int .i64 b,.int .i64 n] V λr V'=>r=.returned (.int .i64 ((Sort.partitionEqual aQ d a b n).1:Nat))/\Au G N cp V0 (Sort.partitionEqual aQ d a b n).2 V':=by
 obtain⟨z,e⟩:∃ z,Sort.partitionEqual aQ d a b n=z:=⟨_,rfl⟩;rw [e];obtain⟨F,Q⟩:∃ F,b-1=F:=⟨_,rfl⟩;have a1:(b:Int)-1=(F:Int):=Z;have K:=H (show Sort.partEqLoop aQ a (a+1) F (Sort.swp d a n)=z by rw [<-Q];exact e);have c:=H A;clear e A;go_enter func238,ntmps238;have A:(a:Int)<(N:Int):=Z;have R:(n:Int)<(N:Int):=Z;have s:=c.cell (show a<N by omega);have t:=c.cell (show n<N by omega);have f1:=c.fz a;obtain⟨u99,S⟩:=c.sw1 (show a<N by omega) (show n<N by omega);have f0:=(c.set (show a<N by omega) d[n]!).fz n;have P:=H (c.swap (show a<N by omega) (show n<N by omega)).drew;clear c;go_upto_region 1 with fail
 go_region;clear s t f1 S f0;go_wp2_with fail;go_loopw [9,10] (λu l wr=>∃ (i j:Nat) (d:Array Nat),a+1<=i/\i<=j+1/\j<b/\u=.int .i64 i/\l=.int .i64 j/\Hid (Sort.partEqLoop aQ a i j d=z)/\Hid (Au G N cp V0 d wr)) (λu _ _=>b+1-(intOf u).toNat);case atStart=>exact ⟨a+1,F,_,Z,Z,Z,aR,rfl,K,P⟩
 case round =>
  clear K P;obtain⟨i,j,d,T,L,hj,rfl,rfl,K,c⟩:=hrel;obtain ⟨I2, f⟩ : ∃ I2, Sort.scanUp (λx => !aQ d[a]! x) d j i=I2 := ⟨_, rfl⟩;obtain ⟨e, g⟩ : ∃ e, Sort.scanDown (λx => aQ d[a]! x) d I2 j=e := ⟨_, rfl⟩;have rI:i<=I2/\I2<=j+1:=by rw [<-f];exact iM _ d j i L
  have rJ:I2<=e+1/\e<=j:=by rw [<-g];exact iD _ d I2 j rI.2
  have v:=H (show (if I2 > e then (I2,d) else Sort.partEqLoop aQ a (I2+1) (e-1) (Sort.swp d I2 e))=z by
   have:=K.out;rw [Sort.partEqLoop_eq,f,g] at this;exact this)
  have a2 : I2 ≠ e := qI (λx => by cases aQ d[a]! x <;> rfl) Z f g rJ.2;have w:=H f;have y:=H g;clear K f g;go_upto_block 2 with fail
  go_cut [9] from 29 to 45 (λu W=>u=.int .i64 I2/\Hid (Au G N cp V0 d W))
  case first =>
   go_wp2_with fail;go_loopw [9] (λu wr => ∃ (i : Nat), a+1<=i/\i<=j+1/\u=.int .i64 i/\Hid (Sort.scanUp (λx => !aQ d[a]! x) d j i=I2)/\Hid (Au G N cp V0 d wr)) (λu _ => j+2-(intOf u).toNat);(case atStart=>exact ⟨i,Z,Z,aR,w,c⟩);case round =>
    clear w c;obtain⟨i,T,L,rfl,f,c⟩:=hrel;by_cases B:i<=j
    ·have q:(i:Int)<=(j:Int):=Z;have A:(i:Int)<(N:Int):=Z;have X:(a:Int)<(N:Int):=Z;have s:=c.cell (show i<N by omega);have t:=c.cell (show a<N by omega);by_cases o : aQ d[a]! d[i]! = false
     ·have k := H (show Sort.scanUp (λx => !aQ d[a]! x) d j (i+1)=I2 by
       have:=f.out;rw [Sort.scanUp,tm (by simp [o,B])] at this;exact this)
      (go_upto_region 3 with fail);go_quiet (first|(go_at_call 237;exact t8 (cO o _)));have g:=H (c.drewN nq);clear c s t;generalize wr.drewN nq=M at g ⊢;go_wp2;go_roundw;(case rel=>exact ⟨i+1,Z,Z,aR,k,g⟩);case measure=>(simp [intOf];try omega)
     ·have o : aQ d[a]! d[i]! = true := (by simpa using o);have k:=H (show i=I2 by
       have:=f.out;rw [Sort.scanUp,tg (by simp [o])] at this;exact this)
      (go_upto_region 3 with fail);go_quiet (first|(go_at_call 237;exact t8 (cJ o _)));have g:=H (c.drewN nq);clear c s t;generalize wr.drewN nq=M at g ⊢;go_wp2_with fail;go_meet;case rel=>exact ⟨by rw [<-k.out],g⟩
    ·have q:decide ((i:Int)<=(j:Int))=false:=t5 Z;have k:=H (show i=I2 by
      have:=f.out;rw [Sort.scanUp,tg cd] at this;exact this)
     (go_upto_region 3 with fail);go_quiet (fail);have g:=H (c.drewN nq);clear c;generalize wr.drewN nq=M at g ⊢;go_wp2_with fail;go_meet;case rel=>exact ⟨by rw [<-k.out],g⟩
  case rest =>
   obtain⟨rfl,c⟩:=hcut;(go_upto_block 4 with fail);go_cut [10] from 46 to 61 (λl W=>l=.int .i64 e/\Hid (Au G N cp V0 d W))
   case first =>
    go_wp2_with fail;go_loopw [10] (λl wr => ∃ (f : Nat), I2<=f+1/\f<=j/\l=.int .i64 f/\Hid (Sort.scanDown (λx => aQ d[a]! x) d I2 f=e)/\Hid (Au G N cp V0 d wr)) (λl _ => (intOf l).toNat);(case atStart=>exact ⟨j,Z,Z,aR,y,c⟩);case round =>
     clear y c;obtain⟨f,a3,a4,rfl,Y,c⟩:=hrel;by_cases B:I2<=f
     ·obtain⟨m,O⟩:∃ m,f=m+1:=⟨f-1,Z⟩;have p:=H O;have q:(I2:Int)<=(f:Int):=Z;have a0:(f:Int)-1=(m:Int):=Z;have A:(f:Int)<(N:Int):=Z;have X:(a:Int)<(N:Int):=Z;have s:=c.cell (show f<N by omega);have t:=c.cell (show a<N by omega);clear O;by_cases o : aQ d[a]! d[f]! = true
      ·have k := H (show Sort.scanDown (λx => aQ d[a]! x) d I2 m=e by
        have:=Y.out;rw [p.out,Sort.scanDown,tm (by rw [<-p.out];simp [o,B])] at this;exact this)
       (go_upto_region 5 with fail);go_quiet (first|(go_at_call 237;exact t8 (cJ o _)));have g:=H (c.drewN nq);clear c s t;generalize wr.drewN nq=M at g ⊢;go_wp2;go_roundw;(case rel=>exact ⟨m,Z,Z,aR,k,g⟩);case measure=>(have:=p.out;simp [intOf];try omega)
      ·have o : aQ d[a]! d[f]! = false := (by simpa using o);have k:=H (show f=e by
        have:=Y.out;rw [p.out,Sort.scanDown,tg (by rw [<-p.out];simp [o])] at this;rw [p.out];exact this)
       (go_upto_region 5 with fail);go_quiet (first|(go_at_call 237;exact t8 (cO o _)));have g:=H (c.drewN nq);clear c s t;generalize wr.drewN nq=M at g ⊢;go_wp2_with fail;go_meet;case rel=>exact ⟨by rw [<-k.out],g⟩
     ·have q:decide ((I2:Int)<=(f:Int))=false:=t5 Z;have k:=H (show f=e by
       have:=Y.out;cases f with
       | zero=>exact this
       | succ m=>rw [Sort.scanDown,tg cd] at this;exact this)
      (go_upto_region 5 with fail);go_quiet (fail);have g:=H (c.drewN nq);clear c;generalize wr.drewN nq=M at g ⊢;go_wp2_with fail;go_meet;case rel=>exact ⟨by rw [<-k.out],g⟩
   case rest =>
    obtain⟨rfl,c⟩:=hcut;by_cases f:I2 > e
    ·have p:(e:Int)<(I2:Int):=Z;have k:=H (show (I2,d)=z by have:=v.out;rw [tm f] at this;exact this);clear v w y;go_wp2
     first|go_ret|((try simp only [Exit.inBlock,Exit.then]);go_ret)
     exact⟨by rw [<-k.out];rfl,by rw [<-k.out];exact c⟩
    ·have p:¬((e:Int)<(I2:Int)):=Z;obtain⟨m,O⟩:∃ m,e-1=m:=⟨_,rfl⟩;have a0:(e:Int)-1=(m:Int):=Z;have k:=H (show Sort.partEqLoop aQ a (I2+1) m (Sort.swp d I2 e)=z by have:=v.out;rw [tg f,O] at this;exact this);clear v w y O;have A:(I2:Int)<(N:Int):=Z;have R:(e:Int)<(N:Int):=Z;have s:=c.cell (show I2<N by omega);have t:=c.cell (show e<N by omega);have f1:=c.fz I2;obtain⟨u99,S⟩:=c.sw1 (show I2<N by omega) (show e<N by omega);have f0:=(c.set (show I2<N by omega) d[e]!).fz e;have P:=H (c.swap (show I2<N by omega) (show e<N by omega)).drew;clear c;(go_upto_region 8 with fail);go_region;clear s t f1 S f0;go_wp2;go_roundw;(case rel=>exact ⟨I2+1,m,_,Z,Z,Z,aR,aR,k,P⟩);case measure=>(simp [intOf];try omega)
theorem Cj (G N cp) (a b B:Nat) (d0 V0 V) (A:Au G N cp V0 d0 V) (h1:a<=B) (h2:B<b) (hb:b<=N) (hN:N<=100000) :
  Calls prog 239 #[.slice (some ⟨G,0,none⟩) N cp,.int .i64 a,.int .i64 b,.int .i64 B] V λr V'=>r=.returned (.tuple #[.int .i64 ((Sort.partition aQ d0 a b B).1:Nat),.bool (Sort.partition aQ d0 a b B).2.1])/\Au G N cp V0 (Sort.partition aQ d0 a b B).2.2 V':=by
 obtain⟨R0,d⟩:∃ R0,Sort.partition aQ d0 a b B=R0:=⟨_,rfl⟩;rw [d];obtain⟨i,hi⟩:∃ i,a+1=i:=⟨_,rfl⟩;obtain⟨j,hj⟩:∃ j,b-1=j:=⟨_,rfl⟩;have a5:(a:Int)+1=(i:Int):=Z;have a6:(b:Int)-1=(j:Int):=Z;have c:=H A;unfold Sort.partition at d;rw [hi,hj] at d;have HR:=H d;clear d A;go_enter func239,ntmps239;have z:(a:Int)<(N:Int):=Z;have P:(B:Int)<(N:Int):=Z;have t:=c.cell (show a<N by omega);have u:=c.cell (show B<N by omega);have f1:=c.fz a;obtain⟨u99,Q⟩:=c.sw1 (show a<N by omega) (show B<N by omega);have f0:=(c.set (show a<N by omega) d0[B]!).fz B;have F:=H (c.swap (show a<N by omega) (show B<N by omega)).drew;clear c;go_upto_region 1 with fail
 go_region;clear t u f1 Q f0;generalize Sort.swp d0 a B=d at F HR;generalize World.drew _=w0 at F ⊢;have c:=F;clear F;obtain⟨I2,p⟩:∃ I2,Sort.scanUp (λx=>aQ x d[a]!) d j i=I2:=⟨_,rfl⟩;obtain⟨e,q⟩:∃ e,Sort.scanDown (λx => !aQ x d[a]!) d I2 j=e:=⟨_,rfl⟩;have rI:i<=I2/\I2<=j+1:=by rw [<-p];exact iM _ d j i Z
 have rJ:I2<=e+1/\e<=j:=by rw [<-q];exact iD _ d I2 j rI.2
 have a1:I2≠e:=qI (λx=>rfl) Z p q rJ.2;have v:=H (show (if I2 > e then (e,true,Sort.swp d e a) else ((Sort.partLoop aQ a (I2+1) (e-1) (Sort.swp d I2 e)).1,false,Sort.swp (Sort.partLoop aQ a (I2+1) (e-1) (Sort.swp d I2 e)).2 (Sort.partLoop aQ a (I2+1) (e-1) (Sort.swp d I2 e)).1 a))=R0 by
  have:=HR.out;simp only [p,q] at this;exact this)
 have w:=H p;have y:=H q;clear HR p q;go_upto_block 0 with fail
 go_cut [10] from 30 to 45 (λK W=>K=.int .i64 I2/\Hid (Au G N cp V0 d W))
 case first =>
  go_wp2_with fail;go_loopw [10] (λK wr=>∃ (i:Nat),a+1<=i/\i<=j+1/\K=.int .i64 i/\Hid (Sort.scanUp (λx=>aQ x d[a]!) d j i=I2)/\Hid (Au G N cp V0 d wr)) (λK _=>j+2-(intOf K).toNat);case atStart=>exact ⟨i,Z,Z,aR,w,c⟩
  case round =>
   clear w c;obtain⟨i,a2,a3,rfl,X,c⟩:=hrel;by_cases A:i<=j
   ·have s:(i:Int)<=(j:Int):=Z;have z:(i:Int)<(N:Int):=Z;have Y:(a:Int)<(N:Int):=Z;have t:=c.cell (show i<N by omega);have u:=c.cell (show a<N by omega);by_cases n : aQ d[i]! d[a]! = true
    ·have l:=H (show Sort.scanUp (λx=>aQ x d[a]!) d j (i+1)=I2 by
      have:=X.out;rw [Sort.scanUp,tm (by simp [n,A])] at this;exact this)
     (go_upto_region 3 with fail);go_quiet (first|(go_at_call 237;exact t8 (cJ n _)));have g:=H (c.drewN nq);clear c t u;generalize wr.drewN nq=L at g ⊢;go_wp2;go_roundw;(case rel=>exact ⟨i+1,Z,Z,aR,l,g⟩);case measure=>(simp [intOf];try omega)
    ·have n : aQ d[i]! d[a]! = false := (by simpa using n);have l:=H (show i=I2 by
      have:=X.out;rw [Sort.scanUp,tg (by simp [n])] at this;exact this)
     (go_upto_region 3 with fail);go_quiet (first|(go_at_call 237;exact t8 (cO n _)));have g:=H (c.drewN nq);clear c t u;generalize wr.drewN nq=L at g ⊢;go_wp2_with fail;go_meet;case rel=>exact ⟨by rw [<-l.out],g⟩
   ·have s:decide ((i:Int)<=(j:Int))=false:=t5 Z;have l:=H (show i=I2 by
     have:=X.out;rw [Sort.scanUp,tg cd] at this;exact this)
    (go_upto_region 3 with fail);go_quiet (fail);have g:=H (c.drewN nq);clear c;generalize wr.drewN nq=L at g ⊢;go_wp2_with fail;go_meet;case rel=>exact ⟨by rw [<-l.out],g⟩
 case rest =>
  obtain⟨rfl,c⟩:=hcut;go_upto_block 2 with fail
  go_cut [11] from 46 to 62 (λk W=>k=.int .i64 e/\Hid (Au G N cp V0 d W))
  case first =>
   go_wp2_with fail;go_loopw [11] (λk wr=>∃ (f:Nat),I2<=f+1/\f<=j/\k=.int .i64 f/\Hid (Sort.scanDown (λx => !aQ x d[a]!) d I2 f=e)/\Hid (Au G N cp V0 d wr)) (λk _=>(intOf k).toNat);(case atStart=>exact ⟨j,Z,Z,aR,y,c⟩);case round =>
    clear y c;obtain⟨f,a7,a8,rfl,HJ,c⟩:=hrel;by_cases A:I2<=f
    ·obtain⟨m,M⟩:∃ m,f=m+1:=⟨f-1,Z⟩;have o:=H M;have s:(I2:Int)<=(f:Int):=Z;have R:(f:Int)-1=(m:Int):=Z;have z:(f:Int)<(N:Int):=Z;have Y:(a:Int)<(N:Int):=Z;have t:=c.cell (show f<N by omega);have u:=c.cell (show a<N by omega);clear M;by_cases n : aQ d[f]! d[a]! = false
     ·have l:=H (show Sort.scanDown (λx => !aQ x d[a]!) d I2 m=e by
       have:=HJ.out;rw [o.out,Sort.scanDown,tm (by rw [<-o.out];simp [n,A])] at this;exact this)
      (go_upto_region 5 with fail);go_quiet (first|(go_at_call 237;exact t8 (cO n _)));have g:=H (c.drewN nq);clear c t u;generalize wr.drewN nq=L at g ⊢;go_wp2;go_roundw;(case rel=>exact ⟨m,Z,Z,aR,l,g⟩);case measure=>(have:=o.out;simp [intOf];try omega)
     ·have n : aQ d[f]! d[a]! = true := (by simpa using n);have l:=H (show f=e by
       have:=HJ.out;rw [o.out,Sort.scanDown,tg (by rw [<-o.out];simp [n])] at this;rw [o.out];exact this)
      (go_upto_region 5 with fail);go_quiet (first|(go_at_call 237;exact t8 (cJ n _)));have g:=H (c.drewN nq);clear c t u;generalize wr.drewN nq=L at g ⊢;go_wp2_with fail;go_meet;case rel=>exact ⟨by rw [<-l.out],g⟩
    ·have s:decide ((I2:Int)<=(f:Int))=false:=t5 Z;have l:=H (show f=e by
      have:=HJ.out;cases f with
      | zero=>exact this
      | succ m=>rw [Sort.scanDown,tg cd] at this;exact this)
     (go_upto_region 5 with fail);go_quiet (fail);have g:=H (c.drewN nq);clear c;generalize wr.drewN nq=L at g ⊢;go_wp2_with fail;go_meet;case rel=>exact ⟨by rw [<-l.out],g⟩
  case rest =>
   obtain⟨rfl,c⟩:=hcut;by_cases O:I2 > e
   ·have a0:(e:Int)<(I2:Int):=Z;have l:=H (show (e,true,Sort.swp d e a)=R0 by have:=v.out;rw [tm O] at this;exact this);clear v w y;have z:(e:Int)<(N:Int):=Z;have P:(a:Int)<(N:Int):=Z;have t:=c.cell (show e<N by omega);have u:=c.cell (show a<N by omega);have f1:=c.fz e;obtain⟨u99,Q⟩:=c.sw1 (show e<N by omega) (show a<N by omega);have f0:=(c.set (show e<N by omega) d[a]!).fz a;have F:=H (c.swap (show e<N by omega) (show a<N by omega)).drew;clear c;(go_upto_region 8 with fail);go_region;clear t u f1 Q f0;go_wp2;refine wA (ad rfl _ _) rfl ?_;exact⟨by rw [<-l.out];rfl,by rw [<-l.out];exact F⟩
   ·have a0:¬((e:Int)<(I2:Int)):=Z;obtain⟨S,T⟩:∃ S,Sort.partLoop aQ a (I2+1) (e-1) (Sort.swp d I2 e)=S:=⟨_,rfl⟩;have a9:=H (show (S.1,false,Sort.swp S.2 S.1 a)=R0 by have:=v.out;rw [tg O,T] at this;exact this);obtain⟨m,M⟩:∃ m,e-1=m:=⟨_,rfl⟩;have R:(e:Int)-1=(m:Int):=Z;rw [M] at T;have a4:=H T;clear v w y T M;have z:(I2:Int)<(N:Int):=Z;have P:(e:Int)<(N:Int):=Z;have t:=c.cell (show I2<N by omega);have u:=c.cell (show e<N by omega);have f1:=c.fz I2;obtain⟨u99,Q⟩:=c.sw1 (show I2<N by omega) (show e<N by omega);have f0:=(c.set (show I2<N by omega) d[e]!).fz e;have F:=H (c.swap (show I2<N by omega) (show e<N by omega)).drew;clear c;(go_upto_region 10 with fail);go_region;clear t u f1 Q f0;go_wp2_with fail;go_loopw [10,11] (λk r wr=>∃ (i j:Nat) (d:Array Nat),a+1<=i/\i<=j+1/\j<b/\k=.int .i64 i/\r=.int .i64 j/\Hid (Sort.partLoop aQ a i j d=S)/\Hid (Au G N cp V0 d wr)) (λk _ _=>b+1-(intOf k).toNat);(case atStart=>exact ⟨I2+1,m,_,Z,Z,Z,aR,aR,a4,F⟩);case round =>
     clear a4 F a5 a6 R hi hj;clear rI rJ a1;obtain⟨i,j,d,a2,a3,hj,rfl,rfl,HR,c⟩:=hrel;obtain⟨I2,p⟩:∃ I2,Sort.scanUp (λx=>aQ x d[a]!) d j i=I2:=⟨_,rfl⟩;obtain⟨e,q⟩:∃ e,Sort.scanDown (λx => !aQ x d[a]!) d I2 j=e:=⟨_,rfl⟩;have rI:i<=I2/\I2<=j+1:=(by rw [<-p];exact iM _ d j i Z);have rJ:I2<=e+1/\e<=j:=(by rw [<-q];exact iD _ d I2 j rI.2);have a1:I2≠e:=qI (λx=>rfl) Z p q rJ.2;have v:=H (show (if I2 > e then (e,d) else Sort.partLoop aQ a (I2+1) (e-1) (Sort.swp d I2 e))=S by
      have:=HR.out;rw [Sort.partLoop_eq,p,q] at this;exact this)
     have w:=H p;have y:=H q;clear HR p q;(go_upto_block 6 with fail);go_cut [10] from 99 to 114 (λK W=>K=.int .i64 I2/\Hid (Au G N cp V0 d W))
     case first =>
      go_wp2_with fail;go_loopw [10] (λK wr=>∃ (i:Nat),a+1<=i/\i<=j+1/\K=.int .i64 i/\Hid (Sort.scanUp (λx=>aQ x d[a]!) d j i=I2)/\Hid (Au G N cp V0 d wr)) (λK _=>j+2-(intOf K).toNat);(case atStart=>exact ⟨i,Z,Z,aR,w,c⟩);case round =>
       clear w c;obtain⟨i,a2,a3,rfl,X,c⟩:=hrel;by_cases A:i<=j
       ·have s:(i:Int)<=(j:Int):=Z;have z:(i:Int)<(N:Int):=Z;have Y:(a:Int)<(N:Int):=Z;have t:=c.cell (show i<N by omega);have u:=c.cell (show a<N by omega);by_cases n : aQ d[i]! d[a]! = true
        ·have l:=H (show Sort.scanUp (λx=>aQ x d[a]!) d j (i+1)=I2 by
          have:=X.out;rw [Sort.scanUp,tm (by simp [n,A])] at this;exact this)
         (go_upto_region 13 with fail);go_quiet (first|(go_at_call 237;exact t8 (cJ n _)));have g:=H (c.drewN nq);clear c t u;generalize wr.drewN nq=L at g ⊢;go_wp2;go_roundw;(case rel=>exact ⟨i+1,Z,Z,aR,l,g⟩);case measure=>(simp [intOf];try omega)
        ·have n : aQ d[i]! d[a]! = false := (by simpa using n);have l:=H (show i=I2 by
          have:=X.out;rw [Sort.scanUp,tg (by simp [n])] at this;exact this)
         (go_upto_region 13 with fail);go_quiet (first|(go_at_call 237;exact t8 (cO n _)));have g:=H (c.drewN nq);clear c t u;generalize wr.drewN nq=L at g ⊢;go_wp2_with fail;go_meet;case rel=>exact ⟨by rw [<-l.out],g⟩
       ·have s:decide ((i:Int)<=(j:Int))=false:=t5 Z;have l:=H (show i=I2 by
         have:=X.out;rw [Sort.scanUp,tg cd] at this;exact this)
        (go_upto_region 13 with fail);go_quiet (fail);have g:=H (c.drewN nq);clear c;generalize wr.drewN nq=L at g ⊢;go_wp2_with fail;go_meet;case rel=>exact ⟨by rw [<-l.out],g⟩
     case rest =>
      obtain⟨rfl,c⟩:=hcut;(go_upto_block 8 with fail);go_cut [11] from 115 to 131 (λk W=>k=.int .i64 e/\Hid (Au G N cp V0 d W))
      case first =>
       go_wp2_with fail;go_loopw [11] (λk wr=>∃ (f:Nat),I2<=f+1/\f<=j/\k=.int .i64 f/\Hid (Sort.scanDown (λx => !aQ x d[a]!) d I2 f=e)/\Hid (Au G N cp V0 d wr)) (λk _=>(intOf k).toNat);(case atStart=>exact ⟨j,Z,Z,aR,y,c⟩);case round =>
        clear y c;obtain⟨f,a7,a8,rfl,HJ,c⟩:=hrel;by_cases A:I2<=f
        ·obtain⟨m,M⟩:∃ m,f=m+1:=⟨f-1,Z⟩;have o:=H M;have s:(I2:Int)<=(f:Int):=Z;have R:(f:Int)-1=(m:Int):=Z;have z:(f:Int)<(N:Int):=Z;have Y:(a:Int)<(N:Int):=Z;have t:=c.cell (show f<N by omega);have u:=c.cell (show a<N by omega);clear M;by_cases n : aQ d[f]! d[a]! = false
         ·have l:=H (show Sort.scanDown (λx => !aQ x d[a]!) d I2 m=e by
           have:=HJ.out;rw [o.out,Sort.scanDown,tm (by rw [<-o.out];simp [n,A])] at this;exact this)
          (go_upto_region 15 with fail);go_quiet (first|(go_at_call 237;exact t8 (cO n _)));have g:=H (c.drewN nq);clear c t u;generalize wr.drewN nq=L at g ⊢;go_wp2;go_roundw;(case rel=>exact ⟨m,Z,Z,aR,l,g⟩);case measure=>(have:=o.out;simp [intOf];try omega)
         ·have n : aQ d[f]! d[a]! = true := (by simpa using n);have l:=H (show f=e by
           have:=HJ.out;rw [o.out,Sort.scanDown,tg (by rw [<-o.out];simp [n])] at this;rw [o.out];exact this)
          (go_upto_region 15 with fail);go_quiet (first|(go_at_call 237;exact t8 (cJ n _)));have g:=H (c.drewN nq);clear c t u;generalize wr.drewN nq=L at g ⊢;go_wp2_with fail;go_meet;case rel=>exact ⟨by rw [<-l.out],g⟩
        ·have s:decide ((I2:Int)<=(f:Int))=false:=t5 Z;have l:=H (show f=e by
          have:=HJ.out;cases f with
          | zero=>exact this
          | succ m=>rw [Sort.scanDown,tg cd] at this;exact this)
         (go_upto_region 15 with fail);go_quiet (fail);have g:=H (c.drewN nq);clear c;generalize wr.drewN nq=L at g ⊢;go_wp2_with fail;go_meet;case rel=>exact ⟨by rw [<-l.out],g⟩
      case rest =>
       obtain⟨rfl,c⟩:=hcut;by_cases O:I2 > e
       ·have a0:(e:Int)<(I2:Int):=Z;have l:=H (show (e,d)=S by have:=v.out;rw [tm O] at this;exact this);have T:=H (show (e,false,Sort.swp d e a)=R0 by rw [<-a9.out,<-l.out]);clear v w y;have z:(e:Int)<(N:Int):=Z;have P:(a:Int)<(N:Int):=Z;have t:=c.cell (show e<N by omega);have u:=c.cell (show a<N by omega);have f1:=c.fz e;obtain⟨u99,Q⟩:=c.sw1 (show e<N by omega) (show a<N by omega);have f0:=(c.set (show e<N by omega) d[a]!).fz a;have F:=H (c.swap (show e<N by omega) (show a<N by omega)).drew;clear c;(go_upto_region 21 with fail);go_region;clear t u f1 Q f0;go_wp2;refine wA (ad rfl _ _) rfl ?_;exact⟨by rw [<-T.out];rfl,by rw [<-T.out];exact F⟩
       ·have a0:¬((e:Int)<(I2:Int)):=Z;obtain⟨m,M⟩:∃ m,e-1=m:=⟨_,rfl⟩;have R:(e:Int)-1=(m:Int):=Z;have l:=H (show Sort.partLoop aQ a (I2+1) m (Sort.swp d I2 e)=S by have:=v.out;rw [tg O,M] at this;exact this);clear v w y M;have z:(I2:Int)<(N:Int):=Z;have P:(e:Int)<(N:Int):=Z;have t:=c.cell (show I2<N by omega);have u:=c.cell (show e<N by omega);have f1:=c.fz I2;obtain⟨u99,Q⟩:=c.sw1 (show I2<N by omega) (show e<N by omega);have f0:=(c.set (show I2<N by omega) d[e]!).fz e;have F:=H (c.swap (show I2<N by omega) (show e<N by omega)).drew;clear c;(go_upto_region 18 with fail);go_region;clear t u f1 Q f0;go_wp2;go_roundw;(case rel=>exact ⟨I2+1,m,_,Z,Z,Z,aR,aR,l,F⟩);case measure=>(simp [intOf];try omega)
end
end Go.Proofs.YtdfodlhkdmkfdaaGreatDoor
