import Derived.Test.YtdngbppdomoenaaGreatDoorN44
set_option linter.unusedVariables false
set_option linter.unusedSimpArgs false
set_option maxRecDepth 20000
set_option maxHeartbeats 8000000
namespace Go.Proofs.YtdngbppdomoenaaGreatDoor
open Go.Proofs.Tryz
section
open Go.RowKit Go.Maps
theorem qY (a:Nat->Nat->Bool) (d:Array Nat) (b:Nat):∀ i,i<=b->i<=Sort.scanSorted a d b i/\Sort.scanSorted a d b i<=b:=by
 intro i;induction h:b-i generalizing i with
 | zero =>
  intro c;rw [Sort.scanSorted,GO bG];omega
 | succ n e =>
  intro c;rw [Sort.scanSorted];split;·have:=e (i+1) Z Z;omega
  omega
theorem zH (G N cp) (a b:Nat) (d V0 V) (A:Au G N cp V0 d V) (b2:a<b) (hb:b<=N) (hN:N<=100000) :
  Calls prog 215 #[.slice (some ⟨G,0,none⟩) N cp,.int .i64 a,.int .i64 b] V λr V'=>r=.returned (.bool (Sort.partialInsertionSort aQ d a b).2)/\Au G N cp V0 (Sort.partialInsertionSort aQ d a b).1 V':=by
 obtain⟨x,e⟩:∃ x,Sort.partialInsertionSort aQ d a b=x:=⟨_,rfl⟩;rw [e];have K:=H (show Sort.partialIns aQ a b 5 (a+1) d=x from e);have c:=H A;clear e A;go_enter func215,ntmps215;go_wp2_with fail;go_loopw [7,8] (λM s8 wr=>∃ (t i:Nat) (d:Array Nat),t<=5/\a+1<=i/\i<=b/\M=.int .i64 i/\s8=.int .i64 t/\Hid (Sort.partialIns aQ a b (5-t) i d=x)/\Hid (Au G N cp V0 d wr)) (λ_ s8 _=>6-(intOf s8).toNat);case atStart=>exact ⟨0,a+1,d,Z,Z,Z,aY,rfl,K,c⟩
 case round =>
  clear K c;obtain⟨t,i,d,ht,a0,T,rfl,rfl,K,c⟩:=hrel;by_cases b3:t<5
  ·have b4:(t:Int)<5:=Z;obtain⟨O,a1⟩:∃ O,5-t=O+1:=⟨4-t,Z⟩;obtain⟨I1,e⟩:∃ I1,Sort.scanSorted aQ d b i=I1:=⟨_,rfl⟩;have b5:i<=I1/\I1<=b:=by
    rw [<-e];exact qY aQ d b i T
   have o:=H (show (if I1=b then (d,true) else if b-a<50 then (d,false) else Sort.partialIns aQ a b O I1 (if b-I1≥2 then Sort.shiftUp aQ b (I1+1) (if I1-a≥2 then Sort.shiftDown aQ (I1-1) (Sort.swp d I1 (I1-1)) else Sort.swp d I1 (I1-1)) else (if I1-a≥2 then Sort.shiftDown aQ (I1-1) (Sort.swp d I1 (I1-1)) else Sort.swp d I1 (I1-1))))=x by
    have:=K.out;rw [a1,Sort.partialIns_succ] at this;simp only [e] at this;exact this)
   have F:=H e;clear K e;(go_upto_block 2 with fail);go_cut [7] from 13 to 132 (λM w'=>M=.int .i64 I1/\Hid (Au G N cp V0 d w'))
   case first =>
    clear o;go_wp2_with fail;go_loopw [7] (λM wr=>∃ (i:Nat),a+1<=i/\i<=b/\M=.int .i64 i/\Hid (Sort.scanSorted aQ d b i=I1)/\Hid (Au G N cp V0 d wr)) (λM _=>b+1-(intOf M).toNat);(case atStart=>exact ⟨i,a0,T,rfl,F,c⟩);case round =>
     clear F c;obtain⟨j,a2,a3,rfl,F,c⟩:=hrel;by_cases w:j<b
     ·obtain⟨k,W⟩:∃ k,j=k+1:=⟨j-1,Z⟩;have f:=H W;have y:(j:Int)<(b:Int):=Z;have a4:(j:Int)-1=(k:Int):=Z;have X:(j:Int)<(N:Int):=Z;have a5:(k:Int)<(N:Int):=Z;have q:=c.cell (show j<N by omega);have s:=c.cell (show k<N by omega);clear W;by_cases l : aQ d[j]! d[k]! = true
      ·have g:=H (show j=I1 by
        have:=F.out;rw [Sort.scanSorted,GO (by rw [show j-1=k by have:=f.out;omega];simp [l])] at this;exact this)
       (go_upto_region 5 with fail);go_quiet (first|(go_at_call 216;exact GW (cF l _)));have e:=H (c.drewN nq);clear c q s;generalize wr.drewN nq=S at e ⊢;go_wp2_with fail;go_meet;case rel=>exact ⟨by rw [g.out],e⟩
      ·have l : aQ d[j]! d[k]! = false := (by simpa using l);have g:=H (show Sort.scanSorted aQ d b (j+1)=I1 by
        have:=F.out;rw [Sort.scanSorted,GP (by rw [show j-1=k by have:=f.out;omega];simp [l];exact w)] at this;exact this)
       (go_upto_region 5 with fail);go_quiet (first|(go_at_call 216;exact GW (cE l _)));have e:=H (c.drewN nq);clear c q s;generalize wr.drewN nq=S at e ⊢;go_wp2;go_roundw;(case rel=>exact ⟨j+1,Z,Z,aY,g,e⟩);case measure=>(simp [intOf];try omega)
     ·have y:decide ((j:Int)<(b:Int))=false:=GR Z;have g:=H (show j=I1 by
       have:=F.out;rw [Sort.scanSorted,GO bG] at this;exact this)
      (go_upto_region 5 with fail);go_quiet (fail);have e:=H (c.drewN nq);clear c;generalize wr.drewN nq=S at e ⊢;go_wp2_with fail;go_meet;case rel=>exact ⟨by rw [g.out],e⟩
   case rest =>
    obtain⟨rfl,c⟩:=hcut;by_cases P:I1=b
    ·have a6:(I1:Int)=(b:Int):=Z;have f:=H (show (d,true)=x by have:=o.out;rw [GP P] at this;exact this);clear o;go_wp2
     first|go_ret|((try simp only [Exit.inBlock,Exit.then]);go_ret)
     exact⟨by rw [<-f.out];rfl,by rw [<-f.out];exact c⟩
    ·have a6:¬((I1:Int)=(b:Int)):=Z;obtain⟨L,hL⟩:∃ L,b-a=L:=⟨_,rfl⟩;have b6:(b:Int)-(a:Int)=(L:Int):=Z;by_cases Y:b-a<50
     ·have a7:(L:Int)<50:=Z;have f:=H (show (d,false)=x by have:=o.out;rw [GO P,GP Y] at this;exact this);clear o;go_wp2
      first|go_ret|((try simp only [Exit.inBlock,Exit.then]);go_ret)
      exact⟨by rw [<-f.out];rfl,by rw [<-f.out];exact c⟩
     ·have a7:¬((L:Int)<50):=Z;obtain⟨k,W⟩:∃ k,I1-1=k:=⟨_,rfl⟩;obtain⟨u,m⟩:∃ u,(if I1-a≥2 then Sort.shiftDown aQ (I1-1) (Sort.swp d I1 (I1-1)) else Sort.swp d I1 (I1-1))=u:=⟨_,rfl⟩;obtain⟨p,n⟩:∃ p,(if b-I1≥2 then Sort.shiftUp aQ b (I1+1) u else u)=p:=⟨_,rfl⟩;have f:=H (show Sort.partialIns aQ a b O I1 p=x by have:=o.out;rw [GO P,GO Y,m,n] at this;exact this);rw [W] at m;have z:=H m;have A:=H n;have a4:(I1:Int)-1=(k:Int):=Z;have b7:(I1:Int)<(N:Int):=Z;have a5:(k:Int)<(N:Int):=Z;have q:=c.cell (show I1<N by omega);have s:=c.cell (show k<N by omega);have f1:=c.fz I1;obtain⟨u99,y0⟩:=c.sw1 (show I1<N by omega) (show k<N by omega);have f0:=(c.set (show I1<N by omega) d[k]!).fz k;have B:=H (c.swap (show I1<N by omega) (show k<N by omega)).drew;clear o c m n W hL;(go_upto_region 11 with fail);go_region;clear q s f1 y0 f0;generalize World.drew _=w9 at B ⊢;obtain⟨ia,b8⟩:∃ ia,I1-a=ia:=⟨_,rfl⟩;have b0:(I1:Int)-(a:Int)=(ia:Int):=Z;obtain⟨bi,b9⟩:∃ bi,b-I1=bi:=⟨_,rfl⟩;have b1:(b:Int)-(I1:Int)=(bi:Int):=Z;(go_upto_if 61 with fail);go_cut [9] from 13 to 132 (λs9 w'=>Hid (Au G N cp V0 u w'))
      case first =>
       by_cases h2:I1-a≥2
       ·have Q:(2:Int)<=(ia:Int):=Z;have n:=H (show Sort.shiftDown aQ k (Sort.swp d I1 k)=u by have:=z.out;rw [GP h2] at this;exact this);clear z A f F;go_wp2_with fail;go_loopw [9] (λs9 wr=>∃ (j:Nat) (d:Array Nat),j<=k/\s9=.int .i64 j/\Hid (Sort.shiftDown aQ j d=u)/\Hid (Au G N cp V0 d wr)) (λs9 _=>(intOf s9).toNat);(case atStart=>exact ⟨k,_,Fv _,aY,n,B⟩);case round =>
         clear n B;obtain⟨j,d,R,rfl,n,c⟩:=hrel;cases j with
         | zero =>
          have g:=H (show d=u from n);go_wp2_with fail;go_meet;case rel=>exact H (by rw [<-g.out];exact c)
         | succ m =>
          obtain⟨j,v⟩:∃ j,m+1=j:=⟨_,rfl⟩;have HJ:=H v;rw [v] at R ⊢;have y:(1:Int)<=(j:Int):=Z;have a8:(j:Int)-1=(m:Int):=Z;have X:(j:Int)<(N:Int):=Z;have a9:(m:Int)<(N:Int):=Z;have q:=c.cell (show j<N by omega);have s:=c.cell (show m<N by omega);clear v;by_cases l : aQ d[j]! d[m]! = true
          ·have g:=H (show Sort.shiftDown aQ m (Sort.swp d j m)=u by
            have:=n.out;rw [Sort.shiftDown,HJ.out,GO (by simp [l])] at this;exact this)
           (go_upto_region 16 with fail);go_quiet (first|(go_at_call 216;exact GW (cF l _)));have e:=H (c.drewN nq);clear c q s n;generalize wr.drewN nq=S at e ⊢;have q:=e.cell (show j<N by omega);have s:=e.cell (show m<N by omega);have f1:=e.fz j;obtain⟨u99,y0⟩:=e.sw1 (show j<N by omega) (show m<N by omega);have f0:=(e.set (show j<N by omega) d[m]!).fz m;have B:=H (e.swap (show j<N by omega) (show m<N by omega)).drew;clear e;(go_upto_region 17 with fail);go_region;clear q s f1 y0 f0;go_wp2;go_roundw;(case rel=>exact ⟨m,_,Z,aY,g,B⟩);case measure=>(simp [intOf];try omega)
          ·have l : aQ d[j]! d[m]! = false := (by simpa using l);have g:=H (show d=u by
            have:=n.out;rw [Sort.shiftDown,HJ.out,GP (by simp [l])] at this;exact this)
           (go_upto_region 16 with fail);go_quiet (first|(go_at_call 216;exact GW (cE l _)));have e:=H (c.drewN nq);clear c q s n;generalize wr.drewN nq=S at e ⊢;go_wp2_with fail;go_meet;case rel=>exact H (by rw [<-g.out];exact e)
       ·have Q:¬((2:Int)<=(ia:Int)):=Z;have g:=H (show Sort.swp d I1 k=u by have:=z.out;rw [GO h2] at this;exact this);go_wp2_with fail;go_meet;case rel=>exact H (by rw [<-g.out];exact B)
      case rest =>
       have A3:=hcut;clear hcut B;by_cases h2:b-I1≥2
       ·have Q:(2:Int)<=(bi:Int):=Z;have n:=H (show Sort.shiftUp aQ b (I1+1) u=p by have:=A.out;rw [GP h2] at this;exact this);clear z A F;go_wp2_with fail;go_loopw [10] (λR wr=>∃ (j:Nat) (d:Array Nat),I1+1<=j/\j<=b/\R=.int .i64 j/\Hid (Sort.shiftUp aQ b j d=p)/\Hid (Au G N cp V0 d wr)) (λR _=>b+1-(intOf R).toNat);(case atStart=>exact ⟨I1+1,_,Fv _,Z,aY,n,A3⟩);case round =>
         clear n A3;obtain⟨j,d,a2,a3,rfl,n,c⟩:=hrel;by_cases w:j<b
         ·obtain⟨m,v⟩:∃ m,j-1=m:=⟨_,rfl⟩;have HJ:=H v;have y:(j:Int)<(b:Int):=Z;have a8:(j:Int)-1=(m:Int):=Z;have X:(j:Int)<(N:Int):=Z;have a9:(m:Int)<(N:Int):=Z;have q:=c.cell (show j<N by omega);have s:=c.cell (show m<N by omega);clear v;by_cases l : aQ d[j]! d[m]! = true
          ·have g:=H (show Sort.shiftUp aQ b (j+1) (Sort.swp d j m)=p by
            have:=n.out;rw [Sort.shiftUp,GP w,HJ.out,GO (by simp [l])] at this;exact this)
           (go_upto_region 22 with fail);go_quiet (first|(go_at_call 216;exact GW (cF l _)));have e:=H (c.drewN nq);clear c q s n;generalize wr.drewN nq=S at e ⊢;have q:=e.cell (show j<N by omega);have s:=e.cell (show m<N by omega);have f1:=e.fz j;obtain⟨u99,y0⟩:=e.sw1 (show j<N by omega) (show m<N by omega);have f0:=(e.set (show j<N by omega) d[m]!).fz m;have B:=H (e.swap (show j<N by omega) (show m<N by omega)).drew;clear e;(go_upto_region 23 with fail);go_region;clear q s f1 y0 f0;go_wp2;go_roundw;(case rel=>exact ⟨j+1,_,Z,Z,aY,g,B⟩);case measure=>(simp [intOf];try omega)
          ·have l : aQ d[j]! d[m]! = false := (by simpa using l);have g:=H (show d=p by
            have:=n.out;rw [Sort.shiftUp,GP w,HJ.out,GP (by simp [l])] at this;exact this)
           (go_upto_region 22 with fail);go_quiet (first|(go_at_call 216;exact GW (cE l _)));have e:=H (show Au G N cp V0 p (wr.drewN nq) by rw [<-g.out];exact c.drewN nq);clear c q s n;generalize wr.drewN nq=S at e ⊢;go_wp2;go_roundw;(case rel=>exact ⟨t+1,I1,p,Z,Z,Z,aY,aY,H (by rw [show 5-(t+1)=O by omega];exact f),e⟩);case measure=>(simp [intOf];try omega)
         ·have y:¬((j:Int)<(b:Int)):=Z;have g:=H (show d=p by
           have:=n.out;rw [Sort.shiftUp,GO w] at this;exact this)
          have e:=H (show Au G N cp V0 p wr by rw [<-g.out];exact c);clear c n;go_wp2;go_roundw;(case rel=>exact ⟨t+1,I1,p,Z,Z,Z,aY,aY,H (by rw [show 5-(t+1)=O by omega];exact f),e⟩);case measure=>(simp [intOf];try omega)
       ·have Q:¬((2:Int)<=(bi:Int)):=Z;have g:=H (show u=p by have:=A.out;rw [GO h2] at this;exact this);have e:=H (show Au G N cp V0 p _ by rw [<-g.out];exact A3);clear A3;go_wp2;go_roundw;(case rel=>exact ⟨t+1,I1,p,Z,Z,Z,aY,aY,H (by rw [show 5-(t+1)=O by omega];exact f),e⟩);case measure=>(simp [intOf];try omega)
  ·obtain rfl:t=5:=Z;have f:=H (show (d,false)=x from K);clear K;go_wp2
   first|go_ret|((try simp only [Exit.inBlock,Exit.then]);go_ret)
   exact⟨by rw [<-f.out];rfl,by rw [<-f.out];exact c⟩
theorem io (p:Nat->Bool) (d:Array Nat) (j:Nat):∀ i,i<=j+1->i<=Sort.scanUp p d j i/\Sort.scanUp p d j i<=j+1:=by
 intro i;induction h:j+1-i generalizing i with
 | zero =>
  intro a;rw [Sort.scanUp,GO bG];omega
 | succ n b =>
  intro a;rw [Sort.scanUp];split;·have:=b (i+1) Z Z;omega
  omega
theorem it (p:Nat->Bool) (d:Array Nat) (i:Nat):∀ j,i<=j+1->i<=Sort.scanDown p d i j+1/\Sort.scanDown p d i j<=j:=by
 intro j;induction j with
 | zero=>intro h;exact⟨h,Fv _⟩
 | succ j a =>
  intro h;rw [Sort.scanDown];split
  ·rename_i b;simp at b;have:=a Z;omega
  omega
theorem tj (p : Nat->Bool) (d : Array Nat) (j : Nat) : ∀ i, Sort.scanUp p d j i<=j->p d[Sort.scanUp p d j i]! = false := by
 intro i;induction h:j+1-i generalizing i with
 | zero =>
  rw [Sort.scanUp,GO bG];intro a;omega
 | succ n b =>
  rw [Sort.scanUp];split;·exact b (i+1) Z
  ·rename_i c;intro a;simpa [a] using c
theorem r_ (p : Nat->Bool) (d : Array Nat) (i : Nat) (e : 1<=i) : ∀ j, i<=Sort.scanDown p d i j->p d[Sort.scanDown p d i j]! = false := by
 intro j;induction j with
 | zero=>intro h;simp [Sort.scanDown] at h;omega
 | succ j a =>
  rw [Sort.scanDown];split;·exact a
  ·rename_i b;intro c;simpa [c] using b
theorem pH {p q:Nat->Bool} (k:∀ x,q x = !p x) {d:Array Nat} {i j I2 a:Nat} (l:1<=I2) (b:Sort.scanUp p d j i=I2) (c:Sort.scanDown q d I2 j=a) (m:a<=j):I2≠a:=by
 intro e;have f:=tj p d j i (by rw [b];omega);have g:=r_ q d I2 l j (by rw [c];omega);rw [b] at f;rw [c,<-e,k,f] at g;cases g
theorem Ca (G N cp) (a b n:Nat) (d V0 V) (A:Au G N cp V0 d V) (h1:a<=n) (h2:n<b) (hb:b<=N) (hN:N<=100000) :
  Calls prog 217 #[.slice (some ⟨G,0,none⟩) N cp,.int .i64 a,.int .i64 b,.int .i64 n] V λr V'=>r=.returned (.int .i64 ((Sort.partitionEqual aQ d a b n).1:Nat))/\Au G N cp V0 (Sort.partitionEqual aQ d a b n).2 V':=by
 obtain⟨z,e⟩:∃ z,Sort.partitionEqual aQ d a b n=z:=⟨_,rfl⟩;rw [e];obtain⟨F,Q⟩:∃ F,b-1=F:=⟨_,rfl⟩;have a1:(b:Int)-1=(F:Int):=Z;have K:=H (show Sort.partEqLoop aQ a (a+1) F (Sort.swp d a n)=z by rw [<-Q];exact e);have c:=H A;clear e A;go_enter func217,ntmps217;have A:(a:Int)<(N:Int):=Z;have R:(n:Int)<(N:Int):=Z;have s:=c.cell (show a<N by omega);have t:=c.cell (show n<N by omega);have f1:=c.fz a;obtain⟨u99,S⟩:=c.sw1 (show a<N by omega) (show n<N by omega);have f0:=(c.set (show a<N by omega) d[n]!).fz n;have P:=H (c.swap (show a<N by omega) (show n<N by omega)).drew;clear c;go_upto_region 1 with fail
 go_region;clear s t f1 S f0;go_wp2_with fail;go_loopw [9,10] (λu l wr=>∃ (i j:Nat) (d:Array Nat),a+1<=i/\i<=j+1/\j<b/\u=.int .i64 i/\l=.int .i64 j/\Hid (Sort.partEqLoop aQ a i j d=z)/\Hid (Au G N cp V0 d wr)) (λu _ _=>b+1-(intOf u).toNat);case atStart=>exact ⟨a+1,F,_,Z,Z,Z,aY,rfl,K,P⟩
 case round =>
  clear K P;obtain⟨i,j,d,T,L,hj,rfl,rfl,K,c⟩:=hrel;obtain ⟨I2, f⟩ : ∃ I2, Sort.scanUp (λx => !aQ d[a]! x) d j i=I2 := ⟨_, rfl⟩;obtain ⟨e, g⟩ : ∃ e, Sort.scanDown (λx => aQ d[a]! x) d I2 j=e := ⟨_, rfl⟩;have rI:i<=I2/\I2<=j+1:=by rw [<-f];exact io _ d j i L
  have rJ:I2<=e+1/\e<=j:=by rw [<-g];exact it _ d I2 j rI.2
  have v:=H (show (if I2 > e then (I2,d) else Sort.partEqLoop aQ a (I2+1) (e-1) (Sort.swp d I2 e))=z by
   have:=K.out;rw [Sort.partEqLoop_eq,f,g] at this;exact this)
  have a2 : I2 ≠ e := pH (λx => by cases aQ d[a]! x <;> rfl) Z f g rJ.2;have w:=H f;have y:=H g;clear K f g;go_upto_block 2 with fail
  go_cut [9] from 29 to 45 (λu W=>u=.int .i64 I2/\Hid (Au G N cp V0 d W))
  case first =>
   go_wp2_with fail;go_loopw [9] (λu wr => ∃ (i : Nat), a+1<=i/\i<=j+1/\u=.int .i64 i/\Hid (Sort.scanUp (λx => !aQ d[a]! x) d j i=I2)/\Hid (Au G N cp V0 d wr)) (λu _ => j+2-(intOf u).toNat);(case atStart=>exact ⟨i,Z,Z,aY,w,c⟩);case round =>
    clear w c;obtain⟨i,T,L,rfl,f,c⟩:=hrel;by_cases B:i<=j
    ·have q:(i:Int)<=(j:Int):=Z;have A:(i:Int)<(N:Int):=Z;have X:(a:Int)<(N:Int):=Z;have s:=c.cell (show i<N by omega);have t:=c.cell (show a<N by omega);by_cases o : aQ d[a]! d[i]! = false
     ·have k := H (show Sort.scanUp (λx => !aQ d[a]! x) d j (i+1)=I2 by
       have:=f.out;rw [Sort.scanUp,GP (by simp [o,B])] at this;exact this)
      (go_upto_region 3 with fail);go_quiet (first|(go_at_call 216;exact GW (cE o _)));have g:=H (c.drewN nq);clear c s t;generalize wr.drewN nq=M at g ⊢;go_wp2;go_roundw;(case rel=>exact ⟨i+1,Z,Z,aY,k,g⟩);case measure=>(simp [intOf];try omega)
     ·have o : aQ d[a]! d[i]! = true := (by simpa using o);have k:=H (show i=I2 by
       have:=f.out;rw [Sort.scanUp,GO (by simp [o])] at this;exact this)
      (go_upto_region 3 with fail);go_quiet (first|(go_at_call 216;exact GW (cF o _)));have g:=H (c.drewN nq);clear c s t;generalize wr.drewN nq=M at g ⊢;go_wp2_with fail;go_meet;case rel=>exact ⟨by rw [<-k.out],g⟩
    ·have q:decide ((i:Int)<=(j:Int))=false:=GR Z;have k:=H (show i=I2 by
      have:=f.out;rw [Sort.scanUp,GO bG] at this;exact this)
     (go_upto_region 3 with fail);go_quiet (fail);have g:=H (c.drewN nq);clear c;generalize wr.drewN nq=M at g ⊢;go_wp2_with fail;go_meet;case rel=>exact ⟨by rw [<-k.out],g⟩
  case rest =>
   obtain⟨rfl,c⟩:=hcut;(go_upto_block 4 with fail);go_cut [10] from 46 to 61 (λl W=>l=.int .i64 e/\Hid (Au G N cp V0 d W))
   case first =>
    go_wp2_with fail;go_loopw [10] (λl wr => ∃ (f : Nat), I2<=f+1/\f<=j/\l=.int .i64 f/\Hid (Sort.scanDown (λx => aQ d[a]! x) d I2 f=e)/\Hid (Au G N cp V0 d wr)) (λl _ => (intOf l).toNat);(case atStart=>exact ⟨j,Z,Z,aY,y,c⟩);case round =>
     clear y c;obtain⟨f,a3,a4,rfl,Y,c⟩:=hrel;by_cases B:I2<=f
     ·obtain⟨m,O⟩:∃ m,f=m+1:=⟨f-1,Z⟩;have p:=H O;have q:(I2:Int)<=(f:Int):=Z;have a0:(f:Int)-1=(m:Int):=Z;have A:(f:Int)<(N:Int):=Z;have X:(a:Int)<(N:Int):=Z;have s:=c.cell (show f<N by omega);have t:=c.cell (show a<N by omega);clear O;by_cases o : aQ d[a]! d[f]! = true
      ·have k := H (show Sort.scanDown (λx => aQ d[a]! x) d I2 m=e by
        have:=Y.out;rw [p.out,Sort.scanDown,GP (by rw [<-p.out];simp [o,B])] at this;exact this)
       (go_upto_region 5 with fail);go_quiet (first|(go_at_call 216;exact GW (cF o _)));have g:=H (c.drewN nq);clear c s t;generalize wr.drewN nq=M at g ⊢;go_wp2;go_roundw;(case rel=>exact ⟨m,Z,Z,aY,k,g⟩);case measure=>(have:=p.out;simp [intOf];try omega)
      ·have o : aQ d[a]! d[f]! = false := (by simpa using o);have k:=H (show f=e by
        have:=Y.out;rw [p.out,Sort.scanDown,GO (by rw [<-p.out];simp [o])] at this;rw [p.out];exact this)
       (go_upto_region 5 with fail);go_quiet (first|(go_at_call 216;exact GW (cE o _)));have g:=H (c.drewN nq);clear c s t;generalize wr.drewN nq=M at g ⊢;go_wp2_with fail;go_meet;case rel=>exact ⟨by rw [<-k.out],g⟩
     ·have q:decide ((I2:Int)<=(f:Int))=false:=GR Z;have k:=H (show f=e by
       have:=Y.out;cases f with
       | zero=>exact this
       | succ m=>rw [Sort.scanDown,GO bG] at this;exact this)
      (go_upto_region 5 with fail);go_quiet (fail);have g:=H (c.drewN nq);clear c;generalize wr.drewN nq=M at g ⊢;go_wp2_with fail;go_meet;case rel=>exact ⟨by rw [<-k.out],g⟩
   case rest =>
    obtain⟨rfl,c⟩:=hcut;by_cases f:I2 > e
    ·have p:(e:Int)<(I2:Int):=Z;have k:=H (show (I2,d)=z by have:=v.out;rw [GP f] at this;exact this);clear v w y;go_wp2
     first|go_ret|((try simp only [Exit.inBlock,Exit.then]);go_ret)
     exact⟨by rw [<-k.out];rfl,by rw [<-k.out];exact c⟩
    ·have p:¬((e:Int)<(I2:Int)):=Z;obtain⟨m,O⟩:∃ m,e-1=m:=⟨_,rfl⟩;have a0:(e:Int)-1=(m:Int):=Z;have k:=H (show Sort.partEqLoop aQ a (I2+1) m (Sort.swp d I2 e)=z by have:=v.out;rw [GO f,O] at this;exact this);clear v w y O;have A:(I2:Int)<(N:Int):=Z;have R:(e:Int)<(N:Int):=Z;have s:=c.cell (show I2<N by omega);have t:=c.cell (show e<N by omega);have f1:=c.fz I2;obtain⟨u99,S⟩:=c.sw1 (show I2<N by omega) (show e<N by omega);have f0:=(c.set (show I2<N by omega) d[e]!).fz e;have P:=H (c.swap (show I2<N by omega) (show e<N by omega)).drew;clear c;(go_upto_region 8 with fail);go_region;clear s t f1 S f0;go_wp2;go_roundw;(case rel=>exact ⟨I2+1,m,_,Z,Z,Z,aY,aY,k,P⟩);case measure=>(simp [intOf];try omega)
theorem zd (G N cp) (a b B:Nat) (d0 V0 V) (A:Au G N cp V0 d0 V) (h1:a<=B) (h2:B<b) (hb:b<=N) (hN:N<=100000) :
  Calls prog 218 #[.slice (some ⟨G,0,none⟩) N cp,.int .i64 a,.int .i64 b,.int .i64 B] V λr V'=>r=.returned (.tuple #[.int .i64 ((Sort.partition aQ d0 a b B).1:Nat),.bool (Sort.partition aQ d0 a b B).2.1])/\Au G N cp V0 (Sort.partition aQ d0 a b B).2.2 V':=by
 obtain⟨R0,d⟩:∃ R0,Sort.partition aQ d0 a b B=R0:=⟨_,rfl⟩;rw [d];obtain⟨i,hi⟩:∃ i,a+1=i:=⟨_,rfl⟩;obtain⟨j,hj⟩:∃ j,b-1=j:=⟨_,rfl⟩;have a5:(a:Int)+1=(i:Int):=Z;have a6:(b:Int)-1=(j:Int):=Z;have c:=H A;unfold Sort.partition at d;rw [hi,hj] at d;have HR:=H d;clear d A;go_enter func218,ntmps218;have z:(a:Int)<(N:Int):=Z;have P:(B:Int)<(N:Int):=Z;have t:=c.cell (show a<N by omega);have u:=c.cell (show B<N by omega);have f1:=c.fz a;obtain⟨u99,Q⟩:=c.sw1 (show a<N by omega) (show B<N by omega);have f0:=(c.set (show a<N by omega) d0[B]!).fz B;have F:=H (c.swap (show a<N by omega) (show B<N by omega)).drew;clear c;go_upto_region 1 with fail
 go_region;clear t u f1 Q f0;generalize Sort.swp d0 a B=d at F HR;generalize World.drew _=w0 at F ⊢;have c:=F;clear F;obtain⟨I2,p⟩:∃ I2,Sort.scanUp (λx=>aQ x d[a]!) d j i=I2:=⟨_,rfl⟩;obtain⟨e,q⟩:∃ e,Sort.scanDown (λx => !aQ x d[a]!) d I2 j=e:=⟨_,rfl⟩;have rI:i<=I2/\I2<=j+1:=by rw [<-p];exact io _ d j i Z
 have rJ:I2<=e+1/\e<=j:=by rw [<-q];exact it _ d I2 j rI.2
 have a1:I2≠e:=pH (λx=>rfl) Z p q rJ.2;have v:=H (show (if I2 > e then (e,true,Sort.swp d e a) else ((Sort.partLoop aQ a (I2+1) (e-1) (Sort.swp d I2 e)).1,false,Sort.swp (Sort.partLoop aQ a (I2+1) (e-1) (Sort.swp d I2 e)).2 (Sort.partLoop aQ a (I2+1) (e-1) (Sort.swp d I2 e)).1 a))=R0 by
  have:=HR.out;simp only [p,q] at this;exact this)
 have w:=H p;have y:=H q;clear HR p q;go_upto_block 0 with fail
 go_cut [10] from 30 to 45 (λK W=>K=.int .i64 I2/\Hid (Au G N cp V0 d W))
 case first =>
  go_wp2_with fail;go_loopw [10] (λK wr=>∃ (i:Nat),a+1<=i/\i<=j+1/\K=.int .i64 i/\Hid (Sort.scanUp (λx=>aQ x d[a]!) d j i=I2)/\Hid (Au G N cp V0 d wr)) (λK _=>j+2-(intOf K).toNat);case atStart=>exact ⟨i,Z,Z,aY,w,c⟩
  case round =>
   clear w c;obtain⟨i,a2,a3,rfl,X,c⟩:=hrel;by_cases A:i<=j
   ·have s:(i:Int)<=(j:Int):=Z;have z:(i:Int)<(N:Int):=Z;have Y:(a:Int)<(N:Int):=Z;have t:=c.cell (show i<N by omega);have u:=c.cell (show a<N by omega);by_cases n : aQ d[i]! d[a]! = true
    ·have l:=H (show Sort.scanUp (λx=>aQ x d[a]!) d j (i+1)=I2 by
      have:=X.out;rw [Sort.scanUp,GP (by simp [n,A])] at this;exact this)
     (go_upto_region 3 with fail);go_quiet (first|(go_at_call 216;exact GW (cF n _)));have g:=H (c.drewN nq);clear c t u;generalize wr.drewN nq=L at g ⊢;go_wp2;go_roundw;(case rel=>exact ⟨i+1,Z,Z,aY,l,g⟩);case measure=>(simp [intOf];try omega)
    ·have n : aQ d[i]! d[a]! = false := (by simpa using n);have l:=H (show i=I2 by
      have:=X.out;rw [Sort.scanUp,GO (by simp [n])] at this;exact this)
     (go_upto_region 3 with fail);go_quiet (first|(go_at_call 216;exact GW (cE n _)));have g:=H (c.drewN nq);clear c t u;generalize wr.drewN nq=L at g ⊢;go_wp2_with fail;go_meet;case rel=>exact ⟨by rw [<-l.out],g⟩
   ·have s:decide ((i:Int)<=(j:Int))=false:=GR Z;have l:=H (show i=I2 by
     have:=X.out;rw [Sort.scanUp,GO bG] at this;exact this)
    (go_upto_region 3 with fail);go_quiet (fail);have g:=H (c.drewN nq);clear c;generalize wr.drewN nq=L at g ⊢;go_wp2_with fail;go_meet;case rel=>exact ⟨by rw [<-l.out],g⟩
 case rest =>
  obtain⟨rfl,c⟩:=hcut;go_upto_block 2 with fail
  go_cut [11] from 46 to 62 (λk W=>k=.int .i64 e/\Hid (Au G N cp V0 d W))
  case first =>
   go_wp2_with fail;go_loopw [11] (λk wr=>∃ (f:Nat),I2<=f+1/\f<=j/\k=.int .i64 f/\Hid (Sort.scanDown (λx => !aQ x d[a]!) d I2 f=e)/\Hid (Au G N cp V0 d wr)) (λk _=>(intOf k).toNat);(case atStart=>exact ⟨j,Z,Z,aY,y,c⟩);case round =>
    clear y c;obtain⟨f,a7,a8,rfl,HJ,c⟩:=hrel;by_cases A:I2<=f
    ·obtain⟨m,M⟩:∃ m,f=m+1:=⟨f-1,Z⟩;have o:=H M;have s:(I2:Int)<=(f:Int):=Z;have R:(f:Int)-1=(m:Int):=Z;have z:(f:Int)<(N:Int):=Z;have Y:(a:Int)<(N:Int):=Z;have t:=c.cell (show f<N by omega);have u:=c.cell (show a<N by omega);clear M;by_cases n : aQ d[f]! d[a]! = false
     ·have l:=H (show Sort.scanDown (λx => !aQ x d[a]!) d I2 m=e by
       have:=HJ.out;rw [o.out,Sort.scanDown,GP (by rw [<-o.out];simp [n,A])] at this;exact this)
      (go_upto_region 5 with fail);go_quiet (first|(go_at_call 216;exact GW (cE n _)));have g:=H (c.drewN nq);clear c t u;generalize wr.drewN nq=L at g ⊢;go_wp2;go_roundw;(case rel=>exact ⟨m,Z,Z,aY,l,g⟩);case measure=>(have:=o.out;simp [intOf];try omega)
     ·have n : aQ d[f]! d[a]! = true := (by simpa using n);have l:=H (show f=e by
       have:=HJ.out;rw [o.out,Sort.scanDown,GO (by rw [<-o.out];simp [n])] at this;rw [o.out];exact this)
      (go_upto_region 5 with fail);go_quiet (first|(go_at_call 216;exact GW (cF n _)));have g:=H (c.drewN nq);clear c t u;generalize wr.drewN nq=L at g ⊢;go_wp2_with fail;go_meet;case rel=>exact ⟨by rw [<-l.out],g⟩
    ·have s:decide ((I2:Int)<=(f:Int))=false:=GR Z;have l:=H (show f=e by
      have:=HJ.out;cases f with
      | zero=>exact this
      | succ m=>rw [Sort.scanDown,GO bG] at this;exact this)
     (go_upto_region 5 with fail);go_quiet (fail);have g:=H (c.drewN nq);clear c;generalize wr.drewN nq=L at g ⊢;go_wp2_with fail;go_meet;case rel=>exact ⟨by rw [<-l.out],g⟩
  case rest =>
   obtain⟨rfl,c⟩:=hcut;by_cases O:I2 > e
   ·have a0:(e:Int)<(I2:Int):=Z;have l:=H (show (e,true,Sort.swp d e a)=R0 by have:=v.out;rw [GP O] at this;exact this);clear v w y;have z:(e:Int)<(N:Int):=Z;have P:(a:Int)<(N:Int):=Z;have t:=c.cell (show e<N by omega);have u:=c.cell (show a<N by omega);have f1:=c.fz e;obtain⟨u99,Q⟩:=c.sw1 (show e<N by omega) (show a<N by omega);have f0:=(c.set (show e<N by omega) d[a]!).fz a;have F:=H (c.swap (show e<N by omega) (show a<N by omega)).drew;clear c;(go_upto_region 8 with fail);go_region;clear t u f1 Q f0;go_wp2;refine GX (b_ rfl _ _) rfl ?_;exact⟨by rw [<-l.out];rfl,by rw [<-l.out];exact F⟩
   ·have a0:¬((e:Int)<(I2:Int)):=Z;obtain⟨S,T⟩:∃ S,Sort.partLoop aQ a (I2+1) (e-1) (Sort.swp d I2 e)=S:=⟨_,rfl⟩;have a9:=H (show (S.1,false,Sort.swp S.2 S.1 a)=R0 by have:=v.out;rw [GO O,T] at this;exact this);obtain⟨m,M⟩:∃ m,e-1=m:=⟨_,rfl⟩;have R:(e:Int)-1=(m:Int):=Z;rw [M] at T;have a4:=H T;clear v w y T M;have z:(I2:Int)<(N:Int):=Z;have P:(e:Int)<(N:Int):=Z;have t:=c.cell (show I2<N by omega);have u:=c.cell (show e<N by omega);have f1:=c.fz I2;obtain⟨u99,Q⟩:=c.sw1 (show I2<N by omega) (show e<N by omega);have f0:=(c.set (show I2<N by omega) d[e]!).fz e;have F:=H (c.swap (show I2<N by omega) (show e<N by omega)).drew;clear c;(go_upto_region 10 with fail);go_region;clear t u f1 Q f0;go_wp2_with fail;go_loopw [10,11] (λk r wr=>∃ (i j:Nat) (d:Array Nat),a+1<=i/\i<=j+1/\j<b/\k=.int .i64 i/\r=.int .i64 j/\Hid (Sort.partLoop aQ a i j d=S)/\Hid (Au G N cp V0 d wr)) (λk _ _=>b+1-(intOf k).toNat);(case atStart=>exact ⟨I2+1,m,_,Z,Z,Z,aY,aY,a4,F⟩);case round =>
     clear a4 F a5 a6 R hi hj;clear rI rJ a1;obtain⟨i,j,d,a2,a3,hj,rfl,rfl,HR,c⟩:=hrel;obtain⟨I2,p⟩:∃ I2,Sort.scanUp (λx=>aQ x d[a]!) d j i=I2:=⟨_,rfl⟩;obtain⟨e,q⟩:∃ e,Sort.scanDown (λx => !aQ x d[a]!) d I2 j=e:=⟨_,rfl⟩;have rI:i<=I2/\I2<=j+1:=(by rw [<-p];exact io _ d j i Z);have rJ:I2<=e+1/\e<=j:=(by rw [<-q];exact it _ d I2 j rI.2);have a1:I2≠e:=pH (λx=>rfl) Z p q rJ.2;have v:=H (show (if I2 > e then (e,d) else Sort.partLoop aQ a (I2+1) (e-1) (Sort.swp d I2 e))=S by
      have:=HR.out;rw [Sort.partLoop_eq,p,q] at this;exact this)
     have w:=H p;have y:=H q;clear HR p q;(go_upto_block 6 with fail);go_cut [10] from 99 to 114 (λK W=>K=.int .i64 I2/\Hid (Au G N cp V0 d W))
     case first =>
      go_wp2_with fail;go_loopw [10] (λK wr=>∃ (i:Nat),a+1<=i/\i<=j+1/\K=.int .i64 i/\Hid (Sort.scanUp (λx=>aQ x d[a]!) d j i=I2)/\Hid (Au G N cp V0 d wr)) (λK _=>j+2-(intOf K).toNat);(case atStart=>exact ⟨i,Z,Z,aY,w,c⟩);case round =>
       clear w c;obtain⟨i,a2,a3,rfl,X,c⟩:=hrel;by_cases A:i<=j
       ·have s:(i:Int)<=(j:Int):=Z;have z:(i:Int)<(N:Int):=Z;have Y:(a:Int)<(N:Int):=Z;have t:=c.cell (show i<N by omega);have u:=c.cell (show a<N by omega);by_cases n : aQ d[i]! d[a]! = true
        ·have l:=H (show Sort.scanUp (λx=>aQ x d[a]!) d j (i+1)=I2 by
          have:=X.out;rw [Sort.scanUp,GP (by simp [n,A])] at this;exact this)
         (go_upto_region 13 with fail);go_quiet (first|(go_at_call 216;exact GW (cF n _)));have g:=H (c.drewN nq);clear c t u;generalize wr.drewN nq=L at g ⊢;go_wp2;go_roundw;(case rel=>exact ⟨i+1,Z,Z,aY,l,g⟩);case measure=>(simp [intOf];try omega)
        ·have n : aQ d[i]! d[a]! = false := (by simpa using n);have l:=H (show i=I2 by
          have:=X.out;rw [Sort.scanUp,GO (by simp [n])] at this;exact this)
         (go_upto_region 13 with fail);go_quiet (first|(go_at_call 216;exact GW (cE n _)));have g:=H (c.drewN nq);clear c t u;generalize wr.drewN nq=L at g ⊢;go_wp2_with fail;go_meet;case rel=>exact ⟨by rw [<-l.out],g⟩
       ·have s:decide ((i:Int)<=(j:Int))=false:=GR Z;have l:=H (show i=I2 by
         have:=X.out;rw [Sort.scanUp,GO bG] at this;exact this)
        (go_upto_region 13 with fail);go_quiet (fail);have g:=H (c.drewN nq);clear c;generalize wr.drewN nq=L at g ⊢;go_wp2_with fail;go_meet;case rel=>exact ⟨by rw [<-l.out],g⟩
     case rest =>
      obtain⟨rfl,c⟩:=hcut;(go_upto_block 8 with fail);go_cut [11] from 115 to 131 (λk W=>k=.int .i64 e/\Hid (Au G N cp V0 d W))
      case first =>
       go_wp2_with fail;go_loopw [11] (λk wr=>∃ (f:Nat),I2<=f+1/\f<=j/\k=.int .i64 f/\Hid (Sort.scanDown (λx => !aQ x d[a]!) d I2 f=e)/\Hid (Au G N cp V0 d wr)) (λk _=>(intOf k).toNat);(case atStart=>exact ⟨j,Z,Z,aY,y,c⟩);case round =>
        clear y c;obtain⟨f,a7,a8,rfl,HJ,c⟩:=hrel;by_cases A:I2<=f
        ·obtain⟨m,M⟩:∃ m,f=m+1:=⟨f-1,Z⟩;have o:=H M;have s:(I2:Int)<=(f:Int):=Z;have R:(f:Int)-1=(m:Int):=Z;have z:(f:Int)<(N:Int):=Z;have Y:(a:Int)<(N:Int):=Z;have t:=c.cell (show f<N by omega);have u:=c.cell (show a<N by omega);clear M;by_cases n : aQ d[f]! d[a]! = false
         ·have l:=H (show Sort.scanDown (λx => !aQ x d[a]!) d I2 m=e by
           have:=HJ.out;rw [o.out,Sort.scanDown,GP (by rw [<-o.out];simp [n,A])] at this;exact this)
          (go_upto_region 15 with fail);go_quiet (first|(go_at_call 216;exact GW (cE n _)));have g:=H (c.drewN nq);clear c t u;generalize wr.drewN nq=L at g ⊢;go_wp2;go_roundw;(case rel=>exact ⟨m,Z,Z,aY,l,g⟩);case measure=>(have:=o.out;simp [intOf];try omega)
         ·have n : aQ d[f]! d[a]! = true := (by simpa using n);have l:=H (show f=e by
           have:=HJ.out;rw [o.out,Sort.scanDown,GO (by rw [<-o.out];simp [n])] at this;rw [o.out];exact this)
          (go_upto_region 15 with fail);go_quiet (first|(go_at_call 216;exact GW (cF n _)));have g:=H (c.drewN nq);clear c t u;generalize wr.drewN nq=L at g ⊢;go_wp2_with fail;go_meet;case rel=>exact ⟨by rw [<-l.out],g⟩
        ·have s:decide ((I2:Int)<=(f:Int))=false:=GR Z;have l:=H (show f=e by
          have:=HJ.out;cases f with
          | zero=>exact this
          | succ m=>rw [Sort.scanDown,GO bG] at this;exact this)
         (go_upto_region 15 with fail);go_quiet (fail);have g:=H (c.drewN nq);clear c;generalize wr.drewN nq=L at g ⊢;go_wp2_with fail;go_meet;case rel=>exact ⟨by rw [<-l.out],g⟩
      case rest =>
       obtain⟨rfl,c⟩:=hcut;by_cases O:I2 > e
       ·have a0:(e:Int)<(I2:Int):=Z;have l:=H (show (e,d)=S by have:=v.out;rw [GP O] at this;exact this);have T:=H (show (e,false,Sort.swp d e a)=R0 by rw [<-a9.out,<-l.out]);clear v w y;have z:(e:Int)<(N:Int):=Z;have P:(a:Int)<(N:Int):=Z;have t:=c.cell (show e<N by omega);have u:=c.cell (show a<N by omega);have f1:=c.fz e;obtain⟨u99,Q⟩:=c.sw1 (show e<N by omega) (show a<N by omega);have f0:=(c.set (show e<N by omega) d[a]!).fz a;have F:=H (c.swap (show e<N by omega) (show a<N by omega)).drew;clear c;(go_upto_region 21 with fail);go_region;clear t u f1 Q f0;go_wp2;refine GX (b_ rfl _ _) rfl ?_;exact⟨by rw [<-T.out];rfl,by rw [<-T.out];exact F⟩
       ·have a0:¬((e:Int)<(I2:Int)):=Z;obtain⟨m,M⟩:∃ m,e-1=m:=⟨_,rfl⟩;have R:(e:Int)-1=(m:Int):=Z;have l:=H (show Sort.partLoop aQ a (I2+1) m (Sort.swp d I2 e)=S by have:=v.out;rw [GO O,M] at this;exact this);clear v w y M;have z:(I2:Int)<(N:Int):=Z;have P:(e:Int)<(N:Int):=Z;have t:=c.cell (show I2<N by omega);have u:=c.cell (show e<N by omega);have f1:=c.fz I2;obtain⟨u99,Q⟩:=c.sw1 (show I2<N by omega) (show e<N by omega);have f0:=(c.set (show I2<N by omega) d[e]!).fz e;have F:=H (c.swap (show I2<N by omega) (show e<N by omega)).drew;clear c;(go_upto_region 18 with fail);go_region;clear t u f1 Q f0;go_wp2;go_roundw;(case rel=>exact ⟨I2+1,m,_,Z,Z,Z,aY,aY,l,F⟩);case measure=>(simp [intOf];try omega)
end
end Go.Proofs.YtdngbppdomoenaaGreatDoor
