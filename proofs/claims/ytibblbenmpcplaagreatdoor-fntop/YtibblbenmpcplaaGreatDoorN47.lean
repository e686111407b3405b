import Derived.Test.YtibblbenmpcplaaGreatDoorN43
import Derived.Test.YtibblbenmpcplaaGreatDoorN44
set_option linter.unusedVariables false
set_option linter.unusedSimpArgs false
set_option maxRecDepth 20000
set_option maxHeartbeats 8000000
namespace Go.Proofs.YtibblbenmpcplaaGreatDoor
open Go.Proofs.Tryz
section
open Go.RowKit Go.Maps
theorem zH (G N cp) (a b:Nat) (V0 V) (A:AnyU G N cp V0 V) (a5:a<b) (hb:b<=N) (hN:N<=100000) :
  Calls prog 201 #[.slice (some ⟨G,0,none⟩) N cp,.int .i64 a,.int .i64 b] V λr V'=>∃ q,r=.returned (.bool q)/\AnyU G N cp V0 V':=by
 have c:=H A;clear A;go_enter func201,ntmps201;go_wp2_with fail;go_loopw [7,8] (λp M wr=>∃ t i:Nat,t<=5/\a+1<=i/\i<=b/\p=.int .i64 i/\M=.int .i64 t/\Hid (AnyU G N cp V0 wr)) (λ_ M _=>6-(intOf M).toNat);case atStart=>exact ⟨0,a+1,Z,Z,Z,aY,rfl,c⟩
 case round =>
  clear c;obtain⟨t,i,ht,O,P,rfl,rfl,c⟩:=hrel;by_cases a6:t<5
  ·have a7:(t:Int)<5:=Z;(go_upto_block 2 with fail);go_cut [7] from 13 to 132 (λp Q=>∃ I1:Nat,a+1<=I1/\I1<=b/\p=.int .i64 I1/\Hid (AnyU G N cp V0 Q))
   case first =>
    go_wp2_with fail;go_loopw [7] (λp wr=>∃ i:Nat,a+1<=i/\i<=b/\p=.int .i64 i/\Hid (AnyU G N cp V0 wr)) (λp _=>b+1-(intOf p).toNat);(case atStart=>exact ⟨i,O,P,rfl,c⟩);case round =>
     clear c;obtain⟨j,q,s,rfl,c⟩:=hrel;by_cases R:j<b
     ·obtain⟨k,S⟩:∃ k,j=k+1:=⟨j-1,Z⟩;have g:(j:Int)<(b:Int):=Z;have T:(j:Int)-1=(k:Int):=Z;have z:(j:Int)<(N:Int):=Z;have W:(k:Int)<(N:Int):=Z;obtain⟨x,e⟩:=c.at (show j<N by omega);obtain⟨y,f⟩:=c.at (show k<N by omega);clear S;cases o:aQ x y
      all_goals
       go_upto_region 5 with fail
       go_quiet (first|(go_at_call 202;exact GW (cF o _)))
       have d:=H (c.dN nq)
       clear c e f o
       generalize wr.drewN nq=X at d ⊢
      ·go_wp2;go_roundw;(case rel=>exact ⟨j+1,Z,Z,aY,d⟩);case measure=>simp [intOf];omega
      ·go_wp2_with fail;go_meet;case rel=>exact ⟨j,q,s,rfl,d⟩
     ·have g:decide ((j:Int)<(b:Int))=false:=GR Z;(go_upto_region 5 with fail);go_quiet (fail);have d:=H (c.dN nq);clear c;generalize wr.drewN nq=X at d ⊢;go_wp2_with fail;go_meet;case rel=>exact ⟨j,q,s,rfl,d⟩
   case rest =>
    obtain⟨I1,r1,r2,rfl,c⟩:=hcut;by_cases a8:I1=b
    ·have Y:(I1:Int)=(b:Int):=Z;go_wp2
     first|go_ret|((try simp only [Exit.inBlock,Exit.then]);go_ret)
     exact⟨_,rfl,c⟩
    ·have Y:¬((I1:Int)=(b:Int)):=Z;obtain⟨L,hL⟩:∃ L,b-a=L:=⟨_,rfl⟩;have a9:(b:Int)-(a:Int)=(L:Int):=Z;by_cases b0:b-a<50
     ·have a0:(L:Int)<50:=Z;go_wp2
      first|go_ret|((try simp only [Exit.inBlock,Exit.then]);go_ret)
      exact⟨_,rfl,c⟩
     ·have a0:¬((L:Int)<50):=Z;obtain⟨k,S⟩:∃ k,I1-1=k:=⟨_,rfl⟩;have T:(I1:Int)-1=(k:Int):=Z;have b1:(I1:Int)<(N:Int):=Z;have W:(k:Int)<(N:Int):=Z;obtain⟨x,y,u,e,f,f1,A,f0,l⟩:=c.sw (show I1<N by omega) (show k<N by omega);clear c S hL;(go_upto_region 11 with fail);go_region;clear e f f1 A f0;generalize World.drew _=w9 at l ⊢;obtain⟨B,b2⟩:∃ B,I1-a=B:=⟨_,rfl⟩;have a3:(I1:Int)-(a:Int)=(B:Int):=Z;obtain⟨F,b3⟩:∃ F,b-I1=F:=⟨_,rfl⟩;have a4:(b:Int)-(I1:Int)=(F:Int):=Z;(go_upto_if 61 with fail);go_cut [9] from 13 to 132 (λK Q=>Hid (AnyU G N cp V0 Q))
      case first =>
       by_cases h2:I1-a≥2
       ·have v:(2:Int)<=(B:Int):=Z;go_wp2_with fail;go_loopw [9] (λK wr=>∃ j:Nat,j<=k/\K=.int .i64 j/\Hid (AnyU G N cp V0 wr)) (λK _=>(intOf K).toNat);(case atStart=>exact ⟨k,Fv _,aY,l⟩);case round =>
         clear l;obtain⟨j,w,rfl,c⟩:=hrel;cases j with
         | zero =>
          go_wp2_with fail;go_meet;case rel=>exact c
         | succ m =>
          obtain⟨j,n⟩:∃ j,m+1=j:=⟨_,rfl⟩;rw [n] at w ⊢;have g:(1:Int)<=(j:Int):=Z;have a1:(j:Int)-1=(m:Int):=Z;have z:(j:Int)<(N:Int):=Z;have a2:(m:Int)<(N:Int):=Z;obtain⟨x,e⟩:=c.at (show j<N by omega);obtain⟨y,f⟩:=c.at (show m<N by omega);clear n;cases o:aQ x y
          all_goals
           go_upto_region 16 with fail
           go_quiet (first|(go_at_call 202;exact GW (cF o _)))
           have d:=H (c.dN nq)
           clear c e f o
           generalize wr.drewN nq=X at d ⊢
          ·go_wp2_with fail;go_meet;case rel=>exact d
          ·obtain⟨x,y,u,e,f,f1,A,f0,l⟩:=d.sw (show j<N by omega) (show m<N by omega);clear d;(go_upto_region 17 with fail);go_region;clear e f f1 A f0;go_wp2;go_roundw;(case rel=>exact ⟨m,Z,aY,l⟩);case measure=>simp [intOf];omega
       ·have v:¬((2:Int)<=(B:Int)):=Z;go_wp2_with fail;go_meet;case rel=>exact l
      case rest =>
       have d:=hcut;clear hcut l;by_cases h2:b-I1≥2
       case' neg =>
        have v:¬((2:Int)<=(F:Int)):=Z
       case' pos =>
        have v:(2:Int)<=(F:Int):=Z;go_wp2_with fail;go_loopw [10] (λw wr=>∃ j:Nat,I1+1<=j/\j<=b/\w=.int .i64 j/\Hid (AnyU G N cp V0 wr)) (λw _=>b+1-(intOf w).toNat);(case atStart=>exact ⟨I1+1,Fv _,Z,aY,d⟩);clear d;obtain⟨j,q,s,rfl,c⟩:=hrel;by_cases R:j<b
        case' pos =>
         obtain⟨m,n⟩:∃ m,j-1=m:=⟨_,rfl⟩;have g:(j:Int)<(b:Int):=Z;have a1:(j:Int)-1=(m:Int):=Z;have z:(j:Int)<(N:Int):=Z;have a2:(m:Int)<(N:Int):=Z;obtain⟨x,e⟩:=c.at (show j<N by omega);obtain⟨y,f⟩:=c.at (show m<N by omega);clear n;cases o:aQ x y
         all_goals
          go_upto_region 22 with fail
          go_quiet (first|(go_at_call 202;exact GW (cF o _)))
          have d:=H (c.dN nq)
          clear c e f o
          generalize wr.drewN nq=X at d ⊢
         rotate_left
         ·obtain⟨x,y,u,e,f,f1,A,f0,l⟩:=d.sw (show j<N by omega) (show m<N by omega);clear d;(go_upto_region 23 with fail);go_region;clear e f f1 A f0;go_wp2;go_roundw;(case rel=>exact ⟨j+1,Z,Z,aY,l⟩);case measure=>simp [intOf];omega
        case' neg =>
         have g:¬((j:Int)<(b:Int)):=Z;have d:=c
       all_goals
        go_wp2
        go_roundw
        case rel=>exact ⟨t+1,I1,Z,Z,Z,aY,aY,d⟩
        case measure=>simp [intOf];omega
  ·obtain rfl:t=5:=Z;go_wp2
   first|go_ret|((try simp only [Exit.inBlock,Exit.then]);go_ret)
   exact⟨_,rfl,c⟩
theorem Ca (G N cp) (a b o:Nat) (V0 V) (A:AnyU G N cp V0 V) (h1:a<=o) (h2:o<b) (hb:b<=N) (hN:N<=100000) :
  Calls prog 203 #[.slice (some ⟨G,0,none⟩) N cp,.int .i64 a,.int .i64 b,.int .i64 o] V λr S=>∃ i:Nat,r=.returned (.int .i64 (i:Nat))/\(a+1<=i/\i<=b)/\AnyU G N cp V0 S:=by
 obtain⟨t,T⟩:∃ t,b-1=t:=⟨_,rfl⟩;have Q:(b:Int)-1=(t:Int):=Z;have c:=H A;clear A;go_enter func203,ntmps203;have g:(a:Int)<(N:Int):=Z;have p:(o:Int)<(N:Int):=Z;obtain⟨x,y,u,l,n,f1,w,f0,v⟩:=c.sw (show a<N by omega) (show o<N by omega);clear c;go_upto_region 1 with fail
 go_region;clear l n f1 w f0;go_wp2_with fail;go_loopw [9,10] (λz d wr=>∃ i j:Nat,a+1<=i/\i<=b/\a<=j/\j<b/\z=.int .i64 i/\d=.int .i64 j/\Hid (AnyU G N cp V0 wr)) (λz _ _=>b+1-(intOf z).toNat);case atStart=>exact ⟨a+1,t,Z,Z,Z,Z,aY,rfl,v⟩
 case round =>
  clear v g p;obtain⟨i,j,W,X,Y,hj,rfl,rfl,c⟩:=hrel;go_upto_block 2 with fail
  go_cut [9] from 29 to 45 (λs A=>∃ I2:Nat,i<=I2/\I2<=b/\s=.int .i64 I2/\Hid (AnyU G N cp V0 A))
  case first =>
   go_wp2_with fail;go_loopw [9] (λs wr=>∃ k:Nat,i<=k/\k<=b/\s=.int .i64 k/\Hid (AnyU G N cp V0 wr)) (λs _=>b+1-(intOf s).toNat);(case atStart=>exact ⟨i,Z,Z,aY,c⟩);case round =>
    clear c;obtain⟨k,B,F,rfl,c⟩:=hrel;by_cases K:k<=j
    case' pos =>
     have d:(k:Int)<=(j:Int):=Z;have g:(k:Int)<(N:Int):=Z;have L:(a:Int)<(N:Int):=Z;obtain⟨x,l⟩:=c.at (show k<N by omega);obtain⟨y,n⟩:=c.at (show a<N by omega);cases q:aQ y x
     all_goals
      go_upto_region 3 with fail
      go_quiet (first|(go_at_call 202;exact GW (cF q _)))
      have e:=H (c.dN nq)
      clear c l n q
      generalize wr.drewN nq=M at e ⊢
     ·go_wp2;go_roundw;(case rel=>exact ⟨k+1,Z,Z,aY,e⟩);case measure=>simp [intOf];omega
    case' neg =>
     have d:decide ((k:Int)<=(j:Int))=false:=GR Z;(go_upto_region 3 with fail);go_quiet (fail);have e:=H (c.dN nq);clear c;generalize wr.drewN nq=M at e ⊢
    all_goals
     go_wp2_with fail
     go_meet
     case rel=>exact ⟨k,B,F,rfl,e⟩
  case rest =>
   obtain⟨I2,a0,a1,rfl,c⟩:=hcut;(go_upto_block 4 with fail);go_cut [10] from 46 to 61 (λs A=>∃ f:Nat,a<=f/\f<=j/\s=.int .i64 f/\Hid (AnyU G N cp V0 A))
   case first =>
    go_wp2_with fail;go_loopw [10] (λs wr=>∃ k:Nat,a<=k/\k<=j/\s=.int .i64 k/\Hid (AnyU G N cp V0 wr)) (λs _=>(intOf s).toNat);(case atStart=>exact ⟨j,Z,Z,aY,c⟩);case round =>
     clear c;obtain⟨k,B,F,rfl,c⟩:=hrel;by_cases K:I2<=k
     case' pos =>
      obtain⟨m,R⟩:∃ m,k=m+1:=⟨k-1,Z⟩;have d:(I2:Int)<=(k:Int):=Z;have O:(k:Int)-1=(m:Int):=Z;have g:(k:Int)<(N:Int):=Z;have L:(a:Int)<(N:Int):=Z;obtain⟨x,l⟩:=c.at (show k<N by omega);obtain⟨y,n⟩:=c.at (show a<N by omega);clear R;cases q:aQ y x
      all_goals
       go_upto_region 5 with fail
       go_quiet (first|(go_at_call 202;exact GW (cF q _)))
       have e:=H (c.dN nq)
       clear c l n q
       generalize wr.drewN nq=M at e ⊢
      rotate_left
      ·go_wp2;go_roundw;(case rel=>exact ⟨m,Z,Z,aY,e⟩);case measure=>simp [intOf];omega
     case' neg =>
      have d:decide ((I2:Int)<=(k:Int))=false:=GR Z;(go_upto_region 5 with fail);go_quiet (fail);have e:=H (c.dN nq);clear c;generalize wr.drewN nq=M at e ⊢
     all_goals
      go_wp2_with fail
      go_meet
      case rel=>exact ⟨k,B,F,rfl,e⟩
   case rest =>
    obtain⟨f,a2,a3,rfl,c⟩:=hcut;by_cases a4:I2 > f
    ·have P:(f:Int)<(I2:Int):=Z;go_wp2
     first|go_ret|((try simp only [Exit.inBlock,Exit.then]);go_ret)
     exact⟨I2,rfl,Z,c⟩
    ·have P:¬((f:Int)<(I2:Int)):=Z;obtain⟨m,R⟩:∃ m,f-1=m:=⟨_,rfl⟩;have O:(f:Int)-1=(m:Int):=Z;have g:(I2:Int)<(N:Int):=Z;have p:(f:Int)<(N:Int):=Z;obtain⟨x,y,u,l,n,f1,w,f0,v⟩:=c.sw (show I2<N by omega) (show f<N by omega);clear c;(go_upto_region 8 with fail);go_region;clear l n f1 w f0;go_wp2;go_roundw;(case rel=>exact ⟨I2+1,m,Z,Z,Z,Z,aY,aY,v⟩);case measure=>simp [intOf];omega
theorem zd (G N cp) (a b P:Nat) (V0 V) (A:AnyU G N cp V0 V) (h1:a<=P) (h2:P<b) (hb:b<=N) (hN:N<=100000) :
  Calls prog 204 #[.slice (some ⟨G,0,none⟩) N cp,.int .i64 a,.int .i64 b,.int .i64 P] V λr V'=>∃ (i:Nat) (q:Bool),r=.returned (.tuple #[.int .i64 (i:Nat),.bool q])/\(a<=i/\i<b)/\AnyU G N cp V0 V':=by
 obtain⟨i,hi⟩:∃ i,a+1=i:=⟨_,rfl⟩;obtain⟨j,hj⟩:∃ j,b-1=j:=⟨_,rfl⟩;have X:(a:Int)+1=(i:Int):=Z;have Y:(b:Int)-1=(j:Int):=Z;have c:=H A;clear A;go_enter func204,ntmps204;have g:(a:Int)<(N:Int):=Z;have o:(P:Int)<(N:Int):=Z;obtain⟨x,y,u,l,n,f1,t,f0,p⟩:=c.sw (show a<N by omega) (show P<N by omega);clear c;go_upto_region 1 with fail
 go_region;clear l n f1 t f0;generalize World.drew _=w0 at p ⊢;have c:=p;clear p g o;go_upto_block 0 with fail
 go_cut [10] from 30 to 45 (λs z=>∃ I2:Nat,i<=I2/\I2<=b/\s=.int .i64 I2/\Hid (AnyU G N cp V0 z))
 case first =>
  go_wp2_with fail;go_loopw [10] (λs wr=>∃ k:Nat,i<=k/\k<=b/\s=.int .i64 k/\Hid (AnyU G N cp V0 wr)) (λs _=>b+1-(intOf s).toNat);case atStart=>exact ⟨i,Z,Z,aY,c⟩
  case round =>
   clear c;obtain⟨k,A,B,rfl,c⟩:=hrel;by_cases F:k<=j
   case' pos =>
    have e:(k:Int)<=(j:Int):=Z;have g:(k:Int)<(N:Int):=Z;have K:(a:Int)<(N:Int):=Z;obtain⟨x,l⟩:=c.at (show k<N by omega);obtain⟨y,n⟩:=c.at (show a<N by omega);cases q:aQ x y
    all_goals
     go_upto_region 3 with fail
     go_quiet (first|(go_at_call 202;exact GW (cF q _)))
     have f:=H (c.dN nq)
     clear c l n q
     generalize wr.drewN nq=L at f ⊢
    rotate_left
    ·go_wp2;go_roundw;(case rel=>exact ⟨k+1,Z,Z,aY,f⟩);case measure=>simp [intOf];omega
   case' neg =>
    have e:decide ((k:Int)<=(j:Int))=false:=GR Z;(go_upto_region 3 with fail);go_quiet (fail);have f:=H (c.dN nq);clear c;generalize wr.drewN nq=L at f ⊢
   all_goals
    go_wp2_with fail
    go_meet
    case rel=>exact ⟨k,A,B,rfl,f⟩
 case rest =>
  obtain⟨I2,Q,R,rfl,c⟩:=hcut;go_upto_block 2 with fail
  go_cut [11] from 46 to 62 (λs z=>∃ d:Nat,a<=d/\d<=j/\s=.int .i64 d/\Hid (AnyU G N cp V0 z))
  case first =>
   go_wp2_with fail;go_loopw [11] (λs wr=>∃ k:Nat,a<=k/\k<=j/\s=.int .i64 k/\Hid (AnyU G N cp V0 wr)) (λs _=>(intOf s).toNat);(case atStart=>exact ⟨j,Z,Z,aY,c⟩);case round =>
    clear c;obtain⟨k,A,B,rfl,c⟩:=hrel;by_cases F:I2<=k
    case' pos =>
     obtain⟨m,O⟩:∃ m,k=m+1:=⟨k-1,Z⟩;have e:(I2:Int)<=(k:Int):=Z;have v:(k:Int)-1=(m:Int):=Z;have g:(k:Int)<(N:Int):=Z;have K:(a:Int)<(N:Int):=Z;obtain⟨x,l⟩:=c.at (show k<N by omega);obtain⟨y,n⟩:=c.at (show a<N by omega);clear O;cases q:aQ x y
     all_goals
      go_upto_region 5 with fail
      go_quiet (first|(go_at_call 202;exact GW (cF q _)))
      have f:=H (c.dN nq)
      clear c l n q
      generalize wr.drewN nq=L at f ⊢
     ·go_wp2;go_roundw;(case rel=>exact ⟨m,Z,Z,aY,f⟩);case measure=>simp [intOf];omega
    case' neg =>
     have e:decide ((I2:Int)<=(k:Int))=false:=GR Z;(go_upto_region 5 with fail);go_quiet (fail);have f:=H (c.dN nq);clear c;generalize wr.drewN nq=L at f ⊢
    all_goals
     go_wp2_with fail
     go_meet
     case rel=>exact ⟨k,A,B,rfl,f⟩
  case rest =>
   obtain⟨d,S,T,rfl,c⟩:=hcut;by_cases W:I2 > d
   ·have w:(d:Int)<(I2:Int):=Z;have g:(d:Int)<(N:Int):=Z;have o:(a:Int)<(N:Int):=Z;obtain⟨x,y,u,l,n,f1,t,f0,p⟩:=c.sw (show d<N by omega) (show a<N by omega);clear c;(go_upto_region 8 with fail);go_region;clear l n f1 t f0;go_wp2;refine GX (b_ rfl _ _) rfl ?_;exact⟨d,_,rfl,Z,p⟩
   ·have w:¬((d:Int)<(I2:Int)):=Z;obtain⟨m,O⟩:∃ m,d-1=m:=⟨_,rfl⟩;have v:(d:Int)-1=(m:Int):=Z;have g:(I2:Int)<(N:Int):=Z;have o:(d:Int)<(N:Int):=Z;obtain⟨x,y,u,l,n,f1,t,f0,p⟩:=c.sw (show I2<N by omega) (show d<N by omega);clear c;(go_upto_region 10 with fail);go_region;clear l n f1 t f0;go_wp2_with fail;go_loopw [10,11] (λM r wr=>∃ i j:Nat,a+1<=i/\i<=b/\a<=j/\j<b/\M=.int .i64 i/\r=.int .i64 j/\Hid (AnyU G N cp V0 wr)) (λM _ _=>b+1-(intOf M).toNat);(case atStart=>exact ⟨I2+1,m,Z,Z,Z,Z,aY,aY,p⟩);case round =>
     clear p X Y v hi hj g o O Q R S T W w;obtain⟨i,j,a0,a1,a2,hj,rfl,rfl,c⟩:=hrel;(go_upto_block 6 with fail);go_cut [10] from 99 to 114 (λs z=>∃ I2:Nat,i<=I2/\I2<=b/\s=.int .i64 I2/\Hid (AnyU G N cp V0 z))
     case first =>
      go_wp2_with fail;go_loopw [10] (λs wr=>∃ k:Nat,i<=k/\k<=b/\s=.int .i64 k/\Hid (AnyU G N cp V0 wr)) (λs _=>b+1-(intOf s).toNat);(case atStart=>exact ⟨i,Z,Z,aY,c⟩);case round =>
       clear c;obtain⟨k,A,B,rfl,c⟩:=hrel;by_cases F:k<=j
       case' pos =>
        have e:(k:Int)<=(j:Int):=Z;have g:(k:Int)<(N:Int):=Z;have K:(a:Int)<(N:Int):=Z;obtain⟨x,l⟩:=c.at (show k<N by omega);obtain⟨y,n⟩:=c.at (show a<N by omega);cases q:aQ x y
        all_goals
         go_upto_region 13 with fail
         go_quiet (first|(go_at_call 202;exact GW (cF q _)))
         have f:=H (c.dN nq)
         clear c l n q
         generalize wr.drewN nq=L at f ⊢
        rotate_left
        ·go_wp2;go_roundw;(case rel=>exact ⟨k+1,Z,Z,aY,f⟩);case measure=>simp [intOf];omega
       case' neg =>
        have e:decide ((k:Int)<=(j:Int))=false:=GR Z;(go_upto_region 13 with fail);go_quiet (fail);have f:=H (c.dN nq);clear c;generalize wr.drewN nq=L at f ⊢
       all_goals
        go_wp2_with fail
        go_meet
        case rel=>exact ⟨k,A,B,rfl,f⟩
     case rest =>
      obtain⟨I2,Q,R,rfl,c⟩:=hcut;(go_upto_block 8 with fail);go_cut [11] from 115 to 131 (λs z=>∃ d:Nat,a<=d/\d<=j/\s=.int .i64 d/\Hid (AnyU G N cp V0 z))
      case first =>
       go_wp2_with fail;go_loopw [11] (λs wr=>∃ k:Nat,a<=k/\k<=j/\s=.int .i64 k/\Hid (AnyU G N cp V0 wr)) (λs _=>(intOf s).toNat);(case atStart=>exact ⟨j,Z,Z,aY,c⟩);case round =>
        clear c;obtain⟨k,A,B,rfl,c⟩:=hrel;by_cases F:I2<=k
        case' pos =>
         obtain⟨m,O⟩:∃ m,k=m+1:=⟨k-1,Z⟩;have e:(I2:Int)<=(k:Int):=Z;have v:(k:Int)-1=(m:Int):=Z;have g:(k:Int)<(N:Int):=Z;have K:(a:Int)<(N:Int):=Z;obtain⟨x,l⟩:=c.at (show k<N by omega);obtain⟨y,n⟩:=c.at (show a<N by omega);clear O;cases q:aQ x y
         all_goals
          go_upto_region 15 with fail
          go_quiet (first|(go_at_call 202;exact GW (cF q _)))
          have f:=H (c.dN nq)
          clear c l n q
          generalize wr.drewN nq=L at f ⊢
         ·go_wp2;go_roundw;(case rel=>exact ⟨m,Z,Z,aY,f⟩);case measure=>simp [intOf];omega
        case' neg =>
         have e:decide ((I2:Int)<=(k:Int))=false:=GR Z;(go_upto_region 15 with fail);go_quiet (fail);have f:=H (c.dN nq);clear c;generalize wr.drewN nq=L at f ⊢
        all_goals
         go_wp2_with fail
         go_meet
         case rel=>exact ⟨k,A,B,rfl,f⟩
      case rest =>
       obtain⟨d,S,T,rfl,c⟩:=hcut;by_cases W:I2 > d
       ·have w:(d:Int)<(I2:Int):=Z;have g:(d:Int)<(N:Int):=Z;have o:(a:Int)<(N:Int):=Z;obtain⟨x,y,u,l,n,f1,t,f0,p⟩:=c.sw (show d<N by omega) (show a<N by omega);clear c;(go_upto_region 21 with fail);go_region;clear l n f1 t f0;go_wp2;refine GX (b_ rfl _ _) rfl ?_;exact⟨d,_,rfl,Z,p⟩
       ·have w:¬((d:Int)<(I2:Int)):=Z;obtain⟨m,O⟩:∃ m,d-1=m:=⟨_,rfl⟩;have v:(d:Int)-1=(m:Int):=Z;have g:(I2:Int)<(N:Int):=Z;have o:(d:Int)<(N:Int):=Z;obtain⟨x,y,u,l,n,f1,t,f0,p⟩:=c.sw (show I2<N by omega) (show d<N by omega);clear c;(go_upto_region 18 with fail);go_region;clear l n f1 t f0;go_wp2;go_roundw;(case rel=>exact ⟨I2+1,m,Z,Z,Z,Z,aY,aY,p⟩);case measure=>simp [intOf];omega
end
end Go.Proofs.YtibblbenmpcplaaGreatDoor
