import Derived.Test.YtdhegekcmmlohaaGreatDoorM17
set_option linter.unusedVariables false
set_option linter.unusedSimpArgs false
set_option maxRecDepth 20000
set_option maxHeartbeats 8000000
namespace Go.Proofs.YtdhegekcmmlohaaGreatDoor
open Go.Proofs.Tryz Go.RowKit Go.Maps Go.Shelf Go.ChangeShapes Go.WideShapes Go.ChangeAt
theorem zH (G N cp)(a b:Nat)(V0 V)(A:AnyU G N cp V0 V)(a5:a<b)(hb:b<=N)(hN:N<=100000):
  QA 279 #[.slice (some (Qz G 0)) N cp,I a,I b] V λr V'=>∃q,r=QJ (.bool q)/\AnyU G N cp V0 V':=by
 have c:=H A;clear A;go_enter func279,ntmps279;go_wp2_with fail;go_loopw [7,8] (λp M wr=>∃t i:Nat,t<=5/\a+1<=i/\i<=b/\p=I i/\M=I t/\Hid (AnyU G N cp V0 wr)) (λ_ M _=>6-(intOf M).toNat);case atStart=>exact⟨0,a+1,Z,Z,Z,aY,rfl,c⟩
 case round=>
  clear c;obtain⟨t,i,ht,O,P,rfl,rfl,c⟩:=hrel;by_cases a6:t<5
  ·have a7:(t:Int)<5:=Z;(go_upto_block 2 with fail);go_cut [7]from 13 to 132 (λp Q=>∃I1:Nat,a+1<=I1/\I1<=b/\p=I I1/\Hid (AnyU G N cp V0 Q))
   case first=>
    go_wp2_with fail;go_loopw [7] (λp wr=>∃i:Nat,a+1<=i/\i<=b/\p=I i/\Hid (AnyU G N cp V0 wr)) (λp _=>b+1-(intOf p).toNat);(case atStart=>exact⟨i,O,P,rfl,c⟩);case round=>
     clear c;obtain⟨j,q,s,rfl,c⟩:=hrel;by_cases R:j<b
     ·obtain⟨k,S⟩:∃k,j=k+1:=⟨j-1,Z⟩;have g:(j:Int)<(b:Int):=Z;have T:(j:Int)-1=(k:Int):=Z;have z:(j:Int)<(N:Int):=Z;have W:(k:Int)<(N:Int):=Z;have⟨x,e⟩:=c.at (show j<N by omega);have⟨y,f⟩:=c.at (show k<N by omega);clear S;cases o:aQ x y
      all_goals
       go_upto_region 5 with fail
       go_quiet (first|(go_at_call 280;exact GW (jN o _)))
       have d:=H (c.dN nq)
       clear c e f o
       generalize wr.drewN nq=X at d⊢
      ·go_wp2;go_roundw;(case rel=>exact⟨j+1,Z,Z,aY,d⟩);case measure=>exact QE
      ·go_wp2_with fail;go_meet;case rel=>exact⟨j,q,s,rfl,d⟩
     ·have g:decide ((j:Int)<(b:Int))=false:=GR Z;(go_upto_region 5 with fail);go_quiet (fail);have d:=H (c.dN nq);clear c;generalize wr.drewN nq=X at d⊢;go_wp2_with fail;go_meet;case rel=>exact⟨j,q,s,rfl,d⟩
   case rest=>
    obtain⟨I1,r1,r2,rfl,c⟩:=hcut;by_cases a8:I1=b
    ·have Y:(I1:Int)=(b:Int):=Z;go_wp2
     first|go_ret|((try simp only[Exit.inBlock,Exit.then]);go_ret)
     exact⟨_,rfl,c⟩
    ·have Y:¬((I1:Int)=(b:Int)):=Z;have⟨L,hL⟩:=Qa (b-a);have a9:(b:Int)-(a:Int)=(L:Int):=Z;by_cases b0:b-a<50
     ·have a0:(L:Int)<50:=Z;go_wp2
      first|go_ret|((try simp only[Exit.inBlock,Exit.then]);go_ret)
      exact⟨_,rfl,c⟩
     ·have a0:¬((L:Int)<50):=Z;have⟨k,S⟩:=Qa (I1-1);have T:(I1:Int)-1=(k:Int):=Z;have b1:(I1:Int)<(N:Int):=Z;have W:(k:Int)<(N:Int):=Z;have⟨x,y,u,e,f,f1,A,f0,l⟩:=c.sw (show I1<N by omega) (show k<N by omega);clear c S hL;(go_upto_region 11 with fail);go_region;clear e f f1 A f0;generalize World.drew _=w9 at l⊢;have⟨B,b2⟩:=Qa (I1-a);have a3:(I1:Int)-(a:Int)=(B:Int):=Z;have⟨F,b3⟩:=Qa (b-I1);have a4:(b:Int)-(I1:Int)=(F:Int):=Z;(go_upto_if 61 with fail);go_cut [9]from 13 to 132 (λK Q=>Hid (AnyU G N cp V0 Q))
      case first=>
       by_cases h2:I1-a≥2
       ·have v:(2:Int)<=(B:Int):=Z;go_wp2_with fail;go_loopw [9] (λK wr=>∃j:Nat,j<=k/\K=I j/\Hid (AnyU G N cp V0 wr)) (λK _=>(intOf K).toNat);(case atStart=>exact⟨k,Fv _,aY,l⟩);case round=>
         clear l;obtain⟨j,w,rfl,c⟩:=hrel;cases j with
         |zero=>
          go_wp2_with fail;go_meet;case rel=>exact c
         | succ m=>
          have⟨j,n⟩:=Qa (m+1);rw[n]at w⊢;have g:(1:Int)<=(j:Int):=Z;have a1:(j:Int)-1=(m:Int):=Z;have z:(j:Int)<(N:Int):=Z;have a2:(m:Int)<(N:Int):=Z;have⟨x,e⟩:=c.at (show j<N by omega);have⟨y,f⟩:=c.at (show m<N by omega);clear n;cases o:aQ x y
          all_goals
           go_upto_region 16 with fail
           go_quiet (first|(go_at_call 280;exact GW (jN o _)))
           have d:=H (c.dN nq)
           clear c e f o
           generalize wr.drewN nq=X at d⊢
          ·go_wp2_with fail;go_meet;case rel=>exact d
          ·have⟨x,y,u,e,f,f1,A,f0,l⟩:=d.sw (show j<N by omega) (show m<N by omega);(go_upto_region 17 with fail);go_region;clear e f f1 A f0;go_wp2;go_roundw;(case rel=>exact⟨m,Z,aY,l⟩);case measure=>exact QE
       ·have v:¬((2:Int)<=(B:Int)):=Z;go_wp2_with fail;go_meet;case rel=>exact l
      case rest=>
       have d:=hcut;clear hcut l;by_cases h2:b-I1≥2
       case' neg=>
        have v:¬((2:Int)<=(F:Int)):=Z
       case' pos=>
        have v:(2:Int)<=(F:Int):=Z;go_wp2_with fail;go_loopw [10] (λw wr=>∃j:Nat,I1+1<=j/\j<=b/\w=I j/\Hid (AnyU G N cp V0 wr)) (λw _=>b+1-(intOf w).toNat);(case atStart=>exact⟨I1+1,Fv _,Z,aY,d⟩);clear d;obtain⟨j,q,s,rfl,c⟩:=hrel;by_cases R:j<b
        case' pos=>
         have⟨m,n⟩:=Qa (j-1);have g:(j:Int)<(b:Int):=Z;have a1:(j:Int)-1=(m:Int):=Z;have z:(j:Int)<(N:Int):=Z;have a2:(m:Int)<(N:Int):=Z;have⟨x,e⟩:=c.at (show j<N by omega);have⟨y,f⟩:=c.at (show m<N by omega);clear n;cases o:aQ x y
         all_goals
          go_upto_region 22 with fail
          go_quiet (first|(go_at_call 280;exact GW (jN o _)))
          have d:=H (c.dN nq)
          clear c e f o
          generalize wr.drewN nq=X at d⊢
         rotate_left
         ·have⟨x,y,u,e,f,f1,A,f0,l⟩:=d.sw (show j<N by omega) (show m<N by omega);(go_upto_region 23 with fail);go_region;clear e f f1 A f0;go_wp2;go_roundw;(case rel=>exact⟨j+1,Z,Z,aY,l⟩);case measure=>exact QE
        case' neg=>
         have g:¬((j:Int)<(b:Int)):=Z;have d:=c
       all_goals
        go_wp2
        go_roundw
        case rel=>exact⟨t+1,I1,Z,Z,Z,aY,aY,d⟩
        case measure=>exact QE
  ·obtain rfl:t=5:=Z;go_wp2
   first|go_ret|((try simp only[Exit.inBlock,Exit.then]);go_ret)
   exact⟨_,rfl,c⟩
theorem Ca(G N cp)(a b o:Nat)(V0 V)(A:AnyU G N cp V0 V)(h1:a<=o)(h2:o<b)(hb:b<=N)(hN:N<=100000):
  QA 281 #[.slice (some (Qz G 0)) N cp,I a,I b,I o] V λr S=>∃i:Nat,r=QJ (I i)/\(a+1<=i/\i<=b)/\AnyU G N cp V0 S:=by
 have⟨t,T⟩:=Qa (b-1);have Q:(b:Int)-1=(t:Int):=Z;have c:=H A;clear A;go_enter func281,ntmps281;have g:(a:Int)<(N:Int):=Z;have p:(o:Int)<(N:Int):=Z;have⟨x,y,u,l,n,f1,w,f0,v⟩:=c.sw (show a<N by omega) (show o<N by omega);go_upto_region 1 with fail
 go_region;clear l n f1 w f0;go_wp2_with fail;go_loopw [9,10] (λz d wr=>∃i j:Nat,a+1<=i/\i<=b/\a<=j/\j<b/\z=I i/\d=I j/\Hid (AnyU G N cp V0 wr)) (λz _ _=>b+1-(intOf z).toNat);case atStart=>exact⟨a+1,t,Z,Z,Z,Z,aY,rfl,v⟩
 case round=>
  clear v g p;obtain⟨i,j,W,X,Y,hj,rfl,rfl,c⟩:=hrel;go_upto_block 2 with fail
  go_cut [9]from 29 to 45 (λs A=>∃I2:Nat,i<=I2/\I2<=b/\s=I I2/\Hid (AnyU G N cp V0 A))
  case first=>
   go_wp2_with fail;go_loopw [9] (λs wr=>∃k:Nat,i<=k/\k<=b/\s=I k/\Hid (AnyU G N cp V0 wr)) (λs _=>b+1-(intOf s).toNat);(case atStart=>exact⟨i,Z,Z,aY,c⟩);case round=>
    clear c;obtain⟨k,B,F,rfl,c⟩:=hrel;by_cases K:k<=j
    case' pos=>
     have d:(k:Int)<=(j:Int):=Z;have g:(k:Int)<(N:Int):=Z;have L:(a:Int)<(N:Int):=Z;have⟨x,l⟩:=c.at (show k<N by omega);have⟨y,n⟩:=c.at (show a<N by omega);cases q:aQ y x
     all_goals
      go_upto_region 3 with fail
      go_quiet (first|(go_at_call 280;exact GW (jN q _)))
      have e:=H (c.dN nq)
      clear c l n q
      generalize wr.drewN nq=M at e⊢
     ·go_wp2;go_roundw;(case rel=>exact⟨k+1,Z,Z,aY,e⟩);case measure=>exact QE
    case' neg=>
     have d:decide ((k:Int)<=(j:Int))=false:=GR Z;(go_upto_region 3 with fail);go_quiet (fail);have e:=H (c.dN nq);clear c;generalize wr.drewN nq=M at e⊢
    all_goals
     go_wp2_with fail
     go_meet
     case rel=>exact⟨k,B,F,rfl,e⟩
  case rest=>
   obtain⟨I2,a0,a1,rfl,c⟩:=hcut;(go_upto_block 4 with fail);go_cut [10]from 46 to 61 (λs A=>∃f:Nat,a<=f/\f<=j/\s=I f/\Hid (AnyU G N cp V0 A))
   case first=>
    go_wp2_with fail;go_loopw [10] (λs wr=>∃k:Nat,a<=k/\k<=j/\s=I k/\Hid (AnyU G N cp V0 wr)) (λs _=>(intOf s).toNat);(case atStart=>exact⟨j,Z,Z,aY,c⟩);case round=>
     clear c;obtain⟨k,B,F,rfl,c⟩:=hrel;by_cases K:I2<=k
     case' pos=>
      obtain⟨m,R⟩:∃m,k=m+1:=⟨k-1,Z⟩;have d:(I2:Int)<=(k:Int):=Z;have O:(k:Int)-1=(m:Int):=Z;have g:(k:Int)<(N:Int):=Z;have L:(a:Int)<(N:Int):=Z;have⟨x,l⟩:=c.at (show k<N by omega);have⟨y,n⟩:=c.at (show a<N by omega);clear R;cases q:aQ y x
      all_goals
       go_upto_region 5 with fail
       go_quiet (first|(go_at_call 280;exact GW (jN q _)))
       have e:=H (c.dN nq)
       clear c l n q
       generalize wr.drewN nq=M at e⊢
      rotate_left
      ·go_wp2;go_roundw;(case rel=>exact⟨m,Z,Z,aY,e⟩);case measure=>exact QE
     case' neg=>
      have d:decide ((I2:Int)<=(k:Int))=false:=GR Z;(go_upto_region 5 with fail);go_quiet (fail);have e:=H (c.dN nq);clear c;generalize wr.drewN nq=M at e⊢
     all_goals
      go_wp2_with fail
      go_meet
      case rel=>exact⟨k,B,F,rfl,e⟩
   case rest=>
    obtain⟨f,a2,a3,rfl,c⟩:=hcut;by_cases a4:I2 > f
    ·have P:(f:Int)<(I2:Int):=Z;go_wp2
     first|go_ret|((try simp only[Exit.inBlock,Exit.then]);go_ret)
     exact⟨I2,rfl,Z,c⟩
    ·have P:¬((f:Int)<(I2:Int)):=Z;have⟨m,R⟩:=Qa (f-1);have O:(f:Int)-1=(m:Int):=Z;have g:(I2:Int)<(N:Int):=Z;have p:(f:Int)<(N:Int):=Z;have⟨x,y,u,l,n,f1,w,f0,v⟩:=c.sw (show I2<N by omega) (show f<N by omega);clear c;(go_upto_region 8 with fail);go_region;clear l n f1 w f0;go_wp2;go_roundw;(case rel=>exact⟨I2+1,m,Z,Z,Z,Z,aY,aY,v⟩);case measure=>exact QE
theorem zd(G N cp)(a b P:Nat)(V0 V)(A:AnyU G N cp V0 V)(h1:a<=P)(h2:P<b)(hb:b<=N)(hN:N<=100000):
  QA 282 #[.slice (some (Qz G 0)) N cp,I a,I b,I P] V λr V'=>∃(i:Nat)(q:Bool),r=QJ (.tuple #[I i,.bool q])/\(a<=i/\i<b)/\AnyU G N cp V0 V':=by
 have⟨i,hi⟩:=Qa (a+1);have⟨j,hj⟩:=Qa (b-1);have X:(a:Int)+1=(i:Int):=Z;have Y:(b:Int)-1=(j:Int):=Z;have c:=H A;clear A;go_enter func282,ntmps282;have g:(a:Int)<(N:Int):=Z;have o:(P:Int)<(N:Int):=Z;have⟨x,y,u,l,n,f1,t,f0,p⟩:=c.sw (show a<N by omega) (show P<N by omega);go_upto_region 1 with fail
 go_region;clear l n f1 t f0;generalize World.drew _=w0 at p⊢;have c:=p;clear p g o;go_upto_block 0 with fail
 go_cut [10]from 30 to 45 (λs z=>∃I2:Nat,i<=I2/\I2<=b/\s=I I2/\Hid (AnyU G N cp V0 z))
 case first=>
  go_wp2_with fail;go_loopw [10] (λs wr=>∃k:Nat,i<=k/\k<=b/\s=I k/\Hid (AnyU G N cp V0 wr)) (λs _=>b+1-(intOf s).toNat);case atStart=>exact⟨i,Z,Z,aY,c⟩
  case round=>
   clear c;obtain⟨k,A,B,rfl,c⟩:=hrel;by_cases F:k<=j
   case' pos=>
    have e:(k:Int)<=(j:Int):=Z;have g:(k:Int)<(N:Int):=Z;have K:(a:Int)<(N:Int):=Z;have⟨x,l⟩:=c.at (show k<N by omega);have⟨y,n⟩:=c.at (show a<N by omega);cases q:aQ x y
    all_goals
     go_upto_region 3 with fail
     go_quiet (first|(go_at_call 280;exact GW (jN q _)))
     have f:=H (c.dN nq)
     clear c l n q
     generalize wr.drewN nq=L at f⊢
    rotate_left
    ·go_wp2;go_roundw;(case rel=>exact⟨k+1,Z,Z,aY,f⟩);case measure=>exact QE
   case' neg=>
    have e:decide ((k:Int)<=(j:Int))=false:=GR Z;(go_upto_region 3 with fail);go_quiet (fail);have f:=H (c.dN nq);clear c;generalize wr.drewN nq=L at f⊢
   all_goals
    go_wp2_with fail
    go_meet
    case rel=>exact⟨k,A,B,rfl,f⟩
 case rest=>
  obtain⟨I2,Q,R,rfl,c⟩:=hcut;go_upto_block 2 with fail
  go_cut [11]from 46 to 62 (λs z=>∃d:Nat,a<=d/\d<=j/\s=I d/\Hid (AnyU G N cp V0 z))
  case first=>
   go_wp2_with fail;go_loopw [11] (λs wr=>∃k:Nat,a<=k/\k<=j/\s=I k/\Hid (AnyU G N cp V0 wr)) (λs _=>(intOf s).toNat);(case atStart=>exact⟨j,Z,Z,aY,c⟩);case round=>
    clear c;obtain⟨k,A,B,rfl,c⟩:=hrel;by_cases F:I2<=k
    case' pos=>
     obtain⟨m,O⟩:∃m,k=m+1:=⟨k-1,Z⟩;have e:(I2:Int)<=(k:Int):=Z;have v:(k:Int)-1=(m:Int):=Z;have g:(k:Int)<(N:Int):=Z;have K:(a:Int)<(N:Int):=Z;have⟨x,l⟩:=c.at (show k<N by omega);have⟨y,n⟩:=c.at (show a<N by omega);clear O;cases q:aQ x y
     all_goals
      go_upto_region 5 with fail
      go_quiet (first|(go_at_call 280;exact GW (jN q _)))
      have f:=H (c.dN nq)
      clear c l n q
      generalize wr.drewN nq=L at f⊢
     ·go_wp2;go_roundw;(case rel=>exact⟨m,Z,Z,aY,f⟩);case measure=>exact QE
    case' neg=>
     have e:decide ((I2:Int)<=(k:Int))=false:=GR Z;(go_upto_region 5 with fail);go_quiet (fail);have f:=H (c.dN nq);clear c;generalize wr.drewN nq=L at f⊢
    all_goals
     go_wp2_with fail
     go_meet
     case rel=>exact⟨k,A,B,rfl,f⟩
  case rest=>
   obtain⟨d,S,T,rfl,c⟩:=hcut;by_cases W:I2 > d
   ·have w:(d:Int)<(I2:Int):=Z;have g:(d:Int)<(N:Int):=Z;have o:(a:Int)<(N:Int):=Z;have⟨x,y,u,l,n,f1,t,f0,p⟩:=c.sw (show d<N by omega) (show a<N by omega);clear c;(go_upto_region 8 with fail);go_region;clear l n f1 t f0;go_wp2;refine GX (b_ rfl _ _) rfl ?_;exact⟨d,_,rfl,Z,p⟩
   ·have w:¬((d:Int)<(I2:Int)):=Z;have⟨m,O⟩:=Qa (d-1);have v:(d:Int)-1=(m:Int):=Z;have g:(I2:Int)<(N:Int):=Z;have o:(d:Int)<(N:Int):=Z;have⟨x,y,u,l,n,f1,t,f0,p⟩:=c.sw (show I2<N by omega) (show d<N by omega);clear c;(go_upto_region 10 with fail);go_region;clear l n f1 t f0;go_wp2_with fail;go_loopw [10,11] (λM r wr=>∃i j:Nat,a+1<=i/\i<=b/\a<=j/\j<b/\M=I i/\r=I j/\Hid (AnyU G N cp V0 wr)) (λM _ _=>b+1-(intOf M).toNat);(case atStart=>exact⟨I2+1,m,Z,Z,Z,Z,aY,aY,p⟩);case round=>
     clear p X Y v hi hj g o O Q R S T W w;obtain⟨i,j,a0,a1,a2,hj,rfl,rfl,c⟩:=hrel;(go_upto_block 6 with fail);go_cut [10]from 99 to 114 (λs z=>∃I2:Nat,i<=I2/\I2<=b/\s=I I2/\Hid (AnyU G N cp V0 z))
     case first=>
      go_wp2_with fail;go_loopw [10] (λs wr=>∃k:Nat,i<=k/\k<=b/\s=I k/\Hid (AnyU G N cp V0 wr)) (λs _=>b+1-(intOf s).toNat);(case atStart=>exact⟨i,Z,Z,aY,c⟩);case round=>
       clear c;obtain⟨k,A,B,rfl,c⟩:=hrel;by_cases F:k<=j
       case' pos=>
        have e:(k:Int)<=(j:Int):=Z;have g:(k:Int)<(N:Int):=Z;have K:(a:Int)<(N:Int):=Z;have⟨x,l⟩:=c.at (show k<N by omega);have⟨y,n⟩:=c.at (show a<N by omega);cases q:aQ x y
        all_goals
         go_upto_region 13 with fail
         go_quiet (first|(go_at_call 280;exact GW (jN q _)))
         have f:=H (c.dN nq)
         clear c l n q
         generalize wr.drewN nq=L at f⊢
        rotate_left
        ·go_wp2;go_roundw;(case rel=>exact⟨k+1,Z,Z,aY,f⟩);case measure=>exact QE
       case' neg=>
        have e:decide ((k:Int)<=(j:Int))=false:=GR Z;(go_upto_region 13 with fail);go_quiet (fail);have f:=H (c.dN nq);clear c;generalize wr.drewN nq=L at f⊢
       all_goals
        go_wp2_with fail
        go_meet
        case rel=>exact⟨k,A,B,rfl,f⟩
     case rest=>
      obtain⟨I2,Q,R,rfl,c⟩:=hcut;(go_upto_block 8 with fail);go_cut [11]from 115 to 131 (λs z=>∃d:Nat,a<=d/\d<=j/\s=I d/\Hid (AnyU G N cp V0 z))
      case first=>
       go_wp2_with fail;go_loopw [11] (λs wr=>∃k:Nat,a<=k/\k<=j/\s=I k/\Hid (AnyU G N cp V0 wr)) (λs _=>(intOf s).toNat);(case atStart=>exact⟨j,Z,Z,aY,c⟩);case round=>
        clear c;obtain⟨k,A,B,rfl,c⟩:=hrel;by_cases F:I2<=k
        case' pos=>
         obtain⟨m,O⟩:∃m,k=m+1:=⟨k-1,Z⟩;have e:(I2:Int)<=(k:Int):=Z;have v:(k:Int)-1=(m:Int):=Z;have g:(k:Int)<(N:Int):=Z;have K:(a:Int)<(N:Int):=Z;have⟨x,l⟩:=c.at (show k<N by omega);have⟨y,n⟩:=c.at (show a<N by omega);clear O;cases q:aQ x y
         all_goals
          go_upto_region 15 with fail
          go_quiet (first|(go_at_call 280;exact GW (jN q _)))
          have f:=H (c.dN nq)
          clear c l n q
          generalize wr.drewN nq=L at f⊢
         ·go_wp2;go_roundw;(case rel=>exact⟨m,Z,Z,aY,f⟩);case measure=>exact QE
        case' neg=>
         have e:decide ((I2:Int)<=(k:Int))=false:=GR Z;(go_upto_region 15 with fail);go_quiet (fail);have f:=H (c.dN nq);clear c;generalize wr.drewN nq=L at f⊢
        all_goals
         go_wp2_with fail
         go_meet
         case rel=>exact⟨k,A,B,rfl,f⟩
      case rest=>
       obtain⟨d,S,T,rfl,c⟩:=hcut;by_cases W:I2 > d
       ·have w:(d:Int)<(I2:Int):=Z;have g:(d:Int)<(N:Int):=Z;have o:(a:Int)<(N:Int):=Z;have⟨x,y,u,l,n,f1,t,f0,p⟩:=c.sw (show d<N by omega) (show a<N by omega);clear c;(go_upto_region 21 with fail);go_region;clear l n f1 t f0;go_wp2;refine GX (b_ rfl _ _) rfl ?_;exact⟨d,_,rfl,Z,p⟩
       ·have w:¬((d:Int)<(I2:Int)):=Z;have⟨m,O⟩:=Qa (d-1);have v:(d:Int)-1=(m:Int):=Z;have g:(I2:Int)<(N:Int):=Z;have o:(d:Int)<(N:Int):=Z;have⟨x,y,u,l,n,f1,t,f0,p⟩:=c.sw (show I2<N by omega) (show d<N by omega);clear c;(go_upto_region 18 with fail);go_region;clear l n f1 t f0;go_wp2;go_roundw;(case rel=>exact⟨I2+1,m,Z,Z,Z,Z,aY,aY,p⟩);case measure=>exact QE
theorem Og (G) (N:Nat) (cp V0)(z:N<=100000):∀(n P F k:Nat)(V:QM),F-P<n->AnyU G N cp V0 V->P<=F->F<=N->k<=100 ->
    QA 229 #[.slice (some (Qz G 0)) N cp,I P,I F,I k] V λr V'=>r=QJ (.tuple #[])/\AnyU G N cp V0 V':=by
  intro n;induction n with
  |zero=>intro _ _ _ _ h;exact absurd h (Nat.not_lt_zero _)
  | succ n a =>
    intro P F k V hn A a4 hb S;have⟨IH,o⟩:=y7 a A;go_enter func229,ntmps229;go_wp2_with fail;go_loopw [1,2,3,8,9] (λs1 s2 s3 c d wr=>∃(a b i:Nat)(T wp:Bool),s1=I a/\s2=I b/\s3=I i/\c=.bool T/\d=.bool wp/\a<=b/\b<=F/\P<=a/\i<=100/\Hid (AnyU G N cp V0 wr)) (λs1 s2 _ _ _ _=>(intOf s2-intOf s1).toNat);(case atStart=>exact⟨P,F,k,true,true,rfl,rfl,rfl,rfl,rfl,a4,Fv _,Fv _,S,o⟩);case round=>
      obtain⟨a,b,i,T,wp,rfl,rfl,rfl,rfl,rfl,a8,b8,b9,a5,o⟩:=hrel;have⟨L,hL⟩:=Qa (b-a);have c0:(b:Int)-(a:Int)=(L:Int):=Z;by_cases c1:L<=12
      · have W:(L:Int)<=12:=by omega
        go_wp2_with fail
        refine(Bj G N cp a b V0 _ o Z z Z).mono ?_
        rintro e X⟨rfl,f⟩
        have s:=H f
        clear f o
        go_wp2
        first|go_end0|((try simp only[Exit.inBlock,Exit.then]);refine GX (Ir rfl _ _ _) rfl ?_)
        exact⟨rfl,s⟩
      · have W:¬((L:Int)<=12):=by omega
        by_cases a6:i=0
        · subst a6
          go_wp2_with fail
          refine(zX G N cp a b V0 _ o Z Z z).mono ?_
          rintro e X⟨rfl,f⟩
          have s:=H f
          clear f o
          go_wp2
          first|go_end0|((try simp only[Exit.inBlock,Exit.then]);refine GX (Ir rfl _ _ _) rfl ?_)
          exact⟨rfl,s⟩
        · have a9:¬((i:Int)=0):=by omega
          go_upto_if 35 with fail
          go_cut [3]from 19 to 133 (λs3 t=>∃c:Nat,s3=I c/\c<=100/\Hid (AnyU G N cp V0 t))
          case first=>
            cases T
            · obtain⟨c,d⟩:∃c,i-1=c:=⟨_,rfl⟩
              have g:(i:Int)-1=(c:Int):=Z
              go_wp2_with fail
              refine(yo G N cp a b V0 _ o Z Z z).mono ?_
              rintro e X⟨rfl,f⟩
              have s:=H f
              clear f o
              go_wp2_with fail
              go_meet
              case rel=>exact⟨c,rfl,Z,s⟩
            · go_wp2_with fail
              go_meet
              case rel=>exact⟨i,rfl,a5,o⟩
          case rest =>
            obtain⟨c,rfl,d,g⟩:=hcut;(go_upto_region 10 with fail);go_wp2_with fail;refine(yj G N cp a b V0 _ g Z Z z).mono ?_;rintro e X⟨pv,K,rfl,M,Y,f⟩;have u:=H f;(go_upto_if 50 with fail);go_cut [11,12]from 19 to 133 (λg O t=>∃j l:Nat,g=I j/\O=I l/\a<=j/\j<b/\l<=2/\Hid (AnyU G N cp V0 t))
            case first=>
              by_cases q:K=2
              · subst q
                have⟨g,v⟩:=Qa (b-1)
                have⟨m,w⟩:=Qa (pv-a)
                have⟨p,x⟩:=Qa (g-m)
                have y:(b:Int)-1=(g:Int):=Z
                have A:(pv:Int)-(a:Int)=(m:Int):=Z
                have B:(g:Int)-(m:Int)=(p:Int):=Z
                go_wp2_with fail
                refine(Bg G N cp a b V0 _ u Z Z z).mono ?_
                rintro e X⟨rfl,f⟩
                have s:=H f
                clear f u
                go_wp2_with fail
                go_meet
                case rel=>exact⟨p,1,rfl,aY,Z,Z,Z,s⟩
              · have g:¬((K:Int)=2):=by omega
                go_wp2_with fail
                go_meet
                case rel=>exact⟨pv,K,rfl,rfl,M.1,M.2,Y,u⟩
            case rest =>
              obtain⟨j,l,rfl,rfl,A,B,b2,a2⟩:=hcut;(go_upto_region 15 with fail);go_cut [12,68]from 19 to 133 (λO g t=>∃bb:Bool,O=I l/\g=.bool bb/\Hid (AnyU G N cp V0 t))
              case first=>
                by_cases g:l=1
                case' pos=>subst g
                case' neg=>have m:¬((l:Int)=1):=Z
                all_goals
                  cases T<;>cases wp<;>
                    (go_wp2_with fail
                     go_meet
                     exact⟨_,rfl,rfl,a2⟩)
              case rest =>
                obtain⟨bb,rfl,rfl,v⟩:=hcut;(go_upto_if 68 with fail);go_cut []from 19 to 133 (λt=>Hid (AnyU G N cp V0 t))
                case first=>
                  cases bb
                  · go_wp2_with fail
                    go_meet
                    case rel=>exact v
                  · go_wp2_with fail
                    refine(zH G N cp a b V0 _ v Z Z z).mono ?_
                    rintro e X⟨g,rfl,f⟩
                    have s:=H f
                    clear f v
                    cases g
                    · go_wp2_with fail
                      go_meet
                      case rel=>exact s
                    · go_wp2
                      first|go_end0|((try simp only[Exit.inBlock,Exit.then]);refine GX (Ir rfl _ _ _) rfl ?_)
                      exact⟨rfl,s⟩
                case rest=>
                  have p:=hcut;have⟨y,xp⟩:=p.at (show j<N by omega);have c2:(j:Int)<(N:Int):=Z;(go_upto_region 17 with fail);go_cut [87]from 19 to 133 (λg t=>∃q,g=.bool q/\Hid (AnyU G N cp V0 t))
                  case first=>
                    by_cases a3:a > 0
                    · obtain⟨g,w⟩:∃g,a-1=g:=⟨_,rfl⟩
                      have m:(0:Int)<(a:Int):=Z
                      have Q:(a:Int)-1=(g:Int):=Z
                      have R:(g:Int)<(N:Int):=Z
                      have⟨x,xa⟩:=p.at (show g<N by omega)
                      clear w
                      cases w:aQ x y
                      all_goals
                        go_quiet (first|(go_at_call 280;exact GW (jN w _)))
                        have f:=H (p.dN nq)
                        go_wp2_with fail
                        go_meet
                        case rel=>exact⟨_,rfl,f⟩
                    · have m:decide ((0:Int)<(a:Int))=false:=GR Z
                      go_quiet (fail)
                      have f:=H (p.dN nq)
                      go_wp2_with fail
                      go_meet
                      case rel=>exact⟨_,rfl,f⟩
                  case rest=>
                    obtain⟨q,rfl,w⟩:=hcut;cases q
                    · go_upto_region 20 with fail
                      go_wp2_with fail
                      refine(zd G N cp a b j V0 _ w A B Z z).mono ?_
                      rintro e w7⟨g,ap,rfl,a3,A7⟩
                      have m:=H A7
                      have⟨Q,c3⟩:=Qa (g-a)
                      have⟨R,c4⟩:=Qa (b-g)
                      have⟨l8,c5⟩:=Qa (L/8)
                      have b3:(g:Int)-(a:Int)=(Q:Int):=Z
                      have b4:(b:Int)-(g:Int)=(R:Int):=Z
                      have b5:(L:Int).tdiv 8=(l8:Int):=by rw[Ig Z];omega
                      have b6:(L:Int)/8=(l8:Int):=Z
                      have⟨m1,c6⟩:=Qa (g+1)
                      have b7:(g:Int)+1=(m1:Int):=Z
                      clear A7 w
                      by_cases h4:Q<R
                      · have a7:(Q:Int)<(R:Int):=by omega
                        go_wp2_with fail
                        refine(IH a g c w7 Z m Z Z d).mono ?_
                        rintro e w8⟨rfl,A8⟩
                        have x:=H A8
                        clear A8 m
                        go_wp2
                        go_roundw
                        case rel=>exact⟨m1,b,c,_,ap,aY,rfl,rfl,rfl,rfl,Z,Z,Z,d,x⟩
                        case measure=>exact QE
                      · have a7:¬((Q:Int)<(R:Int)):=by omega
                        go_wp2_with fail
                        refine(IH m1 b c w7 Z m Z Z d).mono ?_
                        rintro e w8⟨rfl,A8⟩
                        have x:=H A8
                        clear A8 m
                        go_wp2
                        go_roundw
                        case rel=>exact⟨a,g,c,_,ap,rfl,rfl,rfl,rfl,rfl,Z,Z,Z,d,x⟩
                        case measure=>exact QE
                    · go_wp2_with fail
                      refine(Ca G N cp a b j V0 _ w A B Z z).mono ?_
                      rintro e w7⟨g,rfl,a3,A7⟩
                      have m:=H A7
                      clear A7 w
                      go_wp2
                      go_roundw
                      case rel=>exact⟨g,b,c,T,wp,rfl,rfl,rfl,rfl,rfl,Z,Z,Z,d,m⟩
                      case measure=>exact QE
theorem wd(n:Nat)(b:n<18446744073709551616)(w:QM):QA 225 #[U n] w λe a=>e=QJ (I (Sort.bitsLen n:Nat))/\a=w:=by
 have h:=Any.bits_Len (SlLaysF0.n15.bits (P:=prog) (ρ:=Tryz.sortR_ren) {Tryz.sortR with}) (n:Int) w Z Z;rw[F0,bitLen_eq _ Z]at h;exact h
theorem wY{W:QM}{B:Nat}{e:QO}{sz:Nat}{G n cap}{b:List QN}(h:W.ownsRow B e sz (Vl G n cap) n b):W.ownsRow G e sz (Vl G n cap) n b:=by
 refine⟨h.1,?_⟩;rcases h.2 with⟨e,_⟩|⟨g,c,a,e,f,d⟩;·cases e
 cases e;exact .inr ⟨G,cap,a,rfl,Fv _,d⟩
theorem z_(W:QM):QA 274 #[C,I 0,I 0] W λe b=>e=QJ (.tuple #[])/\b=W:=by
 go_enter func274,ntmps274;go_wp2_with fail;go_loopw [6] (λa wr=>a=I 1/\wr=W) (λa _=>0);case atStart=>exact⟨rfl,rfl⟩
 case round=>
  obtain⟨rfl,rfl⟩:=hrel;go_wp2;go_end0;exact QB
theorem Aa(W:QM)(a:Nat):QA 229 #[C,I 0,I 0,I a] W λe b=>e=QJ (.tuple #[])/\b=W:=by
 go_enter func229,ntmps229;go_wp2_with fail;go_loopw [1,2,3,8,9] (λa b c c c wr=>a=I 0/\b=I 0/\wr=W) (λ_ _ _ _ _ _=>0);case atStart=>exact⟨rfl,rfl,rfl⟩
 case round=>
  obtain⟨rfl,rfl,rfl⟩:=hrel;go_wp2_with fail;refine(z_ wr).mono ?_;rintro e c⟨rfl,rfl⟩;go_wp2
  first|go_end0|((try simp only[Exit.inBlock,Exit.then]);refine GX (Ir rfl _ _ _) rfl ?_)
  exact QB
theorem Ad(W:QM)(B:Nat)(v:QN)(l:List Nat)(a:W.ownsRow B 27 1 v l.length (Us l))(n:l.length<=1000):
  QA 175 #[v] W λe i=>e=QJ (.tuple #[])/\∃b,i.ownsRow B 27 1 v l.length (Us b)/\Below B W i:=by
 rcases a.2 with⟨rfl,o⟩|⟨G,c,p,hv,j,m⟩
 ·have d:l=[]:=List.length_eq_zero_iff.1 o;subst d;have⟨f,b⟩:=y7 (wd 0 Z) (Aa · (Sort.bitsLen 0));go_enter func175,ntmps175;go_wp2_with fail;refine(f _).mono ?_;rintro e g⟨rfl,rfl⟩;go_wp2_with fail;refine(b _).mono ?_;rintro e g⟨rfl,rfl⟩;go_wp2;go_end0;exact⟨rfl,[],a,Fu _ _⟩
 subst hv;have⟨N,k⟩:=Qa l.length;rw[k]at a n⊢;have d:Sort.bitsLen N<=100:=by
  have:=(Sort.bitsLen_le_iff N 20).2 Z;omega
 have⟨f,b⟩:=y7 (wd N Z) (Og G N c W Z (N+1) 0 N (Sort.bitsLen N) W Z ⟨l.toArray,by simpa using k,wY a,Fu _ _⟩ Z (Fv _) d);go_enter func175,ntmps175;go_wp2_with fail;refine(f _).mono ?_;rintro e g⟨rfl,rfl⟩;generalize Sort.bitsLen N=r at*;go_wp2_with fail;refine(b).mono ?_;rintro e g⟨rfl,q,a⟩;have m:=H a;go_wp2;go_end0;exact⟨rfl,q.toList,aN m.row j,m.bel.mono j⟩
theorem zc:tH:=by
 intro X p t q l W a i f g;have⟨u,w,r⟩:=aK f;cases r;have j:Hid (QA 228 #[C,.func (.func 176) #[] #[J X 0]] W λe b=>∃v,e=QJ v/\b.ownsRow W.heap.size 27 1 v l.length (Us l)/\D W b):=H ((callsIn_wide (n:=5)).1 (kH X p q a l W i f g));have k:QA 174 #[.func (.func 176) #[] #[J X 0]] W λe b=>∃v,e=QJ v/\b.ownsRow W.heap.size 27 1 v l.length (Us l)/\D W b:=by
  go_enter func174,ntmps174;go_wp2_with fail;refine(j).mono ?_;rintro e m⟨v,rfl,hv,c⟩;have d:=H (IT hv c);go_wp2;go_ret;exact⟨v,rfl,d.1,d.2⟩
 have⟨o,s⟩:=y7 k g;go_enter func112,ntmps112;go_wp2_with fail;refine(o).mono ?_;rintro e m⟨v,rfl,hv,c⟩;have⟨f,d⟩:=y7 (Ad m W.heap.size v l hv s) c;go_wp2_with fail;refine(f).mono ?_;rintro e o⟨rfl,k,g,i⟩;have j:=H (IT g (d.trans i));go_wp2;go_ret;exact⟨v,k,rfl,j.1,j.2⟩
end Go.Proofs.YtdhegekcmmlohaaGreatDoor
