import Derived.Test.YtdfodlhkdmkfdaaGreatDoorN44
import Derived.Test.YtdfodlhkdmkfdaaGreatDoorN48
set_option linter.unusedVariables false
set_option linter.unusedSimpArgs false
set_option maxRecDepth 20000
set_option maxHeartbeats 8000000
namespace Go.Proofs.YtdfodlhkdmkfdaaGreatDoor
open Go.Proofs.Tryz
section
open Go.RowKit Go.Maps
theorem tu (a:Nat->Nat->Bool) (d:Array Nat) (b:Nat):∀ i,i<=b->i<=Sort.scanSorted a d b i/\Sort.scanSorted a d b i<=b:=by
 intro i;induction h:b-i generalizing i with
 | zero =>
  intro c;rw [Sort.scanSorted,tg cd];omega
 | succ n e =>
  intro c;rw [Sort.scanSorted];split;·have:=e (i+1) Z Z;omega
  omega
theorem Bj (G N cp) (a b:Nat) (d V0 V) (A:Au G N cp V0 d V) (b2:a<b) (hb:b<=N) (hN:N<=100000) :
  Calls prog 236 #[.slice (some ⟨G,0,none⟩) N cp,.int .i64 a,.int .i64 b] V λr V'=>r=.returned (.bool (Sort.partialInsertionSort aQ d a b).2)/\Au G N cp V0 (Sort.partialInsertionSort aQ d a b).1 V':=by
 obtain⟨x,e⟩:∃ x,Sort.partialInsertionSort aQ d a b=x:=⟨_,rfl⟩;rw [e];have K:=H (show Sort.partialIns aQ a b 5 (a+1) d=x from e);have c:=H A;clear e A;go_enter func236,ntmps236;go_wp2_with fail;go_loopw [7,8] (λM s8 wr=>∃ (t i:Nat) (d:Array Nat),t<=5/\a+1<=i/\i<=b/\M=.int .i64 i/\s8=.int .i64 t/\Hid (Sort.partialIns aQ a b (5-t) i d=x)/\Hid (Au G N cp V0 d wr)) (λ_ s8 _=>6-(intOf s8).toNat);case atStart=>exact ⟨0,a+1,d,Z,Z,Z,aR,rfl,K,c⟩
 case round =>
  clear K c;obtain⟨t,i,d,ht,a0,T,rfl,rfl,K,c⟩:=hrel;by_cases b3:t<5
  ·have b4:(t:Int)<5:=Z;obtain⟨O,a1⟩:∃ O,5-t=O+1:=⟨4-t,Z⟩;obtain⟨I1,e⟩:∃ I1,Sort.scanSorted aQ d b i=I1:=⟨_,rfl⟩;have b5:i<=I1/\I1<=b:=by
    rw [<-e];exact tu aQ d b i T
   have o:=H (show (if I1=b then (d,true) else if b-a<50 then (d,false) else Sort.partialIns aQ a b O I1 (if b-I1≥2 then Sort.shiftUp aQ b (I1+1) (if I1-a≥2 then Sort.shiftDown aQ (I1-1) (Sort.swp d I1 (I1-1)) else Sort.swp d I1 (I1-1)) else (if I1-a≥2 then Sort.shiftDown aQ (I1-1) (Sort.swp d I1 (I1-1)) else Sort.swp d I1 (I1-1))))=x by
    have:=K.out;rw [a1,Sort.partialIns_succ] at this;simp only [e] at this;exact this)
   have F:=H e;clear K e;(go_upto_block 2 with fail);go_cut [7] from 13 to 132 (λM w'=>M=.int .i64 I1/\Hid (Au G N cp V0 d w'))
   case first =>
    clear o;go_wp2_with fail;go_loopw [7] (λM wr=>∃ (i:Nat),a+1<=i/\i<=b/\M=.int .i64 i/\Hid (Sort.scanSorted aQ d b i=I1)/\Hid (Au G N cp V0 d wr)) (λM _=>b+1-(intOf M).toNat);(case atStart=>exact ⟨i,a0,T,rfl,F,c⟩);case round =>
     clear F c;obtain⟨j,a2,a3,rfl,F,c⟩:=hrel;by_cases w:j<b
     ·obtain⟨k,W⟩:∃ k,j=k+1:=⟨j-1,Z⟩;have f:=H W;have y:(j:Int)<(b:Int):=Z;have a4:(j:Int)-1=(k:Int):=Z;have X:(j:Int)<(N:Int):=Z;have a5:(k:Int)<(N:Int):=Z;have q:=c.cell (show j<N by omega);have s:=c.cell (show k<N by omega);clear W;by_cases l : aQ d[j]! d[k]! = true
      ·have g:=H (show j=I1 by
        have:=F.out;rw [Sort.scanSorted,tg (by rw [show j-1=k by have:=f.out;omega];simp [l])] at this;exact this)
       (go_upto_region 5 with fail);go_quiet (first|(go_at_call 237;exact t8 (cJ l _)));have e:=H (c.drewN nq);clear c q s;generalize wr.drewN nq=S at e ⊢;go_wp2_with fail;go_meet;case rel=>exact ⟨by rw [g.out],e⟩
      ·have l : aQ d[j]! d[k]! = false := (by simpa using l);have g:=H (show Sort.scanSorted aQ d b (j+1)=I1 by
        have:=F.out;rw [Sort.scanSorted,tm (by rw [show j-1=k by have:=f.out;omega];simp [l];exact w)] at this;exact this)
       (go_upto_region 5 with fail);go_quiet (first|(go_at_call 237;exact t8 (cO l _)));have e:=H (c.drewN nq);clear c q s;generalize wr.drewN nq=S at e ⊢;go_wp2;go_roundw;(case rel=>exact ⟨j+1,Z,Z,aR,g,e⟩);case measure=>(simp [intOf];try omega)
     ·have y:decide ((j:Int)<(b:Int))=false:=t5 Z;have g:=H (show j=I1 by
       have:=F.out;rw [Sort.scanSorted,tg cd] at this;exact this)
      (go_upto_region 5 with fail);go_quiet (fail);have e:=H (c.drewN nq);clear c;generalize wr.drewN nq=S at e ⊢;go_wp2_with fail;go_meet;case rel=>exact ⟨by rw [g.out],e⟩
   case rest =>
    obtain⟨rfl,c⟩:=hcut;by_cases P:I1=b
    ·have a6:(I1:Int)=(b:Int):=Z;have f:=H (show (d,true)=x by have:=o.out;rw [tm P] at this;exact this);clear o;go_wp2
     first|go_ret|((try simp only [Exit.inBlock,Exit.then]);go_ret)
     exact⟨by rw [<-f.out];rfl,by rw [<-f.out];exact c⟩
    ·have a6:¬((I1:Int)=(b:Int)):=Z;obtain⟨L,hL⟩:∃ L,b-a=L:=⟨_,rfl⟩;have b6:(b:Int)-(a:Int)=(L:Int):=Z;by_cases Y:b-a<50
     ·have a7:(L:Int)<50:=Z;have f:=H (show (d,false)=x by have:=o.out;rw [tg P,tm Y] at this;exact this);clear o;go_wp2
      first|go_ret|((try simp only [Exit.inBlock,Exit.then]);go_ret)
      exact⟨by rw [<-f.out];rfl,by rw [<-f.out];exact c⟩
     ·have a7:¬((L:Int)<50):=Z;obtain⟨k,W⟩:∃ k,I1-1=k:=⟨_,rfl⟩;obtain⟨u,m⟩:∃ u,(if I1-a≥2 then Sort.shiftDown aQ (I1-1) (Sort.swp d I1 (I1-1)) else Sort.swp d I1 (I1-1))=u:=⟨_,rfl⟩;obtain⟨p,n⟩:∃ p,(if b-I1≥2 then Sort.shiftUp aQ b (I1+1) u else u)=p:=⟨_,rfl⟩;have f:=H (show Sort.partialIns aQ a b O I1 p=x by have:=o.out;rw [tg P,tg Y,m,n] at this;exact this);rw [W] at m;have z:=H m;have A:=H n;have a4:(I1:Int)-1=(k:Int):=Z;have b7:(I1:Int)<(N:Int):=Z;have a5:(k:Int)<(N:Int):=Z;have q:=c.cell (show I1<N by omega);have s:=c.cell (show k<N by omega);have f1:=c.fz I1;obtain⟨u99,y0⟩:=c.sw1 (show I1<N by omega) (show k<N by omega);have f0:=(c.set (show I1<N by omega) d[k]!).fz k;have B:=H (c.swap (show I1<N by omega) (show k<N by omega)).drew;clear o c m n W hL;(go_upto_region 11 with fail);go_region;clear q s f1 y0 f0;generalize World.drew _=w9 at B ⊢;obtain⟨ia,b8⟩:∃ ia,I1-a=ia:=⟨_,rfl⟩;have b0:(I1:Int)-(a:Int)=(ia:Int):=Z;obtain⟨bi,b9⟩:∃ bi,b-I1=bi:=⟨_,rfl⟩;have b1:(b:Int)-(I1:Int)=(bi:Int):=Z;(go_upto_if 61 with fail);go_cut [9] from 13 to 132 (λs9 w'=>Hid (Au G N cp V0 u w'))
      case first =>
       by_cases h2:I1-a≥2
       ·have Q:(2:Int)<=(ia:Int):=Z;have n:=H (show Sort.shiftDown aQ k (Sort.swp d I1 k)=u by have:=z.out;rw [tm h2] at this;exact this);clear z A f F;go_wp2_with fail;go_loopw [9] (λs9 wr=>∃ (j:Nat) (d:Array Nat),j<=k/\s9=.int .i64 j/\Hid (Sort.shiftDown aQ j d=u)/\Hid (Au G N cp V0 d wr)) (λs9 _=>(intOf s9).toNat);(case atStart=>exact ⟨k,_,Jo _,aR,n,B⟩);case round =>
         clear n B;obtain⟨j,d,R,rfl,n,c⟩:=hrel;cases j with
         | zero =>
          have g:=H (show d=u from n);go_wp2_with fail;go_meet;case rel=>exact H (by rw [<-g.out];exact c)
         | succ m =>
          obtain⟨j,v⟩:∃ j,m+1=j:=⟨_,rfl⟩;have HJ:=H v;rw [v] at R ⊢;have y:(1:Int)<=(j:Int):=Z;have a8:(j:Int)-1=(m:Int):=Z;have X:(j:Int)<(N:Int):=Z;have a9:(m:Int)<(N:Int):=Z;have q:=c.cell (show j<N by omega);have s:=c.cell (show m<N by omega);clear v;by_cases l : aQ d[j]! d[m]! = true
          ·have g:=H (show Sort.shiftDown aQ m (Sort.swp d j m)=u by
            have:=n.out;rw [Sort.shiftDown,HJ.out,tg (by simp [l])] at this;exact this)
           (go_upto_region 16 with fail);go_quiet (first|(go_at_call 237;exact t8 (cJ l _)));have e:=H (c.drewN nq);clear c q s n;generalize wr.drewN nq=S at e ⊢;have q:=e.cell (show j<N by omega);have s:=e.cell (show m<N by omega);have f1:=e.fz j;obtain⟨u99,y0⟩:=e.sw1 (show j<N by omega) (show m<N by omega);have f0:=(e.set (show j<N by omega) d[m]!).fz m;have B:=H (e.swap (show j<N by omega) (show m<N by omega)).drew;clear e;(go_upto_region 17 with fail);go_region;clear q s f1 y0 f0;go_wp2;go_roundw;(case rel=>exact ⟨m,_,Z,aR,g,B⟩);case measure=>(simp [intOf];try omega)
          ·have l : aQ d[j]! d[m]! = false := (by simpa using l);have g:=H (show d=u by
            have:=n.out;rw [Sort.shiftDown,HJ.out,tm (by simp [l])] at this;exact this)
           (go_upto_region 16 with fail);go_quiet (first|(go_at_call 237;exact t8 (cO l _)));have e:=H (c.drewN nq);clear c q s n;generalize wr.drewN nq=S at e ⊢;go_wp2_with fail;go_meet;case rel=>exact H (by rw [<-g.out];exact e)
       ·have Q:¬((2:Int)<=(ia:Int)):=Z;have g:=H (show Sort.swp d I1 k=u by have:=z.out;rw [tg h2] at this;exact this);go_wp2_with fail;go_meet;case rel=>exact H (by rw [<-g.out];exact B)
      case rest =>
       have A3:=hcut;clear hcut B;by_cases h2:b-I1≥2
       ·have Q:(2:Int)<=(bi:Int):=Z;have n:=H (show Sort.shiftUp aQ b (I1+1) u=p by have:=A.out;rw [tm h2] at this;exact this);clear z A F;go_wp2_with fail;go_loopw [10] (λR wr=>∃ (j:Nat) (d:Array Nat),I1+1<=j/\j<=b/\R=.int .i64 j/\Hid (Sort.shiftUp aQ b j d=p)/\Hid (Au G N cp V0 d wr)) (λR _=>b+1-(intOf R).toNat);(case atStart=>exact ⟨I1+1,_,Jo _,Z,aR,n,A3⟩);case round =>
         clear n A3;obtain⟨j,d,a2,a3,rfl,n,c⟩:=hrel;by_cases w:j<b
         ·obtain⟨m,v⟩:∃ m,j-1=m:=⟨_,rfl⟩;have HJ:=H v;have y:(j:Int)<(b:Int):=Z;have a8:(j:Int)-1=(m:Int):=Z;have X:(j:Int)<(N:Int):=Z;have a9:(m:Int)<(N:Int):=Z;have q:=c.cell (show j<N by omega);have s:=c.cell (show m<N by omega);clear v;by_cases l : aQ d[j]! d[m]! = true
          ·have g:=H (show Sort.shiftUp aQ b (j+1) (Sort.swp d j m)=p by
            have:=n.out;rw [Sort.shiftUp,tm w,HJ.out,tg (by simp [l])] at this;exact this)
           (go_upto_region 22 with fail);go_quiet (first|(go_at_call 237;exact t8 (cJ l _)));have e:=H (c.drewN nq);clear c q s n;generalize wr.drewN nq=S at e ⊢;have q:=e.cell (show j<N by omega);have s:=e.cell (show m<N by omega);have f1:=e.fz j;obtain⟨u99,y0⟩:=e.sw1 (show j<N by omega) (show m<N by omega);have f0:=(e.set (show j<N by omega) d[m]!).fz m;have B:=H (e.swap (show j<N by omega) (show m<N by omega)).drew;clear e;(go_upto_region 23 with fail);go_region;clear q s f1 y0 f0;go_wp2;go_roundw;(case rel=>exact ⟨j+1,_,Z,Z,aR,g,B⟩);case measure=>(simp [intOf];try omega)
          ·have l : aQ d[j]! d[m]! = false := (by simpa using l);have g:=H (show d=p by
            have:=n.out;rw [Sort.shiftUp,tm w,HJ.out,tm (by simp [l])] at this;exact this)
           (go_upto_region 22 with fail);go_quiet (first|(go_at_call 237;exact t8 (cO l _)));have e:=H (show Au G N cp V0 p (wr.drewN nq) by rw [<-g.out];exact c.drewN nq);clear c q s n;generalize wr.drewN nq=S at e ⊢;go_wp2;go_roundw;(case rel=>exact ⟨t+1,I1,p,Z,Z,Z,aR,aR,H (by rw [show 5-(t+1)=O by omega];exact f),e⟩);case measure=>(simp [intOf];try omega)
         ·have y:¬((j:Int)<(b:Int)):=Z;have g:=H (show d=p by
           have:=n.out;rw [Sort.shiftUp,tg w] at this;exact this)
          have e:=H (show Au G N cp V0 p wr by rw [<-g.out];exact c);clear c n;go_wp2;go_roundw;(case rel=>exact ⟨t+1,I1,p,Z,Z,Z,aR,aR,H (by rw [show 5-(t+1)=O by omega];exact f),e⟩);case measure=>(simp [intOf];try omega)
       ·have Q:¬((2:Int)<=(bi:Int)):=Z;have g:=H (show u=p by have:=A.out;rw [tg h2] at this;exact this);have e:=H (show Au G N cp V0 p _ by rw [<-g.out];exact A3);clear A3;go_wp2;go_roundw;(case rel=>exact ⟨t+1,I1,p,Z,Z,Z,aR,aR,H (by rw [show 5-(t+1)=O by omega];exact f),e⟩);case measure=>(simp [intOf];try omega)
  ·obtain rfl:t=5:=Z;have f:=H (show (d,false)=x from K);clear K;go_wp2
   first|go_ret|((try simp only [Exit.inBlock,Exit.then]);go_ret)
   exact⟨by rw [<-f.out];rfl,by rw [<-f.out];exact c⟩
def xq (a b:Nat) (d i:Array Nat):Prop:=Sort.PermIn a b d i/\Sort.SortedIn aQ a b i
theorem EV (h:Sort.Hint):Ht h<=2:=by cases h <;> decide
theorem Ez (G) (N:Nat) (cp V0) (hN:N<=100000):∀ (n q p s:Nat) (y:Array Nat) (V:World),p-q<n->Au G N cp V0 y V->q<=p->p<=N->s<=100->Sort.Below aQ q p y ->
    Calls prog 182 #[.slice (some ⟨G,0,none⟩) N cp,.int .i64 q,.int .i64 p,.int .i64 s] V λr V'=>r=.returned (.tuple #[])/\∃ i,xq q p y i/\Au G N cp V0 i V':=by
  intro n;induction n with
  | zero=>intro _ _ _ _ _ h;exact absurd h (Nat.not_lt_zero _)
  | succ n b =>
    intro q p s y V hn A c1 hb b7 a;have IH:=H b;have z:=H A;have HB:=H a;have HG:=H (show ∀ i,xq q p y i->xq q p y i from λ_ h=>h);clear b A a;go_enter func182,ntmps182;go_wp2_with fail;go_loopw [1,2,3,8,9] (λs1 s2 s3 c e wr=>∃ (a b m:Nat) (wb wp:Bool) (d:Array Nat),s1=.int .i64 a/\s2=.int .i64 b/\s3=.int .i64 m/\c=.bool wb/\e=.bool wp/\a<=b/\b<=p/\q<=a/\m<=100/\Hid (Sort.Below aQ a b d)/\Hid (∀ i,xq a b d i->xq q p y i)/\Hid (Au G N cp V0 d wr)) (λs1 s2 _ _ _ _=>(intOf s2-intOf s1).toNat);(case atStart=>exact ⟨q,p,s,true,true,y,rfl,rfl,rfl,rfl,rfl,c1,Jo _,Jo _,b7,HB,HG,z⟩);case round =>
      clear HB HG z;obtain⟨a,b,m,wb,wp,d,rfl,rfl,rfl,rfl,rfl,A,d8,d9,c2,HB,HG,z⟩:=hrel;obtain⟨L,hL⟩:∃ L,b-a=L:=⟨_,rfl⟩;have e0:(b:Int)-(a:Int)=(L:Int):=Z;have B:=z.sz;by_cases e1:L<=12
      · have b8:(L:Int)<=12:=by omega
        have H1:=H (Sort.insertionSort_holds zq d a b A (by rw [B];omega))
        go_wp2_with fail
        refine (E9 G N cp a b d V0 _ z Z hN Z).mono ?_
        rintro e w1 ⟨rfl,l⟩
        have F:=H l
        clear l z
        go_wp2
        first|go_end0|((try simp only [Exit.inBlock,Exit.then]);refine wA (KQ rfl _ _ _) rfl ?_)
        exact⟨rfl,_,HG _ H1,F⟩
      · have b8:¬((L:Int)<=12):=by omega
        by_cases c3:m=0
        · subst c3
          have H1:=H (Sort.heapSort_holds zq d a b A (by rw [B];omega))
          go_wp2_with fail
          refine (Bg G N cp a b d V0 _ z Z Z hN).mono ?_
          rintro e w1 ⟨rfl,l⟩
          have F:=H l
          clear l z
          go_wp2
          first|go_end0|((try simp only [Exit.inBlock,Exit.then]);refine wA (KQ rfl _ _ _) rfl ?_)
          exact⟨rfl,_,HG _ H1,F⟩
        · have c5:¬((m:Int)=0):=by omega
          go_upto_if 35 with fail
          go_cut [3] from 19 to 133 (λs3 S=>∃ (c:Nat) (v:Array Nat),s3=.int .i64 c/\c<=100/\Hid (Sort.PermIn a b d v)/\Hid (Au G N cp V0 v S))
          case first =>
            cases wb
            · have H1:=H (Sort.breakPatterns_holds d a b A (by rw [B];omega))
              obtain⟨c,k⟩:∃ c,m-1=c:=⟨_,rfl⟩
              have f:(m:Int)-1=(c:Int):=Z
              go_wp2_with fail
              refine (yM G N cp a b d V0 _ z Z Z hN).mono ?_
              rintro e w1 ⟨rfl,l⟩
              have F:=H l
              clear l z
              go_wp2_with fail
              go_meet
              case rel=>exact ⟨c,_,rfl,Z,H1,F⟩
            · go_wp2_with fail
              go_meet
              case rel=>exact ⟨m,d,rfl,c2,H (Sort.permIn_refl _ _ _),z⟩
          case rest =>
            obtain⟨c,v,rfl,k,T,f⟩:=hcut;have K:=f.sz;have b9:=H (HB.perm (by rw [B];omega) T);have W:=Sort.choosePivot_holds aQ v a b Z;have g:=H (λd (j:Au G N cp V0 v d)=>yt G N cp a b v V0 d j Z Z hN);have a6:=EV (Sort.choosePivot aQ v a b).2;generalize (Sort.choosePivot aQ v a b).1=pv at W g;generalize Ht (Sort.choosePivot aQ v a b).2=a7 at g a6;clear z HB B;(go_upto_region 10 with fail);go_wp2_with fail;refine (g _ f).mono ?_;rintro e w1 ⟨rfl,l⟩;have X:=H l;clear l f g;(go_upto_if 50 with fail);go_cut [11,12] from 19 to 133 (λd a8 S=>∃ (f w:Nat) (Y:Array Nat),d=.int .i64 f/\a8=.int .i64 w/\a<=f/\f<b/\w<=2/\Hid (Sort.PermIn a b v Y)/\Hid (Au G N cp V0 Y S))
            case first =>
              by_cases t:a7=2
              · subst t
                have H1:=H (Sort.reverseRange_holds v a b Z (by rw [K];omega))
                obtain⟨g,u⟩:∃ g,b-1=g:=⟨_,rfl⟩
                obtain⟨j,x⟩:∃ j,pv-a=j:=⟨_,rfl⟩
                obtain⟨o,M⟩:∃ o,g-j=o:=⟨_,rfl⟩
                have O:(b:Int)-1=(g:Int):=Z
                have P:(pv:Int)-(a:Int)=(j:Int):=Z
                have Q:(g:Int)-(j:Int)=(o:Int):=Z
                go_wp2_with fail
                refine (Fp G N cp a b v V0 _ X Z Z hN).mono ?_
                rintro e w1 ⟨rfl,l⟩
                have F:=H l
                clear l X
                go_wp2_with fail
                go_meet
                case rel=>exact ⟨o,1,_,rfl,aR,Z,Z,Z,H1,F⟩
              · have g:¬((a7:Int)=2):=by omega
                go_wp2_with fail
                go_meet
                case rel=>exact ⟨pv,a7,v,rfl,rfl,W.1,W.2,a6,H (Sort.permIn_refl _ _ _),X⟩
            case rest =>
              obtain⟨f,w,Y,rfl,rfl,t,u,c6,a2,a3⟩:=hcut;have M:=a3.sz;have a9:=H (b9.perm (by rw [K];omega) a2);clear X a6 W;(go_upto_region 15 with fail);go_cut [12,68] from 19 to 133 (λa8 d S=>∃ bb:Bool,a8=.int .i64 w/\d=.bool bb/\Hid (Au G N cp V0 Y S))
              case first =>
                by_cases g:w=1
                · subst g
                  cases wb <;> cases wp <;>
                    (go_wp2_with fail
                     go_meet
                     exact⟨_,rfl,rfl,a3⟩)
                · have j:¬((w:Int)=1):=by omega
                  cases wb <;> cases wp <;>
                    (go_wp2_with fail
                     go_meet
                     exact⟨_,rfl,rfl,a3⟩)
              case rest =>
                obtain⟨bb,rfl,rfl,O⟩:=hcut;clear a3;(go_upto_if 68 with fail);go_cut [] from 19 to 133 (λS=>∃ j:Array Nat,Hid (Sort.PermIn a b Y j)/\Hid (Au G N cp V0 j S))
                case first =>
                  cases bb
                  · go_wp2_with fail
                    go_meet
                    case rel=>exact ⟨Y,H (Sort.permIn_refl _ _ _),O⟩
                  · obtain ⟨g,o⟩:=Sort.partialInsertionSort_holds zq Y a b Z (by rw [M];omega) a9.out
                    have P:=H (Bj G N cp a b Y V0 _ O Z Z hN)
                    generalize Sort.partialInsertionSort aQ Y a b=R at g o P
                    obtain⟨j,br⟩:=R
                    simp only [] at g o P
                    have x:=H g
                    cases br
                    · clear g o
                      go_wp2_with fail
                      refine (P).mono ?_
                      rintro e w1 ⟨rfl,l⟩
                      have F:=H l
                      clear l O
                      go_wp2_with fail
                      go_meet
                      case rel=>exact ⟨j,x,F⟩
                    · have Q:=H (o rfl)
                      clear g o
                      go_wp2_with fail
                      refine (P).mono ?_
                      rintro e w1 ⟨rfl,l⟩
                      have F:=H l
                      clear l O
                      go_wp2
                      first|go_end0|((try simp only [Exit.inBlock,Exit.then]);refine wA (KQ rfl _ _ _) rfl ?_)
                      exact⟨rfl,j,HG _ ⟨Sort.permIn_trans _ _ _ a b T (Sort.permIn_trans _ _ _ a b a2 x),Q⟩,F⟩
                case rest =>
                  obtain⟨j,g,o⟩:=hcut;clear O;have a5:=o.sz;have c0:=H (a9.perm (by rw [M];omega) g);have b2:=H (show ∀ i,xq a b j i->xq q p y i from λi h=>HG.out i ⟨Sort.permIn_trans _ _ _ a b T (Sort.permIn_trans _ _ _ a b a2 (Sort.permIn_trans _ _ _ a b g h.1)),h.2⟩);clear HG T a2 g b9 a9 K M;have xp:=o.cell (show f<N by omega);have e2:(f:Int)<(N:Int):=Z;(go_upto_region 17 with fail);go_cut [87] from 19 to 133 (λd S => d=.bool (decide (a > 0) && !aQ j[a-1]! j[f]!)/\Hid (Au G N cp V0 j S))
                  case first =>
                    by_cases Q:a > 0
                    · obtain ⟨g,x⟩:∃ g,a-1=g:=⟨_,rfl⟩
                      have R:(0:Int)<(a:Int):=Z
                      have a4:(a:Int)-1=(g:Int):=Z
                      have b3:(g:Int)<(N:Int):=Z
                      have xa:=o.cell (show g<N by omega)
                      have HH:=H x
                      by_cases P : aQ j[g]! j[f]! = true
                      · clear x
                        go_quiet (first|(go_at_call 237;exact t8 (cJ P _)))
                        have l:=H (o.drewN nq)
                        go_wp2_with fail
                        go_meet
                        case rel=>exact ⟨by rw [HH.out,P];simp,l⟩
                      · have P : aQ j[g]! j[f]! = false := by simpa using P
                        clear x
                        go_quiet (first|(go_at_call 237;exact t8 (cO P _)))
                        have l:=H (o.drewN nq)
                        go_wp2_with fail
                        go_meet
                        case rel=>exact ⟨by rw [HH.out,P];simp [Q],l⟩
                    · have R:decide ((0:Int)<(a:Int))=false:=t5 Z
                      go_quiet (fail)
                      have l:=H (o.drewN nq)
                      go_wp2_with fail
                      go_meet
                      case rel=>exact ⟨by simp [Q],l⟩
                  case rest =>
                    obtain⟨rfl,a4⟩:=hcut;clear xp o;cases b3 : (decide (a > 0) && !aQ j[a-1]! j[f]!)
                    · obtain ⟨g,ap,d4,hx⟩:∃ g ap d4,Sort.partition aQ j a b f=(g,ap,d4):=⟨(Sort.partition aQ j a b f).1,(Sort.partition aQ j a b f).2.1,(Sort.partition aQ j a b f).2.2,rfl⟩
                      obtain⟨r1,r2,r3,r4,r5,x,P⟩:=Sort.round_part zq (Sort.partition_holds aQ) t u (show b<=j.size by rw [a5];omega) c0 hx
                      have PT:=H (Cj G N cp a b f j V0 _ a4 t u Z hN)
                      rw [hx] at PT
                      simp only [] at PT
                      have R4:=H r4
                      have R5:=H r5
                      have R6:=H x
                      have R7:=H P
                      clear r4 r5 x P hx b3
                      obtain⟨ml,e3⟩:∃ ml,g-a=ml:=⟨_,rfl⟩
                      obtain⟨mr,e4⟩:∃ mr,b-g=mr:=⟨_,rfl⟩
                      obtain⟨l8,e5⟩:∃ l8,L/8=l8:=⟨_,rfl⟩
                      have c7:(g:Int)-(a:Int)=(ml:Int):=Z
                      have c8:(b:Int)-(g:Int)=(mr:Int):=Z
                      have c9:(L:Int).tdiv 8=(l8:Int):=by rw [Kx Z];omega
                      have d5:(L:Int)/8=(l8:Int):=Z
                      obtain⟨m1,P⟩:∃ m1,g+1=m1:=⟨_,rfl⟩
                      have d6:(g:Int)+1=(m1:Int):=Z
                      go_upto_region 20 with fail
                      go_wp2_with fail
                      refine (PT).mono ?_
                      rintro e w7 ⟨rfl,A7⟩
                      have x:=H A7
                      have d7:=A7.sz
                      clear A7 a4 PT
                      by_cases h4:ml<mr
                      · have c4:(ml:Int)<(mr:Int):=by omega
                        have C1:=H (IH a g c d4 w7 Z x Z Z k R4)
                        go_wp2_with fail
                        refine (C1).mono ?_
                        rintro e w8 ⟨rfl,dL,⟨pL,sL⟩,A8⟩
                        obtain⟨Q,R⟩:=R6.out dL pL sL
                        have b4:=H A8
                        have b5:=H (show Sort.Below aQ m1 b dL by rw [<-P];exact Q)
                        have b6:=H (show ∀ i,xq m1 b dL i->xq q p y i from λi h=>b2.out i (R i (by rw [P];exact h.1) (by rw [P];exact h.2)))
                        clear pL sL A8 Q R x C1
                        go_wp2
                        go_roundw
                        case rel=>exact ⟨m1,b,c,_,ap,dL,aR,rfl,rfl,rfl,rfl,Z,Z,Z,k,b5,b6,b4⟩
                        case measure=>(simp [intOf];try omega)
                      · have c4:¬((ml:Int)<(mr:Int)):=by omega
                        have C1:=H (IH m1 b c d4 w7 Z x Z Z k (by rw [<-P];exact R5))
                        go_wp2_with fail
                        refine (C1).mono ?_
                        rintro e w8 ⟨rfl,dL,⟨pL,sL⟩,A8⟩
                        rw [<-P] at pL sL
                        obtain⟨Q,R⟩:=R7.out dL pL sL
                        have b4:=H A8
                        have b5:=H Q
                        have b6:=H (show ∀ i,xq a g dL i->xq q p y i from λi h=>b2.out i (R i h.1 h.2))
                        clear pL sL A8 Q R x C1
                        go_wp2
                        go_roundw
                        case rel=>exact ⟨a,g,c,_,ap,dL,rfl,rfl,rfl,rfl,rfl,Z,Z,Z,k,b5,b6,b4⟩
                        case measure=>(simp [intOf];try omega)
                    · have P : a > 0/\aQ j[a-1]! j[f]! = false := by simpa using b3
                      obtain⟨g,d4,hx⟩:∃ g d4,Sort.partitionEqual aQ j a b f=(g,d4):=⟨(Sort.partitionEqual aQ j a b f).1,(Sort.partitionEqual aQ j a b f).2,rfl⟩
                      obtain⟨r1,r2,r3,r4,r5⟩:=Sort.round_eq zq (Sort.partitionEqual_holds aQ) P.1 t u (show b<=j.size by rw [a5];omega) c0 P.2 hx
                      have PT:=H (FB G N cp a b f j V0 _ a4 t u Z hN)
                      rw [hx] at PT
                      simp only [] at PT
                      have Q:=H r4
                      have R:=H (show ∀ i,xq g b d4 i->xq q p y i from λi h=>b2.out i (r5 i h.1 h.2))
                      clear r4 r5 hx b3 P
                      go_wp2_with fail
                      refine (PT).mono ?_
                      rintro e w7 ⟨rfl,A7⟩
                      have x:=H A7
                      clear A7 a4 PT
                      go_wp2
                      go_roundw
                      case rel=>exact ⟨g,b,c,wb,wp,d4,rfl,rfl,rfl,rfl,rfl,Z,Z,Z,k,Q,R,x⟩
                      case measure=>(simp [intOf];try omega)
end
end Go.Proofs.YtdfodlhkdmkfdaaGreatDoor
