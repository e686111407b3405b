import Derived.Test.YtdngbppdomoenaaGreatDoorN45
import Derived.Test.YtdngbppdomoenaaGreatDoorN47
set_option linter.unusedVariables false
set_option linter.unusedSimpArgs false
set_option maxRecDepth 20000
set_option maxHeartbeats 8000000
namespace Go.Proofs.YtdngbppdomoenaaGreatDoor
open Go.Proofs.Tryz
section
open Go.RowKit Go.Maps
def uz (a b:Nat) (d e:Array Nat):Prop:=Sort.PermIn a b d e/\Sort.SortedIn aQ a b e
theorem CH (h:Sort.Hint):En h<=2:=by cases h <;> decide
theorem Bu (G) (N:Nat) (cp V0) (hN:N<=100000):∀ (n q p s:Nat) (y:Array Nat) (V:World),p-q<n->Au G N cp V0 y V->q<=p->p<=N->s<=100->Sort.Below aQ q p y ->
    Calls prog 157 #[.slice (some ⟨G,0,none⟩) N cp,.int .i64 q,.int .i64 p,.int .i64 s] V λr V'=>r=.returned (.tuple #[])/\∃ i,uz q p y i/\Au G N cp V0 i V':=by
  intro n;induction n with
  | zero=>intro _ _ _ _ _ h;exact absurd h (Nat.not_lt_zero _)
  | succ n b =>
    intro q p s y V hn A c1 hb b7 a;have IH:=H b;have z:=H A;have HB:=H a;have HG:=H (show ∀ i,uz q p y i->uz q p y i from λ_ h=>h);clear b A a;go_enter func157,ntmps157;go_wp2_with fail;go_loopw [1,2,3,8,9] (λs1 s2 s3 c e wr=>∃ (a b m:Nat) (wb wp:Bool) (d:Array Nat),s1=.int .i64 a/\s2=.int .i64 b/\s3=.int .i64 m/\c=.bool wb/\e=.bool wp/\a<=b/\b<=p/\q<=a/\m<=100/\Hid (Sort.Below aQ a b d)/\Hid (∀ i,uz a b d i->uz q p y i)/\Hid (Au G N cp V0 d wr)) (λs1 s2 _ _ _ _=>(intOf s2-intOf s1).toNat);(case atStart=>exact ⟨q,p,s,true,true,y,rfl,rfl,rfl,rfl,rfl,c1,Fv _,Fv _,b7,HB,HG,z⟩);case round =>
      clear HB HG z;obtain⟨a,b,m,wb,wp,d,rfl,rfl,rfl,rfl,rfl,A,d8,d9,c2,HB,HG,z⟩:=hrel;obtain⟨L,hL⟩:∃ L,b-a=L:=⟨_,rfl⟩;have e0:(b:Int)-(a:Int)=(L:Int):=Z;have B:=z.sz;by_cases e1:L<=12
      · have b8:(L:Int)<=12:=by omega
        have H1:=H (Sort.insertionSort_holds yt d a b A (by rw [B];omega))
        go_wp2_with fail
        refine (Bj G N cp a b d V0 _ z Z hN Z).mono ?_
        rintro e w1 ⟨rfl,l⟩
        have F:=H l
        clear l z
        go_wp2
        first|go_end0|((try simp only [Exit.inBlock,Exit.then]);refine GX (Ir rfl _ _ _) rfl ?_)
        exact⟨rfl,_,HG _ H1,F⟩
      · have b8:¬((L:Int)<=12):=by omega
        by_cases c3:m=0
        · subst c3
          have H1:=H (Sort.heapSort_holds yt d a b A (by rw [B];omega))
          go_wp2_with fail
          refine (zX G N cp a b d V0 _ z Z Z hN).mono ?_
          rintro e w1 ⟨rfl,l⟩
          have F:=H l
          clear l z
          go_wp2
          first|go_end0|((try simp only [Exit.inBlock,Exit.then]);refine GX (Ir rfl _ _ _) rfl ?_)
          exact⟨rfl,_,HG _ H1,F⟩
        · have c5:¬((m:Int)=0):=by omega
          go_upto_if 35 with fail
          go_cut [3] from 19 to 133 (λs3 S=>∃ (c:Nat) (v:Array Nat),s3=.int .i64 c/\c<=100/\Hid (Sort.PermIn a b d v)/\Hid (Au G N cp V0 v S))
          case first =>
            cases wb
            · have H1:=H (Sort.breakPatterns_holds d a b A (by rw [B];omega))
              obtain⟨c,k⟩:∃ c,m-1=c:=⟨_,rfl⟩
              have f:(m:Int)-1=(c:Int):=Z
              go_wp2_with fail
              refine (yo G N cp a b d V0 _ z Z Z hN).mono ?_
              rintro e w1 ⟨rfl,l⟩
              have F:=H l
              clear l z
              go_wp2_with fail
              go_meet
              case rel=>exact ⟨c,_,rfl,Z,H1,F⟩
            · go_wp2_with fail
              go_meet
              case rel=>exact ⟨m,d,rfl,c2,H (Sort.permIn_refl _ _ _),z⟩
          case rest =>
            obtain⟨c,v,rfl,k,T,f⟩:=hcut;have K:=f.sz;have b9:=H (HB.perm (by rw [B];omega) T);have W:=Sort.choosePivot_holds aQ v a b Z;have g:=H (λd (j:Au G N cp V0 v d)=>yj G N cp a b v V0 d j Z Z hN);have a6:=CH (Sort.choosePivot aQ v a b).2;generalize (Sort.choosePivot aQ v a b).1=pv at W g;generalize En (Sort.choosePivot aQ v a b).2=a7 at g a6;clear z HB B;(go_upto_region 10 with fail);go_wp2_with fail;refine (g _ f).mono ?_;rintro e w1 ⟨rfl,l⟩;have X:=H l;clear l f g;(go_upto_if 50 with fail);go_cut [11,12] from 19 to 133 (λd a8 S=>∃ (f w:Nat) (Y:Array Nat),d=.int .i64 f/\a8=.int .i64 w/\a<=f/\f<b/\w<=2/\Hid (Sort.PermIn a b v Y)/\Hid (Au G N cp V0 Y S))
            case first =>
              by_cases t:a7=2
              · subst t
                have H1:=H (Sort.reverseRange_holds v a b Z (by rw [K];omega))
                obtain⟨g,u⟩:∃ g,b-1=g:=⟨_,rfl⟩
                obtain⟨j,x⟩:∃ j,pv-a=j:=⟨_,rfl⟩
                obtain⟨o,M⟩:∃ o,g-j=o:=⟨_,rfl⟩
                have O:(b:Int)-1=(g:Int):=Z
                have P:(pv:Int)-(a:Int)=(j:Int):=Z
                have Q:(g:Int)-(j:Int)=(o:Int):=Z
                go_wp2_with fail
                refine (Bg G N cp a b v V0 _ X Z Z hN).mono ?_
                rintro e w1 ⟨rfl,l⟩
                have F:=H l
                clear l X
                go_wp2_with fail
                go_meet
                case rel=>exact ⟨o,1,_,rfl,aY,Z,Z,Z,H1,F⟩
              · have g:¬((a7:Int)=2):=by omega
                go_wp2_with fail
                go_meet
                case rel=>exact ⟨pv,a7,v,rfl,rfl,W.1,W.2,a6,H (Sort.permIn_refl _ _ _),X⟩
            case rest =>
              obtain⟨f,w,Y,rfl,rfl,t,u,c6,a2,a3⟩:=hcut;have M:=a3.sz;have a9:=H (b9.perm (by rw [K];omega) a2);clear X a6 W;(go_upto_region 15 with fail);go_cut [12,68] from 19 to 133 (λa8 d S=>∃ bb:Bool,a8=.int .i64 w/\d=.bool bb/\Hid (Au G N cp V0 Y S))
              case first =>
                by_cases g:w=1
                · subst g
                  cases wb <;> cases wp <;>
                    (go_wp2_with fail
                     go_meet
                     exact⟨_,rfl,rfl,a3⟩)
                · have j:¬((w:Int)=1):=by omega
                  cases wb <;> cases wp <;>
                    (go_wp2_with fail
                     go_meet
                     exact⟨_,rfl,rfl,a3⟩)
              case rest =>
                obtain⟨bb,rfl,rfl,O⟩:=hcut;clear a3;(go_upto_if 68 with fail);go_cut [] from 19 to 133 (λS=>∃ j:Array Nat,Hid (Sort.PermIn a b Y j)/\Hid (Au G N cp V0 j S))
                case first =>
                  cases bb
                  · go_wp2_with fail
                    go_meet
                    case rel=>exact ⟨Y,H (Sort.permIn_refl _ _ _),O⟩
                  · obtain ⟨g,o⟩:=Sort.partialInsertionSort_holds yt Y a b Z (by rw [M];omega) a9.out
                    have P:=H (zH G N cp a b Y V0 _ O Z Z hN)
                    generalize Sort.partialInsertionSort aQ Y a b=R at g o P
                    obtain⟨j,br⟩:=R
                    simp only [] at g o P
                    have x:=H g
                    cases br
                    · clear g o
                      go_wp2_with fail
                      refine (P).mono ?_
                      rintro e w1 ⟨rfl,l⟩
                      have F:=H l
                      clear l O
                      go_wp2_with fail
                      go_meet
                      case rel=>exact ⟨j,x,F⟩
                    · have Q:=H (o rfl)
                      clear g o
                      go_wp2_with fail
                      refine (P).mono ?_
                      rintro e w1 ⟨rfl,l⟩
                      have F:=H l
                      clear l O
                      go_wp2
                      first|go_end0|((try simp only [Exit.inBlock,Exit.then]);refine GX (Ir rfl _ _ _) rfl ?_)
                      exact⟨rfl,j,HG _ ⟨Sort.permIn_trans _ _ _ a b T (Sort.permIn_trans _ _ _ a b a2 x),Q⟩,F⟩
                case rest =>
                  obtain⟨j,g,o⟩:=hcut;clear O;have a5:=o.sz;have c0:=H (a9.perm (by rw [M];omega) g);have b2:=H (show ∀ i,uz a b j i->uz q p y i from λi h=>HG.out i ⟨Sort.permIn_trans _ _ _ a b T (Sort.permIn_trans _ _ _ a b a2 (Sort.permIn_trans _ _ _ a b g h.1)),h.2⟩);clear HG T a2 g b9 a9 K M;have xp:=o.cell (show f<N by omega);have e2:(f:Int)<(N:Int):=Z;(go_upto_region 17 with fail);go_cut [87] from 19 to 133 (λd S => d=.bool (decide (a > 0) && !aQ j[a-1]! j[f]!)/\Hid (Au G N cp V0 j S))
                  case first =>
                    by_cases Q:a > 0
                    · obtain ⟨g,x⟩:∃ g,a-1=g:=⟨_,rfl⟩
                      have R:(0:Int)<(a:Int):=Z
                      have a4:(a:Int)-1=(g:Int):=Z
                      have b3:(g:Int)<(N:Int):=Z
                      have xa:=o.cell (show g<N by omega)
                      have HH:=H x
                      by_cases P : aQ j[g]! j[f]! = true
                      · clear x
                        go_quiet (first|(go_at_call 216;exact GW (cF P _)))
                        have l:=H (o.drewN nq)
                        go_wp2_with fail
                        go_meet
                        case rel=>exact ⟨by rw [HH.out,P];simp,l⟩
                      · have P : aQ j[g]! j[f]! = false := by simpa using P
                        clear x
                        go_quiet (first|(go_at_call 216;exact GW (cE P _)))
                        have l:=H (o.drewN nq)
                        go_wp2_with fail
                        go_meet
                        case rel=>exact ⟨by rw [HH.out,P];simp [Q],l⟩
                    · have R:decide ((0:Int)<(a:Int))=false:=GR Z
                      go_quiet (fail)
                      have l:=H (o.drewN nq)
                      go_wp2_with fail
                      go_meet
                      case rel=>exact ⟨by simp [Q],l⟩
                  case rest =>
                    obtain⟨rfl,a4⟩:=hcut;clear xp o;cases b3 : (decide (a > 0) && !aQ j[a-1]! j[f]!)
                    · obtain ⟨g,ap,d4,hx⟩:∃ g ap d4,Sort.partition aQ j a b f=(g,ap,d4):=⟨(Sort.partition aQ j a b f).1,(Sort.partition aQ j a b f).2.1,(Sort.partition aQ j a b f).2.2,rfl⟩
                      obtain⟨r1,r2,r3,r4,r5,x,P⟩:=Sort.round_part yt (Sort.partition_holds aQ) t u (show b<=j.size by rw [a5];omega) c0 hx
                      have PT:=H (zd G N cp a b f j V0 _ a4 t u Z hN)
                      rw [hx] at PT
                      simp only [] at PT
                      have R4:=H r4
                      have R5:=H r5
                      have R6:=H x
                      have R7:=H P
                      clear r4 r5 x P hx b3
                      obtain⟨ml,e3⟩:∃ ml,g-a=ml:=⟨_,rfl⟩
                      obtain⟨mr,e4⟩:∃ mr,b-g=mr:=⟨_,rfl⟩
                      obtain⟨l8,e5⟩:∃ l8,L/8=l8:=⟨_,rfl⟩
                      have c7:(g:Int)-(a:Int)=(ml:Int):=Z
                      have c8:(b:Int)-(g:Int)=(mr:Int):=Z
                      have c9:(L:Int).tdiv 8=(l8:Int):=by rw [Ig Z];omega
                      have d5:(L:Int)/8=(l8:Int):=Z
                      obtain⟨m1,P⟩:∃ m1,g+1=m1:=⟨_,rfl⟩
                      have d6:(g:Int)+1=(m1:Int):=Z
                      go_upto_region 20 with fail
                      go_wp2_with fail
                      refine (PT).mono ?_
                      rintro e w7 ⟨rfl,A7⟩
                      have x:=H A7
                      have d7:=A7.sz
                      clear A7 a4 PT
                      by_cases h4:ml<mr
                      · have c4:(ml:Int)<(mr:Int):=by omega
                        have C1:=H (IH a g c d4 w7 Z x Z Z k R4)
                        go_wp2_with fail
                        refine (C1).mono ?_
                        rintro e w8 ⟨rfl,dL,⟨pL,sL⟩,A8⟩
                        obtain⟨Q,R⟩:=R6.out dL pL sL
                        have b4:=H A8
                        have b5:=H (show Sort.Below aQ m1 b dL by rw [<-P];exact Q)
                        have b6:=H (show ∀ i,uz m1 b dL i->uz q p y i from λi h=>b2.out i (R i (by rw [P];exact h.1) (by rw [P];exact h.2)))
                        clear pL sL A8 Q R x C1
                        go_wp2
                        go_roundw
                        case rel=>exact ⟨m1,b,c,_,ap,dL,aY,rfl,rfl,rfl,rfl,Z,Z,Z,k,b5,b6,b4⟩
                        case measure=>(simp [intOf];try omega)
                      · have c4:¬((ml:Int)<(mr:Int)):=by omega
                        have C1:=H (IH m1 b c d4 w7 Z x Z Z k (by rw [<-P];exact R5))
                        go_wp2_with fail
                        refine (C1).mono ?_
                        rintro e w8 ⟨rfl,dL,⟨pL,sL⟩,A8⟩
                        rw [<-P] at pL sL
                        obtain⟨Q,R⟩:=R7.out dL pL sL
                        have b4:=H A8
                        have b5:=H Q
                        have b6:=H (show ∀ i,uz a g dL i->uz q p y i from λi h=>b2.out i (R i h.1 h.2))
                        clear pL sL A8 Q R x C1
                        go_wp2
                        go_roundw
                        case rel=>exact ⟨a,g,c,_,ap,dL,rfl,rfl,rfl,rfl,rfl,Z,Z,Z,k,b5,b6,b4⟩
                        case measure=>(simp [intOf];try omega)
                    · have P : a > 0/\aQ j[a-1]! j[f]! = false := by simpa using b3
                      obtain⟨g,d4,hx⟩:∃ g d4,Sort.partitionEqual aQ j a b f=(g,d4):=⟨(Sort.partitionEqual aQ j a b f).1,(Sort.partitionEqual aQ j a b f).2,rfl⟩
                      obtain⟨r1,r2,r3,r4,r5⟩:=Sort.round_eq yt (Sort.partitionEqual_holds aQ) P.1 t u (show b<=j.size by rw [a5];omega) c0 P.2 hx
                      have PT:=H (Ca G N cp a b f j V0 _ a4 t u Z hN)
                      rw [hx] at PT
                      simp only [] at PT
                      have Q:=H r4
                      have R:=H (show ∀ i,uz g b d4 i->uz q p y i from λi h=>b2.out i (r5 i h.1 h.2))
                      clear r4 r5 hx b3 P
                      go_wp2_with fail
                      refine (PT).mono ?_
                      rintro e w7 ⟨rfl,A7⟩
                      have x:=H A7
                      clear A7 a4 PT
                      go_wp2
                      go_roundw
                      case rel=>exact ⟨g,b,c,wb,wp,d4,rfl,rfl,rfl,rfl,rfl,Z,Z,Z,k,Q,R,x⟩
                      case measure=>(simp [intOf];try omega)
theorem wd (n:Nat) (b:n<18446744073709551616) (w:World):Calls prog 153 #[U n] w λe a=>e=.returned (I (Sort.bitsLen n:Nat))/\a=w:=by
 have h:=Any.bits_Len (SlLaysF0.n15.bits (P:=prog) (ρ:=Tryz.sortR_ren) { Tryz.sortR with }) (n:Int) w Z Z;rw [F0,bitLen_eq _ Z] at h;exact h
theorem wY {W:World} {B:Nat} {e:TypeId} {sz:Nat} {G n cap} {b:List Value} (h:W.ownsRow B e sz (Vl G n cap) n b):W.ownsRow G e sz (Vl G n cap) n b:=by
 refine⟨h.1,?_⟩;rcases h.2 with ⟨e,_⟩|⟨g,c,a,e,f,d⟩;·cases e
 cases e;exact .inr ⟨G,cap,a,rfl,Fv _,d⟩
theorem z_ (W:World):Calls prog 210 #[C,I 0,I 0] W λe b=>e=.returned (.tuple #[])/\b=W:=by
 go_enter func210,ntmps210;go_wp2_with fail;go_loopw [6] (λa wr=>a=I 1/\wr=W) (λa _=>0);case atStart=>exact ⟨rfl,rfl⟩
 case round =>
  obtain⟨rfl,rfl⟩:=hrel;go_wp2;go_end0;exact⟨rfl,rfl⟩
theorem Aa (W:World) (a:Nat):Calls prog 157 #[C,I 0,I 0,I a] W λe b=>e=.returned (.tuple #[])/\b=W:=by
 go_enter func157,ntmps157;go_wp2_with fail;go_loopw [1,2,3,8,9] (λa b c c c wr=>a=I 0/\b=I 0/\wr=W) (λ_ _ _ _ _ _=>0);case atStart=>exact ⟨rfl,rfl,rfl⟩
 case round =>
  obtain⟨rfl,rfl,rfl⟩:=hrel;go_wp2_with fail;refine (z_ wr).mono ?_;rintro e c ⟨rfl,rfl⟩;go_wp2
  first|go_end0|((try simp only [Exit.inBlock,Exit.then]);refine GX (Ir rfl _ _ _) rfl ?_)
  exact⟨rfl,rfl⟩
theorem Ad (W:World) (B:Nat) (v:Value) (l:List Nat) (c:W.ownsRow B 23 1 v l.length (Us l)) (x:l.length<=1000) :
  Calls prog 119 #[v] W λe u=>e=.returned (.tuple #[])/\∃ d,d.Perm l/\d.Pairwise (λa b=>a<=b)/\u.ownsRow B 23 1 v l.length (Us d)/\Below B W u:=by
 rcases c.2 with ⟨rfl,y⟩|⟨G,d,z,F,w,b⟩
 ·have a:l=[]:=List.length_eq_zero_iff.1 y;subst a;have n:=H (wd 0 Z);have g:=H (Aa · (Sort.bitsLen 0));go_enter func119,ntmps119;go_wp2_with fail;refine (n _).mono ?_;rintro e o ⟨rfl,rfl⟩;go_wp2_with fail;refine (g _).mono ?_;rintro e o ⟨rfl,rfl⟩;go_wp2;go_end0;exact⟨rfl,[],List.Perm.refl _,List.Pairwise.nil,c,Fu _ _⟩
 subst F;obtain⟨N,p⟩:∃ N,l.length=N:=⟨_,rfl⟩;rw [p] at c x ⊢;have A:Au G N d W l.toArray W:=⟨by simpa using p,wY c,Fu _ _⟩;have Q:=H A;have q:Sort.bitsLen N<=100:=by
  have:=(Sort.bitsLen_le_iff N 20).2 Z;omega
 have n:=H (wd N Z);have g:=H (Bu G N d W Z (N+1) 0 N (Sort.bitsLen N) l.toArray W Z A Z (Fv _) q (Or.inl rfl));have R:=H c;have K:=H p;clear A c b;go_enter func119,ntmps119;go_wp2_with fail;refine (n _).mono ?_;rintro e o ⟨rfl,rfl⟩;generalize Sort.bitsLen N=S at *;go_wp2_with fail;refine (g).mono ?_;rintro e o ⟨rfl,a,⟨k,m⟩,b⟩;have A:=H (IT k (IT m b));clear k m b g;go_wp2;go_end0;obtain⟨k,m,b⟩:=A.out;have r:l.toArray.size=N:=by simpa using K.out
 have L:(l.toArray.extract 0 N).toList=l:=by rw [<-r];simp
 have M:(a.extract 0 N).toList=a.toList:=by rw [<-b.sz];simp
 have c:=k.2.2;rw [L,M] at c;refine⟨rfl,a.toList,c,?_,aN b.row w,b.bel.mono w⟩;rw [II];intro i j O P s;have t:i<a.size:=by simpa using O
 have f:j<a.size:=by simpa using P
 have:=m i j (FH _) s (by rw [<-b.sz];exact f);rw [getElem!_pos a i t,getElem!_pos a j f] at this;simp [aQ] at this;simpa using this
theorem zc:tH:=by
 intro X q w r l W a j g i;obtain⟨x,y,s⟩:=aK g;cases s;have k:Hid (Calls prog 156 #[C,.func (.func 120) #[] #[J X 0]] W λe b=>∃ v,e=.returned v/\b.ownsRow W.heap.size 23 1 v l.length (Us l)/\D W b):=H ((callsIn_wide (n:=5)).1 (kH X q r a l W j g i));have m:Calls prog 118 #[.func (.func 120) #[] #[J X 0]] W λe b=>∃ v,e=.returned v/\b.ownsRow W.heap.size 23 1 v l.length (Us l)/\D W b:=by
  clear j g i;go_enter func118,ntmps118;go_wp2_with fail;refine (k).mono ?_;rintro e o ⟨v,rfl,c,d⟩;have f:=H (IT c d);clear c d;go_wp2;go_ret;exact⟨v,rfl,f.1,f.2⟩
 have p:=H m;have t:=H i;clear j g i m k;go_enter func81,ntmps81;go_wp2_with fail;refine (p).mono ?_;rintro e o ⟨v,rfl,c,d⟩;have i:=H (Ad o W.heap.size v l c t);have f:=H d;clear c d p;go_wp2_with fail;refine (i).mono ?_;rintro e z ⟨rfl,u,j,k,m,p⟩;have g:=H (IT j (IT k (IT m (f.trans p))));clear j k m p i f;go_wp2;go_ret;exact⟨v,u,rfl,g.1,g.2.1,g.2.2.1,g.2.2.2⟩
end
end Go.Proofs.YtdngbppdomoenaaGreatDoor
