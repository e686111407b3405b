import Derived.Test.YtibblbenmpcplaaGreatDoorN45
import Derived.Test.YtibblbenmpcplaaGreatDoorN47
set_option linter.unusedVariables false
set_option linter.unusedSimpArgs false
set_option maxRecDepth 20000
set_option maxHeartbeats 8000000
namespace Go.Proofs.YtibblbenmpcplaaGreatDoor
open Go.Proofs.Tryz
section
open Go.RowKit Go.Maps
theorem Bu (G) (N:Nat) (cp V0) (z:N<=100000):∀ (n P F k:Nat) (V:World),F-P<n->AnyU G N cp V0 V->P<=F->F<=N->k<=100 ->
    Calls prog 140 #[.slice (some ⟨G,0,none⟩) N cp,.int .i64 P,.int .i64 F,.int .i64 k] V λr V'=>r=.returned (.tuple #[])/\AnyU G N cp V0 V':=by
  intro n;induction n with
  | zero=>intro _ _ _ _ h;exact absurd h (Nat.not_lt_zero _)
  | succ n a =>
    intro P F k V hn A a4 hb S;have IH:=H a;have o:=H A;clear a A;go_enter func140,ntmps140;go_wp2_with fail;go_loopw [1,2,3,8,9] (λs1 s2 s3 c d wr=>∃ (a b i:Nat) (T wp:Bool),s1=.int .i64 a/\s2=.int .i64 b/\s3=.int .i64 i/\c=.bool T/\d=.bool wp/\a<=b/\b<=F/\P<=a/\i<=100/\Hid (AnyU G N cp V0 wr)) (λs1 s2 _ _ _ _=>(intOf s2-intOf s1).toNat);(case atStart=>exact ⟨P,F,k,true,true,rfl,rfl,rfl,rfl,rfl,a4,Fv _,Fv _,S,o⟩);case round =>
      clear o;obtain⟨a,b,i,T,wp,rfl,rfl,rfl,rfl,rfl,a8,b8,b9,a5,o⟩:=hrel;obtain⟨L,hL⟩:∃ L,b-a=L:=⟨_,rfl⟩;have c0:(b:Int)-(a:Int)=(L:Int):=Z;by_cases c1:L<=12
      · have W:(L:Int)<=12:=by omega
        go_wp2_with fail
        refine (Bj G N cp a b V0 _ o Z z Z).mono ?_
        rintro e X ⟨rfl,f⟩
        have s:=H f
        clear f o
        go_wp2
        first|go_end0|((try simp only [Exit.inBlock,Exit.then]);refine GX (Ir rfl _ _ _) rfl ?_)
        exact⟨rfl,s⟩
      · have W:¬((L:Int)<=12):=by omega
        by_cases a6:i=0
        · subst a6
          go_wp2_with fail
          refine (zX G N cp a b V0 _ o Z Z z).mono ?_
          rintro e X ⟨rfl,f⟩
          have s:=H f
          clear f o
          go_wp2
          first|go_end0|((try simp only [Exit.inBlock,Exit.then]);refine GX (Ir rfl _ _ _) rfl ?_)
          exact⟨rfl,s⟩
        · have a9:¬((i:Int)=0):=by omega
          go_upto_if 35 with fail
          go_cut [3] from 19 to 133 (λs3 t=>∃ c:Nat,s3=.int .i64 c/\c<=100/\Hid (AnyU G N cp V0 t))
          case first =>
            cases T
            · obtain ⟨c,d⟩:∃ c,i-1=c:=⟨_,rfl⟩
              have g:(i:Int)-1=(c:Int):=Z
              go_wp2_with fail
              refine (yo G N cp a b V0 _ o Z Z z).mono ?_
              rintro e X ⟨rfl,f⟩
              have s:=H f
              clear f o
              go_wp2_with fail
              go_meet
              case rel=>exact ⟨c,rfl,Z,s⟩
            · go_wp2_with fail
              go_meet
              case rel=>exact ⟨i,rfl,a5,o⟩
          case rest =>
            obtain⟨c,rfl,d,g⟩:=hcut;clear o;(go_upto_region 10 with fail);go_wp2_with fail;refine (yj G N cp a b V0 _ g Z Z z).mono ?_;rintro e X ⟨pv,K,rfl,M,Y,f⟩;have u:=H f;clear f g;(go_upto_if 50 with fail);go_cut [11,12] from 19 to 133 (λg O t=>∃ j l:Nat,g=.int .i64 j/\O=.int .i64 l/\a<=j/\j<b/\l<=2/\Hid (AnyU G N cp V0 t))
            case first =>
              by_cases q:K=2
              · subst q
                obtain⟨g,v⟩:∃ g,b-1=g:=⟨_,rfl⟩
                obtain⟨m,w⟩:∃ m,pv-a=m:=⟨_,rfl⟩
                obtain⟨p,x⟩:∃ p,g-m=p:=⟨_,rfl⟩
                have y:(b:Int)-1=(g:Int):=Z
                have A:(pv:Int)-(a:Int)=(m:Int):=Z
                have B:(g:Int)-(m:Int)=(p:Int):=Z
                go_wp2_with fail
                refine (Bg G N cp a b V0 _ u Z Z z).mono ?_
                rintro e X ⟨rfl,f⟩
                have s:=H f
                clear f u
                go_wp2_with fail
                go_meet
                case rel=>exact ⟨p,1,rfl,aY,Z,Z,Z,s⟩
              · have g:¬((K:Int)=2):=by omega
                go_wp2_with fail
                go_meet
                case rel=>exact ⟨pv,K,rfl,rfl,M.1,M.2,Y,u⟩
            case rest =>
              obtain⟨j,l,rfl,rfl,A,B,b2,a2⟩:=hcut;clear u Y M;(go_upto_region 15 with fail);go_cut [12,68] from 19 to 133 (λO g t=>∃ bb:Bool,O=.int .i64 l/\g=.bool bb/\Hid (AnyU G N cp V0 t))
              case first =>
                by_cases g:l=1
                case' pos=>subst g
                case' neg=>have m:¬((l:Int)=1):=Z
                all_goals
                  cases T <;> cases wp <;>
                    (go_wp2_with fail
                     go_meet
                     exact⟨_,rfl,rfl,a2⟩)
              case rest =>
                obtain⟨bb,rfl,rfl,v⟩:=hcut;clear a2;(go_upto_if 68 with fail);go_cut [] from 19 to 133 (λt=>Hid (AnyU G N cp V0 t))
                case first =>
                  cases bb
                  · go_wp2_with fail
                    go_meet
                    case rel=>exact v
                  · go_wp2_with fail
                    refine (zH G N cp a b V0 _ v Z Z z).mono ?_
                    rintro e X ⟨g,rfl,f⟩
                    have s:=H f
                    clear f v
                    cases g
                    · go_wp2_with fail
                      go_meet
                      case rel=>exact s
                    · go_wp2
                      first|go_end0|((try simp only [Exit.inBlock,Exit.then]);refine GX (Ir rfl _ _ _) rfl ?_)
                      exact⟨rfl,s⟩
                case rest =>
                  have p:=hcut;clear v hcut;obtain⟨y,xp⟩:=p.at (show j<N by omega);have c2:(j:Int)<(N:Int):=Z;(go_upto_region 17 with fail);go_cut [87] from 19 to 133 (λg t=>∃ q,g=.bool q/\Hid (AnyU G N cp V0 t))
                  case first =>
                    by_cases a3:a > 0
                    · obtain ⟨g,w⟩:∃ g,a-1=g:=⟨_,rfl⟩
                      have m:(0:Int)<(a:Int):=Z
                      have Q:(a:Int)-1=(g:Int):=Z
                      have R:(g:Int)<(N:Int):=Z
                      obtain⟨x,xa⟩:=p.at (show g<N by omega)
                      clear w
                      cases w:aQ x y
                      all_goals
                        go_quiet (first|(go_at_call 202;exact GW (cF w _)))
                        have f:=H (p.dN nq)
                        go_wp2_with fail
                        go_meet
                        case rel=>exact ⟨_,rfl,f⟩
                    · have m:decide ((0:Int)<(a:Int))=false:=GR Z
                      go_quiet (fail)
                      have f:=H (p.dN nq)
                      go_wp2_with fail
                      go_meet
                      case rel=>exact ⟨_,rfl,f⟩
                  case rest =>
                    obtain⟨q,rfl,w⟩:=hcut;clear xp p;cases q
                    · go_upto_region 20 with fail
                      go_wp2_with fail
                      refine (zd G N cp a b j V0 _ w A B Z z).mono ?_
                      rintro e w7 ⟨g,ap,rfl,a3,A7⟩
                      have m:=H A7
                      obtain⟨Q,c3⟩:∃ Q,g-a=Q:=⟨_,rfl⟩
                      obtain⟨R,c4⟩:∃ R,b-g=R:=⟨_,rfl⟩
                      obtain⟨l8,c5⟩:∃ l8,L/8=l8:=⟨_,rfl⟩
                      have b3:(g:Int)-(a:Int)=(Q:Int):=Z
                      have b4:(b:Int)-(g:Int)=(R:Int):=Z
                      have b5:(L:Int).tdiv 8=(l8:Int):=by rw [Ig Z];omega
                      have b6:(L:Int)/8=(l8:Int):=Z
                      obtain⟨m1,c6⟩:∃ m1,g+1=m1:=⟨_,rfl⟩
                      have b7:(g:Int)+1=(m1:Int):=Z
                      clear A7 w
                      by_cases h4:Q<R
                      · have a7:(Q:Int)<(R:Int):=by omega
                        go_wp2_with fail
                        refine (IH a g c w7 Z m Z Z d).mono ?_
                        rintro e w8 ⟨rfl,A8⟩
                        have x:=H A8
                        clear A8 m
                        go_wp2
                        go_roundw
                        case rel=>exact ⟨m1,b,c,_,ap,aY,rfl,rfl,rfl,rfl,Z,Z,Z,d,x⟩
                        case measure=>(simp [intOf];try omega)
                      · have a7:¬((Q:Int)<(R:Int)):=by omega
                        go_wp2_with fail
                        refine (IH m1 b c w7 Z m Z Z d).mono ?_
                        rintro e w8 ⟨rfl,A8⟩
                        have x:=H A8
                        clear A8 m
                        go_wp2
                        go_roundw
                        case rel=>exact ⟨a,g,c,_,ap,rfl,rfl,rfl,rfl,rfl,Z,Z,Z,d,x⟩
                        case measure=>(simp [intOf];try omega)
                    · go_wp2_with fail
                      refine (Ca G N cp a b j V0 _ w A B Z z).mono ?_
                      rintro e w7 ⟨g,rfl,a3,A7⟩
                      have m:=H A7
                      clear A7 w
                      go_wp2
                      go_roundw
                      case rel=>exact ⟨g,b,c,T,wp,rfl,rfl,rfl,rfl,rfl,Z,Z,Z,d,m⟩
                      case measure=>(simp [intOf];try omega)
theorem wd (n:Nat) (b:n<18446744073709551616) (w:World):Calls prog 136 #[U n] w λe a=>e=.returned (I (Sort.bitsLen n:Nat))/\a=w:=by
 have h:=Any.bits_Len (SlLaysF0.n15.bits (P:=prog) (ρ:=Tryz.sortR_ren) { Tryz.sortR with }) (n:Int) w Z Z;rw [F0,bitLen_eq _ Z] at h;exact h
theorem wY {W:World} {B:Nat} {e:TypeId} {sz:Nat} {G n cap} {b:List Value} (h:W.ownsRow B e sz (Vl G n cap) n b):W.ownsRow G e sz (Vl G n cap) n b:=by
 refine⟨h.1,?_⟩;rcases h.2 with ⟨e,_⟩|⟨g,c,a,e,f,d⟩;·cases e
 cases e;exact .inr ⟨G,cap,a,rfl,Fv _,d⟩
theorem z_ (W:World):Calls prog 196 #[C,I 0,I 0] W λe b=>e=.returned (.tuple #[])/\b=W:=by
 go_enter func196,ntmps196;go_wp2_with fail;go_loopw [6] (λa wr=>a=I 1/\wr=W) (λa _=>0);case atStart=>exact ⟨rfl,rfl⟩
 case round =>
  obtain⟨rfl,rfl⟩:=hrel;go_wp2;go_end0;exact⟨rfl,rfl⟩
theorem Aa (W:World) (a:Nat):Calls prog 140 #[C,I 0,I 0,I a] W λe b=>e=.returned (.tuple #[])/\b=W:=by
 go_enter func140,ntmps140;go_wp2_with fail;go_loopw [1,2,3,8,9] (λa b c c c wr=>a=I 0/\b=I 0/\wr=W) (λ_ _ _ _ _ _=>0);case atStart=>exact ⟨rfl,rfl,rfl⟩
 case round =>
  obtain⟨rfl,rfl,rfl⟩:=hrel;go_wp2_with fail;refine (z_ wr).mono ?_;rintro e c ⟨rfl,rfl⟩;go_wp2
  first|go_end0|((try simp only [Exit.inBlock,Exit.then]);refine GX (Ir rfl _ _ _) rfl ?_)
  exact⟨rfl,rfl⟩
theorem Ad (W:World) (B:Nat) (v:Value) (l:List Nat) (a:W.ownsRow B 23 1 v l.length (Us l)) (n:l.length<=1000) :
  Calls prog 94 #[v] W λe i=>e=.returned (.tuple #[])/\∃ b,i.ownsRow B 23 1 v l.length (Us b)/\Below B W i:=by
 rcases a.2 with ⟨rfl,o⟩|⟨G,c,p,q,j,m⟩
 ·have d:l=[]:=List.length_eq_zero_iff.1 o;subst d;have f:=H (wd 0 Z);have b:=H (Aa · (Sort.bitsLen 0));go_enter func94,ntmps94;go_wp2_with fail;refine (f _).mono ?_;rintro e g ⟨rfl,rfl⟩;go_wp2_with fail;refine (b _).mono ?_;rintro e g ⟨rfl,rfl⟩;go_wp2;go_end0;exact⟨rfl,[],a,Fu _ _⟩
 subst q;obtain⟨N,k⟩:∃ N,l.length=N:=⟨_,rfl⟩;rw [k] at a n ⊢;have d:Sort.bitsLen N<=100:=by
  have:=(Sort.bitsLen_le_iff N 20).2 Z;omega
 have f:=H (wd N Z);have b:=H (Bu G N c W Z (N+1) 0 N (Sort.bitsLen N) W Z ⟨l.toArray,by simpa using k,wY a,Fu _ _⟩ Z (Fv _) d);clear a m;go_enter func94,ntmps94;go_wp2_with fail;refine (f _).mono ?_;rintro e g ⟨rfl,rfl⟩;generalize Sort.bitsLen N=s at *;go_wp2_with fail;refine (b).mono ?_;rintro e g ⟨rfl,r,a⟩;have m:=H a;clear a b;go_wp2;go_end0;exact⟨rfl,r.toList,aN m.row j,m.bel.mono j⟩
theorem zc:tH:=by
 intro X q u r l W a j g i;obtain⟨w,x,s⟩:=aK g;cases s;have k:Hid (Calls prog 139 #[C,.func (.func 95) #[] #[J X 0]] W λe b=>∃ v,e=.returned v/\b.ownsRow W.heap.size 23 1 v l.length (Us l)/\D W b):=H ((callsIn_wide (n:=5)).1 (kH X q r a l W j g i));have m:Calls prog 93 #[.func (.func 95) #[] #[J X 0]] W λe b=>∃ v,e=.returned v/\b.ownsRow W.heap.size 23 1 v l.length (Us l)/\D W b:=by
  clear j g i;go_enter func93,ntmps93;go_wp2_with fail;refine (k).mono ?_;rintro e o ⟨v,rfl,c,d⟩;have f:=H (IT c d);clear c d;go_wp2;go_ret;exact⟨v,rfl,f.1,f.2⟩
 have p:=H m;have t:=H i;clear j g i m k;go_enter func53,ntmps53;go_wp2_with fail;refine (p).mono ?_;rintro e o ⟨v,rfl,c,d⟩;have g:=H (Ad o W.heap.size v l c t);have f:=H d;clear c d p;go_wp2_with fail;refine (g).mono ?_;rintro e p ⟨rfl,m,i,j⟩;have k:=H (IT i (f.trans j));clear i j g f;go_wp2;go_ret;exact⟨v,m,rfl,k.1,k.2⟩
end
end Go.Proofs.YtibblbenmpcplaaGreatDoor
