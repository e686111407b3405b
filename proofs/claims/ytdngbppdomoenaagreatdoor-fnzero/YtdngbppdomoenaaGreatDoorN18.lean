import Derived.Test.YtdngbppdomoenaaGreatDoorN12
import Derived.Test.YtdngbppdomoenaaGreatDoorN14
import Derived.Test.YtdngbppdomoenaaGreatDoorN15
import Derived.Test.YtdngbppdomoenaaGreatDoorN17
set_option linter.unusedVariables false
set_option linter.unusedSimpArgs false
set_option maxRecDepth 20000
set_option maxHeartbeats 8000000
namespace Go.Proofs.YtdngbppdomoenaaGreatDoor
open Go.Proofs.Tryz
section
open Go.RowKit
def pJ (P:Nat->Bool):Nat->Int
 | 0 => -1
 | n+1=>if P (5-n) then ((5-n:Nat):Int) else pJ P n
theorem ul (P):pJ P 6=match (List.range 6).find? P with|some s=>(s:Int)|none => -1:=by
 have e:List.range 6=[0,1,2,3,4,5]:=rfl;rw [e];simp only [pJ,List.find?];cases P 0 <;> cases P 1 <;> cases P 2 <;> cases P 3 <;> cases P 4 <;> cases P 5 <;> rfl
theorem sG (P):∀ n,n<=6 -> -1<=pJ P n/\pJ P n<=5
 | 0,_=>by simp [pJ]
 | n+1,h=>by
  have:=sG P n Z
  simp only [pJ]
  split <;> omega
theorem Inv.openS {cf h} (i:Inv cf h) {c s j k:Nat} (b:c<12) (d:s<6) (f:j<aM c) (a:dy h c s=true) (g:k<bX c):isOpen (h.m ((aX c s j+k)/1024))=true:=by
 have l:=cI b d f;have m:aB c s*1024<=aX c s j:=by unfold aX;omega
 have e:=i.slab c s b d ((aX c s j+k)/1024-aB c s) Z;rw [show aB c s+((aX c s j+k)/1024-aB c s)=(aX c s j+k)/1024 by omega,a] at e;rw [i.fine.open];exact e
def ik (h:Hs) (c s:Nat):Bool:=dy h c s && !(freeS h c s).isEmpty
theorem sd (m a) (k:Nat):clean m a (k+1)=(clean m a k&&(be m (a+k)==0)):=by
 unfold clean;rw [lM,List.all_append];simp
def EW (c:Nat) (o:Option (Nat×Nat)) (K:Int):Prop:=match o with|none=>K = -1|some (s,j)=>∃ k:Nat,K=(k:Int)/\k<1062/\sA k=(c,s,j)
theorem mS {h a:Hs} (e:h.st=a.st) (c):∀ n,dz h c n=dz a c n
 | 0=>rfl
 | n+1=>by
  simp only [dz,freeS]
  rw [mS e c n,e]
theorem xd (B x cf h) (c:Nat) (W) (b:Sh B x cf h W) (f:B<=W.heap.size) (g:Inv cf h) (L:c<12) (i:h.used+2000<=1000000) (j:cf.ds.length<=20000) (k:∀ d∈cf.ds,(Lit.int .i64 d).wf=true) :
  Calls prog 158 #[J x.P 0,I c] W λe O=>∃ K:Int,e=.returned (I K)/\Sh B x cf (cr cf c 2000 h).2 O/\Bk B x.Q W O/\EW c (cr cf c 2000 h).1 K:=by
 have HS:=H b;have HI:=H g;have q:=H f;have HF:=H (show dz h c 6<2000 by
  have l:=mc h c 6;have h2:=bd L;have:6*aM c<=6*64:=Is _ Z;omega)
 obtain⟨z,a⟩:∃ z,cr cf c 2000 h=z:=⟨_,rfl⟩;rw [a];have HR:=H a;have HU:=H i;have HD:=H (IB j k);clear b g f a i j k;go_enter func158,ntmps158;go_wp2;go_loopg [5] 2000 (λgk _ wr=>∃ o:Hs,Hid (cr cf c gk o=z)/\Hid (dz o c 6<gk)/\Hid (Sh B x cf o wr)/\Hid (Inv cf o)/\Hid (Bk B x.Q W wr)/\Hid (o.used+gk<=h.used+2000));case atStart=>exact ⟨h,HR,HF,HS,HI,H (Bk.refl _ _ _),H (Fe _)⟩
 case round =>
  obtain⟨o,KR,KF,KS,KI,KB,KU⟩:=hrel;clear HS HI HR HF;have ON:=H (λV (X:Sh B x cf o V) s (a:s<6)=>CQ B x cf o c s V X L a);have FR:=H uv;have OF:=H (λV (X:Sh B x cf o V) s g (hr:RowV V g 3 (Ns .i64 [0,3]))=>yB B x cf o c s (some ⟨g,0,none⟩) 2 2 [0,3] V X (.inr ⟨g,rfl,hr⟩) rfl av Z);go_wp2;go_loopw [5,6,7] (λa b s wq=>∃ n:Nat,n<=6/\s=I (5-(n:Int))/\a=I (pJ (ik o c) n)/\b=I (pJ (λs => !dy o c s) n)/\Hid (Sh B x cf o wq)/\Hid (Bk B x.Q W wq)) (λ_ _ s _=>(intOf s+1).toNat);case atStart=>exact ⟨0,Z,rfl,rfl,rfl,KS,KB⟩
  case round =>
   clear KS KB;obtain⟨n,hn,rfl,rfl,rfl,M,BQ⟩:=hrel;have a9:=H (show B<=wr.heap.size from Fg q BQ.bel.size);have d1:=sG (ik o c) n hn;have d2:=sG (λs => !dy o c s) n hn;by_cases a5:n<6
   ·obtain⟨s,P⟩:∃ s:Nat,s=5-n:=⟨_,rfl⟩;have f:(5-(n:Int))=(s:Int):=Z;have t:s<6:=Z;have d:=H (show pJ (ik o c) (n+1)=if ik o c s then (s:Int) else pJ (ik o c) n by rw [P];rfl);have i:=H (show pJ (λs => !dy o c s) (n+1)=if (!dy o c s) then (s:Int) else pJ (λs => !dy o c s) n by rw [P];rfl);have r:s+n=5:=Z;rw [f];clear P f;have f:=H (ON _ M s t);generalize pJ (ik o c) n=i1 at *;generalize pJ (λs => !dy o c s) n=i2 at *;go_wp2_with fail;refine f.mono ?_;rintro e Q ⟨rfl,u⟩;have S1:=H (M.below u);have B1:=H (M.bkB BQ q u);have L1:=H (Fg a9 u.size);clear u f;cases w:dy o c s
    ·have f:=H (d.trans (Gu (by unfold ik;simp [w])));have k:=H (i.trans (Gv (by simp [w])));clear w d i;go_wp2;go_roundw;(case rel=>exact ⟨n+1,Z,aY,by rw [f.out],by rw [k.out],S1,B1⟩);case measure=>(simp [intOf];try omega)
    have k:=H (i.trans (Gu (by simp [w])));go_wp2_with fail;refine (FR _).mono ?_;rintro e V2 ⟨g,rfl,j,N⟩;have S2:=H (S1.below N);have B2:=H (S1.bkB B1 q N);have L2:=H (Fg L1 N.size);have C2:=H (OF _ S2 s g j);clear N j S1 B1 L1;go_wp2_with fail;refine C2.mono ?_;rintro e V3 ⟨v,rfl,j,b3⟩;have S3:=H (S2.below b3);have B3:=H (S2.bkB B2 q b3);obtain⟨va,vc,rfl⟩:=aK j;have R:=kz o c s L t;have b7:=iA o c s;have hz:=bd L;rw [R];clear j b3 C2 R S2 B2 L2;by_cases j:(freeS o c s).length=0
    ·have f:=H (d.trans (Gu (by unfold ik;rw [List.length_eq_zero_iff] at j;simp [j])));have p:¬((0:Int)<((freeS o c s).length:Int)):=Z;generalize (freeS o c s).length=fl at *;clear w d i;go_wp2;go_roundw;(case rel=>exact ⟨n+1,Z,aY,by rw [f.out],by rw [k.out],S3,B3⟩);case measure=>(simp [intOf];try omega)
    have f:=H (d.trans (Gv (by unfold ik;rw [List.length_eq_zero_iff] at j;simp [w,j])));have p:(0:Int)<((freeS o c s).length:Int):=Z;generalize (freeS o c s).length=fl at *;clear w d i;go_wp2;go_roundw;(case rel=>exact ⟨n+1,Z,aY,by rw [f.out],by rw [k.out],S3,B3⟩);case measure=>(simp [intOf];try omega)
   obtain rfl:n=6:=Z;have E1:=H (show pJ (ik o c) 6=match kj o c with|some s=>(s:Int)|none => -1 from ul _);have E2:=H (show pJ (λs => !dy o c s) 6=match qO o c with|some s=>(s:Int)|none => -1 from ul _);generalize pJ (ik o c) 6=i1 at *;generalize pJ (λs => !dy o c s) 6=i2 at *;obtain⟨f,d⟩:∃ f,gk=f+1:=⟨gk-1,by have:=KF.out;omega⟩;have KG:=H d;have y:=H (show (match dm cf o c with
     | none=>(none,o)
     | some (s,l)=>if clean l.m (aX c s (dR cf l c s)) (bX c) then (some (s,dR cf l c s),{ l with used:=l.used+1 })
      else cr cf c f { l with used:=l.used+1,st:=aE l.st c s (dR cf l c s) 4 })=z by
    have:=KR.out;rw [d,ii] at this;exact this)
   clear d ON OF a5;(go_upto_if 31 with fail);go_cut [5] (λd w'=>∃ (p:Nat) (l:Hs),d=I p/\Hid (dm cf o c=some (p,l))/\Hid (Sh B x cf l w')/\Hid (Bk B x.Q W w'));case first =>
    cases k:kj o c with
    | some p =>
     have e1:i1=(p:Int):=(by have:=E1.out;rw [k] at this;exact this);subst e1;have a0:¬((p:Int)<0):=Z;have F:=H (show dm cf o c=some (p,o) by unfold dm;rw [k]);clear k E1 E2;go_wp2;go_meet;case rel=>exact ⟨p,o,rfl,F,M,BQ⟩
    | none =>
     have e1:i1 = -1:=(by have:=E1.out;rw [k] at this;exact this);subst e1;clear E1;have d:decide ((-1:Int)<0)=true:=av;simp only [d];clear d;cases A:qO o c with
     | none =>
      have e2:i2 = -1:=(by have:=E2.out;rw [A] at this;exact this);subst e2;have F:=H (show z=(none,o) by have:=y.out;unfold dm at this;rw [k,A] at this;exact this.symm);clear k A E2;go_wp2;refine rh (S:=λ_=>True) ?_;have d:True:=trivial;refine pk 0 (I (-1)) d ?_;refine pz 1 (.bool true) d ?_;refine pk 2 (.bool true) d ?_;refine ps 3 d ?_;refine ps 4 d ?_;refine ps 5 d ?_;refine ps 6 d ?_;refine ps 7 d ?_;refine ps 8 d ?_;refine ps 9 d ?_;refine ps 10 d ?_;refine ps 11 d ?_;refine ps 12 d ?_;refine ps 13 d ?_;refine pz 14 (.bool true) d ?_;refine bN ?_;have i:=H (M.below (Fc _ _).drew);have j:=H (M.bkB BQ q (Fc _ _).drew);go_wp2;go_ret;rw [F.out];exact⟨-1,rfl,i,j,rfl⟩
     | some p =>
      have e2:i2=(p:Int):=(by have:=E2.out;rw [A] at this;exact this);subst e2;obtain⟨t,_⟩:=k_ A;have a1:=cy L t;have T:wr.cell? ⟨x.P,6,none⟩=some (J x.T 0):=M.cell 6 _ rfl;have CP:=H (λV=>lZ c p V L t);have CG:=H (λV=>ye c V L);have a0:¬((p:Int)<0):=Z;have a2:decide ((p:Int)<0)=false:=bF;by_cases i:cf.bud<bz o.m 283+dH c
      ·have F:=H (show z=(none,o) by
        have:=y.out;unfold dm at this;rw [k,A] at this;dsimp only at this;rw [Gv i] at this;exact this.symm)
       have CC:=H (λV (X:D wr V)=>jh x.T x.Q 283 (cf.bud:Nat) o.m (aB c p) (dH c) V ((M.below X).sp) Z Z Z);generalize aB c p=sp at *;generalize dH c=pn at *;clear k A E2 i;go_wp2;refine rh (S:=λO=>O.cell? ⟨x.P,6,none⟩=some (J x.T 0)) ?_;have d:=T;refine pk 0 (I p) d ?_;refine pz 1 (.bool false) d ?_;refine pk 2 (.bool false) d ?_;refine pk 3 (J x.P 0) d ?_;refine pk 4 (J x.P 0) d ?_;refine pk 5 (J x.P 6) d ?_;refine pz 6 (J x.T 0) d ?_;refine pk 7 (I c) d ?_;refine pk 8 (I p) d ?_;refine pk 10 (I c) d ?_;refine po 9 λK' r=>?_;go_simp;refine (CP _).mono ?_;rintro e Q ⟨rfl,u⟩;have G:D wr Q:=⟨u.os,u.tape,u.output,u.size,u.block⟩;have l:=ad G T;refine r _ _ ⟨l,?_⟩;clear d;have d:=l;clear r K';refine po 11 λK' r=>?_
       go_simp;refine (CG _).mono ?_;rintro e V2 ⟨rfl,N⟩;have j:=az G N;have h2:=ad j T;refine r _ _ ⟨h2,?_⟩;clear d;have d:=h2;clear r K';refine po 12 λK' r=>?_;go_simp;refine (CC _ j).mono ?_;rintro e V3 ⟨rfl,b3⟩;have k3:=az j b3;have Y:=ad k3 T;refine r _ _ ⟨Y,?_⟩;clear d;have d:=Y;clear r K';refine pz 13 (.bool true) d ?_;refine pz 14 (.bool true) d ?_;refine bN ?_;have SF:=H (IB (M.below k3) (M.bkB BQ q k3));clear G j k3 u N b3 T CP CG CC d l h2 Y;go_wp2;go_ret;rw [F.out];exact⟨-1,rfl,SF.1,SF.2,rfl⟩
      have F:=H (show dm cf o c=some (p,{ o with m:=aU o.m (aB c p) (dH c) }) by
       unfold dm;rw [k,A];dsimp only;rw [Gu i])
      have CC:=H (λV (X:D wr V)=>iI x.T x.Q 283 (cf.bud:Nat) o.m (aB c p) (dH c) V ((M.below X).sp) Z Z Z);generalize aB c p=sp at *;generalize dH c=pn at *;clear k A E2 i;go_wp2;refine rh (S:=λO=>O.cell? ⟨x.P,6,none⟩=some (J x.T 0)) ?_;have d:=T;refine pk 0 (I p) d ?_;refine pz 1 (.bool false) d ?_;refine pk 2 (.bool false) d ?_;refine pk 3 (J x.P 0) d ?_;refine pk 4 (J x.P 0) d ?_;refine pk 5 (J x.P 6) d ?_;refine pz 6 (J x.T 0) d ?_;refine pk 7 (I c) d ?_;refine pk 8 (I p) d ?_;refine pk 10 (I c) d ?_;refine po 9 λK' r=>?_;go_simp;refine (CP _).mono ?_;rintro e Q ⟨rfl,u⟩;have G:D wr Q:=⟨u.os,u.tape,u.output,u.size,u.block⟩;have l:=ad G T;refine r _ _ ⟨l,?_⟩;clear d;have d:=l;clear r K';refine po 11 λK' r=>?_
      go_simp;refine (CG _).mono ?_;rintro e V2 ⟨rfl,N⟩;have j:=az G N;have h2:=ad j T;refine r _ _ ⟨h2,?_⟩;clear d;have d:=h2;clear r K';refine po 12 λK' r=>?_;go_simp;refine (CC _ j).mono ?_;rintro e V3 ⟨rfl,i,f3⟩;have SF:=H (IB ((M.below j).space (Fg a9 j.size) _ i f3) ((M.below j).bkS (M.bkB BQ q j) q f3));have Y:V3.cell? ⟨x.P,6,none⟩=some (J x.T 0):=SF.1.cell 6 _ rfl;refine r _ _ ⟨Y,?_⟩;clear d;have d:=Y;clear r K';refine pz 13 (.bool false) d ?_;refine pz 14 (.bool false) d ?_;refine bN ?_;clear i f3 G j u N T CP CG CC d l h2 Y;go_wp2
      go_meet;case rel=>exact ⟨p,_,rfl,F,H SF.1,H SF.2⟩
   case rest =>
    obtain⟨p,l,rfl,RM,S1,B1⟩:=hcut;obtain⟨t,j1,w,Y,a1,c3,P⟩:=KI.room L RM.out;have i:=H (show (if clean l.m (aX c p (dR cf l c p)) (bX c) then (some (p,dR cf l c p),{ l with used:=l.used+1 })
      else cr cf c f { l with used:=l.used+1,st:=aE l.st c p (dR cf l c p) 4 })=z by
     have:=y.out;rw [RM.out] at this;exact this)
    obtain⟨k,A,F⟩:=oK cf Y;have J1:=H j1;have b0:=H w;have b8:=H P;have L1:=H (show B<=wc.heap.size from Fg q B1.bel.size);have b7:=iA l c p;have hz:=bd L;have R:=kz l c p L t;have b9:=oy cf l Y;obtain⟨K,r⟩:∃ K,(iZ l c p [0,3] 1062)[dr cf l (freeS l c p).length]?=some K:=⟨_,Fj (by rw [R];exact b9)⟩;obtain⟨a2,jj,a6,a4,G⟩:=tm L t r;rw [k] at a6;simp at a6;subst a6;have a8:=KU.out;have b6:=HU.out;have c0:l.used<=1000000:=(by have:=KF.out;omega);have OF:=H (λV (X:Sh B x cf l V) g (hr:RowV V g 3 (Ns .i64 [0,3]))=>yB B x cf l c p (some ⟨g,0,none⟩) 2 2 [0,3] V X (.inr ⟨g,rfl,hr⟩) rfl av Z);have DR:=H (λV (X:Sh B x cf l V)=>oS B x cf l (freeS l c p).length V X Z Z c0 HD.1 HD.2);have a0:=H (show (Zn (iZ l c p [0,3] 1062))[dr cf l (freeS l c p).length]?=some (I K) by simp [Zn,r]);have a7:=H G;have b4:=H F;have a3:=H A;have y:=i;rw [R] at OF;generalize dR cf l c p=j at *;generalize dr cf l (freeS l c p).length=dd at *;generalize c1:(freeS l c p).length=fl at *;clear i k A F j1 w P a1 R r G a4 RM KI c1 a8 b6 M BQ E1 E2 d1 d2;go_wp2_with fail;refine (FR _).mono ?_;rintro e Q ⟨g,rfl,i,u⟩;have S2:=H (S1.below u);have B2:=H (S1.bkB B1 q u);have L2:=H (Fg L1 u.size);have C2:=H (OF _ S2 g i);clear u i S1 B1 L1;go_wp2_with fail;refine C2.mono ?_;rintro e V2 ⟨v,rfl,i,N⟩;have S3:=H (S2.below N);have B3:=H (S2.bkB B2 q N);have F:=H (Fg L2 N.size);obtain⟨va,vc,rfl⟩:=aK i;obtain⟨G,rfl⟩:=cn i Y;have k:=H i;clear i N C2 S2 B2 L2 OF FR;go_wp2_with fail;refine (DR _ S3).mono ?_;rintro e V3 ⟨rfl,A,i⟩;have cK:V3.cell? ⟨G,dd,none⟩=some (I K):=bC (aj k (Ky.grown S3.box rfl i) av) dd _ a0.out;have S4:=H A;have B4:=H (S3.bkP B3 q i);clear A i k S3 B3 F DR a0;obtain⟨h4,A⟩:∃ h4:Hs,h4={ l with used:=l.used+1 }:=⟨_,rfl⟩;rw [<-A] at S4;have SZ:=H (λV=>wN c V L);have a0:=H (show ∀ k,k<bX c->isOpen (l.m ((aX c p j+k)/1024))=true from λk b6=>J1.openS L t a3 b0 b6);have i:=cI L t a3.out;have a8:=H A;obtain⟨a,ha⟩:∃ a,aX c p j=a:=⟨_,rfl⟩;obtain⟨zz,F⟩:∃ zz,bX c=zz:=⟨_,rfl⟩;have HA:=H (show gu K=a by unfold gu;rw [a7.out];exact ha);rw [ha] at y a0 i;rw [F] at y SZ a0 i hz;have c4:=hz.1;have c5:=hz.2.1;have c8:a+zz<191488:=i.2.2;clear A ha F hz i;go_wp2;go_loopw [10,11] (λb i wq=>∃ k:Nat,k<=zz/\i=I k/\b=.bool (clean l.m a k)/\Hid (Sh B x cf h4 wq)/\Hid (Bk B x.Q W wq)) (λ_ i _=>zz-(intOf i).toNat);(case atStart=>exact ⟨0,Fs _,rfl,rfl,S4,B4⟩);case round =>
     clear S4 B4 cK;obtain⟨k,b6,rfl,rfl,S4,B4⟩:=hrel;go_wp2_with fail;refine (SZ _).mono ?_;rintro e V5 ⟨rfl,A⟩;have F:=H (S4.below A);have B5:=H (S4.bkB B4 q A);clear A S4 B4;by_cases a5:k<zz
     ·have c1:(k:Int)<(zz:Int):=Z;have HC:=H (sd l.m a k);cases A:clean l.m a k
      ·have a1:=H (show clean l.m a (k+1)=false by rw [HC.out,A];rfl);clear HC A;go_wp2;refine rh (S:=λ_=>True) ?_;have d:True:=trivial;refine pk 0 (.bool false) d ?_;refine pk 1 (.bool false) d ?_;refine ps 2 d ?_;refine ps 3 d ?_;refine ps 4 d ?_;refine ps 5 d ?_;refine ps 6 d ?_;refine ps 7 d ?_;refine ps 8 d ?_;refine ps 9 d ?_;refine ps 10 d ?_;refine ps 11 d ?_;refine ps 12 d ?_;refine ps 13 d ?_;refine ps 14 d ?_;refine ps 15 d ?_;refine ps 16 d ?_;refine ps 17 d ?_;refine ps 18 d ?_;refine pz 19 (.bool false) d ?_;refine pk 20 (.bool false) d ?_;refine bN ?_;have S6:=H (F.below (Fc _ _).drew);have B6:=H (F.bkB B5 q (Fc _ _).drew);go_wp2;go_roundw;(case rel=>exact ⟨k+1,Z,aY,by rw [a1.out],S6,B6⟩);case measure=>(simp [intOf];try omega)
      have T:V5.cell? ⟨x.P,6,none⟩=some (J x.T 0):=F.cell 6 _ rfl;have c7:V5.cell? ⟨x.P,7,none⟩=some (Vl x.G 1062 x.gc):=F.cell 7 _ rfl;have d3:=(F.slot a2).2.2.2.1;rw [HA.out] at d3;have a4:=a0.out k a5;have GC:=H (show ∀ Q,D V5 Q->Calls prog 167 #[J x.T 0,U (IntKind.u64.wrap ((a:Int)+IntKind.u64.wrap (k:Int)))] Q λe w'=>e=.returned (.int .u8 (be l.m (a+k)))/\w'=Q from λQ b=>by
       rw [ei (k:Int) Z Z,ei _ Z Z];have:=(F.below b).sp;rw [a8.out] at this;exact kO x.T x.Q 283 (cf.bud:Nat) l.m (a+k) Q this Z Z a4)
      rw [A,Bool.true_and] at HC;clear A a4;generalize be l.m (a+k)=bt at *;by_cases a4:bt=0
      ·have a1:=H (show clean l.m a (k+1)=true by rw [HC.out,a4];rfl);subst a4;clear HC;go_wp2;refine rh (S:=λO=>O.cell? ⟨x.P,6,none⟩=some (J x.T 0)/\O.cell? ⟨x.P,7,none⟩=some (Vl x.G 1062 x.gc)/\O.cell? ⟨x.G,K*6+3,none⟩=some (U a)) ?_;have d:=(show _/\_/\_ from ⟨T,c7,d3⟩);refine pk 0 (.bool true) d ?_;refine pk 1 (.bool true) d ?_;refine pk 2 (J x.P 0) d ?_;refine pk 3 (J x.P 0) d ?_;refine pk 4 (J x.P 6) d ?_;refine pz 5 (J x.T 0) d ?_;refine pk 6 (J x.P 0) d ?_;refine pk 7 (J x.P 0) d ?_;refine pk 8 (J x.P 7) d ?_;refine pz 9 (Vl x.G 1062 x.gc) d ?_;refine pk 10 (I K) d ?_;refine pz 11 (J x.G (K*6)) d ?_;refine pk 12 (J x.G (K*6+3)) d ?_;refine pz 13 (U a) d ?_;refine pk 14 (I k) d ?_;refine pz 15 (U (IntKind.u64.wrap (k:Int))) d ?_;refine pz 16 (U (IntKind.u64.wrap ((a:Int)+IntKind.u64.wrap (k:Int)))) d ?_;refine po 17 λK' r=>?_;go_simp;refine (GC _ ((Fc _ _).drew)).mono ?_;rintro e Q ⟨rfl,rfl⟩;refine r _ _ ⟨d,?_⟩;clear r K';refine pz 18 (.bool true) d ?_;refine pz 19 (.bool true) d ?_;refine pk 20 (.bool true) d ?_;refine bN ?_;clear d;have S6:=H (F.below (Fc _ _).drew);have B6:=H (F.bkB B5 q (Fc _ _).drew);go_wp2;go_roundw
       (case rel=>exact ⟨k+1,Z,aY,by rw [a1.out],S6,B6⟩);case measure=>(simp [intOf];try omega)
      have a1:=H (show clean l.m a (k+1)=false by rw [HC.out];simpa using a4);have c2:(bt==0)=false:=(by simpa using a4);clear HC;go_wp2;refine rh (S:=λO=>O.cell? ⟨x.P,6,none⟩=some (J x.T 0)/\O.cell? ⟨x.P,7,none⟩=some (Vl x.G 1062 x.gc)/\O.cell? ⟨x.G,K*6+3,none⟩=some (U a)) ?_;have d:=(show _/\_/\_ from ⟨T,c7,d3⟩);refine pk 0 (.bool true) d ?_;refine pk 1 (.bool true) d ?_;refine pk 2 (J x.P 0) d ?_;refine pk 3 (J x.P 0) d ?_;refine pk 4 (J x.P 6) d ?_;refine pz 5 (J x.T 0) d ?_;refine pk 6 (J x.P 0) d ?_;refine pk 7 (J x.P 0) d ?_;refine pk 8 (J x.P 7) d ?_;refine pz 9 (Vl x.G 1062 x.gc) d ?_;refine pk 10 (I K) d ?_;refine pz 11 (J x.G (K*6)) d ?_;refine pk 12 (J x.G (K*6+3)) d ?_;refine pz 13 (U a) d ?_;refine pk 14 (I k) d ?_;refine pz 15 (U (IntKind.u64.wrap (k:Int))) d ?_;refine pz 16 (U (IntKind.u64.wrap ((a:Int)+IntKind.u64.wrap (k:Int)))) d ?_;refine po 17 λK' r=>?_;go_simp;refine (GC _ ((Fc _ _).drew)).mono ?_;rintro e Q ⟨rfl,rfl⟩;refine r _ _ ⟨d,?_⟩;clear r K';refine pz 18 (.bool false) d ?_;refine pz 19 (.bool false) d ?_;refine pk 20 (.bool false) d ?_;refine bN ?_;clear d;have S6:=H (F.below (Fc _ _).drew);have B6:=H (F.bkB B5 q (Fc _ _).drew);go_wp2;go_roundw
      (case rel=>exact ⟨k+1,Z,aY,by rw [a1.out],S6,B6⟩);case measure=>(simp [intOf];try omega)
     obtain rfl:k=zz:=Z;cases A:clean l.m a k
     ·have a1:=H (show cr cf c f { l with used:=l.used+1,st:=aE l.st c p j 4 }=z by
       have:=y.out;rw [Gu (by rw [A];decide)] at this;exact this)
      have c7:V5.cell? ⟨x.P,7,none⟩=some (Vl x.G 1062 x.gc):=F.cell 7 _ rfl;have d4:=(F.slot a2).2.2.2.2.1;have f4:=F.slotF (K*6+4);have c1:=H (show B<=x.G by
       rcases F.sl.2 with ⟨e,_⟩|⟨g,a4,c2,e,hg,_⟩;·simp at e
       simp at e;omega)
      have S6:=H (show Sh B x cf { l with used:=l.used+1,st:=aE l.st c p j 4 } (V5.setCell ⟨x.G,K*6+4,none⟩ (I 4)) by
       have:=F.setSt a2 4;rw [a7.out,a8.out] at this;exact this)
      have B6:=H (F.bkG B5 q (K*6+4) (I 4));have I6:=H (show Inv cf { l with used:=l.used+1,st:=aE l.st c p j 4 } from (J1.used (l.used+1)).retire L t a3 b4 b0);have F6:=H (show dz { l with used:=l.used+1,st:=aE l.st c p j 4 } c 6<f by
       have q1:=(jC (h:=l) (s:=p) a3 b4 6).2 t;have q2:dz { l with used:=l.used+1,st:=aE l.st c p j 4 } c 6=dz { l with st:=aE l.st c p j 4 } c 6:=rfl;have q3:dz l c 6=dz o c 6:=mS b8 c 6;have q4:=KF.out;have q5:=KG.out;omega)
      have U6:=H (show l.used+1+f<=h.used+2000 by
       have q1:=KU.out;have q5:=KG.out;omega)
      generalize dB h4 K=z4 at d4;clear A y a0 SZ J1;go_wp2
      go_roundg f
      (case rel=>exact ⟨_,a1,F6,S6,I6,B6,U6⟩);case measure=>have:=KG.out;omega
     have a1:=H (show z=(some (p,j),{ l with used:=l.used+1 }) by
      have:=y.out;rw [Gv A] at this;exact this.symm)
     clear A y a0 SZ;go_wp2;go_ret;rw [a1.out];exact⟨(K:Int),rfl,a8.out▸F.out,B5,K,rfl,a2,a7⟩
end
end Go.Proofs.YtdngbppdomoenaaGreatDoor
