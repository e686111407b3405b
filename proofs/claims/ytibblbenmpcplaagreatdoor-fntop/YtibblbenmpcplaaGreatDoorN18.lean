import Derived.Test.YtibblbenmpcplaaGreatDoorN11
import Derived.Test.YtibblbenmpcplaaGreatDoorN12
import Derived.Test.YtibblbenmpcplaaGreatDoorN13
import Derived.Test.YtibblbenmpcplaaGreatDoorN16
set_option linter.unusedVariables false
set_option linter.unusedSimpArgs false
set_option maxRecDepth 20000
set_option maxHeartbeats 8000000
namespace Go.Proofs.YtibblbenmpcplaaGreatDoor
open Go.Proofs.Tryz
variable {cf:Cf} {h:Hs} {B Q n:Nat} {W W':World} {t:TypeId} {x:Sm} {v:Value} {r:Option Nat}
section
open Go.RowKit
def pJ (P:Nat->Bool):Nat->Int
 | 0 => -1
 | n+1=>if P (5-n) then ((5-n:Nat):Int) else pJ P n
theorem ux (P):pJ P 6=match (List.range 6).find? P with|some s=>(s:Int)|none => -1:=by
 have e:List.range 6=[0,1,2,3,4,5]:=rfl;rw [e];simp only [pJ,List.find?];cases P 0 <;> cases P 1 <;> cases P 2 <;> cases P 3 <;> cases P 4 <;> cases P 5 <;> rfl
theorem sK (P):∀ n,n<=6 -> -1<=pJ P n/\pJ P n<=5
 | 0,_=>by simp [pJ]
 | n+1,h=>by
  have:=sK P n Z
  simp only [pJ]
  split <;> omega
theorem Inv.openS (i:Inv cf h) {c s j k:Nat} (b:c<12) (d:s<6) (f:j<aM c) (a:dA h c s=true) (g:k<cy c):isOpen (h.m ((bh c s j+k)/1024))=true:=by
 have l:=ca b d f;have m:aD c s*1024<=bh c s j:=by unfold bh;omega
 have e:=i.slab c s b d ((bh c s j+k)/1024-aD c s) Z;rw [show aD c s+((bh c s j+k)/1024-aD c s)=(bh c s j+k)/1024 by omega,a] at e;rw [i.fine.open];exact e
def ir (h:Hs) (c s:Nat):Bool:=dA h c s && !(freeS h c s).isEmpty
theorem sk (m a) (k:Nat):clean m a (k+1)=(clean m a k&&(bO m (a+k)==0)):=by
 unfold clean;rw [lP,List.all_append];simp
def Fh (c:Nat) (o:Option (Nat×Nat)) (K:Int):Prop:=match o with|none=>K = -1|some (s,j)=>∃ k:Nat,K=(k:Int)/\k<1062/\sA k=(c,s,j)
theorem mT {h a:Hs} (e:h.st=a.st) (c):∀ n,dy h c n=dy a c n
 | 0=>rfl
 | n+1=>by
  simp only [dy,freeS]
  rw [mT e c n,e]
theorem xf (B x cf h) (c:Nat) (W) (b:Sh B x cf h W) (f:B<=W.heap.size) (g:Inv cf h) (L:c<12) (i:h.used+2000<=1000000) (j:cf.ds.length<=20000) (k:∀ d∈cf.ds,(Lit.int .i64 d).wf=true) :
  Calls prog 141 #[J x.P 0,I c] W λe W'=>∃ K:Int,e=.returned (I K)/\Sh B x cf (bN cf c 2000 h).2 W'/\Bk B x.Q W W'/\Fh c (bN cf c 2000 h).1 K:=by
 have HS:=H b;have HI:=H g;have q:=H f;have HF:=H (show dy h c 6<2000 by
  have l:=mf h c 6;have h2:=aX L;have:6*aM c<=6*64:=IJ _ Z;omega)
 obtain⟨z,a⟩:∃ z,bN cf c 2000 h=z:=⟨_,rfl⟩;rw [a];have HR:=H a;have HU:=H i;have HD:=H (IT j k);clear b g f a i j k;go_enter func141,ntmps141;go_wp2;go_loopg [5] 2000 (λgk _ wr=>∃ o:Hs,Hid (bN cf c gk o=z)/\Hid (dy o c 6<gk)/\Hid (Sh B x cf o wr)/\Hid (Inv cf o)/\Hid (Bk B x.Q W wr)/\Hid (o.used+gk<=h.used+2000));case atStart=>exact ⟨h,HR,HF,HS,HI,H (Bk.refl _ _ _),H (Fv _)⟩
 case round =>
  obtain⟨o,KR,KF,KS,KI,KB,KU⟩:=hrel;clear HS HI HR HF;have ON:=H (λV (T:Sh B x cf o V) s (a:s<6)=>Dc B x cf o c s V T L a);have FR:=H uC;have OF:=H (λV (T:Sh B x cf o V) s g (hr:RowV V g 3 (Ns .i64 [0,3]))=>yC B x cf o c s (some ⟨g,0,none⟩) 2 2 [0,3] V T (.inr ⟨g,rfl,hr⟩) rfl ar Z);go_wp2;go_loopw [5,6,7] (λa b s wq=>∃ n:Nat,n<=6/\s=I (5-(n:Int))/\a=I (pJ (ir o c) n)/\b=I (pJ (λs => !dA o c s) n)/\Hid (Sh B x cf o wq)/\Hid (Bk B x.Q W wq)) (λ_ _ s _=>(intOf s+1).toNat);case atStart=>exact ⟨0,Z,rfl,rfl,rfl,KS,KB⟩
  case round =>
   clear KS KB;obtain⟨n,hn,rfl,rfl,rfl,M,BQ⟩:=hrel;have a8:=H (show B<=wr.heap.size from Fx q BQ.bel.size);have d1:=sK (ir o c) n hn;have d2:=sK (λs => !dA o c s) n hn;by_cases a4:n<6
   ·obtain⟨s,O⟩:∃ s:Nat,s=5-n:=⟨_,rfl⟩;have f:(5-(n:Int))=(s:Int):=Z;have t:s<6:=Z;have d:=H (show pJ (ir o c) (n+1)=if ir o c s then (s:Int) else pJ (ir o c) n by rw [O];rfl);have i:=H (show pJ (λs => !dA o c s) (n+1)=if (!dA o c s) then (s:Int) else pJ (λs => !dA o c s) n by rw [O];rfl);have r:s+n=5:=Z;rw [f];clear O f;have f:=H (ON _ M s t);generalize pJ (ir o c) n=i1 at *;generalize pJ (λs => !dA o c s) n=i2 at *;go_wp2_with fail;refine f.mono ?_;rintro e P ⟨rfl,u⟩;have S1:=H (M.below u);have B1:=H (M.bkB BQ q u);have L1:=H (Fx a8 u.size);clear u f;cases w:dA o c s
    ·have f:=H (d.trans (GO (by unfold ir;simp [w])));have k:=H (i.trans (GP (by simp [w])));clear w d i;go_wp2;go_roundw;(case rel=>exact ⟨n+1,Z,aY,by rw [f.out],by rw [k.out],S1,B1⟩);case measure=>(simp [intOf];try omega)
    have k:=H (i.trans (GO (by simp [w])));go_wp2_with fail;refine (FR _).mono ?_;rintro e V2 ⟨g,rfl,j,N⟩;have S2:=H (S1.below N);have B2:=H (S1.bkB B1 q N);have L2:=H (Fx L1 N.size);have C2:=H (OF _ S2 s g j);clear N j S1 B1 L1;go_wp2_with fail;refine C2.mono ?_;rintro e V3 ⟨v,rfl,j,b3⟩;have S3:=H (S2.below b3);have B3:=H (S2.bkB B2 q b3);obtain⟨va,vc,rfl⟩:=aK j;have Q:=kE o c s L t;have b6:=iD o c s;have hz:=aX L;rw [Q];clear j b3 C2 Q S2 B2 L2;by_cases j:(freeS o c s).length=0
    ·have f:=H (d.trans (GO (by unfold ir;rw [List.length_eq_zero_iff] at j;simp [j])));have p:¬((0:Int)<((freeS o c s).length:Int)):=Z;generalize (freeS o c s).length=fl at *;clear w d i;go_wp2;go_roundw;(case rel=>exact ⟨n+1,Z,aY,by rw [f.out],by rw [k.out],S3,B3⟩);case measure=>(simp [intOf];try omega)
    have f:=H (d.trans (GP (by unfold ir;rw [List.length_eq_zero_iff] at j;simp [w,j])));have p:(0:Int)<((freeS o c s).length:Int):=Z;generalize (freeS o c s).length=fl at *;clear w d i;go_wp2;go_roundw;(case rel=>exact ⟨n+1,Z,aY,by rw [f.out],by rw [k.out],S3,B3⟩);case measure=>(simp [intOf];try omega)
   obtain rfl:n=6:=Z;have E1:=H (show pJ (ir o c) 6=match ks o c with|some s=>(s:Int)|none => -1 from ux _);have E2:=H (show pJ (λs => !dA o c s) 6=match qS o c with|some s=>(s:Int)|none => -1 from ux _);generalize pJ (ir o c) 6=i1 at *;generalize pJ (λs => !dA o c s) 6=i2 at *;obtain⟨f,d⟩:∃ f,gk=f+1:=⟨gk-1,by have:=KF.out;omega⟩;have KG:=H d;have y:=H (show (match cJ cf o c with
     | none=>(none,o)
     | some (s,l)=>if clean l.m (bh c s (du cf l c s)) (cy c) then (some (s,du cf l c s),{ l with used:=l.used+1 })
      else bN cf c f { l with used:=l.used+1,st:=aE l.st c s (du cf l c s) 4 })=z by
    have:=KR.out;rw [d,f_] at this;exact this)
   clear d ON OF a4;(go_upto_if 31 with fail);go_cut [5] (λd w'=>∃ (p:Nat) (l:Hs),d=I p/\Hid (cJ cf o c=some (p,l))/\Hid (Sh B x cf l w')/\Hid (Bk B x.Q W w'));case first =>
    cases k:ks o c with
    | some p =>
     have e1:i1=(p:Int):=(by have:=E1.out;rw [k] at this;exact this);subst e1;have a0:¬((p:Int)<0):=Z;have F:=H (show cJ cf o c=some (p,o) by unfold cJ;rw [k]);clear k E1 E2;go_wp2;go_meet;case rel=>exact ⟨p,o,rfl,F,M,BQ⟩
    | none =>
     have e1:i1 = -1:=(by have:=E1.out;rw [k] at this;exact this);subst e1;clear E1;have d:decide ((-1:Int)<0)=true:=ar;simp only [d];clear d;cases A:qS o c with
     | none =>
      have e2:i2 = -1:=(by have:=E2.out;rw [A] at this;exact this);subst e2;have F:=H (show z=(none,o) by have:=y.out;unfold cJ at this;rw [k,A] at this;exact this.symm);clear k A E2;go_wp2;refine rh (S:=λ_=>True) ?_;have d:True:=trivial;refine pk 0 (I (-1)) d ?_;refine pz 1 (.bool true) d ?_;refine pk 2 (.bool true) d ?_;refine ps 3 d ?_;refine ps 4 d ?_;refine ps 5 d ?_;refine ps 6 d ?_;refine ps 7 d ?_;refine ps 8 d ?_;refine ps 9 d ?_;refine ps 10 d ?_;refine ps 11 d ?_;refine ps 12 d ?_;refine ps 13 d ?_;refine pz 14 (.bool true) d ?_;refine bY ?_;have i:=H (M.below (Fu _ _).drew);have B9:=H (M.bkB BQ q (Fu _ _).drew);go_wp2;go_ret;rw [F.out];exact⟨-1,rfl,i,B9,rfl⟩
     | some p =>
      have e2:i2=(p:Int):=(by have:=E2.out;rw [A] at this;exact this);subst e2;obtain⟨t,_⟩:=lr A;have a1:=cD L t;have R:wr.cell? ⟨x.P,6,none⟩=some (J x.T 0):=M.cell 6 _ rfl;have CP:=H (λV=>mc c p V L t);have CG:=H (λV=>yh c V L);have a0:¬((p:Int)<0):=Z;have a2:decide ((p:Int)<0)=false:=bH;by_cases i:cf.bud<bz o.m 283+dI c
      ·have F:=H (show z=(none,o) by
        have:=y.out;unfold cJ at this;rw [k,A] at this;dsimp only at this;rw [GP i] at this;exact this.symm)
       have CC:=H (λV (T:D wr V)=>jm x.T x.Q 283 (cf.bud:Nat) o.m (aD c p) (dI c) V ((M.below T).sp) Z Z Z);generalize aD c p=sp at *;generalize dI c=pn at *;clear k A E2 i;go_wp2;refine rh (S:=λW'=>W'.cell? ⟨x.P,6,none⟩=some (J x.T 0)) ?_;have d:=R;refine pk 0 (I p) d ?_;refine pz 1 (.bool false) d ?_;refine pk 2 (.bool false) d ?_;refine pk 3 (J x.P 0) d ?_;refine pk 4 (J x.P 0) d ?_;refine pk 5 (J x.P 6) d ?_;refine pz 6 (J x.T 0) d ?_;refine pk 7 (I c) d ?_;refine pk 8 (I p) d ?_;refine pk 10 (I c) d ?_;refine po 9 λK' r=>?_;go_simp;refine (CP _).mono ?_;rintro e P ⟨rfl,u⟩;have G:D wr P:=⟨u.os,u.tape,u.output,u.size,u.block⟩;have l:=ad G R;refine r _ _ ⟨l,?_⟩;clear d;have d:=l;clear r K';refine po 11 λK' r=>?_
       go_simp;refine (CG _).mono ?_;rintro e V2 ⟨rfl,N⟩;have j:=az G N;have h2:=ad j R;refine r _ _ ⟨h2,?_⟩;clear d;have d:=h2;clear r K';refine po 12 λK' r=>?_;go_simp;refine (CC _ j).mono ?_;rintro e V3 ⟨rfl,b3⟩;have k3:=az j b3;have X:=ad k3 R;refine r _ _ ⟨X,?_⟩;clear d;have d:=X;clear r K';refine pz 13 (.bool true) d ?_;refine pz 14 (.bool true) d ?_;refine bY ?_;have Y:=H (IT (M.below k3) (M.bkB BQ q k3));clear G j k3 u N b3 R CP CG CC d l h2 X;go_wp2;go_ret;rw [F.out];exact⟨-1,rfl,Y.1,Y.2,rfl⟩
      have F:=H (show cJ cf o c=some (p,{ o with m:=aT o.m (aD c p) (dI c) }) by
       unfold cJ;rw [k,A];dsimp only;rw [GO i])
      have CC:=H (λV (T:D wr V)=>iK x.T x.Q 283 (cf.bud:Nat) o.m (aD c p) (dI c) V ((M.below T).sp) Z Z Z);generalize aD c p=sp at *;generalize dI c=pn at *;clear k A E2 i;go_wp2;refine rh (S:=λW'=>W'.cell? ⟨x.P,6,none⟩=some (J x.T 0)) ?_;have d:=R;refine pk 0 (I p) d ?_;refine pz 1 (.bool false) d ?_;refine pk 2 (.bool false) d ?_;refine pk 3 (J x.P 0) d ?_;refine pk 4 (J x.P 0) d ?_;refine pk 5 (J x.P 6) d ?_;refine pz 6 (J x.T 0) d ?_;refine pk 7 (I c) d ?_;refine pk 8 (I p) d ?_;refine pk 10 (I c) d ?_;refine po 9 λK' r=>?_;go_simp;refine (CP _).mono ?_;rintro e P ⟨rfl,u⟩;have G:D wr P:=⟨u.os,u.tape,u.output,u.size,u.block⟩;have l:=ad G R;refine r _ _ ⟨l,?_⟩;clear d;have d:=l;clear r K';refine po 11 λK' r=>?_
      go_simp;refine (CG _).mono ?_;rintro e V2 ⟨rfl,N⟩;have j:=az G N;have h2:=ad j R;refine r _ _ ⟨h2,?_⟩;clear d;have d:=h2;clear r K';refine po 12 λK' r=>?_;go_simp;refine (CC _ j).mono ?_;rintro e V3 ⟨rfl,i,f3⟩;have Y:=H (IT ((M.below j).space (Fx a8 j.size) _ i f3) ((M.below j).bkS (M.bkB BQ q j) q f3));have X:V3.cell? ⟨x.P,6,none⟩=some (J x.T 0):=Y.1.cell 6 _ rfl;refine r _ _ ⟨X,?_⟩;clear d;have d:=X;clear r K';refine pz 13 (.bool false) d ?_;refine pz 14 (.bool false) d ?_;refine bY ?_;clear i f3 G j u N R CP CG CC d l h2 X;go_wp2
      go_meet;case rel=>exact ⟨p,_,rfl,F,H Y.1,H Y.2⟩
   case rest =>
    obtain⟨p,l,rfl,RM,S1,B1⟩:=hcut;obtain⟨t,j1,w,X,a0,c2,O⟩:=KI.room L RM.out;have i:=H (show (if clean l.m (bh c p (du cf l c p)) (cy c) then (some (p,du cf l c p),{ l with used:=l.used+1 })
      else bN cf c f { l with used:=l.used+1,st:=aE l.st c p (du cf l c p) 4 })=z by
     have:=y.out;rw [RM.out] at this;exact this)
    obtain⟨k,A,F⟩:=oH cf X;have J1:=H j1;have a9:=H w;have b7:=H O;have L1:=H (show B<=wc.heap.size from Fx q B1.bel.size);have b6:=iD l c p;have hz:=aX L;have Q:=kE l c p L t;have b8:=mW cf l X;obtain⟨K,r⟩:∃ K,(jc l c p [0,3] 1062)[dr cf l (freeS l c p).length]?=some K:=⟨_,Fy (by rw [Q];exact b8)⟩;obtain⟨a1,jj,a5,a3,G⟩:=tw L t r;rw [k] at a5;simp at a5;subst a5;have a7:=KU.out;have b4:=HU.out;have b9:l.used<=1000000:=(by have:=KF.out;omega);have OF:=H (λV (T:Sh B x cf l V) g (hr:RowV V g 3 (Ns .i64 [0,3]))=>yC B x cf l c p (some ⟨g,0,none⟩) 2 2 [0,3] V T (.inr ⟨g,rfl,hr⟩) rfl ar Z);have DR:=H (λV (T:Sh B x cf l V)=>oQ B x cf l (freeS l c p).length V T Z Z b9 HD.1 HD.2);have Y:=H (show (Zn (jc l c p [0,3] 1062))[dr cf l (freeS l c p).length]?=some (I K) by simp [Zn,r]);have a6:=H G;have b0:=H F;have a2:=H A;have y:=i;rw [Q] at OF;generalize du cf l c p=j at *;generalize dr cf l (freeS l c p).length=dd at *;generalize c0:(freeS l c p).length=fl at *;clear i k A F j1 w O a0 Q r G a3 RM KI c0 a7 b4 M BQ E1 E2 d1 d2;go_wp2_with fail;refine (FR _).mono ?_;rintro e P ⟨g,rfl,i,u⟩;have S2:=H (S1.below u);have B2:=H (S1.bkB B1 q u);have L2:=H (Fx L1 u.size);have C2:=H (OF _ S2 g i);clear u i S1 B1 L1;go_wp2_with fail;refine C2.mono ?_;rintro e V2 ⟨v,rfl,i,N⟩;have S3:=H (S2.below N);have B3:=H (S2.bkB B2 q N);have F:=H (Fx L2 N.size);obtain⟨va,vc,rfl⟩:=aK i;obtain⟨G,rfl⟩:=cr i X;have k:=H i;clear i N C2 S2 B2 L2 OF FR;go_wp2_with fail;refine (DR _ S3).mono ?_;rintro e V3 ⟨rfl,A,i⟩;have cK:V3.cell? ⟨G,dd,none⟩=some (I K):=bC (ai k (Ky.grown S3.box rfl i) ar) dd _ Y.out;have S4:=H A;have B4:=H (S3.bkP B3 q i);clear A i k S3 B3 F DR Y;obtain⟨h4,A⟩:∃ h4:Hs,h4={ l with used:=l.used+1 }:=⟨_,rfl⟩;rw [<-A] at S4;have SZ:=H (λV=>wN c V L);have Y:=H (show ∀ k,k<cy c->isOpen (l.m ((bh c p j+k)/1024))=true from λk b4=>J1.openS L t a2 a9 b4);have i:=ca L t a2.out;have a7:=H A;obtain⟨a,ha⟩:∃ a,bh c p j=a:=⟨_,rfl⟩;obtain⟨zz,F⟩:∃ zz,cy c=zz:=⟨_,rfl⟩;have HA:=H (show gt K=a by unfold gt;rw [a6.out];exact ha);rw [ha] at y Y i;rw [F] at y SZ Y i hz;have c3:=hz.1;have c4:=hz.2.1;have c5:a+zz<191488:=i.2.2;clear A ha F hz i;go_wp2;go_loopw [10,11] (λb i wq=>∃ k:Nat,k<=zz/\i=I k/\b=.bool (clean l.m a k)/\Hid (Sh B x cf h4 wq)/\Hid (Bk B x.Q W wq)) (λ_ i _=>zz-(intOf i).toNat);(case atStart=>exact ⟨0,FH _,rfl,rfl,S4,B4⟩);case round =>
     clear S4 B4 cK;obtain⟨k,b4,rfl,rfl,S4,B4⟩:=hrel;go_wp2_with fail;refine (SZ _).mono ?_;rintro e V5 ⟨rfl,A⟩;have F:=H (S4.below A);have B5:=H (S4.bkB B4 q A);clear A S4 B4;by_cases a4:k<zz
     ·have c0:(k:Int)<(zz:Int):=Z;have HC:=H (sk l.m a k);cases A:clean l.m a k
      ·have a0:=H (show clean l.m a (k+1)=false by rw [HC.out,A];rfl);clear HC A;go_wp2;refine rh (S:=λ_=>True) ?_;have d:True:=trivial;refine pk 0 (.bool false) d ?_;refine pk 1 (.bool false) d ?_;refine ps 2 d ?_;refine ps 3 d ?_;refine ps 4 d ?_;refine ps 5 d ?_;refine ps 6 d ?_;refine ps 7 d ?_;refine ps 8 d ?_;refine ps 9 d ?_;refine ps 10 d ?_;refine ps 11 d ?_;refine ps 12 d ?_;refine ps 13 d ?_;refine ps 14 d ?_;refine ps 15 d ?_;refine ps 16 d ?_;refine ps 17 d ?_;refine ps 18 d ?_;refine pz 19 (.bool false) d ?_;refine pk 20 (.bool false) d ?_;refine bY ?_;have S6:=H (F.below (Fu _ _).drew);have B6:=H (F.bkB B5 q (Fu _ _).drew);go_wp2;go_roundw;(case rel=>exact ⟨k+1,Z,aY,by rw [a0.out],S6,B6⟩);case measure=>(simp [intOf];try omega)
      have R:V5.cell? ⟨x.P,6,none⟩=some (J x.T 0):=F.cell 6 _ rfl;have c7:V5.cell? ⟨x.P,7,none⟩=some (Vl x.G 1062 x.gc):=F.cell 7 _ rfl;have d3:=(F.slot a1).2.2.2.1;rw [HA.out] at d3;have a3:=Y.out k a4;have GC:=H (show ∀ P,D V5 P->Calls prog 150 #[J x.T 0,U (IntKind.u64.wrap ((a:Int)+IntKind.u64.wrap (k:Int)))] P λe w'=>e=.returned (.int .u8 (bO l.m (a+k)))/\w'=P from λP b=>by
       rw [dX (k:Int) Z Z,dX _ Z Z];have:=(F.below b).sp;rw [a7.out] at this;exact kT x.T x.Q 283 (cf.bud:Nat) l.m (a+k) P this Z Z a3)
      rw [A,Bool.true_and] at HC;clear A a3;generalize bO l.m (a+k)=bt at *;by_cases a3:bt=0
      ·have a0:=H (show clean l.m a (k+1)=true by rw [HC.out,a3];rfl);subst a3;clear HC;go_wp2;refine rh (S:=λW'=>W'.cell? ⟨x.P,6,none⟩=some (J x.T 0)/\W'.cell? ⟨x.P,7,none⟩=some (Vl x.G 1062 x.gc)/\W'.cell? ⟨x.G,K*6+3,none⟩=some (U a)) ?_;have d:=(show _/\_/\_ from ⟨R,c7,d3⟩);refine pk 0 (.bool true) d ?_;refine pk 1 (.bool true) d ?_;refine pk 2 (J x.P 0) d ?_;refine pk 3 (J x.P 0) d ?_;refine pk 4 (J x.P 6) d ?_;refine pz 5 (J x.T 0) d ?_;refine pk 6 (J x.P 0) d ?_;refine pk 7 (J x.P 0) d ?_;refine pk 8 (J x.P 7) d ?_;refine pz 9 (Vl x.G 1062 x.gc) d ?_;refine pk 10 (I K) d ?_;refine pz 11 (J x.G (K*6)) d ?_;refine pk 12 (J x.G (K*6+3)) d ?_;refine pz 13 (U a) d ?_;refine pk 14 (I k) d ?_;refine pz 15 (U (IntKind.u64.wrap (k:Int))) d ?_;refine pz 16 (U (IntKind.u64.wrap ((a:Int)+IntKind.u64.wrap (k:Int)))) d ?_;refine po 17 λK' r=>?_;go_simp;refine (GC _ ((Fu _ _).drew)).mono ?_;rintro e P ⟨rfl,rfl⟩;refine r _ _ ⟨d,?_⟩;clear r K';refine pz 18 (.bool true) d ?_;refine pz 19 (.bool true) d ?_;refine pk 20 (.bool true) d ?_;refine bY ?_;clear d;have S6:=H (F.below (Fu _ _).drew);have B6:=H (F.bkB B5 q (Fu _ _).drew);go_wp2;go_roundw
       (case rel=>exact ⟨k+1,Z,aY,by rw [a0.out],S6,B6⟩);case measure=>(simp [intOf];try omega)
      have a0:=H (show clean l.m a (k+1)=false by rw [HC.out];simpa using a3);have c1:(bt==0)=false:=(by simpa using a3);clear HC;go_wp2;refine rh (S:=λW'=>W'.cell? ⟨x.P,6,none⟩=some (J x.T 0)/\W'.cell? ⟨x.P,7,none⟩=some (Vl x.G 1062 x.gc)/\W'.cell? ⟨x.G,K*6+3,none⟩=some (U a)) ?_;have d:=(show _/\_/\_ from ⟨R,c7,d3⟩);refine pk 0 (.bool true) d ?_;refine pk 1 (.bool true) d ?_;refine pk 2 (J x.P 0) d ?_;refine pk 3 (J x.P 0) d ?_;refine pk 4 (J x.P 6) d ?_;refine pz 5 (J x.T 0) d ?_;refine pk 6 (J x.P 0) d ?_;refine pk 7 (J x.P 0) d ?_;refine pk 8 (J x.P 7) d ?_;refine pz 9 (Vl x.G 1062 x.gc) d ?_;refine pk 10 (I K) d ?_;refine pz 11 (J x.G (K*6)) d ?_;refine pk 12 (J x.G (K*6+3)) d ?_;refine pz 13 (U a) d ?_;refine pk 14 (I k) d ?_;refine pz 15 (U (IntKind.u64.wrap (k:Int))) d ?_;refine pz 16 (U (IntKind.u64.wrap ((a:Int)+IntKind.u64.wrap (k:Int)))) d ?_;refine po 17 λK' r=>?_;go_simp;refine (GC _ ((Fu _ _).drew)).mono ?_;rintro e P ⟨rfl,rfl⟩;refine r _ _ ⟨d,?_⟩;clear r K';refine pz 18 (.bool false) d ?_;refine pz 19 (.bool false) d ?_;refine pk 20 (.bool false) d ?_;refine bY ?_;clear d;have S6:=H (F.below (Fu _ _).drew);have B6:=H (F.bkB B5 q (Fu _ _).drew);go_wp2;go_roundw
      (case rel=>exact ⟨k+1,Z,aY,by rw [a0.out],S6,B6⟩);case measure=>(simp [intOf];try omega)
     obtain rfl:k=zz:=Z;cases A:clean l.m a k
     ·have a0:=H (show bN cf c f { l with used:=l.used+1,st:=aE l.st c p j 4 }=z by
       have:=y.out;rw [GO (by rw [A];decide)] at this;exact this)
      have c7:V5.cell? ⟨x.P,7,none⟩=some (Vl x.G 1062 x.gc):=F.cell 7 _ rfl;have d4:=(F.slot a1).2.2.2.2.1;have f4:=F.slotF (K*6+4);have c0:=H (show B<=x.G by
       rcases F.sl.2 with ⟨e,_⟩|⟨g,a3,c1,e,hg,_⟩;·simp at e
       simp at e;omega)
      have S6:=H (show Sh B x cf { l with used:=l.used+1,st:=aE l.st c p j 4 } (V5.setCell ⟨x.G,K*6+4,none⟩ (I 4)) by
       have:=F.setSt a1 4;rw [a6.out,a7.out] at this;exact this)
      have B6:=H (F.bkG B5 q (K*6+4) (I 4));have I6:=H (show Inv cf { l with used:=l.used+1,st:=aE l.st c p j 4 } from (J1.used (l.used+1)).retire L t a2 b0 a9);have F6:=H (show dy { l with used:=l.used+1,st:=aE l.st c p j 4 } c 6<f by
       have q1:=(jE (h:=l) (s:=p) a2 b0 6).2 t;have q2:dy { l with used:=l.used+1,st:=aE l.st c p j 4 } c 6=dy { l with st:=aE l.st c p j 4 } c 6:=rfl;have q3:dy l c 6=dy o c 6:=mT b7 c 6;have q4:=KF.out;have q5:=KG.out;omega)
      have U6:=H (show l.used+1+f<=h.used+2000 by
       have q1:=KU.out;have q5:=KG.out;omega)
      generalize dC h4 K=z4 at d4;clear A y Y SZ J1;go_wp2
      go_roundg f
      (case rel=>exact ⟨_,a0,F6,S6,I6,B6,U6⟩);case measure=>have:=KG.out;omega
     have a0:=H (show z=(some (p,j),{ l with used:=l.used+1 }) by
      have:=y.out;rw [GP A] at this;exact this.symm)
     clear A y Y SZ;go_wp2;go_ret;rw [a0.out];exact⟨(K:Int),rfl,a7.out▸F.out,B5,K,rfl,a1,a6⟩
def jP (a:An4) (v:Value):Value:=.agg #[I a.code,U a.addr,I a.size,v]
def mQ:Option Nat->An4
 | none=>.no 1
 | some q=>⟨0,q,0,[]⟩
structure mE (cf:Cf):Prop where
 len:cf.ds.length<=20000
 wf:∀ d∈cf.ds,(Lit.int .i64 d).wf=true
 key0:0<=cf.key
 key1:cf.key<18446744073709551616
 mix:cf.mix<=16
 fifo1:1<=cf.fifo
 fifo:cf.fifo<=32
 large:cf.large<=16
 bud:cf.bud<=283
theorem jI {m:Nat->Option (Bool×List Int)} {a:Nat} (c:1<=n) (d:n<=4096) (e:a+n<=1000000) (b:∀ k,k<n->isOpen (m ((a+k)/1024))=true):ci m a (n:Int)=0:=by
 unfold ci;rw [GO Z,GO Z,GO Z,F0,jX b];rfl
theorem Av (a:Nat) (W:World) (ha:a<=1016):Calls prog 142 #[U a] W λe W'=>e=.returned (I (fD a:Nat))/\D W W':=by
 refine (sJ (a:Int) Z Z W).mono ?_;rintro e W' ⟨rfl,b⟩;exact⟨cX (zO ha).1,b⟩
theorem Bk.at (k:Bk B Q W W') {g:Nat} {c:Array Value} {f:Nat×Nat} (a:W.heap[g]?=some (.cells c t f)) (b:¬hT t):W'.heap[g]?=some (.cells c t f):=k.ky.cells g c t f a b
theorem eB (h:t≠123/\t≠126/\t≠94/\t≠130/\t≠23/\t≠204/\t≠5):¬hT t:=by
 intro e;rcases e with e|e|e|e|e|e|e;·exact h.1 e
 ·exact h.2.1 e
 ·exact h.2.2.1 e
 ·exact h.2.2.2.1 e
 ·exact h.2.2.2.2.1 e
 ·exact h.2.2.2.2.2.1 e
 exact h.2.2.2.2.2.2 e
theorem Bk.loc {R:Nat} {W0} (k:Bk B Q W0 W) (b:W.grownBy W' (some R)) (l:W0.heap.size<=R) (i:Q<W0.heap.size) (m:B<=W0.heap.size):Bk B Q W0 W':=by
 have n:=k.bel.size;have d:∀ g,g<W0.heap.size->W'.heap[g]?=W.heap[g]?:=λg j=>b.block g Z bG
 refine⟨k.bel.grown b Z (λr a=>by simp at a;omega),⟨b.os.trans k.ky.os,b.tape.trans k.ky.tape,b.output.trans k.ky.output,Fx k.ky.size b.size,λg c t f a e=>by rw [d g (ag a)];exact k.ky.cells g c t f a e⟩,λg c f a e=>by rw [d g (ag a)];exact k.by5 g c f a e,λg a=>k.pg g (cV (d Q i) a)⟩
theorem Sh.kyO {t:Nat} (a:Sh B x cf h W) (k:Ky (· = t) W W') (d:t=44\/t=42\/t=197):Sh B x cf h W':=by
 rcases d with rfl|rfl|rfl
 all_goals exact ⟨k.cells _ _ _ _ a.box ar,a.bp,a.bq,λg e=>a.bg g (cV (a.sp.qEq k ar) e),a.ds.ky k ar,a.sp.ky k ar ar ar,ai a.sl k ar,ai a.wt k ar,λc b=>⟨(a.wm c b).1.ky k ar,(a.wm c b).2.ky k ar⟩,ai a.rg k ar,ai a.ro k ar,ai a.rl k ar⟩
theorem Sh.off81 {R:Nat} {c:Array Value} (b:Sh B x cf h W) (d:W.heap[R]?=some (.cells c 44)) (a:Array Value):Sh B x cf h (W.setRow R a):=b.kyO (Ky.grown d rfl (aj W R a)) (.inl rfl)
def A4 (cf:Cf) (c a:Nat):Option (Nat×Nat)×Hs->Option Nat×Hs
 | (none,e)=>(none,e)
 | (some (s,j),e)=>(some (bh c s j),{ e with st:=aE e.st c s j 1,rq:=aE e.rq c s j a,m:=ay e.m (bh c s j+eV c) (can cf (bh c s j)) 8 })
theorem iP (cf h) {a:Nat} (ha:a<=1016):av cf h a=A4 cf (fD a) a (bN cf (fD a) 2000 h):=by
 unfold av A4;rw [GP ha];rfl
theorem qz (B x cf h) (a:Nat) (W) (f:Sh B x cf h W) (hB:B<=W.heap.size) (n:Inv cf h) (hu:h.used+2000<=1000000) (g:mE cf) (ha:a<=1016) :
  Calls prog 99 #[J x.P 0,U a] W λe W'=>e=.returned (jP (mQ (av cf h a).1) (C))/\Sh B x cf (av cf h a).2 W'/\Bk B x.Q W W':=by
 obtain⟨G,a1⟩:=jf ha;have r:=H (λV=>Av a V ha);have hz:=aX G;obtain⟨o,_⟩:=Inv.small G 2000 n;obtain⟨y,b⟩:∃ y,bN cf (fD a) 2000 h=y:=⟨_,rfl⟩;have HM:=H (show av cf h a=A4 cf (fD a) a y by rw [<-b];exact iP cf h ha);have q:=H (λV (O:Sh B x cf h V) (c:B<=V.heap.size)=>xf B x cf h (fD a) V O c n G hu g.len g.wf);rw [b] at o;simp only [b] at q;have P:=H o;have t:=H hB;have HD:=H g;have a9:(a:Int)<=1016:=Z;generalize fD a=c at *;have A:D W (W.alloc (.cells #[I 0,U 0,I 0,C] 44)):=(Fu _ _).alloc (Fv _) _;have j:=H (f.below A);have p:=H (f.bkB (Bk.refl _ _ _) hB A);have l:=H (ao W (.cells #[I 0,U 0,I 0,C] 44));obtain⟨i,d⟩:∃ i,av cf h a=i:=⟨_,rfl⟩;rw [d];have T:=H d;have s:=f.ltQ;clear f b o n g A d;go_enter func99,ntmps99;go_wp2_with fail;generalize W.alloc _=V at j p l ⊢;obtain⟨R,b⟩:∃ R,R=W.heap.size:=⟨_,rfl⟩;rw [<-b] at l ⊢;have HR:=H b;have HQ:=H s;clear b s;refine (r.out _).mono ?_;rintro e V1 ⟨rfl,b⟩;have f:=H (j.below b);have d:=H (j.bkB p.out t.out b);have g:=H (ae l.out b);clear b j p l r;go_wp2_with fail;refine (q.out _ f.out (Fx t.out d.bel.size)).mono ?_;rintro e p ⟨K,rfl,j,b,L⟩;have z:=H j;have B2:=H (d.trans b);have X:=H (b.at g.out (eB ar));clear j b f d g q;obtain⟨o,b⟩:=y;cases o with
 | none =>
  have w:K = -1:=L;subst w;have HE:=H (show i=(none,b) by rw [<-T.out,HM.out];rfl);clear L HM;go_wp2_with (refine eG X.out ?_);refine fM (aw X.out _) underlying44 ?_;rw [HE.out];exact⟨rfl,z.off81 X.out _,B2.loc (aj p R _) (by rw [HR.out];exact Fv _) HQ.out t.out⟩
 | some q =>
  obtain⟨s,j⟩:=q;obtain⟨k,rfl,hk,f⟩:∃ k:Nat,K=(k:Int)/\k<1062/\sA k=(c,s,j):=L;obtain⟨M,hj,d,_,_,_⟩:=P.some s j rfl;have a2:=ca G M hj;have I1:=H P.inv;dsimp only at z;have HE:=H (show i=(some (bh c s j),{ b with st:=aE b.st c s j 1,rq:=aE b.rq c s j a,m:=ay b.m (bh c s j+eV c) (can cf (bh c s j)) 8 }) by rw [<-T.out,HM.out];rfl);have b0:¬((k:Int)<0):=Z;have b3:=H f;have n:=H (show Sh B x cf { b with st:=aE b.st c s j 1 } (p.setCell ⟨x.G,k*6+4,none⟩ (I 1)) by
   have:=z.setSt hk 1;rw [f] at this;exact this)
  have B3:=H (z.bkG B2.out t.out (k*6+4) (I 1));have c7:p.cell? ⟨x.P,7,none⟩=some (Vl x.G 1062 x.gc):=z.cell 7 _ rfl;have d4:=(z.slot hk).2.2.2.2.1;have f4:=z.slotF (k*6+4);have Q:=H (show Sh B x cf { b with st:=aE b.st c s j 1,rq:=aE b.rq c s j a } ((p.setCell ⟨x.G,k*6+4,none⟩ (I 1)).setCell ⟨x.G,k*6+5,none⟩ (I a)) by
   have:=n.setRq hk (a:Nat);rw [f] at this;exact this)
  have Y:=H (n.bkG B3.out t.out (k*6+5) (I a));have a3:(p.setCell ⟨x.G,k*6+4,none⟩ (I 1)).cell? ⟨x.P,7,none⟩=some (Vl x.G 1062 x.gc):=n.cell 7 _ rfl;have a4:=(n.slot hk).2.2.2.2.2;have f53:=n.slotF (k*6+5);have a5:((p.setCell ⟨x.G,k*6+4,none⟩ (I 1)).setCell ⟨x.G,k*6+5,none⟩ (I a)).cell? ⟨x.P,7,none⟩=some (Vl x.G 1062 x.gc):=Q.cell 7 _ rfl;obtain⟨e0,e1,e2,e3,e4,e5⟩:=Q.slot hk;have eA:gt k=bh c s j:=by unfold gt;rw [f]
  have eS:dC { b with st:=aE b.st c s j 1,rq:=aE b.rq c s j a } k=1:=by unfold dC;rw [f];exact aS _ _ _ _ _
  have eR:fJ { b with st:=aE b.st c s j 1,rq:=aE b.rq c s j a } k=(a:Nat):=by unfold fJ;rw [f];exact aS _ _ _ _ _
  rw [eA] at e3;rw [eS] at e4;rw [eR] at e5;rw [f] at e0 e1 e2;have I4:=H (show Inv cf { b with st:=aE b.st c s j 1,rq:=aE b.rq c s j a } from by
   have g:=(P.some s j rfl).2.2.2.1;rw [jL] at g;exact P.inv.setSt G M hj 1 (a:Int) Z Z Z (by dsimp only at g ⊢;omega) (.inr d) (λ_=>⟨Z,Z⟩) (λe=>absurd rfl e))
  have N:=H (show ∀ i,i<8->isOpen (b.m ((bh c s j+eV c+i)/1024))=true from λi f=>by
   have:=P.inv.openS (k:=eV c+i) G M hj d Z;rw [H_];exact this)
  have CC:=H (λV f g i l=>nP c (bh c s j) f g i l V G Z);have CS:=H (λV=>rO cf.key ((bh c s j:Nat):Int) V HD.key0 HD.key1 Z Z);have a6:eV c+8<=cy c:=Z;have a0:=H (show can cf (bh c s j)=gI (cx cf.key ((bh c s j:Nat):Int)) from rfl);obtain⟨r,a7⟩:∃ r,bh c s j=r:=⟨_,rfl⟩;obtain⟨u,a8⟩:∃ u,eV c=u:=⟨_,rfl⟩;rw [a7] at e3 N CC CS HE a2 a0;rw [a8] at N CC HE a6;have b4:r+u+8<=191488:=Z;have ST:=H (λV f g (O:Sx x.T x.Q 283 (cf.bud:Nat) b.m V) (hD:Dt x.Q V (some ⟨g,0,none⟩) 8 (gI (cx cf.key (r:Int))))=>qR x.T x.Q 283 (cf.bud:Nat) b.m (r+u) 8 f (some ⟨g,0,none⟩) _ V O hD Z Z 0 (jI Z Z Z N.out));have X4:=H (show ((p.setCell ⟨x.G,k*6+4,none⟩ (I 1)).setCell ⟨x.G,k*6+5,none⟩ (I a)).heap[R]?=some (.cells #[I 0,U 0,I 0,C] 44) by
   obtain⟨c2,l⟩:=di z.sl;obtain⟨c3,F⟩:=di n.sl;exact (Ky.grown F rfl (au (al _ x.G) _ _):Ky (· = 126) _ _).cells _ _ _ _ ((Ky.grown l rfl (au (al _ x.G) _ _):Ky (· = 126) _ _).cells _ _ _ _ X.out ar) ar)
  clear I1 P HM a1 hz d eA eS eR;have d:((p.setCell ⟨x.G,k*6+4,none⟩ (I 1)).setCell ⟨x.G,k*6+5,none⟩ (I a)).heap.size=p.heap.size:=by simp [World.setCell]
  have HV:=H d;clear d;go_wp2;generalize (p.setCell ⟨x.G,k*6+4,none⟩ (I 1)).setCell ⟨x.G,k*6+5,none⟩ (I a)=V4 at Q Y X4 HV ⊢;have A:D V4 (V4.alloc (.cells #[I c,I s,I j,U r,I 1,I a] 126)):=(Fu _ _).alloc (Fv _) _;have F:=H (ao V4 (.cells #[I c,I s,I j,U r,I 1,I a] 126));have l:=H (Q.below A);have B5:=H (Q.bkB Y.out t.out A);have X5:=H (ae X4.out A);clear A e0 e1 e2 e3 e4 e5 c7 d4 f4 a3 a4 f53 a5 z n Q B2 B3 Y X X4;generalize V4.alloc _=V5 at l B5 X5 F ⊢;rw [HV.out] at F;generalize p.heap.size=Y at F ⊢;have SS:=H (show ∀ (V:World) {b:Hs},Sh B x cf b V->V.heap[Y]?=some (.cells #[I c,I s,I j,U r,I 1,I a] 126)->V.cell? ⟨x.P,6,none⟩=some (J x.T 0)/\V.cell? ⟨x.P,4,none⟩=some (U cf.key)/\V.cell? ⟨Y,0,none⟩=some (I c)/\V.cell? ⟨Y,1,none⟩=some (I s)/\V.cell? ⟨Y,2,none⟩=some (I j)/\V.cell? ⟨Y,3,none⟩=some (U r)/\V.cell? ⟨Y,4,none⟩=some (I 1)/\V.cell? ⟨Y,5,none⟩=some (I a) from λV b O b =>
   ⟨O.cell 6 _ rfl,O.cell 4 _ rfl,by simp [World.cell?,b],by simp [World.cell?,b],by simp [World.cell?,b],by simp [World.cell?,b],by simp [World.cell?,b],by simp [World.cell?,b]⟩)
  refine rh (S:=λW'=>W'.cell? ⟨x.P,6,none⟩=some (J x.T 0)/\W'.cell? ⟨x.P,4,none⟩=some (U cf.key)/\W'.cell? ⟨Y,0,none⟩=some (I c)/\W'.cell? ⟨Y,1,none⟩=some (I s)/\W'.cell? ⟨Y,2,none⟩=some (I j)/\W'.cell? ⟨Y,3,none⟩=some (U r)/\W'.cell? ⟨Y,4,none⟩=some (I 1)/\W'.cell? ⟨Y,5,none⟩=some (I a)) ?_;have d:=SS.out _ (l.below (Fu _ _).drew) F.out;iterate 5 (refine py d ?_;simp only [f0,f1,Nat.reduceAdd,lz,l0,ls])
  refine pk 6 (J x.P 0) d ?_;refine pk 7 (J x.P 0) d ?_;refine pk 8 (J x.P 0) d ?_;refine pk 9 (J x.P 4) d ?_;refine pz 10 (U cf.key) d ?_;refine pk 11 (J Y 3) d ?_;refine pz 12 (U r) d ?_;refine po 5 λK' w=>?_;go_simp;refine (CC.out _ _ _ _ _).mono ?_;rintro e V6 ⟨rfl,Q⟩;have k6:D V5 V6:=⟨Q.os,Q.tape,Q.output,Q.size,Q.block⟩;have h6:=SS.out _ (l.below k6) (ae F.out k6);refine w.out _ _ ⟨h6,?_⟩;clear d;have d:=h6;clear w K';refine po 13 λK' w=>?_
  go_simp;refine (CS.out _).mono ?_;rintro e V7 ⟨v,rfl,o7,b7⟩;obtain⟨va,vc,rfl⟩:=aK o7;obtain⟨g,rfl⟩:=cr o7 Z;have n:=az k6 b7;have h7:=SS.out _ (l.below n) (ae F.out n);refine w.out _ _ ⟨h7,?_⟩;clear d;have d:=h7;clear w K';refine po 14 λK' w=>?_;go_simp;refine (ST.out _ vc g (l.below n).sp (Dt.own (l.below k6).sp b7 (dK _) o7)).mono ?_;rintro e V8 ⟨rfl,x8,f8⟩;have S8:=H ((l.below n).space (Fx (Fx t.out B5.bel.size) n.size) _ x8 f8);have B8:=H ((l.below n).bkS (l.bkB B5.out t.out n) t.out f8);have Y8:=H ((f8.ky (l.below n).sp).cells _ _ _ _ (ae F.out n) ar);have X8:=H ((f8.ky (l.below n).sp).cells _ _ _ _ (ae X5.out n) ar);have h8:=SS.out _ S8.out Y8.out;refine w.out _ _ ⟨h8,?_⟩;clear d;have d:=h8;clear w K';refine bY ?_;have y3:=d.2.2.2.2.2.1;clear d h6 h7 h8 k6 n Q b7 o7 x8 f8 SS ST CS CC l B5 X5 F;go_wp2_with (refine eG X8.out ?_);refine fM (aw X8.out _) underlying44 ?_;rw [HE.out];refine⟨rfl,S8.off81 X8.out _,B8.loc (aj V8 R _) (by rw [HR.out];exact Fv _) HQ.out t.out⟩
theorem fq {P:Program} {b:Array Oper} {Q:Exit->Act->World->Prop} {i:Nat} {o:Oper} {K:Act->World->Prop} {a:Act} {w:World} (j:b[i]?=some o) (c:o.guard=none) (s x:Operand)
  (k:o.op=.call { callee:=.builtin .append,args:=#[s,x],argTypes:=#[t,t] }) (l:o.type=t) {e f:Value} {g:World} (m:a.eval s=v) (n:a.eval x=e)
  (p:(Builtin.append_ #[t,t] t #[v,e]).run P w=.ok f g) (q:K (a.put o.dst f) g):wpOp P b Q i K a w:=by
 refine fO j (by simp [Region.wanted,c]) (λK' d=>?_);unfold Oper.wp;simp [execOp,k,l,resolve,invoke,builtin,m,n,p,Result.andThen];exact d _ _ q
theorem Sh.books (d:Sh B x cf h W) (k:Ky (λt=>t=123\/t=130\/t=23) W W') (f i j:Value) (e:List Rg9) (a b:List Nat)
  (m:W'.heap[x.P]?=some (.cells (fN cf { x with rv:=f,ov:=i,lv:=j } h.used) 123)) (n:W'.ownsRow B 130 6 f e.length (eM e)) (o:W'.ownsRow B 23 1 i a.length (Us a)) (p:W'.ownsRow B 23 1 j b.length (Us b)) :
  Sh B { x with rv:=f,ov:=i,lv:=j } cf { h with rg:=e,row:=a,rel:=b } W' :=
 ⟨m,d.bp,d.bq,λg q=>d.bg g (cV (d.sp.qEq k ar) q),d.ds.ky k ar,d.sp.ky k ar ar ar,ai d.sl k ar,ai d.wt k ar,λc l=>⟨(d.wm c l).1.ky k ar,(d.wm c l).2.ky k ar⟩,n,o,p⟩
def l_ (x:Sm):Prop:=∀ g,x.ov.ownBlock=some g->x.lv.ownBlock≠some g
theorem aF {e:TypeId} {sz:Nat} {c:List Value} (h:W.ownsRow B e sz v n c) {g:Nat} (a:v.ownBlock=some g):B<=g/\∃ c,W.heap[g]?=some (.cells c e):=by
 rcases h.2 with ⟨rfl,j⟩|⟨k,d,b,rfl,f,i,_⟩;·simp [Value.ownBlock] at a
 simp [Value.ownBlock] at a;subst a;exact⟨f,b,i⟩
theorem lH {e:TypeId} {sz:Nat} {i:List Value} (h:W.ownsRow B e sz v n i) (j:W.grownBy W' r) (b:∀ g,v.ownBlock=some g->r≠some g):W'.ownsRow B e sz v n i:=by
 refine⟨h.1,?_⟩;rcases h.2 with a|⟨c,d,f,rfl,g,a,k⟩;·exact .inl a
 refine .inr ⟨c,d,f,rfl,g,?_,k⟩;rw [j.block c (ag a) (λe=>b c rfl e.symm)];exact a
theorem Ky.grownO {S:TypeId->Prop} (i:∀ P,r=some P->∃ c t f,W.heap[P]?=some (.cells c t f)/\S t) (b:W.grownBy W' r):Ky S W W':=by
 refine⟨b.os,b.tape,b.output,b.size,λg l m n a j=>?_⟩;rw [b.block g (ag a) (λe=>?_)];·exact a
 obtain⟨c,t,f,d,k⟩:=i g e.symm;rw [a] at d;simp at d;exact j (d.2.1▸k)
theorem Bk.ofGrownO {n:Array Value} {o:Nat×Nat} (d:∀ P,r=some P->B<=P/\∃ c t f,W.heap[P]?=some (.cells c t f)/\hT t/\t≠5/\t≠204) (m:W.heap[Q]?=some (.cells n 204 o)) (j:B<=W.heap.size) (i:W.grownBy W' r):Bk B Q W W':=by
 have k:some Q≠r:=λe=>by
  obtain⟨_,c,t,f,b,_,_,a⟩:=d Q e.symm;rw [m] at b;simp at b;exact a b.2.1.symm
 refine⟨(Fu B W).grown i j (λP l=>(d P l).1),Ky.grownO (λP l=>?_) i,λg q s a _=>?_,λg a=>.inl (cV (i.block Q (ag m) k) a)⟩;·obtain⟨_,c,t,f,b,p,_⟩:=d P l;exact⟨c,t,f,b,p⟩
 rw [i.block g (ag a) (λe=>?_)];·exact a
 obtain⟨_,c,t,f,b,_,p,_⟩:=d g e.symm;rw [a] at b;simp at b;exact p b.2.1.symm
theorem Sh.boxSet (a:Sh B x cf h W) (i:Nat) (v:Value):(W.setCell ⟨x.P,i,none⟩ v).heap[x.P]?=some (.cells ((fN cf x h.used).setIfInBounds i v) 123):=by
 simp [World.setCell,FD,a.box]
theorem Sh.boxF (a:Sh B x cf h W) (i:Nat):W.frozen? ⟨x.P,i,none⟩=false:=by simp [World.frozen?,a.box]
end
end Go.Proofs.YtibblbenmpcplaaGreatDoor
