import Derived.Test.YtdngbppdomoenaaGreatDoorN11
set_option linter.unusedVariables false
set_option linter.unusedSimpArgs false
set_option maxRecDepth 20000
set_option maxHeartbeats 8000000
namespace Go.Proofs.YtdngbppdomoenaaGreatDoor
open Go.Proofs.Tryz
section
open Go.RowKit Go.Shelf
theorem Sf.ofRow {Q:Nat} {W a:World} (b:Below 0 W a) (d:∀ g,g≠Q->a.heap[g]?=W.heap[g]?) (e:∀ j g,a.cell? ⟨Q,j*3+2,none⟩=some (Vl g 1024 1024)->W.cell? ⟨Q,j*3+2,none⟩=some (Vl g 1024 1024)):Sf Q W a :=
 ⟨b.os,b.tape,b.output,b.size,λg _ c _=>d g c,λg ⟨j,f⟩=>.inl ⟨j,e j g f⟩⟩
theorem Sx.drop1 {T Q n bud m W} (h:Sx T Q n bud m W) (k:Nat) (f:k<n) :
  Sx T Q n bud (dT m k none) (((W.setCell ⟨Q,k*3,none⟩ (.bool false)).setCell ⟨Q,k*3+1,none⟩ (.bool false)).setCell ⟨Q,k*3+2,none⟩ (C)) /\
  Sf Q W (((W.setCell ⟨Q,k*3,none⟩ (.bool false)).setCell ⟨Q,k*3+1,none⟩ (.bool false)).setCell ⟨Q,k*3+2,none⟩ (C)):=by
 refine⟨h.set3 k f none _ _ _ (λg j _ _ _=>bH) (λc a a b d _=>⟨a,b,d⟩),?_⟩;refine Sf.ofRow ((((Fu 0 W).setCell (FH _) _).setCell (FH _) _).setCell (FH _) _) (λg b=>?_) (λj g a=>?_);·rw [GQ _ _ _ _ b,GQ _ _ _ _ b,GQ _ _ _ _ b]
 obtain⟨c,d,_⟩:=h.row;have l:=bj (bj (bj d (i:=k*3) (.bool false)) (i:=k*3+1) (.bool false)) (i:=k*3+2) (C);simp only [World.cell?,l] at a;simp only [World.cell?,d];by_cases e:j=k;·subst e;rw [FK] at a;simp at a
 have q:(((c.setIfInBounds (k*3) (.bool false)).setIfInBounds (k*3+1) (.bool false)).setIfInBounds (k*3+2) (C))[j*3+2]?=c[j*3+2]?:=by
  rw [FK,GO Z,FK,GO Z,FK,GO Z]
 rw [q] at a;exact a
theorem qJ (T Q n bud m) (first a:Nat) (w) (h:Sx T Q n bud m w) (u:n<=4096) (v:first+a<=n) :
  Calls prog 170 #[J T 0,I first,I a] w λe g=>e=.returned (.tuple #[])/\Sx T Q n bud (bQ m first a) g/\Sf Q w g:=by
 obtain⟨o,q⟩:=h.c;have r:=H h;clear h;go_enter func170,ntmps170;go_wp2;go_loopw [6] (λi wr=>∃ k:Nat,k<=a/\i=I ((first:Int)+(k:Int))/\Sx T Q n bud (bQ m first k) wr/\Sf Q w wr) (λi _=>first+a-(intOf i).toNat);case atStart=>exact ⟨0,FH _,aY,r.out,Sf.refl Q w⟩
 case round =>
  obtain⟨k,x,rfl,b,f⟩:=hrel;by_cases s:k<a
  ·obtain⟨o,q⟩:=b.c;obtain⟨y,p,l,c,z,A,B,_⟩:=b.three (first+k) Z;obtain⟨F,j,t,_⟩:=b.row;have f1:∀ i,wr.frozen? ⟨Q,i,none⟩=false:=λi=>by simp [World.frozen?,j]
   have f2:=f1 ((first+k)*3);have f3:=f1 ((first+k)*3+1);have f4:=f1 ((first+k)*3+2);have d:=H (IT (b.drop1 (first+k) Z) f);clear b f f1 j t;go_wp2;go_roundw;(case rel=>exact ⟨k+1,Z,aY,d.1.1,d.2.trans d.1.2⟩);case measure=>simp [intOf];omega
  have c:k=a:=Z;subst c;have d:=H (IT b f);clear b f;go_wp2;go_end0;exact⟨rfl,d.out⟩
end
section
open Go.RowKit Go.Shelf Go.Maps
theorem EV (t:World) (a:Option Addr) (c d:Nat) (zs:List Int) (h0:IsRow .u8 t a c d zs) (i:c<=1048576) (R gv tt W X Y k):B0 t a c d R gv tt W X Y k (λm=>m=13\/m=14\/m=15):=by
  intro m K Q q w;intros;rename_i hm O3 L;have N:=H (λV (hV:Rd t a c d R V V)=>d_ t a c d zs h0 i R V V hV);have BY:=H (λn (hn:n<=10000) V (hV:Rd t a c d R V V)=>nF t a c d zs h0 i R n hn V V hV);have US:=H gD;have HU:=H u64_in;clear h0;have HK:=H L;clear L
  conv=>arg 2;whnf
  rcases hm with rfl|rfl|rfl <;>
  (obtain ⟨x,y,z,A,B,F⟩:=O3.cells
   have G:=O3.fr 0
   go_wp2_with fail
   have j:=H (O3.setKd 6)
   clear O3 x y z A B F G
   refine (N _ j.rd.at).mono ?_
   rintro e a9 ⟨⟨M,a4,rfl⟩,r⟩
   have f:=H (j.next r)
   clear r j
   obtain⟨n,hn,en⟩:∃ n:Nat,n<=24/\(M:Int)%24+1=(n:Int):=⟨M%24+1,Z,Z⟩
   go_wp2_with fail
   refine (BY n Z _ f.rd.at).mono ?_
   rintro e b0 ⟨v,ys,rfl,a0,O,ho,r⟩
   obtain⟨va,vb,vc,rfl⟩:=fW ho
   have a1:=ik ho
   subst a0
   obtain rfl:=a1
   have P:=gz f.rd.g.size ho
   have g:=H (f.next r)
   have HB:=H P
   have a2:=H O
   clear O
   clear r ho P en f
   obtain⟨x,y,z,A,B,F⟩:=g.cells
   have G:=g.fr 5
   go_wp2_with fail
   have l:=H (g.setD va vc ys HB a2)
   clear g x y z A B F G
   refine (N _ l.rd.at).mono ?_
   rintro e b1 ⟨⟨a3,a5,rfl⟩,r⟩
   have o:=H (l.next r)
   clear r l
   obtain⟨x,y,z,A,B,F⟩:=o.cells
   have G:=o.fr 2
   have Ox:=H (o.setP ((a3:Int)%20) Z Z)
   by_cases a6:200<=k
   · go_wp2_with fail
     clear x y z A B F G
     refine (N _ Ox.rd.at).mono ?_
     rintro e b2 ⟨⟨S,a7,rfl⟩,r⟩
     have T:=H (Ox.next r)
     clear r Ox
     have hu:=ui ((S:Int)%12)
     go_wp2_with fail
     refine (US _ _).mono ?_
     rintro e b3 ⟨rfl,b⟩
     have p:=H (T.below b)
     clear b T
     generalize us ((S:Int)%12)=u at hu ⊢
     go_wp2_with fail
     refine (N _ p.rd.at).mono ?_
     rintro e b4 ⟨⟨b5,a8,rfl⟩,r⟩
     have s:=H (p.next r)
     clear r p
     obtain⟨x,y,z,A,B,F⟩:=s.cells
     have G:=s.fr 2
     go_wp2
     apply HK.out
     exact H (s.setP _ (by first|omega|exact (HU _).1|(simp;done)) (by first|omega|exact (HU _).2|(simp;done)))
   · go_wp2
     apply HK.out
     exact Ox)
theorem wV (q:World) (a:Option Addr) (l m:Nat) (zs:List Int) (b:IsRow .u8 q a l m zs) (y:l<=1048576) (R W) (j:Rd q a l m R W W) :
  Calls prog 27 #[.pointer (some ⟨R,0,none⟩)] W λe W'=>∃ c:Cd,e=.returned (.agg (pQ c).toArray)/\c.ds.length<=60/\Ok4 W.heap.size c W'/\Rd q a l m R W W':=by
 have N:=H (λV (hV:Rd q a l m R V V)=>d_ q a l m zs b y R V V hV);have WD:=H (λV (hV:Rd q a l m R V V)=>ij q a l m zs b y R V V hV);have AP:=H gn;have RN:=H j.lt;have f:=H (j.below ((Fu _ _).alloc (Fv _) (.cells #[.int .i64 0,.int .i64 0,.int .i64 0,.int .i64 0,.int .u64 0,.slice none 0 0] 26)));have g:=H (ao W (.cells #[.int .i64 0,.int .i64 0,.int .i64 0,.int .i64 0,.int .u64 0,.slice none 0 0] 26));clear b j;go_enter func27,ntmps27;go_wp2_with fail;generalize W.alloc (.cells #[.int .i64 0,.int .i64 0,.int .i64 0,.int .i64 0,.int .u64 0,.slice none 0 0] 26)=V1 at f g ⊢;refine (N _ f.at).mono ?_;rintro e V2 ⟨⟨k,hk,rfl⟩,b⟩;have j:=H (f.of b);have n:=H ((b.g.block _ (ag g) (λe=>by cases e;have:=RN.out;omega)).trans g);clear b f g;go_wp2_with fail;refine (N _ j.at).mono ?_;rintro e V3 ⟨⟨b9,a3,rfl⟩,b⟩;have f:=H (j.of b);have g:=H ((b.g.block _ (ag n) (λe=>by cases e;have:=RN.out;omega)).trans n);clear b j n;go_wp2_with fail;refine (WD _ f.at).mono ?_;rintro e O ⟨⟨ky,a0,a1,rfl⟩,b⟩;have j:=H (f.of b);have n:=H ((b.g.block _ (ag g) (λe=>by cases e;have:=RN.out;omega)).trans g);clear b f g;have f:=H (show Ch q a l m R W O.heap.size W.heap.size ⟨(k:Int)%4,(k:Int)/4%5+1,(k:Int)/20%3+1,(b9:Nat),ky,[],none,0⟩ (O.alloc (.cells #[.int .i64 ((k:Int)%4),.int .i64 ((k:Int)/4%5+1),.int .i64 ((k:Int)/20%3+1),.int .i64 (b9:Nat),.int .u64 ky,.slice none 0 0] 26)) from by
  have b:=(Fu O.heap.size O).alloc (Fv _) (.cells #[.int .i64 ((k:Int)%4),.int .i64 ((k:Int)/4%5+1),.int .i64 ((k:Int)/20%3+1),.int .i64 (b9:Nat),.int .u64 ky,.slice none 0 0] 26);have g:=ag n.out;exact⟨j.below b,RN,ao O _,j.g.size,by rw [b.block _ g];exact n,Fv _,Z,⟨a0,a1,λx g=>(by cases g),⟨rfl,.inl ⟨rfl,rfl⟩⟩⟩⟩)
 clear j n;go_upto_block 0 with fail
 generalize O.alloc (.cells #[.int .i64 ((k:Int)%4),.int .i64 ((k:Int)/4%5+1),.int .i64 ((k:Int)/20%3+1),.int .i64 (b9:Nat),.int .u64 ky,.slice none 0 0] 26)=V5 at f ⊢;generalize O.heap.size=X at f ⊢;generalize a4:W.heap.size=Y at f ⊢;obtain⟨P,o,p⟩:∃ c:Cd,c.ds=[]/\Hid (Ch q a l m R W X Y c V5):=⟨_,rfl,f⟩;clear f;go_cut [25] (λ_ S=>∃ c,c.ds=[]/\Hid (Ch q a l m R W X Y c S));case first =>
  cases t:((k:Int)==255);case true =>
   go_wp2_with fail;refine (N _ p.rd.at).mono ?_;rintro e j ⟨⟨n,g,rfl⟩,r⟩;have f:=H (p.next r);clear r p;obtain⟨z,A,B,F,G,L⟩:=f.cells;have zf:=f.fr 0;go_wp2;go_meet;case rel=>(refine⟨_,?_,H (f.setMi _)⟩;exact o)
  cases u:((k:Int)==254);case true =>
   go_wp2_with fail;refine (N _ p.rd.at).mono ?_;rintro e j ⟨⟨n,g,rfl⟩,r⟩;have f:=H (p.next r);clear r p;obtain⟨z,A,B,F,G,L⟩:=f.cells;have zf:=f.fr 1;go_wp2;go_meet;case rel=>(refine⟨_,?_,H (f.setFi _)⟩;exact o)
  cases w:((k:Int)==253);case true =>
   go_wp2_with fail;refine (N _ p.rd.at).mono ?_;rintro e j ⟨⟨n,g,rfl⟩,r⟩;have f:=H (p.next r);clear r p;obtain⟨z,A,B,F,G,L⟩:=f.cells;have zf:=f.fr 2;go_wp2;go_meet;case rel=>(refine⟨_,?_,H (f.setLa _)⟩;exact o)
  cases x:((k:Int)==252);case true =>
   go_wp2_with fail;refine (AP _).mono ?_;rintro e K ⟨rfl,b⟩;have s:=H (p.below b);clear b p;go_wp2_with fail;refine (N _ s.rd.at).mono ?_;rintro e j ⟨⟨n,g,rfl⟩,r⟩;have f:=H (s.next r);clear r s;obtain⟨z,A,B,F,G,L⟩:=f.cells;have zf:=f.fr 3;go_wp2;go_meet;case rel=>(refine⟨_,?_,H (f.setBu _)⟩;exact o)
  go_wp2;go_meet;case rel=>exact ⟨P,o,p⟩
 case rest =>
  clear p o P;obtain⟨P,o,p⟩:=hcut;go_upto_if 56 with fail
  go_cut [56] (λ_ S=>∃ c,c.ds=[]/\Hid (Ch q a l m R W X Y c S));case first =>
   cases f:((k:Int)%3==0);case true =>
    obtain⟨z,A,B,F,G,L⟩:=p.cells;have zf:=p.fr 3;go_wp2;go_meet;case rel=>(refine⟨_,?_,H (p.setBu _)⟩;exact o)
   go_wp2;go_meet;case rel=>exact ⟨P,o,p⟩
  case rest =>
   clear p o P;obtain⟨P,o,p⟩:=hcut;go_wp2_with fail;refine (N _ p.rd.at).mono ?_;rintro e V6 ⟨⟨c6,a5,rfl⟩,r⟩;have O6:=H (p.next r);clear r p;obtain⟨n,hn,f⟩:∃ n:Nat,n<60/\(c6:Int)%60=(n:Int):=⟨c6%60,Z,Z⟩;go_wp2;rw [f];clear f;go_loopw [6] (λi wr=>∃ (j:Nat) (c:Cd),j<=n/\i=.int .i64 j/\c.ds.length=j/\Hid (Ch q a l m R W X Y c wr)) (λi _=>n-(intOf i).toNat);(case atStart=>exact ⟨0,P,FH _,rfl,by rw [o];rfl,O6⟩);case round =>
    obtain⟨j,c,hj,rfl,t,s⟩:=hrel;clear O6;by_cases a6:j<n
    ·go_wp2;have Q:=H t;clear t;obtain⟨z,A,B,F,G,L⟩:=s.drew.cells;have M:=H s.drew;refine kO E ?_;generalize wr.drew=V0 at M z A B F G L ⊢;simp only [FX,FN,F1,Nat.reduceAdd,FP,FO,FY,FV,F5];refine cd (i:=0) (d:=70) (v:=.pointer (some ⟨X,5,none⟩)) rfl E E E E (λ_ _ _ h=>h) (Or.inl ⟨E,λ_=>E⟩) ?_;simp only [Fw,FA,FB];refine cd (i:=2) (d:=72) (v:=.pointer (some ⟨R,0,none⟩)) rfl E E E E (λ_ _ _ h=>h) (Or.inl ⟨E,λ_=>E⟩) ?_;simp only [Fw,FA,FB];refine wpAny_ready (rs:=[1,3]) E bH ?_;refine AllReady.cons rfl (λK f=>?_) (AllReady.cons rfl (λK f=>?_) AllReady.nil)
     ·go_simp;refine f _ _ ?_;clear f K;simp only [Fw,FA,FB];refine bF (r:=3) E ?_;refine cw λK f=>?_;go_simp
      refine (N _ M.rd.at).mono ?_;rintro e V6 ⟨⟨u,a2,rfl⟩,r⟩;have T:=H (M.next r);obtain⟨y0,y1,y2,y3,y4,y5⟩:=T.cells;obtain⟨w,x,S,g,f5,x5,ch⟩:=T.app (by have:=Q.out;omega) ((u:Int)-40) Z;have HA:=H ch;clear r ch M z A B F G L;refine f _ _ ?_;clear f K;simp only [Fw,FA,FB];refine cd (i:=4) (d:=74) (v:=.int .i64 ((u:Int)-40)) rfl E E E E (λ_ _ _ h=>h) (Or.inl ⟨E,λ_=>by first|(go_simp;done)|(go_simp;exact t9 _ Z Z)⟩) ?_;simp only [Fw,FA,FB];refine bF (r:=5) E ?_;refine cw λK f=>?_;go_simp
      refine f _ _ ?_;clear f K;simp only [Fw,FA,FB];refine bF (r:=6) E ?_;refine cw λK f=>?_;refine mK 24 (.tmp 71) (.tmp 75) E E E E g ?_
      refine f _ _ ?_;clear f K;simp only [Fw,FA,FB];refine cd (i:=7) (d:=77) (v:=.pointer (some ⟨X,5,none⟩)) rfl E E E E (λ_ _ _ h=>h) (Or.inl ⟨E,λ_=>E⟩) ?_;simp only [Fw,FA,FB];refine bF (r:=8) E ?_;refine cw λK f=>?_;go_simp
      refine f _ _ ?_;clear f K;simp only [Fw,FA,FB];refine wpAny_done E ?_ _;go_wp2;go_roundw;(case rel=>exact ⟨j+1,{ c with ds:=c.ds++[(u:Int)-40],da:=w,dc:=x },Z,aY,by simp [Q.out],HA⟩);case measure=>simp [intOf];omega
     ·skip
      go_simp;refine (N _ M.rd.at).mono ?_;rintro e V6 ⟨⟨u,a2,rfl⟩,r⟩;have T:=H (M.next r);obtain⟨y0,y1,y2,y3,y4,y5⟩:=T.cells;obtain⟨w,x,S,g,f5,x5,ch⟩:=T.app (by have:=Q.out;omega) ((u:Int)-40) Z;have HA:=H ch;clear r ch M z A B F G L;refine f _ _ ?_;clear f K;simp only [Fw,FA,FB];refine cd (i:=4) (d:=74) (v:=.int .i64 ((u:Int)-40)) rfl E E E E (λ_ _ _ h=>h) (Or.inl ⟨E,λ_=>by first|(go_simp;done)|(go_simp;exact t9 _ Z Z)⟩) ?_;simp only [Fw,FA,FB];refine wpAny_ready (rs:=[1,5]) E bH ?_;refine AllReady.cons rfl (λK f=>?_) (AllReady.cons rfl (λK f=>?_) AllReady.nil)
      ·go_simp;refine f _ _ ?_;clear f K;simp only [Fw,FA,FB];refine bF (r:=5) E ?_;refine cw λK f=>?_;go_simp
       refine f _ _ ?_;clear f K;simp only [Fw,FA,FB];refine bF (r:=6) E ?_;refine cw λK f=>?_;refine mK 24 (.tmp 71) (.tmp 75) E E E E g ?_
       refine f _ _ ?_;clear f K;simp only [Fw,FA,FB];refine cd (i:=7) (d:=77) (v:=.pointer (some ⟨X,5,none⟩)) rfl E E E E (λ_ _ _ h=>h) (Or.inl ⟨E,λ_=>E⟩) ?_;simp only [Fw,FA,FB];refine bF (r:=8) E ?_;refine cw λK f=>?_;go_simp
       refine f _ _ ?_;clear f K;simp only [Fw,FA,FB];refine wpAny_done E ?_ _;go_wp2;go_roundw;(case rel=>exact ⟨j+1,{ c with ds:=c.ds++[(u:Int)-40],da:=w,dc:=x },Z,aY,by simp [Q.out],HA⟩);case measure=>simp [intOf];omega
      ·go_simp;have a7:=ad ((Fu V6.heap.size V6).alloc (Fv _) (.cells #[.int .i64 ((u:Int)-40)] 3)) y5;refine f _ _ ?_;clear f K;simp only [Fw,FA,FB];refine bF (r:=1) E ?_;refine cw λK f=>?_;go_simp
       refine f _ _ ?_;clear f K;simp only [Fw,FA,FB];refine bF (r:=6) E ?_;refine cw λK f=>?_;refine mK 24 (.tmp 71) (.tmp 75) E E E E g ?_
       refine f _ _ ?_;clear f K;simp only [Fw,FA,FB];refine cd (i:=7) (d:=77) (v:=.pointer (some ⟨X,5,none⟩)) rfl E E E E (λ_ _ _ h=>h) (Or.inl ⟨E,λ_=>E⟩) ?_;simp only [Fw,FA,FB];refine bF (r:=8) E ?_;refine cw λK f=>?_;go_simp
       refine f _ _ ?_;clear f K;simp only [Fw,FA,FB];refine wpAny_done E ?_ _;go_wp2;go_roundw;(case rel=>exact ⟨j+1,{ c with ds:=c.ds++[(u:Int)-40],da:=w,dc:=x },Z,aY,by simp [Q.out],HA⟩);case measure=>simp [intOf];omega
    ·have:j=n:=Z;subst this;have Q:=H t;clear t;go_wp2_with (first|(refine Gt rfl 26 _ rfl _ rfl _ _ _ _ s.x underlying26 rfl E ?_)|(refine Gf rfl 26 _ _ rfl _ _ rfl rfl 26 _ s.y E rfl (by simp [pQ,Value.oneCell']) ?_));refine fM (aw s.y _) underlying26 ?_;have g:=aj wr Y (pQ c).toArray;have u:=s.yn;have w:=s.rn;have f:=s.od.kept g (eD s.od.d s.y ar);exact⟨c,rfl,by have:=Q.out;omega,f,s.rd.app g (λr e=>by cases e;omega)⟩
def m_ (o : fL) (an : List An4) : Nat := if 0<o.ref/\o.ref<=an.length then (o.p+((an[o.ref.toNat-1]?.map An4.addr).getD 0))%18446744073709551616 else o.p
theorem wB (q:df) (G i x:Nat) (d:List An4) (W:World) (o:d.length=i) (F:i<=400) (K:q.o.p<18446744073709551616)
  (c:∀ j a,d[j]?=some a->W.cell? ⟨G,j*4+1,none⟩=some (.int .u64 (a.addr:Nat))) :
  Calls prog 14 #[.agg (fH q).toArray,.slice (some ⟨G,0,none⟩) i x] W λe p=>e=.returned (.int .u64 (m_ q.o d:Nat))/\Below W.heap.size W p:=by
 unfold fH;have b:=(Fu W.heap.size W).alloc (Fv _) (.cells #[.int .i64 q.o.kd,.int .i64 q.o.ref,.int .u64 (q.o.p:Nat),.int .u64 (q.o.a:Nat),.int .u64 (q.o.b:Nat),.slice q.d q.o.ys.length q.dc] 42);have X:=ao W (.cells #[.int .i64 q.o.kd,.int .i64 q.o.ref,.int .u64 (q.o.p:Nat),.int .u64 (q.o.a:Nat),.int .u64 (q.o.b:Nat),.slice q.d q.o.ys.length q.dc] 42);have f:=H b;have k:(W.alloc (.cells #[.int .i64 q.o.kd,.int .i64 q.o.ref,.int .u64 (q.o.p:Nat),.int .u64 (q.o.a:Nat),.int .u64 (q.o.b:Nat),.slice q.d q.o.ys.length q.dc] 42)).cell? ⟨W.heap.size,1,none⟩=some (.int .i64 q.o.ref):=bJ X;have l:(W.alloc (.cells #[.int .i64 q.o.kd,.int .i64 q.o.ref,.int .u64 (q.o.p:Nat),.int .u64 (q.o.a:Nat),.int .u64 (q.o.b:Nat),.slice q.d q.o.ys.length q.dc] 42)).cell? ⟨W.heap.size,2,none⟩=some (.int .u64 (q.o.p:Nat)):=bJ X;have t:=H (λj a (ha:d[j]?=some a)=>ad b (c j a ha));clear X b c;by_cases g:0<q.o.ref
 ·by_cases m:q.o.ref<=i
  ·obtain⟨r,c⟩:∃ r:Nat,q.o.ref=((r+1:Nat):Int):=⟨q.o.ref.toNat-1,Z⟩;have y:r<i:=Z;obtain⟨z,b⟩:∃ z,d[r]?=some z:=⟨_,Fy Z⟩;have w:=t.out r z b;have s:=H (show m_ q.o d=(q.o.p+z.addr)%18446744073709551616 by
    unfold m_;rw [GP ⟨g,by rw [o];exact m⟩,c,show (((r+1:Nat):Int)).toNat-1=r by omega,b];rfl)
   have n:decide (q.o.ref > 0)=true:=G8 g;have u:decide (q.o.ref<=(i:Int))=true:=G8 m;have A:IntKind.i64.wrap (q.o.ref-1)=(r:Int):=(by rw [Hh];omega);have L:IntKind.u64.wrap ((q.o.p:Int)+(z.addr:Int))=(((q.o.p+z.addr)%18446744073709551616:Nat):Int):=(by rw [IntKind.wrap_u64];omega);clear t b g m o c;generalize q.o.ref=v at k l w f n u A ⊢;go_enter func14,ntmps14;go_wp2_with fail;clear n u;generalize W.alloc _=V at f k l w ⊢;generalize B:W.heap.size=b at f k l ⊢;refine wp_region_held (S:=λp=>p.cell? ⟨b,1,none⟩=some (.int .i64 v)/\p.cell? ⟨b,2,none⟩=some (.int .u64 (q.o.p:Nat))/\p.cell? ⟨G,r*4+1,none⟩=some (.int .u64 (z.addr:Nat))) E ?_;simp only [FX,FN,F1,Nat.reduceAdd,FP,FO,FY,FV,F5];have c:=(show _/\_/\_ from ⟨k,l,w⟩);refine pk 0 (.pointer (some ⟨b,2,none⟩)) c ?_;simp only [lz,l0,ls];refine pz 1 (.int .u64 (q.o.p:Nat)) c ?_;simp only [lz,l0,ls];refine pk 2 (.slice (some ⟨G,0,none⟩) i x) c ?_;simp only [lz,l0,ls];refine pk 3 (.pointer (some ⟨b,1,none⟩)) c ?_;simp only [lz,l0,ls];refine pz 4 (.int .i64 v) c ?_;simp only [lz,l0,ls];refine pz 5 (.int .i64 (r:Nat)) c ?_;simp only [lz,l0,ls];refine pz 6 (.pointer (some ⟨G,r*4,none⟩)) c ?_;simp only [lz,l0,ls];refine pk 7 (.pointer (some ⟨G,r*4+1,none⟩)) c ?_;simp only [lz,l0,ls];refine pz 8 (.int .u64 (z.addr:Nat)) c ?_;simp only [lz,l0,ls];refine pz 9 (.int .u64 ((q.o.p+z.addr)%18446744073709551616:Nat)) c ?_;simp only [lz,l0,ls];refine pk 10 (.int .u64 ((q.o.p+z.addr)%18446744073709551616:Nat)) c ?_;simp only [lz,l0,ls];refine bY ?_;go_wp2;go_ret;rw [s.out];exact⟨rfl,by rw [B];exact f.drew⟩
  ·have s:=H (show m_ q.o d=q.o.p by unfold m_;rw [GO (λh=>m (by rw [o] at h;exact h.2))]);have n:decide (q.o.ref > 0)=true:=G8 g;have u:decide (q.o.ref<=(i:Int))=false:=GR m;clear t g m o;generalize q.o.ref=v at n u k l f ⊢;go_enter func14,ntmps14;go_wp2;go_ret;rw [s.out];exact⟨rfl,f⟩
 ·have s:=H (show m_ q.o d=q.o.p by unfold m_;rw [GO (λh=>g h.1)]);have n:decide (q.o.ref > 0)=false:=GR g;clear t g o;generalize q.o.ref=v at n k l f ⊢;go_enter func14,ntmps14;go_wp2;go_ret;rw [s.out];exact⟨rfl,f⟩
end
end Go.Proofs.YtdngbppdomoenaaGreatDoor
