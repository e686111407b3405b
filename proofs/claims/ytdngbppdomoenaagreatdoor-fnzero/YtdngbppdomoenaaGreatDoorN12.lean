import Derived.Test.YtdngbppdomoenaaGreatDoorN09
set_option linter.unusedVariables false
set_option linter.unusedSimpArgs false
set_option maxRecDepth 20000
set_option maxHeartbeats 8000000
namespace Go.Proofs.YtdngbppdomoenaaGreatDoor
open Go.Proofs.Tryz
variable {W:World}
section
open Go.RowKit
theorem Sh.usedP {B x cf h} (a:Sh B x cf h W):Sh B x cf { h with used:=h.used+1 } (W.setCell ⟨x.P,12,none⟩ (I (h.used+1:Nat))):=by
 refine a.boxed (Ky.grown a.box rfl (au (ar W x.P) 12 _)) (h.used+1) ?_;simp [World.setCell,Fp,a.box,fZ]
theorem oS (B x cf h) (n:Nat) (W) (b:Sh B x cf h W) (q:1<=n) (t:n<=1000000) (m:h.used<=1000000) (w:cf.ds.length<=20000) (r:∀ d∈cf.ds,(Lit.int .i64 d).wf=true) :
  Calls prog 162 #[J x.P 0,I n] W λe f=>e=.returned (I (dr cf h n:Nat))/\Sh B x cf { h with used:=h.used+1 } f/\W.grownBy f (some x.P):=by
 have i:W.cell? ⟨x.P,12,none⟩=some (I h.used):=b.cell 12 _ rfl;have u:W.cell? ⟨x.P,5,none⟩=some (.slice x.da cf.ds.length x.dc):=b.cell 5 _ rfl;have f12:W.frozen? ⟨x.P,12,none⟩=false:=by simp [World.frozen?,b.box]
 have c:((h.used+1:Nat):Int)=(h.used:Int)+1:=Z;have j:=H b.usedP;have a:=H (au (ar W x.P) 12 (I (h.used+1:Nat)));rw [c] at j a;clear c;by_cases c:h.used<cf.ds.length
 ·obtain⟨g,k,s⟩:=b.ds.cells h.used c;rw [k] at u;have l:=H (show dr cf h n=md (cf.ds[h.used]?.getD 0) n from rfl);generalize cf.ds[h.used]?.getD 0=d at l s;have M:=H (λf=>lR d n f q Z);have y:=H m;generalize cf.ds.length=o at *;generalize p:h.used=us at i s c j a m;clear b r k;have k:(us:Int)<(o:Int):=Z;go_enter func162,ntmps162;go_wp2;go_region;go_wp2;go_region;go_wp2_with fail;refine (M _).mono ?_;rintro e v ⟨rfl,rfl⟩;go_wp2;go_ret;refine⟨?_,j.below (Fc _ _).drew.drew,⟨a.os,a.tape,a.output,a.size,a.block⟩⟩;rw [l.out];rfl
 have l:=H (show dr cf h n=md 0 n by unfold dr md;rw [Ft Z];rfl);have M:=H (λf=>lR 0 n f q Z);generalize cf.ds.length=o at *;generalize p:h.used=us at i c j a m;clear b r;have k:¬((us:Int)<(o:Int)):=Z;go_enter func162,ntmps162;go_wp2;go_region;go_wp2_with fail;refine (M _).mono ?_;rintro e v ⟨rfl,rfl⟩;go_wp2;go_ret;refine⟨?_,j.below (Fc _ _).drew,⟨a.os,a.tape,a.output,a.size,a.block⟩⟩;rw [l.out];rfl
theorem ei (x:Int) (a:0<=x) (b:x<18446744073709551616):IntKind.u64.wrap x=x:=by
 rw [eL];omega
theorem xl (c:Nat) (W:World) (d:c<12):Calls prog 60 #[I c] W λe a=>e=.returned (I (fo c:Nat))/\D W a:=by
 refine (cd (c:Int) W).mono ?_;rintro e a ⟨rfl,b⟩;exact⟨cP (DI d),b⟩
theorem wN (c:Nat) (W:World) (d:c<12):Calls prog 21 #[I c] W λe a=>e=.returned (I (bX c:Nat))/\D W a:=by
 refine (cJ (c:Int) W).mono ?_;rintro e a ⟨rfl,b⟩;exact⟨cP (se d),b⟩
theorem nP (c a:Nat) (v1 v2 v4 v5) (W:World) (n:c<12) (ha:a<=1000000) :
  Calls prog 160 #[.agg #[I c,I v1,I v2,U a,I v4,I v5]] W λe p=>e=.returned (U (a+fo c:Nat))/\Below W.heap.size W p:=by
 have X:=ao W (.cells #[I c,I v1,I v2,U a,I v4,I v5] 146);have g:=H (show Below W.heap.size W (W.alloc (.cells #[I c,I v1,I v2,U a,I v4,I v5] 146)) from (Fc _ _).alloc (Fe _) _);have i:(W.alloc (.cells #[I c,I v1,I v2,U a,I v4,I v5] 146)).cell? ⟨W.heap.size,0,none⟩=some (I c):=by simp only [World.cell?,X];rfl
 have j:(W.alloc (.cells #[I c,I v1,I v2,U a,I v4,I v5] 146)).cell? ⟨W.heap.size,3,none⟩=some (U a):=by simp only [World.cell?,X];rfl
 have b:=H (λV=>xl c V n);have d:=bd n;have q:fo c<=1016:=Z;have r:=H (show ((a+fo c:Nat):Int)=(a:Int)+(fo c:Int) by omega);generalize fo c=u at *;clear X d;go_enter func160,ntmps160;go_wp2;generalize W.alloc _=V at g i j ⊢;generalize k:W.heap.size=X at *
 go_region_with (first|(go_at_call 60;refine (b _).mono ?_;rintro e o ⟨rfl,d⟩;have f:Below V.heap.size V o:=⟨d.os,d.tape,d.output,d.size,d.block⟩;have l:=ad f j;have m:=ad f i))
 all_goals (
  have s:=H (show Below X W o from g.trans (f.mono (by have:=g.size;omega)))
  clear f d l m i j
  go_wp2
  go_ret
  refine⟨?_,k▸s.out⟩
  show Ending.returned (U (IntKind.u64.wrap ((a:Int)+IntKind.u64.wrap (u:Int))))=_
  rw [ei (u:Int) Z Z,ei _ Z Z,r.out])
end
section
open Go.RowKit Go.Shelf Go.Maps
theorem wT (q:World) (a:Option Addr) (l m:Nat) (zs:List Int) (b:IsRow .u8 q a l m zs) (y:l<=1048576) (R W) (j:Rd q a l m R W W) :
  Calls prog 27 #[.pointer (some ⟨R,0,none⟩)] W λe W'=>∃ c:Cd,e=.returned (.agg (pP c).toArray)/\c.ds.length<=60/\Ok4 W.heap.size c W'/\Rd q a l m R W W':=by
 have N:=H (λV (hV:Rd q a l m R V V)=>ca q a l m zs b y R V V hV);have WD:=H (λV (hV:Rd q a l m R V V)=>cO q a l m zs b y R V V hV);have AP:=H eo;have RN:=H j.lt;have f:=H (j.below ((Fc _ _).alloc (Fe _) (.cells #[.int .i64 0,.int .i64 0,.int .i64 0,.int .i64 0,.int .u64 0,.slice none 0 0] 26)));have g:=H (ao W (.cells #[.int .i64 0,.int .i64 0,.int .i64 0,.int .i64 0,.int .u64 0,.slice none 0 0] 26));clear b j;go_enter func27,ntmps27;go_wp2_with fail;generalize W.alloc (.cells #[.int .i64 0,.int .i64 0,.int .i64 0,.int .i64 0,.int .u64 0,.slice none 0 0] 26)=V1 at f g ⊢;refine (N _ f.at).mono ?_;rintro e V2 ⟨⟨k,hk,rfl⟩,b⟩;have j:=H (f.of b);have n:=H ((b.g.block _ (ai g) (λe=>by cases e;have:=RN.out;omega)).trans g);clear b f g;go_wp2_with fail;refine (N _ j.at).mono ?_;rintro e V3 ⟨⟨b9,a3,rfl⟩,b⟩;have f:=H (j.of b);have g:=H ((b.g.block _ (ai n) (λe=>by cases e;have:=RN.out;omega)).trans n);clear b j n;go_wp2_with fail;refine (WD _ f.at).mono ?_;rintro e O ⟨⟨ky,a0,a1,rfl⟩,b⟩;have j:=H (f.of b);have n:=H ((b.g.block _ (ai g) (λe=>by cases e;have:=RN.out;omega)).trans g);clear b f g;have f:=H (show Ch q a l m R W O.heap.size W.heap.size ⟨(k:Int)%4,(k:Int)/4%5+1,(k:Int)/20%3+1,(b9:Nat),ky,[],none,0⟩ (O.alloc (.cells #[.int .i64 ((k:Int)%4),.int .i64 ((k:Int)/4%5+1),.int .i64 ((k:Int)/20%3+1),.int .i64 (b9:Nat),.int .u64 ky,.slice none 0 0] 26)) from by
  have b:=(Fc O.heap.size O).alloc (Fe _) (.cells #[.int .i64 ((k:Int)%4),.int .i64 ((k:Int)/4%5+1),.int .i64 ((k:Int)/20%3+1),.int .i64 (b9:Nat),.int .u64 ky,.slice none 0 0] 26);have g:=ai n.out;exact⟨j.below b,RN,ao O _,j.g.size,by rw [b.block _ g];exact n,Fe _,Z,⟨a0,a1,λx g=>(by cases g),⟨rfl,.inl ⟨rfl,rfl⟩⟩⟩⟩)
 clear j n;go_upto_block 0 with fail
 generalize O.alloc (.cells #[.int .i64 ((k:Int)%4),.int .i64 ((k:Int)/4%5+1),.int .i64 ((k:Int)/20%3+1),.int .i64 (b9:Nat),.int .u64 ky,.slice none 0 0] 26)=V5 at f ⊢;generalize O.heap.size=X at f ⊢;generalize a4:W.heap.size=Y at f ⊢;obtain⟨P,o,p⟩:∃ c:Cd,c.ds=[]/\Hid (Ch q a l m R W X Y c V5):=⟨_,rfl,f⟩;clear f;go_cut [25] (λ_ S=>∃ c,c.ds=[]/\Hid (Ch q a l m R W X Y c S));case first =>
  cases t:((k:Int)==255);case true =>
   go_wp2_with fail;refine (N _ p.rd.at).mono ?_;rintro e j ⟨⟨n,g,rfl⟩,r⟩;have f:=H (p.next r);clear r p;obtain⟨z,A,B,F,G,L⟩:=f.cells;have zf:=f.fr 0;go_wp2;go_meet;case rel=>(refine⟨_,?_,H (f.setMi _)⟩;exact o)
  cases u:((k:Int)==254);case true =>
   go_wp2_with fail;refine (N _ p.rd.at).mono ?_;rintro e j ⟨⟨n,g,rfl⟩,r⟩;have f:=H (p.next r);clear r p;obtain⟨z,A,B,F,G,L⟩:=f.cells;have zf:=f.fr 1;go_wp2;go_meet;case rel=>(refine⟨_,?_,H (f.setFi _)⟩;exact o)
  cases w:((k:Int)==253);case true =>
   go_wp2_with fail;refine (N _ p.rd.at).mono ?_;rintro e j ⟨⟨n,g,rfl⟩,r⟩;have f:=H (p.next r);clear r p;obtain⟨z,A,B,F,G,L⟩:=f.cells;have zf:=f.fr 2;go_wp2;go_meet;case rel=>(refine⟨_,?_,H (f.setLa _)⟩;exact o)
  cases x:((k:Int)==252);case true =>
   go_wp2_with fail;refine (AP _).mono ?_;rintro e K ⟨rfl,b⟩;have s:=H (p.below b);clear b p;go_wp2_with fail;refine (N _ s.rd.at).mono ?_;rintro e j ⟨⟨n,g,rfl⟩,r⟩;have f:=H (s.next r);clear r s;obtain⟨z,A,B,F,G,L⟩:=f.cells;have zf:=f.fr 3;go_wp2;go_meet;case rel=>(refine⟨_,?_,H (f.setBu _)⟩;exact o)
  go_wp2;go_meet;case rel=>exact ⟨P,o,p⟩
 case rest =>
  clear p o P;obtain⟨P,o,p⟩:=hcut;go_upto_if 56 with fail
  go_cut [56] (λ_ S=>∃ c,c.ds=[]/\Hid (Ch q a l m R W X Y c S));case first =>
   cases f:((k:Int)%3==0);case true =>
    obtain⟨z,A,B,F,G,L⟩:=p.cells;have zf:=p.fr 3;go_wp2;go_meet;case rel=>(refine⟨_,?_,H (p.setBu _)⟩;exact o)
   go_wp2;go_meet;case rel=>exact ⟨P,o,p⟩
  case rest =>
   clear p o P;obtain⟨P,o,p⟩:=hcut;go_wp2_with fail;refine (N _ p.rd.at).mono ?_;rintro e V6 ⟨⟨c6,a5,rfl⟩,r⟩;have O6:=H (p.next r);clear r p;obtain⟨n,hn,f⟩:∃ n:Nat,n<60/\(c6:Int)%60=(n:Int):=⟨c6%60,Z,Z⟩;go_wp2;rw [f];clear f;go_loopw [6] (λi wr=>∃ (j:Nat) (c:Cd),j<=n/\i=.int .i64 j/\c.ds.length=j/\Hid (Ch q a l m R W X Y c wr)) (λi _=>n-(intOf i).toNat);(case atStart=>exact ⟨0,P,Fs _,rfl,by rw [o];rfl,O6⟩);case round =>
    obtain⟨j,c,hj,rfl,t,s⟩:=hrel;clear O6;by_cases a6:j<n
    ·go_wp2;have Q:=H t;clear t;obtain⟨z,A,B,F,G,L⟩:=s.drew.cells;have M:=H s.drew;refine kJ E ?_;generalize wr.drew=V0 at M z A B F G L ⊢;simp only [FA,Fx,FH,Nat.reduceAdd,Fw,Fv,FB,Fy,FJ];refine bV (i:=0) (d:=70) (v:=.pointer (some ⟨X,5,none⟩)) rfl E E E E (λ_ _ _ h=>h) (Or.inl ⟨E,λ_=>E⟩) ?_;simp only [Ff,Fh,Fi];refine bV (i:=2) (d:=72) (v:=.pointer (some ⟨R,0,none⟩)) rfl E E E E (λ_ _ _ h=>h) (Or.inl ⟨E,λ_=>E⟩) ?_;simp only [Ff,Fh,Fi];refine wpAny_ready (rs:=[1,3]) E bF ?_;refine AllReady.cons rfl (λK f=>?_) (AllReady.cons rfl (λK f=>?_) AllReady.nil)
     ·go_simp;refine f _ _ ?_;clear f K;simp only [Ff,Fh,Fi];refine bG (r:=3) E ?_;refine cv λK f=>?_;go_simp
      refine (N _ M.rd.at).mono ?_;rintro e V6 ⟨⟨u,a2,rfl⟩,r⟩;have T:=H (M.next r);obtain⟨y0,y1,y2,y3,y4,y5⟩:=T.cells;obtain⟨w,x,S,g,f5,x5,ch⟩:=T.app (by have:=Q.out;omega) ((u:Int)-40) Z;have HA:=H ch;clear r ch M z A B F G L;refine f _ _ ?_;clear f K;simp only [Ff,Fh,Fi];refine bV (i:=4) (d:=74) (v:=.int .i64 ((u:Int)-40)) rfl E E E E (λ_ _ _ h=>h) (Or.inl ⟨E,λ_=>by first|(go_simp;done)|(go_simp;exact IJ _ Z Z)⟩) ?_;simp only [Ff,Fh,Fi];refine bG (r:=5) E ?_;refine cv λK f=>?_;go_simp
      refine f _ _ ?_;clear f K;simp only [Ff,Fh,Fi];refine bG (r:=6) E ?_;refine cv λK f=>?_;refine mJ 24 (.tmp 71) (.tmp 75) E E E E g ?_
      refine f _ _ ?_;clear f K;simp only [Ff,Fh,Fi];refine bV (i:=7) (d:=77) (v:=.pointer (some ⟨X,5,none⟩)) rfl E E E E (λ_ _ _ h=>h) (Or.inl ⟨E,λ_=>E⟩) ?_;simp only [Ff,Fh,Fi];refine bG (r:=8) E ?_;refine cv λK f=>?_;go_simp
      refine f _ _ ?_;clear f K;simp only [Ff,Fh,Fi];refine wpAny_done E ?_ _;go_wp2;go_roundw;(case rel=>exact ⟨j+1,{ c with ds:=c.ds++[(u:Int)-40],da:=w,dc:=x },Z,aY,by simp [Q.out],HA⟩);case measure=>simp [intOf];omega
     ·skip
      go_simp;refine (N _ M.rd.at).mono ?_;rintro e V6 ⟨⟨u,a2,rfl⟩,r⟩;have T:=H (M.next r);obtain⟨y0,y1,y2,y3,y4,y5⟩:=T.cells;obtain⟨w,x,S,g,f5,x5,ch⟩:=T.app (by have:=Q.out;omega) ((u:Int)-40) Z;have HA:=H ch;clear r ch M z A B F G L;refine f _ _ ?_;clear f K;simp only [Ff,Fh,Fi];refine bV (i:=4) (d:=74) (v:=.int .i64 ((u:Int)-40)) rfl E E E E (λ_ _ _ h=>h) (Or.inl ⟨E,λ_=>by first|(go_simp;done)|(go_simp;exact IJ _ Z Z)⟩) ?_;simp only [Ff,Fh,Fi];refine wpAny_ready (rs:=[1,5]) E bF ?_;refine AllReady.cons rfl (λK f=>?_) (AllReady.cons rfl (λK f=>?_) AllReady.nil)
      ·go_simp;refine f _ _ ?_;clear f K;simp only [Ff,Fh,Fi];refine bG (r:=5) E ?_;refine cv λK f=>?_;go_simp
       refine f _ _ ?_;clear f K;simp only [Ff,Fh,Fi];refine bG (r:=6) E ?_;refine cv λK f=>?_;refine mJ 24 (.tmp 71) (.tmp 75) E E E E g ?_
       refine f _ _ ?_;clear f K;simp only [Ff,Fh,Fi];refine bV (i:=7) (d:=77) (v:=.pointer (some ⟨X,5,none⟩)) rfl E E E E (λ_ _ _ h=>h) (Or.inl ⟨E,λ_=>E⟩) ?_;simp only [Ff,Fh,Fi];refine bG (r:=8) E ?_;refine cv λK f=>?_;go_simp
       refine f _ _ ?_;clear f K;simp only [Ff,Fh,Fi];refine wpAny_done E ?_ _;go_wp2;go_roundw;(case rel=>exact ⟨j+1,{ c with ds:=c.ds++[(u:Int)-40],da:=w,dc:=x },Z,aY,by simp [Q.out],HA⟩);case measure=>simp [intOf];omega
      ·go_simp;have a7:=ad ((Fc V6.heap.size V6).alloc (Fe _) (.cells #[.int .i64 ((u:Int)-40)] 3)) y5;refine f _ _ ?_;clear f K;simp only [Ff,Fh,Fi];refine bG (r:=1) E ?_;refine cv λK f=>?_;go_simp
       refine f _ _ ?_;clear f K;simp only [Ff,Fh,Fi];refine bG (r:=6) E ?_;refine cv λK f=>?_;refine mJ 24 (.tmp 71) (.tmp 75) E E E E g ?_
       refine f _ _ ?_;clear f K;simp only [Ff,Fh,Fi];refine bV (i:=7) (d:=77) (v:=.pointer (some ⟨X,5,none⟩)) rfl E E E E (λ_ _ _ h=>h) (Or.inl ⟨E,λ_=>E⟩) ?_;simp only [Ff,Fh,Fi];refine bG (r:=8) E ?_;refine cv λK f=>?_;go_simp
       refine f _ _ ?_;clear f K;simp only [Ff,Fh,Fi];refine wpAny_done E ?_ _;go_wp2;go_roundw;(case rel=>exact ⟨j+1,{ c with ds:=c.ds++[(u:Int)-40],da:=w,dc:=x },Z,aY,by simp [Q.out],HA⟩);case measure=>simp [intOf];omega
    ·have:j=n:=Z;subst this;have Q:=H t;clear t;go_wp2_with (first|(refine F8 rfl 26 _ rfl _ rfl _ _ _ _ s.x underlying26 rfl E ?_)|(refine FK rfl 26 _ _ rfl _ _ rfl rfl 26 _ s.y E rfl (by simp [pP,Value.oneCell']) ?_));refine fp (aw s.y _) underlying26 ?_;have g:=al wr Y (pP c).toArray;have u:=s.yn;have w:=s.rn;have f:=s.od.kept g (dZ s.od.d s.y av);exact⟨c,rfl,by have:=Q.out;omega,f,s.rd.app g (λr e=>by cases e;omega)⟩
def cR (e : List dh) : List Value := e.flatMap ee
structure D6 (w : World) (a : Option Addr) (len cap R C Y : Nat) (c : Cd) (v : Value) (ops : List dh) (W : World) : Prop where
  rd : Rd w a len cap R w W
  c1 : R<C
  y1 : w.heap.size<=Y
  yr : Y<R
  cb : W.heap[C]? = some (.cells (pP c).toArray 26)
  yb : W.heap[Y]? = some (.cells #[.int .i64 0, .int .i64 0, .int .i64 0, .int .i64 0, .int .u64 0, .slice none 0 0] 26)
  ok : Ok4 (R+1) c W
  row : W.ownsRow (R+1) 42 6 v ops.length (cR ops)
  dat : ∀ q ∈ ops, Od6 (R+1) q W
theorem D6.next {w a len cap R C Y c v ops} (h:D6 w a len cap R C Y c v ops W) {W'} (b:Rd w a len cap R W W'):D6 w a len cap R C Y c v ops W':=by
 have f:=h.c1;have g:=h.yr;refine⟨h.rd.of b,f,h.y1,g,?_,?_,h.ok.kept b.g (λe=>by have:=(h.ok.d.lt R e).1;omega),h.row.kept b.g (.inr λe=>by have:=(h.row.lt R e).1;omega),λq d=>(h.dat q d).kept b.g (λe=>by have:=((h.dat q d).d.lt R e).1;omega)⟩;·rw [b.g.block C (ai h.cb) (λe=>by cases e;omega)];exact h.cb
 ·rw [b.g.block Y (ai h.yb) (λe=>by cases e;omega)];exact h.yb
theorem D6.below {w a len cap R C Y c v ops W} (h:D6 w a len cap R C Y c v ops W) {W'} (b:D W W'):D6 w a len cap R C Y c v ops W':=h.next (h.rd.at.below b)
theorem II {l m:Nat} {d j:TypeId} {n o:Nat} {b k:Value} {p q:Nat} {r s:List Value} (t:W.ownsRow l d n b p r) (u:W.ownsRow m j o k q s) (f:d≠j):b.ownBlock=none\/b.ownBlock≠k.ownBlock:=by
 by_cases e:b.ownBlock=none;·exact .inl e
 ·refine .inr λv=>?_;obtain⟨g,a⟩:=Option.ne_none_iff_exists'.1 e
  obtain⟨c,w⟩:∃ c,W.heap[g]?=some (.cells c d):=by
   rcases t.2 with ⟨i,_⟩|⟨x,y,z,i,_,A,_⟩;·rw [i] at a;cases a
   ·rw [i] at a;have:x=g:=by simpa [Value.ownBlock] using a
    subst this;exact⟨_,A⟩
  exact dZ u w (H2 f) (v.symm.trans a)
theorem tw:(prog.info? 42).map (λi=>(i.zero,i.size,i.bytes))=some (some (.agg #[.int .i64 0,.int .i64 0,.int .u64 0,.int .u64 0,.int .u64 0,.slice none 0 0]),6,64):=E
theorem kv (t:TypeId) {c:Array Oper} {b:List Oper} {o:Oper} {a:Act} {w:World} {Q:Exit->Act->World->Prop} (d:o.guard=none) (s x:Operand)
  (i:o.op=.call { callee:=.builtin .append,args:=#[s,x],argTypes:=#[t,t] }) (j:o.type=t) {v e f:Value} {g:World} (k:a.eval s=v) (l:a.eval x=e)
  (m:(Builtin.append_ #[t,t] t #[v,e]).run prog w=.ok f g) (h:wpList prog c Q b (a.put o.dst f) g):wpList prog c Q (o::b) a w:=by
 refine Ii d λK n=>?_;unfold Oper.wp
 simp [execOp,i,j,resolve,invoke,builtin,k,l,m,Result.andThen];exact n _ _ h
theorem results_cell_tmp {c:Func} {p q:Tmp} {d:TypeId} (h:c.results=#[.cell p d,.tmp q]) (a:Array Value) (w:World) (g:Nat) (e:Array Value)
  (f:a.getD p undef=.pointer (some ⟨g,0,none⟩)) (i:(loadVar d ⟨g,0,none⟩).run prog w=.ok (.agg e) w) :
  (results c a).run prog w=.ok (.tuple #[.agg e,a.getD q undef]) w:=by
 have b:a[p]?.getD undef=.pointer (some ⟨g,0,none⟩):=by simpa using f
 simp [results,h,b,asAddr,i,Result.andThen]
theorem qP (a:List dh) (q:dh):cR (a++[q])=cR a++ee q:=by simp [cR]
theorem vX (W:World) (b:List Value) (t:TypeId):∀ j u,b[j]?=some u->(W.alloc (.cells b.toArray t)).cell? ((⟨W.heap.size,0,none⟩:Addr).add j)=some u:=by
 intro j u h;have a:(⟨W.heap.size,0,none⟩:Addr).add j=⟨W.heap.size,j,none⟩:=by unfold Addr.add;split <;> simp_all
 rw [a,Gz _ _ j _ _ _ (ao W (.cells b.toArray t)),<-h];simp
theorem D6.app {w a len cap R C Y c v ops W} (h:D6 w a len cap R C Y c v ops W) (G:ops.length<=1000) (q) (f:Od6 (R+1) q W):∃ k g,
  (Builtin.append_ #[27,27] 27 #[v,.slice (some ⟨W.heap.size,0,none⟩) 1 1]).run prog (W.alloc (.cells (ee q).toArray 42))=.ok k g/\D6 w a len cap R C Y c k (ops++[q]) g:=by
 obtain⟨s,l,m,n,o⟩:=GI tw;have t:=(Fc W.heap.size W).alloc (Fe _) (.cells (ee q).toArray 42);have b:=h.below t;have y:R+1<=(W.alloc (.cells (ee q).toArray 42)).heap.size:=by have:=b.rd.lt;omega
 obtain⟨k,g,z,A,i,_⟩:=run_append_own_at (P:=prog) (w:=W.alloc (.cells (ee q).toArray 42)) (R+1) 27 27 42 s _ 6 64 underlying27 l m n o rfl Z _ _ _ b.row ⟨W.heap.size,0,none⟩ 1 1 (ee q) rfl (vX _ _ _) (by intro u d;simp [ee] at d;rcases d with rfl|rfl|rfl|rfl|rfl|rfl <;> rfl) (by unfold maxLen;omega) Z y;have K:=h.c1;have B:=h.yr;have F:∀ r,v.ownBlock=some r->w.heap.size<=r/\R<r:=λr e=>by have:=(h.row.lt r e).1;have:=h.y1;omega
 have p:Od6 (R+1) q (W.alloc (.cells (ee q).toArray 42)):=⟨f.p,f.a,f.b,f.d.alloc _,f.r,f.y⟩;refine⟨k,g,z,⟨b.rd.app i F,h.c1,h.y1,h.yr,?_,?_,⟨h.ok.k0,h.ok.k1,h.ok.dw,b.ok.d.kept i (II b.ok.d b.row av)⟩,by rw [Fo,qP];exact A,λx d=>?_⟩⟩;·rw [i.block C (ai b.cb) (λe=>dZ b.row b.cb av e.symm)];exact b.cb
 ·rw [i.block Y (ai b.yb) (λe=>dZ b.row b.yb av e.symm)];exact b.yb
 ·have j:∀ x,Od6 (R+1) x (W.alloc (.cells (ee q).toArray 42))->Od6 (R+1) x g:=λx d=>⟨d.p,d.a,d.b,d.d.kept i (II d.d b.row av),d.r,d.y⟩
  rcases FM.1 d with d|d;·exact j x (b.dat x d)
  ·obtain rfl:=List.mem_singleton.1 d;exact j _ p
end
end Go.Proofs.YtdngbppdomoenaaGreatDoor
