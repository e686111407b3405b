import Derived.Test.YtdngbppdomoenaaGreatDoorN09
set_option linter.unusedVariables false
set_option linter.unusedSimpArgs false
set_option maxRecDepth 20000
set_option maxHeartbeats 8000000
namespace Go.Proofs.YtdngbppdomoenaaGreatDoor
open Go.Proofs.Tryz
variable {R X Y b c cap len n:Nat} {W W' b0 w w0:World} {Q:Exit->Act->World->Prop} {e:TypeId} {v v2:Value} {xs:List Value} {a:Option Addr}
section
open Go.RowKit
theorem Cn {s j:Nat} (a:c<12):(rs (c:Int)+(s:Int)*(pg (c:Int)+1))*1024+(j:Int)*sz (c:Int)=((bh c s j:Nat):Int):=by
 rw [v3 a,pU a,uT a];unfold bh aD;simp
theorem Tb.ofBelow (h:Tb W) (a:D W W'):Tb W':=by
 obtain⟨t,b,h⟩:=h.row;exact⟨t,b,by rw [a.block 0 (ag h)];exact h⟩
theorem fx (a:Addr) (W:World):Calls prog 273 #[.pointer (some a)] W λe W'=>e=.returned (.pointer (some a))/\W'=W:=by
 go_enter func273,ntmps273;go_wp2;go_ret;exact⟨rfl,rfl⟩
structure Sc (g b c s j:Nat) (W:World):Prop where
 c2:W.cell? ⟨g,2,none⟩=some (J b 0)
 c3:W.cell? ⟨g,3,none⟩=some (I j)
 d0:W.cell? ⟨b,0,none⟩=some (I c)
 d1:W.cell? ⟨b,1,none⟩=some (I s)
 tb:Tb W
 hc:c<12
 hs:s<6
 hj:j<aM c
theorem Sc.below {g s j} (h:Sc g b c s j W) (k:D W W'):Sc g b c s j W':=⟨ad k h.c2,ad k h.c3,ad k h.d0,ad k h.d1,h.tb.ofBelow k,h.hc,h.hs,h.hj⟩
theorem eI (g b c s j W) (h:Sc g b c s j W) :
  Calls prog 106 #[J g 0] W λe W'=>e=.returned (U (bh c s j:Nat))/\D W W':=by
 obtain⟨i,m,n,o,p,f,q,r⟩:=h;have a:=H (kG (c:Nat) (s:Nat) (j:Nat) ⟨Z,Z,Z,Z,Z,by rw [vA f];omega⟩ W.drew ⟨p.row⟩);rw [Cn f] at a;have l:=H (show ∀ d,D W d->d.cell? ⟨g,2,none⟩=some (J b 0)/\d.cell? ⟨g,3,none⟩=some (I j)/\d.cell? ⟨b,0,none⟩=some (I c)/\d.cell? ⟨b,1,none⟩=some (I s) from λd k=>⟨ad k i,ad k m,ad k n,ad k o⟩);clear p f q r i m n o;go_enter func106,ntmps106;go_upto_region 1 with fail
 refine rh (S:=λd=>d.cell? ⟨g,2,none⟩=some (J b 0)/\d.cell? ⟨g,3,none⟩=some (I j)/\d.cell? ⟨b,0,none⟩=some (I c)/\d.cell? ⟨b,1,none⟩=some (I s)) ?_;have i:=l.out _ (Fu _ _).drew;iterate 18 (refine py i ?_;simp only [f0,f1,Nat.reduceAdd,lz,l0,ls])
 refine po 18 λK' n=>?_;go_simp;refine (a).mono ?_;rintro e o ⟨rfl,f⟩;have k:D W o:=⟨f.os,f.tape,f.output,f.size,f.block⟩;have m:=l.out _ k;refine n _ _ ⟨m,?_⟩;clear i;have i:=m;clear n K'
 iterate 5 (refine py i ?_;simp only [f0,f1,Nat.reduceAdd,lz,l0,ls])
 refine bY ?_;have n:=H k;clear k f i m a l;go_wp2;go_ret;exact⟨rfl,n⟩
theorem mh (g b c s j W) (h:Sc g b c s j W) :
  Calls prog 146 #[J g 0] W λe W'=>e=.returned (I (eV c:Nat))/\W'=W:=by
 obtain⟨n,i,o,k,d,f,l,m⟩:=h;have a:=H (vG (c:Nat) W d);rw [D3 f] at a;clear d f i k l m;go_enter func146,ntmps146;go_wp2_with fail;refine (a).mono ?_;rintro e d ⟨rfl,rfl⟩;go_wp2;go_ret;exact⟨rfl,rfl⟩
theorem kC (g b c s j W) (h:Sc g b c s j W) :
  Calls prog 103 #[J g 0] W λe W'=>e=.returned (U (bh c s j+eV c:Nat))/\D W W':=by
 have a:=H (eI g b c s j W h);have d:=H (λW' (f:D W W')=>mh g b c s j W' (h.below f));have ha:=ca h.hc h.hs h.hj;have f:=aX h.hc;have k:eV c<=1016:=Z;have l:=H (show ((bh c s j+eV c:Nat):Int)=(bh c s j:Int)+(eV c:Int) by omega);have m:bh c s j<=200000:=Z;generalize bh c s j=A at *;generalize eV c=u at *;clear h ha f;go_enter func103,ntmps103;go_wp2_with fail;refine (a).mono ?_;rintro e n ⟨rfl,f⟩;have i:=H f;clear f a;go_wp2_with fail;refine (d _ i).mono ?_;rintro e a ⟨rfl,rfl⟩;clear d;go_wp2;go_ret;refine⟨?_,i⟩;rw [l.out];rfl
theorem km (a:Nat) (W:World) (ha:a<18446744073709551616) :
  Calls prog 136 #[U a] W λe W'=>e=.returned (I (aR a:Nat))/\W'=W:=by
 unfold aR;by_cases c:a%1024 > 0;·rw [GP c];have b:=H (show (((a/1024+1:Nat):Nat):Int)=(a:Int)/1024+1 by omega);go_enter func136,ntmps136;go_wp2;go_ret;rw [b.out];exact⟨rfl,rfl⟩
 rw [GO c];have b:=H (show (((a/1024+0:Nat):Nat):Int)=(a:Int)/1024 by omega);go_enter func136,ntmps136;go_wp2;go_ret;rw [b.out];exact⟨rfl,rfl⟩
structure Lc (g:Nat) (r:Rg9) (W:World):Prop where
 c0:W.cell? ⟨g,0,none⟩=some (I r.st)
 c1:W.cell? ⟨g,1,none⟩=some (I r.rq)
 c2:W.cell? ⟨g,2,none⟩=some (I r.first)
 c3:W.cell? ⟨g,3,none⟩=some (I r.guards)
 c4:W.cell? ⟨g,4,none⟩=some (I r.pages)
 hf:r.first<=300
 hu:r.guards<=3
 hp:r.pages<=18014398509481984
theorem Lc.below {g r} (h:Lc g r W) (k:D W W'):Lc g r W':=⟨ad k h.c0,ad k h.c1,ad k h.c2,ad k h.c3,ad k h.c4,h.hf,h.hu,h.hp⟩
theorem ie (g r W) (h:Lc g r W) :
  Calls prog 138 #[J g 0] W λe W'=>e=.returned (U r.base)/\W'=W.drew:=by
 obtain⟨_,_,b,c,_,d,i,_⟩:=h;have a:=H (show ((r.base:Nat):Int)=((r.first:Int)+(r.guards:Int))*1024 by unfold Rg9.base;omega);generalize r.first=f at *
 generalize r.guards=u at *;go_enter func138,ntmps138;go_wp2;go_region;go_wp2;go_ret;rw [a.out];exact⟨rfl,rfl⟩
theorem sY (g r W) (h:Lc g r W) (a:r.pages<=300) :
  Calls prog 274 #[J g 0] W λe W'=>e=.returned (I (r.pages*1024:Nat))/\W'=W:=by
 obtain⟨_,_,_,_,c,_,_,_⟩:=h;have b:=H (show ((r.pages*1024:Nat):Int)=(r.pages:Int)*1024 by omega);generalize r.pages=p at *;go_enter func274,ntmps274;go_wp2;go_ret;rw [b.out];exact⟨rfl,rfl⟩
theorem iE (g r W) (h:Lc g r W) :
  Calls prog 113 #[J g 0] W λe W'=>e=.returned (I r.ext)/\W'=W.drew:=by
 obtain⟨_,_,_,b,c,_,d,f⟩:=h;have a:=H (show ((r.ext:Nat):Int)=(r.guards:Int)+(r.pages:Int)+1 by unfold Rg9.ext;omega);generalize r.guards=u at *;generalize r.pages=p at *;go_enter func113,ntmps113;go_wp2;go_region;go_wp2;go_ret;rw [a.out];exact⟨rfl,rfl⟩
theorem Sh.usedP {B x cf h} (a:Sh B x cf h W):Sh B x cf { h with used:=h.used+1 } (W.setCell ⟨x.P,12,none⟩ (I (h.used+1:Nat))):=by
 refine a.boxed (Ky.grown a.box rfl (au (al W x.P) 12 _)) (h.used+1) ?_;simp [World.setCell,FD,a.box,fN]
theorem oQ (B x cf h) (n:Nat) (W) (b:Sh B x cf h W) (p:1<=n) (s:n<=1000000) (l:h.used<=1000000) (v:cf.ds.length<=20000) (q:∀ d∈cf.ds,(Lit.int .i64 d).wf=true) :
  Calls prog 162 #[J x.P 0,I n] W λe W'=>e=.returned (I (dr cf h n:Nat))/\Sh B x cf { h with used:=h.used+1 } W'/\W.grownBy W' (some x.P):=by
 have f:W.cell? ⟨x.P,12,none⟩=some (I h.used):=b.cell 12 _ rfl;have t:W.cell? ⟨x.P,5,none⟩=some (.slice x.da cf.ds.length x.dc):=b.cell 5 _ rfl;have f12:W.frozen? ⟨x.P,12,none⟩=false:=by simp [World.frozen?,b.box]
 have c:((h.used+1:Nat):Int)=(h.used:Int)+1:=Z;have i:=H b.usedP;have a:=H (au (al W x.P) 12 (I (h.used+1:Nat)));rw [c] at i a;clear c;by_cases c:h.used<cf.ds.length
 ·obtain⟨g,j,r⟩:=b.ds.cells h.used c;rw [j] at t;have k:=H (show dr cf h n=md (cf.ds[h.used]?.getD 0) n from rfl);generalize cf.ds[h.used]?.getD 0=d at k r;have M:=H (λW'=>lU d n W' p Z);have w:=H l;generalize cf.ds.length=m at *;generalize o:h.used=us at f r c i a l;clear b q j;have j:(us:Int)<(m:Int):=Z;go_enter func162,ntmps162;go_wp2;go_region;go_wp2;go_region;go_wp2_with fail;refine (M _).mono ?_;rintro e u ⟨rfl,rfl⟩;go_wp2;go_ret;refine⟨?_,i.below (Fu _ _).drew.drew,⟨a.os,a.tape,a.output,a.size,a.block⟩⟩;rw [k.out];rfl
 have k:=H (show dr cf h n=md 0 n by unfold dr md;rw [FJ Z];rfl);have M:=H (λW'=>lU 0 n W' p Z);generalize cf.ds.length=m at *;generalize o:h.used=us at f c i a l;clear b q;have j:¬((us:Int)<(m:Int)):=Z;go_enter func162,ntmps162;go_wp2;go_region;go_wp2_with fail;refine (M _).mono ?_;rintro e u ⟨rfl,rfl⟩;go_wp2;go_ret;refine⟨?_,i.below (Fu _ _).drew,⟨a.os,a.tape,a.output,a.size,a.block⟩⟩;rw [k.out];rfl
structure df where
 o:fL
 d:Option Addr
 dc:Nat
def fH (q:df):List Value:=[I q.o.kd,I q.o.ref,U q.o.p,U q.o.a,U q.o.b,.slice q.d q.o.ys.length q.dc]
structure Ois (w:World) (A:Option Addr) (ops:List df):Prop where
 at_:∀ k q,ops[k]?=some q->∃ G,A=some ⟨G,0,none⟩/\G<w.heap.size/\∀ j u,(fH q)[j]?=some u->w.cell? ⟨G,k*6+j,none⟩=some u
 wf:∀ q∈ops,q.o.p<18446744073709551616/\q.o.a<18446744073709551616/\q.o.b<18446744073709551616
 dat:∀ q∈ops,∀ i,i<q.o.ys.length->∃ x,q.d=some x/\w.cell? (x.add i)=some (.int .u8 (q.o.ys[i]?.getD 0))/\(x.add i).block<w.heap.size
theorem cR (b:D w W) {x:Addr} {u:Value} (h:w.cell? x=some u):W.cell? x=some u:=ad b h
theorem Ois.dt {A ops} (h:Ois w A ops) {Q:Nat} (b:D w W) (k:w.heap.size<=Q) (a:∀ g,e_ Q W g->w.heap.size<=g) {q:df} (c:q∈ops):Dt Q W q.d q.o.ys.length q.o.ys:=by
 refine⟨rfl,λi d=>?_⟩;obtain⟨x,f,g,j⟩:=h.dat q c i d;exact⟨x,f,cR b g,FG j b.size,Z,λe=>by have:=a _ e;omega⟩
end
section
open Go.ChangeShapes Go.WideShapes Go.ChangeAt Go.RowKit Go.Shelf Go.Maps
theorem fY (w0:World) (a:Option Addr) (len cap:Nat) (g:List Int) (f:IsRow .u8 w0 a len cap g) (d:len<=1048576) (R b0 W) (i:Rd w0 a len cap R b0 W) :
  Calls prog 58 #[.pointer (some ⟨R,0,none⟩)] W λe W'=>(∃ c:Int,0<=c/\c<=18446744073709551615/\e=.returned (.int .u64 c))/\Rd w0 a len cap R b0 W':=by
 have N:=H (λW h=>d_ w0 a len cap g f d R b0 W h);have V:=H (λW h=>ij w0 a len cap g f d R b0 W h);have b:=H gD;have j:=H i;clear i f;go_enter func58,ntmps58;go_wp2_with fail;refine (N _ j).mono ?_;rintro e q ⟨⟨k,m,rfl⟩,i⟩;have f:=H i;clear i j;by_cases n:250<=k
 ·have:k=250\/k=251\/k=252\/k=253\/k=254\/k=255:=Z;clear n m;rcases this with rfl|rfl|rfl|rfl|rfl|rfl
  all_goals
   go_wp2_with fail
   refine (V _ f).mono ?_
   rintro e o ⟨⟨c,l,p,rfl⟩,j⟩
   have i:=H j
   clear j
   go_wp2
   go_ret
   exact⟨⟨_,Z,Z,rfl⟩,i⟩
 ·by_cases r:225<=k
  ·go_wp2;go_ret;exact⟨⟨_,Z,Z,rfl⟩,f⟩
  ·by_cases s:200<=k
   ·go_wp2;go_ret;exact⟨⟨_,Z,Z,rfl⟩,f⟩
   ·by_cases t:k%3=0
    ·have j:((k:Int)%3==0)=true:=bG;have p:=ui ((k:Int)/3%12);go_wp2_with fail;refine (b _ _).mono ?_;rintro e o ⟨rfl,l⟩;have i:=H (f.below l);clear l;generalize us ((k:Int)/3%12)=u at p;go_wp2;go_ret;exact⟨⟨_,Z,Z,rfl⟩,i⟩
    ·have j:((k:Int)%3==0)=false:=bG;by_cases p:k%3=1
     ·have l:((k:Int)%3==1)=true:=bG;go_wp2;go_ret;exact⟨⟨_,Z,Z,rfl⟩,f⟩
     ·have l:((k:Int)%3==1)=false:=bG;go_wp2;go_ret;exact⟨⟨_,Z,Z,rfl⟩,f⟩
theorem Cs (c:Int) (j:Nat) (a:0<=c) (b:c<=18446744073709551615):0<=c/2 ^ j/\c/2 ^ j<=18446744073709551615 :=
 ⟨Int.ediv_nonneg a (Int.pow_nonneg Z),Int.le_trans (Int.ediv_le_self _ a) b⟩
theorem u64_in (z:Int):0<=IntKind.u64.wrap z/\IntKind.u64.wrap z<=18446744073709551615:=by rw [IntKind.wrap_u64];omega
theorem pV (w0:World) (a:Option Addr) (len cap:Nat) (x:List Int) (b:IsRow .u8 w0 a len cap x) (j:len<=1048576) (R b0 W) (d:Rd w0 a len cap R b0 W) :
  Calls prog 44 #[.pointer (some ⟨R,0,none⟩)] W λe W'=>(∃ c:Int,0<=c/\c<=18446744073709551615/\e=.returned (.int .u64 c))/\Rd w0 a len cap R b0 W':=by
 have N:=H (λW h=>d_ w0 a len cap x b j R b0 W h);have V:=H (λW h=>ij w0 a len cap x b j R b0 W h);have g:=H jO;have i:=H em;have l:=H dx;have m:=H gM;have P:=H gl;have Q:=H gn;have f:=H u64_in;have o:=H d;clear d b;go_enter func44,ntmps44;go_wp2_with fail;refine (N _ o).mono ?_;rintro e Y ⟨⟨k,hk,rfl⟩,b⟩;have d:=H b;clear b o;go_wp2_with fail;refine (N _ d).mono ?_;rintro e w2 ⟨⟨c,hc,rfl⟩,b⟩;have o:=H b;clear b d;go_wp2_with fail;refine (N _ o).mono ?_;rintro e w3 ⟨⟨s,hs,rfl⟩,b⟩;have p:=H b;clear b o;have o:(0:Int)<=(c:Int)%12/\(c:Int)%12<12:=Z;have S:(0:Int)<=(s:Int)%6/\(s:Int)%6<6:=Z;have b:=kh o;have hz:=eJ o;have hp:=fy o;have T:4<=sl ((c:Int)%12)/\sl ((c:Int)%12)<=64:=⟨b.1,b.2.1⟩;have d:=H (g ((c:Int)%12) ((s:Int)%6) Z Z);have y:=H (i ((c:Int)%12));have t:=H (l ((c:Int)%12));have u:=H (m ((c:Int)%12));clear b g i l m;go_wp2_with fail;generalize (c:Int)%12=v at *;generalize (s:Int)%6=X at *;refine (d _).mono ?_;rintro e w4 ⟨rfl,b⟩;have g:=H (p.below b);clear b p;generalize rs v+X*(pg v+1)=L at *;generalize pg v=p at *;generalize sz v=z at *;generalize sl v=l at *;go_wp2_with fail;refine (N _ g).mono ?_;rintro e w5 ⟨⟨n,hn,rfl⟩,i⟩;have b:=H i;clear i g d;have A:(k:Int)%8=0\/(k:Int)%8=1\/(k:Int)%8=2\/(k:Int)%8=3\/(k:Int)%8=4\/(k:Int)%8=5\/(k:Int)%8=6\/(k:Int)%8=7:=Z;rcases A with q|q|q|q|q|q|q|q
 ·go_wp2;go_ret;exact⟨⟨_,(f _).1,(f _).2,rfl⟩,b⟩
 ·go_wp2_with fail;refine (y _).mono ?_;rintro e r ⟨rfl,i⟩;have g:=H (b.below i);clear i b;go_wp2;go_ret;exact⟨⟨_,(f _).1,(f _).2,rfl⟩,g⟩
 ·go_wp2_with fail;refine (u _).mono ?_;rintro e r ⟨rfl,i⟩;have g:=H (b.below i);clear i b;go_wp2_with fail;refine (t _).mono ?_;rintro e K ⟨rfl,w⟩;have B:=H (g.below w);clear w g;go_wp2;go_ret;exact⟨⟨_,(f _).1,(f _).2,rfl⟩,B⟩
 ·go_wp2_with fail;refine (P _).mono ?_;rintro e r ⟨rfl,i⟩;have g:=H (b.below i);clear i b;go_wp2_with fail;refine (N _ g).mono ?_;rintro e K ⟨⟨d,M,rfl⟩,m⟩;have B:=H m;clear m g;go_wp2;go_ret;exact⟨⟨_,(f _).1,(f _).2,rfl⟩,B⟩
 ·go_wp2_with fail;refine (Q _).mono ?_;rintro e r ⟨rfl,i⟩;have g:=H (b.below i);clear i b;go_wp2;go_ret;exact⟨⟨_,(f _).1,(f _).2,rfl⟩,g⟩
 ·go_wp2_with fail;refine (V _ b).mono ?_;rintro e r ⟨⟨d,F,G,rfl⟩,m⟩;have g:=H m;have O:=H (λj=>Cs d j F G);clear m b;go_wp2;go_ret;exact⟨⟨_,(O _).1,(O _).2,rfl⟩,g⟩
 ·go_wp2_with fail;refine (N _ b).mono ?_;rintro e r ⟨⟨d,M,rfl⟩,m⟩;have g:=H m;clear m b;go_wp2;go_ret;exact⟨⟨_,(f _).1,(f _).2,rfl⟩,g⟩
 ·go_wp2
  go_region_with (first
   | (go_at_call 28;refine (N _ ?_).mono ?_;exact b.drew;rintro e r ⟨⟨d,M,rfl⟩,m⟩)
   | (go_at_call 45;refine (u _).mono ?_;rintro e K ⟨rfl,w⟩)
   | (go_at_call 21;refine (t _).mono ?_;rintro e G ⟨rfl,F⟩))
  all_goals
   have G:=H ((m.below w).below F)
   clear m w F b
   go_wp2
   go_ret
   exact⟨⟨_,(f _).1,(f _).2,rfl⟩,G⟩
end
section
open Go.RowKit Go.Shelf Go.Maps
structure Od6 (B : Nat) (q : df) (W : World) : Prop where
  p : q.o.p<18446744073709551616
  a : q.o.a<18446744073709551616
  b : q.o.b<18446744073709551616
  d : W.ownsRow B 5 1 (.slice q.d q.o.ys.length q.dc) q.o.ys.length (Ns .u8 q.o.ys)
  r : -9223372036854775808<=q.o.ref
  y : ∀ y ∈ q.o.ys, 0<=y/\y<=255
structure Ob6 (w0 : World) (a : Option Addr) (len cap R : Nat) (b0 : World) (X Y : Nat) (q : df) (W : World) : Prop where
  rd : Rd w0 a len cap R b0 W
  rn : R<b0.heap.size
  x : W.heap[X]? = some (.cells (fH q).toArray 42)
  xn : b0.heap.size<=X
  y : W.heap[Y]? = some (.cells #[.int .i64 0, .int .i64 0, .int .u64 0, .int .u64 0, .int .u64 0, .slice none 0 0] 42)
  yn : b0.heap.size<=Y
  xy : X ≠ Y
  od : Od6 b0.heap.size q W
theorem eD {t:TypeId} {sz:Nat} (h:W.ownsRow b e sz v n xs) {j:Array Value} {f:Nat×Nat} (k:W.heap[X]?=some (.cells j t f)) (c:e≠t):v.ownBlock≠some X:=λa=>by
 rcases h.2 with ⟨d,_⟩|⟨g,cap,l,d,m,i,_⟩
 ·rw [d] at a;cases a
 ·rw [d] at a
  have:g=X:=by simpa [Value.ownBlock] using a
  subst this
  rw [k] at i
  simp at i
  exact c i.2.1.symm
theorem Od6.kept {B q W} {W':World} (h:Od6 B q W) {r:Nat} (g:W.grownBy W' (some r)) (a:(Value.slice q.d q.o.ys.length q.dc).ownBlock≠some r):Od6 B q W':=⟨h.p,h.a,h.b,h.d.kept g (.inr a),h.r,h.y⟩
theorem Ob6.upd {q} (h:Ob6 w0 a len cap R b0 X Y q W) (i:Nat) (v:Value) (q') (d:fH q'=(fH q).set i v) (c:Od6 b0.heap.size q' W):Ob6 w0 a len cap R b0 X Y q' (W.setCell ⟨X,i,none⟩ v):=by
 have f:=h.rn;have b:W.grownBy (W.setCell ⟨X,i,none⟩ v) (some X):=au (al W X) i v;have g:=h.xn;refine⟨h.rd.app b (λr e=>by cases e;omega),f,?_,h.xn,?_,h.yn,h.xy,c.kept b (eD c.d h.x ar)⟩
 ·rw [d];simp [World.setCell,FD,h.x]
 ·rw [b.block Y (ag h.y) (λe=>by cases e;exact h.xy rfl)];exact h.y
theorem Ob6.next {q} (h:Ob6 w0 a len cap R b0 X Y q W) (b:Rd w0 a len cap R W W'):Ob6 w0 a len cap R b0 X Y q W':=by
 have c:=h.rn;have d:=h.xn;have f:=h.yn;refine⟨h.rd.of b,c,?_,h.xn,?_,h.yn,h.xy,h.od.kept b.g (λe=>by have:=(h.od.d.lt R e).1;omega)⟩;·rw [b.g.block X (ag h.x) (λe=>by cases e;omega)];exact h.x
 ·rw [b.g.block Y (ag h.y) (λe=>by cases e;omega)];exact h.y
theorem Ob6.below {w0 a len cap R b0 W W' X Y q} (h:Ob6 w0 a len cap R b0 X Y q W) (b:D W W'):Ob6 w0 a len cap R b0 X Y q W':=h.next (h.rd.at.below b)
theorem Ob6.drew {w0 a len cap R b0 W X Y q} (h:Ob6 w0 a len cap R b0 X Y q W):Ob6 w0 a len cap R b0 X Y q W.drew:=h.below (Fu _ _).drew
theorem Ob6.cells {q} (h:Ob6 w0 a len cap R b0 X Y q W):W.cell? ⟨X,0,none⟩=some (.int .i64 q.o.kd)/\W.cell? ⟨X,1,none⟩=some (.int .i64 q.o.ref)/\W.cell? ⟨X,2,none⟩=some (.int .u64 (q.o.p:Nat))/\W.cell? ⟨X,3,none⟩=some (.int .u64 (q.o.a:Nat))/\W.cell? ⟨X,4,none⟩=some (.int .u64 (q.o.b:Nat))/\W.cell? ⟨X,5,none⟩=some (.slice q.d q.o.ys.length q.dc):=by
 have:=h.x;simp [World.cell?,this,fH]
theorem Ob6.fr {q} (h:Ob6 w0 a len cap R b0 X Y q W) (i:Nat):W.frozen? ⟨X,i,none⟩=false:=by simp [World.frozen?,h.x]
theorem Ob6.setKd {q} (h:Ob6 w0 a len cap R b0 X Y q W) (x:Int):Ob6 w0 a len cap R b0 X Y { q with o:={ q.o with kd:=x } } (W.setCell ⟨X,0,none⟩ (.int .i64 x)):=h.upd 0 _ _ rfl ⟨h.od.p,h.od.a,h.od.b,h.od.d,h.od.r,h.od.y⟩
theorem Ob6.setRef {q} (h:Ob6 w0 a len cap R b0 X Y q W) (x:Int) (b : -9223372036854775808<=x):Ob6 w0 a len cap R b0 X Y { q with o:={ q.o with ref:=x } } (W.setCell ⟨X,1,none⟩ (.int .i64 x)):=h.upd 1 _ _ rfl ⟨h.od.p,h.od.a,h.od.b,h.od.d,b,h.od.y⟩
theorem Ob6.setP {q} (h:Ob6 w0 a len cap R b0 X Y q W) (x:Int) (b:0<=x) (c:x<=18446744073709551615):Ob6 w0 a len cap R b0 X Y { q with o:={ q.o with p:=x.toNat } } (W.setCell ⟨X,2,none⟩ (.int .u64 x)):=by
 obtain⟨n,rfl⟩:=Ha b;exact h.upd 2 _ _ rfl ⟨by show n<_;omega,h.od.a,h.od.b,h.od.d,h.od.r,h.od.y⟩
theorem Ob6.setA {q} (h:Ob6 w0 a len cap R b0 X Y q W) (x:Int) (b:0<=x) (c:x<=18446744073709551615):Ob6 w0 a len cap R b0 X Y { q with o:={ q.o with a:=x.toNat } } (W.setCell ⟨X,3,none⟩ (.int .u64 x)):=by
 obtain⟨n,rfl⟩:=Ha b;exact h.upd 3 _ _ rfl ⟨h.od.p,by show n<_;omega,h.od.b,h.od.d,h.od.r,h.od.y⟩
theorem Ob6.setB {q} (h:Ob6 w0 a len cap R b0 X Y q W) (x:Int) (c:0<=x) (d:x<=18446744073709551615):Ob6 w0 a len cap R b0 X Y { q with o:={ q.o with b:=x.toNat } } (W.setCell ⟨X,4,none⟩ (.int .u64 x)):=by
 obtain⟨n,rfl⟩:=Ha c;exact h.upd 4 _ _ rfl ⟨h.od.p,h.od.a,by show n<_;omega,h.od.d,h.od.r,h.od.y⟩
theorem Ob6.setD {q} (h:Ob6 w0 a len cap R b0 X Y q W) (d:Option Addr) (c:Nat) (b:List Int) (e:W.ownsRow b0.heap.size 5 1 (.slice d b.length c) b.length (Ns .u8 b)) (f:∀ y∈b,0<=y/\y<=255):Ob6 w0 a len cap R b0 X Y ⟨{ q.o with ys:=b },d,c⟩ (W.setCell ⟨X,5,none⟩ (.slice d b.length c)):=h.upd 5 _ _ rfl ⟨h.od.p,h.od.a,h.od.b,e,h.od.r,f⟩
theorem Ob6.row {q} (h:Ob6 w0 a len cap R b0 X Y q W) (b x y:Int) (d:0<=x) (j:x<=18446744073709551615) (f:0<=y) (k:y<=18446744073709551615):Ob6 w0 a len cap R b0 X Y ⟨⟨b,0,0,x.toNat,y.toNat,[]⟩,none,0⟩ (W.setRow X #[.int .i64 b,.int .i64 0,.int .u64 0,.int .u64 x,.int .u64 y,.slice none 0 0]):=by
 obtain⟨n,rfl⟩:=Ha d;obtain⟨m,rfl⟩:=Ha f;have g:=h.rn;have l:=h.xn;have c:W.grownBy (W.setRow X #[.int .i64 b,.int .i64 0,.int .u64 0,.int .u64 (n:Int),.int .u64 (m:Int),.slice none 0 0]) (some X):=aj W X _;refine⟨h.rd.app c (λr e=>by cases e;omega),g,?_,h.xn,?_,h.yn,h.xy,⟨by show 0<_;omega,by show n<_;omega,by show m<_;omega,⟨rfl,.inl ⟨rfl,rfl⟩⟩,by show (-9223372036854775808:Int)<=0;omega,λy i=>by cases i⟩⟩;·exact aw h.x _
 ·rw [c.block Y (ag h.y) (λe=>by cases e;exact h.xy rfl)];exact h.y
def iN (n : Nat) : Code->Option Code
 | .block k c => if k=n then some (.block k c) else iN n c
 | .seq a b => match iN n a with
  | some c => some c
  | none => iN n b
 | .scope c => iN n c
 | .loop c => iN n c
 | .cond _ a b => match iN n a with
  | some c => some c
  | none => iN n b
 | _ => none
theorem ik {sz:Nat} {d:Option Addr} {l:Nat} (h:W.ownsRow b e sz (.slice d l c) n xs):l=n:=by
 rcases h.2 with ⟨a,j⟩|⟨g,cap,f,i,_⟩;·simp at a;omega
 ·simp at i;omega
theorem gz {d:Nat} {sz:Nat} (f:d<=b) (h:W.ownsRow b e sz v n xs):W.ownsRow d e sz v n xs:=by
 refine⟨h.1,?_⟩;rcases h.2 with a|⟨g,cap,c,i,a,j⟩;·exact .inl a
 ·exact .inr ⟨g,cap,c,i,Fx f a,j⟩
def B0 (w0 : World) (a : Option Addr) (len cap R : Nat) (gv : Nat) (tt : Bool) (W : World) (X Y k : Nat) (Pm : Int->Prop) : Prop := ∀ (m : Int) (K : Act->World->Prop) (Q : Exit->Act->World->Prop) (q : df) (w : World) (u9 u10 u11 u12 u13 u14 u15 u16 u17 u18 u19 u20 u21 u22 u23 u24 u25 u26 u27 u28 u29 u32 u33 u34 u35 u36 u37 u38 u39 u40 u41 u42 u43 u44 u45 u46 u47 u48 u49 u50 u51 u52 u53 u54 u55 u56 u57 u58 u59 u60 u61 u62 u63 u64 u65 u66 u67 u68 u69 u70 u71 u72 u73 u74 u75 u76 u77 u78 u79 u80 u81 u82 u83 u84 u85 u86 u87 u88 u89 u90 u91 u92 u93 u94 u95 u96 u97 u98 u99 u100 u101 u102 u103 u104 u105 u106 u107 u108 u109 u110 u111 u112 u113 u114 u115 u116 u117 u118 u119 u120 u121 u122 u123 u124 u125 u126 u127 u128 u129 u130 u131 u132 u133 u134 u135 u136 u137 u138 u139 u140 u141 u142 u143 u144 u145 u146 u147 u148 : Value), Pm m->Hid (Ob6 w0 a len cap R W X Y q w) ->
 (∀ (v9 j1 g1 l8 e6 k5 e9 f7 i6 n3 h9 h1 e7 m9 n7 f6 m4 l3 h5 m7 i1 e5 n2 h0 g0 n5 n1 l2 g6 g4 g5 m1 h8 j2 g2 f2 m0 k2 k9 j0 l5 i9 i2 f3 j7 l4 j6 h6 m8 h3 n4 i7 j5 j8 e8 f5 f9 k7 j9 m6 j3 m3 n6 h7 i8 n8 i0 f4 j4 l9 i5 i4 g9 m5 f8 h2 i3 k6 l7 l6 k8 m2 h4 g7 n0 k4 g8 k3 g3 d4 i A t d7 a8 b1 a0 a2 e3 d9 b6 N c9 B a1 b3 O V l L d8 j b4 b7 e2 a4 e0 e e4 c6 a5 a6 b8 d5 F u d6 v b2 z a3 c8 c7 a7 b5 e1 a9 b9 : Value) (q' : df) (w' : World), Hid (Ob6 w0 a len cap R W X Y q' w')->K ⟨#[.pointer (some ⟨R, 0, none⟩), .int .i64 (gv : Nat), .bool tt, undef, undef, undef, .pointer (some ⟨Y, 0, none⟩), .int .i64 (k : Nat), .pointer (some ⟨X, 0, none⟩), v9, j1, g1, l8, e6, k5, e9, f7, i6, n3, h9, h1, e7, m9, n7, f6, m4, l3, h5, m7, i1, .int .i64 (k : Nat), .int .i64 m, e5, n2, h0, g0, n5, n1, l2, g6, g4, g5, m1, h8, j2, g2, f2, m0, k2, k9, j0, l5, i9, i2, f3, j7, l4, j6, h6, m8, h3, n4, i7, j5, j8, e8, f5, f9, k7, j9, m6, j3, m3, n6, h7, i8, n8, i0, f4, j4, l9, i5, i4, g9, m5, f8, h2, i3, k6, l7, l6, k8, m2, h4, g7, n0, k4, g8, k3, g3, d4, i, A, t, d7, a8, b1, a0, a2, e3, d9, b6, N, c9, B, a1, b3, O, V, l, L, d8, j, b4, b7, e2, a4, e0, e, e4, c6, a5, a6, b8, d5, F, u, d6, v, b2, z, a3, c8, c7, a7, b5, e1, a9, b9], []⟩ w')->Code.wp prog ((Tryz.f29.body.bind (iN 0)).getD .skip) (Exit.then K Q) ⟨#[.pointer (some ⟨R, 0, none⟩), .int .i64 (gv : Nat), .bool tt, undef, undef, undef, .pointer (some ⟨Y, 0, none⟩), .int .i64 (k : Nat), .pointer (some ⟨X, 0, none⟩), u9, u10, u11, u12, u13, u14, u15, u16, u17, u18, u19, u20, u21, u22, u23, u24, u25, u26, u27, u28, u29, .int .i64 (k : Nat), .int .i64 m, u32, u33, u34, u35, u36, u37, u38, u39, u40, u41, u42, u43, u44, u45, u46, u47, u48, u49, u50, u51, u52, u53, u54, u55, u56, u57, u58, u59, u60, u61, u62, u63, u64, u65, u66, u67, u68, u69, u70, u71, u72, u73, u74, u75, u76, u77, u78, u79, u80, u81, u82, u83, u84, u85, u86, u87, u88, u89, u90, u91, u92, u93, u94, u95, u96, u97, u98, u99, u100, u101, u102, u103, u104, u105, u106, u107, u108, u109, u110, u111, u112, u113, u114, u115, u116, u117, u118, u119, u120, u121, u122, u123, u124, u125, u126, u127, u128, u129, u130, u131, u132, u133, u134, u135, u136, u137, u138, u139, u140, u141, u142, u143, u144, u145, u146, u147, u148], []⟩ w
structure Cd where
  mi : Int
  fi : Int
  la : Int
  bu : Int
  ky : Int
  ds : List Int
  da : Option Addr
  dc : Nat
def pQ (c : Cd) : List Value := [.int .i64 c.mi, .int .i64 c.fi, .int .i64 c.la, .int .i64 c.bu, .int .u64 c.ky, .slice c.da c.ds.length c.dc]
structure Ok4 (B : Nat) (c : Cd) (W : World) : Prop where
  k0 : 0<=c.ky
  k1 : c.ky<=18446744073709551615
  dw : ∀ x ∈ c.ds, -40<=x/\x<=215
  d : W.ownsRow B 3 1 (.slice c.da c.ds.length c.dc) c.ds.length (Ns .i64 c.ds)
structure Ch (w0 : World) (a : Option Addr) (len cap R : Nat) (b0 : World) (X Y : Nat) (c : Cd) (W : World) : Prop where
  rd : Rd w0 a len cap R b0 W
  rn : R<b0.heap.size
  x : W.heap[X]? = some (.cells (pQ c).toArray 26)
  xn : b0.heap.size<=X
  y : W.heap[Y]? = some (.cells #[.int .i64 0, .int .i64 0, .int .i64 0, .int .i64 0, .int .u64 0, .slice none 0 0] 26)
  yn : b0.heap.size<=Y
  xy : X ≠ Y
  od : Ok4 b0.heap.size c W
theorem Ok4.kept {B c W} {W':World} (h:Ok4 B c W) {r:Nat} (g:W.grownBy W' (some r)) (a:(Value.slice c.da c.ds.length c.dc).ownBlock≠some r):Ok4 B c W':=⟨h.k0,h.k1,h.dw,h.d.kept g (.inr a)⟩
theorem Ch.upd {c} (h:Ch w0 a len cap R b0 X Y c W) (i:Nat) (v:Value) (c') (f:pQ c'=(pQ c).set i v) (d:Ok4 b0.heap.size c' W):Ch w0 a len cap R b0 X Y c' (W.setCell ⟨X,i,none⟩ v):=by
 have g:=h.rn;have b:W.grownBy (W.setCell ⟨X,i,none⟩ v) (some X):=au (al W X) i v;have j:=h.xn;refine⟨h.rd.app b (λr e=>by cases e;omega),g,?_,h.xn,?_,h.yn,h.xy,d.kept b (eD d.d h.x ar)⟩
 ·rw [f];simp [World.setCell,FD,h.x]
 ·rw [b.block Y (ag h.y) (λe=>by cases e;exact h.xy rfl)];exact h.y
theorem Ch.next {c} (h:Ch w0 a len cap R b0 X Y c W) (b:Rd w0 a len cap R W W'):Ch w0 a len cap R b0 X Y c W':=by
 have d:=h.rn;have f:=h.xn;have g:=h.yn;refine⟨h.rd.of b,d,?_,h.xn,?_,h.yn,h.xy,h.od.kept b.g (λe=>by have:=(h.od.d.lt R e).1;omega)⟩;·rw [b.g.block X (ag h.x) (λe=>by cases e;omega)];exact h.x
 ·rw [b.g.block Y (ag h.y) (λe=>by cases e;omega)];exact h.y
theorem Ch.below {w0 a len cap R b0 W X Y c} (h:Ch w0 a len cap R b0 X Y c W) {W'} (b:D W W'):Ch w0 a len cap R b0 X Y c W':=h.next (h.rd.at.below b)
theorem Ch.drew {w0 a len cap R b0 W X Y c} (h:Ch w0 a len cap R b0 X Y c W):Ch w0 a len cap R b0 X Y c W.drew:=h.below (Fu _ _).drew
theorem Ch.cells {c} (h:Ch w0 a len cap R b0 X Y c W):W.cell? ⟨X,0,none⟩=some (.int .i64 c.mi)/\W.cell? ⟨X,1,none⟩=some (.int .i64 c.fi)/\W.cell? ⟨X,2,none⟩=some (.int .i64 c.la)/\W.cell? ⟨X,3,none⟩=some (.int .i64 c.bu)/\W.cell? ⟨X,4,none⟩=some (.int .u64 c.ky)/\W.cell? ⟨X,5,none⟩=some (.slice c.da c.ds.length c.dc):=by
 have:=h.x;simp [World.cell?,this,pQ]
theorem Ch.fr {c} (h:Ch w0 a len cap R b0 X Y c W) (i:Nat):W.frozen? ⟨X,i,none⟩=false:=by simp [World.frozen?,h.x]
theorem Ch.setMi {c} (h:Ch w0 a len cap R b0 X Y c W) (x:Int):Ch w0 a len cap R b0 X Y { c with mi:=x } (W.setCell ⟨X,0,none⟩ (.int .i64 x)):=h.upd 0 _ _ rfl ⟨h.od.k0,h.od.k1,h.od.dw,h.od.d⟩
theorem Ch.setFi {c} (h:Ch w0 a len cap R b0 X Y c W) (x:Int):Ch w0 a len cap R b0 X Y { c with fi:=x } (W.setCell ⟨X,1,none⟩ (.int .i64 x)):=h.upd 1 _ _ rfl ⟨h.od.k0,h.od.k1,h.od.dw,h.od.d⟩
theorem Ch.setLa {c} (h:Ch w0 a len cap R b0 X Y c W) (x:Int):Ch w0 a len cap R b0 X Y { c with la:=x } (W.setCell ⟨X,2,none⟩ (.int .i64 x)):=h.upd 2 _ _ rfl ⟨h.od.k0,h.od.k1,h.od.dw,h.od.d⟩
theorem Ch.setBu {c} (h:Ch w0 a len cap R b0 X Y c W) (x:Int):Ch w0 a len cap R b0 X Y { c with bu:=x } (W.setCell ⟨X,3,none⟩ (.int .i64 x)):=h.upd 3 _ _ rfl ⟨h.od.k0,h.od.k1,h.od.dw,h.od.d⟩
theorem t9 (x:Int) (a : -9223372036854775808<=x) (b:x<=9223372036854775807):IntKind.i64.wrap x=x:=by
 show (if (true&&decide ((9223372036854775808:Int)<=x%18446744073709551616))=true then x%18446744073709551616-18446744073709551616 else x%18446744073709551616)=x;by_cases h:(9223372036854775808:Int)<=x%18446744073709551616;·rw [GP (by simp [h])];omega
 ·rw [GO (by simp [h])];omega
theorem kO {P:Program} {b:Array Oper} {c:Nat} {a:Act} (d:P.follows .mixedOrders=true)
  (h:wpAny P .any b Q b.size (Array.replicate b.size false) a w.drew):(Code.region c b true).wp P Q a w:=wp_region_any d h
theorem Cj:(prog.info? 3).map (λi=>(i.zero,i.size,i.bytes))=some (some (.int .i64 0),1,8):=E
theorem mK (t:TypeId) {o:Oper} {a:Act} {K:Act->World->Prop} (s x:Operand) {c:Value} (b:o.op=.call { callee:=.builtin .append,args:=#[s,x],argTypes:=#[t,t] }) (d:o.type=t) (e:a.eval s=v) (f:a.eval x=v2)
  (g:(Builtin.append_ #[t,t] t #[v,v2]).run prog W=.ok c W') (i:K (a.put o.dst c) W'):Oper.wp prog o a W K Q:=by
 unfold Oper.wp;simp [execOp,b,d,resolve,invoke,builtin,e,f,g,Result.andThen];exact i
theorem xh {sz:Nat} {d:Option Addr} {l:Nat} (h:W.ownsRow b e sz (.slice d l c) n xs):l=n:=by
 rcases h.2 with ⟨a,j⟩|⟨g,cap,f,i,_⟩;·simp at a;omega
 ·simp at i;omega
theorem Ch.app {w0 a len cap R b0 W X Y c} (h:Ch w0 a len cap R b0 X Y c W) (O:c.ds.length<=1000) (d:Int) (z : -40<=d/\d<=215):∃ b f g,
  (Builtin.append_ #[24,24] 24 #[.slice c.da c.ds.length c.dc,.slice (some ⟨W.heap.size,0,none⟩) 1 1]).run prog (W.alloc (.cells #[.int .i64 d] 3))=.ok (.slice b (c.ds.length+1) f) g /\
  g.frozen? ⟨X,5,none⟩=false/\g.cell? ⟨X,5,none⟩=some (.slice c.da c.ds.length c.dc)/\Ch w0 a len cap R b0 X Y { c with ds:=c.ds++[d],da:=b,dc:=f } (g.setCell ⟨X,5,none⟩ (.slice b (c.ds.length+1) f)):=by
 obtain⟨A,l,m,n,o⟩:=G0 Cj;have B:=(Fu W.heap.size W).alloc (Fv _) (.cells #[.int .i64 d] 3);have j:=h.below B;have F:=j.rd.g.size;obtain⟨Q,g,G,p,q,_⟩:=run_append_own_at (P:=prog) (w:=W.alloc (.cells #[.int .i64 d] 3)) b0.heap.size 24 24 3 A _ 1 8 underlying24 l m n o rfl Z _ _ _ j.od.d ⟨W.heap.size,0,none⟩ 1 1 [.int .i64 d] rfl (ek _ _ _ _ rfl) (by intro u i;simp at i;subst i;rfl) (by unfold maxLen;omega) Z F;obtain⟨b,S,f,rfl⟩:=fW p;obtain rfl:=xh p;have K:=h.rn;have T:=h.xn;have L:∀ r,(Value.slice c.da c.ds.length c.dc).ownBlock=some r->b0.heap.size<=r/\R<r:=λr e=>by have:=(h.od.d.lt r e).1;omega
 have M:(Value.slice c.da c.ds.length c.dc).ownBlock≠some X:=eD h.od.d h.x ar;have N:(Value.slice c.da c.ds.length c.dc).ownBlock≠some Y:=eD h.od.d h.y ar;have k:g.heap[X]?=some (.cells (pQ c).toArray 26):=by rw [q.block X (ag j.x) (λe=>M e.symm)];exact j.x
 have v:g.heap[Y]?=some (.cells #[.int .i64 0,.int .i64 0,.int .i64 0,.int .i64 0,.int .u64 0,.slice none 0 0] 26):=by rw [q.block Y (ag j.y) (λe=>N e.symm)];exact j.y
 have s:=j.rd.app q L;have t:g.grownBy (g.setCell ⟨X,5,none⟩ (.slice b (c.ds.length+1) f)) (some X):=au (al g X) 5 _;have y:g.ownsRow b0.heap.size 3 1 (.slice b (c.ds.length+1) f) (c.ds++[d]).length (Ns .i64 (c.ds++[d])):=by simpa [Ns] using p
 refine⟨b,f,g,G,by simp [World.frozen?,k],by simp [World.cell?,k,pQ],⟨s.app t (λr e=>by cases e;omega),K,?_,h.xn,?_,h.yn,h.xy,⟨h.od.k0,h.od.k1,?_,?_⟩⟩⟩;·simp [World.setCell,FD,k,pQ]
 ·rw [t.block Y (ag v) (λe=>by cases e;exact h.xy rfl)];exact v
 ·intro x i;rcases F8.1 i with i|i;·exact h.od.dw x i
  ·obtain rfl:=List.mem_singleton.1 i;exact z
 ·have:(Value.slice b (c.ds++[d]).length f)=.slice b (c.ds.length+1) f:=bH;show World.ownsRow _ _ _ _ (Value.slice b (c.ds++[d]).length f) _ _;rw [this];exact y.kept t (.inr (eD y k ar))
def iT (e : List df) : List Value := e.flatMap fH
structure D6 (w : World) (a : Option Addr) (len cap R C Y : Nat) (c : Cd) (v : Value) (ops : List df) (W : World) : Prop where
  rd : Rd w a len cap R w W
  c1 : R<C
  y1 : w.heap.size<=Y
  yr : Y<R
  cb : W.heap[C]? = some (.cells (pQ c).toArray 26)
  yb : W.heap[Y]? = some (.cells #[.int .i64 0, .int .i64 0, .int .i64 0, .int .i64 0, .int .u64 0, .slice none 0 0] 26)
  ok : Ok4 (R+1) c W
  row : W.ownsRow (R+1) 42 6 v ops.length (iT ops)
  dat : ∀ q ∈ ops, Od6 (R+1) q W
theorem D6.next {C c ops} (h:D6 w a len cap R C Y c v ops W) (b:Rd w a len cap R W W'):D6 w a len cap R C Y c v ops W':=by
 have f:=h.c1;have g:=h.yr;refine⟨h.rd.of b,f,h.y1,g,?_,?_,h.ok.kept b.g (λe=>by have:=(h.ok.d.lt R e).1;omega),h.row.kept b.g (.inr λe=>by have:=(h.row.lt R e).1;omega),λq d=>(h.dat q d).kept b.g (λe=>by have:=((h.dat q d).d.lt R e).1;omega)⟩;·rw [b.g.block C (ag h.cb) (λe=>by cases e;omega)];exact h.cb
 ·rw [b.g.block Y (ag h.yb) (λe=>by cases e;omega)];exact h.yb
theorem D6.below {w a len cap R C Y c v ops W} (h:D6 w a len cap R C Y c v ops W) {W'} (b:D W W'):D6 w a len cap R C Y c v ops W':=h.next (h.rd.at.below b)
theorem t8 {k l:Nat} {d j:TypeId} {m n:Nat} {b:Value} {o p:Nat} {q r:List Value} (s:W.ownsRow k d m b o q) (t:W.ownsRow l j n v2 p r) (f:d≠j):b.ownBlock=none\/b.ownBlock≠v2.ownBlock:=by
 by_cases e:b.ownBlock=none;·exact .inl e
 ·refine .inr λu=>?_;obtain⟨g,a⟩:=Option.ne_none_iff_exists'.1 e
  obtain⟨c,v⟩:∃ c,W.heap[g]?=some (.cells c d):=by
   rcases s.2 with ⟨i,_⟩|⟨w,cap,x,i,_,y,_⟩;·rw [i] at a;cases a
   ·rw [i] at a;have:w=g:=by simpa [Value.ownBlock] using a
    subst this;exact⟨_,y⟩
  exact eD t v (Iq f) (u.symm.trans a)
theorem yK:(prog.info? 42).map (λi=>(i.zero,i.size,i.bytes))=some (some (.agg #[.int .i64 0,.int .i64 0,.int .u64 0,.int .u64 0,.int .u64 0,.slice none 0 0]),6,64):=E
theorem ga (t:TypeId) {c:Array Oper} {b:List Oper} {o:Oper} {a:Act} (d:o.guard=none) (s x:Operand)
  (g:o.op=.call { callee:=.builtin .append,args:=#[s,x],argTypes:=#[t,t] }) (i:o.type=t) {e:Value} {f:World} (j:a.eval s=v) (k:a.eval x=v2)
  (l:(Builtin.append_ #[t,t] t #[v,v2]).run prog w=.ok e f) (h:wpList prog c Q b (a.put o.dst e) f):wpList prog c Q (o::b) a w:=by
 refine IA d λK m=>?_;unfold Oper.wp
 simp [execOp,g,i,resolve,invoke,builtin,j,k,l,Result.andThen];exact m _ _ h
theorem results_cell_tmp {c:Func} {p q:Tmp} {d:TypeId} (h:c.results=#[.cell p d,.tmp q]) (a:Array Value) (w:World) (g:Nat) (e:Array Value)
  (f:a.getD p undef=.pointer (some ⟨g,0,none⟩)) (i:(loadVar d ⟨g,0,none⟩).run prog w=.ok (.agg e) w) :
  (results c a).run prog w=.ok (.tuple #[.agg e,a.getD q undef]) w:=by
 have b:a[p]?.getD undef=.pointer (some ⟨g,0,none⟩):=by simpa using f
 simp [results,h,b,asAddr,i,Result.andThen]
theorem qT (a:List df) (q:df):iT (a++[q])=iT a++fH q:=by simp [iT]
theorem vZ (W:World) (xs:List Value) (t:TypeId):∀ j u,xs[j]?=some u->(W.alloc (.cells xs.toArray t)).cell? ((⟨W.heap.size,0,none⟩:Addr).add j)=some u:=by
 intro j u h;have a:(⟨W.heap.size,0,none⟩:Addr).add j=⟨W.heap.size,j,none⟩:=by unfold Addr.add;split <;> simp_all
 rw [a,GT _ _ j _ _ _ (ao W (.cells xs.toArray t)),<-h];simp
theorem D6.app {w a len cap R C Y c v ops W} (h:D6 w a len cap R C Y c v ops W) (G:ops.length<=1000) (q) (f:Od6 (R+1) q W):∃ k g,
  (Builtin.append_ #[27,27] 27 #[v,.slice (some ⟨W.heap.size,0,none⟩) 1 1]).run prog (W.alloc (.cells (fH q).toArray 42))=.ok k g/\D6 w a len cap R C Y c k (ops++[q]) g:=by
 obtain⟨s,l,m,n,o⟩:=G0 yK;have t:=(Fu W.heap.size W).alloc (Fv _) (.cells (fH q).toArray 42);have b:=h.below t;have y:R+1<=(W.alloc (.cells (fH q).toArray 42)).heap.size:=by have:=b.rd.lt;omega
 obtain⟨k,g,z,A,i,_⟩:=run_append_own_at (P:=prog) (w:=W.alloc (.cells (fH q).toArray 42)) (R+1) 27 27 42 s _ 6 64 underlying27 l m n o rfl Z _ _ _ b.row ⟨W.heap.size,0,none⟩ 1 1 (fH q) rfl (vZ _ _ _) (by intro u d;simp [fH] at d;rcases d with rfl|rfl|rfl|rfl|rfl|rfl <;> rfl) (by unfold maxLen;omega) Z y;have K:=h.c1;have B:=h.yr;have F:∀ r,v.ownBlock=some r->w.heap.size<=r/\R<r:=λr e=>by have:=(h.row.lt r e).1;have:=h.y1;omega
 have p:Od6 (R+1) q (W.alloc (.cells (fH q).toArray 42)):=⟨f.p,f.a,f.b,f.d.alloc _,f.r,f.y⟩;refine⟨k,g,z,⟨b.rd.app i F,h.c1,h.y1,h.yr,?_,?_,⟨h.ok.k0,h.ok.k1,h.ok.dw,b.ok.d.kept i (t8 b.ok.d b.row ar)⟩,by rw [FC,qT];exact A,λx d=>?_⟩⟩;·rw [i.block C (ag b.cb) (λe=>eD b.row b.cb ar e.symm)];exact b.cb
 ·rw [i.block Y (ag b.yb) (λe=>eD b.row b.yb ar e.symm)];exact b.yb
 ·have j:∀ x,Od6 (R+1) x (W.alloc (.cells (fH q).toArray 42))->Od6 (R+1) x g:=λx d=>⟨d.p,d.a,d.b,d.d.kept i (t8 d.d b.row ar),d.r,d.y⟩
  rcases F8.1 d with d|d;·exact j x (b.dat x d)
  ·obtain rfl:=List.mem_singleton.1 d;exact j _ p
end
end Go.Proofs.YtdngbppdomoenaaGreatDoor
