import Derived.Test.YtibblbenmpcplaaGreatDoorN11
import Derived.Test.YtibblbenmpcplaaGreatDoorN13
set_option linter.unusedVariables false
set_option linter.unusedSimpArgs false
set_option maxRecDepth 20000
set_option maxHeartbeats 8000000
namespace Go.Proofs.YtibblbenmpcplaaGreatDoor
open Go.Proofs.Tryz
variable {W W':World} {B:Nat} {y:Ly} {d:Dy} {cf:Cf} {h:Hs}
section
open Go.RowKit
theorem iV (x:Int) (a : -9223372036854775808<=x) (b:x<=9223372036854775807):IntKind.i64.wrap x=x:=by
 rw [Hh];omega
theorem n_ (g) (a:Nat) (r W) (h:Lc g r W) (ha:a<18446744073709551616) :
  Calls prog 125 #[J g 0,U a] W λe W'=>e=.returned (.bool (decide (r.first<=a/1024)&&decide (a/1024<r.first+r.ext)))/\D W W':=by
 have n:=H (λV (b:V.heap=W.heap)=>iE g r V ⟨by unfold World.cell?;rw [b];exact h.c0,by unfold World.cell?;rw [b];exact h.c1,by unfold World.cell?;rw [b];exact h.c2,by unfold World.cell?;rw [b];exact h.c3,by unfold World.cell?;rw [b];exact h.c4,h.hf,h.hu,h.hp⟩);obtain⟨_,_,i,_,_,s,l,m⟩:=h;have t:r.ext<=18014398509482000:=by unfold Rg9.ext;omega
 obtain⟨p,b⟩:∃ p,p=a/1024:=⟨_,rfl⟩;have o:p<18014398509481984:=Z;have d:=H (show (a:Int)/1024=(p:Int) by omega);rw [<-b];have j:=H (show ∀ c:World,c.heap=W.heap->c.cell? ⟨g,2,none⟩=some (I r.first)/\c.heap=W.heap from λc k=>⟨by unfold World.cell?;rw [k];exact i,k⟩);generalize r.first=f at *
 generalize r.ext=x at *;have q:IntKind.i64.wrap ((f:Int)+(x:Int))=(f:Int)+(x:Int):=iV _ Z Z;clear l m i b;by_cases i:f<=p
 ·have k:(f:Int)<=(p:Int):=Z;rw [G8 i,Bool.true_and];go_enter func125,ntmps125;go_upto_region 2 with fail
  rw [d.out];clear d i;refine rh (S:=λc=>c.cell? ⟨g,2,none⟩=some (I f)/\c.heap=W.heap) ?_;have b:=j.out _ rfl;refine pk 0 (I p) b ?_;refine pk 1 (J g 0) b ?_;refine pk 2 (J g 0) b ?_;refine pk 3 (J g 2) b ?_;refine pz 4 (I f) b ?_;refine pz 5 (.bool true) b ?_;refine pk 6 (.bool true) b ?_;refine pk 7 (I p) b ?_;refine pk 8 (J g 0) b ?_;refine pk 9 (J g 0) b ?_;refine pk 10 (J g 2) b ?_;refine pz 11 (I f) b ?_;refine pk 12 (J g 0) b ?_;refine po 13 λK' l=>?_;go_simp;refine (n W.drew rfl).mono ?_;rintro e u ⟨rfl,rfl⟩;have m:=j.out W.drew.drew rfl;refine l _ _ ⟨m,?_⟩;clear b;have b:=m;clear l K';refine pz 14 (I ((f:Int)+(x:Int))) b ?_;refine pz 15 (.bool (decide ((p:Int)<(f:Int)+(x:Int)))) b ?_;refine pz 16 (.bool (decide ((p:Int)<(f:Int)+(x:Int)))) b ?_;refine pk 17 (.bool (decide ((p:Int)<(f:Int)+(x:Int)))) b ?_;refine bY ?_;clear b;go_wp2;go_ret;refine⟨?_,(Fu _ _).drew.drew⟩;show Ending.returned (.bool (decide ((p:Int)<(f:Int)+(x:Int))))=_;congr 2;exact decide_eq_decide.2 Z
 have k:(p:Int)<(f:Int):=Z;rw [GR i,Bool.false_and];go_enter func125,ntmps125;go_upto_region 2 with fail
 rw [d.out];clear d i;refine rh (S:=λc=>c.cell? ⟨g,2,none⟩=some (I f)/\c.heap=W.heap) ?_;have b:=j.out _ rfl;refine pk 0 (I p) b ?_;refine pk 1 (J g 0) b ?_;refine pk 2 (J g 0) b ?_;refine pk 3 (J g 2) b ?_;refine pz 4 (I f) b ?_;refine pz 5 (.bool false) b ?_;refine pk 6 (.bool false) b ?_;refine ps 7 b ?_;refine ps 8 b ?_;refine ps 9 b ?_;refine ps 10 b ?_;refine ps 11 b ?_;refine ps 12 b ?_;refine ps 13 b ?_;refine ps 14 b ?_;refine ps 15 b ?_;refine pz 16 (.bool false) b ?_;refine pk 17 (.bool false) b ?_;refine bY ?_;clear b;go_wp2;go_ret;refine⟨?_,(Fu _ _).drew⟩;rfl
theorem ma (g k r W) (h:Lc g r W) :
  Calls prog 122 #[J g 0,I k] W λe W'=>e=.returned (kf k (r.first+r.guards:Nat) (r.pages:Nat) 0 0 none 0 0)/\D W W':=by
 obtain⟨_,_,d,i,j,s,t,w⟩:=h;have o:=H (show ((r.first+r.guards:Nat):Int)=(r.first:Int)+(r.guards:Int) by omega);generalize r.first=f at *
 generalize r.guards=u at *;generalize r.pages=p at *;obtain⟨V,b⟩:∃ V,V=W.alloc (.cells #[I 0,I 0,I 0,U 0,I 0,C] 175):=⟨_,rfl⟩;have l:D W V:=by rw [b];exact (Fu _ _).alloc (Fv _) _
 have X:=(show V.heap[W.heap.size]?=some (.cells #[I 0,I 0,I 0,U 0,I 0,C] 175) by rw [b];exact ao W _);have m:=H (show ∀ a,D W a->a.cell? ⟨g,2,none⟩=some (I f)/\a.cell? ⟨g,3,none⟩=some (I u)/\a.cell? ⟨g,4,none⟩=some (I p) from λa k=>⟨ad k d,ad k i,ad k j⟩);have q:IntKind.i64.wrap ((f:Int)+(u:Int))=(f:Int)+(u:Int):=iV _ Z Z;have n:=H l;have c:=H X;clear d i j l X;go_enter func122,ntmps122;go_upto_region 1 with fail
 refine Eq.mp (congrArg _ b) ?_;clear b;obtain⟨X,b⟩:∃ X,X=W.heap.size:=⟨_,rfl⟩;rw [<-b] at c ⊢;have d:=H b;clear b;refine rh (S:=λa=>a.cell? ⟨g,2,none⟩=some (I f)/\a.cell? ⟨g,3,none⟩=some (I u)/\a.cell? ⟨g,4,none⟩=some (I p)) ?_;have i:=m.out _ n.drew;iterate 15 (refine py i ?_;simp only [f0,f1,Nat.reduceAdd,lz,l0,ls])
 refine po 15 λK' j=>?_;refine Ih 175 _ _ rfl X _ rfl rfl 175 _ c E rfl mL ?_;have b:D W (V.drew.setRow X #[I k,I ((f:Int)+(u:Int)),I p,U 0,I 0,C]):=below_setRow n.drew (by rw [d.out];exact Fv _) _;refine j _ _ ⟨m _ b,?_⟩;refine bY ?_;have l:=aw (v:=V.drew) c #[I k,I ((f:Int)+(u:Int)),I p,U 0,I 0,C];go_wp2_with fail;refine fM l underlying175 ?_;rw [o.out];exact⟨rfl,b⟩
structure Bc (b r c s n cap:Nat) (on:Bool) (W:World):Prop where
 d0:W.cell? ⟨b,0,none⟩=some (I c)
 d1:W.cell? ⟨b,1,none⟩=some (I s)
 d2:W.cell? ⟨b,2,none⟩=some (.bool on)
 d3:W.cell? ⟨b,3,none⟩=some (Vl r n cap)
theorem Bc.below {b r c s n cap on} (h:Bc b r c s n cap on W) (k:D W W'):Bc b r c s n cap on W':=⟨ad k h.d0,ad k h.d1,ad k h.d2,ad k h.d3⟩
theorem mz (b r g0 c s n cap on k W) (h:Bc b r c s n cap on W) (N:0<n) (a:Sc g0 b c s 0 W) (g:W.cell? ⟨r,0,none⟩=some (J g0 0)) :
  Calls prog 127 #[J b 0,I k] W λe W'=>e=.returned (kf k (aD c s:Nat) (dI c:Nat) 0 0 none 0 0)/\D W W':=by
 have t:=ca a.hc a.hs a.hj;have u:=cD a.hc a.hs;have i:=pU a.hc;have B:=H (λV (f:D W V)=>eI g0 b c s 0 V (a.below f));have w:=H (λV (f:D W V)=>eY (c:Nat) V (a.tb.ofBelow f));rw [i] at w;have m:=H (show ((bh c s 0:Nat):Int)/1024=(aD c s:Nat) by unfold bh;omega);generalize j:bh c s 0=A at *;have F:A<=200000:=Z;generalize aD c s=q at *;generalize dI c=x at *;obtain⟨l,_,_,p⟩:=h;have o:=H (show ∀ d,D W d->d.cell? ⟨b,0,none⟩=some (I c)/\d.cell? ⟨b,3,none⟩=some (Vl r n cap)/\d.cell? ⟨r,0,none⟩=some (J g0 0) from λd k=>⟨ad k l,ad k p,ad k g⟩);clear l p g a t u i j;obtain⟨V,f⟩:∃ V,V=W.alloc (.cells #[I 0,I 0,I 0,U 0,I 0,C] 175):=⟨_,rfl⟩;have a:D W V:=by rw [f];exact (Fu _ _).alloc (Fv _) _
 have X:=(show V.heap[W.heap.size]?=some (.cells #[I 0,I 0,I 0,U 0,I 0,C] 175) by rw [f];exact ao W _);have j:=H a;have p:=H X;have G:IntKind.i64.wrap ((A:Int)/1024)=(q:Int):=by rw [m.out];exact iV _ (by have:=m.out;omega) (by have:=m.out;omega)
 have K:IntKind.u64.wrap ((A:Int)/1024)=(A:Int)/1024:=dX _ Z Z;clear a X;go_enter func127,ntmps127;go_upto_region 1 with fail
 refine Eq.mp (congrArg _ f) ?_;clear f;obtain⟨X,a⟩:∃ X,X=W.heap.size:=⟨_,rfl⟩;rw [<-a] at p ⊢;have L:=H a;clear a;refine rh (S:=λd=>d.cell? ⟨b,0,none⟩=some (I c)/\d.cell? ⟨b,3,none⟩=some (Vl r n cap)/\d.cell? ⟨r,0,none⟩=some (J g0 0)) ?_;have a:=o.out _ j.drew;iterate 7 (refine py a ?_;simp only [f0,f1,Nat.reduceAdd,lz,l0,ls])
 refine pk 10 (J b 0) a ?_;refine pk 11 (J b 0) a ?_;refine pk 12 (J b 0) a ?_;refine pz 13 (I c) a ?_;refine po 7 λK' g=>?_;go_simp;refine (B _ j.drew).mono ?_;rintro e l ⟨rfl,y⟩;have t:D W l:=j.drew.trans (y.mono j.size);have u:=o.out _ t;have i:l.heap[X]?=some (.cells #[I 0,I 0,I 0,U 0,I 0,C] 175):=(y.block _ (ag (W:=V.drew) p)).trans p.out;refine g _ _ ⟨u,?_⟩;clear a;have a:=u;clear g K';refine pz 8 (U ((A:Int)/1024)) a ?_;refine pz 9 (I q) a ?_;refine po 14 λK' g=>?_
 go_simp;refine (w _ t).mono ?_;rintro e M ⟨rfl,z⟩;rw [z];clear z M;refine g _ _ ⟨u,?_⟩;clear g K';refine py a ?_;simp only [f0,f1,Nat.reduceAdd,lz,l0,ls];refine po 16 λK' g=>?_;refine Ih 175 _ _ rfl X _ rfl rfl 175 _ i E rfl mL ?_;have z:D W (l.setRow X #[I k,I q,I x,U 0,I 0,C]):=below_setRow t (by rw [L.out];exact Fv _) _;refine g _ _ ⟨o _ z,?_⟩;refine bY ?_;have M:=aw (v:=l) i #[I k,I q,I x,U 0,I 0,C];go_wp2_with fail;refine fM M underlying175 ?_;exact⟨rfl,z⟩
theorem ul:(prog.info? 158).map (λi=>(i.zero,i.size,i.bytes))=some (some (.pointer none),1,8):=E
def tP (st:Nat->Int) (n:Nat):List Nat:=(List.range n).filter λj=>be (st j)
def Pt (g:Nat->Nat) (l:List Nat):List Value:=l.map λj=>J (g j) 0
theorem zb (a:Nat->Int) (n:Nat) (h:be (a n)=true):tP a (n+1)=tP a n++[n]:=by
 unfold tP;rw [Gs,Hl];simp [h]
theorem Bl (a:Nat->Int) (n:Nat) (h:be (a n)=false):tP a (n+1)=tP a n:=by
 unfold tP;rw [Gs,Hl];simp [h]
theorem zg (st n):(tP st n).length<=n:=by
 unfold tP;have:=Hb (λj=>be (st j)) (List.range n);simpa using this
theorem jB (h:Hs) (c s:Nat):tP (h.st c s) (aM c)=freeS h c s:=rfl
theorem pa (b r c s n cap on) (g:Nat->Nat) (m:Nat->Int) (W) (h:Bc b r c s n cap on W) (Y:n<=64) (d:∀ j,j<n->W.cell? ⟨r,j,none⟩=some (J (g j) 0)) (a:∀ j,j<n->W.cell? ⟨g j,0,none⟩=some (I (m j))) :
  Calls prog 115 #[J b 0] W λe W'=>∃ v,e=.returned v/\W'.ownsRow W.heap.size 158 1 v (tP m n).length (Pt g (tP m n))/\D W W':=by
 obtain⟨P,o,t,w,y⟩:=G0 ul;obtain⟨_,_,_,d3⟩:=h;have R:=H d;have S:=H a;clear d a;go_enter func115,ntmps115;go_wp2;go_loopw [3,11] (λv i wr=>∃ k:Nat,k<=n/\i=I k/\Hid (wr.ownsRow W.heap.size 158 1 v (tP m k).length (Pt g (tP m k)))/\Hid (D W wr)) (λ_ i _=>n-(intOf i).toNat);case atStart=>exact ⟨0,FH _,rfl,H ⟨rfl,.inl ⟨rfl,rfl⟩⟩,H (Fu _ _)⟩
 case round =>
  obtain⟨k,hk,rfl,z,j⟩:=hrel;obtain⟨va,vb,vc,rfl⟩:∃ p l a,u3=.slice p l a:=by rcases z.2 with ⟨rfl,_⟩|⟨g,d,a,rfl,_⟩ <;> exact ⟨_,_,_,rfl⟩
  by_cases l:k<n
  ·have d0:=ad j (R k l);have d1:=ad j (S k l);have T:=zg m k;have p:=H (zb m k);have L:=H (Bl m k);generalize a:m k=x at *;clear a;generalize a:tP m k=q at *;clear a;have Q:=H (show Pt g (q++[k])=Pt g q++[J (g k) 0] by simp [Pt]);generalize g k=G at *;by_cases M:x=0
   ·subst M;have F:=H (p rfl);clear p L;have A:=H (z.alloc (.cells #[J G 0] 158));have B8:=H (j.alloc j.size (.cells #[J G 0] 158));go_wp2_with (at_builtin;refine Ib _ rfl _ _ 155 rfl W.heap.size 158 P (.pointer none) 1 8 underlying155 o t w y rfl Z _ _ _ rfl A _ 1 1 [J G 0] rfl rfl ?hc ?h1c ?b1 ?b2 ?b3 ?_);(case hc=>exact ek _ _ _ _ bH);(case h1c=>intro u B;simp at B;subst B;rfl);(case b1=>unfold maxLen;omega);(case b2=>omega);(case b3=>exact B8.size);intro V X a d _;have f:=H (IT a (B8.grown d B8.size (cI A)));clear a d;go_wp2;go_roundw;(case rel=>exact ⟨k+1,Z,aY,H (by rw [F.out,FC,Q.out];exact f.1),H f.2⟩);case measure=>simp [intOf];omega
   have K:(x==0)=false:=(by simpa using M);by_cases N:x=3
   ·subst N;have F:=H (p rfl);clear p L K;have A:=H (z.alloc (.cells #[J G 0] 158));have B8:=H (j.alloc j.size (.cells #[J G 0] 158));go_wp2_with (at_builtin;refine Ib _ rfl _ _ 155 rfl W.heap.size 158 P (.pointer none) 1 8 underlying155 o t w y rfl Z _ _ _ rfl A _ 1 1 [J G 0] rfl rfl ?hc ?h1c ?b1 ?b2 ?b3 ?_);(case hc=>exact ek _ _ _ _ bH);(case h1c=>intro u B;simp at B;subst B;rfl);(case b1=>unfold maxLen;omega);(case b2=>omega);(case b3=>exact B8.size);intro V X a d _;have f:=H (IT a (B8.grown d B8.size (cI A)));clear a d;go_wp2;go_roundw;(case rel=>exact ⟨k+1,Z,aY,H (by rw [F.out,FC,Q.out];exact f.1),H f.2⟩);case measure=>simp [intOf];omega
   have O:(x==3)=false:=(by simpa using N);have F:=H (L (by unfold be;rw [K,O];rfl));clear p L M N;go_wp2;go_roundw;(case rel=>exact ⟨k+1,Z,aY,H (by rw [F.out];exact z),j⟩);case measure=>simp [intOf];omega
  obtain rfl:k=n:=Z;go_wp2;go_ret;exact⟨_,rfl,z,j⟩
def hI (t:TypeId):Prop:=t=71\/t=146\/t=179\/t=157\/t=162\/t=182\/t=151\/t=153\/t=3\/t=23
structure Bi (B:Nat) (W W':World):Prop where
 bel:Below B W W'
 ky:Ky hI W W'
theorem Bi.refl (B W):Bi B W W:=⟨Fu _ _,Ky.refl _ _⟩
theorem Bi.trans {B a b c} (h:Bi B a b) (k:Bi B b c):Bi B a c:=⟨h.bel.trans k.bel,h.ky.trans k.ky⟩
theorem Bi.ofBelow (b:D W W') (a:B<=W.heap.size):Bi B W W':=⟨b.mono a,Ky.below b⟩
theorem Bi.add {V V'} (h:Bi B W V) (b:D V V') (a:B<=V.heap.size):Bi B W V':=h.trans (Bi.ofBelow b a)
theorem Bi.ofGrown {P:Nat} {c:Array Value} {t:TypeId} {f:Nat×Nat} (b:W.heap[P]?=some (.cells c t f)) (d:hI t) (g:B<=P) (e:B<=W.heap.size) (a:W.grownBy W' (some P)):Bi B W W' :=
 ⟨(Fu B W).grown a e (λr c=>by simp at c;omega),Ky.grown b d a⟩
def ip (code:Int):List PanicEntry:=[{ v:=.iface 98 (.agg #[I code]),recovered:=false }]
theorem Hp.usedP (b:Hp B y d cf h W) (u:Nat):Hp B y d cf { h with used:=u } (W.setCell ⟨y.P,118,none⟩ (I u)):=by
 have k:=b.box.kyS 118 (I u);have m:Below B W (W.setCell ⟨y.P,118,none⟩ (I u)):=(Fu B W).grown (au (al W y.P) _ _) b.bW (λr n=>by simp at n;have:=b.ap.bP;omega);have o:=b.box.set 118 Z (I u);rw [uL] at o;have p:(W.setCell ⟨y.P,118,none⟩ (I u)).heap[y.M]?=W.heap[y.M]?:=GQ _ _ _ _ (λe=>by
  obtain⟨c,i,_⟩:=b.box;obtain⟨a,⟨q,t,f,_⟩,_⟩:=b.sp.map;rw [e,i] at f;cases f)
 have v:(W.setCell ⟨y.P,118,none⟩ (I u)).heap[y.R]?=W.heap[y.R]?:=GQ _ _ _ _ (λe=>by
  obtain⟨c,i,_⟩:=b.box;obtain⟨q,t,f⟩:=b.mp.typ;rw [e,i] at f;cases f)
 exact⟨b.ap,Fx b.bW m.size,o,b.ds.belowB m b.ap.da,b.sp.ky k ar p,b.pg.ky k ar,b.bf,
 λc s a l=>k.cells _ _ _ _ (b.sl c s a l) ar,λc s a l=>cL (b.rw c s a l) k ar,λc s j a l w=>k.cells _ _ _ _ (b.sm c s j a l w) ar,
 λc a=>(b.wt c a).ky k ar ar ar,b.mp.same v,b.lo,λr n=>by obtain ⟨g,i,f,x⟩:=b.lb r n;exact⟨g,i,f,k.cells _ _ _ _ x ar⟩,b.li,b.ro.ky k ar,ai b.rl k ar,b.rr,b.tb.belowB m b.ap.b0⟩
theorem Hp.bi118 (a:Hp B y d cf h W) (i:Nat) (v:Value):Bi B W (W.setCell ⟨y.P,i,none⟩ v):=by
 obtain⟨c,b,_⟩:=a.box;exact Bi.ofGrown b (.inl rfl) a.ap.bP a.bW (au (al W y.P) _ _)
theorem oL (B y d cf h) (n:Nat) (W) (b:Hp B y d cf h W) (o:1<=n) (s:n<=1000000) (p:h.used<=1000000) (v:cf.ds.length<=20000) :
  Calls prog 116 #[J y.P 0,I n] W λe W'=>e=.returned (I (dr cf h n:Nat))/\Hp B y d cf { h with used:=h.used+1 } W'/\Bi B W W':=by
 have c:W.cell? ⟨y.P,118,none⟩=some (I h.used):=b.cell 118 Z _ rfl;have t:W.cell? ⟨y.P,5,none⟩=some (.slice y.da cf.ds.length y.dc):=b.cell 5 Z _ rfl;have f118:W.frozen? ⟨y.P,118,none⟩=false:=b.box.free 118;have f:((h.used+1:Nat):Int)=(h.used:Int)+1:=Z;have i:=H (b.usedP (h.used+1));have a:=H (b.bi118 118 (I (h.used+1:Nat)));rw [f] at i a;clear f;by_cases f:h.used<cf.ds.length
 ·obtain⟨g,j,r⟩:=b.ds.cells h.used f;rw [j] at t;have k:=H (show dr cf h n=md (cf.ds[h.used]?.getD 0) n from rfl);generalize cf.ds[h.used]?.getD 0=q at k r;have M:=H (λW'=>iA q n W' o Z);generalize cf.ds.length=l at *;generalize m:h.used=us at c r f i a p;clear b j;have j:(us:Int)<(l:Int):=Z;go_enter func116,ntmps116;go_wp2;go_region;go_wp2;go_region;go_wp2_with fail;refine (M _).mono ?_;rintro e u ⟨rfl,rfl⟩;go_wp2;go_ret;refine⟨?_,i.below (Fu _ _).drew.drew,⟨a.bel.os,a.bel.tape,a.bel.output,a.bel.size,a.bel.block⟩,⟨a.ky.os,a.ky.tape,a.ky.output,a.ky.size,a.ky.cells⟩⟩;rw [k.out];rfl
 have k:=H (show dr cf h n=md 0 n by unfold dr md;rw [FJ Z];rfl);have M:=H (λW'=>iA 0 n W' o Z);generalize cf.ds.length=l at *;generalize m:h.used=us at c f i a p;clear b;have j:¬((us:Int)<(l:Int)):=Z;go_enter func116,ntmps116;go_wp2;go_region;go_wp2_with fail;refine (M _).mono ?_;rintro e u ⟨rfl,rfl⟩;go_wp2;go_ret;refine⟨?_,i.below (Fu _ _).drew,⟨a.bel.os,a.bel.tape,a.bel.output,a.bel.size,a.bel.block⟩,⟨a.ky.os,a.ky.tape,a.ky.output,a.ky.size,a.ky.cells⟩⟩;rw [k.out];rfl
theorem Fr.kt {S M st n bud f f' m} (d:Im S M st n bud f W) (j:Pg f m W) (h:Fr S M f f' W W'):Ky (λt=>t=146\/t=179) W W':=by
 refine⟨h.os,h.tape,h.output,h.size,λg c t p b e=>?_⟩;rw [h.block g (ag b) ?_ ?_ ?_];·exact b
 ·rintro rfl;rw [d.box] at b;simp at b;exact e (.inl b.2.1.symm)
 ·rintro rfl;obtain⟨a,⟨k,l,i,_⟩,_⟩:=d.map;rw [i] at b;cases b
 intro k i;rcases j.at' k with ⟨a,_⟩|⟨q,l,r,a,_,_,o⟩;·rw [i] at a;cases a
 rw [i] at a;cases a;rw [o] at b;simp at b;exact e (.inr b.2.1.symm)
theorem Hp.space {f' m'} (a:Hp B y d cf h W) (v:Im y.S y.M 0 283 (cf.bud:Nat) f' W') (w:Pg f' m' W') (b:Fr y.S y.M d.f f' W W') :
  Hp B y { d with f:=f' } cf { h with m:=m' } W'/\Bi B W W':=by
 have k:=b.kt a.sp a.pg;have q:Below B W W':=⟨b.os,b.tape,b.output,b.size,λg t=>b.block g (FG t a.bW) (by have:=a.ap.bS;omega) (by have:=a.ap.bM;omega) (λj n=>by have:=a.bf j g n;omega)⟩;have x:W'.heap[y.R]?=W.heap[y.R]?:=by
  obtain⟨p,r,o⟩:=a.mp.typ;refine b.block _ (ag o) (λe=>?_) (λe=>a.ap.mr e.symm) (λj n=>?_);·rw [e,a.sp.box] at o;cases o
  rcases a.pg.at' j with ⟨c,_⟩|⟨s,l,u,c,_,_,i⟩;·rw [n] at c;cases c
  rw [n] at c;cases c;rw [i] at o;cases o
 refine⟨⟨a.ap,Fx a.bW q.size,a.box.ky k ar,a.ds.belowB q a.ap.da,v,w,λj g n=>?_,
 λc s l p=>?_,λc s l p=>cL (a.rw c s l p) k ar,λc s j l p n=>k.cells _ _ _ _ (a.sm c s j l p n) ar,
 λc l=>(a.wt c l).ky k ar ar ar,a.mp.same x,a.lo,λr z=>by obtain ⟨g,A,o,F⟩:=a.lb r z;exact⟨g,A,o,k.cells _ _ _ _ F ar⟩,a.li,a.ro.ky k ar,ai a.rl k ar,a.rr,a.tb.belowB q a.ap.b0⟩,q,k.more (λt i=>by unfold hI;rcases i with e|e <;> simp [e])⟩
 ·rcases b.made j g n with ⟨i,u⟩|G;·exact a.bf i g u
  exact Fx a.bW G
 exact k.cells _ _ _ _ (a.sl c s l p) ar
end
end Go.Proofs.YtibblbenmpcplaaGreatDoor
