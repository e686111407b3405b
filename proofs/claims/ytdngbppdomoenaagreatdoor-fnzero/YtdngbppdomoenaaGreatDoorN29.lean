import Derived.Test.YtdngbppdomoenaaGreatDoorN26
set_option linter.unusedVariables false
set_option linter.unusedSimpArgs false
set_option maxRecDepth 20000
set_option maxHeartbeats 8000000
namespace Go.Proofs.YtdngbppdomoenaaGreatDoor
open Go.Proofs.Tryz
variable {cf:Cf} {h:Hs} {r:Rg9} {B L c g j p s:Nat} {y:Ly} {d:Dy} {W W' W1:World} {an v v':Value} {lg:Nat->Option Nat} {o:Oper} {a:Act} {K:Act->World->Prop} {Q:Exit->Act->World->Prop} {l:List Nat}
section
open Go.RowKit Go.Maps
inductive Ax (y:Ly) (d:Dy):Fd->Ending->Prop
 | slot (c s j:Nat):Ax y d (.slot c s j) (.returned (.iface 174 (J (y.sm c s j) 0)))
 | range (r:Rg9) (g:Nat) (h:d.lg r.base=some g):Ax y d (.range r) (.returned (.iface 184 (J g 0)))
 | no (code:Int):Ax y d (.no code) (.panicked (ij code))
theorem Inv.baseP (i:Inv cf h) (a:r∈h.rg):191488<=r.base/\r.base<289792/\r.base/1024=r.first+r.guards/\r.base%1024=0:=by
 obtain⟨c,b,d,e,f,_⟩:=i.rgs r a;unfold Rg9.ext at b;unfold Rg9.base;omega
theorem su (h:cH p=some (c,s,j)):p<191488:=by
 obtain⟨a,b,d,e⟩:=gC h;have:=cI a b d;omega
theorem lD (h:191488<=p):cH p=none:=by
 cases e:cH p with
 | none=>rfl
 | some t=>obtain ⟨c,s,j⟩:=t;have:=su e;omega
theorem Inv.relP (i:Inv cf h) (b:p∈h.rel):aP h p=.no 4:=by
 obtain⟨k,l,m,d⟩:=i.rel p b;unfold aP;rw [lD Z];dsimp only;cases e:h.rg.find? λr=>r.base==p with
 | some r =>
  exfalso;have a:=Hz e;have c:=List.find?_some e;simp at c;have f:=i.baseP a;have g:=d r a;obtain⟨n,o,q,s,j,_⟩:=i.rgs r a;unfold Rg9.ext at g;rw [c] at f;omega
 | none =>
  dsimp only;rw [Gv (List.contains_iff_mem.2 b)]
theorem Hp.lcAt (c:Hp B y d cf h W) (i:Inv cf h) (b:r∈h.rg):∃ g,d.lg r.base=some g/\Lc g r W:=by
 obtain⟨g,e,k,a⟩:=c.lb r b;obtain⟨l,f,m,n,j,_⟩:=i.rgs r b;unfold Rg9.ext at f;exact⟨g,e,bY a,bY a,bY a,bY a,bY a,Z,Z,Z⟩
theorem nL (B y d cf h) (p:Nat) (W) (m:Hp B y d cf h W) (i:Inv cf h) (P:p<18446744073709551616) (Q:h.rel.length<=100000) :
  Calls prog 73 #[J y.P 0,U p] W λe W'=>Ax y d (aP h p) e/\D W W':=by
 obtain⟨va,vn,vc,a⟩:=aD m.rl;have n:W.cell? ⟨y.P,117,none⟩=some (.slice va vn vc):=by rw [<-a];exact m.cell 117 Z _ rfl
 have u:=H (qt B va vn vc p h.rel W (by rw [<-a];exact m.rl) Q);have v:=H (Dp B y d cf h p W m P);have L:=H fO;have o:=H (λV (N:D W V)=>m.below N);have A:=H (m.lo p);clear a;by_cases K:p∈h.rel;·have a:=H (i.relP K);rw [List.contains_iff_mem.2 K] at u;clear m K v o A i;go_enter func73,ntmps73;go_wp2_with fail;refine (u).mono ?_;rintro e R ⟨rfl,rfl⟩;clear u;go_wp2;rw [a.out];exact⟨rfl,.no 4,Fc _ _⟩
 have t:h.rel.contains p=false:=by
  cases S:h.rel.contains p with
  | false=>rfl
  | true=>exact absurd (List.contains_iff_mem.1 S) K
 rw [t] at u;cases x:d.lg p with
 | some g =>
  rw [x] at A;have l:h.rg.any (λr=>r.base==p)=true:=A.symm;obtain⟨r,b⟩:∃ r,h.rg.find? (λr=>r.base==p)=some r:=by
   cases e:h.rg.find? λr=>r.base==p with
   | some r=>exact ⟨r,rfl⟩
   | none =>
    exfalso;obtain⟨r,T,X⟩:=List.any_eq_true.1 l;exact List.find?_eq_none.1 e r T X
  have a:=Hz b;have f:=List.find?_some b;simp at f;have z:=i.baseP a;obtain⟨g',q,G⟩:=m.lcAt i a;rw [f,x] at q;cases q;have M:=(i.rgs r a).2.2.2.2.2;have F:=H (show yk y d p=.iface 184 (J g 0) by unfold yk;rw [x]);rw [F.out] at v;have Y:=H (λV (N:D W V)=>(G.below N).c0);have mk:=λw=>yO g w
  have k:=H (show aP h p=if r.st=1 then .range r else .no 4 by unfold aP;rw [lD Z];dsimp only;rw [b]);have O:=H (show d.lg r.base=some g by rw [f];exact x);clear m K o A G b a z l t x f i;go_enter func73,ntmps73;go_wp2_with fail;refine (u).mono ?_;rintro e R ⟨rfl,rfl⟩;clear u;go_wp2_with fail;refine (v).mono ?_;rintro e V ⟨rfl,z⟩;have G:=H z;have c0:=Y.out V z;clear z v F n;go_wp2_with fail;refine (L _ _).mono ?_;rintro e V2 ⟨rfl,rfl⟩;rcases M with ⟨l,_⟩|⟨l,_⟩;·have a:=H (show aP h p=.range r by rw [k.out,Gv l]);rw [l] at c0;clear k l;go_wp2_with fail;refine (L _ _).mono ?_;rintro e V3 ⟨rfl,rfl⟩;go_wp2;go_ret;rw [a.out];exact⟨.range r g O,G⟩
  have a:=H (show aP h p=.no 4 by rw [k.out,Gu Z]);rw [l] at c0;clear k l;go_wp2_with fail;refine (L _ _).mono ?_;rintro e V3 ⟨rfl,rfl⟩;go_wp2;rw [a.out];exact⟨rfl,.no 4,G⟩
 | none =>
  rw [x] at A;have b:h.rg.find? (λr=>r.base==p)=none:=by
   refine List.find?_eq_none.2 (λr T X=>?_);have:h.rg.any (λr=>r.base==p)=true:=List.any_eq_true.2 ⟨r,T,X⟩;rw [<-A.out] at this;cases this
  cases f:cH p with
  | none =>
   have F:=H (show yk y d p=.nilIface by unfold yk;rw [x,f]);rw [F.out] at v;have k:=H (show aP h p=.no 3 by unfold aP;rw [f];dsimp only;rw [b];dsimp only;rw [t];rfl);clear m K o A b t x f i;go_enter func73,ntmps73;go_wp2_with fail;refine (u).mono ?_;rintro e R ⟨rfl,rfl⟩;clear u;go_wp2_with fail;refine (v).mono ?_;rintro e V ⟨rfl,z⟩;have G:=H z;clear z v F n;go_wp2;rw [k.out];exact⟨rfl,.no 3,G⟩
  | some q =>
   obtain⟨c,s,j⟩:=q;obtain⟨S,hs,hj,M⟩:=gC f;have F:=H (show yk y d p=.iface 174 (J (y.sm c s j) 0) by unfold yk;rw [x,f]);rw [F.out] at v;have Y:=H (λV (N:D W V)=>((o V N).smAt c s j S hs hj).1);have k:=H (show aP h p=if h.st c s j=1 then .slot c s j else if h.st c s j=0 then .no 3 else .no 4 by unfold aP;rw [f]);have LS:=H (Ax.slot (y:=y) (d:=d) c s j);have mk:=λw=>zL (y.sm c s j) w
   clear m K o A b t x f M i;generalize y.sm c s j=gm at *;generalize h.st c s j=O at *;go_enter func73,ntmps73;go_wp2_with fail;refine (u).mono ?_;rintro e R ⟨rfl,rfl⟩;clear u;go_wp2_with fail;refine (v).mono ?_;rintro e V ⟨rfl,z⟩;have G:=H z;have c0:=Y.out V z;clear z v F n;go_wp2_with fail;refine (L _ _).mono ?_;rintro e V2 ⟨rfl,rfl⟩;by_cases M:O=0;·have a:=H (show aP h p=.no 3 by rw [k.out,Gu Z,Gv M]);subst M;clear k;go_wp2;rw [a.out];exact⟨rfl,.no 3,G⟩
   have a0:(O==0)=false:=(by simpa using M);by_cases l:O=1;·have a:=H (show aP h p=.slot c s j by rw [k.out,Gv l]);subst l;clear k M a0;go_wp2_with fail;refine (L _ _).mono ?_;rintro e V3 ⟨rfl,rfl⟩;go_wp2;go_ret;rw [a.out];exact⟨LS,G⟩
   have a:=H (show aP h p=.no 4 by rw [k.out,Gu l,Gu M]);have a1:(O != 1)=true:=(by simpa using l);clear k M l;go_wp2_with fail;refine (L _ _).mono ?_;rintro e V3 ⟨rfl,rfl⟩;go_wp2;rw [a.out];exact⟨rfl,.no 4,G⟩
structure Gd (d:Dy) (h:Hs) (an:Value):Prop where
 on:EB d h
 un:d.un=.nilFunc
 an:d.an=an
def Hg (B:Nat) (y:Ly) (cf:Cf) (h:Hs) (an:Value) (W:World):Prop:=∃ d,Hp B y d cf h W/\Gd d h an
def Tk (B:Nat) (y:Ly) (cf:Cf) (h:Hs) (an:Value) (W:World):Prop:=∀ V,D W V->Calls prog 66 #[J y.P 0] V λe i=>e=.returned (.tuple #[])/\Hg B y cf h an i/\Bi B V i
theorem Hp.setDy (b:Hp B y d cf h W) (i:Nat) (v:Value) (f:Dy) (u:(i=119/\f={ d with an:=v })\/(i=120/\f={ d with un:=v })):Hp B y f cf h (W.setCell ⟨y.P,i,none⟩ v):=by
 have k:=b.box.kyS i v;have q:Below B W (W.setCell ⟨y.P,i,none⟩ v):=(Fc B W).grown (au (ar W y.P) _ _) b.bW (λr t=>by simp at t;have:=b.ap.bP;omega);have w:=b.box.set i Z v;rw [pj cf y d h.used i v f (by rcases u with l|l;exact .inr (.inr (.inl l));exact .inr (.inr (.inr l)))] at w;have A:(W.setCell ⟨y.P,i,none⟩ v).heap[y.M]?=W.heap[y.M]?:=Gx _ _ _ _ (λe=>by
  obtain⟨c,l,_⟩:=b.box;obtain⟨a,⟨F,G,m,_⟩,_⟩:=b.sp.map;rw [e,l] at m;cases m)
 have K:(W.setCell ⟨y.P,i,none⟩ v).heap[y.R]?=W.heap[y.R]?:=Gx _ _ _ _ (λe=>by
  obtain⟨c,l,_⟩:=b.box;obtain⟨F,G,m⟩:=b.mp.typ;rw [e,l] at m;cases m)
 have n:f.f=d.f/\f.on=d.on/\f.lg=d.lg/\f.ro=d.ro/\f.rl=d.rl:=by rcases u with ⟨_,rfl⟩|⟨_,rfl⟩ <;> exact ⟨rfl,rfl,rfl,rfl,rfl⟩
 obtain⟨n,L,p,x,z⟩:=n;exact⟨b.ap,Fg b.bW q.size,w,b.ds.belowB q b.ap.da,n▸b.sp.ky k av A,n▸b.pg.ky k av,n▸b.bf,
 λc s a o=>by rw [L];exact k.cells _ _ _ _ (b.sl c s a o) av,λc s a o=>cS (b.rw c s a o) k av,λc s j a o M=>k.cells _ _ _ _ (b.sm c s j a o M) av,
 λc a=>(b.wt c a).ky k av av av,p▸b.mp.same K,p▸b.lo,λr t=>by obtain ⟨g,l,m,N⟩:=b.lb r t;exact⟨g,by rw [p];exact l,m,k.cells _ _ _ _ N av⟩,p▸b.li,x▸b.ro.ky k av,z▸aj b.rl k av,by rw [x,z];exact b.rr,b.tb.belowB q b.ap.b0⟩
theorem yG (w:World):(binOp .neq 1 .nilFunc .nilFunc).run prog w=.ok (.bool false) w:=E
theorem qJ (a:Fn) (b c:Array Value) (w:World):(binOp .neq 1 (.func a b c) .nilFunc).run prog w=.ok (.bool true) w:=E
theorem zE (w:World) (d:Value) (g i:Nat) (a:Fn) (b c:Array Value) (e:w.cell? ⟨g,i,none⟩=some d) (f:w.frozen? ⟨g,i,none⟩=false):(store ⟨g,i,none⟩ (.func a b c)).run prog w=.ok () (w.setCell ⟨g,i,none⟩ (.func a b c)):=by
 rw [_root_.Go.run_store _ _ _ _ _ rfl,e];simp [f]
theorem mF (w:World) (a:Value) (g i:Nat) (b:w.cell? ⟨g,i,none⟩=some a) (c:w.frozen? ⟨g,i,none⟩=false):(store ⟨g,i,none⟩ .nilFunc).run prog w=.ok () (w.setCell ⟨g,i,none⟩ .nilFunc):=by
 rw [_root_.Go.run_store _ _ _ _ _ rfl,b];simp [c]
theorem pN (P:Nat) (W:World) (c:W.cell? ⟨P,120,none⟩=some .nilFunc):Calls prog 66 #[J P 0] W λe W'=>e=.returned (.tuple #[])/\W'=W:=by
 have nq:=yG;go_enter func66,ntmps66;go_wp2;go_end0;exact⟨rfl,rfl⟩
theorem Hg.tk (f:Hg B y cf h an W):Tk B y cf h an W:=by
 intro V g;obtain⟨d,i,b⟩:=f;have a:=i.below g;have c:=a.cell 120 Z _ rfl;have e:boxF cf y d h.used 120=d.un:=rfl;rw [e,b.un] at c;refine (pN y.P V c).mono ?_;rintro e W' ⟨rfl,rfl⟩;exact⟨rfl,⟨d,a,b⟩,Bi.refl _ _⟩
theorem Tk.below (k:Tk B y cf h an W) (b:D W W'):Tk B y cf h an W':=λV a=>k V (b.trans (a.mono b.size))
theorem jO {m:Nat->Option (Bool×List Int)} {p:Nat} {v:Bool} : ∀ {c:Nat},(∀ i,i<c->(m (p+i)).isSome=v)->IC m p v c=true
 | 0,_=>rfl
 | c+1,h=>by
  unfold IC
  rw [jO (λi a=>h i Z),h c Z]
  simp
theorem px {bud} {m:Nat->Option (Bool×List Int)} (b:1<=c) (d:p+c<=283) (a:∀ i,i<c->(m (p+i)).isSome=false):bT 283 bud m 0 (p:Nat) (c:Nat) 0 0 []=if bud<(bz m 283:Int)+c then (m,1,[]) else (aU m p c,0,[]):=by
 unfold bT;rw [Gu av,Gu av,Gu av,Gv (by unfold Ar;omega)];unfold ks;rw [Gv rfl,FD,FD,jO a,Gu av];split <;> rfl
theorem mG {bud} {m:Nat->Option (Bool×List Int)} (b:1<=c) (d:p+c<=283) (a:∀ i,i<c->(m (p+i)).isSome=true):bT 283 bud m 1 (p:Nat) (c:Nat) 0 0 []=(bI m p c,0,[]):=by
 unfold bT;rw [Gu av,Gu av,Gu av,Gv (by unfold Ar;omega)];unfold ks;rw [Gu av,FD,FD,jO a,Gu av,Gv rfl]
def EU (B:Nat) (y:Ly) (d:Dy) (cf:Cf) (h:Hs) (p c:Nat) (l:Fn) (k1 j:Array Value) (W:World) (e:Ending) (W':World):Prop:=∃ i,Bi B W W' /\
   ((¬((cf.bud:Int)<(bz h.m 283:Int)+c)/\e=.returned (.tuple #[])/\Hp B y { d with f:=i,un:=.nilFunc } cf { h with m:=aU h.m p c } W')\/((cf.bud:Int)<(bz h.m 283:Int)+c/\e=.panicked (ij 1)/\Hp B y { d with f:=i,un:=.func l k1 j } cf h W'))
theorem nC (B y d cf h) (p c:Nat) (b:Fn) (g j:Array Value) (W) (s:Hp B y d cf h W) (q:∀ k,283<=k->h.m k=none) (K:1<=c) (L:p+c<=283) (M:∀ i,i<c->(h.m (p+i)).isSome=false) :
  Calls prog 139 #[J y.P 0,j_ 0 (p:Nat) (c:Nat) 0 0 none 0 0,.func b g j] W (EU B y d cf h p c b g j W):=by
 have A:=px (bud:=(cf.bud:Nat)) K L M;obtain⟨V,t⟩:∃ V,V=W.alloc (.cells #[I 0,I p,I c,U (0:Nat),I 0,C] 190):=⟨_,rfl⟩;have w:D W V:=by rw [t];exact (Fc _ _).alloc (Fe _) _
 have X:=(show V.heap[W.heap.size]?=some (.cells #[I 0,I p,I c,U (0:Nat),I 0,C] 190) by rw [t];exact ao W _);have e:=s.below w;have k:=e.setDy 120 (.func b g j) { d with un:=.func b g j } (.inr ⟨rfl,rfl⟩);have l:=H ((Bi.ofBelow w s.bW).trans (e.bi118 120 (.func b g j)));have i:=e.cell 120 Z _ rfl;have f120:V.frozen? ⟨y.P,120,none⟩=false:=e.box.free 120;have u:=H (λa (o:Hp B y { d with un:=.func b g j } cf h a)=>mB B y { d with un:=.func b g j } cf h 0 (p:Nat) (c:Nat) 0 0 none 0 0 [] a o q Z Z (Da.nil _ _ _ _) (Fe _));rw [A] at u;have x:W.heap.size≠y.P:=by have:=s.box.lt;omega
 have z:=H (show (V.setCell ⟨y.P,120,none⟩ (.func b g j)).heap[W.heap.size]?=some (.cells #[I 0,I p,I c,U (0:Nat),I 0,C] 190) from (Gx _ _ _ _ x).trans X);have F:=H k;have r:boxF cf y d h.used 120=d.un:=rfl;rw [r] at i;unfold j_ at u ⊢;have G:=H (λa n q (o:Hp B y { d with f:=n,un:=.func b g j } cf { h with m:=q } a)=>IB (o.setDy 120 .nilFunc { d with f:=n,un:=.nilFunc } (.inr ⟨rfl,rfl⟩)) (IB (o.bi118 120 .nilFunc) (IB (o.cell 120 Z (.func b g j) rfl) (o.box.free 120))));have N:=zE V _ y.P 120 b g j i f120;clear k e w X s A;go_enter func139,ntmps139;go_upto_region 1 with fail
 refine Eq.mp (congrArg _ t) ?_;clear t;go_upto_region 2 with fail
 generalize V.setCell ⟨y.P,120,none⟩ (.func b g j)=Q at *;generalize W.heap.size=X at z ⊢;go_wp2_with (first|(refine F8 rfl 190 _ rfl _ rfl _ _ _ _ z underlying190 rfl E ?_));refine (u _ F).mono ?_;clear u i f120 z F;by_cases s:(cf.bud:Int)<(bz h.m 283:Int)+c
 ·rw [Gv s];rintro e a ⟨n,i,k,⟨t,_⟩|⟨_,rfl⟩⟩;·cases t
  exact⟨rfl,n,l.trans k,.inr ⟨s,rfl,i⟩⟩
 rw [Gu s];rintro e a ⟨n,i,k,⟨_,v,rfl,_⟩|⟨t,_⟩⟩
 ·obtain⟨u,w,z,A⟩:=G.out a n _ i;have F:=H u;have O:=H (l.trans (k.trans w));have P:=mF a _ y.P 120 z A;clear u w i k G l;go_wp2;go_end0;exact⟨n,O,.inl ⟨Z,rfl,F⟩⟩
 exact absurd rfl t
def gG (f:Nat->Nat->Bool) (c s:Nat) (v:Bool):Nat->Nat->Bool:=λi e=>if i=c/\e=s then v else f i e
theorem Hp.setOn (b:Hp B y d cf h W) (i:c<12) (m:s<6) (v):Hp B y { d with on:=gG d.on c s v } cf h (W.setCell ⟨y.sb c s,2,none⟩ (.bool v))/\Bi B W (W.setCell ⟨y.sb c s,2,none⟩ (.bool v)):=by
 have p:=b.sl c s i m;have g:=au (ar W (y.sb c s)) 2 (.bool v);have k:Ky (· = 173) W (W.setCell ⟨y.sb c s,2,none⟩ (.bool v)):=Ky.grown p rfl g;have q:Below B W (W.setCell ⟨y.sb c s,2,none⟩ (.bool v)):=(Fc B W).grown g b.bW (λr t=>by simp at t;have:=b.ap.bsb c s i m;omega);have u:(W.setCell ⟨y.sb c s,2,none⟩ (.bool v)).heap[y.M]?=W.heap[y.M]?:=Gx _ _ _ _ (λe=>by
  obtain⟨a,⟨w,x,l,_⟩,_⟩:=b.sp.map;rw [e,p] at l;cases l)
 have z:(W.setCell ⟨y.sb c s,2,none⟩ (.bool v)).heap[y.R]?=W.heap[y.R]?:=Gx _ _ _ _ (λe=>by
  obtain⟨w,x,l⟩:=b.mp.typ;rw [e,p] at l;cases l)
 refine⟨⟨b.ap,Fg b.bW q.size,b.box.ky k av,b.ds.belowB q b.ap.da,b.sp.ky k av u,b.pg.ky k av,b.bf,
 λa f n o=>?_,λc s i m=>cS (b.rw c s i m) k av,λc s j i m A=>k.cells _ _ _ _ (b.sm c s j i m A) av,
 λc i=>(b.wt c i).ky k av av av,b.mp.same z,b.lo,λr t=>by obtain ⟨g,F,l,G⟩:=b.lb r t;exact⟨g,F,l,k.cells _ _ _ _ G av⟩,b.li,b.ro.ky k av,aj b.rl k av,b.rr,b.tb.belowB q b.ap.b0⟩,Bi.ofGrown p (.inr (.inr (.inr (.inl rfl)))) (b.ap.bsb c s i m) b.bW g⟩
 by_cases e:a=c/\f=s
 ·obtain⟨rfl,rfl⟩:=e;show (W.setCell ⟨y.sb a f,2,none⟩ (.bool v)).heap[y.sb a f]?=some (.cells (Cw a f (gG d.on a f v a f) _ _ _) 173);have:gG d.on a f v a f=v:=by unfold gG;rw [Gv ⟨rfl,rfl⟩]
  rw [this];have l:=b.sl a f n o;simp [World.setCell,Fp,l,Cw]
 show (W.setCell ⟨y.sb c s,2,none⟩ (.bool v)).heap[y.sb a f]?=some (.cells (Cw a f (gG d.on c s v a f) _ _ _) 173);have:gG d.on c s v a f=d.on a f:=by unfold gG;rw [Gu e]
 rw [this,Gx _ _ _ _ (λk=>e (by have:=b.ap.isb a f c s n o i m k;exact this))];exact b.sl a f n o
def Kl (lg:Nat->Option Nat) (d:Dy):Prop:=∀ b g,lg b=some g->d.lg b=some g
theorem Kl.trans {d'} (h:Kl lg d) (k:Kl d.lg d'):Kl lg d':=λb g e=>k b g (h b g e)
theorem Kl.refl (d:Dy):Kl d.lg d:=λ_ _ e=>e
def Hgl (B:Nat) (y:Ly) (cf:Cf) (h:Hs) (an:Value) (lg:Nat->Option Nat) (W:World):Prop:=∃ d,Hp B y d cf h W/\Gd d h an/\Kl lg d
theorem Hgl.hg (k:Hgl B y cf h an lg W):Hg B y cf h an W:=by
 obtain⟨d,a,b,_⟩:=k;exact⟨d,a,b⟩
inductive Es (B:Nat) (y:Ly) (cf:Cf) (h:Hs) (an:Value) (lg:Nat->Option Nat) (c:Nat):Option (Nat×Hs)->Ending->World->Prop
 | yes (s:Nat) (h1:Hs) (W':World) (hg:Hgl B y cf h1 an lg W'):Es B y cf h an lg c (some (s,h1)) (.returned (J (y.sb c s) 0)) W'
 | no (W':World) (tk:Tk B y cf h an W'):Es B y cf h an lg c none (.panicked (ij 1)) W'
def ko (y:Ly) (c:Nat):List Value:=[J (y.sb c 0) 0,J (y.sb c 1) 0,J (y.sb c 2) 0,J (y.sb c 3) 0,J (y.sb c 4) 0,J (y.sb c 5) 0]
theorem Hp.range6 (b:Hp B y d cf h W) (e:c<12):W.rangeAt y.P (7+c*6) (ko y c):=by
 intro j v a;have f:j<6:=by have:=(Fl.1 a).1;simpa [ko] using this
 have:=b.slabAt c j e f;rw [this,<-a];rcases (show j=0\/j=1\/j=2\/j=3\/j=4\/j=5 by omega) with rfl|rfl|rfl|rfl|rfl|rfl <;> rfl
theorem uM (y c) (k:Nat) (a:k<6):(ko y c)[k]?=some (J (y.sb c k) 0):=by
 rcases (show k=0\/k=1\/k=2\/k=3\/k=4\/k=5 by omega) with rfl|rfl|rfl|rfl|rfl|rfl <;> rfl
theorem sK {k:Nat} (e:k<6) (b:(dy h c k && !(freeS h c k).isEmpty)=true) (d:∀ s,s<k->(dy h c s && !(freeS h c s).isEmpty)=false):kj h c=some k:=by
 unfold kj;rw [List.find?_eq_some_iff_append];refine⟨b,List.range k,(List.range (6-k-1)).map (λi=>k+1+i),?_,λa ha=>?_⟩;·rcases (show k=0\/k=1\/k=2\/k=3\/k=4\/k=5 by omega) with rfl|rfl|rfl|rfl|rfl|rfl <;> rfl
 rw [d a (by simpa using ha)];rfl
theorem rX (b:∀ s,s<6->(dy h c s && !(freeS h c s).isEmpty)=false):kj h c=none:=by
 unfold kj;rw [List.find?_eq_none];intro a ha;rw [b a (by simpa using ha)];simp
theorem vk {k:Nat} (e:k<6) (b:dy h c k=false) (d:∀ s,s<k->dy h c s=true):qO h c=some k:=by
 unfold qO;rw [List.find?_eq_some_iff_append];refine⟨by rw [b];rfl,List.range k,(List.range (6-k-1)).map (λi=>k+1+i),?_,λa ha=>?_⟩;·rcases (show k=0\/k=1\/k=2\/k=3\/k=4\/k=5 by omega) with rfl|rfl|rfl|rfl|rfl|rfl <;> rfl
 rw [d a (by simpa using ha)];rfl
theorem uV (b:∀ s,s<6->dy h c s=true):qO h c=none:=by
 unfold qO;rw [List.find?_eq_none];intro a ha;rw [b a (by simpa using ha)];simp
theorem xP (X b:Nat) (a:Value) (W:World) (c:W.cell? ⟨X,0,none⟩=some (J b 0)) (d:W.cell? ⟨b,2,none⟩=some a) (f:W.frozen? ⟨b,2,none⟩=false) :
  Calls prog 173 #[J X 0] W λe W'=>e=.returned (.tuple #[])/\W'=W.setCell ⟨b,2,none⟩ (.bool false):=by
 go_enter func173,ntmps173;go_wp2;go_end0;exact⟨rfl,rfl⟩
theorem pE (B y d cf h) (X c s:Nat) (W) (a:Hp B y d cf h W) (i:c<12) (j:s<6) (k:W.cell? ⟨X,0,none⟩=some (J (y.sb c s) 0)) (l:d.un=.func (.func 173) #[] #[J X 0]) :
  Calls prog 66 #[J y.P 0] W λe W'=>e=.returned (.tuple #[])/\Hp B y { d with on:=gG d.on c s false,un:=.nilFunc } cf h W'/\Bi B W W':=by
 have m:=a.bc c s i j;have n:W.frozen? ⟨y.sb c s,2,none⟩=false:=by simp [World.frozen?,a.sl c s i j]
 have o:=H (xP X (y.sb c s) _ W k m.d2 n);obtain⟨b,p⟩:=a.setOn i j false;have f:=a.cell 120 Z _ rfl;have g:boxF cf y d h.used 120=d.un:=rfl;rw [g,l] at f;have q:=b.cell 120 Z (.func (.func 173) #[] #[J X 0]) (by show d.un=_;exact l);have f1:=b.box.free 120;have r:=mF _ _ y.P 120 q f1;have t:=H (b.setDy 120 .nilFunc { d with on:=gG d.on c s false,un:=.nilFunc } (.inr ⟨rfl,rfl⟩));have u:=H (p.trans (b.bi118 120 .nilFunc));have nq:=λw=>qJ (.func 173) #[] #[J X 0] w
 clear b p a m n k q f1;go_enter func66,ntmps66;go_wp2_with fail;refine (o).mono ?_;rintro e a ⟨rfl,rfl⟩;clear o;go_wp2;go_end0;exact⟨rfl,t,u⟩
theorem Hp.setSlot (b:Hp B y d cf h W) (i:c<12) (m:s<6) (u:j<aM c) (st' rq') (g:W.grownBy W' (some (y.sm c s j))) (x:W'.heap[y.sm c s j]?=some (.cells (tX st' rq' (y.sb c s) j) 178)) :
  Hp B y d cf { h with st:=aE h.st c s j st',rq:=aE h.rq c s j rq' } W'/\Bi B W W':=by
 have l:=b.sm c s j i m u;have k:Ky (· = 178) W W':=Ky.grown l rfl g;have v:Below B W W':=(Fc B W).grown g b.bW (λr w=>by simp at w;have:=b.ap.bsm c s j i m u;omega);have z:W'.heap[y.M]?=W.heap[y.M]?:=g.block _ b.sp.lt.2 (λe=>by
  simp at e;obtain⟨a,⟨A,F,f,_⟩,_⟩:=b.sp.map;rw [e,l] at f;cases f)
 have G:W'.heap[y.R]?=W.heap[y.R]?:=by
  obtain⟨A,F,f⟩:=b.mp.typ;exact g.block _ (ai f) (λe=>by simp at e;rw [e,l] at f;cases f)
 refine⟨⟨b.ap,Fg b.bW v.size,b.box.ky k av,b.ds.belowB v b.ap.da,b.sp.ky k av z,b.pg.ky k av,b.bf,
 λc s i m=>k.cells _ _ _ _ (b.sl c s i m) av,λc s i m=>cS (b.rw c s i m) k av,λa n o p q t=>?_,
 λc i=>(b.wt c i).ky k av av av,b.mp.same G,b.lo,λr w=>by obtain ⟨g,K,f,L⟩:=b.lb r w;exact⟨g,K,f,k.cells _ _ _ _ L av⟩,b.li,b.ro.ky k av,aj b.rl k av,b.rr,b.tb.belowB v b.ap.b0⟩,Bi.ofGrown l (.inr (.inr (.inr (.inr (.inl rfl))))) (b.ap.bsm c s j i m u) b.bW g⟩
 show W'.heap[y.sm a n o]?=some (.cells (tX (aE h.st c s j st' a n o) (aE h.rq c s j rq' a n o) (y.sb a n) o) 178);by_cases e:a=c/\n=s/\o=j;·obtain⟨rfl,rfl,rfl⟩:=e;rw [aO,aO];exact x
 rw [a_ _ _ e,a_ _ _ e];have f:=b.sm a n o p q t;rw [g.block _ (ai f) (λk=>by
  simp at k;exact e (b.ap.ism a n o c s j p q t i m u k))]
 exact f
theorem Hp.setSt1 (a:Hp B y d cf h W) (b:c<12) (e:s<6) (f:j<aM c) (st') :
  Hp B y d cf { h with st:=aE h.st c s j st' } (W.setCell ⟨y.sm c s j,0,none⟩ (I st'))/\Bi B W (W.setCell ⟨y.sm c s j,0,none⟩ (I st')):=by
 have g:=a.sm c s j b e f;have:=a.setSlot b e f st' (h.rq c s j) (W':=W.setCell ⟨y.sm c s j,0,none⟩ (I st')) (au (ar W (y.sm c s j)) 0 _) (by simp [World.setCell,Fp,g,tX]);rw [gB h.rq rfl] at this;exact this
theorem Hp.setRec (a:Hp B y d cf h W) (b:c<12) (e:s<6) (f:j<aM c) (st' rq') :
  Hp B y d cf { h with st:=aE h.st c s j st',rq:=aE h.rq c s j rq' } (W.setCells (y.sm c s j) 0 [I st',I rq'])/\Bi B W (W.setCells (y.sm c s j) 0 [I st',I rq']):=by
 have g:=a.sm c s j b e f;refine a.setSlot b e f st' rq' ?_ ?_;·simp only [World.setCells];exact au (au (ar W (y.sm c s j)) 0 _) _ _
 simp [World.setCells,World.setCell,Fp,g,tX]
inductive TaR (B:Nat) (y:Ly) (cf:Cf) (an:Value) (lg:Nat->Option Nat):Option Nat×Hs->Ending->World->Prop
 | slot (c s j:Nat) (h1:Hs) (W':World) (hc:c<12) (hs:s<6) (hj:j<aM c) (hl:h1.st c s j=1) (hg:Hgl B y cf h1 an lg W'):TaR B y cf an lg (some (aX c s j),h1) (.returned (.iface 174 (J (y.sm c s j) 0))) W'
 | range (r:Rg9) (g:Nat) (d:Dy) (h1:Hs) (W':World) (hr:r∈h1.rg) (hl:r.st=1) (hd:d.lg r.base=some g) (hp:Hp B y d cf h1 W') (gd:Gd d h1 an) (kl:Kl lg d):TaR B y cf an lg (some r.base,h1) (.returned (.iface 184 (J g 0))) W'
 | no (h1:Hs) (W':World) (tk:Tk B y cf h1 an W'):TaR B y cf an lg (none,h1) (.panicked (ij 1)) W'
def AI (B:Nat) (y:Ly) (cf:Cf) (an:Value) (lg:Nat->Option Nat) (W:World) (r:Option Nat×Hs) (e:Ending) (W':World):Prop:=TaR B y cf an lg r e W'/\Bi B W W'
theorem Gd.st (g:Gd d h an) {a:Hs} (b:∀ k,(a.m k).isSome=(h.m k).isSome):Gd d a an:=⟨λc s e f=>by rw [g.on c s e f];exact (b _).symm,g.un,g.an⟩
theorem nF {R:Nat} (a:W.mapTurned W' R):Fr R R (λ_=>none) (λ_=>none) W W':=(Fr.refl R R (λ_=>none) W).turned a
theorem iz {R:Nat} (i:W.mapTurned W' R) (j:∃ d c,W.heap[R]?=some (.map d c)):Ky (λ_=>False) W W':=by
 have f:=nF i;obtain⟨d,c,k⟩:=j;refine⟨f.os,f.tape,f.output,f.size,λg l t m b _=>?_⟩;have a:g≠R:=λe=>by rw [e,k] at b;cases b
 rw [f.block g (ai b) a a (λk a=>by cases a)];exact b
theorem lT (d e:TypeId) (m x:Operand) {vm vx:Value} (c:o.op=Op.call { callee:=Callee.builtin Builtin.delete,args:=#[m,x],argTypes:=#[d,e] }) (f:a.eval m=vm) (g:a.eval x=vx)
  (b:(Builtin.delete_ #[d,e] o.type #[vm,vx]).run prog W=.ok v W') (i:K (a.put o.dst v) W'):Oper.wp prog o a W K Q:=by
 unfold Oper.wp;simp [execOp,c,resolve,invoke,builtin,f,g,b,Result.andThen];exact i
theorem sV (d:TypeId) (m x u:Operand) {vm vx vu:Value} (c:o.op=Op.mapUpdate d m x u) (e:a.eval m=vm) (f:a.eval x=vx) (g:a.eval u=vu)
  (b:(Instr.mapUpdate d vm vx vu).run prog W=.ok () W') (i:K (a.put o.dst undef) W'):Oper.wp prog o a W K Q:=by
 unfold Oper.wp;simp [execOp,c,e,f,g,b,Result.andThen];exact i
theorem Ky.cellK (k:Ky (λ_=>False) W W') {i:Nat} (h:W.cell? ⟨g,i,none⟩=some v):W'.cell? ⟨g,i,none⟩=some v:=by
 unfold World.cell? at h ⊢;split at h
 case h_1 c t f hg =>
  rw [k.cells g c t f hg (λe=>e)];exact h
 case h_2=>cases h
theorem Hp.turn (a:Hp B y d cf h W) (o:W.mapTurned W' y.R) (lg') (b:List Rg9) (p:Mr y.R b.length lg' W') (q:∀ k,(lg' k).isSome=b.any λr=>r.base==k) (t:∀ r∈b,∃ g,lg' r.base=some g/\B<=g/\W.heap[g]?=some (.cells (oX r) 197)) (u:∀ k e g,lg' k=some g->lg' e=some g->k=e) :
  Hp B y { d with lg:=lg' } cf { h with rg:=b } W'/\Bi B W W':=by
 have f:=nF o;have k:=iz o a.mp.typ;have n:Below B W W':=⟨f.os,f.tape,f.output,f.size,λg v=>f.block g (Fq v a.bW) (by have:=a.ap.bR;omega) (by have:=a.ap.bR;omega) (λj l=>by cases l)⟩;have w:W'.heap[y.M]?=W.heap[y.M]?:=f.block _ a.sp.lt.2 a.ap.mr a.ap.mr (λj l=>by cases l);exact⟨⟨a.ap,Fg a.bW n.size,a.box.ky k (λe=>e),a.ds.belowB n a.ap.da,a.sp.ky k (λe=>e) w,a.pg.ky k (λe=>e),a.bf,
 λc s i m=>k.cells _ _ _ _ (a.sl c s i m) (λe=>e),λc s i m=>cS (a.rw c s i m) k (λe=>e),λc s j i m l=>k.cells _ _ _ _ (a.sm c s j i m l) (λe=>e),
 λc i=>(a.wt c i).ky k (λe=>e) (λe=>e) (λe=>e),p,q,λr x=>by obtain ⟨g,z,A,F⟩:=t r x;exact⟨g,z,A,k.cells _ _ _ _ F (λe=>e)⟩,u,a.ro.ky k (λe=>e),aj a.rl k (λe=>e),a.rr,a.tb.belowB n a.ap.b0⟩,n,k.more (λt e=>e.elim)⟩
theorem Hp.addR (i:Hp B y d cf h W) (p:W.heap[L]?=some (.cells (oX r) 197)) (l:B<=L) (b:∀ k,d.lg k≠some L) (q:d.lg r.base=none) (s:Mr y.R (h.rg.length+1) (upd d.lg r.base (some L)) W') (t:W.mapTurned W' y.R) :
  Hp B y { d with lg:=upd d.lg r.base (some L) } cf { h with rg:=h.rg++[r] } W'/\Bi B W W':=by
 refine i.turn t _ (h.rg++[r]) (by rw [Fo];exact s) (λk=>?_) (λm n=>?_) (λk j g a c=>?_)
 ·rw [List.any_append];by_cases e:k=r.base;·subst e;rw [upd_same];simp
  rw [aJ _ _ _ _ e,i.lo k];have:(r.base==k)=false:=bK;simp [this]
 ·rcases FM.1 n with a|a
  ·obtain⟨g,f,u,v⟩:=i.lb m a;have o:m.base≠r.base:=λe=>by rw [e,q] at f;cases f
   exact⟨g,by rw [aJ _ _ _ _ o];exact f,u,v⟩
  have:m=r:=by simpa using a
  subst this;exact⟨L,upd_same _ _ _,l,p⟩
 by_cases e:k=r.base
 ·subst e;rw [upd_same] at a;cases a;by_cases f:j=r.base;·exact f.symm
  rw [aJ _ _ _ _ f] at c;exact absurd c (b j)
 rw [aJ _ _ _ _ e] at a;by_cases f:j=r.base
 ·subst f;rw [upd_same] at c;cases c;exact absurd a (b k)
 rw [aJ _ _ _ _ f] at c;exact i.li k j g a c
theorem Hp.backR (c:Hp B y d cf { h with rg:=h.rg++[r] } W) (f:d.lg=upd lg r.base (some L)) (i:lg r.base=none) (l:∀ k,(lg k).isSome=h.rg.any λr=>r.base==k) (m:Mr y.R h.rg.length (upd d.lg r.base none) W') (o:W.mapTurned W' y.R) :
  Hp B y { d with lg:=lg } cf h W'/\Bi B W W':=by
 have p:upd d.lg r.base none=lg:=by
  rw [f];funext k;by_cases e:k=r.base;·subst e;rw [upd_same,i]
  rw [aJ _ _ _ _ e,aJ _ _ _ _ e]
 rw [p] at m;have s:∀ b∈h.rg,b.base≠r.base:=λb a e=>by
  have:=l b.base;rw [e,i] at this;have j:h.rg.any (λx=>x.base==r.base)=true:=List.any_eq_true.2 ⟨b,a,by simp [e]⟩;rw [j] at this;cases this
 exact c.turn o lg h.rg m l (λb a=>by
  obtain⟨g,n,q,t⟩:=c.lb b (Ip _ a);rw [f,aJ _ _ _ _ (s b a)] at n;exact⟨g,n,q,t⟩) (λk b g l j=>by
  have q:∀ k,lg k=some g->d.lg k=some g:=λk a=>by
   rw [f];by_cases e:k=r.base;·subst e;rw [i] at a;cases a
   rw [aJ _ _ _ _ e];exact a
  exact c.li k b g (q k l) (q b j))
theorem yg (B y d cf) (h:Hs) (r:Rg9) (L l m:Nat) (lg W) (f:Hp B y d cf { h with rg:=h.rg++[r] } W) (g:d.lg=upd lg r.base (some L)) (j:lg r.base=none) (t:∀ k,(lg k).isSome=h.rg.any λr=>r.base==k) (k:Lc L r W) (F:r.base<18446744073709551616) (n:W.cell? ⟨l,0,none⟩=some (J y.P 0)) (o:W.cell? ⟨m,0,none⟩=some (J L 0)) :
  Calls prog 141 #[J l 0,J m 0] W λe W'=>e=.returned (.tuple #[])/\Hp B y { d with lg:=lg } cf h W'/\Bi B W W':=by
 have b:W.cell? ⟨y.P,115,none⟩=some (.map (some y.R)):=f.cell 115 Z _ rfl;have u:=H (λV (a:D W V)=>ib L r V (k.below a));have c:=H (λV (a:D W V)=>f.below a);have i:=H (λV W' (a:D W V) (mr:Mr y.R h.rg.length (upd d.lg r.base none) W') (mt:V.mapTurned W' y.R)=>(f.below a).backR g j t mr mt);have p:=H f.bW;have q:=H (show ((d.lg r.base).isSome=true) by rw [g,upd_same];rfl);have s:=H (show ∀ V,D W V->V.cell? ⟨l,0,none⟩=some (J y.P 0)/\V.cell? ⟨m,0,none⟩=some (J L 0)/\V.cell? ⟨y.P,115,none⟩=some (.map (some y.R)) from λV a=>⟨ad a n,ad a o,ad a b⟩);clear f g j t k n o b;go_enter func141,ntmps141;go_wp2;refine rh (S:=λa=>a.cell? ⟨l,0,none⟩=some (J y.P 0)/\a.cell? ⟨m,0,none⟩=some (J L 0)/\a.cell? ⟨y.P,115,none⟩=some (.map (some y.R))) ?_;have k:=s.out _ (Fc _ _).drew;iterate 5 (refine py k ?_;simp only [f0,f1,Nat.reduceAdd,lz,l0,ls])
 refine po 5 λK' n=>?_;go_simp;refine (u _ (Fc _ _).drew).mono ?_;rintro e K ⟨rfl,rfl⟩;have g:=s.out W.drew.drew (Fc _ _).drew.drew;refine n _ _ ⟨g,?_⟩;clear k;have k:=g;clear n K';refine po 6 λK' n=>?_
 obtain⟨v,b,j,f⟩:=(c W.drew.drew (Fc _ _).drew.drew).mp.del r.base F 0;have o:=H ((iz f (c W.drew.drew (Fc _ _).drew.drew).mp.typ));have w:=o.cellK g.1;have x:=o.cellK g.2.1;have z:=o.cellK g.2.2;refine lT 88 23 (.tmp 5) (.tmp 7) (vm:=.map (some y.R)) (vx:=U r.base) E E E b ?_;refine n _ _ ⟨⟨w,x,z⟩,?_⟩;refine bN ?_;have A:=H (i _ v (Fc _ _).drew.drew (by
   have:=j;rw [Gv q.out] at this;simpa using this) f)
 have G:=H (show Bi B W v from ((Bi.refl B W).add (Fc _ _).drew.drew p).trans A.2);clear j f b o w x z g k i s u c;go_wp2;go_end0;exact⟨rfl,A.1,G⟩
theorem pe (B y d cf) (h:Hs) (r:Rg9) (L b c:Nat) (lg W) (g:Hp B y d cf { h with rg:=h.rg++[r] } W) (j:d.lg=upd lg r.base (some L)) (l:lg r.base=none) (m:∀ k,(lg k).isSome=h.rg.any λr=>r.base==k) (k:Lc L r W) (q:r.base<18446744073709551616) (n:W.cell? ⟨b,0,none⟩=some (J y.P 0)) (o:W.cell? ⟨c,0,none⟩=some (J L 0)) (i:d.un=.func (.func 141) #[] #[J b 0,J c 0]) :
  Calls prog 66 #[J y.P 0] W λe W'=>e=.returned (.tuple #[])/\Hp B y { d with lg:=lg,un:=.nilFunc } cf h W'/\Bi B W W':=by
 have p:=H (yg B y d cf h r L b c lg W g j l m k q n o);have f:=g.cell 120 Z _ rfl;have a:∀ u,boxF cf y d u 120=d.un:=λ_=>rfl
 rw [a,i] at f;have nq:=λw=>qJ (.func 141) #[] #[J b 0,J c 0] w
 have s:=H i;clear g j l m k n o a i;go_enter func66,ntmps66;go_wp2_with fail;refine (p).mono ?_;rintro e n ⟨rfl,a,g⟩;have i:=a.cell 120 Z (.func (.func 141) #[] #[J b 0,J c 0]) (by show d.un=_;exact s);have j:=mF _ _ y.P 120 i (a.box.free 120);have k:=H (a.setDy 120 .nilFunc { d with lg:=lg,un:=.nilFunc } (.inr ⟨rfl,rfl⟩));have l:=H (g.trans (a.bi118 120 .nilFunc));clear p a g;go_wp2;go_end0;exact⟨rfl,k,l⟩
theorem Hp.rows (a:Hp B y d cf h W) (k:Ky (λt=>t=23\/t=90) W W') (n:Below B W W') (t:W'.heap[y.M]?=W.heap[y.M]?) (u:W'.heap[y.R]?=W.heap[y.R]?) (l m:Value) (f b:List Nat) (v:Bxh y.P (boxF cf y { d with ro:=l,rl:=m } h.used) W') (o:Um B W' l f) (p:W'.ownsRow B 23 1 m b.length (Us b)) (q:∀ g,eu l=some g->m.ownBlock≠some g) :
  Hp B y { d with ro:=l,rl:=m } cf { h with row:=f,rel:=b } W' :=
 ⟨a.ap,Fg a.bW n.size,v,a.ds.belowB n a.ap.da,a.sp.ky k av t,a.pg.ky k av,a.bf,
 λc s e i=>k.cells _ _ _ _ (a.sl c s e i) av,λc s e i=>cS (a.rw c s e i) k av,λc s j e i w=>k.cells _ _ _ _ (a.sm c s j e i w) av,
 λc e=>(a.wt c e).ky k av av av,a.mp.same u,a.lo,λr x=>by obtain ⟨g,o,p,q⟩:=a.lb r x;exact⟨g,o,p,k.cells _ _ _ _ q av⟩,a.li,o,p,q,a.tb.belowB n a.ap.b0⟩
theorem lP (h:Um B W v l) (a:eu v=some g):B<=g/\∃ c,W.heap[g]?=some (.cells c 23):=by
 rcases h with ⟨rfl,_⟩|⟨f,o,b,c,rfl,d,e,_⟩;·cases a
 cases a;exact⟨d,c,e⟩
theorem Um.kept (h:Um B W v l) {r:Option Nat} (e:W.grownBy W' r) (a:∀ g,eu v=some g->r≠some g):Um B W' v l:=by
 rcases h with h|⟨g,o,b,c,rfl,f,d,i⟩;·exact .inl h
 exact .inr ⟨g,o,b,c,rfl,f,by rw [e.block g (ai d) (λe=>a g rfl e.symm)];exact d,i⟩
structure Gw (B:Nat) (y:Ly) (W W1:World):Prop where
 k:Ky (· = 23) W W1
 bl:Below B W W1
 m:W1.heap[y.M]?=W.heap[y.M]?
 r:W1.heap[y.R]?=W.heap[y.R]?
theorem Hp.gw (i:Hp B y d cf h W) {o:Option Nat} (j:∀ g,o=some g->B<=g/\∃ c,W.heap[g]?=some (.cells c 23)) (g:W.grownBy W1 o):Gw B y W W1:=by
 refine⟨Ky.grownO (λP a=>by obtain ⟨_,c,f⟩:=j P a;exact⟨c,23,(0,0),f,rfl⟩) g,(Fc B W).grown g i.bW (λr a=>(j r a).1),?_,?_⟩;·refine g.block _ i.sp.lt.2 (λe=>?_);obtain⟨_,c,f⟩:=j _ e.symm;obtain⟨a,⟨k,l,b,_⟩,_⟩:=i.sp.map;rw [f] at b;cases b
 obtain⟨k,l,b⟩:=i.mp.typ;refine g.block _ (ai b) (λe=>?_);obtain⟨_,c,f⟩:=j _ e.symm;rw [f] at b;cases b
theorem Gw.bi (g:Gw B y W W1):Bi B W W1:=⟨g.bl,g.k.more (λt e=>by subst e;unfold hI;decide)⟩
theorem Hp.setRl (b:Hp B y d cf h W) {k:List Nat} (own:W1.ownsRow B 23 1 v' k.length (Us k)) (g:W.grownBy W1 d.rl.ownBlock) (p:∀ g,eu d.ro=some g->v'.ownBlock≠some g) :
  Hp B y { d with rl:=v' } cf { h with rel:=k } (W1.setCell ⟨y.P,117,none⟩ v')/\Bi B W (W1.setCell ⟨y.P,117,none⟩ v')/\W1.cell? ⟨y.P,117,none⟩=some d.rl/\W1.frozen? ⟨y.P,117,none⟩=false:=by
 have f:=b.gw (λg a=>aH b.rl a) g;have l:=b.box.ky f.k av;have i:=l.set 117 Z v';rw [pj cf y d h.used 117 v' { d with rl:=v' } (.inr (.inl ⟨rfl,rfl⟩))] at i;have q:=b.ro.kept g (λe a=>b.rr e a);have m:=l.kyS 117 v';have o:Below B W1 (W1.setCell ⟨y.P,117,none⟩ v'):=(Fc B W1).grown (au (ar W1 y.P) _ _) (Fg b.bW f.bl.size) (λr a=>by simp at a;have:=b.ap.bP;omega);have s:(W1.setCell ⟨y.P,117,none⟩ v').heap[y.M]?=W1.heap[y.M]?:=Gx _ _ _ _ (λe=>by
  obtain⟨c,n,_⟩:=b.box;obtain⟨a,⟨u,v,j,_⟩,_⟩:=b.sp.map;rw [e,n] at j;cases j)
 have a:(W1.setCell ⟨y.P,117,none⟩ v').heap[y.R]?=W1.heap[y.R]?:=Gx _ _ _ _ (λe=>by
  obtain⟨c,n,_⟩:=b.box;obtain⟨u,v,j⟩:=b.mp.typ;rw [e,n] at j;cases j)
 have w:=l.cell 117 Z;refine⟨b.rows ((f.k.more (λt e=>.inl e)).trans (m.more (λt e=>.inr e))) (f.bl.trans o) (s.trans f.m) (a.trans f.r) d.ro v' h.row k i (q.ky m av) (aj own m av) p,f.bi.trans ⟨o,m.more (λt e=>by subst e;unfold hI;decide)⟩,w,l.free 117⟩
theorem aT (t:TypeId) (s x:Operand) {v2:Value} (b:o.op=.call { callee:=.builtin .append,args:=#[s,x],argTypes:=#[t,t] }) (c:o.type=t) (d:a.eval s=v) (e:a.eval x=v2)
  (f:(Builtin.append_ #[t,t] t #[v,v2]).run prog W=.ok v' W') (g:K (a.put o.dst v') W'):Oper.wp prog o a W K Q:=by
 unfold Oper.wp;simp [execOp,b,c,resolve,invoke,builtin,d,e,f,Result.andThen];exact g
theorem Bp (W:World) (B:Nat) (l:List Nat) (a:Nat) (d:l.length<=a) (e:a<=maxLen) (f:B<=W.heap.size) :
  Um B (W.drew.alloc (.cells ((Us l).toArray++Builtin.zeroCells (Value.int .u64 0).cells (a-l.length)) 23)) (Vl W.heap.size l.length a) l:=by
 have g:=ao W.drew (.cells ((Us l).toArray++Builtin.zeroCells (Value.int .u64 0).cells (a-l.length)) 23);have b:(Builtin.zeroCells (Value.int .u64 0).cells (a-l.length))=Array.replicate (a-l.length) (U 0):=by
  apply Array.ext';simp [Builtin.zeroCells,Value.cells,Nat.mod_one];rw [List.map_const',Gm]
 refine .inr ⟨W.heap.size,0,a,_,rfl,f,g,?_,d,e,?_,?_⟩;·simp [b,fY];omega
 ·intro u c;simp [b,Us] at c;rcases c with ⟨n,_,rfl⟩|⟨_,rfl⟩ <;> rfl
 intro i c;rw [FP,Array.getElem?_append_left (by simp [fY];exact c)];simp [Us,c]
theorem Cj (B W v l) (x:Nat) (g:Nat) (c) (q:Um B W v l) (R:W.cell? ⟨g,0,none⟩=some (U x)) (hl:l.length<=100000) (S:B<=W.heap.size) :
  ∃ v' W',(Builtin.append_ #[34,34] 34 #[v,Vl g 1 c]).run prog W=.ok v' W'/\Um B W' v' (l++[x])/\W.grownBy W' (eu v)/\(eu v'=eu v\/eu v'=some W.heap.size)/\∃ a d,v'=.slice a (l.length+1) d:=by
 obtain⟨r,s,z,m,A⟩:=GI iT;have t:=Src.ofSlice (P:=prog) W (size:=r.size) underlying34 ⟨g,0,none⟩ 1 c [U x] (by rw [m];rfl) (λj u n=>by
  cases j with
  | zero=>simp at n;subst n;rw [Addr.add_mid];exact R
  | succ j=>simp at n) (λu q=>by simp at q;subst q;rfl)
 have p:∀ (f:Option Addr) (d:Nat),(Builtin.firstCells r.size l.length (.slice f l.length d)).run prog W.drew=.ok (Us l).toArray W.drew->d<l.length+1->∀ w,
   ∃ v' W',(Builtin.append_ #[34,34] 34 #[.slice f l.length d,Vl g 1 c]).run prog W=.ok v' W'/\Um B W' v' (l++[x])/\W.grownBy W' w/\(eu v'=some W.heap.size)/\∃ a d,v'=.slice a (l.length+1) d:=λf d b e w=>by
  have F:=run_append_grow_src (P:=prog) W 34 34 34 23 r (U 0) underlying34 s z f l.length d (Us l) b _ 1 _ t e Z (growslice_fits e (by rw [A];omega))
  refine⟨_,_,F,?_,?_,rfl,_,_,rfl⟩
  ·have:=Bp W B (l++[x]) (grownCap W (l.length+1) d 23) (by rw [Fo];exact grownCap_ge _ _ _ _) (grownCap_le_maxLen _ _ _ _ (by unfold maxLen;omega)) S;rw [kV,Fo] at this;exact this
  exact⟨rfl,rfl,rfl,by rw [aF];exact Nat.le_succ _,λk i _=>ej W.drew _ k i⟩
 rcases q with ⟨rfl,rfl⟩|⟨b,o,d,T,rfl,V,y,X,h5,Y,h7,Q⟩;·obtain⟨v',W',G,K,L,M,N⟩:=p none 0 (run_firstCells_none W.drew r.size 0 0 0) bF none;exact⟨v',W',G,K,L,.inr M,N⟩
 have cl:∀ i,i<l.length->W.cell? ⟨b,o+i,none⟩=some (U ((l[i]?.getD 0:Nat):Int)):=λi O=>by rw [Gz _ _ _ _ _ _ y];exact Q i O
 by_cases k:l.length+1<=d
 ·have F:=run_append_room_src (P:=prog) W 34 34 34 23 r underlying34 s b o l.length d _ 1 _ t k (λj n=>by
   have:j=0:=by simpa using n
   subst this;rw [Gz _ _ _ _ _ _ y,m,He Z];rfl) (λj n=>by simp [World.frozen?,y])
  refine⟨_,_,F,?_,?_,.inl rfl,_,_,rfl⟩
  ·have hb:(W.setCell ⟨b,o+l.length,none⟩ (U x)).heap[b]?=some (.cells (T.setIfInBounds (o+l.length) (U x)) 23):=(by simp [World.setCell,Fp,y]);rw [m,Nat.mul_one];refine .inr ⟨b,o,d,_,by rw [Fo];rfl,V,hb,by simpa using X,by rw [Fo];exact k,Y,?_,?_⟩
   ·intro u q;rw [Array.toList_setIfInBounds] at q;rcases List.mem_or_eq_of_mem_set q with h|rfl;·exact h7 u h
    rfl
   intro i O;rw [Fo,List.length_singleton] at O;rw [Fu];by_cases e:o+l.length=o+i
   ·rw [Gv e,Gv Z];have:i=l.length:=Z;subst this;simp
   rw [Gu e,Q i Z,Gh Z]
  rw [m,Nat.mul_one];exact au (ar W b) _ _
 obtain⟨v',W',G,K,L,M,N⟩:=p (some ⟨b,o,none⟩) d (by
  rw [m];exact run_firstCells_some W.drew 1 l.length ⟨b,o,none⟩ l.length d (Us l) (by rw [fY,Nat.mul_one]) (λj u n=>by
   rw [Addr.add_mid];have e:j<l.length:=by
    have:=(Fl.1 n).1;rw [fY] at this;exact this
   have:=cl j e;simp [Us,e] at n this;rw [<-n];exact this)) Z (some b)
 exact⟨v',W',G,K,L,.inr M,N⟩
theorem oP {o n a:Nat} (k:Um B W (.slice (some ⟨g,o,none⟩) n a) l) (c:2<=l.length):n=l.length/\n<=a/\Um B W (.slice (some ⟨g,o+1,none⟩) (n-1) (a-1)) l.tail/\W.cell? ⟨g,o,none⟩=some (U ((l[0]?.getD 0:Nat):Int)):=by
 rcases k with ⟨e,rfl⟩|⟨b,s,d,m,e,c,f,t,p,u,q,j⟩;·simp at c
 simp at e;obtain⟨⟨rfl,rfl⟩,rfl,rfl⟩:=e;refine⟨rfl,p,.inr ⟨g,o+1,a-1,m,by rw [List.length_tail],c,f,Z,by rw [List.length_tail];omega,Z,q,λi r=>?_⟩,?_⟩;·rw [List.length_tail] at r;rw [show o+1+i=o+(i+1) by omega,j (i+1) Z];simp
 rw [Gz _ _ _ _ _ _ f];have:=j 0 Z;simpa using this
theorem wD (c:Um B W v l) (d:1<=l.length):∃ g o a,v=.slice (some ⟨g,o,none⟩) l.length a/\l.length<=a:=by
 rcases c with ⟨e,rfl⟩|⟨b,f,a,j,e,k,m,n,i,_⟩;·simp at d
 exact⟨b,f,a,e,i⟩
theorem oE (d:Um B W v l):∃ a b,v=.slice a l.length b:=by
 rcases d with ⟨e,rfl⟩|⟨b,f,c,g,e,i,j,k,m,_⟩;·exact⟨none,0,e⟩
 exact⟨_,c,e⟩
theorem Hp.setRo (b:Hp B y d cf h W) {row'} (o:Um B W1 v' row') (g:W.grownBy W1 (eu d.ro)) (p:∀ g,eu v'=some g->d.rl.ownBlock≠some g) :
  Hp B y { d with ro:=v' } cf { h with row:=row' } (W1.setCell ⟨y.P,116,none⟩ v')/\Bi B W (W1.setCell ⟨y.P,116,none⟩ v')/\W1.cell? ⟨y.P,116,none⟩=some d.ro/\W1.frozen? ⟨y.P,116,none⟩=false:=by
 have f:=b.gw (λg a=>lP b.ro a) g;have k:=b.box.ky f.k av;have i:=k.set 116 Z v';rw [pj cf y d h.used 116 v' { d with ro:=v' } (.inl ⟨rfl,rfl⟩)] at i;have q:=lE b.rl g (λj a e=>b.rr j e a);have l:=k.kyS 116 v';have n:Below B W1 (W1.setCell ⟨y.P,116,none⟩ v'):=(Fc B W1).grown (au (ar W1 y.P) _ _) (Fg b.bW f.bl.size) (λr a=>by simp at a;have:=b.ap.bP;omega);have s:(W1.setCell ⟨y.P,116,none⟩ v').heap[y.M]?=W1.heap[y.M]?:=Gx _ _ _ _ (λe=>by
  obtain⟨c,m,_⟩:=b.box;obtain⟨a,⟨u,v,j,_⟩,_⟩:=b.sp.map;rw [e,m] at j;cases j)
 have a:(W1.setCell ⟨y.P,116,none⟩ v').heap[y.R]?=W1.heap[y.R]?:=Gx _ _ _ _ (λe=>by
  obtain⟨c,m,_⟩:=b.box;obtain⟨u,v,j⟩:=b.mp.typ;rw [e,m] at j;cases j)
 exact⟨b.rows ((f.k.more (λt e=>.inl e)).trans (l.more (λt e=>.inr e))) (f.bl.trans n) (s.trans f.m) (a.trans f.r) v' d.rl row' h.rel i (o.ky l av) (aj q l av) p,f.bi.trans ⟨n,l.more (λt e=>by subst e;unfold hI;decide)⟩,k.cell 116 Z,k.free 116⟩
def gT (rg:List Rg9) (b:Nat) (st rq:Int):List Rg9:=rg.map λx=>if x.base=b then { x with st:=st,rq:=rq } else x
theorem jE (b:Nat) (a c:Int) (x:Rg9):(if x.base=b then { x with st:=a,rq:=c } else x:Rg9).base=x.base:=by split <;> rfl
theorem Hp.setLg (b:Hp B y d cf h W) (t:r∈h.rg) (O:∀ x∈h.rg,x.base=r.base->x=r) (u:d.lg r.base=some L) (j l:Int) (g:W.grownBy W' (some L)) (P:W'.heap[L]?=some (.cells (oX { r with st:=j,rq:=l }) 197)) :
  Hp B y d cf { h with rg:=gT h.rg r.base j l } W'/\Bi B W W':=by
 obtain⟨L',M,v,f⟩:=b.lb r t;rw [u] at M;cases M;have k:Ky (· = 197) W W':=Ky.grown f rfl g;have p:Below B W W':=(Fc B W).grown g b.bW (λr t=>by simp at t;omega);have Q:W'.heap[y.M]?=W.heap[y.M]?:=g.block _ b.sp.lt.2 (λe=>by
  simp at e;obtain⟨a,⟨R,S,i,_⟩,_⟩:=b.sp.map;rw [e,f] at i;cases i)
 have T:W'.heap[y.R]?=W.heap[y.R]?:=by
  obtain⟨R,S,i⟩:=b.mp.typ;exact g.block _ (ai i) (λe=>by simp at e;rw [e,f] at i;cases i)
 have a:(gT h.rg r.base j l).length=h.rg.length:=by simp [gT]
 have m:=b.mp.same T;rw [<-a] at m;refine⟨⟨b.ap,Fg b.bW p.size,b.box.ky k av,b.ds.belowB p b.ap.da,b.sp.ky k av Q,b.pg.ky k av,b.bf,
 λc s n w=>k.cells _ _ _ _ (b.sl c s n w) av,λc s n w=>cS (b.rw c s n w) k av,λV X Y z A F=>k.cells _ _ _ _ (b.sm V X Y z A F) av,
 λc n=>(b.wt c n).ky k av av av,m,λq=>?_,λx hx=>?_,b.li,b.ro.ky k av,aj b.rl k av,b.rr,b.tb.belowB p b.ap.b0⟩,p,k.more (λt e=>by subst e;unfold hI;decide)⟩
 ·show (d.lg q).isSome=(gT h.rg r.base j l).any λr=>r.base==q
  rw [b.lo q];unfold gT;rw [List.any_map];congr 1;funext x;show _=((if x.base=r.base then { x with st:=j,rq:=l } else x:Rg9).base==q);rw [jE]
 obtain⟨G,o,rfl⟩:=FC.1 hx;rw [jE];by_cases e:G.base=r.base;·have:=O G o e;subst this;rw [Gv rfl];exact⟨L,u,v,P⟩
 rw [Gu e];obtain⟨g',K,a2,N⟩:=b.lb G o;refine⟨g',K,a2,?_⟩;rw [g.block _ (ai N) (λa=>by simp at a;rw [a] at K;exact e (b.li _ _ _ K u))];exact N
theorem Hp.cutR (j:Hp B y d cf h W) (b:Nat) (t:(d.lg b).isSome=true) (o:∃ r∈h.rg,r.base=b) (p:Mr y.R (h.rg.length-1) (upd d.lg b none) W') (s:W.mapTurned W' y.R) (c:h.rg.length-1<=(h.rg.filter λx=>x.base≠b).length) :
  Hp B y { d with lg:=upd d.lg b none } cf { h with rg:=h.rg.filter λx=>x.base≠b } W'/\Bi B W W':=by
 refine j.turn s _ (h.rg.filter λx=>x.base≠b) ?_ (λk=>?_) (λm l=>?_) (λk n g f i=>?_);·obtain⟨a,f,i,e⟩:=p.map;exact⟨a,f,Fg i c,e⟩
 ·by_cases e:k=b;·subst e;rw [upd_same];simp
  rw [aJ _ _ _ _ e,j.lo k,List.any_filter];congr 1;funext x;by_cases a:x.base=k
  ·have:x.base≠b:=λq=>e (a.symm.trans q)
   simp [a,e]
  simp [a]
 ·obtain⟨f,i⟩:=F_.1 l;have a:m.base≠b:=by simpa using i
  rw [aJ _ _ _ _ a];exact j.lb m f
 have q:∀ k,upd d.lg b none k=some g->d.lg k=some g:=λk a=>by
  by_cases e:k=b;·subst e;rw [upd_same] at a;cases a
  rw [aJ _ _ _ _ e] at a;exact a
 exact j.li k n g (q k f) (q n i)
theorem uH (W:World) (B:Nat) (v:Value) (l:List Nat) (x:Nat) (g c:Nat) (a:W.ownsRow B 23 1 v l.length (Us l)) (k:W.cell? ⟨g,0,none⟩=some (U x)) (s:l.length<=100000) (m:B<=W.heap.size) :
  ∃ v' b,(Builtin.append_ #[34,34] 34 #[v,Vl g 1 c]).run prog W=.ok v' b/\b.ownsRow B 23 1 v' (l++[x]).length (Us (l++[x]))/\W.grownBy b v.ownBlock/\(v'.ownBlock=v.ownBlock\/v'.ownBlock=some W.heap.size):=by
 obtain⟨n,d,e,f,i⟩:=GI iT;obtain⟨v',b,o,p,q,_,r⟩:=run_append_own_at (P:=prog) W B 34 34 23 n _ 1 8 underlying34 d e f i rfl Z v _ _ a ⟨g,0,none⟩ 1 c [U x] rfl (λj u a=>by
  cases j with
  | zero=>simp at a;subst a;rw [Addr.add_mid];exact k
  | succ j=>simp at a) (λu a=>by simp at a;subst a;rfl) (by unfold maxLen;omega) Z m
 exact⟨v',b,o,by rw [Fo,kV];exact p,q,r⟩
theorem zp {c:List Rg9} (f:c.Pairwise λa b=>a.first+a.ext<=b.first\/b.first+b.ext<=a.first) (b:Nat):c.length-1<=(c.filter λx=>x.base≠b).length:=by
 induction c with
 | nil=>simp
 | cons r l g =>
  obtain⟨i,j⟩:=List.pairwise_cons.1 f;by_cases e:r.base=b
  ·have:(l.filter λx=>x.base≠b)=l:=by
    rw [Hw];intro x k;have:=i x k;have n:x.ext=x.guards+x.pages+1:=rfl;have o:r.ext=r.guards+r.pages+1:=rfl;have d:x.base≠b:=λm=>by
     have p:(r.first+r.guards)*1024=(x.first+x.guards)*1024:=e.trans m.symm;omega
    simpa using d
   rw [If (by simp [e]),this];simp
  rw [G8 (by simp [e])];have:=g j;simp only [Fx];omega
end
end Go.Proofs.YtdngbppdomoenaaGreatDoor
