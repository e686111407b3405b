import Derived.Test.YtdfodlhkdmkfdaaGreatDoorN19
set_option linter.unusedVariables false
set_option linter.unusedSimpArgs false
set_option maxRecDepth 20000
set_option maxHeartbeats 8000000
namespace Go.Proofs.YtdfodlhkdmkfdaaGreatDoor
open Go.Proofs.Tryz
variable {cf:Cf} {h:Hs} {r:Rg9} {B c i j p s x:Nat} {y:Ly} {d:Dy} {W W':World} {v:Value} {l m:List Nat}
section
open Go.RowKit Go.Maps
inductive Dg (y:Ly) (d:Dy):Fd->Ending->Prop
 | slot (c s j:Nat):Dg y d (.slot c s j) (.returned (.iface 186 (J (y.sm c s j) 0)))
 | range (r:Rg9) (g:Nat) (h:d.lg r.base=some g):Dg y d (.range r) (.returned (.iface 196 (J g 0)))
 | no (code:Int):Dg y d (.no code) (.panicked (iG code))
theorem Inv.baseP (i:Inv cf h) (a:r∈h.rg):191488<=r.base/\r.base<289792/\r.base/1024=r.first+r.guards/\r.base%1024=0:=by
 obtain⟨c,b,d,e,f,_⟩:=i.rgs r a;unfold Rg9.ext at b;unfold Rg9.base;omega
theorem ut (h:bj p=some (c,s,j)):p<191488:=by
 obtain⟨a,b,d,e⟩:=gV h;have:=cY a b d;omega
theorem mY (h:191488<=p):bj p=none:=by
 cases e:bj p with
 | none=>rfl
 | some t=>obtain ⟨c,s,j⟩:=t;have:=ut e;omega
theorem Inv.relP (i:Inv cf h) (b:p∈h.rel):aP h p=.no 4:=by
 obtain⟨k,l,m,d⟩:=i.rel p b;unfold aP;rw [mY Z];dsimp only;cases e:h.rg.find? λr=>r.base==p with
 | some r =>
  exfalso;have a:=KJ e;have c:=List.find?_some e;simp at c;have f:=i.baseP a;have g:=d r a;obtain⟨n,o,q,s,j,_⟩:=i.rgs r a;unfold Rg9.ext at g;rw [c] at f;omega
 | none =>
  dsimp only;rw [tm (List.contains_iff_mem.2 b)]
theorem Hp.lcAt (c:Hp B y d cf h W) (i:Inv cf h) (b:r∈h.rg):∃ g,d.lg r.base=some g/\Lc g r W:=by
 obtain⟨g,e,k,a⟩:=c.lb r b;obtain⟨l,f,m,n,j,_⟩:=i.rgs r b;unfold Rg9.ext at f;exact⟨g,e,aM a,aM a,aM a,aM a,aM a,Z,Z,Z⟩
theorem pM (B y d cf h) (p:Nat) (W) (m:Hp B y d cf h W) (i:Inv cf h) (O:p<18446744073709551616) (P:h.rel.length<=100000) :
  Calls prog 59 #[J y.P 0,U p] W λe W'=>Dg y d (aP h p) e/\D W W':=by
 obtain⟨va,vn,vc,a⟩:=aE m.rl;have n:W.cell? ⟨y.P,117,none⟩=some (.slice va vn vc):=by rw [<-a];exact m.cell 117 Z _ rfl
 have u:=H (rW B va vn vc p h.rel W (by rw [<-a];exact m.rl) P);have v:=H (Ho B y d cf h p W m O);have L:=H gp;have o:=H (λV (M:D W V)=>m.below M);have A:=H (m.lo p);clear a;by_cases K:p∈h.rel;·have a:=H (i.relP K);rw [List.contains_iff_mem.2 K] at u;clear m K v o A i;go_enter func59,ntmps59;go_wp2_with fail;refine (u).mono ?_;rintro e Q ⟨rfl,rfl⟩;clear u;go_wp2;rw [a.out];exact⟨rfl,.no 4,Jn _ _⟩
 have t:h.rel.contains p=false:=by
  cases R:h.rel.contains p with
  | false=>rfl
  | true=>exact absurd (List.contains_iff_mem.1 R) K
 rw [t] at u;cases x:d.lg p with
 | some g =>
  rw [x] at A;have l:h.rg.any (λr=>r.base==p)=true:=A.symm;obtain⟨r,b⟩:∃ r,h.rg.find? (λr=>r.base==p)=some r:=by
   cases e:h.rg.find? λr=>r.base==p with
   | some r=>exact ⟨r,rfl⟩
   | none =>
    exfalso;obtain⟨r,S,T⟩:=List.any_eq_true.1 l;exact List.find?_eq_none.1 e r S T
  have a:=KJ b;have f:=List.find?_some b;simp at f;have z:=i.baseP a;obtain⟨g',q,G⟩:=m.lcAt i a;rw [f,x] at q;cases q;have N:=(i.rgs r a).2.2.2.2.2;have F:=H (show zl y d p=.iface 196 (J g 0) by unfold zl;rw [x]);rw [F.out] at v;have X:=H (λV (M:D W V)=>(G.below M).c0);have mk:=λw=>By g w
  have k:=H (show aP h p=if r.st=1 then .range r else .no 4 by unfold aP;rw [mY Z];dsimp only;rw [b]);have HL:=H (show d.lg r.base=some g by rw [f];exact x);clear m K o A G b a z l t x f i;go_enter func59,ntmps59;go_wp2_with fail;refine (u).mono ?_;rintro e Q ⟨rfl,rfl⟩;clear u;go_wp2_with fail;refine (v).mono ?_;rintro e V ⟨rfl,z⟩;have G:=H z;have Y:=X.out V z;clear z v F n;go_wp2_with fail;refine (L _ _).mono ?_;rintro e V2 ⟨rfl,rfl⟩;rcases N with ⟨l,_⟩|⟨l,_⟩;·have a:=H (show aP h p=.range r by rw [k.out,tm l]);rw [l] at Y;clear k l;go_wp2_with fail;refine (L _ _).mono ?_;rintro e V3 ⟨rfl,rfl⟩;go_wp2;go_ret;rw [a.out];exact⟨.range r g HL,G⟩
  have a:=H (show aP h p=.no 4 by rw [k.out,tg Z]);rw [l] at Y;clear k l;go_wp2_with fail;refine (L _ _).mono ?_;rintro e V3 ⟨rfl,rfl⟩;go_wp2;rw [a.out];exact⟨rfl,.no 4,G⟩
 | none =>
  rw [x] at A;have b:h.rg.find? (λr=>r.base==p)=none:=by
   refine List.find?_eq_none.2 (λr S T=>?_);have:h.rg.any (λr=>r.base==p)=true:=List.any_eq_true.2 ⟨r,S,T⟩;rw [<-A.out] at this;cases this
  cases f:bj p with
  | none =>
   have F:=H (show zl y d p=.nilIface by unfold zl;rw [x,f]);rw [F.out] at v;have k:=H (show aP h p=.no 3 by unfold aP;rw [f];dsimp only;rw [b];dsimp only;rw [t];rfl);clear m K o A b t x f i;go_enter func59,ntmps59;go_wp2_with fail;refine (u).mono ?_;rintro e Q ⟨rfl,rfl⟩;clear u;go_wp2_with fail;refine (v).mono ?_;rintro e V ⟨rfl,z⟩;have G:=H z;clear z v F n;go_wp2;rw [k.out];exact⟨rfl,.no 3,G⟩
  | some q =>
   obtain⟨c,s,j⟩:=q;obtain⟨R,hs,hj,g⟩:=gV f;have F:=H (show zl y d p=.iface 186 (J (y.sm c s j) 0) by unfold zl;rw [x,f]);rw [F.out] at v;have X:=H (λV (M:D W V)=>((o V M).smAt c s j R hs hj).1);have k:=H (show aP h p=if h.st c s j=1 then .slot c s j else if h.st c s j=0 then .no 3 else .no 4 by unfold aP;rw [f]);have LS:=H (Dg.slot (y:=y) (d:=d) c s j);have mk:=λw=>AW (y.sm c s j) w
   clear m K o A b t x f g i;generalize y.sm c s j=gm at *;generalize h.st c s j=N at *;go_enter func59,ntmps59;go_wp2_with fail;refine (u).mono ?_;rintro e Q ⟨rfl,rfl⟩;clear u;go_wp2_with fail;refine (v).mono ?_;rintro e V ⟨rfl,z⟩;have G:=H z;have Y:=X.out V z;clear z v F n;go_wp2_with fail;refine (L _ _).mono ?_;rintro e V2 ⟨rfl,rfl⟩;by_cases g:N=0;·have a:=H (show aP h p=.no 3 by rw [k.out,tg Z,tm g]);subst g;clear k;go_wp2;rw [a.out];exact⟨rfl,.no 3,G⟩
   have a0:(N==0)=false:=(by simpa using g);by_cases l:N=1;·have a:=H (show aP h p=.slot c s j by rw [k.out,tm l]);subst l;clear k g a0;go_wp2_with fail;refine (L _ _).mono ?_;rintro e V3 ⟨rfl,rfl⟩;go_wp2;go_ret;rw [a.out];exact⟨LS,G⟩
   have a:=H (show aP h p=.no 4 by rw [k.out,tg l,tg g]);have a1:(N != 1)=true:=(by simpa using l);clear k g l;go_wp2_with fail;refine (L _ _).mono ?_;rintro e V3 ⟨rfl,rfl⟩;go_wp2;rw [a.out];exact⟨rfl,.no 4,G⟩
def gQ (f:Nat->Nat->Bool) (c s:Nat) (v:Bool):Nat->Nat->Bool:=λj i=>if j=c/\i=s then v else f j i
theorem Hp.setOn (b:Hp B y d cf h W) (i:c<12) (m:s<6) (v):Hp B y { d with on:=gQ d.on c s v } cf h (W.setCell ⟨y.sb c s,2,none⟩ (.bool v))/\Bi B W (W.setCell ⟨y.sb c s,2,none⟩ (.bool v)):=by
 have p:=b.sl c s i m;have g:=au (ao W (y.sb c s)) 2 (.bool v);have k:Ky (· = 185) W (W.setCell ⟨y.sb c s,2,none⟩ (.bool v)):=Ky.grown p rfl g;have q:Below B W (W.setCell ⟨y.sb c s,2,none⟩ (.bool v)):=(Jn B W).grown g b.bW (λr t=>by simp at t;have:=b.ap.bsb c s i m;omega);have u:(W.setCell ⟨y.sb c s,2,none⟩ (.bool v)).heap[y.M]?=W.heap[y.M]?:=t4 _ _ _ _ (λe=>by
  obtain⟨a,⟨w,x,l,_⟩,_⟩:=b.sp.map;rw [e,p] at l;cases l)
 have z:(W.setCell ⟨y.sb c s,2,none⟩ (.bool v)).heap[y.R]?=W.heap[y.R]?:=t4 _ _ _ _ (λe=>by
  obtain⟨w,x,l⟩:=b.mp.typ;rw [e,p] at l;cases l)
 refine⟨⟨b.ap,Jp b.bW q.size,b.box.ky k al,b.ds.belowB q b.ap.da,b.sp.ky k al u,b.pg.ky k al,b.bf,
 λa f n o=>?_,λc s i m=>cZ (b.rw c s i m) k al,λc s j i m A=>k.cells _ _ _ _ (b.sm c s j i m A) al,
 λc i=>(b.wt c i).ky k al al al,b.mp.same z,b.lo,λr t=>by obtain ⟨g,F,l,G⟩:=b.lb r t;exact⟨g,F,l,k.cells _ _ _ _ G al⟩,b.li,b.ro.ky k al,ai b.rl k al,b.rr,b.tb.belowB q b.ap.b0⟩,Bi.ofGrown p (.inr (.inr (.inr (.inl rfl)))) (b.ap.bsb c s i m) b.bW g⟩
 by_cases e:a=c/\f=s
 ·obtain⟨rfl,rfl⟩:=e;show (W.setCell ⟨y.sb a f,2,none⟩ (.bool v)).heap[y.sb a f]?=some (.cells (FO a f (gQ d.on a f v a f) _ _ _) 185);have:gQ d.on a f v a f=v:=by unfold gQ;rw [tm ⟨rfl,rfl⟩]
  rw [this];have l:=b.sl a f n o;simp [World.setCell,Jw,l,FO]
 show (W.setCell ⟨y.sb c s,2,none⟩ (.bool v)).heap[y.sb a f]?=some (.cells (FO a f (gQ d.on c s v a f) _ _ _) 185);have:gQ d.on c s v a f=d.on a f:=by unfold gQ;rw [tg e]
 rw [this,t4 _ _ _ _ (λg=>e (by have:=b.ap.isb a f c s n o i m g;exact this))];exact b.sl a f n o
def Kl (lg:Nat->Option Nat) (d:Dy):Prop:=∀ b g,lg b=some g->d.lg b=some g
theorem Kl.trans {lg d'} (h:Kl lg d) (k:Kl d.lg d'):Kl lg d':=λb g e=>k b g (h b g e)
theorem Kl.refl (d:Dy):Kl d.lg d:=λ_ _ e=>e
def Hgl (B:Nat) (y:Ly) (cf:Cf) (h:Hs) (an:Value) (lg:Nat->Option Nat) (W:World):Prop:=∃ d,Hp B y d cf h W/\Gd d h an/\Kl lg d
theorem Hgl.hg {an lg} (k:Hgl B y cf h an lg W):Hg B y cf h an W:=by
 obtain⟨d,a,b,_⟩:=k;exact⟨d,a,b⟩
inductive ID (B:Nat) (y:Ly) (cf:Cf) (h:Hs) (an:Value) (lg:Nat->Option Nat) (c:Nat):Option (Nat×Hs)->Ending->World->Prop
 | yes (s:Nat) (h1:Hs) (W':World) (hg:Hgl B y cf h1 an lg W'):ID B y cf h an lg c (some (s,h1)) (.returned (J (y.sb c s) 0)) W'
 | no (W':World) (tk:Tk B y cf h an W'):ID B y cf h an lg c none (.panicked (iG 1)) W'
def kW (y:Ly) (c:Nat):List Value:=[J (y.sb c 0) 0,J (y.sb c 1) 0,J (y.sb c 2) 0,J (y.sb c 3) 0,J (y.sb c 4) 0,J (y.sb c 5) 0]
theorem Hp.range6 (b:Hp B y d cf h W) (e:c<12):W.rangeAt y.P (7+c*6) (kW y c):=by
 intro j v a;have f:j<6:=by have:=(Jr.1 a).1;simpa [kW] using this
 have:=b.slabAt c j e f;rw [this,<-a];rcases (show j=0\/j=1\/j=2\/j=3\/j=4\/j=5 by omega) with rfl|rfl|rfl|rfl|rfl|rfl <;> rfl
theorem xh (y c) (k:Nat) (a:k<6):(kW y c)[k]?=some (J (y.sb c k) 0):=by
 rcases (show k=0\/k=1\/k=2\/k=3\/k=4\/k=5 by omega) with rfl|rfl|rfl|rfl|rfl|rfl <;> rfl
theorem tX {k:Nat} (e:k<6) (b:(dJ h c k && !(freeS h c k).isEmpty)=true) (d:∀ s,s<k->(dJ h c s && !(freeS h c s).isEmpty)=false):kZ h c=some k:=by
 unfold kZ;rw [List.find?_eq_some_iff_append];refine⟨b,List.range k,(List.range (6-k-1)).map (λi=>k+1+i),?_,λa ha=>?_⟩;·rcases (show k=0\/k=1\/k=2\/k=3\/k=4\/k=5 by omega) with rfl|rfl|rfl|rfl|rfl|rfl <;> rfl
 rw [d a (by simpa using ha)];rfl
theorem uS (b:∀ s,s<6->(dJ h c s && !(freeS h c s).isEmpty)=false):kZ h c=none:=by
 unfold kZ;rw [List.find?_eq_none];intro a ha;rw [b a (by simpa using ha)];simp
theorem xB {k:Nat} (e:k<6) (b:dJ h c k=false) (d:∀ s,s<k->dJ h c s=true):rU h c=some k:=by
 unfold rU;rw [List.find?_eq_some_iff_append];refine⟨by rw [b];rfl,List.range k,(List.range (6-k-1)).map (λi=>k+1+i),?_,λa ha=>?_⟩;·rcases (show k=0\/k=1\/k=2\/k=3\/k=4\/k=5 by omega) with rfl|rfl|rfl|rfl|rfl|rfl <;> rfl
 rw [d a (by simpa using ha)];rfl
theorem xl (b:∀ s,s<6->dJ h c s=true):rU h c=none:=by
 unfold rU;rw [List.find?_eq_none];intro a ha;rw [b a (by simpa using ha)];simp
theorem zS (X b:Nat) (a:Value) (W:World) (c:W.cell? ⟨X,0,none⟩=some (J b 0)) (d:W.cell? ⟨b,2,none⟩=some a) (f:W.frozen? ⟨b,2,none⟩=false) :
  Calls prog 192 #[J X 0] W λe W'=>e=.returned (.tuple #[])/\W'=W.setCell ⟨b,2,none⟩ (.bool false):=by
 go_enter func192,ntmps192;go_wp2;go_end0;exact⟨rfl,rfl⟩
theorem qj (B y d cf h) (X c s:Nat) (W) (a:Hp B y d cf h W) (i:c<12) (j:s<6) (k:W.cell? ⟨X,0,none⟩=some (J (y.sb c s) 0)) (l:d.un=.func (.func 192) #[] #[J X 0]) :
  Calls prog 52 #[J y.P 0] W λe W'=>e=.returned (.tuple #[])/\Hp B y { d with on:=gQ d.on c s false,un:=.nilFunc } cf h W'/\Bi B W W':=by
 have m:=a.bc c s i j;have n:W.frozen? ⟨y.sb c s,2,none⟩=false:=by simp [World.frozen?,a.sl c s i j]
 have o:=H (zS X (y.sb c s) _ W k m.d2 n);obtain⟨b,p⟩:=a.setOn i j false;have f:=a.cell 120 Z _ rfl;have g:boxF cf y d h.used 120=d.un:=rfl;rw [g,l] at f;have q:=b.cell 120 Z (.func (.func 192) #[] #[J X 0]) (by show d.un=_;exact l);have f1:=b.box.free 120;have r:=mq _ _ y.P 120 q f1;have t:=H (b.setDy 120 .nilFunc { d with on:=gQ d.on c s false,un:=.nilFunc } (.inr ⟨rfl,rfl⟩));have u:=H (p.trans (b.bi118 120 .nilFunc));have nq:=λw=>rN (.func 192) #[] #[J X 0] w
 clear b p a m n k q f1;go_enter func52,ntmps52;go_wp2_with fail;refine (o).mono ?_;rintro e a ⟨rfl,rfl⟩;clear o;go_wp2;go_end0;exact⟨rfl,t,u⟩
theorem zL:¬hI 67:=by unfold hI;decide
def I8 (B:Nat) (y:Ly) (cf:Cf) (h:Hs) (an:Value) (lg:Nat->Option Nat) (c:Nat) (W:World) (e:Ending) (W':World):Prop:=ID B y cf h an lg c (dw cf h c) e W'/\Bi B W W'
theorem Fe (B y d cf h an) (c:Nat) (W) (a:Hp B y d cf h W) (e:Gd d h an) (i:Inv cf h) (l:c<12) :
  Calls prog 156 #[J y.P 0,I c] W (I8 B y cf h an d.lg c W):=by
 have z:=H (λV (r:D W V)=>a.below r);have BW:=H a.bW;have hz:=bI l;have RG:=H (λV (r:D W V)=>(a.below r).range6 l);have FR:=H (λV (r:D W V) k (N:k<6)=>ql (y.sb c k) (y.sr c k) c k (aU c) (y.sc c k) (d.on c k) (y.sm c k) (h.st c k) V ((a.below r).bc c k l N) Z (λj b=>(a.below r).rowAt c k j l N b) (λj b=>((a.below r).smAt c k j l N b).1));have FL:=H (λV (r:D W V) k (N:k<6)=>((a.below r).bc c k l N).d2);have HI:=H i;have O:=H e;have SG:=H (xh y c);have b:∀ (k:Nat),k<6->∀ w,(Instr.index 68 (.agg (kW y c).toArray) (I k)).run prog w=.ok (J (y.sb c k) 0) w:=λk N w=>by
  rcases (show k=0\/k=1\/k=2\/k=3\/k=4\/k=5 by omega) with rfl|rfl|rfl|rfl|rfl|rfl <;> kernel_rfl
 have Y:=H b;clear a e i b;go_enter func156,ntmps156;go_wp2_with (refine wpList_load_mid rfl 68 _ rfl _ _ rfl _ _ (RG _ (Jn _ _)) underlying68 rfl E ?_);generalize a:(kW y c).toArray=A6 at *;have a0:=H a;clear a;go_loopw [15] (λi wr=>∃ k:Nat,k<=6/\i=I k/\Hid (∀ s,s<k->(dJ h c s && !(freeS h c s).isEmpty)=false)/\Hid (D W wr)) (λi _=>6-(intOf i).toNat);case atStart=>exact ⟨0,Jt _,rfl,H (λs Q=>Z),H (Jn _ _)⟩
 case round =>
  obtain⟨k,N,rfl,p,o⟩:=hrel;by_cases b:k<6
  ·have ix:=Y.out k b;have fl:=FL.out wr o k b;have K:=H (λV (r:D W V)=>FR.out V r k b);have g:=H (O.on c k l b);have a:=H (λ(q:(dJ h c k && !(freeS h c k).isEmpty)=true)=>tX b q p);generalize t:d.on c k=on at *;rw [kE] at K;cases on with
   | false =>
    have u:=H (show ∀ s,s<k+1->(dJ h c s && !(freeS h c s).isEmpty)=false from λs Q=>by
     rcases Nat.lt_succ_iff_lt_or_eq.1 Q with q|q;·exact p s q
     subst q;rw [<-g.out];rfl)
    clear p g a K t;generalize y.sb c k=gb at *;go_wp2;go_roundw;(case rel=>exact ⟨k+1,Z,aR,u,o⟩);case measure=>simp [intOf];omega
   | true =>
    go_wp2_with fail;refine (K _ o).mono ?_;rintro e V ⟨v,rfl,own,n⟩;obtain⟨P,R,rfl⟩:=aG own;have A:=H (o.trans (n.mono o.size));have x:=H (show (freeS h c k).isEmpty=decide ((freeS h c k).length=0) by cases freeS h c k <;> simp);clear own n K fl ix t o;generalize F:(freeS h c k).length=n at *;clear F;by_cases F:n=0
    ·have u:=H (show ∀ s,s<k+1->(dJ h c s && !(freeS h c s).isEmpty)=false from λs Q=>by
      rcases Nat.lt_succ_iff_lt_or_eq.1 Q with q|q;·exact p s q
      subst q;rw [x.out,F];simp)
     subst F;clear p g a x;generalize y.sb c k=gb at *;go_wp2;go_roundw;(case rel=>exact ⟨k+1,Z,aR,u,A⟩);case measure=>simp [intOf];omega
    have G:=H (a (by rw [<-g.out,x.out];simp [F]));have L:=H (show dw cf h c=some (k,h) by unfold dw;rw [G.out]);have M:(0:Int)<(n:Int):=Z;clear p g a x G;go_wp2;go_ret;refine⟨?_,Bi.ofBelow A BW⟩;rw [L.out];exact .yes k h _ ⟨d,z _ A,O,Kl.refl d⟩
  obtain rfl:k=6:=Z;have A:=H (uS p);clear p b;go_wp2_with (refine wpList_load_mid rfl 68 _ rfl _ _ rfl _ _ (RG _ o) underlying68 rfl E ?_);rw [a0.out];have a9:∀ (fn:Fn) (first a1:Array Value) (w:World),(Instr.makeFunc fn first a1).run prog w=.ok (.func fn first a1) w:=λ_ _ _ _=>rfl
  clear FR RG a0 SG;go_loopw [36] (λi a=>∃ k:Nat,k<=6/\i=I k/\Hid (∀ s,s<k->dJ h c s=true)/\Hid (D W a)) (λi _=>6-(intOf i).toNat);case atStart=>exact ⟨0,Jt _,rfl,H (λs Q=>Z),o⟩
  case round =>
   clear o;obtain⟨k,N,rfl,p,o⟩:=hrel;by_cases b:k<6
   ·have ix:=Y.out k b;have g:=H (O.on c k l b);have R:=H (λ(q:dJ h c k=false)=>xB b q p);have a:D wr (wr.alloc (.cells #[J (y.sb c k) 0] 67)):=(Jn _ _).alloc (Jo _) _;have X:=av wr (.cells #[J (y.sb c k) 0] 67);have BX:=H (o.trans (a.mono o.size));have fl:=FL.out _ BX k b;have b0:=H o.size;clear a;(go_upto_region 10 with fail);generalize wr.alloc _=V at *;generalize wr.heap.size=S at *;have x0:V.cell? ⟨S,0,none⟩=some (J (y.sb c k) 0):=aM X;have XH:=H X;clear X o;generalize t:d.on c k=on at *;cases on with
    | true =>
     have u:=H (show ∀ s,s<k+1->dJ h c s=true from λs Q=>by
      rcases Nat.lt_succ_iff_lt_or_eq.1 Q with q|q;·exact p s q
      subst q;exact g.symm)
     clear p g R t;generalize y.sb c k=gb at *;go_wp2;go_roundw;(case rel=>exact ⟨k+1,Z,aR,u,BX⟩);case measure=>simp [intOf];omega
    | false =>
     have a2:=H (R g.symm);obtain⟨n,M⟩:=(z V BX).setOn l b true;have fz:V.frozen? ⟨y.sb c k,2,none⟩=false:=(by simp [World.frozen?,(z.out V BX.out).sl c k l b]);have T:=H n;have a3:=H ((Bi.ofBelow BX BW).trans M);have X1:=H (M.ky.cells _ _ _ _ XH zL);have a4:=H (mG (y.sb c k) (y.sr c k) (y.sm c k 0) c k (aU c) (y.sc c k) _ 0 _ (n.bc c k l b) Z (n.scAt c k 0 l b Z) (n.rowAt c k 0 l b Z));have a6:=cL l b;have X:∀ i,i<dQ c->(h.m (aF c k+i)).isSome=false:=λi hi=>by rw [HI.slab c k l b i hi];exact g.symm
     have CM:=H (λa (q:Hp B y { d with on:=gQ d.on c k true } cf h a)=>pS B y { d with on:=gQ d.on c k true } cf h (aF c k) (dQ c) (.func 192) #[] #[J S 0] a q HI.out.out Z Z X);have TD:=H (show ∀ P,Gd { d with on:=gQ d.on c k true,f:=P,un:=.nilFunc } { h with m:=aT h.m (aF c k) (dQ c) } an from λP=>⟨λF G x K=>by
      show gQ d.on c k true F G=(aT h.m (aF c k) (dQ c) (aF F G)).isSome;unfold gQ;by_cases e:F=c/\G=k;·obtain⟨rfl,rfl⟩:=e;rw [tm ⟨rfl,rfl⟩,kV _ _ _ _ (Jo _) Z];rfl
      rw [tg e,c_,tg (by
       have hq:=bI x;rcases eT x K l b e with L|L <;> omega)]
      exact O.on F G x K,rfl,O.an⟩)
     have TB:=H (show ∀ P V',Hp B y { d with on:=gQ d.on c k true,f:=P,un:=.func (.func 192) #[] #[J S 0] } cf h V'->V'.heap[S]?=some (.cells #[J (y.sb c k) 0] 67)->Tk B y cf h an V' from λP V' a7 L a8 a5=>by
      refine (qj B y _ cf h S c k a8 (a7.below a5) l b (by rw [t6 _ _ _ _ _ _ ((a5.block _ (ah L)).trans L)];rfl) rfl).mono ?_;rintro e W9 ⟨rfl,h9,b9⟩;refine⟨rfl,⟨_,h9,λF G x K=>?_,rfl,O.an⟩,b9⟩;show gQ (gQ d.on c k true) c k false F G=dJ h F G;unfold gQ;by_cases e:F=c/\G=k;·obtain⟨rfl,rfl⟩:=e;rw [tm ⟨rfl,rfl⟩];exact g.out
      rw [tg e,tg e];exact O.on F G x K)
     have a5:=H (λ(hb:¬((cf.bud:Int)<(bG h.m 283:Int)+(dQ c:Nat)))=>show dw cf h c=some (k,{ h with m:=aT h.m (aF c k) (dQ c) }) by unfold dw;rw [A.out];dsimp only;rw [a2.out];dsimp only;rw [tg Z]);have L:=H (λ(hb:(cf.bud:Int)<(bG h.m 283:Int)+(dQ c:Nat))=>show dw cf h c=none by unfold dw;rw [A.out];dsimp only;rw [a2.out];dsimp only;rw [tm Z]);clear n M t p g R a6 X;(go_upto_region 12 with fail);generalize V.setCell ⟨y.sb c k,2,none⟩ (.bool true)=a at *;have M:a.cell? ⟨S,0,none⟩=some (J (y.sb c k) 0):=aM X1.out;clear fl fz x0 XH;go_wp2_with fail;refine (a4).mono ?_;rintro e U2 ⟨rfl,n⟩;have a6:=H (T.below n);have X:=H (a3.add n T.bW);have X2:=H ((n.block _ (ah X1)).trans X1);clear a4 n T a3 X1 M;go_wp2_with fail;refine (CM _ a6).mono ?_;rintro e U3 ⟨P,n,⟨hb,rfl,M⟩|⟨hb,rfl,M⟩⟩
     ·have x3:U3.cell? ⟨S,0,none⟩=some (J (y.sb c k) 0):=(by rw [t6 _ _ _ _ _ _ (n.ky.cells _ _ _ _ X2.out zL)];rfl);have T:=H (LG M (LG (X.trans n) (a5 Z)));clear M n CM a6 X X2 a5 L hb;go_wp2;go_ret;refine⟨?_,T.2.1⟩;rw [T.2.2];exact .yes k _ _ ⟨_,T.1,TD P,λ_ _ e=>e⟩
     refine⟨rfl,?_,X.trans n⟩;rw [L.out Z];exact .no _ (TB P U3 M (n.ky.cells _ _ _ _ X2 zL))
   obtain rfl:k=6:=Z;have L:=H (show dw cf h c=none by unfold dw;rw [A.out];dsimp only;rw [xl p.out]);clear p A;go_wp2;refine⟨rfl,?_,Bi.ofBelow o BW⟩;rw [L.out];exact .no _ (Hg.tk ⟨d,z _ o,O⟩)
theorem Hp.setSlot (b:Hp B y d cf h W) (i:c<12) (m:s<6) (u:j<aU c) (st' rq') (g:W.grownBy W' (some (y.sm c s j))) (x:W'.heap[y.sm c s j]?=some (.cells (wu st' rq' (y.sb c s) j) 190)) :
  Hp B y d cf { h with st:=aJ h.st c s j st',rq:=aJ h.rq c s j rq' } W'/\Bi B W W':=by
 have l:=b.sm c s j i m u;have k:Ky (· = 190) W W':=Ky.grown l rfl g;have v:Below B W W':=(Jn B W).grown g b.bW (λr w=>by simp at w;have:=b.ap.bsm c s j i m u;omega);have z:W'.heap[y.M]?=W.heap[y.M]?:=g.block _ b.sp.lt.2 (λe=>by
  simp at e;obtain⟨a,⟨A,F,f,_⟩,_⟩:=b.sp.map;rw [e,l] at f;cases f)
 have G:W'.heap[y.R]?=W.heap[y.R]?:=by
  obtain⟨A,F,f⟩:=b.mp.typ;exact g.block _ (ah f) (λe=>by simp at e;rw [e,l] at f;cases f)
 refine⟨⟨b.ap,Jp b.bW v.size,b.box.ky k al,b.ds.belowB v b.ap.da,b.sp.ky k al z,b.pg.ky k al,b.bf,
 λc s i m=>k.cells _ _ _ _ (b.sl c s i m) al,λc s i m=>cZ (b.rw c s i m) k al,λa n o p q t=>?_,
 λc i=>(b.wt c i).ky k al al al,b.mp.same G,b.lo,λr w=>by obtain ⟨g,K,f,L⟩:=b.lb r w;exact⟨g,K,f,k.cells _ _ _ _ L al⟩,b.li,b.ro.ky k al,ai b.rl k al,b.rr,b.tb.belowB v b.ap.b0⟩,Bi.ofGrown l (.inr (.inr (.inr (.inr (.inl rfl))))) (b.ap.bsm c s j i m u) b.bW g⟩
 show W'.heap[y.sm a n o]?=some (.cells (wu (aJ h.st c s j st' a n o) (aJ h.rq c s j rq' a n o) (y.sb a n) o) 190);by_cases e:a=c/\n=s/\o=j;·obtain⟨rfl,rfl,rfl⟩:=e;rw [a_,a_];exact x
 rw [bo _ _ e,bo _ _ e];have f:=b.sm a n o p q t;rw [g.block _ (ah f) (λg=>by
  simp at g;exact e (b.ap.ism a n o c s j p q t i m u g))]
 exact f
theorem Hp.setSt1 (a:Hp B y d cf h W) (b:c<12) (e:s<6) (f:j<aU c) (st') :
  Hp B y d cf { h with st:=aJ h.st c s j st' } (W.setCell ⟨y.sm c s j,0,none⟩ (I st'))/\Bi B W (W.setCell ⟨y.sm c s j,0,none⟩ (I st')):=by
 have g:=a.sm c s j b e f;have:=a.setSlot b e f st' (h.rq c s j) (W':=W.setCell ⟨y.sm c s j,0,none⟩ (I st')) (au (ao W (y.sm c s j)) 0 _) (by simp [World.setCell,Jw,g,wu]);rw [iV h.rq rfl] at this;exact this
theorem Hp.setRec (a:Hp B y d cf h W) (b:c<12) (e:s<6) (f:j<aU c) (st' rq') :
  Hp B y d cf { h with st:=aJ h.st c s j st',rq:=aJ h.rq c s j rq' } (W.setCells (y.sm c s j) 0 [I st',I rq'])/\Bi B W (W.setCells (y.sm c s j) 0 [I st',I rq']):=by
 have g:=a.sm c s j b e f;refine a.setSlot b e f st' rq' ?_ ?_;·simp only [World.setCells];exact au (au (ao W (y.sm c s j)) 0 _) _ _
 simp [World.setCells,World.setCell,Jw,g,wu]
inductive TaR (B:Nat) (y:Ly) (cf:Cf) (an:Value) (lg:Nat->Option Nat):Option Nat×Hs->Ending->World->Prop
 | slot (c s j:Nat) (h1:Hs) (W':World) (hc:c<12) (hs:s<6) (hj:j<aU c) (hl:h1.st c s j=1) (hg:Hgl B y cf h1 an lg W'):TaR B y cf an lg (some (bF c s j),h1) (.returned (.iface 186 (J (y.sm c s j) 0))) W'
 | range (r:Rg9) (g:Nat) (d:Dy) (h1:Hs) (W':World) (hr:r∈h1.rg) (hl:r.st=1) (hd:d.lg r.base=some g) (hp:Hp B y d cf h1 W') (gd:Gd d h1 an) (kl:Kl lg d):TaR B y cf an lg (some r.base,h1) (.returned (.iface 196 (J g 0))) W'
 | no (h1:Hs) (W':World) (tk:Tk B y cf h1 an W'):TaR B y cf an lg (none,h1) (.panicked (iG 1)) W'
def DJ (B:Nat) (y:Ly) (cf:Cf) (an:Value) (lg:Nat->Option Nat) (W:World) (r:Option Nat×Hs) (e:Ending) (W':World):Prop:=TaR B y cf an lg r e W'/\Bi B W W'
theorem Gd.st {an} (g:Gd d h an) {a:Hs} (b:∀ k,(a.m k).isSome=(h.m k).isSome):Gd d a an:=⟨λc s e f=>by rw [g.on c s e f];exact (b _).symm,g.un,g.an⟩
theorem aY (t:TypeId) {o:Oper} {a:Act} {K:Act->World->Prop} {Q:Exit->Act->World->Prop} (s x:Operand) {v2 c:Value} (b:o.op=.call { callee:=.builtin .append,args:=#[s,x],argTypes:=#[t,t] }) (d:o.type=t) (e:a.eval s=v) (f:a.eval x=v2)
  (g:(Builtin.append_ #[t,t] t #[v,v2]).run prog W=.ok c W') (i:K (a.put o.dst c) W'):Oper.wp prog o a W K Q:=by
 unfold Oper.wp;simp [execOp,b,d,resolve,invoke,builtin,e,f,g,Result.andThen];exact i
theorem DX (W:World) (B:Nat) (l:List Nat) (a:Nat) (d:l.length<=a) (e:a<=maxLen) (f:B<=W.heap.size) :
  Um B (W.drew.alloc (.cells ((Us l).toArray++Builtin.zeroCells (Value.int .u64 0).cells (a-l.length)) 22)) (Vl W.heap.size l.length a) l:=by
 have g:=av W.drew (.cells ((Us l).toArray++Builtin.zeroCells (Value.int .u64 0).cells (a-l.length)) 22);have b:(Builtin.zeroCells (Value.int .u64 0).cells (a-l.length))=Array.replicate (a-l.length) (U 0):=by
  apply Array.ext';simp [Builtin.zeroCells,Value.cells,Nat.mod_one];rw [List.map_const',Kn]
 refine .inr ⟨W.heap.size,0,a,_,rfl,f,g,?_,d,e,?_,?_⟩;·simp [b,gt];omega
 ·intro u c;simp [b,Us] at c;rcases c with ⟨n,_,rfl⟩|⟨_,rfl⟩ <;> rfl
 intro i c;rw [JQ,Array.getElem?_append_left (by simp [gt];exact c)];simp [Us,c]
theorem Er (B W v l) (x:Nat) (g:Nat) (c) (r:Um B W v l) (R:W.cell? ⟨g,0,none⟩=some (U x)) (hl:l.length<=100000) (S:B<=W.heap.size) :
  ∃ f W',(Builtin.append_ #[33,33] 33 #[v,Vl g 1 c]).run prog W=.ok f W'/\Um B W' f (l++[x])/\W.grownBy W' (ew v)/\(ew f=ew v\/ew f=some W.heap.size)/\∃ a d,f=.slice a (l.length+1) d:=by
 obtain⟨s,t,z,n,A⟩:=zr jB;have w:=Src.ofSlice (P:=prog) W (size:=s.size) underlying33 ⟨g,0,none⟩ 1 c [U x] (by rw [n];rfl) (λj u p=>by
  cases j with
  | zero=>simp at p;subst p;rw [Addr.add_mid];exact R
  | succ j=>simp at p) (λu r=>by simp at r;subst r;rfl)
 have q:∀ (m:Option Addr) (d:Nat),(Builtin.firstCells s.size l.length (.slice m l.length d)).run prog W.drew=.ok (Us l).toArray W.drew->d<l.length+1->∀ y,
   ∃ f W',(Builtin.append_ #[33,33] 33 #[.slice m l.length d,Vl g 1 c]).run prog W=.ok f W'/\Um B W' f (l++[x])/\W.grownBy W' y/\(ew f=some W.heap.size)/\∃ a d,f=.slice a (l.length+1) d:=λm d a b y=>by
  have F:=run_append_grow_src (P:=prog) W 33 33 33 22 s (U 0) underlying33 t z m l.length d (Us l) a _ 1 _ w b Z (growslice_fits b (by rw [A];omega))
  refine⟨_,_,F,?_,?_,rfl,_,_,rfl⟩
  ·have:=DX W B (l++[x]) (grownCap W (l.length+1) d 22) (by rw [Jv];exact grownCap_ge _ _ _ _) (grownCap_le_maxLen _ _ _ _ (by unfold maxLen;omega)) S;rw [mg,Jv] at this;exact this
  exact⟨rfl,rfl,rfl,by rw [aA];exact Nat.le_succ _,λk e _=>dG W.drew _ k e⟩
 rcases r with ⟨rfl,rfl⟩|⟨b,o,d,T,rfl,V,k,X,h5,Y,h7,Q⟩;·obtain⟨f,W',G,K,L,M,N⟩:=q none 0 (run_firstCells_none W.drew s.size 0 0 0) bh none;exact⟨f,W',G,K,L,.inr M,N⟩
 have cl:∀ i,i<l.length->W.cell? ⟨b,o+i,none⟩=some (U ((l[i]?.getD 0:Nat):Int)):=λi O=>by rw [t6 _ _ _ _ _ _ k];exact Q i O
 by_cases a:l.length+1<=d
 ·have F:=run_append_room_src (P:=prog) W 33 33 33 22 s underlying33 t b o l.length d _ 1 _ w a (λj p=>by
   have:j=0:=by simpa using p
   subst this;rw [t6 _ _ _ _ _ _ k,n,IS Z];rfl) (λj p=>by simp [World.frozen?,k])
  refine⟨_,_,F,?_,?_,.inl rfl,_,_,rfl⟩
  ·have hb:(W.setCell ⟨b,o+l.length,none⟩ (U x)).heap[b]?=some (.cells (T.setIfInBounds (o+l.length) (U x)) 22):=(by simp [World.setCell,Jw,k]);rw [n,Nat.mul_one];refine .inr ⟨b,o,d,_,by rw [Jv];rfl,V,hb,by simpa using X,by rw [Jv];exact a,Y,?_,?_⟩
   ·intro u r;rw [Array.toList_setIfInBounds] at r;rcases List.mem_or_eq_of_mem_set r with h|rfl;·exact h7 u h
    rfl
   intro i O;rw [Jv,List.length_singleton] at O;rw [JC];by_cases e:o+l.length=o+i
   ·rw [tm e,tm Z];have:i=l.length:=Z;subst this;simp
   rw [tg e,Q i Z,Kh Z]
  rw [n,Nat.mul_one];exact au (ao W b) _ _
 obtain⟨f,W',G,K,L,M,N⟩:=q (some ⟨b,o,none⟩) d (by
  rw [n];exact run_firstCells_some W.drew 1 l.length ⟨b,o,none⟩ l.length d (Us l) (by rw [gt,Nat.mul_one]) (λj u p=>by
   rw [Addr.add_mid];have e:j<l.length:=by
    have:=(Jr.1 p).1;rw [gt] at this;exact this
   have:=cl j e;simp [Us,e] at p this;rw [<-p];exact this)) Z (some b)
 exact⟨f,W',G,K,L,.inr M,N⟩
theorem qA {g o n a:Nat} (k:Um B W (.slice (some ⟨g,o,none⟩) n a) l) (c:2<=l.length):n=l.length/\n<=a/\Um B W (.slice (some ⟨g,o+1,none⟩) (n-1) (a-1)) l.tail/\W.cell? ⟨g,o,none⟩=some (U ((l[0]?.getD 0:Nat):Int)):=by
 rcases k with ⟨e,rfl⟩|⟨b,s,d,m,e,c,f,t,p,u,q,j⟩;·simp at c
 simp at e;obtain⟨⟨rfl,rfl⟩,rfl,rfl⟩:=e;refine⟨rfl,p,.inr ⟨g,o+1,a-1,m,by rw [List.length_tail],c,f,Z,by rw [List.length_tail];omega,Z,q,λi r=>?_⟩,?_⟩;·rw [List.length_tail] at r;rw [show o+1+i=o+(i+1) by omega,j (i+1) Z];simp
 rw [t6 _ _ _ _ _ _ f];have:=j 0 Z;simpa using this
theorem Ao (c:Um B W v l) (d:1<=l.length):∃ g o a,v=.slice (some ⟨g,o,none⟩) l.length a/\l.length<=a:=by
 rcases c with ⟨e,rfl⟩|⟨b,f,a,i,e,j,k,m,g,_⟩;·simp at d
 exact⟨b,f,a,e,g⟩
theorem pR (c:Um B W v l):∃ a b,v=.slice a l.length b:=by
 rcases c with ⟨e,rfl⟩|⟨b,d,a,f,e,g,i,j,k,_⟩;·exact⟨none,0,e⟩
 exact⟨_,a,e⟩
theorem Hp.setRo {W1} (b:Hp B y d cf h W) {v' row'} (n:Um B W1 v' row') (g:W.grownBy W1 (ew d.ro)) (o:∀ g,ew v'=some g->d.rl.ownBlock≠some g) :
  Hp B y { d with ro:=v' } cf { h with row:=row' } (W1.setCell ⟨y.P,116,none⟩ v')/\Bi B W (W1.setCell ⟨y.P,116,none⟩ v')/\W1.cell? ⟨y.P,116,none⟩=some d.ro/\W1.frozen? ⟨y.P,116,none⟩=false:=by
 have f:=b.gw (λg a=>nS b.ro a) g;have k:=b.box.ky f.k al;have i:=k.set 116 Z v';rw [qi cf y d h.used 116 v' { d with ro:=v' } (.inl ⟨rfl,rfl⟩)] at i;have p:=mH b.rl g (λg a e=>b.rr g e a);have kS:=k.kyS 116 v';have m:Below B W1 (W1.setCell ⟨y.P,116,none⟩ v'):=(Jn B W1).grown (au (ao W1 y.P) _ _) (Jp b.bW f.bl.size) (λr a=>by simp at a;have:=b.ap.bP;omega);have q:(W1.setCell ⟨y.P,116,none⟩ v').heap[y.M]?=W1.heap[y.M]?:=t4 _ _ _ _ (λe=>by
  obtain⟨c,l,_⟩:=b.box;obtain⟨a,⟨s,u,j,_⟩,_⟩:=b.sp.map;rw [e,l] at j;cases j)
 have a:(W1.setCell ⟨y.P,116,none⟩ v').heap[y.R]?=W1.heap[y.R]?:=t4 _ _ _ _ (λe=>by
  obtain⟨c,l,_⟩:=b.box;obtain⟨s,u,j⟩:=b.mp.typ;rw [e,l] at j;cases j)
 exact⟨b.rows ((f.k.more (λt e=>.inl e)).trans (kS.more (λt e=>.inr e))) (f.bl.trans m) (q.trans f.m) (a.trans f.r) v' d.rl row' h.rel i (n.ky kS al) (ai p kS al) o,f.bi.trans ⟨m,kS.more (λt e=>by subst e;unfold hI;decide)⟩,k.cell 116 Z,k.free 116⟩
def ip (rg:List Rg9) (b:Nat) (st rq:Int):List Rg9:=rg.map λx=>if x.base=b then { x with st:=st,rq:=rq } else x
theorem ki (b:Nat) (a c:Int) (x:Rg9):(if x.base=b then { x with st:=a,rq:=c } else x:Rg9).base=x.base:=by split <;> rfl
theorem Hp.setLg (b:Hp B y d cf h W) (t:r∈h.rg) (O:∀ x∈h.rg,x.base=r.base->x=r) {L:Nat} (u:d.lg r.base=some L) (j l:Int) (g:W.grownBy W' (some L)) (P:W'.heap[L]?=some (.cells (qk { r with st:=j,rq:=l }) 209)) :
  Hp B y d cf { h with rg:=ip h.rg r.base j l } W'/\Bi B W W':=by
 obtain⟨L',M,v,f⟩:=b.lb r t;rw [u] at M;cases M;have k:Ky (· = 209) W W':=Ky.grown f rfl g;have p:Below B W W':=(Jn B W).grown g b.bW (λr t=>by simp at t;omega);have Q:W'.heap[y.M]?=W.heap[y.M]?:=g.block _ b.sp.lt.2 (λe=>by
  simp at e;obtain⟨a,⟨R,S,i,_⟩,_⟩:=b.sp.map;rw [e,f] at i;cases i)
 have T:W'.heap[y.R]?=W.heap[y.R]?:=by
  obtain⟨R,S,i⟩:=b.mp.typ;exact g.block _ (ah i) (λe=>by simp at e;rw [e,f] at i;cases i)
 have a:(ip h.rg r.base j l).length=h.rg.length:=by simp [ip]
 have m:=b.mp.same T;rw [<-a] at m;refine⟨⟨b.ap,Jp b.bW p.size,b.box.ky k al,b.ds.belowB p b.ap.da,b.sp.ky k al Q,b.pg.ky k al,b.bf,
 λc s n w=>k.cells _ _ _ _ (b.sl c s n w) al,λc s n w=>cZ (b.rw c s n w) k al,λV X Y z A F=>k.cells _ _ _ _ (b.sm V X Y z A F) al,
 λc n=>(b.wt c n).ky k al al al,m,λq=>?_,λx hx=>?_,b.li,b.ro.ky k al,ai b.rl k al,b.rr,b.tb.belowB p b.ap.b0⟩,p,k.more (λt e=>by subst e;unfold hI;decide)⟩
 ·show (d.lg q).isSome=(ip h.rg r.base j l).any λr=>r.base==q
  rw [b.lo q];unfold ip;rw [List.any_map];congr 1;funext x;show _=((if x.base=r.base then { x with st:=j,rq:=l } else x:Rg9).base==q);rw [ki]
 obtain⟨G,o,rfl⟩:=JE.1 hx;rw [ki];by_cases e:G.base=r.base;·have:=O G o e;subst this;rw [tm rfl];exact⟨L,u,v,P⟩
 rw [tg e];obtain⟨g',K,a2,N⟩:=b.lb G o;refine⟨g',K,a2,?_⟩;rw [g.block _ (ah N) (λa=>by simp at a;rw [a] at K;exact e (b.li _ _ _ K u))];exact N
theorem Hp.cutR (j:Hp B y d cf h W) (b:Nat) (t:(d.lg b).isSome=true) (o:∃ r∈h.rg,r.base=b) (p:Mr y.R (h.rg.length-1) (upd d.lg b none) W') (s:W.mapTurned W' y.R) (c:h.rg.length-1<=(h.rg.filter λx=>x.base≠b).length) :
  Hp B y { d with lg:=upd d.lg b none } cf { h with rg:=h.rg.filter λx=>x.base≠b } W'/\Bi B W W':=by
 refine j.turn s _ (h.rg.filter λx=>x.base≠b) ?_ (λk=>?_) (λm l=>?_) (λk n g f i=>?_);·obtain⟨a,f,i,e⟩:=p.map;exact⟨a,f,Jp i c,e⟩
 ·by_cases e:k=b;·subst e;rw [upd_same];simp
  rw [aL _ _ _ _ e,j.lo k,List.any_filter];congr 1;funext x;by_cases a:x.base=k
  ·have:x.base≠b:=λq=>e (a.symm.trans q)
   simp [a,e]
  simp [a]
 ·obtain⟨f,i⟩:=J8.1 l;have a:m.base≠b:=by simpa using i
  rw [aL _ _ _ _ a];exact j.lb m f
 have q:∀ k,upd d.lg b none k=some g->d.lg k=some g:=λk a=>by
  by_cases e:k=b;·subst e;rw [upd_same] at a;cases a
  rw [aL _ _ _ _ e] at a;exact a
 exact j.li k n g (q k f) (q n i)
theorem xd (W:World) (B:Nat) (v:Value) (l:List Nat) (x:Nat) (g c:Nat) (b:W.ownsRow B 22 1 v l.length (Us l)) (m:W.cell? ⟨g,0,none⟩=some (U x)) (t:l.length<=100000) (n:B<=W.heap.size) :
  ∃ a d,(Builtin.append_ #[33,33] 33 #[v,Vl g 1 c]).run prog W=.ok a d/\d.ownsRow B 22 1 a (l++[x]).length (Us (l++[x]))/\W.grownBy d v.ownBlock/\(a.ownBlock=v.ownBlock\/a.ownBlock=some W.heap.size):=by
 obtain⟨o,e,f,i,k⟩:=zr jB;obtain⟨a,d,p,q,r,_,s⟩:=run_append_own_at (P:=prog) W B 33 33 22 o _ 1 8 underlying33 e f i k rfl Z v _ _ b ⟨g,0,none⟩ 1 c [U x] rfl (λj u b=>by
  cases j with
  | zero=>simp at b;subst b;rw [Addr.add_mid];exact m
  | succ j=>simp at b) (λu b=>by simp at b;subst b;rfl) (by unfold maxLen;omega) Z n
 exact⟨a,d,p,by rw [Jv,mg];exact q,r,s⟩
theorem Ck {c:List Rg9} (d:c.Pairwise λa b=>a.first+a.ext<=b.first\/b.first+b.ext<=a.first) (b:Nat):c.length-1<=(c.filter λx=>x.base≠b).length:=by
 induction c with
 | nil=>simp
 | cons r l f =>
  obtain⟨g,i⟩:=List.pairwise_cons.1 d;by_cases e:r.base=b
  ·have:(l.filter λx=>x.base≠b)=l:=by
    rw [KE];intro x j;have:=g x j;have m:x.ext=x.guards+x.pages+1:=rfl;have n:r.ext=r.guards+r.pages+1:=rfl;have a:x.base≠b:=λk=>by
     have o:(r.first+r.guards)*1024=(x.first+x.guards)*1024:=e.trans k.symm;omega
    simpa using a
   rw [K_ (by simp [e]),this];simp
  rw [GO (by simp [e])];have:=f i;simp only [JD];omega
end
section
open Go.RowKit
structure SrtI (l m:List Nat) (i j:Nat):Prop where
 perm:m.Perm l
 low:∀ a b x y:Nat,a<i->a<b->m[a]?=some x->m[b]?=some y->x<=y
 here:∀ b x y:Nat,i<b->b<j->m[i]?=some x->m[b]?=some y->x<=y
theorem SrtI.start (l):SrtI l l 0 1:=⟨List.Perm.refl _,λa b x y h=>Z,λb x y c d=>Z⟩
theorem SrtI.next (h:SrtI l m i j) (g:m.length<=j):SrtI l m (i+1) (i+2):=by
 refine⟨h.perm,λa b x y f c ha d=>?_,λb x y f c=>Z⟩;by_cases e:a<i;·exact h.low a b x y e c ha d
 obtain rfl:a=i:=Z;have:=(Jr.1 d).1;exact h.here b x y c Z ha d
theorem SrtI.keep {y:Nat} (h:SrtI l m i j) (d:m[i]?=some x) (f:m[j]?=some y) (g:x<=y):SrtI l m i (j+1):=by
 refine⟨h.perm,h.low,λb u v k n a c=>?_⟩;by_cases e:b<j;·exact h.here b u v k e a c
 obtain rfl:b=j:=Z;rw [d] at a;rw [f] at c;injection a with a;injection c with c;omega
theorem SrtI.swap {y:Nat} (h:SrtI l m i j) (q:i<j) (g:m[i]?=some x) (k:m[j]?=some y) (r:y<x):SrtI l ((m.set i y).set j x) i (j+1):=by
 obtain⟨n,s⟩:=Jr.1 g;obtain⟨o,t⟩:=Jr.1 k;have d:∀ b,((m.set i y).set j x)[b]?=if b=j then some x else if b=i then some y else m[b]?:=λb=>by
  rw [J5,J5];by_cases a:b=j;·subst a;simp [o]
  rw [tg (λe=>a e.symm),tg a];by_cases c:b=i;·subst c;simp [n]
  rw [tg (λe=>c e.symm),tg c]
 refine⟨?_,λa b u v f p e c=>?_,λb u v f p e c=>?_⟩;·refine List.Perm.trans ?_ h.perm;have:=List.set_set_perm n o;rw [s,t] at this;exact this
 ·rw [d,tg Z,tg Z] at e;rw [d] at c;split at c;·injection c with c;subst c;exact h.low a i _ _ f f e g
  split at c;·injection c with c;subst c;exact h.low a j _ _ f Z e k
  exact h.low a b _ _ f p e c
 rw [d,tg Z,tm rfl] at e;injection e with e;rw [d] at c;split at c;·injection c with c;omega
 rw [tg Z] at c;have:=h.here b x v f Z g c;omega
theorem SrtI.done (h:SrtI l m i j) (e:m.length<=i):m.Pairwise (· <= ·):=by
 rw [Lq];intro a b ha d c;exact h.low a b _ _ Z c (Jq ha) (Jq d)
theorem Cn (W:World) (a:Option Addr) (c:Nat):(Builtin.append_ #[33,33] 33 #[C,.slice a 0 c]).run prog W=.ok (C) W:=by
 obtain⟨g,b,d,e,f⟩:=zr jB;cases a <;> simp [Builtin.append_,run_underlying underlying33,sizeOf,typeInfo,b,Builtin.lenOf,Builtin.firstCells,loadCells,loadCellsFrom]
theorem vi (W:World) (B:Nat) (a:Option Addr) (c:Nat) (l:List Nat) (e:W.ownsRow B 22 1 (.slice a l.length c) l.length (Us l)) (m:l.length<=90000) :
  ∃ d b,(Builtin.append_ #[33,33] 33 #[C,.slice a l.length c]).run prog W=.ok d b/\b.ownsRow W.heap.size 22 1 d l.length (Us l)/\D W b:=by
 by_cases f:l.length=0;·obtain rfl:=List.length_eq_zero_iff.1 f;exact⟨_,_,Cn W a c,⟨rfl,.inl ⟨rfl,rfl⟩⟩,Jn _ _⟩
 obtain⟨G,rfl⟩:=cw e Z;obtain⟨d,b,g,i,k⟩:=kg W W.heap.size (C) [] l ⟨G,0,none⟩ c ⟨rfl,.inl ⟨rfl,rfl⟩⟩ (λj u a=>by
  rw [Addr.add_mid,JQ];exact be e j u a) cd (Jo _)
 exact⟨d,b,g,i,(Jn _ W).grown k (Jo _) (λP a=>by simp [Value.ownBlock] at a)⟩
theorem qh {e:TypeId} {sz:Nat} {G n cap} {b:List Value} (h:W.ownsRow B e sz (Vl G n cap) n b) (i:Nat):W.frozen? ⟨G,i,none⟩=false:=by
 rcases h.2 with ⟨e,_⟩|⟨g,a,c,e,f,d,j,k,l,m⟩;·simp at e
 simp at e;obtain⟨rfl,rfl⟩:=e;simp [World.frozen?,d]
theorem oP (h:l[i]?=some x):(Us l)[i]?=some (U x):=by simp [Us,h]
theorem tZ (l) (i x:Nat):(Us l).set i (U x)=Us (l.set i x):=by simp [Us,List.map_set]
theorem vv (W:World) (B:Nat) (v:Value) (l:List Nat) (d:W.ownsRow B 22 1 v l.length (Us l)) (z:l.length<=90000) :
  Calls prog 44 #[v] W λe W'=>∃ (m:List Nat) (a:Value),e=.returned a/\m.Perm l/\m.Pairwise (· <= ·)/\W'.ownsRow W.heap.size 22 1 a m.length (Us m)/\D W W':=by
 obtain⟨a,c,rfl⟩:=aG d;obtain⟨Y,w1,u,b,g⟩:=vi W B a c l d z;obtain⟨O,A,rfl⟩:=aG b;obtain⟨N,f⟩:∃ N,l.length=N:=⟨_,rfl⟩;rw [f] at u b z ⊢;have P:=H f;have F:=H b;have K:=H g;clear d b g f;go_enter func44,ntmps44;go_wp2_with (at_builtin;refine dh rfl (.const (C)) (.tmp 8) (by with_reducible rfl) rfl rfl rfl u ?_);go_loopw [12] (λi q=>∃ k:Nat,k<=N/\i=I k/\∃ m:List Nat,Hid (m.length=N)/\Hid (SrtI l m k (k+1))/\Hid (q.ownsRow W.heap.size 22 1 (.slice O N A) N (Us m))/\Hid (D W q)) (λi _=>N-(intOf i).toNat);case atStart=>exact ⟨0,Jt _,rfl,l,P,H (SrtI.start l),F,K⟩
 case round =>
  clear F K u;obtain⟨k,hk,rfl,m,b,f,d,n⟩:=hrel;by_cases r:k<N
  ·obtain⟨G,rfl⟩:=cw d Z;go_wp2;go_loopw [5] (λi q=>∃ j:Nat,k+1<=j/\j<=N/\i=I j/\∃ m:List Nat,Hid (m.length=N)/\Hid (SrtI l m k j)/\Hid (q.ownsRow W.heap.size 22 1 (Vl G N A) N (Us m))/\Hid (D W q)) (λi _=>N-(intOf i).toNat);(case atStart=>exact ⟨k+1,Jo _,Z,aR,m,b,f,d,n⟩);case round =>
    clear b f d n;obtain⟨j,Q,hj,rfl,m,b,f,d,n⟩:=hrel;by_cases s:j<N
    ·obtain⟨x,t⟩:∃ x,m[k]?=some x:=⟨_,Jq (by rw [b.out];exact r)⟩;obtain⟨y,p⟩:∃ y,m[j]?=some y:=⟨_,Jq (by rw [b.out];exact s)⟩;have ck:=be d k _ (oP t);have cj:=be d j _ (oP p);by_cases w:y<x
     ·have S1:=H (f.swap Z t p w);have g:=dZ d k (by rw [gt,b.out];exact r) (U y);have o:=dZ g j (by rw [JU,gt,b.out];exact s) (U x);rw [tZ,tZ] at o;have R:=be g j (U y) (by rw [J5,tg Z];exact oP p);have L:W.heap.size<=G:=(aD d rfl).1;have S:=H o;have T:(y:Int)<(x:Int):=Z;have fk:=qh d k;have fj:=qh g j;have V:=qh d j;have X:¬(k=j):=Z;have M:¬(j=k):=Z;clear t p f g o;go_wp2;go_region;go_wp2;go_region;go_wp2;go_roundw;(case rel=>exact ⟨j+1,Z,Z,aR,_,H (by rw [JU,JU];exact b),S1,H S,H ((n.setCell L _).setCell L _).drew.drew⟩);case measure=>(simp [intOf];try omega)
     have S1:=H (f.keep t p Z);have T:¬((y:Int)<(x:Int)):=Z;clear t p f;go_wp2;go_region;go_wp2;go_roundw;(case rel=>exact ⟨j+1,Z,Z,aR,m,b,S1,H d,H n.drew⟩);case measure=>(simp [intOf];try omega)
    obtain rfl:j=N:=Z;have S1:=H (f.next (by rw [b.out];exact Jo _));clear f;go_wp2;go_roundw;(case rel=>exact ⟨k+1,Z,aR,m,b,S1,d,n⟩);case measure=>(simp [intOf];try omega)
  obtain rfl:k=N:=Z;go_wp2;go_ret;exact⟨m,_,rfl,f.perm,f.done (by rw [b.out];exact Jo _),by rw [b.out];exact d,n⟩
end
end Go.Proofs.YtdfodlhkdmkfdaaGreatDoor
