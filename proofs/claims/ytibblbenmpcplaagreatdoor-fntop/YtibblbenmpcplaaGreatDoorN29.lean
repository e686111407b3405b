import Derived.Test.YtibblbenmpcplaaGreatDoorN25
import Derived.Test.YtibblbenmpcplaaGreatDoorN27
set_option linter.unusedVariables false
set_option linter.unusedSimpArgs false
set_option maxRecDepth 20000
set_option maxHeartbeats 8000000
namespace Go.Proofs.YtibblbenmpcplaaGreatDoor
open Go.Proofs.Tryz
variable {cf:Cf} {h:Hs} {r:Rg9} {T p:Nat} {W:World} {tk:Nat->Bool} {rg:List Rg9}
section
open Go.RowKit Go.Maps
inductive AG (y:Ly) (d:Dy):Fd->Ending->Prop
 | slot (c s j:Nat):AG y d (.slot c s j) (.returned (.iface 158 (J (y.sm c s j) 0)))
 | range (r:Rg9) (g:Nat) (h:d.lg r.base=some g):AG y d (.range r) (.returned (.iface 168 (J g 0)))
 | no (code:Int):AG y d (.no code) (.panicked (ip code))
theorem Inv.baseP (i:Inv cf h) (a:r∈h.rg):191488<=r.base/\r.base<289792/\r.base/1024=r.first+r.guards/\r.base%1024=0:=by
 obtain⟨c,b,d,e,f,_⟩:=i.rgs r a;unfold Rg9.ext at b;unfold Rg9.base;omega
theorem sy {c s j:Nat} (h:ce p=some (c,s,j)):p<191488:=by
 obtain⟨a,b,d,e⟩:=gB h;have:=ca a b d;omega
theorem lG (h:191488<=p):ce p=none:=by
 cases e:ce p with
 | none=>rfl
 | some t=>obtain ⟨c,s,j⟩:=t;have:=sy e;omega
theorem Inv.relP (i:Inv cf h) (b:p∈h.rel):aB h p=.no 4:=by
 obtain⟨k,l,m,d⟩:=i.rel p b;unfold aB;rw [lG Z];dsimp only;cases e:h.rg.find? λr=>r.base==p with
 | some r =>
  exfalso;have a:=Ip e;have c:=List.find?_some e;simp at c;have f:=i.baseP a;have g:=d r a;obtain⟨n,o,q,s,j,_⟩:=i.rgs r a;unfold Rg9.ext at g;rw [c] at f;omega
 | none =>
  dsimp only;rw [GP (List.contains_iff_mem.2 b)]
theorem Hp.lcAt {B y d} (c:Hp B y d cf h W) (i:Inv cf h) (b:r∈h.rg):∃ g,d.lg r.base=some g/\Lc g r W:=by
 obtain⟨g,e,k,a⟩:=c.lb r b;obtain⟨l,f,m,n,j,_⟩:=i.rgs r b;unfold Rg9.ext at f;exact⟨g,e,bJ a,bJ a,bJ a,bJ a,bJ a,Z,Z,Z⟩
theorem nJ (B y d cf h) (p:Nat) (W) (m:Hp B y d cf h W) (i:Inv cf h) (O:p<18446744073709551616) (P:h.rel.length<=100000) :
  Calls prog 45 #[J y.P 0,U p] W λe W'=>AG y d (aB h p) e/\D W W':=by
 obtain⟨va,vn,vc,a⟩:=aA m.rl;have n:W.cell? ⟨y.P,117,none⟩=some (.slice va vn vc):=by rw [<-a];exact m.cell 117 Z _ rfl
 have u:=H (qw B va vn vc p h.rel W (by rw [<-a];exact m.rl) P);have v:=H (DI B y d cf h p W m O);have L:=H fx;have o:=H (λV (M:D W V)=>m.below M);have A:=H (m.lo p);clear a;by_cases K:p∈h.rel;·have a:=H (i.relP K);rw [List.contains_iff_mem.2 K] at u;clear m K v o A i;go_enter func45,ntmps45;go_wp2_with fail;refine (u).mono ?_;rintro e Q ⟨rfl,rfl⟩;clear u;go_wp2;rw [a.out];exact⟨rfl,.no 4,Fu _ _⟩
 have t:h.rel.contains p=false:=by
  cases R:h.rel.contains p with
  | false=>rfl
  | true=>exact absurd (List.contains_iff_mem.1 R) K
 rw [t] at u;cases x:d.lg p with
 | some g =>
  rw [x] at A;have f:h.rg.any (λr=>r.base==p)=true:=A.symm;obtain⟨r,b⟩:∃ r,h.rg.find? (λr=>r.base==p)=some r:=by
   cases e:h.rg.find? λr=>r.base==p with
   | some r=>exact ⟨r,rfl⟩
   | none =>
    exfalso;obtain⟨r,S,T⟩:=List.any_eq_true.1 f;exact List.find?_eq_none.1 e r S T
  have a:=Ip b;have c:=List.find?_some b;simp at c;have l:=i.baseP a;obtain⟨g',j,s⟩:=m.lcAt i a;rw [c,x] at j;cases j;have q:=(i.rgs r a).2.2.2.2.2;have F:=H (show ym y d p=.iface 168 (J g 0) by unfold ym;rw [x]);rw [F.out] at v;have X:=H (λV (M:D W V)=>(s.below M).c0);have mk:=λw=>yQ g w
  have k:=H (show aB h p=if r.st=1 then .range r else .no 4 by unfold aB;rw [lG Z];dsimp only;rw [b]);have N:=H (show d.lg r.base=some g by rw [c];exact x);clear m K o A s b a l f t x c i;go_enter func45,ntmps45;go_wp2_with fail;refine (u).mono ?_;rintro e Q ⟨rfl,rfl⟩;clear u;go_wp2_with fail;refine (v).mono ?_;rintro e V ⟨rfl,z⟩;have G:=H z;have Y:=X.out V z;clear z v F n;go_wp2_with fail;refine (L _ _).mono ?_;rintro e V2 ⟨rfl,rfl⟩;rcases q with ⟨l,_⟩|⟨l,_⟩;·have a:=H (show aB h p=.range r by rw [k.out,GP l]);rw [l] at Y;clear k l;go_wp2_with fail;refine (L _ _).mono ?_;rintro e V3 ⟨rfl,rfl⟩;go_wp2;go_ret;rw [a.out];exact⟨.range r g N,G⟩
  have a:=H (show aB h p=.no 4 by rw [k.out,GO Z]);rw [l] at Y;clear k l;go_wp2_with fail;refine (L _ _).mono ?_;rintro e V3 ⟨rfl,rfl⟩;go_wp2;rw [a.out];exact⟨rfl,.no 4,G⟩
 | none =>
  rw [x] at A;have b:h.rg.find? (λr=>r.base==p)=none:=by
   refine List.find?_eq_none.2 (λr S T=>?_);have:h.rg.any (λr=>r.base==p)=true:=List.any_eq_true.2 ⟨r,S,T⟩;rw [<-A.out] at this;cases this
  cases f:ce p with
  | none =>
   have F:=H (show ym y d p=.nilIface by unfold ym;rw [x,f]);rw [F.out] at v;have k:=H (show aB h p=.no 3 by unfold aB;rw [f];dsimp only;rw [b];dsimp only;rw [t];rfl);clear m K o A b t x f i;go_enter func45,ntmps45;go_wp2_with fail;refine (u).mono ?_;rintro e Q ⟨rfl,rfl⟩;clear u;go_wp2_with fail;refine (v).mono ?_;rintro e V ⟨rfl,z⟩;have G:=H z;clear z v F n;go_wp2;rw [k.out];exact⟨rfl,.no 3,G⟩
  | some q =>
   obtain⟨c,s,j⟩:=q;obtain⟨R,hs,hj,g⟩:=gB f;have F:=H (show ym y d p=.iface 158 (J (y.sm c s j) 0) by unfold ym;rw [x,f]);rw [F.out] at v;have X:=H (λV (M:D W V)=>((o V M).smAt c s j R hs hj).1);have k:=H (show aB h p=if h.st c s j=1 then .slot c s j else if h.st c s j=0 then .no 3 else .no 4 by unfold aB;rw [f]);have LS:=H (AG.slot (y:=y) (d:=d) c s j);have mk:=λw=>zQ (y.sm c s j) w
   clear m K o A b t x f g i;generalize y.sm c s j=gm at *;generalize h.st c s j=N at *;go_enter func45,ntmps45;go_wp2_with fail;refine (u).mono ?_;rintro e Q ⟨rfl,rfl⟩;clear u;go_wp2_with fail;refine (v).mono ?_;rintro e V ⟨rfl,z⟩;have G:=H z;have Y:=X.out V z;clear z v F n;go_wp2_with fail;refine (L _ _).mono ?_;rintro e V2 ⟨rfl,rfl⟩;by_cases g:N=0;·have a:=H (show aB h p=.no 3 by rw [k.out,GO Z,GP g]);subst g;clear k;go_wp2;rw [a.out];exact⟨rfl,.no 3,G⟩
   have a0:(N==0)=false:=(by simpa using g);by_cases l:N=1;·have a:=H (show aB h p=.slot c s j by rw [k.out,GP l]);subst l;clear k g a0;go_wp2_with fail;refine (L _ _).mono ?_;rintro e V3 ⟨rfl,rfl⟩;go_wp2;go_ret;rw [a.out];exact⟨LS,G⟩
   have a:=H (show aB h p=.no 4 by rw [k.out,GO l,GO g]);have a1:(N != 1)=true:=(by simpa using l);clear k g l;go_wp2_with fail;refine (L _ _).mono ?_;rintro e V3 ⟨rfl,rfl⟩;go_wp2;rw [a.out];exact⟨rfl,.no 4,G⟩
def Ta (T:Nat) (tk:Nat->Bool) (W:World):Prop:=∃ c,W.heap[T]?=some (.cells c 241)/\c.size=96/\∀ q,q<96->c[q]?=some (.bool (tk q))
theorem Ta.cell {T tk W} (h:Ta T tk W) (q:Nat) (b:q<96):W.cell? ⟨T,q,none⟩=some (.bool (tk q))/\W.frozen? ⟨T,q,none⟩=false:=by
 obtain⟨c,a,e,d⟩:=h;exact⟨by rw [GT _ _ _ _ _ _ a];exact d q b,by simp [World.frozen?,a]⟩
theorem Ta.lt (h:Ta T tk W):T<W.heap.size:=by
 obtain⟨c,a,_⟩:=h;exact ag a
theorem Ta.same {W':World} (h:Ta T tk W) (e:W'.heap[T]?=W.heap[T]?):Ta T tk W':=by
 obtain⟨c,a,b⟩:=h;exact⟨c,e.trans a,b⟩
theorem Ta.eq {tk':Nat->Bool} (h:Ta T tk W) (e:∀ q,q<96->tk' q=tk q):Ta T tk' W:=by
 obtain⟨c,b,d,f⟩:=h;exact⟨c,b,d,λq a=>by rw [e q a];exact f q a⟩
theorem Ta.set (h:Ta T tk W) (k:Nat) (b:k<96):Ta T (λq=>tk q || decide (q=k)) (W.setCell ⟨T,k,none⟩ (.bool true)):=by
 obtain⟨c,d,a,f⟩:=h;refine⟨c.setIfInBounds k (.bool true),by simp [World.setCell,FD,d],by simpa using a,λq g=>?_⟩;rw [FK];by_cases e:k=q;·subst e;simp [a,b]
 rw [GO e,f q g];have:decide (q=k)=false:=bG;dsimp only;rw [this,Bool.or_false]
theorem hJ {W'} (h:D W W'):W.grownBy W' none:=⟨h.os,h.tape,h.output,h.size,λk a _=>h.block k a⟩
def rt (c:Option Nat):Value:=.pointer (c.map λb=>⟨b,0,none⟩)
theorem tS:Tryz.zeroCells241=Array.replicate 96 (.bool false):=E
def eX (rg:List Rg9) (left:Lit->Bool):List Rg9:=rg.filter λr => !left (.int .u64 (r.base:Nat))
theorem vP {left:Lit->Bool} (h:∀ r∈rg,left (.int .u64 (r.base:Nat))=true) (q):gY (eX rg left) q=false:=by
 have:eX rg left=[]:=by
  unfold eX;rw [IC];intro r a;rw [h r a];simp
 rw [this];rfl
theorem qn {left:Lit->Bool} (h:∀ a,left a=false):eX rg left=rg:=by
 unfold eX;rw [Il];intro r a;rw [h];rfl
theorem vE {left:Lit->Bool} (d:r∈rg) (c:∀ a∈rg,a.base=r.base->a=r) (q):gY (eX rg (λz=>left z && !z.sameKey (.int .u64 (r.base:Nat)))) q=(gY (eX rg left) q || (decide (r.first<=187+q)&&decide (187+q<r.first+r.ext))):=by
 unfold gY eX;rw [List.any_filter,List.any_filter];cases e:(decide (r.first<=187+q)&&decide (187+q<r.first+r.ext)) with
 | true =>
  rw [Bool.or_true,List.any_eq_true];refine⟨r,d,?_⟩;rw [e];simp [Lit.sameKey]
 | false =>
  rw [Bool.or_false];rw [Bool.eq_iff_iff,List.any_eq_true,List.any_eq_true];constructor
  ·rintro⟨x,hx,hc⟩;refine⟨x,hx,?_⟩;by_cases b:x.base=r.base;·have:=c x hx b;subst this;rw [e] at hc;simp at hc
   have a:(Lit.int .u64 (x.base:Nat)).sameKey (.int .u64 (r.base:Nat))=false:=by
    simp [Lit.sameKey];omega
   dsimp only at hc;rw [a] at hc;simpa using hc
  rintro⟨x,hx,hc⟩;refine⟨x,hx,?_⟩;by_cases b:x.base=r.base;·have:=c x hx b;subst this;rw [e] at hc;simp at hc
  have a:(Lit.int .u64 (x.base:Nat)).sameKey (.int .u64 (r.base:Nat))=false:=by
   simp [Lit.sameKey];omega
  dsimp only;rw [a];simpa using hc
theorem Inv.uniq (i:Inv cf h) {f:Rg9} (k:r∈h.rg) (c:f∈h.rg) (e:f.base=r.base):f=r:=by
 have s:=i.baseP k;have n:=i.baseP c;have p:=i.rgs r k;have q:=i.rgs f c;obtain⟨a,ha⟩:=He k;obtain⟨b,l⟩:=He c;have g:=Fz.1 ha;have j:=Fz.1 l;have o:=II.1 i.apart;unfold Rg9.ext at p q;rcases Ie a b with d|m|d;·have:=o a b g.1 j.1 d;rw [g.2,j.2] at this;unfold Rg9.ext at this;rw [e] at n;omega
 ·subst m;rw [ha] at l;exact (GB l).symm
 have:=o b a j.1 g.1 d;rw [g.2,j.2] at this;unfold Rg9.ext at this;rw [e] at n;omega
inductive DY (W:World):Option Nat->Ending->World->Prop
 | yes (s:Nat) (W':World) (b:D W W'):DY W (some s) (.returned (I s)) W'
 | no (W':World) (b:D W W'):DY W none (.panicked (ip 1)) W'
theorem zx (B y d cf h) (n:Nat) (W) (a:Hp B y d cf h W) (i:Inv cf h) (hn:1<=n) (b7:n<=18014398509482000) :
  Calls prog 119 #[.pointer (some ⟨y.P,0,none⟩),.int .i64 (n:Nat)] W (DY W (dV h n)):=by
 have K:=H (λV (o:D W V)=>a.below o);have HI:=H i;have LS:=H (λV (o:D W V)=>iI V (a.below o).tb);clear a i;go_enter func119,ntmps119;go_upto_region 2 with fail
 have m:D W (W.alloc (.cells Tryz.zeroCells241 241)):=(Fu _ _).alloc (Fv _) _;have j:Ta W.heap.size (λ_=>false) (W.alloc (.cells Tryz.zeroCells241 241)):=⟨_,ao W _,by rw [tS];simp,λq hq=>by rw [tS];simp [hq]⟩;have b:=K.out _ m;obtain⟨a,e,b8,k,f⟩:=b.mp.map;have l:=b.cell 115 Z (.map (some y.R)) rfl;have g:=H (show y.R<(W.alloc (.cells Tryz.zeroCells241 241)).heap.size by obtain ⟨es,c,hR⟩:=b.mp.typ;exact ag hR);have b3:=H (show y.R<W.heap.size by obtain ⟨es,c,hR⟩:=(K W (Fu _ _)).mp.typ;exact ag hR);generalize W.alloc _=V at *;obtain⟨T,hT⟩:∃ T,T=W.heap.size:=⟨_,rfl⟩;rw [<-hT] at j ⊢;have HT:=H hT;clear hT;have HD:=H (IT k f);have c0:=H b.lb;have a0:=H b.lo;have BT:=H m;clear b k f m;go_wp2_with (at_range;refine wpList_range_own _ rfl _ 69 rfl 23 168 fa underlying69 ev y.R 4096 a rfl e ?_;intro w0 b f k)
 go_frame
 obtain⟨r,F⟩:∃ r,r=V.heap.size:=⟨_,rfl⟩;have m:D V w0:=(Fu V.heap.size V).grown f (Fv _) bH;have p:=H (j.same (m.block _ j.lt));have B0:=H (BT.trans (m.mono BT.size));have a1:=H (show T<r by rw [F];exact j.lt);have b4:=H (show W.heap.size<=r by rw [F];exact BT.size);have c1:=H (show y.R<r by rw [F];exact g);rw [<-F] at b ⊢;have a2:=H b;have a3:=H (p.eq (tk':=gY (eX h.rg (has a))) (λq hq=>vP (λr F=>by
  have h1:=HI.baseP F;rw [HD.2 r.base Z,a0.out r.base];exact List.any_eq_true.2 ⟨r,F,bH⟩) q))
 clear b f k e j p m F l g;go_loopw [7] (λ_ wr=>∃ (left:Lit->Bool) (O:Nat),Hid (wr.ranges prog 23 ev y.R r 4096 a left O)/\Hid (Ta T (gY (eX h.rg left)) wr)/\Hid (D W wr)) (λ_ wr=>wr.rangeLeft y.R r);case atStart=>exact ⟨_,_,a2,a3,B0⟩
 case round =>
  obtain⟨left,O,G,p,l⟩:=hrel;clear a2 a3 B0;go_wp2_with (at_next;refine wpList_next_ranges _ rfl _ rfl 23 fa ev (Value.int .u64) rt (λb kl hk=>by obtain ⟨x,rfl,_⟩:=Maps.keyOf_int_inv underlying23 hk;exact⟨x,rfl⟩) (λv y P=>by exact (hF P).elim (λ⟨b,e,_⟩=>⟨some b,e⟩) (λ⟨e,_⟩=>⟨none,e⟩)) y.R r 4096 a left O rfl G ?_ ?_)
  ·intro g f;have s:=H (show Ta T (gY h.rg) wr by have:=p.out;rw [qn f] at this;exact this);clear p G g f HD;have z:=H (show ∀ r∈h.rg,187<=r.first/\1<=r.ext from λr F=>by
    have:=HI.rgs r F;unfold Rg9.ext;omega)
   go_wp2;go_loopw [9,35] (λf i wq=>∃ k:Nat,k<=96/\i=.int .i64 k/\f=.int .i64 (nl (gY h.rg) k:Nat)/\Hid (∀ j,j<=k->nl (gY h.rg) j<n)/\Hid (Ta T (gY h.rg) wq)/\Hid (D W wq)) (λ_ i _=>96-(intOf i).toNat)
   case atStart=>exact ⟨0,FH _,rfl,rfl,H (λj Y=>by
    obtain rfl:j=0:=Z;show 0<n;omega),s,l⟩
   case round =>
    clear s l;obtain⟨k,hk,rfl,rfl,g,s,m⟩:=hrel;by_cases L:k<96
    ·have M:=(s.cell k L).1;have a4:=pe (gY h.rg) k;have w:=H (show nl (gY h.rg) (k+1)=if gY h.rg k then 0 else nl (gY h.rg) k+1 from rfl);have v:=H (λh1=>sq z hn L h1 g);generalize gY h.rg k=tk at *;cases tk with
     | true =>
      have N:=H (show ∀ j,j<=k+1->nl (gY h.rg) j<n from λj Y=>by
       by_cases e:j=k+1;·subst e;rw [w.out];simp;omega
       exact g j Z)
      have t:((0:Int)==(n:Int))=false:=bG;have f:=H (show nl (gY h.rg) (k+1)=0 by rw [w.out];rfl);generalize nl (gY h.rg) k=A at *;clear w v g;go_wp2;go_roundw;(case rel=>exact ⟨k+1,Z,aY,by rw [f.out];rfl,N,s,m⟩);case measure=>simp [intOf];omega
     | false =>
      have f:=H (show nl (gY h.rg) (k+1)=nl (gY h.rg) k+1 by rw [w.out];rfl);have a5:=g.out k (Fv _);generalize t:nl (gY h.rg) k=A at *;clear t;by_cases Q:A+1=n
      ·have R:=H (v (by rw [f.out];exact Q));have t:((A:Int)+1==(n:Int))=true:=bG;have u:=H (LS wr m);have X:=H (show ((187+(k+1-n):Nat):Int)=187+(k:Int)+1-(n:Int) by omega);clear w v g f Q;go_wp2_with fail;refine (u).mono ?_;rintro e V9 ⟨rfl,b9⟩;have B9:=H (m.trans (b9.mono m.size));clear b9 u;go_wp2;go_ret;rw [R.out];have:=DY.yes (W:=W) (187+(k+1-n)) V9 B9.out;rw [X.out] at this;exact this
      have N:=H (show ∀ j,j<=k+1->nl (gY h.rg) j<n from λj Y=>by
       by_cases e:j=k+1;·subst e;rw [f.out];omega
       exact g j Z)
      have t:((A:Int)+1==(n:Int))=false:=bG;clear w v g Q;go_wp2;go_roundw;(case rel=>exact ⟨k+1,Z,aY,by rw [f.out];simp,N,s,m⟩);case measure=>simp [intOf];omega
    obtain rfl:k=96:=Z;have R:=H (sI z hn g);generalize nl (gY h.rg) 96=A at *;clear g;go_wp2;refine⟨rfl,?_⟩;rw [R.out];exact .no _ m.out
  intro x c kl yd yp M v N a4 P w z L Q a9 t;obtain⟨x',ex,rfl,a5⟩:=Maps.keyOf_int_inv underlying23 N;cases ex;have b5:=bounds_u64 a5;obtain⟨kk,rfl⟩:∃ kk:Nat,x=(kk:Int):=⟨x.toNat,Z⟩;have R:=has_true_of_atKey w;rw [HD.2 kk Z,a0.out kk] at R;obtain⟨f,A,a6⟩:=List.any_eq_true.1 R;simp at a6;subst a6;obtain⟨g,X,lc⟩:=(K W (Fu _ _)).lcAt HI A;have Y:=w .nil;rw [HD.1 f.base Z,X] at Y;obtain rfl:c=some g:=by
   cases c with
   | none=>simp [rt,ev] at P;rw [<-P.1] at Y;simp [sG] at Y
   | some b =>
    simp [rt,ev] at P;rw [<-P.1] at Y;simp [sG] at Y;have:b=g:=Z;rw [this]
  have b2:D W M:=l.grown Q l.size (λj e=>by cases e;exact b4);have B2:=H b2;have a7:=H (p.same (Q.block _ p.lt (λe=>by simp at e;have:=a1.out;omega)));have G2:=H z;have LE:=H (IT z.left_eq G.left_eq);have LC:=H (λV (o:D W V)=>lc.below o);have EX:=H (λV (o:D W V)=>iE g f V (lc.below o));have b6:=HI.rgs f A;have a8:=H (λq=>vE (left:=left) A (λb b e=>HI.uniq A b e) q);have c2:=H (show g≠T by
   have:=(K W (Fu _ _)).lb f A;obtain⟨g',h1,h2,h3⟩:=this;rw [X] at h1;cases h1;have:=ag h3;rw [HT.out];omega)
  unfold rt at t ⊢;simp only [Hi] at t ⊢;have c3:f.ext<=96:=Z;have c4:f.first<=283:=Z
  have c5:187<=f.first:=Z
  have c6:f.first+f.ext<=283:=Z
  clear N a4 P w z Q a9 R Y p l G X lc b6 b2 b5 a5;generalize l:f.base=bs at *;clear l;go_wp2_with fail;refine (EX _ B2).mono ?_;rintro e w3 ⟨rfl,rfl⟩;clear EX;have G3:=H (show M.drew.ranges prog 23 ev y.R r 4096 a (λz=>left z && !z.sameKey (.int .u64 (bs:Nat))) v from G2.kept ((Fu M.heap.size M).drew |> hJ) bH bH);have a5:=H (show Ta T (λq=>gY (eX h.rg left) q || (decide (f.first<=187+q)&&decide (187+q<f.first+0))) M.drew from (a7.same (W':=M.drew) rfl).eq (λq hq=>by
   have:(decide (f.first<=187+q)&&decide (187+q<f.first+0))=false:=by simp <;> omega
   rw [this,Bool.or_false]))
  have B3:=H (show D W M.drew from B2.drew);clear G2 a7 B2 t;generalize M.drew=W3 at *;go_wp2;go_loopw [22] (λi wq=>∃ k:Nat,k<=f.ext/\i=.int .i64 k/\Hid (wq.ranges prog 23 ev y.R r 4096 a (λz=>left z && !z.sameKey (.int .u64 (bs:Nat))) v)/\Hid (Ta T (λq=>gY (eX h.rg left) q || (decide (f.first<=187+q)&&decide (187+q<f.first+k))) wq)/\Hid (D W wq)) (λi _=>f.ext-(intOf i).toNat);case atStart=>exact ⟨0,FH _,rfl,G3,a5,B3⟩
  case round =>
   clear G3 a5 B3;obtain⟨k,hk,rfl,G,s,m⟩:=hrel;by_cases a4:k<f.ext
   ·obtain⟨w,p⟩:∃ w:Nat,f.first=187+w:=⟨f.first-187,Z⟩
    obtain⟨l,Q⟩:∃ l,l=w+k:=⟨_,rfl⟩;have N:l<96:=Z;have CK:=H (λV (o:D W V)=>(LC V o).c2);have u:=H (λV (o:D W V)=>LS.out V o);have b5:IntKind.i64.wrap ((f.first:Int)-187)=(w:Int):=(by rw [iV _ Z Z];omega);have b6:IntKind.i64.wrap ((w:Int)+(k:Int))=(l:Int):=(by rw [iV _ Z Z];omega);have a7:=H (show ∀ q,q<96->(gY (eX h.rg left) q || (decide (f.first<=187+q)&&decide (187+q<f.first+(k+1))))=((gY (eX h.rg left) q || (decide (f.first<=187+q)&&decide (187+q<f.first+k))) || decide (q=l)) from λq hq=>by
     rw [p,Q];by_cases e:q=w+k;·subst e;simp;omega
     rw [show decide (q=w+k)=false by simp [e],Bool.or_false];congr 2;exact decide_eq_decide.2 Z)
    generalize R:f.first=fs at *
    clear R p Q;(go_upto_region 8 with fail);refine rh (S:=λa=>a.cell? ⟨g,2,none⟩=some (.int .i64 (fs:Nat))) ?_;have p:=CK.out wr.drew m.drew;refine pk 0 (.pointer (some ⟨g,0,none⟩)) p ?_;refine pk 1 (.pointer (some ⟨g,0,none⟩)) p ?_;refine pk 2 (.pointer (some ⟨g,2,none⟩)) p ?_;refine pz 3 (.int .i64 (fs:Nat)) p ?_;refine pk 6 (.int .i64 (k:Nat)) p ?_;refine po 4 λK' hK=>?_;go_simp;refine (u _ m.drew).mono ?_;rintro e U1 ⟨rfl,Q⟩;have k1:D W U1:=m.drew.trans (Q.mono m.size);have q1:=CK.out _ k1;have R:D wr U1:=⟨Q.os,Q.tape,Q.output,Q.size,Q.block⟩;have X:=s.same (R.block _ s.lt);have g1:=G.kept (hJ R) bH bH;refine hK _ _ ⟨q1,?_⟩;clear p;have p:=q1;obtain⟨cT,fT⟩:=X.cell l N;clear hK K';refine pz 5 (.int .i64 (w:Nat)) p ?_;refine pz 7 (.int .i64 (l:Nat)) p ?_;refine pz 8 (.pointer (some ⟨T,l,none⟩)) p ?_;refine po 9 λK' hK=>?_
    go_simp;have a9:=X.set l N;have Y:=au (al U1 T) l (.bool true);have g2:=g1.kept Y (by simp;have:=b3.out;have:=HT.out;omega) (by simp;have:=a1.out;omega);have k2:D W (U1.setCell ⟨T,l,none⟩ (.bool true)):=k1.grown Y k1.size (λj e=>by simp at e;have:=HT.out;omega);have q2:=CK.out _ k2;refine hK _ _ ⟨q2,?_⟩;clear hK K';refine bY ?_;have FF:=H (IT g2 (IT (a9.eq a7) k2));clear g2 a9 k2 q2 k1 q1 X g1 Q R Y cT fT p CK u a7 G s m;go_wp2;go_roundw;(case rel=>exact ⟨k+1,Z,aY,H FF.1,H FF.2.1,H FF.2.2⟩);case measure=>simp [intOf];omega
   obtain rfl:k=f.ext:=Z;have l:=H (s.eq (λq hq=>a8.out q));have p:=H G.left_eq;go_wp2;go_roundw;(case rel=>exact ⟨_,v,G,l,m⟩);case measure=>rw [p.out,LE.2];exact L
theorem AZ (w:World):(zeroValue 23).run prog w=.ok (U 0) w:=E
theorem ig (w:World) (g:Nat):∀ (b:List Value) (o:Nat) (a:World),a.grownBy w (some g)->a.grownBy (w.setCells g o b) (some g)
 | [],o,a,h=>h
 | v::b,o,a,h=>by
  show a.grownBy ((w.setCell ⟨g,o,none⟩ v).setCells g (o+1) b) (some g)
  exact ig _ g b (o+1) a (au h o v)
theorem Ct.cells {g cap n l is j} : ∀ (a:List Value) (o:Nat) {W:World},Ct g cap n l is j W->is.length<=o->n<=j->Ct g cap n l is j (W.setCells g o a)
 | [],o,W,h,_,_=>h
 | v::a,o,W,h,k,b=>by
  show Ct g cap n l is j ((W.setCell ⟨g,o,none⟩ v).setCells g (o+1) a)
  refine Ct.cells a (o+1) ?_ Z b
  obtain⟨c,d,e,f,m⟩:=h.row
  refine⟨c.setIfInBounds o v,by simp [World.setCell,FD,d],by simpa using e,λq i=>?_,λq p r=>Z⟩
  rw [FK,GO Z]
  exact f q i
theorem Ct.own {B:Nat} {g cap n l is j} (h:Ct g cap n l is j W) (b:B<=g) (d:is.length<=cap) (e:cap<=maxLen):W.ownsRow B 23 1 (Vl g is.length cap) is.length (Us is):=by
 obtain⟨c,f,k,i,m⟩:=h.row;refine⟨by simp [Us],.inr ⟨g,cap,c,rfl,b,f,d,e,Z,?_⟩⟩;rw [Nat.mul_one];apply Ho;intro q;by_cases a:q<is.length;·rw [Hf a,Gg,i q a];simp [Us,a]
 rw [FJ bG,FJ (by simp [Us];omega)]
def Fe (B:Nat) (u:Option Addr) (i j:Nat) (t:List Nat) (W:World) (e:Ending) (W':World):Prop:=∃ v',e=.returned v'/\W'.ownsRow B 23 1 v' t.length (Us t)/\W.grownBy W' (Value.slice u i j).ownBlock/\v'.ownBlock=(Value.slice u i j).ownBlock
theorem hE {V c:World} {o:Option Nat} (h:W.grownBy V o) (b:D V c):W.grownBy c o:=⟨b.os.trans h.os,b.tape.trans h.tape,b.output.trans h.output,Fx h.size b.size,λk d a=>(b.block k (FG d h.size)).trans (h.block k d a)⟩
theorem nu (B:Nat) (L r) (T:Option Addr) (X u:Nat) (l:List Nat) (W:World) (h:W.ownsRow B 23 1 (.slice T X u) l.length (Us l)) (hl:l.length<=100000) (M:∀ x∈l,x<18446744073709551616) (a:Lc L r W) (d:∃ c,W.heap[L]?=some (.cells c 182)) :
  Calls prog 124 #[.slice T X u,.func (.func 125) #[J L 0] #[]] W (Fe B T X u (l.filter λx => !cov r x) W):=by
 have S:=H (oY B L r T X u l W h hl M a);have a0:=(lA h).1;subst a0;have A:=H h;have HX:=H M;have b:=H a;have HL:=H d;clear h M a d;go_enter func124,ntmps124;go_wp2_with fail;refine (S).mono ?_;rintro e V ⟨t,⟨rfl,N⟩|⟨k,hk,rfl,o,d⟩⟩;·have f:=H (show l.filter (λx => !cov r x)=l by rw [Il];intro x M;rw [N x M];rfl);have a:=H t;clear t S N;go_wp2;go_ret;rw [f.out];exact⟨_,rfl,ax A a,hE ⟨rfl,rfl,rfl,Fv _,λ_ _ _=>rfl⟩ a,rfl⟩
 obtain⟨g,hg⟩:=cr A Z;subst hg;have O:∃ p f,u=p/\B<=g/\W.heap[g]?=some (.cells f 23)/\l.length<=p/\p<=maxLen/\f.size=p/\f.toList.take l.length=Us l:=by
  rcases A.2 with ⟨e,_⟩|⟨m,p,f,e,G,P,a,i,n,j⟩;·cases e
  cases e;exact⟨u,f,rfl,G,P,a,i,Z,by simpa using j⟩
 obtain⟨p,f,rfl,hB,m,a1,a2,v,n⟩:=O;have y:Ct g u l.length l (dW r l k) (k+1) V:=by
  refine⟨f,(t.block _ (ag m)).trans m,v,λq K=>?_,λq G P=>?_⟩
  ·rw [kq r l k Z d] at K ⊢;rw [Hm] at K;have F:(f.toList.take l.length)[q]?=(Us l)[q]?:=(by rw [n]);rw [Hf Z,Gg] at F;rw [F,Hf Z];simp [Us,show q<l.length by omega]
  have F:(f.toList.take l.length)[q]?=(Us l)[q]?:=by rw [n]
  rw [Hf Z,Gg] at F;rw [F];simp [Us,P]
 have s:dW r l (k+1)=dW r l k:=by rw [jb r l k hk,GP o,Gl]
 have w:(dW r l k).length=k:=by rw [kq r l k Z d,Hm];omega
 have KL:=H (λj (G:k<j) (P:j<=l.length)=>yG r l k j G P o);have Q:=H (hE (al W g) t);have R:=H (show Ct g u l.length l (dW r l (k+1)) (k+1) V by rw [s];exact y);have a3:=H (show (dW r l (k+1)).length=k by rw [s];exact w);have KS:=H (λj G=>jb r l j G);have KW:=H (show dW r l l.length=l.filter (λx => !cov r x) by unfold dW;rw [G9]);have CV:=H (λa (hU:W.grownBy a (some g)) x (hx9:x<18446744073709551616)=>n_ L x r a (by
  obtain⟨c,Y⟩:=HL.out;have a4:L≠g:=λe=>by rw [e,m] at Y;simp at Y
  have F:a.heap[L]?=W.heap[L]?:=hU.block L (ag Y) (by simpa using a4);have z:∀ i,a.cell? ⟨L,i,none⟩=W.cell? ⟨L,i,none⟩:=λi=>by unfold World.cell?;rw [F]
  exact⟨(z 0).trans b.c0,(z 1).trans b.c1,(z 2).trans b.c2,(z 3).trans b.c3,(z 4).trans b.c4,b.hf,b.hu,b.hp⟩) hx9)
 clear y s w S t A m n v HL b d o;generalize b:l.length=n at *;have HN:=H b;clear b;have a8:((k:Int) == -1)=false:=by simp <;> omega
 go_wp2;go_loopw [5,6] (λi j wr=>∃ b:Nat,k<b/\b<=n/\j=I b/\i=I ((dW r l b).length:Nat)/\Hid (Ct g u n l (dW r l b) b wr)/\Hid (W.grownBy wr (some g))) (λ_ j _=>n-(intOf j).toNat);case atStart=>exact ⟨k+1,Z,Z,aY,by rw [a3.out],R,Q⟩
 case round =>
  clear R Q;obtain⟨j,a4,hj,rfl,rfl,A,S⟩:=hrel;by_cases y:j<n
  ·have m:=A.cell (Fv j) y;have a5:l[j]?.getD 0<18446744073709551616:=HX.out _ (by rw [Fy (by rw [HN.out];exact y)];exact Iw _);have Y:=H (KS j y);have w:=nZ r l j;generalize K:l[j]?.getD 0=q at *;clear K;have s:=H (CV wr S q a5);rw [show (decide (r.first<=q/1024)&&decide (q/1024<r.first+r.ext))=cov r q from rfl] at s;generalize z:dW r l j=b at *;clear z;go_wp2_with fail;refine (s).mono ?_;rintro e a ⟨rfl,t⟩;have d:=H (A.same (t.block _ A.lt));have v:=H (hE S t);clear t s m A S;cases o:cov r q with
   | true =>
    have m:=H (show dW r l (j+1)=b by rw [Y.out,o];simp);clear Y;go_wp2;go_roundw;(case rel=>exact ⟨j+1,Z,Z,aY,by rw [m.out],H (by rw [m.out];exact d.skip),v⟩);case measure=>simp [intOf];omega
   | false =>
    have m:=H (show dW r l (j+1)=b++[q] by rw [Y.out,o];simp);obtain⟨v0,c0⟩:=d.anyC (q:=b.length) Z;have f0:=d.free b.length;have a6:=H (d.put q w y a1);have a7:=H (au v b.length (U q));have a9:(b.length:Int)<(n:Int):=Z;clear Y d v;generalize s:b.length=il at *;have t:=H s;clear s;go_wp2;go_roundw;(case rel=>exact ⟨j+1,Z,Z,aY,by rw [m.out,FC,t.out];simp,H (by rw [m.out];exact a6),a7⟩);case measure=>simp [intOf];omega
  obtain rfl:j=n:=Z;have Y:=KL.out j a4 (Fv _);generalize z:dW r l j=b at *;have a5:=H z;clear z;have a6:∀ d,(Builtin.clear_ #[34] d #[.slice (some ⟨g,b.length,none⟩) (j-b.length) (u-b.length)]).run prog wr=.ok (.tuple #[]) (wr.setCells g b.length (List.replicate (j-b.length) (U 0))) :=
   λd=>Lib.run_clear_slice wr 34 23 d (U 0) underlying34 AZ rfl rfl g b.length _ _ Z (λq K=>by obtain ⟨v,m⟩:=A.anyC (q:=b.length+q) Z;rw [m];rfl) (λq K=>A.free _)
  have m:=H (A.cells (List.replicate (j-b.length) (U 0)) b.length (Fv _) (Fv _));have v:=H (ig wr g (List.replicate (j-b.length) (U 0)) b.length W S);clear A S;generalize s:b.length=il at *;have t:=H s;clear s;go_wp2;go_ret;refine⟨_,rfl,?_,v,rfl⟩;have A:=m.own hB (by rw [t.out];omega) a2;rw [t.out] at A;rw [<-KW.out,t.out];exact A
end
end Go.Proofs.YtibblbenmpcplaaGreatDoor
