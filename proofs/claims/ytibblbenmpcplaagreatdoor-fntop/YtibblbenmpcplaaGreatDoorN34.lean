import Derived.Deep.AppendSrc
import Derived.Test.YtibblbenmpcplaaGreatDoorN25
import Derived.Test.YtibblbenmpcplaaGreatDoorN27
set_option linter.unusedVariables false
set_option linter.unusedSimpArgs false
set_option maxRecDepth 20000
set_option maxHeartbeats 8000000
namespace Go.Proofs.YtibblbenmpcplaaGreatDoor
open Go.Proofs.Tryz
variable {W:World} {l m:List Nat} {i j x:Nat}
section
open Go.RowKit
def iS (an:List An4) (o:fL):Option Nat :=
 if o.ref=0 then some o.p
 else if o.ref<0\/(an.length:Int)<o.ref then none
 else some ((o.p+((an[o.ref.toNat-1]?.map An4.addr).getD 0))%18446744073709551616)
theorem vi (cf h an o):bU cf h an o=match iS an o with
  | some p=>dv cf h o p
  | none=>(.no 6,h):=by
 unfold bU iS
 by_cases a:o.ref=0
 ·rw [GP a,GP a]
 rw [GO a,GO a]
 by_cases b:o.ref<0\/(an.length:Int)<o.ref
 ·rw [GP b,GP b]
 rw [GO b,GO b]
structure wK (B:Nat) (W:World) (l:List Aw) (v:Value):Prop where
 row:W.ownsRow B 44 4 v l.length (fZ l)
 len:l.length<=300
def D9 (W:World) (r:Option Nat) (e:Ending) (W':World):Prop:=D W W'/\((∃ p,r=some p/\e=.returned (U p))\/(r=none/\e=.panicked (ip 6)))
theorem uD (B) (P:Nat) (o:fL) (z:Option Addr) (A F:Nat) (l) (s:Option Addr) (d k:Nat) (W:World) (b:W.cell? ⟨P,119,none⟩=some (.slice s d k)) (f:wK B W l (.slice s d k)) (ho:o.p<18446744073709551616) (Q : -9223372036854775808<=o.ref) :
  Calls prog 39 #[J P 0,.agg #[I o.kd,I o.ref,U o.p,U o.a,U o.b,.slice z A F]] W (D9 W (iS (l.map (·.1)) o)):=by
 have g:d=l.length:=by
  obtain⟨a,c,e⟩:=aK f.row;injection e with _ i _
 have G:=f.len;obtain⟨V,i⟩:∃ V,V=W.alloc (.cells #[I o.kd,I o.ref,U o.p,U o.a,U o.b,.slice z A F] 42):=⟨_,rfl⟩;have a:D W V:=by rw [i];exact (Fu _ _).alloc (Fv _) _
 have X:=(show V.heap[W.heap.size]?=some (.cells #[I o.kd,I o.ref,U o.p,U o.a,U o.b,.slice z A F] 42) by rw [i];exact ao W _);have m:V.cell? ⟨W.heap.size,1,none⟩=some (I o.ref):=bJ X;have t:V.cell? ⟨W.heap.size,2,none⟩=some (U o.p):=bJ X;have u:=ad a b;have n:=H (ax f.row a);have y:=H a;clear b f X a;by_cases b:o.ref=0
 ·have p:=H (show iS (l.map (·.1)) o=some o.p by unfold iS;rw [GP b]);have R:(o.ref==0)=true:=by simpa using b
  clear u n b;generalize o.ref=e at *;go_enter func39,ntmps39;go_upto_region 1 with fail
  refine Eq.mp (congrArg _ i) ?_;clear i;generalize W.heap.size=X at m t ⊢;go_wp2;go_ret;rw [p.out];exact⟨y,.inl ⟨_,rfl,rfl⟩⟩
 have R:(o.ref==0)=false:=by simpa using b
 by_cases v:o.ref<0
 ·have p:=H (show iS (l.map (·.1)) o=none by unfold iS;rw [GO b,GP (.inl v)]);clear n b;generalize o.ref=e at *;go_enter func39,ntmps39;go_upto_region 1 with fail
  refine Eq.mp (congrArg _ i) ?_;clear i;generalize W.heap.size=X at m t ⊢;go_upto_region 3 with fail
  refine rh (S:=λf=>f.cell? ⟨X,1,none⟩=some (I e)/\f.cell? ⟨P,119,none⟩=some (.slice s d k)) ?_;have a:=IT (show V.drew.cell? _=_ from m) (show V.drew.cell? _=_ from u);refine pk 0 (J X 1) a ?_;refine pz 1 (I (e)) a ?_;refine pz 2 (.bool true) a ?_;refine pk 3 (.bool true) a ?_;refine ps 4 a ?_;refine ps 5 a ?_;refine ps 6 a ?_;refine ps 7 a ?_;refine ps 8 a ?_;refine ps 9 a ?_;refine ps 10 a ?_;refine ps 11 a ?_;refine pz 12 (.bool true) a ?_;refine bY ?_;clear a;go_wp2;rw [p.out];exact⟨rfl,y.drew,.inr ⟨rfl,rfl⟩⟩
 by_cases r:(l.length:Int)<o.ref
 ·have p:=H (show iS (l.map (·.1)) o=none by unfold iS;rw [GO b,GP (.inr (by simpa using r))]);clear n b;rw [<-g] at r;generalize o.ref=e at *;go_enter func39,ntmps39;go_upto_region 1 with fail
  refine Eq.mp (congrArg _ i) ?_;clear i;generalize W.heap.size=X at m t ⊢;go_upto_region 3 with fail
  refine rh (S:=λf=>f.cell? ⟨X,1,none⟩=some (I e)/\f.cell? ⟨P,119,none⟩=some (.slice s d k)) ?_;have a:=IT (show V.drew.cell? _=_ from m) (show V.drew.cell? _=_ from u);refine pk 0 (J X 1) a ?_;refine pz 1 (I (e)) a ?_;refine pz 2 (.bool false) a ?_;refine pk 3 (.bool false) a ?_;refine pk 4 (J X 1) a ?_;refine pz 5 (I (e)) a ?_;refine pk 6 (J P 0) a ?_;refine pk 7 (J P 0) a ?_;refine pk 8 (J P 119) a ?_;refine pz 9 (.slice s d k) a ?_;refine pz 10 (I d) a ?_;refine pz 11 (.bool true) a ?_;refine pz 12 (.bool true) a ?_;refine bY ?_;clear a;go_wp2;rw [p.out];exact⟨rfl,y.drew,.inr ⟨rfl,rfl⟩⟩
 obtain⟨c,K⟩:∃ c:Nat,o.ref=(c:Int)+1:=⟨(o.ref-1).toNat,Z⟩;have w:c<l.length:=Z;obtain⟨q,L⟩:∃ q,l[c]?=some q:=⟨_,Fy w⟩;obtain⟨j,M⟩:∃ j,s=some ⟨j,0,none⟩:=by
  rw [g] at n;exact cr n Z
 subst M;have T:V.cell? ⟨j,c*4+1,none⟩=some (U q.1.addr):=by
  have:=n.out;rw [g] at this;exact bC this (c*4+1) _ (eC aC 4 (λ_=>rfl) l c q L 1 Z)
 have p:=H (show iS (l.map (·.1)) o=some ((o.p+q.1.addr)%18446744073709551616) by
  unfold iS;rw [GO b,GO bG];have x:o.ref.toNat-1=c:=Z;rw [x,Gv,L];rfl)
 have x:(o.ref-1)=(c:Int):=Z;have Y:IntKind.i64.wrap (o.ref-1)=(c:Int):=by rw [x];rw [Hh];omega
 have O:(c:Int)<(d:Int):=Z;have N:=H (show IntKind.u64.wrap ((o.p:Int)+(q.1.addr:Int))=(((o.p+q.1.addr)%18446744073709551616:Nat):Int) by rw [eu];simp);rw [<-g] at r;clear b L K n w g G x;generalize q.1.addr=b at *;generalize o.ref=e at *;go_enter func39,ntmps39;go_upto_region 1 with fail
 refine Eq.mp (congrArg _ i) ?_;clear i;generalize W.heap.size=X at m t ⊢;go_upto_region 3 with fail
 refine rh (S:=λf=>f.cell? ⟨X,1,none⟩=some (I e)/\f.cell? ⟨P,119,none⟩=some (Vl j d k)) ?_;have a:=IT (show V.drew.cell? _=_ from m) (show V.drew.cell? _=_ from u);refine pk 0 (J X 1) a ?_;refine pz 1 (I (e)) a ?_;refine pz 2 (.bool false) a ?_;refine pk 3 (.bool false) a ?_;refine pk 4 (J X 1) a ?_;refine pz 5 (I (e)) a ?_;refine pk 6 (J P 0) a ?_;refine pk 7 (J P 0) a ?_;refine pk 8 (J P 119) a ?_;refine pz 9 (Vl j d k) a ?_;refine pz 10 (I d) a ?_;refine pz 11 (.bool false) a ?_;refine pz 12 (.bool false) a ?_;refine bY ?_;clear a;go_upto_region 5 with fail
 refine rh (S:=λf=>f.cell? ⟨X,1,none⟩=some (I e)/\f.cell? ⟨X,2,none⟩=some (U o.p)/\f.cell? ⟨P,119,none⟩=some (Vl j d k)/\f.cell? ⟨j,c*4+1,none⟩=some (U b)) ?_;have a:=IT (show V.drew.drew.cell? _=_ from m) (IT (show V.drew.drew.cell? _=_ from t) (IT (show V.drew.drew.cell? _=_ from u) (show V.drew.drew.cell? _=_ from T)));refine pk 0 (J X 2) a ?_;refine pz 1 (U o.p) a ?_;refine pk 2 (J P 0) a ?_;refine pk 3 (J P 0) a ?_;refine pk 4 (J P 119) a ?_;refine pz 5 (Vl j d k) a ?_;refine pk 6 (J X 1) a ?_;refine pz 7 (I e) a ?_;refine pz 8 (I c) a ?_;refine pz 9 (J j (c*4)) a ?_;refine pk 10 (J j (c*4+1)) a ?_;refine pz 11 (U b) a ?_;refine pz 12 (U (IntKind.u64.wrap ((o.p:Int)+(b:Int)))) a ?_;refine pk 13 (U (IntKind.u64.wrap ((o.p:Int)+(b:Int)))) a ?_;refine bY ?_;clear a;go_wp2;go_ret;rw [p.out];exact⟨y.drew.drew,.inl ⟨_,rfl,by rw [<-N.out];rfl⟩⟩
end
section
open Go.RowKit Go.Maps
def jg (mi fi la bu:Int) (dn:Nat):Prop:=0<=mi/\mi<=16/\1<=fi/\fi<=32/\1<=la/\la<=16/\0<=bu/\bu<=283/\dn<=20000
instance (mi fi la bu:Int) (dn:Nat):Decidable (jg mi fi la bu dn):=by unfold jg;infer_instance
structure Cg (X:Nat) (mi fi la bu ky:Int) (da:Option Addr) (dn dc:Nat) (W V:World):Prop where
 c0:V.cell? ⟨X,0,none⟩=some (I mi)
 c1:V.cell? ⟨X,1,none⟩=some (I fi)
 c2:V.cell? ⟨X,2,none⟩=some (I la)
 c3:V.cell? ⟨X,3,none⟩=some (I bu)
 c5:V.cell? ⟨X,5,none⟩=some (.slice da dn dc)
 tb:Tb V
 bel:D W V
theorem Cg.below {X mi fi la bu ky da dn dc V V'} (h:Cg X mi fi la bu ky da dn dc W V) (b:D V V'):Cg X mi fi la bu ky da dn dc W V' :=
 ⟨ad b h.c0,ad b h.c1,ad b h.c2,ad b h.c3,ad b h.c5,h.tb.ofBelow b,h.bel.trans (b.mono h.bel.size)⟩
theorem Cg.of {mi fi la bu ky da dn dc} (a:Tb W):Cg W.heap.size mi fi la bu ky da dn dc W (W.alloc (.cells #[I mi,I fi,I la,I bu,U ky,.slice da dn dc] 26)):=by
 have h:=ao W (.cells #[I mi,I fi,I la,I bu,U ky,.slice da dn dc] 26);have b:D W (W.alloc (.cells #[I mi,I fi,I la,I bu,U ky,.slice da dn dc] 26)):=(Fu _ _).alloc (Fv _) _;refine⟨?_,?_,?_,?_,?_,a.ofBelow b,b⟩ <;> (rw [GT _ _ _ _ _ _ h];rfl)
theorem t7 (mi fi la bu ky) (i:Option Addr) (f j:Nat) (W) (b:Tb W) :
  Calls prog 12 #[.agg #[I mi,I fi,I la,I bu,U ky,.slice i f j]] W λe o=>e=.returned (.bool (decide (jg mi fi la bu f)))/\D W o:=by
 obtain⟨m,a⟩:∃ m,decide (jg mi fi la bu f)=m:=⟨_,rfl⟩;rw [a];have c:=H a;have d:=H (Cg.of (mi:=mi) (fi:=fi) (la:=la) (bu:=bu) (ky:=ky) (da:=i) (dn:=f) (dc:=j) b);clear b a;go_enter func12,ntmps12;go_upto_region 1 with fail
 have k:=H (d.below (Fu _ _).drew);clear d;generalize W.alloc _=g at k ⊢;obtain⟨X,a⟩:∃ X,X=W.heap.size:=⟨_,rfl⟩;rw [<-a] at k ⊢;clear a;refine rh (S:=Cg X mi fi la bu ky i f j W) ?_;generalize b:g.drew=p at k;have a:({ heap:=g.heap,tape:=g.tape,drawn:=g.drawn+1,os:=g.os,output:=g.output } : World)=p:=b;rw [a];clear b a;have b:=k.out;refine pk 0 (J X 0) b ?_;refine pz 1 (I mi) b ?_;cases d:decide (0<=mi);·refine pz 2 (.bool false) b ?_;refine pk 3 (.bool false) b ?_;refine ps 4 b ?_;refine ps 5 b ?_;refine ps 6 b ?_;refine pz 7 (.bool false) b ?_;refine pk 8 (.bool false) b ?_;refine ps 9 b ?_;refine ps 10 b ?_;refine ps 11 b ?_;refine pz 12 (.bool false) b ?_;refine pk 13 (.bool false) b ?_;refine ps 14 b ?_;refine ps 15 b ?_;refine ps 16 b ?_;refine pz 17 (.bool false) b ?_;refine pk 18 (.bool false) b ?_;refine ps 19 b ?_;refine ps 20 b ?_;refine ps 21 b ?_;refine pz 22 (.bool false) b ?_;refine pk 23 (.bool false) b ?_;refine ps 24 b ?_;refine ps 25 b ?_;refine ps 26 b ?_;refine pz 27 (.bool false) b ?_;refine pk 28 (.bool false) b ?_;refine ps 29 b ?_;refine ps 30 b ?_;refine ps 31 b ?_;refine pz 32 (.bool false) b ?_;refine pk 33 (.bool false) b ?_;refine ps 34 b ?_;refine ps 35 b ?_;refine ps 36 b ?_;refine ps 37 b ?_;refine pz 38 (.bool false) b ?_;refine pk 39 (.bool false) b ?_;refine ps 40 b ?_;refine ps 41 b ?_;refine ps 42 b ?_;refine ps 43 b ?_;refine pz 44 (.bool false) b ?_;refine pk 45 (.bool false) b ?_;refine bY ?_;go_wp2;go_ret;exact⟨by rw [<-c.out,GR (by unfold jg;simp at d;omega)];rfl,b.bel⟩
 refine pz 2 (.bool true) b ?_;refine pk 3 (.bool true) b ?_;refine pk 4 (J X 0) b ?_;refine pz 5 (I mi) b ?_;cases d:decide (mi<=16);·refine pz 6 (.bool false) b ?_;refine pz 7 (.bool false) b ?_;refine pk 8 (.bool false) b ?_;refine ps 9 b ?_;refine ps 10 b ?_;refine ps 11 b ?_;refine pz 12 (.bool false) b ?_;refine pk 13 (.bool false) b ?_;refine ps 14 b ?_;refine ps 15 b ?_;refine ps 16 b ?_;refine pz 17 (.bool false) b ?_;refine pk 18 (.bool false) b ?_;refine ps 19 b ?_;refine ps 20 b ?_;refine ps 21 b ?_;refine pz 22 (.bool false) b ?_;refine pk 23 (.bool false) b ?_;refine ps 24 b ?_;refine ps 25 b ?_;refine ps 26 b ?_;refine pz 27 (.bool false) b ?_;refine pk 28 (.bool false) b ?_;refine ps 29 b ?_;refine ps 30 b ?_;refine ps 31 b ?_;refine pz 32 (.bool false) b ?_;refine pk 33 (.bool false) b ?_;refine ps 34 b ?_;refine ps 35 b ?_;refine ps 36 b ?_;refine ps 37 b ?_;refine pz 38 (.bool false) b ?_;refine pk 39 (.bool false) b ?_;refine ps 40 b ?_;refine ps 41 b ?_;refine ps 42 b ?_;refine ps 43 b ?_;refine pz 44 (.bool false) b ?_;refine pk 45 (.bool false) b ?_;refine bY ?_;go_wp2;go_ret;exact⟨by rw [<-c.out,GR (by unfold jg;simp at d;omega)];rfl,b.bel⟩
 refine pz 6 (.bool true) b ?_;refine pz 7 (.bool true) b ?_;refine pk 8 (.bool true) b ?_;refine pk 9 (J X 1) b ?_;refine pz 10 (I fi) b ?_;cases d:decide (1<=fi);·refine pz 11 (.bool false) b ?_;refine pz 12 (.bool false) b ?_;refine pk 13 (.bool false) b ?_;refine ps 14 b ?_;refine ps 15 b ?_;refine ps 16 b ?_;refine pz 17 (.bool false) b ?_;refine pk 18 (.bool false) b ?_;refine ps 19 b ?_;refine ps 20 b ?_;refine ps 21 b ?_;refine pz 22 (.bool false) b ?_;refine pk 23 (.bool false) b ?_;refine ps 24 b ?_;refine ps 25 b ?_;refine ps 26 b ?_;refine pz 27 (.bool false) b ?_;refine pk 28 (.bool false) b ?_;refine ps 29 b ?_;refine ps 30 b ?_;refine ps 31 b ?_;refine pz 32 (.bool false) b ?_;refine pk 33 (.bool false) b ?_;refine ps 34 b ?_;refine ps 35 b ?_;refine ps 36 b ?_;refine ps 37 b ?_;refine pz 38 (.bool false) b ?_;refine pk 39 (.bool false) b ?_;refine ps 40 b ?_;refine ps 41 b ?_;refine ps 42 b ?_;refine ps 43 b ?_;refine pz 44 (.bool false) b ?_;refine pk 45 (.bool false) b ?_;refine bY ?_;go_wp2;go_ret;exact⟨by rw [<-c.out,GR (by unfold jg;simp at d;omega)];rfl,b.bel⟩
 refine pz 11 (.bool true) b ?_;refine pz 12 (.bool true) b ?_;refine pk 13 (.bool true) b ?_;refine pk 14 (J X 1) b ?_;refine pz 15 (I fi) b ?_;cases d:decide (fi<=32);·refine pz 16 (.bool false) b ?_;refine pz 17 (.bool false) b ?_;refine pk 18 (.bool false) b ?_;refine ps 19 b ?_;refine ps 20 b ?_;refine ps 21 b ?_;refine pz 22 (.bool false) b ?_;refine pk 23 (.bool false) b ?_;refine ps 24 b ?_;refine ps 25 b ?_;refine ps 26 b ?_;refine pz 27 (.bool false) b ?_;refine pk 28 (.bool false) b ?_;refine ps 29 b ?_;refine ps 30 b ?_;refine ps 31 b ?_;refine pz 32 (.bool false) b ?_;refine pk 33 (.bool false) b ?_;refine ps 34 b ?_;refine ps 35 b ?_;refine ps 36 b ?_;refine ps 37 b ?_;refine pz 38 (.bool false) b ?_;refine pk 39 (.bool false) b ?_;refine ps 40 b ?_;refine ps 41 b ?_;refine ps 42 b ?_;refine ps 43 b ?_;refine pz 44 (.bool false) b ?_;refine pk 45 (.bool false) b ?_;refine bY ?_;go_wp2;go_ret;exact⟨by rw [<-c.out,GR (by unfold jg;simp at d;omega)];rfl,b.bel⟩
 refine pz 16 (.bool true) b ?_;refine pz 17 (.bool true) b ?_;refine pk 18 (.bool true) b ?_;refine pk 19 (J X 2) b ?_;refine pz 20 (I la) b ?_;cases d:decide (1<=la);·refine pz 21 (.bool false) b ?_;refine pz 22 (.bool false) b ?_;refine pk 23 (.bool false) b ?_;refine ps 24 b ?_;refine ps 25 b ?_;refine ps 26 b ?_;refine pz 27 (.bool false) b ?_;refine pk 28 (.bool false) b ?_;refine ps 29 b ?_;refine ps 30 b ?_;refine ps 31 b ?_;refine pz 32 (.bool false) b ?_;refine pk 33 (.bool false) b ?_;refine ps 34 b ?_;refine ps 35 b ?_;refine ps 36 b ?_;refine ps 37 b ?_;refine pz 38 (.bool false) b ?_;refine pk 39 (.bool false) b ?_;refine ps 40 b ?_;refine ps 41 b ?_;refine ps 42 b ?_;refine ps 43 b ?_;refine pz 44 (.bool false) b ?_;refine pk 45 (.bool false) b ?_;refine bY ?_;go_wp2;go_ret;exact⟨by rw [<-c.out,GR (by unfold jg;simp at d;omega)];rfl,b.bel⟩
 refine pz 21 (.bool true) b ?_;refine pz 22 (.bool true) b ?_;refine pk 23 (.bool true) b ?_;refine pk 24 (J X 2) b ?_;refine pz 25 (I la) b ?_;cases d:decide (la<=16);·refine pz 26 (.bool false) b ?_;refine pz 27 (.bool false) b ?_;refine pk 28 (.bool false) b ?_;refine ps 29 b ?_;refine ps 30 b ?_;refine ps 31 b ?_;refine pz 32 (.bool false) b ?_;refine pk 33 (.bool false) b ?_;refine ps 34 b ?_;refine ps 35 b ?_;refine ps 36 b ?_;refine ps 37 b ?_;refine pz 38 (.bool false) b ?_;refine pk 39 (.bool false) b ?_;refine ps 40 b ?_;refine ps 41 b ?_;refine ps 42 b ?_;refine ps 43 b ?_;refine pz 44 (.bool false) b ?_;refine pk 45 (.bool false) b ?_;refine bY ?_;go_wp2;go_ret;exact⟨by rw [<-c.out,GR (by unfold jg;simp at d;omega)];rfl,b.bel⟩
 refine pz 26 (.bool true) b ?_;refine pz 27 (.bool true) b ?_;refine pk 28 (.bool true) b ?_;refine pk 29 (J X 3) b ?_;refine pz 30 (I bu) b ?_;cases d:decide (0<=bu);·refine pz 31 (.bool false) b ?_;refine pz 32 (.bool false) b ?_;refine pk 33 (.bool false) b ?_;refine ps 34 b ?_;refine ps 35 b ?_;refine ps 36 b ?_;refine ps 37 b ?_;refine pz 38 (.bool false) b ?_;refine pk 39 (.bool false) b ?_;refine ps 40 b ?_;refine ps 41 b ?_;refine ps 42 b ?_;refine ps 43 b ?_;refine pz 44 (.bool false) b ?_;refine pk 45 (.bool false) b ?_;refine bY ?_;go_wp2;go_ret;exact⟨by rw [<-c.out,GR (by unfold jg;simp at d;omega)];rfl,b.bel⟩
 refine pz 31 (.bool true) b ?_;refine pz 32 (.bool true) b ?_;refine pk 33 (.bool true) b ?_;refine pk 34 (J X 3) b ?_;refine pz 35 (I bu) b ?_;refine po 36 λK' q=>?_;go_simp;refine (eH _ b.tb).mono ?_;rintro e a ⟨rfl,n⟩;have l:=b.below n;refine q _ _ ⟨l,?_⟩;clear b n;have b:=l;clear l
 cases d:decide (bu<=283);·refine pz 37 (.bool false) b ?_;refine pz 38 (.bool false) b ?_;refine pk 39 (.bool false) b ?_;refine ps 40 b ?_;refine ps 41 b ?_;refine ps 42 b ?_;refine ps 43 b ?_;refine pz 44 (.bool false) b ?_;refine pk 45 (.bool false) b ?_;refine bY ?_;go_wp2;go_ret;exact⟨by rw [<-c.out,GR (by unfold jg;simp at d;omega)];rfl,b.bel⟩
 refine pz 37 (.bool true) b ?_;refine pz 38 (.bool true) b ?_;refine pk 39 (.bool true) b ?_;refine pk 40 (J X 5) b ?_;refine pz 41 (.slice i f j) b ?_;refine pz 42 (I f) b ?_;cases d:decide ((f:Int)<=20000);·refine pz 43 (.bool false) b ?_;refine pz 44 (.bool false) b ?_;refine pk 45 (.bool false) b ?_;refine bY ?_;go_wp2;go_ret;exact⟨by rw [<-c.out,GR (by unfold jg;simp at d;omega)];rfl,b.bel⟩
 refine pz 43 (.bool true) b ?_;refine pz 44 (.bool true) b ?_;refine pk 45 (.bool true) b ?_;refine bY ?_;go_wp2;go_ret;exact⟨by rw [<-c.out,G8 (by unfold jg;simp only [Hj] at *;omega)];rfl,b.bel⟩
end
section
open Go.RowKit
structure SrtI (l m:List Nat) (i j:Nat):Prop where
 perm:m.Perm l
 low:∀ a b x y:Nat,a<i->a<b->m[a]?=some x->m[b]?=some y->x<=y
 here:∀ b x y:Nat,i<b->b<j->m[i]?=some x->m[b]?=some y->x<=y
theorem SrtI.start (l):SrtI l l 0 1:=⟨List.Perm.refl _,λa b x y h=>Z,λb x y c d=>Z⟩
theorem SrtI.next (h:SrtI l m i j) (g:m.length<=j):SrtI l m (i+1) (i+2):=by
 refine⟨h.perm,λa b x y f c ha d=>?_,λb x y f c=>Z⟩;by_cases e:a<i;·exact h.low a b x y e c ha d
 obtain rfl:a=i:=Z;have:=(Fz.1 d).1;exact h.here b x y c Z ha d
theorem SrtI.keep {y:Nat} (h:SrtI l m i j) (d:m[i]?=some x) (f:m[j]?=some y) (g:x<=y):SrtI l m i (j+1):=by
 refine⟨h.perm,h.low,λb u v k n a c=>?_⟩;by_cases e:b<j;·exact h.here b u v k e a c
 obtain rfl:b=j:=Z;rw [d] at a;rw [f] at c;injection a with a;injection c with c;omega
theorem SrtI.swap {y:Nat} (h:SrtI l m i j) (q:i<j) (g:m[i]?=some x) (k:m[j]?=some y) (r:y<x):SrtI l ((m.set i y).set j x) i (j+1):=by
 obtain⟨n,s⟩:=Fz.1 g;obtain⟨o,t⟩:=Fz.1 k;have d:∀ b,((m.set i y).set j x)[b]?=if b=j then some x else if b=i then some y else m[b]?:=λb=>by
  rw [Gr,Gr];by_cases a:b=j;·subst a;simp [o]
  rw [GO (λe=>a e.symm),GO a];by_cases c:b=i;·subst c;simp [n]
  rw [GO (λe=>c e.symm),GO c]
 refine⟨?_,λa b u v f p e c=>?_,λb u v f p e c=>?_⟩;·refine List.Perm.trans ?_ h.perm;have:=List.set_set_perm n o;rw [s,t] at this;exact this
 ·rw [d,GO Z,GO Z] at e;rw [d] at c;split at c;·injection c with c;subst c;exact h.low a i _ _ f f e g
  split at c;·injection c with c;subst c;exact h.low a j _ _ f Z e k
  exact h.low a b _ _ f p e c
 rw [d,GO Z,GP rfl] at e;injection e with e;rw [d] at c;split at c;·injection c with c;omega
 rw [GO Z] at c;have:=h.here b x v f Z g c;omega
theorem SrtI.done (h:SrtI l m i j) (e:m.length<=i):m.Pairwise (· <= ·):=by
 rw [II];intro a b ha d c;exact h.low a b _ _ Z c (Fy ha) (Fy d)
theorem Am (W:World) (a:Option Addr) (c:Nat):(Builtin.append_ #[34,34] 34 #[C,.slice a 0 c]).run prog W=.ok (C) W:=by
 obtain⟨g,b,d,e,f⟩:=G0 iY;cases a <;> simp [Builtin.append_,run_underlying underlying34,sizeOf,typeInfo,b,Builtin.lenOf,Builtin.firstCells,loadCells,loadCellsFrom]
theorem ug (W:World) (B:Nat) (a:Option Addr) (c:Nat) (l:List Nat) (e:W.ownsRow B 23 1 (.slice a l.length c) l.length (Us l)) (m:l.length<=90000) :
  ∃ d b,(Builtin.append_ #[34,34] 34 #[C,.slice a l.length c]).run prog W=.ok d b/\b.ownsRow W.heap.size 23 1 d l.length (Us l)/\D W b:=by
 by_cases f:l.length=0;·obtain rfl:=List.length_eq_zero_iff.1 f;exact⟨_,_,Am W a c,⟨rfl,.inl ⟨rfl,rfl⟩⟩,Fu _ _⟩
 obtain⟨G,rfl⟩:=cr e Z;obtain⟨d,b,g,i,k⟩:=jQ W W.heap.size (C) [] l ⟨G,0,none⟩ c ⟨rfl,.inl ⟨rfl,rfl⟩⟩ (λj u a=>by
  rw [Addr.add_mid,Gb];exact bC e j u a) bG (Fv _)
 exact⟨d,b,g,i,(Fu _ W).grown k (Fv _) (λP a=>by simp [Value.ownBlock] at a)⟩
theorem oG {B:Nat} {e:TypeId} {sz:Nat} {G n cap} {b:List Value} (h:W.ownsRow B e sz (Vl G n cap) n b) (i:Nat):W.frozen? ⟨G,i,none⟩=false:=by
 rcases h.2 with ⟨e,_⟩|⟨g,a,c,e,f,d,j,k,l,m⟩;·simp at e
 simp at e;obtain⟨rfl,rfl⟩:=e;simp [World.frozen?,d]
theorem ny (h:l[i]?=some x):(Us l)[i]?=some (U x):=by simp [Us,h]
theorem sg (l) (i x:Nat):(Us l).set i (U x)=Us (l.set i x):=by simp [Us,List.map_set]
theorem ue (W:World) (B:Nat) (v:Value) (l:List Nat) (d:W.ownsRow B 23 1 v l.length (Us l)) (A:l.length<=90000) :
  Calls prog 59 #[v] W λe F=>∃ (m:List Nat) (a:Value),e=.returned a/\m.Perm l/\m.Pairwise (· <= ·)/\F.ownsRow W.heap.size 23 1 a m.length (Us m)/\D W F:=by
 obtain⟨a,c,rfl⟩:=aK d;obtain⟨v1,w1,w,b,g⟩:=ug W B a c l d A;obtain⟨Q,K,rfl⟩:=aK b;obtain⟨N,f⟩:∃ N,l.length=N:=⟨_,rfl⟩;rw [f] at w b A ⊢;have R:=H f;have L:=H b;have M:=H g;clear d b g f;go_enter func59,ntmps59;go_wp2_with (at_builtin;refine cY rfl (.const (C)) (.tmp 8) (by with_reducible rfl) rfl rfl rfl w ?_);go_loopw [12] (λi q=>∃ k:Nat,k<=N/\i=I k/\∃ m:List Nat,Hid (m.length=N)/\Hid (SrtI l m k (k+1))/\Hid (q.ownsRow W.heap.size 23 1 (.slice Q N K) N (Us m))/\Hid (D W q)) (λi _=>N-(intOf i).toNat);case atStart=>exact ⟨0,FH _,rfl,l,R,H (SrtI.start l),L,M⟩
 case round =>
  clear L M w;obtain⟨k,hk,rfl,m,b,f,d,n⟩:=hrel;by_cases r:k<N
  ·obtain⟨G,rfl⟩:=cr d Z;go_wp2;go_loopw [5] (λi q=>∃ j:Nat,k+1<=j/\j<=N/\i=I j/\∃ m:List Nat,Hid (m.length=N)/\Hid (SrtI l m k j)/\Hid (q.ownsRow W.heap.size 23 1 (Vl G N K) N (Us m))/\Hid (D W q)) (λi _=>N-(intOf i).toNat);(case atStart=>exact ⟨k+1,Fv _,Z,aY,m,b,f,d,n⟩);case round =>
    clear b f d n;obtain⟨j,S,hj,rfl,m,b,f,d,n⟩:=hrel;by_cases s:j<N
    ·obtain⟨x,t⟩:∃ x,m[k]?=some x:=⟨_,Fy (by rw [b.out];exact r)⟩;obtain⟨y,p⟩:∃ y,m[j]?=some y:=⟨_,Fy (by rw [b.out];exact s)⟩;have ck:=bC d k _ (ny t);have cj:=bC d j _ (ny p);by_cases z:y<x
     ·have u:=H (f.swap Z t p z);have g:=dP d k (by rw [fK,b.out];exact r) (U y);have o:=dP g j (by rw [Gj,fK,b.out];exact s) (U x);rw [sg,sg] at o;have T:=bC g j (U y) (by rw [Gr,GO Z];exact ny p);have O:W.heap.size<=G:=(aF d rfl).1;have V:=H o;have X:(y:Int)<(x:Int):=Z;have fk:=oG d k;have fj:=oG g j;have Y:=oG d j;have a0:¬(k=j):=Z;have P:¬(j=k):=Z;clear t p f g o;go_wp2;go_region;go_wp2;go_region;go_wp2;go_roundw;(case rel=>exact ⟨j+1,Z,Z,aY,_,H (by rw [Gj,Gj];exact b),u,H V,H ((n.setCell O _).setCell O _).drew.drew⟩);case measure=>(simp [intOf];try omega)
     have u:=H (f.keep t p Z);have X:¬((y:Int)<(x:Int)):=Z;clear t p f;go_wp2;go_region;go_wp2;go_roundw;(case rel=>exact ⟨j+1,Z,Z,aY,m,b,u,H d,H n.drew⟩);case measure=>(simp [intOf];try omega)
    obtain rfl:j=N:=Z;have u:=H (f.next (by rw [b.out];exact Fv _));clear f;go_wp2;go_roundw;(case rel=>exact ⟨k+1,Z,aY,m,b,u,d,n⟩);case measure=>(simp [intOf];try omega)
  obtain rfl:k=N:=Z;go_wp2;go_ret;exact⟨m,_,rfl,f.perm,f.done (by rw [b.out];exact Fv _),by rw [b.out];exact d,n⟩
end
end Go.Proofs.YtibblbenmpcplaaGreatDoor
