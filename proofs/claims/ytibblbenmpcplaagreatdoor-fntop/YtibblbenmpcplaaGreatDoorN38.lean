import Derived.Test.YtibblbenmpcplaaGreatDoorN30
import Derived.Test.YtibblbenmpcplaaGreatDoorN31
set_option linter.unusedVariables false
set_option linter.unusedSimpArgs false
set_option maxRecDepth 20000
set_option maxHeartbeats 8000000
namespace Go.Proofs.YtibblbenmpcplaaGreatDoor
open Go.Proofs.Tryz
variable {B M P R S c cap dc g k r s w:Nat} {sm:Nat->Nat} {v:Value} {V W W':World} {da:Option Addr} {cf:Cf}
section
open Go.ChangeShapes Go.WideShapes Go.ChangeAt Go.RowKit
theorem yy (m:Nat) (lim) (w:World) (b:m<=16) :
  Calls prog 35 #[I m,I lim] w λe i=>∃ g,e=.returned (.agg #[Vl g m m,C,I lim])/\RowV i g 3 (Ns .i64 (List.replicate m (-1)))/\w.heap.size<=g/\D w i:=by
 have j:=H (λW q (hr:RowV W q 3 (Ns .i64 [-1]))=>vB q m W b hr);have a:=lF w (.cells #[C,C,I 0] 94) (.cells #[I (-1)] 3);have c:=H (show RowV ((w.alloc (.cells #[C,C,I 0] 94)).alloc (.cells #[I (-1)] 3)) (w.heap.size+1) 3 (Ns .i64 [-1]) from rowOf a.2.1);have k:=H a.1;have l:=H a.2.2;clear a b;go_enter func35,ntmps35;go_wp2_with fail;refine (j _ _ c).mono ?_;rintro e b ⟨g,rfl,n,d,f⟩;have a:=ae k f;have q:=H n;have o:=H (show w.heap.size+1<g by have:=c.lt;omega);have r:=H (az l f);clear n d f j c k l;have d:b.cell? ⟨w.heap.size,0,none⟩=some (C):=bJ a;have f:b.cell? ⟨w.heap.size,1,none⟩=some (C):=bJ a;have j:b.cell? ⟨w.heap.size,2,none⟩=some (I 0):=bJ a;have f0:b.frozen? ⟨w.heap.size,0,none⟩=false:=GY _ _ _ _ _ a;have f1:b.frozen? ⟨w.heap.size,1,none⟩=false:=GY _ _ _ _ _ a;have f2:b.frozen? ⟨w.heap.size,2,none⟩=false:=GY _ _ _ _ _ a;have c:=H a;clear a;go_wp2;refine GX (Gq dU _ _ w.heap.size 94 _ (0,0) _ dU (set3 c _ _ _) underlying94 rfl E) dU ?_;refine⟨g,rfl,((q.other (p:=⟨_,_,none⟩) ?_ _).other (p:=⟨_,_,none⟩) ?_ _).other (p:=⟨_,_,none⟩) ?_ _,by have:=o.out;omega,((r.setCell (p:=⟨_,_,none⟩) (Fv _) _).setCell (p:=⟨_,_,none⟩) (Fv _) _).setCell (p:=⟨_,_,none⟩) (Fv _) _⟩
 all_goals (have:=o.out;dsimp only;omega)
end
section
open Go.RowKit Go.Maps
theorem AL (g) (w:World):(Instr.typeAssert (.iface 168 (J g 0)) 101 168 true).run prog w=.ok (.tuple #[J g 0,.bool true]) w:=E
theorem Cw {a:Nat} (e:c<12):(co (a:Int)==(c:Int))=decide (a<=1016/\fD a=c):=by
 by_cases h:a<=1016
 ·obtain⟨d,_⟩:=zO h;rw [d];by_cases b:fD a=c;·simp [h,b]
  have:((fD a:Int)==(c:Int))=false:=bG;rw [this];simp [b]
 rw [show co (a:Int) = -1 from iX _ Z 12 0];have:((-1:Int)==(c:Int))=false:=bH;rw [this];simp [h]
theorem om (g b c s j) (a:Nat) (W) (h:Sc g b c s j W) :
  Calls prog 74 #[.iface 158 (J g 0),U a] W λe W'=>e=.returned (.bool (decide (a<=1016/\fD a=c)))/\D W W':=by
 have f:=H (λV (d:D W V)=>lB (a:Nat) Z V (h.below d).tb);have i:=H (Cw (a:=a) h.hc);have n:=λw=>BJ g w
 obtain⟨k,_,l,_,_,_,_,_⟩:=h;generalize d:decide (a<=1016/\fD a=c)=bb at *;clear d;generalize co (a:Int)=x at *;go_enter func74,ntmps74;go_upto_region 4 with fail
 refine rh (S:=λd=>d.cell? ⟨g,2,none⟩=some (J b 0)/\d.cell? ⟨b,0,none⟩=some (I c)) ?_;have d:=(⟨k,l⟩:W.drew.cell? ⟨g,2,none⟩=some (J b 0)/\W.drew.cell? ⟨b,0,none⟩=some (I c));refine py d ?_;simp only [f0,f1,Nat.reduceAdd,lz,l0,ls];refine pk 2 (J g 0) d ?_;refine pk 3 (J g 0) d ?_;refine pk 4 (J g 2) d ?_;refine pz 5 (J b 0) d ?_;refine pk 6 (J b 0) d ?_;refine pk 7 (J b 0) d ?_;refine pz 8 (I c) d ?_;refine po 1 λK' m=>?_;go_simp;refine (f _ (Fu _ _).drew).mono ?_;rintro e o ⟨rfl,rfl⟩;refine m _ _ ⟨d,?_⟩;clear m K'
 iterate 2 (refine py d ?_;simp only [f0,f1,Nat.reduceAdd,lz,l0,ls])
 refine bY ?_;rw [i.out];clear d k l f i;go_wp2;go_ret;exact⟨rfl,(Fu _ _).drew⟩
theorem nU (g) (a:Nat) (r W) (h:Lc g r W) (ha:a<18446744073709551616) :
  Calls prog 74 #[.iface 168 (J g 0),U a] W λe W'=>e=.returned (.bool (decide (1016<a/\aR a=r.pages)))/\D W W':=by
 have f:=H (λV=>km a V ha);have o:=λw=>CY g w
 have n:=λw=>AL g w
 have d:=h.c4;clear h;by_cases l:1016<a
 ·have c:=H (show decide (1016<a/\aR a=r.pages)=(((aR a:Nat):Int)==((r.pages:Nat):Int)) by
   by_cases e:aR a=r.pages;·simp [l,e]
   have:(((aR a:Nat):Int)==((r.pages:Nat):Int))=false:=bG;rw [this];simp [e])
  have i:decide ((1016:Int)<(a:Int))=true:=bG;generalize decide (1016<a/\aR a=r.pages)=p at *;generalize aR a=j at *;generalize r.pages=rp at *;go_enter func74,ntmps74;go_upto_region 7 with fail
  refine rh (S:=λk=>k.cell? ⟨g,4,none⟩=some (I rp)) ?_;have b:=(d:W.drew.cell? ⟨g,4,none⟩=some (I rp));refine pk 0 (U a) b ?_;refine pz 1 (.bool true) b ?_;refine pk 2 (.bool true) b ?_;refine pk 3 (U a) b ?_;refine pk 5 (J g 0) b ?_;refine pk 6 (J g 0) b ?_;refine pk 7 (J g 4) b ?_;refine pz 8 (I rp) b ?_;refine po 4 λK' m=>?_;go_simp;refine (f _).mono ?_;rintro e q ⟨rfl,rfl⟩;refine m _ _ ⟨b,?_⟩;clear m K';refine pk 9 (.bool ((j:Int)==(rp:Int))) b ?_;refine pk 10 (.bool ((j:Int)==(rp:Int))) b ?_;refine pk 11 (.bool ((j:Int)==(rp:Int))) b ?_;refine bY ?_;rw [<-c.out];clear b d f c;go_wp2;go_ret;exact⟨rfl,(Fu _ _).drew⟩
 have c:=H (show decide (1016<a/\aR a=r.pages)=false by simp [l]);rw [c.out];have i:decide ((1016:Int)<(a:Int))=false:=bG;clear c;generalize r.pages=rp at *;go_enter func74,ntmps74;go_upto_region 7 with fail
 refine rh (S:=λk=>k.cell? ⟨g,4,none⟩=some (I rp)) ?_;have b:=(d:W.drew.cell? ⟨g,4,none⟩=some (I rp));refine pk 0 (U a) b ?_;refine pz 1 (.bool false) b ?_;refine pk 2 (.bool false) b ?_;refine ps 3 b ?_;refine ps 4 b ?_;refine ps 5 b ?_;refine ps 6 b ?_;refine ps 7 b ?_;refine ps 8 b ?_;refine ps 9 b ?_;refine pk 10 (.bool false) b ?_;refine pk 11 (.bool false) b ?_;refine bY ?_;clear b d f;go_wp2;go_ret;exact⟨rfl,(Fu _ _).drew⟩
theorem zi (w:World):(binOp .eql 20 .nilIface .nilIface).run prog w=.ok (.bool true) w:=E
theorem As (c) (w:World):(binOp .eql 20 (.iface 98 (.agg #[I c])) .nilIface).run prog w=.ok (.bool false) w:=E
theorem Bq (c) (w:World):(Instr.typeAssert (.iface 98 (.agg #[I c])) 20 98 true).run prog w=.ok (.tuple #[.agg #[I c],.bool true]) w:=E
theorem Ar (X2 X4) (W:World) :
  CallsD prog 37 #[J X2 0,J X4 0] .returning W λe a W'=>e=.returned (.tuple #[])/\a=.returning/\W'=W:=by
 have d:=zi;refine callsD_of_wpS func37 rfl λb f c=>?_;apply wpS_seq;apply wpS_region;simp [wpOpsS,go_sem,recoverD,c,ntmps37,Exit.thenS];refine wpS_of_wp ?_;go_wp2
 cases b
 simp_all [bodyPostS,results,Tryz.results37]
def Fp (B:Nat) (y:Ly) (cf:Cf) (h:Hs) (an:Value) (j:Nat) (code:Int) (W:World) (e:Ending) (t:FrameMode) (W':World):Prop:=e=.returned (.tuple #[])/\t=.panicking [{ v:=.iface 98 (.agg #[I code]),recovered:=true }]/\∃ V i,D W V/\Hg B y cf h an i/\Bi B V i/\W'=i.setRow j #[I code,U 0,I 0,C]
theorem xT (B) (y:Ly) (cf h an) (f b:Nat) (code) (W:World) (e:W.cell? ⟨f,0,none⟩=some (J y.P 0)) (g:W.heap[b]?=some (.cells #[I 0,U 0,I 0,C] 44)) (i:Tk B y cf h an W) :
  CallsD prog 37 #[J f 0,J b 0] (.panicking (ip code)) W (Fp B y cf h an b code W):=by
 have o:=As code;have p:=Bq code;have a:D W (W.alloc (.cells #[I code] 98)):=(Fu _ _).alloc (Fv _) _;have c:=ad a e;have j:=H (i _ a);have d:=H (ae g a);have m:=H a;have k:=ao W (.cells #[I code] 98);clear i e g a;refine callsD_of_wpS func37 rfl λq r g=>?_;unfold ip at g;apply wpS_seq;apply wpS_region;simp [wpOpsS,go_sem,recoverD,g,ntmps37,Exit.thenS];simp only [FP,FO,FY,FV,F5,Iv,Fw,FA,FB];refine wpS_of_wp ?_;go_wp2_with fail;refine (j).mono ?_;rintro e V ⟨rfl,i,a⟩;have n:=H (a.ky.cells _ _ _ _ d (by unfold hI;decide));have s:=cN (a.ky.cells _ _ _ _ k (by unfold hI;decide));have l:=H (IT i a);clear i a j c k;go_wp2_with (refine eG n ?_);refine⟨rfl,_,rfl,.tuple #[],by simp [results,Tryz.results37],rfl,rfl,_,V,m,l.1,l.2,rfl⟩
def Dw (sm:Nat->Nat) (n:Nat):List Value:=(List.range n).map λj=>J (sm j) 0
theorem w_ (sm:Nat->Nat) (n x:Nat):Dw (λk=>if k=n then x else sm k) (n+1)=Dw sm n++[J x 0]:=by
 unfold Dw;rw [Gs,Hr];congr 1
 ·refine List.map_congr_left λk a=>?_;have:=Gh.1 a;have e:¬k=n:=Z
  simp [e]
 simp
structure Sl9 (B g c s n:Nat) (sm:Nat->Nat) (v:Value) (W:World):Prop where
 box:W.heap[g]?=some (.cells #[I c,I s,.bool false,v] 157)
 row:W.ownsRow B 158 1 v n (Dw sm n)
 sms:∀ j,j<n->W.heap[sm j]?=some (.cells (t5 0 0 g j) 162)/\B<=sm j
 inj:∀ i j,i<n->j<n->sm i=sm j->i=j
 bg:B<=g
theorem Sl9.ky {S n} (h:Sl9 B g c s n sm v W) (k:Ky S W W') (b:¬S 157) (d:¬S 158) (e:¬S 162):Sl9 B g c s n sm v W' :=
 ⟨k.cells _ _ _ _ h.box b,ai h.row k d,λj a=>⟨k.cells _ _ _ _ (h.sms j a).1 e,(h.sms j a).2⟩,h.inj,h.bg⟩
theorem Sl9.below {B g c s n sm v W W'} (h:Sl9 B g c s n sm v W) (b:D W W'):Sl9 B g c s n sm v W' :=
 h.ky (Ky.below b:Ky (λ_=>False) W W') (λe=>e) (λe=>e) (λe=>e)
theorem Sl9.add {n} (h:Sl9 B g c s n sm v V) (t:B<=V.heap.size) (hn:n<=100) :
  ∃ f a,(Builtin.append_ #[155,155] 155 #[v,Vl (V.heap.size+1) 1 1]).run prog ((V.alloc (.cells (t5 0 0 g n) 162)).alloc (.cells #[J V.heap.size 0] 158))=.ok f a/\a.cell? ⟨g,3,none⟩=some v/\a.frozen? ⟨g,3,none⟩=false/\Sl9 B g c s (n+1) (λk=>if k=n then V.heap.size else sm k) f (a.setCell ⟨g,3,none⟩ f)/\Below B V (a.setCell ⟨g,3,none⟩ f):=by
 obtain⟨Q,z,A,F,G⟩:=G0 ul;obtain⟨m,b⟩:∃ m,m=V.alloc (.cells (t5 0 0 g n) 162):=⟨_,rfl⟩;obtain⟨l,o⟩:∃ l,l=m.alloc (.cells #[J V.heap.size 0] 158):=⟨_,rfl⟩;have R:m.heap.size=V.heap.size+1:=by rw [b];exact aO _ _
 have w:D V m:=by rw [b];exact (Fu _ _).alloc (Fv _) _
 have x:D m l:=by rw [o];exact (Fu _ _).alloc (Fv _) _
 have S:m.heap[V.heap.size]?=some (.cells (t5 0 0 g n) 162):=by rw [b];exact ao _ _
 have T:l.heap[V.heap.size]?=some (.cells (t5 0 0 g n) 162):=ae S x;have W:l.heap[V.heap.size+1]?=some (.cells #[J V.heap.size 0] 158):=by rw [o,<-R];exact ao _ _
 have p:=(h.below w).below x;have q:B<=l.heap.size:=Fx (Fx t w.size) x.size;rw [<-b,<-o];obtain⟨f,a,X,Y,O,_⟩:=Ia (P:=prog) l B 155 155 158 Q (.pointer none) 1 8 underlying155 z A F G rfl Z v n (Dw sm n) p.row ⟨V.heap.size+1,0,none⟩ 1 1 [J V.heap.size 0] rfl (λj u r=>by
  cases j with
  | zero=>simp at r;subst r;rw [Addr.add_mid];exact cN W
  | succ j=>simp at r) (λu b=>by simp at b;subst b;rfl) (by unfold maxLen;omega) Z q
 have K:Ky (· = 158) l a:=Ky.grownO (λP L=>by obtain ⟨_,c,d⟩:=aF p.row L;exact⟨c,158,_,d,rfl⟩) O;have d:=K.cells _ _ _ _ p.box ar;have M:Ky (· = 157) a (a.setCell ⟨g,3,none⟩ f):=Ky.grown d rfl (au (al a g) 3 f);refine⟨f,a,X,by simp [World.cell?,d],by simp [World.frozen?,d],⟨by simp [World.setCell,FD,d],?_,λj r=>?_,λi j hi r e=>?_,h.bg⟩,?_⟩;·rw [w_];exact ai Y M ar
 ·by_cases e:j=n;·rw [GP e,e];exact⟨M.cells _ _ _ _ (K.cells _ _ _ _ T ar) ar,t⟩
  rw [GO e];have:=p.sms j Z;exact⟨M.cells _ _ _ _ (K.cells _ _ _ _ this.1 ar) ar,this.2⟩
 ·by_cases N:i=n
  ·by_cases y:j=n;·omega
   rw [GP N,GO y] at e;have:=ag (h.sms j Z).1;omega
  by_cases y:j=n;·rw [GO N,GP y] at e;have:=ag (h.sms i Z).1;omega
  rw [GO N,GO y] at e;exact h.inj i j Z Z e
 exact (((w.mono t).trans (x.mono (Fx t w.size))).grown O q (λP L=>(aF p.row L).1)).setCell h.bg _
structure Slb (B:Nat) (W:World) (c s g r cap:Nat) (sm:Nat->Nat):Prop where
 box:W.heap[g]?=some (.cells (CZ c s false r (aM c) cap) 157)
 row:RowV W r 158 ((List.range (aM c)).map λj=>J (sm j) 0)
 sms:∀ j,j<aM c->W.heap[sm j]?=some (.cells (t5 0 0 g j) 162)/\B<=sm j
 inj:∀ i j,i<aM c->j<aM c->sm i=sm j->i=j
 bg:B<=g
 br:B<=r
theorem Sl9.done (h:Sl9 B g c s (aM c) sm v W) (a:c<12):∃ r cap,Slb B W c s g r cap sm:=by
 have e:=aX a;rcases h.row.2 with ⟨_,f⟩|⟨r,cap,b,rfl,d,i,j,k,l,m⟩;·omega
 exact⟨r,cap,h.box,RowV.ofOwns h.row,h.sms,h.inj,h.bg,d⟩
theorem tf (c s:Nat) (d:c<12) (W) (a:Tb W) :
  Calls prog 36 #[I c,I s] W λe W'=>∃ g r cap sm,e=.returned (J g 0)/\Slb W.heap.size W' c s g r cap sm/\D W W':=by
 have m:=aX d;have b:=H (λV (f:D W V)=>gK (c:Nat) V (a.ofBelow f));rw [vA d] at b;have q:=H (λB g sm v V (h:Sl9 B g c s (aM c) sm v V)=>h.done d);have l:=H (show Sl9 W.heap.size W.heap.size c s 0 (λ_=>0) (C) (W.alloc (.cells #[I c,I s,.bool false,C] 157)) from ⟨ao W _,⟨rfl,.inl ⟨rfl,rfl⟩⟩,λj d=>Z,λi j d=>Z,Fv _⟩);have j:D W (W.alloc (.cells #[I c,I s,.bool false,C] 157)):=(Fu _ _).alloc (Fv _) _;have f:=H j;clear j a;have t:aM c<=64:=Z;generalize aM c=n at *;clear m;go_enter func36,ntmps36;go_wp2_with fail;refine (b _ f).mono ?_;rintro e V ⟨rfl,a⟩;rw [a];clear a V b;generalize W.alloc (.cells #[I c,I s,.bool false,C] 157)=u at *;obtain⟨g,a⟩:∃ g,g=W.heap.size:=⟨_,rfl⟩;rw [<-a];have m:=H (show Sl9 W.heap.size g c s 0 (λ_=>0) (C) u by rw [a];exact l);clear l a;go_wp2;go_loopw [13] (λi wr=>∃ (k:Nat) (sm:Nat->Nat) (v:Value),k<=n/\i=I k/\Hid (Sl9 W.heap.size g c s k sm v wr)/\Hid (D W wr)) (λi _=>n-(intOf i).toNat);case atStart=>exact ⟨0,_,_,FH _,rfl,m,f⟩
 case round =>
  clear m f;obtain⟨k,sm,v,F,rfl,b,j⟩:=hrel;by_cases w:k<n
  ·obtain⟨x,y,z,rfl⟩:=aA b.row;obtain⟨G,K,a,L,f3,l,o⟩:=b.add j.size Z;obtain⟨M,N,wc,rfl⟩:=aA l.row;have p:=H (IT l (j.trans o));have A:wr.cell? ⟨g,3,none⟩=some (.slice x y z):=(by simp [World.cell?,b.box]);clear l o;unfold t5 at a;go_wp2_with (at_builtin;refine cY rfl _ _ rfl rfl rfl rfl a ?_);go_wp2;go_roundw;(case rel=>exact ⟨k+1,_,_,Z,aY,H p.1,H p.2⟩);case measure=>simp [intOf];omega
  obtain rfl:k=n:=Z;go_wp2;go_ret;obtain⟨r,cap,a⟩:=q.out _ _ _ _ _ b.out;exact⟨g,r,cap,sm,rfl,a,j⟩
structure D2 where
 g:Nat
 r:Nat
 cap:Nat
 sm:Nat->Nat
structure Do where
 m:Nat
 r:Nat
 g:Nat
 q:Nat
def Eo (mix:Nat) (q:Do) (k:Nat):Value:=if k=0 then J q.m 0 else if k=1 then J q.g 0 else if mix=0 then .iface 63 (J q.g 0) else .iface 62 (J q.m 0)
def nw (cf:Cf) (da:Option Addr) (dc S R:Nat) (fl:Nat->D2) (e:Nat->Do) (k w:Nat) (i:Nat):Value :=
 if i<7 then ([I cf.mix,I cf.fifo,I cf.large,I cf.bud,U cf.key,.slice da cf.ds.length dc,J S 0]:List Value)[i]?.getD undef
 else if i<79 then (if i-7<k then J ((fl (i-7)).g) 0 else .pointer none)
 else if i<115 then (if (i-79)/3<w then Eo cf.mix (e ((i-79)/3)) ((i-79)%3) else if (i-79)%3=2 then .nilIface else .pointer none)
 else ([.map (some R),C,C,I 0,C,.nilFunc]:List Value)[i-115]?.getD undef
structure Nh (B P S M R:Nat) (da:Option Addr) (dc:Nat) (cf:Cf) (fl:Nat->D2) (qs:Nat->Do) (k w:Nat) (W:World):Prop where
 box:Bxh P (nw cf da dc S R fl qs k w) W
 bW:B<=W.heap.size
 ds:Sl W da cf.ds
 dab:∀ a,da=some a->a.block<B
 sp:Im S M 0 283 (cf.bud:Nat) (λ_=>none) W
 mp:Mr R 0 (λ_=>none) W
 bP:B<=P
 bS:B<=S
 bM:B<=M
 bR:B<=R
 mr:M≠R
 sl:∀ i,i<k->Slb B W (i/6) (i%6) (fl i).g (fl i).r (fl i).cap (fl i).sm
 is:∀ i j,i<k->j<k->i≠j->(fl i).g≠(fl j).g/\∀ a b,a<aM (i/6)->b<aM (j/6)->(fl i).sm a≠(fl j).sm b
 wt:∀ c,c<w->Qr W (qs c).m (qs c).r (qs c).g (qs c).q cf.fifo (List.replicate cf.mix (-1)) []/\B<=(qs c).m/\B<=(qs c).r/\B<=(qs c).g/\B<=(qs c).q
 iq:∀ c c',c<w->c'<w->c≠c'->(qs c).r≠(qs c').r/\(qs c).r≠(qs c').q/\(qs c).q≠(qs c').q/\(qs c).g≠(qs c').g
 tb:Tb W
 b0:0<B
theorem Slb.ky {S} (h:Slb B W c s g r cap sm) (k:Ky S W W') (b:¬S 157) (d:¬S 158) (e:¬S 162):Slb B W' c s g r cap sm :=
 ⟨k.cells _ _ _ _ h.box b,cL h.row k d,λj a=>⟨k.cells _ _ _ _ (h.sms j a).1 e,(h.sms j a).2⟩,h.inj,h.bg,h.br⟩
theorem Slb.mono {b:Nat} (h:Slb B W c s g r cap sm) (a:b<=B):Slb b W c s g r cap sm :=
 ⟨h.box,h.row,λj d=>⟨(h.sms j d).1,Fx a (h.sms j d).2⟩,h.inj,Fx a h.bg,Fx a h.br⟩
theorem Nh.below {B P S M R da dc cf fl qs k w W W'} (h:Nh B P S M R da dc cf fl qs k w W) (b:D W W'):Nh B P S M R da dc cf fl qs k w W':=by
 have a:Ky (λ_=>False) W W':=Ky.below b;obtain⟨j,c,f⟩:=h.mp.typ;exact⟨h.box.ky a (λe=>e),Fx h.bW b.size,h.ds.below b,h.dab,h.sp.ky a (λe=>e) (b.block _ h.sp.lt.2),h.mp.same (b.block _ (ag f)),h.bP,h.bS,h.bM,h.bR,h.mr,λi g=>(h.sl i g).ky a (λe=>e) (λe=>e) (λe=>e),h.is,λc d=>⟨(h.wt c d).1.ky a (λe=>e) (λe=>e) (λe=>e),(h.wt c d).2⟩,h.iq,h.tb.ofBelow b,h.b0⟩
theorem Nh.setP {fl qs} (h:Nh B P S M R da dc cf fl qs k w W) (j:Nat) (v:Value):Ky (· = 71) W (W.setCell ⟨P,j,none⟩ v)/\Below B W (W.setCell ⟨P,j,none⟩ v)/\(W.setCell ⟨P,j,none⟩ v).heap[M]?=W.heap[M]?/\(W.setCell ⟨P,j,none⟩ v).heap[R]?=W.heap[R]?:=by
 have f:M≠P:=λe=>by
  obtain⟨c,d,_⟩:=h.box;obtain⟨a,⟨g,i,b,_⟩,_⟩:=h.sp.map;rw [e,d] at b;cases b
 have a:R≠P:=λe=>by
  obtain⟨c,d,_⟩:=h.box;obtain⟨g,i,b⟩:=h.mp.typ;rw [e,d] at b;cases b
 exact⟨h.box.kyS j v,(Fu B W).setCell h.bP _,GQ _ _ _ _ f,GQ _ _ _ _ a⟩
theorem Nh.addS {fl qs} (h:Nh B P S M R da dc cf fl qs k w V) (b:D V W) (f:Slb V.heap.size W (k/6) (k%6) g r cap sm) (K:k<72) :
  Nh B P S M R da dc cf (λi=>if i=k then ⟨g,r,cap,sm⟩ else fl i) qs (k+1) w (W.setCell ⟨P,7+k,none⟩ (J g 0)):=by
 have d:=h.below b;obtain⟨n,q,x,y⟩:=d.setP (7+k) (J g 0);have z:=h.bW;have u:=d.box.set (7+k) Z (J g 0);have A:kK (nw cf da dc S R fl qs k w) (7+k) (J g 0)=nw cf da dc S R (λi=>if i=k then ⟨g,r,cap,sm⟩ else fl i) qs (k+1) w:=by
  funext i;unfold kK nw;by_cases e:i=7+k;·subst e;rw [GP rfl,GO Z,GP Z,GP Z];simp
  rw [GO e];by_cases l:i<7;·rw [GP l,GP l]
  rw [GO l,GO l];by_cases a:i<79
  ·rw [GP a,GP a];by_cases j:i-7<k;·rw [GP j,GP Z];simp [show ¬(i-7=k) by omega]
   rw [GO j,GO Z]
  rw [GO a,GO a]
 rw [A] at u;refine⟨u,Fx d.bW q.size,d.ds.belowB q h.dab,h.dab,d.sp.ky n ar x,d.mp.same y,h.bP,h.bS,h.bM,h.bR,h.mr,λi o=>?_,λi j o L s=>?_,λc v=>⟨(d.wt c v).1.ky n ar ar ar,(d.wt c v).2⟩,h.iq,d.tb.belowB q h.b0,h.b0⟩
 ·by_cases e:i=k;·subst e;simp only [GP];exact (f.mono z).ky n ar ar ar
  simp only [GO e];exact (d.sl i Z).ky n ar ar ar
 have l:∀ i,i<k->(fl i).g<V.heap.size/\∀ a,a<aM (i/6)->(fl i).sm a<V.heap.size:=λi o=>⟨ag (h.sl i o).box,λa ha=>ag ((h.sl i o).sms a ha).1⟩
 by_cases p:i=k
 ·have m:¬j=k:=Z;have:=l j Z;simp only [GP p,GO m];refine⟨by have:=f.bg;omega,λa b ha t=>?_⟩;have F:=(f.sms a (by rw [<-p];exact ha)).2;have G:=this.2 b t;omega
 by_cases m:j=k;·have:=l i Z;simp only [GO p,GP m];refine⟨by have:=f.bg;omega,λa b ha t=>?_⟩;have F:=(f.sms b (by rw [<-m];exact t)).2;have G:=this.2 a ha;omega
 simp only [GO p,GO m];exact h.is i j Z Z s
theorem Nh.addW {fl qs} (h:Nh B P S M R da dc cf fl qs k w V) (b:D V W) {m q} (K:Qr W m r g q cf.fifo (List.replicate cf.mix (-1)) []) (hb:V.heap.size<=m/\V.heap.size<=r/\V.heap.size<=g/\V.heap.size<=q) (hw:w<12) (x:W'=((W.setCell ⟨P,79+w*3,none⟩ (J m 0)).setCell ⟨P,79+w*3+1,none⟩ (J g 0)).setCell ⟨P,79+w*3+2,none⟩ (if cf.mix=0 then .iface 63 (J g 0) else .iface 62 (J m 0))) :
  Nh B P S M R da dc cf fl (λi=>if i=w then ⟨m,r,g,q⟩ else qs i) k (w+1) W':=by
 have d:=h.below b;obtain⟨c,j,L,N⟩:=d.box;obtain⟨s,p⟩:∃ s,s=(if cf.mix=0 then .iface 63 (J g 0) else .iface 62 (J m 0):Value):=⟨_,rfl⟩;rw [<-p] at x;have y:=((d.box.set (79+w*3) Z (J m 0)).set (79+w*3+1) Z (J g 0)).set (79+w*3+2) Z s;rw [<-x] at y;have t:W.grownBy W' (some P):=by rw [x];exact au (au (au (al W P) _ _) _ _) _ _
 have u:Ky (· = 71) W W':=Ky.grown j rfl t;have z:Below B W W':=(Fu B W).grown t d.bW (λr a=>by simp at a;have:=h.bP;omega);have O:M≠P:=λe=>by
  obtain⟨a,⟨A,F,d,_⟩,_⟩:=d.sp.map;rw [e,j] at d;cases d
 have Q:R≠P:=λe=>by
  obtain⟨A,F,d⟩:=d.mp.typ;rw [e,j] at d;cases d
 have T:W'.heap[M]?=W.heap[M]?:=t.block _ d.sp.lt.2 (by simpa using O);have X:W'.heap[R]?=W.heap[R]?:=by
  obtain⟨A,F,a⟩:=d.mp.typ;exact t.block _ (ag a) (by simpa using Q)
 have Y:kK (kK (kK (nw cf da dc S R fl qs k w) (79+w*3) (J m 0)) (79+w*3+1) (J g 0)) (79+w*3+2) s=nw cf da dc S R fl (λi=>if i=w then ⟨m,r,g,q⟩ else qs i) k (w+1):=by
  funext i;unfold kK nw;by_cases l:i=79+w*3+2;·rw [GP l,GO Z,GO Z,GP Z,GP Z,show (i-79)/3=w by omega,show (i-79)%3=2 by omega,p];simp [Eo]
  rw [GO l];by_cases n:i=79+w*3+1;·rw [GP n,GO Z,GO Z,GP Z,GP Z,show (i-79)/3=w by omega,show (i-79)%3=1 by omega];simp [Eo]
  rw [GO n];by_cases G:i=79+w*3;·rw [GP G,GO Z,GO Z,GP Z,GP Z,show (i-79)/3=w by omega,show (i-79)%3=0 by omega];simp [Eo]
  rw [GO G];by_cases v:i<7;·rw [GP v,GP v]
  rw [GO v,GO v];by_cases f:i<79;·rw [GP f,GP f]
  rw [GO f,GO f];by_cases a:i<115
  ·rw [GP a,GP a];by_cases o:(i-79)/3<w;·rw [GP o,GP Z];simp [show ¬((i-79)/3=w) by omega]
   rw [GO o,GO (show ¬(i-79)/3<w+1 by omega)]
  rw [GO a,GO a]
 rw [Y] at y;have a:∀ c,c<w->(qs c).r<V.heap.size/\(qs c).g<V.heap.size/\(qs c).q<V.heap.size:=λc j=>by
  obtain⟨⟨q1,f⟩,⟨ps,o,hh,v,G,_⟩,_⟩:=(h.wt c j).1;exact⟨f.lt,ag v,G.lt⟩
 have hB:=h.bW;refine⟨y,Fx d.bW z.size,d.ds.belowB z h.dab,h.dab,d.sp.ky u ar T,d.mp.same X,h.bP,h.bS,h.bM,h.bR,h.mr,λi v=>(d.sl i v).ky u ar ar ar,h.is,λc j=>?_,λc f j G o=>?_,d.tb.belowB z h.b0,h.b0⟩
 ·by_cases e:c=w;·subst e;simp only [GP];exact⟨K.ky u ar ar ar,Z,Z,Z,Z⟩
  simp only [GO e];exact⟨(d.wt c Z).1.ky u ar ar ar,(d.wt c Z).2⟩
 by_cases n:c=w
 ·have l:¬f=w:=Z;have:=a f Z;simp only [GP n,GO l];exact⟨Z,Z,Z,Z⟩
 by_cases l:f=w;·have:=a c Z;simp only [GO n,GP l];exact⟨Z,Z,Z,Z⟩
 simp only [GO n,GO l];exact h.iq c f Z Z o
def Fa (P S M R:Nat) (da:Option Addr) (dc:Nat) (fl:Nat->D2) (e:Nat->Do):Ly where
 P:=P
 S:=S
 M:=M
 R:=R
 sb:=λc s=>(fl (c*6+s)).g
 sr:=λc s=>(fl (c*6+s)).r
 sc:=λc s=>(fl (c*6+s)).cap
 sm:=λc s j=>(fl (c*6+s)).sm j
 qm:=λc=>(e c).m
 qr:=λc=>(e c).r
 qg:=λc=>(e c).g
 qq:=λc=>(e c).q
 da:=da
 dc:=dc
def BP:Dy where
 f:=λ_=>none
 on:=λ_ _=>false
 lg:=λ_=>none
 ro:=C
 rl:=C
 an:=C
 un:=.nilFunc
theorem Nh.made {fl qs} (h:Nh B P S M R da dc cf fl qs 72 12 W):Hp B (Fa P S M R da dc fl qs) BP cf (aP cf) W/\Gd BP (aP cf) (C):=by
 have n:∀ c s:Nat,c<12->s<6->c*6+s<72/\(c*6+s)/6=c/\(c*6+s)%6=s:=λc s a d=>Z
 refine⟨⟨⟨h.b0,h.bP,h.bS,h.bM,h.bR,h.mr,λc s a d=>?_,λc s a d=>?_,λc s j a d u=>?_,λc a=>(h.wt c a).2,λc s p v a d m q e=>?_,λc s j p v A a d u m q w e=>?_,λc p a m y=>h.iq c p a m y,h.dab⟩,h.bW,?_,h.ds,h.sp,?_,(λk g e=>by cases e),λc s a d=>?_,λc s a d=>?_,λc s j a d u=>?_,λc a=>?_,h.mp,(λk=>rfl),(λr b=>by cases b),(λk F g e=>by cases e),?_,?_,?_,h.tb⟩,?_⟩;·obtain⟨f,l,t⟩:=n c s a d;exact (h.sl _ f).bg
 ·obtain⟨f,l,t⟩:=n c s a d;exact (h.sl _ f).br
 ·obtain⟨f,l,t⟩:=n c s a d;exact ((h.sl _ f).sms j (by rw [l];exact u)).2
 ·by_cases z:c*6+s=p*6+v;·exact⟨Z,Z⟩
  exact absurd e (h.is _ _ (n c s a d).1 (n p v m q).1 z).1
 ·obtain⟨f,l,t⟩:=n c s a d;obtain⟨b,i,o⟩:=n p v m q;by_cases z:c*6+s=p*6+v;·obtain⟨rfl,rfl⟩:c=p/\s=v:=⟨Z,Z⟩;exact⟨rfl,rfl,(h.sl _ f).inj j A (by rw [l];exact u) (by rw [l];exact w) e⟩
  exact absurd e ((h.is _ _ f b z).2 j A (by rw [l];exact u) (by rw [i];exact w))
 ·obtain⟨c,G,K,L⟩:=h.box;refine⟨c,G,K,λi N=>?_⟩;rw [L i N];unfold nw boxF;congr 1;by_cases x:i<7;·rw [GP x,GP x];rfl
  rw [GO x,GO x];by_cases o:i<79;·rw [GP o,GP o,GP Z];show _=Value.pointer (some ⟨(fl ((i-7)/6*6+(i-7)%6)).g,0,none⟩);rw [show (i-7)/6*6+(i-7)%6=i-7 by omega]
  rw [GO o,GO o];by_cases b:i<115;·rw [GP b,GP b,GP Z];rfl
  rw [GO b,GO b];rfl
 ·exact⟨λk=>.inl ⟨rfl,rfl⟩,λk F b e=>by cases e⟩
 ·obtain⟨f,l,t⟩:=n c s a d;have:=(h.sl _ f).box;rw [l,t] at this;exact this
 ·obtain⟨f,l,t⟩:=n c s a d;have:=(h.sl _ f).row;rw [l] at this;exact this
 ·obtain⟨f,l,t⟩:=n c s a d;exact ((h.sl _ f).sms j (by rw [l];exact u)).1
 ·exact (h.wt c a).1
 ·exact .inl ⟨rfl,rfl⟩
 ·exact⟨rfl,.inl ⟨rfl,rfl⟩⟩
 ·intro g e;cases e
 exact⟨λc s a d=>rfl,rfl,rfl⟩
end
end Go.Proofs.YtibblbenmpcplaaGreatDoor
