import Derived.Deep.AppendSrc
import Derived.Test.YtbcacchkcedffaaGreatDoorM03
import Derived.Test.YtbcacchkcedffaaGreatDoorM11
set_option linter.all false
set_option maxRecDepth 20000
set_option maxHeartbeats 0
namespace Go.Proofs.YtbcacchkcedffaaGreatDoor
open Go.Proofs.Tryz Go.RowKit Go.Maps Go.Shelf Go.ChangeShapes Go.WideShapes Go.ChangeAt
section
variable {W W':World}{u v:Value}{B c j s:Nat}{l:List Int}{y:Ly}{d:Dy}{cf:Cf}{h:Hs}
def kR(data:List Int):ByteArray:=data.foldl (λr n=>r.push (UInt8.ofNat n.toNat)) ByteArray.empty
def pS:∀(l:List Int)(r:ByteArray),(l.foldl (λr n=>r.push (UInt8.ofNat n.toNat)) r).data.toList=r.data.toList++l.map (λn=>UInt8.ofNat n.toNat)
 |[],r=>by simp
 |x::l,r=>by
  rw[List.foldl_cons,pS l]
  simp[ByteArray.push]
def vD(l):(kR l).data.toList=l.map (λn=>UInt8.ofNat n.toNat):=by unfold kR;rw[pS];rfl
def vQ{a b:ByteArray}(h:a.toList=b.toList):a=b:=by rw[Go.ByteArray.toList_eq,Go.ByteArray.toList_eq]at h;cases a;cases b;simp at h;exact congrArg ByteArray.mk h
def vU{a b}(ha:okB a)(i:okB b)(h:kR a=kR b):a=b:=by
 let e:=congrArg (λs:ByteArray=>s.data.toList) h;simp[vD]at e;let c:∀(a b:List Int),okB a->okB b->a.map (λn=>UInt8.ofNat n.toNat)=b.map (λn=>UInt8.ofNat n.toNat)->a=b:=by
  intro a;induction a with
  |nil=>intro b _ _ e;cases b with
   |nil=>rfl
   |cons y r=>simp at e
  | cons x l j=>
   intro b f g e;cases b with
   |nil=>simp at e
   |cons y r=>simp[It,List.cons.injEq]at e;let m:=f x bH;let o:=g y bH;let k:=congrArg UInt8.toNat e.1;rw[UInt8.toNat_ofNat',UInt8.toNat_ofNat',H4 Z,H4 Z]at k;rw[j r (λz d=>f z (by simp[d])) (λz d=>g z (by simp[d])) e.2];congr 1;omega
 exact c a b ha i e
def Bs(w:World)(u:Value)(data:List Int):Prop:=∃a c,u=.slice a data.length c/\∀i,i<data.length->∃g,a=some ⟨g,0,none⟩/\w.cell? ⟨g,i,none⟩=some (.int .u8 (data[i]?.getD 0))
def Bs.below{w data}(h:Bs w u data)(b:D w W):Bs W u data:=by let⟨a,c,e,d⟩:=h;exact⟨a,c,e,λi f=>by obtain⟨g,j,k⟩:=d i f;exact⟨g,j,NI b k⟩⟩
def te(h:W.ownsRow B 5 1 u l.length (Ns .u8 l)):Bs W u l:=by let⟨a,c,e⟩:=aK h;subst e;refine⟨a,c,rfl,λi b=>?_⟩;let⟨g,d⟩:=cr h Z;subst d;exact⟨g,rfl,bC h i _ (by simp[Ns,b])⟩
def BG{g n:Nat}(h:RowV W g 5 (Ns .u8 l))(a:l.length=n):Bs W (Vl g n n) l:=by subst a;exact⟨_,_,rfl,λi b=>⟨g,rfl,jZ h i b⟩⟩
def tF{w data}(h:Bs w u data):(convert 22 9 u).run prog w=.ok (.string (kR data)) w:=by
 obtain⟨a,c,rfl,d⟩:=h;rw[run_convert_bytes_string w 22 9 5 a data.length c underlying22 underlying5 underlying9];cases a with
 | none=>
  have:data=[]:=by
   cases data with
   |nil=>rfl
   |cons x r=>obtain⟨g,e,_⟩:=d 0 bH;cases e
  subst this;unfold Conv.bytesToString;simp[kR,Sem.run_pure]
 | some p=>
  apply run_bytesToString w p data.length c data;have:=run_loadCells_list (P:=prog) w p (data.map (Value.int .u8)) (λj v f=>by let b:=(Fz.1 f).1;simp at b;let⟨g,e,i⟩:=d j b;cases e;rw[Addr.add_mid,Oi,i,<-f];simp[b])
  simpa using this
def xu(u1 u2 d1 d2 w)(a:Bs w u1 d1)(b:Bs w u2 d2)(c:okB d1)(d:okB d2):
  Calls prog 112 #[u1,u2] w λe f=>e=QJ (.bool (d1==d2))/\f=w:=by
 have i:=tF a;have j:=tF b;have g:=H (show((kR d1).toList==(kR d2).toList)=(d1==d2) by
  by_cases e:d1=d2;·subst e;simp
  have:(kR d1).toList≠(kR d2).toList:=λh=>e (vU c d (vQ h))
  rw[QF.2 this,QF.2 e])
 generalize kR d1=k at*;generalize kR d2=l at*;go_wp2;go_ret;rw[<-g.out];exact QB
def gG(f:Nat->Nat->Bool)(c s:Nat)(v:Bool):Nat->Nat->Bool:=λc' e=>if c'=c/\e=s then v else f c' e
def Hp.setOn(b:Hp B y d cf h W)(i:c<12)(m:s<6)(v):Hp B y {d with on:=gG d.on c s v} cf h (W.setCell ⟨y.sb c s,2,none⟩ (.bool v))/\Bi B W (W.setCell ⟨y.sb c s,2,none⟩ (.bool v)):=by
 let p:=b.sl c s i m;let g:=au (Q6 W (y.sb c s)) 2 (.bool v);let k:=Ky.grown p rfl g;let q:=(Fu B W).grown g b.bW (λr t=>by simp at t;have:=b.ap.bsb c s i m;omega);let u:(W.setCell ⟨y.sb c s,2,none⟩ (.bool v)).heap[y.M]?=W.heap[y.M]?:=XB (λe=>by obtain⟨a,⟨w,x,l,_⟩,_⟩:=b.sp.map;rw[e,p]at l;cases l)
 let z:(W.setCell ⟨y.sb c s,2,none⟩ (.bool v)).heap[y.R]?=W.heap[y.R]?:=XB (λe=>by let⟨w,x,l⟩:=b.mp.typ;rw[e,p]at l;cases l)
 refine⟨⟨b.ap,Fx b.bW q.size,b.box.ky k ar,b.ds.belowB q b.ap.da,b.sp.ky k ar u,b.pg.ky k ar,b.bf,
 λa f n o=>?_,λc s i m=>cL (b.rw c s i m) k ar,λc s j i m A=>k.XC (b.sm c s j i m A),
 λc i=>(b.wt c i).ky k ar ar ar,b.mp.same z,b.lo,λr t=>by obtain⟨g,F,l,G⟩:=b.lb r t;exact⟨g,F,l,k.XC G⟩,b.li,b.ro.ky k ar,ai b.rl k,b.rr,b.tb.belowB q b.ap.b0⟩,Bi.ofGrown p (.inr (.inr (.inr (.inl rfl)))) (b.ap.bsb c s i m) b.bW g⟩
 by_cases e:a=c/\f=s
 .obtain⟨rfl,rfl⟩:=e;show(W.setCell ⟨y.sb a f,2,none⟩ (.bool v)).heap[y.sb a f]?=some (.cells (CZ a f (gG d.on a f v a f) _ _ _) 198);have:gG d.on a f v a f=v:=by unfold gG;rw[GP ⟨rfl,rfl⟩]
  rw[this];let l:=b.sl a f n o;simp[World.setCell,FD,l,CZ]
 show(W.setCell ⟨y.sb c s,2,none⟩ (.bool v)).heap[y.sb a f]?=some (.cells (CZ a f (gG d.on c s v a f) _ _ _) 198);have:gG d.on c s v a f=d.on a f:=by unfold gG;rw[GO e]
 rw[this,XB (λg=>e (by have:=b.ap.isb a f c s n o i m g;exact this))];exact b.sl a f n o
def Kl(lg:Nat->Option Nat)(d:Dy):Prop:=∀b g,lg b=some g->d.lg b=some g
def Kl.trans{lg d'}(h:Kl lg d)(k:Kl d.lg d'):Kl lg d':=λb g e=>k b g (h b g e)
def Kl.refl(d:Dy):Kl d.lg d:=λ_ _ e=>e
def Hgl(B:Nat)(y:Ly)(cf:Cf)(h:Hs)(an:Value)(lg:Nat->Option Nat)(W:World):Prop:=∃d,Hp B y d cf h W/\Gd d h an/\Kl lg d
def Hgl.hg{an lg}(k:Hgl B y cf h an lg W):Hg B y cf h an W:=by let⟨d,a,b,_⟩:=k;exact⟨d,a,b⟩
inductive EB(B:Nat)(y:Ly)(cf:Cf)(h:Hs)(an:Value)(lg:Nat->Option Nat)(c:Nat):Option (Nat×Hs)->Ending->World->Prop
 |yes (s:Nat) (h1:Hs) (W':World) (hg:Hgl B y cf h1 an lg W'):EB B y cf h an lg c (some (s,h1)) (.returned (J (y.sb c s) 0)) W'
 |no (W':World) (tk:Tk B y cf h an W'):EB B y cf h an lg c none (.panicked (ip 1)) W'
def kv(y:Ly)(c:Nat):List Value:=[J (y.sb c 0) 0,J (y.sb c 1) 0,J (y.sb c 2) 0,J (y.sb c 3) 0,J (y.sb c 4) 0,J (y.sb c 5) 0]
def Hp.range6(a:Hp B y d cf h W)(b:c<12):W.rangeAt y.P (7+c*6) (kv y c):=by
 intro j v hv;let e:j<6:=by have:=(Fz.1 hv).1;simpa[kv]using this
 have:=a.slabAt c j b e;rw[this,<-hv];rcases(show j=0\/j=1\/j=2\/j=3\/j=4\/j=5 by omega)with rfl|rfl|rfl|rfl|rfl|rfl<;>rfl
def uR(y c)(k:Nat)(a:k<6):(kv y c)[k]?=some (J (y.sb c k) 0):=by rcases(show k=0\/k=1\/k=2\/k=3\/k=4\/k=5 by omega)with rfl|rfl|rfl|rfl|rfl|rfl<;>rfl
def sQ{k:Nat}(e:k<6)(b:(dA h c k && !(freeS h c k).isEmpty)=true)(d:∀s,s<k->(dA h c s && !(freeS h c s).isEmpty)=false):NW h c=some k:=by
 unfold NW;rw[List.find?_eq_some_iff_append];refine⟨b,List.range k,(List.range (6-k-1)).map (λi=>k+1+i),?_,λa ha=>?_⟩;.rcases(show k=0\/k=1\/k=2\/k=3\/k=4\/k=5 by omega)with rfl|rfl|rfl|rfl|rfl|rfl<;>rfl
 rw[d a (by simpa using ha)];rfl
def sd(b:∀s,s<6->(dA h c s && !(freeS h c s).isEmpty)=false):NW h c=none:=by unfold NW;rw[List.find?_eq_none];intro a ha;rw[b a (by simpa using ha)];simp
def vy{k:Nat}(e:k<6)(b:dA h c k=false)(d:∀s,s<k->dA h c s=true):qS h c=some k:=by
 unfold qS;rw[List.find?_eq_some_iff_append];refine⟨by rw[b];rfl,List.range k,(List.range (6-k-1)).map (λi=>k+1+i),?_,λa ha=>?_⟩;.rcases(show k=0\/k=1\/k=2\/k=3\/k=4\/k=5 by omega)with rfl|rfl|rfl|rfl|rfl|rfl<;>rfl
 rw[d a (by simpa using ha)];rfl
def vg(b:∀s,s<6->dA h c s=true):qS h c=none:=by unfold qS;rw[List.find?_eq_none];intro a ha;rw[b a (by simpa using ha)];simp
def xQ(X b:Nat){a:QN}(W:QM)(c:QG W X 0 (J b 0))(d:QG W b 2 a)(f:W.frozen? (Qz b 2)=false):
  Calls prog 207 #[J X 0] W λe W'=>e=QJ (.tuple #[])/\W'=W.setCell (Qz b 2) Qk:=by
 go_wp2;go_end0;exact QB
def pE(B y d cf h)(X c s:Nat)(W)(a:Hp B y d cf h W)(i:c<12)(j:s<6)(k:W.cell? (Qz X 0)=some (J (y.sb c s) 0))(l:d.un=.func (.func 207) #[] #[J X 0]):
  Calls prog 54 #[J y.P 0] W λe W'=>e=QJ (.tuple #[])/\Hp B y {d with on:=gG d.on c s false,un:=.nilFunc} cf h W'/\Bi B W W':=by
 let n:W.frozen? ⟨y.sb c s,2,none⟩=false:=by simp[QD,a.sl c s i j]
 let o:=H (xQ X (y.sb c s) W k (a.bc c s i j).d2 n);let⟨b,p⟩:=a.setOn i j false;let f:=a.cell 120 Z _ rfl;let g:boxF cf y d h.used 120=d.un:=rfl;rw[g,l]at f;let r:=mG _ y.P 120 (b.cell 120 Z (.func (.func 207) #[] #[J X 0]) (by exact l)) (b.box.free 120);let⟨t,u⟩:=y7 (b.setDy 120 .nilFunc {d with on:=gG d.on c s false,un:=.nilFunc} (.inr ⟨rfl,rfl⟩)) (p.trans (b.bi118 120 .nilFunc));let nq:=λw=>qM (.func 207) #[] #[J X 0] w
 go_in;go_wp2_with fail;apply (o).mono;rintro e a⟨rfl,rfl⟩;go_wp2;go_end0;exact⟨rfl,t,u⟩
def wo:¬hI 80:=by unfold hI;decide
def Fj(B:Nat)(y:Ly)(cf:Cf)(h:Hs)(an:Value)(lg:Nat->Option Nat)(c:Nat)(W:World)(e:Ending)(W':World):Prop:=EB B y cf h an lg c (cJ cf h c) e W'/\Bi B W W'
def Bb(B y d cf h an)(c:Nat)(W)(a:Hp B y d cf h W)(e:Gd d h an)(i:Inv cf h)(l:c<12):
  Calls prog 153 #[J y.P 0,I c] W (Fj B y cf h an d.lg c W):=by
 obtain⟨z,BW⟩:=y7 (λV(r:D W V)=>a.below r) a.bW;have hz:=aX l;obtain⟨RG,FR,FL,HI,O,SG⟩:=Qh (λV(r:D W V)=>(a.below r).range6 l) (λV(r:D W V)k(N:k<6)=>pa (y.sb c k) (y.sr c k) c k (aM c) (y.sc c k) (d.on c k) (y.sm c k) (h.st c k) V ((a.below r).bc c k l N) Z (λj b=>(a.below r).rowAt c k j l N b) (λj b=>((a.below r).smAt c k j l N b).1)) (λV(r:D W V)k(N:k<6)=>((a.below r).bc c k l N).d2) i e (uR y c);have b:∀(k:Nat),k<6->∀w,(Instr.index 81 (.agg (kv y c).toArray) (I k)).run prog w=.ok (J (y.sb c k) 0) w:=λk N w=>by rcases(show k=0\/k=1\/k=2\/k=3\/k=4\/k=5 by omega)with rfl|rfl|rfl|rfl|rfl|rfl<;>kernel_rfl
 have Y:=H b;clear a e i b;go_in;go_wp2_with (refine wpList_load_mid rfl 81 _ rfl _ _ rfl _ _ (RG _ th) underlying81 rfl E ?_);generalize a:(kv y c).toArray=A6 at*;have a0:=H a;clear a;refine(let_mvar%?B:=freeS h c;?_);go_loopw [15] (λi wr=>∃k:Nat,k<=6/\i=I k/\Hid (∀s,s<k->(dA h c s && !(?B s).isEmpty)=false)/\Hid (D W wr)) (λi _=>6-(intOf i).toNat);exact⟨0,aa,rfl,H (λs Q=>Z),H th⟩
 obtain⟨k,N,rfl,p,o⟩:=hrel;by_cases b:k<6
 ·have ix:=Y.out k b;have fl:=FL.out wr o k b;obtain⟨K,g,a⟩:=Qe (λV(r:D W V)=>FR.out V r k b) (O.on c k l b) (λ(q:(dA h c k && !(?B k).isEmpty)=true)=>sQ b q p);generalize t:d.on c k=on at*;rw[jB]at K;cases on with
  | false=>
   have u:Hid (∀s,s<k+1->(dA h c s && !(?B s).isEmpty)=false):=(λs Q=>by
    rcases Nat.lt_succ_iff_lt_or_eq.1 Q with q|q;·exact p s q
    subst q;rw[<-g.out];rfl)
   clear p g a K t;generalize y.sb c k=gb at*;go_wp2;go_roundw;(exact⟨k+1,Z,aY,u,o⟩);exact QE
  | true=>
   go_wp2_with fail;refine(K _ o).mono ?_;rintro e V⟨v,rfl,n,F⟩;obtain⟨P,R,rfl⟩:=aK n;have A:=H (o.trans (F.mono o.size));have x:=H (show(?B k).isEmpty=decide ((?B k).length=0) by cases ?B k<;>simp);clear n F fl ix t o;generalize F:(?B k).length=n at*;clear F;by_cases F:n=0
   ·have u:Hid (∀s,s<k+1->(dA h c s && !(?B s).isEmpty)=false):=(λs Q=>by
     rcases Nat.lt_succ_iff_lt_or_eq.1 Q with q|q;·exact p s q
     subst q;rw[x,F];simp)
    subst F;clear p;generalize y.sb c k=gb at*;go_wp2;go_roundw;(exact⟨k+1,Z,aY,u,A⟩);exact QE
   let G:=H (a (by rw[<-g.out,x];simp[F]));let L:=H (show cJ cf h c=some (k,h) by unfold cJ;rw[G]);let M:(0:Int)<(n:Int):=Z;clear p;go_wp2;go_ret;refine⟨?_,Bi.ofBelow A BW⟩;rw[L];exact .yes k h _ ⟨d,z _ A,O,Kl.refl d⟩
 obtain rfl:k=6:=Z;have A:=H (sd p);clear p b;go_wp2_with (refine wpList_load_mid rfl 81 _ rfl _ _ rfl _ _ (RG _ o) underlying81 rfl E ?_);rw[a0];have a9:∀(fn:Fn)(first a1:Array QN)(w:QM),(Instr.makeFunc fn first a1).run prog w=.ok (.func fn first a1) w:=λ_ _ _ _=>rfl
 clear FR RG a0 SG;go_loopw [36] (λi a=>∃k:Nat,k<=6/\i=I k/\Hid (∀s,s<k->dA h c s=true)/\Hid (D W a)) (λi _=>6-(intOf i).toNat);exact⟨0,aa,rfl,H (λs Q=>Z),o⟩
 case round=>
  obtain⟨k,N,rfl,p,o⟩:=hrel;by_cases b:k<6
  ·have ix:=Y.out k b;obtain⟨g,R⟩:=y7 (O.on c k l b) (λ(q:dA h c k=false)=>vy b q p);have a:D wr (wr.alloc (.cells #[J (y.sb c k) 0] 80)):=ph;have X:=ao wr (.cells #[J (y.sb c k) 0] 80);have BX:=H (o.trans (a.mono o.size));have fl:=FL.out _ BX k b;have b0:=H o.size;(go_upto_region 10 with fail);generalize wr.alloc _=V at*;generalize wr.heap.size=S at*;refine(let_mvar%?D:=some (J (y.sb c k) 0);?_);have x0:V.cell? (Qz S 0)=?D:=bJ X;generalize t:d.on c k=on at*;cases on with
   | true=>
    have u:Hid (∀s,s<k+1->dA h c s=true):=(λs Q=>by
     rcases Nat.lt_succ_iff_lt_or_eq.1 Q with q|q;·exact p s q
     subst q;exact g.symm)
    generalize y.sb c k=gb at*;go_wp2;go_roundw;(exact⟨k+1,Z,aY,u,BX⟩);exact QE
   | false=>
    let a2:=H (R g.symm);obtain⟨n,M⟩:=(z V BX).setOn l b true;let fz:V.frozen? ⟨y.sb c k,2,none⟩=false:=(by simp[QD,(z.out V BX.out).sl c k l b]);obtain⟨T,a3,X1,a4⟩:=Qf n ((Bi.ofBelow BX BW).trans M) (M.ky.XC (H X) wo) (mz (y.sb c k) (y.sr c k) (y.sm c k 0) c k (aM c) (y.sc c k) _ 0 _ (n.bc c k l b) Z (n.scAt c k 0 l b Z) (n.rowAt c k 0 l b Z));have a6:=cD l b;have X:∀i,i<dI c->(h.m (aD c k+i)).isSome=false:=λi hi=>by rw[HI.slab c k l b i hi];exact g.symm
    refine(let_mvar%?A:=gG d.on c k true;?_);have CM:=H (λa(i:Hp B y {d with on:=?A} cf h a)=>nA B y {d with on:=?A} cf h (aD c k) (dI c) (.func 207) #[] #[J S 0] a i HI.out.out Z Z X);refine(let_mvar%?C:=aT h.m (aD c k) (dI c);?_);have TD:Hid (∀P,Gd {d with on:=?A,f:=P,un:=.nilFunc} {h with m:=?C} an):=(λP=>⟨λF G x K=>by
     show ?A F G=(?C (aD F G)).isSome;unfold gG;by_cases e:F=c/\G=k;·obtain⟨rfl,rfl⟩:=e;rw[GP ⟨rfl,rfl⟩,jF _ _ _ _ gi Z];rfl
     rw[GO e,cO,GO (by have hq:=aX x;rcases ew x K l b e with L|L<;>omega)]
     exact O.on F G x K,rfl,O.an⟩)
    have TB:Hid (∀P V',Hp B y {d with on:=?A,f:=P,un:=.func (.func 207) #[] #[J S 0]} cf h V'->V'.heap[S]?=some (.cells #[J (y.sb c k) 0] 80)->Tk B y cf h an V'):=(λP V' a7 L a8 a5=>by
     refine(pE B y _ cf h S c k a8 (a7.below a5) l b (by rw[ac ((a5.block _ (ag L)).trans L)];rfl) rfl).mono ?_;rintro e W9⟨rfl,h9,b9⟩;refine⟨rfl,⟨_,h9,λF G x K=>?_,rfl,O.an⟩,b9⟩;show gG (?A) c k false F G=dA h F G;unfold gG;by_cases e:F=c/\G=k;·obtain⟨rfl,rfl⟩:=e;rw[GP ⟨rfl,rfl⟩];exact g
     rw[GO e,GO e];exact O.on F G x K)
    refine(let_mvar%?E:=(cf.bud:Int)<(bz h.m 283:Int)+(dI c:Nat);?_);have a5:=H (λ(hb:¬(?E))=>show cJ cf h c=some (k,{h with m:=?C}) by unfold cJ;rw[A];rw[a2];dsimp only;rw[GO Z]);have L:=H (λ(hb:?E)=>show cJ cf h c=none by unfold cJ;rw[A];rw[a2];dsimp only;rw[GP Z]);(go_upto_region 12 with fail);generalize V.setCell ⟨y.sb c k,2,none⟩ Ql=a at*;let M:a.cell? (Qz S 0)=?D:=bJ X1;go_wp2_with fail;apply (a4).mono;rintro e U2⟨rfl,n⟩;obtain⟨a6,X,X2⟩:=Qe (T.below n) (a3.add n T.bW) ((n.block _ (ag X1)).trans X1);go_wp2_with fail;apply (CM _ a6).mono;rintro e U3⟨P,n,⟨hb,rfl,M⟩|⟨hb,rfl,M⟩⟩
    .let x3:U3.cell? (Qz S 0)=?D:=(by rw[ac (n.ky.XC X2 wo)];rfl);let T:=H (IT M (IT (X.trans n) (a5 Z)));go_wp2;go_ret;refine⟨?_,T.2.1⟩;rw[T.2.2];exact .yes k _ _ ⟨_,T.1,TD P,λ_ _ e=>e⟩
    refine⟨rfl,?_,X.trans n⟩;rw[L Z];exact .no _ (TB P U3 M (n.ky.XC X2 wo))
  obtain rfl:k=6:=Z;let L:=H (show cJ cf h c=none by unfold cJ;rw[A];rw[vg p]);go_wp2;refine⟨rfl,?_,Bi.ofBelow o BW⟩;rw[L];exact .no _ (Hg.tk ⟨d,z _ o,O⟩)
def xR(h:∀j,j<l.length->l[j]?.getD 0<=0)(e:okB l):l.all (· ==0)=true:=by rw[List.all_eq_true];intro x b;let⟨j,c⟩:=He b;let d:=h j ((Fz.1 c).1);rw[c]at d;let f:=e x b;simp at d⊢;omega
def o_(a:j<l.length)(h:0<l[j]?.getD 0):l.all (· ==0)=false:=by
 cases e:l.all (· ==0)with
 |false=>rfl
 |true=>
  exfalso;rw[List.all_eq_true]at e;let b:l[j]?.getD 0∈l:=by rw[Fy a];exact Iw _
  have:=e _ b;rw[beq_iff_eq]at this;omega
def BM(u data W)(h:Bs W u data)(d:okB data)(r:0<data.length)(z:data.length<=100000):
  Calls prog 156 #[u] W λe W'=>∃M:Int,e=QJ (.int .u8 M)/\decide (0<M) =!(data.all (· ==0))/\W'=W:=by
 obtain⟨a,P,rfl,f⟩:=h;obtain⟨g,rfl,A⟩:=f 0 r;let s:Hid (∀i,i<data.length->QG W g i (.int .u8 (data[i]?.getD 0))):=(λi a=>by let⟨k,b,c⟩:=f i a;cases b;exact c)
 let⟨Q,t,v,w⟩:=Qf d (λi=>d.get i) (λb=>xR (l:=data) b d) (λj c b=>o_ (l:=data) (j:=j) c b);let⟨n,d⟩:=Qa data.length;rw[d]at s v w r z⊢;have B:=t.out 0;generalize d:data[0]?.getD 0=F at*;let f:=H d;go_wp2;go_loopw [3,4] (λm i wr=>∃(k:Nat)(M:Int),k<=n/\1<=k/\i=I k/\m=.int .u8 M/\wr=W/\Hid (0<=M/\M<=255)/\Hid ((0<M->∃j,j<k/\0<data[j]?.getD 0)/\(M<=0->∀j,j<k->data[j]?.getD 0<=0))) (λ_ i _=>n-(intOf i).toNat)
 exact⟨1,F,Z,gi,rfl,rfl,rfl,H B,H ⟨λh=>⟨0,Z,by rwa[f]⟩,λh j c=>by obtain rfl:j=0:=Z;rwa[f]⟩⟩
 obtain⟨k,M,R,G,rfl,rfl,rfl,K,m⟩:=hrel;by_cases p:k<n
 .have L:=s.out k p;have gk:=t.out k;generalize d:data[k]?.getD 0=x at*;let q:=H d;by_cases N:M<=x
  .let o:max M x=x:=Z;go_wp2;go_roundw
   exact⟨k+1,x,Z,Z,aY,by congr 1<;>split<;>omega,trivial,H gk,H ⟨λb=>⟨k,Z,by rwa[q]⟩,λb j c=>by
    rcases Nat.lt_succ_iff_lt_or_eq.1 c with d|d;.exact m.2 Z j d
    subst d;rwa[q]⟩⟩
   exact QE
  let o:=Z;go_wp2;go_roundw
  exact⟨k+1,M,Z,Z,aY,by congr 1<;>split<;>omega,trivial,K,H ⟨λb=>by
   let⟨j,c,O⟩:=m.1 b;exact⟨j,Z,O⟩,λb j c=>by
   rcases Nat.lt_succ_iff_lt_or_eq.1 c with d|d;.exact m.2 b j d
   subst d;rw[q];omega⟩⟩
  exact QE
 obtain rfl:k=n:=Z;go_wp2;go_ret;refine⟨M,rfl,?_,rfl⟩;by_cases d:0<M;.let⟨j,c,b⟩:=m.1 d;rw[w j c b];simpa using d
 rw[v (m.2 Z)];simpa using d
def Hp.setSlot(b:Hp B y d cf h W)(i:c<12)(m:s<6)(u:j<aM c)(st' rq')(g:W.grownBy W' (some (y.sm c s j)))(x:W'.heap[y.sm c s j]?=some (.cells (Oe st' rq' (y.sb c s) j) 203)):
  Hp B y d cf {h with st:=aE h.st c s j st',rq:=aE h.rq c s j rq'} W'/\Bi B W W':=by
 let l:=b.sm c s j i m u;let k:=Ky.grown l rfl g;let v:=(Fu B W).grown g b.bW (λr w=>by simp at w;have:=b.ap.bsm c s j i m u;omega);let z:=g.block _ b.sp.lt.2 (λe=>by simp at e;obtain⟨a,⟨A,F,f,_⟩,_⟩:=b.sp.map;rw[e,l]at f;cases f)
 let G:W'.heap[y.R]?=W.heap[y.R]?:=by let⟨A,F,f⟩:=b.mp.typ;exact g.block _ (ag f) (λe=>by simp at e;rw[e,l]at f;cases f)
 refine⟨⟨b.ap,Fx b.bW v.size,b.box.ky k ar,b.ds.belowB v b.ap.da,b.sp.ky k ar z,b.pg.ky k ar,b.bf,
 λc s i m=>k.XC (b.sl c s i m),λc s i m=>cL (b.rw c s i m) k ar,λa n o p q t=>?_,
 λc i=>(b.wt c i).ky k ar ar ar,b.mp.same G,b.lo,λr w=>by obtain⟨g,K,f,L⟩:=b.lb r w;exact⟨g,K,f,k.XC L⟩,b.li,b.ro.ky k ar,ai b.rl k,b.rr,b.tb.belowB v b.ap.b0⟩,Bi.ofGrown l (.inr (.inr (.inr (.inr (.inl rfl))))) (b.ap.bsm c s j i m u) b.bW g⟩
 show W'.heap[y.sm a n o]?=some (.cells (Oe (aE h.st c s j st' a n o) (aE h.rq c s j rq' a n o) (y.sb a n) o) 203);by_cases e:a=c/\n=s/\o=j;.obtain⟨rfl,rfl,rfl⟩:=e;rwa[aS,aS]
 rw[aU e,aU e];let f:=b.sm a n o p q t;rw[g.block _ (ag f) (λg=>by simp at g;exact e (b.ap.ism a n o c s j p q t i m u g))]
 exact f
def Hp.setSt1(a:Hp B y d cf h W)(b:c<12)(e:s<6)(f:j<aM c)(st'):
  Hp B y d cf {h with st:=aE h.st c s j st'} (W.setCell ⟨y.sm c s j,0,none⟩ (I st'))/\Bi B W (W.setCell ⟨y.sm c s j,0,none⟩ (I st')):=by
 have:=a.setSlot b e f st' (h.rq c s j) (W':=W.setCell ⟨y.sm c s j,0,none⟩ (I st')) (au (Q6 W (y.sm c s j)) 0 _) (by simp[World.setCell,FD,a.sm c s j b e f,Oe]);rw[gy h.rq rfl]at this;exact this
def Hp.setRec(a:Hp B y d cf h W)(b:c<12)(e:s<6)(f:j<aM c)(st' rq'):
  Hp B y d cf {h with st:=aE h.st c s j st',rq:=aE h.rq c s j rq'} (W.setCells (y.sm c s j) 0 [I st',I rq'])/\Bi B W (W.setCells (y.sm c s j) 0 [I st',I rq']):=by
 apply a.setSlot b e f st' rq';.simp only[World.setCells];exact au (au (Q6 W (y.sm c s j)) 0 _) _ _
 simp[World.setCells,World.setCell,FD,a.sm c s j b e f,Oe]
inductive TaR(B:Nat)(y:Ly)(cf:Cf)(an:Value)(lg:Nat->Option Nat):Option Nat×Hs->Ending->World->Prop
 |slot (c s j:Nat) (h1:Hs) (W':World) (hc:c<12) (hs:s<6) (hj:j<aM c) (hl:h1.st c s j=1) (hg:Hgl B y cf h1 an lg W'):TaR B y cf an lg (some (bh c s j),h1) (.returned (.iface 199 (J (y.sm c s j) 0))) W'
 |range (r:Rg9) (g:Nat) (d:Dy) (h1:Hs) (W':World) (hr:r∈h1.rg) (hl:r.st=1) (hd:d.lg r.base=some g) (hp:Hp B y d cf h1 W') (gd:Gd d h1 an) (kl:Kl lg d):TaR B y cf an lg (some r.base,h1) (.returned (.iface 210 (J g 0))) W'
 |no (h1:Hs) (W':World) (tk:Tk B y cf h1 an W'):TaR B y cf an lg (none,h1) (.panicked (ip 1)) W'
def AS(B:Nat)(y:Ly)(cf:Cf)(an:Value)(lg:Nat->Option Nat)(W:World)(r:Option Nat×Hs)(e:Ending)(W':World):Prop:=TaR B y cf an lg r e W'/\Bi B W W'
def Gd.st{an}(g:Gd d h an){a:Hs}(b:∀k,(a.m k).isSome=(h.m k).isSome):Gd d a an:=⟨λc s e f=>by rw[g.on c s e f];exact(b _).symm,g.un,g.an⟩
def aV(t:QO){o:Oper}{a:Act}{K:Act->QM->Prop}{Q:Exit->Act->QM->Prop}(s x:Operand){v2 c:QN}(b:o.op=.call {callee:=.builtin .append,args:=#[s,x],argTypes:=#[t,t]})(d:o.type=t)(e:a.eval s=v)(f:a.eval x=v2)
  (g:(Builtin.append_ #[t,t] t #[v,v2]).run prog W=.ok c W') (i:K (a.put o.dst c) W'):Oper.wp prog o a W K Q:=by
 unfold Oper.wp;simp[execOp,b,d,resolve,invoke,builtin,e,f,g,Result.andThen];exact i
def BD(W:QM)(B:Nat)(l:List Nat)(a:Nat)(d:l.length<=a)(e:a<=maxLen)(f:B<=W.heap.size):
  Um B (W.drew.alloc (.cells ((Us l).toArray++Builtin.zeroCells (Value.int .u64 0).cells (a-l.length)) 24)) (Vl W.heap.size l.length a) l:=by
 refine(let_mvar%?A:=Builtin.zeroCells (Value.int .u64 0).cells (a-l.length);?_);let b:(?A)=Array.replicate (a-l.length) (U 0):=by apply Array.ext';simp[Builtin.zeroCells,Value.cells,Nat.mod_one];rw[List.map_const',GG]
 refine .inr ⟨W.heap.size,0,a,_,rfl,f,ao W.drew (.cells ((Us l).toArray++?A) 24),?_,d,e,?_,?_⟩;.simp[b,fK];omega
 .intro u c;simp[b,Us]at c;rcases c with⟨n,_,rfl⟩|⟨_,rfl⟩<;>rfl
 intro i c;rw[Oi,Array.getElem?_append_left (by simp[fK];exact c)];simp[Us,c]
def Cy(B W v l)(x:Nat)(g:Nat)(c)(r:Um B W v l)(R:QG W g 0 (U x))(hl:l.length<=100000)(S:B<=W.heap.size):
  ∃f W',QI 37 v (Vl g 1 c) W f W'/\Um B W' f (l++[x])/\W.grownBy W' (ee v)/\(ee f=ee v\/ee f=some W.heap.size)/\∃a d,f=.slice a (l.length+1) d:=by
 let⟨s,t,z,n,A⟩:=G0 iY;let w:=Src.ofSlice (P:=prog) W (size:=s.size) underlying37 (Qz g 0) 1 c [U x] (by rw[n];rfl) (λj u p=>by
  cases j with
  |zero=>simp at p;subst p;rwa[Addr.add_mid]
  |succ j=>simp at p) (λu r=>by simp at r;subst r;rfl)
 let q:∀(m:QP)(d:Nat),(Builtin.firstCells s.size l.length (.slice m l.length d)).run prog W.drew=.ok (Us l).toArray W.drew->d<l.length+1->∀y,
   ∃f W',QI 37 (.slice m l.length d) (Vl g 1 c) W f W'/\Um B W' f (l++[x])/\W.grownBy W' y/\(ee f=some W.heap.size)/\∃a d,f=.slice a (l.length+1) d:=λm d a b y=>by
  let F:=run_append_grow_src (P:=prog) W 37 37 37 24 s (U 0) underlying37 t z m l.length d (Us l) a _ 1 _ w b Z (growslice_fits b (by rw[A];omega))
  refine⟨_,_,F,?_,?_,rfl,_,_,rfl⟩
  .have:=BD W B (l++[x]) (grownCap W (l.length+1) d 24) (by rw[FC];exact grownCap_ge _ _ _ _) (grownCap_le_maxLen _ _ _ _ (by unfold maxLen;omega)) S;rw[k_,FC]at this;exact this
  exact⟨rfl,rfl,rfl,by rw[aO];exact Nat.le_succ _,λk e _=>eg W.drew _ k e⟩
 rcases r with⟨rfl,rfl⟩|⟨b,o,d,T,rfl,V,k,X,h5,Y,h7,Q⟩;.let⟨f,W',G,K,L,M,N⟩:=q none 0 (run_firstCells_none W.drew s.size 0 0 0) bH none;exact⟨f,W',G,K,L,.inr M,N⟩
 let cl:∀i,i<l.length->W.cell? (Qz b (o+i))=some (U ((l[i]?.getD 0:Nat):Int)):=λi O=>by rw[ac k];exact Q i O
 by_cases a:l.length+1<=d
 .let F:=run_append_room_src (P:=prog) W 37 37 37 24 s underlying37 t b o l.length d _ 1 _ w a (λj p=>by
   have:j=0:=by simpa using p
   subst this;rw[ac k,n,Hw Z];rfl) (λj p=>by simp[QD,k])
  refine⟨_,_,F,?_,?_,.inl rfl,_,_,rfl⟩
  .let hb:(W.setCell (Qz b (o+l.length)) (U x)).heap[b]?=some (.cells (T.setIfInBounds (o+l.length) (U x)) 24):=(by simp[World.setCell,FD,k]);rw[n,Nat.mul_one];refine .inr ⟨b,o,d,_,by rw[FC];rfl,V,hb,by simpa using X,by rwa[FC],Y,?_,?_⟩
   .intro u r;rw[Array.toList_setIfInBounds]at r;rcases List.mem_or_eq_of_mem_set r with h|rfl;.exact h7 u h
    rfl
   intro i O;rw[FC,List.length_singleton]at O;rw[FK];by_cases e:o+l.length=o+i
   .rw[GP e,GP Z];have:i=l.length:=Z;subst this;simp
   rw[GO e,Q i Z,Ga Z]
  rw[n,Nat.mul_one];exact au (Q6 W b) _ _
 let⟨f,W',G,K,L,M,N⟩:=q (some (Qz b o)) d (by
  rw[n];exact run_firstCells_some W.drew 1 l.length (Qz b o) l.length d (Us l) (by rw[fK,Nat.mul_one]) (λj u p=>by
   rw[Addr.add_mid];let e:j<l.length:=by have:=(Fz.1 p).1;rw[fK]at this;exact this
   have:=cl j e;simp[Us,e]at p this;rw[<-p];exact this)) Z (some b)
 exact⟨f,W',G,K,L,.inr M,N⟩
def oN{g o n a:Nat}{l}(k:Um B W (.slice (some (Qz g o)) n a) l)(c:2<=l.length):n=l.length/\n<=a/\Um B W (.slice (some (Qz g (o+1))) (n-1) (a-1)) l.tail/\W.cell? (Qz g o)=some (U ((l[0]?.getD 0:Nat):Int)):=by
 rcases k with⟨e,rfl⟩|⟨b,s,d,m,e,c,f,t,p,u,q,j⟩;.simp at c
 simp at e;obtain⟨⟨rfl,rfl⟩,rfl,rfl⟩:=e;refine⟨rfl,p,.inr ⟨g,o+1,a-1,m,by rw[List.length_tail],c,f,Z,by rw[List.length_tail];omega,Z,q,λi r=>?_⟩,?_⟩;.rw[List.length_tail]at r;rw[show o+1+i=o+(i+1) by omega,j (i+1) Z];simp
 rw[ac f];have:=j 0 Z;simpa using this
def wD{l}(c:Um B W v l)(d:1<=l.length):∃g o a,v=.slice (some (Qz g o)) l.length a/\l.length<=a:=by
 rcases c with⟨e,rfl⟩|⟨b,f,a,i,e,j,k,m,g,_⟩;.simp at d
 exact⟨b,f,a,e,g⟩
def oz{l}(c:Um B W v l):∃a b,v=.slice a l.length b:=by
 rcases c with⟨e,rfl⟩|⟨b,d,a,f,e,g,i,j,k,_⟩;.exact⟨none,0,e⟩
 exact⟨_,a,e⟩
def Hp.setRo{W1}(b:Hp B y d cf h W){v' row'}(o:Um B W1 v' row')(g:W.grownBy W1 (ee d.ro))(p:∀g,ee v'=some g->d.rl.ownBlock≠some g):
  Hp B y {d with ro:=v'} cf {h with row:=row'} (W1.setCell (Qz y.P 116) v')/\Bi B W (W1.setCell (Qz y.P 116) v')/\QG W1 y.P 116 d.ro/\W1.frozen? (Qz y.P 116)=false:=by
 let f:=b.gw (λg a=>lS b.ro a) g;let k:=b.box.ky f.k ar;let i:=k.set 116 Z v';rw[pi cf y d h.used 116 v' {d with ro:=v'} (.inl ⟨rfl,rfl⟩)]at i;let l:=k.kyS 116 v';refine(let_mvar%?A:=W1.setCell (Qz y.P 116) v';?_);let n:Below B W1 ?A:=(Fu B W1).grown (au (Q6 W1 y.P) _ _) (Fx b.bW f.bl.size) (λr a=>by simp at a;have:=b.ap.bP;omega);let r:(?A).heap[y.M]?=W1.heap[y.M]?:=XB (λe=>by let⟨c,m,_⟩:=b.box;obtain⟨a,⟨s,u,j,_⟩,_⟩:=b.sp.map;rw[e,m]at j;cases j)
 let a:(?A).heap[y.R]?=W1.heap[y.R]?:=XB (λe=>by let⟨c,m,_⟩:=b.box;let⟨s,u,j⟩:=b.mp.typ;rw[e,m]at j;cases j)
 exact⟨b.rows ((f.k.more (λt e=>.inl e)).trans (l.more (λt e=>.inr e))) (f.bl.trans n) (r.trans f.m) (a.trans f.r) v' d.rl row' h.rel i (o.ky l ar) (ai (lH b.rl g (λg a e=>b.rr g e a)) l) p,f.bi.trans ⟨n,l.more (λt e=>by subst e;unfold hI;decide)⟩,k.cell 116 Z,k.free 116⟩
def gX(rg:List Rg9)(b:Nat)(st rq:Int):List Rg9:=rg.map λx=>if x.base=b then {x with st:=st,rq:=rq}else x
def jG(b:Nat)(a c:Int)(x:Rg9):(if x.base=b then {x with st:=a,rq:=c}else x:Rg9).base=x.base:=by split<;>rfl
def Hp.setLg(b:Hp B y d cf h W){r:Rg9}(t:r∈h.rg)(O:∀x∈h.rg,x.base=r.base->x=r){L:Nat}(u:d.lg r.base=some L)(j l:Int)(g:W.grownBy W' (some L))(P:W'.heap[L]?=some (.cells (oV {r with st:=j,rq:=l}) 225)):
  Hp B y d cf {h with rg:=gX h.rg r.base j l} W'/\Bi B W W':=by
 let⟨L',M,v,f⟩:=b.lb r t;rw[u]at M;cases M;let k:=Ky.grown f rfl g;let p:=(Fu B W).grown g b.bW (λr t=>by simp at t;omega);let Q:=g.block _ b.sp.lt.2 (λe=>by simp at e;obtain⟨a,⟨R,S,i,_⟩,_⟩:=b.sp.map;rw[e,f]at i;cases i)
 let T:W'.heap[y.R]?=W.heap[y.R]?:=by let⟨R,S,i⟩:=b.mp.typ;exact g.block _ (ag i) (λe=>by simp at e;rw[e,f]at i;cases i)
 let a:(gX h.rg r.base j l).length=h.rg.length:=by simp[gX]
 let m:=b.mp.same T;rw[<-a]at m;refine⟨⟨b.ap,Fx b.bW p.size,b.box.ky k ar,b.ds.belowB p b.ap.da,b.sp.ky k ar Q,b.pg.ky k ar,b.bf,
 λc s n w=>k.XC (b.sl c s n w),λc s n w=>cL (b.rw c s n w) k ar,λV X Y z A F=>k.XC (b.sm V X Y z A F),
 λc n=>(b.wt c n).ky k ar ar ar,m,λq=>?_,λx hx=>?_,b.li,b.ro.ky k ar,ai b.rl k,b.rr,b.tb.belowB p b.ap.b0⟩,p,k.more (λt e=>by subst e;unfold hI;decide)⟩
 .show(d.lg q).isSome=(gX h.rg r.base j l).any λr=>r.base==q
  rw[b.lo q];unfold gX;rw[List.any_map];congr 1;funext x;show _=((if x.base=r.base then {x with st:=j,rq:=l}else x:Rg9).base==q);rw[jG]
 obtain⟨G,o,rfl⟩:=FQ.1 hx;rw[jG];by_cases e:G.base=r.base;.have:=O G o e;subst this;rw[GP rfl];exact⟨L,u,v,P⟩
 rw[GO e];let⟨g',K,a2,N⟩:=b.lb G o;refine⟨g',K,a2,?_⟩;rwa[g.block _ (ag N) (λa=>by simp at a;rw[a]at K;exact e (b.li _ _ _ K u))]
def Hp.cutR(j:Hp B y d cf h W)(b:Nat)(s:(d.lg b).isSome=true)(o:∃r∈h.rg,r.base=b)(p:Mr y.R (h.rg.length-1) (upd d.lg b none) W')(r:W.mapTurned W' y.R)(c:h.rg.length-1<=(h.rg.filter λx=>x.base≠b).length):
  Hp B y {d with lg:=upd d.lg b none} cf {h with rg:=h.rg.filter λx=>x.base≠b} W'/\Bi B W W':=by
 refine j.turn r _ (h.rg.filter λx=>x.base≠b) ?_ (λk=>?_) (λm l=>?_) (λk n g f i=>?_);.let⟨a,f,i,e⟩:=p.map;exact⟨a,f,Fx i c,e⟩
 .by_cases e:k=b;.subst e;rw[upd_same];simp
  rw[aI _ _ _ _ e,j.lo k,List.any_filter];congr 1;funext x;by_cases a:x.base=k
  .have:x.base≠b:=λq=>e (a.symm.trans q)
   simp[a,e]
  simp[a]
 .let⟨f,i⟩:=Gk.1 l;let a:m.base≠b:=by simpa using i
  rw[aI _ _ _ _ a];exact j.lb m f
 let q:∀k,upd d.lg b none k=some g->d.lg k=some g:=λk a=>by
  by_cases e:k=b;.subst e;rw[upd_same]at a;cases a
  rw[aI _ _ _ _ e]at a;exact a
 exact j.li k n g (q k f) (q n i)
def nK{W:QM}(B:Nat)(v:QN)(l:List Nat)(x:Nat)(g c:Nat)(b:W.ownsRow B 24 1 v l.length (Us l))(m:QG W g 0 (U x))(t:l.length<=100000)(n:B<=W.heap.size):
  ∃a d,QI 37 v (Vl g 1 c) W a d/\d.ownsRow B 24 1 a (l++[x]).length (Us (l++[x]))/\W.grownBy d v.ownBlock/\(a.ownBlock=v.ownBlock\/a.ownBlock=some W.heap.size):=by
 let⟨o,e,f,i,k⟩:=G0 iY;let⟨a,d,p,q,r,_,s⟩:=run_append_own_at (P:=prog) W B 37 37 24 o _ 1 8 underlying37 e f i k rfl Z v _ _ b (Qz g 0) 1 c [U x] rfl (λj u b=>by
  cases j with
  |zero=>simp at b;subst b;rwa[Addr.add_mid]
  |succ j=>simp at b) (λu b=>by simp at b;subst b;rfl) (by unfold maxLen;omega) Z n
 exact⟨a,d,p,by rwa[FC,k_],r,s⟩
def zw{c:List Rg9}(d:c.Pairwise λa b=>a.first+a.ext<=b.first\/b.first+b.ext<=a.first)(b:Nat):c.length-1<=(c.filter λx=>x.base≠b).length:=by
 induction c with
 |nil=>simp
 | cons r l f=>
  let⟨g,i⟩:=List.pairwise_cons.1 d;by_cases e:r.base=b
  .have:(l.filter λx=>x.base≠b)=l:=by
    rw[Il];intro x j;have:=g x j;let m:x.ext=x.guards+x.pages+1:=rfl;let n:r.ext=r.guards+r.pages+1:=rfl;let a:x.base≠b:=λk=>by let o:(r.first+r.guards)*1024=(x.first+x.guards)*1024:=e.trans k.symm;omega
    simpa using a
   rw[Ix (by simp[e]),this];simp
  rw[Hn (by simp[e])];have:=f i;simp only[FN];omega
end
section
variable {cf:Cf}{h:Hs}{r:Rg9}{T p:Nat}{W:World}{tk:Nat->Bool}{rg:List Rg9}
inductive AG(y:Ly)(d:Dy):Fd->Ending->Prop
 |slot (c s j:Nat):AG y d (.slot c s j) (.returned (.iface 199 (J (y.sm c s j) 0)))
 |range (r:Rg9) (g:Nat) (h:d.lg r.base=some g):AG y d (.range r) (.returned (.iface 210 (J g 0)))
 |no (code:Int):AG y d (.no code) (.panicked (ip code))
def Inv.baseP(i:Inv cf h)(a:r∈h.rg):191488<=r.base/\r.base<289792/\r.base/1024=r.first+r.guards/\r.base%1024=0:=by let⟨c,b,d,e,f,_⟩:=i.rgs r a;unfold Rg9.ext at b;unfold Rg9.base;omega
def sy{c s j:Nat}(h:ce p=some (c,s,j)):p<191488:=by let⟨a,b,d,e⟩:=gB h;have:=ca a b d;omega
def lG(h:191488<=p):ce p=none:=by
 cases e:ce p with
 |none=>rfl
 |some t=>obtain⟨c,s,j⟩:=t;have:=sy e;omega
def Inv.relP(i:Inv cf h)(b:p∈h.rel):aB h p=.no 4:=by
 let⟨k,l,m,d⟩:=i.rel p b;unfold aB;rw[lG Z];cases e:h.rg.find? λr=>r.base==p with
 |some r=>exfalso;let a:=Ip e;let c:=List.find?_some e;simp at c;let f:=i.baseP a;let g:=d r a;let⟨n,o,q,s,j,_⟩:=i.rgs r a;unfold Rg9.ext at g;rw[c]at f;omega
 |none=>rw[GP (List.contains_iff_mem.2 b)]
def Hp.lcAt{B y d}(c:Hp B y d cf h W)(i:Inv cf h)(b:r∈h.rg):∃g,d.lg r.base=some g/\Lc g r W:=by let⟨g,e,k,a⟩:=c.lb r b;let⟨l,f,m,n,j,_⟩:=i.rgs r b;unfold Rg9.ext at f;exact⟨g,e,bJ a,bJ a,bJ a,bJ a,bJ a,Z,Z,Z⟩
def nJ(B y d cf h)(p:Nat)(W)(m:Hp B y d cf h W)(i:Inv cf h)(O:p<18446744073709551616)(P:h.rel.length<=100000):
  QA 61 #[J y.P 0,U p] W λe W'=>AG y d (aB h p) e/\D W W':=by
 let⟨va,vn,vc,hv⟩:=aA m.rl;let n:W.cell? (Qz y.P 117)=some (.slice va vn vc):=by rw[<-hv];exact m.cell 117 Z _ rfl
 let u:=H (qw B va vn vc p h.rel W (by rw[<-hv];exact m.rl) P);let⟨v,L,o,A⟩:=Qf (DI B y d cf h p W m O) fx (λV(M:D W V)=>m.below M) (m.lo p);by_cases K:p∈h.rel;.let a:=H (i.relP K);rw[List.contains_iff_mem.2 K]at u;go_enter func61,ntmps61;go_wp2_with fail;apply (u).mono;rintro e Q⟨rfl,rfl⟩;go_wp2;rw[a];exact⟨rfl,.no 4,th⟩
 let t:h.rel.contains p=false:=by
  cases R:h.rel.contains p with
  |false=>rfl
  |true=>exact absurd (List.contains_iff_mem.1 R) K
 rw[t]at u;cases x:d.lg p with
 | some g=>
  rw[x]at A;let f:h.rg.any (λr=>r.base==p)=true:=A.symm;obtain⟨r,b⟩:∃r,h.rg.find? (λr=>r.base==p)=some r:=by
   cases e:h.rg.find? λr=>r.base==p with
   |some r=>exact⟨r,rfl⟩
   |none=>exfalso;let⟨r,S,T⟩:=List.any_eq_true.1 f;exact List.find?_eq_none.1 e r S T
  let a:=Ip b;have c:=List.find?_some b;simp at c;let l:=i.baseP a;let⟨g',j,s⟩:=m.lcAt i a;rw[c,x]at j;cases j;let q:=(i.rgs r a).2.2.2.2.2;let F:=H (show ym y d p=.iface 210 (J g 0) by unfold ym;rw[x]);rw[F]at v;let X:=H (λV(M:D W V)=>(s.below M).c0);let mk:=λw=>yQ g w
  let k:=H (show aB h p=if r.st=1 then .range r else .no 4 by unfold aB;rw[lG Z];rw[b]);let N:=H (show d.lg r.base=some g by rwa[c]);go_enter func61,ntmps61;go_wp2_with fail;apply (u).mono;rintro e Q⟨rfl,rfl⟩;go_wp2_with fail;apply (v).mono;rintro e V⟨rfl,z⟩;let G:=H z;let Y:=X.out V z;go_wp2_with fail;apply (L _ _).mono;rintro e V2⟨rfl,rfl⟩;rcases q with⟨l,_⟩|⟨l,_⟩;.let a:=H (show aB h p=.range r by rw[k,GP l]);rw[l]at Y;go_wp2_with fail;apply (L _ _).mono;rintro e V3⟨rfl,rfl⟩;go_wp2;go_ret;rw[a];exact⟨.range r g N,G⟩
  let a:=H (show aB h p=.no 4 by rw[k,GO Z]);rw[l]at Y;go_wp2_with fail;apply (L _ _).mono;rintro e V3⟨rfl,rfl⟩;go_wp2;rw[a];exact⟨rfl,.no 4,G⟩
 | none=>
  rw[x]at A;let b:h.rg.find? (λr=>r.base==p)=none:=by refine List.find?_eq_none.2 (λr S T=>?_);have:h.rg.any (λr=>r.base==p)=true:=List.any_eq_true.2 ⟨r,S,T⟩;rw[<-A.out]at this;cases this
  cases f:ce p with
  |none=>let F:=H (show ym y d p=.nilIface by unfold ym;rw[x,f]);rw[F]at v;let k:=H (show aB h p=.no 3 by unfold aB;rw[f];rw[b];rw[t];rfl);go_enter func61,ntmps61;go_wp2_with fail;apply (u).mono;rintro e Q⟨rfl,rfl⟩;go_wp2_with fail;apply (v).mono;rintro e V⟨rfl,z⟩;let G:=H z;go_wp2;rw[k];exact⟨rfl,.no 3,G⟩
  |some q=>
   let⟨c,s,j⟩:=q;let⟨R,hs,hj,g⟩:=gB f;have F:=H (show ym y d p=.iface 199 (J (y.sm c s j) 0) by unfold ym;rw[x,f]);rw[F]at v;have X:=H (λV(M:D W V)=>((o V M).smAt c s j R hs hj).1);have k:=H (show aB h p=if h.st c s j=1 then .slot c s j else if h.st c s j=0 then .no 3 else .no 4 by unfold aB;rw[f]);have LS:=H (AG.slot (y:=y) (d:=d) c s j);have mk:=λw=>zQ (y.sm c s j) w
   generalize y.sm c s j=gm at*;generalize h.st c s j=N at*;go_enter func61,ntmps61;go_wp2_with fail;apply (u).mono;rintro e Q⟨rfl,rfl⟩;go_wp2_with fail;apply (v).mono;rintro e V⟨rfl,z⟩;let G:=H z;let Y:=X.out V z;go_wp2_with fail;apply (L _ _).mono;rintro e V2⟨rfl,rfl⟩;by_cases g:N=0;.let a:=H (show aB h p=.no 3 by rw[k,GO Z,GP g]);subst g;go_wp2;rw[a];exact⟨rfl,.no 3,G⟩
   by_cases l:N=1;.let a:=H (show aB h p=.slot c s j by rw[k,GP l]);subst l;go_wp2_with fail;apply (L _ _).mono;rintro e V3⟨rfl,rfl⟩;go_wp2;go_ret;rw[a];exact⟨LS,G⟩
   let a:=H (show aB h p=.no 4 by rw[k,GO l,GO g]);go_wp2_with fail;apply (L _ _).mono;rintro e V3⟨rfl,rfl⟩;go_wp2;rw[a];exact⟨rfl,.no 4,G⟩
def Ta(T:Nat)(tk:Nat->Bool)(W:World):Prop:=∃c,W.heap[T]?=some (.cells c 324)/\c.size=96/\∀q,q<96->c[q]?=some (.bool (tk q))
def Ta.cell{T tk W}(h:Ta T tk W)(q:Nat)(b:q<96):W.cell? (Qz T q)=some (.bool (tk q))/\W.frozen? (Qz T q)=false:=by let⟨c,a,e,d⟩:=h;exact⟨by rw[ac a];exact d q b,by simp[QD,a]⟩
def Ta.lt(h:Ta T tk W):T<W.heap.size:=by let⟨c,a,_⟩:=h;exact ag a
def Ta.same{W':QM}(h:Ta T tk W)(e:W'.heap[T]?=W.heap[T]?):Ta T tk W':=by let⟨c,a,b⟩:=h;exact⟨c,e.trans a,b⟩
def Ta.eq{tk':Nat->Bool}(h:Ta T tk W)(e:∀q,q<96->tk' q=tk q):Ta T tk' W:=by let⟨c,b,d,f⟩:=h;exact⟨c,b,d,λq a=>by rw[e q a];exact f q a⟩
def Ta.set(h:Ta T tk W)(k:Nat)(b:k<96):Ta T (λq=>tk q || decide (q=k)) (W.setCell (Qz T k) Ql):=by
 let⟨c,d,a,f⟩:=h;refine⟨c.setIfInBounds k Ql,by simp[World.setCell,FD,d],by simpa using a,λq g=>?_⟩;rw[FK];by_cases e:k=q;.subst e;simp[a,b]
 rw[GO e,f q g];have:decide (q=k)=false:=bG;dsimp only;rw[this,Bool.or_false]
def hJ{W'}(h:D W W'):W.grownBy W' none:=⟨h.os,h.tape,h.output,h.size,λk a _=>h.block k a⟩
def rt(c:Option Nat):Value:=.pointer (c.map λb=>⟨b,0,none⟩)
def tS:Tryz.zeroCells324=Array.replicate 96 Qk:=E
def eX(rg:List Rg9)(left:Lit->Bool):List Rg9:=rg.filter λr=>!left (.int .u64 (r.base:Nat))
def vP{left:Lit->Bool}(h:∀r∈rg,left (.int .u64 (r.base:Nat))=true)(q):gY (eX rg left) q=false:=by
 have:eX rg left=[]:=by unfold eX;rw[IC];intro r a;rw[h r a];simp
 rw[this];rfl
def qn{left:Lit->Bool}(h:∀a,left a=false):eX rg left=rg:=by unfold eX;rw[Il];intro r a;rw[h];rfl
def vE{left:Lit->Bool}(d:r∈rg)(c:∀a∈rg,a.base=r.base->a=r)(q):gY (eX rg (λz=>left z && !z.sameKey (.int .u64 (r.base:Nat)))) q=(gY (eX rg left) q || (decide (r.first<=187+q)&&decide (187+q<r.first+r.ext))):=by
 unfold gY eX;rw[List.any_filter,List.any_filter];cases e:(decide (r.first<=187+q)&&decide (187+q<r.first+r.ext))with
 |true=>rw[Bool.or_true,List.any_eq_true];refine⟨r,d,?_⟩;rw[e];simp[Lit.sameKey]
 | false=>
  rw[Bool.or_false];rw[Bool.eq_iff_iff,List.any_eq_true,List.any_eq_true];constructor
  .rintro⟨x,hx,hc⟩;refine⟨x,hx,?_⟩;by_cases b:x.base=r.base;.have:=c x hx b;subst this;rw[e]at hc;simp at hc
   let a:(Lit.int .u64 (x.base:Nat)).sameKey (.int .u64 (r.base:Nat))=false:=by simp[Lit.sameKey];omega
   dsimp only at hc;rw[a]at hc;simpa using hc
  rintro⟨x,hx,hc⟩;refine⟨x,hx,?_⟩;by_cases b:x.base=r.base;.have:=c x hx b;subst this;rw[e]at hc;simp at hc
  let a:(Lit.int .u64 (x.base:Nat)).sameKey (.int .u64 (r.base:Nat))=false:=by simp[Lit.sameKey];omega
  dsimp only;rw[a];simpa using hc
def Inv.uniq(i:Inv cf h){f:Rg9}(k:r∈h.rg)(c:f∈h.rg)(e:f.base=r.base):f=r:=by
 let s:=i.baseP k;let n:=i.baseP c;let p:=i.rgs r k;let q:=i.rgs f c;let⟨a,ha⟩:=He k;let⟨b,l⟩:=He c;let g:=Fz.1 ha;let j:=Fz.1 l;let o:=II.1 i.apart;unfold Rg9.ext at p q;rcases Ie a b with d|m|d;.have:=o a b g.1 j.1 d;rw[g.2,j.2]at this;unfold Rg9.ext at this;rw[e]at n;omega
 .subst m;rw[ha]at l;exact(GB l).symm
 have:=o b a j.1 g.1 d;rw[g.2,j.2]at this;unfold Rg9.ext at this;rw[e]at n;omega
inductive DY(W:World):Option Nat->Ending->World->Prop
 |yes (s:Nat) (W':World) (b:D W W'):DY W (some s) (.returned (I s)) W'
 |no (W':World) (b:D W W'):DY W none (.panicked (ip 1)) W'
def zx(B y d cf h)(n:Nat)(W)(a:Hp B y d cf h W)(i:Inv cf h)(hn:1<=n)(b7:n<=18014398509482000):
  Calls prog 158 #[.pointer (some ⟨y.P,0,none⟩),.int .i64 (n:Nat)] W (DY W (dV h n)):=by
 have K:=H (λV(o:D W V)=>a.below o);have HI:=H i;have LS:=H (λV(o:D W V)=>iI V (a.below o).tb);clear a i;go_in;go_upto_region 2 with fail
 refine(let_mvar%?B:=W.alloc (.cells Tryz.zeroCells324 324);?_);have m:D W ?B:=ph;have j:Ta W.heap.size (λ_=>false) ?B:=⟨_,ao W _,by rw[tS];simp,λq hq=>by rw[tS];simp[hq]⟩;have b:=K.out _ m;have⟨a,e,b8,k,f⟩:=b.mp.map;have l:=b.cell 115 Z (.map (some y.R)) rfl;have g:=H (show y.R<(?B).heap.size by obtain⟨es,c,hR⟩:=b.mp.typ;exact ag hR);have b3:=H (show y.R<W.heap.size by obtain⟨es,c,hR⟩:=(K W th).mp.typ;exact ag hR);generalize W.alloc _=V at*;have⟨T,hT⟩:=Qb W.heap.size;rw[<-hT]at j⊢;have HT:=H hT;clear hT;have HD:=H (IT k f);have a0:=H b.lo;have BT:=H m;clear b k f m;go_wp2_with (at_range;refine wpList_range_own _ rfl _ 90 rfl 24 210 fa underlying90 ev y.R 4096 a rfl e ?_;intro w0 b f k)
 go_frame
 have⟨r,F⟩:=Qb V.heap.size;have m:D V w0:=(Fu V.heap.size V).grown f gi bH;have p:=H (j.same (m.block _ j.lt));have B0:=H (BT.trans (m.mono BT.size));have a1:=H (show T<r by rw[F];exact j.lt);have b4:=H (show W.heap.size<=r by rw[F];exact BT.size);rw[<-F]at b⊢;have a2:=H b;have a3:=H (p.eq (tk':=gY (eX h.rg (has a))) (λq hq=>vP (λr F=>by have h1:=HI.baseP F;rw[HD.2 r.base Z,a0 r.base];exact List.any_eq_true.2 ⟨r,F,bH⟩) q))
 clear b f k e j p m F l g;go_loopw [7] (λ_ wr=>∃(left:Lit->Bool)(O:Nat),Hid (wr.ranges prog 24 ev y.R r 4096 a left O)/\Hid (Ta T (gY (eX h.rg left)) wr)/\Hid (D W wr)) (λ_ wr=>wr.rangeLeft y.R r);exact⟨_,_,a2,a3,B0⟩
 have⟨left,O,G,p,l⟩:=hrel;clear a2 a3 B0;go_wp2_with (at_next;refine wpList_next_ranges _ rfl _ rfl 24 fa ev (Value.int .u64) rt (λb kl hk=>by obtain⟨x,rfl,_⟩:=Maps.keyOf_int_inv underlying24 hk;exact⟨x,rfl⟩) (λv y hv=>by exact(hF hv).elim (λ⟨b,e,_⟩=>⟨some b,e⟩) (λ⟨e,_⟩=>⟨none,e⟩)) y.R r 4096 a left O rfl G ?_ ?_)
 ·intro g f;have s:=H (show Ta T (gY h.rg) wr by have:=p.out;rw[qn f]at this;exact this);have z:=H (show∀r∈h.rg,187<=r.first/\1<=r.ext from λr F=>by have:=HI.rgs r F;unfold Rg9.ext;omega)
  go_wp2;refine(let_mvar%?A:=NY (gY h.rg);?_);go_loopw [9,35] (λf i Y=>∃k:Nat,k<=96/\i=.int .i64 k/\f=.int .i64 (?A k:Nat)/\Hid (∀j,j<=k->?A j<n)/\Hid (Ta T (gY h.rg) Y)/\Hid (D W Y)) (λ_ i _=>96-(intOf i).toNat)
  exact⟨0,aa,rfl,rfl,H (λj X=>by obtain rfl:j=0:=Z;show 0<n;omega),s,l⟩
  case round=>
   obtain⟨k,hk,rfl,rfl,g,s,m⟩:=hrel;by_cases L:k<96
   ·have M:=(s.cell k L).1;have a4:=pe (gY h.rg) k;have w:=H (show ?A (k+1)=if gY h.rg k then 0 else ?A k+1 from rfl);have v:=H (λh1=>Pd z hn L h1 g);generalize gY h.rg k=tk at*;cases tk with
    | true=>
     have N:=H (show∀j,j<=k+1->?A j<n from λj X=>by
      by_cases e:j=k+1;·subst e;rw[w];simp;omega
      exact g j Z)
     have t:((0:Int)==(n:Int))=false:=bG;have f:=H (show ?A (k+1)=0 by rw[w];rfl);generalize ?A k=A at*;go_wp2;go_roundw;(exact⟨k+1,Z,aY,by rw[f];rfl,N,s,m⟩);case measure=>simp[intOf];omega
    | false=>
     have f:=H (show ?A (k+1)=?A k+1 by rw[w];rfl);have a5:=g.out k gi;generalize t:?A k=A at*;by_cases P:A+1=n
     ·have Q:=H (v (by rw[f];exact P));have t:((A:Int)+1==(n:Int))=true:=bG;have u:=H (LS wr m);have R:=H (show((187+(k+1-n):Nat):Int)=187+(k:Int)+1-(n:Int) by omega);go_wp2_with fail;refine(u).mono ?_;rintro e V9⟨rfl,b9⟩;have B9:=H (m.trans (b9.mono m.size));go_wp2;go_ret;rw[Q];have:=DY.yes (W:=W) (187+(k+1-n)) V9 B9;rw[R]at this;exact this
     have N:=H (show∀j,j<=k+1->?A j<n from λj X=>by
      by_cases e:j=k+1;·subst e;rw[f];omega
      exact g j Z)
     have t:((A:Int)+1==(n:Int))=false:=bG;go_wp2;go_roundw;(exact⟨k+1,Z,aY,by rw[f];simp,N,s,m⟩);case measure=>simp[intOf];omega
   obtain rfl:k=96:=Z;have Q:=H (sI z hn g);generalize ?A 96=A at*;go_wp2;refine⟨rfl,?_⟩;rw[Q];exact .no _ m
 intro x c kl yd yp M v N a4 hv w z L P a9 t;obtain⟨x',ex,rfl,a5⟩:=Maps.keyOf_int_inv underlying24 N;cases ex;have b5:=bounds_u64 a5;obtain⟨kk,rfl⟩:∃kk:Nat,x=(kk:Int):=⟨x.toNat,Z⟩;have Q:=has_true_of_atKey w;rw[HD.2 kk Z,a0 kk]at Q;have⟨f,A,a6⟩:=List.any_eq_true.1 Q;simp at a6;subst a6;have⟨g,R,lc⟩:=(K W th).lcAt HI A;have X:=w .nil;rw[HD.1 f.base Z,R]at X;obtain rfl:c=some g:=by
  cases c with
  |none=>simp[rt,ev]at hv;rw[<-hv.1]at X;simp[sG]at X
  |some b=>simp[rt,ev]at hv;rw[<-hv.1]at X;simp[sG]at X;have:b=g:=Z;rw[this]
 have b2:D W M:=l.grown P l.size (λj e=>by cases e;exact b4);have B2:=H b2;have a7:=H (p.same (P.block _ p.lt (λe=>by simp at e;have:=a1.out;omega)));have G2:=H z;have LE:=H (IT z.left_eq G.left_eq);have LC:=H (λV(o:D W V)=>lc.below o);have EX:=H (λV(o:D W V)=>iE g f V (lc.below o));have b6:=HI.rgs f A;have a8:=H (λq=>vE (left:=left) A (λb b e=>HI.uniq A b e) q)
 unfold rt at t⊢;simp only[Hi]at t⊢;have c4:f.first<=283:=Z
 generalize l:f.base=bs at*;go_wp2_with fail;refine(EX _ B2).mono ?_;rintro e w3⟨rfl,rfl⟩;have G3:=H (G2.kept ((Fu M.heap.size M).drew |> hJ) bH bH);have a5:=H (show Ta T (λq=>gY (eX h.rg left) q || (decide (f.first<=187+q)&&decide (187+q<f.first+0))) M.drew from(a7.same (W':=M.drew) rfl).eq (λq hq=>by
  have:(decide (f.first<=187+q)&&decide (187+q<f.first+0))=false:=by simp<;>omega
  rw[this,Bool.or_false]))
 have B3:=H B2.drew;generalize M.drew=W3 at*;go_wp2;go_loopw [22] (λi Y=>∃k:Nat,k<=f.ext/\i=.int .i64 k/\Hid (Y.ranges prog 24 ev y.R r 4096 a (λz=>left z && !z.sameKey (.int .u64 (bs:Nat))) v)/\Hid (Ta T (λq=>gY (eX h.rg left) q || (decide (f.first<=187+q)&&decide (187+q<f.first+k))) Y)/\Hid (D W Y)) (λi _=>f.ext-(intOf i).toNat);exact⟨0,aa,rfl,G3,a5,B3⟩
 case round=>
  clear G3 a5 B3;obtain⟨k,hk,rfl,G,s,m⟩:=hrel;by_cases a4:k<f.ext
  ·obtain⟨w,p⟩:∃w:Nat,f.first=187+w:=⟨f.first-187,Z⟩
   have⟨l,P⟩:=Qb (w+k);have N:l<96:=Z;have CK:=H (λV(o:D W V)=>(LC V o).c2);have u:=H (λV(o:D W V)=>LS.out V o);have b5:IntKind.i64.wrap ((f.first:Int)-187)=(w:Int):=(by rw[iV Z Z];omega);have b6:IntKind.i64.wrap ((w:Int)+(k:Int))=(l:Int):=(by rw[iV Z Z];omega);have a7:=H (show∀q,q<96->(gY (eX h.rg left) q || (decide (f.first<=187+q)&&decide (187+q<f.first+(k+1))))=((gY (eX h.rg left) q || (decide (f.first<=187+q)&&decide (187+q<f.first+k))) || decide (q=l))from λq hq=>by
    rw[p,P];by_cases e:q=w+k;·subst e;simp;omega
    rw[show decide (q=w+k)=false by simp[e],Bool.or_false];congr 2;exact decide_eq_decide.2 Z)
   generalize Q:f.first=fs at*
   clear Q p P;(go_upto_region 8 with fail);refine rh (S:=λa=>a.cell? ⟨g,2,none⟩=some (.int .i64 (fs:Nat))) ?_;have p:=CK.out wr.drew m.drew;(iterate 4 refine PX 0 p ?_);refine PX 6 p ?_;refine po 4 λK' hK=>?_;go_simp;refine(u _ m.drew).mono ?_;rintro e U1⟨rfl,P⟩;have k1:D W U1:=m.drew.trans (P.mono m.size);have q1:=CK.out _ k1;have Q:D wr U1:=⟨P.os,P.tape,P.output,P.size,P.block⟩;have R:=s.same (Q.block _ s.lt);have g1:=G.kept (hJ Q) bH bH;refine hK _ _ ⟨q1,?_⟩;clear p;have p:=q1;have⟨cT,fT⟩:=R.cell l N;clear hK K';refine PX 5 p ?_;(iterate 2 refine PX 7 p ?_);refine po 9 λK' hK=>?_
   go_simp;have a9:=R.set l N;have X:=au (Q6 U1 T) l (.bool true);have g2:=g1.kept X (by simp;have:=b3.out;have:=HT.out;omega) (by simp;have:=a1.out;omega);have k2:D W (U1.setCell ⟨T,l,none⟩ (.bool true)):=k1.grown X k1.size (λj e=>by simp at e;have:=HT.out;omega);have q2:=CK.out _ k2;refine hK _ _ ⟨q2,?_⟩;clear hK K';refine bY ?_;have FF:=H (IT g2 (IT (a9.eq a7) k2));clear g2 a9 k2 q2 k1 q1 R g1 P Q X cT fT p CK u a7 G s m;go_wp2;go_roundw;(exact⟨k+1,Z,aY,H FF.1,H FF.2.1,H FF.2.2⟩);case measure=>simp[intOf];omega
  obtain rfl:k=f.ext:=Z;have l:=H (s.eq (λq hq=>a8.out q));have p:=H G.left_eq;go_wp2;go_roundw;(exact⟨_,v,G,l,m⟩);case measure=>rw[p,LE.2];exact L
def AZ(w:QM):(zeroValue 24).run prog w=.ok (U 0) w:=E
def ig(w:QM)(g:Nat):∀(b:List QN)(o:Nat)(a:QM),a.grownBy w (some g)->a.grownBy (w.setCells g o b) (some g)
 |[],o,a,h=>h
 |v::b,o,a,h=>by
  exact ig _ g b (o+1) a (au h o v)
def Ct.cells{g cap n l is j}: ∀(a:List QN)(o:Nat){W:QM},Ct g cap n l is j W->is.length<=o->n<=j->Ct g cap n l is j (W.setCells g o a)
 |[],o,W,h,_,_=>h
 |v::a,o,W,h,k,b=>by
  refine Ct.cells a (o+1) ?_ Z b
  let⟨c,d,e,f,m⟩:=h.row
  refine⟨c.setIfInBounds o v,by simp[World.setCell,FD,d],by simpa using e,λq i=>?_,λq p r=>Z⟩
  rw[FK,GO Z]
  exact f q i
def Ct.own{B:Nat}{g cap n l is j}(h:Ct g cap n l is j W)(b:B<=g)(d:is.length<=cap)(e:cap<=maxLen):W.ownsRow B 24 1 (Vl g is.length cap) is.length (Us is):=by
 let⟨c,f,k,i,m⟩:=h.row;refine⟨by simp[Us],.inr ⟨g,cap,c,rfl,b,f,d,e,Z,?_⟩⟩;rw[Nat.mul_one];apply Ho;intro q;by_cases a:q<is.length;.rw[Hf a,Gg,i q a];simp[Us,a]
 rw[FJ bG,FJ (by simp[Us];omega)]
def Fe(B:Nat)(t:Option Addr)(i j:Nat)(l:List Nat)(W:World)(e:Ending)(W':World):Prop:=∃v',e=.returned v'/\W'.ownsRow B 24 1 v' l.length (Us l)/\W.grownBy W' (Value.slice t i j).ownBlock/\v'.ownBlock=(Value.slice t i j).ownBlock
def hE{V c:QM}{o:Option Nat}(h:W.grownBy V o)(b:D V c):W.grownBy c o:=⟨b.os.trans h.os,b.tape.trans h.tape,b.output.trans h.output,Fx h.size b.size,λk d a=>(b.block k (FG d h.size)).trans (h.block k d a)⟩
def nu(B:Nat)(L r)(T:QP)(X u:Nat)(l:List Nat)(W:QM)(h:W.ownsRow B 24 1 (.slice T X u) l.length (Us l))(hl:l.length<=100000)(M:∀x∈l,x<18446744073709551616)(a:Lc L r W)(d:∃c,W.heap[L]?=some (.cells c 225)):
  Calls prog 163 #[.slice T X u,.func (.func 164) #[J L 0] #[]] W (Fe B T X u (l.filter λx=>!nr r x) W):=by
 have S:=H (oY B L r T X u l W h hl M a);have a0:=(lA h).1;subst a0;have⟨A,HX,b,HL⟩:=Qf h M a d;clear h M a d;go_in;go_wp2_with fail;refine(S).mono ?_;rintro e V⟨t,⟨rfl,N⟩|⟨k,hk,rfl,o,d⟩⟩;·have f:=H (show l.filter (λx=>!nr r x)=l by rw[Il];intro x M;rw[N x M];rfl);have a:=H t;clear t N;go_wp2;go_ret;rw[f];exact⟨_,rfl,ax A a,hE ⟨rfl,rfl,rfl,gi,λ_ _ _=>rfl⟩ a,rfl⟩
 have⟨g,hg⟩:=cr A Z;subst hg;have O:∃p f,u=p/\B<=g/\W.heap[g]?=some (.cells f 24)/\l.length<=p/\p<=maxLen/\f.size=p/\f.toList.take l.length=Us l:=by
  rcases A.2 with⟨e,_⟩|⟨m,p,f,e,G,P,a,i,n,j⟩;·cases e
  cases e;exact⟨u,f,rfl,G,P,a,i,Z,by simpa using j⟩
 obtain⟨p,f,rfl,hB,m,a1,a2,v,n⟩:=O;have y:Ct g u l.length l (dW r l k) (k+1) V:=by
  refine⟨f,(t.block _ (ag m)).trans m,v,λq K=>?_,λq G P=>?_⟩
  ·rw[kq r l k Z d]at K⊢;rw[Hm]at K;have F:(f.toList.take l.length)[q]?=(Us l)[q]?:=(by rw[n]);rw[Hf Z,Gg]at F;rw[F,Hf Z];simp[Us,show q<l.length by omega]
  have F:(f.toList.take l.length)[q]?=(Us l)[q]?:=by rw[n]
  rw[Hf Z,Gg]at F;rw[F];simp[Us,P]
 have s:dW r l (k+1)=dW r l k:=by rw[jb r l k hk,GP o,Gl]
 have w:(dW r l k).length=k:=by rw[kq r l k Z d,Hm];omega
 have⟨KL,Q⟩:=y7 (λj(G:k<j)(P:j<=l.length)=>yG r l k j G P o) (hE (Q6 W g) t);have R:=H (show Ct g u l.length l (dW r l (k+1)) (k+1) V by rw[s];exact y);have a3:=H (show(dW r l (k+1)).length=k by rw[s];exact w);have KS:=H (λj G=>jb r l j G);have KW:=H (show dW r l l.length=l.filter (λx=>!nr r x) by unfold dW;rw[G9]);have CV:=H (λa(hU:W.grownBy a (some g))x(hx9:x<18446744073709551616)=>n_ L x r a (by
  have⟨c,Y⟩:=HL.out;have a4:L≠g:=λe=>by rw[e,m]at Y;simp at Y
  have F:a.heap[L]?=W.heap[L]?:=hU.block L (ag Y) (by simpa using a4);have z:∀i,a.cell? (Qz L i)=W.cell? (Qz L i):=λi=>by unfold World.cell?;rw[F]
  exact⟨(z 0).trans b.c0,(z 1).trans b.c1,(z 2).trans b.c2,(z 3).trans b.c3,(z 4).trans b.c4,b.hf,b.hu,b.hp⟩) hx9)
 clear y s w S t A m n v HL b d o;generalize b:l.length=n at*;have HN:=H b;have a8:((k:Int) == -1)=false:=by simp<;>omega
 go_wp2;go_loopw [5,6] (λi j wr=>∃b:Nat,k<b/\b<=n/\j=I b/\i=I ((dW r l b).length:Nat)/\Hid (Ct g u n l (dW r l b) b wr)/\Hid (W.grownBy wr (some g))) (λ_ j _=>n-(intOf j).toNat);exact⟨k+1,Z,Z,aY,by rw[a3],R,Q⟩
 obtain⟨j,a4,hj,rfl,rfl,A,S⟩:=hrel;by_cases y:j<n
 ·have m:=A.cell (Fv j) y;have a5:l[j]?.getD 0<18446744073709551616:=HX.out _ (by rw[Fy (by rw[HN];exact y)];exact Iw _);have Y:=H (KS j y);have w:=nZ r l j;generalize K:l[j]?.getD 0=q at*;have s:=H (CV wr S q a5);rw[show(decide (r.first<=q/1024)&&decide (q/1024<r.first+r.ext))=nr r q from rfl]at s;generalize z:dW r l j=b at*;go_wp2_with fail;refine(s).mono ?_;rintro e a⟨rfl,t⟩;have⟨d,v⟩:=y7 (A.same (t.block _ A.lt)) (hE S t);cases o:nr r q with
  |true=>have m:=H (show dW r l (j+1)=b by rw[Y,o];simp);go_wp2;go_roundw;(exact⟨j+1,Z,Z,aY,by rw[m],H (by rw[m];exact d.skip),v⟩);exact QE
  |false=>have m:=H (show dW r l (j+1)=b++[q] by rw[Y,o];simp);have⟨v0,c0⟩:=d.anyC (q:=b.length) Z;have f0:=d.free b.length;have⟨a6,a7⟩:=y7 (d.put q w y a1) (au v b.length (U q));have a9:(b.length:Int)<(n:Int):=Z;generalize s:b.length=il at*;have t:=H s;go_wp2;go_roundw;(exact⟨j+1,Z,Z,aY,by rw[m,FC,t];simp,H (by rw[m];exact a6),a7⟩);exact QE
 obtain rfl:j=n:=Z;have Y:=KL.out j a4 gi;generalize z:dW r l j=b at*;have a5:=H z;refine(let_mvar%?A:=List.replicate (j-b.length) (U 0);?_);have a6:∀d,(Builtin.clear_ #[37] d #[.slice (some (Qz g b.length)) (j-b.length) (u-b.length)]).run prog wr=.ok (.tuple #[]) (wr.setCells g b.length ?A):=
  λd=>Lib.run_clear_slice wr 37 24 d (U 0) underlying37 AZ rfl rfl g b.length _ _ Z (λq K=>by obtain⟨v,hv⟩:=A.anyC (q:=b.length+q) Z;rw[hv];rfl) (λq K=>A.free _)
 have⟨m,v⟩:=y7 (A.cells ?A b.length gi gi) (ig wr g ?A b.length W S);generalize s:b.length=il at*;have t:=H s;go_wp2;go_ret;refine⟨_,rfl,?_,v,rfl⟩;have A:=m.own hB (by rw[t];omega) a2;rw[t]at A;rw[<-KW.out,t];exact A
end
section
variable {g:Nat}{W:World}
def uO{cf h}(i:Inv cf h){s p:Nat}(a:dV h (g+p+1)=some s):(∀j,j<p->(h.m (s+g+j)).isSome=false)/\(h.rg.any λr=>r.base==(s+g)*1024)=false:=by
 let⟨k,l,c⟩:=gO a;constructor
 .intro j e;cases b:(h.m (s+g+j)).isSome with
  |false=>rfl
  |true=>let⟨r,a,_,f,m⟩:=(i.big _ Z).1 b;have:=c r a;let d:r.ext=r.guards+r.pages+1:=rfl;omega
 cases b:(h.rg.any λr=>r.base==(s+g)*1024)with
 |false=>rfl
 |true=>
  let⟨r,a,e⟩:=List.any_eq_true.1 b;let f:(r.first+r.guards)*1024=(s+g)*1024:=by simpa[Rg9.base]using e
  have:=c r a;let d:r.ext=r.guards+r.pages+1:=rfl;omega
def sR(s g p:Nat)(a c:Int)(l:List Nat):(l.filter λx=>!nr ⟨s,g,p,a,c⟩ x)=l.filter λb=>b/1024<s || s+(g+p+1)<=b/1024:=by congr 1;funext x;let d:(⟨s,g,p,a,c⟩:Rg9).ext=g+p+1:=rfl;unfold nr;rw[d];by_cases e:s<=x/1024<;>by_cases f:x/1024<s+(g+p+1)<;>simp[e,f]<;>omega
def ET{a:QM}{o:Option Nat}{e:Ending}(h:DY W o e a):(∃s:Nat,e=QJ (I s)/\o=some s/\D W a)\/(e=.panicked (ip 1)/\o=none/\D W a):=by
 cases h with
 |yes s _ b=>exact .inl ⟨s,rfl,rfl,b⟩
 |no _ b=>exact .inr ⟨rfl,rfl,b⟩
def cN{v:QN}{t:QO}(h:W.heap[g]?=some (.cells #[v] t)):W.cell? (Qz g 0)=some v:=bJ h
def nx{r}(h:W.heap[g]?=some (.cells (oV r) 225))(a:r.first<=300)(b:r.guards<=3)(c:r.pages<=18014398509481984):Lc g r W:=by refine⟨?_,?_,?_,?_,?_,a,b,c⟩<;>rw[ac h]<;>rfl
def sB{a:Nat}(h:a<18446744073709551616):aR a<=18014398509481984:=by unfold aR;split<;>omega
def oU(B y d cf h an)(a:Nat)(W)(hp:Hp B y d cf h W)(c:Gd d h an)(i:Inv cf h)(ha:1016<a)(c0:a<18446744073709551616)(O:h.used+2000<=1000000)(dk:mE cf)(M:h.rg.length<4096)(q:h.rel.length<=100000):
  Calls prog 105 #[.pointer (some ⟨y.P,0,none⟩),.int .u64 (a:Nat)] W (AS B y cf an d.lg W (av cf h a)):=by
 have x:=H (iJ cf h ha);have⟨o,b⟩:=Qa (av cf h a);rw[b]at x⊢;clear b;have k:=H hp;have j:=H c;have N:=H i;have r:=H (λV(l:D W V)=>oL B y d cf h 3 V (hp.below l) Z Z Z dk.len);have t:=H (λV=>km a V c0);clear hp c i;go_enter func105,ntmps105;go_wp2_with fail;have c:D W (W.alloc (.cells #[.pointer (some ⟨y.P,0,none⟩)] 77)):=ph;have v:=ao W (.cells #[.pointer (some ⟨y.P,0,none⟩)] 77);refine(r _ c).mono ?_;rintro e V1⟨rfl,n,b1⟩;have e0:dr cf h 3<3:=by unfold dr;omega
 have b:=H n;have i:=H (Bi.trans (Bi.ofBelow c k.bW) b1);have s:=H (show V1.heap[W.heap.size]?=some (.cells #[.pointer (some ⟨y.P,0,none⟩)] 77)from b1.ky.XC v (by unfold hI;decide));generalize p:W.heap.size=u at*;clear n b1 v c r k p;generalize c:dr cf h 3=z at*;have A:=H c;clear c;go_wp2_with fail;refine(t _).mono ?_;rintro e K⟨rfl,rfl⟩;clear t;go_upto_region 3 with fail
 refine(let_mvar%?E:=wrap64 (a:Nat);let_mvar%?A:=(K.alloc (.cells #[.int .i64 1,.int .i64 (?E),.int .i64 0,.int .i64 (1+(z:Nat)),.int .i64 (aR a:Nat)] 225));?_);generalize c:(?A).alloc (.cells #[.pointer (some ⟨K.heap.size,0,none⟩)] 210)=F;have t:D K F:=by rw[<-c];exact ph.alloc (by rw[aO];omega) _
 have G:F.heap[K.heap.size]?=some (.cells (oV ⟨0,1+z,aR a,1,?E⟩) 225):=by rw[<-c,eg _ _ _ (by rw[aO];omega),ao];simp[oV]
 have p:F.heap[K.heap.size+1]?=some (.cells #[.pointer (some ⟨K.heap.size,0,none⟩)] 210):=by have n:=ao ?A (.cells #[.pointer (some ⟨K.heap.size,0,none⟩)] 210);rw[aO,c]at n;exact n
 have T:=H (b.below t);have b7:=H (i.add t b.bW);have a4:=H (show F.heap[u]?=some (.cells #[.pointer (some ⟨y.P,0,none⟩)] 77) by rw[t.block _ (ag s)];exact s);have c1:=H (show B<=K.heap.size from b.bW);have NL:=H (show∀k,d.lg k≠some K.heap.size from λk L=>by
  have n:=b.lo k;rw[L]at n;have P:h.rg.any (λr=>r.base==k)=true:=n.symm;have⟨r,hr,w⟩:=List.any_eq_true.1 P;have v:r.base=k:=by simpa using w
  have⟨g,e1,_,e3⟩:=b.lb r hr;rw[v,L]at e1;cases e1;have:=ag e3;omega)
 have a6:=H (λV(l:D K V)=>IT (b.below l) (i.add l b.bW));have B3:=H t;have b8:=H (λV(l:D K V)=>show V.heap[u]?=some (.cells #[.pointer (some ⟨y.P,0,none⟩)] 77) by rw[l.block _ (ag s)];exact s);clear c t b i s;have⟨L,b⟩:=Qa K.heap.size;have b9:=H b;rw[b]at G p c1 NL⊢;clear b;generalize c:L+1=w at*;have HL:=H G;have b:=H p;have d3:=H (show L≠w by omega);clear G p c;have PG:=H (sB c0);have⟨v,c⟩:=Qa (aR a);have X:=H c;rw[c]at HL PG⊢;clear c;rw[X]at x;have I1:=H (N.used (h.used+1));have G1:=H (show Gd d {h with used:=h.used+1} an from⟨j.on,j.un,j.an⟩);clear N j A;generalize c:({h with used:=h.used+1}:Hs)=n at*;have d4:n.rg.length<4096:=by rw[<-c];exact M
 have c2:n.rel.length<=100000:=by rw[<-c];exact q
 clear c M q O;generalize a5:?E=Y at*;have c3:=H a5;clear a5;have CK:=H (show∀V,D F V->V.cell? ⟨w,0,none⟩=some (.pointer (some ⟨L,0,none⟩))/\V.cell? ⟨u,0,none⟩=some (.pointer (some ⟨y.P,0,none⟩))from λV l=>⟨by rw[ac (show V.heap[w]?=_ by rw[l.block _ (ag b)];exact b)];rfl,by rw[ac (show V.heap[u]?=_ by rw[l.block _ (ag a4)];exact a4)];rfl⟩);have a7:=H (show∀V,D F V->Lc L ⟨0,1+z,v,1,Y⟩ V from λV l=>nx (by rw[l.block _ (ag HL)];exact HL) bH bG PG);have EX:=H (λV(l:D F V)=>iE L ⟨0,1+z,v,1,Y⟩ V (a7 V l));have RO:=H (λV(l:D F V)=>zx B y d cf n (1+z+v+1) V (T.below l) I1 Z (by have:=PG.out;omega));refine(let_mvar%?C:=AS B y cf an d.lg W o (.panicked (ip 1));?_);have a0:=H (show∀i,dV n (1+z+v+1)=none->D F i->?C i from λi hr hU=>by
  have e1:o=(none,n):=by
   rw[x];split;·rfl
   ·rw[hr];rfl
  rw[e1];exact⟨.no _ _ (Hg.tk ⟨d,T.below hU,G1⟩),b7.add hU T.bW⟩)
 have FZ:=H (show∀V,D F V->V.frozen? ⟨L,2,none⟩=false from λV l=>by have:V.heap[L]?=_:=(l.block _ (ag HL)).trans HL;simp[World.frozen?,this])
 have c4:=H (show∀V(s:Nat),D F V->(V.setCell ⟨L,2,none⟩ (.int .i64 (s:Nat))).heap[L]?=some (.cells (oV ⟨s,1+z,v,1,Y⟩) 225)/\(V.setCell ⟨L,2,none⟩ (.int .i64 (s:Nat))).heap[w]?=some (.cells #[.pointer (some ⟨L,0,none⟩)] 210)/\Hp B y d cf n (V.setCell ⟨L,2,none⟩ (.int .i64 (s:Nat)))/\Bi B W (V.setCell ⟨L,2,none⟩ (.int .i64 (s:Nat)))/\(V.setCell ⟨L,2,none⟩ (.int .i64 (s:Nat))).heap[u]?=some (.cells #[.pointer (some ⟨y.P,0,none⟩)] 77)from λV s l=>by
  have c:V.heap[L]?=_:=(l.block _ (ag HL)).trans HL;have j:V.heap[w]?=_:=(l.block _ (ag b)).trans b;have k:D K (V.setCell ⟨L,2,none⟩ (.int .i64 (s:Nat))):=by have k1:D K V:=B3.trans (l.mono B3.size);exact k1.grown (au (Q6 V L) 2 _) k1.size (λr hr=>by simp at hr;have:=b9.out;omega)
  refine⟨by simp[World.setCell,FD,c,oV],?_,(a6 _ k).1,(a6 _ k).2,b8 _ k⟩;rw[XB (λe=>d3.out e.symm)];exact j)
 generalize c:dV n (1+z+v+1)=rm at*;have c5:=H c;clear c;refine wp_region_held (S:=λW9=>W9.cell? ⟨w,0,none⟩=some (.pointer (some ⟨L,0,none⟩))/\W9.cell? ⟨u,0,none⟩=some (.pointer (some ⟨y.P,0,none⟩))) E ?_;simp only[FX,FN,F1,Nat.reduceAdd,FP,FO,FY,FV,F5];have j:=CK.out _ ld;refine pf 0 (.pointer (some ⟨L,0,none⟩)) rfl j (λW j=>by obtain⟨P,Q⟩:=j;first|(go_simp;done)|(go_simp;omega)) ?_;refine pf 1 (.pointer (some ⟨y.P,0,none⟩)) rfl j (λW j=>by obtain⟨P,Q⟩:=j;first|(go_simp;done)|(go_simp;omega)) ?_;refine pf 2 (.pointer (some ⟨L,0,none⟩)) rfl j (λW j=>by obtain⟨P,Q⟩:=j;first|(go_simp;done)|(go_simp;omega)) ?_;refine po 3 λK' p=>?_;go_simp
 refine(EX _ ld).mono ?_;rintro e R⟨rfl,rfl⟩;have A:=CK.out _ (Fu _ F).drew.drew;refine p _ _ ⟨A,?_⟩;clear j;have j:=A;clear p K';refine po 4 λK' p=>?_;go_simp
 refine(RO _ (Fu _ F).drew.drew).mono ?_;rintro e U2 q;rcases ET q with⟨s,rfl,t,c⟩|⟨rfl,t,c⟩
 rotate_left
 ·have k2:D F U2:=(Fu _ F).drew.drew.trans ⟨c.os,c.tape,c.output,c.size,c.block⟩;exact⟨rfl,a0 U2 t k2⟩
 have k2:D F U2:=(Fu _ F).drew.drew.trans ⟨c.os,c.tape,c.output,c.size,c.block⟩;have q2:=CK.out _ k2;refine p _ _ ⟨q2,?_⟩;clear j q;have j:=q2;have d7:=(a7 U2 k2).c2;have d8:U2.frozen? ⟨L,2,none⟩=false:=FZ.out U2 k2;clear p K';(iterate 2 refine PX 5 j ?_);refine po 7 λK' p=>?_;go_simp
 have⟨a8,a9,b0,c6,b4⟩:=c4.out U2 s k2;have q3:_/\_:=⟨cN a9,cN b4⟩;refine p _ _ ⟨q3,?_⟩;clear p K';refine bY ?_;generalize U2.setCell ⟨L,2,none⟩ (.int .i64 (s:Nat))=V4 at*;have b6:=H (c5.trans t);have c8:=H t;have⟨r1,r2,r3⟩:=gO b6;have a5:Y=(a:Nat):=by rw[<-c3.out];have q:=gE a;rw[X]at q;exact wrap64_in Z Z
 subst a5;have⟨q,a1⟩:=uO I1 b6;obtain⟨r,hr⟩:∃r:Rg9,r=⟨s,1+z,v,1,(a:Nat)⟩:=⟨_,rfl⟩;have HR:=H hr;rw[<-hr]at a8;have G:r.base=(s+(1+z))*1024:=by rw[hr];rfl
 have c9:r.base<18446744073709551616:=by rw[G];omega
 have N:=H a8;have a2:=H a9;have a3:=H b4;have O:=H b0;have d0:=H c6;have d1:=H q;have H0:=H (show d.lg r.base=none by have:=b0.lo r.base;rw[G,a1]at this;rw[G];simpa using this)
 have d2:=H G;have M:=H (IT r1 r2);have d9:=H (show 1<=v by have:=mF ha;rw[X]at this;exact this);clear a8 a9 b4 b0 c6 q a1 hr G r1 r2 r3 A q2 q3 j k2 c d7 d8 a0 RO EX a7 CK FZ c4 a6 B3 b8 b9 t HL b a4 T b7 c5 X c3 PG;refine(let_mvar%?G:=some y.R;?_);have CK:=H (show V4.cell? ⟨w,0,none⟩=some (.pointer (some ⟨L,0,none⟩))/\V4.cell? ⟨u,0,none⟩=some (.pointer (some ⟨y.P,0,none⟩))/\V4.cell? ⟨y.P,115,none⟩=some (.map ?G)from⟨cN a2,cN a3,O.cell 115 Z _ rfl⟩);have a4:=H (show∀V,D V4 V->Lc L r V from λV l=>nx (by rw[l.block _ (ag N)];exact N) (by rw[HR];have:=M.out;simp;omega) (by rw[HR];simp;omega) (by rw[HR];have:=M.out;simp;omega));have LB:=H (λV(l:D V4 V)=>ie L r V (a4 V l));have CD:=H (show V4.drew.drew.cell? ⟨w,0,none⟩=some (.pointer (some ⟨L,0,none⟩))/\V4.drew.drew.cell? ⟨u,0,none⟩=some (.pointer (some ⟨y.P,0,none⟩))/\V4.drew.drew.cell? ⟨y.P,115,none⟩=some (.map ?G)from CK);have q:=H (O.below (Fu _ V4).drew.drew);go_upto_region 4 with fail
 refine wp_region_held (S:=λW9=>W9.cell? ⟨w,0,none⟩=some (.pointer (some ⟨L,0,none⟩))/\W9.cell? ⟨u,0,none⟩=some (.pointer (some ⟨y.P,0,none⟩))/\W9.cell? ⟨y.P,115,none⟩=some (.map ?G)) E ?_;simp only[FX,FN,F1,Nat.reduceAdd,FP,FO,FY,FV,F5];have j:=CK.out;refine pf 0 (.pointer (some ⟨y.P,0,none⟩)) rfl j (λW j=>by obtain⟨P,Q,y2⟩:=j;first|(go_simp;done)|(go_simp;omega)) ?_;(iterate 2 refine PX 1 j ?_);refine pf 3 (.map ?G) rfl j (λW j=>by obtain⟨P,Q,y2⟩:=j;first|(go_simp;done)|(go_simp;omega)) ?_;refine pf 4 (.pointer (some ⟨L,0,none⟩)) rfl j (λW j=>by obtain⟨P,Q,y2⟩:=j;first|(go_simp;done)|(go_simp;omega)) ?_;refine pf 6 (.pointer (some ⟨L,0,none⟩)) rfl j (λW j=>by obtain⟨P,Q,y2⟩:=j;first|(go_simp;done)|(go_simp;omega)) ?_;refine po 5 λK' p=>?_;go_simp
 refine(LB _ ld).mono ?_;rintro e R⟨rfl,rfl⟩;have A:=CD.out;refine p _ _ ⟨A,?_⟩;have j:=A;refine po 7 λK' p=>?_;have⟨V5,c,a6,t⟩:=q.mp.put r.base L c9 H0 d4
 have T:=iC t q.mp.typ;refine mb 90 (.tmp 29) (.tmp 31) (.tmp 32) (vm:=.map ?G) (vx:=.int .u64 (r.base:Nat)) (vu:=.pointer (some ⟨L,0,none⟩)) E E E E c ?_;refine p _ _ ⟨⟨T.cellK A.1,T.cellK A.2.1,T.cellK A.2.2⟩,?_⟩;refine bY ?_;have kD:D V4 V4.drew.drew:=ld.drew;have X:V4.drew.drew.heap[L]?=some (.cells (oV r) 225):=(kD.block _ (ag N)).trans N;have⟨a7,b5⟩:=q.addR X c1 NL H0 a6 t;have a1:=H a7;have a9:=H ((d0.add kD O.bW).trans b5);have b:=H (show V5.heap[w]?=some (.cells #[.pointer (some ⟨L,0,none⟩)] 210)from T.XC ((kD.block _ (ag a2)).trans a2) (λe=>e));have G:=H (show V5.heap[u]?=some (.cells #[.pointer (some ⟨y.P,0,none⟩)] 77)from T.XC ((kD.block _ (ag a3)).trans a3) (λe=>e));have LO:=H O.lo;have b0:=H (show V5.heap[L]?=some (.cells (oV r) 225)from T.XC X (λe=>e));have a6:=H (show∀V:World,V.heap[L]?=some (.cells (oV r) 225)->Lc L r V from λV l=>nx l (by rw[HR];have:=M.out;simp;omega) (by rw[HR];simp;omega) (by rw[HR];have:=M.out;simp;omega));have LP:=H (λV(l:D V5 V)=>ma L 0 r V (a6 V (by rw[l.block _ (ag b0)];exact b0)));have c:r.pages=v/\r.first+r.guards=s+(1+z):=by rw[HR];exact⟨rfl,rfl⟩
 rw[c.1,c.2]at LP;refine(let_mvar%?B:=upd d.lg r.base (some L);?_);obtain⟨d5,t⟩:∃d5:Dy,d5={d with lg:=?B}:=⟨_,rfl⟩;rw[<-t]at a1;have N:=H t;have G5:=H (show d5.lg=?B/\d5.un=.nilFunc/\d5.an=an/\(∀c s,c<12->s<6->d5.on c s=dA n c s) by rw[t];exact⟨rfl,G1.un,G1.an,G1.on⟩);have CM:=H (λV(l:D V5 V)=>nA B y d5 cf {n with rg:=n.rg++[r]} (s+(1+z)) v (.func 162) #[] #[.pointer (some ⟨u,0,none⟩),.pointer (some ⟨w,0,none⟩)] V (a1.below l) I1.out.out d9 (by have:=M.out;omega) d1);have CD:=H (show∀V,D V5 V->V.cell? ⟨w,0,none⟩=some (.pointer (some ⟨L,0,none⟩))/\V.cell? ⟨u,0,none⟩=some (.pointer (some ⟨y.P,0,none⟩))from λV l=>⟨cN ((l.block _ (ag b)).trans b),cN ((l.block _ (ag G)).trans G)⟩);have b4:=H (show o=Dr cf n (1+z) v a (some s) by rw[x,GO (by have:=M.out;omega),c8])
 refine(let_mvar%?F:=cf.bud<bz n.m 283+v;?_);have a0:=H (show∀f' R i,D V5 R->Bi B R i->(cf.bud:Int)<(bz n.m 283:Int)+v->Hp B y {d5 with f:=f',un:=.func (.func 162) #[] #[.pointer (some ⟨u,0,none⟩),.pointer (some ⟨w,0,none⟩)]} cf {n with rg:=n.rg++[r]} i->?C i from λf' R i N hU hb hp=>by
  have e1:o=(none,n):=by rw[b4];show(if ?F then(none,n)else _)=_;rw[GP Z]
  rw[e1];refine⟨.no _ _ (λV l=>?_),(a9.add N a1.bW).trans hU⟩;have O:=hp.below l;have⟨g,e3,_,e5⟩:=O.lb r bH;have e4:d5.lg r.base=some g:=e3;rw[G5.1,upd_same]at e4;cases e4;have cx:∀(g:Nat)(c:Array Value)(t:TypeId),¬hI t->V5.heap[g]?=some (.cells c t)->V.heap[g]?=some (.cells c t):=λg c t ht hg=>by have n:=hU.ky.XC ((N.block _ (ag hg)).trans hg) ht;exact(l.block _ (ag n)).trans n
  refine(N8 B y _ cf n r L u w d.lg V O G5.1 H0 LO (a6 V e5) c9 (cN (cx _ _ _ (by unfold hI;decide) G)) (cN (cx _ _ _ (by unfold hI;decide) b)) rfl).mono ?_;rintro e V'⟨rfl,T,X⟩;exact⟨rfl,⟨_,T,⟨λc s hc hs=>G5.2.2.2 c s hc hs,rfl,G5.2.2.1⟩⟩,X⟩)
 go_upto_region 5 with fail
 refine wp_region_held (S:=λW9=>W9.cell? ⟨w,0,none⟩=some (.pointer (some ⟨L,0,none⟩))/\W9.cell? ⟨u,0,none⟩=some (.pointer (some ⟨y.P,0,none⟩))) E ?_;simp only[FX,FN,F1,Nat.reduceAdd,FP,FO,FY,FV,F5];have j:=CD.out _ ld;refine pf 0 (.pointer (some ⟨y.P,0,none⟩)) rfl j (λW j=>by obtain⟨P,Q⟩:=j;first|(go_simp;done)|(go_simp;omega)) ?_;refine pf 1 (.pointer (some ⟨L,0,none⟩)) rfl j (λW j=>by obtain⟨P,Q⟩:=j;first|(go_simp;done)|(go_simp;omega)) ?_;refine pf 3 (.func (.func 162) #[] #[.pointer (some ⟨u,0,none⟩),.pointer (some ⟨w,0,none⟩)]) rfl j (λW j=>by obtain⟨P,Q⟩:=j;first|(go_simp;done)|(go_simp;omega)) ?_;refine po 2 λK' p=>?_;go_simp
 refine(LP _ ld).mono ?_;rintro e R⟨rfl,b1⟩;have k1:D V5 R:=⟨b1.os,b1.tape,b1.output,b1.size,b1.block⟩;have A:=CD.out _ k1;refine p _ _ ⟨A,?_⟩;have j:=A;refine po 4 λK' p=>?_;go_simp
 refine(CM _ k1).mono ?_;rintro e t⟨f',N,⟨O,rfl,a7⟩|⟨O,rfl,a7⟩⟩
 rotate_left
 ·exact⟨rfl,a0 f' R t k1 N O a7⟩
 have q2:_/\_:=⟨cN (N.ky.XC ((k1.block _ (ag b)).trans b) (by unfold hI;decide)),cN (N.ky.XC ((k1.block _ (ag G)).trans G) (by unfold hI;decide))⟩;refine p _ _ ⟨q2,?_⟩;clear j;have j:=q2;clear p K';refine bY ?_;obtain⟨d6,b7⟩:∃d6:Dy,d6={d5 with f:=f',un:=.nilFunc}:=⟨_,rfl⟩;obtain⟨T,a2⟩:∃T:Hs,T={n with rg:=n.rg++[r],m:=aT n.m (s+(1+z)) v}:=⟨_,rfl⟩;have X:=H (show Hp B y d6 cf T t by rw[b7,a2];exact a7);have c6:=H ((a9.add k1 a1.bW).trans N);have G6:=H (show d6.lg=?B/\d6.un=.nilFunc/\d6.an=an/\(∀c s,c<12->s<6->d6.on c s=dA n c s) by rw[b7];exact⟨G5.1,rfl,G5.2.2.1,G5.2.2.2⟩);have a8:=H a2;have b8:=H (show t.heap[w]?=some (.cells #[.pointer (some ⟨L,0,none⟩)] 210)from N.ky.XC ((k1.block _ (ag b)).trans b) (by unfold hI;decide));have b9:=H (show t.heap[u]?=some (.cells #[.pointer (some ⟨y.P,0,none⟩)] 77)from N.ky.XC ((k1.block _ (ag G)).trans G) (by unfold hI;decide));have c3:=H (show¬?F from λe=>O (by have:(cf.bud:Int)<((bz n.m 283+v:Nat):Int):=Z;simpa using this));have a3:=H (show t.heap[L]?=some (.cells (oV r) 225) by have⟨g,e3,_,e5⟩:=X.lb r (by rw[a2];simp);rw[G6.1,upd_same]at e3;cases e3;exact e5)
 have a4:T.rel=n.rel:=by rw[a2]
 have c4:=H (show∀x∈T.rel,x<18446744073709551616 from λx a=>by rw[a4]at a;have:=I1.rel x a;omega)
 have c5:=H (show T.rel.length<=100000 by rw[a4];exact c2);have d0:=H0;clear a7 N b7 a2 k1 b1 A q2 j O a0 CM LP CD a1 a9 b G b0 G5 LO NL H0 d1 a4;have⟨O,vn,vc,G⟩:=aA X.rl;have N:=H G;have q:=H (X.below (Fu _ t).drew);have DF:=H (nu B L r O vn vc T.rel t.drew (by have:=q.rl;rw[G]at this;exact this) c5 c4 (a6 _ ((Fu t.heap.size t).drew.block _ (ag a3) |>.trans a3)) ⟨_,(Fu t.heap.size t).drew.block _ (ag a3) |>.trans a3⟩);have a0:(T.rel.filter λx=>!nr r x)=T.rel.filter λb=>b/1024<s || s+(1+z+v+1)<=b/1024:=by rw[HR];exact sR s (1+z) v 1 _ _
 rw[a0]at DF;clear a0;generalize a0:(T.rel.filter λb=>b/1024<s || s+(1+z+v+1)<=b/1024)=fl at*;have a9:=H a0;have a1:t.drew.cell? ⟨y.P,117,none⟩=some (.slice O vn vc):=q.cell 117 Z _ G;have CD:=H (show∀V:World,Ky (· =24) t.drew V->V.cell? ⟨w,0,none⟩=some (.pointer (some ⟨L,0,none⟩))/\V.cell? ⟨u,0,none⟩=some (.pointer (some ⟨y.P,0,none⟩))from λV l=>⟨cN (l.XC b8),cN (l.XC b9)⟩);refine(let_mvar%?D:=Value.slice O vn vc;?_);have a2:=H (show∀(i:World)(Y:Option Addr)(a wc:Nat),i.ownsRow B 24 1 (.slice Y a wc) fl.length (Us fl)->t.drew.grownBy i (?D).ownBlock->(Value.slice Y a wc).ownBlock=(?D).ownBlock->_ from λi Y a wc k gr x=>q.setRl (v':=.slice Y a wc) k (by rw[N];exact gr) (λg hg=>by rw[x,<-N.out];exact q.rr g hg));have a4:=H (show∀i:World,t.drew.grownBy i (?D).ownBlock->Ky (· =24) t.drew i from λi gr=>(q.gw (λg hg=>aF q.rl hg) (by rw[N];exact gr)).k);have b0:=H (show∀b g,d.lg b=some g->d6.lg b=some g from λb g hb=>by
  rw[G6.1];by_cases e:b=r.base;·subst e;rw[d0]at hb;cases hb
  ·rw[aI _ _ _ _ e];exact hb)
 have a7:=H (show∀v' i,Hp B y {d6 with rl:=v'} cf {T with rel:=fl} i->Bi B t.drew i->AS B y cf an d.lg W o (.returned (.iface 210 (.pointer (some ⟨L,0,none⟩)))) i from λv' i hU b7=>by
  have e1:o=(some r.base,{T with rel:=fl}):=by rw[b4];show(if ?F then(none,n)else _)=_;rw[GO c3.out,<-a9.out,a8,d2,HR]
  rw[e1];refine⟨.range r L {d6 with rl:=v'} _ i (by rw[a8];simp) (by rw[HR]) (by rw[G6.1,upd_same]) hU ⟨λc s' hc hs=>?_,G6.2.1,G6.2.2.1⟩ (λb g hb=>b0.out b g hb),(c6.add ld X.bW).trans b7⟩;rw[G6.2.2.2 c s' hc hs,a8];show(n.m (aD c s')).isSome=(aT n.m (s+(1+z)) v (aD c s')).isSome;have:=cD hc hs;rw[jJ _ _ _ _ (by have:=M.out;omega)])
 have NP:=H (show w≠y.P/\u≠y.P from by
  have⟨c,hb,_⟩:=X.box;constructor;·intro e;have:=b8.out;rw[e,hb]at this;simp at this
  ·intro e;have:=b9.out;rw[e,hb]at this;simp at this)
 clear a0 G b4 c3 G6 a8 b8 b9 a3 c4 c5 I1 G1 HR a6 d2 b6 c8 X q;have SX:=H (show∀(V:World)(v:Value),V.cell? ⟨w,0,none⟩=some (.pointer (some ⟨L,0,none⟩))/\V.cell? ⟨u,0,none⟩=some (.pointer (some ⟨y.P,0,none⟩))->(V.setCell ⟨y.P,117,none⟩ v).cell? ⟨w,0,none⟩=some (.pointer (some ⟨L,0,none⟩))/\(V.setCell ⟨y.P,117,none⟩ v).cell? ⟨u,0,none⟩=some (.pointer (some ⟨y.P,0,none⟩))from λV v l=>by have q:w≠y.P:=NP.1;have G:u≠y.P:=NP.2;unfold World.cell? at l⊢;rw[XB q,XB G];exact l)
 go_upto_region 6 with fail
 refine wp_region_held (S:=λW9=>W9.cell? ⟨w,0,none⟩=some (.pointer (some ⟨L,0,none⟩))/\W9.cell? ⟨u,0,none⟩=some (.pointer (some ⟨y.P,0,none⟩))) E ?_;simp only[FX,FN,F1,Nat.reduceAdd,FP,FO,FY,FV,F5];have j:=CD.out _ (Ky.refl _ _);refine pf 0 (.pointer (some ⟨y.P,0,none⟩)) rfl j (λW j=>by obtain⟨P,Q⟩:=j;first|(go_simp;done)|(go_simp;omega)) ?_;refine pf 1 (.pointer (some ⟨y.P,0,none⟩)) rfl j (λW j=>by obtain⟨P,Q⟩:=j;first|(go_simp;done)|(go_simp;omega)) ?_;(iterate 2 refine PX 2 j ?_);refine pf 5 (.pointer (some ⟨L,0,none⟩)) rfl j (λW j=>by obtain⟨P,Q⟩:=j;first|(go_simp;done)|(go_simp;omega)) ?_;refine pf 6 (.func (.func 164) #[.pointer (some ⟨L,0,none⟩)] #[]) rfl j (λW j=>by obtain⟨P,Q⟩:=j;first|(go_simp;done)|(go_simp;omega)) ?_;refine po 4 λK' p=>?_;go_simp
 refine p _ _ ⟨j,?_⟩;clear p K';refine po 7 λK' p=>?_;go_simp
 refine(DF).mono ?_;rintro e R⟨v',rfl,q,G,X⟩;obtain⟨Y,wc,rfl⟩:=aK q;have⟨a0,a3,c7,f7⟩:=a2.out R Y _ wc q G X;rw[N]at c7;have A:=CD.out R (a4 R G);refine p _ _ ⟨A,?_⟩;clear j;have j:=A;clear p K';(iterate 2 refine PX 8 j ?_);refine po 10 λK' p=>?_;go_simp
 have q2:=SX.out R (.slice Y fl.length wc) A;refine p _ _ ⟨q2,?_⟩;clear p K';refine bY ?_;have p:=H (a7 _ _ a0 a3);have qx:=q2.1;clear a0 a3 q G X c7 f7 A q2 j CD a2 a4 a7 DF SX a1;go_wp2;go_ret;exact p
end
section
variable {cf:Cf}{h:Hs}{c j s:Nat}
def CY(g)(w:QM):(Instr.typeAssert (.iface 210 (J g 0)) 130 199 true).run prog w=.ok (.tuple #[.pointer none,.bool false]) w:=E
def BJ(g)(w:QM):(Instr.typeAssert (.iface 199 (J g 0)) 130 199 true).run prog w=.ok (.tuple #[J g 0,.bool true]) w:=E
def dR(cf:Cf)(h:Hs):Fd->Fd
 | .slot c s j=>if sound cf h c s j then .slot c s j else .no 5
 |x=>x
def Dv(B:Nat)(y:Ly)(d:Dy)(cf:Cf)(h:Hs)(W:World)(f:Fd)(e:Ending)(W':World):Prop:=∃i,AG y d f e/\Hp B y {d with f:=i} cf h W'/\Bi B W W'
def Inv.onLive(i:Inv cf h)(a:c<12)(b:s<6)(d:j<aM c)(f:h.st c s j=1):dA h c s=true:=by
 cases e:dA h c s with
 |true=>rfl
 |false=>have:=i.off c s a b e j d;rw[f]at this;cases this
def Inv.accS(i:Inv cf h)(a:c<12)(d:s<6)(e:j<aM c)(b:dA h c s=true)(k n:Nat)(f:1<=n)(g:k+n<=cy c):ci h.m (bh c s j+k) (n:Int)=0:=by let l:=ca a d e;let m:=aX a;refine jI f Z Z (λq o=>?_);have:=i.openS a d e b (k:=k+q) Z;rw[show bh c s j+k+q=bh c s j+(k+q) by omega];exact this
def oA(B y d cf h)(p:Nat)(W)(a:Hp B y d cf h W)(i:Inv cf h)(hb:Byt h.m)(P:p<18446744073709551616)(Q:h.rel.length<=100000)(R:0<=cf.key)(T:cf.key<18446744073709551616):
  Calls prog 60 #[J y.P 0,U p] W (Dv B y d cf h W (dR cf h (aB h p))):=by
 have⟨b,X,k,K⟩:=Qf (nJ B y d cf h p W a i P Q) (bT h p) (λV(e:D W V)=>a.below e) a.bW;generalize aB h p=fd at*;go_in;go_wp2_with fail;refine(b).mono ?_;rintro e V⟨lk,a⟩;have l:=H a;cases lk with
 |no a=>exact⟨rfl,d.f,.no a,k V l,Bi.ofBelow l K⟩
 |range r g a=>
  have ta:=λw=>CY g w
  go_wp2;go_ret;exact⟨d.f,.range r g a,k V l,Bi.ofBelow l K⟩
 | slot c s j=>
  refine(let_mvar%?A:=bh c s j;?_);obtain⟨n,r,t,F,z⟩:c<12/\s<6/\j<aM c/\?A=p/\h.st c s j=1:=by
   have:=X.out;generalize a:Fd.slot c s j=fd at this;cases this with
   |slot u v x b g m o q=>cases a;exact⟨b,g,m,o,q⟩
   |range=>cases a
   |no=>cases a
  have m:=i.onLive n r t z;let hz:=aX n;let a6:=ca n r t;have b:ci h.m (?A+eV c) ((8:Nat):Int)=0:=i.accS n r t m (eV c) 8 Z Z;let ta:=λw=>BJ (y.sm c s j) w
  let v:=k.out V l.out;let⟨A,q⟩:=y7 (λa(u:D V a)=>kC (y.sm c s j) (y.sb c s) c s j a ((v.scAt c s j n r t).below u)) (λa(u:Hp B y d cf h a)=>jy B y d cf h (?A+eV c) 8 a u i.out Z Z);rw[show min 8 4097=8 from rfl,b]at q;rw[GP rfl]at q;let⟨SB,CN,EQ,L,o,a7,Y,a0⟩:=Qj (λx a(u:Hp B y {d with f:=x} cf h a)=>eI (y.sm c s j) (y.sb c s) c s j a (u.scAt c s j n r t)) (λa=>Q_ cf.key (?A:Nat) a R T Z Z) (λu1 u2 a g i=>xu u1 u2 (aH h.m (?A+eV c) 8) (can cf (?A)) a g i (hb.load _ _) (tT cf)) (show sound cf h c s j=(aH h.m (?A+eV c) 8==can cf (?A))from rfl) v (show(aH h.m (?A+eV c) 8).length=8 by simp[aH]) (show gI (cx cf.key ((?A:Nat):Int))=can cf (?A)from rfl) (AG.slot (y:=y) (d:=d) c s j);refine(let_mvar%?B:=dR cf h (.slot c s j);?_);let g:Hid (?B=if sound cf h c s j then .slot c s j else .no 5):=rfl;clear v z m b F;generalize y.sm c s j=gm at*;generalize aH h.m (?A+eV c) 8=z at*;go_wp2_with fail;apply (A _ th).mono;rintro e V2⟨rfl,b⟩;let⟨G,O⟩:=y7 (o.below b) ((Bi.ofBelow l K).add b (Fx K l.size));clear b;go_wp2_with fail;apply (q _ G).mono;rintro e V3⟨x,m,o,⟨_,v,rfl,b⟩|⟨hn,_⟩⟩
  rotate_left
  .exact absurd rfl hn
  let⟨M,B3,A⟩:=Qe m (O.trans o) (te b);obtain⟨va,vn,vc,rfl⟩:=aA b;have ck:=m.cell 4 Z _ rfl;have N:Hid (∀F,D V3 F->QG F y.P 4 (U cf.key)):=λF k=>NI k ck;clear m o b ck;go_upto_region 5 with fail
  refine rh (S:=λF=>QG F y.P 4 (U cf.key)) ?_;let m:=N.out _ ld;iterate 7 (apply py m;simp only[f0,f1,Nat.reduceAdd,lz,l0,ls])
  refine po 7 λK' b=>?_;go_simp;apply (SB x _ (M.below ld)).mono;rintro e V4⟨rfl,o⟩;let k4:D V3 V4:=⟨o.os,o.tape,o.output,o.size,o.block⟩;let h4:=N.out _ k4;refine b _ _ ⟨h4,?_⟩;clear m;let m:=h4;refine po 8 λK' b=>?_
  go_simp;apply (CN _).mono;rintro e V5⟨rfl,r5,b5⟩;let q:=az k4 b5;let O:=N.out _ q;refine b _ _ ⟨O,?_⟩;let m:=O;rw[Y.out]at r5;let G:=BG r5 (by unfold can;exact dK);refine po 9 λK' b=>?_;go_simp;apply (EQ _ _ _ (A.below q) G).mono;rintro e V6⟨rfl,hw⟩;rw[hw];refine b _ _ ⟨O,?_⟩;refine py m ?_;simp only[f0,f1,Nat.reduceAdd,lz,l0,ls];refine bY ?_;have⟨K5,B5⟩:=y7 q (B3.add q M.bW);have H5:=H (M.below q)
  cases m:(z==can cf (?A))with
  |true=>have b:=H (show ?B=.slot c s j by rw[g.out,L.out,m];rfl);go_wp2;go_ret;rw[b.out];exact⟨x,a0,H5,B5⟩
  |false=>have b:=H (show ?B=.no 5 by rw[g.out,L.out,m];rfl);go_wp2;rw[b.out];exact⟨rfl,x,.no 5,H5,B5⟩
def Ck{W:QM}{B n k:Nat}{a:QP}{g}{l:List Nat}(h:W.ownsRow B 199 1 (.slice a n c) l.length (Pt g l))(f:k<l.length){q:Nat}(d:l[k]?=some q):∃b,a=some (Qz b 0)/\W.cell? (Qz b k)=some (J (g q) 0):=by
 have hv:n=l.length:=by have⟨a,c,e⟩:=aK h;injection e with _ i _
 subst hv;have⟨b,e⟩:=cr h Z;subst e;exact⟨b,rfl,bC h k _ (by simp[Pt,d])⟩
def Hp.daRow{B y d U}(j:Hp B y d cf h U){g}{n:Nat}{m:List Int}(f:RowV U g 5 (Ns .u8 m))(q:m.length=n):Da y.S y.M d.f U (some (Qz g 0)) n m:=by
 subst q;refine⟨rfl,λi r=>⟨(Qz g 0),rfl,?_,?_,?_,?_,?_⟩⟩;.rw[Addr.add_mid,Oi];exact jZ f i r
 .rw[Addr.add_mid];exact f.lt
 .rw[Addr.add_mid];let⟨c,b,_⟩:=f;intro e;let o:g=y.S:=e;rw[o,j.sp.box]at b;simp at b
 .rw[Addr.add_mid];let⟨c,b,_⟩:=f;intro e;let o:g=y.M:=e;obtain⟨a,⟨l,p,k,_⟩,_⟩:=j.sp.map;rw[o,k]at b;cases b
 rw[Addr.add_mid];intro k p;let⟨c,b,_⟩:=f;rcases j.pg.at' k with⟨a,_⟩|⟨t,l,u,a,_,_,s⟩;.rw[p]at a;cases a
 rw[p]at a;cases a;rw[s]at b;simp at b
def Bf:¬hI 199:=by unfold hI;decide
def Inv.accL(i:Inv cf h)(b:c<12)(d:s<6)(e:j<aM c)(a:dA h c s=true):ci h.m (bh c s j) ((cy c:Nat):Int)=0:=by have:=i.accS b d e a 0 (cy c) (by have:=aX b;omega) Z;simpa using this
def rT(B y d cf h an)(a:Nat)(W)(l:Hp B y d cf h W)(r:Gd d h an)(i:Inv cf h)(t:Byt h.m)(ha:a<=1016)(v:h.used+2000<=1000000)(w:mE cf):
  Calls prog 104 #[J y.P 0,U a] W (AS B y cf an d.lg W (av cf h a)):=by
 have⟨g,p,c7⟩:=zO ha;have n:=H (lB (a:Nat) Z W l.tb);rw[g]at n;have MM:=H (iP (cf:=cf) (h:=h) ha);have HF:=H (show dy h (fD a) 6<2000 by have k:=mf h (fD a) 6;have b:=aX p;have:6*aM (fD a)<=6*64:=IJ _ Z;omega)
 have hz:=aX p;generalize o:fD a=c at*;have⟨A,b⟩:=Qa (bN cf c 2000 h);rw[b]at MM;have⟨q,e⟩:=Qa (av cf h a);rw[e]at MM⊢;have HR:=H b;have a5:=H l;have a6:=H r;have I0:=H i;have a7:=H t;have DK:=H w;have HU:=H v;have BW:=H l.bW;go_in;go_wp2_with fail;refine(n).mono ?_;rintro e W1⟨rfl,rfl⟩;go_wp2;go_loopg [6] 2000 (λgk _ wr=>∃(r:Hs)(b:Dy),Hid (bN cf c gk r=A)/\Hid (dy r c 6<gk)/\Hid (Hp B y b cf r wr)/\Hid (Gd b r an)/\Hid (Inv cf r)/\Hid (Byt r.m)/\Hid (Bi B W1 wr)/\Hid (r.used+gk<=h.used+2000)/\Hid (Kl d.lg b));exact⟨h,d,HR,HF,a5,a6,I0,a7,H (Bi.refl _ _),H gi,H (Kl.refl d)⟩
 have⟨r,d1,g,KF,KP,KG,KI,KY,KB,KU,KL⟩:=hrel;obtain⟨f,b⟩:∃f,gk=f+1:=⟨gk-1,by have:=KF.out;omega⟩;have a1:=H b;have a2:=H (show(match cJ cf r c with
   |none=>(none,r)
   |some (s,k)=>if clean k.m (bh c s (du cf k c s)) (cy c)then(some (s,du cf k c s),{k with used:=k.used+1})
    else bN cf c f {k with used:=k.used+1,st:=aE k.st c s (du cf k c s) 4})=A by
  have:=g.out;rw[b,f_]at this;exact this)
 have i:=H (Bb B y d1 cf r an c wr KP KG KI p);have RM:=H (λs k(hr:cJ cf r c=some (s,k))=>IT (KI.room p hr) (tI hr));go_wp2_with fail;refine(i).mono ?_;rintro e V⟨rm,b⟩;have BI:=H (KB.trans b);generalize b:cJ cf r c=ro at*;have c8:=H b;cases rm with
 |no _ b=>have HE:=H (show q=(none,r) by rw[MM,<-a2.out];rfl);refine⟨rfl,?_,BI⟩;rw[HE];exact .no r V b
 | yes s k _ hg=>
  have⟨w,g,v,b⟩:=hg;have a8:=H (KL.trans b);obtain⟨⟨i,R,z,K,O,F,G⟩,L⟩:=RM.out s k rfl;have P:=H (show(if clean k.m (bh c s (du cf k c s)) (cy c)then(some (s,du cf k c s),{k with used:=k.used+1})
    else bN cf c f {k with used:=k.used+1,st:=aE k.st c s (du cf k c s) 4})=A from a2)
  have⟨M,c0,N⟩:=oH cf K;have c9:=iD k c s;have c1:=mW cf k K;have a9:=H (show Byt k.m by rcases L with e|e<;>rw[e];exact KY;exact KY.fresh _ _);have t:=H g;have o:=H v;have J1:=H R;have a3:=H z;have c2:=H G;have b0:=H F;have b4:=H N;have l:=H c0;have x:=H (pa (y.sb c s) (y.sr c s) c s (aM c) (y.sc c s) (w.on c s) (y.sm c s) (k.st c s) V (g.bc c s p i) Z (λj b=>g.rowAt c s j p i b) (λj b=>(g.smAt c s j p i b).1));rw[jB]at x;refine(let_mvar%?B:=freeS k c s;let_mvar%?C:=Hp B y w cf;?_);have T:=H (λb(n:?C k b)=>oL B y w cf k (?B).length b n Z Z (by have:=HU.out;have:=KU.out;have:=b0.out;omega) DK.len);have d0:0<(?B).length:=K;have Q:=H (λ(b:QM)(va:QP)(K vc:Nat)(n:b.ownsRow V.heap.size 199 1 (.slice va K vc) (?B).length (Pt (y.sm c s) ?B))=>Ck n c1 M);generalize g:du cf k c s=j at*;clear g;generalize g:dr cf k (?B).length=dd at*;clear g;generalize g:(?B).length=ll at*;clear g;go_wp2_with fail;refine(x).mono ?_;rintro e V1⟨v,rfl,g,O⟩;obtain⟨va,vc,rfl⟩:=aK g;have z:=H (t.below O);have G:=H (BI.add O t.bW);have L:=H g;clear g O x t BI;go_wp2_with fail;refine(T _ z).mono ?_;rintro e V2⟨rfl,x,F⟩;have g:=H x;have M:=H (G.trans F);obtain⟨gg,rfl,t⟩:=Q.out V2 va ll vc (ai L F.ky Bf);clear x F T L z G Q;have c6:(dd:Int)<(ll:Int):=Z;refine(let_mvar%?D:=y.sm c s j;?_);have SB:=H (λb(n:?C {k with used:=k.used+1} b)=>eI (?D) (y.sb c s) c s j b (n.scAt c s j p i l));have z:=H (λb(n:?C {k with used:=k.used+1} b)=>dJ (c:Nat) b n.tb);rw[uT p]at z;have hA:=ca p i l;refine(let_mvar%?A:=bh c s j;?_);have x:=H (λb(n:?C {k with used:=k.used+1} b)=>jy B y w cf {k with used:=k.used+1} (?A) (cy c) b n J1.out.out Z Z);rw[Hz Z]at x;have G:Hid (∀b(n:?C {k with used:=k.used+1} b),QA 62 #[J y.P 0,U (?A:Nat),U (cy c:Nat)] b (CU B y w cf {k with used:=k.used+1} b k.m 0 (aH k.m (?A) (cy c)))):=(λb n=>by have:=x.out b n;dsimp only at this;rw[J1.accL p i l a3,GP rfl]at this;exact this)
  have Y:=H (λu b(n:Bs b u (aH k.m (?A) (cy c)))=>BM u _ b n (a9.load _ _) (by simp[aH];omega) (by simp[aH];omega));have Q:Hid (clean k.m (?A) (cy c)=(aH k.m (?A) (cy c)).all (· ==0)):=rfl;clear x;generalize aH k.m (?A) (cy c)=b5 at*;generalize x:?D=R at*;have T:=H x;clear x;go_wp2_with fail;refine(SB _ g).mono ?_;rintro e V3⟨rfl,b3⟩;have x:=H (g.below b3);have L:=H (M.add b3 g.bW);clear b3 g M t;go_wp2_with fail;refine(z _ x).mono ?_;rintro e V4⟨rfl,rfl⟩;clear z;go_wp2_with fail;refine(G _ x).mono ?_;rintro e V5⟨f',t,M,⟨_,v,rfl,g⟩|⟨hn,_⟩⟩
  rotate_left
  ·exact absurd rfl hn
  have z:Hid (Hp B y {w with f:=f'} cf {k with used:=k.used+1} V5):=t;have X:=H (L.trans M);have N:=H (te g);clear t M g G x L;go_wp2_with fail;refine(Y _ _ N).mono ?_;rintro e V6⟨M,rfl,g,rfl⟩;have HM:=H g;clear g Y N;have b6:=H (show Gd {w with f:=f'} {k with used:=k.used+1} an from⟨o.on,o.un,o.an⟩);cases G:b5.all (λx=>x==0)with
  | false=>
   have c3:(0:Int)<M:=(by have:=HM.out;rw[G]at this;simpa using this);have g:=H (show bN cf c f {k with used:=k.used+1,st:=aE k.st c s j 4}=A by have:=P.out;rw[GO (by rw[Q,G];decide)]at this;exact this)
   have⟨Y,b7⟩:=z.setSt1 p i l 4;have t:=(z.smAt c s j p i l).1;have x:V6.frozen? ⟨?D,0,none⟩=false:=(by simp[QD,z.sm c s j p i l.out]);rw[T]at Y b7 t x;have H7:Hid (Hp B y {w with f:=f'} cf {k with used:=k.used+1,st:=aE k.st c s j 4} (V6.setCell (Qz R 0) (I 4))):=Y;have B7:=H (X.trans b7);have L:=H (show Gd {w with f:=f'} {k with used:=k.used+1,st:=aE k.st c s j 4} an from⟨o.on,o.un,o.an⟩);have N:Hid (Inv cf {k with used:=k.used+1,st:=aE k.st c s j 4}):=(J1.used (k.used+1)).retire p i l b4 a3;have F7:=H (show dy {k with used:=k.used+1,st:=aE k.st c s j 4} c 6<f by have q1:=(jE (h:=k) (s:=s) l b4 6).2 i;have q2:dy {k with used:=k.used+1,st:=aE k.st c s j 4} c 6=dy {k with st:=aE k.st c s j 4} c 6:=rfl;have q3:dy k c 6=dy r c 6:=mT c2 c 6;have q4:=KF.out;have q5:=a1.out;omega)
   have U7:=H (show k.used+1+f<=h.used+2000 by have q1:=KU.out;have q2:=b0.out;have q5:=a1.out;omega)
   generalize k.st c s j=z4 at t;clear Y b7 G HM Q P z X SB b6 o KP KG;go_wp2
   go_roundg f
   (exact⟨_,_,g,F7,H7,L,N,a9,B7,U7,H (show Kl d.lg {w with f:=f'}from a8)⟩);case measure=>have:=a1.out;omega
  | true=>
   have c3:¬((0:Int)<M):=(by have:=HM.out;rw[G]at this;simpa using this);have HE:=H (show q=(some (?A),{k with used:=k.used+1,st:=aE k.st c s j 1,rq:=aE k.rq c s j a,m:=ay k.m (?A+eV c) (can cf (?A)) 8}) by have:=P.out;rw[GP (by rw[Q,G])]at this;rw[MM,<-this];rfl)
   have⟨Y,b7⟩:=z.setRec p i l 1 (a:Nat);have g:=z.sm c s j p i l;rw[T]at Y b7 g;have t:V6.cell? (Qz R 0)=some (I (k.st c s j)):=bJ g;have x:V6.cell? (Qz R 1)=some (I (k.rq c s j)):=bJ g;have L:V6.frozen? (Qz R 0)=false:=(by simp[QD,g]);have N:V6.frozen? (Qz R 1)=false:=(by simp[QD,g]);simp only[World.setCells,Oi]at Y b7;clear g;generalize k.st c s j=q0 at t;generalize k.rq c s j=q1 at x;have H7:=H Y;have B7:=H (X.trans b7);clear Y b7 G HM Q P z X KP KG KF KU;(go_upto_region 7 with fail);generalize (V6.setCell (Qz R 0) (I 1)).setCell (Qz R 1) (I a)=V8 at*;clear t x L N SB b6;obtain⟨L,N⟩:∃L:Hs,L={k with used:=k.used+1,st:=aE k.st c s j 1,rq:=aE k.rq c s j a}:=⟨_,rfl⟩;obtain⟨x,t⟩:∃x:Dy,x={w with f:=f'}:=⟨_,rfl⟩;have a4:=H (show L.m=k.m by rw[N]);have H8:=H (show Hp B y x cf L V8 by rw[N,t];exact H7);have CA:=H (λb(n:Hp B y x cf L b)=>kC (?D) (y.sb c s) c s j b (n.scAt c s j p i l));have SB:=H (λb(n:Hp B y x cf L b)=>eI (?D) (y.sb c s) c s j b (n.scAt c s j p i l));rw[T]at CA SB;have CN:=H (λb=>Q_ cf.key (?A:Nat) b DK.key0 DK.key1 Z Z);have a0:ci k.m (?A+eV c) ((8:Nat):Int)=0:=J1.accS p i l a3 (eV c) 8 Z Z;have ST:=H (λb g(n:Hp B y x cf L b)(hr:RowV b g 5 (Ns .u8 (can cf (?A))))=>iw B y x cf L (?A+eV c) (some (Qz g 0)) 8 8 (can cf (?A)) b n (by rw[a4];exact J1.out.out) Z (n.daRow hr (by unfold can;exact dK)) gi);have b8:Hid (∀(b:QM)(g:Nat)(n:Hp B y x cf L b)(hr:RowV b g 5 (Ns .u8 (can cf (?A)))),QA 63 #[J y.P 0,U (?A+eV c:Nat),Vl g 8 8] b (A9 B y x cf L b (ay k.m (?A+eV c) (can cf (?A)) 8) 0)):=(λb g n hr=>by have:=ST.out b g n hr;rw[show(can cf (?A)).length=8 by unfold can;exact dK,a4,a0,GP rfl]at this;exact this)
   have b9:Hid (∀f9 b,Hp B y {x with f:=f9} cf {L with m:=ay k.m (?A+eV c) (can cf (?A)) 8} b->TaR B y cf an d.lg q (QJ (.iface 199 (J R 0))) b):=(λf9 b n=>by
    rw[HE,<-T.out];refine .slot c s j _ b p i l ?_ ⟨{x with f:=f9},?_,?_,by rw[t];exact a8⟩;·exact aS
    ·rw[N]at n;exact n
    refine⟨λc' s' c4 c5=>?_,by rw[t];exact o.un,by rw[t];exact o.an⟩;show x.on c' s'=(ay k.m _ _ 8 (aD c' s')).isSome;rw[dj,t];exact o.on c' s' c4 c5)
   have c4:Hid (gI (cx cf.key ((?A:Nat):Int))=can cf (?A)):=rfl;have CK:Hid (∀b a g,Hp B y a cf g b->QG b y.P 4 (U cf.key)):=λb a g n=>n.cell 4 Z _ rfl;clear ST a0 N t H7 HE o a4;generalize a0:?A=AA at*;generalize eV c=uu at*;refine rh (S:=λa=>QG a y.P 4 (U cf.key)) ?_;have t:=CK.out V8.drew _ _ (H8.below ld);(iterate 2 (refine py t ?_;simp only[f0,f1,Nat.reduceAdd,lz,l0,ls]));(iterate 6 refine PX 3 t ?_);refine po 2 λK' N=>?_;go_simp;refine(CA _ (H8.below ld)).mono ?_;rintro e U1⟨rfl,O⟩;have k1:D V8 U1:=⟨O.os,O.tape,O.output,O.size,O.block⟩;have p1:=H8.below k1;have q1:=CK.out _ _ _ p1;refine N _ _ ⟨q1,?_⟩;have t:=q1;refine po 9 λK' N=>?_
   go_simp;refine(SB _ p1).mono ?_;rintro e U2⟨rfl,b2⟩;have k2:=az k1 b2;have p2:=H8.below k2;have q2:=CK.out _ _ _ p2;refine N _ _ ⟨q2,?_⟩;have t:=q2;refine po 10 λK' N=>?_;go_simp;refine(CN _).mono ?_;rintro e U3⟨rfl,r3,b3⟩;have k3:=az k2 b3;have p3:=H8.below k3;have q3:=CK.out _ _ _ p3;refine N _ _ ⟨q3,?_⟩;have t:=q3;rw[c4]at r3;refine po 11 λK' N=>?_
   go_simp;refine(b8 _ _ p3 r3).mono ?_;rintro e U4⟨f9,p4,F,⟨_,rfl⟩|⟨hn,_⟩⟩
   rotate_left
   ·exact absurd rfl hn
   have q4:=CK.out _ _ _ p4;refine N _ _ ⟨q4,?_⟩;have t:=q4;refine bY ?_;have N:=H (IT (b9 f9 U4 p4) ((B7.add k3 H8.bW).trans F));go_wp2;go_ret;exact N
end
section
variable {cf:Cf}{h:Hs}{n p:Nat}
def jT(B x cf h k)(a:Nat)(W)(i:Sh B x cf h W)(c:l_ x)(j:B<=W.heap.size)(l:Inv cf h)(d:Few k h)(n:k<=300)(m:mE cf)(ha:a<18446744073709551616):
  QA 183 #[J x.P 0,U a] W λe f=>∃b:Sm,e=QJ (jP (mQ (av cf h a).1) (C))/\b.P=x.P/\b.Q=x.Q/\l_ b/\Sh B b cf (av cf h a).2 f/\Bk B x.Q W f:=by
 let o:=d.used;let p:=d.rg;let q:=d.rel;by_cases g:a<=1016;.apply(qz B x cf h a W i j l Z m g).mono;rintro e f⟨rfl,s,b⟩;exact⟨x,rfl,rfl,rfl,c,s,b⟩
 exact rz B x cf h a W i c j l Z m Z Z Z ha
def uq(B x cf h k p)(g:Fd)(l m n:Int)(W)(o:Sh B x cf h W)(a:l_ x)(q:B<=W.heap.size)(t:Inv cf h)(b:Few k h)(z:k<=301)(u:mE cf)(d:1<=cf.large)(w:C9 h p g (l,m,n))(y:n=0):
  QA 188 #[J x.P 0,I l,I m] W λe v=>e=QJ (.tuple #[])/\∃c:Sm,c.P=x.P/\c.Q=x.Q/\l_ c/\Sh B c cf (db cf h g) v/\Bk B x.Q W v:=by
 let A:=b.used;let F:=b.rg;let G:=b.rel;let L:=b.row;cases w with
 |slot c s j K i f ha r=>exact uJ B x cf h K c s j (-1) W o a q t Z u i f r
 |range r i f j c=>exact uZ B x cf h i r W o a q t u d f c Z Z Z
 |no c f=>rcases f with rfl|rfl<;>cases y
def iQ(cf:Cf)(h:Hs)(p a i:Nat):An4×Hs:=
 match av cf h a with
 |(none,e)=>(.no 1,e)
 |(some q,e)=>(⟨0,q,0,[]⟩,db cf {e with m:=aZ e.m p q (min i a)} (aB {e with m:=aZ e.m p q (min i a)} p))
def oW(cf:Cf)(h:Hs)(a:Nat):An4×Hs:=(mQ (av cf h a).1,(av cf h a).2)
def hH(cf h p a):a_ cf h p a=if p=0 then oW cf h a else match aB h p with
  | .no code=>(.no code,h)
  | .slot c s j=>if sound cf h c s j=false then(.no 5,h)else if a<=1016/\fD a=c then(⟨0,p,0,[]⟩,{h with rq:=aE h.rq c s j a})else iQ cf h p a (h.rq c s j).toNat
  | .range r=>if 1016<a/\aR a=r.pages then(⟨0,p,0,[]⟩,{h with rg:=h.rg.map λx=>if x.base=r.base then {x with rq:=a}else x})else iQ cf h p a r.rq.toNat:=by
 have d:(match av cf h a with
   |(none,b)=>(An4.no 1,b)
   |(some q,b)=>(⟨0,q,0,[]⟩,b))=oW cf h a:=by
  unfold oW
  cases av cf h a with
  |mk o b=>cases o<;>rfl
 unfold a_;dsimp only
 by_cases b:p=0
 ·rw[GP b,GP b];exact d
 rw[GO b,GO b]
 cases aB h p with
 |no code=>rfl
 |slot c s j=>rfl
 |range r=>rfl
def Ag(c:Int):jP (.no c) (C)=.agg #[I c,U 0,I 0,C]:=rfl
def Ae(q:Nat):jP ⟨0,q,0,[]⟩ (C)=.agg #[I 0,U q,I 0,C]:=rfl
def qE(l:List Rg9){i:Nat}{r:Rg9}(a:l[i]?=some r)(b:Int):eM (l.set i {r with rq:=b})=(eM l).set (i*6+5) (I b):=by
 let c:=O_ l a r.st b;let d:=(Fz.1 a).1;let f:(eM l).set (i*6+4) (I r.st)=eM l:=by
  apply Ho;intro k;rw[Gr];split
  .rename_i e;subst e;rw[GP (by rw[dS];omega),fo l a Z];rfl
  rfl
 rw[f]at c;exact c
def Sh.setRangeRq{B x V}(a:Sh B x cf h V){G cap}{i:Nat}{r:Rg9}(hv:x.rv=Vl G h.rg.length cap)(j:h.rg[i]?=some r)(b:Int):
  Sh B x cf {h with rg:=h.rg.set i {r with rq:=b}} (V.setCell (Qz G (i*6+5)) (I b))/\Ky (· =244) V (V.setCell (Qz G (i*6+5)) (I b))/\V.grownBy (V.setCell (Qz G (i*6+5)) (I b)) (some G)/\V.frozen? (Qz G (i*6+5))=false:=by
 let f:=a.rg;rw[hv]at f;let m:=(Fz.1 j).1;let⟨o,d⟩:=di f;let e:V.grownBy (V.setCell (Qz G (i*6+5)) (I b)) (some G):=au (Q6 V G) _ _;let k:Ky (· =244) V _:=Ky.grown d rfl e;let n:=dP f (i*6+5) (by rw[dS];omega) (I b);refine⟨⟨k.XC a.box,a.bp,a.bq,λg e=>a.bg g (cV (a.sp.qEq k ar) e),a.ds.ky k ar,a.sp.ky k ar ar ar,ai a.sl k,ai a.wt k,λc l=>⟨(a.wm c l).1.ky k ar,(a.wm c l).2.ky k ar⟩,?_,ai a.ro k,ai a.rl k⟩,k,e,by simp[QD,d]⟩;show World.ownsRow _ B 244 6 x.rv _ _;rwa[hv,qE h.rg j,Gj]
def Area.le{m:Nat}(A:Area h p n)(d:m<=n):Area h p m:=by
 cases A with
 |slot c s j e a f g i b=>exact .slot c s j e a f g i (Fx d b)
 |range r c e a b=>exact .range r c e a (Fx d b)
def Inv.ltA(i:Inv cf h)(A:Area h p n):p+n<=300000:=by
 cases A with
 |slot c s j b a d f g e=>have:=ca b a d;omega
 |range r b c a e=>let d:=i.rgs r b;unfold Rg9.base at c;unfold Rg9.ext at d;omega
def tv(B x cf h k)(p a:Nat)(W)(g:Sh B x cf h W)(b:l_ x)(hB:B<=W.heap.size)(hi:Inv cf h)(hf:Few k h)(hk:k<=300)(l:mE cf)(d6:1<=cf.large)(hp:p<18446744073709551616)(ha:a<18446744073709551616):
  QA 185 #[J x.P 0,U p,U a] W λe O=>∃c:Sm,e=QJ (jP (a_ cf h p a).1 C)/\c.P=x.P/\c.Q=x.Q/\l_ c/\Sh B c cf (a_ cf h p a).2 O/\Bk B x.Q W O:=by
 have⟨P,c⟩:=Qa (a_ cf h p a);rw[c];have⟨c0,t,HD,HI,a2,c4,MA⟩:=Qi (c.symm.trans (hH cf h p a)) hB l hi b hf (λV(hV:Sh B x cf h V)(c3:B<=V.heap.size)=>jT B x cf h k a V hV b c3 hi hf hk l ha);have bA:D W (W.alloc (.cells #[I 0,U 0,I 0,C] 94)):=ph;have⟨d,i,f⟩:=Qe (g.below bA) (g.bkB (Bk.refl _ _ _) hB bA) (ao W (.cells #[I 0,U 0,I 0,C] 94));have j:=g.ltQ;have e9:=hf.rg;have hrel:=hf.rel;clear g c hi l b bA;by_cases iF:p=0;·have HE:=H (c0.trans (GP iF));subst iF;go_enter func185,ntmps185;go_wp2_with fail;generalize W.alloc _=V at d i f⊢;have⟨R,hR⟩:=Qb W.heap.size;rw[<-hR]at f⊢;have⟨HR,HQ⟩:=y7 hR j;clear hR j;refine(MA _ d (Fx t i.bel.size)).mono ?_;rintro e Y⟨l,rfl,a8,a3,a9,b,b1⟩;have⟨X,F,B1,a0⟩:=Qf (b1.at f (eB ar)) b (i.trans b1) (IT a8 (IT a3 a9));clear b b1 a8 a3 a9;go_wp2_with (refine eG X ?_);refine fM (aw X _) underlying94 ?_;rw[HE];exact⟨l,rfl,a0.1,a0.2.1,a0.2.2,F.off81 X _,B1.loc (aj _ R _) (by rw[HR];exact gi) HQ t⟩
 have HE:=H (c0.trans (GO iF));have e8:((p:Int)==0)=false:=bG;have o:=H (λV(hV:Sh B x cf h V)=>kZ B x cf h p V hV Z Z);have a4:=jt h p;have b:=bT h p;have⟨fd,c⟩:=Qa (aB h p);obtain⟨⟨t1,t2,t3⟩,g⟩:∃tr,fE h p=tr:=⟨_,rfl⟩;rw[c,g]at a4;rw[c]at b HE;rw[g]at o;have⟨d7,c5,c6⟩:=Qe c a4 b;clear c g iF b;go_enter func185,ntmps185;go_wp2_with fail;generalize W.alloc _=V at d i f⊢;have⟨R,hR⟩:=Qb W.heap.size;rw[<-hR]at f⊢;have⟨HR,HQ⟩:=y7 hR j;clear hR j;refine(o _ d).mono ?_;rintro e Y⟨rfl,b1⟩;have⟨F,B1,X⟩:=Qe (d.below b1) (d.bkB i t b1) (ae f b1);clear b1;unfold C4;by_cases z:t3=0
 ·subst z;clear a4;go_upto_if 30 with fail
  go_cut [10] (λb w'=>∃A:Nat,b=I A/\Hid (P=iQ cf h p a A/\Area h p A)/\Hid (Sh B x cf h w')/\Hid (Bk B x.Q W w')/\Hid (w'.heap[R]?=some (.cells #[I 0,U 0,I 0,C] 94)));case first=>
   have a4:=c5.out;cases a4 with
   | slot c s j K w a1 hA hl=>
    have L:=mj w;rw[a1]at L;dsimp only at L;have⟨hc,a5,d⟩:=L;have r:=aX hc;have g:=HI.on1 hc a5 d (by rw[hl];rfl);have o:=(HI.req c s j hc a5 d).1 hl;have q:=H (q_ B x cf h K c s j Y F w a1 HD.key0 HD.key1 (λi b=>by have:=HI.openS (k:=eV c+i) hc a5 d g Z;rw[H_];exact this))
    have b6:(0:Int)<=(K:Int):=Z;have⟨AR,f⟩:=y7 (show Area h p (h.rq c s j).toNat from .slot c s j hc a5 d hA hl Z) (show P=if sound cf h c s j=false then(.no 5,h)else if a<=1016/\fD a=c then(⟨0,p,0,[]⟩,{h with rq:=aE h.rq c s j a})else iQ cf h p a (h.rq c s j).toNat from HE);obtain⟨rq,b⟩:∃rq:Nat,h.rq c s j=(rq:Int):=⟨(h.rq c s j).toNat,Z⟩;have⟨a7,a6⟩:=y7 b a1;rw[b,F0]at AR f;clear r g o b a1 hA hl d;go_wp2_with fail;refine q.mono ?_;rintro e V2⟨rfl,d⟩;have⟨S2,B2,X2⟩:=Qe (F.below d) (F.bkB B1 t d) (ae X d);clear d;cases d:sound cf h c s j;·have g:=H (f.trans (GP d));clear d;go_wp2_with (refine eG X2 ?_);refine fM (aw X2 _) underlying94 ?_;rw[g];exact⟨x,rfl,rfl,rfl,a2,S2.off81 X2 _,B2.loc (aj _ R _) (by rw[HR];exact gi) HQ t⟩
    have G:=H (f.trans (GO (by rw[d];decide)));clear d;have c7:V2.cell? (Qz x.P 7)=some (.slice (some (Qz x.G 0)) 1062 x.gc):=S2.cell 7 _ rfl;have⟨d0,_,_,_,_,d5⟩:=S2.slot w;have d:fJ h K=(rq:Int):=(by unfold fJ;rw[a6];exact a7);rw[d]at d5;rw[a6]at d0;have d0:V2.cell? (Qz x.G (K*6))=some (I c):=d0;clear d;by_cases q:a<=1016
    ·have v:(a:Int)<=1016:=Z;have CO:=H (λV q=>Av a V q);by_cases o:fD a=c
     ·have g:=H (G.trans (GP ⟨q,o⟩));have Q:(((fD a:Nat):Int)==((c:Nat):Int))=true:=bG;go_wp2;refine rh (S:=λO=>O.cell? (Qz x.P 7)=some (.slice (some (Qz x.G 0)) 1062 x.gc)/\O.cell? (Qz x.G (K*6))=some (I c)) ?_;have d:=(show _/\_ from⟨c7,d0⟩);refine PX 0 d ?_;refine pz 1 Ql d ?_;refine pk 2 Ql d ?_;refine PX 3 d ?_;(iterate 8 refine PX 5 d ?_);refine po 4 λK' w=>?_;go_simp;refine(CO _ q).mono ?_;rintro e u⟨rfl,T⟩;have r:D V2 u:=⟨T.os,T.tape,T.output,T.size,T.block⟩;have h3:=IT (NI r c7) (NI r d0);refine w _ _ ⟨h3,?_⟩;clear d;have d:=h3;clear w K';refine pz 13 Ql d ?_;refine pz 14 Ql d ?_;refine bY ?_;have⟨y,M,N⟩:=Qe (S2.below r) (S2.bkB B2 t r) (ae X2 r);have b0:=d.1;have b4:=NI r d5;have f53:=y.slotF (K*6+5);have S4:=H (show Sh B x cf {h with rq:=aE h.rq c s j a} (u.setCell (Qz x.G (K*6+5)) (I a)) by have:=y.setRq w (a:Nat);rw[a6]at this;exact this)
      have B4:=H (y.bkG M t (K*6+5) (I a));have X4:=H (show(u.setCell (Qz x.G (K*6+5)) (I a)).heap[R]?=some (.cells #[I 0,U 0,I 0,C] 94) by have⟨c2,b5⟩:=di y.sl;exact(Ky.grown b5 rfl (au (Q6 _ x.G) _ _):Ky (· =242) _ _).XC N)
      clear d h3 r T c7 d0 d5 Q o S2 B2 X2 y M N CO;go_wp2_with (refine eG X4 ?_);refine fM (aw X4 _) underlying94 ?_;rw[g];exact⟨x,rfl,rfl,rfl,a2,S4.off81 X4 _,B4.loc (aj _ R _) (by rw[HR];exact gi) HQ t⟩
     have g:=H (G.trans (GO (λe=>o e.2)));have Q:(((fD a:Nat):Int)==((c:Nat):Int))=false:=bG;go_wp2;refine rh (S:=λO=>O.cell? (Qz x.P 7)=some (.slice (some (Qz x.G 0)) 1062 x.gc)/\O.cell? (Qz x.G (K*6))=some (I c)) ?_;have d:=(show _/\_ from⟨c7,d0⟩);refine PX 0 d ?_;refine pz 1 Ql d ?_;refine pk 2 Ql d ?_;refine PX 3 d ?_;(iterate 8 refine PX 5 d ?_);refine po 4 λK' w=>?_;go_simp;refine(CO _ q).mono ?_;rintro e u⟨rfl,T⟩;have r:D V2 u:=⟨T.os,T.tape,T.output,T.size,T.block⟩;have h3:=IT (NI r c7) (NI r d0);refine w _ _ ⟨h3,?_⟩;clear d;have d:=h3;refine pz 13 Qk d ?_;refine pz 14 Qk d ?_;refine bY ?_;have⟨y,M,N⟩:=Qe (S2.below r) (S2.bkB B2 t r) (ae X2 r);have b0:=d.1;have b4:=NI r d5;go_wp2
     go_meet;exact⟨rq,rfl,H ⟨g,AR⟩,y,M,N⟩
    have v:¬((a:Int)<=1016):=Z;have b0:decide ((a:Int)<=1016)=false:=GR v;have g:=H (G.trans (GO (λe=>q e.1)));go_wp2;refine rh (S:=λ_=>True) ?_;have d:True:=trivial;refine PX 0 d ?_;refine pz 1 Qk d ?_;refine pk 2 Qk d ?_;(iterate 11 refine PX 3 d ?_);refine pz 14 Qk d ?_;refine bY ?_;have⟨y,M,N⟩:=Qe (S2.below ld) (S2.bkB B2 t ld) (ae X2 ld);go_wp2;go_meet;exact⟨rq,rfl,H ⟨g,AR⟩,y,M,N⟩
   | range r i hr hb b6=>
    have b8:=(Fz.1 hr).1;have a5:=FM hr;have a6:=HI.rgs r a5;have⟨ra,rc,a7⟩:=aK F.rg;obtain⟨G,rfl⟩:=cr (a7▸F.rg) Z;have⟨_,_,_,d3,_,d5⟩:=F.range a7 hr;have c9:Y.cell? (Qz x.P 9)=some (.slice (some (Qz G 0)) h.rg.length rc):=(by rw[<-a7];exact F.cell 9 _ rfl);obtain⟨rq,b⟩:∃rq:Nat,r.rq=(rq:Int):=⟨r.rq.toNat,Z⟩;have b4:aR rq=r.pages:=by
     have:r.rq.toNat=rq:=by rw[b];simp
     rcases a6.2.2.2.2.2 with⟨_,_,h3⟩|⟨h3,_⟩;·rw[<-this];exact h3
     omega
    have AR:Hid (Area h p rq):=(.range r a5 hb b6 (by rw[<-b4];exact gE rq));have f:Hid (P=if 1016<a/\aR a=r.pages then(⟨0,p,0,[]⟩,{h with rg:=h.rg.map λx=>if x.base=r.base then {x with rq:=a}else x})else iQ cf h p a r.rq.toNat):=HE;rw[b,F0]at f;rw[b]at d5;have d1:r.pages<=96:=(by have:=a6;unfold Rg9.ext at this;omega);have d2:(i:Int)<(h.rg.length:Int):=Z;refine(let_mvar%?C:=((r.pages:Nat):Int);?_);have d4:IntKind.u64.wrap ?C=?C:=dX _ Z Z;have c8:aR a=r.pages->a<=98304:=λe=>by have:=gE a;omega
    have⟨b5,c1,PG⟩:=Qe a7 hr (λV=>qH a V ha);by_cases q:1016<a
    ·have v:(1016:Int)<(a:Int):=Z;by_cases o:aR a=r.pages
     ·have g:=H (f.trans (GP ⟨q,o⟩));have Q:(((aR a:Nat):Int)==?C)=true:=bG;have a6:=c8 o;have a5:=H (HI.mapSet c1 (λx=>{x with rq:=(a:Int)}));go_wp2;refine rh (S:=λO=>O.cell? (Qz x.P 9)=some (.slice (some (Qz G 0)) h.rg.length rc)/\O.cell? (Qz G (i*6+3))=some (I r.pages)) ?_;have d:=(show _/\_ from⟨c9,d3⟩);refine PX 0 d ?_;refine pz 1 Ql d ?_;refine pk 2 Ql d ?_;refine PX 3 d ?_;(iterate 9 refine PX 5 d ?_);refine po 4 λK' w=>?_;go_simp;refine(PG _).mono ?_;rintro e u⟨rfl,rfl⟩;refine w _ _ ⟨d,?_⟩;refine pz 14 Ql d ?_;refine pz 15 Ql d ?_;refine bY ?_;have⟨y,M,N⟩:=Qe (F.below ld) (F.bkB B1 t ld) (ae X ld);have⟨S4,K4,G4,f5⟩:=y.setRangeRq b5 c1 (a:Nat);have⟨B4,X4⟩:=y7 (Eg y b5 M t G4) (K4.XC N);have S4:=H (show Sh B x cf {h with rg:=h.rg.map λx=>if x.base=r.base then {x with rq:=(a:Int)}else x} _ by rw[a5];exact S4);go_wp2_with (refine eG X4 ?_);refine fM (aw X4 _) underlying94 ?_;rw[g];exact⟨x,rfl,rfl,rfl,a2,S4.off81 X4 _,B4.loc (aj _ R _) (by rw[HR];exact gi) HQ t⟩
     have g:=H (f.trans (GO (λe=>o e.2)));have Q:(((aR a:Nat):Int)==?C)=false:=bG;go_wp2;refine rh (S:=λO=>O.cell? (Qz x.P 9)=some (.slice (some (Qz G 0)) h.rg.length rc)/\O.cell? (Qz G (i*6+3))=some (I r.pages)) ?_;have d:=(show _/\_ from⟨c9,d3⟩);refine PX 0 d ?_;refine pz 1 Ql d ?_;refine pk 2 Ql d ?_;refine PX 3 d ?_;(iterate 9 refine PX 5 d ?_);refine po 4 λK' w=>?_;go_simp;refine(PG _).mono ?_;rintro e u⟨rfl,rfl⟩;refine w _ _ ⟨d,?_⟩;clear w K';refine pz 14 Qk d ?_;refine pz 15 Qk d ?_;refine bY ?_;have⟨y,M,N⟩:=Qe (F.below ld) (F.bkB B1 t ld) (ae X ld);clear d Q o;go_wp2
     go_meet;exact⟨rq,rfl,H ⟨g,AR⟩,y,M,N⟩
    have v:¬((1016:Int)<(a:Int)):=Z;have b0:decide ((1016:Int)<(a:Int))=false:=GR v;have g:=H (f.trans (GO (λe=>q e.1)));go_wp2;refine rh (S:=λ_=>True) ?_;have d:True:=trivial;refine PX 0 d ?_;refine pz 1 Qk d ?_;refine pk 2 Qk d ?_;(iterate 12 refine PX 3 d ?_);refine pz 15 Qk d ?_;refine bY ?_;have⟨y,M,N⟩:=Qe (F.below ld) (F.bkB B1 t ld) (ae X ld);go_wp2;go_meet;exact⟨rq,rfl,H ⟨g,AR⟩,y,M,N⟩
   |no c1 hc=>rcases hc with e|e<;>cases e
  obtain⟨A,rfl,G,S2,B2,X2⟩:=hcut;have⟨a5,AR⟩:=G.out;have AR:=H AR;have b:=HI.malloc c4 a;have o:=λq f(e:av cf h a=(some q,f))=>HI.gave e
  unfold iQ at a5;have⟨mr,v⟩:=Qa (av cf h a);rw[v]at a5 b;simp only[v]at MA o;have⟨a5,d8,d9⟩:=Qe a5 b o;clear G v b o;go_wp2_with fail;refine(MA _ S2 (Fx t B2.bel.size)).mono ?_;rintro e u⟨l,rfl,a8,a3,a9,b,T⟩;have⟨a0,a6,c8,N,M,y⟩:=Qh a8 a3 a9 (T.at X2 (eB ar)) (show Bk B l.Q W u from a3▸B2.trans T) b;clear b T a8 a3 a9 S2 B2 X2;have⟨o,f⟩:=mr;cases o with
  |none=>have g:Hid (P=(.no 1,f)):=a5;unfold mQ;rw[Ag];refine(let_mvar%?B:=u.alloc (.cells #[I 1,U 0,I 0,C] 94);?_);have bA:D u ?B:=ph;have⟨S4,B4,X4⟩:=Qe (y.below bA) (y.bkB M t bA) (ae N bA);have Z4:=ao u (.cells #[I 1,U 0,I 0,C] 94);refine(let_mvar%?E:=Qz u.heap.size;?_);have z0:(?B).cell? (?E 0)=some (I 1):=(by simp only[QC,Z4];rfl);have z1:(?B).cell? (?E 1)=some (U 0):=(by simp only[QC,Z4];rfl);have z2:(?B).cell? (?E 2)=some (I 0):=(by simp only[QC,Z4];rfl);have z3:(?B).cell? (?E 3)=some C:=(by simp only[QC,Z4];rfl);clear bA Z4;go_wp2_with (refine eG X4 ?_);refine fM (aw X4 _) underlying94 ?_;rw[g];exact⟨l,rfl,a0,a6,c8,S4.off81 X4 _,(a6.out▸B4.out:Bk B x.Q W _).loc (aj _ R _) (by rw[HR];exact gi) HQ t⟩
  | some q=>
   have GV:=H (d9 q f rfl);have⟨n,hn⟩:=Qa (min A a);have e0:n<=A:=Z;have e1:n<=a:=Z;have g0:n=A\/n=a:=Z;have⟨ak,v⟩:=GV.keeps AR;have ap:=ak.le e0;have aq:=GV.area.le e1;have⟨e2,e3,e4⟩:=Qe (show∀i,i<n->isOpen (f.m ((p+i)/1024))=true from λi hi=>GV.inv.openA ap hi) (show∀i,i<n->isOpen (f.m ((q+i)/1024))=true from λi hi=>GV.inv.openA aq hi) (GV.inv.apartA ap aq v);have g1:=GV.inv.ltA ap;have g2:=GV.inv.ltA aq;refine(let_mvar%?A:=ay f.m q (aH f.m p n);?_);have d1:=H (show P=(⟨0,q,0,[]⟩,db cf {f with m:=?A n} (aB {f with m:=?A n} p)) by have:=a5.out;simp[hn]at this;exact this)
   have I2:Hid (Inv cf {f with m:=?A n}):=GV.inv.bytes _ _ _;have⟨_,m2,m3,m4,m5⟩:=d8.out;dsimp only at m2 m3 m4 m5;have b:=jt {f with m:=?A n} p;have a7:=H (λV(hV:Sh B l cf {f with m:=?A n} V)=>kZ B l cf {f with m:=?A n} p V hV iM iM);obtain⟨⟨u1,u2,u3⟩,hu⟩:∃tr,fE {f with m:=?A n} p=tr:=⟨_,rfl⟩;rw[hu]at b a7;have G:u3=0:=by
    have b0:(∃c s j,aB {f with m:=?A n} p=.slot c s j)\/∃r,aB {f with m:=?A n} p=.range r:=by
     have sn:=c6.out;have fe:=d7.out;cases c5 with
     |slot c s j K w a1 hA hl=>have L:=mj w;rw[a1]at L;dsimp only at L;exact .inl ⟨c,s,j,gW fe (GV.live c s j L.1 L.2.1 L.2.2 hl).1⟩
     |range r i hr hb b6=>
      refine .inr ⟨r,fV fe ?_⟩;rcases GV.rg with e|⟨r',e,_⟩;·exact .inl e
      exact .inr ⟨r',e⟩
     |no c1 hc=>rcases hc with e|e<;>cases e
    rcases b0 with⟨c,s,j,e⟩|⟨r,e⟩<;>(rw[e]at b;cases b;rfl)
   have FE:=H (λV(hV:Sh B l cf {f with m:=?A n} V)(c3:B<=V.heap.size)=>uq B l cf {f with m:=?A n} (k+1) p _ u1 u2 u3 V hV c8 c3 I2 (H (show Few (k+1) {f with m:=?A n}from⟨m2,iM,iM,by have:=c4.used;dsimp only;omega⟩)) Z HD d6 b G);rw[a0]at a7 FE;unfold mQ;rw[Ae];refine(let_mvar%?G:=u.alloc (.cells #[I 0,U q,I 0,C] 94);?_);have bA:D u ?G:=ph;have⟨S4,B4,X4,Z4⟩:=Qf (y.below bA) (y.bkB M t bA) (ae N bA) (ao u (.cells #[I 0,U q,I 0,C] 94));refine(let_mvar%?F:=some (I 0);?_);have z0:(?G).cell? (Qz u.heap.size 0)=?F:=(by simp only[QC,Z4.out];rfl);clear bA ak ap aq hn b hu G m2 m3 m4 m5 v;go_wp2;generalize u.alloc _=V4 at S4 B4 X4 Z4⊢;generalize u.heap.size=b at Z4⊢;have SS:Hid (∀(V:QM){o:Hs},Sh B l cf o V->V.heap[b]?=some (.cells #[I 0,U q,I 0,C] 94)->V.cell? (Qz x.P 6)=some (J l.T 0)/\V.cell? (Qz b 1)=some (U q)):=(λV o hV o=>⟨by rw[<-a0.out];exact hV.cell 6 _ rfl,by simp[QC,o]⟩);go_loopw [12] (λv o=>∃i:Nat,i<=n/\v=I i/\Hid (Sh B l cf {f with m:=?A i} o)/\Hid (Bk B l.Q W o)/\Hid (o.heap[R]?=some (.cells #[I 0,U 0,I 0,C] 94))/\Hid (o.heap[b]?=some (.cells #[I 0,U q,I 0,C] 94))) (λv _=>n-(intOf v).toNat);(case atStart=>exact⟨0,aa,rfl,S4,B4,X4,Z4⟩);case round=>
    obtain⟨i,L,rfl,G,B6,X6,Z6⟩:=hrel;by_cases b8:i<n
    ·have d2:(i:Int)<(A:Int):=Z;have e6:(i:Int)<(a:Int):=Z;have b4:=e2.out i b8;have b5:=e3.out i b8;have d4:bO (?A i) (p+i)=bO f.m (p+i):=h_ _ _ _ _ _ (by have:=e4.out;omega);have⟨bt,b0⟩:=Qa (bO f.m (p+i));have e7:=H (show ?A (i+1)=dZ (?A i) (q+i) bt by show dZ _ _ _=_;have e:((aH f.m p n)[i]?).getD 0=bt:=(by rw[<-b0];simp[aH,b8]);rw[e])
     refine(let_mvar%?D:=Sx l.T l.Q 283 (cf.bud:Nat);?_);have GE:Hid (∀Y,?D (?A i) Y->QA 264 #[J l.T 0,U (IntKind.u64.wrap ((p:Int)+IntKind.u64.wrap (i:Int)))] Y λe w'=>e=QJ (.int .u8 bt)/\w'=Y):=(λY hV=>by rw[dX (i:Int) Z Z,dX _ Z Z,<-b0,<-d4];exact kT l.T l.Q 283 (cf.bud:Nat) _ (p+i) Y hV Z Z (by rw[eO];exact b4))
     have PU:Hid (∀Y,?D (?A i) Y->QA 263 #[J l.T 0,U (IntKind.u64.wrap ((q:Int)+IntKind.u64.wrap (i:Int))),.int .u8 bt] Y λe w'=>e=QJ (.tuple #[])/\?D (dZ (?A i) (q+i) bt) w'/\Sf l.Q Y w'):=(λY hV=>by rw[dX (i:Int) Z Z,dX _ Z Z];exact uh l.T l.Q (cf.bud:Nat) (q+i) bt Y hV Z (by rw[eO];exact b5))
     go_wp2;refine rh (S:=λO=>O.cell? (Qz x.P 6)=some (J l.T 0)/\O.cell? (Qz b 1)=some (U q)) ?_;have d:=SS.out _ (G.below ld) Z6;(iterate 17 refine PX 0 d ?_);refine po 17 λK' w=>?_;go_simp;refine(GE _ (G.below ld).sp).mono ?_;rintro e V7⟨rfl,rfl⟩;refine w _ _ ⟨d,?_⟩;refine po 18 λK' w=>?_
     go_simp;refine(PU _ (G.below ld).sp).mono ?_;rintro e V8⟨rfl,x8,f8⟩;have S8:=H (show Sh B l cf {f with m:=?A (i+1)} V8 by have:=(G.below ld).space (Fx t B6.bel.size) _ x8 f8;rw[e7];exact this);have⟨B8,X8,Z8⟩:=Qe ((G.below ld).bkS (G.bkB B6 t ld) t f8) ((f8.ky (G.below ld).sp).XC X6) ((f8.ky (G.below ld).sp).XC Z6);refine w _ _ ⟨SS _ S8 Z8,?_⟩;refine bY ?_;go_wp2;go_roundw;(exact⟨i+1,Z,aY,S8,B8,X8,Z8⟩);exact QE
    obtain rfl:i=n:=Z;by_cases d4:i<A
    ·have d2:(i:Int)<(A:Int):=Z;have e6:¬((i:Int)<(a:Int)):=Z;go_wp2_with fail;refine(a7 _ G).mono ?_;rintro e V7⟨rfl,b7⟩;have⟨S7,B7,X7,Z7⟩:=Qf (G.below b7) (G.bkB B6 t b7) (ae X6 b7) (ae Z6 b7);unfold C4;go_wp2_with fail;refine(FE _ S7 (Fx t B7.bel.size)).mono ?_;rintro e V8⟨rfl,x9,b0,b4,b5,s9,b9⟩;have⟨S8,B8,X8⟩:=Qe s9 (show Bk B l.Q W V8 from B7.trans b9) (b9.at X7 (eB ar));have Z8:=b9.at Z7 (eB ar);have z0:V8.cell? (Qz b 0)=?F:=(by simp[QC,Z8]);have z1:V8.cell? (Qz b 1)=some (U q):=(by simp[QC,Z8]);have z2:V8.cell? (Qz b 2)=?F:=(by simp[QC,Z8]);have z3:V8.cell? (Qz b 3)=some C:=(by simp[QC,Z8]);have H9:=H (IT b0 (IT b4 b5));go_wp2_with (refine eG X8 ?_);refine fM (aw X8 _) underlying94 ?_;rw[d1];exact⟨x9,rfl,H9.1,H9.2.1.trans a6,H9.2.2,S8.off81 X8 _,(a6.out▸B8.out:Bk B x.Q W V8).loc (aj _ R _) (by rw[HR];exact gi) HQ t⟩
    have d2:¬((i:Int)<(A:Int)):=Z;go_wp2_with fail;refine(a7 _ G).mono ?_;rintro e V7⟨rfl,b7⟩;have⟨S7,B7,X7,Z7⟩:=Qf (G.below b7) (G.bkB B6 t b7) (ae X6 b7) (ae Z6 b7);unfold C4;go_wp2_with fail;refine(FE _ S7 (Fx t B7.bel.size)).mono ?_;rintro e V8⟨rfl,x9,b0,b4,b5,s9,b9⟩;have⟨S8,B8,X8⟩:=Qe s9 (show Bk B l.Q W V8 from B7.trans b9) (b9.at X7 (eB ar));have Z8:=b9.at Z7 (eB ar);have z0:V8.cell? (Qz b 0)=?F:=(by simp[QC,Z8]);have z1:V8.cell? (Qz b 1)=some (U q):=(by simp[QC,Z8]);have z2:V8.cell? (Qz b 2)=?F:=(by simp[QC,Z8]);have z3:V8.cell? (Qz b 3)=some C:=(by simp[QC,Z8]);have H9:=H (IT b0 (IT b4 b5));go_wp2_with (refine eG X8 ?_);refine fM (aw X8 _) underlying94 ?_;rw[d1];exact⟨x9,rfl,H9.1,H9.2.1.trans a6,H9.2.2,S8.off81 X8 _,(a6.out▸B8.out:Bk B x.Q W V8).loc (aj _ R _) (by rw[HR];exact gi) HQ t⟩
 cases a4 with
 |slot c s j K w a1 b hl=>exact absurd rfl z
 |range r i hr hb b6=>exact absurd rfl z
 |no c1 hc=>
  have Q:((t3:Int) !=0)=true:=by simpa using z
  have g:Hid (P=(.no t3,h)):=HE;go_wp2_with (refine eG X ?_);refine fM (aw X _) underlying94 ?_;rw[g];exact⟨x,rfl,rfl,rfl,a2,F.off81 X _,B1.loc (aj _ R _) (by rw[HR];exact gi) HQ t⟩
structure vJ(cf:Cf)(h:Hs)(k:Nat):Prop where
 inv:Inv cf h
 byt:Byt h.m
 few:Few k h
 kk:k<=302
 dok:mE cf
 l1:1<=cf.large
def kW(B y d cf h k an)(a:Nat)(W)(F:Hp B y d cf h W)(G:Gd d h an)(o:vJ cf h k)(ha:a<18446744073709551616):
  QA 56 #[J y.P 0,U a] W (AS B y cf an d.lg W (av cf h a)):=by
 let K:h.used+2000<=1000000:=by let b:=o.few.used;let c:=o.kk;have:2100*k<=2100*302:=IJ _ c;omega
 by_cases Q:a<=1016
 .have t:=H (rT B y d cf h an a W F G o.inv o.byt Q K o.dok);generalize av cf h a=u at*;go_enter func56,ntmps56;go_wp2_with fail;apply (t).mono;rintro e V⟨L,v⟩;let n:=H v;cases L with
  |no b _ M=>exact⟨rfl,.no b V M,n⟩
  |slot c s j b _ N p w f x=>let q:=H (TaR.slot (B:=B) (y:=y) (cf:=cf) (an:=an) (lg:=d.lg) c s j b V N p w f x);go_wp2;go_ret;exact⟨q,n⟩
  |range r g O b _ z f A i l m=>let q:=H (TaR.range (B:=B) (y:=y) (cf:=cf) (an:=an) (lg:=d.lg) r g O b V z f A i l m);go_wp2;go_ret;exact⟨q,n⟩
 let P:1016<a:=Z;have t:=H (oU B y d cf h an a W F G o.inv P ha K o.dok (by have:=o.few.rg;have:=o.kk;omega) (by have:=o.few.rel;have:=o.kk;omega));generalize av cf h a=u at*;go_enter func56,ntmps56;go_wp2_with fail;apply (t).mono;rintro e V⟨L,v⟩;let n:=H v;cases L with
 |no b _ M=>exact⟨rfl,.no b V M,n⟩
 |slot c s j b _ N p w f x=>let q:=H (TaR.slot (B:=B) (y:=y) (cf:=cf) (an:=an) (lg:=d.lg) c s j b V N p w f x);go_wp2;go_ret;exact⟨q,n⟩
 |range r g O b _ z f A i l m=>let q:=H (TaR.range (B:=B) (y:=y) (cf:=cf) (an:=an) (lg:=d.lg) r g O b V z f A i l m);go_wp2;go_ret;exact⟨q,n⟩
def mB(cf:Cf)(h:Hs)(a b:Nat):Option Nat×Hs:=if 18446744073709551616<=a*b then(none,h)else av cf h (a*b)
def lD(B y d cf h k){an}(a b:Nat)(W)(g:Hp B y d cf h W)(j:Gd d h an)(o:vJ cf h k)(ha:a<18446744073709551616)(q:b<18446744073709551616):
  QA 57 #[J y.P 0,U a,U b] W (AS B y cf an d.lg W (mB cf h a b)):=by
 unfold mB;by_cases c:18446744073709551616<=a*b
 .rw[GP c];have i:=H (product.im_Product_no a b ha q c W);have f:=H (show AS B y cf an d.lg W (none,h) (.panicked (ip 1)) W from⟨.no h W (Hg.tk ⟨d,g,j⟩),Bi.refl _ _⟩);clear g j o c;go_enter func57,ntmps57;go_wp2_with fail;apply (i).mono;rintro e V⟨rfl,rfl⟩;clear i;go_wp2
  first|exact⟨rfl,f⟩|exact f
 rw[GO c];have i:=H (product.im_Product_yes a b ha q Z W);have l:=H (kW B y d cf h k an (a*b) W g j o Z);generalize av cf h (a*b)=t at*;generalize a*b=x at*;clear g j o c;go_enter func57,ntmps57;go_wp2_with fail;refine(i).mono ?_;rintro e V⟨rfl,rfl⟩;clear i;go_wp2_with fail;refine(l).mono ?_;rintro e o⟨v,c⟩;have p:=H c;clear l c;cases v with
 |no l _ c=>exact⟨rfl,.no l o c,p⟩
 |slot c s j l _ u g n m r=>have f:=H (TaR.slot (B:=B) (y:=y) (cf:=cf) (an:=an) (lg:=d.lg) c s j l o u g n m r);clear r m n;go_wp2;go_ret;exact⟨f,p⟩
 |range r g w l _ s m u c j n=>have f:=H (TaR.range (B:=B) (y:=y) (cf:=cf) (an:=an) (lg:=d.lg) r g w l o s m u c j n);clear c j s m u n;go_wp2;go_ret;exact⟨f,p⟩
/-! a store in pieces -/
def gQ(m a)(b c:List Int):∀n,(∀i,i<n->b[i]?.getD 0=c[i]?.getD 0)->ay m a b n=ay m a c n
 |0,_=>rfl
 |n+1,h=>by
  show dZ (ay m a b n) (a+n) _=dZ (ay m a c n) (a+n) _
  rw[gQ m a b c n (λi b=>h i Z),h n Z]
def fg{m a}{n i:Nat}(b:i<n):(aH m a n)[i]?.getD 0=bO m (a+i):=by unfold aH;simp[Gv,List.getElem?_range b]
def js(m p q k):∀l,ay (ay m q (aH m p k) k) (q+k) (aH m (p+k) l) l=ay m q (aH m p (k+l)) (k+l)
 |0=>rfl
 | l+1=>by
  let b:ay (ay m q (aH m p k) k) (q+k) (aH m (p+k) (l+1)) l=ay m q (aH m p (k+(l+1))) (k+l):=by rw[gQ _ _ _ (aH m (p+k) l) l (λi a=>by rw[fg Z,fg a]),js m p q k l];exact gQ _ _ _ _ _ (λi a=>by rw[fg a,fg Z])
  show dZ (ay (ay m q (aH m p k) k) (q+k) (aH m (p+k) (l+1)) l) (q+k+l) ((aH m (p+k) (l+1))[l]?.getD 0)=dZ (ay m q (aH m p (k+(l+1))) (k+l)) (q+(k+l)) ((aH m p (k+(l+1)))[k+l]?.getD 0);rw[b,fg Z,fg Z,H_ q k l,H_ p k l]
def qC(m)(p q:Nat){ys}(k a l:Nat)(h:a+l<=q\/q+k<=a):aH (ay m q ys k) a l=aH m a l:=by
 unfold aH;apply List.map_congr_left;intro i b;let c:i<l:=by simpa using b
 exact h_ m q ys (a+i) k Z
def uN(m)(p q k l:Nat)(h:p+(k+l)<=q\/q+(k+l)<=p):ay (aZ m p q k) (q+k) (aH (aZ m p q k) (p+k) l) l=aZ m p q (k+l):=by unfold aZ;rw[qC m p q k (p+k) l Z];exact js m p q k l
def Hp.daOwn{B}{b:Nat}{y d U}(p:Hp B y d cf h U){v:QN}{n:List Int}(o:U.ownsRow b 5 1 v n.length (Ns .u8 n)):∃a c,v=.slice a n.length c/\n.length<=c/\Da y.S y.M d.f U a n.length n:=by
 let⟨a,c,e⟩:=aK o;subst e;refine⟨a,c,rfl,?_,rfl,λi t=>?_⟩
 .rcases o.2 with⟨e,r⟩|⟨g,f,k,e,j,s,l,_⟩;.omega
  simp at e;omega
 let⟨g,u⟩:=cr o Z;subst u;let⟨x,j⟩:=di o;refine⟨(Qz g 0),rfl,?_,?_,?_,?_,?_⟩
 .rw[Addr.add_mid,Oi];let⟨a,c,e,f⟩:=te o;let⟨k,m,r⟩:=f i t;simp at e;rw[<-e.1]at m;cases m;exact r
 .rw[Addr.add_mid];exact ag j
 .rw[Addr.add_mid];intro e;let q:g=y.S:=e;rw[q,p.sp.box]at j;simp at j
 .rw[Addr.add_mid];intro e;let q:g=y.M:=e;obtain⟨f,⟨k,l,s,_⟩,_⟩:=p.sp.map;rw[q,s]at j;cases j
 rw[Addr.add_mid];intro k f;rcases p.pg.at' k with⟨m,_⟩|⟨z,l,A,m,_,_,w⟩;.rw[f]at m;cases m
 rw[f]at m;cases m;rw[w]at j;simp at j
def Inv.openN9(i:Inv cf h)(A:Area h p n){k l:Nat}(c:k+l<=n)(a:1<=l)(b:l<=4096):ci h.m (p+k) (l:Int)=0:=by have:=i.ltA A;exact jI a b Z (λq a=>by rw[H_];exact i.openA A Z)
def E7(B:Nat)(y:Ly)(d:Dy)(cf:Cf)(h:Hs)(W:World)(e:Ending)(W':World):Prop:=e=.returned (.tuple #[])/\(∃i,Hp B y {d with f:=i} cf h W')/\Bi B W W'
def Area.bytes(A:Area h p n)(m:Nat->Option (Bool×List Int)):Area {h with m:=m} p n:=by
 cases A with
 |slot c s j d a e f g b=>exact .slot c s j d a e f g b
 |range r c d a b=>exact .range r c d a b
def zL(B y d cf h p q n W)(O:Hp B y d cf h W)(i:Inv cf h)(L:Area h p n)(M:Area h q n)(z:p≠q):
  Calls prog 108 #[J y.P 0,U p,U q,U n] W (E7 B y d cf {h with m:=aZ h.m p q n} W):=by
 let P:=i.apartA L M z;let lp:=i.ltA L;let lq:=i.ltA M;refine(let_mvar%?A:=aZ h.m p q;?_);let g:=H (show∀(k l:Nat)(f:Nat->Option Nat)(b:QM),k+l<=n->1<=l->l<=4096->Hp B y {d with f:=f} cf {h with m:=?A k} b ->
   QA 62 #[J y.P 0,U (p+k:Nat),U l] b λe x=>∃A a c,e=QJ (.slice a l c)/\Hp B y {d with f:=A} cf {h with m:=?A k} x/\Bi B b x/\l<=c/\QA 63 #[J y.P 0,U (q+k:Nat),.slice a l c] x (E7 B y d cf {h with m:=?A (k+l)} x)from λk l f b S T V Y=>by
  let N:Inv cf {h with m:=?A k}:=i.bytes _ _ _
  let F:=N.openN9 (L.bytes (?A k)) S T V
  let G:=N.openN9 (M.bytes (?A k)) S T V
  let s:=jy B y _ cf _ (p+k) l b Y N.out Z Z
  rw[Hz Z]at s
  dsimp only at s F G
  rw[F,GP rfl]at s
  apply s.mono
  rintro e x⟨A,j,bi,⟨_,v,rfl,Q⟩|⟨R,_⟩⟩
  rotate_left
  .exact absurd rfl R
  let u:(aH (?A k) (p+k) l).length=l:=by simp[aH]
  obtain⟨a,c,rfl,w,K⟩:=j.daOwn Q
  rw[u]at w K⊢
  refine⟨A,a,c,rfl,j,bi,w,?_⟩
  let t:=iw B y _ cf _ (q+k) a l c _ x j N.out Z K w
  rw[u]at t
  dsimp only at t
  rw[G,GP rfl,uN h.m p q k l Z]at t
  apply t.mono
  rintro e X⟨f2,o,r,⟨_,rfl⟩|⟨R,_⟩⟩
  .exact⟨rfl,⟨f2,o⟩,r⟩
  exact absurd rfl R)
 let x:=O;go_wp2;go_loopg [8] n (λgk i wr=>∃(k:Nat)(f:Nat->Option Nat),i=U k/\gk=n-k/\k<=n+4096/\Hid (Hp B y {d with f:=f} cf {h with m:=?A (min k n)} wr)/\Hid (Bi B W wr));exact⟨0,d.f,rfl,Z,Z,H (by rwa[Hz aa]),H (Bi.refl _ _)⟩
 obtain⟨k,f,rfl,R,Q,v,G⟩:=hrel;by_cases K:k<n
 .rw[Hz Z]at v;let L:=Z;let l:((p+k:Nat):Int)=(p:Int)+(k:Int):=Z;let u:((q+k:Nat):Int)=(q:Int)+(k:Int):=Z;by_cases w:n-k<=4096
  .let M:(n:Int)-(k:Int)<=4096:=Z;let s:=H (g k (n-k) f wr Z Z w v);let i:(((n-k:Nat):Nat):Int)=(n:Int)-(k:Int):=Z;let z:k+(n-k)=n:=Z;rw[i,z,l,u]at s;go_wp2_with fail;apply (s).mono;rintro e b⟨A,a,c,rfl,j,i,N,t⟩;let⟨z,F⟩:=y7 t (G.trans i);go_wp2_with fail;apply (z).mono;rintro e X⟨rfl,⟨f2,o⟩,r⟩;let⟨O,P⟩:=y7 o (F.trans r);go_wp2
   go_roundg (n-(k+4096))
   (exact⟨k+4096,f2,by rw[Int.natCast_add];rfl,rfl,Z,H (by rwa[Nat.min_eq_right Z]),P⟩);case measure=>omega
  let M:=Z;let s:=H (g k 4096 f wr Z Z Z v);rw[l,u]at s;go_wp2_with fail;apply (s).mono;rintro e b⟨A,a,c,rfl,j,i,N,t⟩;let⟨z,F⟩:=y7 t (G.trans i);go_wp2_with fail;apply (z).mono;rintro e X⟨rfl,⟨f2,o⟩,r⟩;let⟨O,P⟩:=y7 o (F.trans r);go_wp2
  go_roundg (n-(k+4096))
  (exact⟨k+4096,f2,by rw[Int.natCast_add];rfl,rfl,Z,H (by rwa[Hz Z]),P⟩);case measure=>omega
 let L:(n:Int)<=(k:Int):=Z;let i:=H (show E7 B y d cf {h with m:=?A n} W (QJ (.tuple #[])) wr from⟨rfl,⟨f,by have:=v.out;rw[Nat.min_eq_right Z]at this;exact this⟩,G⟩);go_wp2;go_end0;exact i.out
end
def eZ(o:fL)(d:Option Addr)(dc:Nat):Value:=.agg #[I o.kd,I o.ref,U o.p,U o.a,U o.b,.slice d o.ys.length dc]
def vS(B:Nat)(x:Sm)(cf:Cf)(W:World)(r:An4×Hs)(e:Ending)(W':World):Prop:=∃(i:Sm)(v:Value),e=.returned (jP r.1 v)/\W'.ownsRow W.heap.size 5 1 v r.1.data.length (Ns .u8 r.1.data)/\(∀g,v.ownBlock=some g->¬e_ x.Q W' g)/\i.P=x.P/\i.Q=x.Q/\l_ i/\Sh B i cf r.2 W'/\Bk B x.Q W W'
structure vT(B:Nat)(x:Sm)(cf:Cf)(h:Hs)(k:Nat)(o:fL)(p:Nat)(d:QP)(W:QM):Prop where
 sh:Sh B x cf h W
 sep:l_ x
 b:B<=W.heap.size
 inv:Inv cf h
 few:Few k h
 hk:k<=300
 dok:mE cf
 large:1<=cf.large
 hp:p<18446744073709551616
 ha:o.a<18446744073709551616
 hb:o.b<18446744073709551616
 dt:Dt x.Q W d o.ys.length o.ys
def eL(W:QM)(B:Nat):W.ownsRow B 5 1 (C) ([]:List Int).length (Ns .u8 []):=⟨rfl,.inl ⟨rfl,rfl⟩⟩
def cH{B}{x c:Sm}{cf W W'}{a:An4}{h'}(d:a.data=[])(e:c.P=x.P)(f:c.Q=x.Q)(i:l_ c)(s:Sh B c cf h' W')(b:Bk B x.Q W W'):vS B x cf W (a,h') (QJ (jP a (C))) W':=
 ⟨c,C,rfl,by rw[d];exact eL W' _,λg j=>by simp[Value.ownBlock]at j,e,f,i,s,b⟩
def mV{cf h p a old}:(iQ cf h p a old).1.data=[]:=by
 unfold iQ;cases av cf h a with
 |mk u b=>cases u<;>rfl
def pI(cf h p a):(a_ cf h p a).1.data=[]:=by
 rw[hH];split;.unfold oW;cases(av cf h a).1<;>rfl
 cases aB h p with
 |no b=>rfl
 |slot c s j=>
  dsimp only;split;.rfl
  split;.rfl
  exact mV
 |range r=>
  dsimp only;split;.rfl
  exact mV
def fB{P:Program}{e:Array Oper}{Q:Exit->Act->QM->Prop}{i:Nat}{o:Oper}{K:Act->QM->Prop}{a:Act}{w:QM}(l:e[i]?=some o)(j:o.guard=none)(k:QO){x y:Operand}(m:o.op=.store k x y)(g)(b:Array QN)(n:a.eval x=J g 0)(p:a.eval y=.agg b)(t:QO){c:Array QN}(q:w.heap[g]?=some (.cells c t))(d:(P.info? k).map (·.size)=some b.size)(f:c.size=b.size)(r:b.all (·.oneCell')=true)(h:K (a.put o.dst undef) (w.setRow g b)):wpOp P e Q i K a w:=
 fO l (by simp[Region.wanted,j]) (λK' a=>Ih k x y m g b n p t c q d f r (a _ _ h))
def vM{w:QM}{g r:Nat}{c:Array QN}{t:QO}{f:Nat×Nat}(a:w.heap[g]?=some (.cells c t f)){b:Array QN}(d:g≠r):(w.setRow r b).heap[g]?=some (.cells c t f):=by rwa[(aj w r b).block g (ag a) bG]
def iH{B x cf h k o p d W}{V:QM}(b:vT B x cf h k o p d W)(kd)(a:Nat)(g:(W.alloc (.cells #[I kd,I o.ref,U o.p,U o.a,U o.b,.slice d o.ys.length a] 63)).alloc (.cells #[I 0,U 0,I 0,C] 94)=V):
  Hid (Sh B x cf h V)/\Hid (Bk B x.Q W V)/\Hid (V.heap[W.heap.size+1]?=some (.cells #[I 0,U 0,I 0,C] 94))/\Hid (Dt x.Q V d o.ys.length o.ys)/\V.cell? (Qz W.heap.size 0)=some (I kd)/\V.cell? (Qz W.heap.size 3)=some (U o.a)/\V.cell? (Qz W.heap.size 4)=some (U o.b)/\V.cell? (Qz W.heap.size 5)=some (.slice d o.ys.length a)/\V.heap[W.heap.size]?=some (.cells #[I kd,I o.ref,U o.p,U o.a,U o.b,.slice d o.ys.length a] 63):=by
 subst g;refine(let_mvar%?A:=W.alloc (.cells #[I kd,I o.ref,U o.p,U o.a,U o.b,.slice d o.ys.length a] 63);?_);let c:D W ((?A).alloc (.cells #[I 0,U 0,I 0,C] 94)):=ph.alloc (by rw[aO];omega) _;let e:=ao ?A (.cells #[I 0,U 0,I 0,C] 94);let f:=(eg ?A (.cells #[I 0,U 0,I 0,C] 94) W.heap.size (by rw[aO];omega)).trans (ao W _);rw[aO]at e;refine⟨H (b.sh.below c),H (b.sh.bkB (Bk.refl _ _ _) b.b c),H e,H (b.dt.keep (Sf.ofBelow c b.sh.ltQ)),?_,?_,?_,?_,f⟩<;>(simp only[QC,f];rfl)
def AU{p X Y a:Prop}(x:X)(y:Y)(z:a)(f:X->Y->a->p:=by(
 intro x y z
 go_wp2_with (refine eG x ?_)
 refine fM (aw x _) underlying94 ?_
 rw[y]
 exact z _)):p:=f x y z
def Dn(B x cf h k o p d dc W)(hA:vT B x cf h k o p d W):
  QA 130 #[.pointer (some (Qz x.P 0)),eZ o d dc,.int .u64 p] W λe W'=>vS B x cf W (NQ cf h o p) e W':=by
 obtain⟨f,i⟩:=Qa (NQ cf h o p);rw[i];have N:=H i;obtain⟨t,BA,XA,DT,o0,P,o4,o5,OA⟩:=iH hA o.kd dc rfl;obtain⟨A,g,hB,s,hf,hk,y,a9,hp,ha,hb,z⟩:=hA;have HB:=H hB;have HD:=H y;have HI:=H s;have w:=H g;have hQ:=A.ltQ;have c3:=hf.rg;have hrel:=hf.rel;unfold eZ;by_cases j:(o.kd<0\/6<o.kd)\/o.kd=5/\4096<o.a
 ·have l:=H (show f=(.no 6,h) by rw[<-i];unfold NQ;dsimp only;rcases j with j|j<;>(repeat(first|rw[GP Z]|rw[GO Z])))
  have n:=H A;have a:(o.kd==5)=false\/(o.kd==5)=true/\(4096:Int)<(o.a:Int):=by
   rcases j with j|j;·exact .inl bG
   exact .inr ⟨bG,Z⟩
  have K:(o.kd==0)=false:=bG;have L:(o.kd==1)=false:=bG;have M:(o.kd==2)=false:=bG;have O:(o.kd==3)=false:=bG;have Q:(o.kd==4)=false:=bG;have R:(o.kd==6)=false:=bG;go_enter func130,ntmps130;rcases a with a|⟨a,T⟩
  all_goals
   go_wp2
   have q:∀F G,D W ((W.alloc F).alloc G):=λF G=>ph.alloc (by rw[aO];omega) _
   refine GX (v:=.agg #[.int .i64 6,.int .u64 0,.int .i64 0,.slice none 0 0]) (by simp[results,Tryz.results130,go_sem]) rfl ?_
   rw[l]
   exact cH rfl rfl rfl w (n.below (q _ _)) (n.bkB (Bk.refl _ _ _) HB (q _ _))
 have FI:=H (λV(Q:Sh B x cf h V)=>kZ B x cf h p V Q Z Z);have T:=jt h p;obtain⟨fd,n⟩:=Qa (aB h p);obtain⟨⟨t1,t2,t3⟩,q⟩:∃a,fE h p=a:=⟨_,rfl⟩;rw[n,q]at T;rw[q]at FI;have b0:=H n;have FE:=H (λV(Q:Sh B x cf h V)(a:B<=V.heap.size)(h3:Hid (t3=0))=>uq B x cf h k p fd t1 t2 t3 V Q g a s hf Z y a9 T h3);have b4:=H T;have MA:=H (λa V(Q:Sh B x cf h V)(ha:a<18446744073709551616)=>jT B x cf h k a V Q g (Fx Q.bp (Nat.le_of_lt (ag Q.box))) s hf hk y ha);refine(let_mvar%?D:=(o.a:Int);?_);have hq:o.kd=0\/o.kd=1/\18446744073709551616<=o.a*o.b\/o.kd=1/\o.a*o.b<18446744073709551616\/o.kd=2\/o.kd=3\/o.kd=4\/o.kd=5/\¬(4096:Int)<?D\/o.kd=6:=Z;have OA:=H OA;have RE:=H (λV(Q:Sh B x cf h V)=>tv B x cf h k p o.a V Q g (Fx Q.bp (Nat.le_of_lt (ag Q.box))) s hf hk y a9 hp ha);obtain⟨kd,a⟩:=Qa o.kd;rw[a]at hq t BA XA DT o0 P o4 o5 OA⊢;have HK:=H a;go_enter func130,ntmps130;rcases hq with rfl|⟨rfl,a4⟩|⟨rfl,a4⟩|rfl|rfl|rfl|⟨rfl,c4⟩|rfl
 all_goals
  go_wp2_with fail
  generalize Q:(W.alloc _).alloc _=V at t BA XA DT OA o0 P o4 o5⊢
  obtain⟨O,a⟩:=Qb W.heap.size
  rw[<-a]at o0 P o4 o5 XA OA⊢
  have g:=H a
  have HQ:=H hQ
  clear a hQ Q
  obtain⟨R,a⟩:=Qb (O+1)
  rw[<-a]at XA⊢
  have HR:=H (show W.heap.size<=R by rw[a,g];omega)
  have b6:=H (show O≠R by omega)
  clear a
  have LC:=H (λ(a:Sm)(y:QM)(r:An4×Hs)(z:y.heap[R]?=some (.cells #[.int .i64 0,.int .u64 0,.int .i64 0,.slice none 0 0] 94))(s:Sh B a cf r.2 y)(b:Bk B x.Q W y)(e:r.1.data=[]/\a.P=x.P/\a.Q=x.Q/\l_ a)cs=>show vS B x cf W r (QJ (jP r.1 (.slice none 0 0))) (y.setRow R cs)from cH e.1 e.2.1 e.2.2.1 e.2.2.2 (s.off81 z cs) (b.loc (aj _ R cs) HR HQ HB))
 ·have l:=H (show f=oW cf h o.a by
   rw[<-N.out];have:=HK.out;unfold NQ oW;dsimp only;rw[GP this];cases av cf h o.a with
   |mk u h1=>cases u<;>rfl)
  refine(MA _ _ t ha).mono ?_;rintro e y⟨x1,rfl,X,Y,a0,s1,q⟩;have z:=H (q.at XA (eB ar));have LC:=H (LC _ _ (oW cf h o.a) z s1 (BA.trans q) ⟨by unfold oW;cases(av cf h o.a).1<;>rfl,X,Y,a0⟩);exact AU z l LC
 ·have l:=H (show f=(.no 1,h) by rw[<-N.out];have:=HK.out;unfold NQ;(repeat(first|rw[GP Z]|rw[GO Z])))
  refine(product.sp_Product_no o.a o.b ha hb a4 _).mono ?_;rintro e y⟨rfl,rfl⟩;exact AU XA l (LC _ _ (.no 1,h) XA t BA ⟨rfl,rfl,rfl,w⟩)
 ·have l:=H (show f=oW cf h (o.a*o.b) by
   rw[<-N.out];have:=HK.out;unfold NQ oW;dsimp only;rw[GO Z,GP this,GO Z];cases av cf h (o.a*o.b)with
   |mk u h1=>cases u<;>rfl)
  have g:QA 184 #[.int .u64 (o.a:Nat),.int .u64 (o.b:Nat)] V λe w'=>e=QJ (.tuple #[.int .u64 ((o.a*o.b:Nat):Int),.bool true])/\w'=V:=by
   rcases Nat.eq_zero_or_pos o.a with a|a;·have:=product.sp_Product_zero o.b hb V;rw[a];simpa using this
   exact product.sp_Product_yes o.a o.b a ha hb a4 V
  generalize o.a*o.b=a at*;refine g.mono ?_;rintro e i⟨rfl,rfl⟩;go_wp2_with fail;refine(MA _ _ t a4).mono ?_;rintro e y⟨x1,rfl,X,Y,a0,s1,q⟩;have z:=H (q.at XA (eB ar));have LC:=H (LC _ _ (oW cf h a) z s1 (BA.trans q) ⟨by unfold oW;cases(av cf h a).1<;>rfl,X,Y,a0⟩);exact AU z l LC
 ·have l:=H (show f=a_ cf h p o.a by rw[<-N.out];have:=HK.out;unfold NQ;(repeat(first|rw[GP Z]|rw[GO Z])))
  refine(RE _ t).mono ?_;rintro e y⟨x1,rfl,X,Y,a0,s1,q⟩;have z:=H (q.at XA (eB ar));have LC:=H (LC _ _ (a_ cf h p o.a) z s1 (BA.trans q) ⟨pI cf h p o.a,X,Y,a0⟩);exact AU z l LC
 ·have l:=H (show f=(match aB h p with
   | .no code=>(.no code,h)
   | .slot c s j=>if sound cf h c s j=false then(.no 5,h)else(.no 0,aL cf h c s j)
   | .range r=>(.no 0,aJ cf h r)) by
   rw[<-N.out];have:=HK.out;unfold NQ;(repeat(first|rw[GP Z]|rw[GO Z]));cases aB h p<;>rfl)
  rw[b0]at l;refine(FI _ t).mono ?_;rintro e y⟨rfl,q⟩;have L:=H (t.below q);have B1:=H (t.bkB BA HB q);have z:=H (ae XA q);unfold C4;have T:=b4.out;cases T with
  |no code hc=>have b7:(t3==0)=false:=(by rcases hc with rfl|rfl<;>rfl);have A:Hid (f=(.no t3,h)):=l;exact AU z A (LC _ _ (.no t3,h) z L B1 ⟨rfl,rfl,rfl,w⟩)
  | slot cq sq jq K M a1 a6 hl=>
   have a2:=mj M;rw[a1]at a2;dsimp only at a2;obtain⟨hc,a7,hj⟩:=a2;have F:=aX hc;have g:=HI.on1 hc a7 hj (by rw[hl];rfl);have n:=H (q_ B x cf h K cq sq jq y L M a1 HD.key0 HD.key1 (λi a=>by have:=HI.openS (k:=eV cq+i) hc a7 hj g Z;rw[H_];exact this))
   have b8:(0:Int)<=(K:Int):=Z;have a:Hid (f=if sound cf h cq sq jq=false then(.no 5,h)else(.no 0,aL cf h cq sq jq)):=l;go_wp2_with fail;refine n.mono ?_;rintro e V2⟨rfl,b2⟩;have S2:=H (L.below b2);have B2:=H (L.bkB B1 HB b2);have X2:=H (ae z b2);cases g:sound cf h cq sq jq;·have A:=H (a.trans (GP g));exact AU X2 A (LC _ _ (.no 5,h) X2 S2 B2 ⟨rfl,rfl,rfl,w⟩)
   have A:=H (a.trans (GO (by rw[g];decide)));go_wp2_with fail;refine(FE _ S2 (Fx HB B2.bel.size) (H (by trivial))).mono ?_;rintro e V3⟨rfl,x3,g,n,F,s3,G⟩;have X3:=H (G.at X2 (eB ar));have S3:=H s3;have B3:=H (B2.trans G);have a:=H (IT g (IT n F));exact AU X3 A (LC _ _ (.no 0,aL cf h cq sq jq) X3 S3 B3 ⟨rfl,a.1,a.2.1,a.2.2⟩)
  |range r i hr hb b5=>have A:Hid (f=(.no 0,aJ cf h r)):=l;go_wp2_with fail;refine(FE _ L (Fx HB B1.bel.size) (H (by trivial))).mono ?_;rintro e V3⟨rfl,x3,g,n,F,s3,G⟩;have X3:=H (G.at z (eB ar));have S3:=H s3;have B3:=H (B1.trans G);have a:=H (IT g (IT n F));exact AU X3 A (LC _ _ (.no 0,aJ cf h r) X3 S3 B3 ⟨rfl,a.1,a.2.1,a.2.2⟩)
 ·have l:=H (show f=(match aB h p with
   | .no code=>(.no code,h)
   | .slot c s j=>(⟨0,0,eV c,[]⟩,h)
   | .range r=>(⟨0,0,r.pages*1024,[]⟩,h)) by
   rw[<-N.out];have:=HK.out;unfold NQ;(repeat(first|rw[GP Z]|rw[GO Z]));cases aB h p<;>rfl)
  rw[b0]at l;refine(FI _ t).mono ?_;rintro e y⟨rfl,q⟩;have L:=H (t.below q);have B1:=H (t.bkB BA HB q);have z:=H (ae XA q);unfold C4;have T:=b4.out;cases T with
  |no code hc=>have b7:(t3 !=0)=true:=(by rcases hc with rfl|rfl<;>rfl);have A:Hid (f=(.no t3,h)):=l;exact AU z A (LC _ _ (.no t3,h) z L B1 ⟨rfl,rfl,rfl,w⟩)
  |slot cq sq jq K M a1 a6 hl=>have a2:=mj M;rw[a1]at a2;obtain⟨hc,a7,hj⟩:=a2;have b8:(0:Int)<=(K:Int):=Z;have A:Hid (f=(⟨0,0,eV cq,[]⟩,h)):=l;have n:y.cell? (Qz x.P 7)=some (.slice (some (Qz x.G 0)) 1062 x.gc):=L.cell 7 _ rfl;obtain⟨a,_,_,_,_,_⟩:=L.slot M;rw[a1]at a;have a:y.cell? (Qz x.G (K*6))=some (.int .i64 (cq:Nat)):=a;have g:=H (λV=>xq cq V hc);go_wp2_with fail;refine(g _).mono ?_;rintro e V2⟨rfl,b2⟩;have S2:=H (L.below b2);have B2:=H (L.bkB B1 HB b2);have X2:=H (ae z b2);exact AU X2 A (LC _ _ (⟨0,0,eV cq,[]⟩,h) X2 S2 B2 ⟨rfl,rfl,rfl,w⟩)
  |range r i hr n b5=>have F:=(Fz.1 hr).1;have g:=HI.rgs r (FM hr);have a3:r.pages<=96:=(by unfold Rg9.ext at g;omega);obtain⟨ra,rc,a⟩:=aK L.rg;obtain⟨G,rfl⟩:=cr (a▸L.rg) Z;obtain⟨_,_,_,d3,_,_⟩:=L.range a hr;have c9:y.cell? (Qz x.P 9)=some (.slice (some (Qz G 0)) h.rg.length rc):=(by rw[<-a];exact L.cell 9 _ rfl);have A:Hid (f=(⟨0,0,r.pages*1024,[]⟩,h)):=l;have a5:(i:Int)<(h.rg.length:Int):=Z;have HM:=H (show((r.pages*1024:Nat):Int)=((r.pages:Nat):Int)*1024 by simp);generalize r.pages=rp at*;go_wp2_with (refine eG z ?_);refine fM (aw z _) underlying94 ?_;rw[A];refine⟨x,.slice none 0 0,?_,eL _ _,λg hg=>by simp[Value.ownBlock]at hg,rfl,rfl,w,L.off81 z _,B1.loc (aj _ R _) HR HQ HB⟩;unfold jP;rw[HM];rfl
 ·have l:=H (show f=(⟨ci h.m p ?D,0,0,if ci h.m p ?D=0 then aH h.m p o.a else[]⟩,h) by rw[<-N.out];have:=HK.out;unfold NQ;rw[GO Z,GO Z,GO Z,GO Z,GO Z,GP this,GO Z])
  obtain⟨F,a3⟩:=Qa (ci h.m p ?D);rw[a3]at l;obtain⟨G,a⟩:=Qa (if F=0 then aH h.m p o.a else[]);rw[a]at l;obtain⟨vn,n⟩:=Qa G.length;refine(let_mvar%?E:=some (Qz x.T 0);?_);have LD:Hid (∀V,Sx x.T x.Q 283 (cf.bud:Nat) h.m V->QA 189 #[.pointer ?E,.int .u64 (p:Nat),.int .i64 (o.a:Nat)] V λe w'=>∃v,e=QJ (.agg #[.int .i64 F,v])/\w'.ownsRow V.heap.size 5 1 v vn (Ns .u8 G)/\D V w'):=(λV Q=>by
   have:=yY x.T x.Q 283 (cf.bud:Nat) h.m p ?D V Q Z hp F a3;rw[F0,a]at this;have e:(if F=0 then o.a else 0)=vn:=by rw[<-n,<-a];split<;>simp[aH]
   rw[e]at this;exact this)
  have c0:=H n;have c5:IntKind.i64.wrap ?D=?D:=by rw[Hh];omega
  have c6:V.cell? (Qz x.P 6)=some (.pointer ?E):=t.cell 6 _ rfl;go_upto_region 28 with fail
  go_cut [15] (λi w'=>∃(a:Nat)(va:QP)(vc:Nat),i=.pointer (some (Qz a 0))/\Hid (D V w')/\Hid (w'.heap[a]?=some (.cells #[.int .i64 F,.slice va vn vc] 284))/\Hid (w'.ownsRow V.heap.size 5 1 (.slice va vn vc) vn (Ns .u8 G)));case first=>
   refine rh (S:=λW'=>W'.cell? (Qz x.P 6)=some (.pointer ?E)/\W'.cell? (Qz O 3)=some (.int .u64 (o.a:Nat))) ?_;have n:=(show _/\_ from⟨c6,P⟩);(iterate 8 refine PX 0 n ?_);refine lZ [8,9] λi9 a5=>?_;rcases(by simpa using a5:i9=8\/i9=9)with a5|a5
   ·subst a5;refine cw λK' M=>?_;go_simp;refine(LD _ (t.below ld).sp).mono ?_;rintro e y⟨v,rfl,w1,q⟩;have k1:D V y:=⟨q.os,q.tape,q.output,q.size,q.block⟩;have h1:_/\_:=⟨NI k1 c6,NI k1 P⟩;obtain⟨va,vc,a8⟩:=aK w1;subst a8;refine M _ _ ⟨h1,?_⟩;have n:=h1;refine po 9 λK' M=>?_
    go_simp;refine(let_mvar%?A:=y.alloc (.cells #[.int .i64 0,.slice none 0 0] 284);?_);have kA:D y ?A:=ph;have h2:_/\_:=⟨NI kA h1.1,NI kA h1.2⟩;refine M _ _ ⟨h2,?_⟩;have n:=h2;refine gu 10 ?_;have HZ:=ao y (.cells #[.int .i64 0,.slice none 0 0] 284);have k2:D y ((?A).setRow y.heap.size #[.int .i64 F,.slice va vn vc]):=Below.setRow kA gi _;have kF:=az k1 k2;have zF:=aw HZ #[.int .i64 F,.slice va vn vc];have oF:=ai w1 (Ky.below k2:Ky (λ_=>False) _ _) (λe=>e);refine fB rfl rfl 284 rfl y.heap.size #[.int .i64 F,.slice va vn vc] rfl rfl 284 HZ E rfl mL ⟨⟨NI kF c6,NI kF P⟩,?_⟩;refine bY ?_;go_wp2_with fail;go_meet;exact⟨_,va,vc,rfl,H kF,H zF,H oF⟩
   subst a5;refine cw λK' M=>?_;go_simp;refine(let_mvar%?B:=V.alloc (.cells #[.int .i64 0,.slice none 0 0] 284);?_);have kA:D V (?B).drew:=ph.drew;have h1:_/\_:=⟨NI kA c6,NI kA P⟩;refine M _ _ ⟨h1,?_⟩;have n:=h1;refine po 8 λK' M=>?_
   go_simp;refine(LD _ (t.below kA).sp).mono ?_;rintro e y⟨v,rfl,w1,q⟩;have k1:=az kA q;have h2:_/\_:=⟨NI k1 c6,NI k1 P⟩;obtain⟨va,vc,a8⟩:=aK w1;subst a8;refine M _ _ ⟨h2,?_⟩;have n:=h2;refine gu 10 ?_;have c1:(?B).drew.heap[V.heap.size]?=some (.cells #[.int .i64 0,.slice none 0 0] 284):=ao V (.cells #[.int .i64 0,.slice none 0 0] 284);have HZ:=ae c1 q;have kF:D V (y.setRow V.heap.size #[.int .i64 F,.slice va vn vc]):=Below.setRow k1 gi _;have zF:=aw HZ #[.int .i64 F,.slice va vn vc];have oF:=dm (ai w1 (Ky.grown HZ rfl (aj y V.heap.size #[.int .i64 F,.slice va vn vc]):Ky (· =284) _ _)) kA.size;refine fB rfl rfl 284 rfl V.heap.size #[.int .i64 F,.slice va vn vc] rfl rfl 284 HZ E rfl mL ⟨⟨NI kF c6,NI kF P⟩,?_⟩;refine bY ?_;go_wp2_with fail;go_meet;exact⟨_,va,vc,rfl,H kF,H zF,H oF⟩
  case rest=>
  obtain⟨a,va,vc,rfl,KF,ZF,OF⟩:=hcut;have k3:=KF.out;have S3:=H (t.below k3);have B3:=H (t.bkB BA HB k3);have X3:=H (ae XA k3);have Z3:=ZF.out;have O3:=OF;have a8:Hid (∀g,e_ x.Q wc g->g<V.heap.size):=(λg hg=>by obtain⟨c9,a5⟩:=t.sp.pgT (cV (k3.block x.Q t.ltQ) hg);exact ag a5)
  have z0:wc.cell? (Qz a 0)=some (.int .i64 F):=by simp[QC,Z3]
  have z1:wc.cell? (Qz a 1)=some (.slice va vn vc):=by simp[QC,Z3]
  have c1:Hid (W.heap.size<=V.heap.size):=BA.bel.size;go_wp2_with (refine eG X3 ?_);refine fM (aw X3 _) underlying94 ?_;rw[l];have gR:=aj wc R #[.int .i64 F,.int .u64 0,.int .i64 0,.slice va vn vc];refine⟨x,.slice va vn vc,rfl,?_,λg hg hp=>?_,rfl,rfl,w,S3.off81 X3 _,B3.loc gR HR HQ HB⟩;·rw[c0];exact dm (ai O3 (Ky.grown X3 rfl gR:Ky (· =94) _ _)) c1
  have h1:V.heap.size<=g:=(aF O3 hg).1;obtain⟨cq,a5⟩:=S3.qrow;have h2:=a8.out g (cV (((Ky.grown X3 rfl gR:Ky (· =94) _ _).XC a5).trans a5.symm) hp);omega
 refine(let_mvar%?C:=ci h.m p (o.ys.length:Int);?_);have l:=H (show f=(.no (?C),{h with m:=if ?C=0 then ay h.m p o.ys o.ys.length else h.m}) by rw[<-N.out];have:=HK.out;unfold NQ;rw[GO Z,GO Z,GO Z,GO Z,GO Z,GO Z,GP this])
 obtain⟨F,a3⟩:=Qa (?C);rw[a3]at l;have G:=H (λV(Q:Sx x.T x.Q 283 (cf.bud:Nat) h.m V)(hD:Dt x.Q V d o.ys.length o.ys)=>qR x.T x.Q 283 (cf.bud:Nat) h.m p o.ys.length dc d o.ys V Q hD Z hp F a3);have c6:V.cell? (Qz x.P 6)=some (.pointer (some (Qz x.T 0))):=t.cell 6 _ rfl;refine rh (S:=λW'=>W'.cell? (Qz x.P 6)=some (.pointer (some (Qz x.T 0)))/\W'.cell? (Qz O 5)=some (.slice d o.ys.length dc)) ?_;have n:=(show _/\_ from⟨c6,o5⟩);(iterate 7 refine PX 0 n ?_);refine po 7 λK' M=>?_;go_simp;refine(G _ (t.below ld).sp (DT.keep (Sf.ofBelow ld t.ltQ))).mono ?_;rintro e y⟨rfl,x1,f1⟩;have L:=H ((t.below ld).space (Fx HB BA.bel.size) _ x1 f1);have B1:=H ((t.below ld).bkS (t.bkB BA HB ld) HB f1);have z:=H ((f1.ky (t.below ld).sp).XC XA);have a:=(f1.ky (t.below ld).sp).XC OA;have h1:_/\_:=⟨L.cell 6 _ rfl,(show y.cell? (Qz O 5)=some (.slice d o.ys.length dc) by simp only[QC,a];rfl)⟩;refine M _ _ ⟨h1,?_⟩;have n:=h1;(iterate 2 refine PX 8 n ?_);refine gu 10 ?_;refine fB rfl rfl 94 rfl R #[.int .i64 F,.int .u64 0,.int .i64 0,.slice none 0 0] rfl rfl 94 z E rfl mL ⟨⟨(L.off81 z _).cell 6 _ rfl,(show(y.setRow R _).cell? (Qz O 5)=some (.slice d o.ys.length dc) by simp only[QC,vM a b6.out];rfl)⟩,?_⟩;refine bY ?_;go_wp2;refine fM (aw z _) underlying94 ?_;rw[l];exact cH rfl rfl rfl w (L.off81 z _) (B1.loc (aj _ R _) HR HQ HB)
def gZ(cf:Cf)(da:Option Addr)(dc:Nat):Value:=.agg #[I cf.mix,I cf.fifo,I cf.large,I cf.bud,U cf.key,.slice da cf.ds.length dc]
def DG:Prop:=∀(cf:Cf)(da:Option Addr)(dc:Nat)(W:World),mE cf->Sl W da cf.ds ->
 QA 129 #[gZ cf da dc] W λe W'=>∃x:Sm,e=.returned (J x.P 0)/\l_ x/\Sh W.heap.size x cf (aP cf) W'/\Below W.heap.size W W'
def b_{P:Program}{b:Func}{p q:Tmp}(h:b.results=#[.tmp p,.tmp q]){a:Array QN}{w:QM}:(results b a).run P w=.ok (.tuple #[a.getD p undef,a.getD q undef]) w:=by simp[results,h]
def Few.new(cf):Few 0 (aP cf):=⟨gi,gi,gi,gi⟩
def CW(b:DG)(cf da dc A)(b8:Nat)(ops w)(f:mE cf)(b9:1<=cf.large)(d:Sl w da cf.ds)(g:Ois w A ops)(hN:ops.length<=300):
  Calls prog 72 #[gZ cf da dc,.slice A ops.length b8] w λe W'=>∃(x:Sm)(l:List Aw)(v:QN)(B:Nat),e=QJ (.tuple #[J x.P 0,v])/\w.heap.size<=B/\l_ x/\Sh B x cf (NJ cf (ops.map df.o) (aP cf) []).1 W'/\l.map (·.1)=(NJ cf (ops.map df.o) (aP cf) []).2/\Rs B x.Q W' l v/\Below w.heap.size w W':=by
 have⟨N,a⟩:=Qa ops.length;rw[a];rw[a]at hN;have⟨HN,HO,HD⟩:=Qe a g f;refine(let_mvar%?B:=w.alloc (.cells #[I cf.mix,I cf.fifo,I cf.large,I cf.bud,U cf.key,.slice da cf.ds.length dc] 27);?_);have j:Below w.heap.size w ?B:=ph;have c:=ao w (.cells #[I cf.mix,I cf.fifo,I cf.large,I cf.bud,U cf.key,.slice da cf.ds.length dc] 27);have i:=H (λW(k:Below w.heap.size w W)=>b cf da dc W f (d.ky (Ky.below k:Ky (λ_=>False) _ _) (λe=>e)));unfold gZ at i⊢;refine(let_mvar%?I:=Qz w.heap.size;?_);have k:(?B).cell? (?I 0)=some (I cf.mix):=by simp only[QC,c];rfl
 have m:(?B).cell? (?I 1)=some (I cf.fifo):=by simp only[QC,c];rfl
 have n:(?B).cell? (?I 2)=some (I cf.large):=by simp only[QC,c];rfl
 have o:(?B).cell? (?I 3)=some (I cf.bud):=by simp only[QC,c];rfl
 have p:(?B).cell? (?I 4)=some (U cf.key):=by simp only[QC,c];rfl
 have q:(?B).cell? (?I 5)=some (.slice da cf.ds.length dc):=by simp only[QC,c];rfl
 have BW:=H j;go_in;go_wp2_with fail;refine(i _ BW).mono ?_;rintro e W2⟨x0,rfl,a,f,g⟩;generalize w.alloc _=X at BW f g;have⟨B,b⟩:=Qa X.heap.size;rw[b]at f g;have j:=H (show B<=X.heap.size by omega);have T:=H (show w.heap.size<=B by rw[<-b];exact BW.size);have⟨a6,S0,B0⟩:=Qe a f g;have⟨P0,c⟩:=Qa x0.P;have⟨S,d⟩:=Qa x0.Q;rw[c];have⟨a7,a8,a2⟩:=Qe c d (show∀V,Below B X V->Below w.heap.size w V from λV hV=>BW.trans (hV.mono T));go_wp2;go_loopw [7,15] (λv i a=>∃k:Nat,k<=N/\i=I k/\∃(x:Sm)(l:List Aw),Hid (x.P=P0)/\Hid (x.Q=S)/\Hid (l_ x)/\Hid (Sh B x cf (NJ cf ((ops.take k).map df.o) (aP cf) []).1 a)/\Hid (l.map (·.1)=(NJ cf ((ops.take k).map df.o) (aP cf) []).2)/\Hid (Rs B S a l v)/\Hid (Below B X a)) (λ_ i _=>N-(intOf i).toNat);exact⟨0,aa,rfl,x0,[],a7,a8,a6,S0,H rfl,H ⟨⟨rfl,.inl ⟨rfl,rfl⟩⟩,λy hy=>(by cases hy),List.Pairwise.nil⟩,B0⟩
 clear S0 B0 a6 a7 a8;obtain⟨k,hk,rfl,x,l,O,b,W,HS,f,HR,HB⟩:=hrel;have⟨va,vc,c0⟩:=aK HR.row;subst c0;by_cases c1:k<N
 ·obtain⟨q,F⟩:∃q,ops[k]?=some q:=⟨_,Fy (by rw[HN];exact c1)⟩;have a0:=FM F;obtain⟨G,rfl,hG,c⟩:=HO.at_ k q F;have a3:=HO.wf q a0;have p:=a2.out _ HB;have u0:wr.cell? (Qz G (k*6))=some (I q.o.kd):=cR p (c 0 _ rfl);have u1:=cR p (c 1 _ rfl);have u2:=cR p (c 2 _ rfl);have u3:=cR p (c 3 _ rfl);have u4:=cR p (c 4 _ rfl);have u5:=cR p (c 5 _ rfl);obtain⟨⟨a,t⟩,n⟩:∃r,NJ cf ((ops.take k).map df.o) (aP cf) []=r:=⟨_,rfl⟩;have o:t.length=k:=by have:=ft cf ((ops.take k).map df.o) (aP cf) [];rw[n]at this;simp at this;rw[this,HN];omega
  have⟨iv,r⟩:=jp cf HD.fifo1 ((ops.take k).map df.o) (aP cf) [] 0 (Inv.new cf) (Few.new cf);rw[n]at iv r HS f;dsimp only at iv r HS f;have r:Few k a:=r.mono bG;have z:l.length=k:=(by have:=congrArg List.length f;simp at this;omega);have a9:=H z;have c6:l.length<=300:=Z;refine(let_mvar%?D:=NJ cf ((ops.take (k+1)).map df.o) (aP cf) [];let_mvar%?E:=bU cf a t q.o;?_);have d:?D=((?E).2,t++[(?E).1]):=by rw[F_,F];simp only[IQ,Hr,It,List.map_nil];rw[gF,n]
  have NX:=H (show(?D).1=(?E).2 by rw[d]);have m:=H (show(?D).2=t++[(?E).1] by rw[d]);have⟨IV,FW,a1⟩:=Qe iv r o;refine(let_mvar%?A:=wr.alloc (.cells #[I q.o.kd,I q.o.ref,U q.o.p,U q.o.a,U q.o.b,.slice q.d q.o.ys.length q.dc] 63);?_);have K:Below wr.heap.size wr ?A:=ph;have⟨Y1,S1,R1,B1⟩:=Qf (ao wr (.cells #[I q.o.kd,I q.o.ref,U q.o.p,U q.o.a,U q.o.b,.slice q.d q.o.ys.length q.dc] 63)) (HS.below K) (HR.bk (Bk.ofBelow K (b.out▸HS.ltQ) gi)) (show Below B X ?A from HB.trans (K.mono (Fx j HB.size)));refine(let_mvar%?G:=Qz wr.heap.size;?_);have z1:(?A).cell? (?G 1)=some (I q.o.ref):=(by simp only[QC,Y1.out];rfl);clear c F n d iv r K p o HS HR HB z;have n:Hid (?E=if q.o.ref=0 then NQ cf a q.o q.o.p else if q.o.ref<0\/(t.length:Int)<q.o.ref then(.no 6,a)else NQ cf a q.o ((q.o.p+((t[q.o.ref.toNat-1]?.map An4.addr).getD 0))%18446744073709551616)):=rfl;by_cases c:q.o.ref<0\/(k:Int)<q.o.ref
  ·have d:?E=(.no 6,a):=(by rw[n,GO Z,GP (by rw[a1];exact c)]);rw[d]at NX m;clear d;have d:=S1;have p:=R1;refine(let_mvar%?F:=(?A).alloc (.cells #[I 6,U 0,I 0,C] 94);?_);have K:Below (?A).heap.size ?A ?F:=ph;have⟨SA,P,LB,BA⟩:=Qf (S1.below K) (R1.bk (Bk.ofBelow (B:=0) K (b.out▸S1.ltQ) aa)) (show B<=(?F).heap.size from Fx (Fx j B1.size) K.size) (show Below B X ?F from B1.trans (K.mono (Fx j B1.size)));refine(let_mvar%?J:=((An4.no 6,C):Aw);?_);have⟨v4,w4,e4,o4,g4⟩:=pA B (.slice va l.length vc) l ?J _ 1 P.row (ao ?A (.cells #[I 6,U 0,I 0,C] 94)) rfl Z LB;have⟨cq,o⟩:=SA.qrow;rw[b]at o;have⟨k4,L,Q⟩:=Bk.ofAns P.row o g4;have⟨S4,B4⟩:=y7 (SA.kyO k4 (.inl rfl)) (BA.trans (Q B gi LB));have R4:=H (show Rs B S w4 (l++[?J]) v4 from⟨o4,λz hz=>by
    rcases F8.1 hz with M|M;·exact⟨ai (P.dat z M).1 k4,λg s hp=>(P.dat z M).2 g s (L g hp)⟩
    simp at M;subst M;exact⟨eL _ _,λg s=>by simp[Value.ownBlock]at s⟩,by
    rw[Is];exact⟨P.dis,bH,λz hz u hu g s a4=>by simp at hu;subst hu;simp[Value.ownBlock]at a4⟩⟩)
   rw[aO]at e4;clear o4 k4 L Q o g4 K;by_cases R:q.o.ref<0
   ·go_wp2_with (at_builtin;refine up e4 ?_);go_roundw;(exact⟨k+1,Z,aY,x,l++[?J],O,b,W,by rw[NX];exact S4,H (by rw[m,Hr,f];rfl),R4,B4⟩);exact QE
   have a5:(l.length:Int)<q.o.ref:=(by have:=a9.out;omega);go_wp2_with (at_builtin;refine up e4 ?_);go_roundw;(exact⟨k+1,Z,aY,x,l++[?J],O,b,W,by rw[NX];exact S4,H (by rw[m,Hr,f];rfl),R4,B4⟩);exact QE
  skip
  have R:¬(q.o.ref<0):=Z;have a5:¬((l.length:Int)<q.o.ref):=(by have:=a9.out;omega);have z0:(?A).cell? (?G 0)=some (I q.o.kd):=(by simp only[QC,Y1.out];rfl);have z2:(?A).cell? (?G 2)=some (U q.o.p):=(by simp only[QC,Y1.out];rfl);have z3:(?A).cell? (?G 3)=some (U q.o.a):=(by simp only[QC,Y1.out];rfl);have z4:(?A).cell? (?G 4)=some (U q.o.b):=(by simp only[QC,Y1.out];rfl);have z5:(?A).cell? (?G 5)=some (.slice q.d q.o.ys.length q.dc):=(by simp only[QC,Y1.out];rfl);(go_upto_if 37 with fail);generalize wr.alloc _=V at Y1 S1 R1 B1 z0 z1 z2 z3 z4 z5⊢;generalize wr.heap.size=Y at Y1 z0 z1 z2 z3 z4 z5⊢;go_cut [10] (λd i=>∃pp:Nat,d=U pp/\pp<18446744073709551616/\Hid (?E=NQ cf a q.o pp)/\i=V);case first=>
   by_cases p:q.o.ref=0
   ·have r:¬((0:Int)<q.o.ref):=Z;have HE:=H (n.trans (GP p));go_wp2;go_meet;exact⟨q.o.p,rfl,a3.1,HE,rfl⟩
   have r:(0:Int)<q.o.ref:=Z;obtain⟨d,F⟩:∃d:Nat,q.o.ref=(d:Int)+1:=⟨(q.o.ref-1).toNat,Z⟩;have b3:d<l.length:=Z;obtain⟨y,hy⟩:∃y,l[d]?=some y:=⟨_,Fy b3⟩;have⟨gA,b4⟩:=cr R1.row Z;subst b4;have cA:V.cell? (Qz gA (d*4+1))=some (U y.1.addr):=bC R1.row (d*4+1) _ (eC aC 4 (λ_=>rfl) l d y hy 1 Z);have HE:=H (show ?E=NQ cf a q.o ((q.o.p+y.1.addr)%18446744073709551616) by rw[n,GO p,GO (by rw[a1];exact c)];have e1:q.o.ref.toNat-1=d:=Z;have e2:t[d]?=some y.1:=(by rw[<-f.out,Gv,hy];rfl);rw[e1,e2];rfl)
   have b5:((d:Int)+1-1)=(d:Int):=Z;have c3:IntKind.i64.wrap ((d:Int)+1-1)=(d:Int):=(by rw[b5];rw[Hh];omega);have b7:(d:Int)<(l.length:Int):=Z;have b6:=H (show IntKind.u64.wrap ((q.o.p:Int)+(y.1.addr:Int))=(((q.o.p+y.1.addr)%18446744073709551616:Nat):Int) by rw[eu];simp);rw[F]at z1 r R a5⊢;generalize y.1.addr=p at*;go_wp2;go_meet;exact⟨(q.o.p+p)%18446744073709551616,by rw[<-b6.out],Nat.mod_lt _ Z,HE,rfl⟩
  case rest=>
   obtain⟨pp,rfl,c3,HE,c4⟩:=hcut;subst c4;rw[HE]at NX m;have DO:=H (Dn B x cf a k q.o pp q.d q.dc wc ⟨S1,W,Fx j B1.size,IV,FW,Z,HD,b9,c3,a3.2.1,a3.2.2,b.out▸(H (λV(hV:Below B X V)(hp:∀g,e_ S V g->B<=g)(a:B<=S)=>HO.dt (a2 V hV) (Fx T a) (λg s=>Fx T (hp g s)) a0)).out wc B1 (λg s=>S1.bg g (b.out▸s)) (b.out▸S1.bq)⟩);unfold eZ at DO;rw[O]at DO;have⟨r9,d⟩:=Qa (NQ cf a q.o pp);rw[d]at DO NX m;go_wp2_with fail;refine DO.mono ?_;rintro e V2⟨x2,vd,rfl,od,np,b3,b4,b5,s2,b2⟩;have⟨p,r,c5⟩:=aK od;subst c5;rw[b]at np b2;have S2:=H s2;have F:=H (show x2.Q=S by rw[b4];exact b);have b6:=H (show x2.P=P0 by rw[b3];exact O);have⟨b7,R2,B2,LV⟩:=Qf b5 (R1.bk b2) (B1.trans b2.bel) (Fx j B1.size);have⟨d,r2⟩:=r9;unfold jP;refine(let_mvar%?C:=V2.alloc (.cells #[I d.code,U d.addr,I d.size,.slice p d.data.length r] 94);?_);have K:Below V2.heap.size V2 ?C:=ph;have⟨SA,P,LB,BA⟩:=Qf (S2.below K) (R2.bk (Bk.ofBelow (B:=0) K (F.out▸S2.ltQ) aa)) (Fx (Fx j B2.size) K.size) (B2.trans (K.mono (Fx j B2.size)));refine(let_mvar%?H:=((d,.slice p d.data.length r):Aw);?_);have⟨v4,w4,e4,o4,g4⟩:=pA B (.slice va l.length vc) l ?H _ 1 P.row (ao V2 (.cells #[I d.code,U d.addr,I d.size,.slice p d.data.length r] 94)) rfl Z LB;have⟨cq,o⟩:=SA.qrow;rw[F]at o;have⟨k4,L,Q⟩:=Bk.ofAns P.row o g4;have⟨S4,B4⟩:=y7 (SA.kyO k4 (.inl rfl)) (BA.trans (Q B gi LB));have R4:=H (show Rs B S w4 (l++[?H]) v4 from⟨o4,λz hz=>by
    rcases F8.1 hz with M|M;·exact⟨ai (P.dat z M).1 k4,λg s hp=>(P.dat z M).2 g s (L g hp)⟩
    simp at M;subst M;exact⟨dm (ai (ai od (Ky.below K:Ky (λ_=>False) _ _) (λe=>e)) k4) LV,λg s hp=>np g s (cV (K.block S (F.out▸S2.ltQ)) (L g hp))⟩,by
    rw[Is];exact⟨P.dis,bH,λz hz u hu g s a4=>by simp at hu;subst hu;have M:=(aF od a4).1;have⟨_,c9,b3⟩:=aF (R1.dat z hz).1 s;have h2:=ag b3;omega⟩⟩)
   go_wp2_with (at_builtin;refine up e4 ?_);go_roundw;(exact⟨k+1,Z,aY,x2,l++[?H],b6,F,b7,by rw[NX];exact S4,H (by rw[m,Hr,f];rfl),R4,B4⟩);exact QE
 obtain rfl:k=N:=Z;have a:Hid (ops.take k=ops):=(Ge (by rw[HN];exact gi));rw[a]at HS f;go_wp2;refine GX (b_ dU) dU ?_;exact⟨x,l,_,B,by rw[O];rfl,T,W,HS,f,b.out▸HR.out,a2 _ HB⟩
section
variable {W:World}{l m:List Nat}{i j x:Nat}
def iS(an:List An4)(o:fL):Option Nat:=
 if o.ref=0 then some o.p
 else if o.ref<0\/(an.length:Int)<o.ref then none
 else some ((o.p+((an[o.ref.toNat-1]?.map An4.addr).getD 0))%18446744073709551616)
def vi(cf h an o):bU cf h an o=match iS an o with
  |some p=>NQ cf h o p
  |none=>(.no 6,h):=by
 unfold bU iS
 by_cases a:o.ref=0
 ·rw[GP a,GP a]
 rw[GO a,GO a]
 by_cases b:o.ref<0\/(an.length:Int)<o.ref
 ·rw[GP b,GP b]
 rw[GO b,GO b]
structure wK(B:Nat)(W:QM)(l:List Aw)(v:QN):Prop where
 row:W.ownsRow B 94 4 v l.length (fZ l)
 len:l.length<=300
def D9(W:World)(r:Option Nat)(e:Ending)(W':World):Prop:=D W W'/\((∃p,r=some p/\e=.returned (U p))\/(r=none/\e=.panicked (ip 6)))
def uD(B)(P:Nat)(o:fL)(z:QP)(A F:Nat)(l)(s:QP)(d k:Nat)(W:QM)(b:QG W P 119 (.slice s d k))(f:wK B W l (.slice s d k))(ho:o.p<18446744073709551616)(Q: -9223372036854775808<=o.ref):
  QA 55 #[J P 0,.agg #[I o.kd,I o.ref,U o.p,U o.a,U o.b,.slice z A F]] W (D9 W (iS (l.map (·.1)) o)):=by
 have g:d=l.length:=by have⟨a,c,e⟩:=aK f.row;injection e with _ i _
 have G:=f.len;have⟨V,i⟩:=Qb (W.alloc (.cells #[I o.kd,I o.ref,U o.p,U o.a,U o.b,.slice z A F] 63));have a:D W V:=by rw[i];exact ph
 have X:=(show V.heap[W.heap.size]?=some (.cells #[I o.kd,I o.ref,U o.p,U o.a,U o.b,.slice z A F] 63) by rw[i];exact ao W _);have m:V.cell? (Qz W.heap.size 1)=some (I o.ref):=bJ X;have t:V.cell? (Qz W.heap.size 2)=some (U o.p):=bJ X;have u:=NI a b;have⟨n,y⟩:=y7 (ax f.row a) a;clear b f X a;by_cases b:o.ref=0
 ·have p:=H (show iS (l.map (·.1)) o=some o.p by unfold iS;rw[GP b]);have R:(o.ref==0)=true:=by simpa using b
  clear u n b;generalize o.ref=e at*;go_enter func55,ntmps55;go_upto_region 1 with fail
  apply Eq.mp (congrArg _ i);clear i;generalize W.heap.size=X at m t⊢;go_wp2;go_ret;rw[p];exact⟨y,.inl ⟨_,rfl,rfl⟩⟩
 have R:(o.ref==0)=false:=by simpa using b
 by_cases v:o.ref<0
 ·have p:=H (show iS (l.map (·.1)) o=none by unfold iS;rw[GO b,GP (.inl v)]);clear b;generalize o.ref=e at*;go_enter func55,ntmps55;go_upto_region 1 with fail
  apply Eq.mp (congrArg _ i);clear i;generalize W.heap.size=X at m t⊢;go_upto_region 3 with fail
  refine rh (S:=λf=>QG f X 1 (I e)/\QG f P 119 (.slice s d k)) ?_;have a:=IT m u;(iterate 2 refine PX 0 a ?_);refine pz 2 Ql a ?_;refine pk 3 Ql a ?_;refine ps 4 a ?_;refine ps 5 a ?_;refine ps 6 a ?_;refine ps 7 a ?_;refine ps 8 a ?_;refine ps 9 a ?_;refine ps 10 a ?_;refine ps 11 a ?_;refine pz 12 Ql a ?_;refine bY ?_;clear a;go_wp2;rw[p];exact⟨rfl,y.drew,.inr ⟨rfl,rfl⟩⟩
 by_cases r:(l.length:Int)<o.ref
 ·have p:=H (show iS (l.map (·.1)) o=none by unfold iS;rw[GO b,GP (.inr (by simpa using r))]);clear b;rw[<-g]at r;generalize o.ref=e at*;go_enter func55,ntmps55;go_upto_region 1 with fail
  apply Eq.mp (congrArg _ i);clear i;generalize W.heap.size=X at m t⊢;go_upto_region 3 with fail
  refine rh (S:=λf=>QG f X 1 (I e)/\QG f P 119 (.slice s d k)) ?_;have a:=IT m (show V.drew.cell? _=_ from u);(iterate 2 refine PX 0 a ?_);refine pz 2 Qk a ?_;refine pk 3 Qk a ?_;(iterate 7 refine PX 4 a ?_);refine pz 11 Ql a ?_;refine pz 12 Ql a ?_;refine bY ?_;clear a;go_wp2;rw[p];exact⟨rfl,y.drew,.inr ⟨rfl,rfl⟩⟩
 obtain⟨c,K⟩:∃c:Nat,o.ref=(c:Int)+1:=⟨(o.ref-1).toNat,Z⟩;have w:c<l.length:=Z;obtain⟨q,L⟩:∃q,l[c]?=some q:=⟨_,Fy w⟩;obtain⟨j,M⟩:∃j,s=some (Qz j 0):=by rw[g]at n;exact cr n Z
 subst M;have T:V.cell? (Qz j (c*4+1))=some (U q.1.addr):=by have:=n.out;rw[g]at this;exact bC this (c*4+1) _ (eC aC 4 (λ_=>rfl) l c q L 1 Z)
 have p:=H (show iS (l.map (·.1)) o=some ((o.p+q.1.addr)%18446744073709551616) by unfold iS;rw[GO b,GO bG];have x:o.ref.toNat-1=c:=Z;rw[x,Gv,L];rfl)
 have x:(o.ref-1)=(c:Int):=Z;have Y:IntKind.i64.wrap (o.ref-1)=(c:Int):=by rw[x];rw[Hh];omega
 have O:(c:Int)<(d:Int):=Z;have N:=H (show IntKind.u64.wrap ((o.p:Int)+(q.1.addr:Int))=(((o.p+q.1.addr)%18446744073709551616:Nat):Int) by rw[eu];simp);rw[<-g]at r;clear b L K w g G x;generalize q.1.addr=b at*;generalize o.ref=e at*;go_enter func55,ntmps55;go_upto_region 1 with fail
 apply Eq.mp (congrArg _ i);clear i;generalize W.heap.size=X at m t⊢;go_upto_region 3 with fail
 refine rh (S:=λf=>QG f X 1 (I e)/\QG f P 119 (Vl j d k)) ?_;have a:=IT (show V.drew.cell? _=_ from m) (show V.drew.cell? _=_ from u);(iterate 2 refine PX 0 a ?_);refine pz 2 Qk a ?_;refine pk 3 Qk a ?_;(iterate 7 refine PX 4 a ?_);refine pz 11 Qk a ?_;refine pz 12 Qk a ?_;refine bY ?_;clear a;go_upto_region 5 with fail
 refine rh (S:=λf=>QG f X 1 (I e)/\QG f X 2 (U o.p)/\QG f P 119 (Vl j d k)/\QG f j (c*4+1) (U b)) ?_;have a:=IT (show V.drew.drew.cell? _=_ from m) (IT (show V.drew.drew.cell? _=_ from t) (IT (show V.drew.drew.cell? _=_ from u) (show V.drew.drew.cell? _=_ from T)));(iterate 14 refine PX 0 a ?_);refine bY ?_;clear a;go_wp2;go_ret;rw[p];exact⟨y.drew.drew,.inl ⟨_,rfl,by rw[<-N.out];rfl⟩⟩
def jg(mi fi la bu:Int)(dn:Nat):Prop:=0<=mi/\mi<=16/\1<=fi/\fi<=32/\1<=la/\la<=16/\0<=bu/\bu<=283/\dn<=20000
instance (mi fi la bu:Int) (dn:Nat):Decidable (jg mi fi la bu dn):=by unfold jg;infer_instance
structure Cg(X:Nat)(mi fi la bu ky:Int)(da:QP)(dn dc:Nat)(W V:QM):Prop where
 c0:V.cell? (Qz X 0)=some (I mi)
 c1:V.cell? (Qz X 1)=some (I fi)
 c2:V.cell? (Qz X 2)=some (I la)
 c3:V.cell? (Qz X 3)=some (I bu)
 c5:V.cell? (Qz X 5)=some (.slice da dn dc)
 tb:Tb V
 bel:D W V
def Cg.below{X mi fi la bu ky da dn dc V V'}(h:Cg X mi fi la bu ky da dn dc W V)(b:D V V'):Cg X mi fi la bu ky da dn dc W V':=
 ⟨NI b h.c0,NI b h.c1,NI b h.c2,NI b h.c3,NI b h.c5,h.tb.ofBelow b,h.bel.trans (b.mono h.bel.size)⟩
def Cg.of{mi fi la bu ky da dn dc}(a:Tb W):Cg W.heap.size mi fi la bu ky da dn dc W (W.alloc (.cells #[I mi,I fi,I la,I bu,U ky,.slice da dn dc] 27)):=by let h:=ao W (.cells #[I mi,I fi,I la,I bu,U ky,.slice da dn dc] 27);let b:D W (W.alloc (.cells #[I mi,I fi,I la,I bu,U ky,.slice da dn dc] 27)):=ph;refine⟨?_,?_,?_,?_,?_,a.ofBelow b,b⟩<;>(rw[ac h];rfl)
def Rj{p X Y a:Prop}(x:X)(y:Y)(z:a)(f:X->Y->a->p:=by(
 intro x y z
 go_quiet (fail)
 go_wp2
 go_ret
 exact⟨by rw[<-x,GR (by unfold jg;simp at z;omega)];rfl,y.trans ⟨rfl,rfl,rfl,gi,λ_ _=>rfl⟩⟩)):p:=f x y z
def OR(mi fi la bu ky)(i:QP)(d j:Nat){W}(b:Tb W):
  Calls prog 26 #[.agg #[I mi,I fi,I la,I bu,U ky,.slice i d j]] W λe p=>e=QJ (.bool (decide (jg mi fi la bu d)))/\D W p:=by
 have⟨n,a⟩:=Qa (decide (jg mi fi la bu d));rw[a];have⟨c,k⟩:=y7 a (Cg.of (mi:=mi) (fi:=fi) (la:=la) (bu:=bu) (ky:=ky) (da:=i) (dn:=d) (dc:=j) b);clear b a;go_in;go_upto_region 1 with fail
 have l:=H (k.below ld);generalize W.alloc _=g at l k⊢;have⟨X,a⟩:=Qb W.heap.size;rw[<-a]at l k⊢;clear a;have⟨b,m,o,q,r,s,a⟩:=k.out;have f:=H a;clear s a;cases s:decide (0<=mi);·exact Rj c f s
 cases t:decide (mi<=16);·exact Rj c f t
 cases u:decide (1<=fi);·exact Rj c f u
 cases v:decide (fi<=32);·exact Rj c f v
 cases w:decide (1<=la);·exact Rj c f w
 cases x:decide (la<=16);·exact Rj c f x
 cases y:decide (0<=bu);·exact Rj c f y
 clear b m o q r;refine rh (S:=Cg X mi fi la bu ky i d j W) ?_;generalize b:g.drew=q at l;have a:({heap:=g.heap,tape:=g.tape,drawn:=g.drawn+1,os:=g.os,output:=g.output}:QM)=q:=b;rw[a];clear b a;have b:=l.out;(iterate 2 refine PX 0 b ?_);refine pz 2 Ql b ?_;refine pk 3 Ql b ?_;(iterate 2 refine PX 4 b ?_);refine pz 6 Ql b ?_;refine pz 7 Ql b ?_;refine pk 8 Ql b ?_;(iterate 2 refine PX 9 b ?_);refine pz 11 Ql b ?_;refine pz 12 Ql b ?_;refine pk 13 Ql b ?_;(iterate 2 refine PX 14 b ?_);refine pz 16 Ql b ?_;refine pz 17 Ql b ?_;refine pk 18 Ql b ?_;(iterate 2 refine PX 19 b ?_);refine pz 21 Ql b ?_;refine pz 22 Ql b ?_;refine pk 23 Ql b ?_;(iterate 2 refine PX 24 b ?_);refine pz 26 Ql b ?_;refine pz 27 Ql b ?_;refine pk 28 Ql b ?_;(iterate 2 refine PX 29 b ?_);refine pz 31 Ql b ?_;refine pz 32 Ql b ?_;refine pk 33 Ql b ?_;(iterate 2 refine PX 34 b ?_);refine po 36 λK' r=>?_;go_simp;apply(eH _ b.tb).mono;rintro e a⟨rfl,o⟩;have m:=b.below o;refine r _ _ ⟨m,?_⟩;clear b o;have b:=m;clear m
 cases m:decide (bu<=283);·refine pz 37 Qk b ?_;refine pz 38 Qk b ?_;refine pk 39 Qk b ?_;(iterate 4 refine PX 40 b ?_);refine pz 44 Qk b ?_;refine pk 45 Qk b ?_;refine bY ?_;go_wp2;go_ret;exact⟨by rw[<-c.out,GR (by unfold jg;simp at m;omega)];rfl,b.bel⟩
 refine pz 37 Ql b ?_;refine pz 38 Ql b ?_;refine pk 39 Ql b ?_;(iterate 3 refine PX 40 b ?_);cases m:decide ((d:Int)<=20000);·refine pz 43 Qk b ?_;refine pz 44 Qk b ?_;refine pk 45 Qk b ?_;refine bY ?_;go_wp2;go_ret;exact⟨by rw[<-c.out,GR (by unfold jg;simp at m;omega)];rfl,b.bel⟩
 refine pz 43 Ql b ?_;refine pz 44 Ql b ?_;refine pk 45 Ql b ?_;refine bY ?_;go_wp2;go_ret;exact⟨by rw[<-c.out,G8 (by unfold jg;simp only[Hj]at*;omega)];rfl,b.bel⟩
structure SrtI(l m:List Nat)(i j:Nat):Prop where
 perm:m.Perm l
 low:∀a b x y:Nat,a<i->a<b->m[a]?=some x->m[b]?=some y->x<=y
 here:∀b x y:Nat,i<b->b<j->m[i]?=some x->m[b]?=some y->x<=y
def SrtI.start(l):SrtI l l 0 1:=⟨List.Perm.refl _,λa b x y h=>Z,λb x y c d=>Z⟩
def SrtI.next(h:SrtI l m i j)(g:m.length<=j):SrtI l m (i+1) (i+2):=by
 refine⟨h.perm,λa b x y f c ha d=>?_,λb x y f c=>Z⟩;by_cases e:a<i;.exact h.low a b x y e c ha d
 obtain rfl:a=i:=Z;have:=(Fz.1 d).1;exact h.here b x y c Z ha d
def SrtI.keep{y:Nat}(h:SrtI l m i j)(c:m[i]?=some x)(d:m[j]?=some y)(f:x<=y):SrtI l m i (j+1):=by
 refine⟨h.perm,h.low,λb u v g k a hv=>?_⟩;by_cases e:b<j;.exact h.here b u v g e a hv
 obtain rfl:b=j:=Z;rw[c]at a;rw[d]at hv;injection a with a;injection hv with hv;omega
def SrtI.swap{y:Nat}(h:SrtI l m i j)(p:i<j)(f:m[i]?=some x)(g:m[j]?=some y)(q:y<x):SrtI l ((m.set i y).set j x) i (j+1):=by
 let⟨k,r⟩:=Fz.1 f;let⟨n,s⟩:=Fz.1 g;let c:∀b,((m.set i y).set j x)[b]?=if b=j then some x else if b=i then some y else m[b]?:=λb=>by
  rw[Gr,Gr];by_cases a:b=j;.subst a;simp[n]
  rw[GO (λe=>a e.symm),GO a];by_cases d:b=i;.subst d;simp[k]
  rw[GO (λe=>d e.symm),GO d]
 refine⟨?_,λa b u v e o d hv=>?_,λb u v e o d hv=>?_⟩;.refine List.Perm.trans ?_ h.perm;have:=List.set_set_perm k n;rw[r,s]at this;exact this
 .rw[c,GO Z,GO Z]at d;rw[c]at hv;split at hv;.injection hv with hv;subst hv;exact h.low a i _ _ e e d f
  split at hv;.injection hv with hv;subst hv;exact h.low a j _ _ e Z d g
  exact h.low a b _ _ e o d hv
 rw[c,GO Z,GP rfl]at d;injection d with d;rw[c]at hv;split at hv;.injection hv with hv;omega
 rw[GO Z]at hv;have:=h.here b x v e Z f hv;omega
def SrtI.done(h:SrtI l m i j)(e:m.length<=i):m.Pairwise (· <= ·):=by rw[II];intro a b ha d c;exact h.low a b _ _ Z c (Fy ha) (Fy d)
def Am(W:QM)(a:QP)(c:Nat):(Builtin.append_ #[37,37] 37 #[C,.slice a 0 c]).run prog W=.ok (C) W:=by let⟨g,b,d,e,f⟩:=G0 iY;cases a<;>simp[Builtin.append_,run_underlying underlying37,sizeOf,typeInfo,b,Builtin.lenOf,Builtin.firstCells,loadCells,loadCellsFrom]
def ug(W:QM)(B:Nat)(a:QP)(c:Nat)(l:List Nat)(e:W.ownsRow B 24 1 (.slice a l.length c) l.length (Us l))(m:l.length<=90000):
  ∃d b,QI 37 C (.slice a l.length c) W d b/\b.ownsRow W.heap.size 24 1 d l.length (Us l)/\D W b:=by
 by_cases f:l.length=0;.obtain rfl:=List.length_eq_zero_iff.1 f;exact⟨_,_,Am W a c,⟨rfl,.inl ⟨rfl,rfl⟩⟩,th⟩
 obtain⟨G,rfl⟩:=cr e Z;let⟨d,b,g,i,k⟩:=jQ W W.heap.size (C) [] l (Qz G 0) c ⟨rfl,.inl ⟨rfl,rfl⟩⟩ (λj u a=>by rw[Addr.add_mid,Oi];exact bC e j u a) bG gi
 exact⟨d,b,g,i,(Fu _ W).grown k gi (λP a=>by simp[Value.ownBlock]at a)⟩
def oG{B:Nat}{e:QO}{sz:Nat}{G n cap}{b:List QN}(h:W.ownsRow B e sz (Vl G n cap) n b)(i:Nat):W.frozen? (Qz G i)=false:=by
 rcases h.2 with⟨e,_⟩|⟨g,a,c,e,f,d,j,k,l,m⟩;.simp at e
 simp at e;obtain⟨rfl,rfl⟩:=e;simp[QD,d]
def ny(h:l[i]?=some x):(Us l)[i]?=some (U x):=by simp[Us,h]
def sg(l)(i x:Nat):(Us l).set i (U x)=Us (l.set i x):=by simp[Us,List.map_set]
def ue(W:QM)(B:Nat)(v:QN)(l:List Nat)(d:W.ownsRow B 24 1 v l.length (Us l))(A:l.length<=90000):
  Calls prog 133 #[v] W λe F=>∃(m:List Nat)(a:QN),e=QJ a/\m.Perm l/\m.Pairwise (· <= ·)/\F.ownsRow W.heap.size 24 1 a m.length (Us m)/\D W F:=by
 obtain⟨a,c,rfl⟩:=aK d;have⟨v1,w1,w,b,g⟩:=ug W B a c l d A;obtain⟨Q,K,rfl⟩:=aK b;have⟨N,f⟩:=Qa l.length;rw[f]at w b A⊢;have R:=H f;have L:=H b;have M:=H g;clear d b g f;go_in;go_wp2_with (at_builtin;refine up w ?_);go_loopw [12] (λi q=>∃k:Nat,k<=N/\i=I k/\∃m:List Nat,Hid (m.length=N)/\Hid (SrtI l m k (k+1))/\Hid (q.ownsRow W.heap.size 24 1 (.slice Q N K) N (Us m))/\Hid (D W q)) (λi _=>N-(intOf i).toNat);exact⟨0,aa,rfl,l,R,H (SrtI.start l),L,M⟩
 clear L M w;obtain⟨k,hk,rfl,m,b,f,d,n⟩:=hrel;by_cases r:k<N
 ·obtain⟨G,rfl⟩:=cr d Z;go_wp2;go_loopw [5] (λi q=>∃j:Nat,k+1<=j/\j<=N/\i=I j/\∃m:List Nat,Hid (m.length=N)/\Hid (SrtI l m k j)/\Hid (q.ownsRow W.heap.size 24 1 (Vl G N K) N (Us m))/\Hid (D W q)) (λi _=>N-(intOf i).toNat);(case atStart=>exact⟨k+1,gi,Z,aY,m,b,f,d,n⟩);case round=>
   clear b f d n;obtain⟨j,S,hj,rfl,m,b,f,d,n⟩:=hrel;by_cases s:j<N
   ·obtain⟨x,t⟩:∃x,m[k]?=some x:=⟨_,Fy (by rw[b];exact r)⟩;obtain⟨y,p⟩:∃y,m[j]?=some y:=⟨_,Fy (by rw[b];exact s)⟩;have ck:=bC d k _ (ny t);have cj:=bC d j _ (ny p);by_cases z:y<x
    ·have u:=H (f.swap Z t p z);have g:=dP d k (by rw[fK,b];exact r) (U y);have o:=dP g j (by rw[Gj,fK,b];exact s) (U x);rw[sg,sg]at o;have T:=bC g j (U y) (by rw[Gr,GO Z];exact ny p);have O:W.heap.size<=G:=(aF d rfl).1;have V:=H o;have X:(y:Int)<(x:Int):=Z;have fk:=oG d k;have fj:=oG g j;have Y:=oG d j;have a0:¬(k=j):=Z;have P:¬(j=k):=Z;clear t p f g o;go_wp2;go_region;go_wp2;go_region;go_wp2;go_roundw;(exact⟨j+1,Z,Z,aY,_,H (by rw[Gj,Gj];exact b),u,H V,H ((n.setCell O _).setCell O _).drew.drew⟩);exact QE
    have u:=H (f.keep t p Z);have X:¬((y:Int)<(x:Int)):=Z;clear t p f;go_wp2;go_region;go_wp2;go_roundw;(exact⟨j+1,Z,Z,aY,m,b,u,H d,H n.drew⟩);exact QE
   obtain rfl:j=N:=Z;have u:=H (f.next (by rw[b];exact gi));clear f;go_wp2;go_roundw;(exact⟨k+1,Z,aY,m,b,u,d,n⟩);exact QE
 obtain rfl:k=N:=Z;go_wp2;go_ret;exact⟨m,_,rfl,f.perm,f.done (by rw[b];exact gi),by rw[b];exact d,n⟩
end
def Klg(d e:Dy):Prop:=∀b g,d.lg b=some g->(e.lg b).isSome=true->e.lg b=some g
def Klg.ofEq{d a:Dy}(h:a.lg=d.lg):Klg d a:=λb g c _=>by rwa[h]
def D7(B:Nat)(y:Ly)(d:Dy)(cf:Cf)(j:Hs)(an:Value)(W:World)(e:Ending)(W':World):Prop:=e=.returned (.tuple #[])/\(∃i,Hp B y i cf j W'/\Gd i j an/\Klg d i)/\Bi B W W'
def lT(B y d cf h k an)(c s j:Nat)(W)(hp:Hp B y d cf h W)(gd:Gd d h an)(o:vJ cf h k)(t:c<12)(hs:s<6)(hj:j<aM c)(hl:h.st c s j=1):
  Calls prog 109 #[J y.P 0,J (y.sm c s j) 0] W (D7 B y d cf (aL cf h c s j) an W):=by
 obtain⟨a0,b3⟩:=Qa (aL cf h c s j);rw[b3];obtain⟨Q,e4⟩:=y7 (b3.symm.trans (cW cf h c s j)) (o.inv.freed o.dok.fifo1 t hs hj hl);have hz:=aX t;have hA:=ca t hs hj;obtain⟨GD,OK,j8,BW⟩:=Qf gd o hp hp.bW;obtain⟨c2,c3,d0,d1,_,_,_,_⟩:=hp.scAt c s j t hs hj;obtain⟨SB,SZ⟩:=y7 (λV(hV:D W V)=>eI (y.sm c s j) (y.sb c s) c s j V ((hp.scAt c s j t hs hj).below hV)) (λV(hV:D W V)=>dJ (c:Nat) V (hp.below hV).tb);rw[uT t]at SZ;have j9:=λw=>EK (cy c) Z w
 refine(let_mvar%?B:=madeCells #[Value.int .u8 0] (cy c);let_mvar%?C:=ay h.m (bh c s j) (List.replicate (cy c) 0) (cy c);?_);have ST:Hid (∀V,D W V->QA 63 #[J y.P 0,U (bh c s j:Nat),Vl V.heap.size (cy c) (cy c)] (V.alloc (.cells ?B 5)) (A9 B y d cf h (V.alloc (.cells ?B 5)) (?C) 0)):=(λV hV=>by have b2:D W (V.alloc (.cells ?B 5)):=hV.alloc hV.size _;have:=iw B y d cf h (bh c s j) (some (Qz V.heap.size 0)) (cy c) (cy c) (List.replicate (cy c) 0) _ (hp.below b2) o.inv.out Z ((hp.below b2).daRow (wi (cy c) V) bH) gi;rw[Gc,o.inv.accL t hs hj (o.inv.onLive t hs hj hl),GP rfl]at this;exact this)
 have g9:Hid (∀V,D W V->Bi B W (V.alloc (.cells ?B 5))):=λV hV=>Bi.ofBelow (hV.alloc hV.size _) hp.bW;generalize h4:y.sm c s j=G at*;have e5:=H h4;generalize h5:y.sb c s=gb at*;refine(let_mvar%?I:=bX cf h c s j;?_);obtain⟨h6,DB⟩:=y7 h5 (show ?C=(?I).m from rfl);go_in;go_wp2_with fail;refine(SB _ th).mono ?_;rintro e V1⟨rfl,b1⟩;have B1:=H b1;go_wp2_with fail;refine(SZ _ B1).mono ?_;rintro e V2⟨rfl,rfl⟩;go_wp2_with fail;refine(ST _ B1).mono ?_;rintro e V3⟨f3,i0,i1,⟨_,rfl⟩|⟨hn,_⟩⟩
 rotate_left
 ·exact absurd rfl hn
 obtain⟨e6,i2⟩:=y7 i0 ((g9 _ B1).trans i1);obtain⟨h7,b7⟩:=e6.setRec t hs hj 2 0;have a9:=e6.sm c s j t hs hj;rw[e5]at h7 b7 a9;have s0:V3.cell? (Qz G 0)=some (I (h.st c s j)):=bJ a9;have s1:V3.cell? (Qz G 1)=some (I (h.rq c s j)):=bJ a9;have z0:V3.frozen? (Qz G 0)=false:=by simp[QD,a9]
 have z1:V3.frozen? (Qz G 1)=false:=by simp[QD,a9]
 simp[World.setCells,Oi]at h7 b7;generalize h.st c s j=q0 at s0;generalize h.rq c s j=q1 at s1;have k0:=h7.cell 0 Z (I cf.mix) rfl;obtain⟨H7,B7⟩:=y7 h7 (i2.trans b7);clear h7 b7;go_upto_if 31 with fail
 generalize (V3.setCell (Qz G 0) (I 2)).setCell (Qz G 1) (I 0)=V7 at*;clear s0 s1 z0 z1 c2 d0;obtain⟨dd,c8⟩:∃dd:Nat,(if cf.mix=0 then 0 else dr cf h cf.mix)=dd:=⟨_,rfl⟩;obtain⟨x,c9⟩:∃x:Dy,x={d with f:=f3}:=⟨_,rfl⟩;obtain⟨R,b4⟩:∃R:Hs,R={h with m:=?C,st:=aE h.st c s j 2,rq:=aE h.rq c s j 0}:=⟨_,rfl⟩;obtain⟨F,d2⟩:∃F:Hs,F={R with used:=if cf.mix=0 then h.used else h.used+1}:=⟨_,rfl⟩;refine(let_mvar%?D:=Hp B y x cf;?_);have H8:=H (show ?D R V7 by rw[c9,b4];exact H7);obtain⟨b5,KL⟩:=y7 (show R.used=h.used by rw[b4]) (show x.lg=d.lg by rw[c9]);have d4:=H (show(∀c s,c<12->s<6->x.on c s=dA h c s)/\x.un=.nilFunc/\x.an=an by rw[c9];exact⟨GD.on,GD.un,GD.an⟩);have d5:=H (show F.mx=h.mx/\F.ff=h.ff by rw[d2,b4];exact QB);refine(let_mvar%?E:=((s*aM c+j:Nat):Int);let_mvar%?A:=ed cf.fifo (F.mx c) (F.ff c) ?E (dd:Int);?_);have i3:=H (show ?I={F with mx:=dB F.mx c (?A).1,ff:=dB F.ff c (?A).2.1} by rw[d2,b4,<-c8];rfl);have i4:=H (show(?A).2.2=er cf h c s j by rw[d5.1,d5.2,<-c8];rfl);obtain⟨e7,e8,e9⟩:=Qe (show∀c' l,dA (?I) c' l=dA h c' l from λc' l=>dj _ _ _ _ _) c8 d2;clear c9 b4 d2 c8 hl;go_cut [5] (λs5 w'=>s5=I dd/\Hid (?D F w')/\Hid (Bi B W w'));case first=>
  by_cases K:cf.mix=0
  ·obtain⟨E0,E3⟩:=y7 (show dd=0 by rw[<-e8.out,GP K]) (show F=R by rw[e9,GP K,<-b5.out]);have i5:¬((0:Int)<(cf.mix:Int)):=Z;go_wp2;go_meet;exact⟨by rw[E0];rfl,by rw[E3];exact H8,B7⟩
  have E0:=H (show dd=dr cf R cf.mix by rw[<-e8.out,GO K];unfold dr;rw[b5]);have E3:=H (show F={R with used:=R.used+1} by rw[e9,GO K,b5]);have i5:(0:Int)<(cf.mix:Int):=Z;go_wp2_with fail;refine (H (oL B y x cf R cf.mix V7 H8 Z (by have:=OK.dok.mix;omega) (by rw[b5];have h1:=OK.few.used;have R:=OK.kk;have:2100*k<=2100*302:=IJ _ R;omega) OK.dok.len)).mono ?_;rintro e V8⟨rfl,h8,b8⟩;obtain⟨H9,B8⟩:=y7 h8 (B7.trans b8);go_wp2;go_meet;exact⟨by rw[E0],by rw[E3];exact H9,B8⟩
 obtain⟨rfl,H3,B3⟩:=hcut;rename_i wc;obtain⟨n,hn⟩:=Qa (aM c);obtain⟨HN,SL⟩:=y7 hn (λV(hV:Tb V)=>gK (c:Nat) V hV);rw[vA t,hn]at SL;have k2:(0:Int)<=(s:Int)*(n:Int)/\(s:Int)*(n:Int)<=384:=by have h1:s*n<=6*64:=Nat.mul_le_mul Z Z;have R:((s*n:Nat):Int)=(s:Int)*(n:Int):=bH;omega
 have l6:(j:Int)<64:=Z;have k3:IntKind.i64.wrap ((s:Int)*(n:Int))=(s:Int)*(n:Int):=by rw[Hh];omega
 have k4:IntKind.i64.wrap ((s:Int)*(n:Int)+(j:Int))=(s:Int)*(n:Int)+(j:Int):=by rw[Hh];omega
 have CK:Hid (∀(a:QM)d9 T,Hp B y d9 cf T a->QG a y.P (79+c*3+2) (if cf.mix=0 then .iface 84 (J (y.qg c) 0)else .iface 83 (J (y.qm c) 0))/\QG a G 2 (J gb 0)/\QG a gb 1 (I s)/\QG a G 3 (I j)):=(λa d9 T L=>by obtain⟨c2,c3,_,d1,_⟩:=L.scAt c s j t hs (by rw[HN];omega);rw[e5,h6]at c2;rw[e5]at c3;rw[h6]at d1;exact⟨L.qAt c t,c2,d1,c3⟩)
 have g0:=H (show(F.mx c).length=cf.mix by rw[d5.1];exact OK.inv.mxl c t);obtain⟨a1,a2⟩:=y7 (λ(h0:cf.mix=0)a(L:?D F a)=>Of B y x cf F c ?E (dd:Int) a L g0 OK.dok t h0) (λ(h0:cf.mix≠0)a(L:?D F a)=>xI B y x cf F c ?E (dd:Int) a L g0 OK.dok t h0);unfold Ez at a1 a2;rw[i4,<-i3.out]at a1 a2;have hx:?E=(s:Int)*(n:Int)+(j:Int):=by rw[hn];simp
 rw[hx]at a1 a2;generalize k5:?I=fA at*;generalize k6:er cf h c s j=lf at*;go_upto_region 6 with fail
 go_cut [6] (λs6 w'=>s6=I lf/\Hid (?D fA w')/\Hid (Bi B W w'));case first=>
  by_cases K:cf.mix=0
  ·have PU:=H (a1 K);rw[GP K]at CK;have k7:=λw=>xg ⟨y.qg c,0,none⟩ w
   generalize y.qg c=qg at*;refine rh (S:=λX=>QG X y.P (79+c*3+2) (.iface 84 (J qg 0))/\QG X G 2 (J gb 0)/\QG X gb 1 (I s)/\QG X G 3 (I j)) ?_;have b:=CK.out _ _ _ (H3.below ld);(iterate 15 refine PX 0 b ?_);(iterate 4 refine PX 17 b ?_);(iterate 3 refine PX 22 b ?_);refine po 15 λK' M=>?_;go_simp;refine(SL _ (H3.below ld).tb).mono ?_;rintro e U1⟨rfl,rfl⟩;refine M _ _ ⟨b,?_⟩;refine PX 16 b ?_;refine PX 21 b ?_;refine po 25 λK' M=>?_
   go_simp;refine(PU _ (H3.below ld)).mono ?_;rintro e U2⟨rfl,a3,b6⟩;have q2:=CK.out _ _ _ a3;refine M _ _ ⟨q2,?_⟩;have b:=q2;refine PX 26 b ?_;refine bY ?_;obtain⟨H6,B6⟩:=y7 a3 ((B3.add ld H3.bW).trans b6);go_wp2_with fail;go_meet;exact⟨rfl,H6,B6⟩
  have PU:=H (a2 K);rw[GO K]at CK;have k7:=λw=>Bp ⟨y.qm c,0,none⟩ w
  generalize y.qm c=qm at*;refine rh (S:=λX=>QG X y.P (79+c*3+2) (.iface 83 (J qm 0))/\QG X G 2 (J gb 0)/\QG X gb 1 (I s)/\QG X G 3 (I j)) ?_;have b:=CK.out _ _ _ (H3.below ld);(iterate 15 refine PX 0 b ?_);(iterate 4 refine PX 17 b ?_);(iterate 3 refine PX 22 b ?_);refine po 15 λK' M=>?_;go_simp;refine(SL _ (H3.below ld).tb).mono ?_;rintro e U1⟨rfl,rfl⟩;refine M _ _ ⟨b,?_⟩;refine PX 16 b ?_;refine PX 21 b ?_;refine po 25 λK' M=>?_
  go_simp;refine(PU _ (H3.below ld)).mono ?_;rintro e U2⟨rfl,a3,b6⟩;have q2:=CK.out _ _ _ a3;refine M _ _ ⟨q2,?_⟩;have b:=q2;refine PX 26 b ?_;refine bY ?_;obtain⟨H6,B6⟩:=y7 a3 ((B3.add ld H3.bW).trans b6);go_wp2_with fail;go_meet;exact⟨rfl,H6,B6⟩
 case rest=>
  obtain⟨rfl,H6,B6⟩:=hcut;have c0:=H (show Gd x fA an from⟨λc s t hs=>by rw[d4.1 c s t hs,e7],d4.2.1,d4.2.2⟩);rcases e4 with⟨e,g1⟩|⟨l,Y,e,e1,e2,q,i6,e0,g1⟩
  ·subst e;have HE:=H (show a0=fA by rw[Q,GP rfl]);go_wp2;go_end0;rw[HE];exact⟨rfl,⟨x,H6,c0,Klg.ofEq KL⟩,B6⟩
  obtain⟨a4,rfl⟩:∃a4:Nat,lf=(a4:Int):=⟨lf.toNat,Z⟩;rw[F0]at e1 e2 Q;have HE:=H (show a0=bK fA c l Y by rw[Q,GO Z,e1,e2]);rw[hn]at e1 e2 i6;have l7:(a4:Int).tdiv (n:Int)=(l:Int):=(by rw[Ig Z,<-e1];simp);have l8:(a4:Int).tmod (n:Int)=(Y:Int):=(by rw[GH Z,<-e2];simp);have l9:¬((n:Int)=0):=Z;have m0:((a4:Int) == -1)=false:=bH;have m1:(l:Int)<6:=Z;have m2:(Y:Int)<(n:Int):=Z;have i7:Y<aM c:=(by rw[hn];exact i6);obtain⟨d6,g2⟩:=y7 i7 g1;have m3:IntKind.i64.wrap (l:Int)=(l:Int):=(by rw[Hh];omega);have m4:IntKind.i64.wrap (Y:Int)=(Y:Int):=(by rw[Hh];omega);obtain⟨u,a6⟩:=Qa (y.sb c l);obtain⟨A,a7⟩:=Qa (y.sm c l Y);obtain⟨O,c1⟩:=Qa (y.sr c l);obtain⟨b0,c4⟩:=Qa (y.sc c l);have CK:Hid (∀(a:QM)d9 T,Hp B y d9 cf T a->QG a y.P (7+c*6+l) (J u 0)):=(λa d9 T L=>by rw[<-a6];exact L.slabAt c l t q)
  have CR:Hid (∀(a:QM)d9 T,Hp B y d9 cf T a->QG a u 3 (Vl O n b0)/\QG a O Y (J A 0)):=(λa d9 T L=>by rw[<-a6,<-c1,<-c4,<-a7,<-HN.out];exact⟨(L.bc c l t q).d3,L.rowAt c l Y t q d6⟩)
  have g3:Hid (∀(a:QM),?D fA a->(∃z,QG a A 0 (I z))/\a.frozen? (Qz A 0)=false/\?D {fA with st:=aE fA.st c l Y 3} (a.setCell (Qz A 0) (I 3))/\Bi B a (a.setCell (Qz A 0) (I 3))):=(λa L=>by have h1:=(L.smAt c l Y t q d6).1;have R:=L.sm c l Y t q d6;have F:=L.setSt1 t q d6 3;rw[a7]at h1 R F;exact⟨⟨_,h1⟩,by simp[QD,R],F.1,F.2⟩)
  obtain⟨c5,l3,l4,l5⟩:=Qf a6 a7 c1 c4;(go_upto_region 8 with fail);refine rh (S:=λX=>QG X y.P (7+c*6+l) (J u 0)) ?_;have b:=CK.out _ _ _ (H6.below ld);(iterate 4 refine PX 0 b ?_);(iterate 3 refine PX 6 b ?_);refine po 4 λK' M=>?_;go_simp;refine(SL _ (H6.below ld).tb).mono ?_;rintro e U1⟨rfl,rfl⟩;refine M _ _ ⟨b,?_⟩;refine pz 5 (I l) b ?_;(iterate 3 refine PX 9 b ?_);refine bY ?_;obtain⟨H8,B8⟩:=y7 (H6.below ld) (B6.add ld H6.bW);(go_upto_region 9 with fail);generalize World.drew _=V8 at*;obtain⟨⟨z9,cz⟩,fz,_,_⟩:=g3.out _ (H8.below (Fu _ V8).drew);refine rh (S:=λX=>QG X u 3 (Vl O n b0)/\QG X O Y (J A 0)) ?_;have b:=CR.out _ _ _ (H8.below ld);(iterate 6 refine PX 0 b ?_);refine po 6 λK' M=>?_
  go_simp;refine(SL _ (H8.below ld).tb).mono ?_;rintro e U1⟨rfl,rfl⟩;refine M _ _ ⟨b,?_⟩;refine pz 7 (I Y) b ?_;(iterate 5 refine PX 8 b ?_);refine po 13 λK' M=>?_;go_simp;obtain⟨_,_,T,b9⟩:=g3.out _ (H8.below (Fu _ V8).drew);refine M _ _ ⟨(CR.out _ _ _ T),?_⟩;refine bY ?_;obtain⟨r,N⟩:∃r:Hs,r={fA with st:=aE fA.st c l Y 3}:=⟨_,rfl⟩;refine(let_mvar%?F:=V8.setCell (Qz A 0) (I 3);?_);have H9:=H (show ?D r (?F).drew by rw[N];exact T);have B9:Hid (Bi B W (?F).drew):=(B8.add ld H8.bW).trans b9;rw[<-N]at g2;refine(let_mvar%?G:=bQ r.m (aD c l) (dI c);?_);have c6:=H (show a0=if(freeS r c l).length=n then {r with m:=?G}else r by rw[HE,N,<-HN.out];rfl);have d7:=H (show Gd x r an by rw[N];exact⟨c0.on,c0.un,c0.an⟩);have k8:=H (show dA r c l=true by rw[N];exact (H (show dA fA c l=true by rw[e7];exact e0)));generalize (?F).drew=V9 at*;have FR:Hid (∀a,?D r a->_):=λa L=>pa (y.sb c l) (y.sr c l) c l (aM c) (y.sc c l) (x.on c l) (y.sm c l) (r.st c l) a (L.bc c l t q) Z (λj hj=>L.rowAt c l j t q hj) (λj hj=>(L.smAt c l j t q hj).1);rw[jB,c5]at FR;obtain⟨ll,g4⟩:=Qa ((freeS r c l).length);rw[g4]at FR c6;obtain⟨C3,i9⟩:=y7 (show∀(a:QM)d9 T,Hp B y d9 cf T a->QG a u 3 (Vl O n b0)from λa d9 T L=>(CR a d9 T L).1) g4;(go_upto_region 10 with fail);refine rh (S:=λX=>QG X u 3 (Vl O n b0)) ?_;have b:=C3.out _ _ _ (H9.below ld);refine PX 0 b ?_;(iterate 5 refine PX 3 b ?_);refine po 1 λK' M=>?_
  go_simp;refine(FR _ (H9.below ld)).mono ?_;rintro e U1⟨v,rfl,j0,b1⟩;obtain⟨va,vc,rfl⟩:=aK j0;have k1:D V9 U1:=⟨b1.os,b1.tape,b1.output,b1.size,b1.block⟩;have q1:=C3.out _ _ _ (H9.below k1);refine M _ _ ⟨q1,?_⟩;have b:=q1;refine PX 2 b ?_;refine(let_mvar%?H:=((ll:Int)==(n:Int));?_);refine pk 8 (.bool ?H) b ?_;refine bY ?_;obtain⟨a5,g5⟩:=y7 (H9.below k1) (B9.add k1 H9.bW);by_cases P:ll=n
  ·have k9:?H=true:=(by simp[P]);have SP:=H (mz (y.sb c l) (y.sr c l) (y.sm c l 0) c l (aM c) (y.sc c l) (x.on c l) 1 U1 (a5.bc c l t q) Z (a5.scAt c l 0 t q Z) (a5.rowAt c l 0 t q Z));have AK:=H (λa(L:?D r a)=>mC B y x cf r 1 (aD c l:Nat) (dI c:Nat) 0 0 none 0 0 [] a L g2.out.out Z (by have:=cD t q;omega) (Da.nil _ _ _ _) gi);rw[mH (bud:=(cf.bud:Nat)) (m:=r.m) (p:=aD c l) (c:=dI c) Z (by have:=cD t q;omega) (λi hi=>by rw[g2.slab c l t q i hi];exact k8)]at AK;have ON:Hid (∀c' s9,c'<12->s9<6->(?G (aD c' s9)).isSome=gG x.on c l false c' s9):=(λc' s9 c7 d8=>by
    unfold gG;rw[eb];by_cases e:c'=c/\s9=l;·obtain⟨rfl,rfl⟩:=e;rw[GP Z,GP ⟨rfl,rfl⟩];rfl
    rw[GO e,GO (by have:=ew c7 d8 t q e;omega),d7.on c' s9 c7 d8];rfl)
   have g6:=H (show a0={r with m:=?G} by rw[c6,GP P]);rw[c5]at SP;go_wp2_with fail;refine(SP).mono ?_;rintro e m6⟨rfl,g7⟩;obtain⟨j2,j3⟩:=y7 (a5.below g7) (g5.add g7 a5.bW);go_wp2_with fail;refine(AK _ j2).mono ?_;rintro e l1⟨f12,a8,e3,⟨_,m7,rfl,_⟩|⟨l2,_⟩⟩
   rotate_left
   ·exact absurd rfl l2
   obtain⟨j4,j5⟩:=a8.setOn t q false;have cb:=(a8.bc c l t q).d2;have fb:l1.frozen? ⟨y.sb c l,2,none⟩=false:=(by simp[QD,a8.sl c l t q]);obtain⟨j6,j7⟩:=y7 j4 ((j3.trans e3).trans j5);rw[c5]at cb fb j6 j7;go_wp2;go_end0;rw[g6];refine⟨rfl,⟨_,j6,⟨λc' s9 c7 d8=>?_,d7.un,d7.an⟩,Klg.ofEq KL⟩,j7⟩;exact(ON c' s9 c7 d8).symm
  have k9:?H=false:=bG;have g6:=H (show a0=r by rw[c6,GO P]);go_wp2;go_end0;rw[g6];exact⟨rfl,⟨x,a5,d7,Klg.ofEq KL⟩,g5⟩
def qi(c d:QO){o:Oper}{a:Act}{W f:QM}{K:Act->QM->Prop}{Q:Exit->Act->QM->Prop}(m x:Operand)(g:o.dst=none){vm vx v:QN}(e:o.op=Op.call {callee:=Callee.builtin Builtin.delete,args:=#[m,x],argTypes:=#[c,d]})(i:a.eval m=vm)(j:a.eval x=vx)
  (b:(Builtin.delete_ #[c,d] o.type #[vm,vx]).run prog W=.ok v f) (k:K a f):Oper.wp prog o a W K Q:=by
 apply lW c d m x e i j b;rwa[g]
def iO(cf h r):aJ cf h r=if cf.large<(h.row++[r.base]).length then {h with m:=bQ h.m (r.first+r.guards) r.pages,rg:=(gX h.rg r.base 2 0).filter λx=>x.base≠(h.row++[r.base])[0]?.getD 0,rel:=h.rel++[(h.row++[r.base])[0]?.getD 0],row:=(h.row++[r.base]).tail}else {h with m:=bQ h.m (r.first+r.guards) r.pages,rg:=gX h.rg r.base 2 0,row:=h.row++[r.base]}:=rfl
def kL(B y d cf h k an)(r:Rg9)(L:Nat)(W)(l:Hp B y d cf h W)(z:Gd d h an)(o:vJ cf h k)(g:r∈h.rg)(G:r.st=1)(q:d.lg r.base=some L):
  Calls prog 110 #[J y.P 0,J L 0] W (D7 B y d cf (aJ cf h r) an W):=by
 have⟨a1,a⟩:=Qa (aJ cf h r);rw[a];have t:=H (a.symm.trans (iO cf h r));clear a;have⟨P,Q,T,s,X,r6⟩:=o.inv.rgs r g;have w:r.ext=r.guards+r.pages+1:=rfl;refine(let_mvar%?F:=r.first+r.guards;?_);have⟨d8,e0⟩:=y7 (show r.base=(?F)*1024 from rfl) (show∀(V:QM)a b,V.heap[L]?=some (.cells (oV {r with st:=a,rq:=b}) 225)->Lc L {r with st:=a,rq:=b} V from λV a b hV=>nx hV bG s bG);have n:W.heap[L]?=some (.cells (oV r) 225):=by have⟨L',Y,_,n⟩:=l.lb r g;rw[q]at Y;cases Y;exact n
 have K:=H (ma L 1 r W (nx n Z s Z));have b:∀i,i<r.pages->(h.m (r.first+r.guards+i)).isSome=true:=λi hi=>(o.inv.big _ Z).2 ⟨r,g,G,Z,Z⟩
 have j:=mH (bud:=(cf.bud:Nat)) (m:=h.m) (p:=?F) (c:=r.pages) Z Z b;have N:=H (λa(e:Hp B y d cf h a)=>mC B y d cf h 1 ((?F:Nat):Nat) (r.pages:Nat) 0 0 none 0 0 [] a e o.inv.out Z Z (Da.nil _ _ _ _) gi);rw[j]at N;have⟨A,u,a,O,R,M,F⟩:=Qi (λ(x:Rg9)(hx:x∈h.rg)(e:x.base=r.base)=>o.inv.uniq g hx e) o l g q z (show ?F≥187 by omega);clear l z o g q j b n G P Q T s X r6 w;go_in;go_wp2_with fail;refine(K).mono ?_;rintro e V1⟨rfl,b⟩;have⟨T,X⟩:=y7 (a.below b) (Bi.ofBelow b a.bW);clear b;go_wp2_with fail;refine(N _ T).mono ?_;rintro e V2⟨f2,G,K,⟨_,v2,rfl,_⟩|⟨g3,_⟩⟩
 rotate_left
 ·exact absurd rfl g3
 obtain⟨d2,j⟩:∃d2:Dy,d2={d with f:=f2}:=⟨_,rfl⟩;obtain⟨q,l⟩:∃q:Hs,q={h with m:=bQ h.m (?F) r.pages}:=⟨_,rfl⟩;have P:=H (show Hp B y d2 cf q V2 by rw[j,l];exact G);have B2:=H (X.trans K);have o:=H (show Gd d2 q an by rw[j,l];refine⟨λc s hc hs=>?_,M.un,M.an⟩;show d.on c s=(bQ h.m (?F) r.pages (aD c s)).isSome;have:=cD hc hs;rw[lC _ _ _ _ (by have:=F.out;omega)];exact M.on c s hc hs)
 have g5:=H (show d2.lg=d.lg by rw[j]);have g:=H (show q.rg=h.rg/\q.row=h.row/\q.rel=h.rel by rw[l];exact⟨rfl,rfl,rfl⟩);have c0:=H (show d2.lg r.base=some L by rw[j];exact R);have z:=H (show r∈q.rg by rw[g.1];exact O);have w:=H (show∀x∈q.rg,x.base=r.base->x=r by rw[g.1];exact A);refine(let_mvar%?D:=gX q.rg r.base 2 0;let_mvar%?G:=q.row++[r.base];?_);have a3:=H (show a1=if cf.large<(?G).length then {q with rg:=(?D).filter λx=>x.base≠(?G)[0]?.getD 0,rel:=q.rel++[(?G)[0]?.getD 0],row:=(?G).tail}else {q with rg:=?D,row:=?G} by rw[t.out,l]);have PW:=H (show(?D).Pairwise λa b=>a.first+a.ext<=b.first\/b.first+b.ext<=a.first by
  rw[g.1];unfold gX;rw[List.pairwise_map];refine u.inv.apart.imp (λ{a b}Q=>?_);have Y:∀x:Rg9,(if x.base=r.base then {x with st:=2,rq:=0}else x:Rg9).first=x.first:=λx=>by split<;>rfl
  have e2:∀x:Rg9,(if x.base=r.base then {x with st:=2,rq:=0}else x:Rg9).ext=x.ext:=λx=>by split<;>rfl
  rw[Y,Y,e2,e2];exact Q)
 have b4:Hid (∀b∈q.row++[r.base],(∃x∈gX q.rg r.base 2 0,x.base=b)/\b<18446744073709551616):=(λb hb=>by
  have Q:∃x∈h.rg,x.base=b:=by
   rw[g.2.1]at hb;rcases F8.1 hb with h1|h1;·have⟨x,hx,_,e⟩:=(u.inv.row b).1 h1;exact⟨x,hx,e⟩
   have q:b=r.base:=(by simpa using h1);exact⟨r,O,q.symm⟩
  have⟨x,hx,e⟩:=Q;refine⟨⟨_,FQ.2 ⟨x,by rw[g.1];exact hx,rfl⟩,by rw[jG];exact e⟩,?_⟩;have⟨q1,q2,_⟩:=u.inv.rgs x hx;have q3:x.ext=x.guards+x.pages+1:=rfl;have q4:x.base=(x.first+x.guards)*1024:=rfl;omega)
 have c1:=H (show q.row.length<=302/\q.rel.length<=302 by rw[g.2.1,g.2.2];have q1:=u.few.row;have q2:=u.few.rel;have q3:=u.kk;omega)
 have e6:Hid (1<=cf.large):=u.l1;clear G K j l;have g:V2.heap[L]?=some (.cells (oV r) 225):=by have⟨L',Y,_,n⟩:=P.lb r z.out;rw[c0.out]at Y;cases Y;exact n
 have l:V2.cell? (Qz L 0)=some (I r.st):=bJ g;have t:V2.cell? (Qz L 1)=some (I r.rq):=bJ g;have F:V2.frozen? (Qz L 0)=false:=by simp[QD,g]
 have G:V2.frozen? (Qz L 1)=false:=by simp[QD,g]
 refine(let_mvar%?R:=(V2.setCell (Qz L 0) (I 2)).setCell (Qz L 1) (I 0);?_);have j:(?R).heap[L]?=some (.cells (oV {r with st:=2,rq:=0}) 225):=by simp[World.setCell,FD,g,oV]
 have⟨u,A⟩:=P.setLg z w c0 2 0 (au (au (Q6 V2 L) 0 _) 1 _) j;have⟨H3,B3,c2⟩:=Qe u (B2.trans A) j;generalize r.st=q0 at l;generalize r.rq=q1 at t;clear g u A j;go_upto_region 2 with fail
 generalize ?R=R at*;clear l t F G;obtain⟨u,g⟩:∃u:Hs,u={q with rg:=?D}:=⟨_,rfl⟩;have e7:=H g;rw[<-g]at H3;have b5:=H (show Gd d2 u an by rw[g];exact⟨o.on,o.un,o.an⟩);have a5:=H (show u.row=q.row/\u.rel=q.rel/\u.rg=?D by rw[g];exact⟨rfl,rfl,rfl⟩);clear g;have BS:Hid (∀V,D R V->QA 159 #[J L 0] V λe g=>e=QJ (U r.base)/\g=V.drew):=(λV hV=>ie L {r with st:=2,rq:=0} V (e0 V 2 0 (by rw[hV.block _ (ag c2.out)];exact c2)));have⟨oa,oc,j⟩:=oz H3.ro;have K:=H j;refine(let_mvar%?A:=Qz y.P 116;?_);have a6:R.drew.cell? ?A=some (.slice oa u.row.length oc):=(H3.below (Fu _ R).drew).cell 116 Z _ j;have c3:R.drew.drew.cell? ?A=some (.slice oa u.row.length oc):=a6;have c5:(R.alloc (.cells #[U r.base] 24)).cell? ?A=some (.slice oa u.row.length oc):=(H3.below ((Fu _ R).alloc gi _)).cell 116 Z _ j;refine(let_mvar%?L:=Vl R.heap.size 1 1;let_mvar%?M:=u.row.length+1;let_mvar%?O:=R.drew.drew.alloc (.cells #[U r.base] 24);?_);have a7:=H (show∃v' M,QI 37 (.slice oa u.row.length oc) (?L) ?O v' M/\(Hp B y {d2 with ro:=v'} cf {u with row:=u.row++[r.base]} (M.setCell ?A v')/\Bi B R (M.setCell ?A v'))/\M.cell? ?A=some (.slice oa u.row.length oc)/\M.frozen? ?A=false/\∃a c,v'=.slice a ?M c by
  have bA:D R ?O:=ld.drew.alloc gi _;have T:=H3.below bA;have⟨v',M,Y,e2,e3,e4,l⟩:=Cy B _ (.slice oa u.row.length oc) u.row r.base R.heap.size 1 (by rw[<-j];exact T.ro) (cN (ao R.drew.drew _)) (by rw[a5.1];have:=c1.out;omega) T.bW;have N:=T.setRo e2 (by rw[j];exact e3) (λg hg O=>by
   rcases e4 with e4|e4;·rw[e4,<-j]at hg;exact T.rr g hg O
   rw[e4]at hg;cases hg;have⟨_,c,hc⟩:=aF T.rl O;have:=ag hc;omega)
  refine⟨v',M,Y,⟨N.1,(Bi.ofBelow bA H3.bW).trans N.2.1⟩,?_,N.2.2.2,l⟩;rw[N.2.2.1,j])
 obtain⟨v4,U4,A,⟨c6,e8⟩,c4,f4,a4,X,g6⟩:=a7.out;subst g6;clear j;go_cut [] (λw'=>w'=U4.setCell ?A (.slice a4 ?M X));case first=>
  refine rh (S:=λW9=>True) ?_;have l:=trivial;iterate 4 (refine py l ?_;simp[f0,f1,Nat.reduceAdd,lz,l0,ls])
  refine PX 5 l ?_;refine lZ [4,6] λi9 t=>?_;rcases(by simpa using t:i9=4\/i9=6)with t|t
  ·subst t;refine cw λK' j=>?_;go_simp;refine j _ _ ⟨trivial,?_⟩;clear j K';refine po 6 λK' j=>?_
   go_simp;refine(BS _ (Fu _ R).drew).mono ?_;rintro e o⟨rfl,rfl⟩;refine j _ _ ⟨trivial,?_⟩;clear j K';refine po 7 λK' j=>?_;go_simp;refine j _ _ ⟨trivial,?_⟩;clear j K';refine po 8 λK' j=>?_
   refine aV 37 (.tmp 16) (.tmp 19) (v:=.slice oa u.row.length oc) (v2:=?L) E E E E A ?_;refine j _ _ ⟨trivial,?_⟩;clear j K';(iterate 2 refine PX 9 l ?_);refine po 11 λK' j=>?_;go_simp;refine j _ _ ⟨trivial,?_⟩;clear j K';refine bY ?_;go_wp2_with fail
   go_meet;case rel=>rfl
  subst t;refine cw λK' j=>?_;go_simp;refine(BS _ (Fu _ R).drew).mono ?_;rintro e o⟨rfl,rfl⟩;refine j _ _ ⟨trivial,?_⟩;clear j K';refine lZ [4,7] λi9 t=>?_
  rcases(by simpa using t:i9=4\/i9=7)with t|t
  ·subst t;refine cw λK' j=>?_;go_simp;refine j _ _ ⟨trivial,?_⟩;clear j K';refine po 7 λK' j=>?_
   go_simp;refine j _ _ ⟨trivial,?_⟩;clear j K';refine po 8 λK' j=>?_;refine aV 37 (.tmp 16) (.tmp 19) (v:=.slice oa u.row.length oc) (v2:=?L) E E E E A ?_;refine j _ _ ⟨trivial,?_⟩;clear j K';(iterate 2 refine PX 9 l ?_);refine po 11 λK' j=>?_
   go_simp;refine j _ _ ⟨trivial,?_⟩;clear j K';refine bY ?_;go_wp2_with fail;go_meet;case rel=>rfl
  subst t;refine cw λK' j=>?_;go_simp;refine j _ _ ⟨trivial,?_⟩;clear j K';refine po 4 λK' j=>?_
  go_simp;refine j _ _ ⟨trivial,?_⟩;clear j K';refine po 8 λK' j=>?_;refine aV 37 (.tmp 16) (.tmp 19) (v:=.slice oa u.row.length oc) (v2:=?L) E E E E A ?_;refine j _ _ ⟨trivial,?_⟩;clear j K';(iterate 2 refine PX 9 l ?_);refine po 11 λK' j=>?_
  go_simp;refine j _ _ ⟨trivial,?_⟩;clear j K';refine bY ?_;go_wp2_with fail;go_meet;case rel=>rfl
 subst hcut;obtain⟨d4,F⟩:∃d4:Dy,d4={d2 with ro:=.slice a4 ?M X}:=⟨_,rfl⟩;obtain⟨o,z⟩:∃o:Hs,o={u with row:=u.row++[r.base]}:=⟨_,rfl⟩;rw[<-F,<-z]at c6;have⟨G,Q⟩:=y7 c6 (B3.trans e8);have a8:=H (show Gd d4 o an by rw[F,z];exact⟨b5.on,b5.un,b5.an⟩);have e9:=H (show d4.lg=d.lg by rw[F];exact g5);have K:=H (show d4.ro=.slice a4 o.row.length X by rw[F,z];simp);have w:=H (show o.row=q.row++[r.base]/\o.rel=q.rel/\o.rg=?D by rw[z];exact⟨by show u.row++_=_;rw[a5.1],a5.2.1,a5.2.2⟩);have b7:=H (show a1=if cf.large<o.row.length then {o with rg:=o.rg.filter λx=>x.base≠o.row[0]?.getD 0,rel:=o.rel++[o.row[0]?.getD 0],row:=o.row.tail}else o by rw[a3.out,w.1,w.2.1,w.2.2,z,e7.out])
 have P:u.row.length+1=o.row.length:=by rw[z];simp
 have g0:=H (show o.row.length<=303/\o.rel.length<=302 by rw[w.1,w.2.1];have:=c1.out;simp;omega);rw[<-w.2.2]at PW b4;rw[<-w.1]at b4;clear c6 e8 F z c4 f4 A a6 c3 c5 P;generalize U4.setCell ?A (.slice a4 ?M X)=V4 at*;have CK:=H (show V4.cell? ?A=some (.slice a4 o.row.length X)/\V4.cell? (Qz y.P 2)=some (I cf.large)from⟨G.cell 116 Z _ K,G.cell 2 Z _ rfl⟩);have⟨F,w⟩:=Qa o.row.length;rw[w]at CK K g0;have a2:=H w;clear w;go_upto_region 3 with fail
 refine rh (S:=λW9=>W9.cell? ?A=some (.slice a4 F X)/\W9.cell? (Qz y.P 2)=some (I cf.large)) ?_;have l:=CK.out;iterate 11 (refine py l ?_;simp only[f0,f1,Nat.reduceAdd,lz,l0,ls])
 refine bY ?_;have⟨H5,B5⟩:=y7 (G.below ld) (Q.add ld G.bW);clear l;by_cases g2:cf.large<F
 ·have g7:decide ((cf.large:Int)<(F:Int))=true:=bG;have HE:=H (show a1={o with rg:=o.rg.filter λx=>x.base≠o.row[0]?.getD 0,rel:=o.rel++[o.row[0]?.getD 0],row:=o.row.tail} by rw[b7.out,a2.out,GP g2]);have h0:2<=F:=(by have:=e6.out;omega);have⟨P,Q,k9,c9,_⟩:=wD H5.ro (by rw[a2.out];omega);rw[K.out]at c9;simp at c9;obtain⟨rfl,w,rfl⟩:=c9;clear w;generalize z:V4.drew=V5 at*;have w:({heap:=V4.heap,tape:=V4.tape,drawn:=V4.drawn+1,os:=V4.os,output:=V4.output}:QM)=V5:=z;rw[w];clear z w;obtain⟨z,n⟩:∃z:Nat,o.row[0]?.getD 0=z:=⟨_,rfl⟩;rw[n]at HE;refine(let_mvar%?K:=some (U z);let_mvar%?N:=Qz P Q;?_);have UM:Hid (∀(V:QM)d9 h9,Hp B y d9 cf h9 V->d9.ro=d4.ro->h9.row=o.row->F<=X/\Um B V (.slice (some (Qz P (Q+1))) (F-1) (X-1)) o.row.tail/\V.cell? ?N=?K):=(λV d9 h9 hV Y e2=>by have w:=hV.ro;rw[Y,e2,K.out]at w;have⟨_,G,t2,t3⟩:=oN w (by rw[a2.out];omega);rw[n]at t3;exact⟨G,t2,t3⟩)
  have b8:=H (b4 z (by rw[<-n];have h1:0<o.row.length:=(by rw[a2.out];omega);rw[Fy h1];exact Iw h1))
  clear n b4;refine(let_mvar%?B:=some ?N;let_mvar%?H:=Qz y.P 115;let_mvar%?J:=some y.R;?_);have CK:Hid (∀(V:QM)d9 h9,Hp B y d9 cf h9 V->d9.ro=d4.ro->h9.row=o.row->V.cell? ?H=some (.map ?J)/\V.cell? ?A=some (.slice ?B F X)/\V.cell? ?N=?K):=(λV d9 h9 hV Y e2=>⟨hV.cell 115 Z _ rfl,hV.cell 116 Z _ (by show d9.ro=_;rw[Y];exact K),(UM V d9 h9 hV Y e2).2.2⟩);have a0:=H (H5.below (Fu _ V5).drew);have h5:(0:Int)<(F:Int):=Z;have h7:0<F:=Z;have h8:¬(F=0):=Z;(go_upto_region 4 with fail);refine rh (S:=λW9=>W9.cell? ?H=some (.map ?J)/\W9.cell? ?A=some (.slice ?B F X)/\W9.cell? ?N=?K) ?_;have l:=CK.out _ _ _ a0 rfl rfl;(iterate 10 (refine py l ?_;simp[f0,f1,Nat.reduceAdd,lz,l0,ls]));refine po 10 λK' j=>?_;have⟨G,b9,d0,d1⟩:=a0.mp.del z b8.2 0;have k6:=iC d1 a0.mp.typ;refine qi 90 24 (.tmp 37) (.tmp 43) E (vm:=.map ?J) (vx:=U z) E E E b9 ?_;refine j _ _ ⟨⟨k6.cellK l.1,k6.cellK l.2.1,k6.cellK l.2.2⟩,?_⟩;clear j K';refine bY ?_;have d3:(d4.lg z).isSome=true:=by rw[a0.lo z];have⟨x,hx,e⟩:=b8.1;exact List.any_eq_true.2 ⟨x,hx,by simp[e]⟩
  rw[GP d3]at d0;have⟨d5,b6⟩:=a0.cutR z d3 b8.1 d0 d1 (zw PW z);obtain⟨d6,a9⟩:∃d6:Dy,d6={d4 with lg:=upd d4.lg z none}:=⟨_,rfl⟩;obtain⟨h6,b2⟩:∃h6:Hs,h6={o with rg:=o.rg.filter λx=>x.base≠z}:=⟨_,rfl⟩;rw[<-a9,<-b2]at d5;have⟨H6,B6,g8⟩:=Qe d5 ((B5.add ld H5.bW).trans b6) (show d6.lg=upd d.lg z none by rw[a9,e9.out]);have w:=H (show d6.ro=d4.ro/\h6.row=o.row/\h6.rel=o.rel by rw[a9,b2];exact⟨rfl,rfl,rfl⟩);have d7:=H (show Gd d6 h6 an by rw[a9,b2];exact⟨a8.on,a8.un,a8.an⟩);have g9:=H (show a1={h6 with rel:=h6.rel++[z],row:=h6.row.tail} by rw[HE.out,b2]);clear b9 d0 d1 k6 d5 b6 a9 b2 l d3;have⟨ra,rn,rc,a0⟩:=aA H6.rl;have d0:=H a0;refine(let_mvar%?C:=Qz y.P 117;?_);have b2:G.drew.cell? ?C=some (.slice ra rn rc):=(H6.below (Fu _ G).drew).cell 117 Z _ a0;refine(let_mvar%?E:=G.alloc (.cells #[U z] 24);?_);have b8:(?E).cell? ?C=some (.slice ra rn rc):=(H6.below ((Fu _ G).alloc gi _)).cell 117 Z _ a0;have SA:=H (show(G.drew.cell? ?H=some (.map ?J)/\G.drew.cell? ?A=some (.slice ?B F X)/\G.drew.cell? ?N=?K)/\((?E).drew.cell? ?H=some (.map ?J)/\(?E).drew.cell? ?A=some (.slice ?B F X)/\(?E).drew.cell? ?N=?K)from⟨CK _ _ _ (H6.below (Fu _ G).drew) w.1 w.2.1,CK _ _ _ (H6.below ((Fu _ G).alloc gi _).drew) w.1 w.2.1⟩);refine(let_mvar%?I:=G.drew.alloc (.cells #[U z] 24);let_mvar%?S:=Vl G.heap.size 1 1;?_);have a7:=H (show∃v' M,QI 37 (.slice ra rn rc) (?S) ?I v' M/\(Hp B y {d6 with rl:=v'} cf {h6 with rel:=h6.rel++[z]} (M.setCell ?C v')/\Bi B G (M.setCell ?C v'))/\M.cell? ?C=some (.slice ra rn rc)/\M.frozen? ?C=false/\(M.cell? ?H=some (.map ?J)/\M.cell? ?A=some (.slice ?B F X)/\M.cell? ?N=?K)/\∃a n c,v'=.slice a n c by
   have bA:D G ?I:=ld.alloc gi _;have T:=H6.below bA;have⟨v',M,Y,e2,e3,e4⟩:=nK B (.slice ra rn rc) h6.rel z G.heap.size 1 (by rw[<-a0];exact T.rl) (cN (ao G.drew _)) (by rw[w.2.2];have:=g0.out;omega) T.bW;have b9:(?I).grownBy M d6.rl.ownBlock:=(by rw[a0];exact e3);have N:=T.setRl e2 b9 (λg hg O=>by
    rcases e4 with e4|e4;·rw[e4,<-a0]at O;exact T.rr g hg O
    rw[e4]at O;cases O;have⟨_,c,hc⟩:=lS T.ro hg;have:=ag hc;omega)
   have bx:=T.box.ky (T.gw (λg hg=>aF T.rl hg) b9).k ar;have um:=T.ro.kept b9 (λi a=>T.rr i a);have a9:d6.ro=.slice ?B F X:=(by rw[w.1];exact K.out);rw[a9,w.2.1]at um;have t3:=(oN um (by rw[a2.out];omega)).2.2.2;have u4:=(oN (show Um B _ (.slice ?B F X) o.row by rw[<-a9,<-w.2.1];exact T.ro) (by rw[a2.out];omega)).2.2.2;rw[(UM _ _ _ T w.1 w.2.1).2.2]at u4;rw[<-u4]at t3;refine⟨v',M,Y,⟨N.1,(Bi.ofBelow bA H6.bW).trans N.2.1⟩,by rw[N.2.2.1,a0],N.2.2.2,⟨bx.cell 115 Z,?_,t3⟩,aA e2⟩;rw[bx.cell 116 Z];show some d6.ro=_;rw[a9])
  obtain⟨v7,U7,A,⟨a9,b9⟩,c7,f7,q7,wa,wn,wk,d3⟩:=a7.out;subst d3;have q8:=CK.out _ _ _ a9 w.1 w.2.1;clear a0;(go_upto_region 5 with fail);go_cut [] (λw'=>w'=U7.setCell ?C (.slice wa wn wk));case first=>
   refine rh (S:=λW9=>W9.cell? ?H=some (.map ?J)/\W9.cell? ?A=some (.slice ?B F X)/\W9.cell? ?N=?K) ?_;have l:=SA.1;(iterate 4 (refine py l ?_;simp[f0,f1,Nat.reduceAdd,lz,l0,ls]));(iterate 6 refine PX 5 l ?_);refine lZ [4,11] λi9 t=>?_;rcases(by simpa using t:i9=4\/i9=11)with t|t
   ·subst t;refine cw λK' j=>?_;go_simp;refine j _ _ ⟨l,?_⟩;clear j K';refine po 11 λK' j=>?_
    go_simp;refine j _ _ ⟨SA.2,?_⟩;clear l;have l:=SA.2;clear j K';refine po 12 λK' j=>?_;refine aV 37 (.tmp 48) (.tmp 55) (v:=.slice ra rn rc) (v2:=?S) E E E E A ?_;refine j _ _ ⟨q7,?_⟩;clear j K' l;have l:=q7;(iterate 2 refine PX 13 l ?_);refine po 15 λK' j=>?_
    go_simp;refine j _ _ ⟨q8,?_⟩;clear j K';refine bY ?_;go_wp2_with fail;go_meet;case rel=>rfl
   subst t;refine cw λK' j=>?_;go_simp;refine j _ _ ⟨SA.2,?_⟩;clear l;have l:=SA.2;clear j K';refine po 4 λK' j=>?_
   go_simp;refine j _ _ ⟨l,?_⟩;clear j K';refine po 12 λK' j=>?_;refine aV 37 (.tmp 48) (.tmp 55) (v:=.slice ra rn rc) (v2:=?S) E E E E A ?_;refine j _ _ ⟨q7,?_⟩;clear j K' l;have l:=q7;(iterate 2 refine PX 13 l ?_);refine po 15 λK' j=>?_
   go_simp;refine j _ _ ⟨q8,?_⟩;clear j K';refine bY ?_;go_wp2_with fail;go_meet;case rel=>rfl
  case rest=>
   subst hcut;have a0:=H (UM _ _ _ a9 w.1 w.2.1);have⟨d0,d1,c8,f8⟩:=a9.setRo (a0.2.1) ⟨rfl,rfl,rfl,gi,λ_ _ _=>rfl⟩ (λg hg O=>a9.rr g (by rw[show({d6 with rl:=Value.slice wa wn wk}:Dy).ro=d4.ro from w.1,K.out];exact hg) O);have⟨H8,B8⟩:=y7 d0 ((B6.trans b9).trans d1);have d5:=a0.1;have cc:(U7.setCell ?C (.slice wa wn wk)).cell? ?A=some (.slice ?B F X):=q8.2.1;generalize U7.setCell ?C (.slice wa wn wk)=V7 at*;clear a9 b9 d0 d1 c8 c7 q7 q8 A b2 b8;go_wp2;go_end0;rw[g9.out,w.2.1];refine⟨rfl,⟨_,H8,?_,λb g h1 q=>?_⟩,B8⟩
   rotate_left
   ·have u:(d6.lg b).isSome=true:=q;rw[g8.out]at u⊢;by_cases e:b=z;·subst e;rw[upd_same]at u;cases u
    rw[aI _ _ _ _ e];exact h1
   exact⟨λc s hc hs=>d7.on c s hc hs,d7.un,d7.an⟩
 have g7:decide ((cf.large:Int)<(F:Int))=false:=bG;have HE:=H (show a1=o by rw[b7.out,a2.out,GO g2]);go_wp2;go_end0;rw[HE.out];exact⟨rfl,⟨d4,H5,a8,Klg.ofEq e9⟩,B5⟩
section
variable {B M P R S c cap dc g k r s w:Nat}{sm:Nat->Nat}{v:Value}{V W W':World}{da:Option Addr}{cf:Cf}
def yy(m:Nat)(lim){w:QM}(b:m<=16):
  Calls prog 51 #[I m,I lim] w λe i=>∃g,e=QJ (.agg #[Vl g m m,C,I lim])/\RowV i g 3 (Ns .i64 (List.replicate m (-1)))/\w.heap.size<=g/\D w i:=by
 let j:=H (λW q(hr:RowV W q 3 (Ns .i64 [-1]))=>vB q m W b hr);let a:=lF w (.cells #[C,C,I 0] 123) (.cells #[I (-1)] 3);let⟨c,k,l⟩:=Qe (show RowV ((w.alloc (.cells #[C,C,I 0] 123)).alloc (.cells #[I (-1)] 3)) (w.heap.size+1) 3 (Ns .i64 [-1])from rowOf a.2.1) a.1 a.2.2;go_in;go_wp2_with fail;apply (j _ _ c).mono;rintro e b⟨g,rfl,n,d,f⟩;let a:=ae k f;let q:=H n;let o:=H (show w.heap.size+1<g by have:=c.lt;omega);let r:=H (az l f);refine(let_mvar%?A:=Qz w.heap.size;?_);let d:b.cell? (?A 0)=some (C):=bJ a;let f:b.cell? (?A 1)=some (C):=bJ a;let j:b.cell? (?A 2)=some (I 0):=bJ a;let f0:b.frozen? (?A 0)=false:=ah a;let f1:b.frozen? (?A 1)=false:=ah a;let f2:b.frozen? (?A 2)=false:=ah a;let c:=H a;go_wp2;apply GX (Gq dU _ _ w.heap.size 123 _ (0,0) _ dU (set3 c) underlying123 rfl E) dU;refine⟨g,rfl,((q.other (p:=(Qz _ _)) ?_ _).other (p:=(Qz _ _)) ?_ _).other (p:=(Qz _ _)) ?_ _,by have:=o.out;omega,((r.setCell (p:=(Qz _ _)) gi _).setCell (p:=(Qz _ _)) gi _).setCell (p:=(Qz _ _)) gi _⟩
 all_goals(have:=o.out;dsimp only;omega)
def AL(g)(w:QM):(Instr.typeAssert (.iface 210 (J g 0)) 130 210 true).run prog w=.ok (.tuple #[J g 0,.bool true]) w:=E
def Cw{a:Nat}(e:c<12):(co (a:Int)==(c:Int))=decide (a<=1016/\fD a=c):=by
 by_cases h:a<=1016
 .let⟨d,_⟩:=zO h;rw[d];by_cases b:fD a=c;.simp[h,b]
  have:((fD a:Int)==(c:Int))=false:=bG;rw[this];simp[b]
 rw[show co (a:Int) = -1 from iX _ Z 12 0];have:((-1:Int)==(c:Int))=false:=bH;rw[this];simp[h]
def om(g b c s j)(a:Nat)(W)(h:Sc g b c s j W):
  Calls prog 107 #[.iface 199 (J g 0),U a] W λe W'=>e=QJ (.bool (decide (a<=1016/\fD a=c)))/\D W W':=by
 let⟨f,i⟩:=y7 (λV(d:D W V)=>lB (a:Nat) Z V (h.below d).tb) (Cw (a:=a) h.hc);let n:=λw=>BJ g w
 let⟨k,_,l,_,_,_,_,_⟩:=h;generalize d:decide (a<=1016/\fD a=c)=bb at*;clear d;generalize co (a:Int)=x at*;go_in;go_upto_region 4 with fail
 refine rh (S:=λd=>QG d g 2 (J b 0)/\QG d b 0 (I c)) ?_;let d:=(⟨k,l⟩:QG W.drew g 2 (J b 0)/\QG W.drew b 0 (I c));apply py d;simp only[f0,f1,Nat.reduceAdd,lz,l0,ls];(iterate 7 apply PX 2 d);refine po 1 λK' m=>?_;go_simp;apply(f _ ld).mono;rintro e o⟨rfl,rfl⟩;refine m _ _ ⟨d,?_⟩;clear m K'
 iterate 2 (apply py d;simp only[f0,f1,Nat.reduceAdd,lz,l0,ls])
 refine bY ?_;rw[i];clear d k l;go_wp2;go_ret;exact⟨rfl,ld⟩
def nU(g)(a:Nat)(r W)(h:Lc g r W)(ha:a<18446744073709551616):
  QA 107 #[.iface 210 (J g 0),U a] W λe W'=>e=QJ (.bool (decide (1016<a/\aR a=r.pages)))/\D W W':=by
 have f:=H (λV=>km a V ha);have o:=λw=>CY g w
 have n:=λw=>AL g w
 have d:=h.c4;clear h;by_cases l:1016<a
 ·refine(let_mvar%?A:=(((aR a:Nat):Int)==((r.pages:Nat):Int));let_mvar%?C:=1016<a/\aR a=r.pages;?_);have c:=H (show decide ?C=?A by
   by_cases e:aR a=r.pages;·simp[l,e]
   have:?A=false:=bG;rw[this];simp[e])
  have i:decide ((1016:Int)<(a:Int))=true:=bG;generalize decide ?C=p at*;generalize aR a=j at*;generalize r.pages=rp at*;go_enter func107,ntmps107;go_upto_region 7 with fail
  refine rh (S:=λk=>QG k g 4 (I rp)) ?_;have b:=(d:QG W.drew g 4 (I rp));apply PX 0 b;refine pz 1 Ql b ?_;refine pk 2 Ql b ?_;apply PX 3 b;(iterate 4 refine PX 5 b ?_);refine po 4 λK' m=>?_;go_simp;apply(f _).mono;rintro e q⟨rfl,rfl⟩;refine m _ _ ⟨b,?_⟩;clear m K';refine(let_mvar%?B:=((j:Int)==(rp:Int));?_);refine pk 9 (.bool ?B) b ?_;refine pk 10 (.bool ?B) b ?_;refine pk 11 (.bool ?B) b ?_;refine bY ?_;rw[<-c.out];clear b d;go_wp2;go_ret;exact⟨rfl,ld⟩
 have c:=H (show decide (1016<a/\aR a=r.pages)=false by simp[l]);rw[c];have i:decide ((1016:Int)<(a:Int))=false:=bG;generalize r.pages=rp at*;go_enter func107,ntmps107;go_upto_region 7 with fail
 refine rh (S:=λk=>QG k g 4 (I rp)) ?_;have b:=(d:QG W.drew g 4 (I rp));apply PX 0 b;refine pz 1 Qk b ?_;refine pk 2 Qk b ?_;(iterate 7 refine PX 3 b ?_);refine pk 10 Qk b ?_;refine pk 11 Qk b ?_;refine bY ?_;clear b d;go_wp2;go_ret;exact⟨rfl,ld⟩
def zi(w:QM):(binOp .eql 20 .nilIface .nilIface).run prog w=.ok Ql w:=E
def As(c)(w:QM):(binOp .eql 20 (.iface 127 (.agg #[I c])) .nilIface).run prog w=.ok Qk w:=E
def Bq(c)(w:QM):(Instr.typeAssert (.iface 127 (.agg #[I c])) 20 127 true).run prog w=.ok (.tuple #[.agg #[I c],.bool true]) w:=E
def Ar{X2 X4}(W:QM):
  CallsD prog 53 #[J X2 0,J X4 0] .returning W λe a W'=>e=QJ (.tuple #[])/\a=.returning/\W'=W:=by
 refine callsD_of_wpS func53 rfl λb f c=>?_;apply wpS_seq;apply wpS_region;simp[wpOpsS,go_sem,recoverD,c,ntmps53,Exit.thenS];apply wpS_of_wp;go_wp2
 cases b
 simp_all [bodyPostS,results,Tryz.results53]
def Fp(B:Nat)(y:Ly)(cf:Cf)(h:Hs)(an:Value)(j:Nat)(code:Int)(W:World)(e:Ending)(l:FrameMode)(W':World):Prop:=e=.returned (.tuple #[])/\l=.panicking [{v:=.iface 127 (.agg #[I code]),recovered:=true}]/\∃V i,D W V/\Hg B y cf h an i/\Bi B V i/\W'=i.setRow j #[I code,U 0,I 0,C]
def xT(B)(y:Ly)(cf h an)(f b:Nat)(code)(W:QM)(e:QG W f 0 (J y.P 0))(g:W.heap[b]?=some (.cells #[I 0,U 0,I 0,C] 94))(i:Tk B y cf h an W):
  CallsD prog 53 #[J f 0,J b 0] (.panicking (ip code)) W (Fp B y cf h an b code W):=by
 let o:=As code;let p:=Bq code;let a:D W (W.alloc (.cells #[I code] 127)):=ph;let c:=NI a e;let⟨j,d,m⟩:=Qe (i _ a) (ae g a) a;let k:=ao W (.cells #[I code] 127);refine callsD_of_wpS func53 rfl λq r g=>?_;unfold ip at g;apply wpS_seq;apply wpS_region;simp[wpOpsS,go_sem,recoverD,g,ntmps53,Exit.thenS];simp only[FP,FO,FY,FV,F5,Iv,Fw,FA,FB];apply wpS_of_wp;go_wp2_with fail;apply (j).mono;rintro e V⟨rfl,i,a⟩;let n:=H (a.ky.XC d (by unfold hI;decide));let s:=cN (a.ky.XC k (by unfold hI;decide));let l:=H (IT i a);go_wp2_with (apply eG n);refine⟨rfl,_,rfl,.tuple #[],by simp[results,Tryz.results53],rfl,rfl,_,V,m,l.1,l.2,rfl⟩
def Dw(sm:Nat->Nat)(n:Nat):List Value:=(List.range n).map λj=>J (sm j) 0
def w_(sm:Nat->Nat)(n x:Nat):Dw (λk=>if k=n then x else sm k) (n+1)=Dw sm n++[J x 0]:=by
 unfold Dw;rw[Gs,Hr];congr 1
 .refine List.map_congr_left λk a=>?_;have:=Gh.1 a;let e:¬k=n:=Z
  simp[e]
 simp
structure Sl9(B g c s n:Nat)(sm:Nat->Nat)(v:QN)(W:QM):Prop where
 box:W.heap[g]?=some (.cells #[I c,I s,.bool false,v] 198)
 row:W.ownsRow B 199 1 v n (Dw sm n)
 sms:∀j,j<n->W.heap[sm j]?=some (.cells (Oe 0 0 g j) 203)/\B<=sm j
 inj:∀i j,i<n->j<n->sm i=sm j->i=j
 bg:B<=g
def Sl9.ky{S n}(h:Sl9 B g c s n sm v W)(k:Ky S W W')(b:¬S 198)(d:¬S 199)(e:¬S 203):Sl9 B g c s n sm v W':=
 ⟨k.XC h.box b,ai h.row k d,λj a=>⟨k.XC (h.sms j a).1 e,(h.sms j a).2⟩,h.inj,h.bg⟩
def Sl9.below{B g c s n sm v W W'}(h:Sl9 B g c s n sm v W)(b:D W W'):Sl9 B g c s n sm v W':=
 h.ky (Ky.below b:Ky (λ_=>False) W W') (λe=>e) (λe=>e) (λe=>e)
def Sl9.add{n}(h:Sl9 B g c s n sm v V)(t:B<=V.heap.size)(hn:n<=100):
  ∃f a,QI 196 v (Vl (V.heap.size+1) 1 1) ((V.alloc (.cells (Oe 0 0 g n) 203)).alloc (.cells #[J V.heap.size 0] 199)) f a/\a.cell? (Qz g 3)=some v/\a.frozen? (Qz g 3)=false/\Sl9 B g c s (n+1) (λk=>if k=n then V.heap.size else sm k) f (a.setCell (Qz g 3) f)/\Below B V (a.setCell (Qz g 3) f):=by
 let⟨Q,z,A,F,G⟩:=G0 ul;let⟨m,b⟩:=Qb (V.alloc (.cells (Oe 0 0 g n) 203));let⟨l,o⟩:=Qb (m.alloc (.cells #[J V.heap.size 0] 199));let R:m.heap.size=V.heap.size+1:=by rw[b];exact aO _ _
 let w:D V m:=by rw[b];exact ph
 let x:D m l:=by rw[o];exact ph
 let S:m.heap[V.heap.size]?=some (.cells (Oe 0 0 g n) 203):=by rw[b];exact XD
 let T:l.heap[V.heap.size]?=some (.cells (Oe 0 0 g n) 203):=ae S x;let W:l.heap[V.heap.size+1]?=some (.cells #[J V.heap.size 0] 199):=by rw[o,<-R];exact XD
 let p:=(h.below w).below x;let q:B<=l.heap.size:=Fx (Fx t w.size) x.size;rw[<-b,<-o];let⟨f,a,X,Y,O,_⟩:=Ia (P:=prog) l B 196 196 199 Q (.pointer none) 1 8 underlying196 z A F G rfl Z v n (Dw sm n) p.row ⟨V.heap.size+1,0,none⟩ 1 1 [J V.heap.size 0] rfl (λj u r=>by
  cases j with
  |zero=>simp at r;subst r;rw[Addr.add_mid];exact cN W
  |succ j=>simp at r) (λu b=>by simp at b;subst b;rfl) (by unfold maxLen;omega) Z q
 let K:Ky (· =199) l a:=Ky.grownO (λP L=>by obtain⟨_,c,d⟩:=aF p.row L;exact⟨c,199,_,d,rfl⟩) O;let d:=K.XC p.box;let M:Ky (· =198) a (a.setCell (Qz g 3) f):=Ky.grown d rfl (au (Q6 a g) 3 f);refine⟨f,a,X,by simp[QC,d],by simp[QD,d],⟨by simp[World.setCell,FD,d],?_,λj r=>?_,λi j hi r e=>?_,h.bg⟩,?_⟩;.rw[w_];exact ai Y M
 .by_cases e:j=n;.rw[GP e,e];exact⟨M.XC (K.XC T ar),t⟩
  rw[GO e];have:=p.sms j Z;exact⟨M.XC (K.XC this.1 ar),this.2⟩
 .by_cases N:i=n
  .by_cases y:j=n;.omega
   rw[GP N,GO y]at e;have:=ag (h.sms j Z).1;omega
  by_cases y:j=n;.rw[GO N,GP y]at e;have:=ag (h.sms i Z).1;omega
  rw[GO N,GO y]at e;exact h.inj i j Z Z e
 exact(((w.mono t).trans (x.mono (Fx t w.size))).grown O q (λP L=>(aF p.row L).1)).setCell h.bg _
structure Slb(B:Nat)(W:QM)(c s g r cap:Nat)(sm:Nat->Nat):Prop where
 box:W.heap[g]?=some (.cells (CZ c s false r (aM c) cap) 198)
 row:RowV W r 199 ((List.range (aM c)).map λj=>J (sm j) 0)
 sms:∀j,j<aM c->W.heap[sm j]?=some (.cells (Oe 0 0 g j) 203)/\B<=sm j
 inj:∀i j,i<aM c->j<aM c->sm i=sm j->i=j
 bg:B<=g
 br:B<=r
def Sl9.done(h:Sl9 B g c s (aM c) sm v W)(a:c<12):∃r cap,Slb B W c s g r cap sm:=by
 let e:=aX a;rcases h.row.2 with⟨_,f⟩|⟨r,cap,b,rfl,d,i,j,k,l,m⟩;.omega
 exact⟨r,cap,h.box,RowV.ofOwns h.row,h.sms,h.inj,h.bg,d⟩
def tf(c s:Nat)(d:c<12){W}(a:Tb W):
  Calls prog 52 #[I c,I s] W λe W'=>∃g r cap sm,e=QJ (J g 0)/\Slb W.heap.size W' c s g r cap sm/\D W W':=by
 have m:=aX d;have b:=H (λV(f:D W V)=>gK (c:Nat) V (a.ofBelow f));rw[vA d]at b;have q:=H (λB g sm v V(h:Sl9 B g c s (aM c) sm v V)=>h.done d);refine(let_mvar%?A:=W.alloc (.cells #[I c,I s,.bool false,C] 198);let_mvar%?B:=Sl9 W.heap.size;?_);have l:=H (show ?B W.heap.size c s 0 (λ_=>0) (C) (?A)from⟨ao W _,⟨rfl,.inl ⟨rfl,rfl⟩⟩,λj d=>Z,λi j d=>Z,gi⟩);have j:D W (?A):=ph;have f:=H j;clear j a;have t:aM c<=64:=Z;generalize aM c=n at*;clear m;go_in;go_wp2_with fail;apply (b _ f).mono;rintro e V⟨rfl,a⟩;rw[a];clear a V b;generalize ?A=u at*;have⟨g,a⟩:=Qb W.heap.size;rw[<-a];have m:=H (show ?B g c s 0 (λ_=>0) (C) u by rw[a];exact l);clear l a;go_wp2;go_loopw [13] (λi wr=>∃(k:Nat)(sm:Nat->Nat)(v:QN),k<=n/\i=I k/\Hid (?B g c s k sm v wr)/\Hid (D W wr)) (λi _=>n-(intOf i).toNat);exact⟨0,_,_,aa,rfl,m,f⟩
 clear m f;obtain⟨k,sm,v,F,rfl,b,j⟩:=hrel;by_cases w:k<n
 .obtain⟨x,y,z,rfl⟩:=aA b.row;have⟨G,K,a,L,f3,l,o⟩:=b.add j.size Z;obtain⟨M,N,wc,rfl⟩:=aA l.row;have p:=H (IT l (j.trans o));have A:wr.cell? (Qz g 3)=some (.slice x y z):=(by simp[QC,b.box]);clear l o;unfold Oe at a;go_wp2_with (at_builtin;refine up a ?_);go_wp2;go_roundw;(exact⟨k+1,_,_,Z,aY,H p.1,H p.2⟩);exact QE
 obtain rfl:k=n:=Z;go_wp2;go_ret;let⟨r,cap,a⟩:=q.out _ _ _ _ _ b;exact⟨g,r,cap,sm,rfl,a,j⟩
structure D2 where
 g:Nat
 r:Nat
 cap:Nat
 sm:Nat->Nat
structure Do where
 m:Nat
 r:Nat
 g:Nat
 q:Nat
def Eo(mix:Nat)(q:Do)(k:Nat):Value:=if k=0 then J q.m 0 else if k=1 then J q.g 0 else if mix=0 then .iface 84 (J q.g 0)else .iface 83 (J q.m 0)
def nw(cf:Cf)(da:Option Addr)(dc S R:Nat)(fl:Nat->D2)(e:Nat->Do)(k w:Nat)(i:Nat):Value:=
 if i<7 then([I cf.mix,I cf.fifo,I cf.large,I cf.bud,U cf.key,.slice da cf.ds.length dc,J S 0]:List Value)[i]?.getD undef
 else if i<79 then(if i-7<k then J ((fl (i-7)).g) 0 else .pointer none)
 else if i<115 then(if(i-79)/3<w then Eo cf.mix (e ((i-79)/3)) ((i-79)%3)else if(i-79)%3=2 then .nilIface else .pointer none)
 else([.map (some R),C,C,I 0,C,.nilFunc]:List Value)[i-115]?.getD undef
structure Nh(B P S M R:Nat)(da:QP)(dc:Nat)(cf:Cf)(fl:Nat->D2)(qs:Nat->Do)(k w:Nat)(W:QM):Prop where
 box:Bxh P (nw cf da dc S R fl qs k w) W
 bW:B<=W.heap.size
 ds:Sl W da cf.ds
 dab:∀a,da=some a->a.block<B
 sp:Im S M 0 283 (cf.bud:Nat) (λ_=>none) W
 mp:Mr R 0 (λ_=>none) W
 bP:B<=P
 bS:B<=S
 bM:B<=M
 bR:B<=R
 mr:M≠R
 sl:∀i,i<k->Slb B W (i/6) (i%6) (fl i).g (fl i).r (fl i).cap (fl i).sm
 is:∀i j,i<k->j<k->i≠j->(fl i).g≠(fl j).g/\∀a b,a<aM (i/6)->b<aM (j/6)->(fl i).sm a≠(fl j).sm b
 wt:∀c,c<w->Qr W (qs c).m (qs c).r (qs c).g (qs c).q cf.fifo (List.replicate cf.mix (-1)) []/\B<=(qs c).m/\B<=(qs c).r/\B<=(qs c).g/\B<=(qs c).q
 iq:∀c c',c<w->c'<w->c≠c'->(qs c).r≠(qs c').r/\(qs c).r≠(qs c').q/\(qs c).q≠(qs c').q/\(qs c).g≠(qs c').g
 tb:Tb W
 b0:2<B
def Slb.ky{S}(h:Slb B W c s g r cap sm)(k:Ky S W W')(b:¬S 198)(d:¬S 199)(e:¬S 203):Slb B W' c s g r cap sm:=
 ⟨k.XC h.box b,cL h.row k d,λj a=>⟨k.XC (h.sms j a).1 e,(h.sms j a).2⟩,h.inj,h.bg,h.br⟩
def Slb.mono{b:Nat}(h:Slb B W c s g r cap sm)(a:b<=B):Slb b W c s g r cap sm:=
 ⟨h.box,h.row,λj d=>⟨(h.sms j d).1,Fx a (h.sms j d).2⟩,h.inj,Fx a h.bg,Fx a h.br⟩
def Nh.below{B P S M R da dc cf fl qs k w W W'}(h:Nh B P S M R da dc cf fl qs k w W)(b:D W W'):Nh B P S M R da dc cf fl qs k w W':=by let a:Ky (λ_=>False) W W':=Ky.below b;let⟨j,c,f⟩:=h.mp.typ;exact⟨h.box.ky a (λe=>e),Fx h.bW b.size,h.ds.below b,h.dab,h.sp.ky a (λe=>e) (b.block _ h.sp.lt.2),h.mp.same (b.block _ (ag f)),h.bP,h.bS,h.bM,h.bR,h.mr,λi g=>(h.sl i g).ky a (λe=>e) (λe=>e) (λe=>e),h.is,λc d=>⟨(h.wt c d).1.ky a (λe=>e) (λe=>e) (λe=>e),(h.wt c d).2⟩,h.iq,h.tb.ofBelow b,h.b0⟩
def Nh.setP{fl qs}(h:Nh B P S M R da dc cf fl qs k w W)(j:Nat)(v:QN):Ky (· =92) W (W.setCell (Qz P j) v)/\Below B W (W.setCell (Qz P j) v)/\(W.setCell (Qz P j) v).heap[M]?=W.heap[M]?/\(W.setCell (Qz P j) v).heap[R]?=W.heap[R]?:=by
 let f:M≠P:=λe=>by let⟨c,d,_⟩:=h.box;obtain⟨a,⟨g,i,b,_⟩,_⟩:=h.sp.map;rw[e,d]at b;cases b
 let a:R≠P:=λe=>by let⟨c,d,_⟩:=h.box;let⟨g,i,b⟩:=h.mp.typ;rw[e,d]at b;cases b
 exact⟨h.box.kyS j v,(Fu B W).setCell h.bP _,XB f,XB a⟩
def Nh.addS{fl qs}(h:Nh B P S M R da dc cf fl qs k w V)(b:D V W)(f:Slb V.heap.size W (k/6) (k%6) g r cap sm)(K:k<72):
  Nh B P S M R da dc cf (λi=>if i=k then⟨g,r,cap,sm⟩else fl i) qs (k+1) w (W.setCell (Qz P (7+k)) (J g 0)):=by
 let d:=h.below b;let⟨n,q,x,y⟩:=d.setP (7+k) (J g 0);let z:=h.bW;let u:=d.box.set (7+k) Z (J g 0);let A:kK (nw cf da dc S R fl qs k w) (7+k) (J g 0)=nw cf da dc S R (λi=>if i=k then⟨g,r,cap,sm⟩else fl i) qs (k+1) w:=by
  funext i;unfold kK nw;by_cases e:i=7+k;.subst e;rw[GP rfl,GO Z,GP Z,GP Z];simp
  rw[GO e];by_cases l:i<7;.rw[GP l,GP l]
  rw[GO l,GO l];by_cases a:i<79
  .rw[GP a,GP a];by_cases j:i-7<k;.rw[GP j,GP Z];simp[show¬(i-7=k) by omega]
   rw[GO j,GO Z]
  rw[GO a,GO a]
 rw[A]at u;refine⟨u,Fx d.bW q.size,d.ds.belowB q h.dab,h.dab,d.sp.ky n ar x,d.mp.same y,h.bP,h.bS,h.bM,h.bR,h.mr,λi o=>?_,λi j o L s=>?_,λc v=>⟨(d.wt c v).1.ky n ar ar ar,(d.wt c v).2⟩,h.iq,d.tb.belowB q h.b0,h.b0⟩
 .by_cases e:i=k;.subst e;simp only[GP];exact(f.mono z).ky n ar ar ar
  simp only[GO e];exact(d.sl i Z).ky n ar ar ar
 let l:∀i,i<k->(fl i).g<V.heap.size/\∀a,a<aM (i/6)->(fl i).sm a<V.heap.size:=λi o=>⟨ag (h.sl i o).box,λa ha=>ag ((h.sl i o).sms a ha).1⟩
 by_cases p:i=k
 .let m:¬j=k:=Z;have:=l j Z;simp only[GP p,GO m];refine⟨by have:=f.bg;omega,λa b ha t=>?_⟩;let F:=(f.sms a (by rwa[<-p])).2;let G:=this.2 b t;omega
 by_cases m:j=k;.have:=l i Z;simp only[GO p,GP m];refine⟨by have:=f.bg;omega,λa b ha t=>?_⟩;let F:=(f.sms b (by rwa[<-m])).2;let G:=this.2 a ha;omega
 simp only[GO p,GO m];exact h.is i j Z Z s
def Nh.addW{fl qs}(h:Nh B P S M R da dc cf fl qs k w V)(b:D V W){m q}(K:Qr W m r g q cf.fifo (List.replicate cf.mix (-1)) [])(hb:V.heap.size<=m/\V.heap.size<=r/\V.heap.size<=g/\V.heap.size<=q)(hw:w<12)(x:W'=((W.setCell (Qz P (79+w*3)) (J m 0)).setCell (Qz P (79+w*3+1)) (J g 0)).setCell (Qz P (79+w*3+2)) (if cf.mix=0 then .iface 84 (J g 0)else .iface 83 (J m 0))):
  Nh B P S M R da dc cf fl (λi=>if i=w then⟨m,r,g,q⟩else qs i) k (w+1) W':=by
 let d:=h.below b;let⟨c,j,L,N⟩:=d.box;let⟨s,p⟩:=Qb (if cf.mix=0 then .iface 84 (J g 0)else .iface 83 (J m 0):QN);rw[<-p]at x;let y:=((d.box.set (79+w*3) Z (J m 0)).set (79+w*3+1) Z (J g 0)).set (79+w*3+2) Z s;rw[<-x]at y;let t:W.grownBy W' (some P):=by rw[x];exact au (au (au (Q6 W P) _ _) _ _) _ _
 let u:Ky (· =92) W W':=Ky.grown j rfl t;let z:Below B W W':=(Fu B W).grown t d.bW (λr a=>by simp at a;have:=h.bP;omega);let O:M≠P:=λe=>by obtain⟨a,⟨A,F,d,_⟩,_⟩:=d.sp.map;rw[e,j]at d;cases d
 let Q:R≠P:=λe=>by let⟨A,F,d⟩:=d.mp.typ;rw[e,j]at d;cases d
 let T:W'.heap[M]?=W.heap[M]?:=t.block _ d.sp.lt.2 (by simpa using O);let X:W'.heap[R]?=W.heap[R]?:=by let⟨A,F,a⟩:=d.mp.typ;exact t.block _ (ag a) (by simpa using Q)
 let Y:kK (kK (kK (nw cf da dc S R fl qs k w) (79+w*3) (J m 0)) (79+w*3+1) (J g 0)) (79+w*3+2) s=nw cf da dc S R fl (λi=>if i=w then⟨m,r,g,q⟩else qs i) k (w+1):=by
  funext i;unfold kK nw;by_cases l:i=79+w*3+2;.rw[GP l,GO Z,GO Z,GP Z,GP Z,show(i-79)/3=w by omega,show(i-79)%3=2 by omega,p];simp[Eo]
  rw[GO l];by_cases n:i=79+w*3+1;.rw[GP n,GO Z,GO Z,GP Z,GP Z,show(i-79)/3=w by omega,show(i-79)%3=1 by omega];simp[Eo]
  rw[GO n];by_cases G:i=79+w*3;.rw[GP G,GO Z,GO Z,GP Z,GP Z,show(i-79)/3=w by omega,show(i-79)%3=0 by omega];simp[Eo]
  rw[GO G];by_cases v:i<7;.rw[GP v,GP v]
  rw[GO v,GO v];by_cases f:i<79;.rw[GP f,GP f]
  rw[GO f,GO f];by_cases a:i<115
  .rw[GP a,GP a];by_cases o:(i-79)/3<w;.rw[GP o,GP Z];simp[show¬((i-79)/3=w) by omega]
   rw[GO o,GO (show¬(i-79)/3<w+1 by omega)]
  rw[GO a,GO a]
 rw[Y]at y;let a:∀c,c<w->(qs c).r<V.heap.size/\(qs c).g<V.heap.size/\(qs c).q<V.heap.size:=λc j=>by obtain⟨⟨q1,f⟩,⟨ps,o,hh,v,G,_⟩,_⟩:=(h.wt c j).1;exact⟨f.lt,ag v,G.lt⟩
 let hB:=h.bW;refine⟨y,Fx d.bW z.size,d.ds.belowB z h.dab,h.dab,d.sp.ky u ar T,d.mp.same X,h.bP,h.bS,h.bM,h.bR,h.mr,λi v=>(d.sl i v).ky u ar ar ar,h.is,λc j=>?_,λc f j G o=>?_,d.tb.belowB z h.b0,h.b0⟩
 .by_cases e:c=w;.subst e;simp only[GP];exact⟨K.ky u ar ar ar,Z,Z,Z,Z⟩
  simp only[GO e];exact⟨(d.wt c Z).1.ky u ar ar ar,(d.wt c Z).2⟩
 by_cases n:c=w
 .let l:¬f=w:=Z;have:=a f Z;simp only[GP n,GO l];exact⟨Z,Z,Z,Z⟩
 by_cases l:f=w;.have:=a c Z;simp only[GO n,GP l];exact⟨Z,Z,Z,Z⟩
 simp only[GO n,GO l];exact h.iq c f Z Z o
def Fa(P S M R:Nat)(da:Option Addr)(dc:Nat)(fl:Nat->D2)(e:Nat->Do):Ly where
 P:=P
 S:=S
 M:=M
 R:=R
 sb:=λc s=>(fl (c*6+s)).g
 sr:=λc s=>(fl (c*6+s)).r
 sc:=λc s=>(fl (c*6+s)).cap
 sm:=λc s j=>(fl (c*6+s)).sm j
 qm:=λc=>(e c).m
 qr:=λc=>(e c).r
 qg:=λc=>(e c).g
 qq:=λc=>(e c).q
 da:=da
 dc:=dc
def BP:Dy where
 f:=λ_=>none
 on:=λ_ _=>false
 lg:=λ_=>none
 ro:=C
 rl:=C
 an:=C
 un:=.nilFunc
def Nh.made{fl qs}(h:Nh B P S M R da dc cf fl qs 72 12 W):Hp B (Fa P S M R da dc fl qs) BP cf (aP cf) W/\Gd BP (aP cf) (C):=by
 let n:∀c s:Nat,c<12->s<6->c*6+s<72/\(c*6+s)/6=c/\(c*6+s)%6=s:=λc s a d=>Z
 refine⟨⟨⟨h.b0,h.bP,h.bS,h.bM,h.bR,h.mr,λc s a d=>?_,λc s a d=>?_,λc s j a d u=>?_,λc a=>(h.wt c a).2,λc s p v a d m q e=>?_,λc s j p v A a d u m q w e=>?_,λc p a m y=>h.iq c p a m y,h.dab⟩,h.bW,?_,h.ds,h.sp,?_,(λk g e=>by cases e),λc s a d=>?_,λc s a d=>?_,λc s j a d u=>?_,λc a=>?_,h.mp,(λk=>rfl),(λr b=>by cases b),(λk F g e=>by cases e),?_,?_,?_,h.tb⟩,?_⟩;.let⟨f,l,t⟩:=n c s a d;exact(h.sl _ f).bg
 .let⟨f,l,t⟩:=n c s a d;exact(h.sl _ f).br
 .let⟨f,l,t⟩:=n c s a d;exact((h.sl _ f).sms j (by rwa[l])).2
 .by_cases z:c*6+s=p*6+v;.exact⟨Z,Z⟩
  exact absurd e (h.is _ _ (n c s a d).1 (n p v m q).1 z).1
 .let⟨f,l,t⟩:=n c s a d;let⟨b,i,o⟩:=n p v m q;by_cases z:c*6+s=p*6+v;.obtain⟨rfl,rfl⟩:c=p/\s=v:=⟨Z,Z⟩;exact⟨rfl,rfl,(h.sl _ f).inj j A (by rwa[l]) (by rwa[l]) e⟩
  exact absurd e ((h.is _ _ f b z).2 j A (by rwa[l]) (by rwa[i]))
 .let⟨c,G,K,L⟩:=h.box;refine⟨c,G,K,λi N=>?_⟩;rw[L i N];unfold nw boxF;congr 1;by_cases x:i<7;.rw[GP x,GP x];rfl
  rw[GO x,GO x];by_cases o:i<79;.rw[GP o,GP o,GP Z];show _=Value.pointer (some ⟨(fl ((i-7)/6*6+(i-7)%6)).g,0,none⟩);rw[show(i-7)/6*6+(i-7)%6=i-7 by omega]
  rw[GO o,GO o];by_cases b:i<115;.rw[GP b,GP b,GP Z];rfl
  rw[GO b,GO b];rfl
 .exact⟨λk=>.inl ⟨rfl,rfl⟩,λk F b e=>by cases e⟩
 .let⟨f,l,t⟩:=n c s a d;have:=(h.sl _ f).box;rw[l,t]at this;exact this
 .let⟨f,l,t⟩:=n c s a d;have:=(h.sl _ f).row;rw[l]at this;exact this
 .let⟨f,l,t⟩:=n c s a d;exact((h.sl _ f).sms j (by rwa[l])).1
 .exact(h.wt c a).1
 .exact .inl ⟨rfl,rfl⟩
 .exact⟨rfl,.inl ⟨rfl,rfl⟩⟩
 .intro g e;cases e
 exact⟨λc s a d=>rfl,rfl,rfl⟩
end
section
variable {B X2 X3 X4 q:Nat}{y:Ly}{d d':Dy}{cf:Cf}{h:Hs}{V V' W W':World}{an v:Value}{op:Array Value}
def jv(B y d cf h k an)(c s j:Nat)(W)(a:Hp B y d cf h W)(b:Gd d h an)(o:vJ cf h k)(i:c<12)(l:s<6)(m:j<aM c)(e:h.st c s j=1):
  Calls prog 59 #[J y.P 0,.iface 199 (J (y.sm c s j) 0)] W (D7 B y d cf (aL cf h c s j) an W):=by
 have f:=H (lT B y d cf h k an c s j W a b o i l m e);let p:=λw=>BJ (y.sm c s j) w
 generalize aL cf h c s j=n at*;generalize y.sm c s j=q at*;go_in;go_wp2_with fail;apply (f).mono;rintro e V⟨rfl,a,b⟩;let g:=H (IT a b);go_wp2;go_end0;exact⟨rfl,g.1,g.2⟩
def ju(B y d cf h k an)(r:Rg9)(L:Nat)(W)(a:Hp B y d cf h W)(b:Gd d h an)(o:vJ cf h k)(c:r∈h.rg)(e:r.st=1)(f:d.lg r.base=some L):
  Calls prog 59 #[J y.P 0,.iface 210 (J L 0)] W (D7 B y d cf (aJ cf h r) an W):=by
 have g:=H (kL B y d cf h k an r L W a b o c e f);let l:=λw=>CY L w
 let i:=λw=>AL L w
 generalize aJ cf h r=j at*;go_in;go_wp2_with fail;apply (g).mono;rintro e V⟨rfl,a,b⟩;let c:=H (IT a b);go_wp2;go_end0;exact⟨rfl,c.1,c.2⟩
inductive Ob(B:Nat)(y:Ly)(d:Dy)(cf:Cf)(h:Hs):Nat->Value->Prop
 |slot (c s j:Nat) (hc:c<12) (hs:s<6) (hj:j<aM c):Ob B y d cf h (bh c s j) (.iface 199 (J (y.sm c s j) 0))
 |range (r:Rg9) (g:Nat) (hr:r∈h.rg) (hl:r.st=1) (hd:d.lg r.base=some g):Ob B y d cf h r.base (.iface 210 (J g 0))
inductive SzR(B:Nat)(y:Ly)(cf:Cf)(an:Value):An4×Hs->Ending->World->Prop
 |yes (q:Nat) (v:Value) (d:Dy) (h1:Hs) (W':World) (ob:Ob B y d cf h1 q v) (hp:Hp B y d cf h1 W') (gd:Gd d h1 an):SzR B y cf an (⟨0,q,0,[]⟩,h1) (.returned v) W'
 |no (code:Int) (h1:Hs) (W':World) (tk:Tk B y cf h1 an W'):SzR B y cf an (.no code,h1) (.panicked (ip code)) W'
def Es(B:Nat)(y:Ly)(cf:Cf)(an:Value)(W:World)(r:An4×Hs)(e:Ending)(W':World):Prop:=SzR B y cf an r e W'/\Bi B W W'
def Hp.lcOf(c:Hp B y d cf h W)(i:Inv cf h){r:Rg9}(a:r∈h.rg){g:Nat}(e:d.lg r.base=some g):Lc g r W:=by let⟨k,b,_,f⟩:=c.lb r a;rw[e]at b;cases b;let⟨l,m,n,j,o,_⟩:=i.rgs r a;have:r.ext=r.guards+r.pages+1:=rfl;exact nx f Z j Z
def TaR.ob{lg}{r:Option Nat×Hs}{e:Ending}(t:TaR B y cf an lg r e W'):(r.1=none/\e=.panicked (ip 1)/\Tk B y cf r.2 an W')\/∃q v d,r.1=some q/\e=QJ v/\Ob B y d cf r.2 q v/\Hp B y d cf r.2 W'/\Gd d r.2 an/\Kl lg d:=by
 cases t with
 |no a _ b=>exact .inl ⟨rfl,rfl,b⟩
 |slot c s j a _ f g i b k=>let⟨d,a,l,m⟩:=k;exact .inr ⟨_,_,d,rfl,rfl,.slot c s j f g i,a,l,m⟩
 |range r g d a _ c b f i j k=>exact .inr ⟨_,_,d,rfl,rfl,.range r g c b f,i,j,k⟩
def Ob.conv{a:Hs}(o:Ob B y d cf h q v)(b:a.rg=h.rg)(e:d'.lg=d.lg):Ob B y d' cf a q v:=by
 cases o with
 |slot c s j f g i=>exact .slot c s j f g i
 |range r g c f i=>exact .range r g (by rwa[b]) f (by rwa[e])
def qB(cf h c s j):(aL cf h c s j).rg=h.rg:=by
 rw[cW];split;.rfl
 unfold bK;dsimp only;split<;>rfl
def Ob.afterS{c s j}(o:Ob B y d cf h q v)(b:Hp B y d' cf (aL cf h c s j) W')(e:Klg d d'):Ob B y d' cf (aL cf h c s j) q v:=by
 cases o with
 |slot c s j a f g=>exact .slot c s j a f g
 |range r g f i k=>
  let a:r∈(aL cf h c s j).rg:=by rwa[qB]
  refine .range r g a i (e _ _ k ?_);rw[b.lo];exact List.any_eq_true.2 ⟨r,a,bH⟩
def Ob.afterR{f:Rg9}(i:Inv cf h)(o:Ob B y d cf h q v)(k:q≠f.base)(w:Hp B y d' cf (aJ cf h f) W')(z:Klg d d'):Ob B y d' cf (aJ cf h f) q v:=by
 cases o with
 |slot c s j A F G=>exact .slot c s j A F G
 | range r g p t K=>
  let u:r∈gX h.rg f.base 2 0:=FQ.2 ⟨r,p,by rw[GO k]⟩;let m:r∈(aJ cf h f).rg:=by
   rw[iO];split
   .rename_i L;refine Gk.2 ⟨u,?_⟩;have:r.base≠(h.row++[f.base])[0]?.getD 0:=λe=>by
     cases a:h.row with
     |nil=>rw[a]at e;exact k (by simpa using e)
     |cons b l=>rw[a]at e;let M:=(by simpa using e);let⟨x,N,n,O⟩:=(i.row b).1 (by rw[a];simp);have:=i.uniq p N (O.trans M.symm);rw[this,t]at n;cases n
    simpa using this
   exact u
  refine .range r g m t (z _ _ K ?_);rw[w.lo];exact List.any_eq_true.2 ⟨r,m,bH⟩
def Hp.setRq1(a:Hp B y d cf h W){c s j:Nat}(b:c<12)(e:s<6)(f:j<aM c)(rq'):
  Hp B y d cf {h with rq:=aE h.rq c s j rq'} (W.setCell ⟨y.sm c s j,1,none⟩ (I rq'))/\Bi B W (W.setCell ⟨y.sm c s j,1,none⟩ (I rq')):=by
 have:=a.setSlot b e f (h.st c s j) rq' (W':=W.setCell ⟨y.sm c s j,1,none⟩ (I rq')) (au (Q6 W (y.sm c s j)) 1 _) (by simp[World.setCell,FD,a.sm c s j b e f,Oe]);rw[gy h.st rfl]at this;exact this
def Ob.base{t g a:Nat}(o:Ob B y d cf h q (.iface t (J g 0)))(f:t=199/\a=114\/t=210/\a=159)(k:Hp B y d cf h W)(i:Inv cf h):
  QA a #[J g 0] W λe V'=>e=QJ (U q)/\D W V':=by
 cases o with
 |slot c s j l m n=>
  rcases f with⟨_,rfl⟩|⟨b,_⟩;.exact eI _ _ c s j W (k.scAt c s j l m n)
  cases b
 |range r g c l j=>
  rcases f with⟨b,_⟩|⟨_,rfl⟩;.cases b
  apply(ie g r W (k.lcOf i c j)).mono;rintro e V⟨rfl,rfl⟩;exact⟨rfl,ld⟩
def Ob.shape(o:Ob B y d cf h q v):∃t g a,v=.iface t (J g 0)/\(t=199/\a=114\/t=210/\a=159):=by
 cases o with
 |slot c s j a b e=>exact⟨_,_,_,rfl,.inl ⟨rfl,rfl⟩⟩
 |range r g a b c=>exact⟨_,_,_,rfl,.inr ⟨rfl,rfl⟩⟩
def Gd.fr(g:Gd d h an)(a:Nat->Option Nat):Gd {d with f:=a} h an:=⟨g.on,g.un,g.an⟩
def qp(B:Nat)(y:Ly)(d cf h k an)(p a t:Nat)(g)(Q j:Nat)(W:QM)(bW:B<=W.heap.size)(gd:Gd d h an)(o:vJ cf h k)(hk:k<=301)(iF:p≠0)(ha:a<18446744073709551616)(L:j<9223372036854775808)(ht:t=199/\Q=114\/t=210/\Q=159)(Kp:Dy->Hs->Prop)(IN:QA 60 #[J y.P 0,U p] W λe V=>e=QJ (.iface t (J g 0))/\∃n,Hp B y {d with f:=n} cf h V/\Bi B W V)(FT:∀n V,Hp B y {d with f:=n} cf h V->QA 107 #[.iface t (J g 0),U a] V λe V'=>e=QJ Qk/\D V V')(AR:Area h p j)(KP:∀q c i,Gave cf h a q c->Kl d.lg i->Kp i c)(KM:∀i n c m,Kp i c->Kp {i with f:=n} {c with m:=m})(BO:∀i c V,Inv cf c->Hp B y i cf c V->Kp i c->QA Q #[J g 0] V λe V'=>e=QJ (U p)/\D V V')(CE:∀i c V,Hp B y i cf c V->Kp i c->V.cell? (Qz g 1)=some (I j))(RE:∀i c V,Hp B y i cf c V->Gd i c an->vJ cf c (k+1)->Kp i c->QA 59 #[J y.P 0,.iface t (J g 0)] V (D7 B y i cf (db cf c (aB c p)) an V))(OA:∀i c P q v V,Inv cf c->Kp i c->Ob B y i cf c q v->q≠p->Hp B y P cf (db cf c (aB c p)) V->Klg i P->Ob B y P cf (db cf c (aB c p)) q v):
  QA 58 #[J y.P 0,U p,U a] W (Es B y cf an W (iQ cf h p a j)):=by
 let R:=λq c(e:av cf h a=(some q,c))=>o.inv.gave e
 let S:=o.inv.malloc o.few a;let G:=o.byt.malloc (cf:=cf) a;let M:=λn V(K:Hp B y {d with f:=n} cf h V)=>kW B y {d with f:=n} cf h k an a V K (gd.fr n) o ha
 unfold iQ;let⟨mr,T⟩:=Qa (av cf h a);rw[T]at S G⊢;simp[T]at R M;let⟨oq,c⟩:=mr;let X:∀V,(∃n,Hp B y {d with f:=n} cf h V/\Bi B W V)->QA 107 #[.iface t (J g 0),U a] V λe V'=>e=QJ Qk/\∃n,Hp B y {d with f:=n} cf h V'/\Bi B W V':=by rintro V⟨n,K,w⟩;apply(FT n V K).mono;rintro e V'⟨rfl,b⟩;exact⟨rfl,n,K.below b,w.add b K.bW⟩
 cases oq with
 |none=>
  refine lK y.P p a t g Q 0 j W iF ht L ha (λV=>∃n,Hp B y {d with f:=n} cf h V/\Bi B W V) (λ_ _ _ _=>False) (λ_ _ _=>False) _ IN X ?_ (λ_ _ _ _ _ h _=>h.elim) (λ_ _ _ _ h=>h.elim) (λ_ _ _ _ h=>h.elim) (λ_ _ _ _ h=>h.elim) (λ_ _ _ _ h=>h.elim) (λ_ _ _ h=>h.elim);rintro V⟨n,K,w⟩;apply(M n V K).mono;rintro e V'⟨tr,N⟩;cases tr with
  |no _ _ l=>exact .inl ⟨_,rfl,.no 1 c V' l,w.trans N⟩
 | some q=>
  let O:=R q c rfl;let⟨ak,Y⟩:=O.keeps AR;let⟨_,m2,m3,m4,m5⟩:=S;dsimp only at m2 m3 m4 m5 G;refine(let_mvar%?A:=aZ c.m p q (min j a);?_);let o2:vJ cf {c with m:=?A} (k+1):=
   ⟨O.inv.bytes _ _ _,Byt.store G _ (Byt.load G _ _) _,⟨m2,iM,iM,by have:=o.few.used;dsimp only;omega⟩,Z,o.dok,o.l1⟩
  refine lK y.P p a t g Q q j W iF ht L ha (λV=>∃n,Hp B y {d with f:=n} cf h V/\Bi B W V)
   (λx A s V=>∃i,Ob B y i cf c q (.iface x (J A 0))/\(x=199/\s=114\/x=210/\s=159)/\Hp B y i cf c V/\Gd i c an/\Kp i c/\Bi B W V)
   (λx A V=>∃i,Ob B y i cf {c with m:=?A} q (.iface x (J A 0))/\Hp B y i cf {c with m:=?A} V/\Gd i {c with m:=?A} an/\Kp i {c with m:=?A}/\Bi B W V)
   _ IN X ?_ ?_ ?_ ?_ ?_ ?_ ?_
  .rintro V⟨n,K,w⟩;apply(M n V K).mono;rintro e V'⟨tr,N⟩;rcases tr.ob with⟨F,_,_⟩|⟨q',v,i,F,rfl,z,l,r,kl⟩;.cases F
   cases F;obtain⟨x,A,s,rfl,u⟩:=z.shape;exact .inr ⟨x,A,s,rfl,u,i,z,u,l,r,KP q c i O kl,w.trans N⟩
  .rintro x A s V V'⟨i,z,u,l,r,F,w⟩b;exact⟨i,z,u,l.below b,r,F,w.add b l.bW⟩
  .rintro x A s V⟨i,z,u,l,r,F,w⟩;exact BO i c V O.inv l F
  .rintro x A s V⟨i,z,u,l,r,F,w⟩;exact z.base u l O.inv
  .rintro x A s V⟨i,z,u,l,r,F,w⟩;exact CE i c V l F
  .rintro x A s V⟨i,z,u,l,r,F,w⟩;apply(zL B y i cf c p q (min j a) V l O.inv (ak.le (Nat.min_le_left j a)) (O.area.le (Nat.min_le_right j a)) Y).mono;rintro e V'⟨rfl,⟨n,a0⟩,N⟩;exact⟨rfl,{i with f:=n},z.conv rfl rfl,a0,(r.fr n).st (λk=>dj _ _ _ _ _),KM i n c _ F,w.trans N⟩
  rintro x A V⟨i,z,l,r,F,w⟩;apply(RE i _ V l r o2 F).mono;rintro e V'⟨rfl,⟨P,a0,a1,kl⟩,N⟩;exact⟨rfl,.yes q _ P _ V' (OA i _ P q _ V' o2.inv F z (λe=>Y e.symm) a0 kl) a0 a1,w.trans N⟩
def uF(B y d cf h k){an}(p a:Nat)(W)(hp:Hp B y d cf h W)(P:Gd d h an)(o:vJ cf h k)(hk:k<=301)(a2:p<18446744073709551616)(ha:a<18446744073709551616):
  QA 58 #[J y.P 0,U p,U a] W (Es B y cf an W (a_ cf h p a)):=by
 rw[hH];let hu:h.rel.length<=100000:=by have:=o.few.rel;omega
 by_cases iF:p=0
 .subst iF;rw[GP rfl];refine BB y.P a W ((kW B y d cf h k an a W hp P o ha).mono ?_);rintro e V⟨g,Q⟩;unfold oW;rcases g.ob with⟨t,rfl,tk⟩|⟨q,v,z,t,rfl,ob,b,c,Y⟩;.rw[t];exact .inl ⟨_,rfl,.no 1 _ V tk,Q⟩
  rw[t];exact .inr ⟨_,rfl,.yes q v z _ V ob b c,Q⟩
 rw[GO iF];let K:=oA B y d cf h p W hp o.inv o.byt a2 hu o.dok.key0 o.dok.key1;refine(let_mvar%?B:=QA 60 #[J y.P 0,U p] W;?_);let NO:∀u,?B (Dv B y d cf h W (.no u))->QA 58 #[J y.P 0,U p,U a] W (Es B y cf an W (.no u,h)):=λu hI=>by
  refine(ye y.P p a u W iF (λV=>Tk B y cf h an V/\Bi B W V) (hI.mono ?_)).mono ?_
  .rintro e V⟨n,lk,i,Q⟩;cases lk;exact⟨rfl,Hg.tk ⟨_,i,P.fr n⟩,Q⟩
  rintro e V⟨rfl,tk,Q⟩;exact⟨.no u h V tk,Q⟩
 let G:=bT h p;cases hf:aB h p with
 |no u=>rw[hf]at K;exact NO u K
 | slot c s j=>
  dsimp only;rw[hf]at K G;cases G with
  |slot _ _ _ g r x N T=>
  let a3:=(o.inv.req c s j g r x).1 T;let hz:=aX g;unfold dR at K;dsimp only at K;cases a0:sound cf h c s j with
  |false=>rw[a0,GO ar]at K;rw[GP rfl];exact NO 5 K
  | true=>
   rw[a0,GP rfl]at K;rw[GO ar];refine(let_mvar%?A:=y.sm c s j;?_);let O:?B λe V=>e=QJ (.iface 199 (J ?A 0))/\∃n,Hp B y {d with f:=n} cf h V/\Bi B W V:=by apply K.mono;rintro e V⟨n,lk,i,Q⟩;cases lk;exact⟨rfl,n,i,Q⟩
   by_cases l:a<=1016/\fD a=c
   .rw[GP l];refine ot y.P p a 199 ?A W iF (.inl rfl) (λV=>∃n,Hp B y {d with f:=n} cf h V/\Bi B W V) O ?_ ?_ (iV Z Z) ?_;.rintro V⟨n,i,X⟩;apply(om ?A (y.sb c s) c s j a V (i.scAt c s j g r x)).mono;rintro e V'⟨rfl,b⟩;exact⟨by rw[G8 l],n,i.below b,X.add b i.bW⟩
    .rintro V⟨n,i,X⟩;let hb:=i.sm c s j g r x;exact⟨h.rq c s j,bJ hb,by simp[QD,hb]⟩
    rintro V⟨n,i,X⟩;obtain⟨R,b9⟩:=i.setRq1 g r x (a:Nat);refine⟨.yes p _ _ _ _ ?_ R ⟨P.on,P.un,P.an⟩,X.trans b9⟩;rw[<-N];exact .slot c s j g r x
   rw[GO l];obtain⟨A,F⟩:∃A:Nat,h.rq c s j=(A:Int):=⟨(h.rq c s j).toNat,Z⟩;rw[F,F0];refine qp B y d cf h k an p a 199 ?A 114 A W hp.bW P o hk iF ha Z (.inl ⟨rfl,rfl⟩) (λz w=>w.rq c s j=(A:Int)/\w.st c s j=1/\aB w p=.slot c s j) O ?_ (.slot c s j g r x N T Z) ?_ (λz n w m kp=>kp) ?_ ?_ ?_ ?_;.intro n V i;apply(om ?A (y.sb c s) c s j a V (i.scAt c s j g r x)).mono;rintro e V'⟨rfl,b⟩;exact⟨by rw[GR l],b⟩
   .intro q w z gv Y;obtain⟨t,M⟩:=gv.live c s j g r x T;exact⟨M.trans F,t,gW hf t⟩
   .intro z w V i1 i kp;rw[<-N];exact eI _ _ c s j V (i.scAt c s j g r x)
   .rintro z w V i⟨t,M,S⟩;rw[ac (i.sm c s j g r x),t];rfl
   .rintro z w V i g1 o1⟨t,M,S⟩;rw[S];exact jv B y z cf w (k+1) an c s j V i g1 o1 g r x M
   rintro z w d9 q v V i1⟨t,M,S⟩ob a1 R Y;rw[S]at R⊢;exact ob.afterS R Y
 | range r=>
  dsimp only;rw[hf]at K G;cases G with
  |range _ c hb T=>
  obtain⟨r1,r2,r3,r4,r5,r6⟩:=o.inv.rgs r c;let a4:r.ext=r.guards+r.pages+1:=rfl;unfold dR at K;dsimp only at K;obtain⟨g,s,_⟩:=hp.lb r c;let O:?B λe V=>e=QJ (.iface 210 (J g 0))/\∃n,Hp B y {d with f:=n} cf h V/\Bi B W V:=by
   apply K.mono;rintro e V⟨n,lk,i,Q⟩;cases lk with
   |range _ N j=>rw[s]at j;cases j;exact⟨rfl,n,i,Q⟩
  let a3:0<=r.rq/\r.rq<=r.pages*1024:=by
   rcases r6 with⟨_,w,j⟩|⟨w,_⟩
   .unfold aR at j;split at j<;>omega
   omega
  by_cases l:1016<a/\aR a=r.pages
  .rw[GP l];let a0:=l.2;unfold aR at a0;refine ot y.P p a 210 g W iF (.inr rfl) (λV=>∃n,Hp B y {d with f:=n} cf h V/\Bi B W V) O ?_ ?_ (iV Z Z) ?_;.rintro V⟨n,i,X⟩;apply(nU g a r V (i.lcOf o.inv c s) ha).mono;rintro e V'⟨rfl,b⟩;exact⟨by rw[G8 l],n,i.below b,X.add b i.bW⟩
   .rintro V⟨n,i,X⟩;obtain⟨N,t,_,j⟩:=i.lb r c;rw[show({d with f:=n}:Dy).lg r.base=d.lg r.base from rfl,s]at t;cases t;exact⟨r.rq,bJ j,by simp[QD,j]⟩
   rintro V⟨n,i,X⟩;obtain⟨N,t,_,j⟩:=i.lb r c;rw[show({d with f:=n}:Dy).lg r.base=d.lg r.base from rfl,s]at t;cases t;obtain⟨R,b9⟩:=i.setLg c (λx hx e=>o.inv.uniq c hx e) (L:=g) s 1 (a:Nat) (W':=V.setCell (Qz g 1) (I a)) (au (Q6 V g) 1 _) (by simp[World.setCell,FD,j,oV,T]);let e9:gX h.rg r.base 1 (a:Nat)=h.rg.map λx=>if x.base=r.base then {x with rq:=(a:Int)}else x:=by
    unfold gX;refine List.map_congr_left λx hx=>?_;by_cases e:x.base=r.base
    .rw[GP e,GP e,o.inv.uniq c hx e,T]
    rw[GO e,GO e]
   rw[e9]at R;refine⟨.yes p _ _ _ _ ?_ R ⟨P.on,P.un,P.an⟩,X.trans b9⟩;rw[<-hb];exact .range {r with rq:=(a:Int)} g (FQ.2 ⟨r,c,by rw[GP rfl]⟩) T s
  rw[GO l];obtain⟨A,F⟩:∃A:Nat,r.rq=(A:Int):=⟨r.rq.toNat,Z⟩;rw[F,F0];refine qp B y d cf h k an p a 210 g 159 A W hp.bW P o hk iF ha Z (.inr ⟨rfl,rfl⟩) (λz w=>r∈w.rg/\z.lg r.base=some g/\aB w p=.range r) O ?_ (.range r c hb T Z) ?_ (λz n w m kp=>kp) ?_ ?_ ?_ ?_;.intro n V i;apply(nU g a r V (i.lcOf o.inv c s) ha).mono;rintro e V'⟨rfl,b⟩;exact⟨by rw[GR l],b⟩
  .intro q w z gv Y;refine⟨?_,Y _ _ s,fV hf ?_⟩
   .rcases gv.rg with e|⟨x,e,_⟩;.rw[e];exact c
    rw[e];exact IF _ c
   rcases gv.rg with e|⟨x,e,_⟩;.exact .inl e
   exact .inr ⟨x,e⟩
  .rintro z w V i1 i⟨t,M,S⟩;apply(ie g r V (i.lcOf i1 t M)).mono;rintro e V⟨rfl,rfl⟩;exact⟨by rw[hb],ld⟩
  .rintro z w V i⟨t,M,S⟩;obtain⟨N,f1,_,j⟩:=i.lb r t;rw[M]at f1;cases f1;rw[ac j,<-F];rfl
  .rintro z w V i g1 o1⟨t,M,S⟩;rw[S];exact ju B y z cf w (k+1) an r g V i g1 o1 t T M
  rintro z w d9 q v V i1⟨t,M,S⟩ob a1 R Y;rw[S]at R⊢;exact ob.afterR i1 (by rwa[hb]) R Y
def Ep(B:Nat)(y:Ly)(cf:Cf)(an:Value)(W:World)(r:An4×Hs)(e:Ending)(W':World):Prop:=∃v,e=.returned (jP r.1 v)/\W'.ownsRow W.heap.size 5 1 v r.1.data.length (Ns .u8 r.1.data)/\Hg B y cf r.2 an W'/\Bi B W W'
structure Lo(P X2 X3 X4:Nat)(op:Array QN)(V:QM):Prop where
 x2:V.heap[X2]?=some (.cells #[J P 0] 77)
 x3:V.heap[X3]?=some (.cells op 63)
 x4:V.heap[X4]?=some (.cells #[I 0,U 0,I 0,C] 94)
def Lo.bi{P}(l:Lo P X2 X3 X4 op V)(b:Bi B V V'):Lo P X2 X3 X4 op V':=
 ⟨b.ky.XC l.x2 (by unfold hI;decide),b.ky.XC l.x3 (by unfold hI;decide),b.ky.XC l.x4 (by unfold hI;decide)⟩
def Lo.below{P}(l:Lo P X2 X3 X4 op V)(b:D V V'):Lo P X2 X3 X4 op V':=
 ⟨ae l.x2 b,ae l.x3 b,ae l.x4 b⟩
def qQ{W P op}:D W (three W P op):=
 (ph.alloc (by rw[aO];omega) _).alloc (by rw[aO,aO];omega) _
def yz{W:QM}{P op}:Lo P W.heap.size (W.heap.size+1) (W.heap.size+1+1) op (three W P op):=by
 let a:=aO W (.cells #[J P 0] 77);let b:=aO (W.alloc (.cells #[J P 0] 77)) (.cells op 63);refine⟨?_,?_,?_⟩;.unfold three;rw[eg _ _ _ (by rw[b,a];omega),eg _ _ _ (by rw[a];omega)];exact XD
 .unfold three;rw[eg _ _ _ (by rw[b,a];omega),<-a];exact XD
 unfold three;rw[<-a,<-b];exact XD
def Bi.loc9{R:Nat}(k:Bi B W V)(g:V.grownBy V' (some R))(e:W.heap.size<=R)(i:B<=W.heap.size):Bi B W V':=by let j:=k.bel.size;refine⟨k.bel.grown g Z (λr a=>by simp at a;omega),g.os.trans k.ky.os,g.tape.trans k.ky.tape,g.output.trans k.ky.output,Fx k.ky.size g.size,λx c t f a b=>?_⟩;let d:=k.ky.cells x c t f a b;have:=ag a;rwa[g.block x Z bG]
def Hp.set81(i:Hp B y d cf h V){X:Nat}{c:Array QN}(b:V.heap[X]?=some (.cells c 94))(m:B<=X)(j:Array QN):Hp B y d cf h (V.setRow X j):=by
 let g:=aj V X j;refine i.keep ⟨Ky.grown b ar g,?_,?_⟩ ((Fu B V).grown g i.bW (λr a=>by simp at a;omega));.obtain⟨a,⟨k,l,f,_⟩,_⟩:=i.sp.map;exact g.block _ (ag f) (λe=>by simp at e;rw[<-e,f]at b;cases b)
 let⟨k,l,f⟩:=i.mp.typ;exact g.block _ (ag f) (λe=>by simp at e;rw[<-e,f]at b;cases b)
def Hg.set81{B y cf h an V}(b:Hg B y cf h an V){X:Nat}{c:Array QN}(e:V.heap[X]?=some (.cells c 94))(f:B<=X)(a:Array QN):Hg B y cf h an (V.setRow X a):=by let⟨d,g,i⟩:=b;exact⟨d,g.set81 e f a,i⟩
def TaR.sz{lg}{r:Option Nat×Hs}{e:Ending}(t:TaR B y cf an lg r e W'):SzR B y cf an (mQ r.1,r.2) e W':=by
 rcases t.ob with⟨a,rfl,d⟩|⟨q,v,f,a,rfl,g,b,c,_⟩;.rw[a];exact .no 1 _ _ d
 rw[a];exact .yes q v f _ _ g b c
def SzR.split{c:An4×Hs}{e:Ending}(s:SzR B y cf an c e V):(∃a b,c=(.no a,b)/\e=.panicked (ip a)/\Tk B y cf b an V)\/∃q v f b,c=(⟨0,q,0,[]⟩,b)/\e=QJ v/\Ob B y f cf b q v/\Hp B y f cf b V/\Gd f b an:=by
 cases s with
 |yes q v d b _ f g i=>exact .inr ⟨q,v,d,b,rfl,rfl,f,g,i⟩
 |no a b _ f=>exact .inl ⟨a,b,rfl,rfl,f⟩
def BC{an}{o:fL}(a:o.p<18446744073709551616)(h:iS an o=some q):q<18446744073709551616:=by
 unfold iS at h;split at h;.cases h;exact a
 split at h;.cases h
 cases h;exact Nat.mod_lt _ ar
def Ay(P X2 X3 X4:Nat)(op:Array Value)(W V:World):Prop:=D W V/\Lo P X2 X3 X4 op V
def Ew(B:Nat)(y:Ly)(cf:Cf)(an:Value)(res:An4×Hs)(X2 X3 X4:Nat)(op:Array Value)(W:World)(code:Int)(V:World):Prop:=∃e,res=(.no code,e)/\Tk B y cf e an V/\Lo y.P X2 X3 X4 op V/\Bi B W V
def OB(o:fL)(dd:Option Addr)(dc:Nat):Array Value:=#[I o.kd,I o.ref,U o.p,U o.a,U o.b,.slice dd o.ys.length dc]
def nE(B:Nat)(y:Ly)(cf an res)(o:fL)(dd dc)(W:QM)(f:B<=W.heap.size):
  Rn9 y.P W.heap.size (W.heap.size+1) (W.heap.size+1+1) o.kd o.ref o.p o.a o.b dd o.ys.length dc (Ay y.P W.heap.size (W.heap.size+1) (W.heap.size+1+1) (OB o dd dc) W) (Ew B y cf an res W.heap.size (W.heap.size+1) (W.heap.size+1+1) (OB o dd dc) W) (Ep B y cf an W res):=by
 refine⟨λV b=>cN b.2.x2,λV b=>b.2.x3,λV b=>b.2.x4,λV b=>⟨b.1.drew,b.2.below ld⟩,λV=>Ar V,?_⟩;rintro c V⟨l,a,m,d,g⟩;apply(xT B y cf l an W.heap.size (W.heap.size+1+1) c V (cN d.x2) d.x4 m).mono;rintro e u W'⟨rfl,rfl,p,q,i,n,j,rfl⟩;let k:=((d.below i).bi j).x4;refine⟨rfl,rfl,_,_,_,_,aw k _,C,?_,?_,?_,?_⟩;.rw[a];rfl
 .rw[a];exact eL _ _
 .rw[a];exact n.set81 k Z _
 exact Bi.loc9 ((g.add i (Fx f g.bel.size)).trans j) (aj _ _ _) Z f
def oX{res o dd dc}{f:FuncId}{d:Array QN}(w:B<=W.heap.size)(k:Ay y.P W.heap.size (W.heap.size+1) (W.heap.size+1+1) (OB o dd dc) W V)(a:QA f d V (Es B y cf an V res)):
  QA f d V λe V'=>(∃b,e=.panicked (fw b)/\Ew B y cf an res W.heap.size (W.heap.size+1) (W.heap.size+1+1) (OB o dd dc) W b V')\/∃t g i,e=QJ (.iface t (J g 0))/\(t=199/\i=114\/t=210/\i=159)/\(λt g i V'=>∃j,Ob B y j cf res.2 res.1.addr (.iface t (J g 0))/\(t=199/\i=114\/t=210/\i=159)/\Hp B y j cf res.2 V'/\Gd j res.2 an/\Lo y.P W.heap.size (W.heap.size+1) (W.heap.size+1+1) (OB o dd dc) V'/\Bi B W V'/\res.1=⟨0,res.1.addr,0,[]⟩) t g i V':=by
 apply a.mono;rintro e V'⟨sz,l⟩;let p:=(Bi.ofBelow k.1 w).trans l;rcases sz.split with⟨b,r,c,rfl,x⟩|⟨q,v,j,r,c,rfl,s,m,n⟩;.exact .inl ⟨b,rfl,r,c,x,k.2.bi l,p⟩
 obtain⟨t,g,i,rfl,u⟩:=s.shape;refine .inr ⟨t,g,i,rfl,u,j,?_⟩;rw[c];exact⟨s,u,m,n,k.2.bi l,p,rfl⟩
def run_end{r:An4}{h1}(c:B<=W.heap.size)(d:W.heap.size<=X4)(e:Hg B y cf h1 an V)(b:Lo y.P X2 X3 X4 op V)(f:Bi B W V)(g:V.ownsRow W.heap.size 5 1 v r.data.length (Ns .u8 r.data))(a:Array QN):
  Ep B y cf an W (r,h1) (QJ (jP r v)) (V.setRow X4 a):=
 ⟨v,rfl,ai g (Ky.grown b.x4 rfl (aj V X4 a):Ky (· =94) V _),e.set81 b.x4 Z a,Bi.loc9 f (aj _ _ _) d c⟩
def Ea(cf h)(o:fL)(p)(k:o.kd=0):NQ cf h o p=(mQ (av cf h o.a).1,(av cf h o.a).2):=by
 unfold NQ;dsimp only;rw[GP k];cases av cf h o.a with
 |mk x a=>cases x<;>rfl
def Ej(cf h)(o:fL)(p)(k:o.kd=1):NQ cf h o p=(mQ (mB cf h o.a o.b).1,(mB cf h o.a o.b).2):=by
 unfold NQ mB;dsimp only;rw[GO Z,GP k];split;.rfl
 cases av cf h (o.a*o.b)with
 |mk x a=>cases x<;>rfl
def Dj(cf h)(o:fL)(p)(k:o.kd=2):NQ cf h o p=a_ cf h p o.a:=by unfold NQ;rw[GO Z,GO Z,GP k]
def C_(cf h)(o:fL)(p)(k:o.kd=3):NQ cf h o p=match dR cf h (aB h p)with
  | .no code=>(.no code,h)
  | .slot c s j=>(.no 0,aL cf h c s j)
  | .range r=>(.no 0,aJ cf h r):=by
 unfold NQ;dsimp only;rw[GO Z,GO Z,GO Z,GP k]
 cases aB h p with
 |no code=>rfl
 |range r=>rfl
 |slot c s j=>
  unfold dR;dsimp only
  cases sound cf h c s j<;>rfl
def D_(cf h)(o:fL)(p)(k:o.kd=4):NQ cf h o p=match aB h p with
  | .no code=>(.no code,h)
  | .slot c s j=>(⟨0,0,eV c,[]⟩,h)
  | .range r=>(⟨0,0,r.pages*1024,[]⟩,h):=by
 unfold NQ;dsimp only;rw[GO Z,GO Z,GO Z,GO Z,GP k]
 cases aB h p<;>rfl
def De(cf h)(o:fL)(p)(k:o.kd=5):NQ cf h o p=(if 4096<o.a then(.no 6,h)else(⟨ci h.m p (o.a:Int),0,0,if ci h.m p (o.a:Int)=0 then aH h.m p o.a else[]⟩,h)):=by unfold NQ;rw[GO Z,GO Z,GO Z,GO Z,GO Z,GP k]
def Dq(cf h)(o:fL)(p)(k:o.kd=6):NQ cf h o p=(.no (ci h.m p (o.ys.length:Int)),{h with m:=if ci h.m p (o.ys.length:Int)=0 then ay h.m p o.ys o.ys.length else h.m}):=by unfold NQ;rw[GO Z,GO Z,GO Z,GO Z,GO Z,GO Z,GP k]
def Dk(cf h)(o:fL)(p)(a:¬o.kd=0)(b:¬o.kd=1)(c:¬o.kd=2)(d:¬o.kd=3)(e:¬o.kd=4)(f:¬o.kd=5)(g:¬o.kd=6):NQ cf h o p=(.no 6,h):=by unfold NQ;rw[GO a,GO b,GO c,GO d,GO e,GO f,GO g]
def yg(m a):ci m a ((4097:Nat):Int)=6:=by unfold ci;simp
def aN{d:Nat}{e:QO}{sz:Nat}{n:Nat}{f:List QN}(h:W.ownsRow B e sz v n f)(i:d<=B):W.ownsRow d e sz v n f:=by
 refine⟨h.1,?_⟩;rcases h.2 with a|⟨g,b,c,j,a,k⟩;.exact .inl a
 exact .inr ⟨g,b,c,j,Fx i a,k⟩
def yv(B B' y d cf){h}(k l)(S:QP)(T X:Nat)(o:fL)(dd)(w:Nat)(W)(hp:Hp B y d cf h W)(gd:Gd d h (.slice S T X))(O:vJ cf h k)(hk:k<=301)(hA:wK B' W l (.slice S T X))(a5:o.p<18446744073709551616)(a0:o.a<18446744073709551616)(a8:o.b<18446744073709551616)(b0: -9223372036854775808<=o.ref)(b1:o.ys.length<=w)(da:Da y.S y.M d.f W dd o.ys.length o.ys):
  QA 28 #[J y.P 0,eZ o dd w] W (Ep B y cf (.slice S T X) W (bU cf h (l.map (·.1)) o)):=by
 let R:=hp.bW;let a6:h.rel.length<=100000:=by have:=O.few.rel;omega
 refine(let_mvar%?B:=Ay y.P W.heap.size (W.heap.size+1) (W.heap.size+1+1) (OB o dd w) W;?_);let h0:?B (three W y.P (OB o dd w)):=⟨qQ,yz⟩;let TG:∀V,?B V->QA 55 #[J y.P 0,.agg (OB o dd w)] V (D9 V (iS (l.map (·.1)) o)):=λV n=>uD B' y.P o dd o.ys.length w l S T X V ((hp.below n.1).cell 119 Z _ gd.an) ⟨ax hA.row n.1,hA.len⟩ a5 b0
 let HV:=λV(n:?B V)=>hp.below n.1
 rw[vi];cases a1:iS (l.map (·.1)) o with
 |none=>
  apply zv y.P o.kd o.ref o.p o.a o.b dd o.ys.length w W (nE B y cf (.slice S T X) (.no 6,h) o dd w W R) rfl rfl rfl h0;intro V n;apply(TG V n).mono;rintro e V'⟨b,⟨p,P,_⟩|⟨_,rfl⟩⟩;.rw[a1]at P;cases P
  exact⟨rfl,h,rfl,Hg.tk ⟨d,(HV V n).below b,gd⟩,n.2.below b,(Bi.ofBelow n.1 R).add b (HV V n).bW⟩
 | some q=>
  dsimp only;let hq:=BC a5 a1;let TQ:∀V,?B V->QA 55 #[J y.P 0,.agg (OB o dd w)] V λe V'=>e=QJ (U q)/\?B V':=λV n=>by
   apply(TG V n).mono;rintro e V'⟨b,⟨p,P,rfl⟩|⟨P,_⟩⟩;.rw[a1]at P;cases P;exact⟨rfl,n.1.trans (b.mono n.1.size),n.2.below b⟩
   rw[a1]at P;cases P
  let hinv:=(O.inv.do O.dok.fifo1 O.few o q).1;let NO:∀(i:An4×Hs)code V V',?B V->i=(.no code,h)->(∃M,Hp B y {d with f:=M} cf h V')->Bi B V V'->Ew B y cf (.slice S T X) i W.heap.size (W.heap.size+1) (W.heap.size+1+1) (OB o dd w) W code V':=λi code V V' n x⟨M,Q⟩z=>⟨h,x,Hg.tk ⟨_,Q,gd.fr M⟩,n.2.bi z,(Bi.ofBelow n.1 R).trans z⟩
  let⟨i,x⟩:=Qa (NQ cf h o q);rw[x]at hinv⊢;let RF:=nE B y cf (.slice S T X) i o dd w W R;refine(let_mvar%?A:=Lo y.P W.heap.size (W.heap.size+1) (W.heap.size+1+1) (OB o dd w);?_);let a2:∀V:QM,(∃t g N L,Ob B y L cf i.2 i.1.addr (.iface t (J g 0))/\(t=199/\N=114\/t=210/\N=159)/\Hp B y L cf i.2 V/\Gd L i.2 (.slice S T X)/\?A V/\Bi B W V/\i.1=⟨0,i.1.addr,0,[]⟩)->V.heap[W.heap.size+1+1]?=some (.cells #[I 0,U 0,I 0,C] 94)/\Ep B y cf (.slice S T X) W i (QJ (.agg #[I 0,U i.1.addr,I 0,C])) (V.setRow (W.heap.size+1+1) #[I 0,U i.1.addr,I 0,C]):=by rintro V⟨t,g,N,L,ob,ht,G,Y,K,z,he⟩;refine⟨K.x4,?_⟩;refine(let_mvar%?C:=W.heap.size<=W.heap.size+1+1;?_);have:=run_end (r:=⟨0,i.1.addr,0,[]⟩) R (show ?C by omega) ⟨L,G,Y⟩ K z (eL V W.heap.size) #[I 0,U i.1.addr,I 0,C];obtain⟨⟨c9,a9,a,j⟩,h9⟩:=i;cases he;exact this
  by_cases k0:o.kd=0
  .let A:i=(mQ (av cf h o.a).1,(av cf h o.a).2):=(by rw[<-x,Ea cf h o q k0]);refine zh y.P o.kd o.ref o.p o.a o.b dd o.ys.length w q i.1.addr (λV=>∃t g N L,Ob B y L cf i.2 i.1.addr (.iface t (J g 0))/\(t=199/\N=114\/t=210/\N=159)/\Hp B y L cf i.2 V/\Gd L i.2 (.slice S T X)/\?A V/\Bi B W V/\i.1=⟨0,i.1.addr,0,[]⟩) W RF rfl rfl rfl h0 k0 TQ (λV n=>oX R n ((kW B y d cf h k _ o.a V (HV V n) gd O a0).mono λe V' t=>by rw[A];exact⟨t.1.sz,t.2⟩)) ?_ a2;rintro t g N V⟨L,ob,ht,G,Y,K,z,he⟩;apply(ob.base ht G hinv).mono;rintro e V'⟨rfl,b⟩;exact⟨rfl,t,g,N,L,ob,ht,G.below b,Y,K.below b,z.add b G.bW,he⟩
  by_cases k1:o.kd=1
  .let A:i=(mQ (mB cf h o.a o.b).1,(mB cf h o.a o.b).2):=(by rw[<-x,Ej cf h o q k1]);refine zn y.P o.kd o.ref o.p o.a o.b dd o.ys.length w q i.1.addr (λV=>∃t g N L,Ob B y L cf i.2 i.1.addr (.iface t (J g 0))/\(t=199/\N=114\/t=210/\N=159)/\Hp B y L cf i.2 V/\Gd L i.2 (.slice S T X)/\?A V/\Bi B W V/\i.1=⟨0,i.1.addr,0,[]⟩) W RF rfl rfl rfl h0 k1 TQ (λV n=>oX R n ((lD B y d cf h k o.a o.b V (HV V n) gd O a0 a8).mono λe V' t=>by rw[A];exact⟨t.1.sz,t.2⟩)) ?_ a2;rintro t g N V⟨L,ob,ht,G,Y,K,z,he⟩;apply(ob.base ht G hinv).mono;rintro e V'⟨rfl,b⟩;exact⟨rfl,t,g,N,L,ob,ht,G.below b,Y,K.below b,z.add b G.bW,he⟩
  by_cases k2:o.kd=2
  .let A:i=a_ cf h q o.a:=(by rw[<-x,Dj cf h o q k2]);refine yS y.P o.kd o.ref o.p o.a o.b dd o.ys.length w q i.1.addr (λV=>∃t g N L,Ob B y L cf i.2 i.1.addr (.iface t (J g 0))/\(t=199/\N=114\/t=210/\N=159)/\Hp B y L cf i.2 V/\Gd L i.2 (.slice S T X)/\?A V/\Bi B W V/\i.1=⟨0,i.1.addr,0,[]⟩) W RF rfl rfl rfl h0 k2 TQ (λV n=>oX R n (by rw[A];exact uF B y d cf h k q o.a V (HV V n) gd O hk hq a0)) ?_ a2;rintro t g N V⟨L,ob,ht,G,Y,K,z,he⟩;apply(ob.base ht G hinv).mono;rintro e V'⟨rfl,b⟩;exact⟨rfl,t,g,N,L,ob,ht,G.below b,Y,K.below b,z.add b G.bW,he⟩
  by_cases k3:o.kd=3
  .let A:i=match dR cf h (aB h q)with
     | .no code=>(.no code,h)
     | .slot c s j=>(.no 0,aL cf h c s j)
     | .range r=>(.no 0,aJ cf h r):=by rw[<-x,C_ cf h o q k3]
   let F:=bT h q;refine yU y.P _ _ _ o.kd o.ref o.p o.a o.b dd o.ys.length w q
    (λv V=>∃M fd,AG y d fd (QJ v)/\dR cf h (aB h q)=fd/\Hp B y {d with f:=M} cf h V/\?A V/\Bi B W V)
    (λV=>i.1=.no 0/\Hg B y cf i.2 (.slice S T X) V/\?A V/\Bi B W V) W _ _ _ RF rfl rfl rfl h0 k3 TQ ?_ ?_ ?_
   .intro V n;apply(oA B y d cf h q V (HV V n) O.inv O.byt hq a6 O.dok.key0 O.dok.key1).mono;rintro e V'⟨M,lk,Q,z⟩;let b9:=(Bi.ofBelow n.1 R).trans z;let⟨fd,u⟩:=Qa (dR cf h (aB h q));rw[u]at lk A;cases lk with
    |no code=>exact .inl ⟨code,rfl,NO i code V V' n A ⟨M,Q⟩ z⟩
    |slot c s j=>exact .inr ⟨_,rfl,cN (n.2.bi z).x2,M,_,.slot c s j,u,Q,n.2.bi z,b9⟩
    |range r g hg=>exact .inr ⟨_,rfl,cN (n.2.bi z).x2,M,_,.range r g hg,u,Q,n.2.bi z,b9⟩
   .rintro v V⟨M,fd,lk,u,Q,K,z⟩;rw[u]at A;let a7:=gd.fr M;cases lk with
    | slot c s j=>
     let sn:c<12/\s<6/\j<aM c/\h.st c s j=1:=by
      cases a:aB h q with
      |no code=>rw[a]at u;cases u
      |range r=>rw[a]at u;cases u
      | slot c' s' j'=>
       rw[a]at u F;unfold dR at u;dsimp only at u;split at u
       .cases u;cases F with
        |slot _ _ _ h1 h2 h3 h4 h5=>exact⟨h1,h2,h3,h5⟩
       cases u
     apply(jv B y _ cf h k _ c s j V Q a7 O sn.1 sn.2.1 sn.2.2.1 sn.2.2.2).mono;rintro e V'⟨rfl,⟨d9,a3,a4,_⟩,b9⟩;rw[A];exact⟨rfl,cN (K.bi b9).x2,rfl,⟨d9,a3,a4⟩,K.bi b9,z.trans b9⟩
    | range r g hg=>
     let sn:r∈h.rg/\r.st=1:=by
      cases a:aB h q with
      |no code=>rw[a]at u;cases u
      |slot c s j=>rw[a]at u;unfold dR at u;dsimp only at u;split at u<;>cases u
      |range r'=>
       rw[a]at u F;cases u;cases F with
       |range _ h1 h2 h3=>exact⟨h1,h3⟩
     apply(ju B y _ cf h k _ r g V Q a7 O sn.1 sn.2 hg).mono;rintro e V'⟨rfl,⟨d9,a3,a4,_⟩,b9⟩;rw[A];exact⟨rfl,cN (K.bi b9).x2,rfl,⟨d9,a3,a4⟩,K.bi b9,z.trans b9⟩
   rintro V⟨P,hg,K,z⟩;refine⟨K.x4,?_⟩;have:=run_end (r:=.no 0) R (show ?C by omega) hg K z (eL V W.heap.size) #[I 0,U 0,I 0,C];let⟨r9,h9⟩:=i;cases P;exact this
  by_cases k4:o.kd=4
  .let A:i=match aB h q with
     | .no code=>(.no code,h)
     | .slot c s j=>(⟨0,0,eV c,[]⟩,h)
     | .range r=>(⟨0,0,r.pages*1024,[]⟩,h):=by rw[<-x,D_ cf h o q k4]
   let F:=bT h q;refine Ab y.P _ _ _ o.kd o.ref o.p o.a o.b dd o.ys.length w q i.1.size
    (λt g N V=>D W V/\?A V/\i=(⟨0,0,i.1.size,[]⟩,h)/\QA N #[J g 0] V λe V'=>e=QJ (I i.1.size)/\V'=V)
    (λV=>D W V/\?A V/\i=(⟨0,0,i.1.size,[]⟩,h)) W _ _ _ RF rfl rfl rfl h0 k4 TQ ?_ ?_ ?_
   .intro V n;apply(nJ B y d cf h q V (HV V n) O.inv hq a6).mono;rintro e V'⟨lk,b⟩;let bB:D W V':=n.1.trans (b.mono n.1.size);let a:=hp.below bB;cases u:aB h q with
    |no code=>rw[u]at lk A;cases lk;exact .inl ⟨code,rfl,NO i code V V' n A ⟨d.f,a⟩ (Bi.ofBelow b (HV V n).bW)⟩
    |slot c s j=>
     rw[u]at lk A F;cases lk;cases F with
     |slot _ _ _ hc hs hj _ _=>
     refine .inr ⟨199,_,167,rfl,.inl ⟨rfl,rfl⟩,bB,n.2.below b,by rw[A],?_⟩;rw[A];exact mh _ _ c s j V' (a.scAt c s j hc hs hj)
    |range r=>
     rw[u]at lk A F;cases lk with
     |range _ g hg=>
     cases F with
     |range _ hr hb hl=>
     let⟨r1,r2,r3,r4,r5,r6⟩:=O.inv.rgs r hr;let a3:r.ext=r.guards+r.pages+1:=rfl;refine .inr ⟨210,_,353,rfl,.inr ⟨rfl,rfl⟩,bB,n.2.below b,by rw[A],?_⟩;rw[A];exact sY g r V' (a.lcOf O.inv hr hg) Z
   .rintro t g N V⟨bB,K,P,a⟩;apply a.mono;rintro e V'⟨rfl,rfl⟩;exact⟨rfl,bB,K,P⟩
   rintro V⟨bB,K,P⟩;refine⟨K.x4,?_⟩;have:=run_end (r:=⟨0,0,i.1.size,[]⟩) R (show ?C by omega) ⟨d,hp.below bB,gd⟩ K (Bi.ofBelow bB R) (eL V W.heap.size) #[I 0,U 0,I i.1.size,C];rw[<-P]at this;exact this
  by_cases k5:o.kd=5
  .let A:i=(if 4096<o.a then(.no 6,h)else(⟨ci h.m q (o.a:Int),0,0,if ci h.m q (o.a:Int)=0 then aH h.m q o.a else[]⟩,h)):=(by rw[<-x,De cf h o q k5]);refine zM y.P _ _ _ o.kd o.ref o.p o.a o.b dd o.ys.length w q
    (λv V=>(∃M,Hp B y {d with f:=M} cf h V)/\?A V/\Bi B W V/\i=(⟨0,0,0,i.1.data⟩,h)/\V.ownsRow W.heap.size 5 1 v i.1.data.length (Ns .u8 i.1.data)) W _ _ _ RF rfl rfl rfl h0 k5 TQ ?_ ?_
   .intro V n;apply(jy B y d cf h q o.a V (HV V n) O.inv.out hq a0).mono;rintro e V'⟨M,Q,z,hc⟩;let b9:=(Bi.ofBelow n.1 R).trans z;let a3:=n.1.size;by_cases a:4096<o.a
    .rw[GP a]at A;rw[Nat.min_eq_right (show 4097<=o.a by omega),yg]at hc;rcases hc with⟨h1,_⟩|⟨_,rfl⟩;.cases h1
     exact .inl ⟨6,rfl,NO i 6 V V' n A ⟨M,Q⟩ z⟩
    rw[GO a]at A;rw[Hz (show o.a<=4097 by omega)]at hc;rcases hc with⟨h1,v,rfl,ow⟩|⟨h1,rfl⟩;.obtain⟨a9,n9,c9,rfl⟩:=aA ow;rw[GP h1]at A ow;rw[h1]at A;refine .inr ⟨a9,n9,c9,rfl,⟨M,Q⟩,n.2.bi z,b9,by rw[A],?_⟩;rw[A];exact aN ow a3
    rw[GO h1]at A;exact .inl ⟨_,rfl,NO i _ V V' n A ⟨M,Q⟩ z⟩
   rintro v V⟨⟨M,Q⟩,K,z,P,ow⟩;refine⟨K.x4,?_⟩;have:=run_end (r:=⟨0,0,0,i.1.data⟩) R (show ?C by omega) ⟨_,Q,gd.fr M⟩ K z ow #[I 0,U 0,I 0,v];rw[<-P]at this;exact this
  by_cases a:o.kd=6
  .let A:i=(.no (ci h.m q (o.ys.length:Int)),{h with m:=if ci h.m q (o.ys.length:Int)=0 then ay h.m q o.ys o.ys.length else h.m}):=(by rw[<-x,Dq cf h o q a]);refine zt y.P _ _ _ o.kd o.ref o.p o.a o.b dd o.ys.length w q
    (λV=>i.1=.no 0/\Hg B y cf i.2 (.slice S T X) V/\?A V/\Bi B W V) W _ _ _ RF rfl rfl rfl h0 a TQ ?_ ?_
   .intro V n;apply(iw B y d cf h q dd o.ys.length w o.ys V (HV V n) O.inv.out hq (da.belowD n.1) b1).mono;rintro e V'⟨M,Q,z,hc⟩;let b9:=(Bi.ofBelow n.1 R).trans z;let g9:Gd {d with f:=M} {h with m:=if ci h.m q (o.ys.length:Int)=0 then ay h.m q o.ys o.ys.length else h.m} (.slice S T X):=(gd.fr M).st (λk=>by
     split;.exact dj _ _ _ _ _
     rfl)
    rcases hc with⟨h1,rfl⟩|⟨h1,rfl⟩;.refine .inr ⟨rfl,?_⟩;rw[A];exact⟨by rw[h1],⟨_,Q,g9⟩,n.2.bi z,b9⟩
    refine .inl ⟨_,rfl,_,A,Hg.tk ⟨_,Q,g9⟩,n.2.bi z,b9⟩
   rintro V⟨P,hg,K,z⟩;refine⟨K.x4,?_⟩;have:=run_end (r:=.no 0) R (show ?C by omega) hg K z (eL V W.heap.size) #[I 0,U 0,I 0,C];let⟨r9,h9⟩:=i;cases P;exact this
  let A:i=(.no 6,h):=by rw[<-x,Dk cf h o q k0 k1 k2 k3 k4 k5 a]
  apply yM y.P o.kd o.ref o.p o.a o.b dd o.ys.length w q W RF rfl rfl rfl h0 TQ Z;intro V n;exact NO i 6 V V n A ⟨d.f,HV V n⟩ (Bi.refl _ _)
