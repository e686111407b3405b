import Derived.Deep.AppendSrc
import Derived.Test.YtdhegekcmmlohaaGreatDoorM07
import Derived.Test.YtdhegekcmmlohaaGreatDoorM08
set_option linter.unusedVariables false
set_option linter.unusedSimpArgs false
set_option maxRecDepth 20000
set_option maxHeartbeats 8000000
namespace Go.Proofs.YtdhegekcmmlohaaGreatDoor
open Go.Proofs.Tryz Go.RowKit Go.Maps Go.Shelf Go.ChangeShapes Go.WideShapes Go.ChangeAt
section
variable {W W':World}{u v:Value}{B c j s:Nat}{l:List Int}{y:Ly}{d:Dy}{cf:Cf}{h:Hs}
def kR(data:List Int):ByteArray:=data.foldl (λr n=>r.push (UInt8.ofNat n.toNat)) ByteArray.empty
theorem pS:∀(l:List Int)(r:ByteArray),(l.foldl (λr n=>r.push (UInt8.ofNat n.toNat)) r).data.toList=r.data.toList++l.map (λn=>UInt8.ofNat n.toNat)
 |[],r=>by simp
 |x::l,r=>by
  rw[List.foldl_cons,pS l]
  simp[ByteArray.push]
theorem vD(l):(kR l).data.toList=l.map (λn=>UInt8.ofNat n.toNat):=by
 unfold kR;rw[pS];rfl
theorem vQ{a b:ByteArray}(h:a.toList=b.toList):a=b:=by
 rw[Go.ByteArray.toList_eq,Go.ByteArray.toList_eq]at h;cases a;cases b;simp at h;exact congrArg ByteArray.mk h
theorem vU{a b}(ha:okB a)(i:okB b)(h:kR a=kR b):a=b:=by
 have e:=congrArg (λs:ByteArray=>s.data.toList) h;simp only[vD]at e;have c:∀(a b:List Int),okB a->okB b->a.map (λn=>UInt8.ofNat n.toNat)=b.map (λn=>UInt8.ofNat n.toNat)->a=b:=by
  intro a;induction a with
  |nil=>intro b _ _ e;cases b with
   |nil=>rfl
   |cons y r=>simp at e
  | cons x l j=>
   intro b f g e;cases b with
   |nil=>simp at e
   |cons y r=>
    simp only[It,List.cons.injEq]at e;have k:=f x bH;have m:=g y bH;have e1:=congrArg UInt8.toNat e.1;rw[UInt8.toNat_ofNat',UInt8.toNat_ofNat',H4 Z,H4 Z]at e1;rw[j r (λz d=>f z (by simp[d])) (λz d=>g z (by simp[d])) e.2];congr 1;omega
 exact c a b ha i e
def Bs(w:World)(u:Value)(data:List Int):Prop:=∃a c,u=.slice a data.length c/\∀i,i<data.length->∃g,a=some ⟨g,0,none⟩/\w.cell? ⟨g,i,none⟩=some (.int .u8 (data[i]?.getD 0))
theorem Bs.below{w data}(h:Bs w u data)(b:D w W):Bs W u data:=by
 have⟨a,c,e,d⟩:=h;exact⟨a,c,e,λi f=>by obtain⟨g,e1,j⟩:=d i f;exact⟨g,e1,NI b j⟩⟩
theorem te(h:W.ownsRow B 5 1 u l.length (Ns .u8 l)):Bs W u l:=by
 have⟨a,c,e⟩:=aK h;subst e;refine⟨a,c,rfl,λi b=>?_⟩;have⟨g,d⟩:=cr h Z;subst d;exact⟨g,rfl,bC h i _ (by simp[Ns,b])⟩
theorem BG{g n:Nat}(h:RowV W g 5 (Ns .u8 l))(a:l.length=n):Bs W (Vl g n n) l:=by
 subst a;exact⟨_,_,rfl,λi b=>⟨g,rfl,jZ h i b⟩⟩
theorem tF{w data}(h:Bs w u data):(convert 22 9 u).run prog w=.ok (.string (kR data)) w:=by
 obtain⟨a,c,rfl,d⟩:=h;rw[run_convert_bytes_string w 22 9 5 a data.length c underlying22 underlying5 underlying9];cases a with
 | none=>
  have:data=[]:=by
   cases data with
   |nil=>rfl
   |cons x r=>obtain⟨g,e,_⟩:=d 0 bH;cases e
  subst this;unfold Conv.bytesToString;simp[kR,Sem.run_pure]
 | some p=>
  refine run_bytesToString w p data.length c data ?_;have:=run_loadCells_list (P:=prog) w p (data.map (Value.int .u8)) (λj v f=>by
   have b:=(Fz.1 f).1;simp at b;have⟨g,e,i⟩:=d j b;cases e;rw[Addr.add_mid,Oi,i,<-f];simp[b])
  simpa using this
theorem xu(u1 u2 d1 d2 w)(a:Bs w u1 d1)(b:Bs w u2 d2)(c:okB d1)(d:okB d2):
  QA 160 #[u1,u2] w λe f=>e=QJ (.bool (d1==d2))/\f=w:=by
 have e1:=tF a;have i:=tF b;have g:=H (show((kR d1).toList==(kR d2).toList)=(d1==d2) by
  by_cases e:d1=d2;·subst e;simp
  have:(kR d1).toList≠(kR d2).toList:=λh=>e (vU c d (vQ h))
  rw[QF.2 this,QF.2 e])
 generalize kR d1=j at*;generalize kR d2=k at*;go_enter func160,ntmps160;go_wp2;go_ret;rw[<-g.out];exact QB
def gG(f:Nat->Nat->Bool)(c s:Nat)(v:Bool):Nat->Nat->Bool:=λc' e=>if c'=c/\e=s then v else f c' e
theorem Hp.setOn(b:Hp B y d cf h W)(i:c<12)(m:s<6)(v):Hp B y {d with on:=gG d.on c s v} cf h (W.setCell ⟨y.sb c s,2,none⟩ (.bool v))/\Bi B W (W.setCell ⟨y.sb c s,2,none⟩ (.bool v)):=by
 have p:=b.sl c s i m;have g:=au (al W (y.sb c s)) 2 (.bool v);have k:Ky (· =267) W (W.setCell ⟨y.sb c s,2,none⟩ (.bool v)):=Ky.grown p rfl g;have q:Below B W (W.setCell ⟨y.sb c s,2,none⟩ (.bool v)):=(Fu B W).grown g b.bW (λr t=>by simp at t;have:=b.ap.bsb c s i m;omega);have u:(W.setCell ⟨y.sb c s,2,none⟩ (.bool v)).heap[y.M]?=W.heap[y.M]?:=GQ _ _ _ _ (λe=>by
  obtain⟨a,⟨w,x,l,_⟩,_⟩:=b.sp.map;rw[e,p]at l;cases l)
 have z:(W.setCell ⟨y.sb c s,2,none⟩ (.bool v)).heap[y.R]?=W.heap[y.R]?:=GQ _ _ _ _ (λe=>by
  have⟨w,x,l⟩:=b.mp.typ;rw[e,p]at l;cases l)
 refine⟨⟨b.ap,Fx b.bW q.size,b.box.ky k ar,b.ds.belowB q b.ap.da,b.sp.ky k ar u,b.pg.ky k ar,b.bf,
 λa f n o=>?_,λc s i m=>cL (b.rw c s i m) k ar,λc s j i m A=>k.cells _ _ _ _ (b.sm c s j i m A) ar,
 λc i=>(b.wt c i).ky k ar ar ar,b.mp.same z,b.lo,λr t=>by obtain⟨g,F,l,G⟩:=b.lb r t;exact⟨g,F,l,k.cells _ _ _ _ G ar⟩,b.li,b.ro.ky k ar,ai b.rl k ar,b.rr,b.tb.belowB q b.ap.b0⟩,Bi.ofGrown p (.inr (.inr (.inr (.inl rfl)))) (b.ap.bsb c s i m) b.bW g⟩
 by_cases e:a=c/\f=s
 ·obtain⟨rfl,rfl⟩:=e;show(W.setCell ⟨y.sb a f,2,none⟩ (.bool v)).heap[y.sb a f]?=some (.cells (CZ a f (gG d.on a f v a f) _ _ _) 267);have:gG d.on a f v a f=v:=by unfold gG;rw[GP ⟨rfl,rfl⟩]
  rw[this];have l:=b.sl a f n o;simp[World.setCell,FD,l,CZ]
 show(W.setCell ⟨y.sb c s,2,none⟩ (.bool v)).heap[y.sb a f]?=some (.cells (CZ a f (gG d.on c s v a f) _ _ _) 267);have:gG d.on c s v a f=d.on a f:=by unfold gG;rw[GO e]
 rw[this,GQ _ _ _ _ (λg=>e (by have:=b.ap.isb a f c s n o i m g;exact this))];exact b.sl a f n o
def Kl(lg:Nat->Option Nat)(d:Dy):Prop:=∀b g,lg b=some g->d.lg b=some g
theorem Kl.trans{lg d'}(h:Kl lg d)(k:Kl d.lg d'):Kl lg d':=λb g e=>k b g (h b g e)
theorem Kl.refl(d:Dy):Kl d.lg d:=λ_ _ e=>e
def Hgl(B:Nat)(y:Ly)(cf:Cf)(h:Hs)(an:Value)(lg:Nat->Option Nat)(W:World):Prop:=∃d,Hp B y d cf h W/\Gd d h an/\Kl lg d
theorem Hgl.hg{an lg}(k:Hgl B y cf h an lg W):Hg B y cf h an W:=by
 have⟨d,a,b,_⟩:=k;exact⟨d,a,b⟩
inductive EB(B:Nat)(y:Ly)(cf:Cf)(h:Hs)(an:Value)(lg:Nat->Option Nat)(c:Nat):Option (Nat×Hs)->Ending->World->Prop
 |yes (s:Nat) (h1:Hs) (W':World) (hg:Hgl B y cf h1 an lg W'):EB B y cf h an lg c (some (s,h1)) (.returned (J (y.sb c s) 0)) W'
 |no (W':World) (tk:Tk B y cf h an W'):EB B y cf h an lg c none (.panicked (ip 1)) W'
def kv(y:Ly)(c:Nat):List Value:=[J (y.sb c 0) 0,J (y.sb c 1) 0,J (y.sb c 2) 0,J (y.sb c 3) 0,J (y.sb c 4) 0,J (y.sb c 5) 0]
theorem Hp.range6(a:Hp B y d cf h W)(b:c<12):W.rangeAt y.P (7+c*6) (kv y c):=by
 intro j v hv;have e:j<6:=by have:=(Fz.1 hv).1;simpa[kv]using this
 have:=a.slabAt c j b e;rw[this,<-hv];rcases(show j=0\/j=1\/j=2\/j=3\/j=4\/j=5 by omega)with rfl|rfl|rfl|rfl|rfl|rfl<;>rfl
theorem uR(y c)(k:Nat)(a:k<6):(kv y c)[k]?=some (J (y.sb c k) 0):=by
 rcases(show k=0\/k=1\/k=2\/k=3\/k=4\/k=5 by omega)with rfl|rfl|rfl|rfl|rfl|rfl<;>rfl
theorem sQ{k:Nat}(e:k<6)(b:(dA h c k && !(freeS h c k).isEmpty)=true)(d:∀s,s<k->(dA h c s && !(freeS h c s).isEmpty)=false):NW h c=some k:=by
 unfold NW;rw[List.find?_eq_some_iff_append];refine⟨b,List.range k,(List.range (6-k-1)).map (λi=>k+1+i),?_,λa ha=>?_⟩;·rcases(show k=0\/k=1\/k=2\/k=3\/k=4\/k=5 by omega)with rfl|rfl|rfl|rfl|rfl|rfl<;>rfl
 rw[d a (by simpa using ha)];rfl
theorem sd(b:∀s,s<6->(dA h c s && !(freeS h c s).isEmpty)=false):NW h c=none:=by
 unfold NW;rw[List.find?_eq_none];intro a ha;rw[b a (by simpa using ha)];simp
theorem vy{k:Nat}(e:k<6)(b:dA h c k=false)(d:∀s,s<k->dA h c s=true):qS h c=some k:=by
 unfold qS;rw[List.find?_eq_some_iff_append];refine⟨by rw[b];rfl,List.range k,(List.range (6-k-1)).map (λi=>k+1+i),?_,λa ha=>?_⟩;·rcases(show k=0\/k=1\/k=2\/k=3\/k=4\/k=5 by omega)with rfl|rfl|rfl|rfl|rfl|rfl<;>rfl
 rw[d a (by simpa using ha)];rfl
theorem vg(b:∀s,s<6->dA h c s=true):qS h c=none:=by
 unfold qS;rw[List.find?_eq_none];intro a ha;rw[b a (by simpa using ha)];simp
theorem xQ(X b:Nat)(a:QN)(W:QM)(c:QG W X 0 (J b 0))(d:QG W b 2 a)(f:W.frozen? (Qz b 2)=false):
  QA 236 #[J X 0] W λe W'=>e=QJ (.tuple #[])/\W'=W.setCell (Qz b 2) Qk:=by
 go_enter func236,ntmps236;go_wp2;go_end0;exact QB
theorem pE(B y d cf h)(X c s:Nat)(W)(a:Hp B y d cf h W)(i:c<12)(j:s<6)(k:W.cell? (Qz X 0)=some (J (y.sb c s) 0))(l:d.un=.func (.func 236) #[] #[J X 0]):
  QA 97 #[J y.P 0] W λe W'=>e=QJ (.tuple #[])/\Hp B y {d with on:=gG d.on c s false,un:=.nilFunc} cf h W'/\Bi B W W':=by
 have m:=a.bc c s i j;have n:W.frozen? ⟨y.sb c s,2,none⟩=false:=by simp[QD,a.sl c s i j]
 have o:=H (xQ X (y.sb c s) _ W k m.d2 n);have⟨b,p⟩:=a.setOn i j false;have f:=a.cell 120 Z _ rfl;have g:boxF cf y d h.used 120=d.un:=rfl;rw[g,l]at f;have q:=b.cell 120 Z (.func (.func 236) #[] #[J X 0]) (by show d.un=_;exact l);have f1:=b.box.free 120;have r:=mG _ _ y.P 120 q f1;have⟨t,u⟩:=y7 (b.setDy 120 .nilFunc {d with on:=gG d.on c s false,un:=.nilFunc} (.inr ⟨rfl,rfl⟩)) (p.trans (b.bi118 120 .nilFunc));have nq:=λw=>qM (.func 236) #[] #[J X 0] w
 go_enter func97,ntmps97;go_wp2_with fail;refine(o).mono ?_;rintro e a⟨rfl,rfl⟩;go_wp2;go_end0;exact⟨rfl,t,u⟩
theorem wo:¬hI 142:=by unfold hI;decide
def Fj(B:Nat)(y:Ly)(cf:Cf)(h:Hs)(an:Value)(lg:Nat->Option Nat)(c:Nat)(W:World)(e:Ending)(W':World):Prop:=EB B y cf h an lg c (cJ cf h c) e W'/\Bi B W W'
theorem Bb(B y d cf h an)(c:Nat)(W)(a:Hp B y d cf h W)(e:Gd d h an)(i:Inv cf h)(l:c<12):
  QA 204 #[J y.P 0,I c] W (Fj B y cf h an d.lg c W):=by
 obtain⟨z,BW⟩:=y7 (λV(r:D W V)=>a.below r) a.bW;have hz:=aX l;obtain⟨RG,FR,FL,HI,O,SG⟩:=Qh (λV(r:D W V)=>(a.below r).range6 l) (λV(r:D W V)k(N:k<6)=>pa (y.sb c k) (y.sr c k) c k (aM c) (y.sc c k) (d.on c k) (y.sm c k) (h.st c k) V ((a.below r).bc c k l N) Z (λj b=>(a.below r).rowAt c k j l N b) (λj b=>((a.below r).smAt c k j l N b).1)) (λV(r:D W V)k(N:k<6)=>((a.below r).bc c k l N).d2) i e (uR y c);have b:∀(k:Nat),k<6->∀w,(Instr.index 143 (.agg (kv y c).toArray) (I k)).run prog w=.ok (J (y.sb c k) 0) w:=λk N w=>by
  rcases(show k=0\/k=1\/k=2\/k=3\/k=4\/k=5 by omega)with rfl|rfl|rfl|rfl|rfl|rfl<;>kernel_rfl
 have Y:=H b;clear a e i b;go_enter func204,ntmps204;go_wp2_with (refine wpList_load_mid rfl 143 _ rfl _ _ rfl _ _ (RG _ (Fu _ _)) underlying143 rfl E ?_);generalize a:(kv y c).toArray=A6 at*;have a0:=H a;clear a;go_loopw [15] (λi wr=>∃k:Nat,k<=6/\i=I k/\Hid (∀s,s<k->(dA h c s && !(freeS h c s).isEmpty)=false)/\Hid (D W wr)) (λi _=>6-(intOf i).toNat);case atStart=>exact⟨0,FH _,rfl,H (λs Q=>Z),H (Fu _ _)⟩
 case round=>
  obtain⟨k,N,rfl,p,o⟩:=hrel;by_cases b:k<6
  ·have ix:=Y.out k b;have fl:=FL.out wr o k b;obtain⟨K,g,a⟩:=Qe (λV(r:D W V)=>FR.out V r k b) (O.on c k l b) (λ(q:(dA h c k && !(freeS h c k).isEmpty)=true)=>sQ b q p);generalize t:d.on c k=on at*;rw[jB]at K;cases on with
   | false=>
    have u:Hid (∀s,s<k+1->(dA h c s && !(freeS h c s).isEmpty)=false):=(λs Q=>by
     rcases Nat.lt_succ_iff_lt_or_eq.1 Q with q|q;·exact p s q
     subst q;rw[<-g.out];rfl)
    clear p g a K t;generalize y.sb c k=gb at*;go_wp2;go_roundw;(case rel=>exact⟨k+1,Z,aY,u,o⟩);case measure=>exact QE
   | true=>
    go_wp2_with fail;refine(K _ o).mono ?_;rintro e V⟨v,rfl,own,n⟩;obtain⟨P,R,rfl⟩:=aK own;have A:=H (o.trans (n.mono o.size));have x:=H (show(freeS h c k).isEmpty=decide ((freeS h c k).length=0) by cases freeS h c k<;>simp);clear own n fl ix t o;generalize F:(freeS h c k).length=n at*;clear F;by_cases F:n=0
    ·have u:Hid (∀s,s<k+1->(dA h c s && !(freeS h c s).isEmpty)=false):=(λs Q=>by
      rcases Nat.lt_succ_iff_lt_or_eq.1 Q with q|q;·exact p s q
      subst q;rw[x,F];simp)
     subst F;clear p;generalize y.sb c k=gb at*;go_wp2;go_roundw;(case rel=>exact⟨k+1,Z,aY,u,A⟩);case measure=>exact QE
    have G:=H (a (by rw[<-g.out,x];simp[F]));have L:=H (show cJ cf h c=some (k,h) by unfold cJ;rw[G]);have M:(0:Int)<(n:Int):=Z;clear p;go_wp2;go_ret;refine⟨?_,Bi.ofBelow A BW⟩;rw[L];exact .yes k h _ ⟨d,z _ A,O,Kl.refl d⟩
  obtain rfl:k=6:=Z;have A:=H (sd p);clear p b;go_wp2_with (refine wpList_load_mid rfl 143 _ rfl _ _ rfl _ _ (RG _ o) underlying143 rfl E ?_);rw[a0];have a9:∀(fn:Fn)(first a1:Array QN)(w:QM),(Instr.makeFunc fn first a1).run prog w=.ok (.func fn first a1) w:=λ_ _ _ _=>rfl
  clear FR RG a0 SG;go_loopw [36] (λi a=>∃k:Nat,k<=6/\i=I k/\Hid (∀s,s<k->dA h c s=true)/\Hid (D W a)) (λi _=>6-(intOf i).toNat);case atStart=>exact⟨0,FH _,rfl,H (λs Q=>Z),o⟩
  case round=>
   clear o;obtain⟨k,N,rfl,p,o⟩:=hrel;by_cases b:k<6
   ·have ix:=Y.out k b;obtain⟨g,R⟩:=y7 (O.on c k l b) (λ(q:dA h c k=false)=>vy b q p);have a:D wr (wr.alloc (.cells #[J (y.sb c k) 0] 142)):=(Fu _ _).alloc (Fv _) _;have X:=ao wr (.cells #[J (y.sb c k) 0] 142);have BX:=H (o.trans (a.mono o.size));have fl:=FL.out _ BX k b;have b0:=H o.size;clear a;(go_upto_region 10 with fail);generalize wr.alloc _=V at*;generalize wr.heap.size=S at*;have x0:V.cell? (Qz S 0)=some (J (y.sb c k) 0):=bJ X;have XH:=H X;clear X o;generalize t:d.on c k=on at*;cases on with
    | true=>
     have u:Hid (∀s,s<k+1->dA h c s=true):=(λs Q=>by
      rcases Nat.lt_succ_iff_lt_or_eq.1 Q with q|q;·exact p s q
      subst q;exact g.symm)
     clear p g R t;generalize y.sb c k=gb at*;go_wp2;go_roundw;(case rel=>exact⟨k+1,Z,aY,u,BX⟩);case measure=>exact QE
    | false=>
     have a2:=H (R g.symm);obtain⟨n,M⟩:=(z V BX).setOn l b true;have fz:V.frozen? ⟨y.sb c k,2,none⟩=false:=(by simp[QD,(z.out V BX.out).sl c k l b]);obtain⟨T,a3,X1,a4⟩:=Qf n ((Bi.ofBelow BX BW).trans M) (M.ky.cells _ _ _ _ XH wo) (mz (y.sb c k) (y.sr c k) (y.sm c k 0) c k (aM c) (y.sc c k) _ 0 _ (n.bc c k l b) Z (n.scAt c k 0 l b Z) (n.rowAt c k 0 l b Z));have a6:=cD l b;have X:∀i,i<dI c->(h.m (aD c k+i)).isSome=false:=λi hi=>by rw[HI.slab c k l b i hi];exact g.symm
     have CM:=H (λa(i:Hp B y {d with on:=gG d.on c k true} cf h a)=>nA B y {d with on:=gG d.on c k true} cf h (aD c k) (dI c) (.func 236) #[] #[J S 0] a i HI.out.out Z Z X);have TD:Hid (∀P,Gd {d with on:=gG d.on c k true,f:=P,un:=.nilFunc} {h with m:=aT h.m (aD c k) (dI c)} an):=(λP=>⟨λF G x K=>by
      show gG d.on c k true F G=(aT h.m (aD c k) (dI c) (aD F G)).isSome;unfold gG;by_cases e:F=c/\G=k;·obtain⟨rfl,rfl⟩:=e;rw[GP ⟨rfl,rfl⟩,jF _ _ _ _ (Fv _) Z];rfl
      rw[GO e,cO,GO (by
       have hq:=aX x;rcases ew x K l b e with L|L<;>omega)]
      exact O.on F G x K,rfl,O.an⟩)
     have TB:Hid (∀P V',Hp B y {d with on:=gG d.on c k true,f:=P,un:=.func (.func 236) #[] #[J S 0]} cf h V'->V'.heap[S]?=some (.cells #[J (y.sb c k) 0] 142)->Tk B y cf h an V'):=(λP V' a7 L a8 a5=>by
      refine(pE B y _ cf h S c k a8 (a7.below a5) l b (by rw[GT _ _ _ _ _ _ ((a5.block _ (ag L)).trans L)];rfl) rfl).mono ?_;rintro e W9⟨rfl,h9,b9⟩;refine⟨rfl,⟨_,h9,λF G x K=>?_,rfl,O.an⟩,b9⟩;show gG (gG d.on c k true) c k false F G=dA h F G;unfold gG;by_cases e:F=c/\G=k;·obtain⟨rfl,rfl⟩:=e;rw[GP ⟨rfl,rfl⟩];exact g
      rw[GO e,GO e];exact O.on F G x K)
     have a5:=H (λ(hb:¬((cf.bud:Int)<(bz h.m 283:Int)+(dI c:Nat)))=>show cJ cf h c=some (k,{h with m:=aT h.m (aD c k) (dI c)}) by unfold cJ;rw[A];dsimp only;rw[a2];dsimp only;rw[GO Z]);have L:=H (λ(hb:(cf.bud:Int)<(bz h.m 283:Int)+(dI c:Nat))=>show cJ cf h c=none by unfold cJ;rw[A];dsimp only;rw[a2];dsimp only;rw[GP Z]);clear n M t p a6 X;(go_upto_region 12 with fail);generalize V.setCell ⟨y.sb c k,2,none⟩ Ql=a at*;have M:a.cell? (Qz S 0)=some (J (y.sb c k) 0):=bJ X1;clear fl fz x0;go_wp2_with fail;refine(a4).mono ?_;rintro e U2⟨rfl,n⟩;obtain⟨a6,X,X2⟩:=Qe (T.below n) (a3.add n T.bW) ((n.block _ (ag X1)).trans X1);clear n M;go_wp2_with fail;refine(CM _ a6).mono ?_;rintro e U3⟨P,n,⟨hb,rfl,M⟩|⟨hb,rfl,M⟩⟩
     ·have x3:U3.cell? (Qz S 0)=some (J (y.sb c k) 0):=(by rw[GT _ _ _ _ _ _ (n.ky.cells _ _ _ _ X2 wo)];rfl);have T:=H (IT M (IT (X.trans n) (a5 Z)));clear M n hb;go_wp2;go_ret;refine⟨?_,T.2.1⟩;rw[T.2.2];exact .yes k _ _ ⟨_,T.1,TD P,λ_ _ e=>e⟩
     refine⟨rfl,?_,X.trans n⟩;rw[L Z];exact .no _ (TB P U3 M (n.ky.cells _ _ _ _ X2 wo))
   obtain rfl:k=6:=Z;have L:=H (show cJ cf h c=none by unfold cJ;rw[A];dsimp only;rw[vg p]);clear p;go_wp2;refine⟨rfl,?_,Bi.ofBelow o BW⟩;rw[L];exact .no _ (Hg.tk ⟨d,z _ o,O⟩)
theorem xR(h:∀j,j<l.length->l[j]?.getD 0<=0)(e:okB l):l.all (· ==0)=true:=by
 rw[List.all_eq_true];intro x b;have⟨j,c⟩:=He b;have a:=(Fz.1 c).1;have d:=h j a;rw[c]at d;have f:=e x b;simp at d⊢;omega
theorem o_(a:j<l.length)(h:0<l[j]?.getD 0):l.all (· ==0)=false:=by
 cases e:l.all (· ==0)with
 |false=>rfl
 |true=>
  exfalso;rw[List.all_eq_true]at e;have b:l[j]?.getD 0∈l:=by rw[Fy a];exact Iw _
  have:=e _ b;rw[beq_iff_eq]at this;omega
theorem BM(u data W)(h:Bs W u data)(d:okB data)(r:0<data.length)(z:data.length<=100000):
  QA 207 #[u] W λe W'=>∃M:Int,e=QJ (.int .u8 M)/\decide (0<M) =!(data.all (· ==0))/\W'=W:=by
 obtain⟨a,P,rfl,f⟩:=h;obtain⟨g,rfl,A⟩:=f 0 r;have s:Hid (∀i,i<data.length->QG W g i (.int .u8 (data[i]?.getD 0))):=(λi a=>by
  have⟨c,e1,b⟩:=f i a;cases e1;exact b)
 have⟨Q,t,v,w⟩:=Qf d (λi=>d.get i) (λb=>xR (l:=data) b d) (λj c b=>o_ (l:=data) (j:=j) c b);have⟨n,d⟩:=Qa data.length;rw[d]at s v w r z⊢;have B:=t.out 0;generalize d:data[0]?.getD 0=F at*;have f:=H d;have y:¬((n:Int)<1):=Z;go_enter func207,ntmps207;go_wp2;go_loopw [3,4] (λm i wr=>∃(k:Nat)(M:Int),k<=n/\1<=k/\i=I k/\m=.int .u8 M/\wr=W/\Hid (0<=M/\M<=255)/\Hid ((0<M->∃j,j<k/\0<data[j]?.getD 0)/\(M<=0->∀j,j<k->data[j]?.getD 0<=0))) (λ_ i _=>n-(intOf i).toNat)
 case atStart=>exact⟨1,F,Z,Fv _,rfl,rfl,rfl,H B,H ⟨λh=>⟨0,Z,by rw[f];exact h⟩,λh j c=>by
  obtain rfl:j=0:=Z;rw[f];exact h⟩⟩
 case round=>
  obtain⟨k,M,R,G,rfl,rfl,rfl,K,m⟩:=hrel;by_cases p:k<n
  ·have L:=s.out k p;have gk:=t.out k;generalize d:data[k]?.getD 0=x at*;have q:=H d;by_cases N:M<=x
   ·have o:max M x=x:=Z;go_wp2;go_roundw
    case rel=>exact⟨k+1,x,Z,Z,aY,by congr 1<;>split<;>omega,trivial,H gk,H ⟨λb=>⟨k,Z,by rw[q];exact b⟩,λb j c=>by
     rcases Nat.lt_succ_iff_lt_or_eq.1 c with d|d;·exact m.2 Z j d
     subst d;rw[q];exact b⟩⟩
    case measure=>exact QE
   have o:max M x=M:=Z;go_wp2;go_roundw
   case rel=>exact⟨k+1,M,Z,Z,aY,by congr 1<;>split<;>omega,trivial,K,H ⟨λb=>by
    have⟨j,c,O⟩:=m.1 b;exact⟨j,Z,O⟩,λb j c=>by
    rcases Nat.lt_succ_iff_lt_or_eq.1 c with d|d;·exact m.2 b j d
    subst d;rw[q];omega⟩⟩
   case measure=>exact QE
  obtain rfl:k=n:=Z;go_wp2;go_ret;refine⟨M,rfl,?_,rfl⟩;by_cases d:0<M;·have⟨j,c,b⟩:=m.1 d;rw[w j c b];simpa using d
  rw[v (m.2 Z)];simpa using d
theorem Hp.setSlot(b:Hp B y d cf h W)(i:c<12)(m:s<6)(u:j<aM c)(st' rq')(g:W.grownBy W' (some (y.sm c s j)))(x:W'.heap[y.sm c s j]?=some (.cells (Oe st' rq' (y.sb c s) j) 272)):
  Hp B y d cf {h with st:=aE h.st c s j st',rq:=aE h.rq c s j rq'} W'/\Bi B W W':=by
 have l:=b.sm c s j i m u;have k:Ky (· =272) W W':=Ky.grown l rfl g;have v:Below B W W':=(Fu B W).grown g b.bW (λr w=>by simp at w;have:=b.ap.bsm c s j i m u;omega);have z:W'.heap[y.M]?=W.heap[y.M]?:=g.block _ b.sp.lt.2 (λe=>by
  simp at e;obtain⟨a,⟨A,F,f,_⟩,_⟩:=b.sp.map;rw[e,l]at f;cases f)
 have G:W'.heap[y.R]?=W.heap[y.R]?:=by
  have⟨A,F,f⟩:=b.mp.typ;exact g.block _ (ag f) (λe=>by simp at e;rw[e,l]at f;cases f)
 refine⟨⟨b.ap,Fx b.bW v.size,b.box.ky k ar,b.ds.belowB v b.ap.da,b.sp.ky k ar z,b.pg.ky k ar,b.bf,
 λc s i m=>k.cells _ _ _ _ (b.sl c s i m) ar,λc s i m=>cL (b.rw c s i m) k ar,λa n o p q t=>?_,
 λc i=>(b.wt c i).ky k ar ar ar,b.mp.same G,b.lo,λr w=>by obtain⟨g,K,f,L⟩:=b.lb r w;exact⟨g,K,f,k.cells _ _ _ _ L ar⟩,b.li,b.ro.ky k ar,ai b.rl k ar,b.rr,b.tb.belowB v b.ap.b0⟩,Bi.ofGrown l (.inr (.inr (.inr (.inr (.inl rfl))))) (b.ap.bsm c s j i m u) b.bW g⟩
 show W'.heap[y.sm a n o]?=some (.cells (Oe (aE h.st c s j st' a n o) (aE h.rq c s j rq' a n o) (y.sb a n) o) 272);by_cases e:a=c/\n=s/\o=j;·obtain⟨rfl,rfl,rfl⟩:=e;rw[aS,aS];exact x
 rw[aU _ _ e,aU _ _ e];have f:=b.sm a n o p q t;rw[g.block _ (ag f) (λg=>by
  simp at g;exact e (b.ap.ism a n o c s j p q t i m u g))]
 exact f
theorem Hp.setSt1(a:Hp B y d cf h W)(b:c<12)(e:s<6)(f:j<aM c)(st'):
  Hp B y d cf {h with st:=aE h.st c s j st'} (W.setCell ⟨y.sm c s j,0,none⟩ (I st'))/\Bi B W (W.setCell ⟨y.sm c s j,0,none⟩ (I st')):=by
 have g:=a.sm c s j b e f;have:=a.setSlot b e f st' (h.rq c s j) (W':=W.setCell ⟨y.sm c s j,0,none⟩ (I st')) (au (al W (y.sm c s j)) 0 _) (by simp[World.setCell,FD,g,Oe]);rw[gy h.rq rfl]at this;exact this
theorem Hp.setRec(a:Hp B y d cf h W)(b:c<12)(e:s<6)(f:j<aM c)(st' rq'):
  Hp B y d cf {h with st:=aE h.st c s j st',rq:=aE h.rq c s j rq'} (W.setCells (y.sm c s j) 0 [I st',I rq'])/\Bi B W (W.setCells (y.sm c s j) 0 [I st',I rq']):=by
 have g:=a.sm c s j b e f;refine a.setSlot b e f st' rq' ?_ ?_;·simp only[World.setCells];exact au (au (al W (y.sm c s j)) 0 _) _ _
 simp[World.setCells,World.setCell,FD,g,Oe]
inductive TaR(B:Nat)(y:Ly)(cf:Cf)(an:Value)(lg:Nat->Option Nat):Option Nat×Hs->Ending->World->Prop
 |slot (c s j:Nat) (h1:Hs) (W':World) (hc:c<12) (hs:s<6) (hj:j<aM c) (hl:h1.st c s j=1) (hg:Hgl B y cf h1 an lg W'):TaR B y cf an lg (some (bh c s j),h1) (.returned (.iface 268 (J (y.sm c s j) 0))) W'
 |range (r:Rg9) (g:Nat) (d:Dy) (h1:Hs) (W':World) (hr:r∈h1.rg) (hl:r.st=1) (hd:d.lg r.base=some g) (hp:Hp B y d cf h1 W') (gd:Gd d h1 an) (kl:Kl lg d):TaR B y cf an lg (some r.base,h1) (.returned (.iface 278 (J g 0))) W'
 |no (h1:Hs) (W':World) (tk:Tk B y cf h1 an W'):TaR B y cf an lg (none,h1) (.panicked (ip 1)) W'
def AS(B:Nat)(y:Ly)(cf:Cf)(an:Value)(lg:Nat->Option Nat)(W:World)(r:Option Nat×Hs)(e:Ending)(W':World):Prop:=TaR B y cf an lg r e W'/\Bi B W W'
theorem Gd.st{an}(g:Gd d h an){a:Hs}(b:∀k,(a.m k).isSome=(h.m k).isSome):Gd d a an:=⟨λc s e f=>by rw[g.on c s e f];exact(b _).symm,g.un,g.an⟩
theorem aV(t:QO){o:Oper}{a:Act}{K:Act->QM->Prop}{Q:Exit->Act->QM->Prop}(s x:Operand){v2 c:QN}(b:o.op=.call {callee:=.builtin .append,args:=#[s,x],argTypes:=#[t,t]})(d:o.type=t)(e:a.eval s=v)(f:a.eval x=v2)
  (g:(Builtin.append_ #[t,t] t #[v,v2]).run prog W=.ok c W') (i:K (a.put o.dst c) W'):Oper.wp prog o a W K Q:=by
 unfold Oper.wp;simp[execOp,b,d,resolve,invoke,builtin,e,f,g,Result.andThen];exact i
theorem BD(W:QM)(B:Nat)(l:List Nat)(a:Nat)(d:l.length<=a)(e:a<=maxLen)(f:B<=W.heap.size):
  Um B (W.drew.alloc (.cells ((Us l).toArray++Builtin.zeroCells (Value.int .u64 0).cells (a-l.length)) 27)) (Vl W.heap.size l.length a) l:=by
 have g:=ao W.drew (.cells ((Us l).toArray++Builtin.zeroCells (Value.int .u64 0).cells (a-l.length)) 27);have b:(Builtin.zeroCells (Value.int .u64 0).cells (a-l.length))=Array.replicate (a-l.length) (U 0):=by
  apply Array.ext';simp[Builtin.zeroCells,Value.cells,Nat.mod_one];rw[List.map_const',GG]
 refine .inr ⟨W.heap.size,0,a,_,rfl,f,g,?_,d,e,?_,?_⟩;·simp[b,fK];omega
 ·intro u c;simp[b,Us]at c;rcases c with⟨n,_,rfl⟩|⟨_,rfl⟩<;>rfl
 intro i c;rw[Oi,Array.getElem?_append_left (by simp[fK];exact c)];simp[Us,c]
theorem Cy(B W v l)(x:Nat)(g:Nat)(c)(r:Um B W v l)(Q:QG W g 0 (U x))(hl:l.length<=100000)(R:B<=W.heap.size):
  ∃f W',QI 39 v (Vl g 1 c) W f W'/\Um B W' f (l++[x])/\W.grownBy W' (ee v)/\(ee f=ee v\/ee f=some W.heap.size)/\∃a d,f=.slice a (l.length+1) d:=by
 have⟨s,t,z,n,A⟩:=G0 iY;have w:=Src.ofSlice (P:=prog) W (size:=s.size) underlying39 (Qz g 0) 1 c [U x] (by rw[n];rfl) (λj u p=>by
  cases j with
  |zero=>simp at p;subst p;rw[Addr.add_mid];exact Q
  |succ j=>simp at p) (λu r=>by simp at r;subst r;rfl)
 have q:∀(m:QP)(d:Nat),(Builtin.firstCells s.size l.length (.slice m l.length d)).run prog W.drew=.ok (Us l).toArray W.drew->d<l.length+1->∀y,
   ∃f W',QI 39 (.slice m l.length d) (Vl g 1 c) W f W'/\Um B W' f (l++[x])/\W.grownBy W' y/\(ee f=some W.heap.size)/\∃a d,f=.slice a (l.length+1) d:=λm d a b y=>by
  have F:=run_append_grow_src (P:=prog) W 39 39 39 27 s (U 0) underlying39 t z m l.length d (Us l) a _ 1 _ w b Z (growslice_fits b (by rw[A];omega))
  refine⟨_,_,F,?_,?_,rfl,_,_,rfl⟩
  ·have:=BD W B (l++[x]) (grownCap W (l.length+1) d 27) (by rw[FC];exact grownCap_ge _ _ _ _) (grownCap_le_maxLen _ _ _ _ (by unfold maxLen;omega)) R;rw[k_,FC]at this;exact this
  exact⟨rfl,rfl,rfl,by rw[aO];exact Nat.le_succ _,λk e _=>eg W.drew _ k e⟩
 rcases r with⟨rfl,rfl⟩|⟨b,o,d,S,rfl,T,k,V,h5,X,Y,O⟩;·have⟨f,W',e1,G,K,L,M⟩:=q none 0 (run_firstCells_none W.drew s.size 0 0 0) bH none;exact⟨f,W',e1,G,K,.inr L,M⟩
 have cl:∀i,i<l.length->W.cell? (Qz b (o+i))=some (U ((l[i]?.getD 0:Nat):Int)):=λi N=>by rw[GT _ _ _ _ _ _ k];exact O i N
 by_cases a:l.length+1<=d
 ·have F:=run_append_room_src (P:=prog) W 39 39 39 27 s underlying39 t b o l.length d _ 1 _ w a (λj p=>by
   have:j=0:=by simpa using p
   subst this;rw[GT _ _ _ _ _ _ k,n,Hw Z];rfl) (λj p=>by simp[QD,k])
  refine⟨_,_,F,?_,?_,.inl rfl,_,_,rfl⟩
  ·have hb:(W.setCell (Qz b (o+l.length)) (U x)).heap[b]?=some (.cells (S.setIfInBounds (o+l.length) (U x)) 27):=(by simp[World.setCell,FD,k]);rw[n,Nat.mul_one];refine .inr ⟨b,o,d,_,by rw[FC];rfl,T,hb,by simpa using V,by rw[FC];exact a,X,?_,?_⟩
   ·intro u r;rw[Array.toList_setIfInBounds]at r;rcases List.mem_or_eq_of_mem_set r with h|rfl;·exact Y u h
    rfl
   intro i N;rw[FC,List.length_singleton]at N;rw[FK];by_cases e:o+l.length=o+i
   ·rw[GP e,GP Z];have:i=l.length:=Z;subst this;simp
   rw[GO e,O i Z,Ga Z]
  rw[n,Nat.mul_one];exact au (al W b) _ _
 have⟨f,W',e1,G,K,L,M⟩:=q (some (Qz b o)) d (by
  rw[n];exact run_firstCells_some W.drew 1 l.length (Qz b o) l.length d (Us l) (by rw[fK,Nat.mul_one]) (λj u p=>by
   rw[Addr.add_mid];have e:j<l.length:=by
    have:=(Fz.1 p).1;rw[fK]at this;exact this
   have:=cl j e;simp[Us,e]at p this;rw[<-p];exact this)) Z (some b)
 exact⟨f,W',e1,G,K,.inr L,M⟩
theorem oN{g o n a:Nat}{l}(k:Um B W (.slice (some (Qz g o)) n a) l)(c:2<=l.length):n=l.length/\n<=a/\Um B W (.slice (some (Qz g (o+1))) (n-1) (a-1)) l.tail/\W.cell? (Qz g o)=some (U ((l[0]?.getD 0:Nat):Int)):=by
 rcases k with⟨e,rfl⟩|⟨b,s,d,m,e,c,f,t,p,u,q,j⟩;·simp at c
 simp at e;obtain⟨⟨rfl,rfl⟩,rfl,rfl⟩:=e;refine⟨rfl,p,.inr ⟨g,o+1,a-1,m,by rw[List.length_tail],c,f,Z,by rw[List.length_tail];omega,Z,q,λi r=>?_⟩,?_⟩;·rw[List.length_tail]at r;rw[show o+1+i=o+(i+1) by omega,j (i+1) Z];simp
 rw[GT _ _ _ _ _ _ f];have:=j 0 Z;simpa using this
theorem wD{l}(c:Um B W v l)(d:1<=l.length):∃g o a,v=.slice (some (Qz g o)) l.length a/\l.length<=a:=by
 rcases c with⟨e,rfl⟩|⟨b,f,a,i,e,j,k,m,g,_⟩;·simp at d
 exact⟨b,f,a,e,g⟩
theorem oz{l}(c:Um B W v l):∃a b,v=.slice a l.length b:=by
 rcases c with⟨e,rfl⟩|⟨b,d,a,f,e,g,i,j,k,_⟩;·exact⟨none,0,e⟩
 exact⟨_,a,e⟩
theorem Hp.setRo{W1}(b:Hp B y d cf h W){v' row'}(o:Um B W1 v' row')(g:W.grownBy W1 (ee d.ro))(p:∀g,ee v'=some g->d.rl.ownBlock≠some g):
  Hp B y {d with ro:=v'} cf {h with row:=row'} (W1.setCell (Qz y.P 116) v')/\Bi B W (W1.setCell (Qz y.P 116) v')/\QG W1 y.P 116 d.ro/\W1.frozen? (Qz y.P 116)=false:=by
 have f:=b.gw (λg a=>lS b.ro a) g;have k:=b.box.ky f.k ar;have i:=k.set 116 Z v';rw[pi cf y d h.used 116 v' {d with ro:=v'} (.inl ⟨rfl,rfl⟩)]at i;have q:=lH b.rl g (λg a e=>b.rr g e a);have l:=k.kyS 116 v';have n:Below B W1 (W1.setCell (Qz y.P 116) v'):=(Fu B W1).grown (au (al W1 y.P) _ _) (Fx b.bW f.bl.size) (λr a=>by simp at a;have:=b.ap.bP;omega);have r:(W1.setCell (Qz y.P 116) v').heap[y.M]?=W1.heap[y.M]?:=GQ _ _ _ _ (λe=>by
  have⟨c,m,_⟩:=b.box;obtain⟨a,⟨s,u,j,_⟩,_⟩:=b.sp.map;rw[e,m]at j;cases j)
 have a:(W1.setCell (Qz y.P 116) v').heap[y.R]?=W1.heap[y.R]?:=GQ _ _ _ _ (λe=>by
  have⟨c,m,_⟩:=b.box;have⟨s,u,j⟩:=b.mp.typ;rw[e,m]at j;cases j)
 exact⟨b.rows ((f.k.more (λt e=>.inl e)).trans (l.more (λt e=>.inr e))) (f.bl.trans n) (r.trans f.m) (a.trans f.r) v' d.rl row' h.rel i (o.ky l ar) (ai q l ar) p,f.bi.trans ⟨n,l.more (λt e=>by subst e;unfold hI;decide)⟩,k.cell 116 Z,k.free 116⟩
def gX(rg:List Rg9)(b:Nat)(st rq:Int):List Rg9:=rg.map λx=>if x.base=b then {x with st:=st,rq:=rq}else x
theorem jG(b:Nat)(a c:Int)(x:Rg9):(if x.base=b then {x with st:=a,rq:=c}else x:Rg9).base=x.base:=by split<;>rfl
theorem Hp.setLg(b:Hp B y d cf h W){r:Rg9}(t:r∈h.rg)(N:∀x∈h.rg,x.base=r.base->x=r){L:Nat}(u:d.lg r.base=some L)(j l:Int)(g:W.grownBy W' (some L))(O:W'.heap[L]?=some (.cells (oV {r with st:=j,rq:=l}) 291)):
  Hp B y d cf {h with rg:=gX h.rg r.base j l} W'/\Bi B W W':=by
 have⟨L',e1,v,f⟩:=b.lb r t;rw[u]at e1;cases e1;have k:Ky (· =291) W W':=Ky.grown f rfl g;have p:Below B W W':=(Fu B W).grown g b.bW (λr t=>by simp at t;omega);have P:W'.heap[y.M]?=W.heap[y.M]?:=g.block _ b.sp.lt.2 (λe=>by
  simp at e;obtain⟨a,⟨Q,R,i,_⟩,_⟩:=b.sp.map;rw[e,f]at i;cases i)
 have S:W'.heap[y.R]?=W.heap[y.R]?:=by
  have⟨Q,R,i⟩:=b.mp.typ;exact g.block _ (ag i) (λe=>by simp at e;rw[e,f]at i;cases i)
 have a:(gX h.rg r.base j l).length=h.rg.length:=by simp[gX]
 have m:=b.mp.same S;rw[<-a]at m;refine⟨⟨b.ap,Fx b.bW p.size,b.box.ky k ar,b.ds.belowB p b.ap.da,b.sp.ky k ar P,b.pg.ky k ar,b.bf,
 λc s n w=>k.cells _ _ _ _ (b.sl c s n w) ar,λc s n w=>cL (b.rw c s n w) k ar,λT V X z A F=>k.cells _ _ _ _ (b.sm T V X z A F) ar,
 λc n=>(b.wt c n).ky k ar ar ar,m,λq=>?_,λx Y=>?_,b.li,b.ro.ky k ar,ai b.rl k ar,b.rr,b.tb.belowB p b.ap.b0⟩,p,k.more (λt e=>by subst e;unfold hI;decide)⟩
 ·show(d.lg q).isSome=(gX h.rg r.base j l).any λr=>r.base==q
  rw[b.lo q];unfold gX;rw[List.any_map];congr 1;funext x;show _=((if x.base=r.base then {x with st:=j,rq:=l}else x:Rg9).base==q);rw[jG]
 obtain⟨G,o,rfl⟩:=FQ.1 Y;rw[jG];by_cases e:G.base=r.base;·have:=N G o e;subst this;rw[GP rfl];exact⟨L,u,v,O⟩
 rw[GO e];have⟨g',K,a2,M⟩:=b.lb G o;refine⟨g',K,a2,?_⟩;rw[g.block _ (ag M) (λa=>by simp at a;rw[a]at K;exact e (b.li _ _ _ K u))];exact M
theorem Hp.cutR(j:Hp B y d cf h W)(b:Nat)(s:(d.lg b).isSome=true)(o:∃r∈h.rg,r.base=b)(p:Mr y.R (h.rg.length-1) (upd d.lg b none) W')(r:W.mapTurned W' y.R)(c:h.rg.length-1<=(h.rg.filter λx=>x.base≠b).length):
  Hp B y {d with lg:=upd d.lg b none} cf {h with rg:=h.rg.filter λx=>x.base≠b} W'/\Bi B W W':=by
 refine j.turn r _ (h.rg.filter λx=>x.base≠b) ?_ (λk=>?_) (λm l=>?_) (λk n g f i=>?_);·have⟨a,f,i,e⟩:=p.map;exact⟨a,f,Fx i c,e⟩
 ·by_cases e:k=b;·subst e;rw[upd_same];simp
  rw[aI _ _ _ _ e,j.lo k,List.any_filter];congr 1;funext x;by_cases a:x.base=k
  ·have:x.base≠b:=λq=>e (a.symm.trans q)
   simp[a,e]
  simp[a]
 ·have⟨f,i⟩:=Gk.1 l;have a:m.base≠b:=by simpa using i
  rw[aI _ _ _ _ a];exact j.lb m f
 have q:∀k,upd d.lg b none k=some g->d.lg k=some g:=λk a=>by
  by_cases e:k=b;·subst e;rw[upd_same]at a;cases a
  rw[aI _ _ _ _ e]at a;exact a
 exact j.li k n g (q k f) (q n i)
theorem nK(W:QM)(B:Nat)(v:QN)(l:List Nat)(x:Nat)(g c:Nat)(b:W.ownsRow B 27 1 v l.length (Us l))(m:QG W g 0 (U x))(s:l.length<=100000)(n:B<=W.heap.size):
  ∃a d,QI 39 v (Vl g 1 c) W a d/\d.ownsRow B 27 1 a (l++[x]).length (Us (l++[x]))/\W.grownBy d v.ownBlock/\(a.ownBlock=v.ownBlock\/a.ownBlock=some W.heap.size):=by
 have⟨o,e,f,i,k⟩:=G0 iY;have⟨a,d,e1,p,q,_,r⟩:=run_append_own_at (P:=prog) W B 39 39 27 o _ 1 8 underlying39 e f i k rfl Z v _ _ b (Qz g 0) 1 c [U x] rfl (λj u b=>by
  cases j with
  |zero=>simp at b;subst b;rw[Addr.add_mid];exact m
  |succ j=>simp at b) (λu b=>by simp at b;subst b;rfl) (by unfold maxLen;omega) Z n
 exact⟨a,d,e1,by rw[FC,k_];exact p,q,r⟩
theorem zw{c:List Rg9}(d:c.Pairwise λa b=>a.first+a.ext<=b.first\/b.first+b.ext<=a.first)(b:Nat):c.length-1<=(c.filter λx=>x.base≠b).length:=by
 induction c with
 |nil=>simp
 | cons r l f=>
  have⟨g,i⟩:=List.pairwise_cons.1 d;by_cases e:r.base=b
  ·have:(l.filter λx=>x.base≠b)=l:=by
    rw[Il];intro x j;have:=g x j;have e1:x.ext=x.guards+x.pages+1:=rfl;have m:r.ext=r.guards+r.pages+1:=rfl;have a:x.base≠b:=λk=>by
     have n:(r.first+r.guards)*1024=(x.first+x.guards)*1024:=e.trans k.symm;omega
    simpa using a
   rw[Ix (by simp[e]),this];simp
  rw[Hn (by simp[e])];have:=f i;simp only[FN];omega
end
section
variable {cf:Cf}{h:Hs}{r:Rg9}{T p:Nat}{W:World}{tk:Nat->Bool}{rg:List Rg9}
inductive AG(y:Ly)(d:Dy):Fd->Ending->Prop
 |slot (c s j:Nat):AG y d (.slot c s j) (.returned (.iface 268 (J (y.sm c s j) 0)))
 |range (r:Rg9) (g:Nat) (h:d.lg r.base=some g):AG y d (.range r) (.returned (.iface 278 (J g 0)))
 |no (code:Int):AG y d (.no code) (.panicked (ip code))
theorem Inv.baseP(i:Inv cf h)(a:r∈h.rg):191488<=r.base/\r.base<289792/\r.base/1024=r.first+r.guards/\r.base%1024=0:=by
 have⟨c,b,d,e,f,_⟩:=i.rgs r a;unfold Rg9.ext at b;unfold Rg9.base;omega
theorem sy{c s j:Nat}(h:ce p=some (c,s,j)):p<191488:=by
 have⟨a,b,d,e⟩:=gB h;have:=ca a b d;omega
theorem lG(h:191488<=p):ce p=none:=by
 cases e:ce p with
 |none=>rfl
 |some t=>obtain⟨c,s,j⟩:=t;have:=sy e;omega
theorem Inv.relP(i:Inv cf h)(b:p∈h.rel):aB h p=.no 4:=by
 have⟨k,l,m,d⟩:=i.rel p b;unfold aB;rw[lG Z];dsimp only;cases e:h.rg.find? λr=>r.base==p with
 |some r=>
  exfalso;have a:=Ip e;have c:=List.find?_some e;simp at c;have f:=i.baseP a;have g:=d r a;have⟨n,o,q,s,j,_⟩:=i.rgs r a;unfold Rg9.ext at g;rw[c]at f;omega
 |none=>
  dsimp only;rw[GP (List.contains_iff_mem.2 b)]
theorem Hp.lcAt{B y d}(c:Hp B y d cf h W)(i:Inv cf h)(b:r∈h.rg):∃g,d.lg r.base=some g/\Lc g r W:=by
 have⟨g,e,k,a⟩:=c.lb r b;have⟨l,f,m,n,j,_⟩:=i.rgs r b;unfold Rg9.ext at f;exact⟨g,e,bJ a,bJ a,bJ a,bJ a,bJ a,Z,Z,Z⟩
theorem nJ(B y d cf h)(p:Nat)(W)(m:Hp B y d cf h W)(i:Inv cf h)(O:p<18446744073709551616)(P:h.rel.length<=100000):
  QA 104 #[J y.P 0,U p] W λe W'=>AG y d (aB h p) e/\D W W':=by
 have⟨va,vn,vc,hv⟩:=aA m.rl;have n:W.cell? (Qz y.P 117)=some (.slice va vn vc):=by rw[<-hv];exact m.cell 117 Z _ rfl
 have u:=H (qw B va vn vc p h.rel W (by rw[<-hv];exact m.rl) P);have⟨v,L,o,A⟩:=Qf (DI B y d cf h p W m O) fx (λV(M:D W V)=>m.below M) (m.lo p);by_cases K:p∈h.rel;·have a:=H (i.relP K);rw[List.contains_iff_mem.2 K]at u;go_enter func104,ntmps104;go_wp2_with fail;refine(u).mono ?_;rintro e Q⟨rfl,rfl⟩;go_wp2;rw[a];exact⟨rfl,.no 4,Fu _ _⟩
 have t:h.rel.contains p=false:=by
  cases R:h.rel.contains p with
  |false=>rfl
  |true=>exact absurd (List.contains_iff_mem.1 R) K
 rw[t]at u;cases x:d.lg p with
 | some g=>
  rw[x]at A;have f:h.rg.any (λr=>r.base==p)=true:=A.symm;obtain⟨r,b⟩:∃r,h.rg.find? (λr=>r.base==p)=some r:=by
   cases e:h.rg.find? λr=>r.base==p with
   |some r=>exact⟨r,rfl⟩
   |none=>
    exfalso;have⟨r,S,T⟩:=List.any_eq_true.1 f;exact List.find?_eq_none.1 e r S T
  have a:=Ip b;have c:=List.find?_some b;simp at c;have l:=i.baseP a;have⟨g',j,s⟩:=m.lcAt i a;rw[c,x]at j;cases j;have q:=(i.rgs r a).2.2.2.2.2;have F:=H (show ym y d p=.iface 278 (J g 0) by unfold ym;rw[x]);rw[F]at v;have X:=H (λV(M:D W V)=>(s.below M).c0);have mk:=λw=>yQ g w
  have k:=H (show aB h p=if r.st=1 then .range r else .no 4 by unfold aB;rw[lG Z];dsimp only;rw[b]);have N:=H (show d.lg r.base=some g by rw[c];exact x);go_enter func104,ntmps104;go_wp2_with fail;refine(u).mono ?_;rintro e Q⟨rfl,rfl⟩;go_wp2_with fail;refine(v).mono ?_;rintro e V⟨rfl,z⟩;have G:=H z;have Y:=X.out V z;go_wp2_with fail;refine(L _ _).mono ?_;rintro e V2⟨rfl,rfl⟩;rcases q with⟨l,_⟩|⟨l,_⟩;·have a:=H (show aB h p=.range r by rw[k,GP l]);rw[l]at Y;go_wp2_with fail;refine(L _ _).mono ?_;rintro e V3⟨rfl,rfl⟩;go_wp2;go_ret;rw[a];exact⟨.range r g N,G⟩
  have a:=H (show aB h p=.no 4 by rw[k,GO Z]);rw[l]at Y;go_wp2_with fail;refine(L _ _).mono ?_;rintro e V3⟨rfl,rfl⟩;go_wp2;rw[a];exact⟨rfl,.no 4,G⟩
 | none=>
  rw[x]at A;have b:h.rg.find? (λr=>r.base==p)=none:=by
   refine List.find?_eq_none.2 (λr S T=>?_);have:h.rg.any (λr=>r.base==p)=true:=List.any_eq_true.2 ⟨r,S,T⟩;rw[<-A.out]at this;cases this
  cases f:ce p with
  |none=>
   have F:=H (show ym y d p=.nilIface by unfold ym;rw[x,f]);rw[F]at v;have k:=H (show aB h p=.no 3 by unfold aB;rw[f];dsimp only;rw[b];dsimp only;rw[t];rfl);go_enter func104,ntmps104;go_wp2_with fail;refine(u).mono ?_;rintro e Q⟨rfl,rfl⟩;go_wp2_with fail;refine(v).mono ?_;rintro e V⟨rfl,z⟩;have G:=H z;go_wp2;rw[k];exact⟨rfl,.no 3,G⟩
  |some q=>
   have⟨c,s,j⟩:=q;have⟨R,hs,hj,g⟩:=gB f;have F:=H (show ym y d p=.iface 268 (J (y.sm c s j) 0) by unfold ym;rw[x,f]);rw[F]at v;have X:=H (λV(M:D W V)=>((o V M).smAt c s j R hs hj).1);have k:=H (show aB h p=if h.st c s j=1 then .slot c s j else if h.st c s j=0 then .no 3 else .no 4 by unfold aB;rw[f]);have LS:=H (AG.slot (y:=y) (d:=d) c s j);have mk:=λw=>zQ (y.sm c s j) w
   generalize y.sm c s j=gm at*;generalize h.st c s j=N at*;go_enter func104,ntmps104;go_wp2_with fail;refine(u).mono ?_;rintro e Q⟨rfl,rfl⟩;go_wp2_with fail;refine(v).mono ?_;rintro e V⟨rfl,z⟩;have G:=H z;have Y:=X.out V z;go_wp2_with fail;refine(L _ _).mono ?_;rintro e V2⟨rfl,rfl⟩;by_cases g:N=0;·have a:=H (show aB h p=.no 3 by rw[k,GO Z,GP g]);subst g;go_wp2;rw[a];exact⟨rfl,.no 3,G⟩
   have a0:(N==0)=false:=(by simpa using g);by_cases l:N=1;·have a:=H (show aB h p=.slot c s j by rw[k,GP l]);subst l;go_wp2_with fail;refine(L _ _).mono ?_;rintro e V3⟨rfl,rfl⟩;go_wp2;go_ret;rw[a];exact⟨LS,G⟩
   have a:=H (show aB h p=.no 4 by rw[k,GO l,GO g]);have a1:(N !=1)=true:=(by simpa using l);go_wp2_with fail;refine(L _ _).mono ?_;rintro e V3⟨rfl,rfl⟩;go_wp2;rw[a];exact⟨rfl,.no 4,G⟩
def Ta(T:Nat)(tk:Nat->Bool)(W:World):Prop:=∃c,W.heap[T]?=some (.cells c 340)/\c.size=96/\∀q,q<96->c[q]?=some (.bool (tk q))
theorem Ta.cell{T tk W}(h:Ta T tk W)(q:Nat)(b:q<96):W.cell? (Qz T q)=some (.bool (tk q))/\W.frozen? (Qz T q)=false:=by
 have⟨c,a,e,d⟩:=h;exact⟨by rw[GT _ _ _ _ _ _ a];exact d q b,by simp[QD,a]⟩
theorem Ta.lt(h:Ta T tk W):T<W.heap.size:=by
 have⟨c,a,_⟩:=h;exact ag a
theorem Ta.same{W':QM}(h:Ta T tk W)(e:W'.heap[T]?=W.heap[T]?):Ta T tk W':=by
 have⟨c,a,b⟩:=h;exact⟨c,e.trans a,b⟩
theorem Ta.eq{tk':Nat->Bool}(h:Ta T tk W)(e:∀q,q<96->tk' q=tk q):Ta T tk' W:=by
 have⟨c,b,d,f⟩:=h;exact⟨c,b,d,λq a=>by rw[e q a];exact f q a⟩
theorem Ta.set(h:Ta T tk W)(k:Nat)(b:k<96):Ta T (λq=>tk q || decide (q=k)) (W.setCell (Qz T k) Ql):=by
 have⟨c,d,a,f⟩:=h;refine⟨c.setIfInBounds k Ql,by simp[World.setCell,FD,d],by simpa using a,λq g=>?_⟩;rw[FK];by_cases e:k=q;·subst e;simp[a,b]
 rw[GO e,f q g];have:decide (q=k)=false:=bG;dsimp only;rw[this,Bool.or_false]
theorem hJ{W'}(h:D W W'):W.grownBy W' none:=⟨h.os,h.tape,h.output,h.size,λk a _=>h.block k a⟩
def rt(c:Option Nat):Value:=.pointer (c.map λb=>⟨b,0,none⟩)
theorem tS:Tryz.zeroCells340=Array.replicate 96 Qk:=E
def eX(rg:List Rg9)(left:Lit->Bool):List Rg9:=rg.filter λr=>!left (.int .u64 (r.base:Nat))
theorem vP{left:Lit->Bool}(h:∀r∈rg,left (.int .u64 (r.base:Nat))=true)(q):gY (eX rg left) q=false:=by
 have:eX rg left=[]:=by
  unfold eX;rw[IC];intro r a;rw[h r a];simp
 rw[this];rfl
theorem qn{left:Lit->Bool}(h:∀a,left a=false):eX rg left=rg:=by
 unfold eX;rw[Il];intro r a;rw[h];rfl
theorem vE{left:Lit->Bool}(d:r∈rg)(c:∀a∈rg,a.base=r.base->a=r)(q):gY (eX rg (λz=>left z && !z.sameKey (.int .u64 (r.base:Nat)))) q=(gY (eX rg left) q || (decide (r.first<=187+q)&&decide (187+q<r.first+r.ext))):=by
 unfold gY eX;rw[List.any_filter,List.any_filter];cases e:(decide (r.first<=187+q)&&decide (187+q<r.first+r.ext))with
 |true=>
  rw[Bool.or_true,List.any_eq_true];refine⟨r,d,?_⟩;rw[e];simp[Lit.sameKey]
 | false=>
  rw[Bool.or_false];rw[Bool.eq_iff_iff,List.any_eq_true,List.any_eq_true];constructor
  ·rintro⟨x,hx,hc⟩;refine⟨x,hx,?_⟩;by_cases b:x.base=r.base;·have:=c x hx b;subst this;rw[e]at hc;simp at hc
   have a:(Lit.int .u64 (x.base:Nat)).sameKey (.int .u64 (r.base:Nat))=false:=by
    simp[Lit.sameKey];omega
   dsimp only at hc;rw[a]at hc;simpa using hc
  rintro⟨x,hx,hc⟩;refine⟨x,hx,?_⟩;by_cases b:x.base=r.base;·have:=c x hx b;subst this;rw[e]at hc;simp at hc
  have a:(Lit.int .u64 (x.base:Nat)).sameKey (.int .u64 (r.base:Nat))=false:=by
   simp[Lit.sameKey];omega
  dsimp only;rw[a];simpa using hc
theorem Inv.uniq(i:Inv cf h){f:Rg9}(k:r∈h.rg)(c:f∈h.rg)(e:f.base=r.base):f=r:=by
 have s:=i.baseP k;have n:=i.baseP c;have p:=i.rgs r k;have q:=i.rgs f c;have⟨a,ha⟩:=He k;have⟨b,l⟩:=He c;have g:=Fz.1 ha;have j:=Fz.1 l;have o:=II.1 i.apart;unfold Rg9.ext at p q;rcases Ie a b with d|m|d;·have:=o a b g.1 j.1 d;rw[g.2,j.2]at this;unfold Rg9.ext at this;rw[e]at n;omega
 ·subst m;rw[ha]at l;exact(GB l).symm
 have:=o b a j.1 g.1 d;rw[g.2,j.2]at this;unfold Rg9.ext at this;rw[e]at n;omega
inductive DY(W:World):Option Nat->Ending->World->Prop
 |yes (s:Nat) (W':World) (b:D W W'):DY W (some s) (.returned (I s)) W'
 |no (W':World) (b:D W W'):DY W none (.panicked (ip 1)) W'
theorem zx(B y d cf h)(n:Nat)(W)(a:Hp B y d cf h W)(i:Inv cf h)(hn:1<=n)(b6:n<=18014398509482000):
  QA 209 #[.pointer (some ⟨y.P,0,none⟩),.int .i64 (n:Nat)] W (DY W (dV h n)):=by
 have K:=H (λV(o:D W V)=>a.below o);have HI:=H i;have LS:=H (λV(o:D W V)=>iI V (a.below o).tb);clear a i;go_enter func209,ntmps209;go_upto_region 2 with fail
 have m:D W (W.alloc (.cells Tryz.zeroCells340 340)):=(Fu _ _).alloc (Fv _) _;have j:Ta W.heap.size (λ_=>false) (W.alloc (.cells Tryz.zeroCells340 340)):=⟨_,ao W _,by rw[tS];simp,λq hq=>by rw[tS];simp[hq]⟩;have b:=K.out _ m;have⟨a,e,b7,k,f⟩:=b.mp.map;have l:=b.cell 115 Z (.map (some y.R)) rfl;have g:=H (show y.R<(W.alloc (.cells Tryz.zeroCells340 340)).heap.size by obtain⟨es,c,hR⟩:=b.mp.typ;exact ag hR);have b3:=H (show y.R<W.heap.size by obtain⟨es,c,hR⟩:=(K W (Fu _ _)).mp.typ;exact ag hR);generalize W.alloc _=V at*;have⟨T,hT⟩:=Qb W.heap.size;rw[<-hT]at j⊢;have HT:=H hT;clear hT;have HD:=H (IT k f);have b8:=H b.lb;have a0:=H b.lo;have BT:=H m;clear b k f m;go_wp2_with (at_range;refine wpList_range_own _ rfl _ 152 rfl 27 278 fa underlying152 ev y.R 4096 a rfl e ?_;intro w0 b f k)
 go_frame
 have⟨r,F⟩:=Qb V.heap.size;have m:D V w0:=(Fu V.heap.size V).grown f (Fv _) bH;have p:=H (j.same (m.block _ j.lt));have B0:=H (BT.trans (m.mono BT.size));have a1:=H (show T<r by rw[F];exact j.lt);have b4:=H (show W.heap.size<=r by rw[F];exact BT.size);have c0:=H (show y.R<r by rw[F];exact g);rw[<-F]at b⊢;have a2:=H b;have a3:=H (p.eq (tk':=gY (eX h.rg (has a))) (λq hq=>vP (λr F=>by
  have h1:=HI.baseP F;rw[HD.2 r.base Z,a0 r.base];exact List.any_eq_true.2 ⟨r,F,bH⟩) q))
 clear b f k e j p m F l g;go_loopw [7] (λ_ wr=>∃(left:Lit->Bool)(O:Nat),Hid (wr.ranges prog 27 ev y.R r 4096 a left O)/\Hid (Ta T (gY (eX h.rg left)) wr)/\Hid (D W wr)) (λ_ wr=>wr.rangeLeft y.R r);case atStart=>exact⟨_,_,a2,a3,B0⟩
 case round=>
  have⟨left,O,G,p,l⟩:=hrel;clear a2 a3 B0;go_wp2_with (at_next;refine wpList_next_ranges _ rfl _ rfl 27 fa ev (Value.int .u64) rt (λb kl hk=>by obtain⟨x,rfl,_⟩:=Maps.keyOf_int_inv underlying27 hk;exact⟨x,rfl⟩) (λv y hv=>by exact(hF hv).elim (λ⟨b,e,_⟩=>⟨some b,e⟩) (λ⟨e,_⟩=>⟨none,e⟩)) y.R r 4096 a left O rfl G ?_ ?_)
  ·intro g f;have s:=H (show Ta T (gY h.rg) wr by have:=p.out;rw[qn f]at this;exact this);clear p G g f HD;have z:=H (show∀r∈h.rg,187<=r.first/\1<=r.ext from λr F=>by
    have:=HI.rgs r F;unfold Rg9.ext;omega)
   go_wp2;go_loopw [9,35] (λf i Y=>∃k:Nat,k<=96/\i=.int .i64 k/\f=.int .i64 (NY (gY h.rg) k:Nat)/\Hid (∀j,j<=k->NY (gY h.rg) j<n)/\Hid (Ta T (gY h.rg) Y)/\Hid (D W Y)) (λ_ i _=>96-(intOf i).toNat)
   case atStart=>exact⟨0,FH _,rfl,rfl,H (λj X=>by
    obtain rfl:j=0:=Z;show 0<n;omega),s,l⟩
   case round=>
    clear s l;obtain⟨k,hk,rfl,rfl,g,s,m⟩:=hrel;by_cases L:k<96
    ·have M:=(s.cell k L).1;have a4:=pe (gY h.rg) k;have w:=H (show NY (gY h.rg) (k+1)=if gY h.rg k then 0 else NY (gY h.rg) k+1 from rfl);have v:=H (λh1=>Pd z hn L h1 g);generalize gY h.rg k=tk at*;cases tk with
     | true=>
      have N:=H (show∀j,j<=k+1->NY (gY h.rg) j<n from λj X=>by
       by_cases e:j=k+1;·subst e;rw[w];simp;omega
       exact g j Z)
      have t:((0:Int)==(n:Int))=false:=bG;have f:=H (show NY (gY h.rg) (k+1)=0 by rw[w];rfl);generalize NY (gY h.rg) k=A at*;clear w v g;go_wp2;go_roundw;(case rel=>exact⟨k+1,Z,aY,by rw[f];rfl,N,s,m⟩);case measure=>simp[intOf];omega
     | false=>
      have f:=H (show NY (gY h.rg) (k+1)=NY (gY h.rg) k+1 by rw[w];rfl);have a5:=g.out k (Fv _);generalize t:NY (gY h.rg) k=A at*;clear t;by_cases P:A+1=n
      ·have Q:=H (v (by rw[f];exact P));have t:((A:Int)+1==(n:Int))=true:=bG;have u:=H (LS wr m);have R:=H (show((187+(k+1-n):Nat):Int)=187+(k:Int)+1-(n:Int) by omega);clear w v g f P;go_wp2_with fail;refine(u).mono ?_;rintro e V9⟨rfl,b9⟩;have B9:=H (m.trans (b9.mono m.size));clear b9 u;go_wp2;go_ret;rw[Q];have:=DY.yes (W:=W) (187+(k+1-n)) V9 B9;rw[R]at this;exact this
      have N:=H (show∀j,j<=k+1->NY (gY h.rg) j<n from λj X=>by
       by_cases e:j=k+1;·subst e;rw[f];omega
       exact g j Z)
      have t:((A:Int)+1==(n:Int))=false:=bG;clear w v g P;go_wp2;go_roundw;(case rel=>exact⟨k+1,Z,aY,by rw[f];simp,N,s,m⟩);case measure=>simp[intOf];omega
    obtain rfl:k=96:=Z;have Q:=H (sI z hn g);generalize NY (gY h.rg) 96=A at*;clear g;go_wp2;refine⟨rfl,?_⟩;rw[Q];exact .no _ m
  intro x c kl yd yp M v N a4 hv w z L P a8 t;obtain⟨x',ex,rfl,X⟩:=Maps.keyOf_int_inv underlying27 N;cases ex;have a9:=bounds_u64 X;obtain⟨kk,rfl⟩:∃kk:Nat,x=(kk:Int):=⟨x.toNat,Z⟩;have Q:=has_true_of_atKey w;rw[HD.2 kk Z,a0 kk]at Q;have⟨f,A,a5⟩:=List.any_eq_true.1 Q;simp at a5;subst a5;have⟨g,R,lc⟩:=(K W (Fu _ _)).lcAt HI A;have e1:=w .nil;rw[HD.1 f.base Z,R]at e1;obtain rfl:c=some g:=by
   cases c with
   |none=>simp[rt,ev]at hv;rw[<-hv.1]at e1;simp[sG]at e1
   |some b=>
    simp[rt,ev]at hv;rw[<-hv.1]at e1;simp[sG]at e1;have:b=g:=Z;rw[this]
  have b2:D W M:=l.grown P l.size (λj e=>by cases e;exact b4);have B2:=H b2;have a6:=H (p.same (P.block _ p.lt (λe=>by simp at e;have:=a1.out;omega)));have G2:=H z;have LE:=H (IT z.left_eq G.left_eq);have LC:=H (λV(o:D W V)=>lc.below o);have EX:=H (λV(o:D W V)=>iE g f V (lc.below o));have b5:=HI.rgs f A;have a7:=H (λq=>vE (left:=left) A (λb b e=>HI.uniq A b e) q);have c1:=H (show g≠T by
   have:=(K W (Fu _ _)).lb f A;have⟨g',h1,h2,h3⟩:=this;rw[R]at h1;cases h1;have:=ag h3;rw[HT];omega)
  unfold rt at t⊢;simp only[Hi]at t⊢;have c2:f.ext<=96:=Z;have c3:f.first<=283:=Z
  have c4:187<=f.first:=Z
  have c5:f.first+f.ext<=283:=Z
  clear N a4 hv w z P a8 Q e1 p l G R lc b5 b2 a9 X;generalize l:f.base=bs at*;clear l;go_wp2_with fail;refine(EX _ B2).mono ?_;rintro e w3⟨rfl,rfl⟩;clear EX;have G3:=H (show M.drew.ranges prog 27 ev y.R r 4096 a (λz=>left z && !z.sameKey (.int .u64 (bs:Nat))) v from G2.kept ((Fu M.heap.size M).drew |> hJ) bH bH);have a8:=H (show Ta T (λq=>gY (eX h.rg left) q || (decide (f.first<=187+q)&&decide (187+q<f.first+0))) M.drew from(a6.same (W':=M.drew) rfl).eq (λq hq=>by
   have:(decide (f.first<=187+q)&&decide (187+q<f.first+0))=false:=by simp<;>omega
   rw[this,Bool.or_false]))
  have B3:=H (show D W M.drew from B2.drew);clear G2 a6 B2 t;generalize M.drew=W3 at*;go_wp2;go_loopw [22] (λi Y=>∃k:Nat,k<=f.ext/\i=.int .i64 k/\Hid (Y.ranges prog 27 ev y.R r 4096 a (λz=>left z && !z.sameKey (.int .u64 (bs:Nat))) v)/\Hid (Ta T (λq=>gY (eX h.rg left) q || (decide (f.first<=187+q)&&decide (187+q<f.first+k))) Y)/\Hid (D W Y)) (λi _=>f.ext-(intOf i).toNat);case atStart=>exact⟨0,FH _,rfl,G3,a8,B3⟩
  case round=>
   clear G3 a8 B3;obtain⟨k,hk,rfl,G,s,m⟩:=hrel;by_cases a4:k<f.ext
   ·obtain⟨w,p⟩:∃w:Nat,f.first=187+w:=⟨f.first-187,Z⟩
    have⟨l,P⟩:=Qb (w+k);have N:l<96:=Z;have CK:=H (λV(o:D W V)=>(LC V o).c2);have u:=H (λV(o:D W V)=>LS.out V o);have b5:IntKind.i64.wrap ((f.first:Int)-187)=(w:Int):=(by rw[iV _ Z Z];omega);have c6:IntKind.i64.wrap ((w:Int)+(k:Int))=(l:Int):=(by rw[iV _ Z Z];omega);have a6:=H (show∀q,q<96->(gY (eX h.rg left) q || (decide (f.first<=187+q)&&decide (187+q<f.first+(k+1))))=((gY (eX h.rg left) q || (decide (f.first<=187+q)&&decide (187+q<f.first+k))) || decide (q=l))from λq hq=>by
     rw[p,P];by_cases e:q=w+k;·subst e;simp;omega
     rw[show decide (q=w+k)=false by simp[e],Bool.or_false];congr 2;exact decide_eq_decide.2 Z)
    generalize Q:f.first=fs at*
    clear Q p P;(go_upto_region 8 with fail);refine rh (S:=λa=>a.cell? ⟨g,2,none⟩=some (.int .i64 (fs:Nat))) ?_;have p:=CK.out wr.drew m.drew;refine pk 0 (.pointer (some ⟨g,0,none⟩)) p ?_;refine pk 1 (.pointer (some ⟨g,0,none⟩)) p ?_;refine pk 2 (.pointer (some ⟨g,2,none⟩)) p ?_;refine pz 3 (.int .i64 (fs:Nat)) p ?_;refine pk 6 (.int .i64 (k:Nat)) p ?_;refine po 4 λK' hK=>?_;go_simp;refine(u _ m.drew).mono ?_;rintro e U1⟨rfl,P⟩;have k1:D W U1:=m.drew.trans (P.mono m.size);have q1:=CK.out _ k1;have Q:D wr U1:=⟨P.os,P.tape,P.output,P.size,P.block⟩;have R:=s.same (Q.block _ s.lt);have g1:=G.kept (hJ Q) bH bH;refine hK _ _ ⟨q1,?_⟩;clear p;have p:=q1;have⟨cT,fT⟩:=R.cell l N;clear hK K';refine pz 5 (.int .i64 (w:Nat)) p ?_;refine pz 7 (.int .i64 (l:Nat)) p ?_;refine pz 8 (.pointer (some ⟨T,l,none⟩)) p ?_;refine po 9 λK' hK=>?_
    go_simp;have a9:=R.set l N;have X:=au (al U1 T) l (.bool true);have g2:=g1.kept X (by simp;have:=b3.out;have:=HT.out;omega) (by simp;have:=a1.out;omega);have k2:D W (U1.setCell ⟨T,l,none⟩ (.bool true)):=k1.grown X k1.size (λj e=>by simp at e;have:=HT.out;omega);have q2:=CK.out _ k2;refine hK _ _ ⟨q2,?_⟩;clear hK K';refine bY ?_;have FF:=H (IT g2 (IT (a9.eq a6) k2));clear g2 a9 k2 q2 k1 q1 R g1 P Q X cT fT p CK u a6 G s m;go_wp2;go_roundw;(case rel=>exact⟨k+1,Z,aY,H FF.1,H FF.2.1,H FF.2.2⟩);case measure=>simp[intOf];omega
   obtain rfl:k=f.ext:=Z;have l:=H (s.eq (λq hq=>a7.out q));have p:=H G.left_eq;go_wp2;go_roundw;(case rel=>exact⟨_,v,G,l,m⟩);case measure=>rw[p,LE.2];exact L
theorem AZ(w:QM):(zeroValue 27).run prog w=.ok (U 0) w:=E
theorem ig(w:QM)(g:Nat):∀(b:List QN)(o:Nat)(a:QM),a.grownBy w (some g)->a.grownBy (w.setCells g o b) (some g)
 |[],o,a,h=>h
 |v::b,o,a,h=>by
  show a.grownBy ((w.setCell (Qz g o) v).setCells g (o+1) b) (some g)
  exact ig _ g b (o+1) a (au h o v)
theorem Ct.cells{g cap n l is j}: ∀(a:List QN)(o:Nat){W:QM},Ct g cap n l is j W->is.length<=o->n<=j->Ct g cap n l is j (W.setCells g o a)
 |[],o,W,h,_,_=>h
 |v::a,o,W,h,k,b=>by
  show Ct g cap n l is j ((W.setCell (Qz g o) v).setCells g (o+1) a)
  refine Ct.cells a (o+1) ?_ Z b
  have⟨c,d,e,f,m⟩:=h.row
  refine⟨c.setIfInBounds o v,by simp[World.setCell,FD,d],by simpa using e,λq i=>?_,λq p r=>Z⟩
  rw[FK,GO Z]
  exact f q i
theorem Ct.own{B:Nat}{g cap n l is j}(h:Ct g cap n l is j W)(b:B<=g)(d:is.length<=cap)(e:cap<=maxLen):W.ownsRow B 27 1 (Vl g is.length cap) is.length (Us is):=by
 have⟨c,f,k,i,m⟩:=h.row;refine⟨by simp[Us],.inr ⟨g,cap,c,rfl,b,f,d,e,Z,?_⟩⟩;rw[Nat.mul_one];apply Ho;intro q;by_cases a:q<is.length;·rw[Hf a,Gg,i q a];simp[Us,a]
 rw[FJ bG,FJ (by simp[Us];omega)]
def Fe(B:Nat)(u:Option Addr)(i j:Nat)(t:List Nat)(W:World)(e:Ending)(W':World):Prop:=∃v',e=.returned v'/\W'.ownsRow B 27 1 v' t.length (Us t)/\W.grownBy W' (Value.slice u i j).ownBlock/\v'.ownBlock=(Value.slice u i j).ownBlock
theorem hE{V c:QM}{o:Option Nat}(h:W.grownBy V o)(b:D V c):W.grownBy c o:=⟨b.os.trans h.os,b.tape.trans h.tape,b.output.trans h.output,Fx h.size b.size,λk d a=>(b.block k (FG d h.size)).trans (h.block k d a)⟩
theorem nu(B:Nat)(L r)(S:QP)(T u:Nat)(l:List Nat)(W:QM)(h:W.ownsRow B 27 1 (.slice S T u) l.length (Us l))(hl:l.length<=100000)(K:∀x∈l,x<18446744073709551616)(a:Lc L r W)(d:∃c,W.heap[L]?=some (.cells c 291)):
  QA 214 #[.slice S T u,.func (.func 215) #[J L 0] #[]] W (Fe B S T u (l.filter λx=>!nr r x) W):=by
 have R:=H (oY B L r S T u l W h hl K a);have Y:=(lA h).1;subst Y;have⟨A,HX,b,HL⟩:=Qf h K a d;clear h K a d;go_enter func214,ntmps214;go_wp2_with fail;refine(R).mono ?_;rintro e V⟨t,⟨rfl,M⟩|⟨k,hk,rfl,o,d⟩⟩;·have f:=H (show l.filter (λx=>!nr r x)=l by rw[Il];intro x K;rw[M x K];rfl);have a:=H t;clear t M;go_wp2;go_ret;rw[f];exact⟨_,rfl,ax A a,hE ⟨rfl,rfl,rfl,Fv _,λ_ _ _=>rfl⟩ a,rfl⟩
 have⟨g,hg⟩:=cr A Z;subst hg;have N:∃p f,u=p/\B<=g/\W.heap[g]?=some (.cells f 27)/\l.length<=p/\p<=maxLen/\f.size=p/\f.toList.take l.length=Us l:=by
  rcases A.2 with⟨e,_⟩|⟨m,p,f,e,F,O,a,i,n,j⟩;·cases e
  cases e;exact⟨u,f,rfl,F,O,a,i,Z,by simpa using j⟩
 obtain⟨p,f,rfl,hB,m,a0,a1,v,n⟩:=N;have y:Ct g u l.length l (dW r l k) (k+1) V:=by
  refine⟨f,(t.block _ (ag m)).trans m,v,λq G=>?_,λq F O=>?_⟩
  ·rw[kq r l k Z d]at G⊢;rw[Hm]at G;have e1:(f.toList.take l.length)[q]?=(Us l)[q]?:=(by rw[n]);rw[Hf Z,Gg]at e1;rw[e1,Hf Z];simp[Us,show q<l.length by omega]
  have e1:(f.toList.take l.length)[q]?=(Us l)[q]?:=by rw[n]
  rw[Hf Z,Gg]at e1;rw[e1];simp[Us,O]
 have s:dW r l (k+1)=dW r l k:=by rw[jb r l k hk,GP o,Gl]
 have w:(dW r l k).length=k:=by rw[kq r l k Z d,Hm];omega
 have⟨KL,P⟩:=y7 (λj(F:k<j)(O:j<=l.length)=>yG r l k j F O o) (hE (al W g) t);have Q:=H (show Ct g u l.length l (dW r l (k+1)) (k+1) V by rw[s];exact y);have a2:=H (show(dW r l (k+1)).length=k by rw[s];exact w);have KS:=H (λj F=>jb r l j F);have KW:=H (show dW r l l.length=l.filter (λx=>!nr r x) by unfold dW;rw[G9]);have CV:=H (λa(hU:W.grownBy a (some g))x(hx9:x<18446744073709551616)=>n_ L x r a (by
  have⟨c,X⟩:=HL.out;have a3:L≠g:=λe=>by rw[e,m]at X;simp at X
  have e1:a.heap[L]?=W.heap[L]?:=hU.block L (ag X) (by simpa using a3);have z:∀i,a.cell? (Qz L i)=W.cell? (Qz L i):=λi=>by unfold World.cell?;rw[e1]
  exact⟨(z 0).trans b.c0,(z 1).trans b.c1,(z 2).trans b.c2,(z 3).trans b.c3,(z 4).trans b.c4,b.hf,b.hu,b.hp⟩) hx9)
 clear y s w R t A m n v HL b d o;generalize b:l.length=n at*;have HN:=H b;clear b;have a7:((k:Int) == -1)=false:=by simp<;>omega
 go_wp2;go_loopw [5,6] (λi j wr=>∃b:Nat,k<b/\b<=n/\j=I b/\i=I ((dW r l b).length:Nat)/\Hid (Ct g u n l (dW r l b) b wr)/\Hid (W.grownBy wr (some g))) (λ_ j _=>n-(intOf j).toNat);case atStart=>exact⟨k+1,Z,Z,aY,by rw[a2],Q,P⟩
 case round=>
  clear Q P;obtain⟨j,a3,hj,rfl,rfl,A,R⟩:=hrel;by_cases y:j<n
  ·have m:=A.cell (Fv j) y;have a4:l[j]?.getD 0<18446744073709551616:=HX.out _ (by rw[Fy (by rw[HN];exact y)];exact Iw _);have X:=H (KS j y);have w:=nZ r l j;generalize G:l[j]?.getD 0=q at*;clear G;have s:=H (CV wr R q a4);rw[show(decide (r.first<=q/1024)&&decide (q/1024<r.first+r.ext))=nr r q from rfl]at s;generalize z:dW r l j=b at*;clear z;go_wp2_with fail;refine(s).mono ?_;rintro e a⟨rfl,t⟩;have⟨d,v⟩:=y7 (A.same (t.block _ A.lt)) (hE R t);clear t m A R;cases o:nr r q with
   |true=>
    have m:=H (show dW r l (j+1)=b by rw[X,o];simp);go_wp2;go_roundw;(case rel=>exact⟨j+1,Z,Z,aY,by rw[m],H (by rw[m];exact d.skip),v⟩);case measure=>exact QE
   |false=>
    have m:=H (show dW r l (j+1)=b++[q] by rw[X,o];simp);have⟨v0,c0⟩:=d.anyC (q:=b.length) Z;have f0:=d.free b.length;have⟨a5,a6⟩:=y7 (d.put q w y a0) (au v b.length (U q));have a8:(b.length:Int)<(n:Int):=Z;generalize s:b.length=il at*;have t:=H s;clear s;go_wp2;go_roundw;(case rel=>exact⟨j+1,Z,Z,aY,by rw[m,FC,t];simp,H (by rw[m];exact a5),a6⟩);case measure=>exact QE
  obtain rfl:j=n:=Z;have X:=KL.out j a3 (Fv _);generalize z:dW r l j=b at*;have a4:=H z;clear z;have a5:∀d,(Builtin.clear_ #[39] d #[.slice (some (Qz g b.length)) (j-b.length) (u-b.length)]).run prog wr=.ok (.tuple #[]) (wr.setCells g b.length (List.replicate (j-b.length) (U 0))):=
   λd=>Lib.run_clear_slice wr 39 27 d (U 0) underlying39 AZ rfl rfl g b.length _ _ Z (λq G=>by obtain⟨v,hv⟩:=A.anyC (q:=b.length+q) Z;rw[hv];rfl) (λq G=>A.free _)
  have⟨m,v⟩:=y7 (A.cells (List.replicate (j-b.length) (U 0)) b.length (Fv _) (Fv _)) (ig wr g (List.replicate (j-b.length) (U 0)) b.length W R);clear A R;generalize s:b.length=il at*;have t:=H s;clear s;go_wp2;go_ret;refine⟨_,rfl,?_,v,rfl⟩;have A:=m.own hB (by rw[t];omega) a1;rw[t]at A;rw[<-KW.out,t];exact A
end
section
variable {g:Nat}{W:World}
theorem uO{cf h}(i:Inv cf h){s p:Nat}(a:dV h (g+p+1)=some s):(∀j,j<p->(h.m (s+g+j)).isSome=false)/\(h.rg.any λr=>r.base==(s+g)*1024)=false:=by
 have⟨k,l,c⟩:=gO a;constructor
 ·intro j e;cases b:(h.m (s+g+j)).isSome with
  |false=>rfl
  |true=>
   have⟨r,a,_,f,m⟩:=(i.big _ Z).1 b;have:=c r a;have d:r.ext=r.guards+r.pages+1:=rfl;omega
 cases b:(h.rg.any λr=>r.base==(s+g)*1024)with
 |false=>rfl
 |true=>
  have⟨r,a,e⟩:=List.any_eq_true.1 b;have f:(r.first+r.guards)*1024=(s+g)*1024:=by simpa[Rg9.base]using e
  have:=c r a;have d:r.ext=r.guards+r.pages+1:=rfl;omega
theorem sR(s g p:Nat)(a c:Int)(l:List Nat):(l.filter λx=>!nr ⟨s,g,p,a,c⟩ x)=l.filter λb=>b/1024<s || s+(g+p+1)<=b/1024:=by
 congr 1;funext x;have d:(⟨s,g,p,a,c⟩:Rg9).ext=g+p+1:=rfl;unfold nr;rw[d];dsimp only;by_cases e:s<=x/1024<;>by_cases f:x/1024<s+(g+p+1)<;>simp[e,f]<;>omega
theorem ET{a:QM}{o:Option Nat}{e:Ending}(h:DY W o e a):(∃s:Nat,e=QJ (I s)/\o=some s/\D W a)\/(e=.panicked (ip 1)/\o=none/\D W a):=by
 cases h with
 |yes s _ b=>exact .inl ⟨s,rfl,rfl,b⟩
 |no _ b=>exact .inr ⟨rfl,rfl,b⟩
theorem cN{v:QN}{t:QO}(h:W.heap[g]?=some (.cells #[v] t)):W.cell? (Qz g 0)=some v:=bJ h
theorem nx{r}(h:W.heap[g]?=some (.cells (oV r) 291))(a:r.first<=300)(b:r.guards<=3)(c:r.pages<=18014398509481984):Lc g r W:=by
 refine⟨?_,?_,?_,?_,?_,a,b,c⟩<;>rw[GT _ _ _ _ _ _ h]<;>rfl
theorem sB{a:Nat}(h:a<18446744073709551616):aR a<=18014398509481984:=by
 unfold aR;split<;>omega
theorem oU(B y d cf h an)(a:Nat)(W)(hp:Hp B y d cf h W)(c:Gd d h an)(i:Inv cf h)(ha:1016<a)(c0:a<18446744073709551616)(O:h.used+2000<=1000000)(dk:mE cf)(M:h.rg.length<4096)(q:h.rel.length<=100000):
  Calls prog 154 #[.pointer (some ⟨y.P,0,none⟩),.int .u64 (a:Nat)] W (AS B y cf an d.lg W (av cf h a)):=by
 have x:=H (iJ cf h ha);have⟨o,b⟩:=Qa (av cf h a);rw[b]at x⊢;clear b;have k:=H hp;have j:=H c;have N:=H i;have r:=H (λV(l:D W V)=>oL B y d cf h 3 V (hp.below l) Z Z Z dk.len);have t:=H (λV=>km a V c0);clear hp c i;go_enter func154,ntmps154;go_wp2_with fail;have c:D W (W.alloc (.cells #[.pointer (some ⟨y.P,0,none⟩)] 139)):=(Fu _ _).alloc (Fv _) _;have v:=ao W (.cells #[.pointer (some ⟨y.P,0,none⟩)] 139);refine(r _ c).mono ?_;rintro e V1⟨rfl,n,b1⟩;have e2:dr cf h 3<3:=by
  unfold dr;omega
 have b:=H n;have i:=H (Bi.trans (Bi.ofBelow c k.bW) b1);have s:=H (show V1.heap[W.heap.size]?=some (.cells #[.pointer (some ⟨y.P,0,none⟩)] 139)from b1.ky.cells _ _ _ _ v (by unfold hI;decide));generalize p:W.heap.size=u at*;clear n b1 v c r k p;generalize c:dr cf h 3=z at*;have A:=H c;clear c;go_wp2_with fail;refine(t _).mono ?_;rintro e K⟨rfl,rfl⟩;clear t;go_upto_region 3 with fail
 generalize c:(K.alloc (.cells #[.int .i64 1,.int .i64 (wrap64 (a:Nat)),.int .i64 0,.int .i64 (1+(z:Nat)),.int .i64 (aR a:Nat)] 291)).alloc (.cells #[.pointer (some ⟨K.heap.size,0,none⟩)] 278)=F;have t:D K F:=by rw[<-c];exact((Fu _ _).alloc (Fv _) _).alloc (by rw[aO];omega) _
 have G:F.heap[K.heap.size]?=some (.cells (oV ⟨0,1+z,aR a,1,wrap64 (a:Nat)⟩) 291):=by
  rw[<-c,eg _ _ _ (by rw[aO];omega),ao];simp[oV]
 have p:F.heap[K.heap.size+1]?=some (.cells #[.pointer (some ⟨K.heap.size,0,none⟩)] 278):=by
  have n:=ao (K.alloc (.cells #[.int .i64 1,.int .i64 (wrap64 (a:Nat)),.int .i64 0,.int .i64 (1+(z:Nat)),.int .i64 (aR a:Nat)] 291)) (.cells #[.pointer (some ⟨K.heap.size,0,none⟩)] 278);rw[aO,c]at n;exact n
 have T:=H (b.below t);have b7:=H (i.add t b.bW);have a4:=H (show F.heap[u]?=some (.cells #[.pointer (some ⟨y.P,0,none⟩)] 139) by rw[t.block _ (ag s)];exact s);have c1:=H (show B<=K.heap.size from b.bW);have NL:=H (show∀k,d.lg k≠some K.heap.size from λk L=>by
  have n:=b.lo k;rw[L]at n;have P:h.rg.any (λr=>r.base==k)=true:=n.symm;have⟨r,hr,w⟩:=List.any_eq_true.1 P;have v:r.base=k:=by simpa using w
  have⟨g,e1,_,e3⟩:=b.lb r hr;rw[v,L]at e1;cases e1;have:=ag e3;omega)
 have a6:=H (λV(l:D K V)=>IT (b.below l) (i.add l b.bW));have B3:=H t;have b8:=H (λV(l:D K V)=>show V.heap[u]?=some (.cells #[.pointer (some ⟨y.P,0,none⟩)] 139) by rw[l.block _ (ag s)];exact s);clear c t b i s;have⟨L,b⟩:=Qa K.heap.size;have b9:=H b;rw[b]at G p c1 NL⊢;clear b;generalize c:L+1=w at*;have HL:=H G;have b:=H p;have d3:=H (show L≠w by omega);clear G p c;have PG:=H (sB c0);have⟨v,c⟩:=Qa (aR a);have X:=H c;rw[c]at HL PG⊢;clear c;rw[X]at x;have I1:=H (N.used (h.used+1));have G1:=H (show Gd d {h with used:=h.used+1} an from⟨j.on,j.un,j.an⟩);clear N j A;generalize c:({h with used:=h.used+1}:Hs)=n at*;have d4:n.rg.length<4096:=by rw[<-c];exact M
 have c2:n.rel.length<=100000:=by rw[<-c];exact q
 clear c M q O;generalize a5:wrap64 (a:Nat)=Y at*;have c3:=H a5;clear a5;have CK:=H (show∀V,D F V->V.cell? ⟨w,0,none⟩=some (.pointer (some ⟨L,0,none⟩))/\V.cell? ⟨u,0,none⟩=some (.pointer (some ⟨y.P,0,none⟩))from λV l=>⟨by rw[GT _ _ _ _ _ _ (show V.heap[w]?=_ by rw[l.block _ (ag b)];exact b)];rfl,by rw[GT _ _ _ _ _ _ (show V.heap[u]?=_ by rw[l.block _ (ag a4)];exact a4)];rfl⟩);have a7:=H (show∀V,D F V->Lc L ⟨0,1+z,v,1,Y⟩ V from λV l=>nx (by rw[l.block _ (ag HL)];exact HL) bH bG PG);have EX:=H (λV(l:D F V)=>iE L ⟨0,1+z,v,1,Y⟩ V (a7 V l));have RO:=H (λV(l:D F V)=>zx B y d cf n (1+z+v+1) V (T.below l) I1 Z (by have:=PG.out;omega));have a0:=H (show∀i,dV n (1+z+v+1)=none->D F i->AS B y cf an d.lg W o (.panicked (ip 1)) i from λi hr hU=>by
  have e1:o=(none,n):=by
   rw[x];split;·rfl
   ·rw[hr];rfl
  rw[e1];exact⟨.no _ _ (Hg.tk ⟨d,T.below hU,G1⟩),b7.add hU T.bW⟩)
 have FZ:=H (show∀V,D F V->V.frozen? ⟨L,2,none⟩=false from λV l=>by
  have:V.heap[L]?=_:=(l.block _ (ag HL)).trans HL;simp[World.frozen?,this])
 have c4:=H (show∀V(s:Nat),D F V->(V.setCell ⟨L,2,none⟩ (.int .i64 (s:Nat))).heap[L]?=some (.cells (oV ⟨s,1+z,v,1,Y⟩) 291)/\(V.setCell ⟨L,2,none⟩ (.int .i64 (s:Nat))).heap[w]?=some (.cells #[.pointer (some ⟨L,0,none⟩)] 278)/\Hp B y d cf n (V.setCell ⟨L,2,none⟩ (.int .i64 (s:Nat)))/\Bi B W (V.setCell ⟨L,2,none⟩ (.int .i64 (s:Nat)))/\(V.setCell ⟨L,2,none⟩ (.int .i64 (s:Nat))).heap[u]?=some (.cells #[.pointer (some ⟨y.P,0,none⟩)] 139)from λV s l=>by
  have c:V.heap[L]?=_:=(l.block _ (ag HL)).trans HL;have j:V.heap[w]?=_:=(l.block _ (ag b)).trans b;have k:D K (V.setCell ⟨L,2,none⟩ (.int .i64 (s:Nat))):=by
   have k1:D K V:=B3.trans (l.mono B3.size);exact k1.grown (au (al V L) 2 _) k1.size (λr hr=>by simp at hr;have:=b9.out;omega)
  refine⟨by simp[World.setCell,FD,c,oV],?_,(a6 _ k).1,(a6 _ k).2,b8 _ k⟩;rw[GQ _ _ _ _ (λe=>d3.out e.symm)];exact j)
 generalize c:dV n (1+z+v+1)=rm at*;have c5:=H c;clear c;refine wp_region_held (S:=λW9=>W9.cell? ⟨w,0,none⟩=some (.pointer (some ⟨L,0,none⟩))/\W9.cell? ⟨u,0,none⟩=some (.pointer (some ⟨y.P,0,none⟩))) E ?_;simp only[FX,FN,F1,Nat.reduceAdd,FP,FO,FY,FV,F5];have j:=CK.out _ (Fu _ _).drew;refine pf 0 (.pointer (some ⟨L,0,none⟩)) rfl j (λW j=>by obtain⟨P,Q⟩:=j;first|(go_simp;done)|(go_simp;omega)) ?_;refine pf 1 (.pointer (some ⟨y.P,0,none⟩)) rfl j (λW j=>by obtain⟨P,Q⟩:=j;first|(go_simp;done)|(go_simp;omega)) ?_;refine pf 2 (.pointer (some ⟨L,0,none⟩)) rfl j (λW j=>by obtain⟨P,Q⟩:=j;first|(go_simp;done)|(go_simp;omega)) ?_;refine gu 3 ?_;refine cw λK' p=>?_;go_simp
 refine(EX _ (Fu _ _).drew).mono ?_;rintro e R⟨rfl,rfl⟩;have A:=CK.out _ (Fu _ F).drew.drew;refine p _ _ ⟨A,?_⟩;clear j;have j:=A;clear p K';refine gu 4 ?_;refine cw λK' p=>?_;go_simp
 refine(RO _ (Fu _ F).drew.drew).mono ?_;rintro e U2 q;rcases ET q with⟨s,rfl,t,c⟩|⟨rfl,t,c⟩
 rotate_left
 ·have k2:D F U2:=(Fu _ F).drew.drew.trans ⟨c.os,c.tape,c.output,c.size,c.block⟩;exact⟨rfl,a0 U2 t k2⟩
 have k2:D F U2:=(Fu _ F).drew.drew.trans ⟨c.os,c.tape,c.output,c.size,c.block⟩;have q2:=CK.out _ k2;refine p _ _ ⟨q2,?_⟩;clear j q;have j:=q2;have d7:=(a7 U2 k2).c2;have d8:U2.frozen? ⟨L,2,none⟩=false:=FZ.out U2 k2;clear p K';refine pf 5 (.pointer (some ⟨L,0,none⟩)) rfl j (λ_ _=>E) ?_;refine pf 6 (.pointer (some ⟨L,2,none⟩)) rfl j (λ_ _=>E) ?_;refine gu 7 ?_;refine cw λK' p=>?_;go_simp
 have⟨a8,a9,b0,c6,b4⟩:=c4.out U2 s k2;have q3:_/\_:=⟨cN a9,cN b4⟩;refine p _ _ ⟨q3,?_⟩;clear p K';refine bY ?_;generalize U2.setCell ⟨L,2,none⟩ (.int .i64 (s:Nat))=V4 at*;have b6:=H (c5.trans t);have c8:=H t;have⟨r1,r2,r3⟩:=gO b6;have a5:Y=(a:Nat):=by
  rw[<-c3.out];have q:=gE a;rw[X]at q;exact wrap64_in Z Z
 subst a5;have⟨q,a1⟩:=uO I1 b6;obtain⟨r,hr⟩:∃r:Rg9,r=⟨s,1+z,v,1,(a:Nat)⟩:=⟨_,rfl⟩;have HR:=H hr;rw[<-hr]at a8;have G:r.base=(s+(1+z))*1024:=by rw[hr];rfl
 have c9:r.base<18446744073709551616:=by rw[G];omega
 have N:=H a8;have a2:=H a9;have a3:=H b4;have O:=H b0;have d0:=H c6;have d1:=H q;have H0:=H (show d.lg r.base=none by
  have:=b0.lo r.base;rw[G,a1]at this;rw[G];simpa using this)
 have d2:=H G;have M:=H (IT r1 r2);have d9:=H (show 1<=v by have:=mF ha;rw[X]at this;exact this);clear a8 a9 b4 b0 c6 q a1 hr G r1 r2 r3 A q2 q3 j k2 c d7 d8 a0 RO EX a7 CK FZ c4 a6 B3 b8 b9 t HL b a4 T b7 c5 X c3 PG;have CK:=H (show V4.cell? ⟨w,0,none⟩=some (.pointer (some ⟨L,0,none⟩))/\V4.cell? ⟨u,0,none⟩=some (.pointer (some ⟨y.P,0,none⟩))/\V4.cell? ⟨y.P,115,none⟩=some (.map (some y.R))from⟨cN a2,cN a3,O.cell 115 Z _ rfl⟩);have a4:=H (show∀V,D V4 V->Lc L r V from λV l=>nx (by rw[l.block _ (ag N)];exact N) (by rw[HR];have:=M.out;simp;omega) (by rw[HR];simp;omega) (by rw[HR];have:=M.out;simp;omega));have LB:=H (λV(l:D V4 V)=>ie L r V (a4 V l));have CD:=H (show V4.drew.drew.cell? ⟨w,0,none⟩=some (.pointer (some ⟨L,0,none⟩))/\V4.drew.drew.cell? ⟨u,0,none⟩=some (.pointer (some ⟨y.P,0,none⟩))/\V4.drew.drew.cell? ⟨y.P,115,none⟩=some (.map (some y.R))from CK);have q:=H (O.below (Fu _ V4).drew.drew);go_upto_region 4 with fail
 refine wp_region_held (S:=λW9=>W9.cell? ⟨w,0,none⟩=some (.pointer (some ⟨L,0,none⟩))/\W9.cell? ⟨u,0,none⟩=some (.pointer (some ⟨y.P,0,none⟩))/\W9.cell? ⟨y.P,115,none⟩=some (.map (some y.R))) E ?_;simp only[FX,FN,F1,Nat.reduceAdd,FP,FO,FY,FV,F5];have j:=CK.out;refine pf 0 (.pointer (some ⟨y.P,0,none⟩)) rfl j (λW j=>by obtain⟨P,Q,y2⟩:=j;first|(go_simp;done)|(go_simp;omega)) ?_;refine pf 1 (.pointer (some ⟨y.P,0,none⟩)) rfl j (λ_ _=>E) ?_;refine pf 2 (.pointer (some ⟨y.P,115,none⟩)) rfl j (λ_ _=>E) ?_;refine pf 3 (.map (some y.R)) rfl j (λW j=>by obtain⟨P,Q,y2⟩:=j;first|(go_simp;done)|(go_simp;omega)) ?_;refine pf 4 (.pointer (some ⟨L,0,none⟩)) rfl j (λW j=>by obtain⟨P,Q,y2⟩:=j;first|(go_simp;done)|(go_simp;omega)) ?_;refine pf 6 (.pointer (some ⟨L,0,none⟩)) rfl j (λW j=>by obtain⟨P,Q,y2⟩:=j;first|(go_simp;done)|(go_simp;omega)) ?_;refine gu 5 ?_;refine cw λK' p=>?_;go_simp
 refine(LB _ (Fu _ _).drew).mono ?_;rintro e R⟨rfl,rfl⟩;have A:=CD.out;refine p _ _ ⟨A,?_⟩;clear j;have j:=A;clear p K';refine gu 7 ?_;refine cw λK' p=>?_;have⟨V5,c,a6,t⟩:=q.mp.put r.base L c9 H0 d4
 have T:=iC t q.mp.typ;refine mb 152 (.tmp 29) (.tmp 31) (.tmp 32) (vm:=.map (some y.R)) (vx:=.int .u64 (r.base:Nat)) (vu:=.pointer (some ⟨L,0,none⟩)) E E E E c ?_;refine p _ _ ⟨⟨T.cellK A.1,T.cellK A.2.1,T.cellK A.2.2⟩,?_⟩;clear p K';refine bY ?_;have kD:D V4 V4.drew.drew:=(Fu _ _).drew.drew;have X:V4.drew.drew.heap[L]?=some (.cells (oV r) 291):=(kD.block _ (ag N)).trans N;have⟨a7,b5⟩:=q.addR X c1 NL H0 a6 t;have a1:=H a7;have a9:=H ((d0.add kD O.bW).trans b5);have b:=H (show V5.heap[w]?=some (.cells #[.pointer (some ⟨L,0,none⟩)] 278)from T.cells _ _ _ _ ((kD.block _ (ag a2)).trans a2) (λe=>e));have G:=H (show V5.heap[u]?=some (.cells #[.pointer (some ⟨y.P,0,none⟩)] 139)from T.cells _ _ _ _ ((kD.block _ (ag a3)).trans a3) (λe=>e));have LO:=H O.lo;have b0:=H (show V5.heap[L]?=some (.cells (oV r) 291)from T.cells _ _ _ _ X (λe=>e));clear kD X a7 b5 T a6 t c q N a2 a3 O d0 A j CK CD a4 LB;have a6:=H (show∀V:World,V.heap[L]?=some (.cells (oV r) 291)->Lc L r V from λV l=>nx l (by rw[HR];have:=M.out;simp;omega) (by rw[HR];simp;omega) (by rw[HR];have:=M.out;simp;omega));have LP:=H (λV(l:D V5 V)=>ma L 0 r V (a6 V (by rw[l.block _ (ag b0)];exact b0)));have c:r.pages=v/\r.first+r.guards=s+(1+z):=by rw[HR];exact⟨rfl,rfl⟩
 rw[c.1,c.2]at LP;clear c;obtain⟨d5,t⟩:∃d5:Dy,d5={d with lg:=upd d.lg r.base (some L)}:=⟨_,rfl⟩;rw[<-t]at a1;have N:=H t;have G5:=H (show d5.lg=upd d.lg r.base (some L)/\d5.un=.nilFunc/\d5.an=an/\(∀c s,c<12->s<6->d5.on c s=dA n c s) by rw[t];exact⟨rfl,G1.un,G1.an,G1.on⟩);clear t N;have CM:=H (λV(l:D V5 V)=>nA B y d5 cf {n with rg:=n.rg++[r]} (s+(1+z)) v (.func 213) #[] #[.pointer (some ⟨u,0,none⟩),.pointer (some ⟨w,0,none⟩)] V (a1.below l) I1.out.out d9 (by have:=M.out;omega) d1);have CD:=H (show∀V,D V5 V->V.cell? ⟨w,0,none⟩=some (.pointer (some ⟨L,0,none⟩))/\V.cell? ⟨u,0,none⟩=some (.pointer (some ⟨y.P,0,none⟩))from λV l=>⟨cN ((l.block _ (ag b)).trans b),cN ((l.block _ (ag G)).trans G)⟩);have b4:=H (show o=Dr cf n (1+z) v a (some s) by
  rw[x,GO (by have:=M.out;omega),c8])
 have a0:=H (show∀f' R i,D V5 R->Bi B R i->(cf.bud:Int)<(bz n.m 283:Int)+v->Hp B y {d5 with f:=f',un:=.func (.func 213) #[] #[.pointer (some ⟨u,0,none⟩),.pointer (some ⟨w,0,none⟩)]} cf {n with rg:=n.rg++[r]} i->AS B y cf an d.lg W o (.panicked (ip 1)) i from λf' R i N hU hb hp=>by
  have e1:o=(none,n):=by
   rw[b4];show(if cf.bud<bz n.m 283+v then(none,n)else _)=_;rw[GP Z]
  rw[e1];refine⟨.no _ _ (λV l=>?_),(a9.add N a1.bW).trans hU⟩;have O:=hp.below l;have⟨g,e3,_,e5⟩:=O.lb r bH;have e4:d5.lg r.base=some g:=e3;rw[G5.1,upd_same]at e4;cases e4;have cx:∀(g:Nat)(c:Array Value)(t:TypeId),¬hI t->V5.heap[g]?=some (.cells c t)->V.heap[g]?=some (.cells c t):=λg c t ht hg=>by
   have n:=hU.ky.cells _ _ _ _ ((N.block _ (ag hg)).trans hg) ht;exact(l.block _ (ag n)).trans n
  refine(N8 B y _ cf n r L u w d.lg V O G5.1 H0 LO (a6 V e5) c9 (cN (cx _ _ _ (by unfold hI;decide) G)) (cN (cx _ _ _ (by unfold hI;decide) b)) rfl).mono ?_;rintro e V'⟨rfl,T,X⟩;exact⟨rfl,⟨_,T,⟨λc s hc hs=>G5.2.2.2 c s hc hs,rfl,G5.2.2.1⟩⟩,X⟩)
 clear x;go_upto_region 5 with fail
 refine wp_region_held (S:=λW9=>W9.cell? ⟨w,0,none⟩=some (.pointer (some ⟨L,0,none⟩))/\W9.cell? ⟨u,0,none⟩=some (.pointer (some ⟨y.P,0,none⟩))) E ?_;simp only[FX,FN,F1,Nat.reduceAdd,FP,FO,FY,FV,F5];have j:=CD.out _ (Fu _ _).drew;refine pf 0 (.pointer (some ⟨y.P,0,none⟩)) rfl j (λW j=>by obtain⟨P,Q⟩:=j;first|(go_simp;done)|(go_simp;omega)) ?_;refine pf 1 (.pointer (some ⟨L,0,none⟩)) rfl j (λW j=>by obtain⟨P,Q⟩:=j;first|(go_simp;done)|(go_simp;omega)) ?_;refine pf 3 (.func (.func 213) #[] #[.pointer (some ⟨u,0,none⟩),.pointer (some ⟨w,0,none⟩)]) rfl j (λW j=>by obtain⟨P,Q⟩:=j;first|(go_simp;done)|(go_simp;omega)) ?_;refine gu 2 ?_;refine cw λK' p=>?_;go_simp
 refine(LP _ (Fu _ _).drew).mono ?_;rintro e R⟨rfl,b1⟩;have k1:D V5 R:=⟨b1.os,b1.tape,b1.output,b1.size,b1.block⟩;have A:=CD.out _ k1;refine p _ _ ⟨A,?_⟩;clear j;have j:=A;clear p K';refine gu 4 ?_;refine cw λK' p=>?_;go_simp
 refine(CM _ k1).mono ?_;rintro e t⟨f',N,⟨O,rfl,a7⟩|⟨O,rfl,a7⟩⟩
 rotate_left
 ·exact⟨rfl,a0 f' R t k1 N O a7⟩
 have q2:_/\_:=⟨cN (N.ky.cells _ _ _ _ ((k1.block _ (ag b)).trans b) (by unfold hI;decide)),cN (N.ky.cells _ _ _ _ ((k1.block _ (ag G)).trans G) (by unfold hI;decide))⟩;refine p _ _ ⟨q2,?_⟩;clear j;have j:=q2;clear p K';refine bY ?_;obtain⟨d6,b7⟩:∃d6:Dy,d6={d5 with f:=f',un:=.nilFunc}:=⟨_,rfl⟩;obtain⟨T,a2⟩:∃T:Hs,T={n with rg:=n.rg++[r],m:=aT n.m (s+(1+z)) v}:=⟨_,rfl⟩;have X:=H (show Hp B y d6 cf T t by rw[b7,a2];exact a7);have c6:=H ((a9.add k1 a1.bW).trans N);have G6:=H (show d6.lg=upd d.lg r.base (some L)/\d6.un=.nilFunc/\d6.an=an/\(∀c s,c<12->s<6->d6.on c s=dA n c s) by rw[b7];exact⟨G5.1,rfl,G5.2.2.1,G5.2.2.2⟩);have a8:=H a2;have b8:=H (show t.heap[w]?=some (.cells #[.pointer (some ⟨L,0,none⟩)] 278)from N.ky.cells _ _ _ _ ((k1.block _ (ag b)).trans b) (by unfold hI;decide));have b9:=H (show t.heap[u]?=some (.cells #[.pointer (some ⟨y.P,0,none⟩)] 139)from N.ky.cells _ _ _ _ ((k1.block _ (ag G)).trans G) (by unfold hI;decide));have c3:=H (show¬cf.bud<bz n.m 283+v from λe=>O (by show(cf.bud:Int)<_;have:(cf.bud:Int)<((bz n.m 283+v:Nat):Int):=Z;simpa using this));have a3:=H (show t.heap[L]?=some (.cells (oV r) 291) by
  have⟨g,e3,_,e5⟩:=X.lb r (by rw[a2];simp);rw[G6.1,upd_same]at e3;cases e3;exact e5)
 have a4:T.rel=n.rel:=by rw[a2]
 have c4:=H (show∀x∈T.rel,x<18446744073709551616 from λx a=>by
  rw[a4]at a;have:=I1.rel x a;omega)
 have c5:=H (show T.rel.length<=100000 by rw[a4];exact c2);have d0:=H0;clear a7 N b7 a2 k1 b1 A q2 j O a0 CM LP CD a1 a9 b G b0 G5 LO NL H0 d1 a4;have⟨O,vn,vc,G⟩:=aA X.rl;have N:=H G;have q:=H (X.below (Fu _ t).drew);have DF:=H (nu B L r O vn vc T.rel t.drew (by have:=q.rl;rw[G]at this;exact this) c5 c4 (a6 _ ((Fu t.heap.size t).drew.block _ (ag a3) |>.trans a3)) ⟨_,(Fu t.heap.size t).drew.block _ (ag a3) |>.trans a3⟩);have a0:(T.rel.filter λx=>!nr r x)=T.rel.filter λb=>b/1024<s || s+(1+z+v+1)<=b/1024:=by rw[HR];exact sR s (1+z) v 1 _ _
 rw[a0]at DF;clear a0;generalize a0:(T.rel.filter λb=>b/1024<s || s+(1+z+v+1)<=b/1024)=fl at*;have a9:=H a0;have a1:t.drew.cell? ⟨y.P,117,none⟩=some (.slice O vn vc):=q.cell 117 Z _ G;have CD:=H (show∀V:World,Ky (· =27) t.drew V->V.cell? ⟨w,0,none⟩=some (.pointer (some ⟨L,0,none⟩))/\V.cell? ⟨u,0,none⟩=some (.pointer (some ⟨y.P,0,none⟩))from λV l=>⟨cN (l.cells _ _ _ _ (show t.drew.heap[w]?=_ from b8) ar),cN (l.cells _ _ _ _ (show t.drew.heap[u]?=_ from b9) ar)⟩);have a2:=H (show∀(i:World)(Y:Option Addr)(a wc:Nat),i.ownsRow B 27 1 (.slice Y a wc) fl.length (Us fl)->t.drew.grownBy i (Value.slice O vn vc).ownBlock->(Value.slice Y a wc).ownBlock=(Value.slice O vn vc).ownBlock->_ from λi Y a wc own gr k=>q.setRl (v':=.slice Y a wc) own (by rw[N];exact gr) (λg hg=>by rw[k,<-N.out];exact q.rr g hg));have a4:=H (show∀i:World,t.drew.grownBy i (Value.slice O vn vc).ownBlock->Ky (· =27) t.drew i from λi gr=>(q.gw (λg hg=>aF q.rl hg) (by rw[N];exact gr)).k);have b0:=H (show∀b g,d.lg b=some g->d6.lg b=some g from λb g hb=>by
  rw[G6.1];by_cases e:b=r.base;·subst e;rw[d0]at hb;cases hb
  ·rw[aI _ _ _ _ e];exact hb)
 have a7:=H (show∀v' i,Hp B y {d6 with rl:=v'} cf {T with rel:=fl} i->Bi B t.drew i->AS B y cf an d.lg W o (.returned (.iface 278 (.pointer (some ⟨L,0,none⟩)))) i from λv' i hU b7=>by
  have e1:o=(some r.base,{T with rel:=fl}):=by
   rw[b4];show(if cf.bud<bz n.m 283+v then(none,n)else _)=_;rw[GO c3.out,<-a9.out,a8,d2,HR]
  rw[e1];refine⟨.range r L {d6 with rl:=v'} _ i (by rw[a8];simp) (by rw[HR]) (by show d6.lg r.base=_;rw[G6.1,upd_same]) hU ⟨λc s' hc hs=>?_,G6.2.1,G6.2.2.1⟩ (λb g hb=>b0.out b g hb),(c6.add (Fu _ _).drew X.bW).trans b7⟩;show d6.on c s'=(T.m (aD c s')).isSome;rw[G6.2.2.2 c s' hc hs,a8];show(n.m (aD c s')).isSome=(aT n.m (s+(1+z)) v (aD c s')).isSome;have:=cD hc hs;rw[jJ _ _ _ _ (by have:=M.out;omega)])
 have NP:=H (show w≠y.P/\u≠y.P from by
  have⟨c,hb,_⟩:=X.box;constructor;·intro e;have:=b8.out;rw[e,hb]at this;simp at this
  ·intro e;have:=b9.out;rw[e,hb]at this;simp at this)
 clear a0 G b4 c3 G6 a8 b8 b9 a3 c4 c5 I1 G1 HR a6 d2 b6 c8 X q;have SX:=H (show∀(V:World)(v:Value),V.cell? ⟨w,0,none⟩=some (.pointer (some ⟨L,0,none⟩))/\V.cell? ⟨u,0,none⟩=some (.pointer (some ⟨y.P,0,none⟩))->(V.setCell ⟨y.P,117,none⟩ v).cell? ⟨w,0,none⟩=some (.pointer (some ⟨L,0,none⟩))/\(V.setCell ⟨y.P,117,none⟩ v).cell? ⟨u,0,none⟩=some (.pointer (some ⟨y.P,0,none⟩))from λV v l=>by
  have q:w≠y.P:=NP.1;have G:u≠y.P:=NP.2;unfold World.cell? at l⊢;rw[GQ _ _ _ _ q,GQ _ _ _ _ G];exact l)
 go_upto_region 6 with fail
 refine wp_region_held (S:=λW9=>W9.cell? ⟨w,0,none⟩=some (.pointer (some ⟨L,0,none⟩))/\W9.cell? ⟨u,0,none⟩=some (.pointer (some ⟨y.P,0,none⟩))) E ?_;simp only[FX,FN,F1,Nat.reduceAdd,FP,FO,FY,FV,F5];have j:=CD.out _ (Ky.refl _ _);refine pf 0 (.pointer (some ⟨y.P,0,none⟩)) rfl j (λW j=>by obtain⟨P,Q⟩:=j;first|(go_simp;done)|(go_simp;omega)) ?_;refine pf 1 (.pointer (some ⟨y.P,0,none⟩)) rfl j (λW j=>by obtain⟨P,Q⟩:=j;first|(go_simp;done)|(go_simp;omega)) ?_;refine pf 2 (.pointer (some ⟨y.P,0,none⟩)) rfl j (λ_ _=>E) ?_;refine pf 3 (.pointer (some ⟨y.P,117,none⟩)) rfl j (λ_ _=>E) ?_;refine pf 5 (.pointer (some ⟨L,0,none⟩)) rfl j (λW j=>by obtain⟨P,Q⟩:=j;first|(go_simp;done)|(go_simp;omega)) ?_;refine pf 6 (.func (.func 215) #[.pointer (some ⟨L,0,none⟩)] #[]) rfl j (λW j=>by obtain⟨P,Q⟩:=j;first|(go_simp;done)|(go_simp;omega)) ?_;refine gu 4 ?_;refine cw λK' p=>?_;go_simp
 refine p _ _ ⟨j,?_⟩;clear p K';refine gu 7 ?_;refine cw λK' p=>?_;go_simp
 refine(DF).mono ?_;rintro e R⟨v',rfl,q,G,X⟩;obtain⟨Y,wc,rfl⟩:=aK q;have⟨a0,a3,c7,f7⟩:=a2.out R Y _ wc q G X;rw[N]at c7;have A:=CD.out R (a4 R G);refine p _ _ ⟨A,?_⟩;clear j;have j:=A;clear p K';refine pf 8 (.pointer (some ⟨y.P,0,none⟩)) rfl j (λ_ _=>E) ?_;refine pf 9 (.pointer (some ⟨y.P,117,none⟩)) rfl j (λ_ _=>E) ?_;refine gu 10 ?_;refine cw λK' p=>?_;go_simp
 have q2:=SX.out R (.slice Y fl.length wc) A;refine p _ _ ⟨q2,?_⟩;clear p K';refine bY ?_;have p:=H (a7 _ _ a0 a3);have qx:=q2.1;clear a0 a3 q G X c7 f7 A q2 j CD a2 a4 a7 DF SX a1;go_wp2;go_ret;exact p
end
section
variable {cf:Cf}{h:Hs}{c j s:Nat}
theorem CY(g)(w:QM):(Instr.typeAssert (.iface 278 (J g 0)) 206 268 true).run prog w=.ok (.tuple #[.pointer none,.bool false]) w:=E
theorem BJ(g)(w:QM):(Instr.typeAssert (.iface 268 (J g 0)) 206 268 true).run prog w=.ok (.tuple #[J g 0,.bool true]) w:=E
def dR(cf:Cf)(h:Hs):Fd->Fd
 | .slot c s j=>if sound cf h c s j then .slot c s j else .no 5
 |x=>x
def Dv(B:Nat)(y:Ly)(d:Dy)(cf:Cf)(h:Hs)(W:World)(f:Fd)(e:Ending)(W':World):Prop:=∃i,AG y d f e/\Hp B y {d with f:=i} cf h W'/\Bi B W W'
theorem Inv.onLive(i:Inv cf h)(a:c<12)(b:s<6)(d:j<aM c)(f:h.st c s j=1):dA h c s=true:=by
 cases e:dA h c s with
 |true=>rfl
 |false=>have:=i.off c s a b e j d;rw[f]at this;cases this
theorem Inv.accS(i:Inv cf h)(a:c<12)(d:s<6)(e:j<aM c)(b:dA h c s=true)(k n:Nat)(f:1<=n)(g:k+n<=cy c):ci h.m (bh c s j+k) (n:Int)=0:=by
 have l:=ca a d e;have m:=aX a;refine jI f Z Z (λq o=>?_);have:=i.openS a d e b (k:=k+q) Z;rw[show bh c s j+k+q=bh c s j+(k+q) by omega];exact this
theorem oA(B y d cf h)(p:Nat)(W)(a:Hp B y d cf h W)(i:Inv cf h)(hb:Byt h.m)(P:p<18446744073709551616)(Q:h.rel.length<=100000)(R:0<=cf.key)(T:cf.key<18446744073709551616):
  QA 103 #[J y.P 0,U p] W (Dv B y d cf h W (dR cf h (aB h p))):=by
 have⟨b,X,k,K⟩:=Qf (nJ B y d cf h p W a i P Q) (bT h p) (λV(e:D W V)=>a.below e) a.bW;clear a;generalize aB h p=fd at*;go_enter func103,ntmps103;go_wp2_with fail;refine(b).mono ?_;rintro e V⟨lk,a⟩;have l:=H a;clear a;cases lk with
 |no a=>
  exact⟨rfl,d.f,.no a,k V l,Bi.ofBelow l K⟩
 |range r g a=>
  have ta:=λw=>CY g w
  clear X;go_wp2;go_ret;exact⟨d.f,.range r g a,k V l,Bi.ofBelow l K⟩
 | slot c s j=>
  obtain⟨n,r,t,F,z⟩:c<12/\s<6/\j<aM c/\bh c s j=p/\h.st c s j=1:=by
   have:=X.out;generalize a:Fd.slot c s j=fd at this;cases this with
   |slot u v x b g m o q=>cases a;exact⟨b,g,m,o,q⟩
   |range=>cases a
   |no=>cases a
  have m:=i.onLive n r t z;have hz:=aX n;have a6:=ca n r t;have b:ci h.m (bh c s j+eV c) ((8:Nat):Int)=0:=i.accS n r t m (eV c) 8 Z Z;have ta:=λw=>BJ (y.sm c s j) w
  have v:=k.out V l.out;have⟨A,q⟩:=y7 (λa(u:D V a)=>kC (y.sm c s j) (y.sb c s) c s j a ((v.scAt c s j n r t).below u)) (λa(u:Hp B y d cf h a)=>jy B y d cf h (bh c s j+eV c) 8 a u i.out Z Z);rw[show min 8 4097=8 from rfl,b]at q;rw[GP rfl]at q;have⟨SB,CN,EQ,L,o,a7,Y,a0⟩:=Qj (λx a(u:Hp B y {d with f:=x} cf h a)=>eI (y.sm c s j) (y.sb c s) c s j a (u.scAt c s j n r t)) (λa=>rk cf.key (bh c s j:Nat) a R T Z Z) (λu1 u2 a g i=>xu u1 u2 (aH h.m (bh c s j+eV c) 8) (can cf (bh c s j)) a g i (hb.load _ _) (tT cf _)) (show sound cf h c s j=(aH h.m (bh c s j+eV c) 8==can cf (bh c s j))from rfl) v (show(aH h.m (bh c s j+eV c) 8).length=8 by simp[aH]) (show gI (cx cf.key ((bh c s j:Nat):Int))=can cf (bh c s j)from rfl) (AG.slot (y:=y) (d:=d) c s j);have g:Hid (dR cf h (.slot c s j)=if sound cf h c s j then .slot c s j else .no 5):=rfl;clear v z m b F;generalize y.sm c s j=gm at*;generalize aH h.m (bh c s j+eV c) 8=z at*;go_wp2_with fail;refine(A _ (Fu _ _)).mono ?_;rintro e V2⟨rfl,b⟩;have⟨G,O⟩:=y7 (o.below b) ((Bi.ofBelow l K).add b (Fx K l.size));clear b;go_wp2_with fail;refine(q _ G).mono ?_;rintro e V3⟨x,m,o,⟨_,v,rfl,b⟩|⟨hn,_⟩⟩
  rotate_left
  ·exact absurd rfl hn
  have⟨M,B3,A⟩:=Qe m (O.trans o) (te b);obtain⟨va,vn,vc,rfl⟩:=aA b;have ck:=m.cell 4 Z _ rfl;have N:Hid (∀F,D V3 F->QG F y.P 4 (U cf.key)):=λF k=>NI k ck;clear m o b ck;go_upto_region 5 with fail
  refine rh (S:=λF=>QG F y.P 4 (U cf.key)) ?_;have m:=N.out _ (Fu _ _).drew;iterate 7 (refine py m ?_;simp only[f0,f1,Nat.reduceAdd,lz,l0,ls])
  refine po 7 λK' b=>?_;go_simp;refine(SB x _ (M.below (Fu _ _).drew)).mono ?_;rintro e V4⟨rfl,o⟩;have k4:D V3 V4:=⟨o.os,o.tape,o.output,o.size,o.block⟩;have h4:=N.out _ k4;refine b _ _ ⟨h4,?_⟩;clear m;have m:=h4;clear b K';refine po 8 λK' b=>?_
  go_simp;refine(CN _).mono ?_;rintro e V5⟨rfl,r5,b5⟩;have q:=az k4 b5;have O:=N.out _ q;refine b _ _ ⟨O,?_⟩;clear m;have m:=O;rw[Y.out]at r5;have G:=BG r5 (by unfold can;exact dK _);clear b K';refine po 9 λK' b=>?_;go_simp;refine(EQ _ _ _ (A.below q) G).mono ?_;rintro e V6⟨rfl,hw⟩;rw[hw];clear hw V6;refine b _ _ ⟨O,?_⟩;clear b K';refine py m ?_;simp only[f0,f1,Nat.reduceAdd,lz,l0,ls];refine bY ?_;have⟨K5,B5,H5⟩:=Qe q (B3.add q M.bW) (M.below q);clear m O h4 q k4 o b5 r5 G
  cases m:(z==can cf (bh c s j))with
  |true=>
   have b:=H (show dR cf h (.slot c s j)=.slot c s j by rw[g.out,L.out,m];rfl);clear m;go_wp2;go_ret;rw[b.out];exact⟨x,a0,H5,B5⟩
  |false=>
   have b:=H (show dR cf h (.slot c s j)=.no 5 by rw[g.out,L.out,m];rfl);clear m;go_wp2;rw[b.out];exact⟨rfl,x,.no 5,H5,B5⟩
theorem Ck{W:QM}{B n k:Nat}{a:QP}{g}{l:List Nat}(h:W.ownsRow B 268 1 (.slice a n c) l.length (Pt g l))(f:k<l.length)(q:Nat)(d:l[k]?=some q):∃b,a=some (Qz b 0)/\W.cell? (Qz b k)=some (J (g q) 0):=by
 have hv:n=l.length:=by
  have⟨a,c,e⟩:=aK h;injection e with _ i _
 subst hv;have⟨b,e⟩:=cr h Z;subst e;exact⟨b,rfl,bC h k _ (by simp[Pt,d])⟩
theorem Hp.daRow{B y d U}(j:Hp B y d cf h U){g}{n:Nat}{m:List Int}(f:RowV U g 5 (Ns .u8 m))(p:m.length=n):Da y.S y.M d.f U (some (Qz g 0)) n m:=by
 subst p;refine⟨rfl,λi q=>⟨(Qz g 0),rfl,?_,?_,?_,?_,?_⟩⟩;·rw[Addr.add_mid,Oi];exact jZ f i q
 ·rw[Addr.add_mid];exact f.lt
 ·rw[Addr.add_mid];have⟨c,b,_⟩:=f;intro e;have o:g=y.S:=e;rw[o,j.sp.box]at b;simp at b
 ·rw[Addr.add_mid];have⟨c,b,_⟩:=f;intro e;have o:g=y.M:=e;obtain⟨a,⟨l,r,k,_⟩,_⟩:=j.sp.map;rw[o,k]at b;cases b
 rw[Addr.add_mid];intro k a;have⟨c,b,_⟩:=f;rcases j.pg.at' k with⟨e1,_⟩|⟨s,l,t,e1,_,_,r⟩;·rw[a]at e1;cases e1
 rw[a]at e1;cases e1;rw[r]at b;simp at b
theorem Bf:¬hI 268:=by unfold hI;decide
theorem Inv.accL(i:Inv cf h)(b:c<12)(d:s<6)(e:j<aM c)(a:dA h c s=true):ci h.m (bh c s j) ((cy c:Nat):Int)=0:=by
 have:=i.accS b d e a 0 (cy c) (by have:=aX b;omega) Z;simpa using this
theorem rT(B y d cf h an)(a:Nat)(W)(l:Hp B y d cf h W)(r:Gd d h an)(i:Inv cf h)(t:Byt h.m)(ha:a<=1016)(v:h.used+2000<=1000000)(w:mE cf):
  QA 153 #[J y.P 0,U a] W (AS B y cf an d.lg W (av cf h a)):=by
 have⟨g,p,c7⟩:=zO ha;have n:=H (lB (a:Nat) Z W l.tb);rw[g]at n;have MM:=H (iP (cf:=cf) (h:=h) ha);have HF:=H (show dy h (fD a) 6<2000 by
  have k:=mf h (fD a) 6;have b:=aX p;have:6*aM (fD a)<=6*64:=IJ _ Z;omega)
 have hz:=aX p;generalize o:fD a=c at*;have⟨A,b⟩:=Qa (bN cf c 2000 h);rw[b]at MM;have⟨q,e⟩:=Qa (av cf h a);rw[e]at MM⊢;have HR:=H b;have a5:=H l;have a6:=H r;have I0:=H i;have a7:=H t;have DK:=H w;have HU:=H v;have BW:=H l.bW;clear b e l r i t w v g o;go_enter func153,ntmps153;go_wp2_with fail;refine(n).mono ?_;rintro e W1⟨rfl,rfl⟩;clear n;go_wp2;go_loopg [6] 2000 (λgk _ wr=>∃(r:Hs)(b:Dy),Hid (bN cf c gk r=A)/\Hid (dy r c 6<gk)/\Hid (Hp B y b cf r wr)/\Hid (Gd b r an)/\Hid (Inv cf r)/\Hid (Byt r.m)/\Hid (Bi B W1 wr)/\Hid (r.used+gk<=h.used+2000)/\Hid (Kl d.lg b));case atStart=>exact⟨h,d,HR,HF,a5,a6,I0,a7,H (Bi.refl _ _),H (Fv _),H (Kl.refl d)⟩
 case round=>
  have⟨r,d1,g,KF,KP,KG,KI,KY,KB,KU,KL⟩:=hrel;clear a5 a6 I0 a7 HR HF;obtain⟨f,b⟩:∃f,gk=f+1:=⟨gk-1,by have:=KF.out;omega⟩;have a1:=H b;have a2:=H (show(match cJ cf r c with
    |none=>(none,r)
    |some (s,k)=>if clean k.m (bh c s (du cf k c s)) (cy c)then(some (s,du cf k c s),{k with used:=k.used+1})
     else bN cf c f {k with used:=k.used+1,st:=aE k.st c s (du cf k c s) 4})=A by
   have:=g.out;rw[b,f_]at this;exact this)
  have i:=H (Bb B y d1 cf r an c wr KP KG KI p);have RM:=H (λs k(hr:cJ cf r c=some (s,k))=>IT (KI.room p hr) (tI hr));clear b g;go_wp2_with fail;refine(i).mono ?_;rintro e V⟨rm,b⟩;have BI:=H (KB.trans b);clear i b;generalize b:cJ cf r c=ro at*;have c8:=H b;clear b;cases rm with
  |no _ b=>
   have HE:=H (show q=(none,r) by rw[MM,<-a2.out];rfl);refine⟨rfl,?_,BI⟩;rw[HE];exact .no r V b
  | yes s k _ hg=>
   have⟨w,g,v,b⟩:=hg;have a8:=H (KL.trans b);clear b;obtain⟨⟨i,j1,z,K,O,F,G⟩,L⟩:=RM.out s k rfl;have P:=H (show(if clean k.m (bh c s (du cf k c s)) (cy c)then(some (s,du cf k c s),{k with used:=k.used+1})
     else bN cf c f {k with used:=k.used+1,st:=aE k.st c s (du cf k c s) 4})=A from a2)
   have⟨M,c0,N⟩:=oH cf K;have c9:=iD k c s;have c1:=mW cf k K;have a9:=H (show Byt k.m by rcases L with e|e<;>rw[e];exact KY;exact KY.fresh _ _);have t:=H g;have o:=H v;have J1:=H j1;have a3:=H z;have c2:=H G;have b0:=H F;have b4:=H N;have l:=H c0;have x:=H (pa (y.sb c s) (y.sr c s) c s (aM c) (y.sc c s) (w.on c s) (y.sm c s) (k.st c s) V (g.bc c s p i) Z (λj b=>g.rowAt c s j p i b) (λj b=>(g.smAt c s j p i b).1));rw[jB]at x;have R:=H (λb(n:Hp B y w cf k b)=>oL B y w cf k (freeS k c s).length b n Z Z (by have:=HU.out;have:=KU.out;have:=b0.out;omega) DK.len);have d0:0<(freeS k c s).length:=K;have Q:=H (λ(b:QM)(va:QP)(K vc:Nat)(n:b.ownsRow V.heap.size 268 1 (.slice va K vc) (freeS k c s).length (Pt (y.sm c s) (freeS k c s)))=>Ck n c1 _ M);clear g v j1 z G O F L M N a2 RM KY KI;generalize g:du cf k c s=j at*;clear g;generalize g:dr cf k (freeS k c s).length=dd at*;clear g;generalize g:(freeS k c s).length=ll at*;clear g;go_wp2_with fail;refine(x).mono ?_;rintro e V1⟨v,rfl,own,O⟩;obtain⟨va,vc,rfl⟩:=aK own;have z:=H (t.below O);have G:=H (BI.add O t.bW);have L:=H own;clear own O x t BI;go_wp2_with fail;refine(R _ z).mono ?_;rintro e V2⟨rfl,x,F⟩;have g:=H x;have M:=H (G.trans F);obtain⟨gg,rfl,t⟩:=Q.out V2 va ll vc (ai L F.ky Bf);clear x F R L z G Q;have c6:(dd:Int)<(ll:Int):=Z;have SB:=H (λb(n:Hp B y w cf {k with used:=k.used+1} b)=>eI (y.sm c s j) (y.sb c s) c s j b (n.scAt c s j p i l));have z:=H (λb(n:Hp B y w cf {k with used:=k.used+1} b)=>dJ (c:Nat) b n.tb);rw[uT p]at z;have hA:=ca p i l;have x:=H (λb(n:Hp B y w cf {k with used:=k.used+1} b)=>jy B y w cf {k with used:=k.used+1} (bh c s j) (cy c) b n J1.out.out Z Z);rw[Hz Z]at x;have G:Hid (∀b(n:Hp B y w cf {k with used:=k.used+1} b),QA 105 #[J y.P 0,U (bh c s j:Nat),U (cy c:Nat)] b (CU B y w cf {k with used:=k.used+1} b k.m 0 (aH k.m (bh c s j) (cy c)))):=(λb n=>by
    have:=x.out b n;dsimp only at this;rw[J1.accL p i l a3,GP rfl]at this;exact this)
   have Y:=H (λu b(n:Bs b u (aH k.m (bh c s j) (cy c)))=>BM u _ b n (a9.load _ _) (by simp[aH];omega) (by simp[aH];omega));have Q:Hid (clean k.m (bh c s j) (cy c)=(aH k.m (bh c s j) (cy c)).all (· ==0)):=rfl;clear x;generalize aH k.m (bh c s j) (cy c)=b5 at*;generalize x:y.sm c s j=R at*;have T:=H x;clear x;go_wp2_with fail;refine(SB _ g).mono ?_;rintro e V3⟨rfl,b3⟩;have x:=H (g.below b3);have L:=H (M.add b3 g.bW);clear b3 g M t;go_wp2_with fail;refine(z _ x).mono ?_;rintro e V4⟨rfl,rfl⟩;clear z;go_wp2_with fail;refine(G _ x).mono ?_;rintro e V5⟨f',t,M,⟨_,v,rfl,g⟩|⟨hn,_⟩⟩
   rotate_left
   ·exact absurd rfl hn
   have z:Hid (Hp B y {w with f:=f'} cf {k with used:=k.used+1} V5):=t;have X:=H (L.trans M);have N:=H (te g);clear t M g G x L;go_wp2_with fail;refine(Y _ _ N).mono ?_;rintro e V6⟨M,rfl,g,rfl⟩;have HM:=H g;clear g Y N;have b6:=H (show Gd {w with f:=f'} {k with used:=k.used+1} an from⟨o.on,o.un,o.an⟩);cases G:b5.all (λx=>x==0)with
   | false=>
    have c3:(0:Int)<M:=(by have:=HM.out;rw[G]at this;simpa using this);have g:=H (show bN cf c f {k with used:=k.used+1,st:=aE k.st c s j 4}=A by
     have:=P.out;rw[GO (by rw[Q,G];decide)]at this;exact this)
    have⟨Y,b7⟩:=z.setSt1 p i l 4;have t:=(z.smAt c s j p i l).1;have x:V6.frozen? ⟨y.sm c s j,0,none⟩=false:=(by simp[QD,z.sm c s j p i l.out]);rw[T]at Y b7 t x;have H7:Hid (Hp B y {w with f:=f'} cf {k with used:=k.used+1,st:=aE k.st c s j 4} (V6.setCell (Qz R 0) (I 4))):=Y;have B7:=H (X.trans b7);have L:=H (show Gd {w with f:=f'} {k with used:=k.used+1,st:=aE k.st c s j 4} an from⟨o.on,o.un,o.an⟩);have N:Hid (Inv cf {k with used:=k.used+1,st:=aE k.st c s j 4}):=(J1.used (k.used+1)).retire p i l b4 a3;have F7:=H (show dy {k with used:=k.used+1,st:=aE k.st c s j 4} c 6<f by
     have q1:=(jE (h:=k) (s:=s) l b4 6).2 i;have q2:dy {k with used:=k.used+1,st:=aE k.st c s j 4} c 6=dy {k with st:=aE k.st c s j 4} c 6:=rfl;have q3:dy k c 6=dy r c 6:=mT c2 c 6;have q4:=KF.out;have q5:=a1.out;omega)
    have U7:=H (show k.used+1+f<=h.used+2000 by
     have q1:=KU.out;have q2:=b0.out;have q5:=a1.out;omega)
    generalize k.st c s j=z4 at t;clear Y b7 G HM Q P z X SB b6 o KP KG;go_wp2
    go_roundg f
    (case rel=>exact⟨_,_,g,F7,H7,L,N,a9,B7,U7,H (show Kl d.lg {w with f:=f'}from a8)⟩);case measure=>have:=a1.out;omega
   | true=>
    have c3:¬((0:Int)<M):=(by have:=HM.out;rw[G]at this;simpa using this);have HE:=H (show q=(some (bh c s j),{k with used:=k.used+1,st:=aE k.st c s j 1,rq:=aE k.rq c s j a,m:=ay k.m (bh c s j+eV c) (can cf (bh c s j)) 8}) by
     have:=P.out;rw[GP (by rw[Q,G])]at this;rw[MM,<-this];rfl)
    have⟨Y,b7⟩:=z.setRec p i l 1 (a:Nat);have g:=z.sm c s j p i l;rw[T]at Y b7 g;have t:V6.cell? (Qz R 0)=some (I (k.st c s j)):=bJ g;have x:V6.cell? (Qz R 1)=some (I (k.rq c s j)):=bJ g;have L:V6.frozen? (Qz R 0)=false:=(by simp[QD,g]);have N:V6.frozen? (Qz R 1)=false:=(by simp[QD,g]);simp only[World.setCells,Oi]at Y b7;clear g;generalize k.st c s j=q0 at t;generalize k.rq c s j=q1 at x;have H7:=H Y;have B7:=H (X.trans b7);clear Y b7 G HM Q P z X KP KG KF KU;(go_upto_region 7 with fail);generalize (V6.setCell (Qz R 0) (I 1)).setCell (Qz R 1) (I a)=V8 at*;clear t x L N SB b6;obtain⟨L,N⟩:∃L:Hs,L={k with used:=k.used+1,st:=aE k.st c s j 1,rq:=aE k.rq c s j a}:=⟨_,rfl⟩;obtain⟨x,t⟩:∃x:Dy,x={w with f:=f'}:=⟨_,rfl⟩;have a4:=H (show L.m=k.m by rw[N]);have H8:=H (show Hp B y x cf L V8 by rw[N,t];exact H7);have CA:=H (λb(n:Hp B y x cf L b)=>kC (y.sm c s j) (y.sb c s) c s j b (n.scAt c s j p i l));have SB:=H (λb(n:Hp B y x cf L b)=>eI (y.sm c s j) (y.sb c s) c s j b (n.scAt c s j p i l));rw[T]at CA SB;have CN:=H (λb=>rk cf.key (bh c s j:Nat) b DK.key0 DK.key1 Z Z);have a0:ci k.m (bh c s j+eV c) ((8:Nat):Int)=0:=J1.accS p i l a3 (eV c) 8 Z Z;have ST:=H (λb g(n:Hp B y x cf L b)(hr:RowV b g 5 (Ns .u8 (can cf (bh c s j))))=>iw B y x cf L (bh c s j+eV c) (some (Qz g 0)) 8 8 (can cf (bh c s j)) b n (by rw[a4];exact J1.out.out) Z (n.daRow hr (by unfold can;exact dK _)) (Fv _));have b8:Hid (∀(b:QM)(g:Nat)(n:Hp B y x cf L b)(hr:RowV b g 5 (Ns .u8 (can cf (bh c s j)))),QA 106 #[J y.P 0,U (bh c s j+eV c:Nat),Vl g 8 8] b (A9 B y x cf L b (ay k.m (bh c s j+eV c) (can cf (bh c s j)) 8) 0)):=(λb g n hr=>by
     have:=ST.out b g n hr;rw[show(can cf (bh c s j)).length=8 by unfold can;exact dK _,a4,a0,GP rfl]at this;exact this)
    have b9:Hid (∀f9 b,Hp B y {x with f:=f9} cf {L with m:=ay k.m (bh c s j+eV c) (can cf (bh c s j)) 8} b->TaR B y cf an d.lg q (QJ (.iface 268 (J R 0))) b):=(λf9 b n=>by
     rw[HE,<-T.out];refine .slot c s j _ b p i l ?_ ⟨{x with f:=f9},?_,?_,by show Kl d.lg {x with f:=f9};rw[t];exact a8⟩;·show aE k.st c s j 1 c s j=1;exact aS _ _ _ _ _
     ·rw[N]at n;exact n
     refine⟨λc' s' c4 c5=>?_,by rw[t];exact o.un,by rw[t];exact o.an⟩;show x.on c' s'=(ay k.m _ _ 8 (aD c' s')).isSome;rw[dj,t];exact o.on c' s' c4 c5)
    have c4:Hid (gI (cx cf.key ((bh c s j:Nat):Int))=can cf (bh c s j)):=rfl;have CK:Hid (∀b a g,Hp B y a cf g b->QG b y.P 4 (U cf.key)):=λb a g n=>n.cell 4 Z _ rfl;clear ST a0 N t H7 HE o a4;generalize a0:bh c s j=AA at*;generalize eV c=uu at*;refine rh (S:=λa=>QG a y.P 4 (U cf.key)) ?_;have t:=CK.out V8.drew _ _ (H8.below (Fu _ _).drew);(iterate 2 (refine py t ?_;simp only[f0,f1,Nat.reduceAdd,lz,l0,ls]));refine pk 3 (J y.P 0) t ?_;refine pk 4 (J y.P 0) t ?_;refine pk 5 (J y.P 0) t ?_;refine pk 6 (J y.P 4) t ?_;refine pz 7 (U cf.key) t ?_;refine pk 8 (J R 0) t ?_;refine po 2 λK' N=>?_;go_simp;refine(CA _ (H8.below (Fu _ _).drew)).mono ?_;rintro e U1⟨rfl,O⟩;have k1:D V8 U1:=⟨O.os,O.tape,O.output,O.size,O.block⟩;have p1:=H8.below k1;have q1:=CK.out _ _ _ p1;refine N _ _ ⟨q1,?_⟩;clear t;have t:=q1;clear N K';refine po 9 λK' N=>?_
    go_simp;refine(SB _ p1).mono ?_;rintro e U2⟨rfl,b2⟩;have k2:=az k1 b2;have p2:=H8.below k2;have q2:=CK.out _ _ _ p2;refine N _ _ ⟨q2,?_⟩;clear t;have t:=q2;clear N K';refine po 10 λK' N=>?_;go_simp;refine(CN _).mono ?_;rintro e U3⟨rfl,r3,b3⟩;have k3:=az k2 b3;have p3:=H8.below k3;have q3:=CK.out _ _ _ p3;refine N _ _ ⟨q3,?_⟩;clear t;have t:=q3;rw[c4]at r3;clear N K';refine po 11 λK' N=>?_
    go_simp;refine(b8 _ _ p3 r3).mono ?_;rintro e U4⟨f9,p4,F,⟨_,rfl⟩|⟨hn,_⟩⟩
    rotate_left
    ·exact absurd rfl hn
    have q4:=CK.out _ _ _ p4;refine N _ _ ⟨q4,?_⟩;clear t;have t:=q4;clear N K';refine bY ?_;have N:=H (IT (b9 f9 U4 p4) ((B7.add k3 H8.bW).trans F));clear p1 p2 p3 p4 q1 q2 q3 q4 k1 k2 k3 O b2 b3 r3 F t CA SB CN b8 b9 CK H8 B7;go_wp2;go_ret;exact N
end
end Go.Proofs.YtdhegekcmmlohaaGreatDoor
