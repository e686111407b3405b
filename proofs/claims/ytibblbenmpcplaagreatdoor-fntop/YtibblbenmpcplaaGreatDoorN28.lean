import Derived.Deep.AppendSrc
import Derived.Test.YtibblbenmpcplaaGreatDoorN25
import Derived.Test.YtibblbenmpcplaaGreatDoorN27
set_option linter.unusedVariables false
set_option linter.unusedSimpArgs false
set_option maxRecDepth 20000
set_option maxHeartbeats 8000000
namespace Go.Proofs.YtibblbenmpcplaaGreatDoor
open Go.Proofs.Tryz
variable {W W':World} {u v:Value} {B c j s:Nat} {l:List Int} {y:Ly} {d:Dy} {cf:Cf} {h:Hs}
section
open Go.RowKit Go.Maps
def kR (data:List Int):ByteArray:=data.foldl (λr n=>r.push (UInt8.ofNat n.toNat)) ByteArray.empty
theorem pS:∀ (l:List Int) (r:ByteArray),(l.foldl (λr n=>r.push (UInt8.ofNat n.toNat)) r).data.toList=r.data.toList++l.map (λn=>UInt8.ofNat n.toNat)
 | [],r=>by simp
 | x::l,r=>by
  rw [List.foldl_cons,pS l]
  simp [ByteArray.push]
theorem vD (l):(kR l).data.toList=l.map (λn=>UInt8.ofNat n.toNat):=by
 unfold kR;rw [pS];rfl
theorem vQ {a b:ByteArray} (h:a.toList=b.toList):a=b:=by
 rw [Go.ByteArray.toList_eq,Go.ByteArray.toList_eq] at h;cases a;cases b;simp at h;exact congrArg ByteArray.mk h
theorem vU {a b} (ha:okB a) (i:okB b) (h:kR a=kR b):a=b:=by
 have e:=congrArg (λs:ByteArray=>s.data.toList) h;simp only [vD] at e;have c:∀ (a b:List Int),okB a->okB b->a.map (λn=>UInt8.ofNat n.toNat)=b.map (λn=>UInt8.ofNat n.toNat)->a=b:=by
  intro a;induction a with
  | nil=>intro b _ _ e;cases b with
   | nil=>rfl
   | cons y r=>simp at e
  | cons x l j =>
   intro b f g e;cases b with
   | nil=>simp at e
   | cons y r =>
    simp only [It,List.cons.injEq] at e;have m:=f x bH;have o:=g y bH;have k:=congrArg UInt8.toNat e.1;rw [UInt8.toNat_ofNat',UInt8.toNat_ofNat',H4 Z,H4 Z] at k;rw [j r (λz d=>f z (by simp [d])) (λz d=>g z (by simp [d])) e.2];congr 1;omega
 exact c a b ha i e
def Bs (w:World) (u:Value) (data:List Int):Prop:=∃ a c,u=.slice a data.length c/\∀ i,i<data.length->∃ g,a=some ⟨g,0,none⟩/\w.cell? ⟨g,i,none⟩=some (.int .u8 (data[i]?.getD 0))
theorem Bs.below {w data} (h:Bs w u data) (b:D w W):Bs W u data:=by
 obtain⟨a,c,e,d⟩:=h;exact⟨a,c,e,λi f=>by obtain ⟨g,j,k⟩:=d i f;exact⟨g,j,ad b k⟩⟩
theorem te (h:W.ownsRow B 5 1 u l.length (Ns .u8 l)):Bs W u l:=by
 obtain⟨a,c,e⟩:=aK h;subst e;refine⟨a,c,rfl,λi b=>?_⟩;obtain⟨g,d⟩:=cr h Z;subst d;exact⟨g,rfl,bC h i _ (by simp [Ns,b])⟩
theorem BG {g n:Nat} (h:RowV W g 5 (Ns .u8 l)) (a:l.length=n):Bs W (Vl g n n) l:=by
 subst a;exact⟨_,_,rfl,λi b=>⟨g,rfl,jZ h i b⟩⟩
theorem tF {w data} (h:Bs w u data):(convert 22 9 u).run prog w=.ok (.string (kR data)) w:=by
 obtain⟨a,c,rfl,d⟩:=h;rw [run_convert_bytes_string w 22 9 5 a data.length c underlying22 underlying5 underlying9];cases a with
 | none =>
  have:data=[]:=by
   cases data with
   | nil=>rfl
   | cons x r=>obtain ⟨g,e,_⟩:=d 0 bH;cases e
  subst this;unfold Conv.bytesToString;simp [kR,Sem.run_pure]
 | some p =>
  refine run_bytesToString w p data.length c data ?_;have:=run_loadCells_list (P:=prog) w p (data.map (Value.int .u8)) (λj v f=>by
   have b:=(Fz.1 f).1;simp at b;obtain⟨g,e,i⟩:=d j b;cases e;rw [Addr.add_mid,Gb,i,<-f];simp [b])
  simpa using this
theorem xu (u1 u2 d1 d2 w) (a:Bs w u1 d1) (b:Bs w u2 d2) (c:okB d1) (d:okB d2) :
  Calls prog 79 #[u1,u2] w λe f=>e=.returned (.bool (d1==d2))/\f=w:=by
 have i:=tF a;have j:=tF b;have g:=H (show ((kR d1).toList==(kR d2).toList)=(d1==d2) by
  by_cases e:d1=d2;·subst e;simp
  have:(kR d1).toList≠(kR d2).toList:=λh=>e (vU c d (vQ h))
  rw [beq_eq_false_iff_ne.2 this,beq_eq_false_iff_ne.2 e])
 generalize kR d1=k at *;generalize kR d2=l at *;clear a b;go_enter func79,ntmps79;go_wp2;go_ret;rw [<-g.out];exact⟨rfl,rfl⟩
def gG (f:Nat->Nat->Bool) (c s:Nat) (v:Bool):Nat->Nat->Bool:=λi e=>if i=c/\e=s then v else f i e
theorem Hp.setOn (b:Hp B y d cf h W) (i:c<12) (m:s<6) (v):Hp B y { d with on:=gG d.on c s v } cf h (W.setCell ⟨y.sb c s,2,none⟩ (.bool v))/\Bi B W (W.setCell ⟨y.sb c s,2,none⟩ (.bool v)):=by
 have p:=b.sl c s i m;have g:=au (al W (y.sb c s)) 2 (.bool v);have k:Ky (· = 157) W (W.setCell ⟨y.sb c s,2,none⟩ (.bool v)):=Ky.grown p rfl g;have q:Below B W (W.setCell ⟨y.sb c s,2,none⟩ (.bool v)):=(Fu B W).grown g b.bW (λr t=>by simp at t;have:=b.ap.bsb c s i m;omega);have u:(W.setCell ⟨y.sb c s,2,none⟩ (.bool v)).heap[y.M]?=W.heap[y.M]?:=GQ _ _ _ _ (λe=>by
  obtain⟨a,⟨w,x,l,_⟩,_⟩:=b.sp.map;rw [e,p] at l;cases l)
 have z:(W.setCell ⟨y.sb c s,2,none⟩ (.bool v)).heap[y.R]?=W.heap[y.R]?:=GQ _ _ _ _ (λe=>by
  obtain⟨w,x,l⟩:=b.mp.typ;rw [e,p] at l;cases l)
 refine⟨⟨b.ap,Fx b.bW q.size,b.box.ky k ar,b.ds.belowB q b.ap.da,b.sp.ky k ar u,b.pg.ky k ar,b.bf,
 λa f n o=>?_,λc s i m=>cL (b.rw c s i m) k ar,λc s j i m A=>k.cells _ _ _ _ (b.sm c s j i m A) ar,
 λc i=>(b.wt c i).ky k ar ar ar,b.mp.same z,b.lo,λr t=>by obtain ⟨g,F,l,G⟩:=b.lb r t;exact⟨g,F,l,k.cells _ _ _ _ G ar⟩,b.li,b.ro.ky k ar,ai b.rl k ar,b.rr,b.tb.belowB q b.ap.b0⟩,Bi.ofGrown p (.inr (.inr (.inr (.inl rfl)))) (b.ap.bsb c s i m) b.bW g⟩
 by_cases e:a=c/\f=s
 ·obtain⟨rfl,rfl⟩:=e;show (W.setCell ⟨y.sb a f,2,none⟩ (.bool v)).heap[y.sb a f]?=some (.cells (CZ a f (gG d.on a f v a f) _ _ _) 157);have:gG d.on a f v a f=v:=by unfold gG;rw [GP ⟨rfl,rfl⟩]
  rw [this];have l:=b.sl a f n o;simp [World.setCell,FD,l,CZ]
 show (W.setCell ⟨y.sb c s,2,none⟩ (.bool v)).heap[y.sb a f]?=some (.cells (CZ a f (gG d.on c s v a f) _ _ _) 157);have:gG d.on c s v a f=d.on a f:=by unfold gG;rw [GO e]
 rw [this,GQ _ _ _ _ (λg=>e (by have:=b.ap.isb a f c s n o i m g;exact this))];exact b.sl a f n o
def Kl (lg:Nat->Option Nat) (d:Dy):Prop:=∀ b g,lg b=some g->d.lg b=some g
theorem Kl.trans {lg d'} (h:Kl lg d) (k:Kl d.lg d'):Kl lg d':=λb g e=>k b g (h b g e)
theorem Kl.refl (d:Dy):Kl d.lg d:=λ_ _ e=>e
def Hgl (B:Nat) (y:Ly) (cf:Cf) (h:Hs) (an:Value) (lg:Nat->Option Nat) (W:World):Prop:=∃ d,Hp B y d cf h W/\Gd d h an/\Kl lg d
theorem Hgl.hg {an lg} (k:Hgl B y cf h an lg W):Hg B y cf h an W:=by
 obtain⟨d,a,b,_⟩:=k;exact⟨d,a,b⟩
inductive EB (B:Nat) (y:Ly) (cf:Cf) (h:Hs) (an:Value) (lg:Nat->Option Nat) (c:Nat):Option (Nat×Hs)->Ending->World->Prop
 | yes (s:Nat) (h1:Hs) (W':World) (hg:Hgl B y cf h1 an lg W'):EB B y cf h an lg c (some (s,h1)) (.returned (J (y.sb c s) 0)) W'
 | no (W':World) (tk:Tk B y cf h an W'):EB B y cf h an lg c none (.panicked (ip 1)) W'
def kv (y:Ly) (c:Nat):List Value:=[J (y.sb c 0) 0,J (y.sb c 1) 0,J (y.sb c 2) 0,J (y.sb c 3) 0,J (y.sb c 4) 0,J (y.sb c 5) 0]
theorem Hp.range6 (b:Hp B y d cf h W) (e:c<12):W.rangeAt y.P (7+c*6) (kv y c):=by
 intro j v a;have f:j<6:=by have:=(Fz.1 a).1;simpa [kv] using this
 have:=b.slabAt c j e f;rw [this,<-a];rcases (show j=0\/j=1\/j=2\/j=3\/j=4\/j=5 by omega) with rfl|rfl|rfl|rfl|rfl|rfl <;> rfl
theorem uR (y c) (k:Nat) (a:k<6):(kv y c)[k]?=some (J (y.sb c k) 0):=by
 rcases (show k=0\/k=1\/k=2\/k=3\/k=4\/k=5 by omega) with rfl|rfl|rfl|rfl|rfl|rfl <;> rfl
theorem sQ {k:Nat} (e:k<6) (b:(dA h c k && !(freeS h c k).isEmpty)=true) (d:∀ s,s<k->(dA h c s && !(freeS h c s).isEmpty)=false):ks h c=some k:=by
 unfold ks;rw [List.find?_eq_some_iff_append];refine⟨b,List.range k,(List.range (6-k-1)).map (λi=>k+1+i),?_,λa ha=>?_⟩;·rcases (show k=0\/k=1\/k=2\/k=3\/k=4\/k=5 by omega) with rfl|rfl|rfl|rfl|rfl|rfl <;> rfl
 rw [d a (by simpa using ha)];rfl
theorem sd (b:∀ s,s<6->(dA h c s && !(freeS h c s).isEmpty)=false):ks h c=none:=by
 unfold ks;rw [List.find?_eq_none];intro a ha;rw [b a (by simpa using ha)];simp
theorem vy {k:Nat} (e:k<6) (b:dA h c k=false) (d:∀ s,s<k->dA h c s=true):qS h c=some k:=by
 unfold qS;rw [List.find?_eq_some_iff_append];refine⟨by rw [b];rfl,List.range k,(List.range (6-k-1)).map (λi=>k+1+i),?_,λa ha=>?_⟩;·rcases (show k=0\/k=1\/k=2\/k=3\/k=4\/k=5 by omega) with rfl|rfl|rfl|rfl|rfl|rfl <;> rfl
 rw [d a (by simpa using ha)];rfl
theorem vg (b:∀ s,s<6->dA h c s=true):qS h c=none:=by
 unfold qS;rw [List.find?_eq_none];intro a ha;rw [b a (by simpa using ha)];simp
theorem xQ (X b:Nat) (a:Value) (W:World) (c:W.cell? ⟨X,0,none⟩=some (J b 0)) (d:W.cell? ⟨b,2,none⟩=some a) (f:W.frozen? ⟨b,2,none⟩=false) :
  Calls prog 157 #[J X 0] W λe W'=>e=.returned (.tuple #[])/\W'=W.setCell ⟨b,2,none⟩ (.bool false):=by
 go_enter func157,ntmps157;go_wp2;go_end0;exact⟨rfl,rfl⟩
theorem pE (B y d cf h) (X c s:Nat) (W) (a:Hp B y d cf h W) (i:c<12) (j:s<6) (k:W.cell? ⟨X,0,none⟩=some (J (y.sb c s) 0)) (l:d.un=.func (.func 157) #[] #[J X 0]) :
  Calls prog 38 #[J y.P 0] W λe W'=>e=.returned (.tuple #[])/\Hp B y { d with on:=gG d.on c s false,un:=.nilFunc } cf h W'/\Bi B W W':=by
 have m:=a.bc c s i j;have n:W.frozen? ⟨y.sb c s,2,none⟩=false:=by simp [World.frozen?,a.sl c s i j]
 have o:=H (xQ X (y.sb c s) _ W k m.d2 n);obtain⟨b,p⟩:=a.setOn i j false;have f:=a.cell 120 Z _ rfl;have g:boxF cf y d h.used 120=d.un:=rfl;rw [g,l] at f;have q:=b.cell 120 Z (.func (.func 157) #[] #[J X 0]) (by show d.un=_;exact l);have f1:=b.box.free 120;have r:=mG _ _ y.P 120 q f1;have t:=H (b.setDy 120 .nilFunc { d with on:=gG d.on c s false,un:=.nilFunc } (.inr ⟨rfl,rfl⟩));have u:=H (p.trans (b.bi118 120 .nilFunc));have nq:=λw=>qM (.func 157) #[] #[J X 0] w
 clear b p a m n k q f1;go_enter func38,ntmps38;go_wp2_with fail;refine (o).mono ?_;rintro e a ⟨rfl,rfl⟩;clear o;go_wp2;go_end0;exact⟨rfl,t,u⟩
theorem wo:¬hI 59:=by unfold hI;decide
def Fj (B:Nat) (y:Ly) (cf:Cf) (h:Hs) (an:Value) (lg:Nat->Option Nat) (c:Nat) (W:World) (e:Ending) (W':World):Prop:=EB B y cf h an lg c (cJ cf h c) e W'/\Bi B W W'
theorem Bb (B y d cf h an) (c:Nat) (W) (a:Hp B y d cf h W) (e:Gd d h an) (i:Inv cf h) (l:c<12) :
  Calls prog 114 #[J y.P 0,I c] W (Fj B y cf h an d.lg c W):=by
 have z:=H (λV (r:D W V)=>a.below r);have BW:=H a.bW;have hz:=aX l;have RG:=H (λV (r:D W V)=>(a.below r).range6 l);have FR:=H (λV (r:D W V) k (N:k<6)=>pa (y.sb c k) (y.sr c k) c k (aM c) (y.sc c k) (d.on c k) (y.sm c k) (h.st c k) V ((a.below r).bc c k l N) Z (λj b=>(a.below r).rowAt c k j l N b) (λj b=>((a.below r).smAt c k j l N b).1));have FL:=H (λV (r:D W V) k (N:k<6)=>((a.below r).bc c k l N).d2);have HI:=H i;have O:=H e;have SG:=H (uR y c);have b:∀ (k:Nat),k<6->∀ w,(Instr.index 60 (.agg (kv y c).toArray) (I k)).run prog w=.ok (J (y.sb c k) 0) w:=λk N w=>by
  rcases (show k=0\/k=1\/k=2\/k=3\/k=4\/k=5 by omega) with rfl|rfl|rfl|rfl|rfl|rfl <;> kernel_rfl
 have Y:=H b;clear a e i b;go_enter func114,ntmps114;go_wp2_with (refine wpList_load_mid rfl 60 _ rfl _ _ rfl _ _ (RG _ (Fu _ _)) underlying60 rfl E ?_);generalize a:(kv y c).toArray=A6 at *;have a0:=H a;clear a;go_loopw [15] (λi wr=>∃ k:Nat,k<=6/\i=I k/\Hid (∀ s,s<k->(dA h c s && !(freeS h c s).isEmpty)=false)/\Hid (D W wr)) (λi _=>6-(intOf i).toNat);case atStart=>exact ⟨0,FH _,rfl,H (λs Q=>Z),H (Fu _ _)⟩
 case round =>
  obtain⟨k,N,rfl,p,o⟩:=hrel;by_cases b:k<6
  ·have ix:=Y.out k b;have fl:=FL.out wr o k b;have K:=H (λV (r:D W V)=>FR.out V r k b);have g:=H (O.on c k l b);have a:=H (λ(q:(dA h c k && !(freeS h c k).isEmpty)=true)=>sQ b q p);generalize t:d.on c k=on at *;rw [jB] at K;cases on with
   | false =>
    have u:=H (show ∀ s,s<k+1->(dA h c s && !(freeS h c s).isEmpty)=false from λs Q=>by
     rcases Nat.lt_succ_iff_lt_or_eq.1 Q with q|q;·exact p s q
     subst q;rw [<-g.out];rfl)
    clear p g a K t;generalize y.sb c k=gb at *;go_wp2;go_roundw;(case rel=>exact ⟨k+1,Z,aY,u,o⟩);case measure=>simp [intOf];omega
   | true =>
    go_wp2_with fail;refine (K _ o).mono ?_;rintro e V ⟨v,rfl,own,n⟩;obtain⟨P,R,rfl⟩:=aK own;have A:=H (o.trans (n.mono o.size));have x:=H (show (freeS h c k).isEmpty=decide ((freeS h c k).length=0) by cases freeS h c k <;> simp);clear own n K fl ix t o;generalize F:(freeS h c k).length=n at *;clear F;by_cases F:n=0
    ·have u:=H (show ∀ s,s<k+1->(dA h c s && !(freeS h c s).isEmpty)=false from λs Q=>by
      rcases Nat.lt_succ_iff_lt_or_eq.1 Q with q|q;·exact p s q
      subst q;rw [x.out,F];simp)
     subst F;clear p g a x;generalize y.sb c k=gb at *;go_wp2;go_roundw;(case rel=>exact ⟨k+1,Z,aY,u,A⟩);case measure=>simp [intOf];omega
    have G:=H (a (by rw [<-g.out,x.out];simp [F]));have L:=H (show cJ cf h c=some (k,h) by unfold cJ;rw [G.out]);have M:(0:Int)<(n:Int):=Z;clear p g a x G;go_wp2;go_ret;refine⟨?_,Bi.ofBelow A BW⟩;rw [L.out];exact .yes k h _ ⟨d,z _ A,O,Kl.refl d⟩
  obtain rfl:k=6:=Z;have A:=H (sd p);clear p b;go_wp2_with (refine wpList_load_mid rfl 60 _ rfl _ _ rfl _ _ (RG _ o) underlying60 rfl E ?_);rw [a0.out];have a9:∀ (fn:Fn) (first a1:Array Value) (w:World),(Instr.makeFunc fn first a1).run prog w=.ok (.func fn first a1) w:=λ_ _ _ _=>rfl
  clear FR RG a0 SG;go_loopw [36] (λi a=>∃ k:Nat,k<=6/\i=I k/\Hid (∀ s,s<k->dA h c s=true)/\Hid (D W a)) (λi _=>6-(intOf i).toNat);case atStart=>exact ⟨0,FH _,rfl,H (λs Q=>Z),o⟩
  case round =>
   clear o;obtain⟨k,N,rfl,p,o⟩:=hrel;by_cases b:k<6
   ·have ix:=Y.out k b;have g:=H (O.on c k l b);have R:=H (λ(q:dA h c k=false)=>vy b q p);have a:D wr (wr.alloc (.cells #[J (y.sb c k) 0] 59)):=(Fu _ _).alloc (Fv _) _;have X:=ao wr (.cells #[J (y.sb c k) 0] 59);have BX:=H (o.trans (a.mono o.size));have fl:=FL.out _ BX k b;have b0:=H o.size;clear a;(go_upto_region 10 with fail);generalize wr.alloc _=V at *;generalize wr.heap.size=S at *;have x0:V.cell? ⟨S,0,none⟩=some (J (y.sb c k) 0):=bJ X;have XH:=H X;clear X o;generalize t:d.on c k=on at *;cases on with
    | true =>
     have u:=H (show ∀ s,s<k+1->dA h c s=true from λs Q=>by
      rcases Nat.lt_succ_iff_lt_or_eq.1 Q with q|q;·exact p s q
      subst q;exact g.symm)
     clear p g R t;generalize y.sb c k=gb at *;go_wp2;go_roundw;(case rel=>exact ⟨k+1,Z,aY,u,BX⟩);case measure=>simp [intOf];omega
    | false =>
     have a2:=H (R g.symm);obtain⟨n,M⟩:=(z V BX).setOn l b true;have fz:V.frozen? ⟨y.sb c k,2,none⟩=false:=(by simp [World.frozen?,(z.out V BX.out).sl c k l b]);have T:=H n;have a3:=H ((Bi.ofBelow BX BW).trans M);have X1:=H (M.ky.cells _ _ _ _ XH wo);have a4:=H (mz (y.sb c k) (y.sr c k) (y.sm c k 0) c k (aM c) (y.sc c k) _ 0 _ (n.bc c k l b) Z (n.scAt c k 0 l b Z) (n.rowAt c k 0 l b Z));have a6:=cD l b;have X:∀ i,i<dI c->(h.m (aD c k+i)).isSome=false:=λi hi=>by rw [HI.slab c k l b i hi];exact g.symm
     have CM:=H (λa (i:Hp B y { d with on:=gG d.on c k true } cf h a)=>nA B y { d with on:=gG d.on c k true } cf h (aD c k) (dI c) (.func 157) #[] #[J S 0] a i HI.out.out Z Z X);have TD:=H (show ∀ P,Gd { d with on:=gG d.on c k true,f:=P,un:=.nilFunc } { h with m:=aT h.m (aD c k) (dI c) } an from λP=>⟨λF G x K=>by
      show gG d.on c k true F G=(aT h.m (aD c k) (dI c) (aD F G)).isSome;unfold gG;by_cases e:F=c/\G=k;·obtain⟨rfl,rfl⟩:=e;rw [GP ⟨rfl,rfl⟩,jF _ _ _ _ (Fv _) Z];rfl
      rw [GO e,cO,GO (by
       have hq:=aX x;rcases ew x K l b e with L|L <;> omega)]
      exact O.on F G x K,rfl,O.an⟩)
     have TB:=H (show ∀ P V',Hp B y { d with on:=gG d.on c k true,f:=P,un:=.func (.func 157) #[] #[J S 0] } cf h V'->V'.heap[S]?=some (.cells #[J (y.sb c k) 0] 59)->Tk B y cf h an V' from λP V' a7 L a8 a5=>by
      refine (pE B y _ cf h S c k a8 (a7.below a5) l b (by rw [GT _ _ _ _ _ _ ((a5.block _ (ag L)).trans L)];rfl) rfl).mono ?_;rintro e W9 ⟨rfl,h9,b9⟩;refine⟨rfl,⟨_,h9,λF G x K=>?_,rfl,O.an⟩,b9⟩;show gG (gG d.on c k true) c k false F G=dA h F G;unfold gG;by_cases e:F=c/\G=k;·obtain⟨rfl,rfl⟩:=e;rw [GP ⟨rfl,rfl⟩];exact g.out
      rw [GO e,GO e];exact O.on F G x K)
     have a5:=H (λ(hb:¬((cf.bud:Int)<(bz h.m 283:Int)+(dI c:Nat)))=>show cJ cf h c=some (k,{ h with m:=aT h.m (aD c k) (dI c) }) by unfold cJ;rw [A.out];dsimp only;rw [a2.out];dsimp only;rw [GO Z]);have L:=H (λ(hb:(cf.bud:Int)<(bz h.m 283:Int)+(dI c:Nat))=>show cJ cf h c=none by unfold cJ;rw [A.out];dsimp only;rw [a2.out];dsimp only;rw [GP Z]);clear n M t p g R a6 X;(go_upto_region 12 with fail);generalize V.setCell ⟨y.sb c k,2,none⟩ (.bool true)=a at *;have M:a.cell? ⟨S,0,none⟩=some (J (y.sb c k) 0):=bJ X1.out;clear fl fz x0 XH;go_wp2_with fail;refine (a4).mono ?_;rintro e U2 ⟨rfl,n⟩;have a6:=H (T.below n);have X:=H (a3.add n T.bW);have X2:=H ((n.block _ (ag X1)).trans X1);clear a4 n T a3 X1 M;go_wp2_with fail;refine (CM _ a6).mono ?_;rintro e U3 ⟨P,n,⟨hb,rfl,M⟩|⟨hb,rfl,M⟩⟩
     ·have x3:U3.cell? ⟨S,0,none⟩=some (J (y.sb c k) 0):=(by rw [GT _ _ _ _ _ _ (n.ky.cells _ _ _ _ X2.out wo)];rfl);have T:=H (IT M (IT (X.trans n) (a5 Z)));clear M n CM a6 X X2 a5 L hb;go_wp2;go_ret;refine⟨?_,T.2.1⟩;rw [T.2.2];exact .yes k _ _ ⟨_,T.1,TD P,λ_ _ e=>e⟩
     refine⟨rfl,?_,X.trans n⟩;rw [L.out Z];exact .no _ (TB P U3 M (n.ky.cells _ _ _ _ X2 wo))
   obtain rfl:k=6:=Z;have L:=H (show cJ cf h c=none by unfold cJ;rw [A.out];dsimp only;rw [vg p.out]);clear p A;go_wp2;refine⟨rfl,?_,Bi.ofBelow o BW⟩;rw [L.out];exact .no _ (Hg.tk ⟨d,z _ o,O⟩)
theorem xR (h:∀ j,j<l.length->l[j]?.getD 0<=0) (e:okB l):l.all (· == 0)=true:=by
 rw [List.all_eq_true];intro x b;obtain⟨j,c⟩:=He b;have a:=(Fz.1 c).1;have d:=h j a;rw [c] at d;have f:=e x b;simp at d ⊢;omega
theorem o_ (a:j<l.length) (h:0<l[j]?.getD 0):l.all (· == 0)=false:=by
 cases e:l.all (· == 0) with
 | false=>rfl
 | true =>
  exfalso;rw [List.all_eq_true] at e;have b:l[j]?.getD 0∈l:=by rw [Fy a];exact Iw _
  have:=e _ b;rw [beq_iff_eq] at this;omega
theorem BM (u data W) (h:Bs W u data) (d:okB data) (r:0<data.length) (z:data.length<=100000) :
  Calls prog 117 #[u] W λe W'=>∃ M:Int,e=.returned (.int .u8 M)/\decide (0<M) = !(data.all (· == 0))/\W'=W:=by
 obtain⟨a,P,rfl,f⟩:=h;obtain⟨g,rfl,A⟩:=f 0 r;have s:=H (show ∀ i,i<data.length->W.cell? ⟨g,i,none⟩=some (.int .u8 (data[i]?.getD 0)) from λi a=>by
  obtain⟨k,b,c⟩:=f i a;cases b;exact c)
 have Q:=H d;have t:=H (λi=>d.get i);have v:=H (λb=>xR (l:=data) b d);have w:=H (λj c b=>o_ (l:=data) (j:=j) c b);clear f d;obtain⟨n,d⟩:∃ n,data.length=n:=⟨_,rfl⟩;rw [d] at s v w r z ⊢;clear d;have B:=t.out 0;generalize d:data[0]?.getD 0=F at *;have f:=H d;clear d;have y:¬((n:Int)<1):=Z;go_enter func117,ntmps117;go_wp2;go_loopw [3,4] (λm i wr=>∃ (k:Nat) (M:Int),k<=n/\1<=k/\i=I k/\m=.int .u8 M/\wr=W/\Hid (0<=M/\M<=255)/\Hid ((0<M->∃ j,j<k/\0<data[j]?.getD 0)/\(M<=0->∀ j,j<k->data[j]?.getD 0<=0))) (λ_ i _=>n-(intOf i).toNat)
 case atStart=>exact ⟨1,F,Z,Fv _,rfl,rfl,rfl,H B,H ⟨λh=>⟨0,Z,by rw [f.out];exact h⟩,λh j c=>by
  obtain rfl:j=0:=Z;rw [f.out];exact h⟩⟩
 case round =>
  obtain⟨k,M,R,G,rfl,rfl,rfl,K,m⟩:=hrel;by_cases p:k<n
  ·have L:=s.out k p;have gk:=t.out k;generalize d:data[k]?.getD 0=x at *;have q:=H d;clear d;by_cases N:M<=x
   ·have o:max M x=x:=Z;go_wp2;go_roundw
    case rel=>exact ⟨k+1,x,Z,Z,aY,by congr 1;split <;> omega,trivial,H gk,H ⟨λb=>⟨k,Z,by rw [q.out];exact b⟩,λb j c=>by
     rcases Nat.lt_succ_iff_lt_or_eq.1 c with d|d;·exact m.2 Z j d
     subst d;rw [q.out];exact b⟩⟩
    case measure=>simp [intOf];omega
   have o:max M x=M:=Z;go_wp2;go_roundw
   case rel=>exact ⟨k+1,M,Z,Z,aY,by congr 1;split <;> omega,trivial,K,H ⟨λb=>by
    obtain⟨j,c,O⟩:=m.1 b;exact⟨j,Z,O⟩,λb j c=>by
    rcases Nat.lt_succ_iff_lt_or_eq.1 c with d|d;·exact m.2 b j d
    subst d;rw [q.out];omega⟩⟩
   case measure=>simp [intOf];omega
  obtain rfl:k=n:=Z;go_wp2;go_ret;refine⟨M,rfl,?_,rfl⟩;by_cases d:0<M;·obtain⟨j,c,b⟩:=m.1 d;rw [w.out j c b];simpa using d
  rw [v.out (m.2 Z)];simpa using d
theorem Hp.setSlot (b:Hp B y d cf h W) (i:c<12) (m:s<6) (u:j<aM c) (st' rq') (g:W.grownBy W' (some (y.sm c s j))) (x:W'.heap[y.sm c s j]?=some (.cells (t5 st' rq' (y.sb c s) j) 162)) :
  Hp B y d cf { h with st:=aE h.st c s j st',rq:=aE h.rq c s j rq' } W'/\Bi B W W':=by
 have l:=b.sm c s j i m u;have k:Ky (· = 162) W W':=Ky.grown l rfl g;have v:Below B W W':=(Fu B W).grown g b.bW (λr w=>by simp at w;have:=b.ap.bsm c s j i m u;omega);have z:W'.heap[y.M]?=W.heap[y.M]?:=g.block _ b.sp.lt.2 (λe=>by
  simp at e;obtain⟨a,⟨A,F,f,_⟩,_⟩:=b.sp.map;rw [e,l] at f;cases f)
 have G:W'.heap[y.R]?=W.heap[y.R]?:=by
  obtain⟨A,F,f⟩:=b.mp.typ;exact g.block _ (ag f) (λe=>by simp at e;rw [e,l] at f;cases f)
 refine⟨⟨b.ap,Fx b.bW v.size,b.box.ky k ar,b.ds.belowB v b.ap.da,b.sp.ky k ar z,b.pg.ky k ar,b.bf,
 λc s i m=>k.cells _ _ _ _ (b.sl c s i m) ar,λc s i m=>cL (b.rw c s i m) k ar,λa n o p q t=>?_,
 λc i=>(b.wt c i).ky k ar ar ar,b.mp.same G,b.lo,λr w=>by obtain ⟨g,K,f,L⟩:=b.lb r w;exact⟨g,K,f,k.cells _ _ _ _ L ar⟩,b.li,b.ro.ky k ar,ai b.rl k ar,b.rr,b.tb.belowB v b.ap.b0⟩,Bi.ofGrown l (.inr (.inr (.inr (.inr (.inl rfl))))) (b.ap.bsm c s j i m u) b.bW g⟩
 show W'.heap[y.sm a n o]?=some (.cells (t5 (aE h.st c s j st' a n o) (aE h.rq c s j rq' a n o) (y.sb a n) o) 162);by_cases e:a=c/\n=s/\o=j;·obtain⟨rfl,rfl,rfl⟩:=e;rw [aS,aS];exact x
 rw [aU _ _ e,aU _ _ e];have f:=b.sm a n o p q t;rw [g.block _ (ag f) (λg=>by
  simp at g;exact e (b.ap.ism a n o c s j p q t i m u g))]
 exact f
theorem Hp.setSt1 (a:Hp B y d cf h W) (b:c<12) (e:s<6) (f:j<aM c) (st') :
  Hp B y d cf { h with st:=aE h.st c s j st' } (W.setCell ⟨y.sm c s j,0,none⟩ (I st'))/\Bi B W (W.setCell ⟨y.sm c s j,0,none⟩ (I st')):=by
 have g:=a.sm c s j b e f;have:=a.setSlot b e f st' (h.rq c s j) (W':=W.setCell ⟨y.sm c s j,0,none⟩ (I st')) (au (al W (y.sm c s j)) 0 _) (by simp [World.setCell,FD,g,t5]);rw [gy h.rq rfl] at this;exact this
theorem Hp.setRec (a:Hp B y d cf h W) (b:c<12) (e:s<6) (f:j<aM c) (st' rq') :
  Hp B y d cf { h with st:=aE h.st c s j st',rq:=aE h.rq c s j rq' } (W.setCells (y.sm c s j) 0 [I st',I rq'])/\Bi B W (W.setCells (y.sm c s j) 0 [I st',I rq']):=by
 have g:=a.sm c s j b e f;refine a.setSlot b e f st' rq' ?_ ?_;·simp only [World.setCells];exact au (au (al W (y.sm c s j)) 0 _) _ _
 simp [World.setCells,World.setCell,FD,g,t5]
inductive TaR (B:Nat) (y:Ly) (cf:Cf) (an:Value) (lg:Nat->Option Nat):Option Nat×Hs->Ending->World->Prop
 | slot (c s j:Nat) (h1:Hs) (W':World) (hc:c<12) (hs:s<6) (hj:j<aM c) (hl:h1.st c s j=1) (hg:Hgl B y cf h1 an lg W'):TaR B y cf an lg (some (bh c s j),h1) (.returned (.iface 158 (J (y.sm c s j) 0))) W'
 | range (r:Rg9) (g:Nat) (d:Dy) (h1:Hs) (W':World) (hr:r∈h1.rg) (hl:r.st=1) (hd:d.lg r.base=some g) (hp:Hp B y d cf h1 W') (gd:Gd d h1 an) (kl:Kl lg d):TaR B y cf an lg (some r.base,h1) (.returned (.iface 168 (J g 0))) W'
 | no (h1:Hs) (W':World) (tk:Tk B y cf h1 an W'):TaR B y cf an lg (none,h1) (.panicked (ip 1)) W'
def AS (B:Nat) (y:Ly) (cf:Cf) (an:Value) (lg:Nat->Option Nat) (W:World) (r:Option Nat×Hs) (e:Ending) (W':World):Prop:=TaR B y cf an lg r e W'/\Bi B W W'
theorem Gd.st {an} (g:Gd d h an) {a:Hs} (b:∀ k,(a.m k).isSome=(h.m k).isSome):Gd d a an:=⟨λc s e f=>by rw [g.on c s e f];exact (b _).symm,g.un,g.an⟩
theorem aV (t:TypeId) {o:Oper} {a:Act} {K:Act->World->Prop} {Q:Exit->Act->World->Prop} (s x:Operand) {v2 c:Value} (b:o.op=.call { callee:=.builtin .append,args:=#[s,x],argTypes:=#[t,t] }) (d:o.type=t) (e:a.eval s=v) (f:a.eval x=v2)
  (g:(Builtin.append_ #[t,t] t #[v,v2]).run prog W=.ok c W') (i:K (a.put o.dst c) W'):Oper.wp prog o a W K Q:=by
 unfold Oper.wp;simp [execOp,b,d,resolve,invoke,builtin,e,f,g,Result.andThen];exact i
theorem BD (W:World) (B:Nat) (l:List Nat) (a:Nat) (d:l.length<=a) (e:a<=maxLen) (f:B<=W.heap.size) :
  Um B (W.drew.alloc (.cells ((Us l).toArray++Builtin.zeroCells (Value.int .u64 0).cells (a-l.length)) 23)) (Vl W.heap.size l.length a) l:=by
 have g:=ao W.drew (.cells ((Us l).toArray++Builtin.zeroCells (Value.int .u64 0).cells (a-l.length)) 23);have b:(Builtin.zeroCells (Value.int .u64 0).cells (a-l.length))=Array.replicate (a-l.length) (U 0):=by
  apply Array.ext';simp [Builtin.zeroCells,Value.cells,Nat.mod_one];rw [List.map_const',GG]
 refine .inr ⟨W.heap.size,0,a,_,rfl,f,g,?_,d,e,?_,?_⟩;·simp [b,fK];omega
 ·intro u c;simp [b,Us] at c;rcases c with ⟨n,_,rfl⟩|⟨_,rfl⟩ <;> rfl
 intro i c;rw [Gb,Array.getElem?_append_left (by simp [fK];exact c)];simp [Us,c]
theorem Cy (B W v l) (x:Nat) (g:Nat) (c) (r:Um B W v l) (R:W.cell? ⟨g,0,none⟩=some (U x)) (hl:l.length<=100000) (S:B<=W.heap.size) :
  ∃ f W',(Builtin.append_ #[34,34] 34 #[v,Vl g 1 c]).run prog W=.ok f W'/\Um B W' f (l++[x])/\W.grownBy W' (ee v)/\(ee f=ee v\/ee f=some W.heap.size)/\∃ a d,f=.slice a (l.length+1) d:=by
 obtain⟨s,t,z,n,A⟩:=G0 iY;have w:=Src.ofSlice (P:=prog) W (size:=s.size) underlying34 ⟨g,0,none⟩ 1 c [U x] (by rw [n];rfl) (λj u p=>by
  cases j with
  | zero=>simp at p;subst p;rw [Addr.add_mid];exact R
  | succ j=>simp at p) (λu r=>by simp at r;subst r;rfl)
 have q:∀ (m:Option Addr) (d:Nat),(Builtin.firstCells s.size l.length (.slice m l.length d)).run prog W.drew=.ok (Us l).toArray W.drew->d<l.length+1->∀ y,
   ∃ f W',(Builtin.append_ #[34,34] 34 #[.slice m l.length d,Vl g 1 c]).run prog W=.ok f W'/\Um B W' f (l++[x])/\W.grownBy W' y/\(ee f=some W.heap.size)/\∃ a d,f=.slice a (l.length+1) d:=λm d a b y=>by
  have F:=run_append_grow_src (P:=prog) W 34 34 34 23 s (U 0) underlying34 t z m l.length d (Us l) a _ 1 _ w b Z (growslice_fits b (by rw [A];omega))
  refine⟨_,_,F,?_,?_,rfl,_,_,rfl⟩
  ·have:=BD W B (l++[x]) (grownCap W (l.length+1) d 23) (by rw [FC];exact grownCap_ge _ _ _ _) (grownCap_le_maxLen _ _ _ _ (by unfold maxLen;omega)) S;rw [k_,FC] at this;exact this
  exact⟨rfl,rfl,rfl,by rw [aO];exact Nat.le_succ _,λk e _=>eg W.drew _ k e⟩
 rcases r with ⟨rfl,rfl⟩|⟨b,o,d,T,rfl,V,k,X,h5,Y,h7,Q⟩;·obtain⟨f,W',G,K,L,M,N⟩:=q none 0 (run_firstCells_none W.drew s.size 0 0 0) bH none;exact⟨f,W',G,K,L,.inr M,N⟩
 have cl:∀ i,i<l.length->W.cell? ⟨b,o+i,none⟩=some (U ((l[i]?.getD 0:Nat):Int)):=λi O=>by rw [GT _ _ _ _ _ _ k];exact Q i O
 by_cases a:l.length+1<=d
 ·have F:=run_append_room_src (P:=prog) W 34 34 34 23 s underlying34 t b o l.length d _ 1 _ w a (λj p=>by
   have:j=0:=by simpa using p
   subst this;rw [GT _ _ _ _ _ _ k,n,Hw Z];rfl) (λj p=>by simp [World.frozen?,k])
  refine⟨_,_,F,?_,?_,.inl rfl,_,_,rfl⟩
  ·have hb:(W.setCell ⟨b,o+l.length,none⟩ (U x)).heap[b]?=some (.cells (T.setIfInBounds (o+l.length) (U x)) 23):=(by simp [World.setCell,FD,k]);rw [n,Nat.mul_one];refine .inr ⟨b,o,d,_,by rw [FC];rfl,V,hb,by simpa using X,by rw [FC];exact a,Y,?_,?_⟩
   ·intro u r;rw [Array.toList_setIfInBounds] at r;rcases List.mem_or_eq_of_mem_set r with h|rfl;·exact h7 u h
    rfl
   intro i O;rw [FC,List.length_singleton] at O;rw [FK];by_cases e:o+l.length=o+i
   ·rw [GP e,GP Z];have:i=l.length:=Z;subst this;simp
   rw [GO e,Q i Z,Ga Z]
  rw [n,Nat.mul_one];exact au (al W b) _ _
 obtain⟨f,W',G,K,L,M,N⟩:=q (some ⟨b,o,none⟩) d (by
  rw [n];exact run_firstCells_some W.drew 1 l.length ⟨b,o,none⟩ l.length d (Us l) (by rw [fK,Nat.mul_one]) (λj u p=>by
   rw [Addr.add_mid];have e:j<l.length:=by
    have:=(Fz.1 p).1;rw [fK] at this;exact this
   have:=cl j e;simp [Us,e] at p this;rw [<-p];exact this)) Z (some b)
 exact⟨f,W',G,K,L,.inr M,N⟩
theorem oN {g o n a:Nat} {l} (k:Um B W (.slice (some ⟨g,o,none⟩) n a) l) (c:2<=l.length):n=l.length/\n<=a/\Um B W (.slice (some ⟨g,o+1,none⟩) (n-1) (a-1)) l.tail/\W.cell? ⟨g,o,none⟩=some (U ((l[0]?.getD 0:Nat):Int)):=by
 rcases k with ⟨e,rfl⟩|⟨b,s,d,m,e,c,f,t,p,u,q,j⟩;·simp at c
 simp at e;obtain⟨⟨rfl,rfl⟩,rfl,rfl⟩:=e;refine⟨rfl,p,.inr ⟨g,o+1,a-1,m,by rw [List.length_tail],c,f,Z,by rw [List.length_tail];omega,Z,q,λi r=>?_⟩,?_⟩;·rw [List.length_tail] at r;rw [show o+1+i=o+(i+1) by omega,j (i+1) Z];simp
 rw [GT _ _ _ _ _ _ f];have:=j 0 Z;simpa using this
theorem wD {l} (c:Um B W v l) (d:1<=l.length):∃ g o a,v=.slice (some ⟨g,o,none⟩) l.length a/\l.length<=a:=by
 rcases c with ⟨e,rfl⟩|⟨b,f,a,i,e,j,k,m,g,_⟩;·simp at d
 exact⟨b,f,a,e,g⟩
theorem oz {l} (c:Um B W v l):∃ a b,v=.slice a l.length b:=by
 rcases c with ⟨e,rfl⟩|⟨b,d,a,f,e,g,i,j,k,_⟩;·exact⟨none,0,e⟩
 exact⟨_,a,e⟩
theorem Hp.setRo {W1} (b:Hp B y d cf h W) {v' row'} (o:Um B W1 v' row') (g:W.grownBy W1 (ee d.ro)) (p:∀ g,ee v'=some g->d.rl.ownBlock≠some g) :
  Hp B y { d with ro:=v' } cf { h with row:=row' } (W1.setCell ⟨y.P,116,none⟩ v')/\Bi B W (W1.setCell ⟨y.P,116,none⟩ v')/\W1.cell? ⟨y.P,116,none⟩=some d.ro/\W1.frozen? ⟨y.P,116,none⟩=false:=by
 have f:=b.gw (λg a=>lS b.ro a) g;have k:=b.box.ky f.k ar;have i:=k.set 116 Z v';rw [pi cf y d h.used 116 v' { d with ro:=v' } (.inl ⟨rfl,rfl⟩)] at i;have q:=lH b.rl g (λg a e=>b.rr g e a);have l:=k.kyS 116 v';have n:Below B W1 (W1.setCell ⟨y.P,116,none⟩ v'):=(Fu B W1).grown (au (al W1 y.P) _ _) (Fx b.bW f.bl.size) (λr a=>by simp at a;have:=b.ap.bP;omega);have r:(W1.setCell ⟨y.P,116,none⟩ v').heap[y.M]?=W1.heap[y.M]?:=GQ _ _ _ _ (λe=>by
  obtain⟨c,m,_⟩:=b.box;obtain⟨a,⟨s,u,j,_⟩,_⟩:=b.sp.map;rw [e,m] at j;cases j)
 have a:(W1.setCell ⟨y.P,116,none⟩ v').heap[y.R]?=W1.heap[y.R]?:=GQ _ _ _ _ (λe=>by
  obtain⟨c,m,_⟩:=b.box;obtain⟨s,u,j⟩:=b.mp.typ;rw [e,m] at j;cases j)
 exact⟨b.rows ((f.k.more (λt e=>.inl e)).trans (l.more (λt e=>.inr e))) (f.bl.trans n) (r.trans f.m) (a.trans f.r) v' d.rl row' h.rel i (o.ky l ar) (ai q l ar) p,f.bi.trans ⟨n,l.more (λt e=>by subst e;unfold hI;decide)⟩,k.cell 116 Z,k.free 116⟩
def gX (rg:List Rg9) (b:Nat) (st rq:Int):List Rg9:=rg.map λx=>if x.base=b then { x with st:=st,rq:=rq } else x
theorem jG (b:Nat) (a c:Int) (x:Rg9):(if x.base=b then { x with st:=a,rq:=c } else x:Rg9).base=x.base:=by split <;> rfl
theorem Hp.setLg (b:Hp B y d cf h W) {r:Rg9} (t:r∈h.rg) (O:∀ x∈h.rg,x.base=r.base->x=r) {L:Nat} (u:d.lg r.base=some L) (j l:Int) (g:W.grownBy W' (some L)) (P:W'.heap[L]?=some (.cells (oV { r with st:=j,rq:=l }) 182)) :
  Hp B y d cf { h with rg:=gX h.rg r.base j l } W'/\Bi B W W':=by
 obtain⟨L',M,v,f⟩:=b.lb r t;rw [u] at M;cases M;have k:Ky (· = 182) W W':=Ky.grown f rfl g;have p:Below B W W':=(Fu B W).grown g b.bW (λr t=>by simp at t;omega);have Q:W'.heap[y.M]?=W.heap[y.M]?:=g.block _ b.sp.lt.2 (λe=>by
  simp at e;obtain⟨a,⟨R,S,i,_⟩,_⟩:=b.sp.map;rw [e,f] at i;cases i)
 have T:W'.heap[y.R]?=W.heap[y.R]?:=by
  obtain⟨R,S,i⟩:=b.mp.typ;exact g.block _ (ag i) (λe=>by simp at e;rw [e,f] at i;cases i)
 have a:(gX h.rg r.base j l).length=h.rg.length:=by simp [gX]
 have m:=b.mp.same T;rw [<-a] at m;refine⟨⟨b.ap,Fx b.bW p.size,b.box.ky k ar,b.ds.belowB p b.ap.da,b.sp.ky k ar Q,b.pg.ky k ar,b.bf,
 λc s n w=>k.cells _ _ _ _ (b.sl c s n w) ar,λc s n w=>cL (b.rw c s n w) k ar,λV X Y z A F=>k.cells _ _ _ _ (b.sm V X Y z A F) ar,
 λc n=>(b.wt c n).ky k ar ar ar,m,λq=>?_,λx hx=>?_,b.li,b.ro.ky k ar,ai b.rl k ar,b.rr,b.tb.belowB p b.ap.b0⟩,p,k.more (λt e=>by subst e;unfold hI;decide)⟩
 ·show (d.lg q).isSome=(gX h.rg r.base j l).any λr=>r.base==q
  rw [b.lo q];unfold gX;rw [List.any_map];congr 1;funext x;show _=((if x.base=r.base then { x with st:=j,rq:=l } else x:Rg9).base==q);rw [jG]
 obtain⟨G,o,rfl⟩:=FQ.1 hx;rw [jG];by_cases e:G.base=r.base;·have:=O G o e;subst this;rw [GP rfl];exact⟨L,u,v,P⟩
 rw [GO e];obtain⟨g',K,a2,N⟩:=b.lb G o;refine⟨g',K,a2,?_⟩;rw [g.block _ (ag N) (λa=>by simp at a;rw [a] at K;exact e (b.li _ _ _ K u))];exact N
theorem Hp.cutR (j:Hp B y d cf h W) (b:Nat) (s:(d.lg b).isSome=true) (o:∃ r∈h.rg,r.base=b) (p:Mr y.R (h.rg.length-1) (upd d.lg b none) W') (r:W.mapTurned W' y.R) (c:h.rg.length-1<=(h.rg.filter λx=>x.base≠b).length) :
  Hp B y { d with lg:=upd d.lg b none } cf { h with rg:=h.rg.filter λx=>x.base≠b } W'/\Bi B W W':=by
 refine j.turn r _ (h.rg.filter λx=>x.base≠b) ?_ (λk=>?_) (λm l=>?_) (λk n g f i=>?_);·obtain⟨a,f,i,e⟩:=p.map;exact⟨a,f,Fx i c,e⟩
 ·by_cases e:k=b;·subst e;rw [upd_same];simp
  rw [aI _ _ _ _ e,j.lo k,List.any_filter];congr 1;funext x;by_cases a:x.base=k
  ·have:x.base≠b:=λq=>e (a.symm.trans q)
   simp [a,e]
  simp [a]
 ·obtain⟨f,i⟩:=Gk.1 l;have a:m.base≠b:=by simpa using i
  rw [aI _ _ _ _ a];exact j.lb m f
 have q:∀ k,upd d.lg b none k=some g->d.lg k=some g:=λk a=>by
  by_cases e:k=b;·subst e;rw [upd_same] at a;cases a
  rw [aI _ _ _ _ e] at a;exact a
 exact j.li k n g (q k f) (q n i)
theorem nK (W:World) (B:Nat) (v:Value) (l:List Nat) (x:Nat) (g c:Nat) (b:W.ownsRow B 23 1 v l.length (Us l)) (m:W.cell? ⟨g,0,none⟩=some (U x)) (t:l.length<=100000) (n:B<=W.heap.size) :
  ∃ a d,(Builtin.append_ #[34,34] 34 #[v,Vl g 1 c]).run prog W=.ok a d/\d.ownsRow B 23 1 a (l++[x]).length (Us (l++[x]))/\W.grownBy d v.ownBlock/\(a.ownBlock=v.ownBlock\/a.ownBlock=some W.heap.size):=by
 obtain⟨o,e,f,i,k⟩:=G0 iY;obtain⟨a,d,p,q,r,_,s⟩:=run_append_own_at (P:=prog) W B 34 34 23 o _ 1 8 underlying34 e f i k rfl Z v _ _ b ⟨g,0,none⟩ 1 c [U x] rfl (λj u b=>by
  cases j with
  | zero=>simp at b;subst b;rw [Addr.add_mid];exact m
  | succ j=>simp at b) (λu b=>by simp at b;subst b;rfl) (by unfold maxLen;omega) Z n
 exact⟨a,d,p,by rw [FC,k_];exact q,r,s⟩
theorem zw {c:List Rg9} (d:c.Pairwise λa b=>a.first+a.ext<=b.first\/b.first+b.ext<=a.first) (b:Nat):c.length-1<=(c.filter λx=>x.base≠b).length:=by
 induction c with
 | nil=>simp
 | cons r l f =>
  obtain⟨g,i⟩:=List.pairwise_cons.1 d;by_cases e:r.base=b
  ·have:(l.filter λx=>x.base≠b)=l:=by
    rw [Il];intro x j;have:=g x j;have m:x.ext=x.guards+x.pages+1:=rfl;have n:r.ext=r.guards+r.pages+1:=rfl;have a:x.base≠b:=λk=>by
     have o:(r.first+r.guards)*1024=(x.first+x.guards)*1024:=e.trans k.symm;omega
    simpa using a
   rw [Ix (by simp [e]),this];simp
  rw [Hn (by simp [e])];have:=f i;simp only [FN];omega
end
end Go.Proofs.YtibblbenmpcplaaGreatDoor
