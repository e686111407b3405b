import Derived.Test.YtdngbppdomoenaaGreatDoorN27
import Derived.Test.YtdngbppdomoenaaGreatDoorN29
set_option linter.unusedVariables false
set_option linter.unusedSimpArgs false
set_option maxRecDepth 20000
set_option maxHeartbeats 8000000
namespace Go.Proofs.YtdngbppdomoenaaGreatDoor
open Go.Proofs.Tryz
variable {cf:Cf} {h:Hs} {B c i j n s x:Nat} {l m:List Nat}
section
open Go.RowKit Go.Maps
theorem Cv (g) (w:World):(Instr.typeAssert (.iface 184 (J g 0)) 121 174 true).run prog w=.ok (.tuple #[.pointer none,.bool false]) w:=E
theorem Bz (g) (w:World):(Instr.typeAssert (.iface 174 (J g 0)) 121 174 true).run prog w=.ok (.tuple #[J g 0,.bool true]) w:=E
def dY (cf:Cf) (h:Hs):Fd->Fd
 | .slot c s j=>if sound cf h c s j then .slot c s j else .no 5
 | x=>x
def Dh (B:Nat) (y:Ly) (d:Dy) (cf:Cf) (h:Hs) (W:World) (f:Fd) (e:Ending) (W':World):Prop:=∃ i,Ax y d f e/\Hp B y { d with f:=i } cf h W'/\Bi B W W'
theorem Inv.onLive (i:Inv cf h) (a:c<12) (b:s<6) (d:j<aM c) (f:h.st c s j=1):dy h c s=true:=by
 cases e:dy h c s with
 | true=>rfl
 | false=>have:=i.off c s a b e j d;rw [f] at this;cases this
theorem Inv.accS (i:Inv cf h) (a:c<12) (d:s<6) (e:j<aM c) (b:dy h c s=true) (k n:Nat) (f:1<=n) (g:k+n<=bX c):b_ h.m (aX c s j+k) (n:Int)=0:=by
 have l:=cI a d e;have m:=bd a;refine jG f Z Z (λq o=>?_);have:=i.openS a d e b (k:=k+q) Z;rw [show aX c s j+k+q=aX c s j+(k+q) by omega];exact this
theorem oG (B y d cf h) (p:Nat) (W) (a:Hp B y d cf h W) (i:Inv cf h) (hb:Byt h.m) (P:p<18446744073709551616) (Q:h.rel.length<=100000) (R:0<=cf.key) (T:cf.key<18446744073709551616) :
  Calls prog 72 #[J y.P 0,U p] W (Dh B y d cf h W (dY cf h (aP h p))):=by
 have b:=H (nL B y d cf h p W a i P Q);have X:=H (ed h p);have k:=H (λV (e:D W V)=>a.below e);have K:=H a.bW;clear a;generalize aP h p=fd at *;go_enter func72,ntmps72;go_wp2_with fail;refine (b).mono ?_;rintro e V ⟨lk,a⟩;have l:=H a;clear b a;cases lk with
 | no a =>
  exact⟨rfl,d.f,.no a,k V l,Bi.ofBelow l K⟩
 | range r g a =>
  have ta:=λw=>Cv g w
  clear X;go_wp2;go_ret;exact⟨d.f,.range r g a,k V l,Bi.ofBelow l K⟩
 | slot c s j =>
  obtain⟨n,r,t,F,z⟩:c<12/\s<6/\j<aM c/\aX c s j=p/\h.st c s j=1:=by
   have:=X.out;generalize a:Fd.slot c s j=fd at this;cases this with
   | slot u v x b g m o q=>cases a;exact⟨b,g,m,o,q⟩
   | range=>cases a
   | no=>cases a
  have m:=i.onLive n r t z;have hz:=bd n;have a6:=cI n r t;have b:b_ h.m (aX c s j+fo c) ((8:Nat):Int)=0:=i.accS n r t m (fo c) 8 Z Z;have ta:=λw=>Bz (y.sm c s j) w
  have v:=k.out V l.out;have A:=H (λa (u:D V a)=>kx (y.sm c s j) (y.sb c s) c s j a ((v.scAt c s j n r t).below u));have q:=H (λa (u:Hp B y d cf h a)=>ju B y d cf h (aX c s j+fo c) 8 a u i.out Z Z);rw [show min 8 4097=8 from rfl,b] at q;rw [Gv rfl] at q;have SB:=H (λx a (u:Hp B y { d with f:=x } cf h a)=>e_ (y.sm c s j) (y.sb c s) c s j a (u.scAt c s j n r t));have CN:=H (λa=>rb cf.key (aX c s j:Nat) a R T Z Z);have EQ:=H (λu1 u2 a g k=>xr u1 u2 (aI h.m (aX c s j+fo c) 8) (can cf (aX c s j)) a g k (hb.load _ _) (tO cf _));have L:=H (show sound cf h c s j=(aI h.m (aX c s j+fo c) 8==can cf (aX c s j)) from rfl);have o:=H v;have a7:=H (show (aI h.m (aX c s j+fo c) 8).length=8 by simp [aI]);have Y:=H (show gH (cx cf.key ((aX c s j:Nat):Int))=can cf (aX c s j) from rfl);have a0:=H (Ax.slot (y:=y) (d:=d) c s j);have g:=H (show dY cf h (.slot c s j)=if sound cf h c s j then .slot c s j else .no 5 from rfl);clear v X z m b F;generalize y.sm c s j=gm at *;generalize aI h.m (aX c s j+fo c) 8=z at *;go_wp2_with fail;refine (A _ (Fc _ _)).mono ?_;rintro e V2 ⟨rfl,b⟩;have G:=H (o.below b);have O:=H ((Bi.ofBelow l K).add b (Fg K l.size));clear b A o;go_wp2_with fail;refine (q _ G).mono ?_;rintro e V3 ⟨x,m,o,⟨_,v,rfl,b⟩|⟨hn,_⟩⟩
  rotate_left
  ·exact absurd rfl hn
  have M:=H m;have B3:=H (O.trans o);have A:=H (sY b);obtain⟨va,vn,vc,rfl⟩:=aD b;have ck:=m.cell 4 Z _ rfl;have N:=H (show ∀ F,D V3 F->F.cell? ⟨y.P,4,none⟩=some (U cf.key) from λF k=>ad k ck);clear m o b q G O ck;go_upto_region 5 with fail
  refine rh (S:=λF=>F.cell? ⟨y.P,4,none⟩=some (U cf.key)) ?_;have m:=N.out _ (Fc _ _).drew;iterate 7 (refine py m ?_;simp only [f0,f1,Nat.reduceAdd,lz,l0,ls])
  refine po 7 λK' b=>?_;go_simp;refine (SB x _ (M.below (Fc _ _).drew)).mono ?_;rintro e V4 ⟨rfl,o⟩;have k4:D V3 V4:=⟨o.os,o.tape,o.output,o.size,o.block⟩;have h4:=N.out _ k4;refine b _ _ ⟨h4,?_⟩;clear m;have m:=h4;clear b K';refine po 8 λK' b=>?_
  go_simp;refine (CN _).mono ?_;rintro e V5 ⟨rfl,r5,b5⟩;have q:=az k4 b5;have O:=N.out _ q;refine b _ _ ⟨O,?_⟩;clear m;have m:=O;rw [Y.out] at r5;have G:=Bv r5 (by unfold can;exact dN _);clear b K';refine po 9 λK' b=>?_;go_simp;refine (EQ _ _ _ (A.below q) G).mono ?_;rintro e V6 ⟨rfl,hw⟩;rw [hw];clear hw V6;refine b _ _ ⟨O,?_⟩;clear b K';refine py m ?_;simp only [f0,f1,Nat.reduceAdd,lz,l0,ls];refine bN ?_;have K5:=H q;have B5:=H (B3.add q M.bW);have H5:=H (M.below q);clear m O h4 q k4 o b5 r5 G A N SB CN EQ M B3
  cases m:(z==can cf (aX c s j)) with
  | true =>
   have b:=H (show dY cf h (.slot c s j)=.slot c s j by rw [g.out,L.out,m];rfl);clear m L g;go_wp2;go_ret;rw [b.out];exact⟨x,a0,H5,B5⟩
  | false =>
   have b:=H (show dY cf h (.slot c s j)=.no 5 by rw [g.out,L.out,m];rfl);clear m L g;go_wp2;rw [b.out];exact⟨rfl,x,.no 5,H5,B5⟩
theorem wg:¬hI 78:=by unfold hI;decide
def E6 (B:Nat) (y:Ly) (cf:Cf) (h:Hs) (an:Value) (lg:Nat->Option Nat) (c:Nat) (W:World) (e:Ending) (W':World):Prop:=Es B y cf h an lg c (dm cf h c) e W'/\Bi B W W'
theorem A1 (B y d cf h an) (c:Nat) (W) (a:Hp B y d cf h W) (e:Gd d h an) (i:Inv cf h) (l:c<12) :
  Calls prog 132 #[J y.P 0,I c] W (E6 B y cf h an d.lg c W):=by
 have z:=H (λV (r:D W V)=>a.below r);have BW:=H a.bW;have hz:=bd l;have RG:=H (λV (r:D W V)=>(a.below r).range6 l);have FR:=H (λV (r:D W V) k (N:k<6)=>pb (y.sb c k) (y.sr c k) c k (aM c) (y.sc c k) (d.on c k) (y.sm c k) (h.st c k) V ((a.below r).bc c k l N) Z (λj b=>(a.below r).rowAt c k j l N b) (λj b=>((a.below r).smAt c k j l N b).1));have FL:=H (λV (r:D W V) k (N:k<6)=>((a.below r).bc c k l N).d2);have HI:=H i;have O:=H e;have SG:=H (uM y c);have b:∀ (k:Nat),k<6->∀ w,(Instr.index 79 (.agg (ko y c).toArray) (I k)).run prog w=.ok (J (y.sb c k) 0) w:=λk N w=>by
  rcases (show k=0\/k=1\/k=2\/k=3\/k=4\/k=5 by omega) with rfl|rfl|rfl|rfl|rfl|rfl <;> kernel_rfl
 have Y:=H b;clear a e i b;go_enter func132,ntmps132;go_wp2_with (refine wpList_load_mid rfl 79 _ rfl _ _ rfl _ _ (RG _ (Fc _ _)) underlying79 rfl E ?_);generalize a:(ko y c).toArray=A6 at *;have a0:=H a;clear a;go_loopw [15] (λi wr=>∃ k:Nat,k<=6/\i=I k/\Hid (∀ s,s<k->(dy h c s && !(freeS h c s).isEmpty)=false)/\Hid (D W wr)) (λi _=>6-(intOf i).toNat);case atStart=>exact ⟨0,Fs _,rfl,H (λs Q=>Z),H (Fc _ _)⟩
 case round =>
  obtain⟨k,N,rfl,p,o⟩:=hrel;by_cases b:k<6
  ·have ix:=Y.out k b;have fl:=FL.out wr o k b;have K:=H (λV (r:D W V)=>FR.out V r k b);have g:=H (O.on c k l b);have a:=H (λ(q:(dy h c k && !(freeS h c k).isEmpty)=true)=>sK b q p);generalize t:d.on c k=on at *;rw [jz] at K;cases on with
   | false =>
    have u:=H (show ∀ s,s<k+1->(dy h c s && !(freeS h c s).isEmpty)=false from λs Q=>by
     rcases Nat.lt_succ_iff_lt_or_eq.1 Q with q|q;·exact p s q
     subst q;rw [<-g.out];rfl)
    clear p g a K t;generalize y.sb c k=gb at *;go_wp2;go_roundw;(case rel=>exact ⟨k+1,Z,aY,u,o⟩);case measure=>simp [intOf];omega
   | true =>
    go_wp2_with fail;refine (K _ o).mono ?_;rintro e V ⟨v,rfl,own,F⟩;obtain⟨P,R,rfl⟩:=aK own;have A:=H (o.trans (F.mono o.size));have x:=H (show (freeS h c k).isEmpty=decide ((freeS h c k).length=0) by cases freeS h c k <;> simp);clear own F K fl ix t o;generalize F:(freeS h c k).length=n at *;clear F;by_cases F:n=0
    ·have u:=H (show ∀ s,s<k+1->(dy h c s && !(freeS h c s).isEmpty)=false from λs Q=>by
      rcases Nat.lt_succ_iff_lt_or_eq.1 Q with q|q;·exact p s q
      subst q;rw [x.out,F];simp)
     subst F;clear p g a x;generalize y.sb c k=gb at *;go_wp2;go_roundw;(case rel=>exact ⟨k+1,Z,aY,u,A⟩);case measure=>simp [intOf];omega
    have G:=H (a (by rw [<-g.out,x.out];simp [F]));have L:=H (show dm cf h c=some (k,h) by unfold dm;rw [G.out]);have M:(0:Int)<(n:Int):=Z;clear p g a x G;go_wp2;go_ret;refine⟨?_,Bi.ofBelow A BW⟩;rw [L.out];exact .yes k h _ ⟨d,z _ A,O,Kl.refl d⟩
  obtain rfl:k=6:=Z;have A:=H (rX p);clear p b;go_wp2_with (refine wpList_load_mid rfl 79 _ rfl _ _ rfl _ _ (RG _ o) underlying79 rfl E ?_);rw [a0.out];have a9:∀ (fn:Fn) (first a1:Array Value) (w:World),(Instr.makeFunc fn first a1).run prog w=.ok (.func fn first a1) w:=λ_ _ _ _=>rfl
  clear FR RG a0 SG;go_loopw [36] (λi a=>∃ k:Nat,k<=6/\i=I k/\Hid (∀ s,s<k->dy h c s=true)/\Hid (D W a)) (λi _=>6-(intOf i).toNat);case atStart=>exact ⟨0,Fs _,rfl,H (λs Q=>Z),o⟩
  case round =>
   clear o;obtain⟨k,N,rfl,p,o⟩:=hrel;by_cases b:k<6
   ·have ix:=Y.out k b;have g:=H (O.on c k l b);have R:=H (λ(q:dy h c k=false)=>vk b q p);have a:D wr (wr.alloc (.cells #[J (y.sb c k) 0] 78)):=(Fc _ _).alloc (Fe _) _;have X:=ao wr (.cells #[J (y.sb c k) 0] 78);have BX:=H (o.trans (a.mono o.size));have fl:=FL.out _ BX k b;have b0:=H o.size;clear a;(go_upto_region 10 with fail);generalize wr.alloc _=V at *;generalize wr.heap.size=S at *;have x0:V.cell? ⟨S,0,none⟩=some (J (y.sb c k) 0):=bY X;have XH:=H X;clear X o;generalize t:d.on c k=on at *;cases on with
    | true =>
     have u:=H (show ∀ s,s<k+1->dy h c s=true from λs Q=>by
      rcases Nat.lt_succ_iff_lt_or_eq.1 Q with q|q;·exact p s q
      subst q;exact g.symm)
     clear p g R t;generalize y.sb c k=gb at *;go_wp2;go_roundw;(case rel=>exact ⟨k+1,Z,aY,u,BX⟩);case measure=>simp [intOf];omega
    | false =>
     have a2:=H (R g.symm);obtain⟨v,M⟩:=(z V BX).setOn l b true;have fz:V.frozen? ⟨y.sb c k,2,none⟩=false:=(by simp [World.frozen?,(z.out V BX.out).sl c k l b]);have T:=H v;have a3:=H ((Bi.ofBelow BX BW).trans M);have X1:=H (M.ky.cells _ _ _ _ XH wg);have a4:=H (my (y.sb c k) (y.sr c k) (y.sm c k 0) c k (aM c) (y.sc c k) _ 0 _ (v.bc c k l b) Z (v.scAt c k 0 l b Z) (v.rowAt c k 0 l b Z));have a6:=cy l b;have X:∀ i,i<dH c->(h.m (aB c k+i)).isSome=false:=λi hi=>by rw [HI.slab c k l b i hi];exact g.symm
     have CM:=H (λa (q:Hp B y { d with on:=gG d.on c k true } cf h a)=>nC B y { d with on:=gG d.on c k true } cf h (aB c k) (dH c) (.func 173) #[] #[J S 0] a q HI.out.out Z Z X);have TD:=H (show ∀ P,Gd { d with on:=gG d.on c k true,f:=P,un:=.nilFunc } { h with m:=aU h.m (aB c k) (dH c) } an from λP=>⟨λF G x K=>by
      show gG d.on c k true F G=(aU h.m (aB c k) (dH c) (aB F G)).isSome;unfold gG;by_cases e:F=c/\G=k;·obtain⟨rfl,rfl⟩:=e;rw [Gv ⟨rfl,rfl⟩,jD _ _ _ _ (Fe _) Z];rfl
      rw [Gu e,cY,Gu (by
       have hq:=bd x;rcases dP x K l b e with L|L <;> omega)]
      exact O.on F G x K,rfl,O.an⟩)
     have TB:=H (show ∀ P V',Hp B y { d with on:=gG d.on c k true,f:=P,un:=.func (.func 173) #[] #[J S 0] } cf h V'->V'.heap[S]?=some (.cells #[J (y.sb c k) 0] 78)->Tk B y cf h an V' from λP V' a7 L a8 a5=>by
      refine (pE B y _ cf h S c k a8 (a7.below a5) l b (by rw [Gz _ _ _ _ _ _ ((a5.block _ (ai L)).trans L)];rfl) rfl).mono ?_;rintro e W9 ⟨rfl,h9,b9⟩;refine⟨rfl,⟨_,h9,λF G x K=>?_,rfl,O.an⟩,b9⟩;show gG (gG d.on c k true) c k false F G=dy h F G;unfold gG;by_cases e:F=c/\G=k;·obtain⟨rfl,rfl⟩:=e;rw [Gv ⟨rfl,rfl⟩];exact g.out
      rw [Gu e,Gu e];exact O.on F G x K)
     have a5:=H (λ(hb:¬((cf.bud:Int)<(bz h.m 283:Int)+(dH c:Nat)))=>show dm cf h c=some (k,{ h with m:=aU h.m (aB c k) (dH c) }) by unfold dm;rw [A.out];dsimp only;rw [a2.out];dsimp only;rw [Gu Z]);have L:=H (λ(hb:(cf.bud:Int)<(bz h.m 283:Int)+(dH c:Nat))=>show dm cf h c=none by unfold dm;rw [A.out];dsimp only;rw [a2.out];dsimp only;rw [Gv Z]);clear v M t p g R a6 X;(go_upto_region 12 with fail);generalize V.setCell ⟨y.sb c k,2,none⟩ (.bool true)=a at *;have M:a.cell? ⟨S,0,none⟩=some (J (y.sb c k) 0):=bY X1.out;clear fl fz x0 XH;go_wp2_with fail;refine (a4).mono ?_;rintro e U2 ⟨rfl,v⟩;have a6:=H (T.below v);have X:=H (a3.add v T.bW);have X2:=H ((v.block _ (ai X1)).trans X1);clear a4 v T a3 X1 M;go_wp2_with fail;refine (CM _ a6).mono ?_;rintro e U3 ⟨P,v,⟨hb,rfl,M⟩|⟨hb,rfl,M⟩⟩
     ·have x3:U3.cell? ⟨S,0,none⟩=some (J (y.sb c k) 0):=(by rw [Gz _ _ _ _ _ _ (v.ky.cells _ _ _ _ X2.out wg)];rfl);have T:=H (IB M (IB (X.trans v) (a5 Z)));clear M v CM a6 X X2 a5 L hb;go_wp2;go_ret;refine⟨?_,T.2.1⟩;rw [T.2.2];exact .yes k _ _ ⟨_,T.1,TD P,λ_ _ e=>e⟩
     refine⟨rfl,?_,X.trans v⟩;rw [L.out Z];exact .no _ (TB P U3 M (v.ky.cells _ _ _ _ X2 wg))
   obtain rfl:k=6:=Z;have L:=H (show dm cf h c=none by unfold dm;rw [A.out];dsimp only;rw [uV p.out]);clear p A;go_wp2;refine⟨rfl,?_,Bi.ofBelow o BW⟩;rw [L.out];exact .no _ (Hg.tk ⟨d,z _ o,O⟩)
theorem BR {W:World} {k:Nat} {a:Option Addr} {g} (h:W.ownsRow B 174 1 (.slice a n c) l.length (Pt g l)) (i:k<l.length) (q:Nat) (d:l[k]?=some q):∃ b,a=some ⟨b,0,none⟩/\W.cell? ⟨b,k,none⟩=some (J (g q) 0):=by
 have f:n=l.length:=by
  obtain⟨a,c,e⟩:=aK h;injection e with _ j _
 subst f;obtain⟨b,e⟩:=cn h Z;subst e;exact⟨b,rfl,bC h k _ (by simp [Pt,d])⟩
theorem Hp.daRow {y d U} (j:Hp B y d cf h U) {g} {m:List Int} (f:RowV U g 5 (Ns .u8 m)) (q:m.length=n):Da y.S y.M d.f U (some ⟨g,0,none⟩) n m:=by
 subst q;refine⟨rfl,λi r=>⟨⟨g,0,none⟩,rfl,?_,?_,?_,?_,?_⟩⟩;·rw [Addr.add_mid,FP];exact iV f i r
 ·rw [Addr.add_mid];exact f.lt
 ·rw [Addr.add_mid];obtain⟨c,b,_⟩:=f;intro e;have o:g=y.S:=e;rw [o,j.sp.box] at b;simp at b
 ·rw [Addr.add_mid];obtain⟨c,b,_⟩:=f;intro e;have o:g=y.M:=e;obtain⟨a,⟨p,s,k,_⟩,_⟩:=j.sp.map;rw [o,k] at b;cases b
 rw [Addr.add_mid];intro k p;obtain⟨c,b,_⟩:=f;rcases j.pg.at' k with ⟨a,_⟩|⟨t,l,u,a,_,_,s⟩;·rw [p] at a;cases a
 rw [p] at a;cases a;rw [s] at b;simp at b
theorem A5:¬hI 174:=by unfold hI;decide
theorem Inv.accL (i:Inv cf h) (b:c<12) (d:s<6) (e:j<aM c) (a:dy h c s=true):b_ h.m (aX c s j) ((bX c:Nat):Int)=0:=by
 have:=i.accS b d e a 0 (bX c) (by have:=bd b;omega) Z;simpa using this
theorem rP (B y d cf h an) (a:Nat) (W) (l:Hp B y d cf h W) (p:Gd d h an) (i:Inv cf h) (t:Byt h.m) (ha:a<=1016) (v:h.used+2000<=1000000) (w:kZ cf) :
  Calls prog 96 #[J y.P 0,U a] W (AI B y cf an d.lg W (aA cf h a)):=by
 obtain⟨g,q,c8⟩:=zJ ha;have n:=H (lx (a:Nat) Z W l.tb);rw [g] at n;have MM:=H (iM (cf:=cf) (h:=h) ha);have HF:=H (show dz h (gx a) 6<2000 by
  have k:=mc h (gx a) 6;have b:=bd q;have:6*aM (gx a)<=6*64:=Is _ Z;omega)
 have hz:=bd q;generalize o:gx a=c at *;obtain⟨F,b⟩:∃ F,cr cf c 2000 h=F:=⟨_,rfl⟩;rw [b] at MM;obtain⟨r,e⟩:∃ r,aA cf h a=r:=⟨_,rfl⟩;rw [e] at MM ⊢;have HR:=H b;have a6:=H l;have a7:=H p;have I0:=H i;have a8:=H t;have DK:=H w;have HU:=H v;have BW:=H l.bW;clear b e l p i t w v g o;go_enter func96,ntmps96;go_wp2_with fail;refine (n).mono ?_;rintro e W1 ⟨rfl,rfl⟩;clear n;go_wp2;go_loopg [6] 2000 (λgk _ wr=>∃ (t:Hs) (b:Dy),Hid (cr cf c gk t=F)/\Hid (dz t c 6<gk)/\Hid (Hp B y b cf t wr)/\Hid (Gd b t an)/\Hid (Inv cf t)/\Hid (Byt t.m)/\Hid (Bi B W1 wr)/\Hid (t.used+gk<=h.used+2000)/\Hid (Kl d.lg b));case atStart=>exact ⟨h,d,HR,HF,a6,a7,I0,a8,H (Bi.refl _ _),H (Fe _),H (Kl.refl d)⟩
 case round =>
  obtain⟨t,d1,g,KF,KP,KG,KI,KY,KB,KU,KL⟩:=hrel;clear a6 a7 I0 a8 HR HF;obtain⟨f,b⟩:∃ f,gk=f+1:=⟨gk-1,by have:=KF.out;omega⟩;have a2:=H b;have a3:=H (show (match dm cf t c with
    | none=>(none,t)
    | some (s,k)=>if clean k.m (aX c s (dR cf k c s)) (bX c) then (some (s,dR cf k c s),{ k with used:=k.used+1 })
     else cr cf c f { k with used:=k.used+1,st:=aE k.st c s (dR cf k c s) 4 })=F by
   have:=g.out;rw [b,ii] at this;exact this)
  have l:=H (A1 B y d1 cf t an c wr KP KG KI q);have RM:=H (λs k (hr:dm cf t c=some (s,k))=>IB (KI.room q hr) (tD hr));clear b g;go_wp2_with fail;refine (l).mono ?_;rintro e V ⟨rm,b⟩;have BI:=H (KB.trans b);clear l b;generalize b:dm cf t c=ro at *;have c9:=H b;clear b;cases rm with
  | no _ b =>
   have HE:=H (show r=(none,t) by rw [MM.out,<-a3.out];rfl);refine⟨rfl,?_,BI⟩;rw [HE.out];exact .no t V b
  | yes s k _ hg =>
   obtain⟨z,g,v,b⟩:=hg;have a9:=H (KL.trans b);clear b;obtain⟨⟨l,X,G,N,Q,K,L⟩,M⟩:=RM.out s k rfl;have R:=H (show (if clean k.m (aX c s (dR cf k c s)) (bX c) then (some (s,dR cf k c s),{ k with used:=k.used+1 })
     else cr cf c f { k with used:=k.used+1,st:=aE k.st c s (dR cf k c s) 4 })=F from a3)
   obtain⟨O,c1,P⟩:=oK cf N;have d0:=iA k c s;have c2:=oy cf k N;have b0:=H (show Byt k.m by rcases M with e|e <;> rw [e];exact KY.out;exact KY.fresh _ _);have w:=H g;have p:=H v;have J1:=H X;have a4:=H G;have c3:=H L;have b4:=H K;have b5:=H P;have n:=H c1;have A:=H (pb (y.sb c s) (y.sr c s) c s (aM c) (y.sc c s) (z.on c s) (y.sm c s) (k.st c s) V (g.bc c s q l) Z (λj b=>g.rowAt c s j q l b) (λj b=>(g.smAt c s j q l b).1));rw [jz] at A;have Y:=H (λb (o:Hp B y z cf k b)=>oN B y z cf k (freeS k c s).length b o Z Z (by have:=HU.out;have:=KU.out;have:=b4.out;omega) DK.len);have d3:0<(freeS k c s).length:=N;have T:=H (λ(b:World) (va:Option Addr) (N vc:Nat) (o:b.ownsRow V.heap.size 174 1 (.slice va N vc) (freeS k c s).length (Pt (y.sm c s) (freeS k c s)))=>BR o c2 _ O);clear g v X G L Q K M O P a3 RM KY KI;generalize g:dR cf k c s=j at *;clear g;generalize g:dr cf k (freeS k c s).length=dd at *;clear g;generalize g:(freeS k c s).length=ll at *;clear g;go_wp2_with fail;refine (A).mono ?_;rintro e V1 ⟨v,rfl,own,Q⟩;obtain⟨va,vc,rfl⟩:=aK own;have K:=H (w.below Q);have L:=H (BI.add Q w.bW);have M:=H own;clear own Q A w BI;go_wp2_with fail;refine (Y _ K).mono ?_;rintro e V2 ⟨rfl,A,G⟩;have g:=H A;have O:=H (L.trans G);obtain⟨gg,rfl,w⟩:=T.out V2 va ll vc (aj M G.ky A5);clear A G Y M K L T;have c7:(dd:Int)<(ll:Int):=Z;have SB:=H (λb (o:Hp B y z cf { k with used:=k.used+1 } b)=>e_ (y.sm c s j) (y.sb c s) c s j b (o.scAt c s j q l n));have P:=H (λb (o:Hp B y z cf { k with used:=k.used+1 } b)=>dM (c:Nat) b o.tb);rw [se q] at P;have hA:=cI q l n.out;have A:=H (λb (o:Hp B y z cf { k with used:=k.used+1 } b)=>ju B y z cf { k with used:=k.used+1 } (aX c s j) (bX c) b o J1.out.out Z Z);rw [Hh Z] at A;have L:=H (show ∀ b (o:Hp B y z cf { k with used:=k.used+1 } b),Calls prog 74 #[J y.P 0,U (aX c s j:Nat),U (bX c:Nat)] b (Cs B y z cf { k with used:=k.used+1 } b k.m 0 (aI k.m (aX c s j) (bX c))) from λb o=>by
    have:=A.out b o;dsimp only at this;rw [J1.accL q l n.out a4.out,Gv rfl] at this;exact this)
   have MX:=H (λu b (o:Bs b u (aI k.m (aX c s j) (bX c)))=>BC u _ b o (b0.load _ _) (by simp [aI];omega) (by simp [aI];omega));have T:=H (show clean k.m (aX c s j) (bX c)=(aI k.m (aX c s j) (bX c)).all (· == 0) from rfl);clear A;generalize aI k.m (aX c s j) (bX c)=b6 at *;generalize A:y.sm c s j=X at *;have Y:=H A;clear A;go_wp2_with fail;refine (SB _ g).mono ?_;rintro e V3 ⟨rfl,b3⟩;have K:=H (g.below b3);have M:=H (O.add b3 g.bW);clear b3 g O w;go_wp2_with fail;refine (P _ K).mono ?_;rintro e V4 ⟨rfl,rfl⟩;clear P;go_wp2_with fail;refine (L _ K).mono ?_;rintro e V5 ⟨f',w,O,⟨_,v,rfl,g⟩|⟨hn,_⟩⟩
   rotate_left
   ·exact absurd rfl hn
   have A:=H (show Hp B y { z with f:=f' } cf { k with used:=k.used+1 } V5 from w);have a0:=H (M.trans O);have P:=H (sY g);clear w O g L K M;go_wp2_with fail;refine (MX _ _ P).mono ?_;rintro e V6 ⟨M,rfl,g,rfl⟩;have HM:=H g;clear g MX P;have b8:=H (show Gd { z with f:=f' } { k with used:=k.used+1 } an from ⟨p.on,p.un,p.an⟩);cases K:b6.all (λx=>x==0) with
   | false =>
    have c4:(0:Int)<M:=(by have:=HM.out;rw [K] at this;simpa using this);have g:=H (show cr cf c f { k with used:=k.used+1,st:=aE k.st c s j 4 }=F by
     have:=R.out;rw [Gu (by rw [T.out,K];decide)] at this;exact this)
    obtain⟨h7,b7⟩:=A.setSt1 q l n 4;have w:=(A.smAt c s j q l n).1;have L:V6.frozen? ⟨y.sm c s j,0,none⟩=false:=(by simp [World.frozen?,A.sm c s j q l n.out]);rw [Y.out] at h7 b7 w L;have H7:=H (show Hp B y { z with f:=f' } cf { k with used:=k.used+1,st:=aE k.st c s j 4 } (V6.setCell ⟨X,0,none⟩ (I 4)) from h7);have B7:=H (a0.trans b7);have O:=H (show Gd { z with f:=f' } { k with used:=k.used+1,st:=aE k.st c s j 4 } an from ⟨p.on,p.un,p.an⟩);have P:=H (show Inv cf { k with used:=k.used+1,st:=aE k.st c s j 4 } from (J1.used (k.used+1)).retire q l n b5 a4);have F7:=H (show dz { k with used:=k.used+1,st:=aE k.st c s j 4 } c 6<f by
     have q1:=(jC (h:=k) (s:=s) n b5 6).2 l;have q2:dz { k with used:=k.used+1,st:=aE k.st c s j 4 } c 6=dz { k with st:=aE k.st c s j 4 } c 6:=rfl;have q3:dz k c 6=dz t c 6:=mS c3 c 6;have q4:=KF.out;have q5:=a2.out;omega)
    have U7:=H (show k.used+1+f<=h.used+2000 by
     have q1:=KU.out;have q2:=b4.out;have q5:=a2.out;omega)
    generalize k.st c s j=z4 at w;clear h7 b7 K HM T R A a0 SB b8 p KP KG;go_wp2
    go_roundg f
    (case rel=>exact ⟨_,_,g,F7,H7,O,P,b0,B7,U7,H (show Kl d.lg { z with f:=f' } from a9)⟩);case measure=>have:=a2.out;omega
   | true =>
    have c4:¬((0:Int)<M):=(by have:=HM.out;rw [K] at this;simpa using this);have HE:=H (show r=(some (aX c s j),{ k with used:=k.used+1,st:=aE k.st c s j 1,rq:=aE k.rq c s j a,m:=ax k.m (aX c s j+fo c) (can cf (aX c s j)) 8 }) by
     have:=R.out;rw [Gv (by rw [T.out,K])] at this;rw [MM.out,<-this];rfl)
    obtain⟨h7,b7⟩:=A.setRec q l n 1 (a:Nat);have g:=A.sm c s j q l n.out;rw [Y.out] at h7 b7 g;have w:V6.cell? ⟨X,0,none⟩=some (I (k.st c s j)):=bY g;have L:V6.cell? ⟨X,1,none⟩=some (I (k.rq c s j)):=bY g;have O:V6.frozen? ⟨X,0,none⟩=false:=(by simp [World.frozen?,g]);have P:V6.frozen? ⟨X,1,none⟩=false:=(by simp [World.frozen?,g]);simp only [World.setCells,FP] at h7 b7;clear g;generalize k.st c s j=q0 at w;generalize k.rq c s j=q1 at L;have H7:=H h7;have B7:=H (a0.trans b7);clear h7 b7 K HM T R A a0 KP KG KF KU;(go_upto_region 7 with fail);generalize (V6.setCell ⟨X,0,none⟩ (I 1)).setCell ⟨X,1,none⟩ (I a)=V8 at *;clear w L O P SB b8;obtain⟨O,P⟩:∃ O:Hs,O={ k with used:=k.used+1,st:=aE k.st c s j 1,rq:=aE k.rq c s j a }:=⟨_,rfl⟩;obtain⟨L,w⟩:∃ L:Dy,L={ z with f:=f' }:=⟨_,rfl⟩;have a5:=H (show O.m=k.m by rw [P]);have H8:=H (show Hp B y L cf O V8 by rw [P,w];exact H7);have CA:=H (λb (o:Hp B y L cf O b)=>kx (y.sm c s j) (y.sb c s) c s j b (o.scAt c s j q l n));have SB:=H (λb (o:Hp B y L cf O b)=>e_ (y.sm c s j) (y.sb c s) c s j b (o.scAt c s j q l n));rw [Y.out] at CA SB;have CN:=H (λb=>rb cf.key (aX c s j:Nat) b DK.key0 DK.key1 Z Z);have a1:b_ k.m (aX c s j+fo c) ((8:Nat):Int)=0:=J1.accS q l n a4 (fo c) 8 Z Z;have ST:=H (λb g (o:Hp B y L cf O b) (hr:RowV b g 5 (Ns .u8 (can cf (aX c s j))))=>it B y L cf O (aX c s j+fo c) (some ⟨g,0,none⟩) 8 8 (can cf (aX c s j)) b o (by rw [a5.out];exact J1.out.out) Z (o.daRow hr (by unfold can;exact dN _)) (Fe _));have b9:=H (show ∀ (b:World) (g:Nat) (o:Hp B y L cf O b) (hr:RowV b g 5 (Ns .u8 (can cf (aX c s j)))),Calls prog 75 #[J y.P 0,U (aX c s j+fo c:Nat),Vl g 8 8] b (AY B y L cf O b (ax k.m (aX c s j+fo c) (can cf (aX c s j)) 8) 0) from λb g o hr=>by
     have:=ST.out b g o hr;rw [show (can cf (aX c s j)).length=8 by unfold can;exact dN _,a5.out,a1,Gv rfl] at this;exact this)
    have c0:=H (show ∀ f9 b,Hp B y { L with f:=f9 } cf { O with m:=ax k.m (aX c s j+fo c) (can cf (aX c s j)) 8 } b->TaR B y cf an d.lg r (.returned (.iface 174 (J X 0))) b from λf9 b o=>by
     rw [HE.out,<-Y.out];refine .slot c s j _ b q l n ?_ ⟨{ L with f:=f9 },?_,?_,by show Kl d.lg { L with f:=f9 };rw [w];exact a9⟩;·show aE k.st c s j 1 c s j=1;exact aO _ _ _ _ _
     ·rw [P] at o;exact o
     refine⟨λc' s' c5 c6=>?_,by rw [w];exact p.un,by rw [w];exact p.an⟩;show L.on c' s'=(ax k.m _ _ 8 (aB c' s')).isSome;rw [cX,w];exact p.on c' s' c5 c6)
    have c5:=H (show gH (cx cf.key ((aX c s j:Nat):Int))=can cf (aX c s j) from rfl);have CK:=H (show ∀ b a g,Hp B y a cf g b->b.cell? ⟨y.P,4,none⟩=some (U cf.key) from λb a g o=>o.cell 4 Z _ rfl);clear ST a1 P w H7 HE p a5;generalize a1:aX c s j=AA at *;generalize fo c=uu at *;refine rh (S:=λa=>a.cell? ⟨y.P,4,none⟩=some (U cf.key)) ?_;have w:=CK.out V8.drew _ _ (H8.below (Fc _ _).drew);(iterate 2 (refine py w ?_;simp only [f0,f1,Nat.reduceAdd,lz,l0,ls]));refine pk 3 (J y.P 0) w ?_;refine pk 4 (J y.P 0) w ?_;refine pk 5 (J y.P 0) w ?_;refine pk 6 (J y.P 4) w ?_;refine pz 7 (U cf.key) w ?_;refine pk 8 (J X 0) w ?_;refine po 2 λK' P=>?_;go_simp;refine (CA _ (H8.below (Fc _ _).drew)).mono ?_;rintro e U1 ⟨rfl,Q⟩;have k1:D V8 U1:=⟨Q.os,Q.tape,Q.output,Q.size,Q.block⟩;have p1:=H8.below k1;have q1:=CK.out _ _ _ p1;refine P _ _ ⟨q1,?_⟩;clear w;have w:=q1;clear P K';refine po 9 λK' P=>?_
    go_simp;refine (SB _ p1).mono ?_;rintro e U2 ⟨rfl,b2⟩;have k2:=az k1 b2;have p2:=H8.below k2;have q2:=CK.out _ _ _ p2;refine P _ _ ⟨q2,?_⟩;clear w;have w:=q2;clear P K';refine po 10 λK' P=>?_;go_simp;refine (CN _).mono ?_;rintro e U3 ⟨rfl,r3,b3⟩;have k3:=az k2 b3;have p3:=H8.below k3;have q3:=CK.out _ _ _ p3;refine P _ _ ⟨q3,?_⟩;clear w;have w:=q3;rw [c5.out] at r3;clear P K';refine po 11 λK' P=>?_
    go_simp;refine (b9 _ _ p3 r3).mono ?_;rintro e U4 ⟨f9,p4,G,⟨_,rfl⟩|⟨hn,_⟩⟩
    rotate_left
    ·exact absurd rfl hn
    have q4:=CK.out _ _ _ p4;refine P _ _ ⟨q4,?_⟩;clear w;have w:=q4;clear P K';refine bN ?_;have P:=H (IB (c0 f9 U4 p4) ((B7.add k3 H8.bW).trans G));clear p1 p2 p3 p4 q1 q2 q3 q4 k1 k2 k3 Q b2 b3 r3 G w CA SB CN b9 c0 CK H8 B7;go_wp2;go_ret;exact P.out
end
section
open Go.RowKit
structure SrtI (l m:List Nat) (i j:Nat):Prop where
 perm:m.Perm l
 low:∀ a b x y:Nat,a<i->a<b->m[a]?=some x->m[b]?=some y->x<=y
 here:∀ b x y:Nat,i<b->b<j->m[i]?=some x->m[b]?=some y->x<=y
theorem SrtI.start (l):SrtI l l 0 1:=⟨List.Perm.refl _,λa b x y h=>Z,λb x y c d=>Z⟩
theorem SrtI.next (h:SrtI l m i j) (g:m.length<=j):SrtI l m (i+1) (i+2):=by
 refine⟨h.perm,λa b x y f c ha d=>?_,λb x y f c=>Z⟩;by_cases e:a<i;·exact h.low a b x y e c ha d
 obtain rfl:a=i:=Z;have:=(Fl.1 d).1;exact h.here b x y c Z ha d
theorem SrtI.keep {y:Nat} (h:SrtI l m i j) (d:m[i]?=some x) (f:m[j]?=some y) (g:x<=y):SrtI l m i (j+1):=by
 refine⟨h.perm,h.low,λb u v k n a c=>?_⟩;by_cases e:b<j;·exact h.here b u v k e a c
 obtain rfl:b=j:=Z;rw [d] at a;rw [f] at c;injection a with a;injection c with c;omega
theorem SrtI.swap {y:Nat} (h:SrtI l m i j) (q:i<j) (g:m[i]?=some x) (k:m[j]?=some y) (r:y<x):SrtI l ((m.set i y).set j x) i (j+1):=by
 obtain⟨n,s⟩:=Fl.1 g;obtain⟨o,t⟩:=Fl.1 k;have d:∀ b,((m.set i y).set j x)[b]?=if b=j then some x else if b=i then some y else m[b]?:=λb=>by
  rw [Gc,Gc];by_cases a:b=j;·subst a;simp [o]
  rw [Gu (λe=>a e.symm),Gu a];by_cases c:b=i;·subst c;simp [n]
  rw [Gu (λe=>c e.symm),Gu c]
 refine⟨?_,λa b u v f p e c=>?_,λb u v f p e c=>?_⟩;·refine List.Perm.trans ?_ h.perm;have:=List.set_set_perm n o;rw [s,t] at this;exact this
 ·rw [d,Gu Z,Gu Z] at e;rw [d] at c;split at c;·injection c with c;subst c;exact h.low a i _ _ f f e g
  split at c;·injection c with c;subst c;exact h.low a j _ _ f Z e k
  exact h.low a b _ _ f p e c
 rw [d,Gu Z,Gv rfl] at e;injection e with e;rw [d] at c;split at c;·injection c with c;omega
 rw [Gu Z] at c;have:=h.here b x v f Z g c;omega
theorem SrtI.done (h:SrtI l m i j) (e:m.length<=i):m.Pairwise (· <= ·):=by
 rw [Ir];intro a b ha d c;exact h.low a b _ _ Z c (Fj ha) (Fj d)
theorem Ag (W:World) (a:Option Addr) (c:Nat):(Builtin.append_ #[34,34] 34 #[C,.slice a 0 c]).run prog W=.ok (C) W:=by
 obtain⟨g,b,d,e,f⟩:=GI iT;cases a <;> simp [Builtin.append_,run_underlying underlying34,sizeOf,typeInfo,b,Builtin.lenOf,Builtin.firstCells,loadCells,loadCellsFrom]
theorem uc (W:World) (B:Nat) (a:Option Addr) (c:Nat) (l:List Nat) (e:W.ownsRow B 23 1 (.slice a l.length c) l.length (Us l)) (m:l.length<=90000) :
  ∃ d b,(Builtin.append_ #[34,34] 34 #[C,.slice a l.length c]).run prog W=.ok d b/\b.ownsRow W.heap.size 23 1 d l.length (Us l)/\D W b:=by
 by_cases f:l.length=0;·obtain rfl:=List.length_eq_zero_iff.1 f;exact⟨_,_,Ag W a c,⟨rfl,.inl ⟨rfl,rfl⟩⟩,Fc _ _⟩
 obtain⟨G,rfl⟩:=cn e Z;obtain⟨d,b,g,i,k⟩:=jM W W.heap.size (C) [] l ⟨G,0,none⟩ c ⟨rfl,.inl ⟨rfl,rfl⟩⟩ (λj u a=>by
  rw [Addr.add_mid,FP];exact bC e j u a) bK (Fe _)
 exact⟨d,b,g,i,(Fc _ W).grown k (Fe _) (λP a=>by simp [Value.ownBlock] at a)⟩
theorem oJ {W:World} {e:TypeId} {sz:Nat} {G cap} {b:List Value} (h:W.ownsRow B e sz (Vl G n cap) n b) (i:Nat):W.frozen? ⟨G,i,none⟩=false:=by
 rcases h.2 with ⟨e,_⟩|⟨g,a,c,e,f,d,j,k,l,m⟩;·simp at e
 simp at e;obtain⟨rfl,rfl⟩:=e;simp [World.frozen?,d]
theorem nA (h:l[i]?=some x):(Us l)[i]?=some (U x):=by simp [Us,h]
theorem ID (l) (i x:Nat):(Us l).set i (U x)=Us (l.set i x):=by simp [Us,List.map_set]
theorem ua (W:World) (B:Nat) (v:Value) (l:List Nat) (d:W.ownsRow B 23 1 v l.length (Us l)) (A:l.length<=90000) :
  Calls prog 87 #[v] W λe F=>∃ (m:List Nat) (a:Value),e=.returned a/\m.Perm l/\m.Pairwise (· <= ·)/\F.ownsRow W.heap.size 23 1 a m.length (Us m)/\D W F:=by
 obtain⟨a,c,rfl⟩:=aK d;obtain⟨v1,w1,w,b,g⟩:=uc W B a c l d A;obtain⟨Q,K,rfl⟩:=aK b;obtain⟨N,f⟩:∃ N,l.length=N:=⟨_,rfl⟩;rw [f] at w b A ⊢;have R:=H f;have L:=H b;have M:=H g;clear d b g f;go_enter func87,ntmps87;go_wp2_with (at_builtin;refine df rfl (.const (C)) (.tmp 8) (by with_reducible rfl) rfl rfl rfl w ?_);go_loopw [12] (λi q=>∃ k:Nat,k<=N/\i=I k/\∃ m:List Nat,Hid (m.length=N)/\Hid (SrtI l m k (k+1))/\Hid (q.ownsRow W.heap.size 23 1 (.slice Q N K) N (Us m))/\Hid (D W q)) (λi _=>N-(intOf i).toNat);case atStart=>exact ⟨0,Fs _,rfl,l,R,H (SrtI.start l),L,M⟩
 case round =>
  clear L M w;obtain⟨k,hk,rfl,m,b,f,d,n⟩:=hrel;by_cases r:k<N
  ·obtain⟨G,rfl⟩:=cn d Z;go_wp2;go_loopw [5] (λi q=>∃ j:Nat,k+1<=j/\j<=N/\i=I j/\∃ m:List Nat,Hid (m.length=N)/\Hid (SrtI l m k j)/\Hid (q.ownsRow W.heap.size 23 1 (Vl G N K) N (Us m))/\Hid (D W q)) (λi _=>N-(intOf i).toNat);(case atStart=>exact ⟨k+1,Fe _,Z,aY,m,b,f,d,n⟩);case round =>
    clear b f d n;obtain⟨j,S,hj,rfl,m,b,f,d,n⟩:=hrel;by_cases s:j<N
    ·obtain⟨x,t⟩:∃ x,m[k]?=some x:=⟨_,Fj (by rw [b.out];exact r)⟩;obtain⟨y,p⟩:∃ y,m[j]?=some y:=⟨_,Fj (by rw [b.out];exact s)⟩;have ck:=bC d k _ (nA t);have cj:=bC d j _ (nA p);by_cases z:y<x
     ·have u:=H (f.swap Z t p z);have g:=dT d k (by rw [fY,b.out];exact r) (U y);have o:=dT g j (by rw [FX,fY,b.out];exact s) (U x);rw [ID,ID] at o;have T:=bC g j (U y) (by rw [Gc,Gu Z];exact nA p);have O:W.heap.size<=G:=(aH d rfl).1;have V:=H o;have X:(y:Int)<(x:Int):=Z;have fk:=oJ d k;have fj:=oJ g j;have Y:=oJ d j;have a0:¬(k=j):=Z;have P:¬(j=k):=Z;clear t p f g o;go_wp2;go_region;go_wp2;go_region;go_wp2;go_roundw;(case rel=>exact ⟨j+1,Z,Z,aY,_,H (by rw [FX,FX];exact b),u,H V,H ((n.setCell O _).setCell O _).drew.drew⟩);case measure=>(simp [intOf];try omega)
     have u:=H (f.keep t p Z);have X:¬((y:Int)<(x:Int)):=Z;clear t p f;go_wp2;go_region;go_wp2;go_roundw;(case rel=>exact ⟨j+1,Z,Z,aY,m,b,u,H d,H n.drew⟩);case measure=>(simp [intOf];try omega)
    obtain rfl:j=N:=Z;have u:=H (f.next (by rw [b.out];exact Fe _));clear f;go_wp2;go_roundw;(case rel=>exact ⟨k+1,Z,aY,m,b,u,d,n⟩);case measure=>(simp [intOf];try omega)
  obtain rfl:k=N:=Z;go_wp2;go_ret;exact⟨m,_,rfl,f.perm,f.done (by rw [b.out];exact Fe _),by rw [b.out];exact d,n⟩
end
end Go.Proofs.YtdngbppdomoenaaGreatDoor
