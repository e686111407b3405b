import Derived.Test.YtdngbppdomoenaaGreatDoorN16
import Derived.Test.YtdngbppdomoenaaGreatDoorN18
import Derived.Test.YtdngbppdomoenaaGreatDoorN19
import Derived.Test.YtdngbppdomoenaaGreatDoorN20
set_option linter.unusedVariables false
set_option linter.unusedSimpArgs false
set_option maxRecDepth 20000
set_option maxHeartbeats 8000000
namespace Go.Proofs.YtdngbppdomoenaaGreatDoor
open Go.Proofs.Tryz
variable {B Q cap g j n:Nat} {W W':World} {c:Array Value} {t:TypeId} {x:Sm} {cf:Cf} {h:Hs} {v:Value} {r:Option Nat} {y:Ly} {d:Dy} {is l:List Nat}
section
open Go.RowKit
theorem ug:(prog.info? 174).map (λi=>(i.zero,i.size,i.bytes))=some (some (.pointer none),1,8):=E
def tM (st:Nat->Int) (n:Nat):List Nat:=(List.range n).filter λj=>aZ (st j)
def Pt (g:Nat->Nat) (l:List Nat):List Value:=l.map λj=>J (g j) 0
theorem yY (a:Nat->Int) (n:Nat) (h:aZ (a n)=true):tM a (n+1)=tM a n++[n]:=by
 unfold tM;rw [Gg,GZ];simp [h]
theorem Ba (a:Nat->Int) (n:Nat) (h:aZ (a n)=false):tM a (n+1)=tM a n:=by
 unfold tM;rw [Gg,GZ];simp [h]
theorem y_ (st n):(tM st n).length<=n:=by
 unfold tM;have:=GN (λj=>aZ (st j)) (List.range n);simpa using this
theorem jz (h:Hs) (c s:Nat):tM (h.st c s) (aM c)=freeS h c s:=rfl
theorem pb (b r c s n cap on) (g:Nat->Nat) (m:Nat->Int) (W) (h:Bc b r c s n cap on W) (hn:n<=64) (d:∀ j,j<n->W.cell? ⟨r,j,none⟩=some (J (g j) 0)) (a:∀ j,j<n->W.cell? ⟨g j,0,none⟩=some (I (m j))) :
  Calls prog 133 #[J b 0] W λe W'=>∃ v,e=.returned v/\W'.ownsRow W.heap.size 174 1 v (tM m n).length (Pt g (tM m n))/\D W W':=by
 obtain⟨S,t,w,y,z⟩:=GI ug;obtain⟨_,_,_,d3⟩:=h;have V:=H d;have X:=H a;clear d a;go_enter func133,ntmps133;go_wp2;go_loopw [3,11] (λv i wr=>∃ k:Nat,k<=n/\i=I k/\Hid (wr.ownsRow W.heap.size 174 1 v (tM m k).length (Pt g (tM m k)))/\Hid (D W wr)) (λ_ i _=>n-(intOf i).toNat);case atStart=>exact ⟨0,Fs _,rfl,H ⟨rfl,.inl ⟨rfl,rfl⟩⟩,H (Fc _ _)⟩
 case round =>
  obtain⟨k,hk,rfl,A,o⟩:=hrel;obtain⟨va,vb,vc,rfl⟩:∃ p l a,u3=.slice p l a:=by rcases A.2 with ⟨rfl,_⟩|⟨g,d,a,rfl,_⟩ <;> exact ⟨_,_,_,rfl⟩
  by_cases B:k<n
  ·have d0:=ad o (V k B);have d1:=ad o (X k B);have Y:=y_ m k;have K:=H (yY m k);have O:=H (Ba m k);generalize a:m k=x at *;clear a;generalize a:tM m k=q at *;clear a;have T:=H (show Pt g (q++[k])=Pt g q++[J (g k) 0] by simp [Pt]);generalize g k=G at *;by_cases P:x=0
   ·subst P;have F:=H (K rfl);clear K O;have L:=H (A.alloc (.cells #[J G 0] 174));have p:=H (o.alloc o.size (.cells #[J G 0] 174));go_wp2_with (at_builtin;refine Hl _ rfl _ _ 171 rfl W.heap.size 174 S (.pointer none) 1 8 underlying171 t w y z rfl Z _ _ _ rfl L _ 1 1 [J G 0] rfl rfl ?hc ?h1c ?b1 ?b2 ?b3 ?_);(case hc=>exact eG _ _ _ _ bF);(case h1c=>intro u M;simp at M;subst M;rfl);(case b1=>unfold maxLen;omega);(case b2=>omega);(case b3=>exact p.size);intro v1 w9 a d _;have f:=H (IB a (p.grown d p.size (cN L)));clear a d;go_wp2;go_roundw;(case rel=>exact ⟨k+1,Z,aY,H (by rw [F.out,Fo,T.out];exact f.1),H f.2⟩);case measure=>simp [intOf];omega
   have N:(x==0)=false:=(by simpa using P);by_cases Q:x=3
   ·subst Q;have F:=H (K rfl);clear K O N;have L:=H (A.alloc (.cells #[J G 0] 174));have p:=H (o.alloc o.size (.cells #[J G 0] 174));go_wp2_with (at_builtin;refine Hl _ rfl _ _ 171 rfl W.heap.size 174 S (.pointer none) 1 8 underlying171 t w y z rfl Z _ _ _ rfl L _ 1 1 [J G 0] rfl rfl ?hc ?h1c ?b1 ?b2 ?b3 ?_);(case hc=>exact eG _ _ _ _ bF);(case h1c=>intro u M;simp at M;subst M;rfl);(case b1=>unfold maxLen;omega);(case b2=>omega);(case b3=>exact p.size);intro v1 w9 a d _;have f:=H (IB a (p.grown d p.size (cN L)));clear a d;go_wp2;go_roundw;(case rel=>exact ⟨k+1,Z,aY,H (by rw [F.out,Fo,T.out];exact f.1),H f.2⟩);case measure=>simp [intOf];omega
   have R:(x==3)=false:=(by simpa using Q);have F:=H (O (by unfold aZ;rw [N,R];rfl));clear K O P Q;go_wp2;go_roundw;(case rel=>exact ⟨k+1,Z,aY,H (by rw [F.out];exact A),o⟩);case measure=>simp [intOf];omega
  obtain rfl:k=n:=Z;go_wp2;go_ret;exact⟨_,rfl,A,o⟩
def jL (a:An4) (v:Value):Value:=.agg #[I a.code,U a.addr,I a.size,v]
def mO:Option Nat->An4
 | none=>.no 1
 | some q=>⟨0,q,0,[]⟩
structure kZ (cf:Cf):Prop where
 len:cf.ds.length<=20000
 wf:∀ d∈cf.ds,(Lit.int .i64 d).wf=true
 key0:0<=cf.key
 key1:cf.key<18446744073709551616
 mix:cf.mix<=16
 fifo1:1<=cf.fifo
 fifo:cf.fifo<=32
 large:cf.large<=16
 bud:cf.bud<=283
theorem jG {m:Nat->Option (Bool×List Int)} {a:Nat} (c:1<=n) (d:n<=4096) (e:a+n<=1000000) (b:∀ k,k<n->isOpen (m ((a+k)/1024))=true):b_ m a (n:Int)=0:=by
 unfold b_;rw [Gu Z,Gu Z,Gu Z,FD,jT b];rfl
theorem Ao (a:Nat) (W:World) (ha:a<=1016):Calls prog 159 #[U a] W λe W'=>e=.returned (I (gx a:Nat))/\D W W':=by
 refine (sF (a:Int) Z Z W).mono ?_;rintro e W' ⟨rfl,b⟩;exact⟨cP (zJ ha).1,b⟩
theorem Bk.at (k:Bk B Q W W') {f:Nat×Nat} (a:W.heap[g]?=some (.cells c t f)) (b:¬hT t):W'.heap[g]?=some (.cells c t f):=k.ky.cells g c t f a b
theorem eT (h:t≠143/\t≠146/\t≠68/\t≠148/\t≠23/\t≠217/\t≠5):¬hT t:=by
 intro e;rcases e with e|e|e|e|e|e|e;·exact h.1 e
 ·exact h.2.1 e
 ·exact h.2.2.1 e
 ·exact h.2.2.2.1 e
 ·exact h.2.2.2.2.1 e
 ·exact h.2.2.2.2.2.1 e
 exact h.2.2.2.2.2.2 e
theorem Bk.loc {R:Nat} {W0} (k:Bk B Q W0 W) (b:W.grownBy W' (some R)) (l:W0.heap.size<=R) (i:Q<W0.heap.size) (m:B<=W0.heap.size):Bk B Q W0 W':=by
 have n:=k.bel.size;have d:∀ g,g<W0.heap.size->W'.heap[g]?=W.heap[g]?:=λg j=>b.block g Z bK
 refine⟨k.bel.grown b Z (λr a=>by simp at a;omega),⟨b.os.trans k.ky.os,b.tape.trans k.ky.tape,b.output.trans k.ky.output,Fg k.ky.size b.size,λg c t f a e=>by rw [d g (ai a)];exact k.ky.cells g c t f a e⟩,λg c f a e=>by rw [d g (ai a)];exact k.by5 g c f a e,λg a=>k.pg g (de (d Q i) a)⟩
theorem Sh.kyO {t:Nat} (a:Sh B x cf h W) (k:Ky (· = t) W W') (d:t=44\/t=42\/t=210):Sh B x cf h W':=by
 rcases d with rfl|rfl|rfl
 all_goals exact ⟨k.cells _ _ _ _ a.box av,a.bp,a.bq,λg e=>a.bg g (de (a.sp.qEq k av) e),a.ds.ky k av,a.sp.ky k av av av,aj a.sl k av,aj a.wt k av,λc b=>⟨(a.wm c b).1.ky k av,(a.wm c b).2.ky k av⟩,aj a.rg k av,aj a.ro k av,aj a.rl k av⟩
theorem Sh.off81 {R:Nat} (b:Sh B x cf h W) (d:W.heap[R]?=some (.cells c 44)) (a:Array Value):Sh B x cf h (W.setRow R a):=b.kyO (Ky.grown d rfl (al W R a)) (.inl rfl)
def AX (cf:Cf) (c a:Nat):Option (Nat×Nat)×Hs->Option Nat×Hs
 | (none,e)=>(none,e)
 | (some (s,j),e)=>(some (aX c s j),{ e with st:=aE e.st c s j 1,rq:=aE e.rq c s j a,m:=ax e.m (aX c s j+fo c) (can cf (aX c s j)) 8 })
theorem iM (cf h) {a:Nat} (ha:a<=1016):aA cf h a=AX cf (gx a) a (cr cf (gx a) 2000 h):=by
 unfold aA AX;rw [Gv ha];rfl
theorem qy (B x cf h) (a:Nat) (W) (f:Sh B x cf h W) (hB:B<=W.heap.size) (p:Inv cf h) (hu:h.used+2000<=1000000) (l:kZ cf) (ha:a<=1016) :
  Calls prog 123 #[J x.P 0,U a] W λe W'=>e=.returned (jL (mO (aA cf h a).1) (C))/\Sh B x cf (aA cf h a).2 W'/\Bk B x.Q W W':=by
 obtain⟨G,a1⟩:=tE ha;have w:=H (λV=>Ao a V ha);have hz:=bd G;obtain⟨q,_⟩:=Inv.small G 2000 p;obtain⟨y,b⟩:∃ y,cr cf (gx a) 2000 h=y:=⟨_,rfl⟩;have HM:=H (show aA cf h a=AX cf (gx a) a y by rw [<-b];exact iM cf h ha);have r:=H (λV (O:Sh B x cf h V) (d:B<=V.heap.size)=>xd B x cf h (gx a) V O d p G hu l.len l.wf);rw [b] at q;simp only [b] at r;have P:=H q;have t:=H hB;have HD:=H l;have a9:(a:Int)<=1016:=Z;generalize gx a=c at *;have A:D W (W.alloc (.cells #[I 0,U 0,I 0,C] 44)):=(Fc _ _).alloc (Fe _) _;have n:=H (f.below A);have s:=H (f.bkB (Bk.refl _ _ _) hB A);have o:=H (ao W (.cells #[I 0,U 0,I 0,C] 44));obtain⟨i,d⟩:∃ i,aA cf h a=i:=⟨_,rfl⟩;rw [d];have T:=H d;have z:=f.ltQ;clear f b q p l A d;go_enter func123,ntmps123;go_wp2_with fail;generalize W.alloc _=V at n s o ⊢;obtain⟨R,b⟩:∃ R,R=W.heap.size:=⟨_,rfl⟩;rw [<-b] at o ⊢;have HR:=H b;have HQ:=H z;clear b z;refine (w.out _).mono ?_;rintro e V1 ⟨rfl,b⟩;have f:=H (n.below b);have d:=H (n.bkB s.out t.out b);have l:=H (ae o.out b);clear b n s o w;go_wp2_with fail;refine (r.out _ f.out (Fg t.out d.bel.size)).mono ?_;rintro e p ⟨K,rfl,n,b,L⟩;have z:=H n;have B2:=H (d.trans b);have X:=H (b.at l.out (eT av));clear n b f d l r;obtain⟨o,b⟩:=y;cases o with
 | none =>
  have w:K = -1:=L;subst w;have HE:=H (show i=(none,b) by rw [<-T.out,HM.out];rfl);clear L HM;go_wp2_with (refine eF X.out ?_);refine fp (aw X.out _) underlying44 ?_;rw [HE.out];exact⟨rfl,z.off81 X.out _,B2.loc (al p R _) (by rw [HR.out];exact Fe _) HQ.out t.out⟩
 | some q =>
  obtain⟨s,j⟩:=q;obtain⟨k,rfl,hk,f⟩:∃ k:Nat,K=(k:Int)/\k<1062/\sA k=(c,s,j):=L;obtain⟨M,hj,d,_,_,_⟩:=P.some s j rfl;have a2:=cI G M hj;have I1:=H P.inv;dsimp only at z;have HE:=H (show i=(some (aX c s j),{ b with st:=aE b.st c s j 1,rq:=aE b.rq c s j a,m:=ax b.m (aX c s j+fo c) (can cf (aX c s j)) 8 }) by rw [<-T.out,HM.out];rfl);have b0:¬((k:Int)<0):=Z;have b3:=H f;have n:=H (show Sh B x cf { b with st:=aE b.st c s j 1 } (p.setCell ⟨x.G,k*6+4,none⟩ (I 1)) by
   have:=z.setSt hk 1;rw [f] at this;exact this)
  have B3:=H (z.bkG B2.out t.out (k*6+4) (I 1));have c7:p.cell? ⟨x.P,7,none⟩=some (Vl x.G 1062 x.gc):=z.cell 7 _ rfl;have d4:=(z.slot hk).2.2.2.2.1;have f4:=z.slotF (k*6+4);have Q:=H (show Sh B x cf { b with st:=aE b.st c s j 1,rq:=aE b.rq c s j a } ((p.setCell ⟨x.G,k*6+4,none⟩ (I 1)).setCell ⟨x.G,k*6+5,none⟩ (I a)) by
   have:=n.setRq hk (a:Nat);rw [f] at this;exact this)
  have Y:=H (n.bkG B3.out t.out (k*6+5) (I a));have a3:(p.setCell ⟨x.G,k*6+4,none⟩ (I 1)).cell? ⟨x.P,7,none⟩=some (Vl x.G 1062 x.gc):=n.cell 7 _ rfl;have a4:=(n.slot hk).2.2.2.2.2;have f53:=n.slotF (k*6+5);have a5:((p.setCell ⟨x.G,k*6+4,none⟩ (I 1)).setCell ⟨x.G,k*6+5,none⟩ (I a)).cell? ⟨x.P,7,none⟩=some (Vl x.G 1062 x.gc):=Q.cell 7 _ rfl;obtain⟨e0,e1,e2,e3,e4,e5⟩:=Q.slot hk;have eA:gu k=aX c s j:=by unfold gu;rw [f]
  have eS:dB { b with st:=aE b.st c s j 1,rq:=aE b.rq c s j a } k=1:=by unfold dB;rw [f];exact aO _ _ _ _ _
  have eR:fX { b with st:=aE b.st c s j 1,rq:=aE b.rq c s j a } k=(a:Nat):=by unfold fX;rw [f];exact aO _ _ _ _ _
  rw [eA] at e3;rw [eS] at e4;rw [eR] at e5;rw [f] at e0 e1 e2;have I4:=H (show Inv cf { b with st:=aE b.st c s j 1,rq:=aE b.rq c s j a } from by
   have l:=(P.some s j rfl).2.2.2.1;rw [jJ] at l;exact P.inv.setSt G M hj 1 (a:Int) Z Z Z (by dsimp only at l ⊢;omega) (.inr d) (λ_=>⟨Z,Z⟩) (λe=>absurd rfl e))
  have N:=H (show ∀ i,i<8->isOpen (b.m ((aX c s j+fo c+i)/1024))=true from λi f=>by
   have:=P.inv.openS (k:=fo c+i) G M hj d Z;rw [Hj];exact this)
  have CC:=H (λV f i l o=>nP c (aX c s j) f i l o V G Z);have CS:=H (λV=>rL cf.key ((aX c s j:Nat):Int) V HD.key0 HD.key1 Z Z);have a6:fo c+8<=bX c:=Z;have a0:=H (show can cf (aX c s j)=gH (cx cf.key ((aX c s j:Nat):Int)) from rfl);obtain⟨r,a7⟩:∃ r,aX c s j=r:=⟨_,rfl⟩;obtain⟨u,a8⟩:∃ u,fo c=u:=⟨_,rfl⟩;rw [a7] at e3 N CC CS HE a2 a0;rw [a8] at N CC HE a6;have b4:r+u+8<=191488:=Z;have ST:=H (λV cap g (O:Sx x.T x.Q 283 (cf.bud:Nat) b.m V) (hD:Dt x.Q V (some ⟨g,0,none⟩) 8 (gH (cx cf.key (r:Int))))=>qN x.T x.Q 283 (cf.bud:Nat) b.m (r+u) 8 cap (some ⟨g,0,none⟩) _ V O hD Z Z 0 (jG Z Z Z N.out));have X4:=H (show ((p.setCell ⟨x.G,k*6+4,none⟩ (I 1)).setCell ⟨x.G,k*6+5,none⟩ (I a)).heap[R]?=some (.cells #[I 0,U 0,I 0,C] 44) by
   obtain⟨c2,l⟩:=dv z.sl;obtain⟨c3,F⟩:=dv n.sl;exact (Ky.grown F rfl (au (ar _ x.G) _ _):Ky (· = 146) _ _).cells _ _ _ _ ((Ky.grown l rfl (au (ar _ x.G) _ _):Ky (· = 146) _ _).cells _ _ _ _ X.out av) av)
  clear I1 P HM a1 hz d eA eS eR;have d:((p.setCell ⟨x.G,k*6+4,none⟩ (I 1)).setCell ⟨x.G,k*6+5,none⟩ (I a)).heap.size=p.heap.size:=by simp [World.setCell]
  have HV:=H d;clear d;go_wp2;generalize (p.setCell ⟨x.G,k*6+4,none⟩ (I 1)).setCell ⟨x.G,k*6+5,none⟩ (I a)=V4 at Q Y X4 HV ⊢;have A:D V4 (V4.alloc (.cells #[I c,I s,I j,U r,I 1,I a] 146)):=(Fc _ _).alloc (Fe _) _;have F:=H (ao V4 (.cells #[I c,I s,I j,U r,I 1,I a] 146));have l:=H (Q.below A);have B5:=H (Q.bkB Y.out t.out A);have X5:=H (ae X4.out A);clear A e0 e1 e2 e3 e4 e5 c7 d4 f4 a3 a4 f53 a5 z n Q B2 B3 Y X X4;generalize V4.alloc _=V5 at l B5 X5 F ⊢;rw [HV.out] at F;generalize p.heap.size=Y at F ⊢;have SS:=H (show ∀ (V:World) {b:Hs},Sh B x cf b V->V.heap[Y]?=some (.cells #[I c,I s,I j,U r,I 1,I a] 146)->V.cell? ⟨x.P,6,none⟩=some (J x.T 0)/\V.cell? ⟨x.P,4,none⟩=some (U cf.key)/\V.cell? ⟨Y,0,none⟩=some (I c)/\V.cell? ⟨Y,1,none⟩=some (I s)/\V.cell? ⟨Y,2,none⟩=some (I j)/\V.cell? ⟨Y,3,none⟩=some (U r)/\V.cell? ⟨Y,4,none⟩=some (I 1)/\V.cell? ⟨Y,5,none⟩=some (I a) from λV b O b =>
   ⟨O.cell 6 _ rfl,O.cell 4 _ rfl,by simp [World.cell?,b],by simp [World.cell?,b],by simp [World.cell?,b],by simp [World.cell?,b],by simp [World.cell?,b],by simp [World.cell?,b]⟩)
  refine rh (S:=λW'=>W'.cell? ⟨x.P,6,none⟩=some (J x.T 0)/\W'.cell? ⟨x.P,4,none⟩=some (U cf.key)/\W'.cell? ⟨Y,0,none⟩=some (I c)/\W'.cell? ⟨Y,1,none⟩=some (I s)/\W'.cell? ⟨Y,2,none⟩=some (I j)/\W'.cell? ⟨Y,3,none⟩=some (U r)/\W'.cell? ⟨Y,4,none⟩=some (I 1)/\W'.cell? ⟨Y,5,none⟩=some (I a)) ?_;have d:=SS.out _ (l.below (Fc _ _).drew) F.out;iterate 5 (refine py d ?_;simp only [f0,f1,Nat.reduceAdd,lz,l0,ls])
  refine pk 6 (J x.P 0) d ?_;refine pk 7 (J x.P 0) d ?_;refine pk 8 (J x.P 0) d ?_;refine pk 9 (J x.P 4) d ?_;refine pz 10 (U cf.key) d ?_;refine pk 11 (J Y 3) d ?_;refine pz 12 (U r) d ?_;refine po 5 λK' w=>?_;go_simp;refine (CC.out _ _ _ _ _).mono ?_;rintro e V6 ⟨rfl,Q⟩;have k6:D V5 V6:=⟨Q.os,Q.tape,Q.output,Q.size,Q.block⟩;have h6:=SS.out _ (l.below k6) (ae F.out k6);refine w.out _ _ ⟨h6,?_⟩;clear d;have d:=h6;clear w K';refine po 13 λK' w=>?_
  go_simp;refine (CS.out _).mono ?_;rintro e V7 ⟨v,rfl,o7,b7⟩;obtain⟨va,vc,rfl⟩:=aK o7;obtain⟨g,rfl⟩:=cn o7 Z;have n:=az k6 b7;have h7:=SS.out _ (l.below n) (ae F.out n);refine w.out _ _ ⟨h7,?_⟩;clear d;have d:=h7;clear w K';refine po 14 λK' w=>?_;go_simp;refine (ST.out _ vc g (l.below n).sp (Dt.own (l.below k6).sp b7 (dN _) o7)).mono ?_;rintro e V8 ⟨rfl,x8,f8⟩;have S8:=H ((l.below n).space (Fg (Fg t.out B5.bel.size) n.size) _ x8 f8);have B8:=H ((l.below n).bkS (l.bkB B5.out t.out n) t.out f8);have Y8:=H ((f8.ky (l.below n).sp).cells _ _ _ _ (ae F.out n) av);have X8:=H ((f8.ky (l.below n).sp).cells _ _ _ _ (ae X5.out n) av);have h8:=SS.out _ S8.out Y8.out;refine w.out _ _ ⟨h8,?_⟩;clear d;have d:=h8;clear w K';refine bN ?_;have y3:=d.2.2.2.2.2.1;clear d h6 h7 h8 k6 n Q b7 o7 x8 f8 SS ST CS CC l B5 X5 F;go_wp2_with (refine eF X8.out ?_);refine fp (aw X8.out _) underlying44 ?_;rw [HE.out];refine⟨rfl,S8.off81 X8.out _,B8.loc (al V8 R _) (by rw [HR.out];exact Fe _) HQ.out t.out⟩
theorem fK {P:Program} {b:Array Oper} {Q:Exit->Act->World->Prop} {i:Nat} {o:Oper} {K:Act->World->Prop} {a:Act} {w:World} (j:b[i]?=some o) (c:o.guard=none) (s x:Operand)
  (k:o.op=.call { callee:=.builtin .append,args:=#[s,x],argTypes:=#[t,t] }) (l:o.type=t) {e f:Value} {g:World} (m:a.eval s=v) (n:a.eval x=e)
  (p:(Builtin.append_ #[t,t] t #[v,e]).run P w=.ok f g) (q:K (a.put o.dst f) g):wpOp P b Q i K a w:=by
 refine f_ j (by simp [Region.wanted,c]) (λK' d=>?_);unfold Oper.wp;simp [execOp,k,l,resolve,invoke,builtin,m,n,p,Result.andThen];exact d _ _ q
theorem Sh.books (d:Sh B x cf h W) (k:Ky (λt=>t=143\/t=148\/t=23) W W') (f i j:Value) (e:List Rg9) (a b:List Nat)
  (m:W'.heap[x.P]?=some (.cells (fZ cf { x with rv:=f,ov:=i,lv:=j } h.used) 143)) (n:W'.ownsRow B 148 6 f e.length (fg e)) (o:W'.ownsRow B 23 1 i a.length (Us a)) (p:W'.ownsRow B 23 1 j b.length (Us b)) :
  Sh B { x with rv:=f,ov:=i,lv:=j } cf { h with rg:=e,row:=a,rel:=b } W' :=
 ⟨m,d.bp,d.bq,λg q=>d.bg g (de (d.sp.qEq k av) q),d.ds.ky k av,d.sp.ky k av av av,aj d.sl k av,aj d.wt k av,λc l=>⟨(d.wm c l).1.ky k av,(d.wm c l).2.ky k av⟩,n,o,p⟩
def lX (x:Sm):Prop:=∀ g,x.ov.ownBlock=some g->x.lv.ownBlock≠some g
theorem aH {e:TypeId} {sz:Nat} {d:List Value} (h:W.ownsRow B e sz v n d) (a:v.ownBlock=some g):B<=g/\∃ c,W.heap[g]?=some (.cells c e):=by
 rcases h.2 with ⟨rfl,j⟩|⟨k,cap,b,rfl,f,i,_⟩;·simp [Value.ownBlock] at a
 simp [Value.ownBlock] at a;subst a;exact⟨f,b,i⟩
theorem lE {e:TypeId} {sz:Nat} {f:List Value} (h:W.ownsRow B e sz v n f) (i:W.grownBy W' r) (b:∀ g,v.ownBlock=some g->r≠some g):W'.ownsRow B e sz v n f:=by
 refine⟨h.1,?_⟩;rcases h.2 with a|⟨c,cap,d,rfl,j,a,k⟩;·exact .inl a
 refine .inr ⟨c,cap,d,rfl,j,?_,k⟩;rw [i.block c (ai a) (λe=>b c rfl e.symm)];exact a
theorem Ky.grownO {S:TypeId->Prop} (i:∀ P,r=some P->∃ c t f,W.heap[P]?=some (.cells c t f)/\S t) (b:W.grownBy W' r):Ky S W W':=by
 refine⟨b.os,b.tape,b.output,b.size,λg l m n a j=>?_⟩;rw [b.block g (ai a) (λe=>?_)];·exact a
 obtain⟨c,t,f,d,k⟩:=i g e.symm;rw [a] at d;simp at d;exact j (d.2.1▸k)
theorem Bk.ofGrownO {n:Array Value} {o:Nat×Nat} (d:∀ P,r=some P->B<=P/\∃ c t f,W.heap[P]?=some (.cells c t f)/\hT t/\t≠5/\t≠217) (m:W.heap[Q]?=some (.cells n 217 o)) (j:B<=W.heap.size) (i:W.grownBy W' r):Bk B Q W W':=by
 have k:some Q≠r:=λe=>by
  obtain⟨_,c,t,f,b,_,_,a⟩:=d Q e.symm;rw [m] at b;simp at b;exact a b.2.1.symm
 refine⟨(Fc B W).grown i j (λP l=>(d P l).1),Ky.grownO (λP l=>?_) i,λg q s a _=>?_,λg a=>.inl (de (i.block Q (ai m) k) a)⟩;·obtain⟨_,c,t,f,b,p,_⟩:=d P l;exact⟨c,t,f,b,p⟩
 rw [i.block g (ai a) (λe=>?_)];·exact a
 obtain⟨_,c,t,f,b,_,p,_⟩:=d g e.symm;rw [a] at b;simp at b;exact p b.2.1.symm
theorem Sh.boxSet (a:Sh B x cf h W) (i:Nat) (v:Value):(W.setCell ⟨x.P,i,none⟩ v).heap[x.P]?=some (.cells ((fZ cf x h.used).setIfInBounds i v) 143):=by
 simp [World.setCell,Fp,a.box]
theorem Sh.boxF (a:Sh B x cf h W) (i:Nat):W.frozen? ⟨x.P,i,none⟩=false:=by simp [World.frozen?,a.box]
def hI (t:TypeId):Prop:=t=90\/t=162\/t=194\/t=173\/t=178\/t=197\/t=167\/t=169\/t=3\/t=23
structure Bi (B:Nat) (W W':World):Prop where
 bel:Below B W W'
 ky:Ky hI W W'
theorem Bi.refl (B W):Bi B W W:=⟨Fc _ _,Ky.refl _ _⟩
theorem Bi.trans {B a b c} (h:Bi B a b) (k:Bi B b c):Bi B a c:=⟨h.bel.trans k.bel,h.ky.trans k.ky⟩
theorem Bi.ofBelow (b:D W W') (a:B<=W.heap.size):Bi B W W':=⟨b.mono a,Ky.below b⟩
theorem Bi.add {V V'} (h:Bi B W V) (b:D V V') (a:B<=V.heap.size):Bi B W V':=h.trans (Bi.ofBelow b a)
theorem Bi.ofGrown {P:Nat} {f:Nat×Nat} (b:W.heap[P]?=some (.cells c t f)) (d:hI t) (g:B<=P) (e:B<=W.heap.size) (a:W.grownBy W' (some P)):Bi B W W' :=
 ⟨(Fc B W).grown a e (λr e=>by simp at e;omega),Ky.grown b d a⟩
def ij (code:Int):List PanicEntry:=[{ v:=.iface 118 (.agg #[I code]),recovered:=false }]
theorem Hp.usedP (b:Hp B y d cf h W) (u:Nat):Hp B y d cf { h with used:=u } (W.setCell ⟨y.P,118,none⟩ (I u)):=by
 have k:=b.box.kyS 118 (I u);have m:Below B W (W.setCell ⟨y.P,118,none⟩ (I u)):=(Fc B W).grown (au (ar W y.P) _ _) b.bW (λr n=>by simp at n;have:=b.ap.bP;omega);have o:=b.box.set 118 Z (I u);rw [uF] at o;have p:(W.setCell ⟨y.P,118,none⟩ (I u)).heap[y.M]?=W.heap[y.M]?:=Gx _ _ _ _ (λe=>by
  obtain⟨c,i,_⟩:=b.box;obtain⟨a,⟨q,t,f,_⟩,_⟩:=b.sp.map;rw [e,i] at f;cases f)
 have v:(W.setCell ⟨y.P,118,none⟩ (I u)).heap[y.R]?=W.heap[y.R]?:=Gx _ _ _ _ (λe=>by
  obtain⟨c,i,_⟩:=b.box;obtain⟨q,t,f⟩:=b.mp.typ;rw [e,i] at f;cases f)
 exact⟨b.ap,Fg b.bW m.size,o,b.ds.belowB m b.ap.da,b.sp.ky k av p,b.pg.ky k av,b.bf,
 λc s a l=>k.cells _ _ _ _ (b.sl c s a l) av,λc s a l=>cS (b.rw c s a l) k av,λc s j a l w=>k.cells _ _ _ _ (b.sm c s j a l w) av,
 λc a=>(b.wt c a).ky k av av av,b.mp.same v,b.lo,λr n=>by obtain ⟨g,i,f,x⟩:=b.lb r n;exact⟨g,i,f,k.cells _ _ _ _ x av⟩,b.li,b.ro.ky k av,aj b.rl k av,b.rr,b.tb.belowB m b.ap.b0⟩
theorem Hp.bi118 (a:Hp B y d cf h W) (i:Nat) (v:Value):Bi B W (W.setCell ⟨y.P,i,none⟩ v):=by
 obtain⟨c,b,_⟩:=a.box;exact Bi.ofGrown b (.inl rfl) a.ap.bP a.bW (au (ar W y.P) _ _)
theorem oN (B y d cf h) (n:Nat) (W) (b:Hp B y d cf h W) (o:1<=n) (s:n<=1000000) (p:h.used<=1000000) (v:cf.ds.length<=20000) :
  Calls prog 134 #[J y.P 0,I n] W λe W'=>e=.returned (I (dr cf h n:Nat))/\Hp B y d cf { h with used:=h.used+1 } W'/\Bi B W W':=by
 have c:W.cell? ⟨y.P,118,none⟩=some (I h.used):=b.cell 118 Z _ rfl;have t:W.cell? ⟨y.P,5,none⟩=some (.slice y.da cf.ds.length y.dc):=b.cell 5 Z _ rfl;have f118:W.frozen? ⟨y.P,118,none⟩=false:=b.box.free 118;have f:((h.used+1:Nat):Int)=(h.used:Int)+1:=Z;have i:=H (b.usedP (h.used+1));have a:=H (b.bi118 118 (I (h.used+1:Nat)));rw [f] at i a;clear f;by_cases f:h.used<cf.ds.length
 ·obtain⟨g,j,r⟩:=b.ds.cells h.used f;rw [j] at t;have k:=H (show dr cf h n=md (cf.ds[h.used]?.getD 0) n from rfl);generalize cf.ds[h.used]?.getD 0=q at k r;have M:=H (λW'=>iy q n W' o Z);generalize cf.ds.length=l at *;generalize m:h.used=us at c r f i a p;clear b j;have j:(us:Int)<(l:Int):=Z;go_enter func134,ntmps134;go_wp2;go_region;go_wp2;go_region;go_wp2_with fail;refine (M _).mono ?_;rintro e u ⟨rfl,rfl⟩;go_wp2;go_ret;refine⟨?_,i.below (Fc _ _).drew.drew,⟨a.bel.os,a.bel.tape,a.bel.output,a.bel.size,a.bel.block⟩,⟨a.ky.os,a.ky.tape,a.ky.output,a.ky.size,a.ky.cells⟩⟩;rw [k.out];rfl
 have k:=H (show dr cf h n=md 0 n by unfold dr md;rw [Ft Z];rfl);have M:=H (λW'=>iy 0 n W' o Z);generalize cf.ds.length=l at *;generalize m:h.used=us at c f i a p;clear b;have j:¬((us:Int)<(l:Int)):=Z;go_enter func134,ntmps134;go_wp2;go_region;go_wp2_with fail;refine (M _).mono ?_;rintro e u ⟨rfl,rfl⟩;go_wp2;go_ret;refine⟨?_,i.below (Fc _ _).drew,⟨a.bel.os,a.bel.tape,a.bel.output,a.bel.size,a.bel.block⟩,⟨a.ky.os,a.ky.tape,a.ky.output,a.ky.size,a.ky.cells⟩⟩;rw [k.out];rfl
theorem Fr.kt {S M st n bud f f' m} (d:Im S M st n bud f W) (j:Pg f m W) (h:Fr S M f f' W W'):Ky (λt=>t=162\/t=194) W W':=by
 refine⟨h.os,h.tape,h.output,h.size,λg c t p b e=>?_⟩;rw [h.block g (ai b) ?_ ?_ ?_];·exact b
 ·rintro rfl;rw [d.box] at b;simp at b;exact e (.inl b.2.1.symm)
 ·rintro rfl;obtain⟨a,⟨k,o,i,_⟩,_⟩:=d.map;rw [i] at b;cases b
 intro k i;rcases j.at' k with ⟨a,_⟩|⟨q,l,r,a,_,_,o⟩;·rw [i] at a;cases a
 rw [i] at a;cases a;rw [o] at b;simp at b;exact e (.inr b.2.1.symm)
theorem Hp.space {f' m'} (a:Hp B y d cf h W) (x:Im y.S y.M 0 283 (cf.bud:Nat) f' W') (z:Pg f' m' W') (b:Fr y.S y.M d.f f' W W') :
  Hp B y { d with f:=f' } cf { h with m:=m' } W'/\Bi B W W':=by
 have k:=b.kt a.sp a.pg;have u:Below B W W':=⟨b.os,b.tape,b.output,b.size,λg v=>b.block g (Fq v a.bW) (by have:=a.ap.bS;omega) (by have:=a.ap.bM;omega) (λj n=>by have:=a.bf j g n;omega)⟩;have A:W'.heap[y.R]?=W.heap[y.R]?:=by
  obtain⟨q,s,o⟩:=a.mp.typ;refine b.block _ (ai o) (λe=>?_) (λe=>a.ap.mr e.symm) (λj n=>?_);·rw [e,a.sp.box] at o;cases o
  rcases a.pg.at' j with ⟨i,_⟩|⟨w,l,F,i,_,_,p⟩;·rw [n] at i;cases i
  rw [n] at i;cases i;rw [p] at o;cases o
 refine⟨⟨a.ap,Fg a.bW u.size,a.box.ky k av,a.ds.belowB u a.ap.da,x,z,λj g n=>?_,
 λc s p q=>?_,λc s p q=>cS (a.rw c s p q) k av,λc s j p q n=>k.cells _ _ _ _ (a.sm c s j p q n) av,
 λc p=>(a.wt c p).ky k av av av,a.mp.same A,a.lo,λr F=>by obtain ⟨g,G,o,K⟩:=a.lb r F;exact⟨g,G,o,k.cells _ _ _ _ K av⟩,a.li,a.ro.ky k av,aj a.rl k av,a.rr,a.tb.belowB u a.ap.b0⟩,u,k.more (λt i=>by unfold hI;rcases i with e|e <;> simp [e])⟩
 ·rcases b.made j g n with ⟨i,w⟩|L;·exact a.bf i g w
  exact Fg a.bW L
 exact k.cells _ _ _ _ (a.sl c s p q) av
end
section
open Go.RowKit Go.Maps
def nt (r:Rg9) (x:Nat):Bool:=decide (r.first<=x/1024)&&decide (x/1024<r.first+r.ext)
theorem o_ (B:Nat) (L r) (v:Option Addr) (w y:Nat) (l:List Nat) (W:World) (h:W.ownsRow B 23 1 (.slice v w y) l.length (Us l)) (F:l.length<=100000) (f:∀ x∈l,x<18446744073709551616) (b:Lc L r W) :
  Calls prog 175 #[.slice v w y,.func (.func 143) #[J L 0] #[]] W λe W'=>D W W'/\((e=.returned (I (-1))/\∀ x∈l,nt r x=false)\/∃ k:Nat,k<l.length/\e=.returned (I k)/\nt r (l[k]?.getD 0)=true/\∀ j,j<k->nt r (l[j]?.getD 0)=false):=by
 obtain⟨rfl,c⟩:=lw h;have G:=H c;have K:=H (λV (d:D W V) x (a:x<18446744073709551616)=>oh L x r V (b.below d) a);have M:=H f;clear c h f b;obtain⟨n,a⟩:∃ n,l.length=n:=⟨_,rfl⟩;rw [a] at F ⊢;have p:=H a;clear a;go_enter func175,ntmps175;go_wp2;go_loopw [8] (λi wr=>∃ k:Nat,k<=n/\i=I k/\Hid (D W wr)/\Hid (∀ j,j<k->nt r (l[j]?.getD 0)=false)) (λi _=>n-(intOf i).toNat);case atStart=>exact ⟨0,Fs _,rfl,H (Fc _ _),H (λj c=>Z)⟩
 case round =>
  obtain⟨k,N,rfl,d,m⟩:=hrel;by_cases b:k<n
  ·obtain⟨g,rfl,a⟩:=G.out k (by rw [p.out];exact b);have o:=ad d a;have s:l[k]?.getD 0<18446744073709551616:=M.out _ (by rw [Fj (by rw [p.out];exact b)];exact Ie _);clear a;generalize a:l[k]?.getD 0=q at *;have z:=H a;clear a;have a:=H (K wr d q s);rw [show (decide (r.first<=q/1024)&&decide (q/1024<r.first+r.ext))=nt r q from rfl] at a;go_wp2_with fail;refine (a).mono ?_;rintro e V ⟨rfl,t⟩;have A:=H (d.trans (t.mono d.size));clear t a;cases a:nt r q with
   | true =>
    go_wp2;go_ret;exact⟨A,.inr ⟨k,b,rfl,by rw [z.out];exact a,m⟩⟩
   | false =>
    have t:=H (show ∀ j,j<k+1->nt r (l[j]?.getD 0)=false from λj c=>by
     rcases Nat.lt_succ_iff_lt_or_eq.1 c with u|u;·exact m j u
     subst u;rw [z.out];exact a)
    clear m;go_wp2;go_roundw;(case rel=>exact ⟨k+1,Z,aY,A,t⟩);case measure=>simp [intOf];omega
  obtain rfl:k=n:=Z;go_wp2;go_ret;refine⟨d,.inl ⟨rfl,λx f=>?_⟩⟩;obtain⟨j,c⟩:=GQ f;have a:=(Fl.1 c).1;have:=m.out j (by rw [<-p.out];exact a);rw [c] at this;exact this
def eh (r:Rg9) (l:List Nat) (j:Nat):List Nat:=(l.take j).filter λx => !nt r x
theorem iY (r) (l:List Nat) (j:Nat) (h:j<l.length):eh r l (j+1)=eh r l j++(if nt r (l[j]?.getD 0) then [] else [l[j]?.getD 0]):=by
 unfold eh;rw [FN,GZ,Fj h];congr 1;simp only [Iy,Hb,List.filter_cons,List.filter_nil];cases nt r l[j] <;> rfl
theorem kg (r) (l:List Nat) (k:Nat) (d:k<=l.length) (h:∀ j,j<k->nt r (l[j]?.getD 0)=false):eh r l k=l.take k:=by
 unfold eh;rw [Hw];intro x c;obtain⟨j,a⟩:=GQ c;have b:=(Fl.1 a).1;rw [G0] at b;rw [GR Z] at a;have:=h j Z;rw [a] at this;simp at this;rw [this];rfl
theorem oe (r l j):(eh r l j).length<=j:=by
 unfold eh;have:=GN (λx => !nt r x) (l.take j);rw [G0] at this;omega
theorem yF (r) (l:List Nat) (k j:Nat) (c:k<j) (d:j<=l.length) (a:nt r (l[k]?.getD 0)=true):(eh r l j).length<j:=by
 induction j with
 | zero=>omega
 | succ j b =>
  rw [iY r l j Z,Fo];have f:=oe r l j;by_cases e:k=j;·subst e;rw [Gv a];simp;omega
  have:=b Z Z;split <;> simp <;> omega
structure Ct (g cap n:Nat) (l:List Nat) (is:List Nat) (j:Nat) (W:World):Prop where
 row:∃ c,W.heap[g]?=some (.cells c 23)/\c.size=cap/\(∀ q,q<is.length->c[q]?=some (U ((is[q]?.getD 0:Nat):Int)))/\∀ q,j<=q->q<n->c[q]?=some (U ((l[q]?.getD 0:Nat):Int))
theorem Ct.cell {g cap n l is j W} (h:Ct g cap n l is j W) {q:Nat} (a:j<=q) (b:q<n):W.cell? ⟨g,q,none⟩=some (U ((l[q]?.getD 0:Nat):Int)):=by
 obtain⟨c,d,f,i,e⟩:=h.row;rw [Gz _ _ _ _ _ _ d];exact e q a b
theorem Ct.free (h:Ct g cap n l is j W) (q:Nat):W.frozen? ⟨g,q,none⟩=false:=by
 obtain⟨c,a,_⟩:=h.row;simp [World.frozen?,a]
theorem Ct.anyC (h:Ct g cap n l is j W) {q:Nat} (b:q<cap):∃ v,W.cell? ⟨g,q,none⟩=some v:=by
 obtain⟨c,a,d,_⟩:=h.row;rw [Gz _ _ _ _ _ _ a];exact⟨_,He Z⟩
theorem Ct.same (h:Ct g cap n l is j W) (e:W'.heap[g]?=W.heap[g]?):Ct g cap n l is j W':=by
 obtain⟨c,a,b⟩:=h.row;exact⟨c,e.trans a,b⟩
theorem Ct.lt (h:Ct g cap n l is j W):g<W.heap.size:=by
 obtain⟨c,a,_⟩:=h.row;exact ai a
theorem Ct.skip (h:Ct g cap n l is j W):Ct g cap n l is (j+1) W:=by
 obtain⟨c,a,b,d,e⟩:=h.row;exact⟨c,a,b,d,λq i f=>e q Z f⟩
theorem Ct.put (h:Ct g cap n l is j W) (x:Nat) (o:is.length<=j) (p:j<n) (r:n<=cap):Ct g cap n l (is++[x]) (j+1) (W.setCell ⟨g,is.length,none⟩ (U x)):=by
 obtain⟨c,b,d,f,i⟩:=h.row;refine⟨c.setIfInBounds is.length (U x),by simp [World.setCell,Fp,b],by simpa using d,λq k=>?_,λq s m=>?_⟩
 ·rw [Fu];by_cases e:is.length=q;·subst e;simp;omega
  rw [Gu e];have a:q<is.length:=by simp at k;omega
  rw [f q a,Gh a]
 rw [Fu,Gu Z];exact i q Z m
end
section
open Go.RowKit Go.Shelf Go.Maps
def Cp (w : World) (e : Ending) (j : World) : Prop :=
 ∃ (c : Cd) (i : List dh) (A : Option Addr) (n B : Nat), e=.returned (.tuple #[.agg (pP c).toArray, .slice A i.length n])/\c.ds.length<=60/\i.length<=301/\w.heap.size<=B/\Ok4 B c j/\j.ownsRow B 42 6 (.slice A i.length n) i.length (cR i)/\(∀ q ∈ i, Od6 B q j)/\D w j
def vV : Value->Nat
 | .slice _ l _ => l
 | _ => 0
theorem CU (a:Option Addr) (d cap:Nat) (K:List Int) (w:World) (k:IsRow .u8 w a d cap K) (s:d<=1048576) :
  Calls prog 10 #[.slice a d cap] w λe z=>Cp w e z:=by
 have N:=H (λR V (A:Rd w a d cap R V V)=>ca w a d cap K k s R V V A);have HP:=H (λR V (A:Rd w a d cap R V V)=>wT w a d cap K k s R V A);have OP:=H (λR b (f:b<=400) i V (A:Rd w a d cap R V V)=>AQ w a d cap K k s R b f i V A);have l:=(Fc w.heap.size w).alloc (Fe _) (.cells #[.int .i64 0,.int .i64 0,.int .i64 0,.int .i64 0,.int .u64 0,.slice none 0 0] 26);have b:=l.alloc l.size (.cells #[.slice a d cap,.int .i64 0] 71);have f:=H (show Rd w a d cap (w.heap.size+1) w ((w.alloc (.cells #[.int .i64 0,.int .i64 0,.int .i64 0,.int .i64 0,.int .u64 0,.slice none 0 0] 26)).alloc (.cells #[.slice a d cap,.int .i64 0] 71)) from ⟨⟨0,Fs _,by rw [<-aF w (.cells #[.int .i64 0,.int .i64 0,.int .i64 0,.int .i64 0,.int .u64 0,.slice none 0 0] 26)];exact ao _ _⟩,b,Z,⟨b.os,b.tape,b.output,b.size,λg O _=>b.block g O⟩⟩);have i:=H ((ej (w.alloc (.cells #[.int .i64 0,.int .i64 0,.int .i64 0,.int .i64 0,.int .u64 0,.slice none 0 0] 26)) (.cells #[.slice a d cap,.int .i64 0] 71) w.heap.size (by rw [aF];omega)).trans (ao w (.cells #[.int .i64 0,.int .i64 0,.int .i64 0,.int .i64 0,.int .u64 0,.slice none 0 0] 26)));clear l b k;go_enter func10,ntmps10;go_wp2_with fail;generalize (w.alloc (.cells #[.int .i64 0,.int .i64 0,.int .i64 0,.int .i64 0,.int .u64 0,.slice none 0 0] 26)).alloc (.cells #[.slice a d cap,.int .i64 0] 71)=V1 at f i ⊢;obtain⟨R,L⟩:∃ R,R=w.heap.size+1:=⟨_,rfl⟩;obtain⟨Y,b⟩:∃ Y,Y=w.heap.size:=⟨_,rfl⟩;rw [<-L] at f ⊢;rw [<-b] at i ⊢;have B:=H (IB L b);clear L b;refine (HP _ _ f.at).mono ?_;rintro e t ⟨c,rfl,b,k,r⟩;unfold pP;have l:=H (show D6 w a d cap R t.heap.size Y c (.slice none 0 0) [] (t.alloc (.cells #[.int .i64 c.mi,.int .i64 c.fi,.int .i64 c.la,.int .i64 c.bu,.int .u64 c.ky,.slice c.da c.ds.length c.dc] 26)) from by
  have m:=(Fc t.heap.size t).alloc (Fe _) (.cells #[.int .i64 c.mi,.int .i64 c.fi,.int .i64 c.la,.int .i64 c.bu,.int .u64 c.ky,.slice c.da c.ds.length c.dc] 26);have O:=f.lt;have o:=B.out;have P:t.heap[Y]?=_:=(r.g.block Y (ai i) (λe=>by cases e;omega)).trans i.out;exact⟨(f.of r).below m,r.lt,Z,Z,ao t _,by rw [m.block _ (ai P)];exact P,⟨k.k0,k.k1,k.dw,(dV O k.d).alloc _⟩,⟨rfl,.inl ⟨rfl,rfl⟩⟩,λq M=>(by cases M)⟩)
 clear k r f i;have Q:=H b;clear b;go_wp2_with fail;generalize t.alloc (.cells #[.int .i64 c.mi,.int .i64 c.fi,.int .i64 c.la,.int .i64 c.bu,.int .u64 c.ky,.slice c.da c.ds.length c.dc] 26)=V3 at l ⊢;generalize t.heap.size=b at l ⊢;refine (N _ _ l.rd.at).mono ?_;rintro e V4 ⟨⟨k,hk,rfl⟩,r⟩;have f:=H (l.next r);clear r l;go_wp2_with fail;refine (N _ _ f.rd.at).mono ?_;rintro e V5 ⟨⟨W,a0,rfl⟩,r⟩;have X:=H (f.next r);clear r f;obtain⟨n,hn,f⟩:∃ n:Nat,n<60/\(W:Int)%60=(n:Int):=⟨W%60,Z,Z⟩;go_wp2;rw [f];clear f;go_loopw [7,9] (λv i wr=>∃ (j:Nat) (l:List dh),j<=n/\i=.int .i64 j/\l.length=j/\Hid (D6 w a d cap R b Y c v l wr)) (λ_ i _=>n-(intOf i).toNat);case atStart=>exact ⟨0,[],Fs _,rfl,rfl,X⟩
 case round =>
  obtain⟨j,l,hj,rfl,p,f⟩:=hrel;clear X;obtain⟨va,vb,vc,rfl⟩:=eW f.row;obtain rfl:=fP f.row;have u:=H p;clear p;by_cases S:j<n
  ·go_wp2_with fail;refine (OP _ l.length (by have:=u.out;omega) _ _ f.rd.at).mono ?_;rintro e G ⟨q,rfl,m,r⟩;have F:=H (f.next r);obtain⟨v',z,o,x⟩:=F.app (by have:=u.out;omega) q ⟨m.p,m.a,m.b,dV f.rd.lt m.d,m.r,m.y⟩;have T:=H x;clear x m r f;unfold ee at o ⊢;go_wp2_with (at_builtin;refine kv 27 rfl (.tmp 25) (.tmp 33) (by with_reducible rfl) rfl rfl rfl o ?_);go_roundw;(case rel=>exact ⟨j+1,l++[q],Z,aY,by simp [u.out],T⟩);case measure=>simp [intOf];omega
  ·have:j=n:=Z;subst this;(go_upto_if 36 with fail);go_cut [7,36] (λv _ z=>∃ l:List dh,l.length<=301/\Hid (D6 w a d cap R b Y c v l z));case first =>
    cases g:((k:Int)==255);case false =>
     go_wp2;go_meet;case rel=>exact ⟨l,by have:=u.out;omega,f⟩
    case true =>
     go_wp2_with fail;go_loopw [7] (λv wr=>∃ l:List dh,l.length<=301/\Hid (D6 w a d cap R b Y c v l wr)) (λv _=>400-vV v);(case atStart=>exact ⟨l,by have:=u.out;omega,f⟩);case round =>
      clear f u;obtain⟨m,p,f⟩:=hrel;obtain⟨xa,xb,xc,rfl⟩:=eW f.row;obtain rfl:=fP f.row;by_cases S:m.length<300+j%2
      ·have F:(m.length:Int)<300+(j:Int)%2:=Z;obtain⟨v',z,o,x⟩:=f.app Z ⟨⟨0,0,0,1,0,[]⟩,none,0⟩ ⟨av,av,av,⟨rfl,.inl ⟨rfl,rfl⟩⟩,av,λy hy=>by cases hy⟩;have T:=H x;obtain⟨ya,P,yc,rfl⟩:=eW x.row;have G:=fP x.row;rw [Fo] at G;obtain rfl:=G;clear x;go_wp2_with (at_builtin;refine kv 27 rfl (.tmp 43) (.tmp 45) (by with_reducible rfl) rfl rfl rfl o ?_);go_roundw;(case rel=>exact ⟨m++[⟨⟨0,0,0,1,0,[]⟩,none,0⟩],bK,T⟩);case measure=>simp [vV];omega
      ·have F:¬(m.length:Int)<300+(j:Int)%2:=Z;go_wp2;go_meet;case rel=>exact ⟨m,p,f⟩
   case rest =>
    clear f u;obtain⟨m,p,f⟩:=hcut;obtain⟨xa,xb,xc,rfl⟩:=eW f.row;obtain rfl:=fP f.row;go_wp2_with (first|(refine F8 rfl 26 _ rfl _ rfl _ _ _ _ f.cb underlying26 rfl E ?_)|(refine FK rfl 26 _ _ rfl _ _ rfl rfl 26 _ f.yb E rfl (by simp [pP,Value.oneCell']) ?_));refine GF (results_cell_tmp ef _ _ Y _ ef (run_loadVar_row _ Y 26 26 _ (0,0) _ (aw f.yb _) underlying26 rfl E)) ef ?_;have g:=al wc Y (pP c).toArray;have hy:=f.yr;have F:=f.y1;have L:=B.out;exact⟨c,m,xa,xc,R+1,rfl,Q,p,Z,f.ok.kept g (λe=>by have:=(f.ok.d.lt Y e).1;omega),f.row.kept g (.inr λe=>by have:=(f.row.lt Y e).1;omega),λq M=>(f.dat q M).kept g (λe=>by have:=((f.dat q M).d.lt Y e).1;omega),f.rd.bel.grown g f.rd.bel.size (λr e=>by cases e;omega)⟩
end
end Go.Proofs.YtdngbppdomoenaaGreatDoor
