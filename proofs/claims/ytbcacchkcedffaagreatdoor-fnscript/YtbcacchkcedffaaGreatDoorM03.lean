import Derived.Maps.RangeWalk
import Derived.Test.YtbcacchkcedffaaGreatDoorM02
set_option linter.all false
set_option maxRecDepth 20000
set_option maxHeartbeats 0
namespace Go.Proofs.YtbcacchkcedffaaGreatDoor
open Go.Proofs.Tryz Go.RowKit Go.Maps Go.Shelf Go.ChangeShapes Go.WideShapes Go.ChangeAt
def Dr(cf:Cf)(e:Hs)(g p a:Nat):Option Nat->Option Nat×Hs
 |none=>(none,e)
 | some s=>if cf.bud<bz e.m 283+p then(none,e)
   else(some ((s+g)*1024),{e with m:=aT e.m (s+g) p,rg:=e.rg++[⟨s,g,p,1,a⟩],rel:=e.rel.filter λb=>b/1024<s || s+(g+p+1)<=b/1024})
def iJ(cf h){a:Nat}(ha:1016<a):av cf h a=if 96<aR a then(none,{h with used:=h.used+1})else Dr cf {h with used:=h.used+1} (1+dr cf h 3) (aR a) a (dV {h with used:=h.used+1} (1+dr cf h 3+aR a+1)):=by
 unfold av;rw[GO Z];dsimp only;split;.rfl
 cases dV {h with used:=h.used+1} (1+dr cf h 3+aR a+1)with
 |none=>rfl
 |some s=>rfl
def rz(B x cf h)(a:Nat)(W)(i:Sh B x cf h W)(c:l_ x)(hB:B<=W.heap.size)(t:Inv cf h)(hu:h.used<=1000000)(l:mE cf)(y:h.rg.length<=900)(A:h.rel.length<=900)(ha:1016<a)(d6:a<18446744073709551616):
  Calls prog 183 #[J x.P 0,U a] W λe T=>∃b:Sm,e=.returned (jP (mQ (av cf h a).1) (C))/\b.P=x.P/\b.Q=x.Q/\l_ b/\Sh B b cf (av cf h a).2 T/\Bk B x.Q W T:=by
 have⟨v,f⟩:=Qa (av cf h a);rw[f];have j:=H (f.symm.trans (iJ cf h ha));have e7:=mW cf h (n:=3) Z;have⟨o,q⟩:=y7 (λV(hV:Sh B x cf h V)=>oQ B x cf h 3 V hV Z Z hu l.len l.wf) (λV=>qH a V d6);have g0:=gE a;obtain⟨w,b⟩:∃w:Hs,w={h with used:=h.used+1}:=⟨_,rfl⟩;rw[<-b]at j o;have I1:=H (show Inv cf w by rw[b];exact t.used _);have a7:w.rg.length<=900:=by rw[b];exact y
 have a8:w.rel.length<=900:=by rw[b];exact A
 have F:=H (λV(hV:Sh B x cf w V)n(d:1<=n)(g:n<=1000)=>uW B x cf w n V hV Z d g (λr d=>by have:=I1.rgs r d;omega));have⟨z,X⟩:=y7 hB c;have g2:¬((a:Int)<=1016):=Z;have bA:D W (W.alloc (.cells #[I 0,U 0,I 0,C] 94)):=ph;have⟨g,r,k⟩:=Qe (i.below bA) (i.bkB (Bk.refl _ _ _) hB bA) (ao W (.cells #[I 0,U 0,I 0,C] 94));have G:=i.ltQ;generalize dr cf h 3=d at*;generalize s:aR a=p at*;clear i t l b f y A bA s c;go_in;go_wp2_with fail;generalize W.alloc _=V at g r k⊢;have⟨R,b⟩:=Qb W.heap.size;rw[<-b]at k⊢;have⟨HR,HQ⟩:=y7 b G;clear b G;refine(o _ g).mono ?_;rintro e V1⟨rfl,c,b⟩;have⟨S1,B1,X1⟩:=Qe c (g.bkP r z b) ((Ky.grown g.box rfl b:Ky (· =240) _ _).XC k);clear c b;go_wp2_with fail;refine(q _).mono ?_;rintro e V2⟨rfl,rfl⟩;by_cases a9:96<p
 ·have b0:(96:Int)<(p:Int):=Z;have HE:=H (j.trans (GP a9));go_wp2_with (refine eG X1 ?_);refine fM (aw X1 _) underlying94 ?_;rw[HE];exact⟨x,rfl,rfl,rfl,X,S1.off81 X1 _,B1.loc (aj _ R _) (by rw[HR];exact gi) HQ z⟩
 have b0:¬((96:Int)<(p:Int)):=Z;have HE:=H (j.trans (GO a9));have e6:(p:Int)<=96:=Z;have g3:a<=98304:=Z;go_wp2_with fail;refine(q _).mono ?_;rintro e V3⟨rfl,rfl⟩;refine(let_mvar%?B:=(1+(d:Int)+(p:Int)+1);?_);have G:=H (show QA 261 #[J x.P 0,I ?B] V3 λe T=>e=.returned (I (match dV w (1+d+p+1)with|some s=>(s:Int)|none=> -1))/\D V3 T by rw[show ?B=((1+d+p+1:Nat):Int) by omega];exact F _ S1 _ Z Z)
 clear F q;have I2:=I1;cases a4:dV w (1+d+p+1)with
 |none=>rw[a4]at G HE;go_wp2_with fail;refine G.mono ?_;rintro e V4⟨rfl,b4⟩;have⟨Q,B4,X4,K⟩:=Qf (S1.below b4) (S1.bkB B1 z b4) (ae X1 b4) (show v=(none,w)from HE);clear b4;go_wp2_with (refine eG X4 ?_);refine fM (aw X4 _) underlying94 ?_;rw[K];exact⟨x,rfl,rfl,rfl,X,Q.off81 X4 _,B4.loc (aj _ R _) (by rw[HR];exact gi) HQ z⟩
 | some s=>
  have⟨r1,r2,_⟩:=gO a4;rw[a4]at G HE;go_wp2_with fail;refine G.mono ?_;rintro e V4⟨rfl,b4⟩;have⟨Q,B4,X4⟩:=Qe (S1.below b4) (S1.bkB B1 z b4) (ae X1 b4);have g4:¬((s:Int)<0):=Z;have f:V4.cell? (Qz x.P 6)=some (J x.T 0):=Q.cell 6 _ rfl;clear b4;by_cases c:cf.bud<bz w.m 283+p
  ·have K:=H (show v=(none,w)from HE.trans (GP c));have CM:=H (show QA 262 #[J x.T 0,I ((s:Int)+(1+(d:Int))),I (p:Int)] V4 λe w'=>e=.returned Qk/\D V4 w' by rw[show((s:Int)+(1+(d:Int)))=((s+(1+d):Nat):Int) by omega];exact jm x.T x.Q 283 (cf.bud:Nat) w.m (s+(1+d)) p V4 Q.sp Z Z Z)
   clear c HE;go_wp2_with fail;refine CM.mono ?_;rintro e V5⟨rfl,b⟩;have⟨S5,B5,X5⟩:=Qe (Q.below b) (Q.bkB B4 z b) (ae X4 b);clear b f;go_wp2_with (refine eG X5 ?_);refine fM (aw X5 _) underlying94 ?_;rw[K];exact⟨x,rfl,rfl,rfl,X,S5.off81 X5 _,B5.loc (aj _ R _) (by rw[HR];exact gi) HQ z⟩
  refine(let_mvar%?E:=s+(1+d);let_mvar%?G:=(1+d)+p+1;?_);have K:=H (show v=(some (?E*1024),{w with m:=aT w.m ?E p,rg:=w.rg++[⟨s,1+d,p,1,a⟩],rel:=w.rel.filter λb=>b/1024<s || s+?G<=b/1024})from HE.trans (GO c));have CM:=H (show QA 262 #[J x.T 0,I ((s:Int)+(1+(d:Int))),I (p:Int)] V4 λe w'=>e=.returned Ql/\Sx x.T x.Q 283 (cf.bud:Nat) (aT w.m ?E p) w'/\Sf x.Q V4 w' by rw[show((s:Int)+(1+(d:Int)))=((s+(1+d):Nat):Int) by omega];exact iK x.T x.Q 283 (cf.bud:Nat) w.m ?E p V4 Q.sp Z Z Z)
  clear c HE;go_wp2_with fail;refine CM.mono ?_;rintro e V5⟨rfl,g,f5⟩;obtain⟨j,c⟩:∃j:Hs,j={w with m:=aT w.m ?E p}:=⟨_,rfl⟩;have S5:=H (show Sh B x cf j V5 by rw[c];exact Q.space (Fx z B4.bel.size) _ g f5);have⟨B5,X5⟩:=y7 (Q.bkS B4 z f5) ((f5.ky Q.sp).XC X4);have M:=H (show v=(some (?E*1024),{j with rg:=j.rg++[⟨s,1+d,p,1,a⟩],rel:=j.rel.filter λb=>b/1024<s || s+?G<=b/1024}) by rw[c];exact K);have g5:j.rg.length<=900:=by rw[c];exact a7
  have d7:j.rel.length<=900:=by rw[c];exact a8
  have b6:=H (show∀b∈j.rel,b<289792 from λb hb=>by rw[c]at hb;have:=I1.rel b hb;omega);clear g f5 f c a7 a8;go_wp2;obtain⟨f,c⟩:∃f:Rg9,f=⟨s,1+d,p,1,a⟩:=⟨_,rfl⟩;refine(let_mvar%?D:=Value.int IntKind.i64;?_);have i:#[Value.int IntKind.u64 (((s:Int)+(1+(d:Int)))*1024),?D (s:Int),?D ?B,?D (p:Int),?D 1,?D (a:Int)]=(rC f).toArray:=by rw[c];simp[rC,Rg9.base,Rg9.ext]
  rw[i];have b7:=H c;clear c;have bA:D V5 (V5.alloc (.cells (rC f).toArray 244)):=ph;have⟨N,O,B6,X6⟩:=Qf (ao V5 (.cells (rC f).toArray 244)) (S5.below bA) (S5.bkB B5 z bA) (ae X5 bA);have⟨ra,rc,a5⟩:=aK S5.rg;have A:=H (show∀g,x.rv.ownBlock=some g->g≠V5.heap.size from λg hg=>by have⟨_,c,hc⟩:=aF S5.rg hg;have:=ag hc;omega)
  generalize V5.alloc _=V6 at O B6 X6 N⊢;generalize V5.heap.size=Y at N A⊢;clear bA i;refine(let_mvar%?H:=Qz x.P 9;?_);have c9:V6.cell? ?H=some (.slice ra j.rg.length rc):=by rw[<-a5];exact O.cell 9 _ rfl
  refine(let_mvar%?A:=V6.alloc (.cells #[U f.base,I f.first,I f.ext,I f.pages,I f.st,I f.rq] 244);?_);have a0:(?A).drew.cell? ?H=some (.slice ra j.rg.length rc):=NI (ph.drew) c9;have k7:D V6 (?A).drew:=ph.drew;have g7:(?A).drew.heap[V6.heap.size]?=some (.cells (rC f).toArray 244):=ao V6 (.cells (rC f).toArray 244);have⟨y,B7,X7,Y7⟩:=Qf (O.below k7) (O.bkB B6 z k7) (ae X6 k7) (ae N k7);have⟨v8,w8,e8,o8,g8⟩:=wL B x.rv j.rg f 1 y.rg g7 Z (Fx z B7.bel.size);rw[a5]at e8;have⟨o,r,d8⟩:=aK o8;subst d8;have b8:=H (show(j.rg++[f]).length=j.rg.length+1 by simp);rw[b8]at e8 o8;have i:Ky (· =244) _ w8:=Ky.grownO (λP hP=>by obtain⟨_,c,hc⟩:=aF y.rg hP;exact⟨c,244,_,hc,rfl⟩) g8;have q:w8.heap[x.P]?=some (.cells (fN cf x j.used) 240):=i.XC y.box;have L:=H (show w8.heap[Y]?=some (.cells (rC f).toArray 244) by rw[g8.block Y (ag Y7) (λe=>A.out Y e.symm rfl)];exact Y7)
  have X8:=H (i.XC X7);have⟨cq,k⟩:=y.qrow;have B8:=H (B7.trans (Bk.ofGrownO (λP hP=>by obtain⟨w,c,hc⟩:=aF y.rg hP;exact⟨w,c,244,_,hc,.inr (.inr (.inr (.inl rfl))),ar,ar⟩) k (Fx z B7.bel.size) g8));have q8:w8.cell? ?H=some (.slice ra j.rg.length rc):=by rw[<-a5];simp[QC,q,fN]
  have f8:w8.frozen? ?H=false:=by simp[QD,q]
  refine(let_mvar%?C:=j.rg.length+1;?_);have l:Ky (· =240) w8 (w8.setCell ?H (.slice o ?C r)):=Ky.grown q rfl (au (Q6 w8 x.P) 9 (.slice o ?C r));have P9:(w8.setCell ?H (.slice o ?C r)).heap[x.P]?=some (.cells (fN cf {x with rv:=.slice o ?C r,ov:=x.ov,lv:=x.lv} j.used) 240):=by simp[World.setCell,FD,q,fN]
  have S9:=H (show Sh B {x with rv:=.slice o ?C r,ov:=x.ov,lv:=x.lv} cf {j with rg:=j.rg++[f],row:=j.row,rel:=j.rel} (w8.setCell ?H (.slice o ?C r))from
   y.books ((i.more (λt ht=>.inr (.inl ht))).trans (l.more (λt ht=>.inl ht)))  (.slice o ?C r) x.ov x.lv _ _ _ P9 (by rw[b8];exact ai o8 l) (ai (ai y.ro i ar) l) (ai (ai y.rl i ar) l))
  have⟨Y9,X9⟩:=y7 (l.XC L) (l.XC X8);have B9:=H (show Bk B x.Q W (w8.setCell ?H (.slice o ?C r)) by refine B8.trans (Bk.ofGrown q (i.XC k) (.inl rfl) ar ar y.bp (Fx z B8.bel.size) (au (Q6 w8 x.P) 9 (.slice o ?C r))))
  have F:=H (show∀V:World,V.heap[Y]?=some (.cells (rC f).toArray 244)->V.cell? (Qz Y 0)=some (U f.base)/\V.cell? (Qz Y 1)=some (I f.first)/\V.cell? (Qz Y 2)=some (I f.ext)/\V.cell? (Qz Y 3)=some (I f.pages)/\V.cell? (Qz Y 4)=some (I f.st)/\V.cell? (Qz Y 5)=some (I f.rq)from λV hV=>by refine⟨?_,?_,?_,?_,?_,?_⟩<;>(simp only[QC,hV];rfl))
  clear o8 g8 i q l P9 k k7 g7;go_cut [10] (λa w'=>a=J Y 0/\w'=w8.setCell ?H (.slice o ?C r));case first=>
   refine rh (S:=λT=>T.cell? (Qz Y 0)=some (U f.base)/\T.cell? (Qz Y 1)=some (I f.first)/\T.cell? (Qz Y 2)=some (I f.ext)/\T.cell? (Qz Y 3)=some (I f.pages)/\T.cell? (Qz Y 4)=some (I f.st)/\T.cell? (Qz Y 5)=some (I f.rq)) ?_;have i:=F.out _ N;(iterate 4 (refine py i ?_;simp only[f0,f1,Nat.reduceAdd,lz,l0,ls]));refine PX 5 i ?_;refine lZ [4,6] λi9 l=>?_;rcases(by simpa using l:i9=4\/i9=6)with l|l
   ·subst l;refine cw λK' k=>?_;go_simp;refine k _ _ ⟨i,?_⟩;clear k K';refine po 6 λK' k=>?_
    go_simp;have q:=F.out _ Y7;refine k _ _ ⟨q,?_⟩;clear i;have i:=q;clear k K';refine gu 7 ?_;refine ur e8 ⟨F _ L,?_⟩;clear i;have i:=F.out _ L;(iterate 2 refine PX 8 i ?_);refine po 10 λK' k=>?_;go_simp;refine k _ _ ⟨F _ Y9,?_⟩;clear i;clear k K';refine bY ?_;go_wp2_with fail
    go_meet;exact⟨rfl,rfl⟩
   subst l;refine cw λK' k=>?_;go_simp;have q:=F.out _ Y7;refine k _ _ ⟨q,?_⟩;clear i;have i:=q;clear k K';refine po 4 λK' k=>?_
   go_simp;refine k _ _ ⟨i,?_⟩;clear k K';refine gu 7 ?_;refine ur e8 ⟨F _ L,?_⟩;clear i;have i:=F.out _ L;(iterate 2 refine PX 8 i ?_);refine po 10 λK' k=>?_;go_simp;refine k _ _ ⟨F _ Y9,?_⟩;clear i;clear k K';refine bY ?_;go_wp2_with fail
   go_meet;exact⟨rfl,rfl⟩
  case rest=>
  obtain⟨rfl,rfl⟩:=hcut;clear c9 a0 q8 f8 e8;obtain⟨l,i⟩:∃l:Sm,l={x with rv:=.slice o ?C r,ov:=x.ov,lv:=x.lv}:=⟨_,rfl⟩;have L:l.P=x.P:=by rw[i]
  have N:l.Q=x.Q:=by rw[i]
  have O:l.ov=x.ov:=by rw[i]
  have b9:=H (show∀g,l.ov.ownBlock=some g->g<(w8.setCell ?H (.slice o ?C r)).heap.size from λg hg=>by rw[<-i]at S9;have⟨_,c,hc⟩:=aF S9.ro hg;exact ag hc)
  obtain⟨y,k⟩:∃y:Hs,y={j with rg:=j.rg++[f],row:=j.row,rel:=j.rel}:=⟨_,rfl⟩;obtain⟨A,q⟩:∃A:Nat->Bool,A=λb=>decide (b/1024<s) || decide (s+?G<=b/1024):=⟨_,rfl⟩
  have d9:=H (show v=(some (?E*1024),{y with rel:=y.rel.filter A}) by rw[k,q,M,b7])
  have c0:=H (show y.rel=j.rel by rw[k]);rw[<-k,<-i]at S9;have⟨e0,a0,a1⟩:=Qe q L N;generalize w8.setCell ?H (.slice o ?C r)=V9 at S9 B9 X9 Y9 b9⊢;clear i k q L N O;have⟨la,lc,i⟩:=aK S9.rl;have⟨L,k⟩:=Qa y.rel.length;have g6:L<=900:=by rw[<-k,c0];exact d7
  have e1:V9.cell? (Qz x.P 11)=some (.slice la L lc):=by rw[<-k,<-i,<-a0.out];exact S9.cell 11 _ rfl
  have⟨c1,HL⟩:=y7 i k;have YE:=H (show∀V:World,V.heap[Y]?=some (.cells (rC f).toArray 244)->V.cell? (Qz Y 0)=some (U ((?E*1024:Nat):Int))/\V.cell? (Qz Y 2)=some (I ?B)from λV hV=>by
   rw[b7]at hV;refine⟨?_,?_⟩;·simp only[QC,hV];rfl
   simp only[QC,hV];simp[rC,Rg9.ext])
  have⟨i0,c2,c3,c4,c5⟩:=G0 iY;clear i k;go_wp2;go_loopw [11,124] (λv i a=>∃k:Nat,k<=L/\i=I k/\Hid (a.ownsRow V9.heap.size 24 1 v ((y.rel.take k).filter A).length (Us ((y.rel.take k).filter A)))/\Hid (D V9 a)) (λ_ i _=>L-(intOf i).toNat);exact⟨0,aa,rfl,H ⟨rfl,.inl ⟨rfl,rfl⟩⟩,H th⟩
  obtain⟨k,hk,rfl,OQ,BQ⟩:=hrel;have⟨M,N,e2⟩:=aK OQ;subst e2;by_cases e3:k<L
  ·obtain⟨b,hb⟩:∃b,y.rel[k]?=some b:=⟨_,Fy (by rw[HL];exact e3)⟩;obtain⟨G2,rfl⟩:=cr (c1.out▸S9.rl) (by rw[HL];omega);have d0:=NI BQ (bC (c1.out▸S9.rl) k (U b) (by simp[Us,hb]));have d1:b<289792:=b6.out b (by rw[<-c0.out];exact FM hb);have⟨_,y2⟩:=YE.out _ (ae Y9 BQ);refine(let_mvar%?F:=if A b then[b]else[];?_);have HN:=H (show(y.rel.take (k+1)).filter A=(y.rel.take k).filter A++?F by rw[F_,hb,Hl];simp only[IQ,List.filter_cons,List.filter_nil])
   have a6:((y.rel.take k).filter A).length<=900:=by have:=Hb A (y.rel.take k);have h2:=List.length_take_le k y.rel;omega
   generalize (y.rel.take k).filter A=q at*;have F:A b=(decide (b/1024<s) || decide (s+?G<=b/1024)):=(by rw[e0]);have⟨O8,B8⟩:=y7 (OQ.alloc (.cells #[U b] 24)) (BQ.alloc BQ.size (.cells #[U b] 24));by_cases q1:b/1024<s
   ·have c7:(b:Int)/1024<(s:Int):=Z;have A2:=H (show ?F=[b] by rw[F,G8 q1];rfl);go_wp2_with (at_builtin;refine Ib _ rfl _ _ 37 rfl V9.heap.size 24 i0 (U 0) 1 8 underlying37 c2 c3 c4 c5 rfl Z _ _ _ rfl O8 _ 1 1 [U b] rfl rfl ?hc ?h1c ?b1 ?b2 ?b3 ?_);(case hc=>exact ek _ _ _ _ bH);(case h1c=>intro u hu;simp at hu;subst hu;rfl);(case b1=>unfold maxLen;omega);(case b2=>omega);(case b3=>exact B8.size);intro v1 w9 O a2 _;have a3:=H (IT O (B8.grown a2 B8.size (cI O8)));go_wp2;go_roundw;(exact⟨k+1,Z,aY,H (by rw[HN,A2,FC,k_];exact a3.1),H a3.2⟩);exact QE
   have c7:¬((b:Int)/1024<(s:Int)):=Z;by_cases q2:s+?G<=b/1024
   ·have c8:(s:Int)+?B<=(b:Int)/1024:=Z;have A2:=H (show ?F=[b] by rw[F,G8 q2,Bool.or_true];rfl);go_wp2_with (at_builtin;refine Ib _ rfl _ _ 37 rfl V9.heap.size 24 i0 (U 0) 1 8 underlying37 c2 c3 c4 c5 rfl Z _ _ _ rfl O8 _ 1 1 [U b] rfl rfl ?hcB ?h1cB ?b1B ?b2B ?b3B ?_);(case h1cB=>rfl);(case b1B=>unfold maxLen;omega);(case b2B=>omega);(case b3B=>(have:=BQ.size;omega));intro v1 w9 O a2 _;have a3:=H (IT O (B8.grown a2 B8.size (cI O8)));go_wp2;go_roundw;(exact⟨k+1,Z,aY,H (by rw[HN,A2,FC,k_];exact a3.1),H a3.2⟩);exact QE
   have c8:¬((s:Int)+?B<=(b:Int)/1024):=Z;have A2:=H (show ?F=[] by rw[F,GR q1,GR q2];rfl);go_wp2;go_roundw;(exact⟨k+1,Z,aY,H (by rw[HN,A2,Gl];exact OQ),BQ⟩);exact QE
  obtain rfl:k=L:=Z;have e4:=H (show y.rel.take k=y.rel from Ge (by rw[HL];exact gi));rw[e4]at OQ⊢;have⟨q,a3,c7,c8⟩:=Qf (S9.below BQ) (show Bk B x.Q W wr from a1.out▸(S9.bkB (a1.out▸B9.out) z BQ)) (ae X9 BQ) (ae Y9 BQ);have g9:wr.cell? (Qz x.P 11)=some l.lv:=(by rw[<-a0.out];exact q.cell 11 _ rfl);have f11:wr.frozen? (Qz x.P 11)=false:=(by rw[<-a0.out];exact q.boxF 11);generalize a6:(y.rel.filter A).length=O at OQ⊢;have e5:=H a6;have F:Ky (· =240) wr (wr.setCell (Qz l.P 11) (.slice M O N)):=Ky.grown q.box rfl (au (Q6 wr l.P) 11 (.slice M O N));have d1:(wr.setCell (Qz l.P 11) (.slice M O N)).heap[l.P]?=some (.cells (fN cf {l with rv:=l.rv,ov:=l.ov,lv:=.slice M O N} y.used) 240):=by rw[q.boxSet];rfl
  have d2:=H (show Sh B {l with rv:=l.rv,ov:=l.ov,lv:=.slice M O N} cf {y with rg:=y.rg,row:=y.row,rel:=y.rel.filter A} (wr.setCell (Qz l.P 11) (.slice M O N))from
   q.books (F.more (λt ht=>.inl ht)) l.rv l.ov (.slice M O N) _ _ _ d1 (ai q.rg F) (ai q.ro F) (by rw[e5];exact dm (ai OQ F) (Fx z B9.bel.size)))
  have⟨d3,a2,d4⟩:=Qe (show Bk B l.Q W (wr.setCell (Qz l.P 11) (.slice M O N))from q.bkP (a1.out▸a3.out) z (au (Q6 wr l.P) 11 (.slice M O N))) (F.XC c7) (F.XC c8);have d5:=H (show l_ {l with rv:=l.rv,ov:=l.ov,lv:=.slice M O N}from λg hg a=>by have w:=b9.out g hg;have h2:=(aF OQ a).1;omega)
  have⟨y0,_⟩:=YE.out _ d4;have e9:wr.setCell (Qz l.P 11) (.slice M O N)=wr.setCell (Qz x.P 11) (.slice M O N):=(by rw[a0]);rw[e9]at d2 d3 a2 d4 y0;go_wp2_with (refine eG a2 ?_);refine fM (aw a2 _) underlying94 ?_;rw[d9];exact⟨{l with rv:=l.rv,ov:=l.ov,lv:=.slice M O N},rfl,a0,a1,d5,d2.off81 a2 _,(a1.out▸d3.out).loc (aj _ R _) (by rw[HR];exact gi) HQ z⟩
section
variable {r:Rg9}{B Q cap g i j n:Nat}{cf:Cf}{h:Hs}{W W':World}{v:Value}{m:Nat->Option (Bool×List Int)}{is l:List Nat}
def mo:∀k,bm (λ_=>none) 0 k=0
 |0=>rfl
 |k+1=>by simp[bm,mo k]
def ty(n bud){w:QM}:
  Calls prog 49 #[I n,I bud] w λe a=>∃S M,e=QJ (J S 0)/\Im S M 0 n bud (λ_=>none) a/\D w a/\w.heap.size<=S/\w.heap.size<=M/\S≠M:=by
 let b:=@run_makeMap prog;go_wp2;go_ret;refine⟨w.heap.size+1,w.heap.size,rfl,⟨by rw[<-aO w (.map #[] 0)];exact XD,.map [],((World.ownsMap_made w prog 3 ev).alloc _).mono aa,by rw[mo];rfl,λk c=>?_,λk c=>?_⟩,ph.alloc (by rw[aO];omega) _,Z,Z,Z⟩;.rfl
 rfl
def AT(m:Nat)(c:m<=16)(w:QM):
  Calls prog 148 #[U 1,U m] w λe b=>e=QJ (.tuple #[U 0,U m])/\b=w:=by
 have a:=H (product.mul64 1 m Z Z w);rw[GF,Nat.div_eq_of_lt Z,H4 Z]at a;go_in;go_wp2_with fail;refine(a).mono ?_;rintro e b⟨rfl,rfl⟩;go_wp2
 go_ret2
 exact QB
def vR(g l a cap:Nat)(c:l<=cap):∀w:QM,(Instr.slice 25 (Vl g a cap) none (some (I l)) none).run prog w=.ok (Vl g l cap) w:=by
 intro w;let h:=run_slice_h (P:=prog) w 25 (some (Qz g 0)) a cap underlying25 .i64 (l:Int) Z Z;let b:∀w:QM,(sizeOf (prog.elem 25)).run prog w=.ok 1 w:=λw=>E
 rw[h,b];simp[sliced,Result.andThen,Addr.add]
def mY(m k a:Nat)(b:List Int)(c:b.length=m)(e:k+a<=m)(d:b.take k=List.replicate k (-1)):∃c:List Int,splice (Ns .i64 b) k (Ns .i64 (List.replicate a (-1)))=Ns .i64 c/\c.length=m/\c.take (k+a)=List.replicate (k+a) (-1):=by
 refine⟨b.take k++(List.replicate a (-1)++b.drop (k+a)),?_,?_,?_⟩;.simp[splice,Ns]
 .simp;omega
 rw[d,<-GJ,List.replicate_append_replicate,Iz bH,Ge bH]
theorem vB(q)(m:Nat)(w)(R:m<=16)(p:RowV w q 3 (Ns .i64 [-1])):
  Calls prog 102 #[Vl q 1 1,I m] w λe y=>∃g,e=QJ (Vl g m m)/\RowV y g 3 (Ns .i64 (List.replicate m (-1)))/\w.heap.size<=g/\D w y:=by
 have T:=H (AT m R w);have V:=λW=>BF m Z W
 have⟨g,n⟩:=Qb w.heap.size;refine(let_mvar%?A:=w.alloc (.cells (madeCells #[I 0] m) 3);?_);have s:D w ?A:=(Fu _ w).alloc gi _;refine(let_mvar%?B:=List.replicate m;?_);have u:(?A).heap[g]?=some (.cells (Ns .i64 (?B 0)).toArray 3):=by rw[<-si,n];exact dD _ _
 have⟨c,t⟩:=Qb (Nat.min 1 m);have b:c=min 1 m:=t;refine(let_mvar%?D:=List.replicate c (-1);?_);have⟨N,o,a,k⟩:=ii ?A (some (Qz g 0)) (some (Qz q 0)) m m 1 1 g 0 (Ns .i64 (?B 0)) u (Ns .i64 (?D)) (by rw[NM,Gc];exact t) (λO=>⟨rfl,_,rfl,λj v hv=>by
  have d:c=1:=by rw[NM,Gc]at O;omega
  rw[d]at hv;have:=mU (p.below s p.lt) 0 1 bH j v (by simpa using hv);exact this⟩) (by rw[NM,NM];simp;omega) (jU)
 rw[show(Ns .i64 (?D)).length=c by rw[NM,Gc]]at o;have⟨B,f,l,d⟩:=mY m 0 c (?B 0) bH Z bH;rw[f]at a;rw[Oi]at d;have⟨F,G⟩:=y7 (show D w N/\N.heap[g]?=some (.cells (Ns .i64 B).toArray 3)/\B.length=m/\B.take c=?D from⟨below_grown s k Z,a,l,d⟩) n;have t1:¬((m:Int)<0):=Z;have t2:¬((9223372036854775807:Int)<(m:Int)):=Z;have P:=H b;clear s u k a f l d p t b;go_in;go_wp2_with fail;refine(T).mono ?_;rintro e y⟨rfl,rfl⟩;rw[n]at o;clear n;go_wp2;rw[<-G.out];go_loopw [8] (λi wr=>∃(k:Nat)(s:List Int),k<=m/\(0<m->0<k)/\i=I k/\Hid (D y wr/\wr.heap[g]?=some (.cells (Ns .i64 s).toArray 3)/\s.length=m/\s.take k=List.replicate k (-1))) (λi _=>m-(intOf i).toNat);exact⟨c,B,by have:=P.out;omega,by have:=P.out;omega,rfl,F⟩
 obtain⟨k,s,hk,X,rfl,b⟩:=hrel;by_cases K:k<m
 ·have⟨a,n⟩:=Qb (Nat.min k (m-k));have u:a=min k (m-k):=n;have⟨dp,Y,z⟩:=iy g k m m Z gi;have A:=z K;subst A;refine(let_mvar%?C:=List.replicate a (-1);?_);have⟨Q,L,x,t⟩:=ii wr.drew (some (Qz g k)) (some (Qz g 0)) (m-k) (m-k) k m g k (Ns .i64 s) b.2.1 (Ns .i64 (?C)) (by rw[NM,Gc];exact n) (λO=>⟨rfl,_,rfl,λj v hv=>by
   have p:RowV wr.drew g 3 (Ns .i64 s):=rowOf b.2.1;refine mU p 0 a (by rw[b.2.2.1];omega) j v ?_;rw[IE];have:s.take a=?C:=by have e:=congrArg (List.take a) b.2.2.2;rw[List.take_take,List.take_replicate,Hz Z]at e;exact e
   rw[this];exact hv⟩) (by rw[NM,NM,Gc,b.2.2.1];omega) (jU)
  rw[show(Ns .i64 (?C)).length=a by rw[NM,Gc]]at L;have⟨p,f,l,d⟩:=mY m k a s b.2.2.1 Z b.2.2.2;rw[f]at x;have HN:=H (show D y Q/\Q.heap[g]?=some (.cells (Ns .i64 p).toArray 3)/\p.length=m/\p.take (k+a)=List.replicate (k+a) (-1)from⟨below_grown b.1.drew t (by have:=G.out;omega),x,l,d⟩);have M:0<a/\k+a<=m:=(by have:=X Z;omega);have hw:IntKind.i64.wrap ((k:Int)+(a:Int))=(k:Int)+(a:Int):=(by rw[Hh];omega);clear b t x f l d n u z o;go_wp2;refine rh (S:=λ_=>True) ?_;have n:=trivial;(iterate 7 (refine py n ?_;simp only[f0,f1,Nat.reduceAdd,lz,l0,ls]));refine cn (r:=7) E ?_;refine dM rfl E (λK' t=>?_);go_simp;refine t _ _ ⟨trivial,?_⟩;clear t K';refine pz 8 (I ((k:Int)+(a:Int))) n ?_;refine pk 9 (I ((k:Int)+(a:Int))) n ?_;refine bY ?_;go_wp2;go_roundw;(exact⟨k+a,p,M.2,Z,aY,HN⟩);exact QE
 obtain rfl:m=k:=Z;have a:=H (show RowV wr g 3 (Ns .i64 (?B (-1))) by have:=rowOf b.2.1;rwa [<-b.2.2.2,<-b.2.2.1,G9])
 have n:=H b.1;clear b o;go_wp2;go_ret;exact⟨g,rfl,a,by have:=G.out;omega,n⟩
def fo(l:List Rg9){q t:Nat}(a:l[q]?=some r)(b:t<6):(eM l)[q*6+t]?=(rC r)[t]?:=eC rC 6 (λ_=>rfl) l q r a t b
def O_(l:List Rg9)(m:l[i]?=some r)(c d:Int):eM (l.set i {r with st:=c,rq:=d})=((eM l).set (i*6+4) (I c)).set (i*6+5) (I d):=by
 let f:=(Fz.1 m).1;apply Ho;intro k;by_cases o:k<l.length*6
 .obtain⟨q,t,n,b,rfl⟩:∃q t,q<l.length/\t<6/\k=q*6+t:=⟨k/6,k%6,Z,Z,Z⟩;simp only[Gr,Gj,dS];by_cases e:q=i
  .subst e;rw[fo _ (List.getElem?_set_self f) b,fo l m b];have:t=0\/t=1\/t=2\/t=3\/t=4\/t=5:=Z;rcases this with rfl|rfl|rfl|rfl|rfl|rfl;.rw[GO Z,GO Z];rfl
   .rw[GO Z,GO Z];rfl
   .rw[GO Z,GO Z];rfl
   .rw[GO Z,GO Z];rfl
   .rw[GO Z,GP rfl,GP Z];rfl
   rw[GP rfl,GP Z];rfl
  obtain⟨g,a⟩:∃g,l[q]?=some g:=⟨_,Fy n⟩;let j:(l.set i {r with st:=c,rq:=d})[q]?=some g:=by rwa[List.getElem?_set_ne Z]
  rw[fo _ j b,fo l a b,GO Z,GO Z]
 rw[FJ (by rw[dS];simp;omega),FJ (by simp[dS];omega)]
def Inv.mapSet(a:Inv cf h)(g:h.rg[i]?=some r)(f:Rg9->Rg9):(h.rg.map λx=>if x.base=r.base then f x else x)=h.rg.set i (f r):=by
 let j:=(Fz.1 g).1;apply Ho;intro k;rw[Gv];by_cases e:k=i;.subst e;rw[g,List.getElem?_set_self j];simp
 rw[List.getElem?_set_ne Z];cases o:h.rg[k]? with
 |none=>rfl
 | some q=>
  let l:q.base≠r.base:=λt=>by
   let m:=FM o;have:=a.one m (FM g) t;subst this;let⟨p,b⟩:=Fz.1 o;let⟨s,c⟩:=Fz.1 g;rcases Ie k i with d|d|d;.have:=II.1 a.apart k i p s d;rw[b,c]at this;let n:=a.rgs q m;unfold Rg9.ext at this n;omega
   .exact e d
   have:=II.1 a.apart i k s p d;rw[b,c]at this;let n:=a.rgs q m;unfold Rg9.ext at this n;omega
  simp[l]
def Sh.setRange{x V}(a:Sh B x cf h V){G}(hv:x.rv=Vl G h.rg.length cap)(l:h.rg[i]?=some r)(b d:Int):
  Sh B x cf {h with rg:=h.rg.set i {r with st:=b,rq:=d}} ((V.setCell (Qz G (i*6+4)) (I b)).setCell (Qz G (i*6+5)) (I d))/\Ky (· =244) V ((V.setCell (Qz G (i*6+4)) (I b)).setCell (Qz G (i*6+5)) (I d))/\V.grownBy ((V.setCell (Qz G (i*6+4)) (I b)).setCell (Qz G (i*6+5)) (I d)) (some G):=by
 let f:=a.rg;rw[hv]at f;let n:=(Fz.1 l).1;let⟨p,j⟩:=di f;let e:V.grownBy ((V.setCell (Qz G (i*6+4)) (I b)).setCell (Qz G (i*6+5)) (I d)) (some G):=au (au (Q6 V G) _ _) _ _;let k:Ky (· =244) V _:=Ky.grown j rfl e;let o:=dP (dP f (i*6+4) (by rw[dS];omega) (I b)) (i*6+5) (by rw[Gj,dS];omega) (I d);refine⟨⟨k.XC a.box,a.bp,a.bq,λg e=>a.bg g (cV (a.sp.qEq k ar) e),a.ds.ky k ar,a.sp.ky k ar ar ar,ai a.sl k,ai a.wt k,λc m=>⟨(a.wm c m).1.ky k ar,(a.wm c m).2.ky k ar⟩,?_,ai a.ro k,ai a.rl k⟩,k,e⟩;show World.ownsRow _ B 244 6 x.rv _ _;rwa[hv,O_ h.rg l,Gj]
def Eg{x W0}(a:Sh B x cf h W){G}(b:x.rv=Vl G n cap)(k:Bk B x.Q W0 W)(d:B<=W0.heap.size)(g:W.grownBy W' (some G)):Bk B x.Q W0 W':=by
 let⟨l,e⟩:=a.qrow;let f:x.rv.ownBlock=some G:=by rw[b];rfl
 let⟨i,c,j⟩:=aF a.rg f;exact k.trans (Bk.ofGrown j e (.inr (.inr (.inr (.inl rfl)))) ar ar i (Fx d k.bel.size) g)
def gF(cf)(o:fL):∀(l:List fL)(h:Hs)(a:List An4),NJ cf (l++[o]) h a=((bU cf (NJ cf l h a).1 (NJ cf l h a).2 o).2,(NJ cf l h a).2++[(bU cf (NJ cf l h a).1 (NJ cf l h a).2 o).1])
 |[],h,a=>rfl
 |p::l,h,a=>by
  show NJ cf (l++[o]) _ _=_
  rw[gF cf o l]
  rfl
def ft(cf):∀(l:List fL)(h:Hs)(a:List An4),(NJ cf l h a).2.length=a.length+l.length
 |[],h,a=>rfl
 |p::l,h,a=>by
  show(NJ cf l _ _).2.length=_
  rw[ft cf l]
  simp
  omega
def jp(cf:Cf)(b:1<=cf.fifo):∀(l:List fL)(h:Hs)(a:List An4)(k:Nat),Inv cf h->Few k h->Inv cf (NJ cf l h a).1/\Few (k+l.length) (NJ cf l h a).1
 |[],h,a,k,i,f=>⟨i,f⟩
 |p::l,h,a,k,i,f=>by
  let⟨c,f1⟩:=i.step b f a p
  have:=jp cf b l _ (a++[(bU cf h a p).1]) (k+1) c f1
  show Inv cf (NJ cf l _ _).1/\Few (k+(l.length+1)) (NJ cf l _ _).1
  rw[show k+(l.length+1)=k+1+l.length by omega]
  exact this
abbrev Aw:=An4×Value
def aC(y:Aw):List Value:=[I y.1.code,U y.1.addr,I y.1.size,y.2]
def fZ(l:List Aw):List Value:=l.flatMap aC
def ss(l:List Aw)(y:Aw):fZ (l++[y])=fZ l++aC y:=by simp[fZ]
structure Rs(B Q:Nat)(W:QM)(l:List Aw)(v:QN):Prop where
 row:W.ownsRow B 94 4 v l.length (fZ l)
 dat:∀y∈l,W.ownsRow B 5 1 y.2 y.1.data.length (Ns .u8 y.1.data)/\∀g,y.2.ownBlock=some g->¬e_ Q W g
 dis:l.Pairwise λy z=>∀g,y.2.ownBlock=some g->z.2.ownBlock≠some g
def za{a:Nat}{i:List QN}(h:W.ownsRow a 5 1 v n i)(j:∀g,v.ownBlock=some g->¬e_ Q W g)(k:Bk B Q W W'):W'.ownsRow a 5 1 v n i/\∀g,v.ownBlock=some g->¬e_ Q W' g:=by
 refine⟨⟨h.1,?_⟩,λg l e=>?_⟩
 .rcases h.2 with c|⟨f,cap,b,rfl,d,c,m⟩;.exact .inl c
  exact .inr ⟨f,cap,b,rfl,d,k.by5 f b _ c (j f rfl),m⟩
 rcases k.pg g e with d|d;.exact j g l d
 let⟨_,c,b⟩:=aF h l;have:=ag b;omega
def Rs.bk{C l}(r:Rs C Q W l v)(k:Bk B Q W W'):Rs C Q W' l v:=
 ⟨ai r.row k.ky (eB ar),λy a=>za (r.dat y a).1 (r.dat y a).2 k,r.dis⟩
def zo:(prog.info? 94).map (λi=>(i.zero,i.size,i.bytes))=some (some (.agg #[I 0,U 0,I 0,C]),4,48):=E
def pA{W:QM}(B:Nat)(v:QN)(l:List Aw)(y)(g:Nat)(c)(a:W.ownsRow B 94 4 v l.length (fZ l))(o:W.heap[g]?=some (.cells (aC y).toArray 94))(p:y.2.oneCell'=true)(A:l.length<=1000)(q:B<=W.heap.size):
  ∃d b,(Builtin.append_ #[33,33] 33 #[v,Vl g 1 c]).run prog W=.ok d b/\b.ownsRow B 94 4 d (l++[y]).length (fZ (l++[y]))/\W.grownBy b v.ownBlock:=by
 let⟨r,e,f,i,k⟩:=G0 zo;let m:∀j u,(aC y)[j]?=some u->W.cell? (((Qz g 0):Addr).add j)=some u:=λj u s=>by rw[Addr.add_mid,Oi,GT _ _ j _ _ _ o];simpa using s
 let t:∀u∈aC y,u.oneCell'=true:=λu n=>by
  simp only[aC,F4,Gp,or_false]at n;rcases n with rfl|rfl|rfl|rfl;.rfl
  .rfl
  .rfl
  exact p
 let⟨d,b,w,x,z,_⟩:=Ia (P:=prog) W B 33 33 94 r _ 4 48 underlying33 e f i k rfl Z v _ _ a (Qz g 0) 1 c (aC y) rfl m t (by unfold maxLen;omega) Z q;exact⟨d,b,w,by rwa[ss,FC],z⟩
def Bk.ofAns{f:Array QN}{i:Nat×Nat}{j:List QN}(d:W.ownsRow B 94 4 v n j)(e:W.heap[Q]?=some (.cells f 305 i))(g:W.grownBy W' v.ownBlock):Ky (· =94) W W'/\(∀g,e_ Q W' g->e_ Q W g)/\∀(a:Nat),a<=B->a<=W.heap.size->Below a W W':=by let k:Ky (· =94) W W':=Ky.grownO (λP b=>by obtain⟨_,c,l⟩:=aF d b;exact⟨c,94,_,l,rfl⟩) g;refine⟨k,λp c=>cV (k.XC e |>.trans e.symm) c,λa l m=>(Fu a W).grown g m (λP b=>Fx l (aF d b).1)⟩
def Byt(m:Nat->Option (Bool×List Int)):Prop:=∀k q,m k=some q->∀x∈q.2,0<=x/\x<=255
def okB(ys:List Int):Prop:=∀y∈ys,0<=y/\y<=255
def okB.get{ys}(h:okB ys)(i:Nat):0<=ys[i]?.getD 0/\ys[i]?.getD 0<=255:=by
 cases e:ys[i]? with
 |none=>simp
 |some y=>exact h y (FM e)
def Byt.put(h:Byt m)(p){x:Int}(d:0<=x/\x<=255):Byt (dZ m p x):=by
 intro k q a;unfold dZ at a;by_cases e:k=p/1024
 .subst e;rw[bV]at a;cases b:m (p/1024)with
  |none=>rw[b]at a;cases a
  |some r=>
   rw[b]at a;simp at a;subst a;intro z f;rcases List.mem_or_eq_of_mem_set f with c|c;.exact h _ _ b z c
   rwa[c]
 rw[aW _ _ _ _ e]at a;exact h k q a
def Byt.store{m}(h:Byt m)(a){ys}(b:okB ys):∀k,Byt (ay m a ys k)
 |0=>h
 |k+1=>(Byt.store h a b k).put _ (b.get k)
def Byt.fresh(h:Byt m)(p k:Nat):Byt (aT m p k):=by
 intro j q a;rw[cO]at a;split at a
 .injection a with a;subst a;intro x b;rw[List.eq_of_mem_replicate b];omega
 exact h j q a
def Byt.gone(h:Byt m)(p k:Nat):Byt (bQ m p k):=by
 intro j q a;rw[eb]at a;split at a;.cases a
 exact h j q a
def Byt.at(h:Byt m)(p):0<=bO m p/\bO m p<=255:=by
 unfold bO;cases a:m (p/1024)with
 |none=>simp
 |some q=>simp only[Hi,Ht];exact okB.get (λy b=>h _ _ a y b) _
def Byt.load(h:Byt m)(a n):okB (aH m a n):=by intro y b;unfold aH at b;simp only[FQ]at b;obtain⟨i,_,rfl⟩:=b;exact h.at _
def tT(cf){a}:okB (can cf a):=by
 intro y b;unfold can gI at b;simp only[FQ]at b;obtain⟨i,_,rfl⟩:=b;split;.omega
 have:=Dx (cx cf.key (a:Int)) i;omega
def wS(n:Nat):okB (List.replicate n 0):=λy a=>by rw[List.eq_of_mem_replicate a];omega
def tI{a:Hs}{c s:Nat}(e:cJ cf h c=some (s,a)):a.m=h.m\/a.m=aT h.m (aD c s) (dI c):=by
 unfold cJ at e;split at e;.injection e with e;injection e with d b;subst b;exact .inl rfl
 split at e;.cases e
 split at e;.cases e
 injection e with e;injection e with d b;subst d;subst b;exact .inr rfl
def Byt.small{cf c}: ∀(f:Nat){h:Hs},Byt h.m->Byt (bN cf c f h).2.m
 |0,h,b=>b
 | f+1,h,b=>by
  unfold bN
  cases e:cJ cf h c with
  |none=>exact b
  |some q=>
   let⟨s,a⟩:=q
   let d:Byt a.m:=by rcases tI e with g|g<;>rw[g];exact b;exact b.fresh _ _
   dsimp only
   split
   .exact d
   exact Byt.small f (h:={a with used:=a.used+1,st:=_}) d
def Byt.malloc(b:Byt h.m)(a):Byt (av cf h a).2.m:=by
 unfold av;split
 .let d:=Byt.small (cf:=cf) (c:=fD a) 2000 b;cases e:bN cf (fD a) 2000 h with
  | mk o f=>
   rw[e]at d;cases o with
   |none=>exact d
   |some q=>let⟨s,j⟩:=q;exact d.store _ (tT cf) 8
 dsimp only;split;.exact b
 split;.exact b
 split;.exact b
 exact b.fresh _ _
def Byt.release(b:Byt h.m)(c s j):Byt (bK h c s j).m:=by
 unfold bK;dsimp only;split;.exact b.gone _ _
 exact b
def Byt.freeS(b:Byt h.m)(c s j):Byt (aL cf h c s j).m:=by
 unfold aL;dsimp only;let a:=b.store (bh c s j) (wS (cy c)) (cy c);split
 .split;.exact a
  exact Byt.release (h:={m:=_,st:=_,rq:=_,mx:=_,ff:=_,rg:=_,row:=_,rel:=_,used:=_}) a _ _ _
 split;.exact a
 exact Byt.release (h:={m:=_,st:=_,rq:=_,mx:=_,ff:=_,rg:=_,row:=_,rel:=_,used:=_}) a _ _ _
def Byt.freeR(b:Byt h.m)(r):Byt (aJ cf h r).m:=by
 unfold aJ;dsimp only;split;.exact b.gone _ _
 exact b.gone _ _
def Byt.free(b:Byt h.m)(f:Fd):Byt (db cf h f).m:=by
 cases f with
 |slot c s j=>exact b.freeS c s j
 |range r=>exact b.freeR r
 |no _=>exact b
def Byt.realloc(b:Byt h.m)(p a):Byt (a_ cf h p a).2.m:=by
 let f:=b.malloc (cf:=cf) a;let g:∀d:Nat,Byt ((match av cf h a with
   |(none,c)=>((An4.no 1,c):An4×Hs)
   |(some q,c)=>(⟨0,q,0,[]⟩,db cf {c with m:=aZ c.m p q (min d a)} (aB {c with m:=aZ c.m p q (min d a)} p))).2.m):=λd=>by
  cases e:av cf h a with
  |mk o c=>
   rw[e]at f;cases o with
   |none=>exact f
   |some q=>exact Byt.free (h:={c with m:=aZ c.m p q (min d a)}) (Byt.store f _ (Byt.load f _ _) _) _
 unfold a_;dsimp only;split
 .cases e:av cf h a with
  |mk o c=>
   rw[e]at f;cases o with
   |none=>exact f
   |some q=>exact f
 split;.exact b
 .split;.exact b
  split;.exact b
  exact g _
 split;.exact b
 exact g _
def Byt.do(b:Byt h.m)(o:fL)(p)(f:okB o.ys):Byt (NQ cf h o p).2.m:=by
 let d:∀n:Nat,Byt ((match av cf h n with
   |(none,a)=>((An4.no 1,a):An4×Hs)
   |(some q,a)=>(⟨0,q,0,[]⟩,a)).2.m):=λn=>by
  let c:=b.malloc (cf:=cf) n
  cases e:av cf h n with
  |mk o a=>
   rw[e]at c;cases o with
   |none=>exact c
   |some q=>exact c
 unfold NQ;split;.exact d _
 split
 .split;.exact b
  exact d _
 split;.exact b.realloc _ _
 split
 .split;.exact b
  .split;.exact b
   exact b.freeS _ _ _
  exact b.freeR _
 split;.split<;>exact b
 split;.split<;>exact b
 split
 .dsimp only;split;.exact b.store _ f _
  exact b
 exact b
def Byt.step(b:Byt h.m)(an)(o:fL)(a:okB o.ys):Byt (bU cf h an o).2.m:=by
 unfold bU;split;.exact b.do o _ a
 split;.exact b
 exact b.do o _ a
def Byt.new(cf):Byt (aP cf).m:=λk q a=>by simp[aP]at a
def nr(r:Rg9)(x:Nat):Bool:=decide (r.first<=x/1024)&&decide (x/1024<r.first+r.ext)
def oY(B:Nat)(L r)(v:QP)(w y:Nat)(l:List Nat)(W:QM)(h:W.ownsRow B 24 1 (.slice v w y) l.length (Us l))(F:l.length<=100000)(f:∀x∈l,x<18446744073709551616)(b:Lc L r W):
  Calls prog 209 #[.slice v w y,.func (.func 164) #[J L 0] #[]] W λe W'=>D W W'/\((e=QJ (I (-1))/\∀x∈l,nr r x=false)\/∃k:Nat,k<l.length/\e=QJ (I k)/\nr r (l[k]?.getD 0)=true/\∀j,j<k->nr r (l[j]?.getD 0)=false):=by
 obtain⟨rfl,c⟩:=lA h;have⟨G,K,M⟩:=Qe c (λV(d:D W V)x(a:x<18446744073709551616)=>n_ L x r V (b.below d) a) f;clear c h f b;have⟨n,a⟩:=Qa l.length;rw[a]at F⊢;have p:=H a;clear a;go_wp2;go_loopw [8] (λi wr=>∃k:Nat,k<=n/\i=I k/\Hid (D W wr)/\Hid (∀j,j<k->nr r (l[j]?.getD 0)=false)) (λi _=>n-(intOf i).toNat);exact⟨0,aa,rfl,H th,H (λj c=>Z)⟩
 obtain⟨k,N,rfl,d,m⟩:=hrel;by_cases b:k<n
 ·obtain⟨g,rfl,a⟩:=G.out k (by rw[p];exact b);have o:=NI d a;have s:l[k]?.getD 0<18446744073709551616:=M.out _ (by rw[Fy (by rw[p];exact b)];exact Iw _);clear a;generalize a:l[k]?.getD 0=q at*;have z:=H a;clear a;have a:=H (K wr d q s);rw[show(decide (r.first<=q/1024)&&decide (q/1024<r.first+r.ext))=nr r q from rfl]at a;go_wp2_with fail;refine(a).mono ?_;rintro e V⟨rfl,t⟩;have A:=H (d.trans (t.mono d.size));clear t;cases a:nr r q with
  |true=>go_wp2;go_ret;exact⟨A,.inr ⟨k,b,rfl,by rwa[z],m⟩⟩
  | false=>
   have t:Hid (∀j,j<k+1->nr r (l[j]?.getD 0)=false):=(λj c=>by
    rcases Nat.lt_succ_iff_lt_or_eq.1 c with u|u;·exact m j u
    subst u;rw[z];exact a)
   clear m;go_wp2;go_roundw;(exact⟨k+1,Z,aY,A,t⟩);exact QE
 obtain rfl:k=n:=Z;go_wp2;go_ret;refine⟨d,.inl ⟨rfl,λx f=>?_⟩⟩;let⟨j,c⟩:=He f;let a:=(Fz.1 c).1;have:=m.out j (by rwa[<-p.out]);rw[c]at this;exact this
def dW(r:Rg9)(l:List Nat)(j:Nat):List Nat:=(l.take j).filter λx=>!nr r x
def jb(r)(l:List Nat)(j:Nat)(h:j<l.length):dW r l (j+1)=dW r l j++(if nr r (l[j]?.getD 0)then[]else[l[j]?.getD 0]):=by unfold dW;rw[F_,Hl,Fy h];congr 1;simp only[IQ,Ht,List.filter_cons,List.filter_nil];cases nr r l[j]<;>rfl
def kq(r)(l:List Nat)(k:Nat)(d:k<=l.length)(h:∀j,j<k->nr r (l[j]?.getD 0)=false):dW r l k=l.take k:=by unfold dW;rw[Il];intro x c;let⟨j,a⟩:=He c;let b:=(Fz.1 a).1;rw[Hm]at b;rw[Hf Z]at a;have:=h j Z;rw[a]at this;simp at this;rw[this];rfl
def nZ(r l j):(dW r l j).length<=j:=by unfold dW;have:=Hb (λx=>!nr r x) (l.take j);rw[Hm]at this;omega
def yG(r)(l:List Nat)(k j:Nat)(c:k<j)(d:j<=l.length)(a:nr r (l[k]?.getD 0)=true):(dW r l j).length<j:=by
 induction j with
 |zero=>omega
 |succ j b=>
  rw[jb r l j Z,FC];let f:=nZ r l j;by_cases e:k=j;.subst e;rw[GP a];simp;omega
  have:=b Z Z;split<;>simp<;>omega
structure Ct(g cap n:Nat)(l:List Nat)(is:List Nat)(j:Nat)(W:QM):Prop where
 row:∃c,W.heap[g]?=some (.cells c 24)/\c.size=cap/\(∀q,q<is.length->c[q]?=some (U ((is[q]?.getD 0:Nat):Int)))/\∀q,j<=q->q<n->c[q]?=some (U ((l[q]?.getD 0:Nat):Int))
def Ct.cell{g cap n l is j W}(h:Ct g cap n l is j W){q:Nat}(a:j<=q)(b:q<n):W.cell? (Qz g q)=some (U ((l[q]?.getD 0:Nat):Int)):=by let⟨c,d,f,i,e⟩:=h.row;rw[ac d];exact e q a b
def Ct.free(h:Ct g cap n l is j W)(q:Nat):W.frozen? (Qz g q)=false:=by let⟨c,a,_⟩:=h.row;simp[QD,a]
def Ct.anyC(h:Ct g cap n l is j W){q:Nat}(b:q<cap):∃v,W.cell? (Qz g q)=some v:=by let⟨c,a,d,_⟩:=h.row;rw[ac a];exact⟨_,Hw Z⟩
def Ct.same(h:Ct g cap n l is j W)(e:W'.heap[g]?=W.heap[g]?):Ct g cap n l is j W':=by let⟨c,a,b⟩:=h.row;exact⟨c,e.trans a,b⟩
def Ct.lt(h:Ct g cap n l is j W):g<W.heap.size:=by let⟨c,a,_⟩:=h.row;exact ag a
def Ct.skip(h:Ct g cap n l is j W):Ct g cap n l is (j+1) W:=by let⟨c,a,b,d,e⟩:=h.row;exact⟨c,a,b,d,λq i f=>e q Z f⟩
def Ct.put(h:Ct g cap n l is j W)(x:Nat)(o:is.length<=j)(p:j<n)(r:n<=cap):Ct g cap n l (is++[x]) (j+1) (W.setCell (Qz g is.length) (U x)):=by
 let⟨c,b,d,f,i⟩:=h.row;refine⟨c.setIfInBounds is.length (U x),by simp[World.setCell,FD,b],by simpa using d,λq k=>?_,λq s m=>?_⟩
 .rw[FK];by_cases e:is.length=q;.subst e;simp;omega
  rw[GO e];let a:q<is.length:=by simp at k;omega
  rw[f q a,Ga a]
 rw[FK,GO Z];exact i q Z m
def EK(n:Nat)(h:n<=1048576)(w:QM):(Instr.makeSlice 22 (I (n:Int)) (I (n:Int))).run prog w=.ok (Vl w.heap.size n n) (w.alloc (.cells (madeCells #[Value.int .u8 0] n) 5)):=
 run_make_row' 22 5 (.int .u8 0) 1 underlying22 E rfl .i64 .i64 n Z Z w
def wi(n:Nat)(w:QM):RowV (w.alloc (.cells (madeCells #[Value.int .u8 0] n) 5)) w.heap.size 5 (Ns .u8 (List.replicate n 0)):=by rw[mR];exact⟨_,ao w _,bH,λi a=>bH⟩
def Hp.setQ{y d}(i:Hp B y d cf h W){c:Nat}(v:c<12){mix fifo}(q:Qr W' (y.qm c) (y.qr c) (y.qg c) (y.qq c) cf.fifo mix fifo)(b:But (Qs (y.qr c) (y.qg c) (y.qq c)) W W'):
  Hp B y d cf {h with mx:=dB h.mx c mix,ff:=dB h.ff c fifo} W'/\Bi B W W':=by
 let O:=i.wt c v;let bq:=i.ap.bq c v;let z:∃x,W.heap[y.qr c]?=some (.cells x 3):=by obtain⟨x,u,_⟩:=O.mx.2;exact⟨x,u⟩
 let m:∃x,W.heap[y.qq c]?=some (.cells x 3):=by obtain⟨ps,o,S,_,⟨x,u,_⟩,_⟩:=O.qu;exact⟨x,u⟩
 let j:∃x,W.heap[y.qg c]?=some (.cells x 192):=by obtain⟨ps,o,S,u,_⟩:=O.qu;exact⟨_,u⟩
 let⟨x1,z⟩:=z;let⟨x2,m⟩:=m;let⟨x3,j⟩:=j;let T:∀g F t f,W.heap[g]?=some (.cells F t f)->¬(t=3\/t=192)->¬Qs (y.qr c) (y.qg c) (y.qq c) g:=λg F t f l A n=>by
  rcases n with e|e|e;.rw[e,z]at l;cases l;exact A (.inl rfl)
  .rw[e,j]at l;cases l;exact A (.inr rfl)
  rw[e,m]at l;cases l;exact A (.inl rfl)
 let V:∀g G K,W.heap[g]?=some (.map G K)->¬Qs (y.qr c) (y.qg c) (y.qq c) g:=λg G K l n=>by
  rcases n with e|e|e;.rw[e,z]at l;cases l
  .rw[e,j]at l;cases l
  rw[e,m]at l;cases l
 let k:Ky (λt=>t=3\/t=192) W W':=⟨b.os,b.tape,b.output,b.size,λg F t f l A=>by rwa[b.block g (ag l) (T g F t f l A)]⟩;let L:Below B W W':=⟨b.os,b.tape,b.output,b.size,λg l=>b.block g (FG l i.bW) (λn=>by rcases n with e|e|e<;>omega)⟩;let Y:W'.heap[y.M]?=W.heap[y.M]?:=by obtain⟨a,⟨G,K,w,_⟩,_⟩:=i.sp.map;exact b.block _ (ag w) (V _ _ _ w)
 let hR:W'.heap[y.R]?=W.heap[y.R]?:=by let⟨G,K,w⟩:=i.mp.typ;exact b.block _ (ag w) (V _ _ _ w)
 refine⟨⟨i.ap,Fx i.bW L.size,i.box.ky k ar,i.ds.belowB L i.ap.da,i.sp.ky k ar Y,i.pg.ky k ar,i.bf,
 λc s v P=>k.XC (i.sl c s v P),λc s v P=>cL (i.rw c s v P) k ar,λa s' j' p Q R=>k.XC (i.sm a s' j' p Q R),
 λa p=>?_,i.mp.same hR,i.lo,λr hr=>by obtain⟨g,u,w,h3⟩:=i.lb r hr;exact⟨g,u,w,k.XC h3⟩,i.li,i.ro.ky k ar,ai i.rl k,i.rr,i.tb.belowB L i.ap.b0⟩,L,k.more (λt e=>by rcases e with rfl|rfl<;>(unfold hI;decide))⟩
 by_cases e:a=c;.subst e;show Qr W' _ _ _ _ _ (dB h.mx a mix a) (dB h.ff a fifo a);rwa[cP,cP]
 show Qr W' _ _ _ _ _ (dB h.mx c mix a) (dB h.ff c fifo a);rw[eF e,eF e];let M:=i.wt a p;let⟨i1,i2,i3,i4⟩:=i.ap.iq c a v p (λf=>e f.symm);let⟨j1,j2,j3,j4⟩:=i.ap.iq a c p v e;obtain⟨ps,o,S,N,⟨x,X,_⟩,_⟩:=M.qu;apply M.but b (T _ _ _ _ M.mx.1 ar)
 .intro n;rcases n with e|e|e;.exact i1 e.symm
  .let⟨xx,u,_⟩:=M.mx.2;rw[e,j]at u;cases u
  exact j2 e
 .intro n;rcases n with e|e|e;.rw[e,z]at N;cases N
  .exact i4 e.symm
  rw[e,m]at N;cases N
 intro n;rcases n with e|e|e;.exact i2 e.symm
 .rw[e,j]at X;cases X
 exact i3 e.symm
def Df(cf y d u)(c k:Nat)(e:c<12)(f:k<3):boxF cf y d u (79+c*3+k)=Eu cf y c k:=by unfold boxF;rw[GO Z,GO Z,GP Z];let a:(79+c*3+k-79)/3=c:=Z;let b:(79+c*3+k-79)%3=k:=Z;rw[a,b]
def Hp.qAt{y d}(a:Hp B y d cf h W)(c:Nat)(b:c<12):W.cell? (Qz y.P (79+c*3+2))=some (if cf.mix=0 then .iface 84 (J (y.qg c) 0)else .iface 83 (J (y.qm c) 0)):=by apply a.cell _ Z _;rw[Df cf y d h.used c 2 b Z];rfl
def Ez(B:Nat)(y:Ly)(d:Dy)(cf:Cf)(h:Hs)(c:Nat)(x dd:Int)(W:World)(e:Ending)(W':World):Prop:=e=.returned (I (ed cf.fifo (h.mx c) (h.ff c) x dd).2.2)/\Hp B y d cf {h with mx:=dB h.mx c (ed cf.fifo (h.mx c) (h.ff c) x dd).1,ff:=dB h.ff c (ed cf.fifo (h.mx c) (h.ff c) x dd).2.1} W'/\Bi B W W'
def Of(B y d cf h)(c:Nat)(x dd W)(f:Hp B y d cf h W)(a:(h.mx c).length=cf.mix)(i:mE cf)(g:c<12)(j:cf.mix=0):
  QA 338 #[J (y.qg c) 0,I x,I dd] W (Ez B y d cf h c x dd W):=by
 refine(OU x dd W (f.wt c g) (by have:=i.fifo;omega) (by rwa[a])).mono ?_;rintro e W'⟨z,rfl,rfl,q,b⟩;exact⟨rfl,f.setQ g q b⟩
def xI(B y d cf h)(c:Nat)(x dd W)(f:Hp B y d cf h W)(a:(h.mx c).length=cf.mix)(g:mE cf)(i:c<12)(j:cf.mix≠0):
  QA 336 #[J (y.qm c) 0,I x,I dd] W (Ez B y d cf h c x dd W):=by
 refine(Dg x dd W (f.wt c i) (λe=>j (by rw[<-a,e];rfl)) (by rw[a];have:=g.mix;omega) (by have:=g.fifo;omega)).mono ?_;rintro e W'⟨z,rfl,rfl,q,b⟩;exact⟨rfl,f.setQ i q b⟩
end
def oo{W:QM}(B:Nat)(v:QN)(l m:List Nat){x:Addr}(c:Nat)(a:W.ownsRow B 24 1 v l.length (Us l))(t:∀j u,(Us m)[j]?=some u->W.cell? (x.add j)=some u)(F:0<m.length)(L:l.length+m.length<=100000){w:QN}{G:QM}
  (e:(Builtin.append_ #[37,37] 37 #[v,.slice (some x) m.length c]).run prog W=.ok w G):w.ownBlock=v.ownBlock\/w.ownBlock=some W.heap.size:=by
 let⟨s,d,o,f,p⟩:=G0 iY;let b:(Us m).length=m.length*s.size:=by rw[f,fK,Nat.mul_one]
 rcases a.2 with⟨rfl,M⟩|⟨g,i,y,rfl,N,K,O,Q,R,S⟩
 .right;let q:=run_append_nil (P:=prog) W 37 37 24 s _ underlying37 d o x m.length c (Us m) b t F Z (by rw[p];omega);rw[q]at e;injection e with r _;rw[<-r];rfl
 by_cases k:l.length+m.length<=i
 .left;let z:∀u∈Us m,u.oneCell'=true:=λu A=>by simp only[Us,FQ]at A;obtain⟨n,_,rfl⟩:=A;rfl
  let q:=run_append_room (P:=prog) W 37 37 24 s underlying37 d g l.length i y K x m.length c (Us m) b t z k (by rw[f,fK];omega);rw[q]at e;injection e with r _;rw[<-r];rfl
 right;let n:∀j u,(Us l)[j]?=some u->W.cell? (((Qz g 0):Addr).add j)=some u:=a.cells (g:=g) rfl;let q:=run_append_grow (P:=prog) W 37 37 24 s _ underlying37 d o (Qz g 0) l.length i (Us l) (by rw[f];exact a.1) n x m.length c (Us m) b t Z Z (growslice_fits Z (by rw[p];omega));rw[q]at e;injection e with r _;rw[<-r];rfl
def uZ(B x cf h)(i:Nat)(r:Rg9)(W)(hs:Sh B x cf h W)(j5:l_ x)(hB:B<=W.heap.size)(hi:Inv cf h)(hd:mE cf)(u2:1<=cf.large)(hr:h.rg[i]?=some r)(l2:r.st=1)(r9:h.rg.length<=900)(p8:h.rel.length<=900)(s7:h.row.length<=900):
  Calls prog 188 #[.pointer (some (Qz x.P 0)),.int .i64 (-1),.int .i64 (i:Nat)] W λe W'=>e=QJ (.tuple #[])/\∃x':Sm,x'.P=x.P/\x'.Q=x.Q/\l_ x'/\Sh B x' cf (aJ cf h r) W'/\Bk B x.Q W W':=by
 have u3:=(Fz.1 hr).1;have t5:=hi.rgs r (FM hr);have t6:r.base=(r.first+r.guards)*1024:=rfl;have q5:r.ext=r.guards+r.pages+1:=rfl;obtain⟨ra,rc,e1⟩:=aK hs.rg;obtain⟨G,rfl⟩:=cr (e1▸hs.rg) Z;obtain⟨d0,d1,d2,d3,d4,d5⟩:=hs.range e1 hr;rw[l2]at d4;refine(let_mvar%?M:=Qz x.P 9;let_mvar%?T:=some (Qz G 0);?_);have c9:W.cell? ?M=some (.slice ?T h.rg.length rc):=by rw[<-e1];exact hs.cell 9 _ rfl
 obtain⟨n3,t2⟩:=y7 (cG cf h r) (hi.mapSet hr (λx=>{x with st:=2,rq:=0}));obtain⟨res,i2⟩:=Qa (aJ cf h r);rw[i2];obtain⟨j7,c6,HB,HD,HI,k1,s9⟩:=Qi i2 hr hB hd hi j5 e1;refine(let_mvar%?E:=(r.base:Nat);let_mvar%?I:=(r.pages:Nat);?_);have bA:D W (W.alloc (.cells #[.int .u64 ?E,.int .i64 (r.first:Nat),.int .i64 (r.ext:Nat),.int .i64 ?I,.int .i64 1,.int .i64 r.rq] 244)):=ph;obtain⟨SA,BA,YA⟩:=Qe (hs.below bA) (hs.bkB (Bk.refl _ _ _) hB bA) (ao W (.cells #[.int .u64 ?E,.int .i64 (r.first:Nat),.int .i64 (r.ext:Nat),.int .i64 ?I,.int .i64 1,.int .i64 r.rq] 244));have m3:=H (show W.heap.size≠G by obtain⟨_,cg,b5⟩:=aF (g:=G) hs.rg (by rw[e1];rfl);have:=ag b5;omega)
 have r3:r.base/1024=r.first+r.guards:=Z
 have u9:(i:Int)<(h.rg.length:Int):=Z;refine(let_mvar%?L:=(r.base:Int);?_);have DP:=H (show∀V,Sx x.T x.Q 283 (cf.bud:Nat) h.m V->QA 267 #[.pointer (some (Qz x.T 0)),.int .i64 (?L/1024),.int .i64 ?I] V λe w'=>e=QJ (.tuple #[])/\Sx x.T x.Q 283 (cf.bud:Nat) (bQ h.m (r.first+r.guards) r.pages) w'/\Sf x.Q V w' from λV hV=>by rw[show ?L/1024=((r.first+r.guards:Nat):Int) by omega];exact qJ x.T x.Q 283 (cf.bud:Nat) h.m (r.first+r.guards) r.pages V hV Z Z)
 have v2:r.base<1000000:=Z;have v3:IntKind.u64.wrap (?L/1024)=?L/1024:=dX _ Z Z;have u4:IntKind.i64.wrap (?L/1024)=?L/1024:=by rw[Hh];omega
 have SS:=H (show∀(V:QM){h':Hs},Sh B x cf h' V->V.heap[W.heap.size]?=some (.cells #[.int .u64 ?E,.int .i64 (r.first:Nat),.int .i64 (r.ext:Nat),.int .i64 ?I,.int .i64 1,.int .i64 r.rq] 244)->V.cell? (Qz x.P 6)=some (.pointer (some (Qz x.T 0)))/\V.cell? (Qz W.heap.size 0)=some (.int .u64 ?E)/\V.cell? (Qz W.heap.size 3)=some (.int .i64 ?I)from λV h' hV hY=>⟨hV.cell 6 _ rfl,by simp[QC,hY],by simp[QC,hY]⟩);clear hs j5 hB hi hd i2 hr bA t5 t6 q5 e1 r3;go_wp2;generalize W.alloc _=V at SA BA YA⊢;generalize W.heap.size=Y at YA m3 SS⊢;refine rh (S:=λW'=>W'.cell? (Qz x.P 6)=some (.pointer (some (Qz x.T 0)))/\W'.cell? (Qz Y 0)=some (.int .u64 ?E)/\W'.cell? (Qz Y 3)=some (.int .i64 ?I)) ?_;have F:=SS.out _ (SA.below ld) YA.out;(iterate 10 refine PX 0 F ?_);refine po 10 λK' hK=>?_;go_simp;apply(DP.out _ ((SA.below ld).sp)).mono;rintro e V1⟨rfl,x1,f1⟩;obtain⟨S1,B1,Y1⟩:=Qe ((SA.below ld).space (Fx HB.out BA.bel.size) _ x1 f1) ((SA.below ld).bkS (SA.bkB BA.out HB.out ld) HB.out f1) ((f1.ky (SA.below ld).sp).XC YA.out);refine hK.out _ _ ⟨SS.out _ S1.out Y1.out,?_⟩;clear F;clear hK K';refine bY ?_;obtain⟨h1,i5⟩:∃h1:Hs,h1={h with m:=bQ h.m (r.first+r.guards) r.pages}:=⟨_,rfl⟩;rw[<-i5]at S1;have a0:h1.rg=h.rg:=by rw[i5]
 have i7:=H i5;have O:x.rv=.slice ?T h1.rg.length rc:=by rw[a0];exact s9.out
 obtain⟨S2,K2,G2⟩:=S1.setRange O (by rw[a0];exact c6.out) 2 0;have B2:=H (Eg S1.out O B1.out HB.out G2);have Y2:=H (show _=some (.cells #[.int .u64 ?E,.int .i64 (r.first:Nat),.int .i64 (r.ext:Nat),.int .i64 ?I,.int .i64 1,.int .i64 r.rq] 244)from(G2.block Y (ag Y1.out) (by simp;exact m3.out)).trans Y1.out);have S2:=H S2;have q1:V1.cell? ?M=some (.slice ?T h.rg.length rc):=by rw[<-a0,<-O];exact S1.cell 9 _ rfl
 have r4:=(S1.range O (by rw[a0];exact c6.out)).2.2.2.2.1;have r5:=(S1.range O (by rw[a0];exact c6.out)).2.2.2.2.2;have fz:∀k,V1.frozen? (Qz G k)=false:=λk=>by obtain⟨_,cg,b5⟩:=aF (g:=G) S1.rg (by rw[O];rfl);simp[QD,b5]
 have f4:=fz (i*6+4);refine(let_mvar%?D:=V1.setCell (Qz G (i*6+4)) (.int .i64 2);?_);obtain⟨k4,m4⟩:∃k4:Ky (· =244) V1 ?D,True:=⟨by obtain⟨_,cg,b5⟩:=aF (g:=G) S1.rg (by rw[O];rfl);exact Ky.grown b5 rfl (au (Q6 V1 G) _ _),trivial⟩
 have s2:(?D).cell? ?M=some (.slice ?T h.rg.length rc):=by have:=k4.XC S1.box;rw[<-a0,<-O];simp[QC,this,fN]
 have q6:(?D).cell? (Qz G (i*6+5))=some (.int .i64 r.rq):=by have ho:=S1.rg;rw[O]at ho;exact bC (dP ho (i*6+4) (by rw[dS,a0];omega) (.int .i64 2)) (i*6+5) _ (by rw[List.getElem?_set_ne Z,fo h1.rg (by rw[a0];exact c6.out) Z];rfl)
 have t4:(?D).frozen? (Qz G (i*6+5))=false:=by have ho:=S1.rg;rw[O]at ho;obtain⟨cg,b5⟩:=di (dP ho (i*6+4) (by rw[dS,a0];omega) (.int .i64 2));simp[QD,b5]
 clear i5 a0 O K2 G2 fz k4 m4 S1 B1 Y1 x1 f1 SA BA YA c9 d0 d1 d2 d3 d4 d5 r5;obtain⟨h2,e6⟩:∃h2:Hs,h2={h1 with rg:=h1.rg.set i {r with st:=2,rq:=0}}:=⟨_,rfl⟩;rw[<-e6]at S2;have r8:=H (show tV h r={h2 with row:=h2.row++[r.base]} by rw[e6,i7.out];unfold tV;rw[t2.out])
 have k9:h2.row=h.row:=by rw[e6,i7.out]
 have l8:h2.rel=h.rel:=by rw[e6,i7.out]
 have v6:h2.row.length<=900:=by rw[k9];exact s7
 have t9:h2.rel.length<=900:=by rw[l8];exact p8
 obtain⟨i3,s5⟩:=y7 k9 l8;have k6:h2.rg.length<=900:=by rw[e6,Gj,i7.out];exact r9
 have u6:=H (show r.base∉h.rel from λhm=>by have hq:=HI.rel r.base hm;have g3:=FM c6.out;have h2:=hq.2.2.2 r g3;have h3:=tN HI.out g3;have h4:=HI.rgs r g3;omega)
 go_upto_region 19 with fail
 generalize (?D).setCell (Qz G (i*6+5)) (.int .i64 0)=V2 at S2 B2 Y2⊢;clear q1 r4 f4 s2 q6 t4 e6 k9 l8;obtain⟨oa,oc,i6⟩:=aK S2.ro;refine(let_mvar%?G:=Qz x.P 10;?_);have o3:V2.cell? ?G=some (.slice oa h2.row.length oc):=by rw[<-i6];exact S2.cell 10 _ rfl
 have y2:V2.cell? (Qz Y 0)=some (.int .u64 ?E):=by simp[QC,Y2.out]
 refine(let_mvar%?C:=V2.alloc (.cells #[.int .u64 ?E] 24);?_);have k3:D V2 (?C).drew:=ph.drew;obtain⟨S3,B3,Y3⟩:=Qe (S2.below k3) (S2.bkB B2.out HB.out k3) (ae Y2.out k3);have y3:(?C).drew.cell? (Qz Y 0)=some (.int .u64 ?E):=NI k3 y2;have n7:(?C).drew.cell? ?G=some (.slice oa h2.row.length oc):=NI k3 o3;have a1:∀j u,(Us [r.base])[j]?=some u->(?C).drew.cell? (((Qz V2.heap.size 0):Addr).add j)=some u:=ek V2 (.int .u64 ?E) 24 V2.heap.size rfl;obtain⟨v4,w4,e4,o4,g4⟩:=jQ _ B x.ov h2.row [r.base] _ 1 S3.ro a1 bG (Fx HB.out B3.bel.size);have c7:=oo B x.ov h2.row [r.base] 1 S3.ro a1 bH bG e4;rw[i6]at e4;have e4:QI 37 (.slice oa h2.row.length oc) (.slice (some (Qz V2.heap.size 0)) 1 1) (?C).drew v4 w4:=e4;obtain⟨L,K,s8⟩:=aK o4;subst s8;have a9:(h2.row++[r.base]).length=h2.row.length+1:=bH;have w0:=H a9;rw[a9]at e4 o4 c7;have f3:Ky (· =24) _ w4:=Ky.grownO (λP hP=>by obtain⟨_,c,hc⟩:=aF S3.ro hP;exact⟨c,24,_,hc,rfl⟩) g4;have P4:w4.heap[x.P]?=some (.cells (fN cf x h2.used) 240):=f3.XC S3.box;have Y4:=f3.XC Y3.out;have y4:w4.cell? (Qz Y 0)=some (.int .u64 ?E):=by simp[QC,Y4]
 obtain⟨cq,b8⟩:=S3.qrow;have B4:=H (B3.trans (Bk.ofGrownO (λP hP=>by obtain⟨h1,c,hc⟩:=aF S3.ro hP;exact⟨h1,c,24,_,hc,.inr (.inr (.inr (.inr (.inl rfl)))),ar,ar⟩) b8 (Fx HB.out B3.bel.size) g4));have q4:w4.cell? ?G=some (.slice oa h2.row.length oc):=by rw[<-i6];simp[QC,P4,fN]
 have f4:w4.frozen? ?G=false:=by simp[QD,P4]
 have k5:Ky (· =240) w4 (w4.setCell ?G (.slice L (h2.row.length+1) K)):=Ky.grown P4 rfl (au (Q6 w4 x.P) 10 (.slice L (h2.row.length+1) K));have P5:(w4.setCell ?G (.slice L (h2.row.length+1) K)).heap[x.P]?=some (.cells (fN cf {x with rv:=x.rv,ov:=.slice L (h2.row.length+1) K,lv:=x.lv} h2.used) 240):=by simp[World.setCell,FD,P4,fN]
 have S5:=H (show Sh B {x with rv:=x.rv,ov:=.slice L (h2.row.length+1) K,lv:=x.lv} cf {h2 with rg:=h2.rg,row:=h2.row++[r.base],rel:=h2.rel} (w4.setCell ?G (.slice L (h2.row.length+1) K))from
  S3.books ((f3.more (λt ht=>.inr (.inr ht))).trans (k5.more (λt ht=>.inl ht))) x.rv (.slice L (h2.row.length+1) K) x.lv _ _ _ P5 (ai (ai S3.rg f3 ar) k5) (by rw[a9];exact ai o4 k5) (ai (lH S3.rl g4 (λg hg a8=>k1.out g a8 hg)) k5))
 have Y5:=H (k5.XC Y4);have y5:(w4.setCell ?G (.slice L (h2.row.length+1) K)).cell? (Qz Y 0)=some (.int .u64 ?E):=by simp[QC,Y5.out]
 have B5:=H (show Bk B x.Q W (w4.setCell ?G (.slice L (h2.row.length+1) K))from B4.trans (Bk.ofGrown P4 (f3.XC b8) (.inl rfl) ar ar S3.bp (Fx HB.out B4.bel.size) (au (Q6 w4 x.P) 10 (.slice L (h2.row.length+1) K))));have m6:=H (show l_ {x with rv:=x.rv,ov:=.slice L (h2.row.length+1) K,lv:=x.lv}from λg hg a8=>by
  have g2:(Value.slice L (h2.row.length+1) K).ownBlock=some g:=hg;rcases c7 with hw|hw;·exact k1.out g (hw.symm.trans g2) a8
  rw[g2]at hw;obtain⟨_,c,hc⟩:=aF S2.rl a8;have:=ag hc;simp at hw;omega)
 clear o4 g4 f3 P4 Y4 k5 P5 b8 c7 a9 B4 S3 B3 Y3 k3;go_cut [10] (λs4 w'=>s4=.pointer (some (Qz Y 0))/\w'=w4.setCell ?G (.slice L (h2.row.length+1) K));case first=>
  refine rh (S:=λW'=>W'.cell? (Qz Y 0)=some (.int .u64 ?E)) ?_;have F:=(show _ from y2);(iterate 4 refine PX 0 F ?_);(iterate 2 refine PX 5 F ?_);refine lZ [4,7] λi9 g5=>?_;rcases(by simpa using g5:i9=4\/i9=7)with g5|g5
  ·subst g5;refine cw λK' hK=>?_;go_simp;refine hK.out _ _ ⟨F,?_⟩;clear hK K';refine po 7 λK' hK=>?_
   go_simp;refine hK.out _ _ ⟨y3,?_⟩;clear F;have F:=y3;refine gu 8 ?_;refine ur e4 ⟨y4,?_⟩;have F:=y4;(iterate 2 refine PX 9 F ?_);refine po 11 λK' hK=>?_;go_simp;refine hK.out _ _ ⟨y5,?_⟩;refine bY ?_;go_wp2
   go_meet;exact⟨rfl,rfl⟩
  subst g5;refine cw λK' hK=>?_;go_simp;refine hK.out _ _ ⟨y3,?_⟩;have F:=y3;refine po 4 λK' hK=>?_
  go_simp;refine hK.out _ _ ⟨F,?_⟩;refine gu 8 ?_;refine ur e4 ⟨y4,?_⟩;have F:=y4;(iterate 2 refine PX 9 F ?_);refine po 11 λK' hK=>?_;go_simp;refine hK.out _ _ ⟨y5,?_⟩;refine bY ?_;go_wp2
  go_meet;exact⟨rfl,rfl⟩
 case rest=>
 obtain⟨rfl,rfl⟩:=hcut;obtain⟨X,f8⟩:∃X:Sm,X={x with rv:=x.rv,ov:=.slice L (h2.row.length+1) K,lv:=x.lv}:=⟨_,rfl⟩;obtain⟨h5,e3⟩:∃h5:Hs,h5={h2 with rg:=h2.rg,row:=h2.row++[r.base],rel:=h2.rel}:=⟨_,rfl⟩;rw[<-f8]at S5 m6;rw[<-e3]at S5;obtain⟨a5,g8,l6,i8,f7,j8⟩:=Qh (show X.P=x.P by rw[f8]) (show X.Q=x.Q by rw[f8]) (show X.ov=.slice L (h2.row.length+1) K by rw[f8]) (show tV h r=h5 by rw[r8.out,e3]) (show h5.row=h.row++[r.base] by rw[e3,i3.out]) (show h5.rel=h.rel by rw[e3,s5.out]);have n5:h5.rg.length<=900:=by rw[e3];exact k6
 generalize w4.setCell ?G (.slice L (h2.row.length+1) K)=V5 at S5 B5 Y5⊢;have d7:V5.cell? ?G=some (.slice L (h2.row.length+1) K):=by rw[<-l6.out,<-a5.out];exact S5.cell 10 _ rfl
 have j0:V5.cell? (Qz x.P 2)=some (.int .i64 (cf.large:Nat)):=by rw[<-a5.out];exact S5.cell 2 _ rfl
 refine(let_mvar%?O:=h.row++[r.base];?_);by_cases e5:cf.large<(?O).length
 ·have HE:=H (show res={tV h r with rg:=(tV h r).rg.filter λx=>x.base≠?O[0]?.getD 0,rel:=h.rel++[?O[0]?.getD 0],row:=(?O).tail} by rw[<-j7.out,n3.out,GP e5])
  have d6:(cf.large:Int)<(h2.row.length:Int)+1:=by rw[i3.out];simp at e5;omega
  have p2:decide ((cf.large:Int)<(h2.row.length:Int)+1)=true:=G8 d6;obtain⟨b0,t,f6⟩:∃b0 t,h.row++[r.base]=b0::t:=by
   cases h.row with
   |nil=>exact⟨_,_,rfl⟩
   |cons a l=>exact⟨a,l++[r.base],rfl⟩
  have l4:t.length=h2.row.length:=by have:=congrArg List.length f6;rw[i3.out];simp at this;omega
  have w1:1<=t.length:=by rw[l4,i3.out];simp at e5;omega
  have r7:=H f6;have n6:=H (show res={h5 with rg:=h5.rg.filter λx=>x.base≠b0,rel:=h5.rel++[b0],row:=t} by rw[HE.out,i8.out,j8.out,f6];rfl)
  have r6:=H (show∀o∈h5.rg,o.base=b0->o.st=2 from λo ho hb=>by have i1:=HI.fA (FM c6.out) l2 {cf with large:=h.row.length+1} rfl rfl gi;rw[i8.out]at i1;obtain⟨r0,l9,s0,e0⟩:=(i1.row b0).1 (by rw[f7.out,f6];simp);have:=i1.one ho l9 (hb.trans e0.symm);rw[this];exact s0)
  have v8:=H (show b0<1000000 from by have i1:=HI.fA (FM c6.out) l2 {cf with large:=h.row.length+1} rfl rfl gi;rw[i8.out]at i1;obtain⟨r0,l9,s0,e0⟩:=(i1.row b0).1 (by rw[f7.out,f6];simp);have h3:=i1.rgs r0 l9;have h4:r0.base=(r0.first+r0.guards)*1024:=rfl;unfold Rg9.ext at h3;omega)
  have e2:=S5.ro;rw[l6.out,f7.out,r7.out]at e2;have q3:(b0::t).length=h2.row.length+1:=bG;rw[q3]at e2;obtain⟨og,q7⟩:=cr e2 Z;subst q7;have t8:h2.row.length+1<=K:=by
   rcases e2.2 with⟨e,_⟩|⟨g',t7,u1,e,_,_,h3,_⟩;·simp at e
   simp at e;omega
  have o6:=H e2;go_wp2;refine(let_mvar%?R:=some (Qz og 0);?_);refine rh (S:=λW'=>W'.cell? ?G=some (.slice ?R (h2.row.length+1) K)/\W'.cell? (Qz x.P 2)=some (.int .i64 (cf.large:Nat))) ?_;have F:=(show _/\_ from⟨d7,j0⟩);(iterate 10 refine PX 0 F ?_);refine pz 10 Ql F ?_;refine bY ?_;obtain⟨S6,B6,O6⟩:=Qe (S5.below ld) (show Bk B X.Q W V5.drew from S5.bkB (g8.out▸B5.out) HB.out ld) (ai o6.out (Ky.below (Fu _ V5).drew:Ky (λ_=>False) _ _) (λe=>e));have j6:V5.drew.cell? ?G=some (.slice ?R (h2.row.length+1) K):=by rw[<-l6.out,<-a5.out];exact S6.cell 10 _ rfl
  have p1:V5.drew.frozen? ?G=false:=by rw[<-a5.out];exact S6.boxF 10
  have d0:V5.drew.cell? (Qz og 0)=some (.int .u64 (b0:Nat)):=bC O6.out 0 _ rfl;have s6:∀w:QM,(Instr.slice 37 (.slice ?R (h2.row.length+1) K) (some (.int .i64 1)) none none).run prog w=.ok (.slice (some (Qz og 1)) h2.row.length (K-1)) w:=λw=>by have h:=run_slice_l (P:=prog) w 37 ?R (h2.row.length+1) K underlying37 .i64 (1:Int) Z Z;have hs:(sizeOf (prog.elem 37)).run prog w=.ok 1 w:=E;have e:((Qz og 0):Addr).add 1=(Qz og 1):=(by simp[Addr.add]);have p9:¬(K=1):=Z;rw[h,hs];simp[sliced,Result.andThen,e,p9]
  have a1:∀j u,(Us t)[j]?=some u->V5.drew.cell? (((Qz og 1):Addr).add j)=some u:=λj u hj=>by rw[Addr.add_mid];exact bC O6.out (1+j) u (by rw[Nat.add_comm];exact hj)
  obtain⟨v7,w7,e7,o7,g7⟩:=jQ V5.drew V5.drew.heap.size (.slice none 0 0) [] t _ (K-1) ⟨rfl,.inl ⟨rfl,rfl⟩⟩ a1 bG gi;rw[FV]at o7;obtain⟨ta,tc,r2⟩:=aK o7;subst r2;rw[l4]at e7 o7;have b7:Below V5.drew.heap.size V5.drew w7:=th.grown g7 gi (λr hr=>by simp[Value.ownBlock]at hr);obtain⟨S7,B7⟩:=y7 (S6.below b7) (S6.bkB B6.out HB.out b7);have o0:=NI b7 j6;have m5:w7.frozen? ?G=false:=by rw[<-a5.out];exact S7.boxF 10
  have k8:Ky (· =240) w7 (w7.setCell (Qz X.P 10) (.slice ta h2.row.length tc)):=Ky.grown S7.box rfl (au (Q6 w7 X.P) 10 _);have P8:(w7.setCell (Qz X.P 10) (.slice ta h2.row.length tc)).heap[X.P]?=some (.cells (fN cf {X with rv:=X.rv,ov:=.slice ta h2.row.length tc,lv:=X.lv} h5.used) 240):=by rw[S7.boxSet];rfl
  have S8:=H (show Sh B {X with rv:=X.rv,ov:=.slice ta h2.row.length tc,lv:=X.lv} cf {h5 with rg:=h5.rg,row:=t,rel:=h5.rel} (w7.setCell (Qz X.P 10) (.slice ta h2.row.length tc))from
   S7.books (k8.more (λt ht=>.inl ht)) X.rv (.slice ta h2.row.length tc) X.lv _ _ _ P8 (ai S7.rg k8) (by rw[l4];exact dm (ai o7 k8) (Fx HB.out B6.bel.size)) (ai S7.rl k8))
  have B8:=H (S7.bkP B7.out HB.out (au (Q6 w7 X.P) 10 (.slice ta h2.row.length tc)));have j1:=H (show∀g,(Value.slice ta h2.row.length tc).ownBlock=some g->V5.drew.heap.size<=g/\g<(w7.setCell (Qz X.P 10) (.slice ta h2.row.length tc)).heap.size from λg hg=>by obtain⟨h1,c,hc⟩:=aF o7 hg;have:=ag hc;have e:(w7.setCell (Qz X.P 10) (.slice ta h2.row.length tc)).heap.size=w7.heap.size:=(by simp[World.setCell]);omega)
  have n9:=H (show∀g,X.lv.ownBlock=some g->g<V5.drew.heap.size from λg hg=>by obtain⟨_,c,hc⟩:=aF S6.rl hg;exact ag hc)
  rw[a5.out]at B8 j1;have eP:w7.setCell (Qz X.P 10) (.slice ta h2.row.length tc)=w7.setCell ?G (.slice ta h2.row.length tc):=by rw[a5.out]
  rw[eP]at S8;obtain⟨qa,qc,k7⟩:=aK S8.rg;obtain⟨N,hN⟩:=Qa h5.rg.length;have p4:(w7.setCell ?G (.slice ta h2.row.length tc)).cell? ?M=some (.slice qa N qc):=by have e0:(w7.setCell ?G (.slice ta h2.row.length tc)).cell? (Qz X.P 9)=some X.rv:=S8.cell 9 _ rfl;rw[a5.out]at e0;rw[e0,<-hN];exact congrArg some k7
  have u7:N<=900:=by rw[<-hN];exact n5
  obtain⟨r1,HN⟩:=y7 k7 hN;go_wp2_with (at_builtin;refine up e7 ?_);obtain⟨x8,b9⟩:∃x8:Sm,x8={X with rv:=X.rv,ov:=.slice ta h2.row.length tc,lv:=X.lv}:=⟨_,rfl⟩;obtain⟨h8,e8⟩:∃h8:Hs,h8={h5 with rg:=h5.rg,row:=t,rel:=h5.rel}:=⟨_,rfl⟩;rw[<-b9,<-e8]at S8;have c8:=H (show x8.P=x.P by rw[b9];exact a5.out);obtain⟨k0,p6,o1⟩:=Qe (show x8.Q=X.Q by rw[b9]) (show x8.ov=.slice ta h2.row.length tc by rw[b9]) (show x8.lv=X.lv by rw[b9]);have h7:=H (show x8.rv=.slice qa h8.rg.length qc by rw[b9,e8];exact r1.out);obtain⟨d9,o2⟩:=y7 (show h8.rg=h5.rg by rw[e8]) (show res={h8 with rg:=h8.rg.filter λx=>x.base≠b0,row:=h8.row,rel:=h8.rel++[b0]} by rw[n6.out,e8]);have n0:h8.rel.length<=900:=by rw[e8];show h5.rel.length<=900;rw[j8.out];exact p8
  generalize w7.setCell ?G (.slice ta h2.row.length tc)=V8 at S8 B8 j1 p4⊢;clear b9 e8 j6 p1 d0 s6 e7 o0 m5;obtain⟨pr,l3⟩:∃pr:Rg9->Bool,pr=λx=>decide (x.base≠b0):=⟨_,rfl⟩
  have q0:=H l3;rw[<-l3]at o2;clear l3;go_loopw [12,187] (λv i wq=>∃k:Nat,k<=N/\i=.int .i64 k/\Hid (wq.ownsRow V8.heap.size 244 6 v ((h8.rg.take k).filter pr).length (eM ((h8.rg.take k).filter pr)))/\Hid (D V8 wq)) (λ_ i _=>N-(intOf i).toNat);exact⟨0,aa,rfl,H ⟨rfl,.inl ⟨rfl,rfl⟩⟩,H th⟩
  clear p4;obtain⟨k,hk,rfl,OQ,BQ⟩:=hrel;obtain⟨va,vc,q8⟩:=aK OQ.out;subst q8;by_cases m9:k<N
  ·obtain⟨o,ho⟩:∃o,h8.rg[k]?=some o:=⟨_,Fy (by rw[d9.out,HN.out];exact m9)⟩;obtain⟨gq,rfl⟩:=cr (h7.out▸S8.rg) (by rw[d9.out,HN.out];omega);obtain⟨d0,d1,d2,d3,d4,d5⟩:=(S8.below BQ.out).range h7.out ho;refine(let_mvar%?S:=if pr o then[o]else[];?_);have m7:=H (show(h8.rg.take (k+1)).filter pr=(h8.rg.take k).filter pr++?S by rw[F_,ho,Hl];simp only[IQ,List.filter_cons,List.filter_nil])
   have h0:((h8.rg.take k).filter pr).length<=900:=by have:=Hb pr (h8.rg.take k);have h2:=List.length_take_le k h8.rg;omega
   have h6:=r6.out o (by rw[<-d9.out];exact FM ho);generalize (h8.rg.take k).filter pr=q at*;have j2:pr o=decide (o.base≠b0):=(by rw[q0.out]);refine(let_mvar%?N:=(o.ext:Nat);let_mvar%?K:=(o.first:Nat);let_mvar%?J:=(o.pages:Nat);let_mvar%?H:=(o.base:Nat);let_mvar%?A:=(wr.alloc (.cells #[.int .u64 ?H,.int .i64 ?K,.int .i64 ?N,.int .i64 ?J,.int .i64 o.st,.int .i64 o.rq] 244));?_);have b1:D wr ?A:=ph;obtain⟨O1,B1⟩:=y7 (OQ.alloc (.cells #[.int .u64 ?H,.int .i64 ?K,.int .i64 ?N,.int .i64 ?J,.int .i64 o.st,.int .i64 o.rq] 244)) (az BQ.out b1);by_cases hb:o.base=b0
   ·have o5:=h6 hb;have A2:=H (show ?S=[] by rw[j2,hb];simp);rw[o5]at d4 O1 B1;rw[hb]at d0 O1 B1;clear h6 j2 ho b1;generalize o.first=z1 at*
    generalize o.ext=z2 at*;generalize o.pages=z3 at*;generalize o.rq=z5 at*;clear hb o5;go_wp2;go_roundw;(exact⟨k+1,Z,aY,H (by rw[m7.out,A2.out,Gl];exact O1.out),B1⟩);exact QE
   have A2:=H (show ?S=[o] by rw[j2,G8 hb];rfl);have v5:((?H:Int) != ((b0:Nat):Int))=true:=bG;have b2:Below (?A).heap.size ?A ((?A).alloc (.cells #[.int .u64 ?H,.int .i64 ?K,.int .i64 ?N,.int .i64 ?J,.int .i64 o.st,.int .i64 o.rq] 244)):=ph;obtain⟨O2,B2⟩:=y7 (O1.alloc (.cells #[.int .u64 ?H,.int .i64 ?K,.int .i64 ?N,.int .i64 ?J,.int .i64 o.st,.int .i64 o.rq] 244)) (az B1.out b2);obtain⟨v9,w9,e9,o9,g9⟩:=wL V8.heap.size (.slice va q.length vc) q o 1 O2.out (ao ?A (.cells #[.int .u64 ?H,.int .i64 ?K,.int .i64 ?N,.int .i64 ?J,.int .i64 o.st,.int .i64 o.rq] 244)) Z B2.size;rw[aO]at e9;have N9:=H (IT o9 (B2.grown g9 B2.size (λr hr=>(aF O2.out hr).1)));have m8:=ao wr (.cells #[.int .u64 ?H,.int .i64 ?K,.int .i64 ?N,.int .i64 ?J,.int .i64 o.st,.int .i64 o.rq] 244);have u0:(?A).cell? (Qz wr.heap.size 0)=some (.int .u64 ?H):=(by simp only[QC,m8];rfl);clear h6 j2 ho b1 b2 o9 g9 m8;go_wp2_with (at_builtin;refine up e9 ?_);go_roundw;(exact⟨k+1,Z,aY,H (by rw[m7.out,A2.out];exact N9.1),H N9.2⟩);exact QE
  obtain rfl:k=N:=Z;have q2:=H (show h8.rg.take k=h8.rg from Ge (by rw[d9.out,HN.out];exact gi));rw[q2.out]at OQ⊢;obtain⟨kl,h0⟩:=Qa ((h8.rg.filter pr).length);rw[h0]at OQ⊢;obtain⟨w2,a7,o8⟩:=Qe h0 (S8.below BQ.out) (show Bk B x8.Q W wr from S8.bkB (k0.out▸B8.out) HB.out BQ.out);have q9:wr.cell? ?M=some x8.rv:=(by rw[<-c8.out];exact a7.cell 9 _ rfl);rw[h7.out]at q9;have f9:wr.frozen? ?M=false:=(by rw[<-c8.out];exact a7.boxF 9);refine(let_mvar%?F:=wr.setCell (Qz x8.P 9) (.slice va kl vc);?_);have g6:Ky (· =240) wr (?F):=Ky.grown a7.box rfl (au (Q6 wr x8.P) 9 (.slice va kl vc));have m2:(?F).heap[x8.P]?=some (.cells (fN cf {x8 with rv:=.slice va kl vc,ov:=x8.ov,lv:=x8.lv} h8.used) 240):=(by rw[a7.boxSet];rfl);have b6:=H (show Sh B {x8 with rv:=.slice va kl vc,ov:=x8.ov,lv:=x8.lv} cf {h8 with rg:=h8.rg.filter pr,row:=h8.row,rel:=h8.rel} (?F)from
   a7.books (g6.more (λt ht=>.inl ht)) (.slice va kl vc) x8.ov x8.lv _ _ _ m2 (by rw[h0];exact dm (ai OQ.out g6) (Fx HB.out B8.bel.size)) (ai a7.ro g6) (ai a7.rl g6))
  have m0:=H (a7.bkP o8.out HB.out (au (Q6 wr x8.P) 9 (.slice va kl vc)));refine(let_mvar%?B:=wr.setCell ?M (.slice va kl vc);?_);have eP:?F=?B:=(by rw[c8.out]);rw[eP]at b6 m0;have s3:(?B).heap.size=wr.heap.size:=(by simp[World.setCell]);obtain⟨z,a6⟩:∃z:Sm,z={x8 with rv:=.slice va kl vc,ov:=x8.ov,lv:=x8.lv}:=⟨_,rfl⟩;obtain⟨A,d8⟩:∃A:Hs,A={h8 with rg:=h8.rg.filter pr,row:=h8.row,rel:=h8.rel}:=⟨_,rfl⟩;rw[<-a6,<-d8]at b6;have a3:=H (show z.P=x.P by rw[a6];exact c8.out);have i0:=H (show z.Q=x8.Q by rw[a6]);have g0:z.ov=.slice ta h2.row.length tc:=(by rw[a6];exact p6.out);have h9:z.lv=X.lv:=(by rw[a6];exact o1.out);have p7:=H (show res={A with rg:=A.rg,row:=A.row,rel:=A.rel++[b0]} by rw[o2.out,d8]);have t3:A.rel.length<=900:=(by rw[d8];exact n0);obtain⟨la,lc,l5⟩:=aK b6.rl;have u8:(?B).cell? (Qz x.P 11)=some (.slice la A.rel.length lc):=by have e0:(?B).cell? (Qz z.P 11)=some z.lv:=b6.cell 11 _ rfl;rw[a3.out,l5]at e0;exact e0
  have m1:Below (?B).heap.size (?B) ((?B).alloc (.cells #[.int .u64 (b0:Nat)] 24)):=ph;obtain⟨a4,j4⟩:=y7 (b6.below m1) (show Bk B z.Q W _ from b6.bkB (i0.out▸m0.out) HB.out m1);have a1:∀j u,(Us [b0])[j]?=some u->((?B).alloc (.cells #[.int .u64 (b0:Nat)] 24)).cell? ((⟨(?B).heap.size,0,none⟩:Addr).add j)=some u:=ek _ (.int .u64 (b0:Nat)) 24 _ rfl;obtain⟨v1,a2,f5,i4,j3⟩:=jQ _ B z.lv A.rel [b0] _ 1 a4.rl a1 bG (Fx HB.out j4.bel.size);have c7:=oo B z.lv A.rel [b0] 1 a4.rl a1 bH bG f5;rw[l5]at f5;obtain⟨na,nc,n8⟩:=aK i4;subst n8;have a9:(A.rel++[b0]).length=A.rel.length+1:=bH;rw[a9]at f5 i4 c7;have f5:QI 37 (.slice la A.rel.length lc) (.slice (some (Qz wr.heap.size 0)) 1 1) ((?B).alloc (.cells #[.int .u64 (b0:Nat)] 24)) (.slice na (A.rel.length+1) nc) a2:=(by rw[<-s3];exact f5);have b4:Ky (· =24) _ a2:=Ky.grownO (λP hP=>by obtain⟨_,c,hc⟩:=aF a4.rl hP;exact⟨c,24,_,hc,rfl⟩) j3;have f2:a2.heap[z.P]?=some (.cells (fN cf z A.used) 240):=b4.XC a4.box;obtain⟨cq,b8⟩:=a4.qrow;have l7:=H (j4.trans (Bk.ofGrownO (λP hP=>by obtain⟨h1,c,hc⟩:=aF a4.rl hP;exact⟨h1,c,24,_,hc,.inr (.inr (.inr (.inr (.inl rfl)))),ar,ar⟩) b8 (Fx HB.out j4.bel.size) j3));have u5:a2.cell? (Qz x.P 11)=some (.slice la A.rel.length lc):=(by rw[<-l5,<-a3.out];simp[QC,f2,fN]);have v0:a2.frozen? (Qz x.P 11)=false:=(by rw[<-a3.out];simp[QD,f2]);have g1:Ky (· =240) a2 (a2.setCell (Qz z.P 11) (.slice na (A.rel.length+1) nc)):=Ky.grown f2 rfl (au (Q6 a2 z.P) 11 _);have p3:(a2.setCell (Qz z.P 11) (.slice na (A.rel.length+1) nc)).heap[z.P]?=some (.cells (fN cf {z with rv:=z.rv,ov:=z.ov,lv:=.slice na (A.rel.length+1) nc} A.used) 240):=by simp[World.setCell,FD,f2,fN]
  have n4:=H (show Sh B {z with rv:=z.rv,ov:=z.ov,lv:=.slice na (A.rel.length+1) nc} cf {A with rg:=A.rg,row:=A.row,rel:=A.rel++[b0]} (a2.setCell (Qz z.P 11) (.slice na (A.rel.length+1) nc))from
   a4.books ((b4.more (λt ht=>.inr (.inr ht))).trans (g1.more (λt ht=>.inl ht))) z.rv z.ov (.slice na (A.rel.length+1) nc) _ _ _ p3 (ai (ai a4.rg b4 ar) g1) (ai (lH a4.ro j3 (λg hg a8=>by rw[g0]at hg;rw[h9]at a8;have h1:=(j1.out g hg).1;have h2:=n9.out g a8;omega)) g1) (by rw[a9];exact ai i4 g1))
  have p5:=H (l7.trans (Bk.ofGrown f2 (b4.XC b8) (.inl rfl) ar ar a4.bp (Fx HB.out l7.bel.size) (au (Q6 a2 z.P) 11 (.slice na (A.rel.length+1) nc))));have p0:=H (show l_ {z with rv:=z.rv,ov:=z.ov,lv:=.slice na (A.rel.length+1) nc}from λg hg a8=>by
   have g2:z.ov.ownBlock=some g:=hg;have k2:(Value.slice na (A.rel.length+1) nc).ownBlock=some g:=a8;rw[g0]at g2;have h1:=j1.out g g2;rcases c7 with hw|hw;·rw[k2,h9]at hw;have h2:=n9.out g hw.symm;omega
   rw[k2]at hw;simp at hw;have:=BQ.size;omega)
  have eQ:a2.setCell (Qz z.P 11) (.slice na (A.rel.length+1) nc)=a2.setCell (Qz x.P 11) (.slice na (A.rel.length+1) nc):=(by rw[a3.out]);rw[eQ]at n4 p5;have j9:=H (show z.Q=x.Q by rw[i0.out,k0.out];exact g8.out);clear g6 m2 h0 i4 j3 b4 f2 b8 g1 p3 c7 a9 m1 a1 eP eQ a6 d8;go_wp2_with (at_builtin;refine up f5 ?_);go_end0;rw[p7.out];exact⟨rfl,{z with rv:=z.rv,ov:=z.ov,lv:=.slice na (A.rel.length+1) nc},a3.out,j9.out,p0.out,n4.out,j9.out▸p5.out⟩
 have HE:=H (show res=h5 by rw[<-j7.out,n3.out,GO e5,i8.out]);have d6:¬((cf.large:Int)<(h2.row.length:Int)+1):=by rw[i3.out];simp at e5;omega
 have p2:decide ((cf.large:Int)<(h2.row.length:Int)+1)=false:=GR d6;go_wp2;refine rh (S:=λW'=>W'.cell? ?G=some (.slice L (h2.row.length+1) K)/\W'.cell? (Qz x.P 2)=some (.int .i64 (cf.large:Nat))) ?_;have F:=(show _/\_ from⟨d7,j0⟩);(iterate 10 refine PX 0 F ?_);refine pz 10 Qk F ?_;refine bY ?_;obtain⟨S6,B6⟩:=y7 (S5.below ld) (show Bk B x.Q W _ from g8.out▸S5.bkB (g8.out▸B5.out) HB.out ld);clear F d7 j0;go_wp2;go_end0;rw[HE.out];exact⟨rfl,X,a5.out,g8.out,m6.out,S6.out,B6.out⟩
section
variable {W W' W1:World}{v:Value}{B R c j n p s:Nat}{y:Ly}{d:Dy}{cf:Cf}{h:Hs}
def wF:¬hI 216:=by unfold hI;decide
def Be:¬hI 284:=by unfold hI;decide
def aA{b:Nat}{e:QO}{d:Nat}{f:List QN}(h:W.ownsRow b e d v n f):∃a n c,v=.slice a n c:=by let⟨a,c,h⟩:=aK h;exact⟨a,n,c,h⟩
def Hp.off(i:Hp B y d cf h W){t:QO}(k:t≠92/\t≠187/\t≠220/\t≠198/\t≠199/\t≠203/\t≠194/\t≠192/\t≠3/\t≠225/\t≠24){Y:Nat}{c:Array QN}(j:W.heap[Y]?=some (.cells c t))(b:Below B W W')(g:W.grownBy W' (some Y)):Hp B y d cf h W':=by
 refine i.keep ⟨(Ky.grown j rfl g:Ky (· =t) W W').more (λu a=>by subst a;exact k),?_,?_⟩ b;.obtain⟨a,⟨l,m,f,_⟩,_⟩:=i.sp.map;exact g.block _ (ag f) (λe=>by simp at e;rw[e,j]at f;cases f)
 let⟨l,m,f⟩:=i.mp.typ;exact g.block _ (ag f) (λe=>by simp at e;rw[e,j]at f;cases f)
def Bi.loc{Y:Nat}{V b:QM}(h:Bi B W V)(g:V.grownBy b (some Y))(j:W.heap.size<=Y)(e:B<=W.heap.size):Bi B W b:=
 ⟨h.bel.trans ((Fu B V).grown g (Fx e h.bel.size) (λr a=>by simp at a;omega)),g.os.trans h.ky.os,g.tape.trans h.ky.tape,g.output.trans h.ky.output,Fx h.ky.size g.size,λd c u f a i=>by
  rw[g.block d (FG (ag a) h.ky.size) (λe=>by simp at e;have:=ag a;omega)]
  exact h.ky.cells d c u f a i⟩
def CU(B:Nat)(y:Ly)(d:Dy)(cf:Cf)(h:Hs)(W:World)(j:Nat->Option (Bool×List Int))(code:Int)(data:List Int)(e:Ending)(W':World):Prop:=
 ∃i,Hp B y {d with f:=i} cf {h with m:=j} W'/\Bi B W W'/\((code=0/\∃v,e=.returned v/\W'.ownsRow W.heap.size 5 1 v data.length (Ns .u8 data))\/(code≠0/\e=.panicked (ip code)))
def ax{e:QO}{sz:Nat}{a:List QN}(h:W.ownsRow B e sz v n a)(b:D W W'):W'.ownsRow B e sz v n a:=ai h (Ky.below b:Ky (λ_=>False) W W') (λe=>e)
def Da.belowD{S M f w w' p ys}(h:Da S M f w p n ys)(b:D w w'):Da S M f w' p n ys:=
 ⟨h.1,λi a=>by obtain⟨x,c,d,e,g⟩:=h.2 i a;exact⟨x,c,NI b d,FG e b.size,g⟩⟩
def mC(B y d cf h kd)(p:Int)(c)(a:Nat)(n da dl)(M:Nat)(ys W)(e:Hp B y d cf h W)(a4:∀k,283<=k->h.m k=none)(ha:a<18446744073709551616)(a7:p<=9223372036854775807)(k:Da y.S y.M d.f W da dl ys)(a8:dl<=M):
  Calls prog 117 #[J y.P 0,kf kd p c a n da dl M] W (CU B y d cf h W (bZ 283 (cf.bud:Nat) h.m kd p c a n ys).1 (bZ 283 (cf.bud:Nat) h.m kd p c a n ys).2.1 (bZ 283 (cf.bud:Nat) h.m kd p c a n ys).2.2):=by
 let⟨DO,FI⟩:=y7 (λV(hV:D W V)=>Ek y.S y.M 283 (cf.bud:Nat) d.f h.m kd p c a n da dl M ys V (e.below hV).sp (e.below hV).pg a4 Z ha a7 (k.belowD hV) a8) (λV b G m'(hV:D W V)(hi:Im y.S y.M 0 283 (cf.bud:Nat) G b)(hg:Pg G m' b)(hf:Fr y.S y.M d.f G V b)=>(e.below hV).space hi hg hf);let o:=e.cell 6 Z _ rfl;have BW:=H e.bW;generalize bZ 283 (cf.bud:Nat) h.m kd p c a n ys=r at*;let⟨m',g,F⟩:=r;unfold kf at DO⊢;let⟨V,hV⟩:=Qb (W.alloc (.cells #[I kd,I p,I c,U a,I n,.slice da dl M] 216));have i:D W V:=by rw[hV];exact ph
 have X:=(show V.heap[W.heap.size]?=some (.cells #[I kd,I p,I c,U a,I n,.slice da dl M] 216) by rw[hV];exact ao W _);have b:=NI i o;have BV:=H i;have⟨SP,j⟩:=Qb y.S;have⟨PP,l⟩:=Qb y.P;have q:boxF cf y d h.used 6=J y.S 0:=rfl;rw[q]at b;rw[<-j]at DO b;rw[<-l]at b⊢;clear e k o i q;have⟨i,e⟩:=Qb W.heap.size;have CK:Hid (∀k:QM,QG k PP 6 (J SP 0)->k.heap[i]?=some (.cells #[I kd,I p,I c,U a,I n,.slice da dl M] 216)->QG k PP 6 (J SP 0)/\QG k i 0 (I kd)/\QG k i 1 (I p)/\QG k i 2 (I c)/\QG k i 3 (U a)/\QG k i 4 (I n)/\QG k i 5 (.slice da dl M)):=(λk o x=>by exact⟨o,bJ x,bJ x,bJ x,bJ x,bJ x,bJ x⟩)
 have⟨K,a0⟩:=y7 j l;rw[<-e]at X;have⟨b0,XV,a5⟩:=Qe e X b;clear b X j l;go_in;go_upto_region 1 with fail
 apply Eq.mp (congrArg _ hV);clear hV;rw[<-e];clear e;refine rh (S:=λk=>QG k PP 6 (J SP 0)/\QG k i 0 (I kd)/\QG k i 1 (I p)/\QG k i 2 (I c)/\QG k i 3 (U a)/\QG k i 4 (I n)/\QG k i 5 (.slice da dl M)) ?_;have u:=CK.out V.drew a5 XV;iterate 5 (apply py u;simp[f0,f1,Nat.reduceAdd,lz,l0,ls])
 refine lZ [5,6] λi9 O=>?_;rcases(by simpa using O:i9=5\/i9=6)with O|O
 ·subst O;refine cw λK' l=>?_;go_simp;apply (DO _ (BV.drew)).mono;rintro e L⟨v,rfl,o,G,i1,g1,P⟩;rw[K]at i1 P;have⟨Q,w⟩:=FI.out _ L G m' (BV.drew) i1 g1 P;have a1:=w.ky;obtain⟨q,s,t,rfl⟩:=aA o;have x1:=a1.XC XV wF;have p1:L.cell? (Qz PP 6)=some (J SP 0):=by rw[a0,K];exact Q.cell 6 Z _ rfl
  have h1:=CK.out _ p1 x1;refine l _ _ ⟨h1,?_⟩;have u:=h1;refine po 6 λK' l=>?_;go_simp;have N:D L (L.alloc (.cells #[I 0,C] 284)):=ph;have R:=ao L (.cells #[I 0,C] 284);have h2:=CK.out _ (NI N p1) ((N.block _ (ag x1)).trans x1);refine l _ _ ⟨h2,?_⟩;have u:=h2;have BI:=(Bi.ofBelow BV.drew BW).trans (w.add N (Fx BW (Fx BV.size w.bel.size)));have x:=Q.below N;have T:=ax (dm o (BV.size)) N;have a2:=(N.block _ (ag x1)).trans x1;generalize L.alloc _=j at*;generalize X:L.heap.size=Y at*;have BY:W.heap.size<=Y:=by rw[<-X];exact Fx BV.size w.bel.size
  have X2:=a2;refine po 7 λK' l=>?_;refine Ih 284 _ _ rfl Y _ rfl rfl 284 _ R E rfl mL ?_;have g3:=aj j Y #[I g,.slice q s t];refine(let_mvar%?A:=j.setRow Y #[I g,.slice q s t];?_);have k3:Ky (· =284) j (?A):=Ky.grown R rfl g3;have x2:j.heap[i]?=some (.cells #[I kd,I p,I c,U a,I n,.slice da dl M] 216):=X2;have a3:B<=Y:=Fx BW BY;have b3:Below B j (?A):=th.grown g3 x.bW (λr hr=>by simp at hr;omega);have z:=x.off ar R b3 g3;have h3:=CK.out _ (show(?A).cell? (Qz PP 6)=_ by rw[a0,K];exact z.cell 6 Z _ rfl) (k3.XC x2);refine l _ _ ⟨h3,?_⟩;have u:=h3;refine bY ?_;have XU:=aw (v:=j) R #[I g,.slice q s t];have HU:=IT z (IT (BI.loc g3 BY BW) (ai T k3));generalize ?A=b at*;have HF:Hid (Hp B y {d with f:=G} cf {h with m:=m'} b/\Bi B W b/\b.ownsRow W.heap.size 5 1 (.slice q s t) F.length (Ns .u8 F)):=HU;have y0:b.cell? (Qz Y 0)=some (I g):=bJ XU
  have y1:b.cell? (Qz Y 1)=some (.slice q s t):=bJ XU;by_cases A:g=0;·subst A;go_wp2;go_ret;exact⟨G,HF.1,HF.2.1,.inl ⟨rfl,_,rfl,HF.2.2⟩⟩
  have a6:(g !=0)=true:=by simpa using A
  go_wp2;exact⟨rfl,G,HF.1,HF.2.1,.inr ⟨A,rfl⟩⟩
 subst O;refine cw λK' l=>?_;go_simp;have N:D V (V.alloc (.cells #[I 0,C] 284)).drew:=ph.drew;have Y1:(V.alloc (.cells #[I 0,C] 284)).drew.heap[V.heap.size]?=_:=ao V (.cells #[I 0,C] 284);have h2:=CK.out _ (NI N a5) ((N.block _ (ag XV)).trans XV);refine l _ _ ⟨h2,?_⟩;have u:=h2;have a2:=BV.trans (N.mono BV.size);generalize World.drew (V.alloc _)=V0 at*;generalize X:V.heap.size=Y at*;refine po 5 λK' l=>?_
 go_simp;apply (DO _ (a2)).mono;rintro e L⟨v,rfl,o,G,i1,g1,P⟩;rw[K]at i1 P;have⟨Q,w⟩:=FI.out _ L G m' (a2) i1 g1 P;have a1:=w.ky;obtain⟨q,s,t,rfl⟩:=aA o;have x1:L.heap[i]?=some (.cells #[I kd,I p,I c,U a,I n,.slice da dl M] 216):=a1.XC ((N.block _ (ag XV)).trans XV) wF;have p1:L.cell? (Qz PP 6)=some (J SP 0):=by rw[a0,K];exact Q.cell 6 Z _ rfl
 have h1:=CK.out _ p1 x1;refine l _ _ ⟨h1,?_⟩;have u:=h1;have R:=a1.XC Y1 Be;have BI:=(Bi.ofBelow a2 BW).trans w;have x:=Q;have T:=dm o a2.size;have BY:W.heap.size<=Y:=by rw[<-X];exact BV.size
 have X2:=x1;generalize a9:L=j at*;refine po 7 λK' l=>?_;refine Ih 284 _ _ rfl Y _ rfl rfl 284 _ R E rfl mL ?_;have g3:=aj j Y #[I g,.slice q s t];refine(let_mvar%?B:=j.setRow Y #[I g,.slice q s t];?_);have k3:Ky (· =284) j (?B):=Ky.grown R rfl g3;have x2:j.heap[i]?=some (.cells #[I kd,I p,I c,U a,I n,.slice da dl M] 216):=X2;have a3:B<=Y:=Fx BW BY;have b3:Below B j (?B):=th.grown g3 x.bW (λr hr=>by simp at hr;omega);have z:=x.off ar R b3 g3;have h3:=CK.out _ (show(?B).cell? (Qz PP 6)=_ by rw[a0,K];exact z.cell 6 Z _ rfl) (k3.XC x2);refine l _ _ ⟨h3,?_⟩;have u:=h3;refine bY ?_;have XU:=aw (v:=j) R #[I g,.slice q s t];have HU:=IT z (IT (BI.loc g3 BY BW) (ai T k3));generalize ?B=b at*;have HF:Hid (Hp B y {d with f:=G} cf {h with m:=m'} b/\Bi B W b/\b.ownsRow W.heap.size 5 1 (.slice q s t) F.length (Ns .u8 F)):=HU;have y0:b.cell? (Qz Y 0)=some (I g):=bJ XU
 have y1:b.cell? (Qz Y 1)=some (.slice q s t):=bJ XU;by_cases A:g=0;·subst A;go_wp2;go_ret;exact⟨G,HF.1,HF.2.1,.inl ⟨rfl,_,rfl,HF.2.2⟩⟩
 have a6:(g !=0)=true:=by simpa using A
 go_wp2;exact⟨rfl,G,HF.1,HF.2.1,.inr ⟨A,rfl⟩⟩
def Da.nil(S M f w):Da S M f w none 0 []:=⟨rfl,λi a=>Z⟩
def jy(B y d cf h)(a n:Nat)(W)(e:Hp B y d cf h W)(c:∀k,283<=k->h.m k=none)(ha:a<18446744073709551616)(p:n<18446744073709551616):
  QA 62 #[J y.P 0,U a,U n] W (CU B y d cf h W h.m (ci h.m a ((min n 4097:Nat):Int)) (if ci h.m a ((min n 4097:Nat):Int)=0 then aH h.m a (min n 4097)else[])):=by
 refine(let_mvar%?A:=((min n 4097:Nat):Int);?_);let b:=H (mC B y d cf h 4 0 0 a ?A none 0 0 [] W e c ha Z (Da.nil _ _ _ _) gi);unfold bZ at b;simp only[GP]at b;rw[F0]at b;unfold kf at b;generalize (if ci h.m a ?A=0 then aH h.m a (min n 4097)else[])=m at*;generalize ci h.m a ?A=o at*;generalize y.P=P at*;by_cases l:n<=4097
 .rw[Hz l]at b;go_enter func62,ntmps62;go_wp2_with fail;apply (b).mono;rintro e W'⟨k,c,g,⟨i,v,rfl,f⟩|⟨i,rfl⟩⟩;.let j:=H (IT c (IT g f));go_wp2;go_ret;exact⟨k,j.1,j.2.1,.inl ⟨i,v,rfl,j.2.2⟩⟩
  exact⟨rfl,k,c,g,.inr ⟨i,rfl⟩⟩
 rw[Nat.min_eq_right Z]at b;go_enter func62,ntmps62;go_wp2_with fail;apply (b).mono;rintro e W'⟨k,c,g,⟨i,v,rfl,f⟩|⟨i,rfl⟩⟩;.let j:=H (IT c (IT g f));go_wp2;go_ret;exact⟨k,j.1,j.2.1,.inl ⟨i,v,rfl,j.2.2⟩⟩
 exact⟨rfl,k,c,g,.inr ⟨i,rfl⟩⟩
def A9(B:Nat)(y:Ly)(d:Dy)(cf:Cf)(h:Hs)(W:World)(j:Nat->Option (Bool×List Int))(code:Int)(e:Ending)(W':World):Prop:=
 ∃i,Hp B y {d with f:=i} cf {h with m:=j} W'/\Bi B W W'/\((code=0/\e=.returned (.tuple #[]))\/(code≠0/\e=.panicked (ip code)))
def iw(B y d cf h)(a:Nat)(da dl)(g:Nat)(ys W)(e:Hp B y d cf h W)(c:∀k,283<=k->h.m k=none)(ha:a<18446744073709551616)(f:Da y.S y.M d.f W da dl ys)(i:dl<=g):
  Calls prog 63 #[J y.P 0,U a,.slice da dl g] W (A9 B y d cf h W (if ci h.m a (ys.length:Int)=0 then ay h.m a ys ys.length else h.m) (ci h.m a (ys.length:Int))):=by
 let b:=H (mC B y d cf h 5 0 0 a 0 da dl g ys W e c ha Z f i);unfold bZ at b;rw[GO ar,GP rfl]at b;unfold kf at b;generalize (if ci h.m a (ys.length:Int)=0 then ay h.m a ys ys.length else h.m)=o at*;generalize ci h.m a (ys.length:Int)=l at*;generalize y.P=P at*;go_in;go_wp2_with fail;apply (b).mono;rintro e W'⟨m,c,j,⟨k,v,rfl,f⟩|⟨k,rfl⟩⟩
 .let n:=H (IT c (IT j f));go_wp2;go_end0;exact⟨m,n.1,n.2.1,.inl ⟨k,rfl⟩⟩
 exact⟨rfl,m,c,j,.inr ⟨k,rfl⟩⟩
def Al{a d f:Nat}(p:c<12)(q:s<6)(r:j<aM c)(g:a<12)(i:d<6)(l:f<aM a)(h:bh c s j=bh a d f):(c,s,j)=(a,d,f):=by
 let⟨k,t,e⟩:=Oa p q r;let⟨n,m,o⟩:=Oa g i l;let u:gt k=bh c s j:=by unfold gt;rw[e]
 let v:gt n=bh a d f:=by unfold gt;rw[o]
 rcases Ie k n with b|b|b;.have:=mS b m;omega
 .rw[<-e,<-o,b]
 have:=mS b t;omega
def gB(h:ce p=some (c,s,j)):c<12/\s<6/\j<aM c/\bh c s j=p:=by unfold ce at h;let a:=oD (Ip h);let b:=List.find?_some h;simp at b;exact⟨a.1,a.2.1,a.2.2,b⟩
def fI(a:c<12)(b:s<6)(d:j<aM c):ce (bh c s j)=some (c,s,j):=by
 cases e:ce (bh c s j)with
 |some t=>let⟨l,m,n⟩:=t;let⟨f,g,i,k⟩:=gB e;rw[Al f g i a b d k]
 | none=>
  unfold ce at e;let f:(c,s,j)∈dF:=by unfold dF;simp only[List.mem_flatMap,Gh,FQ];exact⟨c,a,s,b,j,d,rfl⟩
  have:=List.find?_eq_none.1 e _ f;simp at this
def wP(h:Dec (p:Int) v):(∃c s j:Nat,c<12/\s<6/\j<aM c/\p=bh c s j/\v=pl 3 (c:Nat) (s:Nat) (j:Nat) 0 0)\/(ce p=none/\∃k c s t q o:Int,v=pl k c s t q o/\(k≠3\/o≠0)):=by
 let i:∀{c s j:Nat},ce p=some (c,s,j)->1024<=p/\p<191488:=λ{c s j}e=>by let⟨k,u,g,G⟩:=gB e;have:=ca k u g;omega
 let a:(∀c s j,ce p≠some (c,s,j))->ce p=none:=λh=>by
  cases e:ce p with
  |none=>rfl
  |some t=>obtain⟨c,s,j⟩:=t;exact absurd e (h c s j)
 cases h with
 |out h=>exact .inr ⟨a (λc s j e=>by have:=i e;omega),0,0,0,0,0,0,rfl,.inl ar⟩
 |large K k=>exact .inr ⟨a (λc s j e=>by have:=i e;omega),4,0,0,0,_,_,rfl,.inl ar⟩
 |zero K k=>exact .inr ⟨a (λc s j e=>by have:=i e;omega),1,0,0,0,0,0,rfl,.inl ar⟩
 | slab c s K k m=>
  obtain⟨b,rfl⟩:∃b:Nat,c=(b:Int):=⟨c.toNat,by have:=m.c0;omega⟩;obtain⟨d,rfl⟩:∃d:Nat,s=(d:Int):=⟨s.toNat,by have:=m.s0;omega⟩;let f:b<12:=by have:=m.c1;omega
  let L:d<6:=by have:=m.s1;omega
  let N:=aX f;let n:=m.lo;let q:=m.hi;rw[OT f,pU f]at n q;rw[OT f,pU f];let x:((yJ b:Nat):Int)+(d:Int)*((dI b:Nat)+1)=(aD b d:Nat):=by unfold aD;simp
  rw[x]at n q⊢;obtain⟨o,Q⟩:∃o:Nat,p=aD b d*1024+o:=⟨p-aD b d*1024,Z⟩;let O:(p:Int)-(aD b d:Nat)*1024=(o:Int):=Z;rw[O];let l:∀c s j,ce p=some (c,s,j)->c=b/\s=d/\o=j*cy b/\j<aM b:=λc s j e=>by
   let⟨k,u,g,G⟩:=gB e;let z:=ca k u g;let y:aD c s*1024<=bh c s j:=(by unfold bh;omega);by_cases w:c=b/\s=d;.obtain⟨rfl,rfl⟩:=w;refine⟨rfl,rfl,?_,g⟩;unfold bh at G;omega
   rcases ew k u f L w with r|r<;>omega
  unfold zT;rw[pU f,vA f,uT f];by_cases M:((dI b:Nat):Int)*1024<=(o:Int)
  .rw[GP M];refine .inr ⟨a (λc s j e=>?_),_,_,_,_,_,_,rfl,.inl ar⟩;obtain⟨rfl,rfl,y,g⟩:=l c s j e;let r:(j+1)*cy c<=aM c*cy c:=Gm _ g;rw[Gy]at r;let w:aM c*cy c<=dI c*1024:=N.2.2.2.2.2.2.1;let z:(dI c*1024:Nat)<=o:=Z;omega
  rw[GO M];by_cases w:((aM b:Nat):Int)*((cy b:Nat):Int)<=(o:Int)
  .rw[GP w];refine .inr ⟨a (λc s j e=>?_),_,_,_,_,_,_,rfl,.inl ar⟩;obtain⟨rfl,rfl,y,g⟩:=l c s j e;let r:(j+1)*cy c<=aM c*cy c:=Gm _ g;rw[Gy]at r;let z:aM c*cy c<=o:=(by exact_mod_cast w);omega
  rw[GO w];let z:o<aM b*cy b:=by
   have:¬(aM b*cy b<=o):=λh=>w (by exact_mod_cast h)
   omega
  let A:((o:Int)/((cy b:Nat):Int))=((o/cy b:Nat):Int):=bH;let B:((o:Int)%((cy b:Nat):Int))=((o%cy b:Nat):Int):=bH;rw[A,B];by_cases F:o%cy b=0;.let P:o/cy b<aM b:=(Nat.div_lt_iff_lt_mul Z).2 z;refine .inl ⟨b,d,o/cy b,f,L,P,?_,by rw[F];rfl⟩;unfold bh;have:=Nat.div_add_mod o (cy b);rw[F,GL]at this;omega
  refine .inr ⟨a (λc s j e=>?_),_,_,_,_,_,_,rfl,.inr Z⟩;obtain⟨rfl,rfl,y,g⟩:=l c s j e;exact F (by rw[y];exact Nat.mul_mod_left _ _)
/-! the map of ranges -/
def fa:Keyed prog 24:=int_keyed underlying24
def zV(w:QM):(zeroValue 210).run prog w=.ok (.pointer none) w:=E
def xo(k:Nat)(h:k<18446744073709551616):keyOf prog 24 (.int .u64 k)=some (.int .u64 k):=keyOf_int_mk underlying24 (WalkArith.wf_u64 ⟨Z,Z⟩)
def Mr.look{lo}(h:Mr R n lo W)(k:Nat)(i:k<18446744073709551616):
  (Instr.lookup 90 (.map (some R)) (.int .u64 k) false).run prog W=.ok (.pointer ((lo k).map λb=>(Qz b 0))) W:=by
 let⟨a,d,_,g,_⟩:=h.map;let⟨v,ps,e,hv⟩:=d.lookup fa underlying90 (zV W) (show ev (.pointer none)=some (.nil,[])from rfl) (xo k i);rw[g k i]at hv;rw[e];rcases hF hv with⟨b,rfl,c⟩|⟨rfl,c⟩
 .cases f:lo k with
  |none=>rw[f]at c;simp[sG]at c
  |some j=>rw[f]at c;simp[sG]at c;have:j=b:=Z;subst this;rfl
 cases f:lo k with
 |none=>rfl
 |some j=>rw[f]at c;simp[sG]at c
def kY{k:Nat}(h:j≠k):(Lit.int .u64 (j:Int))≠.int .u64 (k:Int):=by intro e;injection e with _ e;omega
def A0{b:Nat}{a:DataW Unit}{R:QN->Option (DataW Unit×List MemPlace)}(h:W.ownsMap prog 24 R b n a){d:Nat}(e:Maps.size a<=d):W.ownsMap prog 24 R b d a:=by obtain⟨f,c,g,F,i,rfl⟩:=h;exact⟨f,c,g,F,by simpa[Maps.size,length_sorted]using e,rfl⟩
def Mr.del{R n lo W}(h:Mr R n lo W)(k:Nat)(l:k<18446744073709551616)(m:QO):
  ∃W',(Builtin.delete_ #[90,24] m #[.map (some R),.int .u64 k]).run prog W=.ok (.tuple #[]) W'/\Mr R (if(lo k).isSome then n-1 else n) (upd lo k none) W'/\W.mapTurned W' R:=by
 let⟨a,b,o,g,c⟩:=h.map;let⟨W',f,d,p⟩:=b.drop fa underlying90 (xo k l) m;refine⟨W',f,⟨a.del (.int .u64 k),d,?_,?_,?_⟩,p⟩
 .let e:=Maps.size_del (k:=.int .u64 k) (b.tidy fa);rw[c k l]at e;cases i:lo k<;>rw[i]at e<;>simp at e⊢<;>omega
 .intro j i;by_cases e:j=k;.subst e;rw[Maps.atKey_del_same,upd_same];rfl
  rw[Maps.atKey_del_other (kY e),aI lo k j _ e];exact g j i
 intro j i;by_cases e:j=k;.subst e;rw[Maps.has_del_same,upd_same];rfl
 rw[Maps.has_del_other (kY e),aI lo k j _ e];exact c j i
def Mr.put{R n lo W}(h:Mr R n lo W)(k b:Nat)(o:k<18446744073709551616)(p:lo k=none)(t:n<4096):
  ∃W',(Instr.mapUpdate 90 (.map (some R)) (.int .u64 k) (.pointer (some (Qz b 0)))).run prog W=.ok () W'/\Mr R (n+1) (upd lo k (some b)) W'/\W.mapTurned W' R:=by
 let⟨a,c,q,l,d⟩:=h.map;let⟨W',i,g,r⟩:=c.store fa underlying90 ar (xo k o) (ol b);let f:WideAt.IsKeyLit (.int .u64 (k:Int)):=by simp[WideAt.IsKeyLit]
 let s:Maps.size (a.put (.int .u64 k) (.lit (.int .i64 b)))<=n+1:=by let e:=Maps.size_put (k:=.int .u64 k) (c.tidy fa) (.lit (.int .i64 b));rw[d k o,p]at e;simp at e;omega
 refine⟨W',i,⟨_,A0 g Z,s,?_,?_⟩,r⟩
 .intro j m;by_cases e:j=k;.subst e;rw[Maps.atKey_put_same c.isMap f,upd_same];rfl
  rw[Maps.atKey_put_other (kY e),aI lo k j _ e];exact l j m
 intro j m;by_cases e:j=k;.subst e;rw[Maps.has_put_same c.isMap f,upd_same];rfl
 rw[Maps.has_put_other (kY e),aI lo k j _ e];exact d j m
/-! methods by way of an interface -/
def zQ(g:Nat)(w:QM): (method 531 199 (.pointer (some ⟨g,0,none⟩)) "loop.example/s01868/impl.kept").run prog w=.ok (352,.pointer (some ⟨g,0,none⟩)) w:=E
def yQ(g:Nat)(w:QM): (method 531 210 (.pointer (some ⟨g,0,none⟩)) "loop.example/s01868/impl.kept").run prog w=.ok (352,.pointer (some ⟨g,0,none⟩)) w:=E
def ym(y:Ly)(d:Dy)(p:Nat):Value:=
 match d.lg p with
 |some g=>.iface 210 (J g 0)
 |none=>match ce p with
  |some (c,s,j)=>.iface 199 (J (y.sm c s j) 0)
  |none=>.nilIface
def xj(cf y d u)(c s:Nat)(e:c<12)(f:s<6):boxF cf y d u (7+c*6+s)=J (y.sb c s) 0:=by unfold boxF;rw[GO Z,GP Z];let a:(7+c*6+s-7)/6=c:=Z;let b:(7+c*6+s-7)%6=s:=Z;rw[a,b]
def Hp.slabAt(a:Hp B y d cf h W)(c s:Nat)(b:c<12)(e:s<6):W.cell? (Qz y.P (7+c*6+s))=some (J (y.sb c s) 0):=a.cell _ Z _ (xj cf y d h.used c s b e)
def Hp.bc(b:Hp B y d cf h W)(c s:Nat)(e:c<12)(f:s<6):Bc (y.sb c s) (y.sr c s) c s (aM c) (y.sc c s) (d.on c s) W:=by let a:=b.sl c s e f;exact⟨bJ a,bJ a,bJ a,bJ a⟩
def Hp.rowAt(b:Hp B y d cf h W)(c s j:Nat)(e:c<12)(f:s<6)(a:j<aM c):W.cell? ⟨y.sr c s,j,none⟩=some (J (y.sm c s j) 0):=by rw[(b.rw c s e f).cell j (by simpa using a)];simp[a]
def Hp.smAt(b:Hp B y d cf h W)(c s j:Nat)(e:c<12)(f:s<6)(g:j<aM c):W.cell? ⟨y.sm c s j,0,none⟩=some (I (h.st c s j))/\W.cell? ⟨y.sm c s j,1,none⟩=some (I (h.rq c s j)):=by let a:=b.sm c s j e f g;exact⟨bJ a,bJ a⟩
def Hp.scAt(a:Hp B y d cf h W)(c s j:Nat)(b:c<12)(e:s<6)(f:j<aM c):Sc (y.sm c s j) (y.sb c s) c s j W:=by let g:=a.sm c s j b e f;let i:=a.bc c s b e;exact⟨bJ g,bJ g,i.d0,i.d1,a.tb,b,e,f⟩
def DI(B y d cf h)(p:Nat)(W)(m:Hp B y d cf h W)(L:p<18446744073709551616):
  QA 116 #[J y.P 0,U p] W λe W'=>e=QJ (ym y d p)/\D W W':=by
 have r:W.cell? (Qz y.P 115)=some (.map (some y.R)):=m.cell 115 Z _ rfl;let u:=m.mp.look p L;cases n:d.lg p with
 |some g=>have a:=H (show ym y d p=.iface 210 (J g 0) by unfold ym;rw[n]);rw[n]at u;simp[Hi]at u;clear m n;go_enter func116,ntmps116;go_wp2;go_ret;rw[a];exact⟨rfl,th⟩
 | none=>
  rw[n]at u;simp[Option.map_none]at u;have⟨g,M⟩:=y7 (iB (p:Nat) Z Z W m.tb) (λV(a:D W V)=>m.below a);have i:=H (show ym y d p=match ce p with
    |some (c,s,j)=>.iface 199 (J (y.sm c s j) 0)
    |none=>.nilIface by unfold ym;rw[n])
  clear m n;go_enter func116,ntmps116;go_wp2_with fail;apply (g).mono;rintro e V⟨⟨v,f,rfl⟩,b⟩;have P:∀{a:QM},D V a->D W a:=λhU=>b.trans (hU.mono b.size)
  clear b g u r;rcases wP f with⟨c,s,j,w,F,Q,rfl,rfl⟩|⟨N,k,c,s,t,q,o,rfl,l⟩
  ·rw[fI w F Q]at i;unfold pl;(go_upto_region 5 with fail);have g:=ao V (.cells #[I 3,I c,I s,I j,I 0,I 0] 281);have x:D V (V.alloc (.cells #[I 3,I c,I s,I j,I 0,I 0] 281)):=ph;generalize V.alloc _=a at*;generalize V.heap.size=X at*;have z0:a.cell? (Qz X 0)=some (I 3):=bJ g;have z1:a.cell? (Qz X 1)=some (I c):=bJ g;have z2:a.cell? (Qz X 2)=some (I s):=bJ g;have z3:a.cell? (Qz X 3)=some (I j):=bJ g;have z5:a.cell? (Qz X 5)=some (I 0):=bJ g;have z:Hid (D W a):=P x;have b:=M.out a z;have q1:=b.slabAt c s w F;have q2:=(b.bc c s w F).d3;have q3:=b.rowAt c s j w F Q;clear b g x f;generalize y.sm c s j=G at*;generalize y.sr c s=K at*;generalize y.sb c s=A at*;generalize y.sc c s=T at*;generalize aM c=Y at*;(go_upto_region 7 with fail);refine rh (S:=λb=>QG b X 1 (I c)/\QG b X 2 (I s)/\QG b X 3 (I j)/\QG b y.P (7+c*6+s) (J A 0)/\QG b A 3 (Vl K Y T)/\QG b K j (J G 0)) ?_;have b:=IT z1 (IT z2 (IT z3 (IT q1 (IT q2 q3))));(iterate 19 apply PX 0 b);refine bY ?_;clear b;go_wp2;go_ret;rw[i];exact⟨rfl,z.drew⟩
  rw[N]at i;unfold pl;go_upto_region 5 with fail
  have g:=ao V (.cells #[I k,I c,I s,I t,I q,I o] 281);have x:D V (V.alloc (.cells #[I k,I c,I s,I t,I q,I o] 281)):=ph;generalize V.alloc _=a at*;generalize V.heap.size=X at*;have z0:a.cell? (Qz X 0)=some (I k):=bJ g;have z5:a.cell? (Qz X 5)=some (I o):=bJ g;have z:Hid (D W a):=P x;clear g x f;by_cases b:k=3
  ·have A:(o !=0)=true:=(by rcases l with f|f;exact absurd b f;simpa using f);subst b;clear l;go_wp2;go_ret;rw[i];exact⟨rfl,z⟩
  have f:(k !=3)=true:=by simpa using b
  clear l b;go_wp2;go_ret;rw[i];exact⟨rfl,z⟩
structure Gd(d:Dy)(h:Hs)(an:QN):Prop where
 on:EN d h
 un:d.un=.nilFunc
 an:d.an=an
def Hg(B:Nat)(y:Ly)(cf:Cf)(h:Hs)(an:Value)(W:World):Prop:=∃d,Hp B y d cf h W/\Gd d h an
def Tk(B:Nat)(y:Ly)(cf:Cf)(h:Hs)(an:Value)(W:World):Prop:=∀V,D W V->QA 54 #[J y.P 0] V λe i=>e=.returned (.tuple #[])/\Hg B y cf h an i/\Bi B V i
def Hp.setDy(b:Hp B y d cf h W)(i:Nat)(v:QN)(f:Dy)(u:(i=119/\f={d with an:=v})\/(i=120/\f={d with un:=v})):Hp B y f cf h (W.setCell (Qz y.P i) v):=by
 let k:=b.box.kyS i v;refine(let_mvar%?A:=W.setCell (Qz y.P i) v;?_);let q:Below B W ?A:=(Fu B W).grown (au (Q6 W y.P) _ _) b.bW (λr t=>by simp at t;have:=b.ap.bP;omega);let w:=b.box.set i Z v;rw[pi cf y d h.used i v f (by rcases u with l|l;exact .inr (.inr (.inl l));exact .inr (.inr (.inr l)))]at w;let A:(?A).heap[y.M]?=W.heap[y.M]?:=XB (λe=>by let⟨c,l,_⟩:=b.box;obtain⟨a,⟨F,G,m,_⟩,_⟩:=b.sp.map;rw[e,l]at m;cases m)
 let K:(?A).heap[y.R]?=W.heap[y.R]?:=XB (λe=>by let⟨c,l,_⟩:=b.box;let⟨F,G,m⟩:=b.mp.typ;rw[e,l]at m;cases m)
 let n:f.f=d.f/\f.on=d.on/\f.lg=d.lg/\f.ro=d.ro/\f.rl=d.rl:=by rcases u with⟨_,rfl⟩|⟨_,rfl⟩<;>exact⟨rfl,rfl,rfl,rfl,rfl⟩
 let⟨n,L,p,x,z⟩:=n;exact⟨b.ap,Fx b.bW q.size,w,b.ds.belowB q b.ap.da,n▸b.sp.ky k ar A,n▸b.pg.ky k ar,n▸b.bf,
 λc s a o=>by rw[L];exact k.XC (b.sl c s a o),λc s a o=>cL (b.rw c s a o) k ar,λc s j a o M=>k.XC (b.sm c s j a o M),
 λc a=>(b.wt c a).ky k ar ar ar,p▸b.mp.same K,p▸b.lo,λr t=>by obtain⟨g,l,m,N⟩:=b.lb r t;exact⟨g,by rwa[p],m,k.XC N⟩,p▸b.li,x▸b.ro.ky k ar,z▸ai b.rl k,by rw[x,z];exact b.rr,b.tb.belowB q b.ap.b0⟩
def yH(w:QM):(binOp .neq 1 .nilFunc .nilFunc).run prog w=.ok Qk w:=E
def qM(a:Fn)(b c:Array QN)(w:QM):(binOp .neq 1 (.func a b c) .nilFunc).run prog w=.ok Ql w:=E
def zK(w:QM){d:QN}(g i:Nat)(a:Fn)(b c:Array QN)(e:QG w g i d)(f:w.frozen? (Qz g i)=false):(store (Qz g i) (.func a b c)).run prog w=.ok () (w.setCell (Qz g i) (.func a b c)):=by rw[_root_.Go.run_store _ _ _ _ _ rfl,e];simp[f]
def mG(w:QM){a:QN}(g i:Nat)(b:QG w g i a)(c:w.frozen? (Qz g i)=false):(store (Qz g i) .nilFunc).run prog w=.ok () (w.setCell (Qz g i) .nilFunc):=by rw[_root_.Go.run_store _ _ _ _ _ rfl,b];simp[c]
def pO(P:Nat)(W:QM)(c:W.cell? (Qz P 120)=some .nilFunc):Calls prog 54 #[J P 0] W λe W'=>e=QJ (.tuple #[])/\W'=W:=by let nq:=yH;go_wp2;go_end0;exact QB
def Hg.tk{an}(f:Hg B y cf h an W):Tk B y cf h an W:=by intro V g;let⟨d,i,b⟩:=f;let a:=i.below g;let c:=a.cell 120 Z _ rfl;let e:boxF cf y d h.used 120=d.un:=rfl;rw[e,b.un]at c;apply(pO y.P V c).mono;rintro e W'⟨rfl,rfl⟩;exact⟨rfl,⟨d,a,b⟩,Bi.refl _ _⟩
def Tk.below{an}(k:Tk B y cf h an W)(b:D W W'):Tk B y cf h an W':=λV a=>k V (b.trans (a.mono b.size))
def jS{m:Nat->Option (Bool×List Int)}{p:Nat}{v:Bool}: ∀{c:Nat},(∀i,i<c->(m (p+i)).isSome=v)->fC m p v c=true
 |0,_=>rfl
 |c+1,h=>by
  unfold fC
  rw[jS (λi a=>h i Z),h c Z]
  simp
def px{bud}{m:Nat->Option (Bool×List Int)}(b:1<=c)(d:p+c<=283)(a:∀i,i<c->(m (p+i)).isSome=false):bZ 283 bud m 0 (p:Nat) (c:Nat) 0 0 []=if bud<(bz m 283:Int)+c then(m,1,[])else(aT m p c,0,[]):=by unfold bZ;rw[GO ar,GO ar,GO ar,GP (by unfold AB;omega)];unfold kx;rw[GP rfl,F0,F0,jS a,GO ar];split<;>rfl
def mH{bud}{m:Nat->Option (Bool×List Int)}(b:1<=c)(d:p+c<=283)(a:∀i,i<c->(m (p+i)).isSome=true):bZ 283 bud m 1 (p:Nat) (c:Nat) 0 0 []=(bQ m p c,0,[]):=by unfold bZ;rw[GO ar,GO ar,GO ar,GP (by unfold AB;omega)];unfold kx;rw[GO ar,F0,F0,jS a,GO ar,GP rfl]
def Ff(B:Nat)(y:Ly)(d:Dy)(cf:Cf)(h:Hs)(p c:Nat)(t:Fn)(j l:Array Value)(W:World)(e:Ending)(W':World):Prop:=∃i,Bi B W W' /\
   ((¬((cf.bud:Int)<(bz h.m 283:Int)+c)/\e=.returned (.tuple #[])/\Hp B y {d with f:=i,un:=.nilFunc} cf {h with m:=aT h.m p c} W')\/((cf.bud:Int)<(bz h.m 283:Int)+c/\e=.panicked (ip 1)/\Hp B y {d with f:=i,un:=.func t j l} cf h W'))
def nA(B y d cf h)(p c:Nat)(b:Fn)(g j:Array QN)(W)(s:Hp B y d cf h W)(q:∀k,283<=k->h.m k=none)(K:1<=c)(L:p+c<=283)(M:∀i,i<c->(h.m (p+i)).isSome=false):
  Calls prog 160 #[J y.P 0,kf 0 (p:Nat) (c:Nat) 0 0 none 0 0,.func b g j] W (Ff B y d cf h p c b g j W):=by
 let A:=px (bud:=(cf.bud:Nat)) K L M;let⟨V,t⟩:=Qb (W.alloc (.cells #[I 0,I p,I c,U (0:Nat),I 0,C] 216));let w:D W V:=by rw[t];exact ph
 let X:=(show V.heap[W.heap.size]?=some (.cells #[I 0,I p,I c,U (0:Nat),I 0,C] 216) by rw[t];exact ao W _);let e:=s.below w;let k:=e.setDy 120 (.func b g j) {d with un:=.func b g j} (.inr ⟨rfl,rfl⟩);have l:=H ((Bi.ofBelow w s.bW).trans (e.bi118 120 (.func b g j)));let i:=e.cell 120 Z _ rfl;have u:=H (λa(o:Hp B y {d with un:=.func b g j} cf h a)=>mC B y {d with un:=.func b g j} cf h 0 (p:Nat) (c:Nat) 0 0 none 0 0 [] a o q Z Z (Da.nil _ _ _ _) gi);rw[A]at u;have x:W.heap.size≠y.P:=by have:=s.box.lt;omega
 refine(let_mvar%?A:=V.setCell (Qz y.P 120) (.func b g j);?_);have⟨z,F⟩:=y7 (show(?A).heap[W.heap.size]?=some (.cells #[I 0,I p,I c,U (0:Nat),I 0,C] 216)from(XB x).trans X) k;have r:boxF cf y d h.used 120=d.un:=rfl;rw[r]at i;unfold kf at u⊢;have N:=zK V y.P 120 b g j i (e.box.free 120);clear k e w X s A;go_in;go_upto_region 1 with fail
 apply Eq.mp (congrArg _ t);clear t;go_upto_region 2 with fail
 generalize ?A=Q at*;generalize W.heap.size=X at z⊢;go_wp2_with (first|(apply Rl rfl 216 _ rfl _ rfl _ _ _ _ z underlying216 rfl E));apply(u _ F).mono;clear i;by_cases s:(cf.bud:Int)<(bz h.m 283:Int)+c
 .rw[GP s];rintro e a⟨n,i,k,⟨t,_⟩|⟨_,rfl⟩⟩;.cases t
  exact⟨rfl,n,l.trans k,.inr ⟨s,rfl,i⟩⟩
 rw[GO s];rintro e a⟨n,i,k,⟨_,v,rfl,_⟩|⟨t,_⟩⟩
 .let⟨u,w,z,A⟩:=(H (λa n q(o:Hp B y {d with f:=n,un:=.func b g j} cf {h with m:=q} a)=>IT (o.setDy 120 .nilFunc {d with f:=n,un:=.nilFunc} (.inr ⟨rfl,rfl⟩)) (IT (o.bi118 120 .nilFunc) (IT (o.cell 120 Z (.func b g j) rfl) (o.box.free 120))))).out a n _ i;let⟨F,O⟩:=y7 u (l.trans (k.trans w));let P:=mG a y.P 120 z A;clear u w i k;go_wp2;go_end0;exact⟨n,O,.inl ⟨Z,rfl,F⟩⟩
 exact absurd rfl t
def nC(a:W.mapTurned W' R):Fr R R (λ_=>none) (λ_=>none) W W':=(Fr.refl R R (λ_=>none) W).turned a
def iC(i:W.mapTurned W' R)(j:∃d c,W.heap[R]?=some (.map d c)):Ky (λ_=>False) W W':=by
 let f:=nC i;let⟨d,c,k⟩:=j;refine⟨f.os,f.tape,f.output,f.size,λg l t m b _=>?_⟩;let a:g≠R:=λe=>by rw[e,k]at b;cases b
 rwa[f.block g (ag b) a a (λk a=>by cases a)]
def lW(d e:QO){o:Oper}{a:Act}{K:Act->QM->Prop}{Q:Exit->Act->QM->Prop}(m x:Operand){vm vx:QN}(c:o.op=Op.call {callee:=Callee.builtin Builtin.delete,args:=#[m,x],argTypes:=#[d,e]})(f:a.eval m=vm)(g:a.eval x=vx)
  (b:(Builtin.delete_ #[d,e] o.type #[vm,vx]).run prog W=.ok v W') (i:K (a.put o.dst v) W'):Oper.wp prog o a W K Q:=by
 unfold Oper.wp;simp[execOp,c,resolve,invoke,builtin,f,g,b,Result.andThen];exact i
def mb(d:QO){o:Oper}{a:Act}{K:Act->QM->Prop}{Q:Exit->Act->QM->Prop}(m x u:Operand){vm vx vu:QN}(c:o.op=Op.mapUpdate d m x u)(e:a.eval m=vm)(f:a.eval x=vx)(g:a.eval u=vu)
  (b:(Instr.mapUpdate d vm vx vu).run prog W=.ok () W') (i:K (a.put o.dst undef) W'):Oper.wp prog o a W K Q:=by
 unfold Oper.wp;simp[execOp,c,e,f,g,b,Result.andThen];exact i
def Ky.cellK(k:Ky (λ_=>False) W W'){g i:Nat}(h:W.cell? (Qz g i)=some v):W'.cell? (Qz g i)=some v:=by
 unfold World.cell? at h⊢;split at h
 case h_1 c t f hg=>rwa[k.cells g c t f hg (λe=>e)]
 case h_2=>cases h
def Hp.turn(a:Hp B y d cf h W)(o:W.mapTurned W' y.R)(lg')(b:List Rg9)(p:Mr y.R b.length lg' W')(q:∀k,(lg' k).isSome=b.any λr=>r.base==k)(t:∀r∈b,∃g,lg' r.base=some g/\B<=g/\W.heap[g]?=some (.cells (oV r) 225))(u:∀k e g,lg' k=some g->lg' e=some g->k=e):
  Hp B y {d with lg:=lg'} cf {h with rg:=b} W'/\Bi B W W':=by
 let f:=nC o;let k:=iC o a.mp.typ;let n:Below B W W':=⟨f.os,f.tape,f.output,f.size,λg v=>f.block g (FG v a.bW) (by have:=a.ap.bR;omega) (by have:=a.ap.bR;omega) (λj l=>by cases l)⟩;exact⟨⟨a.ap,Fx a.bW n.size,a.box.ky k (λe=>e),a.ds.belowB n a.ap.da,a.sp.ky k (λe=>e) (f.block _ a.sp.lt.2 a.ap.mr a.ap.mr (λj l=>by cases l)),a.pg.ky k (λe=>e),a.bf,
 λc s i m=>k.XC (a.sl c s i m) (λe=>e),λc s i m=>cL (a.rw c s i m) k (λe=>e),λc s j i m l=>k.XC (a.sm c s j i m l) (λe=>e),
 λc i=>(a.wt c i).ky k (λe=>e) (λe=>e) (λe=>e),p,q,λr x=>by obtain⟨g,z,A,F⟩:=t r x;exact⟨g,z,A,k.XC F (λe=>e)⟩,u,a.ro.ky k (λe=>e),ai a.rl k (λe=>e),a.rr,a.tb.belowB n a.ap.b0⟩,n,k.more (λt e=>e.elim)⟩
def Hp.addR(i:Hp B y d cf h W){r}{L:Nat}(p:W.heap[L]?=some (.cells (oV r) 225))(l:B<=L)(b:∀k,d.lg k≠some L)(q:d.lg r.base=none)(s:Mr y.R (h.rg.length+1) (upd d.lg r.base (some L)) W')(t:W.mapTurned W' y.R):
  Hp B y {d with lg:=upd d.lg r.base (some L)} cf {h with rg:=h.rg++[r]} W'/\Bi B W W':=by
 refine i.turn t _ (h.rg++[r]) (by rwa[FC]) (λk=>?_) (λm n=>?_) (λk j g a c=>?_)
 .rw[List.any_append];by_cases e:k=r.base;.subst e;rw[upd_same];simp
  rw[aI _ _ _ _ e,i.lo k];have:(r.base==k)=false:=bG;simp[this]
 .rcases F8.1 n with a|a
  .let⟨g,f,u,v⟩:=i.lb m a;let o:m.base≠r.base:=λe=>by rw[e,q]at f;cases f
   exact⟨g,by rwa[aI _ _ _ _ o],u,v⟩
  have:m=r:=by simpa using a
  subst this;exact⟨L,upd_same,l,p⟩
 by_cases e:k=r.base
 .subst e;rw[upd_same]at a;cases a;by_cases f:j=r.base;.exact f.symm
  rw[aI _ _ _ _ f]at c;exact absurd c (b j)
 rw[aI _ _ _ _ e]at a;by_cases f:j=r.base
 .subst f;rw[upd_same]at c;cases c;exact absurd a (b k)
 rw[aI _ _ _ _ f]at c;exact i.li k j g a c
def Hp.backR{r:Rg9}{L:Nat}{lg}(c:Hp B y d cf {h with rg:=h.rg++[r]} W)(f:d.lg=upd lg r.base (some L))(i:lg r.base=none)(l:∀k,(lg k).isSome=h.rg.any λr=>r.base==k)(m:Mr y.R h.rg.length (upd d.lg r.base none) W')(o:W.mapTurned W' y.R):
  Hp B y {d with lg:=lg} cf h W'/\Bi B W W':=by
 let p:upd d.lg r.base none=lg:=by
  rw[f];funext k;by_cases e:k=r.base;.subst e;rw[upd_same,i]
  rw[aI _ _ _ _ e,aI _ _ _ _ e]
 rw[p]at m;let s:∀b∈h.rg,b.base≠r.base:=λb a e=>by have:=l b.base;rw[e,i]at this;let j:h.rg.any (λx=>x.base==r.base)=true:=List.any_eq_true.2 ⟨b,a,by simp[e]⟩;rw[j]at this;cases this
 exact c.turn o lg h.rg m l (λb a=>by
  let⟨g,n,q,t⟩:=c.lb b (IF _ a);rw[f,aI _ _ _ _ (s b a)]at n;exact⟨g,n,q,t⟩) (λk b g l j=>by
  let q:∀k,lg k=some g->d.lg k=some g:=λk a=>by
   rw[f];by_cases e:k=r.base;.subst e;rw[i]at a;cases a
   rwa[aI _ _ _ _ e]
  exact c.li k b g (q k l) (q b j))
def yi(B y d cf)(h:Hs)(r:Rg9)(L l m:Nat)(lg W)(f:Hp B y d cf {h with rg:=h.rg++[r]} W)(g:d.lg=upd lg r.base (some L))(j:lg r.base=none)(s:∀k,(lg k).isSome=h.rg.any λr=>r.base==k)(k:Lc L r W)(A:r.base<18446744073709551616)(n:QG W l 0 (J y.P 0))(t:QG W m 0 (J L 0)):
  Calls prog 162 #[J l 0,J m 0] W λe W'=>e=QJ (.tuple #[])/\Hp B y {d with lg:=lg} cf h W'/\Bi B W W':=by
 let b:=f.cell 115 Z _ rfl;let⟨u,c,i,o⟩:=Qf (λV(a:D W V)=>ie L r V (k.below a)) (λV(a:D W V)=>f.below a) (λV W'(a:D W V)(mr:Mr y.R h.rg.length (upd d.lg r.base none) W')(mt:V.mapTurned W' y.R)=>(f.below a).backR g j s mr mt) f.bW;have p:=H (show((d.lg r.base).isSome=true) by rw[g,upd_same];rfl);have q:Hid (∀V,D W V->QG V l 0 (J y.P 0)/\QG V m 0 (J L 0)/\QG V y.P 115 (.map (some y.R))):=λV a=>⟨NI a n,NI a t,NI a b⟩;clear f g j s k n t b;go_wp2;refine rh (S:=λa=>QG a l 0 (J y.P 0)/\QG a m 0 (J L 0)/\QG a y.P 115 (.map (some y.R))) ?_;have k:=q.out _ ld;iterate 5 (apply py k;simp[f0,f1,Nat.reduceAdd,lz,l0,ls])
 refine po 5 λK' n=>?_;go_simp;apply(u _ ld).mono;rintro e G⟨rfl,rfl⟩;have g:=q.out W.drew.drew ld.drew;refine n _ _ ⟨g,?_⟩;clear k;have k:=g;clear n K';refine po 6 λK' n=>?_
 have⟨t,b,j,f⟩:=(c W.drew.drew ld.drew).mp.del r.base A 0;have K2:=H ((iC f (c W.drew.drew ld.drew).mp.typ));apply lW 90 24 (.tmp 5) (.tmp 7) (vm:=.map (some y.R)) (vx:=U r.base) E E E b;refine n _ _ ⟨⟨(K2.cellK g.1),K2.cellK g.2.1,(K2.cellK g.2.2)⟩,?_⟩;refine bY ?_;have z:=H (i _ t ld.drew (by have:=j;rw[GP p.out]at this;simpa using this) f)
 clear j f b g k;go_wp2;go_end0;exact⟨rfl,z.1,(((Bi.refl B W).add ld.drew o).trans z.2)⟩
def N8(B y d cf)(h:Hs)(r:Rg9)(L b c:Nat)(lg W)(g:Hp B y d cf {h with rg:=h.rg++[r]} W)(j:d.lg=upd lg r.base (some L))(l:lg r.base=none)(m:∀k,(lg k).isSome=h.rg.any λr=>r.base==k)(k:Lc L r W)(q:r.base<18446744073709551616)(n:QG W b 0 (J y.P 0))(o:QG W c 0 (J L 0))(i:d.un=.func (.func 162) #[] #[J b 0,J c 0]):
  Calls prog 54 #[J y.P 0] W λe W'=>e=QJ (.tuple #[])/\Hp B y {d with lg:=lg,un:=.nilFunc} cf h W'/\Bi B W W':=by
 let f:=g.cell 120 Z _ rfl;let a:∀u,boxF cf y d u 120=d.un:=λ_=>rfl
 rw[a,i]at f;let nq:=λw=>qM (.func 162) #[] #[J b 0,J c 0] w
 go_in;go_wp2_with fail;apply (H (yi B y d cf h r L b c lg W g j l m k q n o)).mono;rintro e n⟨rfl,a,g⟩;let i:=a.cell 120 Z (.func (.func 162) #[] #[J b 0,J c 0]) (by exact (H i));let j:=mG _ y.P 120 i (a.box.free 120);let⟨k,l⟩:=y7 (a.setDy 120 .nilFunc {d with lg:=lg,un:=.nilFunc} (.inr ⟨rfl,rfl⟩)) (g.trans (a.bi118 120 .nilFunc));go_wp2;go_end0;exact⟨rfl,k,l⟩
def Hp.rows(a:Hp B y d cf h W)(k:Ky (λt=>t=24\/t=92) W W')(n:Below B W W')(t:W'.heap[y.M]?=W.heap[y.M]?)(u:W'.heap[y.R]?=W.heap[y.R]?)(l m:QN)(f b:List Nat)(v:Bxh y.P (boxF cf y {d with ro:=l,rl:=m} h.used) W')(o:Um B W' l f)(p:W'.ownsRow B 24 1 m b.length (Us b))(q:∀g,ee l=some g->m.ownBlock≠some g):
  Hp B y {d with ro:=l,rl:=m} cf {h with row:=f,rel:=b} W':=
 ⟨a.ap,Fx a.bW n.size,v,a.ds.belowB n a.ap.da,a.sp.ky k ar t,a.pg.ky k ar,a.bf,
 λc s e i=>k.XC (a.sl c s e i),λc s e i=>cL (a.rw c s e i) k ar,λc s j e i w=>k.XC (a.sm c s j e i w),
 λc e=>(a.wt c e).ky k ar ar ar,a.mp.same u,a.lo,λr x=>by obtain⟨g,o,p,q⟩:=a.lb r x;exact⟨g,o,p,k.XC q⟩,a.li,o,p,q,a.tb.belowB n a.ap.b0⟩
def lS{l}(h:Um B W v l){g:Nat}(a:ee v=some g):B<=g/\∃c,W.heap[g]?=some (.cells c 24):=by
 rcases h with⟨rfl,_⟩|⟨f,o,b,c,rfl,d,e,_⟩;.cases a
 cases a;exact⟨d,c,e⟩
def Um.kept{l}(h:Um B W v l){r:Option Nat}(e:W.grownBy W' r)(a:∀g,ee v=some g->r≠some g):Um B W' v l:=by
 rcases h with h|⟨g,o,b,c,rfl,f,d,i⟩;.exact .inl h
 exact .inr ⟨g,o,b,c,rfl,f,by rwa[e.block g (ag d) (λe=>a g rfl e.symm)],i⟩
structure Gw(B:Nat)(y:Ly)(W W1:QM):Prop where
 k:Ky (· =24) W W1
 bl:Below B W W1
 m:W1.heap[y.M]?=W.heap[y.M]?
 r:W1.heap[y.R]?=W.heap[y.R]?
def Hp.gw(i:Hp B y d cf h W){o:Option Nat}(j:∀g,o=some g->B<=g/\∃c,W.heap[g]?=some (.cells c 24))(g:W.grownBy W1 o):Gw B y W W1:=by
 refine⟨Ky.grownO (λP a=>by obtain⟨_,c,f⟩:=j P a;exact⟨c,24,(0,0),f,rfl⟩) g,(Fu B W).grown g i.bW (λr a=>(j r a).1),?_,?_⟩;.refine g.block _ i.sp.lt.2 (λe=>?_);let⟨_,c,f⟩:=j _ e.symm;obtain⟨a,⟨k,l,b,_⟩,_⟩:=i.sp.map;rw[f]at b;cases b
 let⟨k,l,b⟩:=i.mp.typ;refine g.block _ (ag b) (λe=>?_);let⟨_,c,f⟩:=j _ e.symm;rw[f]at b;cases b
def Gw.bi(g:Gw B y W W1):Bi B W W1:=⟨g.bl,g.k.more (λt e=>by subst e;unfold hI;decide)⟩
def Hp.setRl(b:Hp B y d cf h W){v':QN}{k:List Nat}(n:W1.ownsRow B 24 1 v' k.length (Us k))(g:W.grownBy W1 d.rl.ownBlock)(q:∀g,ee d.ro=some g->v'.ownBlock≠some g):
  Hp B y {d with rl:=v'} cf {h with rel:=k} (W1.setCell (Qz y.P 117) v')/\Bi B W (W1.setCell (Qz y.P 117) v')/\QG W1 y.P 117 d.rl/\W1.frozen? (Qz y.P 117)=false:=by
 let f:=b.gw (λg a=>aF b.rl a) g;let l:=b.box.ky f.k ar;let i:=l.set 117 Z v';rw[pi cf y d h.used 117 v' {d with rl:=v'} (.inr (.inl ⟨rfl,rfl⟩))]at i;let m:=l.kyS 117 v';refine(let_mvar%?A:=W1.setCell (Qz y.P 117) v';?_);let p:Below B W1 ?A:=(Fu B W1).grown (au (Q6 W1 y.P) _ _) (Fx b.bW f.bl.size) (λr a=>by simp at a;have:=b.ap.bP;omega);let r:(?A).heap[y.M]?=W1.heap[y.M]?:=XB (λe=>by let⟨c,o,_⟩:=b.box;obtain⟨a,⟨u,v,j,_⟩,_⟩:=b.sp.map;rw[e,o]at j;cases j)
 let a:(?A).heap[y.R]?=W1.heap[y.R]?:=XB (λe=>by let⟨c,o,_⟩:=b.box;let⟨u,v,j⟩:=b.mp.typ;rw[e,o]at j;cases j)
 refine⟨b.rows ((f.k.more (λt e=>.inl e)).trans (m.more (λt e=>.inr e))) (f.bl.trans p) (r.trans f.m) (a.trans f.r) d.ro v' h.row k i ((b.ro.kept g (λe a=>b.rr e a)).ky m ar) (ai n m) q,f.bi.trans ⟨p,m.more (λt e=>by subst e;unfold hI;decide)⟩,l.cell 117 Z,l.free 117⟩
end
def fw(code:Int):List PanicEntry:=[{v:=.iface 127 (.agg #[I code]),recovered:=false}]
structure Rn9(P X2 X3 X4:Nat)(kd ref:Int)(p a b:Nat)(d:QP)(dl dc:Nat)(Q:QM->Prop)(N:Int->QM->Prop)(post:Ending->QM->Prop):Prop where
 x2:∀V,Q V->V.cell? (Qz X2 0)=some (J P 0)
 x3:∀V,Q V->V.heap[X3]?=some (.cells #[I kd,I ref,U p,U a,U b,.slice d dl dc] 63)
 x4:∀V,Q V->V.heap[X4]?=some (.cells #[I 0,U 0,I 0,C] 94)
 qd:∀V,Q V->Q V.drew
 id:∀V,CallsD prog 53 #[J X2 0,J X4 0] .returning V λe u' W'=>e=QJ (.tuple #[])/\u'=.returning/\W'=V
 no:∀code V,N code V->CallsD prog 53 #[J X2 0,J X4 0] (.panicking (fw code)) V λe u W'=>e=QJ (.tuple #[])/\u=.panicking [{v:=.iface 127 (.agg #[I code]),recovered:=true}]/\∃r1 r2 r3 r4,W'.heap[X4]?=some (.cells #[r1,r2,r3,r4] 94)/\post (QJ (.agg #[r1,r2,r3,r4])) W'
def Rn9.cell{P X2 X3 X4 kd ref p a b d dl dc Q N post}(r:Rn9 P X2 X3 X4 kd ref p a b d dl dc Q N post){V:QM}(h:Q V):
  V.cell? (Qz X2 0)=some (J P 0)/\V.cell? (Qz X3 0)=some (I kd)/\V.cell? (Qz X3 1)=some (I ref)/\V.cell? (Qz X3 2)=some (U p)/\V.cell? (Qz X3 3)=some (U a)/\V.cell? (Qz X3 4)=some (U b)/\V.cell? (Qz X3 5)=some (.slice d dl dc):=by
 let c:=r.x3 V h;refine⟨r.x2 V h,?_,?_,?_,?_,?_,?_⟩<;>(rw[ac c];rfl)
def eT{P:Program}{e:Func}{t j:Array QN}{R:Ending->QM->Prop}(g:results e t=results e j):∀(a:List Deferred)(u:FrameMode)(w:QM),Leaves P e t R a u w->Leaves P e j R a u w
 |[],.returning,w,⟨v,b,f⟩=>⟨v,by rwa[<-g],f⟩
 |[],.panicking c,w,h=>h
 |[],.run,w,h=>h
 | d::a,u,w,⟨k,fv,i,f,b,l,m,h⟩=>⟨k,fv,i,f,b,l,m,h.mono (λe b b b=>by
   cases e with
   |returned v=>exact eT g a _ _ b
   |panicked v=>exact eT g a _ _ b
   |outgrown=>exact b)⟩
def xr{t:Array QN}(d:Nat){v:QN}(a:d≠4):results Tryz.f28 (t.setIfInBounds d v)=results Tryz.f28 t:=by unfold results;simp only[Tryz.results28];simp[a]
def fc{P X2 X3 X4 kd ref p a b d dl dc Q N post}(r:Rn9 P X2 X3 X4 kd ref p a b d dl dc Q N post){V:QM}(c:Int)(h:N c V){g:Array QN}(i:g.getD 4 undef=J X4 0):
  Leaves prog Tryz.f28 g post [{target:=.fn (.func 53) #[J X2 0,J X4 0],args:=#[]}] (.panicking (fw c)) V:=by
 apply Iy (f:=53) (args:=#[J X2 0,J X4 0]) bH (by simp[go_sem]);apply(r.no c V h).mono;rintro e u l⟨rfl,rfl,m,n,o,q,j,k⟩;exact⟨_,Gq dU _ _ X4 94 _ (0,0) _ i j underlying94 rfl E,k⟩
def eo{P X2 X3 X4 kd ref p a b d dl dc Q N post}(r:Rn9 P X2 X3 X4 kd ref p a b d dl dc Q N post){V:QM}(g i j k:QN)(l:V.heap[X4]?=some (.cells #[g,i,j,k] 94))(m:post (QJ (.agg #[g,i,j,k])) V){c:Array QN}(n:c.getD 4 undef=J X4 0):
  Leaves prog Tryz.f28 c post [{target:=.fn (.func 53) #[J X2 0,J X4 0],args:=#[]}] .returning V:=by
 apply Iy (f:=53) (args:=#[J X2 0,J X4 0]) bH (by simp[go_sem]);apply(r.id V).mono;rintro e u o⟨rfl,rfl,rfl⟩;exact⟨_,Gq dU _ _ X4 94 _ (0,0) _ n l underlying94 rfl E,m⟩
def three(W:World)(P:Nat)(op:Array Value):World:=((W.alloc (.cells #[J P 0] 77)).alloc (.cells op 63)).alloc (.cells #[I 0,U 0,I 0,C] 94)
def zv(P){X2 X3 X4}(kd ref p a b d dl dc)(W:QM){Q N post}(i:Rn9 P X2 X3 X4 kd ref p a b d dl dc Q N post)(c:X2=W.heap.size)(f:X3=W.heap.size+1)(g:X4=W.heap.size+1+1)(j:Q (three W P #[I kd,I ref,U p,U a,U b,.slice d dl dc]))(k:∀V,Q V->QA 55 #[J P 0,.agg #[I kd,I ref,U p,U a,U b,.slice d dl dc]] V λe l=>e=.panicked (fw 6)/\N 6 l):
  QA 28 #[J P 0,.agg #[I kd,I ref,U p,U a,U b,.slice d dl dc]] W post:=by
 let⟨m,l,i⟩:=Qe i j k;unfold three at l;go_enter_defers func28,ntmps28;go_wp2_with fail;rw[<-g,<-f,<-c];apply (i _ l).mono;rintro e V⟨rfl,j⟩;exact fc m 6 j rfl
def zh(P){X2 X3 X4}(kd ref p a b d dl dc)(q:Nat)(z:Nat){u:Nat->Nat->Nat->QM->Prop}(v:QM->Prop)(W:QM){Q N post}(f:Rn9 P X2 X3 X4 kd ref p a b d dl dc Q N post)(i:X2=W.heap.size)(l:X3=W.heap.size+1)(m:X4=W.heap.size+1+1)(o:Q (three W P #[I kd,I ref,U p,U a,U b,.slice d dl dc]))(F:kd=0)(x:∀V,Q V->QA 55 #[J P 0,.agg #[I kd,I ref,U p,U a,U b,.slice d dl dc]] V λe k=>e=QJ (U q)/\Q k)(y:∀V,Q V->QA 56 #[J P 0,U a] V λe k=>(∃c,e=.panicked (fw c)/\N c k)\/∃t g j,e=QJ (.iface t (J g 0))/\(t=199/\j=114\/t=210/\j=159)/\u t g j k)(A:∀t g j V,u t g j V->QA j #[J g 0] V λe k=>e=QJ (U z)/\v k)(f9:∀V,v V->V.heap[X4]?=some (.cells #[I 0,U 0,I 0,C] 94)/\post (QJ (.agg #[I 0,U z,I 0,C])) (V.setRow X4 #[I 0,U z,I 0,C])):
  QA 28 #[J P 0,.agg #[I kd,I ref,U p,U a,U b,.slice d dl dc]] W post:=by
 have⟨n,r⟩:=y7 f o;clear f o;have s:=H x;clear x;have w:=H y;clear y;have B9:=H A;clear A;have o:=H f9;clear f9;subst F;unfold three at r;go_enter_defers func28,ntmps28;go_wp2_with fail;rw[<-m,<-l,<-i];refine(s _ r).mono ?_;rintro e V⟨rfl,f⟩;have B:=H f;have⟨G,K,L,M,O,R,S⟩:=n.cell f;clear f i l m;generalize W.heap.size=Y at*;go_wp2_with fail;refine(w _ B).mono ?_;rintro e V2(⟨c,rfl,T⟩|⟨t,g,j,rfl,X,f⟩);·exact fc n c T rfl
 have r:=H f;clear f G K L M O R S;rcases X with⟨rfl,rfl⟩|⟨rfl,rfl⟩
 .let B:=λw=>nX g w
  go_wp2_with fail;apply (B9 _ g _ _ r).mono;rintro e G⟨rfl,f⟩;let⟨l,m⟩:=o.out _ f;let⟨i,s⟩:=y7 l m;clear f m l;go_wp2_with (apply eG i);exact eo n (I 0) (U z) (I 0) (C) (aw i _) s rfl
 let B:=λw=>Q9 g w
 go_wp2_with fail;apply (B9 _ g _ _ r).mono;rintro e G⟨rfl,f⟩;let⟨l,m⟩:=o.out _ f;let⟨i,s⟩:=y7 l m;clear f m l;go_wp2_with (apply eG i);exact eo n (I 0) (U z) (I 0) (C) (aw i _) s rfl
def zn(P){X2 X3 X4}(kd ref p a b d dl dc)(q:Nat)(z:Nat){u:Nat->Nat->Nat->QM->Prop}(v:QM->Prop)(W:QM){Q N post}(f:Rn9 P X2 X3 X4 kd ref p a b d dl dc Q N post)(i:X2=W.heap.size)(l:X3=W.heap.size+1)(m:X4=W.heap.size+1+1)(o:Q (three W P #[I kd,I ref,U p,U a,U b,.slice d dl dc]))(F:kd=1)(x:∀V,Q V->QA 55 #[J P 0,.agg #[I kd,I ref,U p,U a,U b,.slice d dl dc]] V λe k=>e=QJ (U q)/\Q k)(y:∀V,Q V->QA 57 #[J P 0,U a,U b] V λe k=>(∃c,e=.panicked (fw c)/\N c k)\/∃t g j,e=QJ (.iface t (J g 0))/\(t=199/\j=114\/t=210/\j=159)/\u t g j k)(A:∀t g j V,u t g j V->QA j #[J g 0] V λe k=>e=QJ (U z)/\v k)(f9:∀V,v V->V.heap[X4]?=some (.cells #[I 0,U 0,I 0,C] 94)/\post (QJ (.agg #[I 0,U z,I 0,C])) (V.setRow X4 #[I 0,U z,I 0,C])):
  QA 28 #[J P 0,.agg #[I kd,I ref,U p,U a,U b,.slice d dl dc]] W post:=by
 have⟨n,r⟩:=y7 f o;clear f o;have s:=H x;clear x;have w:=H y;clear y;have B9:=H A;clear A;have o:=H f9;clear f9;subst F;unfold three at r;go_enter_defers func28,ntmps28;go_wp2_with fail;rw[<-m,<-l,<-i];refine(s _ r).mono ?_;rintro e V⟨rfl,f⟩;have B:=H f;have⟨G,K,L,M,O,R,S⟩:=n.cell f;clear f i l m;generalize W.heap.size=Y at*;go_wp2_with fail;refine(w _ B).mono ?_;rintro e V2(⟨c,rfl,T⟩|⟨t,g,j,rfl,X,f⟩);·exact fc n c T rfl
 have r:=H f;clear f G K L M O R S;rcases X with⟨rfl,rfl⟩|⟨rfl,rfl⟩
 .let B:=λw=>nX g w
  go_wp2_with fail;apply (B9 _ g _ _ r).mono;rintro e G⟨rfl,f⟩;let⟨l,m⟩:=o.out _ f;let⟨i,s⟩:=y7 l m;clear f m l;go_wp2_with (apply eG i);exact eo n (I 0) (U z) (I 0) (C) (aw i _) s rfl
 let B:=λw=>Q9 g w
 go_wp2_with fail;apply (B9 _ g _ _ r).mono;rintro e G⟨rfl,f⟩;let⟨l,m⟩:=o.out _ f;let⟨i,s⟩:=y7 l m;clear f m l;go_wp2_with (apply eG i);exact eo n (I 0) (U z) (I 0) (C) (aw i _) s rfl
def yS(P){X2 X3 X4}(kd ref p a b d dl dc)(q:Nat)(z:Nat){u:Nat->Nat->Nat->QM->Prop}(v:QM->Prop)(W:QM){Q N post}(f:Rn9 P X2 X3 X4 kd ref p a b d dl dc Q N post)(i:X2=W.heap.size)(l:X3=W.heap.size+1)(m:X4=W.heap.size+1+1)(o:Q (three W P #[I kd,I ref,U p,U a,U b,.slice d dl dc]))(F:kd=2)(x:∀V,Q V->QA 55 #[J P 0,.agg #[I kd,I ref,U p,U a,U b,.slice d dl dc]] V λe k=>e=QJ (U q)/\Q k)(y:∀V,Q V->QA 58 #[J P 0,U q,U a] V λe k=>(∃c,e=.panicked (fw c)/\N c k)\/∃t g j,e=QJ (.iface t (J g 0))/\(t=199/\j=114\/t=210/\j=159)/\u t g j k)(A:∀t g j V,u t g j V->QA j #[J g 0] V λe k=>e=QJ (U z)/\v k)(f9:∀V,v V->V.heap[X4]?=some (.cells #[I 0,U 0,I 0,C] 94)/\post (QJ (.agg #[I 0,U z,I 0,C])) (V.setRow X4 #[I 0,U z,I 0,C])):
  QA 28 #[J P 0,.agg #[I kd,I ref,U p,U a,U b,.slice d dl dc]] W post:=by
 have⟨n,r⟩:=y7 f o;clear f o;have s:=H x;clear x;have w:=H y;clear y;have B9:=H A;clear A;have o:=H f9;clear f9;subst F;unfold three at r;go_enter_defers func28,ntmps28;go_wp2_with fail;rw[<-m,<-l,<-i];refine(s _ r).mono ?_;rintro e V⟨rfl,f⟩;have B:=H f;have⟨G,K,L,M,O,R,S⟩:=n.cell f;clear f i l m;generalize W.heap.size=Y at*;go_wp2_with fail;refine(w _ B).mono ?_;rintro e V2(⟨c,rfl,T⟩|⟨t,g,j,rfl,X,f⟩);·exact fc n c T rfl
 have r:=H f;clear f G K L M O R S;rcases X with⟨rfl,rfl⟩|⟨rfl,rfl⟩
 .let B:=λw=>nX g w
  go_wp2_with fail;apply (B9 _ g _ _ r).mono;rintro e G⟨rfl,f⟩;let⟨l,m⟩:=o.out _ f;let⟨i,s⟩:=y7 l m;clear f m l;go_wp2_with (apply eG i);exact eo n (I 0) (U z) (I 0) (C) (aw i _) s rfl
 let B:=λw=>Q9 g w
 go_wp2_with fail;apply (B9 _ g _ _ r).mono;rintro e G⟨rfl,f⟩;let⟨l,m⟩:=o.out _ f;let⟨i,s⟩:=y7 l m;clear f m l;go_wp2_with (apply eG i);exact eo n (I 0) (U z) (I 0) (C) (aw i _) s rfl
def Ab(P X2 X3 X4 kd ref p a b d dl dc)(q:Nat)(z:Nat)(u:Nat->Nat->Nat->QM->Prop)(v:QM->Prop)(W:QM)(Q N post)(f:Rn9 P X2 X3 X4 kd ref p a b d dl dc Q N post)(i:X2=W.heap.size)(l:X3=W.heap.size+1)(m:X4=W.heap.size+1+1)(o:Q (three W P #[I kd,I ref,U p,U a,U b,.slice d dl dc]))(F:kd=4)(x:∀V,Q V->QA 55 #[J P 0,.agg #[I kd,I ref,U p,U a,U b,.slice d dl dc]] V λe k=>e=QJ (U q)/\Q k)(y:∀V,Q V->QA 61 #[J P 0,U q] V λe k=>(∃c,e=.panicked (fw c)/\N c k)\/∃t g j,e=QJ (.iface t (J g 0))/\(t=199/\j=167\/t=210/\j=353)/\u t g j k)(A:∀t g j V,u t g j V->QA j #[J g 0] V λe k=>e=QJ (I z)/\v k)(f9:∀V,v V->V.heap[X4]?=some (.cells #[I 0,U 0,I 0,C] 94)/\post (QJ (.agg #[I 0,U 0,I z,C])) (V.setRow X4 #[I 0,U 0,I z,C])):
  QA 28 #[J P 0,.agg #[I kd,I ref,U p,U a,U b,.slice d dl dc]] W post:=by
 have⟨n,r⟩:=y7 f o;clear f o;have s:=H x;clear x;have w:=H y;clear y;have B9:=H A;clear A;have o:=H f9;clear f9;subst F;unfold three at r;go_enter_defers func28,ntmps28;go_wp2_with fail;rw[<-m,<-l,<-i];refine(s _ r).mono ?_;rintro e V⟨rfl,f⟩;have B:=H f;have⟨G,K,L,M,O,R,S⟩:=n.cell f;clear f i l m;generalize W.heap.size=Y at*;go_wp2_with fail;refine(w _ B).mono ?_;rintro e V2(⟨c,rfl,T⟩|⟨t,g,j,rfl,X,f⟩);·exact fc n c T rfl
 have r:=H f;clear f G K L M O R S;rcases X with⟨rfl,rfl⟩|⟨rfl,rfl⟩
 .let B:=λw=>DW g w
  go_wp2_with fail;apply (B9 _ g _ _ r).mono;rintro e G⟨rfl,f⟩;let⟨l,m⟩:=o.out _ f;let⟨i,s⟩:=y7 l m;clear f m l;go_wp2_with (apply eG i);exact eo n (I 0) (U 0) (I z) (C) (aw i _) s rfl
 let B:=λw=>DN g w
 go_wp2_with fail;apply (B9 _ g _ _ r).mono;rintro e G⟨rfl,f⟩;let⟨l,m⟩:=o.out _ f;let⟨i,s⟩:=y7 l m;clear f m l;go_wp2_with (apply eG i);exact eo n (I 0) (U 0) (I z) (C) (aw i _) s rfl
def zM(P X2 X3 X4 kd ref p a b d dl dc)(q:Nat)(s:QN->QM->Prop)(W:QM)(Q N post)(f:Rn9 P X2 X3 X4 kd ref p a b d dl dc Q N post)(g:X2=W.heap.size)(i:X3=W.heap.size+1)(j:X4=W.heap.size+1+1)(t:Q (three W P #[I kd,I ref,U p,U a,U b,.slice d dl dc]))(z:kd=5)(u:∀V,Q V->QA 55 #[J P 0,.agg #[I kd,I ref,U p,U a,U b,.slice d dl dc]] V λe k=>e=QJ (U q)/\Q k)(w:∀V,Q V->QA 62 #[J P 0,U q,U a] V λe k=>(∃c,e=.panicked (fw c)/\N c k)\/∃l m n,e=QJ (.slice l m n)/\s (.slice l m n) k)(f9:∀v V,s v V->V.heap[X4]?=some (.cells #[I 0,U 0,I 0,C] 94)/\post (QJ (.agg #[I 0,U 0,I 0,v])) (V.setRow X4 #[I 0,U 0,I 0,v])):
  QA 28 #[J P 0,.agg #[I kd,I ref,U p,U a,U b,.slice d dl dc]] W post:=by
 let⟨o,r⟩:=y7 f t;clear f t;have t:=H u;clear u;have v:=H w;clear w;have x:=H f9;clear f9;subst z;unfold three at r;go_enter_defers func28,ntmps28;go_wp2_with fail;rw[<-j,<-i,<-g];refine(t _ r).mono ?_;rintro e V⟨rfl,f⟩;have y:=H f;have⟨A,B,F,G,K,L,M⟩:=o.cell f;clear f g i j;generalize W.heap.size=O at*;go_wp2_with fail;apply (v _ y).mono;rintro e R(⟨c,rfl,r⟩|⟨l,m,n,rfl,f⟩);.exact fc o c r rfl
 let⟨i,j⟩:=x.out _ _ f;let⟨g,t⟩:=y7 i j;clear f j i A B F G K L M;go_wp2_with (apply eG g);exact eo o (I 0) (U 0) (I 0) (.slice l m n) (aw g _) t rfl
def zt(P X2 X3 X4 kd ref p a b d dl dc)(q:Nat)(n:QM->Prop)(W:QM)(Q N post)(f:Rn9 P X2 X3 X4 kd ref p a b d dl dc Q N post)(g:X2=W.heap.size)(i:X3=W.heap.size+1)(j:X4=W.heap.size+1+1)(o:Q (three W P #[I kd,I ref,U p,U a,U b,.slice d dl dc]))(w:kd=6)(r:∀V,Q V->QA 55 #[J P 0,.agg #[I kd,I ref,U p,U a,U b,.slice d dl dc]] V λe k=>e=QJ (U q)/\Q k)(s:∀V,Q V->QA 63 #[J P 0,U q,.slice d dl dc] V λe k=>(∃c,e=.panicked (fw c)/\N c k)\/e=QJ (.tuple #[])/\n k)(f9:∀V,n V->V.heap[X4]?=some (.cells #[I 0,U 0,I 0,C] 94)/\post (QJ (.agg #[I 0,U 0,I 0,C])) (V.setRow X4 #[I 0,U 0,I 0,C])):
  QA 28 #[J P 0,.agg #[I kd,I ref,U p,U a,U b,.slice d dl dc]] W post:=by
 let⟨l,m⟩:=y7 f o;clear f o;have o:=H r;clear r;have t:=H s;clear s;have u:=H f9;clear f9;subst w;unfold three at m;go_enter_defers func28,ntmps28;go_wp2_with fail;rw[<-j,<-i,<-g];refine(o _ m).mono ?_;rintro e V⟨rfl,f⟩;have v:=H f;have⟨x,y,z,A,B,F,G⟩:=l.cell f;clear f g i j;generalize W.heap.size=K at*;go_wp2_with fail;apply (t _ v).mono;rintro e L(⟨c,rfl,m⟩|⟨rfl,f⟩);.exact fc l c m rfl
 let⟨i,j⟩:=u.out _ f;let⟨g,o⟩:=y7 i j;clear f j i x y z A B F G;go_wp2_with (apply eG g);exact eo l (I 0) (U 0) (I 0) (C) (aw g _) o rfl
def yM(P){X2 X3 X4}(kd ref p a b d dl dc)(q:Nat)(W:QM){Q N post}(j:Rn9 P X2 X3 X4 kd ref p a b d dl dc Q N post)(c:X2=W.heap.size)(f:X3=W.heap.size+1)(g:X4=W.heap.size+1+1)(k:Q (three W P #[I kd,I ref,U p,U a,U b,.slice d dl dc]))(l:∀V,Q V->QA 55 #[J P 0,.agg #[I kd,I ref,U p,U a,U b,.slice d dl dc]] V λe i=>e=QJ (U q)/\Q i)(r:kd<0\/6<kd)(m:∀V,Q V->N 6 V):
  QA 28 #[J P 0,.agg #[I kd,I ref,U p,U a,U b,.slice d dl dc]] W post:=by
 have⟨n,i⟩:=y7 j k;clear j k;have k:=H l;clear l;have o:=H m;clear m;unfold three at i;go_enter_defers func28,ntmps28;go_wp2_with fail;rw[<-g,<-f,<-c];refine(k _ i).mono ?_;rintro e V⟨rfl,j⟩;have m:=H j;have⟨s,t,u,v,w,x,y⟩:=n.cell j;clear j c f g;generalize W.heap.size=f at*;have g:(kd==0)=false:=bG;have i:(kd==1)=false:=bG;have j:(kd==2)=false:=bG;have k:(kd==3)=false:=bG;have z:(kd==4)=false:=bG;have A:(kd==5)=false:=bG;have z6:(kd==6)=false:=bG;have c:=H (o _ m);clear r;go_wp2;exact fc n 6 c rfl
def yU(P X2 X3 X4 kd ref p a b d dl dc)(q:Nat)(r:QN->QM->Prop)(s:QM->Prop)(W:QM)(Q N post)(n:Rn9 P X2 X3 X4 kd ref p a b d dl dc Q N post)(f:X2=W.heap.size)(g:X3=W.heap.size+1)(j:X4=W.heap.size+1+1)(o:Q (three W P #[I kd,I ref,U p,U a,U b,.slice d dl dc]))(F:kd=3)(t:∀V,Q V->QA 55 #[J P 0,.agg #[I kd,I ref,U p,U a,U b,.slice d dl dc]] V λe k=>e=QJ (U q)/\Q k)(u:∀V,Q V->QA 60 #[J P 0,U q] V λe k=>(∃c,e=.panicked (fw c)/\N c k)\/∃v,e=QJ v/\QG k X2 0 (J P 0)/\r v k)(w:∀v V,r v V->QA 59 #[J P 0,v] V λe k=>e=QJ (.tuple #[])/\QG k X2 0 (J P 0)/\s k)(f9:∀V,s V->V.heap[X4]?=some (.cells #[I 0,U 0,I 0,C] 94)/\post (QJ (.agg #[I 0,U 0,I 0,C])) (V.setRow X4 #[I 0,U 0,I 0,C])):
  QA 28 #[J P 0,.agg #[I kd,I ref,U p,U a,U b,.slice d dl dc]] W post:=by
 let l:=H n;have m:=H o;have x:=H t;let y:=H u;have z:=H w;clear w;have A:=H f9;clear f9;subst F;unfold three at m;go_enter_defers func28,ntmps28;go_wp2_with fail;rw[<-j,<-g,<-f];refine(x _ m).mono ?_;rintro e V⟨rfl,n⟩;have o:=H n;have⟨B,G,K,L,M,O,R⟩:=l.cell n;clear n m x f g j;generalize W.heap.size=X at*;go_upto_region 11 with fail
 let T:=l.qd _ o;refine rh (S:=λf=>QG f X2 0 (J P 0)) ?_;let g:=l.x2 _ (l.qd _ o);refine aG (i:=0) (d:=41) (v:=J P 0) rfl E E E E (λ_ _ _ h=>eT (xr 41 ar) _ _ _ h) (Or.inl ⟨E,λW g=>by obtain G:=g;first|(go_simp;done)|(go_simp;omega)⟩) g ?_;simp only[lz,l0,ls];refine aG (i:=1) (d:=42) (v:=J P 0) rfl E E E E (λ_ _ _ h=>eT (xr 42 ar) _ _ _ h) (Or.inl ⟨E,λW g=>by obtain G:=g;first|(go_simp;done)|(go_simp;omega)⟩) g ?_;simp only[lz,l0,ls];refine aG (i:=2) (d:=43) (v:=U q) rfl E E E E (λ_ _ _ h=>eT (xr 43 ar) _ _ _ h) (Or.inl ⟨E,λ_ _=>E⟩) g ?_;simp only[lz,l0,ls];refine po 3 λK' m=>?_;go_simp;apply (y _ T).mono;rintro e R(⟨c,rfl,K⟩|⟨v,rfl,L⟩)
 .exact fc l c K rfl
 let⟨f,j⟩:=L;refine m _ _ ⟨f,?_⟩;let g:=f;let M:=H j;refine po 4 λK' m=>?_;go_simp;apply (z _ _ M).mono;rintro e Y⟨rfl,f,j⟩;refine m _ _ ⟨f,?_⟩;let n:=H j;refine bY ?_;have m:=n;have⟨x,B⟩:=A.out _ m;have g:=H x;have O:=H B;go_wp2_with (refine eG g ?_);exact eo l (I 0) (U 0) (I 0) (C) (aw g _) O rfl
