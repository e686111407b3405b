import Derived.Deep.AppendSrc
import Derived.Test.YtdhegekcmmlohaaGreatDoorM07
import Derived.Test.YtdhegekcmmlohaaGreatDoorM08
set_option linter.unusedVariables false
set_option linter.unusedSimpArgs false
set_option maxRecDepth 20000
set_option maxHeartbeats 8000000
namespace Go.Proofs.YtdhegekcmmlohaaGreatDoor
open Go.Proofs.Tryz Go.RowKit Go.Maps Go.Shelf Go.ChangeShapes Go.WideShapes Go.ChangeAt
theorem Du{B x cf h W0 W}{b:QM}(d:Sh B x cf h W){wb wc}(i:x.wv=Vl wb 12 wc)(k:Bk B x.Q W0 W)(j:B<=W0.heap.size)(g:W.grownBy b (some wb)):Bk B x.Q W0 b:=by
 have⟨p,l⟩:=d.qrow;have a:=d.wt;rw[i]at a;have⟨c,m⟩:=di a;have n:B<=wb:=by
  rcases a.2 with⟨e,_⟩|⟨g,f,o,e,q,_⟩;·simp at e
  simp at e;omega
 exact k.trans (Bk.ofGrown m l (.inr (.inr (.inl rfl))) ar ar n (Fx j k.bel.size) g)
theorem uJ(B x cf h)(K c s j:Nat)(lg:Int)(W)(n:Sh B x cf h W)(l:l_ x)(u:B<=W.heap.size)(f:Inv cf h)(hu:h.used<=999999)(y:mE cf)(g:K<1062)(b:sA K=(c,s,j))(hl:h.st c s j=1):
  QA 77 #[J x.P 0,I K,I lg] W λe N=>e=QJ (.tuple #[])/\∃o:Sm,o.P=x.P/\o.Q=x.Q/\l_ o/\Sh B o cf (aL cf h c s j) N/\Bk B x.Q W N:=by
 have b9:=mj g;rw[b]at b9;dsimp only at b9;have⟨p,a5,hj⟩:=b9;have i:=ca p a5 hj;have q:=aX p;have r:=f.on1 p a5 hj (by rw[hl];rfl);have⟨c0,c3,e4,w,A⟩:=Qg (show∀k,k<cy c->isOpen (h.m ((bh c s j+k)/1024))=true from λk d9=>f.openS p a5 hj r d9) (f.freed y.fifo1 p a5 hj hl) (cW cf h c s j) (show bX cf h c s j={h with m:=ay h.m (bh c s j) (List.replicate (cy c) 0) (cy c),st:=aE h.st c s j 2,rq:=aE h.rq c s j 0,used:=if cf.mix=0 then h.used else h.used+1,mx:=dB h.mx c (ed cf.fifo (h.mx c) (h.ff c) ((s*aM c+j:Nat):Int) ((if cf.mix=0 then 0 else dr cf h cf.mix:Nat):Int)).1,ff:=dB h.ff c (ed cf.fifo (h.mx c) (h.ff c) ((s*aM c+j:Nat):Int) ((if cf.mix=0 then 0 else dr cf h cf.mix:Nat):Int)).2.1}from rfl) (show er cf h c s j=(ed cf.fifo (h.mx c) (h.ff c) ((s*aM c+j:Nat):Int) ((if cf.mix=0 then 0 else dr cf h cf.mix:Nat):Int)).2.2 from rfl);have⟨a6,d⟩:=Qa (aL cf h c s j);rw[d];have⟨b2,SZ,SL,F,HD,HI,b3,e5⟩:=Qj d (λV=>wN c V p) (λV=>xM c V p) u y f l b;have c7:W.cell? (Qz x.P 7)=some (.slice (some (Qz x.G 0)) 1062 x.gc):=n.cell 7 _ rfl;have⟨d0,d1,d2,d3,d4,d5⟩:=n.slot g;have M:gt K=bh c s j:=by unfold gt;rw[b]
 have O:dC h K=1:=by unfold dC;rw[b];exact hl
 rw[M]at d3;rw[O]at d4;rw[b]at d0 d1 d2;generalize fJ h K=rq at*;have e7:=H (show(h.mx c).length=cf.mix/\(h.ff c).length<=cf.fifo/\(∀v∈h.ff c,0<=v)/\(∀v∈h.mx c,-1<=v)from⟨f.mxl c p,f.ffl c p,f.ffn c p,f.mxn c p⟩);have⟨a,ha⟩:=Qa (bh c s j);have⟨z,t⟩:=Qa (cy c);rw[ha]at d3 c0 w i;rw[t]at c0 w SZ i q;have h0:=q.1;have h4:=q.2.1;have g6:4<=aM c/\aM c<=64:=⟨q.2.2.2.2.1,q.2.2.2.2.2.1⟩;have h8:a+z<191488:=i.2.2;have h9:(0:Int)<=(K:Int):=Z;have G:D W (W.alloc (.cells #[I c,I s,I j,U a,I 1,I rq] 109)):=(Fu _ _).alloc (Fv _) _;have⟨SA,BA,YA⟩:=Qe (n.below G) (n.bkB (Bk.refl _ _ _) u G) (ao W (.cells #[I c,I s,I j,U a,I 1,I rq] 109));have v:=H (show W.heap.size≠x.G by
  have⟨P,L⟩:=di n.sl;have:=ag L;omega)
 clear n l u f y b d M O ha t i q r G;go_enter func77,ntmps77;go_wp2;generalize W.alloc _=V at SA BA YA⊢;generalize W.heap.size=Y at YA v⊢;have SS:Hid (∀(V:QM){h':Hs},Sh B x cf h' V->V.heap[Y]?=some (.cells #[I c,I s,I j,U a,I 1,I rq] 109)->V.cell? (Qz x.P 6)=some (J x.T 0)/\V.cell? (Qz Y 3)=some (U a)):=(λV h' G hY=>⟨G.cell 6 _ rfl,by simp[QC,hY]⟩);go_loopw [7] (λi b=>∃k:Nat,k<=z/\i=I k/\Hid (Sh B x cf {h with m:=ay h.m a (List.replicate z 0) k} b)/\Hid (Bk B x.Q W b)/\Hid (b.heap[Y]?=some (.cells #[I c,I s,I j,U a,I 1,I rq] 109))) (λi _=>z-(intOf i).toNat);case atStart=>exact⟨0,FH _,rfl,SA,BA,YA⟩
 case round=>
  clear SA BA YA c7 d0 d1 d2 d3 d4 d5;obtain⟨k,d9,rfl,d,n,f⟩:=hrel;have y0:wr.cell? (Qz Y 0)=some (I c):=by simp[QC,f.out]
  go_wp2_with fail;refine(SZ _).mono ?_;rintro e y⟨rfl,l⟩;have⟨b,M,r⟩:=Qe (d.below l) (d.bkB n F l) (ae f l);clear l d n f y0;by_cases e8:k<z
  ·have f:(k:Int)<(z:Int):=Z;have⟨q,t⟩:=SS.out _ b r;have d:=c0.out k e8;have n:=H (show ay h.m a (List.replicate z 0) (k+1)=dZ (ay h.m a (List.replicate z 0) k) (a+k) 0 by
    show dZ _ _ _=_;rw[List.getElem?_replicate,GP e8];rfl)
   have L:Hid (∀f,Sx x.T x.Q 283 (cf.bud:Nat) (ay h.m a (List.replicate z 0) k) f->QA 128 #[J x.T 0,U (IntKind.u64.wrap ((a:Int)+IntKind.u64.wrap (k:Int))),.int .u8 0] f λe O=>e=QJ (.tuple #[])/\Sx x.T x.Q 283 (cf.bud:Nat) (dZ (ay h.m a (List.replicate z 0) k) (a+k) 0) O/\Sf x.Q f O):=(λf G=>by
    rw[dX (k:Int) Z Z,dX _ Z Z];exact uh x.T x.Q (cf.bud:Nat) _ (a+k) 0 f G Z (by rw[eO];exact d))
   clear d;go_wp2;refine rh (S:=λN=>N.cell? (Qz x.P 6)=some (J x.T 0)/\N.cell? (Qz Y 3)=some (U a)) ?_;have d:=(show _/\_ from⟨q,t⟩);refine pk 0 (J x.P 0) d ?_;refine pk 1 (J x.P 0) d ?_;refine pk 2 (J x.P 6) d ?_;refine pz 3 (J x.T 0) d ?_;refine pk 4 (J Y 3) d ?_;refine pz 5 (U a) d ?_;refine pk 6 (I k) d ?_;refine pz 7 (U (IntKind.u64.wrap (k:Int))) d ?_;refine pz 8 (U (IntKind.u64.wrap ((a:Int)+IntKind.u64.wrap (k:Int)))) d ?_;refine po 9 λK' g=>?_;go_simp;refine(L _ ((b.below (Fu _ _).drew).sp)).mono ?_;rintro e V6⟨rfl,u,f6⟩;have S6:=H (show Sh B x cf {h with m:=ay h.m a (List.replicate z 0) (k+1)} V6 by have:=(b.below (Fu _ _).drew).space (Fx F M.bel.size) _ u f6;rw[n];exact this);have⟨B6,Y6⟩:=y7 ((b.below (Fu _ _).drew).bkS (b.bkB M F (Fu _ _).drew) F f6) ((f6.ky (b.below (Fu _ _).drew).sp).cells _ _ _ _ r ar);have P:=SS.out _ S6 Y6;refine g _ _ ⟨P,?_⟩;clear d;clear g K';refine bY ?_;clear q t u f6 P;go_wp2;go_roundw
   (case rel=>exact⟨k+1,Z,aY,S6,B6,Y6⟩);case measure=>exact QE
  obtain rfl:k=z:=Z;obtain⟨L,f⟩:∃L:Hs,L={h with m:=ay h.m a (List.replicate k 0) k}:=⟨_,rfl⟩;rw[<-f]at b;have a7:=H f;clear f;have S6:=H (show Sh B x cf {L with st:=aE L.st c s j 2} (y.setCell (Qz x.G (K*6+4)) (I 2)) by
   have:=b.setSt g 2;rw[e5]at this;exact this)
  have B6:=H (b.bkG M F (K*6+4) (I 2));have Y6:=H (show(y.setCell (Qz x.G (K*6+4)) (I 2)).heap[Y]?=some (.cells #[I c,I s,I j,U a,I 1,I rq] 109) by
   rw[(au (al y x.G) (K*6+4) (I 2)).block Y (ag r) (by simp;exact v)];exact r)
  have q:=H (show Sh B x cf {L with st:=aE L.st c s j 2,rq:=aE L.rq c s j 0} ((y.setCell (Qz x.G (K*6+4)) (I 2)).setCell (Qz x.G (K*6+5)) (I 0)) by
   have:=S6.setRq g 0;rw[e5]at this;exact this)
  have B7:=H (S6.bkG B6 F (K*6+5) (I 0));have Y7:=H (show((y.setCell (Qz x.G (K*6+4)) (I 2)).setCell (Qz x.G (K*6+5)) (I 0)).heap[Y]?=some (.cells #[I c,I s,I j,U a,I 1,I rq] 109) by
   rw[(au (al _ x.G) (K*6+5) (I 0)).block Y (ag Y6) (by simp;exact v)];exact Y6)
  have c7:y.cell? (Qz x.P 7)=some (.slice (some (Qz x.G 0)) 1062 x.gc):=b.cell 7 _ rfl;have d4:=(b.slot g).2.2.2.2.1;have f4:=b.slotF (K*6+4);have T:(y.setCell (Qz x.G (K*6+4)) (I 2)).cell? (Qz x.P 7)=some (.slice (some (Qz x.G 0)) 1062 x.gc):=S6.cell 7 _ rfl;have t:=(S6.slot g).2.2.2.2.2;have f56:=S6.slotF (K*6+5);have e9:((y.setCell (Qz x.G (K*6+4)) (I 2)).setCell (Qz x.G (K*6+5)) (I 0)).cell? (Qz x.P 0)=some (I cf.mix):=q.cell 0 _ rfl;generalize dC L K=i0 at d4;generalize fJ _ K=i1 at t;obtain⟨Q,f⟩:∃Q:Hs,Q={L with st:=aE L.st c s j 2,rq:=aE L.rq c s j 0}:=⟨_,rfl⟩;rw[<-f]at q;have a8:=H (show Q.used=h.used by rw[f,a7]);obtain⟨dd,n⟩:∃dd:Nat,(if cf.mix=0 then 0 else dr cf h cf.mix:Nat)=dd:=⟨_,rfl⟩;obtain⟨h3,u⟩:∃h3:Hs,h3={Q with used:=if cf.mix=0 then h.used else h.used+1}:=⟨_,rfl⟩;have⟨g0,R,c4⟩:=Qe n u f;rw[n]at w A;clear n u f;go_upto_if 60 with fail
  generalize (y.setCell (Qz x.G (K*6+4)) (I 2)).setCell (Qz x.G (K*6+5)) (I 0)=V7 at q B7 Y7 e9⊢;clear c7 d4 f4 T t f56;go_cut [8] (λs8 O=>s8=I dd/\Hid (Sh B x cf h3 O)/\Hid (Bk B x.Q W O)/\Hid (O.heap[Y]?=some (.cells #[I c,I s,I j,U a,I 1,I rq] 109)));case first=>
   by_cases b:cf.mix=0
   ·have e0:dd=0:=(by rw[<-g0.out,GP b]);have f:h3=Q:=(by rw[R,GP b,<-a8.out]);have n:¬((0:Int)<(cf.mix:Int)):=Z;have⟨r,t⟩:=y7 e0 f;clear e0 f b;go_wp2;go_meet;case rel=>exact⟨by rw[r];rfl,by rw[t];exact q,B7,Y7⟩
   have e0:dd=dr cf Q cf.mix:=(by rw[<-g0.out,GO b];unfold dr;rw[a8]);have f:h3={Q with used:=Q.used+1}:=(by rw[R,GO b,a8]);have n:(0:Int)<(cf.mix:Int):=Z;have⟨r,t⟩:=y7 e0 f;have u:=H (oQ B x cf Q cf.mix V7 q Z (by have:=HD.mix;omega) (by rw[a8];omega) HD.len HD.wf);clear e0 f b;go_wp2_with fail;refine u.mono ?_;rintro e V8⟨rfl,s8,b⟩;have⟨M,T,X⟩:=Qe s8 (q.bkP B7 F b) ((Ky.grown q.box rfl b:Ky (· =106) _ _).cells _ _ _ _ Y7 ar);clear s8 b;go_wp2;go_meet;case rel=>exact⟨by rw[r],by rw[t];exact M,T,X⟩
  case rest=>
   obtain⟨rfl,r,B3,Y3⟩:=hcut;clear e9;have⟨wa,a9,t⟩:=aK r.wt;have⟨wb,g1⟩:=cr (t▸r.wt) Z;rw[g1]at t;have u:=H t;obtain⟨⟨am,cm,M,zm,c5⟩,⟨af,g2,T,zf,c8⟩⟩:=r.wm c p;have a4:h3.mx c=h.mx c:=(by rw[R,c4,a7]);have b4:h3.ff c=h.ff c:=(by rw[R,c4,a7]);rw[a4]at M c5;rw[b4]at T c8;have⟨lm,c9⟩:=Qa ((h.mx c).length);have⟨lf,d6⟩:=Qa ((h.ff c).length);rw[c9]at M;rw[d6]at T;have⟨b0,b1⟩:=y7 M T;have⟨n,hn⟩:=Qa (aM c);rw[hn]at SL w A hj g6;have⟨b,f⟩:=Qa (ed cf.fifo (h.mx c) (h.ff c) ((s*n+j:Nat):Int) (dd:Int));rw[f]at w A;have i2:(0:Int)<=(s:Int)*(n:Int)/\(s:Int)*(n:Int)<=384:=by
    have L:s*n<=6*64:=Nat.mul_le_mul Z Z;have Q:((s*n:Nat):Int)=(s:Int)*(n:Int):=bH;omega
   have i3:IntKind.i64.wrap ((s:Int)*(n:Int))=(s:Int)*(n:Int):=(by rw[Hh];omega);have i4:IntKind.i64.wrap ((s:Int)*(n:Int)+(j:Int))=(s:Int)*(n:Int)+(j:Int):=(by rw[Hh];omega);have X:eN (h.mx c) (h.ff c) (cf.fifo:Nat)=true:=by
    have⟨q1,q2,q3,q4⟩:=e7.out;have q5:=HD.mix;have q6:=HD.fifo1;have q7:=HD.fifo;unfold eN nb;simp only[Gi,Hj,List.all_eq_true];exact⟨Z,Z,Z,Z,q4,q3⟩
   have WP:Hid (∀V,D wc V->QA 130 #[.agg #[.slice am lm cm,.slice af lf g2,I cf.fifo],I ((s:Int)*(n:Int)+(j:Int)),I dd] V λe O=>B_ V cf.fifo b.1 b.2.1 b.2.2 e O):=(λV G=>by
    have:=vq am lm cm af lf g2 cf.fifo (h.mx c) (h.ff c) ((s*n+j:Nat):Int) (dd:Int) V ⟨c5.ky (Ky.below G:Ky (λ_=>False) _ _) (λe=>e),c9,c8.ky (Ky.below G:Ky (λ_=>False) _ _) (λe=>e),d6⟩ zf X Z;rw[f]at this;simpa[wv]using this)
   have b8:=H (show bX cf h c s j={h3 with mx:=dB h3.mx c b.1,ff:=dB h3.ff c b.2.1} by rw[w,R,c4,a7]);have a0:Hid (∀(V:QM){o:Sm}{h':Hs},Sh B o cf h' V->o.P=x.P->o.wv=x.wv->V.heap[Y]?=some (.cells #[I c,I s,I j,U a,I 1,I rq] 109)->V.cell? (Qz x.P 8)=some (.slice (some (Qz wb 0)) 12 a9)/\V.cell? (Qz Y 0)=some (I c)/\V.cell? (Qz Y 1)=some (I s)/\V.cell? (Qz Y 2)=some (I j)):=(λV o h' G e1 e2 hY=>by
    refine⟨?_,by simp[QC,hY],by simp[QC,hY],by simp[QC,hY]⟩;rw[<-e1,<-t,<-e2];exact G.cell 8 _ rfl)
   have a3:=H (λV(G:D wc V)=>a0.out V (r.below G) rfl rfl (ae Y3 G));have⟨d7,d8,g3,_⟩:=r.wtCells t p;rw[M]at d7;rw[T]at d8;clear t g1 M T c5 c8 zm zf a4 b4 c9 d6 f X;(go_upto_region 12 with fail);go_cut [9] (λf O=>f=I b.2.2/\∃o:Sm,o.P=x.P/\o.Q=x.Q/\o.G=x.G/\l_ o/\Hid (Sh B o cf (bX cf h c s j) O)/\Hid (Bk B x.Q W O)/\Hid (O.heap[Y]?=some (.cells #[I c,I s,I j,U a,I 1,I rq] 109)));case first=>
    refine rh (S:=λN=>N.cell? (Qz x.P 8)=some (.slice (some (Qz wb 0)) 12 a9)/\N.cell? (Qz Y 0)=some (I c)/\N.cell? (Qz Y 1)=some (I s)/\N.cell? (Qz Y 2)=some (I j)) ?_;have d:=a3.out _ (Fu _ _).drew;refine pk 0 (J x.P 0) d ?_;refine pk 1 (J x.P 0) d ?_;refine pk 2 (J x.P 8) d ?_;refine pz 3 (.slice (some (Qz wb 0)) 12 a9) d ?_;refine pk 4 (J Y 0) d ?_;refine pz 5 (I c) d ?_;refine pk 6 (J x.P 0) d ?_;refine pk 7 (J x.P 0) d ?_;refine pk 8 (J x.P 8) d ?_;refine pz 9 (.slice (some (Qz wb 0)) 12 a9) d ?_;refine pk 10 (J Y 0) d ?_;refine pz 11 (I c) d ?_;refine pz 12 (.pointer (some (Qz wb (c*3)))) d ?_;refine pk 14 (J Y 1) d ?_;refine pz 15 (I s) d ?_;refine pk 16 (J Y 0) d ?_;refine pz 17 (I c) d ?_;refine pk 20 (J Y 2) d ?_;refine pz 21 (I j) d ?_;refine pk 23 (I dd) d ?_;refine lZ [13,18] λi9 T=>?_;rcases(by simpa using T:i9=13\/i9=18)with T|T
    ·subst T;refine cw λK' g=>?_;go_simp;refine g _ _ ⟨d,?_⟩;clear g K';refine po 18 λK' g=>?_
     go_simp;refine(SL _).mono ?_;rintro e y⟨rfl,l⟩;have M:D wc y:=⟨l.os,l.tape,l.output,l.size,l.block⟩;have h5:=a3.out _ M;have w5:=(r.below M).wtCells u p;rw[b0,b1]at w5;have b4:=w5.1;have c5:=w5.2.1;have c8:=w5.2.2.1;refine g _ _ ⟨h5,?_⟩;clear d;have d:=h5;clear g K';refine pz 19 (I ((s:Int)*(n:Int))) d ?_;refine pz 22 (I ((s:Int)*(n:Int)+(j:Int))) d ?_;refine po 24 λK' g=>?_;go_simp;refine(WP _ M).mono ?_;rintro e V6⟨X,c1,a2,c2,rfl,a4,z1,z2,b6,n1,n2⟩;have t:=az M b6;have P:=a3.out _ t;have f:=(r.below t).wtCells u p;rw[b0,b1]at f;have c9:=f.1;have d6:=f.2.1;have g1:=f.2.2.1;have f60:=f.2.2.2 (c*3);have f61:=f.2.2.2 (c*3+1);have f62:=f.2.2.2 (c*3+2);have⟨q,K7,G7⟩:=(r.below t).setWt u p (.slice X b.1.length c1) (.slice a2 b.2.1.length c2) b.1 b.2.1 ⟨X,c1,rfl,z1,a4.m⟩ ⟨a2,c2,rfl,z2,a4.f⟩;have⟨B7,Y7⟩:=y7 (Du (r.below t) u (r.bkB B3 F t) F G7) (K7.cells _ _ _ _ (ae Y3 t) ar);have h7:=a0.out _ q rfl rfl Y7;have q:=H q;refine g _ _ ⟨P,?_⟩;clear d;have d:=P;clear g K';refine pk 25 (.tuple #[.agg #[.slice X b.1.length c1,.slice a2 b.2.1.length c2,I cf.fifo],I b.2.2]) d ?_;refine pz 26 (.agg #[.slice X b.1.length c1,.slice a2 b.2.1.length c2,I cf.fifo]) d ?_;refine pz 27 (I b.2.2) d ?_;refine pz 28 (.pointer (some (Qz wb (c*3)))) d ?_;refine po 29 λK' g=>?_
     go_simp;refine g _ _ ⟨h7,?_⟩;clear d;have d:=h7;clear g K';refine pk 30 (I b.2.2) d ?_;refine bY ?_;go_wp2_with fail;go_meet;case rel=>exact⟨rfl,{x with mv:=jW x.mv c (.slice X b.1.length c1),fv:=jW x.fv c (.slice a2 b.2.1.length c2)},rfl,rfl,rfl,b3,H (by rw[b8];exact q),B7,Y7⟩
    subst T;refine cw λK' g=>?_;go_simp;refine(SL _).mono ?_;rintro e y⟨rfl,l⟩;have M:D wc y:=⟨l.os,l.tape,l.output,l.size,l.block⟩;have h5:=a3.out _ M;have w5:=(r.below M).wtCells u p;rw[b0,b1]at w5;have b4:=w5.1;have c5:=w5.2.1;have c8:=w5.2.2.1;refine g _ _ ⟨h5,?_⟩;clear d;have d:=h5;clear g K';refine pz 19 (I ((s:Int)*(n:Int))) d ?_;refine pz 22 (I ((s:Int)*(n:Int)+(j:Int))) d ?_;refine po 13 λK' g=>?_
    go_simp;refine g _ _ ⟨d,?_⟩;clear g K';refine po 24 λK' g=>?_;go_simp;refine(WP _ M).mono ?_;rintro e V6⟨X,c1,a2,c2,rfl,a4,z1,z2,b6,n1,n2⟩;have t:=az M b6;have P:=a3.out _ t;have f:=(r.below t).wtCells u p;rw[b0,b1]at f;have c9:=f.1;have d6:=f.2.1;have g1:=f.2.2.1;have f60:=f.2.2.2 (c*3);have f61:=f.2.2.2 (c*3+1);have f62:=f.2.2.2 (c*3+2);have⟨q,K7,G7⟩:=(r.below t).setWt u p (.slice X b.1.length c1) (.slice a2 b.2.1.length c2) b.1 b.2.1 ⟨X,c1,rfl,z1,a4.m⟩ ⟨a2,c2,rfl,z2,a4.f⟩;have⟨B7,Y7⟩:=y7 (Du (r.below t) u (r.bkB B3 F t) F G7) (K7.cells _ _ _ _ (ae Y3 t) ar);have h7:=a0.out _ q rfl rfl Y7;have q:=H q;refine g _ _ ⟨P,?_⟩;clear d;have d:=P;clear g K';refine pk 25 (.tuple #[.agg #[.slice X b.1.length c1,.slice a2 b.2.1.length c2,I cf.fifo],I b.2.2]) d ?_;refine pz 26 (.agg #[.slice X b.1.length c1,.slice a2 b.2.1.length c2,I cf.fifo]) d ?_;refine pz 27 (I b.2.2) d ?_;refine pz 28 (.pointer (some (Qz wb (c*3)))) d ?_;refine po 29 λK' g=>?_
    go_simp;refine g _ _ ⟨h7,?_⟩;clear d;have d:=h7;clear g K';refine pk 30 (I b.2.2) d ?_;refine bY ?_;go_wp2_with fail;go_meet;case rel=>exact⟨rfl,{x with mv:=jW x.mv c (.slice X b.1.length c1),fv:=jW x.fv c (.slice a2 b.2.1.length c2)},rfl,rfl,rfl,b3,H (by rw[b8];exact q),B7,Y7⟩
   case rest=>
    obtain⟨rfl,o,f,X,b4,c5,S9,B9,Y9⟩:=hcut;clear r B3 Y3;have r:=S9;have B3:=B9;have Y3:=Y9;have⟨a4,T,c9⟩:=Qe f X c5;have d6:=H (show Y≠o.G by rw[b4];exact v);clear S9 B9 Y9 f X b4 c5;have v:=d6;rcases c3 with⟨e,g1⟩|⟨s',j',e,e1,e2,b4,c5,g4,g1⟩
    ·have f:b.2.2 = -1:=(by rw[<-A.out];exact e);have HE:=H (show a6=bX cf h c s j by rw[<-b2.out,e4,GP e]);rw[f];clear f d7 d8 g3;go_wp2;refine GX (kw dU _ _) dU ?_;rw[HE];exact⟨rfl,o,a4,T,c9,r,B3⟩
    obtain⟨f,X⟩:∃f:Nat,b.2.2=(f:Int):=⟨b.2.2.toNat,by rw[<-A.out];omega⟩;have c8:(er cf h c s j).toNat=f:=(by rw[A,X];simp);rw[c8,hn]at e1 e2;rw[hn]at c5;have HE:=H (show a6=bK (bX cf h c s j) c (f/n) (f%n) by
     rw[<-b2.out,e4,GO Z,c8,hn])
    have g5:xl (bX cf h c s j):=by
     rw[w];intro c' s' j';show 0<=aE h.st c s j 2 c' s' j'/\aE h.st c s j 2 c' s' j'<=4;by_cases e:c'=c/\s'=s/\j'=j;·obtain⟨rfl,rfl,rfl⟩:=e;rw[aS];omega
     rw[aU _ _ e];exact HI.st c' s' j'
    have RE:=H (λV(G:Sh B o cf (bX cf h c s j) V)(hBV:B<=V.heap.size)=>qO B o cf (bX cf h c s j) c (f/n) (f%n) V G hBV g5 p (by rw[e1];exact b4) (by rw[e2,hn];exact c5));rw[a4]at RE;have y0:wc.cell? (Qz Y 0)=some (I c):=(by simp[QC,Y3.out]);have i5:(f:Int).tdiv (n:Int)=((f/n:Nat):Int):=(by rw[Ig Z];simp);have i6:(f:Int).tmod (n:Int)=((f%n:Nat):Int):=(by rw[GH Z];simp);have i7:¬((n:Int)=0):=Z;have g7:¬(n=0):=Z;have i8:IntKind.i64.wrap ((f:Int)/(n:Int))=(f:Int)/(n:Int):=by
     have L:f/n<6:=(by rw[e1];exact b4);have Q:((f/n:Nat):Int)=(f:Int)/(n:Int):=bH;rw[Hh];omega
    have g9:(0:Int)<=(f:Int):=Z;rw[X];clear X c8 e e1 e2 b4 c5 g4 g1 g5 d7 d8 g3;go_wp2;refine rh (S:=λN=>N.cell? (Qz Y 0)=some (I c)) ?_;have d:=NI (Fu _ _).drew y0;refine pk 0 (J x.P 0) d ?_;refine pk 1 (J Y 0) d ?_;refine pz 2 (I c) d ?_;refine pk 3 (I f) d ?_;refine pk 4 (J Y 0) d ?_;refine pz 5 (I c) d ?_;refine pk 8 (I f) d ?_;refine pk 9 (J Y 0) d ?_;refine pz 10 (I c) d ?_;refine po 6 λK' g=>?_;go_simp;refine(SL _).mono ?_;rintro e y⟨rfl,l⟩;have M:D wc y:=⟨l.os,l.tape,l.output,l.size,l.block⟩;have h5:=NI M y0;refine g _ _ ⟨h5,?_⟩;clear d;have d:=h5;clear g K';refine pz 7 (I ((f/n:Nat):Int)) d ?_;refine po 11 λK' g=>?_
    go_simp;refine(SL _).mono ?_;rintro e V6⟨rfl,b6⟩;have t:=az M b6;have P:=NI t y0;refine g _ _ ⟨P,?_⟩;clear d;have d:=P;clear g K';refine pz 12 (I ((f%n:Nat):Int)) d ?_;refine po 13 λK' g=>?_;go_simp;refine(RE _ (r.below t) (Fx (Fx F B3.bel.size) t.size)).mono ?_;rintro e V7⟨rfl,s7,X⟩;have h7:V7.cell? (Qz Y 0)=some (I c):=(by simp only[QC,X.rf _ _ _ _ (ae Y3.out t) v.out ar ar];rfl);have B7:=H ((T.out▸(r.bkB (T.out▸B3.out) F t):Bk B x.Q W V6).trans (T.out▸X.bk));refine g _ _ ⟨h7,?_⟩;clear d;clear g K';refine bY ?_;have q:=H s7;clear s7 X h5 P h7 M t l b6 y0;go_wp2;refine GX (kw dU _ _) dU ?_;rw[HE];exact⟨rfl,o,a4,T,c9,q,B7⟩
theorem oo(W:QM)(B:Nat)(v:QN)(l m:List Nat)(x:Addr)(c:Nat)(a:W.ownsRow B 27 1 v l.length (Us l))(s:∀j u,(Us m)[j]?=some u->W.cell? (x.add j)=some u)(A:0<m.length)(K:l.length+m.length<=100000){t:QN}{F:QM}
  (e:(Builtin.append_ #[39,39] 39 #[v,.slice (some x) m.length c]).run prog W=.ok t F):t.ownBlock=v.ownBlock\/t.ownBlock=some W.heap.size:=by
 have⟨r,d,o,f,p⟩:=G0 iY;have b:(Us m).length=m.length*r.size:=by rw[f,fK,Nat.mul_one]
 rcases a.2 with⟨rfl,L⟩|⟨g,i,w,rfl,M,G,N,O,Q,R⟩
 ·right;have q:=run_append_nil (P:=prog) W 39 39 27 r _ underlying39 d o x m.length c (Us m) b s A Z (by rw[p];omega);rw[q]at e;injection e with e1 _;rw[<-e1];rfl
 by_cases k:l.length+m.length<=i
 ·left;have y:∀u∈Us m,u.oneCell'=true:=λu z=>by
   simp only[Us,FQ]at z;obtain⟨n,_,rfl⟩:=z;rfl
  have q:=run_append_room (P:=prog) W 39 39 27 r underlying39 d g l.length i w G x m.length c (Us m) b s y k (by rw[f,fK];omega);rw[q]at e;injection e with e1 _;rw[<-e1];rfl
 right;have n:∀j u,(Us l)[j]?=some u->W.cell? (((Qz g 0):Addr).add j)=some u:=a.cells (g:=g) rfl;have q:=run_append_grow (P:=prog) W 39 39 27 r _ underlying39 d o (Qz g 0) l.length i (Us l) (by rw[f];exact a.1) n x m.length c (Us m) b s Z Z (growslice_fits Z (by rw[p];omega));rw[q]at e;injection e with e1 _;rw[<-e1];rfl
theorem uZ(B x cf h)(i:Nat)(r:Rg9)(W)(hs:Sh B x cf h W)(k0:l_ x)(hB:B<=W.heap.size)(hi:Inv cf h)(hd:mE cf)(u9:1<=cf.large)(hr:h.rg[i]?=some r)(l9:r.st=1)(s8:h.rg.length<=900)(q7:h.rel.length<=900)(t6:h.row.length<=900):
  QA 77 #[.pointer (some (Qz x.P 0)),.int .i64 (-1),.int .i64 (i:Nat)] W λe W'=>e=QJ (.tuple #[])/\∃x':Sm,x'.P=x.P/\x'.Q=x.Q/\l_ x'/\Sh B x' cf (aJ cf h r) W'/\Bk B x.Q W W':=by
 have v0:=(Fz.1 hr).1;have u3:=hi.rgs r (FM hr);have u4:r.base=(r.first+r.guards)*1024:=rfl;have r6:r.ext=r.guards+r.pages+1:=rfl;obtain⟨ra,rc,d9⟩:=aK hs.rg;obtain⟨G,rfl⟩:=cr (d9▸hs.rg) Z;obtain⟨d0,d1,d2,d3,d4,d5⟩:=hs.range d9 hr;rw[l9]at d4;have c9:W.cell? (Qz x.P 9)=some (.slice (some (Qz G 0)) h.rg.length rc):=by rw[<-d9];exact hs.cell 9 _ rfl
 obtain⟨o0,t9⟩:=y7 (cG cf h r) (hi.mapSet hr (λx=>{x with st:=2,rq:=0}));obtain⟨res,i3⟩:=Qa (aJ cf h r);rw[i3];obtain⟨k2,b9,HB,HD,HI,l4,t8⟩:=Qi i3 hr hB hd hi k0 d9;have bA:D W (W.alloc (.cells #[.int .u64 (r.base:Nat),.int .i64 (r.first:Nat),.int .i64 (r.ext:Nat),.int .i64 (r.pages:Nat),.int .i64 1,.int .i64 r.rq] 115)):=(Fu _ _).alloc (Fv _) _;obtain⟨SA,BA,YA⟩:=Qe (hs.below bA) (hs.bkB (Bk.refl _ _ _) hB bA) (ao W (.cells #[.int .u64 (r.base:Nat),.int .i64 (r.first:Nat),.int .i64 (r.ext:Nat),.int .i64 (r.pages:Nat),.int .i64 1,.int .i64 r.rq] 115));have n3:=H (show W.heap.size≠G by
  obtain⟨_,cg,b4⟩:=aF (g:=G) hs.rg (by rw[d9];rfl);have:=ag b4;omega)
 have s4:r.base/1024=r.first+r.guards:=Z
 have v8:(i:Int)<(h.rg.length:Int):=Z;have DP:=H (show∀V,Sx x.T x.Q 283 (cf.bud:Nat) h.m V->QA 132 #[.pointer (some (Qz x.T 0)),.int .i64 ((r.base:Int)/1024),.int .i64 (r.pages:Nat)] V λe w'=>e=QJ (.tuple #[])/\Sx x.T x.Q 283 (cf.bud:Nat) (bQ h.m (r.first+r.guards) r.pages) w'/\Sf x.Q V w' from λV hV=>by
  rw[show(r.base:Int)/1024=((r.first+r.guards:Nat):Int) by omega];exact qJ x.T x.Q 283 (cf.bud:Nat) h.m (r.first+r.guards) r.pages V hV Z Z)
 have w2:r.base<1000000:=Z;have w3:IntKind.u64.wrap ((r.base:Int)/1024)=(r.base:Int)/1024:=dX _ Z Z;have v1:IntKind.i64.wrap ((r.base:Int)/1024)=(r.base:Int)/1024:=by rw[Hh];omega
 have SS:=H (show∀(V:QM){h':Hs},Sh B x cf h' V->V.heap[W.heap.size]?=some (.cells #[.int .u64 (r.base:Nat),.int .i64 (r.first:Nat),.int .i64 (r.ext:Nat),.int .i64 (r.pages:Nat),.int .i64 1,.int .i64 r.rq] 115)->V.cell? (Qz x.P 6)=some (.pointer (some (Qz x.T 0)))/\V.cell? (Qz W.heap.size 0)=some (.int .u64 (r.base:Nat))/\V.cell? (Qz W.heap.size 3)=some (.int .i64 (r.pages:Nat))from λV h' hV hY=>⟨hV.cell 6 _ rfl,by simp[QC,hY],by simp[QC,hY]⟩);clear hs k0 hB hi hd i3 hr bA u3 u4 r6 d9 s4;go_enter func77,ntmps77;go_wp2;generalize W.alloc _=V at SA BA YA⊢;generalize W.heap.size=Y at YA n3 SS⊢;refine rh (S:=λW'=>W'.cell? (Qz x.P 6)=some (.pointer (some (Qz x.T 0)))/\W'.cell? (Qz Y 0)=some (.int .u64 (r.base:Nat))/\W'.cell? (Qz Y 3)=some (.int .i64 (r.pages:Nat))) ?_;have F:=SS.out _ (SA.below (Fu _ _).drew) YA.out;refine pk 0 (.pointer (some (Qz x.P 0))) F ?_;refine pk 1 (.pointer (some (Qz x.P 0))) F ?_;refine pk 2 (.pointer (some (Qz x.P 6))) F ?_;refine pz 3 (.pointer (some (Qz x.T 0))) F ?_;refine pk 4 (.pointer (some (Qz Y 0))) F ?_;refine pz 5 (.int .u64 (r.base:Nat)) F ?_;refine pz 6 (.int .u64 ((r.base:Int)/1024)) F ?_;refine pz 7 (.int .i64 ((r.base:Int)/1024)) F ?_;refine pk 8 (.pointer (some (Qz Y 3))) F ?_;refine pz 9 (.int .i64 (r.pages:Nat)) F ?_;refine po 10 λK' hK=>?_;go_simp;refine(DP.out _ ((SA.below (Fu _ _).drew).sp)).mono ?_;rintro e V1⟨rfl,x1,f1⟩;obtain⟨S1,B1,Y1⟩:=Qe ((SA.below (Fu _ _).drew).space (Fx HB.out BA.bel.size) _ x1 f1) ((SA.below (Fu _ _).drew).bkS (SA.bkB BA.out HB.out (Fu _ _).drew) HB.out f1) ((f1.ky (SA.below (Fu _ _).drew).sp).cells _ _ _ _ YA.out ar);refine hK.out _ _ ⟨SS.out _ S1.out Y1.out,?_⟩;clear F;clear hK K';refine bY ?_;obtain⟨h1,i6⟩:∃h1:Hs,h1={h with m:=bQ h.m (r.first+r.guards) r.pages}:=⟨_,rfl⟩;rw[<-i6]at S1;have X:h1.rg=h.rg:=by rw[i6]
 have i8:=H i6;have O:x.rv=.slice (some (Qz G 0)) h1.rg.length rc:=by rw[X];exact t8.out
 obtain⟨S2,K2,G2⟩:=S1.setRange O (by rw[X];exact b9.out) 2 0;have B2:=H (Eg S1.out O B1.out HB.out G2);have Y2:=H (show _=some (.cells #[.int .u64 (r.base:Nat),.int .i64 (r.first:Nat),.int .i64 (r.ext:Nat),.int .i64 (r.pages:Nat),.int .i64 1,.int .i64 r.rq] 115)from(G2.block Y (ag Y1.out) (by simp;exact n3.out)).trans Y1.out);have S2:=H S2;have q1:V1.cell? (Qz x.P 9)=some (.slice (some (Qz G 0)) h.rg.length rc):=by rw[<-X,<-O];exact S1.cell 9 _ rfl
 have r4:=(S1.range O (by rw[X];exact b9.out)).2.2.2.2.1;have r5:=(S1.range O (by rw[X];exact b9.out)).2.2.2.2.2;have fz:∀k,V1.frozen? (Qz G k)=false:=λk=>by
  obtain⟨_,cg,b4⟩:=aF (g:=G) S1.rg (by rw[O];rfl);simp[QD,b4]
 have f4:=fz (i*6+4);obtain⟨k4,m4⟩:∃k4:Ky (· =115) V1 (V1.setCell (Qz G (i*6+4)) (.int .i64 2)),True:=⟨by
  obtain⟨_,cg,b4⟩:=aF (g:=G) S1.rg (by rw[O];rfl);exact Ky.grown b4 rfl (au (al V1 G) _ _),trivial⟩
 have s9:(V1.setCell (Qz G (i*6+4)) (.int .i64 2)).cell? (Qz x.P 9)=some (.slice (some (Qz G 0)) h.rg.length rc):=by
  have:=k4.cells _ _ _ _ S1.box ar;rw[<-X,<-O];simp[QC,this,fN]
 have r7:(V1.setCell (Qz G (i*6+4)) (.int .i64 2)).cell? (Qz G (i*6+5))=some (.int .i64 r.rq):=by
  have ho:=S1.rg;rw[O]at ho;exact bC (dP ho (i*6+4) (by rw[dS,X];omega) (.int .i64 2)) (i*6+5) _ (by rw[List.getElem?_set_ne Z,fo h1.rg (by rw[X];exact b9.out) Z];rfl)
 have u2:(V1.setCell (Qz G (i*6+4)) (.int .i64 2)).frozen? (Qz G (i*6+5))=false:=by
  have ho:=S1.rg;rw[O]at ho;obtain⟨cg,b4⟩:=di (dP ho (i*6+4) (by rw[dS,X];omega) (.int .i64 2));simp[QD,b4]
 clear i6 X O K2 G2 fz k4 m4 S1 B1 Y1 x1 f1 SA BA YA c9 d0 d1 d2 d3 d4 d5 r5;obtain⟨y,e8⟩:∃y:Hs,y={h1 with rg:=h1.rg.set i {r with st:=2,rq:=0}}:=⟨_,rfl⟩;rw[<-e8]at S2;have s7:=H (show tV h r={y with row:=y.row++[r.base]} by
  rw[e8,i8.out];unfold tV;rw[t9.out])
 have l8:y.row=h.row:=by rw[e8,i8.out]
 have m6:y.rel=h.rel:=by rw[e8,i8.out]
 have w6:y.row.length<=900:=by rw[l8];exact t6
 have u7:y.rel.length<=900:=by rw[m6];exact q7
 obtain⟨i4,t4⟩:=y7 l8 m6;have l6:y.rg.length<=900:=by rw[e8,Gj,i8.out];exact s8
 have v3:=H (show r.base∉h.rel from λhm=>by
  have hq:=HI.rel r.base hm;have g5:=FM b9.out;have y:=hq.2.2.2 r g5;have h3:=tN HI.out g5;have h4:=HI.rgs r g5;omega)
 go_upto_region 19 with fail
 generalize (V1.setCell (Qz G (i*6+4)) (.int .i64 2)).setCell (Qz G (i*6+5)) (.int .i64 0)=V2 at S2 B2 Y2⊢;clear q1 r4 f4 s9 r7 u2 e8 l8 m6;obtain⟨oa,oc,i7⟩:=aK S2.ro;have p3:V2.cell? (Qz x.P 10)=some (.slice oa y.row.length oc):=by rw[<-i7];exact S2.cell 10 _ rfl
 have y2:V2.cell? (Qz Y 0)=some (.int .u64 (r.base:Nat)):=by simp[QC,Y2.out]
 have k3:D V2 (V2.alloc (.cells #[.int .u64 (r.base:Nat)] 27)).drew:=((Fu _ _).alloc (Fv _) _).drew;obtain⟨S3,B3,Y3⟩:=Qe (S2.below k3) (S2.bkB B2.out HB.out k3) (ae Y2.out k3);have y3:(V2.alloc (.cells #[.int .u64 (r.base:Nat)] 27)).drew.cell? (Qz Y 0)=some (.int .u64 (r.base:Nat)):=NI k3 y2;have o5:(V2.alloc (.cells #[.int .u64 (r.base:Nat)] 27)).drew.cell? (Qz x.P 10)=some (.slice oa y.row.length oc):=NI k3 p3;have a0:∀j u,(Us [r.base])[j]?=some u->(V2.alloc (.cells #[.int .u64 (r.base:Nat)] 27)).drew.cell? (((Qz V2.heap.size 0):Addr).add j)=some u:=ek V2 (.int .u64 (r.base:Nat)) 27 V2.heap.size rfl;obtain⟨v4,w4,e4,o4,g4⟩:=jQ _ B x.ov y.row [r.base] _ 1 S3.ro a0 bG (Fx HB.out B3.bel.size);have c6:=oo _ B x.ov y.row [r.base] _ 1 S3.ro a0 bH bG e4;rw[i7]at e4;have e4:QI 39 (.slice oa y.row.length oc) (.slice (some (Qz V2.heap.size 0)) 1 1) (V2.alloc (.cells #[.int .u64 (r.base:Nat)] 27)).drew v4 w4:=e4;obtain⟨L,K,t7⟩:=aK o4;subst t7;have a8:(y.row++[r.base]).length=y.row.length+1:=bH;have x0:=H a8;rw[a8]at e4 o4 c6;have f5:Ky (· =27) _ w4:=Ky.grownO (λP hP=>by obtain⟨_,c,hc⟩:=aF S3.ro hP;exact⟨c,27,_,hc,rfl⟩) g4;have P4:w4.heap[x.P]?=some (.cells (fN cf x y.used) 106):=f5.cells _ _ _ _ S3.box ar;have Y4:=f5.cells _ _ _ _ Y3.out ar;have y4:w4.cell? (Qz Y 0)=some (.int .u64 (r.base:Nat)):=by simp[QC,Y4]
 obtain⟨cq,b6⟩:=S3.qrow;have B4:=H (B3.trans (Bk.ofGrownO (λP hP=>by obtain⟨h1,c,hc⟩:=aF S3.ro hP;exact⟨h1,c,27,_,hc,.inr (.inr (.inr (.inr (.inl rfl)))),ar,ar⟩) b6 (Fx HB.out B3.bel.size) g4));have q4:w4.cell? (Qz x.P 10)=some (.slice oa y.row.length oc):=by rw[<-i7];simp[QC,P4,fN]
 have f4:w4.frozen? (Qz x.P 10)=false:=by simp[QD,P4]
 have k5:Ky (· =106) w4 (w4.setCell (Qz x.P 10) (.slice L (y.row.length+1) K)):=Ky.grown P4 rfl (au (al w4 x.P) 10 (.slice L (y.row.length+1) K));have P5:(w4.setCell (Qz x.P 10) (.slice L (y.row.length+1) K)).heap[x.P]?=some (.cells (fN cf {x with rv:=x.rv,ov:=.slice L (y.row.length+1) K,lv:=x.lv} y.used) 106):=by
  simp[World.setCell,FD,P4,fN]
 have S5:=H (show Sh B {x with rv:=x.rv,ov:=.slice L (y.row.length+1) K,lv:=x.lv} cf {y with rg:=y.rg,row:=y.row++[r.base],rel:=y.rel} (w4.setCell (Qz x.P 10) (.slice L (y.row.length+1) K))from
  S3.books ((f5.more (λt ht=>.inr (.inr ht))).trans (k5.more (λt ht=>.inl ht))) x.rv (.slice L (y.row.length+1) K) x.lv _ _ _ P5 (ai (ai S3.rg f5 ar) k5 ar) (by rw[a8];exact ai o4 k5 ar) (ai (lH S3.rl g4 (λg hg a7=>l4.out g a7 hg)) k5 ar))
 have Y5:=H (k5.cells _ _ _ _ Y4 ar);have y5:(w4.setCell (Qz x.P 10) (.slice L (y.row.length+1) K)).cell? (Qz Y 0)=some (.int .u64 (r.base:Nat)):=by simp[QC,Y5.out]
 have B5:=H (show Bk B x.Q W (w4.setCell (Qz x.P 10) (.slice L (y.row.length+1) K))from B4.trans (Bk.ofGrown P4 (f5.cells _ _ _ _ b6 ar) (.inl rfl) ar ar S3.bp (Fx HB.out B4.bel.size) (au (al w4 x.P) 10 (.slice L (y.row.length+1) K))));have n5:=H (show l_ {x with rv:=x.rv,ov:=.slice L (y.row.length+1) K,lv:=x.lv}from λg hg a7=>by
  have g3:(Value.slice L (y.row.length+1) K).ownBlock=some g:=hg;rcases c6 with hw|hw;·exact l4.out g (hw.symm.trans g3) a7
  rw[g3]at hw;obtain⟨_,c,hc⟩:=aF S2.rl a7;have:=ag hc;simp at hw;omega)
 clear o4 g4 f5 P4 Y4 k5 P5 b6 c6 a8 B4 S3 B3 Y3 k3;go_cut [10] (λt3 w'=>t3=.pointer (some (Qz Y 0))/\w'=w4.setCell (Qz x.P 10) (.slice L (y.row.length+1) K));case first=>
  refine rh (S:=λW'=>W'.cell? (Qz Y 0)=some (.int .u64 (r.base:Nat))) ?_;have F:=(show _ from y2);refine pk 0 (.pointer (some (Qz x.P 0))) F ?_;refine pk 1 (.pointer (some (Qz x.P 0))) F ?_;refine pk 2 (.pointer (some (Qz x.P 0))) F ?_;refine pk 3 (.pointer (some (Qz x.P 10))) F ?_;refine pk 5 (.pointer (some (Qz Y 0))) F ?_;refine pz 6 (.int .u64 (r.base:Nat)) F ?_;refine lZ [4,7] λi9 g6=>?_;rcases(by simpa using g6:i9=4\/i9=7)with g6|g6
  ·subst g6;refine cw λK' hK=>?_;go_simp;refine hK.out _ _ ⟨F,?_⟩;clear hK K';refine po 7 λK' hK=>?_
   go_simp;refine hK.out _ _ ⟨y3,?_⟩;clear F;have F:=y3;clear hK K';refine gu 8 ?_;refine fq rfl rfl _ _ rfl rfl rfl rfl e4 ⟨y4,?_⟩;clear F;have F:=y4;refine pk 9 (.pointer (some (Qz x.P 0))) F ?_;refine pk 10 (.pointer (some (Qz x.P 10))) F ?_;refine po 11 λK' hK=>?_;go_simp;refine hK.out _ _ ⟨y5,?_⟩;clear F;clear hK K';refine bY ?_;go_wp2_with fail
   go_meet;case rel=>exact⟨rfl,rfl⟩
  subst g6;refine cw λK' hK=>?_;go_simp;refine hK.out _ _ ⟨y3,?_⟩;clear F;have F:=y3;clear hK K';refine po 4 λK' hK=>?_
  go_simp;refine hK.out _ _ ⟨F,?_⟩;clear hK K';refine gu 8 ?_;refine fq rfl rfl _ _ rfl rfl rfl rfl e4 ⟨y4,?_⟩;clear F;have F:=y4;refine pk 9 (.pointer (some (Qz x.P 0))) F ?_;refine pk 10 (.pointer (some (Qz x.P 10))) F ?_;refine po 11 λK' hK=>?_;go_simp;refine hK.out _ _ ⟨y5,?_⟩;clear F;clear hK K';refine bY ?_;go_wp2_with fail
  go_meet;case rel=>exact⟨rfl,rfl⟩
 case rest=>
 obtain⟨rfl,rfl⟩:=hcut;clear p3 o5 y2 y3 y4 q4 f4 e4 a0 i7 y5;obtain⟨x5,g0⟩:∃x5:Sm,x5={x with rv:=x.rv,ov:=.slice L (y.row.length+1) K,lv:=x.lv}:=⟨_,rfl⟩;obtain⟨h5,e3⟩:∃h5:Hs,h5={y with rg:=y.rg,row:=y.row++[r.base],rel:=y.rel}:=⟨_,rfl⟩;rw[<-g0]at S5 n5;rw[<-e3]at S5;obtain⟨a4,h0,m3,j0,f8,k6⟩:=Qh (show x5.P=x.P by rw[g0]) (show x5.Q=x.Q by rw[g0]) (show x5.ov=.slice L (y.row.length+1) K by rw[g0]) (show tV h r=h5 by rw[s7.out,e3]) (show h5.row=h.row++[r.base] by rw[e3,i4.out]) (show h5.rel=h.rel by rw[e3,t4.out]);have o2:h5.rg.length<=900:=by rw[e3];exact l6
 generalize w4.setCell (Qz x.P 10) (.slice L (y.row.length+1) K)=V5 at S5 B5 Y5⊢;have d6:V5.cell? (Qz x.P 10)=some (.slice L (y.row.length+1) K):=by rw[<-m3.out,<-a4.out];exact S5.cell 10 _ rfl
 have j5:V5.cell? (Qz x.P 2)=some (.int .i64 (cf.large:Nat)):=by rw[<-a4.out];exact S5.cell 2 _ rfl
 clear g0 e3 l6;by_cases e5:cf.large<(h.row++[r.base]).length
 ·have HE:=H (show res={tV h r with rg:=(tV h r).rg.filter λx=>x.base≠(h.row++[r.base])[0]?.getD 0,rel:=h.rel++[(h.row++[r.base])[0]?.getD 0],row:=(h.row++[r.base]).tail} by
   rw[<-k2.out,o0.out,GP e5])
  have c8:(cf.large:Int)<(y.row.length:Int)+1:=by
   rw[i4.out];simp at e5;omega
  have p9:decide ((cf.large:Int)<(y.row.length:Int)+1)=true:=G8 c8;obtain⟨b0,t,f7⟩:∃b0 t,h.row++[r.base]=b0::t:=by
   cases h.row with
   |nil=>exact⟨_,_,rfl⟩
   |cons a l=>exact⟨a,l++[r.base],rfl⟩
  have m1:t.length=y.row.length:=by
   have:=congrArg List.length f7;rw[i4.out];simp at this;omega
  have x6:1<=t.length:=by rw[m1,i4.out];simp at e5;omega
  have s6:=H f7;have o3:=H (show res={h5 with rg:=h5.rg.filter λx=>x.base≠b0,rel:=h5.rel++[b0],row:=t} by
   rw[HE.out,j0.out,k6.out,f7];rfl)
  have s5:=H (show∀o∈h5.rg,o.base=b0->o.st=2 from λo ho hb=>by
   have i1:=HI.fA (FM b9.out) l9 {cf with large:=h.row.length+1} rfl rfl (Fv _);rw[j0.out]at i1;obtain⟨r0,m7,s0,e0⟩:=(i1.row b0).1 (by rw[f8.out,f7];simp);have:=i1.one ho m7 (hb.trans e0.symm);rw[this];exact s0)
  have w8:=H (show b0<1000000 from by
   have i1:=HI.fA (FM b9.out) l9 {cf with large:=h.row.length+1} rfl rfl (Fv _);rw[j0.out]at i1;obtain⟨r0,m7,s0,e0⟩:=(i1.row b0).1 (by rw[f8.out,f7];simp);have h3:=i1.rgs r0 m7;have h4:r0.base=(r0.first+r0.guards)*1024:=rfl;unfold Rg9.ext at h3;omega)
  clear e5 c8 f7 HE;have e2:=S5.ro;rw[m3.out,f8.out,s6.out]at e2;have r3:(b0::t).length=y.row.length+1:=bG;rw[r3]at e2;obtain⟨og,r8⟩:=cr e2 Z;subst r8;have u6:y.row.length+1<=K:=by
   rcases e2.2 with⟨e,_⟩|⟨g',u5,u8,e,_,_,h3,_⟩;·simp at e
   simp at e;omega
  have p5:=H e2;go_wp2;refine rh (S:=λW'=>W'.cell? (Qz x.P 10)=some (.slice (some (Qz og 0)) (y.row.length+1) K)/\W'.cell? (Qz x.P 2)=some (.int .i64 (cf.large:Nat))) ?_;have F:=(show _/\_ from⟨d6,j5⟩);refine pk 0 (.pointer (some (Qz x.P 0))) F ?_;refine pk 1 (.pointer (some (Qz x.P 0))) F ?_;refine pk 2 (.pointer (some (Qz x.P 10))) F ?_;refine pz 3 (.slice (some (Qz og 0)) (y.row.length+1) K) F ?_;refine pz 4 (.int .i64 ((y.row.length:Int)+1)) F ?_;refine pk 5 (.pointer (some (Qz x.P 0))) F ?_;refine pk 6 (.pointer (some (Qz x.P 0))) F ?_;refine pk 7 (.pointer (some (Qz x.P 0))) F ?_;refine pk 8 (.pointer (some (Qz x.P 2))) F ?_;refine pz 9 (.int .i64 (cf.large:Nat)) F ?_;refine pz 10 Ql F ?_;refine bY ?_;obtain⟨S6,B6,O6⟩:=Qe (S5.below (Fu _ _).drew) (show Bk B x5.Q W V5.drew from S5.bkB (h0.out▸B5.out) HB.out (Fu _ _).drew) (ai p5.out (Ky.below (Fu _ V5).drew:Ky (λ_=>False) _ _) (λe=>e));clear F d6 j5 e2;have k1:V5.drew.cell? (Qz x.P 10)=some (.slice (some (Qz og 0)) (y.row.length+1) K):=by rw[<-m3.out,<-a4.out];exact S6.cell 10 _ rfl
  have p8:V5.drew.frozen? (Qz x.P 10)=false:=by rw[<-a4.out];exact S6.boxF 10
  have d0:V5.drew.cell? (Qz og 0)=some (.int .u64 (b0:Nat)):=bC O6.out 0 _ rfl;have t5:∀w:QM,(Instr.slice 39 (.slice (some (Qz og 0)) (y.row.length+1) K) (some (.int .i64 1)) none none).run prog w=.ok (.slice (some (Qz og 1)) y.row.length (K-1)) w:=λw=>by
   have h:=run_slice_l (P:=prog) w 39 (some (Qz og 0)) (y.row.length+1) K underlying39 .i64 (1:Int) Z Z;have hs:(sizeOf (prog.elem 39)).run prog w=.ok 1 w:=E;have e:((Qz og 0):Addr).add 1=(Qz og 1):=(by simp[Addr.add]);have q8:¬(K=1):=Z;rw[h,hs];simp[sliced,Result.andThen,e,q8]
  have a0:∀j u,(Us t)[j]?=some u->V5.drew.cell? (((Qz og 1):Addr).add j)=some u:=λj u hj=>by
   rw[Addr.add_mid];exact bC O6.out (1+j) u (by rw[Nat.add_comm];exact hj)
  obtain⟨v7,w7,e7,o7,g7⟩:=jQ V5.drew V5.drew.heap.size (.slice none 0 0) [] t _ (K-1) ⟨rfl,.inl ⟨rfl,rfl⟩⟩ a0 bG (Fv _);rw[FV]at o7;obtain⟨ta,tc,s3⟩:=aK o7;subst s3;rw[m1]at e7 o7;have b7:Below V5.drew.heap.size V5.drew w7:=(Fu _ _).grown g7 (Fv _) (λr hr=>by simp[Value.ownBlock]at hr);obtain⟨S7,B7⟩:=y7 (S6.below b7) (S6.bkB B6.out HB.out b7);have p0:=NI b7 k1;have n4:w7.frozen? (Qz x.P 10)=false:=by rw[<-a4.out];exact S7.boxF 10
  have k8:Ky (· =106) w7 (w7.setCell (Qz x5.P 10) (.slice ta y.row.length tc)):=Ky.grown S7.box rfl (au (al w7 x5.P) 10 _);have P8:(w7.setCell (Qz x5.P 10) (.slice ta y.row.length tc)).heap[x5.P]?=some (.cells (fN cf {x5 with rv:=x5.rv,ov:=.slice ta y.row.length tc,lv:=x5.lv} h5.used) 106):=by rw[S7.boxSet];rfl
  have S8:=H (show Sh B {x5 with rv:=x5.rv,ov:=.slice ta y.row.length tc,lv:=x5.lv} cf {h5 with rg:=h5.rg,row:=t,rel:=h5.rel} (w7.setCell (Qz x5.P 10) (.slice ta y.row.length tc))from
   S7.books (k8.more (λt ht=>.inl ht)) x5.rv (.slice ta y.row.length tc) x5.lv _ _ _ P8 (ai S7.rg k8 ar) (by rw[m1];exact dm (ai o7 k8 ar) (Fx HB.out B6.bel.size)) (ai S7.rl k8 ar))
  have B8:=H (S7.bkP B7.out HB.out (au (al w7 x5.P) 10 (.slice ta y.row.length tc)));have j6:=H (show∀g,(Value.slice ta y.row.length tc).ownBlock=some g->V5.drew.heap.size<=g/\g<(w7.setCell (Qz x5.P 10) (.slice ta y.row.length tc)).heap.size from λg hg=>by
   obtain⟨h1,c,hc⟩:=aF o7 hg;have:=ag hc;have e:(w7.setCell (Qz x5.P 10) (.slice ta y.row.length tc)).heap.size=w7.heap.size:=(by simp[World.setCell]);omega)
  have o8:=H (show∀g,x5.lv.ownBlock=some g->g<V5.drew.heap.size from λg hg=>by
   obtain⟨_,c,hc⟩:=aF S6.rl hg;exact ag hc)
  rw[a4.out]at B8 j6;have eP:w7.setCell (Qz x5.P 10) (.slice ta y.row.length tc)=w7.setCell (Qz x.P 10) (.slice ta y.row.length tc):=by rw[a4.out]
  rw[eP]at S8;clear k8 P8 eP o7 g7 b7 a0;obtain⟨qa,qc,l7⟩:=aK S8.rg;obtain⟨N,hN⟩:=Qa h5.rg.length;have q2:(w7.setCell (Qz x.P 10) (.slice ta y.row.length tc)).cell? (Qz x.P 9)=some (.slice qa N qc):=by
   have e0:(w7.setCell (Qz x.P 10) (.slice ta y.row.length tc)).cell? (Qz x5.P 9)=some x5.rv:=S8.cell 9 _ rfl;rw[a4.out]at e0;rw[e0,<-hN];exact congrArg some l7
  have v5:N<=900:=by rw[<-hN];exact o2
  obtain⟨s2,HN⟩:=y7 l7 hN;clear l7 hN;go_wp2_with (at_builtin;refine cY rfl (.const (.slice none 0 0)) (.tmp 178) (by with_reducible rfl) rfl rfl rfl e7 ?_);obtain⟨x8,b8⟩:∃x8:Sm,x8={x5 with rv:=x5.rv,ov:=.slice ta y.row.length tc,lv:=x5.lv}:=⟨_,rfl⟩;obtain⟨h8,f2⟩:∃h8:Hs,h8={h5 with rg:=h5.rg,row:=t,rel:=h5.rel}:=⟨_,rfl⟩;rw[<-b8,<-f2]at S8;have c7:=H (show x8.P=x.P by rw[b8];exact a4.out);obtain⟨k9,q5,p1⟩:=Qe (show x8.Q=x5.Q by rw[b8]) (show x8.ov=.slice ta y.row.length tc by rw[b8]) (show x8.lv=x5.lv by rw[b8]);have h9:=H (show x8.rv=.slice qa h8.rg.length qc by rw[b8,f2];exact s2.out);obtain⟨d8,p2⟩:=y7 (show h8.rg=h5.rg by rw[f2]) (show res={h8 with rg:=h8.rg.filter λx=>x.base≠b0,row:=h8.row,rel:=h8.rel++[b0]} by rw[o3.out,f2]);have n9:h8.rel.length<=900:=by rw[f2];show h5.rel.length<=900;rw[k6.out];exact q7
  generalize w7.setCell (Qz x.P 10) (.slice ta y.row.length tc)=V8 at S8 B8 j6 q2⊢;clear b8 f2 k1 p8 d0 t5 e7 p0 n4;obtain⟨pr,m0⟩:∃pr:Rg9->Bool,pr=λx=>decide (x.base≠b0):=⟨_,rfl⟩
  have r1:=H m0;rw[<-m0]at p2;clear m0;go_loopw [12,187] (λv i wq=>∃k:Nat,k<=N/\i=.int .i64 k/\Hid (wq.ownsRow V8.heap.size 115 6 v ((h8.rg.take k).filter pr).length (eM ((h8.rg.take k).filter pr)))/\Hid (D V8 wq)) (λ_ i _=>N-(intOf i).toNat);case atStart=>exact⟨0,FH _,rfl,H ⟨rfl,.inl ⟨rfl,rfl⟩⟩,H (Fu _ _)⟩
  case round=>
   clear q2;obtain⟨k,hk,rfl,OQ,BQ⟩:=hrel;obtain⟨va,vc,r9⟩:=aK OQ.out;subst r9;by_cases n8:k<N
   ·obtain⟨o,ho⟩:∃o,h8.rg[k]?=some o:=⟨_,Fy (by rw[d8.out,HN.out];exact n8)⟩;obtain⟨gq,rfl⟩:=cr (h9.out▸S8.rg) (by rw[d8.out,HN.out];omega);obtain⟨d0,d1,d2,d3,d4,d5⟩:=(S8.below BQ.out).range h9.out ho;have n6:=H (show(h8.rg.take (k+1)).filter pr=(h8.rg.take k).filter pr++(if pr o then[o]else[]) by
     rw[F_,ho,Hl];simp only[IQ,List.filter_cons,List.filter_nil])
    have h6:((h8.rg.take k).filter pr).length<=900:=by
     have:=Hb pr (h8.rg.take k);have y:=List.length_take_le k h8.rg;omega
    have h7:=s5.out o (by rw[<-d8.out];exact FM ho);generalize (h8.rg.take k).filter pr=q at*;have j7:pr o=decide (o.base≠b0):=(by rw[r1.out]);have b1:D wr (wr.alloc (.cells #[.int .u64 (o.base:Nat),.int .i64 (o.first:Nat),.int .i64 (o.ext:Nat),.int .i64 (o.pages:Nat),.int .i64 o.st,.int .i64 o.rq] 115)):=(Fu _ _).alloc (Fv _) _;obtain⟨O1,B1⟩:=y7 (OQ.alloc (.cells #[.int .u64 (o.base:Nat),.int .i64 (o.first:Nat),.int .i64 (o.ext:Nat),.int .i64 (o.pages:Nat),.int .i64 o.st,.int .i64 o.rq] 115)) (az BQ.out b1);by_cases hb:o.base=b0
    ·have p4:=h7 hb;have A2:=H (show(if pr o then[o]else[])=[] by rw[j7,hb];simp);rw[p4]at d4 O1 B1;rw[hb]at d0 O1 B1;clear h7 j7 ho b1;generalize o.first=z1 at*
     generalize o.ext=z2 at*;generalize o.pages=z3 at*;generalize o.rq=z5 at*;clear hb p4;go_wp2;go_roundw;(case rel=>exact⟨k+1,Z,aY,H (by rw[n6.out,A2.out,Gl];exact O1.out),B1⟩);case measure=>exact QE
    have A2:=H (show(if pr o then[o]else[])=[o] by rw[j7,G8 hb];rfl);have w5:(((o.base:Nat):Int) != ((b0:Nat):Int))=true:=bG;have b2:Below (wr.alloc (.cells #[.int .u64 (o.base:Nat),.int .i64 (o.first:Nat),.int .i64 (o.ext:Nat),.int .i64 (o.pages:Nat),.int .i64 o.st,.int .i64 o.rq] 115)).heap.size (wr.alloc (.cells #[.int .u64 (o.base:Nat),.int .i64 (o.first:Nat),.int .i64 (o.ext:Nat),.int .i64 (o.pages:Nat),.int .i64 o.st,.int .i64 o.rq] 115)) ((wr.alloc (.cells #[.int .u64 (o.base:Nat),.int .i64 (o.first:Nat),.int .i64 (o.ext:Nat),.int .i64 (o.pages:Nat),.int .i64 o.st,.int .i64 o.rq] 115)).alloc (.cells #[.int .u64 (o.base:Nat),.int .i64 (o.first:Nat),.int .i64 (o.ext:Nat),.int .i64 (o.pages:Nat),.int .i64 o.st,.int .i64 o.rq] 115)):=(Fu _ _).alloc (Fv _) _;obtain⟨O2,B2⟩:=y7 (O1.alloc (.cells #[.int .u64 (o.base:Nat),.int .i64 (o.first:Nat),.int .i64 (o.ext:Nat),.int .i64 (o.pages:Nat),.int .i64 o.st,.int .i64 o.rq] 115)) (az B1.out b2);obtain⟨v9,w9,e9,o9,g9⟩:=wL _ V8.heap.size (.slice va q.length vc) q o _ 1 O2.out (ao (wr.alloc (.cells #[.int .u64 (o.base:Nat),.int .i64 (o.first:Nat),.int .i64 (o.ext:Nat),.int .i64 (o.pages:Nat),.int .i64 o.st,.int .i64 o.rq] 115)) (.cells #[.int .u64 (o.base:Nat),.int .i64 (o.first:Nat),.int .i64 (o.ext:Nat),.int .i64 (o.pages:Nat),.int .i64 o.st,.int .i64 o.rq] 115)) Z B2.size;rw[aO]at e9;have N9:=H (IT o9 (B2.grown g9 B2.size (λr hr=>(aF O2.out hr).1)));have n7:=ao wr (.cells #[.int .u64 (o.base:Nat),.int .i64 (o.first:Nat),.int .i64 (o.ext:Nat),.int .i64 (o.pages:Nat),.int .i64 o.st,.int .i64 o.rq] 115);have u0:(wr.alloc (.cells #[.int .u64 (o.base:Nat),.int .i64 (o.first:Nat),.int .i64 (o.ext:Nat),.int .i64 (o.pages:Nat),.int .i64 o.st,.int .i64 o.rq] 115)).cell? (Qz wr.heap.size 0)=some (.int .u64 (o.base:Nat)):=(by simp only[QC,n7];rfl);clear h7 j7 ho b1 b2 o9 g9 n7;go_wp2_with (at_builtin;refine cY rfl (.tmp 200) (.tmp 202) (by with_reducible rfl) rfl rfl rfl e9 ?_);go_roundw;(case rel=>exact⟨k+1,Z,aY,H (by rw[n6.out,A2.out];exact N9.1),H N9.2⟩);case measure=>exact QE
   obtain rfl:k=N:=Z;have r2:=H (show h8.rg.take k=h8.rg from Ge (by rw[d8.out,HN.out];exact Fv _));rw[r2.out]at OQ⊢;obtain⟨kl,h6⟩:=Qa ((h8.rg.filter pr).length);rw[h6]at OQ⊢;obtain⟨x9,a6,p6⟩:=Qe h6 (S8.below BQ.out) (show Bk B x8.Q W wr from S8.bkB (k9.out▸B8.out) HB.out BQ.out);have q9:wr.cell? (Qz x.P 9)=some x8.rv:=(by rw[<-c7.out];exact a6.cell 9 _ rfl);rw[h9.out]at q9;have f9:wr.frozen? (Qz x.P 9)=false:=(by rw[<-c7.out];exact a6.boxF 9);have g8:Ky (· =106) wr (wr.setCell (Qz x8.P 9) (.slice va kl vc)):=Ky.grown a6.box rfl (au (al wr x8.P) 9 (.slice va kl vc));have n0:(wr.setCell (Qz x8.P 9) (.slice va kl vc)).heap[x8.P]?=some (.cells (fN cf {x8 with rv:=.slice va kl vc,ov:=x8.ov,lv:=x8.lv} h8.used) 106):=(by rw[a6.boxSet];rfl);have b5:=H (show Sh B {x8 with rv:=.slice va kl vc,ov:=x8.ov,lv:=x8.lv} cf {h8 with rg:=h8.rg.filter pr,row:=h8.row,rel:=h8.rel} (wr.setCell (Qz x8.P 9) (.slice va kl vc))from
    a6.books (g8.more (λt ht=>.inl ht)) (.slice va kl vc) x8.ov x8.lv _ _ _ n0 (by rw[h6];exact dm (ai OQ.out g8 ar) (Fx HB.out B8.bel.size)) (ai a6.ro g8 ar) (ai a6.rl g8 ar))
   have m8:=H (a6.bkP p6.out HB.out (au (al wr x8.P) 9 (.slice va kl vc)));have eP:wr.setCell (Qz x8.P 9) (.slice va kl vc)=wr.setCell (Qz x.P 9) (.slice va kl vc):=(by rw[c7.out]);rw[eP]at b5 m8;have t2:(wr.setCell (Qz x.P 9) (.slice va kl vc)).heap.size=wr.heap.size:=(by simp[World.setCell]);obtain⟨z,a5⟩:∃z:Sm,z={x8 with rv:=.slice va kl vc,ov:=x8.ov,lv:=x8.lv}:=⟨_,rfl⟩;obtain⟨A,d7⟩:∃A:Hs,A={h8 with rg:=h8.rg.filter pr,row:=h8.row,rel:=h8.rel}:=⟨_,rfl⟩;rw[<-a5,<-d7]at b5;have a2:=H (show z.P=x.P by rw[a5];exact c7.out);have i2:=H (show z.Q=x8.Q by rw[a5]);have g1:z.ov=.slice ta y.row.length tc:=(by rw[a5];exact q5.out);have i0:z.lv=x5.lv:=(by rw[a5];exact p1.out);have q6:=H (show res={A with rg:=A.rg,row:=A.row,rel:=A.rel++[b0]} by rw[p2.out,d7]);have u1:A.rel.length<=900:=(by rw[d7];exact n9);obtain⟨la,lc,m2⟩:=aK b5.rl;have v6:(wr.setCell (Qz x.P 9) (.slice va kl vc)).cell? (Qz x.P 11)=some (.slice la A.rel.length lc):=by
    have e0:(wr.setCell (Qz x.P 9) (.slice va kl vc)).cell? (Qz z.P 11)=some z.lv:=b5.cell 11 _ rfl;rw[a2.out,m2]at e0;exact e0
   have m9:Below (wr.setCell (Qz x.P 9) (.slice va kl vc)).heap.size (wr.setCell (Qz x.P 9) (.slice va kl vc)) ((wr.setCell (Qz x.P 9) (.slice va kl vc)).alloc (.cells #[.int .u64 (b0:Nat)] 27)):=(Fu _ _).alloc (Fv _) _;obtain⟨a3,j9⟩:=y7 (b5.below m9) (show Bk B z.Q W _ from b5.bkB (i2.out▸m8.out) HB.out m9);have a0:∀j u,(Us [b0])[j]?=some u->((wr.setCell (Qz x.P 9) (.slice va kl vc)).alloc (.cells #[.int .u64 (b0:Nat)] 27)).cell? ((⟨(wr.setCell (Qz x.P 9) (.slice va kl vc)).heap.size,0,none⟩:Addr).add j)=some u:=ek _ (.int .u64 (b0:Nat)) 27 _ rfl;obtain⟨w1,a1,f6,i5,j8⟩:=jQ _ B z.lv A.rel [b0] _ 1 a3.rl a0 bG (Fx HB.out j9.bel.size);have c6:=oo _ B z.lv A.rel [b0] _ 1 a3.rl a0 bH bG f6;rw[m2]at f6;obtain⟨na,nc,o6⟩:=aK i5;subst o6;have a8:(A.rel++[b0]).length=A.rel.length+1:=bH;rw[a8]at f6 i5 c6;have f6:QI 39 (.slice la A.rel.length lc) (.slice (some (Qz wr.heap.size 0)) 1 1) ((wr.setCell (Qz x.P 9) (.slice va kl vc)).alloc (.cells #[.int .u64 (b0:Nat)] 27)) (.slice na (A.rel.length+1) nc) a1:=(by rw[<-t2];exact f6);have a9:Ky (· =27) _ a1:=Ky.grownO (λP hP=>by obtain⟨_,c,hc⟩:=aF a3.rl hP;exact⟨c,27,_,hc,rfl⟩) j8;have f3:a1.heap[z.P]?=some (.cells (fN cf z A.used) 106):=a9.cells _ _ _ _ a3.box ar;obtain⟨cq,b6⟩:=a3.qrow;have m5:=H (j9.trans (Bk.ofGrownO (λP hP=>by obtain⟨h1,c,hc⟩:=aF a3.rl hP;exact⟨h1,c,27,_,hc,.inr (.inr (.inr (.inr (.inl rfl)))),ar,ar⟩) b6 (Fx HB.out j9.bel.size) j8));have v2:a1.cell? (Qz x.P 11)=some (.slice la A.rel.length lc):=(by rw[<-m2,<-a2.out];simp[QC,f3,fN]);have w0:a1.frozen? (Qz x.P 11)=false:=(by rw[<-a2.out];simp[QD,f3]);have g2:Ky (· =106) a1 (a1.setCell (Qz z.P 11) (.slice na (A.rel.length+1) nc)):=Ky.grown f3 rfl (au (al a1 z.P) 11 _);have q0:(a1.setCell (Qz z.P 11) (.slice na (A.rel.length+1) nc)).heap[z.P]?=some (.cells (fN cf {z with rv:=z.rv,ov:=z.ov,lv:=.slice na (A.rel.length+1) nc} A.used) 106):=by
    simp[World.setCell,FD,f3,fN]
   have o1:=H (show Sh B {z with rv:=z.rv,ov:=z.ov,lv:=.slice na (A.rel.length+1) nc} cf {A with rg:=A.rg,row:=A.row,rel:=A.rel++[b0]} (a1.setCell (Qz z.P 11) (.slice na (A.rel.length+1) nc))from
    a3.books ((a9.more (λt ht=>.inr (.inr ht))).trans (g2.more (λt ht=>.inl ht))) z.rv z.ov (.slice na (A.rel.length+1) nc) _ _ _ q0 (ai (ai a3.rg a9 ar) g2 ar) (ai (lH a3.ro j8 (λg hg a7=>by
     rw[g1]at hg;rw[i0]at a7;have h1:=(j6.out g hg).1;have y:=o8.out g a7;omega)) g2 ar) (by rw[a8];exact ai i5 g2 ar))
   have q3:=H (m5.trans (Bk.ofGrown f3 (a9.cells _ _ _ _ b6 ar) (.inl rfl) ar ar a3.bp (Fx HB.out m5.bel.size) (au (al a1 z.P) 11 (.slice na (A.rel.length+1) nc))));have p7:=H (show l_ {z with rv:=z.rv,ov:=z.ov,lv:=.slice na (A.rel.length+1) nc}from λg hg a7=>by
    have g3:z.ov.ownBlock=some g:=hg;have l5:(Value.slice na (A.rel.length+1) nc).ownBlock=some g:=a7;rw[g1]at g3;have h1:=j6.out g g3;rcases c6 with hw|hw;·rw[l5,i0]at hw;have y:=o8.out g hw.symm;omega
    rw[l5]at hw;simp at hw;have:=BQ.size;omega)
   have eQ:a1.setCell (Qz z.P 11) (.slice na (A.rel.length+1) nc)=a1.setCell (Qz x.P 11) (.slice na (A.rel.length+1) nc):=(by rw[a2.out]);rw[eQ]at o1 q3;have k7:=H (show z.Q=x.Q by rw[i2.out,k9.out];exact h0.out);clear g8 n0 h6 i5 j8 a9 f3 b6 g2 q0 c6 a8 m9 a0 eP eQ a5 d7;go_wp2_with (at_builtin;refine cY rfl (.tmp 213) (.tmp 215) (by with_reducible rfl) rfl rfl rfl f6 ?_);go_end0;rw[q6.out];exact⟨rfl,{z with rv:=z.rv,ov:=z.ov,lv:=.slice na (A.rel.length+1) nc},a2.out,k7.out,p7.out,o1.out,k7.out▸q3.out⟩
 have HE:=H (show res=h5 by rw[<-k2.out,o0.out,GO e5,j0.out]);have c8:¬((cf.large:Int)<(y.row.length:Int)+1):=by
  rw[i4.out];simp at e5;omega
 have p9:decide ((cf.large:Int)<(y.row.length:Int)+1)=false:=GR c8;go_wp2;refine rh (S:=λW'=>W'.cell? (Qz x.P 10)=some (.slice L (y.row.length+1) K)/\W'.cell? (Qz x.P 2)=some (.int .i64 (cf.large:Nat))) ?_;have F:=(show _/\_ from⟨d6,j5⟩);refine pk 0 (.pointer (some (Qz x.P 0))) F ?_;refine pk 1 (.pointer (some (Qz x.P 0))) F ?_;refine pk 2 (.pointer (some (Qz x.P 10))) F ?_;refine pz 3 (.slice L (y.row.length+1) K) F ?_;refine pz 4 (.int .i64 ((y.row.length:Int)+1)) F ?_;refine pk 5 (.pointer (some (Qz x.P 0))) F ?_;refine pk 6 (.pointer (some (Qz x.P 0))) F ?_;refine pk 7 (.pointer (some (Qz x.P 0))) F ?_;refine pk 8 (.pointer (some (Qz x.P 2))) F ?_;refine pz 9 (.int .i64 (cf.large:Nat)) F ?_;refine pz 10 Qk F ?_;refine bY ?_;obtain⟨S6,B6⟩:=y7 (S5.below (Fu _ _).drew) (show Bk B x.Q W _ from h0.out▸S5.bkB (h0.out▸B5.out) HB.out (Fu _ _).drew);clear F d6 j5;go_wp2;go_end0;rw[HE.out];exact⟨rfl,x5,a4.out,h0.out,n5.out,S6.out,B6.out⟩
section
variable {W:World}{l m:List Nat}{i j x:Nat}
def iS(an:List An4)(o:fL):Option Nat:=
 if o.ref=0 then some o.p
 else if o.ref<0\/(an.length:Int)<o.ref then none
 else some ((o.p+((an[o.ref.toNat-1]?.map An4.addr).getD 0))%18446744073709551616)
theorem vi(cf h an o):bU cf h an o=match iS an o with
  |some p=>NQ cf h o p
  |none=>(.no 6,h):=by
 unfold bU iS
 by_cases a:o.ref=0
 ·rw[GP a,GP a]
 rw[GO a,GO a]
 by_cases b:o.ref<0\/(an.length:Int)<o.ref
 ·rw[GP b,GP b]
 rw[GO b,GO b]
structure wK(B:Nat)(W:QM)(l:List Aw)(v:QN):Prop where
 row:W.ownsRow B 46 4 v l.length (fZ l)
 len:l.length<=300
def D9(W:World)(r:Option Nat)(e:Ending)(W':World):Prop:=D W W'/\((∃p,r=some p/\e=.returned (U p))\/(r=none/\e=.panicked (ip 6)))
theorem uD(B)(P:Nat)(o:fL)(z:QP)(A F:Nat)(l)(s:QP)(d k:Nat)(W:QM)(b:QG W P 119 (.slice s d k))(f:wK B W l (.slice s d k))(ho:o.p<18446744073709551616)(Q: -9223372036854775808<=o.ref):
  QA 98 #[J P 0,.agg #[I o.kd,I o.ref,U o.p,U o.a,U o.b,.slice z A F]] W (D9 W (iS (l.map (·.1)) o)):=by
 have g:d=l.length:=by
  have⟨a,c,e⟩:=aK f.row;injection e with _ i _
 have G:=f.len;have⟨V,i⟩:=Qb (W.alloc (.cells #[I o.kd,I o.ref,U o.p,U o.a,U o.b,.slice z A F] 48));have a:D W V:=by rw[i];exact(Fu _ _).alloc (Fv _) _
 have X:=(show V.heap[W.heap.size]?=some (.cells #[I o.kd,I o.ref,U o.p,U o.a,U o.b,.slice z A F] 48) by rw[i];exact ao W _);have m:V.cell? (Qz W.heap.size 1)=some (I o.ref):=bJ X;have t:V.cell? (Qz W.heap.size 2)=some (U o.p):=bJ X;have u:=NI a b;have⟨n,y⟩:=y7 (ax f.row a) a;clear b f X a;by_cases b:o.ref=0
 ·have p:=H (show iS (l.map (·.1)) o=some o.p by unfold iS;rw[GP b]);have R:(o.ref==0)=true:=by simpa using b
  clear u n b;generalize o.ref=e at*;go_enter func98,ntmps98;go_upto_region 1 with fail
  refine Eq.mp (congrArg _ i) ?_;clear i;generalize W.heap.size=X at m t⊢;go_wp2;go_ret;rw[p];exact⟨y,.inl ⟨_,rfl,rfl⟩⟩
 have R:(o.ref==0)=false:=by simpa using b
 by_cases v:o.ref<0
 ·have p:=H (show iS (l.map (·.1)) o=none by unfold iS;rw[GO b,GP (.inl v)]);clear b;generalize o.ref=e at*;go_enter func98,ntmps98;go_upto_region 1 with fail
  refine Eq.mp (congrArg _ i) ?_;clear i;generalize W.heap.size=X at m t⊢;go_upto_region 3 with fail
  refine rh (S:=λf=>QG f X 1 (I e)/\QG f P 119 (.slice s d k)) ?_;have a:=IT (show V.drew.cell? _=_ from m) (show V.drew.cell? _=_ from u);refine pk 0 (J X 1) a ?_;refine pz 1 (I (e)) a ?_;refine pz 2 Ql a ?_;refine pk 3 Ql a ?_;refine ps 4 a ?_;refine ps 5 a ?_;refine ps 6 a ?_;refine ps 7 a ?_;refine ps 8 a ?_;refine ps 9 a ?_;refine ps 10 a ?_;refine ps 11 a ?_;refine pz 12 Ql a ?_;refine bY ?_;clear a;go_wp2;rw[p];exact⟨rfl,y.drew,.inr ⟨rfl,rfl⟩⟩
 by_cases r:(l.length:Int)<o.ref
 ·have p:=H (show iS (l.map (·.1)) o=none by unfold iS;rw[GO b,GP (.inr (by simpa using r))]);clear b;rw[<-g]at r;generalize o.ref=e at*;go_enter func98,ntmps98;go_upto_region 1 with fail
  refine Eq.mp (congrArg _ i) ?_;clear i;generalize W.heap.size=X at m t⊢;go_upto_region 3 with fail
  refine rh (S:=λf=>QG f X 1 (I e)/\QG f P 119 (.slice s d k)) ?_;have a:=IT (show V.drew.cell? _=_ from m) (show V.drew.cell? _=_ from u);refine pk 0 (J X 1) a ?_;refine pz 1 (I (e)) a ?_;refine pz 2 Qk a ?_;refine pk 3 Qk a ?_;refine pk 4 (J X 1) a ?_;refine pz 5 (I (e)) a ?_;refine pk 6 (J P 0) a ?_;refine pk 7 (J P 0) a ?_;refine pk 8 (J P 119) a ?_;refine pz 9 (.slice s d k) a ?_;refine pz 10 (I d) a ?_;refine pz 11 Ql a ?_;refine pz 12 Ql a ?_;refine bY ?_;clear a;go_wp2;rw[p];exact⟨rfl,y.drew,.inr ⟨rfl,rfl⟩⟩
 obtain⟨c,K⟩:∃c:Nat,o.ref=(c:Int)+1:=⟨(o.ref-1).toNat,Z⟩;have w:c<l.length:=Z;obtain⟨q,L⟩:∃q,l[c]?=some q:=⟨_,Fy w⟩;obtain⟨j,M⟩:∃j,s=some (Qz j 0):=by
  rw[g]at n;exact cr n Z
 subst M;have T:V.cell? (Qz j (c*4+1))=some (U q.1.addr):=by
  have:=n.out;rw[g]at this;exact bC this (c*4+1) _ (eC aC 4 (λ_=>rfl) l c q L 1 Z)
 have p:=H (show iS (l.map (·.1)) o=some ((o.p+q.1.addr)%18446744073709551616) by
  unfold iS;rw[GO b,GO bG];have e1:o.ref.toNat-1=c:=Z;rw[e1,Gv,L];rfl)
 have x:(o.ref-1)=(c:Int):=Z;have Y:IntKind.i64.wrap (o.ref-1)=(c:Int):=by rw[x];rw[Hh];omega
 have O:(c:Int)<(d:Int):=Z;have N:=H (show IntKind.u64.wrap ((o.p:Int)+(q.1.addr:Int))=(((o.p+q.1.addr)%18446744073709551616:Nat):Int) by rw[eu];simp);rw[<-g]at r;clear b L K w g G x;generalize q.1.addr=b at*;generalize o.ref=e at*;go_enter func98,ntmps98;go_upto_region 1 with fail
 refine Eq.mp (congrArg _ i) ?_;clear i;generalize W.heap.size=X at m t⊢;go_upto_region 3 with fail
 refine rh (S:=λf=>QG f X 1 (I e)/\QG f P 119 (Vl j d k)) ?_;have a:=IT (show V.drew.cell? _=_ from m) (show V.drew.cell? _=_ from u);refine pk 0 (J X 1) a ?_;refine pz 1 (I (e)) a ?_;refine pz 2 Qk a ?_;refine pk 3 Qk a ?_;refine pk 4 (J X 1) a ?_;refine pz 5 (I (e)) a ?_;refine pk 6 (J P 0) a ?_;refine pk 7 (J P 0) a ?_;refine pk 8 (J P 119) a ?_;refine pz 9 (Vl j d k) a ?_;refine pz 10 (I d) a ?_;refine pz 11 Qk a ?_;refine pz 12 Qk a ?_;refine bY ?_;clear a;go_upto_region 5 with fail
 refine rh (S:=λf=>QG f X 1 (I e)/\QG f X 2 (U o.p)/\QG f P 119 (Vl j d k)/\QG f j (c*4+1) (U b)) ?_;have a:=IT (show V.drew.drew.cell? _=_ from m) (IT (show V.drew.drew.cell? _=_ from t) (IT (show V.drew.drew.cell? _=_ from u) (show V.drew.drew.cell? _=_ from T)));refine pk 0 (J X 2) a ?_;refine pz 1 (U o.p) a ?_;refine pk 2 (J P 0) a ?_;refine pk 3 (J P 0) a ?_;refine pk 4 (J P 119) a ?_;refine pz 5 (Vl j d k) a ?_;refine pk 6 (J X 1) a ?_;refine pz 7 (I e) a ?_;refine pz 8 (I c) a ?_;refine pz 9 (J j (c*4)) a ?_;refine pk 10 (J j (c*4+1)) a ?_;refine pz 11 (U b) a ?_;refine pz 12 (U (IntKind.u64.wrap ((o.p:Int)+(b:Int)))) a ?_;refine pk 13 (U (IntKind.u64.wrap ((o.p:Int)+(b:Int)))) a ?_;refine bY ?_;clear a;go_wp2;go_ret;rw[p];exact⟨y.drew.drew,.inl ⟨_,rfl,by rw[<-N.out];rfl⟩⟩
def jg(mi fi la bu:Int)(dn:Nat):Prop:=0<=mi/\mi<=16/\1<=fi/\fi<=32/\1<=la/\la<=16/\0<=bu/\bu<=283/\dn<=20000
instance (mi fi la bu:Int) (dn:Nat):Decidable (jg mi fi la bu dn):=by unfold jg;infer_instance
structure Cg(X:Nat)(mi fi la bu ky:Int)(da:QP)(dn dc:Nat)(W V:QM):Prop where
 c0:V.cell? (Qz X 0)=some (I mi)
 c1:V.cell? (Qz X 1)=some (I fi)
 c2:V.cell? (Qz X 2)=some (I la)
 c3:V.cell? (Qz X 3)=some (I bu)
 c5:V.cell? (Qz X 5)=some (.slice da dn dc)
 tb:Tb V
 bel:D W V
theorem Cg.below{X mi fi la bu ky da dn dc V V'}(h:Cg X mi fi la bu ky da dn dc W V)(b:D V V'):Cg X mi fi la bu ky da dn dc W V':=
 ⟨NI b h.c0,NI b h.c1,NI b h.c2,NI b h.c3,NI b h.c5,h.tb.ofBelow b,h.bel.trans (b.mono h.bel.size)⟩
theorem Cg.of{mi fi la bu ky da dn dc}(a:Tb W):Cg W.heap.size mi fi la bu ky da dn dc W (W.alloc (.cells #[I mi,I fi,I la,I bu,U ky,.slice da dn dc] 30)):=by
 have h:=ao W (.cells #[I mi,I fi,I la,I bu,U ky,.slice da dn dc] 30);have b:D W (W.alloc (.cells #[I mi,I fi,I la,I bu,U ky,.slice da dn dc] 30)):=(Fu _ _).alloc (Fv _) _;refine⟨?_,?_,?_,?_,?_,a.ofBelow b,b⟩<;>(rw[GT _ _ _ _ _ _ h];rfl)
theorem Pe{p X Y a:Prop}(x:X)(y:Y)(z:a)(f:X->Y->a->p:=by(
 intro x y z
 go_quiet (fail)
 go_wp2
 go_ret
 exact⟨by rw[<-x,GR (by unfold jg;simp at z;omega)];rfl,y.trans ⟨rfl,rfl,rfl,Fv _,λ_ _=>rfl⟩⟩)):p:=f x y z
theorem OR(mi fi la bu ky)(i:QP)(d j:Nat)(W)(b:Tb W):
  QA 60 #[.agg #[I mi,I fi,I la,I bu,U ky,.slice i d j]] W λe p=>e=QJ (.bool (decide (jg mi fi la bu d)))/\D W p:=by
 have⟨n,a⟩:=Qa (decide (jg mi fi la bu d));rw[a];have⟨c,k⟩:=y7 a (Cg.of (mi:=mi) (fi:=fi) (la:=la) (bu:=bu) (ky:=ky) (da:=i) (dn:=d) (dc:=j) b);clear b a;go_enter func60,ntmps60;go_upto_region 1 with fail
 have l:=H (k.below (Fu _ _).drew);generalize W.alloc _=g at l k⊢;have⟨X,a⟩:=Qb W.heap.size;rw[<-a]at l k⊢;clear a;have⟨b,m,o,q,r,s,a⟩:=k.out;have f:=H a;clear s a;cases s:decide (0<=mi);·exact Pe c f s
 cases t:decide (mi<=16);·exact Pe c f t
 cases u:decide (1<=fi);·exact Pe c f u
 cases v:decide (fi<=32);·exact Pe c f v
 cases w:decide (1<=la);·exact Pe c f w
 cases x:decide (la<=16);·exact Pe c f x
 cases y:decide (0<=bu);·exact Pe c f y
 clear b m o q r;refine rh (S:=Cg X mi fi la bu ky i d j W) ?_;generalize b:g.drew=q at l;have a:({heap:=g.heap,tape:=g.tape,drawn:=g.drawn+1,os:=g.os,output:=g.output}:QM)=q:=b;rw[a];clear b a;have b:=l.out;refine pk 0 (J X 0) b ?_;refine pz 1 (I mi) b ?_;refine pz 2 Ql b ?_;refine pk 3 Ql b ?_;refine pk 4 (J X 0) b ?_;refine pz 5 (I mi) b ?_;refine pz 6 Ql b ?_;refine pz 7 Ql b ?_;refine pk 8 Ql b ?_;refine pk 9 (J X 1) b ?_;refine pz 10 (I fi) b ?_;refine pz 11 Ql b ?_;refine pz 12 Ql b ?_;refine pk 13 Ql b ?_;refine pk 14 (J X 1) b ?_;refine pz 15 (I fi) b ?_;refine pz 16 Ql b ?_;refine pz 17 Ql b ?_;refine pk 18 Ql b ?_;refine pk 19 (J X 2) b ?_;refine pz 20 (I la) b ?_;refine pz 21 Ql b ?_;refine pz 22 Ql b ?_;refine pk 23 Ql b ?_;refine pk 24 (J X 2) b ?_;refine pz 25 (I la) b ?_;refine pz 26 Ql b ?_;refine pz 27 Ql b ?_;refine pk 28 Ql b ?_;refine pk 29 (J X 3) b ?_;refine pz 30 (I bu) b ?_;refine pz 31 Ql b ?_;refine pz 32 Ql b ?_;refine pk 33 Ql b ?_;refine pk 34 (J X 3) b ?_;refine pz 35 (I bu) b ?_;refine po 36 λK' r=>?_;go_simp;refine(eH _ b.tb).mono ?_;rintro e a⟨rfl,o⟩;have m:=b.below o;refine r _ _ ⟨m,?_⟩;clear b o;have b:=m;clear m
 cases m:decide (bu<=283);·refine pz 37 Qk b ?_;refine pz 38 Qk b ?_;refine pk 39 Qk b ?_;refine ps 40 b ?_;refine ps 41 b ?_;refine ps 42 b ?_;refine ps 43 b ?_;refine pz 44 Qk b ?_;refine pk 45 Qk b ?_;refine bY ?_;go_wp2;go_ret;exact⟨by rw[<-c.out,GR (by unfold jg;simp at m;omega)];rfl,b.bel⟩
 refine pz 37 Ql b ?_;refine pz 38 Ql b ?_;refine pk 39 Ql b ?_;refine pk 40 (J X 5) b ?_;refine pz 41 (.slice i d j) b ?_;refine pz 42 (I d) b ?_;cases m:decide ((d:Int)<=20000);·refine pz 43 Qk b ?_;refine pz 44 Qk b ?_;refine pk 45 Qk b ?_;refine bY ?_;go_wp2;go_ret;exact⟨by rw[<-c.out,GR (by unfold jg;simp at m;omega)];rfl,b.bel⟩
 refine pz 43 Ql b ?_;refine pz 44 Ql b ?_;refine pk 45 Ql b ?_;refine bY ?_;go_wp2;go_ret;exact⟨by rw[<-c.out,G8 (by unfold jg;simp only[Hj]at*;omega)];rfl,b.bel⟩
structure SrtI(l m:List Nat)(i j:Nat):Prop where
 perm:m.Perm l
 low:∀a b x y:Nat,a<i->a<b->m[a]?=some x->m[b]?=some y->x<=y
 here:∀b x y:Nat,i<b->b<j->m[i]?=some x->m[b]?=some y->x<=y
theorem SrtI.start(l):SrtI l l 0 1:=⟨List.Perm.refl _,λa b x y h=>Z,λb x y c d=>Z⟩
theorem SrtI.next(h:SrtI l m i j)(g:m.length<=j):SrtI l m (i+1) (i+2):=by
 refine⟨h.perm,λa b x y f c ha d=>?_,λb x y f c=>Z⟩;by_cases e:a<i;·exact h.low a b x y e c ha d
 obtain rfl:a=i:=Z;have:=(Fz.1 d).1;exact h.here b x y c Z ha d
theorem SrtI.keep{y:Nat}(h:SrtI l m i j)(c:m[i]?=some x)(d:m[j]?=some y)(f:x<=y):SrtI l m i (j+1):=by
 refine⟨h.perm,h.low,λb u v g k a hv=>?_⟩;by_cases e:b<j;·exact h.here b u v g e a hv
 obtain rfl:b=j:=Z;rw[c]at a;rw[d]at hv;injection a with a;injection hv with hv;omega
theorem SrtI.swap{y:Nat}(h:SrtI l m i j)(p:i<j)(f:m[i]?=some x)(g:m[j]?=some y)(q:y<x):SrtI l ((m.set i y).set j x) i (j+1):=by
 have⟨k,r⟩:=Fz.1 f;have⟨n,s⟩:=Fz.1 g;have c:∀b,((m.set i y).set j x)[b]?=if b=j then some x else if b=i then some y else m[b]?:=λb=>by
  rw[Gr,Gr];by_cases e1:b=j;·subst e1;simp[n]
  rw[GO (λe=>e1 e.symm),GO e1];by_cases a:b=i;·subst a;simp[k]
  rw[GO (λe=>a e.symm),GO a]
 refine⟨?_,λa b u v e o d hv=>?_,λb u v e o d hv=>?_⟩;·refine List.Perm.trans ?_ h.perm;have:=List.set_set_perm k n;rw[r,s]at this;exact this
 ·rw[c,GO Z,GO Z]at d;rw[c]at hv;split at hv;·injection hv with hv;subst hv;exact h.low a i _ _ e e d f
  split at hv;·injection hv with hv;subst hv;exact h.low a j _ _ e Z d g
  exact h.low a b _ _ e o d hv
 rw[c,GO Z,GP rfl]at d;injection d with d;rw[c]at hv;split at hv;·injection hv with hv;omega
 rw[GO Z]at hv;have:=h.here b x v e Z f hv;omega
theorem SrtI.done(h:SrtI l m i j)(e:m.length<=i):m.Pairwise (· <= ·):=by
 rw[II];intro a b ha d c;exact h.low a b _ _ Z c (Fy ha) (Fy d)
theorem Am(W:QM)(a:QP)(c:Nat):(Builtin.append_ #[39,39] 39 #[C,.slice a 0 c]).run prog W=.ok (C) W:=by
 have⟨g,b,d,e,f⟩:=G0 iY;cases a<;>simp[Builtin.append_,run_underlying underlying39,sizeOf,typeInfo,b,Builtin.lenOf,Builtin.firstCells,loadCells,loadCellsFrom]
theorem ug(W:QM)(B:Nat)(a:QP)(c:Nat)(l:List Nat)(e:W.ownsRow B 27 1 (.slice a l.length c) l.length (Us l))(k:l.length<=90000):
  ∃d b,QI 39 C (.slice a l.length c) W d b/\b.ownsRow W.heap.size 27 1 d l.length (Us l)/\D W b:=by
 by_cases f:l.length=0;·obtain rfl:=List.length_eq_zero_iff.1 f;exact⟨_,_,Am W a c,⟨rfl,.inl ⟨rfl,rfl⟩⟩,Fu _ _⟩
 obtain⟨G,rfl⟩:=cr e Z;have⟨d,b,e1,g,i⟩:=jQ W W.heap.size (C) [] l (Qz G 0) c ⟨rfl,.inl ⟨rfl,rfl⟩⟩ (λj u a=>by
  rw[Addr.add_mid,Oi];exact bC e j u a) bG (Fv _)
 exact⟨d,b,e1,g,(Fu _ W).grown i (Fv _) (λP a=>by simp[Value.ownBlock]at a)⟩
theorem oG{B:Nat}{e:QO}{sz:Nat}{G n cap}{b:List QN}(h:W.ownsRow B e sz (Vl G n cap) n b)(i:Nat):W.frozen? (Qz G i)=false:=by
 rcases h.2 with⟨e,_⟩|⟨g,a,c,e,f,d,j,k,l,m⟩;·simp at e
 simp at e;obtain⟨rfl,rfl⟩:=e;simp[QD,d]
theorem ny(h:l[i]?=some x):(Us l)[i]?=some (U x):=by simp[Us,h]
theorem sg(l)(i x:Nat):(Us l).set i (U x)=Us (l.set i x):=by simp[Us,List.map_set]
theorem ue(W:QM)(B:Nat)(v:QN)(l:List Nat)(d:W.ownsRow B 27 1 v l.length (Us l))(z:l.length<=90000):
  QA 46 #[v] W λe A=>∃(m:List Nat)(a:QN),e=QJ a/\m.Perm l/\m.Pairwise (· <= ·)/\A.ownsRow W.heap.size 27 1 a m.length (Us m)/\D W A:=by
 obtain⟨a,c,rfl⟩:=aK d;have⟨v1,w1,e1,b,g⟩:=ug W B a c l d z;obtain⟨P,F,rfl⟩:=aK b;have⟨N,f⟩:=Qa l.length;rw[f]at e1 b z⊢;have Q:=H f;have K:=H b;have L:=H g;clear d b g f;go_enter func46,ntmps46;go_wp2_with (at_builtin;refine cY rfl (.const (C)) (.tmp 8) (by with_reducible rfl) rfl rfl rfl e1 ?_);go_loopw [12] (λi q=>∃k:Nat,k<=N/\i=I k/\∃m:List Nat,Hid (m.length=N)/\Hid (SrtI l m k (k+1))/\Hid (q.ownsRow W.heap.size 27 1 (.slice P N F) N (Us m))/\Hid (D W q)) (λi _=>N-(intOf i).toNat);case atStart=>exact⟨0,FH _,rfl,l,Q,H (SrtI.start l),K,L⟩
 case round=>
  clear K L e1;obtain⟨k,hk,rfl,m,b,f,d,n⟩:=hrel;by_cases r:k<N
  ·obtain⟨G,rfl⟩:=cr d Z;go_wp2;go_loopw [5] (λi q=>∃j:Nat,k+1<=j/\j<=N/\i=I j/\∃m:List Nat,Hid (m.length=N)/\Hid (SrtI l m k j)/\Hid (q.ownsRow W.heap.size 27 1 (Vl G N F) N (Us m))/\Hid (D W q)) (λi _=>N-(intOf i).toNat);(case atStart=>exact⟨k+1,Fv _,Z,aY,m,b,f,d,n⟩);case round=>
    clear b f d n;obtain⟨j,R,hj,rfl,m,b,f,d,n⟩:=hrel;by_cases s:j<N
    ·obtain⟨x,t⟩:∃x,m[k]?=some x:=⟨_,Fy (by rw[b];exact r)⟩;obtain⟨y,p⟩:∃y,m[j]?=some y:=⟨_,Fy (by rw[b];exact s)⟩;have ck:=bC d k _ (ny t);have cj:=bC d j _ (ny p);by_cases w:y<x
     ·have u:=H (f.swap Z t p w);have g:=dP d k (by rw[fK,b];exact r) (U y);have o:=dP g j (by rw[Gj,fK,b];exact s) (U x);rw[sg,sg]at o;have S:=bC g j (U y) (by rw[Gr,GO Z];exact ny p);have M:W.heap.size<=G:=(aF d rfl).1;have T:=H o;have V:(y:Int)<(x:Int):=Z;have fk:=oG d k;have fj:=oG g j;have X:=oG d j;have Y:¬(k=j):=Z;have O:¬(j=k):=Z;clear t p f g o;go_wp2;go_region;go_wp2;go_region;go_wp2;go_roundw;(case rel=>exact⟨j+1,Z,Z,aY,_,H (by rw[Gj,Gj];exact b),u,H T,H ((n.setCell M _).setCell M _).drew.drew⟩);case measure=>exact QE
     have u:=H (f.keep t p Z);have V:¬((y:Int)<(x:Int)):=Z;clear t p f;go_wp2;go_region;go_wp2;go_roundw;(case rel=>exact⟨j+1,Z,Z,aY,m,b,u,H d,H n.drew⟩);case measure=>exact QE
    obtain rfl:j=N:=Z;have u:=H (f.next (by rw[b];exact Fv _));clear f;go_wp2;go_roundw;(case rel=>exact⟨k+1,Z,aY,m,b,u,d,n⟩);case measure=>exact QE
  obtain rfl:k=N:=Z;go_wp2;go_ret;exact⟨m,_,rfl,f.perm,f.done (by rw[b];exact Fv _),by rw[b];exact d,n⟩
end
end Go.Proofs.YtdhegekcmmlohaaGreatDoor
