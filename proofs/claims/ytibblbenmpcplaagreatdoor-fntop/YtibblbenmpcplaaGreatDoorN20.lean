import Derived.Test.YtibblbenmpcplaaGreatDoorN18
import Derived.Test.YtibblbenmpcplaaGreatDoorN19
set_option linter.unusedVariables false
set_option linter.unusedSimpArgs false
set_option maxRecDepth 20000
set_option maxHeartbeats 8000000
namespace Go.Proofs.YtibblbenmpcplaaGreatDoor
open Go.Proofs.Tryz
section
open Go.RowKit
def Dr (cf:Cf) (e:Hs) (g p a:Nat):Option Nat->Option Nat×Hs
 | none=>(none,e)
 | some s=>if cf.bud<bz e.m 283+p then (none,e)
   else (some ((s+g)*1024),{ e with m:=aT e.m (s+g) p,rg:=e.rg++[⟨s,g,p,1,a⟩],rel:=e.rel.filter λb=>b/1024<s || s+(g+p+1)<=b/1024 })
theorem iJ (cf h) {a:Nat} (ha:1016<a):av cf h a=if 96<aR a then (none,{ h with used:=h.used+1 }) else Dr cf { h with used:=h.used+1 } (1+dr cf h 3) (aR a) a (dV { h with used:=h.used+1 } (1+dr cf h 3+aR a+1)):=by
 unfold av;rw [GO Z];dsimp only;split;·rfl
 cases dV { h with used:=h.used+1 } (1+dr cf h 3+aR a+1) with
 | none=>rfl
 | some s=>rfl
theorem rz (B x cf h) (a:Nat) (W) (i:Sh B x cf h W) (c:l_ x) (hB:B<=W.heap.size) (t:Inv cf h) (hu:h.used<=1000000) (l:mE cf) (y:h.rg.length<=900) (A:h.rel.length<=900) (ha:1016<a) (d7:a<18446744073709551616) :
  Calls prog 99 #[J x.P 0,U a] W λe X=>∃ b:Sm,e=.returned (jP (mQ (av cf h a).1) (C))/\b.P=x.P/\b.Q=x.Q/\l_ b/\Sh B b cf (av cf h a).2 X/\Bk B x.Q W X:=by
 obtain⟨v,f⟩:∃ v,av cf h a=v:=⟨_,rfl⟩;rw [f];have j:=H (f.symm.trans (iJ cf h ha));have g0:=mW cf h (n:=3) Z;have o:=H (λV (hV:Sh B x cf h V)=>oQ B x cf h 3 V hV Z Z hu l.len l.wf);have q:=H (λV=>qH a V d7);have g2:=gE a;obtain⟨w,b⟩:∃ w:Hs,w={ h with used:=h.used+1 }:=⟨_,rfl⟩;rw [<-b] at j o;have I1:=H (show Inv cf w by rw [b];exact t.used _);have a8:w.rg.length<=900:=by rw [b];exact y
 have a9:w.rel.length<=900:=by rw [b];exact A
 have F:=H (λV (hV:Sh B x cf w V) n (d:1<=n) (g:n<=1000)=>uW B x cf w n V hV Z d g (λr d=>by have:=I1.rgs r d;omega));have z:=H hB;have a0:=H c;have g3:¬((a:Int)<=1016):=Z;have bA:D W (W.alloc (.cells #[I 0,U 0,I 0,C] 44)):=(Fu _ _).alloc (Fv _) _;have g:=H (i.below bA);have r:=H (i.bkB (Bk.refl _ _ _) hB bA);have k:=H (ao W (.cells #[I 0,U 0,I 0,C] 44));have G:=i.ltQ;generalize dr cf h 3=d at *;generalize s:aR a=p at *;clear i t l b f y A bA s c;go_enter func99,ntmps99;go_wp2_with fail;generalize W.alloc _=V at g r k ⊢;obtain⟨R,b⟩:∃ R,R=W.heap.size:=⟨_,rfl⟩;rw [<-b] at k ⊢;have HR:=H b;have HQ:=H G;clear b G;refine (o.out _ g.out).mono ?_;rintro e V1 ⟨rfl,c,b⟩;have S1:=H c;have B1:=H (g.bkP r.out z.out b);have X1:=H ((Ky.grown g.box rfl b:Ky (· = 123) _ _).cells _ _ _ _ k.out ar);clear c b g r k o;go_wp2_with fail;refine (q.out _).mono ?_;rintro e V2 ⟨rfl,rfl⟩;by_cases b0:96<p
 ·have b6:(96:Int)<(p:Int):=Z;have HE:=H (j.trans (GP b0));go_wp2_with (refine eG X1.out ?_);refine fM (aw X1.out _) underlying44 ?_;rw [HE.out];exact⟨x,rfl,rfl,rfl,a0.out,S1.off81 X1.out _,B1.loc (aj _ R _) (by rw [HR.out];exact Fv _) HQ.out z.out⟩
 have b6:¬((96:Int)<(p:Int)):=Z;have HE:=H (j.trans (GO b0));have e7:(p:Int)<=96:=Z;have g4:a<=98304:=Z;clear j;go_wp2_with fail;refine (q.out _).mono ?_;rintro e V3 ⟨rfl,rfl⟩;have K:=H (show Calls prog 147 #[J x.P 0,I (1+(d:Int)+(p:Int)+1)] V3 λe X=>e=.returned (I (match dV w (1+d+p+1) with|some s=>(s:Int)|none => -1))/\D V3 X by
  rw [show (1+(d:Int)+(p:Int)+1)=((1+d+p+1:Nat):Int) by omega];exact F.out _ S1.out _ Z Z)
 clear F q;have I2:=I1;cases a5:dV w (1+d+p+1) with
 | none =>
  rw [a5] at K HE;go_wp2_with fail;refine K.mono ?_;rintro e V4 ⟨rfl,b4⟩;have T:=H (S1.below b4);have B4:=H (S1.bkB B1.out z.out b4);have X4:=H (ae X1.out b4);have M:=H (show v=(none,w) from HE.out);clear b4 S1 B1 X1 K;go_wp2_with (refine eG X4.out ?_);refine fM (aw X4.out _) underlying44 ?_;rw [M.out];exact⟨x,rfl,rfl,rfl,a0.out,T.off81 X4.out _,B4.loc (aj _ R _) (by rw [HR.out];exact Fv _) HQ.out z.out⟩
 | some s =>
  obtain⟨r1,r2,_⟩:=gO a5;rw [a5] at K HE;go_wp2_with fail;refine K.mono ?_;rintro e V4 ⟨rfl,b4⟩;have T:=H (S1.below b4);have B4:=H (S1.bkB B1.out z.out b4);have X4:=H (ae X1.out b4);have g5:¬((s:Int)<0):=Z;have f:V4.cell? ⟨x.P,6,none⟩=some (J x.T 0):=T.cell 6 _ rfl;clear b4 S1 B1 X1 K;by_cases c:cf.bud<bz w.m 283+p
  ·have M:=H (show v=(none,w) from HE.trans (GP c));have CM:=H (show Calls prog 148 #[J x.T 0,I ((s:Int)+(1+(d:Int))),I (p:Int)] V4 λe w'=>e=.returned (.bool false)/\D V4 w' by
    rw [show ((s:Int)+(1+(d:Int)))=((s+(1+d):Nat):Int) by omega];exact jm x.T x.Q 283 (cf.bud:Nat) w.m (s+(1+d)) p V4 T.sp Z Z Z)
   clear c HE;go_wp2_with fail;refine CM.mono ?_;rintro e V5 ⟨rfl,b⟩;have S5:=H (T.below b);have B5:=H (T.bkB B4.out z.out b);have X5:=H (ae X4.out b);clear b T B4 X4 CM f;go_wp2_with (refine eG X5.out ?_);refine fM (aw X5.out _) underlying44 ?_;rw [M.out];exact⟨x,rfl,rfl,rfl,a0.out,S5.off81 X5.out _,B5.loc (aj _ R _) (by rw [HR.out];exact Fv _) HQ.out z.out⟩
  have M:=H (show v=(some ((s+(1+d))*1024),{ w with m:=aT w.m (s+(1+d)) p,rg:=w.rg++[⟨s,1+d,p,1,a⟩],rel:=w.rel.filter λb=>b/1024<s || s+((1+d)+p+1)<=b/1024 }) from HE.trans (GO c));have CM:=H (show Calls prog 148 #[J x.T 0,I ((s:Int)+(1+(d:Int))),I (p:Int)] V4 λe w'=>e=.returned (.bool true)/\Sx x.T x.Q 283 (cf.bud:Nat) (aT w.m (s+(1+d)) p) w'/\Sf x.Q V4 w' by
   rw [show ((s:Int)+(1+(d:Int)))=((s+(1+d):Nat):Int) by omega];exact iK x.T x.Q 283 (cf.bud:Nat) w.m (s+(1+d)) p V4 T.sp Z Z Z)
  clear c HE;go_wp2_with fail;refine CM.mono ?_;rintro e V5 ⟨rfl,g,f5⟩;obtain⟨j,c⟩:∃ j:Hs,j={ w with m:=aT w.m (s+(1+d)) p }:=⟨_,rfl⟩;have S5:=H (show Sh B x cf j V5 by rw [c];exact T.space (Fx z.out B4.bel.size) _ g f5);have B5:=H (T.bkS B4.out z.out f5);have X5:=H ((f5.ky T.sp).cells _ _ _ _ X4.out ar);have N:=H (show v=(some ((s+(1+d))*1024),{ j with rg:=j.rg++[⟨s,1+d,p,1,a⟩],rel:=j.rel.filter λb=>b/1024<s || s+((1+d)+p+1)<=b/1024 }) by rw [c];exact M.out);have g6:j.rg.length<=900:=by rw [c];exact a8
  have d8:j.rel.length<=900:=by rw [c];exact a9
  have b7:=H (show ∀ b∈j.rel,b<289792 from λb hb=>by rw [c] at hb;have:=I1.rel b hb;omega);clear g f5 T B4 X4 CM f M c a8 a9;go_wp2;obtain⟨f,c⟩:∃ f:Rg9,f=⟨s,1+d,p,1,a⟩:=⟨_,rfl⟩;have i:#[Value.int IntKind.u64 (((s:Int)+(1+(d:Int)))*1024),Value.int IntKind.i64 (s:Int),Value.int IntKind.i64 (1+(d:Int)+(p:Int)+1),Value.int IntKind.i64 (p:Int),Value.int IntKind.i64 1,Value.int IntKind.i64 (a:Int)]=(rC f).toArray:=by
   rw [c];simp [rC,Rg9.base,Rg9.ext]
  rw [i];have b8:=H c;clear c;have bA:D V5 (V5.alloc (.cells (rC f).toArray 130)):=(Fu _ _).alloc (Fv _) _;have O:=H (ao V5 (.cells (rC f).toArray 130));have Q:=H (S5.below bA);have B6:=H (S5.bkB B5.out z.out bA);have X6:=H (ae X5.out bA);obtain⟨ra,rc,a6⟩:=aK S5.rg;have A:=H (show ∀ g,x.rv.ownBlock=some g->g≠V5.heap.size from λg hg=>by
   obtain⟨_,c,hc⟩:=aF S5.rg hg;have:=ag hc;omega)
  generalize V5.alloc _=V6 at Q B6 X6 O ⊢;generalize V5.heap.size=Y at O A ⊢;clear bA S5 B5 X5 i;have c9:V6.cell? ⟨x.P,9,none⟩=some (.slice ra j.rg.length rc):=by rw [<-a6];exact Q.cell 9 _ rfl
  have a1:(V6.alloc (.cells #[U f.base,I f.first,I f.ext,I f.pages,I f.st,I f.rq] 130)).drew.cell? ⟨x.P,9,none⟩=some (.slice ra j.rg.length rc):=ad (((Fu _ _).alloc (Fv _) _).drew) c9;have k7:D V6 (V6.alloc (.cells #[U f.base,I f.first,I f.ext,I f.pages,I f.st,I f.rq] 130)).drew:=((Fu _ _).alloc (Fv _) _).drew;have g7:(V6.alloc (.cells #[U f.base,I f.first,I f.ext,I f.pages,I f.st,I f.rq] 130)).drew.heap[V6.heap.size]?=some (.cells (rC f).toArray 130):=ao V6 (.cells (rC f).toArray 130);have y:=H (Q.below k7);have B7:=H (Q.bkB B6.out z.out k7);have X7:=H (ae X6.out k7);have Y7:=H (ae O.out k7);obtain⟨v8,F,e8,o8,g8⟩:=wL _ B x.rv j.rg f _ 1 y.rg g7 Z (Fx z.out B7.bel.size);rw [a6] at e8;obtain⟨o,r,d9⟩:=aK o8;subst d9;have b9:=H (show (j.rg++[f]).length=j.rg.length+1 by simp);rw [b9.out] at e8 o8;have i:Ky (· = 130) _ F:=Ky.grownO (λP hP=>by obtain ⟨_,c,hc⟩:=aF y.rg hP;exact⟨c,130,_,hc,rfl⟩) g8;have q:F.heap[x.P]?=some (.cells (fN cf x j.used) 123):=i.cells _ _ _ _ y.box ar;have L:=H (show F.heap[Y]?=some (.cells (rC f).toArray 130) by
   rw [g8.block Y (ag Y7.out) (λe=>A.out Y e.symm rfl)];exact Y7.out)
  have X8:=H (i.cells _ _ _ _ X7.out ar);obtain⟨cq,k⟩:=y.qrow;have B8:=H (B7.trans (Bk.ofGrownO (λP hP=>by obtain ⟨w,c,hc⟩:=aF y.rg hP;exact⟨w,c,130,_,hc,.inr (.inr (.inr (.inl rfl))),ar,ar⟩) k (Fx z.out B7.bel.size) g8));have q8:F.cell? ⟨x.P,9,none⟩=some (.slice ra j.rg.length rc):=by rw [<-a6];simp [World.cell?,q,fN]
  have f8:F.frozen? ⟨x.P,9,none⟩=false:=by simp [World.frozen?,q]
  have l:Ky (· = 123) F (F.setCell ⟨x.P,9,none⟩ (.slice o (j.rg.length+1) r)):=Ky.grown q rfl (au (al F x.P) 9 (.slice o (j.rg.length+1) r));have P9:(F.setCell ⟨x.P,9,none⟩ (.slice o (j.rg.length+1) r)).heap[x.P]?=some (.cells (fN cf { x with rv:=.slice o (j.rg.length+1) r,ov:=x.ov,lv:=x.lv } j.used) 123):=by
   simp [World.setCell,FD,q,fN]
  have S9:=H (show Sh B { x with rv:=.slice o (j.rg.length+1) r,ov:=x.ov,lv:=x.lv } cf { j with rg:=j.rg++[f],row:=j.row,rel:=j.rel } (F.setCell ⟨x.P,9,none⟩ (.slice o (j.rg.length+1) r)) from
   y.books ((i.more (λt ht=>.inr (.inl ht))).trans (l.more (λt ht=>.inl ht)))  (.slice o (j.rg.length+1) r) x.ov x.lv _ _ _ P9 (by rw [b9.out];exact ai o8 l ar) (ai (ai y.ro i ar) l ar) (ai (ai y.rl i ar) l ar))
  have Y9:=H (l.cells _ _ _ _ L.out ar);have X9:=H (l.cells _ _ _ _ X8.out ar);have B9:=H (show Bk B x.Q W (F.setCell ⟨x.P,9,none⟩ (.slice o (j.rg.length+1) r)) by
   refine B8.trans (Bk.ofGrown q (i.cells _ _ _ _ k ar) (.inl rfl) ar ar y.bp (Fx z.out B8.bel.size) (au (al F x.P) 9 (.slice o (j.rg.length+1) r))))
  have G:=H (show ∀ V:World,V.heap[Y]?=some (.cells (rC f).toArray 130)->V.cell? ⟨Y,0,none⟩=some (U f.base)/\V.cell? ⟨Y,1,none⟩=some (I f.first)/\V.cell? ⟨Y,2,none⟩=some (I f.ext)/\V.cell? ⟨Y,3,none⟩=some (I f.pages)/\V.cell? ⟨Y,4,none⟩=some (I f.st)/\V.cell? ⟨Y,5,none⟩=some (I f.rq) from λV hV=>by
   refine⟨?_,?_,?_,?_,?_,?_⟩ <;> (simp only [World.cell?,hV];rfl))
  clear o8 g8 i q l P9 k k7 g7;go_cut [10] (λa w'=>a=J Y 0/\w'=F.setCell ⟨x.P,9,none⟩ (.slice o (j.rg.length+1) r));case first =>
   refine rh (S:=λX=>X.cell? ⟨Y,0,none⟩=some (U f.base)/\X.cell? ⟨Y,1,none⟩=some (I f.first)/\X.cell? ⟨Y,2,none⟩=some (I f.ext)/\X.cell? ⟨Y,3,none⟩=some (I f.pages)/\X.cell? ⟨Y,4,none⟩=some (I f.st)/\X.cell? ⟨Y,5,none⟩=some (I f.rq)) ?_;have i:=G.out _ O.out;(iterate 4 (refine py i ?_;simp only [f0,f1,Nat.reduceAdd,lz,l0,ls]));refine pz 5 (.agg #[U f.base,I f.first,I f.ext,I f.pages,I f.st,I f.rq]) i ?_;refine lZ [4,6] λi9 l=>?_;rcases (by simpa using l:i9=4\/i9=6) with l|l
   ·subst l;refine cw λK' k=>?_;go_simp;refine k.out _ _ ⟨i,?_⟩;clear k K';refine po 6 λK' k=>?_
    go_simp;have q:=G.out _ Y7.out;refine k.out _ _ ⟨q,?_⟩;clear i;have i:=q;clear k K';refine gu 7 ?_;refine fq rfl rfl _ _ rfl rfl rfl rfl e8 ⟨G.out _ L.out,?_⟩;clear i;have i:=G.out _ L.out;refine pk 8 (J x.P 0) i ?_;refine pk 9 (J x.P 9) i ?_;refine po 10 λK' k=>?_;go_simp;refine k.out _ _ ⟨G.out _ Y9.out,?_⟩;clear i;clear k K';refine bY ?_;go_wp2_with fail
    go_meet;case rel=>exact ⟨rfl,rfl⟩
   subst l;refine cw λK' k=>?_;go_simp;have q:=G.out _ Y7.out;refine k.out _ _ ⟨q,?_⟩;clear i;have i:=q;clear k K';refine po 4 λK' k=>?_
   go_simp;refine k.out _ _ ⟨i,?_⟩;clear k K';refine gu 7 ?_;refine fq rfl rfl _ _ rfl rfl rfl rfl e8 ⟨G.out _ L.out,?_⟩;clear i;have i:=G.out _ L.out;refine pk 8 (J x.P 0) i ?_;refine pk 9 (J x.P 9) i ?_;refine po 10 λK' k=>?_;go_simp;refine k.out _ _ ⟨G.out _ Y9.out,?_⟩;clear i;clear k K';refine bY ?_;go_wp2_with fail
   go_meet;case rel=>exact ⟨rfl,rfl⟩
  case rest =>
  obtain⟨rfl,rfl⟩:=hcut;clear c9 a1 q8 f8 e8 y B7 X7 Y7 L X8 B8 Q B6 X6 O A;obtain⟨l,i⟩:∃ l:Sm,l={ x with rv:=.slice o (j.rg.length+1) r,ov:=x.ov,lv:=x.lv }:=⟨_,rfl⟩;have L:l.P=x.P:=by rw [i]
  have O:l.Q=x.Q:=by rw [i]
  have Q:l.ov=x.ov:=by rw [i]
  have c0:=H (show ∀ g,l.ov.ownBlock=some g->g<(F.setCell ⟨x.P,9,none⟩ (.slice o (j.rg.length+1) r)).heap.size from λg hg=>by
   rw [<-i] at S9;obtain⟨_,c,hc⟩:=aF S9.ro hg;exact ag hc)
  obtain⟨y,k⟩:∃ y:Hs,y={ j with rg:=j.rg++[f],row:=j.row,rel:=j.rel }:=⟨_,rfl⟩;obtain⟨A,q⟩:∃ A:Nat->Bool,A=λb=>decide (b/1024<s) || decide (s+((1+d)+p+1)<=b/1024):=⟨_,rfl⟩
  have e0:=H (show v=(some ((s+(1+d))*1024),{ y with rel:=y.rel.filter A }) by
   rw [k,q,N.out,b8.out])
  have c1:=H (show y.rel=j.rel by rw [k]);rw [<-k,<-i] at S9;have e1:=H q;have a1:=H L;have a2:=H O;generalize F.setCell ⟨x.P,9,none⟩ (.slice o (j.rg.length+1) r)=V9 at S9 B9 X9 Y9 c0 ⊢;clear i k q L O Q N;obtain⟨la,lc,i⟩:=aK S9.rl;obtain⟨L,k⟩:∃ L,y.rel.length=L:=⟨_,rfl⟩;have g9:L<=900:=by rw [<-k,c1.out];exact d8
  have e2:V9.cell? ⟨x.P,11,none⟩=some (.slice la L lc):=by rw [<-k,<-i,<-a1.out];exact S9.cell 11 _ rfl
  have c2:=H i;have HL:=H k;have YE:=H (show ∀ V:World,V.heap[Y]?=some (.cells (rC f).toArray 130)->V.cell? ⟨Y,0,none⟩=some (U (((s+(1+d))*1024:Nat):Int))/\V.cell? ⟨Y,2,none⟩=some (I (1+(d:Int)+(p:Int)+1)) from λV hV=>by
   rw [b8.out] at hV;refine⟨?_,?_⟩;·simp only [World.cell?,hV];rfl
   simp only [World.cell?,hV];simp [rC,Rg9.ext])
  obtain⟨i0,c3,c4,c5,c7⟩:=G0 iY;clear i k G;go_wp2;go_loopw [11,124] (λv i a=>∃ k:Nat,k<=L/\i=I k/\Hid (a.ownsRow V9.heap.size 23 1 v ((y.rel.take k).filter A).length (Us ((y.rel.take k).filter A)))/\Hid (D V9 a)) (λ_ i _=>L-(intOf i).toNat);case atStart=>exact ⟨0,FH _,rfl,H ⟨rfl,.inl ⟨rfl,rfl⟩⟩,H (Fu _ _)⟩
  case round =>
   clear e2;obtain⟨k,hk,rfl,OQ,BQ⟩:=hrel;obtain⟨N,O,e3⟩:=aK OQ.out;subst e3;by_cases e4:k<L
   ·obtain⟨b,hb⟩:∃ b,y.rel[k]?=some b:=⟨_,Fy (by rw [HL.out];exact e4)⟩;obtain⟨G2,rfl⟩:=cr (c2.out▸S9.rl) (by rw [HL.out];omega);have d0:=ad BQ.out (bC (c2.out▸S9.rl) k (U b) (by simp [Us,hb]));have d2:b<289792:=b7.out b (by rw [<-c1.out];exact FM hb);obtain⟨_,y2⟩:=YE.out _ (ae Y9.out BQ.out);have HN:=H (show (y.rel.take (k+1)).filter A=(y.rel.take k).filter A++(if A b then [b] else []) by
     rw [F_,hb,Hl];simp only [IQ,List.filter_cons,List.filter_nil])
    have a7:((y.rel.take k).filter A).length<=900:=by
     have:=Hb A (y.rel.take k);have h2:=List.length_take_le k y.rel;omega
    generalize (y.rel.take k).filter A=q at *;have G:A b=(decide (b/1024<s) || decide (s+((1+d)+p+1)<=b/1024)):=(by rw [e1.out]);have O8:=H (OQ.alloc (.cells #[U b] 23));have B8:=H (BQ.alloc BQ.size (.cells #[U b] 23));clear hb;by_cases q1:b/1024<s
    ·have c8:(b:Int)/1024<(s:Int):=Z;have A2:=H (show (if A b then [b] else [])=[b] by rw [G,G8 q1];rfl);clear G;go_wp2_with (at_builtin;refine Ib _ rfl _ _ 34 rfl V9.heap.size 23 i0 (U 0) 1 8 underlying34 c3 c4 c5 c7 rfl Z _ _ _ rfl O8.out _ 1 1 [U b] rfl rfl ?hc ?h1c ?b1 ?b2 ?b3 ?_);(case hc=>exact ek _ _ _ _ bH);(case h1c=>intro u hu;simp at hu;subst hu;rfl);(case b1=>unfold maxLen;omega);(case b2=>omega);(case b3=>exact B8.size);intro v1 w9 Q a3 _;have a4:=H (IT Q (B8.grown a3 B8.size (cI O8.out)));clear Q a3;go_wp2;go_roundw;(case rel=>exact ⟨k+1,Z,aY,H (by rw [HN.out,A2.out,FC,k_];exact a4.1),H a4.2⟩);case measure=>(simp [intOf];try omega)
    have c8:¬((b:Int)/1024<(s:Int)):=Z;by_cases q2:s+((1+d)+p+1)<=b/1024
    ·have d1:(s:Int)+(1+(d:Int)+(p:Int)+1)<=(b:Int)/1024:=Z;have A2:=H (show (if A b then [b] else [])=[b] by rw [G,G8 q2,Bool.or_true];rfl);clear G;go_wp2_with (at_builtin;refine Ib _ rfl _ _ 34 rfl V9.heap.size 23 i0 (U 0) 1 8 underlying34 c3 c4 c5 c7 rfl Z _ _ _ rfl O8.out _ 1 1 [U b] rfl rfl ?hcB ?h1cB ?b1B ?b2B ?b3B ?_);(case h1cB=>rfl);(case b1B=>unfold maxLen;omega);(case b2B=>omega);(case b3B=>(have:=BQ.size;omega));intro v1 w9 Q a3 _;have a4:=H (IT Q (B8.grown a3 B8.size (cI O8.out)));clear Q a3;go_wp2;go_roundw;(case rel=>exact ⟨k+1,Z,aY,H (by rw [HN.out,A2.out,FC,k_];exact a4.1),H a4.2⟩);case measure=>(simp [intOf];try omega)
    have d1:¬((s:Int)+(1+(d:Int)+(p:Int)+1)<=(b:Int)/1024):=Z;have A2:=H (show (if A b then [b] else [])=[] by rw [G,GR q1,GR q2];rfl);clear G;go_wp2;go_roundw;(case rel=>exact ⟨k+1,Z,aY,H (by rw [HN.out,A2.out,Gl];exact OQ.out),BQ⟩);case measure=>(simp [intOf];try omega)
   obtain rfl:k=L:=Z;have e5:=H (show y.rel.take k=y.rel from Ge (by rw [HL.out];exact Fv _));rw [e5.out] at OQ ⊢;have q:=H (S9.below BQ.out);have a4:=H (show Bk B x.Q W wr from a2.out▸(S9.bkB (a2.out▸B9.out) z.out BQ.out));have c8:=H (ae X9.out BQ.out);have d1:=H (ae Y9.out BQ.out);have h0:wr.cell? ⟨x.P,11,none⟩=some l.lv:=(by rw [<-a1.out];exact q.cell 11 _ rfl);have f11:wr.frozen? ⟨x.P,11,none⟩=false:=(by rw [<-a1.out];exact q.boxF 11);generalize a7:(y.rel.filter A).length=Q at OQ ⊢;have e6:=H a7;clear a7;have G:Ky (· = 123) wr (wr.setCell ⟨l.P,11,none⟩ (.slice N Q O)):=Ky.grown q.box rfl (au (al wr l.P) 11 (.slice N Q O));have d2:(wr.setCell ⟨l.P,11,none⟩ (.slice N Q O)).heap[l.P]?=some (.cells (fN cf { l with rv:=l.rv,ov:=l.ov,lv:=.slice N Q O } y.used) 123):=by
    rw [q.boxSet];rfl
   have d3:=H (show Sh B { l with rv:=l.rv,ov:=l.ov,lv:=.slice N Q O } cf { y with rg:=y.rg,row:=y.row,rel:=y.rel.filter A } (wr.setCell ⟨l.P,11,none⟩ (.slice N Q O)) from
    q.books (G.more (λt ht=>.inl ht)) l.rv l.ov (.slice N Q O) _ _ _ d2 (ai q.rg G ar) (ai q.ro G ar) (by rw [e6.out];exact dm (ai OQ.out G ar) (Fx z.out B9.bel.size)))
   have d4:=H (show Bk B l.Q W (wr.setCell ⟨l.P,11,none⟩ (.slice N Q O)) from q.bkP (a2.out▸a4.out) z.out (au (al wr l.P) 11 (.slice N Q O)));have a3:=H (G.cells _ _ _ _ c8.out ar);have d5:=H (G.cells _ _ _ _ d1.out ar);have d6:=H (show l_ { l with rv:=l.rv,ov:=l.ov,lv:=.slice N Q O } from λg hg a=>by
    have w:=c0.out g hg;have h2:=(aF OQ.out a).1;omega)
   obtain⟨y0,_⟩:=YE.out _ d5.out;have e9:wr.setCell ⟨l.P,11,none⟩ (.slice N Q O)=wr.setCell ⟨x.P,11,none⟩ (.slice N Q O):=(by rw [a1.out]);rw [e9] at d3 d4 a3 d5 y0;clear e9;clear G d2 q a4 c8 d1 S9 B9 X9 Y9;go_wp2_with (refine eG a3.out ?_);refine fM (aw a3.out _) underlying44 ?_;rw [e0.out];exact⟨{ l with rv:=l.rv,ov:=l.ov,lv:=.slice N Q O },rfl,a1.out,a2.out,d6.out,d3.off81 a3.out _,(a2.out▸d4.out).loc (aj _ R _) (by rw [HR.out];exact Fv _) HQ.out z.out⟩
end
end Go.Proofs.YtibblbenmpcplaaGreatDoor
