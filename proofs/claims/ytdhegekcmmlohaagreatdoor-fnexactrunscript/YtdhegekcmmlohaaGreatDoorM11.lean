import Derived.Test.YtdhegekcmmlohaaGreatDoorM09
import Derived.Test.YtdhegekcmmlohaaGreatDoorM10
set_option linter.unusedVariables false
set_option linter.unusedSimpArgs false
set_option maxRecDepth 20000
set_option maxHeartbeats 8000000
namespace Go.Proofs.YtdhegekcmmlohaaGreatDoor
open Go.Proofs.Tryz Go.RowKit Go.Maps Go.Shelf Go.ChangeShapes Go.WideShapes Go.ChangeAt
section
variable {cf:Cf}{h:Hs}{n p:Nat}
theorem jT(B x cf h k)(a:Nat)(W)(i:Sh B x cf h W)(c:l_ x)(j:B<=W.heap.size)(l:Inv cf h)(d:Few k h)(n:k<=300)(m:mE cf)(ha:a<18446744073709551616):
  QA 72 #[J x.P 0,U a] W λe f=>∃b:Sm,e=QJ (jP (mQ (av cf h a).1) (C))/\b.P=x.P/\b.Q=x.Q/\l_ b/\Sh B b cf (av cf h a).2 f/\Bk B x.Q W f:=by
 have o:=d.used;have p:=d.rg;have q:=d.rel;by_cases g:a<=1016;·refine(qz B x cf h a W i j l Z m g).mono ?_;rintro e f⟨rfl,s,b⟩;exact⟨x,rfl,rfl,rfl,c,s,b⟩
 exact rz B x cf h a W i c j l Z m Z Z Z ha
theorem uq(B x cf h k p)(g:Fd)(l m n:Int)(W)(o:Sh B x cf h W)(a:l_ x)(q:B<=W.heap.size)(t:Inv cf h)(b:Few k h)(z:k<=301)(u:mE cf)(d:1<=cf.large)(w:C9 h p g (l,m,n))(y:n=0):
  QA 77 #[J x.P 0,I l,I m] W λe v=>e=QJ (.tuple #[])/\∃c:Sm,c.P=x.P/\c.Q=x.Q/\l_ c/\Sh B c cf (db cf h g) v/\Bk B x.Q W v:=by
 have A:=b.used;have F:=b.rg;have G:=b.rel;have L:=b.row;cases w with
 |slot c s j K i f ha r=>exact uJ B x cf h K c s j (-1) W o a q t Z u i f r
 |range r i f j c=>exact uZ B x cf h i r W o a q t u d f c Z Z Z
 |no c f=>rcases f with rfl|rfl<;>cases y
def iQ(cf:Cf)(h:Hs)(p a i:Nat):An4×Hs:=
 match av cf h a with
 |(none,e)=>(.no 1,e)
 |(some q,e)=>(⟨0,q,0,[]⟩,db cf {e with m:=aZ e.m p q (min i a)} (aB {e with m:=aZ e.m p q (min i a)} p))
def oW(cf:Cf)(h:Hs)(a:Nat):An4×Hs:=(mQ (av cf h a).1,(av cf h a).2)
theorem hH(cf h p a):a_ cf h p a=if p=0 then oW cf h a else match aB h p with
  | .no code=>(.no code,h)
  | .slot c s j=>if sound cf h c s j=false then(.no 5,h)else if a<=1016/\fD a=c then(⟨0,p,0,[]⟩,{h with rq:=aE h.rq c s j a})else iQ cf h p a (h.rq c s j).toNat
  | .range r=>if 1016<a/\aR a=r.pages then(⟨0,p,0,[]⟩,{h with rg:=h.rg.map λx=>if x.base=r.base then {x with rq:=a}else x})else iQ cf h p a r.rq.toNat:=by
 have e0:(match av cf h a with
   |(none,b)=>(An4.no 1,b)
   |(some q,b)=>(⟨0,q,0,[]⟩,b))=oW cf h a:=by
  unfold oW
  cases av cf h a with
  |mk o b=>cases o<;>rfl
 unfold a_;dsimp only
 by_cases b:p=0
 ·rw[GP b,GP b];exact e0
 rw[GO b,GO b]
 cases aB h p with
 |no code=>rfl
 |slot c s j=>rfl
 |range r=>rfl
theorem Ag(c:Int):jP (.no c) (C)=.agg #[I c,U 0,I 0,C]:=rfl
theorem Ae(q:Nat):jP ⟨0,q,0,[]⟩ (C)=.agg #[I 0,U q,I 0,C]:=rfl
theorem qE(l:List Rg9){i:Nat}{r:Rg9}(a:l[i]?=some r)(b:Int):eM (l.set i {r with rq:=b})=(eM l).set (i*6+5) (I b):=by
 have c:=O_ l a r.st b;have d:=(Fz.1 a).1;have f:(eM l).set (i*6+4) (I r.st)=eM l:=by
  apply Ho;intro k;rw[Gr];split
  ·rename_i e;subst e;rw[GP (by rw[dS];omega),fo l a Z];rfl
  rfl
 rw[f]at c;exact c
theorem Sh.setRangeRq{B x V}(a:Sh B x cf h V){G cap}{i:Nat}{r:Rg9}(hv:x.rv=Vl G h.rg.length cap)(j:h.rg[i]?=some r)(b:Int):
  Sh B x cf {h with rg:=h.rg.set i {r with rq:=b}} (V.setCell (Qz G (i*6+5)) (I b))/\Ky (· =115) V (V.setCell (Qz G (i*6+5)) (I b))/\V.grownBy (V.setCell (Qz G (i*6+5)) (I b)) (some G)/\V.frozen? (Qz G (i*6+5))=false:=by
 have f:=a.rg;rw[hv]at f;have m:=(Fz.1 j).1;have⟨o,d⟩:=di f;have e:V.grownBy (V.setCell (Qz G (i*6+5)) (I b)) (some G):=au (al V G) _ _;have k:Ky (· =115) V _:=Ky.grown d rfl e;have n:=dP f (i*6+5) (by rw[dS];omega) (I b);refine⟨⟨k.cells _ _ _ _ a.box ar,a.bp,a.bq,λg e=>a.bg g (cV (a.sp.qEq k ar) e),a.ds.ky k ar,a.sp.ky k ar ar ar,ai a.sl k ar,ai a.wt k ar,λc l=>⟨(a.wm c l).1.ky k ar,(a.wm c l).2.ky k ar⟩,?_,ai a.ro k ar,ai a.rl k ar⟩,k,e,by simp[QD,d]⟩;show World.ownsRow _ B 115 6 x.rv _ _;rw[hv,qE h.rg j,Gj];exact n
theorem Area.le{m:Nat}(A:Area h p n)(d:m<=n):Area h p m:=by
 cases A with
 |slot c s j e a f g i b=>exact .slot c s j e a f g i (Fx d b)
 |range r c e a b=>exact .range r c e a (Fx d b)
theorem Inv.ltA(i:Inv cf h)(A:Area h p n):p+n<=300000:=by
 cases A with
 |slot c s j b a d f g e=>
  have:=ca b a d;omega
 |range r b c a e=>
  have d:=i.rgs r b;unfold Rg9.base at c;unfold Rg9.ext at d;omega
theorem tv(B x cf h k)(p a:Nat)(W)(g:Sh B x cf h W)(b:l_ x)(hB:B<=W.heap.size)(hi:Inv cf h)(hf:Few k h)(hk:k<=300)(l:mE cf)(d6:1<=cf.large)(hp:p<18446744073709551616)(ha:a<18446744073709551616):
  QA 74 #[J x.P 0,U p,U a] W λe O=>∃c:Sm,e=QJ (jP (a_ cf h p a).1 C)/\c.P=x.P/\c.Q=x.Q/\l_ c/\Sh B c cf (a_ cf h p a).2 O/\Bk B x.Q W O:=by
 have⟨P,c⟩:=Qa (a_ cf h p a);rw[c];have⟨c0,t,HD,HI,a2,c4,MA⟩:=Qi (c.symm.trans (hH cf h p a)) hB l hi b hf (λV(hV:Sh B x cf h V)(c3:B<=V.heap.size)=>jT B x cf h k a V hV b c3 hi hf hk l ha);have bA:D W (W.alloc Qt):=(Fu _ _).alloc (Fv _) _;have⟨d,i,f⟩:=Qe (g.below bA) (g.bkB (Bk.refl _ _ _) hB bA) (ao W Qt);have j:=g.ltQ;have g2:=hf.rg;have hrel:=hf.rel;clear g c hi l b bA;by_cases iF:p=0;·have HE:=H (c0.trans (GP iF));subst iF;go_enter func74,ntmps74;go_wp2_with fail;generalize W.alloc _=V at d i f⊢;have⟨R,hR⟩:=Qb W.heap.size;rw[<-hR]at f⊢;have⟨HR,HQ⟩:=y7 hR j;clear hR j;refine(MA _ d (Fx t i.bel.size)).mono ?_;rintro e Y⟨l,rfl,a8,a3,a9,b,b1⟩;have⟨X,F,B1,a0⟩:=Qf (b1.at f (eB ar)) b (i.trans b1) (IT a8 (IT a3 a9));clear b b1 a8 a3 a9;go_wp2_with (refine eG X ?_);refine fM (aw X _) underlying46 ?_;rw[HE];exact⟨l,rfl,a0.1,a0.2.1,a0.2.2,F.off81 X _,B1.loc (aj _ R _) (by rw[HR];exact Fv _) HQ t⟩
 have HE:=H (c0.trans (GO iF));have g1:((p:Int)==0)=false:=bG;have o:=H (λV(hV:Sh B x cf h V)=>kZ B x cf h p V hV Z Z);have a4:=jt h p;have b:=bT h p;have⟨fd,c⟩:=Qa (aB h p);obtain⟨⟨t1,t2,t3⟩,g⟩:∃tr,fE h p=tr:=⟨_,rfl⟩;rw[c,g]at a4;rw[c]at b HE;rw[g]at o;have⟨d7,c5,c6⟩:=Qe c a4 b;clear c g iF b;go_enter func74,ntmps74;go_wp2_with fail;generalize W.alloc _=V at d i f⊢;have⟨R,hR⟩:=Qb W.heap.size;rw[<-hR]at f⊢;have⟨HR,HQ⟩:=y7 hR j;clear hR j;refine(o _ d).mono ?_;rintro e Y⟨rfl,b1⟩;have⟨F,B1,X⟩:=Qe (d.below b1) (d.bkB i t b1) (ae f b1);clear b1;unfold C4;by_cases z:t3=0
 ·subst z;clear a4;go_upto_if 30 with fail
  go_cut [10] (λb w'=>∃A:Nat,b=I A/\Hid (P=iQ cf h p a A/\Area h p A)/\Hid (Sh B x cf h w')/\Hid (Bk B x.Q W w')/\Hid (w'.heap[R]?=some Qt));case first=>
   have a4:=c5.out;cases a4 with
   | slot c s j K w a1 hA hl=>
    have L:=mj w;rw[a1]at L;dsimp only at L;have⟨hc,a5,d⟩:=L;have r:=aX hc;have g:=HI.on1 hc a5 d (by rw[hl];rfl);have o:=(HI.req c s j hc a5 d).1 hl;have q:=H (q_ B x cf h K c s j Y F w a1 HD.key0 HD.key1 (λi b=>by
     have:=HI.openS (k:=eV c+i) hc a5 d g Z;rw[H_];exact this))
    have b6:(0:Int)<=(K:Int):=Z;have⟨AR,f⟩:=y7 (show Area h p (h.rq c s j).toNat from .slot c s j hc a5 d hA hl Z) (show P=if sound cf h c s j=false then(.no 5,h)else if a<=1016/\fD a=c then(⟨0,p,0,[]⟩,{h with rq:=aE h.rq c s j a})else iQ cf h p a (h.rq c s j).toNat from HE);obtain⟨rq,b⟩:∃rq:Nat,h.rq c s j=(rq:Int):=⟨(h.rq c s j).toNat,Z⟩;have⟨a7,a6⟩:=y7 b a1;rw[b,F0]at AR f;clear r g o b a1 hA hl d;go_wp2_with fail;refine q.mono ?_;rintro e V2⟨rfl,d⟩;have⟨S2,B2,X2⟩:=Qe (F.below d) (F.bkB B1 t d) (ae X d);clear d;cases d:sound cf h c s j;·have g:=H (f.trans (GP d));clear d;go_wp2_with (refine eG X2 ?_);refine fM (aw X2 _) underlying46 ?_;rw[g];exact⟨x,rfl,rfl,rfl,a2,S2.off81 X2 _,B2.loc (aj _ R _) (by rw[HR];exact Fv _) HQ t⟩
    have G:=H (f.trans (GO (by rw[d];decide)));clear d;have c7:V2.cell? (Qz x.P 7)=some (.slice (some (Qz x.G 0)) 1062 x.gc):=S2.cell 7 _ rfl;have⟨d0,_,_,_,_,d5⟩:=S2.slot w;have d:fJ h K=(rq:Int):=(by unfold fJ;rw[a6];exact a7);rw[d]at d5;rw[a6]at d0;have d0:V2.cell? (Qz x.G (K*6))=some (I c):=d0;clear d;by_cases q:a<=1016
    ·have v:(a:Int)<=1016:=Z;have CO:=H (λV q=>Av a V q);by_cases o:fD a=c
     ·have g:=H (G.trans (GP ⟨q,o⟩));have Q:(((fD a:Nat):Int)==((c:Nat):Int))=true:=bG;go_wp2;refine rh (S:=λO=>O.cell? (Qz x.P 7)=some (.slice (some (Qz x.G 0)) 1062 x.gc)/\O.cell? (Qz x.G (K*6))=some (I c)) ?_;have d:=(show _/\_ from⟨c7,d0⟩);refine pk 0 (U a) d ?_;refine pz 1 Ql d ?_;refine pk 2 Ql d ?_;refine pk 3 (U a) d ?_;refine pk 5 (J x.P 0) d ?_;refine pk 6 (J x.P 0) d ?_;refine pk 7 (J x.P 7) d ?_;refine pz 8 (.slice (some (Qz x.G 0)) 1062 x.gc) d ?_;refine pk 9 (I K) d ?_;refine pz 10 (.pointer (some (Qz x.G (K*6)))) d ?_;refine pk 11 (.pointer (some (Qz x.G (K*6)))) d ?_;refine pz 12 (I c) d ?_;refine po 4 λK' w=>?_;go_simp;refine(CO _ q).mono ?_;rintro e u⟨rfl,T⟩;have r:D V2 u:=⟨T.os,T.tape,T.output,T.size,T.block⟩;have h3:=IT (NI r c7) (NI r d0);refine w _ _ ⟨h3,?_⟩;clear d;have d:=h3;clear w K';refine pz 13 Ql d ?_;refine pz 14 Ql d ?_;refine bY ?_;have⟨y,M,N⟩:=Qe (S2.below r) (S2.bkB B2 t r) (ae X2 r);have b0:=d.1;have b4:=NI r d5;have f53:=y.slotF (K*6+5);have S4:=H (show Sh B x cf {h with rq:=aE h.rq c s j a} (u.setCell (Qz x.G (K*6+5)) (I a)) by
       have:=y.setRq w (a:Nat);rw[a6]at this;exact this)
      have B4:=H (y.bkG M t (K*6+5) (I a));have X4:=H (show(u.setCell (Qz x.G (K*6+5)) (I a)).heap[R]?=some Qt by
       have⟨c2,b5⟩:=di y.sl;exact(Ky.grown b5 rfl (au (al _ x.G) _ _):Ky (· =109) _ _).cells _ _ _ _ N ar)
      clear d h3 r T c7 d0 d5 Q o S2 B2 X2 y M N CO;go_wp2_with (refine eG X4 ?_);refine fM (aw X4 _) underlying46 ?_;rw[g];exact⟨x,rfl,rfl,rfl,a2,S4.off81 X4 _,B4.loc (aj _ R _) (by rw[HR];exact Fv _) HQ t⟩
     have g:=H (G.trans (GO (λe=>o e.2)));have Q:(((fD a:Nat):Int)==((c:Nat):Int))=false:=bG;go_wp2;refine rh (S:=λO=>O.cell? (Qz x.P 7)=some (.slice (some (Qz x.G 0)) 1062 x.gc)/\O.cell? (Qz x.G (K*6))=some (I c)) ?_;have d:=(show _/\_ from⟨c7,d0⟩);refine pk 0 (U a) d ?_;refine pz 1 Ql d ?_;refine pk 2 Ql d ?_;refine pk 3 (U a) d ?_;refine pk 5 (J x.P 0) d ?_;refine pk 6 (J x.P 0) d ?_;refine pk 7 (J x.P 7) d ?_;refine pz 8 (.slice (some (Qz x.G 0)) 1062 x.gc) d ?_;refine pk 9 (I K) d ?_;refine pz 10 (.pointer (some (Qz x.G (K*6)))) d ?_;refine pk 11 (.pointer (some (Qz x.G (K*6)))) d ?_;refine pz 12 (I c) d ?_;refine po 4 λK' w=>?_;go_simp;refine(CO _ q).mono ?_;rintro e u⟨rfl,T⟩;have r:D V2 u:=⟨T.os,T.tape,T.output,T.size,T.block⟩;have h3:=IT (NI r c7) (NI r d0);refine w _ _ ⟨h3,?_⟩;clear d;have d:=h3;clear w K';refine pz 13 Qk d ?_;refine pz 14 Qk d ?_;refine bY ?_;have⟨y,M,N⟩:=Qe (S2.below r) (S2.bkB B2 t r) (ae X2 r);have b0:=d.1;have b4:=NI r d5;clear d h3 r T c7 d0 d5 Q o;go_wp2
     go_meet;case rel=>exact⟨rq,rfl,H ⟨g,AR⟩,y,M,N⟩
    have v:¬((a:Int)<=1016):=Z;have b0:decide ((a:Int)<=1016)=false:=GR v;have g:=H (G.trans (GO (λe=>q e.1)));go_wp2;refine rh (S:=λ_=>True) ?_;have d:True:=trivial;refine pk 0 (U a) d ?_;refine pz 1 Qk d ?_;refine pk 2 Qk d ?_;refine ps 3 d ?_;refine ps 4 d ?_;refine ps 5 d ?_;refine ps 6 d ?_;refine ps 7 d ?_;refine ps 8 d ?_;refine ps 9 d ?_;refine ps 10 d ?_;refine ps 11 d ?_;refine ps 12 d ?_;refine ps 13 d ?_;refine pz 14 Qk d ?_;refine bY ?_;have⟨y,M,N⟩:=Qe (S2.below (Fu _ _).drew) (S2.bkB B2 t (Fu _ _).drew) (ae X2 (Fu _ _).drew);go_wp2;go_meet;case rel=>exact⟨rq,rfl,H ⟨g,AR⟩,y,M,N⟩
   | range r i hr hb b6=>
    have b8:=(Fz.1 hr).1;have a5:=FM hr;have a6:=HI.rgs r a5;have⟨ra,rc,a7⟩:=aK F.rg;obtain⟨G,rfl⟩:=cr (a7▸F.rg) Z;have⟨_,_,_,d3,_,d5⟩:=F.range a7 hr;have c9:Y.cell? (Qz x.P 9)=some (.slice (some (Qz G 0)) h.rg.length rc):=(by rw[<-a7];exact F.cell 9 _ rfl);obtain⟨rq,b⟩:∃rq:Nat,r.rq=(rq:Int):=⟨r.rq.toNat,Z⟩;have b4:aR rq=r.pages:=by
     have:r.rq.toNat=rq:=by rw[b];simp
     rcases a6.2.2.2.2.2 with⟨_,_,h3⟩|⟨h3,_⟩;·rw[<-this];exact h3
     omega
    have AR:Hid (Area h p rq):=(.range r a5 hb b6 (by rw[<-b4];exact gE rq));have f:Hid (P=if 1016<a/\aR a=r.pages then(⟨0,p,0,[]⟩,{h with rg:=h.rg.map λx=>if x.base=r.base then {x with rq:=a}else x})else iQ cf h p a r.rq.toNat):=HE;rw[b,F0]at f;rw[b]at d5;have d1:r.pages<=96:=(by have:=a6;unfold Rg9.ext at this;omega);have d2:(i:Int)<(h.rg.length:Int):=Z;have d4:IntKind.u64.wrap ((r.pages:Nat):Int)=((r.pages:Nat):Int):=dX _ Z Z;have c8:aR a=r.pages->a<=98304:=λe=>by have:=gE a;omega
    have⟨b5,c1,PG⟩:=Qe a7 hr (λV=>qH a V ha);clear a6 a7 hr b4 a5 hb b6 b;by_cases q:1016<a
    ·have v:(1016:Int)<(a:Int):=Z;by_cases o:aR a=r.pages
     ·have g:=H (f.trans (GP ⟨q,o⟩));have Q:(((aR a:Nat):Int)==((r.pages:Nat):Int))=true:=bG;have a6:=c8 o;have a5:=H (HI.mapSet c1 (λx=>{x with rq:=(a:Int)}));go_wp2;refine rh (S:=λO=>O.cell? (Qz x.P 9)=some (.slice (some (Qz G 0)) h.rg.length rc)/\O.cell? (Qz G (i*6+3))=some (I r.pages)) ?_;have d:=(show _/\_ from⟨c9,d3⟩);refine pk 0 (U a) d ?_;refine pz 1 Ql d ?_;refine pk 2 Ql d ?_;refine pk 3 (U a) d ?_;refine pk 5 (J x.P 0) d ?_;refine pk 6 (J x.P 0) d ?_;refine pk 7 (J x.P 9) d ?_;refine pz 8 (.slice (some (Qz G 0)) h.rg.length rc) d ?_;refine pk 9 (I i) d ?_;refine pz 10 (.pointer (some (Qz G (i*6)))) d ?_;refine pk 11 (.pointer (some (Qz G (i*6+3)))) d ?_;refine pz 12 (I r.pages) d ?_;refine pz 13 (U r.pages) d ?_;refine po 4 λK' w=>?_;go_simp;refine(PG _).mono ?_;rintro e u⟨rfl,rfl⟩;refine w _ _ ⟨d,?_⟩;clear w K';refine pz 14 Ql d ?_;refine pz 15 Ql d ?_;refine bY ?_;have⟨y,M,N⟩:=Qe (F.below (Fu _ _).drew) (F.bkB B1 t (Fu _ _).drew) (ae X (Fu _ _).drew);have⟨S4,K4,G4,f5⟩:=y.setRangeRq b5 c1 (a:Nat);have⟨B4,X4⟩:=y7 (Eg y b5 M t G4) (K4.cells _ _ _ _ N ar);have S4:=H (show Sh B x cf {h with rg:=h.rg.map λx=>if x.base=r.base then {x with rq:=(a:Int)}else x} _ by rw[a5];exact S4);clear d Q o K4 G4;go_wp2_with (refine eG X4 ?_);refine fM (aw X4 _) underlying46 ?_;rw[g];exact⟨x,rfl,rfl,rfl,a2,S4.off81 X4 _,B4.loc (aj _ R _) (by rw[HR];exact Fv _) HQ t⟩
     have g:=H (f.trans (GO (λe=>o e.2)));have Q:(((aR a:Nat):Int)==((r.pages:Nat):Int))=false:=bG;go_wp2;refine rh (S:=λO=>O.cell? (Qz x.P 9)=some (.slice (some (Qz G 0)) h.rg.length rc)/\O.cell? (Qz G (i*6+3))=some (I r.pages)) ?_;have d:=(show _/\_ from⟨c9,d3⟩);refine pk 0 (U a) d ?_;refine pz 1 Ql d ?_;refine pk 2 Ql d ?_;refine pk 3 (U a) d ?_;refine pk 5 (J x.P 0) d ?_;refine pk 6 (J x.P 0) d ?_;refine pk 7 (J x.P 9) d ?_;refine pz 8 (.slice (some (Qz G 0)) h.rg.length rc) d ?_;refine pk 9 (I i) d ?_;refine pz 10 (.pointer (some (Qz G (i*6)))) d ?_;refine pk 11 (.pointer (some (Qz G (i*6+3)))) d ?_;refine pz 12 (I r.pages) d ?_;refine pz 13 (U r.pages) d ?_;refine po 4 λK' w=>?_;go_simp;refine(PG _).mono ?_;rintro e u⟨rfl,rfl⟩;refine w _ _ ⟨d,?_⟩;clear w K';refine pz 14 Qk d ?_;refine pz 15 Qk d ?_;refine bY ?_;have⟨y,M,N⟩:=Qe (F.below (Fu _ _).drew) (F.bkB B1 t (Fu _ _).drew) (ae X (Fu _ _).drew);clear d Q o;go_wp2
     go_meet;case rel=>exact⟨rq,rfl,H ⟨g,AR⟩,y,M,N⟩
    have v:¬((1016:Int)<(a:Int)):=Z;have b0:decide ((1016:Int)<(a:Int))=false:=GR v;have g:=H (f.trans (GO (λe=>q e.1)));go_wp2;refine rh (S:=λ_=>True) ?_;have d:True:=trivial;refine pk 0 (U a) d ?_;refine pz 1 Qk d ?_;refine pk 2 Qk d ?_;refine ps 3 d ?_;refine ps 4 d ?_;refine ps 5 d ?_;refine ps 6 d ?_;refine ps 7 d ?_;refine ps 8 d ?_;refine ps 9 d ?_;refine ps 10 d ?_;refine ps 11 d ?_;refine ps 12 d ?_;refine ps 13 d ?_;refine ps 14 d ?_;refine pz 15 Qk d ?_;refine bY ?_;have⟨y,M,N⟩:=Qe (F.below (Fu _ _).drew) (F.bkB B1 t (Fu _ _).drew) (ae X (Fu _ _).drew);go_wp2;go_meet;case rel=>exact⟨rq,rfl,H ⟨g,AR⟩,y,M,N⟩
   |no c1 hc=>rcases hc with e|e<;>cases e
  case rest=>
   obtain⟨A,rfl,G,S2,B2,X2⟩:=hcut;have⟨a5,AR⟩:=G.out;have AR:=H AR;have b:=HI.malloc c4 a;have o:=λq f(e:av cf h a=(some q,f))=>HI.gave e
   unfold iQ at a5;have⟨mr,v⟩:=Qa (av cf h a);rw[v]at a5 b;simp only[v]at MA o;have⟨a5,d8,d9⟩:=Qe a5 b o;clear G v b o;go_wp2_with fail;refine(MA _ S2 (Fx t B2.bel.size)).mono ?_;rintro e u⟨l,rfl,a8,a3,a9,b,T⟩;have⟨a0,a6,c8,N,M,y⟩:=Qh a8 a3 a9 (T.at X2 (eB ar)) (show Bk B l.Q W u from a3▸B2.trans T) b;clear b T a8 a3 a9 S2 B2 X2;have⟨o,f⟩:=mr;cases o with
   |none=>
    have g:Hid (P=(.no 1,f)):=a5;unfold mQ;rw[Ag];have bA:D u (u.alloc (.cells #[I 1,U 0,I 0,C] 46)):=(Fu _ _).alloc (Fv _) _;have⟨S4,B4,X4⟩:=Qe (y.below bA) (y.bkB M t bA) (ae N bA);have Z4:=ao u (.cells #[I 1,U 0,I 0,C] 46);have z0:(u.alloc (.cells #[I 1,U 0,I 0,C] 46)).cell? (Qz u.heap.size 0)=some (I 1):=(by simp only[QC,Z4];rfl);have z1:(u.alloc (.cells #[I 1,U 0,I 0,C] 46)).cell? (Qz u.heap.size 1)=some (U 0):=(by simp only[QC,Z4];rfl);have z2:(u.alloc (.cells #[I 1,U 0,I 0,C] 46)).cell? (Qz u.heap.size 2)=some (I 0):=(by simp only[QC,Z4];rfl);have z3:(u.alloc (.cells #[I 1,U 0,I 0,C] 46)).cell? (Qz u.heap.size 3)=some C:=(by simp only[QC,Z4];rfl);clear bA Z4;go_wp2_with (refine eG X4 ?_);refine fM (aw X4 _) underlying46 ?_;rw[g];exact⟨l,rfl,a0,a6,c8,S4.off81 X4 _,(a6.out▸B4.out:Bk B x.Q W _).loc (aj _ R _) (by rw[HR];exact Fv _) HQ t⟩
   | some q=>
    have GV:=H (d9 q f rfl);have⟨n,hn⟩:=Qa (min A a);have e2:n<=A:=Z;have e3:n<=a:=Z;have g3:n=A\/n=a:=Z;have⟨ak,v⟩:=GV.keeps AR;have ap:=ak.le e2;have aq:=GV.area.le e3;have⟨e4,e7,e8⟩:=Qe (show∀i,i<n->isOpen (f.m ((p+i)/1024))=true from λi hi=>GV.inv.openA ap hi) (show∀i,i<n->isOpen (f.m ((q+i)/1024))=true from λi hi=>GV.inv.openA aq hi) (GV.inv.apartA ap aq v);have g4:=GV.inv.ltA ap;have g5:=GV.inv.ltA aq;have d1:=H (show P=(⟨0,q,0,[]⟩,db cf {f with m:=ay f.m q (aH f.m p n) n} (aB {f with m:=ay f.m q (aH f.m p n) n} p)) by
     have:=a5.out;simp only[hn]at this;exact this)
    have I2:Hid (Inv cf {f with m:=ay f.m q (aH f.m p n) n}):=GV.inv.bytes _ _ _;have⟨_,m2,m3,m4,m5⟩:=d8.out;dsimp only at m2 m3 m4 m5;have F2:=H (show Few (k+1) {f with m:=ay f.m q (aH f.m p n) n}from⟨m2,iM,iM,by have:=c4.used;dsimp only;omega⟩);have b:=jt {f with m:=ay f.m q (aH f.m p n) n} p;have a7:=H (λV(hV:Sh B l cf {f with m:=ay f.m q (aH f.m p n) n} V)=>kZ B l cf {f with m:=ay f.m q (aH f.m p n) n} p V hV iM iM);obtain⟨⟨u1,u2,u3⟩,hu⟩:∃tr,fE {f with m:=ay f.m q (aH f.m p n) n} p=tr:=⟨_,rfl⟩;rw[hu]at b a7;have G:u3=0:=by
     have b0:(∃c s j,aB {f with m:=ay f.m q (aH f.m p n) n} p=.slot c s j)\/∃r,aB {f with m:=ay f.m q (aH f.m p n) n} p=.range r:=by
      have sn:=c6.out;have fe:=d7.out;cases c5 with
      |slot c s j K w a1 hA hl=>
       have L:=mj w;rw[a1]at L;dsimp only at L;exact .inl ⟨c,s,j,gW fe (GV.live c s j L.1 L.2.1 L.2.2 hl).1⟩
      |range r i hr hb b6=>
       refine .inr ⟨r,fV fe ?_⟩;rcases GV.rg with e|⟨r',e,_⟩;·exact .inl e
       exact .inr ⟨r',e⟩
      |no c1 hc=>rcases hc with e|e<;>cases e
     rcases b0 with⟨c,s,j,e⟩|⟨r,e⟩<;>(rw[e]at b;cases b;rfl)
    have FE:=H (λV(hV:Sh B l cf {f with m:=ay f.m q (aH f.m p n) n} V)(c3:B<=V.heap.size)=>uq B l cf {f with m:=ay f.m q (aH f.m p n) n} (k+1) p _ u1 u2 u3 V hV c8 c3 I2 F2 Z HD d6 b G);rw[a0]at a7 FE;unfold mQ;rw[Ae];have bA:D u (u.alloc (.cells #[I 0,U q,I 0,C] 46)):=(Fu _ _).alloc (Fv _) _;have⟨S4,B4,X4,Z4⟩:=Qf (y.below bA) (y.bkB M t bA) (ae N bA) (ao u (.cells #[I 0,U q,I 0,C] 46));have z0:(u.alloc (.cells #[I 0,U q,I 0,C] 46)).cell? (Qz u.heap.size 0)=some (I 0):=(by simp only[QC,Z4.out];rfl);clear bA ak ap aq hn b hu G m2 m3 m4 m5 v;go_wp2;generalize u.alloc _=V4 at S4 B4 X4 Z4⊢;generalize u.heap.size=b at Z4⊢;clear z0;have SS:Hid (∀(V:QM){o:Hs},Sh B l cf o V->V.heap[b]?=some (.cells #[I 0,U q,I 0,C] 46)->V.cell? (Qz x.P 6)=some (J l.T 0)/\V.cell? (Qz b 1)=some (U q)):=(λV o hV o=>⟨by rw[<-a0.out];exact hV.cell 6 _ rfl,by simp[QC,o]⟩);go_loopw [12] (λv o=>∃i:Nat,i<=n/\v=I i/\Hid (Sh B l cf {f with m:=ay f.m q (aH f.m p n) i} o)/\Hid (Bk B l.Q W o)/\Hid (o.heap[R]?=some Qt)/\Hid (o.heap[b]?=some (.cells #[I 0,U q,I 0,C] 46))) (λv _=>n-(intOf v).toNat);(case atStart=>exact⟨0,FH _,rfl,S4,B4,X4,Z4⟩);case round=>
     clear S4 B4 X4 Z4;obtain⟨i,L,rfl,G,B6,X6,Z6⟩:=hrel;by_cases b8:i<n
     ·have d2:(i:Int)<(A:Int):=Z;have e9:(i:Int)<(a:Int):=Z;have b4:=e4.out i b8;have b5:=e7.out i b8;have d4:bO (ay f.m q (aH f.m p n) i) (p+i)=bO f.m (p+i):=h_ _ _ _ _ _ (by have:=e8.out;omega);have⟨bt,b0⟩:=Qa (bO f.m (p+i));have g0:=H (show ay f.m q (aH f.m p n) (i+1)=dZ (ay f.m q (aH f.m p n) i) (q+i) bt by
       show dZ _ _ _=_;have e:((aH f.m p n)[i]?).getD 0=bt:=(by rw[<-b0];simp[aH,b8]);rw[e])
      have GE:Hid (∀Y,Sx l.T l.Q 283 (cf.bud:Nat) (ay f.m q (aH f.m p n) i) Y->QA 129 #[J l.T 0,U (IntKind.u64.wrap ((p:Int)+IntKind.u64.wrap (i:Int)))] Y λe w'=>e=QJ (.int .u8 bt)/\w'=Y):=(λY hV=>by
       rw[dX (i:Int) Z Z,dX _ Z Z,<-b0,<-d4];exact kT l.T l.Q 283 (cf.bud:Nat) _ (p+i) Y hV Z Z (by rw[eO];exact b4))
      have PU:Hid (∀Y,Sx l.T l.Q 283 (cf.bud:Nat) (ay f.m q (aH f.m p n) i) Y->QA 128 #[J l.T 0,U (IntKind.u64.wrap ((q:Int)+IntKind.u64.wrap (i:Int))),.int .u8 bt] Y λe w'=>e=QJ (.tuple #[])/\Sx l.T l.Q 283 (cf.bud:Nat) (dZ (ay f.m q (aH f.m p n) i) (q+i) bt) w'/\Sf l.Q Y w'):=(λY hV=>by
       rw[dX (i:Int) Z Z,dX _ Z Z];exact uh l.T l.Q (cf.bud:Nat) _ (q+i) bt Y hV Z (by rw[eO];exact b5))
      clear b4 b5 d4 b0;go_wp2;refine rh (S:=λO=>O.cell? (Qz x.P 6)=some (J l.T 0)/\O.cell? (Qz b 1)=some (U q)) ?_;have d:=SS.out _ (G.below (Fu _ _).drew) Z6;refine pk 0 (J x.P 0) d ?_;refine pk 1 (J x.P 0) d ?_;refine pk 2 (J x.P 6) d ?_;refine pz 3 (J l.T 0) d ?_;refine pk 4 (J b 1) d ?_;refine pz 5 (U q) d ?_;refine pk 6 (I i) d ?_;refine pz 7 (U (IntKind.u64.wrap (i:Int))) d ?_;refine pz 8 (U (IntKind.u64.wrap ((q:Int)+IntKind.u64.wrap (i:Int)))) d ?_;refine pk 9 (J x.P 0) d ?_;refine pk 10 (J x.P 0) d ?_;refine pk 11 (J x.P 6) d ?_;refine pz 12 (J l.T 0) d ?_;refine pk 13 (U p) d ?_;refine pk 14 (I i) d ?_;refine pz 15 (U (IntKind.u64.wrap (i:Int))) d ?_;refine pz 16 (U (IntKind.u64.wrap ((p:Int)+IntKind.u64.wrap (i:Int)))) d ?_;refine po 17 λK' w=>?_;go_simp;refine(GE _ (G.below (Fu _ _).drew).sp).mono ?_;rintro e V7⟨rfl,rfl⟩;refine w _ _ ⟨d,?_⟩;clear w K';refine po 18 λK' w=>?_
      go_simp;refine(PU _ (G.below (Fu _ _).drew).sp).mono ?_;rintro e V8⟨rfl,x8,f8⟩;have S8:=H (show Sh B l cf {f with m:=ay f.m q (aH f.m p n) (i+1)} V8 by have:=(G.below (Fu _ _).drew).space (Fx t B6.bel.size) _ x8 f8;rw[g0];exact this);have⟨B8,X8,Z8⟩:=Qe ((G.below (Fu _ _).drew).bkS (G.bkB B6 t (Fu _ _).drew) t f8) ((f8.ky (G.below (Fu _ _).drew).sp).cells _ _ _ _ X6 ar) ((f8.ky (G.below (Fu _ _).drew).sp).cells _ _ _ _ Z6 ar);refine w _ _ ⟨SS _ S8 Z8,?_⟩;clear d;clear w K';refine bY ?_;clear x8 f8;go_wp2;go_roundw;(case rel=>exact⟨i+1,Z,aY,S8,B8,X8,Z8⟩);case measure=>exact QE
     obtain rfl:i=n:=Z;by_cases d4:i<A
     ·have d2:(i:Int)<(A:Int):=Z;have e9:¬((i:Int)<(a:Int)):=Z;go_wp2_with fail;refine(a7 _ G).mono ?_;rintro e V7⟨rfl,b7⟩;have⟨S7,B7,X7,Z7⟩:=Qf (G.below b7) (G.bkB B6 t b7) (ae X6 b7) (ae Z6 b7);clear b7 G B6 X6 Z6;unfold C4;go_wp2_with fail;refine(FE _ S7 (Fx t B7.bel.size)).mono ?_;rintro e V8⟨rfl,x9,b0,b4,b5,s9,b9⟩;have⟨S8,B8,X8⟩:=Qe s9 (show Bk B l.Q W V8 from B7.trans b9) (b9.at X7 (eB ar));have Z8:=b9.at Z7 (eB ar);have z0:V8.cell? (Qz b 0)=some (I 0):=(by simp[QC,Z8]);have z1:V8.cell? (Qz b 1)=some (U q):=(by simp[QC,Z8]);have z2:V8.cell? (Qz b 2)=some (I 0):=(by simp[QC,Z8]);have z3:V8.cell? (Qz b 3)=some C:=(by simp[QC,Z8]);have H9:=H (IT b0 (IT b4 b5));clear s9 b9 b0 b4 b5 Z8;go_wp2_with (refine eG X8 ?_);refine fM (aw X8 _) underlying46 ?_;rw[d1];exact⟨x9,rfl,H9.1,H9.2.1.trans a6,H9.2.2,S8.off81 X8 _,(a6.out▸B8.out:Bk B x.Q W V8).loc (aj _ R _) (by rw[HR];exact Fv _) HQ t⟩
     have d2:¬((i:Int)<(A:Int)):=Z;go_wp2_with fail;refine(a7 _ G).mono ?_;rintro e V7⟨rfl,b7⟩;have⟨S7,B7,X7,Z7⟩:=Qf (G.below b7) (G.bkB B6 t b7) (ae X6 b7) (ae Z6 b7);clear b7 G B6 X6 Z6;unfold C4;go_wp2_with fail;refine(FE _ S7 (Fx t B7.bel.size)).mono ?_;rintro e V8⟨rfl,x9,b0,b4,b5,s9,b9⟩;have⟨S8,B8,X8⟩:=Qe s9 (show Bk B l.Q W V8 from B7.trans b9) (b9.at X7 (eB ar));have Z8:=b9.at Z7 (eB ar);have z0:V8.cell? (Qz b 0)=some (I 0):=(by simp[QC,Z8]);have z1:V8.cell? (Qz b 1)=some (U q):=(by simp[QC,Z8]);have z2:V8.cell? (Qz b 2)=some (I 0):=(by simp[QC,Z8]);have z3:V8.cell? (Qz b 3)=some C:=(by simp[QC,Z8]);have H9:=H (IT b0 (IT b4 b5));clear s9 b9 b0 b4 b5 Z8;go_wp2_with (refine eG X8 ?_);refine fM (aw X8 _) underlying46 ?_;rw[d1];exact⟨x9,rfl,H9.1,H9.2.1.trans a6,H9.2.2,S8.off81 X8 _,(a6.out▸B8.out:Bk B x.Q W V8).loc (aj _ R _) (by rw[HR];exact Fv _) HQ t⟩
 cases a4 with
 |slot c s j K w a1 b hl=>exact absurd rfl z
 |range r i hr hb b6=>exact absurd rfl z
 |no c1 hc=>
  have Q:((t3:Int) !=0)=true:=by simpa using z
  have g:Hid (P=(.no t3,h)):=HE;clear z;go_wp2_with (refine eG X ?_);refine fM (aw X _) underlying46 ?_;rw[g];exact⟨x,rfl,rfl,rfl,a2,F.off81 X _,B1.loc (aj _ R _) (by rw[HR];exact Fv _) HQ t⟩
structure vJ(cf:Cf)(h:Hs)(k:Nat):Prop where
 inv:Inv cf h
 byt:Byt h.m
 few:Few k h
 kk:k<=302
 dok:mE cf
 l1:1<=cf.large
theorem kW(B y d cf h k an)(a:Nat)(W)(F:Hp B y d cf h W)(G:Gd d h an)(o:vJ cf h k)(ha:a<18446744073709551616):
  QA 99 #[J y.P 0,U a] W (AS B y cf an d.lg W (av cf h a)):=by
 have K:h.used+2000<=1000000:=by
  have b:=o.few.used;have c:=o.kk;have:2100*k<=2100*302:=IJ _ c;omega
 by_cases Q:a<=1016
 ·have t:=H (rT B y d cf h an a W F G o.inv o.byt Q K o.dok);generalize av cf h a=u at*;go_enter func99,ntmps99;go_wp2_with fail;refine(t).mono ?_;rintro e V⟨L,v⟩;have n:=H v;cases L with
  |no b _ M=>exact⟨rfl,.no b V M,n⟩
  |slot c s j b _ N p w f x=>
   have q:=H (TaR.slot (B:=B) (y:=y) (cf:=cf) (an:=an) (lg:=d.lg) c s j b V N p w f x);go_wp2;go_ret;exact⟨q,n⟩
  |range r g O b _ z f A i l m=>
   have q:=H (TaR.range (B:=B) (y:=y) (cf:=cf) (an:=an) (lg:=d.lg) r g O b V z f A i l m);go_wp2;go_ret;exact⟨q,n⟩
 have P:1016<a:=Z;have t:=H (oU B y d cf h an a W F G o.inv P ha K o.dok (by have:=o.few.rg;have:=o.kk;omega) (by have:=o.few.rel;have:=o.kk;omega));generalize av cf h a=u at*;go_enter func99,ntmps99;go_wp2_with fail;refine(t).mono ?_;rintro e V⟨L,v⟩;have n:=H v;cases L with
 |no b _ M=>exact⟨rfl,.no b V M,n⟩
 |slot c s j b _ N p w f x=>
  have q:=H (TaR.slot (B:=B) (y:=y) (cf:=cf) (an:=an) (lg:=d.lg) c s j b V N p w f x);go_wp2;go_ret;exact⟨q,n⟩
 |range r g O b _ z f A i l m=>
  have q:=H (TaR.range (B:=B) (y:=y) (cf:=cf) (an:=an) (lg:=d.lg) r g O b V z f A i l m);go_wp2;go_ret;exact⟨q,n⟩
def mB(cf:Cf)(h:Hs)(a b:Nat):Option Nat×Hs:=if 18446744073709551616<=a*b then(none,h)else av cf h (a*b)
theorem lD(B y d cf h k an)(a b:Nat)(W)(g:Hp B y d cf h W)(j:Gd d h an)(o:vJ cf h k)(ha:a<18446744073709551616)(q:b<18446744073709551616):
  QA 100 #[J y.P 0,U a,U b] W (AS B y cf an d.lg W (mB cf h a b)):=by
 unfold mB;by_cases c:18446744073709551616<=a*b
 ·rw[GP c];have i:=H (product.im_Product_no a b ha q c W);have f:=H (show AS B y cf an d.lg W (none,h) (.panicked (ip 1)) W from⟨.no h W (Hg.tk ⟨d,g,j⟩),Bi.refl _ _⟩);clear g j o c;go_enter func100,ntmps100;go_wp2_with fail;refine(i).mono ?_;rintro e V⟨rfl,rfl⟩;clear i;go_wp2
  first|exact⟨rfl,f⟩|exact f
 rw[GO c];have i:=H (product.im_Product_yes a b ha q Z W);have l:=H (kW B y d cf h k an (a*b) W g j o Z);generalize av cf h (a*b)=t at*;generalize a*b=x at*;clear g j o c;go_enter func100,ntmps100;go_wp2_with fail;refine(i).mono ?_;rintro e V⟨rfl,rfl⟩;clear i;go_wp2_with fail;refine(l).mono ?_;rintro e o⟨v,c⟩;have p:=H c;clear l c;cases v with
 |no l _ c=>exact⟨rfl,.no l o c,p⟩
 |slot c s j l _ u g n m r=>
  have f:=H (TaR.slot (B:=B) (y:=y) (cf:=cf) (an:=an) (lg:=d.lg) c s j l o u g n m r);clear r m n;go_wp2;go_ret;exact⟨f,p⟩
 |range r g w l _ s m u c j n=>
  have f:=H (TaR.range (B:=B) (y:=y) (cf:=cf) (an:=an) (lg:=d.lg) r g w l o s m u c j n);clear c j s m u n;go_wp2;go_ret;exact⟨f,p⟩
/-! a store in pieces -/
theorem gQ(m a)(b c:List Int):∀n,(∀i,i<n->b[i]?.getD 0=c[i]?.getD 0)->ay m a b n=ay m a c n
 |0,_=>rfl
 |n+1,h=>by
  show dZ (ay m a b n) (a+n) _=dZ (ay m a c n) (a+n) _
  rw[gQ m a b c n (λi b=>h i Z),h n Z]
theorem fg(m a)(n i:Nat)(b:i<n):(aH m a n)[i]?.getD 0=bO m (a+i):=by
 unfold aH;simp[Gv,List.getElem?_range b]
theorem js(m p q k):∀l,ay (ay m q (aH m p k) k) (q+k) (aH m (p+k) l) l=ay m q (aH m p (k+l)) (k+l)
 |0=>rfl
 | l+1=>by
  have e1:ay (ay m q (aH m p k) k) (q+k) (aH m (p+k) (l+1)) l=ay m q (aH m p (k+(l+1))) (k+l):=by
   rw[gQ _ _ _ (aH m (p+k) l) l (λi a=>by rw[fg _ _ _ _ Z,fg _ _ _ _ a]),js m p q k l];exact gQ _ _ _ _ _ (λi a=>by rw[fg _ _ _ _ a,fg _ _ _ _ Z])
  show dZ (ay (ay m q (aH m p k) k) (q+k) (aH m (p+k) (l+1)) l) (q+k+l) ((aH m (p+k) (l+1))[l]?.getD 0)=dZ (ay m q (aH m p (k+(l+1))) (k+l)) (q+(k+l)) ((aH m p (k+(l+1)))[k+l]?.getD 0);rw[e1,fg _ _ _ _ Z,fg _ _ _ _ Z,H_ q k l,H_ p k l]
theorem qC(m)(p q:Nat)(ys)(k a l:Nat)(h:a+l<=q\/q+k<=a):aH (ay m q ys k) a l=aH m a l:=by
 unfold aH;apply List.map_congr_left;intro i b;have c:i<l:=by simpa using b
 exact h_ m q ys (a+i) k Z
theorem uN(m)(p q k l:Nat)(h:p+(k+l)<=q\/q+(k+l)<=p):ay (aZ m p q k) (q+k) (aH (aZ m p q k) (p+k) l) l=aZ m p q (k+l):=by
 unfold aZ;rw[qC m p q _ k (p+k) l Z];exact js m p q k l
theorem Hp.daOwn{B}{b:Nat}{y d U}(o:Hp B y d cf h U){v:QN}{m:List Int}(n:U.ownsRow b 5 1 v m.length (Ns .u8 m)):∃a c,v=.slice a m.length c/\m.length<=c/\Da y.S y.M d.f U a m.length m:=by
 have⟨a,c,e⟩:=aK n;subst e;refine⟨a,c,rfl,?_,rfl,λi s=>?_⟩
 ·rcases n.2 with⟨e,q⟩|⟨g,f,k,e,j,r,l,_⟩;·omega
  simp at e;omega
 have⟨g,t⟩:=cr n Z;subst t;have⟨w,j⟩:=di n;refine⟨(Qz g 0),rfl,?_,?_,?_,?_,?_⟩
 ·rw[Addr.add_mid,Oi];have⟨a,c,e,f⟩:=te n;have⟨k,e1,q⟩:=f i s;simp at e;rw[<-e.1]at e1;cases e1;exact q
 ·rw[Addr.add_mid];exact ag j
 ·rw[Addr.add_mid];intro e;have p:g=y.S:=e;rw[p,o.sp.box]at j;simp at j
 ·rw[Addr.add_mid];intro e;have p:g=y.M:=e;obtain⟨f,⟨k,l,r,_⟩,_⟩:=o.sp.map;rw[p,r]at j;cases j
 rw[Addr.add_mid];intro k f;rcases o.pg.at' k with⟨e1,_⟩|⟨x,l,z,e1,_,_,u⟩;·rw[f]at e1;cases e1
 rw[f]at e1;cases e1;rw[u]at j;simp at j
theorem Inv.openN9(i:Inv cf h)(A:Area h p n){k l:Nat}(c:k+l<=n)(a:1<=l)(b:l<=4096):ci h.m (p+k) (l:Int)=0:=by
 have:=i.ltA A;exact jI a b Z (λq a=>by rw[H_];exact i.openA A Z)
def E7(B:Nat)(y:Ly)(d:Dy)(cf:Cf)(h:Hs)(W:World)(e:Ending)(W':World):Prop:=e=.returned (.tuple #[])/\(∃i,Hp B y {d with f:=i} cf h W')/\Bi B W W'
theorem Area.bytes(A:Area h p n)(m:Nat->Option (Bool×List Int)):Area {h with m:=m} p n:=by
 cases A with
 |slot c s j d a e f g b=>exact .slot c s j d a e f g b
 |range r c d a b=>exact .range r c d a b
theorem zL(B y d cf h p q n W)(O:Hp B y d cf h W)(i:Inv cf h)(L:Area h p n)(M:Area h q n)(z:p≠q):
  QA 156 #[J y.P 0,U p,U q,U n] W (E7 B y d cf {h with m:=aZ h.m p q n} W):=by
 have P:=i.apartA L M z;have lp:=i.ltA L;have lq:=i.ltA M;have BW:=H O.bW;have g:=H (show∀(k l:Nat)(f:Nat->Option Nat)(b:QM),k+l<=n->1<=l->l<=4096->Hp B y {d with f:=f} cf {h with m:=aZ h.m p q k} b ->
   QA 105 #[J y.P 0,U (p+k:Nat),U l] b λe x=>∃A a c,e=QJ (.slice a l c)/\Hp B y {d with f:=A} cf {h with m:=aZ h.m p q k} x/\Bi B b x/\l<=c/\QA 106 #[J y.P 0,U (q+k:Nat),.slice a l c] x (E7 B y d cf {h with m:=aZ h.m p q (k+l)} x)from λk l f b R S T X=>by
  have N:Inv cf {h with m:=aZ h.m p q k}:=i.bytes _ _ _
  have F:=N.openN9 (L.bytes (aZ h.m p q k)) R S T
  have G:=N.openN9 (M.bytes (aZ h.m p q k)) R S T
  have s:=jy B y _ cf _ (p+k) l b X N.out Z Z
  rw[Hz Z]at s
  dsimp only at s F G
  rw[F,GP rfl]at s
  refine s.mono ?_
  rintro e x⟨A,j,Y,⟨_,v,rfl,own⟩|⟨Q,_⟩⟩
  rotate_left
  ·exact absurd rfl Q
  have u:(aH (aZ h.m p q k) (p+k) l).length=l:=by simp[aH]
  obtain⟨a,c,rfl,w,K⟩:=j.daOwn own
  rw[u]at w K⊢
  refine⟨A,a,c,rfl,j,Y,w,?_⟩
  have t:=iw B y _ cf _ (q+k) a l c _ x j N.out Z K w
  rw[u]at t
  dsimp only at t
  rw[G,GP rfl,uN h.m p q k l Z]at t
  refine t.mono ?_
  rintro e V⟨f2,o,r,⟨_,rfl⟩|⟨Q,_⟩⟩
  ·exact⟨rfl,⟨f2,o⟩,r⟩
  exact absurd rfl Q)
 have x:Hid (Hp B y {d with f:=d.f} cf {h with m:=aZ h.m p q 0} W):=O;clear O i L M z P;go_enter func156,ntmps156;go_wp2;go_loopg [8] n (λgk i wr=>∃(k:Nat)(f:Nat->Option Nat),i=U k/\gk=n-k/\k<=n+4096/\Hid (Hp B y {d with f:=f} cf {h with m:=aZ h.m p q (min k n)} wr)/\Hid (Bi B W wr));case atStart=>exact⟨0,d.f,rfl,Z,Z,H (by rw[Hz (FH _)];exact x),H (Bi.refl _ _)⟩
 case round=>
  obtain⟨k,f,rfl,R,Q,v,G⟩:=hrel;by_cases K:k<n
  ·rw[Hz Z]at v;have L:(k:Int)<(n:Int):=Z;have l:((p+k:Nat):Int)=(p:Int)+(k:Int):=Z;have u:((q+k:Nat):Int)=(q:Int)+(k:Int):=Z;by_cases w:n-k<=4096
   ·have M:(n:Int)-(k:Int)<=4096:=Z;have s:=H (g k (n-k) f wr Z Z w v);have e1:(((n-k:Nat):Nat):Int)=(n:Int)-(k:Int):=Z;have i:k+(n-k)=n:=Z;rw[e1,i,l,u]at s;clear v w e1 i l u;go_wp2_with fail;refine(s).mono ?_;rintro e b⟨A,a,c,rfl,j,i,N,t⟩;have⟨z,F⟩:=y7 t (G.trans i);clear t i j;go_wp2_with fail;refine(z).mono ?_;rintro e V⟨rfl,⟨f2,o⟩,r⟩;have⟨O,P⟩:=y7 o (F.trans r);clear o r;go_wp2
    go_roundg (n-(k+4096))
    (case rel=>exact⟨k+4096,f2,by rw[Int.natCast_add];rfl,rfl,Z,H (by rw[Nat.min_eq_right Z];exact O),P⟩);case measure=>omega
   have M:¬((n:Int)-(k:Int)<=4096):=Z;have s:=H (g k 4096 f wr Z Z Z v);rw[l,u]at s;clear v w l u;go_wp2_with fail;refine(s).mono ?_;rintro e b⟨A,a,c,rfl,j,i,N,t⟩;have⟨z,F⟩:=y7 t (G.trans i);clear t i j;go_wp2_with fail;refine(z).mono ?_;rintro e V⟨rfl,⟨f2,o⟩,r⟩;have⟨O,P⟩:=y7 o (F.trans r);clear o r;go_wp2
   go_roundg (n-(k+4096))
   (case rel=>exact⟨k+4096,f2,by rw[Int.natCast_add];rfl,rfl,Z,H (by rw[Hz Z];exact O),P⟩);case measure=>omega
  have L:(n:Int)<=(k:Int):=Z;have i:=H (show E7 B y d cf {h with m:=aZ h.m p q n} W (QJ (.tuple #[])) wr from⟨rfl,⟨f,by have:=v.out;rw[Nat.min_eq_right Z]at this;exact this⟩,G⟩);clear v K;go_wp2;go_end0;exact i.out
end
end Go.Proofs.YtdhegekcmmlohaaGreatDoor
