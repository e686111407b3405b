import Derived.Test.YtibblbenmpcplaaGreatDoorN14
import Derived.Test.YtibblbenmpcplaaGreatDoorN23
import Derived.Test.YtibblbenmpcplaaGreatDoorN26
import Derived.Test.YtibblbenmpcplaaGreatDoorN30
import Derived.Test.YtibblbenmpcplaaGreatDoorN31
set_option linter.unusedVariables false
set_option linter.unusedSimpArgs false
set_option maxRecDepth 20000
set_option maxHeartbeats 8000000
namespace Go.Proofs.YtibblbenmpcplaaGreatDoor
open Go.Proofs.Tryz
variable {cf:Cf} {h:Hs} {n p:Nat}
section
open Go.RowKit
theorem jT (B x cf h k) (a:Nat) (W) (i:Sh B x cf h W) (c:l_ x) (j:B<=W.heap.size) (l:Inv cf h) (d:Few k h) (n:k<=300) (m:mE cf) (ha:a<18446744073709551616) :
  Calls prog 99 #[J x.P 0,U a] W λe f=>∃ b:Sm,e=.returned (jP (mQ (av cf h a).1) (C))/\b.P=x.P/\b.Q=x.Q/\l_ b/\Sh B b cf (av cf h a).2 f/\Bk B x.Q W f:=by
 have o:=d.used;have p:=d.rg;have q:=d.rel;by_cases g:a<=1016;·refine (qz B x cf h a W i j l Z m g).mono ?_;rintro e f ⟨rfl,s,b⟩;exact⟨x,rfl,rfl,rfl,c,s,b⟩
 exact rz B x cf h a W i c j l Z m Z Z Z ha
theorem uq (B x cf h k p) (g:Fd) (l m n:Int) (W) (o:Sh B x cf h W) (a:l_ x) (q:B<=W.heap.size) (t:Inv cf h) (b:Few k h) (z:k<=301) (u:mE cf) (d:1<=cf.large) (w:C9 h p g (l,m,n)) (y:n=0) :
  Calls prog 103 #[J x.P 0,I l,I m] W λe v=>e=.returned (.tuple #[])/\∃ c:Sm,c.P=x.P/\c.Q=x.Q/\l_ c/\Sh B c cf (db cf h g) v/\Bk B x.Q W v:=by
 have A:=b.used;have F:=b.rg;have G:=b.rel;have L:=b.row;cases w with
 | slot c s j K i f ha r=>exact uJ B x cf h K c s j (-1) W o a q t Z u i f r
 | range r i f j c=>exact uZ B x cf h i r W o a q t u d f c Z Z Z
 | no c f=>rcases f with rfl|rfl <;> cases y
def iQ (cf:Cf) (h:Hs) (p a i:Nat):An4×Hs :=
 match av cf h a with
 | (none,e)=>(.no 1,e)
 | (some q,e)=>(⟨0,q,0,[]⟩,db cf { e with m:=aZ e.m p q (min i a) } (aB { e with m:=aZ e.m p q (min i a) } p))
def oW (cf:Cf) (h:Hs) (a:Nat):An4×Hs:=(mQ (av cf h a).1,(av cf h a).2)
theorem hH (cf h p a):a_ cf h p a=if p=0 then oW cf h a else match aB h p with
  | .no code=>(.no code,h)
  | .slot c s j=>if sound cf h c s j=false then (.no 5,h) else if a<=1016/\fD a=c then (⟨0,p,0,[]⟩,{ h with rq:=aE h.rq c s j a }) else iQ cf h p a (h.rq c s j).toNat
  | .range r=>if 1016<a/\aR a=r.pages then (⟨0,p,0,[]⟩,{ h with rg:=h.rg.map λx=>if x.base=r.base then { x with rq:=a } else x }) else iQ cf h p a r.rq.toNat:=by
 have d:(match av cf h a with
   | (none,b)=>(An4.no 1,b)
   | (some q,b)=>(⟨0,q,0,[]⟩,b))=oW cf h a:=by
  unfold oW
  cases av cf h a with
  | mk o b=>cases o <;> rfl
 unfold a_;dsimp only
 by_cases b:p=0
 ·rw [GP b,GP b];exact d
 rw [GO b,GO b]
 cases aB h p with
 | no code=>rfl
 | slot c s j=>rfl
 | range r=>rfl
theorem Ag (c:Int):jP (.no c) (C)=.agg #[I c,U 0,I 0,C]:=rfl
theorem Ae (q:Nat):jP ⟨0,q,0,[]⟩ (C)=.agg #[I 0,U q,I 0,C]:=rfl
theorem qE (l:List Rg9) {i:Nat} {r:Rg9} (a:l[i]?=some r) (b:Int):eM (l.set i { r with rq:=b })=(eM l).set (i*6+5) (I b):=by
 have c:=ou l a r.st b;have d:=(Fz.1 a).1;have f:(eM l).set (i*6+4) (I r.st)=eM l:=by
  apply Ho;intro k;rw [Gr];split
  ·rename_i e;subst e;rw [GP (by rw [dS];omega),fo l a Z];rfl
  rfl
 rw [f] at c;exact c
theorem Sh.setRangeRq {B x V} (a:Sh B x cf h V) {G cap} {i:Nat} {r:Rg9} (j:x.rv=Vl G h.rg.length cap) (l:h.rg[i]?=some r) (b:Int) :
  Sh B x cf { h with rg:=h.rg.set i { r with rq:=b } } (V.setCell ⟨G,i*6+5,none⟩ (I b))/\Ky (· = 130) V (V.setCell ⟨G,i*6+5,none⟩ (I b))/\V.grownBy (V.setCell ⟨G,i*6+5,none⟩ (I b)) (some G)/\V.frozen? ⟨G,i*6+5,none⟩=false:=by
 have f:=a.rg;rw [j] at f;have n:=(Fz.1 l).1;obtain⟨p,d⟩:=di f;have e:V.grownBy (V.setCell ⟨G,i*6+5,none⟩ (I b)) (some G):=au (al V G) _ _;have k:Ky (· = 130) V _:=Ky.grown d rfl e;have o:=dP f (i*6+5) (by rw [dS];omega) (I b);refine⟨⟨k.cells _ _ _ _ a.box ar,a.bp,a.bq,λg e=>a.bg g (cV (a.sp.qEq k ar) e),a.ds.ky k ar,a.sp.ky k ar ar ar,ai a.sl k ar,ai a.wt k ar,λc m=>⟨(a.wm c m).1.ky k ar,(a.wm c m).2.ky k ar⟩,?_,ai a.ro k ar,ai a.rl k ar⟩,k,e,by simp [World.frozen?,d]⟩;show World.ownsRow _ B 130 6 x.rv _ _;rw [j,qE h.rg l,Gj];exact o
theorem Area.le {m:Nat} (A:Area h p n) (d:m<=n):Area h p m:=by
 cases A with
 | slot c s j e a f g i b=>exact .slot c s j e a f g i (Fx d b)
 | range r c e a b=>exact .range r c e a (Fx d b)
theorem Inv.ltA (i:Inv cf h) (A:Area h p n):p+n<=300000:=by
 cases A with
 | slot c s j b a d f g e =>
  have:=ca b a d;omega
 | range r b c a e =>
  have d:=i.rgs r b;unfold Rg9.base at c;unfold Rg9.ext at d;omega
theorem tv (B x cf h k) (p a:Nat) (W) (g:Sh B x cf h W) (b:l_ x) (hB:B<=W.heap.size) (hi:Inv cf h) (hf:Few k h) (hk:k<=300) (l:mE cf) (d6:1<=cf.large) (hp:p<18446744073709551616) (ha:a<18446744073709551616) :
  Calls prog 100 #[.pointer (some ⟨x.P,0,none⟩),.int .u64 p,.int .u64 a] W λe O=>∃ c:Sm,e=.returned (jP (a_ cf h p a).1 (.slice none 0 0))/\c.P=x.P/\c.Q=x.Q/\l_ c/\Sh B c cf (a_ cf h p a).2 O/\Bk B x.Q W O:=by
 obtain⟨P,c⟩:∃ P,a_ cf h p a=P:=⟨_,rfl⟩;rw [c];have c0:=H (c.symm.trans (hH cf h p a));have t:=H hB;have HD:=H l;have HI:=H hi;have a2:=H b;have c4:=H hf;have MA:=H (λV (hV:Sh B x cf h V) (c3:B<=V.heap.size)=>jT B x cf h k a V hV b c3 hi hf hk l ha);have bA:D W (W.alloc (.cells #[.int .i64 0,.int .u64 0,.int .i64 0,.slice none 0 0] 44)):=(Fu _ _).alloc (Fv _) _;have d:=H (g.below bA);have i:=H (g.bkB (Bk.refl _ _ _) hB bA);have f:=H (ao W (.cells #[.int .i64 0,.int .u64 0,.int .i64 0,.slice none 0 0] 44));have j:=g.ltQ;have e9:=hf.rg;have hrel:=hf.rel;clear g c hi l b bA;by_cases iF:p=0;·have HE:=H (c0.trans (GP iF));subst iF;go_enter func100,ntmps100;go_wp2_with fail;generalize W.alloc _=V at d i f ⊢;obtain⟨R,hR⟩:∃ R,R=W.heap.size:=⟨_,rfl⟩;rw [<-hR] at f ⊢;have HR:=H hR;have HQ:=H j;clear hR j;refine (MA.out _ d.out (Fx t.out i.bel.size)).mono ?_;rintro e Y ⟨l,rfl,a8,a3,a9,b,b1⟩;have X:=H (b1.at f.out (eB ar));have F:=H b;have B1:=H (i.trans b1);have a0:=H (IT a8 (IT a3 a9));clear b b1 a8 a3 a9 MA;go_wp2_with (refine eG X.out ?_);refine fM (aw X.out _) underlying44 ?_;rw [HE.out];exact⟨l,rfl,a0.1,a0.2.1,a0.2.2,F.off81 X.out _,B1.loc (aj _ R _) (by rw [HR.out];exact Fv _) HQ.out t.out⟩
 have HE:=H (c0.trans (GO iF));have e8:((p:Int)==0)=false:=bG;have o:=H (λV (hV:Sh B x cf h V)=>kZ B x cf h p V hV Z Z);have a4:=jt h p;have b:=bT h p;obtain⟨fd,c⟩:∃ fd,aB h p=fd:=⟨_,rfl⟩;obtain⟨⟨t1,t2,t3⟩,g⟩:∃ tr,fE h p=tr:=⟨_,rfl⟩;rw [c,g] at a4;rw [c] at b HE;rw [g] at o;have d7:=H c;have c5:=H a4;have c6:=H b;clear c g iF b;go_enter func100,ntmps100;go_wp2_with fail;generalize W.alloc _=V at d i f ⊢;obtain⟨R,hR⟩:∃ R,R=W.heap.size:=⟨_,rfl⟩;rw [<-hR] at f ⊢;have HR:=H hR;have HQ:=H j;clear hR j;refine (o.out _ d.out).mono ?_;rintro e Y ⟨rfl,b1⟩;have F:=H (d.below b1);have B1:=H (d.bkB i.out t.out b1);have X:=H (ae f.out b1);clear b1 d i f o;unfold C4;by_cases z:t3=0
 ·subst z;clear a4;go_upto_if 30 with fail
  go_cut [10] (λb w'=>∃ A:Nat,b=.int .i64 (A:Nat)/\Hid (P=iQ cf h p a A/\Area h p A)/\Hid (Sh B x cf h w')/\Hid (Bk B x.Q W w')/\Hid (w'.heap[R]?=some (.cells #[.int .i64 0,.int .u64 0,.int .i64 0,.slice none 0 0] 44)));case first =>
   have a4:=c5.out;cases a4 with
   | slot c s j K w a1 hA hl =>
    have L:=mj w;rw [a1] at L;dsimp only at L;obtain⟨hc,a5,d⟩:=L;have r:=aX hc;have g:=HI.on1 hc a5 d (by rw [hl];rfl);have o:=(HI.req c s j hc a5 d).1 hl;have q:=H (q_ B x cf h K c s j Y F.out w a1 HD.key0 HD.key1 (λi b=>by
     have:=HI.openS (k:=eV c+i) hc a5 d g Z;rw [H_];exact this))
    have b6:(0:Int)<=(K:Int):=Z;have AR:=H (show Area h p (h.rq c s j).toNat from .slot c s j hc a5 d hA hl Z);have f:=H (show P=if sound cf h c s j=false then (.no 5,h) else if a<=1016/\fD a=c then (⟨0,p,0,[]⟩,{ h with rq:=aE h.rq c s j a }) else iQ cf h p a (h.rq c s j).toNat from HE.out);obtain⟨rq,b⟩:∃ rq:Nat,h.rq c s j=(rq:Int):=⟨(h.rq c s j).toNat,Z⟩;have a7:=H b;have a6:=H a1;rw [b,F0] at AR f;clear r g o b a1 hA hl d HE;go_wp2_with fail;refine q.mono ?_;rintro e V2 ⟨rfl,d⟩;have S2:=H (F.below d);have B2:=H (F.bkB B1.out t.out d);have X2:=H (ae X.out d);clear d q F B1 X;cases d:sound cf h c s j;·have g:=H (f.trans (GP d));clear d;go_wp2_with (refine eG X2.out ?_);refine fM (aw X2.out _) underlying44 ?_;rw [g.out];exact⟨x,rfl,rfl,rfl,a2.out,S2.off81 X2.out _,B2.loc (aj _ R _) (by rw [HR.out];exact Fv _) HQ.out t.out⟩
    have G:=H (f.trans (GO (by rw [d];decide)));clear d f;have c7:V2.cell? ⟨x.P,7,none⟩=some (.slice (some ⟨x.G,0,none⟩) 1062 x.gc):=S2.cell 7 _ rfl;obtain⟨d0,_,_,_,_,d5⟩:=S2.slot w;have d:fJ h K=(rq:Int):=(by unfold fJ;rw [a6.out];exact a7.out);rw [d] at d5;rw [a6.out] at d0;have d0:V2.cell? ⟨x.G,K*6,none⟩=some (.int .i64 (c:Nat)):=d0;clear d;by_cases q:a<=1016
    ·have v:(a:Int)<=1016:=Z;have CO:=H (λV q=>Av a V q);by_cases o:fD a=c
     ·have g:=H (G.trans (GP ⟨q,o⟩));have Q:(((fD a:Nat):Int)==((c:Nat):Int))=true:=bG;clear G;go_wp2;refine rh (S:=λO=>O.cell? ⟨x.P,7,none⟩=some (.slice (some ⟨x.G,0,none⟩) 1062 x.gc)/\O.cell? ⟨x.G,K*6,none⟩=some (.int .i64 (c:Nat))) ?_;have d:=(show _/\_ from ⟨c7,d0⟩);refine pk 0 (.int .u64 (a:Nat)) d ?_;refine pz 1 (.bool true) d ?_;refine pk 2 (.bool true) d ?_;refine pk 3 (.int .u64 (a:Nat)) d ?_;refine pk 5 (.pointer (some ⟨x.P,0,none⟩)) d ?_;refine pk 6 (.pointer (some ⟨x.P,0,none⟩)) d ?_;refine pk 7 (.pointer (some ⟨x.P,7,none⟩)) d ?_;refine pz 8 (.slice (some ⟨x.G,0,none⟩) 1062 x.gc) d ?_;refine pk 9 (.int .i64 (K:Nat)) d ?_;refine pz 10 (.pointer (some ⟨x.G,K*6,none⟩)) d ?_;refine pk 11 (.pointer (some ⟨x.G,K*6,none⟩)) d ?_;refine pz 12 (.int .i64 (c:Nat)) d ?_;refine po 4 λK' w=>?_;go_simp;refine (CO.out _ q).mono ?_;rintro e u ⟨rfl,T⟩;have r:D V2 u:=⟨T.os,T.tape,T.output,T.size,T.block⟩;have h3:=IT (ad r c7) (ad r d0);refine w.out _ _ ⟨h3,?_⟩;clear d;have d:=h3;clear w K';refine pz 13 (.bool true) d ?_;refine pz 14 (.bool true) d ?_;refine bY ?_;have y:=H (S2.below r);have M:=H (S2.bkB B2.out t.out r);have N:=H (ae X2.out r);have b0:=d.1;have b4:=ad r d5;have f53:=y.slotF (K*6+5);have S4:=H (show Sh B x cf { h with rq:=aE h.rq c s j a } (u.setCell ⟨x.G,K*6+5,none⟩ (.int .i64 (a:Nat))) by
       have:=y.setRq w (a:Nat);rw [a6.out] at this;exact this)
      have B4:=H (y.bkG M.out t.out (K*6+5) (.int .i64 (a:Nat)));have X4:=H (show (u.setCell ⟨x.G,K*6+5,none⟩ (.int .i64 (a:Nat))).heap[R]?=some (.cells #[.int .i64 0,.int .u64 0,.int .i64 0,.slice none 0 0] 44) by
       obtain⟨c2,b5⟩:=di y.sl;exact (Ky.grown b5 rfl (au (al _ x.G) _ _):Ky (· = 126) _ _).cells _ _ _ _ N.out ar)
      clear d h3 r T c7 d0 d5 Q o S2 B2 X2 y M N CO;go_wp2_with (refine eG X4.out ?_);refine fM (aw X4.out _) underlying44 ?_;rw [g.out];exact⟨x,rfl,rfl,rfl,a2.out,S4.off81 X4.out _,B4.loc (aj _ R _) (by rw [HR.out];exact Fv _) HQ.out t.out⟩
     have g:=H (G.trans (GO (λe=>o e.2)));have Q:(((fD a:Nat):Int)==((c:Nat):Int))=false:=bG;clear G;go_wp2;refine rh (S:=λO=>O.cell? ⟨x.P,7,none⟩=some (.slice (some ⟨x.G,0,none⟩) 1062 x.gc)/\O.cell? ⟨x.G,K*6,none⟩=some (.int .i64 (c:Nat))) ?_;have d:=(show _/\_ from ⟨c7,d0⟩);refine pk 0 (.int .u64 (a:Nat)) d ?_;refine pz 1 (.bool true) d ?_;refine pk 2 (.bool true) d ?_;refine pk 3 (.int .u64 (a:Nat)) d ?_;refine pk 5 (.pointer (some ⟨x.P,0,none⟩)) d ?_;refine pk 6 (.pointer (some ⟨x.P,0,none⟩)) d ?_;refine pk 7 (.pointer (some ⟨x.P,7,none⟩)) d ?_;refine pz 8 (.slice (some ⟨x.G,0,none⟩) 1062 x.gc) d ?_;refine pk 9 (.int .i64 (K:Nat)) d ?_;refine pz 10 (.pointer (some ⟨x.G,K*6,none⟩)) d ?_;refine pk 11 (.pointer (some ⟨x.G,K*6,none⟩)) d ?_;refine pz 12 (.int .i64 (c:Nat)) d ?_;refine po 4 λK' w=>?_;go_simp;refine (CO.out _ q).mono ?_;rintro e u ⟨rfl,T⟩;have r:D V2 u:=⟨T.os,T.tape,T.output,T.size,T.block⟩;have h3:=IT (ad r c7) (ad r d0);refine w.out _ _ ⟨h3,?_⟩;clear d;have d:=h3;clear w K';refine pz 13 (.bool false) d ?_;refine pz 14 (.bool false) d ?_;refine bY ?_;have y:=H (S2.below r);have M:=H (S2.bkB B2.out t.out r);have N:=H (ae X2.out r);have b0:=d.1;have b4:=ad r d5;clear d h3 r T c7 d0 d5 Q o S2 B2 X2 CO;go_wp2
     go_meet;case rel=>exact ⟨rq,rfl,H ⟨g.out,AR.out⟩,y,M,N⟩
    have v:¬((a:Int)<=1016):=Z;have b0:decide ((a:Int)<=1016)=false:=GR v;have g:=H (G.trans (GO (λe=>q e.1)));clear G;go_wp2;refine rh (S:=λ_=>True) ?_;have d:True:=trivial;refine pk 0 (.int .u64 (a:Nat)) d ?_;refine pz 1 (.bool false) d ?_;refine pk 2 (.bool false) d ?_;refine ps 3 d ?_;refine ps 4 d ?_;refine ps 5 d ?_;refine ps 6 d ?_;refine ps 7 d ?_;refine ps 8 d ?_;refine ps 9 d ?_;refine ps 10 d ?_;refine ps 11 d ?_;refine ps 12 d ?_;refine ps 13 d ?_;refine pz 14 (.bool false) d ?_;refine bY ?_;have y:=H (S2.below (Fu _ _).drew);have M:=H (S2.bkB B2.out t.out (Fu _ _).drew);have N:=H (ae X2.out (Fu _ _).drew);clear S2 B2 X2;go_wp2;go_meet;case rel=>exact ⟨rq,rfl,H ⟨g.out,AR.out⟩,y,M,N⟩
   | range r i hr hb b6 =>
    have b8:=(Fz.1 hr).1;have a5:=FM hr;have a6:=HI.rgs r a5;obtain⟨ra,rc,a7⟩:=aK F.rg;obtain⟨G,rfl⟩:=cr (a7▸F.rg) Z;obtain⟨_,_,_,d3,_,d5⟩:=F.range a7 hr;have c9:Y.cell? ⟨x.P,9,none⟩=some (.slice (some ⟨G,0,none⟩) h.rg.length rc):=(by rw [<-a7];exact F.cell 9 _ rfl);obtain⟨rq,b⟩:∃ rq:Nat,r.rq=(rq:Int):=⟨r.rq.toNat,Z⟩;have b4:aR rq=r.pages:=by
     have:r.rq.toNat=rq:=by rw [b];simp
     rcases a6.2.2.2.2.2 with ⟨_,_,h3⟩|⟨h3,_⟩;·rw [<-this];exact h3
     omega
    have AR:=H (show Area h p rq from .range r a5 hb b6 (by rw [<-b4];exact gE rq));have f:=H (show P=if 1016<a/\aR a=r.pages then (⟨0,p,0,[]⟩,{ h with rg:=h.rg.map λx=>if x.base=r.base then { x with rq:=a } else x }) else iQ cf h p a r.rq.toNat from HE.out);rw [b,F0] at f;rw [b] at d5;have d1:r.pages<=96:=(by have:=a6;unfold Rg9.ext at this;omega);have d2:(i:Int)<(h.rg.length:Int):=Z;have d4:IntKind.u64.wrap ((r.pages:Nat):Int)=((r.pages:Nat):Int):=dX _ Z Z;have c8:aR a=r.pages->a<=98304:=λe=>by have:=gE a;omega
    have b5:=H a7;have c1:=H hr;have PG:=H (λV=>qH a V ha);clear a6 a7 hr b4 a5 hb b6 b HE;by_cases q:1016<a
    ·have v:(1016:Int)<(a:Int):=Z;by_cases o:aR a=r.pages
     ·have g:=H (f.trans (GP ⟨q,o⟩));have Q:(((aR a:Nat):Int)==((r.pages:Nat):Int))=true:=bG;have a6:=c8 o;have a5:=H (HI.mapSet c1.out (λx=>{ x with rq:=(a:Int) }));clear f;go_wp2;refine rh (S:=λO=>O.cell? ⟨x.P,9,none⟩=some (.slice (some ⟨G,0,none⟩) h.rg.length rc)/\O.cell? ⟨G,i*6+3,none⟩=some (.int .i64 (r.pages:Nat))) ?_;have d:=(show _/\_ from ⟨c9,d3⟩);refine pk 0 (.int .u64 (a:Nat)) d ?_;refine pz 1 (.bool true) d ?_;refine pk 2 (.bool true) d ?_;refine pk 3 (.int .u64 (a:Nat)) d ?_;refine pk 5 (.pointer (some ⟨x.P,0,none⟩)) d ?_;refine pk 6 (.pointer (some ⟨x.P,0,none⟩)) d ?_;refine pk 7 (.pointer (some ⟨x.P,9,none⟩)) d ?_;refine pz 8 (.slice (some ⟨G,0,none⟩) h.rg.length rc) d ?_;refine pk 9 (.int .i64 (i:Nat)) d ?_;refine pz 10 (.pointer (some ⟨G,i*6,none⟩)) d ?_;refine pk 11 (.pointer (some ⟨G,i*6+3,none⟩)) d ?_;refine pz 12 (.int .i64 (r.pages:Nat)) d ?_;refine pz 13 (.int .u64 (r.pages:Nat)) d ?_;refine po 4 λK' w=>?_;go_simp;refine (PG.out _).mono ?_;rintro e u ⟨rfl,rfl⟩;refine w.out _ _ ⟨d,?_⟩;clear w K';refine pz 14 (.bool true) d ?_;refine pz 15 (.bool true) d ?_;refine bY ?_;have y:=H (F.below (Fu _ _).drew);have M:=H (F.bkB B1.out t.out (Fu _ _).drew);have N:=H (ae X.out (Fu _ _).drew);obtain⟨S4,K4,G4,f5⟩:=y.setRangeRq b5.out c1.out (a:Nat);have B4:=H (Eg y.out b5.out M.out t.out G4);have X4:=H (K4.cells _ _ _ _ N.out ar);have S4:=H (show Sh B x cf { h with rg:=h.rg.map λx=>if x.base=r.base then { x with rq:=(a:Int) } else x } _ by rw [a5.out];exact S4);clear d F B1 X Q o PG K4 G4 y M N;go_wp2_with (refine eG X4.out ?_);refine fM (aw X4.out _) underlying44 ?_;rw [g.out];exact⟨x,rfl,rfl,rfl,a2.out,S4.off81 X4.out _,B4.loc (aj _ R _) (by rw [HR.out];exact Fv _) HQ.out t.out⟩
     have g:=H (f.trans (GO (λe=>o e.2)));have Q:(((aR a:Nat):Int)==((r.pages:Nat):Int))=false:=bG;clear f;go_wp2;refine rh (S:=λO=>O.cell? ⟨x.P,9,none⟩=some (.slice (some ⟨G,0,none⟩) h.rg.length rc)/\O.cell? ⟨G,i*6+3,none⟩=some (.int .i64 (r.pages:Nat))) ?_;have d:=(show _/\_ from ⟨c9,d3⟩);refine pk 0 (.int .u64 (a:Nat)) d ?_;refine pz 1 (.bool true) d ?_;refine pk 2 (.bool true) d ?_;refine pk 3 (.int .u64 (a:Nat)) d ?_;refine pk 5 (.pointer (some ⟨x.P,0,none⟩)) d ?_;refine pk 6 (.pointer (some ⟨x.P,0,none⟩)) d ?_;refine pk 7 (.pointer (some ⟨x.P,9,none⟩)) d ?_;refine pz 8 (.slice (some ⟨G,0,none⟩) h.rg.length rc) d ?_;refine pk 9 (.int .i64 (i:Nat)) d ?_;refine pz 10 (.pointer (some ⟨G,i*6,none⟩)) d ?_;refine pk 11 (.pointer (some ⟨G,i*6+3,none⟩)) d ?_;refine pz 12 (.int .i64 (r.pages:Nat)) d ?_;refine pz 13 (.int .u64 (r.pages:Nat)) d ?_;refine po 4 λK' w=>?_;go_simp;refine (PG.out _).mono ?_;rintro e u ⟨rfl,rfl⟩;refine w.out _ _ ⟨d,?_⟩;clear w K';refine pz 14 (.bool false) d ?_;refine pz 15 (.bool false) d ?_;refine bY ?_;have y:=H (F.below (Fu _ _).drew);have M:=H (F.bkB B1.out t.out (Fu _ _).drew);have N:=H (ae X.out (Fu _ _).drew);clear d F B1 X Q o PG;go_wp2
     go_meet;case rel=>exact ⟨rq,rfl,H ⟨g.out,AR.out⟩,y,M,N⟩
    have v:¬((1016:Int)<(a:Int)):=Z;have b0:decide ((1016:Int)<(a:Int))=false:=GR v;have g:=H (f.trans (GO (λe=>q e.1)));clear f;go_wp2;refine rh (S:=λ_=>True) ?_;have d:True:=trivial;refine pk 0 (.int .u64 (a:Nat)) d ?_;refine pz 1 (.bool false) d ?_;refine pk 2 (.bool false) d ?_;refine ps 3 d ?_;refine ps 4 d ?_;refine ps 5 d ?_;refine ps 6 d ?_;refine ps 7 d ?_;refine ps 8 d ?_;refine ps 9 d ?_;refine ps 10 d ?_;refine ps 11 d ?_;refine ps 12 d ?_;refine ps 13 d ?_;refine ps 14 d ?_;refine pz 15 (.bool false) d ?_;refine bY ?_;have y:=H (F.below (Fu _ _).drew);have M:=H (F.bkB B1.out t.out (Fu _ _).drew);have N:=H (ae X.out (Fu _ _).drew);clear F B1 X PG;go_wp2;go_meet;case rel=>exact ⟨rq,rfl,H ⟨g.out,AR.out⟩,y,M,N⟩
   | no c1 hc=>rcases hc with e|e <;> cases e
  case rest =>
   obtain⟨A,rfl,G,S2,B2,X2⟩:=hcut;clear F B1 X;obtain⟨a5,AR⟩:=G.out;have AR:=H AR;have b:=HI.malloc c4.out a;have o:=λq f (e:av cf h a=(some q,f))=>HI.gave e
   unfold iQ at a5;obtain⟨mr,v⟩:∃ mr,av cf h a=mr:=⟨_,rfl⟩;rw [v] at a5 b;simp only [v] at MA o;have a5:=H a5;have d8:=H b;have d9:=H o;clear G v b o HE;go_wp2_with fail;refine (MA.out _ S2.out (Fx t.out B2.bel.size)).mono ?_;rintro e u ⟨l,rfl,a8,a3,a9,b,T⟩;have a0:=H a8;have a6:=H a3;have c8:=H a9;have N:=H (T.at X2.out (eB ar));have M:=H (show Bk B l.Q W u from a3▸B2.trans T);have y:=H b;clear b T a8 a3 a9 S2 B2 X2 MA;obtain⟨o,f⟩:=mr;cases o with
   | none =>
    have g:=H (show P=(.no 1,f) from a5.out);unfold mQ;rw [Ag];have bA:D u (u.alloc (.cells #[.int .i64 1,.int .u64 0,.int .i64 0,.slice none 0 0] 44)):=(Fu _ _).alloc (Fv _) _;have S4:=H (y.below bA);have B4:=H (y.bkB M.out t.out bA);have X4:=H (ae N.out bA);have Z4:=ao u (.cells #[.int .i64 1,.int .u64 0,.int .i64 0,.slice none 0 0] 44);have z0:(u.alloc (.cells #[.int .i64 1,.int .u64 0,.int .i64 0,.slice none 0 0] 44)).cell? ⟨u.heap.size,0,none⟩=some (.int .i64 1):=(by simp only [World.cell?,Z4];rfl);have z1:(u.alloc (.cells #[.int .i64 1,.int .u64 0,.int .i64 0,.slice none 0 0] 44)).cell? ⟨u.heap.size,1,none⟩=some (.int .u64 0):=(by simp only [World.cell?,Z4];rfl);have z2:(u.alloc (.cells #[.int .i64 1,.int .u64 0,.int .i64 0,.slice none 0 0] 44)).cell? ⟨u.heap.size,2,none⟩=some (.int .i64 0):=(by simp only [World.cell?,Z4];rfl);have z3:(u.alloc (.cells #[.int .i64 1,.int .u64 0,.int .i64 0,.slice none 0 0] 44)).cell? ⟨u.heap.size,3,none⟩=some (.slice none 0 0):=(by simp only [World.cell?,Z4];rfl);clear bA Z4 y M N;go_wp2_with (refine eG X4.out ?_);refine fM (aw X4.out _) underlying44 ?_;rw [g.out];exact⟨l,rfl,a0.out,a6.out,c8.out,S4.off81 X4.out _,(a6.out▸B4.out:Bk B x.Q W _).loc (aj _ R _) (by rw [HR.out];exact Fv _) HQ.out t.out⟩
   | some q =>
    have GV:=H (d9.out q f rfl);obtain⟨n,hn⟩:∃ n,min A a=n:=⟨_,rfl⟩;have e0:n<=A:=Z;have e1:n<=a:=Z;have g0:n=A\/n=a:=Z;obtain⟨ak,v⟩:=GV.keeps AR.out;have ap:=ak.le e0;have aq:=GV.area.le e1;have e2:=H (show ∀ i,i<n->isOpen (f.m ((p+i)/1024))=true from λi hi=>GV.inv.openA ap hi);have e3:=H (show ∀ i,i<n->isOpen (f.m ((q+i)/1024))=true from λi hi=>GV.inv.openA aq hi);have e4:=H (GV.inv.apartA ap aq v);have g1:=GV.inv.ltA ap;have g2:=GV.inv.ltA aq;have d1:=H (show P=(⟨0,q,0,[]⟩,db cf { f with m:=ay f.m q (aH f.m p n) n } (aB { f with m:=ay f.m q (aH f.m p n) n } p)) by
     have:=a5.out;simp only [hn] at this;exact this)
    have I2:=H (show Inv cf { f with m:=ay f.m q (aH f.m p n) n } from GV.inv.bytes _ _ _);obtain⟨_,m2,m3,m4,m5⟩:=d8.out;dsimp only at m2 m3 m4 m5;have F2:=H (show Few (k+1) { f with m:=ay f.m q (aH f.m p n) n } from ⟨m2,iM,iM,by have:=c4.used;dsimp only;omega⟩);have b:=jt { f with m:=ay f.m q (aH f.m p n) n } p;have a7:=H (λV (hV:Sh B l cf { f with m:=ay f.m q (aH f.m p n) n } V)=>kZ B l cf { f with m:=ay f.m q (aH f.m p n) n } p V hV iM iM);obtain⟨⟨u1,u2,u3⟩,hu⟩:∃ tr,fE { f with m:=ay f.m q (aH f.m p n) n } p=tr:=⟨_,rfl⟩;rw [hu] at b a7;have G:u3=0:=by
     have b0:(∃ c s j,aB { f with m:=ay f.m q (aH f.m p n) n } p=.slot c s j)\/∃ r,aB { f with m:=ay f.m q (aH f.m p n) n } p=.range r:=by
      have sn:=c6.out;have fe:=d7.out;cases c5.out with
      | slot c s j K w a1 hA hl =>
       have L:=mj w;rw [a1] at L;dsimp only at L;exact .inl ⟨c,s,j,gW fe (GV.live c s j L.1 L.2.1 L.2.2 hl).1⟩
      | range r i hr hb b6 =>
       refine .inr ⟨r,fV fe ?_⟩;rcases GV.rg with e|⟨r',e,_⟩;·exact .inl e
       exact .inr ⟨r',e⟩
      | no c1 hc=>rcases hc with e|e <;> cases e
     rcases b0 with ⟨c,s,j,e⟩|⟨r,e⟩ <;> (rw [e] at b;cases b;rfl)
    have FE:=H (λV (hV:Sh B l cf { f with m:=ay f.m q (aH f.m p n) n } V) (c3:B<=V.heap.size)=>uq B l cf { f with m:=ay f.m q (aH f.m p n) n } (k+1) p _ u1 u2 u3 V hV c8.out c3 I2.out F2.out Z HD.out d6 b G);rw [a0.out] at a7 FE;unfold mQ;rw [Ae];have bA:D u (u.alloc (.cells #[.int .i64 0,.int .u64 (q:Nat),.int .i64 0,.slice none 0 0] 44)):=(Fu _ _).alloc (Fv _) _;have S4:=H (y.below bA);have B4:=H (y.bkB M.out t.out bA);have X4:=H (ae N.out bA);have Z4:=H (ao u (.cells #[.int .i64 0,.int .u64 (q:Nat),.int .i64 0,.slice none 0 0] 44));have z0:(u.alloc (.cells #[.int .i64 0,.int .u64 (q:Nat),.int .i64 0,.slice none 0 0] 44)).cell? ⟨u.heap.size,0,none⟩=some (.int .i64 0):=(by simp only [World.cell?,Z4.out];rfl);clear bA y M N ak ap aq hn b hu G m2 m3 m4 m5 v;go_wp2;generalize u.alloc _=V4 at S4 B4 X4 Z4 ⊢;generalize u.heap.size=b at Z4 ⊢;clear z0;have SS:=H (show ∀ (V:World) {o:Hs},Sh B l cf o V->V.heap[b]?=some (.cells #[.int .i64 0,.int .u64 (q:Nat),.int .i64 0,.slice none 0 0] 44)->V.cell? ⟨x.P,6,none⟩=some (.pointer (some ⟨l.T,0,none⟩))/\V.cell? ⟨b,1,none⟩=some (.int .u64 (q:Nat)) from λV o hV o=>⟨by rw [<-a0.out];exact hV.cell 6 _ rfl,by simp [World.cell?,o]⟩);go_loopw [12] (λv o=>∃ i:Nat,i<=n/\v=.int .i64 i/\Hid (Sh B l cf { f with m:=ay f.m q (aH f.m p n) i } o)/\Hid (Bk B l.Q W o)/\Hid (o.heap[R]?=some (.cells #[.int .i64 0,.int .u64 0,.int .i64 0,.slice none 0 0] 44))/\Hid (o.heap[b]?=some (.cells #[.int .i64 0,.int .u64 (q:Nat),.int .i64 0,.slice none 0 0] 44))) (λv _=>n-(intOf v).toNat);(case atStart=>exact ⟨0,FH _,rfl,S4,B4,X4,Z4⟩);case round =>
     clear S4 B4 X4 Z4;obtain⟨i,L,rfl,G,B6,X6,Z6⟩:=hrel;by_cases b8:i<n
     ·have d2:(i:Int)<(A:Int):=Z;have e6:(i:Int)<(a:Int):=Z;have b4:=e2.out i b8;have b5:=e3.out i b8;have d4:bO (ay f.m q (aH f.m p n) i) (p+i)=bO f.m (p+i):=h_ _ _ _ _ _ (by have:=e4.out;omega);obtain⟨bt,b0⟩:∃ bt,bO f.m (p+i)=bt:=⟨_,rfl⟩;have e7:=H (show ay f.m q (aH f.m p n) (i+1)=dZ (ay f.m q (aH f.m p n) i) (q+i) bt by
       show dZ _ _ _=_;have e:((aH f.m p n)[i]?).getD 0=bt:=(by rw [<-b0];simp [aH,b8]);rw [e])
      have GE:=H (show ∀ Y,Sx l.T l.Q 283 (cf.bud:Nat) (ay f.m q (aH f.m p n) i) Y->Calls prog 150 #[.pointer (some ⟨l.T,0,none⟩),.int .u64 (IntKind.u64.wrap ((p:Int)+IntKind.u64.wrap (i:Int)))] Y λe w'=>e=.returned (.int .u8 bt)/\w'=Y from λY hV=>by
       rw [dX (i:Int) Z Z,dX _ Z Z,<-b0,<-d4];exact kT l.T l.Q 283 (cf.bud:Nat) _ (p+i) Y hV Z Z (by rw [eO];exact b4))
      have PU:=H (show ∀ Y,Sx l.T l.Q 283 (cf.bud:Nat) (ay f.m q (aH f.m p n) i) Y->Calls prog 149 #[.pointer (some ⟨l.T,0,none⟩),.int .u64 (IntKind.u64.wrap ((q:Int)+IntKind.u64.wrap (i:Int))),.int .u8 bt] Y λe w'=>e=.returned (.tuple #[])/\Sx l.T l.Q 283 (cf.bud:Nat) (dZ (ay f.m q (aH f.m p n) i) (q+i) bt) w'/\Sf l.Q Y w' from λY hV=>by
       rw [dX (i:Int) Z Z,dX _ Z Z];exact uh l.T l.Q (cf.bud:Nat) _ (q+i) bt Y hV Z (by rw [eO];exact b5))
      clear b4 b5 d4 b0;go_wp2;refine rh (S:=λO=>O.cell? ⟨x.P,6,none⟩=some (.pointer (some ⟨l.T,0,none⟩))/\O.cell? ⟨b,1,none⟩=some (.int .u64 (q:Nat))) ?_;have d:=SS.out _ (G.below (Fu _ _).drew) Z6.out;refine pk 0 (.pointer (some ⟨x.P,0,none⟩)) d ?_;refine pk 1 (.pointer (some ⟨x.P,0,none⟩)) d ?_;refine pk 2 (.pointer (some ⟨x.P,6,none⟩)) d ?_;refine pz 3 (.pointer (some ⟨l.T,0,none⟩)) d ?_;refine pk 4 (.pointer (some ⟨b,1,none⟩)) d ?_;refine pz 5 (.int .u64 (q:Nat)) d ?_;refine pk 6 (.int .i64 (i:Nat)) d ?_;refine pz 7 (.int .u64 (IntKind.u64.wrap (i:Int))) d ?_;refine pz 8 (.int .u64 (IntKind.u64.wrap ((q:Int)+IntKind.u64.wrap (i:Int)))) d ?_;refine pk 9 (.pointer (some ⟨x.P,0,none⟩)) d ?_;refine pk 10 (.pointer (some ⟨x.P,0,none⟩)) d ?_;refine pk 11 (.pointer (some ⟨x.P,6,none⟩)) d ?_;refine pz 12 (.pointer (some ⟨l.T,0,none⟩)) d ?_;refine pk 13 (.int .u64 (p:Nat)) d ?_;refine pk 14 (.int .i64 (i:Nat)) d ?_;refine pz 15 (.int .u64 (IntKind.u64.wrap (i:Int))) d ?_;refine pz 16 (.int .u64 (IntKind.u64.wrap ((p:Int)+IntKind.u64.wrap (i:Int)))) d ?_;refine po 17 λK' w=>?_;go_simp;refine (GE.out _ (G.below (Fu _ _).drew).sp).mono ?_;rintro e V7 ⟨rfl,rfl⟩;refine w.out _ _ ⟨d,?_⟩;clear w K';refine po 18 λK' w=>?_
      go_simp;refine (PU.out _ (G.below (Fu _ _).drew).sp).mono ?_;rintro e V8 ⟨rfl,x8,f8⟩;have S8:=H (show Sh B l cf { f with m:=ay f.m q (aH f.m p n) (i+1) } V8 by have:=(G.below (Fu _ _).drew).space (Fx t.out B6.bel.size) _ x8 f8;rw [e7.out];exact this);have B8:=H ((G.below (Fu _ _).drew).bkS (G.bkB B6.out t.out (Fu _ _).drew) t.out f8);have X8:=H ((f8.ky (G.below (Fu _ _).drew).sp).cells _ _ _ _ X6.out ar);have Z8:=H ((f8.ky (G.below (Fu _ _).drew).sp).cells _ _ _ _ Z6.out ar);refine w.out _ _ ⟨SS.out _ S8.out Z8.out,?_⟩;clear d;clear w K';refine bY ?_;clear x8 f8;go_wp2;go_roundw;(case rel=>exact ⟨i+1,Z,aY,S8,B8,X8,Z8⟩);case measure=>(simp [intOf];try omega)
     obtain rfl:i=n:=Z;by_cases d4:i<A
     ·have d2:(i:Int)<(A:Int):=Z;have e6:¬((i:Int)<(a:Int)):=Z;go_wp2_with fail;refine (a7.out _ G.out).mono ?_;rintro e V7 ⟨rfl,b7⟩;have S7:=H (G.below b7);have B7:=H (G.bkB B6.out t.out b7);have X7:=H (ae X6.out b7);have Z7:=H (ae Z6.out b7);clear b7 G B6 X6 Z6 a7;unfold C4;go_wp2_with fail;refine (FE.out _ S7.out (Fx t.out B7.bel.size)).mono ?_;rintro e V8 ⟨rfl,x9,b0,b4,b5,s9,b9⟩;have S8:=H s9;have B8:=H (show Bk B l.Q W V8 from B7.trans b9);have X8:=H (b9.at X7.out (eB ar));have Z8:=b9.at Z7.out (eB ar);have z0:V8.cell? ⟨b,0,none⟩=some (.int .i64 0):=(by simp [World.cell?,Z8]);have z1:V8.cell? ⟨b,1,none⟩=some (.int .u64 (q:Nat)):=(by simp [World.cell?,Z8]);have z2:V8.cell? ⟨b,2,none⟩=some (.int .i64 0):=(by simp [World.cell?,Z8]);have z3:V8.cell? ⟨b,3,none⟩=some (.slice none 0 0):=(by simp [World.cell?,Z8]);have H9:=H (IT b0 (IT b4 b5));clear s9 b9 b0 b4 b5 S7 B7 X7 Z7 FE Z8;go_wp2_with (refine eG X8.out ?_);refine fM (aw X8.out _) underlying44 ?_;rw [d1.out];exact⟨x9,rfl,H9.1,H9.2.1.trans a6.out,H9.2.2,S8.off81 X8.out _,(a6.out▸B8.out:Bk B x.Q W V8).loc (aj _ R _) (by rw [HR.out];exact Fv _) HQ.out t.out⟩
     have d2:¬((i:Int)<(A:Int)):=Z;go_wp2_with fail;refine (a7.out _ G.out).mono ?_;rintro e V7 ⟨rfl,b7⟩;have S7:=H (G.below b7);have B7:=H (G.bkB B6.out t.out b7);have X7:=H (ae X6.out b7);have Z7:=H (ae Z6.out b7);clear b7 G B6 X6 Z6 a7;unfold C4;go_wp2_with fail;refine (FE.out _ S7.out (Fx t.out B7.bel.size)).mono ?_;rintro e V8 ⟨rfl,x9,b0,b4,b5,s9,b9⟩;have S8:=H s9;have B8:=H (show Bk B l.Q W V8 from B7.trans b9);have X8:=H (b9.at X7.out (eB ar));have Z8:=b9.at Z7.out (eB ar);have z0:V8.cell? ⟨b,0,none⟩=some (.int .i64 0):=(by simp [World.cell?,Z8]);have z1:V8.cell? ⟨b,1,none⟩=some (.int .u64 (q:Nat)):=(by simp [World.cell?,Z8]);have z2:V8.cell? ⟨b,2,none⟩=some (.int .i64 0):=(by simp [World.cell?,Z8]);have z3:V8.cell? ⟨b,3,none⟩=some (.slice none 0 0):=(by simp [World.cell?,Z8]);have H9:=H (IT b0 (IT b4 b5));clear s9 b9 b0 b4 b5 S7 B7 X7 Z7 FE Z8;go_wp2_with (refine eG X8.out ?_);refine fM (aw X8.out _) underlying44 ?_;rw [d1.out];exact⟨x9,rfl,H9.1,H9.2.1.trans a6.out,H9.2.2,S8.off81 X8.out _,(a6.out▸B8.out:Bk B x.Q W V8).loc (aj _ R _) (by rw [HR.out];exact Fv _) HQ.out t.out⟩
 cases a4 with
 | slot c s j K w a1 b hl=>exact absurd rfl z
 | range r i hr hb b6=>exact absurd rfl z
 | no c1 hc =>
  have Q:((t3:Int) != 0)=true:=by simpa using z
  have g:=H (show P=(.no t3,h) from HE.out);clear z;go_wp2_with (refine eG X.out ?_);refine fM (aw X.out _) underlying44 ?_;rw [g.out];exact⟨x,rfl,rfl,rfl,a2.out,F.off81 X.out _,B1.loc (aj _ R _) (by rw [HR.out];exact Fv _) HQ.out t.out⟩
end
section
open Go.RowKit Go.Maps
structure vJ (cf:Cf) (h:Hs) (k:Nat):Prop where
 inv:Inv cf h
 byt:Byt h.m
 few:Few k h
 kk:k<=302
 dok:mE cf
 l1:1<=cf.large
theorem kW (B y d cf h k an) (a:Nat) (W) (F:Hp B y d cf h W) (G:Gd d h an) (o:vJ cf h k) (ha:a<18446744073709551616) :
  Calls prog 40 #[J y.P 0,U a] W (AS B y cf an d.lg W (av cf h a)):=by
 have K:h.used+2000<=1000000:=by
  have b:=o.few.used;have c:=o.kk;have:2100*k<=2100*302:=IJ _ c;omega
 by_cases Q:a<=1016
 ·have t:=H (rT B y d cf h an a W F G o.inv o.byt Q K o.dok);generalize av cf h a=u at *;clear F G o K;go_enter func40,ntmps40;go_wp2_with fail;refine (t).mono ?_;rintro e V ⟨L,v⟩;have n:=H v;clear t v;cases L with
  | no b _ M=>exact ⟨rfl,.no b V M,n⟩
  | slot c s j b _ N p w f x =>
   have q:=H (TaR.slot (B:=B) (y:=y) (cf:=cf) (an:=an) (lg:=d.lg) c s j b V N p w f x);clear x f w;go_wp2;go_ret;exact⟨q,n⟩
  | range r g O b _ z f A i l m =>
   have q:=H (TaR.range (B:=B) (y:=y) (cf:=cf) (an:=an) (lg:=d.lg) r g O b V z f A i l m);clear i l z f A m;go_wp2;go_ret;exact⟨q,n⟩
 have P:1016<a:=Z;have t:=H (oU B y d cf h an a W F G o.inv P ha K o.dok (by have:=o.few.rg;have:=o.kk;omega) (by have:=o.few.rel;have:=o.kk;omega));generalize av cf h a=u at *;clear F G o K Q;go_enter func40,ntmps40;go_wp2_with fail;refine (t).mono ?_;rintro e V ⟨L,v⟩;have n:=H v;clear t v;cases L with
 | no b _ M=>exact ⟨rfl,.no b V M,n⟩
 | slot c s j b _ N p w f x =>
  have q:=H (TaR.slot (B:=B) (y:=y) (cf:=cf) (an:=an) (lg:=d.lg) c s j b V N p w f x);clear x f w;go_wp2;go_ret;exact⟨q,n⟩
 | range r g O b _ z f A i l m =>
  have q:=H (TaR.range (B:=B) (y:=y) (cf:=cf) (an:=an) (lg:=d.lg) r g O b V z f A i l m);clear i l z f A m;go_wp2;go_ret;exact⟨q,n⟩
def mB (cf:Cf) (h:Hs) (a b:Nat):Option Nat×Hs:=if 18446744073709551616<=a*b then (none,h) else av cf h (a*b)
theorem lD (B y d cf h k an) (a b:Nat) (W) (g:Hp B y d cf h W) (j:Gd d h an) (o:vJ cf h k) (ha:a<18446744073709551616) (q:b<18446744073709551616) :
  Calls prog 41 #[J y.P 0,U a,U b] W (AS B y cf an d.lg W (mB cf h a b)):=by
 unfold mB;by_cases c:18446744073709551616<=a*b
 ·rw [GP c];have i:=H (product.im_Product_no a b ha q c W);have f:=H (show AS B y cf an d.lg W (none,h) (.panicked (ip 1)) W from ⟨.no h W (Hg.tk ⟨d,g,j⟩),Bi.refl _ _⟩);clear g j o c;go_enter func41,ntmps41;go_wp2_with fail;refine (i).mono ?_;rintro e V ⟨rfl,rfl⟩;clear i;go_wp2
  first|exact⟨rfl,f⟩|exact f.out
 rw [GO c];have i:=H (product.im_Product_yes a b ha q Z W);have l:=H (kW B y d cf h k an (a*b) W g j o Z);generalize av cf h (a*b)=t at *;generalize a*b=x at *;clear g j o c;go_enter func41,ntmps41;go_wp2_with fail;refine (i).mono ?_;rintro e V ⟨rfl,rfl⟩;clear i;go_wp2_with fail;refine (l).mono ?_;rintro e o ⟨v,c⟩;have p:=H c;clear l c;cases v with
 | no l _ c=>exact ⟨rfl,.no l o c,p⟩
 | slot c s j l _ u g n m r =>
  have f:=H (TaR.slot (B:=B) (y:=y) (cf:=cf) (an:=an) (lg:=d.lg) c s j l o u g n m r);clear r m n;go_wp2;go_ret;exact⟨f,p⟩
 | range r g w l _ s m u c j n =>
  have f:=H (TaR.range (B:=B) (y:=y) (cf:=cf) (an:=an) (lg:=d.lg) r g w l o s m u c j n);clear c j s m u n;go_wp2;go_ret;exact⟨f,p⟩
/-! a store in pieces -/
theorem gQ (m a) (b c:List Int):∀ n,(∀ i,i<n->b[i]?.getD 0=c[i]?.getD 0)->ay m a b n=ay m a c n
 | 0,_=>rfl
 | n+1,h=>by
  show dZ (ay m a b n) (a+n) _=dZ (ay m a c n) (a+n) _
  rw [gQ m a b c n (λi b=>h i Z),h n Z]
theorem fg (m a) (n i:Nat) (b:i<n):(aH m a n)[i]?.getD 0=bO m (a+i):=by
 unfold aH;simp [Gv,List.getElem?_range b]
theorem js (m p q k):∀ l,ay (ay m q (aH m p k) k) (q+k) (aH m (p+k) l) l=ay m q (aH m p (k+l)) (k+l)
 | 0=>rfl
 | l+1=>by
  have b:ay (ay m q (aH m p k) k) (q+k) (aH m (p+k) (l+1)) l=ay m q (aH m p (k+(l+1))) (k+l):=by
   rw [gQ _ _ _ (aH m (p+k) l) l (λi a=>by rw [fg _ _ _ _ Z,fg _ _ _ _ a]),js m p q k l];exact gQ _ _ _ _ _ (λi a=>by rw [fg _ _ _ _ a,fg _ _ _ _ Z])
  show dZ (ay (ay m q (aH m p k) k) (q+k) (aH m (p+k) (l+1)) l) (q+k+l) ((aH m (p+k) (l+1))[l]?.getD 0)=dZ (ay m q (aH m p (k+(l+1))) (k+l)) (q+(k+l)) ((aH m p (k+(l+1)))[k+l]?.getD 0);rw [b,fg _ _ _ _ Z,fg _ _ _ _ Z,H_ q k l,H_ p k l]
theorem qC (m) (p q:Nat) (ys) (k a l:Nat) (h:a+l<=q\/q+k<=a):aH (ay m q ys k) a l=aH m a l:=by
 unfold aH;apply List.map_congr_left;intro i b;have c:i<l:=by simpa using b
 exact h_ m q ys (a+i) k Z
theorem uN (m) (p q k l:Nat) (h:p+(k+l)<=q\/q+(k+l)<=p):ay (aZ m p q k) (q+k) (aH (aZ m p q k) (p+k) l) l=aZ m p q (k+l):=by
 unfold aZ;rw [qC m p q _ k (p+k) l Z];exact js m p q k l
theorem Hp.daOwn {B} {b:Nat} {y d U} (p:Hp B y d cf h U) {v:Value} {n:List Int} (o:U.ownsRow b 5 1 v n.length (Ns .u8 n)):∃ a c,v=.slice a n.length c/\n.length<=c/\Da y.S y.M d.f U a n.length n:=by
 obtain⟨a,c,e⟩:=aK o;subst e;refine⟨a,c,rfl,?_,rfl,λi t=>?_⟩
 ·rcases o.2 with ⟨e,r⟩|⟨g,f,k,e,j,s,l,_⟩;·omega
  simp at e;omega
 obtain⟨g,u⟩:=cr o Z;subst u;obtain⟨x,j⟩:=di o;refine⟨⟨g,0,none⟩,rfl,?_,?_,?_,?_,?_⟩
 ·rw [Addr.add_mid,Gb];obtain⟨a,c,e,f⟩:=te o;obtain⟨k,m,r⟩:=f i t;simp at e;rw [<-e.1] at m;cases m;exact r
 ·rw [Addr.add_mid];exact ag j
 ·rw [Addr.add_mid];intro e;have q:g=y.S:=e;rw [q,p.sp.box] at j;simp at j
 ·rw [Addr.add_mid];intro e;have q:g=y.M:=e;obtain⟨f,⟨k,l,s,_⟩,_⟩:=p.sp.map;rw [q,s] at j;cases j
 rw [Addr.add_mid];intro k f;rcases p.pg.at' k with ⟨m,_⟩|⟨z,l,A,m,_,_,w⟩;·rw [f] at m;cases m
 rw [f] at m;cases m;rw [w] at j;simp at j
theorem Inv.openN9 (i:Inv cf h) (A:Area h p n) {k l:Nat} (c:k+l<=n) (a:1<=l) (b:l<=4096):ci h.m (p+k) (l:Int)=0:=by
 have:=i.ltA A;exact jI a b Z (λq a=>by rw [H_];exact i.openA A Z)
def E7 (B:Nat) (y:Ly) (d:Dy) (cf:Cf) (h:Hs) (W:World) (e:Ending) (W':World):Prop:=e=.returned (.tuple #[])/\(∃ i,Hp B y { d with f:=i } cf h W')/\Bi B W W'
theorem Area.bytes (A:Area h p n) (m:Nat->Option (Bool×List Int)):Area { h with m:=m } p n:=by
 cases A with
 | slot c s j d a e f g b=>exact .slot c s j d a e f g b
 | range r c d a b=>exact .range r c d a b
theorem zL (B y d cf h p q n W) (O:Hp B y d cf h W) (i:Inv cf h) (L:Area h p n) (M:Area h q n) (z:p≠q) :
  Calls prog 75 #[J y.P 0,U p,U q,U n] W (E7 B y d cf { h with m:=aZ h.m p q n } W):=by
 have P:=i.apartA L M z;have lp:=i.ltA L;have lq:=i.ltA M;have BW:=H O.bW;have g:=H (show ∀ (k l:Nat) (f:Nat->Option Nat) (b:World),k+l<=n->1<=l->l<=4096->Hp B y { d with f:=f } cf { h with m:=aZ h.m p q k } b ->
   Calls prog 46 #[J y.P 0,U (p+k:Nat),U l] b λe x=>∃ A a c,e=.returned (.slice a l c)/\Hp B y { d with f:=A } cf { h with m:=aZ h.m p q k } x/\Bi B b x/\l<=c/\Calls prog 47 #[J y.P 0,U (q+k:Nat),.slice a l c] x (E7 B y d cf { h with m:=aZ h.m p q (k+l) } x) from λk l f b R S T X=>by
  have N:Inv cf { h with m:=aZ h.m p q k }:=i.bytes _ _ _
  have F:=N.openN9 (L.bytes (aZ h.m p q k)) R S T
  have G:=N.openN9 (M.bytes (aZ h.m p q k)) R S T
  have s:=jy B y _ cf _ (p+k) l b X N.out Z Z
  rw [Hz Z] at s
  dsimp only at s F G
  rw [F,GP rfl] at s
  refine s.mono ?_
  rintro e x ⟨A,j,Y,⟨_,v,rfl,own⟩|⟨Q,_⟩⟩
  rotate_left
  ·exact absurd rfl Q
  have u:(aH (aZ h.m p q k) (p+k) l).length=l:=by simp [aH]
  obtain⟨a,c,rfl,w,K⟩:=j.daOwn own
  rw [u] at w K ⊢
  refine⟨A,a,c,rfl,j,Y,w,?_⟩
  have t:=iw B y _ cf _ (q+k) a l c _ x j N.out Z K w
  rw [u] at t
  dsimp only at t
  rw [G,GP rfl,uN h.m p q k l Z] at t
  refine t.mono ?_
  rintro e V ⟨f2,o,r,⟨_,rfl⟩|⟨Q,_⟩⟩
  ·exact⟨rfl,⟨f2,o⟩,r⟩
  exact absurd rfl Q)
 have x:=H (show Hp B y { d with f:=d.f } cf { h with m:=aZ h.m p q 0 } W from O);clear O i L M z P;go_enter func75,ntmps75;go_wp2;go_loopg [8] n (λgk i wr=>∃ (k:Nat) (f:Nat->Option Nat),i=U k/\gk=n-k/\k<=n+4096/\Hid (Hp B y { d with f:=f } cf { h with m:=aZ h.m p q (min k n) } wr)/\Hid (Bi B W wr));case atStart=>exact ⟨0,d.f,rfl,Z,Z,H (by rw [Hz (FH _)];exact x),H (Bi.refl _ _)⟩
 case round =>
  obtain⟨k,f,rfl,R,Q,v,G⟩:=hrel;clear x;by_cases K:k<n
  ·rw [Hz Z] at v;have L:(k:Int)<(n:Int):=Z;have l:((p+k:Nat):Int)=(p:Int)+(k:Int):=Z;have u:((q+k:Nat):Int)=(q:Int)+(k:Int):=Z;by_cases w:n-k<=4096
   ·have M:(n:Int)-(k:Int)<=4096:=Z;have s:=H (g k (n-k) f wr Z Z w v);have i:(((n-k:Nat):Nat):Int)=(n:Int)-(k:Int):=Z;have z:k+(n-k)=n:=Z;rw [i,z,l,u] at s;clear g v w i z l u;go_wp2_with fail;refine (s).mono ?_;rintro e b ⟨A,a,c,rfl,j,i,N,t⟩;have z:=H t;have F:=H (G.trans i);clear t s i j;go_wp2_with fail;refine (z).mono ?_;rintro e V ⟨rfl,⟨f2,o⟩,r⟩;have O:=H o;have P:=H (F.trans r);clear z o r F;go_wp2
    go_roundg (n-(k+4096))
    (case rel=>exact ⟨k+4096,f2,by rw [Int.natCast_add];rfl,rfl,Z,H (by rw [Nat.min_eq_right Z];exact O),P⟩);case measure=>omega
   have M:¬((n:Int)-(k:Int)<=4096):=Z;have s:=H (g k 4096 f wr Z Z Z v);rw [l,u] at s;clear g v w l u;go_wp2_with fail;refine (s).mono ?_;rintro e b ⟨A,a,c,rfl,j,i,N,t⟩;have z:=H t;have F:=H (G.trans i);clear t s i j;go_wp2_with fail;refine (z).mono ?_;rintro e V ⟨rfl,⟨f2,o⟩,r⟩;have O:=H o;have P:=H (F.trans r);clear z o r F;go_wp2
   go_roundg (n-(k+4096))
   (case rel=>exact ⟨k+4096,f2,by rw [Int.natCast_add];rfl,rfl,Z,H (by rw [Hz Z];exact O),P⟩);case measure=>omega
  have L:(n:Int)<=(k:Int):=Z;have i:=H (show E7 B y d cf { h with m:=aZ h.m p q n } W (.returned (.tuple #[])) wr from ⟨rfl,⟨f,by have:=v.out;rw [Nat.min_eq_right Z] at this;exact this⟩,G⟩);clear v g K;go_wp2;go_end0;exact i.out
end
end Go.Proofs.YtibblbenmpcplaaGreatDoor
