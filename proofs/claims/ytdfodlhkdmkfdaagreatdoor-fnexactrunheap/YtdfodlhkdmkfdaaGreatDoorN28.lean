import Derived.Test.YtdfodlhkdmkfdaaGreatDoorN13
import Derived.Test.YtdfodlhkdmkfdaaGreatDoorN22
import Derived.Test.YtdfodlhkdmkfdaaGreatDoorN23
import Derived.Test.YtdfodlhkdmkfdaaGreatDoorN26
import Derived.Test.YtdfodlhkdmkfdaaGreatDoorN27
set_option linter.unusedVariables false
set_option linter.unusedSimpArgs false
set_option maxRecDepth 20000
set_option maxHeartbeats 8000000
namespace Go.Proofs.YtdfodlhkdmkfdaaGreatDoor
open Go.Proofs.Tryz
variable {cf:Cf} {h:Hs} {n p:Nat}
section
open Go.RowKit
theorem kn (B x cf h k) (a:Nat) (W) (i:Sh B x cf h W) (c:nl x) (j:B<=W.heap.size) (l:Inv cf h) (d:Few k h) (n:k<=300) (m:kz cf) (ha:a<18446744073709551616) :
  Calls prog 90 #[J x.P 0,U a] W λe f=>∃ b:Sm,e=.returned (kC (nv (az cf h a).1) (C))/\b.P=x.P/\b.Q=x.Q/\nl b/\Sh B b cf (az cf h a).2 f/\Bk B x.Q W f:=by
 have o:=d.used;have p:=d.rg;have q:=d.rel;by_cases g:a<=1016;·refine (rR B x cf h a W i j l Z m g).mono ?_;rintro e f ⟨rfl,s,b⟩;exact⟨x,rfl,rfl,rfl,c,s,b⟩
 exact sx B x cf h a W i c j l Z m Z Z Z ha
theorem vS (B x cf h k p) (g:Fd) (l m n:Int) (W) (o:Sh B x cf h W) (a:nl x) (q:B<=W.heap.size) (t:Inv cf h) (b:Few k h) (z:k<=301) (u:kz cf) (d:1<=cf.large) (w:Gu h p g (l,m,n)) (y:n=0) :
  Calls prog 95 #[J x.P 0,I l,I m] W λe v=>e=.returned (.tuple #[])/\∃ c:Sm,c.P=x.P/\c.Q=x.Q/\nl c/\Sh B c cf (eM cf h g) v/\Bk B x.Q W v:=by
 have A:=b.used;have F:=b.rg;have G:=b.rel;have L:=b.row;cases w with
 | slot c s j K i f ha r=>exact wZ B x cf h K c s j (-1) W o a q t Z u i f r
 | range r i f j c=>exact wM B x cf h i r W o a q t u d f c Z Z Z
 | no c f=>rcases f with rfl|rfl <;> cases y
def jo (cf:Cf) (h:Hs) (p a j:Nat):An4×Hs :=
 match az cf h a with
 | (none,i)=>(.no 1,i)
 | (some q,i)=>(⟨0,q,0,[]⟩,eM cf { i with m:=cN i.m p q (min j a) } (aP { i with m:=cN i.m p q (min j a) } p))
def qw (cf:Cf) (h:Hs) (a:Nat):An4×Hs:=(nv (az cf h a).1,(az cf h a).2)
theorem iC (cf h p a):cF cf h p a=if p=0 then qw cf h a else match aP h p with
  | .no code=>(.no code,h)
  | .slot c s j=>if sound cf h c s j=false then (.no 5,h) else if a<=1016/\gN a=c then (⟨0,p,0,[]⟩,{ h with rq:=aJ h.rq c s j a }) else jo cf h p a (h.rq c s j).toNat
  | .range r=>if 1016<a/\aS a=r.pages then (⟨0,p,0,[]⟩,{ h with rg:=h.rg.map λx=>if x.base=r.base then { x with rq:=a } else x }) else jo cf h p a r.rq.toNat:=by
 have d:(match az cf h a with
   | (none,b)=>(An4.no 1,b)
   | (some q,b)=>(⟨0,q,0,[]⟩,b))=qw cf h a:=by
  unfold qw
  cases az cf h a with
  | mk o b=>cases o <;> rfl
 unfold cF;dsimp only
 by_cases b:p=0
 ·rw [tm b,tm b];exact d
 rw [tg b,tg b]
 cases aP h p with
 | no code=>rfl
 | slot c s j=>rfl
 | range r=>rfl
theorem Ba (c:Int):kC (.no c) (C)=.agg #[I c,U 0,I 0,C]:=rfl
theorem BG (q:Nat):kC ⟨0,q,0,[]⟩ (C)=.agg #[I 0,U q,I 0,C]:=rfl
theorem sD (l:List Rg9) {i:Nat} {r:Rg9} (a:l[i]?=some r) (b:Int):ft (l.set i { r with rq:=b })=(ft l).set (i*6+5) (I b):=by
 have c:=pK l a r.st b;have d:=(Jr.1 a).1;have f:(ft l).set (i*6+4) (I r.st)=ft l:=by
  apply GR;intro k;rw [J5];split
  ·rename_i e;subst e;rw [tm (by rw [d_];omega),fO l a Z];rfl
  rfl
 rw [f] at c;exact c
theorem Sh.setRangeRq {B x V} (a:Sh B x cf h V) {G cap} {i:Nat} {r:Rg9} (j:x.rv=Vl G h.rg.length cap) (l:h.rg[i]?=some r) (b:Int) :
  Sh B x cf { h with rg:=h.rg.set i { r with rq:=b } } (V.setCell ⟨G,i*6+5,none⟩ (I b))/\Ky (· = 106) V (V.setCell ⟨G,i*6+5,none⟩ (I b))/\V.grownBy (V.setCell ⟨G,i*6+5,none⟩ (I b)) (some G)/\V.frozen? ⟨G,i*6+5,none⟩=false:=by
 have f:=a.rg;rw [j] at f;have n:=(Jr.1 l).1;obtain⟨p,d⟩:=dz f;have e:V.grownBy (V.setCell ⟨G,i*6+5,none⟩ (I b)) (some G):=au (ao V G) _ _;have k:Ky (· = 106) V _:=Ky.grown d rfl e;have o:=dZ f (i*6+5) (by rw [d_];omega) (I b);refine⟨⟨k.cells _ _ _ _ a.box al,a.bp,a.bq,λg e=>a.bg g (di (a.sp.qEq k al) e),a.ds.ky k al,a.sp.ky k al al al,ai a.sl k al,ai a.wt k al,λc m=>⟨(a.wm c m).1.ky k al,(a.wm c m).2.ky k al⟩,?_,ai a.ro k al,ai a.rl k al⟩,k,e,by simp [World.frozen?,d]⟩;show World.ownsRow _ B 106 6 x.rv _ _;rw [j,sD h.rg l,JU];exact o
theorem Area.le {m:Nat} (A:Area h p n) (d:m<=n):Area h p m:=by
 cases A with
 | slot c s j e a f g i b=>exact .slot c s j e a f g i (Jp d b)
 | range r c e a b=>exact .range r c e a (Jp d b)
theorem Inv.ltA (i:Inv cf h) (A:Area h p n):p+n<=300000:=by
 cases A with
 | slot c s j b a d f g e =>
  have:=cY b a d;omega
 | range r b c a e =>
  have d:=i.rgs r b;unfold Rg9.base at c;unfold Rg9.ext at d;omega
theorem uW (B x cf h k) (p a:Nat) (W) (g:Sh B x cf h W) (b:nl x) (hB:B<=W.heap.size) (hi:Inv cf h) (hf:Few k h) (hk:k<=300) (l:kz cf) (d2:1<=cf.large) (hp:p<18446744073709551616) (ha:a<18446744073709551616) :
  Calls prog 92 #[.pointer (some ⟨x.P,0,none⟩),.int .u64 p,.int .u64 a] W λe M=>∃ c:Sm,e=.returned (kC (cF cf h p a).1 (.slice none 0 0))/\c.P=x.P/\c.Q=x.Q/\nl c/\Sh B c cf (cF cf h p a).2 M/\Bk B x.Q W M:=by
 obtain⟨N,c⟩:∃ N,cF cf h p a=N:=⟨_,rfl⟩;rw [c];have b6:=H (c.symm.trans (iC cf h p a));have t:=H hB;have HD:=H l;have HI:=H hi;have a0:=H b;have c1:=H hf;have MA:=H (λV (hV:Sh B x cf h V) (c0:B<=V.heap.size)=>kn B x cf h k a V hV b c0 hi hf hk l ha);have bA:D W (W.alloc (.cells #[.int .i64 0,.int .u64 0,.int .i64 0,.slice none 0 0] 81)):=(Jn _ _).alloc (Jo _) _;have d:=H (g.below bA);have i:=H (g.bkB (Bk.refl _ _ _) hB bA);have f:=H (av W (.cells #[.int .i64 0,.int .u64 0,.int .i64 0,.slice none 0 0] 81));have j:=g.ltQ;have e7:=hf.rg;have hrel:=hf.rel;clear g c hi l b bA;by_cases jd:p=0;·have HE:=H (b6.trans (tm jd));subst jd;go_enter func92,ntmps92;go_wp2_with fail;generalize W.alloc _=V at d i f ⊢;obtain⟨R,hR⟩:∃ R,R=W.heap.size:=⟨_,rfl⟩;rw [<-hR] at f ⊢;have HR:=H hR;have HQ:=H j;clear hR j;refine (MA.out _ d.out (Jp t.out i.bel.size)).mono ?_;rintro e T ⟨l,rfl,a6,a1,a7,b,b1⟩;have Q:=H (b1.at f.out (eO al));have S1:=H b;have B1:=H (i.trans b1);have X:=H (LG a6 (LG a1 a7));clear b b1 a6 a1 a7 MA;go_wp2_with (refine fG Q.out ?_);refine gH (aw Q.out _) underlying81 ?_;rw [HE.out];exact⟨l,rfl,X.1,X.2.1,X.2.2,S1.off81 Q.out _,B1.loc (ar _ R _) (by rw [HR.out];exact Jo _) HQ.out t.out⟩
 have HE:=H (b6.trans (tg jd));have e6:((p:Int)==0)=false:=cd;have o:=H (λV (hV:Sh B x cf h V)=>mf B x cf h p V hV Z Z);have a2:=jQ h p;have b:=eC h p;obtain⟨fd,c⟩:∃ fd,aP h p=fd:=⟨_,rfl⟩;obtain⟨⟨t1,t2,t3⟩,g⟩:∃ tr,ga h p=tr:=⟨_,rfl⟩;rw [c,g] at a2;rw [c] at b HE;rw [g] at o;have d4:=H c;have c3:=H a2;have c4:=H b;clear c g jd b;go_enter func92,ntmps92;go_wp2_with fail;generalize W.alloc _=V at d i f ⊢;obtain⟨R,hR⟩:∃ R,R=W.heap.size:=⟨_,rfl⟩;rw [<-hR] at f ⊢;have HR:=H hR;have HQ:=H j;clear hR j;refine (o.out _ d.out).mono ?_;rintro e T ⟨rfl,b1⟩;have S1:=H (d.below b1);have B1:=H (d.bkB i.out t.out b1);have Q:=H (ae f.out b1);clear b1 d i f o;unfold FN;by_cases y:t3=0
 ·subst y;clear a2;go_upto_if 30 with fail
  go_cut [10] (λb w'=>∃ z:Nat,b=.int .i64 (z:Nat)/\Hid (N=jo cf h p a z/\Area h p z)/\Hid (Sh B x cf h w')/\Hid (Bk B x.Q W w')/\Hid (w'.heap[R]?=some (.cells #[.int .i64 0,.int .u64 0,.int .i64 0,.slice none 0 0] 81)));case first =>
   have a2:=c3.out;cases a2 with
   | slot c s j K w Y hA hl =>
    have A:=nH w;rw [Y] at A;dsimp only at A;obtain⟨hc,a3,d⟩:=A;have r:=bI hc;have g:=HI.on1 hc a3 d (by rw [hl];rfl);have o:=(HI.req c s j hc a3 d).1 hl;have q:=H (sj B x cf h K c s j T S1.out w Y HD.key0 HD.key1 (λi b=>by
     have:=HI.openS (k:=fy c+i) hc a3 d g Z;rw [J2];exact this))
    have b4:(0:Int)<=(K:Int):=Z;have AR:=H (show Area h p (h.rq c s j).toNat from .slot c s j hc a3 d hA hl Z);have f:=H (show N=if sound cf h c s j=false then (.no 5,h) else if a<=1016/\gN a=c then (⟨0,p,0,[]⟩,{ h with rq:=aJ h.rq c s j a }) else jo cf h p a (h.rq c s j).toNat from HE.out);obtain⟨rq,b⟩:∃ rq:Nat,h.rq c s j=(rq:Int):=⟨(h.rq c s j).toNat,Z⟩;have a5:=H b;have a4:=H Y;rw [b,JL] at AR f;clear r g o b Y hA hl d HE;go_wp2_with fail;refine q.mono ?_;rintro e V2 ⟨rfl,d⟩;have S2:=H (S1.below d);have B2:=H (S1.bkB B1.out t.out d);have X2:=H (ae Q.out d);clear d q S1 B1 Q;cases d:sound cf h c s j;·have g:=H (f.trans (tm d));clear d;go_wp2_with (refine fG X2.out ?_);refine gH (aw X2.out _) underlying81 ?_;rw [g.out];exact⟨x,rfl,rfl,rfl,a0.out,S2.off81 X2.out _,B2.loc (ar _ R _) (by rw [HR.out];exact Jo _) HQ.out t.out⟩
    have G:=H (f.trans (tg (by rw [d];decide)));clear d f;have c7:V2.cell? ⟨x.P,7,none⟩=some (.slice (some ⟨x.G,0,none⟩) 1062 x.gc):=S2.cell 7 _ rfl;obtain⟨d0,_,_,_,_,d5⟩:=S2.slot w;have d:f_ h K=(rq:Int):=(by unfold f_;rw [a4.out];exact a5.out);rw [d] at d5;rw [a4.out] at d0;have d0:V2.cell? ⟨x.G,K*6,none⟩=some (.int .i64 (c:Nat)):=d0;clear d;by_cases q:a<=1016
    ·have v:(a:Int)<=1016:=Z;have CO:=H (λV q=>Dq a V q);by_cases o:gN a=c
     ·have g:=H (G.trans (tm ⟨q,o⟩));have O:(((gN a:Nat):Int)==((c:Nat):Int))=true:=cd;clear G;go_wp2;refine rh (S:=λM=>M.cell? ⟨x.P,7,none⟩=some (.slice (some ⟨x.G,0,none⟩) 1062 x.gc)/\M.cell? ⟨x.G,K*6,none⟩=some (.int .i64 (c:Nat))) ?_;have d:=(show _/\_ from ⟨c7,d0⟩);refine pk 0 (.int .u64 (a:Nat)) d ?_;refine pz 1 (.bool true) d ?_;refine pk 2 (.bool true) d ?_;refine pk 3 (.int .u64 (a:Nat)) d ?_;refine pk 5 (.pointer (some ⟨x.P,0,none⟩)) d ?_;refine pk 6 (.pointer (some ⟨x.P,0,none⟩)) d ?_;refine pk 7 (.pointer (some ⟨x.P,7,none⟩)) d ?_;refine pz 8 (.slice (some ⟨x.G,0,none⟩) 1062 x.gc) d ?_;refine pk 9 (.int .i64 (K:Nat)) d ?_;refine pz 10 (.pointer (some ⟨x.G,K*6,none⟩)) d ?_;refine pk 11 (.pointer (some ⟨x.G,K*6,none⟩)) d ?_;refine pz 12 (.int .i64 (c:Nat)) d ?_;refine po 4 λK' w=>?_;go_simp;refine (CO.out _ q).mono ?_;rintro e u ⟨rfl,P⟩;have r:D V2 u:=⟨P.os,P.tape,P.output,P.size,P.block⟩;have h3:=LG (ol r c7) (ol r d0);refine w.out _ _ ⟨h3,?_⟩;clear d;have d:=h3;clear w K';refine pz 13 (.bool true) d ?_;refine pz 14 (.bool true) d ?_;refine bY ?_;have S3:=H (S2.below r);have F:=H (S2.bkB B2.out t.out r);have L:=H (ae X2.out r);have a8:=d.1;have a9:=ol r d5;have f53:=S3.slotF (K*6+5);have S4:=H (show Sh B x cf { h with rq:=aJ h.rq c s j a } (u.setCell ⟨x.G,K*6+5,none⟩ (.int .i64 (a:Nat))) by
       have:=S3.setRq w (a:Nat);rw [a4.out] at this;exact this)
      have B4:=H (S3.bkG F.out t.out (K*6+5) (.int .i64 (a:Nat)));have X4:=H (show (u.setCell ⟨x.G,K*6+5,none⟩ (.int .i64 (a:Nat))).heap[R]?=some (.cells #[.int .i64 0,.int .u64 0,.int .i64 0,.slice none 0 0] 81) by
       obtain⟨c2,b0⟩:=dz S3.sl;exact (Ky.grown b0 rfl (au (ao _ x.G) _ _):Ky (· = 100) _ _).cells _ _ _ _ L.out al)
      clear d h3 r P c7 d0 d5 O o S2 B2 X2 S3 F L CO;go_wp2_with (refine fG X4.out ?_);refine gH (aw X4.out _) underlying81 ?_;rw [g.out];exact⟨x,rfl,rfl,rfl,a0.out,S4.off81 X4.out _,B4.loc (ar _ R _) (by rw [HR.out];exact Jo _) HQ.out t.out⟩
     have g:=H (G.trans (tg (λe=>o e.2)));have O:(((gN a:Nat):Int)==((c:Nat):Int))=false:=cd;clear G;go_wp2;refine rh (S:=λM=>M.cell? ⟨x.P,7,none⟩=some (.slice (some ⟨x.G,0,none⟩) 1062 x.gc)/\M.cell? ⟨x.G,K*6,none⟩=some (.int .i64 (c:Nat))) ?_;have d:=(show _/\_ from ⟨c7,d0⟩);refine pk 0 (.int .u64 (a:Nat)) d ?_;refine pz 1 (.bool true) d ?_;refine pk 2 (.bool true) d ?_;refine pk 3 (.int .u64 (a:Nat)) d ?_;refine pk 5 (.pointer (some ⟨x.P,0,none⟩)) d ?_;refine pk 6 (.pointer (some ⟨x.P,0,none⟩)) d ?_;refine pk 7 (.pointer (some ⟨x.P,7,none⟩)) d ?_;refine pz 8 (.slice (some ⟨x.G,0,none⟩) 1062 x.gc) d ?_;refine pk 9 (.int .i64 (K:Nat)) d ?_;refine pz 10 (.pointer (some ⟨x.G,K*6,none⟩)) d ?_;refine pk 11 (.pointer (some ⟨x.G,K*6,none⟩)) d ?_;refine pz 12 (.int .i64 (c:Nat)) d ?_;refine po 4 λK' w=>?_;go_simp;refine (CO.out _ q).mono ?_;rintro e u ⟨rfl,P⟩;have r:D V2 u:=⟨P.os,P.tape,P.output,P.size,P.block⟩;have h3:=LG (ol r c7) (ol r d0);refine w.out _ _ ⟨h3,?_⟩;clear d;have d:=h3;clear w K';refine pz 13 (.bool false) d ?_;refine pz 14 (.bool false) d ?_;refine bY ?_;have S3:=H (S2.below r);have F:=H (S2.bkB B2.out t.out r);have L:=H (ae X2.out r);have a8:=d.1;have a9:=ol r d5;clear d h3 r P c7 d0 d5 O o S2 B2 X2 CO;go_wp2
     go_meet;case rel=>exact ⟨rq,rfl,H ⟨g.out,AR.out⟩,S3,F,L⟩
    have v:¬((a:Int)<=1016):=Z;have a8:decide ((a:Int)<=1016)=false:=t5 v;have g:=H (G.trans (tg (λe=>q e.1)));clear G;go_wp2;refine rh (S:=λ_=>True) ?_;have d:True:=trivial;refine pk 0 (.int .u64 (a:Nat)) d ?_;refine pz 1 (.bool false) d ?_;refine pk 2 (.bool false) d ?_;refine ps 3 d ?_;refine ps 4 d ?_;refine ps 5 d ?_;refine ps 6 d ?_;refine ps 7 d ?_;refine ps 8 d ?_;refine ps 9 d ?_;refine ps 10 d ?_;refine ps 11 d ?_;refine ps 12 d ?_;refine ps 13 d ?_;refine pz 14 (.bool false) d ?_;refine bY ?_;have S3:=H (S2.below (Jn _ _).drew);have F:=H (S2.bkB B2.out t.out (Jn _ _).drew);have L:=H (ae X2.out (Jn _ _).drew);clear S2 B2 X2;go_wp2;go_meet;case rel=>exact ⟨rq,rfl,H ⟨g.out,AR.out⟩,S3,F,L⟩
   | range r i hr hb b4 =>
    have b5:=(Jr.1 hr).1;have a3:=JA hr;have a4:=HI.rgs r a3;obtain⟨ra,rc,a5⟩:=aG S1.rg;obtain⟨G,rfl⟩:=cw (a5▸S1.rg) Z;obtain⟨_,_,_,d3,_,d5⟩:=S1.range a5 hr;have c9:T.cell? ⟨x.P,9,none⟩=some (.slice (some ⟨G,0,none⟩) h.rg.length rc):=(by rw [<-a5];exact S1.cell 9 _ rfl);obtain⟨rq,b⟩:∃ rq:Nat,r.rq=(rq:Int):=⟨r.rq.toNat,Z⟩;have a9:aS rq=r.pages:=by
     have:r.rq.toNat=rq:=by rw [b];simp
     rcases a4.2.2.2.2.2 with ⟨_,_,h3⟩|⟨h3,_⟩;·rw [<-this];exact h3
     omega
    have AR:=H (show Area h p rq from .range r a3 hb b4 (by rw [<-a9];exact gP rq));have f:=H (show N=if 1016<a/\aS a=r.pages then (⟨0,p,0,[]⟩,{ h with rg:=h.rg.map λx=>if x.base=r.base then { x with rq:=a } else x }) else jo cf h p a r.rq.toNat from HE.out);rw [b,JL] at f;rw [b] at d5;have c6:r.pages<=96:=(by have:=a4;unfold Rg9.ext at this;omega);have c8:(i:Int)<(h.rg.length:Int):=Z;have d1:IntKind.u64.wrap ((r.pages:Nat):Int)=((r.pages:Nat):Int):=ei _ Z Z;have c5:aS a=r.pages->a<=98304:=λe=>by have:=gP a;omega
    have b0:=H a5;have b8:=H hr;have PG:=H (λV=>rV a V ha);clear a4 a5 hr a9 a3 hb b4 b HE;by_cases q:1016<a
    ·have v:(1016:Int)<(a:Int):=Z;by_cases o:aS a=r.pages
     ·have g:=H (f.trans (tm ⟨q,o⟩));have O:(((aS a:Nat):Int)==((r.pages:Nat):Int))=true:=cd;have a4:=c5 o;have a3:=H (HI.mapSet b8.out (λx=>{ x with rq:=(a:Int) }));clear f;go_wp2;refine rh (S:=λM=>M.cell? ⟨x.P,9,none⟩=some (.slice (some ⟨G,0,none⟩) h.rg.length rc)/\M.cell? ⟨G,i*6+3,none⟩=some (.int .i64 (r.pages:Nat))) ?_;have d:=(show _/\_ from ⟨c9,d3⟩);refine pk 0 (.int .u64 (a:Nat)) d ?_;refine pz 1 (.bool true) d ?_;refine pk 2 (.bool true) d ?_;refine pk 3 (.int .u64 (a:Nat)) d ?_;refine pk 5 (.pointer (some ⟨x.P,0,none⟩)) d ?_;refine pk 6 (.pointer (some ⟨x.P,0,none⟩)) d ?_;refine pk 7 (.pointer (some ⟨x.P,9,none⟩)) d ?_;refine pz 8 (.slice (some ⟨G,0,none⟩) h.rg.length rc) d ?_;refine pk 9 (.int .i64 (i:Nat)) d ?_;refine pz 10 (.pointer (some ⟨G,i*6,none⟩)) d ?_;refine pk 11 (.pointer (some ⟨G,i*6+3,none⟩)) d ?_;refine pz 12 (.int .i64 (r.pages:Nat)) d ?_;refine pz 13 (.int .u64 (r.pages:Nat)) d ?_;refine po 4 λK' w=>?_;go_simp;refine (PG.out _).mono ?_;rintro e u ⟨rfl,rfl⟩;refine w.out _ _ ⟨d,?_⟩;clear w K';refine pz 14 (.bool true) d ?_;refine pz 15 (.bool true) d ?_;refine bY ?_;have S3:=H (S1.below (Jn _ _).drew);have F:=H (S1.bkB B1.out t.out (Jn _ _).drew);have L:=H (ae Q.out (Jn _ _).drew);obtain⟨S4,K4,G4,f5⟩:=S3.setRangeRq b0.out b8.out (a:Nat);have B4:=H (GF S3.out b0.out F.out t.out G4);have X4:=H (K4.cells _ _ _ _ L.out al);have S4:=H (show Sh B x cf { h with rg:=h.rg.map λx=>if x.base=r.base then { x with rq:=(a:Int) } else x } _ by rw [a3.out];exact S4);clear d S1 B1 Q O o PG K4 G4 S3 F L;go_wp2_with (refine fG X4.out ?_);refine gH (aw X4.out _) underlying81 ?_;rw [g.out];exact⟨x,rfl,rfl,rfl,a0.out,S4.off81 X4.out _,B4.loc (ar _ R _) (by rw [HR.out];exact Jo _) HQ.out t.out⟩
     have g:=H (f.trans (tg (λe=>o e.2)));have O:(((aS a:Nat):Int)==((r.pages:Nat):Int))=false:=cd;clear f;go_wp2;refine rh (S:=λM=>M.cell? ⟨x.P,9,none⟩=some (.slice (some ⟨G,0,none⟩) h.rg.length rc)/\M.cell? ⟨G,i*6+3,none⟩=some (.int .i64 (r.pages:Nat))) ?_;have d:=(show _/\_ from ⟨c9,d3⟩);refine pk 0 (.int .u64 (a:Nat)) d ?_;refine pz 1 (.bool true) d ?_;refine pk 2 (.bool true) d ?_;refine pk 3 (.int .u64 (a:Nat)) d ?_;refine pk 5 (.pointer (some ⟨x.P,0,none⟩)) d ?_;refine pk 6 (.pointer (some ⟨x.P,0,none⟩)) d ?_;refine pk 7 (.pointer (some ⟨x.P,9,none⟩)) d ?_;refine pz 8 (.slice (some ⟨G,0,none⟩) h.rg.length rc) d ?_;refine pk 9 (.int .i64 (i:Nat)) d ?_;refine pz 10 (.pointer (some ⟨G,i*6,none⟩)) d ?_;refine pk 11 (.pointer (some ⟨G,i*6+3,none⟩)) d ?_;refine pz 12 (.int .i64 (r.pages:Nat)) d ?_;refine pz 13 (.int .u64 (r.pages:Nat)) d ?_;refine po 4 λK' w=>?_;go_simp;refine (PG.out _).mono ?_;rintro e u ⟨rfl,rfl⟩;refine w.out _ _ ⟨d,?_⟩;clear w K';refine pz 14 (.bool false) d ?_;refine pz 15 (.bool false) d ?_;refine bY ?_;have S3:=H (S1.below (Jn _ _).drew);have F:=H (S1.bkB B1.out t.out (Jn _ _).drew);have L:=H (ae Q.out (Jn _ _).drew);clear d S1 B1 Q O o PG;go_wp2
     go_meet;case rel=>exact ⟨rq,rfl,H ⟨g.out,AR.out⟩,S3,F,L⟩
    have v:¬((1016:Int)<(a:Int)):=Z;have a8:decide ((1016:Int)<(a:Int))=false:=t5 v;have g:=H (f.trans (tg (λe=>q e.1)));clear f;go_wp2;refine rh (S:=λ_=>True) ?_;have d:True:=trivial;refine pk 0 (.int .u64 (a:Nat)) d ?_;refine pz 1 (.bool false) d ?_;refine pk 2 (.bool false) d ?_;refine ps 3 d ?_;refine ps 4 d ?_;refine ps 5 d ?_;refine ps 6 d ?_;refine ps 7 d ?_;refine ps 8 d ?_;refine ps 9 d ?_;refine ps 10 d ?_;refine ps 11 d ?_;refine ps 12 d ?_;refine ps 13 d ?_;refine ps 14 d ?_;refine pz 15 (.bool false) d ?_;refine bY ?_;have S3:=H (S1.below (Jn _ _).drew);have F:=H (S1.bkB B1.out t.out (Jn _ _).drew);have L:=H (ae Q.out (Jn _ _).drew);clear S1 B1 Q PG;go_wp2;go_meet;case rel=>exact ⟨rq,rfl,H ⟨g.out,AR.out⟩,S3,F,L⟩
   | no b8 hc=>rcases hc with e|e <;> cases e
  case rest =>
   obtain⟨z,rfl,G,S2,B2,X2⟩:=hcut;clear S1 B1 Q;obtain⟨a3,AR⟩:=G.out;have AR:=H AR;have b:=HI.malloc c1.out a;have o:=λq f (e:az cf h a=(some q,f))=>HI.gave e
   unfold jo at a3;obtain⟨mr,v⟩:∃ mr,az cf h a=mr:=⟨_,rfl⟩;rw [v] at a3 b;simp only [v] at MA o;have a3:=H a3;have d6:=H b;have d7:=H o;clear G v b o HE;go_wp2_with fail;refine (MA.out _ S2.out (Jp t.out B2.bel.size)).mono ?_;rintro e u ⟨l,rfl,a6,a1,a7,b,P⟩;have X:=H a6;have a4:=H a1;have c5:=H a7;have L:=H (P.at X2.out (eO al));have F:=H (show Bk B l.Q W u from a1▸B2.trans P);have S3:=H b;clear b P a6 a1 a7 S2 B2 X2 MA;obtain⟨o,f⟩:=mr;cases o with
   | none =>
    have g:=H (show N=(.no 1,f) from a3.out);unfold nv;rw [Ba];have bA:D u (u.alloc (.cells #[.int .i64 1,.int .u64 0,.int .i64 0,.slice none 0 0] 81)):=(Jn _ _).alloc (Jo _) _;have S4:=H (S3.below bA);have B4:=H (S3.bkB F.out t.out bA);have X4:=H (ae L.out bA);have Z4:=av u (.cells #[.int .i64 1,.int .u64 0,.int .i64 0,.slice none 0 0] 81);have z0:(u.alloc (.cells #[.int .i64 1,.int .u64 0,.int .i64 0,.slice none 0 0] 81)).cell? ⟨u.heap.size,0,none⟩=some (.int .i64 1):=(by simp only [World.cell?,Z4];rfl);have z1:(u.alloc (.cells #[.int .i64 1,.int .u64 0,.int .i64 0,.slice none 0 0] 81)).cell? ⟨u.heap.size,1,none⟩=some (.int .u64 0):=(by simp only [World.cell?,Z4];rfl);have z2:(u.alloc (.cells #[.int .i64 1,.int .u64 0,.int .i64 0,.slice none 0 0] 81)).cell? ⟨u.heap.size,2,none⟩=some (.int .i64 0):=(by simp only [World.cell?,Z4];rfl);have z3:(u.alloc (.cells #[.int .i64 1,.int .u64 0,.int .i64 0,.slice none 0 0] 81)).cell? ⟨u.heap.size,3,none⟩=some (.slice none 0 0):=(by simp only [World.cell?,Z4];rfl);clear bA Z4 S3 F L;go_wp2_with (refine fG X4.out ?_);refine gH (aw X4.out _) underlying81 ?_;rw [g.out];exact⟨l,rfl,X.out,a4.out,c5.out,S4.off81 X4.out _,(a4.out▸B4.out:Bk B x.Q W _).loc (ar _ R _) (by rw [HR.out];exact Jo _) HQ.out t.out⟩
   | some q =>
    have GV:=H (d7.out q f rfl);obtain⟨n,hn⟩:∃ n,min z a=n:=⟨_,rfl⟩;have d8:n<=z:=Z;have d9:n<=a:=Z;have e8:n=z\/n=a:=Z;obtain⟨ak,v⟩:=GV.keeps AR.out;have ap:=ak.le d8;have aq:=GV.area.le d9;have e0:=H (show ∀ i,i<n->isOpen (f.m ((p+i)/1024))=true from λi hi=>GV.inv.openA ap hi);have e1:=H (show ∀ i,i<n->isOpen (f.m ((q+i)/1024))=true from λi hi=>GV.inv.openA aq hi);have e2:=H (GV.inv.apartA ap aq v);have e9:=GV.inv.ltA ap;have g0:=GV.inv.ltA aq;have c6:=H (show N=(⟨0,q,0,[]⟩,eM cf { f with m:=ax f.m q (aI f.m p n) n } (aP { f with m:=ax f.m q (aI f.m p n) n } p)) by
     have:=a3.out;simp only [hn] at this;exact this)
    have I2:=H (show Inv cf { f with m:=ax f.m q (aI f.m p n) n } from GV.inv.bytes _ _ _);obtain⟨_,m2,m3,m4,m5⟩:=d6.out;dsimp only at m2 m3 m4 m5;have F2:=H (show Few (k+1) { f with m:=ax f.m q (aI f.m p n) n } from ⟨m2,it,it,by have:=c1.used;dsimp only;omega⟩);have b:=jQ { f with m:=ax f.m q (aI f.m p n) n } p;have a5:=H (λV (hV:Sh B l cf { f with m:=ax f.m q (aI f.m p n) n } V)=>mf B l cf { f with m:=ax f.m q (aI f.m p n) n } p V hV it it);obtain⟨⟨u1,u2,u3⟩,hu⟩:∃ tr,ga { f with m:=ax f.m q (aI f.m p n) n } p=tr:=⟨_,rfl⟩;rw [hu] at b a5;have G:u3=0:=by
     have a8:(∃ c s j,aP { f with m:=ax f.m q (aI f.m p n) n } p=.slot c s j)\/∃ r,aP { f with m:=ax f.m q (aI f.m p n) n } p=.range r:=by
      have sn:=c4.out;have fe:=d4.out;cases c3.out with
      | slot c s j K w Y hA hl =>
       have A:=nH w;rw [Y] at A;dsimp only at A;exact .inl ⟨c,s,j,n_ fe (GV.live c s j A.1 A.2.1 A.2.2 hl).1⟩
      | range r i hr hb b4 =>
       refine .inr ⟨r,k_ fe ?_⟩;rcases GV.rg with e|⟨r',e,_⟩;·exact .inl e
       exact .inr ⟨r',e⟩
      | no b8 hc=>rcases hc with e|e <;> cases e
     rcases a8 with ⟨c,s,j,e⟩|⟨r,e⟩ <;> (rw [e] at b;cases b;rfl)
    have FE:=H (λV (hV:Sh B l cf { f with m:=ax f.m q (aI f.m p n) n } V) (c0:B<=V.heap.size)=>vS B l cf { f with m:=ax f.m q (aI f.m p n) n } (k+1) p _ u1 u2 u3 V hV c5.out c0 I2.out F2.out Z HD.out d2 b G);rw [X.out] at a5 FE;unfold nv;rw [BG];have bA:D u (u.alloc (.cells #[.int .i64 0,.int .u64 (q:Nat),.int .i64 0,.slice none 0 0] 81)):=(Jn _ _).alloc (Jo _) _;have S4:=H (S3.below bA);have B4:=H (S3.bkB F.out t.out bA);have X4:=H (ae L.out bA);have Z4:=H (av u (.cells #[.int .i64 0,.int .u64 (q:Nat),.int .i64 0,.slice none 0 0] 81));have z0:(u.alloc (.cells #[.int .i64 0,.int .u64 (q:Nat),.int .i64 0,.slice none 0 0] 81)).cell? ⟨u.heap.size,0,none⟩=some (.int .i64 0):=(by simp only [World.cell?,Z4.out];rfl);clear bA S3 F L ak ap aq hn b hu G m2 m3 m4 m5 v;go_wp2;generalize u.alloc _=V4 at S4 B4 X4 Z4 ⊢;generalize u.heap.size=b at Z4 ⊢;clear z0;have SS:=H (show ∀ (V:World) {o:Hs},Sh B l cf o V->V.heap[b]?=some (.cells #[.int .i64 0,.int .u64 (q:Nat),.int .i64 0,.slice none 0 0] 81)->V.cell? ⟨x.P,6,none⟩=some (.pointer (some ⟨l.T,0,none⟩))/\V.cell? ⟨b,1,none⟩=some (.int .u64 (q:Nat)) from λV o hV o=>⟨by rw [<-X.out];exact hV.cell 6 _ rfl,by simp [World.cell?,o]⟩);go_loopw [12] (λv o=>∃ i:Nat,i<=n/\v=.int .i64 i/\Hid (Sh B l cf { f with m:=ax f.m q (aI f.m p n) i } o)/\Hid (Bk B l.Q W o)/\Hid (o.heap[R]?=some (.cells #[.int .i64 0,.int .u64 0,.int .i64 0,.slice none 0 0] 81))/\Hid (o.heap[b]?=some (.cells #[.int .i64 0,.int .u64 (q:Nat),.int .i64 0,.slice none 0 0] 81))) (λv _=>n-(intOf v).toNat);(case atStart=>exact ⟨0,Jt _,rfl,S4,B4,X4,Z4⟩);case round =>
     clear S4 B4 X4 Z4;obtain⟨i,A,rfl,G,B6,X6,Z6⟩:=hrel;by_cases b5:i<n
     ·have c8:(i:Int)<(z:Int):=Z;have e3:(i:Int)<(a:Int):=Z;have a9:=e0.out i b5;have b0:=e1.out i b5;have d1:bN (ax f.m q (aI f.m p n) i) (p+i)=bN f.m (p+i):=iy _ _ _ _ _ (by have:=e2.out;omega);obtain⟨bt,a8⟩:∃ bt,bN f.m (p+i)=bt:=⟨_,rfl⟩;have e4:=H (show ax f.m q (aI f.m p n) (i+1)=eu (ax f.m q (aI f.m p n) i) (q+i) bt by
       show eu _ _ _=_;have e:((aI f.m p n)[i]?).getD 0=bt:=(by rw [<-a8];simp [aI,b5]);rw [e])
      have GE:=H (show ∀ T,Sx l.T l.Q 283 (cf.bud:Nat) (ax f.m q (aI f.m p n) i) T->Calls prog 145 #[.pointer (some ⟨l.T,0,none⟩),.int .u64 (IntKind.u64.wrap ((p:Int)+IntKind.u64.wrap (i:Int)))] T λe w'=>e=.returned (.int .u8 bt)/\w'=T from λT hV=>by
       rw [ei (i:Int) Z Z,ei _ Z Z,<-a8,<-d1];exact lY l.T l.Q 283 (cf.bud:Nat) _ (p+i) T hV Z Z (by rw [fh];exact a9))
      have PU:=H (show ∀ T,Sx l.T l.Q 283 (cf.bud:Nat) (ax f.m q (aI f.m p n) i) T->Calls prog 144 #[.pointer (some ⟨l.T,0,none⟩),.int .u64 (IntKind.u64.wrap ((q:Int)+IntKind.u64.wrap (i:Int))),.int .u8 bt] T λe w'=>e=.returned (.tuple #[])/\Sx l.T l.Q 283 (cf.bud:Nat) (eu (ax f.m q (aI f.m p n) i) (q+i) bt) w'/\Sf l.Q T w' from λT hV=>by
       rw [ei (i:Int) Z Z,ei _ Z Z];exact v_ l.T l.Q (cf.bud:Nat) _ (q+i) bt T hV Z (by rw [fh];exact b0))
      clear a9 b0 d1 a8;go_wp2;refine rh (S:=λM=>M.cell? ⟨x.P,6,none⟩=some (.pointer (some ⟨l.T,0,none⟩))/\M.cell? ⟨b,1,none⟩=some (.int .u64 (q:Nat))) ?_;have d:=SS.out _ (G.below (Jn _ _).drew) Z6.out;refine pk 0 (.pointer (some ⟨x.P,0,none⟩)) d ?_;refine pk 1 (.pointer (some ⟨x.P,0,none⟩)) d ?_;refine pk 2 (.pointer (some ⟨x.P,6,none⟩)) d ?_;refine pz 3 (.pointer (some ⟨l.T,0,none⟩)) d ?_;refine pk 4 (.pointer (some ⟨b,1,none⟩)) d ?_;refine pz 5 (.int .u64 (q:Nat)) d ?_;refine pk 6 (.int .i64 (i:Nat)) d ?_;refine pz 7 (.int .u64 (IntKind.u64.wrap (i:Int))) d ?_;refine pz 8 (.int .u64 (IntKind.u64.wrap ((q:Int)+IntKind.u64.wrap (i:Int)))) d ?_;refine pk 9 (.pointer (some ⟨x.P,0,none⟩)) d ?_;refine pk 10 (.pointer (some ⟨x.P,0,none⟩)) d ?_;refine pk 11 (.pointer (some ⟨x.P,6,none⟩)) d ?_;refine pz 12 (.pointer (some ⟨l.T,0,none⟩)) d ?_;refine pk 13 (.int .u64 (p:Nat)) d ?_;refine pk 14 (.int .i64 (i:Nat)) d ?_;refine pz 15 (.int .u64 (IntKind.u64.wrap (i:Int))) d ?_;refine pz 16 (.int .u64 (IntKind.u64.wrap ((p:Int)+IntKind.u64.wrap (i:Int)))) d ?_;refine po 17 λK' w=>?_;go_simp;refine (GE.out _ (G.below (Jn _ _).drew).sp).mono ?_;rintro e V7 ⟨rfl,rfl⟩;refine w.out _ _ ⟨d,?_⟩;clear w K';refine po 18 λK' w=>?_
      go_simp;refine (PU.out _ (G.below (Jn _ _).drew).sp).mono ?_;rintro e V8 ⟨rfl,x8,f8⟩;have S8:=H (show Sh B l cf { f with m:=ax f.m q (aI f.m p n) (i+1) } V8 by have:=(G.below (Jn _ _).drew).space (Jp t.out B6.bel.size) _ x8 f8;rw [e4.out];exact this);have B8:=H ((G.below (Jn _ _).drew).bkS (G.bkB B6.out t.out (Jn _ _).drew) t.out f8);have X8:=H ((f8.ky (G.below (Jn _ _).drew).sp).cells _ _ _ _ X6.out al);have Z8:=H ((f8.ky (G.below (Jn _ _).drew).sp).cells _ _ _ _ Z6.out al);refine w.out _ _ ⟨SS.out _ S8.out Z8.out,?_⟩;clear d;clear w K';refine bY ?_;clear x8 f8;go_wp2;go_roundw;(case rel=>exact ⟨i+1,Z,aR,S8,B8,X8,Z8⟩);case measure=>(simp [intOf];try omega)
     obtain rfl:i=n:=Z;by_cases d1:i<z
     ·have c8:(i:Int)<(z:Int):=Z;have e3:¬((i:Int)<(a:Int)):=Z;go_wp2_with fail;refine (a5.out _ G.out).mono ?_;rintro e V7 ⟨rfl,b7⟩;have S7:=H (G.below b7);have B7:=H (G.bkB B6.out t.out b7);have X7:=H (ae X6.out b7);have Z7:=H (ae Z6.out b7);clear b7 G B6 X6 Z6 a5;unfold FN;go_wp2_with fail;refine (FE.out _ S7.out (Jp t.out B7.bel.size)).mono ?_;rintro e V8 ⟨rfl,x9,a8,a9,b0,s9,b9⟩;have S8:=H s9;have B8:=H (show Bk B l.Q W V8 from B7.trans b9);have X8:=H (b9.at X7.out (eO al));have Z8:=b9.at Z7.out (eO al);have z0:V8.cell? ⟨b,0,none⟩=some (.int .i64 0):=(by simp [World.cell?,Z8]);have z1:V8.cell? ⟨b,1,none⟩=some (.int .u64 (q:Nat)):=(by simp [World.cell?,Z8]);have z2:V8.cell? ⟨b,2,none⟩=some (.int .i64 0):=(by simp [World.cell?,Z8]);have z3:V8.cell? ⟨b,3,none⟩=some (.slice none 0 0):=(by simp [World.cell?,Z8]);have H9:=H (LG a8 (LG a9 b0));clear s9 b9 a8 a9 b0 S7 B7 X7 Z7 FE Z8;go_wp2_with (refine fG X8.out ?_);refine gH (aw X8.out _) underlying81 ?_;rw [c6.out];exact⟨x9,rfl,H9.1,H9.2.1.trans a4.out,H9.2.2,S8.off81 X8.out _,(a4.out▸B8.out:Bk B x.Q W V8).loc (ar _ R _) (by rw [HR.out];exact Jo _) HQ.out t.out⟩
     have c8:¬((i:Int)<(z:Int)):=Z;go_wp2_with fail;refine (a5.out _ G.out).mono ?_;rintro e V7 ⟨rfl,b7⟩;have S7:=H (G.below b7);have B7:=H (G.bkB B6.out t.out b7);have X7:=H (ae X6.out b7);have Z7:=H (ae Z6.out b7);clear b7 G B6 X6 Z6 a5;unfold FN;go_wp2_with fail;refine (FE.out _ S7.out (Jp t.out B7.bel.size)).mono ?_;rintro e V8 ⟨rfl,x9,a8,a9,b0,s9,b9⟩;have S8:=H s9;have B8:=H (show Bk B l.Q W V8 from B7.trans b9);have X8:=H (b9.at X7.out (eO al));have Z8:=b9.at Z7.out (eO al);have z0:V8.cell? ⟨b,0,none⟩=some (.int .i64 0):=(by simp [World.cell?,Z8]);have z1:V8.cell? ⟨b,1,none⟩=some (.int .u64 (q:Nat)):=(by simp [World.cell?,Z8]);have z2:V8.cell? ⟨b,2,none⟩=some (.int .i64 0):=(by simp [World.cell?,Z8]);have z3:V8.cell? ⟨b,3,none⟩=some (.slice none 0 0):=(by simp [World.cell?,Z8]);have H9:=H (LG a8 (LG a9 b0));clear s9 b9 a8 a9 b0 S7 B7 X7 Z7 FE Z8;go_wp2_with (refine fG X8.out ?_);refine gH (aw X8.out _) underlying81 ?_;rw [c6.out];exact⟨x9,rfl,H9.1,H9.2.1.trans a4.out,H9.2.2,S8.off81 X8.out _,(a4.out▸B8.out:Bk B x.Q W V8).loc (ar _ R _) (by rw [HR.out];exact Jo _) HQ.out t.out⟩
 cases a2 with
 | slot c s j K w Y b hl=>exact absurd rfl y
 | range r i hr hb b4=>exact absurd rfl y
 | no b8 hc =>
  have O:((t3:Int) != 0)=true:=by simpa using y
  have g:=H (show N=(.no t3,h) from HE.out);clear y;go_wp2_with (refine fG Q.out ?_);refine gH (aw Q.out _) underlying81 ?_;rw [g.out];exact⟨x,rfl,rfl,rfl,a0.out,S1.off81 Q.out _,B1.loc (ar _ R _) (by rw [HR.out];exact Jo _) HQ.out t.out⟩
end
section
open Go.RowKit Go.Maps
structure xJ (cf:Cf) (h:Hs) (k:Nat):Prop where
 inv:Inv cf h
 byt:Byt h.m
 few:Few k h
 kk:k<=302
 dok:kz cf
 l1:1<=cf.large
theorem lS (B y d cf h k an) (a:Nat) (W) (F:Hp B y d cf h W) (G:Gd d h an) (o:xJ cf h k) (ha:a<18446744073709551616) :
  Calls prog 54 #[J y.P 0,U a] W (DJ B y cf an d.lg W (az cf h a)):=by
 have K:h.used+2000<=1000000:=by
  have b:=o.few.used;have c:=o.kk;have:2100*k<=2100*302:=Lr _ c;omega
 by_cases Q:a<=1016
 ·have t:=H (sO B y d cf h an a W F G o.inv o.byt Q K o.dok);generalize az cf h a=u at *;clear F G o K;go_enter func54,ntmps54;go_wp2_with fail;refine (t).mono ?_;rintro e V ⟨L,v⟩;have n:=H v;clear t v;cases L with
  | no b _ M=>exact ⟨rfl,.no b V M,n⟩
  | slot c s j b _ N p w f x =>
   have q:=H (TaR.slot (B:=B) (y:=y) (cf:=cf) (an:=an) (lg:=d.lg) c s j b V N p w f x);clear x f w;go_wp2;go_ret;exact⟨q,n⟩
  | range r g O b _ z f A i l m =>
   have q:=H (TaR.range (B:=B) (y:=y) (cf:=cf) (an:=an) (lg:=d.lg) r g O b V z f A i l m);clear i l z f A m;go_wp2;go_ret;exact⟨q,n⟩
 have P:1016<a:=Z;have t:=H (qX B y d cf h an a W F G o.inv P ha K o.dok (by have:=o.few.rg;have:=o.kk;omega) (by have:=o.few.rel;have:=o.kk;omega));generalize az cf h a=u at *;clear F G o K Q;go_enter func54,ntmps54;go_wp2_with fail;refine (t).mono ?_;rintro e V ⟨L,v⟩;have n:=H v;clear t v;cases L with
 | no b _ M=>exact ⟨rfl,.no b V M,n⟩
 | slot c s j b _ N p w f x =>
  have q:=H (TaR.slot (B:=B) (y:=y) (cf:=cf) (an:=an) (lg:=d.lg) c s j b V N p w f x);clear x f w;go_wp2;go_ret;exact⟨q,n⟩
 | range r g O b _ z f A i l m =>
  have q:=H (TaR.range (B:=B) (y:=y) (cf:=cf) (an:=an) (lg:=d.lg) r g O b V z f A i l m);clear i l z f A m;go_wp2;go_ret;exact⟨q,n⟩
def mM (cf:Cf) (h:Hs) (a b:Nat):Option Nat×Hs:=if 18446744073709551616<=a*b then (none,h) else az cf h (a*b)
theorem nQ (B y d cf h k an) (a b:Nat) (W) (g:Hp B y d cf h W) (j:Gd d h an) (o:xJ cf h k) (ha:a<18446744073709551616) (q:b<18446744073709551616) :
  Calls prog 55 #[J y.P 0,U a,U b] W (DJ B y cf an d.lg W (mM cf h a b)):=by
 unfold mM;by_cases c:18446744073709551616<=a*b
 ·rw [tm c];have i:=H (product.im_Product_no a b ha q c W);have f:=H (show DJ B y cf an d.lg W (none,h) (.panicked (iG 1)) W from ⟨.no h W (Hg.tk ⟨d,g,j⟩),Bi.refl _ _⟩);clear g j o c;go_enter func55,ntmps55;go_wp2_with fail;refine (i).mono ?_;rintro e V ⟨rfl,rfl⟩;clear i;go_wp2
  first|exact⟨rfl,f⟩|exact f.out
 rw [tg c];have i:=H (product.im_Product_yes a b ha q Z W);have l:=H (lS B y d cf h k an (a*b) W g j o Z);generalize az cf h (a*b)=t at *;generalize a*b=x at *;clear g j o c;go_enter func55,ntmps55;go_wp2_with fail;refine (i).mono ?_;rintro e V ⟨rfl,rfl⟩;clear i;go_wp2_with fail;refine (l).mono ?_;rintro e o ⟨v,c⟩;have p:=H c;clear l c;cases v with
 | no l _ c=>exact ⟨rfl,.no l o c,p⟩
 | slot c s j l _ u g n m r =>
  have f:=H (TaR.slot (B:=B) (y:=y) (cf:=cf) (an:=an) (lg:=d.lg) c s j l o u g n m r);clear r m n;go_wp2;go_ret;exact⟨f,p⟩
 | range r g w l _ s m u c j n =>
  have f:=H (TaR.range (B:=B) (y:=y) (cf:=cf) (an:=an) (lg:=d.lg) r g w l o s m u c j n);clear c j s m u n;go_wp2;go_ret;exact⟨f,p⟩
/-! a store in pieces -/
theorem ig (m a) (b c:List Int):∀ n,(∀ i,i<n->b[i]?.getD 0=c[i]?.getD 0)->ax m a b n=ax m a c n
 | 0,_=>rfl
 | n+1,h=>by
  show eu (ax m a b n) (a+n) _=eu (ax m a c n) (a+n) _
  rw [ig m a b c n (λi b=>h i Z),h n Z]
theorem fQ (m a) (n i:Nat) (b:i<n):(aI m a n)[i]?.getD 0=bN m (a+i):=by
 unfold aI;simp [J6,List.getElem?_range b]
theorem cD (m p q k):∀ l,ax (ax m q (aI m p k) k) (q+k) (aI m (p+k) l) l=ax m q (aI m p (k+l)) (k+l)
 | 0=>rfl
 | l+1=>by
  have b:ax (ax m q (aI m p k) k) (q+k) (aI m (p+k) (l+1)) l=ax m q (aI m p (k+(l+1))) (k+l):=by
   rw [ig _ _ _ (aI m (p+k) l) l (λi a=>by rw [fQ _ _ _ _ Z,fQ _ _ _ _ a]),cD m p q k l];exact ig _ _ _ _ _ (λi a=>by rw [fQ _ _ _ _ a,fQ _ _ _ _ Z])
  show eu (ax (ax m q (aI m p k) k) (q+k) (aI m (p+k) (l+1)) l) (q+k+l) ((aI m (p+k) (l+1))[l]?.getD 0)=eu (ax m q (aI m p (k+(l+1))) (k+l)) (q+(k+l)) ((aI m p (k+(l+1)))[k+l]?.getD 0);rw [b,fQ _ _ _ _ Z,fQ _ _ _ _ Z,J2 q k l,J2 p k l]
theorem sP (m) (p q:Nat) (ys) (k a l:Nat) (h:a+l<=q\/q+k<=a):aI (ax m q ys k) a l=aI m a l:=by
 unfold aI;apply List.map_congr_left;intro i b;have c:i<l:=by simpa using b
 exact iy m q ys (a+i) k Z
theorem wR (m) (p q k l:Nat) (h:p+(k+l)<=q\/q+(k+l)<=p):ax (cN m p q k) (q+k) (aI (cN m p q k) (p+k) l) l=cN m p q (k+l):=by
 unfold cN;rw [sP m p q _ k (p+k) l Z];exact cD m p q k l
theorem Hp.daOwn {B} {b:Nat} {y d U} (p:Hp B y d cf h U) {v:Value} {n:List Int} (o:U.ownsRow b 5 1 v n.length (Ns .u8 n)):∃ a c,v=.slice a n.length c/\n.length<=c/\Da y.S y.M d.f U a n.length n:=by
 obtain⟨a,c,e⟩:=aG o;subst e;refine⟨a,c,rfl,?_,rfl,λi t=>?_⟩
 ·rcases o.2 with ⟨e,r⟩|⟨g,f,k,e,j,s,l,_⟩;·omega
  simp at e;omega
 obtain⟨g,u⟩:=cw o Z;subst u;obtain⟨x,j⟩:=dz o;refine⟨⟨g,0,none⟩,rfl,?_,?_,?_,?_,?_⟩
 ·rw [Addr.add_mid,JQ];obtain⟨a,c,e,f⟩:=uK o;obtain⟨k,m,r⟩:=f i t;simp at e;rw [<-e.1] at m;cases m;exact r
 ·rw [Addr.add_mid];exact ah j
 ·rw [Addr.add_mid];intro e;have q:g=y.S:=e;rw [q,p.sp.box] at j;simp at j
 ·rw [Addr.add_mid];intro e;have q:g=y.M:=e;obtain⟨f,⟨k,l,s,_⟩,_⟩:=p.sp.map;rw [q,s] at j;cases j
 rw [Addr.add_mid];intro k f;rcases p.pg.at' k with ⟨m,_⟩|⟨z,l,A,m,_,_,w⟩;·rw [f] at m;cases m
 rw [f] at m;cases m;rw [w] at j;simp at j
theorem Inv.openN9 (i:Inv cf h) (A:Area h p n) {k l:Nat} (c:k+l<=n) (a:1<=l) (b:l<=4096):cr h.m (p+k) (l:Int)=0:=by
 have:=i.ltA A;exact kM a b Z (λq a=>by rw [J2];exact i.openA A Z)
def Ir (B:Nat) (y:Ly) (d:Dy) (cf:Cf) (h:Hs) (W:World) (e:Ending) (W':World):Prop:=e=.returned (.tuple #[])/\(∃ i,Hp B y { d with f:=i } cf h W')/\Bi B W W'
theorem Area.bytes (A:Area h p n) (m:Nat->Option (Bool×List Int)):Area { h with m:=m } p n:=by
 cases A with
 | slot c s j d a e f g b=>exact .slot c s j d a e f g b
 | range r c d a b=>exact .range r c d a b
theorem BD (B y d cf h p q n W) (O:Hp B y d cf h W) (i:Inv cf h) (L:Area h p n) (M:Area h q n) (z:p≠q) :
  Calls prog 107 #[J y.P 0,U p,U q,U n] W (Ir B y d cf { h with m:=cN h.m p q n } W):=by
 have P:=i.apartA L M z;have lp:=i.ltA L;have lq:=i.ltA M;have BW:=H O.bW;have g:=H (show ∀ (k l:Nat) (f:Nat->Option Nat) (b:World),k+l<=n->1<=l->l<=4096->Hp B y { d with f:=f } cf { h with m:=cN h.m p q k } b ->
   Calls prog 60 #[J y.P 0,U (p+k:Nat),U l] b λe x=>∃ A a c,e=.returned (.slice a l c)/\Hp B y { d with f:=A } cf { h with m:=cN h.m p q k } x/\Bi B b x/\l<=c/\Calls prog 61 #[J y.P 0,U (q+k:Nat),.slice a l c] x (Ir B y d cf { h with m:=cN h.m p q (k+l) } x) from λk l f b R S T X=>by
  have N:Inv cf { h with m:=cN h.m p q k }:=i.bytes _ _ _
  have F:=N.openN9 (L.bytes (cN h.m p q k)) R S T
  have G:=N.openN9 (M.bytes (cN h.m p q k)) R S T
  have s:=ka B y _ cf _ (p+k) l b X N.out Z Z
  rw [I7 Z] at s
  dsimp only at s F G
  rw [F,tm rfl] at s
  refine s.mono ?_
  rintro e x ⟨A,j,Y,⟨_,v,rfl,own⟩|⟨Q,_⟩⟩
  rotate_left
  ·exact absurd rfl Q
  have u:(aI (cN h.m p q k) (p+k) l).length=l:=by simp [aI]
  obtain⟨a,c,rfl,w,K⟩:=j.daOwn own
  rw [u] at w K ⊢
  refine⟨A,a,c,rfl,j,Y,w,?_⟩
  have t:=iZ B y _ cf _ (q+k) a l c _ x j N.out Z K w
  rw [u] at t
  dsimp only at t
  rw [G,tm rfl,wR h.m p q k l Z] at t
  refine t.mono ?_
  rintro e V ⟨f2,o,r,⟨_,rfl⟩|⟨Q,_⟩⟩
  ·exact⟨rfl,⟨f2,o⟩,r⟩
  exact absurd rfl Q)
 have x:=H (show Hp B y { d with f:=d.f } cf { h with m:=cN h.m p q 0 } W from O);clear O i L M z P;go_enter func107,ntmps107;go_wp2;go_loopg [8] n (λgk i wr=>∃ (k:Nat) (f:Nat->Option Nat),i=U k/\gk=n-k/\k<=n+4096/\Hid (Hp B y { d with f:=f } cf { h with m:=cN h.m p q (min k n) } wr)/\Hid (Bi B W wr));case atStart=>exact ⟨0,d.f,rfl,Z,Z,H (by rw [I7 (Jt _)];exact x),H (Bi.refl _ _)⟩
 case round =>
  obtain⟨k,f,rfl,R,Q,v,G⟩:=hrel;clear x;by_cases K:k<n
  ·rw [I7 Z] at v;have L:(k:Int)<(n:Int):=Z;have l:((p+k:Nat):Int)=(p:Int)+(k:Int):=Z;have u:((q+k:Nat):Int)=(q:Int)+(k:Int):=Z;by_cases w:n-k<=4096
   ·have M:(n:Int)-(k:Int)<=4096:=Z;have s:=H (g k (n-k) f wr Z Z w v);have i:(((n-k:Nat):Nat):Int)=(n:Int)-(k:Int):=Z;have z:k+(n-k)=n:=Z;rw [i,z,l,u] at s;clear g v w i z l u;go_wp2_with fail;refine (s).mono ?_;rintro e b ⟨A,a,c,rfl,j,i,N,t⟩;have z:=H t;have F:=H (G.trans i);clear t s i j;go_wp2_with fail;refine (z).mono ?_;rintro e V ⟨rfl,⟨f2,o⟩,r⟩;have O:=H o;have P:=H (F.trans r);clear z o r F;go_wp2
    go_roundg (n-(k+4096))
    (case rel=>exact ⟨k+4096,f2,by rw [Int.natCast_add];rfl,rfl,Z,H (by rw [Nat.min_eq_right Z];exact O),P⟩);case measure=>omega
   have M:¬((n:Int)-(k:Int)<=4096):=Z;have s:=H (g k 4096 f wr Z Z Z v);rw [l,u] at s;clear g v w l u;go_wp2_with fail;refine (s).mono ?_;rintro e b ⟨A,a,c,rfl,j,i,N,t⟩;have z:=H t;have F:=H (G.trans i);clear t s i j;go_wp2_with fail;refine (z).mono ?_;rintro e V ⟨rfl,⟨f2,o⟩,r⟩;have O:=H o;have P:=H (F.trans r);clear z o r F;go_wp2
   go_roundg (n-(k+4096))
   (case rel=>exact ⟨k+4096,f2,by rw [Int.natCast_add];rfl,rfl,Z,H (by rw [I7 Z];exact O),P⟩);case measure=>omega
  have L:(n:Int)<=(k:Int):=Z;have i:=H (show Ir B y d cf { h with m:=cN h.m p q n } W (.returned (.tuple #[])) wr from ⟨rfl,⟨f,by have:=v.out;rw [Nat.min_eq_right Z] at this;exact this⟩,G⟩);clear v g K;go_wp2;go_end0;exact i.out
end
end Go.Proofs.YtdfodlhkdmkfdaaGreatDoor
