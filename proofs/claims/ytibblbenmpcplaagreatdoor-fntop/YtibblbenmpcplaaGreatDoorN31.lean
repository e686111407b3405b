import Derived.Test.YtibblbenmpcplaaGreatDoorN28
import Derived.Test.YtibblbenmpcplaaGreatDoorN29
set_option linter.unusedVariables false
set_option linter.unusedSimpArgs false
set_option maxRecDepth 20000
set_option maxHeartbeats 8000000
namespace Go.Proofs.YtibblbenmpcplaaGreatDoor
open Go.Proofs.Tryz
variable {cf:Cf} {h:Hs} {c j s:Nat}
section
open Go.RowKit Go.Maps
theorem CY (g) (w:World):(Instr.typeAssert (.iface 168 (J g 0)) 101 158 true).run prog w=.ok (.tuple #[.pointer none,.bool false]) w:=E
theorem BJ (g) (w:World):(Instr.typeAssert (.iface 158 (J g 0)) 101 158 true).run prog w=.ok (.tuple #[J g 0,.bool true]) w:=E
def dR (cf:Cf) (h:Hs):Fd->Fd
 | .slot c s j=>if sound cf h c s j then .slot c s j else .no 5
 | x=>x
def Dv (B:Nat) (y:Ly) (d:Dy) (cf:Cf) (h:Hs) (W:World) (f:Fd) (e:Ending) (W':World):Prop:=∃ i,AG y d f e/\Hp B y { d with f:=i } cf h W'/\Bi B W W'
theorem Inv.onLive (i:Inv cf h) (a:c<12) (b:s<6) (d:j<aM c) (f:h.st c s j=1):dA h c s=true:=by
 cases e:dA h c s with
 | true=>rfl
 | false=>have:=i.off c s a b e j d;rw [f] at this;cases this
theorem Inv.accS (i:Inv cf h) (a:c<12) (d:s<6) (e:j<aM c) (b:dA h c s=true) (k n:Nat) (f:1<=n) (g:k+n<=cy c):ci h.m (bh c s j+k) (n:Int)=0:=by
 have l:=ca a d e;have m:=aX a;refine jI f Z Z (λq o=>?_);have:=i.openS a d e b (k:=k+q) Z;rw [show bh c s j+k+q=bh c s j+(k+q) by omega];exact this
theorem oA (B y d cf h) (p:Nat) (W) (a:Hp B y d cf h W) (i:Inv cf h) (hb:Byt h.m) (P:p<18446744073709551616) (Q:h.rel.length<=100000) (R:0<=cf.key) (T:cf.key<18446744073709551616) :
  Calls prog 44 #[J y.P 0,U p] W (Dv B y d cf h W (dR cf h (aB h p))):=by
 have b:=H (nJ B y d cf h p W a i P Q);have X:=H (bT h p);have k:=H (λV (e:D W V)=>a.below e);have K:=H a.bW;clear a;generalize aB h p=fd at *;go_enter func44,ntmps44;go_wp2_with fail;refine (b).mono ?_;rintro e V ⟨lk,a⟩;have l:=H a;clear b a;cases lk with
 | no a =>
  exact⟨rfl,d.f,.no a,k V l,Bi.ofBelow l K⟩
 | range r g a =>
  have ta:=λw=>CY g w
  clear X;go_wp2;go_ret;exact⟨d.f,.range r g a,k V l,Bi.ofBelow l K⟩
 | slot c s j =>
  obtain⟨n,r,t,F,z⟩:c<12/\s<6/\j<aM c/\bh c s j=p/\h.st c s j=1:=by
   have:=X.out;generalize a:Fd.slot c s j=fd at this;cases this with
   | slot u v x b g m o q=>cases a;exact⟨b,g,m,o,q⟩
   | range=>cases a
   | no=>cases a
  have m:=i.onLive n r t z;have hz:=aX n;have a6:=ca n r t;have b:ci h.m (bh c s j+eV c) ((8:Nat):Int)=0:=i.accS n r t m (eV c) 8 Z Z;have ta:=λw=>BJ (y.sm c s j) w
  have v:=k.out V l.out;have A:=H (λa (u:D V a)=>kC (y.sm c s j) (y.sb c s) c s j a ((v.scAt c s j n r t).below u));have q:=H (λa (u:Hp B y d cf h a)=>jy B y d cf h (bh c s j+eV c) 8 a u i.out Z Z);rw [show min 8 4097=8 from rfl,b] at q;rw [GP rfl] at q;have SB:=H (λx a (u:Hp B y { d with f:=x } cf h a)=>eI (y.sm c s j) (y.sb c s) c s j a (u.scAt c s j n r t));have CN:=H (λa=>rk cf.key (bh c s j:Nat) a R T Z Z);have EQ:=H (λu1 u2 a g i=>xu u1 u2 (aH h.m (bh c s j+eV c) 8) (can cf (bh c s j)) a g i (hb.load _ _) (tT cf _));have L:=H (show sound cf h c s j=(aH h.m (bh c s j+eV c) 8==can cf (bh c s j)) from rfl);have o:=H v;have a7:=H (show (aH h.m (bh c s j+eV c) 8).length=8 by simp [aH]);have Y:=H (show gI (cx cf.key ((bh c s j:Nat):Int))=can cf (bh c s j) from rfl);have a0:=H (AG.slot (y:=y) (d:=d) c s j);have g:=H (show dR cf h (.slot c s j)=if sound cf h c s j then .slot c s j else .no 5 from rfl);clear v X z m b F;generalize y.sm c s j=gm at *;generalize aH h.m (bh c s j+eV c) 8=z at *;go_wp2_with fail;refine (A _ (Fu _ _)).mono ?_;rintro e V2 ⟨rfl,b⟩;have G:=H (o.below b);have O:=H ((Bi.ofBelow l K).add b (Fx K l.size));clear b A o;go_wp2_with fail;refine (q _ G).mono ?_;rintro e V3 ⟨x,m,o,⟨_,v,rfl,b⟩|⟨hn,_⟩⟩
  rotate_left
  ·exact absurd rfl hn
  have M:=H m;have B3:=H (O.trans o);have A:=H (te b);obtain⟨va,vn,vc,rfl⟩:=aA b;have ck:=m.cell 4 Z _ rfl;have N:=H (show ∀ F,D V3 F->F.cell? ⟨y.P,4,none⟩=some (U cf.key) from λF k=>ad k ck);clear m o b q G O ck;go_upto_region 5 with fail
  refine rh (S:=λF=>F.cell? ⟨y.P,4,none⟩=some (U cf.key)) ?_;have m:=N.out _ (Fu _ _).drew;iterate 7 (refine py m ?_;simp only [f0,f1,Nat.reduceAdd,lz,l0,ls])
  refine po 7 λK' b=>?_;go_simp;refine (SB x _ (M.below (Fu _ _).drew)).mono ?_;rintro e V4 ⟨rfl,o⟩;have k4:D V3 V4:=⟨o.os,o.tape,o.output,o.size,o.block⟩;have h4:=N.out _ k4;refine b _ _ ⟨h4,?_⟩;clear m;have m:=h4;clear b K';refine po 8 λK' b=>?_
  go_simp;refine (CN _).mono ?_;rintro e V5 ⟨rfl,r5,b5⟩;have q:=az k4 b5;have O:=N.out _ q;refine b _ _ ⟨O,?_⟩;clear m;have m:=O;rw [Y.out] at r5;have G:=BG r5 (by unfold can;exact dK _);clear b K';refine po 9 λK' b=>?_;go_simp;refine (EQ _ _ _ (A.below q) G).mono ?_;rintro e V6 ⟨rfl,hw⟩;rw [hw];clear hw V6;refine b _ _ ⟨O,?_⟩;clear b K';refine py m ?_;simp only [f0,f1,Nat.reduceAdd,lz,l0,ls];refine bY ?_;have K5:=H q;have B5:=H (B3.add q M.bW);have H5:=H (M.below q);clear m O h4 q k4 o b5 r5 G A N SB CN EQ M B3
  cases m:(z==can cf (bh c s j)) with
  | true =>
   have b:=H (show dR cf h (.slot c s j)=.slot c s j by rw [g.out,L.out,m];rfl);clear m L g;go_wp2;go_ret;rw [b.out];exact⟨x,a0,H5,B5⟩
  | false =>
   have b:=H (show dR cf h (.slot c s j)=.no 5 by rw [g.out,L.out,m];rfl);clear m L g;go_wp2;rw [b.out];exact⟨rfl,x,.no 5,H5,B5⟩
theorem Ck {W:World} {B n k:Nat} {a:Option Addr} {g} {l:List Nat} (h:W.ownsRow B 158 1 (.slice a n c) l.length (Pt g l)) (i:k<l.length) (q:Nat) (d:l[k]?=some q):∃ b,a=some ⟨b,0,none⟩/\W.cell? ⟨b,k,none⟩=some (J (g q) 0):=by
 have f:n=l.length:=by
  obtain⟨a,c,e⟩:=aK h;injection e with _ j _
 subst f;obtain⟨b,e⟩:=cr h Z;subst e;exact⟨b,rfl,bC h k _ (by simp [Pt,d])⟩
theorem Hp.daRow {B y d U} (j:Hp B y d cf h U) {g} {n:Nat} {m:List Int} (f:RowV U g 5 (Ns .u8 m)) (q:m.length=n):Da y.S y.M d.f U (some ⟨g,0,none⟩) n m:=by
 subst q;refine⟨rfl,λi r=>⟨⟨g,0,none⟩,rfl,?_,?_,?_,?_,?_⟩⟩;·rw [Addr.add_mid,Gb];exact jZ f i r
 ·rw [Addr.add_mid];exact f.lt
 ·rw [Addr.add_mid];obtain⟨c,b,_⟩:=f;intro e;have o:g=y.S:=e;rw [o,j.sp.box] at b;simp at b
 ·rw [Addr.add_mid];obtain⟨c,b,_⟩:=f;intro e;have o:g=y.M:=e;obtain⟨a,⟨l,p,k,_⟩,_⟩:=j.sp.map;rw [o,k] at b;cases b
 rw [Addr.add_mid];intro k p;obtain⟨c,b,_⟩:=f;rcases j.pg.at' k with ⟨a,_⟩|⟨t,l,u,a,_,_,s⟩;·rw [p] at a;cases a
 rw [p] at a;cases a;rw [s] at b;simp at b
theorem Bf:¬hI 158:=by unfold hI;decide
theorem Inv.accL (i:Inv cf h) (b:c<12) (d:s<6) (e:j<aM c) (a:dA h c s=true):ci h.m (bh c s j) ((cy c:Nat):Int)=0:=by
 have:=i.accS b d e a 0 (cy c) (by have:=aX b;omega) Z;simpa using this
theorem rT (B y d cf h an) (a:Nat) (W) (l:Hp B y d cf h W) (r:Gd d h an) (i:Inv cf h) (t:Byt h.m) (ha:a<=1016) (v:h.used+2000<=1000000) (w:mE cf) :
  Calls prog 71 #[J y.P 0,U a] W (AS B y cf an d.lg W (av cf h a)):=by
 obtain⟨g,p,c7⟩:=zO ha;have n:=H (lB (a:Nat) Z W l.tb);rw [g] at n;have MM:=H (iP (cf:=cf) (h:=h) ha);have HF:=H (show dy h (fD a) 6<2000 by
  have k:=mf h (fD a) 6;have b:=aX p;have:6*aM (fD a)<=6*64:=IJ _ Z;omega)
 have hz:=aX p;generalize o:fD a=c at *;obtain⟨A,b⟩:∃ A,bN cf c 2000 h=A:=⟨_,rfl⟩;rw [b] at MM;obtain⟨q,e⟩:∃ q,av cf h a=q:=⟨_,rfl⟩;rw [e] at MM ⊢;have HR:=H b;have a5:=H l;have a6:=H r;have I0:=H i;have a7:=H t;have DK:=H w;have HU:=H v;have BW:=H l.bW;clear b e l r i t w v g o;go_enter func71,ntmps71;go_wp2_with fail;refine (n).mono ?_;rintro e W1 ⟨rfl,rfl⟩;clear n;go_wp2;go_loopg [6] 2000 (λgk _ wr=>∃ (r:Hs) (b:Dy),Hid (bN cf c gk r=A)/\Hid (dy r c 6<gk)/\Hid (Hp B y b cf r wr)/\Hid (Gd b r an)/\Hid (Inv cf r)/\Hid (Byt r.m)/\Hid (Bi B W1 wr)/\Hid (r.used+gk<=h.used+2000)/\Hid (Kl d.lg b));case atStart=>exact ⟨h,d,HR,HF,a5,a6,I0,a7,H (Bi.refl _ _),H (Fv _),H (Kl.refl d)⟩
 case round =>
  obtain⟨r,d1,g,KF,KP,KG,KI,KY,KB,KU,KL⟩:=hrel;clear a5 a6 I0 a7 HR HF;obtain⟨f,b⟩:∃ f,gk=f+1:=⟨gk-1,by have:=KF.out;omega⟩;have a1:=H b;have a2:=H (show (match cJ cf r c with
    | none=>(none,r)
    | some (s,k)=>if clean k.m (bh c s (du cf k c s)) (cy c) then (some (s,du cf k c s),{ k with used:=k.used+1 })
     else bN cf c f { k with used:=k.used+1,st:=aE k.st c s (du cf k c s) 4 })=A by
   have:=g.out;rw [b,f_] at this;exact this)
  have i:=H (Bb B y d1 cf r an c wr KP KG KI p);have RM:=H (λs k (hr:cJ cf r c=some (s,k))=>IT (KI.room p hr) (tI hr));clear b g;go_wp2_with fail;refine (i).mono ?_;rintro e V ⟨rm,b⟩;have BI:=H (KB.trans b);clear i b;generalize b:cJ cf r c=ro at *;have c8:=H b;clear b;cases rm with
  | no _ b =>
   have HE:=H (show q=(none,r) by rw [MM.out,<-a2.out];rfl);refine⟨rfl,?_,BI⟩;rw [HE.out];exact .no r V b
  | yes s k _ hg =>
   obtain⟨w,g,v,b⟩:=hg;have a8:=H (KL.trans b);clear b;obtain⟨⟨i,R,z,K,O,F,G⟩,L⟩:=RM.out s k rfl;have P:=H (show (if clean k.m (bh c s (du cf k c s)) (cy c) then (some (s,du cf k c s),{ k with used:=k.used+1 })
     else bN cf c f { k with used:=k.used+1,st:=aE k.st c s (du cf k c s) 4 })=A from a2)
   obtain⟨M,c0,N⟩:=oH cf K;have c9:=iD k c s;have c1:=mW cf k K;have a9:=H (show Byt k.m by rcases L with e|e <;> rw [e];exact KY.out;exact KY.fresh _ _);have t:=H g;have o:=H v;have J1:=H R;have a3:=H z;have c2:=H G;have b0:=H F;have b4:=H N;have l:=H c0;have x:=H (pa (y.sb c s) (y.sr c s) c s (aM c) (y.sc c s) (w.on c s) (y.sm c s) (k.st c s) V (g.bc c s p i) Z (λj b=>g.rowAt c s j p i b) (λj b=>(g.smAt c s j p i b).1));rw [jB] at x;have T:=H (λb (n:Hp B y w cf k b)=>oL B y w cf k (freeS k c s).length b n Z Z (by have:=HU.out;have:=KU.out;have:=b0.out;omega) DK.len);have d0:0<(freeS k c s).length:=K;have Q:=H (λ(b:World) (va:Option Addr) (K vc:Nat) (n:b.ownsRow V.heap.size 158 1 (.slice va K vc) (freeS k c s).length (Pt (y.sm c s) (freeS k c s)))=>Ck n c1 _ M);clear g v R z G O F L M N a2 RM KY KI;generalize g:du cf k c s=j at *;clear g;generalize g:dr cf k (freeS k c s).length=dd at *;clear g;generalize g:(freeS k c s).length=ll at *;clear g;go_wp2_with fail;refine (x).mono ?_;rintro e V1 ⟨v,rfl,own,O⟩;obtain⟨va,vc,rfl⟩:=aK own;have z:=H (t.below O);have G:=H (BI.add O t.bW);have L:=H own;clear own O x t BI;go_wp2_with fail;refine (T _ z).mono ?_;rintro e V2 ⟨rfl,x,F⟩;have g:=H x;have M:=H (G.trans F);obtain⟨gg,rfl,t⟩:=Q.out V2 va ll vc (ai L F.ky Bf);clear x F T L z G Q;have c6:(dd:Int)<(ll:Int):=Z;have SB:=H (λb (n:Hp B y w cf { k with used:=k.used+1 } b)=>eI (y.sm c s j) (y.sb c s) c s j b (n.scAt c s j p i l));have z:=H (λb (n:Hp B y w cf { k with used:=k.used+1 } b)=>dJ (c:Nat) b n.tb);rw [uT p] at z;have hA:=ca p i l.out;have x:=H (λb (n:Hp B y w cf { k with used:=k.used+1 } b)=>jy B y w cf { k with used:=k.used+1 } (bh c s j) (cy c) b n J1.out.out Z Z);rw [Hz Z] at x;have G:=H (show ∀ b (n:Hp B y w cf { k with used:=k.used+1 } b),Calls prog 46 #[J y.P 0,U (bh c s j:Nat),U (cy c:Nat)] b (CU B y w cf { k with used:=k.used+1 } b k.m 0 (aH k.m (bh c s j) (cy c))) from λb n=>by
    have:=x.out b n;dsimp only at this;rw [J1.accL p i l.out a3.out,GP rfl] at this;exact this)
   have Y:=H (λu b (n:Bs b u (aH k.m (bh c s j) (cy c)))=>BM u _ b n (a9.load _ _) (by simp [aH];omega) (by simp [aH];omega));have Q:=H (show clean k.m (bh c s j) (cy c)=(aH k.m (bh c s j) (cy c)).all (· == 0) from rfl);clear x;generalize aH k.m (bh c s j) (cy c)=b5 at *;generalize x:y.sm c s j=R at *;have T:=H x;clear x;go_wp2_with fail;refine (SB _ g).mono ?_;rintro e V3 ⟨rfl,b3⟩;have x:=H (g.below b3);have L:=H (M.add b3 g.bW);clear b3 g M t;go_wp2_with fail;refine (z _ x).mono ?_;rintro e V4 ⟨rfl,rfl⟩;clear z;go_wp2_with fail;refine (G _ x).mono ?_;rintro e V5 ⟨f',t,M,⟨_,v,rfl,g⟩|⟨hn,_⟩⟩
   rotate_left
   ·exact absurd rfl hn
   have z:=H (show Hp B y { w with f:=f' } cf { k with used:=k.used+1 } V5 from t);have X:=H (L.trans M);have N:=H (te g);clear t M g G x L;go_wp2_with fail;refine (Y _ _ N).mono ?_;rintro e V6 ⟨M,rfl,g,rfl⟩;have HM:=H g;clear g Y N;have b6:=H (show Gd { w with f:=f' } { k with used:=k.used+1 } an from ⟨o.on,o.un,o.an⟩);cases G:b5.all (λx=>x==0) with
   | false =>
    have c3:(0:Int)<M:=(by have:=HM.out;rw [G] at this;simpa using this);have g:=H (show bN cf c f { k with used:=k.used+1,st:=aE k.st c s j 4 }=A by
     have:=P.out;rw [GO (by rw [Q.out,G];decide)] at this;exact this)
    obtain⟨Y,b7⟩:=z.setSt1 p i l 4;have t:=(z.smAt c s j p i l).1;have x:V6.frozen? ⟨y.sm c s j,0,none⟩=false:=(by simp [World.frozen?,z.sm c s j p i l.out]);rw [T.out] at Y b7 t x;have H7:=H (show Hp B y { w with f:=f' } cf { k with used:=k.used+1,st:=aE k.st c s j 4 } (V6.setCell ⟨R,0,none⟩ (I 4)) from Y);have B7:=H (X.trans b7);have L:=H (show Gd { w with f:=f' } { k with used:=k.used+1,st:=aE k.st c s j 4 } an from ⟨o.on,o.un,o.an⟩);have N:=H (show Inv cf { k with used:=k.used+1,st:=aE k.st c s j 4 } from (J1.used (k.used+1)).retire p i l b4 a3);have F7:=H (show dy { k with used:=k.used+1,st:=aE k.st c s j 4 } c 6<f by
     have q1:=(jE (h:=k) (s:=s) l b4 6).2 i;have q2:dy { k with used:=k.used+1,st:=aE k.st c s j 4 } c 6=dy { k with st:=aE k.st c s j 4 } c 6:=rfl;have q3:dy k c 6=dy r c 6:=mT c2 c 6;have q4:=KF.out;have q5:=a1.out;omega)
    have U7:=H (show k.used+1+f<=h.used+2000 by
     have q1:=KU.out;have q2:=b0.out;have q5:=a1.out;omega)
    generalize k.st c s j=z4 at t;clear Y b7 G HM Q P z X SB b6 o KP KG;go_wp2
    go_roundg f
    (case rel=>exact ⟨_,_,g,F7,H7,L,N,a9,B7,U7,H (show Kl d.lg { w with f:=f' } from a8)⟩);case measure=>have:=a1.out;omega
   | true =>
    have c3:¬((0:Int)<M):=(by have:=HM.out;rw [G] at this;simpa using this);have HE:=H (show q=(some (bh c s j),{ k with used:=k.used+1,st:=aE k.st c s j 1,rq:=aE k.rq c s j a,m:=ay k.m (bh c s j+eV c) (can cf (bh c s j)) 8 }) by
     have:=P.out;rw [GP (by rw [Q.out,G])] at this;rw [MM.out,<-this];rfl)
    obtain⟨Y,b7⟩:=z.setRec p i l 1 (a:Nat);have g:=z.sm c s j p i l.out;rw [T.out] at Y b7 g;have t:V6.cell? ⟨R,0,none⟩=some (I (k.st c s j)):=bJ g;have x:V6.cell? ⟨R,1,none⟩=some (I (k.rq c s j)):=bJ g;have L:V6.frozen? ⟨R,0,none⟩=false:=(by simp [World.frozen?,g]);have N:V6.frozen? ⟨R,1,none⟩=false:=(by simp [World.frozen?,g]);simp only [World.setCells,Gb] at Y b7;clear g;generalize k.st c s j=q0 at t;generalize k.rq c s j=q1 at x;have H7:=H Y;have B7:=H (X.trans b7);clear Y b7 G HM Q P z X KP KG KF KU;(go_upto_region 7 with fail);generalize (V6.setCell ⟨R,0,none⟩ (I 1)).setCell ⟨R,1,none⟩ (I a)=V8 at *;clear t x L N SB b6;obtain⟨L,N⟩:∃ L:Hs,L={ k with used:=k.used+1,st:=aE k.st c s j 1,rq:=aE k.rq c s j a }:=⟨_,rfl⟩;obtain⟨x,t⟩:∃ x:Dy,x={ w with f:=f' }:=⟨_,rfl⟩;have a4:=H (show L.m=k.m by rw [N]);have H8:=H (show Hp B y x cf L V8 by rw [N,t];exact H7);have CA:=H (λb (n:Hp B y x cf L b)=>kC (y.sm c s j) (y.sb c s) c s j b (n.scAt c s j p i l));have SB:=H (λb (n:Hp B y x cf L b)=>eI (y.sm c s j) (y.sb c s) c s j b (n.scAt c s j p i l));rw [T.out] at CA SB;have CN:=H (λb=>rk cf.key (bh c s j:Nat) b DK.key0 DK.key1 Z Z);have a0:ci k.m (bh c s j+eV c) ((8:Nat):Int)=0:=J1.accS p i l a3 (eV c) 8 Z Z;have ST:=H (λb g (n:Hp B y x cf L b) (hr:RowV b g 5 (Ns .u8 (can cf (bh c s j))))=>iw B y x cf L (bh c s j+eV c) (some ⟨g,0,none⟩) 8 8 (can cf (bh c s j)) b n (by rw [a4.out];exact J1.out.out) Z (n.daRow hr (by unfold can;exact dK _)) (Fv _));have b8:=H (show ∀ (b:World) (g:Nat) (n:Hp B y x cf L b) (hr:RowV b g 5 (Ns .u8 (can cf (bh c s j)))),Calls prog 47 #[J y.P 0,U (bh c s j+eV c:Nat),Vl g 8 8] b (A9 B y x cf L b (ay k.m (bh c s j+eV c) (can cf (bh c s j)) 8) 0) from λb g n hr=>by
     have:=ST.out b g n hr;rw [show (can cf (bh c s j)).length=8 by unfold can;exact dK _,a4.out,a0,GP rfl] at this;exact this)
    have b9:=H (show ∀ f9 b,Hp B y { x with f:=f9 } cf { L with m:=ay k.m (bh c s j+eV c) (can cf (bh c s j)) 8 } b->TaR B y cf an d.lg q (.returned (.iface 158 (J R 0))) b from λf9 b n=>by
     rw [HE.out,<-T.out];refine .slot c s j _ b p i l ?_ ⟨{ x with f:=f9 },?_,?_,by show Kl d.lg { x with f:=f9 };rw [t];exact a8⟩;·show aE k.st c s j 1 c s j=1;exact aS _ _ _ _ _
     ·rw [N] at n;exact n
     refine⟨λc' s' c4 c5=>?_,by rw [t];exact o.un,by rw [t];exact o.an⟩;show x.on c' s'=(ay k.m _ _ 8 (aD c' s')).isSome;rw [dj,t];exact o.on c' s' c4 c5)
    have c4:=H (show gI (cx cf.key ((bh c s j:Nat):Int))=can cf (bh c s j) from rfl);have CK:=H (show ∀ b a g,Hp B y a cf g b->b.cell? ⟨y.P,4,none⟩=some (U cf.key) from λb a g n=>n.cell 4 Z _ rfl);clear ST a0 N t H7 HE o a4;generalize a0:bh c s j=AA at *;generalize eV c=uu at *;refine rh (S:=λa=>a.cell? ⟨y.P,4,none⟩=some (U cf.key)) ?_;have t:=CK.out V8.drew _ _ (H8.below (Fu _ _).drew);(iterate 2 (refine py t ?_;simp only [f0,f1,Nat.reduceAdd,lz,l0,ls]));refine pk 3 (J y.P 0) t ?_;refine pk 4 (J y.P 0) t ?_;refine pk 5 (J y.P 0) t ?_;refine pk 6 (J y.P 4) t ?_;refine pz 7 (U cf.key) t ?_;refine pk 8 (J R 0) t ?_;refine po 2 λK' N=>?_;go_simp;refine (CA _ (H8.below (Fu _ _).drew)).mono ?_;rintro e U1 ⟨rfl,O⟩;have k1:D V8 U1:=⟨O.os,O.tape,O.output,O.size,O.block⟩;have p1:=H8.below k1;have q1:=CK.out _ _ _ p1;refine N _ _ ⟨q1,?_⟩;clear t;have t:=q1;clear N K';refine po 9 λK' N=>?_
    go_simp;refine (SB _ p1).mono ?_;rintro e U2 ⟨rfl,b2⟩;have k2:=az k1 b2;have p2:=H8.below k2;have q2:=CK.out _ _ _ p2;refine N _ _ ⟨q2,?_⟩;clear t;have t:=q2;clear N K';refine po 10 λK' N=>?_;go_simp;refine (CN _).mono ?_;rintro e U3 ⟨rfl,r3,b3⟩;have k3:=az k2 b3;have p3:=H8.below k3;have q3:=CK.out _ _ _ p3;refine N _ _ ⟨q3,?_⟩;clear t;have t:=q3;rw [c4.out] at r3;clear N K';refine po 11 λK' N=>?_
    go_simp;refine (b8 _ _ p3 r3).mono ?_;rintro e U4 ⟨f9,p4,F,⟨_,rfl⟩|⟨hn,_⟩⟩
    rotate_left
    ·exact absurd rfl hn
    have q4:=CK.out _ _ _ p4;refine N _ _ ⟨q4,?_⟩;clear t;have t:=q4;clear N K';refine bY ?_;have N:=H (IT (b9 f9 U4 p4) ((B7.add k3 H8.bW).trans F));clear p1 p2 p3 p4 q1 q2 q3 q4 k1 k2 k3 O b2 b3 r3 F t CA SB CN b8 b9 CK H8 B7;go_wp2;go_ret;exact N.out
end
end Go.Proofs.YtibblbenmpcplaaGreatDoor
