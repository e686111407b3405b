import Derived.Test.YtdfodlhkdmkfdaaGreatDoorN01
import Derived.Test.YtdfodlhkdmkfdaaGreatDoorN02
set_option linter.unusedVariables false
set_option linter.unusedSimpArgs false
set_option maxRecDepth 20000
set_option maxHeartbeats 8000000
namespace Go.Proofs.YtdfodlhkdmkfdaaGreatDoor
open Go.Proofs.Tryz
variable {DB M Q S T b base n:Nat} {a bud nn st:Int} {f:Nat->Option Nat} {A W W' w:World} {m:Nat->Option (Bool×List Int)} {v:Value} {xs:List Value} {row:Option Nat}
section
open Go.RowKit Go.Shelf
attribute [local go_sem] Oper.semAt_some
theorem Pg.alloc {f m W} (h:Pg f m W) (o:Obj):Pg f m (W.alloc o):=by
 refine⟨?_,h.inj⟩;intro j;rcases h.at' j with a|⟨b,l,xs,a,d,e,c⟩;·exact .inl a
 exact .inr ⟨b,l,xs,a,d,e,by rw [(y6 W o none).block b (zQ c) bh];exact c⟩
theorem Im.grown {n} (h:Im S M st n bud f W) (c:W.grownBy W' none):Im S M st n bud f W':=by
 obtain⟨a,b,r⟩:=h.map;exact⟨by rw [c.block S (zQ h.box) bh];exact h.box,a,b.kept c bh,r⟩
theorem Pg.grown (h:Pg f m W) (d:W.grownBy W' none):Pg f m W':=by
 refine⟨?_,h.inj⟩;intro j;rcases h.at' j with a|⟨b,l,xs,a,e,g,c⟩;·exact .inl a
 exact .inr ⟨b,l,xs,a,e,g,by rw [d.block b (zQ c) bh];exact c⟩
theorem Fr.ofGrown (a:W.grownBy W' none):Fr S M f f W W' :=
 ⟨a.os,a.tape,a.output,a.size,λg b _ _ _=>a.block g b bh,λk g e=>.inl ⟨k,e⟩⟩
theorem eE {B a:World} (h:A.grownBy B none) (k:B.grownBy a none):A.grownBy a none :=
 ⟨k.os.trans h.os,k.tape.trans h.tape,k.output.trans h.output,Jp h.size k.size,λg b _=>by rw [k.block g (Ju b h.size) bh];exact h.block g b bh⟩
theorem Ld.init {b:World} (i:Im S M st nn bud f w) (j:Pg f m w) (d:(w.alloc (.cells #[I 0,C] 157)).grownBy b none) (v) :
  Ld S M st nn bud f m w w.heap.size b.heap.size v (b.alloc (.cells #[v] 52)):=by
 have e:=eE (y6 w (.cells #[I 0,C] 157) none) (eE d (y6 b (.cells #[v] 52) none));have g:w.heap.size<b.heap.size:=by have:=d.size;simp at this;omega
 refine⟨i.grown e,j.grown e,Fr.ofGrown e,?_,(G9 b _).1,?_,Jo _,Z⟩;·rw [(y6 b (.cells #[v] 52) none).block _ g bh,d.block _ bh bh];exact (G9 w _).1
 obtain⟨a,c,_⟩:=i.map;exact c.lt
theorem Cl.made (S a n) (W:World):Cl S W.heap.size a n (((W.alloc (.cells #[J S 0] 66)).alloc (.cells #[U a] 22)).alloc (.cells #[I n] 3)):=by
 refine⟨?_,?_,?_⟩;·rw [(y6 _ _ none).block _ cd bh,(y6 _ _ none).block _ bh bh];exact (G9 W _).1
 ·rw [(y6 _ _ none).block _ bh bh];have:=(G9 (W.alloc (.cells #[J S 0] 66)) (.cells #[U a] 22)).1;simpa using this
 have:=(G9 ((W.alloc (.cells #[J S 0] 66)).alloc (.cells #[U a] 22)) (.cells #[I n] 3)).1;simpa using this
theorem Kp.below {N:Nat} {B:World} (h:Below N A B) (c:S<N) (d:M<N) (e:b+1+1<N):Kp S M b A B :=
 ⟨h.size,λg a=>h.block g (by rcases a with rfl|rfl|rfl|rfl|rfl <;> omega)⟩
theorem Ap {N:Nat} (d:S<N) (e:M<N) (f:b+1+1<N) (W:World) (l:Nat) (o a:Obj) (i:N<=l) (h:W.heap[l]?=some o):Kp S M b W (W.putObj l a) :=
 ⟨(grownBy_putObj' W l a).size,λg c=>(grownBy_putObj' W l a).block g (by have:=zQ h;rcases c with rfl|rfl|rfl|rfl|rfl <;> omega) (by simp;rcases c with rfl|rfl|rfl|rfl|rfl <;> omega)⟩
theorem pA (h:A.ownsRow base 5 1 v n xs) (b:∀ r,row=some r->∃ o:Obj,A.heap[r]?=some o/\o.isCells=false):v.ownBlock=none\/v.ownBlock≠row:=by
 rcases h.2 with ⟨rfl,_⟩|⟨g,c,d,rfl,_,f,_⟩;·exact .inl rfl
 right;intro e;obtain⟨o,a,i⟩:=b g e.symm;rw [f] at a;cases a;cases i
theorem oW (h:A.ownsRow base 5 1 v n xs):∃ p l c,v=.slice p l c:=by
 rcases h.2 with ⟨rfl,_⟩|⟨g,a,b,rfl,_⟩;·exact⟨_,_,_,rfl⟩
 exact⟨_,_,_,rfl⟩
theorem core (o:Im S M st nn bud f w) (q:Pg f m w) (p:Im S M st nn bud f W) (pg:Pg f m W) (c:Fr S M f f w W) (i:W.grownBy W' row) (s:∀ r,row=some r->w.heap.size<=r) :
  Im S M st nn bud f W'/\Pg f m W'/\Fr S M f f w W':=by
 have k:∀ g,g<w.heap.size->W'.heap[g]?=W.heap[g]?:=λg n=>i.block g (Ju n c.size) (λe=>by have:=s g e.symm;omega)
 refine⟨⟨(k S (zQ o.box)).trans p.box,?_⟩,⟨?_,pg.inj⟩,?_⟩;·obtain⟨_,e,_⟩:=o.map;obtain⟨a,⟨j,d,l,t⟩,r⟩:=p.map;exact⟨a,⟨j,d,(k M e.lt).trans l,t⟩,r⟩
 ·intro j;rcases pg.at' j with a|⟨b,l,xs,a,d,e,t⟩;·exact .inl a
  obtain⟨_,_,_,_,u⟩:=q.cell a;exact .inr ⟨b,l,xs,a,d,e,(k b (zQ u)).trans t⟩
 refine⟨i.os.trans c.os,i.tape.trans c.tape,i.output.trans c.output,Jp c.size i.size,?_,c.made⟩;intro g n a d e;rw [k g n];exact c.block g n a d e
theorem vZ {c:Array Value} {t:TypeId} {z:Nat×Nat} (h:A.ownsRow base 5 1 v n xs) (a:A.heap[DB]?=some (.cells c t z)) (b:t≠5):v.ownBlock=none\/v.ownBlock≠some DB:=by
 rcases h.2 with ⟨rfl,_⟩|⟨g,d,f,rfl,_,i,_⟩;·exact .inl rfl
 right;intro e;cases e;rw [i] at a;cases a;exact b rfl
theorem Cy (h:A.ownsRow base 5 1 v n xs):∀ r,v.ownBlock=some r->base<=r/\∃ c,A.heap[r]?=some (.cells c 5):=by
 intro r e;rcases h.2 with ⟨rfl,_⟩|⟨g,b,a,rfl,c,d,_⟩;·cases e
 cases e;exact⟨c,a,d⟩
theorem Ld.kpRow {R n} (h:Ld S M st nn bud f m w R DB v W) (i:Cl S b a n W) (j:W.grownBy W' row) (k:∀ r,row=some r->w.heap.size<=r/\∀ c t z,W.heap[r]?=some (.cells c t z)->t=5):Kp S M b W W':=by
 have d:∀ (b:Nat) (c:Array Value) (t:TypeId) (z:Nat×Nat),W.heap[b]?=some (Obj.cells c t z)->t≠5->W'.heap[b]?=W.heap[b]?:=λb c t z l o=>j.block b (zQ l) (λe=>o ((k b e.symm).2 c t z l))
 refine⟨j.size,?_⟩;rintro g (rfl|rfl|rfl|rfl|rfl);·exact d _ _ _ _ h.im.box al
 ·exact j.block _ (Ju h.mlt h.fr.size) (λe=>by have:=(k _ e.symm).1;have:=h.mlt;omega)
 ·exact d _ _ _ _ i.s al
 ·exact d _ _ _ _ i.a al
 exact d _ _ _ _ i.n al
theorem Ld.kpBox {R n} (h:Ld S M st nn bud f m w R DB v W) (i:Cl S b a n W) (j:Value):Kp S M b W (W.setCell ⟨DB,0,none⟩ j):=by
 have d:∀ (b:Nat) (c:Array Value) (t:TypeId) (z:Nat×Nat),W.heap[b]?=some (Obj.cells c t z)->t≠52->(W.setCell ⟨DB,0,none⟩ j).heap[b]?=W.heap[b]?:=by
  intro b c t z g k;refine t4 _ _ _ _ ?_;intro e;simp at e;subst e;rw [h.box] at g;cases g;exact k rfl
 refine⟨by simp [World.setCell],?_⟩;rintro g (rfl|rfl|rfl|rfl|rfl);·exact d _ _ _ _ h.im.box al
 ·refine t4 _ _ _ _ ?_;have:=h.mlt;have:=h.dge;simp;omega
 ·exact d _ _ _ _ i.s al
 ·exact d _ _ _ _ i.a al
 exact d _ _ _ _ i.n al
theorem BJ (S M st nn bud f m) (a n:Nat) (w) (j:Im S M st nn bud f w) (k:Pg f m w) (hn:n<=4096) (ha:n=0\/a+n<=4611686018427387904) (c:∀ d,d<n->∃ g,f ((a+d)/1024)=some g) (h:∀ w,Im S M st nn bud f w->Pg f m w->Calls prog 242 #[J S 0,U a,I n] w λe X=>e=.returned (I 0)/\X=w) :
  CallsIn Fence.wide 5 prog 202 #[J S 0,U a,I n] w λe X=>∃ v,e=.returned (.agg #[I 0,v])/\X.ownsRow w.heap.size 5 1 v n (Ns .u8 ((List.range n).map λi=>bN m (a+i)))/\Im S M st nn bud f X/\Pg f m X/\Fr S M f f w X:=by
 obtain⟨i0,a0,a1,a2,a3⟩:=zr Tryz.info5By;have H1:=H h;have G:=H (LG j k);have HP:=H c;clear h j k c;refine callsIn_of_wp_marks func202 rfl trivial ?_ rfl;simp only [ntmps202,JJ,JD,JO,Nat.reduceAdd,Nat.reduceSub,JI,JH,JM,KZ,JF,JP]
 gi_wp2_with fail
 refine⟨trivial,?_⟩;refine ((callsIn_wide (n:=4)).2 (H1 _ (G.1.alloc _) (G.2.alloc _))).mono ?_;rintro _ _ ⟨rfl,rfl⟩
 gi_wp2_with (gi_at_make;refine wpListIn_make_own _ rfl _ _ 52 rfl w.heap.size 5 i0 (.int .u8 0) 1 underlying52 a0 a1 a2 .i64 .i64 _ n rfl rfl rfl ?c1 ?c2 ?c3 ?_)
 case c1=>rw [a3];omega
 case c2=>unfold maxLen;omega
 case c3=>simp
 intro w2 i c;have j:=Ld.init G.1 G.2 c (Vl (w.heap.size+1) 0 n);have l:=i.alloc (.cells #[Vl (w.heap.size+1) 0 n] 52);have k:=H (LG j l);have hS:=H (Ju (zQ G.1.box) j.fr.size);have hM:=H (Ju j.mlt j.fr.size);have L:=H j.fr.size;clear i c j l
 gi_wp2_with fail
 refine⟨trivial,?_⟩;obtain⟨j,c⟩:∃ j,w2.alloc (.cells #[Vl (w.heap.size+1) 0 n] 52)=j:=⟨_,rfl⟩;obtain⟨DB,i⟩:∃ DB,w2.heap.size=DB:=⟨_,rfl⟩;rw [c] at k hS hM L;rw [i] at k;rw [c,i];clear c i;refine ((callsIn_wide (n:=4)).2 (pC _ _ _ _)).mono ?_;rintro e w4 ⟨rfl,rfl⟩;gi_wp2;have HC:=H (Cl.made S a n j);have i:=eE (y6 j (.cells #[J S 0] 66) none) (eE (y6 _ (.cells #[U a] 22) none) (y6 _ (.cells #[I n] 3) none));have q:=H (LG (k.1.keep i (λr e=>by cases e)) (k.2.kept i (.inr (by simp [Value.ownBlock]))));have h4:j.heap.size+1+1+1=(((j.alloc (.cells #[J S 0] 66)).alloc (.cells #[U a] 22)).alloc (.cells #[I n] 3)).heap.size:=bh;obtain⟨Y,c⟩:∃ Y,((j.alloc (.cells #[J S 0] 66)).alloc (.cells #[U a] 22)).alloc (.cells #[I n] 3)=Y:=⟨_,rfl⟩;rw [c] at HC q h4;rw [c];clear i c k;have hS:=hS.out;have hM:=hM.out;have L:=L.out;refine wpIn_rangeFunc_ownF rfl Z (gf:=264) (lb:=#[J (j.heap.size+1+1) 0,J (j.heap.size+1) 0,J j.heap.size 0]) rfl trivial (enters_of func264 E rfl)
  (encs:=λx : { d:Nat // d<n }=>xA f a n x.1) (Kp:=Kp S M j.heap.size) (S:=λys=>Got a n ys n) (Sp:=λi=>∃ d,Got a n i d) (N:=n) (w0:=Y)
  (λl c k W d o p p s=>oR S M st nn bud f a n l j.heap.size 4 Z hn ha HP c k W o p (HC.kp (Kp.below (M:=M) (N:=Y.heap.size) d Z Z Z)) (q.1.im.kp (Kp.below (N:=Y.heap.size) (b:=j.heap.size) d Z Z Z)) s)
  Kp.trans (λW l o c k h _ _=>Ap (S:=S) (M:=M) (b:=j.heap.size) (N:=Y.heap.size) Z Z Z W l o c k h) (Jn _ _) (λ_=>rfl)
  (λi W=>∃ v,Ld S M st nn bud f m w w.heap.size DB v W/\W.ownsRow w.heap.size 5 1 v (dA m a n i).length (Ns .u8 (dA m a n i))/\Cl S j.heap.size a n W)
  (λc i W=>False)
  ?own (λc s A B row d O hr=>d) ⟨_,q.1,q.2,HC⟩
  (λx=>{ tmps:=#[J S 0,U a,I n,undef,undef,undef,J w.heap.size 0,I 0,J DB 0,.slice (some ⟨(f ((a+x.1)/1024)).getD 0,(a+x.1)%1024,none⟩) (bd a n x.1) (1024-(a+x.1)%1024),J S 0,U a,I n,I 0,I 0,.bool false,undef,undef,I n,Vl (w.heap.size+1) 0 n,J S 0,U a,I n,.func (.func 264) #[] #[J (j.heap.size+1+1) 0,J (j.heap.size+1) 0,J j.heap.size 0],.slice (some ⟨(f ((a+x.1)/1024)).getD 0,(a+x.1)%1024,none⟩) (bd a n x.1) (1024-(a+x.1)%1024),undef,undef,undef,undef,undef],defers:=[] }) ?assign ?body ?done ?stop
 case own =>
  rintro s A B row ⟨v,k,y,P⟩ O hr;have hb:∀ r,row=some r->w.heap.size<=r/\∀ c t z,A.heap[r]?=some (.cells c t z)->t=5:=by
   intro r e;obtain⟨h1,o,Q,d⟩:=hr r e;refine⟨Z,λc t z h5=>?_⟩;rw [h5] at Q;cases Q;cases d
  exact⟨v,k.keep O hb,y.kept O (pA y λr e=>(hr r e).2),P.kp (k.kpRow P O hb)⟩
 case assign =>
  intro l x W K hK;unfold xA;gi_wp2;exact hK
 case stop =>
  intro d c i W _ _ h;exact h.elim
 case body =>
  rintro l i x W ⟨v,k,y,P⟩ a5;obtain⟨c1,c2,_,_,_,_⟩:=k.cells;obtain⟨g,O⟩:=HP.out x.1 x.2;have F:=ry k.pg (n:=n) O;have K:=Cy y;have p:=H (LG k (LG y P));have a4:(dA m a n i).length<=1024*i.length:=lj m a n i;have a6:=rz a n x.1;rw [O];simp only [H4];have T:=H (LG F K);have a7:=H (Jp L (show j.heap.size<=j.heap.size from Jo _));have V:=H k.fr.size;clear k y P F K q HC
  gi_wp2_with (gi_at_builtin;refine wpListIn_append_own _ rfl _ _ 52 rfl w.heap.size 5 i0 (.int .u8 0) 1 1 underlying52 a0 a1 a2 a3 rfl Z _ _ _ rfl p.2.1 _ _ _ (Ns .u8 (gG m a n x.1)) rfl ?b0 T.1 ?b1 ?b2 ?b3 ?b4 ?_)
  case b0=>simp [Ns,jC]
  case b1 =>
   intro u F;simp only [Ns,JE] at F;obtain⟨z,_,rfl⟩:=F;rfl
  case b2=>unfold maxLen;omega
  case b3=>omega
  case b4=>exact V.out
  intro v1 w1 R K _;obtain⟨p1,l1,k1,rfl⟩:=oW R;have hb:∀ r,v.ownBlock=some r->w.heap.size<=r/\∀ c t z,W.heap[r]?=some (.cells c t z)->t=5:=by
   intro r e;obtain⟨h1,c0,Q⟩:=T.2 r e;refine⟨h1,λc t z h5=>?_⟩;rw [h5] at Q;cases Q;rfl
  have L1:=p.1.keep K hb;have K1:=p.1.kpRow p.2.2 K hb;have C1:=p.2.2.kp K1;have KO:KeepsOthers W w1:=KeepsOthers.of_grownBy K (λj o e y=>by obtain ⟨_,c0,Q⟩:=T.2 j e;rw [Q] at y;cases y;rfl);have F:=H (LG L1 (LG K1 (LG C1 (LG KO R))));obtain⟨d1,d2,_,_,_,_⟩:=L1.cells;clear L1 K1 C1 KO R K hb c1 c2;gi_wp2;have K:=F.2.2.2.2.kept (au (ao w1 DB) 0 (.slice p1 l1 k1)) (vZ F.2.2.2.2 F.1.box al);have R:(dA m a n (i++[x])).length=(dA m a n i).length+bd a n x.1:=by rw [ca,Jv,jC]
  have e2:Ns .u8 (dA m a n (i++[x]))=Ns .u8 (dA m a n i)++Ns .u8 (gG m a n x.1):=by rw [ca];simp [Ns]
  rw [<-R,<-e2] at K;exact⟨F.2.2.2.1.trans (KeepsOthers.setCell _ _ _),F.2.1.trans (F.1.kpBox F.2.2.1 _),_,F.1.store _,K,F.2.2.1.kp (F.1.kpBox F.2.2.1 _)⟩
 case done =>
  rintro d ys W hD F ⟨v,k,y,P⟩ hK;obtain⟨c1,c2,c3,c4,c5,c6⟩:=k.cells;have p:=H (LG k (LG y F));obtain⟨K,R,T,rfl⟩:=oW y;clear k y P F q HC;gi_wp2;have F:=((KeepsOthers.setCell W ⟨w.heap.size,0,none⟩ (I 0)).trans (KeepsOthers.setCell _ ⟨w.heap.size,1,none⟩ (.slice K R T))).same d _ hK rfl;have V:((W.setCell ⟨w.heap.size,0,none⟩ (I 0)).setCell ⟨w.heap.size,1,none⟩ (.slice K R T)).heap[w.heap.size]?=some (.cells #[I 0,.slice K R T] 157):=by
   rw [aO (aO p.1.res _)];rfl
  have g2:W.grownBy ((W.setCell ⟨w.heap.size,0,none⟩ (I 0)).setCell ⟨w.heap.size,1,none⟩ (.slice K R T)) (some w.heap.size):=au (au (ao W w.heap.size) 0 _) 1 _;have o2:=p.2.1.kept g2 (vZ p.2.1 p.1.res al);have q2:=core G.1 G.2 p.1.im p.1.pg p.1.fr g2 (λr e=>by cases e;exact Jo _);have a5:w.heap.size<=d:=Z;clear c1 c2 c3 c4 c5 c6 hK;generalize (W.setCell ⟨w.heap.size,0,none⟩ (I 0)).setCell ⟨w.heap.size,1,none⟩ (.slice K R T)=W5 at *;have g3:=grownBy_putObj' W5 d (.deferred none);have o3:=o2.kept g3 (pA o2 λr e=>by cases e;exact⟨_,F,rfl⟩);have q3:=core G.1 G.2 q2.1 q2.2.1 q2.2.2 g3 (λr e=>by cases e;exact a5);have a4:=(g3.block w.heap.size (zQ V) (λe=>by cases e;rw [V] at F;cases F)).trans V;rw [p.2.2.bytes] at o3;simp only [JZ,Kn] at o3;refine⟨bh,.inl ⟨_,_,rfl,run_takeDeferred F,?_⟩⟩;refine⟨.agg #[I 0,.slice K R T],?_,_,rfl,o3,q3⟩;have r1:(W5.putObj d (.deferred none)).cell? ⟨w.heap.size,0,none⟩=some (I 0):=by simp [World.cell?,a4]
  have r2:(W5.putObj d (.deferred none)).cell? ⟨w.heap.size,1,none⟩=some (.slice K R T):=by simp [World.cell?,a4]
  simp [results,Tryz.f202,go_sem,r1,r2]
def zE (W:World) (c:Array Value) (k:Nat):Option (Bool×List Int)->Prop
 | none=>c[k*3]?=some (.bool false)/\c[k*3+1]?=some (.bool false)/\c[k*3+2]?=some (C)
 | some (l,xs)=>c[k*3]?=some (.bool true)/\c[k*3+1]?=some (.bool (!l))/\xs.length=1024/\∃ g,c[k*3+2]?=some (Vl g 1024 1024)/\W.heap[g]?=some (.cells (Ns .u8 xs).toArray 5)
structure Sx (T Q n:Nat) (bud:Int) (m:Nat->Option (Bool×List Int)) (W:World):Prop where
 box:W.heap[T]?=some (.cells #[Vl Q n n,I bud] 162)
 row:∃ c,W.heap[Q]?=some (.cells c 164)/\c.size=n*3/\(∀ k,k<n->zE W c k (m k))/\∀ j k g,j<n->k<n->c[j*3+2]?=some (Vl g 1024 1024)->c[k*3+2]?=some (Vl g 1024 1024)->j=k
 out:∀ k,n<=k->m k=none
theorem Sx.c (h:Sx T Q n bud m W) :
  W.cell? ⟨T,0,none⟩=some (Vl Q n n)/\W.cell? ⟨T,1,none⟩=some (I bud):=by
 have a:=h.box;exact⟨by simp [World.cell?,a],by simp [World.cell?,a]⟩
theorem Sx.page (h:Sx T Q n bud m W) (k:Nat) (o:k<n) :
  ∃ a b c,W.cell? ⟨Q,k*3,none⟩=some (.bool a)/\W.cell? ⟨Q,k*3+1,none⟩=some (.bool b)/\W.cell? ⟨Q,k*3+2,none⟩=some c/\a=(m k).isSome/\(a&&b)=isOpen (m k) /\
   (∀ l xs,m k=some (l,xs)->xs.length=1024/\∃ g,c=Vl g 1024 1024/\W.heap[g]?=some (.cells (Ns .u8 xs).toArray 5)):=by
 obtain⟨c,a,u,p,_⟩:=h.row;have b:=p k o;cases j:m k with
 | none =>
  rw [j] at b;obtain⟨d,f,i⟩:=b;exact⟨false,false,C,by simp [World.cell?,a,d],by simp [World.cell?,a,f],by simp [World.cell?,a,i],rfl,rfl,λl xs e=>by cases e⟩
 | some q =>
  obtain⟨l,xs⟩:=q;rw [j] at b;obtain⟨d,f,r,g,i,s⟩:=b;exact⟨true,!l,Vl g 1024 1024,by simp [World.cell?,a,d],by simp [World.cell?,a,f],by simp [World.cell?,a,i],rfl,by simp [isOpen],λv t e=>by cases e;exact⟨r,g,rfl,s⟩⟩
theorem xP (T Q n bud m) (a:Nat) (w) (h:Sx T Q n bud m w) (j:n<=4096) (ha:a<18446744073709551616) :
  Calls prog 189 #[J T 0,U a] w λe d=>e=.returned (.bool (isOpen (m (a/1024))))/\d=w:=by
 obtain⟨k,l⟩:=h.c;by_cases f:a/1024<n
 ·obtain⟨g,o,p,q,r,s,i,c,_⟩:=h.page (a/1024) f;have b:=H c;clear i c h;cases g;·go_enter func189,ntmps189;go_wp2;go_ret;exact⟨dj b.out,rfl⟩
  go_enter func189,ntmps189;go_wp2;go_ret;exact⟨dj (by rw [<-b.out];rfl),rfl⟩
 have b:=H (h.out (a/1024) Z);have c:¬((a:Int)/1024<(n:Int)):=Z;clear h;go_enter func189,ntmps189;go_wp2;go_ret;exact⟨dj (by rw [b.out];rfl),rfl⟩
theorem lY (T Q n bud m) (a:Nat) (w) (h:Sx T Q n bud m w) (u:n<=4096) (ha:a<18446744073709551616) (b:isOpen (m (a/1024))=true) :
  Calls prog 145 #[J T 0,U a] w λe j=>e=.returned (.int .u8 (bN m a))/\j=w:=by
 obtain⟨v,x⟩:=h.c;have k:a/1024<n:=by
  rcases Nat.lt_or_ge (a/1024) n with e|e;·exact e
  rw [h.out _ e] at b;cases b
 obtain⟨y,A,B,o,p,F,r,s,f⟩:=h.page (a/1024) k;cases c:m (a/1024) with
 | none=>rw [c] at b;cases b
 | some q =>
  obtain⟨l,xs⟩:=q;obtain⟨t,g,rfl,i⟩:=f l xs c;have G:w.cell? ⟨g,a%1024,none⟩=some (.int .u8 (xs[a%1024]?.getD 0)):=by
   have d:a%1024<xs.length:=Z;simp [World.cell?,i,Ns,d]
  have d:=H (show bN m a=xs[a%1024]?.getD 0 by simp [bN,c]);clear r s f h b c t i o p;generalize xs[a%1024]?.getD 0=z at *;go_enter func145,ntmps145;go_wp2;go_ret;exact⟨ct d.symm,rfl⟩
def bG (m:Nat->Option (Bool×List Int)):Nat->Nat
 | 0=>0
 | k+1=>bG m k+(m k).isSome.toNat
theorem lT (m):∀ k,bG m k<=k
 | 0=>Jo _
 | k+1=>by have:=lT m k;have a:=Bool.toNat_le (m k).isSome;simp only [bG];omega
theorem kQ {f:Nat->Option Nat} {m:Nat->Option (Bool×List Int)} (h:∀ k,(f k).isSome=(m k).isSome):∀ k,bz f 0 k=bG m k
 | 0=>rfl
 | k+1=>by simp only [bz,bG];rw [kQ h k,JQ,h k]
theorem mJ {m:Nat->Option (Bool×List Int)} {n:Nat} (h:∀ k,n<=k->m k=none):∀ k,bG m (n+k)=bG m n
 | 0=>rfl
 | k+1=>by rw [<-J2];simp only [bG];rw [mJ h k,h (n+k) Z];rfl
theorem Sx.three (h:Sx T Q n bud m W) (k:Nat) (j:k<n) :
  ∃ a p l c,W.cell? ⟨Q,k*3,none⟩=some (.bool (m k).isSome)/\W.cell? ⟨Q,k*3+1,none⟩=some (.bool a)/\W.cell? ⟨Q,k*3+2,none⟩=some (.slice p l c)/\((m k).isSome&&a)=isOpen (m k):=by
 obtain⟨c,a,p,o,_⟩:=h.row;have b:=o k j;cases i:m k with
 | none =>
  rw [i] at b;obtain⟨d,e,f⟩:=b;exact⟨false,none,0,0,by simp [World.cell?,a,d],by simp [World.cell?,a,e],by simp [World.cell?,a,f],rfl⟩
 | some q =>
  obtain⟨l,xs⟩:=q;rw [i] at b;obtain⟨d,e,r,g,f,s⟩:=b;exact⟨!l,some ⟨g,0,none⟩,1024,1024,by simp [World.cell?,a,d],by simp [World.cell?,a,e],by simp [World.cell?,a,f],by simp [isOpen]⟩
theorem gK (T Q n bud m w) (h:Sx T Q n bud m w) (v:n<=4096) :
  Calls prog 42 #[J T 0] w λe r=>e=.returned (I (bG m n))/\D w r:=by
 obtain⟨y,z⟩:=h.c;have s:=H h;clear h;go_enter func42,ntmps42;go_wp2;go_loopw [3,11] (λc i wr=>∃ k:Nat,k<=n/\i=I k/\c=I (bG m k)/\D w wr) (λ_ i _=>n-(intOf i).toNat);case atStart=>exact ⟨0,Jt _,rfl,rfl,Jn _ _⟩
 case round =>
  obtain⟨k,A,rfl,rfl,a⟩:=hrel;by_cases j:k<n
  ·obtain⟨t,p,l,c,d,o,q,_⟩:=s.three k j;have d:=ol a d;have o:=ol a o;have q:=ol a q;have u:=lT m k;have f:=H (show bG m (k+1)=bG m k+(m k).isSome.toNat from rfl);have b:=H (a.alloc a.size (.cells #[.bool (m k).isSome,.bool t,.slice p l c] 164));clear a;generalize bG m k=x at *;cases g:(m k).isSome
   ·rw [g] at d f b;clear g;go_wp2;go_roundw;(case rel=>exact ⟨k+1,Z,aR,by rw [f.out];rfl,b.out⟩);case measure=>simp [intOf];omega
   rw [g] at d f b;clear g;go_wp2;go_roundw;(case rel=>exact ⟨k+1,Z,aR,by rw [f.out];rfl,b.out⟩);case measure=>simp [intOf];omega
  have d:k=n:=Z;subst d;have b:=H a;clear a;go_wp2;go_ret;exact⟨rfl,b.out⟩
theorem Sx.setByte (h:Sx T Q n bud m W) {k g:Nat} (t:k<n) {l:Bool} {xs:List Int} (A:m k=some (l,xs)) (B:W.cell? ⟨Q,k*3+2,none⟩=some (Vl g 1024 1024)) (i:Nat) (Y:i<1024) (x:Int) :
  Sx T Q n bud (dY m k (some (l,xs.set i x))) (W.setCell ⟨g,i,none⟩ (.int .u8 x)):=by
 obtain⟨c,q,F,u,a⟩:=h.row;have v:=u k t;rw [A] at v;obtain⟨G,K,L,f,s,b⟩:=v;have w:c[k*3+2]?=some (Vl g 1024 1024):=by simpa [World.cell?,q] using B
 have M:f=g:=by rw [s] at w;simpa using w
 subst M;have hT:T≠f:=by intro e;subst e;rw [h.box] at b;simp at b
 have N:Q≠f:=by intro e;subst e;rw [q] at b;simp at b
 refine⟨(t4 _ _ _ _ hT).trans h.box,⟨c,(t4 _ _ _ _ N).trans q,F,?_,a⟩,?_⟩
 ·intro j o;by_cases e:j=k;·subst e;rw [bZ];refine⟨G,K,by simpa using L,f,s,?_⟩;rw [aO b];simp [Ns,List.map_set]
  rw [aW m k j _ e];have p:=u j o;cases d:m j with
  | none=>rw [d] at p;exact p
  | some r =>
   obtain⟨l2,O⟩:=r;rw [d] at p;obtain⟨P,R,S,V,y,X⟩:=p;refine⟨P,R,S,V,y,(t4 _ _ _ _ ?_).trans X⟩;intro z;simp at z;subst z;exact e (a j k _ o t y s)
 intro j o;rw [aW m k j _ Z];exact h.out j o
theorem vT (T Q n bud m) (a:Nat) (x:Int) (w) (h:Sx T Q n bud m w) (v:n<=4096) (ha:a<18446744073709551616) {l:Bool} {xs:List Int} (b:m (a/1024)=some (l,xs)) :
  Calls prog 144 #[J T 0,U a,.int .u8 x] w λe i=>e=.returned (.tuple #[])/\Sx T Q n bud (dY m (a/1024) (some (l,xs.set (a%1024) x))) i/\∃ g c,w.heap[g]?=some (.cells c 5)/\w.cell? ⟨Q,a/1024*3+2,none⟩=some (Vl g 1024 1024)/\w.grownBy i (some g):=by
 obtain⟨y,A⟩:=h.c;have j:a/1024<n:=by
  rcases Nat.lt_or_ge (a/1024) n with e|e;·exact e
  rw [h.out _ e] at b;cases b
 obtain⟨B,F,G,p,q,k,r,s,o⟩:=h.page (a/1024) j;obtain⟨t,g,rfl,d⟩:=o l xs b;have c:a%1024<xs.length:=Z;have u:w.cell? ⟨g,a%1024,none⟩=some (.int .u8 (xs[a%1024]?.getD 0)):=by simp [World.cell?,d,Ns,c]
 have K:w.frozen? ⟨g,a%1024,none⟩=false:=by simp [World.frozen?,d]
 have f:=H (LG (h.setByte j b k (a%1024) Z x) (LG d k));clear r s o h b t d p q c;generalize xs[a%1024]?.getD 0=z at u;go_enter func144,ntmps144;go_wp2;go_end0;exact⟨rfl,f.1,g,_,f.2.1,f.2.2,au (ao w g) _ _⟩
end
section
open Go.ChangeShapes Go.WideShapes Go.ChangeAt Go.RowKit
theorem fJ (c) (w:World) :
  Calls prog 134 #[I c] w λe i=>e=.returned (I (pg c))/\D w i:=by
 have b:=hidR (dV c);by_cases h:0<=c/\c<12
 ·have a:(pg c-1)*1024<4*sz c/\4*sz c<=pg c*1024/\1<=pg c/\pg c<=4:=by
   rcases fN h with rfl|rfl|rfl|rfl|rfl|rfl|rfl|rfl|rfl|rfl|rfl|rfl <;> decide
  have j:=fE h;generalize sz c=s at b j a ⊢;generalize pg c=p at a ⊢;clear h;go_enter func134,ntmps134;go_wp2_with fail;refine (b _).mono ?_;rintro e l ⟨rfl,d⟩;go_wp2;go_loop [4] (λn=>∃ k:Int,1<=k/\k<=p/\n=I k) (λn=>(p-intOf n).toNat);case atStart=>exact ⟨1,Z,Z,rfl⟩
  case round =>
   obtain⟨k,o,q,rfl⟩:=hrel;by_cases f:k<p
   ·have m:k*1024<4*s:=Z;have g:p<=4:=a.2.2.2;clear a;go_wp2
    go_round
    (case rel=>exact ⟨k+1,Z,Z,rfl⟩);case measure=>simp [intOf];omega
   obtain rfl:k=p:=Z;have m:¬k*1024<4*s:=Z;have g:k<=4:=a.2.2.2;clear f a;go_wp2;go_ret;exact⟨rfl,d⟩
 rw [yu h];rw [g_ h] at b;clear h;go_enter func134,ntmps134;go_wp2_with fail;refine (b _).mono ?_;rintro e l ⟨rfl,d⟩;go_wp2;go_ret;exact⟨rfl,d⟩
theorem jW (c) (w:World) :
  Calls prog 88 #[I c] w λe f=>e=.returned (I (sl c))/\D w f:=by
 have a:=hidR (dV c);have d:=hidR (fJ c);by_cases h:0<=c/\c<12;·have g:=fE h;have i:=gz h;rw [(mo h).2.2.1];generalize sz c=s at a g ⊢;generalize pg c=p at d i ⊢;clear h;go_enter func88,ntmps88;go_wp2_with fail;refine (a _).mono ?_;rintro e j ⟨rfl,b⟩;go_wp2_with fail;refine (d _).mono ?_;rintro e m ⟨rfl,k⟩;go_wp2_with fail;refine (a _).mono ?_;rintro e n ⟨rfl,l⟩;go_wp2;go_ret;exact⟨rfl,cI b (cI k l)⟩
 rw [Aa h];rw [g_ h] at a;clear h;go_enter func88,ntmps88;go_wp2_with fail;refine (a _).mono ?_;rintro e j ⟨rfl,b⟩;go_wp2;go_ret;exact⟨rfl,b⟩
theorem Gf {k:IntKind} {b:Int} (h:a=b):Ending.returned (.int k a)=.returned (.int k b):=by rw [h]
def rp (c:Int):Int:=if 0<=c/\c<12 then 6*(pg c+1) else 0
theorem vK {c:Int} (h:0<=c/\c<12):rp c=6*(pg c+1):=by simp only [rp,tm h]
theorem tR {c:Int} (h:¬(0<=c/\c<12)):rp c=0:=by simp only [rp,tg h]
theorem vP (c):0<=rp c/\rp c<=30:=by
 by_cases h:0<=c/\c<12;·have:=gz h;rw [vK h];omega
 rw [tR h];omega
def fW:Nat->Int
 | 0=>1
 | k+1=>fW k+rp k
def rs (c:Int):Int:=if 0<=c/\c<12 then fW c.toNat else -1
theorem jx:∀ k:Nat,1<=fW k/\fW k<=1+30*k
 | 0=>by simp [fW]
 | k+1=>by have:=jx k;have:=vP k;simp only [fW];omega
theorem gL (c w) (a:Tb w) :
  Calls prog 197 #[I c] w λe b=>e=.returned (I (pg c+1))/\b=w:=by
 have d:=hidR (fI c w a);have f:=Di c;generalize pg c=s at d f ⊢;clear a;go_enter func197,ntmps197;go_wp2_with fail;refine (d).mono ?_;rintro e b ⟨rfl,rfl⟩;go_wp2;go_ret;exact⟨rfl,rfl⟩
theorem nK (c w) (b:Tb w) :
  Calls prog 190 #[I c] w λe a=>e=.returned (I (rp c))/\a=w:=by
 have f:=hidR (gL c w b);by_cases h:0<=c/\c<12;·have g:=gz h;have d:=hidR (dU _ w h);rw [vK h];generalize pg c=s at f g ⊢;clear b h;go_enter func190,ntmps190;go_wp2_with fail;refine (d).mono ?_;rintro e a ⟨rfl,rfl⟩;go_wp2_with fail;refine (f).mono ?_;rintro e a ⟨rfl,rfl⟩;go_wp2;go_ret;exact⟨rfl,rfl⟩
 rw [tR h];have d:=hidR (ev _ w h);clear b h;go_enter func190,ntmps190;go_wp2_with fail;refine (d).mono ?_;rintro e a ⟨rfl,rfl⟩;go_wp2;go_ret;exact⟨rfl,rfl⟩
theorem iu (c) (w:World) :
  Calls prog 132 #[I c] w λe f=>e=.returned (I (rp c))/\D w f:=by
 have a:=hidR (dV c);have d:=hidR (fJ c);by_cases h:0<=c/\c<12;·have g:=fE h;have i:=gz h;rw [vK h];generalize sz c=s at a g ⊢;generalize pg c=p at d i ⊢;clear h;go_enter func132,ntmps132;go_wp2_with fail;refine (a _).mono ?_;rintro e j ⟨rfl,b⟩;go_wp2_with fail;refine (d _).mono ?_;rintro e l ⟨rfl,k⟩;go_wp2;go_ret;exact⟨rfl,cI b k⟩
 rw [tR h];rw [g_ h] at a;clear h;go_enter func132,ntmps132;go_wp2_with fail;refine (a _).mono ?_;rintro e j ⟨rfl,b⟩;go_wp2;go_ret;exact⟨rfl,b⟩
theorem lu {c:Int} (h:0<=c/\c<12):rs c=fW c.toNat:=by simp only [rs,tm h]
theorem uG {c:Int} (h:¬(0<=c/\c<12)):rs c = -1:=by simp only [rs,tg h]
theorem iP (c) (w:World) :
  Calls prog 131 #[I c] w λe o=>e=.returned (I (rs c))/\D w o:=by
 have d:=hidR (dV c);have p:=hidR iu;by_cases h:0<=c/\c<12
 ·have q:=fE h;rw [lu h];generalize sz c=s at d q ⊢;obtain⟨m,rfl⟩:=AP h.1;have B:m<12:=Z;simp only [JL];clear h;go_enter func131,ntmps131;go_wp2_with fail;refine (d _).mono ?_;rintro e r ⟨rfl,f⟩;have t:=hidR f;clear f;go_wp2;have u:(s==0)=false:=cd;simp only [u];go_loopw [3,4] (λn i wr=>∃ k:Nat,k<=m/\i=I k/\n=I (fW k)/\D w wr) (λ_ i _=>m-(intOf i).toNat);case atStart=>exact ⟨0,Z,rfl,rfl,t⟩
  case round =>
   obtain⟨k,F,rfl,rfl,g⟩:=hrel;have v:=jx k;by_cases x:k<m
   ·have j:=hidR (show fW (k+1)=fW k+rp (k:Int) from rfl);have y:=vP (k:Int);have z:=hidR g;clear g;go_wp2_with fail;refine (p _ _).mono ?_;rintro e G ⟨rfl,l⟩;generalize fW k=a at v j;generalize rp (k:Int)=b at y j;have A:=hidR (cI z l);clear l;go_wp2;go_roundw;(case rel=>exact ⟨k+1,Z,aR,by rw [j.out],A⟩);case measure=>simp [intOf];omega
   obtain rfl:k=m:=Z;go_wp2;go_ret;exact⟨rfl,g⟩
 rw [uG h];rw [g_ h] at d;clear h;go_enter func131,ntmps131;go_wp2_with fail;refine (d _).mono ?_;rintro e r ⟨rfl,f⟩;go_wp2;go_ret;exact⟨rfl,f⟩
theorem qP:fW 12=187:=al
theorem jn (w:World) :
  Calls prog 85 #[] w λe c=>e=.returned (I 187)/\D w c:=by
 have d:rs 11=157:=al;have f:rp 11=30:=al;have a:Hid (∀ w,_):=λw=>iP 11 w
 have b:Hid (∀ w,_):=λw=>iu 11 w
 rw [d] at a;rw [f] at b;go_enter func85,ntmps85;go_wp2_with fail;refine (a _).mono ?_;rintro e j ⟨rfl,g⟩;go_wp2_with fail;refine (b _).mono ?_;rintro e k ⟨rfl,i⟩;go_wp2;go_ret;exact⟨rfl,cI g i⟩
theorem oI (w:World) :
  Calls prog 39 #[] w λe a=>e=.returned (I 283)/\D w a:=by
 have b:=hidR jn;go_enter func39,ntmps39;go_wp2_with fail;refine (b _).mono ?_;rintro e d ⟨rfl,c⟩;go_wp2;go_ret;exact⟨rfl,c⟩
theorem za (c) : -1<=rs c/\rs c<=361:=by
 by_cases h:0<=c/\c<12;·have:=jx c.toNat;rw [lu h];omega
 rw [uG h];omega
theorem pG (c s:Int) (k : -1000<=s) (l:s<=1000) (w:World) :
  Calls prog 135 #[I c,I s] w λe d=>e=.returned (I (rs c+s*(pg c+1)))/\D w d:=by
 have a:=hidR (iP c);have b:=hidR (fJ c);have f:=za c;have g:=Di c;generalize rs c=r at a f ⊢;generalize pg c=p at b g ⊢;have m : -5000<=s*(p+1)/\s*(p+1)<=5000:=by
  have:p=0\/p=1\/p=2\/p=3\/p=4:=Z;rcases this with rfl|rfl|rfl|rfl|rfl <;> omega
 go_enter func135,ntmps135;go_wp2_with fail;refine (a _).mono ?_;rintro e n ⟨rfl,i⟩;go_wp2_with fail;refine (b _).mono ?_;rintro e o ⟨rfl,j⟩;go_wp2;go_ret;exact⟨rfl,cI i j⟩
theorem pT (c) (w:World) :
  Calls prog 96 #[I c] w λe d=>e=.returned (I (us c))/\D w d:=by
 have a:=hidR (dV c);by_cases h:0<=c/\c<12;·have f:=fE h;rw [vE h];generalize sz c=s at a f ⊢;clear h;go_enter func96,ntmps96;go_wp2_with fail;refine (a _).mono ?_;rintro e g ⟨rfl,b⟩;go_wp2_with fail;refine (a _).mono ?_;rintro e j ⟨rfl,i⟩;go_wp2;go_ret;exact⟨rfl,cI b i⟩
 rw [uE h];rw [g_ h] at a;clear h;go_enter func96,ntmps96;go_wp2_with fail;refine (a _).mono ?_;rintro e g ⟨rfl,b⟩;go_wp2;go_ret;exact⟨rfl,b⟩
theorem xm (c w) (b:Tb w) :
  Calls prog 195 #[I c] w λe a=>e=.returned (I (us c))/\a=w:=by
 have f:=hidR (dW c w b);by_cases h:0<=c/\c<12;·have g:=fE h;rw [vE h];have d:=hidR (dU _ w h);generalize sz c=s at f g ⊢;clear b h;go_enter func195,ntmps195;go_wp2_with fail;refine (d).mono ?_;rintro e a ⟨rfl,rfl⟩;go_wp2_with fail;refine (f).mono ?_;rintro e a ⟨rfl,rfl⟩;go_wp2;go_ret;exact⟨rfl,rfl⟩
 rw [uE h];have d:=hidR (ev _ w h);clear b h;go_enter func195,ntmps195;go_wp2_with fail;refine (d).mono ?_;rintro e a ⟨rfl,rfl⟩;go_wp2;go_ret;exact⟨rfl,rfl⟩
theorem jV {k:IntKind} {b:Int} (h:a=b):Ending.returned (.int k a)=.returned (.int k b):=by rw [h]
def iN (r:Int):Nat->Nat->Int
 | k,0 => -1
 | k,n+1=>if r<=us k then (k:Int) else iN r (k+1) n
def co (r:Int):Int:=iN r 0 12
theorem Dp (c):0<=us c/\us c<=1016:=by
 by_cases h:0<=c/\c<12;·have:=fE h;rw [vE h];omega
 rw [uE h];omega
theorem jv (r:Int) (h:1016<r):∀ n k,iN r k n = -1
 | 0,k=>rfl
 | n+1,k=>by
  have:=Dp k
  simp only [iN,tg (show ¬r<=us (k:Int) by omega)]
  exact jv r h n (k+1)
theorem tW (r:Int) (o:0<=r) (p:r<=18446744073709551615) (w:World) :
  Calls prog 137 #[U r] w λe j=>e=.returned (I (co r))/\D w j:=by
 have l:=hidR pT;go_enter func137,ntmps137;go_wp2;go_loopw [3] (λc wr=>∃ k:Nat,k<=12/\c=I k/\co r=iN r k (12-k)/\D w wr) (λc _=>12-(intOf c).toNat);case atStart=>exact ⟨0,Z,rfl,rfl,Jn _ _⟩
 case round =>
  obtain⟨k,q,rfl,a,d⟩:=hrel;by_cases m:k<12
  ·have b:12-k=(11-k)+1:=Z;rw [b,iN] at a;have n:=Dp (k:Int);have f:=hidR d;clear d b;go_wp2_with fail;refine (l _ _).mono ?_;rintro e s ⟨rfl,g⟩;generalize us (k:Int)=u at a n ⊢;by_cases i:r<=u;·rw [tm i] at a;have b:=hidR a;clear a;go_wp2;go_ret;exact⟨jV b.symm,cI f g⟩
   rw [tg i] at a;have b:=hidR a;clear a;go_wp2;go_roundw;(case rel=>exact ⟨k+1,Z,aR,by rw [b.out];congr 1;omega,cI f g⟩);case measure=>simp [intOf];omega
  obtain rfl:k=12:=Z;have b:=hidR a;clear a;go_wp2;go_ret;exact⟨jV b.symm,d⟩
theorem D_ {k:Nat} (h:k<12):us (k:Int)=zI.getD k 0-8:=by
 rw [vE ⟨Z,Z⟩,tw h]
theorem mu (r:Int) (h:1016<r) (w:World) :
  Calls prog 155 #[U r] w λe a=>e=.returned (I (co r))/\a=w:=by
 rw [show co r = -1 from jv r h 12 0];go_enter func155,ntmps155;go_wp2;go_ret;exact⟨rfl,rfl⟩
theorem sR (w:World) (A:Array Value) (k:Nat) (v:Value) (a:k<12) (h:A[k]?=some v):(Instr.index 259 (.agg A) (I k)).run prog w=.ok v w:=by
 simp [Instr.index,run_underlying underlying259,asIntOf,a,go_sem,h]
theorem kI (r:Int) (p:0<=r) (h:r<=1016) (w) (g:Tb w) :
  Calls prog 155 #[U r] w λe n=>e=.returned (I (co r))/\n=w:=by
 obtain⟨t,o,j⟩:=g.row;go_enter func155,ntmps155;go_wp2_with (refine J0 rfl 259 _ rfl 0 rfl t _ o _ j underlying259 rfl E ?_);go_loop [8] (λi=>∃ k:Nat,k<=12/\i=I k/\co r=iN r k (12-k)) (λi=>12-(intOf i).toNat);case atStart=>exact ⟨0,Z,rfl,rfl⟩
 case round =>
  obtain⟨k,q,rfl,a⟩:=hrel;by_cases b:k<12
  ·have l:12-k=(11-k)+1:=Z;rw [l,iN,D_ b] at a;have d:(List.map (λz=>Value.int IntKind.i64 z) zI).toArray[k]?=some (I (zI.getD k 0)):=by
    have f:k<zI.length:=b;simp [Jq f]
   have m:=fE (c:=(k:Int)) ⟨Z,Z⟩;rw [tw b] at m;clear j g l;generalize zI.getD k 0=u at a m d;generalize (List.map (λz=>Value.int IntKind.i64 z) zI).toArray=A at d ⊢;have l:=sR w A k _ b d;clear d;by_cases s:r+8<=u;·rw [tm Z] at a;have d:=hidR a;clear a;go_wp2;go_ret;exact⟨jV d.symm,rfl⟩
   rw [tg Z] at a;have d:=hidR a;clear a;go_wp2
   go_round
   (case rel=>exact ⟨k+1,Z,aR,by rw [d.out];congr 1;omega⟩);case measure=>simp [intOf];omega
  obtain rfl:k=12:=Z;have d:=hidR a;clear a;go_wp2;go_ret;exact⟨jV d.symm,rfl⟩
theorem mL (r:Int) (a:0<=r) (w) (b:Tb w) :
  Calls prog 155 #[U r] w λe c=>e=.returned (I (co r))/\c=w:=by
 by_cases h:1016<r;·exact mu r h w
 exact kI r a Z w b
def gM (i len:Nat):List Int:=(List.range len).map λj=>((i+j:Nat):Int)
theorem fZ (k0 len):(gM k0 len).length=len:=by simp [gM]
theorem nr (b a j:Nat) (h:j<a):(gM b a)[j]?=some (((b+j:Nat):Int)):=by simp [gM,h]
theorem IG (a b:Option Addr) (c q cb:Nat) (l:List Int) (w:World) (m:c<=1048576)
  (ha:∀ i,i<c->∃ g,a=some ⟨g,0,none⟩/\w.cell? ⟨g,i,none⟩=some (U (l[i]?.getD 0)))
  (n:∀ i,i<c->∃ g,b=some ⟨g,0,none⟩/\w.cell? ⟨g,i,none⟩=some (U (l[i]?.getD 0))) :
  Calls prog 73 #[.slice a c q,.slice b c cb] w λe r=>e=.returned (.bool true)/\D w r:=by
 go_enter func73,ntmps73;go_wp2;go_loopw [5] (λi wr=>∃ (k:Nat),k<=c/\i=I k/\D w wr) (λi _=>c-(intOf i).toNat);case atStart=>exact ⟨0,Jt _,rfl,Jn _ _⟩
 case round =>
  obtain⟨k,t,rfl,d⟩:=hrel;by_cases f:k<c
  ·obtain⟨u,rfl,g⟩:=ha k f;obtain⟨v,rfl,j⟩:=n k f;have o:=ol d g;have p:=ol d j;have s:=H d;clear ha n g j d;go_wp2;go_region
   all_goals go_wp2
   go_roundw;(case rel=>exact ⟨k+1,Z,aR,s.drew⟩);case measure=>simp [intOf];omega
  go_wp2;go_ret;exact⟨rfl,d⟩
theorem uc (a:Nat) (w:World) (c:a<=1000000000000) :
  Calls prog 78 #[C,I a] w λe b=>e=.returned (I a)/\b=w:=by
 go_enter func78,ntmps78;go_wp2;refine A9 1 ?_;rw [IA];go_wp2;go_ret;exact⟨rfl,rfl⟩
theorem ug (a:Nat) (w:World) (c:a<=1000000000000) :
  Calls prog 84 #[C,I a] w λe b=>e=.returned (I a)/\b=w:=by
 go_enter func84,ntmps84;go_wp2;refine A9 1 ?_;rw [IA];go_wp2;go_ret;exact⟨rfl,rfl⟩
theorem EH (g) (a:Nat) (cap) (n:List Int) (c:Nat) (w) (b:n.length=a) (r:a<=1048576) (A:c<=1000000000000) (d:RowV w g 22 (Ns .u64 n)) :
  Calls prog 78 #[Vl g a cap,I c] w λe s=>e=.returned (I (c+a:Nat))/\RowV s g 22 (Ns .u64 (gM c a))/\w.grownBy s (some g):=by
 have u:=H d;have x:=H b;clear d b;go_enter func78,ntmps78;go_wp2;go_loopw [1,5] (λv i wr=>∃ (j:Nat) (k:List Int),j<=a/\i=I j/\v=I (c+j:Nat)/\Hid (Agree k (gM c a) j)/\Hid (RowV wr g 22 (Ns .u64 k))/\Hid (w.grownBy wr (some g))) (λ_ i _=>a-(intOf i).toNat);case atStart=>exact ⟨0,n,Jt _,rfl,rfl,Agree.zero (by rw [x.out,fZ]),u,ao w g⟩
 case round =>
  obtain⟨j,k,B,rfl,rfl,d,b,l⟩:=hrel;by_cases m:j<a
  ·have o:k.length=a:=(by rw [d.1,fZ]);have p:=dR b j Z;have z:=b.free j;have q:=b.set j (by rw [aX];omega) (U (((c+j:Nat):Int)));rw [iL] at q;have t:=d.succ (by rw [fZ];exact m) _ (nr c a j m);have f:=H (LG q (LG t (au l j (U (((c+j:Nat):Int))))));clear o q t;generalize k[j]?.getD 0=y at p;go_wp2;go_roundw;(case rel=>exact ⟨j+1,_,Z,aR,aR,f.2.1,by first|exact f.1|(have:=f.1;simpa using this),by first|exact f.2.2|(have:=f.2.2;simpa using this)⟩);case measure=>simp [intOf];omega
  have o:j=a:=Z;subst o;have f:=H (LG (d.all (by rw [fZ];exact Jo _)▸b.out) l);go_wp2;go_ret;exact⟨rfl,f⟩
theorem D8 (g) (a:Nat) (cap) (b:Nat) (w) (f:a<=1048576) (m:b<=1000000000000) (c:RowV w g 22 (Ns .u64 (gM b a))) :
  Calls prog 84 #[Vl g a cap,I b] w λe k=>e=.returned (I (b+a:Nat))/\k=w:=by
 have l:=H c;clear c;go_enter func84,ntmps84;go_wp2;go_loop [1,5] (λv i=>∃ (j:Nat),j<=a/\i=I j/\v=I (b+j:Nat)) (λ_ i=>a-(intOf i).toNat);case atStart=>exact ⟨0,Jt _,rfl,rfl⟩
 case round =>
  obtain⟨j,n,rfl,rfl⟩:=hrel;by_cases c:j<a
  ·have d:=dR l j (by rw [fZ];exact c);rw [nr b a j c] at d;simp only [H4] at d;go_wp2
   go_round
   (case rel=>exact ⟨j+1,Z,aR,aR⟩);case measure=>simp [intOf];omega
  have d:j=a:=Z;subst d;go_wp2;go_ret;exact⟨rfl,rfl⟩
end
end Go.Proofs.YtdfodlhkdmkfdaaGreatDoor
