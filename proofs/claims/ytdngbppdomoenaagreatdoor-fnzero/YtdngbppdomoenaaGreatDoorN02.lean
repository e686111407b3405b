import Derived.Test.YtdngbppdomoenaaGreatDoorN01
set_option linter.unusedVariables false
set_option linter.unusedSimpArgs false
set_option maxRecDepth 20000
set_option maxHeartbeats 8000000
namespace Go.Proofs.YtdngbppdomoenaaGreatDoor
open Go.Proofs.Tryz
variable {DB M Q S T b base n:Nat} {a bud nn st:Int} {f:Nat->Option Nat} {A W W' w:World} {m:Nat->Option (Bool×List Int)} {v:Value} {xs:List Value} {row:Option Nat}
section
open Go.RowKit Go.Shelf
attribute [local go_sem] Oper.semAt_some
theorem Pg.alloc {f m W} (h:Pg f m W) (o:Obj):Pg f m (W.alloc o):=by
 refine⟨?_,h.inj⟩;intro j;rcases h.at' j with a|⟨b,l,xs,a,d,e,c⟩;·exact .inl a
 exact .inr ⟨b,l,xs,a,d,e,by rw [(GH W o none).block b (GL c) bF];exact c⟩
theorem Im.grown {n} (h:Im S M st n bud f W) (c:W.grownBy W' none):Im S M st n bud f W':=by
 obtain⟨a,b,r⟩:=h.map;exact⟨by rw [c.block S (GL h.box) bF];exact h.box,a,b.kept c bF,r⟩
theorem Pg.grown (h:Pg f m W) (d:W.grownBy W' none):Pg f m W':=by
 refine⟨?_,h.inj⟩;intro j;rcases h.at' j with a|⟨b,l,xs,a,e,g,c⟩;·exact .inl a
 exact .inr ⟨b,l,xs,a,e,g,by rw [d.block b (GL c) bF];exact c⟩
theorem Fr.ofGrown (a:W.grownBy W' none):Fr S M f f W W' :=
 ⟨a.os,a.tape,a.output,a.size,λg b _ _ _=>a.block g b bF,λk g e=>.inl ⟨k,e⟩⟩
theorem eE {B a:World} (h:A.grownBy B none) (k:B.grownBy a none):A.grownBy a none :=
 ⟨k.os.trans h.os,k.tape.trans h.tape,k.output.trans h.output,Fg h.size k.size,λg b _=>by rw [k.block g (Fq b h.size) bF];exact h.block g b bF⟩
theorem Ld.init {b:World} (i:Im S M st nn bud f w) (j:Pg f m w) (d:(w.alloc (.cells #[I 0,C] 210)).grownBy b none) (v) :
  Ld S M st nn bud f m w w.heap.size b.heap.size v (b.alloc (.cells #[v] 22)):=by
 have e:=eE (GH w (.cells #[I 0,C] 210) none) (eE d (GH b (.cells #[v] 22) none));have g:w.heap.size<b.heap.size:=by have:=d.size;simp at this;omega
 refine⟨i.grown e,j.grown e,Fr.ofGrown e,?_,(G_ b _).1,?_,Fe _,Z⟩;·rw [(GH b (.cells #[v] 22) none).block _ g bF,d.block _ bF bF];exact (G_ w _).1
 obtain⟨a,c,_⟩:=i.map;exact c.lt
theorem Cl.made (S a n) (W:World):Cl S W.heap.size a n (((W.alloc (.cells #[J S 0] 77)).alloc (.cells #[U a] 23)).alloc (.cells #[I n] 3)):=by
 refine⟨?_,?_,?_⟩;·rw [(GH _ _ none).block _ bK bF,(GH _ _ none).block _ bF bF];exact (G_ W _).1
 ·rw [(GH _ _ none).block _ bF bF];have:=(G_ (W.alloc (.cells #[J S 0] 77)) (.cells #[U a] 23)).1;simpa using this
 have:=(G_ ((W.alloc (.cells #[J S 0] 77)).alloc (.cells #[U a] 23)) (.cells #[I n] 3)).1;simpa using this
theorem Kp.below {N:Nat} {B:World} (h:Below N A B) (c:S<N) (d:M<N) (e:b+1+1<N):Kp S M b A B :=
 ⟨h.size,λg a=>h.block g (by rcases a with rfl|rfl|rfl|rfl|rfl <;> omega)⟩
theorem wO {N:Nat} (d:S<N) (e:M<N) (f:b+1+1<N) (W:World) (l:Nat) (o a:Obj) (i:N<=l) (h:W.heap[l]?=some o):Kp S M b W (W.putObj l a) :=
 ⟨(grownBy_putObj' W l a).size,λg c=>(grownBy_putObj' W l a).block g (by have:=GL h;rcases c with rfl|rfl|rfl|rfl|rfl <;> omega) (by simp;rcases c with rfl|rfl|rfl|rfl|rfl <;> omega)⟩
theorem nB (h:A.ownsRow base 5 1 v n xs) (b:∀ r,row=some r->∃ o:Obj,A.heap[r]?=some o/\o.isCells=false):v.ownBlock=none\/v.ownBlock≠row:=by
 rcases h.2 with ⟨rfl,_⟩|⟨g,c,d,rfl,_,f,_⟩;·exact .inl rfl
 right;intro e;obtain⟨o,a,i⟩:=b g e.symm;rw [f] at a;cases a;cases i
theorem nN (h:A.ownsRow base 5 1 v n xs):∃ p l c,v=.slice p l c:=by
 rcases h.2 with ⟨rfl,_⟩|⟨g,a,b,rfl,_⟩;·exact⟨_,_,_,rfl⟩
 exact⟨_,_,_,rfl⟩
theorem core (o:Im S M st nn bud f w) (q:Pg f m w) (p:Im S M st nn bud f W) (pg:Pg f m W) (c:Fr S M f f w W) (i:W.grownBy W' row) (s:∀ r,row=some r->w.heap.size<=r) :
  Im S M st nn bud f W'/\Pg f m W'/\Fr S M f f w W':=by
 have k:∀ g,g<w.heap.size->W'.heap[g]?=W.heap[g]?:=λg n=>i.block g (Fq n c.size) (λe=>by have:=s g e.symm;omega)
 refine⟨⟨(k S (GL o.box)).trans p.box,?_⟩,⟨?_,pg.inj⟩,?_⟩;·obtain⟨_,e,_⟩:=o.map;obtain⟨a,⟨j,d,l,t⟩,r⟩:=p.map;exact⟨a,⟨j,d,(k M e.lt).trans l,t⟩,r⟩
 ·intro j;rcases pg.at' j with a|⟨b,l,xs,a,d,e,t⟩;·exact .inl a
  obtain⟨_,_,_,_,u⟩:=q.cell a;exact .inr ⟨b,l,xs,a,d,e,(k b (GL u)).trans t⟩
 refine⟨i.os.trans c.os,i.tape.trans c.tape,i.output.trans c.output,Fg c.size i.size,?_,c.made⟩;intro g n a d e;rw [k g n];exact c.block g n a d e
theorem tU {c:Array Value} {t:TypeId} {z:Nat×Nat} (h:A.ownsRow base 5 1 v n xs) (a:A.heap[DB]?=some (.cells c t z)) (b:t≠5):v.ownBlock=none\/v.ownBlock≠some DB:=by
 rcases h.2 with ⟨rfl,_⟩|⟨g,d,f,rfl,_,i,_⟩;·exact .inl rfl
 right;intro e;cases e;rw [i] at a;cases a;exact b rfl
theorem zY (h:A.ownsRow base 5 1 v n xs):∀ r,v.ownBlock=some r->base<=r/\∃ c,A.heap[r]?=some (.cells c 5):=by
 intro r e;rcases h.2 with ⟨rfl,_⟩|⟨g,b,a,rfl,c,d,_⟩;·cases e
 cases e;exact⟨c,a,d⟩
theorem Ld.kpRow {R n} (h:Ld S M st nn bud f m w R DB v W) (i:Cl S b a n W) (j:W.grownBy W' row) (k:∀ r,row=some r->w.heap.size<=r/\∀ c t z,W.heap[r]?=some (.cells c t z)->t=5):Kp S M b W W':=by
 have d:∀ (b:Nat) (c:Array Value) (t:TypeId) (z:Nat×Nat),W.heap[b]?=some (Obj.cells c t z)->t≠5->W'.heap[b]?=W.heap[b]?:=λb c t z l o=>j.block b (GL l) (λe=>o ((k b e.symm).2 c t z l))
 refine⟨j.size,?_⟩;rintro g (rfl|rfl|rfl|rfl|rfl);·exact d _ _ _ _ h.im.box av
 ·exact j.block _ (Fq h.mlt h.fr.size) (λe=>by have:=(k _ e.symm).1;have:=h.mlt;omega)
 ·exact d _ _ _ _ i.s av
 ·exact d _ _ _ _ i.a av
 exact d _ _ _ _ i.n av
theorem Ld.kpBox {R n} (h:Ld S M st nn bud f m w R DB v W) (i:Cl S b a n W) (j:Value):Kp S M b W (W.setCell ⟨DB,0,none⟩ j):=by
 have d:∀ (b:Nat) (c:Array Value) (t:TypeId) (z:Nat×Nat),W.heap[b]?=some (Obj.cells c t z)->t≠22->(W.setCell ⟨DB,0,none⟩ j).heap[b]?=W.heap[b]?:=by
  intro b c t z g k;refine Gx _ _ _ _ ?_;intro e;simp at e;subst e;rw [h.box] at g;cases g;exact k rfl
 refine⟨by simp [World.setCell],?_⟩;rintro g (rfl|rfl|rfl|rfl|rfl);·exact d _ _ _ _ h.im.box av
 ·refine Gx _ _ _ _ ?_;have:=h.mlt;have:=h.dge;simp;omega
 ·exact d _ _ _ _ i.s av
 ·exact d _ _ _ _ i.a av
 exact d _ _ _ _ i.n av
theorem zn (S M st nn bud f m) (a n:Nat) (w) (j:Im S M st nn bud f w) (k:Pg f m w) (hn:n<=4096) (ha:n=0\/a+n<=4611686018427387904) (c:∀ d,d<n->∃ g,f ((a+d)/1024)=some g) (h:∀ w,Im S M st nn bud f w->Pg f m w->Calls prog 228 #[J S 0,U a,I n] w λe X=>e=.returned (I 0)/\X=w) :
  CallsIn Fence.wide 5 prog 181 #[J S 0,U a,I n] w λe X=>∃ v,e=.returned (.agg #[I 0,v])/\X.ownsRow w.heap.size 5 1 v n (Ns .u8 ((List.range n).map λi=>be m (a+i)))/\Im S M st nn bud f X/\Pg f m X/\Fr S M f f w X:=by
 obtain⟨i0,a0,a1,a2,a3⟩:=GI Tryz.info5By;have H1:=H h;have G:=H (IB j k);have HP:=H c;clear h j k c;refine callsIn_of_wp_marks func181 rfl trivial ?_ rfl;simp only [ntmps181,FA,Fx,FH,Nat.reduceAdd,Nat.reduceSub,Fw,Fv,FB,Ic,Fy,FJ]
 gi_wp2_with fail
 refine⟨trivial,?_⟩;refine ((callsIn_wide (n:=4)).2 (H1 _ (G.1.alloc _) (G.2.alloc _))).mono ?_;rintro _ _ ⟨rfl,rfl⟩
 gi_wp2_with (gi_at_make;refine wpListIn_make_own _ rfl _ _ 22 rfl w.heap.size 5 i0 (.int .u8 0) 1 underlying22 a0 a1 a2 .i64 .i64 _ n rfl rfl rfl ?c1 ?c2 ?c3 ?_)
 case c1=>rw [a3];omega
 case c2=>unfold maxLen;omega
 case c3=>simp
 intro w2 i c;have j:=Ld.init G.1 G.2 c (Vl (w.heap.size+1) 0 n);have l:=i.alloc (.cells #[Vl (w.heap.size+1) 0 n] 22);have k:=H (IB j l);have hS:=H (Fq (GL G.1.box) j.fr.size);have hM:=H (Fq j.mlt j.fr.size);have L:=H j.fr.size;clear i c j l
 gi_wp2_with fail
 refine⟨trivial,?_⟩;obtain⟨j,c⟩:∃ j,w2.alloc (.cells #[Vl (w.heap.size+1) 0 n] 22)=j:=⟨_,rfl⟩;obtain⟨DB,i⟩:∃ DB,w2.heap.size=DB:=⟨_,rfl⟩;rw [c] at k hS hM L;rw [i] at k;rw [c,i];clear c i;refine ((callsIn_wide (n:=4)).2 (om _ _ _ _)).mono ?_;rintro e w4 ⟨rfl,rfl⟩;gi_wp2;have HC:=H (Cl.made S a n j);have i:=eE (GH j (.cells #[J S 0] 77) none) (eE (GH _ (.cells #[U a] 23) none) (GH _ (.cells #[I n] 3) none));have q:=H (IB (k.1.keep i (λr e=>by cases e)) (k.2.kept i (.inr (by simp [Value.ownBlock]))));have h4:j.heap.size+1+1+1=(((j.alloc (.cells #[J S 0] 77)).alloc (.cells #[U a] 23)).alloc (.cells #[I n] 3)).heap.size:=bF;obtain⟨Y,c⟩:∃ Y,((j.alloc (.cells #[J S 0] 77)).alloc (.cells #[U a] 23)).alloc (.cells #[I n] 3)=Y:=⟨_,rfl⟩;rw [c] at HC q h4;rw [c];clear i c k;have hS:=hS.out;have hM:=hM.out;have L:=L.out;refine wpIn_rangeFunc_ownF rfl Z (gf:=250) (lb:=#[J (j.heap.size+1+1) 0,J (j.heap.size+1) 0,J j.heap.size 0]) rfl trivial (enters_of func250 E rfl)
  (encs:=λx : { d:Nat // d<n }=>vi f a n x.1) (Kp:=Kp S M j.heap.size) (S:=λys=>Got a n ys n) (Sp:=λi=>∃ d,Got a n i d) (N:=n) (w0:=Y)
  (λl c k W d o p p s=>nX S M st nn bud f a n l j.heap.size 4 Z hn ha HP c k W o p (HC.kp (Kp.below (M:=M) (N:=Y.heap.size) d Z Z Z)) (q.1.im.kp (Kp.below (N:=Y.heap.size) (b:=j.heap.size) d Z Z Z)) s)
  Kp.trans (λW l o c k h _ _=>wO (S:=S) (M:=M) (b:=j.heap.size) (N:=Y.heap.size) Z Z Z W l o c k h) (Fc _ _) (λ_=>rfl)
  (λi W=>∃ v,Ld S M st nn bud f m w w.heap.size DB v W/\W.ownsRow w.heap.size 5 1 v (du m a n i).length (Ns .u8 (du m a n i))/\Cl S j.heap.size a n W)
  (λc i W=>False)
  ?own (λc s A B row d O hr=>d) ⟨_,q.1,q.2,HC⟩
  (λx=>{ tmps:=#[J S 0,U a,I n,undef,undef,undef,J w.heap.size 0,I 0,J DB 0,.slice (some ⟨(f ((a+x.1)/1024)).getD 0,(a+x.1)%1024,none⟩) (ct a n x.1) (1024-(a+x.1)%1024),J S 0,U a,I n,I 0,I 0,.bool false,undef,undef,I n,Vl (w.heap.size+1) 0 n,J S 0,U a,I n,.func (.func 250) #[] #[J (j.heap.size+1+1) 0,J (j.heap.size+1) 0,J j.heap.size 0],.slice (some ⟨(f ((a+x.1)/1024)).getD 0,(a+x.1)%1024,none⟩) (ct a n x.1) (1024-(a+x.1)%1024),undef,undef,undef,undef,undef],defers:=[] }) ?assign ?body ?done ?stop
 case own =>
  rintro s A B row ⟨v,k,y,P⟩ O hr;have hb:∀ r,row=some r->w.heap.size<=r/\∀ c t z,A.heap[r]?=some (.cells c t z)->t=5:=by
   intro r e;obtain⟨h1,o,Q,d⟩:=hr r e;refine⟨Z,λc t z h5=>?_⟩;rw [h5] at Q;cases Q;cases d
  exact⟨v,k.keep O hb,y.kept O (nB y λr e=>(hr r e).2),P.kp (k.kpRow P O hb)⟩
 case assign =>
  intro l x W K hK;unfold vi;gi_wp2;exact hK
 case stop =>
  intro d c i W _ _ h;exact h.elim
 case body =>
  rintro l i x W ⟨v,k,y,P⟩ a5;obtain⟨c1,c2,_,_,_,_⟩:=k.cells;obtain⟨g,O⟩:=HP.out x.1 x.2;have F:=qY k.pg (n:=n) O;have K:=zY y;have p:=H (IB k (IB y P));have a4:(du m a n i).length<=1024*i.length:=kf m a n i;have a6:=qw a n x.1;rw [O];simp only [Hb];have T:=H (IB F K);have a7:=H (Fg L (show j.heap.size<=j.heap.size from Fe _));have V:=H k.fr.size;clear k y P F K q HC
  gi_wp2_with (gi_at_builtin;refine wpListIn_append_own _ rfl _ _ 22 rfl w.heap.size 5 i0 (.int .u8 0) 1 1 underlying22 a0 a1 a2 a3 rfl Z _ _ _ rfl p.2.1 _ _ _ (Ns .u8 (gl m a n x.1)) rfl ?b0 T.1 ?b1 ?b2 ?b3 ?b4 ?_)
  case b0=>simp [Ns,iR]
  case b1 =>
   intro u F;simp only [Ns,FC] at F;obtain⟨z,_,rfl⟩:=F;rfl
  case b2=>unfold maxLen;omega
  case b3=>omega
  case b4=>exact V.out
  intro v1 w1 R K _;obtain⟨p1,l1,k1,rfl⟩:=nN R;have hb:∀ r,v.ownBlock=some r->w.heap.size<=r/\∀ c t z,W.heap[r]?=some (.cells c t z)->t=5:=by
   intro r e;obtain⟨h1,c0,Q⟩:=T.2 r e;refine⟨h1,λc t z h5=>?_⟩;rw [h5] at Q;cases Q;rfl
  have L1:=p.1.keep K hb;have K1:=p.1.kpRow p.2.2 K hb;have C1:=p.2.2.kp K1;have KO:KeepsOthers W w1:=KeepsOthers.of_grownBy K (λj o e y=>by obtain ⟨_,c0,Q⟩:=T.2 j e;rw [Q] at y;cases y;rfl);have F:=H (IB L1 (IB K1 (IB C1 (IB KO R))));obtain⟨d1,d2,_,_,_,_⟩:=L1.cells;clear L1 K1 C1 KO R K hb c1 c2;gi_wp2;have K:=F.2.2.2.2.kept (au (ar w1 DB) 0 (.slice p1 l1 k1)) (tU F.2.2.2.2 F.1.box av);have R:(du m a n (i++[x])).length=(du m a n i).length+ct a n x.1:=by rw [gR,Fo,iR]
  have e2:Ns .u8 (du m a n (i++[x]))=Ns .u8 (du m a n i)++Ns .u8 (gl m a n x.1):=by rw [gR];simp [Ns]
  rw [<-R,<-e2] at K;exact⟨F.2.2.2.1.trans (KeepsOthers.setCell _ _ _),F.2.1.trans (F.1.kpBox F.2.2.1 _),_,F.1.store _,K,F.2.2.1.kp (F.1.kpBox F.2.2.1 _)⟩
 case done =>
  rintro d ys W hD F ⟨v,k,y,P⟩ hK;obtain⟨c1,c2,c3,c4,c5,c6⟩:=k.cells;have p:=H (IB k (IB y F));obtain⟨K,R,T,rfl⟩:=nN y;clear k y P F q HC;gi_wp2;have F:=((KeepsOthers.setCell W ⟨w.heap.size,0,none⟩ (I 0)).trans (KeepsOthers.setCell _ ⟨w.heap.size,1,none⟩ (.slice K R T))).same d _ hK rfl;have V:((W.setCell ⟨w.heap.size,0,none⟩ (I 0)).setCell ⟨w.heap.size,1,none⟩ (.slice K R T)).heap[w.heap.size]?=some (.cells #[I 0,.slice K R T] 210):=by
   rw [bj (bj p.1.res _)];rfl
  have g2:W.grownBy ((W.setCell ⟨w.heap.size,0,none⟩ (I 0)).setCell ⟨w.heap.size,1,none⟩ (.slice K R T)) (some w.heap.size):=au (au (ar W w.heap.size) 0 _) 1 _;have o2:=p.2.1.kept g2 (tU p.2.1 p.1.res av);have q2:=core G.1 G.2 p.1.im p.1.pg p.1.fr g2 (λr e=>by cases e;exact Fe _);have a5:w.heap.size<=d:=Z;clear c1 c2 c3 c4 c5 c6 hK;generalize (W.setCell ⟨w.heap.size,0,none⟩ (I 0)).setCell ⟨w.heap.size,1,none⟩ (.slice K R T)=W5 at *;have g3:=grownBy_putObj' W5 d (.deferred none);have o3:=o2.kept g3 (nB o2 λr e=>by cases e;exact⟨_,F,rfl⟩);have q3:=core G.1 G.2 q2.1 q2.2.1 q2.2.2 g3 (λr e=>by cases e;exact a5);have a4:=(g3.block w.heap.size (GL V) (λe=>by cases e;rw [V] at F;cases F)).trans V;rw [p.2.2.bytes] at o3;simp only [Gf,Gm] at o3;refine⟨bF,.inl ⟨_,_,rfl,run_takeDeferred F,?_⟩⟩;refine⟨.agg #[I 0,.slice K R T],?_,_,rfl,o3,q3⟩;have r1:(W5.putObj d (.deferred none)).cell? ⟨w.heap.size,0,none⟩=some (I 0):=by simp [World.cell?,a4]
  have r2:(W5.putObj d (.deferred none)).cell? ⟨w.heap.size,1,none⟩=some (.slice K R T):=by simp [World.cell?,a4]
  simp [results,Tryz.f181,go_sem,r1,r2]
def ww (W:World) (c:Array Value) (k:Nat):Option (Bool×List Int)->Prop
 | none=>c[k*3]?=some (.bool false)/\c[k*3+1]?=some (.bool false)/\c[k*3+2]?=some (C)
 | some (l,xs)=>c[k*3]?=some (.bool true)/\c[k*3+1]?=some (.bool (!l))/\xs.length=1024/\∃ g,c[k*3+2]?=some (Vl g 1024 1024)/\W.heap[g]?=some (.cells (Ns .u8 xs).toArray 5)
structure Sx (T Q n:Nat) (bud:Int) (m:Nat->Option (Bool×List Int)) (W:World):Prop where
 box:W.heap[T]?=some (.cells #[Vl Q n n,I bud] 215)
 row:∃ c,W.heap[Q]?=some (.cells c 217)/\c.size=n*3/\(∀ k,k<n->ww W c k (m k))/\∀ j k g,j<n->k<n->c[j*3+2]?=some (Vl g 1024 1024)->c[k*3+2]?=some (Vl g 1024 1024)->j=k
 out:∀ k,n<=k->m k=none
theorem Sx.c (h:Sx T Q n bud m W) :
  W.cell? ⟨T,0,none⟩=some (Vl Q n n)/\W.cell? ⟨T,1,none⟩=some (I bud):=by
 have a:=h.box;exact⟨by simp [World.cell?,a],by simp [World.cell?,a]⟩
theorem Sx.page (h:Sx T Q n bud m W) (k:Nat) (o:k<n) :
  ∃ a b c,W.cell? ⟨Q,k*3,none⟩=some (.bool a)/\W.cell? ⟨Q,k*3+1,none⟩=some (.bool b)/\W.cell? ⟨Q,k*3+2,none⟩=some c/\a=(m k).isSome/\(a&&b)=isOpen (m k) /\
   (∀ l xs,m k=some (l,xs)->xs.length=1024/\∃ g,c=Vl g 1024 1024/\W.heap[g]?=some (.cells (Ns .u8 xs).toArray 5)):=by
 obtain⟨c,a,u,p,_⟩:=h.row;have b:=p k o;cases j:m k with
 | none =>
  rw [j] at b;obtain⟨d,f,i⟩:=b;exact⟨false,false,C,by simp [World.cell?,a,d],by simp [World.cell?,a,f],by simp [World.cell?,a,i],rfl,rfl,λl xs e=>by cases e⟩
 | some q =>
  obtain⟨l,xs⟩:=q;rw [j] at b;obtain⟨d,f,r,g,i,s⟩:=b;exact⟨true,!l,Vl g 1024 1024,by simp [World.cell?,a,d],by simp [World.cell?,a,f],by simp [World.cell?,a,i],rfl,by simp [isOpen],λv t e=>by cases e;exact⟨r,g,rfl,s⟩⟩
theorem ut (T Q n bud m) (a:Nat) (w) (h:Sx T Q n bud m w) (j:n<=4096) (ha:a<18446744073709551616) :
  Calls prog 225 #[J T 0,U a] w λe d=>e=.returned (.bool (isOpen (m (a/1024))))/\d=w:=by
 obtain⟨k,l⟩:=h.c;by_cases f:a/1024<n
 ·obtain⟨g,o,p,q,r,s,i,c,_⟩:=h.page (a/1024) f;have b:=H c;clear i c h;cases g;·go_enter func225,ntmps225;go_wp2;go_ret;exact⟨cZ b.out,rfl⟩
  go_enter func225,ntmps225;go_wp2;go_ret;exact⟨cZ (by rw [<-b.out];rfl),rfl⟩
 have b:=H (h.out (a/1024) Z);have c:¬((a:Int)/1024<(n:Int)):=Z;clear h;go_enter func225,ntmps225;go_wp2;go_ret;exact⟨cZ (by rw [b.out];rfl),rfl⟩
theorem kO (T Q n bud m) (a:Nat) (w) (h:Sx T Q n bud m w) (u:n<=4096) (ha:a<18446744073709551616) (b:isOpen (m (a/1024))=true) :
  Calls prog 167 #[J T 0,U a] w λe j=>e=.returned (.int .u8 (be m a))/\j=w:=by
 obtain⟨v,x⟩:=h.c;have k:a/1024<n:=by
  rcases Nat.lt_or_ge (a/1024) n with e|e;·exact e
  rw [h.out _ e] at b;cases b
 obtain⟨y,A,B,o,p,F,r,s,f⟩:=h.page (a/1024) k;cases c:m (a/1024) with
 | none=>rw [c] at b;cases b
 | some q =>
  obtain⟨l,xs⟩:=q;obtain⟨t,g,rfl,i⟩:=f l xs c;have G:w.cell? ⟨g,a%1024,none⟩=some (.int .u8 (xs[a%1024]?.getD 0)):=by
   have d:a%1024<xs.length:=Z;simp [World.cell?,i,Ns,d]
  have d:=H (show be m a=xs[a%1024]?.getD 0 by simp [be,c]);clear r s f h b c t i o p;generalize xs[a%1024]?.getD 0=z at *;go_enter func167,ntmps167;go_wp2;go_ret;exact⟨cP d.symm,rfl⟩
def bz (m:Nat->Option (Bool×List Int)):Nat->Nat
 | 0=>0
 | k+1=>bz m k+(m k).isSome.toNat
theorem kW (m):∀ k,bz m k<=k
 | 0=>Fe _
 | k+1=>by have:=kW m k;have a:=Bool.toNat_le (m k).isSome;simp only [bz];omega
theorem jZ {f:Nat->Option Nat} {m:Nat->Option (Bool×List Int)} (h:∀ k,(f k).isSome=(m k).isSome):∀ k,bm f 0 k=bz m k
 | 0=>rfl
 | k+1=>by simp only [bm,bz];rw [jZ h k,FP,h k]
theorem mh {m:Nat->Option (Bool×List Int)} {n:Nat} (h:∀ k,n<=k->m k=none):∀ k,bz m (n+k)=bz m n
 | 0=>rfl
 | k+1=>by rw [<-Hj];simp only [bz];rw [mh h k,h (n+k) Z];rfl
theorem Sx.three (h:Sx T Q n bud m W) (k:Nat) (j:k<n) :
  ∃ a p l c,W.cell? ⟨Q,k*3,none⟩=some (.bool (m k).isSome)/\W.cell? ⟨Q,k*3+1,none⟩=some (.bool a)/\W.cell? ⟨Q,k*3+2,none⟩=some (.slice p l c)/\((m k).isSome&&a)=isOpen (m k):=by
 obtain⟨c,a,p,o,_⟩:=h.row;have b:=o k j;cases i:m k with
 | none =>
  rw [i] at b;obtain⟨d,e,f⟩:=b;exact⟨false,none,0,0,by simp [World.cell?,a,d],by simp [World.cell?,a,e],by simp [World.cell?,a,f],rfl⟩
 | some q =>
  obtain⟨l,xs⟩:=q;rw [i] at b;obtain⟨d,e,r,g,f,s⟩:=b;exact⟨!l,some ⟨g,0,none⟩,1024,1024,by simp [World.cell?,a,d],by simp [World.cell?,a,e],by simp [World.cell?,a,f],by simp [isOpen]⟩
theorem gp (T Q n bud m w) (h:Sx T Q n bud m w) (v:n<=4096) :
  Calls prog 85 #[J T 0] w λe r=>e=.returned (I (bz m n))/\D w r:=by
 obtain⟨y,z⟩:=h.c;have s:=H h;clear h;go_enter func85,ntmps85;go_wp2;go_loopw [3,11] (λc i wr=>∃ k:Nat,k<=n/\i=I k/\c=I (bz m k)/\D w wr) (λ_ i _=>n-(intOf i).toNat);case atStart=>exact ⟨0,Fs _,rfl,rfl,Fc _ _⟩
 case round =>
  obtain⟨k,A,rfl,rfl,a⟩:=hrel;by_cases j:k<n
  ·obtain⟨t,p,l,c,d,o,q,_⟩:=s.three k j;have d:=ad a d;have o:=ad a o;have q:=ad a q;have u:=kW m k;have f:=H (show bz m (k+1)=bz m k+(m k).isSome.toNat from rfl);have b:=H (a.alloc a.size (.cells #[.bool (m k).isSome,.bool t,.slice p l c] 217));clear a;generalize bz m k=x at *;cases g:(m k).isSome
   ·rw [g] at d f b;clear g;go_wp2;go_roundw;(case rel=>exact ⟨k+1,Z,aY,by rw [f.out];rfl,b.out⟩);case measure=>simp [intOf];omega
   rw [g] at d f b;clear g;go_wp2;go_roundw;(case rel=>exact ⟨k+1,Z,aY,by rw [f.out];rfl,b.out⟩);case measure=>simp [intOf];omega
  have d:k=n:=Z;subst d;have b:=H a;clear a;go_wp2;go_ret;exact⟨rfl,b.out⟩
theorem Sx.setByte (h:Sx T Q n bud m W) {k g:Nat} (t:k<n) {l:Bool} {xs:List Int} (A:m k=some (l,xs)) (B:W.cell? ⟨Q,k*3+2,none⟩=some (Vl g 1024 1024)) (i:Nat) (Y:i<1024) (x:Int) :
  Sx T Q n bud (eb m k (some (l,xs.set i x))) (W.setCell ⟨g,i,none⟩ (.int .u8 x)):=by
 obtain⟨c,q,F,u,a⟩:=h.row;have v:=u k t;rw [A] at v;obtain⟨G,K,L,f,s,b⟩:=v;have w:c[k*3+2]?=some (Vl g 1024 1024):=by simpa [World.cell?,q] using B
 have M:f=g:=by rw [s] at w;simpa using w
 subst M;have hT:T≠f:=by intro e;subst e;rw [h.box] at b;simp at b
 have N:Q≠f:=by intro e;subst e;rw [q] at b;simp at b
 refine⟨(Gx _ _ _ _ hT).trans h.box,⟨c,(Gx _ _ _ _ N).trans q,F,?_,a⟩,?_⟩
 ·intro j o;by_cases e:j=k;·subst e;rw [bL];refine⟨G,K,by simpa using L,f,s,?_⟩;rw [bj b];simp [Ns,List.map_set]
  rw [aV m k j _ e];have p:=u j o;cases d:m j with
  | none=>rw [d] at p;exact p
  | some r =>
   obtain⟨l2,O⟩:=r;rw [d] at p;obtain⟨P,R,S,V,y,X⟩:=p;refine⟨P,R,S,V,y,(Gx _ _ _ _ ?_).trans X⟩;intro z;simp at z;subst z;exact e (a j k _ o t y s)
 intro j o;rw [aV m k j _ Z];exact h.out j o
theorem t_ (T Q n bud m) (a:Nat) (x:Int) (w) (h:Sx T Q n bud m w) (v:n<=4096) (ha:a<18446744073709551616) {l:Bool} {xs:List Int} (b:m (a/1024)=some (l,xs)) :
  Calls prog 166 #[J T 0,U a,.int .u8 x] w λe i=>e=.returned (.tuple #[])/\Sx T Q n bud (eb m (a/1024) (some (l,xs.set (a%1024) x))) i/\∃ g c,w.heap[g]?=some (.cells c 5)/\w.cell? ⟨Q,a/1024*3+2,none⟩=some (Vl g 1024 1024)/\w.grownBy i (some g):=by
 obtain⟨y,A⟩:=h.c;have j:a/1024<n:=by
  rcases Nat.lt_or_ge (a/1024) n with e|e;·exact e
  rw [h.out _ e] at b;cases b
 obtain⟨B,F,G,p,q,k,r,s,o⟩:=h.page (a/1024) j;obtain⟨t,g,rfl,d⟩:=o l xs b;have c:a%1024<xs.length:=Z;have u:w.cell? ⟨g,a%1024,none⟩=some (.int .u8 (xs[a%1024]?.getD 0)):=by simp [World.cell?,d,Ns,c]
 have K:w.frozen? ⟨g,a%1024,none⟩=false:=by simp [World.frozen?,d]
 have f:=H (IB (h.setByte j b k (a%1024) Z x) (IB d k));clear r s o h b t d p q c;generalize xs[a%1024]?.getD 0=z at u;go_enter func166,ntmps166;go_wp2;go_end0;exact⟨rfl,f.1,g,_,f.2.1,f.2.2,au (ar w g) _ _⟩
end
section
open Go.ChangeShapes Go.WideShapes Go.ChangeAt Go.RowKit
theorem mC (c:Int) (w:World) (h:0<=c/\c<12) :
  Calls prog 21 #[I c] w λe a=>e=.returned (I (sz c))/\D w a:=by
 rcases fH h with rfl|rfl|rfl|rfl|rfl|rfl|rfl|rfl|rfl|rfl|rfl|rfl
 all_goals
  clear h
  go_enter func21,ntmps21
  go_wp2
  go_ret
  exact⟨rfl,by repeat (first|exact Fc _ _|apply Below.drew|(refine Below.alloc ?_ (Fe _) _))⟩
theorem kN (c:Int) (w:World) (b:c<0) :
  Calls prog 21 #[I c] w λe a=>e=.returned (I 0)/\D w a:=by
 go_enter func21,ntmps21;go_wp2;go_ret;exact⟨rfl,by repeat (first|exact Fc _ _|apply Below.drew|(refine Below.alloc ?_ (Fe _) _))⟩
theorem kH (c:Int) (w:World) (b:0<=c) (d:12<=c) :
  Calls prog 21 #[I c] w λe a=>e=.returned (I 0)/\D w a:=by
 go_enter func21,ntmps21;go_wp2;go_ret;exact⟨rfl,by repeat (first|exact Fc _ _|apply Below.drew|(refine Below.alloc ?_ (Fe _) _))⟩
theorem cJ (c) (w:World) :
  Calls prog 21 #[I c] w λe a=>e=.returned (I (sz c))/\D w a:=by
 by_cases h:0<=c/\c<12;·exact mC c w h
 rw [gL h];by_cases b:c<0;·exact kN c w b
 exact kH c w Z Z
theorem dW (c) (w:World) :
  Calls prog 53 #[I c] w λe i=>e=.returned (I (pg c))/\D w i:=by
 have b:=hidR (cJ c);by_cases h:0<=c/\c<12
 ·have a:(pg c-1)*1024<4*sz c/\4*sz c<=pg c*1024/\1<=pg c/\pg c<=4:=by
   rcases fH h with rfl|rfl|rfl|rfl|rfl|rfl|rfl|rfl|rfl|rfl|rfl|rfl <;> decide
  have j:=eJ h;generalize sz c=s at b j a ⊢;generalize pg c=p at a ⊢;clear h;go_enter func53,ntmps53;go_wp2_with fail;refine (b _).mono ?_;rintro e l ⟨rfl,d⟩;go_wp2;go_loop [4] (λn=>∃ k:Int,1<=k/\k<=p/\n=I k) (λn=>(p-intOf n).toNat);case atStart=>exact ⟨1,Z,Z,rfl⟩
  case round =>
   obtain⟨k,o,q,rfl⟩:=hrel;by_cases f:k<p
   ·have m:k*1024<4*s:=Z;have g:p<=4:=a.2.2.2;clear a;go_wp2
    go_round
    (case rel=>exact ⟨k+1,Z,Z,rfl⟩);case measure=>simp [intOf];omega
   obtain rfl:k=p:=Z;have m:¬k*1024<4*s:=Z;have g:k<=4:=a.2.2.2;clear f a;go_wp2;go_ret;exact⟨rfl,d⟩
 rw [xX h];rw [gL h] at b;clear h;go_enter func53,ntmps53;go_wp2_with fail;refine (b _).mono ?_;rintro e l ⟨rfl,d⟩;go_wp2;go_ret;exact⟨rfl,d⟩
theorem fC (c) (w:World) :
  Calls prog 45 #[I c] w λe f=>e=.returned (I (sl c))/\D w f:=by
 have a:=hidR (cJ c);have d:=hidR (dW c);by_cases h:0<=c/\c<12;·have g:=eJ h;have i:=fx h;rw [(ja h).2.2.1];generalize sz c=s at a g ⊢;generalize pg c=p at d i ⊢;clear h;go_enter func45,ntmps45;go_wp2_with fail;refine (a _).mono ?_;rintro e j ⟨rfl,b⟩;go_wp2_with fail;refine (d _).mono ?_;rintro e m ⟨rfl,k⟩;go_wp2_with fail;refine (a _).mono ?_;rintro e n ⟨rfl,l⟩;go_wp2;go_ret;exact⟨rfl,cu b (cu k l)⟩
 rw [xW h];rw [gL h] at a;clear h;go_enter func45,ntmps45;go_wp2_with fail;refine (a _).mono ?_;rintro e j ⟨rfl,b⟩;go_wp2;go_ret;exact⟨rfl,b⟩
theorem Df {k:IntKind} {b:Int} (h:a=b):Ending.returned (.int k a)=.returned (.int k b):=by rw [h]
def rp (c:Int):Int:=if 0<=c/\c<12 then 6*(pg c+1) else 0
theorem CT {c:Int} (h:0<=c/\c<12):rp c=6*(pg c+1):=by simp only [rp,Gv h]
theorem sN {c:Int} (h:¬(0<=c/\c<12)):rp c=0:=by simp only [rp,Gu h]
theorem tJ (c):0<=rp c/\rp c<=30:=by
 by_cases h:0<=c/\c<12;·have:=fx h;rw [CT h];omega
 rw [sN h];omega
def eV:Nat->Int
 | 0=>1
 | k+1=>eV k+rp k
def rs (c:Int):Int:=if 0<=c/\c<12 then eV c.toNat else -1
theorem gX:∀ k:Nat,1<=eV k/\eV k<=1+30*k
 | 0=>by simp [eV]
 | k+1=>by have:=gX k;have:=tJ k;simp only [eV];omega
theorem gt (c w) (a:Tb w) :
  Calls prog 92 #[I c] w λe b=>e=.returned (I (pg c+1))/\b=w:=by
 have d:=hidR (fy c w a);have f:=AG c;generalize pg c=s at d f ⊢;clear a;go_enter func92,ntmps92;go_wp2_with fail;refine (d).mono ?_;rintro e b ⟨rfl,rfl⟩;go_wp2;go_ret;exact⟨rfl,rfl⟩
theorem lL (c w) (b:Tb w) :
  Calls prog 91 #[I c] w λe a=>e=.returned (I (rp c))/\a=w:=by
 have f:=hidR (gt c w b);by_cases h:0<=c/\c<12;·have g:=fx h;have d:=hidR (dS _ w h);rw [CT h];generalize pg c=s at f g ⊢;clear b h;go_enter func91,ntmps91;go_wp2_with fail;refine (d).mono ?_;rintro e a ⟨rfl,rfl⟩;go_wp2_with fail;refine (f).mono ?_;rintro e a ⟨rfl,rfl⟩;go_wp2;go_ret;exact⟨rfl,rfl⟩
 rw [sN h];have d:=hidR (em _ w h);clear b h;go_enter func91,ntmps91;go_wp2_with fail;refine (d).mono ?_;rintro e a ⟨rfl,rfl⟩;go_wp2;go_ret;exact⟨rfl,rfl⟩
theorem hJ (c) (w:World) :
  Calls prog 93 #[I c] w λe f=>e=.returned (I (rp c))/\D w f:=by
 have a:=hidR (cJ c);have d:=hidR (dW c);by_cases h:0<=c/\c<12;·have g:=eJ h;have i:=fx h;rw [CT h];generalize sz c=s at a g ⊢;generalize pg c=p at d i ⊢;clear h;go_enter func93,ntmps93;go_wp2_with fail;refine (a _).mono ?_;rintro e j ⟨rfl,b⟩;go_wp2_with fail;refine (d _).mono ?_;rintro e l ⟨rfl,k⟩;go_wp2;go_ret;exact⟨rfl,cu b k⟩
 rw [sN h];rw [gL h] at a;clear h;go_enter func93,ntmps93;go_wp2_with fail;refine (a _).mono ?_;rintro e j ⟨rfl,b⟩;go_wp2;go_ret;exact⟨rfl,b⟩
theorem jx {c:Int} (h:0<=c/\c<12):rs c=eV c.toNat:=by simp only [rs,Gv h]
theorem rY {c:Int} (h:¬(0<=c/\c<12)):rs c = -1:=by simp only [rs,Gu h]
theorem ir (c) (w:World) :
  Calls prog 90 #[I c] w λe o=>e=.returned (I (rs c))/\D w o:=by
 have d:=hidR (cJ c);have p:=hidR hJ;by_cases h:0<=c/\c<12
 ·have q:=eJ h;rw [jx h];generalize sz c=s at d q ⊢;obtain⟨m,rfl⟩:=GM h.1;have B:m<12:=Z;simp only [FD];clear h;go_enter func90,ntmps90;go_wp2_with fail;refine (d _).mono ?_;rintro e r ⟨rfl,f⟩;have t:=hidR f;clear f;go_wp2;have u:(s==0)=false:=bK;simp only [u];go_loopw [3,4] (λn i wr=>∃ k:Nat,k<=m/\i=I k/\n=I (eV k)/\D w wr) (λ_ i _=>m-(intOf i).toNat);case atStart=>exact ⟨0,Z,rfl,rfl,t⟩
  case round =>
   obtain⟨k,F,rfl,rfl,g⟩:=hrel;have v:=gX k;by_cases x:k<m
   ·have j:=hidR (show eV (k+1)=eV k+rp (k:Int) from rfl);have y:=tJ (k:Int);have z:=hidR g;clear g;go_wp2_with fail;refine (p _ _).mono ?_;rintro e G ⟨rfl,l⟩;generalize eV k=a at v j;generalize rp (k:Int)=b at y j;have A:=hidR (cu z l);clear l;go_wp2;go_roundw;(case rel=>exact ⟨k+1,Z,aY,by rw [j.out],A⟩);case measure=>simp [intOf];omega
   obtain rfl:k=m:=Z;go_wp2;go_ret;exact⟨rfl,g⟩
 rw [rY h];rw [gL h] at d;clear h;go_enter func90,ntmps90;go_wp2_with fail;refine (d _).mono ?_;rintro e r ⟨rfl,f⟩;go_wp2;go_ret;exact⟨rfl,f⟩
theorem mW:eV 12=187:=av
theorem ek (w:World) :
  Calls prog 52 #[] w λe c=>e=.returned (I 187)/\D w c:=by
 have d:rs 11=157:=av;have f:rp 11=30:=av;have a:Hid (∀ w,_):=λw=>ir 11 w
 have b:Hid (∀ w,_):=λw=>hJ 11 w
 rw [d] at a;rw [f] at b;go_enter func52,ntmps52;go_wp2_with fail;refine (a _).mono ?_;rintro e j ⟨rfl,g⟩;go_wp2_with fail;refine (b _).mono ?_;rintro e k ⟨rfl,i⟩;go_wp2;go_ret;exact⟨rfl,cu g i⟩
theorem eo (w:World) :
  Calls prog 51 #[] w λe a=>e=.returned (I 283)/\D w a:=by
 have b:=hidR ek;go_enter func51,ntmps51;go_wp2_with fail;refine (b _).mono ?_;rintro e d ⟨rfl,c⟩;go_wp2;go_ret;exact⟨rfl,c⟩
theorem v_ (c) : -1<=rs c/\rs c<=361:=by
 by_cases h:0<=c/\c<12;·have:=gX c.toNat;rw [jx h];omega
 rw [rY h];omega
theorem iw (c s:Int) (k : -1000<=s) (l:s<=1000) (w:World) :
  Calls prog 46 #[I c,I s] w λe d=>e=.returned (I (rs c+s*(pg c+1)))/\D w d:=by
 have a:=hidR (ir c);have b:=hidR (dW c);have f:=v_ c;have g:=AG c;generalize rs c=r at a f ⊢;generalize pg c=p at b g ⊢;have m : -5000<=s*(p+1)/\s*(p+1)<=5000:=by
  have:p=0\/p=1\/p=2\/p=3\/p=4:=Z;rcases this with rfl|rfl|rfl|rfl|rfl <;> omega
 go_enter func46,ntmps46;go_wp2_with fail;refine (a _).mono ?_;rintro e n ⟨rfl,i⟩;go_wp2_with fail;refine (b _).mono ?_;rintro e o ⟨rfl,j⟩;go_wp2;go_ret;exact⟨rfl,cu i j⟩
theorem cd (c) (w:World) :
  Calls prog 60 #[I c] w λe d=>e=.returned (I (us c))/\D w d:=by
 have a:=hidR (cJ c);by_cases h:0<=c/\c<12;·have f:=eJ h;rw [ue h];generalize sz c=s at a f ⊢;clear h;go_enter func60,ntmps60;go_wp2_with fail;refine (a _).mono ?_;rintro e g ⟨rfl,b⟩;go_wp2_with fail;refine (a _).mono ?_;rintro e j ⟨rfl,i⟩;go_wp2;go_ret;exact⟨rfl,cu b i⟩
 rw [sR h];rw [gL h] at a;clear h;go_enter func60,ntmps60;go_wp2_with fail;refine (a _).mono ?_;rintro e g ⟨rfl,b⟩;go_wp2;go_ret;exact⟨rfl,b⟩
theorem vC (c w) (b:Tb w) :
  Calls prog 176 #[I c] w λe a=>e=.returned (I (us c))/\a=w:=by
 have f:=hidR (dM c w b);by_cases h:0<=c/\c<12;·have g:=eJ h;rw [ue h];have d:=hidR (dS _ w h);generalize sz c=s at f g ⊢;clear b h;go_enter func176,ntmps176;go_wp2_with fail;refine (d).mono ?_;rintro e a ⟨rfl,rfl⟩;go_wp2_with fail;refine (f).mono ?_;rintro e a ⟨rfl,rfl⟩;go_wp2;go_ret;exact⟨rfl,rfl⟩
 rw [sR h];have d:=hidR (em _ w h);clear b h;go_enter func176,ntmps176;go_wp2_with fail;refine (d).mono ?_;rintro e a ⟨rfl,rfl⟩;go_wp2;go_ret;exact⟨rfl,rfl⟩
theorem jf {k:IntKind} {b:Int} (h:a=b):Ending.returned (.int k a)=.returned (.int k b):=by rw [h]
def ip (r:Int):Nat->Nat->Int
 | k,0 => -1
 | k,n+1=>if r<=us k then (k:Int) else ip r (k+1) n
def co (r:Int):Int:=ip r 0 12
theorem ot (c):0<=us c/\us c<=1016:=by
 by_cases h:0<=c/\c<12;·have:=eJ h;rw [ue h];omega
 rw [sR h];omega
theorem iS (r:Int) (h:1016<r):∀ n k,ip r k n = -1
 | 0,k=>rfl
 | n+1,k=>by
  have:=ot k
  simp only [ip,Gu (show ¬r<=us (k:Int) by omega)]
  exact iS r h n (k+1)
theorem sF (r:Int) (o:0<=r) (p:r<=18446744073709551615) (w:World) :
  Calls prog 159 #[U r] w λe j=>e=.returned (I (co r))/\D w j:=by
 have l:=hidR cd;go_enter func159,ntmps159;go_wp2;go_loopw [3] (λc wr=>∃ k:Nat,k<=12/\c=I k/\co r=ip r k (12-k)/\D w wr) (λc _=>12-(intOf c).toNat);case atStart=>exact ⟨0,Z,rfl,rfl,Fc _ _⟩
 case round =>
  obtain⟨k,q,rfl,a,d⟩:=hrel;by_cases m:k<12
  ·have b:12-k=(11-k)+1:=Z;rw [b,ip] at a;have n:=ot (k:Int);have f:=hidR d;clear d b;go_wp2_with fail;refine (l _ _).mono ?_;rintro e s ⟨rfl,g⟩;generalize us (k:Int)=u at a n ⊢;by_cases i:r<=u;·rw [Gv i] at a;have b:=hidR a;clear a;go_wp2;go_ret;exact⟨jf b.symm,cu f g⟩
   rw [Gu i] at a;have b:=hidR a;clear a;go_wp2;go_roundw;(case rel=>exact ⟨k+1,Z,aY,by rw [b.out];congr 1;omega,cu f g⟩);case measure=>simp [intOf];omega
  obtain rfl:k=12:=Z;have b:=hidR a;clear a;go_wp2;go_ret;exact⟨jf b.symm,d⟩
theorem Cm {k:Nat} (h:k<12):us (k:Int)=vK.getD k 0-8:=by
 rw [ue ⟨Z,Z⟩,sW h]
theorem lS (r:Int) (h:1016<r) (w:World) :
  Calls prog 131 #[U r] w λe a=>e=.returned (I (co r))/\a=w:=by
 rw [show co r = -1 from iS r h 12 0];go_enter func131,ntmps131;go_wp2;go_ret;exact⟨rfl,rfl⟩
theorem ri (w:World) (A:Array Value) (k:Nat) (v:Value) (a:k<12) (h:A[k]?=some v):(Instr.index 152 (.agg A) (I k)).run prog w=.ok v w:=by
 simp [Instr.index,run_underlying underlying152,asIntOf,a,go_sem,h]
theorem jX (r:Int) (p:0<=r) (h:r<=1016) (w) (g:Tb w) :
  Calls prog 131 #[U r] w λe n=>e=.returned (I (co r))/\n=w:=by
 obtain⟨t,o,j⟩:=g.row;go_enter func131,ntmps131;go_wp2_with (refine F8 rfl 152 _ rfl 0 rfl t _ o _ j underlying152 rfl E ?_);go_loop [8] (λi=>∃ k:Nat,k<=12/\i=I k/\co r=ip r k (12-k)) (λi=>12-(intOf i).toNat);case atStart=>exact ⟨0,Z,rfl,rfl⟩
 case round =>
  obtain⟨k,q,rfl,a⟩:=hrel;by_cases b:k<12
  ·have l:12-k=(11-k)+1:=Z;rw [l,ip,Cm b] at a;have d:(List.map (λz=>Value.int IntKind.i64 z) vK).toArray[k]?=some (I (vK.getD k 0)):=by
    have f:k<vK.length:=b;simp [Fj f]
   have m:=eJ (c:=(k:Int)) ⟨Z,Z⟩;rw [sW b] at m;clear j g l;generalize vK.getD k 0=u at a m d;generalize (List.map (λz=>Value.int IntKind.i64 z) vK).toArray=A at d ⊢;have l:=ri w A k _ b d;clear d;by_cases s:r+8<=u;·rw [Gv Z] at a;have d:=hidR a;clear a;go_wp2;go_ret;exact⟨jf d.symm,rfl⟩
   rw [Gu Z] at a;have d:=hidR a;clear a;go_wp2
   go_round
   (case rel=>exact ⟨k+1,Z,aY,by rw [d.out];congr 1;omega⟩);case measure=>simp [intOf];omega
  obtain rfl:k=12:=Z;have d:=hidR a;clear a;go_wp2;go_ret;exact⟨jf d.symm,rfl⟩
theorem lx (r:Int) (a:0<=r) (w) (b:Tb w) :
  Calls prog 131 #[U r] w λe c=>e=.returned (I (co r))/\c=w:=by
 by_cases h:1016<r;·exact lS r h w
 exact jX r a Z w b
end
end Go.Proofs.YtdngbppdomoenaaGreatDoor
