import Derived.Test.YtibblbenmpcplaaGreatDoorN01
import Derived.Test.YtibblbenmpcplaaGreatDoorN02
set_option linter.unusedVariables false
set_option linter.unusedSimpArgs false
set_option maxRecDepth 20000
set_option maxHeartbeats 8000000
namespace Go.Proofs.YtibblbenmpcplaaGreatDoor
open Go.Proofs.Tryz
variable {DB M Q S T b base n:Nat} {a bud nn st:Int} {f:Nat->Option Nat} {A W W' w:World} {m:Nat->Option (Bool×List Int)} {v:Value} {xs:List Value} {row:Option Nat}
section
open Go.RowKit Go.Shelf
attribute [local go_sem] Oper.semAt_some
theorem Pg.alloc {f m W} (h:Pg f m W) (o:Obj):Pg f m (W.alloc o):=by
 refine⟨?_,h.inj⟩;intro j;rcases h.at' j with a|⟨b,l,xs,a,d,e,c⟩;·exact .inl a
 exact .inr ⟨b,l,xs,a,d,e,by rw [(GZ W o none).block b (G_ c) bH];exact c⟩
theorem Im.grown {n} (h:Im S M st n bud f W) (c:W.grownBy W' none):Im S M st n bud f W':=by
 obtain⟨a,b,r⟩:=h.map;exact⟨by rw [c.block S (G_ h.box) bH];exact h.box,a,b.kept c bH,r⟩
theorem Pg.grown (h:Pg f m W) (d:W.grownBy W' none):Pg f m W':=by
 refine⟨?_,h.inj⟩;intro j;rcases h.at' j with a|⟨b,l,xs,a,e,g,c⟩;·exact .inl a
 exact .inr ⟨b,l,xs,a,e,g,by rw [d.block b (G_ c) bH];exact c⟩
theorem Fr.ofGrown (a:W.grownBy W' none):Fr S M f f W W' :=
 ⟨a.os,a.tape,a.output,a.size,λg b _ _ _=>a.block g b bH,λk g e=>.inl ⟨k,e⟩⟩
theorem ej {B a:World} (h:A.grownBy B none) (k:B.grownBy a none):A.grownBy a none :=
 ⟨k.os.trans h.os,k.tape.trans h.tape,k.output.trans h.output,Fx h.size k.size,λg b _=>by rw [k.block g (FG b h.size) bH];exact h.block g b bH⟩
theorem Ld.init {b:World} (i:Im S M st nn bud f w) (j:Pg f m w) (d:(w.alloc (.cells #[I 0,C] 197)).grownBy b none) (v) :
  Ld S M st nn bud f m w w.heap.size b.heap.size v (b.alloc (.cells #[v] 22)):=by
 have e:=ej (GZ w (.cells #[I 0,C] 197) none) (ej d (GZ b (.cells #[v] 22) none));have g:w.heap.size<b.heap.size:=by have:=d.size;simp at this;omega
 refine⟨i.grown e,j.grown e,Fr.ofGrown e,?_,(Hq b _).1,?_,Fv _,Z⟩;·rw [(GZ b (.cells #[v] 22) none).block _ g bH,d.block _ bH bH];exact (Hq w _).1
 obtain⟨a,c,_⟩:=i.map;exact c.lt
theorem Cl.made (S a n) (W:World):Cl S W.heap.size a n (((W.alloc (.cells #[J S 0] 58)).alloc (.cells #[U a] 23)).alloc (.cells #[I n] 3)):=by
 refine⟨?_,?_,?_⟩;·rw [(GZ _ _ none).block _ bG bH,(GZ _ _ none).block _ bH bH];exact (Hq W _).1
 ·rw [(GZ _ _ none).block _ bH bH];have:=(Hq (W.alloc (.cells #[J S 0] 58)) (.cells #[U a] 23)).1;simpa using this
 have:=(Hq ((W.alloc (.cells #[J S 0] 58)).alloc (.cells #[U a] 23)) (.cells #[I n] 3)).1;simpa using this
theorem Kp.below {N:Nat} {B:World} (h:Below N A B) (c:S<N) (d:M<N) (e:b+1+1<N):Kp S M b A B :=
 ⟨h.size,λg a=>h.block g (by rcases a with rfl|rfl|rfl|rfl|rfl <;> omega)⟩
theorem wO {N:Nat} (d:S<N) (e:M<N) (f:b+1+1<N) (W:World) (l:Nat) (o a:Obj) (i:N<=l) (h:W.heap[l]?=some o):Kp S M b W (W.putObj l a) :=
 ⟨(grownBy_putObj' W l a).size,λg c=>(grownBy_putObj' W l a).block g (by have:=G_ h;rcases c with rfl|rfl|rfl|rfl|rfl <;> omega) (by simp;rcases c with rfl|rfl|rfl|rfl|rfl <;> omega)⟩
theorem nz (h:A.ownsRow base 5 1 v n xs) (b:∀ r,row=some r->∃ o:Obj,A.heap[r]?=some o/\o.isCells=false):v.ownBlock=none\/v.ownBlock≠row:=by
 rcases h.2 with ⟨rfl,_⟩|⟨g,c,d,rfl,_,f,_⟩;·exact .inl rfl
 right;intro e;obtain⟨o,a,i⟩:=b g e.symm;rw [f] at a;cases a;cases i
theorem nN (h:A.ownsRow base 5 1 v n xs):∃ p l c,v=.slice p l c:=by
 rcases h.2 with ⟨rfl,_⟩|⟨g,a,b,rfl,_⟩;·exact⟨_,_,_,rfl⟩
 exact⟨_,_,_,rfl⟩
theorem core (o:Im S M st nn bud f w) (q:Pg f m w) (p:Im S M st nn bud f W) (pg:Pg f m W) (c:Fr S M f f w W) (i:W.grownBy W' row) (s:∀ r,row=some r->w.heap.size<=r) :
  Im S M st nn bud f W'/\Pg f m W'/\Fr S M f f w W':=by
 have k:∀ g,g<w.heap.size->W'.heap[g]?=W.heap[g]?:=λg n=>i.block g (FG n c.size) (λe=>by have:=s g e.symm;omega)
 refine⟨⟨(k S (G_ o.box)).trans p.box,?_⟩,⟨?_,pg.inj⟩,?_⟩;·obtain⟨_,e,_⟩:=o.map;obtain⟨a,⟨j,d,l,t⟩,r⟩:=p.map;exact⟨a,⟨j,d,(k M e.lt).trans l,t⟩,r⟩
 ·intro j;rcases pg.at' j with a|⟨b,l,xs,a,d,e,t⟩;·exact .inl a
  obtain⟨_,_,_,_,u⟩:=q.cell a;exact .inr ⟨b,l,xs,a,d,e,(k b (G_ u)).trans t⟩
 refine⟨i.os.trans c.os,i.tape.trans c.tape,i.output.trans c.output,Fx c.size i.size,?_,c.made⟩;intro g n a d e;rw [k g n];exact c.block g n a d e
theorem tY {c:Array Value} {t:TypeId} {z:Nat×Nat} (h:A.ownsRow base 5 1 v n xs) (a:A.heap[DB]?=some (.cells c t z)) (b:t≠5):v.ownBlock=none\/v.ownBlock≠some DB:=by
 rcases h.2 with ⟨rfl,_⟩|⟨g,d,f,rfl,_,i,_⟩;·exact .inl rfl
 right;intro e;cases e;rw [i] at a;cases a;exact b rfl
theorem Ac (h:A.ownsRow base 5 1 v n xs):∀ r,v.ownBlock=some r->base<=r/\∃ c,A.heap[r]?=some (.cells c 5):=by
 intro r e;rcases h.2 with ⟨rfl,_⟩|⟨g,b,a,rfl,c,d,_⟩;·cases e
 cases e;exact⟨c,a,d⟩
theorem Ld.kpRow {R n} (h:Ld S M st nn bud f m w R DB v W) (i:Cl S b a n W) (j:W.grownBy W' row) (k:∀ r,row=some r->w.heap.size<=r/\∀ c t z,W.heap[r]?=some (.cells c t z)->t=5):Kp S M b W W':=by
 have d:∀ (b:Nat) (c:Array Value) (t:TypeId) (z:Nat×Nat),W.heap[b]?=some (Obj.cells c t z)->t≠5->W'.heap[b]?=W.heap[b]?:=λb c t z l o=>j.block b (G_ l) (λe=>o ((k b e.symm).2 c t z l))
 refine⟨j.size,?_⟩;rintro g (rfl|rfl|rfl|rfl|rfl);·exact d _ _ _ _ h.im.box ar
 ·exact j.block _ (FG h.mlt h.fr.size) (λe=>by have:=(k _ e.symm).1;have:=h.mlt;omega)
 ·exact d _ _ _ _ i.s ar
 ·exact d _ _ _ _ i.a ar
 exact d _ _ _ _ i.n ar
theorem Ld.kpBox {R n} (h:Ld S M st nn bud f m w R DB v W) (i:Cl S b a n W) (j:Value):Kp S M b W (W.setCell ⟨DB,0,none⟩ j):=by
 have d:∀ (b:Nat) (c:Array Value) (t:TypeId) (z:Nat×Nat),W.heap[b]?=some (Obj.cells c t z)->t≠22->(W.setCell ⟨DB,0,none⟩ j).heap[b]?=W.heap[b]?:=by
  intro b c t z g k;refine GQ _ _ _ _ ?_;intro e;simp at e;subst e;rw [h.box] at g;cases g;exact k rfl
 refine⟨by simp [World.setCell],?_⟩;rintro g (rfl|rfl|rfl|rfl|rfl);·exact d _ _ _ _ h.im.box ar
 ·refine GQ _ _ _ _ ?_;have:=h.mlt;have:=h.dge;simp;omega
 ·exact d _ _ _ _ i.s ar
 ·exact d _ _ _ _ i.a ar
 exact d _ _ _ _ i.n ar
theorem zu (S M st nn bud f m) (a n:Nat) (w) (j:Im S M st nn bud f w) (k:Pg f m w) (hn:n<=4096) (ha:n=0\/a+n<=4611686018427387904) (c:∀ d,d<n->∃ g,f ((a+d)/1024)=some g) (h:∀ w,Im S M st nn bud f w->Pg f m w->Calls prog 214 #[J S 0,U a,I n] w λe X=>e=.returned (I 0)/\X=w) :
  CallsIn Fence.wide 5 prog 167 #[J S 0,U a,I n] w λe X=>∃ v,e=.returned (.agg #[I 0,v])/\X.ownsRow w.heap.size 5 1 v n (Ns .u8 ((List.range n).map λi=>bO m (a+i)))/\Im S M st nn bud f X/\Pg f m X/\Fr S M f f w X:=by
 obtain⟨i0,a0,a1,a2,a3⟩:=G0 Tryz.info5By;have H1:=H h;have G:=H (IT j k);have HP:=H c;clear h j k c;refine callsIn_of_wp_marks func167 rfl trivial ?_ rfl;simp only [ntmps167,FX,FN,F1,Nat.reduceAdd,Nat.reduceSub,FP,FO,FY,Iv,FV,F5]
 gi_wp2_with fail
 refine⟨trivial,?_⟩;refine ((callsIn_wide (n:=4)).2 (H1 _ (G.1.alloc _) (G.2.alloc _))).mono ?_;rintro _ _ ⟨rfl,rfl⟩
 gi_wp2_with (gi_at_make;refine wpListIn_make_own _ rfl _ _ 22 rfl w.heap.size 5 i0 (.int .u8 0) 1 underlying22 a0 a1 a2 .i64 .i64 _ n rfl rfl rfl ?c1 ?c2 ?c3 ?_)
 case c1=>rw [a3];omega
 case c2=>unfold maxLen;omega
 case c3=>simp
 intro w2 i c;have j:=Ld.init G.1 G.2 c (Vl (w.heap.size+1) 0 n);have l:=i.alloc (.cells #[Vl (w.heap.size+1) 0 n] 22);have k:=H (IT j l);have hS:=H (FG (G_ G.1.box) j.fr.size);have hM:=H (FG j.mlt j.fr.size);have L:=H j.fr.size;clear i c j l
 gi_wp2_with fail
 refine⟨trivial,?_⟩;obtain⟨j,c⟩:∃ j,w2.alloc (.cells #[Vl (w.heap.size+1) 0 n] 22)=j:=⟨_,rfl⟩;obtain⟨DB,i⟩:∃ DB,w2.heap.size=DB:=⟨_,rfl⟩;rw [c] at k hS hM L;rw [i] at k;rw [c,i];clear c i;refine ((callsIn_wide (n:=4)).2 (oj _ _ _ _)).mono ?_;rintro e w4 ⟨rfl,rfl⟩;gi_wp2;have HC:=H (Cl.made S a n j);have i:=ej (GZ j (.cells #[J S 0] 58) none) (ej (GZ _ (.cells #[U a] 23) none) (GZ _ (.cells #[I n] 3) none));have q:=H (IT (k.1.keep i (λr e=>by cases e)) (k.2.kept i (.inr (by simp [Value.ownBlock]))));have h4:j.heap.size+1+1+1=(((j.alloc (.cells #[J S 0] 58)).alloc (.cells #[U a] 23)).alloc (.cells #[I n] 3)).heap.size:=bH;obtain⟨Y,c⟩:∃ Y,((j.alloc (.cells #[J S 0] 58)).alloc (.cells #[U a] 23)).alloc (.cells #[I n] 3)=Y:=⟨_,rfl⟩;rw [c] at HC q h4;rw [c];clear i c k;have hS:=hS.out;have hM:=hM.out;have L:=L.out;refine wpIn_rangeFunc_ownF rfl Z (gf:=236) (lb:=#[J (j.heap.size+1+1) 0,J (j.heap.size+1) 0,J j.heap.size 0]) rfl trivial (enters_of func236 E rfl)
  (encs:=λx : { d:Nat // d<n }=>vt f a n x.1) (Kp:=Kp S M j.heap.size) (S:=λys=>Got a n ys n) (Sp:=λi=>∃ d,Got a n i d) (N:=n) (w0:=Y)
  (λl c Jx W d k o o p=>nW S M st nn bud f a n l j.heap.size 4 Z hn ha HP c Jx W k o (HC.kp (Kp.below (M:=M) (N:=Y.heap.size) d Z Z Z)) (q.1.im.kp (Kp.below (N:=Y.heap.size) (b:=j.heap.size) d Z Z Z)) p)
  Kp.trans (λW l o c k h _ _=>wO (S:=S) (M:=M) (b:=j.heap.size) (N:=Y.heap.size) Z Z Z W l o c k h) (Fu _ _) (λ_=>rfl)
  (λi W=>∃ v,Ld S M st nn bud f m w w.heap.size DB v W/\W.ownsRow w.heap.size 5 1 v (dh m a n i).length (Ns .u8 (dh m a n i))/\Cl S j.heap.size a n W)
  (λc i W=>False)
  ?own (λc s A B row d O hr=>d) ⟨_,q.1,q.2,HC⟩
  (λx=>{ tmps:=#[J S 0,U a,I n,undef,undef,undef,J w.heap.size 0,I 0,J DB 0,.slice (some ⟨(f ((a+x.1)/1024)).getD 0,(a+x.1)%1024,none⟩) (ct a n x.1) (1024-(a+x.1)%1024),J S 0,U a,I n,I 0,I 0,.bool false,undef,undef,I n,Vl (w.heap.size+1) 0 n,J S 0,U a,I n,.func (.func 236) #[] #[J (j.heap.size+1+1) 0,J (j.heap.size+1) 0,J j.heap.size 0],.slice (some ⟨(f ((a+x.1)/1024)).getD 0,(a+x.1)%1024,none⟩) (ct a n x.1) (1024-(a+x.1)%1024),undef,undef,undef,undef,undef],defers:=[] }) ?assign ?body ?done ?stop
 case own =>
  rintro s A B row ⟨v,k,y,P⟩ O hr;have hb:∀ r,row=some r->w.heap.size<=r/\∀ c t z,A.heap[r]?=some (.cells c t z)->t=5:=by
   intro r e;obtain⟨h1,o,Q,d⟩:=hr r e;refine⟨Z,λc t z h5=>?_⟩;rw [h5] at Q;cases Q;cases d
  exact⟨v,k.keep O hb,y.kept O (nz y λr e=>(hr r e).2),P.kp (k.kpRow P O hb)⟩
 case assign =>
  intro l x W K hK;unfold vt;gi_wp2;exact hK
 case stop =>
  intro d c i W _ _ h;exact h.elim
 case body =>
  rintro l i x W ⟨v,k,y,P⟩ a5;obtain⟨c1,c2,_,_,_,_⟩:=k.cells;obtain⟨g,O⟩:=HP.out x.1 x.2;have F:=re k.pg (n:=n) O;have K:=Ac y;have p:=H (IT k (IT y P));have a4:(dh m a n i).length<=1024*i.length:=ko m a n i;have a6:=qy a n x.1;rw [O];simp only [Ht];have T:=H (IT F K);have a7:=H (Fx L (show j.heap.size<=j.heap.size from Fv _));have V:=H k.fr.size;clear k y P F K q HC
  gi_wp2_with (gi_at_builtin;refine wpListIn_append_own _ rfl _ _ 22 rfl w.heap.size 5 i0 (.int .u8 0) 1 1 underlying22 a0 a1 a2 a3 rfl Z _ _ _ rfl p.2.1 _ _ _ (Ns .u8 (ge m a n x.1)) rfl ?b0 T.1 ?b1 ?b2 ?b3 ?b4 ?_)
  case b0=>simp [Ns,iW]
  case b1 =>
   intro u F;simp only [Ns,FQ] at F;obtain⟨z,_,rfl⟩:=F;rfl
  case b2=>unfold maxLen;omega
  case b3=>omega
  case b4=>exact V.out
  intro v1 w1 R K _;obtain⟨p1,l1,k1,rfl⟩:=nN R;have hb:∀ r,v.ownBlock=some r->w.heap.size<=r/\∀ c t z,W.heap[r]?=some (.cells c t z)->t=5:=by
   intro r e;obtain⟨h1,c0,Q⟩:=T.2 r e;refine⟨h1,λc t z h5=>?_⟩;rw [h5] at Q;cases Q;rfl
  have L1:=p.1.keep K hb;have K1:=p.1.kpRow p.2.2 K hb;have C1:=p.2.2.kp K1;have KO:KeepsOthers W w1:=KeepsOthers.of_grownBy K (λj o e y=>by obtain ⟨_,c0,Q⟩:=T.2 j e;rw [Q] at y;cases y;rfl);have F:=H (IT L1 (IT K1 (IT C1 (IT KO R))));obtain⟨d1,d2,_,_,_,_⟩:=L1.cells;clear L1 K1 C1 KO R K hb c1 c2;gi_wp2;have K:=F.2.2.2.2.kept (au (al w1 DB) 0 (.slice p1 l1 k1)) (tY F.2.2.2.2 F.1.box ar);have R:(dh m a n (i++[x])).length=(dh m a n i).length+ct a n x.1:=by rw [gV,FC,iW]
  have e2:Ns .u8 (dh m a n (i++[x]))=Ns .u8 (dh m a n i)++Ns .u8 (ge m a n x.1):=by rw [gV];simp [Ns]
  rw [<-R,<-e2] at K;exact⟨F.2.2.2.1.trans (KeepsOthers.setCell _ _ _),F.2.1.trans (F.1.kpBox F.2.2.1 _),_,F.1.store _,K,F.2.2.1.kp (F.1.kpBox F.2.2.1 _)⟩
 case done =>
  rintro d ys W hD F ⟨v,k,y,P⟩ hK;obtain⟨c1,c2,c3,c4,c5,c6⟩:=k.cells;have p:=H (IT k (IT y F));obtain⟨K,R,T,rfl⟩:=nN y;clear k y P F q HC;gi_wp2;have F:=((KeepsOthers.setCell W ⟨w.heap.size,0,none⟩ (I 0)).trans (KeepsOthers.setCell _ ⟨w.heap.size,1,none⟩ (.slice K R T))).same d _ hK rfl;have V:((W.setCell ⟨w.heap.size,0,none⟩ (I 0)).setCell ⟨w.heap.size,1,none⟩ (.slice K R T)).heap[w.heap.size]?=some (.cells #[I 0,.slice K R T] 197):=by
   rw [bj (bj p.1.res _)];rfl
  have g2:W.grownBy ((W.setCell ⟨w.heap.size,0,none⟩ (I 0)).setCell ⟨w.heap.size,1,none⟩ (.slice K R T)) (some w.heap.size):=au (au (al W w.heap.size) 0 _) 1 _;have o2:=p.2.1.kept g2 (tY p.2.1 p.1.res ar);have q2:=core G.1 G.2 p.1.im p.1.pg p.1.fr g2 (λr e=>by cases e;exact Fv _);have a5:w.heap.size<=d:=Z;clear c1 c2 c3 c4 c5 c6 hK;generalize (W.setCell ⟨w.heap.size,0,none⟩ (I 0)).setCell ⟨w.heap.size,1,none⟩ (.slice K R T)=W5 at *;have g3:=grownBy_putObj' W5 d (.deferred none);have o3:=o2.kept g3 (nz o2 λr e=>by cases e;exact⟨_,F,rfl⟩);have q3:=core G.1 G.2 q2.1 q2.2.1 q2.2.2 g3 (λr e=>by cases e;exact a5);have a4:=(g3.block w.heap.size (G_ V) (λe=>by cases e;rw [V] at F;cases F)).trans V;rw [p.2.2.bytes] at o3;simp only [Gz,GG] at o3;refine⟨bH,.inl ⟨_,_,rfl,run_takeDeferred F,?_⟩⟩;refine⟨.agg #[I 0,.slice K R T],?_,_,rfl,o3,q3⟩;have r1:(W5.putObj d (.deferred none)).cell? ⟨w.heap.size,0,none⟩=some (I 0):=by simp [World.cell?,a4]
  have r2:(W5.putObj d (.deferred none)).cell? ⟨w.heap.size,1,none⟩=some (.slice K R T):=by simp [World.cell?,a4]
  simp [results,Tryz.f167,go_sem,r1,r2]
def wy (W:World) (c:Array Value) (k:Nat):Option (Bool×List Int)->Prop
 | none=>c[k*3]?=some (.bool false)/\c[k*3+1]?=some (.bool false)/\c[k*3+2]?=some (C)
 | some (l,xs)=>c[k*3]?=some (.bool true)/\c[k*3+1]?=some (.bool (!l))/\xs.length=1024/\∃ g,c[k*3+2]?=some (Vl g 1024 1024)/\W.heap[g]?=some (.cells (Ns .u8 xs).toArray 5)
structure Sx (T Q n:Nat) (bud:Int) (m:Nat->Option (Bool×List Int)) (W:World):Prop where
 box:W.heap[T]?=some (.cells #[Vl Q n n,I bud] 202)
 row:∃ c,W.heap[Q]?=some (.cells c 204)/\c.size=n*3/\(∀ k,k<n->wy W c k (m k))/\∀ j k g,j<n->k<n->c[j*3+2]?=some (Vl g 1024 1024)->c[k*3+2]?=some (Vl g 1024 1024)->j=k
 out:∀ k,n<=k->m k=none
theorem Sx.c (h:Sx T Q n bud m W) :
  W.cell? ⟨T,0,none⟩=some (Vl Q n n)/\W.cell? ⟨T,1,none⟩=some (I bud):=by
 have a:=h.box;exact⟨by simp [World.cell?,a],by simp [World.cell?,a]⟩
theorem Sx.page (h:Sx T Q n bud m W) (k:Nat) (o:k<n) :
  ∃ a b c,W.cell? ⟨Q,k*3,none⟩=some (.bool a)/\W.cell? ⟨Q,k*3+1,none⟩=some (.bool b)/\W.cell? ⟨Q,k*3+2,none⟩=some c/\a=(m k).isSome/\(a&&b)=isOpen (m k) /\
   (∀ l xs,m k=some (l,xs)->xs.length=1024/\∃ g,c=Vl g 1024 1024/\W.heap[g]?=some (.cells (Ns .u8 xs).toArray 5)):=by
 obtain⟨c,a,u,p,_⟩:=h.row;have b:=p k o;cases j:m k with
 | none =>
  rw [j] at b;obtain⟨d,f,i⟩:=b;exact⟨false,false,C,by simp [World.cell?,a,d],by simp [World.cell?,a,f],by simp [World.cell?,a,i],rfl,rfl,λl xs e=>by cases e⟩
 | some q =>
  obtain⟨l,xs⟩:=q;rw [j] at b;obtain⟨d,f,r,g,i,s⟩:=b;exact⟨true,!l,Vl g 1024 1024,by simp [World.cell?,a,d],by simp [World.cell?,a,f],by simp [World.cell?,a,i],rfl,by simp [isOpen],λv t e=>by cases e;exact⟨r,g,rfl,s⟩⟩
theorem uB (T Q n bud m) (a:Nat) (w) (h:Sx T Q n bud m w) (j:n<=4096) (ha:a<18446744073709551616) :
  Calls prog 211 #[J T 0,U a] w λe d=>e=.returned (.bool (isOpen (m (a/1024))))/\d=w:=by
 obtain⟨k,l⟩:=h.c;by_cases f:a/1024<n
 ·obtain⟨g,o,p,q,r,s,i,c,_⟩:=h.page (a/1024) f;have b:=H c;clear i c h;cases g;·go_enter func211,ntmps211;go_wp2;go_ret;exact⟨cQ b.out,rfl⟩
  go_enter func211,ntmps211;go_wp2;go_ret;exact⟨cQ (by rw [<-b.out];rfl),rfl⟩
 have b:=H (h.out (a/1024) Z);have c:¬((a:Int)/1024<(n:Int)):=Z;clear h;go_enter func211,ntmps211;go_wp2;go_ret;exact⟨cQ (by rw [b.out];rfl),rfl⟩
theorem kT (T Q n bud m) (a:Nat) (w) (h:Sx T Q n bud m w) (u:n<=4096) (ha:a<18446744073709551616) (b:isOpen (m (a/1024))=true) :
  Calls prog 150 #[J T 0,U a] w λe j=>e=.returned (.int .u8 (bO m a))/\j=w:=by
 obtain⟨v,x⟩:=h.c;have k:a/1024<n:=by
  rcases Nat.lt_or_ge (a/1024) n with e|e;·exact e
  rw [h.out _ e] at b;cases b
 obtain⟨y,A,B,o,p,F,r,s,f⟩:=h.page (a/1024) k;cases c:m (a/1024) with
 | none=>rw [c] at b;cases b
 | some q =>
  obtain⟨l,xs⟩:=q;obtain⟨t,g,rfl,i⟩:=f l xs c;have G:w.cell? ⟨g,a%1024,none⟩=some (.int .u8 (xs[a%1024]?.getD 0)):=by
   have d:a%1024<xs.length:=Z;simp [World.cell?,i,Ns,d]
  have d:=H (show bO m a=xs[a%1024]?.getD 0 by simp [bO,c]);clear r s f h b c t i o p;generalize xs[a%1024]?.getD 0=z at *;go_enter func150,ntmps150;go_wp2;go_ret;exact⟨cX d.symm,rfl⟩
def dE (m:Nat->Option (Bool×List Int)) (a:Nat):Nat->Bool
 | 0=>true
 | k+1=>dE m a k&&isOpen (m ((a+k)/1024))
theorem je {m:Nat->Option (Bool×List Int)} {a k:Nat} (h:isOpen (m ((a+k)/1024))=false):∀ N,k<N->dE m a N=false
 | 0,hk=>by omega
 | N+1,hk=>by
  simp only [dE]
  by_cases e:k=N
  ·subst e;simp [h]
  rw [je h N Z];rfl
theorem gL {m a} : ∀ {N:Nat},dE m a N=true->∀ k,k<N->isOpen (m ((a+k)/1024))=true
 | 0,_,k,b=>by omega
 | N+1,h,k,b=>by
  simp only [dE,Gi] at h
  by_cases e:k=N
  ·subst e;exact h.2
  exact gL h.1 k Z
theorem jX {m:Nat->Option (Bool×List Int)} {a:Nat} : ∀ {N:Nat},(∀ k,k<N->isOpen (m ((a+k)/1024))=true)->dE m a N=true
 | 0,_=>rfl
 | N+1,h=>by
  simp only [dE]
  rw [jX (λk b=>h k Z),h N Z]
  rfl
theorem ry {m:Nat->Option (Bool×List Int)} {p:Nat} : ∀ {N:Nat},(∀ k,k<N->isOpen (m (p+k))=true)->gx m p N=true
 | 0,_=>rfl
 | N+1,h=>by
  simp only [gx]
  rw [ry (λk a=>h k Z),h N Z]
  rfl
theorem sF (m) (a n:Nat) (g:1<=n):gx m (a/1024) ((a+(n-1))/1024+1-a/1024)=dE m a n:=by
 cases c:dE m a n
 ·cases d:gx m (a/1024) ((a+(n-1))/1024+1-a/1024);·rfl
  exfalso;have:dE m a n=true:=jX (λk f=>by
   have b:=nB d ((a+k)/1024-a/1024) Z;rwa [show a/1024+((a+k)/1024-a/1024)=(a+k)/1024 by omega] at b)
  rw [c] at this;cases this
 refine ry (λk f=>?_);by_cases e:k=0;·have b:=gL c 0 Z;subst e;simpa using b
 have b:=gL c ((a/1024+k)*1024-a) Z;rwa [show (a+((a/1024+k)*1024-a))/1024=a/1024+k by omega] at b
theorem kP (T a) (n:Int) (w:World) (h:n<0\/4096<n) :
  Calls prog 154 #[J T 0,U a,I n] w λe b=>e=.returned (I 6)/\b=w:=by
 rcases h with h|h;·go_enter func154,ntmps154;go_wp2;go_ret;exact⟨rfl,rfl⟩
 have c:¬n<0:=Z;go_enter func154,ntmps154;go_wp2;go_ret;exact⟨rfl,rfl⟩
theorem mJ (T a) (w:World) :
  Calls prog 154 #[J T 0,U a,I 0] w λe b=>e=.returned (I 0)/\b=w:=by
 go_enter func154,ntmps154;go_wp2;go_ret;exact⟨rfl,rfl⟩
theorem nf (T) (a n:Int) (w:World) (ha:0<=a) (b:a<=18446744073709551615) (f:1<=n) (g:n<=4096) (h:4611686018427387904<=a+(n-1)) :
  Calls prog 154 #[J T 0,U a,I n] w λe c=>e=.returned (I 2)/\c=w:=by
 have d:=H (tB a n w ha b (.inr (.inr h)));clear h;go_enter func154,ntmps154;go_wp2_with fail;refine d.mono ?_;rintro _ _ ⟨rfl,rfl⟩;unfold rR;go_wp2_with fail;go_ret;exact⟨rfl,rfl⟩
theorem lI (T Q nn bud m) (a n:Nat) (w) (b:Sx T Q nn bud m w) (k:nn<=4096) (q:1<=n) (r:n<=4096) (h:a+(n-1)<4611686018427387904) :
  Calls prog 154 #[J T 0,U a,I n] w λe l=>e=.returned (I (jk (dE m a n)))/\l=w:=by
 have c:=H (qA a n w Z Z Z Z);have o:=H (λ(j:Nat) (p:j<n)=>uB T Q nn bud m (a+j) w b k Z);clear b;go_enter func154,ntmps154;go_wp2_with fail;refine c.mono ?_;rintro _ s ⟨rfl,rfl⟩;go_wp2_with fail;clear c;go_loop [10] (λi=>∃ j:Nat,j<=n/\i=I j/\dE m a j=true) (λi=>n-(intOf i).toNat);case atStart=>exact ⟨0,FH _,rfl,rfl⟩
 case round =>
  obtain⟨j,p,rfl,b⟩:=hrel;by_cases d:j<n
  ·have f:=H (o.out j d);rw [show ((a+j:Nat):Int)=(a:Int)+(j:Int) by omega] at f;cases c:isOpen (m ((a+j)/1024));·have g:=H (je c n d);rw [c] at f;clear c b;go_wp2_with fail;refine f.mono ?_;rintro _ _ ⟨rfl,rfl⟩;go_wp2_with fail;go_ret;exact⟨cX (by rw [g.out];rfl),rfl⟩
   have g:=H (show dE m a (j+1)=true by simp only [dE];rw [b,c];rfl);rw [c] at f;clear c b;go_wp2_with fail;refine f.mono ?_;rintro _ _ ⟨rfl,rfl⟩;go_wp2_with fail
   go_round
   (case rel=>exact ⟨j+1,Z,aY,g.out⟩);case measure=>simp [intOf];omega
  have c:j=n:=Z;have g:=H (c▸b);clear b c;go_wp2;go_ret;exact⟨cX (by rw [g.out];rfl),rfl⟩
def bz (m:Nat->Option (Bool×List Int)):Nat->Nat
 | 0=>0
 | k+1=>bz m k+(m k).isSome.toNat
theorem lh (m):∀ k,bz m k<=k
 | 0=>Fv _
 | k+1=>by have:=lh m k;have a:=Bool.toNat_le (m k).isSome;simp only [bz];omega
theorem ke {f:Nat->Option Nat} {m:Nat->Option (Bool×List Int)} (h:∀ k,(f k).isSome=(m k).isSome):∀ k,bm f 0 k=bz m k
 | 0=>rfl
 | k+1=>by simp only [bm,bz];rw [ke h k,Gb,h k]
theorem mn {m:Nat->Option (Bool×List Int)} {n:Nat} (h:∀ k,n<=k->m k=none):∀ k,bz m (n+k)=bz m n
 | 0=>rfl
 | k+1=>by rw [<-H_];simp only [bz];rw [mn h k,h (n+k) Z];rfl
theorem Sx.three (h:Sx T Q n bud m W) (k:Nat) (j:k<n) :
  ∃ a p l c,W.cell? ⟨Q,k*3,none⟩=some (.bool (m k).isSome)/\W.cell? ⟨Q,k*3+1,none⟩=some (.bool a)/\W.cell? ⟨Q,k*3+2,none⟩=some (.slice p l c)/\((m k).isSome&&a)=isOpen (m k):=by
 obtain⟨c,a,p,o,_⟩:=h.row;have b:=o k j;cases i:m k with
 | none =>
  rw [i] at b;obtain⟨d,e,f⟩:=b;exact⟨false,none,0,0,by simp [World.cell?,a,d],by simp [World.cell?,a,e],by simp [World.cell?,a,f],rfl⟩
 | some q =>
  obtain⟨l,xs⟩:=q;rw [i] at b;obtain⟨d,e,r,g,f,s⟩:=b;exact⟨!l,some ⟨g,0,none⟩,1024,1024,by simp [World.cell?,a,d],by simp [World.cell?,a,e],by simp [World.cell?,a,f],by simp [isOpen]⟩
theorem gj (T Q n bud m w) (h:Sx T Q n bud m w) (v:n<=4096) :
  Calls prog 57 #[J T 0] w λe r=>e=.returned (I (bz m n))/\D w r:=by
 obtain⟨y,z⟩:=h.c;have s:=H h;clear h;go_enter func57,ntmps57;go_wp2;go_loopw [3,11] (λc i wr=>∃ k:Nat,k<=n/\i=I k/\c=I (bz m k)/\D w wr) (λ_ i _=>n-(intOf i).toNat);case atStart=>exact ⟨0,FH _,rfl,rfl,Fu _ _⟩
 case round =>
  obtain⟨k,A,rfl,rfl,a⟩:=hrel;by_cases j:k<n
  ·obtain⟨t,p,l,c,d,o,q,_⟩:=s.three k j;have d:=ad a d;have o:=ad a o;have q:=ad a q;have u:=lh m k;have f:=H (show bz m (k+1)=bz m k+(m k).isSome.toNat from rfl);have b:=H (a.alloc a.size (.cells #[.bool (m k).isSome,.bool t,.slice p l c] 204));clear a;generalize bz m k=x at *;cases g:(m k).isSome
   ·rw [g] at d f b;clear g;go_wp2;go_roundw;(case rel=>exact ⟨k+1,Z,aY,by rw [f.out];rfl,b.out⟩);case measure=>simp [intOf];omega
   rw [g] at d f b;clear g;go_wp2;go_roundw;(case rel=>exact ⟨k+1,Z,aY,by rw [f.out];rfl,b.out⟩);case measure=>simp [intOf];omega
  have d:k=n:=Z;subst d;have b:=H a;clear a;go_wp2;go_ret;exact⟨rfl,b.out⟩
theorem Sx.set3 (h:Sx T Q n bud m W) (k:Nat) (S:k<n) (v:Option (Bool×List Int)) (x y z:Value) (F:∀ g j,j<n->j≠k->W.cell? ⟨Q,j*3+2,none⟩=some (Vl g 1024 1024)->z≠Vl g 1024 1024)
  (G:∀ (c:Array Value) (W':World),c[k*3]?=some x->c[k*3+1]?=some y->c[k*3+2]?=some z->(∀ g,g≠Q->W'.heap[g]?=W.heap[g]?)->wy W' c k v) :
  Sx T Q n bud (dT m k v) (((W.setCell ⟨Q,k*3,none⟩ x).setCell ⟨Q,k*3+1,none⟩ y).setCell ⟨Q,k*3+2,none⟩ z):=by
 obtain⟨c,p,K,L,s⟩:=h.row;have t:T≠Q:=by
  intro e;subst e;rw [h.box] at p;simp at p
 have w:∀ g,g≠Q->(((W.setCell ⟨Q,k*3,none⟩ x).setCell ⟨Q,k*3+1,none⟩ y).setCell ⟨Q,k*3+2,none⟩ z).heap[g]?=W.heap[g]?:=by
  intro g a;rw [GQ _ _ _ _ a,GQ _ _ _ _ a,GQ _ _ _ _ a]
 have M:(((W.setCell ⟨Q,k*3,none⟩ x).setCell ⟨Q,k*3+1,none⟩ y).setCell ⟨Q,k*3+2,none⟩ z).heap[Q]?=some (.cells (((c.setIfInBounds (k*3) x).setIfInBounds (k*3+1) y).setIfInBounds (k*3+2) z) 204):=bj (bj (bj p x) y) z;generalize ((W.setCell ⟨Q,k*3,none⟩ x).setCell ⟨Q,k*3+1,none⟩ y).setCell ⟨Q,k*3+2,none⟩ z=W' at *;refine⟨(w T t).trans h.box,⟨_,M,by simpa using K,?_,?_⟩,?_⟩
 ·intro j u;by_cases e:j=k
  ·subst e;rw [bV];refine G _ _ ?_ ?_ ?_ w;·simp [show j*3<c.size by omega]
   ·simp [show j*3+1<c.size by omega]
   simp [show j*3+2<c.size by omega]
  rw [aW m k j v e];have a:=L j u;have q:∀ i,i<3->(((c.setIfInBounds (k*3) x).setIfInBounds (k*3+1) y).setIfInBounds (k*3+2) z)[j*3+i]?=c[j*3+i]?:=by
   intro i b;rw [FK,GO Z,FK,GO Z,FK,GO Z]
  have f:=q 0 Z;have A:=q 1 Z;have b:=q 2 Z;rw [GK] at f;cases B:m j with
  | none =>
   rw [B] at a;exact⟨f.trans a.1,A.trans a.2.1,b.trans a.2.2⟩
  | some r =>
   obtain⟨l,xs⟩:=r;rw [B] at a;obtain⟨N,O,P,g,R,o⟩:=a;refine⟨f.trans N,A.trans O,P,g,b.trans R,(w g ?_).trans o⟩;intro d;subst d;rw [p] at o;simp at o
 ·have q:∀ g j,j<n->j≠k->c[j*3+2]?=some (Vl g 1024 1024)->z≠Vl g 1024 1024:=λg j f l a=>F g j f l (by simp [World.cell?,p,a])
  have b:∀ j,j<n->j≠k->(((c.setIfInBounds (k*3) x).setIfInBounds (k*3+1) y).setIfInBounds (k*3+2) z)[j*3+2]?=c[j*3+2]?:=by
   intro j u t;rw [FK,GO Z,FK,GO Z,FK,GO Z]
  have A:(((c.setIfInBounds (k*3) x).setIfInBounds (k*3+1) y).setIfInBounds (k*3+2) z)[k*3+2]?=some z:=by simp [show k*3+2<c.size by omega]
  intro i j g f l a o;by_cases r:i=k
  ·by_cases d:j=k;·omega
   subst r;rw [A] at a;rw [b j l d] at o;exact absurd (GB a) (q g j l d o)
  by_cases d:j=k;·subst d;rw [A] at o;rw [b i f r] at a;exact absurd (GB o) (q g i f r a)
  rw [b i f r] at a;rw [b j l d] at o;exact s i j g f l a o
 intro j u;rw [aW m k j v Z];exact h.out j u
theorem Sx.setByte (h:Sx T Q n bud m W) {k g:Nat} (t:k<n) {l:Bool} {xs:List Int} (A:m k=some (l,xs)) (B:W.cell? ⟨Q,k*3+2,none⟩=some (Vl g 1024 1024)) (i:Nat) (Y:i<1024) (x:Int) :
  Sx T Q n bud (dT m k (some (l,xs.set i x))) (W.setCell ⟨g,i,none⟩ (.int .u8 x)):=by
 obtain⟨c,q,F,u,a⟩:=h.row;have v:=u k t;rw [A] at v;obtain⟨G,K,L,f,s,b⟩:=v;have w:c[k*3+2]?=some (Vl g 1024 1024):=by simpa [World.cell?,q] using B
 have M:f=g:=by rw [s] at w;simpa using w
 subst M;have hT:T≠f:=by intro e;subst e;rw [h.box] at b;simp at b
 have N:Q≠f:=by intro e;subst e;rw [q] at b;simp at b
 refine⟨(GQ _ _ _ _ hT).trans h.box,⟨c,(GQ _ _ _ _ N).trans q,F,?_,a⟩,?_⟩
 ·intro j o;by_cases e:j=k;·subst e;rw [bV];refine⟨G,K,by simpa using L,f,s,?_⟩;rw [bj b];simp [Ns,List.map_set]
  rw [aW m k j _ e];have p:=u j o;cases d:m j with
  | none=>rw [d] at p;exact p
  | some r =>
   obtain⟨l2,O⟩:=r;rw [d] at p;obtain⟨P,R,S,V,y,X⟩:=p;refine⟨P,R,S,V,y,(GQ _ _ _ _ ?_).trans X⟩;intro z;simp at z;subst z;exact e (a j k _ o t y s)
 intro j o;rw [aW m k j _ Z];exact h.out j o
theorem ud (T Q n bud m) (a:Nat) (x:Int) (w) (h:Sx T Q n bud m w) (v:n<=4096) (ha:a<18446744073709551616) {l:Bool} {xs:List Int} (b:m (a/1024)=some (l,xs)) :
  Calls prog 149 #[J T 0,U a,.int .u8 x] w λe i=>e=.returned (.tuple #[])/\Sx T Q n bud (dT m (a/1024) (some (l,xs.set (a%1024) x))) i/\∃ g c,w.heap[g]?=some (.cells c 5)/\w.cell? ⟨Q,a/1024*3+2,none⟩=some (Vl g 1024 1024)/\w.grownBy i (some g):=by
 obtain⟨y,A⟩:=h.c;have j:a/1024<n:=by
  rcases Nat.lt_or_ge (a/1024) n with e|e;·exact e
  rw [h.out _ e] at b;cases b
 obtain⟨B,F,G,p,q,k,r,s,o⟩:=h.page (a/1024) j;obtain⟨t,g,rfl,d⟩:=o l xs b;have c:a%1024<xs.length:=Z;have u:w.cell? ⟨g,a%1024,none⟩=some (.int .u8 (xs[a%1024]?.getD 0)):=by simp [World.cell?,d,Ns,c]
 have K:w.frozen? ⟨g,a%1024,none⟩=false:=by simp [World.frozen?,d]
 have f:=H (IT (h.setByte j b k (a%1024) Z x) (IT d k));clear r s o h b t d p q c;generalize xs[a%1024]?.getD 0=z at u;go_enter func149,ntmps149;go_wp2;go_end0;exact⟨rfl,f.1,g,_,f.2.1,f.2.2,au (al w g) _ _⟩
end
section
open Go.ChangeShapes Go.WideShapes Go.ChangeAt Go.RowKit
theorem em (c) (w:World) :
  Calls prog 65 #[I c] w λe i=>e=.returned (I (pg c))/\D w i:=by
 have b:=hidR (dx c);by_cases h:0<=c/\c<12
 ·have a:(pg c-1)*1024<4*sz c/\4*sz c<=pg c*1024/\1<=pg c/\pg c<=4:=by
   rcases fh h with rfl|rfl|rfl|rfl|rfl|rfl|rfl|rfl|rfl|rfl|rfl|rfl <;> decide
  have j:=eJ h;generalize sz c=s at b j a ⊢;generalize pg c=p at a ⊢;clear h;go_enter func65,ntmps65;go_wp2_with fail;refine (b _).mono ?_;rintro e l ⟨rfl,d⟩;go_wp2;go_loop [4] (λn=>∃ k:Int,1<=k/\k<=p/\n=I k) (λn=>(p-intOf n).toNat);case atStart=>exact ⟨1,Z,Z,rfl⟩
  case round =>
   obtain⟨k,o,q,rfl⟩:=hrel;by_cases f:k<p
   ·have m:k*1024<4*s:=Z;have g:p<=4:=a.2.2.2;clear a;go_wp2
    go_round
    (case rel=>exact ⟨k+1,Z,Z,rfl⟩);case measure=>simp [intOf];omega
   obtain rfl:k=p:=Z;have m:¬k*1024<4*s:=Z;have g:k<=4:=a.2.2.2;clear f a;go_wp2;go_ret;exact⟨rfl,d⟩
 rw [xX h];rw [gP h] at b;clear h;go_enter func65,ntmps65;go_wp2_with fail;refine (b _).mono ?_;rintro e l ⟨rfl,d⟩;go_wp2;go_ret;exact⟨rfl,d⟩
theorem gM (c) (w:World) :
  Calls prog 66 #[I c] w λe f=>e=.returned (I (sl c))/\D w f:=by
 have a:=hidR (dx c);have d:=hidR (em c);by_cases h:0<=c/\c<12;·have g:=eJ h;have i:=fy h;rw [(kh h).2.2.1];generalize sz c=s at a g ⊢;generalize pg c=p at d i ⊢;clear h;go_enter func66,ntmps66;go_wp2_with fail;refine (a _).mono ?_;rintro e j ⟨rfl,b⟩;go_wp2_with fail;refine (d _).mono ?_;rintro e m ⟨rfl,k⟩;go_wp2_with fail;refine (a _).mono ?_;rintro e n ⟨rfl,l⟩;go_wp2;go_ret;exact⟨rfl,cv b (cv k l)⟩
 rw [xW h];rw [gP h] at a;clear h;go_enter func66,ntmps66;go_wp2_with fail;refine (a _).mono ?_;rintro e j ⟨rfl,b⟩;go_wp2;go_ret;exact⟨rfl,b⟩
theorem GN {k:IntKind} {b:Int} (h:a=b):Ending.returned (.int k a)=.returned (.int k b):=by rw [h]
def rp (c:Int):Int:=if 0<=c/\c<12 then 6*(pg c+1) else 0
theorem ub {c:Int} (h:0<=c/\c<12):rp c=6*(pg c+1):=by simp only [rp,GP h]
theorem sS {c:Int} (h:¬(0<=c/\c<12)):rp c=0:=by simp only [rp,GO h]
theorem tM (c):0<=rp c/\rp c<=30:=by
 by_cases h:0<=c/\c<12;·have:=fy h;rw [ub h];omega
 rw [sS h];omega
def fp:Nat->Int
 | 0=>1
 | k+1=>fp k+rp k
def rs (c:Int):Int:=if 0<=c/\c<12 then fp c.toNat else -1
theorem iU:∀ k:Nat,1<=fp k/\fp k<=1+30*k
 | 0=>by simp [fp]
 | k+1=>by have:=iU k;have:=tM k;simp only [fp];omega
theorem gp (c w) (a:Tb w) :
  Calls prog 162 #[I c] w λe b=>e=.returned (I (pg c+1))/\b=w:=by
 have d:=hidR (eY c w a);have f:=AO c;generalize pg c=s at d f ⊢;clear a;go_enter func162,ntmps162;go_wp2_with fail;refine (d).mono ?_;rintro e b ⟨rfl,rfl⟩;go_wp2;go_ret;exact⟨rfl,rfl⟩
theorem lO (c w) (b:Tb w) :
  Calls prog 155 #[I c] w λe a=>e=.returned (I (rp c))/\a=w:=by
 have f:=hidR (gp c w b);by_cases h:0<=c/\c<12;·have g:=fy h;have d:=hidR (GA _ w h);rw [ub h];generalize pg c=s at f g ⊢;clear b h;go_enter func155,ntmps155;go_wp2_with fail;refine (d).mono ?_;rintro e a ⟨rfl,rfl⟩;go_wp2_with fail;refine (f).mono ?_;rintro e a ⟨rfl,rfl⟩;go_wp2;go_ret;exact⟨rfl,rfl⟩
 rw [sS h];have d:=hidR (dY _ w h);clear b h;go_enter func155,ntmps155;go_wp2_with fail;refine (d).mono ?_;rintro e a ⟨rfl,rfl⟩;go_wp2;go_ret;exact⟨rfl,rfl⟩
theorem ib (c) (w:World) :
  Calls prog 107 #[I c] w λe f=>e=.returned (I (rp c))/\D w f:=by
 have a:=hidR (dx c);have d:=hidR (em c);by_cases h:0<=c/\c<12;·have g:=eJ h;have i:=fy h;rw [ub h];generalize sz c=s at a g ⊢;generalize pg c=p at d i ⊢;clear h;go_enter func107,ntmps107;go_wp2_with fail;refine (a _).mono ?_;rintro e j ⟨rfl,b⟩;go_wp2_with fail;refine (d _).mono ?_;rintro e l ⟨rfl,k⟩;go_wp2;go_ret;exact⟨rfl,cv b k⟩
 rw [sS h];rw [gP h] at a;clear h;go_enter func107,ntmps107;go_wp2_with fail;refine (a _).mono ?_;rintro e j ⟨rfl,b⟩;go_wp2;go_ret;exact⟨rfl,b⟩
theorem kB {c:Int} (h:0<=c/\c<12):rs c=fp c.toNat:=by simp only [rs,GP h]
theorem se {c:Int} (h:¬(0<=c/\c<12)):rs c = -1:=by simp only [rs,GO h]
theorem iv (c) (w:World) :
  Calls prog 106 #[I c] w λe o=>e=.returned (I (rs c))/\D w o:=by
 have d:=hidR (dx c);have p:=hidR ib;by_cases h:0<=c/\c<12
 ·have q:=eJ h;rw [kB h];generalize sz c=s at d q ⊢;obtain⟨m,rfl⟩:=Ha h.1;have B:m<12:=Z;simp only [F0];clear h;go_enter func106,ntmps106;go_wp2_with fail;refine (d _).mono ?_;rintro e r ⟨rfl,f⟩;have t:=hidR f;clear f;go_wp2;have u:(s==0)=false:=bG;simp only [u];go_loopw [3,4] (λn i wr=>∃ k:Nat,k<=m/\i=I k/\n=I (fp k)/\D w wr) (λ_ i _=>m-(intOf i).toNat);case atStart=>exact ⟨0,Z,rfl,rfl,t⟩
  case round =>
   obtain⟨k,F,rfl,rfl,g⟩:=hrel;have v:=iU k;by_cases x:k<m
   ·have j:=hidR (show fp (k+1)=fp k+rp (k:Int) from rfl);have y:=tM (k:Int);have z:=hidR g;clear g;go_wp2_with fail;refine (p _ _).mono ?_;rintro e G ⟨rfl,l⟩;generalize fp k=a at v j;generalize rp (k:Int)=b at y j;have A:=hidR (cv z l);clear l;go_wp2;go_roundw;(case rel=>exact ⟨k+1,Z,aY,by rw [j.out],A⟩);case measure=>simp [intOf];omega
   obtain rfl:k=m:=Z;go_wp2;go_ret;exact⟨rfl,g⟩
 rw [se h];rw [gP h] at d;clear h;go_enter func106,ntmps106;go_wp2_with fail;refine (d _).mono ?_;rintro e r ⟨rfl,f⟩;go_wp2;go_ret;exact⟨rfl,f⟩
theorem pN:fp 12=187:=ar
theorem gl (w:World) :
  Calls prog 62 #[] w λe c=>e=.returned (I 187)/\D w c:=by
 have d:rs 11=157:=ar;have f:rp 11=30:=ar;have a:Hid (∀ w,_):=λw=>iv 11 w
 have b:Hid (∀ w,_):=λw=>ib 11 w
 rw [d] at a;rw [f] at b;go_enter func62,ntmps62;go_wp2_with fail;refine (a _).mono ?_;rintro e j ⟨rfl,g⟩;go_wp2_with fail;refine (b _).mono ?_;rintro e k ⟨rfl,i⟩;go_wp2;go_ret;exact⟨rfl,cv g i⟩
theorem gn (w:World) :
  Calls prog 27 #[] w λe a=>e=.returned (I 283)/\D w a:=by
 have b:=hidR gl;go_enter func27,ntmps27;go_wp2_with fail;refine (b _).mono ?_;rintro e d ⟨rfl,c⟩;go_wp2;go_ret;exact⟨rfl,c⟩
theorem we (c) : -1<=rs c/\rs c<=361:=by
 by_cases h:0<=c/\c<12;·have:=iU c.toNat;rw [kB h];omega
 rw [se h];omega
theorem jO (c s:Int) (k : -1000<=s) (l:s<=1000) (w:World) :
  Calls prog 64 #[I c,I s] w λe d=>e=.returned (I (rs c+s*(pg c+1)))/\D w d:=by
 have a:=hidR (iv c);have b:=hidR (em c);have f:=we c;have g:=AO c;generalize rs c=r at a f ⊢;generalize pg c=p at b g ⊢;have m : -5000<=s*(p+1)/\s*(p+1)<=5000:=by
  have:p=0\/p=1\/p=2\/p=3\/p=4:=Z;rcases this with rfl|rfl|rfl|rfl|rfl <;> omega
 go_enter func64,ntmps64;go_wp2_with fail;refine (a _).mono ?_;rintro e n ⟨rfl,i⟩;go_wp2_with fail;refine (b _).mono ?_;rintro e o ⟨rfl,j⟩;go_wp2;go_ret;exact⟨rfl,cv i j⟩
theorem gD (c) (w:World) :
  Calls prog 30 #[I c] w λe d=>e=.returned (I (us c))/\D w d:=by
 have a:=hidR (dx c);by_cases h:0<=c/\c<12;·have f:=eJ h;rw [uj h];generalize sz c=s at a f ⊢;clear h;go_enter func30,ntmps30;go_wp2_with fail;refine (a _).mono ?_;rintro e g ⟨rfl,b⟩;go_wp2_with fail;refine (a _).mono ?_;rintro e j ⟨rfl,i⟩;go_wp2;go_ret;exact⟨rfl,cv b i⟩
 rw [sW h];rw [gP h] at a;clear h;go_enter func30,ntmps30;go_wp2_with fail;refine (a _).mono ?_;rintro e g ⟨rfl,b⟩;go_wp2;go_ret;exact⟨rfl,b⟩
theorem vG (c w) (b:Tb w) :
  Calls prog 160 #[I c] w λe a=>e=.returned (I (us c))/\a=w:=by
 have f:=hidR (dJ c w b);by_cases h:0<=c/\c<12;·have g:=eJ h;rw [uj h];have d:=hidR (GA _ w h);generalize sz c=s at f g ⊢;clear b h;go_enter func160,ntmps160;go_wp2_with fail;refine (d).mono ?_;rintro e a ⟨rfl,rfl⟩;go_wp2_with fail;refine (f).mono ?_;rintro e a ⟨rfl,rfl⟩;go_wp2;go_ret;exact⟨rfl,rfl⟩
 rw [sW h];have d:=hidR (dY _ w h);clear b h;go_enter func160,ntmps160;go_wp2_with fail;refine (d).mono ?_;rintro e a ⟨rfl,rfl⟩;go_wp2;go_ret;exact⟨rfl,rfl⟩
theorem GM {k:IntKind} {b:Int} (h:a=b):Ending.returned (.int k a)=.returned (.int k b):=by rw [h]
def iu (r:Int):Nat->Nat->Int
 | k,0 => -1
 | k,n+1=>if r<=us k then (k:Int) else iu r (k+1) n
def co (r:Int):Int:=iu r 0 12
theorem ui (c):0<=us c/\us c<=1016:=by
 by_cases h:0<=c/\c<12;·have:=eJ h;rw [uj h];omega
 rw [sW h];omega
theorem iX (r:Int) (h:1016<r):∀ n k,iu r k n = -1
 | 0,k=>rfl
 | n+1,k=>by
  have:=ui k
  simp only [iu,GO (show ¬r<=us (k:Int) by omega)]
  exact iX r h n (k+1)
theorem sJ (r:Int) (o:0<=r) (p:r<=18446744073709551615) (w:World) :
  Calls prog 142 #[U r] w λe j=>e=.returned (I (co r))/\D w j:=by
 have l:=hidR gD;go_enter func142,ntmps142;go_wp2;go_loopw [3] (λc wr=>∃ k:Nat,k<=12/\c=I k/\co r=iu r k (12-k)/\D w wr) (λc _=>12-(intOf c).toNat);case atStart=>exact ⟨0,Z,rfl,rfl,Fu _ _⟩
 case round =>
  obtain⟨k,q,rfl,a,d⟩:=hrel;by_cases m:k<12
  ·have b:12-k=(11-k)+1:=Z;rw [b,iu] at a;have n:=ui (k:Int);have f:=hidR d;clear d b;go_wp2_with fail;refine (l _ _).mono ?_;rintro e s ⟨rfl,g⟩;generalize us (k:Int)=u at a n ⊢;by_cases i:r<=u;·rw [GP i] at a;have b:=hidR a;clear a;go_wp2;go_ret;exact⟨GM b.symm,cv f g⟩
   rw [GO i] at a;have b:=hidR a;clear a;go_wp2;go_roundw;(case rel=>exact ⟨k+1,Z,aY,by rw [b.out];congr 1;omega,cv f g⟩);case measure=>simp [intOf];omega
  obtain rfl:k=12:=Z;have b:=hidR a;clear a;go_wp2;go_ret;exact⟨GM b.symm,d⟩
theorem CB {k:Nat} (h:k<12):us (k:Int)=vN.getD k 0-8:=by
 rw [uj ⟨Z,Z⟩,s_ h]
theorem lV (r:Int) (h:1016<r) (w:World) :
  Calls prog 113 #[U r] w λe a=>e=.returned (I (co r))/\a=w:=by
 rw [show co r = -1 from iX r h 12 0];go_enter func113,ntmps113;go_wp2;go_ret;exact⟨rfl,rfl⟩
theorem rx (w:World) (A:Array Value) (k:Nat) (v:Value) (a:k<12) (h:A[k]?=some v):(Instr.index 240 (.agg A) (I k)).run prog w=.ok v w:=by
 simp [Instr.index,run_underlying underlying240,asIntOf,a,go_sem,h]
theorem kb (r:Int) (p:0<=r) (h:r<=1016) (w) (g:Tb w) :
  Calls prog 113 #[U r] w λe n=>e=.returned (I (co r))/\n=w:=by
 obtain⟨t,o,j⟩:=g.row;go_enter func113,ntmps113;go_wp2_with (refine Gt rfl 240 _ rfl 0 rfl t _ o _ j underlying240 rfl E ?_);go_loop [8] (λi=>∃ k:Nat,k<=12/\i=I k/\co r=iu r k (12-k)) (λi=>12-(intOf i).toNat);case atStart=>exact ⟨0,Z,rfl,rfl⟩
 case round =>
  obtain⟨k,q,rfl,a⟩:=hrel;by_cases b:k<12
  ·have l:12-k=(11-k)+1:=Z;rw [l,iu,CB b] at a;have d:(List.map (λz=>Value.int IntKind.i64 z) vN).toArray[k]?=some (I (vN.getD k 0)):=by
    have f:k<vN.length:=b;simp [Fy f]
   have m:=eJ (c:=(k:Int)) ⟨Z,Z⟩;rw [s_ b] at m;clear j g l;generalize vN.getD k 0=u at a m d;generalize (List.map (λz=>Value.int IntKind.i64 z) vN).toArray=A at d ⊢;have l:=rx w A k _ b d;clear d;by_cases s:r+8<=u;·rw [GP Z] at a;have d:=hidR a;clear a;go_wp2;go_ret;exact⟨GM d.symm,rfl⟩
   rw [GO Z] at a;have d:=hidR a;clear a;go_wp2
   go_round
   (case rel=>exact ⟨k+1,Z,aY,by rw [d.out];congr 1;omega⟩);case measure=>simp [intOf];omega
  obtain rfl:k=12:=Z;have d:=hidR a;clear a;go_wp2;go_ret;exact⟨GM d.symm,rfl⟩
theorem lB (r:Int) (a:0<=r) (w) (b:Tb w) :
  Calls prog 113 #[U r] w λe c=>e=.returned (I (co r))/\c=w:=by
 by_cases h:1016<r;·exact lV r h w
 exact kb r a Z w b
end
end Go.Proofs.YtibblbenmpcplaaGreatDoor
