import Derived.Test.YtibblbenmpcplaaGreatDoorN39
import Derived.Test.YtibblbenmpcplaaGreatDoorN40
set_option linter.unusedVariables false
set_option linter.unusedSimpArgs false
set_option maxRecDepth 20000
set_option maxHeartbeats 8000000
namespace Go.Proofs.YtibblbenmpcplaaGreatDoor
open Go.Proofs.Tryz
variable {B k:Nat} {V W w:World} {l:List Aw} {v:Value} {y:Ly} {d:Dy} {cf:Cf} {A:Option Addr} {ops:List df} {q:df}
section
open Go.RowKit Go.Maps
structure Ra9 (B:Nat) (W:World) (l:List Aw) (v:Value):Prop where
 row:W.ownsRow B 44 4 v l.length (fZ l)
 dat:∀ z∈l,W.ownsRow B 5 1 z.2 z.1.data.length (Ns .u8 z.1.data)
 dis:l.Pairwise λy z=>∀ g,y.2.ownBlock=some g->z.2.ownBlock≠some g
theorem Ra9.ky {S W'} (r:Ra9 B W l v) (k:Ky S W W') (a:¬S 44) (b:¬S 5):Ra9 B W' l v :=
 ⟨ai r.row k a,λz c=>ai (r.dat z c) k b,r.dis⟩
theorem Ra9.below {B W W' l v} (r:Ra9 B W l v) (b:D W W'):Ra9 B W' l v:=r.ky (Ky.below b:Ky (λ_=>False) W W') (λe=>e) (λe=>e)
theorem Ra9.nil (B W):Ra9 B W [] (C):=⟨⟨rfl,.inl ⟨rfl,rfl⟩⟩,(λz a=>by cases a),List.Pairwise.nil⟩
theorem Ra9.ans (r:Ra9 B W l v) (a:l.length<=300):wK B W l v:=⟨r.row,a⟩
theorem Hp.ky81 {h V'} (a:Hp B y d cf h V) (k:Ky (· = 44) V V') (b:Below B V V') (c:V'.heap[y.M]?=V.heap[y.M]?) (f:V'.heap[y.R]?=V.heap[y.R]?):Hp B y d cf h V' :=
 a.keep ⟨k.more (λt e=>by rw [e];decide),c,f⟩ b
theorem wA {h} (R:Hp B y d cf h V) (t:Gd d h v) (S:Ra9 B V l v) (r:An4) (n:Value) (e:Nat) (m:∀ z∈l,∀ g,z.2.ownBlock=some g->g<e) (W:B<=e) (w:V.ownsRow e 5 1 n r.data.length (Ns .u8 r.data)) (hl:l.length<=300) :
  ∃ f a,(Builtin.append_ #[30,30] 30 #[v,Vl V.heap.size 1 1]).run prog (V.alloc (.cells (aC (r,n)).toArray 44))=.ok f a/\a.cell? ⟨y.P,119,none⟩=some v/\a.frozen? ⟨y.P,119,none⟩=false/\(∃ b,Hp B y b cf h (a.setCell ⟨y.P,119,none⟩ f)/\Gd b h f)/\Ra9 B (a.setCell ⟨y.P,119,none⟩ f) (l++[(r,n)]) f/\Below B V (a.setCell ⟨y.P,119,none⟩ f):=by
 have o:D V (V.alloc (.cells (aC (r,n)).toArray 44)):=(Fu _ _).alloc (Fv _) _;have i:=R.below o;have j:=S.below o;have x:=ax w o;obtain⟨A,F,G,rfl⟩:=aA w;obtain⟨f,a,X,Y,K⟩:=pA _ B v l (r,.slice A F G) V.heap.size 1 j.row (ao V _) rfl Z i.bW;have L:Ky (· = 44) _ a:=Ky.grownO (λP M=>by obtain ⟨_,c,b⟩:=aF j.row M;exact⟨c,44,_,b,rfl⟩) K;have T:Below B _ a:=(Fu B _).grown K i.bW (λP M=>(aF j.row M).1);have nb:∀ (g:Nat) p c,(V.alloc (.cells (aC (r,.slice A F G)).toArray 44)).heap[g]?=some (Obj.map p c)->a.heap[g]?=(V.alloc (.cells (aC (r,.slice A F G)).toArray 44)).heap[g]?:=λ(g:Nat) p c q=>K.block g (ag q) (λe=>by
  obtain⟨_,k,b⟩:=aF j.row e.symm;rw [q] at b;cases b)
 have k:Hp B y d cf h a:=by
  refine i.ky81 L T ?_ ?_;·obtain⟨b,⟨p,N,s,_⟩,_⟩:=i.sp.map;exact nb _ _ _ s
  obtain⟨p,N,s⟩:=i.mp.typ;exact nb _ _ _ s
 have cU:a.cell? ⟨y.P,119,none⟩=some v:=k.cell 119 Z _ t.an;have fU:=k.box.free 119;have N:=k.setDy 119 f { d with an:=f } (.inl ⟨rfl,rfl⟩);have O:=k.box.kyS 119 f;have b2:Below B a (a.setCell ⟨y.P,119,none⟩ f):=(Fu B a).setCell k.ap.bP _;refine⟨f,a,X,cU,fU,⟨_,N,t.on,t.un,rfl⟩,⟨ai Y O ar,λz b=>?_,?_⟩,((o.mono R.bW).trans T).trans b2⟩
 ·rcases F8.1 b with b|b;·exact ai (ai (j.dat z b) L ar) O ar
  have:=List.mem_singleton.1 b;subst this;exact aN (ai (ai x L ar) O ar) W
 rw [Is];refine⟨S.dis,List.pairwise_singleton _ _,λz b u hu g q Q=>?_⟩;have:=List.mem_singleton.1 hu;subst this;have h1:=(aF w Q).1;have s:=m z b g q;omega
theorem Ois.da (h:Ois w A ops) {hh} (a:Hp B y d cf hh W) (b:D w W) (m:w.heap.size<=B) (c:q∈ops):Da y.S y.M d.f W q.d q.o.ys.length q.o.ys:=by
 refine⟨rfl,λi f=>?_⟩;obtain⟨x,g,j,l⟩:=h.dat q c i f;have n:=a.ap.bS;have o:=a.ap.bM;exact⟨x,g,cR b j,FG l b.size,Z,Z,λk e=>by have:=a.bf k _ e;omega⟩
structure EA (ops:List df):Prop where
 cap:∀ q∈ops,q.o.ys.length<=q.dc
 ref:∀ q∈ops,-9223372036854775808<=q.o.ref
 byt:∀ q∈ops,okB q.o.ys
structure Rst (B:Nat) (y:Ly) (cf:Cf) (w:World) (ops:List df) (k:Nat) (l:List Aw) (v:Value) (W:World):Prop where
 hg:∃ d,Hp B y d cf (bd cf ((ops.take k).map df.o) (aP cf) []).1 W/\Gd d (bd cf ((ops.take k).map df.o) (aP cf) []).1 v
 ok:vJ cf (bd cf ((ops.take k).map df.o) (aP cf) []).1 k
 ls:l.map (·.1)=(bd cf ((ops.take k).map df.o) (aP cf) []).2
 ra:Ra9 B W l v
 bel:D w W
theorem Rst.len (r:Rst B y cf w ops k l v W) (a:k<=ops.length):l.length=k:=by
 have:=congrArg List.length r.ls;rw [Gz,ft] at this;simpa [Hz a] using this
theorem Rst.first (ops) (a:Hp B y BP cf (aP cf) W) (c:Gd BP (aP cf) (C)) (d:mE cf) (f:1<=cf.large) (b:D w W):Rst B y cf w ops 0 [] (C) W:=by
 have e:bd cf ((ops.take 0).map df.o) (aP cf) []=(aP cf,[]):=rfl;refine⟨⟨BP,?_,?_⟩,?_,?_,Ra9.nil _ _,b⟩;·rw [e];exact a
 ·rw [e];exact c
 ·rw [e];exact⟨Inv.new cf,Byt.new cf,Few.new cf,Z,d,f⟩
 rw [e];rfl
theorem ei (a:ops[k]?=some q) (cf):bd cf ((ops.take (k+1)).map df.o) (aP cf) []=((bU cf (bd cf ((ops.take k).map df.o) (aP cf) []).1 (bd cf ((ops.take k).map df.o) (aP cf) []).2 q.o).2,(bd cf ((ops.take k).map df.o) (aP cf) []).2++[(bU cf (bd cf ((ops.take k).map df.o) (aP cf) []).1 (bd cf ((ops.take k).map df.o) (aP cf) []).2 q.o).1]):=by
 rw [F_,a];simp only [IQ,Hr,It,List.map_nil];exact gF cf q.o _ _ _
theorem Rst.call (r:Rst B y cf w ops k l v W) (b:D W V) (O:Ois w A ops) (F:EA ops) (G:w.heap.size<=B) (hN:ops.length<=300) (o:ops[k]?=some q) :
  Calls prog 14 #[J y.P 0,eZ q.o q.d q.dc] V λe s=>∃ p,e=.returned (jP (bU cf (bd cf ((ops.take k).map df.o) (aP cf) []).1 (bd cf ((ops.take k).map df.o) (aP cf) []).2 q.o).1 p)/\s.cell? ⟨y.P,119,none⟩=some v /\
   ∃ t a,(Builtin.append_ #[30,30] 30 #[v,Vl s.heap.size 1 1]).run prog (s.alloc (.cells (aC ((bU cf (bd cf ((ops.take k).map df.o) (aP cf) []).1 (bd cf ((ops.take k).map df.o) (aP cf) []).2 q.o).1,p)).toArray 44))=.ok t a/\a.cell? ⟨y.P,119,none⟩=some v/\a.frozen? ⟨y.P,119,none⟩=false/\Rst B y cf w ops (k+1) (l++[((bU cf (bd cf ((ops.take k).map df.o) (aP cf) []).1 (bd cf ((ops.take k).map df.o) (aP cf) []).2 q.o).1,p)]) t (a.setCell ⟨y.P,119,none⟩ t):=by
 have a0:=(Fz.1 o).1;have f:=FM o;obtain⟨d,hp,P⟩:=r.hg;have Q:=r.len Z;have z:=O.wf q f;obtain⟨R,S,T,x⟩:=aA r.ra.row;have j:=hp.below b;have m:=r.ra.below b;have i:D w V:=r.bel.trans (b.mono r.bel.size);rw [x] at P;have hA:wK B V l (.slice R S T):=by rw [<-x];exact m.ans Z
 have c:=yv B B y d cf _ k l R S T q.o q.d q.dc V j P r.ok Z hA z.1 z.2.1 z.2.2 (F.ref q f) (F.cap q f) (O.da j i G f);refine c.mono ?_;rintro e s ⟨p,rfl,X,⟨d2,n,g⟩,Y⟩;rw [r.ls] at X n g ⊢;refine⟨p,rfl,?_,?_⟩;·rw [x];exact n.cell 119 Z _ g.an
 rw [<-x] at g;have u:Ra9 B s l v:=m.ky Y.ky (by unfold hI;decide) (by unfold hI;decide);obtain⟨t,a,e1,e2,e3,⟨d9,K,L⟩,M,b9⟩:=wA n g u _ p V.heap.size (λz b g c=>by
  obtain⟨_,c9,N⟩:=aF (m.dat z b) c;exact ag N) j.bW X Z
 refine⟨t,a,e1,e2,e3,⟨d9,?_,?_⟩,?_,?_,M,i.trans ((Y.bel.mono G).trans (b9.mono G))⟩;·rw [ei o];exact K
 ·rw [ei o];exact L
 ·rw [ei o];obtain⟨N,f1⟩:=r.ok.inv.step r.ok.dok.fifo1 r.ok.few (bd cf ((ops.take k).map df.o) (aP cf) []).2 q.o;exact⟨N,r.ok.byt.step _ q.o (F.byt q f),f1,Z,r.ok.dok,r.ok.l1⟩
 rw [ei o,Hr,r.ls];rfl
def Ft (B:Nat) (y:Ly) (cf:Cf) (w:World) (ops:List df) (k:Nat) (l:List Aw) (v:Value) (d:An4) (V:World) (e:Ending) (g:World):Prop:=∃ (a:Option Addr) (n c:Nat),e=.returned (.agg #[I d.code,U d.addr,I d.size,.slice a n c])/\g.cell? ⟨y.P,119,none⟩=some v/\(∀ (X:Nat) e t f,t=42\/t=38->V.heap[X]?=some (.cells e t f)->g.heap[X]?=some (.cells e t f)) /\
 ∃ (i:Option Addr) (j m:Nat) (b:World),(Builtin.append_ #[30,30] 30 #[v,Vl g.heap.size 1 1]).run prog (g.alloc (.cells #[I d.code,U d.addr,I d.size,.slice a n c] 44))=.ok (.slice i j m) b/\(g.alloc (.cells #[I d.code,U d.addr,I d.size,.slice a n c] 44)).cell? ⟨y.P,119,none⟩=some v/\b.cell? ⟨y.P,119,none⟩=some v/\b.frozen? ⟨y.P,119,none⟩=false/\(∀ (X:Nat) e t f,t=42\/t=38->g.heap[X]?=some (.cells e t f)->(g.alloc (.cells #[I d.code,U d.addr,I d.size,.slice a n c] 44)).heap[X]?=some (.cells e t f)/\b.heap[X]?=some (.cells e t f)/\(b.setCell ⟨y.P,119,none⟩ (.slice i j m)).heap[X]?=some (.cells e t f))/\∃ a,Rst B y cf w ops (k+1) a (.slice i j m) (b.setCell ⟨y.P,119,none⟩ (.slice i j m))
theorem Rst.call9 (r:Rst B y cf w ops k l v W) (ho:Ois w A ops) (Q:EA ops) (R:w.heap.size<=B) (hN:ops.length<=300) (u:ops[k]?=some q) :
  ∃ a,∀ V,D W V->Calls prog 14 #[J y.P 0,.agg #[I q.o.kd,I q.o.ref,U q.o.p,U q.o.a,U q.o.b,.slice q.d q.o.ys.length q.dc]] V (Ft B y cf w ops k l v a V):=by
 have a4:=(Fz.1 u).1;have i:=FM u;obtain⟨d,hp,gd⟩:=r.hg;have a3:=r.len Z;have P:=ho.wf q i;obtain⟨va,vn,vc,L⟩:=aA r.ra.row;refine⟨(bU cf (bd cf ((ops.take k).map df.o) (aP cf) []).1 (bd cf ((ops.take k).map df.o) (aP cf) []).2 q.o).1,λV b=>?_⟩;have p:=hp.below b;have s:=r.ra.below b;have m:D w V:=r.bel.trans (b.mono r.bel.size);rw [L] at gd;have hA:wK B V l (.slice va vn vc):=by rw [<-L];exact s.ans Z
 refine (yv B B y d cf _ k l va vn vc q.o q.d q.dc V p gd r.ok Z hA P.1 P.2.1 P.2.2 (Q.ref q i) (Q.cap q i) (ho.da p m R i)).mono ?_;rintro e x ⟨vd,rfl,S,⟨d2,j,g⟩,T⟩;obtain⟨M,N,F,rfl⟩:=aA S;rw [r.ls] at S j g ⊢;have n:x.cell? ⟨y.P,119,none⟩=some v:=by rw [L];exact j.cell 119 Z _ g.an
 refine⟨M,N,F,rfl,n,λX cc t f O Y=>T.ky.cells _ _ _ _ Y (by rcases O with rfl|rfl <;> (unfold hI;decide)),?_⟩;rw [<-L] at g;have o:Ra9 B x l v:=s.ky T.ky (by unfold hI;decide) (by unfold hI;decide);obtain⟨v',a,e1,e2,e3,⟨d9,a0,a1⟩,G,b9⟩:=wA j g o _ (.slice M N F) V.heap.size (λz b g g=>by
  obtain⟨_,F,c⟩:=aF (s.dat z b) g;exact ag c) p.bW S Z
 obtain⟨a8,n8,c8,rfl⟩:=aA G.row;have z:D x (x.alloc (.cells (aC ((bU cf (bd cf ((ops.take k).map df.o) (aP cf) []).1 (bd cf ((ops.take k).map df.o) (aP cf) []).2 q.o).1,.slice M N F)).toArray 44)):=(Fu _ _).alloc (Fv _) _;have K:=o.below z;obtain⟨v7,U7,f1,f2,f3⟩:=pA _ B v l ((bU cf (bd cf ((ops.take k).map df.o) (aP cf) []).1 (bd cf ((ops.take k).map df.o) (aP cf) []).2 q.o).1,.slice M N F) x.heap.size 1 K.row (ao x _) rfl Z (Fx j.bW z.size);have eU:U7=a:=by rw [e1] at f1;cases f1;rfl
 subst eU;have kU:Ky (· = 44) _ U7:=Ky.grownO (λP a=>by obtain ⟨_,c,hc⟩:=aF K.row a;exact⟨c,44,_,hc,rfl⟩) f3;refine⟨a8,n8,c8,U7,e1,ad z n,e2,e3,λX cc t f O Y=>?_,_,⟨d9,?_,?_⟩,?_,?_,G,m.trans ((T.bel.mono R).trans (b9.mono R))⟩
 ·have h1:=ae Y z;have c:=kU.cells _ _ _ _ h1 (by rcases O with rfl|rfl <;> decide);refine⟨h1,c,?_⟩;rw [GQ _ _ _ _ (λe=>?_)];·exact c
  have a2:=(j.below z).box.ky kU ar;obtain⟨c7,g1,_⟩:=a2;rw [e] at c;rw [g1] at c;cases c;rcases O with e9|e9 <;> cases e9
 ·rw [ei u];exact a0
 ·rw [ei u];exact a1
 ·rw [ei u];obtain⟨c,f1⟩:=r.ok.inv.step r.ok.dok.fifo1 r.ok.few (bd cf ((ops.take k).map df.o) (aP cf) []).2 q.o;exact⟨c,r.ok.byt.step _ q.o (Q.byt q i),f1,Z,r.ok.dok,r.ok.l1⟩
 rw [ei u,Hr,r.ls];rfl
structure Cq (X:Nat) (q:df) (V:World):Prop where
 c0:V.cell? ⟨X,0,none⟩=some (I q.o.kd)
 c1:V.cell? ⟨X,1,none⟩=some (I q.o.ref)
 c2:V.cell? ⟨X,2,none⟩=some (U q.o.p)
 c3:V.cell? ⟨X,3,none⟩=some (U q.o.a)
 c4:V.cell? ⟨X,4,none⟩=some (U q.o.b)
 c5:V.cell? ⟨X,5,none⟩=some (.slice q.d q.o.ys.length q.dc)
theorem Cq.of {X:Nat} (h:V.heap[X]?=some (.cells #[I q.o.kd,I q.o.ref,U q.o.p,U q.o.a,U q.o.b,.slice q.d q.o.ys.length q.dc] 42)):Cq X q V:=by
 refine⟨?_,?_,?_,?_,?_,?_⟩ <;> (rw [GT _ _ _ _ _ _ h];rfl)
def AH (N:Nat->Ly->Cf->Hs->World->Array Value->World->Prop):Prop:=∀ (B:Nat) (y:Ly) (d:Dy) (cf:Cf) (h:Hs) (k:Nat) (v:Value) (V:World),Hp B y d cf h V->Gd d h v->vJ cf h k ->
 Calls prog 15 #[J y.P 0] V λe L=>∃ u F t z K A i j:Value,e=.returned (.agg #[u,F,t,z,K,A,i,j])/\(∀ v∈[u,F,t,z,K,A,i,j],v.oneCell'=true)/\N B y cf h V #[u,F,t,z,K,A,i,j] L/\D V L
theorem nt (mi fi la bu ky) (b:Option Addr) (dn) (c:Nat) (A:Option Addr) (n i:Nat) (W) (l:Tb W) (d:¬(jg mi fi la bu dn/\n<=300)) :
  Calls prog 5 #[.agg #[I mi,I fi,I la,I bu,U ky,.slice b dn c],.slice A n i] W λe q=>e=.returned (.agg #[.bool false,C,I 0,C,C,C,C,C,C,I 0])/\D W q:=by
 have f:D W (W.alloc (.cells #[I mi,I fi,I la,I bu,U ky,.slice b dn c] 26)):=(Fu _ _).alloc (Fv _) _;have g:D W ((W.alloc (.cells #[I mi,I fi,I la,I bu,U ky,.slice b dn c] 26)).alloc (.cells #[.bool false,C,I 0,C,C,C,C,C,C,I 0] 38)):=f.alloc f.size _;have m:=H (show ((W.alloc (.cells #[I mi,I fi,I la,I bu,U ky,.slice b dn c] 26)).alloc (.cells #[.bool false,C,I 0,C,C,C,C,C,C,I 0] 38)).heap[W.heap.size+1]?=some (.cells #[.bool false,C,I 0,C,C,C,C,C,C,I 0] 38) by rw [<-aO W (.cells #[I mi,I fi,I la,I bu,U ky,.slice b dn c] 26)];exact ao _ _);have o:=ae (ao W (.cells #[I mi,I fi,I la,I bu,U ky,.slice b dn c] 26)) ((Fu _ _).alloc (Fv _) (.cells #[.bool false,C,I 0,C,C,C,C,C,C,I 0] 38));have p:=H (t7 mi fi la bu ky b dn c _ (l.ofBelow g));have k:=H g;have a:=H (show ∀ j u,#[Value.int .i64 mi,I fi,I la,I bu,U ky,.slice b dn c][j]?=some u->((W.alloc (.cells #[I mi,I fi,I la,I bu,U ky,.slice b dn c] 26)).alloc (.cells #[.bool false,C,I 0,C,C,C,C,C,C,I 0] 38)).cell? ⟨W.heap.size,j,none⟩=some u from λj u b=>by rw [GT _ _ _ _ _ _ o];exact b);have u0:=a.out 0 _ rfl;have u1:=a.out 1 _ rfl;have u2:=a.out 2 _ rfl;have u3:=a.out 3 _ rfl;have u4:=a.out 4 _ rfl;have u5:=a.out 5 _ rfl;clear a o f g l;go_enter func5,ntmps5;go_wp2_with fail;generalize (W.alloc _).alloc _=l at *;generalize o:W.heap.size+1=X at *;refine (p).mono ?_;rintro e V ⟨rfl,a⟩;have f:=H (ae m a);have g:=H (k.trans (a.mono k.size));clear m k p a u0 u1 u2 u3 u4 u5;by_cases a:jg mi fi la bu dn
 ·have j:decide (jg mi fi la bu dn)=true:=G8 a;have m:(300:Int)<(n:Int):=by
   have:¬n<=300:=λe=>d ⟨a,e⟩
   omega
  clear d a;rw [j];go_wp2_with (refine eG f ?_);refine fM (aw f _) underlying38 ?_;exact⟨rfl,g.grown (aj _ _ _) g.size (λr k=>by simp at k;omega)⟩
 have j:decide (jg mi fi la bu dn)=false:=GR a;clear d a;rw [j];go_wp2_with (refine eG f ?_);refine fM (aw f _) underlying38 ?_;exact⟨rfl,g.grown (aj _ _ _) g.size (λr k=>by simp at k;omega)⟩
def Fs (N:Nat->Ly->Cf->Hs->World->Array Value->World->Prop) (cf:Cf) (ops:List df) (w:World) (e:Ending) (W':World):Prop:=∃ (B:Nat) (y:Ly) (l:List Aw) (A:Value) (v K u z L F j t:Value) (V i:World) (X:Nat),e=.returned (.agg #[.bool true,A,v,K,u,z,L,F,j,t])/\w.heap.size<=B/\Rst B y cf w ops ops.length l A V/\N B y cf (bd cf (ops.map df.o) (aP cf) []).1 V #[v,K,u,z,L,F,j,t] i/\D V i/\i.heap[X]?=some (.cells #[.bool false,C,I 0,C,C,C,C,C,C,I 0] 38)/\W'=i.setRow X #[.bool true,A,v,K,u,z,L,F,j,t]/\w.heap.size<=X/\X<B
theorem sZ (T9) (t:AH T9) (cf da dc A) (a7:Nat) (ops w) (c:mE cf) (x:1<=cf.large) (m:Tb w) (z:Sl w da cf.ds) (g:∀ a,da=some a->a.block<w.heap.size) (h0:0<w.heap.size) (F:Ois w A ops) (G:EA ops) (hN:ops.length<=300) :
  Calls prog 5 #[gZ cf da dc,.slice A ops.length a7] w (Fs T9 cf ops w):=by
 unfold gZ;have i:jg (cf.mix:Nat) (cf.fifo:Nat) (cf.large:Nat) (cf.bud:Nat) cf.ds.length:=by
  have h1:=c.mix;have h2:=c.fifo1;have b:=c.fifo;have e:=c.large;have f:=c.bud;have j:=c.len;unfold jg;omega
 have W:Below w.heap.size w (w.alloc (.cells #[I cf.mix,I cf.fifo,I cf.large,I cf.bud,U cf.key,.slice da cf.ds.length dc] 26)):=(Fu _ _).alloc (Fv _) _;have n:Below w.heap.size w ((w.alloc (.cells #[I cf.mix,I cf.fifo,I cf.large,I cf.bud,U cf.key,.slice da cf.ds.length dc] 26)).alloc (.cells #[.bool false,C,I 0,C,C,C,C,C,C,I 0] 38)):=W.alloc W.size _;have o:=H (show ((w.alloc (.cells #[I cf.mix,I cf.fifo,I cf.large,I cf.bud,U cf.key,.slice da cf.ds.length dc] 26)).alloc (.cells #[.bool false,C,I 0,C,C,C,C,C,C,I 0] 38)).heap[w.heap.size+1]?=some (.cells #[.bool false,C,I 0,C,C,C,C,C,C,I 0] 38) by rw [<-aO w (.cells #[I cf.mix,I cf.fifo,I cf.large,I cf.bud,U cf.key,.slice da cf.ds.length dc] 26)];exact ao _ _);have f:=H (ae (ao w (.cells #[I cf.mix,I cf.fifo,I cf.large,I cf.bud,U cf.key,.slice da cf.ds.length dc] 26)) ((Fu _ _).alloc (Fv _) (.cells #[.bool false,C,I 0,C,C,C,C,C,C,I 0] 38)));have p:=H (t7 (cf.mix:Nat) (cf.fifo:Nat) (cf.large:Nat) (cf.bud:Nat) cf.key da cf.ds.length dc _ (m.ofBelow n));rw [G8 i] at p;have r:=H n;have s:=H (λV (hV:Below w.heap.size w V)=>rV cf da dc V c (m.ofBelow hV) (z.below hV) (λa ha=>FG (g a ha) hV.size) (FG h0 hV.size));unfold gZ at s;have b:=H (show ∀ V:World,V.heap[w.heap.size]?=some (.cells #[I cf.mix,I cf.fifo,I cf.large,I cf.bud,U cf.key,.slice da cf.ds.length dc] 26)->∀ j u,(#[I cf.mix,I cf.fifo,I cf.large,I cf.bud,U cf.key,.slice da cf.ds.length dc]:Array Value)[j]?=some u->V.cell? ⟨w.heap.size,j,none⟩=some u from λV hV j u a=>by rw [GT _ _ _ _ _ _ hV];exact a);have u0:=b.out _ f 0 _ rfl;have u1:=b.out _ f 1 _ rfl;have u2:=b.out _ f 2 _ rfl;have u3:=b.out _ f 3 _ rfl;have u4:=b.out _ f 4 _ rfl;have u5:=b.out _ f 5 _ rfl;have HO:=H F;have HI:=H G;have HT:=H t;have a5:=H (IT c x);obtain⟨N,e⟩:∃ N,ops.length=N:=⟨_,rfl⟩;rw [e];rw [e] at hN;have HN:=H e;clear W n m i z g F G t c x e;go_enter func5,ntmps5;go_wp2_with fail;generalize (w.alloc _).alloc _=z at *;obtain⟨X,x⟩:∃ X,w.heap.size+1=X:=⟨_,rfl⟩;rw [x] at o ⊢;refine (p).mono ?_;rintro e V ⟨rfl,c⟩;have m:=H (ae o c);have g:=H (ae f c);have j:=H (r.trans (c.mono r.size));have a9:¬((300:Int)<(N:Int)):=Z;clear o f r p c u0 u1 u2 u3 u4 u5;have u0:=b.out _ g 0 _ rfl;have u1:=b.out _ g 1 _ rfl;have u2:=b.out _ g 2 _ rfl;have u3:=b.out _ g 3 _ rfl;have u4:=b.out _ g 4 _ rfl;have u5:=b.out _ g 5 _ rfl;go_wp2_with fail;refine (s _ j).mono ?_;rintro e V2 ⟨y,rfl,n,t,M,c⟩;have f:=ag m.out;have X7:=H (ae m c);obtain⟨B,i⟩:∃ B,V.heap.size=B:=⟨_,rfl⟩;rw [i] at t c f;have HB:=H (show w.heap.size<=B by rw [<-i];exact j.size);have R0:=H (Rst.first ops t M a5.1 a5.2 (j.trans (c.mono HB)));have a6:=H (show w.heap.size<=X/\X<B from ⟨Z,f⟩);obtain⟨P,o⟩:∃ P,y.P=P:=⟨_,rfl⟩;rw [o];have HP:=H o;clear t M c i f x o m g j s u0 u1 u2 u3 u4 u5 b z n;go_wp2;go_loopw [21] (λi wr=>∃ (k:Nat) (l:List Aw) (v:Value),k<=N/\i=I k/\Hid (Rst B y cf w ops k l v wr)/\Hid (wr.heap[X]?=some (.cells #[.bool false,C,I 0,C,C,C,C,C,C,I 0] 38))) (λi _=>N-(intOf i).toNat);case atStart=>exact ⟨0,[],_,Z,rfl,R0,X7⟩
 case round =>
  clear R0 X7;obtain⟨k,l,v,hk,rfl,x,HX⟩:=hrel;by_cases a8:k<N
  ·obtain⟨q,n⟩:∃ q,ops[k]?=some q:=⟨_,Fy (by rw [HN.out];exact a8)⟩;obtain⟨G,rfl,o,b⟩:=HO.at_ k q n;have c:=x.bel;have u0:wr.cell? ⟨G,k*6,none⟩=some (I q.o.kd):=cR c (b 0 _ rfl);have u1:=cR c (b 1 _ rfl);have u2:=cR c (b 2 _ rfl);have u3:=cR c (b 3 _ rfl);have u4:=cR c (b 4 _ rfl);have u5:=cR c (b 5 _ rfl);obtain⟨r9,g⟩:=x.call9 HO HI HB (by rw [HN.out];exact hN) n;have g:=H g;obtain⟨z,F,K,rfl⟩:=aA x.ra.row;have W:Below wr.heap.size wr (wr.alloc (.cells #[I q.o.kd,I q.o.ref,U q.o.p,U q.o.a,U q.o.b,.slice q.d q.o.ys.length q.dc] 42)):=(Fu _ _).alloc (Fv _) _;have j:=H (ao wr (.cells #[I q.o.kd,I q.o.ref,U q.o.p,U q.o.a,U q.o.b,.slice q.d q.o.ys.length q.dc] 42));have f:=H (show Below wr.heap.size wr ((wr.alloc (.cells #[I q.o.kd,I q.o.ref,U q.o.p,U q.o.a,U q.o.b,.slice q.d q.o.ys.length q.dc] 42)).drew) from W.trans ((Fu _ _).drew.mono W.size));have m:((wr.alloc (.cells #[I q.o.kd,I q.o.ref,U q.o.p,U q.o.a,U q.o.b,.slice q.d q.o.ys.length q.dc] 42)).drew).cell? ⟨P,119,none⟩=some (.slice z F K):=by
    obtain⟨d,t,M⟩:=x.hg;rw [<-HP.out];exact (t.below f).cell 119 Z _ M.an
   have O:=H (ae HX f);clear b c n o;(go_upto_region 7 with fail);generalize wr.alloc _=V at j f m O ⊢;obtain⟨Y,b⟩:∃ Y,wr.heap.size=Y:=⟨_,rfl⟩;rw [b] at j ⊢;clear u0 u1 u2 u3 u4 u5 HX;have a0:=H (g _ f);clear b g x W f;refine rh (S:=Cq Y q) ?_;have HY:=H (show V.drew.heap[Y]?=some (.cells #[I q.o.kd,I q.o.ref,U q.o.p,U q.o.a,U q.o.b,.slice q.d q.o.ys.length q.dc] 42) from j);generalize L:V.drew=V1 at a0 HY m O;have n:({ heap:=V.heap,tape:=V.tape,drawn:=V.drawn+1,os:=V.os,output:=V.output } : World)=V1:=L;rw [n];clear L n j;have s:=HP.out;have f:=Cq.of HY.out;(iterate 4 (refine py f ?_;simp only [f0,f1,Nat.reduceAdd,lz,l0,ls]));refine pk 5 (J P 0) f ?_;refine pz 6 (.agg #[I q.o.kd,I q.o.ref,U q.o.p,U q.o.a,U q.o.b,.slice q.d q.o.ys.length q.dc]) f ?_;refine lZ [4,7] λi9 c=>?_;rcases (by simpa using c:i9=4\/i9=7) with c|c
   ·subst c;refine cw λK' b=>?_;go_simp;refine b _ _ ⟨f,?_⟩;clear b K';refine po 7 λK' b=>?_
    go_simp;rw [<-s];refine (a0).mono ?_;rintro e T ⟨a1,n1,c1,rfl,cU,Q,a2,n2,c2,U2,r,cA,a3,a4,j,l2,hR⟩;rw [s] at cU cA a3 a4 hR j;have g:=Cq.of (Q _ _ _ _ (.inl rfl) HY);have p:=H (j _ _ _ _ (.inl rfl) (Q _ _ _ _ (.inl rfl) HY));have o:=H ((j _ _ _ _ (.inr rfl) (Q _ _ _ _ (.inr rfl) O)).2.2);have R:=H hR;refine b _ _ ⟨g,?_⟩;clear f Q j hR;have f:=g;clear g;clear b K';refine po 8 λK' b=>?_;go_simp;refine b _ _ ⟨Cq.of p.1,?_⟩;clear f;have f:=Cq.of p.1;clear b K';refine po 9 λK' b=>?_
    refine aV 30 (.tmp 29) (.tmp 33) (v:=.slice z F K) (v2:=Vl T.heap.size 1 1) E E E E r ?_;refine b _ _ ⟨Cq.of p.2.1,?_⟩;clear f;have f:=Cq.of p.2.1;clear b K';refine pk 10 (J P 0) f ?_;refine pk 11 (J P 119) f ?_;refine po 12 λK' b=>?_;go_simp;refine b _ _ ⟨Cq.of p.2.2,?_⟩;clear f;clear b K';refine bY ?_;go_wp2;go_roundw
    (case rel=>exact ⟨k+1,l2,_,Z,aY,R,o⟩);case measure=>simp [intOf];omega
   subst c;refine cw λK' b=>?_;go_simp;rw [<-s];refine (a0).mono ?_;rintro e T ⟨a1,n1,c1,rfl,cU,Q,a2,n2,c2,U2,r,cA,a3,a4,j,l2,hR⟩;rw [s] at cU cA a3 a4 hR j;have g:=Cq.of (Q _ _ _ _ (.inl rfl) HY);have p:=H (j _ _ _ _ (.inl rfl) (Q _ _ _ _ (.inl rfl) HY));have o:=H ((j _ _ _ _ (.inr rfl) (Q _ _ _ _ (.inr rfl) O)).2.2);have R:=H hR;refine b _ _ ⟨g,?_⟩;clear f Q j hR;have f:=g;clear g;clear b K';refine lZ [4,8] λi9 c=>?_
   rcases (by simpa using c:i9=4\/i9=8) with c|c
   ·subst c;refine cw λK' b=>?_;go_simp;refine b _ _ ⟨f,?_⟩;clear b K';refine po 8 λK' b=>?_
    go_simp;refine b _ _ ⟨Cq.of p.1,?_⟩;clear f;have f:=Cq.of p.1;clear b K';refine po 9 λK' b=>?_;refine aV 30 (.tmp 29) (.tmp 33) (v:=.slice z F K) (v2:=Vl T.heap.size 1 1) E E E E r ?_;refine b _ _ ⟨Cq.of p.2.1,?_⟩;clear f;have f:=Cq.of p.2.1;clear b K';refine pk 10 (J P 0) f ?_;refine pk 11 (J P 119) f ?_;refine po 12 λK' b=>?_
    go_simp;refine b _ _ ⟨Cq.of p.2.2,?_⟩;clear f;clear b K';refine bY ?_;go_wp2;go_roundw;(case rel=>exact ⟨k+1,l2,_,Z,aY,R,o⟩);case measure=>simp [intOf];omega
   subst c;refine cw λK' b=>?_;go_simp;refine b _ _ ⟨Cq.of p.1,?_⟩;clear f;have f:=Cq.of p.1;clear b K';refine po 4 λK' b=>?_
   go_simp;refine b _ _ ⟨f,?_⟩;clear b K';refine po 9 λK' b=>?_;refine aV 30 (.tmp 29) (.tmp 33) (v:=.slice z F K) (v2:=Vl T.heap.size 1 1) E E E E r ?_;refine b _ _ ⟨Cq.of p.2.1,?_⟩;clear f;have f:=Cq.of p.2.1;clear b K';refine pk 10 (J P 0) f ?_;refine pk 11 (J P 119) f ?_;refine po 12 λK' b=>?_
   go_simp;refine b _ _ ⟨Cq.of p.2.2,?_⟩;clear f;clear b K';refine bY ?_;go_wp2;go_roundw;(case rel=>exact ⟨k+1,l2,_,Z,aY,R,o⟩);case measure=>simp [intOf];omega
  obtain rfl:k=N:=Z;obtain⟨z,F,K,rfl⟩:=aA x.ra.row;have p:ops.take k=ops:=Ge (by rw [HN.out];exact Fv _);obtain⟨d,t,M⟩:=x.hg;have O:=x.ok;have j:Below wr.heap.size wr wr.drew:=(Fu _ _).drew;have TD:=H (HT B y d cf _ k _ _ (t.below j) M O);rw [p] at TD;have m:wr.drew.cell? ⟨P,119,none⟩=some (.slice z F K):=by
   rw [<-HP.out];exact (t.below j).cell 119 Z _ M.an
  have r:=H (ae HX j);have G:=H (show P<wr.drew.heap.size by rw [<-HP.out];exact (t.below j).box.lt);have a0:P≠X:=λe=>by
   obtain⟨c,h1,_⟩:=t.box;have h2:=HX.out;rw [<-e,<-HP.out,h1] at h2;cases h2
  have RD:=H (show Rst B y cf w ops k l (.slice z F K) wr.drew from ⟨⟨d,t.below j,M⟩,O,x.ls,x.ra.below j,x.bel.drew⟩);clear t M O j HX x p;go_upto_region 9 with fail
  refine rh (S:=λa=>a.cell? ⟨P,119,none⟩=some (.slice z F K)) ?_;generalize L:wr.drew=V1 at TD m r RD G;have n:({ heap:=wr.heap,tape:=wr.tape,drawn:=wr.drawn+1,os:=wr.os,output:=wr.output } : World)=V1:=L;rw [n];clear L n;have s:=HP.out;have f:=m;iterate 5 (refine py f ?_;simp only [f0,f1,Nat.reduceAdd,lz,l0,ls])
  refine po 5 λK' b=>?_;go_simp;rw [<-s];refine (TD).mono ?_;rintro e T ⟨x,O,Q,R,Y,m5,m6,m7,rfl,c,ht,j⟩;have g:=ad j f;refine b _ _ ⟨g,?_⟩;clear f;have f:=g;have p:=H c;have HF:=H (IT ht j);have o:=H (ae r j);have a3:=H (FG G j.size);clear g c ht j;clear b K';refine py f ?_;simp only [f0,f1,Nat.reduceAdd,lz,l0,ls];refine po 7 λK' b=>?_
  refine Ih 38 (.tmp 4) (.tmp 44) E X #[.bool true,.slice z F K,x,O,Q,R,Y,m5,m6,m7] E E 38 _ o E rfl ?hone9 ?_;case hone9=>exact all_oneCell_toArray (λv c=>by rcases F4.1 c with rfl|c;rfl;rcases F4.1 c with rfl|c;rfl;exact p v c)
  have c:(T.setRow X #[.bool true,.slice z F K,x,O,Q,R,Y,m5,m6,m7]).cell? ⟨P,119,none⟩=some (.slice z F K):=by unfold World.cell? at f ⊢;rw [(aj T X #[.bool true,.slice z F K,x,O,Q,R,Y,m5,m6,m7]).block P a3.out (by simpa using a0)];exact f
  refine b _ _ ⟨c,?_⟩;clear f c b K';refine bY ?_;go_wp2_with fail;refine fM (aw o _) underlying38 ?_;exact⟨B,y,l,_,x,O,Q,R,Y,m5,m6,m7,V1,T,X,rfl,HB,by rw [HN.out];exact RD,HF.1,HF.2,o,rfl,a6.1,a6.2⟩
end
section
open Go.RowKit Go.Shelf Go.Maps
def Db : Prop := ∀ (cf : Cf) (da : Option Addr) (dc : Nat) (A : Option Addr) (cap : Nat) (ops : List df) (w : World), mE cf->1<=cf.large->Tb w->Sl w da cf.ds->(∀ a, da=some a->a.block<w.heap.size)->0<w.heap.size->Ois w A ops->(∀ q ∈ ops, q.o.ys.length<=q.dc /\ -9223372036854775808<=q.o.ref/\∀ y ∈ q.o.ys, 0<=y/\y<=255)->ops.length<=300 ->
 Calls prog 5 #[gZ cf da dc, .slice A ops.length cap] w λe W' => ∃ (l : List Aw) (i B L u F N K j t : Value), e=.returned (.agg #[.bool true, i, B, L, u, F, N, K, j, t])/\(∀ v ∈ [i, B, L, u, F, N, K, j, t], v.oneCell'=true)/\l.map (·.1)=(bd cf (ops.map df.o) (aP cf) []).2/\W'.ownsRow w.heap.size 44 4 i l.length (fZ l)/\(∀ z ∈ l, W'.ownsRow w.heap.size 5 1 z.2 z.1.data.length (Ns .u8 z.1.data))/\D w W'
theorem Ok4.sl {c} (f:Ok4 B c W):Sl W c.da c.ds/\∀ a,c.da=some a->a.block<W.heap.size:=by
 rcases f.d.2 with ⟨d,k⟩|⟨g,l,e,d,k,j,m⟩
 ·injection d with b n o;refine⟨.inl ⟨b,List.length_eq_zero_iff.1 Z⟩,λa ha=>by rw [b] at ha;cases ha⟩
 ·injection d with b n o;obtain⟨q,r,s,p⟩:=m;have t:=f.d.1;refine⟨.inr ⟨g,b,e,j,Z,λi u=>?_⟩,λa ha=>by rw [b] at ha;cases ha;exact ag j⟩;rw [<-p,Gx,GP Z,Gg]
theorem yZ {C} {n:Nat} (r:W.ownsRow B 42 6 (.slice A ops.length n) ops.length (iT ops)) (c:∀ q∈ops,Od6 C q W) :
  Ois W A ops/\∀ q∈ops,q.o.ys.length<=q.dc /\ -9223372036854775808<=q.o.ref/\∀ y∈q.o.ys,0<=y/\y<=255:=by
 refine⟨⟨λk q a=>?_,λq a=>⟨(c q a).p,(c q a).a,(c q a).b⟩,λq a i s=>?_⟩,λq a=>⟨?_,(c q a).r,(c q a).y⟩⟩
 ·have G:=(Fz.1 a).1;rcases r.2 with ⟨_,l⟩|⟨g,t,m,d,l,f,v,w,x,p⟩;·omega
  ·injection d with e b o;refine⟨g,e,ag f,λj u z=>?_⟩;have F:j<6:=by
    have:=(Fz.1 z).1;simpa [fH] using this
   rw [GT _ _ _ _ _ _ f];have e:=flat_get fH 6 (λ_=>rfl) ops k j q a F;have b:(iT ops)[k*6+j]?=some u:=(by rw [<-z];exact e);rw [<-p,Gx,GP Z,Gg] at b;exact b
 ·rcases (c q a).d.2 with ⟨_,l⟩|⟨g,t,m,d,l,f,v,w,x,p⟩;·omega
  ·injection d with e b o;have j:(⟨g,0,none⟩:Addr).add i=⟨g,i,none⟩:=(by cases i <;> simp [Addr.add]);refine⟨⟨g,0,none⟩,e,?_,by rw [j];exact ag f⟩;have b:(Ns .u8 q.o.ys)[i]?=some (.int .u8 (q.o.ys[i]?.getD 0)):=by
    rw [Fy s];simp [Ns,s]
   rw [<-p,Gx,GP Z,Gg] at b;have o:W.cell? ⟨g,i,none⟩=some (.int .u8 (q.o.ys[i]?.getD 0)):=(by rw [GT _ _ _ _ _ _ f];exact b);rw [j];exact o
 ·rcases (c q a).d.2 with ⟨d,l⟩|⟨g,t,m,d,l,f,v,w,x,p⟩;·injection d with e b o;omega
  ·injection d with e b o;omega
theorem Bn {c} (a:Ok4 B c W) (h:jg c.mi c.fi c.la c.bu c.ds.length) :
  ∃ cf:Cf,Value.agg (pQ c).toArray=gZ cf c.da c.dc/\mE cf/\1<=cf.large/\cf.ds=c.ds:=by
 unfold jg at h;refine⟨⟨c.mi.toNat,c.fi.toNat,c.la.toNat,c.bu.toNat,c.ky,c.ds⟩,?_,⟨by show c.ds.length<=_;omega,λd b=>?_,a.k0,by have:=a.k1;show c.ky<_;omega,by show c.mi.toNat<=_;omega,by show 1<=c.fi.toNat;omega,by show c.fi.toNat<=_;omega,by show c.la.toNat<=_;omega,by show c.bu.toNat<=_;omega⟩,by show 1<=c.la.toNat;omega,rfl⟩
 ·unfold pQ gZ;simp only [IK h.1,IK (show 0<=c.fi by omega),IK (show 0<=c.la by omega),IK (show 0<=c.bu by omega)]
 ·have:=a.dw d b;have e:IntKind.i64.min = -9223372036854775808:=rfl;have f:IntKind.i64.max=9223372036854775807:=rfl;simp only [Lit.wf,e,f,Gi,Hj];omega
def Di : Prop := ∀ (cf : Cf) (da : Option Addr) (dc : Nat) (A : Option Addr) (cap : Nat) (ops : List df) (w : World), mE cf->1<=cf.large->Sl w da cf.ds->Ois w A ops->ops.length<=300 ->
 Calls prog 6 #[gZ cf da dc, .slice A ops.length cap] w λe W' => ∃ (l : List Aw) (i B L u F N K j t : Value), e=.returned (.agg #[.bool true, i, B, L, u, F, N, K, j, t])/\(∀ v ∈ [i, B, L, u, F, N, K, j, t], v.oneCell'=true)/\l.map (·.1)=(bd cf (ops.map df.o) (aP cf) []).2/\W'.ownsRow w.heap.size 44 4 i l.length (fZ l)/\(∀ z ∈ l, W'.ownsRow w.heap.size 5 1 z.2 z.1.data.length (Ns .u8 z.1.data))/\D w W'
end
end Go.Proofs.YtibblbenmpcplaaGreatDoor
