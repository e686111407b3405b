import Derived.Test.YtdngbppdomoenaaGreatDoorN26
set_option linter.unusedVariables false
set_option linter.unusedSimpArgs false
set_option maxRecDepth 20000
set_option maxHeartbeats 8000000
namespace Go.Proofs.YtdngbppdomoenaaGreatDoor
open Go.Proofs.Tryz
variable {r:Rg9} {B Q cap i n:Nat} {cf:Cf} {h:Hs} {W W':World} {u v:Value} {m:Nat->Option (Bool×List Int)} {l:List Int}
section
open Go.RowKit
theorem fJ (l:List Rg9) {q t:Nat} (a:l[q]?=some r) (b:t<6):(fg l)[q*6+t]?=(rC r)[t]?:=eX rC 6 (λ_=>rfl) l q r a t b
theorem oB (l:List Rg9) (m:l[i]?=some r) (c d:Int):fg (l.set i { r with st:=c,rq:=d })=((fg l).set (i*6+4) (I c)).set (i*6+5) (I d):=by
 have f:=(Fl.1 m).1;apply G9;intro k;by_cases o:k<l.length*6
 ·obtain⟨q,t,n,b,rfl⟩:∃ q t,q<l.length/\t<6/\k=q*6+t:=⟨k/6,k%6,Z,Z,Z⟩;simp only [Gc,FX,d_];by_cases e:q=i
  ·subst e;rw [fJ _ (List.getElem?_set_self f) b,fJ l m b];have:t=0\/t=1\/t=2\/t=3\/t=4\/t=5:=Z;rcases this with rfl|rfl|rfl|rfl|rfl|rfl;·rw [Gu Z,Gu Z];rfl
   ·rw [Gu Z,Gu Z];rfl
   ·rw [Gu Z,Gu Z];rfl
   ·rw [Gu Z,Gu Z];rfl
   ·rw [Gu Z,Gv rfl,Gv Z];rfl
   rw [Gv rfl,Gv Z];rfl
  obtain⟨g,a⟩:∃ g,l[q]?=some g:=⟨_,Fj n⟩;have j:(l.set i { r with st:=c,rq:=d })[q]?=some g:=by rw [List.getElem?_set_ne Z];exact a
  rw [fJ _ j b,fJ l a b,Gu Z,Gu Z]
 rw [Ft (by rw [d_];simp;omega),Ft (by simp [d_];omega)]
theorem Inv.mapSet (a:Inv cf h) (g:h.rg[i]?=some r) (f:Rg9->Rg9):(h.rg.map λx=>if x.base=r.base then f x else x)=h.rg.set i (f r):=by
 have j:=(Fl.1 g).1;apply G9;intro k;rw [Gi];by_cases e:k=i;·subst e;rw [g,List.getElem?_set_self j];simp
 rw [List.getElem?_set_ne Z];cases o:h.rg[k]? with
 | none=>rfl
 | some q =>
  have l:q.base≠r.base:=λt=>by
   have m:=Fz o;have:=a.one m (Fz g) t;subst this;obtain⟨p,b⟩:=Fl.1 o;obtain⟨s,c⟩:=Fl.1 g;rcases Hn k i with d|d|d;·have:=Ir.1 a.apart k i p s d;rw [b,c] at this;have n:=a.rgs q m;unfold Rg9.ext at this n;omega
   ·exact e d
   have:=Ir.1 a.apart i k s p d;rw [b,c] at this;have n:=a.rgs q m;unfold Rg9.ext at this n;omega
  simp [l]
theorem Sh.setRange {x V} (a:Sh B x cf h V) {G} (l:x.rv=Vl G h.rg.length cap) (m:h.rg[i]?=some r) (b d:Int) :
  Sh B x cf { h with rg:=h.rg.set i { r with st:=b,rq:=d } } ((V.setCell ⟨G,i*6+4,none⟩ (I b)).setCell ⟨G,i*6+5,none⟩ (I d))/\Ky (· = 148) V ((V.setCell ⟨G,i*6+4,none⟩ (I b)).setCell ⟨G,i*6+5,none⟩ (I d))/\V.grownBy ((V.setCell ⟨G,i*6+4,none⟩ (I b)).setCell ⟨G,i*6+5,none⟩ (I d)) (some G):=by
 have f:=a.rg;rw [l] at f;have o:=(Fl.1 m).1;obtain⟨q,j⟩:=dv f;have e:V.grownBy ((V.setCell ⟨G,i*6+4,none⟩ (I b)).setCell ⟨G,i*6+5,none⟩ (I d)) (some G):=au (au (ar V G) _ _) _ _;have k:Ky (· = 148) V _:=Ky.grown j rfl e;have p:=dT (dT f (i*6+4) (by rw [d_];omega) (I b)) (i*6+5) (by rw [FX,d_];omega) (I d);refine⟨⟨k.cells _ _ _ _ a.box av,a.bp,a.bq,λg e=>a.bg g (de (a.sp.qEq k av) e),a.ds.ky k av,a.sp.ky k av av av,aj a.sl k av,aj a.wt k av,λc n=>⟨(a.wm c n).1.ky k av,(a.wm c n).2.ky k av⟩,?_,aj a.ro k av,aj a.rl k av⟩,k,e⟩;show World.ownsRow _ B 148 6 x.rv _ _;rw [l,oB h.rg m,FX];exact p
theorem D2 {x W0} (a:Sh B x cf h W) {G} (b:x.rv=Vl G n cap) (k:Bk B x.Q W0 W) (d:B<=W0.heap.size) (g:W.grownBy W' (some G)):Bk B x.Q W0 W':=by
 obtain⟨l,e⟩:=a.qrow;have f:x.rv.ownBlock=some G:=by rw [b];rfl
 obtain⟨i,c,j⟩:=aH a.rg f;exact k.trans (Bk.ofGrown j e (.inr (.inr (.inr (.inl rfl)))) av av i (Fg d k.bel.size) g)
theorem gF (cf) (o:iG):∀ (l:List iG) (h:Hs) (a:List An4),bh cf (l++[o]) h a=((ce cf (bh cf l h a).1 (bh cf l h a).2 o).2,(bh cf l h a).2++[(ce cf (bh cf l h a).1 (bh cf l h a).2 o).1])
 | [],h,a=>rfl
 | p::l,h,a=>by
  show bh cf (l++[o]) _ _=_
  rw [gF cf o l]
  rfl
theorem fL (cf):∀ (l:List iG) (h:Hs) (a:List An4),(bh cf l h a).2.length=a.length+l.length
 | [],h,a=>rfl
 | p::l,h,a=>by
  show (bh cf l _ _).2.length=_
  rw [fL cf l]
  simp
  omega
theorem jl (cf:Cf) (b:1<=cf.fifo):∀ (l:List iG) (h:Hs) (a:List An4) (k:Nat),Inv cf h->Few k h->Inv cf (bh cf l h a).1/\Few (k+l.length) (bh cf l h a).1
 | [],h,a,k,i,f=>⟨i,f⟩
 | p::l,h,a,k,i,f=>by
  obtain⟨c,f1⟩:=i.step b f a p
  have:=jl cf b l _ (a++[(ce cf h a p).1]) (k+1) c f1
  show Inv cf (bh cf l _ _).1/\Few (k+(l.length+1)) (bh cf l _ _).1
  rw [show k+(l.length+1)=k+1+l.length by omega]
  exact this
abbrev Aw:=An4×Value
def aC (y:Aw):List Value:=[I y.1.code,U y.1.addr,I y.1.size,y.2]
def fw (l:List Aw):List Value:=l.flatMap aC
theorem si (l:List Aw) (y:Aw):fw (l++[y])=fw l++aC y:=by simp [fw]
structure Rs (B Q:Nat) (W:World) (l:List Aw) (v:Value):Prop where
 row:W.ownsRow B 44 4 v l.length (fw l)
 dat:∀ y∈l,W.ownsRow B 5 1 y.2 y.1.data.length (Ns .u8 y.1.data)/\∀ g,y.2.ownBlock=some g->¬ft Q W g
 dis:l.Pairwise λy z=>∀ g,y.2.ownBlock=some g->z.2.ownBlock≠some g
theorem yX {a:Nat} {i:List Value} (h:W.ownsRow a 5 1 v n i) (j:∀ g,v.ownBlock=some g->¬ft Q W g) (k:Bk B Q W W'):W'.ownsRow a 5 1 v n i/\∀ g,v.ownBlock=some g->¬ft Q W' g:=by
 refine⟨⟨h.1,?_⟩,λg l e=>?_⟩
 ·rcases h.2 with c|⟨f,cap,b,rfl,d,c,m⟩;·exact .inl c
  exact .inr ⟨f,cap,b,rfl,d,k.by5 f b _ c (j f rfl),m⟩
 rcases k.pg g e with d|d;·exact j g l d
 obtain⟨_,c,b⟩:=aH h l;have:=ai b;omega
theorem Rs.bk {C l} (r:Rs C Q W l v) (k:Bk B Q W W'):Rs C Q W' l v :=
 ⟨aj r.row k.ky (eT av),λy a=>yX (r.dat y a).1 (r.dat y a).2 k,r.dis⟩
theorem zh:(prog.info? 44).map (λi=>(i.zero,i.size,i.bytes))=some (some (.agg #[I 0,U 0,I 0,C]),4,48):=E
theorem pA (W:World) (B:Nat) (v:Value) (l:List Aw) (y) (g:Nat) (c) (a:W.ownsRow B 44 4 v l.length (fw l)) (o:W.heap[g]?=some (.cells (aC y).toArray 44)) (p:y.2.oneCell'=true) (A:l.length<=1000) (q:B<=W.heap.size) :
  ∃ d b,(Builtin.append_ #[30,30] 30 #[v,Vl g 1 c]).run prog W=.ok d b/\b.ownsRow B 44 4 d (l++[y]).length (fw (l++[y]))/\W.grownBy b v.ownBlock:=by
 obtain⟨r,e,f,i,k⟩:=GI zh;have m:∀ j u,(aC y)[j]?=some u->W.cell? ((⟨g,0,none⟩:Addr).add j)=some u:=λj u s=>by
  rw [Addr.add_mid,FP,Gz _ _ j _ _ _ o];simpa using s
 have t:∀ u∈aC y,u.oneCell'=true:=λu n=>by
  simp only [aC,FG,F1,or_false] at n;rcases n with rfl|rfl|rfl|rfl;·rfl
  ·rfl
  ·rfl
  exact p
 obtain⟨d,b,w,x,z,_⟩:=Hk (P:=prog) W B 30 30 44 r _ 4 48 underlying30 e f i k rfl Z v _ _ a ⟨g,0,none⟩ 1 c (aC y) rfl m t (by unfold maxLen;omega) Z q;exact⟨d,b,w,by rw [si,Fo];exact x,z⟩
theorem Bk.ofAns {f:Array Value} {i:Nat×Nat} {j:List Value} (d:W.ownsRow B 44 4 v n j) (e:W.heap[Q]?=some (.cells f 217 i)) (g:W.grownBy W' v.ownBlock):Ky (· = 44) W W'/\(∀ g,ft Q W' g->ft Q W g)/\∀ (a:Nat),a<=B->a<=W.heap.size->Below a W W':=by
 have k:Ky (· = 44) W W':=Ky.grownO (λP b=>by obtain ⟨_,c,l⟩:=aH d b;exact⟨c,44,_,l,rfl⟩) g;refine⟨k,λp c=>de (k.cells _ _ _ _ e av |>.trans e.symm) c,λa l m=>(Fc a W).grown g m (λP b=>Fg l (aH d b).1)⟩
def iP (an:List An4) (o:iG):Option Nat :=
 if o.ref=0 then some o.p
 else if o.ref<0\/(an.length:Int)<o.ref then none
 else some ((o.p+((an[o.ref.toNat-1]?.map An4.addr).getD 0))%18446744073709551616)
theorem uX (cf h an o):ce cf h an o=match iP an o with
  | some p=>dF cf h o p
  | none=>(.no 6,h):=by
 unfold ce iP
 by_cases a:o.ref=0
 ·rw [Gv a,Gv a]
 rw [Gu a,Gu a]
 by_cases b:o.ref<0\/(an.length:Int)<o.ref
 ·rw [Gv b,Gv b]
 rw [Gu b,Gu b]
structure wJ (B:Nat) (W:World) (l:List Aw) (v:Value):Prop where
 row:W.ownsRow B 44 4 v l.length (fw l)
 len:l.length<=300
def DU (W:World) (r:Option Nat) (e:Ending) (W':World):Prop:=D W W'/\((∃ p,r=some p/\e=.returned (U p))\/(r=none/\e=.panicked (ij 6)))
theorem uw (B) (P:Nat) (o:iG) (z:Option Addr) (A F:Nat) (l) (s:Option Addr) (d k:Nat) (W:World) (b:W.cell? ⟨P,119,none⟩=some (.slice s d k)) (f:wJ B W l (.slice s d k)) (ho:o.p<18446744073709551616) (Q : -9223372036854775808<=o.ref) :
  Calls prog 67 #[J P 0,.agg #[I o.kd,I o.ref,U o.p,U o.a,U o.b,.slice z A F]] W (DU W (iP (l.map (·.1)) o)):=by
 have g:d=l.length:=by
  obtain⟨a,c,e⟩:=aK f.row;injection e with _ i _
 have G:=f.len;obtain⟨V,i⟩:∃ V,V=W.alloc (.cells #[I o.kd,I o.ref,U o.p,U o.a,U o.b,.slice z A F] 42):=⟨_,rfl⟩;have a:D W V:=by rw [i];exact (Fc _ _).alloc (Fe _) _
 have X:=(show V.heap[W.heap.size]?=some (.cells #[I o.kd,I o.ref,U o.p,U o.a,U o.b,.slice z A F] 42) by rw [i];exact ao W _);have m:V.cell? ⟨W.heap.size,1,none⟩=some (I o.ref):=bY X;have t:V.cell? ⟨W.heap.size,2,none⟩=some (U o.p):=bY X;have u:=ad a b;have n:=H (ay f.row a);have y:=H a;clear b f X a;by_cases b:o.ref=0
 ·have p:=H (show iP (l.map (·.1)) o=some o.p by unfold iP;rw [Gv b]);have R:(o.ref==0)=true:=by simpa using b
  clear u n b;generalize o.ref=e at *;go_enter func67,ntmps67;go_upto_region 1 with fail
  refine Eq.mp (congrArg _ i) ?_;clear i;generalize W.heap.size=X at m t ⊢;go_wp2;go_ret;rw [p.out];exact⟨y,.inl ⟨_,rfl,rfl⟩⟩
 have R:(o.ref==0)=false:=by simpa using b
 by_cases v:o.ref<0
 ·have p:=H (show iP (l.map (·.1)) o=none by unfold iP;rw [Gu b,Gv (.inl v)]);clear n b;generalize o.ref=e at *;go_enter func67,ntmps67;go_upto_region 1 with fail
  refine Eq.mp (congrArg _ i) ?_;clear i;generalize W.heap.size=X at m t ⊢;go_upto_region 3 with fail
  refine rh (S:=λf=>f.cell? ⟨X,1,none⟩=some (I e)/\f.cell? ⟨P,119,none⟩=some (.slice s d k)) ?_;have a:=IB (show V.drew.cell? _=_ from m) (show V.drew.cell? _=_ from u);refine pk 0 (J X 1) a ?_;refine pz 1 (I (e)) a ?_;refine pz 2 (.bool true) a ?_;refine pk 3 (.bool true) a ?_;refine ps 4 a ?_;refine ps 5 a ?_;refine ps 6 a ?_;refine ps 7 a ?_;refine ps 8 a ?_;refine ps 9 a ?_;refine ps 10 a ?_;refine ps 11 a ?_;refine pz 12 (.bool true) a ?_;refine bN ?_;clear a;go_wp2;rw [p.out];exact⟨rfl,y.drew,.inr ⟨rfl,rfl⟩⟩
 by_cases r:(l.length:Int)<o.ref
 ·have p:=H (show iP (l.map (·.1)) o=none by unfold iP;rw [Gu b,Gv (.inr (by simpa using r))]);clear n b;rw [<-g] at r;generalize o.ref=e at *;go_enter func67,ntmps67;go_upto_region 1 with fail
  refine Eq.mp (congrArg _ i) ?_;clear i;generalize W.heap.size=X at m t ⊢;go_upto_region 3 with fail
  refine rh (S:=λf=>f.cell? ⟨X,1,none⟩=some (I e)/\f.cell? ⟨P,119,none⟩=some (.slice s d k)) ?_;have a:=IB (show V.drew.cell? _=_ from m) (show V.drew.cell? _=_ from u);refine pk 0 (J X 1) a ?_;refine pz 1 (I (e)) a ?_;refine pz 2 (.bool false) a ?_;refine pk 3 (.bool false) a ?_;refine pk 4 (J X 1) a ?_;refine pz 5 (I (e)) a ?_;refine pk 6 (J P 0) a ?_;refine pk 7 (J P 0) a ?_;refine pk 8 (J P 119) a ?_;refine pz 9 (.slice s d k) a ?_;refine pz 10 (I d) a ?_;refine pz 11 (.bool true) a ?_;refine pz 12 (.bool true) a ?_;refine bN ?_;clear a;go_wp2;rw [p.out];exact⟨rfl,y.drew,.inr ⟨rfl,rfl⟩⟩
 obtain⟨c,K⟩:∃ c:Nat,o.ref=(c:Int)+1:=⟨(o.ref-1).toNat,Z⟩;have w:c<l.length:=Z;obtain⟨q,L⟩:∃ q,l[c]?=some q:=⟨_,Fj w⟩;obtain⟨j,M⟩:∃ j,s=some ⟨j,0,none⟩:=by
  rw [g] at n;exact cn n Z
 subst M;have T:V.cell? ⟨j,c*4+1,none⟩=some (U q.1.addr):=by
  have:=n.out;rw [g] at this;exact bC this (c*4+1) _ (eX aC 4 (λ_=>rfl) l c q L 1 Z)
 have p:=H (show iP (l.map (·.1)) o=some ((o.p+q.1.addr)%18446744073709551616) by
  unfold iP;rw [Gu b,Gu bK];have x:o.ref.toNat-1=c:=Z;rw [x,Gi,L];rfl)
 have x:(o.ref-1)=(c:Int):=Z;have Y:IntKind.i64.wrap (o.ref-1)=(c:Int):=by rw [x];rw [GT];omega
 have O:(c:Int)<(d:Int):=Z;have N:=H (show IntKind.u64.wrap ((o.p:Int)+(q.1.addr:Int))=(((o.p+q.1.addr)%18446744073709551616:Nat):Int) by rw [eL];simp);rw [<-g] at r;clear b L K n w g G x;generalize q.1.addr=b at *;generalize o.ref=e at *;go_enter func67,ntmps67;go_upto_region 1 with fail
 refine Eq.mp (congrArg _ i) ?_;clear i;generalize W.heap.size=X at m t ⊢;go_upto_region 3 with fail
 refine rh (S:=λf=>f.cell? ⟨X,1,none⟩=some (I e)/\f.cell? ⟨P,119,none⟩=some (Vl j d k)) ?_;have a:=IB (show V.drew.cell? _=_ from m) (show V.drew.cell? _=_ from u);refine pk 0 (J X 1) a ?_;refine pz 1 (I (e)) a ?_;refine pz 2 (.bool false) a ?_;refine pk 3 (.bool false) a ?_;refine pk 4 (J X 1) a ?_;refine pz 5 (I (e)) a ?_;refine pk 6 (J P 0) a ?_;refine pk 7 (J P 0) a ?_;refine pk 8 (J P 119) a ?_;refine pz 9 (Vl j d k) a ?_;refine pz 10 (I d) a ?_;refine pz 11 (.bool false) a ?_;refine pz 12 (.bool false) a ?_;refine bN ?_;clear a;go_upto_region 5 with fail
 refine rh (S:=λf=>f.cell? ⟨X,1,none⟩=some (I e)/\f.cell? ⟨X,2,none⟩=some (U o.p)/\f.cell? ⟨P,119,none⟩=some (Vl j d k)/\f.cell? ⟨j,c*4+1,none⟩=some (U b)) ?_;have a:=IB (show V.drew.drew.cell? _=_ from m) (IB (show V.drew.drew.cell? _=_ from t) (IB (show V.drew.drew.cell? _=_ from u) (show V.drew.drew.cell? _=_ from T)));refine pk 0 (J X 2) a ?_;refine pz 1 (U o.p) a ?_;refine pk 2 (J P 0) a ?_;refine pk 3 (J P 0) a ?_;refine pk 4 (J P 119) a ?_;refine pz 5 (Vl j d k) a ?_;refine pk 6 (J X 1) a ?_;refine pz 7 (I e) a ?_;refine pz 8 (I c) a ?_;refine pz 9 (J j (c*4)) a ?_;refine pk 10 (J j (c*4+1)) a ?_;refine pz 11 (U b) a ?_;refine pz 12 (U (IntKind.u64.wrap ((o.p:Int)+(b:Int)))) a ?_;refine pk 13 (U (IntKind.u64.wrap ((o.p:Int)+(b:Int)))) a ?_;refine bN ?_;clear a;go_wp2;go_ret;rw [p.out];exact⟨y.drew.drew,.inl ⟨_,rfl,by rw [<-N.out];rfl⟩⟩
def Byt (m:Nat->Option (Bool×List Int)):Prop:=∀ k q,m k=some q->∀ x∈q.2,0<=x/\x<=255
def okB (ys:List Int):Prop:=∀ y∈ys,0<=y/\y<=255
theorem okB.get {ys} (h:okB ys) (i:Nat):0<=ys[i]?.getD 0/\ys[i]?.getD 0<=255:=by
 cases e:ys[i]? with
 | none=>simp
 | some y=>exact h y (Fz e)
theorem Byt.put (h:Byt m) (p) {x:Int} (d:0<=x/\x<=255):Byt (dX m p x):=by
 intro k q a;unfold dX at a;by_cases e:k=p/1024
 ·subst e;rw [bL] at a;cases b:m (p/1024) with
  | none=>rw [b] at a;cases a
  | some r =>
   rw [b] at a;simp at a;subst a;intro z f;rcases List.mem_or_eq_of_mem_set f with c|c;·exact h _ _ b z c
   rw [c];exact d
 rw [aV _ _ _ _ e] at a;exact h k q a
theorem Byt.store {m} (h:Byt m) (a) {ys} (b:okB ys):∀ k,Byt (ax m a ys k)
 | 0=>h
 | k+1=>(Byt.store h a b k).put _ (b.get k)
theorem Byt.fresh (h:Byt m) (p k:Nat):Byt (aU m p k):=by
 intro j q a;rw [cY] at a;split at a
 ·injection a with a;subst a;intro x b;rw [List.eq_of_mem_replicate b];omega
 exact h j q a
theorem Byt.gone (h:Byt m) (p k:Nat):Byt (bI m p k):=by
 intro j q a;rw [dC] at a;split at a;·cases a
 exact h j q a
theorem Byt.at (h:Byt m) (p):0<=be m p/\be m p<=255:=by
 unfold be;cases a:m (p/1024) with
 | none=>simp
 | some q =>
  simp only [GW,Hb];exact okB.get (λy b=>h _ _ a y b) _
theorem Byt.load (h:Byt m) (a n):okB (aI m a n):=by
 intro y b;unfold aI at b;simp only [FC] at b;obtain⟨i,_,rfl⟩:=b;exact h.at _
theorem tO (cf a):okB (can cf a):=by
 intro y b;unfold can gH at b;simp only [FC] at b;obtain⟨i,_,rfl⟩:=b;split;·omega
 have:=Dj (cx cf.key (a:Int)) i;omega
theorem wR (n:Nat):okB (List.replicate n 0):=λy a=>by rw [List.eq_of_mem_replicate a];omega
theorem tD {a:Hs} {c s:Nat} (e:dm cf h c=some (s,a)):a.m=h.m\/a.m=aU h.m (aB c s) (dH c):=by
 unfold dm at e;split at e;·injection e with e;injection e with d b;subst b;exact .inl rfl
 split at e;·cases e
 split at e;·cases e
 injection e with e;injection e with d b;subst d;subst b;exact .inr rfl
theorem Byt.small {cf c} : ∀ (f:Nat) {h:Hs},Byt h.m->Byt (cr cf c f h).2.m
 | 0,h,b=>b
 | f+1,h,b=>by
  unfold cr
  cases e:dm cf h c with
  | none=>exact b
  | some q =>
   obtain⟨s,a⟩:=q
   have d:Byt a.m:=by rcases tD e with g|g <;> rw [g];exact b;exact b.fresh _ _
   dsimp only
   split
   ·exact d
   exact Byt.small f (h:={ a with used:=a.used+1,st:=_ }) d
theorem Byt.malloc (b:Byt h.m) (a):Byt (aA cf h a).2.m:=by
 unfold aA;split
 ·have d:=Byt.small (cf:=cf) (c:=gx a) 2000 b;cases e:cr cf (gx a) 2000 h with
  | mk o f =>
   rw [e] at d;cases o with
   | none=>exact d
   | some q =>
    obtain⟨s,j⟩:=q;exact d.store _ (tO cf _) 8
 dsimp only;split;·exact b
 split;·exact b
 split;·exact b
 exact b.fresh _ _
theorem Byt.release (b:Byt h.m) (c s j):Byt (bO h c s j).m:=by
 unfold bO;dsimp only;split;·exact b.gone _ _
 exact b
theorem Byt.freeS (b:Byt h.m) (c s j):Byt (aL cf h c s j).m:=by
 unfold aL;dsimp only;have a:=b.store (aX c s j) (wR (bX c)) (bX c);split
 ·split;·exact a
  exact Byt.release (h:={ m:=_,st:=_,rq:=_,mx:=_,ff:=_,rg:=_,row:=_,rel:=_,used:=_ }) a _ _ _
 split;·exact a
 exact Byt.release (h:={ m:=_,st:=_,rq:=_,mx:=_,ff:=_,rg:=_,row:=_,rel:=_,used:=_ }) a _ _ _
theorem Byt.freeR (b:Byt h.m) (r):Byt (aW cf h r).m:=by
 unfold aW;dsimp only;split;·exact b.gone _ _
 exact b.gone _ _
theorem Byt.free (b:Byt h.m) (f:Fd):Byt (eK cf h f).m:=by
 cases f with
 | slot c s j=>exact b.freeS c s j
 | range r=>exact b.freeR r
 | no _=>exact b
theorem Byt.realloc (b:Byt h.m) (p a):Byt (cw cf h p a).2.m:=by
 have f:=b.malloc (cf:=cf) a;have g:∀ d:Nat,Byt ((match aA cf h a with
   | (none,c)=>((An4.no 1,c):An4×Hs)
   | (some q,c)=>(⟨0,q,0,[]⟩,eK cf { c with m:=cF c.m p q (min d a) } (aP { c with m:=cF c.m p q (min d a) } p))).2.m):=λd=>by
  cases e:aA cf h a with
  | mk o c =>
   rw [e] at f;cases o with
   | none=>exact f
   | some q=>exact Byt.free (h:={ c with m:=cF c.m p q (min d a) }) (Byt.store f _ (Byt.load f _ _) _) _
 unfold cw;dsimp only;split
 ·cases e:aA cf h a with
  | mk o c =>
   rw [e] at f;cases o with
   | none=>exact f
   | some q=>exact f
 split;·exact b
 ·split;·exact b
  split;·exact b
  exact g _
 split;·exact b
 exact g _
theorem Byt.do (b:Byt h.m) (o:iG) (p) (f:okB o.ys):Byt (dF cf h o p).2.m:=by
 have d:∀ n:Nat,Byt ((match aA cf h n with
   | (none,a)=>((An4.no 1,a):An4×Hs)
   | (some q,a)=>(⟨0,q,0,[]⟩,a)).2.m):=λn=>by
  have c:=b.malloc (cf:=cf) n
  cases e:aA cf h n with
  | mk o a =>
   rw [e] at c;cases o with
   | none=>exact c
   | some q=>exact c
 unfold dF;dsimp only;split;·exact d _
 split
 ·split;·exact b
  exact d _
 split;·exact b.realloc _ _
 split
 ·split;·exact b
  ·split;·exact b
   exact b.freeS _ _ _
  exact b.freeR _
 split;·split <;> exact b
 split;·split <;> exact b
 split
 ·dsimp only;split;·exact b.store _ f _
  exact b
 exact b
theorem Byt.step (b:Byt h.m) (an) (o:iG) (a:okB o.ys):Byt (ce cf h an o).2.m:=by
 unfold ce;split;·exact b.do o _ a
 split;·exact b
 exact b.do o _ a
theorem Byt.new (cf):Byt (aS cf).m:=λk q a=>by simp [aS] at a
end
section
open Go.RowKit Go.Maps
def kM (data:List Int):ByteArray:=data.foldl (λr n=>r.push (UInt8.ofNat n.toNat)) ByteArray.empty
theorem pS:∀ (l:List Int) (r:ByteArray),(l.foldl (λr n=>r.push (UInt8.ofNat n.toNat)) r).data.toList=r.data.toList++l.map (λn=>UInt8.ofNat n.toNat)
 | [],r=>by simp
 | x::l,r=>by
  rw [List.foldl_cons,pS l]
  simp [ByteArray.push]
theorem vz (l):(kM l).data.toList=l.map (λn=>UInt8.ofNat n.toNat):=by
 unfold kM;rw [pS];rfl
theorem vO {a b:ByteArray} (h:a.toList=b.toList):a=b:=by
 rw [Go.ByteArray.toList_eq,Go.ByteArray.toList_eq] at h;cases a;cases b;simp at h;exact congrArg ByteArray.mk h
theorem vS {a b} (ha:okB a) (i:okB b) (h:kM a=kM b):a=b:=by
 have e:=congrArg (λs:ByteArray=>s.data.toList) h;simp only [vz] at e;have c:∀ (a b:List Int),okB a->okB b->a.map (λn=>UInt8.ofNat n.toNat)=b.map (λn=>UInt8.ofNat n.toNat)->a=b:=by
  intro a;induction a with
  | nil=>intro b _ _ e;cases b with
   | nil=>rfl
   | cons y r=>simp at e
  | cons x l j =>
   intro b f g e;cases b with
   | nil=>simp at e
   | cons y r =>
    simp only [Ia,List.cons.injEq] at e;have m:=f x bF;have o:=g y bF;have k:=congrArg UInt8.toNat e.1;rw [UInt8.toNat_ofNat',UInt8.toNat_ofNat',Hi Z,Hi Z] at k;rw [j r (λz d=>f z (by simp [d])) (λz d=>g z (by simp [d])) e.2];congr 1;omega
 exact c a b ha i e
def Bs (w:World) (u:Value) (data:List Int):Prop:=∃ a c,u=.slice a data.length c/\∀ i,i<data.length->∃ g,a=some ⟨g,0,none⟩/\w.cell? ⟨g,i,none⟩=some (.int .u8 (data[i]?.getD 0))
theorem Bs.below {w data} (h:Bs w u data) (b:D w W):Bs W u data:=by
 obtain⟨a,c,e,d⟩:=h;exact⟨a,c,e,λi f=>by obtain ⟨g,j,k⟩:=d i f;exact⟨g,j,ad b k⟩⟩
theorem sY (h:W.ownsRow B 5 1 u l.length (Ns .u8 l)):Bs W u l:=by
 obtain⟨a,c,e⟩:=aK h;subst e;refine⟨a,c,rfl,λi b=>?_⟩;obtain⟨g,d⟩:=cn h Z;subst d;exact⟨g,rfl,bC h i _ (by simp [Ns,b])⟩
theorem Bv {g} (h:RowV W g 5 (Ns .u8 l)) (a:l.length=n):Bs W (Vl g n n) l:=by
 subst a;exact⟨_,_,rfl,λi b=>⟨g,rfl,iV h i b⟩⟩
theorem tz {w data} (h:Bs w u data):(convert 22 9 u).run prog w=.ok (.string (kM data)) w:=by
 obtain⟨a,c,rfl,d⟩:=h;rw [run_convert_bytes_string w 22 9 5 a data.length c underlying22 underlying5 underlying9];cases a with
 | none =>
  have:data=[]:=by
   cases data with
   | nil=>rfl
   | cons x r=>obtain ⟨g,e,_⟩:=d 0 bF;cases e
  subst this;unfold Conv.bytesToString;simp [kM,Sem.run_pure]
 | some p =>
  refine run_bytesToString w p data.length c data ?_;have:=run_loadCells_list (P:=prog) w p (data.map (Value.int .u8)) (λj v f=>by
   have b:=(Fl.1 f).1;simp at b;obtain⟨g,e,i⟩:=d j b;cases e;rw [Addr.add_mid,FP,i,<-f];simp [b])
  simpa using this
theorem xr (u1 u2 d1 d2 w) (a:Bs w u1 d1) (b:Bs w u2 d2) (c:okB d1) (d:okB d2) :
  Calls prog 104 #[u1,u2] w λe f=>e=.returned (.bool (d1==d2))/\f=w:=by
 have i:=tz a;have j:=tz b;have g:=H (show ((kM d1).toList==(kM d2).toList)=(d1==d2) by
  by_cases e:d1=d2;·subst e;simp
  have:(kM d1).toList≠(kM d2).toList:=λh=>e (vS c d (vO h))
  rw [beq_eq_false_iff_ne.2 this,beq_eq_false_iff_ne.2 e])
 generalize kM d1=k at *;generalize kM d2=l at *;clear a b;go_enter func104,ntmps104;go_wp2;go_ret;rw [<-g.out];exact⟨rfl,rfl⟩
theorem xQ (h:∀ j,j<l.length->l[j]?.getD 0<=0) (e:okB l):l.all (· == 0)=true:=by
 rw [List.all_eq_true];intro x b;obtain⟨j,c⟩:=GQ b;have a:=(Fl.1 c).1;have d:=h j a;rw [c] at d;have f:=e x b;simp at d ⊢;omega
theorem pa {j:Nat} (a:j<l.length) (h:0<l[j]?.getD 0):l.all (· == 0)=false:=by
 cases e:l.all (· == 0) with
 | false=>rfl
 | true =>
  exfalso;rw [List.all_eq_true] at e;have b:l[j]?.getD 0∈l:=by rw [Fj a];exact Ie _
  have:=e _ b;rw [beq_iff_eq] at this;omega
theorem BC (u data W) (h:Bs W u data) (d:okB data) (s:0<data.length) (A:data.length<=100000) :
  Calls prog 135 #[u] W λe W'=>∃ M:Int,e=.returned (.int .u8 M)/\decide (0<M) = !(data.all (· == 0))/\W'=W:=by
 obtain⟨a,Q,rfl,f⟩:=h;obtain⟨g,rfl,B⟩:=f 0 s;have t:=H (show ∀ i,i<data.length->W.cell? ⟨g,i,none⟩=some (.int .u8 (data[i]?.getD 0)) from λi a=>by
  obtain⟨k,b,c⟩:=f i a;cases b;exact c)
 have R:=H d;have v:=H (λi=>d.get i);have w:=H (λb=>xQ (l:=data) b d);have y:=H (λj c b=>pa (l:=data) (j:=j) c b);clear f d;obtain⟨n,d⟩:∃ n,data.length=n:=⟨_,rfl⟩;rw [d] at t w y s A ⊢;clear d;have F:=v.out 0;generalize d:data[0]?.getD 0=G at *;have f:=H d;clear d;have z:¬((n:Int)<1):=Z;go_enter func135,ntmps135;go_wp2;go_loopw [3,4] (λm i wr=>∃ (k:Nat) (M:Int),k<=n/\1<=k/\i=I k/\m=.int .u8 M/\wr=W/\Hid (0<=M/\M<=255)/\Hid ((0<M->∃ j,j<k/\0<data[j]?.getD 0)/\(M<=0->∀ j,j<k->data[j]?.getD 0<=0))) (λ_ i _=>n-(intOf i).toNat)
 case atStart=>exact ⟨1,G,Z,Fe _,rfl,rfl,rfl,H F,H ⟨λh=>⟨0,Z,by rw [f.out];exact h⟩,λh j c=>by
  obtain rfl:j=0:=Z;rw [f.out];exact h⟩⟩
 case round =>
  obtain⟨k,M,S,K,rfl,rfl,rfl,L,o⟩:=hrel;by_cases q:k<n
  ·have N:=t.out k q;have gk:=v.out k;generalize d:data[k]?.getD 0=x at *;have r:=H d;clear d;by_cases O:M<=x
   ·have p:max M x=x:=Z;go_wp2;go_roundw
    case rel=>exact ⟨k+1,x,Z,Z,aY,by congr 1;split <;> omega,trivial,H gk,H ⟨λb=>⟨k,Z,by rw [r.out];exact b⟩,λb j c=>by
     rcases Nat.lt_succ_iff_lt_or_eq.1 c with d|d;·exact o.2 Z j d
     subst d;rw [r.out];exact b⟩⟩
    case measure=>simp [intOf];omega
   have p:max M x=M:=Z;go_wp2;go_roundw
   case rel=>exact ⟨k+1,M,Z,Z,aY,by congr 1;split <;> omega,trivial,L,H ⟨λb=>by
    obtain⟨j,c,P⟩:=o.1 b;exact⟨j,Z,P⟩,λb j c=>by
    rcases Nat.lt_succ_iff_lt_or_eq.1 c with d|d;·exact o.2 b j d
    subst d;rw [r.out];omega⟩⟩
   case measure=>simp [intOf];omega
  obtain rfl:k=n:=Z;go_wp2;go_ret;refine⟨M,rfl,?_,rfl⟩;by_cases d:0<M;·obtain⟨j,c,b⟩:=o.1 d;rw [y.out j c b];simpa using d
  rw [w.out (o.2 Z)];simpa using d
theorem AT (w:World):(zeroValue 23).run prog w=.ok (U 0) w:=E
theorem ic (w:World) (g:Nat):∀ (b:List Value) (o:Nat) (a:World),a.grownBy w (some g)->a.grownBy (w.setCells g o b) (some g)
 | [],o,a,h=>h
 | v::b,o,a,h=>by
  show a.grownBy ((w.setCell ⟨g,o,none⟩ v).setCells g (o+1) b) (some g)
  exact ic _ g b (o+1) a (au h o v)
theorem Ct.cells {g cap n l is j} : ∀ (a:List Value) (o:Nat) {W:World},Ct g cap n l is j W->is.length<=o->n<=j->Ct g cap n l is j (W.setCells g o a)
 | [],o,W,h,_,_=>h
 | v::a,o,W,h,k,b=>by
  show Ct g cap n l is j ((W.setCell ⟨g,o,none⟩ v).setCells g (o+1) a)
  refine Ct.cells a (o+1) ?_ Z b
  obtain⟨c,d,e,f,m⟩:=h.row
  refine⟨c.setIfInBounds o v,by simp [World.setCell,Fp,d],by simpa using e,λq i=>?_,λq p r=>Z⟩
  rw [Fu,Gu Z]
  exact f q i
theorem Ct.own {g l is j} (h:Ct g cap n l is j W) (b:B<=g) (d:is.length<=cap) (e:cap<=maxLen):W.ownsRow B 23 1 (Vl g is.length cap) is.length (Us is):=by
 obtain⟨c,f,k,i,m⟩:=h.row;refine⟨by simp [Us],.inr ⟨g,cap,c,rfl,b,f,d,e,Z,?_⟩⟩;rw [Nat.mul_one];apply G9;intro q;by_cases a:q<is.length;·rw [GR a,FY,i q a];simp [Us,a]
 rw [Ft bK,Ft (by simp [Us];omega)]
def ET (B:Nat) (t:Option Addr) (i j:Nat) (l:List Nat) (W:World) (e:Ending) (W':World):Prop:=∃ v',e=.returned v'/\W'.ownsRow B 23 1 v' l.length (Us l)/\W.grownBy W' (Value.slice t i j).ownBlock/\v'.ownBlock=(Value.slice t i j).ownBlock
theorem gZ {V c:World} {o:Option Nat} (h:W.grownBy V o) (b:D V c):W.grownBy c o:=⟨b.os.trans h.os,b.tape.trans h.tape,b.output.trans h.output,Fg h.size b.size,λk d a=>(b.block k (Fq d h.size)).trans (h.block k d a)⟩
theorem nw (B:Nat) (L r) (T:Option Addr) (X t:Nat) (l:List Nat) (W:World) (h:W.ownsRow B 23 1 (.slice T X t) l.length (Us l)) (hl:l.length<=100000) (M:∀ x∈l,x<18446744073709551616) (a:Lc L r W) (d:∃ c,W.heap[L]?=some (.cells c 197)) :
  Calls prog 142 #[.slice T X t,.func (.func 143) #[J L 0] #[]] W (ET B T X t (l.filter λx => !nt r x) W):=by
 have Y:=H (o_ B L r T X t l W h hl M a);have a0:=(lw h).1;subst a0;have S:=H h;have HX:=H M;have b:=H a;have HL:=H d;clear h M a d;go_enter func142,ntmps142;go_wp2_with fail;refine (Y).mono ?_;rintro e V ⟨w,⟨rfl,N⟩|⟨k,hk,rfl,o,d⟩⟩;·have f:=H (show l.filter (λx => !nt r x)=l by rw [Hw];intro x M;rw [N x M];rfl);have a:=H w;clear w Y N;go_wp2;go_ret;rw [f.out];exact⟨_,rfl,ay S a,gZ ⟨rfl,rfl,rfl,Fe _,λ_ _ _=>rfl⟩ a,rfl⟩
 obtain⟨g,hg⟩:=cn S Z;subst hg;have O:∃ cap f,t=cap/\B<=g/\W.heap[g]?=some (.cells f 23)/\l.length<=cap/\cap<=maxLen/\f.size=cap/\f.toList.take l.length=Us l:=by
  rcases S.2 with ⟨e,_⟩|⟨p,cap,f,e,G,P,a,j,s,m⟩;·cases e
  cases e;exact⟨t,f,rfl,G,P,a,j,Z,by simpa using m⟩
 obtain⟨cap,f,rfl,hB,m,a1,a2,y,p⟩:=O;have z:Ct g t l.length l (eh r l k) (k+1) V:=by
  refine⟨f,(w.block _ (ai m)).trans m,y,λq K=>?_,λq G P=>?_⟩
  ·rw [kg r l k Z d] at K ⊢;rw [G0] at K;have A:(f.toList.take l.length)[q]?=(Us l)[q]?:=(by rw [p]);rw [GR Z,FY] at A;rw [A,GR Z];simp [Us,show q<l.length by omega]
  have A:(f.toList.take l.length)[q]?=(Us l)[q]?:=by rw [p]
  rw [GR Z,FY] at A;rw [A];simp [Us,P]
 have s:eh r l (k+1)=eh r l k:=by rw [iY r l k hk,Gv o,F4]
 have u:(eh r l k).length=k:=by rw [kg r l k Z d,G0];omega
 have KL:=H (λj (G:k<j) (P:j<=l.length)=>yF r l k j G P o);have Q:=H (gZ (ar W g) w);have R:=H (show Ct g t l.length l (eh r l (k+1)) (k+1) V by rw [s];exact z);have a3:=H (show (eh r l (k+1)).length=k by rw [s];exact u);have KS:=H (λj G=>iY r l j G);have KW:=H (show eh r l l.length=l.filter (λx => !nt r x) by unfold eh;rw [GK]);have CV:=H (λa (hU:W.grownBy a (some g)) x (hx9:x<18446744073709551616)=>oh L x r a (by
  obtain⟨c,hc⟩:=HL.out;have a4:L≠g:=λe=>by rw [e,m] at hc;simp at hc
  have A:a.heap[L]?=W.heap[L]?:=hU.block L (ai hc) (by simpa using a4);have F:∀ i,a.cell? ⟨L,i,none⟩=W.cell? ⟨L,i,none⟩:=λi=>by unfold World.cell?;rw [A]
  exact⟨(F 0).trans b.c0,(F 1).trans b.c1,(F 2).trans b.c2,(F 3).trans b.c3,(F 4).trans b.c4,b.hf,b.hu,b.hp⟩) hx9)
 clear z s u Y w S m p y HL b d o;generalize b:l.length=n at *;have HN:=H b;clear b;have a8:((k:Int) == -1)=false:=by simp <;> omega
 go_wp2;go_loopw [5,6] (λi j wr=>∃ b:Nat,k<b/\b<=n/\j=I b/\i=I ((eh r l b).length:Nat)/\Hid (Ct g t n l (eh r l b) b wr)/\Hid (W.grownBy wr (some g))) (λ_ j _=>n-(intOf j).toNat);case atStart=>exact ⟨k+1,Z,Z,aY,by rw [a3.out],R,Q⟩
 case round =>
  clear R Q;obtain⟨j,a4,hj,rfl,rfl,z,S⟩:=hrel;by_cases w:j<n
  ·have m:=z.cell (Fe j) w;have a5:l[j]?.getD 0<18446744073709551616:=HX.out _ (by rw [Fj (by rw [HN.out];exact w)];exact Ie _);have Y:=H (KS j w);have u:=oe r l j;generalize K:l[j]?.getD 0=q at *;clear K;have p:=H (CV wr S q a5);rw [show (decide (r.first<=q/1024)&&decide (q/1024<r.first+r.ext))=nt r q from rfl] at p;generalize y:eh r l j=b at *;clear y;go_wp2_with fail;refine (p).mono ?_;rintro e a ⟨rfl,s⟩;have d:=H (z.same (s.block _ z.lt));have F:=H (gZ S s);clear s p m z S;cases o:nt r q with
   | true =>
    have m:=H (show eh r l (j+1)=b by rw [Y.out,o];simp);clear Y;go_wp2;go_roundw;(case rel=>exact ⟨j+1,Z,Z,aY,by rw [m.out],H (by rw [m.out];exact d.skip),F⟩);case measure=>simp [intOf];omega
   | false =>
    have m:=H (show eh r l (j+1)=b++[q] by rw [Y.out,o];simp);obtain⟨v0,c0⟩:=d.anyC (q:=b.length) Z;have f0:=d.free b.length;have a6:=H (d.put q u w a1);have a7:=H (au F b.length (U q));have a9:(b.length:Int)<(n:Int):=Z;clear Y d F;generalize p:b.length=il at *;have s:=H p;clear p;go_wp2;go_roundw;(case rel=>exact ⟨j+1,Z,Z,aY,by rw [m.out,Fo,s.out];simp,H (by rw [m.out];exact a6),a7⟩);case measure=>simp [intOf];omega
  obtain rfl:j=n:=Z;have Y:=KL.out j a4 (Fe _);generalize y:eh r l j=b at *;have a5:=H y;clear y;have a6:∀ d,(Builtin.clear_ #[34] d #[.slice (some ⟨g,b.length,none⟩) (j-b.length) (t-b.length)]).run prog wr=.ok (.tuple #[]) (wr.setCells g b.length (List.replicate (j-b.length) (U 0))) :=
   λd=>Lib.run_clear_slice wr 34 23 d (U 0) underlying34 AT rfl rfl g b.length _ _ Z (λq K=>by obtain ⟨v,m⟩:=z.anyC (q:=b.length+q) Z;rw [m];rfl) (λq K=>z.free _)
  have m:=H (z.cells (List.replicate (j-b.length) (U 0)) b.length (Fe _) (Fe _));have F:=H (ic wr g (List.replicate (j-b.length) (U 0)) b.length W S);clear z S;generalize p:b.length=il at *;have s:=H p;clear p;go_wp2;go_ret;refine⟨_,rfl,?_,F,rfl⟩;have z:=m.own hB (by rw [s.out];omega) a2;rw [s.out] at z;rw [<-KW.out,s.out];exact z
theorem Ez (n:Nat) (h:n<=1048576) (w:World):(Instr.makeSlice 22 (I (n:Int)) (I (n:Int))).run prog w=.ok (Vl w.heap.size n n) (w.alloc (.cells (madeCells #[Value.int .u8 0] n) 5)) :=
 run_make_row' 22 5 (.int .u8 0) 1 underlying22 E rfl .i64 .i64 n Z Z w
theorem we (n:Nat) (w:World):RowV (w.alloc (.cells (madeCells #[Value.int .u8 0] n) 5)) w.heap.size 5 (Ns .u8 (List.replicate n 0)):=by
 rw [mP];exact⟨_,ao w _,bF,λi a=>bF⟩
theorem Hp.setQ {y d} (i:Hp B y d cf h W) {c:Nat} (v:c<12) {mix fifo} (q:Qr W' (y.qm c) (y.qr c) (y.qg c) (y.qq c) cf.fifo mix fifo) (b:But (Qs (y.qr c) (y.qg c) (y.qq c)) W W') :
  Hp B y d cf { h with mx:=ep h.mx c mix,ff:=ep h.ff c fifo } W'/\Bi B W W':=by
 have O:=i.wt c v;have bq:=i.ap.bq c v;have z:∃ x,W.heap[y.qr c]?=some (.cells x 3):=by obtain ⟨x,u,_⟩:=O.mx.2;exact⟨x,u⟩
 have m:∃ x,W.heap[y.qq c]?=some (.cells x 3):=by obtain ⟨ps,o,S,_,⟨x,u,_⟩,_⟩:=O.qu;exact⟨x,u⟩
 have j:∃ x,W.heap[y.qg c]?=some (.cells x 167):=by obtain ⟨ps,o,S,u,_⟩:=O.qu;exact⟨_,u⟩
 obtain⟨x1,z⟩:=z;obtain⟨x2,m⟩:=m;obtain⟨x3,j⟩:=j;have T:∀ g F t f,W.heap[g]?=some (.cells F t f)->¬(t=3\/t=167)->¬Qs (y.qr c) (y.qg c) (y.qq c) g:=λg F t f l A n=>by
  rcases n with e|e|e;·rw [e,z] at l;cases l;exact A (.inl rfl)
  ·rw [e,j] at l;cases l;exact A (.inr rfl)
  rw [e,m] at l;cases l;exact A (.inl rfl)
 have V:∀ g G K,W.heap[g]?=some (.map G K)->¬Qs (y.qr c) (y.qg c) (y.qq c) g:=λg G K l n=>by
  rcases n with e|e|e;·rw [e,z] at l;cases l
  ·rw [e,j] at l;cases l
  rw [e,m] at l;cases l
 have k:Ky (λt=>t=3\/t=167) W W':=⟨b.os,b.tape,b.output,b.size,λg F t f l A=>by rw [b.block g (ai l) (T g F t f l A)];exact l⟩;have L:Below B W W':=⟨b.os,b.tape,b.output,b.size,λg l=>b.block g (Fq l i.bW) (λn=>by rcases n with e|e|e <;> omega)⟩;have Y:W'.heap[y.M]?=W.heap[y.M]?:=by
  obtain⟨a,⟨G,K,w,_⟩,_⟩:=i.sp.map;exact b.block _ (ai w) (V _ _ _ w)
 have hR:W'.heap[y.R]?=W.heap[y.R]?:=by
  obtain⟨G,K,w⟩:=i.mp.typ;exact b.block _ (ai w) (V _ _ _ w)
 refine⟨⟨i.ap,Fg i.bW L.size,i.box.ky k av,i.ds.belowB L i.ap.da,i.sp.ky k av Y,i.pg.ky k av,i.bf,
 λc s v P=>k.cells _ _ _ _ (i.sl c s v P) av,λc s v P=>cS (i.rw c s v P) k av,λa s' j' p Q R=>k.cells _ _ _ _ (i.sm a s' j' p Q R) av,
 λa p=>?_,i.mp.same hR,i.lo,λr hr=>by obtain ⟨g,u,w,h3⟩:=i.lb r hr;exact⟨g,u,w,k.cells _ _ _ _ h3 av⟩,i.li,i.ro.ky k av,aj i.rl k av,i.rr,i.tb.belowB L i.ap.b0⟩,L,k.more (λt e=>by rcases e with rfl|rfl <;> (unfold hI;decide))⟩
 by_cases e:a=c;·subst e;show Qr W' _ _ _ _ _ (ep h.mx a mix a) (ep h.ff a fifo a);rw [ey,ey];exact q
 show Qr W' _ _ _ _ _ (ep h.mx c mix a) (ep h.ff c fifo a);rw [gj _ _ e,gj _ _ e];have M:=i.wt a p;obtain⟨i1,i2,i3,i4⟩:=i.ap.iq c a v p (λf=>e f.symm);obtain⟨j1,j2,j3,j4⟩:=i.ap.iq a c p v e;obtain⟨ps,o,S,N,⟨x,X,_⟩,_⟩:=M.qu;refine M.but b (T _ _ _ _ M.mx.1 av) ?_ ?_ ?_
 ·intro n;rcases n with e|e|e;·exact i1 e.symm
  ·obtain⟨xx,u,_⟩:=M.mx.2;rw [e,j] at u;cases u
  exact j2 e
 ·intro n;rcases n with e|e|e;·rw [e,z] at N;cases N
  ·exact i4 e.symm
  rw [e,m] at N;cases N
 intro n;rcases n with e|e|e;·exact i2 e.symm
 ·rw [e,j] at X;cases X
 exact i3 e.symm
theorem CY (cf y d u) (c k:Nat) (e:c<12) (f:k<3):boxF cf y d u (79+c*3+k)=Ei cf y c k:=by
 unfold boxF;rw [Gu Z,Gu Z,Gv Z];have a:(79+c*3+k-79)/3=c:=Z;have b:(79+c*3+k-79)%3=k:=Z;rw [a,b]
theorem Hp.qAt {y d} (a:Hp B y d cf h W) (c:Nat) (b:c<12):W.cell? ⟨y.P,79+c*3+2,none⟩=some (if cf.mix=0 then .iface 82 (J (y.qg c) 0) else .iface 81 (J (y.qm c) 0)):=by
 refine a.cell _ Z _ ?_;rw [CY cf y d h.used c 2 b Z];rfl
def Ep (B:Nat) (y:Ly) (d:Dy) (cf:Cf) (h:Hs) (c:Nat) (x i:Int) (W:World) (e:Ending) (W':World):Prop:=e=.returned (I (er cf.fifo (h.mx c) (h.ff c) x i).2.2)/\Hp B y d cf { h with mx:=ep h.mx c (er cf.fifo (h.mx c) (h.ff c) x i).1,ff:=ep h.ff c (er cf.fifo (h.mx c) (h.ff c) x i).2.1 } W'/\Bi B W W'
theorem wE (B y d cf h) (c:Nat) (x dd W) (f:Hp B y d cf h W) (a:(h.mx c).length=cf.mix) (i:kZ cf) (g:c<12) (j:cf.mix=0) :
  Calls prog 272 #[J (y.qg c) 0,I x,I dd] W (Ep B y d cf h c x dd W):=by
 refine (BD _ _ _ _ _ _ _ x dd W (f.wt c g) (by have:=i.fifo;omega) (by rw [a];exact j)).mono ?_;rintro e W' ⟨z,rfl,rfl,q,b⟩;exact⟨rfl,f.setQ g q b⟩
theorem xH (B y d cf h) (c:Nat) (x dd W) (f:Hp B y d cf h W) (a:(h.mx c).length=cf.mix) (g:kZ cf) (i:c<12) (j:cf.mix≠0) :
  Calls prog 270 #[J (y.qm c) 0,I x,I dd] W (Ep B y d cf h c x dd W):=by
 refine (CZ _ _ _ _ _ _ _ x dd W (f.wt c i) (λe=>j (by rw [<-a,e];rfl)) (by rw [a];have:=g.mix;omega) (by have:=g.fifo;omega)).mono ?_;rintro e W' ⟨z,rfl,rfl,q,b⟩;exact⟨rfl,f.setQ i q b⟩
end
section
open Go.RowKit Go.Shelf Go.Maps
theorem flat_get {α:Type} (f:α->List Value) (n:Nat) (a:∀ x,(f x).length=n):∀ (l:List α) (k j:Nat) (x:α),l[k]?=some x->j<n->(l.flatMap f)[k*n+j]?=(f x)[j]?
 | [],k,j,x,h,_=>by simp at h
 | y::l,0,j,x,h,b=>by
  simp at h
  subst h
  rw [Ho,Nat.zero_mul,FP,Gh (by rw [a];exact b)]
 | y::l,k+1,j,x,h,b=>by
  rw [Ho,Gn (by rw [a,Gj];omega),a,show (k+1)*n+j-n=k*n+j by rw [Gj];omega]
  exact flat_get f n a l k j x (by simpa using h) b
theorem wB {k:Value} {l:List Aw} {c:List An4} (d:W.ownsRow B 44 4 k l.length (fw l)) (m:l.map (·.1)=c) (A:0<c.length) :
  ∃ G f,k=.slice (some ⟨G,0,none⟩) c.length f/\B<=G/\G<W.heap.size/\∀ j a,c[j]?=some a->∃ v,(a,v)∈l/\W.cell? ⟨G,j*4,none⟩=some (.int .i64 a.code)/\W.cell? ⟨G,j*4+1,none⟩=some (.int .u64 (a.addr:Nat))/\W.cell? ⟨G,j*4+2,none⟩=some (.int .i64 (a.size:Nat))/\W.cell? ⟨G,j*4+3,none⟩=some v:=by
 have e:l.length=c.length:=by rw [<-m,Gf]
 rcases d.2 with ⟨_,n⟩|⟨g,f,q,r,n,o,F,G,K,s⟩;·omega
 ·refine⟨g,f,by rw [r,e],n,ai o,λj a ha=>?_⟩;rw [<-m,Gi] at ha;obtain⟨z,i,rfl⟩:∃ z,l[j]?=some z/\z.1=a:=by
   cases h:l[j]? with
   | none=>rw [h] at ha;cases ha
   | some z=>rw [h] at ha;exact⟨z,rfl,by simpa using ha⟩
  have L:=(Fl.1 i).1;have b:∀ t u,t<4->(aC z)[t]?=some u->W.cell? ⟨g,j*4+t,none⟩=some u:=λt u w x=>by
   rw [Gz _ _ _ _ _ _ o];have y:=flat_get aC 4 (λ_=>rfl) l j t z i w;have p:(fw l)[j*4+t]?=some u:=(by rw [<-x];exact y);rw [<-s,Ge,Gv Z,FY] at p;exact p
  exact⟨z.2,Fz i,b 0 _ Z rfl,b 1 _ Z rfl,b 2 _ Z rfl,b 3 _ Z rfl⟩
theorem An (V:World) (c a:Array Value) (t:TypeId):((V.alloc (.cells c t)).setRow V.heap.size a).heap[V.heap.size]?=some (.cells a t)/\D V ((V.alloc (.cells c t)).setRow V.heap.size a):=by
 refine⟨aw (ao V _) a,?_⟩;have b:=(Fc V.heap.size V).alloc (Fe _) (.cells c t);exact b.grown (al _ V.heap.size a) b.size (λr e=>by cases e;exact Fe _)
theorem nD (l):(cR l).length=l.length*6:=by
 induction l with
 | nil=>rfl
 | cons q l a=>rw [show cR (q::l)=ee q++cR l from rfl,Fo,a,Fx];simp [ee];omega
theorem vq (l r:List dh):cR (l++r)=cR l++cR r:=by unfold cR;rw [Gb]
theorem IK {xs:List dh} (g:W.ownsRow B 42 6 v xs.length (cR xs)) (a:List dh) (G n:Nat)
  (p:∀ k q,a[k]?=some q->∀ j u,(ee q)[j]?=some u->W.cell? ⟨G,k*6+j,none⟩=some u) (z:xs.length+a.length<=1000) (r:B<=W.heap.size) :
  ∃ f b,(Builtin.append_ #[27,27] 27 #[v,.slice (some ⟨G,0,none⟩) a.length n]).run prog W=.ok f b/\b.ownsRow B 42 6 f (xs++a).length (cR (xs++a))/\W.grownBy b v.ownBlock:=by
 obtain⟨s,i,k,l,m⟩:=GI tw;have t:∀ j u,(cR a)[j]?=some u->W.cell? ((⟨G,0,none⟩:Addr).add j)=some u:=λj u c=>by
  have x:(⟨G,0,none⟩:Addr).add j=⟨G,j,none⟩:=by cases j <;> simp [Addr.add]
  have y:=(Fl.1 c).1;rw [nD] at y;obtain⟨q,d⟩:∃ q,a[j/6]?=some q:=⟨_,Fj Z⟩;have e:=flat_get ee 6 (λ_=>rfl) a (j/6) (j%6) q d Z;have o:j/6*6+j%6=j:=Z;rw [o] at e;have:=p (j/6) q d (j%6) u (by rw [<-e];exact c);rw [o] at this;rw [x];exact this
 have e:∀ u∈cR a,u.oneCell'=true:=λu c=>by
  unfold cR at c;obtain⟨q,_,d⟩:=List.mem_flatMap.1 c;simp [ee] at d;rcases d with rfl|rfl|rfl|rfl|rfl|rfl <;> rfl
 obtain⟨f,b,o,x,y,_⟩:=run_append_own_at (P:=prog) (w:=W) B 27 27 42 s _ 6 64 underlying27 i k l m rfl Z _ _ _ g ⟨G,0,none⟩ a.length n (cR a) (nD _) t e (by unfold maxLen;omega) Z r;refine⟨f,b,o,?_,y⟩;rw [Fo,vq];exact x
theorem Od6.bel {q} (h:Od6 B q W) (b:D W W'):Od6 B q W':=⟨h.p,h.a,h.b,by
 rcases h.d.2 with a|⟨g,e,c,f,a,d,i⟩
 ·exact⟨h.d.1,.inl a⟩
 ·exact⟨h.d.1,.inr ⟨g,e,c,f,a,by rw [b.block g (ai d)];exact d,i⟩⟩,h.r,h.y⟩
theorem Od6.ld (B) (p n:Nat) (W) (a:p<18446744073709551616) (b:n<18446744073709551616):Od6 B ⟨⟨5,0,p,n,0,[]⟩,none,0⟩ W :=
 ⟨a,b,show (0:Nat)<18446744073709551616 by decide,⟨rfl,.inl ⟨rfl,rfl⟩⟩,show (-9223372036854775808:Int)<=0 by decide,λy c=>by cases c⟩
end
end Go.Proofs.YtdngbppdomoenaaGreatDoor
