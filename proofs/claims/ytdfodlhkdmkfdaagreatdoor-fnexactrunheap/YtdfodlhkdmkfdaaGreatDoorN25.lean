import Derived.Test.YtdfodlhkdmkfdaaGreatDoorN19
set_option linter.unusedVariables false
set_option linter.unusedSimpArgs false
set_option maxRecDepth 20000
set_option maxHeartbeats 8000000
namespace Go.Proofs.YtdfodlhkdmkfdaaGreatDoor
open Go.Proofs.Tryz
variable {B Q cap g j n:Nat} {W W':World} {u v:Value} {m:Nat->Option (Bool×List Int)} {cf:Cf} {h:Hs} {is l:List Nat}
section
open Go.RowKit Go.Shelf
theorem nx:∀ k,bz (λ_=>none) 0 k=0
 | 0=>rfl
 | k+1=>by simp [bz,nx k]
theorem ui (n bud) (w:World) :
  Calls prog 47 #[I n,I bud] w λe a=>∃ S M,e=.returned (J S 0)/\Im S M 0 n bud (λ_=>none) a/\D w a/\w.heap.size<=S/\w.heap.size<=M/\S≠M:=by
 have b:=@run_makeMap prog;go_enter func47,ntmps47;go_wp2;go_ret;refine⟨w.heap.size+1,w.heap.size,rfl,⟨by rw [<-aA w (.map #[] 0)];exact av _ _,.map [],((World.ownsMap_made w prog 3 eN).alloc _).mono (Jt _),by rw [nx];rfl,λk c=>?_,λk c=>?_⟩,((Jn _ _).alloc (Jo _) _).alloc (by rw [aA];omega) _,Z,Z,Z⟩;·rfl
 rfl
end
section
open Go.RowKit
theorem kP (cf) (o:eL):∀ (l:List eL) (h:Hs) (a:List An4),ch cf (l++[o]) h a=((cW cf (ch cf l h a).1 (ch cf l h a).2 o).2,(ch cf l h a).2++[(cW cf (ch cf l h a).1 (ch cf l h a).2 o).1])
 | [],h,a=>rfl
 | p::l,h,a=>by
  show ch cf (l++[o]) _ _=_
  rw [kP cf o l]
  rfl
theorem j_ (cf):∀ (l:List eL) (h:Hs) (a:List An4),(ch cf l h a).2.length=a.length+l.length
 | [],h,a=>rfl
 | p::l,h,a=>by
  show (ch cf l _ _).2.length=_
  rw [j_ cf l]
  simp
  omega
theorem kf (cf:Cf) (b:1<=cf.fifo):∀ (l:List eL) (h:Hs) (a:List An4) (k:Nat),Inv cf h->Few k h->Inv cf (ch cf l h a).1/\Few (k+l.length) (ch cf l h a).1
 | [],h,a,k,i,f=>⟨i,f⟩
 | p::l,h,a,k,i,f=>by
  obtain⟨c,f1⟩:=i.step b f a p
  have:=kf cf b l _ (a++[(cW cf h a p).1]) (k+1) c f1
  show Inv cf (ch cf l _ _).1/\Few (k+(l.length+1)) (ch cf l _ _).1
  rw [show k+(l.length+1)=k+1+l.length by omega]
  exact this
abbrev Aw:=An4×Value
def aC (y:Aw):List Value:=[I y.1.code,U y.1.addr,I y.1.size,y.2]
def iI (l:List Aw):List Value:=l.flatMap aC
theorem uV (l:List Aw) (y:Aw):iI (l++[y])=iI l++aC y:=by simp [iI]
structure Rs (B Q:Nat) (W:World) (l:List Aw) (v:Value):Prop where
 row:W.ownsRow B 81 4 v l.length (iI l)
 dat:∀ y∈l,W.ownsRow B 5 1 y.2 y.1.data.length (Ns .u8 y.1.data)/\∀ g,y.2.ownBlock=some g->¬fm Q W g
 dis:l.Pairwise λy z=>∀ g,y.2.ownBlock=some g->z.2.ownBlock≠some g
theorem AX {a:Nat} {i:List Value} (h:W.ownsRow a 5 1 v n i) (j:∀ g,v.ownBlock=some g->¬fm Q W g) (k:Bk B Q W W'):W'.ownsRow a 5 1 v n i/\∀ g,v.ownBlock=some g->¬fm Q W' g:=by
 refine⟨⟨h.1,?_⟩,λg l e=>?_⟩
 ·rcases h.2 with c|⟨f,cap,b,rfl,d,c,m⟩;·exact .inl c
  exact .inr ⟨f,cap,b,rfl,d,k.by5 f b _ c (j f rfl),m⟩
 rcases k.pg g e with d|d;·exact j g l d
 obtain⟨_,c,b⟩:=aD h l;have:=ah b;omega
theorem Rs.bk {C l} (r:Rs C Q W l v) (k:Bk B Q W W'):Rs C Q W' l v :=
 ⟨ai r.row k.ky (eO al),λy a=>AX (r.dat y a).1 (r.dat y a).2 k,r.dis⟩
theorem Cm:(prog.info? 81).map (λi=>(i.zero,i.size,i.bytes))=some (some (.agg #[I 0,U 0,I 0,C]),4,48):=E
theorem qE (W:World) (B:Nat) (v:Value) (l:List Aw) (y) (g:Nat) (c) (a:W.ownsRow B 81 4 v l.length (iI l)) (o:W.heap[g]?=some (.cells (aC y).toArray 81)) (p:y.2.oneCell'=true) (A:l.length<=1000) (q:B<=W.heap.size) :
  ∃ d b,(Builtin.append_ #[29,29] 29 #[v,Vl g 1 c]).run prog W=.ok d b/\b.ownsRow B 81 4 d (l++[y]).length (iI (l++[y]))/\W.grownBy b v.ownBlock:=by
 obtain⟨r,e,f,i,k⟩:=zr Cm;have m:∀ j u,(aC y)[j]?=some u->W.cell? ((⟨g,0,none⟩:Addr).add j)=some u:=λj u s=>by
  rw [Addr.add_mid,JQ,t6 _ _ j _ _ _ o];simpa using s
 have t:∀ u∈aC y,u.oneCell'=true:=λu n=>by
  simp only [aC,JG,Kf,or_false] at n;rcases n with rfl|rfl|rfl|rfl;·rfl
  ·rfl
  ·rfl
  exact p
 obtain⟨d,b,w,x,z,_⟩:=Kg (P:=prog) W B 29 29 81 r _ 4 48 underlying29 e f i k rfl Z v _ _ a ⟨g,0,none⟩ 1 c (aC y) rfl m t (by unfold maxLen;omega) Z q;exact⟨d,b,w,by rw [uV,Jv];exact x,z⟩
theorem Bk.ofAns {f:Array Value} {i:Nat×Nat} {j:List Value} (d:W.ownsRow B 81 4 v n j) (e:W.heap[Q]?=some (.cells f 164 i)) (g:W.grownBy W' v.ownBlock):Ky (· = 81) W W'/\(∀ g,fm Q W' g->fm Q W g)/\∀ (a:Nat),a<=B->a<=W.heap.size->Below a W W':=by
 have k:Ky (· = 81) W W':=Ky.grownO (λP b=>by obtain ⟨_,c,l⟩:=aD d b;exact⟨c,81,_,l,rfl⟩) g;refine⟨k,λp c=>di (k.cells _ _ _ _ e al |>.trans e.symm) c,λa l m=>(Jn a W).grown g m (λP b=>Jp l (aD d b).1)⟩
def jr (an:List An4) (o:eL):Option Nat :=
 if o.ref=0 then some o.p
 else if o.ref<0\/(an.length:Int)<o.ref then none
 else some ((o.p+((an[o.ref.toNat-1]?.map An4.addr).getD 0))%18446744073709551616)
theorem wW (cf h an o):cW cf h an o=match jr an o with
  | some p=>dP cf h o p
  | none=>(.no 6,h):=by
 unfold cW jr
 by_cases a:o.ref=0
 ·rw [tm a,tm a]
 rw [tg a,tg a]
 by_cases b:o.ref<0\/(an.length:Int)<o.ref
 ·rw [tm b,tm b]
 rw [tg b,tg b]
structure zA (B:Nat) (W:World) (l:List Aw) (v:Value):Prop where
 row:W.ownsRow B 81 4 v l.length (iI l)
 len:l.length<=300
def Hm (W:World) (r:Option Nat) (e:Ending) (W':World):Prop:=D W W'/\((∃ p,r=some p/\e=.returned (U p))\/(r=none/\e=.panicked (iG 6)))
theorem wN (B) (P:Nat) (o:eL) (z:Option Addr) (A F:Nat) (l) (s:Option Addr) (d k:Nat) (W:World) (b:W.cell? ⟨P,119,none⟩=some (.slice s d k)) (f:zA B W l (.slice s d k)) (ho:o.p<18446744073709551616) (Q : -9223372036854775808<=o.ref) :
  Calls prog 53 #[J P 0,.agg #[I o.kd,I o.ref,U o.p,U o.a,U o.b,.slice z A F]] W (Hm W (jr (l.map (·.1)) o)):=by
 have g:d=l.length:=by
  obtain⟨a,c,e⟩:=aG f.row;injection e with _ i _
 have G:=f.len;obtain⟨V,i⟩:∃ V,V=W.alloc (.cells #[I o.kd,I o.ref,U o.p,U o.a,U o.b,.slice z A F] 61):=⟨_,rfl⟩;have a:D W V:=by rw [i];exact (Jn _ _).alloc (Jo _) _
 have X:=(show V.heap[W.heap.size]?=some (.cells #[I o.kd,I o.ref,U o.p,U o.a,U o.b,.slice z A F] 61) by rw [i];exact av W _);have m:V.cell? ⟨W.heap.size,1,none⟩=some (I o.ref):=aM X;have t:V.cell? ⟨W.heap.size,2,none⟩=some (U o.p):=aM X;have u:=ol a b;have n:=H (ay f.row a);have y:=H a;clear b f X a;by_cases b:o.ref=0
 ·have p:=H (show jr (l.map (·.1)) o=some o.p by unfold jr;rw [tm b]);have R:(o.ref==0)=true:=by simpa using b
  clear u n b;generalize o.ref=e at *;go_enter func53,ntmps53;go_upto_region 1 with fail
  refine Eq.mp (congrArg _ i) ?_;clear i;generalize W.heap.size=X at m t ⊢;go_wp2;go_ret;rw [p.out];exact⟨y,.inl ⟨_,rfl,rfl⟩⟩
 have R:(o.ref==0)=false:=by simpa using b
 by_cases v:o.ref<0
 ·have p:=H (show jr (l.map (·.1)) o=none by unfold jr;rw [tg b,tm (.inl v)]);clear n b;generalize o.ref=e at *;go_enter func53,ntmps53;go_upto_region 1 with fail
  refine Eq.mp (congrArg _ i) ?_;clear i;generalize W.heap.size=X at m t ⊢;go_upto_region 3 with fail
  refine rh (S:=λf=>f.cell? ⟨X,1,none⟩=some (I e)/\f.cell? ⟨P,119,none⟩=some (.slice s d k)) ?_;have a:=LG (show V.drew.cell? _=_ from m) (show V.drew.cell? _=_ from u);refine pk 0 (J X 1) a ?_;refine pz 1 (I (e)) a ?_;refine pz 2 (.bool true) a ?_;refine pk 3 (.bool true) a ?_;refine ps 4 a ?_;refine ps 5 a ?_;refine ps 6 a ?_;refine ps 7 a ?_;refine ps 8 a ?_;refine ps 9 a ?_;refine ps 10 a ?_;refine ps 11 a ?_;refine pz 12 (.bool true) a ?_;refine bY ?_;clear a;go_wp2;rw [p.out];exact⟨rfl,y.drew,.inr ⟨rfl,rfl⟩⟩
 by_cases r:(l.length:Int)<o.ref
 ·have p:=H (show jr (l.map (·.1)) o=none by unfold jr;rw [tg b,tm (.inr (by simpa using r))]);clear n b;rw [<-g] at r;generalize o.ref=e at *;go_enter func53,ntmps53;go_upto_region 1 with fail
  refine Eq.mp (congrArg _ i) ?_;clear i;generalize W.heap.size=X at m t ⊢;go_upto_region 3 with fail
  refine rh (S:=λf=>f.cell? ⟨X,1,none⟩=some (I e)/\f.cell? ⟨P,119,none⟩=some (.slice s d k)) ?_;have a:=LG (show V.drew.cell? _=_ from m) (show V.drew.cell? _=_ from u);refine pk 0 (J X 1) a ?_;refine pz 1 (I (e)) a ?_;refine pz 2 (.bool false) a ?_;refine pk 3 (.bool false) a ?_;refine pk 4 (J X 1) a ?_;refine pz 5 (I (e)) a ?_;refine pk 6 (J P 0) a ?_;refine pk 7 (J P 0) a ?_;refine pk 8 (J P 119) a ?_;refine pz 9 (.slice s d k) a ?_;refine pz 10 (I d) a ?_;refine pz 11 (.bool true) a ?_;refine pz 12 (.bool true) a ?_;refine bY ?_;clear a;go_wp2;rw [p.out];exact⟨rfl,y.drew,.inr ⟨rfl,rfl⟩⟩
 obtain⟨c,K⟩:∃ c:Nat,o.ref=(c:Int)+1:=⟨(o.ref-1).toNat,Z⟩;have w:c<l.length:=Z;obtain⟨q,L⟩:∃ q,l[c]?=some q:=⟨_,Jq w⟩;obtain⟨j,M⟩:∃ j,s=some ⟨j,0,none⟩:=by
  rw [g] at n;exact cw n Z
 subst M;have T:V.cell? ⟨j,c*4+1,none⟩=some (U q.1.addr):=by
  have:=n.out;rw [g] at this;exact be this (c*4+1) _ (eY aC 4 (λ_=>rfl) l c q L 1 Z)
 have p:=H (show jr (l.map (·.1)) o=some ((o.p+q.1.addr)%18446744073709551616) by
  unfold jr;rw [tg b,tg cd];have x:o.ref.toNat-1=c:=Z;rw [x,J6,L];rfl)
 have x:(o.ref-1)=(c:Int):=Z;have Y:IntKind.i64.wrap (o.ref-1)=(c:Int):=by rw [x];rw [C6];omega
 have O:(c:Int)<(d:Int):=Z;have N:=H (show IntKind.u64.wrap ((o.p:Int)+(q.1.addr:Int))=(((o.p+q.1.addr)%18446744073709551616:Nat):Int) by rw [eW];simp);rw [<-g] at r;clear b L K n w g G x;generalize q.1.addr=b at *;generalize o.ref=e at *;go_enter func53,ntmps53;go_upto_region 1 with fail
 refine Eq.mp (congrArg _ i) ?_;clear i;generalize W.heap.size=X at m t ⊢;go_upto_region 3 with fail
 refine rh (S:=λf=>f.cell? ⟨X,1,none⟩=some (I e)/\f.cell? ⟨P,119,none⟩=some (Vl j d k)) ?_;have a:=LG (show V.drew.cell? _=_ from m) (show V.drew.cell? _=_ from u);refine pk 0 (J X 1) a ?_;refine pz 1 (I (e)) a ?_;refine pz 2 (.bool false) a ?_;refine pk 3 (.bool false) a ?_;refine pk 4 (J X 1) a ?_;refine pz 5 (I (e)) a ?_;refine pk 6 (J P 0) a ?_;refine pk 7 (J P 0) a ?_;refine pk 8 (J P 119) a ?_;refine pz 9 (Vl j d k) a ?_;refine pz 10 (I d) a ?_;refine pz 11 (.bool false) a ?_;refine pz 12 (.bool false) a ?_;refine bY ?_;clear a;go_upto_region 5 with fail
 refine rh (S:=λf=>f.cell? ⟨X,1,none⟩=some (I e)/\f.cell? ⟨X,2,none⟩=some (U o.p)/\f.cell? ⟨P,119,none⟩=some (Vl j d k)/\f.cell? ⟨j,c*4+1,none⟩=some (U b)) ?_;have a:=LG (show V.drew.drew.cell? _=_ from m) (LG (show V.drew.drew.cell? _=_ from t) (LG (show V.drew.drew.cell? _=_ from u) (show V.drew.drew.cell? _=_ from T)));refine pk 0 (J X 2) a ?_;refine pz 1 (U o.p) a ?_;refine pk 2 (J P 0) a ?_;refine pk 3 (J P 0) a ?_;refine pk 4 (J P 119) a ?_;refine pz 5 (Vl j d k) a ?_;refine pk 6 (J X 1) a ?_;refine pz 7 (I e) a ?_;refine pz 8 (I c) a ?_;refine pz 9 (J j (c*4)) a ?_;refine pk 10 (J j (c*4+1)) a ?_;refine pz 11 (U b) a ?_;refine pz 12 (U (IntKind.u64.wrap ((o.p:Int)+(b:Int)))) a ?_;refine pk 13 (U (IntKind.u64.wrap ((o.p:Int)+(b:Int)))) a ?_;refine bY ?_;clear a;go_wp2;go_ret;rw [p.out];exact⟨y.drew.drew,.inl ⟨_,rfl,by rw [<-N.out];rfl⟩⟩
def Byt (m:Nat->Option (Bool×List Int)):Prop:=∀ k q,m k=some q->∀ x∈q.2,0<=x/\x<=255
def okB (ys:List Int):Prop:=∀ y∈ys,0<=y/\y<=255
theorem okB.get {ys} (h:okB ys) (i:Nat):0<=ys[i]?.getD 0/\ys[i]?.getD 0<=255:=by
 cases e:ys[i]? with
 | none=>simp
 | some y=>exact h y (JA e)
theorem Byt.put (h:Byt m) (p) {x:Int} (d:0<=x/\x<=255):Byt (eu m p x):=by
 intro k q a;unfold eu at a;by_cases e:k=p/1024
 ·subst e;rw [bZ] at a;cases b:m (p/1024) with
  | none=>rw [b] at a;cases a
  | some r =>
   rw [b] at a;simp at a;subst a;intro z f;rcases List.mem_or_eq_of_mem_set f with c|c;·exact h _ _ b z c
   rw [c];exact d
 rw [aW _ _ _ _ e] at a;exact h k q a
theorem Byt.store {m} (h:Byt m) (a) {ys} (b:okB ys):∀ k,Byt (ax m a ys k)
 | 0=>h
 | k+1=>(Byt.store h a b k).put _ (b.get k)
theorem Byt.fresh (h:Byt m) (p k:Nat):Byt (aT m p k):=by
 intro j q a;rw [c_] at a;split at a
 ·injection a with a;subst a;intro x b;rw [List.eq_of_mem_replicate b];omega
 exact h j q a
theorem Byt.gone (h:Byt m) (p k:Nat):Byt (bQ m p k):=by
 intro j q a;rw [ep] at a;split at a;·cases a
 exact h j q a
theorem Byt.at (h:Byt m) (p):0<=bN m p/\bN m p<=255:=by
 unfold bN;cases a:m (p/1024) with
 | none=>simp
 | some q =>
  simp only [DC,H4];exact okB.get (λy b=>h _ _ a y b) _
theorem Byt.load (h:Byt m) (a n):okB (aI m a n):=by
 intro y b;unfold aI at b;simp only [JE] at b;obtain⟨i,_,rfl⟩:=b;exact h.at _
theorem wo (cf a):okB (can cf a):=by
 intro y b;unfold can gO at b;simp only [JE] at b;obtain⟨i,_,rfl⟩:=b;split;·omega
 have:=Hl (cx cf.key (a:Int)) i;omega
theorem zK (n:Nat):okB (List.replicate n 0):=λy a=>by rw [List.eq_of_mem_replicate a];omega
theorem wD {a:Hs} {c s:Nat} (e:dw cf h c=some (s,a)):a.m=h.m\/a.m=aT h.m (aF c s) (dQ c):=by
 unfold dw at e;split at e;·injection e with e;injection e with d b;subst b;exact .inl rfl
 split at e;·cases e
 split at e;·cases e
 injection e with e;injection e with d b;subst d;subst b;exact .inr rfl
theorem Byt.small {cf c} : ∀ (f:Nat) {h:Hs},Byt h.m->Byt (cy cf c f h).2.m
 | 0,h,b=>b
 | f+1,h,b=>by
  unfold cy
  cases e:dw cf h c with
  | none=>exact b
  | some q =>
   obtain⟨s,a⟩:=q
   have d:Byt a.m:=by rcases wD e with g|g <;> rw [g];exact b;exact b.fresh _ _
   dsimp only
   split
   ·exact d
   exact Byt.small f (h:={ a with used:=a.used+1,st:=_ }) d
theorem Byt.malloc (b:Byt h.m) (a):Byt (az cf h a).2.m:=by
 unfold az;split
 ·have d:=Byt.small (cf:=cf) (c:=gN a) 2000 b;cases e:cy cf (gN a) 2000 h with
  | mk o f =>
   rw [e] at d;cases o with
   | none=>exact d
   | some q =>
    obtain⟨s,j⟩:=q;exact d.store _ (wo cf _) 8
 dsimp only;split;·exact b
 split;·exact b
 split;·exact b
 exact b.fresh _ _
theorem Byt.release (b:Byt h.m) (c s j):Byt (cV h c s j).m:=by
 unfold cV;dsimp only;split;·exact b.gone _ _
 exact b
theorem Byt.freeS (b:Byt h.m) (c s j):Byt (bH cf h c s j).m:=by
 unfold bH;dsimp only;have a:=b.store (bF c s j) (zK (cR c)) (cR c);split
 ·split;·exact a
  exact Byt.release (h:={ m:=_,st:=_,rq:=_,mx:=_,ff:=_,rg:=_,row:=_,rel:=_,used:=_ }) a _ _ _
 split;·exact a
 exact Byt.release (h:={ m:=_,st:=_,rq:=_,mx:=_,ff:=_,rg:=_,row:=_,rel:=_,used:=_ }) a _ _ _
theorem Byt.freeR (b:Byt h.m) (r):Byt (aZ cf h r).m:=by
 unfold aZ;dsimp only;split;·exact b.gone _ _
 exact b.gone _ _
theorem Byt.free (b:Byt h.m) (f:Fd):Byt (eM cf h f).m:=by
 cases f with
 | slot c s j=>exact b.freeS c s j
 | range r=>exact b.freeR r
 | no _=>exact b
theorem Byt.realloc (b:Byt h.m) (p a):Byt (cF cf h p a).2.m:=by
 have f:=b.malloc (cf:=cf) a;have g:∀ d:Nat,Byt ((match az cf h a with
   | (none,c)=>((An4.no 1,c):An4×Hs)
   | (some q,c)=>(⟨0,q,0,[]⟩,eM cf { c with m:=cN c.m p q (min d a) } (aP { c with m:=cN c.m p q (min d a) } p))).2.m):=λd=>by
  cases e:az cf h a with
  | mk o c =>
   rw [e] at f;cases o with
   | none=>exact f
   | some q=>exact Byt.free (h:={ c with m:=cN c.m p q (min d a) }) (Byt.store f _ (Byt.load f _ _) _) _
 unfold cF;dsimp only;split
 ·cases e:az cf h a with
  | mk o c =>
   rw [e] at f;cases o with
   | none=>exact f
   | some q=>exact f
 split;·exact b
 ·split;·exact b
  split;·exact b
  exact g _
 split;·exact b
 exact g _
theorem Byt.do (b:Byt h.m) (o:eL) (p) (f:okB o.ys):Byt (dP cf h o p).2.m:=by
 have d:∀ n:Nat,Byt ((match az cf h n with
   | (none,a)=>((An4.no 1,a):An4×Hs)
   | (some q,a)=>(⟨0,q,0,[]⟩,a)).2.m):=λn=>by
  have c:=b.malloc (cf:=cf) n
  cases e:az cf h n with
  | mk o a =>
   rw [e] at c;cases o with
   | none=>exact c
   | some q=>exact c
 unfold dP;dsimp only;split;·exact d _
 split
 ·split;·exact b
  exact d _
 split;·exact b.realloc _ _
 split
 ·split;·exact b
  ·split;·exact b
   exact b.freeS _ _ _
  exact b.freeR _
 split;·split <;> exact b
 split;·split <;> exact b
 split
 ·dsimp only;split;·exact b.store _ f _
  exact b
 exact b
theorem Byt.step (b:Byt h.m) (an) (o:eL) (a:okB o.ys):Byt (cW cf h an o).2.m:=by
 unfold cW;split;·exact b.do o _ a
 split;·exact b
 exact b.do o _ a
theorem Byt.new (cf):Byt (bC cf).m:=λk q a=>by simp [bC] at a
end
section
open Go.RowKit Go.Maps
def lJ (data:List Int):ByteArray:=data.foldl (λr n=>r.push (UInt8.ofNat n.toNat)) ByteArray.empty
theorem rP:∀ (l:List Int) (r:ByteArray),(l.foldl (λr n=>r.push (UInt8.ofNat n.toNat)) r).data.toList=r.data.toList++l.map (λn=>UInt8.ofNat n.toNat)
 | [],r=>by simp
 | x::l,r=>by
  rw [List.foldl_cons,rP l]
  simp [ByteArray.push]
theorem xC (l):(lJ l).data.toList=l.map (λn=>UInt8.ofNat n.toNat):=by
 unfold lJ;rw [rP];rfl
theorem xV {a b:ByteArray} (h:a.toList=b.toList):a=b:=by
 rw [Go.ByteArray.toList_eq,Go.ByteArray.toList_eq] at h;cases a;cases b;simp at h;exact congrArg ByteArray.mk h
theorem zk {a b} (ha:okB a) (i:okB b) (h:lJ a=lJ b):a=b:=by
 have e:=congrArg (λs:ByteArray=>s.data.toList) h;simp only [xC] at e;have c:∀ (a b:List Int),okB a->okB b->a.map (λn=>UInt8.ofNat n.toNat)=b.map (λn=>UInt8.ofNat n.toNat)->a=b:=by
  intro a;induction a with
  | nil=>intro b _ _ e;cases b with
   | nil=>rfl
   | cons y r=>simp at e
  | cons x l j =>
   intro b f g e;cases b with
   | nil=>simp at e
   | cons y r =>
    simp only [KV,List.cons.injEq] at e;have m:=f x bh;have o:=g y bh;have k:=congrArg UInt8.toNat e.1;rw [UInt8.toNat_ofNat',UInt8.toNat_ofNat',Jx Z,Jx Z] at k;rw [j r (λz d=>f z (by simp [d])) (λz d=>g z (by simp [d])) e.2];congr 1;omega
 exact c a b ha i e
def Bs (w:World) (u:Value) (data:List Int):Prop:=∃ a c,u=.slice a data.length c/\∀ i,i<data.length->∃ g,a=some ⟨g,0,none⟩/\w.cell? ⟨g,i,none⟩=some (.int .u8 (data[i]?.getD 0))
theorem Bs.below {w data} (h:Bs w u data) (b:D w W):Bs W u data:=by
 obtain⟨a,c,e,d⟩:=h;exact⟨a,c,e,λi f=>by obtain ⟨g,j,k⟩:=d i f;exact⟨g,j,ol b k⟩⟩
theorem uK {l:List Int} (h:W.ownsRow B 5 1 u l.length (Ns .u8 l)):Bs W u l:=by
 obtain⟨a,c,e⟩:=aG h;subst e;refine⟨a,c,rfl,λi b=>?_⟩;obtain⟨g,d⟩:=cw h Z;subst d;exact⟨g,rfl,be h i _ (by simp [Ns,b])⟩
theorem DW {l:List Int} (h:RowV W g 5 (Ns .u8 l)) (a:l.length=n):Bs W (Vl g n n) l:=by
 subst a;exact⟨_,_,rfl,λi b=>⟨g,rfl,dR h i b⟩⟩
theorem vz {w data} (h:Bs w u data):(convert 52 9 u).run prog w=.ok (.string (lJ data)) w:=by
 obtain⟨a,c,rfl,d⟩:=h;rw [run_convert_bytes_string w 52 9 5 a data.length c underlying52 underlying5 underlying9];cases a with
 | none =>
  have:data=[]:=by
   cases data with
   | nil=>rfl
   | cons x r=>obtain ⟨g,e,_⟩:=d 0 bh;cases e
  subst this;unfold Conv.bytesToString;simp [lJ,Sem.run_pure]
 | some p =>
  refine run_bytesToString w p data.length c data ?_;have:=run_loadCells_list (P:=prog) w p (data.map (Value.int .u8)) (λj v f=>by
   have b:=(Jr.1 f).1;simp at b;obtain⟨g,e,i⟩:=d j b;cases e;rw [Addr.add_mid,JQ,i,<-f];simp [b])
  simpa using this
theorem Ak (u1 u2 d1 d2 w) (a:Bs w u1 d1) (b:Bs w u2 d2) (c:okB d1) (d:okB d2) :
  Calls prog 111 #[u1,u2] w λe f=>e=.returned (.bool (d1==d2))/\f=w:=by
 have i:=vz a;have j:=vz b;have g:=H (show ((lJ d1).toList==(lJ d2).toList)=(d1==d2) by
  by_cases e:d1=d2;·subst e;simp
  have:(lJ d1).toList≠(lJ d2).toList:=λh=>e (zk c d (xV h))
  rw [beq_eq_false_iff_ne.2 this,beq_eq_false_iff_ne.2 e])
 generalize lJ d1=k at *;generalize lJ d2=l at *;clear a b;go_enter func111,ntmps111;go_wp2;go_ret;rw [<-g.out];exact⟨rfl,rfl⟩
theorem yG {l:List Int} (h:∀ j,j<l.length->l[j]?.getD 0<=0) (e:okB l):l.all (· == 0)=true:=by
 rw [List.all_eq_true];intro x b;obtain⟨j,c⟩:=BR b;have a:=(Jr.1 c).1;have d:=h j a;rw [c] at d;have f:=e x b;simp at d ⊢;omega
theorem qK {l:List Int} (a:j<l.length) (h:0<l[j]?.getD 0):l.all (· == 0)=false:=by
 cases e:l.all (· == 0) with
 | false=>rfl
 | true =>
  exfalso;rw [List.all_eq_true] at e;have b:l[j]?.getD 0∈l:=by rw [Jq a];exact K6 _
  have:=e _ b;rw [beq_iff_eq] at this;omega
theorem Fa (u data W) (h:Bs W u data) (d:okB data) (s:0<data.length) (A:data.length<=100000) :
  Calls prog 159 #[u] W λe W'=>∃ M:Int,e=.returned (.int .u8 M)/\decide (0<M) = !(data.all (· == 0))/\W'=W:=by
 obtain⟨a,Q,rfl,f⟩:=h;obtain⟨g,rfl,B⟩:=f 0 s;have t:=H (show ∀ i,i<data.length->W.cell? ⟨g,i,none⟩=some (.int .u8 (data[i]?.getD 0)) from λi a=>by
  obtain⟨k,b,c⟩:=f i a;cases b;exact c)
 have R:=H d;have v:=H (λi=>d.get i);have w:=H (λb=>yG (l:=data) b d);have y:=H (λj c b=>qK (l:=data) (j:=j) c b);clear f d;obtain⟨n,d⟩:∃ n,data.length=n:=⟨_,rfl⟩;rw [d] at t w y s A ⊢;clear d;have F:=v.out 0;generalize d:data[0]?.getD 0=G at *;have f:=H d;clear d;have z:¬((n:Int)<1):=Z;go_enter func159,ntmps159;go_wp2;go_loopw [3,4] (λm i wr=>∃ (k:Nat) (M:Int),k<=n/\1<=k/\i=I k/\m=.int .u8 M/\wr=W/\Hid (0<=M/\M<=255)/\Hid ((0<M->∃ j,j<k/\0<data[j]?.getD 0)/\(M<=0->∀ j,j<k->data[j]?.getD 0<=0))) (λ_ i _=>n-(intOf i).toNat)
 case atStart=>exact ⟨1,G,Z,Jo _,rfl,rfl,rfl,H F,H ⟨λh=>⟨0,Z,by rw [f.out];exact h⟩,λh j c=>by
  obtain rfl:j=0:=Z;rw [f.out];exact h⟩⟩
 case round =>
  obtain⟨k,M,S,K,rfl,rfl,rfl,L,o⟩:=hrel;by_cases q:k<n
  ·have N:=t.out k q;have gk:=v.out k;generalize d:data[k]?.getD 0=x at *;have r:=H d;clear d;by_cases O:M<=x
   ·have p:max M x=x:=Z;go_wp2;go_roundw
    case rel=>exact ⟨k+1,x,Z,Z,aR,by congr 1;split <;> omega,trivial,H gk,H ⟨λb=>⟨k,Z,by rw [r.out];exact b⟩,λb j c=>by
     rcases Nat.lt_succ_iff_lt_or_eq.1 c with d|d;·exact o.2 Z j d
     subst d;rw [r.out];exact b⟩⟩
    case measure=>simp [intOf];omega
   have p:max M x=M:=Z;go_wp2;go_roundw
   case rel=>exact ⟨k+1,M,Z,Z,aR,by congr 1;split <;> omega,trivial,L,H ⟨λb=>by
    obtain⟨j,c,P⟩:=o.1 b;exact⟨j,Z,P⟩,λb j c=>by
    rcases Nat.lt_succ_iff_lt_or_eq.1 c with d|d;·exact o.2 b j d
    subst d;rw [r.out];omega⟩⟩
   case measure=>simp [intOf];omega
  obtain rfl:k=n:=Z;go_wp2;go_ret;refine⟨M,rfl,?_,rfl⟩;by_cases d:0<M;·obtain⟨j,c,b⟩:=o.1 d;rw [y.out j c b];simpa using d
  rw [w.out (o.2 Z)];simpa using d
def oC (r:Rg9) (x:Nat):Bool:=decide (r.first<=x/1024)&&decide (x/1024<r.first+r.ext)
theorem qO (B:Nat) (L r) (v:Option Addr) (w y:Nat) (l:List Nat) (W:World) (h:W.ownsRow B 22 1 (.slice v w y) l.length (Us l)) (F:l.length<=100000) (f:∀ x∈l,x<18446744073709551616) (b:Lc L r W) :
  Calls prog 194 #[.slice v w y,.func (.func 167) #[J L 0] #[]] W λe W'=>D W W'/\((e=.returned (I (-1))/\∀ x∈l,oC r x=false)\/∃ k:Nat,k<l.length/\e=.returned (I k)/\oC r (l[k]?.getD 0)=true/\∀ j,j<k->oC r (l[j]?.getD 0)=false):=by
 obtain⟨rfl,c⟩:=mF h;have G:=H c;have K:=H (λV (d:D W V) x (a:x<18446744073709551616)=>oM L x r V (b.below d) a);have M:=H f;clear c h f b;obtain⟨n,a⟩:∃ n,l.length=n:=⟨_,rfl⟩;rw [a] at F ⊢;have p:=H a;clear a;go_enter func194,ntmps194;go_wp2;go_loopw [8] (λi wr=>∃ k:Nat,k<=n/\i=I k/\Hid (D W wr)/\Hid (∀ j,j<k->oC r (l[j]?.getD 0)=false)) (λi _=>n-(intOf i).toNat);case atStart=>exact ⟨0,Jt _,rfl,H (Jn _ _),H (λj c=>Z)⟩
 case round =>
  obtain⟨k,N,rfl,d,m⟩:=hrel;by_cases b:k<n
  ·obtain⟨g,rfl,a⟩:=G.out k (by rw [p.out];exact b);have o:=ol d a;have s:l[k]?.getD 0<18446744073709551616:=M.out _ (by rw [Jq (by rw [p.out];exact b)];exact K6 _);clear a;generalize a:l[k]?.getD 0=q at *;have z:=H a;clear a;have a:=H (K wr d q s);rw [show (decide (r.first<=q/1024)&&decide (q/1024<r.first+r.ext))=oC r q from rfl] at a;go_wp2_with fail;refine (a).mono ?_;rintro e V ⟨rfl,t⟩;have A:=H (d.trans (t.mono d.size));clear t a;cases a:oC r q with
   | true =>
    go_wp2;go_ret;exact⟨A,.inr ⟨k,b,rfl,by rw [z.out];exact a,m⟩⟩
   | false =>
    have t:=H (show ∀ j,j<k+1->oC r (l[j]?.getD 0)=false from λj c=>by
     rcases Nat.lt_succ_iff_lt_or_eq.1 c with u|u;·exact m j u
     subst u;rw [z.out];exact a)
    clear m;go_wp2;go_roundw;(case rel=>exact ⟨k+1,Z,aR,A,t⟩);case measure=>simp [intOf];omega
  obtain rfl:k=n:=Z;go_wp2;go_ret;refine⟨d,.inl ⟨rfl,λx f=>?_⟩⟩;obtain⟨j,c⟩:=BR f;have a:=(Jr.1 c).1;have:=m.out j (by rw [<-p.out];exact a);rw [c] at this;exact this
def bU (r:Rg9) (l:List Nat) (j:Nat):List Nat:=(l.take j).filter λx => !oC r x
theorem ju (r) (l:List Nat) (j:Nat) (h:j<l.length):bU r l (j+1)=bU r l j++(if oC r (l[j]?.getD 0) then [] else [l[j]?.getD 0]):=by
 unfold bU;rw [JK,FV,Jq h];congr 1;simp only [Lx,H4,List.filter_cons,List.filter_nil];cases oC r l[j] <;> rfl
theorem lD (r) (l:List Nat) (k:Nat) (d:k<=l.length) (h:∀ j,j<k->oC r (l[j]?.getD 0)=false):bU r l k=l.take k:=by
 unfold bU;rw [KE];intro x c;obtain⟨j,a⟩:=BR c;have b:=(Jr.1 a).1;rw [F9] at b;rw [Ce Z] at a;have:=h j Z;rw [a] at this;simp at this;rw [this];rfl
theorem pB (r l j):(bU r l j).length<=j:=by
 unfold bU;have:=A1 (λx => !oC r x) (l.take j);rw [F9] at this;omega
theorem yz (r) (l:List Nat) (k j:Nat) (c:k<j) (d:j<=l.length) (a:oC r (l[k]?.getD 0)=true):(bU r l j).length<j:=by
 induction j with
 | zero=>omega
 | succ j b =>
  rw [ju r l j Z,Jv];have f:=pB r l j;by_cases e:k=j;·subst e;rw [tm a];simp;omega
  have:=b Z Z;split <;> simp <;> omega
structure Ct (g cap n:Nat) (l:List Nat) (is:List Nat) (j:Nat) (W:World):Prop where
 row:∃ c,W.heap[g]?=some (.cells c 22)/\c.size=cap/\(∀ q,q<is.length->c[q]?=some (U ((is[q]?.getD 0:Nat):Int)))/\∀ q,j<=q->q<n->c[q]?=some (U ((l[q]?.getD 0:Nat):Int))
theorem Ct.cell {g cap n l is j W} (h:Ct g cap n l is j W) {q:Nat} (a:j<=q) (b:q<n):W.cell? ⟨g,q,none⟩=some (U ((l[q]?.getD 0:Nat):Int)):=by
 obtain⟨c,d,f,i,e⟩:=h.row;rw [t6 _ _ _ _ _ _ d];exact e q a b
theorem Ct.free (h:Ct g cap n l is j W) (q:Nat):W.frozen? ⟨g,q,none⟩=false:=by
 obtain⟨c,a,_⟩:=h.row;simp [World.frozen?,a]
theorem Ct.anyC (h:Ct g cap n l is j W) {q:Nat} (b:q<cap):∃ v,W.cell? ⟨g,q,none⟩=some v:=by
 obtain⟨c,a,d,_⟩:=h.row;rw [t6 _ _ _ _ _ _ a];exact⟨_,IS Z⟩
theorem Ct.same (h:Ct g cap n l is j W) (e:W'.heap[g]?=W.heap[g]?):Ct g cap n l is j W':=by
 obtain⟨c,a,b⟩:=h.row;exact⟨c,e.trans a,b⟩
theorem Ct.lt (h:Ct g cap n l is j W):g<W.heap.size:=by
 obtain⟨c,a,_⟩:=h.row;exact ah a
theorem Ct.skip (h:Ct g cap n l is j W):Ct g cap n l is (j+1) W:=by
 obtain⟨c,a,b,d,e⟩:=h.row;exact⟨c,a,b,d,λq i f=>e q Z f⟩
theorem Ct.put (h:Ct g cap n l is j W) (x:Nat) (o:is.length<=j) (p:j<n) (r:n<=cap):Ct g cap n l (is++[x]) (j+1) (W.setCell ⟨g,is.length,none⟩ (U x)):=by
 obtain⟨c,b,d,f,i⟩:=h.row;refine⟨c.setIfInBounds is.length (U x),by simp [World.setCell,Jw,b],by simpa using d,λq k=>?_,λq s m=>?_⟩
 ·rw [JC];by_cases e:is.length=q;·subst e;simp;omega
  rw [tg e];have a:q<is.length:=by simp at k;omega
  rw [f q a,Kh a]
 rw [JC,tg Z];exact i q Z m
theorem Fg (w:World):(zeroValue 22).run prog w=.ok (U 0) w:=E
theorem iE (w:World) (g:Nat):∀ (b:List Value) (o:Nat) (a:World),a.grownBy w (some g)->a.grownBy (w.setCells g o b) (some g)
 | [],o,a,h=>h
 | v::b,o,a,h=>by
  show a.grownBy ((w.setCell ⟨g,o,none⟩ v).setCells g (o+1) b) (some g)
  exact iE _ g b (o+1) a (au h o v)
theorem Ct.cells {g cap n l is j} : ∀ (a:List Value) (o:Nat) {W:World},Ct g cap n l is j W->is.length<=o->n<=j->Ct g cap n l is j (W.setCells g o a)
 | [],o,W,h,_,_=>h
 | v::a,o,W,h,k,b=>by
  show Ct g cap n l is j ((W.setCell ⟨g,o,none⟩ v).setCells g (o+1) a)
  refine Ct.cells a (o+1) ?_ Z b
  obtain⟨c,d,e,f,m⟩:=h.row
  refine⟨c.setIfInBounds o v,by simp [World.setCell,Jw,d],by simpa using e,λq i=>?_,λq p r=>Z⟩
  rw [JC,tg Z]
  exact f q i
theorem Ct.own (h:Ct g cap n l is j W) (b:B<=g) (d:is.length<=cap) (e:cap<=maxLen):W.ownsRow B 22 1 (Vl g is.length cap) is.length (Us is):=by
 obtain⟨c,f,k,i,m⟩:=h.row;refine⟨by simp [Us],.inr ⟨g,cap,c,rfl,b,f,d,e,Z,?_⟩⟩;rw [Nat.mul_one];apply GR;intro q;by_cases a:q<is.length;·rw [Ce a,J_,i q a];simp [Us,a]
 rw [JB cd,JB (by simp [Us];omega)]
def Je (B:Nat) (t:Option Addr) (u i:Nat) (j:List Nat) (W:World) (e:Ending) (W':World):Prop:=∃ v',e=.returned v'/\W'.ownsRow B 22 1 v' j.length (Us j)/\W.grownBy W' (Value.slice t u i).ownBlock/\v'.ownBlock=(Value.slice t u i).ownBlock
theorem iB {V c:World} {o:Option Nat} (h:W.grownBy V o) (b:D V c):W.grownBy c o:=⟨b.os.trans h.os,b.tape.trans h.tape,b.output.trans h.output,Jp h.size b.size,λk d a=>(b.block k (Ju d h.size)).trans (h.block k d a)⟩
theorem oE (B:Nat) (L r) (S:Option Addr) (T s:Nat) (l:List Nat) (W:World) (h:W.ownsRow B 22 1 (.slice S T s) l.length (Us l)) (hl:l.length<=100000) (K:∀ x∈l,x<18446744073709551616) (a:Lc L r W) (d:∃ c,W.heap[L]?=some (.cells c 209)) :
  Calls prog 166 #[.slice S T s,.func (.func 167) #[J L 0] #[]] W (Je B S T s (l.filter λx => !oC r x) W):=by
 have IX:=H (qO B L r S T s l W h hl K a);have Y:=(mF h).1;subst Y;have X:=H h;have HX:=H K;have b:=H a;have HL:=H d;clear h K a d;go_enter func166,ntmps166;go_wp2_with fail;refine (IX).mono ?_;rintro e V ⟨w,⟨rfl,M⟩|⟨k,hk,rfl,o,d⟩⟩;·have f:=H (show l.filter (λx => !oC r x)=l by rw [KE];intro x K;rw [M x K];rfl);have a:=H w;clear w IX M;go_wp2;go_ret;rw [f.out];exact⟨_,rfl,ay X a,iB ⟨rfl,rfl,rfl,Jo _,λ_ _ _=>rfl⟩ a,rfl⟩
 obtain⟨g,hg⟩:=cw X Z;subst hg;have N:∃ cap f,s=cap/\B<=g/\W.heap[g]?=some (.cells f 22)/\l.length<=cap/\cap<=maxLen/\f.size=cap/\f.toList.take l.length=Us l:=by
  rcases X.2 with ⟨e,_⟩|⟨p,cap,f,e,F,O,a,i,t,m⟩;·cases e
  cases e;exact⟨s,f,rfl,F,O,a,i,Z,by simpa using m⟩
 obtain⟨cap,f,rfl,hB,m,a0,a1,y,p⟩:=N;have A:Ct g s l.length l (bU r l k) (k+1) V:=by
  refine⟨f,(w.block _ (ah m)).trans m,y,λq G=>?_,λq F O=>?_⟩
  ·rw [lD r l k Z d] at G ⊢;rw [F9] at G;have z:(f.toList.take l.length)[q]?=(Us l)[q]?:=(by rw [p]);rw [Ce Z,J_] at z;rw [z,Ce Z];simp [Us,show q<l.length by omega]
  have z:(f.toList.take l.length)[q]?=(Us l)[q]?:=by rw [p]
  rw [Ce Z,J_] at z;rw [z];simp [Us,O]
 have u:bU r l (k+1)=bU r l k:=by rw [ju r l k hk,tm o,J3]
 have t:(bU r l k).length=k:=by rw [lD r l k Z d,F9];omega
 have KL:=H (λj (F:k<j) (O:j<=l.length)=>yz r l k j F O o);have P:=H (iB (ao W g) w);have Q:=H (show Ct g s l.length l (bU r l (k+1)) (k+1) V by rw [u];exact A);have a2:=H (show (bU r l (k+1)).length=k by rw [u];exact t);have KS:=H (λj F=>ju r l j F);have KW:=H (show bU r l l.length=l.filter (λx => !oC r x) by unfold bU;rw [zM]);have CV:=H (λa (hU:W.grownBy a (some g)) x (hx9:x<18446744073709551616)=>oM L x r a (by
  obtain⟨c,hc⟩:=HL.out;have a3:L≠g:=λe=>by rw [e,m] at hc;simp at hc
  have z:a.heap[L]?=W.heap[L]?:=hU.block L (ah hc) (by simpa using a3);have R:∀ i,a.cell? ⟨L,i,none⟩=W.cell? ⟨L,i,none⟩:=λi=>by unfold World.cell?;rw [z]
  exact⟨(R 0).trans b.c0,(R 1).trans b.c1,(R 2).trans b.c2,(R 3).trans b.c3,(R 4).trans b.c4,b.hf,b.hu,b.hp⟩) hx9)
 clear A u t IX w X m p y HL b d o;generalize b:l.length=n at *;have HN:=H b;clear b;have a7:((k:Int) == -1)=false:=by simp <;> omega
 go_wp2;go_loopw [5,6] (λi j wr=>∃ b:Nat,k<b/\b<=n/\j=I b/\i=I ((bU r l b).length:Nat)/\Hid (Ct g s n l (bU r l b) b wr)/\Hid (W.grownBy wr (some g))) (λ_ j _=>n-(intOf j).toNat);case atStart=>exact ⟨k+1,Z,Z,aR,by rw [a2.out],Q,P⟩
 case round =>
  clear Q P;obtain⟨j,a3,hj,rfl,rfl,y,R⟩:=hrel;by_cases u:j<n
  ·have d:=y.cell (Jo j) u;have a4:l[j]?.getD 0<18446744073709551616:=HX.out _ (by rw [Jq (by rw [HN.out];exact u)];exact K6 _);have X:=H (KS j u);have t:=pB r l j;generalize G:l[j]?.getD 0=q at *;clear G;have m:=H (CV wr R q a4);rw [show (decide (r.first<=q/1024)&&decide (q/1024<r.first+r.ext))=oC r q from rfl] at m;generalize w:bU r l j=is at *;clear w;go_wp2_with fail;refine (m).mono ?_;rintro e a ⟨rfl,p⟩;have b:=H (y.same (p.block _ y.lt));have A:=H (iB R p);clear p m d y R;cases o:oC r q with
   | true =>
    have d:=H (show bU r l (j+1)=is by rw [X.out,o];simp);clear X;go_wp2;go_roundw;(case rel=>exact ⟨j+1,Z,Z,aR,by rw [d.out],H (by rw [d.out];exact b.skip),A⟩);case measure=>simp [intOf];omega
   | false =>
    have d:=H (show bU r l (j+1)=is++[q] by rw [X.out,o];simp);obtain⟨v0,c0⟩:=b.anyC (q:=is.length) Z;have f0:=b.free is.length;have a5:=H (b.put q t u a0);have a6:=H (au A is.length (U q));have a8:(is.length:Int)<(n:Int):=Z;clear X b A;generalize m:is.length=il at *;have p:=H m;clear m;go_wp2;go_roundw;(case rel=>exact ⟨j+1,Z,Z,aR,by rw [d.out,Jv,p.out];simp,H (by rw [d.out];exact a5),a6⟩);case measure=>simp [intOf];omega
  obtain rfl:j=n:=Z;have X:=KL.out j a3 (Jo _);generalize w:bU r l j=is at *;have a4:=H w;clear w;have a5:∀ b,(Builtin.clear_ #[33] b #[.slice (some ⟨g,is.length,none⟩) (j-is.length) (s-is.length)]).run prog wr=.ok (.tuple #[]) (wr.setCells g is.length (List.replicate (j-is.length) (U 0))) :=
   λb=>Lib.run_clear_slice wr 33 22 b (U 0) underlying33 Fg rfl rfl g is.length _ _ Z (λq G=>by obtain ⟨v,d⟩:=y.anyC (q:=is.length+q) Z;rw [d];rfl) (λq G=>y.free _)
  have d:=H (y.cells (List.replicate (j-is.length) (U 0)) is.length (Jo _) (Jo _));have A:=H (iE wr g (List.replicate (j-is.length) (U 0)) is.length W R);clear y R;generalize m:is.length=il at *;have p:=H m;clear m;go_wp2;go_ret;refine⟨_,rfl,?_,A,rfl⟩;have y:=d.own hB (by rw [p.out];omega) a1;rw [p.out] at y;rw [<-KW.out,p.out];exact y
end
end Go.Proofs.YtdfodlhkdmkfdaaGreatDoor
