import Derived.Shelf.Lay
import Derived.Shelf.Slices.In.SortNone
import Derived.Shelf.Sort.Plain
import Derived.Sort.OwnSortedInts
import Derived.Test.YtdfodlhkdmkfdaaGreatDoorN38
import Derived.Test.YtdfodlhkdmkfdaaGreatDoorN40
set_option linter.unusedVariables false
set_option linter.unusedSimpArgs false
set_option maxRecDepth 20000
set_option maxHeartbeats 8000000
namespace Go.Proofs.YtdfodlhkdmkfdaaGreatDoor
open Go.Proofs.Tryz
variable {S:TypeId->Prop} {cf:Cf} {h:Hs} {vo vw:Value} {V V' W w:World} {X Y:Nat} {A:Array Value}
section
open Go.RowKit Go.Maps
def FM (cf:Cf) (h:Hs) (c:Nat) (p:Nat×Nat):List Value:=[Vl p.1 (h.mx c).length (h.mx c).length,Vl p.2 (h.ff c).length (h.ff c).length,I cf.fifo]
def jy (cf:Cf) (h:Hs) (ws:List (Nat×Nat)):List Value:=ws.zipIdx.flatMap λx=>FM cf h x.2 x.1
theorem rk (cf h) (a:List (Nat×Nat)) (p:Nat×Nat):jy cf h (a++[p])=jy cf h a++FM cf h a.length p:=by
 unfold jy;rw [List.zipIdx_append,J9];simp
theorem AG:(prog.info? 104).map (λi=>(i.zero,i.size,i.bytes))=some (some (.agg #[C,C,I 0]),3,56):=E
theorem vO (W:World) (B:Nat) (v:Value) (n:Nat) (p:List Value) (a b c:Value) (g q:Nat) (d:W.ownsRow B 104 3 v n p) (s:W.heap[g]?=some (.cells #[a,b,c] 104)) (t:a.oneCell'=true) (w:b.oneCell'=true) (x:c.oneCell'=true) (M:n<=1000) (y:B<=W.heap.size) :
  ∃ f e,(Builtin.append_ #[31,31] 31 #[v,Vl g 1 q]).run prog W=.ok f e/\e.ownsRow B 104 3 f (n+1) (p++[a,b,c])/\W.grownBy e v.ownBlock:=by
 obtain⟨z,i,k,l,m⟩:=zr AG;have o:∀ j u,[a,b,c][j]?=some u->W.cell? ((⟨g,0,none⟩:Addr).add j)=some u:=λj u A=>by
  rw [Addr.add_mid,JQ,t6 _ _ j _ _ _ s];simpa using A
 have F:∀ u∈[a,b,c],u.oneCell'=true:=λu r=>by
  simp only [JG,Kf,or_false] at r;rcases r with rfl|rfl|rfl;·exact t
  ·exact w
  exact x
 obtain⟨f,e,G,K,L,_⟩:=Kg (P:=prog) W B 31 31 104 z _ 3 56 underlying31 i k l m rfl Z v _ _ d ⟨g,0,none⟩ 1 q [a,b,c] rfl o F (by unfold maxLen;omega) Z y;exact⟨f,e,G,K,L⟩
def vV:Prop:=∀ (X:Nat) (t:Option Addr) (u j:Nat) (l:List Nat) (W:World) (base:Nat),W.heap[X]?=some (.cells #[.slice t u j] 33)->W.ownsRow base 22 1 (.slice t u j) l.length (Us l)->l.length<=1000 ->
 Calls prog 67 #[.func (.func 127) #[] #[J X 0]] W λe W'=>∃ v i,e=.returned v/\i.Perm l/\i.Pairwise (λa b=>a<=b)/\W'.ownsRow W.heap.size 22 1 v l.length (Us i)/\D W W'
theorem xE (a:Option Addr) (b c:Nat) (W:World):Calls prog 68 #[.slice a b c] W λe d=>e=.returned (.func (.func 127) #[] #[J W.heap.size 0])/\d=W.alloc (.cells #[.slice a b c] 33):=by
 go_enter func68,ntmps68;go_wp2;go_ret;exact⟨rfl,rfl⟩
structure Wt9 (cf:Cf) (h:Hs) (base:Nat) (vo:Value) (ws:List (Nat×Nat)) (vw:Value) (W:World):Prop where
 row:W.ownsRow base 104 3 vw ws.length (jy cf h ws)
 at_:∀ c p,ws[c]?=some p->RowV W p.1 3 (Ns .i64 (h.mx c))/\RowV W p.2 3 (Ns .i64 (h.ff c))/\base<=p.1/\p.1<p.2
 ord:ws.Pairwise λp q=>p.2<q.1
 vo:∀ g,vo.ownBlock=some g->∀ p∈ws,g<p.1
theorem Wt9.ky {base ws W'} (w:Wt9 cf h base vo ws vw W) (k:Ky S W W') (d:¬S 104) (b:¬S 3):Wt9 cf h base vo ws vw W' :=
 ⟨ai w.row k d,λc p a=>⟨cZ (w.at_ c p a).1 k b,cZ (w.at_ c p a).2.1 k b,(w.at_ c p a).2.2⟩,w.ord,w.vo⟩
theorem Wt9.below {cf h base vo ws vw W W'} (w:Wt9 cf h base vo ws vw W) (b:D W W'):Wt9 cf h base vo ws vw W':=w.ky (Ky.below b:Ky (λ_=>False) W W') (λe=>e) (λe=>e)
theorem Wt9.add {base ws U} (w:Wt9 cf h base vo ws vw V) (l:base<=V.heap.size) (o:∀ g,vo.ownBlock=some g->g<V.heap.size) (b:D V U) {g1 g2} (x:RowV U g1 3 (Ns .i64 (h.mx ws.length))) (y:RowV U g2 3 (Ns .i64 (h.ff ws.length))) (r:V.heap.size<=g1) (s:g1<g2) (B:ws.length<=12) :
  ∃ m d,(Builtin.append_ #[31,31] 31 #[vw,Vl U.heap.size 1 1]).run prog (U.alloc (.cells #[Vl g1 (h.mx ws.length).length (h.mx ws.length).length,Vl g2 (h.ff ws.length).length (h.ff ws.length).length,I cf.fifo] 104))=.ok m d/\Wt9 cf h base vo (ws++[(g1,g2)]) m d/\Ky (· = 104) V d/\Below base V d:=by
 have f:D U (U.alloc (.cells #[Vl g1 (h.mx ws.length).length (h.mx ws.length).length,Vl g2 (h.ff ws.length).length (h.ff ws.length).length,I cf.fifo] 104)):=(Jn _ _).alloc (Jo _) _;have n:=(w.below b).below f;have i:base<=(U.alloc (.cells #[Vl g1 (h.mx ws.length).length (h.mx ws.length).length,Vl g2 (h.ff ws.length).length (h.ff ws.length).length,I cf.fifo] 104)).heap.size:=Jp (Jp l b.size) f.size;obtain⟨m,d,z,A,u⟩:=vO _ base vw ws.length (jy cf h ws) _ _ _ U.heap.size 1 n.row (av U _) rfl rfl rfl Z i;have j:Ky (· = 104) _ d:=Ky.grownO (λP t=>by obtain ⟨_,c,k⟩:=aD n.row t;exact⟨c,104,_,k,rfl⟩) u;refine⟨m,d,z,⟨?_,λc p a=>?_,?_,λg v p a=>?_⟩,((Ky.below b).trans (Ky.below f)).trans j,((b.mono l).trans (f.mono (Jp l b.size))).grown u i (λP t=>(aD n.row t).1)⟩;·rw [rk,Jv];exact A
 ·by_cases k:c<ws.length;·rw [Kh k] at a;have:=n.at_ c p a;exact⟨cZ this.1 j al,cZ this.2.1 j al,this.2.2⟩
  have q:c=ws.length:=by have:=(Jr.1 a).1;simp at this;omega
  subst q;simp at a;subst a;exact⟨cZ (cZ x (Ky.below f:Ky (λ_=>False) _ _) (λe=>e)) j al,cZ (cZ y (Ky.below f:Ky (λ_=>False) _ _) (λe=>e)) j al,Jp l r,s⟩
 ·rw [KT];refine⟨w.ord,List.pairwise_singleton _ _,λp a q e=>?_⟩;have:=List.mem_singleton.1 e;subst this;obtain⟨c,k⟩:=BR a;have:=(w.at_ c p k).2.1.lt;show p.2<g1;omega
 rcases JV.1 a with a|a;·exact w.vo g v p a
 have:=List.mem_singleton.1 a;subst this;have:=o g v;show g<g1;omega
def Dr (B:Nat) (y:Ly) (cf:Cf) (h:Hs) (V:World) (m:Array Value) (V':World):Prop:=∃ vo vs vw vr vl ve ws rs i,m=#[I (bG h.m 283),vo,vs,vw,vr,vl,ve,I h.used] /\
 V'.ownsRow V.heap.size 3 1 vo (aV h.m 283).length (Ns .i64 (aV h.m 283))/\V'.ownsRow V.heap.size 102 5 vs (I1 h 12).length (pa h (I1 h 12))/\(ws.length=12/\Wt9 cf h V.heap.size vo ws vw V') /\
 (rs.Perm h.rg/\rs.Pairwise (λa b=>a.base<=b.base)/\V'.ownsRow V.heap.size 109 5 vr rs.length (dB rs))/\V'.ownsRow V.heap.size 22 1 vl h.row.length (Us h.row) /\
 (i.Perm h.rel/\i.Pairwise (λa b=>a<=b)/\V'.ownsRow V.heap.size 22 1 ve h.rel.length (Us i))/\∀ g,vl.ownBlock=some g->ve.ownBlock≠some g
theorem EI (h):I1 h 12=dM.filter λx=>decide (h.st x.1 x.2.1 x.2.2≠0):=by
 unfold I1 I2 I3 dM;rw [List.filter_flatMap];congr 1;funext c;rw [List.filter_flatMap];congr 1;funext s;rw [List.filter_map];rfl
def jJ (h:Hs) (K:Nat):List (Nat×Nat×Nat):=(dM.take K).filter λx=>decide (h.st x.1 x.2.1 x.2.2≠0)
theorem zJ (h):jJ h 1062=I1 h 12:=by
 unfold jJ;rw [EI,JN (by rw [gn];exact Jo _)]
theorem wU (h) {K:Nat} (a:K<1062):jJ h (K+1)=jJ h K++(if h.st (sA K).1 (sA K).2.1 (sA K).2.2≠0 then [sA K] else []):=by
 unfold jJ;rw [JK,hH a,FV];congr 1;by_cases e:h.st (sA K).1 (sA K).2.1 (sA K).2.2=0 <;> simp [e,List.filter]
theorem zP (h K):(jJ h K).length<=1062:=by
 unfold jJ;refine Jp (A1 _ _) ?_;rw [F9,gn];omega
theorem II {g t:Nat} {a b c d e f:Value} (h:V.heap[g]?=some (.cells #[a,b,c,d,e,f] t)):V.cell? ⟨g,0,none⟩=some a/\V.cell? ⟨g,1,none⟩=some b/\V.cell? ⟨g,2,none⟩=some c/\V.cell? ⟨g,3,none⟩=some d/\V.cell? ⟨g,4,none⟩=some e/\V.cell? ⟨g,5,none⟩=some f:=by
 refine⟨?_,?_,?_,?_,?_,?_⟩ <;> (rw [t6 _ _ _ _ _ _ h];rfl)
structure Me (W:World) (X Y:Nat) (A:Array Value) (V:World):Prop where
 bel:D W V
 xb:V.heap[X]?=some (.cells #[I 0,C,C,C,C,C,C,I 0] 35)
 yb:V.heap[Y]?=some (.cells A 35)
 bx:W.heap.size<=X
 by_:W.heap.size<=Y
 ne:X≠Y
theorem Me.below (m:Me W X Y A V) (b:D V V'):Me W X Y A V' :=
 ⟨m.bel.trans (b.mono m.bel.size),ae m.xb b,ae m.yb b,m.bx,m.by_,m.ne⟩
theorem Me.ky (m:Me W X Y A V) (k:Ky S V V') (h:¬S 35) (b:Below W.heap.size V V'):Me W X Y A V' :=
 ⟨m.bel.trans b,k.cells _ _ _ _ m.xb h,k.cells _ _ _ _ m.yb h,m.bx,m.by_,m.ne⟩
theorem Me.set (m:Me W X Y A V) (i:Nat) (v:Value):Me W X Y (A.setIfInBounds i v) (V.setCell ⟨Y,i,none⟩ v)/\Ky (· = 35) V (V.setCell ⟨Y,i,none⟩ v):=by
 have g:=au (ao V Y) i v;refine⟨⟨m.bel.grown g m.bel.size (λr a=>by simp at a;have:=m.by_;omega),?_,?_,m.bx,m.by_,m.ne⟩,Ky.grown m.yb rfl g⟩;·rw [t4 _ _ _ _ m.ne];exact m.xb
 simp [World.setCell,Jw,m.yb]
structure Rw9 (h:Hs) (W:World) (vo vs:Value) (V:World):Prop where
 o:V.ownsRow W.heap.size 3 1 vo (aV h.m 283).length (Ns .i64 (aV h.m 283))
 s:V.ownsRow W.heap.size 102 5 vs (I1 h 12).length (pa h (I1 h 12))
theorem Rw9.ky {vs} (r:Rw9 h W vo vs V) (k:Ky S V V') (a:¬S 3) (b:¬S 102):Rw9 h W vo vs V':=⟨ai r.o k a,ai r.s k b⟩
def Ic (cf:Cf) (p:Value×Value):List Value:=[p.1,p.2,I cf.fifo]
def nf (cf:Cf) (ws:List (Value×Value)):List Value:=ws.flatMap (Ic cf)
theorem sK (cf) (a:List (Value×Value)) (p:Value×Value):nf cf (a++[p])=nf cf a++Ic cf p:=by simp [nf]
structure Wt8 (cf:Cf) (h:Hs) (W:World) (ws:List (Value×Value)) (vw:Value) (V:World):Prop where
 row:V.ownsRow W.heap.size 104 3 vw ws.length (nf cf ws)
 at_:∀ c p,ws[c]?=some p->V.ownsRow W.heap.size 3 1 p.1 (h.mx c).length (Ns .i64 (h.mx c))/\V.ownsRow W.heap.size 3 1 p.2 (h.ff c).length (Ns .i64 (h.ff c))
theorem Wt8.ky {ws} (w:Wt8 cf h W ws vw V) (k:Ky S V V') (d:¬S 104) (a:¬S 3):Wt8 cf h W ws vw V' :=
 ⟨ai w.row k d,λc p b=>⟨ai (w.at_ c p b).1 k a,ai (w.at_ c p b).2 k a⟩⟩
theorem zw:(prog.info? 3).map (λi=>(i.zero,i.size,i.bytes))=some (some (I 0),1,8):=E
theorem CU (W:World) (a:Option Addr) (c:Nat):(Builtin.append_ #[23,23] 23 #[C,.slice a 0 c]).run prog W=.ok (C) W:=by
 obtain⟨g,b,d,e,f⟩:=zr zw;cases a <;> simp [Builtin.append_,run_underlying underlying23,sizeOf,typeInfo,b,Builtin.lenOf,Builtin.firstCells,loadCells,loadCellsFrom]
theorem ww (W v l) (h:Wq W v l) (z:l.length<=90000) :
  ∃ a n c d e f b,v=.slice a n c/\(Builtin.append_ #[23,23] 23 #[C,.slice a n c]).run prog W=.ok (.slice d e f) b/\b.ownsRow W.heap.size 3 1 (.slice d e f) l.length (Ns .i64 l)/\D W b:=by
 obtain⟨a,c,rfl,_,t⟩:=h;rcases t with ⟨rfl,rfl⟩|⟨g,rfl,i⟩;·exact⟨none,0,c,none,0,0,W,rfl,CU W none c,⟨rfl,.inl ⟨rfl,rfl⟩⟩,Jn _ _⟩
 obtain⟨w,k,m,o,p⟩:=zr zw;obtain⟨A,b,x,q,y,_⟩:=Kg (P:=prog) W W.heap.size 23 23 3 w _ 1 8 underlying23 k m o p rfl Z (C) 0 [] ⟨rfl,.inl ⟨rfl,rfl⟩⟩ ⟨g,0,none⟩ l.length c (Ns .i64 l) (by simp [Ns]) (λj u s=>by
  have r:j<(Ns .i64 l).length:=(Jr.1 s).1;rw [Addr.add_mid,JQ,i.cell j r];exact s) (λu a=>by
  simp only [Ns,JE] at a;obtain⟨n,_,rfl⟩:=a;rfl) (by unfold maxLen;omega) Z (Jo _)
 rw [JQ,JF] at q;obtain⟨d,e,f,rfl⟩:=aE q;exact⟨_,_,_,d,e,f,b,rfl,x,q,(Jn _ W).grown y (Jo _) (λr i=>by simp [Value.ownBlock] at i)⟩
theorem Wt8.add {B x ws} {c:Nat} (w:Wt8 cf h W ws vw V) (s:D W V) (O:∀ V,D W V->Sh B x cf h V) (r:c<12) (hl:ws.length=c) (a0:(h.mx c).length<=100/\(h.ff c).length<=100) {P Q:Option Addr} {R S:Nat} (K:x.mv c=.slice P (h.mx c).length R) (L:x.fv c=.slice Q (h.ff c).length S) :
  ∃ f g i m j k l b y z A a,(Builtin.append_ #[23,23] 23 #[C,.slice P (h.mx c).length R]).run prog V=.ok (.slice f g i) m/\(Builtin.append_ #[23,23] 23 #[C,.slice Q (h.ff c).length S]).run prog m=.ok (.slice j k l) b/\(Builtin.append_ #[31,31] 31 #[vw,Vl b.heap.size 1 1]).run prog (b.alloc (.cells #[.slice f g i,.slice j k l,I cf.fifo] 104))=.ok (.slice y z A) a/\D V m/\D V b/\D V (b.alloc (.cells #[.slice f g i,.slice j k l,I cf.fifo] 104))/\(b.alloc (.cells #[.slice f g i,.slice j k l,I cf.fifo] 104)).grownBy a vw.ownBlock/\Ky (· = 104) (b.alloc (.cells #[.slice f g i,.slice j k l,I cf.fifo] 104)) a/\Wt8 cf h W (ws++[(.slice f g i,.slice j k l)]) (.slice y z A) a/\D W a:=by
 obtain⟨b1,b2,b3,f,g,i,m,T,e1,o1,F⟩:=ww V (x.mv c) (h.mx c) ((O V s).wm c r).1 Z;rw [K] at T;cases T;have t:D W m:=s.trans (F.mono s.size);obtain⟨b4,b5,b6,j,k,l,b,X,e2,o2,Y⟩:=ww m (x.fv c) (h.ff c) ((O m t).wm c r).2 Z;rw [L] at X;cases X;have n:D V b:=F.trans (Y.mono F.size);have M:D b (b.alloc (.cells #[.slice f g i,.slice j k l,I cf.fifo] 104)):=(Jn _ _).alloc (Jo _) _;have o:=n.trans (M.mono n.size);have G:=w.ky (Ky.below o:Ky (λ_=>False) _ _) (λe=>e) (λe=>e);have q:D W (b.alloc (.cells #[.slice f g i,.slice j k l,I cf.fifo] 104)):=s.trans (o.mono s.size);obtain⟨v',a,f1,f2,f3⟩:=vO _ W.heap.size vw ws.length (nf cf ws) _ _ _ b.heap.size 1 G.row (av b _) rfl rfl rfl Z q.size;obtain⟨y,z,A,rfl⟩:=aE f2;have u:Ky (· = 104) _ a:=Ky.grownO (λP d=>by obtain ⟨_,c,r⟩:=aD G.row d;exact⟨c,104,_,r,rfl⟩) f3;refine⟨f,g,i,m,j,k,l,b,y,z,A,a,e1,e2,f1,F,n,o,f3,u,⟨?_,λd p v=>?_⟩,q.grown f3 q.size (λr a=>(aD G.row a).1)⟩;·rw [sK,Jv];exact f2
 by_cases hd:d<ws.length;·rw [Kh hd] at v;have:=G.at_ d p v;exact⟨ai this.1 u al,ai this.2 u al⟩
 have N:d=ws.length:=by have:=(Jr.1 v).1;simp at this;omega
 subst N;simp at v;subst v;rw [hl];exact⟨ai (aN (ay (ay o1 Y) M) s.size) u al,ai (aN (ay o2 M) t.size) u al⟩
def Told8 (cf:Cf) (h:Hs) (V:World) (m:Array Value) (V':World):Prop:=∃ vo vs vw vr vl ve ws rs i,m=#[I (bG h.m 283),vo,vs,vw,vr,vl,ve,I h.used] /\
 V'.ownsRow V.heap.size 3 1 vo (aV h.m 283).length (Ns .i64 (aV h.m 283))/\V'.ownsRow V.heap.size 102 5 vs (I1 h 12).length (pa h (I1 h 12))/\(ws.length=12/\Wt8 cf h V ws vw V') /\
 (rs.Perm h.rg/\rs.Pairwise (λa b=>a.base<=b.base)/\V'.ownsRow V.heap.size 109 5 vr rs.length (dB rs))/\V'.ownsRow V.heap.size 22 1 vl h.row.length (Us h.row) /\
 (i.Perm h.rel/\i.Pairwise (λa b=>a<=b)/\V'.ownsRow V.heap.size 22 1 ve h.rel.length (Us i))
theorem ci {o:Oper} {a:Act} {b:TypeId} {x:Operand} (d:o.op=.load b x) (g i) (e:a.eval x=J g i) {c:Array Value} (f:(loadVar b ⟨g,i,none⟩).run prog w=.ok (.agg c) w):(execOp a.eval o).run prog w=.ok (.value (.agg c)) w:=by
 unfold execOp;simp only [d,e,Instr.loadAt,Instr.sureAddr,Sem.run_bind,Sem.run_pure,Result.andThen_ok,f]
theorem aK {b o:Nat} {a:List Value} (h:w.rangeAt b o a) (c:D w W):W.rangeAt b o a:=λj v d=>ol c (h j v d)
def Re (w:World) (v:Value) (n sz:Nat) (C:Nat->List Value):Prop:=∃ a c,v=.slice a n c/\∀ k,k<n->(C k).length=sz/\∃ g,a=some ⟨g,0,none⟩/\w.rangeAt g (k*sz) (C k)
theorem Re.below {v n sz C} (h:Re w v n sz C) (b:D w W):Re W v n sz C:=by
 obtain⟨a,c,e,d⟩:=h;exact⟨a,c,e,λk f=>by obtain ⟨l,g,i,j⟩:=d k f;exact⟨l,g,i,aK j b⟩⟩
theorem gD {α:Type} (f:α->List Value) (sz:Nat) (a:∀ x,(f x).length=sz):∀ (l:List α) (k:Nat) (x:α),l[k]?=some x->((l.flatMap f).drop (k*sz)).take sz=f x
 | [],k,x,h=>by simp at h
 | y::r,0,x,h=>by
  simp at h
  subst h
  rw [Kw,Nat.zero_mul,Lk,<-a y,List.take_left]
 | y::r,k+1,x,h=>by
  rw [Kw,show (k+1)*sz=(f y).length+k*sz by rw [a,J4];omega,List.drop_append]
  simp only [Nat.add_sub_cancel_left,List.drop_eq_nil_of_le (Nat.le_add_right (f y).length (k*sz)),JF]
  exact gD f sz a r k x (by simpa using h)
theorem jA {B e sz n:Nat} {v:Value} {b:List Value} (h:w.ownsRow B e sz v n b):Re w v n sz (λk=>(b.drop (k*sz)).take sz):=by
 rcases h.2 with ⟨rfl,rfl⟩|⟨g,d,f,rfl,o,i,p,q,r,l⟩;·exact⟨none,0,rfl,λk c=>Z⟩
 have m:=h.1;refine⟨_,_,rfl,λk c=>⟨?_,g,rfl,λj u a=>?_⟩⟩;·rw [F9,List.length_drop,m];have:(k+1)*sz<=n*sz:=JR _ c;rw [J4] at this;omega
 rw [t6 _ _ _ _ _ _ i];rw [Kj] at a;split at a
 ·rw [Lz,<-l] at a;rw [Kj] at a;split at a;·simpa using a
  cases a
 cases a
theorem Gi (v1 v2) (n:Nat) (C1 C2 w) (B:n<=1048576) (t:Re w v1 n 6 C1) (u:Re w v2 n 6 C2) (p:∀ k,k<n->∀ W,D w W->Calls prog 31 #[.agg (C1 k).toArray,.agg (C2 k).toArray] W λe g=>e=.returned (.bool true)/\D W g) :
  Calls prog 12 #[v1,v2] w λe g=>e=.returned (.bool true)/\D w g:=by
 obtain⟨F,G,rfl,a⟩:=t;obtain⟨K,L,rfl,b⟩:=u;have v:=H a;have x:=H b;have y:=H p;clear a b p;go_enter func12,ntmps12;go_wp2;go_loopw [5] (λi wr=>∃ (k:Nat),k<=n/\i=I k/\Hid (D w wr)) (λi _=>n-(intOf i).toNat);case atStart=>exact ⟨0,Jt _,rfl,H (Jn _ _)⟩
 case round =>
  obtain⟨k,M,rfl,q⟩:=hrel;by_cases b:k<n
  ·obtain⟨a,j,rfl,c⟩:=v.out k b;obtain⟨f,l,rfl,r⟩:=x.out k b;have m:=H a;have o:=H f;have d:=H (show D w wr.drew from q.drew);have s:=LG (aK c d) (aK r d);clear c r a f;(go_upto_region 6 with fail);refine rh (S:=λa=>a.rangeAt j (k*6) (C1 k)/\a.rangeAt l (k*6) (C2 k)) ?_;generalize c:wr.drew=z at s d;have a:({ heap:=wr.heap,tape:=wr.tape,drawn:=wr.drawn+1,os:=wr.os,output:=wr.output } : World)=z:=c;rw [a];clear c a;have a:=s;(iterate 3 (refine py a ?_;simp only [f0,f1,Nat.reduceAdd,lz,l0,ls]));refine pf 3 (.agg (C1 k).toArray) rfl a (λW a=>ci rfl j (k*6) dC (run_loadVar_mid W j (k*6) 61 _ _ a.1 underlying61 rfl (by rw [m.out];kernel_rfl))) ?_;(iterate 3 (refine py a ?_;simp only [f0,f1,Nat.reduceAdd,lz,l0,ls]));refine pf 7 (.agg (C2 k).toArray) rfl a (λW a=>ci rfl l (k*6) dC (run_loadVar_mid W l (k*6) 61 _ _ a.2 underlying61 rfl (by rw [o.out];kernel_rfl))) ?_;refine po 8 λK' r=>?_;go_simp;refine (y k b _ d).mono ?_;rintro e N ⟨rfl,f⟩;have c:=LG (aK a.1 f) (aK a.2 f);refine r _ _ ⟨c,?_⟩;clear a;have a:=c;have A:=H (d.trans (f.mono d.size));clear c f;clear r K';refine py a ?_;simp only [f0,f1,Nat.reduceAdd,lz,l0,ls];refine bY ?_;go_wp2;go_roundw
   (case rel=>exact ⟨k+1,Z,aR,A⟩);case measure=>(simp [intOf];try omega)
  go_wp2;go_ret;exact⟨rfl,q⟩
theorem DU (v1 v2) (n:Nat) (C1 C2 w) (B:n<=1048576) (t:Re w v1 n 4 C1) (u:Re w v2 n 4 C2) (p:∀ k,k<n->∀ W,D w W->Calls prog 69 #[.agg (C1 k).toArray,.agg (C2 k).toArray] W λe g=>e=.returned (.bool true)/\D W g) :
  Calls prog 28 #[v1,v2] w λe g=>e=.returned (.bool true)/\D w g:=by
 obtain⟨F,G,rfl,a⟩:=t;obtain⟨K,L,rfl,b⟩:=u;have v:=H a;have x:=H b;have y:=H p;clear a b p;go_enter func28,ntmps28;go_wp2;go_loopw [5] (λi wr=>∃ (k:Nat),k<=n/\i=I k/\Hid (D w wr)) (λi _=>n-(intOf i).toNat);case atStart=>exact ⟨0,Jt _,rfl,H (Jn _ _)⟩
 case round =>
  obtain⟨k,M,rfl,q⟩:=hrel;by_cases b:k<n
  ·obtain⟨a,j,rfl,c⟩:=v.out k b;obtain⟨f,l,rfl,r⟩:=x.out k b;have m:=H a;have o:=H f;have d:=H (show D w wr.drew from q.drew);have s:=LG (aK c d) (aK r d);clear c r a f;(go_upto_region 6 with fail);refine rh (S:=λa=>a.rangeAt j (k*4) (C1 k)/\a.rangeAt l (k*4) (C2 k)) ?_;generalize c:wr.drew=z at s d;have a:({ heap:=wr.heap,tape:=wr.tape,drawn:=wr.drawn+1,os:=wr.os,output:=wr.output } : World)=z:=c;rw [a];clear c a;have a:=s;(iterate 3 (refine py a ?_;simp only [f0,f1,Nat.reduceAdd,lz,l0,ls]));refine pf 3 (.agg (C1 k).toArray) rfl a (λW a=>ci rfl j (k*4) dC (run_loadVar_mid W j (k*4) 81 _ _ a.1 underlying81 rfl (by rw [m.out];kernel_rfl))) ?_;(iterate 3 (refine py a ?_;simp only [f0,f1,Nat.reduceAdd,lz,l0,ls]));refine pf 7 (.agg (C2 k).toArray) rfl a (λW a=>ci rfl l (k*4) dC (run_loadVar_mid W l (k*4) 81 _ _ a.2 underlying81 rfl (by rw [o.out];kernel_rfl))) ?_;refine po 8 λK' r=>?_;go_simp;refine (y k b _ d).mono ?_;rintro e N ⟨rfl,f⟩;have c:=LG (aK a.1 f) (aK a.2 f);refine r _ _ ⟨c,?_⟩;clear a;have a:=c;have A:=H (d.trans (f.mono d.size));clear c f;clear r K';refine py a ?_;simp only [f0,f1,Nat.reduceAdd,lz,l0,ls];refine bY ?_;go_wp2;go_roundw
   (case rel=>exact ⟨k+1,Z,aR,A⟩);case measure=>(simp [intOf];try omega)
  go_wp2;go_ret;exact⟨rfl,q⟩
theorem C_ (v1 v2) (n:Nat) (C1 C2 w) (B:n<=1048576) (t:Re w v1 n 5 C1) (u:Re w v2 n 5 C2) (p:∀ k,k<n->∀ W,D w W->Calls prog 128 #[.agg (C1 k).toArray,.agg (C2 k).toArray] W λe g=>e=.returned (.bool true)/\D W g) :
  Calls prog 70 #[v1,v2] w λe g=>e=.returned (.bool true)/\D w g:=by
 obtain⟨F,G,rfl,a⟩:=t;obtain⟨K,L,rfl,b⟩:=u;have v:=H a;have x:=H b;have y:=H p;clear a b p;go_enter func70,ntmps70;go_wp2;go_loopw [5] (λi wr=>∃ (k:Nat),k<=n/\i=I k/\Hid (D w wr)) (λi _=>n-(intOf i).toNat);case atStart=>exact ⟨0,Jt _,rfl,H (Jn _ _)⟩
 case round =>
  obtain⟨k,M,rfl,q⟩:=hrel;by_cases b:k<n
  ·obtain⟨a,j,rfl,c⟩:=v.out k b;obtain⟨f,l,rfl,r⟩:=x.out k b;have m:=H a;have o:=H f;have d:=H (show D w wr.drew from q.drew);have s:=LG (aK c d) (aK r d);clear c r a f;(go_upto_region 6 with fail);refine rh (S:=λa=>a.rangeAt j (k*5) (C1 k)/\a.rangeAt l (k*5) (C2 k)) ?_;generalize c:wr.drew=z at s d;have a:({ heap:=wr.heap,tape:=wr.tape,drawn:=wr.drawn+1,os:=wr.os,output:=wr.output } : World)=z:=c;rw [a];clear c a;have a:=s;(iterate 3 (refine py a ?_;simp only [f0,f1,Nat.reduceAdd,lz,l0,ls]));refine pf 3 (.agg (C1 k).toArray) rfl a (λW a=>ci rfl j (k*5) dC (run_loadVar_mid W j (k*5) 102 _ _ a.1 underlying102 rfl (by rw [m.out];kernel_rfl))) ?_;(iterate 3 (refine py a ?_;simp only [f0,f1,Nat.reduceAdd,lz,l0,ls]));refine pf 7 (.agg (C2 k).toArray) rfl a (λW a=>ci rfl l (k*5) dC (run_loadVar_mid W l (k*5) 102 _ _ a.2 underlying102 rfl (by rw [o.out];kernel_rfl))) ?_;refine po 8 λK' r=>?_;go_simp;refine (y k b _ d).mono ?_;rintro e N ⟨rfl,f⟩;have c:=LG (aK a.1 f) (aK a.2 f);refine r _ _ ⟨c,?_⟩;clear a;have a:=c;have A:=H (d.trans (f.mono d.size));clear c f;clear r K';refine py a ?_;simp only [f0,f1,Nat.reduceAdd,lz,l0,ls];refine bY ?_;go_wp2;go_roundw
   (case rel=>exact ⟨k+1,Z,aR,A⟩);case measure=>(simp [intOf];try omega)
  go_wp2;go_ret;exact⟨rfl,q⟩
theorem Dv (v1 v2) (n:Nat) (C1 C2 w) (B:n<=1048576) (t:Re w v1 n 3 C1) (u:Re w v2 n 3 C2) (p:∀ k,k<n->∀ W,D w W->Calls prog 129 #[.agg (C1 k).toArray,.agg (C2 k).toArray] W λe g=>e=.returned (.bool true)/\D W g) :
  Calls prog 71 #[v1,v2] w λe g=>e=.returned (.bool true)/\D w g:=by
 obtain⟨F,G,rfl,a⟩:=t;obtain⟨K,L,rfl,b⟩:=u;have v:=H a;have x:=H b;have y:=H p;clear a b p;go_enter func71,ntmps71;go_wp2;go_loopw [5] (λi wr=>∃ (k:Nat),k<=n/\i=I k/\Hid (D w wr)) (λi _=>n-(intOf i).toNat);case atStart=>exact ⟨0,Jt _,rfl,H (Jn _ _)⟩
 case round =>
  obtain⟨k,M,rfl,q⟩:=hrel;by_cases b:k<n
  ·obtain⟨a,j,rfl,c⟩:=v.out k b;obtain⟨f,l,rfl,r⟩:=x.out k b;have m:=H a;have o:=H f;have d:=H (show D w wr.drew from q.drew);have s:=LG (aK c d) (aK r d);clear c r a f;(go_upto_region 6 with fail);refine rh (S:=λa=>a.rangeAt j (k*3) (C1 k)/\a.rangeAt l (k*3) (C2 k)) ?_;generalize c:wr.drew=z at s d;have a:({ heap:=wr.heap,tape:=wr.tape,drawn:=wr.drawn+1,os:=wr.os,output:=wr.output } : World)=z:=c;rw [a];clear c a;have a:=s;(iterate 3 (refine py a ?_;simp only [f0,f1,Nat.reduceAdd,lz,l0,ls]));refine pf 3 (.agg (C1 k).toArray) rfl a (λW a=>ci rfl j (k*3) dC (run_loadVar_mid W j (k*3) 104 _ _ a.1 underlying104 rfl (by rw [m.out];kernel_rfl))) ?_;(iterate 3 (refine py a ?_;simp only [f0,f1,Nat.reduceAdd,lz,l0,ls]));refine pf 7 (.agg (C2 k).toArray) rfl a (λW a=>ci rfl l (k*3) dC (run_loadVar_mid W l (k*3) 104 _ _ a.2 underlying104 rfl (by rw [o.out];kernel_rfl))) ?_;refine po 8 λK' r=>?_;go_simp;refine (y k b _ d).mono ?_;rintro e N ⟨rfl,f⟩;have c:=LG (aK a.1 f) (aK a.2 f);refine r _ _ ⟨c,?_⟩;clear a;have a:=c;have A:=H (d.trans (f.mono d.size));clear c f;clear r K';refine py a ?_;simp only [f0,f1,Nat.reduceAdd,lz,l0,ls];refine bY ?_;go_wp2;go_roundw
   (case rel=>exact ⟨k+1,Z,aR,A⟩);case measure=>(simp [intOf];try omega)
  go_wp2;go_ret;exact⟨rfl,q⟩
theorem Dj (v1 v2) (n:Nat) (C1 C2 w) (B:n<=1048576) (t:Re w v1 n 5 C1) (u:Re w v2 n 5 C2) (p:∀ k,k<n->∀ W,D w W->Calls prog 130 #[.agg (C1 k).toArray,.agg (C2 k).toArray] W λe g=>e=.returned (.bool true)/\D W g) :
  Calls prog 72 #[v1,v2] w λe g=>e=.returned (.bool true)/\D w g:=by
 obtain⟨F,G,rfl,a⟩:=t;obtain⟨K,L,rfl,b⟩:=u;have v:=H a;have x:=H b;have y:=H p;clear a b p;go_enter func72,ntmps72;go_wp2;go_loopw [5] (λi wr=>∃ (k:Nat),k<=n/\i=I k/\Hid (D w wr)) (λi _=>n-(intOf i).toNat);case atStart=>exact ⟨0,Jt _,rfl,H (Jn _ _)⟩
 case round =>
  obtain⟨k,M,rfl,q⟩:=hrel;by_cases b:k<n
  ·obtain⟨a,j,rfl,c⟩:=v.out k b;obtain⟨f,l,rfl,r⟩:=x.out k b;have m:=H a;have o:=H f;have d:=H (show D w wr.drew from q.drew);have s:=LG (aK c d) (aK r d);clear c r a f;(go_upto_region 6 with fail);refine rh (S:=λa=>a.rangeAt j (k*5) (C1 k)/\a.rangeAt l (k*5) (C2 k)) ?_;generalize c:wr.drew=z at s d;have a:({ heap:=wr.heap,tape:=wr.tape,drawn:=wr.drawn+1,os:=wr.os,output:=wr.output } : World)=z:=c;rw [a];clear c a;have a:=s;(iterate 3 (refine py a ?_;simp only [f0,f1,Nat.reduceAdd,lz,l0,ls]));refine pf 3 (.agg (C1 k).toArray) rfl a (λW a=>ci rfl j (k*5) dC (run_loadVar_mid W j (k*5) 109 _ _ a.1 underlying109 rfl (by rw [m.out];kernel_rfl))) ?_;(iterate 3 (refine py a ?_;simp only [f0,f1,Nat.reduceAdd,lz,l0,ls]));refine pf 7 (.agg (C2 k).toArray) rfl a (λW a=>ci rfl l (k*5) dC (run_loadVar_mid W l (k*5) 109 _ _ a.2 underlying109 rfl (by rw [o.out];kernel_rfl))) ?_;refine po 8 λK' r=>?_;go_simp;refine (y k b _ d).mono ?_;rintro e N ⟨rfl,f⟩;have c:=LG (aK a.1 f) (aK a.2 f);refine r _ _ ⟨c,?_⟩;clear a;have a:=c;have A:=H (d.trans (f.mono d.size));clear c f;clear r K';refine py a ?_;simp only [f0,f1,Nat.reduceAdd,lz,l0,ls];refine bY ?_;go_wp2;go_roundw
   (case rel=>exact ⟨k+1,Z,aR,A⟩);case measure=>(simp [intOf];try omega)
  go_wp2;go_ret;exact⟨rfl,q⟩
end
end Go.Proofs.YtdfodlhkdmkfdaaGreatDoor
