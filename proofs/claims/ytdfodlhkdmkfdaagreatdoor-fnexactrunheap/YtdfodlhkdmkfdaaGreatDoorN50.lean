import Derived.Test.YtdfodlhkdmkfdaaGreatDoorN47
import Derived.Test.YtdfodlhkdmkfdaaGreatDoorN49
set_option linter.unusedVariables false
set_option linter.unusedSimpArgs false
set_option maxRecDepth 20000
set_option maxHeartbeats 8000000
namespace Go.Proofs.YtdfodlhkdmkfdaaGreatDoor
open Go.Proofs.Tryz
variable {B G k lo n sz:Nat} {W w:World} {l:List Aw} {v va ve vl vo vr vs vw:Value} {cf:Cf} {h:Hs} {ws:List (Nat×Nat)} {rs:List Rg9} {es gs:List Nat} {ops:List cH} {xs:List Value} {ok:Prop} {os:List eL}
section
open Go.RowKit Go.Maps
structure Rr8 (cf:Cf) (h:Hs) (xa:List An4) (rs:List Rg9) (es:List Nat) (w:World) (va vo vs vw vr vl ve:Value):Prop where
 a:∃ C,Re w va xa.length 4 C/\∀ k x,xa[k]?=some x->∃ u,C k=[I x.code,U x.addr,I x.size,u]/\Rd1 .u8 w u x.data
 o:Rd1 .i64 w vo (aV h.m 283)
 s:Re w vs (I1 h 12).length 5 (λk=>((pa h (I1 h 12)).drop (k*5)).take 5)
 q:∃ C,Re w vw 12 3 C/\∀ k,k<12->∃ u1 u2,C k=[u1,u2,I cf.fifo]/\Rd1 .i64 w u1 (h.mx k)/\Rd1 .i64 w u2 (h.ff k)
 r:Re w vr rs.length 5 (λk=>((dB rs).drop (k*5)).take 5)
 l:Rd1 .u64 w vl (h.row.map (λx:Nat=>(x:Int)))
 e:Rd1 .u64 w ve (es.map (λx:Nat=>(x:Int)))
theorem Rr8.below {cf h xa rs es w W va vo vs vw vr vl ve} (r:Rr8 cf h xa rs es w va vo vs vw vr vl ve) (b:D w W):Rr8 cf h xa rs es W va vo vs vw vr vl ve:=by
 refine⟨?_,r.o.below b,r.s.below b,?_,r.r.below b,r.l.below b,r.e.below b⟩;·obtain⟨a,c,d⟩:=r.a;exact⟨a,c.below b,λk x g=>by obtain ⟨u,e,f⟩:=d k x g;exact⟨u,e,f.below b⟩⟩
 obtain⟨a,c,d⟩:=r.q;exact⟨a,c.below b,λk g=>by obtain ⟨u1,u2,e,f,i⟩:=d k g;exact⟨u1,u2,e,f.below b,i.below b⟩⟩
theorem yZ (b:W.ownsRow B 81 4 v l.length (iI l)) (c:∀ y∈l,W.ownsRow B 5 1 y.2 y.1.data.length (Ns .u8 y.1.data)) :
  ∃ a,Re W v (l.map (·.1)).length 4 a/\∀ k x,(l.map (·.1))[k]?=some x->∃ u,a k=[I x.code,U x.addr,I x.size,u]/\Rd1 .u8 W u x.data:=by
 refine⟨_,by rw [JZ];exact jA b,λk x a=>?_⟩;rw [J6] at a;cases e:l[k]? with
 | none=>rw [e] at a;simp at a
 | some y =>
  rw [e] at a;simp at a;subst a;exact⟨y.2,gD aC 4 (λ_=>rfl) l k y e,kL (c y (JA e))⟩
theorem Ha {V} {ws:List (Value×Value)} (b:ws.length=12) (w:Wt8 cf h W ws vw V) :
  ∃ a,Re V vw 12 3 a/\∀ k,k<12->∃ u1 u2,a k=[u1,u2,I cf.fifo]/\Rd1 .i64 V u1 (h.mx k)/\Rd1 .i64 V u2 (h.ff k):=by
 have a:=w.row;rw [b] at a;refine⟨_,jA a,λk c=>?_⟩;have e:ws[k]?=some ws[k]:=Jq Z;exact⟨_,_,gD (Ic cf) 3 (λ_=>rfl) ws k _ e,kL (w.at_ k _ e).1,kL (w.at_ k _ e).2⟩
theorem Gt {V} (b:ws.length=12) (w:Wt9 cf h B vo ws vw V) :
  ∃ a,Re V vw 12 3 a/\∀ k,k<12->∃ u1 u2,a k=[u1,u2,I cf.fifo]/\Rd1 .i64 V u1 (h.mx k)/\Rd1 .i64 V u2 (h.ff k):=by
 have a:=w.row;rw [b] at a;refine⟨_,jA a,λk d=>?_⟩;have e:ws[k]?=some ws[k]:=Jq Z;have c:ws.zipIdx[k]?=some (ws[k],k):=by rw [List.getElem?_zipIdx,e];simp
 exact⟨_,_,gD (λx:(Nat×Nat)×Nat=>FM cf h x.2 x.1) 3 (λ_=>rfl) ws.zipIdx k _ c,jb (w.at_ k _ e).1 _,jb (w.at_ k _ e).2.1 _⟩
theorem tA {α:Type} (f:α->Nat):∀ (c l2:List α),c.Perm l2->c.Pairwise (λa b=>f a<=f b)->l2.Pairwise (λa b=>f a<=f b)->(∀ a∈c,∀ b∈c,f a=f b->a=b)->c=l2
 | [],l2,h,_,_,_=>by rw [List.nil_perm] at h;exact h.symm
 | a::r,[],h,_,_,_=>by have:=h.length_eq;simp at this
 | a::r,b::s,h,j,k,d=>by
  have c:b∈a::r:=h.symm.subset (List.mem_cons_self ..)
  have ha:a∈b::s:=h.subset (List.mem_cons_self ..)
  have g:=List.pairwise_cons.1 j
  have i:=List.pairwise_cons.1 k
  have l:f a<=f b:=by
   rcases JG.1 c with rfl|c
   ·exact Jo _
   exact g.1 b c
  have m:f b<=f a:=by
   rcases JG.1 ha with rfl|ha
   ·exact Jo _
   exact i.1 a ha
  have e:a=b:=d a (List.mem_cons_self ..) b c (Nat.le_antisymm l m);subst e;rw [tA f r s (List.Perm.cons_inv h) g.2 i.2 (λx b y c=>d x (KC _ b) y (KC _ c))]
theorem yK {α:Type} (f:α->Nat):∀ (l:List α),(l.map f).Nodup->∀ a∈l,∀ b∈l,f a=f b->a=b
 | [],_,a,ha,_,_,_=>by cases ha
 | x::r,g,a,ha,b,i,e=>by
  rw [KV,Km] at g
  rcases JG.1 ha with d|d
  ·rcases JG.1 i with c|c
   ·rw [d,c]
   exact absurd (JE.2 ⟨b,c,by rw [<-e,d]⟩) g.1
  rcases JG.1 i with c|c
  ·exact absurd (JE.2 ⟨a,d,by rw [e,c]⟩) g.1
  exact yK f r g.2 a d b c e
theorem Gn (i:Inv cf h) {c:List Rg9} (p:rs.Perm h.rg) (s:rs.Pairwise (λa b=>a.base<=b.base)) (d:c.Perm h.rg) (e:c.Pairwise (λa b=>a.base<=b.base)):rs=c :=
 tA Rg9.base rs c (p.trans d.symm) s e (λa ha b c e=>yK Rg9.base h.rg (rS i) a (p.subset ha) b (p.subset c) e)
theorem Ge {l c:List Nat} (p:es.Perm l) (s:es.Pairwise (λa b=>a<=b)) (d:c.Perm l) (e:c.Pairwise (λa b=>a<=b)):es=c :=
 tA id es c (p.trans d.symm) s e (λa _ b _ e=>e)
theorem zv (x:Option Nat×Hs):(match x with|(none,h1)=>((An4.no 1,h1):An4×Hs)|(some q,h1)=>(⟨0,q,0,[]⟩,h1)).1.data.length<=4096:=by
 rcases x with ⟨_|_,_⟩ <;> simp [An4.no]
theorem rG (cf h o p):(dP cf h o p).1.data.length<=4096:=by
 unfold dP cF
 repeat' split
 all_goals first
  | exact Jt _
  | exact zv _
  | (simp [An4.no,aI];done)
  | (simp [An4.no,aI];split <;> simp [aI] <;> omega)
  | (simp [An4.no,aI];omega)
theorem tE (cf h an o):(cW cf h an o).1.data.length<=4096:=by
 unfold cW;split;·exact rG ..
 split;·simp [An4.no]
 exact rG ..
theorem pF (cf):∀ (l:List eL) (h:Hs) (b:List An4),(∀ x∈b,x.data.length<=4096)->∀ x∈(ch cf l h b).2,x.data.length<=4096
 | [],h,b,c=>c
 | o::r,h,b,c=>by
  unfold ch
  refine pF cf r _ _ λx a=>?_
  rcases JV.1 a with a|a
  ·exact c x a
  rw [List.mem_singleton.1 a];exact tE ..
theorem Re.sl {C} (h:Re w v n sz C):∃ a b c,v=.slice a b c:=by obtain ⟨a,c,e,_⟩:=h;exact⟨_,_,_,e⟩
theorem If {xa va' vo' vs' vw' vr' vl' ve'} (d:Rr8 cf h xa rs es w va vo vs vw vr vl ve) (f:Rr8 cf h xa rs es w va' vo' vs' vw' vr' vl' ve') (a b) (y:Inv cf h) (fw:Few k h) (hk:k<=302) (z:kz cf) (hn:xa.length<=300) (hd:∀ x∈xa,x.data.length<=4096) (hr:rs.length<=1000) (he:es.length<=1000) :
  Calls prog 10 #[.agg #[.bool true,va,I a,vo,vs,vw,vr,vl,ve,I b],.agg #[.bool true,va',I a,vo',vs',vw',vr',vl',ve',I b]] w λe w'=>e=.returned (.bool true)/\D w w':=by
 obtain⟨C1,x,a2⟩:=d.a;obtain⟨C2,A,a4⟩:=f.a;obtain⟨D1,B,q2⟩:=d.q;obtain⟨D2,F,q4⟩:=f.q;have G:=d.o;have K:=f.o;have L:=d.s;have M:=f.s;have N:=d.r;have O:=f.r;have P:=d.l;have Q:=f.l;have R:=d.e;have S:=f.e;have hI:=uH h 12 (Jo _);have hF:=fw.row;have hM:∀ c,c<12->(h.mx c).length<=1000/\(h.ff c).length<=1000:=λc T=>by
  have m:=y.mxl c T;have n:=y.ffl c T;have s:=z.mix;have t:=z.fifo;omega
 have hO:=ie h.m 283;obtain⟨_,_,_,rfl⟩:=x.sl;obtain⟨_,_,_,rfl⟩:=A.sl;obtain⟨_,_,_,rfl⟩:=B.sl;obtain⟨_,_,_,rfl⟩:=F.sl;obtain⟨_,_,_,rfl⟩:=G.sl;obtain⟨_,_,_,rfl⟩:=K.sl;obtain⟨_,_,_,rfl⟩:=L.sl;obtain⟨_,_,_,rfl⟩:=M.sl;obtain⟨_,_,_,rfl⟩:=N.sl;obtain⟨_,_,_,rfl⟩:=O.sl;obtain⟨_,_,_,rfl⟩:=P.sl;obtain⟨_,_,_,rfl⟩:=Q.sl;obtain⟨_,_,_,rfl⟩:=R.sl;obtain⟨_,_,_,rfl⟩:=S.sl;clear d f;apply Dd
 ·intro W g;refine DU _ _ xa.length C1 C2 W Z (x.below g) (A.below g) λj l V i=>?_;obtain⟨u1,m,n⟩:=a2 j _ (Jq l);obtain⟨u2,s,t⟩:=a4 j _ (Jq l);rw [m,s];have f:=g.trans (i.mono g.size);have p:=n.below f;have q:=t.below f;obtain⟨_,_,_,rfl⟩:=p.sl;obtain⟨_,_,_,rfl⟩:=q.sl;exact Iz _ _ _ _ _ _ _ _ _ V λd o=>GK _ _ _ d (p.below o) (q.below o) (Jp (hd _ (K6 l)) Z)
 intro W g;apply F1;·intro V i;have f:=g.trans (i.mono g.size);exact As _ _ _ V (G.below f) (K.below f) Z
 ·intro V i;have f:=g.trans (i.mono g.size);refine C_ _ _ _ _ _ V Z (L.below f) (M.below f) λj l d o=>?_;have m:=gD (xY h) 5 (λ_=>rfl) (I1 h 12) j _ (Jq l);have n:(List.take 5 (List.drop (j*5) (pa h (I1 h 12))))=_:=m;rw [n];exact It _ _ _ _ _ d
 ·intro V i;have f:=g.trans (i.mono g.size);refine Dv _ _ 12 D1 D2 V Z (B.below f) (F.below f) λj l d o=>?_;obtain⟨u1,u2,m,n,s⟩:=q2 j l;obtain⟨u3,u4,t,x5,x6⟩:=q4 j l;rw [m,t];have u:=f.trans (o.mono f.size);have p:=n.below u;have q:=s.below u;have X:=x5.below u;have Y:=x6.below u;obtain⟨_,_,_,rfl⟩:=p.sl;obtain⟨_,_,_,rfl⟩:=q.sl;obtain⟨_,_,_,rfl⟩:=X.sl;obtain⟨_,_,_,rfl⟩:=Y.sl;have x7:=hM j l;exact Io _ _ _ _ _ _ _ _ _ _ _ _ _ d (λv r=>As _ _ _ v (p.below r) (X.below r) Z) (λv r=>As _ _ _ v (q.below r) (Y.below r) Z)
 ·intro V i;have f:=g.trans (i.mono g.size);refine Dj _ _ _ _ _ V Z (N.below f) (O.below f) λj l d o=>?_;have m:=gD tC 5 (λ_=>rfl) rs j _ (Jq l);have n:(List.take 5 (List.drop (j*5) (dB rs)))=_:=m;rw [n];exact IL _ _ _ _ _ d
 ·intro V i;have f:=g.trans (i.mono g.size);exact AM _ _ _ V (P.below f) (Q.below f) (by rw [JZ];omega)
 intro V i;have f:=g.trans (i.mono g.size);exact AM _ _ _ V (R.below f) (S.below f) (by rw [JZ];omega)
def mI (ops:List cH) (gs:List Nat):List cH:=List.zipWith xW ops gs
theorem zC:∀ (ops:List cH) (gs:List Nat),gs.length=ops.length->(mI ops gs).map cH.o=ops.map cH.o
 | [],_,_=>rfl
 | o::r,[],h=>by simp at h
 | o::r,g::s,h=>by
  have:=zC r s (by simpa using h)
  simp only [mI,List.zipWith_cons_cons,KV] at this ⊢
  rw [this]
  rfl
theorem l_ (h:gs.length=ops.length):(mI ops gs).length=ops.length:=by
 unfold mI;rw [List.length_zipWith,h,Nat.min_self]
theorem nZ {q:cH} (h:(mI ops gs)[k]?=some q):∃ o g,ops[k]?=some o/\gs[k]?=some g/\q=xW o g:=by
 unfold mI at h;rw [List.getElem?_zipWith] at h;cases a:ops[k]? with
 | none=>rw [a] at h;simp at h
 | some o =>
  cases b:gs[k]? with
  | none=>rw [a,b] at h;simp at h
  | some g=>rw [a,b] at h;simp at h;exact⟨o,g,rfl,rfl,h.symm⟩
structure GQ (ops:List cH):Prop where
 wf:∀ o∈ops,o.o.p<18446744073709551616/\o.o.a<18446744073709551616/\o.o.b<18446744073709551616
 ref:∀ o∈ops,-9223372036854775808<=o.o.ref
 byt:∀ o∈ops,okB o.o.ys
theorem lW {q:cH} (h:q∈mI ops gs):∃ o∈ops,∃ g,q=xW o g:=by
 obtain⟨k,a⟩:=ek h;obtain⟨o,g,b,d,c⟩:=nZ a;exact⟨o,JA b,g,c⟩
theorem zc {N} (c:Cp B w G N ops gs) (j:GQ ops):Ois w (some ⟨G,0,none⟩) (mI ops gs):=by
 obtain⟨p,l,_⟩:=c.typ;refine⟨λk q a=>?_,λq a=>?_,λq a i m=>?_⟩;·obtain⟨o,g,b,d,rfl⟩:=nZ a;obtain⟨f,e,_⟩:=c.at_ k o g b d;exact⟨G,rfl,ah l,f⟩
 ·obtain⟨o,n,g,rfl⟩:=lW a;exact j.wf o n
 obtain⟨k,n⟩:=ek a;obtain⟨o,g,b,d,rfl⟩:=nZ n;obtain⟨f,e,_⟩:=c.at_ k o g b d;refine⟨⟨g,0,none⟩,rfl,?_,?_⟩;·rw [Addr.add_mid,JQ];exact dR e i m
 rw [Addr.add_mid];exact e.lt
theorem D9 (c:GQ ops):Hw (mI ops gs):=by
 refine⟨λq a=>?_,λq a=>?_,λq a=>?_⟩;·obtain⟨o,b,g,rfl⟩:=lW a;exact Jo _
 ·obtain⟨o,b,g,rfl⟩:=lW a;exact c.ref o b
 obtain⟨o,b,g,rfl⟩:=lW a;exact c.byt o b
structure Rz8 (lo:Nat) (cf:Cf) (h:Hs) (l:List Aw) (ws:List (Nat×Nat)) (rs:List Rg9) (es:List Nat) (W:World) (va vo vs vw vr vl ve:Value):Prop where
 ra:Ra9 lo W l va
 o:W.ownsRow lo 3 1 vo (aV h.m 283).length (Ns .i64 (aV h.m 283))
 s:W.ownsRow lo 102 5 vs (I1 h 12).length (pa h (I1 h 12))
 wl:ws.length=12
 w:Wt9 cf h lo vo ws vw W
 r:W.ownsRow lo 109 5 vr rs.length (dB rs)
 l:W.ownsRow lo 22 1 vl h.row.length (Us h.row)
 e:W.ownsRow lo 22 1 ve h.rel.length (Us es)
 ne:∀ g,vl.ownBlock=some g->ve.ownBlock≠some g
theorem Rz8.kp {W':World} (z:Rz8 lo cf h l ws rs es W va vo vs vw vr vl ve) (b:∀ g,lo<=g->g<W.heap.size->W'.heap[g]?=W.heap[g]?):Rz8 lo cf h l ws rs es W' va vo vs vw vr vl ve:=by
 have a:∀ {e sz n:Nat} {v:Value} {xs:List Value},W.ownsRow lo e sz v n xs->W'.ownsRow lo e sz v n xs:=λh=>ze h (λg c d e=>b g (aD h d).1 (ah e))
 refine⟨⟨a z.ra.row,λy i=>a (z.ra.dat y i),z.ra.dis⟩,a z.o,a z.s,z.wl,⟨a z.w.row,λc p j=>?_,z.w.ord,z.w.vo⟩,a z.r,a z.l,a z.e,z.ne⟩;obtain⟨d,e,f,k⟩:=z.w.at_ c p j;exact⟨d.eqb (b _ f d.lt),e.eqb (b _ Z e.lt),f,k⟩
theorem Rz8.rr (z:Rz8 lo cf h l ws rs es W va vo vs vw vr vl ve):Rr8 cf h (l.map (·.1)) rs es W va vo vs vw vr vl ve :=
 ⟨yZ z.ra.row z.ra.dat,kL z.o,jA z.s,Gt z.wl z.w,jA z.r,vt z.l,vt z.e⟩
def Typ (W:World) (b t:Nat):Prop:=∃ c,W.heap[b]?=some (.cells c t)
theorem Typ.ne {b t t'} (h:Typ W b t) (d:Typ W b t') (f:t≠t'):False:=by
 obtain⟨c,e⟩:=h;obtain⟨g,a⟩:=d;rw [e] at a;simp at a;exact f a.2
theorem hE {e:Nat} (h:W.ownsRow B e sz v n xs) {g:Nat} (a:v.ownBlock=some g):Typ W g e:=(aD h a).2
theorem jR {e:Nat} (h:W.ownsRow B e sz v n xs):(v=C/\n=0)\/∃ g a b,v=Vl g n a/\W.heap[g]?=some (.cells b e)/\n*sz<=b.size:=by
 rcases h.2 with c|⟨g,a,b,rfl,c,d,i,j,k,f⟩;·exact .inl c
 refine .inr ⟨g,a,b,rfl,d,?_⟩;have:=congrArg List.length f;rw [h.1,F9,Array.length_toList] at this;omega
def te (l:List Aw):List Pw:=l.map λy=>(y.1.data.length,y.2)
def pQ (h:Hs) (ws:List (Nat×Nat)):List Qw:=ws.zipIdx.map λx=>⟨x.1.1,x.1.2,(h.mx x.2).length,(h.ff x.2).length⟩
theorem qQ {i:Nat} {x:Pw} (h:(te l)[i]?=some x):∃ y,l[i]?=some y/\x=(y.1.data.length,y.2):=by
 unfold te at h;rw [J6] at h;cases e:l[i]? with
 | none=>rw [e] at h;simp at h
 | some y=>rw [e] at h;simp at h;exact⟨y,rfl,h.symm⟩
theorem jz {i:Nat} {x:Qw} (a:(pQ h ws)[i]?=some x):∃ p,ws[i]?=some p/\x=⟨p.1,p.2,(h.mx i).length,(h.ff i).length⟩:=by
 unfold pQ at a;rw [J6,List.getElem?_zipIdx] at a;cases e:ws[i]? with
 | none=>rw [e] at a;simp at a
 | some y=>rw [e] at a;simp at a;exact⟨y,rfl,a.symm⟩
theorem Rz8.an (z:Ra9 lo W l va):(va=C/\te l=[])\/∃ g a,va=Vl g (te l).length a/\IR g (te l) W:=by
 have d:(te l).length=l.length:=by unfold te;rw [JZ]
 rcases jR z.row with ⟨e,k⟩|⟨g,a,m,e,n,o⟩;·refine .inl ⟨e,?_⟩;rw [KD k];rfl
 refine .inr ⟨g,a,by rw [d];exact e,⟨m,n,by rw [d];exact o⟩,λi x b=>?_,λi x b=>?_⟩;·obtain⟨y,c,rfl⟩:=qQ b;have f:=z.row;rw [e] at f;refine be f (i*4+3) _ ?_;have:=gD aC 4 (λ_=>rfl) l i y c;have j:=congrArg (λq:List Value=>q[3]?) this;simp only [Kj,Lz] at j;simpa [aC,iI] using j
 obtain⟨y,c,rfl⟩:=qQ b;exact Ow1.own (z.dat y (JA c))
theorem Rz8.wt (L:ws.length=12) (z:Wt9 cf h lo vo ws vw W):∃ g a,vw=Vl g (pQ h ws).length a/\W0 g (pQ h ws) W/\Ia g (pQ h ws):=by
 have d:(pQ h ws).length=ws.length:=by unfold pQ;rw [JZ,List.length_zipIdx]
 rcases jR z.row with ⟨e,M⟩|⟨g,a,F,e,o,G⟩;·omega
 refine⟨g,a,by rw [d];exact e,⟨⟨F,o,by rw [d];exact G⟩,λi x f=>?_,λi x f=>?_⟩,λi j x y f K=>?_⟩
 ·obtain⟨p,b,rfl⟩:=jz f;have k:=z.row;rw [e] at k;have l:ws.zipIdx[i]?=some (p,i):=by rw [List.getElem?_zipIdx,b];simp
  have:=gD (λx:(Nat×Nat)×Nat=>FM cf h x.2 x.1) 3 (λ_=>rfl) ws.zipIdx i _ l;constructor;·refine be k (i*3) _ ?_;have c:=congrArg (λq:List Value=>q[0]?) this;simp only [Kj,Lz] at c;simpa [FM,jy] using c
  refine be k (i*3+1) _ ?_;have c:=congrArg (λq:List Value=>q[1]?) this;simp only [Kj,Lz] at c;simpa [FM,jy] using c
 ·obtain⟨p,b,rfl⟩:=jz f;obtain⟨r,s,_⟩:=z.at_ i p b;exact⟨_,_,rfl,rfl,r,s⟩
 obtain⟨p,b,rfl⟩:=jz f;obtain⟨q,n,rfl⟩:=jz K;obtain⟨r,s,N,O⟩:=z.at_ i p b;obtain⟨P,Q,R,S⟩:=z.at_ j q n;have t:p.1≠g:=λe=>by obtain ⟨c,k,_⟩:=r;rw [e,o] at k;simp at k
 have u:p.2≠g:=λe=>by obtain ⟨c,k,_⟩:=s;rw [e,o] at k;simp at k
 have l:=Lq.1 z.ord;obtain⟨v,w⟩:=Jr.1 b;obtain⟨A,B⟩:=Jr.1 n;rcases Kv i j with m|m|m;·have:=l i j v A m;rw [w,B] at this;exact⟨by show p.1≠q.2;omega,λ_=>⟨by show p.1≠q.1;omega,by show p.2≠q.2;omega⟩,t,u⟩
 ·subst m;rw [b] at n;cases n;exact⟨by show p.1≠p.2;omega,λe=>absurd rfl e,t,u⟩
 have:=l j i A v m;rw [w,B] at this;exact⟨by show p.1≠q.2;omega,λ_=>⟨by show p.1≠q.1;omega,by show p.2≠q.2;omega⟩,t,u⟩
theorem yO (n:Nat) (b:n<18446744073709551616) (w:World):Calls prog 178 #[U n] w λe a=>e=.returned (I (Sort.bitsLen n:Nat))/\a=w:=by
 have h:=Any.bits_Len (SlLaysF0.n15.bits (P:=prog) (ρ:=Tryz.sortR_ren) { Tryz.sortR with }) (n:Int) w Z Z;rw [JL,bitLen_eq _ Z] at h;exact h
theorem Ay {e:TypeId} {cap} (h:W.ownsRow B e sz (Vl G n cap) n xs):W.ownsRow G e sz (Vl G n cap) n xs:=by
 refine⟨h.1,?_⟩;rcases h.2 with ⟨e,_⟩|⟨g,b,a,e,d,c⟩;·cases e
 cases e;exact .inr ⟨G,cap,a,rfl,Jo _,c⟩
theorem CJ (W:World):Calls prog 231 #[C,I 0,I 0] W λe b=>e=.returned (.tuple #[])/\b=W:=by
 go_enter func231,ntmps231;go_wp2_with fail;go_loopw [6] (λa wr=>a=I 1/\wr=W) (λa _=>0);case atStart=>exact ⟨rfl,rfl⟩
 case round =>
  obtain⟨rfl,rfl⟩:=hrel;go_wp2;go_end0;exact⟨rfl,rfl⟩
theorem Bh (W:World) (a:Nat):Calls prog 182 #[C,I 0,I 0,I a] W λe b=>e=.returned (.tuple #[])/\b=W:=by
 go_enter func182,ntmps182;go_wp2_with fail;go_loopw [1,2,3,8,9] (λa b c c c wr=>a=I 0/\b=I 0/\wr=W) (λ_ _ _ _ _ _=>0);case atStart=>exact ⟨rfl,rfl,rfl⟩
 case round =>
  obtain⟨rfl,rfl,rfl⟩:=hrel;go_wp2_with fail;refine (CJ wr).mono ?_;rintro e c ⟨rfl,rfl⟩;go_wp2
  first|go_end0|((try simp only [Exit.inBlock,Exit.then]);refine wA (KQ rfl _ _ _) rfl ?_)
  exact⟨rfl,rfl⟩
theorem Cw (W:World) (B:Nat) (v:Value) (l:List Nat) (c:W.ownsRow B 22 1 v l.length (Us l)) (x:l.length<=1000) :
  Calls prog 126 #[v] W λe u=>e=.returned (.tuple #[])/\∃ d,d.Perm l/\d.Pairwise (λa b=>a<=b)/\u.ownsRow B 22 1 v l.length (Us d)/\Below B W u:=by
 rcases c.2 with ⟨rfl,y⟩|⟨G,d,z,F,w,b⟩
 ·have a:l=[]:=List.length_eq_zero_iff.1 y;subst a;have n:=H (yO 0 Z);have g:=H (Bh · (Sort.bitsLen 0));go_enter func126,ntmps126;go_wp2_with fail;refine (n _).mono ?_;rintro e o ⟨rfl,rfl⟩;go_wp2_with fail;refine (g _).mono ?_;rintro e o ⟨rfl,rfl⟩;go_wp2;go_end0;exact⟨rfl,[],List.Perm.refl _,List.Pairwise.nil,c,Jn _ _⟩
 subst F;obtain⟨N,p⟩:∃ N,l.length=N:=⟨_,rfl⟩;rw [p] at c x ⊢;have A:Au G N d W l.toArray W:=⟨by simpa using p,Ay c,Jn _ _⟩;have Q:=H A;have q:Sort.bitsLen N<=100:=by
  have:=(Sort.bitsLen_le_iff N 20).2 Z;omega
 have n:=H (yO N Z);have g:=H (Ez G N d W Z (N+1) 0 N (Sort.bitsLen N) l.toArray W Z A Z (Jo _) q (Or.inl rfl));have R:=H c;have K:=H p;clear A c b;go_enter func126,ntmps126;go_wp2_with fail;refine (n _).mono ?_;rintro e o ⟨rfl,rfl⟩;generalize Sort.bitsLen N=S at *;go_wp2_with fail;refine (g).mono ?_;rintro e o ⟨rfl,a,⟨k,m⟩,b⟩;have A:=H (LG k (LG m b));clear k m b g;go_wp2;go_end0;obtain⟨k,m,b⟩:=A.out;have r:l.toArray.size=N:=by simpa using K.out
 have L:(l.toArray.extract 0 N).toList=l:=by rw [<-r];simp
 have M:(a.extract 0 N).toList=a.toList:=by rw [<-b.sz];simp
 have c:=k.2.2;rw [L,M] at c;refine⟨rfl,a.toList,c,?_,aN b.row w,b.bel.mono w⟩;rw [Lq];intro i j O P s;have t:i<a.size:=by simpa using O
 have f:j<a.size:=by simpa using P
 have:=m i j (Jt _) s (by rw [<-b.sz];exact f);rw [getElem!_pos a i t,getElem!_pos a j f] at this;simp [aQ] at this;simpa using this
theorem AY:vV:=by
 intro X va u q l W a j g i;obtain⟨w,x,r⟩:=aG g;cases r;have k:Hid (Calls prog 181 #[C,.func (.func 127) #[] #[J X 0]] W λe b=>∃ v,e=.returned v/\b.ownsRow W.heap.size 22 1 v l.length (Us l)/\D W b):=H ((callsIn_wide (n:=5)).1 (lI X va q a l W j g i));have m:Calls prog 125 #[.func (.func 127) #[] #[J X 0]] W λe b=>∃ v,e=.returned v/\b.ownsRow W.heap.size 22 1 v l.length (Us l)/\D W b:=by
  clear j g i;go_enter func125,ntmps125;go_wp2_with fail;refine (k).mono ?_;rintro e o ⟨v,rfl,c,d⟩;have f:=H (LG c d);clear c d;go_wp2;go_ret;exact⟨v,rfl,f.1,f.2⟩
 have p:=H m;have s:=H i;clear j g i m k;go_enter func67,ntmps67;go_wp2_with fail;refine (p).mono ?_;rintro e o ⟨v,rfl,c,d⟩;have i:=H (Cw o W.heap.size v l c s);have f:=H d;clear c d p;go_wp2_with fail;refine (i).mono ?_;rintro e y ⟨rfl,t,j,k,m,p⟩;have g:=H (LG j (LG k (LG m (f.trans p))));clear j k m p i f;go_wp2;go_ret;exact⟨v,t,rfl,g.1,g.2.1,g.2.2.1,g.2.2.2⟩
theorem sU:∀ (l:List Aw),(∀ y∈l,y.1.data.length<=4096)->fx (te l)<=l.length*4096
 | [],_=>by simp [te,fx]
 | y::r,h=>by
  have b:=h y bh
  have a:=sU r (λx b=>h x (by simp [b]))
  simp only [te,KV,fx,JD] at a ⊢
  omega
theorem sF:∀ (l:List Qw) (M:Nat),(∀ x∈l,x.n+x.m<=M)->dy l<=l.length*(M+1)
 | [],_,_=>by simp [dy]
 | y::r,M,h=>by
  have b:=h y bh
  have a:=sF r M (λx b=>h x (by simp [b]))
  simp only [dy,JD,J4] at a ⊢
  omega
def GJ (vo vs vr vl ve:Value) (g:Nat) (l:List Qw) (v u t z y:Nat):Nat->Prt
 | 0=>⟨λb=>vo.ownBlock=some b,v,Ow1 .i64 3 v vo,λk W=>(vo=C/\v=0)\/∃ g cap,vo=Vl g v cap/\RowV W g 3 (Ns .i64 (eo k v))⟩
 | 1=>⟨λb=>vs.ownBlock=some b,u*5,λW=>(vs=C/\u=0)\/∃ g cap i,vs=Vl g u cap/\W.heap[g]?=some (.cells i 102)/\u*5<=i.size,λk W=>(vs=C/\u=0)\/∃ g cap i,vs=Vl g u cap/\W.heap[g]?=some (.cells i 102)/\∀ j,j<u*5->W.cell? ⟨g,j,none⟩=some (.int (kS j) ((k+j:Nat):Int))⟩
 | 2=>⟨λb=>b=g\/∃ x∈l,x.a=b\/x.b=b,dy l,W0 g l,λk W=>Dw8 g l k W⟩
 | 3=>⟨λb=>vr.ownBlock=some b,t*5,λW=>(vr=C/\t=0)\/∃ g cap i,vr=Vl g t cap/\W.heap[g]?=some (.cells i 109)/\t*5<=i.size,λk W=>(vr=C/\t=0)\/∃ g cap i,vr=Vl g t cap/\W.heap[g]?=some (.cells i 109)/\∀ j,j<t*5->W.cell? ⟨g,j,none⟩=some (.int (kR j) ((k+j:Nat):Int))⟩
 | 4=>⟨λb=>vl.ownBlock=some b,z,Ow1 .u64 22 z vl,λk W=>(vl=C/\z=0)\/∃ g cap,vl=Vl g z cap/\RowV W g 22 (Ns .u64 (gM k z))⟩
 | _=>⟨λb=>ve.ownBlock=some b,y,Ow1 .u64 22 y ve,λk W=>(ve=C/\y=0)\/∃ g cap,ve=Vl g y cap/\RowV W g 22 (Ns .u64 (gM k y))⟩
theorem Gp (l):Us l=Ns .u64 (l.map (λx:Nat=>(x:Int))):=by simp [Ns,Us]
theorem Db {l} (h:W.ownsRow B 22 1 v n (Us l)):Ow1 .u64 22 n v W:=by
 rw [Gp] at h;exact Ow1.own h
def Px (v:Value) (lo:Nat) (W:World):Prop:=∃ (S:Nat->Prop) (n:Nat) (own:World->Prop) (md:Nat->World->Prop),Pq 15 16 v S n own md/\own W/\(∀ b,S b->lo<=b)/\1+n<=100000000
theorem Df (l:Nat->Prt) (ok:Bool) (x y) (f:Option Addr) (g m:Nat) (n:Option Addr) (o p:Nat) (q:Option Addr) (r t:Nat) (u:Option Addr) (v w:Nat) (z:Option Addr) (A B:Nat) (F:Option Addr) (G L:Nat) (M:Option Addr) (N O:Nat) (Q:Pq 34 36 (.slice f g m) (l 0).S (l 0).n (l 0).own (l 0).md) (R:Pq 35 37 (.agg #[I x,.slice n o p,.slice q r t,.slice u v w,.slice z A B,.slice F G L,.slice M N O,I y]) (l 1).S (l 1).n (l 1).own (l 1).md) (d:∀ i j,i<2->j<2->i≠j->∀ b,(l i).S b->¬(l j).S b) :
  Pq 15 16 (.agg #[.bool ok,.slice f g m,I x,.slice n o p,.slice q r t,.slice u v w,.slice z A B,.slice F G L,.slice M N O,I y]) (λb=>∃ i,i<2/\(l i).S b) (Kk l 0 2) (λW=>∀ i,i<2->(l i).own W) (λk W=>∀ i,i<2->(l i).md (Kk l k i) W):=by
 have j:∀ i,i<2->(l i).ok:=λi a=>by
  match i,a with
  | 0,_=>exact Q.prt
  | 1,_=>exact R.prt
 have P:∀ k,Kk l k 2=k+Kk l 0 2:=λk=>by simp only [Kk];omega
 refine⟨λW S h T i a=>(j i a).ok W S (h i a) (λb c=>T b ⟨i,a,c⟩),λk W S h T i a=>(j i a).ky _ W S (h i a) (λb c=>T b ⟨i,a,c⟩),?_,?_,?_,?_⟩;·rintro W h b ⟨i,a,c⟩;exact (j i a).lt W (h i a) b c
 ·rintro k W h b ⟨i,a,c⟩;exact (j i a).ltm _ W (h i a) b c
 ·intro k W V h;refine (FD l k ok x y f g m n o p q r t u v w z A B F G L M N O W Q R d (by rw [P];exact V) ⟨λi a=>Z,λi _ a=>h i a⟩).mono ?_;rintro e X ⟨K,rfl,rfl,s,b⟩;exact⟨by rw [P],s.d,b⟩
 intro k W V h;refine (ED l k ok x y f g m n o p q r t u v w z A B F G L M N O W Q R d (by rw [P];exact V) ⟨h,λi a a=>Z⟩).mono ?_;rintro e X ⟨K,rfl,rfl,b⟩;exact⟨by rw [P],b⟩
def IT (a b:Prt):Nat->Prt
 | 0=>a
 | _=>b
theorem Rz8.px (z:Rz8 lo cf h l ws rs es W va vo vs vw vr vl ve) (a b) (T:Inv cf h) (V:Few k h) (hk:k<=302) (X:kz cf) (hn:l.length<=300) (Y:∀ y∈l,y.1.data.length<=4096) (hr:rs.length<=1000) :
  Px (.agg #[.bool true,va,I a,vo,vs,vw,vr,vl,ve,I b]) lo W:=by
 obtain⟨g,G,rfl,K,ap⟩:=Rz8.wt z.wl z.w;have L:(pQ h ws).length=12:=by unfold pQ;rw [JZ,List.length_zipIdx];exact z.wl
 have hq:∀ x∈pQ h ws,x.n+x.m<=48:=λx n=>by
  obtain⟨i,o⟩:=ek n;obtain⟨p,F,rfl⟩:=jz o;have c:=(Jr.1 F).1;have:=z.wl;have d:=T.mxl i Z;have e:=T.ffl i Z;have f:=X.mix;have j:=X.fifo;show (h.mx i).length+(h.ff i).length<=48;omega
 have hQ:=sF (pQ h ws) 48 hq;rw [L] at hQ;have hP:=sU l Y;have hI:=uH h 12 (Jo _);have hO:=ie h.m 283;have f1:=V.row;have f2:=V.rel;have M:(te l).length=l.length:=by unfold te;rw [JZ]
 have PA:=Dz va (te l) (by unfold te;exact List.Pairwise.map _ (λx y h=>h) z.ra.dis) (λx n=>by
  obtain⟨i,o⟩:=ek n;obtain⟨y,N,rfl⟩:=qQ o;exact Jp (Y y (JA N)) Z)
 have oA:=Rz8.an z.ra;have v:∀ b,vo.ownBlock=some b->Typ W b 3:=λb q=>hE z.o q
 have s:∀ b,vs.ownBlock=some b->Typ W b 102:=λb q=>hE z.s q
 have w:Typ W g 104:=by obtain ⟨c,e,_⟩:=K.typ;exact⟨c,e⟩
 have r:∀ x∈pQ h ws,∀ b,x.a=b\/x.b=b->Typ W b 3:=λx n b e=>by
  obtain⟨i,o⟩:=ek n;obtain⟨t,u,_,_,⟨d,f,_⟩,⟨j,m,_⟩⟩:=K.rst i x o;rcases e with rfl|rfl;·exact⟨d,f⟩
  exact⟨j,m⟩
 have u:∀ b,vr.ownBlock=some b->Typ W b 109:=λb q=>hE z.r q
 have A:∀ b,vl.ownBlock=some b->Typ W b 22:=λb q=>hE z.l q
 have B:∀ b,ve.ownBlock=some b->Typ W b 22:=λb q=>hE z.e q
 have O:∀ b,vo.ownBlock=some b->∀ x∈pQ h ws,x.a=b\/x.b=b->False:=λb q x n e=>by
  obtain⟨i,o⟩:=ek n;obtain⟨p,F,rfl⟩:=jz o;have d:=z.w.vo b q p (JA F);have f:=(z.w.at_ i p F).2.2.2;rcases e with e|e;·have:p.1=b:=e;omega
  have:p.2=b:=e;omega
 have P:∀ i j,i<6->j<6->i≠j->∀ b,(GJ vo vs vr vl ve g (pQ h ws) (aV h.m 283).length (I1 h 12).length rs.length h.row.length h.rel.length i).S b->¬(GJ vo vs vr vl ve g (pQ h ws) (aV h.m 283).length (I1 h 12).length rs.length h.row.length h.rel.length j).S b:=λi j o Q m b d f=>by
  match i,j,o,Q,m with
  | 0,1,_,_,_=>exact (v b d).ne (s b f) al
  | 0,2,_,_,_=>exact (by rcases f with rfl|⟨x,n,e⟩;exact (v b d).ne w al;exact O b d x n e)
  | 0,3,_,_,_=>exact (v b d).ne (u b f) al
  | 0,4,_,_,_=>exact (v b d).ne (A b f) al
  | 0,5,_,_,_=>exact (v b d).ne (B b f) al
  | 1,0,_,_,_=>exact (s b d).ne (v b f) al
  | 1,2,_,_,_=>exact (by rcases f with rfl|⟨x,n,e⟩;exact (s b d).ne w al;exact (s b d).ne (r x n b e) al)
  | 1,3,_,_,_=>exact (s b d).ne (u b f) al
  | 1,4,_,_,_=>exact (s b d).ne (A b f) al
  | 1,5,_,_,_=>exact (s b d).ne (B b f) al
  | 2,0,_,_,_=>exact (by rcases d with rfl|⟨x,n,e⟩;exact (v b f).ne w al;exact O b f x n e)
  | 2,1,_,_,_=>exact (by rcases d with rfl|⟨x,n,e⟩;exact (s b f).ne w al;exact (s b f).ne (r x n b e) al)
  | 2,3,_,_,_=>exact (by rcases d with rfl|⟨x,n,e⟩;exact (u b f).ne w al;exact (u b f).ne (r x n b e) al)
  | 2,4,_,_,_=>exact (by rcases d with rfl|⟨x,n,e⟩;exact (A b f).ne w al;exact (A b f).ne (r x n b e) al)
  | 2,5,_,_,_=>exact (by rcases d with rfl|⟨x,n,e⟩;exact (B b f).ne w al;exact (B b f).ne (r x n b e) al)
  | 3,0,_,_,_=>exact (u b d).ne (v b f) al
  | 3,1,_,_,_=>exact (u b d).ne (s b f) al
  | 3,2,_,_,_=>exact (by rcases f with rfl|⟨x,n,e⟩;exact (u b d).ne w al;exact (u b d).ne (r x n b e) al)
  | 3,4,_,_,_=>exact (u b d).ne (A b f) al
  | 3,5,_,_,_=>exact (u b d).ne (B b f) al
  | 4,0,_,_,_=>exact (A b d).ne (v b f) al
  | 4,1,_,_,_=>exact (A b d).ne (s b f) al
  | 4,2,_,_,_=>exact (by rcases f with rfl|⟨x,n,e⟩;exact (A b d).ne w al;exact (A b d).ne (r x n b e) al)
  | 4,3,_,_,_=>exact (A b d).ne (u b f) al
  | 4,5,_,_,_=>exact z.ne b d f
  | 5,0,_,_,_=>exact (B b d).ne (v b f) al
  | 5,1,_,_,_=>exact (B b d).ne (s b f) al
  | 5,2,_,_,_=>exact (by rcases f with rfl|⟨x,n,e⟩;exact (B b d).ne w al;exact (B b d).ne (r x n b e) al)
  | 5,3,_,_,_=>exact (B b d).ne (u b f) al
  | 5,4,_,_,_=>exact z.ne b f d
  | 0,0,_,_,m=>exact m rfl
  | 1,1,_,_,m=>exact m rfl
  | 2,2,_,_,m=>exact m rfl
  | 3,3,_,_,m=>exact m rfl
  | 4,4,_,_,m=>exact m rfl
  | 5,5,_,_,m=>exact m rfl
 have R:∀ i,i<6->∀ b,(GJ vo vs vr vl ve g (pQ h ws) (aV h.m 283).length (I1 h 12).length rs.length h.row.length h.rel.length i).S b->lo<=b/\∃ t,t≠81/\t≠5/\Typ W b t:=λi o b q=>by
  match i,o with
  | 0,_=>exact ⟨(aD z.o q).1,3,al,al,v b q⟩
  | 1,_=>exact ⟨(aD z.s q).1,102,al,al,s b q⟩
  | 2,_ =>
   rcases q with rfl|⟨x,n,e⟩;·exact⟨(aD z.w.row rfl).1,104,al,al,w⟩
   obtain⟨i,o⟩:=ek n;obtain⟨p,F,rfl⟩:=jz o;obtain⟨_,_,S,h4⟩:=z.w.at_ i p F;refine⟨?_,3,al,al,r _ n b e⟩;rcases e with e|e;·have:p.1=b:=e;omega
   have:p.2=b:=e;omega
  | 3,_=>exact ⟨(aD z.r q).1,109,al,al,u b q⟩
  | 4,_=>exact ⟨(aD z.l q).1,22,al,al,A b q⟩
  | 5,_=>exact ⟨(aD z.e q).1,22,al,al,B b q⟩
 have OW:∀ i,i<6->(GJ vo vs vr vl ve g (pQ h ws) (aV h.m 283).length (I1 h 12).length rs.length h.row.length h.rel.length i).own W:=λi o=>by
  match i,o with
  | 0,_=>exact Ow1.own z.o
  | 1,_=>exact jR z.s
  | 2,_=>exact K
  | 3,_=>exact jR z.r
  | 4,_=>exact Db z.l
  | 5,_=>exact Db z.e
 have C0:=Ar vo (aV h.m 283).length Z;have C1:=Dk vs (I1 h 12).length Z;have C2:=Gy g G (pQ h ws) ap Z Z;have C3:=DD vr rs.length Z;have C4:=yJ vl h.row.length Z;have C5:=yJ ve h.rel.length Z;have S:∀ b,(va.ownBlock=some b\/∃ x∈te l,x.2.ownBlock=some b)->lo<=b/\(Typ W b 81\/Typ W b 5):=λb q=>by
  rcases q with q|⟨x,n,e⟩;·exact⟨(aD z.ra.row q).1,.inl (hE z.ra.row q)⟩
  obtain⟨i,o⟩:=ek n;obtain⟨y,N,rfl⟩:=qQ o;have:=z.ra.dat y (JA N);exact⟨(aD this e).1,.inr (hE this e)⟩
 obtain⟨_,_,e6⟩:=aG z.ra.row;obtain⟨_,_,e0⟩:=aG z.o;obtain⟨_,_,e1⟩:=aG z.s;obtain⟨_,_,e3⟩:=aG z.r;obtain⟨_,_,e4⟩:=aG z.l;obtain⟨_,_,e5⟩:=aG z.e;clear v s w u r A B O z hq;subst e0 e1 e3 e4 e5 e6;have w:=DG (GJ _ _ _ _ _ g (pQ h ws) (aV h.m 283).length (I1 h 12).length rs.length h.row.length h.rel.length) a b _ _ _ _ _ _ _ _ _ _ _ _ _ _ _ _ _ _ C0 C1 C2 C3 C4 C5 P;refine⟨_,_,_,_,Df (IT ⟨_,_,_,_⟩ ⟨_,_,_,_⟩) true a b _ _ _ _ _ _ _ _ _ _ _ _ _ _ _ _ _ _ _ _ _ PA w ?_,?_,?_,?_⟩
 ·intro i j o Q m c d f
  match i,j,o,Q,m with
  | 0,0,_,_,m=>exact m rfl
  | 1,1,_,_,m=>exact m rfl
  | 0,1,_,_,_ =>
   obtain⟨i,o,r⟩:=f;obtain⟨_,t,u,v,s⟩:=R i o c r;rcases (S c d).2 with h|h;·exact s.ne h u
   exact s.ne h v
  | 1,0,_,_,_ =>
   obtain⟨i,o,r⟩:=d;obtain⟨_,t,u,v,s⟩:=R i o c r;rcases (S c f).2 with h|h;·exact s.ne h u
   exact s.ne h v
 ·intro i o
  match i,o with
  | 0,_=>exact oA
  | 1,_=>exact OW
 ·rintro c ⟨i,o,r⟩
  match i,o with
  | 0,_=>exact (S c r).1
  | 1,_ =>
   obtain⟨i,o,r⟩:=r;exact (R i o c r).1
 show 1+(0+(3*(te l).length+fx (te l))+(0+(aV h.m 283).length+(I1 h 12).length*5+dy (pQ h ws)+rs.length*5+h.row.length+h.rel.length))<=100000000;rw [M];omega
theorem Hh:Pq 76 82 (C) (λ_=>False) 0 (λ_=>True) (λ_ _=>True):=by
 refine⟨λ_ _ _ _=>trivial,λ_ _ _ _ _=>trivial,λ_ _ _ h=>h.elim,λ_ _ _ _ h=>h.elim,?_,?_⟩;·intro k W a _;go_enter func76,ntmps76;go_wp2;refine A9 1 ?_;rw [IA];go_wp2;go_ret;exact⟨rfl,trivial,Bt.refl _ _⟩
 intro k W a _;go_enter func82,ntmps82;go_wp2;refine A9 1 ?_;rw [IA];go_wp2;go_ret;exact⟨rfl,Jn _ _⟩
theorem Pq.weak {F S own md} (h:Pq F G v S n own md) (a:∀ W,own W) (d:∀ b,¬S b):Pq F G v (λ_=>False) n (λ_=>True) md :=
 ⟨λ_ _ _ _=>trivial,λk W c m _=>h.ky k W c m (λb c=>absurd c (d b)),λ_ _ _ h=>h.elim,λ_ _ _ _ h=>h.elim,λk W e _=>(h.mark k W e (a W)).mono (λe a ⟨a,b,c⟩=>⟨a,b,c.mono (λg a=>absurd a (d g))⟩),h.held⟩
def Jf (a b c d:Nat->World->Prop) (e f:Nat->World->Prop):Nat->Prt
 | 0=>⟨λ_=>False,0,λ_=>True,a⟩
 | 1=>⟨λ_=>False,0*5,λ_=>True,b⟩
 | 2=>⟨λ_=>False,0,λ_=>True,c⟩
 | 3=>⟨λ_=>False,0*5,λ_=>True,d⟩
 | 4=>⟨λ_=>False,0,λ_=>True,e⟩
 | _=>⟨λ_=>False,0,λ_=>True,f⟩
theorem Hf (lo W):Px (.agg IM) lo W:=by
 have n:=(Ar (C) 0 Z).weak (λW=>.inl ⟨rfl,rfl⟩) (λb a=>by cases a);have o:=(Dk (C) 0 Z).weak (λW=>.inl ⟨rfl,rfl⟩) (λb a=>by cases a);have p:=(DD (C) 0 Z).weak (λW=>.inl ⟨rfl,rfl⟩) (λb a=>by cases a);have m:=(yJ (C) 0 Z).weak (λW=>.inl ⟨rfl,rfl⟩) (λb a=>by cases a);have q:=(Dz (C) [] List.Pairwise.nil (λx g=>by cases g)).weak (λW=>.inl ⟨rfl,rfl⟩) (λb a=>by rcases a with a|⟨x,g,_⟩;cases a;cases g);have r:=DG (Jf _ _ _ _ _ _) 0 0 _ _ _ _ _ _ _ _ _ _ _ _ _ _ _ _ _ _ n o Hh p m m (λi j d s k b e=>by
  match i,d with
  | 0,_=>exact e.elim
  | 1,_=>exact e.elim
  | 2,_=>exact e.elim
  | 3,_=>exact e.elim
  | 4,_=>exact e.elim
  | 5,_=>exact e.elim)
 have l:=r.weak (λW i d=>by
  match i,d with
  | 0,_=>exact trivial
  | 1,_=>exact trivial
  | 2,_=>exact trivial
  | 3,_=>exact trivial
  | 4,_=>exact trivial
  | 5,_=>exact trivial) (λb ⟨i,d,f⟩=>by
  match i,d with
  | 0,_=>exact f
  | 1,_=>exact f
  | 2,_=>exact f
  | 3,_=>exact f
  | 4,_=>exact f
  | 5,_=>exact f)
 refine⟨_,_,_,_,Df (IT ⟨_,_,_,_⟩ ⟨_,_,_,_⟩) false 0 0 _ _ _ _ _ _ _ _ _ _ _ _ _ _ _ _ _ _ _ _ _ q l ?_,?_,?_,?_⟩
 ·intro i j d s k c e t
  match i,d with
  | 0,_=>exact e
  | 1,_=>exact e
 ·intro i d
  match i,d with
  | 0,_=>exact trivial
  | 1,_=>exact trivial
 ·rintro c ⟨i,d,f⟩
  match i,d with
  | 0,_=>exact f.elim
  | 1,_=>exact f.elim
 show 1+(0+(3*0+0)+(0+0+0*5+0+0*5+0+0))<=100000000;omega
def Hx (cf:Cf) (os:List eL):Hs:=(ch cf os (bC cf) []).1
def Ax (cf:Cf) (os:List eL):List An4:=(ch cf os (bC cf) []).2
def RX (ok:Prop) (cf:Cf) (os:List eL) (v:Value) (W:World):Prop:=(¬ok/\v=.agg IM)\/(ok/\∃ va vo vs vw vr vl ve rs es,v=.agg #[.bool true,va,I (bG (Hx cf os).m 283),vo,vs,vw,vr,vl,ve,I ((Hx cf os).used:Nat)]/\(rs.Perm (Hx cf os).rg/\rs.Pairwise (λa b=>a.base<=b.base))/\(es.Perm (Hx cf os).rel/\es.Pairwise (λa b=>a<=b))/\Rr8 cf (Hx cf os) (Ax cf os) rs es W va vo vs vw vr vl ve)
def IX (lo:Nat) (ok:Prop) (cf:Cf) (os:List eL) (v:Value) (W:World):Prop:=(¬ok/\v=.agg IM)\/(ok/\∃ va vo vs vw vr vl ve l ws rs es,v=.agg #[.bool true,va,I (bG (Hx cf os).m 283),vo,vs,vw,vr,vl,ve,I ((Hx cf os).used:Nat)]/\l.map (·.1)=Ax cf os/\(rs.Perm (Hx cf os).rg/\rs.Pairwise (λa b=>a.base<=b.base))/\(es.Perm (Hx cf os).rel/\es.Pairwise (λa b=>a<=b))/\Rz8 lo cf (Hx cf os) l ws rs es W va vo vs vw vr vl ve)
theorem RX.below {ok cf os v W W'} (h:RX ok cf os v W) (b:D W W'):RX ok cf os v W':=by
 rcases h with h|⟨a,va,vo,vs,vw,vr,vl,ve,rs,es,e,c,d,f⟩;·exact .inl h
 exact .inr ⟨a,va,vo,vs,vw,vr,vl,ve,rs,es,e,c,d,f.below b⟩
theorem IX.kp {lo ok cf os v W} {W':World} (h:IX lo ok cf os v W) (a:∀ g,lo<=g->g<W.heap.size->W'.heap[g]?=W.heap[g]?):IX lo ok cf os v W':=by
 rcases h with h|⟨a,va,vo,vs,vw,vr,vl,ve,l,ws,rs,es,e,b,c,d,f⟩;·exact .inl h
 exact .inr ⟨a,va,vo,vs,vw,vr,vl,ve,l,ws,rs,es,e,b,c,d,f.kp (by assumption)⟩
theorem IX.rx (h:IX lo ok cf os v W):RX ok cf os v W:=by
 rcases h with h|⟨a,va,vo,vs,vw,vr,vl,ve,l,ws,rs,es,e,b,c,d,f⟩;·exact .inl h
 exact .inr ⟨a,va,vo,vs,vw,vr,vl,ve,rs,es,e,c,d,by rw [<-b];exact f.rr⟩
theorem RX.form (h:RX ok cf os v W):∃ (b:Bool) (x y:Int) (a:Option Addr) (c d:Nat) (e:Option Addr) (f g:Nat) (i:Option Addr) (j k:Nat) (l:Option Addr) (m n:Nat) (o:Option Addr) (p q:Nat) (r:Option Addr) (s t:Nat) (u:Option Addr) (w z:Nat),v=.agg #[.bool b,.slice a c d,I x,.slice e f g,.slice i j k,.slice l m n,.slice o p q,.slice r s t,.slice u w z,I y]:=by
 rcases h with ⟨_,h⟩|⟨g,va,vo,vs,vw,vr,vl,ve,rs,es,e,i,j,c⟩;·exact⟨_,_,_,_,_,_,_,_,_,_,_,_,_,_,_,_,_,_,_,_,_,_,_,_,h⟩
 obtain⟨a,d,_⟩:=c.a;obtain⟨b,f,_⟩:=c.q;obtain⟨_,_,_,rfl⟩:=d.sl;obtain⟨_,_,_,rfl⟩:=f.sl;obtain⟨_,_,_,rfl⟩:=c.o.sl;obtain⟨_,_,_,rfl⟩:=c.s.sl;obtain⟨_,_,_,rfl⟩:=c.r.sl;obtain⟨_,_,_,rfl⟩:=c.l.sl;obtain⟨_,_,_,rfl⟩:=c.e.sl;exact⟨_,_,_,_,_,_,_,_,_,_,_,_,_,_,_,_,_,_,_,_,_,_,_,_,e⟩
theorem yL (a:kz cf) (d:os.length<=300):Inv cf (Hx cf os)/\Few 300 (Hx cf os):=by
 obtain⟨b,c⟩:=kf cf a.fifo1 os (bC cf) [] 0 (Inv.new cf) (Few.new cf);exact⟨b,c.mono Z⟩
theorem yV (cf os):(Ax cf os).length=os.length:=by
 have:=j_ cf os (bC cf) [];simpa [Ax] using this
theorem vF (cf os):∀ x∈Ax cf os,x.data.length<=4096:=pF cf os (bC cf) [] (λx a=>by cases a)
theorem Jc {v1 v2} (p:RX ok cf os v1 W) (m:RX ok cf os v2 W) (f:ok->kz cf/\os.length<=300) :
  Calls prog 10 #[v1,v2] W λe q=>e=.returned (.bool true)/\D W q:=by
 rcases p with ⟨g,rfl⟩|⟨b,va,vo,vs,vw,vr,vl,ve,rs,es,rfl,j,l,r⟩
 ·rcases m with ⟨_,rfl⟩|⟨b,_⟩
  ·have c:∀ (V:World) (sz:Nat),Re V (C) 0 sz (λ_=>[]):=λV sz=>⟨none,0,rfl,λk b=>Z⟩
   have d:∀ (V:World) (k:IntKind),Rd1 k V (C) []:=λV k=>⟨none,0,rfl,λi n=>by simp at n⟩
   refine Dd false 0 0 none none 0 0 0 0 none none 0 0 0 0 none none 0 0 0 0 none none 0 0 0 0 none none 0 0 0 0 none none 0 0 0 0 none none 0 0 0 0 W (λV _=>DU _ _ 0 _ _ V Z (c V 4) (c V 4) (λk b=>Z)) (λV _=>?_);exact F1 0 0 none none 0 0 0 0 none none 0 0 0 0 none none 0 0 0 0 none none 0 0 0 0 none none 0 0 0 0 none none 0 0 0 0 V (λa _=>As _ _ [] a (d a _) (d a _) bh) (λa _=>C_ _ _ 0 _ _ a Z (c a 5) (c a 5) (λk b=>Z)) (λa _=>Dv _ _ 0 _ _ a Z (c a 3) (c a 3) (λk b=>Z)) (λa _=>Dj _ _ 0 _ _ a Z (c a 5) (c a 5) (λk b=>Z)) (λa _=>AM _ _ [] a (d a _) (d a _) bh) (λa _=>AM _ _ [] a (d a _) (d a _) bh)
  exact absurd b g
 rcases m with ⟨g,_⟩|⟨_,s,t,u,v,w,x,y,z,A,rfl,c,d,B⟩;·exact absurd b g
 obtain⟨i,n⟩:=f b;obtain⟨o,a⟩:=yL i n;have F:=Gn o j.1 j.2 c.1 c.2;have G:=Ge l.1 l.2 d.1 d.2;subst F G;have K:=j.1.length_eq;have L:=l.1.length_eq;have f1:=a.rg;have f2:=a.rel;exact If r B _ _ o a Z i (by rw [yV];exact n) (vF cf os) Z Z
theorem IX.px {lo ok cf os v W} (h:IX lo ok cf os v W) (a:ok->kz cf/\os.length<=300):Px v lo W:=by
 rcases h with ⟨_,rfl⟩|⟨e,va,vo,vs,vw,vr,vl,ve,l,ws,rs,es,rfl,b,f,k,g⟩;·exact Hf lo W
 obtain⟨c,i⟩:=a e;obtain⟨j,d⟩:=yL c i;have m:=f.1.length_eq;have f1:=d.rg;have n:l.length=os.length:=by rw [<-yV cf os,<-b,JZ]
 exact g.px _ _ j d Z c Z (λy a=>vF cf os y.1 (by rw [<-b];exact List.mem_map_of_mem a)) Z
def oh (mi fi la bu ky:Int) (ds:List Int):Cf:=⟨mi.toNat,fi.toNat,la.toNat,bu.toNat,ky,ds⟩
theorem tJ {c e f g a:Int} {b:List Int} (h:ir c e f g b.length) (i:∀ d∈b,(Lit.int .i64 d).wf=true) (d:0<=a/\a<18446744073709551616):kz (oh c e f g a b)/\1<=(oh c e f g a b).large:=by
 unfold ir at h;refine⟨⟨h.2.2.2.2.2.2.2.2,i,d.1,d.2,?_,?_,?_,?_,?_⟩,?_⟩ <;> simp only [oh] <;> omega
theorem Dx {mi fi la bu ky} {a:List Int} (h:ir mi fi la bu a.length) (g):.agg #[I mi,I fi,I la,I bu,U ky,Vl g a.length a.length]=jX (oh mi fi la bu ky a) (some ⟨g,0,none⟩) a.length:=by
 unfold ir at h;unfold jX oh;simp only;rw [Ls Z,Ls Z,Ls Z,Ls Z]
theorem Ef (mi fi la bu) (f:Int) (a:List Int) (g B G) (ops:List cH) (gs W) (u:RowV W g 3 (Ns .i64 a)) (c:Cp B W G ops.length ops gs) (x:GQ ops) (y:∀ d∈a,(Lit.int .i64 d).wf=true) (z:0<=f/\f<18446744073709551616) :
  Calls prog 6 #[.agg #[I mi,I fi,I la,I bu,U f,Vl g a.length a.length],Vl G ops.length ops.length] W λe i=>∃ v,e=.returned v/\RX (ir mi fi la bu a.length/\ops.length<=300) (oh mi fi la bu f a) (ops.map cH.o) v i/\D W i:=by
 by_cases d:ir mi fi la bu a.length/\ops.length<=300;·rw [Dx d.1];obtain⟨A,F⟩:=tJ d.1 y z;have K:=l_ c.hl;have L:=zc c x;have:=uL (oh mi fi la bu f a) (some ⟨g,0,none⟩) a.length (some ⟨G,0,none⟩) ops.length (mI ops gs) W A F (.inr ⟨g,rfl,u⟩) L Z;rw [K] at this;refine this.mono ?_;rintro e i ⟨l,va,R,S,T,V,X,Y,m6,m7,rfl,rp⟩;obtain⟨M,b,j,⟨vo,vs,vw,vr,vl,ve,ws,rs,es,t,o,s,⟨N,w⟩,⟨k,m,r⟩,O,n,p,P⟩,q⟩:=rp;rw [zC ops gs c.hl] at *;simp at t;obtain⟨rfl,rfl,rfl,rfl,rfl,rfl,rfl,rfl⟩:=t;refine⟨_,rfl,.inr ⟨d,va,_,_,_,_,_,_,rs,es,rfl,⟨k,m⟩,⟨n,p⟩,?_⟩,q⟩;have Q:Ax (oh mi fi la bu f a) (ops.map cH.o)=l.map (·.1):=M.symm;rw [Q];exact⟨yZ b j,kL o,jA s,Ha N w,jA r,vt O,vt P⟩
 refine (om mi fi la bu f (some ⟨g,0,none⟩) a.length a.length (some ⟨G,0,none⟩) ops.length ops.length W d).mono ?_;rintro e i ⟨rfl,b⟩;exact⟨_,rfl,.inl ⟨d,rfl⟩,b⟩
theorem E8 (mi fi la bu) (i:Int) (f:List Int) (g B G) (ops:List cH) (gs W) (N:Tb W) (x:RowV W g 3 (Ns .i64 f)) (c:Cp B W G ops.length ops gs) (O:GQ ops) (hw:∀ d∈f,(Lit.int .i64 d).wf=true) (hk:0<=i/\i<18446744073709551616) :
  Calls prog 9 #[.agg #[I mi,I fi,I la,I bu,U i,Vl g f.length f.length],Vl G ops.length ops.length] W λe m=>∃ v,e=.returned v/\IX W.heap.size (ir mi fi la bu f.length/\ops.length<=300) (oh mi fi la bu i f) (ops.map cH.o) v m/\D W m:=by
 by_cases j:ir mi fi la bu f.length/\ops.length<=300
 ·rw [Dx j.1];obtain⟨dk,l1⟩:=tJ j.1 hw hk;have hl:=l_ c.hl;have ou:=zc c O;have:=uQ Dr (Cz Ex AY) (oh mi fi la bu i f) (some ⟨g,0,none⟩) f.length (some ⟨G,0,none⟩) ops.length (mI ops gs) W dk l1 N (.inr ⟨g,rfl,x⟩) (λa ha=>by cases ha;exact x.lt) (Nat.lt_of_le_of_lt (Jt _) x.lt) ou (D9 O) Z;rw [hl] at this;refine this.mono ?_;rintro e m ⟨B9,y,l,va,m0,P,Q,R,S,T,Y,m7,V,q,X,rfl,hB,a,⟨vo,vs,vw,vr,vl,ve,ws,rs,es,hm,o,s,⟨wl,w⟩,⟨z,A,r⟩,l9,⟨F,K,e9⟩,ne⟩,bV,hX,rfl,L,a0⟩;simp at hm;obtain⟨rfl,rfl,rfl,rfl,rfl,rfl,rfl,rfl⟩:=hm;have h0:=a.ls;have ra:=a.ra.below bV;have t:=a.bel.size;have M:=Below.setRow (a.bel.trans (bV.mono t)) L #[.bool true,va,I (bG (ch (oh mi fi la bu i f) ((mI ops gs).map cH.o) (bC (oh mi fi la bu i f)) []).1.m 283),P,Q,R,S,T,Y,I ((ch (oh mi fi la bu i f) ((mI ops gs).map cH.o) (bC (oh mi fi la bu i f)) []).1.used:Nat)];have b:=(Ky.grown hX rfl (ar q X #[.bool true,va,I (bG (ch (oh mi fi la bu i f) ((mI ops gs).map cH.o) (bC (oh mi fi la bu i f)) []).1.m 283),P,Q,R,S,T,Y,I ((ch (oh mi fi la bu i f) ((mI ops gs).map cH.o) (bC (oh mi fi la bu i f)) []).1.used:Nat)]):Ky (· = 37) q _);have d:=ra.ky b al al;have u:=w.ky b al al;have k:∀ {e sz n:Nat} {v:Value} {xs:List Value},q.ownsRow V.heap.size e sz v n xs->e≠37->(q.setRow X _).ownsRow W.heap.size e sz v n xs:=λh he=>cv (ai h b he) t
  rw [zM] at h0;rw [zC ops gs c.hl] at *;refine⟨_,rfl,.inr ⟨j,va,_,_,_,_,_,_,l,ws,rs,es,rfl,h0,⟨z,A⟩,⟨F,K⟩,⟨⟨cv d.row hB,λy hy=>cv (d.dat y hy) hB,d.dis⟩,k o al,k s al,wl,⟨cv u.row t,λc p hp=>?_,u.ord,u.vo⟩,k r al,k l9 al,k e9 al,ne⟩⟩,M⟩;obtain⟨a1,a2,a3,a4⟩:=u.at_ c p hp;exact⟨a1,a2,Jp t a3,a4⟩
 refine (ox mi fi la bu i (some ⟨g,0,none⟩) f.length f.length (some ⟨G,0,none⟩) ops.length ops.length W N j).mono ?_;rintro e m ⟨rfl,b⟩;exact⟨_,rfl,.inl ⟨j,rfl⟩,b⟩
theorem Ei (mi fi la bu ky) (a:List Int) (g w) (c:RowV w g 3 (Ns .i64 a)) (j:a.length<=1048576) :
  Calls prog 13 #[.agg #[I mi,I fi,I la,I bu,U ky,Vl g a.length a.length],I 1] w λe k=>e=.returned (I (1+a.length:Nat))/\Bt (λb=>b=g) w k:=by
 have d:D w (w.alloc (.cells #[I mi,I fi,I la,I bu,U ky,Vl g a.length a.length] 39)):=(Jn _ _).alloc (Jo _) _;have f:=H ((Ar (Vl g a.length a.length) a.length j).mark 1 _ Z (.inr ⟨g,a.length,a,rfl,rfl,c.below d c.lt⟩));have i:=H (show Bt (λb=>b=g) w (w.alloc (.cells #[I mi,I fi,I la,I bu,U ky,Vl g a.length a.length] 39)) from (Bt.refl _ _).bel d);clear d c;go_enter func13,ntmps13;go_wp2_with fail;refine (f).mono ?_;rintro e m ⟨rfl,_,d⟩;have l:=H ((i.trans d).mono (T:=λb=>b=g) (λb c=>by rcases c with c|c;exact c;cases c;rfl));clear f i d;go_wp2;go_ret;exact⟨rfl,l⟩
def EZ (ops:List cH) (gs:List Nat):List Pw:=(mI ops gs).map λq=>(q.o.ys.length,.slice q.d q.o.ys.length q.dc)
theorem rA:∀ (ops:List cH) (gs:List Nat),gs.length=ops.length->fx (EZ ops gs)=jF ops
 | [],_,_=>rfl
 | o::r,[],h=>by simp at h
 | o::r,g::s,h=>by
  have:=rA r s (by simpa using h)
  simp only [EZ,mI,List.zipWith_cons_cons,KV,fx,jF] at this ⊢
  rw [this]
  rfl
theorem ny {x:Pw} (h:(EZ ops gs)[k]?=some x):∃ o g,ops[k]?=some o/\gs[k]?=some g/\x=(o.o.ys.length,Vl g o.o.ys.length o.o.ys.length):=by
 unfold EZ at h;rw [J6] at h;cases e:(mI ops gs)[k]? with
 | none=>rw [e] at h;simp at h
 | some q =>
  rw [e] at h;simp at h;obtain⟨o,g,a,b,rfl⟩:=nZ e;exact⟨o,g,a,b,h.symm⟩
theorem Fl (B G n) (l:Nat) (ops gs w) (c:Cp B w G n ops gs) (u:ops.length=n) (N:n+jF ops<=1048576) (O:l<=2000000) :
  Calls prog 14 #[Vl G n n,I l] w λe t=>∃ r:Nat,e=.returned (I r)/\Bt (λb=>b=G\/b∈gs) w t:=by
 have v:(EZ ops gs).length=n:=by unfold EZ;rw [JZ,l_ c.hl,u]
 have hT:=rA ops gs c.hl;refine (Ek G n n l (EZ ops gs) w ⟨?_,λi x a=>?_,λi x _ h=>Z,λi x a=>?_,Bt.refl _ _⟩ ?_ v Z (λx a=>?_)).mono ?_;·obtain⟨d,k,p⟩:=c.typ;exact⟨d,k,Z⟩
 ·obtain⟨o,g,f,d,rfl⟩:=ny a;exact (c.at_ i o g f d).1 5 _ rfl
 ·obtain⟨o,g,f,d,rfl⟩:=ny a;exact .inr ⟨g,_,o.o.ys,rfl,rfl,(c.at_ i o g f d).2.1⟩
 ·rw [Lq];intro i j q y m b k p;obtain⟨o,g,f,d,z⟩:=ny (Jq q);obtain⟨P,Q,A,r,s⟩:=ny (Jq y);rw [z] at k;rw [s] at p;cases k;cases p;obtain⟨F,K⟩:=Jr.1 d;obtain⟨L,M⟩:=Jr.1 r;exact (Lq.1 c.nd) i j F L m (by rw [K,M])
 ·have:=se a;omega
 rintro e t ⟨rfl,m⟩;refine⟨_,rfl,m.bt.mono (λb j=>?_)⟩;rcases j with rfl|⟨x,a,e⟩;·exact .inl rfl
 obtain⟨i,q⟩:=ek a;obtain⟨o,g,f,d,rfl⟩:=ny q;cases e;exact .inr (JA d)
theorem Hc (mi fi la bu ky) (a:List Int) (g g' w) (d:RowV w g 3 (Ns .i64 a)) (c:RowV w g' 3 (Ns .i64 a)) (f:a.length<=1048576) :
  Calls prog 11 #[.agg #[I mi,I fi,I la,I bu,U ky,Vl g a.length a.length],.agg #[I mi,I fi,I la,I bu,U ky,Vl g' a.length a.length]] w λe i=>e=.returned (.bool true)/\D w i :=
 ac mi fi la bu ky _ _ _ _ _ _ w λW b=>As _ _ a W ((jb d _).below b) ((jb c _).below b) f
def Fy (ops:List cH) (gs:List Nat) (k:Nat):List Value:=((mI ops gs)[k]?.map gF).getD []
theorem De (c:Cp B w G n ops gs) (i:ops.length=n):Re w (Vl G n n) n 6 (Fy ops gs):=by
 refine⟨_,_,rfl,λk j=>?_⟩;have l:=l_ c.hl;have e:(mI ops gs)[k]?=some (mI ops gs)[k]:=Jq Z;obtain⟨o,g,a,b,d⟩:=nZ e;have f:Fy ops gs k=gF (xW o g):=by unfold Fy;rw [e,d];rfl
 rw [f];exact⟨rfl,G,rfl,(c.at_ k o g a b).1⟩
theorem GH {B' G' gs'} (c:Cp B w G n ops gs) (f:Cp B' w G' n ops gs') (g:ops.length=n) (r:n+jF ops<=1048576) :
  Calls prog 12 #[Vl G n n,Vl G' n n] w λe l=>e=.returned (.bool true)/\D w l:=by
 refine Gi _ _ n _ _ w Z (De c g) (De f g) λk s W b=>?_;have a:ops[k]?=some ops[k]:=Jq Z;have t:=c.hl;have u:=f.hl;have i:gs[k]?=some gs[k]:=Jq Z;have d:gs'[k]?=some gs'[k]:=Jq Z;obtain⟨_,m,_⟩:=c.at_ k _ _ a i;obtain⟨_,o,_⟩:=f.at_ k _ _ a d;have p:Fy ops gs k=gF (xW ops[k] gs[k]):=by unfold Fy mI;rw [List.getElem?_zipWith,a,i];rfl
 have q:Fy ops gs' k=gF (xW ops[k] gs'[k]):=by unfold Fy mI;rw [List.getElem?_zipWith,a,d];rfl
 rw [p,q];have v:ops[k].o.ys.length<=jF ops:=ri (JA a);exact FY _ _ _ _ _ _ _ _ _ _ _ W λV j=>GK _ _ _ V (((jb m _).below b).below j) (((jb o _).below b).below j) Z
end
end Go.Proofs.YtdfodlhkdmkfdaaGreatDoor
