import Derived.Test.YtibblbenmpcplaaGreatDoorN10
set_option linter.unusedVariables false
set_option linter.unusedSimpArgs false
set_option maxRecDepth 20000
set_option maxHeartbeats 8000000
namespace Go.Proofs.YtibblbenmpcplaaGreatDoor
open Go.Proofs.Tryz
variable {B P Q k n r:Nat} {h:Hs} {bud:Int} {m:Nat->Option (Bool×List Int)} {W W' W0:World} {x:Sm} {cf:Cf} {F:Nat->Value} {S:TypeId->Prop}
section
open Go.RowKit
def Zn (zs:List Nat):List Value:=zs.map λ(n:Nat)=>Value.int .i64 (n:Int)
theorem yV (a:List Nat) (n:Nat):Zn (a++[n])=Zn a++[I (n:Int)]:=by simp [Zn]
def jr (e:List Int) (z:Int) (k r:Nat):List Nat:=if (e.take r).contains z then [k] else []
theorem yE {a:List Int} {z:Int} (d:a.Nodup) (h:a[r]?=some z):jr a z k r=[]/\jr a z k (r+1)=[k]:=by
 have f:=(Fz.1 h).1;have b:(a.take r).contains z=false:=by
  rw [List.contains_eq_mem,decide_eq_false_iff_not];intro g;obtain⟨i,c⟩:=He g;have e:=(Fz.1 c).1;rw [Hm] at e;rw [Hf Z] at c;have j:=II.1 d i r Z f Z;rw [Fy Z] at c h;simp at c h;exact j (c.trans h.symm)
 refine⟨by unfold jr;rw [b];rfl,?_⟩;unfold jr;rw [F_,h];simp
theorem z8 {a:List Int} {z y:Int} (b:z≠y) (h:a[r]?=some y):jr a z k (r+1)=jr a z k r:=by
 unfold jr;rw [F_,h];simp [b]
theorem Ci:(prog.info? 3).map (λi=>(i.zero,i.size,i.bytes))=some (some (I 0),1,8):=E
theorem yC (B x cf h) (c s:Nat) (a) (b R:Nat) (sts W) (f:Sh B x cf h W) (d:Sl W a sts) (g:sts.length=b) (S:sts.Nodup) (a6:b<=3) :
  Calls prog 206 #[J x.P 0,I c,I s,.slice a b R] W λe W'=>∃ v,e=.returned v/\W'.ownsRow W.heap.size 3 1 v (jc h c s sts 1062).length (Zn (jc h c s sts 1062))/\D W W':=by
 obtain⟨i0,T,Y,a0,a3⟩:=G0 Ci;have c7:W.cell? ⟨x.P,7,none⟩=some (Vl x.G 1062 x.gc):=f.cell 7 _ rfl;have HS:=H f;have HT:=H d.cells;have HL:=H g;clear f d g;go_enter func206,ntmps206;go_wp2;go_loopw [9,19] (λv i wr=>∃ k:Nat,k<=1062/\i=I k/\Hid (wr.ownsRow W.heap.size 3 1 v (jc h c s sts k).length (Zn (jc h c s sts k)))/\Hid (D W wr)) (λ_ i _=>1062-(intOf i).toNat);case atStart=>exact ⟨0,FH _,rfl,H ⟨rfl,.inl ⟨rfl,rfl⟩⟩,H (Fu _ _)⟩
 case round =>
  obtain⟨k,hk,rfl,HO,M⟩:=hrel;by_cases a4:k<1062
  ·obtain⟨d0,d1,d2,d3,d4,d5⟩:=(HS.below M).slot a4;have HN:=H (xH h c s sts k);have a7:=zJ h c s sts k;obtain⟨va,vb,vc,rfl⟩:∃ p l N,u9=.slice p l N:=by rcases HO.2 with ⟨rfl,_⟩|⟨g,cp,a5,rfl,_⟩ <;> exact ⟨_,_,_,rfl⟩
   have n:=H (HO.alloc (.cells #[I ((sA k).1:Nat),I ((sA k).2.1:Nat),I ((sA k).2.2:Nat),U (gt k:Nat),I (dC h k),I (fJ h k)] 126));have o:=H (M.alloc M.size (.cells #[I ((sA k).1:Nat),I ((sA k).2.1:Nat),I ((sA k).2.2:Nat),U (gt k:Nat),I (dC h k),I (fJ h k)] 126));have O:=H (ao wr (.cells #[I ((sA k).1:Nat),I ((sA k).2.1:Nat),I ((sA k).2.2:Nat),U (gt k:Nat),I (dC h k),I (fJ h k)] 126));by_cases hc:(sA k).1=c
   ·by_cases d:(sA k).2.1=s
    ·have HF:=H (show jc h c s sts (k+1)=jc h c s sts k++jr sts (dC h k) k sts.length by
      rw [HN.out];unfold jr;rw [Ge (Fv _)];simp [hc,d])
     have a8:(jc h c s sts k).length<=1062:=Z;generalize f:jc h c s sts k=q at *;clear f;generalize dC h k=z at *;generalize fJ h k=z2 at *;generalize gt k=z3 at *;generalize (sA k).2.2=e3 at *;generalize (sA k).1=t at *;generalize (sA k).2.1=P at *;subst hc;subst d;have w:(wr.alloc (.cells #[I t,I P,I e3,U z3,I z,I z2] 126)).heap[wr.heap.size]?=some (.cells #[I t,I P,I e3,U z3,I z,I z2] 126):=O.out;go_wp2;generalize wr.alloc _=V at n o O w ⊢;have f:=H (show wr.heap.size<=wr.heap.size from Fv _);generalize wr.heap.size=X at O w ⊢;clear d0 d1 d2 d3 d4 d5 O f;have f:decide ((k:Int)<1062)=true:=bG;simp only [f];clear f;have O0:=H (show V.ownsRow W.heap.size 3 1 (.slice va vb vc) (q++jr sts z k 0).length (Zn (q++jr sts z k 0)) by simpa [jr] using n.out);have X0:=H w;clear n w;go_loopw [9,36] (λv i f=>∃ r:Nat,r<=b/\i=I r/\Hid (f.ownsRow W.heap.size 3 1 v (q++jr sts z k r).length (Zn (q++jr sts z k r)))/\Hid (D W f)/\Hid (f.heap[X]?=some (.cells #[I t,I P,I e3,U z3,I z,I z2] 126))) (λ_ i _=>b-(intOf i).toNat);(case atStart=>exact ⟨0,FH _,rfl,O0,o,X0⟩);case round =>
      obtain⟨r,hr,rfl,A,F,Q⟩:=hrel;clear O0 o X0;by_cases G:r<b
      ·obtain⟨g,rfl,f⟩:=HT.out r (by rw [HL.out];exact G);have j:=ad F f;have w:wr.cell? ⟨X,4,none⟩=some (I z):=(by simp [World.cell?,Q.out]);obtain⟨y,K⟩:∃ y,sts[r]?=some y:=⟨_,Fy (by rw [HL.out];exact G)⟩;rw [K] at j;simp only [Ht] at j;obtain⟨a9,b0,b4,rfl⟩:∃ p l N,u9=.slice p l N:=by rcases A.2 with ⟨rfl,_⟩|⟨g,cp,a5,rfl,_⟩ <;> exact ⟨_,_,_,rfl⟩
       clear f;by_cases f:z=y
       ·subst f;obtain⟨l,m⟩:=yE (k:=k) S K;rw [l,Gl] at A;have O8:=H (A.alloc (.cells #[I k] 3));have B8:=H (F.alloc F.size (.cells #[I k] 3));have X8:=H ((eg wr (.cells #[I k] 3) X (ag Q)).trans Q);have A2:=H m;clear K l m;go_wp2_with (at_builtin;refine Ib _ rfl _ _ 24 rfl W.heap.size 3 i0 (I 0) 1 8 underlying24 T Y a0 a3 rfl Z _ _ _ rfl O8 _ 1 1 [I k] rfl rfl ?hc ?h1c ?b1 ?b2 ?b3 ?_);(case hc=>exact ek _ _ _ _ bH);(case h1c=>intro u hu;simp at hu;subst hu;rfl);(case b1=>unfold maxLen;omega);(case b2=>omega);(case b3=>exact B8.size);intro v1 w9 p l _;have m:=H (IT p (IT (B8.grown l B8.size (cI O8)) (show w9.heap[X]?=_ from (l.block X (ag X8) (λe=>by
         obtain⟨N,L⟩:=mM O8 e.symm;rw [X8.out] at L;simp at L)).trans X8)))
        clear p l;go_wp2;go_roundw;(case rel=>exact ⟨r+1,Z,aY,H (by rw [A2.out,FC,yV];exact m.1),H m.2.1,H m.2.2⟩);case measure=>simp [intOf];omega
       have A2:=H (z8 (k:=k) f K);have l:(z==y)=false:=(by simpa using f);clear K f;go_wp2;go_roundw;(case rel=>exact ⟨r+1,Z,aY,H (by rw [A2.out];exact A),F,Q⟩);case measure=>simp [intOf];omega
      obtain rfl:r=b:=Z;go_wp2;go_roundw;(case rel=>exact ⟨k+1,Z,aY,H (by rw [HF.out,HL.out];exact A),F⟩);case measure=>simp [intOf];omega
    have f:=H (show jc h c s sts (k+1)=jc h c s sts k by
     rw [HN.out,GO (by simp [d])];simp)
    have j:(((sA k).1:Nat):Int)=(c:Int):=Z;have l:((((sA k).2.1:Nat):Int) != (s:Int))=true:=bG;generalize (sA k).1=t at *;generalize (sA k).2.1=P at *;subst hc;clear j d;go_wp2;go_roundw;(case rel=>exact ⟨k+1,Z,aY,H (by rw [f.out];exact n),o⟩);case measure=>simp [intOf];omega
   have f:=H (show jc h c s sts (k+1)=jc h c s sts k by
    rw [HN.out,GO (by simp [hc])];simp)
   have j:((((sA k).1:Nat):Int) != (c:Int))=true:=bG;generalize (sA k).1=t at *;clear hc;go_wp2;go_roundw;(case rel=>exact ⟨k+1,Z,aY,H (by rw [f.out];exact n),o⟩);case measure=>simp [intOf];omega
  have:k=1062:=Z;subst this;go_wp2;go_ret;exact⟨_,rfl,HO,M⟩
theorem dX (x:Int) (a:0<=x) (b:x<18446744073709551616):IntKind.u64.wrap x=x:=by
 rw [eu];omega
theorem xq (c:Nat) (W:World) (a:c<12):Calls prog 30 #[I c] W λe W'=>e=.returned (I (eV c:Nat))/\D W W':=by
 refine (gD (c:Int) W).mono ?_;rintro e W' ⟨rfl,b⟩;exact⟨cX (D3 a),b⟩
theorem wN (c:Nat) (W:World) (a:c<12):Calls prog 63 #[I c] W λe W'=>e=.returned (I (cy c:Nat))/\D W W':=by
 refine (dx (c:Int) W).mono ?_;rintro e W' ⟨rfl,b⟩;exact⟨cX (uT a),b⟩
theorem nP (c a:Nat) (v1 v2 v4 v5) (W:World) (n:c<12) (ha:a<=1000000) :
  Calls prog 143 #[.agg #[I c,I v1,I v2,U a,I v4,I v5]] W λe W'=>e=.returned (U (a+eV c:Nat))/\Below W.heap.size W W':=by
 have X:=ao W (.cells #[I c,I v1,I v2,U a,I v4,I v5] 126);have g:=H (show Below W.heap.size W (W.alloc (.cells #[I c,I v1,I v2,U a,I v4,I v5] 126)) from (Fu _ _).alloc (Fv _) _);have i:(W.alloc (.cells #[I c,I v1,I v2,U a,I v4,I v5] 126)).cell? ⟨W.heap.size,0,none⟩=some (I c):=by simp only [World.cell?,X];rfl
 have j:(W.alloc (.cells #[I c,I v1,I v2,U a,I v4,I v5] 126)).cell? ⟨W.heap.size,3,none⟩=some (U a):=by simp only [World.cell?,X];rfl
 have b:=H (λV=>xq c V n);have d:=aX n;have p:eV c<=1016:=Z;have q:=H (show ((a+eV c:Nat):Int)=(a:Int)+(eV c:Int) by omega);generalize eV c=u at *;clear X d;go_enter func143,ntmps143;go_wp2;generalize W.alloc _=V at g i j ⊢;generalize k:W.heap.size=X at *
 go_region_with (first|(go_at_call 30;refine (b _).mono ?_;rintro e o ⟨rfl,d⟩;have f:Below V.heap.size V o:=⟨d.os,d.tape,d.output,d.size,d.block⟩;have l:=ad f j;have m:=ad f i))
 all_goals (
  have r:=H (show Below X W o from g.trans (f.mono (by have:=g.size;omega)))
  clear f d l m i j
  go_wp2
  go_ret
  refine⟨?_,k▸r.out⟩
  show Ending.returned (U (IntKind.u64.wrap ((a:Int)+IntKind.u64.wrap (u:Int))))=_
  rw [dX (u:Int) Z Z,dX _ Z Z,q.out])
theorem uC (W:World):Calls prog 207 #[] W λe W'=>∃ g,e=.returned (Vl g 2 2)/\RowV W' g 3 (Ns .i64 [0,3])/\D W W':=by
 have X:=ao W (.cells #[I 0,I 3] 3);have b:D W (W.alloc (.cells #[I 0,I 3] 3)):=(Fu _ _).alloc (Fv _) _;have r:RowV (W.alloc (.cells #[I 0,I 3] 3)) W.heap.size 3 (Ns .i64 [0,3]):=⟨_,X,by simp [Ns],λi a=>by simp [Ns]⟩;go_enter func207,ntmps207;go_wp2;go_ret;exact⟨_,rfl,r,b⟩
theorem nY {α:Type} : ∀ (n:Nat) (f:Nat->List α),(∀ i,i<n->f i=[])->(List.range n).flatMap f=[]
 | 0,f,_=>rfl
 | n+1,f,a=>by
  rw [Gs,Gu,nY n f (λi b=>a i Z)]
  simp [a n Z]
theorem mq {α:Type} : ∀ (n c:Nat) (f:Nat->List α),c<n->(∀ i,i<n->i≠c->f i=[])->(List.range n).flatMap f=f c
 | 0,c,f,h,_=>by omega
 | n+1,c,f,h,a=>by
  rw [Gs,Gu]
  by_cases e:n=c
  ·subst e
   rw [nY n f (λi b=>a i Z Z)]
   simp
  rw [mq n c f Z (λi b b=>a i Z b)]
  simp [a n Z e]
theorem qV:(List.range 1062).map sA=dF:=by
 apply Ho;intro i;by_cases a:i<1062;·rw [gR a];simp [a]
 rw [FJ bG,FJ (by rw [fG];omega)]
theorem Ap (h) (c s:Nat) (sts) (d:c<12) (e:s<6):(jc h c s sts 1062).map sA=((List.range (aM c)).filter λj=>sts.contains (h.st c s j)).map λj=>(c,s,j):=by
 have f:(jc h c s sts 1062).map sA=dF.filter λt=>t.1==c&&(t.2.1==s&&sts.contains (h.st t.1 t.2.1 t.2.2)):=by
  rw [<-qV,List.filter_map];rfl
 rw [f];unfold dF;rw [List.filter_flatMap,mq 12 c _ d (λi g a=>?_),List.filter_flatMap,mq 6 s _ e (λi g a=>?_),List.filter_map];·congr 1;apply List.filter_congr;intro j _;simp
 ·rw [IC];intro t b;simp only [FQ] at b;obtain⟨j,_,rfl⟩:=b;simp [a]
 rw [IC];intro t b;simp only [List.mem_flatMap,FQ] at b;obtain⟨_,_,j,_,rfl⟩:=b;simp [a]
theorem t_ (h) (c s:Nat) (a:c<12) (b:s<6):(jc h c s [0,3] 1062).map sA=(freeS h c s).map λj=>(c,s,j):=by
 rw [Ap h c s _ a b];congr 1;unfold freeS;apply List.filter_congr;intro j _;unfold be;simp only [List.contains_eq_mem,F4,Gp,or_false,Bool.decide_or];rfl
theorem kE (h) (c s:Nat) (a:c<12) (b:s<6):(jc h c s [0,3] 1062).length=(freeS h c s).length:=by
 have:=congrArg List.length (t_ h c s a b);simpa using this
theorem tw {c s K:Nat} (g:c<12) (i:s<6) (d:(jc h c s [0,3] 1062)[r]?=some K):K<1062/\∃ j,(freeS h c s)[r]?=some j/\j<aM c/\sA K=(c,s,j):=by
 have f:=FM d;unfold jc at f;have k:=(Gk.1 f).1;refine⟨by simpa using k,?_⟩;have e:=congrArg (λl=>l[r]?) (t_ h c s g i);simp only [Gv,d,Hi] at e;cases b:(freeS h c s)[r]? with
 | none=>rw [b] at e;cases e
 | some j =>
  rw [b] at e;have a:=FM b;unfold freeS at a;have l:=(Gk.1 a).1;exact⟨j,rfl,by simpa using l,by simpa using e⟩
theorem vK (p):ce p=(fS p).map sA:=by
 unfold ce fS;rw [<-qV,List.find?_map];rfl
theorem AW (h:Hs):(List.range h.rg.length).map (uo h)=h.rg:=by
 apply Ho;intro i;by_cases a:i<h.rg.length;·simp [a,uo]
 rw [FJ bG,FJ Z]
theorem Aj (h:Hs) (p:Nat):(h.rg.find? λr=>r.base==p)=(fR h p).map (uo h):=by
 have e:(h.rg.find? λr=>r.base==p)=(((List.range h.rg.length).map (uo h)).find? λr=>r.base==p):=by rw [AW]
 rw [e,List.find?_map];rfl
theorem Ee {p} (h:fS p=some k):k<1062/\gt k=p:=by
 unfold fS at h;rw [Iu] at h;exact⟨by simpa using h.2.1,by simpa using h.1⟩
theorem D4 {p i:Nat} (a:fR h p=some i):h.rg[i]?=some (uo h i)/\(uo h i).base=p:=by
 unfold fR at a;rw [Iu] at a;have b:i<h.rg.length:=by simpa using a.2.1
 exact⟨by simp [uo,b],by simpa using a.1⟩
inductive C9 (h:Hs) (p:Nat):Fd->Int×Int×Int->Prop
 | slot (c s j K:Nat):K<1062->sA K=(c,s,j)->bh c s j=p->h.st c s j=1->C9 h p (.slot c s j) ((K:Int),-1,0)
 | range (r:Rg9) (i:Nat):h.rg[i]?=some r->r.base=p->r.st=1->C9 h p (.range r) (-1,(i:Int),0)
 | no (code:Int):(code=3\/code=4)->C9 h p (.no code) (-1,-1,code)
theorem jt (h p):C9 h p (aB h p) (fE h p):=by
 unfold aB fE;rw [vK];cases e:fS p with
 | some k =>
  obtain⟨f,ha⟩:=Ee e;obtain⟨⟨c,s,j⟩,b⟩:∃ t,sA k=t:=⟨_,rfl⟩;have g:dC h k=h.st c s j:=by unfold dC;rw [b]
  have i:bh c s j=p:=by rw [<-ha];unfold gt;rw [b]
  simp only [Hi,b,g];by_cases a:h.st c s j=1;·rw [GP a,GP a];exact .slot c s j k f b i a
  rw [GO a,GO a];by_cases d:h.st c s j=0;·rw [GP d,GP d];exact .no 3 (.inl rfl)
  rw [GO d,GO d];exact .no 4 (.inr rfl)
 | none =>
  simp only [Option.map_none];rw [Aj];cases b:fR h p with
  | some i =>
   obtain⟨c,d⟩:=D4 b;simp only [Hi];by_cases a:(uo h i).st=1;·rw [GP a,GP a];exact .range _ i c d a
   rw [GO a,GO a];exact .no 4 (.inr rfl)
  | none =>
   simp only [Option.map_none];by_cases x:h.rel.contains p=true;·rw [GP x,GP x];exact .no 4 (.inr rfl)
   rw [GO x,GO x];exact .no 3 (.inl rfl)
theorem cY {P:Program} {t:TypeId} {c:Array Oper} {b:List Oper} {o:Oper} {a:Act} {w:World} {Q:Exit->Act->World->Prop} (d:o.guard=none) (s x:Operand)
  (i:o.op=.call { callee:=.builtin .append,args:=#[s,x],argTypes:=#[t,t] }) (j:o.type=t) {v e f:Value} {g:World} (k:a.eval s=v) (l:a.eval x=e)
  (m:(Builtin.append_ #[t,t] t #[v,e]).run P w=.ok f g) (h:wpList P c Q b (a.put o.dst f) g):wpList P c Q (o::b) a w:=by
 refine IA d λK n=>?_;unfold Oper.wp;simp [execOp,i,j,resolve,invoke,builtin,k,l,m,Result.andThen];exact n _ _ h
theorem zD:(prog.info? 130).map (λi=>(i.zero,i.size,i.bytes))=some (some (.agg #[U 0,I 0,I 0,I 0,I 0,I 0]),6,48):=E
theorem iY:(prog.info? 23).map (λi=>(i.zero,i.size,i.bytes))=some (some (U 0),1,8):=E
theorem td (l:List Rg9) (r:Rg9):eM (l++[r])=eM l++rC r:=by simp [eM,rC]
theorem dS (l):(eM l).length=l.length*6:=by
 induction l with
 | nil=>rfl
 | cons r l a=>simp only [eM,If,FC,FN] at a ⊢;rw [a];simp;omega
theorem k_ (l:List Nat) (n:Nat):Us (l++[n])=Us l++[U (n:Int)]:=by simp [Us]
theorem fK (l):(Us l).length=l.length:=by simp [Us]
theorem wL (W:World) (B:Nat) (v:Value) (l:List Rg9) (r) (g:Nat) (c) (a:W.ownsRow B 130 6 v l.length (eM l)) (o:W.heap[g]?=some (.cells (rC r).toArray 130)) (z:l.length<=1000) (p:B<=W.heap.size) :
  ∃ d b,(Builtin.append_ #[121,121] 121 #[v,Vl g 1 c]).run prog W=.ok d b/\b.ownsRow B 130 6 d (l++[r]).length (eM (l++[r]))/\W.grownBy b v.ownBlock:=by
 obtain⟨q,e,f,i,k⟩:=G0 zD;have m:∀ j u,(rC r)[j]?=some u->W.cell? ((⟨g,0,none⟩:Addr).add j)=some u:=λj u s=>by
  rw [Addr.add_mid,Gb,GT _ _ j _ _ _ o];simpa using s
 have t:∀ u∈rC r,u.oneCell'=true:=λu n=>by
  simp only [rC,F4,Gp,or_false] at n;rcases n with rfl|rfl|rfl|rfl|rfl|rfl <;> rfl
 obtain⟨d,b,w,x,y,_⟩:=Ia (P:=prog) W B 121 121 130 q _ 6 48 underlying121 e f i k rfl Z v _ _ a ⟨g,0,none⟩ 1 c (rC r) rfl m t (by unfold maxLen;omega) Z p;exact⟨d,b,w,by rw [td,FC];exact x,y⟩
theorem jQ (W:World) (B:Nat) (v:Value) (l m:List Nat) (x:Addr) (c:Nat) (a:W.ownsRow B 23 1 v l.length (Us l)) (k:∀ j u,(Us m)[j]?=some u->W.cell? (x.add j)=some u) (w:l.length+m.length<=100000) (o:B<=W.heap.size) :
  ∃ d b,(Builtin.append_ #[34,34] 34 #[v,.slice (some x) m.length c]).run prog W=.ok d b/\b.ownsRow B 23 1 d (l++m).length (Us (l++m))/\W.grownBy b v.ownBlock:=by
 obtain⟨p,e,f,g,i⟩:=G0 iY;have q:∀ u∈Us m,u.oneCell'=true:=λu j=>by
  simp only [Us,FQ] at j;obtain⟨n,_,rfl⟩:=j;rfl
 obtain⟨d,b,r,s,t,_⟩:=Ia (P:=prog) W B 34 34 23 p _ 1 8 underlying34 e f g i rfl Z v _ _ a x m.length c (Us m) (by rw [fK,Nat.mul_one]) k q (by unfold maxLen;omega) Z o;exact⟨d,b,r,by rw [FC];simpa [Us] using s,t⟩
theorem Dt.own {T V V1} (a:Sx T Q n bud m V) (j:D V V1) {g cp} {b:List Int} (l:b.length=k) (d:V1.ownsRow V.heap.size 5 1 (Vl g k cp) k (Ns .u8 b)):Dt Q V1 (some ⟨g,0,none⟩) k b:=by
 subst l;obtain⟨c,o⟩:=di d;have p:V.heap.size<=g:=by
  rcases d.2 with ⟨e,_⟩|⟨q,f,i,e,r,_⟩;·simp at e
  simp at e;omega
 refine⟨rfl,λi q=>⟨⟨g,0,none⟩,rfl,?_,?_,?_,λf=>?_⟩⟩;·rw [Addr.add_mid,Gb];exact bC d i _ (by simp [Ns,q])
 ·rw [Addr.add_mid];exact ag o
 ·rw [Addr.add_mid];have:=a.ltQ;show g≠Q;omega
 rw [Addr.add_mid] at f;have r:V1.heap[Q]?=V.heap[Q]?:=j.block Q a.ltQ;obtain⟨s,e⟩:=a.pgT (cV r f);have:=ag e;exact absurd this (by show ¬g<_;omega)
def hT (t:TypeId):Prop:=t=123\/t=126\/t=94\/t=130\/t=23\/t=204\/t=5
structure Bk (B Q:Nat) (W W':World):Prop where
 bel:Below B W W'
 ky:Ky hT W W'
 by5:∀ (g:Nat) (c:Array Value) (f:Nat×Nat),W.heap[g]?=some (.cells c 5 f)->¬e_ Q W g->W'.heap[g]?=some (.cells c 5 f)
 pg:∀ g,e_ Q W' g->e_ Q W g\/W.heap.size<=g
theorem Bk.refl (B Q W):Bk B Q W W:=⟨Fu _ _,Ky.refl _ _,λ_ _ _ h _=>h,λ_ h=>.inl h⟩
theorem Bk.trans {B Q a b c} (h:Bk B Q a b) (k:Bk B Q b c):Bk B Q a c:=by
 refine⟨h.bel.trans k.bel,h.ky.trans k.ky,λg j f l e=>k.by5 g j f (h.by5 g j f l e) (λi=>?_),λg e=>?_⟩
 ·rcases h.pg g i with d|d;·exact e d
  have:=ag l;omega
 rcases k.pg g e with d|d;·exact h.pg g d
 right;have:=h.bel.size;omega
theorem Bk.ofBelow (b:D W W') (d:Q<W.heap.size) (e:B<=W.heap.size):Bk B Q W W' :=
 ⟨b.mono e,Ky.below b,λg c f a _=>by rw [b.block g (ag a)];exact a,λg a=>.inl (cV (b.block Q d) a)⟩
theorem Bk.add {V V'} (h:Bk B Q W V) (b:D V V') (a:Q<V.heap.size) (c:B<=V.heap.size):Bk B Q W V':=h.trans (Bk.ofBelow b a c)
theorem Bk.ofGrown {c l:Array Value} {t:TypeId} {f m:Nat×Nat} (j:W.heap[P]?=some (.cells c t f)) (d:W.heap[Q]?=some (.cells l 204 m)) (n:hT t) (o:t≠5) (b:t≠204) (q:B<=P) (k:B<=W.heap.size) (i:W.grownBy W' (some P)):Bk B Q W W':=by
 have p:Q≠P:=λe=>by
  subst e;rw [j] at d;simp at d;exact b d.2.1
 refine⟨(Fu B W).grown i k (λr a=>by simp at a;omega),Ky.grown j n i,λg s u a _=>?_,λg a=>.inl (cV (i.block Q (ag d) bG) a)⟩;rw [i.block g (ag a) (λe=>?_)];·exact a
 simp at e;subst e;rw [j] at a;simp at a;exact o a.2.1
theorem Bk.ofSf {T} (i:Sx T Q n bud m W) (a:Sf Q W W') (k:B<=W.heap.size) (l:B<=Q) (b:∀ g,e_ Q W g->B<=g):Bk B Q W W':=by
 refine⟨a.below k l b,(a.ky i).more (λt c=>by unfold hT;rcases c with h|h <;> simp [h]),λg c f d b=>?_,a.pg⟩;rw [a.block g (ag d) (λe=>?_) b];·exact d
 subst e;obtain⟨o,j,_⟩:=i.row;rw [d] at j;simp at j
theorem Sh.qrow (a:Sh B x cf h W):∃ b,W.heap[x.Q]?=some (.cells b 204):=by
 obtain⟨b,c,_⟩:=a.sp.row;exact⟨b,c⟩
theorem Sh.ltQ {B x cf h W} (a:Sh B x cf h W):x.Q<W.heap.size:=a.sp.ltQ
theorem Sh.bkB (a:Sh B x cf h W) (k:Bk B x.Q W0 W) (c:B<=W0.heap.size) (b:D W W'):Bk B x.Q W0 W':=k.add b a.ltQ (Fx c k.bel.size)
theorem Sh.bkP (a:Sh B x cf h W) (k:Bk B x.Q W0 W) (b:B<=W0.heap.size) (g:W.grownBy W' (some x.P)):Bk B x.Q W0 W':=by
 obtain⟨d,c⟩:=a.qrow;exact k.trans (Bk.ofGrown a.box c (.inl rfl) ar ar a.bp (Fx b k.bel.size) g)
theorem Sh.bkG (a:Sh B x cf h W) (k:Bk B x.Q W0 W) (d:B<=W0.heap.size) (i:Nat) (v:Value):Bk B x.Q W0 (W.setCell ⟨x.G,i,none⟩ v):=by
 obtain⟨n,f⟩:=a.qrow;obtain⟨c,j⟩:=di a.sl;have l:B<=x.G:=by
  rcases a.sl.2 with ⟨e,_⟩|⟨g,b,m,e,o,_⟩;·simp at e
  simp at e;omega
 exact k.trans (Bk.ofGrown j f (.inr (.inl rfl)) ar ar l (Fx d k.bel.size) (au (al W x.G) i v))
theorem Sh.bkS (a:Sh B x cf h W) (k:Bk B x.Q W0 W) (b:B<=W0.heap.size) (f:Sf x.Q W W'):Bk B x.Q W0 W':=k.trans (Bk.ofSf a.sp f (Fx b k.bel.size) a.bq a.bg)
end
section
open Go.RowKit Go.Maps
structure Ly where
 P:Nat
 S:Nat
 M:Nat
 R:Nat
 sb:Nat->Nat->Nat
 sr:Nat->Nat->Nat
 sc:Nat->Nat->Nat
 sm:Nat->Nat->Nat->Nat
 qm:Nat->Nat
 qr:Nat->Nat
 qg:Nat->Nat
 qq:Nat->Nat
 da:Option Addr
 dc:Nat
structure Dy where
 f:Nat->Option Nat
 on:Nat->Nat->Bool
 lg:Nat->Option Nat
 ro:Value
 rl:Value
 an:Value
 un:Value
def CZ (c s:Nat) (on:Bool) (r n cap:Nat):Array Value:=#[I c,I s,.bool on,Vl r n cap]
def t5 (st rq:Int) (b j:Nat):Array Value:=#[I st,I rq,J b 0,I j]
def oV (r:Rg9):Array Value:=#[I r.st,I r.rq,I r.first,I r.guards,I r.pages]
def Eu (cf:Cf) (y:Ly) (c k:Nat):Value:=if k=0 then J (y.qm c) 0 else if k=1 then J (y.qg c) 0 else if cf.mix=0 then .iface 63 (J (y.qg c) 0) else .iface 62 (J (y.qm c) 0)
def boxF (cf:Cf) (y:Ly) (d:Dy) (used:Nat) (i:Nat):Value :=
 if i<7 then ([I cf.mix,I cf.fifo,I cf.large,I cf.bud,U cf.key,.slice y.da cf.ds.length y.dc,J y.S 0]:List Value)[i]?.getD undef
 else if i<79 then J (y.sb ((i-7)/6) ((i-7)%6)) 0
 else if i<115 then Eu cf y ((i-79)/3) ((i-79)%3)
 else ([.map (some y.R),d.ro,d.rl,I used,d.an,d.un]:List Value)[i-115]?.getD undef
def Bxh (P:Nat) (F:Nat->Value) (W:World):Prop:=∃ c,W.heap[P]?=some (.cells c 71)/\c.size=121/\∀ i,i<121->c[i]?=some (F i)
theorem Bxh.cell {P F W} (h:Bxh P F W) (i:Nat) (a:i<121):W.cell? ⟨P,i,none⟩=some (F i):=by
 obtain⟨c,b,e,d⟩:=h;rw [GT _ _ _ _ _ _ b];exact d i a
theorem Bxh.free (h:Bxh P F W) (i:Nat):W.frozen? ⟨P,i,none⟩=false:=by
 obtain⟨c,a,b,d⟩:=h;simp [World.frozen?,a]
theorem Bxh.lt (h:Bxh P F W):P<W.heap.size:=by
 obtain⟨c,a,_⟩:=h;exact ag a
theorem Bxh.ky (h:Bxh P F W) (k:Ky S W W') (a:¬S 71):Bxh P F W':=by
 obtain⟨c,b,d⟩:=h;exact⟨c,k.cells _ _ _ _ b a,d⟩
def kK (F:Nat->Value) (i:Nat) (v:Value):Nat->Value:=λj=>if j=i then v else F j
theorem Bxh.set (h:Bxh P F W) (i:Nat) (b:i<121) (v):Bxh P (kK F i v) (W.setCell ⟨P,i,none⟩ v):=by
 obtain⟨c,d,a,f⟩:=h;refine⟨c.setIfInBounds i v,by simp [World.setCell,FD,d],by simpa using a,λj g=>?_⟩;rw [FK];unfold kK;by_cases e:i=j;·subst e;simp [a,b]
 rw [GO e,GO (λa=>e a.symm)];exact f j g
theorem Bxh.kyS (h:Bxh P F W) (i:Nat) (v:Value):Ky (· = 71) W (W.setCell ⟨P,i,none⟩ v):=by
 obtain⟨c,a,_⟩:=h;exact Ky.grown a rfl (au (al W P) i v)
theorem uL (cf y d u) (c:Nat):kK (boxF cf y d u) 118 (I c)=boxF cf y d c:=by
 funext i;unfold kK boxF;by_cases e:i=118;·subst e;rfl
 rw [GO e];by_cases a:i<7;·simp [a]
 by_cases b:i<79;·simp [a,b]
 by_cases f:i<115;·simp [a,b,f]
 simp only [a,b,f,IL];rcases (show i=115\/i=116\/i=117\/i=119\/i=120\/121<=i by omega) with rfl|rfl|rfl|rfl|rfl|g;·rfl
 ·rfl
 ·rfl
 ·rfl
 ·rfl
 rw [FJ bG,FJ bG]
theorem pi (cf y) (d:Dy) (u) (i:Nat) (v:Value) (a:Dy) (b:(i=116/\a={ d with ro:=v })\/(i=117/\a={ d with rl:=v })\/(i=119/\a={ d with an:=v })\/(i=120/\a={ d with un:=v })):kK (boxF cf y d u) i v=boxF cf y a u:=by
 funext j;unfold kK boxF;by_cases c:j<7
 ·have:j≠i:=by rcases b with ⟨h,_⟩|⟨h,_⟩|⟨h,_⟩|⟨h,_⟩ <;> omega
  rw [GO this];simp [c]
 by_cases e:j<79
 ·have:j≠i:=by rcases b with ⟨h,_⟩|⟨h,_⟩|⟨h,_⟩|⟨h,_⟩ <;> omega
  rw [GO this];simp [c,e]
 by_cases f:j<115
 ·have:j≠i:=by rcases b with ⟨h,_⟩|⟨h,_⟩|⟨h,_⟩|⟨h,_⟩ <;> omega
  rw [GO this];simp [c,e,f]
 simp only [c,e,f,IL];by_cases g:121<=j;·rw [GO (by rcases b with ⟨h,_⟩|⟨h,_⟩|⟨h,_⟩|⟨h,_⟩ <;> omega),FJ bG,FJ bG]
 rcases b with ⟨rfl,rfl⟩|⟨rfl,rfl⟩|⟨rfl,rfl⟩|⟨rfl,rfl⟩ <;> rcases (show j=115\/j=116\/j=117\/j=118\/j=119\/j=120 by omega) with rfl|rfl|rfl|rfl|rfl|rfl <;> rfl
structure Mr (R n:Nat) (lo:Nat->Option Nat) (W:World):Prop where
 map:∃ D:DataW Unit,W.ownsMap prog 23 ev R 4096 D/\Maps.size D<=n/\(∀ k:Nat,k<18446744073709551616->D.atKey (.int .u64 k) .nil=sG (lo k))/\∀ k:Nat,k<18446744073709551616->has D (.int .u64 k)=(lo k).isSome
theorem Mr.same {R lo} (h:Mr R n lo W) (b:W'.heap[R]?=W.heap[R]?):Mr R n lo W':=by
 obtain⟨a,⟨d,c,e,f⟩,g⟩:=h.map;exact⟨a,⟨d,c,b.trans e,f⟩,g⟩
theorem Mr.typ {R lo} (h:Mr R n lo W):∃ b c,W.heap[R]?=some (.map b c):=by
 obtain⟨a,⟨b,c,d,e⟩,f⟩:=h.map;exact⟨b,c,d⟩
def Um (B:Nat) (W:World) (v:Value) (l:List Nat):Prop:=(v=C/\l=[])\/∃ (g o cap:Nat) (c:Array Value),v=.slice (some ⟨g,o,none⟩) l.length cap/\B<=g/\W.heap[g]?=some (.cells c 23)/\o+cap=c.size/\l.length<=cap/\cap<=maxLen/\(∀ u∈c.toList,u.oneCell'=true)/\∀ i,i<l.length->c[o+i]?=some (U ((l[i]?.getD 0:Nat):Int))
theorem Um.ky {v l} (h:Um B W v l) (k:Ky S W W') (b:¬S 23):Um B W' v l:=by
 rcases h with h|⟨g,o,a,c,d,e,f,i⟩;·exact .inl h
 exact .inr ⟨g,o,a,c,d,e,k.cells _ _ _ _ f b,i⟩
def ee:Value->Option Nat
 | .slice (some a) _ _=>some a.block
 | _=>none
structure Fo (B:Nat) (y:Ly):Prop where
 b0:0<B
 bP:B<=y.P
 bS:B<=y.S
 bM:B<=y.M
 bR:B<=y.R
 mr:y.M≠y.R
 bsb:∀ c s,c<12->s<6->B<=y.sb c s
 bsr:∀ c s,c<12->s<6->B<=y.sr c s
 bsm:∀ c s j,c<12->s<6->j<aM c->B<=y.sm c s j
 bq:∀ c,c<12->B<=y.qm c/\B<=y.qr c/\B<=y.qg c/\B<=y.qq c
 isb:∀ c s c' s',c<12->s<6->c'<12->s'<6->y.sb c s=y.sb c' s'->c=c'/\s=s'
 ism:∀ c s j c' s' j',c<12->s<6->j<aM c->c'<12->s'<6->j'<aM c'->y.sm c s j=y.sm c' s' j'->c=c'/\s=s'/\j=j'
 iq:∀ c c',c<12->c'<12->c≠c'->y.qr c≠y.qr c'/\y.qr c≠y.qq c'/\y.qq c≠y.qq c'/\y.qg c≠y.qg c'
 da:∀ a,y.da=some a->a.block<B
structure Hp (B:Nat) (y:Ly) (d:Dy) (cf:Cf) (h:Hs) (W:World):Prop where
 ap:Fo B y
 bW:B<=W.heap.size
 box:Bxh y.P (boxF cf y d h.used) W
 ds:Sl W y.da cf.ds
 sp:Im y.S y.M 0 283 (cf.bud:Nat) d.f W
 pg:Pg d.f h.m W
 bf:∀ k g,d.f k=some g->B<=g
 sl:∀ c s,c<12->s<6->W.heap[y.sb c s]?=some (.cells (CZ c s (d.on c s) (y.sr c s) (aM c) (y.sc c s)) 157)
 rw:∀ c s,c<12->s<6->RowV W (y.sr c s) 158 ((List.range (aM c)).map λj=>J (y.sm c s j) 0)
 sm:∀ c s j,c<12->s<6->j<aM c->W.heap[y.sm c s j]?=some (.cells (t5 (h.st c s j) (h.rq c s j) (y.sb c s) j) 162)
 wt:∀ c,c<12->Qr W (y.qm c) (y.qr c) (y.qg c) (y.qq c) cf.fifo (h.mx c) (h.ff c)
 mp:Mr y.R h.rg.length d.lg W
 lo:∀ k,(d.lg k).isSome=h.rg.any λr=>r.base==k
 lb:∀ r∈h.rg,∃ g,d.lg r.base=some g/\B<=g/\W.heap[g]?=some (.cells (oV r) 182)
 li:∀ k k' g,d.lg k=some g->d.lg k'=some g->k=k'
 ro:Um B W d.ro h.row
 rl:W.ownsRow B 23 1 d.rl h.rel.length (Us h.rel)
 rr:∀ g,ee d.ro=some g->d.rl.ownBlock≠some g
 tb:Tb W
def EN (d:Dy) (h:Hs):Prop:=∀ c s,c<12->s<6->d.on c s=dA h c s
structure Fi (S:TypeId->Prop) (y:Ly) (W W':World):Prop where
 ky:Ky S W W'
 m:W'.heap[y.M]?=W.heap[y.M]?
 r:W'.heap[y.R]?=W.heap[y.R]?
theorem Im.ky {A M st n f} (h:Im A M st n bud f W) (k:Ky S W W') (b:¬S 146) (d:W'.heap[M]?=W.heap[M]?):Im A M st n bud f W':=by
 obtain⟨a,⟨e,c,g,i⟩,j⟩:=h.map;exact⟨k.cells _ _ _ _ h.box b,a,⟨e,c,d.trans g,i⟩,j⟩
theorem Pg.ky {f} (h:Pg f m W) (k:Ky S W W') (d:¬S 179):Pg f m W':=by
 refine h.other (λj b c=>?_);rcases h.at' j with ⟨a,_⟩|⟨e,l,g,a,_,_,b⟩;·rw [c] at a;cases a
 rw [c] at a;cases a;rw [k.cells _ _ _ _ b d,b]
theorem Qr.ky {M rm G rq mix fifo} (h:Qr W M rm G rq n mix fifo) (k:Ky S W W') (f:¬S 153) (i:¬S 151) (d:¬S 3):Qr W' M rm G rq n mix fifo:=by
 obtain⟨⟨a,b⟩,⟨ps,o,j,c,e,g⟩,l⟩:=h;exact⟨⟨k.cells _ _ _ _ a f,cL b k d⟩,⟨ps,o,j,k.cells _ _ _ _ c i,cL e k d,g⟩,l⟩
theorem Tb.belowB (h:Tb W) (a:Below B W W') (b:0<B):Tb W':=by
 obtain⟨t,c,h⟩:=h.row;exact⟨t,c,by rw [a.block 0 b];exact h⟩
theorem Sl.belowB {a zs} (h:Sl W a zs) (b:Below B W W') (ha:∀ x,a=some x->x.block<B):Sl W' a zs:=by
 rcases h with h|⟨g,e,c,d,f⟩;·exact .inl h
 exact .inr ⟨g,e,c,by rw [b.block g (ha _ e)];exact d,f⟩
theorem Hp.keep {y d} (a:Hp B y d cf h W) (k:Fi (λt=>t≠71/\t≠146/\t≠179/\t≠157/\t≠158/\t≠162/\t≠153/\t≠151/\t≠3/\t≠182/\t≠23) y W W') (b:Below B W W'):Hp B y d cf h W' :=
 ⟨a.ap,Fx a.bW b.size,a.box.ky k.ky ar,a.ds.belowB b a.ap.da,a.sp.ky k.ky ar k.m,a.pg.ky k.ky ar,a.bf,
 λc s e f=>k.ky.cells _ _ _ _ (a.sl c s e f) ar,λc s e f=>cL (a.rw c s e f) k.ky ar,λc s j e f i=>k.ky.cells _ _ _ _ (a.sm c s j e f i) ar,
 λc e=>(a.wt c e).ky k.ky ar ar ar,a.mp.same k.r,a.lo,λr l=>by obtain ⟨g,m,n,o⟩:=a.lb r l;exact⟨g,m,n,k.ky.cells _ _ _ _ o ar⟩,a.li,a.ro.ky k.ky ar,ai a.rl k.ky ar,a.rr,a.tb.belowB b a.ap.b0⟩
theorem Hp.below {B y d cf h W W'} (a:Hp B y d cf h W) (b:D W W'):Hp B y d cf h W':=by
 obtain⟨f,c,e⟩:=a.mp.typ;exact a.keep ⟨Ky.below b,b.block _ a.sp.lt.2,b.block _ (ag e)⟩ (b.mono a.bW)
theorem Hp.cell {B y d cf h W} (a:Hp B y d cf h W) (i:Nat) (b:i<121) (v:Value) (c:boxF cf y d h.used i=v):W.cell? ⟨y.P,i,none⟩=some v:=by rw [a.box.cell i b,c]
end
end Go.Proofs.YtibblbenmpcplaaGreatDoor
