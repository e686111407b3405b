import Derived.Test.YtdngbppdomoenaaGreatDoorN23
import Derived.Test.YtdngbppdomoenaaGreatDoorN27
import Derived.Test.YtdngbppdomoenaaGreatDoorN29
set_option linter.unusedVariables false
set_option linter.unusedSimpArgs false
set_option maxRecDepth 20000
set_option maxHeartbeats 8000000
namespace Go.Proofs.YtdngbppdomoenaaGreatDoor
open Go.Proofs.Tryz
variable {T g:Nat} {tk:Nat->Bool} {W W':World} {rg:List Rg9} {r:Rg9}
section
open Go.RowKit Go.Maps
def Ta (T:Nat) (tk:Nat->Bool) (W:World):Prop:=∃ c,W.heap[T]?=some (.cells c 248)/\c.size=96/\∀ q,q<96->c[q]?=some (.bool (tk q))
theorem Ta.cell {T tk W} (h:Ta T tk W) (q:Nat) (b:q<96):W.cell? ⟨T,q,none⟩=some (.bool (tk q))/\W.frozen? ⟨T,q,none⟩=false:=by
 obtain⟨c,a,e,d⟩:=h;exact⟨by rw [Gz _ _ _ _ _ _ a];exact d q b,by simp [World.frozen?,a]⟩
theorem Ta.lt (h:Ta T tk W):T<W.heap.size:=by
 obtain⟨c,a,_⟩:=h;exact ai a
theorem Ta.same (h:Ta T tk W) (e:W'.heap[T]?=W.heap[T]?):Ta T tk W':=by
 obtain⟨c,a,b⟩:=h;exact⟨c,e.trans a,b⟩
theorem Ta.eq {tk':Nat->Bool} (h:Ta T tk W) (e:∀ q,q<96->tk' q=tk q):Ta T tk' W:=by
 obtain⟨c,b,d,f⟩:=h;exact⟨c,b,d,λq a=>by rw [e q a];exact f q a⟩
theorem Ta.set (h:Ta T tk W) (k:Nat) (b:k<96):Ta T (λq=>tk q || decide (q=k)) (W.setCell ⟨T,k,none⟩ (.bool true)):=by
 obtain⟨c,d,a,f⟩:=h;refine⟨c.setIfInBounds k (.bool true),by simp [World.setCell,Fp,d],by simpa using a,λq g=>?_⟩;rw [Fu];by_cases e:k=q;·subst e;simp [a,b]
 rw [Gu e,f q g];have:decide (q=k)=false:=bK;dsimp only;rw [this,Bool.or_false]
theorem hF (h:D W W'):W.grownBy W' none:=⟨h.os,h.tape,h.output,h.size,λk a _=>h.block k a⟩
def re (c:Option Nat):Value:=.pointer (c.map λb=>⟨b,0,none⟩)
theorem tN:Tryz.zeroCells248=Array.replicate 96 (.bool false):=E
def fu (rg:List Rg9) (left:Lit->Bool):List Rg9:=rg.filter λr => !left (.int .u64 (r.base:Nat))
theorem vN {left:Lit->Bool} (h:∀ r∈rg,left (.int .u64 (r.base:Nat))=true) (q):gU (fu rg left) q=false:=by
 have:fu rg left=[]:=by
  unfold fu;rw [Ik];intro r a;rw [h r a];simp
 rw [this];rfl
theorem ql {left:Lit->Bool} (h:∀ a,left a=false):fu rg left=rg:=by
 unfold fu;rw [Hw];intro r a;rw [h];rfl
theorem vA {left:Lit->Bool} (d:r∈rg) (c:∀ a∈rg,a.base=r.base->a=r) (q):gU (fu rg (λz=>left z && !z.sameKey (.int .u64 (r.base:Nat)))) q=(gU (fu rg left) q || (decide (r.first<=187+q)&&decide (187+q<r.first+r.ext))):=by
 unfold gU fu;rw [List.any_filter,List.any_filter];cases e:(decide (r.first<=187+q)&&decide (187+q<r.first+r.ext)) with
 | true =>
  rw [Bool.or_true,List.any_eq_true];refine⟨r,d,?_⟩;rw [e];simp [Lit.sameKey]
 | false =>
  rw [Bool.or_false];rw [Bool.eq_iff_iff,List.any_eq_true,List.any_eq_true];constructor
  ·rintro⟨x,hx,hc⟩;refine⟨x,hx,?_⟩;by_cases b:x.base=r.base;·have:=c x hx b;subst this;rw [e] at hc;simp at hc
   have a:(Lit.int .u64 (x.base:Nat)).sameKey (.int .u64 (r.base:Nat))=false:=by
    simp [Lit.sameKey];omega
   dsimp only at hc;rw [a] at hc;simpa using hc
  rintro⟨x,hx,hc⟩;refine⟨x,hx,?_⟩;by_cases b:x.base=r.base;·have:=c x hx b;subst this;rw [e] at hc;simp at hc
  have a:(Lit.int .u64 (x.base:Nat)).sameKey (.int .u64 (r.base:Nat))=false:=by
   simp [Lit.sameKey];omega
  dsimp only;rw [a];simpa using hc
theorem Inv.uniq {cf h} (i:Inv cf h) {f:Rg9} (k:r∈h.rg) (c:f∈h.rg) (e:f.base=r.base):f=r:=by
 have s:=i.baseP k;have n:=i.baseP c;have p:=i.rgs r k;have q:=i.rgs f c;obtain⟨a,ha⟩:=GQ k;obtain⟨b,l⟩:=GQ c;have g:=Fl.1 ha;have j:=Fl.1 l;have o:=Ir.1 i.apart;unfold Rg9.ext at p q;rcases Hn a b with d|m|d;·have:=o a b g.1 j.1 d;rw [g.2,j.2] at this;unfold Rg9.ext at this;rw [e] at n;omega
 ·subst m;rw [ha] at l;exact (Gk l).symm
 have:=o b a j.1 g.1 d;rw [g.2,j.2] at this;unfold Rg9.ext at this;rw [e] at n;omega
inductive Dz (W:World):Option Nat->Ending->World->Prop
 | yes (s:Nat) (W':World) (b:D W W'):Dz W (some s) (.returned (I s)) W'
 | no (W':World) (b:D W W'):Dz W none (.panicked (ij 1)) W'
theorem zq (B y d cf h) (n:Nat) (W) (a:Hp B y d cf h W) (i:Inv cf h) (hn:1<=n) (b7:n<=18014398509482000) :
  Calls prog 137 #[.pointer (some ⟨y.P,0,none⟩),.int .i64 (n:Nat)] W (Dz W (eg h n)):=by
 have K:=H (λV (o:D W V)=>a.below o);have HI:=H i;have LS:=H (λV (o:D W V)=>iF V (a.below o).tb);clear a i;go_enter func137,ntmps137;go_upto_region 2 with fail
 have p:D W (W.alloc (.cells Tryz.zeroCells248 248)):=(Fc _ _).alloc (Fe _) _;have k:Ta W.heap.size (λ_=>false) (W.alloc (.cells Tryz.zeroCells248 248)):=⟨_,ao W _,by rw [tN];simp,λq hq=>by rw [tN];simp [hq]⟩;have b:=K.out _ p;obtain⟨a,e,b8,l,f⟩:=b.mp.map;have m:=b.cell 115 Z (.map (some y.R)) rfl;have j:=H (show y.R<(W.alloc (.cells Tryz.zeroCells248 248)).heap.size by obtain ⟨es,c,hR⟩:=b.mp.typ;exact ai hR);have b3:=H (show y.R<W.heap.size by obtain ⟨es,c,hR⟩:=(K W (Fc _ _)).mp.typ;exact ai hR);generalize W.alloc _=V at *;obtain⟨T,hT⟩:∃ T,T=W.heap.size:=⟨_,rfl⟩;rw [<-hT] at k ⊢;have HT:=H hT;clear hT;have HD:=H (IB l f);have c0:=H b.lb;have a0:=H b.lo;have BT:=H p;clear b l f p;go_wp2_with (at_range;refine wpList_range_own _ rfl _ 88 rfl 23 184 fD underlying88 eM y.R 4096 a rfl e ?_;intro w0 b f l)
 go_frame
 obtain⟨r,F⟩:∃ r,r=V.heap.size:=⟨_,rfl⟩;have p:D V w0:=(Fc V.heap.size V).grown f (Fe _) bF;have s:=H (k.same (p.block _ k.lt));have B0:=H (BT.trans (p.mono BT.size));have a1:=H (show T<r by rw [F];exact k.lt);have b4:=H (show W.heap.size<=r by rw [F];exact BT.size);have c1:=H (show y.R<r by rw [F];exact j);rw [<-F] at b ⊢;have a2:=H b;have a3:=H (s.eq (tk':=gU (fu h.rg (has a))) (λq hq=>vN (λr F=>by
  have h1:=HI.baseP F;rw [HD.2 r.base Z,a0.out r.base];exact List.any_eq_true.2 ⟨r,F,bF⟩) q))
 clear b f l e k s p F m j;go_loopw [7] (λ_ wr=>∃ (left:Lit->Bool) (O:Nat),Hid (wr.ranges prog 23 eM y.R r 4096 a left O)/\Hid (Ta T (gU (fu h.rg left)) wr)/\Hid (D W wr)) (λ_ wr=>wr.rangeLeft y.R r);case atStart=>exact ⟨_,_,a2,a3,B0⟩
 case round =>
  obtain⟨left,O,G,p,l⟩:=hrel;clear a2 a3 B0;go_wp2_with (at_next;refine wpList_next_ranges _ rfl _ rfl 23 fD eM (Value.int .u64) re (λb kl hk=>by obtain ⟨x,rfl,_⟩:=Maps.keyOf_int_inv underlying23 hk;exact⟨x,rfl⟩) (λv y P=>by exact (g_ P).elim (λ⟨b,e,_⟩=>⟨some b,e⟩) (λ⟨e,_⟩=>⟨none,e⟩)) y.R r 4096 a left O rfl G ?_ ?_)
  ·intro j f;have s:=H (show Ta T (gU h.rg) wr by have:=p.out;rw [ql f] at this;exact this);clear p G j f HD;have A:=H (show ∀ r∈h.rg,187<=r.first/\1<=r.ext from λr F=>by
    have:=HI.rgs r F;unfold Rg9.ext;omega)
   go_wp2;go_loopw [9,35] (λf i wq=>∃ k:Nat,k<=96/\i=.int .i64 k/\f=.int .i64 (nm (gU h.rg) k:Nat)/\Hid (∀ j,j<=k->nm (gU h.rg) j<n)/\Hid (Ta T (gU h.rg) wq)/\Hid (D W wq)) (λ_ i _=>96-(intOf i).toNat)
   case atStart=>exact ⟨0,Fs _,rfl,rfl,H (λj hj=>by
    obtain rfl:j=0:=Z;show 0<n;omega),s,l⟩
   case round =>
    clear s l;obtain⟨k,hk,rfl,rfl,v,s,m⟩:=hrel;by_cases L:k<96
    ·have N:=(s.cell k L).1;have a4:=pi (gU h.rg) k;have z:=H (show nm (gU h.rg) (k+1)=if gU h.rg k then 0 else nm (gU h.rg) k+1 from rfl);have w:=H (λh1=>sg A hn L h1 v);generalize gU h.rg k=tk at *;cases tk with
     | true =>
      have Q:=H (show ∀ j,j<=k+1->nm (gU h.rg) j<n from λj hj=>by
       by_cases e:j=k+1;·subst e;rw [z.out];simp;omega
       exact v j Z)
      have t:((0:Int)==(n:Int))=false:=bK;have f:=H (show nm (gU h.rg) (k+1)=0 by rw [z.out];rfl);generalize nm (gU h.rg) k=M at *;clear z w v;go_wp2;go_roundw;(case rel=>exact ⟨k+1,Z,aY,by rw [f.out];rfl,Q,s,m⟩);case measure=>simp [intOf];omega
     | false =>
      have f:=H (show nm (gU h.rg) (k+1)=nm (gU h.rg) k+1 by rw [z.out];rfl);have a5:=v.out k (Fe _);generalize t:nm (gU h.rg) k=M at *;clear t;by_cases R:M+1=n
      ·have X:=H (w (by rw [f.out];exact R));have t:((M:Int)+1==(n:Int))=true:=bK;have u:=H (LS wr m);have Y:=H (show ((187+(k+1-n):Nat):Int)=187+(k:Int)+1-(n:Int) by omega);clear z w v f R;go_wp2_with fail;refine (u).mono ?_;rintro e V9 ⟨rfl,b9⟩;have B9:=H (m.trans (b9.mono m.size));clear b9 u;go_wp2;go_ret;rw [X.out];have:=Dz.yes (W:=W) (187+(k+1-n)) V9 B9.out;rw [Y.out] at this;exact this
      have Q:=H (show ∀ j,j<=k+1->nm (gU h.rg) j<n from λj hj=>by
       by_cases e:j=k+1;·subst e;rw [f.out];omega
       exact v j Z)
      have t:((M:Int)+1==(n:Int))=false:=bK;clear z w v R;go_wp2;go_roundw;(case rel=>exact ⟨k+1,Z,aY,by rw [f.out];simp,Q,s,m⟩);case measure=>simp [intOf];omega
    obtain rfl:k=96:=Z;have X:=H (sE A hn v);generalize nm (gU h.rg) 96=M at *;clear v;go_wp2;refine⟨rfl,?_⟩;rw [X.out];exact .no _ m.out
  intro x c kl yd yp M v N a4 P w z L Q a9 t;obtain⟨x',ex,rfl,a5⟩:=Maps.keyOf_int_inv underlying23 N;cases ex;have b5:=bounds_u64 a5;obtain⟨kk,rfl⟩:∃ kk:Nat,x=(kk:Int):=⟨x.toNat,Z⟩;have R:=has_true_of_atKey w;rw [HD.2 kk Z,a0.out kk] at R;obtain⟨f,A,a6⟩:=List.any_eq_true.1 R;simp at a6;subst a6;obtain⟨g,X,lc⟩:=(K W (Fc _ _)).lcAt HI A;have Y:=w .nil;rw [HD.1 f.base Z,X] at Y;obtain rfl:c=some g:=by
   cases c with
   | none=>simp [re,eM] at P;rw [<-P.1] at Y;simp [sD] at Y
   | some b =>
    simp [re,eM] at P;rw [<-P.1] at Y;simp [sD] at Y;have:b=g:=Z;rw [this]
  have b2:D W M:=l.grown Q l.size (λj e=>by cases e;exact b4);have B2:=H b2;have a7:=H (p.same (Q.block _ p.lt (λe=>by simp at e;have:=a1.out;omega)));have G2:=H z;have LE:=H (IB z.left_eq G.left_eq);have LC:=H (λV (o:D W V)=>lc.below o);have EX:=H (λV (o:D W V)=>iB g f V (lc.below o));have b6:=HI.rgs f A;have a8:=H (λq=>vA (left:=left) A (λb b e=>HI.uniq A b e) q);have c2:=H (show g≠T by
   have:=(K W (Fc _ _)).lb f A;obtain⟨g',h1,h2,h3⟩:=this;rw [X] at h1;cases h1;have:=ai h3;rw [HT.out];omega)
  unfold re at t ⊢;simp only [GW] at t ⊢;have c3:f.ext<=96:=Z;have c4:f.first<=283:=Z
  have c5:187<=f.first:=Z
  have c6:f.first+f.ext<=283:=Z
  clear N a4 P w z Q a9 R Y p l G X lc b6 b2 b5 a5;generalize l:f.base=bs at *;clear l;go_wp2_with fail;refine (EX _ B2).mono ?_;rintro e w3 ⟨rfl,rfl⟩;clear EX;have G3:=H (show M.drew.ranges prog 23 eM y.R r 4096 a (λz=>left z && !z.sameKey (.int .u64 (bs:Nat))) v from G2.kept ((Fc M.heap.size M).drew |> hF) bF bF);have a5:=H (show Ta T (λq=>gU (fu h.rg left) q || (decide (f.first<=187+q)&&decide (187+q<f.first+0))) M.drew from (a7.same (W':=M.drew) rfl).eq (λq hq=>by
   have:(decide (f.first<=187+q)&&decide (187+q<f.first+0))=false:=by simp <;> omega
   rw [this,Bool.or_false]))
  have B3:=H (show D W M.drew from B2.drew);clear G2 a7 B2 t;generalize M.drew=W3 at *;go_wp2;go_loopw [22] (λi wq=>∃ k:Nat,k<=f.ext/\i=.int .i64 k/\Hid (wq.ranges prog 23 eM y.R r 4096 a (λz=>left z && !z.sameKey (.int .u64 (bs:Nat))) v)/\Hid (Ta T (λq=>gU (fu h.rg left) q || (decide (f.first<=187+q)&&decide (187+q<f.first+k))) wq)/\Hid (D W wq)) (λi _=>f.ext-(intOf i).toNat);case atStart=>exact ⟨0,Fs _,rfl,G3,a5,B3⟩
  case round =>
   clear G3 a5 B3;obtain⟨k,hk,rfl,G,s,m⟩:=hrel;by_cases a4:k<f.ext
   ·obtain⟨w,p⟩:∃ w:Nat,f.first=187+w:=⟨f.first-187,Z⟩
    obtain⟨l,Q⟩:∃ l,l=w+k:=⟨_,rfl⟩;have N:l<96:=Z;have CK:=H (λV (o:D W V)=>(LC V o).c2);have u:=H (λV (o:D W V)=>LS.out V o);have b5:IntKind.i64.wrap ((f.first:Int)-187)=(w:Int):=(by rw [iQ _ Z Z];omega);have b6:IntKind.i64.wrap ((w:Int)+(k:Int))=(l:Int):=(by rw [iQ _ Z Z];omega);have a7:=H (show ∀ q,q<96->(gU (fu h.rg left) q || (decide (f.first<=187+q)&&decide (187+q<f.first+(k+1))))=((gU (fu h.rg left) q || (decide (f.first<=187+q)&&decide (187+q<f.first+k))) || decide (q=l)) from λq hq=>by
     rw [p,Q];by_cases e:q=w+k;·subst e;simp;omega
     rw [show decide (q=w+k)=false by simp [e],Bool.or_false];congr 2;exact decide_eq_decide.2 Z)
    generalize R:f.first=fs at *
    clear R p Q;(go_upto_region 8 with fail);refine rh (S:=λa=>a.cell? ⟨g,2,none⟩=some (.int .i64 (fs:Nat))) ?_;have p:=CK.out wr.drew m.drew;refine pk 0 (.pointer (some ⟨g,0,none⟩)) p ?_;refine pk 1 (.pointer (some ⟨g,0,none⟩)) p ?_;refine pk 2 (.pointer (some ⟨g,2,none⟩)) p ?_;refine pz 3 (.int .i64 (fs:Nat)) p ?_;refine pk 6 (.int .i64 (k:Nat)) p ?_;refine po 4 λK' hK=>?_;go_simp;refine (u _ m.drew).mono ?_;rintro e U1 ⟨rfl,Q⟩;have k1:D W U1:=m.drew.trans (Q.mono m.size);have q1:=CK.out _ k1;have R:D wr U1:=⟨Q.os,Q.tape,Q.output,Q.size,Q.block⟩;have X:=s.same (R.block _ s.lt);have g1:=G.kept (hF R) bF bF;refine hK _ _ ⟨q1,?_⟩;clear p;have p:=q1;obtain⟨cT,fT⟩:=X.cell l N;clear hK K';refine pz 5 (.int .i64 (w:Nat)) p ?_;refine pz 7 (.int .i64 (l:Nat)) p ?_;refine pz 8 (.pointer (some ⟨T,l,none⟩)) p ?_;refine po 9 λK' hK=>?_
    go_simp;have a9:=X.set l N;have Y:=au (ar U1 T) l (.bool true);have g2:=g1.kept Y (by simp;have:=b3.out;have:=HT.out;omega) (by simp;have:=a1.out;omega);have k2:D W (U1.setCell ⟨T,l,none⟩ (.bool true)):=k1.grown Y k1.size (λj e=>by simp at e;have:=HT.out;omega);have q2:=CK.out _ k2;refine hK _ _ ⟨q2,?_⟩;clear hK K';refine bN ?_;have FF:=H (IB g2 (IB (a9.eq a7) k2));clear g2 a9 k2 q2 k1 q1 X g1 Q R Y cT fT p CK u a7 G s m;go_wp2;go_roundw;(case rel=>exact ⟨k+1,Z,aY,H FF.1,H FF.2.1,H FF.2.2⟩);case measure=>simp [intOf];omega
   obtain rfl:k=f.ext:=Z;have l:=H (s.eq (λq hq=>a8.out q));have p:=H G.left_eq;go_wp2;go_roundw;(case rel=>exact ⟨_,v,G,l,m⟩);case measure=>rw [p.out,LE.2];exact L
theorem uJ {cf h} (i:Inv cf h) {s p:Nat} (a:eg h (g+p+1)=some s):(∀ j,j<p->(h.m (s+g+j)).isSome=false)/\(h.rg.any λr=>r.base==(s+g)*1024)=false:=by
 obtain⟨k,l,c⟩:=js a;constructor
 ·intro j e;cases b:(h.m (s+g+j)).isSome with
  | false=>rfl
  | true =>
   obtain⟨r,a,_,f,m⟩:=(i.big _ Z).1 b;have:=c r a;have d:r.ext=r.guards+r.pages+1:=rfl;omega
 cases b:(h.rg.any λr=>r.base==(s+g)*1024) with
 | false=>rfl
 | true =>
  obtain⟨r,a,e⟩:=List.any_eq_true.1 b;have f:(r.first+r.guards)*1024=(s+g)*1024:=by simpa [Rg9.base] using e
  have:=c r a;have d:r.ext=r.guards+r.pages+1:=rfl;omega
theorem sM (s g p:Nat) (a c:Int) (l:List Nat):(l.filter λx => !nt ⟨s,g,p,a,c⟩ x)=l.filter λb=>b/1024<s || s+(g+p+1)<=b/1024:=by
 congr 1;funext x;have d:(⟨s,g,p,a,c⟩:Rg9).ext=g+p+1:=rfl;unfold nt;rw [d];dsimp only;by_cases e:s<=x/1024 <;> by_cases f:x/1024<s+(g+p+1) <;> simp [e,f] <;> omega
theorem EE {o:Option Nat} {e:Ending} (h:Dz W o e W'):(∃ s:Nat,e=.returned (I s)/\o=some s/\D W W')\/(e=.panicked (ij 1)/\o=none/\D W W'):=by
 cases h with
 | yes s _ b=>exact .inl ⟨s,rfl,rfl,b⟩
 | no _ b=>exact .inr ⟨rfl,rfl,b⟩
theorem cV {v:Value} {t:TypeId} (h:W.heap[g]?=some (.cells #[v] t)):W.cell? ⟨g,0,none⟩=some v:=bY h
theorem nz (h:W.heap[g]?=some (.cells (oX r) 197)) (a:r.first<=300) (b:r.guards<=3) (c:r.pages<=18014398509481984):Lc g r W:=by
 refine⟨?_,?_,?_,?_,?_,a,b,c⟩ <;> rw [Gz _ _ _ _ _ _ h] <;> rfl
theorem sw {a:Nat} (h:a<18446744073709551616):aR a<=18014398509481984:=by
 unfold aR;split <;> omega
theorem oW (B y d cf h an) (a:Nat) (W) (hp:Hp B y d cf h W) (c:Gd d h an) (i:Inv cf h) (ha:1016<a) (c0:a<18446744073709551616) (O:h.used+2000<=1000000) (dk:kZ cf) (M:h.rg.length<4096) (q:h.rel.length<=100000) :
  Calls prog 97 #[.pointer (some ⟨y.P,0,none⟩),.int .u64 (a:Nat)] W (AI B y cf an d.lg W (aA cf h a)):=by
 have x:=H (iH cf h ha);obtain⟨o,b⟩:∃ o,aA cf h a=o:=⟨_,rfl⟩;rw [b] at x ⊢;clear b;have k:=H hp;have j:=H c;have N:=H i;have t:=H (λV (l:D W V)=>oN B y d cf h 3 V (hp.below l) Z Z Z dk.len);have v:=H (λV=>ke a V c0);clear hp c i;go_enter func97,ntmps97;go_wp2_with fail;have c:D W (W.alloc (.cells #[.pointer (some ⟨y.P,0,none⟩)] 75)):=(Fc _ _).alloc (Fe _) _;have w:=ao W (.cells #[.pointer (some ⟨y.P,0,none⟩)] 75);refine (t _ c).mono ?_;rintro e V1 ⟨rfl,n,b1⟩;have e0:dr cf h 3<3:=by
  unfold dr;omega
 have b:=H n;have i:=H (Bi.trans (Bi.ofBelow c k.bW) b1);have s:=H (show V1.heap[W.heap.size]?=some (.cells #[.pointer (some ⟨y.P,0,none⟩)] 75) from b1.ky.cells _ _ _ _ w (by unfold hI;decide));generalize p:W.heap.size=u at *;clear n b1 w c t k p;generalize c:dr cf h 3=z at *;have A:=H c;clear c;go_wp2_with fail;refine (v _).mono ?_;rintro e K ⟨rfl,rfl⟩;clear v;go_upto_region 3 with fail
 generalize c:(K.alloc (.cells #[.int .i64 1,.int .i64 (wrap64 (a:Nat)),.int .i64 0,.int .i64 (1+(z:Nat)),.int .i64 (aR a:Nat)] 197)).alloc (.cells #[.pointer (some ⟨K.heap.size,0,none⟩)] 184)=F;have t:D K F:=by rw [<-c];exact ((Fc _ _).alloc (Fe _) _).alloc (by rw [aF];omega) _
 have G:F.heap[K.heap.size]?=some (.cells (oX ⟨0,1+z,aR a,1,wrap64 (a:Nat)⟩) 197):=by
  rw [<-c,ej _ _ _ (by rw [aF];omega),ao];simp [oX]
 have p:F.heap[K.heap.size+1]?=some (.cells #[.pointer (some ⟨K.heap.size,0,none⟩)] 184):=by
  have n:=ao (K.alloc (.cells #[.int .i64 1,.int .i64 (wrap64 (a:Nat)),.int .i64 0,.int .i64 (1+(z:Nat)),.int .i64 (aR a:Nat)] 197)) (.cells #[.pointer (some ⟨K.heap.size,0,none⟩)] 184);rw [aF,c] at n;exact n
 have T:=H (b.below t);have b7:=H (i.add t b.bW);have a4:=H (show F.heap[u]?=some (.cells #[.pointer (some ⟨y.P,0,none⟩)] 75) by rw [t.block _ (ai s.out)];exact s);have c1:=H (show B<=K.heap.size from b.bW);have NL:=H (show ∀ k,d.lg k≠some K.heap.size from λk L=>by
  have n:=b.lo k;rw [L] at n;have P:h.rg.any (λr=>r.base==k)=true:=n.symm;obtain⟨r,hr,w⟩:=List.any_eq_true.1 P;have v:r.base=k:=by simpa using w
  obtain⟨g,e1,_,e3⟩:=b.lb r hr;rw [v,L] at e1;cases e1;have:=ai e3;omega)
 have a6:=H (λV (l:D K V)=>IB (b.below l) (i.add l b.bW));have B3:=H t;have b8:=H (λV (l:D K V)=>show V.heap[u]?=some (.cells #[.pointer (some ⟨y.P,0,none⟩)] 75) by rw [l.block _ (ai s.out)];exact s);clear c t b i s;obtain⟨L,b⟩:∃ L,K.heap.size=L:=⟨_,rfl⟩;have b9:=H b;rw [b] at G p c1 NL ⊢;clear b;generalize c:L+1=w at *;have HL:=H G;have b:=H p;have d3:=H (show L≠w by omega);clear G p c;have PG:=H (sw c0);obtain⟨v,c⟩:∃ v,aR a=v:=⟨_,rfl⟩;have X:=H c;rw [c] at HL PG ⊢;clear c;rw [X.out] at x;have I1:=H (N.used (h.used+1));have G1:=H (show Gd d { h with used:=h.used+1 } an from ⟨j.on,j.un,j.an⟩);clear N j A;generalize c:({ h with used:=h.used+1 } : Hs)=n at *;have d4:n.rg.length<4096:=by rw [<-c];exact M
 have c2:n.rel.length<=100000:=by rw [<-c];exact q
 clear c M q O;generalize a5:wrap64 (a:Nat)=Y at *;have c3:=H a5;clear a5;have CK:=H (show ∀ V,D F V->V.cell? ⟨w,0,none⟩=some (.pointer (some ⟨L,0,none⟩))/\V.cell? ⟨u,0,none⟩=some (.pointer (some ⟨y.P,0,none⟩)) from λV l=>⟨by rw [Gz _ _ _ _ _ _ (show V.heap[w]?=_ by rw [l.block _ (ai b.out)];exact b.out)];rfl,by rw [Gz _ _ _ _ _ _ (show V.heap[u]?=_ by rw [l.block _ (ai a4.out)];exact a4.out)];rfl⟩);have a7:=H (show ∀ V,D F V->Lc L ⟨0,1+z,v,1,Y⟩ V from λV l=>nz (by rw [l.block _ (ai HL.out)];exact HL) bF bK PG);have EX:=H (λV (l:D F V)=>iB L ⟨0,1+z,v,1,Y⟩ V (a7 V l));have RO:=H (λV (l:D F V)=>zq B y d cf n (1+z+v+1) V (T.below l) I1 Z (by have:=PG.out;omega));have a0:=H (show ∀ i,eg n (1+z+v+1)=none->D F i->AI B y cf an d.lg W o (.panicked (ij 1)) i from λi hr hU=>by
  have e1:o=(none,n):=by
   rw [x.out];split;·rfl
   ·rw [hr];rfl
  rw [e1];exact⟨.no _ _ (Hg.tk ⟨d,T.below hU,G1⟩),b7.add hU T.bW⟩)
 have FZ:=H (show ∀ V,D F V->V.frozen? ⟨L,2,none⟩=false from λV l=>by
  have:V.heap[L]?=_:=(l.block _ (ai HL)).trans HL.out;simp [World.frozen?,this])
 have c4:=H (show ∀ V (s:Nat),D F V->(V.setCell ⟨L,2,none⟩ (.int .i64 (s:Nat))).heap[L]?=some (.cells (oX ⟨s,1+z,v,1,Y⟩) 197)/\(V.setCell ⟨L,2,none⟩ (.int .i64 (s:Nat))).heap[w]?=some (.cells #[.pointer (some ⟨L,0,none⟩)] 184)/\Hp B y d cf n (V.setCell ⟨L,2,none⟩ (.int .i64 (s:Nat)))/\Bi B W (V.setCell ⟨L,2,none⟩ (.int .i64 (s:Nat)))/\(V.setCell ⟨L,2,none⟩ (.int .i64 (s:Nat))).heap[u]?=some (.cells #[.pointer (some ⟨y.P,0,none⟩)] 75) from λV s l=>by
  have c:V.heap[L]?=_:=(l.block _ (ai HL)).trans HL.out;have j:V.heap[w]?=_:=(l.block _ (ai b)).trans b.out;have k:D K (V.setCell ⟨L,2,none⟩ (.int .i64 (s:Nat))):=by
   have k1:D K V:=B3.trans (l.mono B3.size);exact k1.grown (au (ar V L) 2 _) k1.size (λr hr=>by simp at hr;have:=b9.out;omega)
  refine⟨by simp [World.setCell,Fp,c,oX],?_,(a6 _ k).1,(a6 _ k).2,b8 _ k⟩;rw [Gx _ _ _ _ (λe=>d3.out e.symm)];exact j)
 generalize c:eg n (1+z+v+1)=rm at *;have c5:=H c;clear c;refine wp_region_held (S:=λW9=>W9.cell? ⟨w,0,none⟩=some (.pointer (some ⟨L,0,none⟩))/\W9.cell? ⟨u,0,none⟩=some (.pointer (some ⟨y.P,0,none⟩))) E ?_;simp only [FA,Fx,FH,Nat.reduceAdd,Fw,Fv,FB,Fy,FJ];have j:=CK.out _ (Fc _ _).drew;refine pf 0 (.pointer (some ⟨L,0,none⟩)) rfl j (λW j=>by obtain ⟨P,Q⟩:=j;first|(go_simp;done)|(go_simp;omega)) ?_;refine pf 1 (.pointer (some ⟨y.P,0,none⟩)) rfl j (λW j=>by obtain ⟨P,Q⟩:=j;first|(go_simp;done)|(go_simp;omega)) ?_;refine pf 2 (.pointer (some ⟨L,0,none⟩)) rfl j (λW j=>by obtain ⟨P,Q⟩:=j;first|(go_simp;done)|(go_simp;omega)) ?_;refine gy 3 ?_;refine cv λK' p=>?_;go_simp
 refine (EX _ (Fc _ _).drew).mono ?_;rintro e R ⟨rfl,rfl⟩;have A:=CK.out _ (Fc _ F).drew.drew;refine p _ _ ⟨A,?_⟩;clear j;have j:=A;clear p K';refine gy 4 ?_;refine cv λK' p=>?_;go_simp
 refine (RO _ (Fc _ F).drew.drew).mono ?_;rintro e U2 q;rcases EE q with ⟨s,rfl,t,c⟩|⟨rfl,t,c⟩
 rotate_left
 ·have k2:D F U2:=(Fc _ F).drew.drew.trans ⟨c.os,c.tape,c.output,c.size,c.block⟩;exact⟨rfl,a0 U2 t k2⟩
 have k2:D F U2:=(Fc _ F).drew.drew.trans ⟨c.os,c.tape,c.output,c.size,c.block⟩;have q2:=CK.out _ k2;refine p _ _ ⟨q2,?_⟩;clear j q;have j:=q2;have d7:=(a7 U2 k2).c2;have d8:U2.frozen? ⟨L,2,none⟩=false:=FZ.out U2 k2;clear p K';refine pf 5 (.pointer (some ⟨L,0,none⟩)) rfl j (λ_ _=>E) ?_;refine pf 6 (.pointer (some ⟨L,2,none⟩)) rfl j (λ_ _=>E) ?_;refine gy 7 ?_;refine cv λK' p=>?_;go_simp
 obtain⟨a8,a9,b0,c6,b4⟩:=c4.out U2 s k2;have q3:_/\_:=⟨cV a9,cV b4⟩;refine p _ _ ⟨q3,?_⟩;clear p K';refine bN ?_;generalize U2.setCell ⟨L,2,none⟩ (.int .i64 (s:Nat))=V4 at *;have b6:=H (c5.trans t);have c8:=H t;obtain⟨r1,r2,r3⟩:=js b6.out;have a5:Y=(a:Nat):=by
  rw [<-c3.out];have q:=gE a;rw [X.out] at q;exact wrap64_in Z Z
 subst a5;obtain⟨q,a1⟩:=uJ I1 b6.out;obtain⟨r,hr⟩:∃ r:Rg9,r=⟨s,1+z,v,1,(a:Nat)⟩:=⟨_,rfl⟩;have HR:=H hr;rw [<-hr] at a8;have G:r.base=(s+(1+z))*1024:=by rw [hr];rfl
 have c9:r.base<18446744073709551616:=by rw [G];omega
 have N:=H a8;have a2:=H a9;have a3:=H b4;have O:=H b0;have d0:=H c6;have d1:=H q;have H0:=H (show d.lg r.base=none by
  have:=b0.lo r.base;rw [G,a1] at this;rw [G];simpa using this)
 have d2:=H G;have M:=H (IB r1 r2);have d9:=H (show 1<=v by have:=mE ha;rw [X.out] at this;exact this);clear a8 a9 b4 b0 c6 q a1 hr G r1 r2 r3 A q2 q3 j k2 c d7 d8 a0 RO EX a7 CK FZ c4 a6 B3 b8 b9 t HL b a4 T b7 c5 X c3 PG;have CK:=H (show V4.cell? ⟨w,0,none⟩=some (.pointer (some ⟨L,0,none⟩))/\V4.cell? ⟨u,0,none⟩=some (.pointer (some ⟨y.P,0,none⟩))/\V4.cell? ⟨y.P,115,none⟩=some (.map (some y.R)) from ⟨cV a2,cV a3,O.cell 115 Z _ rfl⟩);have a4:=H (show ∀ V,D V4 V->Lc L r V from λV l=>nz (by rw [l.block _ (ai N.out)];exact N) (by rw [HR.out];have:=M.out;simp;omega) (by rw [HR.out];simp;omega) (by rw [HR.out];have:=M.out;simp;omega));have LB:=H (λV (l:D V4 V)=>ib L r V (a4 V l));have CD:=H (show V4.drew.drew.cell? ⟨w,0,none⟩=some (.pointer (some ⟨L,0,none⟩))/\V4.drew.drew.cell? ⟨u,0,none⟩=some (.pointer (some ⟨y.P,0,none⟩))/\V4.drew.drew.cell? ⟨y.P,115,none⟩=some (.map (some y.R)) from CK);have q:=H (O.below (Fc _ V4).drew.drew);go_upto_region 4 with fail
 refine wp_region_held (S:=λW9=>W9.cell? ⟨w,0,none⟩=some (.pointer (some ⟨L,0,none⟩))/\W9.cell? ⟨u,0,none⟩=some (.pointer (some ⟨y.P,0,none⟩))/\W9.cell? ⟨y.P,115,none⟩=some (.map (some y.R))) E ?_;simp only [FA,Fx,FH,Nat.reduceAdd,Fw,Fv,FB,Fy,FJ];have j:=CK.out;refine pf 0 (.pointer (some ⟨y.P,0,none⟩)) rfl j (λW j=>by obtain ⟨P,Q,y2⟩:=j;first|(go_simp;done)|(go_simp;omega)) ?_;refine pf 1 (.pointer (some ⟨y.P,0,none⟩)) rfl j (λ_ _=>E) ?_;refine pf 2 (.pointer (some ⟨y.P,115,none⟩)) rfl j (λ_ _=>E) ?_;refine pf 3 (.map (some y.R)) rfl j (λW j=>by obtain ⟨P,Q,y2⟩:=j;first|(go_simp;done)|(go_simp;omega)) ?_;refine pf 4 (.pointer (some ⟨L,0,none⟩)) rfl j (λW j=>by obtain ⟨P,Q,y2⟩:=j;first|(go_simp;done)|(go_simp;omega)) ?_;refine pf 6 (.pointer (some ⟨L,0,none⟩)) rfl j (λW j=>by obtain ⟨P,Q,y2⟩:=j;first|(go_simp;done)|(go_simp;omega)) ?_;refine gy 5 ?_;refine cv λK' p=>?_;go_simp
 refine (LB _ (Fc _ _).drew).mono ?_;rintro e R ⟨rfl,rfl⟩;have A:=CD.out;refine p _ _ ⟨A,?_⟩;clear j;have j:=A;clear p K';refine gy 7 ?_;refine cv λK' p=>?_;obtain⟨V5,c,a6,t⟩:=q.mp.put r.base L c9 H0 d4
 have T:=iz t q.mp.typ;refine sV 88 (.tmp 29) (.tmp 31) (.tmp 32) (vm:=.map (some y.R)) (vx:=.int .u64 (r.base:Nat)) (vu:=.pointer (some ⟨L,0,none⟩)) E E E E c ?_;refine p _ _ ⟨⟨T.cellK A.1,T.cellK A.2.1,T.cellK A.2.2⟩,?_⟩;clear p K';refine bN ?_;have kD:D V4 V4.drew.drew:=(Fc _ _).drew.drew;have X:V4.drew.drew.heap[L]?=some (.cells (oX r) 197):=(kD.block _ (ai N)).trans N.out;obtain⟨a7,b5⟩:=q.addR X c1 NL H0 a6 t;have a1:=H a7;have a9:=H ((d0.add kD O.bW).trans b5);have b:=H (show V5.heap[w]?=some (.cells #[.pointer (some ⟨L,0,none⟩)] 184) from T.cells _ _ _ _ ((kD.block _ (ai a2)).trans a2) (λe=>e));have G:=H (show V5.heap[u]?=some (.cells #[.pointer (some ⟨y.P,0,none⟩)] 75) from T.cells _ _ _ _ ((kD.block _ (ai a3)).trans a3) (λe=>e));have LO:=H O.lo;have b0:=H (show V5.heap[L]?=some (.cells (oX r) 197) from T.cells _ _ _ _ X (λe=>e));clear kD X a7 b5 T a6 t c q N a2 a3 O d0 A j CK CD a4 LB;have a6:=H (show ∀ V:World,V.heap[L]?=some (.cells (oX r) 197)->Lc L r V from λV l=>nz l (by rw [HR.out];have:=M.out;simp;omega) (by rw [HR.out];simp;omega) (by rw [HR.out];have:=M.out;simp;omega));have LP:=H (λV (l:D V5 V)=>lY L 0 r V (a6 V (by rw [l.block _ (ai b0.out)];exact b0)));have c:r.pages=v/\r.first+r.guards=s+(1+z):=by rw [HR.out];exact⟨rfl,rfl⟩
 rw [c.1,c.2] at LP;clear c;obtain⟨d5,t⟩:∃ d5:Dy,d5={ d with lg:=upd d.lg r.base (some L) }:=⟨_,rfl⟩;rw [<-t] at a1;have N:=H t;have G5:=H (show d5.lg=upd d.lg r.base (some L)/\d5.un=.nilFunc/\d5.an=an/\(∀ c s,c<12->s<6->d5.on c s=dy n c s) by rw [t];exact⟨rfl,G1.un,G1.an,G1.on⟩);clear t N;have CM:=H (λV (l:D V5 V)=>nC B y d5 cf { n with rg:=n.rg++[r] } (s+(1+z)) v (.func 141) #[] #[.pointer (some ⟨u,0,none⟩),.pointer (some ⟨w,0,none⟩)] V (a1.below l) I1.out.out d9 (by have:=M.out;omega) d1);have CD:=H (show ∀ V,D V5 V->V.cell? ⟨w,0,none⟩=some (.pointer (some ⟨L,0,none⟩))/\V.cell? ⟨u,0,none⟩=some (.pointer (some ⟨y.P,0,none⟩)) from λV l=>⟨cV ((l.block _ (ai b)).trans b),cV ((l.block _ (ai G)).trans G)⟩);have b4:=H (show o=Dc cf n (1+z) v a (some s) by
  rw [x.out,Gu (by have:=M.out;omega),c8.out])
 have a0:=H (show ∀ f' R i,D V5 R->Bi B R i->(cf.bud:Int)<(bz n.m 283:Int)+v->Hp B y { d5 with f:=f',un:=.func (.func 141) #[] #[.pointer (some ⟨u,0,none⟩),.pointer (some ⟨w,0,none⟩)] } cf { n with rg:=n.rg++[r] } i->AI B y cf an d.lg W o (.panicked (ij 1)) i from λf' R i N hU hb hp=>by
  have e1:o=(none,n):=by
   rw [b4.out];show (if cf.bud<bz n.m 283+v then (none,n) else _)=_;rw [Gv Z]
  rw [e1];refine⟨.no _ _ (λV l=>?_),(a9.add N a1.bW).trans hU⟩;have O:=hp.below l;obtain⟨g,e3,_,e5⟩:=O.lb r bF;have e4:d5.lg r.base=some g:=e3;rw [G5.1,upd_same] at e4;cases e4;have cx:∀ (g:Nat) (c:Array Value) (t:TypeId),¬hI t->V5.heap[g]?=some (.cells c t)->V.heap[g]?=some (.cells c t):=λg c t ht hg=>by
   have n:=hU.ky.cells _ _ _ _ ((N.block _ (ai hg)).trans hg) ht;exact (l.block _ (ai n)).trans n
  refine (pe B y _ cf n r L u w d.lg V O G5.1 H0 LO (a6 V e5) c9 (cV (cx _ _ _ (by unfold hI;decide) G)) (cV (cx _ _ _ (by unfold hI;decide) b)) rfl).mono ?_;rintro e V' ⟨rfl,T,X⟩;exact⟨rfl,⟨_,T,⟨λc s hc hs=>G5.2.2.2 c s hc hs,rfl,G5.2.2.1⟩⟩,X⟩)
 clear x;go_upto_region 5 with fail
 refine wp_region_held (S:=λW9=>W9.cell? ⟨w,0,none⟩=some (.pointer (some ⟨L,0,none⟩))/\W9.cell? ⟨u,0,none⟩=some (.pointer (some ⟨y.P,0,none⟩))) E ?_;simp only [FA,Fx,FH,Nat.reduceAdd,Fw,Fv,FB,Fy,FJ];have j:=CD.out _ (Fc _ _).drew;refine pf 0 (.pointer (some ⟨y.P,0,none⟩)) rfl j (λW j=>by obtain ⟨P,Q⟩:=j;first|(go_simp;done)|(go_simp;omega)) ?_;refine pf 1 (.pointer (some ⟨L,0,none⟩)) rfl j (λW j=>by obtain ⟨P,Q⟩:=j;first|(go_simp;done)|(go_simp;omega)) ?_;refine pf 3 (.func (.func 141) #[] #[.pointer (some ⟨u,0,none⟩),.pointer (some ⟨w,0,none⟩)]) rfl j (λW j=>by obtain ⟨P,Q⟩:=j;first|(go_simp;done)|(go_simp;omega)) ?_;refine gy 2 ?_;refine cv λK' p=>?_;go_simp
 refine (LP _ (Fc _ _).drew).mono ?_;rintro e R ⟨rfl,b1⟩;have k1:D V5 R:=⟨b1.os,b1.tape,b1.output,b1.size,b1.block⟩;have A:=CD.out _ k1;refine p _ _ ⟨A,?_⟩;clear j;have j:=A;clear p K';refine gy 4 ?_;refine cv λK' p=>?_;go_simp
 refine (CM _ k1).mono ?_;rintro e t ⟨f',N,⟨O,rfl,a7⟩|⟨O,rfl,a7⟩⟩
 rotate_left
 ·exact⟨rfl,a0 f' R t k1 N O a7⟩
 have q2:_/\_:=⟨cV (N.ky.cells _ _ _ _ ((k1.block _ (ai b)).trans b) (by unfold hI;decide)),cV (N.ky.cells _ _ _ _ ((k1.block _ (ai G)).trans G) (by unfold hI;decide))⟩;refine p _ _ ⟨q2,?_⟩;clear j;have j:=q2;clear p K';refine bN ?_;obtain⟨d6,b7⟩:∃ d6:Dy,d6={ d5 with f:=f',un:=.nilFunc }:=⟨_,rfl⟩;obtain⟨T,a2⟩:∃ T:Hs,T={ n with rg:=n.rg++[r],m:=aU n.m (s+(1+z)) v }:=⟨_,rfl⟩;have X:=H (show Hp B y d6 cf T t by rw [b7,a2];exact a7);have c6:=H ((a9.add k1 a1.bW).trans N);have G6:=H (show d6.lg=upd d.lg r.base (some L)/\d6.un=.nilFunc/\d6.an=an/\(∀ c s,c<12->s<6->d6.on c s=dy n c s) by rw [b7];exact⟨G5.1,rfl,G5.2.2.1,G5.2.2.2⟩);have a8:=H a2;have b8:=H (show t.heap[w]?=some (.cells #[.pointer (some ⟨L,0,none⟩)] 184) from N.ky.cells _ _ _ _ ((k1.block _ (ai b)).trans b) (by unfold hI;decide));have b9:=H (show t.heap[u]?=some (.cells #[.pointer (some ⟨y.P,0,none⟩)] 75) from N.ky.cells _ _ _ _ ((k1.block _ (ai G)).trans G) (by unfold hI;decide));have c3:=H (show ¬cf.bud<bz n.m 283+v from λe=>O (by show (cf.bud:Int)<_;have:(cf.bud:Int)<((bz n.m 283+v:Nat):Int):= Z;simpa using this));have a3:=H (show t.heap[L]?=some (.cells (oX r) 197) by
  obtain⟨g,e3,_,e5⟩:=X.lb r (by rw [a2];simp);rw [G6.1,upd_same] at e3;cases e3;exact e5)
 have a4:T.rel=n.rel:=by rw [a2]
 have c4:=H (show ∀ x∈T.rel,x<18446744073709551616 from λx a=>by
  rw [a4] at a;have:=I1.rel x a;omega)
 have c5:=H (show T.rel.length<=100000 by rw [a4];exact c2);have d0:=H0;clear a7 N b7 a2 k1 b1 A q2 j O a0 CM LP CD a1 a9 b G b0 G5 LO NL H0 d1 a4;obtain⟨O,vn,vc,G⟩:=aD X.rl;have N:=H G;have q:=H (X.below (Fc _ t).drew);have DF:=H (nw B L r O vn vc T.rel t.drew (by have:=q.rl;rw [G] at this;exact this) c5 c4 (a6 _ ((Fc t.heap.size t).drew.block _ (ai a3) |>.trans a3)) ⟨_,(Fc t.heap.size t).drew.block _ (ai a3) |>.trans a3⟩);have a0:(T.rel.filter λx => !nt r x)=T.rel.filter λb=>b/1024<s || s+(1+z+v+1)<=b/1024:=by rw [HR.out];exact sM s (1+z) v 1 _ _
 rw [a0] at DF;clear a0;generalize a0:(T.rel.filter λb=>b/1024<s || s+(1+z+v+1)<=b/1024)=fl at *;have a9:=H a0;have a1:t.drew.cell? ⟨y.P,117,none⟩=some (.slice O vn vc):=q.cell 117 Z _ G;have CD:=H (show ∀ V:World,Ky (· = 23) t.drew V->V.cell? ⟨w,0,none⟩=some (.pointer (some ⟨L,0,none⟩))/\V.cell? ⟨u,0,none⟩=some (.pointer (some ⟨y.P,0,none⟩)) from λV l=>⟨cV (l.cells _ _ _ _ (show t.drew.heap[w]?=_ from b8) av),cV (l.cells _ _ _ _ (show t.drew.heap[u]?=_ from b9) av)⟩);have a2:=H (show ∀ (i:World) (Y:Option Addr) (a wc:Nat),i.ownsRow B 23 1 (.slice Y a wc) fl.length (Us fl)->t.drew.grownBy i (Value.slice O vn vc).ownBlock->(Value.slice Y a wc).ownBlock=(Value.slice O vn vc).ownBlock->_ from λi Y a wc own gr k=>q.setRl (v':=.slice Y a wc) own (by rw [N.out];exact gr) (λg hg=>by rw [k,<-N.out];exact q.rr g hg));have a4:=H (show ∀ i:World,t.drew.grownBy i (Value.slice O vn vc).ownBlock->Ky (· = 23) t.drew i from λi gr=>(q.gw (λg hg=>aH q.rl hg) (by rw [N.out];exact gr)).k);have b0:=H (show ∀ b g,d.lg b=some g->d6.lg b=some g from λb g hb=>by
  rw [G6.1];by_cases e:b=r.base;·subst e;rw [d0.out] at hb;cases hb
  ·rw [aJ _ _ _ _ e];exact hb)
 have a7:=H (show ∀ v' i,Hp B y { d6 with rl:=v' } cf { T with rel:=fl } i->Bi B t.drew i->AI B y cf an d.lg W o (.returned (.iface 184 (.pointer (some ⟨L,0,none⟩)))) i from λv' i hU b7=>by
  have e1:o=(some r.base,{ T with rel:=fl }):=by
   rw [b4.out];show (if cf.bud<bz n.m 283+v then (none,n) else _)=_;rw [Gu c3.out,<-a9.out,a8.out,d2.out,HR.out]
  rw [e1];refine⟨.range r L { d6 with rl:=v' } _ i (by rw [a8.out];simp) (by rw [HR.out]) (by show d6.lg r.base=_;rw [G6.1,upd_same]) hU ⟨λc s' hc hs=>?_,G6.2.1,G6.2.2.1⟩ (λb g hb=>b0.out b g hb),(c6.add (Fc _ _).drew X.bW).trans b7⟩;show d6.on c s'=(T.m (aB c s')).isSome;rw [G6.2.2.2 c s' hc hs,a8.out];show (n.m (aB c s')).isSome=(aU n.m (s+(1+z)) v (aB c s')).isSome;have:=cy hc hs;rw [jH _ _ _ _ (by have:=M.out;omega)])
 have NP:=H (show w≠y.P/\u≠y.P from by
  obtain⟨c,hb,_⟩:=X.box;constructor;·intro e;have:=b8.out;rw [e,hb] at this;simp at this
  ·intro e;have:=b9.out;rw [e,hb] at this;simp at this)
 clear a0 G b4 c3 G6 a8 b8 b9 a3 c4 c5 I1 G1 HR a6 d2 b6 c8 X q;have SX:=H (show ∀ (V:World) (v:Value),V.cell? ⟨w,0,none⟩=some (.pointer (some ⟨L,0,none⟩))/\V.cell? ⟨u,0,none⟩=some (.pointer (some ⟨y.P,0,none⟩))->(V.setCell ⟨y.P,117,none⟩ v).cell? ⟨w,0,none⟩=some (.pointer (some ⟨L,0,none⟩))/\(V.setCell ⟨y.P,117,none⟩ v).cell? ⟨u,0,none⟩=some (.pointer (some ⟨y.P,0,none⟩)) from λV v l=>by
  have q:w≠y.P:=NP.1;have G:u≠y.P:=NP.2;unfold World.cell? at l ⊢;rw [Gx _ _ _ _ q,Gx _ _ _ _ G];exact l)
 go_upto_region 6 with fail
 refine wp_region_held (S:=λW9=>W9.cell? ⟨w,0,none⟩=some (.pointer (some ⟨L,0,none⟩))/\W9.cell? ⟨u,0,none⟩=some (.pointer (some ⟨y.P,0,none⟩))) E ?_;simp only [FA,Fx,FH,Nat.reduceAdd,Fw,Fv,FB,Fy,FJ];have j:=CD.out _ (Ky.refl _ _);refine pf 0 (.pointer (some ⟨y.P,0,none⟩)) rfl j (λW j=>by obtain ⟨P,Q⟩:=j;first|(go_simp;done)|(go_simp;omega)) ?_;refine pf 1 (.pointer (some ⟨y.P,0,none⟩)) rfl j (λW j=>by obtain ⟨P,Q⟩:=j;first|(go_simp;done)|(go_simp;omega)) ?_;refine pf 2 (.pointer (some ⟨y.P,0,none⟩)) rfl j (λ_ _=>E) ?_;refine pf 3 (.pointer (some ⟨y.P,117,none⟩)) rfl j (λ_ _=>E) ?_;refine pf 5 (.pointer (some ⟨L,0,none⟩)) rfl j (λW j=>by obtain ⟨P,Q⟩:=j;first|(go_simp;done)|(go_simp;omega)) ?_;refine pf 6 (.func (.func 143) #[.pointer (some ⟨L,0,none⟩)] #[]) rfl j (λW j=>by obtain ⟨P,Q⟩:=j;first|(go_simp;done)|(go_simp;omega)) ?_;refine gy 4 ?_;refine cv λK' p=>?_;go_simp
 refine p _ _ ⟨j,?_⟩;clear p K';refine gy 7 ?_;refine cv λK' p=>?_;go_simp
 refine (DF).mono ?_;rintro e R ⟨v',rfl,q,G,X⟩;obtain⟨Y,wc,rfl⟩:=aK q;obtain⟨a0,a3,c7,f7⟩:=a2.out R Y _ wc q G X;rw [N.out] at c7;have A:=CD.out R (a4 R G);refine p _ _ ⟨A,?_⟩;clear j;have j:=A;clear p K';refine pf 8 (.pointer (some ⟨y.P,0,none⟩)) rfl j (λ_ _=>E) ?_;refine pf 9 (.pointer (some ⟨y.P,117,none⟩)) rfl j (λ_ _=>E) ?_;refine gy 10 ?_;refine cv λK' p=>?_;go_simp
 have q2:=SX.out R (.slice Y fl.length wc) A;refine p _ _ ⟨q2,?_⟩;clear p K';refine bN ?_;have p:=H (a7 _ _ a0 a3);have qx:=q2.1;clear a0 a3 q G X c7 f7 A q2 j CD a2 a4 a7 DF SX a1;go_wp2;go_ret;exact p.out
end
end Go.Proofs.YtdngbppdomoenaaGreatDoor
