import Derived.Test.YtdfodlhkdmkfdaaGreatDoorN20
import Derived.Test.YtdfodlhkdmkfdaaGreatDoorN25
import Derived.Test.YtdfodlhkdmkfdaaGreatDoorN24
set_option linter.unusedVariables false
set_option linter.unusedSimpArgs false
set_option maxRecDepth 20000
set_option maxHeartbeats 8000000
namespace Go.Proofs.YtdfodlhkdmkfdaaGreatDoor
open Go.Proofs.Tryz
variable {T g:Nat} {tk:Nat->Bool} {W W':World} {rg:List Rg9} {r:Rg9}
section
open Go.RowKit Go.Maps
def Ta (T:Nat) (tk:Nat->Bool) (W:World):Prop:=∃ c,W.heap[T]?=some (.cells c 260)/\c.size=96/\∀ q,q<96->c[q]?=some (.bool (tk q))
theorem Ta.cell {T tk W} (h:Ta T tk W) (q:Nat) (b:q<96):W.cell? ⟨T,q,none⟩=some (.bool (tk q))/\W.frozen? ⟨T,q,none⟩=false:=by
 obtain⟨c,a,e,d⟩:=h;exact⟨by rw [t6 _ _ _ _ _ _ a];exact d q b,by simp [World.frozen?,a]⟩
theorem Ta.lt (h:Ta T tk W):T<W.heap.size:=by
 obtain⟨c,a,_⟩:=h;exact ah a
theorem Ta.same (h:Ta T tk W) (e:W'.heap[T]?=W.heap[T]?):Ta T tk W':=by
 obtain⟨c,a,b⟩:=h;exact⟨c,e.trans a,b⟩
theorem Ta.eq {tk':Nat->Bool} (h:Ta T tk W) (e:∀ q,q<96->tk' q=tk q):Ta T tk' W:=by
 obtain⟨c,b,d,f⟩:=h;exact⟨c,b,d,λq a=>by rw [e q a];exact f q a⟩
theorem Ta.set (h:Ta T tk W) (k:Nat) (b:k<96):Ta T (λq=>tk q || decide (q=k)) (W.setCell ⟨T,k,none⟩ (.bool true)):=by
 obtain⟨c,d,a,f⟩:=h;refine⟨c.setIfInBounds k (.bool true),by simp [World.setCell,Jw,d],by simpa using a,λq g=>?_⟩;rw [JC];by_cases e:k=q;·subst e;simp [a,b]
 rw [tg e,f q g];have:decide (q=k)=false:=cd;dsimp only;rw [this,Bool.or_false]
theorem iS (h:D W W'):W.grownBy W' none:=⟨h.os,h.tape,h.output,h.size,λk a _=>h.block k a⟩
def rY (c:Option Nat):Value:=.pointer (c.map λb=>⟨b,0,none⟩)
theorem vk:Tryz.zeroCells260=Array.replicate 96 (.bool false):=E
def fB (rg:List Rg9) (left:Lit->Bool):List Rg9:=rg.filter λr => !left (.int .u64 (r.base:Nat))
theorem xM {left:Lit->Bool} (h:∀ r∈rg,left (.int .u64 (r.base:Nat))=true) (q):io (fB rg left) q=false:=by
 have:fB rg left=[]:=by
  unfold fB;rw [Lh];intro r a;rw [h r a];simp
 rw [this];rfl
theorem sg {left:Lit->Bool} (h:∀ a,left a=false):fB rg left=rg:=by
 unfold fB;rw [KE];intro r a;rw [h];rfl
theorem xI {left:Lit->Bool} (d:r∈rg) (c:∀ a∈rg,a.base=r.base->a=r) (q):io (fB rg (λz=>left z && !z.sameKey (.int .u64 (r.base:Nat)))) q=(io (fB rg left) q || (decide (r.first<=187+q)&&decide (187+q<r.first+r.ext))):=by
 unfold io fB;rw [List.any_filter,List.any_filter];cases e:(decide (r.first<=187+q)&&decide (187+q<r.first+r.ext)) with
 | true =>
  rw [Bool.or_true,List.any_eq_true];refine⟨r,d,?_⟩;rw [e];simp [Lit.sameKey]
 | false =>
  rw [Bool.or_false];rw [Bool.eq_iff_iff,List.any_eq_true,List.any_eq_true];constructor
  ·rintro⟨x,hx,hc⟩;refine⟨x,hx,?_⟩;by_cases b:x.base=r.base;·have:=c x hx b;subst this;rw [e] at hc;simp at hc
   have a:(Lit.int .u64 (x.base:Nat)).sameKey (.int .u64 (r.base:Nat))=false:=by
    simp [Lit.sameKey];omega
   dsimp only at hc;rw [a] at hc;simpa using hc
  rintro⟨x,hx,hc⟩;refine⟨x,hx,?_⟩;by_cases b:x.base=r.base;·have:=c x hx b;subst this;rw [e] at hc;simp at hc
  have a:(Lit.int .u64 (x.base:Nat)).sameKey (.int .u64 (r.base:Nat))=false:=by
   simp [Lit.sameKey];omega
  dsimp only;rw [a];simpa using hc
theorem Inv.uniq {cf h} (i:Inv cf h) {f:Rg9} (k:r∈h.rg) (c:f∈h.rg) (e:f.base=r.base):f=r:=by
 have s:=i.baseP k;have n:=i.baseP c;have p:=i.rgs r k;have q:=i.rgs f c;obtain⟨a,ha⟩:=BR k;obtain⟨b,l⟩:=BR c;have g:=Jr.1 ha;have j:=Jr.1 l;have o:=Lq.1 i.apart;unfold Rg9.ext at p q;rcases Kv a b with d|m|d;·have:=o a b g.1 j.1 d;rw [g.2,j.2] at this;unfold Rg9.ext at this;rw [e] at n;omega
 ·subst m;rw [ha] at l;exact (Option.some.inj l).symm
 have:=o b a j.1 g.1 d;rw [g.2,j.2] at this;unfold Rg9.ext at this;rw [e] at n;omega
inductive Gg (W:World):Option Nat->Ending->World->Prop
 | yes (s:Nat) (W':World) (b:D W W'):Gg W (some s) (.returned (I s)) W'
 | no (W':World) (b:D W W'):Gg W none (.panicked (iG 1)) W'
theorem Bo (B y d cf h) (n:Nat) (W) (a:Hp B y d cf h W) (i:Inv cf h) (hn:1<=n) (b7:n<=18014398509482000) :
  Calls prog 161 #[.pointer (some ⟨y.P,0,none⟩),.int .i64 (n:Nat)] W (Gg W (eh h n)):=by
 have K:=H (λV (o:D W V)=>a.below o);have HI:=H i;have LS:=H (λV (o:D W V)=>jm V (a.below o).tb);clear a i;go_enter func161,ntmps161;go_upto_region 2 with fail
 have p:D W (W.alloc (.cells Tryz.zeroCells260 260)):=(Jn _ _).alloc (Jo _) _;have k:Ta W.heap.size (λ_=>false) (W.alloc (.cells Tryz.zeroCells260 260)):=⟨_,av W _,by rw [vk];simp,λq hq=>by rw [vk];simp [hq]⟩;have b:=K.out _ p;obtain⟨a,e,b8,l,f⟩:=b.mp.map;have m:=b.cell 115 Z (.map (some y.R)) rfl;have j:=H (show y.R<(W.alloc (.cells Tryz.zeroCells260 260)).heap.size by obtain ⟨es,c,hR⟩:=b.mp.typ;exact ah hR);have b3:=H (show y.R<W.heap.size by obtain ⟨es,c,hR⟩:=(K W (Jn _ _)).mp.typ;exact ah hR);generalize W.alloc _=V at *;obtain⟨T,hT⟩:∃ T,T=W.heap.size:=⟨_,rfl⟩;rw [<-hT] at k ⊢;have HT:=H hT;clear hT;have HD:=H (LG l f);have c0:=H b.lb;have a0:=H b.lo;have BT:=H p;clear b l f p;go_wp2_with (at_range;refine wpList_range_own _ rfl _ 77 rfl 22 196 fM underlying77 eN y.R 4096 a rfl e ?_;intro w0 b f l)
 go_frame
 obtain⟨r,F⟩:∃ r,r=V.heap.size:=⟨_,rfl⟩;have p:D V w0:=(Jn V.heap.size V).grown f (Jo _) bh;have s:=H (k.same (p.block _ k.lt));have B0:=H (BT.trans (p.mono BT.size));have a1:=H (show T<r by rw [F];exact k.lt);have b4:=H (show W.heap.size<=r by rw [F];exact BT.size);have c1:=H (show y.R<r by rw [F];exact j);rw [<-F] at b ⊢;have a2:=H b;have a3:=H (s.eq (tk':=io (fB h.rg (has a))) (λq hq=>xM (λr F=>by
  have h1:=HI.baseP F;rw [HD.2 r.base Z,a0.out r.base];exact List.any_eq_true.2 ⟨r,F,bh⟩) q))
 clear b f l e k s p F m j;go_loopw [7] (λ_ wr=>∃ (left:Lit->Bool) (O:Nat),Hid (wr.ranges prog 22 eN y.R r 4096 a left O)/\Hid (Ta T (io (fB h.rg left)) wr)/\Hid (D W wr)) (λ_ wr=>wr.rangeLeft y.R r);case atStart=>exact ⟨_,_,a2,a3,B0⟩
 case round =>
  obtain⟨left,O,G,p,l⟩:=hrel;clear a2 a3 B0;go_wp2_with (at_next;refine wpList_next_ranges _ rfl _ rfl 22 fM eN (Value.int .u64) rY (λb kl hk=>by obtain ⟨x,rfl,_⟩:=Maps.keyOf_int_inv underlying22 hk;exact⟨x,rfl⟩) (λv y P=>by exact (iJ P).elim (λ⟨b,e,_⟩=>⟨some b,e⟩) (λ⟨e,_⟩=>⟨none,e⟩)) y.R r 4096 a left O rfl G ?_ ?_)
  ·intro j f;have s:=H (show Ta T (io h.rg) wr by have:=p.out;rw [sg f] at this;exact this);clear p G j f HD;have A:=H (show ∀ r∈h.rg,187<=r.first/\1<=r.ext from λr F=>by
    have:=HI.rgs r F;unfold Rg9.ext;omega)
   go_wp2;go_loopw [9,35] (λf i wq=>∃ k:Nat,k<=96/\i=.int .i64 k/\f=.int .i64 (ot (io h.rg) k:Nat)/\Hid (∀ j,j<=k->ot (io h.rg) j<n)/\Hid (Ta T (io h.rg) wq)/\Hid (D W wq)) (λ_ i _=>96-(intOf i).toNat)
   case atStart=>exact ⟨0,Jt _,rfl,rfl,H (λj hj=>by
    obtain rfl:j=0:=Z;show 0<n;omega),s,l⟩
   case round =>
    clear s l;obtain⟨k,hk,rfl,rfl,v,s,m⟩:=hrel;by_cases L:k<96
    ·have N:=(s.cell k L).1;have a4:=qe (io h.rg) k;have z:=H (show ot (io h.rg) (k+1)=if io h.rg k then 0 else ot (io h.rg) k+1 from rfl);have w:=H (λh1=>uF A hn L h1 v);generalize io h.rg k=tk at *;cases tk with
     | true =>
      have Q:=H (show ∀ j,j<=k+1->ot (io h.rg) j<n from λj hj=>by
       by_cases e:j=k+1;·subst e;rw [z.out];simp;omega
       exact v j Z)
      have t:((0:Int)==(n:Int))=false:=cd;have f:=H (show ot (io h.rg) (k+1)=0 by rw [z.out];rfl);generalize ot (io h.rg) k=M at *;clear z w v;go_wp2;go_roundw;(case rel=>exact ⟨k+1,Z,aR,by rw [f.out];rfl,Q,s,m⟩);case measure=>simp [intOf];omega
     | false =>
      have f:=H (show ot (io h.rg) (k+1)=ot (io h.rg) k+1 by rw [z.out];rfl);have a5:=v.out k (Jo _);generalize t:ot (io h.rg) k=M at *;clear t;by_cases R:M+1=n
      ·have X:=H (w (by rw [f.out];exact R));have t:((M:Int)+1==(n:Int))=true:=cd;have u:=H (LS wr m);have Y:=H (show ((187+(k+1-n):Nat):Int)=187+(k:Int)+1-(n:Int) by omega);clear z w v f R;go_wp2_with fail;refine (u).mono ?_;rintro e V9 ⟨rfl,b9⟩;have B9:=H (m.trans (b9.mono m.size));clear b9 u;go_wp2;go_ret;rw [X.out];have:=Gg.yes (W:=W) (187+(k+1-n)) V9 B9.out;rw [Y.out] at this;exact this
      have Q:=H (show ∀ j,j<=k+1->ot (io h.rg) j<n from λj hj=>by
       by_cases e:j=k+1;·subst e;rw [f.out];omega
       exact v j Z)
      have t:((M:Int)+1==(n:Int))=false:=cd;clear z w v R;go_wp2;go_roundw;(case rel=>exact ⟨k+1,Z,aR,by rw [f.out];simp,Q,s,m⟩);case measure=>simp [intOf];omega
    obtain rfl:k=96:=Z;have X:=H (vg A hn v);generalize ot (io h.rg) 96=M at *;clear v;go_wp2;refine⟨rfl,?_⟩;rw [X.out];exact .no _ m.out
  intro x c kl yd yp M v N a4 P w z L Q a9 t;obtain⟨x',ex,rfl,a5⟩:=Maps.keyOf_int_inv underlying22 N;cases ex;have b5:=bounds_u64 a5;obtain⟨kk,rfl⟩:∃ kk:Nat,x=(kk:Int):=⟨x.toNat,Z⟩;have R:=has_true_of_atKey w;rw [HD.2 kk Z,a0.out kk] at R;obtain⟨f,A,a6⟩:=List.any_eq_true.1 R;simp at a6;subst a6;obtain⟨g,X,lc⟩:=(K W (Jn _ _)).lcAt HI A;have Y:=w .nil;rw [HD.1 f.base Z,X] at Y;obtain rfl:c=some g:=by
   cases c with
   | none=>simp [rY,eN] at P;rw [<-P.1] at Y;simp [tz] at Y
   | some b =>
    simp [rY,eN] at P;rw [<-P.1] at Y;simp [tz] at Y;have:b=g:=Z;rw [this]
  have b2:D W M:=l.grown Q l.size (λj e=>by cases e;exact b4);have B2:=H b2;have a7:=H (p.same (Q.block _ p.lt (λe=>by simp at e;have:=a1.out;omega)));have G2:=H z;have LE:=H (LG z.left_eq G.left_eq);have LC:=H (λV (o:D W V)=>lc.below o);have EX:=H (λV (o:D W V)=>ja g f V (lc.below o));have b6:=HI.rgs f A;have a8:=H (λq=>xI (left:=left) A (λb b e=>HI.uniq A b e) q);have c2:=H (show g≠T by
   have:=(K W (Jn _ _)).lb f A;obtain⟨g',h1,h2,h3⟩:=this;rw [X] at h1;cases h1;have:=ah h3;rw [HT.out];omega)
  unfold rY at t ⊢;simp only [DC] at t ⊢;have c3:f.ext<=96:=Z;have c4:f.first<=283:=Z
  have c5:187<=f.first:=Z
  have c6:f.first+f.ext<=283:=Z
  clear N a4 P w z Q a9 R Y p l G X lc b6 b2 b5 a5;generalize l:f.base=bs at *;clear l;go_wp2_with fail;refine (EX _ B2).mono ?_;rintro e w3 ⟨rfl,rfl⟩;clear EX;have G3:=H (show M.drew.ranges prog 22 eN y.R r 4096 a (λz=>left z && !z.sameKey (.int .u64 (bs:Nat))) v from G2.kept ((Jn M.heap.size M).drew |> iS) bh bh);have a5:=H (show Ta T (λq=>io (fB h.rg left) q || (decide (f.first<=187+q)&&decide (187+q<f.first+0))) M.drew from (a7.same (W':=M.drew) rfl).eq (λq hq=>by
   have:(decide (f.first<=187+q)&&decide (187+q<f.first+0))=false:=by simp <;> omega
   rw [this,Bool.or_false]))
  have B3:=H (show D W M.drew from B2.drew);clear G2 a7 B2 t;generalize M.drew=W3 at *;go_wp2;go_loopw [22] (λi wq=>∃ k:Nat,k<=f.ext/\i=.int .i64 k/\Hid (wq.ranges prog 22 eN y.R r 4096 a (λz=>left z && !z.sameKey (.int .u64 (bs:Nat))) v)/\Hid (Ta T (λq=>io (fB h.rg left) q || (decide (f.first<=187+q)&&decide (187+q<f.first+k))) wq)/\Hid (D W wq)) (λi _=>f.ext-(intOf i).toNat);case atStart=>exact ⟨0,Jt _,rfl,G3,a5,B3⟩
  case round =>
   clear G3 a5 B3;obtain⟨k,hk,rfl,G,s,m⟩:=hrel;by_cases a4:k<f.ext
   ·obtain⟨w,p⟩:∃ w:Nat,f.first=187+w:=⟨f.first-187,Z⟩
    obtain⟨l,Q⟩:∃ l,l=w+k:=⟨_,rfl⟩;have N:l<96:=Z;have CK:=H (λV (o:D W V)=>(LC V o).c2);have u:=H (λV (o:D W V)=>LS.out V o);have b5:IntKind.i64.wrap ((f.first:Int)-187)=(w:Int):=(by rw [jt _ Z Z];omega);have b6:IntKind.i64.wrap ((w:Int)+(k:Int))=(l:Int):=(by rw [jt _ Z Z];omega);have a7:=H (show ∀ q,q<96->(io (fB h.rg left) q || (decide (f.first<=187+q)&&decide (187+q<f.first+(k+1))))=((io (fB h.rg left) q || (decide (f.first<=187+q)&&decide (187+q<f.first+k))) || decide (q=l)) from λq hq=>by
     rw [p,Q];by_cases e:q=w+k;·subst e;simp;omega
     rw [show decide (q=w+k)=false by simp [e],Bool.or_false];congr 2;exact decide_eq_decide.2 Z)
    generalize R:f.first=fs at *
    clear R p Q;(go_upto_region 8 with fail);refine rh (S:=λa=>a.cell? ⟨g,2,none⟩=some (.int .i64 (fs:Nat))) ?_;have p:=CK.out wr.drew m.drew;refine pk 0 (.pointer (some ⟨g,0,none⟩)) p ?_;refine pk 1 (.pointer (some ⟨g,0,none⟩)) p ?_;refine pk 2 (.pointer (some ⟨g,2,none⟩)) p ?_;refine pz 3 (.int .i64 (fs:Nat)) p ?_;refine pk 6 (.int .i64 (k:Nat)) p ?_;refine po 4 λK' hK=>?_;go_simp;refine (u _ m.drew).mono ?_;rintro e U1 ⟨rfl,Q⟩;have k1:D W U1:=m.drew.trans (Q.mono m.size);have q1:=CK.out _ k1;have R:D wr U1:=⟨Q.os,Q.tape,Q.output,Q.size,Q.block⟩;have X:=s.same (R.block _ s.lt);have g1:=G.kept (iS R) bh bh;refine hK _ _ ⟨q1,?_⟩;clear p;have p:=q1;obtain⟨cT,fT⟩:=X.cell l N;clear hK K';refine pz 5 (.int .i64 (w:Nat)) p ?_;refine pz 7 (.int .i64 (l:Nat)) p ?_;refine pz 8 (.pointer (some ⟨T,l,none⟩)) p ?_;refine po 9 λK' hK=>?_
    go_simp;have a9:=X.set l N;have Y:=au (ao U1 T) l (.bool true);have g2:=g1.kept Y (by simp;have:=b3.out;have:=HT.out;omega) (by simp;have:=a1.out;omega);have k2:D W (U1.setCell ⟨T,l,none⟩ (.bool true)):=k1.grown Y k1.size (λj e=>by simp at e;have:=HT.out;omega);have q2:=CK.out _ k2;refine hK _ _ ⟨q2,?_⟩;clear hK K';refine bY ?_;have FF:=H (LG g2 (LG (a9.eq a7) k2));clear g2 a9 k2 q2 k1 q1 X g1 Q R Y cT fT p CK u a7 G s m;go_wp2;go_roundw;(case rel=>exact ⟨k+1,Z,aR,H FF.1,H FF.2.1,H FF.2.2⟩);case measure=>simp [intOf];omega
   obtain rfl:k=f.ext:=Z;have l:=H (s.eq (λq hq=>a8.out q));have p:=H G.left_eq;go_wp2;go_roundw;(case rel=>exact ⟨_,v,G,l,m⟩);case measure=>rw [p.out,LE.2];exact L
theorem wI {cf h} (i:Inv cf h) {s p:Nat} (a:eh h (g+p+1)=some s):(∀ j,j<p->(h.m (s+g+j)).isSome=false)/\(h.rg.any λr=>r.base==(s+g)*1024)=false:=by
 obtain⟨k,l,c⟩:=jY a;constructor
 ·intro j e;cases b:(h.m (s+g+j)).isSome with
  | false=>rfl
  | true =>
   obtain⟨r,a,_,f,m⟩:=(i.big _ Z).1 b;have:=c r a;have d:r.ext=r.guards+r.pages+1:=rfl;omega
 cases b:(h.rg.any λr=>r.base==(s+g)*1024) with
 | false=>rfl
 | true =>
  obtain⟨r,a,e⟩:=List.any_eq_true.1 b;have f:(r.first+r.guards)*1024=(s+g)*1024:=by simpa [Rg9.base] using e
  have:=c r a;have d:r.ext=r.guards+r.pages+1:=rfl;omega
theorem uJ (s g p:Nat) (a c:Int) (l:List Nat):(l.filter λx => !oC ⟨s,g,p,a,c⟩ x)=l.filter λb=>b/1024<s || s+(g+p+1)<=b/1024:=by
 congr 1;funext x;have d:(⟨s,g,p,a,c⟩:Rg9).ext=g+p+1:=rfl;unfold oC;rw [d];dsimp only;by_cases e:s<=x/1024 <;> by_cases f:x/1024<s+(g+p+1) <;> simp [e,f] <;> omega
theorem Iw {o:Option Nat} {e:Ending} (h:Gg W o e W'):(∃ s:Nat,e=.returned (I s)/\o=some s/\D W W')\/(e=.panicked (iG 1)/\o=none/\D W W'):=by
 cases h with
 | yes s _ b=>exact .inl ⟨s,rfl,rfl,b⟩
 | no _ b=>exact .inr ⟨rfl,rfl,b⟩
theorem cX {v:Value} {t:TypeId} (h:W.heap[g]?=some (.cells #[v] t)):W.cell? ⟨g,0,none⟩=some v:=aM h
theorem oS (h:W.heap[g]?=some (.cells (qk r) 209)) (a:r.first<=300) (b:r.guards<=3) (c:r.pages<=18014398509481984):Lc g r W:=by
 refine⟨?_,?_,?_,?_,?_,a,b,c⟩ <;> rw [t6 _ _ _ _ _ _ h] <;> rfl
theorem uU {a:Nat} (h:a<18446744073709551616):aS a<=18014398509481984:=by
 unfold aS;split <;> omega
theorem qX (B y d cf h an) (a:Nat) (W) (hp:Hp B y d cf h W) (c:Gd d h an) (i:Inv cf h) (ha:1016<a) (c0:a<18446744073709551616) (O:h.used+2000<=1000000) (dk:kz cf) (M:h.rg.length<4096) (q:h.rel.length<=100000) :
  Calls prog 104 #[.pointer (some ⟨y.P,0,none⟩),.int .u64 (a:Nat)] W (DJ B y cf an d.lg W (az cf h a)):=by
 have x:=H (jl cf h ha);obtain⟨o,b⟩:∃ o,az cf h a=o:=⟨_,rfl⟩;rw [b] at x ⊢;clear b;have k:=H hp;have j:=H c;have N:=H i;have t:=H (λV (l:D W V)=>qy B y d cf h 3 V (hp.below l) Z Z Z dk.len);have v:=H (λV=>lr a V c0);clear hp c i;go_enter func104,ntmps104;go_wp2_with fail;have c:D W (W.alloc (.cells #[.pointer (some ⟨y.P,0,none⟩)] 64)):=(Jn _ _).alloc (Jo _) _;have w:=av W (.cells #[.pointer (some ⟨y.P,0,none⟩)] 64);refine (t _ c).mono ?_;rintro e V1 ⟨rfl,n,b1⟩;have e0:dr cf h 3<3:=by
  unfold dr;omega
 have b:=H n;have i:=H (Bi.trans (Bi.ofBelow c k.bW) b1);have s:=H (show V1.heap[W.heap.size]?=some (.cells #[.pointer (some ⟨y.P,0,none⟩)] 64) from b1.ky.cells _ _ _ _ w (by unfold hI;decide));generalize p:W.heap.size=u at *;clear n b1 w c t k p;generalize c:dr cf h 3=z at *;have A:=H c;clear c;go_wp2_with fail;refine (v _).mono ?_;rintro e K ⟨rfl,rfl⟩;clear v;go_upto_region 3 with fail
 generalize c:(K.alloc (.cells #[.int .i64 1,.int .i64 (wrap64 (a:Nat)),.int .i64 0,.int .i64 (1+(z:Nat)),.int .i64 (aS a:Nat)] 209)).alloc (.cells #[.pointer (some ⟨K.heap.size,0,none⟩)] 196)=F;have t:D K F:=by rw [<-c];exact ((Jn _ _).alloc (Jo _) _).alloc (by rw [aA];omega) _
 have G:F.heap[K.heap.size]?=some (.cells (qk ⟨0,1+z,aS a,1,wrap64 (a:Nat)⟩) 209):=by
  rw [<-c,dG _ _ _ (by rw [aA];omega),av];simp [qk]
 have p:F.heap[K.heap.size+1]?=some (.cells #[.pointer (some ⟨K.heap.size,0,none⟩)] 196):=by
  have n:=av (K.alloc (.cells #[.int .i64 1,.int .i64 (wrap64 (a:Nat)),.int .i64 0,.int .i64 (1+(z:Nat)),.int .i64 (aS a:Nat)] 209)) (.cells #[.pointer (some ⟨K.heap.size,0,none⟩)] 196);rw [aA,c] at n;exact n
 have T:=H (b.below t);have b7:=H (i.add t b.bW);have a4:=H (show F.heap[u]?=some (.cells #[.pointer (some ⟨y.P,0,none⟩)] 64) by rw [t.block _ (ah s.out)];exact s);have c1:=H (show B<=K.heap.size from b.bW);have NL:=H (show ∀ k,d.lg k≠some K.heap.size from λk L=>by
  have n:=b.lo k;rw [L] at n;have P:h.rg.any (λr=>r.base==k)=true:=n.symm;obtain⟨r,hr,w⟩:=List.any_eq_true.1 P;have v:r.base=k:=by simpa using w
  obtain⟨g,e1,_,e3⟩:=b.lb r hr;rw [v,L] at e1;cases e1;have:=ah e3;omega)
 have a6:=H (λV (l:D K V)=>LG (b.below l) (i.add l b.bW));have B3:=H t;have b8:=H (λV (l:D K V)=>show V.heap[u]?=some (.cells #[.pointer (some ⟨y.P,0,none⟩)] 64) by rw [l.block _ (ah s.out)];exact s);clear c t b i s;obtain⟨L,b⟩:∃ L,K.heap.size=L:=⟨_,rfl⟩;have b9:=H b;rw [b] at G p c1 NL ⊢;clear b;generalize c:L+1=w at *;have HL:=H G;have b:=H p;have d3:=H (show L≠w by omega);clear G p c;have PG:=H (uU c0);obtain⟨v,c⟩:∃ v,aS a=v:=⟨_,rfl⟩;have X:=H c;rw [c] at HL PG ⊢;clear c;rw [X.out] at x;have I1:=H (N.used (h.used+1));have G1:=H (show Gd d { h with used:=h.used+1 } an from ⟨j.on,j.un,j.an⟩);clear N j A;generalize c:({ h with used:=h.used+1 } : Hs)=n at *;have d4:n.rg.length<4096:=by rw [<-c];exact M
 have c2:n.rel.length<=100000:=by rw [<-c];exact q
 clear c M q O;generalize a5:wrap64 (a:Nat)=Y at *;have c3:=H a5;clear a5;have CK:=H (show ∀ V,D F V->V.cell? ⟨w,0,none⟩=some (.pointer (some ⟨L,0,none⟩))/\V.cell? ⟨u,0,none⟩=some (.pointer (some ⟨y.P,0,none⟩)) from λV l=>⟨by rw [t6 _ _ _ _ _ _ (show V.heap[w]?=_ by rw [l.block _ (ah b.out)];exact b.out)];rfl,by rw [t6 _ _ _ _ _ _ (show V.heap[u]?=_ by rw [l.block _ (ah a4.out)];exact a4.out)];rfl⟩);have a7:=H (show ∀ V,D F V->Lc L ⟨0,1+z,v,1,Y⟩ V from λV l=>oS (by rw [l.block _ (ah HL.out)];exact HL) bh cd PG);have EX:=H (λV (l:D F V)=>ja L ⟨0,1+z,v,1,Y⟩ V (a7 V l));have RO:=H (λV (l:D F V)=>Bo B y d cf n (1+z+v+1) V (T.below l) I1 Z (by have:=PG.out;omega));have a0:=H (show ∀ i,eh n (1+z+v+1)=none->D F i->DJ B y cf an d.lg W o (.panicked (iG 1)) i from λi hr hU=>by
  have e1:o=(none,n):=by
   rw [x.out];split;·rfl
   ·rw [hr];rfl
  rw [e1];exact⟨.no _ _ (Hg.tk ⟨d,T.below hU,G1⟩),b7.add hU T.bW⟩)
 have FZ:=H (show ∀ V,D F V->V.frozen? ⟨L,2,none⟩=false from λV l=>by
  have:V.heap[L]?=_:=(l.block _ (ah HL)).trans HL.out;simp [World.frozen?,this])
 have c4:=H (show ∀ V (s:Nat),D F V->(V.setCell ⟨L,2,none⟩ (.int .i64 (s:Nat))).heap[L]?=some (.cells (qk ⟨s,1+z,v,1,Y⟩) 209)/\(V.setCell ⟨L,2,none⟩ (.int .i64 (s:Nat))).heap[w]?=some (.cells #[.pointer (some ⟨L,0,none⟩)] 196)/\Hp B y d cf n (V.setCell ⟨L,2,none⟩ (.int .i64 (s:Nat)))/\Bi B W (V.setCell ⟨L,2,none⟩ (.int .i64 (s:Nat)))/\(V.setCell ⟨L,2,none⟩ (.int .i64 (s:Nat))).heap[u]?=some (.cells #[.pointer (some ⟨y.P,0,none⟩)] 64) from λV s l=>by
  have c:V.heap[L]?=_:=(l.block _ (ah HL)).trans HL.out;have j:V.heap[w]?=_:=(l.block _ (ah b)).trans b.out;have k:D K (V.setCell ⟨L,2,none⟩ (.int .i64 (s:Nat))):=by
   have k1:D K V:=B3.trans (l.mono B3.size);exact k1.grown (au (ao V L) 2 _) k1.size (λr hr=>by simp at hr;have:=b9.out;omega)
  refine⟨by simp [World.setCell,Jw,c,qk],?_,(a6 _ k).1,(a6 _ k).2,b8 _ k⟩;rw [t4 _ _ _ _ (λe=>d3.out e.symm)];exact j)
 generalize c:eh n (1+z+v+1)=rm at *;have c5:=H c;clear c;refine wp_region_held (S:=λW9=>W9.cell? ⟨w,0,none⟩=some (.pointer (some ⟨L,0,none⟩))/\W9.cell? ⟨u,0,none⟩=some (.pointer (some ⟨y.P,0,none⟩))) E ?_;simp only [JJ,JD,JO,Nat.reduceAdd,JI,JH,JM,JF,JP];have j:=CK.out _ (Jn _ _).drew;refine pf 0 (.pointer (some ⟨L,0,none⟩)) rfl j (λW j=>by obtain ⟨P,Q⟩:=j;first|(go_simp;done)|(go_simp;omega)) ?_;refine pf 1 (.pointer (some ⟨y.P,0,none⟩)) rfl j (λW j=>by obtain ⟨P,Q⟩:=j;first|(go_simp;done)|(go_simp;omega)) ?_;refine pf 2 (.pointer (some ⟨L,0,none⟩)) rfl j (λW j=>by obtain ⟨P,Q⟩:=j;first|(go_simp;done)|(go_simp;omega)) ?_;refine gu 3 ?_;refine cS λK' p=>?_;go_simp
 refine (EX _ (Jn _ _).drew).mono ?_;rintro e R ⟨rfl,rfl⟩;have A:=CK.out _ (Jn _ F).drew.drew;refine p _ _ ⟨A,?_⟩;clear j;have j:=A;clear p K';refine gu 4 ?_;refine cS λK' p=>?_;go_simp
 refine (RO _ (Jn _ F).drew.drew).mono ?_;rintro e U2 q;rcases Iw q with ⟨s,rfl,t,c⟩|⟨rfl,t,c⟩
 rotate_left
 ·have k2:D F U2:=(Jn _ F).drew.drew.trans ⟨c.os,c.tape,c.output,c.size,c.block⟩;exact⟨rfl,a0 U2 t k2⟩
 have k2:D F U2:=(Jn _ F).drew.drew.trans ⟨c.os,c.tape,c.output,c.size,c.block⟩;have q2:=CK.out _ k2;refine p _ _ ⟨q2,?_⟩;clear j q;have j:=q2;have d7:=(a7 U2 k2).c2;have d8:U2.frozen? ⟨L,2,none⟩=false:=FZ.out U2 k2;clear p K';refine pf 5 (.pointer (some ⟨L,0,none⟩)) rfl j (λ_ _=>E) ?_;refine pf 6 (.pointer (some ⟨L,2,none⟩)) rfl j (λ_ _=>E) ?_;refine gu 7 ?_;refine cS λK' p=>?_;go_simp
 obtain⟨a8,a9,b0,c6,b4⟩:=c4.out U2 s k2;have q3:_/\_:=⟨cX a9,cX b4⟩;refine p _ _ ⟨q3,?_⟩;clear p K';refine bY ?_;generalize U2.setCell ⟨L,2,none⟩ (.int .i64 (s:Nat))=V4 at *;have b6:=H (c5.trans t);have c8:=H t;obtain⟨r1,r2,r3⟩:=jY b6.out;have a5:Y=(a:Nat):=by
  rw [<-c3.out];have q:=gP a;rw [X.out] at q;exact wrap64_in Z Z
 subst a5;obtain⟨q,a1⟩:=wI I1 b6.out;obtain⟨r,hr⟩:∃ r:Rg9,r=⟨s,1+z,v,1,(a:Nat)⟩:=⟨_,rfl⟩;have HR:=H hr;rw [<-hr] at a8;have G:r.base=(s+(1+z))*1024:=by rw [hr];rfl
 have c9:r.base<18446744073709551616:=by rw [G];omega
 have N:=H a8;have a2:=H a9;have a3:=H b4;have O:=H b0;have d0:=H c6;have d1:=H q;have H0:=H (show d.lg r.base=none by
  have:=b0.lo r.base;rw [G,a1] at this;rw [G];simpa using this)
 have d2:=H G;have M:=H (LG r1 r2);have d9:=H (show 1<=v by have:=m_ ha;rw [X.out] at this;exact this);clear a8 a9 b4 b0 c6 q a1 hr G r1 r2 r3 A q2 q3 j k2 c d7 d8 a0 RO EX a7 CK FZ c4 a6 B3 b8 b9 t HL b a4 T b7 c5 X c3 PG;have CK:=H (show V4.cell? ⟨w,0,none⟩=some (.pointer (some ⟨L,0,none⟩))/\V4.cell? ⟨u,0,none⟩=some (.pointer (some ⟨y.P,0,none⟩))/\V4.cell? ⟨y.P,115,none⟩=some (.map (some y.R)) from ⟨cX a2,cX a3,O.cell 115 Z _ rfl⟩);have a4:=H (show ∀ V,D V4 V->Lc L r V from λV l=>oS (by rw [l.block _ (ah N.out)];exact N) (by rw [HR.out];have:=M.out;simp;omega) (by rw [HR.out];simp;omega) (by rw [HR.out];have:=M.out;simp;omega));have LB:=H (λV (l:D V4 V)=>iK L r V (a4 V l));have CD:=H (show V4.drew.drew.cell? ⟨w,0,none⟩=some (.pointer (some ⟨L,0,none⟩))/\V4.drew.drew.cell? ⟨u,0,none⟩=some (.pointer (some ⟨y.P,0,none⟩))/\V4.drew.drew.cell? ⟨y.P,115,none⟩=some (.map (some y.R)) from CK);have q:=H (O.below (Jn _ V4).drew.drew);go_upto_region 4 with fail
 refine wp_region_held (S:=λW9=>W9.cell? ⟨w,0,none⟩=some (.pointer (some ⟨L,0,none⟩))/\W9.cell? ⟨u,0,none⟩=some (.pointer (some ⟨y.P,0,none⟩))/\W9.cell? ⟨y.P,115,none⟩=some (.map (some y.R))) E ?_;simp only [JJ,JD,JO,Nat.reduceAdd,JI,JH,JM,JF,JP];have j:=CK.out;refine pf 0 (.pointer (some ⟨y.P,0,none⟩)) rfl j (λW j=>by obtain ⟨P,Q,y2⟩:=j;first|(go_simp;done)|(go_simp;omega)) ?_;refine pf 1 (.pointer (some ⟨y.P,0,none⟩)) rfl j (λ_ _=>E) ?_;refine pf 2 (.pointer (some ⟨y.P,115,none⟩)) rfl j (λ_ _=>E) ?_;refine pf 3 (.map (some y.R)) rfl j (λW j=>by obtain ⟨P,Q,y2⟩:=j;first|(go_simp;done)|(go_simp;omega)) ?_;refine pf 4 (.pointer (some ⟨L,0,none⟩)) rfl j (λW j=>by obtain ⟨P,Q,y2⟩:=j;first|(go_simp;done)|(go_simp;omega)) ?_;refine pf 6 (.pointer (some ⟨L,0,none⟩)) rfl j (λW j=>by obtain ⟨P,Q,y2⟩:=j;first|(go_simp;done)|(go_simp;omega)) ?_;refine gu 5 ?_;refine cS λK' p=>?_;go_simp
 refine (LB _ (Jn _ _).drew).mono ?_;rintro e R ⟨rfl,rfl⟩;have A:=CD.out;refine p _ _ ⟨A,?_⟩;clear j;have j:=A;clear p K';refine gu 7 ?_;refine cS λK' p=>?_;obtain⟨V5,c,a6,t⟩:=q.mp.put r.base L c9 H0 d4
 have T:=iX t q.mp.typ;refine tL 77 (.tmp 29) (.tmp 31) (.tmp 32) (vm:=.map (some y.R)) (vx:=.int .u64 (r.base:Nat)) (vu:=.pointer (some ⟨L,0,none⟩)) E E E E c ?_;refine p _ _ ⟨⟨T.cellK A.1,T.cellK A.2.1,T.cellK A.2.2⟩,?_⟩;clear p K';refine bY ?_;have kD:D V4 V4.drew.drew:=(Jn _ _).drew.drew;have X:V4.drew.drew.heap[L]?=some (.cells (qk r) 209):=(kD.block _ (ah N)).trans N.out;obtain⟨a7,b5⟩:=q.addR X c1 NL H0 a6 t;have a1:=H a7;have a9:=H ((d0.add kD O.bW).trans b5);have b:=H (show V5.heap[w]?=some (.cells #[.pointer (some ⟨L,0,none⟩)] 196) from T.cells _ _ _ _ ((kD.block _ (ah a2)).trans a2) (λe=>e));have G:=H (show V5.heap[u]?=some (.cells #[.pointer (some ⟨y.P,0,none⟩)] 64) from T.cells _ _ _ _ ((kD.block _ (ah a3)).trans a3) (λe=>e));have LO:=H O.lo;have b0:=H (show V5.heap[L]?=some (.cells (qk r) 209) from T.cells _ _ _ _ X (λe=>e));clear kD X a7 b5 T a6 t c q N a2 a3 O d0 A j CK CD a4 LB;have a6:=H (show ∀ V:World,V.heap[L]?=some (.cells (qk r) 209)->Lc L r V from λV l=>oS l (by rw [HR.out];have:=M.out;simp;omega) (by rw [HR.out];simp;omega) (by rw [HR.out];have:=M.out;simp;omega));have LP:=H (λV (l:D V5 V)=>nD L 0 r V (a6 V (by rw [l.block _ (ah b0.out)];exact b0)));have c:r.pages=v/\r.first+r.guards=s+(1+z):=by rw [HR.out];exact⟨rfl,rfl⟩
 rw [c.1,c.2] at LP;clear c;obtain⟨d5,t⟩:∃ d5:Dy,d5={ d with lg:=upd d.lg r.base (some L) }:=⟨_,rfl⟩;rw [<-t] at a1;have N:=H t;have G5:=H (show d5.lg=upd d.lg r.base (some L)/\d5.un=.nilFunc/\d5.an=an/\(∀ c s,c<12->s<6->d5.on c s=dJ n c s) by rw [t];exact⟨rfl,G1.un,G1.an,G1.on⟩);clear t N;have CM:=H (λV (l:D V5 V)=>pS B y d5 cf { n with rg:=n.rg++[r] } (s+(1+z)) v (.func 165) #[] #[.pointer (some ⟨u,0,none⟩),.pointer (some ⟨w,0,none⟩)] V (a1.below l) I1.out.out d9 (by have:=M.out;omega) d1);have CD:=H (show ∀ V,D V5 V->V.cell? ⟨w,0,none⟩=some (.pointer (some ⟨L,0,none⟩))/\V.cell? ⟨u,0,none⟩=some (.pointer (some ⟨y.P,0,none⟩)) from λV l=>⟨cX ((l.block _ (ah b)).trans b),cX ((l.block _ (ah G)).trans G)⟩);have b4:=H (show o=GT cf n (1+z) v a (some s) by
  rw [x.out,tg (by have:=M.out;omega),c8.out])
 have a0:=H (show ∀ f' R i,D V5 R->Bi B R i->(cf.bud:Int)<(bG n.m 283:Int)+v->Hp B y { d5 with f:=f',un:=.func (.func 165) #[] #[.pointer (some ⟨u,0,none⟩),.pointer (some ⟨w,0,none⟩)] } cf { n with rg:=n.rg++[r] } i->DJ B y cf an d.lg W o (.panicked (iG 1)) i from λf' R i N hU hb hp=>by
  have e1:o=(none,n):=by
   rw [b4.out];show (if cf.bud<bG n.m 283+v then (none,n) else _)=_;rw [tm Z]
  rw [e1];refine⟨.no _ _ (λV l=>?_),(a9.add N a1.bW).trans hU⟩;have O:=hp.below l;obtain⟨g,e3,_,e5⟩:=O.lb r bh;have e4:d5.lg r.base=some g:=e3;rw [G5.1,upd_same] at e4;cases e4;have cx:∀ (g:Nat) (c:Array Value) (t:TypeId),¬hI t->V5.heap[g]?=some (.cells c t)->V.heap[g]?=some (.cells c t):=λg c t ht hg=>by
   have n:=hU.ky.cells _ _ _ _ ((N.block _ (ah hg)).trans hg) ht;exact (l.block _ (ah n)).trans n
  refine (qJ B y _ cf n r L u w d.lg V O G5.1 H0 LO (a6 V e5) c9 (cX (cx _ _ _ (by unfold hI;decide) G)) (cX (cx _ _ _ (by unfold hI;decide) b)) rfl).mono ?_;rintro e V' ⟨rfl,T,X⟩;exact⟨rfl,⟨_,T,⟨λc s hc hs=>G5.2.2.2 c s hc hs,rfl,G5.2.2.1⟩⟩,X⟩)
 clear x;go_upto_region 5 with fail
 refine wp_region_held (S:=λW9=>W9.cell? ⟨w,0,none⟩=some (.pointer (some ⟨L,0,none⟩))/\W9.cell? ⟨u,0,none⟩=some (.pointer (some ⟨y.P,0,none⟩))) E ?_;simp only [JJ,JD,JO,Nat.reduceAdd,JI,JH,JM,JF,JP];have j:=CD.out _ (Jn _ _).drew;refine pf 0 (.pointer (some ⟨y.P,0,none⟩)) rfl j (λW j=>by obtain ⟨P,Q⟩:=j;first|(go_simp;done)|(go_simp;omega)) ?_;refine pf 1 (.pointer (some ⟨L,0,none⟩)) rfl j (λW j=>by obtain ⟨P,Q⟩:=j;first|(go_simp;done)|(go_simp;omega)) ?_;refine pf 3 (.func (.func 165) #[] #[.pointer (some ⟨u,0,none⟩),.pointer (some ⟨w,0,none⟩)]) rfl j (λW j=>by obtain ⟨P,Q⟩:=j;first|(go_simp;done)|(go_simp;omega)) ?_;refine gu 2 ?_;refine cS λK' p=>?_;go_simp
 refine (LP _ (Jn _ _).drew).mono ?_;rintro e R ⟨rfl,b1⟩;have k1:D V5 R:=⟨b1.os,b1.tape,b1.output,b1.size,b1.block⟩;have A:=CD.out _ k1;refine p _ _ ⟨A,?_⟩;clear j;have j:=A;clear p K';refine gu 4 ?_;refine cS λK' p=>?_;go_simp
 refine (CM _ k1).mono ?_;rintro e t ⟨f',N,⟨O,rfl,a7⟩|⟨O,rfl,a7⟩⟩
 rotate_left
 ·exact⟨rfl,a0 f' R t k1 N O a7⟩
 have q2:_/\_:=⟨cX (N.ky.cells _ _ _ _ ((k1.block _ (ah b)).trans b) (by unfold hI;decide)),cX (N.ky.cells _ _ _ _ ((k1.block _ (ah G)).trans G) (by unfold hI;decide))⟩;refine p _ _ ⟨q2,?_⟩;clear j;have j:=q2;clear p K';refine bY ?_;obtain⟨d6,b7⟩:∃ d6:Dy,d6={ d5 with f:=f',un:=.nilFunc }:=⟨_,rfl⟩;obtain⟨T,a2⟩:∃ T:Hs,T={ n with rg:=n.rg++[r],m:=aT n.m (s+(1+z)) v }:=⟨_,rfl⟩;have X:=H (show Hp B y d6 cf T t by rw [b7,a2];exact a7);have c6:=H ((a9.add k1 a1.bW).trans N);have G6:=H (show d6.lg=upd d.lg r.base (some L)/\d6.un=.nilFunc/\d6.an=an/\(∀ c s,c<12->s<6->d6.on c s=dJ n c s) by rw [b7];exact⟨G5.1,rfl,G5.2.2.1,G5.2.2.2⟩);have a8:=H a2;have b8:=H (show t.heap[w]?=some (.cells #[.pointer (some ⟨L,0,none⟩)] 196) from N.ky.cells _ _ _ _ ((k1.block _ (ah b)).trans b) (by unfold hI;decide));have b9:=H (show t.heap[u]?=some (.cells #[.pointer (some ⟨y.P,0,none⟩)] 64) from N.ky.cells _ _ _ _ ((k1.block _ (ah G)).trans G) (by unfold hI;decide));have c3:=H (show ¬cf.bud<bG n.m 283+v from λe=>O (by show (cf.bud:Int)<_;have:(cf.bud:Int)<((bG n.m 283+v:Nat):Int):= Z;simpa using this));have a3:=H (show t.heap[L]?=some (.cells (qk r) 209) by
  obtain⟨g,e3,_,e5⟩:=X.lb r (by rw [a2];simp);rw [G6.1,upd_same] at e3;cases e3;exact e5)
 have a4:T.rel=n.rel:=by rw [a2]
 have c4:=H (show ∀ x∈T.rel,x<18446744073709551616 from λx a=>by
  rw [a4] at a;have:=I1.rel x a;omega)
 have c5:=H (show T.rel.length<=100000 by rw [a4];exact c2);have d0:=H0;clear a7 N b7 a2 k1 b1 A q2 j O a0 CM LP CD a1 a9 b G b0 G5 LO NL H0 d1 a4;obtain⟨O,vn,vc,G⟩:=aE X.rl;have N:=H G;have q:=H (X.below (Jn _ t).drew);have DF:=H (oE B L r O vn vc T.rel t.drew (by have:=q.rl;rw [G] at this;exact this) c5 c4 (a6 _ ((Jn t.heap.size t).drew.block _ (ah a3) |>.trans a3)) ⟨_,(Jn t.heap.size t).drew.block _ (ah a3) |>.trans a3⟩);have a0:(T.rel.filter λx => !oC r x)=T.rel.filter λb=>b/1024<s || s+(1+z+v+1)<=b/1024:=by rw [HR.out];exact uJ s (1+z) v 1 _ _
 rw [a0] at DF;clear a0;generalize a0:(T.rel.filter λb=>b/1024<s || s+(1+z+v+1)<=b/1024)=fl at *;have a9:=H a0;have a1:t.drew.cell? ⟨y.P,117,none⟩=some (.slice O vn vc):=q.cell 117 Z _ G;have CD:=H (show ∀ V:World,Ky (· = 22) t.drew V->V.cell? ⟨w,0,none⟩=some (.pointer (some ⟨L,0,none⟩))/\V.cell? ⟨u,0,none⟩=some (.pointer (some ⟨y.P,0,none⟩)) from λV l=>⟨cX (l.cells _ _ _ _ (show t.drew.heap[w]?=_ from b8) al),cX (l.cells _ _ _ _ (show t.drew.heap[u]?=_ from b9) al)⟩);have a2:=H (show ∀ (i:World) (Y:Option Addr) (a wc:Nat),i.ownsRow B 22 1 (.slice Y a wc) fl.length (Us fl)->t.drew.grownBy i (Value.slice O vn vc).ownBlock->(Value.slice Y a wc).ownBlock=(Value.slice O vn vc).ownBlock->_ from λi Y a wc own gr k=>q.setRl (v':=.slice Y a wc) own (by rw [N.out];exact gr) (λg hg=>by rw [k,<-N.out];exact q.rr g hg));have a4:=H (show ∀ i:World,t.drew.grownBy i (Value.slice O vn vc).ownBlock->Ky (· = 22) t.drew i from λi gr=>(q.gw (λg hg=>aD q.rl hg) (by rw [N.out];exact gr)).k);have b0:=H (show ∀ b g,d.lg b=some g->d6.lg b=some g from λb g hb=>by
  rw [G6.1];by_cases e:b=r.base;·subst e;rw [d0.out] at hb;cases hb
  ·rw [aL _ _ _ _ e];exact hb)
 have a7:=H (show ∀ v' i,Hp B y { d6 with rl:=v' } cf { T with rel:=fl } i->Bi B t.drew i->DJ B y cf an d.lg W o (.returned (.iface 196 (.pointer (some ⟨L,0,none⟩)))) i from λv' i hU b7=>by
  have e1:o=(some r.base,{ T with rel:=fl }):=by
   rw [b4.out];show (if cf.bud<bG n.m 283+v then (none,n) else _)=_;rw [tg c3.out,<-a9.out,a8.out,d2.out,HR.out]
  rw [e1];refine⟨.range r L { d6 with rl:=v' } _ i (by rw [a8.out];simp) (by rw [HR.out]) (by show d6.lg r.base=_;rw [G6.1,upd_same]) hU ⟨λc s' hc hs=>?_,G6.2.1,G6.2.2.1⟩ (λb g hb=>b0.out b g hb),(c6.add (Jn _ _).drew X.bW).trans b7⟩;show d6.on c s'=(T.m (aF c s')).isSome;rw [G6.2.2.2 c s' hc hs,a8.out];show (n.m (aF c s')).isSome=(aT n.m (s+(1+z)) v (aF c s')).isSome;have:=cL hc hs;rw [kx _ _ _ _ (by have:=M.out;omega)])
 have NP:=H (show w≠y.P/\u≠y.P from by
  obtain⟨c,hb,_⟩:=X.box;constructor;·intro e;have:=b8.out;rw [e,hb] at this;simp at this
  ·intro e;have:=b9.out;rw [e,hb] at this;simp at this)
 clear a0 G b4 c3 G6 a8 b8 b9 a3 c4 c5 I1 G1 HR a6 d2 b6 c8 X q;have SX:=H (show ∀ (V:World) (v:Value),V.cell? ⟨w,0,none⟩=some (.pointer (some ⟨L,0,none⟩))/\V.cell? ⟨u,0,none⟩=some (.pointer (some ⟨y.P,0,none⟩))->(V.setCell ⟨y.P,117,none⟩ v).cell? ⟨w,0,none⟩=some (.pointer (some ⟨L,0,none⟩))/\(V.setCell ⟨y.P,117,none⟩ v).cell? ⟨u,0,none⟩=some (.pointer (some ⟨y.P,0,none⟩)) from λV v l=>by
  have q:w≠y.P:=NP.1;have G:u≠y.P:=NP.2;unfold World.cell? at l ⊢;rw [t4 _ _ _ _ q,t4 _ _ _ _ G];exact l)
 go_upto_region 6 with fail
 refine wp_region_held (S:=λW9=>W9.cell? ⟨w,0,none⟩=some (.pointer (some ⟨L,0,none⟩))/\W9.cell? ⟨u,0,none⟩=some (.pointer (some ⟨y.P,0,none⟩))) E ?_;simp only [JJ,JD,JO,Nat.reduceAdd,JI,JH,JM,JF,JP];have j:=CD.out _ (Ky.refl _ _);refine pf 0 (.pointer (some ⟨y.P,0,none⟩)) rfl j (λW j=>by obtain ⟨P,Q⟩:=j;first|(go_simp;done)|(go_simp;omega)) ?_;refine pf 1 (.pointer (some ⟨y.P,0,none⟩)) rfl j (λW j=>by obtain ⟨P,Q⟩:=j;first|(go_simp;done)|(go_simp;omega)) ?_;refine pf 2 (.pointer (some ⟨y.P,0,none⟩)) rfl j (λ_ _=>E) ?_;refine pf 3 (.pointer (some ⟨y.P,117,none⟩)) rfl j (λ_ _=>E) ?_;refine pf 5 (.pointer (some ⟨L,0,none⟩)) rfl j (λW j=>by obtain ⟨P,Q⟩:=j;first|(go_simp;done)|(go_simp;omega)) ?_;refine pf 6 (.func (.func 167) #[.pointer (some ⟨L,0,none⟩)] #[]) rfl j (λW j=>by obtain ⟨P,Q⟩:=j;first|(go_simp;done)|(go_simp;omega)) ?_;refine gu 4 ?_;refine cS λK' p=>?_;go_simp
 refine p _ _ ⟨j,?_⟩;clear p K';refine gu 7 ?_;refine cS λK' p=>?_;go_simp
 refine (DF).mono ?_;rintro e R ⟨v',rfl,q,G,X⟩;obtain⟨Y,wc,rfl⟩:=aG q;obtain⟨a0,a3,c7,f7⟩:=a2.out R Y _ wc q G X;rw [N.out] at c7;have A:=CD.out R (a4 R G);refine p _ _ ⟨A,?_⟩;clear j;have j:=A;clear p K';refine pf 8 (.pointer (some ⟨y.P,0,none⟩)) rfl j (λ_ _=>E) ?_;refine pf 9 (.pointer (some ⟨y.P,117,none⟩)) rfl j (λ_ _=>E) ?_;refine gu 10 ?_;refine cS λK' p=>?_;go_simp
 have q2:=SX.out R (.slice Y fl.length wc) A;refine p _ _ ⟨q2,?_⟩;clear p K';refine bY ?_;have p:=H (a7 _ _ a0 a3);have qx:=q2.1;clear a0 a3 q G X c7 f7 A q2 j CD a2 a4 a7 DF SX a1;go_wp2;go_ret;exact p.out
end
end Go.Proofs.YtdfodlhkdmkfdaaGreatDoor
