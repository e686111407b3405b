import Derived.Test.YtdngbppdomoenaaGreatDoorN11
import Derived.Test.YtdngbppdomoenaaGreatDoorN12
import Derived.Test.YtdngbppdomoenaaGreatDoorN14
import Derived.Test.YtdngbppdomoenaaGreatDoorN15
set_option linter.unusedVariables false
set_option linter.unusedSimpArgs false
set_option maxRecDepth 20000
set_option maxHeartbeats 8000000
namespace Go.Proofs.YtdngbppdomoenaaGreatDoor
open Go.Proofs.Tryz
variable {a c j k n p s:Nat} {h:Hs} {cf:Cf} {q r:Rg9}
section
open Go.ChangeShapes Go.WideShapes Go.ChangeAt Go.RowKit
theorem yj (k:Nat):List.replicate k (-1:Int)++[-1]=List.replicate (k+1) (-1):=by
 rw [List.replicate_succ']
structure Ln (w:World) (s o n k:Nat) (a:Option Addr) (c:Nat) (W:World):Prop where
 ob:W.heap[o]?=some (.cells #[.slice a k c,C,I n] 68)
 ow:Ow W (o+1) a c (List.replicate k (-1))
 s1:W.heap[s]?=some (.cells #[C,C,I 0] 68)
 b:D w W
theorem Ln.next {w o a W} (h:Ln w s o n k a c W) (q:w.heap.size=s) (m:s<o) (r:k<=16) :
  ∃ d e b,(Builtin.append_ #[24,24] 24 #[.slice a k c,Vl W.heap.size 1 1]).run prog (W.alloc (.cells #[I (-1)] 3))=.ok (.slice d (k+1) e) b/\b.cell? ⟨o,0,none⟩=some (.slice a k c)/\b.frozen? ⟨o,0,none⟩=false/\Ln w s o n (k+1) d e (b.setCell ⟨o,0,none⟩ (.slice d (k+1) e)):=by
 have t:=dI h.ob;obtain⟨d,e,b,l,f,i⟩:=ub W (o+1) a c (List.replicate k (-1)) (-1) h.ow bK Z;rw [FO] at l;rw [yj] at f;have j:=i.at h.ob Z;have p:=i.at h.s1 Z;refine⟨d,e,b,l,bY j,GG _ _ _ _ _ j,⟨?_,?_,l_ p _ _ _ Z,?_⟩⟩;·rw [Hm _ _ _ _ _ _ j];rfl
 ·exact f.but (S:=λk=>k=o) ((But.refl _ b).set _ _ _ rfl) (λg e=>by have:=(f.base g e).1;omega)
 exact (h.b.trans (i.below (by have:=h.b.size;omega) (λg b=>Z))).setCell iK _
theorem xY (m n:Nat) (w:World) (v:m<=16) :
  Calls prog 122 #[I m,I n] w λe f=>∃ a c,e=.returned (wv a m c none 0 0 (n:Nat))/\Ow f w.heap.size a c (List.replicate m (-1))/\D w f:=by
 have b:=lC w (.cells #[C,C,I 0] 68) (.cells #[C,C,I n] 68);have g:=H (show Ln w w.heap.size (w.heap.size+1) n 0 none 0 ((w.alloc (.cells #[C,C,I 0] 68)).alloc (.cells #[C,C,I n] 68)) from ⟨b.2.1,Ow.nil _ _,b.1,b.2.2⟩);clear b;unfold wv;go_enter func122,ntmps122;go_wp2;go_loopw [0] (λi wr=>∃ (k:Nat) (a:Option Addr) (c:Nat),k<=m/\i=I ((m:Int)-(k:Int))/\Hid (Ln w w.heap.size (w.heap.size+1) n k a c wr)) (λi _=>(intOf i).toNat);case atStart=>exact ⟨0,none,0,Fs _,aY,g⟩
 case round =>
  obtain⟨k,a,c,x,rfl,b⟩:=hrel;clear g;by_cases l:k<m
  ·have o:(0:Int)<(m:Int)-(k:Int):=Z;obtain⟨p,q,y,d,r,s,j⟩:=b.next rfl Z Z
   have t:=H j;have u:wr.cell? ⟨w.heap.size+1,0,none⟩=some (.slice a k c):=bY b.ob;clear j b;go_wp2_with (at_builtin;refine dA rfl (.tmp 13) (.tmp 14) (by with_reducible rfl) rfl rfl rfl d ?_);go_roundw;(case rel=>exact ⟨k+1,p,q,Z,aY,t⟩);case measure=>simp [intOf];omega
  obtain rfl:m=k:=Z;have o:¬((0:Int)<(m:Int)-(m:Int)):=Z;have u:wr.cell? ⟨w.heap.size+1,0,none⟩=some (.slice a m c):=bY b.ob;have r:wr.cell? ⟨w.heap.size+1,1,none⟩=some (C):=bY b.ob;have s:wr.cell? ⟨w.heap.size+1,2,none⟩=some (I n):=bY b.ob;have d:wr.cell? ⟨w.heap.size,0,none⟩=some (C):=bY b.s1;have j:wr.cell? ⟨w.heap.size,1,none⟩=some (C):=bY b.s1;have p:wr.cell? ⟨w.heap.size,2,none⟩=some (I 0):=bY b.s1;have f0:wr.frozen? ⟨w.heap.size,0,none⟩=false:=GG _ _ _ _ _ b.s1;have f1:wr.frozen? ⟨w.heap.size,1,none⟩=false:=GG _ _ _ _ _ b.s1;have f2:wr.frozen? ⟨w.heap.size,2,none⟩=false:=GG _ _ _ _ _ b.s1;go_wp2;refine GF (Ga ef _ _ w.heap.size 68 _ (0,0) _ ef (set3 b.s1 _ _ _) underlying68 rfl E) ef ?_;refine⟨a,c,rfl,?_,((b.b.setCell iK _).setCell iK _).setCell iK _⟩;exact (b.ow.but (S:=λk=>k=w.heap.size) ((((But.refl (λk=>k=w.heap.size) wr).set _ _ _ rfl).set _ _ _ rfl).set _ _ _ rfl) (λg e=>by have:=(b.ow.base g e).1;omega)).mono Z
end
section
open Go.RowKit
theorem js (a:eg h n=some s):187<=s/\s+n<=283/\∀ r∈h.rg,s+n<=r.first\/r.first+r.ext<=s:=by
 unfold eg at a;rw [Option.map_eq_some_iff] at a;obtain⟨k,c,rfl⟩:=a;obtain⟨d,b⟩:=k_ c;simp at b;refine⟨Z,Z,λr a=>?_⟩;exact b.2 r a
theorem mE (h:1016<a):1<=aR a:=by
 unfold aR;split <;> omega
theorem Inv.large (i:Inv cf h) {g:Nat} (M:1<=g) (N:g<=3) (ha:1016<a) (l:eg h (g+aR a+1)=some s):Inv cf { h with m:=aU h.m (s+g) (aR a),rg:=h.rg++[⟨s,g,aR a,1,a⟩],rel:=h.rel.filter λb=>b/1024<s || s+(g+aR a+1)<=b/1024 }:=by
 obtain⟨X,O,G⟩:=js l;have P:=mE ha;obtain⟨p,w⟩:∃ p,aR a=p:=⟨_,rfl⟩;rw [w] at O G P ⊢;have t:∀ k,k<187->aU h.m (s+g) p k=h.m k:=λk u=>by rw [cY,Gu Z]
 have z:∀ o q,o<12->q<6->dy { h with m:=aU h.m (s+g) p,rg:=h.rg++[⟨s,g,p,1,a⟩],rel:=h.rel.filter λb=>b/1024<s || s+(g+p+1)<=b/1024 } o q=dy h o q:=λo q c d=>by
  have:=cy c d;unfold dy;show (aU h.m (s+g) p (aB o q)).isSome=_;rw [t _ Z]
 refine⟨i.st,i.fine.fresh _ _,λk u=>?_,λo q c d j Q=>?_,λo q c d K=>?_,i.req,i.mxl,i.ffl,i.ffn,i.mxn,i.wait,i.wlt,i.wnd,λr l=>?_,?_,λk u=>?_,λk u v=>?_,λb=>?_,i.rownd,i.rowl,λb R=>?_⟩;·show aU h.m _ _ k=none;rw [cY,Gu Z];exact i.out k u
 ·have:=cy c d;rw [z o q c d];show (aU h.m _ _ _).isSome=_;rw [t _ Z];exact i.slab o q c d j Q
 ·rw [z o q c d] at K;exact i.off o q c d K
 ·rcases FM.1 l with f|f;·exact i.rgs r f
  simp at f;subst f;dsimp only [Rg9.ext];refine⟨Z,Z,Z,Z,Z,.inl ⟨rfl,Z,?_⟩⟩;rw [FD];exact w
 ·rw [H_];refine⟨i.apart,bF,λx v y L=>?_⟩;simp at L;subst L;have:=G x v;dsimp only [Rg9.ext] at this ⊢;omega
 ·show (aU h.m (s+g) p k).isSome=true↔_;rw [cY];have A:=i.big k u;constructor
  ·intro v;split at v
   ·rename_i e;exact⟨_,List.mem_append_right _ (List.mem_singleton.2 rfl),rfl,e.1,e.2⟩
   obtain⟨r,l,f⟩:=A.1 v;exact⟨r,Ip _ l,f⟩
  rintro⟨r,l,f⟩;rcases FM.1 l with n|n
  ·split;·rfl
   exact A.2 ⟨r,n,f⟩
  simp at n;subst n;rw [Gv f.2];rfl
 ·have B:(aU h.m (s+g) p k).isSome=true:=v;rw [t k u] at B;exact i.low k u B
 ·show b∈h.row↔_;rw [i.row b];constructor;·rintro⟨r,l,f⟩;exact⟨r,Ip _ l,f⟩
  rintro⟨r,l,f⟩;rcases FM.1 l with n|n;·exact⟨r,n,f⟩
  simp at n;subst n;have:(1:Int)=2:=f.1;omega
 obtain⟨f,n⟩:=F_.1 R;obtain⟨S,T,V,W⟩:=i.rel b f;refine⟨S,T,V,λr l=>?_⟩;rcases FM.1 l with F|F;·exact W r F
 simp at F;subst F;simp at n;exact n
theorem tK (i:Inv cf h) (a:r∈h.rg):r.base=(r.first+r.guards)*1024/\r.base/1024=r.first+r.guards/\r.base%1024=0/\r.ext=r.guards+r.pages+1:=by
 unfold Rg9.base Rg9.ext;refine⟨rfl,?_,?_,rfl⟩ <;> omega
theorem zA {l:List Rg9} (ha:l.Pairwise λa b=>a.first+a.ext<=b.first\/b.first+b.ext<=a.first) (f:r∈l) (g:q∈l) (i:∀ x∈l,1<=x.guards) (j:r.base=q.base):r=q:=by
 induction l with
 | nil=>cases f
 | cons a t k =>
  have c:r.first+r.guards=q.first+q.guards:=by unfold Rg9.base at j;omega
  have b:∀ x∈t,(x.first+x.guards=a.first+a.guards)->False:=λx b m=>by
   have:=(List.pairwise_cons.1 ha).1 x b;unfold Rg9.ext at this;omega
  rcases FG.1 f with d|d <;> rcases FG.1 g with e|e
  ·rw [d,e]
  ·subst d;exact absurd c.symm (b q e)
  ·subst e;exact absurd c (b r d)
  exact k (List.pairwise_cons.1 ha).2 d e (λx b=>i x (Hu _ b))
theorem Inv.one (i:Inv cf h) (a:r∈h.rg) (b:q∈h.rg) (c:r.base=q.base):r=q :=
 zA i.apart a b (λx a=>(i.rgs x a).2.2.1) c
theorem Inv.setRq (i:Inv cf h) (l:r∈h.rg) (m:r.st=1) (ha:1016<a) (n:aR a=r.pages):Inv cf { h with rg:=h.rg.map λx=>if x.base=r.base then { x with rq:=a } else x }:=by
 have c:∀ x,(if x.base=r.base then ({ x with rq:=(a:Int) } : Rg9) else x).first=x.first/\(if x.base=r.base then ({ x with rq:=(a:Int) } : Rg9) else x).guards=x.guards/\(if x.base=r.base then ({ x with rq:=(a:Int) } : Rg9) else x).pages=x.pages/\(if x.base=r.base then ({ x with rq:=(a:Int) } : Rg9) else x).st=x.st:=λx=>by
  split <;> exact ⟨rfl,rfl,rfl,rfl⟩
 refine⟨i.st,i.fine,i.out,i.slab,i.off,i.req,i.mxl,i.ffl,i.ffn,i.mxn,i.wait,i.wlt,i.wnd,λy j=>?_,?_,λk o=>?_,i.low,λb=>?_,i.rownd,i.rowl,λb p=>?_⟩
 ·obtain⟨x,f,rfl⟩:=FC.1 j;obtain⟨g,q,s,t⟩:=c x;have d:=i.rgs x f;unfold Rg9.ext at d ⊢;rw [g,q,s,t];refine⟨d.1,d.2.1,d.2.2.1,d.2.2.2.1,d.2.2.2.2.1,?_⟩;by_cases e:x.base=r.base;·have:=i.one f l e;subst this;rw [Gv rfl];exact .inl ⟨m,iK,by dsimp only;rw [FD];exact n⟩
  rw [Gu e];exact d.2.2.2.2.2
 ·show (h.rg.map _).Pairwise _;rw [List.pairwise_map];refine i.apart.imp (λ{x y} d=>?_);unfold Rg9.ext at d ⊢;rw [(c x).1,(c x).2.1,(c x).2.2.1,(c y).1,(c y).2.1,(c y).2.2.1];exact d
 ·show (h.m k).isSome=true↔_;rw [i.big k o];constructor;·rintro⟨x,f,d,g⟩;refine⟨_,FC.2 ⟨x,f,rfl⟩,?_⟩;rw [(c x).1,(c x).2.1,(c x).2.2.1,(c x).2.2.2];exact⟨d,g⟩
  rintro⟨y,j,d,g⟩;obtain⟨x,f,rfl⟩:=FC.1 j;rw [(c x).2.2.2] at d;rw [(c x).1,(c x).2.1,(c x).2.2.1] at g;exact⟨x,f,d,g⟩
 ·show b∈h.row↔_;rw [i.row b];constructor
  ·rintro⟨x,f,d,g⟩;refine⟨_,FC.2 ⟨x,f,rfl⟩,?_⟩;have e:(if x.base=r.base then ({ x with rq:=(a:Int) } : Rg9) else x).base=x.base:=(by split <;> rfl);rw [e,(c x).2.2.2];exact⟨d,g⟩
  rintro⟨y,j,d,g⟩;obtain⟨x,f,rfl⟩:=FC.1 j;rw [(c x).2.2.2] at d;have e:(if x.base=r.base then ({ x with rq:=(a:Int) } : Rg9) else x).base=x.base:=by split <;> rfl
  rw [e] at g;exact⟨x,f,d,g⟩
 obtain⟨d,g,q,s⟩:=i.rel b p;refine⟨d,g,q,λy j=>?_⟩;obtain⟨x,f,rfl⟩:=FC.1 j;have:=s x f;unfold Rg9.ext at this ⊢;rw [(c x).1,(c x).2.1,(c x).2.2.1];exact this
def wK (h:Hs) (r:Rg9):Hs:={ h with m:=bI h.m (r.first+r.guards) r.pages,rg:=h.rg.map λx=>if x.base=r.base then { x with st:=2,rq:=0 } else x,row:=h.row++[r.base] }
theorem gK (cf h r):aW cf h r=if cf.large<(h.row++[r.base]).length then { wK h r with rg:=(wK h r).rg.filter λx=>x.base≠(h.row++[r.base])[0]?.getD 0,rel:=h.rel++[(h.row++[r.base])[0]?.getD 0],row:=(h.row++[r.base]).tail } else wK h r:=rfl
theorem Inv.fA (i:Inv cf h) (z:r∈h.rg) (h1:r.st=1) (w:Cf) (W:w.mix=cf.mix) (X:w.fifo=cf.fifo) (hl:h.row.length+1<=w.large):Inv w (wK h r):=by
 have d:∀ x:Rg9,(if x.base=r.base then ({ x with st:=2,rq:=0 } : Rg9) else x).first=x.first/\(if x.base=r.base then ({ x with st:=2,rq:=0 } : Rg9) else x).guards=x.guards/\(if x.base=r.base then ({ x with st:=2,rq:=0 } : Rg9) else x).pages=x.pages/\(if x.base=r.base then ({ x with st:=2,rq:=0 } : Rg9) else x).base=x.base:=λx=>by
  split <;> exact ⟨rfl,rfl,rfl,rfl⟩
 obtain⟨b1,b2,b3,b4,b5,b6⟩:=i.rgs r z;have Y:r.ext=r.guards+r.pages+1:=rfl;have A:∀ k,k<187->bI h.m (r.first+r.guards) r.pages k=h.m k:=λk B=>by rw [dC,Gu Z]
 have G:∀ s u,s<12->u<6->dy (wK h r) s u=dy h s u:=λs u m n=>by
  have:=cy m n;unfold dy;show (bI h.m (r.first+r.guards) r.pages (aB s u)).isSome=_;rw [A _ Z]
 have P:∀ x∈h.rg,x≠r->x.first+x.ext<=r.first\/r.first+r.ext<=x.first:=λx f o=>by
  have Q:∀ {l:List Rg9},(l.Pairwise λa b=>a.first+a.ext<=b.first\/b.first+b.ext<=a.first)->x∈l->r∈l->x.first+x.ext<=r.first\/r.first+r.ext<=x.first:=λ{l}=>by
   induction l with
   | nil=>intro _ f;cases f
   | cons a t ih =>
    intro hp f z;obtain⟨S,p2⟩:=List.pairwise_cons.1 hp;rcases FG.1 f with K|K <;> rcases FG.1 z with L|L
    ·exact absurd (K.trans L.symm) o
    ·subst K;exact S r L
    ·subst L;have:=S x K;omega
    exact ih p2 K L
  exact Q i.apart f z
 refine⟨i.st,i.fine.gone _ _,λk B=>?_,λs u m n j hj=>?_,λs u m n T=>?_,i.req,λc R=>W▸i.mxl c R,λc R=>X▸i.ffl c R,i.ffn,i.mxn,i.wait,i.wlt,i.wnd,λy F=>?_,?_,λk B=>?_,λk B f=>?_,λb=>?_,?_,?_,λb O=>?_⟩
 ·show bI h.m _ _ k=none;rw [dC];split;·rfl
  exact i.out k B
 ·have:=cy m n;rw [G s u m n];show (bI h.m _ _ _).isSome=_;rw [A _ Z];exact i.slab s u m n j hj
 ·rw [G s u m n] at T;exact i.off s u m n T
 ·obtain⟨x,f,rfl⟩:=FC.1 F;obtain⟨k1,k2,k3,k4⟩:=d x;have g:=i.rgs x f;unfold Rg9.ext at g ⊢;rw [k1,k2,k3];refine⟨g.1,g.2.1,g.2.2.1,g.2.2.2.1,g.2.2.2.2.1,?_⟩;by_cases e:x.base=r.base;·rw [Gv e];exact .inr ⟨rfl,rfl⟩
  rw [Gu e];exact g.2.2.2.2.2
 ·show (h.rg.map _).Pairwise _;rw [List.pairwise_map];refine i.apart.imp (λ{x y} M=>?_);unfold Rg9.ext at M ⊢;rw [(d x).1,(d x).2.1,(d x).2.2.1,(d y).1,(d y).2.1,(d y).2.2.1];exact M
 ·show (bI h.m (r.first+r.guards) r.pages k).isSome=true↔_;rw [dC];have g:=i.big k B;constructor
  ·intro f;split at f;·cases f
   rename_i hn;obtain⟨x,v,q,p⟩:=g.1 f;have o:x.base≠r.base:=λe=>by
    have:=i.one v z e;subst this;exact hn p
   refine⟨x,FC.2 ⟨x,v,by rw [Gu o]⟩,q,p⟩
  rintro⟨y,F,q,p⟩;obtain⟨x,v,rfl⟩:=FC.1 F;have o:x.base≠r.base:=λe=>by
   rw [Gv e] at q;have:(2:Int)=1:=q;omega
  rw [Gu o] at q p;have:=P x v (λe=>o (by rw [e]));unfold Rg9.ext at this;rw [Gu Z];exact g.2 ⟨x,v,q,p⟩
 ·have N:(bI h.m (r.first+r.guards) r.pages k).isSome=true:=f;rw [A k B] at N;exact i.low k B N
 ·show b∈h.row++[r.base]↔_;rw [FM,i.row b];constructor
  ·rintro (⟨x,f,q,p⟩|V)
   ·have o:x.base≠r.base:=λe=>by
     have:=i.one f z e;subst this;omega
    exact⟨x,FC.2 ⟨x,f,by rw [Gu o]⟩,q,p⟩
   simp at V;subst V;exact⟨_,FC.2 ⟨r,z,rfl⟩,by rw [Gv rfl],(d r).2.2.2⟩
  rintro⟨y,F,q,p⟩;obtain⟨x,f,rfl⟩:=FC.1 F;rw [(d x).2.2.2] at p;by_cases e:x.base=r.base;·right;simp;rw [<-p,e]
  rw [Gu e] at q;exact .inl ⟨x,f,q,p⟩
 ·show (h.row++[r.base]).Nodup;rw [List.nodup_append];refine⟨i.rownd,bF,λa ha b O=>?_⟩;simp at O;subst O;rintro rfl;obtain⟨x,f,q,p⟩:=(i.row _).1 ha;have:=i.one f z p;subst this;omega
 ·show (h.row++[r.base]).length<=_;simp;omega
 obtain⟨q,p,q3,q4⟩:=i.rel b O;refine⟨q,p,q3,λy F=>?_⟩;obtain⟨x,f,rfl⟩:=FC.1 F;have:=q4 x f;unfold Rg9.ext at this ⊢;rw [(d x).1,(d x).2.1,(d x).2.2.1];exact this
theorem Inv.leave (i:Inv cf h) {b0:Nat} {t:List Nat} (g:h.row=b0::t) (j:Cf) (M:j.mix=cf.mix) (N:j.fifo=cf.fifo) (O:t.length<=j.large):Inv j { h with rg:=h.rg.filter λx=>x.base≠b0,rel:=h.rel++[b0],row:=t }:=by
 obtain⟨p,m,X,A⟩:=(i.row b0).1 (by rw [g];simp);have s:=i.rownd;rw [g] at s;obtain⟨P,Q⟩:=Gr.1 s;have d:∀ x,x∈(h.rg.filter λx=>decide (x.base≠b0))↔x∈h.rg/\x.base≠b0:=λx=>by rw [F_];simp
 refine⟨i.st,i.fine,i.out,i.slab,i.off,i.req,λc B=>M▸i.mxl c B,λc B=>N▸i.ffl c B,i.ffn,i.mxn,i.wait,i.wlt,i.wnd,λy u=>i.rgs y ((d y).1 u).1,i.apart.filter _,λk R=>?_,i.low,λb=>?_,Q,O,λb z=>?_⟩
 ·show (h.m k).isSome=true↔_;rw [i.big k R];constructor;·rintro⟨x,f,o,n⟩;refine⟨x,(d x).2 ⟨f,λe=>?_⟩,o,n⟩;have:=i.one f m (e.trans A.symm);subst this;omega
  rintro⟨x,f,q⟩;exact⟨x,((d x).1 f).1,q⟩
 ·show b∈t↔_;have l:=i.row b;rw [g] at l;constructor;·intro z;obtain⟨x,f,o,n⟩:=l.1 (Hu _ z);refine⟨x,(d x).2 ⟨f,λe=>?_⟩,o,n⟩;rw [n] at e;subst e;exact P z
  rintro⟨x,f,o,n⟩;obtain⟨r,v⟩:=(d x).1 f;rcases FG.1 (l.2 ⟨x,r,o,n⟩) with e|e;·exact absurd (n.trans e) v
  exact e
 rcases FM.1 z with r|r;·obtain⟨o,n,l,v⟩:=i.rel b r;exact⟨o,n,l,λy u=>v y ((d y).1 u).1⟩
 simp at r;subst r;obtain⟨Y,b2,b3,b4,b5,b6⟩:=i.rgs p m;obtain⟨f1,f2,f3,f4⟩:=tK i m;rw [A] at f2 f3;refine⟨f3,Z,Z,λy u=>?_⟩;obtain⟨F,G⟩:=(d y).1 u;rw [f2];have K:∀ {l:List Rg9},(l.Pairwise λa b=>a.first+a.ext<=b.first\/b.first+b.ext<=a.first)->y∈l->p∈l->y.first+y.ext<=p.first\/p.first+p.ext<=y.first:=λ{l}=>by
  induction l with
  | nil=>intro _ f;cases f
  | cons a t S =>
   intro T f V;obtain⟨L,W⟩:=List.pairwise_cons.1 T;rcases FG.1 f with v|v <;> rcases FG.1 V with w|w
   ·have:=v.trans w.symm;subst this;exact absurd A G
   ·subst v;exact L p w
   ·subst w;have:=L y v;omega
   exact S W v w
 have:=K i.apart F m;omega
theorem Inv.fRange (i:Inv cf h) (e:r∈h.rg) (f:r.st=1):Inv cf (aW cf h r):=by
 rw [gK];by_cases c:cf.large<(h.row++[r.base]).length
 ·rw [Gv c];have g:=i.fA e f { cf with large:=cf.large+1 } rfl rfl (by have:=i.rowl;dsimp only;omega);obtain⟨d,t,b⟩:∃ d t,h.row++[r.base]=d::t:=by
   cases h.row with
   | nil=>exact ⟨_,_,rfl⟩
   | cons a l=>exact ⟨a,l++[r.base],rfl⟩
  have j:=g.leave (b0:=d) (t:=t) b cf rfl rfl (by
   have k:=congrArg List.length b;have:=i.rowl;simp at k;omega)
  rw [b];exact j
 rw [Gu c];exact i.fA e f cf rfl rfl (by simp at c;omega)
theorem tE (h:a<=1016):gx a<12/\a+8<=bX (gx a):=(zJ h).2
inductive Seen (h:Hs) (p:Nat):Fd->Prop
 | slot (c s j:Nat):c<12->s<6->j<aM c->aX c s j=p->h.st c s j=1->Seen h p (.slot c s j)
 | range (r:Rg9):r∈h.rg->r.base=p->r.st=1->Seen h p (.range r)
 | no (code:Int):(code=3\/code=4)->Seen h p (.no code)
theorem tF {t:Nat×Nat×Nat} (h:t∈dG):t.1<12/\t.2.1<6/\t.2.2<aM t.1:=by
 unfold dG at h;simp only [List.mem_flatMap,F0,FC] at h;obtain⟨c,a,s,b,j,d,rfl⟩:=h;exact⟨a,b,d⟩
theorem ed (h p):Seen h p (aP h p):=by
 unfold aP;cases e:cH p with
 | some t =>
  obtain⟨c,s,j⟩:=t;unfold cH at e;have a:=tF (Hz e);have b:=List.find?_some e;simp at b;dsimp only at a ⊢;split;·rename_i d;exact .slot c s j a.1 a.2.1 a.2.2 b d
  split;·exact .no 3 (.inl rfl)
  exact .no 4 (.inr rfl)
 | none =>
  dsimp only;cases f:h.rg.find? λr=>r.base==p with
  | some r =>
   have a:=Hz f;have b:=List.find?_some f;simp at b;dsimp only;split;·rename_i d;exact .range r a b d
   exact .no 4 (.inr rfl)
  | none =>
   dsimp only;split;·exact .no 4 (.inr rfl)
   exact .no 3 (.inl rfl)
structure Few (k:Nat) (h:Hs):Prop where
 rg:h.rg.length<=k
 rel:h.rel.length<=k
 row:h.row.length<=k
 used:h.used<=2100*k
theorem Few.mono {b:Nat} (f:Few k h) (a:k<=b):Few b h :=
 ⟨Fg f.rg a,Fg f.rel a,Fg f.row a,Fg f.used (Is _ a)⟩
theorem Inv.malloc (i:Inv cf h) (f:Few k h) (a):Inv cf (aA cf h a).2/\(aA cf h a).2.rg.length<=k+1/\(aA cf h a).2.rel.length<=k/\(aA cf h a).2.row.length<=k/\(aA cf h a).2.used<=h.used+2000:=by
 unfold aA;by_cases ha:a<=1016
 ·rw [Gv ha];obtain⟨l,t⟩:=tE ha;generalize gx a=c at *;obtain⟨g,m⟩:=Inv.small l 2000 i;cases e:cr cf c 2000 h with
  | mk o p =>
   rw [e] at g m;have f1:p.rg.length<=k+1/\p.rel.length<=k/\p.row.length<=k:=by
    dsimp only at g;rw [g.stay.rg,g.stay.rel,g.stay.row];exact⟨by have:=f.rg;omega,f.rel,f.row⟩
   cases o with
   | none=>exact ⟨g.inv,f1.1,f1.2.1,f1.2.2,m⟩
   | some q =>
    obtain⟨s,j⟩:=q;obtain⟨u,v,r,d,_,_⟩:=g.some s j rfl;rw [jJ] at d;have x:=bd l;have b:=g.inv.setSt l u v 1 (a:Int) Z Z Z (by dsimp only at d ⊢;omega) (.inr r) (λ_=>⟨Z,Z⟩) (λe=>absurd rfl e);exact⟨b.bytes (aX c s j+fo c) (can cf (aX c s j)) 8,f1.1,f1.2.1,f1.2.2,m⟩
 rw [Gu ha];dsimp only;have y:=oy cf h (n:=3) Z;have b:=i.used (h.used+1);have f0:=f.rg;split;·exact⟨b,iK,f.rel,f.row,iK⟩
 split;·exact⟨b,iK,f.rel,f.row,iK⟩
 rename_i s w;split;·exact⟨b,iK,f.rel,f.row,iK⟩
 refine⟨b.large Z Z Z w,bK,?_,f.row,iK⟩;exact Fg (GN _ _) f.rel
theorem Inv.fAny (i:Inv cf h) (d:1<=cf.fifo) {x:Fd} (k:Seen h p x):Inv cf (eK cf h x)/\(eK cf h x).rg.length<=h.rg.length/\(eK cf h x).rel.length<=h.rel.length+1/\(eK cf h x).row.length<=h.row.length+1/\(eK cf h x).used<=h.used+1:=by
 cases k with
 | slot c s j f e l u m =>
  refine⟨i.fSlot d f e l m,?_⟩;show (aL cf h c s j).rg.length<=_/\(aL cf h c s j).rel.length<=_/\(aL cf h c s j).row.length<=_/\(aL cf h c s j).used<=_;rw [dQ];have ha:(bQ cf h c s j).rg=h.rg/\(bQ cf h c s j).rel=h.rel/\(bQ cf h c s j).row=h.row/\(bQ cf h c s j).used<=h.used+1:=by
   unfold bQ;refine⟨rfl,rfl,rfl,?_⟩;dsimp only;split <;> omega
  have g:∀ a b,(bO (bQ cf h c s j) c a b).rg=h.rg/\(bO (bQ cf h c s j) c a b).rel=h.rel/\(bO (bQ cf h c s j) c a b).row=h.row/\(bO (bQ cf h c s j) c a b).used<=h.used+1:=λa b=>by
   unfold bO;dsimp only;split <;> exact ha
  split;·rw [ha.1,ha.2.1,ha.2.2.1];exact⟨Fe _,Z,Z,ha.2.2.2⟩
  obtain⟨n,o,q,t⟩:=g ((eB cf h c s j).toNat/aM c) ((eB cf h c s j).toNat%aM c);rw [n,o,q];exact⟨Fe _,Z,Z,t⟩
 | range r b g e =>
  refine⟨i.fRange b e,?_⟩;show (aW cf h r).rg.length<=_/\(aW cf h r).rel.length<=_/\(aW cf h r).row.length<=_/\(aW cf h r).used<=_;rw [gK];unfold wK;split;·dsimp only;refine⟨?_,bF,bF,Z⟩;exact Fg (GN _ _) bF
  dsimp only;exact⟨bF,Z,bF,Z⟩
 | no b f=>exact ⟨i,Fe _,Nat.le_add_right _ _,Nat.le_add_right _ _,Nat.le_add_right _ _⟩
theorem Inv.realloc (i:Inv cf h) (w:1<=cf.fifo) (f:Few k h) (p a):Inv cf (cw cf h p a).2/\Few (k+1) (cw cf h p a).2:=by
 obtain⟨l,x,F,G,K⟩:=i.malloc f a;have Y:=f.used;have n:Few (k+1) h:=f.mono Z;have u:Few (k+1) (aA cf h a).2:=⟨x,Z,Z,Z⟩;have L:∀ d:Nat,∀ q b,aA cf h a=(some q,b)->Inv cf (eK cf { b with m:=cF b.m p q (min d a) } (aP { b with m:=cF b.m p q (min d a) } p))/\Few (k+1) (eK cf { b with m:=cF b.m p q (min d a) } (aP { b with m:=cF b.m p q (min d a) } p)):=λd q b e=>by
  rw [e] at l x F G K;dsimp only at l x F G K;have Q:Inv cf { b with m:=cF b.m p q (min d a) }:=l.bytes q _ _;obtain⟨R,S,T,V,W⟩:=Q.fAny w (ed _ p);generalize eK cf { b with m:=cF b.m p q (min d a) } (aP { b with m:=cF b.m p q (min d a) } p)=M at *;dsimp only at S T V W;exact⟨R,Z,Z,Z,Z⟩
 unfold cw;dsimp only;by_cases y:p=0
 ·rw [Gv y];cases e:aA cf h a with
  | mk o b =>
   rw [e] at l u;cases o with
   | none=>exact ⟨l,u⟩
   | some q=>exact ⟨l,u⟩
 rw [Gu y];have t:=ed h p;cases e:aP h p with
 | no N=>exact ⟨i,n⟩
 | slot c s j =>
  rw [e] at t;dsimp only;split;·exact⟨i,n⟩
  split
  ·rename_i g;cases t with
   | slot _ _ _ z t O y P =>
    obtain⟨_,A⟩:=tE g.1;rw [g.2] at A;have hz:=bd z;have B:dy h c s=true:=by
     cases M:dy h c s with
     | true=>rfl
     | false=>have:=i.off c s z t M j O;rw [P] at this;simp [aZ] at this
    have:=i.setSt z t O 1 (a:Int) Z Z Z Z (.inr B) (λ_=>⟨Z,Z⟩) (λe=>absurd rfl e);rw [gB h.st P] at this;exact⟨this,n.rg,n.rel,n.row,n.used⟩
  cases v:aA cf h a with
  | mk o b =>
   cases o with
   | none=>rw [v] at l u;exact⟨l,u⟩
   | some q=>exact L _ q b v
 | range r =>
  rw [e] at t;dsimp only;split
  ·rename_i g;cases t with
   | range _ X hb t =>
    refine⟨i.setRq X t g.1 g.2,?_⟩;exact⟨by simp;exact n.rg,n.rel,n.row,n.used⟩
  cases v:aA cf h a with
  | mk o b =>
   cases o with
   | none=>rw [v] at l u;exact⟨l,u⟩
   | some q=>exact L _ q b v
theorem Inv.do (i:Inv cf h) (g:1<=cf.fifo) (f:Few k h) (o p):Inv cf (dF cf h o p).2/\Few (k+1) (dF cf h o p).2:=by
 have a:Few (k+1) h:=f.mono Z;have v:=f.used;have t:∀ n,Inv cf (aA cf h n).2/\Few (k+1) (aA cf h n).2:=λn=>by
  obtain⟨b,d,e,l,m⟩:=i.malloc f n;exact⟨b,d,Z,Z,Z⟩
 have b:∀ n,Inv cf (match aA cf h n with
  | (none,d)=>(An4.no 1,d)
  | (some q,d)=>(⟨0,q,0,[]⟩,d)).2/\Few (k+1) (match aA cf h n with
  | (none,d)=>(An4.no 1,d)
  | (some q,d)=>(⟨0,q,0,[]⟩,d)).2:=λn=>by
  have:=t n
  cases e:aA cf h n with
  | mk o d =>
   rw [e] at this;cases o with
   | none=>exact this
   | some q=>exact this
 unfold dF;dsimp only;split;·exact b _
 split
 ·split;·exact⟨i,a⟩
  exact b _
 split;·exact i.realloc g f p o.a
 split
 ·have u:=ed h p;obtain⟨l,w,x,y,z⟩:=i.fAny g u;have m:Few (k+1) (eK cf h (aP h p)):=⟨by have:=f.rg;omega,by have:=f.rel;omega,by have:=f.row;omega,Z⟩;cases e:aP h p with
  | no d=>exact ⟨i,a⟩
  | slot c s j =>
   rw [e] at l m;dsimp only;split;·exact⟨i,a⟩
   exact⟨l,m⟩
  | range r=>rw [e] at l m;exact⟨l,m⟩
 split
 ·cases e:aP h p with
  | no d=>exact ⟨i,a⟩
  | slot c s j=>exact ⟨i,a⟩
  | range r=>exact ⟨i,a⟩
 split;·split <;> exact ⟨i,a⟩
 split
 ·dsimp only;split;·exact⟨i.bytes p o.ys _,a.rg,a.rel,a.row,a.used⟩
  exact⟨i,a⟩
 exact⟨i,a⟩
theorem Inv.step (i:Inv cf h) (a:1<=cf.fifo) (f:Few k h) (an o):Inv cf (ce cf h an o).2/\Few (k+1) (ce cf h an o).2:=by
 unfold ce;split;·exact i.do a f o _
 split;·exact⟨i,f.mono Z⟩
 exact i.do a f o _
inductive Area (h:Hs) (p n:Nat):Prop
 | slot (c s j:Nat):c<12->s<6->j<aM c->aX c s j=p->h.st c s j=1->n<=bX c->Area h p n
 | range (r:Rg9):r∈h.rg->r.base=p->r.st=1->n<=r.pages*1024->Area h p n
theorem Inv.on1 (i:Inv cf h) (a:c<12) (b:s<6) (d:j<aM c) (e:aZ (h.st c s j)=false):dy h c s=true:=by
 cases f:dy h c s with
 | true=>rfl
 | false=>have:=i.off c s a b f j d;rw [e] at this;cases this
theorem Inv.openA (i:Inv cf h) (a:Area h p n) (q:k<n):isOpen (h.m ((p+k)/1024))=true:=by
 rw [i.fine.open];cases a with
 | slot c s j d b f t l m =>
  have e:=i.on1 d b f (by rw [l];rfl);have o:=cI d b f;have u:aB c s*1024<=aX c s j:=by unfold aX;omega
  have g:=i.slab c s d b ((p+k)/1024-aB c s) Z;rw [show aB c s+((p+k)/1024-aB c s)=(p+k)/1024 by omega,e] at g;exact g
 | range r d e b m =>
  have o:=i.rgs r d;unfold Rg9.base at e;exact (i.big _ Z).2 ⟨r,d,b,Z,Z⟩
theorem mj {a d b:Nat} (l:c<12) (m:s<6) (n:j<aM c) (f:a<12) (g:d<6) (i:b<aM a) (k:¬(c=a/\s=d/\j=b)):aX c s j+bX c<=aX a d b\/aX a d b+bX a<=aX c s j:=by
 have o:=cI l m n;have p:=cI f g i;have q:aB c s*1024<=aX c s j:=by unfold aX;omega
 have r:aB a d*1024<=aX a d b:=by unfold aX;omega
 by_cases e:c=a/\s=d
 ·obtain⟨rfl,rfl⟩:=e;unfold aX;rcases Hn j b with h|h|h;·have:(j+1)*bX c<=b*bX c:=F5 _ h;rw [Gj,Gl] at this;omega
  ·exact absurd ⟨rfl,rfl,h⟩ k
  have:(b+1)*bX c<=j*bX c:=F5 _ h;rw [Gj,Gl] at this;omega
 have:=dP l m f g e;omega
theorem Inv.far (i:Inv cf h) (d:r∈h.rg) (k:q∈h.rg) (e:r≠q):r.first+r.ext<=q.first\/q.first+q.ext<=r.first:=by
 have f:∀ {l:List Rg9},(l.Pairwise λa b=>a.first+a.ext<=b.first\/b.first+b.ext<=a.first)->r∈l->q∈l->r.first+r.ext<=q.first\/q.first+q.ext<=r.first:=λ{l}=>by
  induction l with
  | nil=>intro _ g;cases g
  | cons a t m =>
   intro n g d;obtain⟨j,o⟩:=List.pairwise_cons.1 n;rcases FG.1 g with b|b <;> rcases FG.1 d with c|c
   ·exact absurd (b.trans c.symm) e
   ·subst b;exact j q c
   ·subst c;have:=j r b;omega
   exact m o b c
 exact f i.apart d k
theorem Inv.apartA (i:Inv cf h) {q m} (a:Area h p n) (b:Area h q m) (k:p≠q):p+n<=q\/q+m<=p:=by
 cases a with
 | slot c s j t v x y L z =>
  cases b with
  | slot A B F e d f l w g =>
   have:=mj t v x e d f (by rintro ⟨rfl,rfl,rfl⟩;exact k (y.symm.trans l));omega
  | range r u o d g =>
   have G:=cI t v x;have K:=i.rgs r u;unfold Rg9.base at o;omega
 | range r u o v z =>
  cases b with
  | slot A B F e d f l w g =>
   have G:=cI e d f;have K:=i.rgs r u;unfold Rg9.base at o;omega
  | range y x t d g =>
   have:=i.far u x (by rintro rfl;exact k (o.symm.trans t));unfold Rg9.ext at this;unfold Rg9.base at o t;omega
theorem gE (a:Nat):a<=aR a*1024:=by
 unfold aR;split <;> omega
structure Gave (cf:Cf) (h:Hs) (a q:Nat) (h1:Hs):Prop where
 inv:Inv cf h1
 area:Area h1 q a
 fresh:∀ n,¬Area h q n
 live:∀ c s j,c<12->s<6->j<aM c->h.st c s j=1->h1.st c s j=1/\h1.rq c s j=h.rq c s j
 rg:h1.rg=h.rg\/∃ r,h1.rg=h.rg++[r]/\r.base=q
 rel:∀ b,b∈h1.rel->b∈h.rel
theorem Inv.gave (i:Inv cf h) {q:Nat} {K:Hs} (d:aA cf h a=(some q,K)):Gave cf h a q K:=by
 have L:=(i.malloc (k:=h.rg.length+h.rel.length+h.row.length+h.used) ⟨Z,Z,Z,Z⟩ a).1;rw [d] at L;dsimp only at L;unfold aA at d;by_cases ha:a<=1016
 ·rw [Gv ha] at d;obtain⟨B,T⟩:=tE ha;generalize gx a=c at *;obtain⟨g,V⟩:=Inv.small B 2000 i;cases e:cr cf c 2000 h with
  | mk o R =>
   rw [e] at g V d;cases o with
   | none=>simp at d
   | some t =>
    obtain⟨s,j⟩:=t;simp at d;obtain⟨rfl,rfl⟩:=d;obtain⟨M,N,W,X,x,Y⟩:=g.some s j rfl;refine⟨L,.slot c s j B M N rfl (aO _ _ _ _ _) Z,λn O=>?_,λu v w l f m F=>?_,.inl g.stay.rg,λb y=>g.stay.rel▸y⟩
    ·cases O with
     | slot u v w l f m P G z =>
      by_cases p:u=c/\v=s/\w=j;·obtain⟨rfl,rfl,rfl⟩:=p;rw [G] at x;simp [aZ] at x
      have:=mj l f m B M N p;have z1:=bd B;have z2:=bd l;omega
     | range r A y f z =>
      have K:=cI B M N;have S:=i.rgs r A;unfold Rg9.base at y;omega
    have p:¬(u=c/\v=s/\w=j):=by
     rintro⟨rfl,rfl,rfl⟩;rw [F] at x;simp [aZ] at x
    have Q:=g.stay.live u v w (by rw [F];rfl);refine⟨?_,?_⟩;·show aE R.st c s j 1 u v w=1;rw [a_ _ _ p];exact Q.trans F
    show aE R.rq c s j a u v w=h.rq u v w;rw [a_ _ _ p];exact congrFun (congrFun (congrFun g.stay.rq u) v) w
 rw [Gu ha] at d;dsimp only at d;have hd:=oy cf h (n:=3) Z;split at d;·simp at d
 split at d;·simp at d
 rename_i s A;split at d;·simp at d
 obtain⟨r1,r2,r3⟩:=js A;simp at d;obtain⟨rfl,rfl⟩:=d;have hp:=gE a;refine⟨L,.range ⟨s,1+dr cf h 3,aR a,1,a⟩ (List.mem_append_right _ (List.mem_singleton.2 rfl)) rfl rfl hp,λn O=>?_,λu v w l f m F=>⟨F,rfl⟩,.inr ⟨_,rfl,rfl⟩,λb y=>(F_.1 y).1⟩;cases O with
 | slot u v w l f m P G z =>
  have K:=cI l f m;omega
 | range r A y f z =>
  have S:=r3 r A;have h3:=i.rgs r A;unfold Rg9.base at y;unfold Rg9.ext at S;omega
theorem Gave.keeps {h1 q} (g:Gave cf h a q h1) (A:Area h p n):Area h1 p n/\p≠q:=by
 refine⟨?_,λe=>g.fresh n (e▸A)⟩;cases A with
 | slot c s j f b i k l d=>exact .slot c s j f b i k (g.live c s j f b i l).1 d
 | range r f i b d =>
  refine .range r ?_ i b d;rcases g.rg with e|⟨k,e,_⟩;·rw [e];exact f
  rw [e];exact Ip _ f
theorem mT {b:Hs} (a:aP h p=.slot c s j) (f:b.st c s j=1):aP b p=.slot c s j:=by
 unfold aP at a ⊢;cases e:cH p with
 | some t =>
  obtain⟨d,g,i⟩:=t;rw [e] at a;dsimp only at a ⊢;split at a;·simp at a;obtain⟨rfl,rfl,rfl⟩:=a;rw [Gv f]
  split at a <;> cases a
 | none =>
  rw [e] at a;dsimp only at a;cases d:h.rg.find? λr=>r.base==p with
  | some r=>rw [d] at a;dsimp only at a;split at a <;> cases a
  | none=>rw [d] at a;dsimp only at a;split at a <;> cases a
theorem kh {b:Hs} (a:aP h p=.range r) (g:b.rg=h.rg\/∃ f,b.rg=h.rg++[f]):aP b p=.range r:=by
 unfold aP at a ⊢;cases e:cH p with
 | some t =>
  obtain⟨c,d,i⟩:=t;rw [e] at a;dsimp only at a ⊢;split at a;·cases a
  split at a <;> cases a
 | none =>
  rw [e] at a;dsimp only at a ⊢;cases c:h.rg.find? λr=>r.base==p with
  | some i =>
   rw [c] at a;have j:(b.rg.find? λr=>r.base==p)=some i:=by
    rcases g with d|⟨f,d⟩;·rw [d];exact c
    rw [d,List.find?_append,c];rfl
   rw [j];exact a
  | none=>rw [c] at a;dsimp only at a;split at a <;> cases a
theorem n_ (m) (p:Nat) (x) (a:Nat) (h:a≠p):be (dX m p x) a=be m a:=by
 unfold be dX;by_cases e:a/1024=p/1024
 ·rw [e,bL];have b:p%1024≠a%1024:=Z;cases m (p/1024) with
  | none=>rfl
  | some q=>simp [b]
 rw [aV _ _ _ _ e]
theorem hH (m) (q:Nat) (ys) (a:Nat):∀ k,(a<q\/q+k<=a)->be (ax m q ys k) a=be m a
 | 0,_=>rfl
 | k+1,h=>by
  show be (dX (ax m q ys k) (q+k) _) a=_
  rw [n_ _ _ _ _ Z]
  exact hH m q ys a k Z
theorem iQ (x:Int) (a : -9223372036854775808<=x) (b:x<=9223372036854775807):IntKind.i64.wrap x=x:=by
 rw [GT];omega
theorem oh (g) (a:Nat) (r W) (h:Lc g r W) (ha:a<18446744073709551616) :
  Calls prog 143 #[J g 0,U a] W λe o=>e=.returned (.bool (decide (r.first<=a/1024)&&decide (a/1024<r.first+r.ext)))/\D W o:=by
 have q:=H (λV (b:V.heap=W.heap)=>iB g r V ⟨by unfold World.cell?;rw [b];exact h.c0,by unfold World.cell?;rw [b];exact h.c1,by unfold World.cell?;rw [b];exact h.c2,by unfold World.cell?;rw [b];exact h.c3,by unfold World.cell?;rw [b];exact h.c4,h.hf,h.hu,h.hp⟩);obtain⟨_,_,i,_,_,u,l,m⟩:=h;have v:r.ext<=18014398509482000:=by unfold Rg9.ext;omega
 obtain⟨p,b⟩:∃ p,p=a/1024:=⟨_,rfl⟩;have s:p<18014398509481984:=Z;have d:=H (show (a:Int)/1024=(p:Int) by omega);rw [<-b];have j:=H (show ∀ c:World,c.heap=W.heap->c.cell? ⟨g,2,none⟩=some (I r.first)/\c.heap=W.heap from λc k=>⟨by unfold World.cell?;rw [k];exact i,k⟩);generalize r.first=f at *
 generalize r.ext=x at *;have t:IntKind.i64.wrap ((f:Int)+(x:Int))=(f:Int)+(x:Int):=iQ _ Z Z;clear l m i b;by_cases i:f<=p
 ·have l:(f:Int)<=(p:Int):=Z;rw [GJ i,Bool.true_and];go_enter func143,ntmps143;go_upto_region 2 with fail
  rw [d.out];clear d i;refine rh (S:=λc=>c.cell? ⟨g,2,none⟩=some (I f)/\c.heap=W.heap) ?_;have b:=j.out _ rfl;refine pk 0 (I p) b ?_;refine pk 1 (J g 0) b ?_;refine pk 2 (J g 0) b ?_;refine pk 3 (J g 2) b ?_;refine pz 4 (I f) b ?_;refine pz 5 (.bool true) b ?_;refine pk 6 (.bool true) b ?_;refine pk 7 (I p) b ?_;refine pk 8 (J g 0) b ?_;refine pk 9 (J g 0) b ?_;refine pk 10 (J g 2) b ?_;refine pz 11 (I f) b ?_;refine pk 12 (J g 0) b ?_;refine po 13 λK' m=>?_;go_simp;refine (q W.drew rfl).mono ?_;rintro e w ⟨rfl,rfl⟩;have n:=j.out W.drew.drew rfl;refine m _ _ ⟨n,?_⟩;clear b;have b:=n;clear m K';refine pz 14 (I ((f:Int)+(x:Int))) b ?_;refine pz 15 (.bool (decide ((p:Int)<(f:Int)+(x:Int)))) b ?_;refine pz 16 (.bool (decide ((p:Int)<(f:Int)+(x:Int)))) b ?_;refine pk 17 (.bool (decide ((p:Int)<(f:Int)+(x:Int)))) b ?_;refine bN ?_;clear b;go_wp2;go_ret;refine⟨?_,(Fc _ _).drew.drew⟩;show Ending.returned (.bool (decide ((p:Int)<(f:Int)+(x:Int))))=_;congr 2;exact decide_eq_decide.2 Z
 have l:(p:Int)<(f:Int):=Z;rw [Gy i,Bool.false_and];go_enter func143,ntmps143;go_upto_region 2 with fail
 rw [d.out];clear d i;refine rh (S:=λc=>c.cell? ⟨g,2,none⟩=some (I f)/\c.heap=W.heap) ?_;have b:=j.out _ rfl;refine pk 0 (I p) b ?_;refine pk 1 (J g 0) b ?_;refine pk 2 (J g 0) b ?_;refine pk 3 (J g 2) b ?_;refine pz 4 (I f) b ?_;refine pz 5 (.bool false) b ?_;refine pk 6 (.bool false) b ?_;refine ps 7 b ?_;refine ps 8 b ?_;refine ps 9 b ?_;refine ps 10 b ?_;refine ps 11 b ?_;refine ps 12 b ?_;refine ps 13 b ?_;refine ps 14 b ?_;refine ps 15 b ?_;refine pz 16 (.bool false) b ?_;refine pk 17 (.bool false) b ?_;refine bN ?_;clear b;go_wp2;go_ret;refine⟨?_,(Fc _ _).drew⟩;rfl
theorem lY (g k r W) (h:Lc g r W) :
  Calls prog 140 #[J g 0,I k] W λe o=>e=.returned (j_ k (r.first+r.guards:Nat) (r.pages:Nat) 0 0 none 0 0)/\D W o:=by
 obtain⟨_,_,d,i,j,t,w,x⟩:=h;have q:=H (show ((r.first+r.guards:Nat):Int)=(r.first:Int)+(r.guards:Int) by omega);generalize r.first=f at *
 generalize r.guards=u at *;generalize r.pages=p at *;obtain⟨V,b⟩:∃ V,V=W.alloc (.cells #[I 0,I 0,I 0,U 0,I 0,C] 190):=⟨_,rfl⟩;have l:D W V:=by rw [b];exact (Fc _ _).alloc (Fe _) _
 have X:=(show V.heap[W.heap.size]?=some (.cells #[I 0,I 0,I 0,U 0,I 0,C] 190) by rw [b];exact ao W _);have m:=H (show ∀ a,D W a->a.cell? ⟨g,2,none⟩=some (I f)/\a.cell? ⟨g,3,none⟩=some (I u)/\a.cell? ⟨g,4,none⟩=some (I p) from λa k=>⟨ad k d,ad k i,ad k j⟩);have s:IntKind.i64.wrap ((f:Int)+(u:Int))=(f:Int)+(u:Int):=iQ _ Z Z;have n:=H l;have c:=H X;clear d i j l X;go_enter func140,ntmps140;go_upto_region 1 with fail
 refine Eq.mp (congrArg _ b) ?_;clear b;obtain⟨X,b⟩:∃ X,X=W.heap.size:=⟨_,rfl⟩;rw [<-b] at c ⊢;have d:=H b;clear b;refine rh (S:=λa=>a.cell? ⟨g,2,none⟩=some (I f)/\a.cell? ⟨g,3,none⟩=some (I u)/\a.cell? ⟨g,4,none⟩=some (I p)) ?_;have i:=m.out _ n.drew;iterate 15 (refine py i ?_;simp only [f0,f1,Nat.reduceAdd,lz,l0,ls])
 refine po 15 λK' j=>?_;refine Hr 190 _ _ rfl X _ rfl rfl 190 _ c E rfl jv ?_;have b:D W (V.drew.setRow X #[I k,I ((f:Int)+(u:Int)),I p,U 0,I 0,C]):=below_setRow n.drew (by rw [d.out];exact Fe _) _;refine j _ _ ⟨m _ b,?_⟩;refine bN ?_;have l:=aw (v:=V.drew) c #[I k,I ((f:Int)+(u:Int)),I p,U 0,I 0,C];go_wp2_with fail;refine fp l underlying190 ?_;rw [q.out];exact⟨rfl,b⟩
structure Bc (b r c s n cap:Nat) (on:Bool) (W:World):Prop where
 d0:W.cell? ⟨b,0,none⟩=some (I c)
 d1:W.cell? ⟨b,1,none⟩=some (I s)
 d2:W.cell? ⟨b,2,none⟩=some (.bool on)
 d3:W.cell? ⟨b,3,none⟩=some (Vl r n cap)
theorem Bc.below {b r cap on W W'} (h:Bc b r c s n cap on W) (k:D W W'):Bc b r c s n cap on W':=⟨ad k h.d0,ad k h.d1,ad k h.d2,ad k h.d3⟩
theorem my (b r g0 c s n cap on k W) (h:Bc b r c s n cap on W) (O:0<n) (a:Sc g0 b c s 0 W) (g:W.cell? ⟨r,0,none⟩=some (J g0 0)) :
  Calls prog 145 #[J b 0,I k] W λe B=>e=.returned (j_ k (aB c s:Nat) (dH c:Nat) 0 0 none 0 0)/\D W B:=by
 have t:=cI a.hc a.hs a.hj;have u:=cy a.hc a.hs;have i:=pU a.hc;have F:=H (λV (f:D W V)=>e_ g0 b c s 0 V (a.below f));have w:=H (λV (f:D W V)=>fy (c:Nat) V (a.tb.ofBelow f));rw [i] at w;have m:=H (show ((aX c s 0:Nat):Int)/1024=(aB c s:Nat) by unfold aX;omega);generalize j:aX c s 0=A at *;have G:A<=200000:=Z;generalize aB c s=q at *;generalize dH c=x at *;obtain⟨l,_,_,p⟩:=h;have o:=H (show ∀ d,D W d->d.cell? ⟨b,0,none⟩=some (I c)/\d.cell? ⟨b,3,none⟩=some (Vl r n cap)/\d.cell? ⟨r,0,none⟩=some (J g0 0) from λd k=>⟨ad k l,ad k p,ad k g⟩);clear l p g a t u i j;obtain⟨V,f⟩:∃ V,V=W.alloc (.cells #[I 0,I 0,I 0,U 0,I 0,C] 190):=⟨_,rfl⟩;have a:D W V:=by rw [f];exact (Fc _ _).alloc (Fe _) _
 have X:=(show V.heap[W.heap.size]?=some (.cells #[I 0,I 0,I 0,U 0,I 0,C] 190) by rw [f];exact ao W _);have j:=H a;have p:=H X;have K:IntKind.i64.wrap ((A:Int)/1024)=(q:Int):=by rw [m.out];exact iQ _ (by have:=m.out;omega) (by have:=m.out;omega)
 have L:IntKind.u64.wrap ((A:Int)/1024)=(A:Int)/1024:=ei _ Z Z;clear a X;go_enter func145,ntmps145;go_upto_region 1 with fail
 refine Eq.mp (congrArg _ f) ?_;clear f;obtain⟨X,a⟩:∃ X,X=W.heap.size:=⟨_,rfl⟩;rw [<-a] at p ⊢;have M:=H a;clear a;refine rh (S:=λd=>d.cell? ⟨b,0,none⟩=some (I c)/\d.cell? ⟨b,3,none⟩=some (Vl r n cap)/\d.cell? ⟨r,0,none⟩=some (J g0 0)) ?_;have a:=o.out _ j.drew;iterate 7 (refine py a ?_;simp only [f0,f1,Nat.reduceAdd,lz,l0,ls])
 refine pk 10 (J b 0) a ?_;refine pk 11 (J b 0) a ?_;refine pk 12 (J b 0) a ?_;refine pz 13 (I c) a ?_;refine po 7 λK' g=>?_;go_simp;refine (F _ j.drew).mono ?_;rintro e l ⟨rfl,y⟩;have t:D W l:=j.drew.trans (y.mono j.size);have u:=o.out _ t;have i:l.heap[X]?=some (.cells #[I 0,I 0,I 0,U 0,I 0,C] 190):=(y.block _ (ai (W:=V.drew) p)).trans p.out;refine g _ _ ⟨u,?_⟩;clear a;have a:=u;clear g K';refine pz 8 (U ((A:Int)/1024)) a ?_;refine pz 9 (I q) a ?_;refine po 14 λK' g=>?_
 go_simp;refine (w _ t).mono ?_;rintro e N ⟨rfl,z⟩;rw [z];clear z N;refine g _ _ ⟨u,?_⟩;clear g K';refine py a ?_;simp only [f0,f1,Nat.reduceAdd,lz,l0,ls];refine po 16 λK' g=>?_;refine Hr 190 _ _ rfl X _ rfl rfl 190 _ i E rfl jv ?_;have z:D W (l.setRow X #[I k,I q,I x,U 0,I 0,C]):=below_setRow t (by rw [M.out];exact Fe _) _;refine g _ _ ⟨o _ z,?_⟩;refine bN ?_;have N:=aw (v:=l) i #[I k,I q,I x,U 0,I 0,C];go_wp2_with fail;refine fp N underlying190 ?_;exact⟨rfl,z⟩
end
end Go.Proofs.YtdngbppdomoenaaGreatDoor
