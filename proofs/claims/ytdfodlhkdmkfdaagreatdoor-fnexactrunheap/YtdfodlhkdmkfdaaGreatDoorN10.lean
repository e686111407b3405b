import Derived.Deep.MidRow
import Derived.Lib.SmallJoins
import Derived.Test.YtdfodlhkdmkfdaaGreatDoorN08
import Derived.Test.YtdfodlhkdmkfdaaGreatDoorN09
set_option linter.unusedVariables false
set_option linter.unusedSimpArgs false
set_option maxRecDepth 20000
set_option maxHeartbeats 8000000
namespace Go.Proofs.YtdfodlhkdmkfdaaGreatDoor
open Go.Proofs.Tryz
variable {w:World} {c j k s:Nat} {z:Int}
section
open Go.ChangeShapes Go.WideShapes Go.ChangeAt Go.RowKit
theorem Iu (M rm G rq n mix fifo W) (h:Qr W M rm G rq n mix fifo) (a:mix.length<=1024) :
  Calls prog 124 #[J M 0] W λe c=>e=.returned (Vl W.heap.size mix.length mix.length)/\RowV c W.heap.size 3 (Ns .i64 mix)/\D W c:=by
 have b:=h.mx.1;have d:=h.mx.2;have:=row_in M rm mix.length 0 mix.length _ W.heap.size mix W rfl rfl (aM b) (aM b) (aM b) d rfl (Jt _) (Jo _) a;rwa [Lk,List.take_zero,J3,zM] at this
theorem Il (M rm G rq n mix fifo W) (h:Qr W M rm G rq n mix fifo) (a:n<=1024) :
  Calls prog 124 #[J G 0] W λe c=>e=.returned (Vl W.heap.size fifo.length fifo.length)/\RowV c W.heap.size 3 (Ns .i64 fifo)/\D W c:=by
 obtain⟨ps,o,k,b,d,f,j,g,l,e⟩:=h.qu;have:=row_in G rq n o k _ W.heap.size ps W rfl rfl (aM b) (aM b) (aM b) d f Z g a;rw [<-e] at this;have i:fifo.length=k:=by rw [e];simp;omega
 rw [i];exact this
theorem kh (W:World) (g:Nat) (a b c:Value) (x:Addr) (h:x.block≠g):(((W.setCell ⟨g,0,none⟩ a).setCell ⟨g,1,none⟩ b).setCell ⟨g,2,none⟩ c).cell? x=W.cell? x:=by
 unfold World.cell?;rw [heap_setCell_other _ _ _ _ (by simpa using h),heap_setCell_other _ _ _ _ (by simpa using h),heap_setCell_other _ _ _ _ (by simpa using h)]
theorem Ae (M rm G rq n) (s:Nat) (t:TypeId) (a:Addr) (mix fifo) (w:World) (f:s=w.heap.size) (h:Qr w M rm G rq n mix fifo) (u:mix.length<=1024) (x:n<=1024) :
  Calls prog 65 #[.agg #[.pointer (some ⟨M,0,none⟩),.pointer (some ⟨G,0,none⟩),.iface t (.pointer (some a))]] w λe y=>∃ b c,e=.returned (wv (some ⟨b,0,none⟩) mix.length mix.length (some ⟨c,0,none⟩) fifo.length fifo.length (n:Nat))/\RowV y b 3 (Ns .i64 mix)/\RowV y c 3 (Ns .i64 fifo)/\w.heap.size<=b/\b<c/\D w y:=by
 have b:=mQ w (.cells #[.pointer (some ⟨M,0,none⟩),.pointer (some ⟨G,0,none⟩),.iface t (.pointer (some a))] 75) (.cells #[.slice none 0 0,.slice none 0 0,.int .i64 0] 104);obtain⟨ps,o,k,c,g⟩:=h.qu;clear g;have R:=H (λW (z:Qr W M rm G rq n mix fifo)=>Iu M rm G rq n mix fifo W z u);have T:=H (λW (z:Qr W M rm G rq n mix fifo)=>Il M rm G rq n mix fifo W z x);have V:=dO c;have A:G≠s+1:=Z;have X:G≠s:=Z;have g:=ol b.2.2 (show w.cell? ⟨G,0,none⟩=some (.slice (some ⟨rq,0,none⟩) n n) from aM c);have j:=h.but (But.ofBelow (S:=λ_=>False) b.2.2) id id id id;have p:=H (show w.heap.size+2<=((w.alloc (.cells #[.pointer (some ⟨M,0,none⟩),.pointer (some ⟨G,0,none⟩),.iface t (.pointer (some a))] 75)).alloc (.cells #[.slice none 0 0,.slice none 0 0,.int .i64 0] 104)).heap.size by rw [df,df];omega);clear h c;go_enter func65,ntmps65;go_wp2;rw [<-f];have c:=b.2.2;rw [<-f] at b;generalize (w.alloc (.cells #[.pointer (some ⟨M,0,none⟩),.pointer (some ⟨G,0,none⟩),.iface t (.pointer (some a))] 75)).alloc (.cells #[.slice none 0 0,.slice none 0 0,.int .i64 0] 104)=W0 at *;have B:W0.drew.cell? ⟨s,0,none⟩=some (.pointer (some ⟨M,0,none⟩))/\W0.drew.cell? ⟨s,1,none⟩=some (.pointer (some ⟨G,0,none⟩))/\W0.drew.cell? ⟨G,0,none⟩=some (.slice (some ⟨rq,0,none⟩) n n):=⟨(t6 W0 _ _ _ _ _ b.1).trans rfl,(t6 W0 _ _ _ _ _ b.1).trans rfl,g⟩;have P:Hid (Qr W0.drew M rm G rq n mix fifo):=j.but (S:=λ_=>False) (But.refl _ _).drew id id id id;have Y:Hid (W0.drew.heap[s+1]?=some (.cells #[.slice none 0 0,.slice none 0 0,.int .i64 0] 104)):=b.2.1;have Q:=H c.drew;clear c;have F:=H f;clear b f j g;refine wp_region_held (S:=λW=>W.cell? ⟨s,0,none⟩=some (.pointer (some ⟨M,0,none⟩))/\W.cell? ⟨s,1,none⟩=some (.pointer (some ⟨G,0,none⟩))/\W.cell? ⟨G,0,none⟩=some (.slice (some ⟨rq,0,none⟩) n n)) E ?_;simp only [JJ,JD,JO,Nat.reduceAdd,JI,JH,JM,JF,JP];have b:=B;refine bJ (i:=0) (d:=3) (v:=.pointer (some ⟨s,0,none⟩)) rfl E E E E (λ_ _ _ h=>h) (Or.inl ⟨E,λ_ _=>E⟩) b ?_;simp only [Js,Jy,Jz];refine bJ (i:=1) (d:=4) (v:=.pointer (some ⟨M,0,none⟩)) rfl E E E E (λ_ _ _ h=>h) (Or.inl ⟨E,λW b=>by obtain ⟨f,K,L⟩:=b;go_simp⟩) b ?_;simp only [Js,Jy,Jz];refine bJ (i:=2) (d:=5) (v:=.pointer (some ⟨M,0,none⟩)) rfl E E E E (λ_ _ _ h=>h) (Or.inl ⟨E,λ_ _=>E⟩) b ?_;simp only [Js,Jy,Jz];refine bJ (i:=3) (d:=6) (v:=.pointer (some ⟨M,0,none⟩)) rfl E E E E (λ_ _ _ h=>h) (Or.inl ⟨E,λ_ _=>E⟩) b ?_;simp only [Js,Jy,Jz];refine bJ (i:=5) (d:=8) (v:=.pointer (some ⟨s,1,none⟩)) rfl E E E E (λ_ _ _ h=>h) (Or.inl ⟨E,λ_ _=>E⟩) b ?_;simp only [Js,Jy,Jz];refine bJ (i:=6) (d:=9) (v:=.pointer (some ⟨G,0,none⟩)) rfl E E E E (λ_ _ _ h=>h) (Or.inl ⟨E,λW b=>by obtain ⟨f,K,L⟩:=b;go_simp⟩) b ?_;simp only [Js,Jy,Jz];refine bJ (i:=7) (d:=10) (v:=.pointer (some ⟨G,0,none⟩)) rfl E E E E (λ_ _ _ h=>h) (Or.inl ⟨E,λ_ _=>E⟩) b ?_;simp only [Js,Jy,Jz];refine bJ (i:=8) (d:=11) (v:=.pointer (some ⟨G,0,none⟩)) rfl E E E E (λ_ _ _ h=>h) (Or.inl ⟨E,λ_ _=>E⟩) b ?_;simp only [Js,Jy,Jz];refine bJ (i:=10) (d:=13) (v:=.pointer (some ⟨s,1,none⟩)) rfl E E E E (λ_ _ _ h=>h) (Or.inl ⟨E,λ_ _=>E⟩) b ?_;simp only [Js,Jy,Jz];refine bJ (i:=11) (d:=14) (v:=.pointer (some ⟨G,0,none⟩)) rfl E E E E (λ_ _ _ h=>h) (Or.inl ⟨E,λW b=>by obtain ⟨f,K,L⟩:=b;go_simp⟩) b ?_;simp only [Js,Jy,Jz];refine bJ (i:=12) (d:=15) (v:=.pointer (some ⟨G,0,none⟩)) rfl E E E E (λ_ _ _ h=>h) (Or.inl ⟨E,λ_ _=>E⟩) b ?_;simp only [Js,Jy,Jz];refine bJ (i:=13) (d:=16) (v:=.pointer (some ⟨G,0,none⟩)) rfl E E E E (λ_ _ _ h=>h) (Or.inl ⟨E,λ_ _=>E⟩) b ?_;simp only [Js,Jy,Jz];refine bJ (i:=14) (d:=17) (v:=.pointer (some ⟨G,0,none⟩)) rfl E E E E (λ_ _ _ h=>h) (Or.inl ⟨E,λ_ _=>E⟩) b ?_;simp only [Js,Jy,Jz];refine bJ (i:=15) (d:=18) (v:=.slice (some ⟨rq,0,none⟩) n n) rfl E E E E (λ_ _ _ h=>h) (Or.inl ⟨E,λW b=>by obtain ⟨f,K,L⟩:=b;go_simp⟩) b ?_;simp only [Js,Jy,Jz];refine bJ (i:=16) (d:=19) (v:=.int .i64 (n:Nat)) rfl E E E E (λ_ _ _ h=>h) (Or.inl ⟨E,λW _=>by first|(go_simp;done)|(go_simp;omega)⟩) b ?_;simp only [Js,Jy,Jz];refine cE (r:=4) E ?_;refine dS rfl E (λK' g=>?_);go_simp;refine (R _ P).mono ?_;rintro e N ⟨rfl,l,j⟩;have B1:=H (aB Q j);have Q1:=H (P.but (But.ofBelow (S:=λ_=>False) j) id id id id);have Z1:=H (ae Y j);have q:=H l;have c:=(show _/\_/\_ from ⟨ol j b.1,ol j b.2.1,ol j b.2.2⟩);refine g _ _ ⟨c,?_⟩;clear b l j;have b:=c;clear c;clear g K';refine cE (r:=9) E ?_;refine dS rfl E (λK' g=>?_);go_simp;refine (T _ Q1).mono ?_;rintro e m ⟨rfl,O,j⟩;have B2:=H (aB B1 j);have l:=H (ae Z1 j);have R2:=H O;have X1:=H (q.below j q.lt);have c:=(show _/\_/\_ from ⟨ol j b.1,ol j b.2.1,ol j b.2.2⟩);refine g _ _ ⟨c,?_⟩;have L1:=H (q.lt);clear b O j;have b:=c;clear c;clear g K';refine bJ (i:=17) (d:=20) (v:=.agg #[.slice (some ⟨W0.drew.heap.size,0,none⟩) mix.length mix.length,.slice (some ⟨N.heap.size,0,none⟩) fifo.length fifo.length,.int .i64 (n:Nat)]) rfl E E E E (λ_ _ _ h=>h) (Or.inl ⟨E,λ_ _=>E⟩) b ?_;simp only [Js,Jy,Jz];have d0:m.cell? ⟨s+1,0,none⟩=some (.slice none 0 0):=aM l.out;have d1:m.cell? ⟨s+1,1,none⟩=some (.slice none 0 0):=aM l.out;have d2:m.cell? ⟨s+1,2,none⟩=some (.int .i64 0):=aM l.out;have f0:m.frozen? ⟨s+1,0,none⟩=false:=xg _ _ _ _ _ l.out;have f1:m.frozen? ⟨s+1,1,none⟩=false:=xg _ _ _ _ _ l.out;have f2:m.frozen? ⟨s+1,2,none⟩=false:=xg _ _ _ _ _ l.out;refine cE (r:=18) E ?_;refine dS rfl E (λK' g=>?_);go_simp;refine g _ _ ⟨⟨?_,?_,?_⟩,?_⟩;·have:=b.1;rw [kh _ _ _ _ _ _ it];exact this
 ·have:=b.2.1;rw [kh _ _ _ _ _ _ it];exact this
 ·have:=b.2.2;rw [kh _ _ _ _ _ _ (by dsimp only;exact A)];exact this
 refine bY ?_;go_wp2;refine wA (p7 dC _ _ (s+1) 104 _ (0,0) _ dC (set3 l _ _ _) underlying104 rfl E) dC ?_;have c:=Q.size;have j:=q.lt;have O:s+1≠W0.drew.heap.size:=by have:=p.out;have:=F.out;show s+1≠W0.heap.size;omega
 have f:s+1≠N.heap.size:=by have:=p.out;have:=F.out;have e:W0.drew.heap.size=W0.heap.size:=rfl;omega
 refine⟨W0.drew.heap.size,N.heap.size,rfl,?_,?_,c,j,?_⟩;·exact ((X1.other (KN O) _).other (KN O) _).other (KN O) _
 ·exact ((R2.other (KN f) _).other (KN f) _).other (KN f) _
 ·have:=F.out;exact ((B2.setCell it _).setCell it _).setCell it _
def Os (w:World) (a:Option Addr) (c:Nat) (i:List Int):Prop:=(a=none/\c=0/\i=[])\/∃ g,a=some ⟨g,0,none⟩/\RowV w g 3 (Ns .i64 i)
theorem Os.sl {a zs} (h:Os w a c zs):Sl w a zs:=by
 rcases h with ⟨rfl,_,rfl⟩|h;·exact .inl ⟨rfl,rfl⟩
 exact .inr h
theorem Os.but {S w w' a c zs} (h:Os w a c zs) (b:But S w w') (d:∀ g,a=some ⟨g,0,none⟩->¬S g):Os w' a c zs:=by
 rcases h with h|⟨g,e,f⟩;·exact .inl h
 exact .inr ⟨g,e,f.but b (d g e)⟩
theorem Os.below {w' a zs} (h:Os w a c zs) (b:D w w'):Os w' a c zs:=h.but (But.ofBelow (S:=λ_=>False) b) (λ_ _=>id)
theorem Os.lt {w a c zs} (h:Os w a c zs):∀ g,a=some ⟨g,0,none⟩->g<w.heap.size:=by
 rintro g rfl;rcases h with ⟨e,_⟩|⟨d,e,b⟩;·cases e
 simp at e;subst e;exact b.lt
theorem Os.ne {w a c} {b:Nat} {zs} {d:Array Value} {t:TypeId} (h:Os w a c zs) (f:w.heap[b]?=some (.cells d t)) (g:3≠t):a≠some ⟨b,0,none⟩:=by
 rintro rfl;rcases h with ⟨e,_⟩|⟨j,e,i⟩;·cases e
 simp at e;subst e;exact i.ne f g rfl
theorem Wt.but {S w w' am lm af lf mix fifo} (h:Wt w am lm af lf mix fifo) (b:But S w w') (c:∀ g,am=some ⟨g,0,none⟩->¬S g) (d:∀ g,af=some ⟨g,0,none⟩->¬S g):Wt w' am lm af lf mix fifo :=
  ⟨by rcases h.m with e|⟨g,e,a⟩
      · exact .inl e
      · exact .inr ⟨g,e,a.but b (c g e)⟩,h.ml,by
      rcases h.f with e|⟨g,e,a⟩
      · exact .inl e
      · exact .inr ⟨g,e,a.but b (d g e)⟩,h.fl⟩
theorem yq (m:Nat) (lim) (w:World) (b:m<=16) :
  Calls prog 49 #[I m,I lim] w λe i=>∃ g,e=.returned (.agg #[Vl g m m,C,I lim])/\RowV i g 3 (Ns .i64 (List.replicate m (-1)))/\w.heap.size<=g/\D w i:=by
 have j:=H (λW q (hr:RowV W q 3 (Ns .i64 [-1]))=>xO q m W b hr);have a:=mQ w (.cells #[C,C,I 0] 104) (.cells #[I (-1)] 3);have c:=H (show RowV ((w.alloc (.cells #[C,C,I 0] 104)).alloc (.cells #[I (-1)] 3)) (w.heap.size+1) 3 (Ns .i64 [-1]) from rowOf a.2.1);have k:=H a.1;have l:=H a.2.2;clear a b;go_enter func49,ntmps49;go_wp2_with fail;refine (j _ _ c).mono ?_;rintro e b ⟨g,rfl,n,d,f⟩;have a:=ae k f;have q:=H n;have o:=H (show w.heap.size+1<g by have:=c.lt;omega);have r:=H (aB l f);clear n d f j c k l;have d:b.cell? ⟨w.heap.size,0,none⟩=some (C):=aM a;have f:b.cell? ⟨w.heap.size,1,none⟩=some (C):=aM a;have j:b.cell? ⟨w.heap.size,2,none⟩=some (I 0):=aM a;have f0:b.frozen? ⟨w.heap.size,0,none⟩=false:=xg _ _ _ _ _ a;have f1:b.frozen? ⟨w.heap.size,1,none⟩=false:=xg _ _ _ _ _ a;have f2:b.frozen? ⟨w.heap.size,2,none⟩=false:=xg _ _ _ _ _ a;have c:=H a;clear a;go_wp2;refine wA (p7 dC _ _ w.heap.size 104 _ (0,0) _ dC (set3 c _ _ _) underlying104 rfl E) dC ?_;refine⟨g,rfl,((q.other (p:=⟨_,_,none⟩) ?_ _).other (p:=⟨_,_,none⟩) ?_ _).other (p:=⟨_,_,none⟩) ?_ _,by have:=o.out;omega,((r.setCell (p:=⟨_,_,none⟩) (Jo _) _).setCell (p:=⟨_,_,none⟩) (Jo _) _).setCell (p:=⟨_,_,none⟩) (Jo _) _⟩
 all_goals (have:=o.out;dsimp only;omega)
def vU (n m:Nat) (slots i:List Int):Nat->List Int×List Int
 | 0=>(List.replicate m (-1),[])
 | k+1=>((eH n (vU n m slots i k).1 (vU n m slots i k).2 (slots[k]?.getD 0) (i[k]?.getD 0)).1,(eH n (vU n m slots i k).1 (vU n m slots i k).2 (slots[k]?.getD 0) (i[k]?.getD 0)).2.1)
def Gv (n m:Nat) (slots i:List Int) (k:Nat):Int:=(eH n (vU n m slots i k).1 (vU n m slots i k).2 (slots[k]?.getD 0) (i[k]?.getD 0)).2.2
def su (n m:Nat) (slots i:List Int):List Int:=(List.range slots.length).map (Gv n m slots i)
theorem xe (n m slots draws):(su n m slots draws).length=slots.length:=by simp [su]
theorem xQ (n m) (a:List Int) (draws) (k:Nat) (h:k<a.length):(su n m a draws)[k]?=some (Gv n m a draws k):=by simp [su,h]
structure Li (w:World) (q L M rm G rq n m:Nat) (slots draws:List Int) (cs:Array Value) (k:Nat) (ys:List Int) (W:World):Prop where
 q:W.heap[q]?=some (.cells cs 75)
 row:RowV W L 3 (Ns .i64 ys)
 yl:ys.length=slots.length
 ag:Agree ys (su n m slots draws) k
 qr:Qr W M rm G rq n (vU n m slots draws k).1 (vU n m slots draws k).2
 b:D w W
theorem Li.next {q M rm G rq n m slots draws cs} {d:Nat} {ys W w5} (h:Li w q (q+1) M rm G rq n m slots draws cs k ys W) (g:(rm<q/\G<q/\rq<q)/\(w.heap.size<=rm/\w.heap.size<=G/\w.heap.size<=rq)/\w.heap.size<=q) (i:k<d) (f:z=(eH n (vU n m slots draws k).1 (vU n m slots draws k).2 (slots[k]?.getD 0) (draws[k]?.getD 0)).2.2) (b:Qr w5 M rm G rq n (eH n (vU n m slots draws k).1 (vU n m slots draws k).2 (slots[k]?.getD 0) (draws[k]?.getD 0)).1 (eH n (vU n m slots draws k).1 (vU n m slots draws k).2 (slots[k]?.getD 0) (draws[k]?.getD 0)).2.1) (c:But (Qs rm G rq) W w5) (a:slots.length=d:=by assumption) :
  w5.cell? ⟨q+1,k,none⟩=some (I (ys[k]?.getD 0))/\w5.frozen? ⟨q+1,k,none⟩=false/\Li w q (q+1) M rm G rq n m slots draws cs (k+1) (ys.set k z) (w5.setCell ⟨q+1,k,none⟩ (I z)):=by
 have a:=h.row.but c (by unfold Qs;omega);have j:=h.q;have l:=dO h.q;refine⟨dR a k (by rw [h.yl];omega),a.free k,⟨?_,?_,?_,?_,?_,?_⟩⟩;·exact bT (c.at h.q (by unfold Qs;omega)) _ _ _ Z
 ·rw [<-iL];exact a.set k (by rw [aX,h.yl];omega) _
 ·rw [JU];exact h.yl
 ·refine h.ag.succ (by rw [xe];omega) z ?_;rw [xQ _ _ _ _ _ Z,f];rfl
 ·exact b.but (S:=λk=>k=q+1) ((But.refl _ w5).set _ _ _ rfl) (by have:=b.sep;intro e;have:=b.mx.1;rw [e] at this;exact (a.ne this al) rfl) Z Z Z
 exact (h.b.trans (c.below h.b.size (λg a=>by unfold Qs at a;omega))).setCell it _
end
section
open Go.RowKit
theorem Sh.usedP {B x cf h W} (a:Sh B x cf h W):Sh B x cf { h with used:=h.used+1 } (W.setCell ⟨x.P,12,none⟩ (I (h.used+1:Nat))):=by
 refine a.boxed (Ky.grown a.box rfl (au (ao W x.P) 12 _)) (h.used+1) ?_;simp [World.setCell,Jw,a.box,gx]
theorem qS (B x cf h) (n:Nat) (W) (b:Sh B x cf h W) (q:1<=n) (t:n<=1000000) (m:h.used<=1000000) (w:cf.ds.length<=20000) (r:∀ d∈cf.ds,(Lit.int .i64 d).wf=true) :
  Calls prog 140 #[J x.P 0,I n] W λe f=>e=.returned (I (dr cf h n:Nat))/\Sh B x cf { h with used:=h.used+1 } f/\W.grownBy f (some x.P):=by
 have i:W.cell? ⟨x.P,12,none⟩=some (I h.used):=b.cell 12 _ rfl;have u:W.cell? ⟨x.P,5,none⟩=some (.slice x.da cf.ds.length x.dc):=b.cell 5 _ rfl;have f12:W.frozen? ⟨x.P,12,none⟩=false:=by simp [World.frozen?,b.box]
 have c:((h.used+1:Nat):Int)=(h.used:Int)+1:=Z;have j:=H b.usedP;have a:=H (au (ao W x.P) 12 (I (h.used+1:Nat)));rw [c] at j a;clear c;by_cases c:h.used<cf.ds.length
 ·obtain⟨g,k,s⟩:=b.ds.cells h.used c;rw [k] at u;have l:=H (show dr cf h n=md (cf.ds[h.used]?.getD 0) n from rfl);generalize cf.ds[h.used]?.getD 0=d at l s;have M:=H (λf=>oe d n f q Z);have y:=H m;generalize cf.ds.length=o at *;generalize p:h.used=us at i s c j a m;clear b r k;have k:(us:Int)<(o:Int):=Z;go_enter func140,ntmps140;go_wp2;go_region;go_wp2;go_region;go_wp2_with fail;refine (M _).mono ?_;rintro e v ⟨rfl,rfl⟩;go_wp2;go_ret;refine⟨?_,j.below (Jn _ _).drew.drew,⟨a.os,a.tape,a.output,a.size,a.block⟩⟩;rw [l.out];rfl
 have l:=H (show dr cf h n=md 0 n by unfold dr md;rw [JB Z];rfl);have M:=H (λf=>oe 0 n f q Z);generalize cf.ds.length=o at *;generalize p:h.used=us at i c j a m;clear b r;have k:¬((us:Int)<(o:Int)):=Z;go_enter func140,ntmps140;go_wp2;go_region;go_wp2_with fail;refine (M _).mono ?_;rintro e v ⟨rfl,rfl⟩;go_wp2;go_ret;refine⟨?_,j.below (Jn _ _).drew,⟨a.os,a.tape,a.output,a.size,a.block⟩⟩;rw [l.out];rfl
def Zn (i:List Nat):List Value:=i.map λ(n:Nat)=>Value.int .i64 (n:Int)
theorem Cs (a:List Nat) (n:Nat):Zn (a++[n])=Zn a++[I (n:Int)]:=by simp [Zn]
def jN (i:List Int) (z:Int) (k r:Nat):List Nat:=if (i.take r).contains z then [k] else []
theorem zG {a:List Int} {r:Nat} (d:a.Nodup) (h:a[r]?=some z):jN a z k r=[]/\jN a z k (r+1)=[k]:=by
 have f:=(Jr.1 h).1;have b:(a.take r).contains z=false:=by
  rw [List.contains_eq_mem,decide_eq_false_iff_not];intro g;obtain⟨i,c⟩:=BR g;have e:=(Jr.1 c).1;rw [F9] at e;rw [Ce Z] at c;have j:=Lq.1 d i r Z f Z;rw [Jq Z] at c h;simp at c h;exact j (c.trans h.symm)
 refine⟨by unfold jN;rw [b];rfl,?_⟩;unfold jN;rw [JK,h];simp
theorem Cr {a:List Int} {y:Int} {r:Nat} (b:z≠y) (h:a[r]?=some y):jN a z k (r+1)=jN a z k r:=by
 unfold jN;rw [JK,h];simp [b]
theorem Et:(prog.info? 3).map (λi=>(i.zero,i.size,i.bytes))=some (some (I 0),1,8):=E
theorem yN (B x cf h) (c s:Nat) (a) (b R:Nat) (sts W) (f:Sh B x cf h W) (d:Sl W a sts) (g:sts.length=b) (S:sts.Nodup) (a6:b<=3) :
  Calls prog 184 #[J x.P 0,I c,I s,.slice a b R] W λe W'=>∃ v,e=.returned v/\W'.ownsRow W.heap.size 3 1 v (jE h c s sts 1062).length (Zn (jE h c s sts 1062))/\D W W':=by
 obtain⟨i0,T,Y,a0,a3⟩:=zr Et;have c7:W.cell? ⟨x.P,7,none⟩=some (Vl x.G 1062 x.gc):=f.cell 7 _ rfl;have HS:=H f;have HT:=H d.cells;have HL:=H g;clear f d g;go_enter func184,ntmps184;go_wp2;go_loopw [9,19] (λv i wr=>∃ k:Nat,k<=1062/\i=I k/\Hid (wr.ownsRow W.heap.size 3 1 v (jE h c s sts k).length (Zn (jE h c s sts k)))/\Hid (D W wr)) (λ_ i _=>1062-(intOf i).toNat);case atStart=>exact ⟨0,Jt _,rfl,H ⟨rfl,.inl ⟨rfl,rfl⟩⟩,H (Jn _ _)⟩
 case round =>
  obtain⟨k,hk,rfl,HO,M⟩:=hrel;by_cases a4:k<1062
  ·obtain⟨d0,d1,d2,d3,d4,d5⟩:=(HS.below M).slot a4;have HN:=H (yg h c s sts k);have a7:=Ci h c s sts k;obtain⟨va,vb,vc,rfl⟩:∃ p l N,u9=.slice p l N:=by rcases HO.2 with ⟨rfl,_⟩|⟨g,cp,a5,rfl,_⟩ <;> exact ⟨_,_,_,rfl⟩
   have n:=H (HO.alloc (.cells #[I ((sA k).1:Nat),I ((sA k).2.1:Nat),I ((sA k).2.2:Nat),U (gJ k:Nat),I (dH h k),I (f_ h k)] 100));have o:=H (M.alloc M.size (.cells #[I ((sA k).1:Nat),I ((sA k).2.1:Nat),I ((sA k).2.2:Nat),U (gJ k:Nat),I (dH h k),I (f_ h k)] 100));have O:=H (av wr (.cells #[I ((sA k).1:Nat),I ((sA k).2.1:Nat),I ((sA k).2.2:Nat),U (gJ k:Nat),I (dH h k),I (f_ h k)] 100));by_cases hc:(sA k).1=c
   ·by_cases d:(sA k).2.1=s
    ·have HF:=H (show jE h c s sts (k+1)=jE h c s sts k++jN sts (dH h k) k sts.length by
      rw [HN.out];unfold jN;rw [JN (Jo _)];simp [hc,d])
     have a8:(jE h c s sts k).length<=1062:=Z;generalize f:jE h c s sts k=q at *;clear f;generalize dH h k=z at *;generalize f_ h k=z2 at *;generalize gJ k=z3 at *;generalize (sA k).2.2=e3 at *;generalize (sA k).1=t at *;generalize (sA k).2.1=P at *;subst hc;subst d;have w:(wr.alloc (.cells #[I t,I P,I e3,U z3,I z,I z2] 100)).heap[wr.heap.size]?=some (.cells #[I t,I P,I e3,U z3,I z,I z2] 100):=O.out;go_wp2;generalize wr.alloc _=V at n o O w ⊢;have f:=H (show wr.heap.size<=wr.heap.size from Jo _);generalize wr.heap.size=X at O w ⊢;clear d0 d1 d2 d3 d4 d5 O f;have f:decide ((k:Int)<1062)=true:=cd;simp only [f];clear f;have O0:=H (show V.ownsRow W.heap.size 3 1 (.slice va vb vc) (q++jN sts z k 0).length (Zn (q++jN sts z k 0)) by simpa [jN] using n.out);have X0:=H w;clear n w;go_loopw [9,36] (λv i f=>∃ r:Nat,r<=b/\i=I r/\Hid (f.ownsRow W.heap.size 3 1 v (q++jN sts z k r).length (Zn (q++jN sts z k r)))/\Hid (D W f)/\Hid (f.heap[X]?=some (.cells #[I t,I P,I e3,U z3,I z,I z2] 100))) (λ_ i _=>b-(intOf i).toNat);(case atStart=>exact ⟨0,Jt _,rfl,O0,o,X0⟩);case round =>
      obtain⟨r,hr,rfl,A,F,Q⟩:=hrel;clear O0 o X0;by_cases G:r<b
      ·obtain⟨g,rfl,f⟩:=HT.out r (by rw [HL.out];exact G);have j:=ol F f;have w:wr.cell? ⟨X,4,none⟩=some (I z):=(by simp [World.cell?,Q.out]);obtain⟨y,K⟩:∃ y,sts[r]?=some y:=⟨_,Jq (by rw [HL.out];exact G)⟩;rw [K] at j;simp only [H4] at j;obtain⟨a9,b0,b4,rfl⟩:∃ p l N,u9=.slice p l N:=by rcases A.2 with ⟨rfl,_⟩|⟨g,cp,a5,rfl,_⟩ <;> exact ⟨_,_,_,rfl⟩
       clear f;by_cases f:z=y
       ·subst f;obtain⟨l,m⟩:=zG (k:=k) S K;rw [l,J3] at A;have O8:=H (A.alloc (.cells #[I k] 3));have B8:=H (F.alloc F.size (.cells #[I k] 3));have X8:=H ((dG wr (.cells #[I k] 3) X (ah Q)).trans Q);have A2:=H m;clear K l m;go_wp2_with (at_builtin;refine Kt _ rfl _ _ 23 rfl W.heap.size 3 i0 (I 0) 1 8 underlying23 T Y a0 a3 rfl Z _ _ _ rfl O8 _ 1 1 [I k] rfl rfl ?hc ?h1c ?b1 ?b2 ?b3 ?_);(case hc=>exact fK _ _ _ _ bh);(case h1c=>intro u hu;simp at hu;subst hu;rfl);(case b1=>unfold maxLen;omega);(case b2=>omega);(case b3=>exact B8.size);intro v1 w9 p l _;have m:=H (LG p (LG (B8.grown l B8.size (db O8)) (show w9.heap[X]?=_ from (l.block X (ah X8) (λe=>by
         obtain⟨N,L⟩:=nV O8 e.symm;rw [X8.out] at L;simp at L)).trans X8)))
        clear p l;go_wp2;go_roundw;(case rel=>exact ⟨r+1,Z,aR,H (by rw [A2.out,Jv,Cs];exact m.1),H m.2.1,H m.2.2⟩);case measure=>simp [intOf];omega
       have A2:=H (Cr (k:=k) f K);have l:(z==y)=false:=(by simpa using f);clear K f;go_wp2;go_roundw;(case rel=>exact ⟨r+1,Z,aR,H (by rw [A2.out];exact A),F,Q⟩);case measure=>simp [intOf];omega
      obtain rfl:r=b:=Z;go_wp2;go_roundw;(case rel=>exact ⟨k+1,Z,aR,H (by rw [HF.out,HL.out];exact A),F⟩);case measure=>simp [intOf];omega
    have f:=H (show jE h c s sts (k+1)=jE h c s sts k by
     rw [HN.out,tg (by simp [d])];simp)
    have j:(((sA k).1:Nat):Int)=(c:Int):=Z;have l:((((sA k).2.1:Nat):Int) != (s:Int))=true:=cd;generalize (sA k).1=t at *;generalize (sA k).2.1=P at *;subst hc;clear j d;go_wp2;go_roundw;(case rel=>exact ⟨k+1,Z,aR,H (by rw [f.out];exact n),o⟩);case measure=>simp [intOf];omega
   have f:=H (show jE h c s sts (k+1)=jE h c s sts k by
    rw [HN.out,tg (by simp [hc])];simp)
   have j:((((sA k).1:Nat):Int) != (c:Int))=true:=cd;generalize (sA k).1=t at *;clear hc;go_wp2;go_roundw;(case rel=>exact ⟨k+1,Z,aR,H (by rw [f.out];exact n),o⟩);case measure=>simp [intOf];omega
  have:k=1062:=Z;subst this;go_wp2;go_ret;exact⟨_,rfl,HO,M⟩
def gE (c:Nat):Nat:=[0,384,576,702,798,858,906,936,960,990,1014,1038,1062].getD c 0
def Gz (t:Nat×Nat×Nat):Nat:=gE t.1+t.2.1*aU t.1+t.2.2
theorem yw:(dM.zipIdx.all λp=>p.2==Gz p.1)=true:=by decide +kernel
theorem uj (c:Nat) (a:c<12):gE c+6*aU c=gE (c+1):=by
 have:∀ c∈List.range 12,gE c+6*aU c=gE (c+1):=al;exact this c (JW.2 a)
theorem yC (a:c<12) (b:s<6) (d:j<aU c):(c,s,j)∈dM:=by
 unfold dM;exact List.mem_flatMap.2 ⟨c,JW.2 a,List.mem_flatMap.2 ⟨s,JW.2 b,JE.2 ⟨j,JW.2 d,rfl⟩⟩⟩
theorem BE (b:c<12) (d:s<6) (e:j<aU c):dM[gE c+s*aU c+j]?=some (c,s,j):=by
 obtain⟨k,a⟩:=List.mem_iff_getElem?.1 (yC b d e);have h:=List.all_eq_true.1 yw ((c,s,j),k) (List.mem_iff_getElem?.2 ⟨k,by rw [List.getElem?_zipIdx,a];simp⟩);have h:k=gE c+s*aU c+j:=by simpa [Gz] using h
 rw [<-h];exact a
theorem xK (a:c<12) (b:s<6) (d:j<aU c):dM.take (gE c+s*aU c+j+1)=dM.take (gE c+s*aU c+j)++[(c,s,j)]:=by
 rw [JK,BE a b d];rfl
def yD (t:Nat×Nat×Nat):List Value:=[I t.1,I t.2.1,I t.2.2,U (bF t.1 t.2.1 t.2.2:Nat),I 0,I 0]
theorem A0:(prog.info? 100).map (λi=>(i.zero,i.size,i.bytes))=some (some (.agg #[I 0,I 0,I 0,U 0,I 0,I 0]),6,48):=E
theorem Ed (W:World) (B:Nat) (v:Value) (l:List (Nat×Nat×Nat)) (r) (g:Nat) (c) (a:W.ownsRow B 100 6 v l.length (l.flatMap yD)) (o:W.heap[g]?=some (.cells (yD r).toArray 100)) (z:l.length<=2000) (p:B<=W.heap.size) :
  ∃ d b,(Builtin.append_ #[94,94] 94 #[v,Vl g 1 c]).run prog W=.ok d b/\b.ownsRow B 100 6 d (l++[r]).length ((l++[r]).flatMap yD)/\W.grownBy b v.ownBlock:=by
 obtain⟨q,e,f,i,k⟩:=zr A0;have m:∀ j u,(yD r)[j]?=some u->W.cell? ((⟨g,0,none⟩:Addr).add j)=some u:=λj u s=>by
  rw [Addr.add_mid,JQ,t6 _ _ j _ _ _ o];simpa using s
 have t:∀ u∈yD r,u.oneCell'=true:=λu n=>by
  simp only [yD,JG,Kf,or_false] at n;rcases n with rfl|rfl|rfl|rfl|rfl|rfl <;> rfl
 obtain⟨d,b,w,x,y,_⟩:=Kg (P:=prog) W B 94 94 100 q _ 6 48 underlying94 e f i k rfl Z v _ _ a ⟨g,0,none⟩ 1 c (yD r) rfl m t (by unfold maxLen;omega) Z p;exact⟨d,b,w,by rw [J9,Jv];simpa using x,y⟩
theorem zn:(prog.info? 104).map (λi=>(i.zero,i.size,i.bytes))=some (some (.agg #[C,C,I 0]),3,56):=E
def tv (fi:Nat) (p:Option Addr×Nat×Nat):List Value:=[.slice p.1 p.2.1 p.2.2,C,I fi]
theorem EM (W:World) (B:Nat) (v:Value) (fi) (l:List (Option Addr×Nat×Nat)) (r) (g:Nat) (c) (a:W.ownsRow B 104 3 v l.length (l.flatMap (tv fi))) (o:W.heap[g]?=some (.cells (tv fi r).toArray 104)) (z:l.length<=2000) (p:B<=W.heap.size) :
  ∃ d b,(Builtin.append_ #[31,31] 31 #[v,Vl g 1 c]).run prog W=.ok d b/\b.ownsRow B 104 3 d (l++[r]).length ((l++[r]).flatMap (tv fi))/\W.grownBy b v.ownBlock:=by
 obtain⟨q,e,f,i,k⟩:=zr zn;have m:∀ j u,(tv fi r)[j]?=some u->W.cell? ((⟨g,0,none⟩:Addr).add j)=some u:=λj u s=>by
  rw [Addr.add_mid,JQ,t6 _ _ j _ _ _ o];simpa using s
 have t:∀ u∈tv fi r,u.oneCell'=true:=λu n=>by
  simp only [tv,JG,Kf,or_false] at n;rcases n with rfl|rfl|rfl <;> rfl
 obtain⟨d,b,w,x,y,_⟩:=Kg (P:=prog) W B 31 31 104 q _ 3 56 underlying31 e f i k rfl Z v _ _ a ⟨g,0,none⟩ 1 c (tv fi r) rfl m t (by unfold maxLen;omega) Z p;exact⟨d,b,w,by rw [J9,Jv];simpa using x,y⟩
end
end Go.Proofs.YtdfodlhkdmkfdaaGreatDoor
