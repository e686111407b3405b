import Derived.Test.YtibblbenmpcplaaGreatDoorN04
import Derived.Test.YtibblbenmpcplaaGreatDoorN05
set_option linter.unusedVariables false
set_option linter.unusedSimpArgs false
set_option maxRecDepth 20000
set_option maxHeartbeats 8000000
namespace Go.Proofs.YtibblbenmpcplaaGreatDoor
open Go.Proofs.Tryz
variable {A Q Rb T g k n r:Nat} {W w:World} {v:Value} {xs:List Value} {bud:Int} {m:Nat->Option (Bool×List Int)}
section
open Go.RowKit Go.Shelf
theorem bF {P:Program} {md:Region.Mode} {c:Array Oper} {Q:Exit->Act->World->Prop} {d:Nat} {b:Array Bool} {a:Act} (e:Region.ready md c b=[r])
  (h:wpOp P c Q r (wpAny P md c Q d (b.setIfInBounds r true)) a w):wpAny P md c Q (d+1) b a w :=
 wpAny_all e bH (λi a=>by
  obtain rfl:i=r:=by simpa using a
  exact h)
theorem cd {P:Program} {md:Region.Mode} {f:Array Oper} {Q:Exit->Act->World->Prop} {i d:Nat} {j:Oper} {g:Nat} {b:Array Bool} {a:Act} (k:f[i]?=some j) (l:j.dst=some d)
  (m:Region.noSelect f=true) (n:Region.free md f b i=true) (o:(Region.ready md f b).contains i=true)
  (p:∀ c a w,Q (.panic c) (a.put j.dst v) w->Q (.panic c) a w) (c:Yields P f j v a)
  (h:wpAny P md f Q g (b.setIfInBounds i true) { a with tmps:=a.tmps.setIfInBounds d v } w):wpAny P md f Q (g+1) b a w :=
 wpAny_take k m n o p c (by
  have e:a.put j.dst v={ a with tmps:=a.tmps.setIfInBounds d v }:=by rw [l];rfl
  rw [e];exact h)
def aH (m:Nat->Option (Bool×List Int)) (a n:Nat):List Int:=(List.range n).map λi=>bO m (a+i)
theorem lP (m a) (k:Nat):aH m a (k+1)=aH m a k++[bO m (a+k)]:=by
 simp [aH,Gs]
structure La (w:World) (Rb A:Nat) (v:Value) (k:Nat) (xs:List Value) (W:World):Prop where
 own:W.ownsRow (w.heap.size+2) 5 1 v k xs
 at_:W.heap[A]?=some (.cells #[I 0,v] 197)
 res:W.heap[Rb]?=some (.cells #[I 0,C] 197)
 bel:D w W
 big:w.heap.size+2<=W.heap.size
 hA:A=w.heap.size+1
 hR:Rb=w.heap.size
theorem La.next {w9:World} (h:La w Rb A v k xs W) (b:Value) (g cap) (j:w9.ownsRow (w.heap.size+2) 5 1 (Vl g (k+1) cap) (k+1) (xs++[b])) (a:((W.alloc (.cells #[b] 5)).drew).grownBy w9 v.ownBlock) :
  w9.cell? ⟨A,1,none⟩=some v/\w9.frozen? ⟨A,1,none⟩=false/\La w Rb A (Vl g (k+1) cap) (k+1) (xs++[b]) (w9.setCell ⟨A,1,none⟩ (Vl g (k+1) cap)):=by
 have c:A<W.heap.size:=by have:=h.hA;have:=h.big;omega
 have d:Rb<W.heap.size:=by have:=h.hR;have:=h.big;omega
 have m:v.ownBlock≠some A:=by
  intro e;have:=cI h.own A e;have:=h.hA;omega
 have n:v.ownBlock≠some Rb:=by
  intro e;have:=cI h.own Rb e;have:=h.hR;omega
 have sz:((W.alloc (.cells #[b] 5)).drew).heap.size=W.heap.size+1:=aO W _;have f:w9.heap[A]?=some (.cells #[I 0,v] 197):=by
  rw [a.block A (by rw [sz];omega) (Iq m)];exact (eg W _ A c).trans h.at_
 have o:w9.heap[Rb]?=some (.cells #[I 0,C] 197):=by
  rw [a.block Rb (by rw [sz];omega) (Iq n)];exact (eg W _ Rb d).trans h.res
 have i:g≠A:=by
  have:=cI j g rfl;have:=h.hA;omega
 have p:D w w9:=by
  have l:D w (W.alloc (.cells #[b] 5)).drew:=(h.bel.alloc h.bel.size _).drew;exact l.grown a l.size (λr b=>by have:=cI h.own r b;omega)
 refine⟨by simp [World.cell?,f],by simp [World.frozen?,f],?_⟩;refine⟨j.kept (au (al w9 A) 1 _) (.inr (by simpa [Value.ownBlock] using i)),?_,?_,?_,?_,h.hA,h.hR⟩;·rw [bj f];rfl
 ·rw [GQ _ _ _ _ (by have:=h.hA;have:=h.hR;show Rb≠A;omega)];exact o
 ·exact p.setCell (by have:=h.hA;show w.heap.size<=A;omega) _
 have:w9.heap.size<=(w9.setCell ⟨A,1,none⟩ (Vl g (k+1) cap)).heap.size:=(au (al w9 A) 1 _).size;have:=a.size;have:=h.big;rw [sz] at *;omega
theorem aw {v:World} {a:Array Value} {t:TypeId} (h:v.heap[g]?=some (.cells a t)) (b:Array Value):(v.setRow g b).heap[g]?=some (.cells b t):=by
 simp [World.setRow,FD,h]
theorem aj (w:World) (g:Nat) (b:Array Value):w.grownBy (w.setRow g b) (some g) :=
 ⟨rfl,rfl,rfl,by simp [World.setRow],λk _ a=>by
  have:g≠k:=λe=>a (by rw [e])
  simp [World.setRow,FD,this]⟩
theorem dm {b a:Nat} {e:TypeId} {c:Nat} (h:w.ownsRow b e c v n xs) (i:a<=b):w.ownsRow a e c v n xs :=
 ⟨h.1,h.2.imp id λ⟨g,d,f,j,k,l⟩=>⟨g,d,f,j,Fx i k,l⟩⟩
theorem La.one (h:La w Rb A v k xs W):(#[Value.int IntKind.i64 0,v].all λx=>x.oneCell')=true:=by
 rcases h.own.2 with ⟨rfl,_⟩|⟨g,a,b,rfl,_⟩ <;> simp [Value.oneCell']
theorem La.done (h:La w Rb A v k xs W):(W.setRow Rb #[Value.int IntKind.i64 0,v]).ownsRow w.heap.size 5 1 v k xs/\D w (W.setRow Rb #[Value.int IntKind.i64 0,v]):=by
 have a:=aj W Rb #[Value.int IntKind.i64 0,v];refine⟨dm (h.own.kept a ?_) Z,h.bel.grown a h.bel.size (λr a=>by have:=h.hR;simp at a;omega)⟩;right;intro e;have:=cI h.own Rb e;have:=h.hR;omega
theorem kr (T Q nn bud m) (a n:Nat) (w) (b:Sx T Q nn bud m w) (a1:nn<=4096) (h2:n<=4096) (ha:a+n<18446744073709551616) (c:∀ i,i<n->isOpen (m ((a+i)/1024))=true) (t:∀ W,D w W->Calls prog 154 #[J T 0,U a,I n] W λe V=>e=.returned (I 0)/\V=W) :
  Calls prog 104 #[J T 0,U a,I n] w λe V=>∃ v,e=.returned (.agg #[I 0,v])/\V.ownsRow w.heap.size 5 1 v n (Ns .u8 (aH m a n))/\D w V:=by
 obtain⟨i0,B,F,G,K⟩:=G0 Tryz.info5By;have H1:=H t;have HS:=H b;have HO:=H c;clear t b c;go_enter func104,ntmps104;go_wp2_with fail;refine (H1.out _ ((Fu _ _).alloc (Fv _) _)).mono ?_;rintro _ w1 ⟨rfl,rfl⟩;have X:Hid (La w w.heap.size (w.heap.size+1) (C) 0 [] ((w.alloc (.cells #[I 0,C] 197)).alloc (.cells #[I 0,C] 197))) :=
  ⟨⟨rfl,.inl ⟨rfl,rfl⟩⟩,by rw [<-aO w];exact ao _ _,by rw [eg _ _ _ (by rw [aO];omega)];exact ao _ _,((Fu _ _).alloc (Fv _) _).alloc (by rw [aO];omega) _,by rw [aO,aO];omega,rfl,rfl⟩
 go_wp2;generalize (w.alloc (Obj.cells #[Value.int IntKind.i64 0,Value.slice none 0 0] 197)).alloc (Obj.cells #[Value.int IntKind.i64 0,Value.slice none 0 0] 197)=W0 at X ⊢;generalize a3:w.heap.size+1=A at X ⊢;generalize a4:w.heap.size=Rb at X ⊢;go_loopw [8] (λi wr=>∃ k:Nat,k<=n/\i=I k/\Hid (∃ v,La w Rb A v k (Ns .u8 (aH m a k)) wr)) (λi _=>n-(intOf i).toNat);case atStart=>exact ⟨0,FH _,rfl,_,X.out⟩
 case round =>
  obtain⟨k,hk,rfl,x⟩:=hrel;obtain⟨v,p⟩:=x.out;clear x;have a5:wr.cell? ⟨A,0,none⟩=some (I 0):=by simp [World.cell?,p.at_]
  have L:wr.cell? ⟨A,1,none⟩=some v:=by simp [World.cell?,p.at_]
  by_cases a2:k<n
  ·have fA:wr.frozen? ⟨A,1,none⟩=false:=(by simp [World.frozen?,p.at_]);have HG:=H (kT T Q nn bud m (a+k) wr.drew (HS.below p.bel).drew a1 Z (HO.out k a2));have Y:=H (λb g o M c h2=>p.next (w9:=M) (.int .u8 b) g o c h2);have HE:=H (lP m a k);have c:=H (λb=>(p.own.alloc (.cells #[.int .u8 b] 5)).drew);have f:=H (λ(b:Int)=>ek wr (.int .u8 b) 5 wr.heap.size rfl);have j:=H (show ∀ b:Int,w.heap.size+2<=((wr.alloc (.cells #[.int .u8 b] 5)).drew).heap.size from λb=>by
    have:=p.big;have e:((wr.alloc (.cells #[.int .u8 b] 5)).drew).heap.size=wr.heap.size+1:=aO wr _;omega)
   generalize bO m (a+k)=b at *;have Y:=H (Y.out b);have N:=H (c.out b);have O:=H (f.out b);have P:=H (j.out b);have R:(wr.alloc (.cells #[.int .u8 b] 5)).cell? ⟨A,1,none⟩=some v:=by
    have l:A<wr.heap.size:=(by have:=p.hA;have:=p.big;omega);have e:=(eg wr (.cells #[.int .u8 b] 5) A l).trans p.at_;simp [World.cell?,e]
   have m1:IntKind.u64.wrap (k:Int)=(k:Int):=(by rw [IntKind.wrap_u64];omega);have m2:IntKind.u64.wrap ((a:Int)+(k:Int))=((a+k:Nat):Int):=(by rw [IntKind.wrap_u64];omega);clear p c f j X;go_wp2;refine wp_region_any E ?_;simp only [FX,FN,F1,Nat.reduceAdd,FP,FO,FY,FV,F5];refine cd (i:=0) (d:=24) (v:=J A 1) rfl E E E E (λ_ _ _ h=>h) (Or.inl ⟨E,λ_=>E⟩) ?_;simp only [lz,l0,ls];refine cd (i:=2) (d:=26) (v:=J T 0) rfl E E E E (λ_ _ _ h=>h) (Or.inl ⟨E,λ_=>E⟩) ?_;simp only [lz,l0,ls];refine cd (i:=3) (d:=27) (v:=U (a:Int)) rfl E E E E (λ_ _ _ h=>h) (Or.inl ⟨E,λ_=>E⟩) ?_;simp only [lz,l0,ls];refine cd (i:=4) (d:=28) (v:=I (k:Int)) rfl E E E E (λ_ _ _ h=>h) (Or.inl ⟨E,λ_=>E⟩) ?_;simp only [lz,l0,ls];refine cd (i:=5) (d:=29) (v:=U (k:Int)) rfl E E E E (λ_ _ _ h=>h) (Or.inl ⟨E,λW=>by first|(go_simp;done)|(go_simp;omega)⟩) ?_;simp only [lz,l0,ls];refine cd (i:=6) (d:=30) (v:=U ((a+k:Nat):Int)) rfl E E E E (λ_ _ _ h=>h) (Or.inl ⟨E,λW=>by first|(go_simp;done)|(go_simp;omega)⟩) ?_;simp only [lz,l0,ls];refine wpAny_all (rs:=[1,7]) E bH (λi hi=>?_);have S:i=1\/i=7:=(by simpa using hi);clear hi;rcases S with rfl|rfl
   ·skip
    refine cw λK' c=>?_;go_simp;refine c.out _ _ ?_;clear c K';refine bF (r:=7) E ?_;refine cw λK' c=>?_;go_simp;refine (HG.out).mono ?_;rintro e V ⟨rfl,rfl⟩;refine c.out _ _ ?_;clear c K';refine bF (r:=8) E ?_;refine cw λK' c=>?_;go_simp;refine c.out _ _ ?_;clear c K';refine bF (r:=9) E ?_;refine cw λK' c=>?_;refine wp_append_lies _ (.tmp 25) (.tmp 32) 22 rfl (w.heap.size+2) 5 i0 (.int .u8 0) 1 1 underlying22 B F G K rfl Z v k _ dU N.out ⟨wr.heap.size,0,none⟩ 1 1 [.int .u8 b] dU rfl O.out ?h1c Z ?b1 ?b2 ?b3 _ rfl ?_
    (case h1c=>intro u y;simp at y;subst y;rfl);(case b1=>unfold maxLen;omega);(case b2=>omega);(case b3=>exact P.out);intro g o M f j q s;have l:=H (Y.out g o M f j);obtain⟨z,a0,_⟩:=l.out;clear f j q s L fA R;refine c.out _ _ ?_;clear c K';simp only [Act.put,Fw,FA,FB];refine cd (i:=10) (d:=34) (v:=J A 1) rfl E E E E (λ_ _ _ h=>h) (Or.inl ⟨E,λ_=>E⟩) ?_;refine bF (r:=11) E ?_;refine cw λK' c=>?_;go_simp;refine c.out _ _ ?_;clear c K';refine wpAny_done E ?_ _;go_wp2;go_roundw
    (case rel=>exact ⟨k+1,Z,aY,_,by rw [HE.out];simpa [Ns] using l.2.2⟩);case measure=>simp [intOf];omega
   skip
   refine cw λK' c=>?_;go_simp;refine (HG.out).mono ?_;rintro e V ⟨rfl,rfl⟩;refine c.out _ _ ?_;clear c K';refine wpAny_all (rs:=[1,8]) E bH (λi hi=>?_);have S:i=1\/i=8:=(by simpa using hi);clear hi
   rcases S with rfl|rfl
   ·skip
    refine cw λK' c=>?_;go_simp;refine c.out _ _ ?_;clear c K';refine bF (r:=8) E ?_;refine cw λK' c=>?_;go_simp;refine c.out _ _ ?_;clear c K';refine bF (r:=9) E ?_;refine cw λK' c=>?_;refine wp_append_lies _ (.tmp 25) (.tmp 32) 22 rfl (w.heap.size+2) 5 i0 (.int .u8 0) 1 1 underlying22 B F G K rfl Z v k _ dU N.out ⟨wr.heap.size,0,none⟩ 1 1 [.int .u8 b] dU rfl O.out ?h1c Z ?b1 ?b2 ?b3 _ rfl ?_
    (case h1c=>intro u y;simp at y;subst y;rfl);(case b1=>unfold maxLen;omega);(case b2=>omega);(case b3=>exact P.out);intro g o M f j q s;have l:=H (Y.out g o M f j);obtain⟨z,a0,_⟩:=l.out;clear f j q s L fA R;refine c.out _ _ ?_;clear c K';simp only [Act.put,Fw,FA,FB];refine cd (i:=10) (d:=34) (v:=J A 1) rfl E E E E (λ_ _ _ h=>h) (Or.inl ⟨E,λ_=>E⟩) ?_;refine bF (r:=11) E ?_;refine cw λK' c=>?_;go_simp;refine c.out _ _ ?_;clear c K';refine wpAny_done E ?_ _;go_wp2;go_roundw
    (case rel=>exact ⟨k+1,Z,aY,_,by rw [HE.out];simpa [Ns] using l.2.2⟩);case measure=>simp [intOf];omega
   skip
   refine cw λK' c=>?_;go_simp;refine c.out _ _ ?_;clear c K';refine bF (r:=1) E ?_;refine cw λK' c=>?_;go_simp;refine c.out _ _ ?_;clear c K';refine bF (r:=9) E ?_;refine cw λK' c=>?_;refine wp_append_lies _ (.tmp 25) (.tmp 32) 22 rfl (w.heap.size+2) 5 i0 (.int .u8 0) 1 1 underlying22 B F G K rfl Z v k _ dU N.out ⟨wr.heap.size,0,none⟩ 1 1 [.int .u8 b] dU rfl O.out ?h1c Z ?b1 ?b2 ?b3 _ rfl ?_
   (case h1c=>intro u y;simp at y;subst y;rfl);(case b1=>unfold maxLen;omega);(case b2=>omega);(case b3=>exact P.out);intro g o M f j q s;have l:=H (Y.out g o M f j);obtain⟨z,a0,_⟩:=l.out;clear f j q s L fA R;refine c.out _ _ ?_;clear c K';simp only [Act.put,Fw,FA,FB];refine cd (i:=10) (d:=34) (v:=J A 1) rfl E E E E (λ_ _ _ h=>h) (Or.inl ⟨E,λ_=>E⟩) ?_;refine bF (r:=11) E ?_;refine cw λK' c=>?_;go_simp;refine c.out _ _ ?_;clear c K';refine wpAny_done E ?_ _;go_wp2;go_roundw
   (case rel=>exact ⟨k+1,Z,aY,_,by rw [HE.out];simpa [Ns] using l.2.2⟩);case measure=>simp [intOf];omega
  have b:k=n:=Z;subst b;have x:=H p;clear p X;go_wp2_with (first|(refine Gt rfl 197 _ rfl _ rfl _ _ _ _ x.at_ underlying197 rfl E ?_)|(refine Gf rfl 197 _ _ rfl _ _ rfl rfl 197 _ x.res E rfl ?o1 ?_));case o1=>exact x.one
  refine fM (aw x.res _) underlying197 ?_;exact⟨v,rfl,x.done⟩
def dZ (m:Nat->Option (Bool×List Int)) (p:Nat) (x:Int):Nat->Option (Bool×List Int):=dT m (p/1024) ((m (p/1024)).map λq=>(q.1,q.2.set (p%1024) x))
def ay (m:Nat->Option (Bool×List Int)) (a:Nat) (ys:List Int):Nat->(Nat->Option (Bool×List Int))
 | 0=>m
 | k+1=>dZ (ay m a ys k) (a+k) (ys[k]?.getD 0)
theorem uP (m p x) (j:Nat):isOpen (dZ m p x j)=isOpen (m j):=by
 unfold dZ;by_cases e:j=p/1024
 ·subst e;rw [bV];cases m (p/1024) with
  | none=>rfl
  | some q=>rfl
 rw [aW _ _ _ _ e]
theorem eO (m a ys):∀ k j,isOpen (ay m a ys k j)=isOpen (m j)
 | 0,j=>rfl
 | k+1,j=>by simp only [ay];rw [uP];exact eO m a ys k j
structure Dt (Q:Nat) (w:World) (d:Option Addr) (len:Nat) (ys:List Int):Prop where
 hlen:ys.length=len
 cell:∀ i,i<len->∃ x,d=some x/\w.cell? (x.add i)=some (.int .u8 (ys[i]?.getD 0))/\(x.add i).block<w.heap.size/\(x.add i).block≠Q/\¬e_ Q w (x.add i).block
theorem Dt.keep {w' d len ys} (h:Dt Q w d len ys) (a:Sf Q w w'):Dt Q w' d len ys:=by
 refine⟨h.hlen,λi j=>?_⟩;obtain⟨x,k,b,c,e,f⟩:=h.cell i j;refine⟨x,k,?_,FG c a.size,e,λl=>?_⟩;·unfold World.cell? at b ⊢;rw [a.block _ c e f];exact b
 rcases a.pg _ l with g|g;·exact f g
 omega
theorem Sf.ofPut {a:World} (l:Sx T Q n bud m w) {c:Array Value} (f:w.heap[g]?=some (.cells c 5)) (o:w.cell? ⟨Q,k*3+2,none⟩=some (Vl g 1024 1024)) (h:w.grownBy a (some g)):Sf Q w a:=by
 obtain⟨s,i,_⟩:=l.row;have b:Q≠g:=by
  intro e;subst e;rw [i] at f;simp at f
 have p:a.heap[Q]?=w.heap[Q]?:=h.block Q (ag i) (by simpa using b);refine⟨h.os,h.tape,h.output,h.size,λx q _ r=>h.block x q (λe=>r ⟨k,by rw [o];simp at e;rw [e]⟩),λx ⟨j,d⟩=>.inl ⟨j,?_⟩⟩;unfold World.cell? at d ⊢;rw [p] at d;exact d
structure Sa (w:World) (Q Rb A:Nat) (W:World):Prop where
 at_:W.heap[A]?=some (.cells #[I 0,C] 197)
 res:W.heap[Rb]?=some (.cells #[I 0,C] 197)
 fr:Sf Q w W
 hA:A=w.heap.size+1
 hR:Rb=w.heap.size
theorem Sa.next {d:World} (h:Sa w Q Rb A W) (f:Sx T Q n bud m W) {c:Array Value} (a:W.heap[g]?=some (.cells c 5)) (i:W.cell? ⟨Q,k*3+2,none⟩=some (Vl g 1024 1024)) (b:W.grownBy d (some g)):Sa w Q Rb A d:=by
 have j:A≠g:=by intro e;subst e;rw [h.at_] at a;simp at a
 have l:Rb≠g:=by intro e;subst e;rw [h.res] at a;simp at a
 exact⟨(b.block A (ag h.at_) (by simpa using j)).trans h.at_,(b.block Rb (ag h.res) (by simpa using l)).trans h.res,h.fr.trans (Sf.ofPut f a i b),h.hA,h.hR⟩
theorem Sx.other {i:World} (h:Sx T Q n bud m W) (w:W.grownBy i (some r)) (x:∀ c t f,W.heap[r]?=some (.cells c t f)->t≠202/\t≠204/\t≠5):Sx T Q n bud m i:=by
 have a:∀ (g:Nat) (c:Array Value) (t:TypeId) (f:Nat×Nat),W.heap[g]?=some (.cells c t f)->(t=202\/t=204\/t=5)->i.heap[g]?=W.heap[g]?:=by
  intro g c t f b j;refine w.block g (ag b) ?_;intro e;simp at e;subst e;obtain⟨o,p,s⟩:=x c t f b;rcases j with e|e|e;·exact o e
  ·exact p e
  exact s e
 obtain⟨c,e,y,j,b⟩:=h.row;refine⟨(a _ _ _ _ h.box (.inl rfl)).trans h.box,⟨c,(a _ _ _ _ e (.inr (.inl rfl))).trans e,y,λk z=>?_,b⟩,h.out⟩;have d:=j k z;cases u:m k with
 | none=>rw [u] at d;exact d
 | some q =>
  obtain⟨l,xs⟩:=q;rw [u] at d;obtain⟨o,p,A,g,s,v⟩:=d;exact⟨o,p,A,g,s,(a _ _ _ _ v (.inr (.inr rfl))).trans v⟩
theorem Sf.newBlock (h:Sf Q w W) (l:w.heap.size<=r) (c:r≠Q) (a:Array Value):Sf Q w (W.setRow r a):=by
 have b:=aj W r a;refine⟨b.os.trans h.os,b.tape.trans h.tape,b.output.trans h.output,Fx h.size b.size,λg f i k=>?_,λg ⟨j,d⟩=>h.pg g ⟨j,?_⟩⟩
 ·have e:r≠g:=Z;have:(W.setRow r a).heap[g]?=W.heap[g]?:=by simp [World.setRow,FD,e]
  rw [this];exact h.block g f i k
 have:(W.setRow r a).heap[Q]?=W.heap[Q]?:=by simp [World.setRow,FD,c]
 unfold World.cell? at d ⊢;rw [this] at d;exact d
theorem Sa.done (h:Sa w Q Rb A W) (b:Q<w.heap.size) (a:Array Value):Sf Q w (W.setRow Rb a) :=
 h.fr.newBlock (by have:=h.hR;omega) (by have:=h.hR;omega) a
theorem jn (T Q nn bud m) (a:Nat) (n) (z:Nat) (d ys w) (b:Sx T Q nn bud m w) (c:Dt Q w d n ys) (B:nn<=4096) (h2:n<=4096) (ha:a+n<18446744073709551616) (j:∀ i,i<n->isOpen (m ((a+i)/1024))=true) (f:∀ W,D w W->Calls prog 154 #[.pointer (some ⟨T,0,none⟩),.int .u64 a,.int .i64 n] W λe u=>e=.returned (.int .i64 0)/\u=W) :
  Calls prog 105 #[.pointer (some ⟨T,0,none⟩),.int .u64 a,.slice d n z] w λe u=>e=.returned (.agg #[.int .i64 0,.slice none 0 0])/\Sx T Q nn bud (ay m a ys n) u/\Sf Q w u:=by
 have N:=H f;have F:=H b;have O:=H j;have P:=H c;clear f b j c;go_enter func105,ntmps105;go_wp2_with fail;refine (N.out _ ((Fu _ _).alloc (Fv _) _)).mono ?_;rintro _ w1 ⟨rfl,rfl⟩;have b:D w ((w.alloc (.cells #[.int .i64 0,.slice none 0 0] 197)).alloc (.cells #[.int .i64 0,.slice none 0 0] 197)):=((Fu _ _).alloc (Fv _) _).alloc (by rw [aO];omega) _;have o:Hid (Sa w Q w.heap.size (w.heap.size+1) ((w.alloc (.cells #[.int .i64 0,.slice none 0 0] 197)).alloc (.cells #[.int .i64 0,.slice none 0 0] 197))) :=
  ⟨by rw [<-aO w];exact ao _ _,by rw [eg _ _ _ (by rw [aO];omega)];exact ao _ _,Sf.ofBelow b F.ltQ,rfl,rfl⟩
 have G:=H (F.below b);have R:=H F.ltQ;clear b;go_wp2;generalize (w.alloc (Obj.cells #[Value.int IntKind.i64 0,Value.slice none 0 0] 197)).alloc (Obj.cells #[Value.int IntKind.i64 0,Value.slice none 0 0] 197)=W0 at o G ⊢;generalize S:w.heap.size+1=A at o ⊢;generalize V:w.heap.size=Rb at o ⊢;go_loopw [8] (λi wr=>∃ k:Nat,k<=n/\i=.int .i64 k/\Hid (Sa w Q Rb A wr/\Sx T Q nn bud (ay m a ys k) wr)) (λi _=>n-(intOf i).toNat);case atStart=>exact ⟨0,FH _,rfl,o.out,G.out⟩
 case round =>
  obtain⟨k,hk,rfl,b⟩:=hrel;have K:wr.cell? ⟨A,0,none⟩=some (.int .i64 0):=by simp [World.cell?,b.1.at_]
  by_cases p:k<n
  ·obtain⟨x,rfl,X,_⟩:=(P.keep b.1.fr).cell k p;have j:isOpen (ay m a ys k ((a+k)/1024))=true:=(by rw [eO];exact O.out k p);cases v:ay m a ys k ((a+k)/1024) with
   | none=>rw [v] at j;cases j
   | some q =>
    obtain⟨l,xs⟩:=q;have Y:=H (ud T Q nn bud (ay m a ys k) (a+k) (ys[k]?.getD 0) wr b.2 B Z v);have HE:=H (show ay m a ys (k+1)=dT (ay m a ys k) ((a+k)/1024) (some (l,xs.set ((a+k)%1024) (ys[k]?.getD 0))) by simp only [ay,dZ,v];rfl);have m1:IntKind.u64.wrap (k:Int)=(k:Int):=(by rw [IntKind.wrap_u64];omega);have EC:=H (show (a:Int)+(k:Int)=((a+k:Nat):Int) by omega);clear v j;generalize ys[k]?.getD 0=y at *;go_wp2_with fail;rw [EC.out];refine (Y.out).mono ?_;rintro e w2 ⟨rfl,r,g,c,L,s,t⟩;have M:=H (IT (b.1.next b.2 L s t) r);clear r L s t b X K;go_wp2;go_roundw;(case rel=>exact ⟨k+1,Z,aY,M.1,by rw [HE.out];exact M.2⟩);case measure=>simp [intOf];omega
  have j:k=n:=Z;subst j;clear o G;go_wp2_with (first|(refine Gt rfl 197 _ rfl _ rfl _ _ _ _ b.1.at_ underlying197 rfl E ?_)|(refine eG b.1.res ?_));refine fM (aw b.1.res _) underlying197 ?_;exact⟨rfl,b.2.other (aj wr Rb _) (λc t f e=>by rw [b.1.res] at e;cases e;exact⟨ar,ar,ar⟩),b.1.done R.out _⟩
def ci (m:Nat->Option (Bool×List Int)) (a:Nat) (n:Int):Int :=
 if n<0\/4096<n then 6 else if n=0 then 0 else if 4611686018427387904<=(a:Int)+(n-1) then 2 else jk (dE m a n.toNat)
theorem nR (T Q nn bud m) (a:Nat) (n w) (g:Sx T Q nn bud m w) (b:nn<=4096) (ha:a<18446744073709551616) :
  Calls prog 154 #[J T 0,U a,I n] w λe i=>e=.returned (I (ci m a n))/\i=w:=by
 unfold ci;by_cases c:n<0\/4096<n;·rw [GP c];exact kP T a n w c
 rw [GO c];by_cases d:n=0;·rw [GP d];subst d;exact mJ T a w
 rw [GO d];by_cases f:4611686018427387904<=(a:Int)+(n-1);·rw [GP f];exact nf T a n w Z Z Z Z f
 rw [GO f];obtain⟨k,rfl⟩:=Ha (show 0<=n by omega);exact lI T Q nn bud m a k w g b Z Z Z
theorem ku {m a} : ∀ {n:Nat},dE m a n=true->∀ i,i<n->isOpen (m ((a+i)/1024))=true
 | 0,_,i,b=>by omega
 | n+1,h,i,b=>by
  simp only [dE,Gi] at h
  by_cases e:i=n
  ·subst e;exact h.2
  exact ku h.1 i Z
theorem ut {a n} (h:ci m a n=0):0<=n/\n<=4096/\(n=0\/(a:Int)+n<=4611686018427387904)/\∀ i,i<n.toNat->isOpen (m ((a+i)/1024))=true:=by
 unfold ci at h;split at h;·omega
 split at h;·rename_i c b;subst b;exact⟨Z,Z,.inl rfl,λi d=>by simp at d⟩
 split at h;·omega
 rename_i c b e;refine⟨Z,Z,.inr Z,ku ?_⟩;unfold jk at h;split at h;·assumption
 omega
theorem oI (T a n) (c:Int) (w) (f:(c==0)=false) (h:∀ W,D w W->Calls prog 154 #[J T 0,U a,I n] W λe b=>e=.returned (I c)/\b=W) :
  Calls prog 104 #[J T 0,U a,I n] w λe b=>e=.returned (.agg #[I c,C])/\D w b:=by
 have d:=H h;clear h;by_cases g:0<n
 all_goals
  go_enter func104,ntmps104
  go_wp2_with fail
  refine (d _ ((Fu _ _).alloc (Fv _) _)).mono ?_
  rintro _ i ⟨rfl,rfl⟩
  go_wp2_with fail
  refine Hc 1 ?_
  rw [Hu]
  go_wp2
  exact GX (v:=.agg #[I c,C]) (by simp [results,Tryz.results104,go_sem]) rfl ⟨rfl,((Fu _ w).alloc (Fv _) _).alloc bH _⟩
theorem nv (T a) (c:Int) (d:Option Addr) (b f:Nat) (w) (j:(c==0)=false) (h:∀ W,D w W->Calls prog 154 #[J T 0,U a,I b] W λe g=>e=.returned (I c)/\g=W) :
  Calls prog 105 #[J T 0,U a,.slice d b f] w λe g=>e=.returned (.agg #[I c,C])/\D w g:=by
 have i:=H h;clear h;by_cases k:0<b
 all_goals
  go_enter func105,ntmps105
  go_wp2_with fail
  refine (i _ ((Fu _ _).alloc (Fv _) _)).mono ?_
  rintro _ l ⟨rfl,rfl⟩
  go_wp2_with fail
  refine Hc 1 ?_
  rw [Hu]
  go_wp2
  exact GX (v:=.agg #[I c,C]) (by simp [results,Tryz.results105,go_sem]) rfl ⟨rfl,((Fu _ w).alloc (Fv _) _).alloc bH _⟩
theorem yY (T Q nn bud m) (a:Nat) (n w) (j:Sx T Q nn bud m w) (d:nn<=4096) (ha:a<18446744073709551616) (c:Int) (i:ci m a n=c) :
  Calls prog 104 #[J T 0,U a,I n] w λe f=>∃ v,e=.returned (.agg #[I c,v])/\f.ownsRow w.heap.size 5 1 v (if c=0 then n.toNat else 0) (Ns .u8 (if c=0 then aH m a n.toNat else []))/\D w f:=by
 have b:∀ W,D w W->Calls prog 154 #[J T 0,U a,I n] W λe f=>e=.returned (I c)/\f=W:=λW p=>by
  have:=nR T Q nn bud m a n W (j.below p) d ha;rw [i] at this;exact this
 by_cases g:c=0
 ·subst g;obtain⟨q,r,s,l⟩:=ut i;obtain⟨k,rfl⟩:=Ha q;simp only [IM,F0] at l ⊢;rcases Nat.eq_zero_or_pos k with o|o;·subst o;exact kr T Q nn bud m a 0 w j d Z Z (λi i=>Z) b
  exact kr T Q nn bud m a k w j d Z Z l b
 refine (oI T a n c w (by simp [g]) b).mono ?_;rintro e f ⟨rfl,l⟩;refine⟨_,rfl,?_,l⟩;rw [GO g,GO g];exact⟨rfl,.inl ⟨rfl,rfl⟩⟩
theorem qR (T Q nn bud m) (a:Nat) (len) (f:Nat) (d ys w) (j:Sx T Q nn bud m w) (n:Dt Q w d len ys) (g:nn<=4096) (ha:a<18446744073709551616) (c:Int) (i:ci m a (len:Int)=c) :
  Calls prog 105 #[J T 0,U a,.slice d len f] w λe k=>e=.returned (.agg #[I c,C])/\Sx T Q nn bud (if c=0 then ay m a ys len else m) k/\Sf Q w k:=by
 have b:∀ W,D w W->Calls prog 154 #[J T 0,U a,I len] W λe k=>e=.returned (I c)/\k=W:=λW q=>by
  have:=nR T Q nn bud m a len W (j.below q) g ha;rw [i] at this;exact this
 by_cases l:c=0
 ·subst l;obtain⟨r,s,t,o⟩:=ut i;simp only [IM,F0] at o ⊢;rcases Nat.eq_zero_or_pos len with p|p;·subst p;exact jn T Q nn bud m a 0 f d ys w j n g Z Z (λi i=>Z) b
  exact jn T Q nn bud m a len f d ys w j n g Z Z o b
 refine (nv T a c d len f w (by simp [l]) b).mono ?_;rintro e k ⟨rfl,o⟩;rw [GO l];exact⟨rfl,j.below o,Sf.ofBelow o j.ltQ⟩
end
end Go.Proofs.YtibblbenmpcplaaGreatDoor
