import Derived.Test.YtdfodlhkdmkfdaaGreatDoorN04
set_option linter.unusedVariables false
set_option linter.unusedSimpArgs false
set_option maxRecDepth 20000
set_option maxHeartbeats 8000000
namespace Go.Proofs.YtdfodlhkdmkfdaaGreatDoor
open Go.Proofs.Tryz
variable {P:Program} {md:Region.Mode} {ops:Array Oper} {A O Q Rb T c fuel g i k n r size:Nat} {listed:Array Bool} {a:Option Addr} {V W W' b w w':World} {v:Value} {xs:List Value} {e t:TypeId} {bud:Int} {m:Nat->Option (Bool×List Int)} {op:Array Value} {o:Obj} {S:Nat->Prop} {zs:List Int}
section
open Go.RowKit Go.Shelf
theorem dK {Q:Exit->Act->World->Prop} {a:Act} (b:Region.ready md ops listed=[r])
  (h:wpOp P ops Q r (wpAny P md ops Q fuel (listed.setIfInBounds r true)) a w):wpAny P md ops Q (fuel+1) listed a w :=
 wpAny_all b bh (λi b=>by
  obtain rfl:i=r:=by simpa using b
  exact h)
theorem eb {Q:Exit->Act->World->Prop} {d:Nat} {b:Oper} {a:Act} (f:ops[i]?=some b) (g:b.dst=some d)
  (j:Region.noSelect ops=true) (k:Region.free md ops listed i=true) (l:(Region.ready md ops listed).contains i=true)
  (m:∀ c a w,Q (.panic c) (a.put b.dst v) w->Q (.panic c) a w) (n:Yields P ops b v a)
  (h:wpAny P md ops Q fuel (listed.setIfInBounds i true) { a with tmps:=a.tmps.setIfInBounds d v } w):wpAny P md ops Q (fuel+1) listed a w :=
 wpAny_take f j k l m n (by
  have e:a.put b.dst v={ a with tmps:=a.tmps.setIfInBounds d v }:=by rw [g];rfl
  rw [e];exact h)
def aI (m:Nat->Option (Bool×List Int)) (a n:Nat):List Int:=(List.range n).map λi=>bN m (a+i)
theorem nB (m a) (k:Nat):aI m a (k+1)=aI m a k++[bN m (a+k)]:=by
 simp [aI,J7]
structure La (w:World) (Rb A:Nat) (v:Value) (k:Nat) (xs:List Value) (W:World):Prop where
 own:W.ownsRow (w.heap.size+2) 5 1 v k xs
 at_:W.heap[A]?=some (.cells #[I 0,v] 157)
 res:W.heap[Rb]?=some (.cells #[I 0,C] 157)
 bel:D w W
 big:w.heap.size+2<=W.heap.size
 hA:A=w.heap.size+1
 hR:Rb=w.heap.size
theorem La.next {w9:World} (h:La w Rb A v k xs W) (b:Value) (g cap) (j:w9.ownsRow (w.heap.size+2) 5 1 (Vl g (k+1) cap) (k+1) (xs++[b])) (a:((W.alloc (.cells #[b] 5)).drew).grownBy w9 v.ownBlock) :
  w9.cell? ⟨A,1,none⟩=some v/\w9.frozen? ⟨A,1,none⟩=false/\La w Rb A (Vl g (k+1) cap) (k+1) (xs++[b]) (w9.setCell ⟨A,1,none⟩ (Vl g (k+1) cap)):=by
 have c:A<W.heap.size:=by have:=h.hA;have:=h.big;omega
 have d:Rb<W.heap.size:=by have:=h.hR;have:=h.big;omega
 have m:v.ownBlock≠some A:=by
  intro e;have:=db h.own A e;have:=h.hA;omega
 have n:v.ownBlock≠some Rb:=by
  intro e;have:=db h.own Rb e;have:=h.hR;omega
 have sz:((W.alloc (.cells #[b] 5)).drew).heap.size=W.heap.size+1:=aA W _;have f:w9.heap[A]?=some (.cells #[I 0,v] 157):=by
  rw [a.block A (by rw [sz];omega) (KN m)];exact (dG W _ A c).trans h.at_
 have o:w9.heap[Rb]?=some (.cells #[I 0,C] 157):=by
  rw [a.block Rb (by rw [sz];omega) (KN n)];exact (dG W _ Rb d).trans h.res
 have i:g≠A:=by
  have:=db j g rfl;have:=h.hA;omega
 have p:D w w9:=by
  have l:D w (W.alloc (.cells #[b] 5)).drew:=(h.bel.alloc h.bel.size _).drew;exact l.grown a l.size (λr c=>by have:=db h.own r c;omega)
 refine⟨by simp [World.cell?,f],by simp [World.frozen?,f],?_⟩;refine⟨j.kept (au (ao w9 A) 1 _) (.inr (by simpa [Value.ownBlock] using i)),?_,?_,?_,?_,h.hA,h.hR⟩;·rw [aO f];rfl
 ·rw [t4 _ _ _ _ (by have:=h.hA;have:=h.hR;show Rb≠A;omega)];exact o
 ·exact p.setCell (by have:=h.hA;show w.heap.size<=A;omega) _
 have:w9.heap.size<=(w9.setCell ⟨A,1,none⟩ (Vl g (k+1) cap)).heap.size:=(au (ao w9 A) 1 _).size;have:=a.size;have:=h.big;rw [sz] at *;omega
theorem aw {v:World} {a:Array Value} (h:v.heap[g]?=some (.cells a t)) (b:Array Value):(v.setRow g b).heap[g]?=some (.cells b t):=by
 simp [World.setRow,Jw,h]
theorem ar (w:World) (g:Nat) (b:Array Value):w.grownBy (w.setRow g b) (some g) :=
 ⟨rfl,rfl,rfl,by simp [World.setRow],λk _ a=>by
  have:g≠k:=λe=>a (by rw [e])
  simp [World.setRow,Jw,this]⟩
theorem cv {b a:Nat} (h:w.ownsRow b e size v n xs) (f:a<=b):w.ownsRow a e size v n xs :=
 ⟨h.1,h.2.imp id λ⟨g,c,d,i,j,k⟩=>⟨g,c,d,i,Jp f j,k⟩⟩
theorem La.one (h:La w Rb A v k xs W):(#[Value.int IntKind.i64 0,v].all λx=>x.oneCell')=true:=by
 rcases h.own.2 with ⟨rfl,_⟩|⟨g,a,b,rfl,_⟩ <;> simp [Value.oneCell']
theorem La.done (h:La w Rb A v k xs W):(W.setRow Rb #[Value.int IntKind.i64 0,v]).ownsRow w.heap.size 5 1 v k xs/\D w (W.setRow Rb #[Value.int IntKind.i64 0,v]):=by
 have a:=ar W Rb #[Value.int IntKind.i64 0,v];refine⟨cv (h.own.kept a ?_) Z,h.bel.grown a h.bel.size (λr a=>by have:=h.hR;simp at a;omega)⟩;right;intro e;have:=db h.own Rb e;have:=h.hR;omega
theorem lC (T Q nn bud m) (a n:Nat) (w) (c:Sx T Q nn bud m w) (a1:nn<=4096) (h2:n<=4096) (ha:a+n<18446744073709551616) (f:∀ i,i<n->isOpen (m ((a+i)/1024))=true) (t:∀ W,D w W->Calls prog 149 #[J T 0,U a,I n] W λe w'=>e=.returned (I 0)/\w'=W) :
  Calls prog 97 #[J T 0,U a,I n] w λe w'=>∃ v,e=.returned (.agg #[I 0,v])/\w'.ownsRow w.heap.size 5 1 v n (Ns .u8 (aI m a n))/\D w w':=by
 obtain⟨i0,B,F,G,K⟩:=zr Tryz.info5By;have H1:=H t;have HS:=H c;have HO:=H f;clear t c f;go_enter func97,ntmps97;go_wp2_with fail;refine (H1.out _ ((Jn _ _).alloc (Jo _) _)).mono ?_;rintro _ w1 ⟨rfl,rfl⟩;have V:Hid (La w w.heap.size (w.heap.size+1) (C) 0 [] ((w.alloc (.cells #[I 0,C] 157)).alloc (.cells #[I 0,C] 157))) :=
  ⟨⟨rfl,.inl ⟨rfl,rfl⟩⟩,by rw [<-aA w];exact av _ _,by rw [dG _ _ _ (by rw [aA];omega)];exact av _ _,((Jn _ _).alloc (Jo _) _).alloc (by rw [aA];omega) _,by rw [aA,aA];omega,rfl,rfl⟩
 go_wp2;generalize (w.alloc (Obj.cells #[Value.int IntKind.i64 0,Value.slice none 0 0] 157)).alloc (Obj.cells #[Value.int IntKind.i64 0,Value.slice none 0 0] 157)=W0 at V ⊢;generalize a3:w.heap.size+1=A at V ⊢;generalize a4:w.heap.size=Rb at V ⊢;go_loopw [8] (λi wr=>∃ k:Nat,k<=n/\i=I k/\Hid (∃ v,La w Rb A v k (Ns .u8 (aI m a k)) wr)) (λi _=>n-(intOf i).toNat);case atStart=>exact ⟨0,Jt _,rfl,_,V.out⟩
 case round =>
  obtain⟨k,hk,rfl,x⟩:=hrel;obtain⟨v,p⟩:=x.out;clear x;have a5:wr.cell? ⟨A,0,none⟩=some (I 0):=by simp [World.cell?,p.at_]
  have L:wr.cell? ⟨A,1,none⟩=some v:=by simp [World.cell?,p.at_]
  by_cases a2:k<n
  ·have fA:wr.frozen? ⟨A,1,none⟩=false:=(by simp [World.frozen?,p.at_]);have HG:=H (lY T Q nn bud m (a+k) wr.drew (HS.below p.bel).drew a1 Z (HO.out k a2));have X:=H (λb g o M c h2=>p.next (w9:=M) (.int .u8 b) g o c h2);have HE:=H (nB m a k);have c:=H (λb=>(p.own.alloc (.cells #[.int .u8 b] 5)).drew);have f:=H (λ(b:Int)=>fK wr (.int .u8 b) 5 wr.heap.size rfl);have j:=H (show ∀ b:Int,w.heap.size+2<=((wr.alloc (.cells #[.int .u8 b] 5)).drew).heap.size from λb=>by
    have:=p.big;have e:((wr.alloc (.cells #[.int .u8 b] 5)).drew).heap.size=wr.heap.size+1:=aA wr _;omega)
   generalize bN m (a+k)=b at *;have X:=H (X.out b);have N:=H (c.out b);have O:=H (f.out b);have P:=H (j.out b);have R:(wr.alloc (.cells #[.int .u8 b] 5)).cell? ⟨A,1,none⟩=some v:=by
    have l:A<wr.heap.size:=(by have:=p.hA;have:=p.big;omega);have e:=(dG wr (.cells #[.int .u8 b] 5) A l).trans p.at_;simp [World.cell?,e]
   have m1:IntKind.u64.wrap (k:Int)=(k:Int):=(by rw [IntKind.wrap_u64];omega);have m2:IntKind.u64.wrap ((a:Int)+(k:Int))=((a+k:Nat):Int):=(by rw [IntKind.wrap_u64];omega);clear p c f j V;go_wp2;refine wp_region_any E ?_;simp only [JJ,JD,JO,Nat.reduceAdd,JI,JH,JM,JF,JP];refine eb (i:=0) (d:=24) (v:=J A 1) rfl E E E E (λ_ _ _ h=>h) (Or.inl ⟨E,λ_=>E⟩) ?_;simp only [lz,l0,ls];refine eb (i:=2) (d:=26) (v:=J T 0) rfl E E E E (λ_ _ _ h=>h) (Or.inl ⟨E,λ_=>E⟩) ?_;simp only [lz,l0,ls];refine eb (i:=3) (d:=27) (v:=U (a:Int)) rfl E E E E (λ_ _ _ h=>h) (Or.inl ⟨E,λ_=>E⟩) ?_;simp only [lz,l0,ls];refine eb (i:=4) (d:=28) (v:=I (k:Int)) rfl E E E E (λ_ _ _ h=>h) (Or.inl ⟨E,λ_=>E⟩) ?_;simp only [lz,l0,ls];refine eb (i:=5) (d:=29) (v:=U (k:Int)) rfl E E E E (λ_ _ _ h=>h) (Or.inl ⟨E,λW=>by first|(go_simp;done)|(go_simp;omega)⟩) ?_;simp only [lz,l0,ls];refine eb (i:=6) (d:=30) (v:=U ((a+k:Nat):Int)) rfl E E E E (λ_ _ _ h=>h) (Or.inl ⟨E,λW=>by first|(go_simp;done)|(go_simp;omega)⟩) ?_;simp only [lz,l0,ls];refine wpAny_all (rs:=[1,7]) E bh (λi Y=>?_);have S:i=1\/i=7:=(by simpa using Y);clear Y;rcases S with rfl|rfl
   ·skip
    refine cS λK' c=>?_;go_simp;refine c.out _ _ ?_;clear c K';refine dK (r:=7) E ?_;refine cS λK' c=>?_;go_simp;refine (HG.out).mono ?_;rintro e w' ⟨rfl,rfl⟩;refine c.out _ _ ?_;clear c K';refine dK (r:=8) E ?_;refine cS λK' c=>?_;go_simp;refine c.out _ _ ?_;clear c K';refine dK (r:=9) E ?_;refine cS λK' c=>?_;refine wp_append_lies _ (.tmp 25) (.tmp 32) 52 rfl (w.heap.size+2) 5 i0 (.int .u8 0) 1 1 underlying52 B F G K rfl Z v k _ dC N.out ⟨wr.heap.size,0,none⟩ 1 1 [.int .u8 b] dC rfl O.out ?h1c Z ?b1 ?b2 ?b3 _ rfl ?_
    (case h1c=>intro u y;simp at y;subst y;rfl);(case b1=>unfold maxLen;omega);(case b2=>omega);(case b3=>exact P.out);intro g o M f j q s;have l:=H (X.out g o M f j);obtain⟨z,a0,_⟩:=l.out;clear f j q s L fA R;refine c.out _ _ ?_;clear c K';simp only [Act.put,Js,Jy,Jz];refine eb (i:=10) (d:=34) (v:=J A 1) rfl E E E E (λ_ _ _ h=>h) (Or.inl ⟨E,λ_=>E⟩) ?_;refine dK (r:=11) E ?_;refine cS λK' c=>?_;go_simp;refine c.out _ _ ?_;clear c K';refine wpAny_done E ?_ _;go_wp2;go_roundw
    (case rel=>exact ⟨k+1,Z,aR,_,by rw [HE.out];simpa [Ns] using l.2.2⟩);case measure=>simp [intOf];omega
   skip
   refine cS λK' c=>?_;go_simp;refine (HG.out).mono ?_;rintro e w' ⟨rfl,rfl⟩;refine c.out _ _ ?_;clear c K';refine wpAny_all (rs:=[1,8]) E bh (λi Y=>?_);have S:i=1\/i=8:=(by simpa using Y);clear Y
   rcases S with rfl|rfl
   ·skip
    refine cS λK' c=>?_;go_simp;refine c.out _ _ ?_;clear c K';refine dK (r:=8) E ?_;refine cS λK' c=>?_;go_simp;refine c.out _ _ ?_;clear c K';refine dK (r:=9) E ?_;refine cS λK' c=>?_;refine wp_append_lies _ (.tmp 25) (.tmp 32) 52 rfl (w.heap.size+2) 5 i0 (.int .u8 0) 1 1 underlying52 B F G K rfl Z v k _ dC N.out ⟨wr.heap.size,0,none⟩ 1 1 [.int .u8 b] dC rfl O.out ?h1c Z ?b1 ?b2 ?b3 _ rfl ?_
    (case h1c=>intro u y;simp at y;subst y;rfl);(case b1=>unfold maxLen;omega);(case b2=>omega);(case b3=>exact P.out);intro g o M f j q s;have l:=H (X.out g o M f j);obtain⟨z,a0,_⟩:=l.out;clear f j q s L fA R;refine c.out _ _ ?_;clear c K';simp only [Act.put,Js,Jy,Jz];refine eb (i:=10) (d:=34) (v:=J A 1) rfl E E E E (λ_ _ _ h=>h) (Or.inl ⟨E,λ_=>E⟩) ?_;refine dK (r:=11) E ?_;refine cS λK' c=>?_;go_simp;refine c.out _ _ ?_;clear c K';refine wpAny_done E ?_ _;go_wp2;go_roundw
    (case rel=>exact ⟨k+1,Z,aR,_,by rw [HE.out];simpa [Ns] using l.2.2⟩);case measure=>simp [intOf];omega
   skip
   refine cS λK' c=>?_;go_simp;refine c.out _ _ ?_;clear c K';refine dK (r:=1) E ?_;refine cS λK' c=>?_;go_simp;refine c.out _ _ ?_;clear c K';refine dK (r:=9) E ?_;refine cS λK' c=>?_;refine wp_append_lies _ (.tmp 25) (.tmp 32) 52 rfl (w.heap.size+2) 5 i0 (.int .u8 0) 1 1 underlying52 B F G K rfl Z v k _ dC N.out ⟨wr.heap.size,0,none⟩ 1 1 [.int .u8 b] dC rfl O.out ?h1c Z ?b1 ?b2 ?b3 _ rfl ?_
   (case h1c=>intro u y;simp at y;subst y;rfl);(case b1=>unfold maxLen;omega);(case b2=>omega);(case b3=>exact P.out);intro g o M f j q s;have l:=H (X.out g o M f j);obtain⟨z,a0,_⟩:=l.out;clear f j q s L fA R;refine c.out _ _ ?_;clear c K';simp only [Act.put,Js,Jy,Jz];refine eb (i:=10) (d:=34) (v:=J A 1) rfl E E E E (λ_ _ _ h=>h) (Or.inl ⟨E,λ_=>E⟩) ?_;refine dK (r:=11) E ?_;refine cS λK' c=>?_;go_simp;refine c.out _ _ ?_;clear c K';refine wpAny_done E ?_ _;go_wp2;go_roundw
   (case rel=>exact ⟨k+1,Z,aR,_,by rw [HE.out];simpa [Ns] using l.2.2⟩);case measure=>simp [intOf];omega
  have c:k=n:=Z;subst c;have x:=H p;clear p V;go_wp2_with (first|(refine J0 rfl 157 _ rfl _ rfl _ _ _ _ x.at_ underlying157 rfl E ?_)|(refine JX rfl 157 _ _ rfl _ _ rfl rfl 157 _ x.res E rfl ?o1 ?_));case o1=>exact x.one
  refine gH (aw x.res _) underlying157 ?_;exact⟨v,rfl,x.done⟩
def eu (m:Nat->Option (Bool×List Int)) (p:Nat) (x:Int):Nat->Option (Bool×List Int):=dY m (p/1024) ((m (p/1024)).map λq=>(q.1,q.2.set (p%1024) x))
def ax (m:Nat->Option (Bool×List Int)) (a:Nat) (ys:List Int):Nat->(Nat->Option (Bool×List Int))
 | 0=>m
 | k+1=>eu (ax m a ys k) (a+k) (ys[k]?.getD 0)
theorem xw (m p x) (j:Nat):isOpen (eu m p x j)=isOpen (m j):=by
 unfold eu;by_cases e:j=p/1024
 ·subst e;rw [bZ];cases m (p/1024) with
  | none=>rfl
  | some q=>rfl
 rw [aW _ _ _ _ e]
theorem fh (m a ys):∀ k j,isOpen (ax m a ys k j)=isOpen (m j)
 | 0,j=>rfl
 | k+1,j=>by simp only [ax];rw [xw];exact fh m a ys k j
structure Dt (Q:Nat) (w:World) (d:Option Addr) (len:Nat) (ys:List Int):Prop where
 hlen:ys.length=len
 cell:∀ i,i<len->∃ x,d=some x/\w.cell? (x.add i)=some (.int .u8 (ys[i]?.getD 0))/\(x.add i).block<w.heap.size/\(x.add i).block≠Q/\¬fm Q w (x.add i).block
theorem Dt.keep {d len ys} (h:Dt Q w d len ys) (a:Sf Q w w'):Dt Q w' d len ys:=by
 refine⟨h.hlen,λi j=>?_⟩;obtain⟨x,k,b,c,e,f⟩:=h.cell i j;refine⟨x,k,?_,Ju c a.size,e,λl=>?_⟩;·unfold World.cell? at b ⊢;rw [a.block _ c e f];exact b
 rcases a.pg _ l with g|g;·exact f g
 omega
theorem Sf.ofPut (i:Sx T Q n bud m w) {c:Array Value} (d:w.heap[g]?=some (.cells c 5)) (l:w.cell? ⟨Q,k*3+2,none⟩=some (Vl g 1024 1024)) (h:w.grownBy w' (some g)):Sf Q w w':=by
 obtain⟨r,f,_⟩:=i.row;have a:Q≠g:=by
  intro e;subst e;rw [f] at d;simp at d
 have o:w'.heap[Q]?=w.heap[Q]?:=h.block Q (ah f) (by simpa using a);refine⟨h.os,h.tape,h.output,h.size,λx p _ q=>h.block x p (λe=>q ⟨k,by rw [l];simp at e;rw [e]⟩),λx ⟨j,b⟩=>.inl ⟨j,?_⟩⟩;unfold World.cell? at b ⊢;rw [o] at b;exact b
structure Sa (w:World) (Q Rb A:Nat) (W:World):Prop where
 at_:W.heap[A]?=some (.cells #[I 0,C] 157)
 res:W.heap[Rb]?=some (.cells #[I 0,C] 157)
 fr:Sf Q w W
 hA:A=w.heap.size+1
 hR:Rb=w.heap.size
theorem Sa.next (h:Sa w Q Rb A W) (d:Sx T Q n bud m W) {c:Array Value} (a:W.heap[g]?=some (.cells c 5)) (f:W.cell? ⟨Q,k*3+2,none⟩=some (Vl g 1024 1024)) (b:W.grownBy W' (some g)):Sa w Q Rb A W':=by
 have i:A≠g:=by intro e;subst e;rw [h.at_] at a;simp at a
 have j:Rb≠g:=by intro e;subst e;rw [h.res] at a;simp at a
 exact⟨(b.block A (ah h.at_) (by simpa using i)).trans h.at_,(b.block Rb (ah h.res) (by simpa using j)).trans h.res,h.fr.trans (Sf.ofPut d a f b),h.hA,h.hR⟩
theorem Sx.other (h:Sx T Q n bud m W) (w:W.grownBy W' (some r)) (x:∀ c t f,W.heap[r]?=some (.cells c t f)->t≠162/\t≠164/\t≠5):Sx T Q n bud m W':=by
 have a:∀ (g:Nat) (c:Array Value) (t:TypeId) (f:Nat×Nat),W.heap[g]?=some (.cells c t f)->(t=162\/t=164\/t=5)->W'.heap[g]?=W.heap[g]?:=by
  intro g c t f b i;refine w.block g (ah b) ?_;intro e;simp at e;subst e;obtain⟨j,o,p⟩:=x c t f b;rcases i with e|e|e;·exact j e
  ·exact o e
  exact p e
 obtain⟨c,s,y,i,b⟩:=h.row;refine⟨(a _ _ _ _ h.box (.inl rfl)).trans h.box,⟨c,(a _ _ _ _ s (.inr (.inl rfl))).trans s,y,λk z=>?_,b⟩,h.out⟩;have d:=i k z;cases u:m k with
 | none=>rw [u] at d;exact d
 | some q =>
  obtain⟨l,xs⟩:=q;rw [u] at d;obtain⟨j,o,A,g,p,v⟩:=d;exact⟨j,o,A,g,p,(a _ _ _ _ v (.inr (.inr rfl))).trans v⟩
theorem Sf.newBlock (h:Sf Q w W) (l:w.heap.size<=r) (c:r≠Q) (a:Array Value):Sf Q w (W.setRow r a):=by
 have b:=ar W r a;refine⟨b.os.trans h.os,b.tape.trans h.tape,b.output.trans h.output,Jp h.size b.size,λg f i k=>?_,λg ⟨j,d⟩=>h.pg g ⟨j,?_⟩⟩
 ·have e:r≠g:=Z;have:(W.setRow r a).heap[g]?=W.heap[g]?:=by simp [World.setRow,Jw,e]
  rw [this];exact h.block g f i k
 have:(W.setRow r a).heap[Q]?=W.heap[Q]?:=by simp [World.setRow,Jw,c]
 unfold World.cell? at d ⊢;rw [this] at d;exact d
theorem Sa.done (h:Sa w Q Rb A W) (b:Q<w.heap.size) (a:Array Value):Sf Q w (W.setRow Rb a) :=
 h.fr.newBlock (by have:=h.hR;omega) (by have:=h.hR;omega) a
theorem jH (T Q nn bud m) (a:Nat) (n) (z:Nat) (d ys w) (b:Sx T Q nn bud m w) (j:Dt Q w d n ys) (B:nn<=4096) (h2:n<=4096) (ha:a+n<18446744073709551616) (l:∀ i,i<n->isOpen (m ((a+i)/1024))=true) (f:∀ W,D w W->Calls prog 149 #[.pointer (some ⟨T,0,none⟩),.int .u64 a,.int .i64 n] W λe w'=>e=.returned (.int .i64 0)/\w'=W) :
  Calls prog 98 #[.pointer (some ⟨T,0,none⟩),.int .u64 a,.slice d n z] w λe w'=>e=.returned (.agg #[.int .i64 0,.slice none 0 0])/\Sx T Q nn bud (ax m a ys n) w'/\Sf Q w w':=by
 have N:=H f;have F:=H b;have O:=H l;have P:=H j;clear f b l j;go_enter func98,ntmps98;go_wp2_with fail;refine (N.out _ ((Jn _ _).alloc (Jo _) _)).mono ?_;rintro _ w1 ⟨rfl,rfl⟩;have b:D w ((w.alloc (.cells #[.int .i64 0,.slice none 0 0] 157)).alloc (.cells #[.int .i64 0,.slice none 0 0] 157)):=((Jn _ _).alloc (Jo _) _).alloc (by rw [aA];omega) _;have o:Hid (Sa w Q w.heap.size (w.heap.size+1) ((w.alloc (.cells #[.int .i64 0,.slice none 0 0] 157)).alloc (.cells #[.int .i64 0,.slice none 0 0] 157))) :=
  ⟨by rw [<-aA w];exact av _ _,by rw [dG _ _ _ (by rw [aA];omega)];exact av _ _,Sf.ofBelow b F.ltQ,rfl,rfl⟩
 have G:=H (F.below b);have R:=H F.ltQ;clear b;go_wp2;generalize (w.alloc (Obj.cells #[Value.int IntKind.i64 0,Value.slice none 0 0] 157)).alloc (Obj.cells #[Value.int IntKind.i64 0,Value.slice none 0 0] 157)=W0 at o G ⊢;generalize S:w.heap.size+1=A at o ⊢;generalize V:w.heap.size=Rb at o ⊢;go_loopw [8] (λi wr=>∃ k:Nat,k<=n/\i=.int .i64 k/\Hid (Sa w Q Rb A wr/\Sx T Q nn bud (ax m a ys k) wr)) (λi _=>n-(intOf i).toNat);case atStart=>exact ⟨0,Jt _,rfl,o.out,G.out⟩
 case round =>
  obtain⟨k,hk,rfl,b⟩:=hrel;have K:wr.cell? ⟨A,0,none⟩=some (.int .i64 0):=by simp [World.cell?,b.1.at_]
  by_cases p:k<n
  ·obtain⟨x,rfl,X,_⟩:=(P.keep b.1.fr).cell k p;have j:isOpen (ax m a ys k ((a+k)/1024))=true:=(by rw [fh];exact O.out k p);cases v:ax m a ys k ((a+k)/1024) with
   | none=>rw [v] at j;cases j
   | some q =>
    obtain⟨l,xs⟩:=q;have Y:=H (vT T Q nn bud (ax m a ys k) (a+k) (ys[k]?.getD 0) wr b.2 B Z v);have HE:=H (show ax m a ys (k+1)=dY (ax m a ys k) ((a+k)/1024) (some (l,xs.set ((a+k)%1024) (ys[k]?.getD 0))) by simp only [ax,eu,v];rfl);have m1:IntKind.u64.wrap (k:Int)=(k:Int):=(by rw [IntKind.wrap_u64];omega);have EC:=H (show (a:Int)+(k:Int)=((a+k:Nat):Int) by omega);clear v j;generalize ys[k]?.getD 0=y at *;go_wp2_with fail;rw [EC.out];refine (Y.out).mono ?_;rintro e w2 ⟨rfl,r,g,c,L,s,u⟩;have M:=H (LG (b.1.next b.2 L s u) r);clear r L s u b X K;go_wp2;go_roundw;(case rel=>exact ⟨k+1,Z,aR,M.1,by rw [HE.out];exact M.2⟩);case measure=>simp [intOf];omega
  have j:k=n:=Z;subst j;clear o G;go_wp2_with (first|(refine J0 rfl 157 _ rfl _ rfl _ _ _ _ b.1.at_ underlying157 rfl E ?_)|(refine fG b.1.res ?_));refine gH (aw b.1.res _) underlying157 ?_;exact⟨rfl,b.2.other (ar wr Rb _) (λc t f e=>by rw [b.1.res] at e;cases e;exact⟨al,al,al⟩),b.1.done R.out _⟩
def kN (k p c:Int) (a:Nat) (n:Int) (d:Option Addr) (i dc:Nat):Value:=.agg #[I k,I p,I c,U a,I n,.slice d i dc]
structure Dw (w:World) (op:Array Value) (Q O Rb:Nat) (V:World):Prop where
 o:V.heap[O]?=some (.cells op 202)
 r:V.heap[Rb]?=some (.cells #[I 0,C] 157)
 fr:Sf Q w V
 big:w.heap.size+2<=V.heap.size
 hO:O=w.heap.size
 hR:Rb=w.heap.size+1
theorem Dw.first (w:World) (op) (Q:Nat) (a:Q<w.heap.size):Dw w op Q w.heap.size (w.heap.size+1) ((w.alloc (.cells op 202)).alloc (.cells #[I 0,C] 157)) :=
 ⟨by rw [dG _ _ _ (by rw [aA];omega)];exact av _ _,by rw [<-aA w (.cells op 202)];exact av _ _,
 Sf.ofBelow (((Jn _ _).alloc (Jo _) _).alloc (by rw [aA];omega) _) a,by rw [aA,aA];omega,rfl,rfl⟩
theorem Dw.below {V'} (h:Dw w op Q O Rb V) (b:Q<V.heap.size) (a:D V V'):Dw w op Q O Rb V' :=
 ⟨by rw [a.block _ (ah h.o)];exact h.o,by rw [a.block _ (ah h.r)];exact h.r,h.fr.trans (Sf.ofBelow a b),Jp h.big a.size,h.hO,h.hR⟩
theorem Dw.done (h:Dw w op Q O Rb V) (b:Q<w.heap.size) (a:Array Value):Sf Q w (V.setRow Rb a) :=
 h.fr.newBlock (by have:=h.hR;omega) (by have:=h.hR;omega) a
theorem Dw.kind {V'} (h:Dw w op Q O Rb V) (r:Sx T Q n bud m V) (d:Sf Q V V'):Dw w op Q O Rb V':=by
 have s:∀ g c t f,V.heap[g]?=some (Obj.cells c t f)->t≠5->¬fm Q V g:=by
  rintro g c t f i j ⟨k,x⟩;obtain⟨u,b,A,y,_⟩:=r.row;have a:u[k*3+2]?=some (Vl g 1024 1024):=by simpa [World.cell?,b] using x
  have o:k<n:=by
   by_cases e:k<n;·exact e
   rw [BC Z] at a;cases a
  have e:=y k o;cases v:m k with
  | none=>rw [v] at e;rw [e.2.2] at a;simp at a
  | some q =>
   obtain⟨l,xs⟩:=q;rw [v] at e;obtain⟨_,_,_,B,z,p⟩:=e;rw [z] at a;simp at a;subst a;rw [i] at p;simp at p;exact j p.2.1
 have a:∀ g c t f,V.heap[g]?=some (Obj.cells c t f)->t≠164->g≠Q:=by
  rintro g c t f i j rfl;obtain⟨u,b,_⟩:=r.row;rw [i] at b;simp at b;exact j b.2.1
 exact⟨(d.block O (ah h.o) (a _ _ _ _ h.o al) (s _ _ _ _ h.o al)).trans h.o,(d.block Rb (ah h.r) (a _ _ _ _ h.r al) (s _ _ _ _ h.r al)).trans h.r,h.fr.trans d,Jp h.big d.size,h.hO,h.hR⟩
theorem Bn {a:Nat} (h:W.ownsRow a 5 1 v k xs) (c:Int):(#[Value.int IntKind.i64 c,v].all λx=>x.oneCell')=true:=by
 rcases h.2 with ⟨rfl,_⟩|⟨g,b,d,rfl,_⟩ <;> simp [Value.oneCell']
def DN (i:Nat) (p c:Int):Prop:=1<=c/\0<=p/\c<=i/\p<=(i:Int)-c
theorem Sf.ofRow (a:Below 0 W W') (c:∀ g,g≠Q->W'.heap[g]?=W.heap[g]?) (d:∀ j g,W'.cell? ⟨Q,j*3+2,none⟩=some (Vl g 1024 1024)->W.cell? ⟨Q,j*3+2,none⟩=some (Vl g 1024 1024)):Sf Q W W' :=
 ⟨a.os,a.tape,a.output,a.size,λg _ b _=>c g b,λg ⟨j,e⟩=>.inl ⟨j,d j g e⟩⟩
theorem Sx.drop1 (h:Sx T Q n bud m W) (k:Nat) (f:k<n) :
  Sx T Q n bud (dY m k none) (((W.setCell ⟨Q,k*3,none⟩ (.bool false)).setCell ⟨Q,k*3+1,none⟩ (.bool false)).setCell ⟨Q,k*3+2,none⟩ (C)) /\
  Sf Q W (((W.setCell ⟨Q,k*3,none⟩ (.bool false)).setCell ⟨Q,k*3+1,none⟩ (.bool false)).setCell ⟨Q,k*3+2,none⟩ (C)):=by
 refine⟨h.set3 k f none _ _ _ (λg j _ _ _=>bh) (λc W' a b d _=>⟨a,b,d⟩),?_⟩;refine Sf.ofRow ((((Jn 0 W).setCell (Jt _) _).setCell (Jt _) _).setCell (Jt _) _) (λg b=>?_) (λj g a=>?_);·rw [t4 _ _ _ _ b,t4 _ _ _ _ b,t4 _ _ _ _ b]
 obtain⟨c,d,_⟩:=h.row;have l:=aO (aO (aO d (i:=k*3) (.bool false)) (i:=k*3+1) (.bool false)) (i:=k*3+2) (C);simp only [World.cell?,l] at a;simp only [World.cell?,d];by_cases e:j=k;·subst e;rw [JC] at a;simp at a
 have q:(((c.setIfInBounds (k*3) (.bool false)).setIfInBounds (k*3+1) (.bool false)).setIfInBounds (k*3+2) (C))[j*3+2]?=c[j*3+2]?:=by
  rw [JC,tg Z,JC,tg Z,JC,tg Z]
 rw [q] at a;exact a
theorem sd (T Q n bud m) (first a:Nat) (w) (h:Sx T Q n bud m w) (t:n<=4096) (u:first+a<=n) :
  Calls prog 148 #[J T 0,I first,I a] w λe w'=>e=.returned (.tuple #[])/\Sx T Q n bud (bQ m first a) w'/\Sf Q w w':=by
 obtain⟨j,o⟩:=h.c;have q:=H h;clear h;go_enter func148,ntmps148;go_wp2;go_loopw [6] (λi wr=>∃ k:Nat,k<=a/\i=I ((first:Int)+(k:Int))/\Sx T Q n bud (bQ m first k) wr/\Sf Q w wr) (λi _=>first+a-(intOf i).toNat);case atStart=>exact ⟨0,Jt _,aR,q.out,Sf.refl Q w⟩
 case round =>
  obtain⟨k,v,rfl,b,f⟩:=hrel;by_cases r:k<a
  ·obtain⟨j,o⟩:=b.c;obtain⟨op,p,l,c,x,y,z,_⟩:=b.three (first+k) Z;obtain⟨A,g,s,_⟩:=b.row;have f1:∀ i,wr.frozen? ⟨Q,i,none⟩=false:=λi=>by simp [World.frozen?,g]
   have f2:=f1 ((first+k)*3);have f3:=f1 ((first+k)*3+1);have f4:=f1 ((first+k)*3+2);have d:=H (LG (b.drop1 (first+k) Z) f);clear b f f1 g s;go_wp2;go_roundw;(case rel=>exact ⟨k+1,Z,aR,d.1.1,d.2.trans d.1.2⟩);case measure=>simp [intOf];omega
  have g:k=a:=Z;subst g;have d:=H (LG b f);clear b f;go_wp2;go_end0;exact⟨rfl,d.out⟩
theorem Tryz.info92:(prog.info? 164).map (λi=>(i.zero,i.size,i.bytes))=some (some (.agg #[.bool false,.bool false,C]),3,32):=E
theorem lU (z:Array Value) (n i:Nat) (a:i<n):(madeCells z n)[i]?=some (z[i%z.size]!):=by
 simp [madeCells,a]
theorem Sx.made (w:World) (n bud):Sx (w.heap.size+1) w.heap.size n bud (λ_=>none) ((w.alloc (.cells (madeCells #[.bool false,.bool false,C] (n*3)) 164)).alloc (.cells #[Vl w.heap.size n n,I bud] 162)):=by
 refine⟨by rw [<-aA w (.cells (madeCells #[.bool false,.bool false,C] (n*3)) 164)];exact av _ _,⟨_,by rw [dG _ _ _ (by rw [aA];omega)];exact av _ _,size_madeCells _ _,λk d=>?_,λj k g f d b _=>?_⟩,λ_ _=>rfl⟩
 ·have c:k*3%3=0:=Z;have e:(k*3+1)%3=1:=Z;have a:(k*3+2)%3=2:=Z;refine⟨?_,?_,?_⟩;·rw [lU _ _ _ Z];show some ((#[Value.bool false,.bool false,C]:Array Value)[k*3%3]!)=_;rw [c];rfl
  ·rw [lU _ _ _ Z];show some ((#[Value.bool false,.bool false,C]:Array Value)[(k*3+1)%3]!)=_;rw [e];rfl
  rw [lU _ _ _ Z];show some ((#[Value.bool false,.bool false,C]:Array Value)[(k*3+2)%3]!)=_;rw [a];rfl
 have a:(j*3+2)%3=2:=Z;rw [lU _ _ _ Z] at b;have c:some ((#[Value.bool false,.bool false,C]:Array Value)[(j*3+2)%3]!)=some (Value.slice (some ⟨g,0,none⟩) 1024 1024):=b;rw [a] at c;cases c
theorem EP (n:Nat) (bud) (w:World) (k:n<=4096) :
  Calls prog 86 #[I n,I bud] w λe w'=>∃ T Q,e=.returned (J T 0)/\Sx T Q n bud (λ_=>none) w'/\D w w'/\w.heap.size<=T/\w.heap.size<=Q:=by
 obtain⟨d,f,a,b,c⟩:=zr Tryz.info92;have g:(Instr.makeSlice 160 (I n) (I n)).run prog w=.ok (Vl w.heap.size n n) (w.alloc (.cells (madeCells #[.bool false,.bool false,C] (n*3)) 164)):=by
  have:=run_make (P:=prog) w 160 164 d _ underlying160 f a .i64 .i64 n n Z (Int.le_refl _) (by rw [c];omega) Z;rw [b] at this;simpa [Value.cells] using this
 have i:=H (Sx.made w n bud);have j:Hid (D w ((w.alloc (.cells (madeCells #[.bool false,.bool false,C] (n*3)) 164)).alloc (.cells #[Vl w.heap.size n n,I bud] 162))):=H (((Jn _ _).alloc (Jo _) _).alloc (by rw [aA];omega) _);generalize madeCells #[.bool false,.bool false,C] (n*3)=l at *;go_enter func86,ntmps86;go_wp2;go_ret;exact⟨_,_,rfl,i.out,j.out,Z,Z⟩
theorem Sx.pgT (f:Sx T Q n bud m W) (i:fm Q W g):∃ c,W.heap[g]?=some (.cells c 5):=by
 obtain⟨k,j⟩:=i;obtain⟨o,p,u,r,_⟩:=f.row;have a:o[k*3+2]?=some (Vl g 1024 1024):=by simpa [World.cell?,p] using j
 have d:k<n:=by
  by_cases b:k<n;·exact b
  rw [BC Z] at a;cases a
 have b:=r k d;cases e:m k with
 | none=>rw [e] at b;rw [b.2.2] at a;simp at a
 | some q =>
  obtain⟨l,xs⟩:=q;rw [e] at b;obtain⟨_,_,_,v,s,t⟩:=b;rw [s] at a;simp at a;subst a;exact⟨_,t⟩
theorem ze {a:Nat} (h:W.ownsRow a e size v n xs) (j:∀ (g:Nat) (c:Array Value),v.ownBlock=some g->W.heap[g]?=some (.cells c e)->W'.heap[g]?=W.heap[g]?):W'.ownsRow a e size v n xs:=by
 refine⟨h.1,?_⟩;rcases h.2 with k|⟨g,i,b,rfl,l,d,f⟩;·exact .inl k
 exact .inr ⟨g,i,b,rfl,l,(j g b rfl d).trans d,f⟩
theorem nV {a:Nat} (h:W.ownsRow a e size v n xs) (d:v.ownBlock=some g):∃ c,W.heap[g]?=some (.cells c e):=by
 rcases h.2 with ⟨rfl,_⟩|⟨j,f,i,rfl,k,b,_⟩;·cases d
 cases d;exact⟨_,b⟩
end
section
open Go.ChangeShapes Go.WideShapes Go.ChangeAt Go.RowKit
theorem dS {Q:Exit->Act->World->Prop} {o:Oper} {K:Act->World->Prop} {a:Act} (b:ops[i]?=some o) (c:Region.wanted o (yielded ops a.tmps)=true)
  (h:∀ K':Act->World->Prop,Hid (∀ a w,K a w->K' a w)->o.wp P a w K' Q):wpOp P ops Q i K a w:=by
 unfold wpOp;simp only [b,c,Lu];exact .inl (h K λ_ _ h=>h)
theorem cE {Q:Exit->Act->World->Prop} {S:World->Prop} {a:Act} (b:Region.ready md ops listed=[r])
  (h:wpOp P ops Q r (λc w'=>S w'/\wpAnyH P md ops Q S fuel (listed.setIfInBounds r true) c w') a w):wpAnyH P md ops Q S (fuel+1) listed a w :=
 wpAnyH_all b bh (λi b=>by
  obtain rfl:i=r:=by simpa using b
  exact h)
theorem bJ {Q:Exit->Act->World->Prop} {S:World->Prop} {d:Nat} {b:Oper} {a:Act} (f:ops[i]?=some b) (g:b.dst=some d)
  (j:Region.noSelect ops=true) (k:Region.free md ops listed i=true) (l:(Region.ready md ops listed).contains i=true)
  (m:∀ c a w,Q (.panic c) (a.put b.dst v) w->Q (.panic c) a w) (n:YieldsIf P ops S b v a) (o:S w)
  (h:wpAnyH P md ops Q S fuel (listed.setIfInBounds i true) { a with tmps:=a.tmps.setIfInBounds d v } w):wpAnyH P md ops Q S (fuel+1) listed a w :=
 wpAnyH_take f j k l m n o (by
  have e:a.put b.dst v={ a with tmps:=a.tmps.setIfInBounds d v }:=by rw [g];rfl
  rw [e];exact h)
theorem dO {R:Nat} (h:W.heap[R]?=some o):R<W.heap.size:=by
 by_cases a:R<W.heap.size;·exact a
 have:W.heap[R]?=none:=BC Z;rw [this] at h;cases h
structure But (S:Nat->Prop) (w w':World):Prop where
 os:w'.os=w.os
 tape:w'.tape=w.tape
 output:w'.output=w.output
 size:w.heap.size<=w'.heap.size
 block:∀ k,k<w.heap.size->¬S k->w'.heap[k]?=w.heap[k]?
theorem But.refl (S w):But S w w:=⟨rfl,rfl,rfl,Jo _,λ_ _ _=>rfl⟩
theorem But.trans {S a b c} (h:But S a b) (k:But S b c):But S a c :=
 ⟨k.os.trans h.os,k.tape.trans h.tape,k.output.trans h.output,Jp h.size k.size,λg d e=>(k.block g (Ju d h.size) e).trans (h.block g d e)⟩
theorem But.mono {c:Nat->Prop} {a} (h:But S a b) (k:∀ g,S g->c g):But c a b :=
 ⟨h.os,h.tape,h.output,h.size,λg d e=>h.block g d λf=>e (k g f)⟩
theorem But.ofGrown {a:World} (h:a.grownBy b (some g)) (k:S g):But S a b :=
 ⟨h.os,h.tape,h.output,h.size,λj d e=>h.block j d λc=>by
  simp at c;subst c;exact e k⟩
theorem But.ofBelow {a} (h:D a b):But S a b:=⟨h.os,h.tape,h.output,h.size,λj c _=>h.block j c⟩
theorem But.below {a} {B:Nat} (h:But S a b) (d:B<=a.heap.size) (k:∀ g,S g->B<=g):Below B a b :=
 ⟨h.os,h.tape,h.output,h.size,λj e=>h.block j Z λc=>by have:=k j c;omega⟩
theorem But.drew {S a b} (h:But S a b):But S a b.drew:=⟨h.os,h.tape,h.output,h.size,h.block⟩
theorem But.set {a} (h:But S a b) (g i:Nat) (v:Value) (k:S g):But S a (b.setCell ⟨g,i,none⟩ v) :=
 h.trans (.ofGrown (au (ao b g) i v) k)
theorem fa {a:World} (h:a.grownBy b (some g)) (d:a.heap[k]?=some o) (c:k≠g):b.heap[k]?=some o:=by
 rw [h.block k (dO d) (by simpa using c)];exact d
theorem RowV.ne {c:Array Value} {f:Nat×Nat} (h:RowV w r e xs) (k:w.heap[g]?=some (.cells c t f)) (a:e≠t):g≠r:=by
 obtain⟨d,b,_⟩:=h;rintro rfl;rw [b] at k;simp at k;exact a k.2.1
theorem RowV.but (h:RowV w r e xs) (b:But S w w') (d:¬S r):RowV w' r e xs:=by
 obtain⟨c,a,f⟩:=h;exact⟨c,by rw [b.block r (dO a) d];exact a,f⟩
theorem But.at (a:But S w w') (h:w.heap[g]?=some o) (b:¬S g):w'.heap[g]?=some o:=by
 rw [a.block g (dO h) b];exact h
def dx (n:Nat) (xs:List Int) (x:Int):List Int×Int:=if xs.length<n then (xs++[x],-1) else (xs.tail++[x],xs[0]?.getD 0)
def Qu (w:World) (G r n:Nat) (xs:List Int):Prop :=
 ∃ (ps:List Int) (o h:Nat),w.heap[G]?=some (.cells #[Vl r n n,I o,I h] 179)/\RowV w r 3 (Ns .i64 ps)/\ps.length=n/\o<n/\h<=n/\(h<n->o=0)/\xs=(ps.drop o++ps.take o).take h
theorem Qu.but {S w w' G r n xs} (h:Qu w G r n xs) (d:But S w w') (e:¬S G) (f:¬S r):Qu w' G r n xs:=by
 obtain⟨ps,o,h,a,b,c⟩:=h;exact⟨ps,o,h,d.at a e,b.but d f,c⟩
theorem Qu.len {G xs} (h:Qu w G r n xs):xs.length<=n:=by
 obtain⟨ps,o,h,a,b,c,d,e,f,rfl⟩:=h;simp;omega
theorem tB (G r n h:Nat) (ps:List Int) (x d:Int) (w:World) (a:w.heap[G]?=some (.cells #[Vl r n n,I (0:Nat),I h] 179)) (c:RowV w r 3 (Ns .i64 ps)) (g:ps.length=n) (f:h<n) (p:n<=1024) :
 Calls prog 285 #[J G 0,I x,I d] w λe w'=>e=.returned (I (-1))/\w'.heap[G]?=some (.cells #[Vl r n n,I (0:Nat),I (h+1:Nat)] 179)/\RowV w' r 3 (Ns .i64 (ps.set h x))/\But (λk=>k=G\/k=r) w w':=by
 have b:G≠r:=c.ne a al;have q:w.cell? ⟨G,0,none⟩=some (Vl r n n):=aM a;have s:w.cell? ⟨G,1,none⟩=some (I (0:Nat)):=aM a;have t:w.cell? ⟨G,2,none⟩=some (I h):=aM a;have i:(h:Int)<(n:Int):=Z;have u:=H (lV G r n n 0 h h ps x w.drew.drew (by rw [JQ,Jx f]) g Z Z Z Z q s c);have j:=H a;clear a c g;go_enter func285,ntmps285;go_wp2;go_region;go_wp2;refine rh (S:=λW=>W.cell? ⟨G,2,none⟩=some (I h)/\Hid (W.heap[G]?=some (.cells #[Vl r n n,I (0:Nat),I h] 179))) ?_;have g:=(show _/\Hid _ from ⟨t,j⟩);iterate 9 (refine py g ?_;simp only [f0,f1,Nat.reduceAdd,lz,l0,ls])
 refine cE (r:=9) E ?_;refine dS rfl E (λK' l=>?_);go_simp;refine (u).mono ?_;rintro e m ⟨rfl,o,c⟩;have a:=H (fa (k:=G) c j b);refine l _ _ ⟨⟨aM a.out,a⟩,?_⟩;have v:=H o;have y:=H c;clear g o c;clear l K';refine bY ?_;have c:m.cell? ⟨G,2,none⟩=some (I h):=aM a.out;have g:m.frozen? ⟨G,2,none⟩=false:=xg _ _ _ _ _ a.out;go_wp2;go_ret;refine⟨rfl,?_,?_,?_⟩;·rw [Ku _ _ _ _ _ _ a.out];rfl
 ·exact v.other (by simpa using b.symm) _
 exact ((But.refl _ w).drew.drew.trans (.ofGrown y (.inr rfl))).set _ _ _ (.inl rfl)
def pl (k c s t p o:Int):Value:=.agg #[I k,I c,I s,I t,I p,I o]
def z6:Array Value:=#[I 0,I 0,I 0,I 0,I 0,I 0]
structure Rt (w:World) (g:Nat) (v:World):Prop where
 blk:v.heap[g]?=some (.cells z6 243)
 bel:D w v
 new:w.heap.size<=g
theorem Rt.first (w):Rt w w.heap.size (w.alloc (.cells z6 243)):=⟨iO _ _,(Jn _ _).alloc (Jo _) _,Jo _⟩
theorem Rt.below {v v'} (h:Rt w g v) (b:D v v'):Rt w g v':=by
 have a:g<v.heap.size:=by
  by_cases a:g<v.heap.size;·exact a
  have:v.heap[g]?=none:=BC Z;have c:=h.blk;rw [this] at c;cases c
 exact⟨by rw [b.block g a];exact h.blk,cI h.bel b,h.new⟩
theorem Rt.drew {w v g} (h:Rt w g v):Rt w g v.drew:=h.below (Jn _ _).drew
theorem Tb.drew {w} (h:Tb w):Tb w.drew:=⟨h.row⟩
theorem Rt.row {v} (h:Rt w g v) (a:Array Value):(v.setRow g a).heap[g]?=some (.cells a 243):=by
 simp [World.setRow,Jw,h.blk]
theorem Rt.done {v} (h:Rt w g v) (a:Array Value):D w (v.setRow g a):=Below.setRow h.bel h.new a
theorem Rt.six {v} (h:Rt w g v) (a b c d e f:Value) :
  ((((((v.setCell ⟨g,0,none⟩ a).setCell ⟨g,1,none⟩ b).setCell ⟨g,2,none⟩ c).setCell ⟨g,3,none⟩ d).setCell ⟨g,4,none⟩ e).setCell ⟨g,5,none⟩ f).drew.heap[g]?=some (.cells #[a,b,c,d,e,f] 243) /\
  D w ((((((v.setCell ⟨g,0,none⟩ a).setCell ⟨g,1,none⟩ b).setCell ⟨g,2,none⟩ c).setCell ⟨g,3,none⟩ d).setCell ⟨g,4,none⟩ e).setCell ⟨g,5,none⟩ f).drew:=by
 refine⟨?_,((((((h.bel.setCell h.new _).setCell h.new _).setCell h.new _).setCell h.new _).setCell h.new _).setCell h.new _).drew⟩;simp [World.drew,World.setCell,Jw,h.blk,z6]
def AD (c s o:Int):Value :=
 if pg c*1024<=o then pl 1 c s 0 0 0
 else if sl c*sz c<=o then pl 2 c s 0 0 (o-sl c*sz c)
 else pl 3 c s (o/sz c) 0 (o%sz c)
theorem kT (c b:Int) (w) (j:Tb w) (h:0<=c/\c<12) (A:0<=b) (k:b<6*((pg c+1)*1024)) :
  Calls prog 198 #[I c,I b] w λe w'=>e=.returned (AD c (b/((pg c+1)*1024)) (b%((pg c+1)*1024)))/\D w w':=by
 have d:=hidR (Rt.first w);have f:=hidR (j.below d.bel);have q:=hidR (gL c);have r:=hidR (fI c);have t:=hidR (dW c);have u:=hidR (h_ c);have B:=fE h;have F:=gz h;have a:=mo h;have G:0<=b/((pg c+1)*1024)/\b/((pg c+1)*1024)<=6:=by
  have:pg c=1\/pg c=2\/pg c=3\/pg c=4:=Z;rcases this with e|e|e|e <;> rw [e] at k ⊢<;> omega
 have m:0<=b%((pg c+1)*1024)/\b%((pg c+1)*1024)<(pg c+1)*1024:=by
  have:pg c=1\/pg c=2\/pg c=3\/pg c=4:=Z;rcases this with e|e|e|e <;> rw [e] <;> omega
 have K:b<30720:=Z;unfold AD;clear j;have L:0<=sl c*sz c/\sl c*sz c<=pg c*1024:=⟨Int.mul_nonneg Z Z,a.2.2.2⟩;have x:4<=sl c/\sl c<=64:=⟨a.1,a.2.1⟩;clear a k;generalize sz c=s at *;generalize sl c=l at *;generalize pg c=p at *;unfold z6 at *;go_enter func198,ntmps198;go_wp2_with fail;generalize w.alloc (Obj.cells #[Value.int IntKind.i64 0,Value.int IntKind.i64 0,Value.int IntKind.i64 0,Value.int IntKind.i64 0,Value.int IntKind.i64 0,Value.int IntKind.i64 0] 243)=v at d f ⊢;generalize w.heap.size=g at d ⊢;refine (q _ f).mono ?_;rintro e w' ⟨rfl,rfl⟩;go_wp2_with fail;go_region;have a:=hidR d.drew;have j:=hidR f.drew;clear d f;generalize w'.drew=M at a j ⊢;go_wp2_with fail;refine (r _ j).mono ?_;rintro e w' ⟨rfl,rfl⟩;have k:=hidR a.done;have n:=hidR a.row;have f:=hidR a.blk;have o:=hidR a.six;clear a;by_cases N:p*1024<=b%((p+1)*1024);·go_wp2_with (refine JX rfl 243 _ _ rfl g _ rfl rfl 243 z6 f E rfl nm ?_);refine gH (n _) underlying243 ?_;exact⟨rfl,k _⟩
 have y:b%((p+1)*1024)<p*1024:=Z;go_wp2_with fail;refine (t _ j).mono ?_;rintro e w' ⟨rfl,rfl⟩;go_wp2_with fail;refine (u _ j).mono ?_;rintro e w' ⟨rfl,rfl⟩;by_cases O:l*s<=b%((p+1)*1024);·go_wp2_with (refine JX rfl 243 _ _ rfl g _ rfl rfl 243 z6 f E rfl nm ?_);refine gH (n _) underlying243 ?_;exact⟨rfl,k _⟩
 have z:b%((p+1)*1024)<l*s:=Z;have P:0<=b%((p+1)*1024)/s/\b%((p+1)*1024)/s<=4096:=⟨Int.ediv_nonneg m.1 Z,Int.le_trans (Int.ediv_le_self _ m.1) Z⟩;have Q:0<=b%((p+1)*1024)%s/\b%((p+1)*1024)%s<s:=⟨Lw _ Z,Lg _ Z⟩;have a:∀ i,i<6->w'.cell? ⟨g,i,none⟩=some (I 0):=λi R=>by
  have:i=0\/i=1\/i=2\/i=3\/i=4\/i=5:=Z;rcases this with rfl|rfl|rfl|rfl|rfl|rfl <;> simp [World.cell?,f.out,z6]
 have d:∀ i,w'.frozen? ⟨g,i,none⟩=false:=λi=>by simp [World.frozen?,f.out]
 have S:=a 0 Z;have T:=a 1 Z;have V:=a 2 Z;have W:=a 3 Z;have X:=a 4 Z;have Y:=a 5 Z;have f0:=d 0;have f1:=d 1;have f2:=d 2;have f3:=d 3;have f4:=d 4;have f5:=d 5;clear a d;go_wp2;go_region;go_wp2;refine wA (p7 dC _ _ g 243 _ (0,0) _ dC (o _ _ _ _ _ _).1 underlying243 rfl E) dC ?_;exact⟨rfl,(o _ _ _ _ _ _).2⟩
theorem oD (w:World) (g:Nat) (a:Array Value):w.grownBy (w.setRow g a) (some g) :=
 ⟨rfl,rfl,rfl,by simp [World.setRow],λk _ h=>setRow_other w g k a (by simpa using h)⟩
theorem iz (w:World) (n o:Option Addr) (a c b d g f:Nat) (i:List Value) (p:w.heap[g]?=some (.cells i.toArray 3)) (e:List Value) (q:e.length=Nat.min b a)
  (k:0<e.length->n=some ⟨g,f,none⟩/\∃ m,o=some m/\∀ j v,e[j]?=some v->w.cell? (m.add j)=some v)
  (j:f+e.length<=i.length) (r:∀ v∈e,v.oneCell'=true) :
  ∃ w',(Builtin.copy_ #[23,23] 3 #[.slice n a c,.slice o b d]).run prog w=.ok (I e.length) w'/\w'.heap[g]?=some (.cells (splice i f e).toArray 3)/\w.grownBy w' (some g):=by
 by_cases s:e.length=0;·obtain rfl:e=[]:=KD s;refine⟨w,run_copy_none (P:=prog) w 23 23 3 3 n o a c b d underlying23 E (by simpa using q.symm),by simpa [splice] using p,ao w g⟩
 obtain⟨rfl,m,rfl,l⟩:=k Z;refine⟨_,run_copy_row (P:=prog) w 23 23 3 3 g f a c m b d i.toArray 3 e underlying23 E p q l (by simpa using j) r,?_,oD w g _⟩;simpa [splice] using setRow_heap w g _ _ 3 _ p
theorem Fi (n:Nat) (h:n<=1048576) (w:World):(Instr.makeSlice 23 (I (n:Int)) (I (n:Int))).run prog w=.ok (Vl w.heap.size n n) (w.alloc (.cells (madeCells #[Value.int .i64 0] n) 3)) :=
 run_make_row' 23 3 (I 0) 8 underlying23 Tryz.info3In rfl .i64 .i64 n Z Z w
theorem dI (w:World) (o:Obj):(w.alloc o).heap[w.heap.size]?=some o:=heap_alloc_new w o
theorem df (w:World) (o:Obj):(w.alloc o).heap.size=w.heap.size+1:=by
 have e:(w.alloc o).heap=w.heap.push o:=rfl;rw [e,Array.size_push]
theorem lZ {p:Obj} (h:w.heap[k]?=some p) (o:Obj):(w.alloc o).heap[k]?=some p:=by
 rw [heap_alloc_old w o (dO h)];exact h
theorem zN (w:World) (A B a:Obj):((((w.alloc A).alloc B).alloc a).heap[w.heap.size]?=some A)/\((((w.alloc A).alloc B).alloc a).heap[w.heap.size+1]?=some B)/\((((w.alloc A).alloc B).alloc a).heap[w.heap.size+1+1]?=some a)/\D w (((w.alloc A).alloc B).alloc a):=by
 have d:=dI w A;have b:=dI (w.alloc A) B;have c:=dI ((w.alloc A).alloc B) a;rw [df] at b;rw [df,df] at c;exact⟨lZ (lZ d B) a,lZ b a,c,(((Jn _ w).alloc (Jo _) A).alloc (by rw [df];omega) B).alloc (by rw [df,df];omega) a⟩
theorem tI (n:Nat):madeCells #[Value.int .i64 0] n=(Ns .i64 (List.replicate n 0)).toArray:=by
 apply Array.ext';simp [KA,Ns]
theorem Sl.src (h:Sl w a zs) (d:0<zs.length):∃ b,a=some b/\∀ j v,(Ns .i64 zs)[j]?=some v->w.cell? (b.add j)=some v:=by
 rcases h with ⟨_,rfl⟩|⟨g,rfl,f⟩;·simp at d
 refine⟨_,rfl,λj v b=>?_⟩;have c:j<(Ns .i64 zs).length:=by
  by_cases c:j<(Ns .i64 zs).length;·exact c
  rw [JB Z] at b;cases b
 have:=f.cell j c;rw [b] at this;have e:(⟨g,0,none⟩:Addr).add j=⟨g,j,none⟩:=by cases j <;> simp [Addr.add]
 rw [e];exact this
theorem kB (k zs):∀ v∈Ns k zs,v.oneCell'=true:=by
 intro v a;simp only [Ns,JE] at a;obtain⟨x,_,rfl⟩:=a;rfl
theorem re (zs:List Int) (n:Nat) (h:zs.length<=n):splice (Ns .i64 (List.replicate n 0)) 0 (Ns .i64 zs)=Ns .i64 (zs++List.replicate (n-zs.length) 0):=by
 simp [splice,Ns]
theorem rowOf (h:w.heap[g]?=some (.cells xs.toArray e)):RowV w g e xs :=
 ⟨_,h,bh,λi a=>bh⟩
theorem set3 {a b c:Value} (h:w.heap[g]?=some (.cells #[a,b,c] t)) (x y z:Value) :
  (((w.setCell ⟨g,0,none⟩ x).setCell ⟨g,1,none⟩ y).setCell ⟨g,2,none⟩ z).heap[g]?=some (.cells #[x,y,z] t):=by
 rw [Ku _ _ _ _ _ _ (Ku _ _ _ _ _ _ (Ku _ _ _ _ _ _ h))];rfl
theorem bT (h:w.heap[g]?=some o) (k i:Nat) (v:Value) (a:g≠k):(w.setCell ⟨k,i,none⟩ v).heap[g]?=some o:=by
 rw [heap_setCell_other _ _ _ _ (by simpa using a)];exact h
theorem mz (n b k:Nat) (a) (zs:List Int) (w) (c:zs.length=b) (f:b<=n) (u:n<=1024) (d:Sl w a zs) :
  Calls prog 100 #[I n,.slice a b k] w λe w'=>∃ g,e=.returned (.agg #[Vl g n n,I (0:Nat),I b])/\RowV w' g 3 (Ns .i64 (zs++List.replicate (n-b) 0))/\w.heap.size<=g/\D w w':=by
 have r:=λW=>Fi n Z W
 have s:=H d;have l:=H c;clear d c;have j:=H (zN w (.cells #[C,I 0,I 0] 176) (.cells (madeCells #[I 0] n) 3) (.cells #[Vl (w.heap.size+1) n n,I 0,I 0] 176));obtain⟨c,p,m,d⟩:=iz _ (some ⟨w.heap.size+1,0,none⟩) a n n b k (w.heap.size+1) 0 (Ns .i64 (List.replicate n 0)) (by rw [<-tI];exact j.2.1) (Ns .i64 zs) (by rw [aX,l.out];exact (I7 f).symm) (λb=>⟨rfl,(s.below j.2.2.2).src (by rw [aX] at b;exact b)⟩) (by simp only [aX,JS];rw [l.out];omega) (kB _ _);rw [aX,l.out] at p;have i:=H (fa d j.1 Z);have o:=H (fa d j.2.2.1 Z);have t:=H (below_grown j.2.2.2 d Z);have q:=H (rowOf m);clear m d j;have m:c.cell? ⟨w.heap.size+1+1,2,none⟩=some (I 0):=aM o.out;have f2:c.frozen? ⟨w.heap.size+1+1,2,none⟩=false:=xg _ _ _ _ _ o.out;have d:c.cell? ⟨w.heap.size+1+1,0,none⟩=some (Vl (w.heap.size+1) n n):=aM o.out;have j:c.cell? ⟨w.heap.size+1+1,1,none⟩=some (I 0):=aM o.out;have v:c.cell? ⟨w.heap.size,0,none⟩=some (C):=aM i.out;have x:c.cell? ⟨w.heap.size,1,none⟩=some (I 0):=aM i.out;have y:c.cell? ⟨w.heap.size,2,none⟩=some (I 0):=aM i.out;have f0:c.frozen? ⟨w.heap.size,0,none⟩=false:=xg _ _ _ _ _ i.out;have f1:c.frozen? ⟨w.heap.size,1,none⟩=false:=xg _ _ _ _ _ i.out;have f3:c.frozen? ⟨w.heap.size,2,none⟩=false:=xg _ _ _ _ _ i.out;go_enter func100,ntmps100;go_wp2;refine wA (p7 dC _ _ w.heap.size 176 _ (0,0) _ dC (set3 (bT i _ _ _ Z) _ _ _) underlying176 rfl E) dC ?_;refine⟨w.heap.size+1,rfl,?_,Z,?_⟩
 ·rw [<-l.out,<-re _ _ (by rw [l.out];exact f)];refine (((q.other ?_ _).other ?_ _).other ?_ _).other ?_ _
  all_goals (dsimp only;omega)
 exact (((t.setCell it _).setCell it _).setCell it _).setCell it _
def Ow (w:World) (base:Nat) (a:Option Addr) (c:Nat) (zs:List Int):Prop:=w.ownsRow base 3 1 (.slice a zs.length c) zs.length (Ns .i64 zs)
theorem Ow.nil (w base):Ow w base none 0 []:=⟨rfl,.inl ⟨rfl,rfl⟩⟩
theorem Ow.but {base} (h:Ow w base a c zs) (i:But S w w') (j:∀ g,a=some ⟨g,0,none⟩->¬S g):Ow w' base a c zs:=by
 refine⟨h.1,?_⟩;rcases h.2 with k|⟨g,b,d,e,l,f,m⟩;·exact .inl k
 right;have n:a=some ⟨g,0,none⟩:=by simp at e;exact e.1
 exact⟨g,b,d,e,l,by rw [i.block g (dO f) (j g n)];exact f,m⟩
theorem Ow.below {base} (h:Ow w base a c zs) (b:D w w'):Ow w' base a c zs:=h.but (But.ofBelow (S:=λ_=>False) b) (λ_ _=>id)
theorem Ow.base {base} (h:Ow w base a c zs):∀ g,a=some ⟨g,0,none⟩->base<=g/\g<w.heap.size:=by
 rintro g rfl;rcases h.2 with ⟨e,_⟩|⟨j,b,d,e,f,i,k⟩;·simp at e
 simp at e;obtain⟨rfl,_⟩:=e;exact⟨f,dO i⟩
theorem Ow.sl {base} (h:Ow w base a c zs):Sl w a zs:=by
 have b:=h;rcases h.2 with ⟨e,d⟩|⟨g,f,i,e,k,l,m⟩;·simp at e;exact .inl ⟨e.1,List.length_eq_zero_iff.1 d⟩
 have j:a=some ⟨g,0,none⟩:=by simp at e;exact e.1
 subst j;exact .inr ⟨g,rfl,RowV.ofOwns b⟩
theorem Ow.cap0 {base} (h:Ow w base a c zs):a=none->c=0:=by
 rintro rfl;rcases h.2 with ⟨e,f⟩|⟨g,b,d,e,i,j,k⟩;·simp at e;exact e.2
 simp at e
theorem Ow.capge {base} (h:Ow w base a c zs):zs.length<=c:=by
 rcases h.2 with ⟨e,f⟩|⟨g,b,d,e,i,j,k,_⟩;·omega
 simp at e;omega
theorem mc (w base a c zs) (o:Option Addr) (m q:Nat) (f:List Int) (b:Ow w base a c zs) (z:f.length=m) (K:o=none->q=0) (l:(o=none/\f=[])\/∃ p,o=some p/\∀ j u,(Ns .i64 f)[j]?=some u->w.cell? (p.add j)=some u) (T:zs.length+m<=1048576) (i:base<=w.heap.size) :
  ∃ j d w',(Builtin.append_ #[23,23] 23 #[.slice a zs.length c,.slice o m q]).run prog w=.ok (.slice j (zs.length+m) d) w'/\Ow w' base j d (zs++f)/\But (λk=>base<=k) w w':=by
 obtain⟨A,B,r,s,t⟩:=zr Tryz.info3In;rcases l with ⟨rfl,rfl⟩|⟨p,rfl,L⟩
 ·obtain rfl:m=0:=by simpa using z.symm
  obtain rfl:=K rfl;refine⟨a,c,w,?_,by rw [J3];exact b,But.refl _ _⟩;rw [Kq];exact run_append_owned_none (P:=prog) (w:=w) base 23 23 3 A 1 underlying23 B _ _ _ b
 obtain⟨M,w',N,F,n,_⟩:=Kg (P:=prog) w base 23 23 3 A (I 0) 1 8 underlying23 B r s t rfl Z (.slice a zs.length c) zs.length (Ns .i64 zs) b p m q (Ns .i64 f) (by rw [aX];omega) L (kB _ _) (by unfold maxLen;omega) Z i;have O:∃ j d,M=.slice j (zs.length+m) d:=by
  rcases F.2 with ⟨e,x⟩|⟨g,v,y,e,_⟩;·exact⟨none,0,by rw [x];exact e⟩
  exact⟨_,_,e⟩
 obtain⟨j,d,rfl⟩:=O;refine⟨j,d,w',N,?_,⟨n.os,n.tape,n.output,n.size,λk Q R=>n.block k Q λG=>R ?_⟩⟩
 ·have x:(zs++f).length=zs.length+m:=by simp [z]
  unfold Ow;rw [x];have S:Ns .i64 (zs++f)=Ns .i64 zs++Ns .i64 f:=by simp [Ns]
  rw [S];exact F
 cases a with
 | none=>simp [Value.ownBlock] at G
 | some x =>
  rcases b.2 with ⟨e,_⟩|⟨g,v,y,e,S,_⟩;·simp at e
  simp at e;obtain⟨rfl,_⟩:=e;simp [Value.ownBlock] at G;omega
end
end Go.Proofs.YtdfodlhkdmkfdaaGreatDoor
