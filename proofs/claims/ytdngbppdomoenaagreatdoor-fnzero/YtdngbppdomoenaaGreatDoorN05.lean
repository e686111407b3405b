import Derived.Deep.CutBlock
import Derived.Deep.DeepCutAuto
import Derived.Test.YtdngbppdomoenaaGreatDoorN03
import Derived.Test.YtdngbppdomoenaaGreatDoorN04
set_option linter.unusedVariables false
set_option linter.unusedSimpArgs false
set_option maxRecDepth 20000
set_option maxHeartbeats 8000000
namespace Go.Proofs.YtdngbppdomoenaaGreatDoor
open Go.Proofs.Tryz
variable {S:Nat->Prop} {A Q R Rb T base cap fuel g i k n r size:Nat} {bud:Int} {W W' a b b0 w w' w0:World} {P:Program} {ops:Array Oper} {listed:Array Bool} {v:Value} {xs:List Value} {e:TypeId} {m:Nat->Option (Bool×List Int)} {c:Array Value} {o:Obj}
section
open Go.ChangeShapes Go.WideShapes Go.ChangeAt Go.RowKit
theorem Tryz.info3In:(prog.info? 3).map (λi=>(i.zero,i.size,i.bytes))=some (some (I 0),1,8):=E
end
section
open Go.RowKit Go.Shelf
abbrev Bj:Go.Conc.Locks.MuLink:={ lock:=110,unlock:=111,ilock:=150,iunlock:=151,lockSlow:=187,unlockSlow:=190,disable:=183,enable:=185,acquire:=186,relMerge:=188,cas32:=184,add32:=189,tMutex:=160,tIMutex:=158,tPMutex:=231,tPIMutex:=252,tPI32:=254,tUP:=256,tNoCopy:=155,tU32:=156 }
theorem jt:Go.Conc.Locks.MuLib prog Bj :=
 ⟨func110,func111,func150,func151,func183,func185,func186,func188,func184,func189,underlying158,Tryz.runUnderlying158,Tryz.sizeOf158,Tryz.isAgg158,Tryz.zeroValue158,underlying160,Tryz.runUnderlying160,Tryz.sizeOf160,Tryz.isAgg160,Tryz.zeroValue160,underlying231,Tryz.runUnderlying231,Tryz.sizeOf231,Tryz.isAgg231,Tryz.zeroValue231,underlying252,Tryz.runUnderlying252,Tryz.sizeOf252,Tryz.isAgg252,Tryz.zeroValue252,underlying254,Tryz.runUnderlying254,Tryz.sizeOf254,Tryz.isAgg254,Tryz.zeroValue254,underlying256,Tryz.runUnderlying256,Tryz.sizeOf256,Tryz.isAgg256,Tryz.zeroValue256,underlying155,Tryz.runUnderlying155,Tryz.sizeOf155,Tryz.isAgg155,Tryz.zeroValue155,underlying21,Tryz.runUnderlying21,Tryz.sizeOf21,Tryz.isAgg21,Tryz.zeroValue21,E⟩
theorem gh {S M n f} (h:Im S M 0 n bud f w):Calls prog 110 #[J S 0] w λe w'=>e=.returned (.tuple #[])/\w'=w.setCell ⟨S,0,none⟩ (.int .i32 1) :=
 Go.MuLone.lock_free jt ⟨S,0,none⟩ w (by simp [World.cell?,h.box]) (by simp [World.frozen?,h.box])
theorem Im.st {S M st n f} (h:Im S M st n bud f w) (st'):Im S M st' n bud f (w.setCell ⟨S,0,none⟩ (.int .i32 st')):=by
 obtain⟨a,c,g⟩:=h.map;refine⟨bj h.box _,a,c.kept (au (ar w S) 0 _) (λe=>?_),g⟩;obtain⟨i,b,d,_⟩:=c;simp at e;subst e;rw [h.box] at d;cases d
theorem bG {md:Region.Mode} {Q:Exit->Act->World->Prop} {a:Act} (b:Region.ready md ops listed=[r])
  (h:wpOp P ops Q r (wpAny P md ops Q fuel (listed.setIfInBounds r true)) a w):wpAny P md ops Q (fuel+1) listed a w :=
 wpAny_all b bF (λi b=>by
  obtain rfl:i=r:=by simpa using b
  exact h)
theorem bV {md:Region.Mode} {Q:Exit->Act->World->Prop} {d:Nat} {b:Oper} {a:Act} (f:ops[i]?=some b) (g:b.dst=some d)
  (j:Region.noSelect ops=true) (k:Region.free md ops listed i=true) (l:(Region.ready md ops listed).contains i=true)
  (m:∀ c a w,Q (.panic c) (a.put b.dst v) w->Q (.panic c) a w) (n:Yields P ops b v a)
  (h:wpAny P md ops Q fuel (listed.setIfInBounds i true) { a with tmps:=a.tmps.setIfInBounds d v } w):wpAny P md ops Q (fuel+1) listed a w :=
 wpAny_take f j k l m n (by
  have e:a.put b.dst v={ a with tmps:=a.tmps.setIfInBounds d v }:=by rw [g];rfl
  rw [e];exact h)
def aI (m:Nat->Option (Bool×List Int)) (a n:Nat):List Int:=(List.range n).map λi=>be m (a+i)
theorem lM (m a) (k:Nat):aI m a (k+1)=aI m a k++[be m (a+k)]:=by
 simp [aI,Gg]
structure La (w:World) (Rb A:Nat) (v:Value) (k:Nat) (xs:List Value) (W:World):Prop where
 own:W.ownsRow (w.heap.size+2) 5 1 v k xs
 at_:W.heap[A]?=some (.cells #[I 0,v] 210)
 res:W.heap[Rb]?=some (.cells #[I 0,C] 210)
 bel:D w W
 big:w.heap.size+2<=W.heap.size
 hA:A=w.heap.size+1
 hR:Rb=w.heap.size
theorem La.next {w9:World} (h:La w Rb A v k xs W) (b:Value) (g cap) (j:w9.ownsRow (w.heap.size+2) 5 1 (Vl g (k+1) cap) (k+1) (xs++[b])) (a:((W.alloc (.cells #[b] 5)).drew).grownBy w9 v.ownBlock) :
  w9.cell? ⟨A,1,none⟩=some v/\w9.frozen? ⟨A,1,none⟩=false/\La w Rb A (Vl g (k+1) cap) (k+1) (xs++[b]) (w9.setCell ⟨A,1,none⟩ (Vl g (k+1) cap)):=by
 have c:A<W.heap.size:=by have:=h.hA;have:=h.big;omega
 have d:Rb<W.heap.size:=by have:=h.hR;have:=h.big;omega
 have m:v.ownBlock≠some A:=by
  intro e;have:=cN h.own A e;have:=h.hA;omega
 have n:v.ownBlock≠some Rb:=by
  intro e;have:=cN h.own Rb e;have:=h.hR;omega
 have sz:((W.alloc (.cells #[b] 5)).drew).heap.size=W.heap.size+1:=aF W _;have f:w9.heap[A]?=some (.cells #[I 0,v] 210):=by
  rw [a.block A (by rw [sz];omega) (H2 m)];exact (ej W _ A c).trans h.at_
 have o:w9.heap[Rb]?=some (.cells #[I 0,C] 210):=by
  rw [a.block Rb (by rw [sz];omega) (H2 n)];exact (ej W _ Rb d).trans h.res
 have i:g≠A:=by
  have:=cN j g rfl;have:=h.hA;omega
 have p:D w w9:=by
  have l:D w (W.alloc (.cells #[b] 5)).drew:=(h.bel.alloc h.bel.size _).drew;exact l.grown a l.size (λr c=>by have:=cN h.own r c;omega)
 refine⟨by simp [World.cell?,f],by simp [World.frozen?,f],?_⟩;refine⟨j.kept (au (ar w9 A) 1 _) (.inr (by simpa [Value.ownBlock] using i)),?_,?_,?_,?_,h.hA,h.hR⟩;·rw [bj f];rfl
 ·rw [Gx _ _ _ _ (by have:=h.hA;have:=h.hR;show Rb≠A;omega)];exact o
 ·exact p.setCell (by have:=h.hA;show w.heap.size<=A;omega) _
 have:w9.heap.size<=(w9.setCell ⟨A,1,none⟩ (Vl g (k+1) cap)).heap.size:=(au (ar w9 A) 1 _).size;have:=a.size;have:=h.big;rw [sz] at *;omega
theorem aw {v:World} {a:Array Value} {t:TypeId} (h:v.heap[g]?=some (.cells a t)) (b:Array Value):(v.setRow g b).heap[g]?=some (.cells b t):=by
 simp [World.setRow,Fp,h]
theorem al (w:World) (g:Nat) (b:Array Value):w.grownBy (w.setRow g b) (some g) :=
 ⟨rfl,rfl,rfl,by simp [World.setRow],λk _ a=>by
  have:g≠k:=λe=>a (by rw [e])
  simp [World.setRow,Fp,this]⟩
theorem dx {a:Nat} (h:w.ownsRow base e size v n xs) (c:a<=base):w.ownsRow a e size v n xs :=
 ⟨h.1,h.2.imp id λ⟨g,cap,b,d,f,i⟩=>⟨g,cap,b,d,Fg c f,i⟩⟩
theorem La.one (h:La w Rb A v k xs W):(#[Value.int IntKind.i64 0,v].all λx=>x.oneCell')=true:=by
 rcases h.own.2 with ⟨rfl,_⟩|⟨g,cap,a,rfl,_⟩ <;> simp [Value.oneCell']
theorem La.done (h:La w Rb A v k xs W):(W.setRow Rb #[Value.int IntKind.i64 0,v]).ownsRow w.heap.size 5 1 v k xs/\D w (W.setRow Rb #[Value.int IntKind.i64 0,v]):=by
 have a:=al W Rb #[Value.int IntKind.i64 0,v];refine⟨dx (h.own.kept a ?_) Z,h.bel.grown a h.bel.size (λr a=>by have:=h.hR;simp at a;omega)⟩;right;intro e;have:=cN h.own Rb e;have:=h.hR;omega
theorem ki (T Q nn bud m) (a n:Nat) (w) (c:Sx T Q nn bud m w) (a0:nn<=4096) (h2:n<=4096) (ha:a+n<18446744073709551616) (f:∀ i,i<n->isOpen (m ((a+i)/1024))=true) (s:∀ W,D w W->Calls prog 171 #[J T 0,U a,I n] W λe w'=>e=.returned (I 0)/\w'=W) :
  Calls prog 128 #[J T 0,U a,I n] w λe w'=>∃ v,e=.returned (.agg #[I 0,v])/\w'.ownsRow w.heap.size 5 1 v n (Ns .u8 (aI m a n))/\D w w':=by
 obtain⟨i0,z,B,F,G⟩:=GI Tryz.info5By;have H1:=H s;have HS:=H c;have HO:=H f;clear s c f;go_enter func128,ntmps128;go_wp2_with fail;refine (H1.out _ ((Fc _ _).alloc (Fe _) _)).mono ?_;rintro _ w1 ⟨rfl,rfl⟩;have S:Hid (La w w.heap.size (w.heap.size+1) (C) 0 [] ((w.alloc (.cells #[I 0,C] 210)).alloc (.cells #[I 0,C] 210))) :=
  ⟨⟨rfl,.inl ⟨rfl,rfl⟩⟩,by rw [<-aF w];exact ao _ _,by rw [ej _ _ _ (by rw [aF];omega)];exact ao _ _,((Fc _ _).alloc (Fe _) _).alloc (by rw [aF];omega) _,by rw [aF,aF];omega,rfl,rfl⟩
 go_wp2;generalize (w.alloc (Obj.cells #[Value.int IntKind.i64 0,Value.slice none 0 0] 210)).alloc (Obj.cells #[Value.int IntKind.i64 0,Value.slice none 0 0] 210)=W0 at S ⊢;generalize a2:w.heap.size+1=A at S ⊢;generalize a3:w.heap.size=Rb at S ⊢;go_loopw [8] (λi wr=>∃ k:Nat,k<=n/\i=I k/\Hid (∃ v,La w Rb A v k (Ns .u8 (aI m a k)) wr)) (λi _=>n-(intOf i).toNat);case atStart=>exact ⟨0,Fs _,rfl,_,S.out⟩
 case round =>
  obtain⟨k,hk,rfl,t⟩:=hrel;obtain⟨v,o⟩:=t.out;clear t;have a4:wr.cell? ⟨A,0,none⟩=some (I 0):=by simp [World.cell?,o.at_]
  have K:wr.cell? ⟨A,1,none⟩=some v:=by simp [World.cell?,o.at_]
  by_cases a1:k<n
  ·have fA:wr.frozen? ⟨A,1,none⟩=false:=(by simp [World.frozen?,o.at_]);have HG:=H (kO T Q nn bud m (a+k) wr.drew (HS.below o.bel).drew a0 Z (HO.out k a1));have V:=H (λb g cap L c h2=>o.next (w9:=L) (.int .u8 b) g cap c h2);have HE:=H (lM m a k);have c:=H (λb=>(o.own.alloc (.cells #[.int .u8 b] 5)).drew);have f:=H (λ(b:Int)=>eG wr (.int .u8 b) 5 wr.heap.size rfl);have j:=H (show ∀ b:Int,w.heap.size+2<=((wr.alloc (.cells #[.int .u8 b] 5)).drew).heap.size from λb=>by
    have:=o.big;have e:((wr.alloc (.cells #[.int .u8 b] 5)).drew).heap.size=wr.heap.size+1:=aF wr _;omega)
   generalize be m (a+k)=b at *;have V:=H (V.out b);have M:=H (c.out b);have N:=H (f.out b);have O:=H (j.out b);have P:(wr.alloc (.cells #[.int .u8 b] 5)).cell? ⟨A,1,none⟩=some v:=by
    have l:A<wr.heap.size:=(by have:=o.hA;have:=o.big;omega);have e:=(ej wr (.cells #[.int .u8 b] 5) A l).trans o.at_;simp [World.cell?,e]
   have m1:IntKind.u64.wrap (k:Int)=(k:Int):=(by rw [IntKind.wrap_u64];omega);have m2:IntKind.u64.wrap ((a:Int)+(k:Int))=((a+k:Nat):Int):=(by rw [IntKind.wrap_u64];omega);clear o c f j S;go_wp2;refine wp_region_any E ?_;simp only [FA,Fx,FH,Nat.reduceAdd,Fw,Fv,FB,Fy,FJ];refine bV (i:=0) (d:=24) (v:=J A 1) rfl E E E E (λ_ _ _ h=>h) (Or.inl ⟨E,λ_=>E⟩) ?_;simp only [lz,l0,ls];refine bV (i:=2) (d:=26) (v:=J T 0) rfl E E E E (λ_ _ _ h=>h) (Or.inl ⟨E,λ_=>E⟩) ?_;simp only [lz,l0,ls];refine bV (i:=3) (d:=27) (v:=U (a:Int)) rfl E E E E (λ_ _ _ h=>h) (Or.inl ⟨E,λ_=>E⟩) ?_;simp only [lz,l0,ls];refine bV (i:=4) (d:=28) (v:=I (k:Int)) rfl E E E E (λ_ _ _ h=>h) (Or.inl ⟨E,λ_=>E⟩) ?_;simp only [lz,l0,ls];refine bV (i:=5) (d:=29) (v:=U (k:Int)) rfl E E E E (λ_ _ _ h=>h) (Or.inl ⟨E,λW=>by first|(go_simp;done)|(go_simp;omega)⟩) ?_;simp only [lz,l0,ls];refine bV (i:=6) (d:=30) (v:=U ((a+k:Nat):Int)) rfl E E E E (λ_ _ _ h=>h) (Or.inl ⟨E,λW=>by first|(go_simp;done)|(go_simp;omega)⟩) ?_;simp only [lz,l0,ls];refine wpAny_all (rs:=[1,7]) E bF (λi X=>?_);have R:i=1\/i=7:=(by simpa using X);clear X;rcases R with rfl|rfl
   ·skip
    refine cv λK' c=>?_;go_simp;refine c.out _ _ ?_;clear c K';refine bG (r:=7) E ?_;refine cv λK' c=>?_;go_simp;refine (HG.out).mono ?_;rintro e w' ⟨rfl,rfl⟩;refine c.out _ _ ?_;clear c K';refine bG (r:=8) E ?_;refine cv λK' c=>?_;go_simp;refine c.out _ _ ?_;clear c K';refine bG (r:=9) E ?_;refine cv λK' c=>?_;refine wp_append_lies _ (.tmp 25) (.tmp 32) 22 rfl (w.heap.size+2) 5 i0 (.int .u8 0) 1 1 underlying22 z B F G rfl Z v k _ ef M.out ⟨wr.heap.size,0,none⟩ 1 1 [.int .u8 b] ef rfl N.out ?h1c Z ?b1 ?b2 ?b3 _ rfl ?_
    (case h1c=>intro u x;simp at x;subst x;rfl);(case b1=>unfold maxLen;omega);(case b2=>omega);(case b3=>exact O.out);intro g cap L f j p q;have l:=H (V.out g cap L f j);obtain⟨y,Y,_⟩:=l.out;clear f j p q K fA P;refine c.out _ _ ?_;clear c K';simp only [Act.put,Ff,Fh,Fi];refine bV (i:=10) (d:=34) (v:=J A 1) rfl E E E E (λ_ _ _ h=>h) (Or.inl ⟨E,λ_=>E⟩) ?_;refine bG (r:=11) E ?_;refine cv λK' c=>?_;go_simp;refine c.out _ _ ?_;clear c K';refine wpAny_done E ?_ _;go_wp2;go_roundw
    (case rel=>exact ⟨k+1,Z,aY,_,by rw [HE.out];simpa [Ns] using l.2.2⟩);case measure=>simp [intOf];omega
   skip
   refine cv λK' c=>?_;go_simp;refine (HG.out).mono ?_;rintro e w' ⟨rfl,rfl⟩;refine c.out _ _ ?_;clear c K';refine wpAny_all (rs:=[1,8]) E bF (λi X=>?_);have R:i=1\/i=8:=(by simpa using X);clear X
   rcases R with rfl|rfl
   ·skip
    refine cv λK' c=>?_;go_simp;refine c.out _ _ ?_;clear c K';refine bG (r:=8) E ?_;refine cv λK' c=>?_;go_simp;refine c.out _ _ ?_;clear c K';refine bG (r:=9) E ?_;refine cv λK' c=>?_;refine wp_append_lies _ (.tmp 25) (.tmp 32) 22 rfl (w.heap.size+2) 5 i0 (.int .u8 0) 1 1 underlying22 z B F G rfl Z v k _ ef M.out ⟨wr.heap.size,0,none⟩ 1 1 [.int .u8 b] ef rfl N.out ?h1c Z ?b1 ?b2 ?b3 _ rfl ?_
    (case h1c=>intro u x;simp at x;subst x;rfl);(case b1=>unfold maxLen;omega);(case b2=>omega);(case b3=>exact O.out);intro g cap L f j p q;have l:=H (V.out g cap L f j);obtain⟨y,Y,_⟩:=l.out;clear f j p q K fA P;refine c.out _ _ ?_;clear c K';simp only [Act.put,Ff,Fh,Fi];refine bV (i:=10) (d:=34) (v:=J A 1) rfl E E E E (λ_ _ _ h=>h) (Or.inl ⟨E,λ_=>E⟩) ?_;refine bG (r:=11) E ?_;refine cv λK' c=>?_;go_simp;refine c.out _ _ ?_;clear c K';refine wpAny_done E ?_ _;go_wp2;go_roundw
    (case rel=>exact ⟨k+1,Z,aY,_,by rw [HE.out];simpa [Ns] using l.2.2⟩);case measure=>simp [intOf];omega
   skip
   refine cv λK' c=>?_;go_simp;refine c.out _ _ ?_;clear c K';refine bG (r:=1) E ?_;refine cv λK' c=>?_;go_simp;refine c.out _ _ ?_;clear c K';refine bG (r:=9) E ?_;refine cv λK' c=>?_;refine wp_append_lies _ (.tmp 25) (.tmp 32) 22 rfl (w.heap.size+2) 5 i0 (.int .u8 0) 1 1 underlying22 z B F G rfl Z v k _ ef M.out ⟨wr.heap.size,0,none⟩ 1 1 [.int .u8 b] ef rfl N.out ?h1c Z ?b1 ?b2 ?b3 _ rfl ?_
   (case h1c=>intro u x;simp at x;subst x;rfl);(case b1=>unfold maxLen;omega);(case b2=>omega);(case b3=>exact O.out);intro g cap L f j p q;have l:=H (V.out g cap L f j);obtain⟨y,Y,_⟩:=l.out;clear f j p q K fA P;refine c.out _ _ ?_;clear c K';simp only [Act.put,Ff,Fh,Fi];refine bV (i:=10) (d:=34) (v:=J A 1) rfl E E E E (λ_ _ _ h=>h) (Or.inl ⟨E,λ_=>E⟩) ?_;refine bG (r:=11) E ?_;refine cv λK' c=>?_;go_simp;refine c.out _ _ ?_;clear c K';refine wpAny_done E ?_ _;go_wp2;go_roundw
   (case rel=>exact ⟨k+1,Z,aY,_,by rw [HE.out];simpa [Ns] using l.2.2⟩);case measure=>simp [intOf];omega
  have c:k=n:=Z;subst c;have t:=H o;clear o S;go_wp2_with (first|(refine F8 rfl 210 _ rfl _ rfl _ _ _ _ t.at_ underlying210 rfl E ?_)|(refine FK rfl 210 _ _ rfl _ _ rfl rfl 210 _ t.res E rfl ?o1 ?_));case o1=>exact t.one
  refine fp (aw t.res _) underlying210 ?_;exact⟨v,rfl,t.done⟩
def dX (m:Nat->Option (Bool×List Int)) (p:Nat) (x:Int):Nat->Option (Bool×List Int):=eb m (p/1024) ((m (p/1024)).map λq=>(q.1,q.2.set (p%1024) x))
def ax (m:Nat->Option (Bool×List Int)) (a:Nat) (ys:List Int):Nat->(Nat->Option (Bool×List Int))
 | 0=>m
 | k+1=>dX (ax m a ys k) (a+k) (ys[k]?.getD 0)
theorem uK (m p x) (j:Nat):isOpen (dX m p x j)=isOpen (m j):=by
 unfold dX;by_cases e:j=p/1024
 ·subst e;rw [bL];cases m (p/1024) with
  | none=>rfl
  | some q=>rfl
 rw [aV _ _ _ _ e]
theorem ez (m a ys):∀ k j,isOpen (ax m a ys k j)=isOpen (m j)
 | 0,j=>rfl
 | k+1,j=>by simp only [ax];rw [uK];exact ez m a ys k j
structure Dt (Q:Nat) (w:World) (d:Option Addr) (len:Nat) (ys:List Int):Prop where
 hlen:ys.length=len
 cell:∀ i,i<len->∃ x,d=some x/\w.cell? (x.add i)=some (.int .u8 (ys[i]?.getD 0))/\(x.add i).block<w.heap.size/\(x.add i).block≠Q/\¬ft Q w (x.add i).block
theorem Dt.keep {d len ys} (h:Dt Q w d len ys) (a:Sf Q w w'):Dt Q w' d len ys:=by
 refine⟨h.hlen,λi j=>?_⟩;obtain⟨x,k,b,c,e,f⟩:=h.cell i j;refine⟨x,k,?_,Fq c a.size,e,λl=>?_⟩;·unfold World.cell? at b ⊢;rw [a.block _ c e f];exact b
 rcases a.pg _ l with g|g;·exact f g
 omega
theorem Sf.ofPut (i:Sx T Q n bud m w) (d:w.heap[g]?=some (.cells c 5)) (l:w.cell? ⟨Q,k*3+2,none⟩=some (Vl g 1024 1024)) (h:w.grownBy w' (some g)):Sf Q w w':=by
 obtain⟨r,f,_⟩:=i.row;have a:Q≠g:=by
  intro e;subst e;rw [f] at d;simp at d
 have o:w'.heap[Q]?=w.heap[Q]?:=h.block Q (ai f) (by simpa using a);refine⟨h.os,h.tape,h.output,h.size,λx p _ q=>h.block x p (λe=>q ⟨k,by rw [l];simp at e;rw [e]⟩),λx ⟨j,b⟩=>.inl ⟨j,?_⟩⟩;unfold World.cell? at b ⊢;rw [o] at b;exact b
structure Sa (w:World) (Q Rb A:Nat) (W:World):Prop where
 at_:W.heap[A]?=some (.cells #[I 0,C] 210)
 res:W.heap[Rb]?=some (.cells #[I 0,C] 210)
 fr:Sf Q w W
 hA:A=w.heap.size+1
 hR:Rb=w.heap.size
theorem Sa.next (h:Sa w Q Rb A W) (d:Sx T Q n bud m W) (a:W.heap[g]?=some (.cells c 5)) (f:W.cell? ⟨Q,k*3+2,none⟩=some (Vl g 1024 1024)) (b:W.grownBy W' (some g)):Sa w Q Rb A W':=by
 have i:A≠g:=by intro e;subst e;rw [h.at_] at a;simp at a
 have j:Rb≠g:=by intro e;subst e;rw [h.res] at a;simp at a
 exact⟨(b.block A (ai h.at_) (by simpa using i)).trans h.at_,(b.block Rb (ai h.res) (by simpa using j)).trans h.res,h.fr.trans (Sf.ofPut d a f b),h.hA,h.hR⟩
theorem Sx.other (h:Sx T Q n bud m W) (w:W.grownBy W' (some r)) (x:∀ c t f,W.heap[r]?=some (.cells c t f)->t≠215/\t≠217/\t≠5):Sx T Q n bud m W':=by
 have a:∀ (g:Nat) (c:Array Value) (t:TypeId) (f:Nat×Nat),W.heap[g]?=some (.cells c t f)->(t=215\/t=217\/t=5)->W'.heap[g]?=W.heap[g]?:=by
  intro g c t f b i;refine w.block g (ai b) ?_;intro e;simp at e;subst e;obtain⟨j,o,p⟩:=x c t f b;rcases i with e|e|e;·exact j e
  ·exact o e
  exact p e
 obtain⟨c,s,y,i,b⟩:=h.row;refine⟨(a _ _ _ _ h.box (.inl rfl)).trans h.box,⟨c,(a _ _ _ _ s (.inr (.inl rfl))).trans s,y,λk z=>?_,b⟩,h.out⟩;have d:=i k z;cases u:m k with
 | none=>rw [u] at d;exact d
 | some q =>
  obtain⟨l,xs⟩:=q;rw [u] at d;obtain⟨j,o,A,g,p,v⟩:=d;exact⟨j,o,A,g,p,(a _ _ _ _ v (.inr (.inr rfl))).trans v⟩
theorem Sf.newBlock (h:Sf Q w W) (l:w.heap.size<=r) (c:r≠Q) (a:Array Value):Sf Q w (W.setRow r a):=by
 have b:=al W r a;refine⟨b.os.trans h.os,b.tape.trans h.tape,b.output.trans h.output,Fg h.size b.size,λg f i k=>?_,λg ⟨j,d⟩=>h.pg g ⟨j,?_⟩⟩
 ·have e:r≠g:=Z;have:(W.setRow r a).heap[g]?=W.heap[g]?:=by simp [World.setRow,Fp,e]
  rw [this];exact h.block g f i k
 have:(W.setRow r a).heap[Q]?=W.heap[Q]?:=by simp [World.setRow,Fp,c]
 unfold World.cell? at d ⊢;rw [this] at d;exact d
theorem Sa.done (h:Sa w Q Rb A W) (b:Q<w.heap.size) (a:Array Value):Sf Q w (W.setRow Rb a) :=
 h.fr.newBlock (by have:=h.hR;omega) (by have:=h.hR;omega) a
theorem ji (T Q nn bud m) (a:Nat) (n) (cap:Nat) (d ys w) (b:Sx T Q nn bud m w) (j:Dt Q w d n ys) (v:nn<=4096) (h2:n<=4096) (ha:a+n<18446744073709551616) (l:∀ i,i<n->isOpen (m ((a+i)/1024))=true) (f:∀ W,D w W->Calls prog 171 #[.pointer (some ⟨T,0,none⟩),.int .u64 a,.int .i64 n] W λe w'=>e=.returned (.int .i64 0)/\w'=W) :
  Calls prog 129 #[.pointer (some ⟨T,0,none⟩),.int .u64 a,.slice d n cap] w λe w'=>e=.returned (.agg #[.int .i64 0,.slice none 0 0])/\Sx T Q nn bud (ax m a ys n) w'/\Sf Q w w':=by
 have L:=H f;have z:=H b;have M:=H l;have N:=H j;clear f b l j;go_enter func129,ntmps129;go_wp2_with fail;refine (L.out _ ((Fc _ _).alloc (Fe _) _)).mono ?_;rintro _ w1 ⟨rfl,rfl⟩;have b:D w ((w.alloc (.cells #[.int .i64 0,.slice none 0 0] 210)).alloc (.cells #[.int .i64 0,.slice none 0 0] 210)):=((Fc _ _).alloc (Fe _) _).alloc (by rw [aF];omega) _;have o:Hid (Sa w Q w.heap.size (w.heap.size+1) ((w.alloc (.cells #[.int .i64 0,.slice none 0 0] 210)).alloc (.cells #[.int .i64 0,.slice none 0 0] 210))) :=
  ⟨by rw [<-aF w];exact ao _ _,by rw [ej _ _ _ (by rw [aF];omega)];exact ao _ _,Sf.ofBelow b z.ltQ,rfl,rfl⟩
 have B:=H (z.below b);have O:=H z.ltQ;clear b;go_wp2;generalize (w.alloc (Obj.cells #[Value.int IntKind.i64 0,Value.slice none 0 0] 210)).alloc (Obj.cells #[Value.int IntKind.i64 0,Value.slice none 0 0] 210)=W0 at o B ⊢;generalize P:w.heap.size+1=A at o ⊢;generalize R:w.heap.size=Rb at o ⊢;go_loopw [8] (λi wr=>∃ k:Nat,k<=n/\i=.int .i64 k/\Hid (Sa w Q Rb A wr/\Sx T Q nn bud (ax m a ys k) wr)) (λi _=>n-(intOf i).toNat);case atStart=>exact ⟨0,Fs _,rfl,o.out,B.out⟩
 case round =>
  obtain⟨k,hk,rfl,b⟩:=hrel;have F:wr.cell? ⟨A,0,none⟩=some (.int .i64 0):=by simp [World.cell?,b.1.at_]
  by_cases p:k<n
  ·obtain⟨x,rfl,S,_⟩:=(N.keep b.1.fr).cell k p;have j:isOpen (ax m a ys k ((a+k)/1024))=true:=(by rw [ez];exact M.out k p);cases u:ax m a ys k ((a+k)/1024) with
   | none=>rw [u] at j;cases j
   | some q =>
    obtain⟨l,xs⟩:=q;have V:=H (t_ T Q nn bud (ax m a ys k) (a+k) (ys[k]?.getD 0) wr b.2 v Z u);have X:=H (show ax m a ys (k+1)=eb (ax m a ys k) ((a+k)/1024) (some (l,xs.set ((a+k)%1024) (ys[k]?.getD 0))) by simp only [ax,dX,u];rfl);have m1:IntKind.u64.wrap (k:Int)=(k:Int):=(by rw [IntKind.wrap_u64];omega);have Y:=H (show (a:Int)+(k:Int)=((a+k:Nat):Int) by omega);clear u j;generalize ys[k]?.getD 0=y at *;go_wp2_with fail;rw [Y.out];refine (V.out).mono ?_;rintro e w2 ⟨rfl,r,g,c,G,s,t⟩;have K:=H (IB (b.1.next b.2 G s t) r);clear r G s t b S F;go_wp2;go_roundw;(case rel=>exact ⟨k+1,Z,aY,K.1,by rw [X.out];exact K.2⟩);case measure=>simp [intOf];omega
  have j:k=n:=Z;subst j;clear o B;go_wp2_with (first|(refine F8 rfl 210 _ rfl _ rfl _ _ _ _ b.1.at_ underlying210 rfl E ?_)|(refine eF b.1.res ?_));refine fp (aw b.1.res _) underlying210 ?_;exact⟨rfl,b.2.other (al wr Rb _) (λc t f e=>by rw [b.1.res] at e;cases e;exact⟨av,av,av⟩),b.1.done O.out _⟩
theorem Tryz.info92:(prog.info? 217).map (λi=>(i.zero,i.size,i.bytes))=some (some (.agg #[.bool false,.bool false,C]),3,32):=E
theorem kY (z:Array Value) (n i:Nat) (a:i<n):(madeCells z n)[i]?=some (z[i%z.size]!):=by
 simp [madeCells,a]
theorem Sx.made (w:World) (n bud):Sx (w.heap.size+1) w.heap.size n bud (λ_=>none) ((w.alloc (.cells (madeCells #[.bool false,.bool false,C] (n*3)) 217)).alloc (.cells #[Vl w.heap.size n n,I bud] 215)):=by
 refine⟨by rw [<-aF w (.cells (madeCells #[.bool false,.bool false,C] (n*3)) 217)];exact ao _ _,⟨_,by rw [ej _ _ _ (by rw [aF];omega)];exact ao _ _,size_madeCells _ _,λk d=>?_,λj k g f d b _=>?_⟩,λ_ _=>rfl⟩
 ·have c:k*3%3=0:=Z;have e:(k*3+1)%3=1:=Z;have a:(k*3+2)%3=2:=Z;refine⟨?_,?_,?_⟩;·rw [kY _ _ _ Z];show some ((#[Value.bool false,.bool false,C]:Array Value)[k*3%3]!)=_;rw [c];rfl
  ·rw [kY _ _ _ Z];show some ((#[Value.bool false,.bool false,C]:Array Value)[(k*3+1)%3]!)=_;rw [e];rfl
  rw [kY _ _ _ Z];show some ((#[Value.bool false,.bool false,C]:Array Value)[(k*3+2)%3]!)=_;rw [a];rfl
 have a:(j*3+2)%3=2:=Z;rw [kY _ _ _ Z] at b;have c:some ((#[Value.bool false,.bool false,C]:Array Value)[(j*3+2)%3]!)=some (Value.slice (some ⟨g,0,none⟩) 1024 1024):=b;rw [a] at c;cases c
theorem BL (n:Nat) (bud) (w:World) (k:n<=4096) :
  Calls prog 121 #[I n,I bud] w λe w'=>∃ T Q,e=.returned (J T 0)/\Sx T Q n bud (λ_=>none) w'/\D w w'/\w.heap.size<=T/\w.heap.size<=Q:=by
 obtain⟨d,f,a,b,c⟩:=GI Tryz.info92;have g:(Instr.makeSlice 213 (I n) (I n)).run prog w=.ok (Vl w.heap.size n n) (w.alloc (.cells (madeCells #[.bool false,.bool false,C] (n*3)) 217)):=by
  have:=run_make (P:=prog) w 213 217 d _ underlying213 f a .i64 .i64 n n Z (Int.le_refl _) (by rw [c];omega) Z;rw [b] at this;simpa [Value.cells] using this
 have i:=H (Sx.made w n bud);have j:Hid (D w ((w.alloc (.cells (madeCells #[.bool false,.bool false,C] (n*3)) 217)).alloc (.cells #[Vl w.heap.size n n,I bud] 215))):=H (((Fc _ _).alloc (Fe _) _).alloc (by rw [aF];omega) _);generalize madeCells #[.bool false,.bool false,C] (n*3)=l at *;go_enter func121,ntmps121;go_wp2;go_ret;exact⟨_,_,rfl,i.out,j.out,Z,Z⟩
theorem Sx.pgT (f:Sx T Q n bud m W) (i:ft Q W g):∃ c,W.heap[g]?=some (.cells c 5):=by
 obtain⟨k,j⟩:=i;obtain⟨o,p,u,r,_⟩:=f.row;have a:o[k*3+2]?=some (Vl g 1024 1024):=by simpa [World.cell?,p] using j
 have d:k<n:=by
  by_cases b:k<n;·exact b
  rw [GP Z] at a;cases a
 have b:=r k d;cases e:m k with
 | none=>rw [e] at b;rw [b.2.2] at a;simp at a
 | some q =>
  obtain⟨l,xs⟩:=q;rw [e] at b;obtain⟨_,_,_,v,s,t⟩:=b;rw [s] at a;simp at a;subst a;exact⟨_,t⟩
theorem mK (h:W.ownsRow base e size v n xs) (b:v.ownBlock=some g):∃ c,W.heap[g]?=some (.cells c e):=by
 rcases h.2 with ⟨rfl,_⟩|⟨f,cap,d,rfl,i,a,_⟩;·cases b
 cases b;exact⟨_,a⟩
end
section
open Go.ChangeShapes Go.WideShapes Go.ChangeAt Go.RowKit
theorem dO {Q:Exit->Act->World->Prop} {o:Oper} {K:Act->World->Prop} {a:Act} (b:ops[i]?=some o) (c:Region.wanted o (yielded ops a.tmps)=true)
  (h:∀ K':Act->World->Prop,Hid (∀ a w,K a w->K' a w)->o.wp P a w K' Q):wpOp P ops Q i K a w:=by
 unfold wpOp;simp only [b,c,Iv];exact .inl (h K λ_ _ h=>h)
theorem ci {md:Region.Mode} {Q:Exit->Act->World->Prop} {S:World->Prop} {a:Act} (b:Region.ready md ops listed=[r])
  (h:wpOp P ops Q r (λc w'=>S w'/\wpAnyH P md ops Q S fuel (listed.setIfInBounds r true) c w') a w):wpAnyH P md ops Q S (fuel+1) listed a w :=
 wpAnyH_all b bF (λi b=>by
  obtain rfl:i=r:=by simpa using b
  exact h)
theorem bv {md:Region.Mode} {Q:Exit->Act->World->Prop} {S:World->Prop} {d:Nat} {b:Oper} {a:Act} (f:ops[i]?=some b) (g:b.dst=some d)
  (j:Region.noSelect ops=true) (k:Region.free md ops listed i=true) (l:(Region.ready md ops listed).contains i=true)
  (m:∀ c a w,Q (.panic c) (a.put b.dst v) w->Q (.panic c) a w) (n:YieldsIf P ops S b v a) (o:S w)
  (h:wpAnyH P md ops Q S fuel (listed.setIfInBounds i true) { a with tmps:=a.tmps.setIfInBounds d v } w):wpAnyH P md ops Q S (fuel+1) listed a w :=
 wpAnyH_take f j k l m n o (by
  have e:a.put b.dst v={ a with tmps:=a.tmps.setIfInBounds d v }:=by rw [g];rfl
  rw [e];exact h)
theorem dI (h:W.heap[R]?=some o):R<W.heap.size:=by
 by_cases a:R<W.heap.size;·exact a
 have:W.heap[R]?=none:=GP Z;rw [this] at h;cases h
structure But (S:Nat->Prop) (w w':World):Prop where
 os:w'.os=w.os
 tape:w'.tape=w.tape
 output:w'.output=w.output
 size:w.heap.size<=w'.heap.size
 block:∀ k,k<w.heap.size->¬S k->w'.heap[k]?=w.heap[k]?
theorem But.refl (S w):But S w w:=⟨rfl,rfl,rfl,Fe _,λ_ _ _=>rfl⟩
theorem But.trans {S a b c} (h:But S a b) (k:But S b c):But S a c :=
 ⟨k.os.trans h.os,k.tape.trans h.tape,k.output.trans h.output,Fg h.size k.size,λg d e=>(k.block g (Fq d h.size) e).trans (h.block g d e)⟩
theorem But.mono {c:Nat->Prop} (h:But S a b) (k:∀ g,S g->c g):But c a b :=
 ⟨h.os,h.tape,h.output,h.size,λg d e=>h.block g d λf=>e (k g f)⟩
theorem But.ofGrown (h:a.grownBy b (some g)) (k:S g):But S a b :=
 ⟨h.os,h.tape,h.output,h.size,λj d e=>h.block j d λc=>by
  simp at c;subst c;exact e k⟩
theorem But.ofBelow (h:D a b):But S a b:=⟨h.os,h.tape,h.output,h.size,λj c _=>h.block j c⟩
theorem But.below {B:Nat} (h:But S a b) (d:B<=a.heap.size) (k:∀ g,S g->B<=g):Below B a b :=
 ⟨h.os,h.tape,h.output,h.size,λj e=>h.block j Z λc=>by have:=k j c;omega⟩
theorem But.drew {S a b} (h:But S a b):But S a b.drew:=⟨h.os,h.tape,h.output,h.size,h.block⟩
theorem But.set (h:But S a b) (g i:Nat) (v:Value) (k:S g):But S a (b.setCell ⟨g,i,none⟩ v) :=
 h.trans (.ofGrown (au (ar b g) i v) k)
theorem fa (h:a.grownBy b (some g)) (d:a.heap[k]?=some o) (c:k≠g):b.heap[k]?=some o:=by
 rw [h.block k (dI d) (by simpa using c)];exact d
theorem RowV.ne {t:TypeId} {f:Nat×Nat} (h:RowV w r e xs) (k:w.heap[g]?=some (.cells c t f)) (a:e≠t):g≠r:=by
 obtain⟨d,b,_⟩:=h;rintro rfl;rw [b] at k;simp at k;exact a k.2.1
theorem RowV.but (h:RowV w r e xs) (b:But S w w') (d:¬S r):RowV w' r e xs:=by
 obtain⟨c,a,f⟩:=h;exact⟨c,by rw [b.block r (dI a) d];exact a,f⟩
theorem But.at (a:But S w w') (h:w.heap[g]?=some o) (b:¬S g):w'.heap[g]?=some o:=by
 rw [a.block g (dI h) b];exact h
def cQ (n:Nat) (xs:List Int) (x:Int):List Int×Int:=if xs.length<n then (xs++[x],-1) else (xs.tail++[x],xs[0]?.getD 0)
def Qu (w:World) (G r n:Nat) (xs:List Int):Prop :=
 ∃ (ps:List Int) (o h:Nat),w.heap[G]?=some (.cells #[Vl r n n,I o,I h] 167)/\RowV w r 3 (Ns .i64 ps)/\ps.length=n/\o<n/\h<=n/\(h<n->o=0)/\xs=(ps.drop o++ps.take o).take h
theorem Qu.but {S w w' G r n xs} (h:Qu w G r n xs) (d:But S w w') (e:¬S G) (f:¬S r):Qu w' G r n xs:=by
 obtain⟨ps,o,h,a,b,c⟩:=h;exact⟨ps,o,h,d.at a e,b.but d f,c⟩
theorem Qu.len {G xs} (h:Qu w G r n xs):xs.length<=n:=by
 obtain⟨ps,o,h,a,b,c,d,e,f,rfl⟩:=h;simp;omega
theorem te (G r n h:Nat) (ps:List Int) (x d:Int) (w:World) (a:w.heap[G]?=some (.cells #[Vl r n n,I (0:Nat),I h] 167)) (c:RowV w r 3 (Ns .i64 ps)) (g:ps.length=n) (f:h<n) (p:n<=1024) :
 Calls prog 272 #[J G 0,I x,I d] w λe w'=>e=.returned (I (-1))/\w'.heap[G]?=some (.cells #[Vl r n n,I (0:Nat),I (h+1:Nat)] 167)/\RowV w' r 3 (Ns .i64 (ps.set h x))/\But (λk=>k=G\/k=r) w w':=by
 have b:G≠r:=c.ne a av;have q:w.cell? ⟨G,0,none⟩=some (Vl r n n):=bY a;have s:w.cell? ⟨G,1,none⟩=some (I (0:Nat)):=bY a;have t:w.cell? ⟨G,2,none⟩=some (I h):=bY a;have i:(h:Int)<(n:Int):=Z;have u:=H (lh G r n n 0 h h ps x w.drew.drew (by rw [FP,Hi f]) g Z Z Z Z q s c);have j:=H a;clear a c g;go_enter func272,ntmps272;go_wp2;go_region;go_wp2;refine rh (S:=λW=>W.cell? ⟨G,2,none⟩=some (I h)/\Hid (W.heap[G]?=some (.cells #[Vl r n n,I (0:Nat),I h] 167))) ?_;have g:=(show _/\Hid _ from ⟨t,j⟩);iterate 9 (refine py g ?_;simp only [f0,f1,Nat.reduceAdd,lz,l0,ls])
 refine ci (r:=9) E ?_;refine dO rfl E (λK' l=>?_);go_simp;refine (u).mono ?_;rintro e m ⟨rfl,o,c⟩;have a:=H (fa (k:=G) c j b);refine l _ _ ⟨⟨bY a.out,a⟩,?_⟩;have v:=H o;have y:=H c;clear g o c;clear l K';refine bN ?_;have c:m.cell? ⟨G,2,none⟩=some (I h):=bY a.out;have g:m.frozen? ⟨G,2,none⟩=false:=GG _ _ _ _ _ a.out;go_wp2;go_ret;refine⟨rfl,?_,?_,?_⟩;·rw [Hm _ _ _ _ _ _ a.out];rfl
 ·exact v.other (by simpa using b.symm) _
 exact ((But.refl _ w).drew.drew.trans (.ofGrown y (.inr rfl))).set _ _ _ (.inl rfl)
end
section
open Go.ChangeShapes Go.WideShapes Go.ChangeAt Go.RowKit Go.Shelf Go.Maps
theorem mq {c:World} {r:Option Nat} (h:a.grownBy b r) (k:b.grownBy c r):a.grownBy c r :=
 ⟨k.os.trans h.os,k.tape.trans h.tape,k.output.trans h.output,Fg h.size k.size,λg d e=>(k.block g (Fq d h.size) e).trans (h.block g d e)⟩
theorem grown_of (h:D a b) (R:Nat):a.grownBy b (some R):=⟨h.os,h.tape,h.output,h.size,λg c _=>h.block g c⟩
theorem IsRow.byte {a:Option Addr} {d:Nat} {e:List Int} (h:IsRow .u8 w a d cap e) (i:Nat) (l:i<d):∃ x c,a=some x/\0<=c/\c<=255/\w.cell? (x.add i)=some (.int .u8 c):=by
 rcases h with ⟨_,rfl,_,rfl⟩|⟨x,g,m,n,o,j,k⟩;·omega
 ·have b:i<e.length:=Z;have f:=bounds_u8 (k _ (Ie b));refine⟨x,_,g,f.1,f.2,?_⟩;rw [j i b];simp [b]
structure Rd (w0 : World) (a : Option Addr) (len cap : Nat) (R : Nat) (b0 W : World) : Prop where
  box : ∃ i : Nat, i<=len/\W.heap[R]? = some (.cells #[.slice a len cap, .int .i64 i] 71)
  bel : D w0 W
  new : w0.heap.size<=R
  g : b0.grownBy W (some R)
theorem Rd.below {a len} (h:Rd w0 a len cap R b0 W) (b:D W W'):Rd w0 a len cap R b0 W':=by
 obtain⟨i,d,c⟩:=h.box;exact⟨⟨i,d,by rw [b.block R (ai c)];exact c⟩,az h.bel b,h.new,mq h.g (grown_of b R)⟩
theorem Rd.drew {w0 b0 a len cap R W} (h:Rd w0 a len cap R b0 W):Rd w0 a len cap R b0 W.drew:=h.below (Fc _ _).drew
theorem ca (w0:World) (a:Option Addr) (d cap:Nat) (p:List Int) (k:IsRow .u8 w0 a d cap p) (l:d<=1048576) (R b0 W) (g:Rd w0 a d cap R b0 W) :
  Calls prog 28 #[.pointer (some ⟨R,0,none⟩)] W λe W'=>(∃ c:Nat,c<=255/\e=.returned (.int .i64 c))/\Rd w0 a d cap R b0 W':=by
 obtain⟨i,s,b⟩:=g.box;have t:W.cell? ⟨R,0,none⟩=some (.slice a d cap):=by simp [World.cell?,b]
 have u:W.cell? ⟨R,1,none⟩=some (.int .i64 i):=by simp [World.cell?,b]
 have f1:W.frozen? ⟨R,1,none⟩=false:=by simp [World.frozen?,b]
 have f:=H g;have q:=H b;clear b g;by_cases j:i<d
 ·obtain⟨x,c,rfl,b,r,g⟩:=k.byte i j;obtain⟨c,rfl⟩:=GM b;have m:=ad f.bel g;have n:=H (show Rd w0 (some x) d cap R b0 (W.setCell ⟨R,1,none⟩ (.int .i64 (i+1:Nat))) from ⟨⟨i+1,Z,by simp [World.setCell,Fp,q.out]⟩,f.bel.setCell f.new _,f.new,mq f.g (au (ar W R) 1 _)⟩);have o:((i+1:Nat):Int)=(i:Int)+1:=Z;rw [o] at n;clear g k b o;go_enter func28,ntmps28;go_wp2;go_region;go_wp2;go_region;go_wp2;go_ret;exact⟨⟨c,Z,rfl⟩,n.drew.drew⟩
 ·go_enter func28,ntmps28;go_wp2;go_region;go_wp2;go_ret;exact⟨⟨0,Z,rfl⟩,f.drew⟩
theorem Rd.at {a len} (h:Rd w0 a len cap R b0 W):Rd w0 a len cap R W W:=⟨h.box,h.bel,h.new,ar W R⟩
theorem Rd.of {a len} (h:Rd w0 a len cap R b0 W) (k:Rd w0 a len cap R W W'):Rd w0 a len cap R b0 W':=⟨k.box,k.bel,k.new,mq h.g k.g⟩
theorem Rd.app {a len} {f:World} (h:Rd w0 a len cap R b0 W) {c:Option Nat} (b:W.grownBy f c) (d:∀ r,c=some r->b0.heap.size<=r/\R<r):Rd w0 a len cap R b0 f:=by
 obtain⟨i,l,g⟩:=h.box;refine⟨⟨i,l,?_⟩,h.bel.grown b h.bel.size (λr e=>?_),h.new,⟨b.os.trans h.g.os,b.tape.trans h.g.tape,b.output.trans h.g.output,Fg h.g.size b.size,λk j m=>(b.block k (Fq j h.g.size) (λe=>?_)).trans (h.g.block k j m)⟩⟩
 ·rw [b.block R (ai g) (λe=>by have:=(d R e.symm).2;omega)];exact g
 ·have:=(d r e).2;have:=h.new;omega
 ·have:=(d k e.symm).1;omega
theorem Rd.lt {a len} (h:Rd w0 a len cap R b0 W):R<W.heap.size:=by obtain ⟨_,_,e⟩:=h.box;exact ai e
theorem cO (w0:World) (a:Option Addr) (b cap:Nat) (n:List Int) (d:IsRow .u8 w0 a b cap n) (f:b<=1048576) (R b0 W) (g:Rd w0 a b cap R b0 W) :
  Calls prog 57 #[.pointer (some ⟨R,0,none⟩)] W λe W'=>(∃ c:Int,0<=c/\c<=18446744073709551615/\e=.returned (.int .u64 c))/\Rd w0 a b cap R b0 W':=by
 have N:=H (λW h=>ca w0 a b cap n d f R b0 W h);have q:=H g;clear g d;go_enter func57,ntmps57;go_wp2;go_loopw [3,4] (λx i wr=>∃ (k:Nat) (c:Int),k<=8/\i=.int .i64 k/\x=.int .u64 c/\0<=c/\c<=18446744073709551615/\Hid (Rd w0 a b cap R b0 wr)) (λ_ i _=>8-(intOf i).toNat);case atStart=>exact ⟨0,0,Z,rfl,rfl,Z,Z,q⟩
 case round =>
  obtain⟨k,c,u,rfl,rfl,j,l,g⟩:=hrel;by_cases r:k<8
  ·have o:0<=IntKind.u64.wrap (c*256)/\IntKind.u64.wrap (c*256)<=18446744073709551615:=(by rw [IntKind.wrap_u64];omega);go_wp2_with fail;refine (N _ g).mono ?_;rintro e v ⟨⟨d,w,rfl⟩,p⟩;have s:=H p;clear p;generalize IntKind.u64.wrap (c*256)=m at o ⊢;obtain⟨m,rfl⟩:=GM o.1;have p:bits BinOp.or IntKind.u64 (m:Int) (d:Int)=((m|||d:Nat):Int):=bits_or_u64_nat m d Z Z;have t:m|||d<2 ^ 64:=Nat.or_lt_two_pow Z Z
   generalize m|||d=y at p t
   go_wp2;go_roundw;(case rel=>exact ⟨k+1,(y:Int),Z,aY,rfl,Z,Z,s⟩);case measure=>simp [intOf];omega
  ·go_wp2;go_ret;exact⟨⟨c,j,l,rfl⟩,g⟩
end
section
open Go.RowKit Go.Shelf Go.Maps
theorem eW (h:W.ownsRow base e size v n xs):∃ a b c,v=.slice a b c:=by
 rcases h.2 with ⟨rfl,_⟩|⟨g,cap,d,rfl,_⟩ <;> exact ⟨_,_,_,rfl⟩
theorem cW (w0:World) (a:Option Addr) (d cap:Nat) (F:List Int) (l:IsRow .u8 w0 a d cap F) (j:d<=1048576) (R) (n:Nat) (hn:n<=10000) (b0 W) (g:Rd w0 a d cap R b0 W) :
  Calls prog 59 #[.pointer (some ⟨R,0,none⟩),.int .i64 n] W λe W'=>∃ v f,e=.returned v/\f.length=n/\(∀ y∈f,0<=y/\y<=255)/\W'.ownsRow W.heap.size 5 1 v n (Ns .u8 f)/\Rd w0 a d cap R b0 W':=by
 obtain⟨S,q,s,t,u⟩:=GI Tryz.info5By;have T:=H (λV (w:Rd w0 a d cap R V V)=>ca w0 a d cap F l j R V V w);have G:=H g.at;have z:=H (λV (w:Rd w0 a d cap R W V)=>g.of w);have K:=H g.lt;clear l g;go_enter func59,ntmps59;go_wp2;go_loopw [5,6] (λv i wr=>∃ (k:Nat) (f:List Int),k<=n/\i=.int .i64 k/\f.length=k/\Hid (∀ y∈f,0<=y/\y<=255)/\Hid (wr.ownsRow W.heap.size 5 1 v k (Ns .u8 f))/\Hid (Rd w0 a d cap R W wr)) (λ_ i _=>n-(intOf i).toNat);case atStart=>exact ⟨0,[],Fs _,rfl,rfl,H (λy g=>by cases g),H ⟨rfl,.inl ⟨rfl,rfl⟩⟩,G⟩
 case round =>
  obtain⟨k,f,hk,rfl,g,L,l,p⟩:=hrel;clear G;obtain⟨va,vb,vc,rfl⟩:∃ a b c,u5=.slice a b c:=eW l.out;have M:=H g;clear g;by_cases X:k<n
  ·go_wp2_with fail;refine (T _ p.at).mono ?_;rintro e w1 ⟨⟨c,hc,rfl⟩,o⟩;have x:=o.g;have m:∀ {v:Value} {xs:List Value} {j:Nat},wr.ownsRow W.heap.size 5 1 v j xs->v.ownBlock≠some R:=λY e=>by have:=(Y.lt R e).1;have:=K.out;omega
   have N:=H (l.kept x (.inr (m l)));have A:=H (p.of o);clear o x m l p;have B:=H (N.alloc (.cells #[.int .u8 (c:Int)] 5));go_wp2_with (at_builtin;refine Hl _ rfl _ _ 22 rfl W.heap.size 5 S (.int .u8 0) 1 1 underlying22 q s t u rfl Z _ _ _ rfl B _ 1 1 [.int .u8 (c:Int)] rfl rfl ?hc ?h1c ?b1 ?b2 ?b3 ?_);(case hc=>exact eG _ _ _ _ bF);(case h1c=>intro x O;simp at O;subst O;rfl);(case b1=>unfold maxLen;omega);(case b2=>omega);(case b3=>have:=A.g.size;simp;omega);intro v1 P m o _;have Q:=cN B.out;have D9:=H (show Rd w0 a d cap R W P from by
    have D8:=A.below ((Fc _ _).alloc (Fe _) (.cells #[.int .u8 (c:Int)] 5));exact D8.app o λr d=>by have:=Q _ d;have:=K.out;omega)
   have O9:=H (show P.ownsRow W.heap.size 5 1 v1 (k+1) (Ns .u8 (f++[(c:Int)])) by simpa [Ns] using m);clear m o Q B N A;go_wp2;go_roundw;(case rel=>exact ⟨k+1,f++[(c:Int)],Z,aY,by simp [M.out],H (λy g=>by rcases FM.1 g with g|g;exact L y g;obtain rfl:=List.mem_singleton.1 g;omega),O9,D9⟩);case measure=>simp [intOf];omega
  ·have:k=n:=Z;subst this;go_wp2;go_ret;exact⟨_,f,rfl,M,L,l,z _ p⟩
end
end Go.Proofs.YtdngbppdomoenaaGreatDoor
