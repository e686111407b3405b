import Derived.Shelf.SlSortCmp.NoneTotal
import Derived.Test.YtdngbppdomoenaaGreatDoorN44
set_option linter.unusedVariables false
set_option linter.unusedSimpArgs false
set_option maxRecDepth 20000
set_option maxHeartbeats 8000000
namespace Go.Proofs.YtdngbppdomoenaaGreatDoor
open Go.Proofs.Tryz
variable {V w:World} {N b g:Nat} {rg:List Rg9} {bs:List Nat} {d:Array Nat}
section
open Go.RowKit Go.Maps
theorem A1 (w:World):(binOp .eql 34 (C) (C)).run prog w=.ok (.bool true) w:=E
theorem Cm (x:Addr) (n c:Nat) (w:World):(binOp .eql 34 (.slice (some x) n c) (C)).run prog w=.ok (.bool false) w:=E
theorem oS (W:World):Calls prog 80 #[C] W λe a=>e=.returned (C)/\a=W:=by
 have b:=A1;go_enter func80,ntmps80;go_wp2;go_ret;exact⟨rfl,rfl⟩
theorem p_ (x:Addr) (c:Nat) (l) (W:World) (f:∀ j u,(Us l)[j]?=some u->W.cell? (x.add j)=some u) (o:l.length<=100000) :
  Calls prog 80 #[.slice (some x) l.length c] W λe g=>∃ v,e=.returned v/\g.ownsRow W.heap.size 23 1 v l.length (Us l)/\D W g:=by
 have b:D W (W.alloc (.cells #[] 23)):=(Fu _ _).alloc (Fv _) _;obtain⟨p,a,d,i,k⟩:=jQ (W.alloc (.cells #[] 23)) W.heap.size (Vl W.heap.size 0 0) [] l x c ⟨rfl,.inr ⟨W.heap.size,0,#[],rfl,Fv _,ao W _,Fv _,FH _,rfl,rfl⟩⟩ (λj u a=>ad b (f j u a)) (by simpa using o) b.size;have m:=H (IT i (b.grown k b.size (λr a=>by simp [Value.ownBlock] at a;omega)));clear i k b f;generalize b:l.length=n at *;have f:=Cm x n c;go_enter func80,ntmps80;go_wp2_with (at_builtin;refine cY rfl _ _ rfl rfl rfl rfl d ?_);go_wp2;go_ret;exact⟨_,rfl,by simpa [b] using m.1,m.2⟩
theorem xt (B v l W) (h:Um B W v l) (i:l.length<=100000) :
  Calls prog 80 #[v] W λe b=>∃ a,e=.returned a/\b.ownsRow W.heap.size 23 1 a l.length (Us l)/\D W b:=by
 rcases h with ⟨rfl,rfl⟩|⟨g,o,d,c,rfl,n,k,p,q,m⟩;·refine (oS W).mono ?_;rintro e b ⟨rfl,rfl⟩;exact⟨_,rfl,⟨rfl,.inl ⟨rfl,rfl⟩⟩,Fu _ _⟩
 refine p_ ⟨g,o,none⟩ d l W (λj u f=>?_) i;have a:j<l.length:=by have:=(Fz.1 f).1;simpa [fK] using this
 rw [Addr.add_mid,GT _ _ _ _ _ _ k,m.2.2 j a,<-f];simp [Us,a]
theorem vO {d t:Nat} {a b c:Value} (h:V.heap[d]?=some (.cells #[a,b,c] t)):V.cell? ⟨d,0,none⟩=some a/\V.cell? ⟨d,1,none⟩=some b/\V.cell? ⟨d,2,none⟩=some c:=by
 refine⟨?_,?_,?_⟩ <;> (rw [GT _ _ _ _ _ _ h];rfl)
structure Rx9 (cf:Cf) (h:Hs) (W:World) (ws:List (Value×Value)) (vo vs vw:Value) (V:World):Prop where
 r:Rw9 h W vo vs V
 w:Wt8 cf h W ws vw V
theorem Rx9.ky {cf h W ws vo vs vw V V' S} (x:Rx9 cf h W ws vo vs vw V) (k:Ky S V V') (a:¬S 3) (b:¬S 51) (c:¬S 68):Rx9 cf h W ws vo vs vw V':=⟨x.r.ky k a b,x.w.ky k c a⟩
theorem Rx9.below {cf h W ws vo vs vw V V'} (x:Rx9 cf h W ws vo vs vw V) (b:D V V'):Rx9 cf h W ws vo vs vw V':=x.ky (Ky.below b:Ky (λ_=>False) _ _) (λe=>e) (λe=>e) (λe=>e)
def gS (rg:List Rg9) (b:Nat):List Rg9:=rg.filter λr=>decide (r.base=b)
theorem zl (b:(rg.map (·.base)).Nodup) {a:Rg9} (ha:a∈rg):gS rg a.base=[a]:=by
 unfold gS;induction rg with
 | nil=>cases ha
 | cons r l c =>
  rw [It,GI] at b;rcases F4.1 ha with rfl|ha;·rw [Hn bH,IC.2];intro x d;simp;intro e;exact b.1 (FQ.2 ⟨x,d,e⟩)
  rw [Ix,c b.2 ha];simp;intro e;exact b.1 (FQ.2 ⟨a,ha,e.symm⟩)
theorem flatMap_one {l:List Rg9} (c:(rg.map (·.base)).Nodup) (b:∀ a∈l,a∈rg):(l.map (·.base)).flatMap (gS rg)=l:=by
 induction l with
 | nil=>rfl
 | cons a l d =>
  rw [It,If,zl c (b a bH),d (λx a=>b x (by simp [a]))];rfl
theorem yw (a:(rg.map (·.base)).Nodup) (b:bs.Perm (rg.map (·.base))):(bs.flatMap (gS rg)).Perm rg:=by
 refine (b.flatMap_right _).trans ?_;rw [flatMap_one a (λa h=>h)]
theorem sf (rg) (e:bs.Pairwise (· <= ·)):(bs.flatMap (gS rg)).Pairwise (λa b=>a.base<=b.base):=by
 rw [List.pairwise_flatMap];refine⟨λb _=>?_,e.imp (λ{a b} f x c y d=>?_)⟩;·refine List.Pairwise.imp_of_mem (R:=λ_ _=>True) (λ{x y} c d _=>?_) (List.pairwise_of_forall (λ_ _=>trivial));simp [gS] at c d;omega
 simp [gS] at c d;omega
theorem xA {cf h} (i:Inv cf h):(h.rg.map (·.base)).Nodup:=by
 unfold List.Nodup;rw [List.pairwise_map];refine i.apart.imp_of_mem (λ{a b} ha c d e=>?_);have d:=i.rgs a ha;have e:=i.rgs b c;unfold Rg9.base Rg9.ext at *;omega
theorem vY {j:Nat} {r:Rg9} (a:rg[j]?=some r):gS (rg.take (j+1)) b=gS (rg.take j) b++(if r.base=b then [r] else []):=by
 unfold gS;rw [F_,a,Hl];congr 1;by_cases e:r.base=b <;> simp [e,List.filter]
theorem uY {q:Nat} (a:bs[q]?=some b):(bs.take (q+1)).flatMap (gS rg)=(bs.take q).flatMap (gS rg)++gS rg b:=by
 rw [F_,a,Gu];simp
theorem yk (rg b):(gS rg b).length<=rg.length:=Hb _ _
theorem sO (rg) (l:List Nat):(l.flatMap (gS rg)).length<=l.length*rg.length:=by
 induction l with
 | nil=>simp
 | cons a l b =>
  rw [If,FC,FN,Nat.succ_mul];have:=yk rg a;omega
theorem wx (q j b:Nat) (a:rg.length<=302) (d:bs.length<=302):((bs.take q).flatMap (gS rg)++gS (rg.take j) b).length<=100000:=by
 rw [FC];have e:=sO rg (bs.take q);have c:=yk (rg.take j) b;have f:(bs.take q).length*rg.length<=302*302:=Nat.mul_le_mul (by rw [Hm];omega) a;rw [Hm] at c;omega
end
end Go.Proofs.YtdngbppdomoenaaGreatDoor
namespace Go.Proofs
open Go.Shelf Go.RowKit Go.Lib Go.Sort
shelf_lay_g SlLaysF0.n6 Slsf 6 at Tryz 114 as Tryz.sortR
end Go.Proofs
namespace Go.Proofs.YtdngbppdomoenaaGreatDoor
open Go.Proofs.Tryz
variable {V w:World} {N b g:Nat} {rg:List Rg9} {bs:List Nat} {d:Array Nat}
section
open Go.Shelf Go.RowKit Go.Lib Go.Sort
instance : Inhabited Rg9 := ⟨⟨0, 0, 0, 0, 0⟩⟩
def tq (x y : Rg9) : Int := Lib.compareInt (x.base : Nat) (y.base : Nat)
theorem Er (x y:Rg9):ltOf tq x y=decide (x.base<y.base):=by
 unfold ltOf tq Lib.compareInt;by_cases a:x.base<y.base;·simp [a]
 ·by_cases b:y.base<x.base <;> simp [a,b]
theorem Ev:SWO (ltOf tq) where
 irrefl x:=by rw [Er];simp
 trans x y z h1 h2:=by rw [Er] at *;simp at *;omega
 ntrans x y z h1 h2:=by rw [Er] at *;simp at *;omega
set_option maxHeartbeats 1000000 in
set_option maxHeartbeats 1000000 in
theorem sU (x y:Nat) (W:World):Calls prog 116 #[.int .u64 (x:Nat),.int .u64 (y:Nat)] W λe a=>e=.returned (.int .i64 (Lib.compareInt (x:Nat) (y:Nat)))/\a=W:=by
 have b:=H qj;unfold Lib.compareInt;by_cases c:(x:Int)<(y:Int)
 ·rw [GP c];go_enter func116,ntmps116;go_wp2_with fail;refine (b _ _).mono ?_;rintro e a ⟨rfl,rfl⟩;go_wp2_with fail;refine (b _ _).mono ?_;rintro e a ⟨rfl,rfl⟩;go_wp2;go_ret;exact⟨rfl,rfl⟩
 ·rw [GO c];have f:decide ((x:Int)<(y:Int))=false:=GR c;by_cases d:(y:Int)<(x:Int)
  ·rw [GP d];go_enter func116,ntmps116;go_wp2_with fail;refine (b _ _).mono ?_;rintro e a ⟨rfl,rfl⟩;go_wp2_with fail;refine (b _ _).mono ?_;rintro e a ⟨rfl,rfl⟩;go_wp2;go_ret;exact⟨rfl,rfl⟩
  ·rw [GO d];have g:decide ((y:Int)<(x:Int))=false:=GR d;go_enter func116,ntmps116;go_wp2_with fail;refine (b _ _).mono ?_;rintro e a ⟨rfl,rfl⟩;go_wp2_with fail;refine (b _ _).mono ?_;rintro e a ⟨rfl,rfl⟩;go_wp2;go_ret;exact⟨rfl,rfl⟩
set_option maxHeartbeats 1000000 in
theorem zW (x y) (W:World):Calls prog 115 #[.agg (tC x).toArray,.agg (tC y).toArray] W λe b=>e=.returned (.int .i64 (tq x y))/\∃ q a,b=grow (W.drewN q) a:=by
 have a:=H (λV=>sU x.base y.base V);unfold tq;generalize Lib.compareInt (x.base:Nat) (y.base:Nat)=r at *;unfold tC;go_enter func115,ntmps115;go_wp2_with fail;refine (a _).mono ?_;rintro e c ⟨rfl,rfl⟩;go_wp2;go_ret;exact⟨rfl,0,_,by rw [alloc_eq_grow,alloc_eq_grow,grow_grow];rfl⟩
theorem yF (b c a:Nat) (w:World):CmpLays prog 115 #[] tC 5 tq b c a w :=
 λ_ _ _ _ x y=>zW x y _
theorem Cv {a:Array Value} {rs:List Rg9} (c:w.heap[g]?=some (.cells a 66)) (i:a.toList.take (rs.length*5)=dH rs):HoldsK tC 5 w g 0 rs.toArray:=by
 intro j k;have b:j<rs.length*5:=by simpa using k
 refine⟨?_,by simp [World.frozen?,c]⟩;have d:j/5<rs.length:=Z;have e:(dH rs)[j/5*5+j%5]?=(tC rs[j/5])[j%5]?:=eC tC 5 (λ_=>rfl) rs (j/5) _ (Fy d) (j%5) Z;rw [show j/5*5+j%5=j by omega,<-i,Hf b,Gg] at e;rw [Gb,GT _ _ _ _ _ _ c,e,id,get_flatK _ _ _ _ (by simpa using b)];have f:j%5<(tC rs[j/5]).length:=by show j%5<5;omega
 rw [Fy f];congr 1;rw [getElem!_pos rs.toArray (j/5) (by simpa using d)];simp [f]
theorem pP {n:Nat} {f:Array Obj} {a:Array Value} {e:TypeId} {b:Nat×Nat} (d:Array Rg9) (c:w.heap[g]?=some (.cells a e b)) :
  (sortWorldK tC 5 w g 0 n d f).heap[g]?=some (.cells (putCells id 0 (flatK tC 5 d) a) e b):=by
 have i:g<w.heap.size:=(Array.getElem?_eq_some_iff.1 c).1;unfold sortWorldK putRowK;rw [heap_grow_old _ _ (by simpa using i)];simp [putRow,mapBlock,Sort.ahead,FD,c,onCells]
theorem kN {n:Nat} {b:Array Obj} (d:Array Rg9):w.grownBy (sortWorldK tC 5 w g 0 n d b) (some g):=by
 unfold sortWorldK putRowK;refine⟨rfl,rfl,rfl,bH,λk c a=>?_⟩;rw [heap_grow_old _ _ (by simpa using c)];have:g≠k:=λe=>a (by rw [e])
 simp [putRow,mapBlock,Sort.ahead,FD,this]
theorem jC:∀ rs:List Rg9,(dH rs).length=rs.length*5
 | []=>rfl
 | r::rs=>by
  have:=jC rs
  unfold dH at this ⊢
  rw [If,FC,this]
  simp [tC]
  omega
theorem uA (a:Array Value) (rs:List Rg9) (h:rs.length*5<=a.size):(putCells id 0 (flatK tC 5 rs.toArray) a).toList.take (rs.length*5)=dH rs:=by
 have g:(dH rs).length=rs.length*5:=jC rs;apply Ho;intro j;by_cases b:j<rs.length*5
 ·rw [Hf b,Gg];have d:j/5<rs.length:=Z;have e:(dH rs)[j/5*5+j%5]?=(tC rs[j/5])[j%5]?:=eC tC 5 (λ_=>rfl) rs (j/5) _ (Fy d) (j%5) Z;rw [show j/5*5+j%5=j by omega] at e;rw [e];have f:j%5<(tC rs[j/5]).length:=by show j%5<5;omega
  rw [Fy f];have c:=get_flatK tC 5 rs.toArray j (by simpa using b);rw [getElem!_pos rs.toArray (j/5) (by simpa using d)] at c;simp only [List.getElem_toArray] at c;rw [getElem!_pos _ j (by simpa using b),getElem!_pos _ (j%5) f] at c;simp [putCells,b,show j<a.size by omega];exact c
 ·rw [List.getElem?_take_eq_none Z,FJ Z]
theorem sX {d b:Array Rg9} (h:PermIn 0 d.size d b):b.toList.Perm d.toList:=by
 have a:=h.2.2;rw [<-h.1] at a;simp only [Array.extract_size] at a;rw [h.1] at a;simpa using a
end
section
open Go.RowKit Go.Maps
section
variable {lt : Nat->Nat->Bool} {hi f r : Nat} {d : Array Nat}
theorem xO (h:2*r+1≥hi):Sort.siftDown lt hi f r d=d:=by rw [Sort.siftDown,dif_pos h]
theorem Bz (h : ¬ 2*r+1 ≥ hi) (b : 2*r+2<hi) (c : lt d[f+(2*r+1)]! d[f+(2*r+2)]! = true) (e : lt d[f+r]! d[f+(2*r+2)]! = true) : Sort.siftDown lt hi f r d=Sort.siftDown lt hi f (2*r+2) (Sort.swp d (f+r) (f+(2*r+2))) := by
 have a : lt d[f+(2*r+1)]! d[f+(2*r+1)+1]! = true := c;rw [Sort.siftDown,dif_neg h,GP (by simp [a];omega),GO (by simp [e]),dif_pos b]
theorem zE (h : ¬ 2*r+1 ≥ hi) (e : 2*r+2<hi) (b : lt d[f+(2*r+1)]! d[f+(2*r+2)]! = true) (c : lt d[f+r]! d[f+(2*r+2)]! = false) : Sort.siftDown lt hi f r d=d := by
 have a : lt d[f+(2*r+1)]! d[f+(2*r+1)+1]! = true := b;rw [Sort.siftDown,dif_neg h,GP (by simp [a];omega),GP (by simp [c])]
theorem xU (h : ¬ 2*r+1 ≥ hi) (b : 2*r+2<hi->lt d[f+(2*r+1)]! d[f+(2*r+2)]! = false) (c : lt d[f+r]! d[f+(2*r+1)]! = true) : Sort.siftDown lt hi f r d=Sort.siftDown lt hi f (2*r+1) (Sort.swp d (f+r) (f+(2*r+1))) := by
 have a : 2*r+1+1<hi->lt d[f+(2*r+1)]! d[f+(2*r+1)+1]! = false := b;rw [Sort.siftDown,dif_neg h,GO (by simp only [Gi,Hj,not_and];intro e;rw [a e];simp),GO (by simp [c])]
theorem tE (h : ¬ 2*r+1 ≥ hi) (b : 2*r+2<hi->lt d[f+(2*r+1)]! d[f+(2*r+2)]! = false) (c : lt d[f+r]! d[f+(2*r+1)]! = false) : Sort.siftDown lt hi f r d=d := by
 have a : 2*r+1+1<hi->lt d[f+(2*r+1)]! d[f+(2*r+1)+1]! = false := b;rw [Sort.siftDown,dif_neg h,GO (by simp only [Gi,Hj,not_and];intro e;rw [a e];simp),GP (by simp [c])]
end
theorem t4 (G N c) (B hi f:Nat) (d V0 V) (A:Au G N c V0 d V) (hb:f+hi<=N) (hN:N<=100000) (S:B<=N) :
  Calls prog 246 #[.slice (some ⟨G,0,none⟩) N c,.int .i64 B,.int .i64 hi,.int .i64 f] V λe Y=>e=.returned (.tuple #[])/\Au G N c V0 (Sort.siftDown aQ hi f B d) Y:=by
 obtain⟨w,a⟩:∃ w,Sort.siftDown aQ hi f B d=w:=⟨_,rfl⟩;rw [a];have n:=H a;have m:=H A;clear a A;go_enter func246,ntmps246;go_wp2_with fail;go_loopw [8] (λT wr=>∃ (r:Nat) (d:Array Nat),r<=N/\T=.int .i64 r/\Hid (Sort.siftDown aQ hi f r d=w)/\Hid (Au G N c V0 d wr)) (λT _=>N+1-(intOf T).toNat);case atStart=>exact ⟨B,d,S,rfl,n,m⟩
 case round =>
  clear n m;obtain⟨r,d,hr,rfl,n,m⟩:=hrel;obtain⟨k,o⟩:∃ k,k=2*r+1:=⟨_,rfl⟩;have W:(2:Int)*(r:Int)+1=(k:Int):=Z;by_cases A:k≥hi
  ·have he:(hi:Int)<=(k:Int):=Z;have a:=H (show d=w by have:=n.out;rw [xO Z] at this;exact this);clear n o A;go_wp2;go_end0;exact⟨rfl,by rw [<-a.out];exact m⟩
  ·have he:¬((hi:Int)<=(k:Int)):=Z;obtain⟨p,P⟩:∃ p,p=f+k:=⟨_,rfl⟩;obtain⟨q,Q⟩:∃ q,q=f+k+1:=⟨_,rfl⟩;obtain⟨s,R⟩:∃ s,s=f+r:=⟨_,rfl⟩;obtain⟨i,l⟩:∃ i,i=k+1:=⟨_,rfl⟩;have a0:(f:Int)+(k:Int)=(p:Int):=Z;have a1:(p:Int)+1=(q:Int):=Z;have a2:(f:Int)+(r:Int)=(s:Int):=Z;have X:(k:Int)+1=(i:Int):=Z;have a3:(f:Int)+(i:Int)=(q:Int):=Z;have a4:(p:Int)<(N:Int):=Z;have a5:(s:Int)<(N:Int):=Z;have j:=m.cell (show s<N by omega);have x:=m.cell (show p<N by omega);have t:=H (IT o (IT P (IT Q (IT R l))));by_cases a6:i<hi
   ·have F:(i:Int)<(hi:Int):=Z;have a7:(q:Int)<(N:Int):=Z;have u:=m.cell (show q<N by omega);by_cases z : aQ d[p]! d[q]! = true
    ·clear o P Q R l;(go_upto_region 3 with fail);go_quiet (first|(go_at_call 216;exact GW (cF z _)));have b:=H (m.drewN nq);clear m j x u;generalize wr.drewN nq=y at b ⊢;have j:=b.cell (show s<N by omega);have u:=b.cell (show q<N by omega);by_cases g : aQ d[s]! d[q]! = true
     ·(go_upto_region 5 with fail);go_quiet (first|(go_at_call 216;exact GW (cF g _)));have a:=H (b.drewN nq);clear b j u;generalize y.drewN nq=K at a ⊢;have j:=a.cell (show s<N by omega);have u:=a.cell (show q<N by omega);have f1:=a.fz s;obtain⟨u9,L⟩:=a.sw1 (show s<N by omega) (show q<N by omega);have f0:=(a.set (show s<N by omega) d[q]!).fz q;have M:=H (a.swap (show s<N by omega) (show q<N by omega)).drew;have v:=H (show Sort.siftDown aQ hi f i (Sort.swp d s q)=w by
       have:=n.out;obtain⟨rfl,rfl,rfl,rfl,rfl⟩:=t.out;rw [Bz Z Z z g] at this;exact this)
      clear a;(go_upto_region 6 with fail);go_region;clear j u f1 L f0;go_wp2;go_roundw;(case rel=>exact ⟨i,_,Z,aY,v,M⟩);case measure=>have:=t.out;simp [intOf];omega
     ·have g : aQ d[s]! d[q]! = false := (by simpa using g);have v:=H (show d=w by
       have:=n.out;obtain⟨rfl,rfl,rfl,rfl,rfl⟩:=t.out;rw [zE Z Z z g] at this;exact this)
      (go_upto_region 5 with fail);go_quiet (first|(go_at_call 216;exact GW (cE g _)));have a:=H (b.drewN nq);clear b j u;generalize y.drewN nq=K at a ⊢;go_wp2
      first|go_end0|((try simp only [Exit.inBlock,Exit.then]);refine GX (Ir rfl _ _ _) rfl ?_)
      exact⟨rfl,by rw [<-v.out];exact a⟩
    ·have z : aQ d[p]! d[q]! = false := (by simpa using z);have O := H (show 2*r+2<hi->aQ d[f+(2*r+1)]! d[f+(2*r+2)]! = false from λ_ => by
      obtain⟨rfl,rfl,rfl,_⟩:=t.out;exact z)
     clear o P Q R l;(go_upto_region 3 with fail);go_quiet (first|(go_at_call 216;exact GW (cE z _)));have b:=H (m.drewN nq);clear m j x u;generalize wr.drewN nq=y at b ⊢;have j:=b.cell (show s<N by omega);have x:=b.cell (show p<N by omega);by_cases g : aQ d[s]! d[p]! = true
     ·(go_upto_region 5 with fail);go_quiet (first|(go_at_call 216;exact GW (cF g _)));have a:=H (b.drewN nq);clear b j x;generalize y.drewN nq=K at a ⊢;have j:=a.cell (show s<N by omega);have u:=a.cell (show p<N by omega);have f1:=a.fz s;obtain⟨u9,L⟩:=a.sw1 (show s<N by omega) (show p<N by omega);have f0:=(a.set (show s<N by omega) d[p]!).fz p;have M:=H (a.swap (show s<N by omega) (show p<N by omega)).drew;have v:=H (show Sort.siftDown aQ hi f k (Sort.swp d s p)=w by
       have:=n.out;obtain⟨rfl,rfl,rfl,rfl,rfl⟩:=t.out;rw [xU Z O.out g] at this;exact this)
      clear a;(go_upto_region 6 with fail);go_region;clear j u f1 L f0;go_wp2;go_roundw;(case rel=>exact ⟨k,_,Z,aY,v,M⟩);case measure=>have:=t.out;simp [intOf];omega
     ·have g : aQ d[s]! d[p]! = false := (by simpa using g);have v:=H (show d=w by
       have:=n.out;obtain⟨rfl,rfl,rfl,rfl,rfl⟩:=t.out;rw [tE Z O.out g] at this;exact this)
      (go_upto_region 5 with fail);go_quiet (first|(go_at_call 216;exact GW (cE g _)));have a:=H (b.drewN nq);clear b j x;generalize y.drewN nq=K at a ⊢;go_wp2
      first|go_end0|((try simp only [Exit.inBlock,Exit.then]);refine GX (Ir rfl _ _ _) rfl ?_)
      exact⟨rfl,by rw [<-v.out];exact a⟩
   ·have F:decide ((i:Int)<(hi:Int))=false:=GR Z;have O := H (show 2*r+2<hi->aQ d[f+(2*r+1)]! d[f+(2*r+2)]! = false from λe => by
     obtain⟨rfl,rfl,rfl,_,rfl⟩:=t.out;omega)
    clear o P Q R l;(go_upto_region 3 with fail);go_quiet (fail);have b:=H (m.drewN nq);clear m j x;generalize wr.drewN nq=y at b ⊢;have j:=b.cell (show s<N by omega);have x:=b.cell (show p<N by omega);by_cases g : aQ d[s]! d[p]! = true
    ·(go_upto_region 5 with fail);go_quiet (first|(go_at_call 216;exact GW (cF g _)));have a:=H (b.drewN nq);clear b j x;generalize y.drewN nq=K at a ⊢;have j:=a.cell (show s<N by omega);have u:=a.cell (show p<N by omega);have f1:=a.fz s;obtain⟨u9,L⟩:=a.sw1 (show s<N by omega) (show p<N by omega);have f0:=(a.set (show s<N by omega) d[p]!).fz p;have M:=H (a.swap (show s<N by omega) (show p<N by omega)).drew;have v:=H (show Sort.siftDown aQ hi f k (Sort.swp d s p)=w by
      have:=n.out;obtain⟨rfl,rfl,rfl,rfl,rfl⟩:=t.out;rw [xU Z O.out g] at this;exact this)
     clear a;(go_upto_region 6 with fail);go_region;clear j u f1 L f0;go_wp2;go_roundw;(case rel=>exact ⟨k,_,Z,aY,v,M⟩);case measure=>have:=t.out;simp [intOf];omega
    ·have g : aQ d[s]! d[p]! = false := (by simpa using g);have v:=H (show d=w by
      have:=n.out;obtain⟨rfl,rfl,rfl,rfl,rfl⟩:=t.out;rw [tE Z O.out g] at this;exact this)
     (go_upto_region 5 with fail);go_quiet (first|(go_at_call 216;exact GW (cE g _)));have a:=H (b.drewN nq);clear b j x;generalize y.drewN nq=K at a ⊢;go_wp2
     first|go_end0|((try simp only [Exit.inBlock,Exit.then]);refine GX (Ir rfl _ _ _) rfl ?_)
     exact⟨rfl,by rw [<-v.out];exact a⟩
theorem zX (G N c) (a b:Nat) (d V0 V) (A:Au G N c V0 d V) (B:a<b) (X:b<=N) (y:N<=100000) :
  Calls prog 211 #[Vl G N c,I a,I b] V λe F=>e=.returned (.tuple #[])/\Au G N c V0 (Sort.heapSort aQ d a b) F:=by
 obtain⟨o,l⟩:∃ o,Sort.heapSort aQ d a b=o:=⟨_,rfl⟩;rw [l];obtain⟨hi,r⟩:∃ hi,b-a=hi:=⟨_,rfl⟩;have K:(b:Int)-(a:Int)=(hi:Int):=Z;obtain⟨m,k⟩:∃ m,m=(hi-1)/2:=⟨_,rfl⟩;obtain⟨i,j⟩:∃ i,Sort.heapBuild aQ hi a (m+1) d=i:=⟨_,rfl⟩;have q:=H (show Sort.heapPop aQ a hi i=o by rw [<-l,<-j,<-r,k,<-r];rfl);have g:=H j;have f:=H A;have Y:((hi:Int)-1).tdiv 2=(m:Int):=by
  rw [Ig Z];omega
 have v:m+1<=N:=Z;clear l A j k;go_enter func211,ntmps211;go_wp2_with fail;go_loopw [9] (λw wr=>∃ (k:Nat) (z:Int) (d:Array Nat),k<=N/\z=(k:Int)-1/\w=I z/\Hid (Sort.heapBuild aQ hi a k d=i)/\Hid (Au G N c V0 d wr)) (λw _=>(intOf w+1).toNat);case atStart=>exact ⟨m+1,m,d,v,Z,rfl,g,f⟩
 case round =>
  clear g f;obtain⟨k,z,d,L,s,rfl,g,f⟩:=hrel;cases k with
  | succ k =>
   obtain rfl:z=(k:Int):=Z;have M:(0:Int)<=(k:Int):=Z;have l:=H (show Sort.heapBuild aQ hi a k (Sort.siftDown aQ hi a k d)=i from g);clear g s;go_wp2_with fail;refine (t4 G N c k hi a d V0 _ f Z y Z).mono ?_;rintro e O ⟨rfl,j⟩;have t:=H j;clear j f;go_wp2;go_roundw;(case rel=>exact ⟨k,(k:Int)-1,_,Z,rfl,aY,l,t⟩);case measure=>(simp [intOf];try omega)
  | zero =>
   have x:¬((0:Int)<=z):=Z;have u:=H (show d=i from g);have j:=H (show Au G N c V0 i wr by rw [<-u.out];exact f);clear g f u s;go_wp2_with fail;go_loopw [10] (λn wr=>∃ (k:Nat) (z:Int) (d:Array Nat),k<=hi/\z=(k:Int)-1/\n=I z/\Hid (Sort.heapPop aQ a k d=o)/\Hid (Au G N c V0 d wr)) (λn _=>(intOf n+1).toNat);(case atStart=>exact ⟨hi,(hi:Int)-1,i,Z,rfl,aY,q,j⟩);case round =>
    clear q j;obtain⟨k,z,d,L,s,rfl,q,f⟩:=hrel;cases k with
    | succ k =>
     obtain rfl:z=(k:Int):=Z;have M:(0:Int)<=(k:Int):=Z;obtain⟨p,A⟩:∃ p,p=a+k:=⟨_,rfl⟩;have P:(a:Int)+(k:Int)=(p:Int):=Z;have Q:(p:Int)<(N:Int):=Z;have R:(a:Int)<(N:Int):=Z;have l:=H (show Sort.heapPop aQ a k (Sort.siftDown aQ k a 0 (Sort.swp d a p))=o by rw [A];exact q);have S:=f.cell (show a<N by omega);have T:=f.cell (show p<N by omega);have f1:=f.fz a;obtain⟨u9,W⟩:=f.sw1 (show a<N by omega) (show p<N by omega);have f0:=(f.set (show a<N by omega) d[p]!).fz p;have t:=H (f.swap (show a<N by omega) (show p<N by omega)).drew;clear q s f A;(go_upto_region 10 with fail);go_region;clear S T f1 W f0;go_wp2_with fail;refine (t4 G N c 0 k a _ V0 _ t Z y Z).mono ?_;rintro e O ⟨rfl,j⟩;have A:=H j;clear j t;go_wp2;go_roundw;(case rel=>exact ⟨k,(k:Int)-1,_,Z,rfl,aY,l,A⟩);case measure=>(simp [intOf];try omega)
    | zero =>
     have x:¬((0:Int)<=z):=Z;clear s;have u:=H (show d=o from q);go_wp2;go_end0;exact⟨rfl,by rw [<-u.out];exact f⟩
theorem Bg (G N c) (a b:Nat) (d V0 V) (A:Au G N c V0 d V) (q:a<b) (B:b<=N) (F:N<=100000) :
  Calls prog 214 #[Vl G N c,I a,I b] V λe r=>e=.returned (.tuple #[])/\Au G N c V0 (Sort.reverseRange d a b) r:=by
 obtain⟨g,i⟩:∃ g,Sort.reverseRange d a b=g:=⟨_,rfl⟩;rw [i];obtain⟨l,n⟩:∃ l,b-1=l:=⟨_,rfl⟩;have s:(b:Int)-1=(l:Int):=Z;have k:=H (show Sort.reverseLoop a l d=g by rw [<-n];exact i);have f:=H A;clear i A;go_enter func214,ntmps214;go_wp2_with fail;go_loopw [6,7] (λo e wr=>∃ (i j:Nat) (d:Array Nat),i<=N/\j<N/\o=I i/\e=I j/\Hid (Sort.reverseLoop i j d=g)/\Hid (Au G N c V0 d wr)) (λo _ _=>N+1-(intOf o).toNat);case atStart=>exact ⟨a,l,d,Z,Z,rfl,rfl,k,f⟩
 case round =>
  clear k f;obtain⟨i,j,d,hi,A,rfl,rfl,k,f⟩:=hrel;by_cases m:i<j
  ·have t:(i:Int)<(j:Int):=Z;have u:(i:Int)<(N:Int):=Z;have v:(j:Int)<(N:Int):=Z;have p:=H (show Sort.reverseLoop (i+1) (j-1) (Sort.swp d i j)=g by have:=k.out;rw [Sort.reverseLoop,GP m] at this;exact this);have w:=f.cell (show i<N by omega);have x:=f.cell (show j<N by omega);have f1:=f.fz i;obtain⟨u9,y⟩:=f.sw1 (show i<N by omega) (show j<N by omega);have f0:=(f.set (show i<N by omega) d[j]!).fz j;have z:=H (f.swap (show i<N by omega) (show j<N by omega)).drew;clear k f;(go_upto_region 3 with fail);go_region;clear w x f1 y f0;go_wp2;go_roundw;(case rel=>exact ⟨i+1,j-1,_,Z,Z,aY,by congr 1;omega,p,z⟩);case measure=>(simp [intOf];try omega)
  have t:¬((i:Int)<(j:Int)):=Z;have p:=H (show d=g by have:=k.out;rw [Sort.reverseLoop,GO m] at this;exact this);go_wp2;go_end0;exact⟨rfl,by rw [<-p.out];exact f⟩
theorem Au.ky {G c V0 V' P} (h:Au G N c V0 d V) (k:Ky P V V') (a:¬P 23) (b:Below G V V'):Au G N c V0 d V':=⟨h.sz,ai h.row k a,h.bel.trans b⟩
theorem Au.box {G c} {S:Nat} {V0} (h:Au G N c V0 d V) {t:TypeId} {a:Array Value} (b:V.heap[S]?=some (.cells a t)) (f:t≠23) (i:G<S) (v:Value):Au G N c V0 d (V.setCell ⟨S,0,none⟩ v):=by
 have g:=au (al V S) 0 v;exact h.ky (Ky.grown (S:=(· = t)) b rfl g) (λe=>f e.symm) ((Fu _ _).setCell (Nat.le_of_lt i) _)
theorem tW {S:Nat} {t:TypeId} {a:Value} (h:V.heap[S]?=some (.cells #[a] t)) (v:Value):(V.setCell ⟨S,0,none⟩ v).heap[S]?=some (.cells #[v] t):=by
 simp [World.setCell,FD,h]
theorem jK (G N c) (a b S s:Nat) (d V0 V) (A:Au G N c V0 d V) (ha:a<N) (t:b<N) (B:N<=100000) (u:G<S) (m:V.heap[S]?=some (.cells #[.int .i64 (s:Nat)] 3)) (F:s<=100) :
  Calls prog 253 #[.slice (some ⟨G,0,none⟩) N c,.int .i64 a,.int .i64 b,.pointer (some ⟨S,0,none⟩)] V λe p=>e=.returned (.tuple #[.int .i64 ((Sort.order2 aQ d a b s).1:Nat),.int .i64 ((Sort.order2 aQ d a b s).2.1:Nat)])/\p.heap[S]?=some (.cells #[.int .i64 ((Sort.order2 aQ d a b s).2.2:Nat)] 3)/\Au G N c V0 d p:=by
 unfold Sort.order2;have v:(a:Int)<(N:Int):=Z;have w:(b:Int)<(N:Int):=Z;have q:=A.cell ha;have r:=A.cell t;by_cases g : aQ d[b]! d[a]! = true
 ·rw [GP g];simp only [];obtain⟨j,n⟩:∃ j,s+1=j:=⟨_,rfl⟩;rw [n];have k:=H A;have l:=H m;clear A m;go_enter func253,ntmps253;go_upto_region 1 with fail
  go_quiet (first|(go_at_call 216;exact GW (cF g _)));have i:=H (k.drewN nq);have f:=H (show (V.drewN nq).heap[S]?=some (.cells #[.int .i64 (s:Nat)] 3) from l);clear k l q r;generalize V.drewN nq=o at i f ⊢;have K:o.cell? ⟨S,0,none⟩=some (.int .i64 (s:Nat)):=bJ f.out;have f1:o.frozen? ⟨S,0,none⟩=false:=by simp [World.frozen?,f.out]
  have x:=H (i.box f ar u (.int .i64 (j:Nat)));have y:=H (tW f (.int .i64 (j:Nat)));have z:(s:Int)+1=(j:Int):=Z;clear i f;go_wp2;refine GX (b_ rfl _ _) rfl ?_;exact⟨rfl,y,x⟩
 ·rw [GO g];have g : aQ d[b]! d[a]! = false := by simpa using g
  have k:=H A;have l:=H m;clear A m;go_enter func253,ntmps253;go_upto_region 1 with fail
  go_quiet (first|(go_at_call 216;exact GW (cE g _)));have i:=H (k.drewN nq);have f:=H (show (V.drewN nq).heap[S]?=some (.cells #[.int .i64 (s:Nat)] 3) from l);clear k l q r;generalize V.drewN nq=o at i f ⊢;go_wp2;refine GX (b_ rfl _ _) rfl ?_;exact⟨rfl,f,i⟩
theorem order2_lt {a s:Nat} (ha:a<N) (f:b<N):(Sort.order2 aQ d a b s).1<N/\(Sort.order2 aQ d a b s).2.1<N:=by
 rcases Sort.order2_mem aQ d a b s with ⟨c,e⟩|⟨c,e⟩ <;> (rw [c,e];exact⟨by assumption,by assumption⟩)
theorem kc (G N cp) (a b e S s:Nat) (d V0 V) (A:Au G N cp V0 d V) (ha:a<N) (v:b<N) (w:e<N) (l:N<=100000) (m:G<S) (x:V.heap[S]?=some (.cells #[I s] 3)) (X:s<=90) :
  Calls prog 248 #[Vl G N cp,I a,I b,I e,J S 0] V λr y=>r=.returned (I ((Sort.median aQ d a b e s).1:Nat))/\y.heap[S]?=some (.cells #[I ((Sort.median aQ d a b e s).2:Nat)] 3)/\Au G N cp V0 d y:=by
 have n:=H (jK G N cp a b S s d V0 V A ha v l m x Z);have g:=order2_lt (d:=d) (s:=s) ha v;have z:=Sort.order2_count aQ d a b s;obtain⟨M,o⟩:∃ M,Sort.median aQ d a b e s=M:=⟨_,rfl⟩;rw [o];have c:Hid (((Sort.order2 aQ d (Sort.order2 aQ d a b s).1 (Sort.order2 aQ d (Sort.order2 aQ d a b s).2.1 e (Sort.order2 aQ d a b s).2.2).1 (Sort.order2 aQ d (Sort.order2 aQ d a b s).2.1 e (Sort.order2 aQ d a b s).2.2).2.2).2.1,(Sort.order2 aQ d (Sort.order2 aQ d a b s).1 (Sort.order2 aQ d (Sort.order2 aQ d a b s).2.1 e (Sort.order2 aQ d a b s).2.2).1 (Sort.order2 aQ d (Sort.order2 aQ d a b s).2.1 e (Sort.order2 aQ d a b s).2.2).2.2).2.2)=M):=o;generalize Sort.order2 aQ d a b s=P at n g z c;obtain⟨B,p,i⟩:=P;simp only [] at n g z c;have j:=order2_lt (d:=d) (s:=i) g.2 w;have F:=Sort.order2_count aQ d p e i;have q:=H (λf (t:Au G N cp V0 d f) (S9:f.heap[S]?=some (.cells #[I i] 3))=>jK G N cp p e S i d V0 f t g.2 w l m S9 Z);generalize Sort.order2 aQ d p e i=Q at q j F c;obtain⟨K,Y,k⟩:=Q;simp only [] at q j F c;have L:=order2_lt (d:=d) (s:=k) g.1 j.1;have u:=H (λf (t:Au G N cp V0 d f) (S9:f.heap[S]?=some (.cells #[I k] 3))=>jK G N cp B K S k d V0 f t g.1 j.1 l m S9 Z);generalize Sort.order2 aQ d B K k=R at u L c;obtain⟨x3,y3,s3⟩:=R;simp only [] at u L c;obtain rfl:=c.out;clear A x o c;go_enter func248,ntmps248;go_wp2_with fail;refine (n).mono ?_;rintro r T ⟨rfl,c,o⟩;have x:=H (IT o c);clear o c;go_wp2_with fail;refine (q T x.1 x.2).mono ?_;rintro r W ⟨rfl,c,o⟩;have A:=H (IT o c);clear o c;go_wp2_with fail;refine (u W A.1 A.2).mono ?_;rintro r w3 ⟨rfl,c,o⟩;have O:=H (IT o c);clear o c;go_wp2;go_ret;exact⟨rfl,O.2,O.1⟩
theorem jV (G N cp) (a S s:Nat) (d V0 V) (A:Au G N cp V0 d V) (i:1<=a) (ha:a+1<N) (j:N<=100000) (k:G<S) (c:V.heap[S]?=some (.cells #[I s] 3)) (l:s<=90) :
  Calls prog 247 #[Vl G N cp,I a,J S 0] V λr e=>r=.returned (I ((Sort.medianAdjacent aQ d a s).1:Nat))/\e.heap[S]?=some (.cells #[I ((Sort.medianAdjacent aQ d a s).2:Nat)] 3)/\Au G N cp V0 d e:=by
 unfold Sort.medianAdjacent;have b:=H (kc G N cp (a-1) a (a+1) S s d V0 V A Z Z ha j k c l);generalize Sort.median aQ d (a-1) a (a+1) s=M at b;obtain⟨p,f⟩:∃ p,a-1=p:=⟨_,rfl⟩;obtain⟨q,g⟩:∃ q,a+1=q:=⟨_,rfl⟩;rw [f,g] at b;have m:(a:Int)-1=(p:Int):=Z;have n:(a:Int)+1=(q:Int):=Z;have o:q<=100000:=Z;clear A c f g;go_enter func247,ntmps247;go_wp2_with fail;refine (b).mono ?_;rintro r t ⟨rfl,c,f⟩;have g:=H (IT f c);clear f c;go_wp2;go_ret;exact⟨rfl,g.2,g.1⟩
def En:Sort.Hint->Nat
 | .unknown=>0
 | .increasing=>1
 | .decreasing=>2
theorem yj (G N cp) (a b:Nat) (d V0 V) (A:Au G N cp V0 d V) (W:a+12<b) (hb:b<=N) (z:N<=100000) :
  Calls prog 213 #[Vl G N cp,I a,I b] V λr X=>r=.returned (.tuple #[I ((Sort.choosePivot aQ d a b).1:Nat),I ((En (Sort.choosePivot aQ d a b).2:Nat):Int)])/\Au G N cp V0 d X:=by
 obtain⟨l,f⟩:∃ l,b-a=l:=⟨_,rfl⟩;obtain⟨n,e⟩:∃ n,l/4=n:=⟨_,rfl⟩;obtain⟨i,hi⟩:∃ i,a+n*1=i:=⟨_,rfl⟩;obtain⟨j,g⟩:∃ j,a+n*2=j:=⟨_,rfl⟩;obtain⟨k,o⟩:∃ k,a+n*3=k:=⟨_,rfl⟩;obtain⟨R,m⟩:∃ R:Nat×Nat,(if l≥50 then Sort.median aQ d (Sort.medianAdjacent aQ d i 0).1 (Sort.medianAdjacent aQ d j (Sort.medianAdjacent aQ d i 0).2).1 (Sort.medianAdjacent aQ d k (Sort.medianAdjacent aQ d j (Sort.medianAdjacent aQ d i 0).2).2).1 (Sort.medianAdjacent aQ d k (Sort.medianAdjacent aQ d j (Sort.medianAdjacent aQ d i 0).2).2).2 else Sort.median aQ d i j k 0)=R:=⟨_,rfl⟩;have p:Sort.choosePivot aQ d a b=(R.1,if R.2=0 then .increasing else if R.2=12 then .decreasing else .unknown):=by
  unfold Sort.choosePivot;simp only [f,e,hi,g,o];rw [GP (show l≥8 by omega),m]
 rw [p];simp only [];obtain⟨q,c⟩:∃ q,En (if R.2=0 then Sort.Hint.increasing else if R.2=12 then .decreasing else .unknown)=q:=⟨_,rfl⟩;rw [c];have x:=H c;clear c;have Y:(b:Int)-(a:Int)=(l:Int):=Z;have a0:(l:Int).tdiv 4=(n:Int):=by rw [Ig Z];omega
 have a1:(l:Int)/4=(n:Int):=Z;have a2:(a:Int)+(n:Int)=(i:Int):=Z;have a3:(a:Int)+(n:Int)*2=(j:Int):=Z;have a4:(a:Int)+(n:Int)*3=(k:Int):=Z;have h8:(8:Int)<=(l:Int):=Z;have c:D V (V.alloc (.cells #[I 0] 3)):=(Fu _ _).alloc (Fv _) _;have y:=H (A.below c);have s:=H (show (V.alloc (.cells #[I 0] 3)).heap[V.heap.size]?=some (.cells #[I ((0:Nat):Int)] 3) from ao V _);have t:=A.lt;have a5:i+1<N/\j+1<N/\k+1<N/\1<=i/\1<=j/\1<=k/\j<b/\i<b/\k<b:=Z;clear A c p f e hi g o;by_cases A:l≥50
 ·rw [GP A] at m;have B:(50:Int)<=(l:Int):=Z;have p:=H (λc (o:Au G N cp V0 d c) S (e:G<S) (S9:c.heap[S]?=some (.cells #[I ((0:Nat):Int)] 3))=>jV G N cp i S 0 d V0 c o Z Z z e S9 Z);have f:=Sort.medianAdjacent_mem aQ d i 0;have g:=Sort.medianAdjacent_count aQ d i 0;generalize Sort.medianAdjacent aQ d i 0=r1 at p f g m;obtain⟨x1,F⟩:=r1;simp only [] at p f g m;have v:=H (λc (o:Au G N cp V0 d c) S (e:G<S) (S9:c.heap[S]?=some (.cells #[I F] 3))=>jV G N cp j S F d V0 c o Z Z z e S9 Z);have L:=Sort.medianAdjacent_mem aQ d j F;have M:=Sort.medianAdjacent_count aQ d j F;generalize Sort.medianAdjacent aQ d j F=r2 at v L M m;obtain⟨x2,K⟩:=r2;simp only [] at v L M m;have w:=H (λc (o:Au G N cp V0 d c) S (e:G<S) (S9:c.heap[S]?=some (.cells #[I K] 3))=>jV G N cp k S K d V0 c o Z Z z e S9 Z);have O:=Sort.medianAdjacent_mem aQ d k K;have P:=Sort.medianAdjacent_count aQ d k K;generalize Sort.medianAdjacent aQ d k K=r3 at w O P m;obtain⟨x3,T⟩:=r3;simp only [] at w O P m;have u:=H (λc (o:Au G N cp V0 d c) S (e:G<S) (S9:c.heap[S]?=some (.cells #[I T] 3))=>kc G N cp x1 x2 x3 S T d V0 c o Z Z Z z e S9 Z);rw [m] at u;clear f L O g M P m;go_enter func213,ntmps213;go_wp2_with fail;generalize V.alloc _=W1 at y s ⊢;obtain⟨S,M⟩:∃ S,V.heap.size=S:=⟨_,rfl⟩;rw [M] at s t ⊢;refine (p _ y _ t s).mono ?_;rintro r w1 ⟨rfl,f,g⟩;have L:=H (IT g f);clear g f y s p;go_wp2_with fail;refine (v _ L.1 _ t L.2).mono ?_;rintro r w2 ⟨rfl,f,g⟩;have p:=H (IT g f);clear g f L v;go_wp2_with fail;refine (w _ p.1 _ t p.2).mono ?_;rintro r w3 ⟨rfl,f,g⟩;have O:=H (IT g f);clear g f p w;go_wp2_with fail;refine (u _ O.1 _ t O.2).mono ?_;rintro r P ⟨rfl,f,g⟩;have v:=H g;have L:P.cell? ⟨S,0,none⟩=some (I R.2):=bJ f;clear g f O u;by_cases p:R.2=0
  ·rw [p] at L;obtain rfl:q=1:=by rw [<-x.out,GP p];rfl
   go_wp2;refine GX (b_ rfl _ _) rfl ?_;exact⟨rfl,v⟩
  have O:¬((R.2:Int)=0):=Z;by_cases w:R.2=12
  ·rw [w] at L;obtain rfl:q=2:=by rw [<-x.out,GO p,GP w];rfl
   go_wp2;refine GX (b_ rfl _ _) rfl ?_;exact⟨rfl,v⟩
  have Q:¬((R.2:Int)=12):=Z;obtain rfl:q=0:=by rw [<-x.out,GO p,GO w];rfl
  go_wp2;refine GX (b_ rfl _ _) rfl ?_;exact⟨rfl,v⟩
 rw [GO A] at m;have B:¬((50:Int)<=(l:Int)):=Z;have u:=H (λc (o:Au G N cp V0 d c) S (e:G<S) (S9:c.heap[S]?=some (.cells #[I ((0:Nat):Int)] 3))=>kc G N cp i j k S 0 d V0 c o Z Z Z z e S9 Z);rw [m] at u;clear m;go_enter func213,ntmps213;go_wp2_with fail;generalize V.alloc _=W1 at y s ⊢;obtain⟨S,M⟩:∃ S,V.heap.size=S:=⟨_,rfl⟩;rw [M] at s t ⊢;refine (u _ y _ t s).mono ?_;rintro r P ⟨rfl,f,g⟩;have v:=H g;have L:P.cell? ⟨S,0,none⟩=some (I R.2):=bJ f;clear g f y s u;by_cases p:R.2=0
 ·rw [p] at L;obtain rfl:q=1:=by rw [<-x.out,GP p];rfl
  go_wp2;refine GX (b_ rfl _ _) rfl ?_;exact⟨rfl,v⟩
 have O:¬((R.2:Int)=0):=Z;by_cases w:R.2=12
 ·rw [w] at L;obtain rfl:q=2:=by rw [<-x.out,GO p,GP w];rfl
  go_wp2;refine GX (b_ rfl _ _) rfl ?_;exact⟨rfl,v⟩
 have Q:¬((R.2:Int)=12):=Z;obtain rfl:q=0:=by rw [<-x.out,GO p,GO w];rfl
 go_wp2;refine GX (b_ rfl _ _) rfl ?_;exact⟨rfl,v⟩
theorem Ba (a X:Nat) (b:X<18446744073709551616) (w:World) (c:w.cell? ⟨a,0,none⟩=some (U X)) (d:w.frozen? ⟨a,0,none⟩=false) :
 Calls prog 239 #[J a 0] w λe f=>e=.returned (U (Sort.xorNextN X:Nat))/\f=(w.setCell ⟨a,0,none⟩ (U (Sort.xorNextN X:Nat))).drewN 3:=AnyF.xorshift_Next { Tryz.sortR with } a 0 X b w c d
theorem zC (n:Nat) (a:n<4611686018427387904) (w:World) :
 Calls prog 238 #[I n] w λe b=>e=.returned (U ((1 <<< Sort.bitsLen n:Nat):Int))/\b=w:=AnyF.nextPowerOfTwo { Tryz.sortR with } n a w
def DU (a l M:Nat):Nat->Nat->UInt64×Array Nat->UInt64×Array Nat
 | 0,_,st=>st
 | n+1,e,st=>DU a l M n (e+1) (Sort.breakStep a l M st e)
theorem yo (G N cp) (a b:Nat) (d V0 V) (A:Au G N cp V0 d V) (a9:a+12<b) (hb:b<=N) (hN:N<=100000) :
  Calls prog 212 #[Vl G N cp,I a,I b] V λr V'=>r=.returned (.tuple #[])/\Au G N cp V0 (Sort.breakPatterns d a b) V':=by
 obtain⟨l,t⟩:∃ l,b-a=l:=⟨_,rfl⟩;obtain⟨M,k⟩:∃ M,1 <<< Sort.bitsLen l=M:=⟨_,rfl⟩;obtain⟨m,c⟩:∃ m,l/4=m:=⟨_,rfl⟩;obtain⟨i,e⟩:∃ i,a+m*2-1=i:=⟨_,rfl⟩;obtain⟨u,o⟩:∃ u,Sort.breakPatterns d a b=u:=⟨_,rfl⟩;rw [o];have f:(DU a l M 3 i (UInt64.ofNat l,d)).2=u:=by
  rw [<-o];unfold Sort.breakPatterns;simp only [t,k,c,e];rw [GP (show l≥8 by omega)];rfl
 have b0:1<=M/\M<=2*l:=by
  rw [<-k,Nat.one_shiftLeft];exact⟨Nat.one_le_two_pow,Sort.two_pow_bitsLen_le Z⟩
 have NP:=H (λw=>zC l Z w);rw [k] at NP;obtain⟨n,j⟩:∃ n,M-1=n:=⟨_,rfl⟩;have a0:(M:Int)-1=(n:Int):=Z;have b1:(b:Int)-(a:Int)=(l:Int):=Z;have b2:(l:Int).tdiv 4=(m:Int):=by rw [Ig Z];omega
 have b3:(l:Int)/4=(m:Int):=Z;obtain⟨z,p⟩:∃ z,a+m*2=z:=⟨_,rfl⟩;obtain⟨q,s⟩:∃ q,a+m*2+1=q:=⟨_,rfl⟩;have a1:(a:Int)+(m:Int)*2=(z:Int):=Z;have a2:(z:Int)-1=(i:Int):=Z;have a3:(z:Int)+1=(q:Int):=Z;have h8:(8:Int)<=(l:Int):=Z;have x:D V (V.alloc (.cells #[U l] 290)):=(Fu _ _).alloc (Fv _) _;have v:=H (A.below x);have g:=H (ao V (.cells #[U l] 290));have hG:=A.lt;have hr:i+2=q/\q<b/\q<N/\n<200000/\l<=N/\a<=i:=Z;have R:=H j;have B:=H f;have a4:a+l<=N:=Z;clear A x t k c e o f p s j;go_enter func212,ntmps212;go_wp2_with fail;generalize V.alloc _=W1 at v g ⊢;obtain⟨S,hS⟩:∃ S,V.heap.size=S:=⟨_,rfl⟩;rw [hS] at g hG ⊢;refine (NP _).mono ?_;rintro r L ⟨rfl,rfl⟩;go_wp2_with fail;go_loopw [9] (λT wr=>∃ (t:Nat) (c:Nat) (r:UInt64) (d:Array Nat),t<=3/\i+t=c/\T=I c/\Hid ((DU a l M (3-t) c (r,d)).2=u)/\Hid (wr.heap[S]?=some (.cells #[U r.toNat] 290))/\Hid (Au G N cp V0 d wr)) (λT _=>i+4-(intOf T).toNat);case atStart=>exact ⟨0,i,_,d,Z,rfl,rfl,B,H (by rw [UInt64.toNat_ofNat_of_lt' (show l<2 ^ 64 by omega)];exact g),v⟩
 case round =>
  clear B g v;obtain⟨t,c,r,d,ht,a5,rfl,O,g,v⟩:=hrel;by_cases b4:t<3
  ·have W:(c:Int)<=(q:Int):=Z;obtain⟨k,hk⟩:∃ k,3-t=k+1:=⟨2-t,Z⟩;have F:=H (show (DU a l M k (c+1) (Sort.breakStep a l M (r,d) c)).2=u by have:=O.out;rw [hk] at this;exact this);have P:=H (λw e f=>Ba S r.toNat r.toNat_lt w e f);rw [<-Sort.xorNext_toNat] at P;obtain⟨j,e⟩:∃ j,Sort.xorNext r=j:=⟨_,rfl⟩;obtain⟨Y,K⟩:∃ Y,j.toNat=Y:=⟨_,rfl⟩;rw [e,K] at P;have X:Y<18446744073709551616:=(by rw [<-K];exact j.toNat_lt);obtain⟨o,Q⟩:∃ o,Y &&& n=o:=⟨_,rfl⟩;have b5:bits .and .u64 (Y:Int) (n:Int)=(o:Int):=(by rw [bits_and_u64_nat _ _ X Z,Q]);have b6:o<=n:=(by rw [<-Q];exact Nat.and_le_right);have c1:wr.cell? ⟨S,0,none⟩=some (U r.toNat):=bJ g.out;have f1:wr.frozen? ⟨S,0,none⟩=false:=(by simp [World.frozen?,g.out]);have s:=H ((v.box g ar hG (U Y)).drewN 3);have S1:=H (show ((wr.setCell ⟨S,0,none⟩ (U Y)).drewN 3).heap[S]?=some (.cells #[U j.toNat] 290) by rw [K];exact tW g _);obtain⟨x,f⟩:∃ x,(if o≥l then o-l else o)=x:=⟨_,rfl⟩;have y:=H (show (DU a l M k (c+1) (j,Sort.swp d c (a+x))).2=u by
    have:=F.out;unfold Sort.breakStep at this;simp only [e,K,R.out,Q,f] at this;exact this)
   have CX:=H (P wr c1 f1);have a6:(c:Int)<(N:Int):=Z;have a7:x<l/\o<=n:=(by rw [<-f];split <;> omega);obtain⟨p,hp⟩:∃ p,a+x=p:=⟨_,rfl⟩;rw [hp] at y;have b7:(a:Int)+(x:Int)=(p:Int):=Z;have b8:(p:Int)<(N:Int):=Z;clear O F P e K Q v g;go_wp2_with fail;refine (CX).mono ?_;rintro e L ⟨rfl,F⟩;rw [<-F] at s S1;clear CX F c1 f1;have F:∀ (A:Au G N cp V0 d L),True:=λ_=>trivial
   have K:=s.cell (show c<N by omega);have P:=s.cell (show p<N by omega);have f1:=s.fz c;obtain⟨u9,Q⟩:=s.sw1 (show c<N by omega) (show p<N by omega);have f0:=(s.set (show c<N by omega) d[p]!).fz p;have A2:=H (s.swap (show c<N by omega) (show p<N by omega)).drew;have S2:=H (show (((L.setCell ⟨G,c,none⟩ (U ((d[p]! : Nat):Int))).setCell ⟨G,p,none⟩ (U ((d[c]! : Nat):Int))).drew).heap[S]?=some (.cells #[U j.toNat] 290) by
    show ((L.setCell ⟨G,c,none⟩ (U ((d[p]! : Nat):Int))).setCell ⟨G,p,none⟩ (U ((d[c]! : Nat):Int))).heap[S]?=_;rw [GQ _ _ _ _ (show S≠G by omega),GQ _ _ _ _ (show S≠G by omega)];exact S1)
   clear s S1 F;by_cases s:o≥l
   ·rw [GP s] at f;have F:(l:Int)<=(o:Int):=Z;have a8:(o:Int)-(l:Int)=(x:Int):=Z;(go_upto_region 10 with fail);go_region;clear K P f1 Q f0;go_wp2;go_roundw;(case rel=>exact ⟨t+1,c+1,j,_,Z,Z,aY,H (by rw [show 3-(t+1)=k by omega];exact y),S2,A2⟩);case measure=>(simp [intOf];try omega)
   rw [GO s] at f;subst f;have F:¬((l:Int)<=(o:Int)):=Z;(go_upto_region 10 with fail);go_region;clear K P f1 Q f0;go_wp2;go_roundw;(case rel=>exact ⟨t+1,c+1,j,_,Z,Z,aY,H (by rw [show 3-(t+1)=k by omega];exact y),S2,A2⟩);case measure=>(simp [intOf];try omega)
  obtain rfl:t=3:=Z;have W:¬((c:Int)<=(q:Int)):=Z;have e:=H (show d=u from O);clear O;go_wp2;go_end0;exact⟨rfl,by rw [<-e.out];exact v⟩
end
section
open Go.Shelf Go.RowKit Go.Lib Go.Sort
theorem BE:tz:=by
 intro v rs W p h q;rcases h.2 with ⟨rfl,r⟩|⟨g,c,k,rfl,s,l,t,u,y,z⟩;·have b:rs=[]:=Ik r;subst b;have a:=AnyF.slices_SortFunc_none Tryz.sortR none 0 (.func (.func 115) #[] #[]) W;change Calls prog 114 _ _ _ at a;refine a.mono ?_;rintro e A ⟨rfl,rfl⟩;exact⟨rfl,[],List.Perm.refl _,List.Pairwise.nil,h,⟨rfl,rfl,rfl,Fv _,λ_ _ _=>rfl⟩⟩
 have B:∀ b w,(callFunc 115 b).run prog w=.ok (.enter 115 b) w:=enters_of func115 E rfl;have a:=AnyQ.slices_SortFunc Tryz.sortR 5 Tryz.isAgg66 Tryz.sizeOf66 tC (λ_=>rfl) (λx v b=>by simp [tC] at b;rcases b with rfl|rfl|rfl|rfl|rfl <;> rfl) tq Ev 115 #[] g 0 c rs.toArray W B (yF g 0 rs.toArray.size W) (Cv l z) (ag l) bG;change Calls prog 114 _ _ _ at a;simp only [FX] at a;refine a.mono ?_;rintro e A ⟨rfl,b,n,K,x,F,rfl⟩;have f:b.toList.Perm rs:=by have:=sX (d:=rs.toArray) (by simpa using x);simpa using this
 have m:b.toList.length=rs.length:=f.length_eq;refine⟨rfl,b.toList,f,?_,⟨by rw [jC,m],.inr ⟨g,c,_,rfl,s,pP b l,t,u,by simp [putCells,y],?_⟩⟩,kN b⟩;·rw [II];intro i j hi G o;have:=F i j (FH _) o Z;rw [Er,getElem!_pos b i (by simpa using hi),getElem!_pos b j (by simpa using G)] at this;simp at this;simpa using this
 have:=uA k b.toList (by rw [m];omega);rw [m] at this;simpa using this
end
end Go.Proofs.YtdngbppdomoenaaGreatDoor
