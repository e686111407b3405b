import Derived.Test.YtdngbppdomoenaaGreatDoorN05
set_option linter.unusedVariables false
set_option linter.unusedSimpArgs false
set_option maxRecDepth 20000
set_option maxHeartbeats 8000000
namespace Go.Proofs.YtdngbppdomoenaaGreatDoor
open Go.Proofs.Tryz
variable {a:Option Addr} {w w':World} {zs:List Int} {c g:Nat}
section
open Go.RowKit Go.Shelf
theorem mn:∀ k,bm (λ_=>none) 0 k=0
 | 0=>rfl
 | k+1=>by simp [bm,mn k]
theorem tp (n bud) (w:World) :
  Calls prog 61 #[I n,I bud] w λe w'=>∃ S M,e=.returned (J S 0)/\Im S M 0 n bud (λ_=>none) w'/\D w w'/\w.heap.size<=S/\w.heap.size<=M/\S≠M:=by
 have a:=@run_makeMap prog;go_enter func61,ntmps61;go_wp2;go_ret;refine⟨w.heap.size+1,w.heap.size,rfl,⟨by rw [<-aF w (.map #[] 0)];exact ao _ _,.map [],((World.ownsMap_made w prog 3 eM).alloc _).mono (Fs _),by rw [mn];rfl,λk b=>?_,λk b=>?_⟩,((Fc _ _).alloc (Fe _) _).alloc (by rw [aF];omega) _,Z,Z,Z⟩;·rfl
 rfl
def b_ (m:Nat->Option (Bool×List Int)) (a:Nat) (n:Int):Int :=
 if n<0\/4096<n then 6 else if n=0 then 0 else if 4611686018427387904<=(a:Int)+(n-1) then 2 else je (dE m a n.toNat)
theorem nS (T Q nn bud m) (a:Nat) (n w) (g:Sx T Q nn bud m w) (b:nn<=4096) (ha:a<18446744073709551616) :
  Calls prog 171 #[J T 0,U a,I n] w λe w'=>e=.returned (I (b_ m a n))/\w'=w:=by
 unfold b_;by_cases c:n<0\/4096<n;·rw [Gv c];exact kK T a n w c
 rw [Gu c];by_cases d:n=0;·rw [Gv d];subst d;exact mI T a w
 rw [Gu d];by_cases f:4611686018427387904<=(a:Int)+(n-1);·rw [Gv f];exact nd T a n w Z Z Z Z f
 rw [Gu f];obtain⟨k,rfl⟩:=GM (show 0<=n by omega);exact lF T Q nn bud m a k w g b Z Z Z
theorem kn {m a} : ∀ {n:Nat},dE m a n=true->∀ i,i<n->isOpen (m ((a+i)/1024))=true
 | 0,_,i,b=>by omega
 | n+1,h,i,b=>by
  simp only [dE,FV] at h
  by_cases e:i=n
  ·subst e;exact h.2
  exact kn h.1 i Z
theorem uj {m a n} (h:b_ m a n=0):0<=n/\n<=4096/\(n=0\/(a:Int)+n<=4611686018427387904)/\∀ i,i<n.toNat->isOpen (m ((a+i)/1024))=true:=by
 unfold b_ at h;split at h;·omega
 split at h;·rename_i c b;subst b;exact⟨Z,Z,.inl rfl,λi d=>by simp at d⟩
 split at h;·omega
 rename_i c b e;refine⟨Z,Z,.inr Z,kn ?_⟩;unfold je at h;split at h;·assumption
 omega
theorem oL (T a n) (c:Int) (w) (d:(c==0)=false) (h:∀ W,D w W->Calls prog 171 #[J T 0,U a,I n] W λe w'=>e=.returned (I c)/\w'=W) :
  Calls prog 128 #[J T 0,U a,I n] w λe w'=>e=.returned (.agg #[I c,C])/\D w w':=by
 have b:=H h;clear h;by_cases f:0<n
 all_goals
  go_enter func128,ntmps128
  go_wp2_with fail
  refine (b _ ((Fc _ _).alloc (Fe _) _)).mono ?_
  rintro _ g ⟨rfl,rfl⟩
  go_wp2_with fail
  refine GO 1 ?_
  rw [Hc]
  go_wp2
  exact GF (v:=.agg #[I c,C]) (by simp [results,Tryz.results128,go_sem]) rfl ⟨rfl,((Fc _ w).alloc (Fe _) _).alloc bF _⟩
theorem nx (T a) (c:Int) (d:Option Addr) (b f:Nat) (w) (i:(c==0)=false) (h:∀ W,D w W->Calls prog 171 #[J T 0,U a,I b] W λe w'=>e=.returned (I c)/\w'=W) :
  Calls prog 129 #[J T 0,U a,.slice d b f] w λe w'=>e=.returned (.agg #[I c,C])/\D w w':=by
 have g:=H h;clear h;by_cases j:0<b
 all_goals
  go_enter func129,ntmps129
  go_wp2_with fail
  refine (g _ ((Fc _ _).alloc (Fe _) _)).mono ?_
  rintro _ k ⟨rfl,rfl⟩
  go_wp2_with fail
  refine GO 1 ?_
  rw [Hc]
  go_wp2
  exact GF (v:=.agg #[I c,C]) (by simp [results,Tryz.results129,go_sem]) rfl ⟨rfl,((Fc _ w).alloc (Fe _) _).alloc bF _⟩
theorem yV (T Q nn bud m) (a:Nat) (n w) (g:Sx T Q nn bud m w) (d:nn<=4096) (ha:a<18446744073709551616) (c:Int) (i:b_ m a n=c) :
  Calls prog 128 #[J T 0,U a,I n] w λe w'=>∃ v,e=.returned (.agg #[I c,v])/\w'.ownsRow w.heap.size 5 1 v (if c=0 then n.toNat else 0) (Ns .u8 (if c=0 then aI m a n.toNat else []))/\D w w':=by
 have b:∀ W,D w W->Calls prog 171 #[J T 0,U a,I n] W λe w'=>e=.returned (I c)/\w'=W:=λW o=>by
  have:=nS T Q nn bud m a n W (g.below o) d ha;rw [i] at this;exact this
 by_cases f:c=0
 ·subst f;obtain⟨p,q,r,j⟩:=uj i;obtain⟨k,rfl⟩:=GM p;simp only [Iv,FD] at j ⊢;rcases Nat.eq_zero_or_pos k with l|l;·subst l;exact ki T Q nn bud m a 0 w g d Z Z (λi i=>Z) b
  exact ki T Q nn bud m a k w g d Z Z j b
 refine (oL T a n c w (by simp [f]) b).mono ?_;rintro e w' ⟨rfl,j⟩;refine⟨_,rfl,?_,j⟩;rw [Gu f,Gu f];exact⟨rfl,.inl ⟨rfl,rfl⟩⟩
theorem qN (T Q nn bud m) (a:Nat) (len) (f:Nat) (d ys w) (j:Sx T Q nn bud m w) (l:Dt Q w d len ys) (g:nn<=4096) (ha:a<18446744073709551616) (c:Int) (i:b_ m a (len:Int)=c) :
  Calls prog 129 #[J T 0,U a,.slice d len f] w λe w'=>e=.returned (.agg #[I c,C])/\Sx T Q nn bud (if c=0 then ax m a ys len else m) w'/\Sf Q w w':=by
 have b:∀ W,D w W->Calls prog 171 #[J T 0,U a,I len] W λe w'=>e=.returned (I c)/\w'=W:=λW p=>by
  have:=nS T Q nn bud m a len W (j.below p) g ha;rw [i] at this;exact this
 by_cases k:c=0
 ·subst k;obtain⟨q,r,s,n⟩:=uj i;simp only [Iv,FD] at n ⊢;rcases Nat.eq_zero_or_pos len with o|o;·subst o;exact ji T Q nn bud m a 0 f d ys w j l g Z Z (λi i=>Z) b
  exact ji T Q nn bud m a len f d ys w j l g Z Z n b
 refine (nx T a c d len f w (by simp [k]) b).mono ?_;rintro e w' ⟨rfl,n⟩;rw [Gu k];exact⟨rfl,j.below n,Sf.ofBelow n j.ltQ⟩
def IC (m:Nat->Option (Bool×List Int)) (p:Nat) (b:Bool):Nat->Bool
 | 0=>true
 | k+1=>IC m p b k&&((m (p+k)).isSome==b)
instance (nn:Nat) (p c:Int):Decidable (Ar nn p c):=by unfold Ar;infer_instance
def ks (n:Nat) (bud:Int) (m:Nat->Option (Bool×List Int)) (kd:Int) (p c:Nat):(Nat->Option (Bool×List Int))×Int :=
 if kd=0 then
  if IC m p false c=false then (m,6) else if bud<(bz m n:Int)+c then (m,1) else (aU m p c,0)
 else if IC m p true c=false then (m,6)
 else if kd=1 then (bI m p c,0)
 else if kd=2 then (gQ m p true c,0) else (gQ m p false c,0)
def bT (n:Nat) (bud:Int) (m:Nat->Option (Bool×List Int)) (kd p c:Int) (a:Nat) (len:Int) (ys:List Int):(Nat->Option (Bool×List Int))×Int×List Int :=
 if kd=4 then (m,b_ m a len,if b_ m a len=0 then aI m a len.toNat else [])
 else if kd=5 then (if b_ m a (ys.length:Int)=0 then ax m a ys ys.length else m,b_ m a (ys.length:Int),[])
 else if kd<0\/5<kd then (m,6,[])
 else if Ar n p c then ((ks n bud m kd p.toNat c.toNat).1,(ks n bud m kd p.toNat c.toNat).2,[])
 else (m,6,[])
def Ans (Q:Nat) (w w':World) (e:Ending) (code:Int) (data:List Int):Prop:=∃ v,e=.returned (.agg #[I code,v])/\w'.ownsRow w.heap.size 5 1 v data.length (Ns .u8 data)/\∀ g,v.ownBlock=some g->¬ft Q w' g
theorem Ans.none (Q w w' code):Ans Q w w' (.returned (.agg #[I code,C])) code []:=⟨_,rfl,⟨rfl,.inl ⟨rfl,rfl⟩⟩,λg h=>by cases h⟩
end
section
open Go.ChangeShapes Go.WideShapes Go.ChangeAt Go.RowKit
theorem ng (w:World) (g:Nat) (a:Array Value):w.grownBy (w.setRow g a) (some g) :=
 ⟨rfl,rfl,rfl,by simp [World.setRow],λk _ h=>setRow_other w g k a (by simpa using h)⟩
theorem ie (w:World) (n o:Option Addr) (a c b d g f:Nat) (i:List Value) (p:w.heap[g]?=some (.cells i.toArray 3)) (e:List Value) (q:e.length=Nat.min b a)
  (k:0<e.length->n=some ⟨g,f,none⟩/\∃ m,o=some m/\∀ j v,e[j]?=some v->w.cell? (m.add j)=some v)
  (j:f+e.length<=i.length) (r:∀ v∈e,v.oneCell'=true) :
  ∃ w',(Builtin.copy_ #[24,24] 3 #[.slice n a c,.slice o b d]).run prog w=.ok (I e.length) w'/\w'.heap[g]?=some (.cells (splice i f e).toArray 3)/\w.grownBy w' (some g):=by
 by_cases s:e.length=0;·obtain rfl:e=[]:=Hv s;refine⟨w,run_copy_none (P:=prog) w 24 24 3 3 n o a c b d underlying24 E (by simpa using q.symm),by simpa [splice] using p,ar w g⟩
 obtain⟨rfl,m,rfl,l⟩:=k Z;refine⟨_,run_copy_row (P:=prog) w 24 24 3 3 g f a c m b d i.toArray 3 e underlying24 E p q l (by simpa using j) r,?_,ng w g _⟩;simpa [splice] using setRow_heap w g _ _ 3 _ p
theorem Bt (n:Nat) (h:n<=1048576) (w:World):(Instr.makeSlice 24 (I (n:Int)) (I (n:Int))).run prog w=.ok (Vl w.heap.size n n) (w.alloc (.cells (madeCells #[Value.int .i64 0] n) 3)) :=
 run_make_row' 24 3 (I 0) 8 underlying24 Tryz.info3In rfl .i64 .i64 n Z Z w
theorem dD (w:World) (o:Obj):(w.alloc o).heap[w.heap.size]?=some o:=heap_alloc_new w o
theorem db (w:World) (o:Obj):(w.alloc o).heap.size=w.heap.size+1:=by
 have e:(w.alloc o).heap=w.heap.push o:=rfl;rw [e,Array.size_push]
theorem lj {k:Nat} {p:Obj} (h:w.heap[k]?=some p) (o:Obj):(w.alloc o).heap[k]?=some p:=by
 rw [heap_alloc_old w o (dI h)];exact h
theorem wI (w:World) (A B a:Obj):((((w.alloc A).alloc B).alloc a).heap[w.heap.size]?=some A)/\((((w.alloc A).alloc B).alloc a).heap[w.heap.size+1]?=some B)/\((((w.alloc A).alloc B).alloc a).heap[w.heap.size+1+1]?=some a)/\D w (((w.alloc A).alloc B).alloc a):=by
 have d:=dD w A;have b:=dD (w.alloc A) B;have c:=dD ((w.alloc A).alloc B) a;rw [db] at b;rw [db,db] at c;exact⟨lj (lj d B) a,lj b a,c,(((Fc _ w).alloc (Fe _) A).alloc (by rw [db];omega) B).alloc (by rw [db,db];omega) a⟩
theorem IE (n:Nat):madeCells #[Value.int .i64 0] n=(Ns .i64 (List.replicate n 0)).toArray:=by
 apply Array.ext';simp [Ht,Ns]
theorem Sl.src (h:Sl w a zs) (d:0<zs.length):∃ b,a=some b/\∀ j v,(Ns .i64 zs)[j]?=some v->w.cell? (b.add j)=some v:=by
 rcases h with ⟨_,rfl⟩|⟨g,rfl,f⟩;·simp at d
 refine⟨_,rfl,λj v b=>?_⟩;have c:j<(Ns .i64 zs).length:=by
  by_cases c:j<(Ns .i64 zs).length;·exact c
  rw [Ft Z] at b;cases b
 have:=f.cell j c;rw [b] at this;have e:(⟨g,0,none⟩:Addr).add j=⟨g,j,none⟩:=by cases j <;> simp [Addr.add]
 rw [e];exact this
theorem jQ (k zs):∀ v∈Ns k zs,v.oneCell'=true:=by
 intro v a;simp only [Ns,FC] at a;obtain⟨x,_,rfl⟩:=a;rfl
theorem oR (zs:List Int) (n:Nat) (h:zs.length<=n):splice (Ns .i64 (List.replicate n 0)) 0 (Ns .i64 zs)=Ns .i64 (zs++List.replicate (n-zs.length) 0):=by
 simp [splice,Ns]
theorem rowOf {e:TypeId} {a:List Value} (h:w.heap[g]?=some (.cells a.toArray e)):RowV w g e a :=
 ⟨_,h,bF,λi b=>bF⟩
theorem set3 {a b c:Value} {t:TypeId} (h:w.heap[g]?=some (.cells #[a,b,c] t)) (x y z:Value) :
  (((w.setCell ⟨g,0,none⟩ x).setCell ⟨g,1,none⟩ y).setCell ⟨g,2,none⟩ z).heap[g]?=some (.cells #[x,y,z] t):=by
 rw [Hm _ _ _ _ _ _ (Hm _ _ _ _ _ _ (Hm _ _ _ _ _ _ h))];rfl
theorem l_ {o:Obj} (h:w.heap[g]?=some o) (k i:Nat) (v:Value) (a:g≠k):(w.setCell ⟨k,i,none⟩ v).heap[g]?=some o:=by
 rw [heap_setCell_other _ _ _ _ (by simpa using a)];exact h
theorem lN (n b k:Nat) (a) (zs:List Int) (w) (c:zs.length=b) (f:b<=n) (u:n<=1024) (d:Sl w a zs) :
  Calls prog 94 #[I n,.slice a b k] w λe w'=>∃ g,e=.returned (.agg #[Vl g n n,I (0:Nat),I b])/\RowV w' g 3 (Ns .i64 (zs++List.replicate (n-b) 0))/\w.heap.size<=g/\D w w':=by
 have r:=λW=>Bt n Z W
 have s:=H d;have l:=H c;clear d c;have j:=H (wI w (.cells #[C,I 0,I 0] 164) (.cells (madeCells #[I 0] n) 3) (.cells #[Vl (w.heap.size+1) n n,I 0,I 0] 164));obtain⟨c,p,m,d⟩:=ie _ (some ⟨w.heap.size+1,0,none⟩) a n n b k (w.heap.size+1) 0 (Ns .i64 (List.replicate n 0)) (by rw [<-IE];exact j.2.1) (Ns .i64 zs) (by rw [bo,l.out];exact (Hh f).symm) (λb=>⟨rfl,(s.below j.2.2.2).src (by rw [bo] at b;exact b)⟩) (by simp only [bo,FO];rw [l.out];omega) (jQ _ _);rw [bo,l.out] at p;have i:=H (fa d j.1 Z);have o:=H (fa d j.2.2.1 Z);have t:=H (below_grown j.2.2.2 d Z);have q:=H (rowOf m);clear m d j;have m:c.cell? ⟨w.heap.size+1+1,2,none⟩=some (I 0):=bY o.out;have f2:c.frozen? ⟨w.heap.size+1+1,2,none⟩=false:=GG _ _ _ _ _ o.out;have d:c.cell? ⟨w.heap.size+1+1,0,none⟩=some (Vl (w.heap.size+1) n n):=bY o.out;have j:c.cell? ⟨w.heap.size+1+1,1,none⟩=some (I 0):=bY o.out;have v:c.cell? ⟨w.heap.size,0,none⟩=some (C):=bY i.out;have x:c.cell? ⟨w.heap.size,1,none⟩=some (I 0):=bY i.out;have y:c.cell? ⟨w.heap.size,2,none⟩=some (I 0):=bY i.out;have f0:c.frozen? ⟨w.heap.size,0,none⟩=false:=GG _ _ _ _ _ i.out;have f1:c.frozen? ⟨w.heap.size,1,none⟩=false:=GG _ _ _ _ _ i.out;have f3:c.frozen? ⟨w.heap.size,2,none⟩=false:=GG _ _ _ _ _ i.out;go_enter func94,ntmps94;go_wp2;refine GF (Ga ef _ _ w.heap.size 164 _ (0,0) _ ef (set3 (l_ i _ _ _ Z) _ _ _) underlying164 rfl E) ef ?_;refine⟨w.heap.size+1,rfl,?_,Z,?_⟩
 ·rw [<-l.out,<-oR _ _ (by rw [l.out];exact f)];refine (((q.other ?_ _).other ?_ _).other ?_ _).other ?_ _
  all_goals (dsimp only;omega)
 exact (((t.setCell iK _).setCell iK _).setCell iK _).setCell iK _
theorem iu (g l a b:Nat) (d:l<=a) (f:a<=b):∃ c,(∀ w:World,(Instr.slice 24 (Vl g a b) (some (I l)) none none).run prog w=.ok (.slice c (a-l) (b-l)) w)/\(l<a->c=some ⟨g,l,none⟩):=by
 have h:=λw=>run_slice_l (P:=prog) w 24 (some ⟨g,0,none⟩) a b underlying24 .i64 (l:Int) Z Z
 have c:∀ w:World,(sizeOf (prog.elem 24)).run prog w=.ok 1 w:=λw=>E
 refine⟨if b=l then some ⟨g,0,none⟩ else some ⟨g,l,none⟩,λw=>?_,λh=>?_⟩
 ·rw [h w,c];have e:(⟨g,0,none⟩:Addr).add l=⟨g,l,none⟩:=by cases l <;> simp [Addr.add]
  simp [sliced,Result.andThen,e]
 rw [Gu Z]
theorem mU {r} {ps:List Int} (c:RowV w r 3 (Ns .i64 ps)) (o k:Nat) (d:o+k<=ps.length):∀ j v,(Ns .i64 ((ps.drop o).take k))[j]?=some v->w.cell? ((⟨r,o,none⟩:Addr).add j)=some v:=by
 intro j v a;have b:j<k:=by
  by_cases b:j<k;·exact b
  rw [Ft (by simp [Ns];omega)] at a;cases a
 have e:(⟨r,o,none⟩:Addr).add j=⟨r,o+j,none⟩:=by cases j <;> simp [Addr.add]
 rw [e,c.cell _ (by rw [bo];omega)];rw [<-a];simp [Ns,b]
theorem yN {α:Type} (a A B:List α) (m:Nat) (b:A.length=m) (d:a.length=m+B.length):splice (splice a 0 A) m B=A++B:=by
 subst b;have c:splice a 0 A=A++a.drop A.length:=by simp [splice]
 rw [c];unfold splice;rw [Ih (Fe _),GK,List.drop_of_length_le bK];simp
theorem xt (ps:List Int) (n o h m:Nat) (f:ps.length=n) (g:o<=n) (i:h<=n) (d:m<=n-o/\m<=h/\(m=n-o\/m=h)):(ps.drop o).take m++(ps.drop 0).take (h-m)=(ps.drop o++ps.take o).take h:=by
 rw [List.take_append,Io];have e:(ps.drop o).length=n-o:=bK;rw [e];rcases d with ⟨a,b,c|c⟩;·subst c;rw [FQ Z,FQ (l:=ps.drop o) Z,List.take_take,Hh Z]
 subst c;rw [Nat.sub_self,show m-(n-o)=0 by omega];simp
theorem row_in (G r n o h m g:Nat) (ps:List Int) (w:World) (f:g=w.heap.size) (y:m=Nat.min (n-o) h) (z:w.cell? ⟨G,0,none⟩=some (Vl r n n)) (A:w.cell? ⟨G,1,none⟩=some (I o)) (c2:w.cell? ⟨G,2,none⟩=some (I h))
  (j:RowV w r 3 (Ns .i64 ps)) (R:ps.length=n) (N:o<=n) (T:h<=n) (V:n<=1024) :
  Calls prog 117 #[J G 0] w λe w'=>e=.returned (Vl g h h)/\RowV w' g 3 (Ns .i64 ((ps.drop o++ps.take o).take h))/\D w w':=by
 have k:m<=n-o/\m<=h/\(m=n-o\/m=h):=by
  rw [y];refine⟨Nat.min_le_left _ _,Nat.min_le_right _ _,?_⟩;show min (n-o) h=_\/min (n-o) h=_;omega
 obtain⟨X,Y,B⟩:=iu r o n n N (Fe _);obtain⟨dq,a0,F⟩:=iu g m h h k.2.1 (Fe _);have a1:=λW=>Bt h Z W
 have l:D w (w.alloc (.cells (madeCells #[I 0] h) 3)).drew:=((Fc _ w).alloc (Fe _) _).drew;have O:(w.alloc (.cells (madeCells #[I 0] h) 3)).drew.heap[g]?=some (.cells (Ns .i64 (List.replicate h 0)).toArray 3):=by
  rw [<-IE,f];exact dD _ _
 have K:(w.alloc (.cells (madeCells #[I 0] h) 3)).drew.cell? ⟨G,0,none⟩=some (Vl r n n)/\(w.alloc (.cells (madeCells #[I 0] h) 3)).drew.cell? ⟨G,1,none⟩=some (I o):=⟨ad l z,ad l A⟩;have p:=j.below l j.lt;have rl:=j.lt;obtain⟨q,L,s,t⟩:=ie (w.alloc (.cells (madeCells #[I 0] h) 3)).drew (some ⟨g,0,none⟩) X h h (n-o) (n-o) g 0 (Ns .i64 (List.replicate h 0)) O (Ns .i64 ((ps.drop o).take m)) (by rw [bo];simp;rw [<-y];omega) (λu=>⟨rfl,_,B (by rw [bo] at u;simp at u;omega),mU p o m Z⟩) (by rw [bo,bo];simp;omega) (jQ _ _);rw [show (Ns .i64 ((ps.drop o).take m)).length=m by rw [bo];simp;omega] at L;have a:=below_grown l t Z;have v:q.drew.cell? ⟨G,0,none⟩=some (Vl r n n)/\q.drew.cell? ⟨G,1,none⟩=some (I o):=⟨ad a.drew z,ad a.drew A⟩;have c:q.cell? ⟨G,0,none⟩=some (Vl r n n)/\q.cell? ⟨G,1,none⟩=some (I o):=v;have x:=j.below a.drew j.lt;obtain⟨P,a2,i,d⟩:=ie q.drew dq (some ⟨r,0,none⟩) (h-m) (h-m) n n g m _ s (Ns .i64 ((ps.drop 0).take (h-m))) (by rw [bo];simp;show min _ _=min _ _;omega) (λu=>⟨F (by rw [bo] at u;simp at u;omega),_,rfl,mU x 0 (h-m) Z⟩) (by rw [length_splice _ _ _ (by rw [bo,bo];simp;omega),bo,bo];simp;omega) (jQ _ _);have b:=below_grown a.drew d Z;have M:P.cell? ⟨G,0,none⟩=some (Vl r n n)/\P.cell? ⟨G,1,none⟩=some (I o):=⟨ad b z,ad b A⟩;have Q:splice (splice (Ns .i64 (List.replicate h 0)) 0 (Ns .i64 ((ps.drop o).take m))) m (Ns .i64 ((ps.drop 0).take (h-m)))=Ns .i64 ((ps.drop o++ps.take o).take h):=by
  rw [yN _ _ _ m (by rw [bo];simp;omega) (by rw [bo,bo];simp;omega),<-xt ps n o h m R N T k];simp [Ns]
 rw [Q] at i;have HR:=H (rowOf i);have HB:=H b;have HW:=H f;clear f y;clear p x s i t d l a b O Q j;go_enter func117,ntmps117;go_wp2;rw [<-HW.out];generalize w.alloc (.cells (madeCells #[I 0] h) 3)=d at *;refine rh (S:=λW=>W.cell? ⟨G,0,none⟩=some (Vl r n n)/\W.cell? ⟨G,1,none⟩=some (I o)) ?_;have a:=K;iterate 10 (refine py a ?_;simp only [f0,f1,Nat.reduceAdd,lz,l0,ls])
 refine ci (r:=10) E ?_;refine dO rfl E (λK' b=>?_);go_simp;refine b _ _ ⟨c,?_⟩;clear a;have a:=c;clear b K';refine pk 11 (I m) a ?_;refine bN ?_;go_wp2;refine rh (S:=λW=>W.cell? ⟨G,0,none⟩=some (Vl r n n)/\W.cell? ⟨G,1,none⟩=some (I o)) ?_;have a:=v;iterate 7 (refine py a ?_;simp only [f0,f1,Nat.reduceAdd,lz,l0,ls])
 refine ci (r:=7) E ?_;refine dO rfl E (λK' b=>?_);go_simp;refine b _ _ ⟨M,?_⟩;clear b K';refine bN ?_;go_wp2;go_ret;exact⟨rfl,HR,HB⟩
def Ow (w:World) (base:Nat) (a:Option Addr) (c:Nat) (zs:List Int):Prop:=w.ownsRow base 3 1 (.slice a zs.length c) zs.length (Ns .i64 zs)
theorem Ow.nil (w base):Ow w base none 0 []:=⟨rfl,.inl ⟨rfl,rfl⟩⟩
theorem Ow.but {S base} (h:Ow w base a c zs) (i:But S w w') (j:∀ g,a=some ⟨g,0,none⟩->¬S g):Ow w' base a c zs:=by
 refine⟨h.1,?_⟩;rcases h.2 with k|⟨g,b,d,e,l,f,m⟩;·exact .inl k
 right;have n:a=some ⟨g,0,none⟩:=by simp at e;exact e.1
 exact⟨g,b,d,e,l,by rw [i.block g (dI f) (j g n)];exact f,m⟩
theorem Ow.below {base} (h:Ow w base a c zs) (b:D w w'):Ow w' base a c zs:=h.but (But.ofBelow (S:=λ_=>False) b) (λ_ _=>id)
theorem Ow.base {base} (h:Ow w base a c zs):∀ g,a=some ⟨g,0,none⟩->base<=g/\g<w.heap.size:=by
 rintro g rfl;rcases h.2 with ⟨e,_⟩|⟨j,b,d,e,f,i,k⟩;·simp at e
 simp at e;obtain⟨rfl,_⟩:=e;exact⟨f,dI i⟩
theorem Ow.sl {base} (h:Ow w base a c zs):Sl w a zs:=by
 have b:=h;rcases h.2 with ⟨e,d⟩|⟨g,f,i,e,k,l,m⟩;·simp at e;exact .inl ⟨e.1,List.length_eq_zero_iff.1 d⟩
 have j:a=some ⟨g,0,none⟩:=by simp at e;exact e.1
 subst j;exact .inr ⟨g,rfl,RowV.ofOwns b⟩
theorem Ow.cap0 {base} (h:Ow w base a c zs):a=none->c=0:=by
 rintro rfl;rcases h.2 with ⟨e,f⟩|⟨g,b,d,e,i,j,k⟩;·simp at e;exact e.2
 simp at e
theorem Ow.capge {base} (h:Ow w base a c zs):zs.length<=c:=by
 rcases h.2 with ⟨e,f⟩|⟨g,b,d,e,i,j,k,_⟩;·omega
 simp at e;omega
theorem kQ (w base a c zs) (o:Option Addr) (m q:Nat) (f:List Int) (b:Ow w base a c zs) (z:f.length=m) (K:o=none->q=0) (l:(o=none/\f=[])\/∃ p,o=some p/\∀ j u,(Ns .i64 f)[j]?=some u->w.cell? (p.add j)=some u) (T:zs.length+m<=1048576) (i:base<=w.heap.size) :
  ∃ j d w',(Builtin.append_ #[24,24] 24 #[.slice a zs.length c,.slice o m q]).run prog w=.ok (.slice j (zs.length+m) d) w'/\Ow w' base j d (zs++f)/\But (λk=>base<=k) w w':=by
 obtain⟨A,B,r,s,t⟩:=GI Tryz.info3In;rcases l with ⟨rfl,rfl⟩|⟨p,rfl,L⟩
 ·obtain rfl:m=0:=by simpa using z.symm
  obtain rfl:=K rfl;refine⟨a,c,w,?_,by rw [F4];exact b,But.refl _ _⟩;rw [Gt];exact run_append_owned_none (P:=prog) (w:=w) base 24 24 3 A 1 underlying24 B _ _ _ b
 obtain⟨M,w',N,F,n,_⟩:=Hk (P:=prog) w base 24 24 3 A (I 0) 1 8 underlying24 B r s t rfl Z (.slice a zs.length c) zs.length (Ns .i64 zs) b p m q (Ns .i64 f) (by rw [bo];omega) L (jQ _ _) (by unfold maxLen;omega) Z i;have O:∃ j d,M=.slice j (zs.length+m) d:=by
  rcases F.2 with ⟨e,x⟩|⟨g,v,y,e,_⟩;·exact⟨none,0,by rw [x];exact e⟩
  exact⟨_,_,e⟩
 obtain⟨j,d,rfl⟩:=O;refine⟨j,d,w',N,?_,⟨n.os,n.tape,n.output,n.size,λk Q R=>n.block k Q λG=>R ?_⟩⟩
 ·have x:(zs++f).length=zs.length+m:=by simp [z]
  unfold Ow;rw [x];have S:Ns .i64 (zs++f)=Ns .i64 zs++Ns .i64 f:=by simp [Ns]
  rw [S];exact F
 cases a with
 | none=>simp [Value.ownBlock] at G
 | some x =>
  rcases b.2 with ⟨e,_⟩|⟨g,v,y,e,S,_⟩;·simp at e
  simp at e;obtain⟨rfl,_⟩:=e;simp [Value.ownBlock] at G;omega
def Os (w:World) (a:Option Addr) (c:Nat) (zs:List Int):Prop:=(a=none/\c=0/\zs=[])\/∃ g,a=some ⟨g,0,none⟩/\RowV w g 3 (Ns .i64 zs)
theorem Os.sl (h:Os w a c zs):Sl w a zs:=by
 rcases h with ⟨rfl,_,rfl⟩|h;·exact .inl ⟨rfl,rfl⟩
 exact .inr h
theorem Os.but {S w w' a c zs} (h:Os w a c zs) (b:But S w w') (d:∀ g,a=some ⟨g,0,none⟩->¬S g):Os w' a c zs:=by
 rcases h with h|⟨g,e,f⟩;·exact .inl h
 exact .inr ⟨g,e,f.but b (d g e)⟩
theorem Os.below (h:Os w a c zs) (b:D w w'):Os w' a c zs:=h.but (But.ofBelow (S:=λ_=>False) b) (λ_ _=>id)
theorem Os.lt {w a c zs} (h:Os w a c zs):∀ g,a=some ⟨g,0,none⟩->g<w.heap.size:=by
 rintro g rfl;rcases h with ⟨e,_⟩|⟨d,e,b⟩;·cases e
 simp at e;subst e;exact b.lt
theorem Os.ne {w a c} {b:Nat} {zs} {d:Array Value} {t:TypeId} (h:Os w a c zs) (f:w.heap[b]?=some (.cells d t)) (g:3≠t):a≠some ⟨b,0,none⟩:=by
 rintro rfl;rcases h with ⟨e,_⟩|⟨j,e,i⟩;·cases e
 simp at e;subst e;exact i.ne f g rfl
theorem Wt.but {S w w' am lm af lf mix fifo} (h:Wt w am lm af lf mix fifo) (b:But S w w') (c:∀ g,am=some ⟨g,0,none⟩->¬S g) (d:∀ g,af=some ⟨g,0,none⟩->¬S g):Wt w' am lm af lf mix fifo :=
  ⟨by rcases h.m with e|⟨g,e,a⟩
      · exact .inl e
      · exact .inr ⟨g,e,a.but b (c g e)⟩,h.ml,by
      rcases h.f with e|⟨g,e,a⟩
      · exact .inl e
      · exact .inr ⟨g,e,a.but b (d g e)⟩,h.fl⟩
theorem tG (x y:Nat) (j:x<18446744073709551616) (k:y<18446744073709551616) (w:World) :
  Calls prog 144 #[U x,U y] w λe w'=>e=.returned (.tuple #[U ((x*y/18446744073709551616:Nat):Int),U ((x*y%18446744073709551616:Nat):Int)])/\w'=w:=by
 obtain⟨m,l,n,c⟩:=Lib.mul64_hi x y j k;have p:=Iw (a:=x/4294967296) (b:=y/4294967296) Z Z;have q:=Iw (a:=x/4294967296) (b:=y%4294967296) Z Z;have r:=Iw (a:=x%4294967296) (b:=y/4294967296) Z Z;have d:x/4294967296*(y/4294967296)<18446744073709551616:=Z;have f:x/4294967296*(y%4294967296)<18446744073709551616:=Z;have g:x%4294967296*(y/4294967296)<18446744073709551616:=Z;have i:x/4294967296*(y/4294967296)+(x/4294967296*(y%4294967296)+x%4294967296*(y%4294967296)/4294967296)/4294967296<18446744073709551616:=Z;have o:x/4294967296*(y/4294967296)+(x/4294967296*(y%4294967296)+x%4294967296*(y%4294967296)/4294967296)/4294967296+((x/4294967296*(y%4294967296)+x%4294967296*(y%4294967296)/4294967296)%4294967296+x%4294967296*(y/4294967296))/4294967296<18446744073709551616:=Z;go_enter func144,ntmps144;go_wp2;simp only [Mul64.maskN x j,Mul64.maskN y k,Mul64.divN,Mul64.mulN,Mul64.addN,Hd _ m,Hd _ f,Hd _ l,Mul64.maskN _ l,Hd _ g,Hd _ n,Hd _ d,Hd _ i,Hd _ o,Mul64.wrapM (x*y)];rw [c]
 go_ret2
 exact⟨rfl,rfl⟩
theorem AJ (m:Nat) (b:m<=16) (w:World) :
  Calls prog 130 #[U 1,U m] w λe w'=>e=.returned (.tuple #[U 0,U m])/\w'=w:=by
 have a:=H (tG 1 m Z Z w);rw [Gl,Nat.div_eq_of_lt Z,Hi Z] at a;go_enter func130,ntmps130;go_wp2_with fail;refine (a).mono ?_;rintro e w' ⟨rfl,rfl⟩;go_wp2
 go_ret2
 exact⟨rfl,rfl⟩
theorem vP (g l b a:Nat) (d:l<=a):∀ w:World,(Instr.slice 24 (Vl g b a) none (some (I l)) none).run prog w=.ok (Vl g l a) w:=by
 intro w;have h:=run_slice_h (P:=prog) w 24 (some ⟨g,0,none⟩) b a underlying24 .i64 (l:Int) Z Z;have c:∀ w:World,(sizeOf (prog.elem 24)).run prog w=.ok 1 w:=λw=>E
 rw [h,c];simp [sliced,Result.andThen,Addr.add]
theorem mX (m k a:Nat) (b:List Int) (d:b.length=m) (e:k+a<=m) (c:b.take k=List.replicate k (-1)):∃ zs:List Int,splice (Ns .i64 b) k (Ns .i64 (List.replicate a (-1)))=Ns .i64 zs/\zs.length=m/\zs.take (k+a)=List.replicate (k+a) (-1):=by
 refine⟨b.take k++(List.replicate a (-1)++b.drop (k+a)),?_,?_,?_⟩;·simp [splice,Ns]
 ·simp;omega
 rw [c,<-Gs,List.replicate_append_replicate,Ih bF,FQ bF]
theorem vv (q) (m:Nat) (w) (Q:m<=16) (n:RowV w q 3 (Ns .i64 [-1])) :
  Calls prog 95 #[Vl q 1 1,I m] w λe w'=>∃ g,e=.returned (Vl g m m)/\RowV w' g 3 (Ns .i64 (List.replicate m (-1)))/\w.heap.size<=g/\D w w':=by
 have R:=H (AJ m Q w);have T:=λW=>Bt m Z W
 obtain⟨g,k⟩:∃ g,g=w.heap.size:=⟨_,rfl⟩;have p:D w (w.alloc (.cells (madeCells #[I 0] m) 3)):=(Fc _ w).alloc (Fe _) _;have t:(w.alloc (.cells (madeCells #[I 0] m) 3)).heap[g]?=some (.cells (Ns .i64 (List.replicate m 0)).toArray 3):=by rw [<-IE,k];exact dD _ _
 obtain⟨c,s⟩:∃ c,c=Nat.min 1 m:=⟨_,rfl⟩;have b:c=min 1 m:=s;obtain⟨M,o,a,i⟩:=ie (w.alloc (.cells (madeCells #[I 0] m) 3)) (some ⟨g,0,none⟩) (some ⟨q,0,none⟩) m m 1 1 g 0 (Ns .i64 (List.replicate m 0)) t (Ns .i64 (List.replicate c (-1))) (by rw [bo,FO];exact s) (λN=>⟨rfl,_,rfl,λj v A=>by
  have d:c=1:=by rw [bo,FO] at N;omega
  rw [d] at A;have:=mU (n.below p n.lt) 0 1 bF j v (by simpa using A);exact this⟩) (by rw [bo,bo];simp;omega) (jQ _ _)
 rw [show (Ns .i64 (List.replicate c (-1))).length=c by rw [bo,FO]] at o;obtain⟨zs,f,l,d⟩:=mX m 0 c (List.replicate m 0) bF Z bF;rw [f] at a;rw [FP] at d;have B:=H (show D w M/\M.heap[g]?=some (.cells (Ns .i64 zs).toArray 3)/\zs.length=m/\zs.take c=List.replicate c (-1) from ⟨below_grown p i Z,a,l,d⟩);have F:=H k;have t1:¬((m:Int)<0):=Z;have t2:¬((9223372036854775807:Int)<(m:Int)):=Z;have O:=H b;clear p t i a f l d n s b;go_enter func95,ntmps95;go_wp2_with fail;refine (R).mono ?_;rintro e w' ⟨rfl,rfl⟩;rw [k] at o;clear k;go_wp2;rw [<-F.out];go_loopw [8] (λi wr=>∃ (k:Nat) (s:List Int),k<=m/\(0<m->0<k)/\i=I k/\Hid (D w' wr/\wr.heap[g]?=some (.cells (Ns .i64 s).toArray 3)/\s.length=m/\s.take k=List.replicate k (-1))) (λi _=>m-(intOf i).toNat);case atStart=>exact ⟨c,zs,by have:=O.out;omega,by have:=O.out;omega,rfl,B⟩
 case round =>
  obtain⟨k,s,hk,V,rfl,b⟩:=hrel;by_cases G:k<m
  ·obtain⟨a,n⟩:∃ a,a=Nat.min k (m-k):=⟨_,rfl⟩;have u:a=min k (m-k):=n;obtain⟨dp,X,y⟩:=iu g k m m Z (Fe _);have z:=y G;subst z;have Y:=vP g k m m Z;obtain⟨P,K,x,t⟩:=ie wr.drew (some ⟨g,k,none⟩) (some ⟨g,0,none⟩) (m-k) (m-k) k m g k (Ns .i64 s) b.2.1 (Ns .i64 (List.replicate a (-1))) (by rw [bo,FO];exact n) (λN=>⟨rfl,_,rfl,λj v A=>by
    have p:RowV wr.drew g 3 (Ns .i64 s):=rowOf b.2.1;refine mU p 0 a (by rw [b.2.2.1];omega) j v ?_;rw [Io];have:s.take a=List.replicate a (-1):=by
     have e:=congrArg (List.take a) b.2.2.2;rw [List.take_take,List.take_replicate,Hh Z] at e;exact e
    rw [this];exact A⟩) (by rw [bo,bo,FO,b.2.2.1];omega) (jQ _ _)
   rw [show (Ns .i64 (List.replicate a (-1))).length=a by rw [bo,FO]] at K;obtain⟨p,f,l,d⟩:=mX m k a s b.2.2.1 Z b.2.2.2;rw [f] at x;have HN:=H (show D w' P/\P.heap[g]?=some (.cells (Ns .i64 p).toArray 3)/\p.length=m/\p.take (k+a)=List.replicate (k+a) (-1) from ⟨below_grown b.1.drew t (by have:=F.out;omega),x,l,d⟩);have L:0<a/\k+a<=m:=(by have:=V Z;omega);have hw:IntKind.i64.wrap ((k:Int)+(a:Int))=(k:Int)+(a:Int):=(by rw [GT];omega);clear b t x f l d n u y B o;go_wp2;refine rh (S:=λ_=>True) ?_;have n:=trivial;(iterate 7 (refine py n ?_;simp only [f0,f1,Nat.reduceAdd,lz,l0,ls]));refine ci (r:=7) E ?_;refine dO rfl E (λK' t=>?_);go_simp;refine t _ _ ⟨trivial,?_⟩;clear t K';refine pz 8 (I ((k:Int)+(a:Int))) n ?_;refine pk 9 (I ((k:Int)+(a:Int))) n ?_;refine bN ?_;go_wp2;go_roundw;(case rel=>exact ⟨k+a,p,L.2,Z,aY,HN⟩);case measure=>simp [intOf];omega
  obtain rfl:m=k:=Z;have a:=H (show RowV wr g 3 (Ns .i64 (List.replicate m (-1))) by
   have:=rowOf b.2.1;rwa [<-b.2.2.2,<-b.2.2.1,GK] )
  have n:=H b.1;clear b B o;go_wp2;go_ret;exact⟨g,rfl,a,by have:=F.out;omega,n⟩
end
end Go.Proofs.YtdngbppdomoenaaGreatDoor
