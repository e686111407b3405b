import Derived.Deep.CutBlock
import Derived.Deep.DeepCutAuto
import Derived.Test.YtibblbenmpcplaaGreatDoorN04
set_option linter.unusedVariables false
set_option linter.unusedSimpArgs false
set_option maxRecDepth 20000
set_option maxHeartbeats 8000000
namespace Go.Proofs.YtibblbenmpcplaaGreatDoor
open Go.Proofs.Tryz
variable {g n:Nat} {W w:World} {e:TypeId} {xs:List Value}
section
open Go.ChangeShapes Go.WideShapes Go.ChangeAt Go.RowKit
theorem Tryz.info3In:(prog.info? 3).map (λi=>(i.zero,i.size,i.bytes))=some (some (I 0),1,8):=E
end
section
open Go.RowKit Go.Shelf
theorem Sx.pgT {T Q bud m} (e:Sx T Q n bud m W) (f:e_ Q W g):∃ c,W.heap[g]?=some (.cells c 5):=by
 obtain⟨k,i⟩:=f;obtain⟨j,o,t,p,_⟩:=e.row;have a:j[k*3+2]?=some (Vl g 1024 1024):=by simpa [World.cell?,o] using i
 have c:k<n:=by
  by_cases b:k<n;·exact b
  rw [Hd Z] at a;cases a
 have b:=p k c;cases d:m k with
 | none=>rw [d] at b;rw [b.2.2] at a;simp at a
 | some q =>
  obtain⟨l,xs⟩:=q;rw [d] at b;obtain⟨_,_,_,u,r,s⟩:=b;rw [r] at a;simp at a;subst a;exact⟨_,s⟩
theorem mM {a:Nat} {b:Nat} {v:Value} (h:W.ownsRow a e b v n xs) (d:v.ownBlock=some g):∃ c,W.heap[g]?=some (.cells c e):=by
 rcases h.2 with ⟨rfl,_⟩|⟨j,f,i,rfl,k,c,_⟩;·cases d
 cases d;exact⟨_,c⟩
end
section
open Go.ChangeShapes Go.WideShapes Go.ChangeAt Go.RowKit
theorem qk (M G r n k:Nat) (a:List Int) (x d:Int) (w:World) (b:w.heap[M]?=some (.cells #[Vl r n n,I (0:Nat),I n,.iface 63 (J G 0)] 153)) (c:RowV w r 3 (Ns .i64 a)) (g:a.length=n) (j:0<n) (y:n<=1024) (f:md d n=k) (z:a[k]?.getD 0 = -1) :
  Calls prog 255 #[J M 0,I x,I d] w λe q=>e=.returned (I (-1))/\RowV q r 3 (Ns .i64 (a.set k x))/\w.grownBy q (some r):=by
 have l:M≠r:=c.ne b ar;have A:w.cell? ⟨M,0,none⟩=some (Vl r n n):=bJ b;have B:w.cell? ⟨M,1,none⟩=some (I (0:Nat)):=bJ b;have F:w.cell? ⟨M,2,none⟩=some (I n):=bJ b;have m:k<n:=f▸oh d n j;have s:=H (lu M r n n 0 k k a x w.drew (by rw [Gb,H4 m]) g j Z Z Z A B c);have t:=H (λW=>iA d n W j Z);rw [f] at t;have u:=H b;clear b c g f;rw [z] at s;go_enter func255,ntmps255;go_wp2;refine rh (S:=λW=>W.cell? ⟨M,2,none⟩=some (I n)/\Hid (W.heap[M]?=some (.cells #[Vl r n n,I (0:Nat),I n,.iface 63 (J G 0)] 153))) ?_;have b:=(show _/\Hid _ from ⟨F,u⟩);iterate 9 (refine py b ?_;simp only [f0,f1,Nat.reduceAdd,lz,l0,ls])
 refine pk 10 (I x) b ?_;refine cn (r:=9) E ?_;refine dM rfl E (λK' c=>?_);go_simp;refine (t _).mono ?_;rintro e o ⟨rfl,rfl⟩;refine c _ _ ⟨b,?_⟩;clear c K';refine cn (r:=11) E ?_;refine dM rfl E (λK' c=>?_);go_simp;refine (s).mono ?_;rintro e o ⟨rfl,v,p⟩;have f:=H (eK (k:=M) p u l);have g:o.cell? ⟨M,2,none⟩=some (I n)/\Hid (o.heap[M]?=some (.cells #[Vl r n n,I (0:Nat),I n,.iface 63 (J G 0)] 153)):=⟨bJ f.out,f⟩;refine c _ _ ⟨g,?_⟩;have K:=H v;have i:=H p;clear b v p;have b:=g;clear c K';refine pk 12 (I (-1)) b ?_;refine bY ?_;go_wp2;go_ret;exact⟨rfl,K,⟨i.os,i.tape,i.output,i.size,i.block⟩⟩
theorem xg (a : Addr) (w : World) : (method 660 63 (.pointer (some a)) "loop.example/s01868/impl.push").run prog w=.ok (257, .pointer (some a)) w := E
theorem Bp (a : Addr) (w : World) : (method 660 62 (.pointer (some a)) "loop.example/s01868/impl.push").run prog w=.ok (255, .pointer (some a)) w := E
theorem ww (M G r n k:Nat) (b:List Int) (x d:Int) (w:World) (f:w.heap[M]?=some (.cells #[Vl r n n,I (0:Nat),I n,.iface 63 (J G 0)] 153)) (g:RowV w r 3 (Ns .i64 b)) (j:b.length=n) (m:0<n) (B:n<=1024) (i:md d n=k) (y:Int) (F:b[k]?.getD 0=y) (K:y ≠ -1)
  (R:Value->World->Prop) (a:∀ c,RowV c r 3 (Ns .i64 (b.set k x))->w.grownBy c (some r)->Calls prog 257 #[J G 0,I y,I d] c λe o=>∃ z,e=.returned (I z)/\R (I z) o) :
  Calls prog 255 #[J M 0,I x,I d] w λe o=>∃ z,e=.returned (I z)/\R (I z) o:=by
 have p:M≠r:=g.ne f ar;have L:w.cell? ⟨M,0,none⟩=some (Vl r n n):=bJ f;have N:w.cell? ⟨M,1,none⟩=some (I (0:Nat)):=bJ f;have O:w.cell? ⟨M,2,none⟩=some (I n):=bJ f;have q:k<n:=i▸oh d n m;have t:=H (lu M r n n 0 k k b x w.drew (by rw [Gb,H4 q]) j m Z Z Z L N g);have u:=H (λW=>iA d n W m Z);rw [i] at u;have v:=H f;clear f g j i;rw [F] at t;have P:=H a;clear a;have Q:(y == -1)=false:=by simpa using K
 go_enter func255,ntmps255;go_wp2;refine rh (S:=λW=>W.cell? ⟨M,2,none⟩=some (I n)/\Hid (W.heap[M]?=some (.cells #[Vl r n n,I (0:Nat),I n,.iface 63 (J G 0)] 153))) ?_;have g:=(show _/\Hid _ from ⟨O,v⟩);iterate 9 (refine py g ?_;simp only [f0,f1,Nat.reduceAdd,lz,l0,ls])
 refine pk 10 (I x) g ?_;refine cn (r:=9) E ?_;refine dM rfl E (λK' i=>?_);go_simp;refine (u _).mono ?_;rintro e c ⟨rfl,rfl⟩;refine i _ _ ⟨g,?_⟩;clear i K';refine cn (r:=11) E ?_;refine dM rfl E (λK' i=>?_);go_simp;refine (t).mono ?_;rintro e c ⟨rfl,A,s⟩;have f:=H (eK (k:=M) s v p);have j:c.cell? ⟨M,2,none⟩=some (I n)/\Hid (c.heap[M]?=some (.cells #[Vl r n n,I (0:Nat),I n,.iface 63 (J G 0)] 153)):=⟨bJ f.out,f⟩;refine i _ _ ⟨j,?_⟩;have T:=H A;have l:=H s;clear g A s;have g:=j;clear i K';refine pk 12 (I (y)) g ?_;refine bY ?_;have V:c.cell? ⟨M,3,none⟩=some (.iface 63 (J G 0)):=bJ f.out;have s:=λw=>xg ⟨G,0,none⟩ w
 go_wp2_with fail;refine (P c T ⟨l.os,l.tape,l.output,l.size,l.block⟩).mono ?_;rintro e X ⟨z,rfl,A⟩;go_wp2;go_ret;exact⟨z,rfl,A⟩
theorem nh (w:World) (g:Nat) (a:Array Value):w.grownBy (w.setRow g a) (some g) :=
 ⟨rfl,rfl,rfl,by simp [World.setRow],λk _ h=>setRow_other w g k a (by simpa using h)⟩
theorem ii (w:World) (n o:Option Addr) (a c b d g f:Nat) (i:List Value) (p:w.heap[g]?=some (.cells i.toArray 3)) (e:List Value) (q:e.length=Nat.min b a)
  (k:0<e.length->n=some ⟨g,f,none⟩/\∃ m,o=some m/\∀ j v,e[j]?=some v->w.cell? (m.add j)=some v)
  (j:f+e.length<=i.length) (r:∀ v∈e,v.oneCell'=true) :
  ∃ l,(Builtin.copy_ #[24,24] 3 #[.slice n a c,.slice o b d]).run prog w=.ok (I e.length) l/\l.heap[g]?=some (.cells (splice i f e).toArray 3)/\w.grownBy l (some g):=by
 by_cases s:e.length=0;·obtain rfl:e=[]:=Ik s;refine⟨w,run_copy_none (P:=prog) w 24 24 3 3 n o a c b d underlying24 E (by simpa using q.symm),by simpa [splice] using p,al w g⟩
 obtain⟨rfl,m,rfl,l⟩:=k Z;refine⟨_,run_copy_row (P:=prog) w 24 24 3 3 g f a c m b d i.toArray 3 e underlying24 E p q l (by simpa using j) r,?_,nh w g _⟩;simpa [splice] using setRow_heap w g _ _ 3 _ p
theorem BF (n:Nat) (h:n<=1048576) (w:World):(Instr.makeSlice 24 (I (n:Int)) (I (n:Int))).run prog w=.ok (Vl w.heap.size n n) (w.alloc (.cells (madeCells #[Value.int .i64 0] n) 3)) :=
 run_make_row' 24 3 (I 0) 8 underlying24 Tryz.info3In rfl .i64 .i64 n Z Z w
theorem dD (w:World) (o:Obj):(w.alloc o).heap[w.heap.size]?=some o:=heap_alloc_new w o
theorem cS (w:World) (o:Obj):(w.alloc o).heap.size=w.heap.size+1:=by
 have e:(w.alloc o).heap=w.heap.push o:=rfl;rw [e,Array.size_push]
theorem lw {k:Nat} {p:Obj} (h:w.heap[k]?=some p) (o:Obj):(w.alloc o).heap[k]?=some p:=by
 rw [heap_alloc_old w o (dO h)];exact h
theorem wJ (w:World) (A B a:Obj):((((w.alloc A).alloc B).alloc a).heap[w.heap.size]?=some A)/\((((w.alloc A).alloc B).alloc a).heap[w.heap.size+1]?=some B)/\((((w.alloc A).alloc B).alloc a).heap[w.heap.size+1+1]?=some a)/\D w (((w.alloc A).alloc B).alloc a):=by
 have d:=dD w A;have b:=dD (w.alloc A) B;have c:=dD ((w.alloc A).alloc B) a;rw [cS] at b;rw [cS,cS] at c;exact⟨lw (lw d B) a,lw b a,c,(((Fu _ w).alloc (Fv _) A).alloc (by rw [cS];omega) B).alloc (by rw [cS,cS];omega) a⟩
theorem si (n:Nat):madeCells #[Value.int .i64 0] n=(Ns .i64 (List.replicate n 0)).toArray:=by
 apply Array.ext';simp [Ii,Ns]
theorem Sl.src {a zs} (h:Sl w a zs) (d:0<zs.length):∃ b,a=some b/\∀ j v,(Ns .i64 zs)[j]?=some v->w.cell? (b.add j)=some v:=by
 rcases h with ⟨_,rfl⟩|⟨g,rfl,f⟩;·simp at d
 refine⟨_,rfl,λj v b=>?_⟩;have c:j<(Ns .i64 zs).length:=by
  by_cases c:j<(Ns .i64 zs).length;·exact c
  rw [FJ Z] at b;cases b
 have:=f.cell j c;rw [b] at this;have e:(⟨g,0,none⟩:Addr).add j=⟨g,j,none⟩:=by cases j <;> simp [Addr.add]
 rw [e];exact this
theorem jU (k zs):∀ v∈Ns k zs,v.oneCell'=true:=by
 intro v a;simp only [Ns,FQ] at a;obtain⟨x,_,rfl⟩:=a;rfl
theorem oP (a:List Int) (n:Nat) (h:a.length<=n):splice (Ns .i64 (List.replicate n 0)) 0 (Ns .i64 a)=Ns .i64 (a++List.replicate (n-a.length) 0):=by
 simp [splice,Ns]
theorem rowOf (h:w.heap[g]?=some (.cells xs.toArray e)):RowV w g e xs :=
 ⟨_,h,bH,λi a=>bH⟩
theorem set3 {a b c:Value} {t:TypeId} (h:w.heap[g]?=some (.cells #[a,b,c] t)) (x y z:Value) :
  (((w.setCell ⟨g,0,none⟩ x).setCell ⟨g,1,none⟩ y).setCell ⟨g,2,none⟩ z).heap[g]?=some (.cells #[x,y,z] t):=by
 rw [Ic _ _ _ _ _ _ (Ic _ _ _ _ _ _ (Ic _ _ _ _ _ _ h))];rfl
theorem oZ {o:Obj} (h:w.heap[g]?=some o) (k i:Nat) (v:Value) (a:g≠k):(w.setCell ⟨k,i,none⟩ v).heap[g]?=some o:=by
 rw [heap_setCell_other _ _ _ _ (by simpa using a)];exact h
theorem lQ (n b k:Nat) (a) (o:List Int) (w) (c:o.length=b) (f:b<=n) (x:n<=1024) (d:Sl w a o) :
  Calls prog 68 #[I n,.slice a b k] w λe s=>∃ g,e=.returned (.agg #[Vl g n n,I (0:Nat),I b])/\RowV s g 3 (Ns .i64 (o++List.replicate (n-b) 0))/\w.heap.size<=g/\D w s:=by
 have t:=λW=>BF n Z W
 have u:=H d;have l:=H c;clear d c;have j:=H (wJ w (.cells #[C,I 0,I 0] 148) (.cells (madeCells #[I 0] n) 3) (.cells #[Vl (w.heap.size+1) n n,I 0,I 0] 148));obtain⟨c,q,m,d⟩:=ii _ (some ⟨w.heap.size+1,0,none⟩) a n n b k (w.heap.size+1) 0 (Ns .i64 (List.replicate n 0)) (by rw [<-si];exact j.2.1) (Ns .i64 o) (by rw [bv,l.out];exact (Hz f).symm) (λb=>⟨rfl,(u.below j.2.2.2).src (by rw [bv] at b;exact b)⟩) (by simp only [bv,Gc];rw [l.out];omega) (jU _ _);rw [bv,l.out] at q;have i:=H (eK d j.1 Z);have p:=H (eK d j.2.2.1 Z);have v:=H (below_grown j.2.2.2 d Z);have r:=H (rowOf m);clear m d j;have m:c.cell? ⟨w.heap.size+1+1,2,none⟩=some (I 0):=bJ p.out;have f2:c.frozen? ⟨w.heap.size+1+1,2,none⟩=false:=GY _ _ _ _ _ p.out;have d:c.cell? ⟨w.heap.size+1+1,0,none⟩=some (Vl (w.heap.size+1) n n):=bJ p.out;have j:c.cell? ⟨w.heap.size+1+1,1,none⟩=some (I 0):=bJ p.out;have y:c.cell? ⟨w.heap.size,0,none⟩=some (C):=bJ i.out;have z:c.cell? ⟨w.heap.size,1,none⟩=some (I 0):=bJ i.out;have A:c.cell? ⟨w.heap.size,2,none⟩=some (I 0):=bJ i.out;have f0:c.frozen? ⟨w.heap.size,0,none⟩=false:=GY _ _ _ _ _ i.out;have f1:c.frozen? ⟨w.heap.size,1,none⟩=false:=GY _ _ _ _ _ i.out;have f3:c.frozen? ⟨w.heap.size,2,none⟩=false:=GY _ _ _ _ _ i.out;go_enter func68,ntmps68;go_wp2;refine GX (Gq dU _ _ w.heap.size 148 _ (0,0) _ dU (set3 (oZ i _ _ _ Z) _ _ _) underlying148 rfl E) dU ?_;refine⟨w.heap.size+1,rfl,?_,Z,?_⟩
 ·rw [<-l.out,<-oP _ _ (by rw [l.out];exact f)];refine (((r.other ?_ _).other ?_ _).other ?_ _).other ?_ _
  all_goals (dsimp only;omega)
 exact (((v.setCell iM _).setCell iM _).setCell iM _).setCell iM _
theorem iy (g l a b:Nat) (d:l<=a) (f:a<=b):∃ c,(∀ w:World,(Instr.slice 24 (Vl g a b) (some (I l)) none none).run prog w=.ok (.slice c (a-l) (b-l)) w)/\(l<a->c=some ⟨g,l,none⟩):=by
 have h:=λw=>run_slice_l (P:=prog) w 24 (some ⟨g,0,none⟩) a b underlying24 .i64 (l:Int) Z Z
 have c:∀ w:World,(sizeOf (prog.elem 24)).run prog w=.ok 1 w:=λw=>E
 refine⟨if b=l then some ⟨g,0,none⟩ else some ⟨g,l,none⟩,λw=>?_,λh=>?_⟩
 ·rw [h w,c];have e:(⟨g,0,none⟩:Addr).add l=⟨g,l,none⟩:=by cases l <;> simp [Addr.add]
  simp [sliced,Result.andThen,e]
 rw [GO Z]
theorem mU {r} {ps:List Int} (c:RowV w r 3 (Ns .i64 ps)) (o k:Nat) (d:o+k<=ps.length):∀ j v,(Ns .i64 ((ps.drop o).take k))[j]?=some v->w.cell? ((⟨r,o,none⟩:Addr).add j)=some v:=by
 intro j v a;have b:j<k:=by
  by_cases b:j<k;·exact b
  rw [FJ (by simp [Ns];omega)] at a;cases a
 have e:(⟨r,o,none⟩:Addr).add j=⟨r,o+j,none⟩:=by cases j <;> simp [Addr.add]
 rw [e,c.cell _ (by rw [bv];omega)];rw [<-a];simp [Ns,b]
theorem yP {α:Type} (a A B:List α) (m:Nat) (b:A.length=m) (d:a.length=m+B.length):splice (splice a 0 A) m B=A++B:=by
 subst b;have c:splice a 0 A=A++a.drop A.length:=by simp [splice]
 rw [c];unfold splice;rw [Iz (Fv _),G9,List.drop_of_length_le bG];simp
theorem xv (ps:List Int) (n o h m:Nat) (f:ps.length=n) (g:o<=n) (i:h<=n) (d:m<=n-o/\m<=h/\(m=n-o\/m=h)):(ps.drop o).take m++(ps.drop 0).take (h-m)=(ps.drop o++ps.take o).take h:=by
 rw [List.take_append,IE];have e:(ps.drop o).length=n-o:=bG;rw [e];rcases d with ⟨a,b,c|c⟩;·subst c;rw [Ge Z,Ge (l:=ps.drop o) Z,List.take_take,Hz Z]
 subst c;rw [Nat.sub_self,show m-(n-o)=0 by omega];simp
theorem row_in (G r n o h m g:Nat) (ps:List Int) (w:World) (f:g=w.heap.size) (y:m=Nat.min (n-o) h) (z:w.cell? ⟨G,0,none⟩=some (Vl r n n)) (A:w.cell? ⟨G,1,none⟩=some (I o)) (c2:w.cell? ⟨G,2,none⟩=some (I h))
  (j:RowV w r 3 (Ns .i64 ps)) (T:ps.length=n) (N:o<=n) (V:h<=n) (X:n<=1024) :
  Calls prog 92 #[J G 0] w λe O=>e=.returned (Vl g h h)/\RowV O g 3 (Ns .i64 ((ps.drop o++ps.take o).take h))/\D w O:=by
 have k:m<=n-o/\m<=h/\(m=n-o\/m=h):=by
  rw [y];refine⟨Nat.min_le_left _ _,Nat.min_le_right _ _,?_⟩;show min (n-o) h=_\/min (n-o) h=_;omega
 obtain⟨Y,a0,B⟩:=iy r o n n N (Fv _);obtain⟨dq,a1,F⟩:=iy g m h h k.2.1 (Fv _);have a2:=λW=>BF h Z W
 have l:D w (w.alloc (.cells (madeCells #[I 0] h) 3)).drew:=((Fu _ w).alloc (Fv _) _).drew;have P:(w.alloc (.cells (madeCells #[I 0] h) 3)).drew.heap[g]?=some (.cells (Ns .i64 (List.replicate h 0)).toArray 3):=by
  rw [<-si,f];exact dD _ _
 have K:(w.alloc (.cells (madeCells #[I 0] h) 3)).drew.cell? ⟨G,0,none⟩=some (Vl r n n)/\(w.alloc (.cells (madeCells #[I 0] h) 3)).drew.cell? ⟨G,1,none⟩=some (I o):=⟨ad l z,ad l A⟩;have p:=j.below l j.lt;have rl:=j.lt;obtain⟨q,L,s,t⟩:=ii (w.alloc (.cells (madeCells #[I 0] h) 3)).drew (some ⟨g,0,none⟩) Y h h (n-o) (n-o) g 0 (Ns .i64 (List.replicate h 0)) P (Ns .i64 ((ps.drop o).take m)) (by rw [bv];simp;rw [<-y];omega) (λu=>⟨rfl,_,B (by rw [bv] at u;simp at u;omega),mU p o m Z⟩) (by rw [bv,bv];simp;omega) (jU _ _);rw [show (Ns .i64 ((ps.drop o).take m)).length=m by rw [bv];simp;omega] at L;have a:=below_grown l t Z;have v:q.drew.cell? ⟨G,0,none⟩=some (Vl r n n)/\q.drew.cell? ⟨G,1,none⟩=some (I o):=⟨ad a.drew z,ad a.drew A⟩;have c:q.cell? ⟨G,0,none⟩=some (Vl r n n)/\q.cell? ⟨G,1,none⟩=some (I o):=v;have x:=j.below a.drew j.lt;obtain⟨Q,a3,i,d⟩:=ii q.drew dq (some ⟨r,0,none⟩) (h-m) (h-m) n n g m _ s (Ns .i64 ((ps.drop 0).take (h-m))) (by rw [bv];simp;show min _ _=min _ _;omega) (λu=>⟨F (by rw [bv] at u;simp at u;omega),_,rfl,mU x 0 (h-m) Z⟩) (by rw [length_splice _ _ _ (by rw [bv,bv];simp;omega),bv,bv];simp;omega) (jU _ _);have b:=below_grown a.drew d Z;have M:Q.cell? ⟨G,0,none⟩=some (Vl r n n)/\Q.cell? ⟨G,1,none⟩=some (I o):=⟨ad b z,ad b A⟩;have R:splice (splice (Ns .i64 (List.replicate h 0)) 0 (Ns .i64 ((ps.drop o).take m))) m (Ns .i64 ((ps.drop 0).take (h-m)))=Ns .i64 ((ps.drop o++ps.take o).take h):=by
  rw [yP _ _ _ m (by rw [bv];simp;omega) (by rw [bv,bv];simp;omega),<-xv ps n o h m T N V k];simp [Ns]
 rw [R] at i;have HR:=H (rowOf i);have HB:=H b;have HW:=H f;clear f y;clear p x s i t d l a b P R j;go_enter func92,ntmps92;go_wp2;rw [<-HW.out];generalize w.alloc (.cells (madeCells #[I 0] h) 3)=d at *;refine rh (S:=λW=>W.cell? ⟨G,0,none⟩=some (Vl r n n)/\W.cell? ⟨G,1,none⟩=some (I o)) ?_;have a:=K;iterate 10 (refine py a ?_;simp only [f0,f1,Nat.reduceAdd,lz,l0,ls])
 refine cn (r:=10) E ?_;refine dM rfl E (λK' b=>?_);go_simp;refine b _ _ ⟨c,?_⟩;clear a;have a:=c;clear b K';refine pk 11 (I m) a ?_;refine bY ?_;go_wp2;refine rh (S:=λW=>W.cell? ⟨G,0,none⟩=some (Vl r n n)/\W.cell? ⟨G,1,none⟩=some (I o)) ?_;have a:=v;iterate 7 (refine py a ?_;simp only [f0,f1,Nat.reduceAdd,lz,l0,ls])
 refine cn (r:=7) E ?_;refine dM rfl E (λK' b=>?_);go_simp;refine b _ _ ⟨M,?_⟩;clear b K';refine bY ?_;go_wp2;go_ret;exact⟨rfl,HR,HB⟩
end
section
open Go.ChangeShapes Go.WideShapes Go.ChangeAt Go.RowKit Go.Shelf Go.Maps
theorem mu {a b c:World} {r:Option Nat} (h:a.grownBy b r) (k:b.grownBy c r):a.grownBy c r :=
 ⟨k.os.trans h.os,k.tape.trans h.tape,k.output.trans h.output,Fx h.size k.size,λg d e=>(k.block g (FG d h.size) e).trans (h.block g d e)⟩
theorem grown_of {a b} (h:D a b) (R:Nat):a.grownBy b (some R):=⟨h.os,h.tape,h.output,h.size,λg c _=>h.block g c⟩
end
section
open Go.RowKit Go.Shelf Go.Maps
theorem fW {a:Nat} {b:Nat} {v:Value} (h:W.ownsRow a e b v n xs):∃ a b c,v=.slice a b c:=by
 rcases h.2 with ⟨rfl,_⟩|⟨g,c,d,rfl,_⟩ <;> exact ⟨_,_,_,rfl⟩
end
end Go.Proofs.YtibblbenmpcplaaGreatDoor
