import Derived.Maps.RangeWalk
import Derived.Test.YtdngbppdomoenaaGreatDoorN17
import Derived.Test.YtdngbppdomoenaaGreatDoorN18
import Derived.Test.YtdngbppdomoenaaGreatDoorN24
set_option linter.unusedVariables false
set_option linter.unusedSimpArgs false
set_option maxRecDepth 20000
set_option maxHeartbeats 8000000
namespace Go.Proofs.YtdngbppdomoenaaGreatDoor
open Go.Proofs.Tryz
variable {r:Rg9} {B Q cap g i j n:Nat} {cf:Cf} {h:Hs} {W W':World} {v:Value} {m:Nat->Option (Bool×List Int)} {is l:List Nat}
section
open Go.RowKit Go.Shelf
theorem mo:∀ k,bm (λ_=>none) 0 k=0
 | 0=>rfl
 | k+1=>by simp [bm,mo k]
theorem ty (n bud) (w:World) :
  Calls prog 61 #[I n,I bud] w λe a=>∃ S M,e=.returned (J S 0)/\Im S M 0 n bud (λ_=>none) a/\D w a/\w.heap.size<=S/\w.heap.size<=M/\S≠M:=by
 have b:=@run_makeMap prog;go_enter func61,ntmps61;go_wp2;go_ret;refine⟨w.heap.size+1,w.heap.size,rfl,⟨by rw [<-aO w (.map #[] 0)];exact ao _ _,.map [],((World.ownsMap_made w prog 3 ev).alloc _).mono (FH _),by rw [mo];rfl,λk c=>?_,λk c=>?_⟩,((Fu _ _).alloc (Fv _) _).alloc (by rw [aO];omega) _,Z,Z,Z⟩;·rfl
 rfl
end
section
open Go.ChangeShapes Go.WideShapes Go.ChangeAt Go.RowKit
theorem tK (x y:Nat) (j:x<18446744073709551616) (k:y<18446744073709551616) (w:World) :
  Calls prog 144 #[U x,U y] w λe m=>e=.returned (.tuple #[U ((x*y/18446744073709551616:Nat):Int),U ((x*y%18446744073709551616:Nat):Int)])/\m=w:=by
 obtain⟨n,l,o,c⟩:=Lib.mul64_hi x y j k;have q:=CT (a:=x/4294967296) (b:=y/4294967296) Z Z;have r:=CT (a:=x/4294967296) (b:=y%4294967296) Z Z;have s:=CT (a:=x%4294967296) (b:=y/4294967296) Z Z;have d:x/4294967296*(y/4294967296)<18446744073709551616:=Z;have f:x/4294967296*(y%4294967296)<18446744073709551616:=Z;have g:x%4294967296*(y/4294967296)<18446744073709551616:=Z;have i:x/4294967296*(y/4294967296)+(x/4294967296*(y%4294967296)+x%4294967296*(y%4294967296)/4294967296)/4294967296<18446744073709551616:=Z;have p:x/4294967296*(y/4294967296)+(x/4294967296*(y%4294967296)+x%4294967296*(y%4294967296)/4294967296)/4294967296+((x/4294967296*(y%4294967296)+x%4294967296*(y%4294967296)/4294967296)%4294967296+x%4294967296*(y/4294967296))/4294967296<18446744073709551616:=Z;go_enter func144,ntmps144;go_wp2;simp only [Mul64.maskN x j,Mul64.maskN y k,Mul64.divN,Mul64.mulN,Mul64.addN,Hv _ n,Hv _ f,Hv _ l,Mul64.maskN _ l,Hv _ g,Hv _ o,Hv _ d,Hv _ i,Hv _ p,Mul64.wrapM (x*y)];rw [c]
 go_ret2
 exact⟨rfl,rfl⟩
theorem AT (m:Nat) (c:m<=16) (w:World) :
  Calls prog 130 #[U 1,U m] w λe b=>e=.returned (.tuple #[U 0,U m])/\b=w:=by
 have a:=H (tK 1 m Z Z w);rw [GF,Nat.div_eq_of_lt Z,H4 Z] at a;go_enter func130,ntmps130;go_wp2_with fail;refine (a).mono ?_;rintro e b ⟨rfl,rfl⟩;go_wp2
 go_ret2
 exact⟨rfl,rfl⟩
theorem vR (g l a cap:Nat) (c:l<=cap):∀ w:World,(Instr.slice 24 (Vl g a cap) none (some (I l)) none).run prog w=.ok (Vl g l cap) w:=by
 intro w;have h:=run_slice_h (P:=prog) w 24 (some ⟨g,0,none⟩) a cap underlying24 .i64 (l:Int) Z Z;have b:∀ w:World,(sizeOf (prog.elem 24)).run prog w=.ok 1 w:=λw=>E
 rw [h,b];simp [sliced,Result.andThen,Addr.add]
theorem mY (m k a:Nat) (b:List Int) (c:b.length=m) (e:k+a<=m) (d:b.take k=List.replicate k (-1)):∃ c:List Int,splice (Ns .i64 b) k (Ns .i64 (List.replicate a (-1)))=Ns .i64 c/\c.length=m/\c.take (k+a)=List.replicate (k+a) (-1):=by
 refine⟨b.take k++(List.replicate a (-1)++b.drop (k+a)),?_,?_,?_⟩;·simp [splice,Ns]
 ·simp;omega
 rw [d,<-GJ,List.replicate_append_replicate,Iz bH,Ge bH]
theorem vB (q) (m:Nat) (w) (T:m<=16) (p:RowV w q 3 (Ns .i64 [-1])) :
  Calls prog 95 #[Vl q 1 1,I m] w λe y=>∃ g,e=.returned (Vl g m m)/\RowV y g 3 (Ns .i64 (List.replicate m (-1)))/\w.heap.size<=g/\D w y:=by
 have V:=H (AT m T w);have X:=λW=>BF m Z W
 obtain⟨g,n⟩:∃ g,g=w.heap.size:=⟨_,rfl⟩;have s:D w (w.alloc (.cells (madeCells #[I 0] m) 3)):=(Fu _ w).alloc (Fv _) _;have u:(w.alloc (.cells (madeCells #[I 0] m) 3)).heap[g]?=some (.cells (Ns .i64 (List.replicate m 0)).toArray 3):=by rw [<-si,n];exact dD _ _
 obtain⟨c,t⟩:∃ c,c=Nat.min 1 m:=⟨_,rfl⟩;have b:c=min 1 m:=t;obtain⟨O,o,a,k⟩:=ii (w.alloc (.cells (madeCells #[I 0] m) 3)) (some ⟨g,0,none⟩) (some ⟨q,0,none⟩) m m 1 1 g 0 (Ns .i64 (List.replicate m 0)) u (Ns .i64 (List.replicate c (-1))) (by rw [bv,Gc];exact t) (λP=>⟨rfl,_,rfl,λj v B=>by
  have d:c=1:=by rw [bv,Gc] at P;omega
  rw [d] at B;have:=mU (p.below s p.lt) 0 1 bH j v (by simpa using B);exact this⟩) (by rw [bv,bv];simp;omega) (jU _ _)
 rw [show (Ns .i64 (List.replicate c (-1))).length=c by rw [bv,Gc]] at o;obtain⟨F,f,l,d⟩:=mY m 0 c (List.replicate m 0) bH Z bH;rw [f] at a;rw [Gb] at d;have G:=H (show D w O/\O.heap[g]?=some (.cells (Ns .i64 F).toArray 3)/\F.length=m/\F.take c=List.replicate c (-1) from ⟨below_grown s k Z,a,l,d⟩);have K:=H n;have t1:¬((m:Int)<0):=Z;have t2:¬((9223372036854775807:Int)<(m:Int)):=Z;have Q:=H b;clear s u k a f l d p t b;go_enter func95,ntmps95;go_wp2_with fail;refine (V).mono ?_;rintro e y ⟨rfl,rfl⟩;rw [n] at o;clear n;go_wp2;rw [<-K.out];go_loopw [8] (λi wr=>∃ (k:Nat) (s:List Int),k<=m/\(0<m->0<k)/\i=I k/\Hid (D y wr/\wr.heap[g]?=some (.cells (Ns .i64 s).toArray 3)/\s.length=m/\s.take k=List.replicate k (-1))) (λi _=>m-(intOf i).toNat);case atStart=>exact ⟨c,F,by have:=Q.out;omega,by have:=Q.out;omega,rfl,G⟩
 case round =>
  obtain⟨k,s,hk,Y,rfl,b⟩:=hrel;by_cases L:k<m
  ·obtain⟨a,n⟩:∃ a,a=Nat.min k (m-k):=⟨_,rfl⟩;have u:a=min k (m-k):=n;obtain⟨dp,a0,z⟩:=iy g k m m Z (Fv _);have A:=z L;subst A;have a1:=vR g k m m Z;obtain⟨R,M,x,t⟩:=ii wr.drew (some ⟨g,k,none⟩) (some ⟨g,0,none⟩) (m-k) (m-k) k m g k (Ns .i64 s) b.2.1 (Ns .i64 (List.replicate a (-1))) (by rw [bv,Gc];exact n) (λP=>⟨rfl,_,rfl,λj v B=>by
    have p:RowV wr.drew g 3 (Ns .i64 s):=rowOf b.2.1;refine mU p 0 a (by rw [b.2.2.1];omega) j v ?_;rw [IE];have:s.take a=List.replicate a (-1):=by
     have e:=congrArg (List.take a) b.2.2.2;rw [List.take_take,List.take_replicate,Hz Z] at e;exact e
    rw [this];exact B⟩) (by rw [bv,bv,Gc,b.2.2.1];omega) (jU _ _)
   rw [show (Ns .i64 (List.replicate a (-1))).length=a by rw [bv,Gc]] at M;obtain⟨p,f,l,d⟩:=mY m k a s b.2.2.1 Z b.2.2.2;rw [f] at x;have HN:=H (show D y R/\R.heap[g]?=some (.cells (Ns .i64 p).toArray 3)/\p.length=m/\p.take (k+a)=List.replicate (k+a) (-1) from ⟨below_grown b.1.drew t (by have:=K.out;omega),x,l,d⟩);have N:0<a/\k+a<=m:=(by have:=Y Z;omega);have hw:IntKind.i64.wrap ((k:Int)+(a:Int))=(k:Int)+(a:Int):=(by rw [Hh];omega);clear b t x f l d n u z G o;go_wp2;refine rh (S:=λ_=>True) ?_;have n:=trivial;(iterate 7 (refine py n ?_;simp only [f0,f1,Nat.reduceAdd,lz,l0,ls]));refine cn (r:=7) E ?_;refine dM rfl E (λK' t=>?_);go_simp;refine t _ _ ⟨trivial,?_⟩;clear t K';refine pz 8 (I ((k:Int)+(a:Int))) n ?_;refine pk 9 (I ((k:Int)+(a:Int))) n ?_;refine bY ?_;go_wp2;go_roundw;(case rel=>exact ⟨k+a,p,N.2,Z,aY,HN⟩);case measure=>simp [intOf];omega
  obtain rfl:m=k:=Z;have a:=H (show RowV wr g 3 (Ns .i64 (List.replicate m (-1))) by
   have:=rowOf b.2.1;rwa [<-b.2.2.2,<-b.2.2.1,G9] )
  have n:=H b.1;clear b G o;go_wp2;go_ret;exact⟨g,rfl,a,by have:=K.out;omega,n⟩
end
section
open Go.RowKit
theorem fo (l:List Rg9) {q t:Nat} (a:l[q]?=some r) (b:t<6):(eM l)[q*6+t]?=(rC r)[t]?:=eC rC 6 (λ_=>rfl) l q r a t b
theorem ou (l:List Rg9) (m:l[i]?=some r) (c d:Int):eM (l.set i { r with st:=c,rq:=d })=((eM l).set (i*6+4) (I c)).set (i*6+5) (I d):=by
 have f:=(Fz.1 m).1;apply Ho;intro k;by_cases o:k<l.length*6
 ·obtain⟨q,t,n,b,rfl⟩:∃ q t,q<l.length/\t<6/\k=q*6+t:=⟨k/6,k%6,Z,Z,Z⟩;simp only [Gr,Gj,dS];by_cases e:q=i
  ·subst e;rw [fo _ (List.getElem?_set_self f) b,fo l m b];have:t=0\/t=1\/t=2\/t=3\/t=4\/t=5:=Z;rcases this with rfl|rfl|rfl|rfl|rfl|rfl;·rw [GO Z,GO Z];rfl
   ·rw [GO Z,GO Z];rfl
   ·rw [GO Z,GO Z];rfl
   ·rw [GO Z,GO Z];rfl
   ·rw [GO Z,GP rfl,GP Z];rfl
   rw [GP rfl,GP Z];rfl
  obtain⟨g,a⟩:∃ g,l[q]?=some g:=⟨_,Fy n⟩;have j:(l.set i { r with st:=c,rq:=d })[q]?=some g:=by rw [List.getElem?_set_ne Z];exact a
  rw [fo _ j b,fo l a b,GO Z,GO Z]
 rw [FJ (by rw [dS];simp;omega),FJ (by simp [dS];omega)]
theorem Inv.mapSet (a:Inv cf h) (g:h.rg[i]?=some r) (f:Rg9->Rg9):(h.rg.map λx=>if x.base=r.base then f x else x)=h.rg.set i (f r):=by
 have j:=(Fz.1 g).1;apply Ho;intro k;rw [Gv];by_cases e:k=i;·subst e;rw [g,List.getElem?_set_self j];simp
 rw [List.getElem?_set_ne Z];cases o:h.rg[k]? with
 | none=>rfl
 | some q =>
  have l:q.base≠r.base:=λt=>by
   have m:=FM o;have:=a.one m (FM g) t;subst this;obtain⟨p,b⟩:=Fz.1 o;obtain⟨s,c⟩:=Fz.1 g;rcases Ie k i with d|d|d;·have:=II.1 a.apart k i p s d;rw [b,c] at this;have n:=a.rgs q m;unfold Rg9.ext at this n;omega
   ·exact e d
   have:=II.1 a.apart i k s p d;rw [b,c] at this;have n:=a.rgs q m;unfold Rg9.ext at this n;omega
  simp [l]
theorem Sh.setRange {x V} (a:Sh B x cf h V) {G} (l:x.rv=Vl G h.rg.length cap) (m:h.rg[i]?=some r) (b d:Int) :
  Sh B x cf { h with rg:=h.rg.set i { r with st:=b,rq:=d } } ((V.setCell ⟨G,i*6+4,none⟩ (I b)).setCell ⟨G,i*6+5,none⟩ (I d))/\Ky (· = 148) V ((V.setCell ⟨G,i*6+4,none⟩ (I b)).setCell ⟨G,i*6+5,none⟩ (I d))/\V.grownBy ((V.setCell ⟨G,i*6+4,none⟩ (I b)).setCell ⟨G,i*6+5,none⟩ (I d)) (some G):=by
 have f:=a.rg;rw [l] at f;have o:=(Fz.1 m).1;obtain⟨q,j⟩:=di f;have e:V.grownBy ((V.setCell ⟨G,i*6+4,none⟩ (I b)).setCell ⟨G,i*6+5,none⟩ (I d)) (some G):=au (au (al V G) _ _) _ _;have k:Ky (· = 148) V _:=Ky.grown j rfl e;have p:=dP (dP f (i*6+4) (by rw [dS];omega) (I b)) (i*6+5) (by rw [Gj,dS];omega) (I d);refine⟨⟨k.cells _ _ _ _ a.box ar,a.bp,a.bq,λg e=>a.bg g (cV (a.sp.qEq k ar) e),a.ds.ky k ar,a.sp.ky k ar ar ar,ai a.sl k ar,ai a.wt k ar,λc n=>⟨(a.wm c n).1.ky k ar,(a.wm c n).2.ky k ar⟩,?_,ai a.ro k ar,ai a.rl k ar⟩,k,e⟩;show World.ownsRow _ B 148 6 x.rv _ _;rw [l,ou h.rg m,Gj];exact p
theorem Eg {x W0} (a:Sh B x cf h W) {G} (b:x.rv=Vl G n cap) (k:Bk B x.Q W0 W) (d:B<=W0.heap.size) (g:W.grownBy W' (some G)):Bk B x.Q W0 W':=by
 obtain⟨l,e⟩:=a.qrow;have f:x.rv.ownBlock=some G:=by rw [b];rfl
 obtain⟨i,c,j⟩:=aF a.rg f;exact k.trans (Bk.ofGrown j e (.inr (.inr (.inr (.inl rfl)))) ar ar i (Fx d k.bel.size) g)
theorem gF (cf) (o:fL):∀ (l:List fL) (h:Hs) (a:List An4),bd cf (l++[o]) h a=((bU cf (bd cf l h a).1 (bd cf l h a).2 o).2,(bd cf l h a).2++[(bU cf (bd cf l h a).1 (bd cf l h a).2 o).1])
 | [],h,a=>rfl
 | p::l,h,a=>by
  show bd cf (l++[o]) _ _=_
  rw [gF cf o l]
  rfl
theorem ft (cf):∀ (l:List fL) (h:Hs) (a:List An4),(bd cf l h a).2.length=a.length+l.length
 | [],h,a=>rfl
 | p::l,h,a=>by
  show (bd cf l _ _).2.length=_
  rw [ft cf l]
  simp
  omega
theorem jp (cf:Cf) (b:1<=cf.fifo):∀ (l:List fL) (h:Hs) (a:List An4) (k:Nat),Inv cf h->Few k h->Inv cf (bd cf l h a).1/\Few (k+l.length) (bd cf l h a).1
 | [],h,a,k,i,f=>⟨i,f⟩
 | p::l,h,a,k,i,f=>by
  obtain⟨c,f1⟩:=i.step b f a p
  have:=jp cf b l _ (a++[(bU cf h a p).1]) (k+1) c f1
  show Inv cf (bd cf l _ _).1/\Few (k+(l.length+1)) (bd cf l _ _).1
  rw [show k+(l.length+1)=k+1+l.length by omega]
  exact this
abbrev Aw:=An4×Value
def aC (y:Aw):List Value:=[I y.1.code,U y.1.addr,I y.1.size,y.2]
def fZ (l:List Aw):List Value:=l.flatMap aC
theorem ss (l:List Aw) (y:Aw):fZ (l++[y])=fZ l++aC y:=by simp [fZ]
structure Rs (B Q:Nat) (W:World) (l:List Aw) (v:Value):Prop where
 row:W.ownsRow B 44 4 v l.length (fZ l)
 dat:∀ y∈l,W.ownsRow B 5 1 y.2 y.1.data.length (Ns .u8 y.1.data)/\∀ g,y.2.ownBlock=some g->¬e_ Q W g
 dis:l.Pairwise λy z=>∀ g,y.2.ownBlock=some g->z.2.ownBlock≠some g
theorem za {a:Nat} {i:List Value} (h:W.ownsRow a 5 1 v n i) (j:∀ g,v.ownBlock=some g->¬e_ Q W g) (k:Bk B Q W W'):W'.ownsRow a 5 1 v n i/\∀ g,v.ownBlock=some g->¬e_ Q W' g:=by
 refine⟨⟨h.1,?_⟩,λg l e=>?_⟩
 ·rcases h.2 with c|⟨f,cap,b,rfl,d,c,m⟩;·exact .inl c
  exact .inr ⟨f,cap,b,rfl,d,k.by5 f b _ c (j f rfl),m⟩
 rcases k.pg g e with d|d;·exact j g l d
 obtain⟨_,c,b⟩:=aF h l;have:=ag b;omega
theorem Rs.bk {C l} (r:Rs C Q W l v) (k:Bk B Q W W'):Rs C Q W' l v :=
 ⟨ai r.row k.ky (eB ar),λy a=>za (r.dat y a).1 (r.dat y a).2 k,r.dis⟩
theorem zo:(prog.info? 44).map (λi=>(i.zero,i.size,i.bytes))=some (some (.agg #[I 0,U 0,I 0,C]),4,48):=E
theorem pA (W:World) (B:Nat) (v:Value) (l:List Aw) (y) (g:Nat) (c) (a:W.ownsRow B 44 4 v l.length (fZ l)) (o:W.heap[g]?=some (.cells (aC y).toArray 44)) (p:y.2.oneCell'=true) (A:l.length<=1000) (q:B<=W.heap.size) :
  ∃ d b,(Builtin.append_ #[30,30] 30 #[v,Vl g 1 c]).run prog W=.ok d b/\b.ownsRow B 44 4 d (l++[y]).length (fZ (l++[y]))/\W.grownBy b v.ownBlock:=by
 obtain⟨r,e,f,i,k⟩:=G0 zo;have m:∀ j u,(aC y)[j]?=some u->W.cell? ((⟨g,0,none⟩:Addr).add j)=some u:=λj u s=>by
  rw [Addr.add_mid,Gb,GT _ _ j _ _ _ o];simpa using s
 have t:∀ u∈aC y,u.oneCell'=true:=λu n=>by
  simp only [aC,F4,Gp,or_false] at n;rcases n with rfl|rfl|rfl|rfl;·rfl
  ·rfl
  ·rfl
  exact p
 obtain⟨d,b,w,x,z,_⟩:=Ia (P:=prog) W B 30 30 44 r _ 4 48 underlying30 e f i k rfl Z v _ _ a ⟨g,0,none⟩ 1 c (aC y) rfl m t (by unfold maxLen;omega) Z q;exact⟨d,b,w,by rw [ss,FC];exact x,z⟩
theorem Bk.ofAns {f:Array Value} {i:Nat×Nat} {j:List Value} (d:W.ownsRow B 44 4 v n j) (e:W.heap[Q]?=some (.cells f 217 i)) (g:W.grownBy W' v.ownBlock):Ky (· = 44) W W'/\(∀ g,e_ Q W' g->e_ Q W g)/\∀ (a:Nat),a<=B->a<=W.heap.size->Below a W W':=by
 have k:Ky (· = 44) W W':=Ky.grownO (λP b=>by obtain ⟨_,c,l⟩:=aF d b;exact⟨c,44,_,l,rfl⟩) g;refine⟨k,λp c=>cV (k.cells _ _ _ _ e ar |>.trans e.symm) c,λa l m=>(Fu a W).grown g m (λP b=>Fx l (aF d b).1)⟩
def Byt (m:Nat->Option (Bool×List Int)):Prop:=∀ k q,m k=some q->∀ x∈q.2,0<=x/\x<=255
def okB (ys:List Int):Prop:=∀ y∈ys,0<=y/\y<=255
theorem okB.get {ys} (h:okB ys) (i:Nat):0<=ys[i]?.getD 0/\ys[i]?.getD 0<=255:=by
 cases e:ys[i]? with
 | none=>simp
 | some y=>exact h y (FM e)
theorem Byt.put (h:Byt m) (p) {x:Int} (d:0<=x/\x<=255):Byt (dZ m p x):=by
 intro k q a;unfold dZ at a;by_cases e:k=p/1024
 ·subst e;rw [bV] at a;cases b:m (p/1024) with
  | none=>rw [b] at a;cases a
  | some r =>
   rw [b] at a;simp at a;subst a;intro z f;rcases List.mem_or_eq_of_mem_set f with c|c;·exact h _ _ b z c
   rw [c];exact d
 rw [aW _ _ _ _ e] at a;exact h k q a
theorem Byt.store {m} (h:Byt m) (a) {ys} (b:okB ys):∀ k,Byt (ay m a ys k)
 | 0=>h
 | k+1=>(Byt.store h a b k).put _ (b.get k)
theorem Byt.fresh (h:Byt m) (p k:Nat):Byt (aT m p k):=by
 intro j q a;rw [cO] at a;split at a
 ·injection a with a;subst a;intro x b;rw [List.eq_of_mem_replicate b];omega
 exact h j q a
theorem Byt.gone (h:Byt m) (p k:Nat):Byt (bQ m p k):=by
 intro j q a;rw [eb] at a;split at a;·cases a
 exact h j q a
theorem Byt.at (h:Byt m) (p):0<=bO m p/\bO m p<=255:=by
 unfold bO;cases a:m (p/1024) with
 | none=>simp
 | some q =>
  simp only [Hi,Ht];exact okB.get (λy b=>h _ _ a y b) _
theorem Byt.load (h:Byt m) (a n):okB (aH m a n):=by
 intro y b;unfold aH at b;simp only [FQ] at b;obtain⟨i,_,rfl⟩:=b;exact h.at _
theorem tT (cf a):okB (can cf a):=by
 intro y b;unfold can gI at b;simp only [FQ] at b;obtain⟨i,_,rfl⟩:=b;split;·omega
 have:=Dx (cx cf.key (a:Int)) i;omega
theorem wS (n:Nat):okB (List.replicate n 0):=λy a=>by rw [List.eq_of_mem_replicate a];omega
theorem tI {a:Hs} {c s:Nat} (e:cJ cf h c=some (s,a)):a.m=h.m\/a.m=aT h.m (aD c s) (dI c):=by
 unfold cJ at e;split at e;·injection e with e;injection e with d b;subst b;exact .inl rfl
 split at e;·cases e
 split at e;·cases e
 injection e with e;injection e with d b;subst d;subst b;exact .inr rfl
theorem Byt.small {cf c} : ∀ (f:Nat) {h:Hs},Byt h.m->Byt (bN cf c f h).2.m
 | 0,h,b=>b
 | f+1,h,b=>by
  unfold bN
  cases e:cJ cf h c with
  | none=>exact b
  | some q =>
   obtain⟨s,a⟩:=q
   have d:Byt a.m:=by rcases tI e with g|g <;> rw [g];exact b;exact b.fresh _ _
   dsimp only
   split
   ·exact d
   exact Byt.small f (h:={ a with used:=a.used+1,st:=_ }) d
theorem Byt.malloc (b:Byt h.m) (a):Byt (av cf h a).2.m:=by
 unfold av;split
 ·have d:=Byt.small (cf:=cf) (c:=fD a) 2000 b;cases e:bN cf (fD a) 2000 h with
  | mk o f =>
   rw [e] at d;cases o with
   | none=>exact d
   | some q =>
    obtain⟨s,j⟩:=q;exact d.store _ (tT cf _) 8
 dsimp only;split;·exact b
 split;·exact b
 split;·exact b
 exact b.fresh _ _
theorem Byt.release (b:Byt h.m) (c s j):Byt (bK h c s j).m:=by
 unfold bK;dsimp only;split;·exact b.gone _ _
 exact b
theorem Byt.freeS (b:Byt h.m) (c s j):Byt (aL cf h c s j).m:=by
 unfold aL;dsimp only;have a:=b.store (bh c s j) (wS (cy c)) (cy c);split
 ·split;·exact a
  exact Byt.release (h:={ m:=_,st:=_,rq:=_,mx:=_,ff:=_,rg:=_,row:=_,rel:=_,used:=_ }) a _ _ _
 split;·exact a
 exact Byt.release (h:={ m:=_,st:=_,rq:=_,mx:=_,ff:=_,rg:=_,row:=_,rel:=_,used:=_ }) a _ _ _
theorem Byt.freeR (b:Byt h.m) (r):Byt (aJ cf h r).m:=by
 unfold aJ;dsimp only;split;·exact b.gone _ _
 exact b.gone _ _
theorem Byt.free (b:Byt h.m) (f:Fd):Byt (db cf h f).m:=by
 cases f with
 | slot c s j=>exact b.freeS c s j
 | range r=>exact b.freeR r
 | no _=>exact b
theorem Byt.realloc (b:Byt h.m) (p a):Byt (a_ cf h p a).2.m:=by
 have f:=b.malloc (cf:=cf) a;have g:∀ d:Nat,Byt ((match av cf h a with
   | (none,c)=>((An4.no 1,c):An4×Hs)
   | (some q,c)=>(⟨0,q,0,[]⟩,db cf { c with m:=aZ c.m p q (min d a) } (aB { c with m:=aZ c.m p q (min d a) } p))).2.m):=λd=>by
  cases e:av cf h a with
  | mk o c =>
   rw [e] at f;cases o with
   | none=>exact f
   | some q=>exact Byt.free (h:={ c with m:=aZ c.m p q (min d a) }) (Byt.store f _ (Byt.load f _ _) _) _
 unfold a_;dsimp only;split
 ·cases e:av cf h a with
  | mk o c =>
   rw [e] at f;cases o with
   | none=>exact f
   | some q=>exact f
 split;·exact b
 ·split;·exact b
  split;·exact b
  exact g _
 split;·exact b
 exact g _
theorem Byt.do (b:Byt h.m) (o:fL) (p) (f:okB o.ys):Byt (dv cf h o p).2.m:=by
 have d:∀ n:Nat,Byt ((match av cf h n with
   | (none,a)=>((An4.no 1,a):An4×Hs)
   | (some q,a)=>(⟨0,q,0,[]⟩,a)).2.m):=λn=>by
  have c:=b.malloc (cf:=cf) n
  cases e:av cf h n with
  | mk o a =>
   rw [e] at c;cases o with
   | none=>exact c
   | some q=>exact c
 unfold dv;dsimp only;split;·exact d _
 split
 ·split;·exact b
  exact d _
 split;·exact b.realloc _ _
 split
 ·split;·exact b
  ·split;·exact b
   exact b.freeS _ _ _
  exact b.freeR _
 split;·split <;> exact b
 split;·split <;> exact b
 split
 ·dsimp only;split;·exact b.store _ f _
  exact b
 exact b
theorem Byt.step (b:Byt h.m) (an) (o:fL) (a:okB o.ys):Byt (bU cf h an o).2.m:=by
 unfold bU;split;·exact b.do o _ a
 split;·exact b
 exact b.do o _ a
theorem Byt.new (cf):Byt (aP cf).m:=λk q a=>by simp [aP] at a
end
section
open Go.RowKit Go.Maps
def nr (r:Rg9) (x:Nat):Bool:=decide (r.first<=x/1024)&&decide (x/1024<r.first+r.ext)
theorem oY (B:Nat) (L r) (v:Option Addr) (w y:Nat) (l:List Nat) (W:World) (h:W.ownsRow B 23 1 (.slice v w y) l.length (Us l)) (F:l.length<=100000) (f:∀ x∈l,x<18446744073709551616) (b:Lc L r W) :
  Calls prog 175 #[.slice v w y,.func (.func 143) #[J L 0] #[]] W λe W'=>D W W'/\((e=.returned (I (-1))/\∀ x∈l,nr r x=false)\/∃ k:Nat,k<l.length/\e=.returned (I k)/\nr r (l[k]?.getD 0)=true/\∀ j,j<k->nr r (l[j]?.getD 0)=false):=by
 obtain⟨rfl,c⟩:=lA h;have G:=H c;have K:=H (λV (d:D W V) x (a:x<18446744073709551616)=>n_ L x r V (b.below d) a);have M:=H f;clear c h f b;obtain⟨n,a⟩:∃ n,l.length=n:=⟨_,rfl⟩;rw [a] at F ⊢;have p:=H a;clear a;go_enter func175,ntmps175;go_wp2;go_loopw [8] (λi wr=>∃ k:Nat,k<=n/\i=I k/\Hid (D W wr)/\Hid (∀ j,j<k->nr r (l[j]?.getD 0)=false)) (λi _=>n-(intOf i).toNat);case atStart=>exact ⟨0,FH _,rfl,H (Fu _ _),H (λj c=>Z)⟩
 case round =>
  obtain⟨k,N,rfl,d,m⟩:=hrel;by_cases b:k<n
  ·obtain⟨g,rfl,a⟩:=G.out k (by rw [p.out];exact b);have o:=ad d a;have s:l[k]?.getD 0<18446744073709551616:=M.out _ (by rw [Fy (by rw [p.out];exact b)];exact Iw _);clear a;generalize a:l[k]?.getD 0=q at *;have z:=H a;clear a;have a:=H (K wr d q s);rw [show (decide (r.first<=q/1024)&&decide (q/1024<r.first+r.ext))=nr r q from rfl] at a;go_wp2_with fail;refine (a).mono ?_;rintro e V ⟨rfl,t⟩;have A:=H (d.trans (t.mono d.size));clear t a;cases a:nr r q with
   | true =>
    go_wp2;go_ret;exact⟨A,.inr ⟨k,b,rfl,by rw [z.out];exact a,m⟩⟩
   | false =>
    have t:=H (show ∀ j,j<k+1->nr r (l[j]?.getD 0)=false from λj c=>by
     rcases Nat.lt_succ_iff_lt_or_eq.1 c with u|u;·exact m j u
     subst u;rw [z.out];exact a)
    clear m;go_wp2;go_roundw;(case rel=>exact ⟨k+1,Z,aY,A,t⟩);case measure=>simp [intOf];omega
  obtain rfl:k=n:=Z;go_wp2;go_ret;refine⟨d,.inl ⟨rfl,λx f=>?_⟩⟩;obtain⟨j,c⟩:=He f;have a:=(Fz.1 c).1;have:=m.out j (by rw [<-p.out];exact a);rw [c] at this;exact this
def dW (r:Rg9) (l:List Nat) (j:Nat):List Nat:=(l.take j).filter λx => !nr r x
theorem jb (r) (l:List Nat) (j:Nat) (h:j<l.length):dW r l (j+1)=dW r l j++(if nr r (l[j]?.getD 0) then [] else [l[j]?.getD 0]):=by
 unfold dW;rw [F_,Hl,Fy h];congr 1;simp only [IQ,Ht,List.filter_cons,List.filter_nil];cases nr r l[j] <;> rfl
theorem kq (r) (l:List Nat) (k:Nat) (d:k<=l.length) (h:∀ j,j<k->nr r (l[j]?.getD 0)=false):dW r l k=l.take k:=by
 unfold dW;rw [Il];intro x c;obtain⟨j,a⟩:=He c;have b:=(Fz.1 a).1;rw [Hm] at b;rw [Hf Z] at a;have:=h j Z;rw [a] at this;simp at this;rw [this];rfl
theorem nZ (r l j):(dW r l j).length<=j:=by
 unfold dW;have:=Hb (λx => !nr r x) (l.take j);rw [Hm] at this;omega
theorem yG (r) (l:List Nat) (k j:Nat) (c:k<j) (d:j<=l.length) (a:nr r (l[k]?.getD 0)=true):(dW r l j).length<j:=by
 induction j with
 | zero=>omega
 | succ j b =>
  rw [jb r l j Z,FC];have f:=nZ r l j;by_cases e:k=j;·subst e;rw [GP a];simp;omega
  have:=b Z Z;split <;> simp <;> omega
structure Ct (g cap n:Nat) (l:List Nat) (is:List Nat) (j:Nat) (W:World):Prop where
 row:∃ c,W.heap[g]?=some (.cells c 23)/\c.size=cap/\(∀ q,q<is.length->c[q]?=some (U ((is[q]?.getD 0:Nat):Int)))/\∀ q,j<=q->q<n->c[q]?=some (U ((l[q]?.getD 0:Nat):Int))
theorem Ct.cell {g cap n l is j W} (h:Ct g cap n l is j W) {q:Nat} (a:j<=q) (b:q<n):W.cell? ⟨g,q,none⟩=some (U ((l[q]?.getD 0:Nat):Int)):=by
 obtain⟨c,d,f,i,e⟩:=h.row;rw [GT _ _ _ _ _ _ d];exact e q a b
theorem Ct.free (h:Ct g cap n l is j W) (q:Nat):W.frozen? ⟨g,q,none⟩=false:=by
 obtain⟨c,a,_⟩:=h.row;simp [World.frozen?,a]
theorem Ct.anyC (h:Ct g cap n l is j W) {q:Nat} (b:q<cap):∃ v,W.cell? ⟨g,q,none⟩=some v:=by
 obtain⟨c,a,d,_⟩:=h.row;rw [GT _ _ _ _ _ _ a];exact⟨_,Hw Z⟩
theorem Ct.same (h:Ct g cap n l is j W) (e:W'.heap[g]?=W.heap[g]?):Ct g cap n l is j W':=by
 obtain⟨c,a,b⟩:=h.row;exact⟨c,e.trans a,b⟩
theorem Ct.lt (h:Ct g cap n l is j W):g<W.heap.size:=by
 obtain⟨c,a,_⟩:=h.row;exact ag a
theorem Ct.skip (h:Ct g cap n l is j W):Ct g cap n l is (j+1) W:=by
 obtain⟨c,a,b,d,e⟩:=h.row;exact⟨c,a,b,d,λq i f=>e q Z f⟩
theorem Ct.put (h:Ct g cap n l is j W) (x:Nat) (o:is.length<=j) (p:j<n) (r:n<=cap):Ct g cap n l (is++[x]) (j+1) (W.setCell ⟨g,is.length,none⟩ (U x)):=by
 obtain⟨c,b,d,f,i⟩:=h.row;refine⟨c.setIfInBounds is.length (U x),by simp [World.setCell,FD,b],by simpa using d,λq k=>?_,λq s m=>?_⟩
 ·rw [FK];by_cases e:is.length=q;·subst e;simp;omega
  rw [GO e];have a:q<is.length:=by simp at k;omega
  rw [f q a,Ga a]
 rw [FK,GO Z];exact i q Z m
theorem EK (n:Nat) (h:n<=1048576) (w:World):(Instr.makeSlice 22 (I (n:Int)) (I (n:Int))).run prog w=.ok (Vl w.heap.size n n) (w.alloc (.cells (madeCells #[Value.int .u8 0] n) 5)) :=
 run_make_row' 22 5 (.int .u8 0) 1 underlying22 E rfl .i64 .i64 n Z Z w
theorem wi (n:Nat) (w:World):RowV (w.alloc (.cells (madeCells #[Value.int .u8 0] n) 5)) w.heap.size 5 (Ns .u8 (List.replicate n 0)):=by
 rw [mR];exact⟨_,ao w _,bH,λi a=>bH⟩
theorem Hp.setQ {y d} (i:Hp B y d cf h W) {c:Nat} (v:c<12) {mix fifo} (q:Qr W' (y.qm c) (y.qr c) (y.qg c) (y.qq c) cf.fifo mix fifo) (b:But (Qs (y.qr c) (y.qg c) (y.qq c)) W W') :
  Hp B y d cf { h with mx:=dB h.mx c mix,ff:=dB h.ff c fifo } W'/\Bi B W W':=by
 have O:=i.wt c v;have bq:=i.ap.bq c v;have z:∃ x,W.heap[y.qr c]?=some (.cells x 3):=by obtain ⟨x,u,_⟩:=O.mx.2;exact⟨x,u⟩
 have m:∃ x,W.heap[y.qq c]?=some (.cells x 3):=by obtain ⟨ps,o,S,_,⟨x,u,_⟩,_⟩:=O.qu;exact⟨x,u⟩
 have j:∃ x,W.heap[y.qg c]?=some (.cells x 167):=by obtain ⟨ps,o,S,u,_⟩:=O.qu;exact⟨_,u⟩
 obtain⟨x1,z⟩:=z;obtain⟨x2,m⟩:=m;obtain⟨x3,j⟩:=j;have T:∀ g F t f,W.heap[g]?=some (.cells F t f)->¬(t=3\/t=167)->¬Qs (y.qr c) (y.qg c) (y.qq c) g:=λg F t f l A n=>by
  rcases n with e|e|e;·rw [e,z] at l;cases l;exact A (.inl rfl)
  ·rw [e,j] at l;cases l;exact A (.inr rfl)
  rw [e,m] at l;cases l;exact A (.inl rfl)
 have V:∀ g G K,W.heap[g]?=some (.map G K)->¬Qs (y.qr c) (y.qg c) (y.qq c) g:=λg G K l n=>by
  rcases n with e|e|e;·rw [e,z] at l;cases l
  ·rw [e,j] at l;cases l
  rw [e,m] at l;cases l
 have k:Ky (λt=>t=3\/t=167) W W':=⟨b.os,b.tape,b.output,b.size,λg F t f l A=>by rw [b.block g (ag l) (T g F t f l A)];exact l⟩;have L:Below B W W':=⟨b.os,b.tape,b.output,b.size,λg l=>b.block g (FG l i.bW) (λn=>by rcases n with e|e|e <;> omega)⟩;have Y:W'.heap[y.M]?=W.heap[y.M]?:=by
  obtain⟨a,⟨G,K,w,_⟩,_⟩:=i.sp.map;exact b.block _ (ag w) (V _ _ _ w)
 have hR:W'.heap[y.R]?=W.heap[y.R]?:=by
  obtain⟨G,K,w⟩:=i.mp.typ;exact b.block _ (ag w) (V _ _ _ w)
 refine⟨⟨i.ap,Fx i.bW L.size,i.box.ky k ar,i.ds.belowB L i.ap.da,i.sp.ky k ar Y,i.pg.ky k ar,i.bf,
 λc s v P=>k.cells _ _ _ _ (i.sl c s v P) ar,λc s v P=>cL (i.rw c s v P) k ar,λa s' j' p Q R=>k.cells _ _ _ _ (i.sm a s' j' p Q R) ar,
 λa p=>?_,i.mp.same hR,i.lo,λr hr=>by obtain ⟨g,u,w,h3⟩:=i.lb r hr;exact⟨g,u,w,k.cells _ _ _ _ h3 ar⟩,i.li,i.ro.ky k ar,ai i.rl k ar,i.rr,i.tb.belowB L i.ap.b0⟩,L,k.more (λt e=>by rcases e with rfl|rfl <;> (unfold hI;decide))⟩
 by_cases e:a=c;·subst e;show Qr W' _ _ _ _ _ (dB h.mx a mix a) (dB h.ff a fifo a);rw [cP,cP];exact q
 show Qr W' _ _ _ _ _ (dB h.mx c mix a) (dB h.ff c fifo a);rw [eF _ _ e,eF _ _ e];have M:=i.wt a p;obtain⟨i1,i2,i3,i4⟩:=i.ap.iq c a v p (λf=>e f.symm);obtain⟨j1,j2,j3,j4⟩:=i.ap.iq a c p v e;obtain⟨ps,o,S,N,⟨x,X,_⟩,_⟩:=M.qu;refine M.but b (T _ _ _ _ M.mx.1 ar) ?_ ?_ ?_
 ·intro n;rcases n with e|e|e;·exact i1 e.symm
  ·obtain⟨xx,u,_⟩:=M.mx.2;rw [e,j] at u;cases u
  exact j2 e
 ·intro n;rcases n with e|e|e;·rw [e,z] at N;cases N
  ·exact i4 e.symm
  rw [e,m] at N;cases N
 intro n;rcases n with e|e|e;·exact i2 e.symm
 ·rw [e,j] at X;cases X
 exact i3 e.symm
theorem Df (cf y d u) (c k:Nat) (e:c<12) (f:k<3):boxF cf y d u (79+c*3+k)=Eu cf y c k:=by
 unfold boxF;rw [GO Z,GO Z,GP Z];have a:(79+c*3+k-79)/3=c:=Z;have b:(79+c*3+k-79)%3=k:=Z;rw [a,b]
theorem Hp.qAt {y d} (a:Hp B y d cf h W) (c:Nat) (b:c<12):W.cell? ⟨y.P,79+c*3+2,none⟩=some (if cf.mix=0 then .iface 82 (J (y.qg c) 0) else .iface 81 (J (y.qm c) 0)):=by
 refine a.cell _ Z _ ?_;rw [Df cf y d h.used c 2 b Z];rfl
def Ez (B:Nat) (y:Ly) (d:Dy) (cf:Cf) (h:Hs) (c:Nat) (x i:Int) (W:World) (e:Ending) (W':World):Prop:=e=.returned (I (ed cf.fifo (h.mx c) (h.ff c) x i).2.2)/\Hp B y d cf { h with mx:=dB h.mx c (ed cf.fifo (h.mx c) (h.ff c) x i).1,ff:=dB h.ff c (ed cf.fifo (h.mx c) (h.ff c) x i).2.1 } W'/\Bi B W W'
theorem wE (B y d cf h) (c:Nat) (x dd W) (f:Hp B y d cf h W) (a:(h.mx c).length=cf.mix) (i:mE cf) (g:c<12) (j:cf.mix=0) :
  Calls prog 272 #[J (y.qg c) 0,I x,I dd] W (Ez B y d cf h c x dd W):=by
 refine (BN _ _ _ _ _ _ _ x dd W (f.wt c g) (by have:=i.fifo;omega) (by rw [a];exact j)).mono ?_;rintro e W' ⟨z,rfl,rfl,q,b⟩;exact⟨rfl,f.setQ g q b⟩
theorem xI (B y d cf h) (c:Nat) (x dd W) (f:Hp B y d cf h W) (a:(h.mx c).length=cf.mix) (g:mE cf) (i:c<12) (j:cf.mix≠0) :
  Calls prog 270 #[J (y.qm c) 0,I x,I dd] W (Ez B y d cf h c x dd W):=by
 refine (Dg _ _ _ _ _ _ _ x dd W (f.wt c i) (λe=>j (by rw [<-a,e];rfl)) (by rw [a];have:=g.mix;omega) (by have:=g.fifo;omega)).mono ?_;rintro e W' ⟨z,rfl,rfl,q,b⟩;exact⟨rfl,f.setQ i q b⟩
end
section
open Go.RowKit Go.Shelf Go.Maps
def CI (w : World) (e : Ending) (j : World) : Prop :=
 ∃ (c : Cd) (i : List df) (A : Option Addr) (n B : Nat), e=.returned (.tuple #[.agg (pQ c).toArray, .slice A i.length n])/\c.ds.length<=60/\i.length<=301/\w.heap.size<=B/\Ok4 B c j/\j.ownsRow B 42 6 (.slice A i.length n) i.length (iT i)/\(∀ q ∈ i, Od6 B q j)/\D w j
def vX : Value->Nat
 | .slice _ l _ => l
 | _ => 0
theorem Dd (a:Option Addr) (d cap:Nat) (K:List Int) (w:World) (c:IsRow .u8 w a d cap K) (s:d<=1048576) :
  Calls prog 10 #[.slice a d cap] w λe z=>CI w e z:=by
 have N:=H (λR V (A:Rd w a d cap R V V)=>d_ w a d cap K c s R V V A);have HP:=H (λR V (A:Rd w a d cap R V V)=>wV w a d cap K c s R V A);have OP:=H (λR b (f:b<=400) k V (A:Rd w a d cap R V V)=>AX w a d cap K c s R b f k V A);have l:=(Fu w.heap.size w).alloc (Fv _) (.cells #[.int .i64 0,.int .i64 0,.int .i64 0,.int .i64 0,.int .u64 0,.slice none 0 0] 26);have b:=l.alloc l.size (.cells #[.slice a d cap,.int .i64 0] 71);have f:=H (show Rd w a d cap (w.heap.size+1) w ((w.alloc (.cells #[.int .i64 0,.int .i64 0,.int .i64 0,.int .i64 0,.int .u64 0,.slice none 0 0] 26)).alloc (.cells #[.slice a d cap,.int .i64 0] 71)) from ⟨⟨0,FH _,by rw [<-aO w (.cells #[.int .i64 0,.int .i64 0,.int .i64 0,.int .i64 0,.int .u64 0,.slice none 0 0] 26)];exact ao _ _⟩,b,Z,⟨b.os,b.tape,b.output,b.size,λg O _=>b.block g O⟩⟩);have k:=H ((eg (w.alloc (.cells #[.int .i64 0,.int .i64 0,.int .i64 0,.int .i64 0,.int .u64 0,.slice none 0 0] 26)) (.cells #[.slice a d cap,.int .i64 0] 71) w.heap.size (by rw [aO];omega)).trans (ao w (.cells #[.int .i64 0,.int .i64 0,.int .i64 0,.int .i64 0,.int .u64 0,.slice none 0 0] 26)));clear l b c;go_enter func10,ntmps10;go_wp2_with fail;generalize (w.alloc (.cells #[.int .i64 0,.int .i64 0,.int .i64 0,.int .i64 0,.int .u64 0,.slice none 0 0] 26)).alloc (.cells #[.slice a d cap,.int .i64 0] 71)=V1 at f k ⊢;obtain⟨R,L⟩:∃ R,R=w.heap.size+1:=⟨_,rfl⟩;obtain⟨Y,b⟩:∃ Y,Y=w.heap.size:=⟨_,rfl⟩;rw [<-L] at f ⊢;rw [<-b] at k ⊢;have B:=H (IT L b);clear L b;refine (HP _ _ f.at).mono ?_;rintro e t ⟨c,rfl,b,l,r⟩;unfold pQ;have m:=H (show D6 w a d cap R t.heap.size Y c (.slice none 0 0) [] (t.alloc (.cells #[.int .i64 c.mi,.int .i64 c.fi,.int .i64 c.la,.int .i64 c.bu,.int .u64 c.ky,.slice c.da c.ds.length c.dc] 26)) from by
  have o:=(Fu t.heap.size t).alloc (Fv _) (.cells #[.int .i64 c.mi,.int .i64 c.fi,.int .i64 c.la,.int .i64 c.bu,.int .u64 c.ky,.slice c.da c.ds.length c.dc] 26);have O:=f.lt;have p:=B.out;have P:t.heap[Y]?=_:=(r.g.block Y (ag k) (λe=>by cases e;omega)).trans k.out;exact⟨(f.of r).below o,r.lt,Z,Z,ao t _,by rw [o.block _ (ag P)];exact P,⟨l.k0,l.k1,l.dw,(gz O l.d).alloc _⟩,⟨rfl,.inl ⟨rfl,rfl⟩⟩,λq M=>(by cases M)⟩)
 clear l r f k;have Q:=H b;clear b;go_wp2_with fail;generalize t.alloc (.cells #[.int .i64 c.mi,.int .i64 c.fi,.int .i64 c.la,.int .i64 c.bu,.int .u64 c.ky,.slice c.da c.ds.length c.dc] 26)=V3 at m ⊢;generalize t.heap.size=b at m ⊢;refine (N _ _ m.rd.at).mono ?_;rintro e V4 ⟨⟨k,hk,rfl⟩,r⟩;have f:=H (m.next r);clear r m;go_wp2_with fail;refine (N _ _ f.rd.at).mono ?_;rintro e V5 ⟨⟨W,a0,rfl⟩,r⟩;have X:=H (f.next r);clear r f;obtain⟨n,hn,f⟩:∃ n:Nat,n<60/\(W:Int)%60=(n:Int):=⟨W%60,Z,Z⟩;go_wp2;rw [f];clear f;go_loopw [7,9] (λv i wr=>∃ (j:Nat) (l:List df),j<=n/\i=.int .i64 j/\l.length=j/\Hid (D6 w a d cap R b Y c v l wr)) (λ_ i _=>n-(intOf i).toNat);case atStart=>exact ⟨0,[],FH _,rfl,rfl,X⟩
 case round =>
  obtain⟨j,l,hj,rfl,p,f⟩:=hrel;clear X;obtain⟨va,vb,vc,rfl⟩:=fW f.row;obtain rfl:=ik f.row;have u:=H p;clear p;by_cases S:j<n
  ·go_wp2_with fail;refine (OP _ l.length (by have:=u.out;omega) _ _ f.rd.at).mono ?_;rintro e F ⟨q,rfl,m,r⟩;have y:=H (f.next r);obtain⟨v',z,o,x⟩:=y.app (by have:=u.out;omega) q ⟨m.p,m.a,m.b,gz f.rd.lt m.d,m.r,m.y⟩;have T:=H x;clear x m r f;unfold fH at o ⊢;go_wp2_with (at_builtin;refine ga 27 rfl (.tmp 25) (.tmp 33) (by with_reducible rfl) rfl rfl rfl o ?_);go_roundw;(case rel=>exact ⟨j+1,l++[q],Z,aY,by simp [u.out],T⟩);case measure=>simp [intOf];omega
  ·have:j=n:=Z;subst this;(go_upto_if 36 with fail);go_cut [7,36] (λv _ z=>∃ l:List df,l.length<=301/\Hid (D6 w a d cap R b Y c v l z));case first =>
    cases g:((k:Int)==255);case false =>
     go_wp2;go_meet;case rel=>exact ⟨l,by have:=u.out;omega,f⟩
    case true =>
     go_wp2_with fail;go_loopw [7] (λv wr=>∃ l:List df,l.length<=301/\Hid (D6 w a d cap R b Y c v l wr)) (λv _=>400-vX v);(case atStart=>exact ⟨l,by have:=u.out;omega,f⟩);case round =>
      clear f u;obtain⟨m,p,f⟩:=hrel;obtain⟨xa,xb,xc,rfl⟩:=fW f.row;obtain rfl:=ik f.row;by_cases S:m.length<300+j%2
      ·have F:(m.length:Int)<300+(j:Int)%2:=Z;obtain⟨v',z,o,x⟩:=f.app Z ⟨⟨0,0,0,1,0,[]⟩,none,0⟩ ⟨ar,ar,ar,⟨rfl,.inl ⟨rfl,rfl⟩⟩,ar,λy hy=>by cases hy⟩;have T:=H x;obtain⟨ya,P,yc,rfl⟩:=fW x.row;have G:=ik x.row;rw [FC] at G;obtain rfl:=G;clear x;go_wp2_with (at_builtin;refine ga 27 rfl (.tmp 43) (.tmp 45) (by with_reducible rfl) rfl rfl rfl o ?_);go_roundw;(case rel=>exact ⟨m++[⟨⟨0,0,0,1,0,[]⟩,none,0⟩],bG,T⟩);case measure=>simp [vX];omega
      ·have F:¬(m.length:Int)<300+(j:Int)%2:=Z;go_wp2;go_meet;case rel=>exact ⟨m,p,f⟩
   case rest =>
    clear f u;obtain⟨m,p,f⟩:=hcut;obtain⟨xa,xb,xc,rfl⟩:=fW f.row;obtain rfl:=ik f.row;go_wp2_with (first|(refine Gt rfl 26 _ rfl _ rfl _ _ _ _ f.cb underlying26 rfl E ?_)|(refine Gf rfl 26 _ _ rfl _ _ rfl rfl 26 _ f.yb E rfl (by simp [pQ,Value.oneCell']) ?_));refine GX (results_cell_tmp dU _ _ Y _ dU (run_loadVar_row _ Y 26 26 _ (0,0) _ (aw f.yb _) underlying26 rfl E)) dU ?_;have g:=aj wc Y (pQ c).toArray;have hy:=f.yr;have y:=f.y1;have L:=B.out;exact⟨c,m,xa,xc,R+1,rfl,Q,p,Z,f.ok.kept g (λe=>by have:=(f.ok.d.lt Y e).1;omega),f.row.kept g (.inr λe=>by have:=(f.row.lt Y e).1;omega),λq M=>(f.dat q M).kept g (λe=>by have:=((f.dat q M).d.lt Y e).1;omega),f.rd.bel.grown g f.rd.bel.size (λr e=>by cases e;omega)⟩
theorem flat_get {α:Type} (f:α->List Value) (n:Nat) (a:∀ x,(f x).length=n):∀ (l:List α) (k j:Nat) (x:α),l[k]?=some x->j<n->(l.flatMap f)[k*n+j]?=(f x)[j]?
 | [],k,j,x,h,_=>by simp at h
 | y::l,0,j,x,h,b=>by
  simp at h
  subst h
  rw [If,Nat.zero_mul,Gb,Ga (by rw [a];exact b)]
 | y::l,k+1,j,x,h,b=>by
  rw [If,Gn (by rw [a,Gy];omega),a,show (k+1)*n+j-n=k*n+j by rw [Gy];omega]
  exact flat_get f n a l k j x (by simpa using h) b
theorem Bd {k:Value} {l:List Aw} {c:List An4} (d:W.ownsRow B 44 4 k l.length (fZ l)) (m:l.map (·.1)=c) (A:0<c.length) :
  ∃ G f,k=.slice (some ⟨G,0,none⟩) c.length f/\B<=G/\G<W.heap.size/\∀ j a,c[j]?=some a->∃ v,(a,v)∈l/\W.cell? ⟨G,j*4,none⟩=some (.int .i64 a.code)/\W.cell? ⟨G,j*4+1,none⟩=some (.int .u64 (a.addr:Nat))/\W.cell? ⟨G,j*4+2,none⟩=some (.int .i64 (a.size:Nat))/\W.cell? ⟨G,j*4+3,none⟩=some v:=by
 have e:l.length=c.length:=by rw [<-m,Gz]
 rcases d.2 with ⟨_,n⟩|⟨g,f,q,r,n,o,F,G,K,s⟩;·omega
 ·refine⟨g,f,by rw [r,e],n,ag o,λj a ha=>?_⟩;rw [<-m,Gv] at ha;obtain⟨z,i,rfl⟩:∃ z,l[j]?=some z/\z.1=a:=by
   cases h:l[j]? with
   | none=>rw [h] at ha;cases ha
   | some z=>rw [h] at ha;exact⟨z,rfl,by simpa using ha⟩
  have L:=(Fz.1 i).1;have b:∀ t u,t<4->(aC z)[t]?=some u->W.cell? ⟨g,j*4+t,none⟩=some u:=λt u w x=>by
   rw [GT _ _ _ _ _ _ o];have y:=flat_get aC 4 (λ_=>rfl) l j t z i w;have p:(fZ l)[j*4+t]?=some u:=(by rw [<-x];exact y);rw [<-s,Gx,GP Z,Gg] at p;exact p
  exact⟨z.2,FM i,b 0 _ Z rfl,b 1 _ Z rfl,b 2 _ Z rfl,b 3 _ Z rfl⟩
theorem uy (V:World) (c a:Array Value) (t:TypeId):((V.alloc (.cells c t)).setRow V.heap.size a).heap[V.heap.size]?=some (.cells a t)/\D V ((V.alloc (.cells c t)).setRow V.heap.size a):=by
 refine⟨aw (ao V _) a,?_⟩;have b:=(Fu V.heap.size V).alloc (Fv _) (.cells c t);exact b.grown (aj _ V.heap.size a) b.size (λr e=>by cases e;exact Fv _)
end
end Go.Proofs.YtdngbppdomoenaaGreatDoor
