import Derived.Test.YtibblbenmpcplaaGreatDoorN09
set_option linter.unusedVariables false
set_option linter.unusedSimpArgs false
set_option maxRecDepth 20000
set_option maxHeartbeats 8000000
namespace Go.Proofs.YtibblbenmpcplaaGreatDoor
open Go.Proofs.Tryz
variable {m:Nat->Option (Bool×List Int)} {B M S a c cap k n:Nat} {f:Nat->Option Nat} {W W' w:World} {bud nn st:Int} {x:Sm} {e:TypeId} {xs:List Value} {h:Hs} {cf:Cf}
section
open Go.RowKit Go.Shelf
theorem fu {f:Nat->Option Nat} {m:Nat->Option (Bool×List Int)} (h:∀ k,(f k).isSome=(m k).isSome) (p):∀ c,bm f p c=c↔fC m p true c=true
 | 0=>by simp [bm,fC]
 | k+1=>by
  have a:=fu h p k
  have b:=ep f p k
  simp only [bm,fC,Gi,beq_iff_eq,<-h (p+k),<-a]
  cases (f (p+k)).isSome <;> simp <;> omega
theorem pM {f:Nat->Option Nat} {m:Nat->Option (Bool×List Int)} (h:∀ k,(f k).isSome=(m k).isSome) (p):∀ c,bm f p c=0↔fC m p false c=true
 | 0=>by simp [bm,fC]
 | k+1=>by
  have a:=pM h p k
  simp only [bm,fC,Gi,beq_iff_eq,<-h (p+k),<-a]
  cases (f (p+k)).isSome <;> simp
theorem nS (nn:Nat) (p c):bI nn p c=true↔AB nn p c:=by
 unfold bI AB;rw [Hj];omega
theorem Af (S M) (nn:Nat) (bud f m) (s p:Int) (c a n d dl dc ys w) (h:Im S M 0 nn bud f w) (u:Pg f m w) (A:∀ k,nn<=k->m k=none) (G:nn<=4096) (v:p<=9223372036854775807) (F:s=0\/s=1\/s=2\/s=3) :
  Calls prog 132 #[J S 0,kf s p c a n d dl dc] w λe r=>e=.returned (.agg #[I (bZ nn bud m s p c a n ys).2.1,C])/\tg S M nn bud f (bZ nn bud m s p c a n ys).1 w r:=by
 have g:(0:Int)<=nn:=Z;have j:(nn:Int)<=4096:=Z;have K:¬s=4:=Z;have L:¬s=5:=Z;have N:¬(s<0\/5<s):=Z;have l:=u.none_iff;have x:bm f 0 4096=bz m nn:=by
  rw [ke l 4096,show 4096=nn+(4096-nn) by omega,mn A]
 unfold bZ;rw [GO K,GO L,GO N];by_cases t:AB nn p c
 ·rw [GP t];have b:=(nS nn p c).2 t;obtain⟨Q,O,R,T⟩:=t;obtain⟨p,rfl⟩:=Ha O;obtain⟨c,rfl⟩:=Ha (show 0<=c by omega);simp only [F0];have P:=ep f p c;rcases F with rfl|rfl|rfl|rfl
  ·refine lL S M nn bud f m _ _ p c a n d dl dc w h u (λV i q=>?_);simp only [kx,IM];cases o:fC m p false c with
   | false =>
    simp only [IM];refine (qh S M 1 nn bud f p c _ V i g j b rfl (by
     have:=(pM l p c);rw [o] at this;have y:bm f p c≠0:=λe=>by simpa using this.1 e
     omega)).mono ?_
    rintro e r ⟨rfl,rfl⟩;exact⟨rfl,f,i,q,Fr.refl _ _ _ _⟩
   | true =>
    have B:=(pM l p c).2 o;by_cases z:bud<(bz m nn:Int)+c;·simp only [GP z,IS,IL];refine (qL S M 1 nn bud f p c _ V i g j b B x z).mono ?_;rintro e r ⟨rfl,rfl⟩;exact⟨rfl,f,i.drew,q.drew,(Fr.refl _ _ _ _).drew⟩
    simp only [GO z,IS,IL];exact sj S M 1 nn bud f m p c _ V i q g j b B x Z
  ·refine jz S M nn bud f m _ _ p c a n d dl dc w h u (λV i q=>?_);simp only [kx,show ¬((1:Int)=0) by omega,IL,IM];cases o:fC m p true c with
   | false =>
    simp only [IM];refine (ni S M 1 nn bud f p c _ V i g j b rfl (by
     have:=(fu l p c);rw [o] at this;have y:bm f p c≠c:=λe=>by simpa using this.1 e
     omega)).mono ?_
    rintro e r ⟨rfl,rfl⟩;exact⟨rfl,f,i,q,Fr.refl _ _ _ _⟩
   | true =>
    simp only [IS,IL];exact oB S M 1 nn bud f m p c V i q g j b ((fu l p c).2 o)
  ·refine ri S M nn bud f m _ _ p c a n d dl dc w h u (λV i q=>?_);simp only [kx,show ¬((2:Int)=0) by omega,show ¬((2:Int)=1) by omega,IL,IM];cases o:fC m p true c with
   | false =>
    simp only [IM];refine (jl S M 1 nn bud f p c _ true V i g j b rfl (by
     have:=(fu l p c);rw [o] at this;have y:bm f p c≠c:=λe=>by simpa using this.1 e
     omega)).mono ?_
    rintro e r ⟨rfl,rfl⟩;exact⟨rfl,f,i,q,Fr.refl _ _ _ _⟩
   | true =>
    simp only [IS,IL];refine (ki S M 1 nn bud f m p c true V i q g j b ((fu l p c).2 o)).mono ?_;rintro e r ⟨rfl,z,y,B⟩;exact⟨rfl,f,z,y,B⟩
  refine my S M nn bud f m _ _ p c a n d dl dc w h u (λV i q=>?_);simp only [kx,show ¬((3:Int)=0) by omega,show ¬((3:Int)=1) by omega,show ¬((3:Int)=2) by omega,IL];cases o:fC m p true c with
  | false =>
   simp only [IM];refine (jl S M 1 nn bud f p c _ false V i g j b rfl (by
    have:=(fu l p c);rw [o] at this;have y:bm f p c≠c:=λe=>by simpa using this.1 e
    omega)).mono ?_
   rintro e r ⟨rfl,rfl⟩;exact⟨rfl,f,i,q,Fr.refl _ _ _ _⟩
  | true =>
   simp only [IS,IL];refine (ki S M 1 nn bud f m p c false V i q g j b ((fu l p c).2 o)).mono ?_;rintro e r ⟨rfl,z,y,B⟩;exact⟨rfl,f,z,y,B⟩
 rw [GO t];have b:bI nn p c=false:=by
  cases o:bI nn p c with
  | false=>rfl
  | true=>exact absurd ((nS nn p c).1 o) t
 rcases F with rfl|rfl|rfl|rfl;·refine lL S M nn bud f m _ _ p c a n d dl dc w h u (λV i q=>(uV S M 1 nn bud f p c V i g j v b).mono ?_);rintro e r ⟨rfl,rfl⟩;exact⟨rfl,f,i,q,Fr.refl _ _ _ _⟩
 ·refine jz S M nn bud f m _ _ p c a n d dl dc w h u (λV i q=>(rL S M 1 nn bud f p c V i g j v b).mono ?_);rintro e r ⟨rfl,rfl⟩;exact⟨rfl,f,i,q,Fr.refl _ _ _ _⟩
 ·refine ri S M nn bud f m _ _ p c a n d dl dc w h u (λV i q=>(lX S M 1 nn bud f p c true V i g j v b).mono ?_);rintro e r ⟨rfl,rfl⟩;exact⟨rfl,f,i,q,Fr.refl _ _ _ _⟩
 refine my S M nn bud f m _ _ p c a n d dl dc w h u (λV i q=>(lX S M 1 nn bud f p c false V i g j v b).mono ?_);rintro e r ⟨rfl,rfl⟩;exact⟨rfl,f,i,q,Fr.refl _ _ _ _⟩
theorem rS {n} (h:ci m a n=0):∃ k:Nat,n=k/\k<=4096/\(k=0\/a+k<=4611686018427387904)/\∀ d,d<k->isOpen (m ((a+d)/1024))=true:=by
 unfold ci at h;by_cases b:n<0\/4096<n;·rw [GP b] at h;cases h
 rw [GO b] at h;obtain⟨k,rfl⟩:=Ha (show 0<=n by omega);refine⟨k,rfl,Z,?_⟩;by_cases f:(k:Int)=0;·exact⟨.inl Z,λd c=>Z⟩
 rw [GO f] at h;by_cases c:4611686018427387904<=(a:Int)+((k:Int)-1);·rw [GP c] at h;cases h
 rw [GO c] at h;refine⟨.inr Z,?_⟩;cases e:dE m a k with
 | false=>simp [e,jk] at h
 | true=>exact gL e
theorem jR (c:Pg f m W) (h:isOpen (m k)=true):∃ g,f k=some g:=by
 rcases c.at' k with ⟨a,d⟩|⟨b,l,xs,a,_⟩;·rw [d] at h;cases h
 exact⟨b,a⟩
theorem xw (S a n) (c:Int) (w:World) (f:(c != 0)=true) (h:Calls prog 214 #[J S 0,U a,I n] (w.alloc (.cells #[I 0,C] 197)) λe b=>e=.returned (I c)/\b=w.alloc (.cells #[I 0,C] 197)) :
  Calls prog 167 #[J S 0,U a,I n] w λe b=>e=.returned (.agg #[I c,C])/\b=w.alloc (.cells #[I c,C] 197):=by
 have d:=H h;clear h;go_enter func167,ntmps167;go_wp2_with fail;refine (d).mono ?_;rintro _ _ ⟨rfl,rfl⟩;go_wp2_with fail;refine GX (v:=.agg #[I c,C]) (by simp [results,Tryz.results167,go_sem]) rfl ⟨rfl,rfl⟩
theorem uQ (S a) (c:Int) (n cap:Nat) (p:Option Addr) (w:World) (f:(c != 0)=true) (h:Calls prog 214 #[J S 0,U a,I n] (w.alloc (.cells #[.slice p n cap] 22)) λe b=>e=.returned (I c)/\b=w.alloc (.cells #[.slice p n cap] 22)) :
  Calls prog 168 #[J S 0,U a,.slice p n cap] w λe b=>e=.returned (I c)/\b=w.alloc (.cells #[.slice p n cap] 22):=by
 have d:=H h;clear h;go_enter func168,ntmps168;go_wp2_with fail;refine (d).mono ?_;rintro _ _ ⟨rfl,rfl⟩;go_wp2_with fail;go_ret;exact⟨rfl,rfl⟩
theorem y_ (S M) (nn:Nat) (bud f m p c) (a:Nat) (n d dl dc ys w) (h:Im S M 0 nn bud f w) (j:Pg f m w) (ha:a<18446744073709551616) :
  Calls prog 132 #[J S 0,kf 4 p c a n d dl dc] w λe g=>∃ v,e=.returned (.agg #[I (bZ nn bud m 4 p c a n ys).2.1,v])/\g.ownsRow w.heap.size 5 1 v (bZ nn bud m 4 p c a n ys).2.2.length (Ns .u8 (bZ nn bud m 4 p c a n ys).2.2)/\tg S M nn bud f (bZ nn bud m 4 p c a n ys).1 w g:=by
 have l:bZ nn bud m 4 p c a n ys=(m,ci m a n,if ci m a n=0 then aH m a n.toNat else []):=by unfold bZ;rw [GP rfl]
 rw [l];refine run_load S M nn bud f m _ _ p c a n d dl dc w h j (λV i q=>?_);by_cases b:ci m a n=0
 ·rw [b,GP rfl];obtain⟨k,rfl,o,s,t⟩:=rS b;have u:=zu S M 1 nn bud f m a k V i q o s (λd j=>jR q (t d j)) (λW d j=>by
   have:=iz S M 1 nn bud f m a (k:Nat) W d j ha;rwa [b] at this)
  refine ((callsIn_wide (n:=5)).1 u).mono ?_;rintro e g ⟨v,rfl,x,r⟩;refine⟨v,rfl,?_,r⟩;simp only [F0];have y:(aH m a k).length=k:=by simp [aH]
  rw [y];exact x
 rw [GO b];refine (xw S a n _ V (by simpa using b) (iz S M 1 nn bud f m a n _ (i.alloc _) (q.alloc _) ha)).mono ?_;rintro e g ⟨rfl,rfl⟩;exact⟨_,rfl,⟨rfl,.inl ⟨rfl,rfl⟩⟩,i.alloc _,q.alloc _,Fr.ofGrown (GZ _ _ none)⟩
theorem tp (m k u v):dT (dT m k u) k v=dT m k v:=by
 funext j;unfold dT;split <;> rfl
theorem vF (m:Nat->Option (Bool×List Int)) (k:Nat) (v:Option (Bool×List Int)) (h:m k=v):dT m k v=m:=by
 funext j;unfold dT;split;·rename_i e;rw [e,h]
 rfl
theorem qt (xs b:List Int) (a:Nat) (z:Int) (h:a+b.length<xs.length):(splice xs a b).set (a+b.length) z=splice xs a (b++[z]):=by
 have c:(xs.take a).length=a:=bG;have d:xs.drop (a+b.length)=xs[a+b.length]::xs.drop (a+b.length+1):=List.drop_eq_getElem_cons h;unfold splice;rw [d,List.set_append_right _ _ Z,c,Nat.add_sub_cancel_left,List.set_append_right _ _ (Fv _),Nat.sub_self,FA];simp [H_]
theorem jd (m a ys) (d:Nat) (c:Bool) (xs:List Int) (f:xs.length=1024) (g:ay m a ys d ((a+d)/1024)=some (c,xs)) :
  ∀ l,(a+d)%1024+l<=1024->d+l<=ys.length->ay m a ys (d+l)=dT (ay m a ys d) ((a+d)/1024) (some (c,splice xs ((a+d)%1024) ((ys.drop d).take l)))
 | 0,_,_=>by
  have e:splice xs ((a+d)%1024) ((ys.drop d).take 0)=xs:=by simp [splice]
  rw [e,GK,vF _ _ _ g]
 | l+1,p,q=>by
  have i:=jd m a ys d c xs f g l Z Z
  have j:ay m a ys (d+(l+1))=dZ (ay m a ys (d+l)) (a+(d+l)) (ys[d+l]?.getD 0):=rfl
  have k:(a+(d+l))/1024=(a+d)/1024:=Z
  have n:(a+(d+l))%1024=(a+d)%1024+l:=Z
  rw [j,i]
  unfold dZ
  rw [k,n,bV,tp]
  simp only [Hi]
  have b:((ys.drop d).take l).length=l:=bG
  have o:(ys.drop d).take (l+1)=(ys.drop d).take l++[ys[d+l]?.getD 0]:=by
   rw [F_,IR,Fy Z];rfl
  rw [o,<-qt _ _ _ _ (by rw [b,f];omega),b]
theorem pm (l) (xs b:List Int) (a:Nat) (e:xs.length=1024) (h:a+b.length<=1024):(splice (eh l xs).toList a (Ns .u8 b)).toArray=eh l (splice xs a b):=by
 unfold eh splice;have c:a<=(Ns .u8 xs).length:=by simp [Ns];omega
 have d:a+b.length<=(Ns .u8 xs).length:=by simp [Ns];omega
 dsimp only;rw [Iz c,bv,List.drop_append_of_le_length d];simp [Ns]
attribute [local go_sem] Oper.semAt_some
def pt (m:Nat->Option (Bool×List Int)) (p:Nat) (bs:List Int):Nat->Option (Bool×List Int):=dT m (p/1024) ((m (p/1024)).map λq=>(q.1,splice q.2 (p%1024) bs))
def stF (m:Nat->Option (Bool×List Int)) (a n:Nat) (ys:List Int) (e:List { d:Nat // d<n }):Nat×(Nat->Option (Bool×List Int)) :=
 e.foldl (λs x=>(s.1+min (ct a n x.1) (n-s.1),pt s.2 (a+x.1) ((ys.drop s.1).take (min (ct a n x.1) (n-s.1))))) (0,m)
theorem pZ (m a) (n:Nat) (ys) (b:List { d:Nat // d<n }) (x : { d:Nat // d<n }) :
  stF m a n ys (b++[x])=((stF m a n ys b).1+min (ct a n x.1) (n-(stF m a n ys b).1),pt (stF m a n ys b).2 (a+x.1) ((ys.drop (stF m a n ys b).1).take (min (ct a n x.1) (n-(stF m a n ys b).1)))):=by
 simp [stF]
theorem tZ (a n:Nat) (c:List Int):∀ (b:List { d:Nat // d<n }) (s:Nat×(Nat->Option (Bool×List Int))),s.1<=n->(b.foldl (λs x=>(s.1+min (ct a n x.1) (n-s.1),pt s.2 (a+x.1) ((c.drop s.1).take (min (ct a n x.1) (n-s.1))))) s).1<=n
 | [],s,h=>h
 | x::b,s,h=>by
  rw [List.foldl_cons]
  exact tZ a n c b _ iM
theorem Cc (m a) (n:Nat) (ys) (b:List { d:Nat // d<n }):(stF m a n ys b).1<=n:=tZ a n ys b _ (FH _)
theorem ox (a n d:Nat):(a+d)%1024+ct a n d<=1024:=by unfold ct;omega
def Full (m:Nat->Option (Bool×List Int)):Prop:=∀ k q,m k=some q->q.2.length=1024
theorem lJ (xs b:List Int) (a:Nat) (h:a+b.length<=xs.length):(splice xs a b).length=xs.length:=length_splice _ _ _ h
theorem Full.lay (h:Full m) (p:Nat) (b:List Int) (d:p%1024+b.length<=1024):Full (pt m p b):=by
 intro k q e;unfold pt at e;by_cases c:k=p/1024
 ·subst c;rw [bV] at e;cases a:m (p/1024) with
  | none=>rw [a] at e;cases e
  | some r =>
   rw [a] at e;simp only [Hi,Hk] at e;subst e;dsimp only;rw [lJ _ _ _ (by rw [h _ _ a];exact d)];exact h _ _ a
 rw [aW _ _ _ _ c] at e;exact h k q e
theorem Full.store {m} (h:Full m) (a ys):∀ k,Full (ay m a ys k)
 | 0=>h
 | k+1=>by
  intro j q e
  have d:=Full.store h a ys k
  have b:dZ (ay m a ys k) (a+k) (ys[k]?.getD 0) j=some q:=e
  unfold dZ at b
  by_cases f:j=(a+k)/1024
  ·subst f
   rw [bV] at b
   cases c:ay m a ys k ((a+k)/1024) with
   | none=>rw [c] at b;cases b
   | some r =>
    rw [c] at b
    simp only [Hi,Hk] at b
    subst b
    simp
    exact d _ _ c
  rw [aW _ _ _ _ f] at b
  exact d j q b
theorem Got.stF {b:List Int} {c:List { d:Nat // d<n }} {d:Nat} (t:b.length=n) (o:Full m) (p:∀ d,d<n->(m ((a+d)/1024)).isSome=true) (h:Got a n c d):stF m a n b c=(d,ay m a b d):=by
 induction h with
 | zero=>rfl
 | @next c d h l g =>
  rw [pZ,g];have u:=pF (a:=a) l;have r:min (ct a n d) (n-d)=ct a n d:=Z;dsimp only;rw [r];congr 1;have f:(ay m a b d ((a+d)/1024)).isSome=true:=by
   have:∀ k j,(ay m a b k j).isSome=(m j).isSome:=by
    intro k;induction k with
    | zero=>intro j;rfl
    | succ k g =>
     intro j;show (dZ (ay m a b k) (a+k) (b[k]?.getD 0) j).isSome=_;unfold dZ;by_cases e:j=(a+k)/1024;·subst e;rw [bV,Option.isSome_map];exact g _
     rw [aW _ _ _ _ e];exact g j
   rw [this];exact p d l
  obtain⟨q,i⟩:=Option.isSome_iff_exists.1 f;obtain⟨j,xs⟩:=q;have s:=(o.store a b d) _ _ i;rw [jd m a b d j xs s i (ct a n d) (ox a n d) Z];unfold pt;rw [i];rfl
attribute [local go_sem] Oper.semAt_some
theorem Sd.keep {mm DB p} {k:Option Nat} (h:Sd S M st nn bud f mm w DB p n cap c W) (d:W.grownBy W' k) (o:∀ r,k=some r->w.heap.size<=r/\∀ i t z,W.heap[r]?≠some (.cells i t z)):Sd S M st nn bud f mm w DB p n cap c W':=by
 have q:∀ (b:Nat) (i:Array Value) (t:TypeId) (z:Nat×Nat),W.heap[b]?=some (Obj.cells i t z)->W'.heap[b]?=some (Obj.cells i t z):=by
  intro b i t z m;rw [d.block b (G_ m) (λe=>(o b e.symm).2 i t z m)];exact m
 have u:W'.heap[M]?=W.heap[M]?:=d.block M (FG h.mlt h.fr.size) (λe=>by have:=(o M e.symm).1;have:=h.mlt;omega);refine⟨⟨q _ _ _ _ h.im.box,?_⟩,⟨?_,h.pg.inj⟩,?_,?_,h.mlt,h.dge⟩;·obtain⟨a,⟨j,g,m,l⟩,r⟩:=h.im.map;exact⟨a,⟨j,g,u.trans m,l⟩,r⟩
 ·intro j;rcases h.pg.at' j with a|⟨b,l,xs,a,g,s,v⟩;·exact .inl a
  exact .inr ⟨b,l,xs,a,g,s,q _ _ _ _ v⟩
 ·exact⟨d.os.trans h.fr.os,d.tape.trans h.fr.tape,d.output.trans h.fr.output,Fx h.fr.size d.size,λj l a g s=>by
   rw [d.block j (FG l h.fr.size) (λe=>by have:=(o j e.symm).1;omega)];exact h.fr.block j l a g s,h.fr.made⟩
 obtain⟨l,a,g⟩:=h.box;exact⟨l,q _ _ _ _ a,g⟩
theorem Sd.piece {mm DB p ys b} {x:Nat} {g:Nat} (h:Sd S M st nn bud f mm w DB p n cap c W) (hc:c<=n) (a7:n<=cap) (T:Da S M f w p n ys) (O:f ((a+x)/1024)=some g) (hx:x<n) (V:Cl S b a n W) :
  ∃ y,W.heap[DB]?=some (.cells #[.slice y (n-c) (cap-c)] 22)/\∃ s r,(Builtin.copy_ #[22,22] 3 #[.slice (some ⟨g,(a+x)%1024,none⟩) (ct a n x) (1024-(a+x)%1024),.slice y (n-c) (cap-c)]).run prog W.drew=.ok (I (min (ct a n x) (n-c):Nat)) s /\
   (∀ w:World,(Instr.slice 22 (.slice y (n-c) (cap-c)) (some (I (min (ct a n x) (n-c):Nat))) none none).run prog w=.ok (.slice r (n-(c+min (ct a n x) (n-c))) (cap-(c+min (ct a n x) (n-c)))) w) /\
   s.cell? ⟨DB,0,none⟩=some (.slice y (n-c) (cap-c))/\s.frozen? ⟨DB,0,none⟩=false /\
   Sd S M st nn bud f (pt mm (a+x) ((ys.drop c).take (min (ct a n x) (n-c)))) w DB p n cap (c+min (ct a n x) (n-c)) (s.setCell ⟨DB,0,none⟩ (.slice r (n-(c+min (ct a n x) (n-c))) (cap-(c+min (ct a n x) (n-c))))) /\
   Kp S M b W (s.setCell ⟨DB,0,none⟩ (.slice r (n-(c+min (ct a n x) (n-c))) (cap-(c+min (ct a n x) (n-c)))))/\KeepsOthers W (s.setCell ⟨DB,0,none⟩ (.slice r (n-(c+min (ct a n x) (n-c))) (cap-(c+min (ct a n x) (n-c))))):=by
 obtain⟨y,i,G⟩:=h.box;obtain⟨k,hk⟩:∃ k,k=min (ct a n x) (n-c):=⟨_,rfl⟩;rw [<-hk];have a8:=ox a n x;have a9:=me (a:=a) hx;obtain⟨l,xs,hm,A,P⟩:=h.pg.cell O;have m:((ys.drop c).take k).length=k:=by rw [Hm,List.length_drop,T.1];omega
 obtain⟨s,hr,K,u⟩:=sM W.drew (some ⟨g,(a+x)%1024,none⟩) y (ct a n x) (1024-(a+x)%1024) (n-c) (cap-c) g ((a+x)%1024) (eh l xs).toList 179 (by rw [show W.drew.heap=W.heap from rfl];simpa using P) (Ns .u8 ((ys.drop c).take k)) (by rw [bv,m,hk];exact Nat.min_comm _ _) (λq=>by
  rw [bv,m] at q;obtain⟨Q,X,Y⟩:=G Z;refine⟨rfl,_,Y,λj v d=>?_⟩;have o:j<k:=by
   by_cases o:j<k;·exact o
   rw [FJ (by rw [bv,m];omega)] at d;cases d
  obtain⟨t,B,e4⟩:=T.cell h.fr (c+j) Z;rw [X] at B;cases B;rw [Addr.add_add];have:W.drew.cell? (Q.add (c+j))=W.cell? (Q.add (c+j)):=rfl;rw [this,e4,<-d];simp [Ns,o];have:c+j<ys.length:=by rw [T.1];omega
  simp [this]) (by rw [bv,m];simp [eh,Ns,A];omega) (λv d=>by
   simp only [Ns,FQ] at d;obtain⟨z,_,rfl⟩:=d;rfl)
 rw [bv,m] at hr;rw [pm _ _ _ _ A (by rw [m];omega)] at K;obtain⟨r,a0,L⟩:=xD y k (n-c) (cap-c) Z Z;obtain⟨a1,a2⟩:=h.pg.apart h.im O;have a3:g≠DB:=λe=>by subst e;rw [P] at i;simp at i
 have d:W.grownBy s (some g):=⟨u.os,u.tape,u.output,u.size,u.block⟩;have o:s.heap[DB]?=some (.cells #[.slice y (n-c) (cap-c)] 22):=by rw [d.block DB (G_ i) (by simpa using a3.symm)];exact i
 have F:s.grownBy (s.setCell ⟨DB,0,none⟩ (.slice r (n-(c+k)) (cap-(c+k)))) (some DB):=au (al s DB) 0 _;have a4:DB≠S:=λe=>by rw [e,h.im.box] at i;simp at i
 have N:DB≠M:=by have:=h.mlt;have:=h.dge;omega
 have X:n-c-k=n-(c+k):=Z;have Y:cap-c-k=cap-(c+k):=Z;refine⟨y,i,s,r,hr,λW=>by rw [a0 W,X,Y],by simp [World.cell?,o],by simp [World.frozen?,o],⟨?_,?_,?_,?_,h.mlt,h.dge⟩,⟨?_,?_⟩,?_⟩;·exact (h.im.grownAt d a1 a2).grownAt F a4 N
 ·have q:=h.pg.lay O (l:=l) (xs:=splice xs ((a+x)%1024) ((ys.drop c).take k)) (by rw [lJ _ _ _ (by rw [m,A];omega),A]) K d;have B:pt mm (a+x) ((ys.drop c).take k)=dT mm ((a+x)/1024) (some (l,splice xs ((a+x)%1024) ((ys.drop c).take k))):=by
   unfold pt;rw [hm];rfl
  rw [B];refine⟨?_,q.inj⟩;intro j;rcases q.at' j with t|⟨b2,l2,v,t,h2,h3,R⟩;·exact .inl t
  refine .inr ⟨b2,l2,v,t,h2,h3,?_⟩;rw [F.block b2 (G_ R) (λe=>by cases e;rw [R] at o;simp at o)];exact R
 ·exact (h.fr.grownAt d (.inl ⟨_,O⟩)).grownAt F (.inr h.dge)
 ·refine⟨r,by rw [bj o];rfl,λv=>?_⟩;obtain⟨Q,B,e4⟩:=G Z;refine⟨Q,B,?_⟩;rw [L Z,e4];simp [Addr.add_add]
 ·exact Fx d.size F.size
 ·have q:∀ (b:Nat) (cs:Array Value) (t:TypeId) (z:Nat×Nat),W.heap[b]?=some (Obj.cells cs t z)->t≠179->t≠22->(s.setCell ⟨DB,0,none⟩ (.slice r (n-(c+k)) (cap-(c+k)))).heap[b]?=W.heap[b]?:=by
   intro R cs t z b a5 a6;have n1:R≠g:=λe=>by subst e;rw [P] at b;cases b;exact a5 rfl
   have n2:R≠DB:=λe=>by subst e;rw [i] at b;cases b;exact a6 rfl
   rw [F.block R (FG (G_ b) d.size) (by simpa using n2),d.block R (G_ b) (by simpa using n1)]
  rintro g' (rfl|rfl|rfl|rfl|rfl);·exact q _ _ _ _ h.im.box ar ar
  ·have v:=FG h.mlt h.fr.size;rw [F.block _ (FG v d.size) (by simpa using N.symm),d.block _ v (by simpa using a2.symm)]
  ·exact q _ _ _ _ V.s ar ar
  ·exact q _ _ _ _ V.a ar ar
  exact q _ _ _ _ V.n ar ar
 exact (KeepsOthers.of_grownBy d (λj o e b=>by cases e;rw [P] at b;cases b;rfl)).trans (KeepsOthers.setCell _ _ _)
attribute [local go_sem] Oper.semAt_some
theorem Sd.init (g:Im S M st nn bud f w) (i:Pg f m w) (p:Option Addr) (n cap:Nat) (c:0<n->∃ x,p=some x):Sd S M st nn bud f m w w.heap.size p n cap 0 (w.alloc (.cells #[.slice p n cap] 22)):=by
 have d:=GZ w (.cells #[.slice p n cap] 22) none;refine⟨g.grown d,i.grown d,Fr.ofGrown d,⟨p,(Hq w _).1,λh=>?_⟩,?_,Fv _⟩;·obtain⟨x,e⟩:=c h;exact⟨x,e,by rw [e];simp [Addr.add]⟩
 obtain⟨a,b,_⟩:=g.map;exact b.lt
theorem yu (S M st nn bud f m) (a n cap:Nat) (p y w) (s:Im S M st nn bud f w) (o:Pg f m w) (hn:n<=4096) (V:n<=cap) (ha:n=0\/a+n<=4611686018427387904) (r:Da S M f w p n y) (i:∀ d,d<n->∃ g,f ((a+d)/1024)=some g) (h:∀ w,Im S M st nn bud f w->Pg f m w->Calls prog 214 #[J S 0,U a,I n] w λe X=>e=.returned (I 0)/\X=w) :
  CallsIn Fence.wide 5 prog 168 #[J S 0,U a,.slice p n cap] w λe X=>e=.returned (I 0)/\Im S M st nn bud f X/\Pg f (ay m a y n) X/\Fr S M f f w X:=by
 have H1:=H h;have HI:=H (IT s o);have HP:=H i;have HD:=H r;have FU:=H (show Full m from λk q e=>by
  rcases o.at' k with ⟨_,Q⟩|⟨b,l,xs,_,Q,h3,_⟩;·rw [Q] at e;cases e
  rw [Q] at e;cases e;exact h3)
 have SO:=H (show ∀ d,d<n->(m ((a+d)/1024)).isSome=true from λd r=>by
  obtain⟨g,G⟩:=i d r;rw [<-o.none_iff,G];rfl)
 have q:0<n->∃ x,p=some x:=λh0=>by obtain ⟨x,e,_⟩:=r.2 0 h0;exact⟨x,e⟩
 have j:=H (Sd.init s o p n cap q);clear h s o i r q;refine callsIn_of_wp_marks func168 rfl trivial ?_ rfl;simp only [ntmps168,FX,FN,F1,Nat.reduceAdd,Nat.reduceSub,FP,FO,FY,Iv,FV,F5]
 gi_wp2_with fail
 refine⟨trivial,?_⟩;refine ((callsIn_wide (n:=4)).2 (H1 _ (HI.1.alloc _) (HI.2.alloc _))).mono ?_;rintro _ _ ⟨rfl,rfl⟩
 gi_wp2_with fail
 refine⟨trivial,?_⟩;obtain⟨u,i⟩:∃ u,w.alloc (.cells #[.slice p n cap] 22)=u:=⟨_,rfl⟩;obtain⟨R,L⟩:∃ R,w.heap.size=R:=⟨_,rfl⟩;have q:u.heap.size=R+1:=by rw [<-i,<-L];simp
 have HZ:=H q;clear q;rw [i,L] at j;rw [i,L];clear i;refine ((callsIn_wide (n:=4)).2 (oj _ _ _ _)).mono ?_;rintro e w4 ⟨rfl,rfl⟩;gi_wp2;have Y:=H (Cl.made S a n u);have o:=ej (GZ u (.cells #[J S 0] 58) none) (ej (GZ _ (.cells #[U a] 23) none) (GZ _ (.cells #[I n] 3) none));have S4:=H (j.keep o (λr e=>by cases e));have h4:u.heap.size+1+1+1=(((u.alloc (.cells #[J S 0] 58)).alloc (.cells #[U a] 23)).alloc (.cells #[I n] 3)).heap.size:=bH;have hS:=FG (G_ HI.1.box) j.fr.size;have hM:=FG j.mlt j.fr.size;obtain⟨T,i⟩:∃ T,((u.alloc (.cells #[J S 0] 58)).alloc (.cells #[U a] 23)).alloc (.cells #[I n] 3)=T:=⟨_,rfl⟩;rw [i] at Y S4 h4;rw [i];clear o i j;have q:=HZ.out;refine wpIn_rangeFunc_ownF rfl Z (gf:=236) (lb:=#[J (u.heap.size+1+1) 0,J (u.heap.size+1) 0,J u.heap.size 0]) rfl trivial (enters_of func236 E rfl)
  (encs:=λx : { d:Nat // d<n }=>vt f a n x.1) (Kp:=Kp S M u.heap.size) (S:=λy=>Got a n y n) (Sp:=λj=>∃ d,Got a n j d) (N:=n) (w0:=T)
  (λl d Jx W i o s s h0=>nW S M st nn bud f a n l u.heap.size 4 Z hn ha HP d Jx W o s (Y.kp (Kp.below (M:=M) (N:=T.heap.size) i Z Z Z)) (S4.im.kp (Kp.below (N:=T.heap.size) (b:=u.heap.size) i Z Z Z)) h0)
  Kp.trans (λW l o d F h _ _=>wO (S:=S) (M:=M) (b:=u.heap.size) (N:=T.heap.size) Z Z Z W l o d F h) (Fu _ _) (λ_=>rfl)
  (λj W=>Sd S M st nn bud f (stF m a n y j).2 w R p n cap (stF m a n y j).1 W/\Cl S u.heap.size a n W)
  (λc j W=>False)
  ?own (λc s A B a0 d G hr=>d) ⟨S4,Y⟩
  (λx=>{ tmps:=#[J S 0,U a,.slice p n cap,undef,undef,J R 0,I 0,I 0,.slice (some ⟨(f ((a+x.1)/1024)).getD 0,(a+x.1)%1024,none⟩) (ct a n x.1) (1024-(a+x.1)%1024),J S 0,U a,.slice p n cap,I n,I 0,I 0,.bool false,undef,J S 0,U a,.slice p n cap,I n,.func (.func 236) #[] #[J (u.heap.size+1+1) 0,J (u.heap.size+1) 0,J u.heap.size 0],.slice (some ⟨(f ((a+x.1)/1024)).getD 0,(a+x.1)%1024,none⟩) (ct a n x.1) (1024-(a+x.1)%1024),undef,undef,undef,undef,undef],defers:=[] }) ?assign ?body ?done ?stop
 case own =>
  rintro s A B a0 ⟨F,v⟩ G hr;have P:∀ r,a0=some r->w.heap.size<=r/\∀ O t z,A.heap[r]?≠some (.cells O t z):=by
   intro r e;obtain⟨i,o,Q,h3⟩:=hr r e;refine⟨Z,λO t z h5=>?_⟩;rw [h5] at Q;cases Q;cases h3
  have K:∀ (b:Nat) (O:Array Value) (t:TypeId) (z:Nat×Nat),A.heap[b]?=some (Obj.cells O t z)->B.heap[b]?=A.heap[b]?:=λb O t z i=>G.block b (G_ i) (λe=>(P b e.symm).2 O t z i)
  exact⟨F.keep G P,(K _ _ _ _ v.s).trans v.s,(K _ _ _ _ v.a).trans v.a,(K _ _ _ _ v.n).trans v.n⟩
 case assign =>
  intro l x W K hK;clear q;unfold vt;gi_wp2;exact hK
 case stop =>
  intro i c j W _ _ h;exact h.elim
 case body =>
  rintro l j x W ⟨F,v⟩ a3;obtain⟨g,G⟩:=HP.out x.1 x.2;obtain⟨pd,K,W1,a4,a5,a6,a7,a8,a1,P,a2⟩:=F.piece (Cc m a n y j) V HD G x.2 v;have HR:=H (IT a1 (IT P (IT a2 (v.kp P))));have c0:W.cell? ⟨R,0,none⟩=some (.slice pd (n-(stF m a n y j).1) (cap-(stF m a n y j).1)):=by simp [World.cell?,K]
  rw [G];simp only [Ht];have ES:=H (pZ m a n y j x);clear F v K a1 P a2 S4 Y q h4;gi_wp2
  gi_region
  all_goals
   gi_wp2
   refine⟨HR.2.2.1,HR.2.1,?_,HR.2.2.2⟩
   rw [ES.out]
   exact HR.1
 case done =>
  rintro i xs W hD K ⟨F,v⟩ hK;rw [Got.stF HD.1 FU.out SO.out K] at F;have g3:=grownBy_putObj' W i (.deferred none);have P:=F.keep g3 (λr e=>by cases e;exact⟨Z,λO t z h5=>by rw [hK] at h5;cases h5⟩);have HF:=H P;clear F v P g3 S4 Y q h4;gi_wp2;refine⟨bH,.inl ⟨_,_,rfl,run_takeDeferred hK,?_⟩⟩;refine⟨I 0,?_,rfl,HF.im,HF.pg,HF.fr⟩;simp [results,Tryz.f168,go_sem]
end
section
open Go.ChangeShapes Go.WideShapes Go.ChangeAt Go.RowKit
theorem kJ (c s t) (h:Slot c s t) (w:World) :
  Calls prog 98 #[I c,I s,I t] w λe g=>e=.returned (.tuple #[U ((rs c+s*(pg c+1))*1024+t*sz c),.bool true])/\D w g:=by
 have a:0<=c/\c<12:=⟨h.c0,h.c1⟩;have i:=h.s0;have j:=h.s1;have k:=h.t0;have n:=h.t1;have d:=hidR (dx c);have o:=hidR (gM c);have q:=hidR (jO c s Z Z);have B:=eJ a;have u:(sz c==0)=false:=bG;have F:=fy a;have b:=kh a;have v:4<=sl c/\sl c<=64:=⟨b.1,b.2.1⟩;have G:1<=rs c/\rs c<=361:=by have:=we c;rw [kB a] at this ⊢;have:=iU c.toNat;omega
 have K:0<=s*(pg c+1)/\s*(pg c+1)<=25:=by
  have:pg c=1\/pg c=2\/pg c=3\/pg c=4:=Z;rcases this with e|e|e|e <;> rw [e] <;> omega
 have f:=HH a h.t0 h.t1;have x:0<=t*sz c/\t*sz c<=4096:=⟨f.1,by have:=(kh a).2.2.2;omega⟩;clear f b h;generalize rs c=r at *;generalize L:pg c=p at *;generalize sz c=z at *;generalize sl c=l at *;generalize s*(p+1)=m at *;go_enter func98,ntmps98;go_wp2_with fail;refine (d _).mono ?_;rintro e M ⟨rfl,b⟩;go_wp2_with fail;refine (o _).mono ?_;rintro e N ⟨rfl,f⟩;go_wp2_with fail;refine (q _).mono ?_;rintro e O ⟨rfl,y⟩;go_wp2_with fail;refine (d _).mono ?_;rintro e P ⟨rfl,A⟩;go_wp2
 go_ret2
 exact⟨rfl,cv b (cv f (cv y A))⟩
end
section
open Go.RowKit
theorem iZ {P:Nat->Bool} : ∀ {n k:Nat},k<n->(∀ j,j<k->P j=false)->P k=true->(List.range n).find? P=some k:=by
 intro n k a b c;rw [Iu];exact⟨c,by simpa using a,λj d=>by simp [b j d]⟩
theorem jM {P:Nat->Bool} (a:∀ j,j<n->P j=false):(List.range n).find? P=none:=by
 rw [List.find?_range_eq_none];intro j b;simp [a j b]
def rC (r:Rg9):List Value:=[U r.base,I r.first,I r.ext,I r.pages,I r.st,I r.rq]
theorem aK {b:Nat} {d:Nat} {v:Value} (h:W.ownsRow b e d v n xs):∃ a c,v=.slice a n c:=by
 rcases h.2 with ⟨rfl,f⟩|⟨g,cap,i,rfl,_⟩;·subst f;exact⟨_,_,rfl⟩
 exact⟨_,_,rfl⟩
theorem cr {sz:Nat} {a:Option Addr} (h:W.ownsRow B e sz (.slice a n cap) n xs) (d:0<n):∃ G,a=some ⟨G,0,none⟩:=by
 rcases h.2 with ⟨_,f⟩|⟨g,b,c,e,_⟩;·omega
 simp at e;exact⟨g,e.1⟩
theorem Sh.range {B x cf h W} (d:Sh B x cf h W) {G cap} (e:x.rv=Vl G h.rg.length cap) {k:Nat} {r:Rg9} (f:h.rg[k]?=some r):W.cell? ⟨G,k*6,none⟩=some (U r.base)/\W.cell? ⟨G,k*6+1,none⟩=some (I r.first)/\W.cell? ⟨G,k*6+2,none⟩=some (I r.ext)/\W.cell? ⟨G,k*6+3,none⟩=some (I r.pages)/\W.cell? ⟨G,k*6+4,none⟩=some (I r.st)/\W.cell? ⟨G,k*6+5,none⟩=some (I r.rq):=by
 have a:=eC rC 6 (λ_=>rfl) h.rg k r f;have c:=d.rg;rw [e] at c;have g:=λi v (j:i<6) b=>bC c (k*6+i) v ((a i j).trans b)
 exact⟨g 0 _ Z rfl,g 1 _ Z rfl,g 2 _ Z rfl,g 3 _ Z rfl,g 4 _ Z rfl,g 5 _ Z rfl⟩
def fS (p:Nat):Option Nat:=(List.range 1062).find? λk=>gt k==p
def uo (h:Hs) (i:Nat):Rg9:=(h.rg[i]?).getD ⟨0,0,0,0,0⟩
def fR (h:Hs) (p:Nat):Option Nat:=(List.range h.rg.length).find? λi=>(uo h i).base==p
def fE (h:Hs) (p:Nat):Int×Int×Int :=
 match fS p with
 | some k=>if dC h k=1 then ((k:Int),-1,0) else if dC h k=0 then (-1,-1,3) else (-1,-1,4)
 | none=>match fR h p with
  | some i=>if (uo h i).st=1 then (-1,(i:Int),0) else (-1,-1,4)
  | none=>if h.rel.contains p then (-1,-1,4) else (-1,-1,3)
theorem cZ {P:Program} {b:Func} {p q r:Tmp} (h:b.results=#[.tmp p,.tmp q,.tmp r]) (a:Array Value) (w:World):(results b a).run P w=.ok (.tuple #[a.getD p undef,a.getD q undef,a.getD r undef]) w:=by
 simp [results,h]
def C4 (t:Int×Int×Int):Value:=.tuple #[I t.1,I t.2.1,I t.2.2]
theorem kZ (B x cf h) (p:Nat) (W) (a:Sh B x cf h W) (hn:h.rg.length<=1000) (hl:h.rel.length<=100000) :
  Calls prog 101 #[J x.P 0,U p] W λe W'=>e=.returned (C4 (fE h p))/\D W W':=by
 have c7:W.cell? ⟨x.P,7,none⟩=some (Vl x.G 1062 x.gc):=a.cell 7 _ rfl;have g:=H a;clear a;go_enter func101,ntmps101;go_wp2;go_loopw [18] (λi wr=>∃ k:Nat,k<=1062/\i=I k/\Hid (∀ j,j<k->(gt j==p)=false)/\Hid (D W wr)) (λi _=>1062-(intOf i).toNat);case atStart=>exact ⟨0,FH _,rfl,H (λj y=>Z),H (Fu _ _)⟩
 case round =>
  obtain⟨k,hk,rfl,N,u⟩:=hrel;by_cases A:k<1062
  ·obtain⟨T,d1,d2,O,d4,d5⟩:=(g.below u).slot A;have d:=H (u.alloc u.size (.cells #[I ((sA k).1:Nat),I ((sA k).2.1:Nat),I ((sA k).2.2:Nat),U (gt k:Nat),I (dC h k),I (fJ h k)] 126));by_cases ha:gt k=p
   ·have q:=H (show fE h p=if dC h k=1 then ((k:Int),-1,0) else if dC h k=0 then (-1,-1,3) else (-1,-1,4) by
     unfold fE fS;rw [iZ A N.out (by simp [ha])])
    generalize dC h k=z at *;generalize fJ h k=V at *;generalize (sA k).2.2=l at *;generalize (sA k).1=m at *;generalize (sA k).2.1=n at *;rw [ha] at O d;by_cases f:z=1;·have a:=H (q.trans (GP f));subst f;go_wp2;refine GX (cZ dU _ _) dU ?_;rw [a.out];exact⟨rfl,d⟩
    have P:(z==1)=false:=(by simpa using f);by_cases b:z=0;·have a:=H (q.trans ((GO f).trans (GP b)));subst b;go_wp2;refine GX (cZ dU _ _) dU ?_;rw [a.out];exact⟨rfl,d⟩
    have c:(z==0)=false:=(by simpa using b);have a:=H (q.trans ((GO f).trans (GO b)));go_wp2;refine GX (cZ dU _ _) dU ?_;rw [a.out];exact⟨rfl,d⟩
   have Q:=H (show ∀ j,j<k+1->(gt j==p)=false from λj y=>by
    by_cases e:j=k;·subst e;simpa using ha
    exact N j Z)
   have s:(((gt k:Nat):Int) != (p:Int))=true:=bG;generalize gt k=b at O s d;go_wp2;go_roundw;(case rel=>exact ⟨k+1,Z,aY,Q,d⟩);case measure=>simp [intOf];omega
  obtain rfl:k=1062:=Z;have q:=H (show fS p=none from jM N);obtain⟨ra,rc,b⟩:=aK g.rg;have L:W.cell? ⟨x.P,9,none⟩=some (.slice ra h.rg.length rc):=by rw [<-b];exact g.cell 9 _ rfl
  replace L:=ad u L;obtain⟨v,c⟩:∃ v,h.rg.length=v:=⟨_,rfl⟩;rw [c] at L hn;have l:=H c;have F:=H b;clear c b c7;go_wp2;go_loopw [40] (λi R=>∃ k:Nat,k<=v/\i=I k/\Hid (∀ j,j<k->((uo h j).base==p)=false)/\Hid (D W R)) (λi _=>v-(intOf i).toNat);case atStart=>exact ⟨0,FH _,rfl,H (λj y=>Z),u⟩
  case round =>
   obtain⟨k,a0,rfl,S,c⟩:=hrel;clear u L;by_cases o:k<v
   ·obtain⟨r,n⟩:∃ r,h.rg[k]?=some r:=⟨_,Fy (by rw [l.out];exact o)⟩;have b:uo h k=r:=(by unfold uo;rw [n];rfl);obtain⟨G,rfl⟩:=cr (F.out▸g.rg) (by rw [l.out];omega);obtain⟨T,d1,d2,O,d4,d5⟩:=(g.below c).range F n;have d:=H (c.alloc c.size (.cells #[U r.base,I r.first,I r.ext,I r.pages,I r.st,I r.rq] 130));by_cases ha:r.base=p
    ·have m:=H (show fE h p=if r.st=1 then (-1,(k:Int),0) else (-1,-1,4) by
      unfold fE;rw [q.out];dsimp only;unfold fR;rw [iZ (by rw [l.out];exact o) S.out (by rw [b];simp [ha])];dsimp only;rw [b])
     generalize r.st=z at *;generalize r.rq=V at *;generalize r.ext=t at *;generalize r.base=w at *;subst ha;by_cases f:z=1;·have a:=H (m.trans (GP f));subst f;go_wp2;refine GX (cZ dU _ _) dU ?_;rw [a.out];exact⟨rfl,d⟩
     have a:=H (m.trans (GO f));have P:(z==1)=false:=(by simpa using f);go_wp2;refine GX (cZ dU _ _) dU ?_;rw [a.out];exact⟨rfl,d⟩
    have Q:=H (show ∀ j,j<k+1->((uo h j).base==p)=false from λj y=>by
     by_cases e:j=k;·subst e;rw [b];simpa using ha
     exact S j Z)
    have s:(((r.base:Nat):Int)==(p:Int))=false:=bG;generalize r.st=z at *;generalize r.rq=V at *;generalize r.ext=t at *;generalize r.base=w at *;go_wp2;go_roundw;(case rel=>exact ⟨k+1,Z,aY,Q,d⟩);case measure=>simp [intOf];omega
   obtain rfl:k=v:=Z;have G:=H (show fR h p=none by unfold fR;rw [l.out];exact jM S);obtain⟨la,lc,b⟩:=aK g.rl;have m:W.cell? ⟨x.P,11,none⟩=some (.slice la h.rel.length lc):=(by rw [<-b];exact g.cell 11 _ rfl);replace m:=ad c m;have X:=H b;clear b;obtain⟨w,b⟩:∃ w,h.rel.length=w:=⟨_,rfl⟩;rw [b] at m hl;have r:=H b;clear b;go_wp2;go_loopw [65] (λi R=>∃ k:Nat,k<=w/\i=I k/\Hid (∀ j,j<k->h.rel[j]?≠some p)/\Hid (D W R)) (λi _=>w-(intOf i).toNat);(case atStart=>exact ⟨0,FH _,rfl,H (λj y=>Z),c⟩);case round =>
    obtain⟨k,a1,rfl,Y,n⟩:=hrel;clear c m;by_cases K:k<w
    ·obtain⟨b,M⟩:∃ b,h.rel[k]?=some b:=⟨_,Fy (by rw [r.out];exact K)⟩;obtain⟨G2,rfl⟩:=cr (X.out▸g.rl) (by rw [r.out];omega);have T:=ad n (bC (X.out▸g.rl) k (U b) (by simp [Us,M]));by_cases ha:b=p
     ·have t:=H (show fE h p=(-1,-1,4) by
       unfold fE;rw [q.out];dsimp only;rw [G.out];dsimp only;rw [GP (by rw [List.contains_eq_mem,Hj];exact ha▸FM M)])
      subst ha;go_wp2;refine GX (cZ dU _ _) dU ?_;rw [t.out];exact⟨rfl,n⟩
     have s:(((b:Nat):Int)==(p:Int))=false:=bG;have F3:=H (show ∀ j,j<k+1->h.rel[j]?≠some p from λj y=>by
      by_cases e:j=k;·subst e;rw [M];simpa using ha
      exact Y j Z)
     clear M;go_wp2;go_roundw;(case rel=>exact ⟨k+1,Z,aY,F3,n⟩);case measure=>simp [intOf];omega
    obtain rfl:k=w:=Z;have t:=H (show fE h p=(-1,-1,3) by
     unfold fE;rw [q.out];dsimp only;rw [G.out];dsimp only;rw [GO (by
      rw [List.contains_eq_mem,Hj];intro M;obtain⟨i,b⟩:=He M;exact Y.out i (by rw [<-r.out];exact (Fz.1 b).1) b)])
    go_wp2;refine GX (cZ dU _ _) dU ?_;rw [t.out];exact⟨rfl,n⟩
def DD:List (Nat×Nat×Nat)->Bool
 | a::b::r=>decide (bh a.1 a.2.1 a.2.2<bh b.1 b.2.1 b.2.2)&&DD (b::r)
 | _=>true
theorem zA:DD dF=true:=by decide +kernel
theorem qZ:∀ (l:List (Nat×Nat×Nat)) (k:Nat) (a b:Nat×Nat×Nat),DD l=true->l[k]?=some a->l[k+1]?=some b->bh a.1 a.2.1 a.2.2<bh b.1 b.2.1 b.2.2
 | [],k,a,b,_,h,_=>by simp at h
 | [y],k,a,b,_,_,h=>by simp at h
 | y::z::r,0,a,b,c,d,e=>by
  simp [DD] at c d e
  subst d e
  exact c.1
 | y::z::r,k+1,a,b,c,d,e=>by
  simp only [DD,Gi] at c
  exact qZ (z::r) k a b c.2 (by simpa using d) (by simpa using e)
theorem wu (h:k+1<1062):gt k<gt (k+1):=qZ dF k (sA k) (sA (k+1)) zA (gR Z) (gR h)
theorem mS {i:Nat} : ∀ {k:Nat},i<k->k<1062->gt i<gt k
 | 0,h,_=>by omega
 | k+1,h,a=>by
  have b:=wu a
  by_cases e:i=k
  ·subst e;exact b
  have:=mS (i:=i) (k:=k) Z Z
  omega
theorem v_ {i:Nat} (b:i<1062) (c:k<1062) (h:sA i=sA k):i=k:=by
 have e:gt i=gt k:=by unfold gt;rw [h]
 rcases Ie i k with a|a|a;·have:=mS a c;omega
 ·exact a
 have:=mS a b;omega
theorem pw {s j:Nat} (d:c<12) (e:s<6) (f:j<aM c):∃ k,k<1062/\sA k=(c,s,j):=by
 have g:(c,s,j)∈dF:=by
  unfold dF;simp only [List.mem_flatMap,Gh,FQ];exact⟨c,d,s,e,j,f,rfl⟩
 obtain⟨k,a⟩:=He g;have b:=(Fz.1 a).1;rw [fG] at b;refine⟨k,b,?_⟩;unfold sA;rw [a];rfl
theorem mj (b:k<1062):(sA k).1<12/\(sA k).2.1<6/\(sA k).2.2<aM (sA k).1:=by
 have a:sA k∈dF:=FM (gR b);unfold dF at a;simp only [List.mem_flatMap,Gh,FQ] at a;obtain⟨c,d,s,f,j,g,e⟩:=a;rw [<-e];exact⟨d,f,g⟩
theorem rK {i:Nat} {v:Int} (a:k<1062) (b:i<1062):aE h.st (sA k).1 (sA k).2.1 (sA k).2.2 v (sA i).1 (sA i).2.1 (sA i).2.2=if i=k then v else dC h i:=by
 unfold aE dC;by_cases e:i=k;·subst e;simp
 rw [GO e,GO];rintro⟨h1,h2,h3⟩;exact e (v_ b a (by rw [Prod.ext_iff,Prod.ext_iff];exact⟨h1,h2,h3⟩))
def sC (h:Hs) (t:Nat×Nat×Nat):List Value:=[I t.1,I t.2.1,I t.2.2,U (bh t.1 t.2.1 t.2.2:Nat),I (h.st t.1 t.2.1 t.2.2),I (h.rq t.1 t.2.1 t.2.2)]
theorem ey (h):(ji h).length=6372:=by
 have b:∀ l:List (Nat×Nat×Nat),(l.flatMap (sC h)).length=l.length*6:=λl=>by
  induction l with
  | nil=>rfl
  | cons a r c=>rw [If,FC,c,FN];show 6+_=_;omega
 have:=b dF;rw [fG] at this;exact this
theorem kg (h) {q r:Nat} (a:q<1062) (b:r<6):(ji h)[q*6+r]?=(sC h (sA q))[r]?:=eC (sC h) 6 (λ_=>rfl) dF q (sA q) (gR a) r b
theorem nL (b:xs.length=6372) (a:∀ q r,q<1062->r<6->xs[q*6+r]?=(sC h (sA q))[r]?):ji h=xs:=by
 apply Ho;intro i;by_cases c:i<6372
 ·have e:i=i/6*6+i%6:=Z;rw [e,kg h Z Z,a _ _ Z Z]
 rw [FJ (by rw [ey];omega),FJ Z]
theorem wI (h:Hs) (c:k<1062) (v:Int):ji { h with st:=aE h.st (sA k).1 (sA k).2.1 (sA k).2.2 v }=(ji h).set (k*6+4) (I v):=by
 refine nL (by rw [Gj,ey]) (λq r b d=>?_);rw [Gr,kg h b d,ey];have a:=rK (h:=h) (v:=v) c b;by_cases e:k*6+4=q*6+r
 ·have f:q=k:=Z;have g:r=4:=Z;subst f g;rw [GP rfl,GP Z];rw [GP rfl] at a;simp only [sC];rw [a];rfl
 rw [GO e];by_cases f:r=4;·subst f;rw [GO (show q≠k by omega)] at a;simp only [sC];rw [a];rfl
 have:r=0\/r=1\/r=2\/r=3\/r=5:=Z;rcases this with rfl|rfl|rfl|rfl|rfl <;> rfl
theorem wW (h:Hs) (c:k<1062) (v:Int):ji { h with rq:=aE h.rq (sA k).1 (sA k).2.1 (sA k).2.2 v }=(ji h).set (k*6+5) (I v):=by
 refine nL (by rw [Gj,ey]) (λq r b d=>?_);rw [Gr,kg h b d,ey];have a:=rK (h:={ h with st:=h.rq }) (v:=v) c b;dsimp only at a;by_cases e:k*6+5=q*6+r
 ·have f:q=k:=Z;have g:r=5:=Z;subst f g;rw [GP rfl,GP Z];rw [GP rfl] at a;simp only [sC];rw [a];rfl
 rw [GO e];by_cases f:r=5;·subst f;rw [GO (show q≠k by omega)] at a;simp only [sC];rw [a];rfl
 have:r=0\/r=1\/r=2\/r=3\/r=4:=Z;rcases this with rfl|rfl|rfl|rfl|rfl <;> rfl
theorem dP {sz:Nat} {G} (h:W.ownsRow B e sz (Vl G n cap) n xs) (i:Nat) (m:i<xs.length) (v:Value):(W.setCell ⟨G,i,none⟩ v).ownsRow B e sz (Vl G n cap) n (xs.set i v):=by
 refine⟨by rw [Gj];exact h.1,?_⟩;rcases h.2 with ⟨e,_⟩|⟨g,b,a,e,c,d,f,j,k,l⟩;·simp at e
 simp at e;obtain⟨rfl,rfl⟩:=e;refine .inr ⟨G,cap,a.setIfInBounds i v,rfl,c,?_,f,j,by simpa using k,?_⟩;·simp [World.setCell,FD,d]
 rw [<-l,Array.toList_setIfInBounds,List.take_set]
theorem di {sz:Nat} {G} (h:W.ownsRow B e sz (Vl G n cap) n xs):∃ c,W.heap[G]?=some (.cells c e):=by
 rcases h.2 with ⟨e,_⟩|⟨g,b,a,e,f,d,_⟩;·simp at e
 simp at e;obtain⟨rfl,rfl⟩:=e;exact⟨a,d⟩
theorem Sh.slots {h'} (a:Sh B x cf h W) (k:Ky (· = 126) W W') (b:W'.ownsRow B 126 6 (Vl x.G 1062 x.gc) 1062 (ji h')) (e:h'.m=h.m) (f:h'.mx=h.mx) (i:h'.ff=h.ff) (j:h'.rg=h.rg) (l:h'.row=h.row) (m:h'.rel=h.rel) (n:h'.used=h.used):Sh B x cf h' W':=by
 refine⟨?_,a.bp,a.bq,λg o=>a.bg g (cV (a.sp.qEq k ar) o),a.ds.ky k ar,?_,b,ai a.wt k ar,λc d=>?_,?_,?_,?_⟩;·rw [n];exact k.cells _ _ _ _ a.box ar
 ·rw [e];exact a.sp.ky k ar ar ar
 ·rw [f,i];exact⟨(a.wm c d).1.ky k ar,(a.wm c d).2.ky k ar⟩
 ·rw [j];exact ai a.rg k ar
 ·rw [l];exact ai a.ro k ar
 rw [m];exact ai a.rl k ar
theorem Sh.setSt (a:Sh B x cf h W) (b:k<1062) (v:Int):Sh B x cf { h with st:=aE h.st (sA k).1 (sA k).2.1 (sA k).2.2 v } (W.setCell ⟨x.G,k*6+4,none⟩ (I v)):=by
 obtain⟨c,d⟩:=di a.sl;refine a.slots (Ky.grown d rfl (au (al W x.G) _ _)) ?_ rfl rfl rfl rfl rfl rfl rfl;rw [wI h b];exact dP a.sl _ (by rw [ey];omega) _
theorem Sh.setRq (a:Sh B x cf h W) (b:k<1062) (v:Int):Sh B x cf { h with rq:=aE h.rq (sA k).1 (sA k).2.1 (sA k).2.2 v } (W.setCell ⟨x.G,k*6+5,none⟩ (I v)):=by
 obtain⟨c,d⟩:=di a.sl;refine a.slots (Ky.grown d rfl (au (al W x.G) _ _)) ?_ rfl rfl rfl rfl rfl rfl rfl;rw [wW h b];exact dP a.sl _ (by rw [ey];omega) _
theorem Sh.slotF (a:Sh B x cf h W) (i:Nat):W.frozen? ⟨x.G,i,none⟩=false:=by
 obtain⟨c,b⟩:=di a.sl;simp [World.frozen?,b]
theorem Sf.ky {T Q} (b:Sf Q W W') (e:Sx T Q n bud m W):Ky (λt=>t=204\/t=5) W W':=by
 refine⟨b.os,b.tape,b.output,b.size,λg c t f d i=>?_⟩;rw [b.block g (ag d) ?_ (λj=>?_)];·exact d
 ·rintro rfl;obtain⟨k,a,_⟩:=e.row;rw [d] at a;simp at a;exact i (.inl a.2.1)
 obtain⟨k,a⟩:=e.pgT j;rw [d] at a;simp at a;exact i (.inr a.2.1)
theorem Sh.space (a:Sh B x cf h W) (j:B<=W.heap.size) (m') (f:Sx x.T x.Q 283 (cf.bud:Nat) m' W') (b:Sf x.Q W W'):Sh B x cf { h with m:=m' } W':=by
 have k:=b.ky a.sp;refine⟨k.cells _ _ _ _ a.box ar,a.bp,a.bq,λg i=>?_,a.ds.ky k ar,f,ai a.sl k ar,ai a.wt k ar,λc d=>⟨(a.wm c d).1.ky k ar,(a.wm c d).2.ky k ar⟩,ai a.rg k ar,ai a.ro k ar,ai a.rl k ar⟩;rcases b.pg g i with e|e;·exact a.bg g e
 omega
end
end Go.Proofs.YtibblbenmpcplaaGreatDoor
