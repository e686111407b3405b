import Derived.Test.YtdngbppdomoenaaGreatDoorN32
set_option linter.unusedVariables false
set_option linter.unusedSimpArgs false
set_option maxRecDepth 20000
set_option maxHeartbeats 8000000
namespace Go.Proofs.YtdngbppdomoenaaGreatDoor
open Go.Proofs.Tryz
variable {cf:Cf} {h:Hs} {c j k s:Nat}
section
open Go.RowKit Go.Maps
theorem zk {m:Nat->Option (Bool×List Int)} {p:Nat} (x) {q:Bool×List Int} (h:m (p/1024)=some q) (a:q.2.length=1024):be (dX m p x) p=x:=by
 unfold be dX;rw [bL,h];simp only [GW,Hb];rw [List.getElem?_set_self Z];rfl
theorem km {m} (h:Fine m) (a ys):∀ k,Fine (ax m a ys k)
 | 0=>h
 | k+1=>(km h a ys k).put _ _
theorem wW {o:Option (Bool×List Int)} (h:isOpen o=true):∃ q,o=some q:=by
 cases o with
 | none=>simp [isOpen] at h
 | some q=>exact ⟨q,rfl⟩
theorem ol {m} (h:Fine m) (a:Nat) (ys):∀ k i,i<k->isOpen (m ((a+i)/1024))=true->be (ax m a ys k) (a+i)=ys[i]?.getD 0
 | 0,i,f,_=>by omega
 | k+1,i,f,b=>by
  simp only [ax]
  by_cases e:i=k
  ·subst e
   have c:=ez m a ys i ((a+i)/1024)
   rw [b] at c
   obtain⟨q,d⟩:=wW c
   exact zk _ d ((km h a ys i) _ _ d).2
  ·rw [n_ _ _ _ _ Z]
   exact ol h a ys k i Z b
theorem Inv.num9 (i:Inv cf h) (a:c<12) {v:Int} (b:v∈nh h c):0<=v/\v.toNat/aM c<6/\v.toNat%aM c<aM c/\((v.toNat/aM c*aM c+v.toNat%aM c:Nat):Int)=v/\h.st c (v.toNat/aM c) (v.toNat%aM c)=2:=by
 have k:=bd a;have g:0<=v:=by
  rw [oQ] at b;unfold nq at b;obtain⟨e,f⟩:=F_.1 b;simp at f;rcases FM.1 e with d|d;·have:=i.mxn c a v d;omega
  ·exact i.ffn c a v d
 have j:=i.wlt c a v b;have d:v.toNat/aM c<6:=Nat.div_lt_of_lt_mul (by rw [Gq];omega);have e:v.toNat%aM c<aM c:=Nat.mod_lt _ Z;have f:((v.toNat/aM c*aM c+v.toNat%aM c:Nat):Int)=v:=by
  rw [Nat.div_add_mod'];omega
 refine⟨g,d,e,f,?_⟩;rw [i.wait c _ _ a d e,f];exact b
theorem zt {i:Nat} (a:c<12) (b:s<6) (d:j<aM c) (e:i<bX c):aB c s<=(aX c s j+i)/1024/\(aX c s j+i)/1024<aB c s+dH c:=by
 have f:=cI a b d;have g:aB c s*1024<=aX c s j:=by unfold aX;omega
 omega
theorem uC (m) {p a:Nat} (h:¬(p<=a/1024/\a/1024<p+k)):be (bI m p k) a=be m a:=by
 unfold be;rw [dC,Gu h]
theorem xR {i a:Nat} (b:c<12) (e:s<6) (g:j<aM c) (k:i<bX c) (d:a<6) (f:s≠a):¬(aB c a<=(aX c s j+i)/1024/\(aX c s j+i)/1024<aB c a+dH c):=by
 have l:=zt b e g k;have m:=dP b e b d (λe=>f e.2);omega
theorem sO (i:Inv cf h) (o:1<=cf.fifo) (g:c<12) (z:s<6) (r:j<aM c) (B:h.st c s j=1) :
  ∃ a b v,a<6/\b<aM c/\aE h.st c s j 2 c a b=2/\(v=2\/v=3)/\(aL cf h c s j).st=aE (aE h.st c s j 2) c a b v/\(aL cf h c s j).rg=h.rg /\
   ((aL cf h c s j).m=ax h.m (aX c s j) (List.replicate (bX c) 0) (bX c)\/((aL cf h c s j).m=bI (ax h.m (aX c s j) (List.replicate (bX c) 0) (bX c)) (aB c a) (dH c)/\∀ k,k<aM c->aZ ((aL cf h c s j).st c a k)=true)):=by
 have L:=bd g;obtain⟨M,N,O,P,F⟩:=rD (d:=((if cf.mix=0 then 0 else dr cf h cf.mix:Nat):Int)) (x:=((s*aM c+j:Nat):Int)) o (i.ffl c g) Z (i.ffn c g) (i.mxn c g);rw [dQ];rcases i.freed o g z r B with ⟨e,_⟩|⟨a,b,e,l,m,t,u,_,_⟩
 ·rw [Gv e];refine⟨s,j,2,z,r,aO _ _ _ _ _,.inl rfl,?_,rfl,.inl rfl⟩;rw [gB (aE h.st c s j 2) (aO _ _ _ _ _)];rfl
 ·rw [Gu Z,l,m];have w:eB cf h c s j∈((s*aM c+j:Nat):Int)::nh h c:=by
   rcases F with ⟨G,_⟩|⟨_,K⟩;·exact absurd G (by unfold eB at e;omega)
   ·rw [oQ];exact K.mem_iff.2 (List.mem_cons_self ..)
  have p:aE h.st c s j 2 c a b=2:=by
   rcases FG.1 w with q|q
   ·rw [q] at l m;have:=pc (n:=aM c) (s:=s) r;rw [FD] at l m;rw [this.1] at l;rw [this.2] at m;rw [<-l,<-m,aO]
   ·obtain⟨_,_,_,_,A⟩:=i.num9 g q;rw [l,m] at A;by_cases y:c=c/\a=s/\b=j;·rw [y.2.1,y.2.2,aO]
    ·rw [a_ _ _ y];exact A
  refine⟨a,b,3,t,u,p,.inr rfl,?_,?_,?_⟩
  ·unfold bO;dsimp only;split <;> rfl
  ·unfold bO;dsimp only;split <;> rfl
  ·unfold bO;dsimp only;split
   ·rename_i f;exact .inr ⟨rfl,jW.1 f⟩
   ·exact .inl rfl
theorem tx {n:Nat} {a:List Int} {y x:Int} (b:1<=n) (c:a.length<=n) (d:0<=x) (h:x∉a):(cQ n a y).2≠x:=by
 unfold cQ;cases a with
 | nil=>simp;split <;> simp <;> omega
 | cons z r =>
  have:x≠z:=λe=>h (by rw [e];exact List.mem_cons_self ..)
  simp;split <;> simp <;> omega
theorem zT {n:Nat} {g a:List Int} {x d:Int} (b:1<=n) (c:a.length<=n) (e:0<=x) (f:x∉a):(er n g a x d).2.2≠x:=by
 unfold er;split;·exact tx b c e f
 ·split;·show (-1:Int)≠x;omega
  ·exact tx b c e f
theorem wh (i:Inv cf h) (d:1<=cf.fifo) (f:c<12) (n:s<6) (o:j<aM c) (r:h.st c s j=1):(aL cf h c s j).st c s j=2:=by
 have t:((s*aM c+j:Nat):Int)∉nh h c:=λg=>by
  have:=(i.wait c s j f n o).2 g;omega
 have k:((s*aM c+j:Nat):Int)∉h.ff c:=λg=>t (by
  rw [oQ];unfold nq;rw [F_];exact⟨List.mem_append_right _ g,GJ (λe=>by have a:=Int.natCast_nonneg (s*aM c+j);rw [e] at a;exact absurd a av)⟩)
 have u:eB cf h c s j≠((s*aM c+j:Nat):Int):=zT d (i.ffl c f) (Int.natCast_nonneg _) k;rw [dQ];rcases i.freed d f n o r with ⟨e,_⟩|⟨l,m,e,p,q,v,w,_,_⟩
 ·rw [Gv e];exact aO _ _ _ _ _
 ·rw [Gu Z,p,q];have:¬(c=c/\s=l/\j=m):=λ⟨_,a,b⟩=>by
   have:=Nat.div_add_mod (eB cf h c s j).toNat (aM c);rw [p,q,<-a,<-b,Gq] at this;omega
  have x:(bO (bQ cf h c s j) c l m).st=aE (bQ cf h c s j).st c l m 3:=by
   unfold bO;dsimp only;split <;> rfl
  rw [x,a_ _ _ this];exact aO _ _ _ _ _
theorem vI (i:Inv cf h) (l:1<=cf.fifo) (b:c<12) (f:s<6) (g:j<aM c) (q:h.st c s j=1) :
  dy (aL cf h c s j) c s=true/\∀ k,k<bX c->be (aL cf h c s j).m (aX c s j+k)=0:=by
 have u:=wh i l b f g q;have m:dy h c s=true:=by
  cases a:dy h c s with
  | true=>rfl
  | false=>have:=i.off c s b f a j g;rw [q] at this;simp [aZ] at this
 have r:∀ k,k<bX c->be (ax h.m (aX c s j) (List.replicate (bX c) 0) (bX c)) (aX c s j+k)=0:=λk a=>by
  rw [ol i.fine _ _ _ _ a (i.openS b f g m a)];simp [a]
 have t:(ax h.m (aX c s j) (List.replicate (bX c) 0) (bX c) (aB c s)).isSome=true:=by
  rw [cX];exact m
 obtain⟨w,y,v,n,x,_,_,z,_,d⟩:=sO i l b f g q;rcases d with d|⟨d,o⟩;·exact⟨by unfold dy;rw [d];exact t,λk a=>by rw [d];exact r k a⟩
 ·have p:s≠w:=λe=>by
   have:=o j g;rw [<-e,u] at this;simp [aZ] at this
  refine⟨?_,λk a=>?_⟩
  ·unfold dy;rw [d,dC,Gu];·exact t
   ·have:=dP b f b n (λe=>p e.2);omega
  ·rw [d,uC _ (xR b f g a n p)];exact r k a
theorem vh (i:Inv cf h) (a:1<=cf.fifo) (d:c<12) (e:s<6) (f:j<aM c) (g:h.st c s j=1) :
  b_ (aL cf h c s j).m (aX c s j) ((bX c:Nat):Int)=0/\aI (aL cf h c s j).m (aX c s j) (bX c)=List.replicate (bX c) 0:=by
 obtain⟨l,m⟩:=vI i a d e f g;refine⟨(i.fSlot a d e f g).accL d e f l,?_⟩;apply G9;intro k;by_cases b:k<bX c
 ·rw [show (aI (aL cf h c s j).m (aX c s j) (bX c))[k]?=some (be (aL cf h c s j).m (aX c s j+k)) by simp [aI,b],m k b];simp [b]
 ·simp [aI,b]
theorem qX (cf):∀ (l r:List iG) (h:Hs) (a:List An4),bh cf (l++r) h a=bh cf r (bh cf l h a).1 (bh cf l h a).2
 | [],r,h,a=>rfl
 | o::l,r,h,a=>qX cf l r _ _
theorem nG (cf):∀ (r:List iG) (h:Hs) (a:List An4),(bh cf r h a).2.take a.length=a
 | [],h,a=>GK
 | o::r,h,a=>by
  show (bh cf r _ _).2.take a.length=a
  have:=nG cf r (ce cf h a o).2 (a++[(ce cf h a o).1])
  have b:=congrArg (List.take a.length) this
  rw [List.take_take,Fo,Hh Z,Ih (Fe _),GK] at b
  exact b
theorem mY (cf) (a:List iG) (i:Nat) (b:i<=a.length):(bh cf a (aS cf) []).2.take i=(bh cf (a.take i) (aS cf) []).2:=by
 have e:=qX cf (a.take i) (a.drop i) (aS cf) [];rw [List.take_append_drop] at e;have:=nG cf (a.drop i) (bh cf (a.take i) (aS cf) []).1 (bh cf (a.take i) (aS cf) []).2;rw [<-e,fL,G0,Hh b] at this;simpa using this
theorem w_ (cf:Cf) (g:1<=cf.fifo) (b:List iG) (i:Nat) (o:iG) (u:b[i]?=some o) (A:o.kd=3) (a:An4) (ha:(bh cf b (aS cf) []).2[i]?=some a) (f:a.code=0) :
  (∃ c s j,c<12/\s<6/\j<aM c/\pQ o ((bh cf b (aS cf) []).2.take i)=aX c s j/\(bh cf (b.take (i+1)++[⟨5,0,aX c s j,bX c,0,[]⟩]) (aS cf) []).2=(bh cf b (aS cf) []).2.take (i+1)++[⟨0,0,0,List.replicate (bX c) 0⟩]) \/
  (∃ k,187<=k/\k<283/\pQ o ((bh cf b (aS cf) []).2.take i)=k*1024):=by
 have M:=(Fl.1 u).1;have v:b.take (i+1)=b.take i++[o]:=by rw [FN,u];rfl
 rw [mY cf b (i+1) Z,mY cf b i Z,v];have d:(ce cf (bh cf (b.take i) (aS cf) []).1 (bh cf (b.take i) (aS cf) []).2 o).1=a:=by
  have e:=mY cf b (i+1) Z;rw [v,gF] at e;have m:=congrArg (λl=>l[i]?) e;have w:(bh cf (b.take i) (aS cf) []).2.length=i:=by rw [fL,G0,Hh Z];simp
  simp only [Ge,ha] at m;rw [Gv Z,Gn Z,w,Nat.sub_self] at m;simpa using m.symm
 have x:=(jl cf g (b.take i) (aS cf) [] 0 (Inv.new cf) ⟨Fe _,Fe _,Fe _,Fe _⟩).1;have w:(bh cf (b.take i) (aS cf) []).2.length=i:=by rw [fL,G0,Hh Z];simp
 simp only [gF];generalize (bh cf (b.take i) (aS cf) []).1=h at *;generalize (bh cf (b.take i) (aS cf) []).2=e at *;have B:ce cf h e o=dF cf h o (pQ o e):=by
  unfold ce pQ;by_cases m:o.ref=0;·rw [Gv m,Gu Z]
  ·rw [Gu m];by_cases l:o.ref<0\/(e.length:Int)<o.ref
   ·rw [Gv l];exfalso;unfold ce at d;rw [Gu m,Gv l] at d;rw [<-d] at f;exact absurd (show (6:Int)=0 from f) av
   ·rw [Gu l,Gv Z]
 rw [B] at d ⊢;have F:dF cf h o (pQ o e)=match aP h (pQ o e) with
  | .no code=>(.no code,h)
  | .slot c s j=>if sound cf h c s j=false then (.no 5,h) else (.no 0,aL cf h c s j)
  | .range r=>(.no 0,aW cf h r):=by
  unfold dF
  simp only [A]
  rfl
 rw [F] at d ⊢;have G:=ed h (pQ o e);generalize aP h (pQ o e)=N at *;generalize pQ o e=p at *;cases G with
 | slot c s j n y z q t =>
  dsimp only at d ⊢;by_cases l:sound cf h c s j=false
  ·rw [Gv l] at d;rw [<-d] at f;exact absurd (show (5:Int)=0 from f) av
  ·rw [Gu l] at d ⊢;refine .inl ⟨c,s,j,n,y,z,q.symm,?_⟩;obtain⟨K,L⟩:=vh x g n y z t;have O:=bd n;dsimp only;congr 1;unfold ce;rw [Gv rfl];unfold dF;simp only [show ((5:Int)=0)=False by simp,show ((5:Int)=1)=False by simp,show ((5:Int)=2)=False by simp,show ((5:Int)=3)=False by simp,show ((5:Int)=4)=False by simp,Iu,Iv];rw [Gu Z,K,Gv rfl,L]
 | range r l q m =>
  have:=x.rgs r l;refine .inr ⟨r.first+r.guards,Z,by unfold Rg9.ext at this;omega,?_⟩;rw [<-q];rfl
 | no code n =>
  dsimp only at d;rw [<-d] at f;have f:code=0:=f;omega
theorem vH {v:Value} (b:187<=k) (c:k<283) (a:Dec ((k*1024:Nat):Int) v):∃ p o:Int,v=pl 4 0 0 0 p o :=
 ⟨_,_,Dec.one a (.large _ Z Z)⟩
theorem ux {v:Value} (f:c<12) (g:s<6) (i:j<aM c) (l:Dec ((aX c s j:Nat):Int) v):v=pl 3 (c:Nat) (s:Nat) (j:Nat) 0 0:=by
 rcases wP l with ⟨r,t,u,b,d,e,m,n⟩|⟨k,_⟩
 ·have a:=gS f g i;rw [m,gS b d e] at a;injection a with a;injection a with o a;injection a with p q;rw [n,o,p,q]
 ·rw [gS f g i] at k;cases k
theorem AO (c:Nat) (W:World) (d:c<12):Calls prog 21 #[.int .i64 c] W λe a=>e=.returned (.int .i64 (bX c:Nat))/\D W a:=by
 refine (cJ (c:Int) W).mono ?_;rintro e a ⟨rfl,b⟩;exact⟨cP (se d),b⟩
end
section
open Go.ChangeShapes Go.WideShapes Go.ChangeAt Go.RowKit
theorem kP (h:k<12):rs (k:Int)=eV k:=by rw [jx ⟨Z,Z⟩];rfl
theorem nr (a:Int) (k:0<=a) (l:a<=18446744073709551615) (c:191488<=a) (w:World) :
  Calls prog 20 #[.int .u64 a] w λe m=>(∃ v,Dec a v/\e=.returned v)/\D w m:=by
 have d:=H (Rt.first w);have n:=H eo;have f:=H ek;unfold z6 at *;go_enter func20,ntmps20;go_wp2_with fail;generalize w.alloc (Obj.cells #[Value.int IntKind.i64 0,Value.int IntKind.i64 0,Value.int IntKind.i64 0,Value.int IntKind.i64 0,Value.int IntKind.i64 0,Value.int IntKind.i64 0] 58)=v at d ⊢;generalize w.heap.size=g at d ⊢;refine (n _).mono ?_;rintro e p ⟨rfl,i⟩;have b:=H (d.below i);clear i d;by_cases o:289792<=a
 ·have d:=H b.done;have i:=H b.row;have j:=H b.blk;clear b;go_wp2_with (refine FK rfl 58 _ _ rfl g _ rfl rfl 58 z6 j E rfl jv ?_);refine fp (i _) underlying58 ?_;exact⟨⟨_,.out a o,rfl⟩,d _⟩
 ·have q:187<=a/1024:=Z;go_wp2_with fail;refine (f _).mono ?_;rintro e r ⟨rfl,d⟩;have i:=H (b.below d);clear d b;go_wp2_with fail;refine (f _).mono ?_;rintro e s ⟨rfl,j⟩;have d:=H (i.below j);clear j i;go_wp2_with (refine FK rfl 58 _ _ rfl g _ rfl rfl 58 z6 d.blk E rfl jv ?_);refine fp (d.row _) underlying58 ?_;exact⟨⟨_,.large a c Z,rfl⟩,d.done _⟩
theorem mR (a:Int) (a0:0<=a) (hn:a<191488) (w:World) :
  Calls prog 20 #[.int .u64 a] w λe w'=>(∃ v,Dec a v/\e=.returned v)/\D w w':=by
 have b:=H (Rt.first w);have d:=H eo;have f:=H ek;have I4:=H iw;have IG:=H dW;have IZ:=H cJ;have IN:=H fC;unfold z6 at *;go_enter func20,ntmps20;go_wp2_with fail;generalize w.alloc (Obj.cells #[Value.int IntKind.i64 0,Value.int IntKind.i64 0,Value.int IntKind.i64 0,Value.int IntKind.i64 0,Value.int IntKind.i64 0,Value.int IntKind.i64 0] 58)=v at b ⊢;generalize w.heap.size=g at b ⊢;refine (d _).mono ?_;rintro e w2 ⟨rfl,i⟩;have l:=H (b.below i);clear i b d;have t2:a/1024<187:=Z;go_wp2_with fail;refine (f _).mono ?_;rintro e w3 ⟨rfl,b⟩;have R3:=H (l.below b);clear b l f;go_wp2;have b:decide (289792<=a)=false:=Gy Z;have d:decide (187<=a/1024)=false:=Gy Z;simp only [b,d];clear b d;go_loopw [5] (λc wr=>∃ k:Nat,k<=12/\c=.int .i64 k/\(1024<=a->eV k<=a/1024)/\Hid (Rt w g wr)) (λc _=>12-(intOf c).toNat);case atStart=>exact ⟨0,Z,rfl,λh=>by simp only [eV];omega,R3⟩
 case round =>
  obtain⟨k,hk,rfl,o,T⟩:=hrel;by_cases f:k<12
  ·have HK:=H o;clear o;obtain⟨wo,rfl⟩:∃ wo:World,wo=wr:=⟨_,rfl⟩;go_wp2;have a5:=fx (c:=(k:Int)) ⟨Z,Z⟩;have a6:=gX k;have q:=H (λ(s:Int) (b : -1000<=s) (d:s<=1000) W=>I4.out (k:Int) s b d W);rw [kP f] at q;have b:decide ((k:Int)<12)=true:=GJ Z;simp only [b];clear b;go_loopw [6] (λs wr=>∃ j:Nat,j<=6/\s=.int .i64 j/\(1024<=a->eV k+j*(pg (k:Int)+1)<=a/1024)/\Hid (Rt w g wr)) (λs _=>6-(intOf s).toNat);(case atStart=>exact ⟨0,Z,rfl,λh=>by have:=HK.out h;omega,T⟩);case round =>
    obtain⟨j,hj,rfl,t,i⟩:=hrel;by_cases a4:j<6
    ·have hm:0<=(j:Int)*(pg (k:Int)+1)/\(j:Int)*(pg (k:Int)+1)<=25:=by
      have:pg (k:Int)=1\/pg (k:Int)=2\/pg (k:Int)=3\/pg (k:Int)=4:=Z;rcases this with e|e|e|e <;> rw [e] <;> omega
     have A:((j+1:Nat):Int)*(pg (k:Int)+1)=(j:Int)*(pg (k:Int)+1)+pg (k:Int)+1:=by
      have:pg (k:Int)=1\/pg (k:Int)=2\/pg (k:Int)=3\/pg (k:Int)=4:=Z;rcases this with e|e|e|e <;> rw [e] <;> omega
     by_cases hz:a<1024
     ·go_wp2_with fail;refine (q _ Z Z _).mono ?_;rintro e w5 ⟨rfl,F⟩;have V:=H (i.below F);clear F i t A;generalize (j:Int)*(pg (k:Int)+1)=m at hm;generalize eV k=r at *;have b:a/1024<r+m:=Z;go_wp2;go_roundw;(case rel=>exact ⟨j+1,Z,aY,λh=>Z,V⟩);case measure=>simp [intOf];omega
     ·have K:=t Z;go_wp2_with fail;refine (q _ Z Z _).mono ?_;rintro e w5 ⟨rfl,F⟩;have V:=H (i.below F);clear F i t;have HD:=H (λ(h:a/1024<=eV k+(j:Int)*(pg (k:Int)+1)+pg (k:Int))=>Dec.slab a (k:Int) (j:Int) Z hn ⟨Z,Z,Z,Z,by rw [kP f];exact K,by rw [kP f];exact h⟩);rw [kP f] at HD;have L:=H (λW=>IG.out (k:Int) W);generalize hM:(j:Int)*(pg (k:Int)+1)=m at *;generalize M:eV k=r at *;generalize X:pg (k:Int)=p at *;go_wp2_with fail;refine (L _).mono ?_;rintro e w6 ⟨rfl,b⟩;have R6:=H (V.below b);clear b V;by_cases N:a/1024<=r+m+p
      ·have b:=H (HD N);clear HD;have x:=H (Two.first R6 #[.int .i64 1,.int .i64 (k:Int),.int .i64 (j:Int),.int .i64 0,.int .i64 0,.int .i64 0]);have z:0<=a-(r+m)*1024/\a-(r+m)*1024<5120:=Z;unfold z6 at x;go_wp2_with (refine eF (ao _ _) ?_;generalize World.setRow _ _ _=W6 at x ⊢);have hs:=eJ (c:=(k:Int)) ⟨Z,Z⟩;have l:=ja (c:=(k:Int)) ⟨Z,Z⟩;have O:0<=sl (k:Int)*sz (k:Int)/\sl (k:Int)*sz (k:Int)<=p*1024:=⟨Int.mul_nonneg Z Z,by rw [<-X];exact l.2.2.2⟩;have a1:4<=sl (k:Int)/\sl (k:Int)<=64:=⟨l.1,l.2.1⟩;have d:=H (show xo (k:Int) (j:Int) (a-(r+m)*1024)=(if p*1024<=a-(r+m)*1024 then pl 1 k j 0 0 0 else if sl (k:Int)*sz (k:Int)<=a-(r+m)*1024 then pl 2 k j 0 0 (a-(r+m)*1024-sl (k:Int)*sz (k:Int)) else pl 3 k j ((a-(r+m)*1024)/sz (k:Int)) 0 ((a-(r+m)*1024)%sz (k:Int))) from by unfold xo;rw [X]);rw [d.out] at b;have u:=H (λW=>IZ.out (k:Int) W);have B:=H (λW=>IN.out (k:Int) W);clear d l;generalize sz (k:Int)=s at hs O b u;generalize sl (k:Int)=l at O a1 b B;have n:l<=(a-(r+m)*1024)/s↔l*s<=a-(r+m)*1024:=Int.le_ediv_iff_mul_le Z;have a7:0<=(a-(r+m)*1024)/s/\(a-(r+m)*1024)/s<=5120:=⟨Int.ediv_nonneg z.1 Z,Int.le_trans (Int.ediv_le_self _ z.1) Z⟩;have a8:0<=(a-(r+m)*1024)%s/\(a-(r+m)*1024)%s<s:=⟨Ix _ Z,Ij _ Z⟩;clear A hM M X I4 IG IZ IN q;refine (u _).mono ?_;rintro e w7 ⟨rfl,y⟩;have d:=H (x.below y);clear y x R6;generalize w6.heap.size=G at d ⊢;go_wp2_with fail;refine (L _).mono ?_;rintro e w8 ⟨rfl,x⟩;have Y:=H (d.below x);clear x d;by_cases tg:p*1024<=a-(r+m)*1024
       ·have a2:(a/1024==r+m+p)=true:=bK;rw [Gv tg] at b;have d:=Y;clear Y n;go_wp2_with (first|(refine F8 rfl 58 _ rfl _ rfl _ _ _ _ d.row underlying58 rfl E ?_)|(refine FK rfl 58 _ _ rfl g _ rfl rfl 58 z6 d.rt.blk E rfl jv ?_));refine fp (d.rt.row _) underlying58 ?_;exact⟨⟨_,b,rfl⟩,d.rt.done _⟩
       ·have a2:(a/1024==r+m+p)=false:=bK;rw [Gu tg] at b;go_wp2_with fail;refine (B _).mono ?_;rintro e P ⟨rfl,x⟩;have d:=H (Y.below x);clear x Y;by_cases tt:l*s<=a-(r+m)*1024
        ·have a3:l<=(a-(r+m)*1024)/s:=n.2 tt;rw [Gv tt] at b;clear n;have c0:P.cell? ⟨G,0,none⟩=some (.int .i64 1):=d.cell 0;have f0:=d.free 0;have Q:=H (show Two w g G #[.int .i64 2,.int .i64 (k:Int),.int .i64 (j:Int),.int .i64 0,.int .i64 0,.int .i64 0] (P.setCell ⟨G,0,none⟩ (.int .i64 2)) from d.set 0 _);clear d;go_wp2_with fail;refine (B _).mono ?_;rintro e wA ⟨rfl,x⟩;have y:=H (Q.below x);clear x Q c0 f0;go_wp2_with fail;refine (u _).mono ?_;rintro e R ⟨rfl,S⟩;have x:=H (y.below S);clear S y;have c5:R.cell? ⟨G,5,none⟩=some (.int .i64 0):=x.cell 5;have f5:=x.free 5;have y:=H (show Two w g G #[.int .i64 2,.int .i64 (k:Int),.int .i64 (j:Int),.int .i64 0,.int .i64 0,.int .i64 (a-(r+m)*1024-l*s)] (R.setCell ⟨G,5,none⟩ (.int .i64 (a-(r+m)*1024-l*s))) from x.set 5 _);clear x;go_wp2_with (first|(refine F8 rfl 58 _ rfl _ rfl _ _ _ _ y.row underlying58 rfl E ?_)|(refine FK rfl 58 _ _ rfl g _ rfl rfl 58 z6 y.rt.blk E rfl jv ?_));refine fp (y.rt.row _) underlying58 ?_;exact⟨⟨_,b,rfl⟩,y.rt.done _⟩
        ·have a3:(a-(r+m)*1024)/s<l:=by
          apply Int.not_le.1;intro h;exact tt (n.1 h)
         rw [Gu tt] at b;clear n;have c0:P.cell? ⟨G,0,none⟩=some (.int .i64 1):=d.cell 0;have c3:P.cell? ⟨G,3,none⟩=some (.int .i64 0):=d.cell 3;have f0:=d.free 0;have f3:=d.free 3;have Q:=H (show Two w g G #[.int .i64 3,.int .i64 (k:Int),.int .i64 (j:Int),.int .i64 ((a-(r+m)*1024)/s),.int .i64 0,.int .i64 0] ((P.setCell ⟨G,0,none⟩ (.int .i64 3)).setCell ⟨G,3,none⟩ (.int .i64 ((a-(r+m)*1024)/s))) from (d.set 0 _).set 3 _);clear d;go_wp2_with fail;refine (u _).mono ?_;rintro e R ⟨rfl,S⟩;have x:=H (Q.below S);clear S Q c0 c3 f0 f3;have c5:R.cell? ⟨G,5,none⟩=some (.int .i64 0):=x.cell 5;have f5:=x.free 5;have y:=H (show Two w g G #[.int .i64 3,.int .i64 (k:Int),.int .i64 (j:Int),.int .i64 ((a-(r+m)*1024)/s),.int .i64 0,.int .i64 ((a-(r+m)*1024)%s)] (R.setCell ⟨G,5,none⟩ (.int .i64 ((a-(r+m)*1024)%s))) from x.set 5 _);clear x;go_wp2_with (first|(refine F8 rfl 58 _ rfl _ rfl _ _ _ _ y.row underlying58 rfl E ?_)|(refine FK rfl 58 _ _ rfl g _ rfl rfl 58 z6 y.rt.blk E rfl jv ?_));refine fp (y.rt.row _) underlying58 ?_;exact⟨⟨_,b,rfl⟩,y.rt.done _⟩
      ·go_wp2;go_roundw;case rel =>
        exact⟨j+1,Z,aY,λh=>by rw [M,X,A];omega,R6⟩
       case measure=>simp [intOf];omega
    ·have b:j=6:=Z;subst b;go_wp2;go_roundw;(case rel=>exact ⟨k+1,Z,aY,λh=>by have:=t h;rw [mD k f];omega,i⟩);case measure=>simp [intOf];omega
  ·have b:k=12:=Z;subst b;have hz:a<1024:=by
    apply Int.not_le.1;intro h;have:=o h;rw [mW] at this;omega
   clear o;go_wp2_with (refine FK rfl 58 _ _ rfl g _ rfl rfl 58 z6 T.blk E rfl jv ?_);refine fp (T.row _) underlying58 ?_;exact⟨⟨_,.zero a a0 hz,rfl⟩,T.done _⟩
theorem ox (a:Int) (b:0<=a) (c:a<=18446744073709551615) (w:World) :
  Calls prog 20 #[.int .u64 a] w λe d=>(∃ v,Dec a v/\e=.returned v)/\D w d:=by
 by_cases h:191488<=a;·exact nr a b c h w
 ·exact mR a b Z w
end
end Go.Proofs.YtdngbppdomoenaaGreatDoor
