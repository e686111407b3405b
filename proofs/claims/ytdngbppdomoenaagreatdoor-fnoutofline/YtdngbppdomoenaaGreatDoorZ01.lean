import Derived.Test.YtdngbppdomoenaaGreatDoorZ00
import Derived.Test.YtdngbppdomoenaaGreatDoorN45
set_option linter.unusedVariables false
set_option linter.unusedSimpArgs false
set_option maxRecDepth 20000
set_option maxHeartbeats 8000000
namespace Go.Proofs.YtdngbppdomoenaaGreatDoor
open Go.Proofs.Tryz
variable {Ub W W' w:World} {B c e n:Nat} {m0 m1 m2 m3 m4 m5 m6 m7 u v1 v2:Value} {zs:List Int} {cf:Cf} {h:Hs} {xs ys:List df}
section
open Go.RowKit Go.Shelf Go.Maps
theorem qF {k} (h:w.ownsRow B e 1 u n (Ns k zs)):Rd1 k w u zs:=by
 have b:zs.length=n:=by have:=h.1;rw [bv] at this;omega
 rcases h.2 with ⟨rfl,d⟩|⟨g,a,f,rfl,_⟩;·exact⟨none,0,by rw [b,d],λi c=>Z⟩
 refine⟨some ⟨g,0,none⟩,a,by rw [b],λi c=>⟨g,rfl,bC h i _ ?_⟩⟩;simp [Ns,c]
theorem yT {l} (h:w.ownsRow B e 1 u n (Us l)):Rd1 .u64 w u (l.map (λx:Nat=>(x:Int))):=by
 refine qF (B:=B) (e:=e) (n:=n) ?_;have a:Ns .u64 (l.map (λx:Nat=>(x:Int)))=Us l:=by simp [Ns,Us]
 rw [a];exact h
theorem qX {k g} (h:RowV w g e (Ns k zs)) (c):Rd1 k w (Vl g zs.length c) zs:=⟨_,_,rfl,λi a=>⟨g,rfl,jZ h i a⟩⟩
theorem gH {α:Type} (f:α->List Value) (sz:Nat) (a:∀ x,(f x).length=sz):∀ (l:List α) (k:Nat) (x:α),l[k]?=some x->((l.flatMap f).drop (k*sz)).take sz=f x
 | [],k,x,h=>by simp at h
 | y::r,0,x,h=>by
  simp at h
  subst h
  rw [If,Nat.zero_mul,IE,<-a y,List.take_left]
 | y::r,k+1,x,h=>by
  rw [If,show (k+1)*sz=(f y).length+k*sz by rw [a,Gy];omega,List.drop_append]
  simp only [Nat.add_sub_cancel_left,List.drop_eq_nil_of_le (Nat.le_add_right (f y).length (k*sz)),FV]
  exact gH f sz a r k x (by simpa using h)
theorem Bh {V vo} {a:List (Nat×Nat)} {vw} (c:a.length=12) (w:Wt9 cf h B vo a vw V) :
  ∃ b,Re V vw 12 3 b/\∀ k,k<12->∃ u1 u2,b k=[u1,u2,I cf.fifo]/\Rd1 .i64 V u1 (h.mx k)/\Rd1 .i64 V u2 (h.ff k):=by
 have b:=w.row;rw [c] at b;refine⟨_,oC b,λk f=>?_⟩;have e:a[k]?=some a[k]:=Fy Z;have d:a.zipIdx[k]?=some (a[k],k):=by rw [List.getElem?_zipIdx,e];simp
 exact⟨_,_,gH (λx:(Nat×Nat)×Nat=>E_ cf h x.2 x.1) 3 (λ_=>rfl) a.zipIdx k _ d,qX (w.at_ k _ e).1 _,qX (w.at_ k _ e).2.1 _⟩
theorem pY {α:Type} (f:α->Nat):∀ (c l2:List α),c.Perm l2->c.Pairwise (λa b=>f a<=f b)->l2.Pairwise (λa b=>f a<=f b)->(∀ a∈c,∀ b∈c,f a=f b->a=b)->c=l2
 | [],l2,h,_,_,_=>by rw [List.nil_perm] at h;exact h.symm
 | a::r,[],h,_,_,_=>by have:=h.length_eq;simp at this
 | a::r,b::s,h,j,k,d=>by
  have c:b∈a::r:=h.symm.subset (List.mem_cons_self ..)
  have ha:a∈b::s:=h.subset (List.mem_cons_self ..)
  have g:=List.pairwise_cons.1 j
  have i:=List.pairwise_cons.1 k
  have l:f a<=f b:=by
   rcases F4.1 c with rfl|c
   ·exact Fv _
   exact g.1 b c
  have m:f b<=f a:=by
   rcases F4.1 ha with rfl|ha
   ·exact Fv _
   exact i.1 a ha
  have e:a=b:=d a (List.mem_cons_self ..) b c (Nat.le_antisymm l m);subst e;rw [pY f r s (List.Perm.cons_inv h) g.2 i.2 (λx b y c=>d x (Ij _ b) y (Ij _ c))]
theorem tx {α:Type} (f:α->Nat):∀ (l:List α),(l.map f).Nodup->∀ a∈l,∀ b∈l,f a=f b->a=b
 | [],_,a,ha,_,_,_=>by cases ha
 | x::r,g,a,ha,b,i,e=>by
  rw [It,GI] at g
  rcases F4.1 ha with d|d
  ·rcases F4.1 i with c|c
   ·rw [d,c]
   exact absurd (FQ.2 ⟨b,c,by rw [<-e,d]⟩) g.1
  rcases F4.1 i with c|c
  ·exact absurd (FQ.2 ⟨a,d,by rw [e,c]⟩) g.1
  exact tx f r g.2 a d b c e
theorem BR (i:Inv cf h) {rs c:List Rg9} (p:rs.Perm h.rg) (s:rs.Pairwise (λa b=>a.base<=b.base)) (d:c.Perm h.rg) (f:c.Pairwise (λa b=>a.base<=b.base)):rs=c :=
 pY Rg9.base rs c (p.trans d.symm) s f (λa ha b c e=>tx Rg9.base h.rg (xA i) a (p.subset ha) b (p.subset c) e)
theorem C5 {l d c:List Nat} (p:d.Perm l) (s:d.Pairwise (λa b=>a<=b)) (f:c.Perm l) (g:c.Pairwise (λa b=>a<=b)):d=c :=
 pY id d c (p.trans f.symm) s g (λa _ b _ e=>e)
def Mt (cf:Cf) (h:Hs) (W:World) (m0 m1 m2 m3 m4 m5 m6 m7:Value):Prop:=∃ (rs:List Rg9) (e:List Nat) (Cq:Nat->List Value),m0=I (bz h.m 283:Nat)/\m7=I h.used/\(rs.Perm h.rg/\rs.Pairwise (λa b=>a.base<=b.base))/\(e.Perm h.rel/\e.Pairwise (λa b=>a<=b))/\Rd1 .i64 W m1 (bw h.m 283)/\Re W m2 (I1 h 12).length 5 (λk=>((fP h (I1 h 12)).drop (k*5)).take 5)/\Re W m3 12 3 Cq/\(∀ k,k<12->∃ u1 u2,Cq k=[u1,u2,I cf.fifo]/\Rd1 .i64 W u1 (h.mx k)/\Rd1 .i64 W u2 (h.ff k))/\Re W m4 rs.length 5 (λk=>((dH rs).drop (k*5)).take 5)/\Rd1 .u64 W m5 (h.row.map (λx:Nat=>(x:Int)))/\Rd1 .u64 W m6 (e.map (λx:Nat=>(x:Int)))
theorem Mt.low (t:Mt cf h W m0 m1 m2 m3 m4 m5 m6 m7) (b:D W W'):Mt cf h W' m0 m1 m2 m3 m4 m5 m6 m7:=by
 obtain⟨rs,a,Cq,c,d,f,g,o,s,q,i,r,l,e⟩:=t;exact⟨rs,a,Cq,c,d,f,g,o.below b,s.below b,q.below b,λk j=>by obtain ⟨u1,u2,m,n,p⟩:=i k j;exact⟨u1,u2,m,n.below b,p.below b⟩,r.below b,l.below b,e.below b⟩
theorem kI {n0 n1 n2 n3 n4 n5 n6 n7} (t:Mt cf h W m0 m1 m2 m3 m4 m5 m6 m7) (w:Mt cf h W n0 n1 n2 n3 n4 n5 n6 n7) {k} (a:Inv cf h) (b:Few k h) (g:k<=302) (p:mE cf) :
  Calls prog 17 #[.agg #[m0,m1,m2,m3,m4,m5,m6,m7],.agg #[n0,n1,n2,n3,n4,n5,n6,n7]] W λe x=>e=.returned (.bool true)/\D W x:=by
 obtain⟨rs,N,Cq,rfl,rfl,i,j,o,s,q,y,r,l,e⟩:=t;obtain⟨z,A,m,rfl,rfl,d,f,B,F,G,n,K,L,M⟩:=w;obtain rfl:=BR a i.1 i.2 d.1 d.2;obtain rfl:=C5 j.1 j.2 f.1 f.2;have hI:=Cr h 12 (Fv _);have u:=b.row;have O:=mZ h.m 283;have f1:=b.rg;have f2:=b.rel;have P:=i.1.length_eq;have Q:=j.1.length_eq;refine sH W _ _ (cf.fifo:Nat) _ _ _ _ _ _ _ Cq m h.mx h.ff _ _ _ _ _ _ _ _ _ _ _ _ o B l L e M s F (λk g=>?_) r K (λk g=>?_) q G y n Z (by rw [Gz];omega) (by rw [Gz];omega) Z Z (λc v=>?_);·exact⟨_,_,_,_,_,gH (yx h) 5 (λ_=>rfl) (I1 h 12) k _ (Fy g)⟩
 ·exact⟨_,_,_,_,_,gH tC 5 (λ_=>rfl) rs k _ (Fy g)⟩
 have R:=a.mxl c v;have S:=a.ffl c v;have T:=p.mix;have V:=p.fifo;omega
def BK:Prop:=∀ (cf:Cf) (da:Option Addr) (dc:Nat) (A:Option Addr) (cap:Nat) (i:List df) (w:World),mE cf->1<=cf.large->Tb w->Sl w da cf.ds->(∀ a,da=some a->a.block<w.heap.size)->0<w.heap.size->Ois w A i->(∀ q∈i,q.o.ys.length<=q.dc /\ -9223372036854775808<=q.o.ref/\∀ y∈q.o.ys,0<=y/\y<=255)->i.length<=300 ->
 Calls prog 11 #[gZ cf da dc,.slice A i.length cap] w λe W'=>∃ (l:List Aw) (j m0 m1 m2 m3 m4 m5 m6 m7:Value),e=.returned (.agg #[.bool true,j,m0,m1,m2,m3,m4,m5,m6,m7])/\(∀ v∈[j,m0,m1,m2,m3,m4,m5,m6,m7],v.oneCell'=true)/\l.map (·.1)=(bd cf (i.map df.o) (aP cf) []).2/\W'.ownsRow w.heap.size 44 4 j l.length (fZ l)/\(∀ z∈l,W'.ownsRow w.heap.size 5 1 z.2 z.1.data.length (Ns .u8 z.1.data))/\D w W'/\Mt cf (bd cf (i.map df.o) (aP cf) []).1 W' m0 m1 m2 m3 m4 m5 m6 m7
def EJ (o:fL):df:=⟨o,none,0⟩
structure Or7 (Uq9:World) (xs:List df) (v:Value) (W:World):Prop where
 bel:D Uq9 W
 row:W.ownsRow Uq9.heap.size 42 6 v xs.length (iT xs)
theorem Or7.form {Uq9 v} (h:Or7 Uq9 xs v W):∃ a c,v=.slice a xs.length c:=by
 obtain⟨a,b,c,rfl⟩:=fW h.row;obtain rfl:=ik h.row;exact⟨a,c,rfl⟩
theorem de {f:Array Oper} {e:List Oper} {g:Oper} {a:Act} {Q:Exit->Act->World->Prop} (j:Region.wanted g (yielded f a.tmps)=true) (c:TypeId) (x:Operand) (k:g.op=.load c x) (b o) (l:a.eval x=J b o) (i:List Value) (d:TypeDesc) (m:w.rangeAt b o i) (n:prog.underlying c=some d) (p:d.isRow=true) (q:(prog.info? c).map (·.size)=some i.length) (h:wpList prog f Q e (a.put g.dst (.agg i.toArray)) w):wpList prog f Q (g::e) a w :=
 wpList_step λK r=>by simp only [j,IM];exact wp_load_mid c x k b o l i d m n p q (r _ _ h)
theorem A5 {c:Nat} {a b:Value} {t:TypeId} {f:Nat×Nat} (h:W.heap[c]?=some (.cells #[a,b,m0,m1,m2,m3,m4,m5,m6,m7] t f)):W.rangeAt c 2 [m0,m1,m2,m3,m4,m5,m6,m7]:=λj u hu=>by
 rw [GT _ _ _ _ _ _ h]
 match j,hu with
 | 0,hu=>exact hu
 | 1,hu=>exact hu
 | 2,hu=>exact hu
 | 3,hu=>exact hu
 | 4,hu=>exact hu
 | 5,hu=>exact hu
 | 6,hu=>exact hu
 | 7,hu=>exact hu
 | j+8,hu=>simp at hu
theorem sP (W:World):(Builtin.append_ #[27,27] 27 #[C,C]).run prog W=.ok (C) W:=by
 kernel_rfl
theorem oK {V:World} {A:Option Addr} {d:List df} (o:V.ownsRow B 42 6 (.slice A d.length n) d.length (iT d)) (b:D V W) (K:d.length<=300) :
  ∃ (a:Option Addr) (c:Nat) (i:World),(Builtin.append_ #[27,27] 27 #[C,.slice A d.length n]).run prog W=.ok (.slice a d.length c) i/\Or7 W d (.slice a d.length c) i:=by
 have w:=ax o b;have t:W.ownsRow W.heap.size 42 6 (C) ([]:List df).length (iT []):=⟨rfl,.inl ⟨rfl,rfl⟩⟩;rcases w.2 with ⟨p,x⟩|⟨g,L,y,p,M,z,N,O,P,F⟩
 ·injection p with l s m;obtain rfl:d=[]:=List.length_eq_zero_iff.1 x;subst l m;exact⟨none,0,W,sP W,Fu _ _,t⟩
 injection p with l s m;subst l m;obtain⟨G,i,l,s,m⟩:=xm t d g n (λk q v j u r=>by
  rw [GT _ _ _ _ _ _ z];have e:=flat_get fH 6 (λ_=>rfl) d k j q v (by have:=(Fz.1 r).1;simpa [fH] using this);have Q:=(Fz.1 v).1;have R:=(Fz.1 r).1;have f:(iT d)[k*6+j]?=some u:=by rw [<-r];exact e
  rw [<-F,Gx] at f;split at f;·simpa using f
  cases f) bG (Fv _)
 have f:Or7 W d G i:=⟨(Fu W.heap.size W).grown m (Fv _) (λr b=>by cases b),by simpa using s⟩;obtain⟨a,c,rfl⟩:=f.form;exact⟨a,c,i,l,f⟩
def qP (a:Nat):fL:=⟨5,0,a,16,0,[]⟩
def wT (h:Hs) (a:Nat):An4:=(dv ⟨0,0,0,0,0,[]⟩ h (qP a) a).1
theorem CJ (cf h an a):bU cf h an (qP a)=(wT h a,h):=by
 unfold bU;rw [GP (show (qP a).ref=0 from rfl)];rfl
theorem qG (cf) (h:Hs):∀ (b:List Nat) (an:List An4),bd cf (b.map qP) h an=(h,an++b.map (wT h))
 | [],an=>by simp [bd]
 | a::r,an=>by
  show bd cf (r.map qP) (bU cf h an (qP a)).2 (an++[(bU cf h an (qP a)).1])=_
  rw [CJ,qG cf h r]
  simp
structure Eb (h h':Hs) (c:Int):Prop where
 eq:h'={ h with m:=h'.m }
 op:∀ j,isOpen (h'.m j)=isOpen (h.m j)
 is:∀ j,(h'.m j).isSome=(h.m j).isSome
 no:c=2->h'=h
theorem sT (cf h an) (o:fL) (c:o.ref=0) (a:o.kd=6\/o.kd=5):Eb h (bU cf h an o).2 (bU cf h an o).1.code:=by
 unfold bU;rw [GP c];rcases a with a|a
 ·rw [Dq cf h o o.p a];dsimp only;by_cases e:ci h.m o.p (o.ys.length:Int)=0;·rw [GP e];exact⟨rfl,eO h.m o.p o.ys o.ys.length,dj h.m o.p o.ys o.ys.length,λb=>by rw [show (An4.no (ci h.m o.p (o.ys.length:Int))).code=ci h.m o.p (o.ys.length:Int) from rfl,e] at b;cases b⟩
  rw [GO e];exact⟨rfl,λj=>rfl,λj=>rfl,λ_=>rfl⟩
 have e:(dv cf h o o.p).2=h:=by
  unfold dv;dsimp only;rw [GO Z,GO Z,GO Z,GO Z,GO Z,GP a];split <;> rfl
 rw [e];exact⟨rfl,λj=>rfl,λj=>rfl,λ_=>rfl⟩
theorem tu {m a:Nat->Option (Bool×List Int)} (h:∀ j,(a j).isSome=(m j).isSome):∀ k,bz a k=bz m k
 | 0=>rfl
 | k+1=>by simp only [bz];rw [tu h k,h k]
theorem tQ {m a:Nat->Option (Bool×List Int)} (h:∀ j,isOpen (a j)=isOpen (m j)):∀ k,bw a k=bw m k
 | 0=>rfl
 | k+1=>by simp only [bw];rw [tQ h k,h k]
theorem Mt.acc {h' c} (a:Eb h h' c) (t:Mt cf h' W m0 m1 m2 m3 m4 m5 m6 m7):Mt cf h W m0 m1 m2 m3 m4 m5 m6 m7:=by
 obtain⟨e,b,d,_⟩:=a;have f:=tu d 283;have g:=tQ b 283;unfold Mt at t ⊢;rw [f,g] at t;generalize h'.m=i at e;subst e;exact t
theorem wX (cf) (a:List fL) (b:List Nat) (o:fL) :
  bd cf (a++b.map qP) (aP cf) []=((bd cf a (aP cf) []).1,(bd cf a (aP cf) []).2++b.map (wT (bd cf a (aP cf) []).1)) /\
  bd cf (a++o::b.map qP) (aP cf) []=((bU cf (bd cf a (aP cf) []).1 (bd cf a (aP cf) []).2 o).2,(bd cf a (aP cf) []).2++(bU cf (bd cf a (aP cf) []).1 (bd cf a (aP cf) []).2 o).1::b.map (wT (bU cf (bd cf a (aP cf) []).1 (bd cf a (aP cf) []).2 o).2)):=by
 constructor;·rw [rb,qG]
 rw [rb];show bd cf (b.map qP) (bU cf _ _ o).2 (_++[(bU cf _ _ o).1])=_;rw [qG];simp
def vL (data:List Int):ByteArray:=data.foldl (λr n=>r.push (UInt8.ofNat n.toNat)) ByteArray.empty
theorem qN {b:List Int} (h:Rd1 .u8 w u b):(convert 22 9 u).run prog w=.ok (.string (vL b)) w:=by
 obtain⟨a,c,rfl,i⟩:=h;rw [run_convert_bytes_string w 22 9 5 a b.length c underlying22 underlying5 underlying9];cases a with
 | none =>
  have:b=[]:=by
   cases b with
   | nil=>rfl
   | cons x r=>obtain ⟨g,e,_⟩:=i 0 bH;cases e
  subst this;unfold Conv.bytesToString;simp [vL,Sem.run_pure]
 | some p =>
  refine run_bytesToString w p b.length c b ?_;have:=run_loadCells_list (P:=prog) w p (b.map (Value.int .u8)) (λj v d=>by
   have f:=(Fz.1 d).1;simp at f;obtain⟨g,e,l⟩:=i j f;injection e with e;subst e;have m:(⟨g,0,none⟩:Addr).add j=⟨g,j,none⟩:=(by cases j <;> simp [Addr.add]);rw [m,l];rw [Gv] at d;cases k:b[j]? with
   | none=>rw [k] at d;cases d
   | some z=>rw [k] at d;simp at d;rw [<-d];rfl)
  rw [Gz] at this;exact this
theorem AC (u1 u2:Value) (a:List Int) (w:World) (b:Rd1 .u8 w u1 a) (c:Rd1 .u8 w u2 a) :
  Calls prog 48 #[u1,u2] w λe d=>e=.returned (.bool true)/\d=w:=by
 have f:=qN b;have g:=qN c;generalize vL a=t at f g;clear b c;go_enter func48,ntmps48;go_wp2;go_ret;exact⟨bH,rfl⟩
theorem wh (a b c) (u1 u2:Value) (d:List Int) (w:World) (g:Rd1 .u8 w u1 d) (i:Rd1 .u8 w u2 d) :
  Calls prog 18 #[.agg #[I a,U b,I c,u1],.agg #[I a,U b,I c,u2]] w λe l=>e=.returned (.bool true)/\D w l:=by
 obtain⟨f,j,k⟩:=nD w #[I a,U b,I c,u1] #[I a,U b,I c,u2] 44;have m:=H (AC u1 u2 d _ (g.below f) (i.below f));obtain⟨n,o,p,rfl⟩:=g.sl;obtain⟨q,r,s,rfl⟩:=i.sl;have B0:=H f;have t:=H j;have u:=H k;clear f j k g i;have f:(a==a)=true:=bH;have g:(b==b)=true:=bH;have i:(c==c)=true:=bH;go_enter func18,ntmps18;go_wp2_with fail;refine m.mono ?_;rintro e W ⟨rfl,rfl⟩;go_wp2;go_ret;exact⟨rfl,B0⟩
theorem uc (a:Option Addr) (b d:Nat) (zs:List Int) (f:b<=1048576) (w:World) (i:IsRow .u8 w a b d zs) :
  Calls prog 15 #[.slice a b d] w λe j=>(∃ c:Nat,c<18446744073709551616/\e=.returned (U c))/\D w j:=by
 have g:=(Fu w.heap.size w).alloc (Fv _) (.cells #[.slice a b d,I 0] 71);have k:=H (show Rd w a b d w.heap.size w (w.alloc (.cells #[.slice a b d,I 0] 71)) from ⟨⟨0,FH _,ao _ _⟩,g,Fv _,grown_of g _⟩);clear g;have Q:=H (λR W h=>pV w a b d zs i f R w W h);clear i;go_enter func15,ntmps15;go_wp2_with fail;refine (Q _ _ k).mono ?_;rintro e o ⟨⟨c,i,l,rfl⟩,g⟩;have m:=H g;obtain⟨n,rfl⟩:∃ n:Nat,c=(n:Int):=⟨c.toNat,Z⟩;clear g;go_wp2;go_ret;exact⟨⟨n,Z,rfl⟩,m.bel⟩
theorem xe {s j:Nat} (a:c<12) (f:s<6) (g:j<aM c) (w:World) :
  Calls prog 16 #[I c,I s,I j] w λe d=>e=.returned (.tuple #[U (bh c s j:Nat),.bool true])/\D w d:=by
 refine (kJ (c:Int) (s:Int) (j:Int) ⟨Z,Z,Z,Z,Z,by rw [vA a];omega⟩ w).mono ?_;rintro e d ⟨rfl,b⟩;refine⟨?_,b⟩;rw [v3 a,pU a,uT a];unfold bh aD;congr 5
theorem ql {v:Value} (f:W.ownsRow B 42 6 v xs.length (iT xs)) (q) (G:Nat) (gc) (n:∀ j u,(fH q)[j]?=some u->W.cell? ⟨G,j,none⟩=some u) (x:xs.length<=900) (o:B<=W.heap.size) :
  ∃ a c d,(Builtin.append_ #[27,27] 27 #[v,Vl G 1 gc]).run prog W=.ok (.slice a (xs.length+1) c) d/\d.ownsRow B 42 6 (.slice a (xs.length+1) c) (xs++[q]).length (iT (xs++[q]))/\W.grownBy d v.ownBlock/\((Value.slice a (xs.length+1) c).ownBlock=v.ownBlock\/(Value.slice a (xs.length+1) c).ownBlock=some W.heap.size):=by
 obtain⟨p,g,i,k,l⟩:=G0 yK;obtain⟨y,d,r,m,s,_,t⟩:=run_append_own_at (P:=prog) (w:=W) B 27 27 42 p _ 6 64 underlying27 g i k l rfl Z _ _ _ f ⟨G,0,none⟩ 1 gc (fH q) rfl (λj u e=>by
  have b:(⟨G,0,none⟩:Addr).add j=⟨G,j,none⟩:=by cases j <;> simp [Addr.add]
  rw [b];exact n j u e) (λu e=>by simp [fH] at e;rcases e with rfl|rfl|rfl|rfl|rfl|rfl <;> rfl) (by unfold maxLen;omega) Z o
 obtain⟨a,b,c,rfl⟩:=fW m;obtain rfl:=ik m;refine⟨a,c,d,r,?_,s,t⟩;rw [FC,qT];exact m
structure Pr (Ub:World) (xs ys:List df) (v1 v2:Value) (W:World):Prop where
 bel:D Ub W
 r1:W.ownsRow Ub.heap.size 42 6 v1 xs.length (iT xs)
 r2:W.ownsRow Ub.heap.size 42 6 v2 ys.length (iT ys)
 ne:v2.ownBlock=none\/v2.ownBlock≠v1.ownBlock
theorem Pr.low (h:Pr Ub xs ys v1 v2 W) (b:D W W'):Pr Ub xs ys v1 v2 W':=⟨az h.bel b,ax h.r1 b,ax h.r2 b,h.ne⟩
theorem Pr.swap (h:Pr Ub xs ys v1 v2 W):Pr Ub ys xs v2 v1 W:=⟨h.bel,h.r2,h.r1,by
 rcases h.ne with e|e
 ·cases a:v1.ownBlock with
  | none=>exact .inl rfl
  | some g=>exact .inr (by rw [e];simp)
 exact .inr (Iq e)⟩
theorem Pr.form (h:Pr Ub xs ys v1 v2 W):(∃ a c,v1=.slice a xs.length c)/\∃ a c,v2=.slice a ys.length c:=by
 obtain⟨a,b,c,rfl⟩:=fW h.r1;obtain rfl:=ik h.r1;obtain⟨d,f,e,rfl⟩:=fW h.r2;obtain rfl:=ik h.r2;exact⟨⟨a,c,rfl⟩,d,e,rfl⟩
theorem Pr.app (h:Pr Ub xs ys v1 v2 W) (q) (G:Nat) (gc) (k:∀ j u,(fH q)[j]?=some u->W.cell? ⟨G,j,none⟩=some u) (l:xs.length<=900) :
  ∃ (a:Option Addr) (c:Nat) (b:World),(Builtin.append_ #[27,27] 27 #[v1,Vl G 1 gc]).run prog W=.ok (.slice a (xs.length+1) c) b/\Pr Ub (xs++[q]) ys (.slice a (xs.length+1) c) v2 b/\∀ g o,W.heap[g]?=some o->v1.ownBlock≠some g->b.heap[g]?=some o:=by
 obtain⟨a,c,b,m,n,f,d⟩:=ql h.r1 q G gc k l h.bel.size;refine⟨a,c,b,m,⟨h.bel.grown f h.bel.size (λr a=>(aF h.r1 a).1),n,h.r2.kept f h.ne,?_⟩,λg o i p=>?_⟩
 ·rcases d with d|d;·rw [d];exact h.ne
  cases r:v2.ownBlock with
  | none=>exact .inl rfl
  | some g =>
   right;rw [d];intro j;injection j with j;have:=(h.r2.lt g r).2;omega
 rw [f.block g (ag i) (λe=>p e.symm)];exact i
def mX (x:Nat):df:=EJ (qP x)
theorem Dp (Ub w) (xs ys:List df) (n1 n2:Nat) (d:xs.length=n1) (i:ys.length=n2) (h1:n1<=250) (h2:n2<=251) (b m:Nat) (f:Option Addr) (a0:b<=100000) (a1:Option Addr) (c1:Nat) (a2:Option Addr) (c2:Nat) (pr:Pr Ub xs ys (.slice a1 n1 c1) (.slice a2 n2 c2) w) (hS:∀ k,k<b->∃ (g c s j:Nat) (y z:Int),f=some ⟨g,0,none⟩/\Ub.rangeAt g (k*5) [I c,I s,I j,I y,I z]/\c<12/\s<6/\j<aM c) (K:Act->World->Prop) (Q:Exit->Act->World->Prop) (u0 u1 u2 u3 u4 u5 u6 u7 u8 u9 u10 u11 u14 u15 u16 u17 u18 u19 u20 u21 u22 u23 u24 u25 u26 u27 u28 u29 u30 u31 u32 u33 u34 u35 u36 u37 u38 u39 u40 u41 u42 u43 u44 u45 u46 u47 u48 u49 u50 u51 u52 u53 u54 u55 u56 u57 u58 u59 u60 u61 u62 u63 u64 u65 u66 u67 u68 u69 u70 u71 u72 u73 u74 u75 u76 u77 u78 u79 u80 u81 u82 u83 u84 u85 u86 u87 u88 u89 u90 u91 u92 u93 u94 u95 u99 u100 u101 u102 u103 u104 u105 u106 u107 u108 u109 u110 u111 u112 u113 u114 u115 u116 u117 u118 u119 u120 u121 u122 u123 u124 u125 u126 u127 u128 u129 u130 u131 u132 u133 u134 u135 u136 u137 u138 u139 u140 u141 u142 u143 u144 u145 u146 u147 u148 u149 u150 u151 u152 u153 u154 u155 u156 u157 u158 u159 u160 u161 u162 u163 u164 u165 u166 u167 u168 u169 u170 u171 u172 u173 u174 u175 u176 u177 u178 u179 u180 u181 u182 u183 u184 u185 u186 u187 u188 u189 u190 u191 u192 u193 u194 u195 u196 u197 u198 u199 u200 u201 u202 u203 u204 u205 u206 u207 u208 u209 u210 u211 u212 u213:Value) (l:∀ (n o b3 b5 b7 b8 b9 c0 c7 p q r t v A B F G L M N O P R S T V X Y a0 a7 a8 a9 b0 b1:Value) (w':World),(∃ a:List Nat,a.length<=40/\(∀ x∈a,x<18446744073709551616)/\Hid (Pr Ub (xs++a.map mX) (ys++a.map mX) n o w'))->K ⟨#[u0,u1,u2,u3,u4,u5,u6,u7,u8,u9,u10,u11,n,o,b3,b5,b7,b8,b9,u19,u20,u21,u22,u23,u24,u25,u26,u27,u28,u29,u30,u31,u32,u33,u34,u35,u36,u37,u38,u39,u40,u41,u42,u43,u44,u45,u46,u47,u48,u49,u50,u51,u52,u53,u54,u55,u56,u57,u58,u59,u60,u61,u62,u63,u64,u65,u66,u67,u68,u69,u70,u71,u72,u73,u74,u75,u76,u77,u78,u79,u80,u81,u82,u83,u84,u85,u86,u87,u88,u89,u90,u91,u92,u93,u94,u95,.slice f b m,I b,c0,c7,p,q,r,t,v,A,B,F,G,L,M,N,O,P,R,S,T,V,X,Y,a0,a7,a8,a9,b0,b1,u126,u127,u128,u129,u130,u131,u132,u133,u134,u135,u136,u137,u138,u139,u140,u141,u142,u143,u144,u145,u146,u147,u148,u149,u150,u151,u152,u153,u154,u155,u156,u157,u158,u159,u160,u161,u162,u163,u164,u165,u166,u167,u168,u169,u170,u171,u172,u173,u174,u175,u176,u177,u178,u179,u180,u181,u182,u183,u184,u185,u186,u187,u188,u189,u190,u191,u192,u193,u194,u195,u196,u197,u198,u199,u200,u201,u202,u203,u204,u205,u206,u207,u208,u209,u210,u211,u212,u213],[]⟩ w') :
  Code.wp prog ((Tryz.f4.body.bind (iN 0)).getD .skip) (Exit.then K Q) ⟨#[u0,u1,u2,u3,u4,u5,u6,u7,u8,u9,u10,u11,.slice a1 n1 c1,.slice a2 n2 c2,u14,u15,u16,u17,u18,u19,u20,u21,u22,u23,u24,u25,u26,u27,u28,u29,u30,u31,u32,u33,u34,u35,u36,u37,u38,u39,u40,u41,u42,u43,u44,u45,u46,u47,u48,u49,u50,u51,u52,u53,u54,u55,u56,u57,u58,u59,u60,u61,u62,u63,u64,u65,u66,u67,u68,u69,u70,u71,u72,u73,u74,u75,u76,u77,u78,u79,u80,u81,u82,u83,u84,u85,u86,u87,u88,u89,u90,u91,u92,u93,u94,u95,.slice f b m,I b,I 0,u99,u100,u101,u102,u103,u104,u105,u106,u107,u108,u109,u110,u111,u112,u113,u114,u115,u116,u117,u118,u119,u120,u121,u122,u123,u124,u125,u126,u127,u128,u129,u130,u131,u132,u133,u134,u135,u136,u137,u138,u139,u140,u141,u142,u143,u144,u145,u146,u147,u148,u149,u150,u151,u152,u153,u154,u155,u156,u157,u158,u159,u160,u161,u162,u163,u164,u165,u166,u167,u168,u169,u170,u171,u172,u173,u174,u175,u176,u177,u178,u179,u180,u181,u182,u183,u184,u185,u186,u187,u188,u189,u190,u191,u192,u193,u194,u195,u196,u197,u198,u199,u200,u201,u202,u203,u204,u205,u206,u207,u208,u209,u210,u211,u212,u213],[]⟩ w:=by
 have HK:=H l;have HN:=H (IT d i);have PR:=H pr;have HS:=H hS;clear l d i pr hS
 conv=>arg 2;whnf
 go_wp2_with fail;go_loopw [12,13,98] (λv1 v2 i wr=>∃ (k:Nat) (a:List Nat),k<=b/\i=I k/\Hid (a.length<=k/\a.length<=40/\∀ x∈a,x<18446744073709551616)/\Hid (Pr Ub (xs++a.map mX) (ys++a.map mX) v1 v2 wr)) (λ_ _ i _=>b-(intOf i).toNat);case atStart=>exact ⟨0,[],FH _,rfl,H ⟨Fv _,FH _,λx d=>by cases d⟩,by simp only [List.map_nil,Gl];exact PR⟩
 case round =>
  obtain⟨k,a,hk,rfl,p,q⟩:=hrel;clear PR;obtain⟨⟨a3,c3,rfl⟩,a4,c4,rfl⟩:=q.form;obtain⟨m1,d⟩:∃ m1,(xs++a.map mX).length=m1:=⟨_,rfl⟩;obtain⟨m2,l⟩:∃ m2,(ys++a.map mX).length=m2:=⟨_,rfl⟩;have a7:m1<=300/\m2<=300:=by
   have h9:=HN.out;have n:=p.2.1;rw [<-d,<-l,FC,FC,Gz];omega
  have F:=H (IT d l);rw [d,l] at q ⊢;clear d l;by_cases M:k<b
  ·obtain⟨g,c,s,j,y,z,rfl,v,n,o,r⟩:=HS.out k M;have B:=H (show wr.rangeAt g (k*5) [I c,I s,I j,I y,I z] from λi u A=>ad q.bel (v i u A));have d:=H (ao wr (.cells #[I c,I s,I j,I y,I z] 51));have t:=H (q.low ((Fu wr.heap.size wr).alloc (Fv _) (.cells #[I c,I s,I j,I y,I z] 51)));have l:=ca n o r;have G:=H (λW=>xe n o r W);clear v n o r q;go_upto_region 22 with (refine wpList_load_mid rfl 51 _ rfl _ _ rfl _ _ B underlying51 rfl E ?_)
   generalize wr.alloc (.cells #[I c,I s,I j,I y,I z] 51)=Y at d t ⊢;generalize wr.heap.size=N at d ⊢;have n:Y.cell? ⟨N,0,none⟩=some (I c):=bJ d.out;have o:Y.cell? ⟨N,1,none⟩=some (I s):=bJ d.out;have v:Y.cell? ⟨N,2,none⟩=some (I j):=bJ d.out;clear B d;go_wp2_with fail;refine (G Y).mono ?_;rintro e r ⟨rfl,d⟩;have B:=H (t.low d);generalize bh c s j=x at l ⊢;have O:x<18446744073709551616:=Z;clear G t n o v d l;by_cases a8:k<40
   ·have G:=H (ao r (.cells #[I 5,I 0,U x,U 16,U 0,C] 42));have P:=H (B.low ((Fu r.heap.size r).alloc (Fv _) (.cells #[I 5,I 0,U x,U 16,U 0,C] 42)));have R:=H (show ∀ v:Value,(v=.slice a3 m1 c3\/v=.slice a4 m2 c4)->v.ownBlock≠some r.heap.size from λv b e=>by
     rcases b with rfl|rfl;·have:=(B.r1.lt _ e).2;omega
     have:=(B.r2.lt _ e).2;omega)
    clear B;(go_upto_region 25 with fail);generalize r.alloc (.cells #[I 5,I 0,U x,U 16,U 0,C] 42)=v at G P ⊢;generalize r.heap.size=Z3 at G R ⊢;have S:=(Fu v.heap.size v).alloc (Fv _) (.cells #[I 5,I 0,U x,U 16,U 0,C] 42);obtain⟨a5,c5,L,l,T,n⟩:=(P.low S).app (mX x) v.heap.size 1 (λj u A=>by rw [GT _ _ _ _ _ _ (ao v _)];show (fH (mX x)).toArray[j]?=some u;rw [List.getElem?_toArray];exact A) (by have:=F.out;omega);rw [F.1] at l T;have H1:=H l;have V:=H (n Z3 _ (IU S G) (R _ (.inl rfl)));have b6:=(Fu L.heap.size L).alloc (Fv _) (.cells #[I 5,I 0,U x,U 16,U 0,C] 42);obtain⟨a6,c6,w7,d,X,_⟩:=(T.low b6).swap.app (mX x) L.heap.size 1 (λj u A=>by rw [GT _ _ _ _ _ _ (ao L _)];show (fH (mX x)).toArray[j]?=some u;rw [List.getElem?_toArray];exact A) (by have:=F.out;omega);rw [F.2] at d X;have H2:=H d;have P8:=H X.swap;have o:=H (show (a++[x]).length<=k+1/\(a++[x]).length<=40/\∀ y∈a++[x],y<18446744073709551616 from by
     have h9:=p.out;refine⟨by rw [FC,List.length_singleton];omega,by rw [FC,List.length_singleton];omega,λy t=>?_⟩;rcases F8.1 t with t|t;·exact h9.2.2 y t
     simp at t;rw [t];exact O)
    clear S l T n b6 d X R P;go_wp2_with (first|refine Gt rfl 42 _ rfl _ rfl _ _ _ _ G underlying42 rfl E ?_|refine Gt rfl 42 _ rfl _ rfl _ _ _ _ V underlying42 rfl E ?_|(at_builtin;first|refine ga 27 rfl (.tmp 117) (.tmp 119) (by with_reducible rfl) rfl rfl rfl H1 ?_|refine ga 27 rfl (.tmp 121) (.tmp 123) (by with_reducible rfl) rfl rfl rfl H2 ?_));go_roundw;(case rel=>exact ⟨k+1,a++[x],Z,aY,o,by rw [Hr,<-GJ,<-GJ];exact P8⟩);case measure=>simp [intOf];omega
   have o:=H (show a.length<=k+1/\a.length<=40/\∀ y∈a,y<18446744073709551616 from ⟨Nat.le_succ_of_le p.1,p.2⟩);have d:decide ((k:Int)<40)=false:=GR Z;go_wp2;go_roundw;(case rel=>exact ⟨k+1,a,Z,aY,o,B⟩);case measure=>simp [intOf];omega
  have d:=IT p.2.1 (IT p.2.2 q);go_wp2_with fail;apply HK.out;exact⟨a,d⟩
theorem C6 (w:World) (n m o p s t:Nat) (a1:n<=m) (hm:m<=300) (B1 B2:Option Addr) (e1:w.cell? ⟨o,1,none⟩=some (.slice B1 m s)) (e2:w.cell? ⟨p,1,none⟩=some (.slice B2 (m+1) t))
  (ha:∀ i,n<=i->i<m->∃ (j k:Nat) (q f r:Int) (u y:Value) (zs:List Int),B1=some ⟨j,0,none⟩/\B2=some ⟨k,0,none⟩/\w.rangeAt j (i*4) [I q,U f,I r,u]/\w.rangeAt k ((i+1)*4) [I q,U f,I r,y]/\Rd1 .u8 w u zs/\Rd1 .u8 w y zs)
  (K:Act->World->Prop) (Q:Exit->Act->World->Prop) (hQ:∀ c (a:Act) (d:Option Tmp) v w,Q (.panic c) (a.put d v) w->Q (.panic c) a w) (u0 u1 u2 u3 u4 u5 u6 u7 u8 u9 u10 u11 u12 u13 u14 u15 u16 u17 u18 u21 u23 u24 u25 u26 u27 u28 u29 u30 u31 u32 u33 u34 u35 u36 u37 u38 u39 u40 u41 u42 u43 u44 u45 u46 u47 u48 u49 u50 u51 u52 u53 u54 u55 u56 u57 u58 u59 u60 u61 u62 u63 u64 u65 u66 u67 u68 u69 u70 u71 u72 u73 u74 u75 u76 u77 u78 u79 u80 u81 u82 u83 u84 u85 u86 u87 u88 u89 u90 u91 u92 u93 u94 u95 u96 u97 u98 u99 u100 u101 u102 u103 u104 u105 u106 u107 u108 u109 u110 u111 u112 u113 u114 u115 u116 u117 u118 u119 u120 u121 u122 u123 u124 u125 u126 u127 u128 u129 u130 u131 u132 u133 u134 u135 u136 u137 u138 u139 u140 u141 u142 u143 u144 u145 u146 u147 u148 u149 u150 u151 u152 u153 u154 u155 u156 u157 u158 u159 u160 u161 u162 u163 u164 u165 u166 u167 u168 u169 u170 u171 u172 u173 u174 u175 u176 u177 u178 u179 u180 u181 u182 u183 u184 u185 u186 u187 u188 u189 u190 u191 u192 u193 u194 u195 u196 u197 u198 u199 u200 u201 u202 u203 u204 u205 u206 u207 u208 u209 u210 u211 u212 u213:Value) (a:∀ (v4 a2 b d g l x z A B F G L M N O R T V X Y a0:Value) (w':World),Hid (D w w')->K ⟨#[u0,u1,u2,u3,v4,u5,u6,u7,u8,u9,u10,u11,u12,u13,u14,u15,u16,u17,u18,J o 0,J p 0,u21,a2,u23,u24,u25,u26,u27,u28,u29,u30,u31,u32,u33,u34,u35,u36,u37,u38,u39,u40,u41,u42,u43,u44,u45,u46,u47,u48,u49,u50,u51,u52,u53,u54,u55,u56,u57,u58,u59,u60,u61,u62,u63,u64,u65,u66,u67,u68,u69,u70,u71,u72,u73,u74,u75,u76,u77,u78,u79,u80,u81,u82,u83,u84,u85,u86,u87,u88,u89,u90,u91,u92,u93,u94,u95,u96,u97,u98,u99,u100,u101,u102,u103,u104,u105,u106,u107,u108,u109,u110,u111,u112,u113,u114,u115,u116,u117,u118,u119,u120,u121,u122,u123,u124,u125,u126,u127,u128,u129,u130,u131,u132,u133,u134,u135,u136,u137,u138,u139,u140,u141,u142,u143,u144,u145,u146,u147,u148,u149,u150,u151,u152,u153,u154,u155,u156,u157,u158,u159,u160,u161,u162,u163,u164,u165,u166,u167,u168,u169,u170,u171,u172,u173,u174,u175,u176,u177,u178,u179,u180,u181,u182,u183,u184,u185,u186,u187,u188,u189,u190,u191,u192,u193,b,d,g,l,x,z,A,B,F,G,L,M,N,O,R,T,V,X,Y,a0],[]⟩ w') :
  Code.wp prog ((Tryz.f4.body.bind (iN 2)).getD .skip) (Exit.then K Q) ⟨#[u0,u1,u2,u3,u4,u5,u6,u7,u8,u9,u10,u11,u12,u13,u14,u15,u16,u17,u18,J o 0,J p 0,u21,I n,u23,u24,u25,u26,u27,u28,u29,u30,u31,u32,u33,u34,u35,u36,u37,u38,u39,u40,u41,u42,u43,u44,u45,u46,u47,u48,u49,u50,u51,u52,u53,u54,u55,u56,u57,u58,u59,u60,u61,u62,u63,u64,u65,u66,u67,u68,u69,u70,u71,u72,u73,u74,u75,u76,u77,u78,u79,u80,u81,u82,u83,u84,u85,u86,u87,u88,u89,u90,u91,u92,u93,u94,u95,u96,u97,u98,u99,u100,u101,u102,u103,u104,u105,u106,u107,u108,u109,u110,u111,u112,u113,u114,u115,u116,u117,u118,u119,u120,u121,u122,u123,u124,u125,u126,u127,u128,u129,u130,u131,u132,u133,u134,u135,u136,u137,u138,u139,u140,u141,u142,u143,u144,u145,u146,u147,u148,u149,u150,u151,u152,u153,u154,u155,u156,u157,u158,u159,u160,u161,u162,u163,u164,u165,u166,u167,u168,u169,u170,u171,u172,u173,u174,u175,u176,u177,u178,u179,u180,u181,u182,u183,u184,u185,u186,u187,u188,u189,u190,u191,u192,u193,u194,u195,u196,u197,u198,u199,u200,u201,u202,u203,u204,u205,u206,u207,u208,u209,u210,u211,u212,u213],[]⟩ w:=by
 have T:=H a;have g:=H hQ;have X:=H ha;have Y:=H e1;have H2:=H e2;have B0:=H (Fu w.heap.size w);clear a hQ ha e1 e2
 conv=>arg 2;whnf
 go_wp2_with fail;go_loopw [22] (λv wr=>∃ i:Nat,n<=i/\i<=m/\v=I i/\Hid (D w wr)) (λv _=>m-(intOf v).toNat);case atStart=>exact ⟨n,Fv _,a1,rfl,B0⟩
 case round =>
  obtain⟨i,hi,a0,rfl,l⟩:=hrel;have F:wr.cell? ⟨o,1,none⟩=some (.slice B1 m s):=ad l Y.out;have G:wr.cell? ⟨p,1,none⟩=some (.slice B2 (m+1) t):=ad l H2.out;by_cases A:i<m
  ·obtain⟨j,k,q,f,r,u,y,zs,rfl,rfl,a,d,z,L⟩:=X.out i hi A;have M:=H (λW (b:D wr W)=>run_loadVar_mid (P:=prog) W j (i*4) 44 _ _ (λx v B=>ad b (ad l (a x v B))) underlying44 rfl E);have N:=H (λW (b:D wr W)=>run_loadVar_mid (P:=prog) W k ((i+1)*4) 44 _ _ (λx v B=>ad b (ad l (d x v B))) underlying44 rfl E);have O:=H (λW (b:D wr W)=>wh q f r u y zs W ((z.below l).below b) ((L.below l).below b));have R:IntKind.i64.wrap ((i:Int)+1)=((i+1:Nat):Int):=(by rw [Hh];omega);have a2:((i+1:Nat):Int)<((m+1:Nat):Int):=Z;clear a d z L;(go_upto_region 40 with fail);refine rh (S:=λa=>D wr a/\a.cell? ⟨o,1,none⟩=some (Vl j m s)/\a.cell? ⟨p,1,none⟩=some (Vl k (m+1) t)) ?_;have a:=(show _/\_/\_ from ⟨(Fu wr.heap.size wr).drew,F,G⟩);refine pk 0 (J o 1) a ?_ (hQ:=λ_ _ _ h=>g.out _ _ _ _ _ h);simp only [lz,l0,ls];refine pz 1 (Vl j m s) a ?_ (hQ:=λ_ _ _ h=>g.out _ _ _ _ _ h);simp only [lz,l0,ls];refine pk 2 (I i) a ?_ (hQ:=λ_ _ _ h=>g.out _ _ _ _ _ h);simp only [lz,l0,ls];refine pz 3 (J j (i*4)) a ?_ (hQ:=λ_ _ _ h=>g.out _ _ _ _ _ h);simp only [lz,l0,ls];refine pf 4 (.agg #[I q,U f,I r,u]) rfl a (λW h=>jx 44 _ rfl j (i*4) rfl (M W h.1)) ?_ (hQ:=λ_ _ _ h=>g.out _ _ _ _ _ h);simp only [lz,l0,ls];refine pk 5 (J p 1) a ?_ (hQ:=λ_ _ _ h=>g.out _ _ _ _ _ h);simp only [lz,l0,ls];refine pz 6 (Vl k (m+1) t) a ?_ (hQ:=λ_ _ _ h=>g.out _ _ _ _ _ h);simp only [lz,l0,ls];refine pk 7 (I i) a ?_ (hQ:=λ_ _ _ h=>g.out _ _ _ _ _ h);simp only [lz,l0,ls];refine pz 8 (I ((i+1:Nat):Int)) a ?_ (hQ:=λ_ _ _ h=>g.out _ _ _ _ _ h);simp only [lz,l0,ls];refine pz 9 (J k ((i+1)*4)) a ?_ (hQ:=λ_ _ _ h=>g.out _ _ _ _ _ h);simp only [lz,l0,ls];refine pf 10 (.agg #[I q,U f,I r,y]) rfl a (λW h=>jx 44 _ rfl k ((i+1)*4) rfl (N W h.1)) ?_ (hQ:=λ_ _ _ h=>g.out _ _ _ _ _ h);simp only [lz,l0,ls];refine po 11 λK' L=>?_;go_simp;refine (O _ a.1).mono ?_;rintro e V ⟨rfl,d⟩;have z:=(show D wr V/\V.cell? ⟨o,1,none⟩=some (Vl j m s)/\V.cell? ⟨p,1,none⟩=some (Vl k (m+1) t) from ⟨az a.1 d,ad d a.2.1,ad d a.2.2⟩);refine L _ _ ⟨z,?_⟩;refine pk 12 (.bool false) z ?_ (hQ:=λ_ _ _ h=>g.out _ _ _ _ _ h);simp only [lz,l0,ls];refine bY ?_;have BV:=H (az l z.1);clear a d z O M N l L K' F G;go_wp2;go_roundw
   (case rel=>exact ⟨i+1,Z,Z,aY,BV⟩);case measure=>simp [intOf];omega
  go_wp2_with fail;apply T.out;exact l
theorem D1 (W:World) (B:Nat) (v:Value) (n:Nat) (ys:List Int) (b:W.ownsRow B 5 1 v n (Ns .u8 ys)) (a:Option Addr) (m c:Nat) (zs:List Int) (t:IsRow .u8 W a m c zs) (K:n+m<=2000000) (y:B<=W.heap.size) :
  ∃ i d,(Builtin.append_ #[22,22] 22 #[v,.slice a m c]).run prog W=.ok i d/\d.ownsRow B 5 1 i (n+m) (Ns .u8 (ys++zs.take m))/\W.grownBy d v.ownBlock:=by
 obtain⟨r,e,k,l,o⟩:=G0 Tryz.info5By;rcases t with ⟨rfl,rfl,rfl,rfl⟩|⟨x,rfl,L,M,N,z,O⟩;·refine⟨v,W,run_append_owned_none (P:=prog) (w:=W) B 22 22 5 r 1 underlying22 e v n _ b,by simpa using b,⟨rfl,rfl,rfl,Fv _,λ_ _ _=>rfl⟩⟩
 have s:(zs.take m).length=m:=bG;have p:∀ j u,(Ns .u8 (zs.take m))[j]?=some u->W.cell? (x.add j)=some u:=λj u q=>by
  have f:=(Fz.1 q).1;rw [bv,s] at f;have g:j<zs.length:=Z;rw [z j g];simp [Ns,f,g] at q ⊢;exact q
 have g:∀ u∈Ns .u8 (zs.take m),u.oneCell'=true:=λu f=>by
  simp only [Ns,FQ] at f;obtain⟨_,_,rfl⟩:=f;rfl
 obtain⟨i,d,A,F,G,_⟩:=Ia (P:=prog) W B 22 22 5 r (.int .u8 0) 1 1 underlying22 e k l o rfl Z v n _ b x m c (Ns .u8 (zs.take m)) (by rw [bv,s,Nat.mul_one]) p g (by unfold maxLen;omega) Z y;exact⟨i,d,A,by simpa [Ns] using F,G⟩
structure Byq9 (B:Nat) (d:Option Addr) (n c:Nat) (bs:List Int) (W:World):Prop where
 len:bs.length=n
 row:W.ownsRow B 5 1 (.slice d n c) n (Ns .u8 bs)
 ok:∀ y∈bs,0<=y/\y<=255
theorem Byq9.low {d bs} (h:Byq9 B d n c bs W) (b:D W W'):Byq9 B d n c bs W':=⟨h.len,ax h.row b,h.ok⟩
theorem Byq9.cut {d bs} (h:Byq9 B d n c bs W) {k:Nat} (f:k<=n) (t:0<k):Byq9 B d k c (bs.take k) W:=by
 have u:=h.len;refine⟨by rw [Hm];omega,⟨by rw [bv,Hm];omega,?_⟩,λy i=>h.ok y (List.mem_of_mem_take i)⟩;rcases h.row.2 with ⟨e,v⟩|⟨g,j,a,e,l,m,w,o,p,b⟩;·omega
 injection e with q _ r;subst q r;refine .inr ⟨g,c,a,rfl,l,m,Z,o,p,?_⟩;rw [Nat.mul_one] at b ⊢;have s:Ns .u8 (bs.take k)=(Ns .u8 bs).take k:=by simp [Ns,List.map_take]
 rw [s,<-b,List.take_take,Hz f]
theorem uE {a:Option Addr} {m:Nat} (g:IsRow .u8 W a m c zs) (u:m<=1048576) :
  ∃ (d:Option Addr) (e:Nat) (b:List Int) (i:World),(Builtin.append_ #[22,22] 22 #[Vl W.heap.size 2 2,.slice a m c]).run prog (W.alloc (.cells #[.int .u8 7,.int .u8 9] 5))=.ok (.slice d (2+m) e) i/\Byq9 W.heap.size d (2+m) e b i/\D W i:=by
 have j:=(Fu W.heap.size W).alloc (Fv _) (.cells #[.int .u8 7,.int .u8 9] 5);have n:(W.alloc (.cells #[.int .u8 7,.int .u8 9] 5)).ownsRow W.heap.size 5 1 (Vl W.heap.size 2 2) 2 (Ns .u8 [7,9]):=⟨rfl,.inr ⟨_,2,_,rfl,Fv _,ao W _,Fv _,by unfold maxLen;omega,rfl,rfl⟩⟩;obtain⟨v,i,o,k,p⟩:=D1 _ _ _ _ _ n a m c zs (g.below j) Z j.size;have q:=g.len;obtain⟨d,b,e,rfl⟩:=fW k;obtain rfl:=ik k;refine⟨d,e,_,i,o,⟨by rw [FC,q];rfl,k,λy f=>?_⟩,j.grown p j.size (λr g=>by simp [Value.ownBlock] at g;omega)⟩;rcases F8.1 f with f|f;·simp at f;omega
 rcases g with ⟨_,_,_,rfl⟩|⟨x,_,_,_,_,_,r⟩;·simp at f
 have l:=r y (List.mem_of_mem_take f);have s:IntKind.u8.min=0:=rfl;have t:IntKind.u8.max=255:=rfl;simp only [Lit.wf,s,t,Gi,Hj] at l;exact l
def jN (n:Nat):Code->Option Code
 | .region k c d=>if k=n then some (.region k c d) else none
 | .block _ c=>jN n c
 | .seq a b=>match jN n a with
  | some c=>some c
  | none=>jN n b
 | .scope c=>jN n c
 | .loop c=>jN n c
 | .cond _ a b=>match jN n a with
  | some c=>some c
  | none=>jN n b
 | _=>none
theorem Bt (V e:World) (B F:Nat) (A:Option Addr) (n:Nat) (b:List df) (q:df) (hN:b.length<=250) (f:V.ownsRow B 42 6 (.slice A b.length n) b.length (iT b)) (g:D V e) (i:e.heap[F]?=some (.cells #[I q.o.kd,I q.o.ref,U q.o.p,U q.o.a,U q.o.b,.slice q.d q.o.ys.length q.dc] 42))
  (K:Act->World->Prop) (Q:Exit->Act->World->Prop) (j:∀ c (a:Act) (d:Option Tmp) v w,Q (.panic c) (a.put d v) w->Q (.panic c) a w) (u0 u1 u2 u3 u4 u5 u7 u8 u9 u11 u12 u13 u14 u15 u16 u17 u18 u19 u20 u21 u22 u23 u24 u25 u26 u27 u28 u29 u30 u31 u32 u33 u34 u35 u36 u37 u38 u39 u40 u41 u42 u43 u44 u45 u46 u47 u48 u49 u50 u51 u52 u53 u54 u55 u56 u57 u58 u59 u60 u61 u62 u63 u64 u65 u66 u67 u68 u69 u70 u71 u72 u73 u74 u75 u76 u77 u78 u79 u80 u81 u82 u83 u84 u85 u86 u87 u88 u89 u90 u91 u92 u93 u94 u95 u96 u97 u98 u99 u100 u101 u102 u103 u104 u105 u106 u107 u108 u109 u110 u111 u112 u113 u114 u115 u116 u117 u118 u119 u120 u121 u122 u123 u124 u125 u126 u127 u128 u129 u130 u131 u132 u133 u134 u135 u136 u137 u138 u139 u140 u141 u142 u143 u144 u145 u146 u147 u148 u149 u150 u151 u152 u153 u154 u155 u156 u157 u158 u159 u160 u161 u162 u163 u164 u165 u166 u167 u168 u169 u170 u171 u172 u173 u174 u175 u176 u177 u178 u179 u180 u181 u182 u183 u184 u185 u186 u187 u188 u189 u190 u191 u192 u193 u194 u195 u196 u197 u198 u199 u200 u201 u202 u203 u204 u205 u206 u207 u208 u209 u210 u211 u212 u213:Value) (a:∀ (p:Option Addr) (s:Nat) (d t v x y z:Value) (N:World),d=.slice p (b.length+1) s->Hid (Or7 e (b++[q]) (.slice p (b.length+1) s) N)->K ⟨#[u0,u1,u2,u3,u4,u5,.slice A b.length n,u7,u8,u9,J F 0,u11,u12,d,u14,u15,u16,u17,u18,u19,u20,u21,u22,u23,u24,u25,u26,u27,u28,u29,u30,u31,u32,u33,u34,u35,u36,u37,u38,u39,u40,u41,u42,u43,u44,u45,u46,u47,u48,u49,u50,u51,u52,u53,u54,u55,u56,u57,u58,u59,u60,u61,u62,u63,u64,u65,u66,u67,u68,u69,u70,u71,u72,u73,u74,u75,u76,u77,u78,u79,u80,u81,u82,u83,u84,u85,u86,u87,u88,t,v,x,y,z,u94,u95,u96,u97,u98,u99,u100,u101,u102,u103,u104,u105,u106,u107,u108,u109,u110,u111,u112,u113,u114,u115,u116,u117,u118,u119,u120,u121,u122,u123,u124,u125,u126,u127,u128,u129,u130,u131,u132,u133,u134,u135,u136,u137,u138,u139,u140,u141,u142,u143,u144,u145,u146,u147,u148,u149,u150,u151,u152,u153,u154,u155,u156,u157,u158,u159,u160,u161,u162,u163,u164,u165,u166,u167,u168,u169,u170,u171,u172,u173,u174,u175,u176,u177,u178,u179,u180,u181,u182,u183,u184,u185,u186,u187,u188,u189,u190,u191,u192,u193,u194,u195,u196,u197,u198,u199,u200,u201,u202,u203,u204,u205,u206,u207,u208,u209,u210,u211,u212,u213],[]⟩ N) :
  Code.wp prog ((Tryz.f4.body.bind (jN 18)).getD .skip) (Exit.then K Q) ⟨#[u0,u1,u2,u3,u4,u5,.slice A b.length n,u7,u8,u9,J F 0,u11,u12,u13,u14,u15,u16,u17,u18,u19,u20,u21,u22,u23,u24,u25,u26,u27,u28,u29,u30,u31,u32,u33,u34,u35,u36,u37,u38,u39,u40,u41,u42,u43,u44,u45,u46,u47,u48,u49,u50,u51,u52,u53,u54,u55,u56,u57,u58,u59,u60,u61,u62,u63,u64,u65,u66,u67,u68,u69,u70,u71,u72,u73,u74,u75,u76,u77,u78,u79,u80,u81,u82,u83,u84,u85,u86,u87,u88,u89,u90,u91,u92,u93,u94,u95,u96,u97,u98,u99,u100,u101,u102,u103,u104,u105,u106,u107,u108,u109,u110,u111,u112,u113,u114,u115,u116,u117,u118,u119,u120,u121,u122,u123,u124,u125,u126,u127,u128,u129,u130,u131,u132,u133,u134,u135,u136,u137,u138,u139,u140,u141,u142,u143,u144,u145,u146,u147,u148,u149,u150,u151,u152,u153,u154,u155,u156,u157,u158,u159,u160,u161,u162,u163,u164,u165,u166,u167,u168,u169,u170,u171,u172,u173,u174,u175,u176,u177,u178,u179,u180,u181,u182,u183,u184,u185,u186,u187,u188,u189,u190,u191,u192,u193,u194,u195,u196,u197,u198,u199,u200,u201,u202,u203,u204,u205,u206,u207,u208,u209,u210,u211,u212,u213],[]⟩ e:=by
 have HK:=H (λp s t v x y z N h=>a p s (.slice p (b.length+1) s) t v x y z N rfl h);have O:=H j;have RW:=H f;have G:=H g;have P:=H i;clear a j f g i
 conv=>arg 2;whnf
 refine rh (S:=λa=>D e a) ?_;have i:=(show D e e.drew from (Fu e.heap.size e).drew);refine pk 0 (.slice A b.length n) i ?_  (hQ:=λ_ _ _ h=>O.out _ _ _ _ _ h);simp only [lz,l0,ls];refine pf 2 (.agg #[I q.o.kd,I q.o.ref,U q.o.p,U q.o.a,U q.o.b,.slice q.d q.o.ys.length q.dc]) rfl i (λW h=>zR 42 _ rfl F rfl (run_loadVar_row _ F 42 42 _ (0,0) _ (IU h P) underlying42 rfl E)) ?_  (hQ:=λ_ _ _ h=>O.out _ _ _ _ _ h);simp only [lz,l0,ls];generalize d:e.drew=L at i ⊢;have a:({ heap:=e.heap,tape:=e.tape,drawn:=e.drawn+1,os:=e.os,output:=e.output } : World)=L:=d
 try rw [a]
 clear d a;refine wpAnyH_ready (rs:=[1,3]) E bH ?_;refine AllReadyH.cons rfl (λK' a=>?_) (AllReadyH.cons rfl (λK' a=>?_) AllReadyH.nil)
 ·obtain⟨a4,c4,M,l,o⟩:=oK RW (az G i) Z;have d:=az i o.bel;rw [GP E];refine aV 27 (.const (C)) (.tmp 89) E E E E l ?_;refine a _ _ d (λ_=>?_);clear a K';simp only [lz,l0,ls];have k:=(Fu M.heap.size M).alloc (Fv _) (.cells #[I q.o.kd,I q.o.ref,U q.o.p,U q.o.a,U q.o.b,.slice q.d q.o.ys.length q.dc] 42);refine po 3 λK' a=>?_;go_simp;refine a _ _ ⟨az d k,?_⟩;clear a K';simp only [lz,l0,ls];obtain⟨p,s,R,f,m,T,_⟩:=ql (ax o.row k) q M.heap.size 1 (λj u X=>by rw [GT _ _ _ _ _ _ (ao M _)];show (fH q).toArray[j]?=some u;rw [List.getElem?_toArray];exact X) Z (az o.bel k).size;refine po 4 λK' a=>?_
  refine aV 27 (.tmp 90) (.tmp 92) E E E E f ?_;have g:D e R:=(az d k).grown T (az d k).size (λr Y=>Fx i.size (aF (ax o.row k) Y).1);refine a _ _ ⟨g,?_⟩;clear a K';simp only [lz,l0,ls];refine pk 5 (.slice p (b.length+1) s) g ?_  (hQ:=λ_ _ _ h=>O.out _ _ _ _ _ h)
  try simp only [lz,l0,ls]
  refine bY ?_;apply HK.out;exact H ⟨g,gz i.size m⟩
 have k:=(Fu L.heap.size L).alloc (Fv _) (.cells #[I q.o.kd,I q.o.ref,U q.o.p,U q.o.a,U q.o.b,.slice q.d q.o.ys.length q.dc] 42);rw [GP E];go_simp;refine a _ _ (az i k) (λ_=>?_);clear a K';simp only [lz,l0,ls];obtain⟨a4,c4,M,l,o⟩:=oK RW (az G (az i k)) Z;have d:=az (az i k) o.bel;refine po 1 λK' a=>?_;refine aV 27 (.const (C)) (.tmp 89) E E E E l ?_;refine a _ _ ⟨d,?_⟩;clear a K';simp only [lz,l0,ls];obtain⟨p,s,R,f,m,T,_⟩:=ql o.row q L.heap.size 1 (λj u X=>ad o.bel (by rw [GT _ _ _ _ _ _ (ao L _)];show (fH q).toArray[j]?=some u;rw [List.getElem?_toArray];exact X)) Z o.bel.size;refine po 4 λK' a=>?_
 refine aV 27 (.tmp 90) (.tmp 92) E E E E f ?_;have g:D e R:=d.grown T d.size (λr Y=>Fx (az i k).size (aF o.row Y).1);refine a _ _ ⟨g,?_⟩;clear a K';simp only [lz,l0,ls];refine pk 5 (.slice p (b.length+1) s) g ?_  (hQ:=λ_ _ _ h=>O.out _ _ _ _ _ h)
 try simp only [lz,l0,ls]
 refine bY ?_;apply HK.out;exact H ⟨g,gz (az i k).size m⟩
theorem Cu (h) {x:Nat×Nat×Nat} (a:x∈I1 h 12):x.1<12/\x.2.1<6/\x.2.2<aM x.1:=by
 unfold I1 at a;obtain⟨c,b,a⟩:=List.mem_flatMap.1 a;unfold I2 at a;obtain⟨s,d,a⟩:=List.mem_flatMap.1 a;unfold I3 at a;obtain⟨j,e,rfl⟩:=FQ.1 a;rw [Gh] at b d;exact⟨b,d,Gh.1 (Gk.1 e).1⟩
theorem wG (t:Mt cf h W m0 m1 m2 m3 m4 m5 m6 m7):∃ (b:Option Addr) (a d:Nat),m2=.slice b a d/\a<=100000/\∀ k,k<a->∃ (g c s j:Nat) (y z:Int),b=some ⟨g,0,none⟩/\W.rangeAt g (k*5) [I c,I s,I j,I y,I z]/\c<12/\s<6/\j<aM c:=by
 obtain⟨rs,n,Cq,p,q,s,u,o,⟨a,c,e,r⟩,_⟩:=t;have hI:=Cr h 12 (Fv _);refine⟨a,_,c,e,Z,λk i=>?_⟩;obtain⟨_,g,j,d⟩:=r k i;have b:=Fy i;have f:=Cu h (FM b);have l:=gH (yx h) 5 (λ_=>rfl) (I1 h 12) k _ b;have m:(List.take 5 (List.drop (k*5) (fP h (I1 h 12))))=_:=l;dsimp only at d;rw [m] at d;exact⟨g,_,_,_,_,_,j,d,f.1,f.2.1,f.2.2⟩
def Anw (A:Option Addr) (an:List An4) (W:World):Prop:=∀ j a,an[j]?=some a->∃ G,A=some ⟨G,0,none⟩/\∃ v,W.rangeAt G (j*4) [I a.code,U a.addr,I a.size,v]/\Rd1 .u8 W v a.data
theorem Anw.low {A an} (h:Anw A an W) (b:D W W'):Anw A an W':=λj a ha=>by
 obtain⟨G,c,v,d,e⟩:=h j a ha
 exact⟨G,c,v,λt u f=>ad b (d t u f),e.below b⟩
theorem ts {k:Value} {l:List Aw} {d:List An4} (f:W.ownsRow B 44 4 k l.length (fZ l)) (m:l.map (·.1)=d) (g:∀ z∈l,W.ownsRow B 5 1 z.2 z.1.data.length (Ns .u8 z.1.data)) :
  ∃ A c,k=.slice A d.length c/\Anw A d W:=by
 have e:l.length=d.length:=by rw [<-m,Gz]
 obtain⟨A,c,n,r⟩:=oC f;refine⟨A,c,by rw [n,e],λj a ha=>?_⟩;rw [<-m,Gv] at ha;cases b:l[j]? with
 | none=>rw [b] at ha;cases ha
 | some y =>
  rw [b] at ha;simp at ha;subst ha;have o:=(Fz.1 b).1;obtain⟨_,G,p,i⟩:=r j o;have q:=gH aC 4 (λ_=>rfl) l j y b;have s:(List.take 4 (List.drop (j*4) (fZ l)))=_:=q;dsimp only at i;rw [s] at i;exact⟨G,p,y.2,i,qF (g y (FM b))⟩
theorem Az (x:Nat) (W) (a:x<18446744073709551616):Od6 0 (mX x) W:=⟨a,show (16:Nat)<18446744073709551616 by decide,show (0:Nat)<18446744073709551616 by decide,⟨rfl,.inl ⟨rfl,rfl⟩⟩,show (-9223372036854775808:Int)<=0 by decide,λy b=>by cases b⟩
theorem qI {q} (h:Od6 B q W):Od6 0 q W:=⟨h.p,h.a,h.b,gz (FH _) h.d,h.r,h.y⟩
theorem wj (a:List Nat):(a.map mX).map df.o=a.map qP:=by rw [List.map_map];rfl
end
end Go.Proofs.YtdngbppdomoenaaGreatDoor
