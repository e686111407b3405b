import Derived.Test.YtdngbppdomoenaaGreatDoorN41
set_option linter.unusedVariables false
set_option linter.unusedSimpArgs false
set_option maxRecDepth 20000
set_option maxHeartbeats 8000000
namespace Go.Proofs.YtdngbppdomoenaaGreatDoor
open Go.Proofs.Tryz
variable {W w:World} {B n:Nat} {v:Value} {o:Oper} {a:Act}
section
open Go.RowKit Go.Maps
theorem rb (cf):∀ (l r:List fL) (h:Hs) (a:List An4),bd cf (l++r) h a=bd cf r (bd cf l h a).1 (bd cf l h a).2
 | [],r,h,a=>rfl
 | o::l,r,h,a=>rb cf l r _ _
end
section
open Go.RowKit Go.Shelf Go.Maps
theorem kn (l):(iT l).length=l.length*6:=by
 induction l with
 | nil=>rfl
 | cons q l a=>rw [show iT (q::l)=fH q++iT l from rfl,FC,a,FN];simp [fH];omega
theorem rP (l r:List df):iT (l++r)=iT l++iT r:=by unfold iT;rw [Gu]
theorem xm {c:List df} (l:W.ownsRow B 42 6 v c.length (iT c)) (a:List df) (G p:Nat)
  (r:∀ k q,a[k]?=some q->∀ j u,(fH q)[j]?=some u->W.cell? ⟨G,k*6+j,none⟩=some u) (A:c.length+a.length<=1000) (s:B<=W.heap.size) :
  ∃ i d,(Builtin.append_ #[27,27] 27 #[v,.slice (some ⟨G,0,none⟩) a.length p]).run prog W=.ok i d/\d.ownsRow B 42 6 i (c++a).length (iT (c++a))/\W.grownBy d v.ownBlock:=by
 obtain⟨t,k,m,n,o⟩:=G0 yK;have x:∀ j u,(iT a)[j]?=some u->W.cell? ((⟨G,0,none⟩:Addr).add j)=some u:=λj u f=>by
  have y:(⟨G,0,none⟩:Addr).add j=⟨G,j,none⟩:=by cases j <;> simp [Addr.add]
  have z:=(Fz.1 f).1;rw [kn] at z;obtain⟨q,g⟩:∃ q,a[j/6]?=some q:=⟨_,Fy Z⟩;have e:=flat_get fH 6 (λ_=>rfl) a (j/6) (j%6) q g Z;have b:j/6*6+j%6=j:=Z;rw [b] at e;have:=r (j/6) q g (j%6) u (by rw [<-e];exact f);rw [b] at this;rw [y];exact this
 have b:∀ u∈iT a,u.oneCell'=true:=λu f=>by
  unfold iT at f;obtain⟨q,_,g⟩:=List.mem_flatMap.1 f;simp [fH] at g;rcases g with rfl|rfl|rfl|rfl|rfl|rfl <;> rfl
 obtain⟨i,d,e,y,z,_⟩:=run_append_own_at (P:=prog) (w:=W) B 27 27 42 t _ 6 64 underlying27 k m n o rfl Z _ _ _ l ⟨G,0,none⟩ a.length p (iT a) (kn _) x b (by unfold maxLen;omega) Z s;refine⟨i,d,e,?_,z⟩;rw [FC,rP];exact y
theorem IU {w'} (h:D w w') {g:Nat} {o:Obj} (a:w.heap[g]?=some o):w'.heap[g]?=some o:=by rw [h.block g (ag a)];exact a
theorem Od6.bel {q W'} (h:Od6 B q W) (b:D W W'):Od6 B q W':=⟨h.p,h.a,h.b,by
 rcases h.d.2 with a|⟨g,e,c,f,a,d,i⟩
 ·exact⟨h.d.1,.inl a⟩
 ·exact⟨h.d.1,.inr ⟨g,e,c,f,a,by rw [b.block g (ag d)];exact d,i⟩⟩,h.r,h.y⟩
def AJ : Prop := ∀ (mi fi la bu ky : Int) (da : Option Addr) (dn dc : Nat) (A : Option Addr) (n cap : Nat) (w : World), ¬ (jg mi fi la bu dn/\n<=300) ->
 Calls prog 12 #[.agg #[.int .i64 mi, .int .i64 fi, .int .i64 la, .int .i64 bu, .int .u64 ky, .slice da dn dc], .slice A n cap] w λe W' => e=.returned (.agg #[.bool false, .slice none 0 0, .int .i64 0, .slice none 0 0, .slice none 0 0, .slice none 0 0, .slice none 0 0, .slice none 0 0, .slice none 0 0, .int .i64 0])/\D w W'
theorem zR (b:TypeId) (x:Operand) (d:o.op=.load b x) (g:Nat) (e:a.eval x=.pointer (some ⟨g,0,none⟩)) {c:Array Value} (f:(loadVar b ⟨g,0,none⟩).run prog w=.ok (.agg c) w):(execOp a.eval o).run prog w=.ok (.value (.agg c)) w:=by
 unfold execOp;simp only [d,e,Instr.loadAt,Instr.sureAddr,Sem.run_bind,Sem.run_pure,Result.andThen_ok,f]
theorem Ois.low {V A ops} (h:Ois w A ops) (b:D w V):Ois V A ops :=
 ⟨λk q a=>by obtain ⟨G,c,d,e⟩:=h.at_ k q a;exact⟨G,c,FG d b.size,λj u f=>ad b (e j u f)⟩,h.wf,λq a i g=>by obtain ⟨x,c,d,e⟩:=h.dat q a i g;exact⟨x,c,ad b d,FG e b.size⟩⟩
theorem ER (V) (k:Nat):D V (V.drewN k):=⟨rfl,rfl,rfl,Fv _,λ_ _=>rfl⟩
theorem uw {b c d e f g i j k:Value} (a:∀ v∈[b,c,d,e,f,g,i,j,k],v.oneCell'=true):(#[.bool true,b,c,d,e,f,g,i,j,k]:Array Value).all (·.oneCell')=true:=by
 have h:=a;simp only [F4,Gp,or_false,forall_eq_or_imp,forall_eq] at h;obtain⟨l,m,n,o,p,q,r,s,t⟩:=h;rw [<-Array.all_toList];simp only [List.all_cons,List.all_nil,Bool.and_true,Gi];exact⟨rfl,l,m,n,o,p,q,r,s,t⟩
def Rd1 (k:IntKind) (w:World) (u:Value) (e:List Int):Prop:=∃ a c,u=.slice a e.length c/\∀ i,i<e.length->∃ g,a=some ⟨g,0,none⟩/\w.cell? ⟨g,i,none⟩=some (.int k (e[i]?.getD 0))
theorem Rd1.below {k u zs} (h:Rd1 k w u zs) (b:D w W):Rd1 k W u zs:=by
 obtain⟨a,c,e,h⟩:=h;exact⟨a,c,e,λi d=>by obtain ⟨g,f,j⟩:=h i d;exact⟨g,f,ad b j⟩⟩
theorem Rd1.sl {k u zs} (h:Rd1 k w u zs):∃ a b c,u=.slice a b c:=by obtain ⟨a,c,e,_⟩:=h;exact⟨_,_,_,e⟩
theorem pq (u1 u2:Value) (a:List Int) (w:World) (g:Rd1 .i64 w u1 a) (k:Rd1 .i64 w u2 a) (l:a.length<=1048576):Calls prog 22 #[u1,u2] w λe o=>e=.returned (.bool true)/\∃ m,o=w.drewN m:=by
 obtain⟨r,s,rfl,c⟩:=g;obtain⟨t,u,rfl,d⟩:=k;have p:=H c;have q:=H d;obtain⟨n,b⟩:∃ n,a.length=n:=⟨_,rfl⟩;rw [b] at l ⊢;have f:=H b;clear c d b;go_enter func22,ntmps22;go_wp2_with fail;go_loopw [13] (λi wr=>∃ j m:Nat,j<=n/\i=I j/\Hid (wr=w.drewN m)) (λi _=>n-(intOf i).toNat);case atStart=>exact ⟨0,0,FH _,rfl,H (World.drewN_zero w).symm⟩
 case round =>
  obtain⟨j,m,v,rfl,b⟩:=hrel;obtain rfl:=b.out;clear b;by_cases b:j<n
  ·obtain⟨x,rfl,c⟩:=p.out j (by rw [f.out];exact b);obtain⟨y,rfl,d⟩:=q.out j (by rw [f.out];exact b);generalize a[j]?.getD 0=z at c d;(go_upto_region 6 with fail);go_quiet (fail);go_wp2;go_roundw;(case rel=>exact ⟨j+1,m+nq,Z,aY,H rfl⟩);case measure=>simp [intOf];omega
  go_wp2;go_ret;exact⟨rfl,m,rfl⟩
theorem tJ (u1 u2:Value) (a:List Int) (w:World) (g:Rd1 .u64 w u1 a) (k:Rd1 .u64 w u2 a) (l:a.length<=1048576):Calls prog 47 #[u1,u2] w λe o=>e=.returned (.bool true)/\∃ m,o=w.drewN m:=by
 obtain⟨r,s,rfl,c⟩:=g;obtain⟨t,u,rfl,d⟩:=k;have p:=H c;have q:=H d;obtain⟨n,b⟩:∃ n,a.length=n:=⟨_,rfl⟩;rw [b] at l ⊢;have f:=H b;clear c d b;go_enter func47,ntmps47;go_wp2_with fail;go_loopw [13] (λi wr=>∃ j m:Nat,j<=n/\i=I j/\Hid (wr=w.drewN m)) (λi _=>n-(intOf i).toNat);case atStart=>exact ⟨0,0,FH _,rfl,H (World.drewN_zero w).symm⟩
 case round =>
  obtain⟨j,m,v,rfl,b⟩:=hrel;obtain rfl:=b.out;clear b;by_cases b:j<n
  ·obtain⟨x,rfl,c⟩:=p.out j (by rw [f.out];exact b);obtain⟨y,rfl,d⟩:=q.out j (by rw [f.out];exact b);generalize a[j]?.getD 0=z at c d;(go_upto_region 6 with fail);go_quiet (fail);go_wp2;go_roundw;(case rel=>exact ⟨j+1,m+nq,Z,aY,H rfl⟩);case measure=>simp [intOf];omega
  go_wp2;go_ret;exact⟨rfl,m,rfl⟩
def Re (w:World) (v:Value) (n sz:Nat) (e:Nat->List Value):Prop:=∃ a c,v=.slice a n c/\∀ k,k<n->(e k).length=sz/\∃ g,a=some ⟨g,0,none⟩/\w.rangeAt g (k*sz) (e k)
theorem Re.below {sz Cq9} (h:Re w v n sz Cq9) (b:D w W):Re W v n sz Cq9:=by
 obtain⟨a,c,e,h⟩:=h;exact⟨a,c,e,λk d=>by obtain ⟨f,g,i,l⟩:=h k d;exact⟨f,g,i,λj v m=>ad b (l j v m)⟩⟩
theorem Re.sl {sz Cq9} (h:Re w v n sz Cq9):∃ a b c,v=.slice a b c:=by obtain ⟨a,c,e,_⟩:=h;exact⟨_,_,_,e⟩
theorem oC {e sz:Nat} {b:List Value} (h:w.ownsRow B e sz v n b):Re w v n sz (λk=>(b.drop (k*sz)).take sz):=by
 rcases h.2 with ⟨rfl,rfl⟩|⟨g,d,f,rfl,o,i,p,q,r,l⟩;·exact⟨none,0,rfl,λk c=>Z⟩
 have m:=h.1;refine⟨_,_,rfl,λk c=>⟨?_,g,rfl,λj u a=>?_⟩⟩;·rw [Hm,List.length_drop,m];have:(k+1)*sz<=n*sz:=Gm _ c;rw [Gy] at this;omega
 rw [GT _ _ _ _ _ _ i];rw [Gx] at a;split at a
 ·rw [IR,<-l] at a;rw [Gx] at a;split at a;·simpa using a
  cases a
 cases a
theorem jx (b:TypeId) (x:Operand) (d:o.op=.load b x) (g i) (e:a.eval x=J g i) {c:Array Value} (f:(loadVar b ⟨g,i,none⟩).run prog w=.ok (.agg c) w):(execOp a.eval o).run prog w=.ok (.value (.agg c)) w:=by
 unfold execOp;simp only [d,e,Instr.loadAt,Instr.sureAddr,Sem.run_bind,Sem.run_pure,Result.andThen_ok,f]
theorem tR {b c:TypeId} {x y:Operand} {d e:Array Value} (f:o.op=.binOp .neq b x y c) (g:a.eval x=.agg d) (i:a.eval y=.agg e) (j:(binOp .neq b (.agg d) (.agg e)).run prog w=.ok (.bool false) w) (k:prog.eqGuardType prog.depth b=false:=by kernel_rfl):(execOp a.eval o).run prog w=.ok (.value (.bool false)) w:=by
 unfold execOp;simp only [f,g,i,Sem.run_bind,run_eqGuard_agg _ _ _ _ _ _ _ k,Result.andThen_ok,j,Sem.run_pure]
theorem nD (w) (a b:Array Value) (t:TypeId):D w ((w.alloc (.cells a t)).alloc (.cells b t))/\((w.alloc (.cells a t)).alloc (.cells b t)).heap[w.heap.size]?=some (.cells a t)/\((w.alloc (.cells a t)).alloc (.cells b t)).heap[w.heap.size+1]?=some (.cells b t):=by
 refine⟨((Fu _ _).alloc (Fv _) _).alloc (by rw [aO];omega) _,?_,?_⟩;·rw [eg _ _ _ (by rw [aO];omega)];exact ao _ _
 rw [<-aO w (.cells a t)];exact ao _ _
theorem EM (a b c d f) (W:World):(binOp .neq 51 (.agg #[I a,I b,I c,I d,I f]) (.agg #[I a,I b,I c,I d,I f])).run prog W=.ok (.bool false) W:=by
 have u3:=underlying3;have i:=Tryz.isAgg3;have j:=Tryz.sizeOf3;have u23:=underlying23;have e:=Tryz.isAgg23;have g:=Tryz.sizeOf23;rw [run_neq_struct,run_equalIn_agg _ _ _ _ _ E E];simp only [Program.fieldsOf,underlying51];go_simp
theorem EO (a b c d f) (W:World):(binOp .neq 66 (.agg #[U a,I b,I c,I d,I f]) (.agg #[U a,I b,I c,I d,I f])).run prog W=.ok (.bool false) W:=by
 have u3:=underlying3;have i:=Tryz.isAgg3;have j:=Tryz.sizeOf3;have u23:=underlying23;have e:=Tryz.isAgg23;have g:=Tryz.sizeOf23;rw [run_neq_struct,run_equalIn_agg _ _ _ _ _ E E];simp only [Program.fieldsOf,underlying66];go_simp
theorem sH (w:World) (k:Int) (u f) (p q r:List Int) (nsq9 nrq9 S R Cq Dqq9) (M F:Nat->List Int) (vo:Value) (vs vw vr) (vl ve d0:Value) (vs' vw' vr') (d7 d8:Value) (o1:Rd1 .i64 w vo p) (o2:Rd1 .i64 w d0 p) (l1:Rd1 .u64 w vl q) (l2:Rd1 .u64 w d7 q) (e1:Rd1 .u64 w ve r) (e2:Rd1 .u64 w d8 r) (l:Re w vs nsq9 5 S) (m:Re w vs' nsq9 5 S) (o:∀ k,k<nsq9->∃ a b c d e:Int,S k=[I a,I b,I c,I d,I e]) (s:Re w vr nrq9 5 R) (t:Re w vr' nrq9 5 R) (x:∀ k,k<nrq9->∃ a b c d e:Int,R k=[U a,I b,I c,I d,I e]) (O:Re w vw 12 3 Cq) (Q:Re w vw' 12 3 Dqq9) (g:∀ k,k<12->∃ u1 u2,Cq k=[u1,u2,I f]/\Rd1 .i64 w u1 (M k)/\Rd1 .i64 w u2 (F k)) (y:∀ k,k<12->∃ u1 u2,Dqq9 k=[u1,u2,I f]/\Rd1 .i64 w u1 (M k)/\Rd1 .i64 w u2 (F k)) (z:p.length<=100000) (A:q.length<=100000) (B:r.length<=100000) (e4:nsq9<=100000) (e5:nrq9<=100000) (G:∀ k,k<12->(M k).length<=100000/\(F k).length<=100000) :
  Calls prog 17 #[.agg #[I k,vo,vs,vw,vr,vl,ve,I u],.agg #[I k,d0,vs',vw',vr',d7,d8,I u]] w λe w'=>e=.returned (.bool true)/\D w w':=by
 have O1:=H o1;have O2:=H o2;have L1:=H l1;have L2:=H l2;have E1:=H e1;have E2:=H e2;obtain⟨a1,c1,rfl,T⟩:=o1;obtain⟨b1,d1,rfl,V⟩:=o2;obtain⟨a5,c5,rfl,Y⟩:=l1;obtain⟨b5,d5,rfl,i4⟩:=l2;obtain⟨a6,c6,rfl,i5⟩:=e1;obtain⟨b6,d6,rfl,i6⟩:=e2;obtain⟨a2,c2,rfl,l⟩:=l;obtain⟨b2,d2,rfl,m⟩:=m;obtain⟨a4,c4,rfl,s⟩:=s;obtain⟨b4,d4,rfl,t⟩:=t;obtain⟨a3,c3,rfl,O⟩:=O;obtain⟨b3,d3,rfl,Q⟩:=Q;obtain⟨K,L,N⟩:=nD w #[I k,.slice a1 p.length c1,.slice a2 nsq9 c2,.slice a3 12 c3,.slice a4 nrq9 c4,.slice a5 q.length c5,.slice a6 r.length c6,I u] #[I k,.slice b1 p.length d1,.slice b2 nsq9 d2,.slice b3 12 d3,.slice b4 nrq9 d4,.slice b5 q.length d5,.slice b6 r.length d6,I u] 36;have S1:=H l;have S2:=H m;have HS:=H o;have R1:=H s;have R2:=H t;have HR:=H x;have Q1:=H O;have Q2:=H Q;have HC:=H g;have HD:=H y;have HM:=H G;have X:=H (IT z (IT A B));have B0:=H K;have i:=H L;have j:=H N;clear T V Y i4 i5 i6 l m o s t x O Q g y G K L N z A B;have n0:(k != k)=false:=bH;have n7:(u != u)=false:=bH;go_enter func17,ntmps17;go_upto_region 1 with fail
 generalize (w.alloc _).alloc _=g at B0 i j ⊢;generalize p.length=no at i j O1 O2 ⊢;generalize q.length=V at i j L1 L2 ⊢;generalize r.length=ne at i j E1 E2 ⊢;obtain⟨P,m⟩:∃ P,w.heap.size=P:=⟨_,rfl⟩;obtain⟨B,l⟩:∃ B,w.heap.size+1=B:=⟨_,rfl⟩;rw [m] at i;rw [l] at j;simp only [l];simp only [m];have x0:g.cell? ⟨P,0,none⟩=some (I k):=bJ i.out;have y0:g.cell? ⟨B,0,none⟩=some (I k):=bJ j.out;have x1:g.cell? ⟨P,1,none⟩=some (.slice a1 no c1):=bJ i.out;have y1:g.cell? ⟨B,1,none⟩=some (.slice b1 no d1):=bJ j.out;have x2:g.cell? ⟨P,2,none⟩=some (.slice a2 nsq9 c2):=bJ i.out;have y2:g.cell? ⟨B,2,none⟩=some (.slice b2 nsq9 d2):=bJ j.out;have x3:g.cell? ⟨P,3,none⟩=some (.slice a3 12 c3):=bJ i.out;have y3:g.cell? ⟨B,3,none⟩=some (.slice b3 12 d3):=bJ j.out;have x4:g.cell? ⟨P,4,none⟩=some (.slice a4 nrq9 c4):=bJ i.out;have y4:g.cell? ⟨B,4,none⟩=some (.slice b4 nrq9 d4):=bJ j.out;have x5:g.cell? ⟨P,5,none⟩=some (.slice a5 V c5):=bJ i.out;have y5:g.cell? ⟨B,5,none⟩=some (.slice b5 V d5):=bJ j.out;have x6:g.cell? ⟨P,6,none⟩=some (.slice a6 ne c6):=bJ i.out;have y6:g.cell? ⟨B,6,none⟩=some (.slice b6 ne d6):=bJ j.out;have x7:g.cell? ⟨P,7,none⟩=some (I u):=bJ i.out;have y7:g.cell? ⟨B,7,none⟩=some (I u):=bJ j.out;have e6:=H (IT m l);clear m l i j;go_wp2_with fail;go_loopw [50] (λi wr=>∃ j m:Nat,j<=nsq9/\i=I j/\Hid (wr=g.drewN m)) (λi _=>nsq9-(intOf i).toNat);case atStart=>exact ⟨0,0,FH _,rfl,H rfl⟩
 case round =>
  obtain⟨j,m,hj,rfl,K⟩:=hrel;obtain rfl:=K.out;clear K;by_cases l:j<nsq9
  ·obtain⟨O,y,rfl,s⟩:=S1.out j l;obtain⟨Q,z,rfl,t⟩:=S2.out j l;obtain⟨a,b,c,d,e,L⟩:=HS.out j l;rw [L] at s t;have Y:D g (g.drewN m).drew:=az (ER g m) (Fu _ _).drew;have L8:=run_loadVar_mid (P:=prog) (g.drewN m).drew y (j*5) 51 _ _ (λx v hv=>ad Y (ad B0.out (s x v hv))) underlying51 rfl E;have M8:=run_loadVar_mid (P:=prog) (g.drewN m).drew z (j*5) 51 _ _ (λx v hv=>ad Y (ad B0.out (t x v hv))) underlying51 rfl E;clear O Q s t L Y;(go_upto_region 6 with fail);refine rh (S:=λA=>(loadVar 51 ⟨y,j*5,none⟩).run prog A=.ok (.agg #[I a,I b,I c,I d,I e]) A/\(loadVar 51 ⟨z,j*5,none⟩).run prog A=.ok (.agg #[I a,I b,I c,I d,I e]) A/\A.cell? ⟨P,2,none⟩=some (Vl y nsq9 c2)/\A.cell? ⟨B,2,none⟩=some (Vl z nsq9 d2)) ?_;have o:=(show _/\_/\_/\_ from ⟨L8,M8,x2,y2⟩);refine pk 0 (J P 2) o ?_;refine pz 1 (Vl y nsq9 c2) o ?_;refine pk 2 (I j) o ?_;refine pz 3 (J y (j*5)) o ?_;refine pf 4 (.agg #[I a,I b,I c,I d,I e]) rfl o (λW h=>jx 51 _ rfl y (j*5) rfl h.1) ?_;refine pk 5 (J B 2) o ?_;refine pz 6 (Vl z nsq9 d2) o ?_;refine pk 7 (I j) o ?_;refine pz 8 (J z (j*5)) o ?_;refine pf 9 (.agg #[I a,I b,I c,I d,I e]) rfl o (λW h=>jx 51 _ rfl z (j*5) rfl h.2.1) ?_;refine pf 10 (.bool false) rfl o (λW h=>tR rfl rfl rfl (EM a b c d e W)) ?_;refine bY ?_;clear o L8 M8;go_wp2;go_roundw;(case rel=>exact ⟨j+1,m+1,Z,aY,H rfl⟩);case measure=>simp [intOf];omega
  clear hj;go_wp2_with fail;go_loopw [68] (λi wr=>∃ j m:Nat,j<=nrq9/\i=I j/\Hid (wr=g.drewN m)) (λi _=>nrq9-(intOf i).toNat);case atStart=>exact ⟨0,_,FH _,rfl,H rfl⟩
  case round =>
   obtain⟨j,m,hj,rfl,K⟩:=hrel;obtain rfl:=K.out;clear K;by_cases l:j<nrq9
   ·obtain⟨O,y,rfl,s⟩:=R1.out j l;obtain⟨Q,z,rfl,t⟩:=R2.out j l;obtain⟨a,b,c,d,e,L⟩:=HR.out j l;rw [L] at s t;have Y:D g (g.drewN m).drew:=az (ER g m) (Fu _ _).drew;have L8:=run_loadVar_mid (P:=prog) (g.drewN m).drew y (j*5) 66 _ _ (λx v hv=>ad Y (ad B0.out (s x v hv))) underlying66 rfl E;have M8:=run_loadVar_mid (P:=prog) (g.drewN m).drew z (j*5) 66 _ _ (λx v hv=>ad Y (ad B0.out (t x v hv))) underlying66 rfl E;clear O Q s t L Y;(go_upto_region 12 with fail);refine rh (S:=λA=>(loadVar 66 ⟨y,j*5,none⟩).run prog A=.ok (.agg #[U a,I b,I c,I d,I e]) A/\(loadVar 66 ⟨z,j*5,none⟩).run prog A=.ok (.agg #[U a,I b,I c,I d,I e]) A/\A.cell? ⟨P,4,none⟩=some (Vl y nrq9 c4)/\A.cell? ⟨B,4,none⟩=some (Vl z nrq9 d4)) ?_;have o:=(show _/\_/\_/\_ from ⟨L8,M8,x4,y4⟩);refine pk 0 (J P 4) o ?_;refine pz 1 (Vl y nrq9 c4) o ?_;refine pk 2 (I j) o ?_;refine pz 3 (J y (j*5)) o ?_;refine pf 4 (.agg #[U a,I b,I c,I d,I e]) rfl o (λW h=>jx 66 _ rfl y (j*5) rfl h.1) ?_;refine pk 5 (J B 4) o ?_;refine pz 6 (Vl z nrq9 d4) o ?_;refine pk 7 (I j) o ?_;refine pz 8 (J z (j*5)) o ?_;refine pf 9 (.agg #[U a,I b,I c,I d,I e]) rfl o (λW h=>jx 66 _ rfl z (j*5) rfl h.2.1) ?_;refine pf 10 (.bool false) rfl o (λW h=>tR rfl rfl rfl (EO a b c d e W)) ?_;refine bY ?_;clear o L8 M8;go_wp2;go_roundw;(case rel=>exact ⟨j+1,m+1,Z,aY,H rfl⟩);case measure=>simp [intOf];omega
   clear hj;go_wp2_with fail;go_loopw [86] (λi wr=>∃ j m:Nat,j<=12/\i=I j/\Hid (wr=g.drewN m)) (λi _=>12-(intOf i).toNat);(case atStart=>exact ⟨0,_,FH _,rfl,H rfl⟩);case round =>
    obtain⟨j,m,hj,rfl,K⟩:=hrel;obtain rfl:=K.out;clear K;by_cases l:j<12
    ·obtain⟨O,y,rfl,s⟩:=Q1.out j l;obtain⟨Q,z,rfl,t⟩:=Q2.out j l;obtain⟨u1,u2,d9,m1,f1⟩:=HC.out j l;obtain⟨w1,w2,e0,m2,f2⟩:=HD.out j l;obtain⟨hm,hf⟩:=HM.out j l;rw [d9] at s;rw [e0] at t;obtain⟨G,T⟩:∃ G,g.drewN m=G:=⟨_,rfl⟩;have B1:=H (show D g G from by rw [<-T];exact ER _ _);have N:=H (az B0.out B1.out);rw [T];have z0:G.cell? ⟨y,j*3,none⟩=some u1:=ad N.out (s 0 _ rfl);have z1:G.cell? ⟨y,j*3+1,none⟩=some u2:=ad N.out (s 1 _ rfl);have z2:G.cell? ⟨y,j*3+2,none⟩=some (I f):=ad N.out (s 2 _ rfl);have z3:G.cell? ⟨z,j*3,none⟩=some w1:=ad N.out (t 0 _ rfl);have z4:G.cell? ⟨z,j*3+1,none⟩=some w2:=ad N.out (t 1 _ rfl);have z5:G.cell? ⟨z,j*3+2,none⟩=some (I f):=ad N.out (t 2 _ rfl);have X3:=ad B1.out x3;have Y3:=ad B1.out y3;have K1:=H (λn=>pq u1 w1 _ (G.drewN n) (m1.below (az N.out (ER _ n))) (m2.below (az N.out (ER _ n))) Z);have K2:=H (λn=>pq u2 w2 _ (G.drewN n) (f1.below (az N.out (ER _ n))) (f2.below (az N.out (ER _ n))) Z);obtain⟨a9,b9,c9,rfl⟩:=m1.sl;obtain⟨a8,b8,c8,rfl⟩:=m2.sl;obtain⟨a7,b7,c7,rfl⟩:=f1.sl;obtain⟨a0,b0,c0,rfl⟩:=f2.sl;have e3:(f != f)=false:=bH;have HV:=H T;clear O Q s t d9 e0 m1 f1 m2 f2 hm hf B1 N T;(go_upto_region 18 with fail);go_cut [133] (λs w'=>s=.bool false/\∃ n,Hid (w'=G.drewN n))
     case first=>as_aux_lemma =>
      go_quiet (first|(go_at_call 22;with_reducible exact Calls.quiet_of (K1.out _))|(go_at_call 22;with_reducible exact Calls.quiet_of (K2.out _)));go_wp2_with fail;go_meet;case rel=>exact ⟨rfl,_,H rfl⟩
     case rest =>
      obtain⟨rfl,n,K⟩:=hcut;have N:=K.out;rw [<-HV.out,World.drewN_drewN] at N;subst N;clear K z0 z1 z2 z3 z4 z5 X3 Y3;go_wp2;go_roundw;(case rel=>exact ⟨j+1,m+n,Z,aY,H rfl⟩);case measure=>simp [intOf];omega
    clear hj;have T:=H (λW (G:D g W)=>pq _ _ _ W ((O1.below B0.out).below G) ((O2.below B0.out).below G) (by have:=X.out;omega));have W2:=H (λW (G:D g W)=>tJ _ _ _ W ((L1.below B0.out).below G) ((L2.below B0.out).below G) (by have:=X.out;omega));have W3:=H (λW (G:D g W)=>tJ _ _ _ W ((E1.below B0.out).below G) ((E2.below B0.out).below G) (by have:=X.out;omega));go_wp2_with fail;refine (T.out _ (ER _ _)).mono ?_;rintro N A ⟨rfl,m1,rfl⟩;go_wp2_with fail;refine (W2.out _ (ER _ _)).mono ?_;rintro N A ⟨rfl,m2,rfl⟩;go_wp2_with fail;refine (W3.out _ (ER _ _)).mono ?_;rintro N A ⟨rfl,m3,rfl⟩;go_wp2;go_ret;exact⟨rfl,az B0.out (ER _ _)⟩
end
end Go.Proofs.YtdngbppdomoenaaGreatDoor
