import Derived.Test.YtdngbppdomoenaaGreatDoorZ01
import Derived.Test.YtdngbppdomoenaaGreatDoorN48
import Derived.Test.YtdngbppdomoenaaGreatDoorN49
set_option linter.unusedVariables false
set_option linter.unusedSimpArgs false
set_option maxRecDepth 20000
set_option maxHeartbeats 8000000
namespace Go.Proofs.YtdngbppdomoenaaGreatDoor
open Go.Proofs.Tryz
variable {V W W' w:World} {B F e g n:Nat} {o:Oper} {a:Act} {A da:Option Addr} {ops:List df} {m0 m1 m2 m3 m4 m5 m6 m7 u v:Value} {zs:List Int} {cf:Cf} {h:Hs} {an:List An4} {c:Cd} {bb:Bool}
section
open Go.RowKit Go.Maps
theorem rb (cf):∀ (l r:List fL) (h:Hs) (an:List An4),bd cf (l++r) h an=bd cf r (bd cf l h an).1 (bd cf l h an).2
 | [],r,h,an=>rfl
 | o::l,r,h,an=>rb cf l r _ _
theorem nD (cf):∀ (r:List fL) (h:Hs) (an:List An4),(bd cf r h an).2.take an.length=an
 | [],h,an=>G9
 | o::r,h,an=>by
  show (bd cf r _ _).2.take an.length=an
  have:=nD cf r (bU cf h an o).2 (an++[(bU cf h an o).1])
  have a:=congrArg (List.take an.length) this
  rw [List.take_take,FC,Hz Z,Iz (Fv _),G9] at a
  exact a
theorem rP (cf) (ops:List fL) (i:Nat) (a:i<=ops.length):(bd cf ops (aP cf) []).2.take i=(bd cf (ops.take i) (aP cf) []).2:=by
 have e:=rb cf (ops.take i) (ops.drop i) (aP cf) [];rw [List.take_append_drop] at e;have:=nD cf (ops.drop i) (bd cf (ops.take i) (aP cf) []).1 (bd cf (ops.take i) (aP cf) []).2;rw [<-e,ft,Hm,Hz a] at this;simpa using this
end
section
open Go.RowKit Go.Shelf Go.Maps
theorem IU {w'} (h:D w w') {o:Obj} (a:w.heap[g]?=some o):w'.heap[g]?=some o:=by rw [h.block g (ag a)];exact a
theorem Od6.bel {q} (h:Od6 B q W) (b:D W W'):Od6 B q W':=⟨h.p,h.a,h.b,by
 rcases h.d.2 with a|⟨g,e,c,f,a,d,i⟩
 ·exact⟨h.d.1,.inl a⟩
 ·exact⟨h.d.1,.inr ⟨g,e,c,f,a,by rw [b.block g (ag d)];exact d,i⟩⟩,h.r,h.y⟩
def AJ : Prop := ∀ (mi fi la bu ky : Int) (da : Option Addr) (dn dc : Nat) (A : Option Addr) (n cap : Nat) (w : World), ¬ (jg mi fi la bu dn/\n<=300) ->
 Calls prog 12 #[.agg #[.int .i64 mi, .int .i64 fi, .int .i64 la, .int .i64 bu, .int .u64 ky, .slice da dn dc], .slice A n cap] w λe W' => e=.returned (.agg #[.bool false, .slice none 0 0, .int .i64 0, .slice none 0 0, .slice none 0 0, .slice none 0 0, .slice none 0 0, .slice none 0 0, .slice none 0 0, .int .i64 0])/\D w W'
theorem zR (b:TypeId) (x:Operand) (d:o.op=.load b x) (g:Nat) (e:a.eval x=.pointer (some ⟨g,0,none⟩)) {c:Array Value} (f:(loadVar b ⟨g,0,none⟩).run prog w=.ok (.agg c) w):(execOp a.eval o).run prog w=.ok (.value (.agg c)) w:=by
 unfold execOp;simp only [d,e,Instr.loadAt,Instr.sureAddr,Sem.run_bind,Sem.run_pure,Result.andThen_ok,f]
theorem Ois.low (h:Ois w A ops) (b:D w V):Ois V A ops :=
 ⟨λk q a=>by obtain ⟨G,c,d,e⟩:=h.at_ k q a;exact⟨G,c,FG d b.size,λj u f=>ad b (e j u f)⟩,h.wf,λq a i g=>by obtain ⟨x,c,d,e⟩:=h.dat q a i g;exact⟨x,c,ad b d,FG e b.size⟩⟩
theorem ER (V) (k:Nat):D V (V.drewN k):=⟨rfl,rfl,rfl,Fv _,λ_ _=>rfl⟩
theorem uw {b:Value} (a:∀ v∈[b,m0,m1,m2,m3,m4,m5,m6,m7],v.oneCell'=true):(#[.bool true,b,m0,m1,m2,m3,m4,m5,m6,m7]:Array Value).all (·.oneCell')=true:=by
 have h:=a;simp only [F4,Gp,or_false,forall_eq_or_imp,forall_eq] at h;obtain⟨c,d,e,f,g,i,j,k,l⟩:=h;rw [<-Array.all_toList];simp only [List.all_cons,List.all_nil,Bool.and_true,Gi];exact⟨rfl,c,d,e,f,g,i,j,k,l⟩
def Re (w:World) (v:Value) (n sz:Nat) (e:Nat->List Value):Prop:=∃ a c,v=.slice a n c/\∀ k,k<n->(e k).length=sz/\∃ g,a=some ⟨g,0,none⟩/\w.rangeAt g (k*sz) (e k)
theorem Re.below {sz Cq9} (h:Re w v n sz Cq9) (b:D w W):Re W v n sz Cq9:=by
 obtain⟨a,c,e,h⟩:=h;exact⟨a,c,e,λk d=>by obtain ⟨f,g,i,l⟩:=h k d;exact⟨f,g,i,λj v m=>ad b (l j v m)⟩⟩
theorem Re.sl {sz Cq9} (h:Re w v n sz Cq9):∃ a b c,v=.slice a b c:=by obtain ⟨a,c,e,_⟩:=h;exact⟨_,_,_,e⟩
theorem jN {sz:Nat} {b:List Value} (h:w.ownsRow B e sz v n b):Re w v n sz (λk=>(b.drop (k*sz)).take sz):=by
 rcases h.2 with ⟨rfl,rfl⟩|⟨g,d,f,rfl,o,i,p,q,r,l⟩;·exact⟨none,0,rfl,λk c=>Z⟩
 have m:=h.1;refine⟨_,_,rfl,λk c=>⟨?_,g,rfl,λj u a=>?_⟩⟩;·rw [Hm,List.length_drop,m];have:(k+1)*sz<=n*sz:=Gm _ c;rw [Gy] at this;omega
 rw [GT _ _ _ _ _ _ i];rw [Gx] at a;split at a
 ·rw [IR,<-l] at a;rw [Gx] at a;split at a;·simpa using a
  cases a
 cases a
theorem ij (b:TypeId) (x:Operand) (d:o.op=.load b x) (g i) (e:a.eval x=J g i) {c:Array Value} (f:(loadVar b ⟨g,i,none⟩).run prog w=.ok (.agg c) w):(execOp a.eval o).run prog w=.ok (.value (.agg c)) w:=by
 unfold execOp;simp only [d,e,Instr.loadAt,Instr.sureAddr,Sem.run_bind,Sem.run_pure,Result.andThen_ok,f]
theorem tR {b c:TypeId} {x y:Operand} {d e:Array Value} (f:o.op=.binOp .neq b x y c) (g:a.eval x=.agg d) (i:a.eval y=.agg e) (j:(binOp .neq b (.agg d) (.agg e)).run prog w=.ok (.bool false) w) (k:prog.eqGuardType prog.depth b=false:=by kernel_rfl):(execOp a.eval o).run prog w=.ok (.value (.bool false)) w:=by
 unfold execOp;simp only [f,g,i,Sem.run_bind,run_eqGuard_agg _ _ _ _ _ _ _ k,Result.andThen_ok,j,Sem.run_pure]
theorem qF (w) (a b:Array Value) (t:TypeId):D w ((w.alloc (.cells a t)).alloc (.cells b t))/\((w.alloc (.cells a t)).alloc (.cells b t)).heap[w.heap.size]?=some (.cells a t)/\((w.alloc (.cells a t)).alloc (.cells b t)).heap[w.heap.size+1]?=some (.cells b t):=by
 refine⟨((Fu _ _).alloc (Fv _) _).alloc (by rw [aO];omega) _,?_,?_⟩;·rw [eg _ _ _ (by rw [aO];omega)];exact ao _ _
 rw [<-aO w (.cells a t)];exact ao _ _
theorem EH (a b c d f) (W:World):(binOp .neq 51 (.agg #[I a,I b,I c,I d,I f]) (.agg #[I a,I b,I c,I d,I f])).run prog W=.ok (.bool false) W:=by
 have u3:=underlying3;have i:=Tryz.isAgg3;have j:=Tryz.sizeOf3;have u23:=underlying23;have e:=Tryz.isAgg23;have g:=Tryz.sizeOf23;rw [run_neq_struct,run_equalIn_agg _ _ _ _ _ E E];simp only [Program.fieldsOf,underlying51];go_simp
theorem EI (a b c d f) (W:World):(binOp .neq 66 (.agg #[U a,I b,I c,I d,I f]) (.agg #[U a,I b,I c,I d,I f])).run prog W=.ok (.bool false) W:=by
 have u3:=underlying3;have i:=Tryz.isAgg3;have j:=Tryz.sizeOf3;have u23:=underlying23;have e:=Tryz.isAgg23;have g:=Tryz.sizeOf23;rw [run_neq_struct,run_equalIn_agg _ _ _ _ _ E E];simp only [Program.fieldsOf,underlying66];go_simp
theorem o6 (w:World) (k:Int) (u f) (p q r:List Int) (nsq9 nrq9 nwq9 S R Cq Dqq9) (M F:Nat->List Int) (vo:Value) (vs vw vr) (vl ve d0:Value) (vs' vw' vr') (d7 d8:Value) (o1:Rd1 .i64 w vo p) (o2:Rd1 .i64 w d0 p) (l1:Rd1 .u64 w vl q) (l2:Rd1 .u64 w d7 q) (e1:Rd1 .u64 w ve r) (e2:Rd1 .u64 w d8 r) (l:Re w vs nsq9 5 S) (m:Re w vs' nsq9 5 S) (o:∀ k,k<nsq9->∃ a b c d e:Int,S k=[I a,I b,I c,I d,I e]) (s:Re w vr nrq9 5 R) (t:Re w vr' nrq9 5 R) (x:∀ k,k<nrq9->∃ a b c d e:Int,R k=[U a,I b,I c,I d,I e]) (Q:Re w vw nwq9 3 Cq) (T:Re w vw' nwq9 3 Dqq9) (g:∀ k,k<nwq9->∃ u1 u2,Cq k=[u1,u2,I f]/\Rd1 .i64 w u1 (M k)/\Rd1 .i64 w u2 (F k)) (y:∀ k,k<nwq9->∃ u1 u2,Dqq9 k=[u1,u2,I f]/\Rd1 .i64 w u1 (M k)/\Rd1 .i64 w u2 (F k)) (z:p.length<=100000) (A:q.length<=100000) (B:r.length<=100000) (e4:nsq9<=100000) (e5:nrq9<=100000) (e6:nwq9<=100000) (K:∀ k,k<nwq9->(M k).length<=100000/\(F k).length<=100000) :
  Calls prog 17 #[.agg #[I k,vo,vs,vw,vr,vl,ve,I u],.agg #[I k,d0,vs',vw',vr',d7,d8,I u]] w λe w'=>e=.returned (.bool true)/\D w w':=by
 have O1:=H o1;have O2:=H o2;have L1:=H l1;have L2:=H l2;have E1:=H e1;have E2:=H e2;obtain⟨a1,c1,rfl,V⟩:=o1;obtain⟨b1,d1,rfl,X⟩:=o2;obtain⟨a5,c5,rfl,i3⟩:=l1;obtain⟨b5,d5,rfl,i4⟩:=l2;obtain⟨a6,c6,rfl,i5⟩:=e1;obtain⟨b6,d6,rfl,i6⟩:=e2;obtain⟨a2,c2,rfl,l⟩:=l;obtain⟨b2,d2,rfl,m⟩:=m;obtain⟨a4,c4,rfl,s⟩:=s;obtain⟨b4,d4,rfl,t⟩:=t;obtain⟨a3,c3,rfl,Q⟩:=Q;obtain⟨b3,d3,rfl,T⟩:=T;obtain⟨L,N,O⟩:=qF w #[I k,.slice a1 p.length c1,.slice a2 nsq9 c2,.slice a3 nwq9 c3,.slice a4 nrq9 c4,.slice a5 q.length c5,.slice a6 r.length c6,I u] #[I k,.slice b1 p.length d1,.slice b2 nsq9 d2,.slice b3 nwq9 d3,.slice b4 nrq9 d4,.slice b5 q.length d5,.slice b6 r.length d6,I u] 36;have S1:=H l;have S2:=H m;have HS:=H o;have R1:=H s;have R2:=H t;have HR:=H x;have Q1:=H Q;have Q2:=H T;have HC:=H g;have HD:=H y;have HM:=H K;have Y:=H (IT z (IT A B));have G:=H L;have i:=H N;have j:=H O;clear V X i3 i4 i5 i6 l m o s t x Q T g y K L N O z A B;have n0:(k != k)=false:=bH;have n7:(u != u)=false:=bH;go_enter func17,ntmps17;go_upto_region 1 with fail
 generalize (w.alloc _).alloc _=g at G i j ⊢;generalize p.length=no at i j O1 O2 ⊢;generalize q.length=X at i j L1 L2 ⊢;generalize r.length=ne at i j E1 E2 ⊢;obtain⟨P,m⟩:∃ P,w.heap.size=P:=⟨_,rfl⟩;obtain⟨B,l⟩:∃ B,w.heap.size+1=B:=⟨_,rfl⟩;rw [m] at i;rw [l] at j;simp only [l];simp only [m];have x0:g.cell? ⟨P,0,none⟩=some (I k):=bJ i.out;have y0:g.cell? ⟨B,0,none⟩=some (I k):=bJ j.out;have x1:g.cell? ⟨P,1,none⟩=some (.slice a1 no c1):=bJ i.out;have y1:g.cell? ⟨B,1,none⟩=some (.slice b1 no d1):=bJ j.out;have x2:g.cell? ⟨P,2,none⟩=some (.slice a2 nsq9 c2):=bJ i.out;have y2:g.cell? ⟨B,2,none⟩=some (.slice b2 nsq9 d2):=bJ j.out;have x3:g.cell? ⟨P,3,none⟩=some (.slice a3 nwq9 c3):=bJ i.out;have y3:g.cell? ⟨B,3,none⟩=some (.slice b3 nwq9 d3):=bJ j.out;have x4:g.cell? ⟨P,4,none⟩=some (.slice a4 nrq9 c4):=bJ i.out;have y4:g.cell? ⟨B,4,none⟩=some (.slice b4 nrq9 d4):=bJ j.out;have x5:g.cell? ⟨P,5,none⟩=some (.slice a5 X c5):=bJ i.out;have y5:g.cell? ⟨B,5,none⟩=some (.slice b5 X d5):=bJ j.out;have x6:g.cell? ⟨P,6,none⟩=some (.slice a6 ne c6):=bJ i.out;have y6:g.cell? ⟨B,6,none⟩=some (.slice b6 ne d6):=bJ j.out;have x7:g.cell? ⟨P,7,none⟩=some (I u):=bJ i.out;have y7:g.cell? ⟨B,7,none⟩=some (I u):=bJ j.out;have e7:=H (IT m l);clear m l i j;go_wp2_with fail;go_loopw [50] (λi wr=>∃ j m:Nat,j<=nsq9/\i=I j/\Hid (wr=g.drewN m)) (λi _=>nsq9-(intOf i).toNat);case atStart=>exact ⟨0,0,FH _,rfl,H rfl⟩
 case round =>
  obtain⟨j,m,hj,rfl,L⟩:=hrel;obtain rfl:=L.out;clear L;by_cases l:j<nsq9
  ·obtain⟨Q,y,rfl,s⟩:=S1.out j l;obtain⟨T,z,rfl,t⟩:=S2.out j l;obtain⟨a,b,c,d,e,N⟩:=HS.out j l;rw [N] at s t;have B9:D g (g.drewN m).drew:=az (ER g m) (Fu _ _).drew;have L8:=run_loadVar_mid (P:=prog) (g.drewN m).drew y (j*5) 51 _ _ (λx v hv=>ad B9 (ad G.out (s x v hv))) underlying51 rfl E;have M8:=run_loadVar_mid (P:=prog) (g.drewN m).drew z (j*5) 51 _ _ (λx v hv=>ad B9 (ad G.out (t x v hv))) underlying51 rfl E;clear Q T s t N B9;(go_upto_region 6 with fail);refine rh (S:=λA=>(loadVar 51 ⟨y,j*5,none⟩).run prog A=.ok (.agg #[I a,I b,I c,I d,I e]) A/\(loadVar 51 ⟨z,j*5,none⟩).run prog A=.ok (.agg #[I a,I b,I c,I d,I e]) A/\A.cell? ⟨P,2,none⟩=some (Vl y nsq9 c2)/\A.cell? ⟨B,2,none⟩=some (Vl z nsq9 d2)) ?_;have o:=(show _/\_/\_/\_ from ⟨L8,M8,x2,y2⟩);refine pk 0 (J P 2) o ?_;refine pz 1 (Vl y nsq9 c2) o ?_;refine pk 2 (I j) o ?_;refine pz 3 (J y (j*5)) o ?_;refine pf 4 (.agg #[I a,I b,I c,I d,I e]) rfl o (λW h=>ij 51 _ rfl y (j*5) rfl h.1) ?_;refine pk 5 (J B 2) o ?_;refine pz 6 (Vl z nsq9 d2) o ?_;refine pk 7 (I j) o ?_;refine pz 8 (J z (j*5)) o ?_;refine pf 9 (.agg #[I a,I b,I c,I d,I e]) rfl o (λW h=>ij 51 _ rfl z (j*5) rfl h.2.1) ?_;refine pf 10 (.bool false) rfl o (λW h=>tR rfl rfl rfl (EH a b c d e W)) ?_;refine bY ?_;clear o L8 M8;go_wp2;go_roundw;(case rel=>exact ⟨j+1,m+1,Z,aY,H rfl⟩);case measure=>simp [intOf];omega
  clear hj;go_wp2_with fail;go_loopw [68] (λi wr=>∃ j m:Nat,j<=nrq9/\i=I j/\Hid (wr=g.drewN m)) (λi _=>nrq9-(intOf i).toNat);case atStart=>exact ⟨0,_,FH _,rfl,H rfl⟩
  case round =>
   obtain⟨j,m,hj,rfl,L⟩:=hrel;obtain rfl:=L.out;clear L;by_cases l:j<nrq9
   ·obtain⟨Q,y,rfl,s⟩:=R1.out j l;obtain⟨T,z,rfl,t⟩:=R2.out j l;obtain⟨a,b,c,d,e,N⟩:=HR.out j l;rw [N] at s t;have B9:D g (g.drewN m).drew:=az (ER g m) (Fu _ _).drew;have L8:=run_loadVar_mid (P:=prog) (g.drewN m).drew y (j*5) 66 _ _ (λx v hv=>ad B9 (ad G.out (s x v hv))) underlying66 rfl E;have M8:=run_loadVar_mid (P:=prog) (g.drewN m).drew z (j*5) 66 _ _ (λx v hv=>ad B9 (ad G.out (t x v hv))) underlying66 rfl E;clear Q T s t N B9;(go_upto_region 12 with fail);refine rh (S:=λA=>(loadVar 66 ⟨y,j*5,none⟩).run prog A=.ok (.agg #[U a,I b,I c,I d,I e]) A/\(loadVar 66 ⟨z,j*5,none⟩).run prog A=.ok (.agg #[U a,I b,I c,I d,I e]) A/\A.cell? ⟨P,4,none⟩=some (Vl y nrq9 c4)/\A.cell? ⟨B,4,none⟩=some (Vl z nrq9 d4)) ?_;have o:=(show _/\_/\_/\_ from ⟨L8,M8,x4,y4⟩);refine pk 0 (J P 4) o ?_;refine pz 1 (Vl y nrq9 c4) o ?_;refine pk 2 (I j) o ?_;refine pz 3 (J y (j*5)) o ?_;refine pf 4 (.agg #[U a,I b,I c,I d,I e]) rfl o (λW h=>ij 66 _ rfl y (j*5) rfl h.1) ?_;refine pk 5 (J B 4) o ?_;refine pz 6 (Vl z nrq9 d4) o ?_;refine pk 7 (I j) o ?_;refine pz 8 (J z (j*5)) o ?_;refine pf 9 (.agg #[U a,I b,I c,I d,I e]) rfl o (λW h=>ij 66 _ rfl z (j*5) rfl h.2.1) ?_;refine pf 10 (.bool false) rfl o (λW h=>tR rfl rfl rfl (EI a b c d e W)) ?_;refine bY ?_;clear o L8 M8;go_wp2;go_roundw;(case rel=>exact ⟨j+1,m+1,Z,aY,H rfl⟩);case measure=>simp [intOf];omega
   clear hj;go_wp2_with fail;go_loopw [86] (λi wr=>∃ j m:Nat,j<=nwq9/\i=I j/\Hid (wr=g.drewN m)) (λi _=>nwq9-(intOf i).toNat);(case atStart=>exact ⟨0,_,FH _,rfl,H rfl⟩);case round =>
    obtain⟨j,m,hj,rfl,L⟩:=hrel;obtain rfl:=L.out;clear L;by_cases l:j<nwq9
    ·obtain⟨Q,y,rfl,s⟩:=Q1.out j l;obtain⟨T,z,rfl,t⟩:=Q2.out j l;obtain⟨u1,u2,d9,m1,f1⟩:=HC.out j l;obtain⟨w1,w2,e0,m2,f2⟩:=HD.out j l;obtain⟨hm,hf⟩:=HM.out j l;rw [d9] at s;rw [e0] at t;obtain⟨K,V⟩:∃ K,g.drewN m=K:=⟨_,rfl⟩;have B1:=H (show D g K from by rw [<-V];exact ER _ _);have O:=H (az G.out B1.out);rw [V];have z0:K.cell? ⟨y,j*3,none⟩=some u1:=ad O.out (s 0 _ rfl);have z1:K.cell? ⟨y,j*3+1,none⟩=some u2:=ad O.out (s 1 _ rfl);have z2:K.cell? ⟨y,j*3+2,none⟩=some (I f):=ad O.out (s 2 _ rfl);have z3:K.cell? ⟨z,j*3,none⟩=some w1:=ad O.out (t 0 _ rfl);have z4:K.cell? ⟨z,j*3+1,none⟩=some w2:=ad O.out (t 1 _ rfl);have z5:K.cell? ⟨z,j*3+2,none⟩=some (I f):=ad O.out (t 2 _ rfl);have X3:=ad B1.out x3;have Y3:=ad B1.out y3;have K1:=H (λn=>p8 u1 w1 _ (K.drewN n) (m1.below (az O.out (ER _ n))) (m2.below (az O.out (ER _ n))) Z);have K2:=H (λn=>p8 u2 w2 _ (K.drewN n) (f1.below (az O.out (ER _ n))) (f2.below (az O.out (ER _ n))) Z);obtain⟨a9,b9,c9,rfl⟩:=m1.sl;obtain⟨a8,b8,c8,rfl⟩:=m2.sl;obtain⟨a7,b7,c7,rfl⟩:=f1.sl;obtain⟨a0,b0,c0,rfl⟩:=f2.sl;have e3:(f != f)=false:=bH;have HV:=H V;clear Q T s t d9 e0 m1 f1 m2 f2 hm hf B1 O V;(go_upto_region 18 with fail);go_cut [133] (λs w'=>s=.bool false/\∃ n,Hid (w'=K.drewN n))
     case first=>as_aux_lemma =>
      go_quiet (first|(go_at_call 22;with_reducible exact Calls.quiet_of (K1.out _))|(go_at_call 22;with_reducible exact Calls.quiet_of (K2.out _)));go_wp2_with fail;go_meet;case rel=>exact ⟨rfl,_,H rfl⟩
     case rest =>
      obtain⟨rfl,n,L⟩:=hcut;have O:=L.out;rw [<-HV.out,World.drewN_drewN] at O;subst O;clear L z0 z1 z2 z3 z4 z5 X3 Y3;go_wp2;go_roundw;(case rel=>exact ⟨j+1,m+n,Z,aY,H rfl⟩);case measure=>simp [intOf];omega
    clear hj;have V:=H (λW (K:D g W)=>p8 _ _ _ W ((O1.below G.out).below K) ((O2.below G.out).below K) (by have:=Y.out;omega));have W2:=H (λW (K:D g W)=>tx _ _ _ W ((L1.below G.out).below K) ((L2.below G.out).below K) (by have:=Y.out;omega));have W3:=H (λW (K:D g W)=>tx _ _ _ W ((E1.below G.out).below K) ((E2.below G.out).below K) (by have:=Y.out;omega));go_wp2_with fail;refine (V.out _ (ER _ _)).mono ?_;rintro O A ⟨rfl,m1,rfl⟩;go_wp2_with fail;refine (W2.out _ (ER _ _)).mono ?_;rintro O A ⟨rfl,m2,rfl⟩;go_wp2_with fail;refine (W3.out _ (ER _ _)).mono ?_;rintro O A ⟨rfl,m3,rfl⟩;go_wp2;go_ret;exact⟨rfl,az G.out (ER _ _)⟩
theorem mX {k} (h:w.ownsRow B e 1 u n (Ns k zs)):Rd1 k w u zs:=by
 have b:zs.length=n:=by have:=h.1;rw [bv] at this;omega
 rcases h.2 with ⟨rfl,d⟩|⟨g,a,f,rfl,_⟩;·exact⟨none,0,by rw [b,d],λi c=>Z⟩
 refine⟨some ⟨g,0,none⟩,a,by rw [b],λi c=>⟨g,rfl,bC h i _ ?_⟩⟩;simp [Ns,c]
theorem qI {l} (h:w.ownsRow B e 1 u n (Us l)):Rd1 .u64 w u (l.map (λx:Nat=>(x:Int))):=by
 refine mX (B:=B) (e:=e) (n:=n) ?_;have a:Ns .u64 (l.map (λx:Nat=>(x:Int)))=Us l:=by simp [Ns,Us]
 rw [a];exact h
theorem qX {k} (h:RowV w g e (Ns k zs)) (c):Rd1 k w (Vl g zs.length c) zs:=⟨_,_,rfl,λi a=>⟨g,rfl,jZ h i a⟩⟩
theorem jx {α:Type} (f:α->List Value) (sz:Nat) (a:∀ x,(f x).length=sz):∀ (l:List α) (k:Nat) (x:α),l[k]?=some x->((l.flatMap f).drop (k*sz)).take sz=f x
 | [],k,x,h=>by simp at h
 | y::r,0,x,h=>by
  simp at h
  subst h
  rw [If,Nat.zero_mul,IE,<-a y,List.take_left]
 | y::r,k+1,x,h=>by
  rw [If,show (k+1)*sz=(f y).length+k*sz by rw [a,Gy];omega,List.drop_append]
  simp only [Nat.add_sub_cancel_left,List.drop_eq_nil_of_le (Nat.le_add_right (f y).length (k*sz)),FV]
  exact jx f sz a r k x (by simpa using h)
theorem Cp {vo} {a:List (Nat×Nat)} {vw} (c:a.length=12) (w:Wt9 cf h B vo a vw V) :
  ∃ b,Re V vw 12 3 b/\∀ k,k<12->∃ u1 u2,b k=[u1,u2,I cf.fifo]/\Rd1 .i64 V u1 (h.mx k)/\Rd1 .i64 V u2 (h.ff k):=by
 have b:=w.row;rw [c] at b;refine⟨_,jN b,λk f=>?_⟩;have e:a[k]?=some a[k]:=Fy Z;have d:a.zipIdx[k]?=some (a[k],k):=by rw [List.getElem?_zipIdx,e];simp
 exact⟨_,_,jx (λx:(Nat×Nat)×Nat=>E_ cf h x.2 x.1) 3 (λ_=>rfl) a.zipIdx k _ d,qX (w.at_ k _ e).1 _,qX (w.at_ k _ e).2.1 _⟩
theorem ql {α:Type} (f:α->Nat):∀ (c l2:List α),c.Perm l2->c.Pairwise (λa b=>f a<=f b)->l2.Pairwise (λa b=>f a<=f b)->(∀ a∈c,∀ b∈c,f a=f b->a=b)->c=l2
 | [],l2,h,_,_,_=>by rw [List.nil_perm] at h;exact h.symm
 | a::r,[],h,_,_,_=>by have:=h.length_eq;simp at this
 | a::r,b::s,h,j,k,d=>by
  have c:b∈a::r:=h.symm.subset (List.mem_cons_self ..)
  have ha:a∈b::s:=h.subset (List.mem_cons_self ..)
  have g:=List.pairwise_cons.1 j
  have i:=List.pairwise_cons.1 k
  have l:f a<=f b:=by
   rcases F4.1 c with rfl|c
   ·exact Fv _
   exact g.1 b c
  have m:f b<=f a:=by
   rcases F4.1 ha with rfl|ha
   ·exact Fv _
   exact i.1 a ha
  have e:a=b:=d a (List.mem_cons_self ..) b c (Nat.le_antisymm l m);subst e;rw [ql f r s (List.Perm.cons_inv h) g.2 i.2 (λx b y c=>d x (Ij _ b) y (Ij _ c))]
theorem tu {α:Type} (f:α->Nat):∀ (l:List α),(l.map f).Nodup->∀ a∈l,∀ b∈l,f a=f b->a=b
 | [],_,a,ha,_,_,_=>by cases ha
 | x::r,g,a,ha,b,i,e=>by
  rw [It,GI] at g
  rcases F4.1 ha with d|d
  ·rcases F4.1 i with c|c
   ·rw [d,c]
   exact absurd (FQ.2 ⟨b,c,by rw [<-e,d]⟩) g.1
  rcases F4.1 i with c|c
  ·exact absurd (FQ.2 ⟨a,d,by rw [e,c]⟩) g.1
  exact tu f r g.2 a d b c e
theorem C5 (i:Inv cf h) {rs c:List Rg9} (p:rs.Perm h.rg) (s:rs.Pairwise (λa b=>a.base<=b.base)) (d:c.Perm h.rg) (f:c.Pairwise (λa b=>a.base<=b.base)):rs=c :=
 ql Rg9.base rs c (p.trans d.symm) s f (λa ha b c e=>tu Rg9.base h.rg (xA i) a (p.subset ha) b (p.subset c) e)
theorem Dp {l d c:List Nat} (p:d.Perm l) (s:d.Pairwise (λa b=>a<=b)) (f:c.Perm l) (g:c.Pairwise (λa b=>a<=b)):d=c :=
 ql id d c (p.trans f.symm) s g (λa _ b _ e=>e)
def Mt (cf:Cf) (h:Hs) (W:World) (m0 m1 m2 m3 m4 m5 m6 m7:Value):Prop:=∃ (rs:List Rg9) (e:List Nat) (Cq:Nat->List Value),m0=I (bz h.m 283:Nat)/\m7=I h.used/\(rs.Perm h.rg/\rs.Pairwise (λa b=>a.base<=b.base))/\(e.Perm h.rel/\e.Pairwise (λa b=>a<=b))/\Rd1 .i64 W m1 (bw h.m 283)/\Re W m2 (I1 h 12).length 5 (λk=>((fP h (I1 h 12)).drop (k*5)).take 5)/\Re W m3 12 3 Cq/\(∀ k,k<12->∃ u1 u2,Cq k=[u1,u2,I cf.fifo]/\Rd1 .i64 W u1 (h.mx k)/\Rd1 .i64 W u2 (h.ff k))/\Re W m4 rs.length 5 (λk=>((dH rs).drop (k*5)).take 5)/\Rd1 .u64 W m5 (h.row.map (λx:Nat=>(x:Int)))/\Rd1 .u64 W m6 (e.map (λx:Nat=>(x:Int)))
theorem Mt.low (t:Mt cf h W m0 m1 m2 m3 m4 m5 m6 m7) (b:D W W'):Mt cf h W' m0 m1 m2 m3 m4 m5 m6 m7:=by
 obtain⟨rs,a,Cq,c,d,f,g,o,s,q,i,r,l,e⟩:=t;exact⟨rs,a,Cq,c,d,f,g,o.below b,s.below b,q.below b,λk j=>by obtain ⟨u1,u2,m,n,p⟩:=i k j;exact⟨u1,u2,m,n.below b,p.below b⟩,r.below b,l.below b,e.below b⟩
theorem sP {n0 n1 n2 n3 n4 n5 n6 n7} (t:Mt cf h W m0 m1 m2 m3 m4 m5 m6 m7) (w:Mt cf h W n0 n1 n2 n3 n4 n5 n6 n7) {k} (a:Inv cf h) (b:Few k h) (g:k<=302) (p:mE cf) :
  Calls prog 17 #[.agg #[m0,m1,m2,m3,m4,m5,m6,m7],.agg #[n0,n1,n2,n3,n4,n5,n6,n7]] W λe x=>e=.returned (.bool true)/\D W x:=by
 obtain⟨rs,N,Cq,rfl,rfl,i,j,o,s,q,y,r,l,e⟩:=t;obtain⟨z,A,m,rfl,rfl,d,f,B,F,G,n,K,L,M⟩:=w;obtain rfl:=C5 a i.1 i.2 d.1 d.2;obtain rfl:=Dp j.1 j.2 f.1 f.2;have hI:=Cr h 12 (Fv _);have u:=b.row;have O:=mZ h.m 283;have f1:=b.rg;have f2:=b.rel;have P:=i.1.length_eq;have Q:=j.1.length_eq;refine o6 W _ _ (cf.fifo:Nat) _ _ _ _ _ 12 _ _ Cq m h.mx h.ff _ _ _ _ _ _ _ _ _ _ _ _ o B l L e M s F (λk g=>?_) r K (λk g=>?_) q G y n Z (by rw [Gz];omega) (by rw [Gz];omega) Z Z ar (λc v=>?_);·exact⟨_,_,_,_,_,jx (yx h) 5 (λ_=>rfl) (I1 h 12) k _ (Fy g)⟩
 ·exact⟨_,_,_,_,_,jx tC 5 (λ_=>rfl) rs k _ (Fy g)⟩
 have R:=a.mxl c v;have S:=a.ffl c v;have T:=p.mix;have V:=p.fifo;omega
def y8:Prop:=∀ (cf:Cf) (da:Option Addr) (dc:Nat) (A:Option Addr) (cap:Nat) (ops:List df) (w:World),mE cf->1<=cf.large->Tb w->Sl w da cf.ds->(∀ a,da=some a->a.block<w.heap.size)->0<w.heap.size->Ois w A ops->(∀ q∈ops,q.o.ys.length<=q.dc /\ -9223372036854775808<=q.o.ref/\∀ y∈q.o.ys,0<=y/\y<=255)->ops.length<=300 ->
 Calls prog 11 #[gZ cf da dc,.slice A ops.length cap] w λe W'=>∃ (l:List Aw) (i m0 m1 m2 m3 m4 m5 m6 m7:Value),e=.returned (.agg #[.bool true,i,m0,m1,m2,m3,m4,m5,m6,m7])/\(∀ v∈[i,m0,m1,m2,m3,m4,m5,m6,m7],v.oneCell'=true)/\l.map (·.1)=(bd cf (ops.map df.o) (aP cf) []).2/\W'.ownsRow w.heap.size 44 4 i l.length (fZ l)/\(∀ z∈l,W'.ownsRow w.heap.size 5 1 z.2 z.1.data.length (Ns .u8 z.1.data))/\D w W'/\Mt cf (bd cf (ops.map df.o) (aP cf) []).1 W' m0 m1 m2 m3 m4 m5 m6 m7
theorem C6:y8:=by
 intro cf da P A i ops w Q R S T j W Y k hN;refine (sZ AI (zj BE zc) cf da P A i ops w Q R S T j W Y ⟨λq a=>(k q a).1,λq a=>(k q a).2.1,λq a=>(k q a).2.2⟩ hN).mono ?_;rintro e W' ⟨B,y,l,u,m0,m1,m2,m3,m4,m5,m6,m7,V,x,X,rfl,F,c,hT,b,hX,rfl,m,a0⟩;have g:=aj x X #[.bool true,u,m0,m1,m2,m3,m4,m5,m6,m7];have a:=(Ky.grown hX rfl g:Ky (· = 38) x _);have d:=c.ra.below b;have f:=c.ls;rw [G9] at f;obtain⟨vo,vs,vw,vr,vl,ve,ws,rs,es,G,o,s,⟨wl,K⟩,⟨n,p,r⟩,L,⟨q,t,M⟩,ne⟩:=hT;simp at G;obtain⟨rfl,rfl,rfl,rfl,rfl,rfl,rfl,rfl⟩:=G;have w2:=K.ky a ar ar;obtain⟨Cq,q1,q2⟩:=Cp wl w2;refine⟨l,u,_,_,_,_,_,_,_,_,rfl,?_,f,gz F (d.row.kept g (.inr λe=>by have:=(d.row.lt X e).1;omega)),λz N=>gz F ((d.dat z N).kept g (.inr λe=>by have:=((d.dat z N).lt X e).1;omega)),(az c.bel b).grown g (az c.bel b).size (λr e=>by cases e;exact m),rs,es,Cq,rfl,rfl,⟨n,p⟩,⟨q,t⟩,mX (ai o a ar),jN (ai s a ar),q1,q2,jN (ai r a ar),qI (ai L a ar),qI (ai M a ar)⟩;intro v O;simp only [F4,Gp,or_false] at O;rcases O with rfl|rfl|rfl|rfl|rfl|rfl|rfl|rfl|rfl;·exact dG d.row
 ·rfl
 ·exact dG o
 ·exact dG s
 ·exact dG K.row
 ·exact dG r
 ·exact dG L
 ·exact dG M
 rfl
def EG (zs:List Int) (j:Bool) (p i:Nat) (r:fL×Nat):Prop:=∀ (w0:World) (a:Option Addr) (len cap:Nat),Cbq9 zs w0 a len cap->∀ (R:Nat) (W:World),Rp p w0 a len cap R W W ->
 Calls prog 29 #[J R 0,I i,.bool j] W λe W'=>∃ d dc,e=.returned (.agg (fH ⟨r.1,d,dc⟩).toArray)/\Od6 W.heap.size ⟨r.1,d,dc⟩ W'/\Rp r.2 w0 a len cap R W W'
theorem wV (zs tt):∃ F:Nat->Nat->fL×Nat,∀ q j,j<=400->EG zs tt q j (F q j):=by
 have h:∀ q j,∃ r,j<=400->EG zs tt q j r:=λq j=>by
  by_cases a:j<=400;·obtain⟨o,b,h⟩:=D8 zs q j a tt;exact⟨(o,b),λ_=>h⟩
  exact⟨(⟨0,0,0,1,0,[]⟩,0),λh=>absurd h a⟩
 exact⟨λq j=>(h q j).choose,λq j=>(h q j).choose_spec⟩
def r7 (F:Nat->Nat->fL×Nat) (p:Nat):Nat->List fL×Nat
 | 0=>([],p)
 | k+1=>((r7 F p k).1++[(F (r7 F p k).2 k).1],(F (r7 F p k).2 k).2)
theorem m_ (F p):∀ k,(r7 F p k).1.length=k
 | 0=>rfl
 | k+1=>by
  show ((r7 F p k).1++[(F (r7 F p k).2 k).1]).length=k+1
  rw [FC,m_ F p k];rfl
def AX (c:Cd) (os:List fL) (w:World) (e:Ending) (i:World):Prop :=
 ∃ (da:Option Addr) (dc:Nat) (ops:List df) (A:Option Addr) (n B:Nat),ops.map df.o=os/\e=.returned (.tuple #[.agg (pQ { c with da:=da,dc:=dc }).toArray,.slice A ops.length n])/\w.heap.size<=B/\Ok4 B { c with da:=da,dc:=dc } i/\i.ownsRow B 42 6 (.slice A ops.length n) ops.length (iT ops)/\(∀ q∈ops,Od6 B q i)/\D w i
theorem Ch (n:Nat) (x:fL) (l:List fL):l++List.replicate n x++[x]=l++List.replicate (n+1) x:=by rw [GJ,List.replicate_succ']
theorem Bt (zs):∃ (c:Cd) (t:List fL),c.ds.length<=60/\t.length<=301/\∀ (w:World) (a:Option Addr) (b d:Nat),Cbq9 zs w a b d->Calls prog 10 #[.slice a b d] w λe L=>AX c t w e L:=by
 obtain⟨c,M,X,f⟩:=yT zs 0;have HP:=H f;clear f;have N1:=H (de zs M);have hk:=d_ zs M;generalize gH zs M=k at hk N1;generalize gJ zs M=S at N1;have N2:=H (de zs S);have a0:=d_ zs S;generalize gH zs S=n0 at a0 N2;generalize gJ zs S=u at N2;obtain⟨n,hn,f⟩:∃ n:Nat,n<60/\(n0:Int)%60=(n:Int):=⟨n0%60,Z,Z⟩;have a1:=H f;clear f;obtain⟨F,f⟩:=wV zs ((k:Int)%5==4);have HF:=H f;clear f;obtain⟨t,a2,HA⟩:∃ t:List fL,t.length<=301/\Hid ((((k:Int)==255)=false/\t=(r7 F u n).1)\/(((k:Int)==255)=true/\t=(r7 F u n).1++List.replicate (300+n%2-n) ⟨0,0,0,1,0,[]⟩)):=by
  cases g:((k:Int)==255);·exact⟨_,by rw [m_];omega,H (.inl ⟨rfl,rfl⟩)⟩
  exact⟨_,by rw [FC,m_,Gc];omega,H (.inr ⟨rfl,rfl⟩)⟩
 refine⟨c,t,X,a2,?_⟩;intro w a b d m;have T:=H m;have l:=(Fu w.heap.size w).alloc (Fv _) (.cells #[I 0,I 0,I 0,I 0,U 0,C] 26);have f:=l.alloc l.size (.cells #[.slice a b d,I 0] 71);have i:=H (show Rp 0 w a b d (w.heap.size+1) w ((w.alloc (.cells #[I 0,I 0,I 0,I 0,U 0,C] 26)).alloc (.cells #[.slice a b d,I 0] 71)) from ⟨by rw [<-aO w (.cells #[I 0,I 0,I 0,I 0,U 0,C] 26)];exact ao _ _,FH _,f,Z,⟨f.os,f.tape,f.output,f.size,λg h1 _=>f.block g h1⟩⟩);have j:=H ((eg (w.alloc (.cells #[I 0,I 0,I 0,I 0,U 0,C] 26)) (.cells #[.slice a b d,I 0] 71) w.heap.size (by rw [aO];omega)).trans (ao w (.cells #[I 0,I 0,I 0,I 0,U 0,C] 26)));clear l f m;go_enter func10,ntmps10;go_wp2_with fail;generalize (w.alloc (.cells #[I 0,I 0,I 0,I 0,U 0,C] 26)).alloc (.cells #[.slice a b d,I 0] 71)=V1 at i j ⊢;obtain⟨R,V⟩:∃ R,R=w.heap.size+1:=⟨_,rfl⟩;obtain⟨Y,f⟩:∃ Y,Y=w.heap.size:=⟨_,rfl⟩;rw [<-V] at i ⊢;rw [<-f] at j ⊢;have N:=H (IT V f);clear V f;refine (HP w a b d T R _ i.at).mono ?_;rintro e A ⟨da,x,rfl,f,r⟩;unfold pQ;dsimp only;have l:=H (show D9q9 M w a b d R A.heap.size Y { c with da:=da,dc:=x } (C) [] (A.alloc (.cells #[I c.mi,I c.fi,I c.la,I c.bu,U c.ky,.slice da c.ds.length x] 26)) from by
  have m:=(Fu A.heap.size A).alloc (Fv _) (.cells #[I c.mi,I c.fi,I c.la,I c.bu,U c.ky,.slice da c.ds.length x] 26);have h1:=i.lt;have o:=N.out;have yb:A.heap[Y]?=_:=(r.g.block Y (ag j) (λe=>by cases e;omega)).trans j.out;exact⟨(i.of r).below m,r.lt,Z,Z,ao A _,by rw [m.block _ (ag yb)];exact yb,⟨f.k0,f.k1,f.dw,(gz h1 f.d).alloc _⟩,⟨rfl,.inl ⟨rfl,rfl⟩⟩,λq W=>(by cases W)⟩)
 clear f r i j;go_wp2_with fail;generalize A.alloc (.cells #[I c.mi,I c.fi,I c.la,I c.bu,U c.ky,.slice da c.ds.length x] 26)=V3 at l ⊢;generalize A.heap.size=Cx at l ⊢;refine (N1 w a b d T R _ _ l.rd.at).mono ?_;rintro e V4 ⟨rfl,r⟩;have f:=H (l.next r);clear r l;go_wp2_with fail;refine (N2 w a b d T R _ _ f.rd.at).mono ?_;rintro e V5 ⟨rfl,r⟩;have B:=H (f.next r);clear r f;go_wp2;rw [a1.out];go_loopw [7,9] (λv i wr=>∃ (j:Nat) (ops:List df) (q:Nat),j<=n/\i=I j/\Hid (r7 F u j=(ops.map df.o,q))/\Hid (D9q9 q w a b d R Cx Y { c with da:=da,dc:=x } v ops wr)) (λ_ i _=>n-(intOf i).toNat);case atStart=>exact ⟨0,[],u,FH _,rfl,H rfl,B⟩
 case round =>
  obtain⟨j,ops,q,hj,rfl,z,l⟩:=hrel;clear B;obtain⟨va,vb,vc,rfl⟩:=fW l.row;obtain rfl:=ik l.row;have O:=H (show ops.length=j from by have h:=m_ F u j;rw [z.out,Gz] at h;exact h);by_cases a3:j<n
  ·have Q:=H (HF q ops.length (by have:=O.out;omega));have s:=H (show r7 F u (j+1)=(ops.map df.o++[(F q ops.length).1],(F q ops.length).2) from by
    show ((r7 F u j).1++[(F (r7 F u j).2 j).1],(F (r7 F u j).2 j).2)=_;rw [z.out,O.out])
   generalize F q ops.length=fr at Q s;obtain⟨f,y⟩:=fr;go_wp2_with fail;refine (Q w a b d T R _ l.rd.at).mono ?_;rintro e V6 ⟨d9,K,rfl,m,r⟩;have P:=H (l.next r);obtain⟨v',L,o,G⟩:=P.app (by have:=O.out;omega) ⟨f,d9,K⟩ ⟨m.p,m.a,m.b,gz l.rd.lt m.d,m.r,m.y⟩;have p:=H G;clear G m r l;unfold fH at o ⊢;dsimp only at o ⊢;go_wp2_with (at_builtin;refine ga 27 rfl (.tmp 25) (.tmp 33) (by with_reducible rfl) rfl rfl rfl o ?_);go_roundw;(case rel=>exact ⟨j+1,ops++[⟨f,d9,K⟩],y,Z,aY,H (by rw [s.out,Hr];rfl),p⟩);case measure=>simp [intOf];omega
  have:j=n:=Z;subst this;go_upto_if 36 with fail
  go_cut [7,36] (λv _ L=>∃ (ops:List df) (q:Nat),Hid (ops.map df.o=t)/\Hid (D9q9 q w a b d R Cx Y { c with da:=da,dc:=x } v ops L));case first =>
   rcases HA.out with ⟨g,s⟩|⟨g,s⟩
   ·go_wp2;go_meet;case rel=>exact ⟨ops,q,H (by rw [s,z.out]),l⟩
   simp only [g];go_wp2_with fail;go_loopw [7] (λv wr=>∃ (f:List df) (m:Nat),j+m<=300+j%2/\f.length=j+m/\Hid (f.map df.o=ops.map df.o++List.replicate m ⟨0,0,0,1,0,[]⟩)/\Hid (D9q9 q w a b d R Cx Y { c with da:=da,dc:=x } v f wr)) (λv _=>400-vX v);(case atStart=>exact ⟨ops,0,Z,by have:=O.out;omega,H bH,l⟩);case round =>
    clear l;obtain⟨f,m,hm,y,HM,l⟩:=hrel;have K:=H y;have a4:f.length<=301:=Z;clear y;obtain⟨xa,xb,xc,rfl⟩:=fW l.row;obtain rfl:=ik l.row;by_cases a3:f.length<300+j%2
    ·have P:(f.length:Int)<300+(j:Int)%2:=Z;obtain⟨v',L,o,G⟩:=l.app Z ⟨⟨0,0,0,1,0,[]⟩,none,0⟩ ⟨ar,ar,ar,⟨rfl,.inl ⟨rfl,rfl⟩⟩,ar,λy hy=>by cases hy⟩;have p:=H G;obtain⟨ya,yb,yc,rfl⟩:=fW G.row;have Q:=ik G.row;rw [FC] at Q;obtain rfl:=Q;clear G;go_wp2_with (at_builtin;refine ga 27 rfl (.tmp 43) (.tmp 45) (by with_reducible rfl) rfl rfl rfl o ?_);go_roundw;(case rel=>exact ⟨f++[⟨⟨0,0,0,1,0,[]⟩,none,0⟩],m+1,by have:=K.out;omega,by have:=K.out;simp;omega,H (by rw [Hr,HM.out,<-Ch];rfl),p⟩);case measure=>simp [vX];omega
    have P:¬(f.length:Int)<300+(j:Int)%2:=Z;go_wp2;go_meet;case rel=>exact ⟨f,q,H (by rw [HM.out,s,z.out,show 300+j%2-j=m by have:=K.out;omega]),l⟩
  case rest =>
   clear l O;obtain⟨f,y,m,l⟩:=hcut;obtain⟨xa,xb,xc,rfl⟩:=fW l.row;obtain rfl:=ik l.row;go_wp2_with (first|(refine Gt rfl 26 _ rfl _ rfl _ _ _ _ l.cb underlying26 rfl E ?_)|(refine Gf rfl 26 _ _ rfl _ _ rfl rfl 26 _ l.yb E rfl (by simp [pQ,Value.oneCell']) ?_));refine GX (results_cell_tmp dU _ _ Y _ dU (run_loadVar_row _ Y 26 26 _ (0,0) _ (aw l.yb _) underlying26 rfl E)) dU ?_;have g:=aj wc Y (pQ { c with da:=da,dc:=x }).toArray;have hy:=l.yr;have s:=l.y1;have V:=N.out;exact⟨da,x,f,xa,xc,R+1,m,rfl,Z,l.ok.kept g (λe=>by have:=(l.ok.d.lt Y e).1;omega),l.row.kept g (.inr λe=>by have:=(l.row.lt Y e).1;omega),λq W=>(l.dat q W).kept g (λe=>by have:=((l.dat q W).d.lt Y e).1;omega),l.rd.bel.grown g l.rd.bel.size (λr e=>by cases e;omega)⟩
def uc (data:List Int):ByteArray:=data.foldl (λr n=>r.push (UInt8.ofNat n.toNat)) ByteArray.empty
theorem qN {b:List Int} (h:Rd1 .u8 w u b):(convert 22 9 u).run prog w=.ok (.string (uc b)) w:=by
 obtain⟨a,c,rfl,i⟩:=h;rw [run_convert_bytes_string w 22 9 5 a b.length c underlying22 underlying5 underlying9];cases a with
 | none =>
  have:b=[]:=by
   cases b with
   | nil=>rfl
   | cons x r=>obtain ⟨g,e,_⟩:=i 0 bH;cases e
  subst this;unfold Conv.bytesToString;simp [uc,Sem.run_pure]
 | some p =>
  refine run_bytesToString w p b.length c b ?_;have:=run_loadCells_list (P:=prog) w p (b.map (Value.int .u8)) (λj v d=>by
   have f:=(Fz.1 d).1;simp at f;obtain⟨g,e,l⟩:=i j f;injection e with e;subst e;have m:(⟨g,0,none⟩:Addr).add j=⟨g,j,none⟩:=(by cases j <;> simp [Addr.add]);rw [m,l];rw [Gv] at d;cases k:b[j]? with
   | none=>rw [k] at d;cases d
   | some z=>rw [k] at d;simp at d;rw [<-d];rfl)
  rw [Gz] at this;exact this
theorem xe (u1 u2:Value) (a:List Int) (w:World) (b:Rd1 .u8 w u1 a) (c:Rd1 .u8 w u2 a) :
  Calls prog 48 #[u1,u2] w λe d=>e=.returned (.bool true)/\d=w:=by
 have f:=qN b;have g:=qN c;generalize uc a=t at f g;clear b c;go_enter func48,ntmps48;go_wp2;go_ret;exact⟨bH,rfl⟩
theorem p6 (a b c) (u1 u2:Value) (d:List Int) (w:World) (g:Rd1 .u8 w u1 d) (i:Rd1 .u8 w u2 d) :
  Calls prog 18 #[.agg #[I a,U b,I c,u1],.agg #[I a,U b,I c,u2]] w λe l=>e=.returned (.bool true)/\D w l:=by
 obtain⟨f,j,k⟩:=qF w #[I a,U b,I c,u1] #[I a,U b,I c,u2] 44;have m:=H (xe u1 u2 d _ (g.below f) (i.below f));obtain⟨o,p,q,rfl⟩:=g.sl;obtain⟨r,s,t,rfl⟩:=i.sl;have n:=H f;have u:=H j;have v:=H k;clear f j k g i;have f:(a==a)=true:=bH;have g:(b==b)=true:=bH;have i:(c==c)=true:=bH;go_enter func18,ntmps18;go_wp2_with fail;refine m.mono ?_;rintro e W ⟨rfl,rfl⟩;go_wp2;go_ret;exact⟨rfl,n⟩
def Anw (A:Option Addr) (an:List An4) (W:World):Prop:=∀ j a,an[j]?=some a->∃ G,A=some ⟨G,0,none⟩/\∃ v,W.rangeAt G (j*4) [I a.code,U a.addr,I a.size,v]/\Rd1 .u8 W v a.data
theorem Anw.low (h:Anw A an W) (b:D W W'):Anw A an W':=λj a ha=>by
 obtain⟨G,c,v,d,e⟩:=h j a ha
 exact⟨G,c,v,λt u f=>ad b (d t u f),e.below b⟩
theorem wh {i:Value} {l:List Aw} (d:W.ownsRow B 44 4 i l.length (fZ l)) (k:l.map (·.1)=an) (f:∀ z∈l,W.ownsRow B 5 1 z.2 z.1.data.length (Ns .u8 z.1.data)) :
  ∃ A c,i=.slice A an.length c/\Anw A an W:=by
 have e:l.length=an.length:=by rw [<-k,Gz]
 obtain⟨A,c,m,r⟩:=jN d;refine⟨A,c,by rw [m,e],λj a ha=>?_⟩;rw [<-k,Gv] at ha;cases b:l[j]? with
 | none=>rw [b] at ha;cases ha
 | some y =>
  rw [b] at ha;simp at ha;subst ha;have n:=(Fz.1 b).1;obtain⟨_,G,o,g⟩:=r j n;have p:=jx aC 4 (λ_=>rfl) l j y b;have q:(List.take 4 (List.drop (j*4) (fZ l)))=_:=p;dsimp only at g;rw [q] at g;exact⟨G,o,y.2,g,mX (f y (FM b))⟩
theorem Db {b:List (Value×Value)} {vw} (c:b.length=12) (w:Wt8 cf h W b vw V) :
  ∃ a,Re V vw 12 3 a/\∀ k,k<12->∃ u1 u2,a k=[u1,u2,I cf.fifo]/\Rd1 .i64 V u1 (h.mx k)/\Rd1 .i64 V u2 (h.ff k):=by
 have a:=w.row;rw [c] at a;refine⟨_,jN a,λk d=>?_⟩;have e:b[k]?=some b[k]:=Fy Z;exact⟨_,_,jx (E9 cf) 3 (λ_=>rfl) b k _ e,mX (w.at_ k _ e).1,mX (w.at_ k _ e).2⟩
def ts:Prop:=∀ (cf:Cf) (da:Option Addr) (dc:Nat) (A:Option Addr) (cap:Nat) (ops:List df) (w:World),mE cf->1<=cf.large->Sl w da cf.ds->Ois w A ops->ops.length<=300 ->
 Calls prog 12 #[gZ cf da dc,.slice A ops.length cap] w λe W'=>∃ (l:List Aw) (i m0 m1 m2 m3 m4 m5 m6 m7:Value),e=.returned (.agg #[.bool true,i,m0,m1,m2,m3,m4,m5,m6,m7])/\(∀ v∈[i,m0,m1,m2,m3,m4,m5,m6,m7],v.oneCell'=true)/\l.map (·.1)=(bd cf (ops.map df.o) (aP cf) []).2/\W'.ownsRow w.heap.size 44 4 i l.length (fZ l)/\(∀ z∈l,W'.ownsRow w.heap.size 5 1 z.2 z.1.data.length (Ns .u8 z.1.data))/\D w W'/\Mt cf (bd cf (ops.map df.o) (aP cf) []).1 W' m0 m1 m2 m3 m4 m5 m6 m7
theorem uE (W:World):Calls prog 17 #[.agg #[I 0,C,C,C,C,C,C,I 0],.agg #[I 0,C,C,C,C,C,C,I 0]] W λe b=>e=.returned (.bool true)/\D W b:=by
 have r:∀ k,Rd1 k W (C) []:=λk=>⟨none,0,rfl,λi c=>absurd c (Nat.not_lt_zero _)⟩
 have e:∀ sz,Re W (C) 0 sz (λ_=>[]):=λsz=>⟨none,0,rfl,λk a=>absurd a (Nat.not_lt_zero _)⟩
 exact o6 W 0 0 0 [] [] [] 0 0 0 _ _ _ _ (λ_=>[]) (λ_=>[]) _ _ _ _ _ _ _ _ _ _ _ _ (r _) (r _) (r _) (r _) (r _) (r _) (e 5) (e 5) (λk a=>absurd a (Nat.not_lt_zero _)) (e 5) (e 5) (λk a=>absurd a (Nat.not_lt_zero _)) (e 3) (e 3) (λk a=>absurd a (Nat.not_lt_zero _)) (λk a=>absurd a (Nat.not_lt_zero _)) ar ar ar ar ar ar (λk a=>absurd a (Nat.not_lt_zero _))
def kn (n:Nat):Code->Option Code
 | .region k c d=>if k=n then some (.region k c d) else none
 | .block _ c=>kn n c
 | .seq a b=>match kn n a with
  | some c=>some c
  | none=>kn n b
 | .scope c=>kn n c
 | .loop c=>kn n c
 | .cond _ a b=>match kn n a with
  | some c=>some c
  | none=>kn n b
 | _=>none
theorem pY {i:Nat} (a:Array Value) (h:W.cell? ⟨g,i,none⟩=some v) (b:g≠F):(W.setRow F a).cell? ⟨g,i,none⟩=some v:=by
 have c:g<W.heap.size:=by
  cases e:W.heap[g]? with
  | none=>simp [World.cell?,e] at h
  | some o=>exact ag e
 have e:=(aj W F a).block g c (λe=>b (by injection e));unfold World.cell? at h ⊢;rw [e];exact h
theorem Bd {k} {b:Bool} (j:Array Value) (r:Rd1 k W u zs) (f:W.cell? ⟨F,0,none⟩=some (.bool b)):Rd1 k (W.setRow F j) u zs:=by
 obtain⟨a,c,e,h⟩:=r;refine⟨a,c,e,λi n=>?_⟩;obtain⟨g,l,o⟩:=h i n;refine⟨g,l,pY j o (λp=>?_)⟩;obtain⟨q,d,m⟩:=h 0 Z;rw [l] at d;injection d with d;injection d with d;rw [<-d,p,f] at m;cases m
theorem tQ {b:Bool} (g:Array Value) (r:Anw A an W) (a:W.cell? ⟨F,0,none⟩=some (.bool b)):Anw A an (W.setRow F g):=λj x m=>by
 obtain⟨G,e,v,n,d⟩:=r j x m
 obtain⟨f,k⟩:∃ f,an[0]?=some f:=⟨_,Fy (by have:=(Fz.1 m).1;omega)⟩
 obtain⟨s,c,t,l,_⟩:=r 0 f k
 rw [e] at c
 injection c with c
 injection c with c
 subst c
 have o:G≠F:=λp=>by
  have i:W.cell? ⟨G,0,none⟩=some (I f.code):=by have:=l 0 _ rfl;simpa using this
  rw [p,a] at i
  cases i
 exact⟨G,e,v,λi u q=>pY g (n i u q) o,Bd g d a⟩
theorem Cu (f:World) (X:Nat) (mi fi la bu ky) (da:Option Addr) (y z:Nat) (A:Option Addr) (L g n:Nat) (T:n<=L) (V:L<=g) (Y:L<=1000) (P:A=none->g=0) (bb:Bool) (an:List An4) (x:f.heap[X]?=some (.cells #[I mi,I fi,I la,I bu,U ky,.slice da y z] 26)) (G:∀ W,D f W->Calls prog 11 #[.agg #[I mi,I fi,I la,I bu,U ky,.slice da y z],.slice A n g] W λe W'=>∃ (k:Option Addr) (l:Nat) (m0 m1 m2 m3 m4 m5 m6 m7:Value),e=.returned (.agg #[.bool bb,.slice k an.length l,m0,m1,m2,m3,m4,m5,m6,m7])/\(#[.bool bb,.slice k an.length l,m0,m1,m2,m3,m4,m5,m6,m7]:Array Value).all (·.oneCell')=true/\D W W'/\Anw k an W') (K:Act->World->Prop) (Q:Exit->Act->World->Prop) (s:∀ c (a:Act) (d:Option Tmp) v w,Q (.panic c) (a.put d v) w->Q (.panic c) a w) (u0 u1 u2 u5 u6 u7 u8 u10 u11 u12 u13 u14 u15 u16 u17 u18 u19 u20 u21 u22 u23 u24 u25 u26 u27 u28 u29 u30 u31 u32 u33 u34 u35 u36 u37 u38 u39 u40 u41 u42 u43 u44 u45 u46 u47 u48 u49 u50 u51 u52 u53 u54 u55 u56 u57 u58 u59 u60 u61 u62 u63 u64 u65 u66 u67 u68 u69 u70 u71 u72 u73 u74 u75 u76 u77 u78 u79 u80 u81 u82 u83 u84 u85 u86 u87 u88 u89 u90 u91 u92 u93 u94 u95 u96 u97 u98 u99 u100 u101 u102 u103 u104 u105 u106 u107 u108 u109 u110 u111 u112 u113 u114 u115 u116 u117 u118 u119 u120 u121 u122 u123 u124 u125 u126 u127 u128 u129 u130 u131 u132 u133 u134:Value) (d:∀ (F:Nat) (k:Option Addr) (l:Nat) (m0 m1 m2 m3 m4 m5 m6 m7:Value) (j m o q r:Value) (i:World),Hid (i.heap[F]?=some (.cells #[.bool bb,.slice k an.length l,m0,m1,m2,m3,m4,m5,m6,m7] 38)/\D f i/\Anw k an i)->K ⟨#[u0,u1,u2,J X 0,.slice A L g,u5,u6,u7,u8,I n,J F 0,u11,u12,u13,u14,u15,u16,u17,u18,u19,u20,u21,u22,u23,u24,u25,u26,u27,u28,u29,u30,u31,u32,u33,u34,u35,u36,u37,u38,u39,u40,u41,u42,u43,u44,u45,u46,u47,u48,u49,u50,u51,u52,u53,j,m,o,q,r,u59,u60,u61,u62,u63,u64,u65,u66,u67,u68,u69,u70,u71,u72,u73,u74,u75,u76,u77,u78,u79,u80,u81,u82,u83,u84,u85,u86,u87,u88,u89,u90,u91,u92,u93,u94,u95,u96,u97,u98,u99,u100,u101,u102,u103,u104,u105,u106,u107,u108,u109,u110,u111,u112,u113,u114,u115,u116,u117,u118,u119,u120,u121,u122,u123,u124,u125,u126,u127,u128,u129,u130,u131,u132,u133,u134],[]⟩ i) :
  Code.wp prog ((Tryz.f8.body.bind (kn 12)).getD .skip) (Exit.then K Q) ⟨#[u0,u1,u2,J X 0,.slice A L g,u5,u6,u7,u8,I n,u10,u11,u12,u13,u14,u15,u16,u17,u18,u19,u20,u21,u22,u23,u24,u25,u26,u27,u28,u29,u30,u31,u32,u33,u34,u35,u36,u37,u38,u39,u40,u41,u42,u43,u44,u45,u46,u47,u48,u49,u50,u51,u52,u53,u54,u55,u56,u57,u58,u59,u60,u61,u62,u63,u64,u65,u66,u67,u68,u69,u70,u71,u72,u73,u74,u75,u76,u77,u78,u79,u80,u81,u82,u83,u84,u85,u86,u87,u88,u89,u90,u91,u92,u93,u94,u95,u96,u97,u98,u99,u100,u101,u102,u103,u104,u105,u106,u107,u108,u109,u110,u111,u112,u113,u114,u115,u116,u117,u118,u119,u120,u121,u122,u123,u124,u125,u126,u127,u128,u129,u130,u131,u132,u133,u134],[]⟩ f:=by
 have M:=H d;have u:=H s;have R:=H x;have N:=H G;clear d s x G
 conv=>arg 2;whnf
 refine rh (S:=λd=>D f d) ?_;have i:=(show D f f.drew from (Fu f.heap.size f).drew);refine pf 0 (.agg #[I mi,I fi,I la,I bu,U ky,.slice da y z]) rfl i (λW h=>zR 26 _ rfl X rfl (run_loadVar_row _ X 26 26 _ (0,0) _ (IU h R) underlying26 rfl E)) ?_ (hQ:=λ_ _ _ h=>u.out _ _ _ _ _ h)
 try simp only [lz,l0,ls]
 refine pk 1 (.slice A L g) i ?_ (hQ:=λ_ _ _ h=>u.out _ _ _ _ _ h)
 try simp only [lz,l0,ls]
 refine pk 2 (I n) i ?_ (hQ:=λ_ _ _ h=>u.out _ _ _ _ _ h)
 try simp only [lz,l0,ls]
 refine pf 3 (.slice A n g) rfl i (λW h=>by cases A with|none=>(have d:=P rfl;have j:L=0:= Z;have m:n=0:= Z;subst d j m;go_simp)|some p=>(go_simp;try (intro o;omega))) ?_ (hQ:=λ_ _ _ h=>u.out _ _ _ _ _ h)
 try simp only [lz,l0,ls]
 generalize j:f.drew=q at i ⊢;have d:({ heap:=f.heap,tape:=f.tape,drawn:=f.drawn+1,os:=f.os,output:=f.output } : World)=q:=j
 try rw [d]
 clear j d;refine wpAnyH_ready (rs:=[4,5]) E bH ?_;refine AllReadyH.cons rfl (λK' d=>?_) (AllReadyH.cons rfl (λK' d=>?_) AllReadyH.nil)
 ·rw [GP E];go_simp;refine (N q i).mono ?_;rintro e r ⟨k,l,m0,m1,m2,m3,m4,m5,m6,m7,rfl,m,o,j⟩;obtain⟨nb,t⟩:=uy r #[.bool false,C,I 0,C,C,C,C,C,C,I 0] #[.bool bb,.slice k an.length l,m0,m1,m2,m3,m4,m5,m6,m7] 38;refine d _ _ (az i o) (λ_=>?_);clear d K'
  try simp only [lz,l0,ls]
  refine po 5 λK' d=>?_;go_simp;have s:=(Fu r.heap.size r).alloc (Fv _) (.cells #[.bool false,C,I 0,C,C,C,C,C,C,I 0] 38);refine d _ _ ⟨az (az i o) s,?_⟩;clear d K'
  try simp only [lz,l0,ls]
  refine po 6 λK' d=>?_;refine Ih 38 _ _ rfl _ _ rfl rfl 38 _ (ao r _) E rfl m ?_;refine d _ _ ⟨az (az i o) t,?_⟩;clear d K'
  try simp only [lz,l0,ls]
  refine bY ?_;apply M.out;exact H ⟨nb,az (az i o) t,j.low t⟩
 have s:=(Fu q.heap.size q).alloc (Fv _) (.cells #[.bool false,C,I 0,C,C,C,C,C,C,I 0] 38);have t:=ao q (.cells #[.bool false,C,I 0,C,C,C,C,C,C,I 0] 38);rw [GP E];go_simp;refine d _ _ (az i s) (λ_=>?_);clear d K'
 try simp only [lz,l0,ls]
 refine po 4 λK' d=>?_;go_simp;refine (N _ (az i s)).mono ?_;rintro e r ⟨k,l,m0,m1,m2,m3,m4,m5,m6,m7,rfl,m,o,j⟩;have x:=IU o t;have B:=az (az i s) o;refine d _ _ ⟨B,?_⟩;clear d K'
 try simp only [lz,l0,ls]
 refine po 6 λK' d=>?_;refine Ih 38 _ _ rfl _ _ rfl rfl 38 _ x E rfl m ?_;have O:D f (r.setRow q.heap.size #[.bool bb,.slice k an.length l,m0,m1,m2,m3,m4,m5,m6,m7]):=B.grown (aj _ _ _) B.size (λr e=>by cases e;exact i.size);refine d _ _ ⟨O,?_⟩;clear d K'
 try simp only [lz,l0,ls]
 refine bY ?_;apply M.out;exact H ⟨aw x _,O,tQ (b:=false) _ j (bJ x)⟩
theorem CJ (f:World) (X:Nat) (mi fi la bu ky) (da:Option Addr) (y z:Nat) (A:Option Addr) (L g n:Nat) (T:n<=L) (V:L<=g) (Y:L<=1000) (P:A=none->g=0) (bb:Bool) (an:List An4) (x:f.heap[X]?=some (.cells #[I mi,I fi,I la,I bu,U ky,.slice da y z] 26)) (G:∀ W,D f W->Calls prog 12 #[.agg #[I mi,I fi,I la,I bu,U ky,.slice da y z],.slice A n g] W λe W'=>∃ (k:Option Addr) (l:Nat) (m0 m1 m2 m3 m4 m5 m6 m7:Value),e=.returned (.agg #[.bool bb,.slice k an.length l,m0,m1,m2,m3,m4,m5,m6,m7])/\(#[.bool bb,.slice k an.length l,m0,m1,m2,m3,m4,m5,m6,m7]:Array Value).all (·.oneCell')=true/\D W W'/\Anw k an W') (K:Act->World->Prop) (Q:Exit->Act->World->Prop) (s:∀ c (a:Act) (d:Option Tmp) v w,Q (.panic c) (a.put d v) w->Q (.panic c) a w) (u0 u1 u2 u3 u4 u7 u8 u10 u11 u12 u13 u14 u15 u16 u17 u18 u19 u20 u21 u22 u23 u24 u25 u26 u27 u28 u29 u30 u31 u32 u33 u34 u35 u36 u37 u38 u39 u40 u41 u42 u43 u44 u45 u46 u47 u48 u49 u50 u51 u52 u53 u54 u55 u56 u57 u58 u59 u60 u61 u62 u63 u64 u65 u66 u67 u68 u69 u70 u71 u72 u73 u74 u75 u76 u77 u78 u79 u80 u81 u82 u83 u84 u85 u86 u87 u88 u89 u90 u91 u92 u93 u94 u95 u96 u97 u98 u99 u100 u101 u102 u103 u104 u105 u106 u107 u108 u109 u110 u111 u112 u113 u114 u115 u116 u117 u118 u119 u120 u121 u122 u123 u124 u125 u126 u127 u128 u129 u130 u131 u132 u133 u134:Value) (d:∀ (F:Nat) (k:Option Addr) (l:Nat) (m0 m1 m2 m3 m4 m5 m6 m7:Value) (j m o q r:Value) (i:World),Hid (i.heap[F]?=some (.cells #[.bool bb,.slice k an.length l,m0,m1,m2,m3,m4,m5,m6,m7] 38)/\D f i/\Anw k an i)->K ⟨#[u0,u1,u2,u3,u4,J X 0,.slice A L g,u7,u8,I n,u10,J F 0,u12,u13,u14,u15,u16,u17,u18,u19,u20,u21,u22,u23,u24,u25,u26,u27,u28,u29,u30,u31,u32,u33,u34,u35,u36,u37,u38,u39,u40,u41,u42,u43,u44,u45,u46,u47,u48,u49,u50,u51,u52,u53,u54,u55,u56,u57,u58,j,m,o,q,r,u64,u65,u66,u67,u68,u69,u70,u71,u72,u73,u74,u75,u76,u77,u78,u79,u80,u81,u82,u83,u84,u85,u86,u87,u88,u89,u90,u91,u92,u93,u94,u95,u96,u97,u98,u99,u100,u101,u102,u103,u104,u105,u106,u107,u108,u109,u110,u111,u112,u113,u114,u115,u116,u117,u118,u119,u120,u121,u122,u123,u124,u125,u126,u127,u128,u129,u130,u131,u132,u133,u134],[]⟩ i) :
  Code.wp prog ((Tryz.f8.body.bind (kn 13)).getD .skip) (Exit.then K Q) ⟨#[u0,u1,u2,u3,u4,J X 0,.slice A L g,u7,u8,I n,u10,u11,u12,u13,u14,u15,u16,u17,u18,u19,u20,u21,u22,u23,u24,u25,u26,u27,u28,u29,u30,u31,u32,u33,u34,u35,u36,u37,u38,u39,u40,u41,u42,u43,u44,u45,u46,u47,u48,u49,u50,u51,u52,u53,u54,u55,u56,u57,u58,u59,u60,u61,u62,u63,u64,u65,u66,u67,u68,u69,u70,u71,u72,u73,u74,u75,u76,u77,u78,u79,u80,u81,u82,u83,u84,u85,u86,u87,u88,u89,u90,u91,u92,u93,u94,u95,u96,u97,u98,u99,u100,u101,u102,u103,u104,u105,u106,u107,u108,u109,u110,u111,u112,u113,u114,u115,u116,u117,u118,u119,u120,u121,u122,u123,u124,u125,u126,u127,u128,u129,u130,u131,u132,u133,u134],[]⟩ f:=by
 have M:=H d;have u:=H s;have R:=H x;have N:=H G;clear d s x G
 conv=>arg 2;whnf
 refine rh (S:=λd=>D f d) ?_;have i:=(show D f f.drew from (Fu f.heap.size f).drew);refine pf 0 (.agg #[I mi,I fi,I la,I bu,U ky,.slice da y z]) rfl i (λW h=>zR 26 _ rfl X rfl (run_loadVar_row _ X 26 26 _ (0,0) _ (IU h R) underlying26 rfl E)) ?_ (hQ:=λ_ _ _ h=>u.out _ _ _ _ _ h)
 try simp only [lz,l0,ls]
 refine pk 1 (.slice A L g) i ?_ (hQ:=λ_ _ _ h=>u.out _ _ _ _ _ h)
 try simp only [lz,l0,ls]
 refine pk 2 (I n) i ?_ (hQ:=λ_ _ _ h=>u.out _ _ _ _ _ h)
 try simp only [lz,l0,ls]
 refine pf 3 (.slice A n g) rfl i (λW h=>by cases A with|none=>(have d:=P rfl;have j:L=0:= Z;have m:n=0:= Z;subst d j m;go_simp)|some p=>(go_simp;try (intro o;omega))) ?_ (hQ:=λ_ _ _ h=>u.out _ _ _ _ _ h)
 try simp only [lz,l0,ls]
 generalize j:f.drew=q at i ⊢;have d:({ heap:=f.heap,tape:=f.tape,drawn:=f.drawn+1,os:=f.os,output:=f.output } : World)=q:=j
 try rw [d]
 clear j d;refine wpAnyH_ready (rs:=[4,5]) E bH ?_;refine AllReadyH.cons rfl (λK' d=>?_) (AllReadyH.cons rfl (λK' d=>?_) AllReadyH.nil)
 ·rw [GP E];go_simp;refine (N q i).mono ?_;rintro e r ⟨k,l,m0,m1,m2,m3,m4,m5,m6,m7,rfl,m,o,j⟩;obtain⟨nb,t⟩:=uy r #[.bool false,C,I 0,C,C,C,C,C,C,I 0] #[.bool bb,.slice k an.length l,m0,m1,m2,m3,m4,m5,m6,m7] 38;refine d _ _ (az i o) (λ_=>?_);clear d K'
  try simp only [lz,l0,ls]
  refine po 5 λK' d=>?_;go_simp;have s:=(Fu r.heap.size r).alloc (Fv _) (.cells #[.bool false,C,I 0,C,C,C,C,C,C,I 0] 38);refine d _ _ ⟨az (az i o) s,?_⟩;clear d K'
  try simp only [lz,l0,ls]
  refine po 6 λK' d=>?_;refine Ih 38 _ _ rfl _ _ rfl rfl 38 _ (ao r _) E rfl m ?_;refine d _ _ ⟨az (az i o) t,?_⟩;clear d K'
  try simp only [lz,l0,ls]
  refine bY ?_;apply M.out;exact H ⟨nb,az (az i o) t,j.low t⟩
 have s:=(Fu q.heap.size q).alloc (Fv _) (.cells #[.bool false,C,I 0,C,C,C,C,C,C,I 0] 38);have t:=ao q (.cells #[.bool false,C,I 0,C,C,C,C,C,C,I 0] 38);rw [GP E];go_simp;refine d _ _ (az i s) (λ_=>?_);clear d K'
 try simp only [lz,l0,ls]
 refine po 4 λK' d=>?_;go_simp;refine (N _ (az i s)).mono ?_;rintro e r ⟨k,l,m0,m1,m2,m3,m4,m5,m6,m7,rfl,m,o,j⟩;have x:=IU o t;have B:=az (az i s) o;refine d _ _ ⟨B,?_⟩;clear d K'
 try simp only [lz,l0,ls]
 refine po 6 λK' d=>?_;refine Ih 38 _ _ rfl _ _ rfl rfl 38 _ x E rfl m ?_;have O:D f (r.setRow q.heap.size #[.bool bb,.slice k an.length l,m0,m1,m2,m3,m4,m5,m6,m7]):=B.grown (aj _ _ _) B.size (λr e=>by cases e;exact i.size);refine d _ _ ⟨O,?_⟩;clear d K'
 try simp only [lz,l0,ls]
 refine bY ?_;apply M.out;exact H ⟨aw x _,O,tQ (b:=false) _ j (bJ x)⟩
theorem Di (w:World) (an:List An4) (m L:Nat) (hm:m<=L) (hL:an.length=L) (h3:L<=1000) (P7 P8 p:Nat) (A7 A8 s:Option Addr) (c7 c8 q:Nat) (z7:w.cell? ⟨P7,1,none⟩=some (.slice A7 L c7)) (b:w.cell? ⟨P8,1,none⟩=some (.slice A8 L c8)) (f:w.cell? ⟨p,1,none⟩=some (.slice s m q))
  (a7:Anw A7 an w) (a8:Anw A8 an w) (g:Anw s (an.take m) w)
  (K:Act->World->Prop) (Q:Exit->Act->World->Prop) (hQ:∀ c (a:Act) (d:Option Tmp) v w,Q (.panic c) (a.put d v) w->Q (.panic c) a w) (u0 u1 u2 u3 u4 u5 u6 u9 u11 u12 u13 u14 u15 u16 u17 u18 u19 u20 u21 u22 u23 u24 u25 u26 u27 u28 u29 u30 u31 u32 u33 u34 u35 u36 u37 u38 u39 u40 u41 u42 u43 u44 u45 u46 u47 u48 u49 u50 u51 u52 u53 u54 u55 u56 u57 u58 u59 u60 u61 u62 u63 u64 u65 u66 u67 u68 u69 u70 u71 u72 u73 u74 u75 u76 u77 u78 u79 u80 u81 u82 u83 u84 u85 u86 u87 u88 u89 u90 u91 u92 u93 u94 u95 u96 u97 u101 u102 u103 u104 u105 u106 u107 u108 u109 u110 u111 u112 u113 u114 u115 u116 u117 u118 u119 u120 u121 u122 u123 u124 u125 u126 u127 u128 u129 u130 u131 u132 u133 u134:Value) (i:∀ (v2 b0 d j k l n o r t x y z A B F G M N O R T X Y a0 a1 a2 a3 a4 a5 a6 a9:Value) (w':World),Hid (D w w')->K ⟨#[u0,u1,v2,u3,u4,u5,u6,J P7 0,J P8 0,u9,J p 0,u11,b0,u13,u14,u15,u16,u17,u18,u19,u20,u21,u22,u23,u24,u25,u26,u27,u28,u29,u30,u31,u32,u33,u34,u35,u36,u37,u38,u39,u40,u41,u42,u43,u44,u45,u46,u47,u48,u49,u50,u51,u52,u53,u54,u55,u56,u57,u58,u59,u60,u61,u62,u63,u64,u65,u66,u67,u68,u69,u70,u71,u72,u73,u74,u75,u76,u77,u78,u79,u80,u81,u82,u83,u84,u85,u86,u87,u88,u89,u90,u91,u92,u93,u94,u95,u96,u97,.slice s m q,I m,d,j,k,l,n,o,r,t,x,y,z,A,B,F,G,M,N,O,R,T,X,Y,a0,a1,a2,a3,a4,a5,a6,a9,u130,u131,u132,u133,u134],[]⟩ w') :
  Code.wp prog ((Tryz.f8.body.bind (iN 0)).getD .skip) (Exit.then K Q) ⟨#[u0,u1,u2,u3,u4,u5,u6,J P7 0,J P8 0,u9,J p 0,u11,u12,u13,u14,u15,u16,u17,u18,u19,u20,u21,u22,u23,u24,u25,u26,u27,u28,u29,u30,u31,u32,u33,u34,u35,u36,u37,u38,u39,u40,u41,u42,u43,u44,u45,u46,u47,u48,u49,u50,u51,u52,u53,u54,u55,u56,u57,u58,u59,u60,u61,u62,u63,u64,u65,u66,u67,u68,u69,u70,u71,u72,u73,u74,u75,u76,u77,u78,u79,u80,u81,u82,u83,u84,u85,u86,u87,u88,u89,u90,u91,u92,u93,u94,u95,u96,u97,.slice s m q,I m,I 0,u101,u102,u103,u104,u105,u106,u107,u108,u109,u110,u111,u112,u113,u114,u115,u116,u117,u118,u119,u120,u121,u122,u123,u124,u125,u126,u127,u128,u129,u130,u131,u132,u133,u134],[]⟩ w:=by
 have HK:=H i;have d:=H hQ;have Z7:=H z7;have Z8:=H b;have O:=H f;have R:=H (IT a7 (IT a8 g));have HL:=H hL;clear i hQ z7 b f a7 a8 g hL
 conv=>arg 2;whnf
 go_wp2_with fail;go_loopw [100] (λi wr=>∃ j:Nat,j<=m/\i=I j/\Hid (D w wr)) (λi _=>m-(intOf i).toNat);case atStart=>exact ⟨0,FH _,rfl,H (Fu _ _)⟩
 case round =>
  obtain⟨j,hj,rfl,l⟩:=hrel;by_cases T:j<m
  ·obtain⟨x,z⟩:∃ x,an[j]?=some x:=⟨_,Fy (by rw [HL.out];omega)⟩;obtain⟨F,rfl,X,G,M⟩:=R.1 j x z;obtain⟨g,rfl,Y,N,d8⟩:=R.2.1 j x z;obtain⟨f,rfl,r,o,k⟩:=R.2.2 j x (by rw [Hf T];exact z);have a0:j<L:=Z;have R7:=H (show wr.rangeAt F (j*4) [I x.code,U x.addr,I x.size,X] from λi u n=>ad l (G i u n));have R8:=H (show wr.rangeAt g (j*4) [I x.code,U x.addr,I x.size,Y] from λi u n=>ad l (N i u n));have A:=H (show wr.rangeAt f (j*4) [I x.code,U x.addr,I x.size,r] from λi u n=>ad l (o i u n));have t:=H (ad l Z7);have y:=H (ad l Z8);have B:=H (ad l O);have SA:=H (λW (b:D wr W)=>p6 x.code (x.addr:Nat) (x.size:Nat) r X x.data W ((k.below l).below b) ((M.below l).below b));have SB:=H (λW (b:D wr W)=>p6 x.code (x.addr:Nat) (x.size:Nat) r Y x.data W ((k.below l).below b) ((d8.below l).below b));clear G N o M d8 k z;go_upto_region 21 with fail
   (try simp only [Act.put]);refine rh (S:=λb=>D wr b) ?_;have o:=(show D wr wr.drew from (Fu wr.heap.size wr).drew);refine pk 0 (J p 1) o ?_ (hQ:=λ_ _ _ h=>d.out _ _ _ _ _ h)
   (try simp only [lz,l0,ls]);refine pf 1 (Vl f m q) rfl o (λW h=>by have q9:=ad h B.out;go_simp) ?_ (hQ:=λ_ _ _ h=>d.out _ _ _ _ _ h)
   (try simp only [lz,l0,ls]);refine pk 2 (I j) o ?_ (hQ:=λ_ _ _ h=>d.out _ _ _ _ _ h)
   (try simp only [lz,l0,ls]);refine pz 3 (J f (j*4)) o ?_ (hQ:=λ_ _ _ h=>d.out _ _ _ _ _ h)
   (try simp only [lz,l0,ls]);refine pf 4 (.agg #[I x.code,U x.addr,I x.size,r]) rfl o (λW h=>ij 44 _ rfl f (j*4) rfl (run_loadVar_mid (P:=prog) W f (j*4) 44 _ _ (λi u n=>ad h (A i u n)) underlying44 rfl E)) ?_ (hQ:=λ_ _ _ h=>d.out _ _ _ _ _ h)
   (try simp only [lz,l0,ls]);refine pk 5 (J P7 1) o ?_ (hQ:=λ_ _ _ h=>d.out _ _ _ _ _ h)
   (try simp only [lz,l0,ls]);refine pf 6 (Vl F L c7) rfl o (λW h=>by have q9:=ad h t.out;go_simp) ?_ (hQ:=λ_ _ _ h=>d.out _ _ _ _ _ h)
   (try simp only [lz,l0,ls]);refine pk 7 (I j) o ?_ (hQ:=λ_ _ _ h=>d.out _ _ _ _ _ h)
   (try simp only [lz,l0,ls]);refine pz 8 (J F (j*4)) o ?_ (hQ:=λ_ _ _ h=>d.out _ _ _ _ _ h)
   (try simp only [lz,l0,ls]);refine pf 9 (.agg #[I x.code,U x.addr,I x.size,X]) rfl o (λW h=>ij 44 _ rfl F (j*4) rfl (run_loadVar_mid (P:=prog) W F (j*4) 44 _ _ (λi u n=>ad h (R7 i u n)) underlying44 rfl E)) ?_ (hQ:=λ_ _ _ h=>d.out _ _ _ _ _ h)
   (try simp only [lz,l0,ls]);refine po 10 λK' G=>?_;go_simp;refine (SA _ o).mono ?_;rintro e V ⟨rfl,z⟩;have k:=az o z;refine G _ _ ⟨k,?_⟩;clear G K'
   (try simp only [lz,l0,ls]);refine pz 11 (.bool false) k ?_ (hQ:=λ_ _ _ h=>d.out _ _ _ _ _ h)
   (try simp only [lz,l0,ls]);refine pz 12 (.bool false) k ?_ (hQ:=λ_ _ _ h=>d.out _ _ _ _ _ h)
   (try simp only [lz,l0,ls]);refine pk 13 (J p 1) k ?_ (hQ:=λ_ _ _ h=>d.out _ _ _ _ _ h)
   (try simp only [lz,l0,ls]);refine pf 14 (Vl f m q) rfl k (λW h=>by have q9:=ad h B.out;go_simp) ?_ (hQ:=λ_ _ _ h=>d.out _ _ _ _ _ h)
   (try simp only [lz,l0,ls]);refine pk 15 (I j) k ?_ (hQ:=λ_ _ _ h=>d.out _ _ _ _ _ h)
   (try simp only [lz,l0,ls]);refine pz 16 (J f (j*4)) k ?_ (hQ:=λ_ _ _ h=>d.out _ _ _ _ _ h)
   (try simp only [lz,l0,ls]);refine pf 17 (.agg #[I x.code,U x.addr,I x.size,r]) rfl k (λW h=>ij 44 _ rfl f (j*4) rfl (run_loadVar_mid (P:=prog) W f (j*4) 44 _ _ (λi u n=>ad h (A i u n)) underlying44 rfl E)) ?_ (hQ:=λ_ _ _ h=>d.out _ _ _ _ _ h)
   (try simp only [lz,l0,ls]);refine pk 18 (J P8 1) k ?_ (hQ:=λ_ _ _ h=>d.out _ _ _ _ _ h)
   (try simp only [lz,l0,ls]);refine pf 19 (Vl g L c8) rfl k (λW h=>by have q9:=ad h y.out;go_simp) ?_ (hQ:=λ_ _ _ h=>d.out _ _ _ _ _ h)
   (try simp only [lz,l0,ls]);refine pk 20 (I j) k ?_ (hQ:=λ_ _ _ h=>d.out _ _ _ _ _ h)
   (try simp only [lz,l0,ls]);refine pz 21 (J g (j*4)) k ?_ (hQ:=λ_ _ _ h=>d.out _ _ _ _ _ h)
   (try simp only [lz,l0,ls]);refine pf 22 (.agg #[I x.code,U x.addr,I x.size,Y]) rfl k (λW h=>ij 44 _ rfl g (j*4) rfl (run_loadVar_mid (P:=prog) W g (j*4) 44 _ _ (λi u n=>ad h (R8 i u n)) underlying44 rfl E)) ?_ (hQ:=λ_ _ _ h=>d.out _ _ _ _ _ h)
   (try simp only [lz,l0,ls]);refine po 23 λK' G=>?_;go_simp;refine (SB _ k).mono ?_;rintro e V2 ⟨rfl,M⟩;have N:=az k M;refine G _ _ ⟨N,?_⟩;clear G K'
   (try simp only [lz,l0,ls]);refine pz 24 (.bool false) N ?_ (hQ:=λ_ _ _ h=>d.out _ _ _ _ _ h)
   (try simp only [lz,l0,ls]);refine pz 25 (.bool false) N ?_ (hQ:=λ_ _ _ h=>d.out _ _ _ _ _ h)
   (try simp only [lz,l0,ls]);refine bY ?_;have G:=H (az l N);clear o k N z M l R7 R8 A t y B SA SB;go_wp2;go_roundw;(case rel=>exact ⟨j+1,Z,aY,G⟩);case measure=>simp [intOf];omega
  go_wp2_with fail;apply HK.out;exact l
structure Dr9 (c:Cd) (da:Option Addr) (A:Option Addr) (ops:List df) (W:World):Prop where
 sl:Sl W da c.ds
 dbq9:∀ a,da=some a->a.block<W.heap.size
 oi:Ois W A ops
 ob:∀ q∈ops,q.o.ys.length<=q.dc /\ -9223372036854775808<=q.o.ref/\∀ y∈q.o.ys,0<=y/\y<=255
theorem Dr9.low {c da A ops W W'} (h:Dr9 c da A ops W) (b:D W W'):Dr9 c da A ops W':=⟨h.sl.below b,λa ha=>FG (h.dbq9 a ha) b.size,h.oi.low b,h.ob⟩
theorem Dr9.take {c da A ops W} (h:Dr9 c da A ops W) (n:Nat):Dr9 c da A (ops.take n) W:=by
 have b:∀ q∈ops.take n,q∈ops:=λq a=>List.mem_of_mem_take a
 refine⟨h.sl,h.dbq9,⟨λk q a=>h.oi.at_ k q ?_,λq a=>h.oi.wf q (b q a),λq a=>h.oi.dat q (b q a)⟩,λq a=>h.ob q (b q a)⟩;rw [Gx] at a;split at a;·exact a
 cases a
theorem wT {e:Nat} (b:Ok4 B { c with da:=da,dc:=e } W) (a:W.ownsRow B 42 6 (.slice A ops.length n) ops.length (iT ops)) (d:∀ q∈ops,Od6 B q W):Dr9 c da A ops W :=
 ⟨b.sl.1,b.sl.2,(yZ a d).1,(yZ a d).2⟩
def BR (c:Cd) (os:List fL) (bb:Bool) (cf:Cf) (h:Hs) (an:List An4):Prop :=
 (bb=true/\os.length<=300/\(∀ da dc,Value.agg (pQ { c with da:=da,dc:=dc }).toArray=gZ cf da dc)/\mE cf/\1<=cf.large/\cf.ds=c.ds/\bd cf os (aP cf) []=(h,an))\/(bb=false/\¬(jg c.mi c.fi c.la c.bu c.ds.length/\os.length<=300)/\an=[])
def Mz (cf:Cf) (h:Hs) (bb:Bool) (W:World) (m0 m1 m2 m3 m4 m5 m6 m7:Value):Prop:=(bb=true/\Mt cf h W m0 m1 m2 m3 m4 m5 m6 m7)\/(bb=false/\m0=I 0/\m1=C/\m2=C/\m3=C/\m4=C/\m5=C/\m6=C/\m7=I 0)
theorem Mz.low {cf h bb W W' m0 m1 m2 m3 m4 m5 m6 m7} (t:Mz cf h bb W m0 m1 m2 m3 m4 m5 m6 m7) (b:D W W'):Mz cf h bb W' m0 m1 m2 m3 m4 m5 m6 m7:=by
 rcases t with ⟨e,t⟩|t;·exact .inl ⟨e,t.low b⟩
 exact .inr t
theorem wj {os} (f:BR c os bb cf h an) {n0 n1 n2 n3 n4 n5 n6 n7} (t:Mz cf h bb W m0 m1 m2 m3 m4 m5 m6 m7) (b:Mz cf h bb W n0 n1 n2 n3 n4 n5 n6 n7) :
  Calls prog 17 #[.agg #[m0,m1,m2,m3,m4,m5,m6,m7],.agg #[n0,n1,n2,n3,n4,n5,n6,n7]] W λe g=>e=.returned (.bool true)/\D W g:=by
 rcases t with ⟨e,t⟩|⟨e,rfl,rfl,rfl,rfl,rfl,rfl,rfl,rfl⟩
 ·rcases b with ⟨_,b⟩|⟨a,_⟩
  ·rcases f with ⟨_,j,_,d,_,_,i⟩|⟨a,_⟩;·have q:=jp cf d.fifo1 os (aP cf) [] 0 (Inv.new cf) ⟨Fv _,Fv _,Fv _,Fv _⟩;rw [i] at q;exact sP t b q.1 q.2 Z d
   rw [e] at a;cases a
  rw [e] at a;cases a
 rcases b with ⟨a,_⟩|⟨_,rfl,rfl,rfl,rfl,rfl,rfl,rfl,rfl⟩;·rw [e] at a;cases a
 exact uE W
theorem tJ (W):Anw none [] W:=λj a ha=>by simp at ha
theorem wB (u:y8) (v:BR c (ops.map df.o) bb cf h an) (d:Dr9 c da A ops W) (a f:Nat) (q:Tb W) (w:0<W.heap.size) :
  Calls prog 11 #[.agg #[I c.mi,I c.fi,I c.la,I c.bu,U c.ky,.slice da c.ds.length a],.slice A ops.length f] W λe W'=>∃ (g:Option Addr) (m:Nat) (m0 m1 m2 m3 m4 m5 m6 m7:Value),e=.returned (.agg #[.bool bb,.slice g an.length m,m0,m1,m2,m3,m4,m5,m6,m7])/\(#[.bool bb,.slice g an.length m,m0,m1,m2,m3,m4,m5,m6,m7]:Array Value).all (·.oneCell')=true/\D W W'/\Anw g an W'/\Mz cf h bb W' m0 m1 m2 m3 m4 m5 m6 m7:=by
 rcases v with ⟨rfl,r,x,y,z,B,F⟩|⟨rfl,i,rfl⟩;·have s:=x da a;rw [show Value.agg (pQ { c with da:=da,dc:=a }).toArray=.agg #[I c.mi,I c.fi,I c.la,I c.bu,U c.ky,.slice da c.ds.length a] from rfl] at s;rw [s];rw [Gz] at r;refine (u cf da a A f ops W y z q (by rw [B];exact d.sl) d.dbq9 w d.oi d.ob r).mono ?_;rintro e W' ⟨l,G,m0,m1,m2,m3,m4,m5,m6,m7,rfl,n,j,o,p,b,t⟩;rw [F] at j t;obtain⟨g,m,rfl,k⟩:=wh o j p;exact⟨g,m,m0,m1,m2,m3,m4,m5,m6,m7,rfl,uw n,b,k,.inl ⟨rfl,t⟩⟩
 rw [Gz] at i;refine (nt _ _ _ _ _ _ _ _ _ _ _ _ q i).mono ?_;rintro e W' ⟨rfl,b⟩;exact⟨none,0,_,_,_,_,_,_,_,_,rfl,E,b,tJ W',.inr ⟨rfl,rfl,rfl,rfl,rfl,rfl,rfl,rfl,rfl⟩⟩
theorem wG (t:ts) (u:AJ) (v:BR c (ops.map df.o) bb cf h an) (d:Dr9 c da A ops W) (a f:Nat) :
  Calls prog 12 #[.agg #[I c.mi,I c.fi,I c.la,I c.bu,U c.ky,.slice da c.ds.length a],.slice A ops.length f] W λe W'=>∃ (g:Option Addr) (m:Nat) (m0 m1 m2 m3 m4 m5 m6 m7:Value),e=.returned (.agg #[.bool bb,.slice g an.length m,m0,m1,m2,m3,m4,m5,m6,m7])/\(#[.bool bb,.slice g an.length m,m0,m1,m2,m3,m4,m5,m6,m7]:Array Value).all (·.oneCell')=true/\D W W'/\Anw g an W'/\Mz cf h bb W' m0 m1 m2 m3 m4 m5 m6 m7:=by
 rcases v with ⟨rfl,q,w,x,y,z,B⟩|⟨rfl,i,rfl⟩;·have r:=w da a;rw [show Value.agg (pQ { c with da:=da,dc:=a }).toArray=.agg #[I c.mi,I c.fi,I c.la,I c.bu,U c.ky,.slice da c.ds.length a] from rfl] at r;rw [r];rw [Gz] at q;refine (t cf da a A f ops W x y (by rw [z];exact d.sl) d.oi q).mono ?_;rintro e W' ⟨l,F,m0,m1,m2,m3,m4,m5,m6,m7,rfl,n,j,o,p,b,s⟩;rw [B] at j s;obtain⟨g,m,rfl,k⟩:=wh o j p;exact⟨g,m,m0,m1,m2,m3,m4,m5,m6,m7,rfl,uw n,b,k,.inl ⟨rfl,s⟩⟩
 rw [Gz] at i;refine (u _ _ _ _ _ _ _ _ _ _ _ _ i).mono ?_;rintro e W' ⟨rfl,b⟩;exact⟨none,0,_,_,_,_,_,_,_,_,rfl,E,b,tJ W',.inr ⟨rfl,rfl,rfl,rfl,rfl,rfl,rfl,rfl,rfl⟩⟩
theorem wX {f:Nat} (i:Ok4 B { c with da:=da,dc:=f } W) (a:List fL) (n:Nat) (j:n<=a.length):∃ (cf:Cf) (bb:Bool) (h:Hs) (an:List An4) (b:Bool) (g:Hs) (d:List An4),BR c a bb cf h an/\BR c (a.take n) b cf g d/\(bb=true->b=true/\d=an.take n/\an.length=a.length):=by
 have k:(a.take n).length=n:=by rw [Hm];omega
 by_cases d:jg c.mi c.fi c.la c.bu c.ds.length
 ·obtain⟨cf,e,m,o,p⟩:=Bn i d;have r:∀ da f,Value.agg (pQ { c with da:=da,dc:=f }).toArray=gZ cf da f:=λs t=>by
   unfold pQ gZ at e ⊢;simp at e ⊢;obtain⟨u,v,w,x,y,z⟩:=e;exact⟨u,v,w,x,y,z⟩
  have b:∀ l:List fL,l.length<=300->BR c l true cf (bd cf l (aP cf) []).1 (bd cf l (aP cf) []).2:=λl A=>.inl ⟨rfl,A,r,m,o,p,rfl⟩
  by_cases g:a.length<=300;·exact⟨cf,true,_,_,true,_,_,b a g,b (a.take n) Z,λ_=>⟨rfl,(rP cf a n j).symm,by rw [ft];simp⟩⟩
  by_cases F:n<=300;·exact⟨cf,false,aP cf,[],true,_,_,.inr ⟨rfl,λq=>g q.2,rfl⟩,b (a.take n) Z,λq=>by cases q⟩
  exact⟨cf,false,aP cf,[],false,aP cf,[],.inr ⟨rfl,λq=>g q.2,rfl⟩,.inr ⟨rfl,λq=>Z,rfl⟩,λq=>by cases q⟩
 exact⟨⟨0,0,0,0,0,[]⟩,false,aP ⟨0,0,0,0,0,[]⟩,[],false,aP ⟨0,0,0,0,0,[]⟩,[],.inr ⟨rfl,λq=>d q.1,rfl⟩,.inr ⟨rfl,λq=>d q.1,rfl⟩,λq=>by cases q⟩
theorem fY {ops:Array Oper} {e:List Oper} {f:Oper} {Q:Exit->Act->World->Prop} (i:Region.wanted f (yielded ops a.tmps)=true) (c:TypeId) (x:Operand) (j:f.op=.load c x) (b o) (k:a.eval x=J b o) (g:List Value) (d:TypeDesc) (l:w.rangeAt b o g) (m:prog.underlying c=some d) (n:d.isRow=true) (p:(prog.info? c).map (·.size)=some g.length) (h:wpList prog ops Q e (a.put f.dst (.agg g.toArray)) w):wpList prog ops Q (f::e) a w :=
 wpList_step λK q=>by simp only [i,IM];exact wp_load_mid c x j b o k g d l m n p (q _ _ h)
theorem rowP {c:Nat} {a b:Value} {t:TypeId} {f:Nat×Nat} (h:W.heap[c]?=some (.cells #[a,b,m0,m1,m2,m3,m4,m5,m6,m7] t f)):W.rangeAt c 2 [m0,m1,m2,m3,m4,m5,m6,m7]:=λj u hu=>by
 rw [GT _ _ _ _ _ _ h]
 match j,hu with
 | 0,hu=>exact hu
 | 1,hu=>exact hu
 | 2,hu=>exact hu
 | 3,hu=>exact hu
 | 4,hu=>exact hu
 | 5,hu=>exact hu
 | 6,hu=>exact hu
 | 7,hu=>exact hu
 | j+8,hu=>simp at hu
theorem qP {e:TypeId} {sz:Nat} {l m:Nat} {d:List Value} (h:W.ownsRow B e sz (.slice A l n) m d):l<=n/\(A=none->n=0):=by
 rcases h.2 with ⟨a,_⟩|⟨g,f,i,a,_,_,k,_⟩
 ·injection a with b j c;exact⟨Z,λ_=>c⟩
 injection a with b j c;exact⟨Z,λe=>by rw [b] at e;cases e⟩
theorem Dd (RI:y8) (RS:ts) (SN:AJ) (a:Option Addr) (f t:Nat) (zs:List Int) (w:World) (h0:IsRow .u8 w a f t zs) (tb:Tb w) (hw:0<w.heap.size) :
  Calls prog 8 #[.slice a f t] w λe w'=>e=.returned (.bool true)/\D w w':=by
 by_cases hl:1048576<f;·go_enter func8,ntmps8;go_wp2;go_ret;exact⟨rfl,Fu _ _⟩
 obtain⟨c,os,i5,i6,GD⟩:=Bt (zs.take f);have u:=H (show Cbq9 (zs.take f) w a f t from ⟨zs,h0,rfl,Z⟩);have DR:=H GD;have TB:=H tb;have HW:=H hw;have d1:=H RI;have d2:=H RS;have d3:=H SN;obtain⟨L,hL⟩:∃ L,os.length=L:=⟨_,rfl⟩;rw [hL] at i6;have HL:=H hL;have x:f%(L+1)<=L:=Nat.le_of_lt_succ (Nat.mod_lt _ (Nat.succ_pos _));clear h0 tb hw RI RS SN GD hL i5;go_enter func8,ntmps8;go_wp2_with fail;refine (DR w a f t u).mono ?_;rintro e V1 ⟨da,dc,ops,A,n1,B1,ho,rfl,hB,ok,g,od,b1⟩;have e1:ops.length=L:=by rw [<-HL.out,<-ho,Gz]
 obtain⟨cf,bb,hs,an,y,l1,d4,rn,d5,X⟩:=wX ok os (f%(L+1)) (by rw [HL.out];exact x);have RN:=H rn;have a5:=H d5;have d6:=H X;have b2:D V1 _:=(Fu V1.heap.size V1).alloc (Fv _) (.cells #[I c.mi,I c.fi,I c.la,I c.bu,U c.ky,.slice da c.ds.length dc] 26);have HX:=H (ao V1 (.cells #[I c.mi,I c.fi,I c.la,I c.bu,U c.ky,.slice da c.ds.length dc] 26));have z:=H ((wT ok g od).low b2);have B2:=H (az b1 b2);rw [e1] at g ⊢;obtain⟨d7,d8⟩:=qP g;have HO:=H (IT ho e1);have d9:=H (IT d7 d8);clear ok g od b1 b2 hB rn d5 X ho e1 d7 d8;unfold pQ;dsimp only;go_upto_region 4 with fail
 generalize V1.alloc (.cells #[I c.mi,I c.fi,I c.la,I c.bu,U c.ky,.slice da c.ds.length dc] 26)=V2 at HX B2 z ⊢;generalize V1.heap.size=X1 at HX ⊢;go_wp2_with fail;refine (DR V2 a f t (u.below B2)).mono ?_;rintro e V3 ⟨N,p,o,A2,n2,B3,a6,rfl,hB,ok,g,od,b3⟩;have e2:o.length=L:=by rw [<-HL.out,<-a6,Gz]
 have b4:D V3 _:=(Fu V3.heap.size V3).alloc (Fv _) (.cells #[I c.mi,I c.fi,I c.la,I c.bu,U c.ky,.slice N c.ds.length p] 26);have HY:=H (ao V3 (.cells #[I c.mi,I c.fi,I c.la,I c.bu,U c.ky,.slice N c.ds.length p] 26));have B:=H ((wT ok g od).low b4);have B4:=H (az b3 b4);have a7:=H (IU B4 HX);have a8:=H (z.low B4);rw [e2] at g ⊢;obtain⟨e0,e3⟩:=qP g;have O:=H (IT a6 e2);have Y:=H (IT e0 e3);have q:=H (az B2 B4);clear ok g od b3 b4 hB a6 e2 e0 e3 HX z DR u B4;unfold pQ;dsimp only;go_upto_region 5 with fail
 generalize V3.alloc (.cells #[I c.mi,I c.fi,I c.la,I c.bu,U c.ky,.slice N c.ds.length p] 26)=V4 at HY B a7 a8 q ⊢;generalize V3.heap.size=X2 at HY ⊢;have F:=H (show ∀ W,D V4 W->_ from λW (k:D V4 W)=>wB d1 (ops:=ops) (by rw [HO.1];exact RN) (a8.low k) dc n1 (TB.below (az q k)) (by have:=HW.out;have:=q.size;have:=k.size;omega));have CS:=H (show ∀ W,D V4 W->_ from λW (k:D V4 W)=>wG d2 d3 (ops:=o) (by rw [O.1];exact RN) (B.low k) p n2);rw [HO.2] at F;rw [O.2] at CS;go_wp2_with (refine Gt rfl 26 _ rfl _ rfl _ _ _ _ a7 underlying26 rfl E ?_);refine (F V4 (Fu _ _)).mono ?_;rintro e V5 ⟨A7,c7,m0,m1,m2,m3,m4,m5,m6,m7,rfl,i,b5,e4,e5⟩;obtain⟨nb,P⟩:=uy V5 #[.bool false,C,I 0,C,C,C,C,C,C,I 0] #[.bool bb,.slice A7 an.length c7,m0,m1,m2,m3,m4,m5,m6,m7] 38;have OA:=H i;have N7:=H nb;have B6:=H (az b5 P);have a9:=H (e4.low P);have b0:=H (e5.low P);clear nb P b5 i e4 e5;go_upto_region 6 with (refine Gf rfl 38 _ _ rfl _ _ rfl rfl 38 _ (ao V5 _) E rfl OA ?_;generalize (V5.alloc (.cells #[.bool false,C,I 0,C,C,C,C,C,C,I 0] 38)).setRow V5.heap.size #[.bool bb,.slice A7 an.length c7,m0,m1,m2,m3,m4,m5,m6,m7]=V6 at N7 B6 a9 b0 ⊢;generalize V5.heap.size=P7 at N7 ⊢)
 have e6:=H (IU B6 HY);go_wp2_with (refine Gt rfl 26 _ rfl _ rfl _ _ _ _ e6 underlying26 rfl E ?_);refine (CS V6 B6).mono ?_;rintro e V7 ⟨A8,c8,k0,k1,k2,k3,k4,k5,k6,k7,rfl,i,b7,e7,e8⟩;obtain⟨nb,P⟩:=uy V7 #[.bool false,C,I 0,C,C,C,C,C,C,I 0] #[.bool bb,.slice A8 an.length c8,k0,k1,k2,k3,k4,k5,k6,k7] 38;have e9:=H i;have N8:=H nb;have B8:=H (az b7 P);have b6:=H (e7.low P);have Q:=H (e8.low P);have b8:=H (a9.low B8);have R:=H (b0.low B8);have G:=H (IU B8 N7);have c0:=H (az B6 B8);clear nb P b7 i e7 e8 OA a9 b0 N7 e6 B6;go_upto_region 7 with (refine Gf rfl 38 _ _ rfl _ _ rfl rfl 38 _ (ao V7 _) E rfl e9 ?_;generalize (V7.alloc (.cells #[.bool false,C,I 0,C,C,C,C,C,C,I 0] 38)).setRow V7.heap.size #[.bool bb,.slice A8 an.length c8,k0,k1,k2,k3,k4,k5,k6,k7]=V8 at N8 B8 b6 Q b8 R G c0 ⊢;generalize V7.heap.size=P8 at N8 ⊢)
 clear e9 B8;have i7:V8.cell? ⟨P7,0,none⟩=some (.bool bb):=bJ G.out;have i8:V8.cell? ⟨P8,0,none⟩=some (.bool bb):=bJ N8.out;have S:=H (rowP G);have T:=H (rowP N8);have i9:(bb != bb)=false:=bH;have SM:=H (wj RN R Q);go_wp2_with (first|refine fY E 36 _ rfl _ _ rfl _ _ S underlying36 rfl E ?_|refine fY E 36 _ rfl _ _ rfl _ _ T underlying36 rfl E ?_);refine SM.mono ?_;rintro e V9 ⟨rfl,b9⟩;have l:=H (az c0 b9);have g0:=H (R.low b9);have g1:=H (Q.low b9);have g2:=H (b8.low b9);have g3:=H (b6.low b9);have g4:=H (IU b9 G);have g5:=H (IU b9 N8);clear i7 i8 S T i9 SM b9 c0 R Q b8 b6 G N8;go_upto_if 47 with fail
 go_cut [9,47] (λv _ w'=>v=I ((f%(L+1):Nat):Int)/\w'=V9);case first =>
  by_cases hz:0<L
  ·have z1:((L:Int) > 0):=Z;have z2:((L:Int)+1==0)=false:=bG;have z3:IntKind.i64.wrap ((L:Int)+1)=(L:Int)+1:=(by rw [Hh];omega);have z4:Int.tmod (f:Int) ((L:Int)+1)=((f%(L+1):Nat):Int):=(by rw [GH Z];push_cast;rfl);go_wp2;go_meet;case rel=>exact ⟨by first|rfl|simp only [z4],rfl⟩
  obtain rfl:L=0:=Z;go_wp2;go_meet;case rel=>exact ⟨by rw [Gb,Nat.mod_one];rfl,rfl⟩
 case rest =>
  obtain⟨rfl,g6⟩:=hcut;have g7:=g6.symm;clear g6;subst g7;generalize f%(L+1)=n at x a5 d6 ⊢;have et:(ops.take n).length=n:=by rw [Hm,HO.2];omega
  have g9:(o.take n).length=n:=by rw [Hm,O.2];omega
  have c1:=H (show ∀ W,D V9 W->_ from λW (k:D V9 W)=>wB d1 (ops:=ops.take n) (by rw [List.map_take,HO.1];exact a5) (((a8.low (az l k))).take n) dc n1 (TB.below (az q (az l k))) (by have:=HW.out;have:=q.size;have:=l.size;have:=k.size;omega));have c2:=H (show ∀ W,D V9 W->_ from λW (k:D V9 W)=>wG d2 d3 (ops:=o.take n) (by rw [List.map_take,O.1];exact a5) ((B.low (az l k)).take n) p n2);rw [et] at c1;rw [g9] at c2;clear et g9 F CS;have j0:=H (IU l a7);have j1:=H (IU l HY);go_upto_region 12 with fail
  refine Cu V9 X1 c.mi c.fi c.la c.bu c.ky da c.ds.length dc A L n1 n x d9.1 Z d9.2 y d4 j0 (λW k=>(c1 W k).mono (λe W' h=>by
   obtain⟨A',c',m0,m1,m2,m3,m4,m5,m6,m7,he,i,b,K,_⟩:=h;exact⟨A',c',m0,m1,m2,m3,m4,m5,m6,m7,he,i,b,K⟩)) _ _ (λ_ _ d _ _ h=>by cases d <;> exact h) _ _ _ _ _ _ _ _ _ _ _ _ _ _ _ _ _ _ _ _ _ _ _ _ _ _ _ _ _ _ _ _ _ _ _ _ _ _ _ _ _ _ _ _ _ _ _ _ _ _ _ _ _ _ _ _ _ _ _ _ _ _ _ _ _ _ _ _ _ _ _ _ _ _ _ _ _ _ _ _ _ _ _ _ _ _ _ _ _ _ _ _ _ _ _ _ _ _ _ _ _ _ _ _ _ _ _ _ _ _ _ _ _ _ _ _ _ _ _ _ _ _ _ _ _ _ _ _ _ _ _ _ ?_
  intro c3 c4 c5;intros;rename_i j2 h1;obtain⟨h2,c6,a0⟩:=h1.out;have h3:=H h2;have c9:=H c6;have a1:=H a0;have a2:=H (IU c6 j1);clear h2 c6 a0 h1 c1;go_upto_region 13 with fail
  refine CJ j2 X2 c.mi c.fi c.la c.bu c.ky N c.ds.length p A2 L n2 n x Y.1 Z Y.2 y d4 a2 (λW k=>(c2 W (az c9 k)).mono (λe W' h=>by
   obtain⟨A',c',m0,m1,m2,m3,m4,m5,m6,m7,he,i,b,K,_⟩:=h;exact⟨A',c',m0,m1,m2,m3,m4,m5,m6,m7,he,i,b,K⟩)) _ _ (λ_ _ d _ _ h=>by cases d <;> exact h) _ _ _ _ _ _ _ _ _ _ _ _ _ _ _ _ _ _ _ _ _ _ _ _ _ _ _ _ _ _ _ _ _ _ _ _ _ _ _ _ _ _ _ _ _ _ _ _ _ _ _ _ _ _ _ _ _ _ _ _ _ _ _ _ _ _ _ _ _ _ _ _ _ _ _ _ _ _ _ _ _ _ _ _ _ _ _ _ _ _ _ _ _ _ _ _ _ _ _ _ _ _ _ _ _ _ _ _ _ _ _ _ _ _ _ _ _ _ _ _ _ _ _ _ _ _ _ _ _ _ _ _ ?_
  intro j3 l2 l3;intros;rename_i m h4;obtain⟨h5,V,h6⟩:=h4.out;have j4:=H h5;have a3:=H (IU V h3);have j:=az c9 V;have h7:=H (a1.low V);have j5:=H (g2.low j);have j6:=H (g3.low j);have j7:=H (g0.low j);have j8:=H (g1.low j);have h8:=H (IU j g4);have d0:=H (IU j g5);have M:=H (az q (az l j));clear h5 V h6 h4 c2 h3 c9 a1 a2 j g2 g3 g0 g1 g4 g5;have j9:m.cell? ⟨c3,0,none⟩=some (.bool y):=bJ a3.out;have k8:m.cell? ⟨j3,0,none⟩=some (.bool y):=bJ j4.out;have g8:m.cell? ⟨P8,0,none⟩=some (.bool bb):=bJ d0.out;cases bb with
  | false =>
   cases y <;> (go_wp2;go_ret;exact⟨rfl,M⟩)
  | true =>
   obtain⟨rfl,rfl,r⟩:=d6.out rfl;rw [HL.out] at r;have h9:(an.take n).length=n:=(by rw [Hm,r];omega);have a4:m.cell? ⟨c3,1,none⟩=some (.slice c4 n c5):=(by rw [GT _ _ _ _ _ _ a3.out];show some (Value.slice c4 (an.take n).length c5)=_;rw [h9]);have i0:m.cell? ⟨P7,1,none⟩=some (.slice A7 L c7):=(by rw [GT _ _ _ _ _ _ h8.out];show some (Value.slice A7 an.length c7)=_;rw [r]);have i1:m.cell? ⟨P8,1,none⟩=some (.slice A8 L c8):=(by rw [GT _ _ _ _ _ _ d0.out];show some (Value.slice A8 an.length c8)=_;rw [r]);have k9:=H r;clear r h9;(go_upto_block 0 with fail);refine Di m an n L x k9 Z P7 P8 c3 A7 A8 c4 c7 c8 c5 i0 i1 a4 j5 j6 h7 _ _ (λ_ _ d _ _ h=>by cases d <;> exact h) _ _ _ _ _ _ _ _ _ _ _ _ _ _ _ _ _ _ _ _ _ _ _ _ _ _ _ _ _ _ _ _ _ _ _ _ _ _ _ _ _ _ _ _ _ _ _ _ _ _ _ _ _ _ _ _ _ _ _ _ _ _ _ _ _ _ _ _ _ _ _ _ _ _ _ _ _ _ _ _ _ _ _ _ _ _ _ _ _ _ _ _ _ _ _ _ _ _ _ _ _ _ _ _ _ _ _ _ _ _ _ _ _ _ _ _ _ _ _ _ _ _ _ _ _ _ _ _ _ ?_;intros;rename_i l4 s;have S:=H (rowP (IU s h8));have T:=H (rowP (IU s d0));have SM:=H (wj RN (j7.low s) (j8.low s));have i2:=H (az M s);clear j9 k8 g8 a4 i0 i1 s M;go_wp2_with (first|refine fY E 36 _ rfl _ _ rfl _ _ S underlying36 rfl E ?_|refine fY E 36 _ rfl _ _ rfl _ _ T underlying36 rfl E ?_);refine SM.mono ?_;rintro e l5 ⟨rfl,i3⟩;have i4:=H (az i2 i3);clear i3;go_wp2;go_ret;exact⟨rfl,i4⟩
end
end Go.Proofs.YtdngbppdomoenaaGreatDoor
