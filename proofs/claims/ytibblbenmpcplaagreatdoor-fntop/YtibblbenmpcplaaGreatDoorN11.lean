import Derived.Test.YtibblbenmpcplaaGreatDoorN09
set_option linter.unusedVariables false
set_option linter.unusedSimpArgs false
set_option maxRecDepth 20000
set_option maxHeartbeats 8000000
namespace Go.Proofs.YtibblbenmpcplaaGreatDoor
open Go.Proofs.Tryz
variable {b c n:Nat} {W W' w:World} {Q:Exit->Act->World->Prop} {e:TypeId} {v v2:Value} {xs:List Value} {a:Act}
section
open Go.RowKit
theorem Cn {s j:Nat} (a:c<12):(rs (c:Int)+(s:Int)*(pg (c:Int)+1))*1024+(j:Int)*sz (c:Int)=((bh c s j:Nat):Int):=by
 rw [v3 a,pU a,uT a];unfold bh aD;simp
theorem Tb.ofBelow (h:Tb W) (a:D W W'):Tb W':=by
 obtain⟨t,b,h⟩:=h.row;exact⟨t,b,by rw [a.block 0 (ag h)];exact h⟩
theorem fx (a:Addr) (W:World):Calls prog 259 #[.pointer (some a)] W λe W'=>e=.returned (.pointer (some a))/\W'=W:=by
 go_enter func259,ntmps259;go_wp2;go_ret;exact⟨rfl,rfl⟩
structure Sc (g b c s j:Nat) (W:World):Prop where
 c2:W.cell? ⟨g,2,none⟩=some (J b 0)
 c3:W.cell? ⟨g,3,none⟩=some (I j)
 d0:W.cell? ⟨b,0,none⟩=some (I c)
 d1:W.cell? ⟨b,1,none⟩=some (I s)
 tb:Tb W
 hc:c<12
 hs:s<6
 hj:j<aM c
theorem Sc.below {g s j} (h:Sc g b c s j W) (k:D W W'):Sc g b c s j W':=⟨ad k h.c2,ad k h.c3,ad k h.d0,ad k h.d1,h.tb.ofBelow k,h.hc,h.hs,h.hj⟩
theorem eI (g b c s j W) (h:Sc g b c s j W) :
  Calls prog 81 #[J g 0] W λe W'=>e=.returned (U (bh c s j:Nat))/\D W W':=by
 obtain⟨i,m,n,o,p,f,q,r⟩:=h;have a:=H (kG (c:Nat) (s:Nat) (j:Nat) ⟨Z,Z,Z,Z,Z,by rw [vA f];omega⟩ W.drew ⟨p.row⟩);rw [Cn f] at a;have l:=H (show ∀ d,D W d->d.cell? ⟨g,2,none⟩=some (J b 0)/\d.cell? ⟨g,3,none⟩=some (I j)/\d.cell? ⟨b,0,none⟩=some (I c)/\d.cell? ⟨b,1,none⟩=some (I s) from λd k=>⟨ad k i,ad k m,ad k n,ad k o⟩);clear p f q r i m n o;go_enter func81,ntmps81;go_upto_region 1 with fail
 refine rh (S:=λd=>d.cell? ⟨g,2,none⟩=some (J b 0)/\d.cell? ⟨g,3,none⟩=some (I j)/\d.cell? ⟨b,0,none⟩=some (I c)/\d.cell? ⟨b,1,none⟩=some (I s)) ?_;have i:=l.out _ (Fu _ _).drew;iterate 18 (refine py i ?_;simp only [f0,f1,Nat.reduceAdd,lz,l0,ls])
 refine po 18 λK' n=>?_;go_simp;refine (a).mono ?_;rintro e o ⟨rfl,f⟩;have k:D W o:=⟨f.os,f.tape,f.output,f.size,f.block⟩;have m:=l.out _ k;refine n _ _ ⟨m,?_⟩;clear i;have i:=m;clear n K'
 iterate 5 (refine py i ?_;simp only [f0,f1,Nat.reduceAdd,lz,l0,ls])
 refine bY ?_;have n:=H k;clear k f i m a l;go_wp2;go_ret;exact⟨rfl,n⟩
theorem mh (g b c s j W) (h:Sc g b c s j W) :
  Calls prog 128 #[J g 0] W λe W'=>e=.returned (I (eV c:Nat))/\W'=W:=by
 obtain⟨n,i,o,k,d,f,l,m⟩:=h;have a:=H (vG (c:Nat) W d);rw [D3 f] at a;clear d f i k l m;go_enter func128,ntmps128;go_wp2_with fail;refine (a).mono ?_;rintro e d ⟨rfl,rfl⟩;go_wp2;go_ret;exact⟨rfl,rfl⟩
theorem kC (g b c s j W) (h:Sc g b c s j W) :
  Calls prog 78 #[J g 0] W λe W'=>e=.returned (U (bh c s j+eV c:Nat))/\D W W':=by
 have a:=H (eI g b c s j W h);have d:=H (λW' (f:D W W')=>mh g b c s j W' (h.below f));have ha:=ca h.hc h.hs h.hj;have f:=aX h.hc;have k:eV c<=1016:=Z;have l:=H (show ((bh c s j+eV c:Nat):Int)=(bh c s j:Int)+(eV c:Int) by omega);have m:bh c s j<=200000:=Z;generalize bh c s j=A at *;generalize eV c=u at *;clear h ha f;go_enter func78,ntmps78;go_wp2_with fail;refine (a).mono ?_;rintro e n ⟨rfl,f⟩;have i:=H f;clear f a;go_wp2_with fail;refine (d _ i).mono ?_;rintro e a ⟨rfl,rfl⟩;clear d;go_wp2;go_ret;refine⟨?_,i⟩;rw [l.out];rfl
theorem km (a:Nat) (W:World) (ha:a<18446744073709551616) :
  Calls prog 118 #[U a] W λe W'=>e=.returned (I (aR a:Nat))/\W'=W:=by
 unfold aR;by_cases c:a%1024 > 0;·rw [GP c];have b:=H (show (((a/1024+1:Nat):Nat):Int)=(a:Int)/1024+1 by omega);go_enter func118,ntmps118;go_wp2;go_ret;rw [b.out];exact⟨rfl,rfl⟩
 rw [GO c];have b:=H (show (((a/1024+0:Nat):Nat):Int)=(a:Int)/1024 by omega);go_enter func118,ntmps118;go_wp2;go_ret;rw [b.out];exact⟨rfl,rfl⟩
structure Lc (g:Nat) (r:Rg9) (W:World):Prop where
 c0:W.cell? ⟨g,0,none⟩=some (I r.st)
 c1:W.cell? ⟨g,1,none⟩=some (I r.rq)
 c2:W.cell? ⟨g,2,none⟩=some (I r.first)
 c3:W.cell? ⟨g,3,none⟩=some (I r.guards)
 c4:W.cell? ⟨g,4,none⟩=some (I r.pages)
 hf:r.first<=300
 hu:r.guards<=3
 hp:r.pages<=18014398509481984
theorem Lc.below {g r} (h:Lc g r W) (k:D W W'):Lc g r W':=⟨ad k h.c0,ad k h.c1,ad k h.c2,ad k h.c3,ad k h.c4,h.hf,h.hu,h.hp⟩
theorem ie (g r W) (h:Lc g r W) :
  Calls prog 120 #[J g 0] W λe W'=>e=.returned (U r.base)/\W'=W.drew:=by
 obtain⟨_,_,b,c,_,d,i,_⟩:=h;have a:=H (show ((r.base:Nat):Int)=((r.first:Int)+(r.guards:Int))*1024 by unfold Rg9.base;omega);generalize r.first=f at *
 generalize r.guards=u at *;go_enter func120,ntmps120;go_wp2;go_region;go_wp2;go_ret;rw [a.out];exact⟨rfl,rfl⟩
theorem sY (g r W) (h:Lc g r W) (a:r.pages<=300) :
  Calls prog 260 #[J g 0] W λe W'=>e=.returned (I (r.pages*1024:Nat))/\W'=W:=by
 obtain⟨_,_,_,_,c,_,_,_⟩:=h;have b:=H (show ((r.pages*1024:Nat):Int)=(r.pages:Int)*1024 by omega);generalize r.pages=p at *;go_enter func260,ntmps260;go_wp2;go_ret;rw [b.out];exact⟨rfl,rfl⟩
theorem iE (g r W) (h:Lc g r W) :
  Calls prog 88 #[J g 0] W λe W'=>e=.returned (I r.ext)/\W'=W.drew:=by
 obtain⟨_,_,_,b,c,_,d,f⟩:=h;have a:=H (show ((r.ext:Nat):Int)=(r.guards:Int)+(r.pages:Int)+1 by unfold Rg9.ext;omega);generalize r.guards=u at *;generalize r.pages=p at *;go_enter func88,ntmps88;go_wp2;go_region;go_wp2;go_ret;rw [a.out];exact⟨rfl,rfl⟩
theorem Sh.usedP {B x cf h} (a:Sh B x cf h W):Sh B x cf { h with used:=h.used+1 } (W.setCell ⟨x.P,12,none⟩ (I (h.used+1:Nat))):=by
 refine a.boxed (Ky.grown a.box rfl (au (al W x.P) 12 _)) (h.used+1) ?_;simp [World.setCell,FD,a.box,fN]
theorem oQ (B x cf h) (n:Nat) (W) (b:Sh B x cf h W) (p:1<=n) (s:n<=1000000) (l:h.used<=1000000) (v:cf.ds.length<=20000) (q:∀ d∈cf.ds,(Lit.int .i64 d).wf=true) :
  Calls prog 145 #[J x.P 0,I n] W λe W'=>e=.returned (I (dr cf h n:Nat))/\Sh B x cf { h with used:=h.used+1 } W'/\W.grownBy W' (some x.P):=by
 have f:W.cell? ⟨x.P,12,none⟩=some (I h.used):=b.cell 12 _ rfl;have t:W.cell? ⟨x.P,5,none⟩=some (.slice x.da cf.ds.length x.dc):=b.cell 5 _ rfl;have f12:W.frozen? ⟨x.P,12,none⟩=false:=by simp [World.frozen?,b.box]
 have c:((h.used+1:Nat):Int)=(h.used:Int)+1:=Z;have i:=H b.usedP;have a:=H (au (al W x.P) 12 (I (h.used+1:Nat)));rw [c] at i a;clear c;by_cases c:h.used<cf.ds.length
 ·obtain⟨g,j,r⟩:=b.ds.cells h.used c;rw [j] at t;have k:=H (show dr cf h n=md (cf.ds[h.used]?.getD 0) n from rfl);generalize cf.ds[h.used]?.getD 0=d at k r;have M:=H (λW'=>lU d n W' p Z);have w:=H l;generalize cf.ds.length=m at *;generalize o:h.used=us at f r c i a l;clear b q j;have j:(us:Int)<(m:Int):=Z;go_enter func145,ntmps145;go_wp2;go_region;go_wp2;go_region;go_wp2_with fail;refine (M _).mono ?_;rintro e u ⟨rfl,rfl⟩;go_wp2;go_ret;refine⟨?_,i.below (Fu _ _).drew.drew,⟨a.os,a.tape,a.output,a.size,a.block⟩⟩;rw [k.out];rfl
 have k:=H (show dr cf h n=md 0 n by unfold dr md;rw [FJ Z];rfl);have M:=H (λW'=>lU 0 n W' p Z);generalize cf.ds.length=m at *;generalize o:h.used=us at f c i a l;clear b q;have j:¬((us:Int)<(m:Int)):=Z;go_enter func145,ntmps145;go_wp2;go_region;go_wp2_with fail;refine (M _).mono ?_;rintro e u ⟨rfl,rfl⟩;go_wp2;go_ret;refine⟨?_,i.below (Fu _ _).drew,⟨a.os,a.tape,a.output,a.size,a.block⟩⟩;rw [k.out];rfl
structure df where
 o:fL
 d:Option Addr
 dc:Nat
def fH (q:df):List Value:=[I q.o.kd,I q.o.ref,U q.o.p,U q.o.a,U q.o.b,.slice q.d q.o.ys.length q.dc]
structure Ois (w:World) (A:Option Addr) (ops:List df):Prop where
 at_:∀ k q,ops[k]?=some q->∃ G,A=some ⟨G,0,none⟩/\G<w.heap.size/\∀ j u,(fH q)[j]?=some u->w.cell? ⟨G,k*6+j,none⟩=some u
 wf:∀ q∈ops,q.o.p<18446744073709551616/\q.o.a<18446744073709551616/\q.o.b<18446744073709551616
 dat:∀ q∈ops,∀ i,i<q.o.ys.length->∃ x,q.d=some x/\w.cell? (x.add i)=some (.int .u8 (q.o.ys[i]?.getD 0))/\(x.add i).block<w.heap.size
theorem cR (b:D w W) {x:Addr} {u:Value} (h:w.cell? x=some u):W.cell? x=some u:=ad b h
theorem Ois.dt {A ops} (h:Ois w A ops) {Q:Nat} (b:D w W) (k:w.heap.size<=Q) (a:∀ g,e_ Q W g->w.heap.size<=g) {q:df} (c:q∈ops):Dt Q W q.d q.o.ys.length q.o.ys:=by
 refine⟨rfl,λi d=>?_⟩;obtain⟨x,f,g,j⟩:=h.dat q c i d;exact⟨x,f,cR b g,FG j b.size,Z,λe=>by have:=a _ e;omega⟩
end
section
open Go.ChangeShapes Go.WideShapes Go.ChangeAt Go.RowKit Go.Shelf Go.Maps
theorem Cs (c:Int) (j:Nat) (a:0<=c) (b:c<=18446744073709551615):0<=c/2 ^ j/\c/2 ^ j<=18446744073709551615 :=
 ⟨Int.ediv_nonneg a (Int.pow_nonneg Z),Int.le_trans (Int.ediv_le_self _ a) b⟩
theorem u64_in (z:Int):0<=IntKind.u64.wrap z/\IntKind.u64.wrap z<=18446744073709551615:=by rw [IntKind.wrap_u64];omega
end
section
open Go.RowKit Go.Shelf Go.Maps
structure Od6 (B : Nat) (q : df) (W : World) : Prop where
  p : q.o.p<18446744073709551616
  a : q.o.a<18446744073709551616
  b : q.o.b<18446744073709551616
  d : W.ownsRow B 5 1 (.slice q.d q.o.ys.length q.dc) q.o.ys.length (Ns .u8 q.o.ys)
  r : -9223372036854775808<=q.o.ref
  y : ∀ y ∈ q.o.ys, 0<=y/\y<=255
theorem eD {t:TypeId} {sz:Nat} (h:W.ownsRow b e sz v n xs) {X:Nat} {j:Array Value} {f:Nat×Nat} (k:W.heap[X]?=some (.cells j t f)) (c:e≠t):v.ownBlock≠some X:=λa=>by
 rcases h.2 with ⟨d,_⟩|⟨g,l,m,d,o,i,_⟩
 ·rw [d] at a;cases a
 ·rw [d] at a
  have:g=X:=by simpa [Value.ownBlock] using a
  subst this
  rw [k] at i
  simp at i
  exact c i.2.1.symm
theorem Od6.kept {B q W} {W':World} (h:Od6 B q W) {r:Nat} (g:W.grownBy W' (some r)) (a:(Value.slice q.d q.o.ys.length q.dc).ownBlock≠some r):Od6 B q W':=⟨h.p,h.a,h.b,h.d.kept g (.inr a),h.r,h.y⟩
def iN (n : Nat) : Code->Option Code
 | .block k c => if k=n then some (.block k c) else iN n c
 | .seq a b => match iN n a with
  | some c => some c
  | none => iN n b
 | .scope c => iN n c
 | .loop c => iN n c
 | .cond _ a b => match iN n a with
  | some c => some c
  | none => iN n b
 | _ => none
theorem ik {sz:Nat} {d:Option Addr} {l:Nat} (h:W.ownsRow b e sz (.slice d l c) n xs):l=n:=by
 rcases h.2 with ⟨a,k⟩|⟨g,f,i,j,_⟩;·simp at a;omega
 ·simp at j;omega
theorem gz {f:Nat} {sz:Nat} (i:f<=b) (h:W.ownsRow b e sz v n xs):W.ownsRow f e sz v n xs:=by
 refine⟨h.1,?_⟩;rcases h.2 with a|⟨g,c,d,j,a,k⟩;·exact .inl a
 ·exact .inr ⟨g,c,d,j,Fx i a,k⟩
structure Cd where
  mi : Int
  fi : Int
  la : Int
  bu : Int
  ky : Int
  ds : List Int
  da : Option Addr
  dc : Nat
def pQ (c : Cd) : List Value := [.int .i64 c.mi, .int .i64 c.fi, .int .i64 c.la, .int .i64 c.bu, .int .u64 c.ky, .slice c.da c.ds.length c.dc]
structure Ok4 (B : Nat) (c : Cd) (W : World) : Prop where
  k0 : 0<=c.ky
  k1 : c.ky<=18446744073709551615
  dw : ∀ x ∈ c.ds, -40<=x/\x<=215
  d : W.ownsRow B 3 1 (.slice c.da c.ds.length c.dc) c.ds.length (Ns .i64 c.ds)
theorem Ok4.kept {B c W} {W':World} (h:Ok4 B c W) {r:Nat} (g:W.grownBy W' (some r)) (a:(Value.slice c.da c.ds.length c.dc).ownBlock≠some r):Ok4 B c W':=⟨h.k0,h.k1,h.dw,h.d.kept g (.inr a)⟩
theorem t9 (x:Int) (a : -9223372036854775808<=x) (b:x<=9223372036854775807):IntKind.i64.wrap x=x:=by
 show (if (true&&decide ((9223372036854775808:Int)<=x%18446744073709551616))=true then x%18446744073709551616-18446744073709551616 else x%18446744073709551616)=x;by_cases h:(9223372036854775808:Int)<=x%18446744073709551616;·rw [GP (by simp [h])];omega
 ·rw [GO (by simp [h])];omega
theorem kO {P:Program} {b:Array Oper} {c:Nat} (d:P.follows .mixedOrders=true)
  (h:wpAny P .any b Q b.size (Array.replicate b.size false) a w.drew):(Code.region c b true).wp P Q a w:=wp_region_any d h
theorem Cj:(prog.info? 3).map (λi=>(i.zero,i.size,i.bytes))=some (some (.int .i64 0),1,8):=E
theorem mK (t:TypeId) {o:Oper} {K:Act->World->Prop} (s x:Operand) {c:Value} (b:o.op=.call { callee:=.builtin .append,args:=#[s,x],argTypes:=#[t,t] }) (d:o.type=t) (e:a.eval s=v) (f:a.eval x=v2)
  (g:(Builtin.append_ #[t,t] t #[v,v2]).run prog W=.ok c W') (i:K (a.put o.dst c) W'):Oper.wp prog o a W K Q:=by
 unfold Oper.wp;simp [execOp,b,d,resolve,invoke,builtin,e,f,g,Result.andThen];exact i
theorem xh {sz:Nat} {d:Option Addr} {l:Nat} (h:W.ownsRow b e sz (.slice d l c) n xs):l=n:=by
 rcases h.2 with ⟨a,k⟩|⟨g,f,i,j,_⟩;·simp at a;omega
 ·simp at j;omega
def iT (e : List df) : List Value := e.flatMap fH
theorem t8 {k l:Nat} {d j:TypeId} {m n:Nat} {b:Value} {o p:Nat} {q r:List Value} (s:W.ownsRow k d m b o q) (t:W.ownsRow l j n v2 p r) (f:d≠j):b.ownBlock=none\/b.ownBlock≠v2.ownBlock:=by
 by_cases e:b.ownBlock=none;·exact .inl e
 ·refine .inr λu=>?_;obtain⟨g,a⟩:=Option.ne_none_iff_exists'.1 e
  obtain⟨c,v⟩:∃ c,W.heap[g]?=some (.cells c d):=by
   rcases s.2 with ⟨i,_⟩|⟨w,x,y,i,_,z,_⟩;·rw [i] at a;cases a
   ·rw [i] at a;have:w=g:=by simpa [Value.ownBlock] using a
    subst this;exact⟨_,z⟩
  exact eD t v (Iq f) (u.symm.trans a)
theorem yK:(prog.info? 42).map (λi=>(i.zero,i.size,i.bytes))=some (some (.agg #[.int .i64 0,.int .i64 0,.int .u64 0,.int .u64 0,.int .u64 0,.slice none 0 0]),6,64):=E
theorem ga (t:TypeId) {c:Array Oper} {b:List Oper} {o:Oper} (d:o.guard=none) (s x:Operand)
  (g:o.op=.call { callee:=.builtin .append,args:=#[s,x],argTypes:=#[t,t] }) (i:o.type=t) {e:Value} {f:World} (j:a.eval s=v) (k:a.eval x=v2)
  (l:(Builtin.append_ #[t,t] t #[v,v2]).run prog w=.ok e f) (h:wpList prog c Q b (a.put o.dst e) f):wpList prog c Q (o::b) a w:=by
 refine IA d λK m=>?_;unfold Oper.wp
 simp [execOp,g,i,resolve,invoke,builtin,j,k,l,Result.andThen];exact m _ _ h
theorem results_cell_tmp {c:Func} {p q:Tmp} {d:TypeId} (h:c.results=#[.cell p d,.tmp q]) (a:Array Value) (w:World) (g:Nat) (e:Array Value)
  (f:a.getD p undef=.pointer (some ⟨g,0,none⟩)) (i:(loadVar d ⟨g,0,none⟩).run prog w=.ok (.agg e) w) :
  (results c a).run prog w=.ok (.tuple #[.agg e,a.getD q undef]) w:=by
 have b:a[p]?.getD undef=.pointer (some ⟨g,0,none⟩):=by simpa using f
 simp [results,h,b,asAddr,i,Result.andThen]
theorem qT (a:List df) (q:df):iT (a++[q])=iT a++fH q:=by simp [iT]
theorem vZ (W:World) (xs:List Value) (t:TypeId):∀ j u,xs[j]?=some u->(W.alloc (.cells xs.toArray t)).cell? ((⟨W.heap.size,0,none⟩:Addr).add j)=some u:=by
 intro j u h;have a:(⟨W.heap.size,0,none⟩:Addr).add j=⟨W.heap.size,j,none⟩:=by unfold Addr.add;split <;> simp_all
 rw [a,GT _ _ j _ _ _ (ao W (.cells xs.toArray t)),<-h];simp
end
end Go.Proofs.YtibblbenmpcplaaGreatDoor
