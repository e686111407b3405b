import Derived.Test.YtibblbenmpcplaaGreatDoorZ01
import Derived.Test.YtibblbenmpcplaaGreatDoorN41
set_option linter.unusedVariables false
set_option linter.unusedSimpArgs false
set_option maxRecDepth 20000
set_option maxHeartbeats 8000000
namespace Go.Proofs.YtibblbenmpcplaaGreatDoor
open Go.Proofs.Tryz
variable {W W' Y a w:World} {zs:List Int} {B F c' cap gb gk i j n p:Nat} {o:fL} {A:Option Addr} {an:List An4} {c:Cd} {f g:Nat->Value} {cf:Cf} {h:Hs}
section
open Go.RowKit Go.Shelf Go.Maps
def Rd1 (k:IntKind) (w:World) (u:Value) (zs:List Int):Prop:=∃ a c,u=.slice a zs.length c/\∀ i,i<zs.length->∃ g,a=some ⟨g,0,none⟩/\w.cell? ⟨g,i,none⟩=some (.int k (zs[i]?.getD 0))
theorem Rd1.below {k u} (h:Rd1 k w u zs) (b:D w W):Rd1 k W u zs:=by
 obtain⟨a,c,e,h⟩:=h;exact⟨a,c,e,λi d=>by obtain ⟨g,f,j⟩:=h i d;exact⟨g,f,ad b j⟩⟩
def Re (w:World) (v:Value) (n sz:Nat) (C:Nat->List Value):Prop:=∃ a c,v=.slice a n c/\∀ k,k<n->(C k).length=sz/\∃ g,a=some ⟨g,0,none⟩/\w.rangeAt g (k*sz) (C k)
theorem sO {e sz:Nat} {v:Value} {b:List Value} (h:w.ownsRow B e sz v n b):Re w v n sz (λk=>(b.drop (k*sz)).take sz):=by
 rcases h.2 with ⟨rfl,rfl⟩|⟨g,cap,d,rfl,m,f,o,p,q,i⟩;·exact⟨none,0,rfl,λk c=>Z⟩
 have l:=h.1;refine⟨_,_,rfl,λk c=>⟨?_,g,rfl,λj u a=>?_⟩⟩;·rw [Hm,List.length_drop,l];have:(k+1)*sz<=n*sz:=Gm _ c;rw [Gy] at this;omega
 rw [GT _ _ _ _ _ _ f];rw [Gx] at a;split at a
 ·rw [IR,<-i] at a;rw [Gx] at a;split at a;·simpa using a
  cases a
 cases a
theorem Cp {o:Oper} {a:Act} (b:TypeId) (x:Operand) (d:o.op=.load b x) (g i) (e:a.eval x=J g i) {c:Array Value} (f:(loadVar b ⟨g,i,none⟩).run prog w=.ok (.agg c) w):(execOp a.eval o).run prog w=.ok (.value (.agg c)) w:=by
 unfold execOp;simp only [d,e,Instr.loadAt,Instr.sureAddr,Sem.run_bind,Sem.run_pure,Result.andThen_ok,f]
theorem wX {k} {e:Nat} {u:Value} (h:w.ownsRow B e 1 u n (Ns k zs)):Rd1 k w u zs:=by
 have a:zs.length=n:=by have:=h.1;rw [bv] at this;omega
 rcases h.2 with ⟨rfl,c⟩|⟨g,cap,d,rfl,_⟩;·exact⟨none,0,by rw [a,c],λi b=>Z⟩
 refine⟨some ⟨g,0,none⟩,cap,by rw [a],λi b=>⟨g,rfl,bC h i _ ?_⟩⟩;simp [Ns,b]
theorem nF {α:Type} (f:α->List Value) (sz:Nat) (a:∀ x,(f x).length=sz):∀ (l:List α) (k:Nat) (x:α),l[k]?=some x->((l.flatMap f).drop (k*sz)).take sz=f x
 | [],k,x,h=>by simp at h
 | y::r,0,x,h=>by
  simp at h
  subst h
  rw [If,Nat.zero_mul,IE,<-a y,List.take_left]
 | y::r,k+1,x,h=>by
  rw [If,show (k+1)*sz=(f y).length+k*sz by rw [a,Gy];omega,List.drop_append]
  simp only [Nat.add_sub_cancel_left,List.drop_eq_nil_of_le (Nat.le_add_right (f y).length (k*sz)),FV]
  exact nF f sz a r k x (by simpa using h)
def Anw (A:Option Addr) (an:List An4) (W:World):Prop:=∀ j a,an[j]?=some a->∃ G,A=some ⟨G,0,none⟩/\∃ v,W.rangeAt G (j*4) [I a.code,U a.addr,I a.size,v]/\Rd1 .u8 W v a.data
theorem Anw.low (h:Anw A an W) (b:D W W'):Anw A an W':=λj a ha=>by
 obtain⟨G,c,v,d,e⟩:=h j a ha
 exact⟨G,c,v,λt u f=>ad b (d t u f),e.below b⟩
theorem DJ {i:Value} {l:List Aw} (d:W.ownsRow B 44 4 i l.length (fZ l)) (k:l.map (·.1)=an) (f:∀ z∈l,W.ownsRow B 5 1 z.2 z.1.data.length (Ns .u8 z.1.data)) :
  ∃ A c,i=.slice A an.length c/\Anw A an W:=by
 have e:l.length=an.length:=by rw [<-k,Gz]
 obtain⟨A,c,m,r⟩:=sO d;refine⟨A,c,by rw [m,e],λj a ha=>?_⟩;rw [<-k,Gv] at ha;cases b:l[j]? with
 | none=>rw [b] at ha;cases ha
 | some y =>
  rw [b] at ha;simp at ha;subst ha;have n:=(Fz.1 b).1;obtain⟨_,G,o,g⟩:=r j n;have p:=nF aC 4 (λ_=>rfl) l j y b;have q:(List.take 4 (List.drop (j*4) (fZ l)))=_:=p;dsimp only at g;rw [q] at g;exact⟨G,o,y.2,g,wX (f y (FM b))⟩
structure Dr9 (c:Cd) (da:Option Addr) (A:Option Addr) (ops:List df) (W:World):Prop where
 sl:Sl W da c.ds
 dbq9:∀ a,da=some a->a.block<W.heap.size
 oi:Ois W A ops
 ob:∀ q∈ops,q.o.ys.length<=q.dc /\ -9223372036854775808<=q.o.ref/\∀ y∈q.o.ys,0<=y/\y<=255
theorem Dr9.low {c da A ops W W'} (h:Dr9 c da A ops W) (b:D W W'):Dr9 c da A ops W':=⟨h.sl.below b,λa ha=>FG (h.dbq9 a ha) b.size,h.oi.low b,h.ob⟩
theorem zl {d:Option Addr} {g:Nat} {a:List df} (e:Ok4 B { c with da:=d,dc:=g } W) (b:W.ownsRow B 42 6 (.slice A a.length n) a.length (iT a)) (f:∀ q∈a,Od6 B q W):Dr9 c d A a W :=
 ⟨e.sl.1,e.sl.2,(yZ b f).1,(yZ b f).2⟩
def ED (c:Cd) (os:List fL) (e:Bool) (cf:Cf) (h:Hs) (an:List An4):Prop :=
 (e=true/\os.length<=300/\(∀ da dc,Value.agg (pQ { c with da:=da,dc:=dc }).toArray=gZ cf da dc)/\mE cf/\1<=cf.large/\cf.ds=c.ds/\bd cf os (aP cf) []=(h,an))\/(e=false/\¬(jg c.mi c.fi c.la c.bu c.ds.length/\os.length<=300)/\an=[])
theorem vv (W):Anw none [] W:=λj a ha=>by simp at ha
theorem yq {e:TypeId} {sz:Nat} {l m:Nat} {d:List Value} (h:W.ownsRow B e sz (.slice A l n) m d):l<=n/\(A=none->n=0):=by
 rcases h.2 with ⟨a,_⟩|⟨g,cap,f,a,_,_,j,_⟩
 ·injection a with b i c;exact⟨Z,λ_=>c⟩
 injection a with b i c;exact⟨Z,λe=>by rw [b] at e;cases e⟩
def de (xs:List Oc):List Value:=xs.flatMap pV
theorem jx (xs):(de xs).length=xs.length*3:=by
 unfold de;induction xs with
 | nil=>rfl
 | cons x r a=>rw [If,FC,a,FN];show 3+_=_;omega
theorem xm (xs):∀ u∈de xs,u.oneCell'=true:=λu a=>by
 unfold de at a
 obtain⟨x,_,a⟩:=List.mem_flatMap.1 a
 simp only [pV,F4,Gp,or_false] at a
 rcases a with rfl|rfl|rfl <;> rfl
theorem zE:(prog.info? 85).map (λi=>(i.zero,i.size,i.bytes))=some (some (.agg #[U 0,C,C]),3,56):=E
structure Qm (B:Nat) (A:Option Addr) (cap:Nat) (xs:List Oc) (W:World):Prop where
 bs:B<=W.heap.size
 row:W.ownsRow B 85 3 (.slice A xs.length cap) xs.length (de xs)
 rbq9:∀ x∈xs,RowV W x.gb 5 (Ns .u8 x.o.bytes)/\B<=x.gb
 rkq9:∀ x∈xs,RowV W x.gk 4 (x.o.known.map Value.bool)/\B<=x.gk
 nb:(xs.map Oc.gb).Nodup
 nkq9:(xs.map Oc.gk).Nodup
theorem Qm.rw {xs} (q:Qm B A cap xs W):RwO W A xs:=λk x b=>by
 obtain⟨a,c,e,h⟩:=sO q.row
 injection e with d j l
 subst d
 obtain⟨_,g,f,r⟩:=h k (Fz.1 b).1
 have i:(List.take 3 (List.drop (k*3) (de xs)))=pV x:=nF pV 3 (λ_=>rfl) xs k x b
 dsimp only at r
 rw [i] at r
 exact⟨g,f,r⟩
theorem Qm.low {xs} (q:Qm B A cap xs W) (b:D W W'):Qm B A cap xs W' :=
 ⟨Fx q.bs b.size,ax q.row b,λx a=>⟨(q.rbq9 x a).1.below b (q.rbq9 x a).1.lt,(q.rbq9 x a).2⟩,λx a=>⟨(q.rkq9 x a).1.below b (q.rkq9 x a).1.lt,(q.rkq9 x a).2⟩,q.nb,q.nkq9⟩
theorem p9 {v:Value} {ys zs:List Oc} (e:W.ownsRow B 85 3 v ys.length (de ys)) {a:Option Addr} {c:Nat} (m:(a=none/\zs=[]/\c=0)\/∃ g d,a=some ⟨g,d,none⟩/\∀ j u,(de zs)[j]?=some u->W.cell? ⟨g,d+j,none⟩=some u) (y:ys.length+zs.length<=100000) (s:B<=W.heap.size) :
  ∃ (f:Option Addr) (c':Nat) (i:World),(Builtin.append_ #[40,40] 40 #[v,.slice a zs.length c]).run prog W=.ok (.slice f (ys.length+zs.length) c') i/\i.ownsRow B 85 3 (.slice f (ys.length+zs.length) c') (ys.length+zs.length) (de (ys++zs))/\W.grownBy i v.ownBlock:=by
 obtain⟨r,k,n,o,p⟩:=G0 zE;have t:de (ys++zs)=de ys++de zs:=by unfold de;rw [Gu]
 have l:∀ {q:Value} {i:World},i.ownsRow B 85 3 q (ys.length+zs.length) (de (ys++zs))->∃ f c',q=.slice f (ys.length+zs.length) c':=λh=>by
  obtain⟨a,b,c,rfl⟩:=fW h;obtain rfl:=ik h;exact⟨a,c,rfl⟩
 rcases m with ⟨rfl,rfl,rfl⟩|⟨g,d,rfl,b⟩
 ·have f2:W.ownsRow B 85 3 v (ys.length+([]:List Oc).length) (de (ys++[])):=by simpa using e
  obtain⟨f,c',rfl⟩:=l f2;exact⟨f,c',W,run_append_owned_none (P:=prog) (w:=W) B 40 40 85 r 3 underlying40 k _ _ _ e,f2,⟨rfl,rfl,rfl,Fv _,λ_ _ _=>rfl⟩⟩
 obtain⟨q,i,f1,f2,f3,_⟩:=run_append_own_at (P:=prog) W B 40 40 85 r _ 3 56 underlying40 k n o p rfl Z v _ _ e ⟨g,d,none⟩ zs.length c (de zs) (jx zs) (λj u e=>by
  have x:(⟨g,d,none⟩:Addr).add j=⟨g,d+j,none⟩:=by cases j <;> simp [Addr.add]
  rw [x];exact b j u e) (xm zs) (by unfold maxLen;omega) Z s
 rw [<-t] at f2;obtain⟨f,c',rfl⟩:=l f2;exact⟨f,c',i,f1,f2,f3⟩
theorem RwO.part {xs} (r:RwO W A xs) (k m:Nat) (p:k+m<=xs.length) (q:0<m):∃ g,A=some ⟨g,0,none⟩/\∀ j u,(de ((xs.drop k).take m))[j]?=some u->W.cell? ⟨g,k*3+j,none⟩=some u:=by
 obtain⟨f,b⟩:∃ x,xs[k]?=some x:=⟨_,Fy Z⟩;obtain⟨g,c,_⟩:=r k f b;refine⟨g,c,λj u d=>?_⟩;have i:=(Fz.1 d).1;rw [jx,Hm,List.length_drop] at i;obtain⟨x,e⟩:∃ x,xs[k+j/3]?=some x:=⟨_,Fy Z⟩;obtain⟨s,a,l⟩:=r _ x e;rw [c] at a;injection a with a;injection a with a;subst a;have n:(List.take 3 (List.drop (j/3*3) (de ((xs.drop k).take m))))=pV x:=nF pV 3 (λ_=>rfl) ((xs.drop k).take m) (j/3) x (by rw [Hf Z,IR];exact e);have o:(pV x)[j%3]?=some u:=by
  rw [<-n,Hf (Nat.mod_lt _ Z),IR,show j/3*3+j%3=j by omega];exact d
 have:=l (j%3) u o;rw [show k*3+j=(k+j/3)*3+j%3 by omega];exact this
theorem qG (W B A cap xs) (m:Qm B A cap xs W) (t:Nat) (ht:t<xs.length) (hl:xs.length<=1000) :
  Calls prog 24 #[.slice A xs.length cap,I t] W λe W'=>∃ (b:Option Addr) (c':Nat),e=.returned (.slice b (xs.length-1) c')/\Qm B b c' (xs.take t++xs.drop (t+1)) W'/\D W W'/\W'.ownsRow W.heap.size 85 3 (.slice b (xs.length-1) c') (xs.length-1) (de (xs.take t++xs.drop (t+1))):=by
 have HM:=H m;obtain⟨n,d⟩:∃ n,xs.length=n:=⟨_,rfl⟩;obtain⟨g,a1,z,T,_,_,a2,a3,_⟩:∃ g b z,(.slice A n cap:Value)=Vl g n b/\B<=g/\W.heap[g]?=some (.cells z 85)/\n<=b/\b<=maxLen/\z.size=b*3/\z.toList.take (n*3)=de xs:=by
  rcases m.row.2 with ⟨b,O⟩|h;·omega
  rw [d] at h;exact h
 injection T with T p e3;subst T e3;rw [d] at ht hl ⊢;have P:=H d;have HR:=H (m.rw);have wt:IntKind.i64.wrap ((t:Int)+1)=(t:Int)+1:=by rw [Hh];omega
 clear m d p;go_enter func24,ntmps24;go_upto_region 1 with fail
 refine rh (S:=λb=>D W b) ?_;have m:=(show D W W.drew from (Fu W.heap.size W).drew);refine pk 0 (Vl g n cap) m ?_
 try simp only [lz,l0,ls]
 refine pk 1 (I t) m ?_
 try simp only [lz,l0,ls]
 refine pf 2 (Vl g t cap) rfl m (λW h=>by go_simp;try (intro Q;omega)) ?_
 try simp only [lz,l0,ls]
 refine pk 4 (Vl g n cap) m ?_
 try simp only [lz,l0,ls]
 refine pk 5 (I t) m ?_
 try simp only [lz,l0,ls]
 refine pz 6 (I ((t:Int)+1)) m ?_
 try simp only [lz,l0,ls]
 obtain⟨v,f⟩:∃ v,v=(if cap=t+1 then 0 else (t+1)*3):=⟨_,rfl⟩;refine pf 7 (.slice (some ⟨g,v,none⟩) (n-(t+1)) (cap-(t+1))) rfl m (λW h=>by
  by_cases e:cap=t+1;·rw [GP e] at f;subst f;go_simp;intro Q;exact absurd (Q Z) Z
  rw [GO e] at f;subst f;go_simp;intro Q;exact absurd (Q Z) Z) ?_
 try simp only [lz,l0,ls]
 generalize d:W.drew=K at m ⊢;have b:({ heap:=W.heap,tape:=W.tape,drawn:=W.drawn+1,os:=W.os,output:=W.output } : World)=K:=d
 try rw [b]
 clear d b;have F:K.ownsRow K.heap.size 85 3 (C) ([]:List Oc).length (de []):=⟨rfl,.inl ⟨rfl,rfl⟩⟩;have V:=HR.low m;have l:(xs.take t).length=t:=by rw [Hm,P.out];omega
 have s:(xs.drop (t+1)).length=n-(t+1):=by rw [List.length_drop,P.out]
 obtain⟨b1,d1,w3,b,i,g1⟩:=p9 F (zs:=xs.take t) (a:=some ⟨g,0,none⟩) (c:=cap) (.inr ⟨g,0,rfl,λj u M=>by
  by_cases e:t=0;·subst e;simp [de] at M
  obtain⟨R,p,O⟩:=V.part 0 t (by rw [P.out];omega) Z;injection p with p;injection p with p;subst p;have:=O j u (by rw [IE];exact M);simpa using this⟩) (by rw [l];simp;omega) (Fv _)
 rw [l] at b i;simp only [F1,Gb,FV] at b i;have L:D K w3:=(Fu _ _).grown g1 (Fv _) (λr X=>by cases X);have w:w3.ownsRow K.heap.size 85 3 (.slice b1 t d1) (xs.take t).length (de (xs.take t)):=by rw [l];exact i
 obtain⟨Y,d2,w5,d,k,R⟩:=p9 w (zs:=xs.drop (t+1)) (a:=some ⟨g,v,none⟩) (c:=cap-(t+1)) (.inr ⟨g,v,rfl,λj u M=>by
  have o:=(Fz.1 M).1;rw [jx,s] at o;obtain⟨R,p,O⟩:=(V.low L).part (t+1) (n-(t+1)) (by rw [P.out];omega) Z;injection p with p;injection p with p;subst p;have:=O j u (by rw [Ge (by rw [s];exact Fv _)];exact M);rw [f,GO Z];exact this⟩) (by rw [l,s];omega) L.size
 rw [l,s] at d k;have b5:D K w5:=L.grown R L.size (λr X=>(aF i X).1);have N:=az m L;have y:=az m b5;have G:t+(n-(t+1))=n-1:=Z;rw [G] at d k;refine po 3 λK' o=>?_;refine aV 40 (.const (C)) (.tmp 7) E E E E b ?_;refine o _ _ ⟨N,?_⟩;clear o K'
 try simp only [lz,l0,ls]
 refine po 8 λK' o=>?_;refine aV 40 (.tmp 8) (.tmp 12) E E E E d ?_;refine o _ _ ⟨y,?_⟩;clear o K'
 try simp only [lz,l0,ls]
 refine pk 9 (.slice Y (n-1) d2) y ?_
 try simp only [lz,l0,ls]
 refine bY ?_;have QM:=H (show Qm B Y d2 (xs.take t++xs.drop (t+1)) w5 from by
  have q:=HM.low y;have o:(xs.take t++xs.drop (t+1)).Sublist xs:=by
   have:=List.Sublist.append (List.Sublist.refl (xs.take t)) (List.drop_sublist_drop_left xs (Nat.le_succ t));rw [List.take_append_drop] at this;exact this
  have a0:(xs.take t++xs.drop (t+1)).length=n-1:=by rw [FC,l,s];exact G
  refine⟨q.bs,?_,λx hx=>q.rbq9 x (o.subset hx),λx hx=>q.rkq9 x (o.subset hx),q.nb.sublist (o.map _),q.nkq9.sublist (o.map _)⟩;rw [a0];exact gz (Fx HM.bs m.size) k)
 have q:=H (gz m.size k);have o:=H y;clear m N y F i w k b d g1 R L b5 V l s;go_wp2;go_ret;exact⟨Y,d2,rfl,QM,o,q⟩
theorem x7 {α:Type} (x z:α) (n:Nat):oC (List.replicate n x) 0 n (λ_=>z)=List.replicate n z:=by
 apply Ho;intro t;rw [r_,List.getElem?_replicate,List.getElem?_replicate];by_cases h:t<n;·rw [GP h,GP h,Hi,GP Z]
 rw [GO h,GO h];rfl
theorem Qm.src {xs} (q:Qm B A cap xs W) (b:D W W'):(A=none/\xs=[]/\cap=0)\/∃ g a,A=some ⟨g,a,none⟩/\∀ j u,(de xs)[j]?=some u->W'.cell? ⟨g,a+j,none⟩=some u:=by
 rcases q.row.2 with ⟨d,i⟩|⟨g,o,k,d,_⟩
 ·injection d with c l e;exact .inl ⟨c,List.length_eq_zero_iff.1 i,e⟩
 injection d with c l e;refine .inr ⟨g,0,c,λj u f=>?_⟩;have m:=(Fz.1 f).1;rw [jx] at m;obtain⟨p,a,n⟩:=(q.rw.low b).part 0 xs.length Z Z;rw [c] at a;injection a with a;injection a with a;subst a;have:=n j u (by rw [IE,Ge (Fv _)];exact f);simpa using this
theorem Qm.more {xs} (q:Qm B A cap xs W) (b:D W W') {x:Oc} (g:RowV W' x.gb 5 (Ns .u8 x.o.bytes)) (i:RowV W' x.gk 4 (x.o.known.map Value.bool)) (nb:W.heap.size<=x.gb) (c:W.heap.size<=x.gk) {l:Option Addr} (j:W'.ownsRow W.heap.size 85 3 (.slice l (xs.length+1) c') (xs.length+1) (de (xs++[x]))):Qm B l c' (xs++[x]) W':=by
 have k:=q.low b;have d:∀ (f:Oc->Nat),(∀ y∈xs,f y<W.heap.size)->W.heap.size<=f x->(xs.map f).Nodup->((xs++[x]).map f).Nodup:=λf m p n=>by
  rw [Hr];refine qI n λo=>?_;obtain⟨y,a,e⟩:=FQ.1 o;have:=m y a;omega
 refine⟨k.bs,?_,λy a=>?_,λy a=>?_,d Oc.gb (λy a=>(q.rbq9 y a).1.lt) nb q.nb,d Oc.gk (λy a=>(q.rkq9 y a).1.lt) c q.nkq9⟩;·rw [FC];exact gz q.bs j
 ·rcases F8.1 a with a|a;·exact k.rbq9 y a
  obtain rfl:=List.mem_singleton.1 a;exact⟨g,Fx q.bs nb⟩
 rcases F8.1 a with a|a;·exact k.rkq9 y a
 obtain rfl:=List.mem_singleton.1 a;exact⟨i,Fx q.bs c⟩
theorem C6 (W B A cap xs) (q:Qm B A cap xs W) (b n:Nat) (hn:n<=1000000) (z:Bool) (hl:xs.length<=1000) :
  Calls prog 22 #[.slice A xs.length cap,U b,I n,.bool z] W λe W'=>∃ (d:Option Addr) (c' gb gk:Nat),e=.returned (.slice d (xs.length+1) c')/\Qm B d c' (xs++[⟨⟨b,List.replicate n 0,List.replicate n z⟩,gb,gk⟩]) W'/\D W W':=by
 obtain⟨m,d⟩:∃ m,xs.length=m:=⟨_,rfl⟩;have a0:=H q;have HM:=H d;rw [d] at hl ⊢;clear q d;have d:=run_make_row' (P:=prog) 22 5 (.int .u8 0) 1 underlying22 uY rfl .i64 .i64 n Z Z;have f:=run_make_row' (P:=prog) 83 4 (.bool false) 1 underlying83 wT rfl .i64 .i64 n Z Z;go_enter func22,ntmps22;go_upto_region 1 with fail
 go_cut [9,11,12,13,14,15,16] (λp _ _ _ _ _ _ k=>∃ gb gk F,p=J F 0/\Hid (E4 W b n gb gk F k));case first =>
  go_region
  all_goals
   go_wp2
   go_meet
   case rel=>exact ⟨_,_,_,rfl,H (by obtain ⟨k,q,s,R⟩:=D1 _ _ _ _ _ _ _ _ rfl;exact⟨k,nr (by first|exact q|exact s|exact R),nr (by first|exact q|exact s|exact R),by first|exact q|exact s|exact R,Z,Z,Z⟩)⟩
 clear f d;obtain⟨gb,gk,F,rfl,L⟩:=hcut;have z2:wc.cell? ⟨F,2,none⟩=some (Vl gk n n):=bJ L.bx;go_wp2_with fail;go_loopw [20] (λi wr=>∃ k:Nat,k<=n/\i=I k/\Hid (D W wr)/\Hid (RowV wr gb 5 (List.replicate n (.int .u8 0)))/\Hid (RowV wr gk 4 (oC (List.replicate n (.bool false)) 0 k (λ_=>.bool z)))/\Hid (wr.heap[F]?=some (.cells #[U b,Vl gb n n,Vl gk n n] 85))) (λi _=>n-(intOf i).toNat);case atStart=>exact ⟨0,FH _,rfl,H L.bel,H L.rbq9,H (by rw [jA];exact L.rkq9),H L.bx⟩
 case round =>
  obtain⟨k,o,rfl,MB,RB,M,BX⟩:=hrel;clear z2;by_cases a1:k<n
  ·have z2:wr.cell? ⟨F,2,none⟩=some (Vl gk n n):=bJ BX.out;obtain⟨x,y,G⟩:=M.at9 (i:=k) (by rw [d_,Gc];exact a1);have r:=H (show RowV (wr.setCell ⟨gk,k,none⟩ (.bool z)) gk 4 (oC (List.replicate n (.bool false)) 0 (k+1) (λ_=>.bool z)) from by
    have:=M.set k (by rw [d_,Gc];exact a1) (.bool z);have e:=mX (List.replicate n (Value.bool false)) 0 k (λ_=>.bool z);rw [Gb] at e;rw [e] at this;exact this)
   have t:=H (MB.setCell (p:=⟨gk,k,none⟩) L.nkq9 (.bool z));have f:=H (RB.other (p:=⟨gk,k,none⟩) (λe=>by obtain ⟨c,l,_⟩:=RB.out;obtain ⟨w,d,_⟩:=M.out;have T:gb=gk:=e;rw [T,d] at l;cases l) (.bool z));have l:=H (show (wr.setCell ⟨gk,k,none⟩ (.bool z)).heap[F]?=some (.cells #[U b,Vl gb n n,Vl gk n n] 85) from by
    rw [GQ _ _ _ _ (λe=>by obtain ⟨w,d,_⟩:=M.out;have T:F=gk:=e;rw [<-T,BX.out] at d;cases d)];exact BX)
   clear MB RB M BX;go_wp2;go_roundw;(case rel=>exact ⟨k+1,Z,aY,t,f,r,l⟩);case measure=>simp [intOf];omega
  obtain rfl:n=k:=Z;rw [x7] at M;have NB:=H (IT L.nb L.nkq9);clear o L;have q:∀ V,D wr V->∃ t w x,(Builtin.append_ #[40,40] 40 #[C,.slice A m cap]).run prog V=.ok (.slice t m w) x/\D V x/\x.ownsRow V.heap.size 85 3 (.slice t xs.length w) xs.length (de xs):=λV hV=>by
   obtain⟨t,w,x,q,s,R⟩:=p9 (W:=V) (B:=V.heap.size) (v:=C) (ys:=[]) (zs:=xs) (a:=A) (c:=cap) ⟨rfl,.inl ⟨rfl,rfl⟩⟩ (a0.src (az MB hV)) (by rw [HM.out];simp;omega) (Fv _);rw [F1,Gb,FV] at s;rw [F1,Gb,HM.out] at q;exact⟨t,w,x,q,(Fu _ _).grown R (Fv _) (λr hr=>by cases hr),s⟩
  have s:∀ (V:World) (d:Nat) (t:Option Addr) (w g:Nat),wr.heap.size<=d->d<=V.heap.size->D wr V->V.ownsRow d 85 3 (.slice t xs.length w) xs.length (de xs)->V.heap[g]?=some (.cells #[U b,Vl gb n n,Vl gk n n] 85)->∃ G K N,(Builtin.append_ #[40,40] 40 #[.slice t m w,Vl g 1 1]).run prog V=.ok (.slice G (m+1) K) N/\Hid (Qm B G K (xs++[⟨⟨b,List.replicate n 0,List.replicate n z⟩,gb,gk⟩]) N/\D W N/\D wr N):=λV d t w g O hV Q ho hg=>by
   obtain⟨G,K,N,q,s,R⟩:=p9 ho (zs:=[⟨⟨b,List.replicate n 0,List.replicate n z⟩,gb,gk⟩]) (a:=some ⟨g,0,none⟩) (c:=1) (.inr ⟨_,0,rfl,λj u d=>by rw [Gb,GT _ _ _ _ _ _ hg];rw [<-d];simp [de,pV]⟩) (by rw [HM.out];simp;omega) hV;rw [HM.out] at q;have f:=Q.grown R Q.size (λr hr=>Fx O (aF ho hr).1);have l:=az MB f;exact⟨G,K,N,q,H ⟨a0.more l (by dsimp only;unfold Ns;rw [List.map_replicate];exact RB.below f RB.lt) (by dsimp only;rw [List.map_replicate];exact M.below f M.lt) NB.1 NB.2 (gz (Fx MB.size O) s),l,f⟩⟩
  have f:∀ V:World,D V (V.alloc (.cells #[U b,Vl gb n n,Vl gk n n] 85)):=λV=>(Fu _ _).alloc (Fv _) _
  go_wp2_with fail;refine rh (S:=λd=>D wr d) ?_;have y:=(show D wr wr.drew from (Fu wr.heap.size wr).drew);refine pk 0 (.slice A m cap) y ?_
  try simp only [lz,l0,ls]
  refine pf 2 (.agg #[U b,Vl gb n n,Vl gk n n]) rfl y (λW h=>zR 85 _ rfl F rfl (run_loadVar_row _ F 85 85 _ (0,0) _ (IU h BX) underlying85 rfl E)) ?_
  try simp only [lz,l0,ls]
  generalize o:wr.drew=X at y ⊢;have l:({ heap:=wr.heap,tape:=wr.tape,drawn:=wr.drawn+1,os:=wr.os,output:=wr.output } : World)=X:=o
  try rw [l]
  clear o l;refine wpAnyH_ready (rs:=[1,3]) E bH ?_;refine AllReadyH.cons rfl (λK' o=>?_) (AllReadyH.cons rfl (λK' o=>?_) AllReadyH.nil)
  ·obtain⟨t,w,x,e1,Y,o1⟩:=q X y;have S3:=az y (az Y (f x));obtain⟨G,K,N,T,l⟩:=s _ _ t w _ y.size (az Y (f x)).size S3 (ax o1 (f x)) (ao x _);rw [GP E];refine aV 40 (.const (C)) (.tmp 29) E E E E e1 ?_;refine o _ _ (az y Y) (λ_=>?_);clear o K'
   (try simp only [lz,l0,ls]);refine po 3 λK' o=>?_;go_simp;refine o _ _ ⟨S3,?_⟩;clear o K'
   (try simp only [lz,l0,ls]);refine po 4 λK' o=>?_;refine aV 40 (.tmp 30) (.tmp 32) E E E E T ?_;refine o _ _ ⟨l.2.2,?_⟩;clear o K'
   (try simp only [lz,l0,ls]);clear q s f;refine pk 5 (.slice G (m+1) K) l.2.2 ?_
   (try simp only [lz,l0,ls]);refine bY ?_;go_wp2;go_ret;exact⟨G,K,gb,gk,rfl,l.1,l.2.1⟩
  obtain⟨t,w,x,e1,Y,o1⟩:=q _ (az y (f X));have S3:=az y (az (f X) Y);obtain⟨G,K,N,T,l⟩:=s _ _ t w _ (az y (f X)).size Y.size S3 o1 (IU Y (ao X _));rw [GP E];go_simp;refine o _ _ (az y (f X)) (λ_=>?_);clear o K'
  try simp only [lz,l0,ls]
  refine po 1 λK' o=>?_;refine aV 40 (.const (C)) (.tmp 29) E E E E e1 ?_;refine o _ _ ⟨S3,?_⟩;clear o K'
  try simp only [lz,l0,ls]
  refine po 4 λK' o=>?_;refine aV 40 (.tmp 30) (.tmp 32) E E E E T ?_;refine o _ _ ⟨l.2.2,?_⟩;clear o K'
  try simp only [lz,l0,ls]
  clear q s f;refine pk 5 (.slice G (m+1) K) l.2.2 ?_
  try simp only [lz,l0,ls]
  refine bY ?_;go_wp2;go_ret;exact⟨G,K,gb,gk,rfl,l.1,l.2.1⟩
theorem p8 {α:Type} (f:Oc->α) {a:List Oc} {k:Nat} {x y:Oc} (b:a[k]?=some x) (e:f y=f x):(a.set k y).map f=a.map f:=by
 apply Ho;intro t;rw [Gv,Gv,Gr];by_cases h:k=t;·subst h;rw [GP rfl,GP (Fz.1 b).1,b,Hi,Hi,e]
 rw [GO h]
theorem Bd {a:List Oc} {k:Nat} {x y:Oc} (b:a[k]?=some x) (e:pV y=pV x):de (a.set k y)=de a:=by
 unfold de;rw [List.flatMap_def,List.flatMap_def,p8 pV b e]
theorem rI {b:List Oc} {k:Nat} {y z:Oc} (h:z∈b.set k y):z=y\/∃ t,t≠k/\b[t]?=some z:=by
 obtain⟨t,a⟩:=List.mem_iff_getElem?.1 h;rw [Gr] at a;by_cases e:k=t
 ·rw [GP e] at a;split at a;·injection a with a;exact .inl a.symm
  cases a
 rw [GO e] at a;exact .inr ⟨t,λc=>e c.symm,a⟩
theorem y8 (f:Oc->Nat) {a:List Oc} (d:(a.map f).Nodup) {k:Nat} {x y:Oc} (m:a[i]?=some x) (n:a[k]?=some y) (c:i≠k):f x≠f y:=λe=>by
 obtain⟨o,p⟩:=Fz.1 m
 obtain⟨q,r⟩:=Fz.1 n
 have g:i<(a.map f).length:=by rw [Gz];exact o
 have j:k<(a.map f).length:=by rw [Gz];exact q
 have l:(a.map f)[i]=(a.map f)[k]:=by rw [List.getElem_map,List.getElem_map,p,r,e]
 rcases Nat.lt_or_gt_of_ne c with b|b
 ·exact II.1 d i k g j b l
 exact II.1 d k i j g b l.symm
theorem Qm.set9 {xs} (q:Qm B A cap xs W) {k:Nat} {x:Oc} {y} (m:xs[k]?=some x) (e:pV y=pV x) (c:y.gb=x.gb/\y.gk=x.gk) (g i:Nat) (v:Value) (n:(g=x.gb/\i<x.o.bytes.length/\y.o.known=x.o.known/\Ns .u8 y.o.bytes=(Ns .u8 x.o.bytes).set i v)\/(g=x.gk/\i<x.o.known.length/\y.o.bytes=x.o.bytes/\y.o.known.map Value.bool=(x.o.known.map Value.bool).set i v)) :
  Qm B A cap (xs.set k y) (W.setCell ⟨g,i,none⟩ v)/\Below B W (W.setCell ⟨g,i,none⟩ v):=by
 have a:=FM m;have d:∀ {o r:Nat} {s f:TypeId} {K L:List Value},RowV W o s K->RowV W r f L->s≠f->o≠r:=λ{o r s f K L} M N u w=>by
  obtain⟨l,b,_⟩:=M;obtain⟨t,j,_⟩:=N;rw [w,j] at b;injection b with b;injection b with _ b;exact u b.symm
 have O:B<=g:=by rcases n with ⟨rfl,_⟩|⟨rfl,_⟩;exact (q.rbq9 x a).2;exact (q.rkq9 x a).2
 have F:∃ e l,(e=5\/e=4)/\RowV W g e l:=by
  rcases n with ⟨rfl,_⟩|⟨rfl,_⟩;·exact⟨5,_,.inl rfl,(q.rbq9 x a).1⟩
  exact⟨4,_,.inr rfl,(q.rkq9 x a).1⟩
 refine⟨⟨by rw [World.setCell];simp;exact q.bs,?_,λz j=>?_,λz j=>?_,by rw [p8 Oc.gb m c.1];exact q.nb,by rw [p8 Oc.gk m c.2];exact q.nkq9⟩,(Fu B W).setCell O v⟩;·rw [Bd m e,Gj];refine q.row.kept (au (al W g) i v) (.inr λw=>?_);obtain⟨t,G,l,P,b,_⟩:=F;exact eD q.row b (by rcases l with rfl|rfl <;> decide) w
 ·rcases rI j with rfl|⟨t,G,j⟩
  ·rw [c.1];refine⟨?_,(q.rbq9 x a).2⟩;rcases n with ⟨rfl,l,_,f⟩|⟨rfl,l,f,_⟩;·rw [f];exact (q.rbq9 x a).1.set i (by rw [bv];exact l) v
   rw [f];exact (q.rbq9 x a).1.other (p:=⟨x.gk,i,none⟩) (d (q.rbq9 x a).1 (q.rkq9 x a).1 ar) v
  have b:=FM j;refine⟨(q.rbq9 z b).1.other (p:=⟨g,i,none⟩) ?_ v,(q.rbq9 z b).2⟩;rcases n with ⟨rfl,_⟩|⟨rfl,_⟩;·exact y8 Oc.gb q.nb j m G
  exact d (q.rbq9 z b).1 (q.rkq9 x a).1 ar
 rcases rI j with rfl|⟨t,G,j⟩
 ·rw [c.2];refine⟨?_,(q.rkq9 x a).2⟩;rcases n with ⟨rfl,l,f,_⟩|⟨rfl,l,_,f⟩;·rw [f];exact (q.rkq9 x a).1.other (p:=⟨x.gb,i,none⟩) (d (q.rkq9 x a).1 (q.rbq9 x a).1 ar) v
  rw [f];exact (q.rkq9 x a).1.set i (by rw [Gz];exact l) v
 have b:=FM j;refine⟨(q.rkq9 z b).1.other (p:=⟨g,i,none⟩) ?_ v,(q.rkq9 z b).2⟩;rcases n with ⟨rfl,_⟩|⟨rfl,_⟩;·exact d (q.rkq9 z b).1 (q.rbq9 x a).1 ar
 exact y8 Oc.gk q.nkq9 j m G
def wk (x:Oc) (e:List Bool):Oc:=⟨⟨x.o.base,x.o.bytes,e⟩,x.gb,x.gk⟩
def Fk (p n j:Nat) (x:Oc) (e:List Bool):Prop:=e.length=x.o.known.length/\∀ t:Nat,e[t]?=some true->x.o.known[t]?=some true/\(t<j->¬(p<=x.o.base+t/\x.o.base+t<p+n))
theorem io {b c:World} (h:Below B a b) (k:Below B b c):Below B a c:=⟨k.os.trans h.os,k.tape.trans h.tape,k.output.trans h.output,Fx h.size k.size,λg d=>(k.block g d).trans (h.block g d)⟩
def Kp9 (B:Nat) (w e:World):Prop:=Below B w e/\∀ (g:Nat) (C:Array Value) (t:TypeId),t≠4->t≠5->w.heap[g]?=some (.cells C t)->e.heap[g]?=some (.cells C t)
theorem Kp9.tr {b c} (h:Kp9 B a b) (k:Kp9 B b c):Kp9 B a c:=⟨io h.1 k.1,λg d t f i e=>k.2 g d t f i (h.2 g d t f i e)⟩
theorem Kp9.of {b} (h:D a b) (c:B<=a.heap.size):Kp9 B a b:=⟨h.mono c,λ_ _ _ _ _ e=>IU h e⟩
theorem Kp9.cell {B w W} (h:Kp9 B w W) {g:Nat} {a:Array Value} {t:TypeId} (b:w.heap[g]?=some (.cells a t)) (i:Nat) (u:Value) (c:a[i]?=some u:=by (rfl)) (d:t≠4:=by (decide)) (e:t≠5:=by (decide)):W.cell? ⟨g,i,none⟩=some u:=by
 rw [GT _ _ _ _ _ _ (h.2 g a t d e b)];exact c
theorem Kp9.set {r e l} (c:RowV W r e l) (d:e=4\/e=5) (i:Nat) (v:Value) (h:Below B W (W.setCell ⟨r,i,none⟩ v)):Kp9 B W (W.setCell ⟨r,i,none⟩ v):=⟨h,λg a t f j ha=>by
 rw [GQ _ _ _ _ (λa=>by obtain ⟨m,b,_⟩:=c;have k:g=r:=a;rw [<-k,ha] at b;injection b with b;injection b with _ b;rcases d with rfl|rfl;exact f b;exact j b)]
 exact ha⟩
theorem vY {a:List Oc} {k:Nat} {x:Oc} (h:a[k]?=some x):a.set k x=a:=by
 obtain⟨c,b⟩:=Fz.1 h;rw [<-b,List.set_getElem_self]
theorem qY {a:List Oc} {k:Nat} {x:Oc} (h:a[k]?=some x) (y:Oc):(a.set k y)[k]?=some y:=by rw [List.getElem?_set_self (Fz.1 h).1]
theorem D8 (w B A cap) (o:List Oc) (k:Nat) (x:Oc) (e:o[k]?=some x) (V:Qm B A cap o w) (b gb gk d F q n:Nat) (W:x.o.base=b/\x.gb=gb/\x.gk=gk/\x.o.bytes.length=d/\x.o.known.length=d) (hb:b<=300000) (P:d<=300000) (hq:q<18446744073709551616) (hn:n<=4096) (hp:n=0\/q+n<=4611686018427387904) (X:w.heap[F]?=some (.cells #[U b,Vl gb d d,Vl gk d d] 85)) (K:Act->World->Prop) (Q:Exit->Act->World->Prop) (u0 u3 u4 u5 u6 u8 u9 u10 u11 u12 u13 u14 u15 u16 u20 u21 u22 u23 u24 u25 u26 u27 u28 u29 u30 u31 u32 u33 u34 u35 u36 u37 u38:Value) (c:∀ (v8 Y f g l m p r s t u v z G L M N O P R S:Value) (T:World),Hid (∃ a,Fk q n d x a/\Qm B A cap (o.set k (wk x a)) T/\Kp9 B w T)->K ⟨#[u0,U q,I n,u3,u4,u5,u6,J F 0,v8,Y,u10,u11,u12,u13,u14,u15,u16,Vl gb d d,I d,f,g,l,m,p,r,s,t,u,v,z,G,L,M,N,O,P,R,S,u38],[]⟩ T) :
  Code.wp prog ((Tryz.f61.body.bind (iN 2)).getD .skip) (Exit.then K Q) ⟨#[u0,U q,I n,u3,u4,u5,u6,J F 0,u8,u9,u10,u11,u12,u13,u14,u15,u16,Vl gb d d,I d,I 0,u20,u21,u22,u23,u24,u25,u26,u27,u28,u29,u30,u31,u32,u33,u34,u35,u36,u37,u38],[]⟩ w:=by
 have R:=H c;have S:=H e;have u:=H W;have p:=H X;have r:=H (show Qm B A cap (o.set k (wk x x.o.known)) w from by rw [show wk x x.o.known=x from rfl,vY e];exact V);clear c e W V X
 conv=>arg 2;whnf
 go_wp2_with fail;go_loopw [19] (λi wr=>∃ j:Nat,j<=d/\i=I j/\∃ a,Hid (Fk q n j x a)/\Hid (Qm B A cap (o.set k (wk x a)) wr)/\Hid (Kp9 B w wr)) (λi _=>d-(intOf i).toNat);case atStart=>exact ⟨0,FH _,rfl,_,H ⟨rfl,λt f=>⟨f,λh=>absurd h (Nat.not_lt_zero _)⟩⟩,r,H ⟨Fu _ _,λ_ _ _ _ _=>id⟩⟩
 case round =>
  obtain⟨j,W,rfl,a,c,s,m⟩:=hrel;clear r;by_cases G:j<d
  ·have X:=m.cell p 0 (U b);have z2:=m.cell p 2 (Vl gk d d);have w1:IntKind.u64.wrap ((j:Nat):Int)=((j:Nat):Int):=(by rw [IntKind.wrap_u64];omega);have w2:IntKind.u64.wrap (((b:Nat):Int)+((j:Nat):Int))=((b:Nat):Int)+((j:Nat):Int):=(by rw [IntKind.wrap_u64];omega);have w3:IntKind.u64.wrap ((n:Nat):Int)=((n:Nat):Int):=(by rw [IntKind.wrap_u64];omega);have g:=qY S (wk x a);have l:a.length=d:=c.1.trans u.2.2.2.2;obtain⟨v,L⟩:∃ v,IntKind.u64.wrap (((b:Nat):Int)+((j:Nat):Int)-((q:Nat):Int))=v:=⟨_,rfl⟩;have M:v<(n:Int)↔q<=b+j/\b+j<q+n:=(by rw [<-L,IntKind.wrap_u64];omega);by_cases N:v<(n:Int)
   ·have e:=(s.rkq9 _ (FM g)).1;rw [show (wk x a).gk=gk from u.2.2.1,show (wk x a).o.known=a from rfl] at e;obtain⟨Y,y1,y2⟩:=e.at9 (i:=j) (by rw [Gz,l];exact G);have z:=s.set9 g (y:=wk x (a.set j false)) (by unfold wk pV;dsimp only;rw [Gj]) ⟨rfl,rfl⟩ gk j (.bool false) (.inr ⟨u.2.2.1.symm,by show j<a.length;omega,rfl,List.map_set ..⟩);rw [List.set_set] at z;have T:=H z.1;have V:=H (m.tr (Kp9.set e (.inl rfl) j (.bool false) z.2));have O:=H (show Fk q n (j+1) x (a.set j false) from ⟨by rw [Gj];exact c.1,λt f=>by
     rw [Gr] at f;split at f;·split at f <;> cases f
     exact⟨(c.2 t f).1,λh=>(c.2 t f).2 Z⟩⟩)
    clear z s m g e c M l;go_wp2;go_roundw;(case rel=>exact ⟨j+1,Z,aY,_,O,T,V⟩);case measure=>simp [intOf];omega
   have O:=H (show Fk q n (j+1) x a from ⟨c.1,λt f=>⟨(c.2 t f).1,λh=>by
    by_cases e:t=j;·rw [e,u.1];exact λh=>N (M.2 h)
    exact (c.2 t f).2 Z⟩⟩)
   clear c M l g;go_wp2;go_roundw;(case rel=>exact ⟨j+1,Z,aY,_,O,s,m⟩);case measure=>simp [intOf];omega
  obtain rfl:d=j:=Z;go_wp2_with fail;apply R.out;exact H ⟨a,c,s,m⟩
theorem AC {P:Program} {c:Code} {R:Exit->Act->World->Prop} {a:Act} (h:Code.wp P c (Exit.then (R .normal) R) a w):Code.wp P c R a w:=by
 have e:Exit.then (R .normal) R=R:=by funext e a w;cases e <;> rfl
 rw [e] at h;exact h
def En (q n k:Nat) (xs zs:List Oc):Prop:=zs.length=xs.length/\∀ t x,xs[t]?=some x->∃ e,zs[t]?=some (wk x e)/\(k<=t->e=x.o.known)/\(t<k->Fk q n x.o.bytes.length x e)
theorem Qm.obj {xs} (q:Qm B A cap xs W) {k:Nat} {x:Oc} (d:xs[k]?=some x) (c:x.o.known.length=x.o.bytes.length) :
  ∃ g b gb gk a,A=some ⟨g,0,none⟩/\(x.o.base=b/\x.gb=gb/\x.gk=gk/\x.o.bytes.length=a/\x.o.known.length=a)/\W.rangeAt g (k*3) [U b,Vl gb a a,Vl gk a a]:=by
 obtain⟨g,e,r⟩:=q.rw k x d;unfold pV at r;rw [c] at r;exact⟨g,_,_,_,_,e,⟨rfl,rfl,rfl,rfl,c⟩,r⟩
theorem yT (W B A cap xs) (M:Qm B A cap xs W) (q n:Nat) (V:xs.length<=1000) (N:∀ x∈xs,x.o.base<=300000/\x.o.bytes.length<=300000/\x.o.known.length=x.o.bytes.length) (X:q<18446744073709551616) (hn:n<=4096) (hp:n=0\/q+n<=4611686018427387904) :
  Calls prog 61 #[.slice A xs.length cap,U q,I n] W λe W'=>e=.returned (.tuple #[])/\∃ zs,En q n xs.length xs zs/\Qm B A cap zs W'/\Kp9 B W W':=by
 obtain⟨m,u⟩:∃ m,xs.length=m:=⟨_,rfl⟩;have HM:=H u;have j:=H M;have HF:=H N;rw [u] at V ⊢;clear u M N;go_enter func61,ntmps61;go_wp2_with fail;go_loopw [12] (λi wr=>∃ k:Nat,k<=m/\i=I k/\∃ zs,Hid (En q n k xs zs)/\Hid (Qm B A cap zs wr)/\Hid (Kp9 B W wr)) (λi _=>m-(intOf i).toNat);case atStart=>exact ⟨0,FH _,rfl,xs,H ⟨rfl,λt x f=>⟨_,f,λ_=>rfl,λh=>absurd h (Nat.not_lt_zero _)⟩⟩,j,H ⟨Fu _ _,λ_ _ _ _ _=>id⟩⟩
 case round =>
  obtain⟨k,hk,rfl,zs,l,o,v⟩:=hrel;clear j;by_cases w:k<m
  ·obtain⟨x,f⟩:∃ x,xs[k]?=some x:=⟨_,Fy (by rw [HM.out];exact w)⟩;obtain⟨f1,f2,f3⟩:=HF.out x (FM f);have z:zs[k]?=some x:=by
    obtain⟨a,d,s,_⟩:=l.2 k x f;rw [d,s (Fv _)];rfl
   have F:=H (IT f z);obtain⟨g,b,gb,gk,c,rfl,d,O⟩:=o.obj z f3;rw [d.2.2.2.1] at f2;rw [d.1] at f1;have P:=H d;have Q:=H O;have G:=(Fu wr.heap.size wr).alloc (Fv _) (.cells #[U b,Vl gb c c,Vl gk c c] 85);have p:=H (ao wr (.cells #[U b,Vl gb c c,Vl gk c c] 85));have K:=H (o.low G);have L:=H (v.tr (Kp9.of G o.bs));clear O G v o f z f3 d;go_upto_region 3 with (refine wpList_load_mid rfl 85 _ rfl _ _ rfl _ _ Q underlying85 rfl E ?_)
   generalize wr.alloc (.cells #[U b,Vl gb c c,Vl gk c c] 85)=Y at p L K ⊢;generalize wr.heap.size=R at p ⊢;have z1:Y.cell? ⟨R,1,none⟩=some (Vl gb c c):=bJ p.out;clear Q;(go_upto_block 2 with fail);refine AC ?_;refine D8 Y B _ cap zs k x F.2 K b gb gk c R q n P f1 f2 X hn hp p _ _ _ _ _ _ _ _ _ _ _ _ _ _ _ _ _ _ _ _ _ _ _ _ _ _ _ _ _ _ _ _ _ _ _ ?_;intros;rename_i w6 S;obtain⟨a,d,s,T⟩:=S.out;have Q6:=H s;have B6:=H (L.tr T);have S6:=H (show En q n (k+1) xs (zs.set k (wk x a)) from ⟨by rw [Gj];exact l.1,λt y r=>by
    by_cases e:t=k
    ·subst e;rw [F.1] at r;injection r with r;subst r;exact⟨a,qY F.2 _,λh=>Z,λ_=>by rw [P.2.2.2.1];exact d⟩
    obtain⟨a,g1,g2,g3⟩:=l.2 t y r;exact⟨a,by rw [Gr,GO (λh=>e h.symm)];exact g1,λh=>g2 Z,λh=>g3 Z⟩⟩)
   clear d s T S K L z1 p l
   (try simp only [Exit.inBlock,Exit.then]);go_wp2;go_roundw;(case rel=>exact ⟨k+1,Z,aY,_,S6,Q6,B6⟩);case measure=>simp [intOf];omega
  obtain rfl:m=k:=Z;clear hk;go_wp2
  try simp only [Exit.inBlock,Exit.then]
  first|refine bodyPost_end (Ir rfl _ _ _) rfl ?_|refine GX (Ir rfl _ _ _) rfl ?_
  exact⟨rfl,zs,l,o,v⟩
def qN (x:Oc) (off i j:Nat) (ys:List Int):Oc:=⟨⟨x.o.base,oC x.o.bytes off i (λt=>ys[t]?.getD 0),oC x.o.known off j (λ_=>true)⟩,x.gb,x.gk⟩
theorem CF (l:List Int) (a i:Nat) (f:Nat->Int):Ns .u8 (oC l a (i+1) f)=(Ns .u8 (oC l a i f)).set (a+i) (.int .u8 (f i)):=by
 unfold Ns;rw [<-mX,List.map_set]
def JgP (B:Nat) (W:World) (R:List Oc->Prop) (e:Ending) (W':World):Prop:=∃ j c' i,e=.returned (.tuple #[.slice j (List.length i) c',.bool true])/\Kp9 B W W'/\Qm B j c' i W'/\R i
theorem JgP.mk0 {V V'} {m:Nat} {a:List Oc} {R:List Oc->Prop} (d:a.length=m) (b:Kp9 B W V) (q:Qm B A cap a V) (c:D V V') (r:R a):JgP B W R (.returned (.tuple #[.slice A m cap,.bool true])) V':=⟨A,cap,a,by rw [d],b.tr (Kp9.of c q.bs),q.low c,r⟩
def E5 (xs:List Oc) (p n:Nat) (ys:List Int) (e:Int) (i:List Oc):Prop:=((4096<n\/e≠0)/\i=xs)\/(0<n/\n<=4096/\∃ k x,xs[k]?=some x/\tW x.o p n/\i=xs.set k (qN x (p-x.o.base) n n ys))\/(e=0/\En p n xs.length xs i)
def Jy (xs:List Oc) (p:Nat) (R:List Oc->Prop) (ys zs:List Int) (kd:Int) (n:Nat) (e:Int):Prop:=(kd=5/\R xs/\∀ x∈xs,tW x.o p n->0<n->n<=4096->zs.length=n/\∀ t,t<n->x.o.known[p-x.o.base+t]?=some true->zs[t]?.getD 0=x.o.bytes[p-x.o.base+t]?.getD 0)\/(kd=6/\ys.length=n/\(e=0->n=0\/p+n<=4611686018427387904)/\∀ i,E5 xs p n ys e i->R i)
def Jx (xs:List Oc) (p:Nat) (R:List Oc->Prop) (ys zs:List Int) (kd:Int) (n:Nat) (e:Int):Prop:=(4096<n->e=6)/\(n=0->e=0)/\(∀ x∈xs,tW x.o p n->0<n->n<=4096->e=0)/\Jy xs p R ys zs kd n e
theorem Jy.l {xs R ys cdq9} (h:Jy xs p R ys zs 5 n cdq9):R xs/\∀ x∈xs,tW x.o p n->0<n->n<=4096->zs.length=n/\∀ t,t<n->x.o.known[p-x.o.base+t]?=some true->zs[t]?.getD 0=x.o.bytes[p-x.o.base+t]?.getD 0:=by
 rcases h with h|h;·exact h.2
 exact absurd h.1 ar
theorem Jy.s {xs R ys cdq9} (h:Jy xs p R ys zs 6 n cdq9):(cdq9=0->n=0\/p+n<=4611686018427387904)/\∀ a,E5 xs p n ys cdq9 a->R a:=by
 rcases h with h|h;·exact absurd h.1 ar
 exact h.2.2
theorem wU (W B A cap xs) (k:Qm B A cap xs W) (hl:xs.length<=1000) (z:∀ x∈xs,x.o.base<=300000/\x.o.bytes.length<=300000/\x.o.known.length=x.o.bytes.length) (p:Nat) (hp:p<18446744073709551616) (R) (q zs:List Int) (kd:Int) (rf op ob) (oa n:Nat) (f adq9 sz) (ha:oa<18446744073709551616) (d:Option Addr) (dc:Nat) (e:Option Addr) (ec:Nat) (l:∀ W',Below B W W'->Rd1 .u8 W' (.slice d q.length dc) q) (o:∀ W',Below B W W'->Rd1 .u8 W' (.slice e zs.length ec) zs) (G:kd=5->n=oa) (a:Jx xs p R q zs kd n f) :
  Calls prog 25 #[.slice A xs.length cap,.agg #[I kd,I rf,U op,U oa,U ob,.slice d q.length dc],U p,.agg #[I f,U adq9,I sz,.slice e zs.length ec]] W (JgP B W R):=by
 obtain⟨m,N⟩:∃ m,xs.length=m:=⟨_,rfl⟩;obtain⟨t,b⟩:∃ t,q.length=t:=⟨_,rfl⟩;obtain⟨X,c⟩:∃ X,zs.length=X:=⟨_,rfl⟩;obtain⟨V9,hV⟩:∃ V9,(W.alloc (.cells #[I kd,I rf,U op,U oa,U ob,.slice d q.length dc] 42)).alloc (.cells #[I f,U adq9,I sz,.slice e zs.length ec] 44)=V9:=⟨_,rfl⟩;obtain⟨r,s,u⟩:=Bt _ _ _ _ _ hV;rw [b] at s hV l;rw [c] at u hV o;have w:=H N;have a8:=H b;have a6:=H c;have HF:=H z;have F:=H s;have NA:=H u;have QA:=H (k.low r);have BA:=H (Kp9.of r k.bs);have HD:=H l;have HE:=H o;obtain⟨K,L,M,v⟩:=a;have H1:=H K;have H2:=H L;have H3:=H M;have O:=H v;rw [N] at hl ⊢;rw [b,c];have hk:kd=5/\n=oa\/kd=6/\n=t:=by rcases v with h|⟨h,h2,_⟩;exact .inl ⟨h.1,G h.1⟩;exact .inr ⟨h,h2.symm.trans b⟩
 clear k z r s u l o K L M v N b c G;rcases hk with ⟨rfl,rfl⟩|⟨rfl,rfl⟩
 all_goals
  go_enter func25,ntmps25
  go_upto_region 1 with fail
  clear hV
  generalize W.heap.size+1=P7 at NA ⊢
  generalize W.heap.size=P5 at F ⊢
  have k0:=pL F 0 rfl
  have k:=pL F 3 rfl
  have l:=pL F 5 rfl
  have a0:=pL NA 0 rfl
  by_cases a2:4096<n
  ·obtain rfl:=H1.out a2;have P:=H (show R xs from by first|exact O.l.1|exact O.s.2 xs (.inl ⟨.inl a2,rfl⟩));go_wp2_with fail;go_quiet (fail);go_wp2;refine GX (b_ rfl _ _) rfl ?_;exact JgP.mk0 w BA QA (ER _ _) P.out
  have w5:IntKind.i64.wrap (n:Int)=(n:Int):=by rw [Hh];omega
  have b:=H (y6 V9 A cap xs p n QA.rw (by rw [w.out];exact hl) hp Z (λx G=>⟨(HF x G).1,(HF x G).2.1⟩))
  rw [w.out] at b
  clear H1
  go_wp2_with fail
  refine b.mono ?_
  clear b
  rintro e9 V ⟨c,b⟩
  have T:=H (BA.tr (Kp9.of b QA.bs))
  have o:=H (QA.low b)
  have NV:=H (IU b F)
  have NW:=H (IU b NA)
  clear k0 k l a0 BA QA F NA b V9
  have k0:=pL NV 0 rfl
  have a0:=pL NW 0 rfl
  have hk:(∃ kk:Int,e9=.returned (I kk)/\(kk<0\/n=0))\/(∃ (k:Nat) (x:Oc),0<n/\xs[k]?=some x/\tW x.o p n/\e9=.returned (I k)):=by
   rcases c with ⟨k,x,G,hc,rfl⟩|⟨b,rfl⟩
   ·by_cases l:n=0;·exact .inl ⟨_,rfl,.inr l⟩
    exact .inr ⟨k,x,Z,G,hc,rfl⟩
   exact .inl ⟨_,rfl,.inl Z⟩
  clear c
  rcases hk with ⟨kk,rfl,h5⟩|⟨k,x,K,G,hc,rfl⟩
  ·have h2:=H2.out;rcases (show (kk<0/\0<n/\f=0)\/(kk<0/\n=0/\f=0)\/(¬kk<0/\n=0/\f=0)\/(kk<0/\0<n/\f≠0) by omega) with ⟨c,K,rfl⟩|⟨c,rfl,rfl⟩|⟨c,rfl,rfl⟩|⟨c,K,b⟩
   all_goals
    try have s:=GR c
    try have dc:=(show (f==0)=false from by simp [b])
    clear h2 h5 H2
    go_wp2_with fail
    first
     | (have l:=yT V B A cap xs o p _ (by rw [w.out];exact hl) HF hp Z (O.s.1 rfl);rw [w.out] at l;refine l.mono ?_;rintro M S ⟨rfl,v,Q,u,r⟩;rw [<-w.out] at Q;have a1:=pL (r.2 _ _ _ ar ar NW) 0 rfl;have LL:=H (Q.1.trans w);have P:=H (O.s.2 _ (.inr (.inr ⟨rfl,Q⟩)));have z:=H u;have L:=H (T.tr r);clear u r l Q a0 k0;go_wp2_with fail;go_quiet (fail);go_wp2;refine GX (b_ rfl _ _) rfl ?_;exact JgP.mk0 LL L z (ER _ _) P)
     | (have P:=H (show R xs from by first|exact O.l.1|exact O.s.2 xs (.inl ⟨.inr b,rfl⟩));go_quiet (fail);go_wp2;refine GX (b_ rfl _ _) rfl ?_;exact JgP.mk0 w T o (ER _ _) P)
  obtain rfl:=H3.out x (FM G) hc K Z
  obtain⟨f1,f2,f3⟩:=HF.out x (FM G)
  have S:=H (IT G hc)
  obtain⟨g,b,gb,gk,r,rfl,s,rg⟩:=o.obj G f3
  obtain⟨c,l⟩:∃ c,p-x.o.base=c:=⟨_,rfl⟩
  have HO:=H l
  obtain⟨u,a9⟩:=hc
  rw [l,s.2.2.2.1] at a9
  rw [s.1] at f1 u l
  rw [s.2.2.2.1] at f2
  have v:=H s
  have RG:=H rg
  have z:=(Fu V.heap.size V).alloc (Fv _) (.cells #[U b,Vl gb r r,Vl gk r r] 85)
  have NS:=H (ao V (.cells #[U b,Vl gb r r,Vl gk r r] 85))
  have QY:=H (o.low z)
  have BY:=H (T.tr (Kp9.of z o.bs))
  have F:=H (IU z NV)
  have dk:decide ((k:Int)<0)=false:=GR Z
  have b6:k<m:=by rw [<-w.out];exact (Fz.1 S.1).1
  have dn:((n:Int)==0)=false:=bG
  have w1:IntKind.u64.wrap ((p:Int)-(b:Int))=(c:Int):=by rw [IntKind.wrap_u64];omega
  have w2:IntKind.i64.wrap (c:Int)=(c:Int):=by rw [Hh];omega
  try (have M:=O.out.l;obtain ⟨L,M⟩:=M.2 x (FM G) S.2 K Z;obtain rfl:=L.symm.trans a6.out;have b2:=H M;clear M L)
  have NA:=H (IU z NW)
  clear rg z G f3 l u s H2 H3
  go_upto_region 14 with (refine wpList_load_mid rfl 85 _ rfl _ _ rfl _ _ RG underlying85 rfl E ?_)
  generalize V.alloc (.cells #[U b,Vl gb r r,Vl gk r r] 85)=Y at NS QY BY F NA ⊢
  generalize V.heap.size=Zb at NS ⊢
  clear RG k0 a0 NV NW T o
  have z0:=pL NS 0 rfl
  have k0:=pL F 0 rfl
  have a0:=pL NA 0 rfl
  have a3:=pL NA 3 rfl
  go_wp2_with fail
  first
   | (
    have P:=H O.l.1
    go_loopw [14] (λi wr=>∃ j m:Nat,j<=n/\i=I j/\Hid (wr=Y.drewN m)) (λi _=>n-(intOf i).toNat)
    case atStart=>exact ⟨0,0,FH _,rfl,H (World.drewN_zero Y).symm⟩
    case round =>
     obtain⟨j,m9,hj,rfl,L⟩:=hrel;obtain rfl:=L.out;clear L;by_cases T:j<n
     ·obtain⟨d9,b3,M,rd⟩:=HE.out _ BY.1;injection M with a4 b4 b5;subst a4 b5;obtain⟨gd,rfl,f⟩:=rd j (by rw [a6.out];exact T);have c1:=pL NS 1 rfl;have c2:=pL NS 2 rfl;obtain⟨m,N⟩:∃ m,m=c+j:=⟨_,rfl⟩;have wj:IntKind.i64.wrap ((c:Int)+(j:Int))=(m:Int):=(by rw [Hh];omega);have s:m<r:=Z;have l:=(QY.rbq9 _ (FM S.1)).1;have o:=(QY.rkq9 _ (FM S.1)).1;rw [v.2.1] at l;rw [v.2.2.1] at o;have yb:=l.cell m (by rw [bv,v.2.2.2.1];exact s);have a7:=o.cell m (by rw [Gz,v.2.2.2.2];exact s);obtain⟨u,a5⟩:∃ u,x.o.known[m]?=some u:=⟨_,Fy (by rw [v.2.2.2.2];exact s)⟩;obtain⟨y,hy⟩:∃ y,x.o.bytes[m]?=some y:=⟨_,Fy (by rw [v.2.2.2.1];exact s)⟩;unfold Ns at yb;rw [Gv,a5,Hi] at a7;rw [Gv,hy,Hi] at yb;have hg:=b2.out j T;rw [HO.out,<-N,a5,hy,Ht] at hg;generalize zs[j]?.getD 0=z at f hg;clear rd b4 N l o a5 hy z0 a0;cases u with
      | true =>
       obtain rfl:=hg rfl;clear hg;(go_upto_region 23 with fail);go_quiet (fail);go_wp2;go_roundw;(case rel=>exact ⟨j+1,m9+nq,Z,aY,H rfl⟩);case measure=>simp [intOf];omega
      | false =>
       clear hg;(go_upto_region 23 with fail);go_quiet (fail);go_wp2;go_roundw;(case rel=>exact ⟨j+1,m9+nq,Z,aY,H rfl⟩);case measure=>simp [intOf];omega
     go_wp2;refine GX (b_ rfl _ _) rfl ?_;exact JgP.mk0 w BY QY (ER _ _) P)
   | (
    have P:=H O.s.2
    have QX:=H (show Qm B (some ⟨g,0,none⟩) cap (xs.set k (qN x c 0 0 q)) Y from by rw [show qN x c 0 0 q=x from by unfold qN;rw [jA,jA],vY S.1];exact QY)
    go_loopw [14] (λi wr=>∃ j:Nat,j<=n/\i=I j/\Hid (Qm B (some ⟨g,0,none⟩) cap (xs.set k (qN x c j j q)) wr)/\Hid (Kp9 B Y wr)) (λi _=>n-(intOf i).toNat)
    case atStart=>exact ⟨0,FH _,rfl,QX,H ⟨Fu _ _,λ_ _ _ _ _=>id⟩⟩
    case round =>
     obtain⟨j,hj,rfl,QM,L⟩:=hrel;clear QX z0 k0 a0 a3;by_cases T:j<n
     ·have k0:=L.cell F 0 (I 6);have u:=H (show ∀ W',Kp9 B Y W'->∃ gd,d=some ⟨gd,0,none⟩/\W'.cell? ⟨gd,j,none⟩=some (.int .u8 (q[j]?.getD 0)) from λW' h=>by
       obtain⟨d9,b3,M,rd⟩:=HD.out W' (io BY.1 h.1);injection M with a4;subst a4;exact rd j (by rw [a8.out];exact T))
      obtain⟨gd,rfl,c9⟩:=u.out wr L.out;obtain⟨y,z⟩:∃ y,q[j]?.getD 0=y:=⟨_,rfl⟩;have RC:=H (show ∀ W',Kp9 B Y W'->W'.cell? ⟨gd,j,none⟩=some (.int .u8 y) from λW' h=>by obtain ⟨g9,e9,h9⟩:=u.out W' h;injection e9 with e9;injection e9 with e9;rw [e9,<-z];exact h9);obtain⟨m,N⟩:∃ m,m=c+j:=⟨_,rfl⟩;have wj:IntKind.i64.wrap ((c:Int)+(j:Int))=(m:Int):=(by rw [Hh];omega);have s:m<r:=Z;have a5:=H (IT N z);clear N z u c9;have c1:=L.cell NS 1 (Vl gb r r);have c5:=L.cell F 5 (Vl gd n dc);have f:=RC.out wr L.out;have u:=qY S.1 (qN x c j j q);have l1:(qN x c j j q).o.bytes.length=r:=(by unfold qN;dsimp only;rw [d_];exact v.2.2.2.1);have l:=(QM.rbq9 _ (FM u)).1;rw [show (qN x c j j q).gb=gb from v.2.1] at l;obtain⟨v9,y1,y2⟩:=l.at9 (i:=m) (by rw [bv,l1];exact s);have z:=QM.set9 u (y:=qN x c (j+1) j q) (by unfold qN pV;simp only [d_]) ⟨rfl,rfl⟩ gb m (.int .u8 y) (.inl ⟨v.2.1.symm,by rw [l1];exact s,rfl,by rw [<-a5.2,a5.1];exact CF x.o.bytes c j (λt=>q[t]?.getD 0)⟩);rw [List.set_set] at z;have b1:=L.tr (Kp9.set l (.inr rfl) m (.int .u8 y) z.2);have S1:=H (IT (z.1.low (Fu _ _).drew) (b1.tr (Kp9.of (Fu _ _).drew z.1.bs)));clear l z b1 u l1;go_wp2_with fail;go_region
      (try simp only [Act.put]);generalize (wr.setCell ⟨gb,m,none⟩ (.int .u8 y)).drew=W1 at S1 ⊢;have z:=S1.1;have b1:=S1.2;clear y1 y2 c1 c5 f S1;have u:=qY S.1 (qN x c (j+1) j q);have l1:(qN x c (j+1) j q).o.known.length=r:=(by unfold qN;dsimp only;rw [d_];exact v.2.2.2.2);have o:=(z.rkq9 _ (FM u)).1;rw [show (qN x c (j+1) j q).gk=gk from v.2.2.1] at o;obtain⟨v9,y1,y2⟩:=o.at9 (i:=m) (by rw [Gz,l1];exact s);have Q:=z.set9 u (y:=qN x c (j+1) (j+1) q) (by unfold qN pV;simp only [d_]) ⟨rfl,rfl⟩ gk m (.bool true) (.inr ⟨v.2.2.1.symm,by rw [l1];exact s,rfl,by rw [a5.1];unfold qN;dsimp only;rw [<-mX,List.map_set]⟩);rw [List.set_set] at Q;have QF:=H Q.1;have a7:=H (b1.tr (Kp9.set o (.inl rfl) m (.bool true) Q.2));have c2:=b1.cell NS 2 (Vl gk r r);clear z u o Q b1 QM L k0 l1;go_wp2;go_roundw;(case rel=>exact ⟨j+1,Z,aY,QF,a7⟩);case measure=>simp [intOf];omega
     obtain rfl:n=j:=Z;have LL:=H (show (xs.set k (qN x c n n q)).length=m from by rw [Gj];exact w);go_wp2;refine GX (b_ rfl _ _) rfl ?_;exact JgP.mk0 LL (BY.tr L) QM (Fu _ _) (P _ (.inr (.inl ⟨K,Z,k,x,S.1,S.2,by rw [HO.out]⟩))))
structure Rs9 (Y:World) (b n gb gk F:Nat) (f g:Nat->Value) (i j:Nat) (W:World):Prop where
 bel:D Y W
 rbq9:RowV W gb 5 (oC (List.replicate n (.int .u8 0)) 0 i f)
 rkq9:RowV W gk 4 (oC (List.replicate n (.bool false)) 0 j g)
 bx:W.heap[F]?=some (.cells #[U b,Vl gb n n,Vl gk n n] 85)
 nb:Y.heap.size<=gb
 nkq9:Y.heap.size<=gk
 nxq9:Y.heap.size<=F
theorem Rs9.b {b} (h:Rs9 Y b n gb gk F f g i j W) (k:i<n):Rs9 Y b n gb gk F f g (i+1) j (W.setCell ⟨gb,i,none⟩ (f i)):=by
 have e:=mX (List.replicate n (Value.int .u8 0)) 0 i f;rw [Gb] at e;have d:=(Fu Y.heap.size W).setCell (p:=⟨gb,i,none⟩) h.nb (f i);refine⟨io h.bel d,by rw [<-e];exact h.rbq9.set i (by rw [d_,Gc];exact k) _,h.rkq9.other (p:=⟨gb,i,none⟩) (λe=>?_) _,(Kp9.set h.rbq9 (.inr rfl) i (f i) d).2 _ _ _ ar ar h.bx,h.nb,h.nkq9,h.nxq9⟩;obtain⟨c,l,_⟩:=h.rbq9;obtain ⟨o,a,_⟩:=h.rkq9;have m:gk=gb:=e;rw [m,l] at a;cases a
theorem Rs9.k {b} (h:Rs9 Y b n gb gk F f g i j W) (l:j<n):Rs9 Y b n gb gk F f g i (j+1) (W.setCell ⟨gk,j,none⟩ (g j)):=by
 have e:=mX (List.replicate n (Value.bool false)) 0 j g;rw [Gb] at e;have d:=(Fu Y.heap.size W).setCell (p:=⟨gk,j,none⟩) h.nkq9 (g j);refine⟨io h.bel d,h.rbq9.other (p:=⟨gk,j,none⟩) (λe=>?_) _,by rw [<-e];exact h.rkq9.set j (by rw [d_,Gc];exact l) _,(Kp9.set h.rkq9 (.inl rfl) j (g j) d).2 _ _ _ ar ar h.bx,h.nb,h.nkq9,h.nxq9⟩;obtain⟨c,k,_⟩:=h.rbq9;obtain ⟨o,a,_⟩:=h.rkq9;have m:gb=gk:=e;rw [m,a] at k;cases k
theorem Rs9.low {b} (h:Rs9 Y b n gb gk F f g i j W):Rs9 Y b n gb gk F f g i j W.drew:=⟨h.bel.drew,h.rbq9,h.rkq9,h.bx,h.nb,h.nkq9,h.nxq9⟩
theorem wh {α:Type} (l:List α) (d:α) (v:α->Value) (n k:Nat) (c:k<=n) (e:k<=l.length) (f:¬(k<n/\k<l.length)):oC (List.replicate n (v d)) 0 k (λt=>v (l[t]?.getD d))=(l.take n++List.replicate (n-l.length) d).map v:=by
 apply Ho;intro t;rw [r_,List.getElem?_replicate,Gv,List.getElem?_append,Hm,Gx,List.getElem?_replicate];by_cases a:t<n
 ·rw [GP a,Hi];by_cases b:t<k;·rw [GP ⟨FH _,Z⟩,GP Z,GP a,Nat.sub_zero,Fy Z];rfl
  rw [GO (λh=>b Z),GO Z,GP Z];rfl
 rw [GO a,GO Z,GO Z];rfl
structure E6 (W:World) (x:Oc) (b n gb gk:Nat) (W':World):Prop where
 bel:D W W'
 rbq9:RowV W' gb 5 (Ns .u8 (gJ x.o b n).bytes)
 rkq9:RowV W' gk 4 ((gJ x.o b n).known.map Value.bool)
 nb:W.heap.size<=gb
 nkq9:W.heap.size<=gk
theorem tJ (W:World) (x:Oc) (N u d a:Nat) (k:x.o.bytes.length=a/\x.o.known.length=a) (c:RowV W u 5 (Ns .u8 x.o.bytes)) (f:RowV W d 4 (x.o.known.map Value.bool)) (b n:Nat) (hn:n<=1000000) (Y:a<=300000) :
  Calls prog 23 #[.agg #[U N,Vl u a a,Vl d a a],U b,I n] W λe W'=>∃ gb gk,e=.returned (.agg #[U b,Vl gb n n,Vl gk n n])/\E6 W x b n gb gk W':=by
 obtain⟨q,l⟩:∃ q,(W.alloc (.cells #[U N,Vl u a a,Vl d a a] 85)).alloc (.cells #[U 0,C,C] 85)=q:=⟨_,rfl⟩;obtain⟨j,m,o⟩:=Bt _ _ _ _ _ l;have v:=H m;have w:=H o;have A:=H j;have O:=H (IT (c.below j c.lt) (f.below j f.lt));have g:=H k;have Q:W.heap.size<=W.heap.size+1:=Nat.le_succ _;clear j m o c f k;have k:=run_make_row' (P:=prog) 22 5 (.int .u8 0) 1 underlying22 uY rfl .i64 .i64 n Z Z;have m:=run_make_row' (P:=prog) 83 4 (.bool false) 1 underlying83 wT rfl .i64 .i64 n Z Z;go_enter func23,ntmps23;go_upto_region 1 with fail
 clear l;generalize c:W.heap.size+1=B at w Q ⊢;generalize f:W.heap.size=P3 at v ⊢;clear c f;go_cut [7,9,10,11,12,13,14] (λp _ _ _ _ _ _ c=>∃ gb gk F,p=J F 0/\Hid (E4 q b n gb gk F c));case first =>
  go_region
  all_goals
   go_wp2
   go_meet
   case rel=>exact ⟨_,_,_,rfl,H (by obtain ⟨l,c,f,j⟩:=D1 _ _ _ _ _ _ _ _ rfl;exact⟨l,nr (by first|exact c|exact f|exact j),nr (by first|exact c|exact f|exact j),by first|exact c|exact f|exact j,Z,Z,Z⟩)⟩
 clear m k;obtain⟨gb,gk,F,rfl,c⟩:=hcut;have R:=H (show Rs9 q b n gb gk F (λt=>.int .u8 (x.o.bytes[t]?.getD 0)) (λt=>.bool (x.o.known[t]?.getD false)) 0 0 wc from ⟨c.bel,by rw [jA];exact c.rbq9,by rw [jA];exact c.rkq9,c.bx,c.nb,c.nkq9,c.nxq9⟩);clear c;go_wp2_with fail;go_loopw [8] (λi wr=>∃ k:Nat,k<=n/\k<=a/\i=I k/\Hid (Rs9 q b n gb gk F (λt=>.int .u8 (x.o.bytes[t]?.getD 0)) (λt=>.bool (x.o.known[t]?.getD false)) k k wr)) (λi _=>n-(intOf i).toNat);case atStart=>exact ⟨0,FH _,FH _,rfl,R⟩
 case round =>
  obtain⟨k,S,r,rfl,c⟩:=hrel;clear R;have G:=pL (IU c.bel v) 1 rfl;by_cases l:k<n/\k<a
  ·obtain⟨f,j⟩:=l;obtain⟨y,s⟩:∃ y,x.o.bytes[k]?=some y:=⟨_,Fy (by rw [g.1];exact j)⟩;obtain⟨z,K⟩:∃ z,x.o.known[k]?=some z:=⟨_,Fy (by rw [g.2];exact j)⟩;have X:=ad c.bel ((O.1.cell k (by rw [bv,g.1];exact j)).trans (show _=some (Value.int .u8 y) by unfold Ns;rw [Gv,s];rfl));have T:=H (λm (h:D q m)=>ad h ((O.2.cell k (by rw [Gz,g.2];exact j)).trans (show _=some (Value.bool z) by rw [Gv,K];rfl)));have f1:=pL c.bx 1 rfl;obtain⟨v9,L,M⟩:=c.rbq9.at9 (i:=k) (by rw [d_,Gc];exact f);have m:=(c.b f).low;rw [s,Ht] at m;have o:=H m;clear m c s;go_wp2_with fail;go_region
   (try simp only [Act.put]);generalize (wr.setCell ⟨gb,k,none⟩ (.int .u8 y)).drew=V at o ⊢;clear X f1 L M G;have G:=pL (IU o.bel v) 2 rfl;have s:=T.out V o.bel;have f2:=pL o.bx 2 rfl;obtain⟨v9,L,M⟩:=o.rkq9.at9 (i:=k) (by rw [d_,Gc];exact f);have m:=(o.k f).low;rw [K,Ht] at m;have X:=H m;clear m o K T;go_wp2_with fail;go_region
   (try simp only [Act.put]);generalize (V.setCell ⟨gk,k,none⟩ (.bool z)).drew=m at X ⊢;clear s f2 L M G;go_wp2;go_roundw;(case rel=>exact ⟨k+1,Z,Z,aY,X⟩);case measure=>simp [intOf];omega
  have m:=H (show RowV wr gb 5 (Ns .u8 (gJ x.o b n).bytes) from by have f:=c.rbq9;rw [wh x.o.bytes 0 (λi=>.int .u8 i) n k S (by rw [g.1];exact r) (by rw [g.1];exact l)] at f;exact f);have o:=H (show RowV wr gk 4 ((gJ x.o b n).known.map Value.bool) from by have f:=c.rkq9;rw [wh x.o.known false Value.bool n k S (by rw [g.2];exact r) (by rw [g.2];exact l)] at f;unfold gJ;dsimp only;rw [g.1,<-g.2];exact f);have s:=H (IU c.bel w);have j:=H (show ∀ l,E6 W x b n gb gk (wr.setRow B l) from λl=>by
   have y:=az A c.bel;have L:=ag w.out;have z:=c.nb;have K:=c.nkq9;exact⟨y.grown (aj _ _ _) y.size (λr e=>by cases e;exact Q),m.grown (aj wr B l) Z,o.grown (aj wr B l) Z,Fx A.size z,Fx A.size K⟩)
  clear m o;rcases (show (k<n/\¬k<a)\/¬k<n by omega) with ⟨m,o⟩|m
  all_goals
   go_wp2_with (first|(refine Gt rfl 85 _ rfl _ rfl _ _ _ _ c.bx underlying85 rfl E ?_)|(refine eG s ?_))
   refine fM (aw s _) underlying85 ?_
   exact⟨gb,gk,rfl,j _⟩
theorem own_rw {xs:List Oc} (h:W.ownsRow B 85 3 (.slice A xs.length cap) xs.length (de xs)):RwO W A xs:=λk x b=>by
 obtain⟨a,c,e,h⟩:=sO h
 injection e with d j l
 subst d
 obtain⟨_,g,f,r⟩:=h k (Fz.1 b).1
 have i:(List.take 3 (List.drop (k*3) (de xs)))=pV x:=nF pV 3 (λ_=>rfl) xs k x b
 dsimp only at r
 rw [i] at r
 exact⟨g,f,r⟩
theorem wx {b:List Oc} {z:Oc} (e:W.ownsRow B 85 3 (.slice A b.length cap) b.length (de b)) {g a c:Nat} (K:∀ j u,(de [z])[j]?=some u->W.cell? ⟨g,a+j,none⟩=some u) (X:b.length<=1000) {L:Option Addr} {s:World}
  (f:(Builtin.append_ #[40,40] 40 #[.slice A b.length cap,.slice (some ⟨g,a,none⟩) 1 c]).run prog W=.ok (.slice L (b.length+1) c') s) (m:s.ownsRow B 85 3 (.slice L (b.length+1) c') (b.length+1) (de (b++[z]))):RwO s A b:=by
 rcases e.2 with ⟨M,O⟩|⟨t,Y,n,M,O,Q,h4,h5,v,R⟩;·intro k x q;have:=(Fz.1 q).1;omega
 injection M with S e2 T;subst S T;obtain⟨N,o,w,l,y⟩:=G0 zE;have F:∀ (g a j:Nat),(⟨g,a,none⟩:Addr).add j=⟨g,a+j,none⟩:=λg a j=>by cases j <;> simp [Addr.add]
 have G:RowV W t 85 n.toList:=⟨n,Q,bH,λi _=>bH⟩;by_cases V:cap<b.length+1
 ·obtain⟨v',w9,f1,_,f3⟩:=run_append_arg_grows (P:=prog) W 40 40 85 N _ 3 56 underlying40 o w l y rfl Z ⟨t,0,none⟩ b.length cap (de b) (jx b) (λj u d=>by
   have p:=(Fz.1 d).1;rw [jx] at p;rw [F,Gb,G.cell j (by simp [v];omega)];rw [<-R,Gx,GP p] at d;exact d) ⟨g,a,none⟩ 1 c (de [z]) (jx [z]) (λj u d=>by rw [F];exact K j u d) V (by unfold maxLen;omega) Z
  rw [f] at f1;injection f1 with _ f1;subst f1;exact (own_rw e).low ((Fu _ _).grown f3 (Fv _) (λr e=>by cases e))
 have lz:(de [z]).length=3:=jx [z];have f1:=run_append_room_cells (P:=prog) W 40 40 85 N underlying40 o t 0 b.length cap ⟨g,a,none⟩ 1 c (de [z]) (by rw [l,lz]) (λj u d=>by rw [F];exact K j u d) (xm [z]) Z (λj d=>by
  rw [l,G.cell _ (by simp [v];omega)];simp [v];omega) (λj d=>G.free _)
 rw [f] at f1;injection f1 with f1 f2;injection f1 with f1;subst f1;have r:=own_rw (xs:=b++[z]) (by rw [FC];exact m);intro k x q;exact r k x (by rw [Ga (Fz.1 q).1];exact q)
theorem JQ.fit {q} (i:Inv cf h) (j:JQ h q):∀ o∈q,o.base<=300000/\o.bytes.length<=300000/\o.known.length=o.bytes.length:=λo a=>by
 have b:=p7 i ((j.sz o a).1.area i)
 have c:=(j.sz o a).2
 omega
def Mg (xs:List Oc) (R:List Oc->Prop) (z:Bool) (n:Nat) (e:Int) (b:Nat):Prop:=(e=0->n<=1000000/\b<=300000/\tR (xs.map Oc.o) b n/\∀ gb gk,R (xs++[⟨⟨b,List.replicate n 0,List.replicate n z⟩,gb,gk⟩]))/\(e≠0->e=1/\R xs)
inductive Jh (xs:List Oc) (p:Nat) (R:List Oc->Prop) (ys zs:List Int) (kd:Int) (oa ob:Nat) (cdq9:Int) (b:Nat) (sz:Int):Prop
 | giv (n:Nat) (z:Bool):(kd=0/\n=oa/\z=false)\/(kd=1/\n=oa*ob/\z=true)->n<18446744073709551616->Mg xs R z n cdq9 b->Jh xs p R ys zs kd oa ob cdq9 b sz
 | big:kd=1->18446744073709551616<=oa*ob->cdq9=1->R xs->Jh xs p R ys zs kd oa ob cdq9 b sz
 | rea:kd=2->(cdq9≠0->((∀ x∈xs,x.o.base≠p)\/cdq9=1\/cdq9=5)/\R xs)->(cdq9=0->p=0->Mg xs R false oa cdq9 b) ->
  (cdq9=0->p≠0->oa<=1000000/\b<=300000/\(∃ x∈xs,x.o.base=p)/\∀ (k:Nat) (x:Oc),xs[k]?=some x->x.o.base=p->(b≠p->tR (xs.map Oc.o) b oa)/\tR ((xs.take k++xs.drop (k+1)).map Oc.o) b oa/\∀ gb gk,R (xs.take k++xs.drop (k+1)++[⟨gJ x.o b oa,gb,gk⟩]))->Jh xs p R ys zs kd oa ob cdq9 b sz
 | fre:kd=3->(∀ (k:Nat) (x:Oc),xs[k]?=some x->x.o.base=p->(cdq9=0/\R (xs.take k++xs.drop (k+1)))\/(cdq9=5/\R xs))->((∀ x∈xs,x.o.base≠p)->(cdq9=3\/cdq9=4)/\R xs)->Jh xs p R ys zs kd oa ob cdq9 b sz
 | usa:kd=4->(∀ (k:Nat) (x:Oc),xs[k]?=some x->x.o.base=p->cdq9=0/\(x.o.bytes.length:Int)<=sz)->((∀ x∈xs,x.o.base≠p)->cdq9=3\/cdq9=4)->R xs->Jh xs p R ys zs kd oa ob cdq9 b sz
 | acc (n:Nat):(kd=5\/kd=6)->(kd=5->n=oa)->Jx xs p R ys zs kd n cdq9->Jh xs p R ys zs kd oa ob cdq9 b sz
def Rq (h:Hs) (n:Nat) (xs:List Oc):Prop:=JQ h (xs.map Oc.o)/\xs.length<=n+1
theorem vI {f:List Oc} (i:Inv cf h) {kk} (d:Few kk h) (j:JQ h (f.map Oc.o)) {a:Nat} {an:An4} {c:Hs} (g:(match av cf h a with|(none,c)=>(An4.no 1,c)|(some q,c)=>(⟨0,q,0,[]⟩,c):An4×Hs)=(an,c)) (z) {R:List Oc->Prop} (n:∀ b,Rq c f.length b->R b):Mg f R z a an.code an.addr:=by
 have k:=(i.malloc d a).1;cases e:av cf h a with
 | mk o u =>
  rw [e] at g k;obtain⟨r,s⟩:=j.mal i e k;cases o with
  | none =>
   injection g with l m;subst l m;exact⟨λe=>absurd e ar,λ_=>⟨rfl,n _ ⟨r rfl,Z⟩⟩⟩
  | some b =>
   injection g with l m;subst l m;obtain⟨v,t,p⟩:=s b rfl;exact⟨λ_=>⟨Z,((p z).fit k _ (List.mem_append_right _ (List.mem_singleton.2 rfl))).1,t,λgb gk=>n _ ⟨by rw [Hr];exact p z,bH⟩⟩,λe=>absurd rfl e⟩
theorem wV {a:List Oc} {k:Nat} {o:it} (h:(a.map Oc.o)[k]?=some o):∃ x,a[k]?=some x/\x.o=o:=by
 rw [Gv] at h;cases e:a[k]? with
 | none=>rw [e] at h;cases h
 | some x=>rw [e] at h;injection h with h;exact⟨x,rfl,h⟩
theorem uc {a:List Oc} {k:Nat} {x:Oc} (h:a[k]?=some x):(a.map Oc.o)[k]?=some x.o:=by rw [Gv,h];rfl
theorem jN {a:List Oc} {x:Oc} (h:x∈a):x.o∈a.map Oc.o:=FQ.2 ⟨x,h,rfl⟩
theorem sH (a:List Oc) (k:Nat):(a.take k++a.drop (k+1)).map Oc.o=(a.map Oc.o).take k++(a.map Oc.o).drop (k+1):=by rw [Hr,List.map_take,List.map_drop]
theorem xe {m} : (4096<n->ci m p (n:Int)=6)/\(n=0->ci m p (n:Int)=0)/\(ci m p (n:Int)=0->n<=4096/\(n=0\/p+n<=4611686018427387904)):=by
 unfold ci;refine⟨λh=>GP Z,λh=>by rw [GO Z,GP Z],λh=>?_⟩;split at h;·cases h
 split at h;·omega
 split at h;·cases h
 omega
theorem JQ.spl {g:List Oc} {zs} (j:JQ h (g.map Oc.o)) (p) (i:List Int) (s:En p i.length g.length g zs):JQ { h with m:=ay h.m p i i.length } (zs.map Oc.o):=by
 have l:∀ y∈zs.map Oc.o,∃ x∈g,∃ b,y=(wk x b).o/\Fk p i.length x.o.bytes.length x b:=λy q=>by
  obtain⟨z,e,rfl⟩:=FQ.1 q;obtain⟨t,k⟩:=List.mem_iff_getElem?.1 e;have d:t<g.length:=by rw [<-s.1];exact (Fz.1 k).1
  obtain⟨b,c,_,r⟩:=s.2 t _ (Fy d);rw [k] at c;injection c with c;exact⟨_,Iw d,b,by rw [c],r d⟩
 refine⟨λy q=>?_,λa n z=>?_,?_,λy q t k=>?_⟩;·obtain⟨x,d,b,rfl,f⟩:=l y q;exact⟨(j.sz _ (jN d)).1,f.1.trans (j.sz _ (jN d)).2⟩
 ·obtain⟨o,u,e⟩:=j.all a n z;obtain⟨t,k⟩:=List.mem_iff_getElem?.1 u;obtain⟨x,d,rfl⟩:=wV k;obtain⟨b,c,_⟩:=s.2 t x d;exact⟨_,jN (FM c),e⟩
 ·have e:(zs.map Oc.o).map it.base=(g.map Oc.o).map it.base:=by
   apply Ho;intro t;simp only [Gv];cases d:g[t]? with
   | none =>
    have:=List.getElem?_eq_none_iff.1 d;rw [FJ (by rw [s.1];exact this)]
   | some x =>
    obtain⟨b,c,_⟩:=s.2 t x d;rw [c];rfl
  rw [e];exact j.ndq9
 obtain⟨x,d,b,rfl,f⟩:=l y q;obtain⟨c,u⟩:=f.2 t k;have r:=u (j.known (jN d) c);show bO (ay h.m p i i.length) (x.o.base+t)=_;rw [h_ _ _ _ _ _ Z];exact j.bt _ (jN d) t c
theorem D6 {G:List Oc} (i:Inv cf h) (O:1<=cf.fifo) {kk} (w:Few kk h) (j:JQ h (G.map Oc.o)) (hk:0<=o.kd/\o.kd<=6) (ha:o.a<18446744073709551616) {a:An4} {S:Hs} (f:dv cf h o p=(a,S)) {R:List Oc->Prop} (L:∀ P,Rq S G.length P->R P):Jh G p R o.ys a.data o.kd o.a o.b a.code a.addr (a.size:Nat):=by
 obtain⟨Q,rf,pp,X,ob,Y⟩:=o;unfold dv at f;dsimp only at f hk ha ⊢;have T:=bT h p;have g:S=h->R G:=λe=>L _ ⟨by rw [e];exact j,Z⟩
 have no:∀ {b:Int},aB h p=.no b->∀ x∈G,x.o.base≠p:=λe x d=>j.no i e _ (jN d)
 have A:(∀ b,aB h p≠.no b)->¬∀ x∈G,x.o.base≠p:=λK B=>by
  obtain⟨k,o,u,F⟩:=j.has i T K;obtain⟨x,M,rfl⟩:=wV u;exact B x (FM M) F
 have fr:S=db cf h (aB h p)->(∀ b,aB h p≠.no b)->∀ (k:Nat) (x:Oc),G[k]?=some x->x.o.base=p->R (G.take k++G.drop (k+1)):=λe K k x d y=>L _ ⟨by rw [sH,e];exact j.free i O T K (uc d) y,by rw [FC,Hm,List.length_drop];omega⟩
 have sl:∀ {n:Nat},Sz h p n->∀ {k:Nat} {x:Oc},G[k]?=some x->x.o.base=p->x.o.bytes.length=n:=λz k x d y=>Sz.one i (y▸(j.sz _ (jN (FM d))).1) z
 have cov:∀ {n:Nat} {x:Oc},x∈G->tW x.o p n->0<n->n<=4096->ci h.m p (n:Int)=0/\x.o.base+(p-x.o.base)=p:=λ{n x} d v u F=>by
  have V:=j.cov i (jN d) v.2 u F;have W:x.o.base+(p-x.o.base)=p:=by have:=v.1;omega
  rw [W] at V;exact⟨V,W⟩
 rcases (show Q=0\/Q=1\/Q=2\/Q=3\/Q=4\/Q=5\/Q=6 by omega) with rfl|rfl|rfl|rfl|rfl|rfl|rfl;·exact .giv _ _ (.inl ⟨rfl,rfl,rfl⟩) ha (vI i w j f false L)
 ·rw [GO ar,GP rfl] at f;by_cases d:18446744073709551616<=X*ob
  ·rw [GP d] at f;injection f with q l;subst q;exact .big rfl d rfl (g l.symm)
  rw [GO d] at f;exact .giv _ _ (.inr ⟨rfl,rfl,rfl⟩) Z (vI i w j f true L)
 ·rw [GO ar,GO ar,GP rfl] at f;by_cases s:p=0;·unfold a_ at f;rw [GP s] at f;have m:=vI i w j f false L;exact .rea rfl (λe=>⟨.inr (.inl (m.2 e).1),(m.2 e).2⟩) (λ_ _=>m) (λ_ e=>absurd s e)
  rcases j.realloc i O w s f with ⟨u,F,M⟩|⟨u,F,k,o,M,h4,h5,h6,N⟩;·exact .rea rfl (λ_=>⟨M.imp_left λB x d=>B _ (jN d),L _ ⟨F,Z⟩⟩) (λe=>absurd e u) (λe=>absurd e u)
  have i':Inv cf S:=by have:=(i.realloc O w p X).1;rw [f] at this;exact this
  obtain⟨x,d,rfl⟩:=wV M;refine .rea rfl (λe=>absurd u e) (λ_ e=>absurd e s) (λ_ _=>⟨Z,(N.fit i' _ (List.mem_append_right _ (List.mem_singleton.2 rfl))).1,⟨x,FM d,h4⟩,λk' x' r t=>?_⟩);obtain rfl:=ql j.ndq9 M (uc r) (h4.trans t.symm);rw [d] at r;injection r with r;subst r;refine⟨λe=>h5.resolve_left e,by rw [sH];exact h6,λgb gk=>L _ ⟨by rw [Hr,sH];exact N,?_⟩⟩;have:=(Fz.1 d).1;simp only [FC,Hm,List.length_drop,List.length_singleton];omega
 ·rw [GO ar,GO ar,GO ar,GP rfl] at f;generalize a0:aB h p=x at f T no A fr;cases T with
  | no b v =>
   injection f with q l;subst q;exact .fre rfl (λk x d y=>absurd y (no rfl x (FM d))) (λ_=>⟨v,g l.symm⟩)
  | slot c s jj v N hj a4 hl =>
   have K:∀ b,Fd.slot c s jj≠.no b:=λb e=>by cases e
   dsimp only at f;split at f
   ·injection f with q l;subst q;exact .fre rfl (λ_ _ _ _=>.inr ⟨rfl,g l.symm⟩) (λB=>absurd B (A K))
   injection f with q l;subst q;exact .fre rfl (λk x d y=>.inl ⟨rfl,fr l.symm K k x d y⟩) (λB=>absurd B (A K))
  | range r hr y N =>
   have K:∀ b,Fd.range r≠.no b:=λb e=>by cases e
   injection f with q l;subst q;exact .fre rfl (λk x d y=>.inl ⟨rfl,fr l.symm K k x d y⟩) (λB=>absurd B (A K))
 ·rw [GO ar,GO ar,GO ar,GO ar,GP rfl] at f;generalize a0:aB h p=x at f T no A;cases T with
  | no b v =>
   injection f with q l;subst q;exact .usa rfl (λk x d y=>absurd y (no rfl x (FM d))) (λ_=>v) (g l.symm)
  | slot c s jj v N hj a4 hl =>
   have t:=(i.req c s jj v N hj).1 hl;injection f with q l;subst q;exact .usa rfl (λk x d y=>⟨rfl,by rw [sl (n:=(h.rq c s jj).toNat) (.inl ⟨c,s,jj,v,N,hj,a4,hl,Z⟩) d y];show _<=((eV c:Nat):Int);omega⟩) (λB=>absurd B (A λb e=>by cases e)) (g l.symm)
  | range r hr y N =>
   have t:=i.rgs r hr;have hz:=gE r.rq.toNat;injection f with q l;subst q;exact .usa rfl (λk x d t=>⟨rfl,by rw [sl (n:=r.rq.toNat) (.inr ⟨r,hr,y,N,Z⟩) d t];show _<=((r.pages*1024:Nat):Int);omega⟩) (λB=>absurd B (A λb e=>by cases e)) (g l.symm)
 ·rw [GO ar,GO ar,GO ar,GO ar,GO ar,GP rfl] at f;by_cases d:4096<X
  ·rw [GP d] at f;injection f with q l;subst q;exact .acc X (.inl rfl) (λ_=>rfl) ⟨λ_=>rfl,λ_=>Z,λ_ _ _ _ _=>Z,.inl ⟨rfl,g l.symm,λ_ _ _ _ _=>Z⟩⟩
  rw [GO d] at f;injection f with q l;subst q;refine .acc X (.inl rfl) (λ_=>rfl) ⟨λB=>absurd B d,xe.2.1,λx d v u F=>(cov d v u F).1,.inl ⟨rfl,g l.symm,λx d v u F=>?_⟩⟩;obtain⟨V,W⟩:=cov d v u F;dsimp only;rw [GP V];refine⟨by simp [aH],λt ht hk=>?_⟩;have:=j.read (jN d) ht hk;rw [W] at this;exact this
 rw [GO ar,GO ar,GO ar,GO ar,GO ar,GO ar,GP rfl] at f;injection f with q l;subst q;obtain⟨a1,a2,a3⟩:=xe (m:=h.m) (p:=p) (n:=Y.length);refine .acc Y.length (.inr rfl) (λh=>absurd h ar) ⟨a1,a2,λx d v u F=>(cov d v u F).1,.inr ⟨rfl,rfl,λe=>(a3 e).2,λP N=>?_⟩⟩;have t:ci h.m p (Y.length:Int)≠0->S=h:=λe=>by rw [<-l,GO e]
 rcases N with ⟨u,rfl⟩|⟨u,F,k,x,d,v,rfl⟩|⟨M,s⟩;·exact g (t (u.elim (λu=>by rw [a1 u];decide) id))
 ·obtain⟨V,W⟩:=cov (FM d) v u F;have:=j.put i (uc d) v.2;rw [W] at this;refine L _ ⟨?_,by rw [Gj];omega⟩;rw [<-l,GP V,List.map_set];exact this
 have h4:ci h.m p (Y.length:Int)=0:=M;refine L _ ⟨?_,by rw [s.1];omega⟩;rw [<-l,GP h4];exact j.spl p Y s
theorem Qm.more2 {l g:List Oc} (q:Qm B A cap l W) (b:D W W') (i:g.Sublist l) {x:Oc} (j:RowV W' x.gb 5 (Ns .u8 x.o.bytes)) (k:RowV W' x.gk 4 (x.o.known.map Value.bool)) (nb:W.heap.size<=x.gb) (d:W.heap.size<=x.gk) {o:Option Addr} (m:W'.ownsRow W.heap.size 85 3 (.slice o (g.length+1) c') (g.length+1) (de (g++[x]))):Qm B o c' (g++[x]) W':=by
 have n:=q.low b;have e:∀ (f:Oc->Nat),(∀ y∈g,f y<W.heap.size)->W.heap.size<=f x->(l.map f).Nodup->((g++[x]).map f).Nodup:=λf p t r=>by
  rw [Hr];refine List.nodup_append.2 ⟨r.sublist (i.map f),bH,λa ha b s=>?_⟩;obtain⟨y,c,rfl⟩:=FQ.1 ha;have:=p y c;simp at s;omega
 refine⟨n.bs,?_,λy c=>?_,λy c=>?_,e Oc.gb (λy c=>(q.rbq9 y (i.subset c)).1.lt) nb q.nb,e Oc.gk (λy c=>(q.rkq9 y (i.subset c)).1.lt) d q.nkq9⟩;·rw [FC];exact gz q.bs m
 ·rcases F8.1 c with c|c;·exact n.rbq9 y (i.subset c)
  obtain rfl:=List.mem_singleton.1 c;exact⟨j,Fx q.bs nb⟩
 rcases F8.1 c with c|c;·exact n.rkq9 y (i.subset c)
 obtain rfl:=List.mem_singleton.1 c;exact⟨k,Fx q.bs d⟩
theorem xO {o:it} {b a:Nat} (h:o.bytes.length=a/\o.known.length=a):pV ⟨gJ o b n,gb,gk⟩=[U b,Vl gb n n,Vl gk n n]:=by
 have c:(gJ o b n).bytes.length=n:=by unfold gJ;simp;omega
 have d:(gJ o b n).known.length=n:=by unfold gJ;simp;omega
 unfold pV;dsimp only;rw [c,d];rfl
structure Rj (w:World) (x:Oc) (b n gb gk F:Nat) (W:World):Prop where
 bel:D w W
 rbq9:RowV W gb 5 (Ns .u8 (gJ x.o b n).bytes)
 rkq9:RowV W gk 4 ((gJ x.o b n).known.map Value.bool)
 nb:w.heap.size<=gb
 nkq9:w.heap.size<=gk
 bx:W.heap[F]?=some (.cells #[U b,Vl gb n n,Vl gk n n] 85)
theorem yk (W B A cap xs) (q9:Qm B A cap xs W) (hl:xs.length<=1000) (o:∀ x∈xs,x.o.base<=300000/\x.o.bytes.length<=300000/\x.o.known.length=x.o.bytes.length) (p:Nat) (hp:p<18446744073709551616) (R) (ys zs:List Int) (kd rf op) (l ob:Nat) (adq9 cdq9 sz) (ha:l<18446744073709551616) (O:ob<18446744073709551616) (d:Option Addr) (dc:Nat) (e:Option Addr) (ec:Nat) (N:∀ W',Below B W W'->Rd1 .u8 W' (.slice d ys.length dc) ys) (T:∀ W',Below B W W'->Rd1 .u8 W' (.slice e zs.length ec) zs) (b:Jh xs p R ys zs kd l ob cdq9 adq9 sz) :
  Calls prog 7 #[.slice A xs.length cap,.agg #[I kd,I rf,U op,U l,U ob,.slice d ys.length dc],U p,.agg #[I cdq9,U adq9,I sz,.slice e zs.length ec]] W (JgP B W R):=by
 obtain⟨m,t⟩:∃ m,xs.length=m:=⟨_,rfl⟩;obtain⟨c3,f⟩:∃ c3,ys.length=c3:=⟨_,rfl⟩;obtain⟨c4,k⟩:∃ c4,zs.length=c4:=⟨_,rfl⟩;obtain⟨q,r⟩:∃ q,(W.alloc (.cells #[I kd,I rf,U op,U l,U ob,.slice d ys.length dc] 42)).alloc (.cells #[I cdq9,U adq9,I sz,.slice e zs.length ec] 44)=q:=⟨_,rfl⟩;obtain⟨v,y,z⟩:=Bt _ _ _ _ _ r;rw [f] at y r;rw [k] at z r;have Q:=H t;have HL:=H (IT f k);have HF:=H o;have d0:=H (λx w=>IT (o x w).1 (o x w).2.1);have K:=H y;have M:=H z;have s:=H (q9.low v);have X:=H (Kp9.of v q9.bs);have G:=H (IT N T);have HJ:=H b;have L:=H (A5 q A cap xs p s.rw hl);have a9:=H hl;rw [t] at hl L ⊢;rw [f,k];clear q9 o v y z N T t f k b;go_enter func7,ntmps7;go_upto_region 1 with fail
 clear r;generalize W.heap.size+1=P7 at M ⊢;generalize W.heap.size=P5 at K ⊢;go_wp2_with fail;refine L.mono ?_;clear L;rintro e9 V ⟨f,b⟩;have BV:=H (X.tr (Kp9.of b s.bs));have L:=H (s.low b);have NV:=H (IU b K);have NW:=H (IU b M);clear X s K M b q;obtain⟨kk,rfl⟩:∃ kk:Int,e9=.returned (I kk):=by rcases f with ⟨k,x,_,_,rfl⟩|⟨_,rfl⟩ <;> exact ⟨_,rfl⟩
 have q:=H (show (∃ (k:Nat) (x:Oc),xs[k]?=some x/\x.o.base=p/\kk=(k:Nat))\/((∀ x∈xs,x.o.base≠p)/\kk = -1) from by
  rcases f with ⟨k,x,M,T,h3⟩|⟨M,h3⟩ <;> (injection h3 with h3;injection h3 with _ h3;subst h3)
  ·exact .inl ⟨k,x,M,T,rfl⟩
  exact .inr ⟨M,rfl⟩)
 have k0:=pL NV 0 rfl;have k3:=pL NV 3 rfl;have k4:=pL NV 4 rfl;have a0:=pL NW 0 rfl;have a1:=pL NW 1 rfl;clear f;have s:=H (λf (h:D V f) (n:Nat) (M:n<=1000000) (T:adq9<=300000) (h3:tR (xs.map Oc.o) adq9 n)=>tj f A cap xs adq9 n (L.low h).rw a9 T M h3 d0);have t:=H (λf (h:D V f) (n:Nat) (z:Bool) (M:n<=1000000)=>C6 f B A cap xs (L.low h) adq9 n M z a9);rw [Q.out] at s t;cases HJ.out with
 | giv n z hk hn b =>
  have o:=H b;clear b HJ q G;rcases hk with ⟨rfl,rfl,rfl⟩|⟨rfl,b,rfl⟩
  case' inr =>
   have PR:=H (show Calls prog 20 #[U l,U ob] V λe w'=>e=.returned (.tuple #[U n,.bool true])/\w'=V from by
    rw [b];rcases Nat.eq_zero_or_pos l with rfl|X;·rw [Nat.zero_mul];exact product.sp_Product_zero ob O V
    exact product.sp_Product_yes l ob X ha O Z V)
   clear b;go_wp2_with fail;refine PR.mono ?_;clear PR;rintro e8 V2 ⟨rfl,X⟩;rw [X];clear X V2
  all_goals
   by_cases Y:cdq9=0
   ·obtain⟨a3,a8,b5,b6⟩:=o.1 Y;subst Y;have c7:=H b6;have w5:IntKind.i64.wrap (n:Int)=(n:Int):=(by rw [Hh];omega);have d1:n<=1048576:=Z;have CL:=H (s V (Fu _ _) n a3 a8 b5);clear b6 b5 o;go_wp2_with fail;refine CL.mono ?_;clear CL;rintro e8 V2 ⟨rfl,b2⟩;have B2:=H b2;clear k0 k3 k4 a0 a1 b2;have k0:=pL (IU B2 NV) 0 rfl;have a1:=pL (IU B2 NW) 1 rfl;go_wp2_with fail;refine (t V2 B2 n _ a3).mono ?_;rintro e7 v ⟨A',c',gb,gk,rfl,r,b3⟩;have Q3:=H r;have B3:=H (BV.tr (Kp9.of (az B2 b3) L.bs));clear r b3;go_wp2;refine GX (b_ rfl _ _) rfl ?_;exact JgP.mk0 (by rw [FC,Q.out];rfl) B3 Q3 (Fu _ _) (c7 gb gk)
   have dc:(cdq9==0)=false:=by simp [Y]
   obtain⟨rfl,K⟩:=o.2 Y
   have HR:=H K
   clear K o s t
   go_wp2_with fail
   go_quiet (fail)
   go_wp2
   refine GX (b_ rfl _ _) rfl ?_
   exact JgP.mk0 Q BV L (ER _ _) HR.out
 | big hk b hc K =>
  subst hk hc;have HR:=H K;have PR:=H (product.sp_Product_no l ob ha O b V);clear K HJ q G s t;go_wp2_with fail;refine PR.mono ?_;rintro e8 V2 ⟨rfl,rfl⟩;go_wp2_with fail;go_quiet (fail);go_wp2;refine GX (b_ rfl _ _) rfl ?_;exact JgP.mk0 Q BV L (ER _ _) HR.out
 | rea hk M T h3 =>
  subst hk;clear HJ G;by_cases Y:cdq9=0
  ·subst Y;by_cases iF:p=0
   ·obtain⟨a3,a8,b5,b6⟩:=(T rfl iF).1 rfl;subst iF;have c7:=H b6;have w5:IntKind.i64.wrap (l:Int)=(l:Int):=(by rw [Hh];omega);have d1:l<=1048576:=Z;have CL:=H (λf h=>s.out f h l a3 a8 b5);have GV:=H (λf h=>t.out f h l false a3);clear b6 b5 M T h3 q s t;go_wp2_with fail;refine rh (S:=λW9=>D V W9) ?_;have b:=(show D V V.drew from (Fu V.heap.size V).drew);refine pk 0 (.slice A m cap) b ?_
    (try simp only [lz,l0,ls]);refine pk 1 (J P7 1) b ?_
    (try simp only [lz,l0,ls]);refine pf 2 (U adq9) rfl b (λW h=>by have q9:=ad h a1;go_simp) ?_
    (try simp only [lz,l0,ls]);refine pk 3 (J P5 3) b ?_
    (try simp only [lz,l0,ls]);refine pf 4 (U l) rfl b (λW h=>by have q9:=ad h k3;go_simp) ?_
    (try simp only [lz,l0,ls]);refine pz 5 (I l) b ?_
    (try simp only [lz,l0,ls]);refine pk 7 (.slice A m cap) b ?_
    (try simp only [lz,l0,ls]);refine pk 8 (J P7 1) b ?_
    (try simp only [lz,l0,ls]);refine pf 9 (U adq9) rfl b (λW h=>by have q9:=ad h a1;go_simp) ?_
    (try simp only [lz,l0,ls]);refine pk 10 (J P5 3) b ?_
    (try simp only [lz,l0,ls]);refine pf 11 (U l) rfl b (λW h=>by have q9:=ad h k3;go_simp) ?_
    (try simp only [lz,l0,ls]);refine pz 12 (I l) b ?_
    (try simp only [lz,l0,ls]);generalize a4:V.drew=y at b ⊢;have v:({ heap:=V.heap,tape:=V.tape,drawn:=V.drawn+1,os:=V.os,output:=V.output } : World)=y:=a4
    (try rw [v]);clear a4 v;refine po 6 λK' o=>?_;go_simp;refine (GV y b).mono ?_;rintro e8 W1 ⟨A',c',gb,gk,rfl,q1,b1⟩;have N:=az b b1;refine o _ _ ⟨N,?_⟩;clear o K'
    (try simp only [lz,l0,ls]);refine po 13 λK' o=>?_;go_simp;refine (CL W1 N).mono ?_;rintro e7 W2 ⟨rfl,b2⟩;have r:=az N b2;refine o _ _ ⟨r,?_⟩;clear o K'
    (try simp only [lz,l0,ls]);refine pk 14 (.slice A' (m+1) c') r ?_
    (try simp only [lz,l0,ls]);refine pk 15 (.bool true) r ?_
    (try simp only [lz,l0,ls]);refine bY ?_;have Q3:=H (q1.low b2);have B3:=H (BV.tr (Kp9.of r L.bs));clear q1 b N r b1 b2 CL GV;go_wp2;refine GX (b_ rfl _ _) rfl ?_;exact JgP.mk0 (by rw [FC,Q.out];rfl) B3 Q3 (Fu _ _) (c7 gb gk)
   obtain⟨a3,a8,b8,a6⟩:=h3 rfl iF;obtain⟨k,x,w,O,rfl⟩:∃ (k:Nat) (x:Oc),xs[k]?=some x/\x.o.base=p/\kk=(k:Nat):=by
    rcases q.out with h|⟨a5,_⟩;·exact h
    obtain⟨x,w,O⟩:=b8;exact absurd O (a5 x w)
   have w5:IntKind.i64.wrap (l:Int)=(l:Int):=(by rw [Hh];omega);have d1:l<=1048576:=Z;have HC:=H (a6 k x w O);obtain⟨f1,f2,f3⟩:=HF.out x (FM w);have a7:k<xs.length:=(Fz.1 w).1;have b7:k<m:=(by rw [<-Q.out];exact a7);have LN:=H (show (xs.take k++xs.drop (k+1)).length=m-1 from by rw [FC,Hm,List.length_drop,<-Q.out];omega);have d3:=H (show (xs.take k++xs.drop (k+1)).Sublist xs from by
    have:=List.Sublist.append (List.Sublist.refl (xs.take k)) (List.drop_sublist_drop_left xs (Nat.le_succ k));rw [List.take_append_drop] at this;exact this)
   have dk:decide ((k:Int)<0)=false:=GR Z;have dp:((p:Int)==0)=false:=bG;have r:=(L.rbq9 x (FM w)).1;have N:=(L.rkq9 x (FM w)).1;obtain⟨g,b9,xb,c5,lb,rfl,X,rg⟩:=L.obj w f3;rw [X.2.1] at r;rw [X.2.2.1] at N;rw [X.2.2.2.1] at f2;have H9:=H X;have RG:=H rg;have e0:=H a7;have CC:=H (λf (h:D V f)=>tJ f x b9 xb c5 lb H9.2.2.2 (r.below h r.lt) (N.below h N.lt) adq9 l a3 f2);clear b8 a6 M T h3 rg r N w O f3 a7 X q t;(go_upto_region 23 with fail);go_cut [13,116,117,118,119,120,121,122,123,124,125] (λp _ _ _ _ _ _ _ _ _ _ w'=>∃ gb gk F,p=J F 0/\Hid (Rj V x adq9 l gb gk F w'));case first =>
    refine rh (S:=λW9=>D V W9) ?_;have b:=(show D V V.drew from (Fu V.heap.size V).drew);refine pk 0 (Vl g m cap) b ?_
    (try simp only [lz,l0,ls]);refine pk 1 (I k) b ?_
    (try simp only [lz,l0,ls]);refine pz 2 (J g (k*3)) b ?_
    (try simp only [lz,l0,ls]);refine pf 3 (.agg #[U b9,Vl xb lb lb,Vl c5 lb lb]) rfl b (λW h=>Cp 85 _ rfl g (k*3) rfl (run_loadVar_mid (P:=prog) W g (k*3) 85 _ _ (λi u hu=>ad h (RG i u hu)) underlying85 rfl E)) ?_
    (try simp only [lz,l0,ls]);refine pk 4 (J P7 1) b ?_
    (try simp only [lz,l0,ls]);refine pf 5 (U adq9) rfl b (λW h=>by have q9:=ad h a1;go_simp) ?_
    (try simp only [lz,l0,ls]);refine pk 6 (J P5 3) b ?_
    (try simp only [lz,l0,ls]);refine pf 7 (U l) rfl b (λW h=>by have q9:=ad h k3;go_simp) ?_
    (try simp only [lz,l0,ls]);refine pz 8 (I l) b ?_
    (try simp only [lz,l0,ls]);generalize a4:V.drew=y at b ⊢;have v:({ heap:=V.heap,tape:=V.tape,drawn:=V.drawn+1,os:=V.os,output:=V.output } : World)=y:=a4
    (try rw [v]);clear a4 v;refine wpAnyH_ready (rs:=[9,10]) E bH ?_;refine AllReadyH.cons rfl (λK' o=>?_) (AllReadyH.cons rfl (λK' o=>?_) AllReadyH.nil)
    ·rw [GP E];go_simp;refine (CC y b).mono ?_;rintro e8 W1 ⟨gb,gk,rfl,z⟩;have b1:=az b z.bel;obtain⟨nb,r⟩:=uy W1 #[U 0,C,C] #[U adq9,Vl gb l l,Vl gk l l] 85;refine o _ _ b1 (λ_=>?_);clear o K'
     (try simp only [lz,l0,ls]);refine po 10 λK' o=>?_;go_simp;refine o _ _ ⟨az b1 ((Fu W1.heap.size W1).alloc (Fv _) _),?_⟩;clear o K'
     (try simp only [lz,l0,ls]);refine po 11 λK' o=>?_;refine Ih 85 _ _ rfl _ _ rfl rfl 85 _ (ao W1 _) E rfl mL ?_;refine o _ _ ⟨az b1 r,?_⟩;clear o K'
     (try simp only [lz,l0,ls]);refine bY ?_;go_wp2;go_meet;case rel=>exact ⟨gb,gk,_,rfl,H ⟨az b1 r,z.rbq9.below r z.rbq9.lt,z.rkq9.below r z.rkq9.lt,Fx b.size z.nb,Fx b.size z.nkq9,nb⟩⟩
    have bA:=az b ((Fu y.heap.size y).alloc (Fv _) (.cells #[U 0,C,C] 85));have N:=ao y (.cells #[U 0,C,C] 85);rw [GP E];go_simp;refine o _ _ bA (λ_=>?_);clear o K'
    (try simp only [lz,l0,ls]);refine po 9 λK' o=>?_;go_simp;refine (CC _ bA).mono ?_;rintro e8 W1 ⟨gb,gk,rfl,z⟩;have x1:=IU z.bel N;have b3:=az bA z.bel;refine o _ _ ⟨b3,?_⟩;clear o K'
    (try simp only [lz,l0,ls]);refine po 11 λK' o=>?_;refine Ih 85 _ _ rfl _ _ rfl rfl 85 _ x1 E rfl mL ?_;have b4:D V (W1.setRow y.heap.size #[U adq9,Vl gb l l,Vl gk l l]):=b3.grown (aj _ _ _) b3.size (λr e=>by cases e;exact b.size);refine o _ _ ⟨b4,?_⟩;clear o K'
    (try simp only [lz,l0,ls]);refine bY ?_;have l1:=ag N;have l2:=z.nb;have l3:=z.nkq9;have l4:=b.size;have RJ:=H (show Rj V x adq9 l gb gk y.heap.size (W1.setRow y.heap.size #[U adq9,Vl gb l l,Vl gk l l]) from ⟨b4,z.rbq9.grown (aj W1 y.heap.size _) Z,z.rkq9.grown (aj W1 y.heap.size _) Z,Z,Z,aw x1 _⟩);clear l1 l2 l3 l4;go_wp2;go_meet;case rel=>exact ⟨gb,gk,_,rfl,RJ⟩
   obtain⟨gb,gk,F,rfl,RJ⟩:=hcut;have d4:=ad RJ.bel a1;have d5:=ad RJ.bel k3;have d6:=H (show ∃ f,f=wc from ⟨_,rfl⟩);by_cases d7:adq9=p
   case' pos =>
    subst d7;obtain⟨f,N⟩:=d6.out;have BW:=H (show D wc f from by rw [N];exact Fu _ _);rw [<-N] at d4 d5 ⊢;clear N
   case' neg =>
    have N:((adq9:Int)==(p:Int))=false:=bG;have CL:=H (s wc RJ.bel l a3 a8 (HC.1 d7));go_wp2_with fail;refine CL.mono ?_;clear CL N d4 d5;rintro e5 f ⟨rfl,N⟩;have BW:=H N;clear N
   all_goals
    have BU:=H (az RJ.bel BW)
    have e1:=H (IU BW RJ.bx)
    have d8:=ad BU k3
    have d9:=ad BU a1
    have WO:=H (qG f B (some ⟨g,0,none⟩) cap xs (L.low BU) k e0 a9)
    rw [Q.out] at WO
    clear k0 a0
    go_wp2_with fail
    refine WO.mono ?_
    clear WO
    rintro e8 W6 ⟨A',c',rfl,q2,b2,N⟩
    have OW:=H N
    clear q2 N
    go_wp2_with fail
    refine wp_region_held (S:=λW9=>D f W9) E ?_
    simp only [FX,FN,F1,Nat.reduceAdd,FP,FO,FY,FV,F5]
    have b:=(show D f W6.drew from b2.drew)
    refine pk 0 (.slice A' (m-1) c') b ?_
    try simp only [lz,l0,ls]
    refine pf 1 (.agg #[U adq9,Vl gb l l,Vl gk l l]) rfl b (λW h=>zR 85 _ rfl F rfl (run_loadVar_row _ F 85 85 _ (0,0) _ (IU h e1) underlying85 rfl E)) ?_
    try simp only [lz,l0,ls]
    refine pk 4 (.slice A' (m-1) c') b ?_
    try simp only [lz,l0,ls]
    refine pk 5 (J P7 1) b ?_
    try simp only [lz,l0,ls]
    refine pf 6 (U adq9) rfl b (λW h=>by have q9:=ad h d9;go_simp) ?_
    try simp only [lz,l0,ls]
    refine pk 7 (J P5 3) b ?_
    try simp only [lz,l0,ls]
    refine pf 8 (U l) rfl b (λW h=>by have q9:=ad h d8;go_simp) ?_
    try simp only [lz,l0,ls]
    refine pz 9 (I l) b ?_
    try simp only [lz,l0,ls]
    have b8:W6.drew.ownsRow f.heap.size 85 3 (.slice A' (m-1) c') (m-1) (de (xs.take k++xs.drop (k+1))):=OW.out
    generalize a4:W6.drew=y at b b8 ⊢
    have v:({ heap:=W6.heap,tape:=W6.tape,drawn:=W6.drawn+1,os:=W6.os,output:=W6.output } : World)=y:=a4
    try rw [v]
    clear a4 v
    have b4:=(Fu y.heap.size y).alloc (Fv _) (.cells #[U adq9,Vl gb l l,Vl gk l l] 85)
    have x4:=ao y (.cells #[U adq9,Vl gb l l,Vl gk l l] 85)
    refine po 2 λK' o=>?_
    go_simp
    refine o _ _ ⟨az b b4,?_⟩
    clear o K'
    try simp only [lz,l0,ls]
    have a7:(y.alloc (.cells #[U adq9,Vl gb l l,Vl gk l l] 85)).ownsRow f.heap.size 85 3 (.slice A' (xs.take k++xs.drop (k+1)).length c') (xs.take k++xs.drop (k+1)).length (de (xs.take k++xs.drop (k+1))):=by rw [LN.out];exact ax b8 b4
    have c8:∀ j u,(de [(⟨gJ x.o adq9 l,gb,gk⟩:Oc)])[j]?=some u->(y.alloc (.cells #[U adq9,Vl gb l l,Vl gk l l] 85)).cell? ⟨y.heap.size,0+j,none⟩=some u:=λj u hu=>by
     rw [Gb,GT _ _ _ _ _ _ x4,<-hu];unfold de;rw [If,List.flatMap_nil,Gl,xO H9.2.2.2];simp
    obtain⟨v2,d2,w8,N,c0,g2⟩:=p9 a7 (zs:=[⟨gJ x.o adq9 l,gb,gk⟩]) (a:=some ⟨y.heap.size,0,none⟩) (c:=1) (.inr ⟨_,0,rfl,c8⟩) (by rw [LN.out];simp;omega) (az b b4).size
    have c6:=wx a7 c8 (by rw [LN.out];omega) N c0
    have c9:=(az b b4).grown g2 (az b b4).size (λr K=>(aF a7 K).1)
    have CL:=tj w8 A' c' (xs.take k++xs.drop (k+1)) adq9 l c6 (by rw [LN.out];omega) a8 Z HC.2.1 (λy f=>d0.out y (d3.subset f))
    rw [LN.out] at N CL
    refine po 3 λK' o=>?_
    refine aV 40 (.tmp 144) (.tmp 146) E E E E N ?_
    refine o _ _ ⟨c9,?_⟩
    clear o K'
    try simp only [lz,l0,ls]
    refine po 10 λK' o=>?_
    go_simp
    refine CL.mono ?_
    rintro e7 W9 ⟨rfl,b9⟩
    have a6:=az c9 b9
    refine o _ _ ⟨a6,?_⟩
    clear o K'
    try simp only [lz,l0,ls]
    refine pk 11 (.slice v2 (m-1+1) d2) a6 ?_
    try simp only [lz,l0,ls]
    refine pk 12 (.bool true) a6 ?_
    try simp only [lz,l0,ls]
    refine bY ?_
    have c2:=az BU a6
    have QF:=H (L.more2 c2 d3 (x:=⟨gJ x.o adq9 l,gb,gk⟩) (RJ.rbq9.below (az BW a6) RJ.rbq9.lt) (RJ.rkq9.below (az BW a6) RJ.rkq9.lt) RJ.nb RJ.nkq9 (gz BU.size (ax c0 b9)))
    have B3:=H (BV.tr (Kp9.of c2 L.bs))
    clear b c9 a6 b8 a7 c0 N g2 c6 CL b4 x4 c8 b9 c2 b2 d8 d9
    go_wp2
    refine GX (b_ rfl _ _) rfl ?_
    exact JgP.mk0 (by rw [FC,LN.out];rfl) B3 QF (Fu _ _) (HC.2.2 gb gk)
  have dc:(cdq9==0)=false:=by simp [Y]
  obtain⟨hc,K⟩:=M Y;have HR:=H K;clear s t T h3 M K;rcases (show kk<0\/(¬kk<0/\cdq9=1)\/(¬kk<0/\cdq9=5) by
   rcases q.out with ⟨k,x,w,O,rfl⟩|⟨_,rfl⟩
   ·rcases hc with hc|hc|hc;·exact absurd O (hc x (FM w))
    ·exact .inr (.inl ⟨Z,hc⟩)
    exact .inr (.inr ⟨Z,hc⟩)
   exact .inl ar) with hv|⟨hv,rfl⟩|⟨hv,rfl⟩
  all_goals
   try have b:=GR hv
   clear hc
   go_wp2_with fail
   go_quiet (fail)
   go_wp2
   refine GX (b_ rfl _ _) rfl ?_
   exact JgP.mk0 Q BV L (ER _ _) HR.out
 | fre hk M T =>
  subst hk;rcases q.out with ⟨k,x,w,O,rfl⟩|⟨a5,rfl⟩
  ·have b7:k<xs.length:=(Fz.1 w).1;have dk:decide ((k:Int)<0)=false:=GR Z;rcases M k x w O with ⟨rfl,K⟩|⟨rfl,K⟩;·have WO:=H (qG V B A cap xs L k b7 a9);have HR:=H K;have LN:=H (show (xs.take k++xs.drop (k+1)).length=m-1 from by rw [FC,Hm,List.length_drop,<-Q.out];omega);rw [Q.out] at WO;clear K w O M T b7 HJ q G s t;go_wp2_with fail;refine WO.mono ?_;rintro e8 V2 ⟨A',c',rfl,q2,b2,_⟩;have o:=H q2;have B2:=H (BV.tr (Kp9.of b2 L.bs));clear q2 b2;go_wp2;refine GX (b_ rfl _ _) rfl ?_;exact JgP.mk0 LN B2 o (Fu _ _) HR.out
   have HR:=H K;clear K w O M T b7 HJ q G s t;go_wp2_with fail;go_quiet (fail);go_wp2;refine GX (b_ rfl _ _) rfl ?_;exact JgP.mk0 Q BV L (ER _ _) HR.out
  obtain⟨hc,K⟩:=T a5;have HR:=H K;clear K a5 M T HJ q G s t;rcases hc with rfl|rfl
  all_goals
   go_wp2_with fail
   go_quiet (fail)
   go_wp2
   refine GX (b_ rfl _ _) rfl ?_
   exact JgP.mk0 Q BV L (ER _ _) HR.out
 | usa hk M T K =>
  subst hk;have HR:=H K;rcases q.out with ⟨k,x,w,O,rfl⟩|⟨a5,rfl⟩
  ·have b7:k<m:=(by rw [<-Q.out];exact (Fz.1 w).1);have dk:decide ((k:Int)<0)=false:=GR Z;obtain⟨rfl,r⟩:=M k x w O;obtain⟨g,b,gb,gk,lb,rfl,X,rg⟩:=L.obj w (HF x (FM w)).2.2;have v:=pL NW 2 rfl;rw [X.2.2.2.1] at r;have y:=rg 1 _ rfl;clear rg K w O M T X HJ q G s t;go_wp2_with fail;go_quiet (fail);go_wp2;refine GX (b_ rfl _ _) rfl ?_;exact JgP.mk0 Q BV L (ER _ _) HR.out
  have hc:=T a5;clear K a5 M T HJ q G s t;rcases hc with rfl|rfl
  all_goals
   go_wp2_with fail
   go_quiet (fail)
   go_wp2
   refine GX (b_ rfl _ _) rfl ?_
   exact JgP.mk0 Q BV L (ER _ _) HR.out
 | acc n hk hn b =>
  have r:=wU V B A cap xs L a9 HF p hp R ys zs kd rf op (ob:Nat) l n cdq9 (adq9:Nat) sz ha d dc e ec (λW9 X=>G.1 W9 (io BV.1 X)) (λW9 X=>G.2 W9 (io BV.1 X)) hn b;rw [Q.out,HL.1,HL.2] at r;have v:=H r;clear r b hn HJ q G s t;rcases hk with rfl|rfl
  all_goals
   go_wp2_with (first|(refine Gt rfl 42 _ rfl _ rfl _ _ _ _ NV underlying42 rfl E ?_)|(refine Gt rfl 44 _ rfl _ rfl _ _ _ _ NW underlying44 rfl E ?_))
   refine v.mono ?_
   rintro e8 V2 ⟨A',c',r,rfl,b2,q2,b⟩
   have o:=H q2
   have B2:=H (BV.tr b2)
   have y:=H b
   clear q2 b2 b
   go_wp2
   refine GX (b_ rfl _ _) rfl ?_
   exact JgP.mk0 rfl B2 o (Fu _ _) y.out
def F9 (B:Bool) (an:List An4) (W:World) (e:Ending) (W':World):Prop:=∃ (i:Option Addr) (c':Nat) (v K u z A F j t:Value),e=.returned (.agg #[.bool B,.slice i an.length c',v,K,u,z,A,F,j,t])/\(#[.bool B,.slice i an.length c',v,K,u,z,A,F,j,t]:Array Value).all (·.oneCell')=true/\D W W'/\Anw i an W'/\an.length<=c'
def xA (F:FuncId):Prop:=∀ (c:Cd) (e:List df) (i:Bool) (cf:Cf) (h:Hs) (an:List An4),ED c (e.map df.o) i cf h an->∀ (da A:Option Addr) (W:World),Dr9 c da A e W->∀ (dc cap:Nat),Tb W->0<W.heap.size ->
 Calls prog F #[.agg #[I c.mi,I c.fi,I c.la,I c.bu,U c.ky,.slice da c.ds.length dc],.slice A e.length cap] W (F9 i an W)
theorem Eb {b:Option Addr} {d:Nat} (f:Ok4 B { c with da:=b,dc:=d } W) (os):∃ (cf:Cf) (a:Bool) (h:Hs) (an:List An4),ED c os a cf h an:=by
 by_cases a:jg c.mi c.fi c.la c.bu c.ds.length/\os.length<=300;·obtain⟨cf,e,g,i,j⟩:=Bn f a.1;refine⟨cf,true,_,_,.inl ⟨rfl,a.2,λk l=>?_,g,i,j,rfl⟩⟩;unfold pQ gZ at e ⊢;simp at e ⊢;obtain⟨m,n,o,p,q,r⟩:=e;exact⟨m,n,o,p,q,r⟩
 exact⟨⟨0,0,0,0,0,[]⟩,false,aP ⟨0,0,0,0,0,[]⟩,[],.inr ⟨rfl,a,rfl⟩⟩
def Tp (cf:Cf) (os:List fL) (k:Nat) (xs:List Oc):Prop:=JQ (bd cf (os.take k) (aP cf) []).1 (xs.map Oc.o)/\xs.length<=k
theorem yw {os} (u:ED c os true cf h an) {k:Nat} (m:os[k]?=some o) (ha:o.a<18446744073709551616) {xs} (t:Tp cf os k xs) :
  ∃ a,an[k]?=some a/\(∀ x∈xs,x.o.base<=300000/\x.o.bytes.length<=300000/\x.o.known.length=x.o.bytes.length) /\
   ((o.kd<0\/6<o.kd\/o.ref<0\/(k:Int)<o.ref)->a.code=6/\Tp cf os (k+1) xs) /\
   (¬(o.kd<0\/6<o.kd\/o.ref<0\/(k:Int)<o.ref)->Jh xs (m_ o (an.take k)) (Tp cf os (k+1)) o.ys a.data o.kd o.a o.b a.code a.addr (a.size:Nat)):=by
 rcases u with ⟨_,M,_,n,_,_,q⟩|⟨e,_⟩
 ·have v:=(Fz.1 m).1;have w:os.take (k+1)=os.take k++[o]:=by rw [F_,m];rfl
  have b:=jp cf n.fifo1 (os.take k) (aP cf) [] 0 (Inv.new cf) ⟨Fv _,Fv _,Fv _,Fv _⟩;have s:an.take k=(bd cf (os.take k) (aP cf) []).2:=by rw [<-rP cf os k Z,q]
  have y:=gF cf o (os.take k) (aP cf) [];have d:an.take (k+1)=(bd cf (os.take (k+1)) (aP cf) []).2:=by rw [<-rP cf os (k+1) Z,q]
  have i:(an.take k).length=k:=by rw [s,ft,Hm];simp;omega
  obtain⟨j,z⟩:=t;unfold Tp;rw [w,y] at *;rw [<-s] at *;generalize (bd cf (os.take k) (aP cf) []).1=f at *;cases l:bU cf f (an.take k) o with
  | mk a A =>
   rw [l] at d;dsimp only at d ⊢;refine⟨a,?_,λx B=>j.fit b.1 _ (jN B),λF=>?_,λF=>?_⟩;·rw [<-Hf (Nat.lt_succ_self k),d,Gn Z,i];simp
   ·have g:∀ p,dv cf f o p=(.no 6,f)\/¬(o.kd<0\/6<o.kd):=λp=>by
     by_cases G:o.kd<0\/6<o.kd;·refine .inl ?_;unfold dv;dsimp only;rw [GO Z,GO Z,GO Z,GO Z,GO Z,GO Z,GO Z]
     exact .inr G
    have r:bU cf f (an.take k) o=(.no 6,f):=by
     unfold bU;rw [i];split;·exact (g _).resolve_right Z
     split;·rfl
     exact (g _).resolve_right Z
    rw [l] at r;injection r with K L;subst K L;exact⟨rfl,j,Z⟩
   have g:dv cf f o (m_ o (an.take k))=(a,A):=by
    rw [<-l];by_cases r:o.ref=0;·rw [show m_ o (an.take k)=o.p from GO Z];unfold bU;rw [GP r]
    rw [show m_ o (an.take k)=_ from GP ⟨Z,by rw [i];omega⟩];unfold bU;rw [GO r,i,GO Z]
   exact D6 b.1 n.fifo1 b.2 j Z ha g λG r=>⟨r.1,by have:=r.2;omega⟩
 cases e
theorem Cu (h:o.p<18446744073709551616) (an):m_ o an<18446744073709551616:=by
 unfold m_;split;·exact Nat.mod_lt _ ar
 exact h
theorem DU (k:xA 5) (m:xA 6) (a:Option Addr) (s cap:Nat) (zs:List Int) (w:World) (n:IsRow .u8 w a s cap zs) (o:Tb w) (p:0<w.heap.size) :
  Calls prog 3 #[.slice a s cap] w λe w'=>e=.returned (.bool true)/\D w w':=by
 by_cases hl:1048576<s;·go_enter func3,ntmps3;go_wp2;go_ret;exact⟨rfl,Fu _ _⟩
 obtain⟨c,os,b,c4,q⟩:=C5 (zs.take s);have l:=H (show Cbq9 (zs.take s) w a s cap from ⟨zs,n,rfl,Z⟩);have P:=H q;have TB:=H o;have HW:=H p;have v:=H k;have x:=H m;obtain⟨L,d⟩:∃ L,os.length=L:=⟨_,rfl⟩;rw [d] at c4;have HL:=H d;clear n o p k m q d b;go_enter func3,ntmps3;go_wp2_with fail;refine (P w a s cap l).mono ?_;rintro e V1 ⟨da,dc,a9,A,n1,B1,d,rfl,Q,r,b,t,b1⟩;have k:a9.length=L:=by rw [<-HL.out,<-d,Gz]
 obtain⟨cf,z,hs,an,n⟩:=Eb r os;have RN:=H n;have b2:D V1 _:=(Fu V1.heap.size V1).alloc (Fv _) (.cells #[I c.mi,I c.fi,I c.la,I c.bu,U c.ky,.slice da c.ds.length dc] 26);have y:=H (ao V1 (.cells #[I c.mi,I c.fi,I c.la,I c.bu,U c.ky,.slice da c.ds.length dc] 26));have m:=H ((zl r b t).low b2);have B2:=H (az b1 b2);rw [k] at b ⊢;have HO:=H (IT d k);clear r b t b1 b2 Q n d k;unfold pQ;dsimp only;go_upto_region 4 with fail
 generalize V1.alloc (.cells #[I c.mi,I c.fi,I c.la,I c.bu,U c.ky,.slice da c.ds.length dc] 26)=V2 at y B2 m ⊢;generalize V1.heap.size=X1 at y ⊢;go_wp2_with fail;refine (P V2 a s cap (l.below B2)).mono ?_;rintro e V3 ⟨a2,K,F,A2,n2,B3,n,rfl,Q,r,b,t,R⟩;have e2:F.length=L:=by rw [<-HL.out,<-n,Gz]
 have G:D V3 _:=(Fu V3.heap.size V3).alloc (Fv _) (.cells #[I c.mi,I c.fi,I c.la,I c.bu,U c.ky,.slice a2 c.ds.length K] 26);have T:=H (ao V3 (.cells #[I c.mi,I c.fi,I c.la,I c.bu,U c.ky,.slice a2 c.ds.length K] 26));have k:=H ((zl r b t).low G);have OD:=H (λq M=>(wX (t q M).d).below G);have O:=H (az R G);have o:=H (IU O y);have p:=H (m.low O);rw [e2] at b ⊢;have N:=H (IT n e2);have d:=H (az B2 O);clear r b t R G Q n e2 y m P l O;unfold pQ;dsimp only;go_upto_region 5 with fail
 generalize V3.alloc (.cells #[I c.mi,I c.fi,I c.la,I c.bu,U c.ky,.slice a2 c.ds.length K] 26)=V4 at T k o p d OD ⊢;generalize V3.heap.size=X2 at T ⊢;have b:=H (show ∀ W,D V4 W->_ from λW (O:D V4 W)=>v.out _ a9 _ _ _ _ (by rw [HO.1];exact RN) _ _ _ (p.low O) dc n1 (TB.below (az d O)) (by have:=HW.out;have:=d.size;have:=O.size;omega));have CS:=H (show ∀ W,D V4 W->_ from λW (O:D V4 W)=>x.out _ F _ _ _ _ (by rw [N.1];exact RN) _ _ _ (k.low O) K n2 (TB.below (az d O)) (by have:=HW.out;have:=d.size;have:=O.size;omega));rw [HO.2] at b;rw [N.2] at CS;go_wp2_with (refine Gt rfl 26 _ rfl _ rfl _ _ _ _ o underlying26 rfl E ?_);refine (b V4 (Fu _ _)).mono ?_;rintro e V5 ⟨A7,P,m0,m1,m2,m3,m4,m5,m6,m7,rfl,l,y,m,c5⟩;obtain⟨nb,n⟩:=uy V5 #[.bool false,C,I 0,C,C,C,C,C,C,I 0] #[.bool z,.slice A7 an.length P,m0,m1,m2,m3,m4,m5,m6,m7] 38;have OA:=H l;have V:=H nb;have t:=H (az y n);have r:=H (m.low n);clear nb n y l m;go_upto_region 6 with (refine Gf rfl 38 _ _ rfl _ _ rfl rfl 38 _ (ao V5 _) E rfl OA ?_;generalize (V5.alloc (.cells #[.bool false,C,I 0,C,C,C,C,C,C,I 0] 38)).setRow V5.heap.size #[.bool z,.slice A7 an.length P,m0,m1,m2,m3,m4,m5,m6,m7]=V6 at V t r ⊢;generalize V5.heap.size=P7 at V ⊢)
 have G:=H (IU t T);go_wp2_with (refine Gt rfl 26 _ rfl _ rfl _ _ _ _ G underlying26 rfl E ?_);refine (CS V6 t).mono ?_;rintro e V7 ⟨A8,c8,k0,k1,k2,k3,k4,k5,k6,k7,rfl,l,b7,Q,_⟩;obtain⟨nb,n⟩:=uy V7 #[.bool false,C,I 0,C,C,C,C,C,C,I 0] #[.bool z,.slice A8 an.length c8,k0,k1,k2,k3,k4,k5,k6,k7] 38;have R:=H l;have N8:=H nb;have X:=az b7 n;have b0:=H (Q.low n);have a3:=H (r.low X);have y:=H (IU X V);have m:=az t X;have b6:=H (λq M=>(OD q M).below m);have a4:=H (k.oi.low m);have a5:=H (az d m);clear nb n b7 l Q OA r V G t X m b CS k p OD o T d TB v x HO;go_upto_region 7 with (refine Gf rfl 38 _ _ rfl _ _ rfl rfl 38 _ (ao V7 _) E rfl R ?_;generalize (V7.alloc (.cells #[.bool false,C,I 0,C,C,C,C,C,C,I 0] 38)).setRow V7.heap.size #[.bool z,.slice A8 an.length c8,k0,k1,k2,k3,k4,k5,k6,k7]=t at N8 b0 a3 y a5 b6 a4 ⊢;generalize V7.heap.size=P8 at N8 ⊢)
 clear R;have c6:t.cell? ⟨P7,0,none⟩=some (.bool z):=bJ y.out;have c9:t.cell? ⟨P8,0,none⟩=some (.bool z):=bJ N8.out;have d0:t.cell? ⟨P7,1,none⟩=some (.slice A7 an.length P):=bJ y.out;have d1:t.cell? ⟨P8,1,none⟩=some (.slice A8 an.length c8):=bJ N8.out;have e4:(z != z)=false:=bH;have d2:=H (show z=true->an.length=L from λe=>by
  rcases RN.out with ⟨_,_,_,_,_,_,b⟩|⟨e2,_⟩;·rw [<-HL.out];have:=ft cf os (aP cf) [];rw [b] at this;simpa using this
  rw [e] at e2;cases e2)
 go_wp2_with fail;go_loopw [50,9,10] (λi q f wr=>∃ k:Nat,k<=L/\i=I k/\f=I 0/\∃ p cq xs,q=.slice p (List.length xs) cq/\Hid (Qm t.heap.size p cq xs wr)/\Hid (z=true->Tp cf os k xs)/\Hid (D t wr)) (λi _ _ _=>L-(intOf i).toNat);case atStart=>exact ⟨0,FH _,rfl,rfl,none,0,[],rfl,H ⟨Fv _,⟨rfl,.inl ⟨rfl,rfl⟩⟩,λx b=>(by cases b),λx b=>(by cases b),List.nodup_nil,List.nodup_nil⟩,H (λ_=>⟨JQ.new cf,FH _⟩),H (Fu _ _)⟩
 case round =>
  obtain⟨k,hk,rfl,rfl,p,cq,xs,rfl,QR,TR,BR⟩:=hrel;clear c6 c9 d0 d1;by_cases d3:k<L
  ·obtain⟨q,M⟩:∃ q,F[k]?=some q:=⟨_,Fy (by rw [N.2];exact d3)⟩;obtain⟨G,rfl,_,b⟩:=a4.at_ k q M;have l:os[k]?=some q.o:=(by rw [<-N.1,Gv,M];rfl);have a6:=H l;have WF:=H (a4.wf q (FM M));have DQ:=H (b6 q (FM M));have m:=H (show wr.rangeAt G (k*6) (fH q) from λj u hu=>ad BR (b j u hu));obtain⟨⟨r,x,T,V,X,ys⟩,d,d9⟩:=q;replace m:=H (show wr.rangeAt G (k*6) [I r,I x,U T,U V,U X,.slice d ys.length d9] from m);dsimp only at DQ WF a6;have Q:=(Fu wr.heap.size wr).alloc (Fv _) (.cells #[I r,I x,U T,U V,U X,.slice d ys.length d9] 42);have NO:=H (ao wr (.cells #[I r,I x,U T,U V,U X,.slice d ys.length d9] 42));have QA:=H (QR.low Q);have BA:=H (az BR Q);have b9:=ad BA (show t.cell? ⟨P8,0,none⟩=some (.bool z) from bJ N8.out);clear M l b Q QR BR;go_upto_region 14 with (refine wpList_load_mid rfl 42 _ rfl _ _ rfl _ _ m underlying42 rfl E ?_)
   generalize wr.alloc (.cells #[I r,I x,U T,U V,U X,.slice d ys.length d9] 42)=Y at NO QA BA b9 ⊢;generalize wr.heap.size=Z2 at NO ⊢;clear m;cases z with
   | false =>
    go_wp2;go_ret;exact⟨rfl,az a5 BA⟩
   | true =>
    obtain⟨l,c0,a7,a0,b⟩:=yw RN a6 WF.2.1 (TR rfl);obtain⟨G7,rfl,v7,a8,d4⟩:=a3.out k l c0;obtain⟨a1,rfl,v8,c1,_⟩:=b0.out k l c0;obtain⟨n,o,rfl,c2⟩:=d4;have d5:=H (show Rd1 .u8 t (.slice n l.data.length o) l.data from ⟨n,o,rfl,c2⟩);have R7:=H (show Y.rangeAt G7 (k*4) [I l.code,U l.addr,I l.size,.slice n l.data.length o] from λj u hu=>ad BA (a8 j u hu));have R:=d2.out rfl;rw [R] at c5;have d6:=H (λW (O:D t W) j a (ha:(an.take k)[j]?=some a)=>show W.cell? ⟨G7,j*4+1,none⟩=some (U a.addr) by
     rw [Gx] at ha;split at ha
     ·obtain⟨g,m,v,r9,_⟩:=a3.out j a ha;injection m with m;injection m with m;subst m;exact ad O (r9 1 _ rfl)
     cases ha)
    have d7:=H (show (an.take k).length=k by rw [Hm,R];omega);have TL:=H (TR rfl).2;rw [R] at y N8;have d8:=ad BA (show t.cell? ⟨P7,1,none⟩=some (Vl G7 L P) from bJ y.out);have Q:=(Fu Y.heap.size Y).alloc (Fv _) (.cells #[I l.code,U l.addr,I l.size,.slice n l.data.length o] 44);have NA:=H (ao Y (.cells #[I l.code,U l.addr,I l.size,.slice n l.data.length o] 44));have QB:=H (QA.low Q);have m:=H (az BA Q);have NB:=H (IU Q NO);have v:=H (ad (az BA Q) (c1 0 _ rfl));have c3:=H a7;have HB:=H a0;have HG:=H b;clear a7 a0 b a8 c1 c2 R Q QA TR a6;go_upto_region 16 with (refine wpList_load_mid rfl 44 _ rfl _ _ rfl _ _ R7 underlying44 rfl E ?_)
    generalize Y.alloc (.cells #[I l.code,U l.addr,I l.size,.slice n l.data.length o] 44)=b at NA QB m NB v ⊢;generalize Y.heap.size=Z3 at NA ⊢;clear R7 d8 b9;have u0:b.cell? ⟨Z3,0,none⟩=some (I l.code):=bJ NA.out;have c1:=ad m (show t.cell? ⟨P8,1,none⟩=some (Vl a1 L c8) from bJ N8.out);have c2:=ad m (show t.cell? ⟨P7,1,none⟩=some (Vl G7 L P) from bJ y.out);have a0:b.cell? ⟨a1,k*4,none⟩=some (I l.code):=v.out;have o0:b.cell? ⟨Z2,0,none⟩=some (I r):=bJ NB.out;have o1:b.cell? ⟨Z2,1,none⟩=some (I x):=bJ NB.out;by_cases hb:r<0\/6<r\/x<0\/(k:Int)<x
    ·obtain⟨h6,R⟩:=HB.out hb;rw [h6] at u0 a0;have TP:=H R;clear HB HG R NA NB v h6;rcases (show r<0\/(¬r<0/\r > 6)\/(¬r<0/\¬r > 6/\x<0)\/(¬r<0/\¬r > 6/\¬x<0/\x > (k:Int)) by omega) with h1|⟨h1,h2⟩|⟨h1,h2,h3⟩|⟨h1,h2,h3,h4⟩
     all_goals
      clear hb
      go_wp2
      go_roundw
      case rel=>exact ⟨k+1,Z,aY,rfl,p,cq,xs,rfl,QB,H (λ_=>TP.out),m⟩
      case measure=>simp [intOf];omega
    have HJ:=H (HG hb);have d8:=H (IU m y);have h1:¬r<0:=Z;have h2:¬r > 6:=Z;have h3:¬x<0:=Z;have h4:¬x > (k:Int):=Z;clear HB HG hb v;by_cases a7:l.code=0
    case' pos =>
     rw [a7] at u0 a0;clear a7
    case' neg=>have e0:(l.code==0)=false:=by simp [a7]
    all_goals
     go_upto_region 24 with fail
     refine wp_region_held (S:=λe=>Kp9 t.heap.size b e) E ?_
     simp only [FX,FN,F1,Nat.reduceAdd,FP,FO,FY,FV,F5]
     have v:=(show Kp9 t.heap.size b b.drew from Kp9.of (Fu b.heap.size b).drew QB.bs)
     refine pk 0 (.slice p xs.length cq) v ?_
     try simp only [lz,l0,ls]
     refine pf 1 (.agg #[I r,I x,U T,U V,U X,.slice d ys.length d9]) rfl v (λW h=>zR 42 _ rfl Z2 rfl (run_loadVar_row _ Z2 42 42 _ (0,0) _ (h.2 _ _ _ ar ar NB) underlying42 rfl E)) ?_
     try simp only [lz,l0,ls]
     refine pf 2 (.agg #[I r,I x,U T,U V,U X,.slice d ys.length d9]) rfl v (λW h=>zR 42 _ rfl Z2 rfl (run_loadVar_row _ Z2 42 42 _ (0,0) _ (h.2 _ _ _ ar ar NB) underlying42 rfl E)) ?_
     try simp only [lz,l0,ls]
     refine pk 3 (J P7 1) v ?_
     try simp only [lz,l0,ls]
     refine pf 4 (Vl G7 L P) rfl v (λW h=>by have R:=h.cell d8 1 (Vl G7 L P);go_simp) ?_
     try simp only [lz,l0,ls]
     refine pk 5 (I k) v ?_
     try simp only [lz,l0,ls]
     refine pf 6 (Vl G7 k P) rfl v (λW h=>by go_simp;try (intro R;omega)) ?_
     try simp only [lz,l0,ls]
     refine pf 8 (.agg #[I l.code,U l.addr,I l.size,.slice n l.data.length o]) rfl v (λW h=>zR 44 _ rfl Z3 rfl (run_loadVar_row _ Z3 44 44 _ (0,0) _ (h.2 _ _ _ ar ar NA) underlying44 rfl E)) ?_
     try simp only [lz,l0,ls]
     have bD:=(show D b b.drew from (Fu b.heap.size b).drew)
     generalize a8:b.drew=W0 at v bD ⊢
     have R:({ heap:=b.heap,tape:=b.tape,drawn:=b.drawn+1,os:=b.os,output:=b.output } : World)=W0:=a8
     try rw [R]
     clear a8 R
     refine po 7 λK' hK=>?_
     go_simp
     refine (wB ⟨⟨r,x,T,V,X,ys⟩,d,d9⟩ G7 k P (an.take k) W0 d7 Z WF.1 (d6 W0 (az m bD))).mono ?_
     rintro e8 W1 ⟨rfl,b1⟩
     have bE:=az bD b1
     have a8:=Kp9.of (B:=t.heap.size) bE QB.bs
     refine hK _ _ ⟨a8,?_⟩
     clear hK K'
     try simp only [lz,l0,ls]
     refine po 9 λK' hK=>?_
     go_simp
     have R:=yk W1 t.heap.size p cq xs (QB.low bE) (by have:=TL.out;omega) c3 _ (Cu WF.1 _) _ ys l.data r x (T:Nat) V X l.addr l.code (l.size:Nat) WF.2.1 WF.2.2 d d9 n o (λW' h=>DQ.below (io (az m bE) h)) (λW' h=>d5.below (io (az m bE) h)) HJ.out
     refine R.mono ?_
     clear R
     rintro e7 W2 ⟨A',c',e3,rfl,b2,q2,r2⟩
     have R:=a8.tr b2
     refine hK _ _ ⟨R,?_⟩
     clear hK K'
     try simp only [lz,l0,ls]
     iterate 5 (refine py R ?_;simp only [f0,f1,Nat.reduceAdd,lz,l0,ls])
     refine bY ?_
     have Q2:=H q2
     have B2:=H (io m R.1)
     have T2:=H r2
     clear q2 r2 b2 v a8 R b1 bD bE u0 a0 o0 o1 c1 c2 NA NB
     go_wp2
     go_roundw
     case rel=>exact ⟨k+1,Z,aY,by first|rfl|go_num,A',c',e3,rfl,Q2,H (λ_=>T2.out),B2⟩
     case measure=>simp [intOf];omega
  obtain rfl:L=k:=Z;go_wp2;go_ret;exact⟨rfl,az a5 BR⟩
end
end Go.Proofs.YtibblbenmpcplaaGreatDoor
