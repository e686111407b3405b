import Derived.Test.YtdhegekcmmlohaaGreatDoorM18
import Derived.Test.YtdhegekcmmlohaaGreatDoorM19
import Derived.Test.YtdhegekcmmlohaaGreatDoorM22
set_option linter.unusedVariables false
set_option linter.unusedSimpArgs false
set_option maxRecDepth 20000
set_option maxHeartbeats 8000000
namespace Go.Proofs.YtdhegekcmmlohaaGreatDoor
open Go.Proofs.Tryz Go.RowKit Go.Maps Go.Shelf Go.ChangeShapes Go.WideShapes Go.ChangeAt
section
variable {B cm lo:Nat}{V W W' W0 w:World}{v va:Value}{l:List Aw}{xs:List Value}{bb:Bool}
def rJ(c:Jh):Cf:=⟨c.mix.toNat,c.fifo.toNat,c.large.toNat,c.budget.toNat,(c.key:Int),c.draws⟩
def J9(o:sT):fL:=⟨(o.kind:Int),(o.ref:Int),o.p,o.a,o.b,o.data.map λn:Nat=>(n:Int)⟩
def J7(s:rP):Prop:=jg s.cf.mix s.cf.fifo s.cf.large s.cf.budget s.cf.draws.length/\s.ops.length<=300
def vX(s:rP):Hs×List An4:=NJ (rJ s.cf) (s.ops.map J9) (aP (rJ s.cf)) []
def MK:Value->Option Addr
 | .slice a _ _=>a
 |_=>none
def Mz:Value->Nat
 | .slice _ _ c=>c
 |_=>0
def mK(p:sT×Value):df:=⟨J9 p.1,MK p.2,Mz p.2⟩
theorem JC{l:List Int}(h:W.ownsRow B 3 1 v l.length (iv l)):∃a c,v=.slice a l.length c/\Sl W a l/\∀x,a=some x->x.block<W.heap.size:=by
 rcases h.2 with⟨rfl,b⟩|⟨g,c,d,rfl,_,e,_⟩;·have:=Ik b;subst this;exact⟨none,0,rfl,.inl ⟨rfl,rfl⟩,λx a=>by cases a⟩
 exact⟨_,_,rfl,.inr ⟨g,rfl,RowV.ofOwns h⟩,λx a=>by cases a;exact G_ e⟩
theorem Kv{s dv ov bd ps}(r:Res B W s dv ov bd ps)(k:J8 s):∃A b,ov=.slice A (ps.map mK).length b/\Ois W A (ps.map mK)/\EA (ps.map mK):=by
 have n:∀p∈ps,Mv p.1/\∃a c,p.2=.slice a p.1.data.length c/\p.1.data.length<=c/\∀i,i<p.1.data.length->∃x,a=some x/\W.cell? (x.add i)=some (.int .u8 ((p.1.data[i]?.getD 0:Nat):Int))/\(x.add i).block<W.heap.size:=λp f=>by
  refine⟨k.ops p.1 (by rw[<-r.eq];exact List.mem_map_of_mem f),?_⟩;have d:=r.dd p f;rcases d.2 with⟨m,v⟩|⟨g,b,w,m,_,z,e,_⟩;·exact⟨none,0,by rw[m,v],Z,λi t=>Z⟩
  refine⟨some (Qz g 0),b,m,e,λi t=>⟨_,rfl,?_,?_⟩⟩;·refine d.cells (g:=g) (by rw[m];rfl) i _ ?_;simp[xe,t]
  rw[Addr.add_mid];exact G_ z
 have L:∀p∈ps,fH (mK p)=opC p.1 p.2:=λp f=>by
  have⟨_,a,c,e,_⟩:=n p f;simp[fH,mK,J9,opC,e,MK,Mz]
 have M:EA (ps.map mK):=⟨λq l=>by
   obtain⟨p,f,rfl⟩:=FQ.1 l;have⟨_,a,c,e,m,_⟩:=n p f;simp[mK,J9,e,Mz,m],λq l=>by
   obtain⟨p,f,rfl⟩:=FQ.1 l;simp[mK,J9],λq l y o=>by
   obtain⟨p,f,rfl⟩:=FQ.1 l;simp[mK,J9]at o;obtain⟨d,j,rfl⟩:=o;have:=(n p f).1.by_ d j;omega⟩
 have K:∀A b,ov=.slice A ps.length b->(∀p∈ps,∃G,A=some (Qz G 0)/\G<W.heap.size/\∀j u,(wX ps)[j]?=some u->QG W G j u)->∃A b,ov=.slice A (ps.map mK).length b/\Ois W A (ps.map mK)/\EA (ps.map mK):=λA b e N=>by
  refine⟨A,b,by rw[Gz];exact e,⟨λi q l=>?_,λq l=>?_,λq l i t=>?_⟩,M⟩;·rw[Gv]at l;obtain⟨p,f,rfl⟩:=Option.map_eq_some_iff.1 l;have o:=FM f;have⟨G,m,y,F⟩:=N p o;refine⟨G,m,y,λj u d=>F _ _ ?_⟩;rw[L p o]at d;have O:j<6:=(Fz.1 d).1;exact(eC (λp:sT×QN=>opC p.1 p.2) 6 (λ_=>rfl) ps i p f j O).trans d
  ·obtain⟨p,f,rfl⟩:=FQ.1 l;have:=(n p f).1;exact⟨this.p,this.a,this.b⟩
  obtain⟨p,f,rfl⟩:=FQ.1 l;have⟨_,a,c,e,_,y⟩:=n p f;have o:i<p.1.data.length:=by simpa[mK,J9]using t
  have⟨x,F,O,P⟩:=y i o;refine⟨x,by simp[mK,e,MK,F],?_,P⟩;rw[O];simp[mK,J9,o]
 rcases r.op.2 with⟨rfl,v⟩|⟨g,b,w,m,_,z,_⟩;·have:=Ik v;subst this;exact K none 0 rfl (λp f=>by cases f)
 exact K _ _ m (λp f=>⟨g,rfl,G_ z,λj u d=>by
  have:=r.op.cells (g:=g) (by rw[m];rfl) j u d;rwa [Addr.add_mid,Oi]at this⟩)
structure Rsp(s:rP)(W:QM)(bb:Bool)(l:List Aw)(va:QN)(cm us:Nat)(m:List QN)(W':QM):Prop where
 ok:bb=true↔J7 s
 run:bb=true->l.map (·.1)=(vX s).2/\cm=bz (vX s).1.m 283/\us=(vX s).1.used
 row:W'.ownsRow W.heap.size 46 4 va l.length (fZ l)
 dat:∀y∈l,W'.ownsRow W.heap.size 5 1 y.2 y.1.data.length (Ns .u8 y.1.data)
 one:∀v∈m,v.oneCell'=true
 bel:D W W'
def Nc(F:FuncId):Prop:=∀(s:rP)(B:Nat)(u ov A:Value)(ps:List (sT×Value))(W:World),J8 s->Res B W s u ov A ps->Tb W->6<W.heap.size ->
 QA F #[.agg (OD s.cf u).toArray,ov] W λe W'=>∃(bb:Bool)(l:List Aw)(va:Value)(cm us:Nat)(y j t z v i:Value),e=.returned (.agg #[.bool bb,va,I cm,y,j,t,z,v,i,I us])/\Rsp s W bb l va cm us [va,y,j,t,z,v,i] W'
theorem I8{b:Nat}{e:QO}{sz:Nat}{n:Nat}(h:W.ownsRow b e sz v n xs):v.oneCell'=true:=by
 obtain⟨a,b,c,rfl,_⟩:=ch h;rfl
theorem Mh{s:rP}(h:jg s.cf.mix s.cf.fifo s.cf.large s.cf.budget s.cf.draws.length)(k:J8 s)(a:QP)(c:Nat):.agg (OD s.cf (.slice a s.cf.draws.length c)).toArray=gZ (rJ s.cf) a c/\mE (rJ s.cf)/\1<=(rJ s.cf).large:=by
 unfold jg at h;refine⟨?_,⟨by simp[rJ];omega,λd b=>?_,by simp[rJ],by have:=k.key;simp[rJ];omega,by simp[rJ];omega,by simp[rJ];omega,by simp[rJ];omega,by simp[rJ];omega,by simp[rJ];omega⟩,by simp[rJ];omega⟩;·simp only[OD,gZ,rJ];rw[IK Z,IK Z,IK Z,IK Z]
 have:=k.dr d b;exact IG Z
theorem KQ{s}(h:¬J7 s)(b:D W W'):Rsp s W false [] (C) 0 0 [C,C,C,C,C,C,C] W':=
 ⟨⟨λe=>(by cases e),λe=>absurd e h⟩,λe=>(by cases e),⟨rfl,.inl ⟨rfl,rfl⟩⟩,λy a=>(by cases a),λv hv=>(by simp at hv;subst hv;rfl),b⟩
theorem My:Nc 12:=by
 intro s B z F G ps W k r K L;obtain⟨d,f,rfl,i,j⟩:=JC r.dt;obtain⟨A,c,rfl,m,M⟩:=Kv r k;have g:(ps.map mK).length=s.ops.length:=by rw[<-r.eq];simp
 have a:(ps.map mK).map df.o=s.ops.map J9:=by rw[<-r.eq];simp[mK]
 by_cases h:J7 s
 ·have⟨e,n,l1⟩:=Mh h.1 k d f;rw[e];refine(su (rJ s.cf) d f A c (ps.map mK) W n l1 i m (by rw[g];exact h.2)).mono ?_;rintro e W'⟨l,va,o,p,q,t,u,w,x,y,rfl,rp⟩;have b:=rp.ls;obtain rfl:o=_:=GB rp.com;obtain rfl:y=_:=GB rp.use;rw[a]at b;refine⟨true,l,va,_,_,p,q,t,u,w,x,rfl,⟨λ_=>h,λ_=>rfl⟩,λ_=>⟨b,by rw[a];rfl,by rw[a];rfl⟩,rp.row,rp.dat,λv hv=>?_,rp.bel⟩;rcases F4.1 hv with rfl|hv;·exact I8 rp.row
  exact rp.one v (Ij _ (IF [_] hv))
 refine(ng s.cf.mix s.cf.fifo s.cf.large s.cf.budget (s.cf.key:Int) d s.cf.draws.length f A (ps.map mK).length c W (by rw[g];exact h)).mono ?_;rintro e W'⟨rfl,b⟩;exact⟨_,_,_,0,0,_,_,_,_,_,_,rfl,KQ h b⟩
theorem MW:Nc 34:=by
 intro s B dv ov bd ps W k r o O;obtain⟨i,j,rfl,P,m⟩:=JC r.dt;obtain⟨A,d,rfl,Q,R⟩:=Kv r k;have p:(ps.map mK).length=s.ops.length:=by rw[<-r.eq];simp
 have c:(ps.map mK).map df.o=s.ops.map J9:=by rw[<-r.eq];simp[mK]
 by_cases h:J7 s
 ·have⟨e,S,l1⟩:=Mh h.1 k i j;rw[e];refine(sZ AI (zj BE zc) (rJ s.cf) i j A d (ps.map mK) W S l1 o P m O Q R (by rw[p];exact h.2)).mono ?_;rintro e W'⟨B,y,l,va,q,t,u,w,x,F,G,K,V,T,X,rfl,L,b,hT,a,hX,rfl,n,Y⟩;have g:=aj T X #[.bool true,va,q,t,u,w,x,F,G,K];have f:=b.ra.below a;have M:=b.ls;obtain rfl:q=_:=GB hT.2.1;obtain rfl:K=_:=GB hT.2.2;rw[G9,c]at M;refine⟨true,l,va,_,_,t,u,w,x,F,G,rfl,⟨λ_=>h,λ_=>rfl⟩,λ_=>⟨M,by rw[c];rfl,by rw[c];rfl⟩,ia (f.row.kept g (.inr λe=>by have:=(f.row.lt X e).1;omega)) L,λz N=>ia ((f.dat z N).kept g (.inr λe=>by have:=((f.dat z N).lt X e).1;omega)) L,λv hv=>?_,(az b.bel a).grown g (az b.bel a).size (λr e=>by cases e;exact n)⟩;rcases F4.1 hv with rfl|hv;·exact I8 f.row
  exact hT.1 v (Ij _ (IF [_] hv))
 refine(nt s.cf.mix s.cf.fifo s.cf.large s.cf.budget (s.cf.key:Int) i s.cf.draws.length j A (ps.map mK).length d W o (by rw[p];exact h)).mono ?_;rintro e W'⟨rfl,b⟩;exact⟨_,_,_,0,0,_,_,_,_,_,_,rfl,KQ h b⟩
theorem pq{P:Program}{md:Region.Mode}{e:Array Oper}{Q:Exit->Act->QM->Prop}{S:QM->Prop}(i:Nat){d:Nat}{g:Oper}{f:Nat}{b:Array Bool}{a:Act}(j:S w)(h:wpAnyH P md e Q S f (b.setIfInBounds i true) {a with tmps:=a.tmps.setIfInBounds d v} w)(k:e[i]?=some g:=by(rfl))(l:g.dst=some d:=by(rfl))(m:YieldsIf P e S g v a:=by first|exact .inr ⟨rfl,rfl⟩|exact .inl ⟨E,λ_ _=>rfl⟩|(refine .inl ⟨E,?_⟩;intro _ h;(repeat obtain⟨_,h⟩:=h);go_simp;(try rfl);done))(n:Region.noSelect e=true:=by(kernel_rfl))(o:Region.free md e b i=true:=by(kernel_rfl))(p:(Region.ready md e b).contains i=true:=by(kernel_rfl))(q:∀c a w,Q (.panic c) (a.put g.dst v) w->Q (.panic c) a w:=by exact λ_ _ _ h=>h):wpAnyH P md e Q S (f+1) b a w:=aG k l n o p q m j h
theorem Ws.below{ls}(h:Ws B W v ls)(b:D W W'):Ws B W' v ls:=ax h b
theorem Ws.add{ls}(h:Ws B W v ls)(l)(b:B<=W.heap.size)(f:ls.length<=2000000):∃a m c W',QI 58 v (Vl W.heap.size 1 1) (W.alloc (QL #[.string (bs l)] 9)) (.slice a m c) W'/\Ws B W' (.slice a m c) (ls++[l])/\Ky (· =9) W W'/\Below B W W':=by
 have⟨i,W',e,o,g⟩:=DL LZ h b #[.string (bs l)] rfl (λu d=>by simp at d;subst d;rfl) f;obtain⟨a,m,c,rfl,_⟩:=ch o;exact⟨a,m,c,W',e,by unfold Ws;rw[Hr,FC];exact o,Ky.grownO (λP a=>by obtain⟨_,c,d⟩:=aF h a;exact⟨c,9,_,d,rfl⟩) g,(Fu B W).grown g b (λr a=>(aF h a).1)⟩
theorem Ws.nil(B W):Ws B W (C) []:=⟨rfl,.inl ⟨rfl,rfl⟩⟩
theorem Kq(B S W s dv ov bd ps)(d:Ss B S W s dv ov bd ps)(k:J8 s)(hl:s.bad.length<=20000)(f:PtW W):
  QA 15 #[J S 0] W λe W'=>∃a m c,e=QJ (.slice a m c)/\Ws W.heap.size W' (.slice a m c) (m_ s.bad)/\D W W':=by
 have⟨y,L,q,b,_⟩:=JC d.res.bdo;subst q;have c7:W.cell? (Qz S 7)=some (.slice y s.bad.length L):=d.bx.cell 7;have M:Hid (∀V,D W V->∀i n,s.bad[i]?=some n->∃g,y=some (Qz g 0)/\QG V g i (I n)):=(λV o i n j=>by
  have⟨g,p,l⟩:=b.cells i (Fz.1 j).1;rw[j]at l;exact⟨g,p,NI o l⟩)
 have⟨N,O⟩:=y7 f k.bad;generalize b:s.bad.length=n at*;have r:=H b;go_enter func15,ntmps15;go_wp2_with fail;go_loopw [3,11] (λb i wr=>∃(j:Nat)(a m c:_),j<=n/\i=I (j:Int)/\b=.slice a m c/\Hid (Ws W.heap.size wr (.slice a m c) (m_ (s.bad.take j)))/\Hid (D W wr)) (λ_ i _=>n-(intOf i).toNat);case atStart=>exact⟨0,_,_,_,FH _,rfl,rfl,H (Ws.nil _ _),H (Fu _ _)⟩
 case round=>
  obtain⟨j,a,m,c,hj,rfl,rfl,t,p⟩:=hrel;by_cases u:j<n
  ·have v:(j:Int)<(n:Int):=Z;obtain⟨x,k⟩:∃x,s.bad[j]?=some x:=⟨s.bad[j]'(by have:=r.out;omega),by simp[r.out,u]⟩;obtain⟨g,rfl,cx⟩:=M.out wr p j x k;have o:=O.out x (FM k);have b:=wT x.toNat Z wr (N.below p);rw[IK o.1]at b;have⟨R,l⟩:=Qa ([63,32]++dec x.toNat);have d:(⟨#[63,32]⟩:ByteArray)++bs (dec x.toNat)=bs R:=zl [63,32] (dec x.toNat) l;have f:=ER 2 x.toNat Z Z;have P:=H (show m_ (s.bad.take (j+1))=m_ (s.bad.take j)++[R] by rw[F_,k,<-l];simp[m_]);have Q:=H (show(m_ (s.bad.take j)).length<=2000000 by simp[m_];omega);go_wp2_with fail;refine b.mono ?_;rintro e V⟨rfl,k⟩;have T:=Fx p.size k.size;have⟨z,A,F,l,o,G,X,K⟩:=(t.below k).add R T Q;have w:=H (show Ws W.heap.size l (.slice z A F) (m_ (s.bad.take (j+1))) by rw[P];exact G);have Y:=H ((p.trans (k.mono p.size)).trans K);go_wp2_with (at_builtin;refine it rfl (.tmp 15) (.tmp 19) (by with_reducible rfl) rfl rfl rfl o ?_);go_roundw;(case rel=>exact⟨j+1,z,A,F,Z,aY,rfl,w,Y⟩);case measure=>exact QE
  obtain rfl:j=n:=Z;have v:¬(j:Int)<(j:Int):=Z;have w:=H (show Ws W.heap.size wr (.slice a m c) (m_ s.bad) by have:=t.out;rwa [Ge (by have:=r.out;omega)]at this);go_wp2_with fail;go_ret;exact⟨_,_,_,rfl,w,p⟩
instance (s:rP):Decidable (J7 s):=by unfold J7;infer_instance
def yk(s:rP):List (List UInt8):=if J7 s then qY (s.ops.map λo=>(o.kind:Int)) (vX s).2++[JX (bz (vX s).1.m 283) (vX s).1.used]else[[63,32,104,101,97,112]]
theorem Rsp.ky{s us m V'}(r:Rsp s W bb l va cm us m V)(k:Ky (· =43) V V')(b:Below W.heap.size V V'):Rsp s W bb l va cm us m V':=
 ⟨r.ok,r.run,ai r.row k ar,λy a=>ai (r.dat y a) k ar,r.one,r.bel.trans b⟩
theorem CI{s}(k:J8 s)(h:J7 s):(∀x∈(vX s).2,Bd x)/\bz (vX s).1.m 283<=283/\(vX s).1.used<=1000000/\(vX s).2.length=s.ops.length:=by
 have a:1<=(rJ s.cf).fifo:=by have:=h.1;unfold jg at this;simp[rJ];omega
 have c:=jp (rJ s.cf) a (s.ops.map J9) (aP (rJ s.cf)) [] 0 (Inv.new _) (Few.new _);have e:=c.2.used;rw[Gz]at e;refine⟨Ku _ a _ _ _ 0 (Inv.new _) (Few.new _) (Byt.new _) (λo f=>?_) (λx a=>by cases a),lh _ _,?_,by rw[vX,ft];simp⟩;·obtain⟨p,g,rfl⟩:=FQ.1 f;have:=k.ops p g;refine⟨λy b=>?_,this.p⟩;simp[J9]at b;obtain⟨d,i,rfl⟩:=b;have:=this.by_ d i;omega
 have:=h.2;unfold vX;omega
theorem Ch{ks:List Int}{an:List An4}{j:Nat}{k:Int}{a:An4}(b:ks[j]?=some k)(c:an[j]?=some a):qY (ks.take (j+1)) (an.take (j+1))=qY (ks.take j) (an.take j)++[OI k a]:=by
 have e1:(ks.take j).length=(an.take j).length:=by
  have:=(Fz.1 b).1;have:=(Fz.1 c).1;simp;omega
 unfold qY;rw[F_,F_,b,c,List.zip_append e1];simp
def zR:Array Value:=#[.bool false,C,I 0,C,C,C,C,C,C,I 0]
def Rb9(s:rP)(W:World)(X:Nat)(bb:Bool)(l:List Aw)(va:Value)(cm us:Nat)(v i j t u e:Value)(V:World):Prop:=V.heap[X]?=some (.cells #[.bool bb,va,I cm,v,i,j,t,u,e,I us] 43)/\Rsp s W bb l va cm us [va,v,i,j,t,u,e] V
theorem Rsp.all{s W bb l va cm us}{i j k m n o:QN}{V}(r:Rsp s W bb l va cm us [va,i,j,k,m,n,o] V):(#[.bool bb,va,I cm,i,j,k,m,n,o,I us]:Array QN).all (·.oneCell')=true:=by
 have h:=r.one;simp only[F4,Gp,or_false,forall_eq_or_imp,forall_eq]at h;have⟨a,b,c,d,e,f,g⟩:=h;refine all_oneCell_toArray λv hv=>?_;simp only[F4,Gp,or_false]at hv
 rcases hv with rfl|rfl|rfl|rfl|rfl|rfl|rfl|rfl|rfl|rfl<;>first|rfl|assumption
theorem Rsp.low{s W2 us m}(r:Rsp s W2 bb l va cm us m V)(b:D W W2):Rsp s W bb l va cm us m V:=
 ⟨r.ok,r.run,ia r.row b.size,λy a=>ia (r.dat y a) b.size,r.one,b.trans (r.bel.mono b.size)⟩
theorem Rb9.of{s}{X:Nat}{us}{a b d e f i:QN}{c:Array QN}(h:V.heap[X]?=some (QL c 43))(j:W.heap.size<=X)(r:Rsp s W bb l va cm us [va,a,b,d,e,f,i] V):Rb9 s W X bb l va cm us a b d e f i (V.setRow X #[.bool bb,va,I cm,a,b,d,e,f,i,I us]):=
 have g:=aj V X #[.bool bb,va,I cm,a,b,d,e,f,i,I us]
 ⟨aw h _,r.ky (Ky.grown h rfl g) ((Fu _ _).grown g r.bel.size (λq e=>by cases e;exact j))⟩
theorem Rb9.ky{s X us m1 m2 m3 m4 m5 m6 V'}(h:Rb9 s W X bb l va cm us m1 m2 m3 m4 m5 m6 V)(k:Ky (· =9) V V')(b:Below W.heap.size V V'):Rb9 s W X bb l va cm us m1 m2 m3 m4 m5 m6 V':=
 ⟨k.cells _ _ _ _ h.1 ar,⟨h.2.ok,h.2.run,ai h.2.row k ar,λy a=>ai (h.2.dat y a) k ar,h.2.one,h.2.bel.trans b⟩⟩
theorem nD{a:QM}{b:Nat}(h:V.heap[b]?=a.heap[b]?)(i:Nat):V.cell? (Qz b i)=a.cell? (Qz b i):=by
 unfold World.cell?;dsimp only;rw[h]
theorem Ls(B S W s dv ov bd ps)(b:Ss B S W s dv ov bd ps)(k:J8 s)(n:PtW W)(o:Tb W)(h0:6<W.heap.size):
  QA 16 #[J S 0] W λe W'=>∃a m c,e=QJ (.slice a m c)/\Ws W.heap.size W' (.slice a m c) (yk s)/\D W W':=by
 obtain⟨da,dn,dc,rfl,f⟩:=ch b.res.dt;obtain⟨oa,on,oc,rfl,i⟩:=ch b.res.op;have t:Hid (∀V,D W V->V.cell? (Qz S 0)=some (I s.cf.mix)/\V.cell? (Qz S 1)=some (I s.cf.fifo)/\V.cell? (Qz S 2)=some (I s.cf.large)/\V.cell? (Qz S 3)=some (I s.cf.budget)/\V.cell? (Qz S 4)=some (U (s.cf.key:Int))/\V.cell? (Qz S 5)=some (.slice da dn dc)/\V.cell? (Qz S 6)=some (.slice oa on oc)):=λV M=>
  have d:=b.bx.below M b.bx.lt
  ⟨d.cell 0,d.cell 1,d.cell 2,d.cell 3,d.cell 4,d.cell 5,d.cell 6⟩
 have N:=H (λV(M:D W V)=>MW s B (.slice da dn dc) (.slice oa on oc) bd ps V k (b.res.below M) (o.below M) (FG h0 M.size));unfold OD at N;obtain⟨HK,HT,HS⟩:=Qe k n b;clear b n o h0 k f i;generalize s.cf.mix=x0 at t N;generalize s.cf.fifo=x1 at t N;generalize s.cf.large=x2 at t N;generalize s.cf.budget=x3 at t N;generalize (s.cf.key:Int)=x4 at t N;go_enter func16,ntmps16;go_upto_region 1 with fail
 go_cut [3] (λb d=>∃X bb l va cm us m1 m2 m3 m4 m5 m6,b=J X 0/\Hid (Rb9 s W X bb l va cm us m1 m2 m3 m4 m5 m6 d));case first=>
  go_wp2_with fail;refine rh (S:=λV:QM=>V.cell? (Qz S 0)=some (I x0)/\V.cell? (Qz S 1)=some (I x1)/\V.cell? (Qz S 2)=some (I x2)/\V.cell? (Qz S 3)=some (I x3)/\V.cell? (Qz S 4)=some (U x4)/\V.cell? (Qz S 5)=some (.slice da dn dc)/\V.cell? (Qz S 6)=some (.slice oa on oc)) ?_;have m:=(Fu W.heap.size W).drew;have F:=t.out W.drew m;iterate 8 (refine py F ?_;simp only[f0,f1,Nat.reduceAdd,lz,l0,ls])
  refine lZ [8,9] λp o=>?_;rcases(by simpa using o:p=8\/p=9)with rfl|rfl
  case' inl=>
   refine cw λK' w=>?_;go_simp;refine(N W.drew m).mono ?_;rintro e b⟨bb,l,va,cm,us,m1,m2,m3,m4,m5,m6,rfl,rp⟩;have f:=rp.low m;refine w _ _ ⟨t b f.bel,?_⟩;clear w K' rp;refine po 9 λK' w=>?_
   go_simp;have i:=(Fu b.heap.size b).alloc (Fv _) (QL zR 43);have d:=ao b (QL zR 43);refine w _ _ ⟨t _ (az f.bel i),?_⟩;have n:=f.ky (Ky.below i) (i.mono f.bel.size);have q:=f.bel.size
  case' inr=>
   refine cw λK' w=>?_;go_simp;have i:=(Fu W.drew.heap.size W.drew).alloc (Fv _) (QL zR 43);have d:=ao W.drew (QL zR 43);refine w _ _ ⟨t _ (az m i),?_⟩;clear w K';refine po 8 λK' w=>?_
   go_simp;refine(N _ (az m i)).mono ?_;rintro e b⟨bb,l,va,cm,us,m1,m2,m3,m4,m5,m6,rfl,rp⟩;have n:=rp.low (az m i);refine w _ _ ⟨t b n.bel,?_⟩;have d:b.heap[W.heap.size]?=_:=(rp.bel.block _ (G_ d)).trans d;have q:=Fv W.heap.size
  all_goals
   clear w K'
   refine po 10 λK' w=>?_
   refine Ih 43 _ _ rfl _ _ rfl rfl 43 _ d E rfl n.all ?_
   have f:=Rb9.of d q n
   refine w _ _ ⟨t _ f.2.bel,?_⟩
   clear w K'
   refine bY ?_
   go_wp2_with fail
   go_meet
   case rel=>exact⟨_,bb,l,va,cm,us,m1,m2,m3,m4,m5,m6,rfl,H f⟩
 case rest=>
  obtain⟨X,bb,l,va,cm,us,m1,m2,m3,m4,m5,m6,rfl,x⟩:=hcut;obtain⟨d,P,vc,rfl,f⟩:=ch x.2.row;have HV:=H f;have q0:wc.cell? (Qz X 0)=some (.bool bb):=bJ x.1;have q1:wc.cell? (Qz X 1)=some (.slice d P vc):=bJ x.1;clear f;cases bb with
  |false=>
   have f:¬J7 s:=λh=>by have:=x.2.ok.2 h;cases this
   obtain⟨K,HN⟩:=y7 x.2.bel (show yk s=[[63,32,104,101,97,112]] by rw[yk,GO f]);clear f;go_wp2_with fail;go_ret;rw[HN];exact⟨_,_,_,rfl,⟨rfl,.inr ⟨_,1,_,rfl,K.size,ao _ _,Fv _,by unfold maxLen;omega,rfl,rfl⟩⟩,K.alloc K.size _⟩
  | true=>
   have f:J7 s:=x.2.ok.1 rfl;obtain⟨i,rfl,rfl⟩:=x.2.run rfl;obtain⟨m,a1,a2,a3⟩:=CI HK f;have n:l.length=s.ops.length:=(by rw[<-a3,<-i,Gz]);obtain⟨HN,HL⟩:=y7 (show yk s=_ by rw[yk,GP f]) (IT i (IT n f.2));have HD:Hid (∀y∈l,Bd y.1):=(λy hy=>m y.1 (by rw[<-i];exact List.mem_map_of_mem hy));have b7:P<=300:=(by have:=HV.out;have:=f.2;omega);clear f i n m;have HP:Hid (∀V,D W V->∀j p,ps[j]?=some p->∃g,oa=some (Qz g 0)/\j<on/\V.cell? (Qz g (j*6))=some (I (p.1.kind:Int))):=(λV M j p O=>by
    rcases HS.res.op.2 with⟨_,h0⟩|⟨g,a7,b0,z,_⟩;·rw[Ik h0]at O;cases O
    injection z with z Q h3;subst z Q;have f:=HS.res.op.cells (g:=g) rfl (j*6) (I (p.1.kind:Int)) ((eC (λp:sT×QN=>opC p.1 p.2) 6 (λ_=>rfl) ps j p O 0 Z).trans rfl);rw[Addr.add_mid,Oi]at f;exact⟨g,rfl,(Fz.1 O).1,NI M f⟩)
   go_wp2_with fail;go_loopw [4,25] (λf i wr=>∃(j:Nat)(a9:QP)(m9 c9:Nat),j<=P/\i=I (j:Int)/\f=.slice a9 m9 c9/\Hid (Ws W.heap.size wr (.slice a9 m9 c9) (qY ((s.ops.map λo=>(o.kind:Int)).take j) ((vX s).2.take j)))/\Hid (Rb9 s W X true l (.slice d P vc) _ _ m1 m2 m3 m4 m5 m6 wr)) (λ_ i _=>P-(intOf i).toNat);(case atStart=>exact⟨0,_,_,_,FH _,rfl,rfl,H (Ws.nil _ _),x⟩);case round=>
    clear x q0 q1;obtain⟨j,a9,m9,c9,hj,rfl,rfl,HO,x⟩:=hrel;by_cases b4:j<P
    ·have b5:(j:Int)<(P:Int):=Z;obtain⟨y,hy⟩:∃y,l[j]?=some y:=⟨l[j]'(by have:=HV.out;omega),by simp[<-HV.out,b4]⟩;obtain⟨p,O⟩:∃p,ps[j]?=some p:=by
      have z:=congrArg List.length HS.res.eq;have Q:=HL.2.1;have h3:=HV.out;rw[Gz]at z;exact⟨ps[j]' Z,bH⟩
     have v:=FM hy;have a4:=FM O;obtain⟨og,rfl,b9,ck⟩:=HP.out wr x.2.bel j p O;obtain⟨g,rfl⟩:∃g,d=some (Qz g 0):=by
      rcases x.2.row.2 with⟨z,Q⟩|⟨g,a7,b0,z,_⟩;·have:=HV.out;omega
      injection z with z;exact⟨g,z⟩
     have m:∀i,i<4->wr.cell? (Qz g (j*4+i))=(aC y)[i]?:=λi hi=>by
      have n:=eC aC 4 (λ_=>rfl) l j y hy i hi;obtain⟨u,hu⟩:∃u,(aC y)[i]?=some u:=⟨(aC y)[i]'(by simpa[aC]using hi),bH⟩;have f:=x.2.row.cells (g:=g) rfl _ u (n.trans hu);rw[Addr.add_mid,Oi]at f;rw[f,hu]
     have d0:wr.cell? (Qz g (j*4))=some (I y.1.code):=m 0 Z;have d1:wr.cell? (Qz g (j*4+1))=some (U y.1.addr):=m 1 Z;have d2:wr.cell? (Qz g (j*4+2))=some (I y.1.size):=m 2 Z;have d3:wr.cell? (Qz g (j*4+3))=some y.2:=m 3 Z;obtain⟨ya,f,yc,A,n⟩:=ch (x.2.dat y v);clear n;rw[A]at d3;have c6:=(t wr x.2.bel).2.2.2.2.2.2;clear m;(go_upto_region 8 with fail);have xb:=ao wr (QL #[I y.1.code,U y.1.addr,I y.1.size,.slice ya f yc] 46);have b1:=(Fu wr.heap.size wr).alloc (Fv _) (QL #[I y.1.code,U y.1.addr,I y.1.size,.slice ya f yc] 46);generalize wr.alloc _=G at xb b1⊢;have bW:=az x.2.bel b1;have hw:=x.2.bel.size;have B1:=x.ky (Ky.below b1) (b1.mono hw);have O1:=HO.below b1;obtain⟨_,co,m⟩:=aF (HS.res.below bW).op rfl;have xs:=(HS.below bW).bx;have a5:=NI b1 ck;generalize hY:wr.heap.size=Y at*;have e0:G.cell? (Qz Y 0)=some (I y.1.code):=bJ xb;have e1:G.cell? (Qz Y 1)=some (U y.1.addr):=bJ xb;have e2:G.cell? (Qz Y 2)=some (I y.1.size):=bJ xb;have e3:G.cell? (Qz Y 3)=some (.slice ya f yc):=bJ xb;have a6:=(t G bW).2.2.2.2.2.2;have T:Hid (∀V:QM,V.heap[Y]?=G.heap[Y]?->V.heap[S]?=G.heap[S]?->V.heap[og]?=G.heap[og]?->V.cell? (Qz S 6)=some (Vl og on oc)/\V.cell? (Qz og (j*6))=some (I (p.1.kind:Int))/\V.cell? (Qz Y 0)=some (I y.1.code)/\V.cell? (Qz Y 1)=some (U y.1.addr)/\V.cell? (Qz Y 2)=some (I y.1.size)/\V.cell? (Qz Y 3)=some (.slice ya f yc)):=(λV z Q h3=>by
      rw[nD z,nD z,nD z,nD z,nD Q,nD h3];exact⟨a6,a5,e0,e1,e2,e3⟩)
     have bd:=HD.out y v;have kd:=(HK.ops p.1 (by rw[<-HS.res.eq];exact List.mem_map_of_mem a4)).kd;have n:=Kd W.heap.size (p.1.kind:Int) y.1 ya f yc G.drew bd Z (HT.below bW.drew) (by have:=ax (B1.2.dat y v) (Fu _ _).drew;rwa [A]at this);have HE:=H (Ch (ks:=s.ops.map λo=>(o.kind:Int)) (an:=(vX s).2) (j:=j) (k:=(p.1.kind:Int)) (a:=y.1) (by rw[<-HS.res.eq];simp[O]) (by rw[<-HL.1];simp[hy]));have a0:=H (show(qY ((s.ops.map λo=>(o.kind:Int)).take j) ((vX s).2.take j)).length<=2000000 by simp[qY];omega);generalize OI (p.1.kind:Int) y.1=R at*;generalize (p.1.kind:Int)=b6 at*;generalize y.1.code=q at*;generalize (y.1.addr:Int)=r at*;generalize (y.1.size:Int)=S0 at*;obtain⟨L,B1,O1,K⟩:=Qf (IT xb (IT m xs)) B1 O1 bW;clear d0 d1 d2 d3 c6 xb b1 ck e0 e1 e2 e3 a6 a5 m xs HO x bd v a4 hy O A bW;go_wp2_with fail;refine rh (S:=λV:QM=>V.cell? (Qz S 6)=some (Vl og on oc)/\V.cell? (Qz og (j*6))=some (I b6)/\V.cell? (Qz Y 0)=some (I q)/\V.cell? (Qz Y 1)=some (U r)/\V.cell? (Qz Y 2)=some (I S0)/\V.cell? (Qz Y 3)=some (.slice ya f yc)) ?_;have F:=T.out G.drew rfl rfl rfl;(iterate 10 (refine py F ?_;simp only[f0,f1,Nat.reduceAdd,lz,l0,ls]));refine po 10 λK' w=>?_;go_simp;refine n.mono ?_;rintro e V2⟨rfl,b2⟩;have m:=az ((Fu G.heap.size G).drew) b2;refine w _ _ ⟨T V2 (m.block _ (G_ L.1)) (m.block _ L.2.2.lt) (m.block _ (G_ L.2.1)),?_⟩;clear w K' F;refine po 11 λK' w=>?_
     go_simp;have b3:=(Fu V2.heap.size V2).alloc (Fv _) (QL #[.string (bs R)] 9);have A:=az m b3;refine w _ _ ⟨T _ (A.block _ (G_ L.1)) (A.block _ L.2.2.lt) (A.block _ (G_ L.2.1)),?_⟩;clear w K';obtain⟨a8,m8,c8,b,v,o8,k8,b8⟩:=(O1.below m).add R (Fx K.size m.size) a0;have hU:∀{g:Nat}{c:Array QN}{t:QO},G.heap[g]?=some (QL c t)->¬t=9->b.heap[g]?=G.heap[g]?:=λz Q=>by
      rw[k8.cells _ _ _ _ ((m.block _ (G_ z)).trans z) Q,z]
     have F:=T.out b (hU L.1 ar) (hU L.2.2 ar) (hU L.2.1 ar);refine gu 12 ?_;refine fq rfl rfl _ _ rfl rfl rfl rfl v ⟨F,?_⟩;refine py F ?_;simp only[f0,f1,Nat.reduceAdd,lz,l0,ls];refine bY ?_;rw[<-HE.out]at o8;obtain⟨O8,B8⟩:=y7 o8 ((B1.ky (Ky.below m) (m.mono K.size)).ky k8 b8);clear v o8 k8 b8 F hU A b3 m b2 n;go_wp2_with fail;go_roundw;(case rel=>exact⟨j+1,a8,m8,c8,Z,aY,rfl,O8,B8⟩);case measure=>exact QE
    obtain rfl:j=P:=Z;have b5:¬(j:Int)<(j:Int):=Z;obtain⟨cm,hc⟩:=Qa (bz (vX s).1.m 283);obtain⟨us,hu⟩:=Qa ((vX s).1.used);have HF:=H (show yk s=qY ((s.ops.map λo=>(o.kind:Int)).take j) ((vX s).2.take j)++[JX cm us] by
     have z:=HV.out;have Q:=HL.2.1;rw[HN,Ge (by rw[Gz];omega),Ge Z,hc,hu])
    have a0:=H (show(qY ((s.ops.map λo=>(o.kind:Int)).take j) ((vX s).2.take j)).length<=2000000 by simp[qY];omega);rw[hc]at x a1;rw[hu]at x a2;have T:Hid (∀V:QM,V.heap[X]?=wr.heap[X]?->V.cell? (Qz X 2)=some (I cm)/\V.cell? (Qz X 9)=some (I us)):=(λV z=>by
     rw[nD z,nD z,GT _ _ _ _ _ _ x.1,GT _ _ _ _ _ _ x.1];exact QB)
    obtain⟨L,K⟩:=y7 (G_ x.1) x.2.bel;have c:=wT cm Z wr.drew (HT.below K.drew);have f:=H (λV M=>wT us Z V (HT.below M));obtain⟨n,r⟩:=Qa ([99,111,109,109,105,116,116,101,100,32]++dec cm);obtain⟨Y,G⟩:=Qa (n++[32,117,115,101,100,32]);obtain⟨R,hR⟩:=Qa (Y++dec us);have q:JX cm us=R:=(by rw[<-hR,<-G,<-r];rfl);rw[q]at HF;have t1:(⟨#[99,111,109,109,105,116,116,101,100,32]⟩:ByteArray)++bs (dec cm)=bs n:=zl [99,111,109,109,105,116,116,101,100,32] (dec cm) r;have t2:bs n++(⟨#[32,117,115,101,100,32]⟩:ByteArray)=bs Y:=zl n [32,117,115,101,100,32] G;have t3:bs Y++bs (dec us)=bs R:=zl Y (dec us) hR;have n1:=ER 10 cm Z Z;have a4:=kX cm Z;have a5:=kX us Z;have la:n.length<=30:=(by rw[<-r];simp;omega);have lb:Y.length<=36:=(by rw[<-G];simp;omega);have n2:¬9223372036854775807<(bs n).size+6:=(by rw[gz];omega);have n3:¬9223372036854775807<(bs Y).size+(bs (dec us)).size:=(by rw[gz,gz];omega);clear r G hR q hc hu a1 a2 a4 a5 la lb a3;generalize ((cm:Nat):Int)=q at*;generalize ((us:Nat):Int)=r at*;go_wp2_with fail;refine rh (S:=λV:QM=>V.cell? (Qz X 2)=some (I q)/\V.cell? (Qz X 9)=some (I r)) ?_;have F:=T.out wr.drew rfl;(iterate 3 (refine py F ?_;simp only[f0,f1,Nat.reduceAdd,lz,l0,ls]));refine pq 4 F ?_;simp only[lz,l0,ls];refine pq 5 F ?_;simp only[lz,l0,ls];refine pq 6 F ?_;simp only[lz,l0,ls];refine po 3 λK' w=>?_;go_simp;refine c.mono ?_;rintro e V2⟨rfl,b2⟩;have m:=az ((Fu wr.heap.size wr).drew) b2;refine w _ _ ⟨T V2 (m.block _ L),?_⟩;clear w K' F;refine po 7 λK' w=>?_
    go_simp;refine(f V2 (az K m)).mono ?_;rintro e G⟨rfl,b3⟩;have A:=az m b3;have F:=T.out G (A.block _ L);refine w _ _ ⟨F,?_⟩;clear w K';refine pk 8 (.string (bs (dec cm))) F ?_;refine pk 9 (.string (bs (dec us))) F ?_;refine bY ?_;obtain⟨a8,m8,c8,b,v,o8,k8,b8⟩:=(HO.below A).add R (Fx K.size A.size) a0;rw[<-HF.out]at o8;obtain⟨O8,B8⟩:=y7 o8 ((K.trans (A.mono K.size)).trans b8);clear o8 k8 b8 F m A b2 b3 c;go_wp2_with (at_builtin;refine it rfl (.tmp 52) (.tmp 58) (by with_reducible rfl) rfl rfl rfl v ?_);go_ret;exact⟨_,_,_,rfl,O8,B8⟩
def GA:List UInt8:=[63,32,115,99,114,105,112,116,10]
def sH(s:rP):List (List UInt8):=m_ s.bad++yk s
def tell(l:List UInt8):List UInt8:=if 20000<l.length then GA else joinL (sH (kI l))
theorem AP(k){a}(b:Bd a):(OI k a).length<=9000:=by
 have⟨d,e,c,sz,_,f⟩:=b;have g:=kX a.code.toNat Z;have i:=kX a.size Z;have j:=kX a.addr c;have l:=Di a.data;unfold OI six
 repeat' split
 all_goals(simp;try omega)
theorem y8{s}(k:J8 s)(f:s.bad.length<=20000):(sH s).length<=20301/\0<(yk s).length/\∀x∈sH s,x.length<=9000:=by
 have b:∀x∈m_ s.bad,x.length<=9000:=λx a=>by
  obtain⟨n,c,rfl⟩:=FQ.1 a;have:=k.bad n c;have:=kX n.toNat Z;simp;omega
 unfold sH yk;split
 ·rename_i h;have⟨d,g,i,j⟩:=CI k h;have:=h.2;refine⟨by simp[m_,qY];omega,bH,λx a=>?_⟩;rcases F8.1 a with a|a;·exact b x a
  rcases F8.1 a with a|a;·obtain⟨y,e,rfl⟩:=FQ.1 a;exact AP _ (d _ (List.of_mem_zip e).2)
  rw[List.mem_singleton.1 a];have:=kX (bz (vX s).1.m 283) Z;have:=kX (vX s).1.used Z;simp[JX];omega
 refine⟨by simp[m_];omega,bH,λx a=>?_⟩;rcases F8.1 a with a|a;·exact b x a
 rw[List.mem_singleton.1 a];simp
theorem sf:∀ls:List (List UInt8),(∀x∈ls,x.length<=9000)->(joinL ls).length<=ls.length*9001
 |[],h=>by simp[joinL]
 |x::r,h=>by
  have c:=h x bH
  have a:=sf r λy b=>h y (by simp[b])
  unfold joinL at*
  simp at a⊢
  omega
theorem JU{ls:List (List UInt8)}{j:Nat}{x:List UInt8}(h:ls[j]?=some x):joinL (ls.take (j+1))=joinL (ls.take j)++x++[10]:=by
 rw[F_,h];simp[joinL]
theorem Nb(W:QM)(l):RowM (Lib.bytesWorld W 5 (bs l)) W.heap.size (bv l)/\D W (Lib.bytesWorld W 5 (bs l)):=by
 refine⟨⟨_,_,Lib.bytesWorld_at_new W 5 (bs l),by simp[Lib.bytesCells,bv,bs],λi a=>?_,.inl (by simp[Lib.bytesCells,bv,bs])⟩,rfl,rfl,rfl,by rw[Lib.bytesWorld_size];omega,λk b=>Lib.bytesWorld_at_old W 5 (bs l) k b⟩;rw[rb]at a;simp[Lib.bytesCells,Array.getElem?_append,bs,bv,a]
theorem Ws.all{u ls ms}(h:Ws B W v ls)(r:Ws B W u ms)(n:0<ms.length)(f:B<=W.heap.size)(p:ls.length+ms.length<=2000000):∃a m c W',QI 58 v u W (.slice a m c) W'/\Ws B W' (.slice a m c) (ls++ms)/\Ky (· =9) W W'/\Below B W W':=by
 rcases r.2 with⟨_,q⟩|⟨g,b,j,k,_⟩;·omega
 subst k;have⟨s,W',e,o,i⟩:=KZ LZ h f (Qz g 0) ms.length b (ms.map wg) bH (λj u d=>r.cells rfl j u d) (λu d=>by obtain⟨x,_,rfl⟩:=FQ.1 d;rfl) Z;obtain⟨a,m,c,rfl,_⟩:=ch o;exact⟨a,m,c,W',e,by unfold Ws;rw[Hr,FC];exact o,Ky.grownO (λP a=>by obtain⟨_,c,l⟩:=aF h a;exact⟨c,9,_,l,rfl⟩) i,(Fu B W).grown i f (λr a=>(aF h a).1)⟩
theorem Ws.mono{a:Nat}{ls}(h:Ws B W v ls)(b:a<=B):Ws a W v ls:=ia h b
theorem Bu.ky{S B b l W W'}(h:Bu B b l W)(k:Ky S W W')(a:¬S 5)(c:¬S 57):Bu B b l W':=by
 have⟨p,v,d,e,f,g⟩:=h;exact⟨p,v,d,k.cells _ _ _ _ e c,f.ky k a,g⟩
def Tr(l:List UInt8)(W:World)(e:Ending)(W':World):Prop:=∃i c',e=.returned (Vl i (tell l).length c')/\W.heap.size<=i/\RowM W' i (bv (tell l))/\D W W'
theorem LJ(l g c)(L a1:Addr)(mx W)(r:RowV W g 5 (bv l))(n:l.length<=1048576)(q:QG W 0 0 (.iface 392 (.pointer (some L))))(u:QG W 1 0 (.iface 392 (.pointer (some a1))))(o:QG W 2 0 (I mx))(p:PtW W)(t:Tb W)(z:6<W.heap.size):
  QA 6 #[Vl g l.length c] W (Tr l W):=by
 have v:=run_convert_bytes_back (P:=prog) W 22 9 5 (Qz g 0) c l underlying22 underlying5 underlying9 (λj Q=>by rw[Lib.add_plain,Oi,r.cell j (by rw[rb];exact Q),uE _ _ Q]);by_cases b:20000<l.length;·have a:=Jq (bs l) (.iface 392 (.pointer (some L))) W (by rw[gz];exact b) (by rw[gz];exact n) q;have X:=H (show tell l=GA by unfold tell;rw[GP b]);go_enter func6,ntmps6;go_wp2_with fail;refine a.mono ?_;rintro e V⟨rfl,d⟩;have c0:=NI d q;have f:=Jt L V;have k:=Lib.run_convert_bytes_const (P:=prog) V 22 5 #[.int .u8 63,.int .u8 32,.int .u8 115,.int .u8 99,.int .u8 114,.int .u8 105,.int .u8 112,.int .u8 116,.int .u8 10] 9 9 underlying22 underlying5;go_wp2_with fail;refine f.mono ?_;rintro e V2⟨rfl,rfl⟩;go_wp2_with fail;go_ret;unfold Tr;rw[X];exact⟨_,9,rfl,d.size,⟨_,_,ao _ _,ar,λi m=>List.getElem?_toArray (xs:=bv GA),.inl ar⟩,d.alloc d.size _⟩
 have m:l.length<=20000:=Z;have a:=Lu (bs l) a1 mx W (by rw[gz];exact m) u o;rw[kO]at a;have X:=H (show tell l=joinL (sH (kI l)) by unfold tell;rw[GO b]);have⟨M,T,A,F⟩:=Qf (Jy l) (Ju l) p t;generalize kI l=s at*;go_enter func6,ntmps6;go_wp2_with fail;refine a.mono ?_;rintro e V⟨S,B,dv,ov,bd,ps,rfl,x,d,t⟩;have c0:=NI d q;have f:=Ko L V;go_wp2_with fail;refine f.mono ?_;rintro e w⟨rfl,rfl⟩;go_upto_region 5 with fail
 have r:=ao w (QL #[.pointer none,C] 57);have o:=(Fu w.heap.size w).alloc (Fv _) (QL #[.pointer none,C] 57);generalize w.alloc _=V1 at r o⊢;have p:=az d o;have n:=t.below o;have N:Bu W.heap.size w.heap.size [] V1:=⟨_,_,.inl rfl,r,ObW.nil _ _,d.size⟩;have y:=H p.size;generalize w.heap.size=b at*;have m:=Kq B S V1 s dv ov bd ps n M T (A.below p);have⟨v,N,BW⟩:=Qe n N p;go_wp2_with fail;refine m.mono ?_;rintro e V2⟨n,cm,cc,rfl,wc,x⟩;have p:=az BW x;have o:=Ls B S V2 s dv ov bd ps (v.below x) M (A.below p) (F.below p) (FG z p.size);have⟨r,B2,t⟩:=Qe wc x p;go_wp2_with fail;refine o.mono ?_;rintro e V3⟨ra,rm,rc,rfl,z,A⟩;have x:=y8 M T;have F:(m_ s.bad).length+(yk s).length<=2000000:=by have:=x.1;unfold sH at this;simp at this;omega
 have⟨a9,p,c9,V4,m,O,k9,b9⟩:=((r.below A).mono (y)).all (z.mono (t.size)) x.2.1 (Fx t.size A.size) F;change Ws _ _ _ (sH s)at O;obtain⟨R,rfl,v⟩:∃R,a9=some (Qz R 0)/\(sH s).length=p:=by
  rcases O.2 with⟨_,q⟩|⟨R,G,K,u,_⟩;·have:=x.2.1;unfold sH at q;simp at q;rw[q.2]at this;cases this
  injection u with u Y;exact⟨R,u,Y.symm⟩
 have G:=H (((N.ky (Ky.below B2.out:Ky (λ_=>False) _ _) (λe=>e) (λe=>e)).ky (Ky.below A:Ky (λ_=>False) _ _) (λe=>e) (λe=>e)).ky k9 ar ar);have⟨K,O9,Y⟩:=Qe ((az t A).trans b9) O v;have hN:p<=20301:=by rw[<-v];exact x.1
 have HM:=H x.2.2;generalize sH s=ls at*;go_wp2_with (at_builtin;refine it rfl (.tmp 20) (.tmp 22) (by with_reducible rfl) rfl rfl rfl m ?_);go_loopw [25] (λi wr=>∃j:Nat,j<=p/\i=I (j:Int)/\Hid (Ws W.heap.size wr (Vl R p c9) ls)/\Hid (Bu W.heap.size b (joinL (ls.take j)) wr)/\Hid (D W wr)) (λi _=>p-(intOf i).toNat);case atStart=>exact⟨0,FH _,rfl,O9,G,K⟩
 case round=>
  obtain⟨j,Q,rfl,z,t,r⟩:=hrel;by_cases A:j<p
  ·have F:(j:Int)<(p:Int):=Z;obtain⟨x,v⟩:∃x,ls[j]?=some x:=⟨ls[j]'(by have:=Y.out;omega),by simp[Y.out,A]⟩;have cx:wr.cell? (Qz R j)=some (.string (bs x)):=by
    have:=z.cells (g:=R) rfl j (wg x) (by simp[v]);rwa [Addr.add_mid,Oi]at this
   have M:=HM.out x (FM v);have m:=sf (ls.take j) λy O=>HM.out y (List.mem_of_mem_take O)
   have o:(joinL (ls.take j)).length<=182738301:=by
    refine Fx m ?_;rw[Hm];have:min j ls.length*9001<=20301*9001:=Gm _ Z;omega
   have N:=Lt W.heap.size b (joinL (ls.take j)) (bs x) wr t r.size (by rw[gz];omega);rw[kO]at N;have T:=H (JU v);have HQ:=H (show(joinL (ls.take j)++x).length<=1999999999 by rw[FC];omega);go_wp2_with fail;refine N.mono ?_;rintro e M⟨rfl,u5,v,m⟩;have o:=K9 W.heap.size b _ 10 M u5 (Fx r.size m.size) HQ;rw[show((10:UInt8).toNat:Nat)=10 from rfl]at o;have⟨K5,B5⟩:=y7 v m;go_wp2_with fail;refine o.mono ?_;rintro e V6⟨rfl,u6,m,v⟩;rw[<-T.out]at u6;have⟨N,O6,B6⟩:=Qe u6 (ai (ai z K5 ar) m ar) ((r.trans B5).trans v);go_wp2_with fail;go_roundw;(case rel=>exact⟨j+1,Z,aY,O6,N,B6⟩);case measure=>exact QE
  obtain rfl:j=p:=Z;have F:¬(j:Int)<(j:Int):=Z;have m:=t.out;rw[Ge (by have:=Y.out;omega),<-X.out]at m;have v:=LL W.heap.size b (tell l) wr m r.size;go_wp2_with fail;refine v.mono ?_;rintro e t⟨rfl,x⟩;have k:=Lib.run_convert_string_bytes (P:=prog) t 9 22 5 (bs (tell l)) underlying9 underlying22 underlying5;rw[gz]at k;have y:=Nb t (tell l);generalize hT:tell l=T at*;have m:=H hT;generalize Lib.bytesWorld _ _ _=M at*;have⟨z,o⟩:=y7 y (r.trans x);go_wp2_with fail;go_ret;unfold Tr;rw[m];exact⟨_,_,rfl,o.size,z.1,o.trans (z.2.mono o.size)⟩
structure Oq(B lo:Nat)(W0 W:QM)(v:QN)(l:List UInt8):Prop where
 o:ObW B W v l
 ap:∀r,v.ownBlock=some r->r<lo\/W0.heap.size<=r
 win:∀k,lo<=k->k<W0.heap.size->W.heap[k]?=W0.heap[k]?
 bel:Below B W0 W
 hB:B<=W0.heap.size
theorem Oq.start{l}(h:ObW B W v l)(a:B<=W.heap.size)(b:∀r,v.ownBlock=some r->r<lo):Oq B lo W W v l:=⟨h,λr c=>.inl (b r c),λ_ _ _=>rfl,Fu _ _,a⟩
theorem Oq.below{B lo W0 W W' v l}(h:Oq B lo W0 W v l)(b:D W W'):Oq B lo W0 W' v l:=
 ⟨h.o.below b,h.ap,λk c a=>(b.block k (FG a h.bel.size)).trans (h.win k c a),h.bel.trans (b.mono (Fx h.hB h.bel.size)),h.hB⟩
def Ny(B lo:Nat)(W0 W:World)(T:TypeId)(v u:Value)(l:List UInt8):Prop:=∃a m c W',(Builtin.append_ #[22,T] 22 #[v,u]).run prog W=.ok (.slice a m c) W'/\Oq B lo W0 W' (.slice a m c) l/\Ky (· =5) W W'
theorem Oq.next{v' l l'}(h:Oq B lo W0 W v l)(o:ObW B W' v' l')(g:W.grownBy W' v.ownBlock)(e:v'.ownBlock=v.ownBlock\/∀r,v'.ownBlock=some r->W.heap.size<=r):Oq B lo W0 W' v' l':=by
 have b:=h.bel.size;refine⟨o,λr a=>?_,λk c d=>?_,h.bel.trans (h.o.tie (Fx h.hB b) g).2,h.hB⟩
 ·rcases e with e|e;·exact h.ap r (e▸a)
  have:=e r a;omega
 rw[g.block k Z (λa=>by have:=h.ap k a.symm;omega)];exact h.win k c d
theorem Oq.str{l}(h:Oq B lo W0 W v l)(s:ByteArray)(V:l.length+s.size<=2000000000):Ny B lo W0 W 9 v (.string s) (l++s.data.toList):=by
 have⟨y,b,i,d,k⟩:=G0 ql.info;have K:=Fx h.hB h.bel.size;have n:∀p,W.ownsRow p 5 1 v l.length (bv l)->p<=W.heap.size->∃a m c W',(Builtin.append_ #[22,9] 22 #[v,.string s]).run prog W=.ok (.slice a m c) W'/\ObW p W' (.slice a m c) (l++s.data.toList)/\W.grownBy W' v.ownBlock:=λp M z=>by
  have⟨j,f,e,o,g,_⟩:=Lib.run_append_own_string (P:=prog) (w:=W) p 22 9 22 5 y ql.und underlying9 b i d k v _ _ M s (by unfold maxLen;omega) Z z;obtain⟨a,m,c,rfl,_⟩:=ch o;exact⟨a,m,c,f,e,by unfold ObW;rw[show bv (l++s.data.toList)=bv l++Lib.strCells s by simp[bv,Lib.strCells],FC];exact o,g⟩
 have⟨a,m,c,W',e,o,g⟩:=n B h.o K;refine⟨a,m,c,W',e,h.next o g ?_,(h.o.tie K g).1⟩;rcases h.o.2 with⟨rfl,N⟩|⟨q,f,A,rfl,O,Q,R,S,T,F⟩
 ·have⟨X,Y,c2,W2,j,L,_⟩:=n W.heap.size ⟨h.o.1,.inl ⟨rfl,N⟩⟩ (Fv _);rw[e]at j;injection j with t G;subst G;rw[t];exact .inr λr x=>(aF L x).1
 by_cases x:l.length+s.size<=f
 ·rw[Lib.run_append_room_string W 22 9 22 5 y ql.und underlying9 b d q _ f A Q s x Z]at e;injection e with t G;rw[<-t];exact .inl rfl
 rw[Lib.run_append_grow_string W 22 9 22 5 y _ ql.und underlying9 b i (Qz q 0) _ f (bv l) (by rw[d,rb];omega) (λj u L=>by
  rw[Addr.add_mid,Oi,(RowV.ofOwns h.o).cell j (Fz.1 L).1];exact L) s Z Z (by rw[k];exact growslice_fits Z Z)]at e
 injection e with t G;rw[<-t];exact .inr λr x=>by simp[Value.ownBlock]at x;omega
theorem Oq.row{l}(h:Oq B lo W0 W v l){g c l2}(r:RowV W g 5 (bv l2))(t:l.length+l2.length<=2000000000):Ny B lo W0 W 22 v (Vl g l2.length c) (l++l2):=by
 have⟨q,d,f,i,k⟩:=G0 ql.info;have n:=Fx h.hB h.bel.size;have⟨w,s,e,o,p,_,hv⟩:=run_append_own_at (P:=prog) W B 22 22 5 q _ 1 1 ql.und d f i k rfl Z v _ _ h.o (Qz g 0) l2.length c (bv l2) (by simp[bv]) (λj u a=>by
  rw[Addr.add_mid,Oi,r.cell j (Fz.1 a).1];exact a) (λu a=>by simp[bv]at a;obtain⟨b,_,rfl⟩:=a;rfl) (by unfold maxLen;omega) Z n
 obtain⟨a,m,c,rfl,_⟩:=ch o;refine⟨a,m,c,s,e,h.next (by unfold ObW;rw[show bv (l++l2)=bv l++bv l2 by simp[bv],FC];exact o) p (hv.imp id λe r b=>?_),(h.o.tie n p).1⟩;rw[e]at b;injection b with b;omega
theorem Oq.one{l}(h:Oq B lo W0 W v l)(l2:List UInt8)(a:l.length+l2.length<=2000000000):Ny B lo W0 (W.alloc (QL (bv l2).toArray 5)) 22 v (Vl W.heap.size l2.length l2.length) (l++l2):=
 (h.below ((Fu _ _).alloc (Fv _) _)).row (Jd W l2) a
theorem Oq.num{l}(h:Oq B lo W0 W v l)(s:ByteArray)(n:Nat)(w:n<18446744073709551616)(A:l.length<=1000000000)(F:s.size<=100):∃a m c b,(Builtin.append_ #[22,9] 22 #[v,.string s]).run prog W=.ok (.slice a m c) b/\Ky (· =5) W b /\
  QA 11 #[U (n:Int)] b λe j=>∃p g q r t i,e=QJ (Vl p (dec n).length g)/\D b j/\QI 22 (.slice a m c) (Vl p (dec n).length g) j (.slice q r t) i/\Oq B lo W0 i (.slice q r t) (l++s.data.toList++dec n)/\Ky (· =5) j i:=by
 have⟨a,m,c,b,d,o,k⟩:=h.str s Z;refine⟨a,m,c,b,d,k,(JG n w b).mono ?_⟩;rintro e j⟨p,g,rfl,f,x⟩;have G:=kX n w;have⟨q,r,t,i,u,y,z⟩:=(o.below x).row (c:=g) (RowV.ofOwns f) (by have:s.data.toList.length=s.size:=rfl;simp only[FC];omega);exact⟨p,g,q,r,t,i,rfl,x,u,y,z⟩
theorem pV{P:Program}{t u:QO}{b:Array Oper}{Q:Exit->Act->QM->Prop}{i:Nat}{o:Oper}{K:Act->QM->Prop}{a:Act}(j:b[i]?=some o)(c:o.guard=none)(s x:Operand)
  (k:o.op=.call {callee:=.builtin .append,args:=#[s,x],argTypes:=#[t,u]}) (l:o.type=t) {e f:QN} {g:QM} (m:a.eval s=v) (n:a.eval x=e)
  (p:(Builtin.append_ #[t,u] t #[v,e]).run P w=.ok f g) (q:K (a.put o.dst f) g):wpOp P b Q i K a w:=by
 refine fO j (by simp[Region.wanted,c]) (λK' d=>?_);unfold Oper.wp;simp[execOp,k,l,resolve,invoke,builtin,m,n,p,Result.andThen];exact d _ _ q
theorem Res.lowB{b:Nat}{s dv ov bd ps}(h:Res B W s dv ov bd ps)(a:b<=B):Res b W s dv ov bd ps:=
 ⟨ia h.dt a,ia h.op a,h.eq,λp c=>ia (h.dd p c) a,ia h.bdo a,h.ap,h.pw⟩
theorem Tr.of{l V1 U}{a:QP}{m c:Nat}(b:D W V1)(d:D V1 W0)(o:Oq V1.heap.size lo W0 U (.slice a m c) (tell l))(e:tell l≠[]):Tr l W (QJ (.slice a m c)) U:=by
 obtain⟨g,rfl,rfl⟩:=o.o.isS e;exact⟨g,c,rfl,Fx b.size (aF o.o rfl).1,(RowV.ofOwns o.o).m,b.trans ((d.trans o.bel).mono b.size)⟩
theorem wh(a b:List (List UInt8)):joinL (a++b)=joinL a++joinL b:=by simp[joinL]
def Li(ys:List Int)(q:Nat):List UInt8:=if q=0 then[]else[32]++uy (ys.take q)
theorem Lv(l g c W)(r:RowV W g 5 (bv l))(f:l.length<=1048576)(e:Tb W)(h6:6<W.heap.size):
  QA 4 #[Vl g l.length c] W (Tr l W):=by
 by_cases d:20000<l.length
 ·have HT:=H (show tell l=GA by unfold tell;rw[GP d]);have h9:decide ((l.length:Int) > 20000)=true:=bG;have b:=Lib.run_convert_bytes_const (P:=prog) W 22 5 #[.int .u8 63,.int .u8 32,.int .u8 115,.int .u8 99,.int .u8 114,.int .u8 105,.int .u8 112,.int .u8 116,.int .u8 10] 9 9 underlying22 underlying5;clear r e h6 d f;go_enter func4,ntmps4;go_wp2_with fail;go_ret;unfold Tr;rw[HT];exact⟨_,9,rfl,Fv _,⟨_,_,ao _ _,ar,λi hi=>List.getElem?_toArray (xs:=bv GA),.inl ar⟩,(Fu _ _).alloc (Fv _) _⟩
 have b:=EH g l.length c l W rfl d r;have h9:¬(20000:Int)<(l.length:Int):=Z;have HT:=H (show tell l=joinL (sH (kI l)) by unfold tell;rw[GO d]);have⟨HK,HL,HB⟩:=Qe (Jy l) (Ju l) (IT e h6);generalize kI l=s at*;clear r e d f h6;go_enter func4,ntmps4;go_upto_region 4 with fail
 refine b.mono ?_;rintro e V⟨dv,ov,bd,ps,rfl,rs,d⟩;obtain⟨da,dn,dc,rfl,f⟩:=ch rs.dt;have o:=H (ao V (QL jx.toArray 30));have HA:(OD s.cf (.slice da dn dc)).toArray.all (·.oneCell')=true:=by simp[OD,Value.oneCell']
 have j:(OD s.cf (.slice da dn dc)).toArray.size=6:=rfl;have⟨CA,n⟩:=Qa ((OD s.cf (.slice da dn dc)).toArray);rw[n]at HA j⊢;clear b f;go_upto_region 4 with(refine Gf rfl 30 _ _ rfl _ _ rfl rfl 30 _ o (by rw[j];kernel_rfl) (by rw[j];rfl) HA ?_)
 have⟨Q,m⟩:=Qa ((V.alloc (QL jx.toArray 30)).setRow V.heap.size CA);have b:Q.heap[V.heap.size]?=some (QL CA 30):=by rw[<-m];exact aw o CA
 have b1:D V Q:=by rw[<-m];exact((Fu V.heap.size V).alloc (Fv _) (QL jx.toArray 30)).grown (aj _ V.heap.size CA) bH (λq e=>by cases e;exact Fv _)
 refine Eq.mp (congrArg _ m.symm) ?_;have⟨HC,b2,BV⟩:=Qe (IT b n) (rs.below b1) (az d b1);generalize V.heap.size=f at*;clear m b b1 rs d n HA j h9;obtain⟨ba,bc,rfl,j,_⟩:=JC b2.bdo;have HS:Hid (∀d,D Q d->∀i n,s.bad[i]?=some n->∃g,ba=some (Qz g 0)/\d.cell? (Qz g i)=some (I n)):=(λd m i n hi=>by
  have⟨g,h1,h2⟩:=j.cells i (Fz.1 hi).1;rw[hi]at h2;exact⟨g,h1,NI m h2⟩)
 clear j;generalize j:s.bad.length=n at*;have HN:=H j;have g9:n<=20000:=HL.out;clear j;go_wp2_with fail;go_loopw [6,27] (λlv i wr=>∃(j:Nat)(a9:QP)(m9 c9:Nat),j<=n/\i=I (j:Int)/\lv=.slice a9 m9 c9/\Hid (Oq Q.heap.size Q.heap.size Q wr (.slice a9 m9 c9) (joinL (m_ (s.bad.take j))))) (λ_ i _=>n-(intOf i).toNat);case atStart=>exact⟨0,_,_,_,FH _,rfl,rfl,H (Oq.start (ObW.nil _ _) (Fv _) (λr hr=>by cases hr))⟩
 case round=>
  obtain⟨j,a,m,c,z,rfl,rfl,HO⟩:=hrel;by_cases b5:j<n
  ·have i0:(j:Int)<(n:Int):=Z;obtain⟨x,hx⟩:∃x,s.bad[j]?=some x:=⟨s.bad[j]'(by have:=HN.out;omega),by simp[HN.out,b5]⟩;obtain⟨L,rfl,cx⟩:=HS.out wr HO.bel j x hx;have w:=HK.bad x (FM hx);have B:IntKind.u64.wrap x=x:=(by rw[IntKind.wrap_u64];omega);have HJ:=H (show joinL (m_ (s.bad.take (j+1)))=joinL (m_ (s.bad.take j))++[63,32]++dec x.toNat++[10] by
    rw[F_,hx];simp[joinL,m_])
   have b9:=sf (m_ (s.bad.take j)) λy hy=>by
    obtain⟨n9,d4,rfl⟩:=FQ.1 hy;have:=HK.bad n9 (List.mem_of_mem_take d4);have:=kX n9.toNat Z;simp;omega
   have o:(joinL (m_ (s.bad.take j))).length<=1000000000:=by
    have:(m_ (s.bad.take j)).length*9001<=20000*9001:=Gm _ (by simp[m_];omega);omega
   have p:=kX x.toNat Z;have⟨a1,m1,c1,F,M,o1,_⟩:=HO.str ⟨#[63,32]⟩ (by have:(⟨#[63,32]⟩:ByteArray).size=2:=rfl;omega);have t:=JG x.toNat Z F;rw[IK w.1]at t;have⟨H1,v⟩:=y7 o1 (IT o p);clear o1 hx w b9 o p HO z;go_wp2_with (at_builtin;refine it rfl (.tmp 31) (.const (.string ⟨#[63,32]⟩)) (by with_reducible rfl) rfl rfl rfl M ?_);refine t.mono ?_;rintro e U2⟨g2,c2,rfl,o,bt⟩;have⟨G,m2,c3,U3,O,T,_⟩:=(H1.below bt).row (c:=c2) (RowV.ofOwns o) (by have:=v.out;simp;omega);have⟨w,m3,c4,U4,p,A,_⟩:=T.one [10] (by have:=v.out;simp;omega);have p:QI 22 (.slice G m2 c3) (Vl U3.heap.size 1 1) (U3.alloc (QL #[.int .u8 10] 5)) (.slice w m3 c4) U4:=p;have K:=H (show Oq Q.heap.size Q.heap.size Q U4 (.slice w m3 c4) (joinL (m_ (s.bad.take (j+1)))) by rw[HJ];exact A);clear t T A o bt M cx;go_wp2_with (at_builtin;first|refine it rfl (.tmp 32) (.tmp 35) (by with_reducible rfl) rfl rfl rfl O ?_|refine it rfl (.tmp 36) (.tmp 37) (by with_reducible rfl) rfl rfl rfl p ?_);go_roundw;(case rel=>exact⟨j+1,w,m3,c4,Z,aY,rfl,K⟩);case measure=>exact QE
  obtain rfl:j=n:=Z;have i0:¬(j:Int)<(j:Int):=Z;have HO:=H (show Oq Q.heap.size Q.heap.size Q wr (.slice a m c) (joinL (m_ s.bad)) by have:=HO.out;rwa [Ge (by have:=HN.out;omega)]at this);obtain⟨WR,i3⟩:∃W9:QM,W9=wr:=⟨wr,rfl⟩;subst i3;have b:=HO.bel.block f (G_ HC.1);have p:Hid (∀i,WR.cell? (Qz f i)=(OD s.cf (.slice da dn dc))[i]?):=(λi=>by rw[GT _ _ _ _ _ _ (b.trans HC.1),<-HC.2];simp);have A:WR.cell? (Qz f 0)=some (I s.cf.mix):=p.out 0;have c1:WR.cell? (Qz f 1)=some (I s.cf.fifo):=p.out 1;have c2:WR.cell? (Qz f 2)=some (I s.cf.large):=p.out 2;have c3:WR.cell? (Qz f 3)=some (I s.cf.budget):=p.out 3;have c4:WR.cell? (Qz f 4)=some (U (s.cf.key:Int)):=p.out 4;have c5:WR.cell? (Qz f 5)=some (.slice da dn dc):=p.out 5;have v:=az BV HO.bel;have o:=My s W.heap.size (.slice da dn dc) ov (.slice ba j bc) ps WR HK (b2.below HO.bel) (HB.1.below v) (FG HB.2 v.size);unfold OD at o;have B:=H v;clear b5 z v b;generalize s.cf.mix=x0 at A o;generalize s.cf.fifo=x1 at c1 o;generalize s.cf.large=x2 at c2 o;generalize s.cf.budget=x3 at c3 o;generalize (s.cf.key:Int)=x4 at c4 o;go_upto_region 11 with fail
  refine o.mono ?_;rintro e d⟨bb,l9,va,cm,us,m1,m2,m3,m4,m5,m6,rfl,rp⟩;have v:=(Fu d.heap.size d).alloc (Fv _) (QL zR 43);have p:=ao d (QL zR 43);have w:=rp.ky (Ky.below v) (v.mono rp.bel.size);have⟨RB,HA,z⟩:=Qe (Rb9.of p rp.bel.size w) w.all p;clear o A c1 c2 c3 c4 c5 w v p;go_upto_region 11 with(refine Gf rfl 43 _ _ rfl _ _ rfl rfl 43 _ z E rfl HA ?_)
  have⟨U2,o⟩:=Qa ((d.alloc (QL zR 43)).setRow d.heap.size #[.bool bb,va,I cm,m1,m2,m3,m4,m5,m6,I us]);rw[o]at RB;refine Eq.mp (congrArg _ o.symm) ?_;have i4:=G_ RB.1;have i5:=rp.bel.size;generalize d.heap.size=X at*;clear o rp;have OS:=H (Oq.start (lo:=WR.heap.size) (HO.o.below RB.2.bel) (Fx HO.bel.size RB.2.bel.size) (λr hr=>(aF HO.o hr).2.elim λc hc=>G_ hc));have q0:U2.cell? (Qz X 0)=some (.bool bb):=bJ RB.1;have B2:=H (HO.bel.trans (RB.2.bel.mono HO.bel.size));have b9:=y8 HK (by rw[HN];exact g9);have i6:(joinL (m_ s.bad)).length<=1000000000:=by
   have h1:=sf (m_ s.bad) (λx hx=>b9.2.2 x (IF _ hx));have:(m_ s.bad).length*9001<=20000*9001:=Gm _ (by simp[m_];have:=HN.out;omega);omega
  have HW:=H b9;clear b9;cases bb with
  |false=>
   have o:¬J7 s:=λh=>by have:=RB.2.ok.2 h;cases this
   have HE:=H (show tell l=joinL (m_ s.bad)++[63,32,104,101,97,112,10] by rw[HT,sH,wh,yk,GO o];rfl);have⟨a1,m1,c1,U3,M,o1,_⟩:=OS.str ⟨#[63,32,104,101,97,112,10]⟩ (by have:(⟨#[63,32,104,101,97,112,10]⟩:ByteArray).size=7:=rfl;omega);have H1:=H o1;clear o1 o;go_wp2_with (at_builtin;refine it rfl (.tmp 46) (.const (.string ⟨#[63,32,104,101,97,112,10]⟩)) (by with_reducible rfl) rfl rfl rfl M ?_);go_ret;exact Tr.of BV B2 (by rw[HE];exact H1) (by rw[HE];simp)
  | true =>
   have w:J7 s:=RB.2.ok.1 rfl;obtain⟨z,rfl,rfl⟩:=RB.2.run rfl;have⟨A,i7,e8,g1⟩:=CI HK w;have B:l9.length=s.ops.length:=(by rw[<-g1,<-z,Gz]);have HE:=H (show tell l=_ by rw[HT,sH,wh,yk,GP w,wh]);have HD:Hid (∀y∈l9,Bd y.1):=(λy hy=>A y.1 (by rw[<-z];exact List.mem_map_of_mem hy));obtain⟨v,N,vc,rfl,F⟩:=ch RB.2.row;have HV:=H (IT F (IT z B));have j8:N<=300:=(by have:=w.2;omega);have q1:U2.cell? (Qz X 1)=some (.slice v N vc):=bJ RB.1;have d6:Hid (∀j2,(joinL (m_ s.bad)++joinL (qY ((s.ops.map λo=>(o.kind:Int)).take j2) ((vX s).2.take j2))).length<=500000000):=(λj2=>by
    have h1:=sf (qY ((s.ops.map λo=>(o.kind:Int)).take j2) ((vX s).2.take j2)) (λx hx=>by
     obtain⟨y,hy,rfl⟩:=FQ.1 hx;exact AP _ (A _ (List.mem_of_mem_take (List.of_mem_zip hy).2)))
    have h2:(qY ((s.ops.map λo=>(o.kind:Int)).take j2) ((vX s).2.take j2)).length*9001<=300*9001:=Gm _ (by have:=w.2;simp[qY];omega);have h3:=sf (m_ s.bad) (λx hx=>HW.2.2 x (IF _ hx));have h4:(m_ s.bad).length*9001<=20000*9001:=Gm _ (by simp[m_];have:=HN.out;omega);rw[FC];omega)
   have HP:Hid (∀V,D Q V->∀j p,ps[j]?=some p->∃g on oc,ov=Vl g on oc/\g<Q.heap.size/\j<on/\V.cell? (Qz g (j*6))=some (I (p.1.kind:Int))):=(λV hV j p hp=>by
    rcases b2.op.2 with⟨_,h0⟩|⟨g,g3,g4,h1,_,G,_⟩;·rw[Ik h0]at hp;cases hp
    have h4:=b2.op.cells (g:=g) (by rw[h1];rfl) (j*6) (I (p.1.kind:Int)) ((eC (λp:sT×QN=>opC p.1 p.2) 6 (λ_=>rfl) ps j p hp 0 Z).trans rfl);rw[Addr.add_mid,Oi]at h4;exact⟨g,_,_,h1,G_ G,(Fz.1 hp).1,NI hV h4⟩)
   clear w z B A i6 F;go_wp2_with fail;go_loopw [6,51] (λlv i wv=>∃(j2:Nat)(a9:QP)(m9 c9:Nat),j2<=N/\i=I (j2:Int)/\lv=.slice a9 m9 c9/\Hid (Oq Q.heap.size WR.heap.size U2 wv (.slice a9 m9 c9) (joinL (m_ s.bad)++joinL (qY ((s.ops.map λo=>(o.kind:Int)).take j2) ((vX s).2.take j2))))) (λ_ i _=>N-(intOf i).toNat);(case atStart=>exact⟨0,_,_,_,FH _,rfl,rfl,H (by simpa[qY,joinL]using OS.out)⟩);case round=>
    clear OS q0 q1;obtain⟨k,a9,m9,c9,hk,rfl,rfl,b0⟩:=hrel;by_cases b5:k<N
    ·have i8:(k:Int)<(N:Int):=Z;obtain⟨y,hy⟩:∃y,l9[k]?=some y:=⟨l9[k]'(by have:=HV.1;omega),by simp[<-HV.1,b5]⟩;obtain⟨p,hp⟩:∃p,ps[k]?=some p:=by
      have h1:=congrArg List.length b2.eq;have h2:=HV.out;rw[Gz]at h1;exact⟨ps[k]' Z,bH⟩
     have A:=FM hy;have F:=FM hp;obtain⟨og,on,oc,rfl,j9,k0,G⟩:=HP.out wr (B2.trans b0.bel) k p hp;obtain⟨g0,rfl⟩:∃g,v=some (Qz g 0):=by
      rcases RB.2.row.2 with⟨h1,h2⟩|⟨g,g3,g4,h1,_⟩;·have:=HV.out;omega
      injection h1 with h1;exact⟨g,h1⟩
     have z:∀i,i<4->wr.cell? (Qz g0 (k*4+i))=(aC y)[i]?:=λi hi=>by
      have h5:=eC aC 4 (λ_=>rfl) l9 k y hy i hi;obtain⟨u,w⟩:∃u,(aC y)[i]?=some u:=⟨(aC y)[i]'(by simpa[aC]using hi),bH⟩;have h6:=RB.2.row.cells (g:=g0) rfl _ u (h5.trans w);have⟨h7,c7,B⟩:=aF RB.2.row rfl;rw[Addr.add_mid,Oi]at h6;rw[nD (b0.win g0 h7 (G_ B)),h6,w]
     have L:wr.cell? (Qz g0 (k*4))=some (I y.1.code):=z 0 Z;have R:wr.cell? (Qz g0 (k*4+1))=some (U y.1.addr):=z 1 Z;have d2:wr.cell? (Qz g0 (k*4+2))=some (I y.1.size):=z 2 Z;have K:wr.cell? (Qz g0 (k*4+3))=some y.2:=z 3 Z;have⟨ya,w,yc,B,i9⟩:=ch (RB.2.dat y A);subst i9;rw[B]at K;have bd:=HD.out y A;have kd:=(HK.ops p.1 (by rw[<-b2.eq];exact List.mem_map_of_mem F)).kd;have b6:=H (show joinL (m_ s.bad)++joinL (qY ((s.ops.map λo=>(o.kind:Int)).take (k+1)) ((vX s).2.take (k+1)))=joinL (m_ s.bad)++joinL (qY ((s.ops.map λo=>(o.kind:Int)).take k) ((vX s).2.take k))++OI (p.1.kind:Int) y.1++[10] by
      rw[Ch (k:=(p.1.kind:Int)) (a:=y.1) (by rw[<-b2.eq];simp[hp]) (by rw[<-HV.2.1];simp[hy]),wh];simp[joinL])
     have a0:=H (d6 k);generalize joinL (m_ s.bad)++joinL (qY ((s.ops.map λo=>(o.kind:Int)).take k) ((vX s).2.take k))=T9 at b0 b6 a0;have DA:=H (show U2.ownsRow WR.heap.size 5 1 (.slice ya y.1.data.length yc) y.1.data.length (Ns .u8 y.1.data) by have:=RB.2.dat y A;rwa [B]at this);clear z hy hp A F;(go_upto_region 17 with fail);have z:=ao wr (QL #[I y.1.code,U y.1.addr,I y.1.size,.slice ya y.1.data.length yc] 46);have b1:=(Fu wr.heap.size wr).alloc (Fv _) (QL #[I y.1.code,U y.1.addr,I y.1.size,.slice ya y.1.data.length yc] 46);generalize wr.alloc _=P1 at z b1⊢;have O1:=H (b0.below b1);have k3:=Fx B2.size b0.bel.size;have j0:=NI b1 G;generalize wr.heap.size=Y at*;have CN:Hid (∀V:QM,Ky (· =5) P1 V->V.cell? (Qz Y 0)=some (I y.1.code)/\V.cell? (Qz Y 1)=some (U y.1.addr)/\V.cell? (Qz Y 2)=some (I y.1.size)/\V.cell? (Qz Y 3)=some (.slice ya y.1.data.length yc)):=(λV A=>by
      have h:=A.cells _ _ _ _ z ar;rw[GT _ _ _ _ _ _ h,GT _ _ _ _ _ _ h,GT _ _ _ _ _ _ h,GT _ _ _ _ _ _ h];exact⟨rfl,rfl,rfl,rfl⟩)
     have⟨e0,e1,e2,e3⟩:=CN.out P1 (Ky.below (Fu _ _));clear L R d2 K G z b1 b0 B;obtain⟨B,z⟩:∃B:Int,(p.1.kind:Int)=B:=⟨_,rfl⟩;have g5:0<=B/\B<=6:=Z;rw[z]at b6 j0;clear z kd;have⟨y,y2⟩:=y;have⟨F,G,S0,R⟩:=y;dsimp only at*;have d7:=H bd;have d5:=bd.c0;have d8:=bd.c1;have d9:=bd.ad;have e4:=bd.sz;dsimp only at d5 d8 d9 e4;clear bd;have g6:=H (AP B d7);rcases(show F≠0\/(F=0/\B<=2)\/(F=0/\B=4)\/(F=0/\B=5)\/(F=0/\B=3)\/(F=0/\B=6) by omega)with hc|⟨rfl,k4⟩|⟨rfl,rfl⟩|⟨rfl,rfl⟩|⟨rfl,rfl⟩|⟨rfl,rfl⟩
     case' inl=>
      have⟨a1,m1,c1,U3,M,k1,t⟩:=(O1.below (Fu _ _).drew).num ⟨#[101,114,114,111,114,32]⟩ F.toNat Z (Fx a0 ar) ar;rw[IK d5]at t;have HEq:=H (show[101,114,114,111,114,32]++dec F.toNat=OI B ⟨F,G,S0,R⟩ by unfold OI;rw[GP hc]);have wc:IntKind.u64.wrap F=F:=(by rw[IntKind.wrap_u64];omega);go_wp2_with fail;refine rh (S:=λV:QM=>V.cell? (Qz Y 0)=some (I F)/\V.cell? (Qz Y 1)=some (U G)/\V.cell? (Qz Y 2)=some (I S0)/\V.cell? (Qz Y 3)=some (.slice ya R.length yc)) ?_;have kD:Ky (· =5) P1 P1.drew:=Ky.below (Fu _ _).drew;have L:=(CN P1.drew kD);refine py L ?_;simp only[f0,f1,Nat.reduceAdd,lz,l0,ls];refine pq 2 L ?_;simp only[lz,l0,ls];refine pq 3 L ?_;simp only[lz,l0,ls];refine pq 4 L ?_;simp only[lz,l0,ls];have L:=(CN U3 (kD.trans k1));refine gu 1 ?_;refine pV rfl rfl _ _ rfl rfl rfl rfl M ⟨L,?_⟩;refine po 5 λK' hK=>?_;go_simp;refine t.mono ?_;rintro e U5⟨g2,c2,a6,m6,c6,U6,rfl,bt,O,T,k2⟩;have k5:=(kD.trans k1).trans (Ky.below bt);refine hK _ _ ⟨(CN U5 k5),?_⟩;clear hK K';have L:=(CN U6 (k5.trans k2));refine gu 6 ?_;refine pV rfl rfl _ _ rfl rfl rfl rfl O ⟨L,?_⟩;refine pk 7 (.slice a6 m6 c6) L ?_;refine bY ?_;rw[GJ,HEq]at T;have H6:=H T;clear T M O k1 k2 k5 kD L bt t
     case' inr.inl=>
      have⟨a1,m1,c1,U3,M,k1,t⟩:=(O1.below (Fu _ _).drew).num ⟨#[97,116,32]⟩ G Z (Fx a0 ar) ar;have HEq:=H (show[97,116,32]++dec G=OI B ⟨0,G,S0,R⟩ by unfold OI;rw[GO bH,GO Z,GO Z,GO Z]);go_wp2_with fail;refine rh (S:=λV:QM=>V.cell? (Qz Y 0)=some (I 0)/\V.cell? (Qz Y 1)=some (U G)/\V.cell? (Qz Y 2)=some (I S0)/\V.cell? (Qz Y 3)=some (.slice ya R.length yc)) ?_;have kD:Ky (· =5) P1 P1.drew:=Ky.below (Fu _ _).drew;have L:=(CN P1.drew kD);refine py L ?_;simp only[f0,f1,Nat.reduceAdd,lz,l0,ls];refine pq 2 L ?_;simp only[lz,l0,ls];refine pq 3 L ?_;simp only[lz,l0,ls];have L:=(CN U3 (kD.trans k1));refine gu 1 ?_;refine pV rfl rfl _ _ rfl rfl rfl rfl M ⟨L,?_⟩;refine po 4 λK' hK=>?_;go_simp;refine t.mono ?_;rintro e U5⟨g2,c2,a6,m6,c6,U6,rfl,bt,O,T,k2⟩;have k5:=(kD.trans k1).trans (Ky.below bt);refine hK _ _ ⟨(CN U5 k5),?_⟩;clear hK K';have L:=(CN U6 (k5.trans k2));refine gu 5 ?_;refine pV rfl rfl _ _ rfl rfl rfl rfl O ⟨L,?_⟩;refine pk 6 (.slice a6 m6 c6) L ?_;refine bY ?_;rw[GJ,HEq]at T;have H6:=H T;clear T M O k1 k2 k5 kD L bt t
     case' inr.inr.inl=>
      have⟨a1,m1,c1,U3,M,k1,t⟩:=(O1.below (Fu _ _).drew).num ⟨#[115,105,122,101,32]⟩ S0 Z (Fx a0 ar) ar;have HEq:=H (show[115,105,122,101,32]++dec S0=OI 4 ⟨0,G,S0,R⟩ by unfold OI;rw[GO bH,GO Z,GP rfl]);have wc:IntKind.u64.wrap (S0:Int)=(S0:Int):=(by rw[IntKind.wrap_u64];omega);go_wp2_with fail;refine rh (S:=λV:QM=>V.cell? (Qz Y 0)=some (I 0)/\V.cell? (Qz Y 1)=some (U G)/\V.cell? (Qz Y 2)=some (I S0)/\V.cell? (Qz Y 3)=some (.slice ya R.length yc)) ?_;have kD:Ky (· =5) P1 P1.drew:=Ky.below (Fu _ _).drew;have L:=(CN P1.drew kD);refine py L ?_;simp only[f0,f1,Nat.reduceAdd,lz,l0,ls];refine pq 2 L ?_;simp only[lz,l0,ls];refine pq 3 L ?_;simp only[lz,l0,ls];refine pq 4 L ?_;simp only[lz,l0,ls];have L:=(CN U3 (kD.trans k1));refine gu 1 ?_;refine pV rfl rfl _ _ rfl rfl rfl rfl M ⟨L,?_⟩;refine po 5 λK' hK=>?_;go_simp;refine t.mono ?_;rintro e U5⟨g2,c2,a6,m6,c6,U6,rfl,bt,O,T,k2⟩;have k5:=(kD.trans k1).trans (Ky.below bt);refine hK _ _ ⟨(CN U5 k5),?_⟩;clear hK K';have L:=(CN U6 (k5.trans k2));refine gu 6 ?_;refine pV rfl rfl _ _ rfl rfl rfl rfl O ⟨L,?_⟩;refine pk 7 (.slice a6 m6 c6) L ?_;refine bY ?_;rw[GJ,HEq]at T;have H6:=H T;clear T M O k1 k2 k5 kD L bt t
     case inr.inr.inr.inl=>
      have⟨a1,m1,c1,U3,M,o1,k1⟩:=O1.str ⟨#[98,121,116,101,115]⟩ (by have:=a0.out;have:(⟨#[98,121,116,101,115]⟩:ByteArray).size=5:=rfl;omega);have e9:=(CN U3 k1).2.2.2;have H1:=H (show Oq Q.heap.size WR.heap.size U2 U3 (.slice a1 m1 c1) (T9++[98,121,116,101,115]++Li R 0) by rw[Li,GP rfl,Gl];exact o1);have e7:Hid (∀V:QM,(∀k,WR.heap.size<=k->k<U2.heap.size->V.heap[k]?=U2.heap[k]?)->∀q z,R[q]?=some z->∃gd,ya=some (Qz gd 0)/\V.cell? (Qz gd q)=some (.int .u8 z)):=(λV hV q z hq=>by
       rcases DA.2 with⟨_,h0⟩|⟨gd,g3,g4,h1,h2,h3,_⟩;·rw[Ik h0]at hq;cases hq
       injection h1 with h1;subst h1;refine⟨gd,rfl,?_⟩;have b5:q<(Ns .u8 R).length:=(by rw[NM];exact(Fz.1 hq).1);rw[nD (hV gd h2 (G_ h3)),(RowV.ofOwns DA).cell q b5];simp[Ns,hq])
      have g7:=H d7.dl;dsimp only at g7;clear o1 k1 g5 d5 d8 d9 e4 e1 e2 e3;generalize d4:R.length=n9 at*;have b7:=H d4;have k6:n9<=4096:=g7.out;clear d4;go_wp2_with (at_builtin;refine it rfl (.tmp 103) (.const (.string ⟨#[98,121,116,101,115]⟩)) (by with_reducible rfl) rfl rfl rfl M ?_);clear M;go_loopw [6,108] (λlv i wv=>∃(q:Nat)(a9:QP)(m9 c9:Nat),q<=n9/\i=I (q:Int)/\lv=.slice a9 m9 c9/\Hid (Oq Q.heap.size WR.heap.size U2 wv (.slice a9 m9 c9) (T9++[98,121,116,101,115]++Li R q))) (λ_ i _=>n9-(intOf i).toNat);(case atStart=>exact⟨0,_,_,_,FH _,rfl,rfl,H1⟩);case round=>
       clear H1 e9;obtain⟨q,a5,m5,c5,hq,rfl,rfl,b3⟩:=hrel;by_cases g8:q<n9
       ·have j5:(q:Int)<(n9:Int):=Z;obtain⟨z,hz⟩:∃z,R[q]?=some z:=⟨R[q]'(by have:=b7.out;omega),by simp[b7.out,g8]⟩;obtain⟨gd,rfl,cz⟩:=e7.out wr b3.win q z hz;have K:=d7.by_ z (FM hz);have i1:=Jx (z.toNat/16) Z;have i2:=Jx (z.toNat%16) Z;have q1:z.tdiv 16=((z.toNat/16:Nat):Int):=(by rw[Ig K.1];omega);have q2:z.tmod 16=((z.toNat%16:Nat):Int):=(by rw[GH K.1];omega);have w1:IntKind.u8.wrap ((z.toNat/16:Nat):Int)=((z.toNat/16:Nat):Int):=(by rw[IntKind.wrap_u8];omega);have w2:IntKind.u8.wrap ((z.toNat%16:Nat):Int)=((z.toNat%16:Nat):Int):=(by rw[IntKind.wrap_u8];omega);have b4:=BR R q z hz;generalize IY (z.toNat/16)=x1 at*;generalize IY (z.toNat%16)=x2 at*;generalize ((z.toNat/16:Nat):Int)=Q1 at*;generalize ((z.toNat%16:Nat):Int)=Q2 at*;have HJ:=H b4;have j6:=H (show(uy (R.take q)).length<=8192 by rw[Di,Hm];have:=b7.out;omega);clear b4 K hz;by_cases b4:q=0
        case' pos=>
         have j7:((q:Int)==0)=true:=(by simp[b4]);have⟨a4,m4,c4,U4,b8,o4,_⟩:=b3.one [32] (by rw[Li,GP b4];have:=a0.out;simp only[FC,FN,F1];omega);have b8:QI 22 (.slice a5 m5 c5) (Vl wr.heap.size 1 1) (wr.alloc (QL #[.int .u8 32] 5)) (.slice a4 m4 c4) U4:=b8;have K:=H (show Oq Q.heap.size WR.heap.size U2 U4 (.slice a4 m4 c4) (T9++[98,121,116,101,115]++[32]++uy (R.take q)) by rw[Li,GP b4]at o4;rw[b4];simpa[uy]using o4);clear o4 b3 b4;go_upto_region 30 with(at_builtin;refine it rfl (.tmp 115) (.tmp 116) (by with_reducible rfl) rfl rfl rfl b8 ?_)
        case' neg=>
         have j7:((q:Int)==0)=false:=(by rw[QF];omega);obtain⟨U4,a4,m4,c4,h4,h5,h6,h7⟩:∃U4 a4 m4 c4,wr=U4/\a5=a4/\m5=m4/\c5=c4:=⟨_,_,_,_,rfl,rfl,rfl,rfl⟩;subst h4 h5 h6 h7;have K:=H (show Oq Q.heap.size WR.heap.size U2 wr (.slice a5 m5 c5) (T9++[98,121,116,101,115]++[32]++uy (R.take q)) by have h:=b3.out;rw[Li,GO b4]at h;simpa using h);clear b3 b4;go_upto_region 30 with fail
        all_goals
         have⟨a8,m8,c8,U8,b8,o8,_⟩:=(K.below (Fu _ _).drew).one [x1,x2] (by have:=a0.out;have:=j6.out;simp only[FC,FN,F1];omega)
         have H8:=H (show Oq Q.heap.size WR.heap.size U2 U8 (.slice a8 m8 c8) (T9++[98,121,116,101,115]++Li R (q+1)) by rw[Li,GO Z,HJ];simpa using o8)
         rw[show bv [x1,x2]=[.int .u8 (x1.toNat:Int),.int .u8 (x2.toNat:Int)]from rfl]at b8
         clear o8 K
         refine wp_region_held (S:=λ_=>True) E ?_
         simp only[FX,FN,F1,Nat.reduceAdd,FP,FO,FY,FV,F5]
         have L:True:=trivial
         iterate 7 (refine py (S:=λ_=>True) L ?_;simp only[f0,f1,Nat.reduceAdd,lz,l0,ls])
         refine po 7 λK' hK=>?_
         go_simp
         refine hK _ _ ⟨trivial,?_⟩
         clear hK K'
         refine gu 8 ?_
         refine fq rfl rfl _ _ rfl rfl rfl rfl b8 ⟨trivial,?_⟩
         refine py (S:=λ_=>True) L ?_;simp only[f0,f1,Nat.reduceAdd,lz,l0,ls]
         refine bY ?_
         go_wp2_with fail
         go_roundw
         case rel=>exact⟨q+1,a8,m8,c8,Z,aY,rfl,H8⟩
         case measure=>exact QE
       obtain rfl:q=n9:=Z;have j5:¬(q:Int)<(q:Int):=Z;have H6:=H (show Oq Q.heap.size WR.heap.size U2 wr (.slice a5 m5 c5) (T9++OI 5 ⟨0,G,S0,R⟩) by
        have h:=b3.out;rw[GJ]at h;have e:[98,121,116,101,115]++Li R q=OI 5 ⟨0,G,S0,R⟩:=by
         have K:OI 5 ⟨0,G,S0,R⟩=if R=[]then[98,121,116,101,115]else six++uy R:=by
          unfold OI;rw[GO bH,GO Z,GO Z,GP rfl]
         rw[K];unfold Li;by_cases h0:R=[];·subst h0;rw[GP rfl,GP (by have:=b7.out;simpa using this.symm)];rfl
         rw[GO h0,GO (λe=>h0 (Ik (b7.trans e))),Ge (by have:=b7.out;omega)];rfl
        rw[<-e];exact h)
       clear b3 e7;have⟨a7,m7,c7,U7,K,o7,_⟩:=H6.one [10] (by have:=a0.out;have:=g6.out;simp only[FC,FN,F1];omega);have K:QI 22 (.slice a5 m5 c5) (Vl wr.heap.size 1 1) (wr.alloc (QL #[.int .u8 10] 5)) (.slice a7 m7 c7) U7:=K;rw[<-b6.out]at o7;have H7:=H o7;clear o7;go_wp2_with (at_builtin;refine it rfl (.tmp 128) (.tmp 129) (by with_reducible rfl) rfl rfl rfl K ?_);go_roundw;(case rel=>exact⟨k+1,a7,m7,c7,Z,aY,rfl,H7⟩);case measure=>exact QE
     case' inr.inr.inr.inr.inl|inr.inr.inr.inr.inr=>
      have⟨a6,m6,c6,U6,M,o1,_⟩:=O1.str ⟨#[111,107]⟩ (by have:=a0.out;have:(⟨#[111,107]⟩:ByteArray).size=2:=rfl;omega);clear g5 d5 d8 d9 e4;have o1:Oq Q.heap.size WR.heap.size U2 U6 (.slice a6 m6 c6) (T9++[111,107]):=o1;have H6:=H o1;have z:=b6.out;unfold OI at z;rw[GO bH,GP bH]at z;have b6:=H z;clear o1 z;go_upto_region 32 with(at_builtin;refine it rfl (.tmp 56) (.const (.string ⟨#[111,107]⟩)) (by with_reducible rfl) rfl rfl rfl M ?_)
     all_goals
      have⟨a7,m7,c7,U7,K,o7,_⟩:=H6.one [10] (by have:=a0.out;have:=g6.out;simp only[FC,FN,F1];omega)
      have K:QI 22 (.slice a6 m6 c6) (Vl U6.heap.size 1 1) (U6.alloc (QL #[.int .u8 10] 5)) (.slice a7 m7 c7) U7:=K
      rw[<-b6.out]at o7
      have H7:=H o7
      clear o7 H6
      go_wp2_with (at_builtin;refine it rfl (.tmp 128) (.tmp 129) (by with_reducible rfl) rfl rfl rfl K ?_)
      go_roundw
      case rel=>exact⟨k+1,a7,m7,c7,Z,aY,rfl,H7⟩
      case measure=>exact QE
    obtain rfl:k=N:=Z;have i8:¬(k:Int)<(k:Int):=Z;have hT:=HE.out;have F:=d6.out k;have G:=b0.out;rw[Ge (by rw[Gz];have:=HV.out;omega),Ge (by have:=HV.out;omega)]at F G;rw[<-GJ]at hT;generalize joinL (m_ s.bad)++joinL (qY (s.ops.map λo=>(o.kind:Int)) (vX s).2)=T9 at hT F G;generalize bz (vX s).1.m 283=w at*;generalize (vX s).1.used=z at*;have K:joinL [JX w z]=[99,111,109,109,105,116,116,101,100,32]++dec w++[32,117,115,101,100,32]++dec z++[10]:=(by simp[joinL,JX]);have R:=H (show tell l=T9++[99,111,109,109,105,116,116,101,100,32]++dec w++[32,117,115,101,100,32]++dec z++[10] by rw[hT,K];simp);have wc:IntKind.u64.wrap (w:Int)=(w:Int):=(by rw[IntKind.wrap_u64];omega);have B:IntKind.u64.wrap (z:Int)=(z:Int):=(by rw[IntKind.wrap_u64];omega);have CN:Hid (∀V:QM,Ky (· =5) wr V->V.cell? (Qz X 2)=some (I (w:Int))/\V.cell? (Qz X 9)=some (I (z:Int))):=(λV A=>by
     have h:=A.cells _ _ _ _ ((b0.win X (Fx i5 (Fv _)) i4).trans RB.1) ar;rw[GT _ _ _ _ _ _ h,GT _ _ _ _ _ _ h];exact QB)
    have Y:=kX w Z;have a0:=kX z Z;have⟨a1,m1,c1,U3,M,k1,t⟩:=(G.below (Fu _ _).drew).num ⟨#[99,111,109,109,105,116,116,101,100,32]⟩ w Z (Fx F ar) ar;have HZ:=H (IT F (IT Y (IT a0 e8)));clear hT F G K b0 Y a0 i7 e8 g1;generalize Y:(w:Int)=F at*;generalize K:(z:Int)=G at*;have a0:=H K;clear Y K;go_wp2_with fail;have kD:Ky (· =5) wr wr.drew:=Ky.below (Fu _ _).drew;refine rh (S:=λV:QM=>V.cell? (Qz X 2)=some (I F)/\V.cell? (Qz X 9)=some (I G)) ?_;have L:=CN.out _ kD;refine py L ?_;simp only[f0,f1,Nat.reduceAdd,lz,l0,ls];refine pq 2 L ?_;simp only[lz,l0,ls];refine pq 3 L ?_;simp only[lz,l0,ls];refine pq 4 L ?_;simp only[lz,l0,ls];refine pq 5 L ?_;simp only[lz,l0,ls];have L:=CN.out _ (kD.trans k1);refine gu 1 ?_;refine pV rfl rfl _ _ rfl rfl rfl rfl M ⟨L,?_⟩;refine po 6 λK' hK=>?_;go_simp;refine t.mono ?_;rintro e U5⟨g2,c2,a6,m6,c6,U6,rfl,bt,O,T,k2⟩;have k5:=(kD.trans k1).trans (Ky.below bt);refine hK _ _ ⟨(CN U5 k5),?_⟩;clear hK K';have L:=CN.out _ (k5.trans k2);refine gu 7 ?_;refine pV rfl rfl _ _ rfl rfl rfl rfl O ⟨L,?_⟩;refine pk 8 (.slice a6 m6 c6) L ?_;refine bY ?_;have T:Oq Q.heap.size WR.heap.size U2 U6 (.slice a6 m6 c6) (T9++[99,111,109,109,105,116,116,101,100,32]++dec w):=T;have kD:Ky (· =5) wr U6.drew:=(k5.trans k2).trans (Ky.below (Fu _ _).drew);have⟨a1,m1,c1,U3,M,k1,t⟩:=(T.below (Fu _ _).drew).num ⟨#[32,117,115,101,100,32]⟩ z (by have:=HZ.out;omega) (by have:=HZ.out;simp only[FC,FN,F1];omega) ar;rw[a0]at t;clear T O k2 k5 L bt;go_wp2_with fail;refine rh (S:=λV:QM=>V.cell? (Qz X 2)=some (I F)/\V.cell? (Qz X 9)=some (I G)) ?_;have L:=CN.out _ kD;refine py L ?_;simp only[f0,f1,Nat.reduceAdd,lz,l0,ls];refine pq 2 L ?_;simp only[lz,l0,ls];refine pq 3 L ?_;simp only[lz,l0,ls];refine pq 4 L ?_;simp only[lz,l0,ls];refine pq 5 L ?_;simp only[lz,l0,ls];have L:=CN.out _ (kD.trans k1);refine gu 1 ?_;refine pV rfl rfl _ _ rfl rfl rfl rfl M ⟨L,?_⟩;refine po 6 λK' hK=>?_
    go_simp;refine t.mono ?_;rintro e U5⟨g2,c2,a7,m7,c7,U7,rfl,bt,O,T,k2⟩;have k5:=(kD.trans k1).trans (Ky.below bt);refine hK _ _ ⟨(CN U5 k5),?_⟩;clear hK K';have L:=CN.out _ (k5.trans k2);refine gu 7 ?_;refine pV rfl rfl _ _ rfl rfl rfl rfl O ⟨L,?_⟩;refine pk 8 (.slice a7 m7 c7) L ?_;refine bY ?_;have T:Oq Q.heap.size WR.heap.size U2 U7 (.slice a7 m7 c7) (T9++[99,111,109,109,105,116,116,101,100,32]++dec w++[32,117,115,101,100,32]++dec z):=T;have⟨a8,m8,c8,U8,b8,o8,_⟩:=T.one [10] (by have:=HZ.out;simp only[FC,FN,F1];omega);have b8:QI 22 (.slice a7 m7 c7) (Vl U7.heap.size 1 1) (U7.alloc (QL #[.int .u8 10] 5)) (.slice a8 m8 c8) U8:=b8;have H8:=H o8;clear o8 T M O k1 k2 k5 kD L bt t;go_wp2_with (at_builtin;refine it rfl (.tmp 148) (.tmp 149) (by with_reducible rfl) rfl rfl rfl b8 ?_);go_ret;exact Tr.of BV B2 (by rw[R];exact H8) (by rw[R];simp)
theorem CQ(l):(tell l).length<=1000000000:=by
 unfold tell;split;·decide
 have h:=y8 (Jy l) (Ju l);have:=sf _ h.2.2;omega
theorem Co:∀(a:List Int),(∀n∈a,(Lit.int .u8 n).wf=true)->∃l:List UInt8,Ns .u8 a=bv l/\l.length=a.length
 |[],_=>⟨[],rfl,rfl⟩
 | z::r,h=>by
  have⟨l,a,b⟩:=Co r (λn c=>h n (Ij _ c))
  have c:=h z bH
  have d:IntKind.u8.min=0:=rfl
  have f:IntKind.u8.max=255:=rfl
  simp only[Lit.wf,Gi,Hj]at c
  refine⟨UInt8.ofNat z.toNat::l,?_,by simp[b]⟩
  have e:(((UInt8.ofNat z.toNat).toNat:Nat):Int)=z:=by
   rw[UInt8.toNat_ofNat',H4 Z];omega
  simp only[Ns,bv,It]at a⊢;rw[e,a]
structure S9(w:QM)(gx gg gw:Nat)(xs ys zs:List QN)(W:QM):Prop where
 b:D w W
 x:RowM W gx xs
 g:RowM W gg ys
 o:RowM W gw zs
 l:w.heap.size<=gx/\w.heap.size<=gg
 n:gx≠gg/\gx≠gw/\gg≠gw
theorem S9.below{w gx gg gw xs ys zs W W'}(h:S9 w gx gg gw xs ys zs W)(a:D W W'):S9 w gx gg gw xs ys zs W':=
 ⟨az h.b a,h.x.below a h.x.lt,h.g.below a h.g.lt,h.o.below a h.o.lt,h.l,h.n⟩
theorem S9.mx{gx gg gw ys zs us}(h:S9 w gx gg gw xs ys zs W)(r:RowM W' gx us)(k:W.grownBy W' (some gx)):S9 w gx gg gw us ys zs W':=
 ⟨h.b.grown k h.b.size (λr e=>by cases e;exact h.l.1),r,h.g.grown k (Iq h.n.1),h.o.grown k (Iq h.n.2.1),h.l,h.n⟩
theorem S9.mg{gx gg gw ys zs us}(h:S9 w gx gg gw xs ys zs W)(r:RowM W' gg us)(k:W.grownBy W' (some gg)):S9 w gx gg gw xs us zs W':=
 ⟨h.b.grown k h.b.size (λr e=>by cases e;exact h.l.2),h.x.grown k h.n.1,r,h.o.grown k (Iq h.n.2.2),h.l,h.n⟩
theorem Ol{g}{b:List Int}(h:RowM w g (Ns .u8 b)){a:Nat}(c:b.length=a):∀i,i<a->∃a,some ((Qz g 0):Addr)=some (Qz a 0)/\w.cell? (Qz a i)=some (.int .u8 (b[i]?.getD 0)):=
 λi d=>⟨g,rfl,h.cell i Z⟩
theorem Ei(a:Option Addr)(s u:Nat)(z:List Int)(X Y:Addr)(mx)(w:World)(k:IsRow .u8 w a s u z)(P:w.cell? (Qz 0 0)=some (.iface 392 (.pointer (some X))))(q:w.cell? (Qz 1 0)=some (.iface 392 (.pointer (some Y))))(Q:w.cell? (Qz 2 0)=some (I mx))(R:PtW w)(L:Tb w)(B:6<w.heap.size):
  QA 3 #[.slice a s u] w λe M=>e=.returned Ql/\D w M:=by
 by_cases r:1048576<s;·clear k P q Q R L;have q:decide (((s:Nat):Int) > 1048576)=true:=G8 Z;go_enter func3,ntmps3;go_wp2;go_ret;exact⟨rfl,Fu _ _⟩
 have S:s<=1048576:=Nat.le_of_not_lt r;have⟨l,p,v⟩:=Co (z.take s) (λn y=>by
  rcases k with⟨_,rfl,_,rfl⟩|⟨x,_,_,_,_,_,B⟩;·simp at y
  exact B n (List.mem_of_mem_take y))
 have x:l.length=s:=by rw[v];exact k.len
 have N:(z.take s).length=s:=k.len;have O:Hid (∀W,D w W->QA 5 #[.slice a s u] W λe M=>e=.returned (Vl W.heap.size s s)/\RowV M W.heap.size 5 (bv l)/\D W M):=H (λW t=>by rw[<-p];exact NE a s u z W (k.below t) Z);have⟨A,d,EX,f⟩:=Qf (λg W(h:RowV W g 5 (bv l))(t:D w W)=>x▸Lv l g l.length W h Z (L.below t) (FG B t.size)) (λg W(h:RowV W g 5 (bv l))(t:D w W)=>x▸LJ l g l.length X Y mx W h Z (NI t P) (NI t q) (NI t Q) (R.below t) (L.below t) (FG B t.size)) (λF G W(q:RowM W F (bv l))(h2:RowM W G (bv l))=>NG (some (Qz F 0)) (some (Qz G 0)) s s s (z.take s) W Z (Ol (p.symm▸q) N) (Ol (p.symm▸h2) N)) (λg W(h:RowM W g (bv l))=>Nr g s s (z.take s) 1 W N Z Z (p.symm▸h));have y:=CQ l;have K:=LX (tell l);unfold Tr at A d;have o:((tell l).map (λb:UInt8=>((b.toNat:Nat):Int))).length=(tell l).length:=Gz _;rw[K]at A d;generalize ((tell l).map (λb:UInt8=>((b.toNat:Nat):Int)))=i at A d o;generalize (tell l).length=n at A d y o;have⟨j,m,T⟩:=Qe (λF G a c W(q:RowM W F (i.map (Value.int .u8)))(h2:RowM W G (i.map (Value.int .u8)))=>NG (some (Qz F 0)) (some (Qz G 0)) n a c i W y (Ol q o) (Ol h2 o)) (λg c W(h:RowM W g (i.map (Value.int .u8)))=>Nr g n c i 1 W o y Z h) (λg c W(h:RowM W g (Ns .u8 (vZ 1 n)))=>Nv g n c 1 W y Z h);have V:decide (((s:Nat):Int) > 1048576)=false:=GR Z;have k1:decide (((1+s:Nat):Int)<0)=false:=GR Z;have k2:decide (((1+n:Nat):Int)<0)=false:=GR Z;generalize ((1+s:Nat):Int)=K1 at f k1;generalize ((1+n:Nat):Int)=K2 at m T k2;go_enter func3,ntmps3;go_wp2_with fail;refine(O _ (Fu _ _)).mono ?_;rintro e S⟨rfl,o,p⟩;have⟨k,x⟩:=y7 p o;go_wp2_with fail;refine(A _ _ x k).mono ?_;rintro e K⟨P,o,rfl,q,p,B⟩;have⟨r,v⟩:=y7 (az k B) p;go_wp2_with fail;refine(O _ r).mono ?_;rintro e V⟨rfl,B,A⟩;have⟨x,p,k,L⟩:=Qf (az r A) B (v.below A v.lt) (show w.heap.size<=K.heap.size from r.size);have N:=H (show K.heap.size≠P from λe=>by have:=v.lt;omega);generalize K.heap.size=gx at*;go_wp2_with fail;refine(d _ _ p x).mono ?_;rintro e w4⟨gg,cg,rfl,q,A,r⟩;have v:=H (S9.mk (az x r) ((p.m).below r p.lt) A (k.below r k.lt) ⟨L,Fx x.size q⟩ ⟨λe=>by have:=p.lt;omega,N,λe=>by have:=k.lt;omega⟩);go_wp2_with fail;refine(j _ _ _ _ _ v.g v.o).mono ?_;rintro e w5⟨rfl,b⟩;have k:=H (v.below b);go_wp2_with fail;refine(O _ k.b).mono ?_;rintro e w6⟨rfl,r,b⟩;have⟨p,x⟩:=y7 (k.below b) r.m;go_wp2_with fail;refine(EX _ _ _ p.x x).mono ?_;rintro e w7⟨rfl,b⟩;have v:=H (p.below b);go_wp2_with fail;refine(f _ _ v.x).mono ?_;rintro e w8⟨rfl,r,k⟩;have p:=H (v.mx r k);go_wp2_with fail;refine(j _ _ _ _ _ p.g p.o).mono ?_;rintro e w9⟨rfl,b⟩;have S9:=H (p.below b);go_wp2_with fail;refine(m _ _ _ S9.g).mono ?_;rintro e L⟨rfl,r,k⟩;have p:=H (S9.mg r k);go_wp2_with fail;refine(T _ _ _ p.g).mono ?_;rintro e N⟨rfl,rfl⟩;go_wp2_with fail;refine(O _ p.b).mono ?_;rintro e Q⟨rfl,r,b⟩;have⟨v,A⟩:=y7 (p.below b) r;go_wp2_with fail;refine(d _ _ A v.b).mono ?_;rintro e R⟨k,p,rfl,q,r,b⟩;have⟨x,B⟩:=y7 (v.below b) r;go_wp2_with fail;refine(j _ _ _ _ _ B x.o).mono ?_;rintro e r⟨rfl,b⟩;have q:=H (x.below b);go_wp2_with fail;refine(T _ _ _ q.g).mono ?_;rintro e v⟨rfl,rfl⟩;go_wp2_with fail;go_ret;exact⟨rfl,q.b⟩
end
end Go.Proofs.YtdhegekcmmlohaaGreatDoor
