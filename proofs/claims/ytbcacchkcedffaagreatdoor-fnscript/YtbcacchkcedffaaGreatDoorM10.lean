import Derived.Test.YtbcacchkcedffaaGreatDoorM05
import Derived.Test.YtbcacchkcedffaaGreatDoorM07
set_option linter.all false
set_option maxRecDepth 20000
set_option maxHeartbeats 0
namespace Go.Proofs.YtbcacchkcedffaaGreatDoor
open Go.Proofs.Tryz Go.RowKit Go.Maps Go.Shelf Go.ChangeShapes Go.WideShapes Go.ChangeAt
section
variable {B c cm g lo:Nat}{V V1 W W' W0 w:World}{v va:Value}{l:List Aw}{bb:Bool}
def rJ(c:Jh):Cf:=⟨c.mix.toNat,c.fifo.toNat,c.large.toNat,c.budget.toNat,(c.key:Int),c.draws⟩
def J9(o:sT):fL:=⟨(o.kind:Int),(o.ref:Int),o.p,o.a,o.b,o.data.map λn:Nat=>(n:Int)⟩
def J7(s:rP):Prop:=jg s.cf.mix s.cf.fifo s.cf.large s.cf.budget s.cf.draws.length/\s.ops.length<=300
def vX(s:rP):Hs×List An4:=NJ (rJ s.cf) (s.ops.map J9) (aP (rJ s.cf)) []
def MK:Value->Option Addr
 | .slice a _ _=>a
 |_=>none
def Mz:Value->Nat
 | .slice _ _ c=>c
 |_=>0
def mK(p:sT×Value):df:=⟨J9 p.1,MK p.2,Mz p.2⟩
def JC{l:List Int}(h:W.ownsRow B 3 1 v l.length (iv l)):∃a c,v=.slice a l.length c/\Sl W a l/\∀x,a=some x->x.block<W.heap.size:=by
 rcases h.2 with⟨rfl,b⟩|⟨g,d,e,rfl,_,f,_⟩;·have:=Ik b;subst this;exact⟨none,0,rfl,.inl ⟨rfl,rfl⟩,λx a=>by cases a⟩
 exact⟨_,_,rfl,.inr ⟨g,rfl,RowV.ofOwns h⟩,λx a=>by cases a;exact G_ f⟩
def Kv{s dv ov bd ps}(r:Res B W s dv ov bd ps)(k:J8 s):∃A b,ov=.slice A (ps.map mK).length b/\Ois W A (ps.map mK)/\EA (ps.map mK):=by
 have n:∀p∈ps,Mv p.1/\∃a c,p.2=.slice a p.1.data.length c/\p.1.data.length<=c/\∀i,i<p.1.data.length->∃x,a=some x/\W.cell? (x.add i)=some (.int .u8 ((p.1.data[i]?.getD 0:Nat):Int))/\(x.add i).block<W.heap.size:=λp f=>by
  refine⟨k.ops p.1 (by rw[<-r.eq];exact List.mem_map_of_mem f),?_⟩;have d:=r.dd p f;rcases d.2 with⟨m,v⟩|⟨g,b,w,m,_,z,e,_⟩;·exact⟨none,0,by rw[m,v],Z,λi t=>Z⟩
  refine⟨some (Qz g 0),b,m,e,λi t=>⟨_,rfl,?_,?_⟩⟩;·refine d.cells (g:=g) (by rw[m];rfl) i _ ?_;simp[xe,t]
  rw[Addr.add_mid];exact G_ z
 have L:∀p∈ps,fH (mK p)=opC p.1 p.2:=λp f=>by have⟨_,a,c,e,_⟩:=n p f;simp[fH,mK,J9,opC,e,MK,Mz]
 have M:EA (ps.map mK):=⟨λq l=>by
   obtain⟨p,f,rfl⟩:=FQ.1 l;have⟨_,a,c,e,m,_⟩:=n p f;simp[mK,J9,e,Mz,m],λq l=>by
   obtain⟨p,f,rfl⟩:=FQ.1 l;simp[mK,J9],λq l y o=>by
   obtain⟨p,f,rfl⟩:=FQ.1 l;simp[mK,J9]at o;obtain⟨d,j,rfl⟩:=o;have:=(n p f).1.by_ d j;omega⟩
 have K:∀A b,ov=.slice A ps.length b->(∀p∈ps,∃G,A=some (Qz G 0)/\G<W.heap.size/\∀j u,(wX ps)[j]?=some u->QG W G j u)->∃A b,ov=.slice A (ps.map mK).length b/\Ois W A (ps.map mK)/\EA (ps.map mK):=λA b e N=>by
  refine⟨A,b,by rw[Gz];exact e,⟨λi q l=>?_,λq l=>?_,λq l i t=>?_⟩,M⟩;·rw[Gv]at l;obtain⟨p,f,rfl⟩:=Option.map_eq_some_iff.1 l;have o:=FM f;have⟨G,m,y,F⟩:=N p o;refine⟨G,m,y,λj u d=>F _ _ ?_⟩;rw[L p o]at d;have O:j<6:=(Fz.1 d).1;exact(eC (λp:sT×QN=>opC p.1 p.2) 6 (λ_=>rfl) ps i p f j O).trans d
  ·obtain⟨p,f,rfl⟩:=FQ.1 l;have:=(n p f).1;exact⟨this.p,this.a,this.b⟩
  obtain⟨p,f,rfl⟩:=FQ.1 l;have⟨_,a,c,e,_,y⟩:=n p f;have o:i<p.1.data.length:=by simpa[mK,J9]using t
  have⟨x,F,O,P⟩:=y i o;refine⟨x,by simp[mK,e,MK,F],?_,P⟩;rw[O];simp[mK,J9,o]
 rcases r.op.2 with⟨rfl,v⟩|⟨g,b,w,m,_,z,_⟩;·have:=Ik v;subst this;exact K none 0 rfl (λp f=>by cases f)
 exact K _ _ m (λp f=>⟨g,rfl,G_ z,λj u d=>by have:=r.op.cells (g:=g) (by rw[m];rfl) j u d;rwa [Addr.add_mid,Oi]at this⟩)
structure Rsp(s:rP)(W:QM)(bb:Bool)(l:List Aw)(va:QN)(cm us:Nat)(m:List QN)(W':QM):Prop where
 ok:bb=true↔J7 s
 run:bb=true->l.map (·.1)=(vX s).2/\cm=bz (vX s).1.m 283/\us=(vX s).1.used
 row:W'.ownsRow W.heap.size 94 4 va l.length (fZ l)
 dat:∀y∈l,W'.ownsRow W.heap.size 5 1 y.2 y.1.data.length (Ns .u8 y.1.data)
 one:∀v∈m,v.oneCell'=true
 bel:D W W'
def Nc(F:FuncId):Prop:=∀(s:rP)(B:Nat)(u ov K:Value)(ps:List (sT×Value))(W:World),J8 s->Res B W s u ov K ps->Tb W->2<W.heap.size ->
 QA F #[.agg (OD s.cf u).toArray,ov] W λe W'=>∃(bb:Bool)(l:List Aw)(va:Value)(cm us:Nat)(z j t A v i:Value),e=.returned (.agg #[.bool bb,va,I cm,z,j,t,A,v,i,I us])/\Rsp s W bb l va cm us [va,z,j,t,A,v,i] W'
def I8{b:Nat}{e:QO}{sz:Nat}{n:Nat}{d:List QN}(h:W.ownsRow b e sz v n d):v.oneCell'=true:=by obtain⟨a,b,c,rfl,_⟩:=Re h;rfl
def Mh{s:rP}(h:jg s.cf.mix s.cf.fifo s.cf.large s.cf.budget s.cf.draws.length)(k:J8 s)(a:QP)(c:Nat):.agg (OD s.cf (.slice a s.cf.draws.length c)).toArray=gZ (rJ s.cf) a c/\mE (rJ s.cf)/\1<=(rJ s.cf).large:=by
 unfold jg at h;refine⟨?_,⟨by simp[rJ];omega,λd b=>?_,by simp[rJ],by have:=k.key;simp[rJ];omega,by simp[rJ];omega,by simp[rJ];omega,by simp[rJ];omega,by simp[rJ];omega,by simp[rJ];omega⟩,by simp[rJ];omega⟩;·simp only[OD,gZ,rJ];rw[IK Z,IK Z,IK Z,IK Z]
 have:=k.dr d b;exact IG Z
def KQ{s}(h:¬J7 s)(b:D W W'):Rsp s W false [] (C) 0 0 [C,C,C,C,C,C,C] W':=
 ⟨⟨λe=>(by cases e),λe=>absurd e h⟩,λe=>(by cases e),⟨rfl,.inl ⟨rfl,rfl⟩⟩,λy a=>(by cases a),λv hv=>(by simp at hv;subst hv;rfl),b⟩
def My:Nc 32:=by
 intro s B F G K ps W k r L M;obtain⟨d,f,rfl,i,j⟩:=JC r.dt;obtain⟨A,c,rfl,m,N⟩:=Kv r k;have g:(ps.map mK).length=s.ops.length:=by rw[<-r.eq];simp
 have a:(ps.map mK).map df.o=s.ops.map J9:=by rw[<-r.eq];simp[mK]
 by_cases h:J7 s
 ·have⟨e,n,o⟩:=Mh h.1 k d f;rw[e];refine(su (rJ s.cf) d f A c (ps.map mK) W n o i m (by rw[g];exact h.2)).mono ?_;rintro e W'⟨l,va,p,q,t,u,w,x,y,z,rfl,rp⟩;have b:=rp.ls;obtain rfl:p=_:=GB rp.com;obtain rfl:z=_:=GB rp.use;rw[a]at b;refine⟨true,l,va,_,_,q,t,u,w,x,y,rfl,⟨λ_=>h,λ_=>rfl⟩,λ_=>⟨b,by rw[a];rfl,by rw[a];rfl⟩,rp.row,rp.dat,λv hv=>?_,rp.bel⟩;rcases F4.1 hv with rfl|hv;·exact I8 rp.row
  exact rp.one v (Ij _ (IF [_] hv))
 refine(ng s.cf.mix s.cf.fifo s.cf.large s.cf.budget (s.cf.key:Int) d s.cf.draws.length f A (ps.map mK).length c W (by rw[g];exact h)).mono ?_;rintro e W'⟨rfl,b⟩;exact⟨_,_,_,0,0,_,_,_,_,_,_,rfl,KQ h b⟩
def MW:Nc 10:=by
 intro s B dv ov bd ps W k r o O;obtain⟨i,j,rfl,P,m⟩:=JC r.dt;obtain⟨A,d,rfl,Q,R⟩:=Kv r k;have p:(ps.map mK).length=s.ops.length:=by rw[<-r.eq];simp
 have c:(ps.map mK).map df.o=s.ops.map J9:=by rw[<-r.eq];simp[mK]
 by_cases h:J7 s
 ·have⟨e,S,T⟩:=Mh h.1 k i j;rw[e];refine(sZ AI (zj BE Ra) (rJ s.cf) i j A d (ps.map mK) W S T o P m O Q R (by rw[p];exact h.2)).mono ?_;rintro e W'⟨B,y,l,va,q,t,u,w,x,F,G,K,V,Y,X,rfl,L,b,hT,a,hX,rfl,n,a0⟩;have g:=aj Y X #[.bool true,va,q,t,u,w,x,F,G,K];have f:=b.ra.below a;have M:=b.ls;obtain rfl:q=_:=GB hT.2.1;obtain rfl:K=_:=GB hT.2.2;rw[G9,c]at M;refine⟨true,l,va,_,_,t,u,w,x,F,G,rfl,⟨λ_=>h,λ_=>rfl⟩,λ_=>⟨M,by rw[c];rfl,by rw[c];rfl⟩,ia (f.row.kept g (.inr λe=>by have:=(f.row.lt X e).1;omega)) L,λz N=>ia ((f.dat z N).kept g (.inr λe=>by have:=((f.dat z N).lt X e).1;omega)) L,λv hv=>?_,(az b.bel a).grown g (az b.bel a).size (λr e=>by cases e;exact n)⟩;rcases F4.1 hv with rfl|hv;·exact I8 f.row
  exact hT.1 v (Ij _ (IF [_] hv))
 refine(nt s.cf.mix s.cf.fifo s.cf.large s.cf.budget (s.cf.key:Int) i s.cf.draws.length j A (ps.map mK).length d W o (by rw[p];exact h)).mono ?_;rintro e W'⟨rfl,b⟩;exact⟨_,_,_,0,0,_,_,_,_,_,_,rfl,KQ h b⟩
def pq{P:Program}{md:Region.Mode}{e:Array Oper}{Q:Exit->Act->QM->Prop}{S:QM->Prop}(i:Nat){d:Nat}{g:Oper}{f:Nat}{b:Array Bool}{a:Act}(j:S w)(h:wpAnyH P md e Q S f (b.setIfInBounds i true) {a with tmps:=a.tmps.setIfInBounds d v} w)(k:e[i]?=some g:=by(rfl))(l:g.dst=some d:=by(rfl))(h2:YieldsIf P e S g v a:=by first|exact .inr ⟨rfl,rfl⟩|exact .inl ⟨E,λ_ _=>rfl⟩|(refine .inl ⟨E,?_⟩;intro _ h;(repeat obtain⟨_,h⟩:=h);go_simp;(try rfl);done))(m:Region.noSelect e=true:=by(kernel_rfl))(n:Region.free md e b i=true:=by(kernel_rfl))(o:(Region.ready md e b).contains i=true:=by(kernel_rfl))(p:∀c a w,Q (.panic c) (a.put g.dst v) w->Q (.panic c) a w:=by exact λ_ _ _ h=>h):wpAnyH P md e Q S (f+1) b a w:=aG k l m n o p h2 j h
def Ws.below{ls}(h:Ws B W v ls)(b:D W W'):Ws B W' v ls:=ax h b
def Ws.add{ls}(h:Ws B W v ls)(l)(b:B<=W.heap.size)(f:ls.length<=2000000):∃a m c W',QI 60 v (Vl W.heap.size 1 1) (W.alloc (QL #[.string (bs l)] 9)) (.slice a m c) W'/\Ws B W' (.slice a m c) (ls++[l])/\Ky (· =9) W W'/\Below B W W':=by have⟨i,W',e,o,g⟩:=DL LZ h b #[.string (bs l)] rfl (λu d=>by simp at d;subst d;rfl) f;obtain⟨a,m,c,rfl,_⟩:=Re o;exact⟨a,m,c,W',e,by unfold Ws;rw[Hr,FC];exact o,Ky.grownO (λP a=>by obtain⟨_,c,d⟩:=aF h a;exact⟨c,9,_,d,rfl⟩) g,(Fu B W).grown g b (λr a=>(aF h a).1)⟩
def Ws.nil(B W):Ws B W (C) []:=⟨rfl,.inl ⟨rfl,rfl⟩⟩
def Kq(B S W s dv ov bd ps)(d:Ss B S W s dv ov bd ps)(k:J8 s)(hl:s.bad.length<=20000)(f:PtW W):
  Calls prog 21 #[J S 0] W λe W'=>∃a m c,e=QJ (.slice a m c)/\Ws W.heap.size W' (.slice a m c) (m_ s.bad)/\D W W':=by
 have⟨y,L,q,b,_⟩:=JC d.res.bdo;subst q;have c7:W.cell? (Qz S 7)=some (.slice y s.bad.length L):=d.bx.cell 7;have M:Hid (∀V,D W V->∀i n,s.bad[i]?=some n->∃g,y=some (Qz g 0)/\QG V g i (I n)):=(λV o i n j=>by have⟨g,p,l⟩:=b.cells i (Fz.1 j).1;rw[j]at l;exact⟨g,p,NI o l⟩)
 have⟨N,O⟩:=y7 f k.bad;generalize b:s.bad.length=n at*;have r:=H b;go_in;go_wp2_with fail;go_loopw [3,11] (λb i wr=>∃(j:Nat)(a m c:_),j<=n/\i=I (j:Int)/\b=.slice a m c/\Hid (Ws W.heap.size wr (.slice a m c) (m_ (s.bad.take j)))/\Hid (D W wr)) (λ_ i _=>n-(intOf i).toNat);case atStart=>exact⟨0,_,_,_,aa,rfl,rfl,H (Ws.nil _ _),H th⟩
 case round=>
  obtain⟨j,a,m,c,hj,rfl,rfl,t,p⟩:=hrel;by_cases u:j<n
  ·have v:(j:Int)<(n:Int):=Z;obtain⟨x,k⟩:∃x,s.bad[j]?=some x:=⟨s.bad[j]'(by have:=r.out;omega),by simp[r.out,u]⟩;obtain⟨g,rfl,cx⟩:=M.out wr p j x k;have o:=O.out x (FM k);have b:=wT x.toNat Z wr (N.below p);rw[IK o.1]at b;have⟨R,l⟩:=Qa ([63,32]++dec x.toNat);have d:(⟨#[63,32]⟩:ByteArray)++bs (dec x.toNat)=bs R:=Ri [63,32] (dec x.toNat) l;have f:=ER 2 x.toNat Z Z;have P:=H (show m_ (s.bad.take (j+1))=m_ (s.bad.take j)++[R] by rw[F_,k,<-l];simp[m_]);have Q:=H (show(m_ (s.bad.take j)).length<=2000000 by simp[m_];omega);go_wp2_with fail;refine b.mono ?_;rintro e V⟨rfl,k⟩;have T:=Fx p.size k.size;have⟨z,A,F,l,o,G,X,K⟩:=(t.below k).add R T Q;have w:=H (show Ws W.heap.size l (.slice z A F) (m_ (s.bad.take (j+1))) by rw[P];exact G);have Y:=H ((p.trans (k.mono p.size)).trans K);go_wp2_with (at_builtin;refine up o ?_);go_roundw;(exact⟨j+1,z,A,F,Z,aY,rfl,w,Y⟩);exact QE
  obtain rfl:j=n:=Z;have v:¬(j:Int)<(j:Int):=Z;have w:=H (show Ws W.heap.size wr (.slice a m c) (m_ s.bad) by have:=t.out;rwa [Ge (by have:=r.out;omega)]at this);go_wp2_with fail;go_ret;exact⟨_,_,_,rfl,w,p⟩
instance (s:rP):Decidable (J7 s):=by unfold J7;infer_instance
def yk(s:rP):List (List UInt8):=if J7 s then qY (s.ops.map λo=>(o.kind:Int)) (vX s).2++[JX (bz (vX s).1.m 283) (vX s).1.used]else[[63,32,104,101,97,112]]
def Rsp.ky{s us m V'}(r:Rsp s W bb l va cm us m V)(k:Ky (· =41) V V')(b:Below W.heap.size V V'):Rsp s W bb l va cm us m V':=
 ⟨r.ok,r.run,ai r.row k,λy a=>ai (r.dat y a) k,r.one,r.bel.trans b⟩
def CI{s}(k:J8 s)(h:J7 s):(∀x∈(vX s).2,Bd x)/\bz (vX s).1.m 283<=283/\(vX s).1.used<=1000000/\(vX s).2.length=s.ops.length:=by
 have a:1<=(rJ s.cf).fifo:=by have:=h.1;unfold jg at this;simp[rJ];omega
 have c:=jp (rJ s.cf) a (s.ops.map J9) (aP (rJ s.cf)) [] 0 (Inv.new _) (Few.new _);have e:=c.2.used;rw[Gz]at e;refine⟨Ku _ a _ _ _ 0 (Inv.new _) (Few.new _) (Byt.new _) (λo f=>?_) (λx a=>by cases a),lh _ _,?_,by rw[vX,ft];simp⟩;·obtain⟨p,g,rfl⟩:=FQ.1 f;have:=k.ops p g;refine⟨λy b=>?_,this.p⟩;simp[J9]at b;obtain⟨d,i,rfl⟩:=b;have:=this.by_ d i;omega
 have:=h.2;unfold vX;omega
def Ch{ks:List Int}{an:List An4}{j:Nat}{k:Int}{a:An4}(b:ks[j]?=some k)(c:an[j]?=some a):qY (ks.take (j+1)) (an.take (j+1))=qY (ks.take j) (an.take j)++[OI k a]:=by
 have d:(ks.take j).length=(an.take j).length:=by have:=(Fz.1 b).1;have:=(Fz.1 c).1;simp;omega
 unfold qY;rw[F_,F_,b,c,List.zip_append d];simp
def zR:Array Value:=#[.bool false,C,I 0,C,C,C,C,C,C,I 0]
def Rb9(s:rP)(W:World)(X:Nat)(bb:Bool)(l:List Aw)(va:Value)(cm us:Nat)(v i j t u e:Value)(V:World):Prop:=V.heap[X]?=some (.cells #[.bool bb,va,I cm,v,i,j,t,u,e,I us] 41)/\Rsp s W bb l va cm us [va,v,i,j,t,u,e] V
def Rsp.all{s W bb l va cm us}{i j k m n o:QN}{V}(r:Rsp s W bb l va cm us [va,i,j,k,m,n,o] V):(#[.bool bb,va,I cm,i,j,k,m,n,o,I us]:Array QN).all (·.oneCell')=true:=by
 have h:=r.one;simp only[F4,Gp,or_false,forall_eq_or_imp,forall_eq]at h;have⟨a,b,c,d,e,f,g⟩:=h;refine all_oneCell_toArray λv hv=>?_;simp only[F4,Gp,or_false]at hv
 rcases hv with rfl|rfl|rfl|rfl|rfl|rfl|rfl|rfl|rfl|rfl<;>first|rfl|assumption
def Rsp.low{s W2 us m}(r:Rsp s W2 bb l va cm us m V)(b:D W W2):Rsp s W bb l va cm us m V:=
 ⟨r.ok,r.run,ia r.row b.size,λy a=>ia (r.dat y a) b.size,r.one,b.trans (r.bel.mono b.size)⟩
def Rb9.of{s}{X:Nat}{us}{a b d e f i:QN}{c:Array QN}(h:V.heap[X]?=some (QL c 41))(j:W.heap.size<=X)(r:Rsp s W bb l va cm us [va,a,b,d,e,f,i] V):Rb9 s W X bb l va cm us a b d e f i (V.setRow X #[.bool bb,va,I cm,a,b,d,e,f,i,I us]):=
 have g:=aj V X #[.bool bb,va,I cm,a,b,d,e,f,i,I us]
 ⟨aw h _,r.ky (Ky.grown h rfl g) (th.grown g r.bel.size (λq e=>by cases e;exact j))⟩
def Rb9.ky{s X us m1 m2 m3 m4 m5 m6 V'}(h:Rb9 s W X bb l va cm us m1 m2 m3 m4 m5 m6 V)(k:Ky (· =9) V V')(b:Below W.heap.size V V'):Rb9 s W X bb l va cm us m1 m2 m3 m4 m5 m6 V':=
 ⟨k.XC h.1,⟨h.2.ok,h.2.run,ai h.2.row k,λy a=>ai (h.2.dat y a) k,h.2.one,h.2.bel.trans b⟩⟩
def nD{b:Nat}(h:V.heap[b]?=V1.heap[b]?)(i:Nat):V.cell? (Qz b i)=V1.cell? (Qz b i):=by unfold World.cell?;dsimp only;rw[h]
def Ls(B S W s dv ov bd ps)(b:Ss B S W s dv ov bd ps)(k:J8 s)(n:PtW W)(o:Tb W)(h0:2<W.heap.size):
  Calls prog 22 #[J S 0] W λe W'=>∃a m c,e=QJ (.slice a m c)/\Ws W.heap.size W' (.slice a m c) (yk s)/\D W W':=by
 obtain⟨da,dn,dc,rfl,f⟩:=Re b.res.dt;obtain⟨oa,on,oc,rfl,i⟩:=Re b.res.op;have G:Hid (∀V,D W V->V.cell? (Qz S 0)=some (I s.cf.mix)/\V.cell? (Qz S 1)=some (I s.cf.fifo)/\V.cell? (Qz S 2)=some (I s.cf.large)/\V.cell? (Qz S 3)=some (I s.cf.budget)/\V.cell? (Qz S 4)=some (U (s.cf.key:Int))/\V.cell? (Qz S 5)=some (.slice da dn dc)/\V.cell? (Qz S 6)=some (.slice oa on oc)):=λV M=>
  have d:=b.bx.below M b.bx.lt
  ⟨d.cell 0,d.cell 1,d.cell 2,d.cell 3,d.cell 4,d.cell 5,d.cell 6⟩
 have N:=H (λV(M:D W V)=>MW s B (.slice da dn dc) (.slice oa on oc) bd ps V k (b.res.below M) (o.below M) (FG h0 M.size));unfold OD at N;obtain⟨HK,HT,HS⟩:=Qe k n b;clear b n o h0 k f i;generalize s.cf.mix=x0 at G N;generalize s.cf.fifo=x1 at G N;generalize s.cf.large=x2 at G N;generalize s.cf.budget=x3 at G N;generalize (s.cf.key:Int)=x4 at G N;go_in;go_upto_region 1 with fail
 go_cut [3] (λb d=>∃X bb l va cm us m1 m2 m3 m4 m5 m6,b=J X 0/\Hid (Rb9 s W X bb l va cm us m1 m2 m3 m4 m5 m6 d));case first=>
  go_wp2;refine rh (S:=λV:QM=>V.cell? (Qz S 0)=some (I x0)/\V.cell? (Qz S 1)=some (I x1)/\V.cell? (Qz S 2)=some (I x2)/\V.cell? (Qz S 3)=some (I x3)/\V.cell? (Qz S 4)=some (U x4)/\V.cell? (Qz S 5)=some (.slice da dn dc)/\V.cell? (Qz S 6)=some (.slice oa on oc)) ?_;have m:=(Fu W.heap.size W).drew;have F:=G.out W.drew m;iterate 8 (refine py F ?_;simp only[f0,f1,Nat.reduceAdd,lz,l0,ls])
  refine lZ [8,9] λp o=>?_;rcases(by simpa using o:p=8\/p=9)with rfl|rfl
  case' inl=>
   refine cw λK' w=>?_;go_simp;refine(N W.drew m).mono ?_;rintro e b⟨bb,l,va,cm,us,m1,m2,m3,m4,m5,m6,rfl,rp⟩;have f:=rp.low m;refine w _ _ ⟨G b f.bel,?_⟩;clear w K' rp;refine po 9 λK' w=>?_
   go_simp;have i:=(Fu b.heap.size b).alloc gi (QL zR 41);have d:=ao b (QL zR 41);refine w _ _ ⟨G _ (az f.bel i),?_⟩;have n:=f.ky (Ky.below i) (i.mono f.bel.size);have q:=f.bel.size
  case' inr=>
   refine cw λK' w=>?_;go_simp;have i:=(Fu W.drew.heap.size W.drew).alloc gi (QL zR 41);have d:=ao W.drew (QL zR 41);refine w _ _ ⟨G _ (az m i),?_⟩;clear w K';refine po 8 λK' w=>?_
   go_simp;refine(N _ (az m i)).mono ?_;rintro e b⟨bb,l,va,cm,us,m1,m2,m3,m4,m5,m6,rfl,rp⟩;have n:=rp.low (az m i);refine w _ _ ⟨G b n.bel,?_⟩;have d:b.heap[W.heap.size]?=_:=(rp.bel.block _ (G_ d)).trans d;have q:=Fv W.heap.size
  all_goals
   clear w K'
   refine po 10 λK' w=>?_
   refine Ih 41 _ _ rfl _ _ rfl rfl 41 _ d E rfl n.all ?_
   have f:=Rb9.of d q n
   refine w _ _ ⟨G _ f.2.bel,?_⟩
   clear w K'
   refine bY ?_
   go_wp2
   go_meet
   exact⟨_,bb,l,va,cm,us,m1,m2,m3,m4,m5,m6,rfl,H f⟩
 case rest=>
  obtain⟨X,bb,l,va,cm,us,m1,m2,m3,m4,m5,m6,rfl,x⟩:=hcut;obtain⟨d,Q,vc,rfl,f⟩:=Re x.2.row;have HV:=H f;have q0:wc.cell? (Qz X 0)=some (.bool bb):=bJ x.1;have q1:wc.cell? (Qz X 1)=some (.slice d Q vc):=bJ x.1;clear f;cases bb with
  |false=>
   have f:¬J7 s:=λh=>by have:=x.2.ok.2 h;cases this
   obtain⟨K,HN⟩:=y7 x.2.bel (show yk s=[[63,32,104,101,97,112]] by rw[yk,GO f]);clear f;go_wp2;go_ret;rw[HN];exact⟨_,_,_,rfl,⟨rfl,.inr ⟨_,1,_,rfl,K.size,XD,gi,by unfold maxLen;omega,rfl,rfl⟩⟩,K.alloc K.size _⟩
  | true=>
   have f:J7 s:=x.2.ok.1 rfl;obtain⟨i,rfl,rfl⟩:=x.2.run rfl;obtain⟨m,a1,a2,a3⟩:=CI HK f;have n:l.length=s.ops.length:=(by rw[<-a3,<-i,Gz]);obtain⟨HN,HL⟩:=y7 (show yk s=_ by rw[yk,GP f]) (IT i (IT n f.2));have HD:Hid (∀y∈l,Bd y.1):=(λy hy=>m y.1 (by rw[<-i];exact List.mem_map_of_mem hy));have b7:Q<=300:=(by have:=HV.out;have:=f.2;omega);clear f i n m;have HP:Hid (∀V,D W V->∀j p,ps[j]?=some p->∃g,oa=some (Qz g 0)/\j<on/\V.cell? (Qz g (j*6))=some (I (p.1.kind:Int))):=(λV M j p O=>by
    rcases HS.res.op.2 with⟨_,h0⟩|⟨g,a7,b0,z,_⟩;·rw[Ik h0]at O;cases O
    injection z with z T h3;subst z T;have f:=HS.res.op.cells (g:=g) rfl (j*6) (I (p.1.kind:Int)) ((eC (λp:sT×QN=>opC p.1 p.2) 6 (λ_=>rfl) ps j p O 0 Z).trans rfl);rw[Addr.add_mid,Oi]at f;exact⟨g,rfl,(Fz.1 O).1,NI M f⟩)
   go_wp2;go_loopw [4,25] (λf i wr=>∃(j:Nat)(a9:QP)(m9 c9:Nat),j<=Q/\i=I (j:Int)/\f=.slice a9 m9 c9/\Hid (Ws W.heap.size wr (.slice a9 m9 c9) (qY ((s.ops.map λo=>(o.kind:Int)).take j) ((vX s).2.take j)))/\Hid (Rb9 s W X true l (.slice d Q vc) _ _ m1 m2 m3 m4 m5 m6 wr)) (λ_ i _=>Q-(intOf i).toNat);(case atStart=>exact⟨0,_,_,_,aa,rfl,rfl,H (Ws.nil _ _),x⟩);case round=>
    clear x q0 q1;obtain⟨j,a9,m9,c9,hj,rfl,rfl,HO,x⟩:=hrel;by_cases b4:j<Q
    ·have b5:(j:Int)<(Q:Int):=Z;obtain⟨y,hy⟩:∃y,l[j]?=some y:=⟨l[j]'(by have:=HV.out;omega),by simp[<-HV.out,b4]⟩;obtain⟨p,O⟩:∃p,ps[j]?=some p:=by have z:=congrArg List.length HS.res.eq;have T:=HL.2.1;have h3:=HV.out;rw[Gz]at z;exact⟨ps[j]' Z,bH⟩
     have t:=FM hy;have a4:=FM O;obtain⟨og,rfl,b9,ck⟩:=HP.out wr x.2.bel j p O;obtain⟨g,rfl⟩:∃g,d=some (Qz g 0):=by
      rcases x.2.row.2 with⟨z,T⟩|⟨g,a7,b0,z,_⟩;·have:=HV.out;omega
      injection z with z;exact⟨g,z⟩
     have m:∀i,i<4->wr.cell? (Qz g (j*4+i))=(aC y)[i]?:=λi hi=>by have n:=eC aC 4 (λ_=>rfl) l j y hy i hi;obtain⟨u,hu⟩:∃u,(aC y)[i]?=some u:=⟨(aC y)[i]'(by simpa[aC]using hi),bH⟩;have f:=x.2.row.cells (g:=g) rfl _ u (n.trans hu);rw[Addr.add_mid,Oi]at f;rw[f,hu]
     have d0:wr.cell? (Qz g (j*4))=some (I y.1.code):=m 0 Z;have d1:wr.cell? (Qz g (j*4+1))=some (U y.1.addr):=m 1 Z;have d2:wr.cell? (Qz g (j*4+2))=some (I y.1.size):=m 2 Z;have d3:wr.cell? (Qz g (j*4+3))=some y.2:=m 3 Z;obtain⟨ya,f,yc,v,n⟩:=Re (x.2.dat y t);clear n;rw[v]at d3;have c6:=(G wr x.2.bel).2.2.2.2.2.2;clear m;(go_upto_region 8 with fail);have A:=ao wr (QL #[I y.1.code,U y.1.addr,I y.1.size,.slice ya f yc] 94);have P:=(Fu wr.heap.size wr).alloc gi (QL #[I y.1.code,U y.1.addr,I y.1.size,.slice ya f yc] 94);generalize wr.alloc _=V1 at A P⊢;have bW:=az x.2.bel P;have hw:=x.2.bel.size;have B1:=x.ky (Ky.below P) (P.mono hw);have O1:=HO.below P;obtain⟨_,co,m⟩:=aF (HS.res.below bW).op rfl;have xs:=(HS.below bW).bx;have a5:=NI P ck;generalize hY:wr.heap.size=Y at*;have e0:V1.cell? (Qz Y 0)=some (I y.1.code):=bJ A;have e1:V1.cell? (Qz Y 1)=some (U y.1.addr):=bJ A;have e2:V1.cell? (Qz Y 2)=some (I y.1.size):=bJ A;have e3:V1.cell? (Qz Y 3)=some (.slice ya f yc):=bJ A;have a6:=(G V1 bW).2.2.2.2.2.2;have CN:Hid (∀V:QM,V.heap[Y]?=V1.heap[Y]?->V.heap[S]?=V1.heap[S]?->V.heap[og]?=V1.heap[og]?->V.cell? (Qz S 6)=some (Vl og on oc)/\V.cell? (Qz og (j*6))=some (I (p.1.kind:Int))/\V.cell? (Qz Y 0)=some (I y.1.code)/\V.cell? (Qz Y 1)=some (U y.1.addr)/\V.cell? (Qz Y 2)=some (I y.1.size)/\V.cell? (Qz Y 3)=some (.slice ya f yc)):=(λV z T h3=>by rw[nD z,nD z,nD z,nD z,nD T,nD h3];exact⟨a6,a5,e0,e1,e2,e3⟩)
     have bd:=HD.out y t;have kd:=(HK.ops p.1 (by rw[<-HS.res.eq];exact List.mem_map_of_mem a4)).kd;have n:=Kd W.heap.size (p.1.kind:Int) y.1 ya f yc V1.drew bd Z (HT.below bW.drew) (by have:=ax (B1.2.dat y t) ld;rwa [v]at this);have HE:=H (Ch (ks:=s.ops.map λo=>(o.kind:Int)) (an:=(vX s).2) (j:=j) (k:=(p.1.kind:Int)) (a:=y.1) (by rw[<-HS.res.eq];simp[O]) (by rw[<-HL.1];simp[hy]));have a0:=H (show(qY ((s.ops.map λo=>(o.kind:Int)).take j) ((vX s).2.take j)).length<=2000000 by simp[qY];omega);generalize OI (p.1.kind:Int) y.1=R at*;generalize (p.1.kind:Int)=b6 at*;generalize y.1.code=q at*;generalize (y.1.addr:Int)=r at*;generalize (y.1.size:Int)=S0 at*;obtain⟨L,B1,O1,K⟩:=Qf (IT A (IT m xs)) B1 O1 bW;clear d0 d1 d2 d3 c6 A P ck e0 e1 e2 e3 a6 a5 m xs HO x bd t a4 hy O v bW;go_wp2;refine rh (S:=λV:QM=>V.cell? (Qz S 6)=some (Vl og on oc)/\V.cell? (Qz og (j*6))=some (I b6)/\V.cell? (Qz Y 0)=some (I q)/\V.cell? (Qz Y 1)=some (U r)/\V.cell? (Qz Y 2)=some (I S0)/\V.cell? (Qz Y 3)=some (.slice ya f yc)) ?_;have F:=CN.out V1.drew rfl rfl rfl;(iterate 10 (refine py F ?_;simp only[f0,f1,Nat.reduceAdd,lz,l0,ls]));refine po 10 λK' w=>?_;go_simp;refine n.mono ?_;rintro e V2⟨rfl,b2⟩;have m:=az ((Fu V1.heap.size V1).drew) b2;refine w _ _ ⟨CN V2 (m.block _ (G_ L.1)) (m.block _ L.2.2.lt) (m.block _ (G_ L.2.1)),?_⟩;clear w K' F;refine po 11 λK' w=>?_
     go_simp;have b3:=(Fu V2.heap.size V2).alloc gi (QL #[.string (bs R)] 9);have A:=az m b3;refine w _ _ ⟨CN _ (A.block _ (G_ L.1)) (A.block _ L.2.2.lt) (A.block _ (G_ L.2.1)),?_⟩;clear w K';obtain⟨a8,m8,c8,b,v,o8,k8,b8⟩:=(O1.below m).add R (Fx K.size m.size) a0;have P:∀{g:Nat}{c:Array QN}{t:QO},V1.heap[g]?=some (QL c t)->¬t=9->b.heap[g]?=V1.heap[g]?:=λz T=>by rw[k8.XC ((m.block _ (G_ z)).trans z) T,z]
     have F:=CN.out b (P L.1 ar) (P L.2.2 ar) (P L.2.1 ar);refine gu 12 ?_;refine ur v ⟨F,?_⟩;refine py F ?_;simp only[f0,f1,Nat.reduceAdd,lz,l0,ls];refine bY ?_;rw[<-HE.out]at o8;obtain⟨O8,B8⟩:=y7 o8 ((B1.ky (Ky.below m) (m.mono K.size)).ky k8 b8);go_wp2;go_roundw;(exact⟨j+1,a8,m8,c8,Z,aY,rfl,O8,B8⟩);exact QE
    obtain rfl:j=Q:=Z;have b5:¬(j:Int)<(j:Int):=Z;obtain⟨cm,hc⟩:=Qa (bz (vX s).1.m 283);obtain⟨us,hu⟩:=Qa ((vX s).1.used);have HF:=H (show yk s=qY ((s.ops.map λo=>(o.kind:Int)).take j) ((vX s).2.take j)++[JX cm us] by have z:=HV.out;have T:=HL.2.1;rw[HN,Ge (by rw[Gz];omega),Ge Z,hc,hu])
    have a0:=H (show(qY ((s.ops.map λo=>(o.kind:Int)).take j) ((vX s).2.take j)).length<=2000000 by simp[qY];omega);rw[hc]at x a1;rw[hu]at x a2;have CN:Hid (∀V:QM,V.heap[X]?=wr.heap[X]?->V.cell? (Qz X 2)=some (I cm)/\V.cell? (Qz X 9)=some (I us)):=(λV z=>by rw[nD z,nD z,ac x.1,ac x.1];exact QB)
    obtain⟨L,K⟩:=y7 (G_ x.1) x.2.bel;have f:=wT cm Z wr.drew (HT.below K.drew);have n:=H (λV M=>wT us Z V (HT.below M));obtain⟨q,t⟩:=Qa ([99,111,109,109,105,116,116,101,100,32]++dec cm);obtain⟨Y,P⟩:=Qa (q++[32,117,115,101,100,32]);obtain⟨R,hR⟩:=Qa (Y++dec us);have r:JX cm us=R:=(by rw[<-hR,<-P,<-t];rfl);rw[r]at HF;have t1:(⟨#[99,111,109,109,105,116,116,101,100,32]⟩:ByteArray)++bs (dec cm)=bs q:=Ri [99,111,109,109,105,116,116,101,100,32] (dec cm) t;have t2:bs q++(⟨#[32,117,115,101,100,32]⟩:ByteArray)=bs Y:=Ri q [32,117,115,101,100,32] P;have t3:bs Y++bs (dec us)=bs R:=Ri Y (dec us) hR;have n1:=ER 10 cm Z Z;have a4:=kX cm Z;have a5:=kX us Z;have la:q.length<=30:=(by rw[<-t];simp;omega);have lb:Y.length<=36:=(by rw[<-P];simp;omega);have n2:¬9223372036854775807<(bs q).size+6:=(by rw[gz];omega);have n3:¬9223372036854775807<(bs Y).size+(bs (dec us)).size:=(by rw[gz,gz];omega);generalize ((cm:Nat):Int)=r at*;generalize ((us:Nat):Int)=t at*;go_wp2;refine rh (S:=λV:QM=>V.cell? (Qz X 2)=some (I r)/\V.cell? (Qz X 9)=some (I t)) ?_;have F:=CN.out wr.drew rfl;(iterate 3 (refine py F ?_;simp only[f0,f1,Nat.reduceAdd,lz,l0,ls]));refine pq 4 F ?_;simp only[lz,l0,ls];refine pq 5 F ?_;simp only[lz,l0,ls];refine pq 6 F ?_;simp only[lz,l0,ls];refine po 3 λK' w=>?_;go_simp;refine f.mono ?_;rintro e V2⟨rfl,b2⟩;have m:=az ((Fu wr.heap.size wr).drew) b2;refine w _ _ ⟨CN V2 (m.block _ L),?_⟩;refine po 7 λK' w=>?_
    go_simp;refine(n V2 (az K m)).mono ?_;rintro e P⟨rfl,b3⟩;have A:=az m b3;have F:=CN.out P (A.block _ L);refine w _ _ ⟨F,?_⟩;refine pk 8 (.string (bs (dec cm))) F ?_;refine pk 9 (.string (bs (dec us))) F ?_;refine bY ?_;obtain⟨a8,m8,c8,b,v,o8,k8,b8⟩:=(HO.below A).add R (Fx K.size A.size) a0;rw[<-HF.out]at o8;obtain⟨O8,B8⟩:=y7 o8 ((K.trans (A.mono K.size)).trans b8);go_wp2_with (at_builtin;refine up v ?_);go_ret;exact⟨_,_,_,rfl,O8,B8⟩
def GA:List UInt8:=[63,32,115,99,114,105,112,116,10]
def sH(s:rP):List (List UInt8):=m_ s.bad++yk s
def tell(l:List UInt8):List UInt8:=if 20000<l.length then GA else joinL (sH (kI l))
def AP(k){a}(b:Bd a):(OI k a).length<=9000:=by
 have⟨d,e,c,sz,_,f⟩:=b;have g:=kX a.code.toNat Z;have i:=kX a.size Z;have j:=kX a.addr c;have l:=Di a.data;unfold OI six
 repeat' split
 all_goals(simp;try omega)
def y8{s}(k:J8 s)(f:s.bad.length<=20000):(sH s).length<=20301/\0<(yk s).length/\∀x∈sH s,x.length<=9000:=by
 have b:∀x∈m_ s.bad,x.length<=9000:=λx a=>by obtain⟨n,c,rfl⟩:=FQ.1 a;have:=k.bad n c;have:=kX n.toNat Z;simp;omega
 unfold sH yk;split
 ·rename_i h;have⟨d,g,i,j⟩:=CI k h;have:=h.2;refine⟨by simp[m_,qY];omega,bH,λx a=>?_⟩;rcases F8.1 a with a|a;·exact b x a
  rcases F8.1 a with a|a;·obtain⟨y,e,rfl⟩:=FQ.1 a;exact AP _ (d _ (List.of_mem_zip e).2)
  rw[List.mem_singleton.1 a];have:=kX (bz (vX s).1.m 283) Z;have:=kX (vX s).1.used Z;simp[JX];omega
 refine⟨by simp[m_];omega,bH,λx a=>?_⟩;rcases F8.1 a with a|a;·exact b x a
 rw[List.mem_singleton.1 a];simp
def sf:∀ls:List (List UInt8),(∀x∈ls,x.length<=9000)->(joinL ls).length<=ls.length*9001
 |[],h=>by simp[joinL]
 |x::r,h=>by
  have c:=h x bH
  have a:=sf r λy b=>h y (by simp[b])
  unfold joinL at*
  simp at a⊢
  omega
def JU{ls:List (List UInt8)}{j:Nat}{x:List UInt8}(h:ls[j]?=some x):joinL (ls.take (j+1))=joinL (ls.take j)++x++[10]:=by rw[F_,h];simp[joinL]
def Nb(W:QM)(l):RowM (Lib.bytesWorld W 5 (bs l)) W.heap.size (bv l)/\D W (Lib.bytesWorld W 5 (bs l)):=by refine⟨⟨_,_,Lib.bytesWorld_at_new W 5 (bs l),by simp[Lib.bytesCells,bv,bs],λi a=>?_,.inl (by simp[Lib.bytesCells,bv,bs])⟩,rfl,rfl,rfl,by rw[Lib.bytesWorld_size];omega,λk b=>Lib.bytesWorld_at_old W 5 (bs l) k b⟩;rw[rb]at a;simp[Lib.bytesCells,Array.getElem?_append,bs,bv,a]
def Ws.all{u ls ms}(h:Ws B W v ls)(r:Ws B W u ms)(n:0<ms.length)(f:B<=W.heap.size)(p:ls.length+ms.length<=2000000):∃a m c W',QI 60 v u W (.slice a m c) W'/\Ws B W' (.slice a m c) (ls++ms)/\Ky (· =9) W W'/\Below B W W':=by
 rcases r.2 with⟨_,q⟩|⟨g,b,j,k,_⟩;·omega
 subst k;have⟨s,W',e,o,i⟩:=KZ LZ h f (Qz g 0) ms.length b (ms.map wg) bH (λj u d=>r.cells rfl j u d) (λu d=>by obtain⟨x,_,rfl⟩:=FQ.1 d;rfl) Z;obtain⟨a,m,c,rfl,_⟩:=Re o;exact⟨a,m,c,W',e,by unfold Ws;rw[Hr,FC];exact o,Ky.grownO (λP a=>by obtain⟨_,c,l⟩:=aF h a;exact⟨c,9,_,l,rfl⟩) i,(Fu B W).grown i f (λr a=>(aF h a).1)⟩
def Ws.mono{a:Nat}{ls}(h:Ws B W v ls)(b:a<=B):Ws a W v ls:=ia h b
def Bu.ky{S B b l W W'}(h:Bu B b l W)(k:Ky S W W')(a:¬S 5)(c:¬S 70):Bu B b l W':=by have⟨p,v,d,e,f,g⟩:=h;exact⟨p,v,d,k.XC e c,f.ky k a,g⟩
def Tr(l:List UInt8)(W:World)(e:Ending)(W':World):Prop:=∃i c',e=.returned (Vl i (tell l).length c')/\W.heap.size<=i/\RowM W' i (bv (tell l))/\D W W'
def LJ(l g c)(L a1:Addr)(mx W)(r:RowV W g 5 (bv l))(n:l.length<=1048576)(q:QG W 0 0 (.iface 399 (.pointer (some L))))(u:QG W 1 0 (.iface 399 (.pointer (some a1))))(o:QG W 3 0 (I mx))(p:PtW W)(t:Tb W)(z:2<W.heap.size):
  QA 8 #[Vl g l.length c] W (Tr l W):=by
 have v:=run_convert_bytes_back (P:=prog) W 22 9 5 (Qz g 0) c l underlying22 underlying5 underlying9 (λj Q=>by rw[Lib.add_plain,Oi,r.cell j (by rw[rb];exact Q),uE _ _ Q]);by_cases b:20000<l.length;·have a:=Jq (bs l) (.iface 399 (.pointer (some L))) W (by rw[gz];exact b) (by rw[gz];exact n) q;have X:=H (show tell l=GA by unfold tell;rw[GP b]);go_enter func8,ntmps8;go_wp2_with fail;refine a.mono ?_;rintro e V⟨rfl,d⟩;have c0:=NI d q;have f:=Jt L V;have k:=Lib.run_convert_bytes_const (P:=prog) V 22 5 #[.int .u8 63,.int .u8 32,.int .u8 115,.int .u8 99,.int .u8 114,.int .u8 105,.int .u8 112,.int .u8 116,.int .u8 10] 9 9 underlying22 underlying5;go_wp2_with fail;refine f.mono ?_;rintro e V2⟨rfl,rfl⟩;go_wp2_with fail;go_ret;unfold Tr;rw[X];exact⟨_,9,rfl,d.size,⟨_,_,XD,ar,λi m=>List.getElem?_toArray (xs:=bv GA),.inl ar⟩,d.alloc d.size _⟩
 have m:l.length<=20000:=Z;have a:=Lu (bs l) a1 mx W (by rw[gz];exact m) u o;rw[kO]at a;have X:=H (show tell l=joinL (sH (kI l)) by unfold tell;rw[GO b]);have⟨M,T,A,F⟩:=Qf (Jy l) (Ju l) p t;generalize kI l=s at*;go_enter func8,ntmps8;go_wp2_with fail;refine a.mono ?_;rintro e V⟨S,B,dv,ov,bd,ps,rfl,x,d,t⟩;have c0:=NI d q;have f:=Ko L V;go_wp2_with fail;refine f.mono ?_;rintro e w⟨rfl,rfl⟩;go_upto_region 5 with fail
 have r:=ao w (QL #[.pointer none,C] 70);have o:=(Fu w.heap.size w).alloc gi (QL #[.pointer none,C] 70);generalize w.alloc _=V1 at r o⊢;have p:=az d o;have n:=t.below o;have N:Bu W.heap.size w.heap.size [] V1:=⟨_,_,.inl rfl,r,ObW.nil _ _,d.size⟩;have y:=H p.size;generalize w.heap.size=b at*;have m:=Kq B S V1 s dv ov bd ps n M T (A.below p);have⟨v,N,BW⟩:=Qe n N p;go_wp2_with fail;refine m.mono ?_;rintro e V2⟨n,cm,cc,rfl,wc,x⟩;have p:=az BW x;have o:=Ls B S V2 s dv ov bd ps (v.below x) M (A.below p) (F.below p) (FG z p.size);have⟨r,B2,t⟩:=Qe wc x p;go_wp2_with fail;refine o.mono ?_;rintro e V3⟨ra,rm,rc,rfl,z,A⟩;have x:=y8 M T;have F:(m_ s.bad).length+(yk s).length<=2000000:=by have:=x.1;unfold sH at this;simp at this;omega
 have⟨a9,p,c9,V4,m,O,k9,b9⟩:=((r.below A).mono (y)).all (z.mono (t.size)) x.2.1 (Fx t.size A.size) F;change Ws _ _ _ (sH s)at O;obtain⟨R,rfl,v⟩:∃R,a9=some (Qz R 0)/\(sH s).length=p:=by
  rcases O.2 with⟨_,q⟩|⟨R,G,K,u,_⟩;·have:=x.2.1;unfold sH at q;simp at q;rw[q.2]at this;cases this
  injection u with u Y;exact⟨R,u,Y.symm⟩
 have G:=H (((N.ky (Ky.below B2.out:Ky (λ_=>False) _ _) (λe=>e) (λe=>e)).ky (Ky.below A:Ky (λ_=>False) _ _) (λe=>e) (λe=>e)).ky k9 ar ar);have⟨K,O9,Y⟩:=Qe ((az t A).trans b9) O v;have hN:p<=20301:=by rw[<-v];exact x.1
 have HM:=H x.2.2;generalize sH s=ls at*;go_wp2_with (at_builtin;refine up m ?_);go_loopw [25] (λi wr=>∃j:Nat,j<=p/\i=I (j:Int)/\Hid (Ws W.heap.size wr (Vl R p c9) ls)/\Hid (Bu W.heap.size b (joinL (ls.take j)) wr)/\Hid (D W wr)) (λi _=>p-(intOf i).toNat);case atStart=>exact⟨0,aa,rfl,O9,G,K⟩
 case round=>
  obtain⟨j,Q,rfl,z,t,r⟩:=hrel;by_cases A:j<p
  ·have F:(j:Int)<(p:Int):=Z;obtain⟨x,v⟩:∃x,ls[j]?=some x:=⟨ls[j]'(by have:=Y.out;omega),by simp[Y.out,A]⟩;have cx:wr.cell? (Qz R j)=some (.string (bs x)):=by have:=z.cells (g:=R) rfl j (wg x) (by simp[v]);rwa [Addr.add_mid,Oi]at this
   have M:=HM.out x (FM v);have m:=sf (ls.take j) λy O=>HM.out y (List.mem_of_mem_take O)
   have o:(joinL (ls.take j)).length<=182738301:=by refine Fx m ?_;rw[Hm];have:min j ls.length*9001<=20301*9001:=Gm _ Z;omega
   have N:=Lt W.heap.size b (joinL (ls.take j)) (bs x) wr t r.size (by rw[gz];omega);rw[kO]at N;have T:=H (JU v);have HQ:=H (show(joinL (ls.take j)++x).length<=1999999999 by rw[FC];omega);go_wp2_with fail;refine N.mono ?_;rintro e M⟨rfl,u5,v,m⟩;have o:=K9 W.heap.size b 10 M u5 (Fx r.size m.size) HQ;rw[show((10:UInt8).toNat:Nat)=10 from rfl]at o;have⟨K5,B5⟩:=y7 v m;go_wp2_with fail;refine o.mono ?_;rintro e V6⟨rfl,u6,m,v⟩;rw[<-T.out]at u6;have⟨N,O6,B6⟩:=Qe u6 (ai (ai z K5 ar) m) ((r.trans B5).trans v);go_wp2_with fail;go_roundw;(exact⟨j+1,Z,aY,O6,N,B6⟩);exact QE
  obtain rfl:j=p:=Z;have F:¬(j:Int)<(j:Int):=Z;have m:=t.out;rw[Ge (by have:=Y.out;omega),<-X.out]at m;have v:=LL W.heap.size b (tell l) wr m r.size;go_wp2_with fail;refine v.mono ?_;rintro e t⟨rfl,x⟩;have k:=Lib.run_convert_string_bytes (P:=prog) t 9 22 5 (bs (tell l)) underlying9 underlying22 underlying5;rw[gz]at k;have y:=Nb t (tell l);generalize hT:tell l=T at*;have m:=H hT;generalize Lib.bytesWorld _ _ _=M at*;have⟨z,o⟩:=y7 y (r.trans x);go_wp2_with fail;go_ret;unfold Tr;rw[m];exact⟨_,_,rfl,o.size,z.1,o.trans (z.2.mono o.size)⟩
structure Oy(B:Nat)(P:Nat->Prop)(W0 W:QM)(v:QN)(l:List UInt8):Prop where
 o:ObW B W v l
 ap:∀r,v.ownBlock=some r->¬P r
 win:∀k,P k->W.heap[k]?=W0.heap[k]?
 bel:Below B W0 W
 hB:B<=W0.heap.size
 pl:∀k,P k->k<W0.heap.size
abbrev Oq(B lo:Nat)(W0 W:World)(v:Value)(l:List UInt8):Prop:=Oy B (λk=>lo<=k/\k<W0.heap.size) W0 W v l
def Oq.start{l}(h:ObW B W v l)(a:B<=W.heap.size)(b:∀r,v.ownBlock=some r->r<lo):Oq B lo W W v l:=⟨h,λr c d=>Nat.not_lt.2 d.1 (b r c),λ_ _=>rfl,th,a,λ_ h=>h.2⟩
section
variable {B:Nat}{P:Nat->Prop}{W0 W:World}{v:Value}{l:List UInt8}
def Oy.below(h:Oy B P W0 W v l){W'}(b:D W W'):Oy B P W0 W' v l:=
 ⟨h.o.below b,h.ap,λk a=>(b.block k (FG (h.pl k a) h.bel.size)).trans (h.win k a),h.bel.trans (b.mono (Fx h.hB h.bel.size)),h.hB,h.pl⟩
def Ny(B:Nat)(P:Nat->Prop)(W0 W:World)(T:TypeId)(v u:Value)(l:List UInt8):Prop:=∃a m c W',(Builtin.append_ #[22,T] 22 #[v,u]).run prog W=.ok (.slice a m c) W'/\Oy B P W0 W' (.slice a m c) l/\Ky (· =5) W W'
def Oy.next(h:Oy B P W0 W v l){v' l'}(o:ObW B W' v' l')(g:W.grownBy W' v.ownBlock)(e:v'.ownBlock=v.ownBlock\/∀r,v'.ownBlock=some r->W.heap.size<=r):Oy B P W0 W' v' l':=by
 have b:=h.bel.size;refine⟨o,λr c d=>?_,λk a=>?_,h.bel.trans (h.o.tie (Fx h.hB b) g).2,h.hB,h.pl⟩
 ·rcases e with e|e;·exact h.ap r (e▸c) d
  have:=e r c;have:=h.pl r d;omega
 rw[g.block k (FG (h.pl k a) b) (λb=>h.ap k b.symm a)];exact h.win k a
def Oy.str(h:Oy B P W0 W v l)(s:ByteArray)(V:l.length+s.size<=2000000000):Ny B P W0 W 9 v (.string s) (l++s.data.toList):=by
 have⟨y,b,i,d,k⟩:=G0 ql.info;have K:=Fx h.hB h.bel.size;have n:∀p,W.ownsRow p 5 1 v l.length (bv l)->p<=W.heap.size->∃a m c W',(Builtin.append_ #[22,9] 22 #[v,.string s]).run prog W=.ok (.slice a m c) W'/\ObW p W' (.slice a m c) (l++s.data.toList)/\W.grownBy W' v.ownBlock:=λp M z=>by have⟨j,f,e,o,g,_⟩:=Lib.run_append_own_string (P:=prog) (w:=W) p 22 9 22 5 y ql.und underlying9 b i d k v _ _ M s (by unfold maxLen;omega) Z z;obtain⟨a,m,c,rfl,_⟩:=Re o;exact⟨a,m,c,f,e,by unfold ObW;rw[show bv (l++s.data.toList)=bv l++Lib.strCells s by simp[bv,Lib.strCells],FC];exact o,g⟩
 have⟨a,m,c,W',e,o,g⟩:=n B h.o K;refine⟨a,m,c,W',e,h.next o g ?_,(h.o.tie K g).1⟩;rcases h.o.2 with⟨rfl,N⟩|⟨q,f,A,rfl,O,Q,R,S,T,F⟩
 ·have⟨X,Y,c2,W2,j,L,_⟩:=n W.heap.size ⟨h.o.1,.inl ⟨rfl,N⟩⟩ gi;rw[e]at j;injection j with t G;subst G;rw[t];exact .inr λr x=>(aF L x).1
 by_cases x:l.length+s.size<=f
 ·rw[Lib.run_append_room_string W 22 9 22 5 y ql.und underlying9 b d q _ f A Q s x Z]at e;injection e with t G;rw[<-t];exact .inl rfl
 rw[Lib.run_append_grow_string W 22 9 22 5 y _ ql.und underlying9 b i (Qz q 0) _ f (bv l) (by rw[d,rb];omega) (λj u L=>by rw[Addr.add_mid,Oi,(RowV.ofOwns h.o).cell j (Fz.1 L).1];exact L) s Z Z (by rw[k];exact growslice_fits Z Z)]at e
 injection e with t G;rw[<-t];exact .inr λr x=>by simp[Value.ownBlock]at x;omega
def Oy.rowC(h:Oy B P W0 W v l){l2}(r:∀j,j<(bv l2).length->W.cell? (Qz g j)=(bv l2)[j]?)(t:l.length+l2.length<=2000000000):Ny B P W0 W 22 v (Vl g l2.length c) (l++l2):=by
 let⟨q,d,f,i,k⟩:=G0 ql.info;let n:=Fx h.hB h.bel.size;let⟨w,s,e,o,p,_,hv⟩:=run_append_own_at (P:=prog) W B 22 22 5 q _ 1 1 ql.und d f i k rfl Z v _ _ h.o (Qz g 0) l2.length c (bv l2) (by simp[bv]) (λj u a=>by rw[Addr.add_mid,Oi,r j (Fz.1 a).1];exact a) (λu a=>by simp[bv]at a;obtain⟨b,_,rfl⟩:=a;rfl) (by unfold maxLen;omega) Z n
 obtain⟨a,m,c,rfl,_⟩:=Re o;refine⟨a,m,c,s,e,h.next (by unfold ObW;rw[show bv (l++l2)=bv l++bv l2 by simp[bv],FC];exact o) p (hv.imp id λe r b=>?_),(h.o.tie n p).1⟩;rw[e]at b;injection b with b;omega
def Oy.row(h:Oy B P W0 W v l){l2}(r:RowV W g 5 (bv l2))(a:l.length+l2.length<=2000000000):Ny B P W0 W 22 v (Vl g l2.length c) (l++l2):=h.rowC (λj b=>r.cell j b) a
def Oy.one(h:Oy B P W0 W v l)(a:List UInt8)(b:l.length+a.length<=2000000000):Ny B P W0 (W.alloc (QL (bv a).toArray 5)) 22 v (Vl W.heap.size a.length a.length) (l++a):=
 (h.below ph).row (Jd W a) b
def Oy.num2{f}(z:Nf f)(h:Oy B P W0 W v l)(s:ByteArray)(n:Nat)(x:n<18446744073709551616)(G:l.length<=1000000000)(K:s.size<=100):∃a m c b,(Builtin.append_ #[22,9] 22 #[v,.string s]).run prog W=.ok (.slice a m c) b/\Ky (· =5) W b /\
  QA f #[U (n:Int)] b λe p=>∃q i r t u j,e=QJ (Vl q (dec n).length i)/\D b p/\QI 22 (.slice a m c) (Vl q (dec n).length i) p (.slice r t u) j/\Oy B P W0 j (.slice r t u) (l++s.data.toList++dec n)/\Ky (· =5) p j:=by
 have⟨a,m,c,b,d,o,k⟩:=h.str s Z;refine⟨a,m,c,b,d,k,(Co z n x b).mono ?_⟩;rintro e p⟨q,i,rfl,g,y⟩;have L:=kX n x;have⟨r,t,u,j,w,A,F⟩:=(o.below y).row (c:=i) (RowV.ofOwns g) (by have:s.data.toList.length=s.size:=rfl;simp only[FC];omega);exact⟨q,i,r,t,u,j,rfl,y,w,A,F⟩
