import Derived.Test.YtbcacchkcedffaaGreatDoorM09
set_option linter.all false
set_option maxRecDepth 20000
set_option maxHeartbeats 0
namespace Go.Proofs.YtbcacchkcedffaaGreatDoor
open Go.Proofs.Tryz Go.RowKit Go.Maps Go.Shelf Go.ChangeShapes Go.WideShapes Go.ChangeAt
section
variable {B B2 N1 N2 O R c g j k n:Nat}{W W' w w':World}{e:TypeId}{cs xs:List Value}{v:Value}{P:Program}
structure sT where
 kind:Nat
 ref:Nat
 p:Nat
 a:Nat
 b:Nat
 data:List Nat
def ga:List (List UInt8):=[[109,97,108,108,111,99],[99,97,108,108,111,99],[114,101,97,108,108,111,99],[102,114,101,101],[117,115,97,98,108,101],[108,111,97,100],[115,116,111,114,101]]
def cF:List (List UInt8):=[[78],[78,78],[80,78],[80],[80],[80,78],[80,88]]
def mX(c:UInt8)(w:List UInt8)(e:Nat)(o:sT):Option sT:=
 if c.toNat=78 then(dL 10 20 w).map (λn=>if e=0 then {o with a:=n}else {o with b:=n})
 else if c.toNat=80 then(d_ w).map (λx=>{o with ref:=x.1,p:=x.2})
 else(qG w).map (λd=>{o with data:=o.data++d})
def eD:List UInt8->List (List UInt8)->Nat->sT->Option sT
 |[],_,_,o=>some o
 |c::f,ws,n,o=>(mX c (ws.headD []) n o).bind (eD f ws.tail (if c.toNat=78 then n+1 else n))
def OV(k:Nat)(q:List (List UInt8)):Bool:=decide (q.headD []=ga.getD k []/\q.length=(cF.getD k []).length+1)
def tu(q:List (List UInt8)):Option sT:=
 ((List.range 7).find? (λk=>OV k q)).bind λk=>eD (cF.getD k []) q.tail 0 ⟨k,0,0,0,0,[]⟩
def wU{q}(h:∀j,j<7->OV j q=false):tu q=none:=by
 have:(List.range 7).find? (λk=>OV k q)=none:=List.find?_eq_none.2 λx a=>by simp[h x (Gh.1 a)]
 rw[tu,this];rfl
def CF{q}(a:k<7)(h:∀j,j<k->OV j q=false)(b:OV k q=true):tu q=eD (cF.getD k []) q.tail 0 ⟨k,0,0,0,0,[]⟩:=by
 have:(List.range 7).find? (λk=>OV k q)=some k:=by rw[Iu];exact⟨b,by simpa using a,λj c=>by simp[h j c]⟩
 rw[tu,this];rfl
def io:List Value:=[I 0,I 0,U 0,U 0,U 0,C]
def opC(o:sT)(e:Value):List Value:=[I (o.kind:Int),I (o.ref:Int),U (o.p:Int),U (o.a:Int),U (o.b:Int),e]
def xe(l:List Nat):List Value:=l.map (λn:Nat=>Value.int .u8 (n:Int))
def Bx(W:World)(g:Nat)(e:TypeId)(cs:List Value):Prop:=W.heap[g]?=some (.cells cs.toArray e)
def Bx.lt(h:Bx W g e cs):g<W.heap.size:=G_ h
def Bx.below(h:Bx W g e cs)(a:Below B W W')(b:g<B):Bx W' g e cs:=(a.block g b).trans h
def Bx.cell{W g e cs}(h:Bx W g e cs)(i:Nat):W.cell? (Qz g i)=cs[i]?:=by rw[GT _ _ i _ _ _ h];simp
def Bx.free(h:Bx W g e cs)(i:Nat):W.frozen? (Qz g i)=false:=by unfold Bx at h;simp[QD,h]
def Bx.set{W g e cs}(h:Bx W g e cs)(i:Nat)(v:QN):Bx (W.setCell (Qz g i) v) g e (cs.set i v):=by unfold Bx at h⊢;simp[World.setCell,FD,h]
def Bx.other(h:Bx W g e cs){p:Addr}(a:g≠p.block)(v:QN):Bx (W.setCell p v) g e cs:=(XB a).trans h
def Bx.grown{o:Option Nat}(h:Bx W g e cs)(b:W.grownBy W' o)(a:some g≠o):Bx W' g e cs:=(b.block g h.lt a).trans h
def Bx.apart(h:Bx W g e cs){c:QO}{sz:Nat}(d:W.ownsRow B c sz v n xs)(a:e≠c):some g≠v.ownBlock:=λq=>by
 let⟨x,b⟩:=ts d q.symm
 unfold Bx at h
 rw[h]at b
 simp at b
 exact a b.2
def fY{sz:Nat}(h:W.ownsRow B e sz v n xs){p:Addr}(d:some p.block≠v.ownBlock)(u:QN):(W.setCell p u).ownsRow B e sz v n xs:=by
 refine⟨h.1,?_⟩;rcases h.2 with f|⟨g,b,c,rfl,i,j,a⟩;.exact .inl f
 exact .inr ⟨g,b,c,rfl,i,by rwa[XB (λq=>d (by simp[Value.ownBlock,q]))],a⟩
def de{e:Func}{p u:Tmp}{a:TypeId}(h:e.results=#[.cell p a,.tmp u]){b:Array Value}{w:World}(g)(t:TypeId){cs:Array Value}(f:Nat×Nat){d:TypeDesc}(i:b.getD p undef=J g 0)(j:w.heap[g]?=some (.cells cs t f))(k:P.underlying a=some d)(l:(match d with | .struct _ | .array _ _=>true|_=>false)=true)(m:(P.info? a).map (·.size)=some cs.size):
  (results e b).run P w=.ok (.tuple #[.agg cs,b.getD u undef]) w:=by
 have c:b[p]?.getD undef=J g 0:=by simpa using i
 simp[results,h,c,asAddr,run_loadVar_row w g t a cs f d j k l m]
def wV{e:Func}{p u u2:Tmp}{a:TypeId}(h:e.results=#[.cell p a,.tmp u,.tmp u2]){b:Array Value}{w:World}(g)(t:TypeId){cs:Array Value}(f:Nat×Nat){d:TypeDesc}(i:b.getD p undef=J g 0)(j:w.heap[g]?=some (.cells cs t f))(k:P.underlying a=some d)(l:(match d with | .struct _ | .array _ _=>true|_=>false)=true)(m:(P.info? a).map (·.size)=some cs.size):
  (results e b).run P w=.ok (.tuple #[.agg cs,b.getD u undef,b.getD u2 undef]) w:=by
 have c:b[p]?.getD undef=J g 0:=by simpa using i
 simp[results,h,c,asAddr,run_loadVar_row w g t a cs f d j k l m]
structure Sp3(w W:QM)(R N1 N2:Nat):Prop where
 r:Bx W R 63 io
 nm:RowV W N1 9 (ga.map wg)
 fm:RowV W N2 9 (cF.map wg)
 bel:D w W
 rw:w.heap.size<=R/\w.heap.size<=N1/\w.heap.size<=N2
 ne:R≠N1/\R≠N2
def Js{c:Array QN}(h:W.heap[g]?=some (QL c e)):RowV W g e c.toList:=⟨c,h,bH,λi a=>by simp at a;simp[a]⟩
def Ki(w):Sp3 w (((w.alloc (QL io.toArray 63)).alloc (QL (ga.map wg).toArray 9)).alloc (QL (cF.map wg).toArray 9)) w.heap.size (w.heap.size+1) (w.heap.size+1+1):=by
 let a:(w.alloc (QL io.toArray 63)).heap.size=w.heap.size+1:=bH;let b:((w.alloc (QL io.toArray 63)).alloc (QL (ga.map wg).toArray 9)).heap.size=w.heap.size+1+1:=bH;refine⟨?_,?_,?_,?_,Z,Z⟩;.unfold Bx;rw[eg _ _ _ Z,eg _ _ _ Z,ao]
 .apply Js (c:=(ga.map wg).toArray);rw[eg _ _ _ Z,<-a,ao]
 .apply Js (c:=(cF.map wg).toArray);rw[<-b,ao]
 exact(((Fu _ w).alloc gi _).alloc Z _).alloc Z _
def Sp3.name(h:Sp3 w W R N1 N2)(a:k<7):W.cell? (Qz N1 k)=some (.string (bs (ga.getD k []))):=by rw[h.nm.cell k (by simpa[ga]using a)];simp[ga,wg];rcases k with _|_|_|_|_|_|_|k<;>first|rfl|omega
def Sp3.form(h:Sp3 w W R N1 N2)(a:k<7):W.cell? (Qz N2 k)=some (.string (bs (cF.getD k []))):=by rw[h.fm.cell k (by simpa[cF]using a)];simp[cF,wg];rcases k with _|_|_|_|_|_|_|k<;>first|rfl|omega
def Ex{q}(h:Ws B W (Vl g n c) q)(b:n=q.length)(a:k<q.length):W.cell? (Qz g k)=some (.string (bs (q.getD k []))):=by subst b;rw[(RowV.ofOwns h).cell k (by simpa using a)];simp[a,wg]
def Nx(w W:World)(o:Option sT)(v:Value):Prop:=∃e cs,v=.tuple #[.agg cs,.bool o.isSome]/\(o=none->cs=io.toArray)/\∀x,o=some x->cs=(opC x e).toArray/\W.ownsRow w.heap.size 5 1 e x.data.length (xe x.data)
def own_below{sz:Nat}(h:W.ownsRow B e sz v n xs)(f:D W W'):W'.ownsRow B e sz v n xs:=by
 refine⟨h.1,?_⟩;rcases h.2 with i|⟨g,b,c,rfl,j,d,a⟩;.exact .inl i
 exact .inr ⟨g,b,c,rfl,j,by rwa[f.block g (G_ d)],a⟩
def ia{sz:Nat}(h:W.ownsRow B e sz v n xs)(d:B2<=B):W.ownsRow B2 e sz v n xs:=by
 refine⟨h.1,?_⟩;rcases h.2 with f|⟨g,b,c,rfl,i,a⟩;.exact .inl f
 exact .inr ⟨g,b,c,rfl,Fx d i,a⟩
def dG{sz:Nat}(h:W.ownsRow B e sz v n xs){r:Nat}(d:some r≠v.ownBlock)(cs:Array QN):(W.setRow r cs).ownsRow B e sz v n xs:=by
 refine⟨h.1,?_⟩;rcases h.2 with f|⟨g,b,c,rfl,i,j,a⟩;.exact .inl f
 exact .inr ⟨g,b,c,rfl,i,by rwa[setRow_other _ _ _ _ (λq=>d (by simp[Value.ownBlock,q]))],a⟩
structure Sp4(w W:QM)(R N2 O:Nat)(o:sT)(dv:QN):Prop where
 r:Bx W R 63 io
 fm:RowV W N2 9 (cF.map wg)
 bx:Bx W O 63 (opC o dv)
 dt:W.ownsRow w.heap.size 5 1 dv o.data.length (xe o.data)
 bel:D w W
 ge:w.heap.size<=R/\w.heap.size<=N2/\w.heap.size<=O
 ne:R≠O/\N2≠O/\N2≠R
def Sp3.open(h:Sp3 w W R N1 N2)(k:Nat)(a:N2≠R):Sp4 w (W.alloc (QL (opC ⟨k,0,0,0,0,[]⟩ (C)).toArray 63)) R N2 W.heap.size ⟨k,0,0,0,0,[]⟩ (C):=by let b:=(Fu W.heap.size W).alloc gi (QL (opC ⟨k,0,0,0,0,[]⟩ (C)).toArray 63);let c:=h.r.lt;let d:=h.fm.lt;refine⟨h.r.below b h.r.lt,h.fm.below b h.fm.lt,XD,⟨by simp[xe],.inl ⟨rfl,rfl⟩⟩,h.bel.alloc (by have:=h.bel.size;omega) _,⟨h.rw.1,h.rw.2.2,by have:=h.bel.size;omega⟩,Z,Z,a⟩
def Sp4.below{w W W' R N2 O o dv}(h:Sp4 w W R N2 O o dv)(a:D W W'):Sp4 w W' R N2 O o dv:=
 ⟨h.r.below a h.r.lt,h.fm.below a h.fm.lt,h.bx.below a h.bx.lt,own_below h.dt a,h.bel.trans (a.mono h.bel.size),h.ge,h.ne⟩
def Sp4.form{o dv}(h:Sp4 w W R N2 O o dv)(a:k<7):W.cell? (Qz N2 k)=some (.string (bs (cF.getD k []))):=by rw[h.fm.cell k (by simpa[cF]using a)];simp[cF,wg];rcases k with _|_|_|_|_|_|_|k<;>first|rfl|omega
def JN(h:RowV W N2 9 (cF.map wg))(a:k<7):W.cell? (Qz N2 k)=some (.string (bs (cF.getD k []))):=by rw[h.cell k (by simpa[cF]using a)];simp[cF,wg];rcases k with _|_|_|_|_|_|_|k<;>first|rfl|omega
def Sp4.set{w W R N2 O o}{o':sT}{dv}(h:Sp4 w W R N2 O o dv)(i:Nat)(d:i<6)(v:QN)(b:o'.data=o.data)(c:(opC o dv).set i v=opC o' dv):Sp4 w (W.setCell (Qz O i) v) R N2 O o' dv:=by let a:=h.bx.set i v;rw[c]at a;exact⟨h.r.other h.ne.1 v,h.fm.other h.ne.2.1 v,a,b▸fY h.dt (h.bx.apart h.dt ar) v,h.bel.setCell h.ge.2.2 v,h.ge,h.ne⟩
def Jz(k:Nat):(cF.getD k []).length<=2:=by rcases k with _|_|_|_|_|_|_|k<;>first|decide|(simp[cF])
def EM(b:k<7)(a:j<(cF.getD k []).length):((cF.getD k [])[j].toNat=78\/(cF.getD k [])[j].toNat=80)\/((cF.getD k [])[j].toNat=88/\j+1=(cF.getD k []).length):=by rcases k with _|_|_|_|_|_|_|k<;>first|omega|(rcases j with _|_|j<;>first|(exfalso;simp[cF]at a;done)|(exfalso;simp[cF]at a;omega)|(simp[cF];done))
def Az(s:ByteArray)(w:QM)(a:s.size<=1048576)(h:d_ s.data.toList=none):
  QA 42 #[.string s] w λe w'=>∃r p:Nat,e=QJ (.tuple #[I (r:Int),U (p:Int),.bool false])/\w'=w:=by
 apply(I7 s w a).mono;rintro e w'⟨v,rfl,⟨r,p,_,_,rfl,_⟩,rfl⟩;rw[h];exact⟨r,p,rfl,rfl⟩
def Bn(s:ByteArray)(w:QM)(a:s.size<=1048576)(r p:Nat)(h:d_ s.data.toList=some (r,p)):
  QA 42 #[.string s] w λe w'=>e=QJ (.tuple #[I (r:Int),U (p:Int),.bool true])/\w'=w:=by
 apply(I7 s w a).mono;rintro e w'⟨v,rfl,⟨c,d,_,_,rfl,b⟩,rfl⟩;rw[h];obtain⟨rfl,rfl⟩:=Prod.mk.inj (b _ h);exact QB
def I_(s:ByteArray)(w:QM)(g:s.size<=1048576)(h:¬(oK s.data.toList=true/\0<s.size)):
  QA 43 #[.string s] w λe w'=>∃a c,e=QJ (.tuple #[.slice a 0 c,.bool false])/\D w w':=by
 apply(Lf s w g).mono;rintro e w'⟨v,rfl,i,j,d⟩;cases ha:oK s.data.toList with
 |false=>rw[i ha];exact⟨none,0,bH,d⟩
 | true=>
  let b:s.size=0:=by
   rcases Nat.eq_zero_or_pos s.size with b|b;.exact b
   exact absurd ⟨ha,b⟩ h
  obtain⟨a,m,c,rfl,f⟩:=Re (j ha);rw[b]at f;subst f;exact⟨a,c,by simp[b],d⟩
def IZ(s:ByteArray)(w:QM)(f:s.size<=1048576)(h:oK s.data.toList=true)(i:0<s.size):
  QA 43 #[.string s] w λe w'=>∃a c,e=QJ (.tuple #[Vl a s.size c,.bool true])/\w.heap.size<=a/\RowV w' a 5 (hv s.data.toList)/\D w w':=by
 apply(Lf s w f).mono;rintro e w'⟨v,rfl,n,j,k⟩;let d:=j h;rcases d.2 with⟨rfl,o⟩|⟨g,b,l,rfl,a,p,m,q,r,t⟩;.omega
 exact⟨g,b,by simp[h,i],a,RowV.ofOwns d,k⟩
def tQ:∀l:List Nat,(mN l).length=l.length/2
 |[]=>rfl
 |[_]=>by simp[mN]
 |a::b::r=>by simp[mN,FN,tQ r];omega
def xC:∀(l:List Nat)(i:Nat),2*i+1<l.length->(mN l)[i]?=some (l.getD (2*i) 0*16+l.getD (2*i+1) 0)
 |[],i,h=>by simp at h
 |[_],i,h=>by simp at h
 |a::b::r,0,h=>rfl
 |a::b::r,i+1,h=>by
  have:=xC r i (by simp at h;omega)
  simp only[mN,List.getElem?_cons_succ,this]
  rw[show 2*(i+1)=2*i+1+1 by omega,show 2*i+1+1+1=(2*i+1)+1+1 by omega]
  rfl
def F9{l:List Nat}{i:Nat}{x:Nat}(h:l[i]?=some x):xe (l.take (i+1))=xe (l.take i)++[.int .u8 (x:Int)]:=by rw[F_,h];simp[xe]
def Jl{l}(h:oK l=true)(i:Nat):(iN l).getD i 0<16:=by
 by_cases a:i<l.length;.have:=List.all_eq_true.1 h l[i] (Iw a);simpa[iN,a]using this
 simp[iN,show¬i<l.length from a]
def Dd{l}(h:RowV W g 5 (hv l))(i:Nat)(a:i<l.length):W.cell? (Qz g i)=some (.int .u8 (((iN l).getD i 0:Nat):Int)):=by rw[h.cell i (by simpa[hv,iN]using a)];simp[hv,iN,a]
structure Sp5(w W:QM)(R N2 O hg B2:Nat)(o:sT)(dv:QN)(wl:List UInt8)(i:Nat):Prop where
 r:Bx W R 63 io
 fm:RowV W N2 9 (cF.map wg)
 bx:Bx W O 63 (opC o dv)
 dt:W.ownsRow B2 5 1 dv i (xe ((mN (iN wl)).take i))
 hx:RowV W hg 5 (hv wl)
 bel:D w W
 ge:w.heap.size<=R/\w.heap.size<=N2/\w.heap.size<=O
 ne:R≠O/\N2≠O/\N2≠R
 lt:hg<B2/\O<B2/\R<B2/\N2<B2/\B2<=W.heap.size/\w.heap.size<=B2
 no:hg≠O
def Sp4.five{hg o wl}(h:Sp4 w W R N2 O o (C))(c:D W W')(b:RowV W' hg 5 (hv wl))(d:W.heap.size<=hg):Sp5 w W' R N2 O hg W'.heap.size o (C) wl 0:=by let a:=h.below c;let e:=h.bx.lt;exact⟨a.r,a.fm,a.bx,⟨by simp[xe],.inl ⟨rfl,rfl⟩⟩,b,a.bel,h.ge,h.ne,⟨b.lt,a.bx.lt,a.r.lt,a.fm.lt,gi,a.bel.size⟩,Z⟩
def Sp5.more{j o dv wl i}(h:Sp5 w W R N2 O j B2 o dv wl i)(x:Nat)(u:(mN (iN wl))[i]?=some x)(B:i<=1048576):
  ∃b w',QI 22 dv (Vl W.heap.size 1 1) (W.alloc (QL #[.int .u8 (x:Int)] 5)) b w'/\(∃a m c,b=.slice a m c)/\QG w' O 5 dv/\w'.frozen? (Qz O 5)=false/\RowV w' j 5 (hv wl)/\Sp5 w (w'.setCell (Qz O 5) b) R N2 O j B2 o b wl (i+1):=by
 have⟨b,w',v,t,l⟩:=DL ql h.dt h.lt.2.2.2.2.1 #[.int .u8 (x:Int)] rfl mL Z;have k:∀g,g<B2->some g≠dv.ownBlock:=λg j e=>by have:=(h.dt.lt g e.symm).1;omega
 have f:=h.bx.grown l (k _ h.lt.2.1);have q:=λg j=>l.block g (by have:=h.lt.2.2.2.2.1;omega) (k g j)
 have d:∀(g:Nat)(e:QO)(xs:List QN),RowV W g e xs->g<B2->RowV w' g e xs:=λg e xs⟨z,A,r⟩j=>⟨z,(q g j).trans A,r⟩
 have n:D w w':=h.bel.grown l h.bel.size (λr e=>by have:=(h.dt.lt r e).1;have:=h.lt.2.2.2.2.2;omega);have p:w'.ownsRow B2 5 1 b (i+1) (xe ((mN (iN wl)).take (i+1))):=by rw[F9 u];exact t
 have⟨a,m,c,s,_⟩:=Re t;refine⟨b,w',v,⟨a,m,c,s⟩,f.cell 5,f.free 5,d _ _ _ h.hx h.lt.1,?_⟩;exact⟨(h.r.grown l (k _ h.lt.2.2.1)).other h.ne.1 b,(d _ _ _ h.fm h.lt.2.2.2.1).other h.ne.2.1 b,by simpa[opC]using f.set 5 b,fY p (f.apart p ar) b,(d _ _ _ h.hx h.lt.1).other h.no b,n.setCell h.ge.2.2 b,h.ge,h.ne,
  ⟨h.lt.1,h.lt.2.1,h.lt.2.2.1,h.lt.2.2.2.1,by rw[show(w'.setCell (Qz O 5) b).heap.size=w'.heap.size by simp[World.setCell]];exact Fx h.lt.2.2.2.2.1 l.size,h.lt.2.2.2.2.2⟩,h.no⟩
def Sp5.drew{w W R N2 O hg B2 o dv wl i}(h:Sp5 w W R N2 O hg B2 o dv wl i):Sp5 w W.drew R N2 O hg B2 o dv wl i:=
 ⟨h.r,h.fm,h.bx,h.dt,h.hx,h.bel.drew,h.ge,h.ne,h.lt,h.no⟩
def Kk(b:k<6)(a:j<(cF.getD k []).length):(cF.getD k [])[j].toNat=78\/(cF.getD k [])[j].toNat=80:=by rcases k with _|_|_|_|_|_|k<;>first|omega|(rcases j with _|_|j<;>first|(exfalso;simp[cF]at a;done)|(exfalso;simp[cF]at a;omega)|(simp[cF];done))
def Kc(a:j<(cF.getD 6 []).length):¬(cF.getD 6 [])[j].toNat=78:=by rcases j with _|_|j<;>first|(exfalso;simp[cF]at a;done)|(exfalso;simp[cF]at a;omega)|(simp[cF];done)
def Kf{c:Nat}{q}(f:k<7)(d:c<7)(h:OV k q=true)(a:OV c q=true):k=c:=by simp[OV,Hj]at h a;let e:∀a,a<7->∀b,b<7->ga.getD a []=ga.getD b []->a=b:=ar;exact e k f c d (h.1.symm.trans a.1)
def wrap_u8{n:Int}(a:0<=n)(h:n<256):IntKind.u8.wrap n=n:=by simp[IntKind.wrap,IntKind.bits,IntKind.signed];omega
def wrap_i64{n:Int}(a:0<=n)(h:n<9223372036854775808):IntKind.i64.wrap n=n:=by simp[IntKind.wrap,IntKind.bits,IntKind.signed];omega
def Lb{o}{a:QP}{m n:Nat}:(opC o (.slice a m n)).toArray.all (·.oneCell')=true:=by simp[opC,Value.oneCell']
def Mf{t:ByteArray}{f}(h:t=bs f)(j:Nat)(a:j<t.size)(b:j<f.length):t[j]=f[j]:=by subst h;rfl
def Rk{p X Y a:Prop}(x:X)(y:Y)(z:a)(f:X->Y->a->p:=by(
 intro x y z
 go_wp2_with (refine eG y ?_)
 apply Eq.mp (congrArg _ (setRow_self _ _ io.toArray 63 (0,0) y).symm)
 apply GX (de dU _ 63 (0,0) dU y underlying63 rfl E) dU
 rw[x]
 exact⟨_,rfl,⟨C,_,rfl,(λ_=>rfl),(λx a=>by cases a)⟩,z⟩)):p:=f x y z
def Mq(v q B w)(f:Ws B w v q)(a5:0<q.length)(hl:q.length<=1048576)(K:∀x∈q,x.length<=1048576)(d:OV 6 q=false):
  Calls prog 19 #[v] w λe w'=>∃r,e=QJ r/\Nx w w' (tu q) r/\D w w':=by
 obtain⟨g,c,rfl,hg⟩:∃g c,v=Vl g q.length c/\g<w.heap.size:=by
  rcases f.2 with⟨rfl,h0⟩|⟨g,m,o,rfl,hg,hh,_⟩;.omega
  exact⟨g,m,rfl,G_ hh⟩
 have HQ:=H (λ(W:QM)(m:D w W)(k:Nat)(hk:k<q.length)=>(show W.cell? (Qz g k)=some (.string (bs (q.getD k []))) by rw[m.cell hg];exact Ex f rfl hk));have a7:=H (λ(k:Nat)(hk:k<q.length)=>(show(q.getD k []).length<=1048576 by
  have:q.getD k []=q[k]:=by simp[hk]
  rw[this];exact K _ (Iw hk)))
 have⟨m,o⟩:=Qa q.length;rw[o]at a5 hl⊢;have⟨HM,a8⟩:=y7 o d;clear d;clear f o K;go_wp2;have T:=H (Ki w);refine(let_mvar%?D:=QL io.toArray 63;?_);have⟨W3,d⟩:=Qb (((w.alloc ?D).alloc (QL (ga.map wg).toArray 9)).alloc (QL (cF.map wg).toArray 9));rw[<-d]at T;refine Eq.mp (congrArg _ d) ?_;clear d;have⟨N2,d⟩:=Qb (w.heap.size+1+1);have a9:=H (show N2≠w.heap.size by omega);rw[<-d]at T⊢;clear d;generalize w.heap.size+1=N1 at T⊢;go_loopw [21] (λi wr=>∃(k:Nat),k<=7/\i=I (k:Int)/\Hid (∀j,j<k->OV j q=false)/\wr=W3) (λi _=>7-(intOf i).toNat);exact⟨0,Z,rfl,H (λj hj=>Z),rfl⟩
 obtain⟨k,hk,rfl,Y,rfl⟩:=hrel;by_cases Q:k<7
 ·have c1:=T.name Q;have c2:=T.form Q;have V:=HQ.out _ T.bel 0 (by rw[HM];exact a5);have⟨t,s⟩:=Qb (bs (cF.getD k []));have⟨nm,f⟩:=Qb (bs (ga.getD k []));have⟨q0,o⟩:=Qb (bs (q.getD 0 []));rw[<-f]at c1;rw[<-s]at c2;rw[<-o]at V;have b7:t.size<=2:=(by rw[s,gz];exact Jz k);have HT:=H s;have HX:Hid (∀j,j<k+1->¬OV k q=true->OV j q=false):=(λj hj hh=>by
   by_cases e:j=k;·subst e;simpa using hh
   exact Y j Z)
  have d:OV k q=decide (q0.toList=nm.toList/\m=t.size+1):=by rw[OV,s,gz,HM,o,f,Lib.toList_data,Lib.toList_data,kO,kO];congr 1;cases q<;>simp
  have HH:=H d;clear s f o d;by_cases x1:q0.toList=nm.toList
  ·by_cases x2:m=t.size+1
   ·have b0:((m:Int) != (t.size:Int)+1)=false:=bG;have HE:Hid (tu q=eD (cF.getD k []) q.tail 0 ⟨k,0,0,0,0,[]⟩):=(CF Q Y (by rw[HH];simp[x1,x2]));have⟨a3,u⟩:=y7 x2 (T.open k a9);have b3:Hid (k<6):=(Nat.lt_of_le_of_ne Z (λf=>by have d:=a8.out;rw[<-f,HH]at d;simp[x1,x2]at d));clear x2 Y;go_wp2;have⟨W4,d⟩:=Qb (wr.alloc (QL (opC ⟨k,0,0,0,0,[]⟩ (C)).toArray 63));rw[<-d]at u;refine Eq.mp (congrArg _ d) ?_;clear d;have⟨O,d⟩:=Qb wr.heap.size;rw[<-d]at u⊢;clear d c1 c2 V;have⟨f,d⟩:=Qb (cF.getD k []);rw[<-d]at HT HE;have HF:=H d;clear d;have b8:f.length=t.size:=(by rw[HT,gz]);have b4:decide ((k:Int)<7)=true:=bG;simp[b4];go_loopw [9,10] (λd i s=>∃(j A:Nat)(o:sT)(dv:QN),j<=t.size/\A<=j/\d=I (A:Int)/\i=I (j:Int)/\Hid (tu q=eD (f.drop j) (q.tail.drop j) A o)/\Hid (Sp4 w s w.heap.size N2 O o dv)/\Hid (j<t.size->o.data=[]/\dv=C)) (λ_ i _=>t.size-(intOf i).toNat);(case atStart=>exact⟨0,0,_,_,Z,Z,rfl,rfl,H (by simpa using HE.out),u,H (λ_=>⟨rfl,rfl⟩)⟩);case round=>
     clear HE u;obtain⟨j,A,o,dv,hj,b9,rfl,rfl,HE,u,HD⟩:=hrel;have c2:wr.cell? (Qz N2 k)=some (.string t):=(by rw[HT,HF];exact u.form Q);by_cases a6:j<t.size
     ·have c0:j+1<m:=(by have:=a3.out;omega);have y:=HQ.out _ u.bel (j+1) (by rw[HM,a3];omega);have K:=a7.out (j+1) (by rw[HM,a3];omega);have⟨G,z⟩:=Qb (q.getD (j+1) []);rw[<-z]at y K;refine(let_mvar%?B:=t[j].toNat;?_);have F:?B=(f[j]' Z).toNat:=by rw[Mf HT j a6 Z]
      refine(let_mvar%?A:=eD (f.drop (j+1)) (q.tail.drop (j+1));?_);have M:eD (f.drop j) (q.tail.drop j) A o=(mX (f[j]' Z) G A o).bind (?A (if ?B=78 then A+1 else A)):=by rw[List.drop_eq_getElem_cons (l:=f) (i:=j) Z,eD,F];have hh:(q.tail.drop j).headD []=G:=(by rw[z,List.headD_eq_head?_getD,List.head?_drop];simp);rw[hh,List.tail_drop]
      have s:=EM (k:=k) (j:=j) Q (by rw[<-HF.out];omega);simp only[<-HF.out]at s;have L:mX (f[j]' Z) G A o=if ?B=78 then(dL 10 20 G).map (λn=>if A=0 then {o with a:=n}else {o with b:=n})else if ?B=80 then(d_ G).map (λx=>{o with ref:=x.1,p:=x.2})else(qG G).map (λd=>{o with data:=o.data++d}):=(by rw[mX,F]);rw[L]at M;rw[<-F]at s;have b5:=H (show ?B=78\/?B=80 by have d:=Kk (k:=k) (j:=j) b3 (by rw[<-HF.out];omega);simp only[<-HF.out]at d;rw[F];exact d);have⟨a0,a2⟩:=y7 (HE.trans M) s;clear M L s F z HE;have⟨d,z⟩:=Qb (bs G);rw[<-z]at y;have R:d.size<=1048576:=by rw[z,gz];exact K
      have a4:=H (show d.data.toList=G by rw[z,kO]);clear z K;have c5:=EO t j a6;by_cases l1:?B=78
      ·have b1:(((?B:Nat):Int)==78)=true:=(by rw[beq_iff_eq];omega);have z:=qN d 20 wr R Z;rw[a4]at z;have X:=H (show tu q=(dL 10 20 G).bind λn=>?A (A+1) (if A=0 then {o with a:=n}else {o with b:=n}) by rw[a0,GP l1,GP l1];cases dL 10 20 G<;>rfl)
       have M:=Dp (base:=10) (most:=20) G;have⟨r,F⟩:=Qb (dL 10 20 G);rw[<-F]at z X M;clear F;unfold rN at z;rcases r with _|n
       ·have P:Hid (tu q=none):=X;have z:QA 41 #[.string d,I 20] wr λe w'=>e=QJ (.tuple #[U 0,.bool false])/\w'=wr:=z
        have V:wr.cell? (Qz O 3)=some (U (o.a:Int)):=u.bx.cell 3;have c4:wr.cell? (Qz O 4)=some (U (o.b:Int)):=u.bx.cell 4;have d3:=u.bx.free 3;have d4:=u.bx.free 4;generalize o.a=oa at V;generalize o.b=ob at c4;by_cases h0:A=0
        ·have S:((A:Int)==0)=true:=(by rw[beq_iff_eq];omega);have F:=H (u.set (o':={o with a:=0}) 3 Z (U 0) rfl rfl);have HR:Hid ((wr.setCell (Qz O 3) (U 0)).heap[w.heap.size]?=some ?D):=H F.r;have L:=H (setRow_self (wr.setCell (Qz O 3) (U 0)) w.heap.size io.toArray 63 (0,0) F.r);go_wp2_with (first|(go_at_call 41;refine z.mono ?_;rintro e w'⟨rfl,rfl⟩)|(refine eG HR ?_));refine Eq.mp (congrArg _ L.symm) ?_;refine GX (de dU w.heap.size 63 (0,0) dU HR underlying63 rfl E) dU ?_;rw[P];exact⟨_,rfl,⟨C,_,rfl,(λ_=>rfl),(λx hx=>by cases hx)⟩,F.bel⟩
        have S:((A:Int)==0)=false:=(by rw[QF];omega);have F:=H (u.set (o':={o with b:=0}) 4 Z (U 0) rfl rfl);have HR:Hid ((wr.setCell (Qz O 4) (U 0)).heap[w.heap.size]?=some ?D):=H F.r;have L:=H (setRow_self (wr.setCell (Qz O 4) (U 0)) w.heap.size io.toArray 63 (0,0) F.r);go_wp2_with (first|(go_at_call 41;refine z.mono ?_;rintro e w'⟨rfl,rfl⟩)|(refine eG HR ?_));refine Eq.mp (congrArg _ L.symm) ?_;refine GX (de dU w.heap.size 63 (0,0) dU HR underlying63 rfl E) dU ?_;rw[P];exact⟨_,rfl,⟨C,_,rfl,(λ_=>rfl),(λx hx=>by cases hx)⟩,F.bel⟩
       have L:Hid (tu q=?A (A+1) (if A=0 then {o with a:=n}else {o with b:=n})):=X;have b6:n<18446744073709551616:=M;have z:QA 41 #[.string d,I 20] wr λe w'=>e=QJ (.tuple #[U (n:Int),.bool true])/\w'=wr:=z
       have V:wr.cell? (Qz O 3)=some (U (o.a:Int)):=u.bx.cell 3;have c4:wr.cell? (Qz O 4)=some (U (o.b:Int)):=u.bx.cell 4;have d3:=u.bx.free 3;have d4:=u.bx.free 4;have a1:=H (λ(h:j+1<t.size)=>HD.out Z);by_cases h0:A=0
       ·have S:((A:Int)==0)=true:=(by rw[beq_iff_eq];omega);have F:=H (u.set (o':={o with a:=n}) 3 Z (U (n:Int)) rfl rfl);rw[GP h0]at L;generalize o.a=oa at V;generalize o.b=ob at c4;go_wp2_with (go_at_call 41;refine z.mono ?_;rintro e w'⟨rfl,rfl⟩);go_roundw;(exact⟨j+1,A+1,_,_,Z,Z,aY,aY,L,F,a1⟩);exact QE
       have S:((A:Int)==0)=false:=(by rw[QF];omega);have F:=H (u.set (o':={o with b:=n}) 4 Z (U (n:Int)) rfl rfl);rw[GO h0]at L;generalize o.a=oa at V;generalize o.b=ob at c4;go_wp2_with (go_at_call 41;refine z.mono ?_;rintro e w'⟨rfl,rfl⟩);go_roundw;(exact⟨j+1,A+1,_,_,Z,Z,aY,aY,L,F,a1⟩);exact QE
      by_cases l2:?B=80
      ·have b1:(((?B:Nat):Int)==78)=false:=(by rw[QF];omega);have b2:(((?B:Nat):Int)==80)=true:=(by rw[beq_iff_eq];omega);have X:=H (show tu q=(d_ G).bind λx=>?A A {o with ref:=x.1,p:=x.2} by rw[a0,GO l1,GO l1,GP l2];cases d_ G<;>rfl)
       have V:wr.cell? (Qz O 1)=some (I (o.ref:Int)):=u.bx.cell 1;have c4:wr.cell? (Qz O 2)=some (U (o.p:Int)):=u.bx.cell 2;have d3:=u.bx.free 1;have d4:=u.bx.free 2;cases M:d_ G with
       |none=>have P:=H (show tu q=none by rw[X,M];rfl);have z:=Az d wr R (by rw[a4];exact M);clear M;have H6:=H (λS pp:Nat=>(u.set (o':={o with ref:=S}) 1 Z (I (S:Int)) rfl rfl).set (o':={o with ref:=S,p:=pp}) 2 Z (U (pp:Int)) rfl rfl);generalize o.ref=oa at V;generalize o.p=ob at c4;go_wp2_with fail;refine z.mono ?_;rintro e w'⟨S,pp,rfl,rfl⟩;have F:=H (H6 S pp);clear z;exact Rk P F.r F.bel
       |some x=>have⟨S,pp⟩:=x;have L:=H (show tu q=?A A {o with ref:=S,p:=pp} by rw[X,M];rfl);have z:=Bn d wr R S pp (by rw[a4];exact M);clear M;have⟨F,a1⟩:=y7 ((u.set (o':={o with ref:=S}) 1 Z (I (S:Int)) rfl rfl).set (o':={o with ref:=S,p:=pp}) 2 Z (U (pp:Int)) rfl rfl) (λ(h:j+1<t.size)=>HD.out Z);clear HD u;generalize o.ref=oa at V;generalize o.p=ob at c4;go_wp2_with (go_at_call 42;refine z.mono ?_;rintro e w'⟨rfl,rfl⟩);go_roundw;(exact⟨j+1,A,_,_,Z,Z,rfl,aY,L,F,a1⟩);exact QE
      exfalso;have z:=b5.out;rcases z with z|z<;>omega
     obtain rfl:j=t.size:=Z;have P:=H (show tu q=some o by rw[HE,List.drop_eq_nil_of_le Z];rfl);obtain⟨s,d,y,rfl,z⟩:=Re u.dt;clear z;have HR:Hid (wr.heap[w.heap.size]?=some ?D):=H u.r;refine(let_mvar%?C:=opC o (.slice s d y);?_);have G:Hid (wr.heap[O]?=some (QL (?C).toArray 63)):=H u.bx;have⟨z,L,F⟩:=Qe (setRow_heap wr w.heap.size _ (?C).toArray 63 (0,0) HR) (below_setRow u.bel gi (?C).toArray) (dG u.dt (u.r.apart u.dt ar) (?C).toArray);clear HE u HD;go_wp2_with (first|(refine Rl rfl 63 _ rfl O rfl 63 _ (0,0) _ G underlying63 rfl E ?_)|(refine Gf rfl 63 _ _ rfl _ _ rfl rfl 63 _ HR E rfl (by first|exact Lb|simp[Value.oneCell',opC]) ?_));refine GX (de dU w.heap.size 63 (0,0) dU z underlying63 rfl E) dU ?_;rw[P];exact⟨_,rfl,⟨.slice s d y,_,rfl,(λh=>by cases h),(λx hx=>by cases hx;exact⟨rfl,F⟩)⟩,L⟩
   have b0:((m:Int) != (t.size:Int)+1)=true:=bG;have P:Hid (∀j,j<k+1->OV j q=false):=(λj hj=>HX.out j hj (by rw[HH];simp[x2]));clear x2;go_wp2;go_roundw;(exact⟨k+1,Z,aY,P,trivial⟩);exact QE
  have P:Hid (∀j,j<k+1->OV j q=false):=(λj hj=>HX.out j hj (by rw[HH];simp[x1]));go_wp2;go_roundw;(exact⟨k+1,Z,aY,P,trivial⟩);exact QE
 have P:Hid (tu q=none):=wU λj hj=>Y.out j Z;exact Rk P T.r T.bel
structure Jh where
 mix:Int
 fifo:Int
 large:Int
 budget:Int
 key:Nat
 draws:List Int
def OD(c:Jh)(e:Value):List Value:=[I c.mix,I c.fifo,I c.large,I c.budget,U (c.key:Int),e]
def qT:List UInt8:=[107,101,121]
def pH:List UInt8:=[104,101,97,112]
def mu:List UInt8:=[100,114,97,119,115]
def dw:List (List UInt8)->Option (List Int)
 |[]=>some []
 |w::r=>(tJ w).bind λn=>(dw r).map (n:: ·)
def ij(c:Jh)(q:List (List UInt8)):Option Jh:=
 if q.headD []=qT/\q.length=2 then(yf (q.getD 1 [])).map (λk:Nat=>{c with key:=k})
 else(dw q.tail).bind λns=>if q.headD []=pH/\ns.length=4 then some {c with mix:=ns.getD 0 0,fifo:=ns.getD 1 0,large:=ns.getD 2 0,budget:=ns.getD 3 0}
  else if q.headD []=mu then some {c with draws:=c.draws++ns}else none
def oC(l:List UInt8)(n:Nat):Nat:=l.foldl (λn b=>n*16+pQ b.toNat) n
def E4:∀(l:List UInt8)(n:Nat),oK l=true->(n+1)*16 ^ l.length<=18446744073709551616->qF 16 l n=some (oC l n)
 |[],n,_,_=>rfl
 |c::r,n,ha,a=>by
  simp only[oK,List.all_cons,Gi,Hj]at ha
  rw[FN,Nat.pow_succ',<-Nat.mul_assoc]at a
  let b:(n*16+pQ c.toNat+1)*16 ^ r.length<=(n+1)*16*16 ^ r.length:=Gm _ Z
  let d:n*16+pQ c.toNat+1<=(n*16+pQ c.toNat+1)*16 ^ r.length:=Nat.le_mul_of_pos_right _ (Nat.pow_pos Z)
  rw[sL ⟨ha.1,Z⟩,E4 r _ ha.2 Z]
  rfl
def OG:∀(l:List UInt8)(n:Nat),oK l=false->qF 16 l n=none
 |[],n,h=>by cases h
 | c::r,n,h=>by
  rw[qF]
  split
  .rename_i a
   have:oK r=false:=by simp only[oK,List.all_cons,Bool.and_eq_false_iff,decide_eq_false_iff_not]at h;exact h.resolve_left (λh=>h a.1)
   exact OG r _ this
  rfl
def Ma{l}(h:oK l=true)(b:0<l.length)(a:l.length<=16):yf l=some (oC l 0):=by rw[yf,dL,GP ⟨b,a⟩,E4 l 0 h];rw[Oi,GF];exact Fx (Nat.pow_le_pow_right Z a) ar
def MP{l}(h:¬(oK l=true/\0<l.length)):yf l=none:=by
 rw[yf,dL];split
 .rename_i a;exact OG l 0 (by cases ha:oK l with|false=>rfl|true=>exact absurd ⟨ha,a.1⟩ h)
 rfl
def Lg{l:List UInt8}(h:16<l.length):yf l=none:=by rw[yf,dL,GO Z]
def JW(l:List UInt8)(k:Nat)(c:UInt8)(n)(h:l.drop k=c::l.drop (k+1)):oC (l.take (k+1)) n=oC (l.take k) n*16+pQ c.toNat:=by
 let a:l[k]?=some c:=by rw[<-List.head?_drop,h];rfl
 rw[F_,a];simp[oC]
def Jr:∀(l:List UInt8)(n:Nat),oK l=true->oC l n<(n+1)*16 ^ l.length
 |[],n,_=>by simp[oC]
 |c::r,n,ha=>by
  simp only[oK,List.all_cons,Gi,Hj]at ha
  let b:(n*16+pQ c.toNat+1)*16 ^ r.length<=(n+1)*16*16 ^ r.length:=Gm _ Z
  rw[FN,Nat.pow_succ',<-Nat.mul_assoc]
  exact FG (Jr r (n*16+pQ c.toNat) ha.2) b
def J4{l}(h:oK l=true)(k:Nat):oK (l.take k)=true:=by rw[oK,List.all_eq_true]at h⊢;exact λx a=>h x (List.mem_of_mem_take a)
def LG{T z sz bb}(S:Kt T e z sz bb)(a:W.ownsRow B e sz v n xs)(l:B<=W.heap.size){k:QN}{m:Nat}{b:List QN}(c:W.ownsRow B2 e sz k m b)(o:∀u∈b,u.oneCell'=true)(p:n+m<=2000000000):
  ∃d w',(Builtin.append_ #[T,T] T #[v,k]).run prog W=.ok d w'/\w'.ownsRow B e sz d (n+m) (xs++b)/\W.grownBy w' v.ownBlock:=by
 rcases c.2 with⟨rfl,q⟩|⟨g,d,r,rfl,G,s,K,L,M,t⟩;·subst q;have x:=Ik (by rw[c.1];simp);subst x;have⟨y,f,A,i,F⟩:=G0 S.info;subst i;refine⟨v,W,run_append_owned_none (P:=prog) (w:=W) B T T e y _ S.und f v _ _ a,by simpa using a,⟨rfl,rfl,rfl,gi,λ_ _ _=>rfl⟩⟩
 exact KZ S a l (Qz g 0) m d b c.1 (λj u i=>by have f:=(Fz.1 i).1;rw[Addr.add_mid,Oi,GT _ _ j _ _ _ s,<-i,<-t,Hf (by rw[<-c.1];exact f),Gg]) o p
def nF{c}{a:QP}{m n:Nat}:(OD c (.slice a m n)).toArray.all (·.oneCell')=true:=by simp[OD,Value.oneCell']
def iv(l:List Int):List Value:=l.map (Value.int .i64)
def ze{l}:∀u∈iv l,u.oneCell'=true:=λu a=>by
 simp[iv,FQ]at a
 obtain⟨_,_,rfl⟩:=a
 rfl
def MX (v q B w)(f:Ws B w v q)(b5:0<q.length)(hl:q.length<=1048576)(a2:∀x∈q,x.length<=1048576)(d:OV 6 q=true):
  Calls prog 19 #[v] w λe w'=>∃r,e=QJ r/\Nx w w' (tu q) r/\D w w':=by
 obtain⟨g,c,rfl,hg⟩:∃g c,v=Vl g q.length c/\g<w.heap.size:=by
  rcases f.2 with⟨rfl,r⟩|⟨g,m,o,rfl,hg,hh,_⟩;·omega
  exact⟨g,m,rfl,G_ hh⟩
 have HQ:=H (λ(W:QM)(hb:D w W)(k:Nat)(hk:k<q.length)=>(show W.cell? (Qz g k)=some (.string (bs (q.getD k []))) by rw[hb.cell hg];exact Ex f rfl hk));have b8:=H (λ(k:Nat)(hk:k<q.length)=>(show(q.getD k []).length<=1048576 by
  have:q.getD k []=q[k]:=by simp[hk]
  rw[this];exact a2 _ (Iw hk)))
 have⟨m,o⟩:=Qa q.length;rw[o]at b5 hl⊢;have⟨HM,b9⟩:=y7 o d;clear d;clear f o a2;go_wp2;have H3:=H (Ki w);have⟨W3,d⟩:=Qb (((w.alloc (QL io.toArray 63)).alloc (QL (ga.map wg).toArray 9)).alloc (QL (cF.map wg).toArray 9));rw[<-d]at H3;refine Eq.mp (congrArg _ d) ?_;clear d;have⟨N2,d⟩:=Qb (w.heap.size+1+1);have c0:=H (show N2≠w.heap.size by omega);rw[<-d]at H3⊢;clear d;generalize w.heap.size+1=N1 at H3⊢;go_loopw [21] (λi wr=>∃(k:Nat),k<=7/\i=I (k:Int)/\Hid (∀j,j<k->OV j q=false)/\wr=W3) (λi _=>7-(intOf i).toNat);exact⟨0,Z,rfl,H (λj hj=>Z),rfl⟩
 obtain⟨k,hk,rfl,a7,rfl⟩:=hrel;by_cases a0:k<7
 ·have c1:=H3.name a0;have c2:=H3.form a0;have c3:=HQ.out _ H3.bel 0 (by rw[HM];exact b5);have⟨t,r⟩:=Qb (bs (cF.getD k []));have⟨nm,f⟩:=Qb (bs (ga.getD k []));have⟨q0,o⟩:=Qb (bs (q.getD 0 []));rw[<-f]at c1;rw[<-r]at c2;rw[<-o]at c3;have d8:t.size<=2:=(by rw[r,gz];exact Jz k);have HT:=H r;have HX:Hid (∀j,j<k+1->¬OV k q=true->OV j q=false):=(λj hj hh=>by
   by_cases e:j=k;·subst e;simpa using hh
   exact a7 j Z)
  have d:OV k q=decide (q0.toList=nm.toList/\m=t.size+1):=by rw[OV,r,gz,HM,o,f,Lib.toList_data,Lib.toList_data,kO,kO];congr 1;cases q<;>simp
  have HH:=H d;clear r f o d;by_cases x1:q0.toList=nm.toList
  ·by_cases x2:m=t.size+1
   ·have c6:((m:Int) != (t.size:Int)+1)=false:=bG;have HE:Hid (tu q=eD (cF.getD k []) q.tail 0 ⟨k,0,0,0,0,[]⟩):=(CF a0 a7 (by rw[HH];simp[x1,x2]));have⟨a8,r⟩:=y7 x2 (H3.open k c0);have c7:Hid (k=6):=(Kf a0 Z (by rw[HH];simp[x1,x2]) b9);clear x2 a7;go_wp2;have⟨W4,d⟩:=Qb (wr.alloc (QL (opC ⟨k,0,0,0,0,[]⟩ (C)).toArray 63));rw[<-d]at r;refine Eq.mp (congrArg _ d) ?_;clear d;have⟨O,d⟩:=Qb wr.heap.size;rw[<-d]at r⊢;clear d c1 c2 c3;have⟨f,d⟩:=Qb (cF.getD k []);rw[<-d]at HT HE;have HF:=H d;clear d;have d9:f.length=t.size:=(by rw[HT,gz]);have c8:decide ((k:Int)<7)=true:=bG;simp only[c8];go_loopw [9,10] (λd i wq=>∃(j L:Nat)(o:sT)(dv:QN),j<=t.size/\L<=j/\d=I (L:Int)/\i=I (j:Int)/\Hid (tu q=eD (f.drop j) (q.tail.drop j) L o)/\Hid (Sp4 w wq w.heap.size N2 O o dv)/\Hid (j<t.size->o.data=[]/\dv=C)) (λ_ i _=>t.size-(intOf i).toNat);(case atStart=>exact⟨0,0,_,_,Z,Z,rfl,rfl,H (by simpa using HE.out),r,H (λ_=>⟨rfl,rfl⟩)⟩);case round=>
     clear HE r;obtain⟨j,L,o,dv,hj,e0,rfl,rfl,HE,r,HD⟩:=hrel;have c2:wr.cell? (Qz N2 k)=some (.string t):=(by rw[HT,HF];exact r.form a0);by_cases a9:j<t.size
     ·have e2:j+1<m:=(by have:=a8.out;omega);have u:=HQ.out _ r.bel (j+1) (by rw[HM,a8];omega);have a2:=b8.out (j+1) (by rw[HM,a8];omega);have⟨P,y⟩:=Qb (q.getD (j+1) []);rw[<-y]at u a2;refine(let_mvar%?B:=t[j].toNat;?_);have z:?B=(f[j]' Z).toNat:=by rw[Mf HT j a9 Z]
      refine(let_mvar%?A:=eD (f.drop (j+1)) (q.tail.drop (j+1));?_);have K:eD (f.drop j) (q.tail.drop j) L o=(mX (f[j]' Z) P L o).bind (?A (if ?B=78 then L+1 else L)):=by rw[List.drop_eq_getElem_cons (l:=f) (i:=j) Z,eD,z];have hh:(q.tail.drop j).headD []=P:=(by rw[y,List.headD_eq_head?_getD,List.head?_drop];simp);rw[hh,List.tail_drop]
      have s:=EM (k:=k) (j:=j) a0 (by rw[<-HF.out];omega);simp only[<-HF.out]at s;have A:mX (f[j]' Z) P L o=if ?B=78 then(dL 10 20 P).map (λn=>if L=0 then {o with a:=n}else {o with b:=n})else if ?B=80 then(d_ P).map (λx=>{o with ref:=x.1,p:=x.2})else(qG P).map (λd=>{o with data:=o.data++d}):=(by rw[mX,z]);rw[A]at K;rw[<-z]at s;have c9:=H (show¬?B=78 by have F:=c7.out;have h9:=Kc (j:=j) (by rw[<-F,<-HF.out];omega);simp only[<-F,<-HF.out]at h9;rw[z];exact h9);have⟨G,F⟩:=y7 (HE.trans K) s;clear K A s z y HE;have⟨y,z⟩:=Qb (bs P);rw[<-z]at u;have a1:y.size<=1048576:=by rw[z,gz];exact a2
      have Q:=H (show y.data.toList=P by rw[z,kO]);clear z a2;have e3:=EO t j a9;have l1:¬?B=78:=c9.out;by_cases l2:?B=80
      ·have b1:(((?B:Nat):Int)==78)=false:=(by rw[QF];omega);have b2:(((?B:Nat):Int)==80)=true:=(by rw[beq_iff_eq];omega);have HP:=H (show tu q=(d_ P).bind λx=>?A L {o with ref:=x.1,p:=x.2} by rw[G,GO l1,GO l1,GP l2];cases d_ P<;>rfl)
       clear G F;have c3:wr.cell? (Qz O 1)=some (I (o.ref:Int)):=r.bx.cell 1;have T:wr.cell? (Qz O 2)=some (U (o.p:Int)):=r.bx.cell 2;have d3:=r.bx.free 1;have d4:=r.bx.free 2;cases V:d_ P with
       |none=>have HN:=H (show tu q=none by rw[HP,V];rfl);have z:=Az y wr a1 (by rw[Q];exact V);clear V;have H6:=H (λA K:Nat=>(r.set (o':={o with ref:=A}) 1 Z (I (A:Int)) rfl rfl).set (o':={o with ref:=A,p:=K}) 2 Z (U (K:Int)) rfl rfl);generalize o.ref=X at c3;generalize o.p=Y at T;go_wp2_with fail;refine z.mono ?_;rintro e w'⟨A,K,rfl,rfl⟩;have M:=H (H6 A K);clear z;exact Rk HN M.r M.bel
       |some x=>have⟨A,K⟩:=x;have b0:=H (show tu q=?A L {o with ref:=A,p:=K} by rw[HP,V];rfl);have z:=Bn y wr a1 A K (by rw[Q];exact V);clear V;have⟨M,R⟩:=y7 ((r.set (o':={o with ref:=A}) 1 Z (I (A:Int)) rfl rfl).set (o':={o with ref:=A,p:=K}) 2 Z (U (K:Int)) rfl rfl) (λ(h:j+1<t.size)=>HD.out Z);clear HD r;generalize o.ref=X at c3;generalize o.p=Y at T;go_wp2_with (go_at_call 42;refine z.mono ?_;rintro e w'⟨rfl,rfl⟩);go_roundw;(exact⟨j+1,L,_,_,Z,Z,rfl,aY,b0,M,R⟩);exact QE
      have b1:(((?B:Nat):Int)==78)=false:=(by rw[QF];omega);have b2:(((?B:Nat):Int)==80)=false:=(by rw[QF];omega);have d0:=H (F.resolve_left Z).2;obtain⟨d1,rfl⟩:=HD.out a9;have HP:=H (show tu q=(qG P).bind λd=>?A L {o with data:=d} by rw[G,GO l1,GO l1,GO l2];cases qG P<;>simp[d1])
      clear G F HD;by_cases hA:oK P=true/\0<y.size
      ·have HA:=H hA.1;have b6:=hA.2;have z:=IZ y wr a1 (by rw[Q];exact hA.1) hA.2;rw[Q]at z;clear hA;go_wp2_with fail;refine z.mono ?_;rintro e w'⟨hg,hc,rfl,F,A,X⟩;have M:=H (r.five X A F);have⟨B2,G⟩:=Qb (w'.heap.size);rw[<-G]at M;clear z r A F X G;obtain⟨pb,A⟩:∃pb:Bool,pb=(((y.size:Nat):Int)%2==0):=⟨_,rfl⟩;have d2:(((y.size:Nat):Int)%2==0)=pb:=A.symm;have b7:=H (show pb=decide (y.size%2=0) by rw[A,Bool.eq_iff_iff];simp;omega);clear A;go_wp2_with fail;go_loopw [16] (λA wq=>∃(T i:Nat)(a3:QN),T<=y.size/\A=I (T:Int)/\Hid (T=2*i)/\Hid (Sp5 w wq w.heap.size N2 O hg B2 o a3 P i)) (λA _=>y.size-(intOf A).toNat);(case atStart=>exact⟨0,0,_,Z,rfl,H rfl,M⟩);case round=>
        clear M;obtain⟨T,i,a3,e4,rfl,HJ,M⟩:=hrel;by_cases e5:T+1<y.size
        ·have R:=xC (iN P) i (by have:=HJ.out;rw[show(iN P).length=P.length by simp[iN],<-Q.out];simp;omega);refine(let_mvar%?F:=(iN P).getD (2*i+1) 0;let_mvar%?G:=(iN P).getD (2*i) 0;?_);have⟨xx,K⟩:=Qb (?G*16+?F);rw[<-K]at R;obtain⟨v1,w1,e1,⟨va,vm,vc,rfl⟩,c5,d5,Y,s7⟩:=M.drew.more _ R (by have:=HJ.out;omega);have d6:=Jl HA (2*i);have d7:=Jl HA (2*i+1);have q1:∀W,RowV W hg 5 (hv P)->QG W hg T (.int .u8 ((?G:Nat):Int))/\W.cell? (Qz hg (T+1))=some (.int .u8 ((?F:Nat):Int)):=λW hW=>by have e9:=HJ.out;rw[<-e9];exact⟨Dd hW T (by rw[<-Q.out];simp;omega),Dd hW (T+1) (by rw[<-Q.out];simp;omega)⟩
         have e7:wr.cell? (Qz O 5)=some a3:=M.bx.cell 5;generalize ?G=xa at*;generalize ?F=xb at*;have⟨F,G,CS,H7⟩:=Qf (λ(W9:QM)(hb:D wr W9)=>q1 W9 (M.hx.below hb M.hx.lt)) (q1 _ Y) (q1 _ s7.hx) s7;have e8:IntKind.u8.wrap ((xa:Int)*16)=(xa:Int)*16:=wrap_u8 Z Z;have g0:IntKind.i64.wrap ((T:Int)+1)=(T:Int)+1:=wrap_i64 Z Z;have g1:IntKind.u8.wrap ((xa:Int)*16+(xb:Int))=(xx:Int):=(wrap_u8 Z Z).trans Z;clear K;refine(let_mvar%?C:=(QL #[.int .u8 (xx:Int)] 5);let_mvar%?E:=Fu wr.heap.size;?_);have g2:(wr.drew.alloc ?C).cell? (Qz O 5)=some a3:=(M.drew.bx.below ((?E wr.drew).alloc gi _) M.bx.lt).cell 5;have g3:(wr.alloc ?C).cell? (Qz O 5)=some a3:=(M.bx.below ((?E wr).alloc gi _) M.bx.lt).cell 5;obtain⟨da,K,dc,rfl,b3⟩:=Re M.dt;clear b3;clear q1 Y s7 M R;go_wp2_with fail;refine rh (S:=λW9=>QG W9 hg T (.int .u8 (xa:Int))/\QG W9 hg (T+1) (.int .u8 (xb:Int))) ?_;have R:=F.out _ ld;refine py R ?_;simp only[f0,f1,Nat.reduceAdd,lz,l0,ls];(iterate 11 refine PX 2 R ?_);refine lZ [1,13] λi9 a4=>?_;rcases(by simpa using a4:i9=1\/i9=13)with a4|a4
         ·subst a4;refine cw λK' Y=>?_;go_simp;refine Y _ _ ⟨R,?_⟩;clear Y K';refine po 13 λK' Y=>?_
          go_simp;have a5:=F.out _ (((?E wr).alloc gi ?C).mono gi);refine Y _ _ ⟨a5,?_⟩;clear R;have R:=a5;clear Y K';refine gu 14 ?_;have a6:=G.out;refine ur e1 ⟨a6,?_⟩;clear R;have R:=a6;refine PX 15 R ?_;refine po 16 λK' Y=>?_;go_simp;have b4:=CS.out;refine Y _ _ ⟨b4,?_⟩;clear R;clear Y K';refine bY ?_;go_wp2_with fail;go_roundw
          (exact⟨T+2,i+1,_,Z,aY,H (by have:=HJ.out;omega),H7⟩);exact QE
         subst a4;refine cw λK' Y=>?_;go_simp;have a5:=F.out _ (((?E wr).alloc gi ?C).mono gi);refine Y _ _ ⟨a5,?_⟩;clear R;have R:=a5;clear Y K';refine po 1 λK' Y=>?_
         go_simp;refine Y _ _ ⟨R,?_⟩;clear Y K';refine gu 14 ?_;have a6:=G.out;refine ur e1 ⟨a6,?_⟩;clear R;have R:=a6;refine PX 15 R ?_;refine po 16 λK' Y=>?_;go_simp;have b4:=CS.out;refine Y _ _ ⟨b4,?_⟩;clear R;clear Y K';refine bY ?_;go_wp2_with fail;go_roundw
         (exact⟨T+2,i+1,_,Z,aY,H (by have:=HJ.out;omega),H7⟩);exact QE
        have R:=H (show i=y.size/2 by have:=HJ.out;omega);clear HJ;have c2:wr.cell? (Qz N2 k)=some (.string t):=(by rw[HT,HF];exact JN M.fm a0);rcases pb with _|_
        ·have HN:=H (show tu q=none by rw[HP,qG,GO (λh=>by have F:=b7.out;have G:=h.1;rw[<-Q.out]at G;simp at F G;omega)];rfl)
         exact Rk HN M.r M.bel
        have b0:=H (show tu q=?A L {o with data:=mN (iN P)} by rw[HP,qG,GP ⟨by have F:=b7.out;rw[<-Q.out];simp at F⊢;omega,HA,by rw[<-Q.out];simpa using b6⟩];rfl)
        have G:=H (show Sp4 w wr w.heap.size N2 O {o with data:=mN (iN P)} a3 from⟨M.r,M.fm,M.bx,by have h9:=M.dt;have V:(mN (iN P)).length=i:=(by rw[tQ,R,<-Q.out];simp[iN]);rw[Ge Z]at h9;dsimp only;rw[V];exact ia h9 M.lt.2.2.2.2.2,M.bel,M.ge,M.ne⟩)
        clear M;go_wp2_with fail;go_roundw;(exact⟨j+1,L,_,_,Z,Z,rfl,aY,b0,G,H (λh=>by have:=d0.out;omega)⟩);exact QE
      have HN:=H (show tu q=none by rw[HP,qG,GO (λh=>hA ⟨h.2.1,by have:=h.2.2;rw[<-Q.out]at this;simpa using this⟩)];rfl)
      have z:=I_ y wr a1 (by rw[Q];exact hA);clear hA;go_wp2_with fail;refine z.mono ?_;rintro e w'⟨ha,hc,rfl,X⟩;have H6:=H (r.below X);clear z X r;go_wp2_with fail;go_loopw [16] (λA wq=>A=I 0/\wq=w') (λ_ _=>0);(case atStart=>exact⟨rfl,rfl⟩);case round=>obtain⟨rfl,rfl⟩:=hrel;exact Rk HN H6.r H6.bel
     obtain rfl:j=t.size:=Z;have HN:=H (show tu q=some o by rw[HE,List.drop_eq_nil_of_le Z];rfl);obtain⟨da,K,dc,rfl,b3⟩:=Re r.dt;clear b3;have u:Hid (wr.heap[w.heap.size]?=some (QL io.toArray 63)):=H r.r;refine(let_mvar%?D:=opC o (.slice da K dc);?_);have y:Hid (wr.heap[O]?=some (QL (?D).toArray 63)):=H r.bx;have⟨d,z,s⟩:=Qe (setRow_heap wr w.heap.size _ (?D).toArray 63 (0,0) u) (below_setRow r.bel gi (?D).toArray) (dG r.dt (r.r.apart r.dt ar) (?D).toArray);clear HE r HD;go_wp2_with (first|(refine Rl rfl 63 _ rfl O rfl 63 _ (0,0) _ y underlying63 rfl E ?_)|(refine Gf rfl 63 _ _ rfl _ _ rfl rfl 63 _ u E rfl (by first|exact Lb|simp[Value.oneCell',opC]) ?_));refine GX (de dU w.heap.size 63 (0,0) dU d underlying63 rfl E) dU ?_;rw[HN];exact⟨_,rfl,⟨.slice da K dc,_,rfl,(λh=>by cases h),(λx d=>by cases d;exact⟨rfl,s⟩)⟩,z⟩
   have c6:((m:Int) != (t.size:Int)+1)=true:=bG;have HN:Hid (∀j,j<k+1->OV j q=false):=(λj hj=>HX.out j hj (by rw[HH];simp[x2]));clear x2;go_wp2;go_roundw;(exact⟨k+1,Z,aY,HN,trivial⟩);exact QE
  have HN:Hid (∀j,j<k+1->OV j q=false):=(λj hj=>HX.out j hj (by rw[HH];simp[x1]));go_wp2;go_roundw;(exact⟨k+1,Z,aY,HN,trivial⟩);exact QE
 have HN:Hid (tu q=none):=wU λj hj=>a7.out j Z;exact Rk HN H3.r H3.bel
def Ue(e:Addr)(v:Value):Prop:=v=.iface 399 (.pointer (some e))\/∃s,v=wE s e
def jA(s:ByteArray)(a b n:Nat)(f:Addr)(w:QM)(g:s.size<=1048576)(c:1<=a)(d:a<=16)(i:b<=20)(j:QG w 1 0 (.iface 399 (.pointer (some f))))(h:dL a b s.data.toList=some n):
  QA 137 #[.string s,U (a:Int),I (b:Int)] w λe w'=>e=QJ (.tuple #[U (n:Int),.nilIface])/\D w w':=by
 apply(Cp s a b f w g c d i j).mono;rintro e w'⟨rfl,d⟩;rw[h];exact⟨rfl,d⟩
def iT(s:ByteArray)(a b:Nat)(c:Addr)(w:QM)(g:s.size<=1048576)(d:1<=a)(f:a<=16)(i:b<=20)(j:QG w 1 0 (.iface 399 (.pointer (some c))))(h:dL a b s.data.toList=none):
  QA 137 #[.string s,U (a:Int),I (b:Int)] w λe w'=>e=QJ (.tuple #[U 0,wE s c])/\D w w':=by
 apply(Cp s a b c w g d f i j).mono;rintro e w'⟨rfl,f⟩;rw[h];exact⟨rfl,f⟩
def E6(s:ByteArray)(c:UInt8)(w:QM)(h:C5 s.data.toList=c.toNat)(g:0<c.toNat):
  Calls prog 139 #[.string s,.string ⟨#[c]⟩] w λe w'=>e=QJ (.tuple #[.string (s.extract 1 s.size),.bool true])/\w'=w:=by
 let a:0<s.size:=by
  by_cases a:0<s.size;.exact a
  rw[xm s a]at h;simp[C5]at h;omega
 rw[vY s a]at h;let i:(s.extract 0 1).toList=[c]:=by rw[Lib.toList_data,ext_list,IE];have:=pL s 0 a;rw[IE]at this;rw[this];simp;exact UInt8.toNat_inj.1 h
 have b:(ByteArray.mk #[c]).toList=[c]:=by rw[Lib.toList_data]
 have d:(ByteArray.mk #[c]).size=1:=rfl;generalize ByteArray.mk #[c]=t at b d;go_in;go_wp2
 go_ret2
 exact QB
def I9(s:ByteArray)(c:UInt8)(w:QM)(h:¬C5 s.data.toList=c.toNat):
  QA 139 #[.string s,.string ⟨#[c]⟩] w λe w'=>e=QJ (.tuple #[.string s,.bool false])/\w'=w:=by
 refine(let_mvar%?A:=ByteArray.mk #[c];?_);have a:(?A).toList=[c]:=by rw[Lib.toList_data]
 have b:(?A).size=1:=rfl;by_cases f:0<s.size
 .rw[vY s f]at h;let i:(s.extract 0 1).toList=[s[0]]:=by rw[Lib.toList_data,ext_list,IE];have:=pL s 0 f;rw[IE]at this;rw[this];simp
  let g:([s[0]]==[c])=false:=by rw[QF];intro e;exact h (by rw[(List.cons.inj e).1])
  let d:decide ((1:Int)<=(s.size:Int))=true:=bG;generalize ?A=t at a b;go_enter func139,ntmps139;go_wp2
  all_goals first|(exfalso;simp_all;done)|skip
  go_ret2
  exact QB
 let d:decide ((1:Int)<=(s.size:Int))=false:=bG;generalize ?A=t at a b;go_enter func139,ntmps139;go_wp2
 go_ret2
 exact QB
def x7(l:List UInt8):Option Nat:=(dL 10 9 l.tail).map (λn:Nat=>if C5 l=45 then yZ n else n)
def Bt(s:ByteArray)(c:Addr)(w:QM)(i:s.size<=1048576)(j:0<s.size)(f:QG w 1 0 (.iface 399 (.pointer (some c))))(h:x7 s.data.toList=none):
  QA 141 #[.string s] w λe w'=>∃v,e=QJ (.tuple #[U 0,v])/\Ue c v/\D w w':=by
 let b:dL 10 9 (s.extract 1 s.size).data.toList=none:=by
  rw[sD];cases a:dL 10 9 s.data.toList.tail with
  |none=>rfl
  |some n=>rw[x7,a]at h;cases h
 let a:=iT (s.extract 1 s.size) 10 9 c w (by rw[ext_size];omega) Z Z Z f b;unfold wE at a;by_cases g:s[0].toNat=45
 .let b:(((s[0].toNat:Nat):Int)==45)=true:=by rw[beq_iff_eq];omega
  go_enter func141,ntmps141;go_wp2_with (go_at_call 137;apply a.mono;rintro e w'⟨rfl,d⟩)
  go_ret2
  exact⟨_,rfl,.inr ⟨_,rfl⟩,d⟩
 let b:(((s[0].toNat:Nat):Int)==45)=false:=by rw[QF];omega
 go_enter func141,ntmps141;go_wp2_with (go_at_call 137;apply a.mono;rintro e w'⟨rfl,d⟩)
 go_ret2
 exact⟨_,rfl,.inr ⟨_,rfl⟩,d⟩
def Bz(s:ByteArray)(n:Nat)(g:Addr)(w:QM)(l:s.size<=1048576)(j:0<s.size)(k:QG w 1 0 (.iface 399 (.pointer (some g))))(h:x7 s.data.toList=some n):
  QA 141 #[.string s] w λe w'=>e=QJ (.tuple #[U (n:Int),.nilIface])/\D w w':=by
 obtain⟨m,b,c⟩:∃m,dL 10 9 (s.extract 1 s.size).data.toList=some m/\n=if C5 s.data.toList=45 then yZ m else m:=by
  rw[sD];cases a:dL 10 9 s.data.toList.tail with
  |none=>rw[x7,a]at h;cases h
  |some m=>rw[x7,a]at h;simp at h;exact⟨m,rfl,h.symm⟩
 let a:=jA (s.extract 1 s.size) 10 9 m g w (by rw[ext_size];omega) Z Z Z k b;let d:=tR b;rw[vY s j]at c;let i:=H c;by_cases b:s[0].toNat=45
 .let c:(((s[0].toNat:Nat):Int)==45)=true:=by rw[beq_iff_eq];omega
  go_enter func141,ntmps141;go_wp2_with (go_at_call 137;apply a.mono;rintro e w'⟨rfl,f⟩)
  go_ret2
  refine⟨?_,f⟩;rw[i,GP b,<-EG d];rfl
 let c:(((s[0].toNat:Nat):Int)==45)=false:=by rw[QF];omega
 go_enter func141,ntmps141;go_wp2_with (go_at_call 137;apply a.mono;rintro e w'⟨rfl,f⟩)
 go_ret2
 refine⟨?_,f⟩;rw[i,GO b];rfl
def OL:Value:=C
def K_(j:Addr)(O:Nat)(w w':World)(r:Option sT)(e:Ending):Prop:=w.grownBy w' (some O)/\match r with
 |some o'=>e=.returned .nilIface/\∃i,Bx w' O 63 (opC o' i)/\w'.ownsRow w.heap.size 5 1 i o'.data.length (xe o'.data)/\(o'.data=[]->i=OL)
 |none=>∃v,e=.returned v/\Ue j v
def PartC(f:Nat)(c:UInt8)(i:Nat):Prop:=∀(j:Addr)(O:Nat)(o:sT)(s:ByteArray)(w:World),s.size<=1048576->0<s.size->w.cell? ⟨1,0,none⟩=some (.iface 399 (.pointer (some j)))->O≠1->Bx w O 63 (opC o OL)->o.data=[] ->
 QA f #[J O 0,.string s] w λe w'=>K_ j O w w' (mX c s.data.toList i o) e
def gS{O:Option Nat}(h:D w w'):w.grownBy w' O:=⟨h.os,h.tape,h.output,h.size,λk a _=>h.block k a⟩
def fW{a b c:QM}{O:Option Nat}(h:a.grownBy b O)(k:b.grownBy c O):a.grownBy c O:=⟨k.os.trans h.os,k.tape.trans h.tape,k.output.trans h.output,Fx h.size k.size,λi e d=>(k.block i (FG e h.size) d).trans (h.block i e d)⟩
def OZ(h:w.grownBy w' (some O)){a:Addr}(ha:w.cell? a=some v)(b:a.block≠O):w'.cell? a=some v:=by
 let c:a.block<w.heap.size:=by
  unfold World.cell? at ha;split at ha;.rename_i d;exact G_ d
  cases ha
 have:=h.block a.block c (by simpa using b);unfold World.cell? at ha⊢;rwa[this]
def Mb:PartC 88 78 0:=by
 intro j O o s w k l m t c p;let b:mX 78 s.data.toList 0 o=(dL 10 20 s.data.toList).map (λn=>{o with a:=n}):=by rw[mX,GP ar];rfl
 rw[b];cases g:dL 10 20 s.data.toList with
 |none=>let b:=iT s 10 20 j w k Z Z Z m g;unfold wE at b;go_enter func88,ntmps88;go_wp2_with fail;apply b.mono;rintro e w'⟨rfl,f⟩;let d:=c.below f c.lt;let i:=d.cell 3;let f3:=d.free 3;generalize o.a=q at i;go_wp2_with fail;go_ret;exact⟨au (gS f) 3 _,⟨_,rfl,.inr ⟨_,rfl⟩⟩⟩
 |some n=>let b:=jA s 10 20 n j w k Z Z Z m g;go_enter func88,ntmps88;go_wp2_with fail;apply b.mono;rintro e w'⟨rfl,f⟩;let d:=c.below f c.lt;let i:=d.cell 3;let f3:=d.free 3;generalize o.a=q at i;go_wp2_with fail;go_ret;exact⟨au (gS f) 3 _,rfl,OL,H (d.set 3 (U (n:Int))),by rw[p];exact⟨by simp[xe],.inl ⟨rfl,rfl⟩⟩,λ_=>rfl⟩
def Ll:PartC 89 78 1:=by
 intro j O o s w k l m t c p;let a:mX 78 s.data.toList 1 o=(dL 10 20 s.data.toList).map (λn=>{o with b:=n}):=by rw[mX,GP ar];rfl
 rw[a];cases g:dL 10 20 s.data.toList with
 |none=>let a:=iT s 10 20 j w k Z Z Z m g;unfold wE at a;go_enter func89,ntmps89;go_wp2_with fail;apply a.mono;rintro e w'⟨rfl,f⟩;let d:=c.below f c.lt;let i:=d.cell 4;let f3:=d.free 4;generalize o.b=q at i;go_wp2_with fail;go_ret;exact⟨au (gS f) 4 _,⟨_,rfl,.inr ⟨_,rfl⟩⟩⟩
 |some n=>let a:=jA s 10 20 n j w k Z Z Z m g;go_enter func89,ntmps89;go_wp2_with fail;apply a.mono;rintro e w'⟨rfl,f⟩;let d:=c.below f c.lt;let i:=d.cell 4;let f3:=d.free 4;generalize o.b=q at i;go_wp2_with fail;go_ret;exact⟨au (gS f) 4 _,rfl,OL,H (d.set 4 (U (n:Int))),by rw[p];exact⟨by simp[xe],.inl ⟨rfl,rfl⟩⟩,λ_=>rfl⟩
def pm:ByteArray:=⟨#[43,45]⟩
def KD(w:QM):Calls prog 193 #[.string pm,.int .i32 65533] w λe w'=>e=QJ (I (-1))/\D w w':=by
 let c:∀b,D w (w.iter pm b):=λb=>(Fu _ w).alloc gi _
 let d:=λa=>run_next_ascii (P:=prog) w pm 0 a ar ar
 let f:=λa=>run_next_ascii (P:=prog) w pm 1 a ar ar
 let j:=λa=>run_next_end (P:=prog) w pm 2 a ar
 let g:(((pm[0]' ar).toNat:Nat):Int)=43:=ar;let i:(((pm[1]' ar).toNat:Nat):Int)=45:=ar;rw[g]at d;rw[i]at f;go_wp2;go_loopw [] (λwr=>∃b:Nat,b<=2/\wr=w.iter pm b) (λwr=>2-wr.iterPos w.heap.size);exact⟨0,Z,rfl⟩
 obtain⟨b,k,rfl⟩:=hrel;rcases b with _|_|_|b
 .go_wp2;go_roundw;(exact⟨1,Z,rfl⟩);case measure=>simp
 .go_wp2;go_roundw;(exact⟨2,Z,rfl⟩);case measure=>simp
 .go_wp2;go_ret;exact⟨rfl,c _⟩
 omega
def L_(r:Nat)(b:r<55296\/(57343<r/\r<=1114111))(w:QM):QA 271 #[.int .i32 (r:Int)] w λe w'=>e=QJ Ql/\w'=w:=by
 by_cases c:r<55296
 .let a:decide ((r:Int)<55296)=true:=bG;go_enter func271,ntmps271;go_wp2;go_ret;exact QB
 let a:decide ((r:Int)<55296)=false:=bG;let d:decide ((57343:Int)<(r:Int))=true:=bG;let f:decide ((r:Int)<=1114111)=true:=bG;go_enter func271,ntmps271;go_wp2;go_ret;exact QB
def LF(r:Nat)(b:r<=2147483647)(c:¬(r<55296\/(57343<r/\r<=1114111)))(w:QM):QA 271 #[.int .i32 (r:Int)] w λe w'=>e=QJ Qk/\w'=w:=by
 let d:decide ((r:Int)<55296)=false:=bG;by_cases f:57343<r
 .let a:decide ((57343:Int)<(r:Int))=true:=bG;let g:decide ((r:Int)<=1114111)=false:=bG;go_enter func271,ntmps271;go_wp2;go_ret;exact QB
 let a:decide ((57343:Int)<(r:Int))=false:=bG;go_enter func271,ntmps271;go_wp2;go_ret;exact QB
def Lw(r:Nat)(b:128<=r)(hv:r<55296\/(57343<r/\r<=1114111)):∃a,Utf8.encode (r:Int)=a/\2<=a.size/\a.size<=4/\∀h:a.size=2,128<=(a[1]' Z).toNat:=by
 let a:Utf8.valid (r:Int)=true:=by simp[Utf8.valid];omega
 refine⟨_,rfl,?_⟩;by_cases c:r<2048
 .let e:Utf8.encode (r:Int)=⟨#[UInt8.ofNat (192+r/64),UInt8.ofNat (128+r%64)]⟩:=by simp[Utf8.encode,a,IM,F0];rw[GO Z,GP Z]
  rw[e];refine⟨Fv 2,(show 2<=4 by omega),λ_=>?_⟩;show 128<=(UInt8.ofNat (128+r%64)).toNat;simp;omega
 by_cases d:r<65536
 .let e:Utf8.encode (r:Int)=⟨#[UInt8.ofNat (224+r/4096),UInt8.ofNat (128+r/64%64),UInt8.ofNat (128+r%64)]⟩:=by simp[Utf8.encode,a,IM,F0];rw[GO Z,GO Z,GP Z]
  rw[e];exact⟨(show 2<=3 by omega),(show 3<=4 by omega),λh=>absurd h (show¬3=2 by omega)⟩
 let e:Utf8.encode (r:Int)=⟨#[UInt8.ofNat (240+r/262144),UInt8.ofNat (128+r/4096%64),UInt8.ofNat (128+r/64%64),UInt8.ofNat (128+r%64)]⟩:=by simp[Utf8.encode,a,IM,F0];rw[GO Z,GO Z,GO Z]
 rw[e];exact⟨(show 2<=4 by omega),(show 4<=4 by omega),λh=>absurd h (show¬4=2 by omega)⟩
def Mg{b:UInt8}(w:QM):QA 270 #[.string (pm.extract 2 2),.int .u8 ((b.toNat:Nat):Int)] w λe w'=>e=QJ (I (-1))/\w'=w:=by let h:=Any.strings_IndexByte (P:=prog) (ρ:=Tryz.lays153_ren) {Tryz.lays153 with} (pm.extract 2 2) ((b.toNat:Nat):Int) w;let e:(pm.extract 2 2).data.toList=[]:=ar;rw[e]at h;exact h
def Ke(r:Nat)(i:128<=r)(j:r<=2147483647)(f:r≠65533)(w:QM):QA 193 #[.string pm,.int .i32 (r:Int)] w λe w'=>e=QJ (I (-1))/\D w w':=by
 let o:decide ((r:Int)<128)=false:=bG;let p:((r:Int)==65533)=false:=by rw[QF];omega
 by_cases hv:r<55296\/(57343<r/\r<=1114111)
 .let a:=L_ r hv w;let⟨b,g,k,l,d⟩:=Lw r i hv;have c:=g;clear g;by_cases q:b.size=2
  .have x:=d q;let g:QA 270 #[.string (pm.extract 2 2),.int .u8 ((b[1].toNat:Nat):Int)] w λe w'=>e=QJ (I (-1))/\w'=w:=Mg w
   let u:(pm[1]' ar).toNat=45:=ar;go_enter func193,ntmps193;go_wp2_with (go_at_call 271;apply a.mono;rintro e w'⟨rfl,rfl⟩);go_step3;go_wp2;go_loopg [9] 1 (λgk m wr=>m=I 1/\wr=w');(case atStart=>exact⟨rfl,rfl⟩);obtain⟨rfl,rfl⟩:=hrel;let n:pm.size=2:=rfl;let v:IntKind.i64.wrap 2=2:=ar;clear d c a f hv o p i j l k g;go_wp2;go_step3;go_wp2;go_region;go_wp2
   go_region_with (go_at_call 270;apply(Mg _).mono;rintro e y⟨rfl,rfl⟩)
   all_goals go_wp2
   all_goals(rw[Exit.noGoto_ret];simp[Exit.inBlock,Exit.then];rw[Exit.noGoto_ret])
   all_goals go_ret
   all_goals exact⟨rfl,ld.drew⟩
  let g:¬((b.size:Int)-1<2):=Z;go_enter func193,ntmps193;go_wp2_with (go_at_call 271;apply a.mono;rintro e w'⟨rfl,rfl⟩);go_step3;go_wp2;go_loopg [9] 1 (λgk m wr=>m=I ((b.size:Int)-1)/\wr=w');exact⟨rfl,rfl⟩
  case round=>obtain⟨rfl,rfl⟩:=hrel;let n:pm.size=2:=rfl;clear d c a f hv o p i j;go_wp2;rw[Exit.noGoto_ret];go_ret;exact⟨rfl,th⟩
 let a:=LF r j hv w;go_enter func193,ntmps193;go_wp2_with (go_at_call 271;apply a.mono;rintro e w'⟨rfl,rfl⟩);go_ret;exact⟨rfl,th⟩
section
open Go.ChangeShapes Go.WideShapes Go.ChangeAt Go.RowKit Go.Lib
def get_at(s:ByteArray)(p:Nat)(h:p<s.size):s.get! p=s[p]'(h):=by simp[ByteArray.get!,getElem!_pos,h];rfl
def xO(s:ByteArray)(a:Nat)(h:a<s.size)(ha:¬(s[a]'(h)).toNat<128)(k:Nat)(c:k<(Utf8.decode s a).2):a+k<s.size/\128<=(s.get! (a+k)).toNat:=by
 let e:s.get! (a+0)=s[a]'(h):=get_at s a h;simp only[Utf8.decode,e,ha,IL]at c;let f:k=0->a+k<s.size/\128<=(s.get! (a+k)).toNat:=λg=>by subst g;rw[e];exact⟨by simpa using h,Z⟩
 by_cases i:k=0;.exact f i
 repeat' split at c
 all_goals(try(simp at c;omega))
 all_goals(rename_i b j;simp only[Gi,Hj,beq_iff_eq]at b)
 .have d:k=1:=by simp at c;omega
  subst d;exact⟨b.2.1,by have:=b.2.2;omega⟩
 .let d:k=1\/k=2:=by simp at c;omega
  rcases d with rfl|rfl;.exact⟨b.1.2.1,by have:=b.1.2.2;omega⟩
  exact⟨b.2.1,by have:=b.2.2;omega⟩
 let d:k=1\/k=2\/k=3:=by simp at c;omega
 rcases d with rfl|rfl|rfl;.exact⟨b.1.1.2.1,by have:=b.1.1.2.2;omega⟩
 .exact⟨b.1.2.1,by have:=b.1.2.2;omega⟩
 exact⟨b.2.1,by have:=b.2.2;omega⟩
def AN(s:ByteArray)(a:Nat):0<(Utf8.decode s a).2:=by
 simp[Utf8.decode]
 repeat' split
 all_goals simp
def yr(l:List UInt8):Int:=if OY l<l.length then(OY l:Int)else -1
def yT:pm.data.toList=[43,45]:=rfl
def L9(l:List UInt8):Lib.indexAny l [43,45]=yr l:=by
 induction l with
 |nil=>rfl
 | cons b l c=>
  have d:([43,45]:List UInt8).contains b=yt b:=by simp only[yt,List.contains_cons,List.contains_nil,Bool.or_false];have a:(b==43)=(b.toNat==43):=(by rw[Bool.eq_iff_iff];simp;exact⟨λh=>by subst h;rfl,λh=>UInt8.toNat_inj.1 h⟩);have e:(b==45)=(b.toNat==45):=(by rw[Bool.eq_iff_iff];simp;exact⟨λh=>by subst h;rfl,λh=>UInt8.toNat_inj.1 h⟩);rw[a,e]
  rw[Lib.indexAny,d,c];unfold yr OY;rw[List.findIdx_cons];have e:l.findIdx yt<=l.length:=List.findIdx_le_length;cases yt b with
  |true=>simp
  |false=>
   by_cases a:l.findIdx yt<l.length;·simp[a]
   simp[a]
def Kr{l:List UInt8}{p:Nat}(h:∀k,k<n->∃b,l[p+k]?=some b/\yt b=false):p+(l.drop p).findIdx yt=p+n+(l.drop (p+n)).findIdx yt:=by
 induction n generalizing p with
 |zero=>simp
 | succ n d=>
  have⟨b,a,e⟩:=h 0 Z;have c:=(Fz.1 (by simpa using a)).1;have f:l.drop p=b::l.drop (p+1):=by rw[List.drop_eq_getElem_cons c];have:=Fy c;simp at a;rw[this]at a;simp at a;rw[a]
  rw[AX f,GO (by simp[e]),d (p:=p+1) (λk a=>by have:=h (k+1) Z;rw[show p+1+k=p+(k+1) by omega];exact this)]
  rw[show p+1+n=p+(n+1) by omega]
def Lq{b:UInt8}(h:128<=b.toNat):yt b=false:=by simp[yt,Bool.or_eq_false_iff,QF];omega
def Cs(s:ByteArray)(w:QM)(Y:s.size<=8):
  Calls prog 140 #[.string s,.string pm] w λe w'=>e=QJ (I (yr s.data.toList))/\D w w':=by
 have⟨l,a⟩:=Qb s.data.toList;have W:l.length=s.size:=by rw[a];simp
 have R:=H a;rw[<-a];clear a;have X:pm.size=2:=rfl;have B:(pm.toList==([]:List UInt8))=false:=by rw[Lib.toList_data,yT];rfl
 have N:decide ((8:Int)<(s.size:Int))=false:=bG;have a:=Any.strings_shouldUseASCIISet (P:=prog) (ρ:=Tryz.lays153_ren) {Tryz.lays153 with} ((s.size:Nat):Int) w;rw[N]at a;have F:QA 194 #[I (s.size:Int)] w λe w'=>e=QJ Qk/\w'=w:=a
 clear a;go_in;go_wp2_with (go_at_call 194;refine F.mono ?_;rintro e w'⟨rfl,rfl⟩);have⟨a,b⟩:=Qb (w'.heap.size);have x:(w'.iter s 0).heap[a]?=some (.stringIter s 0):=by rw[b];exact World.iter_heap _ _ _
 have y:Hid (D w' (w'.iter s 0)):=ph;rw[<-b];have O:=H b;clear b;go_loopw [] (λwr=>∃f:Nat,f<=s.size/\wr.heap[a]?=some (.stringIter s f)/\Hid (D w' wr)/\Hid (OY l=f+(l.drop f).findIdx yt)) (λwr=>s.size-wr.iterPos a);exact⟨0,aa,x,y,H (by simp[OY])⟩
 clear x y;have⟨f,hp,o,S,M⟩:=hrel;have G:=G_ o;have z:wr.iterPos a=f:=by simp[World.iterPos,o]
 by_cases g:f<s.size
 ·have u:=λb=>run_next_any_at (P:=prog) wr a s f b o g
  have q:∀p,(wr.iterAt a s p).heap[a]?=some (.stringIter s p):=λp=>iterAt_heap wr a s f p o
  have t:∀p,D w' (wr.iterAt a s p):=λp=>S.trans ⟨rfl,rfl,rfl,by simp[World.iterAt],λk T=>by have:=O.out;simp[World.iterAt,FK];intro e;omega⟩
  refine(let_mvar%?B:=s[f]'(g);?_);by_cases ha:(?B).toNat<128
  ·rw[decode_ascii s f g ha]at u;have K:=pL s f g;rw[<-R.out]at K;have c:=λn=>Any.strings_IndexRune_ascii (P:=prog) (ρ:=Tryz.lays153_ren) {Tryz.lays153 with} pm (((?B).toNat:Nat):Int) n Z Z
   refine(let_mvar%?A:=Lib.indexByte [43,45] ?B;?_);have v:∀n,QA 193 #[.string pm,.int .i32 (((?B).toNat:Nat):Int)] n λe w8=>e=QJ (I (?A))/\w8=n:=λn=>by have m:=c n;rw[yT,F0,show (?B).toNat.toUInt8=s[f]'(g)from UInt8.ofNat_toNat]at m;exact m
   clear c;have i:=AX K;cases j:yt ?B with
   | true=>
    obtain⟨d,r,A⟩:∃d:Int,?A=d/\0<=d:=⟨_,rfl,by
     simp only[yt,Bool.or_eq_true,beq_iff_eq]at j;rcases j with m|m;·rw[show s[f]'(g)=43 from UInt8.toNat_inj.1 m];decide
     rw[show s[f]'(g)=45 from UInt8.toNat_inj.1 m];decide⟩
    have Q:=H (show yr l=(f:Int) by unfold yr;rw[M,i,GP j,GP Z])
    rw[r]at v;clear r i j K z;go_wp2_with (go_at_call 193;refine(v _).mono ?_;rintro e w8⟨rfl,rfl⟩);go_ret;exact⟨by rw[Q];rfl,t _⟩
   | false=>
    have r:?A = -1:=by
     simp only[yt,Bool.or_eq_false_iff,QF]at j;have d:¬s[f]'(g)=43:=λe=>j.1 (by rw[e];rfl)
     have A:¬s[f]'(g)=45:=λe=>j.2 (by rw[e];rfl)
     simp[Lib.indexByte,Iq d,Iq A,d,A]
    have⟨A,L,d⟩:=Qe (show OY l=f+1+(l.drop (f+1)).findIdx yt by rw[M,i,GO (by simp[j])]) (t (f+1)) (q (f+1));rw[r]at v;clear r i j K t;go_wp2_with (go_at_call 193;refine(v _).mono ?_;rintro e w8⟨rfl,rfl⟩);go_roundw;(exact⟨f+1,Z,d,L,A⟩);case measure=>rw[z];simp[World.iterPos,d.out];omega
  have i:=vL s f g ha;have v:=decode_le s f;have d:=xO s f g ha;have⟨r,K⟩:=Qb ((Utf8.decode s f).1);have⟨sz,j⟩:=Qb ((Utf8.decode s f).2);have V:0<sz:=(by rw[j];exact AN s f);rw[<-K]at u i v;rw[<-j]at u d;clear K j;have c:∀n,QA 193 #[.string pm,.int .i32 (r:Int)] n λe w8=>e=QJ (I (-1))/\D n w8:=λn=>by
   by_cases m:r=65533;·rw[m];exact KD n
   exact Ke r i v m n
  have B:f+sz<=s.size:=(by have:=(d (sz-1) Z).1;omega);have A:=H (show OY l=f+sz+(l.drop (f+sz)).findIdx yt by
   rw[M];refine Kr λk T=>?_;have m:=d k T;refine⟨s[f+k]'(m).1,?_,Lq ?_⟩
   ·rw[R];simp[m.1];rfl
   rw[<-get_at s (f+k) m.1];exact m.2)
  have⟨j,K⟩:=y7 (t (f+sz)) (q (f+sz));have L:a<(wr.iterAt a s (f+sz)).heap.size:=(by simp[World.iterAt];exact G);clear d i t q;go_wp2_with fail;refine(c _).mono ?_;rintro e w8⟨rfl,i⟩;have⟨q,d⟩:=y7 (j.trans (i.mono j.size)) ((i.block a L).trans K);clear i c;go_wp2_with fail;go_roundw;(exact⟨f+sz,B,d,q,A⟩);case measure=>rw[z];simp[World.iterPos,d.out];omega
 have u:=λb=>run_next_end_at (P:=prog) wr a s f b o g
 have Q:=H (show yr l = -1 by unfold yr;rw[GO (by rw[M,List.drop_eq_nil_of_le Z];simp;omega)])
 go_wp2_with fail;go_ret;exact⟨by rw[Q];rfl,S⟩
def Jv:(prog.info? 309).map (λi=>(i.zero,i.size))=some (some (.agg (Array.replicate 256 Qk)),256):=E
def Mn(s:ByteArray)(w:QM)(b:s.size<=1048576):
  QA 140 #[.string s,.string pm] w λe w'=>e=QJ (I (yr s.data.toList))/\D w w':=by
 by_cases a:s.size<=8;·exact Cs s w a
 have h:=Any.strings_IndexAny_long (P:=prog) (ρ:=Tryz.lays153_ren) Tryz.lays153 (zero_of_info Jv).1 (zero_of_info Jv).2 s pm w ar Z Z ar (λj b a=>by
  rw[yT]at a;rcases j with _|_|j;·simp at a;subst a;decide
  ·simp at a;subst a;decide
  simp at a)
 apply Calls.mono h;rintro e w'⟨rfl,rfl⟩;rw[yT,L9];exact⟨rfl,((Fu _ w).alloc gi _).alloc bH _⟩
end
def ObW(B:Nat)(W:World)(v:Value)(l:List UInt8):Prop:=W.ownsRow B 5 1 v l.length (bv l)
def ObW.ky{S l}(h:ObW B W v l)(k:Ky S W W')(a:¬S 5):ObW B W' v l:=ai h k a
def ObW.below{B W W' v l}(h:ObW B W v l)(b:D W W'):ObW B W' v l:=ai h (Ky.below b:Ky (λ_=>False) W W') (λe=>e)
def ObW.nil(B W):ObW B W (C) []:=⟨rfl,.inl ⟨rfl,rfl⟩⟩
def ObW.tie{l}(h:ObW B W v l)(a:B<=W.heap.size)(g:W.grownBy W' v.ownBlock):Ky (· =5) W W'/\Below B W W':=
 ⟨Ky.grownO (λP b=>by obtain⟨_,c,d⟩:=aF h b;exact⟨c,5,_,d,rfl⟩) g,(Fu B W).grown g a (λr a=>(aF h a).1)⟩
def ApW(B:Nat)(W:World)(T:TypeId)(v u:Value)(l:List UInt8):Prop:=∃a m c W',(Builtin.append_ #[22,T] 22 #[v,u]).run prog W=.ok (.slice a m c) W'/\ObW B W' (.slice a m c) l/\Ky (· =5) W W'/\Below B W W'
def ApW.of{l b:List UInt8}(h:ObW B W v l)(d:B<=W.heap.size){T:QO}{u f:QN}(e:(Builtin.append_ #[22,T] 22 #[v,u]).run prog W=.ok f W')(i:n=(l++b).length)(o:W'.ownsRow B 5 1 f n (bv l++bv b))(g:W.grownBy W' v.ownBlock):ApW B W T v u (l++b):=by obtain⟨a,m,c,rfl,_⟩:=Re o;subst i;exact⟨a,m,c,W',e,by unfold ObW;rw[show bv (l++b)=bv l++bv b by simp[bv]];exact o,(h.tie d g).1,(h.tie d g).2⟩
def ObW.str{l}(h:ObW B W v l)(s:ByteArray)(f:B<=W.heap.size)(j:l.length+s.size<=2000000000):ApW B W 9 v (.string s) (l++s.data.toList):=by let⟨i,a,b,c,d⟩:=G0 ql.info;let⟨k,w',e,o,g,_⟩:=Lib.run_append_own_string (P:=prog) (w:=W) B 22 9 22 5 i ql.und underlying9 a b c d v _ _ h s (by unfold maxLen;omega) Z f;exact ApW.of h f e (by rw[FC];rfl) o g
def ObW.row{l}(h:ObW B W v l){l2}(r:RowV W g 5 (bv l2))(a:B<=W.heap.size)(f:l.length+l2.length<=2000000000):ApW B W 22 v (Vl g l2.length c) (l++l2):=by
 let⟨k,w',e,o,i⟩:=KZ ql h a (Qz g 0) l2.length c (bv l2) (by simp[bv]) (λj u b=>by let d:=(Fz.1 b).1;rwa[Addr.add_mid,Oi,r.cell j d]) (λu d=>by simp[bv]at d;obtain⟨b,_,rfl⟩:=d;rfl) f
 exact ApW.of h a e bH o i
def Jd(W:QM)(l):RowV (W.alloc (QL (bv l).toArray 5)) W.heap.size 5 (bv l):=⟨_,XD,bH⟩
def ObW.one{l}(h:ObW B W v l)(a:List UInt8)(b:B<=W.heap.size)(c:l.length+a.length<=2000000000):ApW B (W.alloc (QL (bv a).toArray 5)) 22 v (Vl W.heap.size a.length a.length) (l++a):=
 (h.below ph).row (Jd W a) (Fx b ((Fu W.heap.size W).alloc gi _).size) c
def K6(n):dec n=if n<10 then[UInt8.ofNat (48+n)]else dec (n/10)++[UInt8.ofNat (48+n%10)]:=by unfold dec;rw[Lib.decDigits];split<;>rfl
def kX(n:Nat)(h:n<18446744073709551616):(dec n).length<=20/\0<(dec n).length:=by
 unfold dec;rw[Lib.decDigits_length];let a:0<Lib.nDigits n:=by rw[Lib.nDigits];split<;>omega
 refine⟨?_,a⟩;by_cases b:1<=n;.have:=Lib.numDigits_eq n b h;split at this<;>omega
 obtain rfl:n=0:=Z;rw[Lib.nDigits];simp
def NA{k:Nat}(h:k<256):bv [UInt8.ofNat k]=[.int .u8 (k:Int)]:=by simp[bv];omega
def ObW.new(w:QM)(l:List UInt8)(a:l.length<=2000000000):ObW w.heap.size (w.alloc (QL (bv l).toArray 5)) (Vl w.heap.size l.length l.length) l:=⟨by simp[bv],.inr ⟨w.heap.size,l.length,(bv l).toArray,rfl,gi,XD,gi,by unfold maxLen;omega,by simp[bv],by rw[List.toList_toArray,Nat.mul_one,<-rb,G9]⟩⟩
def ObW.isS{a:QP}{m:Nat}{l}(h:ObW B W (.slice a m c) l)(d:l≠[]):∃g,a=some (Qz g 0)/\m=l.length:=by
 rcases h.2 with⟨_,e⟩|⟨g,f,i,b,_⟩;.exact absurd (Ik e) d
 injection b with b j k;exact⟨g,b,j⟩
end
section
variable {B B0 R S k n:Nat}{W W' w w':World}{bd dv ov v v1 v2:Value}{xs:List Value}{e:TypeId}
def jx:List Value:=[I 0,I 0,I 0,I 0,U 0,C]
structure St5(B0:Nat)(w W:QM)(C R:Nat)(c:Jh)(dv:QN):Prop where
 r:Bx W R 27 jx
 bx:Bx W C 27 (OD c dv)
 dt:W.ownsRow B0 3 1 dv c.draws.length (iv c.draws)
 bel:D w W
 ge:w.heap.size<=C/\w.heap.size<=R
 ne:C≠R
def St5.mk0(w:QM)(c:Jh)(dv:QN)(h:w.ownsRow B0 3 1 dv c.draws.length (iv c.draws)):St5 B0 w ((w.alloc (QL (OD c dv).toArray 27)).alloc (QL jx.toArray 27)) w.heap.size (w.heap.size+1) c dv:=by
 let b:(w.alloc (QL (OD c dv).toArray 27)).heap.size=w.heap.size+1:=bH;let a:=((Fu w.heap.size w).alloc gi (QL (OD c dv).toArray 27)).alloc Z (QL jx.toArray 27);refine⟨?_,?_,own_below h a,a,Z,Z⟩;.unfold Bx;rw[<-b,ao]
 unfold Bx;rw[eg _ _ _ Z,ao]
def St5.below{B0 w W W' C R c dv}(h:St5 B0 w W C R c dv)(a:D W W'):St5 B0 w W' C R c dv:=
 ⟨h.r.below a h.r.lt,h.bx.below a h.bx.lt,own_below h.dt a,h.bel.trans (a.mono h.bel.size),h.ge,h.ne⟩
def St5.set{B0 w W C R c}{c':Jh}{dv}(h:St5 B0 w W C R c dv)(i:Nat)(v:QN)(b:c'.draws=c.draws)(d:(OD c dv).set i v=OD c' dv):St5 B0 w (W.setCell (Qz C i) v) C R c' dv:=by let a:=h.bx.set i v;rw[d]at a;exact⟨h.r.other (Iq h.ne) v,a,b▸fY h.dt (h.bx.apart h.dt ar) v,h.bel.setCell h.ge.1 v,h.ge,h.ne⟩
def St5.grow{C c}{a:QN}(h:St5 B0 w W C R c dv)(b:W.grownBy W' a.ownBlock)(d:W.ownsRow w.heap.size 3 1 a n xs)(f:∀r,dv.ownBlock=some r->r<w.heap.size):St5 B0 w W' C R c dv:=
 ⟨h.r.grown b (h.r.apart d ar),h.bx.grown b (h.bx.apart d ar),h.dt.kept b (by
  cases e:dv.ownBlock with
  |none=>exact .inl rfl
  |some r=>exact .inr (λa=>by have:=f r e;have:=(d.lt r a.symm).1;omega)),h.bel.grown b h.bel.size (λr e=>(d.lt r e).1),h.ge,h.ne⟩
def St5.drawn{a b:QM}{C c}{ns:List Int}{n:Nat}{o:List QN}(h:St5 B0 w W C R c dv)(d:W.grownBy a none)(f:a.ownsRow w.heap.size 3 1 v1 n o)(g:a.grownBy b v1.ownBlock)(i:b.ownsRow w.heap.size 3 1 v2 (c.draws++ns).length (iv (c.draws++ns)))(p:B0<=w.heap.size):
  St5 B0 w (b.setCell (Qz C 5) v2) C R {c with draws:=c.draws++ns} v2:=by
 have j:=h.r.grown d (λe=>by cases e);have k:=h.bx.grown d (λe=>by cases e);have q:=j.grown g (j.apart f ar);have l:=k.grown g (k.apart f ar);have m:=h.bel.grown d h.bel.size (λr e=>by cases e);have s:=m.grown g m.size (λr e=>(f.lt r e).1);exact⟨q.other (Iq h.ne) v2,by simpa[OD]using l.set 5 v2,ia (fY i (l.apart i ar) v2) p,s.setCell h.ge.1 v2,h.ge,h.ne⟩
def Nz(B0 i:Nat)(W:World)(c':Jh)(ok:Bool)(v e dv:Value):Prop:=v=.tuple #[.agg (OD c' dv).toArray,.bool ok]/\W.ownsRow B0 3 1 dv c'.draws.length (iv c'.draws)/\(dv=e\/∀r,dv.ownBlock=some r->i<=r)
structure On(B0:Nat)(w W:QM)(R C:Nat)(c:Jh)(dv:QN):Prop where
 r:W.heap[R]?=some (QL jx.toArray 27)
 o:W.heap[C]?=some (QL (OD c dv).toArray 27)
 q:(W.setRow R (OD c dv).toArray).heap[R]?=some (QL (OD c dv).toArray 27)
 b:D w (W.setRow R (OD c dv).toArray)
 d:(W.setRow R (OD c dv).toArray).ownsRow B0 3 1 dv c.draws.length (iv c.draws)
def St5.fin{C c}(h:St5 B0 w W C R c dv):On B0 w W R C c dv:=
 ⟨h.r,h.bx,setRow_heap W R _ (OD c dv).toArray 27 (0,0) h.r,below_setRow h.bel h.ge.2 _,dG h.dt (h.r.apart h.dt ar) _⟩
def BZ{p X Y a:Prop}(x:X)(y:Y)(z:a)(f:X->Y->a->p:=by(
 intro x y z
 go_wp2_with (first|(refine Rl rfl 27 _ rfl _ rfl 27 _ (0,0) _ y.o underlying27 rfl E ?_)|(refine Gf rfl 27 _ _ rfl _ _ rfl rfl 27 _ y.r E rfl (by first|exact nF|simp[Value.oneCell',OD]) ?_))
 apply GX (de dU _ 27 (0,0) dU y.q underlying27 rfl E) dU
 rw[x]
 exact⟨_,rfl,⟨_,rfl,y.d,by first|exact .inl rfl|exact .inr z⟩,y.b⟩)):p:=f x y z
def Mo(c:Jh)(dv:QN)(v q B)(B0:Nat)(w)(b:Ws B w v q)(a5:0<q.length)(hl:q.length<=1048576)(F:∀x∈q,x.length<=1048576)(a:w.ownsRow B0 3 1 dv c.draws.length (iv c.draws))(b2:B0<=w.heap.size)(b9:c.draws.length<=1000000000):
  Calls prog 20 #[.agg (OD c dv).toArray,v] w λe w'=>∃r,e=QJ r/\(∃d,Nz B0 w.heap.size w' ((ij c q).getD c) (ij c q).isSome r dv d)/\D w w':=by
 obtain⟨g,qc,rfl,hg,b3⟩:∃g qc,v=Vl g q.length qc/\g<w.heap.size/\q.length<=qc:=by
  rcases b.2 with⟨rfl,h0⟩|⟨g,d,f,rfl,hg,i,h3,_⟩;.omega
  exact⟨g,d,rfl,G_ i,h3⟩
 have HQ:=H (λ(W:QM)(hb:D w W)(k:Nat)(hk:k<q.length)=>(show W.cell? (Qz g k)=some (.string (bs (q.getD k []))) by rw[hb.cell hg];exact Ex b rfl hk));have a6:=H (λ(k:Nat)(hk:k<q.length)=>(show(q.getD k []).length<=1048576 by
  have:q.getD k []=q[k]:=by simp[hk]
  rw[this];exact F _ (Iw hk)))
 have⟨m,d⟩:=Qa q.length;rw[d]at a5 hl b3⊢;have T:=H d;clear b d F;obtain⟨R,S,Q,rfl,b⟩:=Re a;clear b;have j:=H (St5.mk0 w c (.slice R S Q) a);have⟨W5,b⟩:=Qb ((w.alloc (QL (OD c (.slice R S Q)).toArray 27)).alloc (QL jx.toArray 27));rw[<-b]at j;have a7:=HQ.out w th 0 (by rw[T];exact a5);have⟨V,d⟩:=Qb (bs (q.getD 0 []));rw[<-d]at a7;have M:=H (show q.headD []=V.toList by rw[d,Lib.toList_data,kO];cases q<;>simp);clear d;have⟨X,b4⟩:=y7 b (show∀r,(Value.slice R S Q).ownBlock=some r->r<w.heap.size from λr e=>(a.lt r e).2);have Y:=H (λ(W:QM)(hb:D w W)=>(show W.cell? (Qz g 0)=some (.string V) by rw[hb.cell hg];exact a7));clear b a;go_in;by_cases x2:V.toList=[107,101,121]/\m=2
 ·have⟨x1,x2⟩:=x2;subst x2;have b:=T.out;have KT:=H (show q.headD []=qT/\q.length=2 from⟨by rw[M];exact x1,T⟩);have a3:(V.toList==[107,101,121])=true:=by rw[beq_iff_eq];exact x1
  have a:=HQ.out w th 1 (by rw[T];omega);have F:=a6.out 1 (by rw[T];omega);clear b;have⟨o,y⟩:=Qb (q.getD 1 []);rw[<-y]at a F;have K:=H (show ij c q=(yf o).map (λk:Nat=>{c with key:=k}) by rw[ij,GP KT.out,y]);clear y;have⟨b,G⟩:=Qb (bs o);rw[<-G]at a;have a1:b.size<=1048576:=by rw[G,gz];exact F
  have⟨a2,N⟩:=y7 (show b.data.toList=o by rw[G,kO]) (show o.length=b.size by rw[G,gz]);clear G F;by_cases hA:oK o=true/\0<b.size
  ·have f:=IZ b W5 a1 (by rw[a2];exact hA.1) hA.2;rw[a2]at f;go_wp2_with fail;rw[X]at f;refine f.mono ?_;rintro e w'⟨hg,hc,rfl,i,x,u⟩;rw[<-X.out]at i u;have⟨L,d⟩:=y7 (j.below u) x;have a8:=H (show¬hg=w.heap.size by have:=j.bx.lt;omega);have b6:=H (show¬w.heap.size=hg by have:=j.bx.lt;omega);have⟨HA,b0⟩:=y7 hA.1 hA.2;clear f x u hA i;by_cases i:16<b.size
   ·have A:=H (show ij c q=none by rw[K,Lg (by rw[N];exact i)];rfl);have O:=H L.fin;(go_upto_region 4 with fail);exact BZ A O A
   have A:=H (show ij c q=some {c with key:=oC o 0} by rw[K,Ma HA (by rw[N];exact b0) (by rw[N];omega)];rfl);refine(let_mvar%?B:=Qz w.heap.size 4;?_);have c4:=L.bx.cell 4;have f4:=L.bx.free 4;have⟨H7,P⟩:=y7 (L.set (c':={c with key:=0}) 4 (U 0) rfl rfl) (d.other (p:=?B) a8 (U 0));have b7:=Z;go_wp2_with fail;go_loopw [42] (λi wr=>∃(k:Nat),k<=b.size/\i=I (k:Int)/\Hid (St5 B0 w wr w.heap.size (w.heap.size+1) {c with key:=oC (o.take k) 0} (.slice R S Q))/\Hid (RowV wr hg 5 (hv o))) (λi _=>b.size-(intOf i).toNat);(case atStart=>exact⟨0,aa,rfl,H7,P⟩);obtain⟨k,hk,rfl,H7,P⟩:=hrel;by_cases a4:k<b.size
   ·have c6:=Dd P k (by rw[N];exact a4);have c4:wr.cell? ?B=some (U ((oC (o.take k) 0:Nat):Int)):=H7.bx.cell 4;have f4:=H7.bx.free 4;have b8:=Jl HA k;have c7:oC (o.take k) 0<1152921504606846976:=by have h1:=Jr (o.take k) 0 (J4 HA k);rw[Oi,GF]at h1;have h2:16 ^ (o.take k).length<=16 ^ 15:=Nat.pow_le_pow_right Z (by rw[Hm];omega);have h3:(16:Nat) ^ 15=1152921504606846976:=ar;omega
    have d:k<o.length:=(by rw[N];exact a4);have a0:oC (o.take (k+1)) 0=oC (o.take k) 0*16+(iN o).getD k 0:=by rw[JW o k o[k] 0 (List.drop_eq_getElem_cons d)];simp[iN,d]
    refine(let_mvar%?A:=(U ((oC (o.take k) 0:Nat)*16+(((iN o).getD k 0:Nat):Int)));?_);have H8:Hid (St5 B0 w (wr.setCell ?B ?A) w.heap.size (w.heap.size+1) {c with key:=oC (o.take (k+1)) 0} (.slice R S Q)):=(H7.set (c':={c with key:=oC (o.take (k+1)) 0}) 4 ?A rfl (by simp only[a0,OD];rfl));have b5:=H (P.other (p:=?B) a8 ?A);generalize oC (o.take k) 0=z at*;generalize (iN o).getD k 0=d at*;go_wp2_with fail;go_roundw;(exact⟨k+1,Z,aY,H8,b5⟩);exact QE
   have d:=H (show St5 B0 w wr w.heap.size (w.heap.size+1) {c with key:=oC o 0} (.slice R S Q) by have h1:=H7.out;rw[Ge (by rw[N];omega)]at h1;exact h1)
   have O:=H d.fin;(go_upto_region 11 with fail);exact BZ A O A
  have A:=H (show ij c q=none by rw[K,MP (by rw[N];exact hA)];rfl);have f:=I_ b W5 a1 (by rw[a2];exact hA);go_wp2_with fail;rw[X]at f;refine f.mono ?_;rintro e w'⟨ha,hc,rfl,u⟩;rw[<-X.out]at u;have L:=H (j.below u);have O:=H L.fin;go_upto_region 4 with fail
  exact BZ A O A
 have NK:Hid (¬(q.headD []=qT/\q.length=2)):=(λh=>x2 ⟨by rw[<-M.out];exact h.1,by rw[<-T.out];exact h.2⟩);have hb:(V.toList==[107,101,121])=false\/(V.toList==[107,101,121])=true/\((m:Int)==2)=false:=by
  by_cases x1:V.toList=[107,101,121];·exact .inr ⟨by rw[beq_iff_eq];exact x1,by rw[QF];intro h;exact x2 ⟨x1,Z⟩⟩
  exact .inl (by rw[QF];exact x1)
 clear x2;rcases hb with a3|⟨a3,N⟩<;>by_cases b5:qc=1
 all_goals
  try subst b5
  go_wp2
  try simp[a3]
  try simp[N]
  refine Eq.mp (congrArg _ X) ?_
  go_loopw [10,58] (λd i wr=>∃(k:Nat)(f:List Int),k<=m-1/\i=I (k:Int)/\f.length=k/\Hid (dw q.tail=(dw (q.tail.drop k)).map (f ++ ·))/\Hid (wr.ownsRow w.heap.size 3 1 d f.length (iv f))/\Hid (St5 B0 w wr w.heap.size (w.heap.size+1) c (.slice R S Q))) (λ_ i _=>m-1-(intOf i).toNat)
  exact⟨0,[],aa,rfl,rfl,H bH,H ⟨by simp[iv],.inl ⟨rfl,rfl⟩⟩,j⟩
  clear j;obtain⟨k,f,hk,rfl,P,HI,u,j⟩:=hrel;by_cases a4:k<m-1
  ·try(exfalso;omega)
   all_goals
    have a1:1+k<m:=Z
    have a:=HQ.out _ j.bel (1+k) (by rw[T];omega)
    have F:=a6.out (1+k) (by rw[T];omega)
    have⟨o,y⟩:=Qb (q.getD (1+k) [])
    rw[<-y]at a F
    have a0:dw (q.tail.drop k)=(tJ o).bind λn=>(dw (q.tail.drop (k+1))).map (n:: ·):=by
     have d:k<q.tail.length:=(by rw[List.length_tail,T];omega);rw[List.drop_eq_getElem_cons d,dw,y];have:q.tail[k]=q.getD (1+k) []:=by have h9:k+1<q.length:=(by rw[T];omega);rw[Nat.add_comm 1 k];simp[h9]
     rw[this]
    have z:=H a0
    clear a0 y
    have⟨b,G⟩:=Qb (bs o)
    rw[<-G]at a
    have K:=Kx b wr (by rw[G,gz];exact F)
    rw[show b.data.toList=o by rw[G,kO]]at K
    clear G F
    cases d:tJ o with
    |none=>
     have A:=H (show ij c q=none by rw[ij,GO NK.out,HI,z,d];rfl);rw[d]at K;clear d HI u;have K:QA 44 #[.string b] wr λe w'=>e=QJ (.tuple #[I 0,.bool false])/\w'=wr:=K
     have O:=H j.fin;clear j;go_upto_region 18 with(go_at_call 44;refine K.mono ?_;rintro e w'⟨rfl,rfl⟩)
     exact BZ A O A
    | some n=>
     rw[d]at K;have K:QA 44 #[.string b] wr λe w'=>e=QJ (.tuple #[I n,.bool true])/\w'=wr:=K
     have a2:f.length<=2000000:=Z;have⟨v1,w1,e1,o1,b1⟩:=DL tE u j.bel.size #[I n] rfl mL a2;have L:Hid (St5 B0 w w1 w.heap.size (w.heap.size+1) c (.slice R S Q)):=j.grow b1 u b4;have O1:=H (show w1.ownsRow w.heap.size 3 1 v1 (f++[n]).length (iv (f++[n])) by rw[show iv (f++[n])=iv f++[I n] by simp[iv],FC];exact o1);have a8:=H (show dw q.tail=(dw (q.tail.drop (k+1))).map ((f++[n]) ++ ·) by rw[HI,z,d];cases dw (q.tail.drop (k+1))<;>simp)
     clear d HI z u o1 b1 j a2;go_wp2_with (first|(go_at_call 44;refine K.mono ?_;rintro e w'⟨rfl,rfl⟩)|(at_builtin;refine up e1 ?_));go_roundw;(exact⟨k+1,f++[n],Z,aY,by simp[P],a8,O1,L⟩);exact QE
  have HN:=H (show dw q.tail=some f by rw[HI,List.drop_eq_nil_of_le (by rw[List.length_tail,T];omega)];simp[dw])
  have a1:k=m-1:=Z;clear HI;by_cases y1:V.toList=[104,101,97,112]
  ·have a8:=Y.out _ j.bel;obtain⟨na,nn,nc,rfl,a2⟩:=Re u;have z:=H a2;clear a2;by_cases h4:nn=4
   ·subst h4;obtain⟨d,rfl,b8⟩:∃d,na=some (Qz d 0)/\w.heap.size<=d:=by
     rcases u.2 with⟨h9,_⟩|⟨g9,Q,c6,h9,b6,_⟩;·cases h9
     simp[Value.slice.injEq]at h9;exact⟨g9,h9.1,b6⟩
    have x:∀i,i<4->wr.cell? (Qz d i)=some (I (f.getD i 0)):=λi hi=>by have h0:=u.out;rw[<-z.out]at h0;have h1:=(RowV.ofOwns h0).cell i (by rw[iv,Gz];have:=z.out;omega);rw[h1];have h2:i<f.length:=(by have:=z.out;omega);simp[iv,h2]
    have n0:=x 0 Z;have n1:=x 1 Z;have n2:=x 2 Z;have n3:=x 3 Z;have c0:wr.cell? (Qz w.heap.size 0)=some (I c.mix):=j.bx.cell 0;have c1:wr.cell? (Qz w.heap.size 1)=some (I c.fifo):=j.bx.cell 1;have c2:wr.cell? (Qz w.heap.size 2)=some (I c.large):=j.bx.cell 2;have c3:wr.cell? (Qz w.heap.size 3)=some (I c.budget):=j.bx.cell 3;have c4:wr.cell? (Qz w.heap.size 4)=some (U (c.key:Int)):=j.bx.cell 4;have c5:wr.cell? (Qz w.heap.size 5)=some (.slice R S Q):=j.bx.cell 5;have f0:=j.bx.free 0;have f1:=j.bx.free 1;have f2:=j.bx.free 2;have f3:=j.bx.free 3;have b0:¬d=w.heap.size:=λe=>by have⟨x9,K⟩:=ts u (r:=d) rfl;have h8:=j.bx;unfold Bx at h8;rw[e,h8]at K;simp at K
    have b7:¬w.heap.size=d:=λe=>b0 e.symm
    have A:=H (show ij c q=some {c with mix:=f.getD 0 0,fifo:=f.getD 1 0,large:=f.getD 2 0,budget:=f.getD 3 0} by rw[ij,GO NK.out,HN,Option.bind_some,GP ⟨by rw[M];exact y1,z.symm⟩])
    have L:=H ((((j.set (c':={c with mix:=f.getD 0 0}) 0 (I (f.getD 0 0)) rfl rfl).set (c':={c with mix:=f.getD 0 0,fifo:=f.getD 1 0}) 1 (I (f.getD 1 0)) rfl rfl).set (c':={c with mix:=f.getD 0 0,fifo:=f.getD 1 0,large:=f.getD 2 0}) 2 (I (f.getD 2 0)) rfl rfl).set (c':={c with mix:=f.getD 0 0,fifo:=f.getD 1 0,large:=f.getD 2 0,budget:=f.getD 3 0}) 3 (I (f.getD 3 0)) rfl rfl);clear u j x P a1;generalize f.getD 0 0=z0 at*;generalize f.getD 1 0=z1 at*;generalize f.getD 2 0=z2 at*;generalize f.getD 3 0=z3 at*;go_upto_region 26 with(fail)
    have⟨W9,K⟩:=Qb ((((wr.setCell (Qz w.heap.size 0) (I z0)).setCell (Qz w.heap.size 1) (I z1)).setCell (Qz w.heap.size 2) (I z2)).setCell (Qz w.heap.size 3) (I z3));rw[<-K]at L;refine Eq.mp (congrArg _ K) ?_;clear K;have O:=H L.fin;exact BZ A O A
   have d:((nn:Int)==4)=false:=(by rw[QF];omega);have A:=H (show ij c q=none by rw[ij,GO NK.out,HN,Option.bind_some,GO (λh=>h4 (by rw[z];exact h.2)),GO (by rw[M,y1];decide)]);clear u h4 P a1;have O:=H j.fin;clear j;(go_upto_region 30 with fail);exact BZ A O A
  by_cases z:V.toList=[100,114,97,119,115]
  ·have a8:=Y.out _ j.bel;obtain⟨na,nn,nc,rfl,a2⟩:=Re u;clear a2;have c5:wr.cell? (Qz w.heap.size 5)=some (.slice R S Q):=j.bx.cell 5;have A:=H (show ij c q=some {c with draws:=c.draws++f} by rw[ij,GO NK.out,HN,Option.bind_some,GO (by rw[M,z];simp[pH]),GP (by rw[M,z];rfl)]);have⟨v1,w1,e1,o1,d⟩:=LG tE (B:=w.heap.size) (v:=C) (n:=0) (xs:=[]) ⟨bH,.inl ⟨rfl,rfl⟩⟩ j.bel.size j.dt (ze) Z;have b0:wr.heap.size<=w1.heap.size:=d.size;have⟨v2,w2,e2,o2,g2⟩:=LG tE o1 (by have:=j.bel.size;omega) (u.kept d (by
    cases e9:(Value.slice na nn nc).ownBlock with
    |none=>exact .inl rfl
    |some r=>exact .inr (λh=>by cases h))) (ze) (by have:=P;omega)
   have L:=H (j.drawn (ns:=f) d o1 g2 (by rw[show iv (c.draws++f)=([]++iv c.draws)++iv f by simp[iv],FC];simpa using o2) b2);have N:Bx w2 w.heap.size 27 (OD c (.slice R S Q)):=(j.bx.grown d (λh=>by cases h)).grown g2 ((j.bx.grown d (λh=>by cases h)).apart o1 ar);have b8:w2.cell? (Qz w.heap.size 5)=some (.slice R S Q):=N.cell 5;have c6:=N.free 5;obtain⟨va,vm,vc,rfl,b6⟩:=Re o2;have b7:Hid (∀r,(Value.slice va vm vc).ownBlock=some r->w.heap.size<=r):=λr e=>(o2.lt r e).1;clear u j P a1 o1 d o2 g2 N b0 b6;go_upto_region 29 with(first|(at_builtin;refine up e1 ?_;clear e1)|(at_builtin;refine up e2 ?_;clear e2))
   have⟨W9,K⟩:=Qb (w2.setCell (Qz w.heap.size 5) (.slice va vm vc));rw[<-K]at L;refine Eq.mp (congrArg _ K) ?_;clear K;have O:=H L.fin;exact BZ A O b7
  have d:=H (show¬q.headD []=pH by rw[M];exact y1);have ND:=H (show¬q.headD []=mu by rw[M];exact z);have b0:(V.toList==[104,101,97,112])=false:=(by rw[QF];exact y1);have b6:(V.toList==[100,114,97,119,115])=false:=(by rw[QF];exact z);have a8:=Y.out _ j.bel;have A:=H (show ij c q=none by rw[ij,GO NK.out,HN,Option.bind_some,GO (λh=>d.out h.1),GO ND.out]);clear u;have O:=H j.fin;clear j;(go_upto_region 30 with fail);exact BZ A O A
structure rP where
 cf:Jh
 ops:List sT
 bad:List Int
def rZ(i:Nat)(l:List UInt8)(s:rP):rP:=
 if cE l []=[]then s else
  match tu (cE l [])with
  |some o=>{s with ops:=s.ops++[o]}
  |none=>match ij s.cf (cE l [])with
   |some c=>{s with cf:=c}
   |none=>{s with bad:=s.bad++[((i+1:Nat):Int)]}
def gJ:List (List UInt8)->Nat->rP->rP
 |[],_,s=>s
 |l::r,i,s=>gJ r (i+1) (rZ i l s)
def ik:rP:=⟨⟨2,4,2,100,1,[]⟩,[],[]⟩
def BK:rP:=⟨⟨0,0,0,0,0,[]⟩,[],[]⟩
def kI(t:List UInt8):rP:=if 20000<t.length then BK else gJ (kn t []) 0 ik
def O4:∀(l cur:List UInt8),(cE l cur).length<=l.length+1
 |[],cur=>by unfold cE;split<;>simp
 |c::r,cur=>by
  unfold cE
  let a:=O4 r []
  let b:=O4 r (cur++[c])
  split
  .split<;>simp<;>omega
  simp;omega
def r_:∀(l cur x:List UInt8),x∈cE l cur->x.length<=l.length+cur.length
 |[],cur,x,h=>by
  unfold cE at h
  split at h
  .cases h
  simp at h;subst h;simp
 | c::r,cur,x,h=>by
  unfold cE at h
  split at h
  .split at h
   .have:=r_ r [] x h;simp at this⊢;omega
   rcases F4.1 h with h|h
   .subst h;simp
   have:=r_ r [] x h;simp at this⊢;omega
  have:=r_ r (cur++[c]) x h;simp at this⊢;omega
def Rh:∀(l cur x:List UInt8),x∈kn l cur->x.length<=l.length+cur.length
 |[],cur,x,h=>by cases h
 | c::r,cur,x,h=>by
  rw[OW]at h
  split at h
  .rcases F4.1 h with h|h
   .subst h;simp
   have:=Rh r [] x h;simp at this⊢;omega
  split at h
  .simp at h;subst h;simp;omega
  have:=Rh r (cur++[c]) x h;simp at this⊢;omega
def OX:∀(l cur:List UInt8),(kn l cur).length<=l.length
 |[],cur=>by simp[kn]
 |c::r,cur=>by
  rw[OW]
  let a:=OX r []
  let b:=OX r (cur++[c])
  split
  .simp;omega
  split<;>simp<;>omega
def xA:∀(ws:List (List UInt8))(ns:List Int),dw ws=some ns->ns.length=ws.length
 |[],ns,h=>by simp[dw]at h;subst h;rfl
 | w::r,ns,h=>by
  unfold dw at h
  cases a:tJ w with
  |none=>rw[a]at h;cases h
  | some n=>
   cases b:dw r with
   |none=>rw[a,b]at h;cases h
   |some m=>
    rw[a,b]at h
    simp at h
    subst h
    simp[xA r m b]
def AC{c}{b:Jh}{q}(h:ij c q=some b):b.draws.length<=c.draws.length+q.length:=by
 unfold ij at h;split at h
 .cases a:yf (q.getD 1 [])with
  |none=>rw[a]at h;cases h
  |some k=>rw[a]at h;simp at h;subst h;simp
 cases a:dw q.tail with
 |none=>rw[a]at h;cases h
 |some e=>
  rw[a,Option.bind_some]at h;let d:=xA _ _ a;rw[List.length_tail]at d;split at h;.simp at h;subst h;simp
  split at h;.simp at h;subst h;simp;omega
  cases h
def K2(W W':World):Prop:=W.heap.size<=W'.heap.size/\∀(g:Nat)(x:Array Value)(t:TypeId),W.heap[g]?=some (.cells x t)->(t=22\/t=5\/t=9)->W'.heap[g]?=some (.cells x t)
def K2.refl(W):K2 W W:=⟨gi,λ_ _ _ h _=>h⟩
def K2.trans{A B C}(h:K2 A B)(k:K2 B C):K2 A C:=⟨Fx h.1 k.1,λg x t b a=>k.2 g x t (h.2 g x t b a) a⟩
def K2.below(h:D W W'):K2 W W':=⟨h.size,λg x t a _=>by rwa[h.block g (G_ a)]⟩
def K2.grown{sz:Nat}(h:W.grownBy W' v.ownBlock)(c:W.ownsRow B e sz v n xs)(d:¬(e=22\/e=5\/e=9)):K2 W W':=⟨h.size,λg x t a f=>by
 rwa[h.block g (G_ a) (λq=>by
  let⟨y,b⟩:=ts c q.symm
  rw[a]at b
  simp at b
  exact d (b.2▸f))]⟩
def K2.row{g cs}(h:Bx W g e cs)(b:¬(e=22\/e=5\/e=9))(c:Array QN):K2 W (W.setRow g c):=⟨bH,λk x t a d=>by
 rw[setRow_other _ _ _ _ (λq=>by
  subst q
  unfold Bx at h
  rw[h]at a
  simp at a
  exact b (a.2▸d))];exact a⟩
def Lns.keep{ls}(h:Lns B W v ls)(k:K2 W W'):Lns B W' v ls:=by
 have⟨ps,f,e,i⟩:=h;refine⟨ps,f,⟨e.1,?_⟩,λp j=>?_⟩
 ·rcases e.2 with b|⟨g,c,d,rfl,l,m,a⟩;·exact .inl b
  exact .inr ⟨g,c,d,rfl,l,k.2 g _ _ m (.inl rfl),a⟩
 rcases i p j with b|⟨g,c,a,d,⟨x,l,m⟩⟩;·exact .inl b
 exact .inr ⟨g,c,a,⟨by have:=k.1;omega,d.2⟩,x,k.2 g _ _ l (.inr (.inl rfl)),m⟩
def K2.own(k:K2 W W'){sz:Nat}(h:W.ownsRow B e sz v n xs)(d:e=22\/e=5\/e=9):W'.ownsRow B e sz v n xs:=by
 refine⟨h.1,?_⟩;rcases h.2 with f|⟨g,b,c,rfl,i,j,a⟩;.exact .inl f
 exact .inr ⟨g,b,c,rfl,i,k.2 g _ _ j d,a⟩
def Ni{T z sz bb}(S:Kt T e z sz bb)(f:W.ownsRow B e sz v n xs)(A:B<=W.heap.size)(c:Array QN)(q:c.size=sz)(r:∀u∈c.toList,u.oneCell'=true)(F:n<=2000000):
  ∃d w',(Builtin.append_ #[T,T] T #[v,Vl W.heap.size 1 1]).run prog (W.alloc (QL c e))=.ok d w'/\w'.ownsRow B e sz d (n+1) (xs++c.toList)/\W.grownBy w' v.ownBlock/\(d.ownBlock=v.ownBlock\/d.ownBlock=some (W.heap.size+1)):=by
 refine(let_mvar%?A:=W.alloc (QL c e);?_);have a:(?A).ownsRow B e sz v n xs:=f.alloc _;have i:(?A).heap.size=W.heap.size+1:=bH;have⟨s,j,l,m,o⟩:=G0 S.info;have t:(n+1)*bb<=2000001*100:=Nat.mul_le_mul Z S.small;have⟨d,w',w,x,g,_,p⟩:=run_append_own_at (P:=prog) ?A B T T e s _ sz bb S.und j l m o S.cells S.pos v n _ a (Qz W.heap.size 0) 1 1 c.toList (by simp[q]) (λj u a=>by have b:(?A).heap[W.heap.size]?=some (QL c e):=XD;rw[Addr.add_mid,Oi,GT _ _ j _ _ _ b];simpa using a) r (by unfold maxLen;omega) Z Z
 refine⟨d,w',w,x,⟨g.os,g.tape,g.output,by have:=g.size;omega,λk y b=>?_⟩,by rw[i]at p;exact p⟩;rw[g.block k Z b,eg _ _ _ y]
def MY{v}(q){B}(w)(c:Ws B w v q)(a:0<q.length)(d:q.length<=1048576)(b:∀x∈q,x.length<=1048576):
  QA 19 #[v] w λe w'=>∃r,e=QJ r/\Nx w w' (tu q) r/\D w w':=by
 cases h:OV 6 q with
 |false=>exact Mq v q B w c a d b h
 |true=>exact MX v q B w c a d b h
def wX(ps:List (sT×Value)):List Value:=ps.flatMap λp=>opC p.1 p.2
def zE(ps:List (sT×QN))(p:sT×QN):wX (ps++[p])=wX ps++opC p.1 p.2:=by simp[wX]
structure Res(B:Nat)(W:QM)(s:rP)(dv ov bd:QN)(ps:List (sT×QN)):Prop where
 dt:W.ownsRow B 3 1 dv s.cf.draws.length (iv s.cf.draws)
 op:W.ownsRow B 63 6 ov ps.length (wX ps)
 eq:ps.map (·.1)=s.ops
 dd:∀p∈ps,W.ownsRow B 5 1 p.2 p.1.data.length (xe p.1.data)
 bdo:W.ownsRow B 3 1 bd s.bad.length (iv s.bad)
 ap:∀r,dv.ownBlock=some r->bd.ownBlock≠some r
 pw:ps.Pairwise λp q=>∀r,p.2.ownBlock=some r->q.2.ownBlock≠some r
def Res.below{s ps}(h:Res B W s dv ov bd ps)(a:D W W'):Res B W' s dv ov bd ps:=
 ⟨own_below h.dt a,own_below h.op a,h.eq,λp b=>own_below (h.dd p b) a,own_below h.bdo a,h.ap,h.pw⟩
structure Rq(w W:QM)(C R:Nat)(s:rP)(dv ov bd:QN)(ps:List (sT×QN)):Prop where
 r:Bx W R 27 jx
 bx:Bx W C 27 (OD s.cf dv)
 res:Res w.heap.size W s dv ov bd ps
 bel:D w W
 ge:w.heap.size<=C/\w.heap.size<=R
 ne:C≠R
def Rq.below{w W W' C R s dv ov bd ps}(h:Rq w W C R s dv ov bd ps)(a:D W W'):Rq w W' C R s dv ov bd ps:=
 ⟨h.r.below a h.r.lt,h.bx.below a h.bx.lt,h.res.below a,h.bel.trans (a.mono h.bel.size),h.ge,h.ne⟩
def Ef:Value:=C
def Rq.start(w):Rq w ((w.alloc (QL jx.toArray 27)).alloc (QL (OD ik.cf Ef).toArray 27)) (w.heap.size+1) w.heap.size ik Ef Ef Ef []:=by
 let a:(w.alloc (QL jx.toArray 27)).heap.size=w.heap.size+1:=bH;refine⟨?_,?_,⟨⟨by simp[ik,iv],.inl ⟨rfl,rfl⟩⟩,⟨by simp[wX],.inl ⟨rfl,rfl⟩⟩,rfl,bH,⟨by simp[ik,iv],.inl ⟨rfl,rfl⟩⟩,(λr h=>by cases h),.nil⟩,?_,Z,Z⟩;.unfold Bx;rw[eg _ _ _ Z,ao]
 .unfold Bx;rw[<-a,ao]
 exact((Fu _ w).alloc gi _).alloc Z _
def A5(h:∀r,v1.ownBlock=some r->v2.ownBlock≠some r):v1.ownBlock=none\/v1.ownBlock≠v2.ownBlock:=by
 cases e:v1.ownBlock with
 |none=>exact .inl rfl
 |some r=>exact .inr (λa=>h r e a.symm)
def Rq.opMore{C s ps}(h:Rq w W C R s dv ov bd ps)(o:sT)(b:QN)(i:Nat)(j:W.ownsRow i 5 1 b o.data.length (xe o.data))(k:w.heap.size<=i)(f:∀p∈ps,∀r,p.2.ownBlock=some r->r<i)(n:ps.length<=2000000):
  ∃g W',QI 28 ov (Vl W.heap.size 1 1) (W.alloc (QL (opC o b).toArray 63)) g W'/\Rq w W' C R {s with ops:=s.ops++[o]} dv g bd (ps++[(o,b)])/\K2 W W':=by
 have⟨g,W',t,v,d⟩:=DL Nj h.res.op h.bel.size (opC o b).toArray (by simp[opC]) (by obtain⟨a,m,c,rfl,_⟩:=Re j;intro u l;simp[opC]at l;rcases l with rfl|rfl|rfl|rfl|rfl|rfl<;>rfl) n
 have c:=K2.grown d h.res.op ar;refine⟨g,W',t,⟨h.r.grown d (h.r.apart h.res.op ar),h.bx.grown d (h.bx.apart h.res.op ar),⟨h.res.dt.kept d (OH h.res.dt h.res.op ar),?_,?_,?_,h.res.bdo.kept d (OH h.res.bdo h.res.op ar),h.res.ap,?_⟩,h.bel.grown d h.bel.size (λr e=>(h.res.op.lt r e).1),h.ge,h.ne⟩,c⟩;·rw[zE,FC];exact v
 ·simp[h.res.eq]
 ·intro p a;rcases F8.1 a with a|a;·exact c.own (h.res.dd p a) ar
  simp at a;subst a;exact ia (c.own j ar) k
 refine Is.2 ⟨h.res.pw,List.pairwise_singleton _ _,λp a q l r m x=>?_⟩;simp at l;subst l;have:=f p a r m;have:=(j.lt r x).1;omega
def Rq.badMore{C s ps}(h:Rq w W C R s dv ov bd ps)(x)(i:s.bad.length<=2000000):
  ∃c W',QI 25 bd (Vl W.heap.size 1 1) (W.alloc (QL #[I x] 3)) c W'/\Rq w W' C R {s with bad:=s.bad++[x]} dv ov c ps/\K2 W W':=by
 have⟨c,W',j,k,a,b⟩:=Ni tE h.res.bdo h.bel.size #[I x] rfl mL i;have f:=K2.grown a h.res.bdo ar;refine⟨c,W',j,⟨h.r.grown a (h.r.apart h.res.bdo ar),h.bx.grown a (h.bx.apart h.res.bdo ar),⟨h.res.dt.kept a (A5 h.res.ap),h.res.op.kept a (OH h.res.op h.res.bdo ar),h.res.eq,λp l=>f.own (h.res.dd p l) ar,?_,?_,h.res.pw⟩,h.bel.grown a h.bel.size (λr e=>(h.res.bdo.lt r e).1),h.ge,h.ne⟩,f⟩;·rw[show iv (s.bad++[x])=iv s.bad++[I x] by simp[iv],FC];exact k
 intro r g d;rcases b with b|b;·exact h.res.ap r g (b▸d)
 have:=(h.res.dt.lt r g).2;rw[b]at d;cases d;omega
def Rq.cfMore{C s}{a:QN}{ps}(h:Rq w W C R s dv ov bd ps)(i:D W W')(d:Jh)(e:W'.ownsRow w.heap.size 3 1 a d.draws.length (iv d.draws))(c:a=dv\/∀r,a.ownBlock=some r->W.heap.size<=r):
  Rq w (W'.setRow C (OD d a).toArray) C R {s with cf:=d} a ov bd ps:=by
 let b:=h.below i;let j:K2 W' (W'.setRow C (OD d a).toArray):=K2.row b.bx ar _;refine⟨?_,setRow_heap _ _ _ _ _ _ b.bx,⟨dG e (b.bx.apart e ar) _,dG b.res.op (b.bx.apart b.res.op ar) _,h.res.eq,λp k=>j.own (b.res.dd p k) ar,dG b.res.bdo (b.bx.apart b.res.bdo ar) _,?_,h.res.pw⟩,below_setRow b.bel h.ge.1 _,h.ge,h.ne⟩;.unfold Bx;rw[setRow_other _ _ _ _ (Iq h.ne)];exact b.r
 intro r f g;rcases c with rfl|c;.exact h.res.ap r f g
 have:=c r f;have:=(h.res.bdo.lt r g).2;omega
def Bnd(k:Nat)(s:rP)(n:Nat):Prop:=s.cf.draws.length<=k*20001/\n<=k/\s.bad.length<=k
def Bnd.next{s}(h:Bnd k s n):Bnd (k+1) s n:=by let⟨a,b,c⟩:=h;refine⟨?_,Z,Z⟩;rw[Nat.succ_mul];exact Fx a (Nat.le_add_right _ _)
def Bnd.op{s}(h:Bnd k s n)(o:sT):Bnd (k+1) {s with ops:=s.ops++[o]} (n+1):=⟨h.next.1,Nat.succ_le_succ h.2.1,h.next.2.2⟩
def Bnd.bad{k n s}(h:Bnd k s n)(x:Int):Bnd (k+1) {s with bad:=s.bad++[x]} n:=⟨h.next.1,h.next.2.1,by
 rw[FC];exact Nat.succ_le_succ h.2.2⟩
def Bnd.cf{s}(h:Bnd k s n){c:Jh}{q:List (List UInt8)}(a:q.length<=20001)(b:ij s.cf q=some c):Bnd (k+1) {s with cf:=c} n:=⟨by
 rw[Nat.succ_mul]
 exact Fx (AC b) (Nat.add_le_add h.1 a),h.next.2.1,h.next.2.2⟩
def Bnd.dr{s}(h:Bnd k s n)(a:k<=20000):s.cf.draws.length<=1000000000:=Fx h.1 (Fx (Gm 20001 a) ar)
def EV(ls:List (List UInt8))(k:Nat)(s:rP)(h:k<ls.length):gJ (ls.drop k) k s=gJ (ls.drop (k+1)) (k+1) (rZ k ls[k] s):=by rw[List.drop_eq_getElem_cons h,gJ]
def Ml(g n c:Nat)(l:List UInt8)(w:QM)(j:l.length=n)(k:20000<n)(b:n<=1048576):
  Calls prog 6 #[Vl g n c] w λe w'=>∃dv ov bd ps,e=QJ (.tuple #[.agg (OD (kI l).cf dv).toArray,ov,bd])/\Res w.heap.size w' (kI l) dv ov bd ps/\D w w':=by
 refine(let_mvar%?A:=QL jx.toArray 27;?_);let a:Hid ((w.alloc ?A).heap[w.heap.size]?=some ?A):=H XD;let⟨f,i⟩:=y7 (setRow_self (w.alloc ?A) w.heap.size jx.toArray 27 (0,0) a) ((Fu w.heap.size w).alloc gi ?A);go_in;go_wp2_with (apply eG a);apply Eq.mp (congrArg _ f.symm);apply GX (wV dU w.heap.size 27 (0,0) dU a underlying27 rfl E) dU;rw[H (show kI l=BK by rw[kI,GP Z])];exact⟨Ef,Ef,Ef,[],rfl,⟨⟨by simp[BK,iv],.inl ⟨rfl,rfl⟩⟩,⟨by simp[wX],.inl ⟨rfl,rfl⟩⟩,rfl,bH,⟨by simp[BK,iv],.inl ⟨rfl,rfl⟩⟩,(λr h=>by cases h),.nil⟩,i⟩
def EH(g)(n:Nat)(c)(l:List UInt8)(w)(hl:l.length=n)(hn:¬20000<n)(hr:RowV w g 5 (bv l)):
  Calls prog 6 #[Vl g n c] w λe w'=>∃dv ov bd ps,e=QJ (.tuple #[.agg (OD (kI l).cf dv).toArray,ov,bd])/\Res w.heap.size w' (kI l) dv ov bd ps/\D w w':=by
 have⟨ls,b⟩:=Qb (kn l []);have HM:=H (show kI l=gJ (ls.drop 0) 0 ik by rw[kI,GO Z,b];rfl);have b9:=H (λx(hx:x∈ls)=>(show x.length<=20000 by rw[b]at hx;have:=Rh l [] x hx;simp at this;omega));have d4:ls.length<=20000:=by rw[b];have:=OX l [];omega
 have z:=H (Rq.start w);have⟨W0,d⟩:=Qb ((w.alloc (QL jx.toArray 27)).alloc (QL (OD ik.cf Ef).toArray 27));rw[<-d]at z;have a:=Le g n c l W0 hl Z (hr.below z.bel hr.lt);rw[<-b]at a;have⟨c0,d5⟩:=y7 d b;rw[d]at a;clear d b hr;go_in;go_wp2_with fail;refine a.mono ?_;rintro e w1⟨lv,rfl,f,i⟩;rw[<-c0.out]at f i;have⟨HL,a6⟩:=y7 f (z.below i);have⟨b,j⟩:=Qb W0.heap.size;rw[<-j]at HL;have⟨d,m⟩:=Qb (w.heap.size+1);rw[<-m]at a6⊢;obtain⟨la,L,lc,rfl,o⟩:∃la L lc,lv=.slice la L lc/\L=ls.length:=by have⟨a0,h1,h2,_⟩:=HL.out;have⟨la,L,lc,h3,p⟩:=Re h2;exact⟨la,L,lc,h3,by rw[p,<-h1];simp⟩
 have a7:=H o;have d6:L<=20000:=Z;clear a f i j m o;go_wp2_with fail;have c1:decide ((20000:Int)<(n:Int))=false:=bG
 try simp only[c1]
 go_loopw [6,7,22] (λov bd i wr=>∃(k:Nat)(s:rP)(dv:QN)(ps:List (sT×QN)),k<=L/\i=I (k:Int)/\Hid (kI l=gJ (ls.drop k) k s)/\Hid (Rq w wr d w.heap.size s dv ov bd ps)/\Hid (Lns b wr (.slice la L lc) ls)/\Hid (Bnd k s ps.length)) (λ_ _ i _=>L-(intOf i).toNat);exact⟨0,ik,Ef,[],aa,rfl,HM,a6,HL,H ⟨by simp[ik],bH,by simp[ik]⟩⟩
 clear a6 HL HM;obtain⟨k,s,dv,ps,hk,rfl,HM,z,HL,HN⟩:=hrel;by_cases d7:k<L
 ·refine(let_mvar%?I:=ls.getD k [];?_);obtain⟨lg,u,rfl,p,m,c2⟩:∃lg u,la=some (Qz lg 0)/\wr.cell? (Qz lg k)=some u/\LnS wr.heap.size wr u (?I)/\(?I).length<=20000:=by
   have⟨a0,h1,h2,h3⟩:=HL.out;have X:k<a0.length:=(by have:=a7.out;rw[<-h1]at this;simp at this;omega);have a4:?I=(a0[k]).2:=(by rw[<-h1];simp[X]);rcases h2.2 with⟨h9,h8⟩|⟨lg,d8,d9,h9,hg,hh,_⟩;·omega
   simp only[Value.slice.injEq]at h9;obtain⟨rfl,h7,rfl⟩:=h9;refine⟨lg,(a0[k]).1,rfl,?_,by rw[a4];exact h3 _ (Iw X),by rw[a4];exact b9 _ (by rw[<-h1];exact List.mem_map_of_mem (Iw X))⟩;rw[h7]at h2;rw[(RowV.ofOwns h2).cell k (by simpa using X)];simp[X]
  have b4:k<ls.length:=(by have:=a7.out;omega);have G:=H (HM.trans (EV ls k s b4));have f:ls[k]=?I:=(by simp[b4]);rw[f]at G;have⟨x,hx⟩:=Qb (?I);rw[<-hx]at G m c2;clear hx f HM;obtain⟨f,um,j,rfl⟩:∃f um j,u=.slice f um j:=by
   rcases m with⟨rfl,_⟩|⟨o,q,rfl,_⟩;·exact⟨_,_,_,rfl⟩
   exact⟨_,_,_,rfl⟩
  have a:=KV x wr m Z;clear m;go_wp2_with fail;refine a.mono ?_;rintro e w2⟨qv,rfl,o,r⟩;have⟨t,F,A⟩:=Qe (z.below r) (HL.keep (K2.below r)) o;have c3:=O4 x [];have a8:=r_ x [];clear a z HL p;have⟨q,K⟩:=Qb (cE x []);rw[<-K]at A c3 a8 o;obtain⟨qa,m,qc,rfl,p⟩:=Re o;by_cases M:m=0
  ·have c4:((m:Int)==0)=true:=(by rw[beq_iff_eq];omega);have v:=H (show kI l=gJ (ls.drop (k+1)) (k+1) s by rw[G,rZ,GP (by rw[<-K];exact Ik Z)])
   have c5:=H p;clear o p r M;go_wp2_with fail;go_roundw;(exact⟨k+1,s,dv,ps,Z,aY,v,t,F,H HN.next⟩);exact QE
  have c4:((m:Int)==0)=false:=(by rw[QF];omega);have P:¬cE x []=[]:=λh=>M (by rw[p,K,h];rfl)
  have O:=MY q w2 A Z Z (λy hy=>by have:=a8 y hy;simp at this;omega);have b5:q.length<=20001:=Z;have c7:0<q.length:=Z;have⟨c5,b6⟩:=y7 p K;clear o r M p K;go_wp2_with fail;refine O.mono ?_;rintro e N⟨r,rfl,⟨a1,cs,rfl,a9,b0⟩,b1⟩;have c8:w.heap.size<=w2.heap.size:=t.bel.size;have⟨b7,a2,a3,a5⟩:=Qf (λp(hp:p∈ps)r(hr:p.2.ownBlock=some r)=>((t.res.dd p hp).lt r hr).2) (t.below b1) (F.keep (K2.below b1)) (show Ws wr.heap.size N (.slice qa m qc) q from own_below A b1);clear O;cases ho:tu q with
  |some o=>obtain⟨rfl,K⟩:=b0 o ho;refine(let_mvar%?F:=QL (opC o a1).toArray 63;?_);have F:D N (N.alloc ?F):=(Fu _ N).alloc gi _;have⟨A,Q⟩:=y7 (a2.below F) (a3.keep (K2.below F));have⟨v5,w5,R,q5,k5⟩:=A.opMore o a1 w2.heap.size (own_below K F) c8 b7 (by have:=HN.2.1;omega);have⟨v,S,T⟩:=Qe (show kI l=gJ (ls.drop (k+1)) (k+1) {s with ops:=s.ops++[o]} by rw[G,rZ,GO P,<-b6.out,ho]) q5 (Q.keep k5);have O:Hid ((N.alloc ?F).heap[N.heap.size]?=some ?F):=H XD;obtain⟨V,t,Y,rfl,M⟩:=Re K;clear M;clear a9 b0 ho K F q5 k5 P;unfold opC at R O⊢;(go_upto_region 13 with fail);refine(let_mvar%?A:=(QL #[I (o.kind:Int),I (o.ref:Int),U (o.p:Int),U (o.a:Int),U (o.b:Int),.slice V t Y] 63);?_);have⟨W4,K⟩:=Qb (N.alloc ?A);have b2:QI 28 u6 (Vl W4.heap.size 1 1) (W4.alloc ?A) v5 w5:=(by rw[K];exact R);have M:Hid (W4.heap[N.heap.size]?=some ?A):=(by rw[K];exact O);refine Eq.mp (congrArg _ K) ?_;clear K R O;generalize N.heap.size=O at M⊢;go_wp2_with (first|(at_builtin;refine up b2 ?_)|(refine Rl rfl 63 _ rfl O rfl 63 _ (0,0) _ M underlying63 rfl E ?_));go_roundw;(exact⟨k+1,_,_,_,Z,aY,v,S,T,H (by rw[FC];exact HN.op o)⟩);exact QE
  | none=>
   obtain rfl:=a9 ho;refine(let_mvar%?B:=N.alloc (QL io.toArray 63);?_);have F:D N ?B:=(Fu _ N).alloc gi _;have⟨A,Q,o⟩:=Qe (a2.below F) (a3.keep (K2.below F)) (show Ws wr.heap.size ?B (.slice qa m qc) q from own_below a5 F);have Y:=Mo s.cf dv (.slice qa m qc) q wr.heap.size w.heap.size ?B o c7 Z (λy hy=>by have:=a8 y hy;simp at this;omega) A.res.dt A.bel.size (HN.dr Z);have T:Hid ((?B).heap[d]?=some (QL (OD s.cf dv).toArray 27)):=H A.bx;refine(let_mvar%?G:=gJ (ls.drop (k+1)) (k+1);let_mvar%?H:=((k+1:Nat):Int);let_mvar%?J:=ij s.cf q;?_);have v:=H (show kI l=?G (match ?J with|some c=>{s with cf:=c} |none=>{s with bad:=s.bad++[?H]}) by rw[G,rZ,GO P,<-b6.out,ho]<;>cases ?J<;>rfl);clear a9 b0 ho F P;unfold io;(go_upto_region 15 with fail);have⟨W4,K⟩:=Qb ?B;rw[<-K]at Y T A Q;refine Eq.mp (congrArg _ K) ?_;clear K;obtain⟨da,o,dc,rfl,b2⟩:=Re A.res.dt;clear b2;go_wp2_with (refine Rl rfl 27 _ rfl d rfl 27 _ (0,0) _ T underlying27 rfl E ?_);refine Y.mono ?_;rintro e w6⟨r,rfl,⟨d0,rfl,V,O⟩,M⟩;have b8:Hid (w6.heap[d]?=some (QL (OD s.cf (.slice da o dc)).toArray 27)):=H ((A.below M).bx);have R:=H (A.cfMore M _ V O);have S:=H (Q.keep ((K2.below M).trans (K2.row (A.below M).bx ar (OD ((?J).getD s.cf) d0).toArray)));obtain⟨ea,t,ec,rfl,b3⟩:=Re V;clear b3 V O M Y T;cases M:?J with
   |some c6=>
    rw[M]at v R S;refine(let_mvar%?D:=w6.setRow d (OD c6 (.slice ea t ec)).toArray;?_);have⟨Y,b3,T,V⟩:=Qf (show kI l=?G {s with cf:=c6}from v) (HN.cf b5 M) (show Rq w ?D d w.heap.size {s with cf:=c6} (.slice ea t ec) u6 u7 ps from R) (show Lns b ?D (Vl lg L lc) ls from S);clear M;simp only[Ht,Option.isSome_some];go_upto_region 16 with(refine Gf rfl 27 _ _ rfl d _ rfl rfl 27 _ b8 E rfl (nF) ?_)
    have⟨W7,O⟩:=Qb ?D;rw[<-O]at T V;refine Eq.mp (congrArg _ O) ?_;clear O;go_wp2_with fail;go_roundw;(exact⟨k+1,_,_,_,Z,aY,Y,T,V,b3⟩);exact QE
   |none=>
    rw[M]at v R S;refine(let_mvar%?C:=w6.setRow d (OD s.cf (.slice ea t ec)).toArray;?_);have⟨T,V,Y⟩:=Qe (show Rq w ?C d w.heap.size s (.slice ea t ec) u6 u7 ps from R) (show Lns b ?C (Vl lg L lc) ls from S) (show kI l=?G {s with bad:=s.bad++[?H]}from v);clear M;simp only[Option.getD_none,Option.isSome_none];go_upto_region 17 with(refine Gf rfl 27 _ _ rfl d _ rfl rfl 27 _ b8 E rfl (nF) ?_)
    have⟨W7,O⟩:=Qb ?C;rw[<-O]at T V;refine Eq.mp (congrArg _ O) ?_;clear O;have⟨v8,w8,e8,q8,k8⟩:=T.badMore ?H (by have:=HN.2.2;omega);have d1:QI 25 u7 (Vl W7.heap.size 1 1) (W7.alloc (QL #[I ((k:Int)+1)] 3)) v8 w8:=e8;have⟨d2,d3,b3⟩:=Qe q8 (V.keep k8) (HN.bad ?H);clear e8 q8 k8;go_wp2_with (at_builtin;refine up d1 ?_);go_roundw;(exact⟨k+1,_,_,_,Z,aY,Y,d2,d3,b3⟩);exact QE
 have r:=H (show kI l=s by rw[HM,List.drop_eq_nil_of_le (by have:=a7.out;omega)];rfl);obtain⟨da,o,dc,rfl,b2⟩:=Re z.res.dt;have q:Hid (wr.heap[w.heap.size]?=some (QL jx.toArray 27)):=H z.r;refine(let_mvar%?E:=OD s.cf (.slice da o dc);?_);have t:Hid (wr.heap[d]?=some (QL (?E).toArray 27)):=H z.bx;have⟨f,j⟩:=y7 (setRow_heap wr w.heap.size _ (?E).toArray 27 (0,0) q) (below_setRow z.bel gi (?E).toArray);have m:=H (show Res w.heap.size (wr.setRow w.heap.size (?E).toArray) s (.slice da o dc) u6 u7 ps from by have hk:=K2.row z.r ar (?E).toArray;exact⟨dG z.res.dt (z.r.apart z.res.dt ar) _,dG z.res.op (z.r.apart z.res.op ar) _,z.res.eq,λp hp=>hk.own (z.res.dd p hp) ar,dG z.res.bdo (z.r.apart z.res.bdo ar) _,z.res.ap,z.res.pw⟩)
 clear z HL HM b2 HN;go_upto_region 19 with fail
 go_wp2_with (first|(refine Rl rfl 27 _ rfl d rfl 27 _ (0,0) _ t underlying27 rfl E ?_)|(refine Gf rfl 27 _ _ rfl _ _ rfl rfl 27 _ q E rfl (nF) ?_));refine GX (wV dU w.heap.size 27 (0,0) dU f underlying27 rfl E) dU ?_;rw[r];exact⟨_,_,_,_,rfl,m,j⟩
def L6{O:Nat}(h:w.grownBy W (some O))(k:W.grownBy W' v.ownBlock)(hv:∀r,v.ownBlock=some r->w.heap.size<=r):w.grownBy W' (some O):=
 ⟨k.os.trans h.os,k.tape.trans h.tape,k.output.trans h.output,Fx h.size k.size,λi b a=>(k.block i (FG b h.size) (λe=>by have:=hv i e.symm;omega)).trans (h.block i b a)⟩
def Mk{l:List UInt8}(h:k+1<l.length):(l.drop k).take 2=[l[k],l[k+1]]:=by rw[List.drop_eq_getElem_cons Z,List.drop_eq_getElem_cons Z];rfl
def JO{c d:UInt8}(a:pQ c.toNat<16)(b:pQ d.toNat<16):dL 16 2 [c,d]=some (pQ c.toNat*16+pQ d.toNat):=by rw[dL,GP bH,sL Z,sL Z];simp[qF]
def JP{c d:UInt8}(h:¬(pQ c.toNat<16/\pQ d.toNat<16)):dL 16 2 [c,d]=none:=by
 rw[dL,GP bH];by_cases a:pQ c.toNat<16;.rw[sL Z,qI Z]
 rw[qI Z]
def JJ{l}(h:oK l=true)(a:k<l.length):pQ l[k].toNat<16:=by have:=List.all_eq_true.1 h l[k] (Iw a);simpa using this
def Kw{l:List UInt8}{i:Nat}(h:2*i+1<l.length):(mN (iN l))[i]?=some (pQ (l[2*i]' Z).toNat*16+pQ (l[2*i+1]).toNat):=by rw[xC (iN l) i (by simpa[iN]using h)];simp[iN,show 2*i<l.length by omega,h]
def Jf:PartC 91 88 0:=by
 intro M O o s w hs a3 h1 hO r hd;let a:mX 88 s.data.toList 0 o=(qG s.data.toList).map (λd=>{o with data:=o.data++d}):=by rw[mX,GO ar,GO ar]
 rw[a];clear a;let⟨l,a⟩:=Qb s.data.toList;have t:l.length=s.size:=by rw[a];simp
 have HL:=H a;rw[<-a];clear a;by_cases f:s.size%2=0
 .have j:(((s.size:Nat):Int)%2 !=0)=false:=bG;go_enter func91,ntmps91;go_wp2_with fail;refine(let_mvar%?A:=mN (iN l);?_);go_loopw [5] (λv wr=>∃(k i:Nat)(dv:QN),k<=s.size/\v=I (k:Int)/\Hid (k=2*i)/\Hid (oK (l.take k)=true)/\Hid (wr.ownsRow w.heap.size 5 1 dv i (xe ((?A).take i)))/\Hid (Bx wr O 63 (opC o dv))/\Hid (w.grownBy wr (some O))) (λv _=>s.size-(intOf v).toNat);exact⟨0,0,OL,Z,rfl,H rfl,H rfl,H ⟨by simp[xe],.inl ⟨rfl,rfl⟩⟩,H r,H (Q6 w O)⟩
  obtain⟨k,i,dv,hk,rfl,n,G,N,K,u⟩:=hrel;by_cases a4:k<s.size
  ·have y:k+1<l.length:=(by have:=n.out;omega);have a5:=Z;refine(let_mvar%?B:=s.extract k (k+2);?_);have d:(?B).data.toList=[l[k],l[k+1]]:=by rw[ext_list,<-HL.out,show k+2-k=2 by omega,Mk y]
   have Q:=run_slice_string (P:=prog) wr 9 s .i64 .i64 (k:Int) ((k:Int)+2) underlying9 Z Z Z;have b:=Z;have a:((k:Int).toNat)=k:=Z;rw[b,a]at Q;clear b a;have z:=OZ u h1 (by simpa using Iq hO);by_cases g:pQ l[k].toNat<16/\pQ l[k+1].toNat<16
   ·have a:=jA ?B 16 2 _ M wr (by rw[ext_size];omega) Z Z Z z (by rw[d];exact JO g.1 g.2);refine(let_mvar%?C:=pQ l[k].toNat*16+pQ l[k+1].toNat;?_);have m:(?A)[i]?=some ?C:=by have:=Kw (l:=l) (i:=i) (by have:=n.out;omega);have e9:=n.out;subst e9;exact this
    have R:=H (show oK (l.take (k+2))=true by have b:=(sP l k l[k] (List.drop_eq_getElem_cons Z)).2;have S:=(sP l (k+1) l[k+1] (List.drop_eq_getElem_cons Z)).2;rw[S,b,G];simp[g.1,g.2])
    have⟨x,b⟩:=Qb ?C;rw[<-b]at a m;have T:x<256:=Z;clear b d g G;go_wp2_with fail;refine a.mono ?_;rintro e w1⟨rfl,q⟩;have A:=own_below N q;have L:=K.below q K.lt;have B:=fW u (gS q);have⟨v2,V,S,W,X⟩:=DL ql A B.size #[.int .u8 (x:Int)] rfl mL (by have:=n.out;omega);have F:=L.grown X (L.apart A ar);have Y:V.ownsRow w.heap.size 5 1 v2 (i+1) (xe ((?A).take (i+1))):=(by rw[F9 m];exact W);have⟨B3,O3,G3⟩:=Qe (show Bx (V.setCell (Qz O 5) v2) O 63 (opC o v2) by simpa[opC]using F.set 5 v2) (fY (p:=(Qz O 5)) Y (F.apart Y ar) v2) (au (L6 B X (λr e=>(A.lt r e).1)) 5 v2);obtain⟨da,b,dc,rfl,a0⟩:=Re A;have c5:w1.cell? (Qz O 5)=some (.slice da b dc):=L.cell 5;have a6:V.cell? (Qz O 5)=some (.slice da b dc):=F.cell 5;have f5:=F.free 5;obtain⟨ea,c,ec,rfl,a2⟩:=Re W;clear a N K u A L B W X F Y a0 a2 q m;go_wp2_with (at_builtin;refine up S ?_);go_roundw;(exact⟨k+2,i+1,_,Z,aY,H (by have:=n.out;omega),R,O3,B3,G3⟩);exact QE
   have a:=iT ?B 16 2 M wr (by rw[ext_size];omega) Z Z Z z (by rw[d];exact JP g);have c:=H (show qG l=none by rw[qG,GO];rintro⟨_,b,_⟩;exact g ⟨JJ b Z,JJ b y⟩)
   unfold wE at a;clear d g G;go_wp2_with fail;apply a.mono;rintro e w1⟨rfl,q⟩;let B:=H (fW u (gS q));clear a;go_wp2_with fail;go_ret;rw[c];exact⟨B,_,rfl,.inr ⟨_,rfl⟩⟩
  let c:=H (show qG l=some (?A) by let b:=G.out;rw[Ge Z]at b;rw[qG,GP ⟨by rwa[t],b,Z⟩])
  let d:=H (show wr.ownsRow w.heap.size 5 1 dv (?A).length (xe (?A)) by let b:=N.out;let g:(?A).length=i:=(by rw[tQ];have:=n.out;simp[iN];omega);rw[Ge Z]at b;rwa[g])
  go_wp2_with fail;go_ret;rw[c];refine⟨u,rfl,dv,K,?_,λb=>?_⟩
  rotate_left
  .let g:=congrArg List.length (show o.data++?A=[]from b);rw[hd]at g;simp[tQ,iN]at g;omega
  show wr.ownsRow w.heap.size 5 1 dv (o.data++?A).length (xe (o.data++?A));rwa[hd]
 let j:(((s.size:Nat):Int)%2 !=0)=true:=bG;let a:=OE s M w h1;unfold wE at a;let c:=H (show qG l=none by rw[qG,GO (λh=>f (by rw[<-t];exact h.1))]);go_enter func91,ntmps91;go_wp2_with (go_at_call 93;apply a.mono;rintro e w'⟨rfl,rfl⟩);go_ret;rw[c];exact⟨Q6 _ O,_,rfl,.inr ⟨_,rfl⟩⟩
def Wd(W:World)(e:Option Addr)(ws:List (List UInt8)):Prop:=ws=[]\/∃g off,e=some ⟨g,off,none⟩/\∀k,k<ws.length->W.cell? ⟨g,off+k,none⟩=some (.string (bs (ws.getD k [])))
def Wd.below{sa ws}(h:Wd W sa ws)(b:D W W'):Wd W' sa ws:=by
 rcases h with h|⟨g,a,c,d⟩;.exact .inl h
 exact .inr ⟨g,a,c,λk e=>NI b (d k e)⟩
def Kj(h:n<1000000000):IntKind.i64.wrap (IntKind.u64.wrap (-(n:Int))) = -(n:Int):=by simp[IntKind.wrap,IntKind.bits,IntKind.signed];omega
def MG{l}(h:C5 l=45):tJ l=(dL 10 9 l.tail).map (λn:Nat=> -(n:Int)):=by rw[tJ,GP h]
def MQ{l}(h:¬C5 l=45):tJ l=(dL 10 9 l).map (λn:Nat=>(n:Int)):=by rw[tJ,GO h]
def JY(a:List (List UInt8))(k:Nat)(h:k<a.length):dw (a.drop k)=(tJ (a.getD k [])).bind λn=>(dw (a.drop (k+1))).map (n:: ·):=by
 rw[List.drop_eq_getElem_cons h,dw];have:a[k]=a.getD k []:=by simp[h]
 rw[this]
def MZ(i:Addr)(w w':World)(r:Option (List Int))(e:Ending):Prop:=D w w'/\match r with
 |some ns=>∃v,e=.returned (.tuple #[v,.nilIface])/\w'.ownsRow w.heap.size 3 1 v ns.length (iv ns)
 |none=>∃v,e=.returned (.tuple #[C,v])/\Ue i v
def xV(sa)(m c:Nat)(f:List (List UInt8))(O:Addr)(w)(b:m=f.length)(d:Wd w sa f)(a2:m<=1048576)(a:∀x∈f,x.length<=1048576)(h1:QG w 1 0 (.iface 399 (.pointer (some O)))):
  Calls prog 136 #[.slice sa m c] w λe w'=>MZ O w w' (dw f) e:=by
 let⟨HW,HM⟩:=y7 d b;have a0:=H (λ(k:Nat)(hk:k<f.length)=>(show(f.getD k []).length<=1048576 by
  have:f.getD k []=f[k]:=by simp[hk]
  rw[this];exact a _ (Iw hk)))
 clear d b a;go_wp2;go_loopw [4,13] (λa i wr=>∃(k:Nat)(p:List Int),k<=m/\i=I (k:Int)/\p.length=k/\Hid (dw f=(dw (f.drop k)).map (p ++ .))/\Hid (wr.ownsRow w.heap.size 3 1 a p.length (iv p))/\Hid (D w wr)) (λ_ i _=>m-(intOf i).toNat);exact⟨0,[],aa,rfl,rfl,H bH,H ⟨by simp[iv],.inl ⟨rfl,rfl⟩⟩,H th⟩
 obtain⟨k,p,hk,rfl,Q,F,R,v⟩:=hrel;by_cases a3:k<m
 .let d:k<f.length:=(by have:=HM.out;omega);obtain⟨g,x,rfl,b⟩:∃g x,sa=some (Qz g x)/\w.cell? (Qz g (x+k))=some (.string (bs (f.getD k []))):=by
   rcases HW with h9|⟨g,x,h9,h8⟩;.rw[h9]at d;simp at d
   exact⟨g,x,h9,h8 k d⟩
  have a:=NI v b;have t:=a0.out k d;have j:=H (JY f k d);clear b;let⟨P,r⟩:=Qb (f.getD k []);rw[<-r]at a t j;let⟨b,o⟩:=Qb (bs P);rw[<-o]at a;have S:b.size<=1048576:=(by rw[o,gz];exact t);have q:b.data.toList=P:=(by rw[o,kO]);clear o t r d;let G:=NI v h1;have T:p.length<=2000000:=Z;by_cases u:C5 P=45
  ·have hcut:=λK=>E6 b 45 K (by rwa[q]) ar
   refine(let_mvar%?C:=b.extract 1 b.size;?_);have y:(?C).data.toList=P.tail:=(by rw[sD,q]);have L:(?C).size<=1048576:=(by rw[ext_size];omega);let o:=H (MG u);generalize ?C=t at hcut y L;cases r:dL 10 9 P.tail with
   |none=>
    let d:=iT t 10 9 O wr L Z Z Z G (by rwa[y]);unfold wE at d;let V:=H (show dw f=none by rw[F,j,o,r];rfl);go_wp2_with (first|(go_at_call 139;apply(hcut _).mono;rintro e K⟨rfl,rfl⟩)|(go_at_call 137;apply d.mono;rintro e w8⟨rfl,z⟩))
    go_ret2
    let M:=v.trans (z.mono v.size);rw[V];exact⟨M,_,rfl,.inr ⟨_,rfl⟩⟩
   | some n=>
    let d:=jA t 10 9 n O wr L Z Z Z G (by rwa[y]);let W:n<1000000000:=sO r;refine(let_mvar%?A:=(p++[-(n:Int)]);?_);let N:=H (show dw f=(dw (f.drop (k+1))).map (?A ++ .) by rw[F,j,o,r];cases dw (f.drop (k+1))<;>simp)
    let a4:=Kj W;go_wp2_with (go_at_call 139;apply(hcut _).mono;rintro e K⟨rfl,rfl⟩);apply d.mono;rintro e w8⟨rfl,z⟩;let A:=own_below R z;let B:=v.trans (z.mono v.size);let⟨v2,w2,e2,X,Y,g2⟩:=Jo tE A B #[I (-(n:Int))] rfl mL T;let O2:=H (show w2.ownsRow w.heap.size 3 1 v2 (?A).length (iv ?A) by rwa[show iv ?A=iv p++[I (-(n:Int))] by simp[iv],FC]);let B2:=H Y;go_wp2_with (at_builtin;refine up e2 ?_);go_roundw;(exact⟨k+1,_,Z,aY,by simp[Q],N,O2,B2⟩);exact QE
  let hcut:=λK=>I9 b 45 K (by rwa[q])
  let o:=H (MQ u);cases r:dL 10 9 P with
  |none=>
   let d:=iT b 10 9 O wr S Z Z Z G (by rwa[q]);unfold wE at d;let V:=H (show dw f=none by rw[F,j,o,r];rfl);go_wp2_with (first|(go_at_call 139;apply(hcut _).mono;rintro e K⟨rfl,rfl⟩)|(go_at_call 137;apply d.mono;rintro e w8⟨rfl,z⟩))
   go_ret2
   let M:=v.trans (z.mono v.size);rw[V];exact⟨M,_,rfl,.inr ⟨_,rfl⟩⟩
  | some n=>
   let d:=jA b 10 9 n O wr S Z Z Z G (by rwa[q]);let W:n<1000000000:=sO r;refine(let_mvar%?B:=(p++[(n:Int)]);?_);let N:=H (show dw f=(dw (f.drop (k+1))).map (?B ++ .) by rw[F,j,o,r];cases dw (f.drop (k+1))<;>simp)
   go_wp2_with (go_at_call 139;apply(hcut _).mono;rintro e K⟨rfl,rfl⟩);apply d.mono;rintro e w8⟨rfl,z⟩;let A:=own_below R z;let B:=v.trans (z.mono v.size);let⟨v2,w2,e2,X,Y,g2⟩:=Jo tE A B #[I (n:Int)] rfl mL T;let O2:=H (show w2.ownsRow w.heap.size 3 1 v2 (?B).length (iv ?B) by rwa[show iv ?B=iv p++[I (n:Int)] by simp[iv],FC]);let B2:=H Y;go_wp2_with (at_builtin;refine up e2 ?_);go_roundw;(exact⟨k+1,_,Z,aY,by simp[Q],N,O2,B2⟩);exact QE
 let V:=H (show dw f=some p by rw[F,List.drop_eq_nil_of_le (by have:=HM.out;omega)];simp[dw])
 go_wp2
 go_ret2
 rw[V];exact⟨v,_,rfl,R⟩
structure Gb(B S:Nat)(w w':QM):Prop where
 os:w'.os=w.os
 tape:w'.tape=w.tape
 ou:w'.output=w.output
 size:w.heap.size<=w'.heap.size
 block:∀k,k<B->k≠S->w'.heap[k]?=w.heap[k]?
def Gb.refl(B S w):Gb B S w w:=⟨rfl,rfl,rfl,gi,λ_ _ _=>rfl⟩
def Gb.trans{B S a b c}(h:Gb B S a b)(k:Gb B S b c):Gb B S a c:=⟨k.os.trans h.os,k.tape.trans h.tape,k.ou.trans h.ou,Fx h.size k.size,λi e d=>(k.block i e d).trans (h.block i e d)⟩
def Gb.below(h:D w w')(a:B<=w.heap.size):Gb B S w w':=⟨h.os,h.tape,h.output,h.size,λk b _=>h.block k Z⟩
def Gb.set{a}(h:Gb B S a w)(i:Nat)(v:QN):Gb B S a (w.setCell (Qz S i) v):=h.trans ⟨rfl,rfl,rfl,by simp[World.setCell],λk _ b=>XB b⟩
def Gb.grown{a}(h:Gb B S a w)(g:w.grownBy w' v.ownBlock)(hv:∀r,v.ownBlock=some r->B<=r)(b:B<=w.heap.size):Gb B S a w':=h.trans ⟨g.os,g.tape,g.output,g.size,λk c _=>g.block k Z (λe=>by have:=hv k e.symm;omega)⟩
def Gb.cell{B S w w'}(h:Gb B S w w'){a:Addr}(c:a.block<B)(b:a.block≠S):w'.cell? a=w.cell? a:=by have:=h.block a.block c b;unfold World.cell?;rw[this]
structure Ss(B S:Nat)(W:QM)(s:rP)(dv ov bd:QN)(ps:List (sT×QN)):Prop where
 bx:Bx W S 57 (OD s.cf dv++[ov,bd])
 res:Res B W s dv ov bd ps
 sb:S<B
 bw:B<=W.heap.size
def Ss.below{B S W W' s dv ov bd ps}(h:Ss B S W s dv ov bd ps)(a:D W W'):Ss B S W' s dv ov bd ps:=
 ⟨h.bx.below a h.bx.lt,h.res.below a,h.sb,Fx h.bw a.size⟩
def OrdP(B S:Nat)(j:Addr)(w w':World)(s:rP)(r:Option rP)(e:Ending):Prop:=Gb B S w w'/\match r with
 |some i=>e=.returned .nilIface/\∃dv ov bd ps,Ss B S w' i dv ov bd ps
 |none=>(∃v,e=.returned v/\Ue j v)/\∃dv ov bd ps,Ss B S w' s dv ov bd ps
def OrdP.no{a1 s}(g:Gb B S w w')(a:Ue a1 v){ps}(h:Ss B S w' s dv ov bd ps):OrdP B S a1 w w' s none (QJ v):=⟨g,⟨v,rfl,a⟩,dv,ov,bd,ps,h⟩
def OrdP.yes{a1 s s'}(g:Gb B S w w'){ps}(h:Ss B S w' s' dv ov bd ps):OrdP B S a1 w w' s (some s') (QJ .nilIface):=⟨g,rfl,dv,ov,bd,ps,h⟩
def Ss.cf{B S W s dv ov bd ps}(h:Ss B S W s dv ov bd ps)(i:Nat)(v:QN)(a:Jh)(d:a.draws=s.cf.draws)(e:(OD s.cf dv++[ov,bd]).set i v=OD a dv++[ov,bd]):
  Ss B S (W.setCell (Qz S i) v) {s with cf:=a} dv ov bd ps:=by
 let b:=h.bx.set i v;rw[e]at b;exact⟨b,⟨d▸fY h.res.dt (h.bx.apart h.res.dt ar) v,fY h.res.op (h.bx.apart h.res.op ar) v,h.res.eq,λp c=>fY (h.res.dd p c) (h.bx.apart (h.res.dd p c) ar) v,fY h.res.bdo (h.bx.apart h.res.bdo ar) v,h.res.ap,h.res.pw⟩,h.sb,by have:=h.bw;simp[World.setCell];exact this⟩
def C6(s:rP)(ws:List (List UInt8)):Option rP:=if ws.length=1 then(yf (ws.getD 0 [])).map (λk:Nat=>{s with cf:={s.cf with key:=k}})else none
def JR(B S)(y:Addr)(sa)(m c:Nat)(d:List (List UInt8))(s dv ov bd ps w)(z:Ss B S w s dv ov bd ps)(A:m=d.length)(K:Wd w sa d)(O:m<=1048576)(p:∀x∈d,x.length<=1048576)(L:QG w 1 0 (.iface 399 (.pointer (some y)))):
  QA 85 #[J S 0,.slice sa m c] w λe w'=>OrdP B S y w w' s (C6 s d) e:=by
 have q:=H z;by_cases M:m=1
 .have x:((m:Int) !=1)=false:=bG;let b:d.length=1:=Z;refine(let_mvar%?A:=d.getD 0 [];?_);obtain⟨g,f,rfl,i⟩:∃g f,sa=some (Qz g f)/\w.cell? (Qz g (f+0))=some (.string (bs (?A))):=by
   rcases K with F|⟨g,f,F,P⟩;.rw[F]at b;cases b
   exact⟨g,f,F,P 0 Z⟩
  let o:(?A).length<=1048576:=by
   have:?A=d[0]:=by simp[b]
   rw[this];exact p _ (Iw _)
  have r:=H (show C6 s d=(yf (?A)).map (λk:Nat=>{s with cf:={s.cf with key:=k}}) by rw[C6,GP b]);have⟨G,n⟩:=Qb (?A);rw[<-n]at i o r;have⟨a,j⟩:=Qb (bs G);rw[<-j,GK]at i;have t:a.size<=1048576:=by rw[j,gz];exact o
  have u:a.data.toList=G:=by rw[j,kO]
  have Q:0<m:=Z;clear j o n b A M K p z;cases n:yf G with
  |none=>have b:=iT a 16 16 y w t Z Z Z L (by rw[u];exact n);unfold wE at b;have o:=H (show C6 s d=none by rw[r,n];rfl);clear n;go_enter func85,ntmps85;go_wp2_with fail;apply b.mono;rintro e N⟨rfl,v⟩;have j:=H (q.below v);clear b;go_wp2_with fail;go_ret;rw[o];exact OrdP.no (Gb.below v q.bw) (.inr ⟨_,rfl⟩) j
  |some k=>have b:=jA a 16 16 k y w t Z Z Z L (by rw[u];exact n);have o:=H (show C6 s d=some {s with cf:={s.cf with key:=k}} by rw[r,n];rfl);clear n;go_enter func85,ntmps85;go_wp2_with fail;apply b.mono;rintro e N⟨rfl,v⟩;let j:=q.below v;have R:=H (j.cf 4 (U (k:Int)) {s.cf with key:=k} rfl rfl);have T:=j.bx.cell 4;have f4:=j.bx.free 4;generalize s.cf.key=W at T;clear b j;go_wp2_with fail;go_ret;rw[o];exact OrdP.yes ((Gb.below v q.bw).set 4 _) R
 have x:((m:Int) !=1)=true:=bG;have o:=H (show C6 s d=none by rw[C6,GO Z]);clear A M z;go_enter func85,ntmps85;go_wp2_with fail;go_ret;rw[o];exact OrdP.no (Gb.refl _ _ _) (.inl rfl) q
def AD(s:rP)(ws:List (List UInt8)):Option rP:=(dw ws).map (λns=>{s with cf:={s.cf with draws:=s.cf.draws++ns}})
def Nt{T z sz bb}(S:Kt T e z sz bb)(a:W.ownsRow B e sz v n xs)(s:B<=W.heap.size){t:Nat}{m:Nat}{f:List QN}(l:W.ownsRow t e sz v2 m f)(x:∀u∈f,u.oneCell'=true)(y:n+m<=2000000000):
  ∃d w',(Builtin.append_ #[T,T] T #[v,v2]).run prog W=.ok d w'/\w'.ownsRow B e sz d (n+m) (xs++f)/\W.grownBy w' v.ownBlock/\(d.ownBlock=v.ownBlock\/d.ownBlock=some W.heap.size):=by
 rcases l.2 with⟨rfl,A⟩|⟨g,o,F,rfl,R,G,V,X,Y,K⟩;·subst A;have j:=Ik (by rw[l.1];simp);subst j;have⟨p,b,i,c,k⟩:=G0 S.info;subst c;refine⟨v,W,run_append_owned_none (P:=prog) (w:=W) B T T e p _ S.und b v _ _ a,by simpa using a,⟨rfl,rfl,rfl,gi,λ_ _ _=>rfl⟩,.inl rfl⟩
 have⟨p,b,i,c,k⟩:=G0 S.info;have L:=Nat.mul_le_mul y S.small;have⟨d,w',M,N,O,_,Q⟩:=run_append_own_at (P:=prog) W B T T e p _ sz bb S.und b i c k S.cells S.pos v n _ a (Qz g 0) m o f l.1 (λj u r=>by have q:=(Fz.1 r).1;rw[Addr.add_mid,Oi,GT _ _ j _ _ _ G,<-r,<-K,Hf (by rw[<-l.1];exact q),Gg]) x (by unfold maxLen;omega) Z s
 exact⟨d,w',M,N,O,Q⟩
def JZ(h:∀r,v1.ownBlock=some r->v2.ownBlock≠some r):∀r,v2.ownBlock=some r->v1.ownBlock≠some r:=λr e a=>h r a e
def Ss.draw{s ps}(h:Ss B S W s dv ov bd ps){u:Nat}{b:QN}{f:List Int}(v:W.ownsRow u 3 1 b f.length (iv f))(w:s.cf.draws.length+f.length<=2000000000):
  ∃d W',QI 25 dv b W d W'/\Bx W' S 57 (OD s.cf dv++[ov,bd])/\Gb B S W W'/\(∃a m c,d=.slice a m c)/\Ss B S (W'.setCell (Qz S 5) d) {s with cf:={s.cf with draws:=s.cf.draws++f}} d ov bd ps:=by
 have⟨d,W',x,o,g,j⟩:=Nt tE h.res.dt h.bw v (ze) w;have i:=h.bx.grown g (h.bx.apart h.res.dt ar);have y:=(Gb.refl B S W).grown g (λr e=>(h.res.dt.lt r e).1) h.bw;have z:=K2.grown g h.res.dt ar;have⟨a,m,c,hv,_⟩:=Re o;have q:W'.ownsRow B 3 1 d (s.cf.draws++f).length (iv (s.cf.draws++f)):=by rw[show iv (s.cf.draws++f)=iv s.cf.draws++iv f by simp[iv],FC];exact o
 have k:=h.res.op.kept g (OH h.res.op h.res.dt ar);have l:=h.res.bdo.kept g (A5 (JZ h.res.ap));refine⟨d,W',x,i,y,⟨a,m,c,hv⟩,⟨by simpa[OD]using i.set 5 d,⟨fY q (i.apart q ar) d,fY k (i.apart k ar) d,h.res.eq,λp A=>?_,fY l (i.apart l ar) d,?_,h.res.pw⟩,h.sb,?_⟩⟩;·have:=z.own (h.res.dd p A) ar;exact fY this (i.apart this ar) d
 ·intro r n t;rcases j with j|j;·exact h.res.ap r (j▸n) t
  rw[j]at n;cases n;have:=(h.res.bdo.lt _ t).2;omega
 have:=h.bw;have:=g.size;simp[World.setCell];omega
def E5(B S)(r:Addr)(sa)(m c:Nat)(g:List (List UInt8))(s dv ov bd ps w)(d:Ss B S w s dv ov bd ps)(b:m=g.length)(f:Wd w sa g)(n:m<=1048576)(a:∀x∈g,x.length<=1048576)(L:QG w 1 0 (.iface 399 (.pointer (some r))))(M:s.cf.draws.length<=1000000000):
  QA 86 #[J S 0,.slice sa m c] w λe w'=>OrdP B S r w w' s (AD s g) e:=by
 have hI:=xV sa m c g r w b f n a L;have o:=H d;let j:=λp=>xA g p
 have N:=H b;clear f a d b;cases k:dw g with
 |none=>
  rw[k]at hI;have q:=H (show AD s g=none by rw[AD,k];rfl);clear k j;go_enter func86,ntmps86;go_wp2_with fail;apply hI.mono;rintro e y⟨l,v,rfl,b⟩;have a:=H (o.below l);clear hI;rcases b with rfl|⟨d,rfl⟩;·go_wp2_with fail;go_ret;rw[q];exact OrdP.no (Gb.below l o.bw) (.inl rfl) a
  unfold wE;go_wp2_with fail;go_ret;rw[q];exact OrdP.no (Gb.below l o.bw) (.inr ⟨d,rfl⟩) a
 |some p=>
  rw[k]at hI;have q:=H (show AD s g=some {s with cf:={s.cf with draws:=s.cf.draws++p}} by rw[AD,k];rfl);have z:p.length<=1048576:=by rw[j p k,<-N.out];exact n
  clear k j;go_enter func86,ntmps86;go_wp2_with fail;refine hI.mono ?_;rintro e y⟨l,a,rfl,f⟩;have i:=o.below l;obtain⟨v2,O,P,t,A,⟨Q,b,R,rfl⟩,F⟩:=i.draw f Z;let⟨T,V⟩:=y7 F (((Gb.below l o.bw).trans A).set 5 (.slice Q b R));obtain⟨G,d,K,rfl,u⟩:=Re i.res.dt;obtain⟨X,Y,nc,rfl,x⟩:=Re f;have c5:y.cell? (Qz S 5)=some (.slice G d K):=i.bx.cell 5;have W:=t.cell 5;have f5:=t.free 5;clear hI i t A F f u x;go_wp2_with (at_builtin;refine up P ?_);go_ret;rw[q];exact OrdP.yes V T
