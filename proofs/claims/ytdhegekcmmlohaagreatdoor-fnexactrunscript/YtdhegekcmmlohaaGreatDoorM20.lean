import Derived.Test.YtdhegekcmmlohaaGreatDoorM24
set_option linter.unusedVariables false
set_option linter.unusedSimpArgs false
set_option maxRecDepth 20000
set_option maxHeartbeats 8000000
namespace Go.Proofs.YtdhegekcmmlohaaGreatDoor
open Go.Proofs.Tryz Go.RowKit Go.Maps Go.Shelf Go.ChangeShapes Go.WideShapes Go.ChangeAt
section
variable {B B0 B2 N1 N2 O R c g j k n:Nat}{W W' w w':World}{T e:TypeId}{cs xs:List Value}{dv v v2:Value}{P:Program}
structure sT where
 kind:Nat
 ref:Nat
 p:Nat
 a:Nat
 b:Nat
 data:List Nat
def ga:List (List UInt8):=[[109,97,108,108,111,99],[99,97,108,108,111,99],[114,101,97,108,108,111,99],[102,114,101,101],[117,115,97,98,108,101],[108,111,97,100],[115,116,111,114,101]]
def cF:List (List UInt8):=[[78],[78,78],[80,78],[80],[80],[80,78],[80,88]]
def mX(c:UInt8)(w:List UInt8)(e:Nat)(o:sT):Option sT:=
 if c.toNat=78 then(dL 10 20 w).map (λn=>if e=0 then {o with a:=n}else {o with b:=n})
 else if c.toNat=80 then(d_ w).map (λx=>{o with ref:=x.1,p:=x.2})
 else(qG w).map (λd=>{o with data:=o.data++d})
def eD:List UInt8->List (List UInt8)->Nat->sT->Option sT
 |[],_,_,o=>some o
 |c::f,ws,n,o=>(mX c (ws.headD []) n o).bind (eD f ws.tail (if c.toNat=78 then n+1 else n))
def OV(k:Nat)(q:List (List UInt8)):Bool:=decide (q.headD []=ga.getD k []/\q.length=(cF.getD k []).length+1)
def tu(q:List (List UInt8)):Option sT:=
 ((List.range 7).find? (λk=>OV k q)).bind λk=>eD (cF.getD k []) q.tail 0 ⟨k,0,0,0,0,[]⟩
theorem wU{q}(h:∀j,j<7->OV j q=false):tu q=none:=by
 have:(List.range 7).find? (λk=>OV k q)=none:=List.find?_eq_none.2 λx a=>by simp[h x (Gh.1 a)]
 rw[tu,this];rfl
theorem CF{q}(a:k<7)(h:∀j,j<k->OV j q=false)(b:OV k q=true):tu q=eD (cF.getD k []) q.tail 0 ⟨k,0,0,0,0,[]⟩:=by
 have:(List.range 7).find? (λk=>OV k q)=some k:=by
  rw[Iu];exact⟨b,by simpa using a,λj c=>by simp[h j c]⟩
 rw[tu,this];rfl
def io:List Value:=[I 0,I 0,U 0,U 0,U 0,C]
def opC(o:sT)(dv:Value):List Value:=[I (o.kind:Int),I (o.ref:Int),U (o.p:Int),U (o.a:Int),U (o.b:Int),dv]
def xe(l:List Nat):List Value:=l.map (λn:Nat=>Value.int .u8 (n:Int))
def Bx(W:World)(g:Nat)(e:TypeId)(cs:List Value):Prop:=W.heap[g]?=some (.cells cs.toArray e)
theorem Bx.lt(h:Bx W g e cs):g<W.heap.size:=G_ h
theorem Bx.below(h:Bx W g e cs)(a:Below B W W')(b:g<B):Bx W' g e cs:=(a.block g b).trans h
theorem Bx.cell{W g e cs}(h:Bx W g e cs)(i:Nat):W.cell? (Qz g i)=cs[i]?:=by
 rw[GT _ _ i _ _ _ h];simp
theorem Bx.free(h:Bx W g e cs)(i:Nat):W.frozen? (Qz g i)=false:=by
 unfold Bx at h;simp[QD,h]
theorem Bx.set{W g e cs}(h:Bx W g e cs)(i:Nat)(v:QN):Bx (W.setCell (Qz g i) v) g e (cs.set i v):=by
 unfold Bx at h⊢;simp[World.setCell,FD,h]
theorem Bx.other(h:Bx W g e cs){p:Addr}(a:g≠p.block)(v:QN):Bx (W.setCell p v) g e cs:=(GQ _ _ _ _ a).trans h
theorem Bx.grown{o:Option Nat}(h:Bx W g e cs)(b:W.grownBy W' o)(a:some g≠o):Bx W' g e cs:=(b.block g h.lt a).trans h
theorem Bx.apart(h:Bx W g e cs){c:QO}{sz:Nat}(d:W.ownsRow B c sz v n xs)(a:e≠c):some g≠v.ownBlock:=λq=>by
 have⟨x,b⟩:=ts d q.symm
 unfold Bx at h
 rw[h]at b
 simp at b
 exact a b.2
theorem fY{sz:Nat}(h:W.ownsRow B e sz v n xs){p:Addr}(d:some p.block≠v.ownBlock)(u:QN):(W.setCell p u).ownsRow B e sz v n xs:=by
 refine⟨h.1,?_⟩;rcases h.2 with f|⟨g,b,c,rfl,i,j,a⟩;·exact .inl f
 exact .inr ⟨g,b,c,rfl,i,by rw[GQ _ _ _ _ (λq=>d (by simp[Value.ownBlock,q]))];exact j,a⟩
theorem de{e:Func}{p u:Tmp}{a:TypeId}(h:e.results=#[.cell p a,.tmp u])(b:Array Value)(w:World)(g)(t:TypeId)(cs:Array Value)(f:Nat×Nat)(d:TypeDesc)(i:b.getD p undef=J g 0)(j:w.heap[g]?=some (.cells cs t f))(k:P.underlying a=some d)(l:(match d with | .struct _ | .array _ _=>true|_=>false)=true)(m:(P.info? a).map (·.size)=some cs.size):
  (results e b).run P w=.ok (.tuple #[.agg cs,b.getD u undef]) w:=by
 have c:b[p]?.getD undef=J g 0:=by simpa using i
 simp[results,h,c,asAddr,run_loadVar_row w g t a cs f d j k l m]
theorem wV{e:Func}{p u u2:Tmp}{a:TypeId}(h:e.results=#[.cell p a,.tmp u,.tmp u2])(b:Array Value)(w:World)(g)(t:TypeId)(cs:Array Value)(f:Nat×Nat)(d:TypeDesc)(i:b.getD p undef=J g 0)(j:w.heap[g]?=some (.cells cs t f))(k:P.underlying a=some d)(l:(match d with | .struct _ | .array _ _=>true|_=>false)=true)(m:(P.info? a).map (·.size)=some cs.size):
  (results e b).run P w=.ok (.tuple #[.agg cs,b.getD u undef,b.getD u2 undef]) w:=by
 have c:b[p]?.getD undef=J g 0:=by simpa using i
 simp[results,h,c,asAddr,run_loadVar_row w g t a cs f d j k l m]
structure Sp3(w W:QM)(R N1 N2:Nat):Prop where
 r:Bx W R 48 io
 nm:RowV W N1 9 (ga.map wg)
 fm:RowV W N2 9 (cF.map wg)
 bel:D w W
 rw:w.heap.size<=R/\w.heap.size<=N1/\w.heap.size<=N2
 ne:R≠N1/\R≠N2
theorem Js{c:Array QN}(h:W.heap[g]?=some (QL c e)):RowV W g e c.toList:=⟨c,h,bH,λi a=>by simp at a;simp[a]⟩
theorem Ki(w):Sp3 w (((w.alloc (QL io.toArray 48)).alloc (QL (ga.map wg).toArray 9)).alloc (QL (cF.map wg).toArray 9)) w.heap.size (w.heap.size+1) (w.heap.size+1+1):=by
 have a:(w.alloc (QL io.toArray 48)).heap.size=w.heap.size+1:=bH;have b:((w.alloc (QL io.toArray 48)).alloc (QL (ga.map wg).toArray 9)).heap.size=w.heap.size+1+1:=bH;refine⟨?_,?_,?_,?_,Z,Z⟩;·unfold Bx;rw[eg _ _ _ Z,eg _ _ _ Z,ao]
 ·refine Js (c:=(ga.map wg).toArray) ?_;rw[eg _ _ _ Z,<-a,ao]
 ·refine Js (c:=(cF.map wg).toArray) ?_;rw[<-b,ao]
 exact(((Fu _ w).alloc (Fv _) _).alloc Z _).alloc Z _
theorem Sp3.name(h:Sp3 w W R N1 N2)(a:k<7):W.cell? (Qz N1 k)=some (.string (bs (ga.getD k []))):=by
 rw[h.nm.cell k (by simpa[ga]using a)];simp[ga,wg];rcases k with _|_|_|_|_|_|_|k<;>first|rfl|omega
theorem Sp3.form(h:Sp3 w W R N1 N2)(a:k<7):W.cell? (Qz N2 k)=some (.string (bs (cF.getD k []))):=by
 rw[h.fm.cell k (by simpa[cF]using a)];simp[cF,wg];rcases k with _|_|_|_|_|_|_|k<;>first|rfl|omega
theorem Ex{q}(h:Ws B W (Vl g n c) q)(b:n=q.length)(a:k<q.length):W.cell? (Qz g k)=some (.string (bs (q.getD k []))):=by
 subst b;have d:=(RowV.ofOwns h).cell k (by simpa using a);rw[d];simp[a,wg]
def Nx(w W:World)(o:Option sT)(v:Value):Prop:=∃dv cs,v=.tuple #[.agg cs,.bool o.isSome]/\(o=none->cs=io.toArray)/\∀x,o=some x->cs=(opC x dv).toArray/\W.ownsRow w.heap.size 5 1 dv x.data.length (xe x.data)
theorem own_below{sz:Nat}(h:W.ownsRow B e sz v n xs)(f:D W W'):W'.ownsRow B e sz v n xs:=by
 refine⟨h.1,?_⟩;rcases h.2 with i|⟨g,b,c,rfl,j,d,a⟩;·exact .inl i
 exact .inr ⟨g,b,c,rfl,j,by rw[f.block g (G_ d)];exact d,a⟩
theorem ia{sz:Nat}(h:W.ownsRow B e sz v n xs)(d:B2<=B):W.ownsRow B2 e sz v n xs:=by
 refine⟨h.1,?_⟩;rcases h.2 with f|⟨g,b,c,rfl,i,a⟩;·exact .inl f
 exact .inr ⟨g,b,c,rfl,Fx d i,a⟩
theorem dG{sz:Nat}(h:W.ownsRow B e sz v n xs){r:Nat}(d:some r≠v.ownBlock)(cs:Array QN):(W.setRow r cs).ownsRow B e sz v n xs:=by
 refine⟨h.1,?_⟩;rcases h.2 with f|⟨g,b,c,rfl,i,j,a⟩;·exact .inl f
 exact .inr ⟨g,b,c,rfl,i,by rw[setRow_other _ _ _ _ (λq=>d (by simp[Value.ownBlock,q]))];exact j,a⟩
structure Sp4(w W:QM)(R N2 O:Nat)(o:sT)(dv:QN):Prop where
 r:Bx W R 48 io
 fm:RowV W N2 9 (cF.map wg)
 bx:Bx W O 48 (opC o dv)
 dt:W.ownsRow w.heap.size 5 1 dv o.data.length (xe o.data)
 bel:D w W
 ge:w.heap.size<=R/\w.heap.size<=N2/\w.heap.size<=O
 ne:R≠O/\N2≠O/\N2≠R
theorem Sp3.open(h:Sp3 w W R N1 N2)(k:Nat)(a:N2≠R):Sp4 w (W.alloc (QL (opC ⟨k,0,0,0,0,[]⟩ (C)).toArray 48)) R N2 W.heap.size ⟨k,0,0,0,0,[]⟩ (C):=by
 have b:=(Fu W.heap.size W).alloc (Fv _) (QL (opC ⟨k,0,0,0,0,[]⟩ (C)).toArray 48);have c:=h.r.lt;have d:=h.fm.lt;refine⟨h.r.below b h.r.lt,h.fm.below b h.fm.lt,ao _ _,⟨by simp[xe],.inl ⟨rfl,rfl⟩⟩,h.bel.alloc (by have:=h.bel.size;omega) _,⟨h.rw.1,h.rw.2.2,by have:=h.bel.size;omega⟩,Z,Z,a⟩
theorem Sp4.below{w W W' R N2 O o dv}(h:Sp4 w W R N2 O o dv)(a:D W W'):Sp4 w W' R N2 O o dv:=
 ⟨h.r.below a h.r.lt,h.fm.below a h.fm.lt,h.bx.below a h.bx.lt,own_below h.dt a,h.bel.trans (a.mono h.bel.size),h.ge,h.ne⟩
theorem Sp4.form{o}(h:Sp4 w W R N2 O o dv)(a:k<7):W.cell? (Qz N2 k)=some (.string (bs (cF.getD k []))):=by
 rw[h.fm.cell k (by simpa[cF]using a)];simp[cF,wg];rcases k with _|_|_|_|_|_|_|k<;>first|rfl|omega
theorem JN(h:RowV W N2 9 (cF.map wg))(a:k<7):W.cell? (Qz N2 k)=some (.string (bs (cF.getD k []))):=by
 rw[h.cell k (by simpa[cF]using a)];simp[cF,wg];rcases k with _|_|_|_|_|_|_|k<;>first|rfl|omega
theorem Sp4.set{w W R N2 O o}{o':sT}{dv}(h:Sp4 w W R N2 O o dv)(i:Nat)(d:i<6)(v:QN)(b:o'.data=o.data)(c:(opC o dv).set i v=opC o' dv):Sp4 w (W.setCell (Qz O i) v) R N2 O o' dv:=by
 have a:=h.bx.set i v;rw[c]at a;exact⟨h.r.other h.ne.1 v,h.fm.other h.ne.2.1 v,a,b▸fY h.dt (h.bx.apart h.dt ar) v,h.bel.setCell h.ge.2.2 v,h.ge,h.ne⟩
theorem Jz(k:Nat):(cF.getD k []).length<=2:=by
 rcases k with _|_|_|_|_|_|_|k<;>first|decide|(simp[cF])
theorem EM(b:k<7)(a:j<(cF.getD k []).length):((cF.getD k [])[j].toNat=78\/(cF.getD k [])[j].toNat=80)\/((cF.getD k [])[j].toNat=88/\j+1=(cF.getD k []).length):=by
 rcases k with _|_|_|_|_|_|_|k<;>first|omega|(rcases j with _|_|j<;>first|(exfalso;simp[cF]at a;done)|(exfalso;simp[cF]at a;omega)|(simp[cF];done))
theorem Az(s:ByteArray)(w:QM)(a:s.size<=1048576)(h:d_ s.data.toList=none):
  QA 38 #[.string s] w λe w'=>∃r p:Nat,e=QJ (.tuple #[I (r:Int),U (p:Int),.bool false])/\w'=w:=by
 refine(I7 s w a).mono ?_;rintro e w'⟨v,rfl,⟨r,p,_,_,rfl,_⟩,rfl⟩;rw[h];exact⟨r,p,rfl,rfl⟩
theorem Bn(s:ByteArray)(w:QM)(a:s.size<=1048576)(r p:Nat)(h:d_ s.data.toList=some (r,p)):
  QA 38 #[.string s] w λe w'=>e=QJ (.tuple #[I (r:Int),U (p:Int),.bool true])/\w'=w:=by
 refine(I7 s w a).mono ?_;rintro e w'⟨v,rfl,⟨c,d,_,_,rfl,b⟩,rfl⟩;rw[h];obtain⟨rfl,rfl⟩:=Prod.mk.inj (b _ h);exact QB
theorem I_(s:ByteArray)(w:QM)(g:s.size<=1048576)(h:¬(oK s.data.toList=true/\0<s.size)):
  QA 39 #[.string s] w λe w'=>∃a c,e=QJ (.tuple #[.slice a 0 c,.bool false])/\D w w':=by
 refine(Lf s w g).mono ?_;rintro e w'⟨v,rfl,i,j,d⟩;cases ha:oK s.data.toList with
 |false=>rw[i ha];exact⟨none,0,bH,d⟩
 | true=>
  have b:s.size=0:=by
   rcases Nat.eq_zero_or_pos s.size with b|b;·exact b
   exact absurd ⟨ha,b⟩ h
  obtain⟨a,m,c,rfl,f⟩:=ch (j ha);rw[b]at f;subst f;exact⟨a,c,by simp[b],d⟩
theorem IZ(s:ByteArray)(w:QM)(f:s.size<=1048576)(h:oK s.data.toList=true)(i:0<s.size):
  QA 39 #[.string s] w λe w'=>∃a c,e=QJ (.tuple #[Vl a s.size c,.bool true])/\w.heap.size<=a/\RowV w' a 5 (hv s.data.toList)/\D w w':=by
 refine(Lf s w f).mono ?_;rintro e w'⟨v,rfl,n,j,k⟩;have d:=j h;rcases d.2 with⟨rfl,o⟩|⟨g,b,l,rfl,a,p,m,q,r,t⟩;·omega
 exact⟨g,b,by simp[h,i],a,RowV.ofOwns d,k⟩
theorem tQ:∀l:List Nat,(mN l).length=l.length/2
 |[]=>rfl
 |[_]=>by simp[mN]
 |a::b::r=>by simp only[mN,FN,tQ r];omega
theorem xC:∀(l:List Nat)(i:Nat),2*i+1<l.length->(mN l)[i]?=some (l.getD (2*i) 0*16+l.getD (2*i+1) 0)
 |[],i,h=>by simp at h
 |[_],i,h=>by simp at h
 |a::b::r,0,h=>rfl
 |a::b::r,i+1,h=>by
  have:=xC r i (by simp at h;omega)
  simp only[mN,List.getElem?_cons_succ,this]
  rw[show 2*(i+1)=2*i+1+1 by omega,show 2*i+1+1+1=(2*i+1)+1+1 by omega]
  rfl
theorem F9(l:List Nat)(i:Nat)(x:Nat)(h:l[i]?=some x):xe (l.take (i+1))=xe (l.take i)++[.int .u8 (x:Int)]:=by
 rw[F_,h];simp[xe]
theorem Jl{l}(h:oK l=true)(i:Nat):(iN l).getD i 0<16:=by
 by_cases a:i<l.length;·have:=List.all_eq_true.1 h l[i] (Iw a);simpa[iN,a]using this
 simp[iN,show¬i<l.length from a]
theorem Dd{l}(h:RowV W g 5 (hv l))(i:Nat)(a:i<l.length):W.cell? (Qz g i)=some (.int .u8 (((iN l).getD i 0:Nat):Int)):=by
 rw[h.cell i (by simpa[hv,iN]using a)];simp[hv,iN,a]
structure Sp5(w W:QM)(R N2 O hg B2:Nat)(o:sT)(dv:QN)(wl:List UInt8)(i:Nat):Prop where
 r:Bx W R 48 io
 fm:RowV W N2 9 (cF.map wg)
 bx:Bx W O 48 (opC o dv)
 dt:W.ownsRow B2 5 1 dv i (xe ((mN (iN wl)).take i))
 hx:RowV W hg 5 (hv wl)
 bel:D w W
 ge:w.heap.size<=R/\w.heap.size<=N2/\w.heap.size<=O
 ne:R≠O/\N2≠O/\N2≠R
 lt:hg<B2/\O<B2/\R<B2/\N2<B2/\B2<=W.heap.size/\w.heap.size<=B2
 no:hg≠O
theorem Sp4.five{hg o wl}(h:Sp4 w W R N2 O o (C))(c:D W W')(b:RowV W' hg 5 (hv wl))(d:W.heap.size<=hg):Sp5 w W' R N2 O hg W'.heap.size o (C) wl 0:=by
 have a:=h.below c;have l1:=h.bx.lt;exact⟨a.r,a.fm,a.bx,⟨by simp[xe],.inl ⟨rfl,rfl⟩⟩,b,a.bel,h.ge,h.ne,⟨b.lt,a.bx.lt,a.r.lt,a.fm.lt,Fv _,a.bel.size⟩,Z⟩
theorem Sp5.more{j o wl i}(h:Sp5 w W R N2 O j B2 o dv wl i)(x:Nat)(u:(mN (iN wl))[i]?=some x)(A:i<=1048576):
  ∃b w',QI 22 dv (Vl W.heap.size 1 1) (W.alloc (QL #[.int .u8 (x:Int)] 5)) b w'/\(∃a m c,b=.slice a m c)/\QG w' O 5 dv/\w'.frozen? (Qz O 5)=false/\RowV w' j 5 (hv wl)/\Sp5 w (w'.setCell (Qz O 5) b) R N2 O j B2 o b wl (i+1):=by
 have⟨b,w',e1,t,l⟩:=DL ql h.dt h.lt.2.2.2.2.1 #[.int .u8 (x:Int)] rfl mL Z;have k:∀g,g<B2->some g≠dv.ownBlock:=λg j e=>by have:=(h.dt.lt g e.symm).1;omega
 have f:=h.bx.grown l (k _ h.lt.2.1);have v:=h.r.grown l (k _ h.lt.2.2.1);have q:∀g,g<B2->w'.heap[g]?=W.heap[g]?:=λg j=>l.block g (by have:=h.lt.2.2.2.2.1;omega) (k g j)
 have d:∀(g:Nat)(e:QO)(xs:List QN),RowV W g e xs->g<B2->RowV w' g e xs:=λg e xs⟨y,z,r⟩j=>⟨y,(q g j).trans z,r⟩
 have n:D w w':=h.bel.grown l h.bel.size (λr e=>by have:=(h.dt.lt r e).1;have:=h.lt.2.2.2.2.2;omega);have p:w'.ownsRow B2 5 1 b (i+1) (xe ((mN (iN wl)).take (i+1))):=by rw[F9 _ _ _ u];exact t
 have⟨a,m,c,s,_⟩:=ch t;refine⟨b,w',e1,⟨a,m,c,s⟩,f.cell 5,f.free 5,d _ _ _ h.hx h.lt.1,?_⟩;exact⟨v.other h.ne.1 b,(d _ _ _ h.fm h.lt.2.2.2.1).other h.ne.2.1 b,by simpa[opC]using f.set 5 b,fY p (f.apart p ar) b,(d _ _ _ h.hx h.lt.1).other h.no b,n.setCell h.ge.2.2 b,h.ge,h.ne,
  ⟨h.lt.1,h.lt.2.1,h.lt.2.2.1,h.lt.2.2.2.1,by rw[show(w'.setCell (Qz O 5) b).heap.size=w'.heap.size by simp[World.setCell]];exact Fx h.lt.2.2.2.2.1 l.size,h.lt.2.2.2.2.2⟩,h.no⟩
theorem Sp5.drew{w W R N2 O hg B2 o dv wl i}(h:Sp5 w W R N2 O hg B2 o dv wl i):Sp5 w W.drew R N2 O hg B2 o dv wl i:=
 ⟨h.r,h.fm,h.bx,h.dt,h.hx,h.bel.drew,h.ge,h.ne,h.lt,h.no⟩
theorem Kk(b:k<6)(a:j<(cF.getD k []).length):(cF.getD k [])[j].toNat=78\/(cF.getD k [])[j].toNat=80:=by
 rcases k with _|_|_|_|_|_|k<;>first|omega|(rcases j with _|_|j<;>first|(exfalso;simp[cF]at a;done)|(exfalso;simp[cF]at a;omega)|(simp[cF];done))
theorem Kc(a:j<(cF.getD 6 []).length):¬(cF.getD 6 [])[j].toNat=78:=by
 rcases j with _|_|j<;>first|(exfalso;simp[cF]at a;done)|(exfalso;simp[cF]at a;omega)|(simp[cF];done)
theorem Kf{c:Nat}{q}(f:k<7)(d:c<7)(h:OV k q=true)(a:OV c q=true):k=c:=by
 simp only[OV,Hj]at h a;have g:ga.getD k []=ga.getD c []:=h.1.symm.trans a.1;have e:∀a,a<7->∀b,b<7->ga.getD a []=ga.getD b []->a=b:=ar;exact e k f c d g
theorem wrap_u8{n:Int}(a:0<=n)(h:n<256):IntKind.u8.wrap n=n:=by simp[IntKind.wrap,IntKind.bits,IntKind.signed];omega
theorem wrap_i64{n:Int}(a:0<=n)(h:n<9223372036854775808):IntKind.i64.wrap n=n:=by simp[IntKind.wrap,IntKind.bits,IntKind.signed];omega
theorem Lb(o)(a:QP)(m n:Nat):(opC o (.slice a m n)).toArray.all (·.oneCell')=true:=by simp[opC,Value.oneCell']
theorem Mf{t:ByteArray}{f}(h:t=bs f)(j:Nat)(a:j<t.size)(b:j<f.length):t[j]=f[j]:=by subst h;rfl
theorem ih{p X Y a:Prop}(x:X)(y:Y)(z:a)(f:X->Y->a->p:=by(
 intro x y z
 go_wp2_with (refine eG y ?_)
 refine Eq.mp (congrArg _ (setRow_self _ _ io.toArray 48 (0,0) y).symm) ?_
 refine GX (de dU _ _ _ 48 _ (0,0) _ dU y underlying48 rfl E) dU ?_
 rw[x]
 exact⟨_,rfl,⟨C,_,rfl,(λ_=>rfl),(λx a=>by cases a)⟩,z⟩)):p:=f x y z
theorem Mq(v q B w)(f:Ws B w v q)(a5:0<q.length)(hl:q.length<=1048576)(K:∀x∈q,x.length<=1048576)(d:OV 6 q=false):
  QA 22 #[v] w λe w'=>∃r,e=QJ r/\Nx w w' (tu q) r/\D w w':=by
 obtain⟨g,c,rfl,hg⟩:∃g c,v=Vl g q.length c/\g<w.heap.size:=by
  rcases f.2 with⟨rfl,h0⟩|⟨g,m,o,rfl,hg,hh,_⟩;·omega
  exact⟨g,m,rfl,G_ hh⟩
 have HQ:=H (λ(W:QM)(m:D w W)(k:Nat)(hk:k<q.length)=>(show W.cell? (Qz g k)=some (.string (bs (q.getD k []))) by rw[m.cell hg];exact Ex f rfl hk));have a7:=H (λ(k:Nat)(hk:k<q.length)=>(show(q.getD k []).length<=1048576 by
  have:q.getD k []=q[k]:=by simp[hk]
  rw[this];exact K _ (Iw hk)))
 have⟨m,o⟩:=Qa q.length;rw[o]at a5 hl⊢;have⟨HM,a8⟩:=y7 o d;clear d;clear f o K;go_enter func22,ntmps22;go_wp2;have T:=H (Ki w);have⟨W3,d⟩:=Qb (((w.alloc (QL io.toArray 48)).alloc (QL (ga.map wg).toArray 9)).alloc (QL (cF.map wg).toArray 9));rw[<-d]at T;refine Eq.mp (congrArg _ d) ?_;clear d;have⟨N2,d⟩:=Qb (w.heap.size+1+1);have a9:=H (show N2≠w.heap.size by omega);rw[<-d]at T⊢;clear d;generalize w.heap.size+1=N1 at T⊢;go_loopw [21] (λi wr=>∃(k:Nat),k<=7/\i=I (k:Int)/\Hid (∀j,j<k->OV j q=false)/\wr=W3) (λi _=>7-(intOf i).toNat);case atStart=>exact⟨0,Z,rfl,H (λj hj=>Z),rfl⟩
 case round=>
  obtain⟨k,hk,rfl,Y,rfl⟩:=hrel;by_cases Q:k<7
  ·have c1:=T.name Q;have c2:=T.form Q;have V:=HQ.out _ T.bel 0 (by rw[HM];exact a5);have⟨t,s⟩:=Qb (bs (cF.getD k []));have⟨nm,f⟩:=Qb (bs (ga.getD k []));have⟨q0,o⟩:=Qb (bs (q.getD 0 []));rw[<-f]at c1;rw[<-s]at c2;rw[<-o]at V;have b7:t.size<=2:=(by rw[s,gz];exact Jz k);have HT:=H s;have HX:Hid (∀j,j<k+1->¬OV k q=true->OV j q=false):=(λj hj hh=>by
    by_cases e:j=k;·subst e;simpa using hh
    exact Y j Z)
   have d:OV k q=decide (q0.toList=nm.toList/\m=t.size+1):=by
    rw[OV,s,gz,HM,o,f,Lib.toList_data,Lib.toList_data,kO,kO];congr 1;cases q<;>simp
   have HH:=H d;clear s f o d;by_cases x1:q0.toList=nm.toList
   ·by_cases x2:m=t.size+1
    ·have b0:((m:Int) != (t.size:Int)+1)=false:=bG;have HE:Hid (tu q=eD (cF.getD k []) q.tail 0 ⟨k,0,0,0,0,[]⟩):=(CF Q Y (by rw[HH];simp[x1,x2]));have⟨a3,u⟩:=y7 x2 (T.open k a9);have b3:Hid (k<6):=(Nat.lt_of_le_of_ne Z (λf=>by have d:=a8.out;rw[<-f,HH]at d;simp[x1,x2]at d));clear x2 Y;go_wp2;have⟨W4,d⟩:=Qb (wr.alloc (QL (opC ⟨k,0,0,0,0,[]⟩ (C)).toArray 48));rw[<-d]at u;refine Eq.mp (congrArg _ d) ?_;clear d;have⟨O,d⟩:=Qb wr.heap.size;rw[<-d]at u⊢;clear d c1 c2 V;have⟨f,d⟩:=Qb (cF.getD k []);rw[<-d]at HT HE;have HF:=H d;clear d;have b8:f.length=t.size:=(by rw[HT,gz]);have b4:decide ((k:Int)<7)=true:=bG;simp only[b4];go_loopw [9,10] (λd i s=>∃(j A:Nat)(o:sT)(dv:QN),j<=t.size/\A<=j/\d=I (A:Int)/\i=I (j:Int)/\Hid (tu q=eD (f.drop j) (q.tail.drop j) A o)/\Hid (Sp4 w s w.heap.size N2 O o dv)/\Hid (j<t.size->o.data=[]/\dv=C)) (λ_ i _=>t.size-(intOf i).toNat);(case atStart=>exact⟨0,0,_,_,Z,Z,rfl,rfl,H (by simpa using HE.out),u,H (λ_=>⟨rfl,rfl⟩)⟩);case round=>
      clear HE u;obtain⟨j,A,o,dv,hj,b9,rfl,rfl,HE,u,HD⟩:=hrel;have c2:wr.cell? (Qz N2 k)=some (.string t):=(by rw[HT,HF];exact u.form Q);by_cases a6:j<t.size
      ·have c0:j+1<m:=(by have:=a3.out;omega);have y:=HQ.out _ u.bel (j+1) (by rw[HM,a3];omega);have K:=a7.out (j+1) (by rw[HM,a3];omega);have⟨G,z⟩:=Qb (q.getD (j+1) []);rw[<-z]at y K;have F:t[j].toNat=(f[j]' Z).toNat:=by
        rw[Mf HT j a6 Z]
       have M:eD (f.drop j) (q.tail.drop j) A o=(mX (f[j]' Z) G A o).bind (eD (f.drop (j+1)) (q.tail.drop (j+1)) (if t[j].toNat=78 then A+1 else A)):=by
        rw[List.drop_eq_getElem_cons (l:=f) (i:=j) Z,eD,F];have hh:(q.tail.drop j).headD []=G:=(by rw[z,List.headD_eq_head?_getD,List.head?_drop];simp);rw[hh,List.tail_drop]
       have s:=EM (k:=k) (j:=j) Q (by rw[<-HF.out];omega);simp only[<-HF.out]at s;have L:mX (f[j]' Z) G A o=if t[j].toNat=78 then(dL 10 20 G).map (λn=>if A=0 then {o with a:=n}else {o with b:=n})else if t[j].toNat=80 then(d_ G).map (λx=>{o with ref:=x.1,p:=x.2})else(qG G).map (λd=>{o with data:=o.data++d}):=(by rw[mX,F]);rw[L]at M;rw[<-F]at s;have b5:=H (show t[j].toNat=78\/t[j].toNat=80 by have d:=Kk (k:=k) (j:=j) b3 (by rw[<-HF.out];omega);simp only[<-HF.out]at d;rw[F];exact d);have⟨a0,a2⟩:=y7 (HE.trans M) s;clear M L s F z HE;have⟨d,z⟩:=Qb (bs G);rw[<-z]at y;have R:d.size<=1048576:=by rw[z,gz];exact K
       have a4:=H (show d.data.toList=G by rw[z,kO]);clear z K;have c5:=EO t j a6;by_cases l1:t[j].toNat=78
       ·have b1:(((t[j].toNat:Nat):Int)==78)=true:=(by rw[beq_iff_eq];omega);have z:=qN d 20 wr R Z;rw[a4]at z;have X:=H (show tu q=(dL 10 20 G).bind λn=>eD (f.drop (j+1)) (q.tail.drop (j+1)) (A+1) (if A=0 then {o with a:=n}else {o with b:=n}) by
         rw[a0,GP l1,GP l1];cases dL 10 20 G<;>rfl)
        have M:=Dp (base:=10) (most:=20) G;have⟨r,F⟩:=Qb (dL 10 20 G);rw[<-F]at z X M;clear F;unfold rN at z;rcases r with _|n
        ·have P:Hid (tu q=none):=X;have z:QA 37 #[.string d,I 20] wr λe w'=>e=QJ (.tuple #[U 0,.bool false])/\w'=wr:=z
         have V:wr.cell? (Qz O 3)=some (U (o.a:Int)):=u.bx.cell 3;have c4:wr.cell? (Qz O 4)=some (U (o.b:Int)):=u.bx.cell 4;have d3:=u.bx.free 3;have d4:=u.bx.free 4;generalize o.a=oa at V;generalize o.b=ob at c4;by_cases h0:A=0
         ·have S:((A:Int)==0)=true:=(by rw[beq_iff_eq];omega);have F:=H (u.set (o':={o with a:=0}) 3 Z (U 0) rfl rfl);clear h0;have HR:Hid ((wr.setCell (Qz O 3) (U 0)).heap[w.heap.size]?=some (QL io.toArray 48)):=H F.r;have L:=H (setRow_self (wr.setCell (Qz O 3) (U 0)) w.heap.size io.toArray 48 (0,0) F.r);go_wp2_with (first|(go_at_call 37;refine z.mono ?_;rintro e w'⟨rfl,rfl⟩)|(refine eG HR ?_));refine Eq.mp (congrArg _ L.symm) ?_;refine GX (de dU _ _ w.heap.size 48 _ (0,0) _ dU HR underlying48 rfl E) dU ?_;rw[P];exact⟨_,rfl,⟨C,_,rfl,(λ_=>rfl),(λx hx=>by cases hx)⟩,F.bel⟩
         have S:((A:Int)==0)=false:=(by rw[QF];omega);have F:=H (u.set (o':={o with b:=0}) 4 Z (U 0) rfl rfl);clear h0;have HR:Hid ((wr.setCell (Qz O 4) (U 0)).heap[w.heap.size]?=some (QL io.toArray 48)):=H F.r;have L:=H (setRow_self (wr.setCell (Qz O 4) (U 0)) w.heap.size io.toArray 48 (0,0) F.r);go_wp2_with (first|(go_at_call 37;refine z.mono ?_;rintro e w'⟨rfl,rfl⟩)|(refine eG HR ?_));refine Eq.mp (congrArg _ L.symm) ?_;refine GX (de dU _ _ w.heap.size 48 _ (0,0) _ dU HR underlying48 rfl E) dU ?_;rw[P];exact⟨_,rfl,⟨C,_,rfl,(λ_=>rfl),(λx hx=>by cases hx)⟩,F.bel⟩
        have L:Hid (tu q=eD (f.drop (j+1)) (q.tail.drop (j+1)) (A+1) (if A=0 then {o with a:=n}else {o with b:=n})):=X;have b6:n<18446744073709551616:=M;clear M;have z:QA 37 #[.string d,I 20] wr λe w'=>e=QJ (.tuple #[U (n:Int),.bool true])/\w'=wr:=z
        have V:wr.cell? (Qz O 3)=some (U (o.a:Int)):=u.bx.cell 3;have c4:wr.cell? (Qz O 4)=some (U (o.b:Int)):=u.bx.cell 4;have d3:=u.bx.free 3;have d4:=u.bx.free 4;have a1:=H (λ(h:j+1<t.size)=>HD.out Z);by_cases h0:A=0
        ·have S:((A:Int)==0)=true:=(by rw[beq_iff_eq];omega);have F:=H (u.set (o':={o with a:=n}) 3 Z (U (n:Int)) rfl rfl);rw[GP h0]at L;clear h0 HD u;generalize o.a=oa at V;generalize o.b=ob at c4;go_wp2_with (go_at_call 37;refine z.mono ?_;rintro e w'⟨rfl,rfl⟩);go_roundw;(case rel=>exact⟨j+1,A+1,_,_,Z,Z,aY,aY,L,F,a1⟩);case measure=>exact QE
        have S:((A:Int)==0)=false:=(by rw[QF];omega);have F:=H (u.set (o':={o with b:=n}) 4 Z (U (n:Int)) rfl rfl);rw[GO h0]at L;clear h0 HD u;generalize o.a=oa at V;generalize o.b=ob at c4;go_wp2_with (go_at_call 37;refine z.mono ?_;rintro e w'⟨rfl,rfl⟩);go_roundw;(case rel=>exact⟨j+1,A+1,_,_,Z,Z,aY,aY,L,F,a1⟩);case measure=>exact QE
       by_cases l2:t[j].toNat=80
       ·have b1:(((t[j].toNat:Nat):Int)==78)=false:=(by rw[QF];omega);have b2:(((t[j].toNat:Nat):Int)==80)=true:=(by rw[beq_iff_eq];omega);have X:=H (show tu q=(d_ G).bind λx=>eD (f.drop (j+1)) (q.tail.drop (j+1)) A {o with ref:=x.1,p:=x.2} by
         rw[a0,GO l1,GO l1,GP l2];cases d_ G<;>rfl)
        clear a0 a2;have V:wr.cell? (Qz O 1)=some (I (o.ref:Int)):=u.bx.cell 1;have c4:wr.cell? (Qz O 2)=some (U (o.p:Int)):=u.bx.cell 2;have d3:=u.bx.free 1;have d4:=u.bx.free 2;cases M:d_ G with
        |none=>
         have P:=H (show tu q=none by rw[X,M];rfl);have z:=Az d wr R (by rw[a4];exact M);clear M;have H6:=H (λS pp:Nat=>(u.set (o':={o with ref:=S}) 1 Z (I (S:Int)) rfl rfl).set (o':={o with ref:=S,p:=pp}) 2 Z (U (pp:Int)) rfl rfl);generalize o.ref=oa at V;generalize o.p=ob at c4;go_wp2_with fail;refine z.mono ?_;rintro e w'⟨S,pp,rfl,rfl⟩;have F:=H (H6 S pp);clear z;exact ih P F.r F.bel
        |some x=>
         have⟨S,pp⟩:=x;have L:=H (show tu q=eD (f.drop (j+1)) (q.tail.drop (j+1)) A {o with ref:=S,p:=pp} by rw[X,M];rfl);have z:=Bn d wr R S pp (by rw[a4];exact M);clear M;have⟨F,a1⟩:=y7 ((u.set (o':={o with ref:=S}) 1 Z (I (S:Int)) rfl rfl).set (o':={o with ref:=S,p:=pp}) 2 Z (U (pp:Int)) rfl rfl) (λ(h:j+1<t.size)=>HD.out Z);clear HD u;generalize o.ref=oa at V;generalize o.p=ob at c4;go_wp2_with (go_at_call 38;refine z.mono ?_;rintro e w'⟨rfl,rfl⟩);go_roundw;(case rel=>exact⟨j+1,A,_,_,Z,Z,rfl,aY,L,F,a1⟩);case measure=>exact QE
       exfalso;have z:=b5.out;rcases z with z|z<;>omega
      obtain rfl:j=t.size:=Z;have P:=H (show tu q=some o by rw[HE,List.drop_eq_nil_of_le Z];rfl);obtain⟨s,d,y,rfl,z⟩:=ch u.dt;clear z;have HR:Hid (wr.heap[w.heap.size]?=some (QL io.toArray 48)):=H u.r;have G:Hid (wr.heap[O]?=some (QL (opC o (.slice s d y)).toArray 48)):=H u.bx;have⟨z,L,F⟩:=Qe (setRow_heap wr w.heap.size _ (opC o (.slice s d y)).toArray 48 (0,0) HR) (below_setRow u.bel (Fv _) (opC o (.slice s d y)).toArray) (dG u.dt (u.r.apart u.dt ar) (opC o (.slice s d y)).toArray);clear HE u HD;go_wp2_with (first|(refine Gt rfl 48 _ rfl O rfl 48 _ (0,0) _ G underlying48 rfl E ?_)|(refine Gf rfl 48 _ _ rfl _ _ rfl rfl 48 _ HR E rfl (by first|exact Lb _ _ _ _|simp[Value.oneCell',opC]) ?_));refine GX (de dU _ _ w.heap.size 48 _ (0,0) _ dU z underlying48 rfl E) dU ?_;rw[P];exact⟨_,rfl,⟨.slice s d y,_,rfl,(λh=>by cases h),(λx hx=>by cases hx;exact⟨rfl,F⟩)⟩,L⟩
    have b0:((m:Int) != (t.size:Int)+1)=true:=bG;have P:Hid (∀j,j<k+1->OV j q=false):=(λj hj=>HX.out j hj (by rw[HH];simp[x2]));clear x2;go_wp2;go_roundw;(case rel=>exact⟨k+1,Z,aY,P,trivial⟩);case measure=>exact QE
   have P:Hid (∀j,j<k+1->OV j q=false):=(λj hj=>HX.out j hj (by rw[HH];simp[x1]));go_wp2;go_roundw;(case rel=>exact⟨k+1,Z,aY,P,trivial⟩);case measure=>exact QE
  have P:Hid (tu q=none):=wU λj hj=>Y.out j Z;exact ih P T.r T.bel
structure Jh where
 mix:Int
 fifo:Int
 large:Int
 budget:Int
 key:Nat
 draws:List Int
def OD(c:Jh)(dv:Value):List Value:=[I c.mix,I c.fifo,I c.large,I c.budget,U (c.key:Int),dv]
def qT:List UInt8:=[107,101,121]
def pH:List UInt8:=[104,101,97,112]
def mu:List UInt8:=[100,114,97,119,115]
def dw:List (List UInt8)->Option (List Int)
 |[]=>some []
 |w::r=>(tJ w).bind λn=>(dw r).map (n:: ·)
def ij(c:Jh)(q:List (List UInt8)):Option Jh:=
 if q.headD []=qT/\q.length=2 then(yf (q.getD 1 [])).map (λk:Nat=>{c with key:=k})
 else(dw q.tail).bind λns=>if q.headD []=pH/\ns.length=4 then some {c with mix:=ns.getD 0 0,fifo:=ns.getD 1 0,large:=ns.getD 2 0,budget:=ns.getD 3 0}
  else if q.headD []=mu then some {c with draws:=c.draws++ns}else none
def oC(l:List UInt8)(n:Nat):Nat:=l.foldl (λn b=>n*16+pQ b.toNat) n
theorem E4:∀(l:List UInt8)(n:Nat),oK l=true->(n+1)*16 ^ l.length<=18446744073709551616->qF 16 l n=some (oC l n)
 |[],n,_,_=>rfl
 |c::r,n,ha,a=>by
  simp only[oK,List.all_cons,Gi,Hj]at ha
  rw[FN,Nat.pow_succ',<-Nat.mul_assoc]at a
  have b:(n*16+pQ c.toNat+1)*16 ^ r.length<=(n+1)*16*16 ^ r.length:=Gm _ Z
  have d:n*16+pQ c.toNat+1<=(n*16+pQ c.toNat+1)*16 ^ r.length:=Nat.le_mul_of_pos_right _ (Nat.pow_pos Z)
  rw[sL ⟨ha.1,Z⟩,E4 r _ ha.2 Z]
  rfl
theorem OG:∀(l:List UInt8)(n:Nat),oK l=false->qF 16 l n=none
 |[],n,h=>by cases h
 | c::r,n,h=>by
  rw[qF]
  split
  ·rename_i a
   have:oK r=false:=by
    simp only[oK,List.all_cons,Bool.and_eq_false_iff,decide_eq_false_iff_not]at h;exact h.resolve_left (λh=>h a.1)
   exact OG r _ this
  rfl
theorem Ma{l}(h:oK l=true)(b:0<l.length)(a:l.length<=16):yf l=some (oC l 0):=by
 rw[yf,dL,GP ⟨b,a⟩,E4 l 0 h];rw[Oi,GF];exact Fx (Nat.pow_le_pow_right Z a) ar
theorem MP{l}(h:¬(oK l=true/\0<l.length)):yf l=none:=by
 rw[yf,dL];split
 ·rename_i a;exact OG l 0 (by cases ha:oK l with|false=>rfl|true=>exact absurd ⟨ha,a.1⟩ h)
 rfl
theorem Lg{l:List UInt8}(h:16<l.length):yf l=none:=by rw[yf,dL,GO Z]
theorem JW(l:List UInt8)(k:Nat)(c:UInt8)(n)(h:l.drop k=c::l.drop (k+1)):oC (l.take (k+1)) n=oC (l.take k) n*16+pQ c.toNat:=by
 have a:l[k]?=some c:=by rw[<-List.head?_drop,h];rfl
 rw[F_,a];simp[oC]
theorem Jr:∀(l:List UInt8)(n:Nat),oK l=true->oC l n<(n+1)*16 ^ l.length
 |[],n,_=>by simp[oC]
 |c::r,n,ha=>by
  simp only[oK,List.all_cons,Gi,Hj]at ha
  have a:=Jr r (n*16+pQ c.toNat) ha.2
  have b:(n*16+pQ c.toNat+1)*16 ^ r.length<=(n+1)*16*16 ^ r.length:=Gm _ Z
  rw[FN,Nat.pow_succ',<-Nat.mul_assoc]
  exact FG a b
theorem J4{l}(h:oK l=true)(k:Nat):oK (l.take k)=true:=by
 rw[oK,List.all_eq_true]at h⊢;exact λx a=>h x (List.mem_of_mem_take a)
theorem LG{z sz bb}(S:Kt T e z sz bb)(a:W.ownsRow B e sz v n xs)(k:B<=W.heap.size){m:Nat}{b:List QN}(c:W.ownsRow B2 e sz v2 m b)(l:∀u∈b,u.oneCell'=true)(o:n+m<=2000000000):
  ∃d w',(Builtin.append_ #[T,T] T #[v,v2]).run prog W=.ok d w'/\w'.ownsRow B e sz d (n+m) (xs++b)/\W.grownBy w' v.ownBlock:=by
 rcases c.2 with⟨rfl,p⟩|⟨g,d,q,rfl,F,r,G,K,L,s⟩;·subst p;have t:b=[]:=Ik (by rw[c.1];simp);subst t;have⟨x,f,y,i,A⟩:=G0 S.info;subst i;refine⟨v,W,run_append_owned_none (P:=prog) (w:=W) B T T e x _ S.und f v _ _ a,by simpa using a,⟨rfl,rfl,rfl,Fv _,λ_ _ _=>rfl⟩⟩
 exact KZ S a k (Qz g 0) m d b c.1 (λj u i=>by
  have f:=(Fz.1 i).1;rw[Addr.add_mid,Oi,GT _ _ j _ _ _ r,<-i,<-s,Hf (by rw[<-c.1];exact f),Gg]) l o
theorem nF(c)(a:QP)(m n:Nat):(OD c (.slice a m n)).toArray.all (·.oneCell')=true:=by simp[OD,Value.oneCell']
def iv(l:List Int):List Value:=l.map (Value.int .i64)
theorem ze(l):∀u∈iv l,u.oneCell'=true:=λu a=>by
 simp only[iv,FQ]at a
 obtain⟨_,_,rfl⟩:=a
 rfl
def jx:List Value:=[I 0,I 0,I 0,I 0,U 0,C]
structure St5(B0:Nat)(w W:QM)(C R:Nat)(c:Jh)(dv:QN):Prop where
 r:Bx W R 30 jx
 bx:Bx W C 30 (OD c dv)
 dt:W.ownsRow B0 3 1 dv c.draws.length (iv c.draws)
 bel:D w W
 ge:w.heap.size<=C/\w.heap.size<=R
 ne:C≠R
theorem St5.mk0(w:QM)(c:Jh)(dv:QN)(h:w.ownsRow B0 3 1 dv c.draws.length (iv c.draws)):St5 B0 w ((w.alloc (QL (OD c dv).toArray 30)).alloc (QL jx.toArray 30)) w.heap.size (w.heap.size+1) c dv:=by
 have b:(w.alloc (QL (OD c dv).toArray 30)).heap.size=w.heap.size+1:=bH;have d:=(Fu w.heap.size w).alloc (Fv _) (QL (OD c dv).toArray 30);have a:=d.alloc Z (QL jx.toArray 30);refine⟨?_,?_,own_below h a,a,Z,Z⟩;·unfold Bx;rw[<-b,ao]
 unfold Bx;rw[eg _ _ _ Z,ao]
theorem St5.below{B0 w W W' C R c dv}(h:St5 B0 w W C R c dv)(a:D W W'):St5 B0 w W' C R c dv:=
 ⟨h.r.below a h.r.lt,h.bx.below a h.bx.lt,own_below h.dt a,h.bel.trans (a.mono h.bel.size),h.ge,h.ne⟩
theorem St5.set{B0 w W C R c}{c':Jh}{dv}(h:St5 B0 w W C R c dv)(i:Nat)(v:QN)(b:c'.draws=c.draws)(d:(OD c dv).set i v=OD c' dv):St5 B0 w (W.setCell (Qz C i) v) C R c' dv:=by
 have a:=h.bx.set i v;rw[d]at a;exact⟨h.r.other (Iq h.ne) v,a,b▸fY h.dt (h.bx.apart h.dt ar) v,h.bel.setCell h.ge.1 v,h.ge,h.ne⟩
theorem St5.grow{C c}{a:QN}(h:St5 B0 w W C R c dv)(b:W.grownBy W' a.ownBlock)(d:W.ownsRow w.heap.size 3 1 a n xs)(f:∀r,dv.ownBlock=some r->r<w.heap.size):St5 B0 w W' C R c dv:=
 ⟨h.r.grown b (h.r.apart d ar),h.bx.grown b (h.bx.apart d ar),h.dt.kept b (by
  cases e:dv.ownBlock with
  |none=>exact .inl rfl
  |some r=>exact .inr (λa=>by have:=f r e;have:=(d.lt r a.symm).1;omega)),h.bel.grown b h.bel.size (λr e=>(d.lt r e).1),h.ge,h.ne⟩
theorem St5.drawn{a b:QM}{C c}{ns:List Int}{i:QN}{o:Nat}{p:List QN}(h:St5 B0 w W C R c dv)(d:W.grownBy a none)(f:a.ownsRow w.heap.size 3 1 i o p)(g:a.grownBy b i.ownBlock)(j:b.ownsRow w.heap.size 3 1 v2 (c.draws++ns).length (iv (c.draws++ns)))(q:B0<=w.heap.size):
  St5 B0 w (b.setCell (Qz C 5) v2) C R {c with draws:=c.draws++ns} v2:=by
 have k:=h.r.grown d (λe=>by cases e);have l:=h.bx.grown d (λe=>by cases e);have s:=k.grown g (k.apart f ar);have m:=l.grown g (l.apart f ar);have n:=h.bel.grown d h.bel.size (λr e=>by cases e);have t:=n.grown g n.size (λr e=>(f.lt r e).1);exact⟨s.other (Iq h.ne) v2,by simpa[OD]using m.set 5 v2,ia (fY j (m.apart j ar) v2) q,t.setCell h.ge.1 v2,h.ge,h.ne⟩
def Nz(B0 i:Nat)(W:World)(c':Jh)(ok:Bool)(v e dv:Value):Prop:=v=.tuple #[.agg (OD c' dv).toArray,.bool ok]/\W.ownsRow B0 3 1 dv c'.draws.length (iv c'.draws)/\(dv=e\/∀r,dv.ownBlock=some r->i<=r)
structure On(B0:Nat)(w W:QM)(R C:Nat)(c:Jh)(dv:QN):Prop where
 r:W.heap[R]?=some (QL jx.toArray 30)
 o:W.heap[C]?=some (QL (OD c dv).toArray 30)
 q:(W.setRow R (OD c dv).toArray).heap[R]?=some (QL (OD c dv).toArray 30)
 b:D w (W.setRow R (OD c dv).toArray)
 d:(W.setRow R (OD c dv).toArray).ownsRow B0 3 1 dv c.draws.length (iv c.draws)
theorem St5.fin{C c}(h:St5 B0 w W C R c dv):On B0 w W R C c dv:=
 ⟨h.r,h.bx,setRow_heap W R _ (OD c dv).toArray 30 (0,0) h.r,below_setRow h.bel h.ge.2 _,dG h.dt (h.r.apart h.dt ar) _⟩
theorem BZ{p X Y a:Prop}(x:X)(y:Y)(z:a)(f:X->Y->a->p:=by(
 intro x y z
 go_wp2_with (first|(refine Gt rfl 30 _ rfl _ rfl 30 _ (0,0) _ y.o underlying30 rfl E ?_)|(refine Gf rfl 30 _ _ rfl _ _ rfl rfl 30 _ y.r E rfl (by first|exact nF _ _ _ _|simp[Value.oneCell',OD]) ?_))
 refine GX (de dU _ _ _ 30 _ (0,0) _ dU y.q underlying30 rfl E) dU ?_
 rw[x]
 exact⟨_,rfl,⟨_,rfl,y.d,by first|exact .inl rfl|exact .inr z⟩,y.b⟩)):p:=f x y z
theorem Mo(c:Jh)(dv:QN)(v q B)(B0:Nat)(w)(b:Ws B w v q)(a5:0<q.length)(hl:q.length<=1048576)(F:∀x∈q,x.length<=1048576)(a:w.ownsRow B0 3 1 dv c.draws.length (iv c.draws))(b2:B0<=w.heap.size)(b9:c.draws.length<=1000000000):
  QA 23 #[.agg (OD c dv).toArray,v] w λe w'=>∃r,e=QJ r/\(∃d,Nz B0 w.heap.size w' ((ij c q).getD c) (ij c q).isSome r dv d)/\D w w':=by
 obtain⟨g,qc,rfl,hg,b3⟩:∃g qc,v=Vl g q.length qc/\g<w.heap.size/\q.length<=qc:=by
  rcases b.2 with⟨rfl,h0⟩|⟨g,d,f,rfl,hg,i,h3,_⟩;·omega
  exact⟨g,d,rfl,G_ i,h3⟩
 have HQ:=H (λ(W:QM)(hb:D w W)(k:Nat)(hk:k<q.length)=>(show W.cell? (Qz g k)=some (.string (bs (q.getD k []))) by rw[hb.cell hg];exact Ex b rfl hk));have a6:=H (λ(k:Nat)(hk:k<q.length)=>(show(q.getD k []).length<=1048576 by
  have:q.getD k []=q[k]:=by simp[hk]
  rw[this];exact F _ (Iw hk)))
 have⟨m,d⟩:=Qa q.length;rw[d]at a5 hl b3⊢;have T:=H d;clear b d F;obtain⟨R,S,Q,rfl,b⟩:=ch a;clear b;have j:=H (St5.mk0 w c (.slice R S Q) a);have⟨W5,b⟩:=Qb ((w.alloc (QL (OD c (.slice R S Q)).toArray 30)).alloc (QL jx.toArray 30));rw[<-b]at j;have a7:=HQ.out w (Fu _ _) 0 (by rw[T];exact a5);have⟨V,d⟩:=Qb (bs (q.getD 0 []));rw[<-d]at a7;have M:=H (show q.headD []=V.toList by rw[d,Lib.toList_data,kO];cases q<;>simp);clear d;have⟨X,b4⟩:=y7 b (show∀r,(Value.slice R S Q).ownBlock=some r->r<w.heap.size from λr e=>(a.lt r e).2);have Y:=H (λ(W:QM)(hb:D w W)=>(show W.cell? (Qz g 0)=some (.string V) by rw[hb.cell hg];exact a7));clear b a;go_enter func23,ntmps23;by_cases x2:V.toList=[107,101,121]/\m=2
 ·have⟨x1,x2⟩:=x2;subst x2;have b:=T.out;have KT:=H (show q.headD []=qT/\q.length=2 from⟨by rw[M];exact x1,T⟩);have a3:(V.toList==[107,101,121])=true:=by rw[beq_iff_eq];exact x1
  have a:=HQ.out w (Fu _ _) 1 (by rw[T];omega);have F:=a6.out 1 (by rw[T];omega);clear b;have⟨o,y⟩:=Qb (q.getD 1 []);rw[<-y]at a F;have K:=H (show ij c q=(yf o).map (λk:Nat=>{c with key:=k}) by rw[ij,GP KT.out,y]);clear y;have⟨b,G⟩:=Qb (bs o);rw[<-G]at a;have a1:b.size<=1048576:=by rw[G,gz];exact F
  have⟨a2,N⟩:=y7 (show b.data.toList=o by rw[G,kO]) (show o.length=b.size by rw[G,gz]);clear G F;by_cases hA:oK o=true/\0<b.size
  ·have f:=IZ b W5 a1 (by rw[a2];exact hA.1) hA.2;rw[a2]at f;go_wp2_with fail;rw[X]at f;refine f.mono ?_;rintro e w'⟨hg,hc,rfl,i,x,u⟩;rw[<-X.out]at i u;have⟨L,d⟩:=y7 (j.below u) x;have a8:=H (show¬hg=w.heap.size by have:=j.bx.lt;omega);have b6:=H (show¬w.heap.size=hg by have:=j.bx.lt;omega);have⟨HA,b0⟩:=y7 hA.1 hA.2;clear f x u hA i;by_cases i:16<b.size
   ·have A:=H (show ij c q=none by rw[K,Lg (by rw[N];exact i)];rfl);have O:=H L.fin;(go_upto_region 4 with fail);exact BZ A O A
   have A:=H (show ij c q=some {c with key:=oC o 0} by rw[K,Ma HA (by rw[N];exact b0) (by rw[N];omega)];rfl);have c4:w'.cell? (Qz w.heap.size 4)=some (U (c.key:Int)):=L.bx.cell 4;have f4:=L.bx.free 4;have⟨H7,P⟩:=y7 (L.set (c':={c with key:=0}) 4 (U 0) rfl rfl) (d.other (p:=(Qz w.heap.size 4)) a8 (U 0));have b7:b.size<=16:=Z;clear i;go_wp2_with fail;go_loopw [42] (λi wr=>∃(k:Nat),k<=b.size/\i=I (k:Int)/\Hid (St5 B0 w wr w.heap.size (w.heap.size+1) {c with key:=oC (o.take k) 0} (.slice R S Q))/\Hid (RowV wr hg 5 (hv o))) (λi _=>b.size-(intOf i).toNat);(case atStart=>exact⟨0,FH _,rfl,H7,P⟩);case round=>
    clear H7 P c4 f4;obtain⟨k,hk,rfl,H7,P⟩:=hrel;by_cases a4:k<b.size
    ·have c6:=Dd P k (by rw[N];exact a4);have c4:wr.cell? (Qz w.heap.size 4)=some (U ((oC (o.take k) 0:Nat):Int)):=H7.bx.cell 4;have f4:=H7.bx.free 4;have b8:=Jl HA k;have c7:oC (o.take k) 0<1152921504606846976:=by
      have h1:=Jr (o.take k) 0 (J4 HA k);rw[Oi,GF]at h1;have h2:16 ^ (o.take k).length<=16 ^ 15:=Nat.pow_le_pow_right Z (by rw[Hm];omega);have h3:(16:Nat) ^ 15=1152921504606846976:=ar;omega
     have d:k<o.length:=(by rw[N];exact a4);have a0:oC (o.take (k+1)) 0=oC (o.take k) 0*16+(iN o).getD k 0:=by
      rw[JW o k o[k] 0 (List.drop_eq_getElem_cons d)];simp[iN,d]
     have H8:Hid (St5 B0 w (wr.setCell (Qz w.heap.size 4) (U ((oC (o.take k) 0:Nat)*16+(((iN o).getD k 0:Nat):Int)))) w.heap.size (w.heap.size+1) {c with key:=oC (o.take (k+1)) 0} (.slice R S Q)):=(H7.set (c':={c with key:=oC (o.take (k+1)) 0}) 4 (U ((oC (o.take k) 0:Nat)*16+(((iN o).getD k 0:Nat):Int))) rfl (by simp only[a0,OD];rfl));have b5:=H (P.other (p:=(Qz w.heap.size 4)) a8 (U ((oC (o.take k) 0:Nat)*16+(((iN o).getD k 0:Nat):Int))));clear H7 P a0 d;generalize oC (o.take k) 0=z at*;generalize (iN o).getD k 0=d at*;go_wp2_with fail;go_roundw;(case rel=>exact⟨k+1,Z,aY,H8,b5⟩);case measure=>exact QE
    have d:=H (show St5 B0 w wr w.heap.size (w.heap.size+1) {c with key:=oC o 0} (.slice R S Q) by
     have h1:=H7.out;rw[Ge (by rw[N];omega)]at h1;exact h1)
    clear H7 P;have O:=H d.fin;(go_upto_region 11 with fail);exact BZ A O A
  have A:=H (show ij c q=none by rw[K,MP (by rw[N];exact hA)];rfl);have f:=I_ b W5 a1 (by rw[a2];exact hA);clear hA;go_wp2_with fail;rw[X]at f;refine f.mono ?_;rintro e w'⟨ha,hc,rfl,u⟩;rw[<-X.out]at u;have L:=H (j.below u);clear f u;have O:=H L.fin;go_upto_region 4 with fail
  exact BZ A O A
 have NK:Hid (¬(q.headD []=qT/\q.length=2)):=(λh=>x2 ⟨by rw[<-M.out];exact h.1,by rw[<-T.out];exact h.2⟩);have hb:(V.toList==[107,101,121])=false\/(V.toList==[107,101,121])=true/\((m:Int)==2)=false:=by
  by_cases x1:V.toList=[107,101,121];·exact .inr ⟨by rw[beq_iff_eq];exact x1,by rw[QF];intro h;exact x2 ⟨x1,Z⟩⟩
  exact .inl (by rw[QF];exact x1)
 clear x2;rcases hb with a3|⟨a3,N⟩<;>by_cases b5:qc=1
 all_goals
  try subst b5
  go_wp2
  try simp only[a3]
  try simp only[N]
  refine Eq.mp (congrArg _ X) ?_
  go_loopw [10,58] (λd i wr=>∃(k:Nat)(f:List Int),k<=m-1/\i=I (k:Int)/\f.length=k/\Hid (dw q.tail=(dw (q.tail.drop k)).map (f ++ ·))/\Hid (wr.ownsRow w.heap.size 3 1 d f.length (iv f))/\Hid (St5 B0 w wr w.heap.size (w.heap.size+1) c (.slice R S Q))) (λ_ i _=>m-1-(intOf i).toNat)
  case atStart=>exact⟨0,[],FH _,rfl,rfl,H bH,H ⟨by simp[iv],.inl ⟨rfl,rfl⟩⟩,j⟩
  case round=>
   clear j;obtain⟨k,f,hk,rfl,P,HI,u,j⟩:=hrel;by_cases a4:k<m-1
   ·try(exfalso;omega)
    all_goals
     have a1:1+k<m:=Z
     have a:=HQ.out _ j.bel (1+k) (by rw[T];omega)
     have F:=a6.out (1+k) (by rw[T];omega)
     have⟨o,y⟩:=Qb (q.getD (1+k) [])
     rw[<-y]at a F
     have a0:dw (q.tail.drop k)=(tJ o).bind λn=>(dw (q.tail.drop (k+1))).map (n:: ·):=by
      have d:k<q.tail.length:=(by rw[List.length_tail,T];omega);rw[List.drop_eq_getElem_cons d,dw,y];have:q.tail[k]=q.getD (1+k) []:=by
       have h9:k+1<q.length:=(by rw[T];omega);rw[Nat.add_comm 1 k];simp[h9]
      rw[this]
     have z:=H a0
     clear a0 y
     have⟨b,G⟩:=Qb (bs o)
     rw[<-G]at a
     have K:=Kx b wr (by rw[G,gz];exact F)
     rw[show b.data.toList=o by rw[G,kO]]at K
     clear G F
     cases d:tJ o with
     |none=>
      have A:=H (show ij c q=none by rw[ij,GO NK.out,HI,z,d];rfl);rw[d]at K;clear d HI u;have K:QA 40 #[.string b] wr λe w'=>e=QJ (.tuple #[I 0,.bool false])/\w'=wr:=K
      have O:=H j.fin;clear j;go_upto_region 18 with(go_at_call 40;refine K.mono ?_;rintro e w'⟨rfl,rfl⟩)
      exact BZ A O A
     | some n=>
      rw[d]at K;have K:QA 40 #[.string b] wr λe w'=>e=QJ (.tuple #[I n,.bool true])/\w'=wr:=K
      have a2:f.length<=2000000:=Z;have⟨v1,w1,e1,o1,b1⟩:=DL tE u j.bel.size #[I n] rfl mL a2;have L:Hid (St5 B0 w w1 w.heap.size (w.heap.size+1) c (.slice R S Q)):=j.grow b1 u b4;have O1:=H (show w1.ownsRow w.heap.size 3 1 v1 (f++[n]).length (iv (f++[n])) by rw[show iv (f++[n])=iv f++[I n] by simp[iv],FC];exact o1);have a8:=H (show dw q.tail=(dw (q.tail.drop (k+1))).map ((f++[n]) ++ ·) by
       rw[HI,z,d];cases dw (q.tail.drop (k+1))<;>simp)
      clear d HI z u o1 b1 j a2;go_wp2_with (first|(go_at_call 40;refine K.mono ?_;rintro e w'⟨rfl,rfl⟩)|(at_builtin;refine cY rfl (.tmp 70) (.tmp 72) (by with_reducible rfl) rfl rfl rfl e1 ?_));go_roundw;(case rel=>exact⟨k+1,f++[n],Z,aY,by simp[P],a8,O1,L⟩);case measure=>exact QE
   have HN:=H (show dw q.tail=some f by
    rw[HI,List.drop_eq_nil_of_le (by rw[List.length_tail,T];omega)];simp[dw])
   have a1:k=m-1:=Z;clear HI;by_cases y1:V.toList=[104,101,97,112]
   ·have a8:=Y.out _ j.bel;obtain⟨na,nn,nc,rfl,a2⟩:=ch u;have z:=H a2;clear a2;by_cases h4:nn=4
    ·subst h4;obtain⟨d,rfl,b8⟩:∃d,na=some (Qz d 0)/\w.heap.size<=d:=by
      rcases u.2 with⟨h9,_⟩|⟨g9,Q,c6,h9,b6,_⟩;·cases h9
      simp only[Value.slice.injEq]at h9;exact⟨g9,h9.1,b6⟩
     have x:∀i,i<4->wr.cell? (Qz d i)=some (I (f.getD i 0)):=λi hi=>by
      have h0:=u.out;rw[<-z.out]at h0;have h1:=(RowV.ofOwns h0).cell i (by rw[iv,Gz];have:=z.out;omega);rw[h1];have h2:i<f.length:=(by have:=z.out;omega);simp[iv,h2]
     have n0:=x 0 Z;have n1:=x 1 Z;have n2:=x 2 Z;have n3:=x 3 Z;have c0:wr.cell? (Qz w.heap.size 0)=some (I c.mix):=j.bx.cell 0;have c1:wr.cell? (Qz w.heap.size 1)=some (I c.fifo):=j.bx.cell 1;have c2:wr.cell? (Qz w.heap.size 2)=some (I c.large):=j.bx.cell 2;have c3:wr.cell? (Qz w.heap.size 3)=some (I c.budget):=j.bx.cell 3;have c4:wr.cell? (Qz w.heap.size 4)=some (U (c.key:Int)):=j.bx.cell 4;have c5:wr.cell? (Qz w.heap.size 5)=some (.slice R S Q):=j.bx.cell 5;have f0:=j.bx.free 0;have f1:=j.bx.free 1;have f2:=j.bx.free 2;have f3:=j.bx.free 3;have b0:¬d=w.heap.size:=λe=>by
      have⟨x9,K⟩:=ts u (r:=d) rfl;have h8:=j.bx;unfold Bx at h8;rw[e,h8]at K;simp at K
     have b7:¬w.heap.size=d:=λe=>b0 e.symm
     have A:=H (show ij c q=some {c with mix:=f.getD 0 0,fifo:=f.getD 1 0,large:=f.getD 2 0,budget:=f.getD 3 0} by
      rw[ij,GO NK.out,HN,Option.bind_some,GP ⟨by rw[M];exact y1,z.symm⟩])
     have L:=H ((((j.set (c':={c with mix:=f.getD 0 0}) 0 (I (f.getD 0 0)) rfl rfl).set (c':={c with mix:=f.getD 0 0,fifo:=f.getD 1 0}) 1 (I (f.getD 1 0)) rfl rfl).set (c':={c with mix:=f.getD 0 0,fifo:=f.getD 1 0,large:=f.getD 2 0}) 2 (I (f.getD 2 0)) rfl rfl).set (c':={c with mix:=f.getD 0 0,fifo:=f.getD 1 0,large:=f.getD 2 0,budget:=f.getD 3 0}) 3 (I (f.getD 3 0)) rfl rfl);clear u j x P a1;generalize f.getD 0 0=z0 at*;generalize f.getD 1 0=z1 at*;generalize f.getD 2 0=z2 at*;generalize f.getD 3 0=z3 at*;go_upto_region 26 with(fail)
     have⟨W9,K⟩:=Qb ((((wr.setCell (Qz w.heap.size 0) (I z0)).setCell (Qz w.heap.size 1) (I z1)).setCell (Qz w.heap.size 2) (I z2)).setCell (Qz w.heap.size 3) (I z3));rw[<-K]at L;refine Eq.mp (congrArg _ K) ?_;clear K;have O:=H L.fin;exact BZ A O A
    have d:((nn:Int)==4)=false:=(by rw[QF];omega);have A:=H (show ij c q=none by rw[ij,GO NK.out,HN,Option.bind_some,GO (λh=>h4 (by rw[z];exact h.2)),GO (by rw[M,y1];decide)]);clear u h4 P a1;have O:=H j.fin;clear j;(go_upto_region 30 with fail);exact BZ A O A
   by_cases z:V.toList=[100,114,97,119,115]
   ·have a8:=Y.out _ j.bel;obtain⟨na,nn,nc,rfl,a2⟩:=ch u;clear a2;have c5:wr.cell? (Qz w.heap.size 5)=some (.slice R S Q):=j.bx.cell 5;have A:=H (show ij c q=some {c with draws:=c.draws++f} by rw[ij,GO NK.out,HN,Option.bind_some,GO (by rw[M,z];simp[pH]),GP (by rw[M,z];rfl)]);have⟨v1,w1,e1,o1,d⟩:=LG tE (B:=w.heap.size) (v:=C) (n:=0) (xs:=[]) ⟨bH,.inl ⟨rfl,rfl⟩⟩ j.bel.size j.dt (ze _) Z;have b0:wr.heap.size<=w1.heap.size:=d.size;have⟨v2,w2,e2,o2,g2⟩:=LG tE o1 (by have:=j.bel.size;omega) (u.kept d (by
     cases e9:(Value.slice na nn nc).ownBlock with
     |none=>exact .inl rfl
     |some r=>exact .inr (λh=>by cases h))) (ze _) (by have:=P;omega)
    have L:=H (j.drawn (ns:=f) d o1 g2 (by rw[show iv (c.draws++f)=([]++iv c.draws)++iv f by simp[iv],FC];simpa using o2) b2);have N:Bx w2 w.heap.size 30 (OD c (.slice R S Q)):=(j.bx.grown d (λh=>by cases h)).grown g2 ((j.bx.grown d (λh=>by cases h)).apart o1 ar);have b8:w2.cell? (Qz w.heap.size 5)=some (.slice R S Q):=N.cell 5;have c6:=N.free 5;obtain⟨va,vm,vc,rfl,b6⟩:=ch o2;have b7:Hid (∀r,(Value.slice va vm vc).ownBlock=some r->w.heap.size<=r):=λr e=>(o2.lt r e).1;clear u j P a1 o1 d o2 g2 N b0 b6;go_upto_region 29 with(first|(at_builtin;refine cY rfl (.const (C)) (.tmp 108) (by with_reducible rfl) rfl rfl rfl e1 ?_;clear e1)|(at_builtin;refine cY rfl (.tmp 109) (.tmp 110) (by with_reducible rfl) rfl rfl rfl e2 ?_;clear e2))
    have⟨W9,K⟩:=Qb (w2.setCell (Qz w.heap.size 5) (.slice va vm vc));rw[<-K]at L;refine Eq.mp (congrArg _ K) ?_;clear K;have O:=H L.fin;exact BZ A O b7
   have d:=H (show¬q.headD []=pH by rw[M];exact y1);have ND:=H (show¬q.headD []=mu by rw[M];exact z);have b0:(V.toList==[104,101,97,112])=false:=(by rw[QF];exact y1);have b6:(V.toList==[100,114,97,119,115])=false:=(by rw[QF];exact z);have a8:=Y.out _ j.bel;have A:=H (show ij c q=none by rw[ij,GO NK.out,HN,Option.bind_some,GO (λh=>d.out h.1),GO ND.out]);clear u;have O:=H j.fin;clear j;(go_upto_region 30 with fail);exact BZ A O A
structure rP where
 cf:Jh
 ops:List sT
 bad:List Int
def rZ(i:Nat)(l:List UInt8)(s:rP):rP:=
 if cE l []=[]then s else
  match tu (cE l [])with
  |some o=>{s with ops:=s.ops++[o]}
  |none=>match ij s.cf (cE l [])with
   |some c=>{s with cf:=c}
   |none=>{s with bad:=s.bad++[((i+1:Nat):Int)]}
def gJ:List (List UInt8)->Nat->rP->rP
 |[],_,s=>s
 |l::r,i,s=>gJ r (i+1) (rZ i l s)
def ik:rP:=⟨⟨2,4,2,100,1,[]⟩,[],[]⟩
def BK:rP:=⟨⟨0,0,0,0,0,[]⟩,[],[]⟩
def kI(t:List UInt8):rP:=if 20000<t.length then BK else gJ (kn t []) 0 ik
theorem O4:∀(l cur:List UInt8),(cE l cur).length<=l.length+1
 |[],cur=>by unfold cE;split<;>simp
 |c::r,cur=>by
  unfold cE
  have a:=O4 r []
  have b:=O4 r (cur++[c])
  split
  ·split<;>simp<;>omega
  simp;omega
theorem r_:∀(l cur x:List UInt8),x∈cE l cur->x.length<=l.length+cur.length
 |[],cur,x,h=>by
  unfold cE at h
  split at h
  ·cases h
  simp at h;subst h;simp
 | c::r,cur,x,h=>by
  unfold cE at h
  split at h
  ·split at h
   ·have:=r_ r [] x h;simp at this⊢;omega
   rcases F4.1 h with h|h
   ·subst h;simp
   have:=r_ r [] x h;simp at this⊢;omega
  have:=r_ r (cur++[c]) x h;simp at this⊢;omega
theorem xy:∀(l cur x:List UInt8),x∈kn l cur->x.length<=l.length+cur.length
 |[],cur,x,h=>by cases h
 | c::r,cur,x,h=>by
  rw[OW]at h
  split at h
  ·rcases F4.1 h with h|h
   ·subst h;simp
   have:=xy r [] x h;simp at this⊢;omega
  split at h
  ·simp at h;subst h;simp;omega
  have:=xy r (cur++[c]) x h;simp at this⊢;omega
theorem OX:∀(l cur:List UInt8),(kn l cur).length<=l.length
 |[],cur=>by simp[kn]
 |c::r,cur=>by
  rw[OW]
  have a:=OX r []
  have b:=OX r (cur++[c])
  split
  ·simp;omega
  split<;>simp<;>omega
theorem xA:∀(ws:List (List UInt8))(ns:List Int),dw ws=some ns->ns.length=ws.length
 |[],ns,h=>by simp[dw]at h;subst h;rfl
 | w::r,ns,h=>by
  unfold dw at h
  cases a:tJ w with
  |none=>rw[a]at h;cases h
  | some n=>
   cases b:dw r with
   |none=>rw[a,b]at h;cases h
   |some m=>
    rw[a,b]at h
    simp at h
    subst h
    simp[xA r m b]
theorem AC{c}{b:Jh}{q}(h:ij c q=some b):b.draws.length<=c.draws.length+q.length:=by
 unfold ij at h;split at h
 ·cases a:yf (q.getD 1 [])with
  |none=>rw[a]at h;cases h
  |some k=>rw[a]at h;simp at h;subst h;simp
 cases a:dw q.tail with
 |none=>rw[a]at h;cases h
 |some e=>
  rw[a,Option.bind_some]at h;have d:=xA _ _ a;rw[List.length_tail]at d;split at h;·simp at h;subst h;simp
  split at h;·simp at h;subst h;simp;omega
  cases h
def K2(W W':World):Prop:=W.heap.size<=W'.heap.size/\∀(g:Nat)(x:Array Value)(t:TypeId),W.heap[g]?=some (.cells x t)->(t=22\/t=5\/t=9)->W'.heap[g]?=some (.cells x t)
theorem K2.refl(W):K2 W W:=⟨Fv _,λ_ _ _ h _=>h⟩
theorem K2.trans{A B C}(h:K2 A B)(k:K2 B C):K2 A C:=⟨Fx h.1 k.1,λg x t b a=>k.2 g x t (h.2 g x t b a) a⟩
theorem K2.below(h:D W W'):K2 W W':=⟨h.size,λg x t a _=>by rw[h.block g (G_ a)];exact a⟩
theorem K2.grown{sz:Nat}(h:W.grownBy W' v.ownBlock)(c:W.ownsRow B e sz v n xs)(d:¬(e=22\/e=5\/e=9)):K2 W W':=⟨h.size,λg x t a f=>by
 rw[h.block g (G_ a) (λq=>by
  have⟨y,b⟩:=ts c q.symm
  rw[a]at b
  simp at b
  exact d (b.2▸f))];exact a⟩
theorem K2.row(h:Bx W g e cs)(b:¬(e=22\/e=5\/e=9))(c:Array QN):K2 W (W.setRow g c):=⟨bH,λk x t a d=>by
 rw[setRow_other _ _ _ _ (λq=>by
  subst q
  unfold Bx at h
  rw[h]at a
  simp at a
  exact b (a.2▸d))];exact a⟩
theorem Lns.keep{ls}(h:Lns B W v ls)(k:K2 W W'):Lns B W' v ls:=by
 have⟨ps,i,f,j⟩:=h;refine⟨ps,i,⟨f.1,?_⟩,λp l=>?_⟩
 ·rcases f.2 with b|⟨g,d,e,rfl,m,n,a⟩;·exact .inl b
  exact .inr ⟨g,d,e,rfl,m,k.2 g _ _ n (.inl rfl),a⟩
 rcases j p l with b|⟨g,c,a,d,⟨x,e,m⟩⟩;·exact .inl b
 exact .inr ⟨g,c,a,⟨by have:=k.1;omega,d.2⟩,x,k.2 g _ _ e (.inr (.inl rfl)),m⟩
theorem K2.own(k:K2 W W'){sz:Nat}(h:W.ownsRow B e sz v n xs)(d:e=22\/e=5\/e=9):W'.ownsRow B e sz v n xs:=by
 refine⟨h.1,?_⟩;rcases h.2 with f|⟨g,b,c,rfl,i,j,a⟩;·exact .inl f
 exact .inr ⟨g,b,c,rfl,i,k.2 g _ _ j d,a⟩
theorem Ni{z sz bb}(S:Kt T e z sz bb)(f:W.ownsRow B e sz v n xs)(A:B<=W.heap.size)(c:Array QN)(r:c.size=sz)(s:∀u∈c.toList,u.oneCell'=true)(F:n<=2000000):
  ∃d w',(Builtin.append_ #[T,T] T #[v,Vl W.heap.size 1 1]).run prog (W.alloc (QL c e))=.ok d w'/\w'.ownsRow B e sz d (n+1) (xs++c.toList)/\W.grownBy w' v.ownBlock/\(d.ownBlock=v.ownBlock\/d.ownBlock=some (W.heap.size+1)):=by
 have a:(W.alloc (QL c e)).ownsRow B e sz v n xs:=f.alloc _;have i:(W.alloc (QL c e)).heap.size=W.heap.size+1:=bH;have⟨t,l,m,o,p⟩:=G0 S.info;have w:(n+1)*bb<=2000001*100:=Nat.mul_le_mul Z S.small;have⟨d,w',e1,x,g,_,q⟩:=run_append_own_at (P:=prog) (W.alloc (QL c e)) B T T e t _ sz bb S.und l m o p S.cells S.pos v n _ a (Qz W.heap.size 0) 1 1 c.toList (by simp[r]) (λj u a=>by
  have b:(W.alloc (QL c e)).heap[W.heap.size]?=some (QL c e):=ao _ _;rw[Addr.add_mid,Oi,GT _ _ j _ _ _ b];simpa using a) s (by unfold maxLen;omega) Z Z
 refine⟨d,w',e1,x,⟨g.os,g.tape,g.output,by have:=g.size;omega,λk y b=>?_⟩,by rw[i]at q;exact q⟩;rw[g.block k Z b,eg _ _ _ y]
def Ue(e:Addr)(v:Value):Prop:=v=.iface 392 (.pointer (some e))\/∃s,v=wE s e
theorem Ue.word(s a1):Ue a1 (wE s a1):=.inr ⟨s,rfl⟩
def Er(e:Addr)(ok:Bool)(v:Value):Prop:=if ok then v=.nilIface else Ue e v
theorem jA(s:ByteArray)(a b n:Nat)(f:Addr)(w:QM)(g:s.size<=1048576)(c:1<=a)(d:a<=16)(i:b<=20)(j:QG w 1 0 (.iface 392 (.pointer (some f))))(h:dL a b s.data.toList=some n):
  QA 82 #[.string s,U (a:Int),I (b:Int)] w λe w'=>e=QJ (.tuple #[U (n:Int),.nilIface])/\D w w':=by
 refine(Cp s a b f w g c d i j).mono ?_;rintro e w'⟨rfl,d⟩;rw[h];exact⟨rfl,d⟩
theorem iT(s:ByteArray)(a b:Nat)(c:Addr)(w:QM)(g:s.size<=1048576)(d:1<=a)(f:a<=16)(i:b<=20)(j:QG w 1 0 (.iface 392 (.pointer (some c))))(h:dL a b s.data.toList=none):
  QA 82 #[.string s,U (a:Int),I (b:Int)] w λe w'=>e=QJ (.tuple #[U 0,wE s c])/\D w w':=by
 refine(Cp s a b c w g d f i j).mono ?_;rintro e w'⟨rfl,f⟩;rw[h];exact⟨rfl,f⟩
theorem E6(s:ByteArray)(c:UInt8)(w:QM)(h:C5 s.data.toList=c.toNat)(g:0<c.toNat):
  QA 84 #[.string s,.string ⟨#[c]⟩] w λe w'=>e=QJ (.tuple #[.string (s.extract 1 s.size),.bool true])/\w'=w:=by
 have a:0<s.size:=by
  by_cases a:0<s.size;·exact a
  rw[xm s a]at h;simp[C5]at h;omega
 rw[vY s a]at h;have i:(s.extract 0 1).toList=[c]:=by
  rw[Lib.toList_data,ext_list,IE];have:=pL s 0 a;rw[IE]at this;rw[this];simp;exact UInt8.toNat_inj.1 h
 have b:(ByteArray.mk #[c]).toList=[c]:=by rw[Lib.toList_data]
 have f:decide ((1:Int)<=(s.size:Int))=true:=bG;have d:(ByteArray.mk #[c]).size=1:=rfl;generalize ByteArray.mk #[c]=t at b d;go_enter func84,ntmps84;go_wp2
 go_ret2
 exact QB
theorem I9(s:ByteArray)(c:UInt8)(w:QM)(h:¬C5 s.data.toList=c.toNat):
  QA 84 #[.string s,.string ⟨#[c]⟩] w λe w'=>e=QJ (.tuple #[.string s,.bool false])/\w'=w:=by
 have a:(ByteArray.mk #[c]).toList=[c]:=by rw[Lib.toList_data]
 have b:(ByteArray.mk #[c]).size=1:=rfl;by_cases f:0<s.size
 ·rw[vY s f]at h;have i:(s.extract 0 1).toList=[s[0]]:=by
   rw[Lib.toList_data,ext_list,IE];have:=pL s 0 f;rw[IE]at this;rw[this];simp
  have g:([s[0]]==[c])=false:=by
   rw[QF];intro e;exact h (by rw[(List.cons.inj e).1])
  have d:decide ((1:Int)<=(s.size:Int))=true:=bG;generalize ByteArray.mk #[c]=t at a b;go_enter func84,ntmps84;go_wp2
  all_goals first|(exfalso;simp_all;done)|skip
  go_ret2
  exact QB
 have d:decide ((1:Int)<=(s.size:Int))=false:=bG;generalize ByteArray.mk #[c]=t at a b;go_enter func84,ntmps84;go_wp2
 go_ret2
 exact QB
def x7(l:List UInt8):Option Nat:=(dL 10 9 l.tail).map (λn:Nat=>if C5 l=45 then yZ n else n)
theorem Bt(s:ByteArray)(c:Addr)(w:QM)(i:s.size<=1048576)(j:0<s.size)(f:QG w 1 0 (.iface 392 (.pointer (some c))))(h:x7 s.data.toList=none):
  QA 86 #[.string s] w λe w'=>∃v,e=QJ (.tuple #[U 0,v])/\Ue c v/\D w w':=by
 have b:dL 10 9 (s.extract 1 s.size).data.toList=none:=by
  rw[sD];cases a:dL 10 9 s.data.toList.tail with
  |none=>rfl
  |some n=>rw[x7,a]at h;cases h
 have a:=iT (s.extract 1 s.size) 10 9 c w (by rw[ext_size];omega) Z Z Z f b;unfold wE at a;by_cases g:s[0].toNat=45
 ·have b:(((s[0].toNat:Nat):Int)==45)=true:=by rw[beq_iff_eq];omega
  go_enter func86,ntmps86;go_wp2_with (go_at_call 82;refine a.mono ?_;rintro e w'⟨rfl,d⟩)
  go_ret2
  exact⟨_,rfl,.inr ⟨_,rfl⟩,d⟩
 have b:(((s[0].toNat:Nat):Int)==45)=false:=by rw[QF];omega
 go_enter func86,ntmps86;go_wp2_with (go_at_call 82;refine a.mono ?_;rintro e w'⟨rfl,d⟩)
 go_ret2
 exact⟨_,rfl,.inr ⟨_,rfl⟩,d⟩
theorem Bz(s:ByteArray)(n:Nat)(g:Addr)(w:QM)(l:s.size<=1048576)(j:0<s.size)(k:QG w 1 0 (.iface 392 (.pointer (some g))))(h:x7 s.data.toList=some n):
  QA 86 #[.string s] w λe w'=>e=QJ (.tuple #[U (n:Int),.nilIface])/\D w w':=by
 obtain⟨m,b,c⟩:∃m,dL 10 9 (s.extract 1 s.size).data.toList=some m/\n=if C5 s.data.toList=45 then yZ m else m:=by
  rw[sD];cases a:dL 10 9 s.data.toList.tail with
  |none=>rw[x7,a]at h;cases h
  |some m=>rw[x7,a]at h;simp at h;exact⟨m,rfl,h.symm⟩
 have a:=jA (s.extract 1 s.size) 10 9 m g w (by rw[ext_size];omega) Z Z Z k b;have d:=tR b;rw[vY s j]at c;have i:=H c;by_cases b:s[0].toNat=45
 ·have c:(((s[0].toNat:Nat):Int)==45)=true:=by rw[beq_iff_eq];omega
  go_enter func86,ntmps86;go_wp2_with (go_at_call 82;refine a.mono ?_;rintro e w'⟨rfl,f⟩)
  go_ret2
  refine⟨?_,f⟩;rw[i,GP b,<-EG d];rfl
 have c:(((s[0].toNat:Nat):Int)==45)=false:=by rw[QF];omega
 go_enter func86,ntmps86;go_wp2_with (go_at_call 82;refine a.mono ?_;rintro e w'⟨rfl,f⟩)
 go_ret2
 refine⟨?_,f⟩;rw[i,GO b];rfl
def OL:Value:=C
def K_(i:Addr)(O:Nat)(w w':World)(r:Option sT)(e:Ending):Prop:=w.grownBy w' (some O)/\match r with
 |some o'=>e=.returned .nilIface/\∃dv,Bx w' O 48 (opC o' dv)/\w'.ownsRow w.heap.size 5 1 dv o'.data.length (xe o'.data)/\(o'.data=[]->dv=OL)
 |none=>∃v,e=.returned v/\Ue i v
def PartC(f:Nat)(c:UInt8)(i:Nat):Prop:=∀(j:Addr)(O:Nat)(o:sT)(s:ByteArray)(w:World),s.size<=1048576->0<s.size->w.cell? ⟨1,0,none⟩=some (.iface 392 (.pointer (some j)))->O≠1->Bx w O 48 (opC o OL)->o.data=[] ->
 QA f #[J O 0,.string s] w λe w'=>K_ j O w w' (mX c s.data.toList i o) e
theorem gS{O:Option Nat}(h:D w w'):w.grownBy w' O:=⟨h.os,h.tape,h.output,h.size,λk a _=>h.block k a⟩
theorem fW{a b c:QM}{O:Option Nat}(h:a.grownBy b O)(k:b.grownBy c O):a.grownBy c O:=⟨k.os.trans h.os,k.tape.trans h.tape,k.output.trans h.output,Fx h.size k.size,λi e d=>(k.block i (FG e h.size) d).trans (h.block i e d)⟩
theorem OZ(h:w.grownBy w' (some O)){a:Addr}(ha:w.cell? a=some v)(b:a.block≠O):w'.cell? a=some v:=by
 have c:a.block<w.heap.size:=by
  unfold World.cell? at ha;split at ha;·rename_i d;exact G_ d
  cases ha
 have:=h.block a.block c (by simpa using b);unfold World.cell? at ha⊢;rw[this];exact ha
theorem Mb:PartC 51 78 0:=by
 intro j O o s w k l m t c p;have b:mX 78 s.data.toList 0 o=(dL 10 20 s.data.toList).map (λn=>{o with a:=n}):=by rw[mX,GP ar];rfl
 rw[b];have u:=H c;cases g:dL 10 20 s.data.toList with
 |none=>
  have b:=iT s 10 20 j w k Z Z Z m g;unfold wE at b;go_enter func51,ntmps51;go_wp2_with fail;refine b.mono ?_;rintro e w'⟨rfl,f⟩;have d:=c.below f c.lt;have i:w'.cell? (Qz O 3)=some (U (o.a:Int)):=d.cell 3;have f3:=d.free 3;generalize o.a=q at i;go_wp2_with fail;go_ret;exact⟨au (gS f) 3 _,⟨_,rfl,.inr ⟨_,rfl⟩⟩⟩
 |some n=>
  have b:=jA s 10 20 n j w k Z Z Z m g;go_enter func51,ntmps51;go_wp2_with fail;refine b.mono ?_;rintro e w'⟨rfl,f⟩;have d:=c.below f c.lt;have r:=H (d.set 3 (U (n:Int)));have i:w'.cell? (Qz O 3)=some (U (o.a:Int)):=d.cell 3;have f3:=d.free 3;generalize o.a=q at i;go_wp2_with fail;go_ret;exact⟨au (gS f) 3 _,rfl,OL,r,by rw[p];exact⟨by simp[xe],.inl ⟨rfl,rfl⟩⟩,λ_=>rfl⟩
theorem Ll:PartC 52 78 1:=by
 intro j O o s w k l m t c p;have a:mX 78 s.data.toList 1 o=(dL 10 20 s.data.toList).map (λn=>{o with b:=n}):=by rw[mX,GP ar];rfl
 rw[a];cases g:dL 10 20 s.data.toList with
 |none=>
  have a:=iT s 10 20 j w k Z Z Z m g;unfold wE at a;go_enter func52,ntmps52;go_wp2_with fail;refine a.mono ?_;rintro e w'⟨rfl,f⟩;have d:=c.below f c.lt;have i:w'.cell? (Qz O 4)=some (U (o.b:Int)):=d.cell 4;have f3:=d.free 4;generalize o.b=q at i;go_wp2_with fail;go_ret;exact⟨au (gS f) 4 _,⟨_,rfl,.inr ⟨_,rfl⟩⟩⟩
 |some n=>
  have a:=jA s 10 20 n j w k Z Z Z m g;go_enter func52,ntmps52;go_wp2_with fail;refine a.mono ?_;rintro e w'⟨rfl,f⟩;have d:=c.below f c.lt;have r:=H (d.set 4 (U (n:Int)));have i:w'.cell? (Qz O 4)=some (U (o.b:Int)):=d.cell 4;have f3:=d.free 4;generalize o.b=q at i;go_wp2_with fail;go_ret;exact⟨au (gS f) 4 _,rfl,OL,r,by rw[p];exact⟨by simp[xe],.inl ⟨rfl,rfl⟩⟩,λ_=>rfl⟩
def pm:ByteArray:=⟨#[43,45]⟩
theorem Np:pm.size=2:=rfl
theorem KD(w:QM):QA 137 #[.string pm,.int .i32 65533] w λe w'=>e=QJ (I (-1))/\D w w':=by
 have c:∀b,D w (w.iter pm b):=λb=>(Fu _ w).alloc (Fv _) _
 have d:=λa=>run_next_ascii (P:=prog) w pm 0 a ar ar
 have f:=λa=>run_next_ascii (P:=prog) w pm 1 a ar ar
 have g:=λa=>run_next_end (P:=prog) w pm 2 a ar
 have e0:(((pm[0]' ar).toNat:Nat):Int)=43:=ar;have e1:(((pm[1]' ar).toNat:Nat):Int)=45:=ar;rw[e0]at d;rw[e1]at f;go_enter func137,ntmps137;go_wp2_with fail;go_loopw [] (λwr=>∃b:Nat,b<=2/\wr=w.iter pm b) (λwr=>2-wr.iterPos w.heap.size);case atStart=>exact⟨0,Z,rfl⟩
 case round=>
  obtain⟨b,i,rfl⟩:=hrel;rcases b with _|_|_|b
  ·go_wp2_with fail;go_roundw;(case rel=>exact⟨1,Z,rfl⟩);case measure=>simp
  ·go_wp2_with fail;go_roundw;(case rel=>exact⟨2,Z,rfl⟩);case measure=>simp
  ·go_wp2_with fail;go_ret;exact⟨rfl,c _⟩
  omega
theorem L_(r:Nat)(b:r<55296\/(57343<r/\r<=1114111))(w:QM):QA 187 #[.int .i32 (r:Int)] w λe w'=>e=QJ Ql/\w'=w:=by
 by_cases c:r<55296
 ·have a:decide ((r:Int)<55296)=true:=bG;go_enter func187,ntmps187;go_wp2;go_ret;exact QB
 have a:decide ((r:Int)<55296)=false:=bG;have d:decide ((57343:Int)<(r:Int))=true:=bG;have f:decide ((r:Int)<=1114111)=true:=bG;go_enter func187,ntmps187;go_wp2;go_ret;exact QB
theorem LF(r:Nat)(b:r<=2147483647)(c:¬(r<55296\/(57343<r/\r<=1114111)))(w:QM):QA 187 #[.int .i32 (r:Int)] w λe w'=>e=QJ Qk/\w'=w:=by
 have d:decide ((r:Int)<55296)=false:=bG;by_cases f:57343<r
 ·have a:decide ((57343:Int)<(r:Int))=true:=bG;have g:decide ((r:Int)<=1114111)=false:=bG;go_enter func187,ntmps187;go_wp2;go_ret;exact QB
 have a:decide ((57343:Int)<(r:Int))=false:=bG;go_enter func187,ntmps187;go_wp2;go_ret;exact QB
theorem Lw(r:Nat)(b:128<=r)(hv:r<55296\/(57343<r/\r<=1114111)):∃a,Utf8.encode (r:Int)=a/\2<=a.size/\a.size<=4/\∀h:a.size=2,128<=(a[1]' Z).toNat:=by
 have a:Utf8.valid (r:Int)=true:=by simp[Utf8.valid];omega
 refine⟨_,rfl,?_⟩;by_cases c:r<2048
 ·have e:Utf8.encode (r:Int)=⟨#[UInt8.ofNat (192+r/64),UInt8.ofNat (128+r%64)]⟩:=by
   simp only[Utf8.encode,a,IM,F0];rw[GO Z,GP Z]
  rw[e];refine⟨Fv 2,(show 2<=4 by omega),λ_=>?_⟩;show 128<=(UInt8.ofNat (128+r%64)).toNat;simp;omega
 by_cases d:r<65536
 ·have e:Utf8.encode (r:Int)=⟨#[UInt8.ofNat (224+r/4096),UInt8.ofNat (128+r/64%64),UInt8.ofNat (128+r%64)]⟩:=by
   simp only[Utf8.encode,a,IM,F0];rw[GO Z,GO Z,GP Z]
  rw[e];exact⟨(show 2<=3 by omega),(show 3<=4 by omega),λh=>absurd h (show¬3=2 by omega)⟩
 have e:Utf8.encode (r:Int)=⟨#[UInt8.ofNat (240+r/262144),UInt8.ofNat (128+r/4096%64),UInt8.ofNat (128+r/64%64),UInt8.ofNat (128+r%64)]⟩:=by
  simp only[Utf8.encode,a,IM,F0];rw[GO Z,GO Z,GO Z]
 rw[e];exact⟨(show 2<=4 by omega),(show 4<=4 by omega),λh=>absurd h (show¬4=2 by omega)⟩
theorem Mg(b:UInt8)(w:QM):QA 186 #[.string (pm.extract 2 2),.int .u8 ((b.toNat:Nat):Int)] w λe w'=>e=QJ (I (-1))/\w'=w:=by
 have h:=Any.strings_IndexByte (P:=prog) (ρ:=Tryz.lays153_ren) {Tryz.lays153 with} (pm.extract 2 2) ((b.toNat:Nat):Int) w;have e:(pm.extract 2 2).data.toList=[]:=ar;rw[e]at h;exact h
theorem Ke(r:Nat)(i:128<=r)(j:r<=2147483647)(f:r≠65533)(w:QM):QA 137 #[.string pm,.int .i32 (r:Int)] w λe w'=>e=QJ (I (-1))/\D w w':=by
 have o:decide ((r:Int)<128)=false:=bG;have p:((r:Int)==65533)=false:=by rw[QF];omega
 by_cases hv:r<55296\/(57343<r/\r<=1114111)
 ·have a:=L_ r hv w;have⟨b,g,k,l,d⟩:=Lw r i hv;have c:Utf8.encode (r:Int)=b:=g;clear g;by_cases q:b.size=2
  ·have x:=d q;have s:1<b.size:=Z;have t:((45:Int) != ((b[1].toNat:Nat):Int))=true:=bG;have g:QA 186 #[.string (pm.extract 2 2),.int .u8 ((b[1].toNat:Nat):Int)] w λe w'=>e=QJ (I (-1))/\w'=w:=Mg _ w
   have u:(pm[1]' ar).toNat=45:=ar;go_enter func137,ntmps137;go_wp2_with (go_at_call 187;refine a.mono ?_;rintro e w'⟨rfl,rfl⟩);go_step3;go_wp2_with fail;go_loopg [9] 1 (λgk m wr=>m=I 1/\wr=w');(case atStart=>exact⟨rfl,rfl⟩);case round=>
    obtain⟨rfl,rfl⟩:=hrel;have n:pm.size=2:=rfl;have v:IntKind.i64.wrap 2=2:=ar;clear d c a f hv o p i j l k g;go_wp2_with fail;go_step3;go_wp2_with fail;go_region;go_wp2_with fail
    go_region_with (go_at_call 186;refine(Mg _ _).mono ?_;rintro e y⟨rfl,rfl⟩)
    all_goals go_wp2_with fail
    all_goals(rw[Exit.noGoto_ret];simp only[Exit.inBlock,Exit.then];rw[Exit.noGoto_ret])
    all_goals go_ret
    all_goals exact⟨rfl,(Fu _ _).drew.drew⟩
  have g:¬((b.size:Int)-1<2):=Z;go_enter func137,ntmps137;go_wp2_with (go_at_call 187;refine a.mono ?_;rintro e w'⟨rfl,rfl⟩);go_step3;go_wp2_with fail;go_loopg [9] 1 (λgk m wr=>m=I ((b.size:Int)-1)/\wr=w');case atStart=>exact⟨rfl,rfl⟩
  case round=>
   obtain⟨rfl,rfl⟩:=hrel;have n:pm.size=2:=rfl;clear d c a f hv o p i j;go_wp2_with fail;rw[Exit.noGoto_ret];go_ret;exact⟨rfl,Fu _ _⟩
 have a:=LF r j hv w;go_enter func137,ntmps137;go_wp2_with (go_at_call 187;refine a.mono ?_;rintro e w'⟨rfl,rfl⟩);go_ret;exact⟨rfl,Fu _ _⟩
theorem it{t u:QO}{c:Array Oper}{b:List Oper}{o:Oper}{a:Act}{Q:Exit->Act->QM->Prop}(d:o.guard=none)(s x:Operand)
  (f:o.op=.call {callee:=.builtin .append,args:=#[s,x],argTypes:=#[t,u]}) (g:o.type=t) {e:QN} (i:a.eval s=v) (j:a.eval x=v2)
  (k:(Builtin.append_ #[t,u] t #[v,v2]).run P w=.ok e w') (h:wpList P c Q b (a.put o.dst e) w'):wpList P c Q (o::b) a w:=by
 refine IA d λK l=>?_;unfold Oper.wp;simp[execOp,f,g,resolve,invoke,builtin,i,j,k,Result.andThen];exact l _ _ h
def ObW(B:Nat)(W:World)(v:Value)(l:List UInt8):Prop:=W.ownsRow B 5 1 v l.length (bv l)
theorem ObW.ky{S l}(h:ObW B W v l)(k:Ky S W W')(a:¬S 5):ObW B W' v l:=ai h k a
theorem ObW.below{B W W' v l}(h:ObW B W v l)(b:D W W'):ObW B W' v l:=ai h (Ky.below b:Ky (λ_=>False) W W') (λe=>e)
theorem ObW.nil(B W):ObW B W (C) []:=⟨rfl,.inl ⟨rfl,rfl⟩⟩
theorem ObW.tie{l}(h:ObW B W v l)(a:B<=W.heap.size)(g:W.grownBy W' v.ownBlock):Ky (· =5) W W'/\Below B W W':=
 ⟨Ky.grownO (λP b=>by obtain⟨_,c,d⟩:=aF h b;exact⟨c,5,_,d,rfl⟩) g,(Fu B W).grown g a (λr a=>(aF h a).1)⟩
def ApW(B:Nat)(W:World)(T:TypeId)(v u:Value)(l:List UInt8):Prop:=∃a m c W',(Builtin.append_ #[22,T] 22 #[v,u]).run prog W=.ok (.slice a m c) W'/\ObW B W' (.slice a m c) l/\Ky (· =5) W W'/\Below B W W'
theorem ApW.of{l l2:List UInt8}(h:ObW B W v l)(b:B<=W.heap.size){u d:QN}(e:(Builtin.append_ #[22,T] 22 #[v,u]).run prog W=.ok d W')(f:n=(l++l2).length)(o:W'.ownsRow B 5 1 d n (bv l++bv l2))(g:W.grownBy W' v.ownBlock):ApW B W T v u (l++l2):=by
 obtain⟨a,m,c,rfl,_⟩:=ch o;subst f;exact⟨a,m,c,W',e,by unfold ObW;rw[show bv (l++l2)=bv l++bv l2 by simp[bv]];exact o,(h.tie b g).1,(h.tie b g).2⟩
theorem ObW.str{l}(h:ObW B W v l)(s:ByteArray)(f:B<=W.heap.size)(j:l.length+s.size<=2000000000):ApW B W 9 v (.string s) (l++s.data.toList):=by
 have⟨i,a,b,c,d⟩:=G0 ql.info;have⟨k,w',e,o,g,_⟩:=Lib.run_append_own_string (P:=prog) (w:=W) B 22 9 22 5 i ql.und underlying9 a b c d v _ _ h s (by unfold maxLen;omega) Z f;exact ApW.of h f e (by rw[FC];rfl) o g
theorem ObW.row{l}(h:ObW B W v l){l2}(r:RowV W g 5 (bv l2))(a:B<=W.heap.size)(f:l.length+l2.length<=2000000000):ApW B W 22 v (Vl g l2.length c) (l++l2):=by
 have⟨k,w',e,o,i⟩:=KZ ql h a (Qz g 0) l2.length c (bv l2) (by simp[bv]) (λj u b=>by
  have d:j<(bv l2).length:=(Fz.1 b).1;rw[Addr.add_mid,Oi,r.cell j d];exact b) (λu d=>by simp[bv]at d;obtain⟨b,_,rfl⟩:=d;rfl) f
 exact ApW.of h a e bH o i
theorem Jd(W:QM)(l):RowV (W.alloc (QL (bv l).toArray 5)) W.heap.size 5 (bv l):=⟨_,ao _ _,bH⟩
theorem ObW.one{l}(h:ObW B W v l)(l2:List UInt8)(a:B<=W.heap.size)(b:l.length+l2.length<=2000000000):ApW B (W.alloc (QL (bv l2).toArray 5)) 22 v (Vl W.heap.size l2.length l2.length) (l++l2):=
 (h.below ((Fu _ _).alloc (Fv _) _)).row (Jd W l2) (Fx a ((Fu W.heap.size W).alloc (Fv _) _).size) b
theorem K6(n):dec n=if n<10 then[UInt8.ofNat (48+n)]else dec (n/10)++[UInt8.ofNat (48+n%10)]:=by
 unfold dec;rw[Lib.decDigits];split<;>rfl
theorem kX(n:Nat)(h:n<18446744073709551616):(dec n).length<=20/\0<(dec n).length:=by
 unfold dec;rw[Lib.decDigits_length];have a:0<Lib.nDigits n:=by rw[Lib.nDigits];split<;>omega
 refine⟨?_,a⟩;by_cases b:1<=n;·have:=Lib.numDigits_eq n b h;split at this<;>omega
 obtain rfl:n=0:=Z;rw[Lib.nDigits];simp
theorem NA(k:Nat)(h:k<256):bv [UInt8.ofNat k]=[.int .u8 (k:Int)]:=by simp[bv];omega
theorem ObW.new(w:QM)(l:List UInt8)(a:l.length<=2000000000):ObW w.heap.size (w.alloc (QL (bv l).toArray 5)) (Vl w.heap.size l.length l.length) l:=⟨by simp[bv],.inr ⟨w.heap.size,l.length,(bv l).toArray,rfl,Fv _,ao _ _,Fv _,by unfold maxLen;omega,by simp[bv],by rw[List.toList_toArray,Nat.mul_one,<-rb,G9]⟩⟩
theorem ObW.isS{a:QP}{m:Nat}{l}(h:ObW B W (.slice a m c) l)(d:l≠[]):∃g,a=some (Qz g 0)/\m=l.length:=by
 rcases h.2 with⟨_,e⟩|⟨g,f,i,b,_⟩;·exact absurd (Ik e) d
 injection b with b j k;exact⟨g,b,j⟩
theorem JG(n:Nat):n<18446744073709551616->∀w,QA 11 #[U (n:Int)] w λe w'=>∃g c,e=QJ (Vl g (dec n).length c)/\ObW w.heap.size w' (Vl g (dec n).length c) (dec n)/\D w w':=by
 induction n using Nat.strongRecOn with
 |ind n a=>
  intro d w;by_cases h:n<10
  ·rw[K6,GP h];have u:(n:Int)<10:=Z;have e1:IntKind.u64.wrap (48+(n:Int))=((48+n:Nat):Int):=(by rw[IntKind.wrap_u64];omega);have b:IntKind.u8.wrap ((48+n:Nat):Int)=((48+n:Nat):Int):=(by rw[IntKind.wrap_u8];omega);have l:=H (show 48+n<256 by omega);clear a h;generalize 48+n=q at*;go_enter func11,ntmps11;go_wp2;go_ret;have O:=ObW.new w [UInt8.ofNat q] bH;rw[NA _ l]at O;exact⟨_,_,rfl,O,(Fu _ _).alloc (Fv _) _⟩
  rw[K6,GO h];have b:=a (n/10) Z Z w;have⟨l,v⟩:=y7 (show 48+n%10<256 by omega) (kX (n/10) Z);have f:(n:Int).tdiv 10=((n/10:Nat):Int):=by rw[Ig Z];omega
  have i:(n:Int).tmod 10=((n%10:Nat):Int):=by rw[GH Z];omega
  have e1:48+((n%10:Nat):Int)=((48+n%10:Nat):Int):=Z;have f0:IntKind.u64.wrap ((n/10:Nat):Int)=((n/10:Nat):Int):=by rw[IntKind.wrap_u64];omega
  have f1:IntKind.u64.wrap ((n%10:Nat):Int)=((n%10:Nat):Int):=by rw[IntKind.wrap_u64];omega
  have f2:IntKind.u64.wrap ((48+n%10:Nat):Int)=((48+n%10:Nat):Int):=by rw[IntKind.wrap_u64];omega
  have f3:IntKind.u8.wrap ((48+n%10:Nat):Int)=((48+n%10:Nat):Int):=by rw[IntKind.wrap_u8];omega
  have u:¬(n:Int)<10:=Z;clear a h d;generalize (n:Int)=N at*;generalize 48+n%10=q at*;generalize ((n%10:Nat):Int)=r at*;generalize n/10=d at*;obtain⟨a,m⟩:∃a:Int,a=(d:Int):=⟨_,rfl⟩;obtain⟨j,k⟩:∃j:Int,j=(q:Int):=⟨_,rfl⟩;rw[<-m]at f f0 b;rw[<-k]at e1 f2 f3;have x:=H k;clear m k;go_enter func11,ntmps11;go_wp2_with fail;refine b.mono ?_;rintro e V⟨g,c,rfl,o,m⟩;have⟨y,z,F,G,k,p,A,s⟩:=o.one [UInt8.ofNat q] m.size (by have:=v.out;simp;omega);rw[NA _ l,<-x.out]at k;have t:=H p;have B:=H ((m.trans (((Fu _ V).alloc (Fv _) _).mono m.size)).trans s);clear b A s p o;go_wp2_with (at_builtin;refine it rfl (.tmp 11) (.tmp 16) (by with_reducible rfl) rfl rfl rfl k ?_);go_ret;obtain⟨b,rfl,rfl⟩:∃b,y=some (Qz b 0)/\z=(dec d++[UInt8.ofNat q]).length:=ObW.isS t bH;exact⟨_,_,rfl,t,B⟩
end
end Go.Proofs.YtdhegekcmmlohaaGreatDoor
