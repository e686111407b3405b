import Derived.OpenShut
import Derived.ProofKit
import Derived.Shelf.Bits.Mul64
import Derived.Test.YtdhegekcmmlohaaGreatDoorProg
import Derived.WalkLawsBesides
import Derived.Conc.MuLone
import Derived.Deep.AppendLies
import Derived.Deep.OwnRows
import Derived.Laws.CopyOwn
import Derived.LoopIn
import Derived.LoopNIn
import Derived.OrdersHeld
import Derived.OwnWalkIn
import Derived.RangeFuncBound
import Derived.RangeFuncNested
import Derived.Shelf.RegionOpen
set_option linter.unusedVariables false
set_option linter.unusedSimpArgs false
set_option maxRecDepth 20000
set_option maxHeartbeats 8000000
namespace Go.Proofs.YtdhegekcmmlohaaGreatDoor
open Go.Proofs.Tryz Go.RowKit Go.Maps Go.Shelf Go.ChangeShapes Go.WideShapes Go.ChangeAt
end Go.Proofs.YtdhegekcmmlohaaGreatDoor
namespace Go.Proofs.YtdhegekcmmlohaaGreatDoor
open Go.Proofs.Tryz Go.RowKit Go.Maps Go.Shelf Go.ChangeShapes Go.WideShapes Go.ChangeAt
variable {W W1 W2 a w w':World}{M S b cap g i k:Nat}{e:TypeId}{xs:List Value}{bud n st:Int}{zs:List Int}{v:Value}{f:Nat->Option Nat}{m:Nat->Option (Bool×List Int)}
section
open Go.RowKit Go
theorem Qa{α}(x:α):∃y,x=y:=⟨_,rfl⟩
theorem Qb{α}(x:α):∃y,y=x:=⟨_,rfl⟩
theorem y7{p q:Prop}(a:p)(b:q):Hid p/\Hid q:=⟨a,b⟩
theorem Qe{p q r:Prop}(a:p)(b:q)(c:r):Hid p/\Hid q/\Hid r:=⟨a,b,c⟩
theorem Qf{p q r s:Prop}(a:p)(b:q)(c:r)(d:s):Hid p/\Hid q/\Hid r/\Hid s:=⟨a,b,c,d⟩
theorem Qg{p q r s t:Prop}(a:p)(b:q)(c:r)(d:s)(e:t):Hid p/\Hid q/\Hid r/\Hid s/\Hid t:=⟨a,b,c,d,e⟩
theorem Qh{p q r s t u:Prop}(a:p)(b:q)(c:r)(d:s)(e:t)(f:u):Hid p/\Hid q/\Hid r/\Hid s/\Hid t/\Hid u:=⟨a,b,c,d,e,f⟩
theorem Qi{p q r s t u v:Prop}(a:p)(b:q)(c:r)(d:s)(e:t)(f:u)(g:v):Hid p/\Hid q/\Hid r/\Hid s/\Hid t/\Hid u/\Hid v:=⟨a,b,c,d,e,f,g⟩
theorem Qj{p q r s t u v w:Prop}(a:p)(b:q)(c:r)(d:s)(e:t)(f:u)(g:v)(h:w):Hid p/\Hid q/\Hid r/\Hid s/\Hid t/\Hid u/\Hid v/\Hid w:=⟨a,b,c,d,e,f,g,h⟩
abbrev Qz(g i:Nat):Addr:=⟨g,i,none⟩
abbrev QA:=Calls prog
theorem QB{α β}{a:α}{b:β}:a=a/\b=b:=⟨rfl,rfl⟩
abbrev QC:=@World.cell?.eq_1
abbrev QD:=@World.frozen?.eq_1
abbrev QF:=@beq_eq_false_iff_ne
theorem QE{p:Prop}(h:p:=by(simp[intOf];try omega)):p:=h
abbrev QG(W:World)(g i:Nat)(v:Value):Prop:=W.cell? ⟨g,i,none⟩=some v
abbrev QH(W:World)(x:Nat)(c:Array Value)(t:TypeId):Prop:=W.heap[x]?=some (.cells c t)
abbrev QI(t:TypeId)(a b:Value)(W:World)(v:Value)(V:World):Prop:=(Builtin.append_ #[t,t] t #[a,b]).run prog W=.ok v V
abbrev QJ:=Ending.returned
abbrev QK:=Value.slice
abbrev QL(c:Array Value)(t:TypeId):Obj:=.cells c t
abbrev QM:=World
abbrev QN:=Value
abbrev QO:=TypeId
abbrev QP:=Option Addr
abbrev Qk:Value:=.bool false
abbrev Ql:Value:=.bool true
abbrev Fu:=@Below.refl
abbrev Fv:=@Nat.le_refl
abbrev Fw:=@List.setIfInBounds_toArray
abbrev Fx:=@Nat.le_trans
abbrev Fy:=@List.getElem?_eq_getElem
abbrev Fz:=@List.getElem?_eq_some_iff
abbrev FA:=@List.set_cons_zero
abbrev FB:=@List.set_cons_succ
abbrev FC:=@List.length_append
abbrev FD:=@Array.getElem?_modify
abbrev FG:=@Nat.lt_of_lt_of_le
abbrev FH:=@Nat.zero_le
abbrev FJ:=@List.getElem?_eq_none
abbrev FK:=@Array.getElem?_setIfInBounds
abbrev FM:=@List.mem_of_getElem?
abbrev FN:=@List.length_cons
abbrev FO:=@Array.replicate_zero
abbrev FP:=@Array.replicate_succ
abbrev FQ:=@List.mem_map
abbrev FV:=@List.nil_append
abbrev FX:=@List.size_toArray
abbrev FY:=@List.push_toArray
abbrev F0:=@Int.toNat_natCast
abbrev F1:=@List.length_nil
abbrev F4:=@List.mem_cons
abbrev F5:=@List.cons_append
abbrev F8:=@List.mem_append
abbrev F_:=@List.take_add_one
abbrev Ga:=@List.getElem?_append_left
abbrev Oi:=@Nat.zero_add
abbrev Gc:=@List.length_replicate
abbrev Ge:=@List.take_of_length_le
abbrev Gf:=@wpList_store_row
abbrev Gg:=@Array.getElem?_toList
abbrev Gh:=@List.mem_range
abbrev Gi:=@Bool.and_eq_true
abbrev Gj:=@List.length_set
abbrev Gk:=@List.mem_filter
abbrev Gl:=@List.append_nil
abbrev Gm:=@Nat.mul_le_mul_right
abbrev Gn:=@List.getElem?_append_right
abbrev Gp:=@List.not_mem_nil
abbrev Gq:=@results_cell_row
abbrev Gr:=@List.getElem?_set
abbrev Gs:=@List.range_succ
abbrev Gt:=@wpList_load_row
abbrev Gu:=@List.flatMap_append
abbrev Gv:=@List.getElem?_map
abbrev Gx:=@List.getElem?_take
abbrev Gy:=@Nat.add_mul
abbrev Gz:=@List.length_map
abbrev GB:=@Option.some.inj
abbrev GF:=@Nat.one_mul
abbrev GG:=@List.length_range
abbrev GH:=@Int.tmod_eq_emod_of_nonneg
abbrev GI:=@List.nodup_cons
abbrev GJ:=@List.append_assoc
abbrev GK:=@Nat.add_zero
abbrev GL:=@Nat.mul_comm
abbrev GO:=@if_neg
abbrev GP:=@if_pos
abbrev GQ:=@Below.heap_setCell
abbrev GR:=@decide_eq_false
abbrev GT:=@cell_of_row
abbrev GW:=@Calls.quiet_of_same
abbrev GX:=@bodyPost_ret
abbrev GY:=@frozen_of_row
abbrev GZ:=@World.grownBy_alloc
abbrev G0:=@info_parts
abbrev G8:=@decide_eq_true
abbrev G9:=@List.take_length
abbrev G_:=@lt_of_block
abbrev Ha:=@Int.eq_ofNat_of_zero_le
abbrev Hb:=@List.length_filter_le
abbrev Hc:=@wp_loop_rounds
abbrev Hd:=@Array.getElem?_eq_none
abbrev He:=@List.getElem?_of_mem
abbrev Hf:=@List.getElem?_take_of_lt
abbrev Hh:=@IntKind.wrap_i64
abbrev Hi:=@Option.map_some
abbrev Hj:=@decide_eq_true_eq
abbrev Hk:=@Option.some.injEq
abbrev Hl:=@List.filter_append
abbrev Hm:=@List.length_take
abbrev Hn:=@List.filter_cons_of_pos
abbrev Ho:=@List.ext_getElem?
abbrev Hq:=@MapKept.heap_alloc
abbrev Hr:=@List.map_append
abbrev Ht:=@Option.getD_some
abbrev Hu:=@rounds_succ
abbrev Hv:=@Mul64.wrapN
abbrev Hw:=@Array.getElem?_eq_getElem
abbrev Hy:=@Value.int.injEq
abbrev Hz:=@Nat.min_eq_left
abbrev H4:=@Nat.mod_eq_of_lt
abbrev H_:=@Nat.add_assoc
abbrev Ia:=@run_append_own
abbrev Ib:=@wpList_append_own
abbrev Ic:=@heap_setCell_same
abbrev Ie:=@Nat.lt_trichotomy
abbrev If:=@List.flatMap_cons
abbrev Ig:=@Int.tdiv_eq_ediv_of_nonneg
abbrev Ih:=@wp_store_row
abbrev Ii:=@toList_madeCells_one
abbrev Ij:=@List.mem_cons_of_mem
abbrev Ik:=@List.eq_nil_of_length_eq_zero
abbrev Il:=@List.filter_eq_self
abbrev Io:=@World.cell?_setCell_other
abbrev Ip:=@List.mem_of_find?_eq_some
abbrev Iq:=@Ne.symm
abbrev Ir:=@results_none
abbrev Is:=@List.pairwise_append
abbrev It:=@List.map_cons
abbrev Iu:=@List.find?_range_eq_some
abbrev Iv:=@List.append_toArray
abbrev Iw:=@List.getElem_mem
abbrev Ix:=@List.filter_cons_of_neg
abbrev Iy:=@leaves_cons
abbrev Iz:=@List.take_append_of_le_length
abbrev IA:=@wpList_plain
abbrev IB:=@Int.emod_lt_of_pos
abbrev IC:=@List.filter_eq_nil_iff
abbrev ID:=@Nat.lt_irrefl
abbrev IE:=@List.drop_zero
abbrev IF:=@List.mem_append_left
abbrev IG:=@WalkArith.wf_i64
abbrev II:=@List.pairwise_iff_getElem
abbrev IJ:=@Nat.mul_le_mul_left
abbrev IK:=@Int.toNat_of_nonneg
abbrev IL:=@if_false
abbrev IM:=@if_true
abbrev CT:=@Lib.half_mul_le
abbrev IP:=@Int.emod_nonneg
abbrev IQ:=@Option.toList_some
abbrev IR:=@List.getElem?_drop
abbrev IS:=@Bool.true_eq_false
abbrev IT:=@And.intro
end
abbrev D(a b:World):Prop:=Below a.heap.size a b
section
open Go.RowKit Go
theorem bG{p:Prop}(h:p:=by simp;omega):p:=h
theorem Z{p:Prop}(h:p:=by omega):p:=h
theorem E{p:Prop}(h:p:=by kernel_rfl):p:=h
theorem aY{p:Prop}(h:p:=by go_num):p:=h
theorem ar{p:Prop}(h:p:=by decide):p:=h
theorem bH{p:Prop}(h:p:=by simp):p:=h
theorem dU{p:Prop}(h:p:=by rfl):p:=h
theorem mL{p:Prop}(h:p:=by simp[Value.oneCell']):p:=h
theorem iM{p:Prop}(h:p:=by dsimp only;omega):p:=h
theorem bJ{w:QM}{g j t:Nat}{a:Array QN}{b:Nat×Nat}{v:QN}(c:w.heap[g]?=some (.cells a t b))(e:a[j]?=some v:=by rfl):w.cell? (Qz g j)=some v:=(GT _ _ _ _ _ _ c).trans e
theorem AV{P:Program}{e:Func}{p:Tmp}{b:TypeId}{a:Array Value}{w:World}{g t:Nat}{c:Array Value}{f:Nat×Nat}{d:TypeDesc}(i:w.heap[g]?=some (.cells c t f))(j:P.underlying b=some d)(h:e.results=#[.cell p b]:=by rfl)(k:a.getD p undef=.pointer (some ⟨g,0,none⟩):=by rfl)(l:(match d with|.struct _|.array _ _=>true|_=>false)=true:=by rfl)(m:(P.info? b).map (·.size)=some c.size:=by kernel_rfl):(results e a).run P w=.ok (.agg c) w:=Gq h _ _ _ _ _ _ _ k i j l m
theorem fM{P:Program}{e:Func}{p:Tmp}{b:TypeId}{R:Ending->World->Prop}{a:Act}{w:World}{g t:Nat}{c:Array Value}{f:Nat×Nat}{d:TypeDesc}(i:w.heap[g]?=some (.cells c t f))(j:P.underlying b=some d)(k:R (.returned (.agg c)) w)(h:e.results=#[.cell p b]:=by rfl)(l:a.tmps.getD p undef=.pointer (some ⟨g,0,none⟩):=by rfl)(m:(match d with|.struct _|.array _ _=>true|_=>false)=true:=by rfl)(n:(P.info? b).map (·.size)=some c.size:=by kernel_rfl)(o:a.defers=[]:=by rfl):bodyPost P e R .ret a w:=GX (Gq h _ _ _ _ _ _ _ l i j m n) o k
theorem eG{P:Program}{ops:Array Oper}{rest:List Oper}{o:Oper}{a:Act}{w:QM}{Q:Exit->Act->QM->Prop}{e:QO}{x y:Operand}{g:Nat}{b:Array QN}{t:QO}{c:Array QN}(i:w.heap[g]?=some (.cells c t (0,0)))(h:wpList P ops Q rest (a.put o.dst undef) (w.setRow g b))(f:o.guard=none:=by rfl)(j:o.op=.store e x y:=by with_reducible rfl)(k:a.eval x=.pointer (some (Qz g 0)):=by rfl)(l:a.eval y=.agg b:=by rfl)(m:(P.info? e).map (·.size)=some b.size:=by kernel_rfl)(d:c.size=b.size:=by rfl)(n:b.all (·.oneCell')=true:=by simp[Value.oneCell']):wpList P ops Q (o::rest) a w:=Gf f e x y j g b k l t c i m d n h
end
abbrev I(x:Int):Value:=.int .i64 x
abbrev U(x:Int):Value:=.int .u64 x
abbrev J(g i:Nat):Value:=.pointer (some ⟨g,i,none⟩)
abbrev Vl(g n c:Nat):Value:=.slice (some ⟨g,0,none⟩) n c
abbrev C:Value:=.slice none 0 0
abbrev Qq:Obj:=.cells #[.bool false,C,I 0,C,C,C,C,C,C,I 0] 43
abbrev Qt:Obj:=.cells #[I 0,U 0,I 0,C] 46
abbrev Qv:Obj:=.cells #[I 0,C,C,C,C,C,C,I 0] 41
abbrev Qw:Obj:=.cells #[I 0,C] 172
theorem H{p:Prop}(h:p):Hid p:=h
theorem cX{k:IntKind}{a b:Int}(h:a=b):Ending.returned (.int k a)=QJ (.int k b):=by rw[h]
theorem cQ{a b:Bool}(h:a=b):Ending.returned (.bool a)=QJ (.bool b):=by rw[h]
theorem qb{k:IntKind}{a b:Int}(h:a=b):Value.int k a=.int k b:=by rw[h]
def RowV(w:World)(g:Nat)(e:TypeId)(xs:List Value):Prop:=
 ∃c:Array Value,w.heap[g]?=some (.cells c e)/\xs.length<=c.size/\∀i,i<xs.length->c[i]?=xs[i]?
theorem RowV.lt(h:RowV w g e xs):g<w.heap.size:=by
 have⟨c,a,_⟩:=h;exact G_ a
theorem RowV.cell{w g e xs}(h:RowV w g e xs)(i:Nat)(a:i<xs.length):w.cell? (Qz g i)=xs[i]?:=by
 have⟨c,b,_,d⟩:=h;simp[QC,b,d i a]
theorem RowV.free(h:RowV w g e xs)(i:Nat):w.frozen? (Qz g i)=false:=by
 have⟨c,a,_⟩:=h;simp[QD,a]
theorem RowV.below{B:Nat}(h:RowV w g e xs)(a:Below B w w')(b:g<B):RowV w' g e xs:=by
 have⟨c,d,f⟩:=h;exact⟨c,by rw[a.block g b];exact d,f⟩
theorem RowV.drew{w g e xs}(h:RowV w g e xs):RowV w.drew g e xs:=h
theorem RowV.set{w g e xs}(h:RowV w g e xs)(i:Nat)(b:i<xs.length)(v:QN):RowV (w.setCell (Qz g i) v) g e (xs.set i v):=by
 have⟨c,d,f,k⟩:=h;refine⟨c.setIfInBounds i v,?_,by simpa using f,?_⟩;·simp[World.setCell,FD,d]
 intro j a;simp at a;rw[FK,Gr];by_cases e:i=j;·subst e;simp[b,show i<c.size by omega]
 simp[e,k j a]
theorem RowV.other(h:RowV w g e xs){p:Addr}(a:g≠p.block)(v:QN):RowV (w.setCell p v) g e xs:=by
 have⟨c,b,d⟩:=h;exact⟨c,by rw[GQ _ _ _ _ a];exact b,d⟩
theorem RowV.grown{b:Nat}(h:RowV w g e xs)(f:w.grownBy w' (some b))(a:g≠b):RowV w' g e xs:=by
 have⟨c,d,i⟩:=h;exact⟨c,by rw[f.block g (G_ d) (by simpa using a)];exact d,i⟩
theorem RowV.ofOwns{n base:Nat}(h:w.ownsRow base e 1 (Vl g n cap) n xs):RowV w g e xs:=by
 have⟨k,a⟩:=h;rcases a with a|⟨l,c,b,hv,m,d,o,p,q,f⟩;·simp at a
 simp at hv;obtain⟨rfl,rfl⟩:=hv;subst f;refine⟨b,d,bG,?_⟩;intro i j;simp at j;simp[Gx];omega
def Ns(k:IntKind)(zs:List Int):List Value:=zs.map (Value.int k)
theorem NM(k zs):(Ns k zs).length=zs.length:=by simp[Ns]
theorem wQ(k zs)(i:Nat)(v:Int):(Ns k zs).set i (.int k v)=Ns k (zs.set i v):=by simp[Ns,List.map_set]
theorem jZ{k}(h:RowV w g e (Ns k zs))(i:Nat)(a:i<zs.length):w.cell? (Qz g i)=some (.int k (zs[i]?.getD 0)):=by
 rw[h.cell i (by simpa[Ns]using a)];simp[Ns,a]
theorem getD_some(zs:List Int)(k:Nat)(h:k<zs.length):zs[k]?=some (zs[k]?.getD 0):=by simp[h]
def IsRow(k:IntKind)(w:World)(a:Option Addr)(len cap:Nat)(zs:List Int):Prop:=
 (a=none/\len=0/\cap=0/\zs=[]) \/
 ∃x,a=some x/\len<=cap/\cap<=maxLen/\zs.length=cap/\(∀i,i<zs.length->w.cell? (x.add i)=some (.int k (zs.getD i 0)))/\∀n∈zs,(Lit.int k n).wf=true
theorem NI(a:D w w'){x:Addr}(h:w.cell? x=some v):w'.cell? x=some v:=by
 have b:x.block<w.heap.size:=by
  unfold World.cell? at h;split at h;·rename_i c;exact G_ c
  cases h
 rw[a.cell b];exact h
theorem IsRow.below{k a len}(h:IsRow k w a len cap zs)(b:D w w'):IsRow k w' a len cap zs:=by
 rcases h with h|⟨x,c,d,e,f,g,j⟩;·exact .inl h
 exact .inr ⟨x,c,d,e,f,λi l=>NI b (g i l),j⟩
theorem IsRow.len{k a len}(h:IsRow k w a len cap zs):(zs.take len).length=len:=by
 rcases h with⟨_,rfl,_,rfl⟩|⟨x,b,c,d,e,f,g⟩;·simp
 simp;omega
theorem az{b c}(d:D a b)(e:D b c):D a c:=d.trans (e.mono d.size)
def Agree{α:Type}(ys zs:List α)(k:Nat):Prop:=ys.length=zs.length/\∀j,j<k->ys[j]?=zs[j]?
theorem Agree.zero{α:Type}{a zs:List α}(h:a.length=zs.length):Agree a zs 0:=⟨h,λj b=>Z⟩
theorem Agree.succ{α:Type}{a zs:List α}(h:Agree a zs k)(b:k<zs.length)(v:α)(hv:zs[k]?=some v):Agree (a.set k v) zs (k+1):=by
 refine⟨by simp[h.1],λj c=>?_⟩;rw[Gr];by_cases e:k=j;·subst e;simp[h.1,b]at*;exact hv.symm
 rw[GO e];exact h.2 j Z
theorem Agree.all{α:Type}{a zs:List α}(h:Agree a zs k)(c:zs.length<=k):a=zs:=by
 apply Ho;intro j;by_cases b:j<k;·exact h.2 j b
 rw[FJ (by have:=h.1;omega),FJ Z]
theorem al(w:QM)(g:Nat):w.grownBy w (some g):=⟨rfl,rfl,rfl,Fv _,λ_ _ _=>rfl⟩
theorem au{b:QM}(h:w.grownBy b (some g))(i:Nat)(v:QN):w.grownBy (b.setCell (Qz g i) v) (some g):=
 ⟨h.os,h.tape,h.output,by simp[World.setCell];exact h.size,λk c a=>by
  rw[GQ _ _ _ _ (by intro e;exact a (by rw[e]))];exact h.block k c a⟩
theorem rW{a:QM}{g:Option Nat}(h:W.grownBy a g):W.grownBy a.drew g:=⟨h.os,h.tape,h.output,h.size,h.block⟩
theorem below_grown(h:D a w)(b:w.grownBy w' (some g))(c:a.heap.size<=g):D a w':=
 h.grown b h.size (λk e=>by cases e;exact c)
def ev:Value->Option (DataW Unit×List MemPlace)
 | .pointer (some ⟨b,0,none⟩)=>some (.lit (.int .i64 b),[])
 | .pointer none=>some (.nil,[])
 |_=>none
theorem ol(b:Nat):ev (.pointer (some (Qz b 0)))=some (.lit (.int .i64 b),[]):=rfl
theorem hF{z:DataW Unit×List MemPlace}(h:ev v=some z):(∃b:Nat,v=.pointer (some (Qz b 0))/\z=(.lit (.int .i64 b),[]))\/(v=.pointer none/\z=(.nil,[])):=by
 unfold ev at h;split at h;·left;exact⟨_,rfl,by simpa using h.symm⟩
 ·right;exact⟨rfl,by simpa using h.symm⟩
 cases h
def sG:Option Nat->DataW Unit
 |some b=>.lit (.int .i64 b)
 |none=>.nil
def bm(f:Nat->Option Nat)(first:Nat):Nat->Nat
 |0=>0
 |k+1=>bm f first k+(f (first+k)).isSome.toNat
theorem ep(f first):∀k,bm f first k<=k
 |0=>Fv _
 |k+1=>by have:=ep f first k;have a:=Bool.toNat_le (f (first+k)).isSome;simp only[bm];omega
def upd(f:Nat->Option Nat)(k:Nat)(v:Option Nat):Nat->Option Nat:=λj=>if j=k then v else f j
theorem upd_same(f k v):upd f k v k=v:=by simp[upd]
theorem aI(f)(k j:Nat)(v)(h:j≠k):upd f k v j=f j:=by simp[upd,h]
theorem iR(f)(k:Nat)(v)(first:Nat):∀N,k<first\/first+N<=k->bm (upd f k v) first N=bm f first N
 |0,_=>rfl
 |N+1,h=>by
  simp only[bm]
  rw[iR f k v first N Z,aI f k _ v Z]
theorem j_(f)(k:Nat)(v)(first:Nat):∀N,first<=k->k<first+N->bm (upd f k v) first N+(f k).isSome.toNat=bm f first N+v.isSome.toNat
 |0,h,a=>by omega
 | N+1,h,a=>by
  simp only[bm]
  by_cases e:k=first+N
  ·subst e
   rw[iR f _ v first N Z,upd_same]
   omega
  have:=j_ f k v first N h Z
  rw[aI f k (first+N) v Z]
  omega
structure Im(S M:Nat)(st n bud:Int)(f:Nat->Option Nat)(W:QM):Prop where
 box:W.heap[S]?=some (.cells #[.int .i32 st,.int .u32 0,.int .i64 n,.int .i64 bud,.map (some M)] 256)
 map:∃D:DataW Unit,W.ownsMap prog 3 ev M 4096 D/\Maps.size D=bm f 0 4096/\(∀k:Nat,k<4611686018427387904->D.atKey (.int .i64 k) .nil=sG (f k))/\∀k:Nat,k<4611686018427387904->has D (.int .i64 k)=(f k).isSome
theorem g_:Keyed prog 3:=int_keyed underlying3
theorem A_(w:QM):(zeroValue 285).run prog w=.ok (.pointer none) w:=E
theorem Bo(k:Nat)(h:k<4611686018427387904):keyOf prog 3 (.int .i64 k)=some (.int .i64 k):=keyOf_int_mk underlying3 (IG Z)
theorem Im.look(h:Im S M st n bud f W)(k:Nat)(j:k<4611686018427387904):
  (Instr.lookup 247 (.map (some M)) (.int .i64 k) false).run prog W=.ok (.pointer ((f k).map λb=>(Qz b 0))) W:=by
 have⟨a,d,_,i,_⟩:=h.map;have⟨v,ps,e,hv⟩:=d.lookup g_ underlying247 (A_ W) (show ev (.pointer none)=some (.nil,[])from rfl) (Bo k j);rw[i k j]at hv;rw[e];rcases hF hv with⟨b,rfl,c⟩|⟨rfl,c⟩
 ·cases g:f k with
  |none=>rw[g]at c;simp[sG]at c
  |some l=>
   rw[g]at c;simp[sG]at c;have:l=b:=Z;subst this;rfl
 cases g:f k with
 |none=>rfl
 |some l=>rw[g]at c;simp[sG]at c
theorem Im.c(h:Im S M st n bud f W):
  W.cell? (Qz S 0)=some (.int .i32 st)/\W.cell? (Qz S 2)=some (I n)/\W.cell? (Qz S 3)=some (I bud)/\W.cell? (Qz S 4)=some (.map (some M)):=by
 have a:=h.box;simp[QC,a]
theorem ef(S M st n bud f)(first a:Nat)(w)(h:Im S M st n bud f w)(p:first<=4096)(q:a<=4096):
  QA 284 #[J S 0,I first,I a] w λe w'=>e=QJ (I (bm f first a))/\w'=w:=by
 have⟨_,_,_,r⟩:=h.c;have l:=H h;go_enter func284,ntmps284;go_wp2;go_loop [7,8,10] (λc _ i=>∃k:Nat,k<=a/\i=I k/\c=I (bm f first k)) (λ_ _ i=>a-(intOf i).toNat);case atStart=>exact⟨0,FH _,rfl,rfl⟩
 case round=>
  obtain⟨k,s,rfl,rfl⟩:=hrel;by_cases m:k<a
  ·have d:=l.look (first+k) Z;have g:((first+k:Nat):Int)=(first:Int)+(k:Int):=Z;rw[g]at d;have o:=ep f first k
   have g:Hid (bm f first (k+1)=bm f first k+(f (first+k)).isSome.toNat):=rfl;generalize bm f first k=c at*
   cases j:f (first+k)with
   |none=>
    rw[j]at d g;simp only[Option.map_none]at d;go_wp2
    go_round
    (case rel=>exact⟨k+1,Z,aY,by rw[g];rfl⟩);case measure=>exact QE
   |some b=>
    rw[j]at d g;simp only[Hi]at d;go_wp2
    go_round
    (case rel=>exact⟨k+1,Z,aY,by rw[g];rfl⟩);case measure=>exact QE
  have d:k=a:=Z;subst d;go_wp2;go_ret;exact QB
def bI(n first e:Int):Bool:=decide (1<=e/\0<=first/\e<=n-first)
theorem c_(S M st n bud f)(first:Int)(count w)(h:Im S M st n bud f w)(b:0<=n)(a:n<=4096)(c:first<=9223372036854775807):
  QA 283 #[J S 0,I first,I count] w λe w'=>e=QJ (.bool (bI n first count))/\w'=w:=by
 have⟨_,d,_,_⟩:=h.c;by_cases g:1<=count
 ·by_cases i:0<=first
  ·by_cases j:count<=n-first
   ·go_enter func283,ntmps283;go_wp2;go_ret;exact⟨cQ (by simp[bI];omega),rfl⟩
   go_enter func283,ntmps283;go_wp2;go_ret;exact⟨cQ (by simp[bI];omega),rfl⟩
  go_enter func283,ntmps283;go_wp2;go_ret;exact⟨cQ (by simp[bI];omega),rfl⟩
 go_enter func283,ntmps283;go_wp2;go_ret;exact⟨cQ (by simp[bI];omega),rfl⟩
theorem tight{n:Nat}{a:DataW Unit}{R:QN->Option (DataW Unit×List MemPlace)}(h:W.ownsMap prog 3 R b n a){d:Nat}(e:Maps.size a<=d):W.ownsMap prog 3 R b d a:=by
 obtain⟨f,c,g,F,i,rfl⟩:=h;exact⟨f,c,g,F,by simpa[Maps.size,length_sorted]using e,rfl⟩
theorem dQ(h:w.mapTurned w' M)(a:b≠M):w'.heap[b]?=w.heap[b]?:=by
 obtain⟨f,c,d,g,e,rfl⟩:=h;exact ChangeMaps.heap_setBlock_other e _ a
theorem Im.ne(h:Im S M st n bud f W):S≠M:=by
 intro e;subst e;obtain⟨a,⟨d,c,b,_⟩,_⟩:=h.map;rw[h.box]at b;cases b
theorem oR{j:Nat}(h:j≠k):(Lit.int .i64 (j:Int))≠.int .i64 (k:Int):=by
 intro e;injection e with _ e;omega
theorem Im.del{S M st n bud f W}(h:Im S M st n bud f W)(k:Nat)(r:k<4096)(o:QO):
  ∃g,(Builtin.delete_ #[247,3] o #[.map (some M),.int .i64 k]).run prog W=.ok (.tuple #[]) g/\Im S M st n bud (upd f k none) g/\W.mapTurned g M:=by
 have⟨a,b,q,l,c⟩:=h.map;have⟨g,i,d,p⟩:=b.drop g_ underlying247 (Bo k Z) o;refine⟨g,i,⟨by rw[dQ p h.ne];exact h.box,a.del (.int .i64 k),d,?_,?_,?_⟩,p⟩
 ·have e1:=Maps.size_del (k:=.int .i64 k) (b.tidy g_);have j:=j_ f k none 0 4096 Z Z;rw[c k Z]at e1;cases m:f k<;>rw[m]at e1 j<;>simp at e1 j<;>omega
 ·intro j m;by_cases e:j=k;·subst e;rw[Maps.atKey_del_same,upd_same];rfl
  rw[Maps.atKey_del_other (oR e),aI f k j _ e];exact l j m
 intro j m;by_cases e:j=k;·subst e;rw[Maps.has_del_same,upd_same];rfl
 rw[Maps.has_del_other (oR e),aI f k j _ e];exact c j m
theorem Im.put{S M st n bud f W}(h:Im S M st n bud f W)(k b:Nat)(s:k<4096):
  ∃l,(Instr.mapUpdate 247 (.map (some M)) (.int .i64 k) (.pointer (some (Qz b 0)))).run prog W=.ok () l/\Im S M st n bud (upd f k (some b)) l/\W.mapTurned l M:=by
 have⟨a,c,r,o,d⟩:=h.map;have⟨l,m,i,q⟩:=c.store g_ underlying247 ar (Bo k Z) (ol b);have g:WideAt.IsKeyLit (.int .i64 (k:Int)):=by simp[WideAt.IsKeyLit]
 have e0:Maps.size (a.put (.int .i64 k) (.lit (.int .i64 b)))=bm (upd f k (some b)) 0 4096:=by
  have e1:=Maps.size_put (k:=.int .i64 k) (c.tidy g_) (.lit (.int .i64 b));have j:=j_ f k (some b) 0 4096 Z Z;rw[d k Z]at e1;cases p:f k<;>rw[p]at e1 j<;>simp at e1 j<;>omega
 refine⟨l,m,⟨by rw[dQ q h.ne];exact h.box,_,tight i (by rw[e0];exact ep _ _ _),e0,?_,?_⟩,q⟩
 ·intro j p;by_cases e:j=k;·subst e;rw[Maps.atKey_put_same c.isMap g,upd_same];rfl
  rw[Maps.atKey_put_other (oR e),aI f k j _ e];exact o j p
 intro j p;by_cases e:j=k;·subst e;rw[Maps.has_put_same c.isMap g,upd_same];rfl
 rw[Maps.has_put_other (oR e),aI f k j _ e];exact d j p
theorem Im.len{S M st n bud f W}(h:Im S M st n bud f W)(d:QO):
  (Builtin.len_ #[247] d #[.map (some M)]).run prog W=.ok (I (bm f 0 4096)) W:=by
 have⟨a,b,c,_⟩:=h.map;rw[b.len underlying247 d,c]
section
variable {ops:Array Oper}{rest:List Oper}{o:Oper}{a:Act}{Q:Exit->Act->World->Prop}
theorem jD(w)(e:o.guard=none)(m x:Operand)(c:o.op=Op.call {callee:=Callee.builtin Builtin.delete,args:=#[m,x],argTypes:=#[247,3]})(h:Im S M st n bud f w)(k:Nat)(g:k<4096)(i:a.eval m=.map (some M))(j:a.eval x=I k)(l:∀w',Im S M st n bud (upd f k none) w'->w.mapTurned w' M->wpList prog ops Q rest (a.put o.dst (.tuple #[])) w'):
  wpList prog ops Q (o::rest) a w:=by
 refine IA e λK' d=>?_;have⟨w',b,p,q⟩:=h.del k g o.type;unfold Oper.wp;simp[execOp,c,resolve,invoke,builtin,i,j,b,Result.andThen];exact d _ _ (l w' p q)
theorem nd(w)(g:o.guard=none)(m x v:Operand)(d:o.op=Op.mapUpdate 247 m x v)(h:Im S M st n bud f w)(k:Nat)(b)(i:k<4096)(j:a.eval m=.map (some M))(l:a.eval x=I k)(hv:a.eval v=J b 0)(p:∀w',Im S M st n bud (upd f k (some b)) w'->w.mapTurned w' M->wpList prog ops Q rest (a.put o.dst undef) w'):
  wpList prog ops Q (o::rest) a w:=by
 refine IA g λK' e=>?_;have⟨w',c,q,r⟩:=h.put k b i;unfold Oper.wp;simp[execOp,d,j,l,hv,c,Result.andThen];exact e _ _ (p w' q r)
theorem nj(w)(d:o.guard=none)(m:Operand)(b:o.op=Op.call {callee:=Callee.builtin Builtin.len,args:=#[m],argTypes:=#[247]})(h:Im S M st n bud f w)(e:a.eval m=.map (some M))(g:wpList prog ops Q rest (a.put o.dst (I (bm f 0 4096))) w):
  wpList prog ops Q (o::rest) a w:=by
 refine IA d λK' c=>?_;unfold Oper.wp;simp[execOp,b,resolve,invoke,builtin,e,h.len o.type,Result.andThen];exact c _ _ g
end
def without(f:Nat->Option Nat)(first:Nat):Nat->(Nat->Option Nat)
 |0=>f
 |k+1=>upd (without f first k) (first+k) none
theorem turned_refl(h:Im S M st n bud f W):W.mapTurned W M:=by
 have⟨a,b,_⟩:=h.map;exact b.turned_refl
theorem rL(S M st n bud f)(first:Int)(count w)(h:Im S M st n bud f w)(d:0<=n)(b:n<=4096)(g:first<=9223372036854775807)(a:bI n first count=false):
  QA 244 #[J S 0,I first,I count] w λe w'=>e=QJ (I 6)/\w'=w:=by
 have c:=H (c_ S M st n bud f first count w h d b g);rw[a]at c;go_enter func244,ntmps244;go_wp2_with fail;refine c.mono ?_;rintro _ _⟨rfl,rfl⟩;go_wp2_with fail;go_ret;exact QB
theorem ni(S M st n bud f)(first a g:Nat)(w)(h:Im S M st n bud f w)(k:0<=n)(d:n<=4096)(b:bI n first a=true)(c:bm f first a=g)(l:g<a):
  QA 244 #[J S 0,I first,I a] w λe w'=>e=QJ (I 6)/\w'=w:=by
 have m:1<=a/\first+a<=4096:=by simp[bI]at b;omega
 have i:=H (c_ S M st n bud f first a w h k d Z);rw[b]at i;have j:=H (ef S M st n bud f first a w h Z Z);rw[c]at j;go_enter func244,ntmps244;go_wp2_with fail;refine i.mono ?_;rintro _ _⟨rfl,rfl⟩;go_wp2_with fail;refine j.mono ?_;rintro _ b⟨rfl,rfl⟩;go_wp2_with fail;go_ret;exact QB
theorem oJ(S M st n bud f)(first a:Nat)(w)(h:Im S M st n bud f w)(s:0<=n)(l:n<=4096)(c:bI n first a=true)(b:bm f first a=a):
  QA 244 #[J S 0,I first,I a] w λe w'=>e=QJ (I 0)/\Im S M st n bud (without f first a) w'/\w.mapTurned w' M:=by
 have v:1<=a/\first+a<=4096:=by simp[bI]at c;omega
 have m:=H (c_ S M st n bud f first a w h s l Z);rw[c]at m;have o:=H (ef S M st n bud f first a w h Z Z);rw[b]at o;have p:=H h;have⟨_,_,_,q⟩:=h.c;clear c b h;go_enter func244,ntmps244;go_wp2_with fail;refine m.mono ?_;rintro _ _⟨rfl,rfl⟩;go_wp2_with fail;refine o.mono ?_;rintro _ t⟨rfl,rfl⟩;go_wp2_with fail;go_loopw [22] (λi wr=>∃k:Nat,k<=a/\i=I k/\Im S M st n bud (without f first k) wr/\t.mapTurned wr M) (λi _=>a-(intOf i).toNat);case atStart=>exact⟨0,FH _,rfl,p,turned_refl p⟩
 case round=>
  obtain⟨k,x,rfl,b,j⟩:=hrel;by_cases u:k<a
  ·have⟨_,_,_,q⟩:=b.c;have d:=H (IT b j);clear b j;go_wp2_with (at_delete;refine jD _ rfl _ _ rfl d.1 (first+k) Z rfl aY ?_);intro y c g;have r:=H (IT c (d.2.trans g));clear c g q;go_wp2_with fail;go_roundw;(case rel=>exact⟨k+1,Z,aY,r.1,r.2⟩);case measure=>exact QE
  have c:k=a:=Z;subst c;have d:=H (IT b j);clear b j;go_wp2_with fail;go_ret;exact⟨rfl,d⟩
def eh(l:Bool)(xs:List Int):Array Value:=(Ns .u8 xs++[Value.bool l]).toArray
structure Pg(f:Nat->Option Nat)(m:Nat->Option (Bool×List Int))(W:QM):Prop where
 at':∀k,(f k=none/\m k=none)\/∃b l xs,f k=some b/\m k=some (l,xs)/\xs.length=1024/\W.heap[b]?=some (.cells (eh l xs) 288)
 inj:∀j k b,f j=some b->f k=some b->j=k
structure Fr(S M:Nat)(f f':Nat->Option Nat)(W W':QM):Prop where
 os:W'.os=W.os
 tape:W'.tape=W.tape
 output:W'.output=W.output
 size:W.heap.size<=W'.heap.size
 block:∀g,g<W.heap.size->g≠S->g≠M->(∀k,f k≠some g)->W'.heap[g]?=W.heap[g]?
 made:∀k g,f' k=some g->(∃j,f j=some g)\/W.heap.size<=g
theorem Fr.refl(S M f W):Fr S M f f W W:=⟨rfl,rfl,rfl,Fv _,λ_ _ _ _ _=>rfl,λk g h=>.inl ⟨k,h⟩⟩
theorem Fr.trans{S M f f' f'' W W' W''}(h:Fr S M f f' W W')(a:Fr S M f' f'' W' W''):Fr S M f f'' W W'':=by
 refine⟨a.os.trans h.os,a.tape.trans h.tape,a.output.trans h.output,Fx h.size a.size,?_,?_⟩
 ·intro g c d i l;rw[a.block g (FG c h.size) d i ?_];·exact h.block g c d i l
  intro k e;rcases h.made k g e with⟨j,b⟩|b;·exact l j b
  omega
 intro k g e;rcases a.made k g e with⟨j,b⟩|b;·exact h.made j g b
 right;have:=h.size;omega
theorem Pg.none_iff(h:Pg f m W)(k:Nat):(f k).isSome=(m k).isSome:=by
 rcases h.at' k with⟨a,c⟩|⟨b,l,xs,a,c,_⟩<;>rw[a,c]<;>rfl
theorem Pg.cell(h:Pg f m W)(a:f k=some b):
  ∃l xs,m k=some (l,xs)/\xs.length=1024/\W.heap[b]?=some (.cells (eh l xs) 288):=by
 rcases h.at' k with⟨c,d⟩|⟨g,l,xs,c,d,e⟩;·rw[c]at a;cases a
 rw[c]at a;cases a;exact⟨l,xs,d,e⟩
theorem mP(l)(xs:List Int)(h:xs.length=1024):(eh l xs)[1024]?=some (.bool l):=by
 simp[eh,Ns,h]
theorem ja(l)(xs:List Int)(i:Nat)(h:i<xs.length):(eh l xs)[i]?=some (.int .u8 (xs[i]?.getD 0)):=by
 simp[eh,Ns,List.getElem?_append,h]
theorem Pg.lockCell(h:Pg f m W)(d:f k=some b){l:Bool}{xs:List Int}(e:m k=some (l,xs)):
  W.cell? (Qz b 1024)=some (.bool l)/\W.frozen? (Qz b 1024)=false:=by
 have⟨j,g,a,i,c⟩:=h.cell d;rw[e]at a;cases a;exact⟨by simp[QC,c,mP _ _ i],by simp[QD,c]⟩
theorem lX(S M st n bud f)(first:Int)(count)(v:Bool)(w)(h:Im S M st n bud f w)(d:0<=n)(b:n<=4096)(g:first<=9223372036854775807)(a:bI n first count=false):
  QA 245 #[J S 0,I first,I count,.bool v] w λe w'=>e=QJ (I 6)/\w'=w:=by
 have c:=H (c_ S M st n bud f first count w h d b g);rw[a]at c;go_enter func245,ntmps245;go_wp2_with fail;refine c.mono ?_;rintro _ _⟨rfl,rfl⟩;go_wp2_with fail;go_ret;exact QB
theorem jl(S M st n bud f)(first a g:Nat)(v:Bool)(w)(h:Im S M st n bud f w)(k:0<=n)(d:n<=4096)(b:bI n first a=true)(c:bm f first a=g)(l:g<a):
  QA 245 #[J S 0,I first,I a,.bool v] w λe w'=>e=QJ (I 6)/\w'=w:=by
 have m:1<=a/\first+a<=4096:=by simp[bI]at b;omega
 have i:=H (c_ S M st n bud f first a w h k d Z);rw[b]at i;have j:=H (ef S M st n bud f first a w h Z Z);rw[c]at j;go_enter func245,ntmps245;go_wp2_with fail;refine i.mono ?_;rintro _ _⟨rfl,rfl⟩;go_wp2_with fail;refine j.mono ?_;rintro _ b⟨rfl,rfl⟩;go_wp2_with fail;go_ret;exact QB
def dT(m:Nat->Option (Bool×List Int))(k:Nat)(v:Option (Bool×List Int)):Nat->Option (Bool×List Int):=λj=>if j=k then v else m j
theorem bV(m k v):dT m k v k=v:=by simp[dT]
theorem aW(m)(k j:Nat)(v)(h:j≠k):dT m k v j=m j:=by simp[dT,h]
def gU(m:Nat->Option (Bool×List Int))(first:Nat)(v:Bool):Nat->(Nat->Option (Bool×List Int))
 |0=>m
 |k+1=>dT (gU m first v k) (first+k) ((gU m first v k (first+k)).map λp=>(v,p.2))
theorem Im.setCell{S M st n bud f W}(h:Im S M st n bud f W){p:Addr}(c:p.block≠S)(d:p.block≠M)(v:QN):Im S M st n bud f (W.setCell p v):=by
 have⟨a,b,r⟩:=h.map;exact⟨by rw[GQ _ _ _ _ (Iq c)];exact h.box,a,b.setCell (Iq d) v,r⟩
theorem Pg.apart(h:Pg f m W)(g:Im S M st n bud f W)(i:f k=some b):b≠S/\b≠M:=by
 have⟨l,xs,_,_,d⟩:=h.cell i;constructor;·intro e;subst e;rw[g.box]at d;simp at d
 intro e;subst e;obtain⟨a,⟨o,c,j,_⟩,_⟩:=g.map;rw[j]at d;cases d
theorem NZ(l v:Bool)(xs:List Int)(h:xs.length=1024):(eh l xs).setIfInBounds 1024 (.bool v)=eh v xs:=by
 apply Array.ext_getElem?;intro i;rw[FK];by_cases e:1024=i;·subst e;rw[GP rfl,GP (by simp[eh,Ns,h]),mP _ _ h]
 rw[GO e];by_cases a:i<xs.length;·rw[ja _ _ _ a,ja _ _ _ a]
 rw[Hd (by simp[eh,Ns];omega),Hd (by simp[eh,Ns];omega)]
theorem bj{c:Array QN}{t:QO}(h:W.heap[b]?=some (.cells c t))(v:QN):(W.setCell (Qz b i) v).heap[b]?=some (.cells (c.setIfInBounds i v) t):=by
 simp[World.setCell,FD,h]
theorem Pg.set(h:Pg f m W)(g:f k=some b){l n:Bool}{xs a:List Int}
  (r:m k=some (l,xs)) (s:a.length=1024) (t:(eh l xs).setIfInBounds i v=eh n a):Pg f (dT m k (some (n,a))) (W.setCell (Qz b i) v):=by
 refine⟨?_,h.inj⟩;intro j;by_cases e:j=k
 ·subst e;have⟨l2,d,c,p,o⟩:=h.cell g;rw[r]at c;cases c;exact .inr ⟨b,n,a,g,bV _ _ _,s,by rw[bj o,t]⟩
 rw[aW m k j _ e];rcases h.at' j with c|⟨u,l2,d,c,p,o,w⟩;·exact .inl c
 refine .inr ⟨u,l2,d,c,p,o,?_⟩;rw[GQ _ _ _ _ ?_];·exact w
 intro q;simp at q;subst q;exact e (h.inj j k _ c g)
theorem Fr.set{W'}(h:Fr S M f f W W')(c:f k=some b)(v:QN):Fr S M f f W (W'.setCell (Qz b i) v):=by
 refine⟨h.os,h.tape,h.output,by simp[World.setCell];exact h.size,?_,h.made⟩;intro g d j l a;rw[GQ _ _ _ _ ?_];·exact h.block g d j l a
 intro e;simp at e;subst e;exact a k c
theorem oe{f first}: ∀{N:Nat},bm f first N=N->∀k,k<N->∃b,f (first+k)=some b
 |0,_,k,c=>by omega
 | N+1,h,k,c=>by
  have d:=ep f first N
  simp only[bm]at h
  cases a:f (first+N)with
  |none=>rw[a]at h;simp at h;omega
  |some b=>
   rw[a]at h
   simp at h
   by_cases e:k=N
   ·subst e;exact⟨b,a⟩
   exact oe h k Z
theorem ki(S M st n bud f m)(first a:Nat)(v:Bool)(w)(h:Im S M st n bud f w)(l:Pg f m w)(F:0<=n)(u:n<=4096)(d:bI n first a=true)(c:bm f first a=a):
  QA 245 #[J S 0,I first,I a,.bool v] w λe w'=>e=QJ (I 0)/\Im S M st n bud f w'/\Pg f (gU m first v a) w'/\Fr S M f f w w':=by
 have N:1<=a/\first+a<=4096:=by simp[bI]at d;omega
 have g:=H (c_ S M st n bud f first a w h F u Z);rw[d]at g;have j:=H (ef S M st n bud f first a w h Z Z);rw[c]at j;have G:=H (oe c);have x:=H (IT h l);have⟨_,_,_,K⟩:=h.c;clear d c h l;go_enter func245,ntmps245;go_wp2_with fail;refine g.mono ?_;rintro _ _⟨rfl,rfl⟩;go_wp2_with fail;refine j.mono ?_;rintro _ L⟨rfl,rfl⟩;go_wp2_with fail;clear g j;go_loopw [24] (λi wr=>∃k:Nat,k<=a/\i=I k/\Im S M st n bud f wr/\Pg f (gU m first v k) wr/\Fr S M f f L wr) (λi _=>a-(intOf i).toNat);case atStart=>exact⟨0,FH _,rfl,x.1,x.2,Fr.refl S M f _⟩
 case round=>
  obtain⟨k,O,rfl,c,d,j⟩:=hrel;by_cases y:k<a
  ·have⟨_,_,_,K⟩:=c.c;have⟨b,o⟩:=G.out k y;have⟨l,xs,t,z,_⟩:=d.cell o;have⟨P,Q⟩:=d.lockCell o t;have⟨r,s⟩:=d.apart c o;have g:=c.look (first+k) Z;rw[o]at g;simp only[Hi]at g;have A:((first+k:Nat):Int)=(first:Int)+(k:Int):=Z;rw[A]at g;have B:=d.set o t z (NZ l v xs z);have q:=H (IT (c.setCell (p:=(Qz b 1024)) r s (.bool v)) (IT B (IT t (j.set (i:=1024) o (.bool v)))));clear c d j A r s t z o B x;go_wp2;go_roundw;case rel=>
    refine⟨k+1,Z,aY,q.1,?_,q.2.2.2⟩;simp only[gU];rw[q.2.2.1];exact q.2.1
   case measure=>exact QE
  have g:k=a:=Z;subst g;have q:=H (IT c (IT d j));clear c d j;go_wp2_with fail;go_ret;exact⟨rfl,q⟩
theorem Im.drew{S M st n bud f W}(h:Im S M st n bud f W):Im S M st n bud f W.drew:=⟨h.box,h.map⟩
def iL:Array Value:=eh false (List.replicate 1024 0)
theorem zN(w:QM):(Instr.build 288 #[]).run prog w=.ok (.agg iL) w:=E
theorem DC(w:QM):(Instr.box 288 (.agg iL)).run prog w=.ok (J w.heap.size 0) (w.alloc (.cells iL 288)):=E
section
variable {ops:Array Oper}{rest:List Oper}{o:Oper}{a:Act}{Q:Exit->Act->World->Prop}
theorem ab(w:QM)(d:o.guard=none)(b:o.op=Op.build 288 #[])
  (e:∀v,Hid (v=.agg iL)->wpList prog ops Q rest (a.put o.dst v) w):
  wpList prog ops Q (o::rest) a w:=by
 refine IA d λK' c=>?_;unfold Oper.wp;simp[execOp,b,zN w,Result.andThen];exact c _ _ (e _ (H rfl))
theorem kQ(w:QM)(d:o.guard=none)(x:Operand)(b:o.op=Op.box 288 x)(v:QN)(e:a.eval x=v)(hv:Hid (v=.agg iL))
  (f:∀w',Hid (w'=w.alloc (.cells iL 288))->wpList prog ops Q rest (a.put o.dst (J w.heap.size 0)) w'):
  wpList prog ops Q (o::rest) a w:=by
 refine IA d λK' c=>?_;unfold Oper.wp;simp[execOp,b,e,hv.out,DC w,Result.andThen];exact c _ _ (f _ (H rfl))
end
theorem Im.alloc{S M st n bud f W}(h:Im S M st n bud f W)(o:Obj):Im S M st n bud f (W.alloc o):=by
 have⟨a,b,r⟩:=h.map;exact⟨by rw[(GZ W o none).block S (G_ h.box) bH];exact h.box,a,b.alloc o,r⟩
theorem Pg.drew{f m W}(h:Pg f m W):Pg f m W.drew:=⟨h.at',h.inj⟩
theorem Fr.drew{S M f f' W W'}(h:Fr S M f f' W W'):Fr S M f f' W W'.drew:=⟨h.os,h.tape,h.output,h.size,h.block,h.made⟩
def aT(m:Nat->Option (Bool×List Int))(first:Nat):Nat->(Nat->Option (Bool×List Int))
 |0=>m
 |k+1=>dT (aT m first k) (first+k) (some (false,List.replicate 1024 0))
theorem Pg.made(h:Pg f m W)(p:Im S M st n bud f W)(k)(e1:W1=W.alloc (.cells iL 288))(q:W1.mapTurned W2 M):
  Pg (upd f k (some W.heap.size)) (dT m k (some (false,List.replicate 1024 0))) W2:=by
 subst e1;have s:M<W.heap.size:=by obtain⟨a,c,_⟩:=p.map;exact c.lt
 have a:∀j b,f j=some b->b<W.heap.size:=by
  intro j b e;have⟨l,xs,_,_,o⟩:=h.cell e;exact G_ o
 constructor
 ·intro j;by_cases e:j=k;·subst e;refine .inr ⟨W.heap.size,false,List.replicate 1024 0,upd_same _ _ _,bV _ _ _,Gc,?_⟩;rw[dQ q Z];exact(Hq W _).1
  rw[aW m k j _ e,aI f k j _ e];rcases h.at' j with c|⟨g,l2,d,c,r,o,l⟩;·exact .inl c
  refine .inr ⟨g,l2,d,c,r,o,?_⟩;rw[dQ q (h.apart p c).2,(GZ W _ none).block g (G_ l) bH];exact l
 intro i j b d c;by_cases e:i=k
 ·subst e;rw[upd_same]at d;cases d;by_cases g:j=i;·exact g.symm
  rw[aI f i j _ g]at c;have:=a j _ c;omega
 rw[aI f k i _ e]at d;by_cases g:j=k
 ·subst g;rw[upd_same]at c;cases c;have:=a i _ d;omega
 rw[aI f k j _ g]at c;exact h.inj i j b d c
theorem Fr.turned{f'}(h:Fr S M f f' W W1)(b:W1.mapTurned W2 M):Fr S M f f' W W2:=by
 have a:=b.grown;refine⟨a.os.trans h.os,a.tape.trans h.tape,a.output.trans h.output,Fx h.size a.size,?_,h.made⟩;intro g d e c i;rw[dQ b c];exact h.block g d e c i
theorem Fr.fresh{f'}{b:QM}(h:Fr S M f f' W W1)(k)(e1:W2=W1.alloc (.cells iL 288))(d:W2.mapTurned b M):Fr S M f (upd f' k (some W1.heap.size)) W b:=by
 subst e1;refine Fr.turned ?_ d;have a:=GZ W1 (.cells iL 288) none;refine⟨a.os.trans h.os,a.tape.trans h.tape,a.output.trans h.output,Fx h.size a.size,?_,?_⟩;·intro g c i j l;rw[a.block g (FG c h.size) bH];exact h.block g c i j l
 intro j g e;by_cases c:j=k
 ·subst c;rw[upd_same]at e;cases e;exact .inr h.size
 rw[aI f' k j _ c]at e;exact h.made j g e
theorem uV(S M st n bud f)(first:Int)(count w)(h:Im S M st n bud f w)(d:0<=n)(b:n<=4096)(g:first<=9223372036854775807)(a:bI n first count=false):
  QA 243 #[J S 0,I first,I count] w λe w'=>e=QJ (I 6)/\w'=w:=by
 have c:=H (c_ S M st n bud f first count w h d b g);rw[a]at c;go_enter func243,ntmps243;go_wp2_with fail;refine c.mono ?_;rintro _ _⟨rfl,rfl⟩;go_wp2_with fail;go_ret;exact QB
theorem qh(S M st n bud f)(first a g:Nat)(w)(h:Im S M st n bud f w)(k:0<=n)(d:n<=4096)(b:bI n first a=true)(c:bm f first a=g)(l:0<g):
  QA 243 #[J S 0,I first,I a] w λe w'=>e=QJ (I 6)/\w'=w:=by
 have m:1<=a/\first+a<=4096:=by simp[bI]at b;omega
 have i:=H (c_ S M st n bud f first a w h k d Z);rw[b]at i;have j:=H (ef S M st n bud f first a w h Z Z);rw[c]at j;go_enter func243,ntmps243;go_wp2_with fail;refine i.mono ?_;rintro _ _⟨rfl,rfl⟩;go_wp2_with fail;refine j.mono ?_;rintro _ b⟨rfl,rfl⟩;go_wp2_with fail;go_ret;exact QB
theorem qL(S M st n bud f)(first a d:Nat)(w)(h:Im S M st n bud f w)(m:0<=n)(g:n<=4096)(b:bI n first a=true)(i:bm f first a=0)(c:bm f 0 4096=d)(o:bud<d+a):
  QA 243 #[J S 0,I first,I a] w λe w'=>e=QJ (I 1)/\w'=w.drew:=by
 have r:1<=a/\first+a<=4096:=by simp[bI]at b;omega
 have j:=H (c_ S M st n bud f first a w h m g Z);rw[b]at j;have k:=H (ef S M st n bud f first a w h Z Z);rw[i]at k;have p:d<=4096:=c▸ep f 0 4096;have⟨_,_,s,t⟩:=h.c;have⟨l,q⟩:=y7 h c;go_enter func243,ntmps243;go_wp2_with fail;refine j.mono ?_;rintro _ _⟨rfl,rfl⟩;go_wp2_with fail;refine k.mono ?_;rintro _ i⟨rfl,rfl⟩;have c:=l.len 3;have b:=l.drew.len 3;rw[q]at c b;go_wp2_with fail;go_region;go_wp2;go_ret;exact QB
theorem sj(S M st n bud f m)(first a s:Nat)(w)(h:Im S M st n bud f w)(l:Pg f m w)(A:0<=n)(t:n<=4096)(b:bI n first a=true)(o:bm f first a=0)(d:bm f 0 4096=s)(x:s+a<=bud):
  QA 243 #[J S 0,I first,I a] w λe w'=>e=QJ (I 0)/\∃c,Im S M st n bud c w'/\Pg c (aT m first a) w'/\Fr S M f c w w':=by
 have L:1<=a/\first+a<=4096:=by simp[bI]at b;omega
 have g:=H (c_ S M st n bud f first a w h A t Z);rw[b]at g;have j:=H (ef S M st n bud f first a w h Z Z);rw[o]at j;have B:s<=4096:=d▸ep f 0 4096;have⟨_,_,N,y⟩:=h.c;have r:=H h;have z:=H l;have F:=H d;clear b d h o l;go_enter func243,ntmps243;go_wp2_with fail;refine g.mono ?_;rintro _ _⟨rfl,rfl⟩;go_wp2_with fail;refine j.mono ?_;rintro _ G⟨rfl,rfl⟩;have d:=r.len 3;have b:=r.drew.len 3;rw[F]at d b;go_wp2_with fail;go_region;clear d b g j;go_wp2_with fail;go_loopw [33] (λi wr=>∃k:Nat,k<=a/\i=I k/\∃c,Im S M st n bud c wr/\Pg c (aT m first k) wr/\Fr S M f c G wr) (λi _=>a-(intOf i).toNat);case atStart=>exact⟨0,FH _,rfl,f,r.drew,z.drew,(Fr.refl S M f _).drew⟩
 case round=>
  obtain⟨k,O,rfl,c,b,d,g⟩:=hrel;by_cases K:k<a
  ·have⟨_,_,_,y⟩:=b.c;have p:=H (IT b (IT d g));have u:=H (b.alloc (.cells iL 288));clear b d g r z;go_wp2_with (refine ab _ rfl rfl ?_);intro P q;go_wp2_with (refine kQ _ rfl _ rfl _ rfl q ?_);intro Q j;rw[<-j.out]at u;go_wp2_with (refine nd _ rfl _ _ _ rfl u (first+k) _ Z rfl aY rfl ?_);intro R l o;have v:=H (IT l (IT (p.2.1.made p.1 (first+k) j o) (p.2.2.fresh (first+k) j o)));clear p u l o j q y;go_wp2_with fail;go_roundw;(case rel=>exact⟨k+1,Z,aY,_,v.1,v.2.1,v.2.2⟩);case measure=>exact QE
  have j:k=a:=Z;subst j;have p:=H (IT b (IT d g));clear b d g;go_wp2_with fail;go_ret;exact⟨rfl,c,p⟩
theorem hidR{p:Prop}(h:p):Hid p:=h
def vN:List Int:=[16,32,48,64,96,128,192,256,384,512,768,1024]
def sz(c:Int):Int:=if 0<=c/\c<12 then vN.getD c.toNat 0 else 0
def pg(c:Int):Int:=(4*sz c+1024-1)/1024
def sl(c:Int):Int:=if 0<=c/\c<12 then pg c*1024/sz c else 0
def us(c:Int):Int:=if 0<=c/\c<12 then sz c-8 else 0
theorem fh{c:Int}(h:0<=c/\c<12):c=0\/c=1\/c=2\/c=3\/c=4\/c=5\/c=6\/c=7\/c=8\/c=9\/c=10\/c=11:=Z
theorem eJ{c:Int}(h:0<=c/\c<12):16<=sz c/\sz c<=1024:=by
 rcases fh h with rfl|rfl|rfl|rfl|rfl|rfl|rfl|rfl|rfl|rfl|rfl|rfl<;>decide
theorem gP{c:Int}(h:¬(0<=c/\c<12)):sz c=0:=by simp only[sz,GO h]
theorem Eh(c):0<=sz c/\sz c<=1024:=by
 by_cases h:0<=c/\c<12;·have:=eJ h;omega
 rw[gP h];omega
theorem s_(h:k<12):sz (k:Int)=vN.getD k 0:=by
 have a:(0:Int)<=(k:Int)/\(k:Int)<12:=Z;simp only[sz,GP a,F0]
structure Tb(w:QM):Prop where
 row:∃t fr,w.heap[6]?=some (.cells (vN.map λz=>Value.int .i64 z).toArray t fr)
theorem Tb.cells(h:Tb w)(k:Nat)(b:k<12):w.cell? (Qz 6 k)=some (I (vN.getD k 0)):=by
 have⟨t,c,h⟩:=h.row;have a:k<vN.length:=b;simp[QC,h,Fy a]
theorem Tb.below(h:Tb w)(b:D w w'):Tb w':=by
 have⟨t,c,h⟩:=h.row;have a:6<w.heap.size:=by
  by_cases a:6<w.heap.size;·exact a
  have:w.heap[6]?=none:=Hd Z;rw[this]at h;cases h
 exact⟨t,c,by rw[b.block 6 a];exact h⟩
theorem cv{b c}(d:D a b)(e:D b c):D a c:=d.trans (e.mono d.size)
theorem NR(c:Int)(w:QM)(h:0<=c/\c<12):
  QA 200 #[I c] w λe w'=>e=QJ Ql/\w'=w:=by
 have⟨a,b⟩:=h;go_enter func200,ntmps200;go_wp2;go_ret;exact QB
theorem dY(c:Int)(w:QM)(h:¬(0<=c/\c<12)):
  QA 200 #[I c] w λe w'=>e=QJ (.bool false)/\w'=w:=by
 by_cases b:0<=c;·have a:(decide (c<12))=false:=GR Z;go_enter func200,ntmps200;go_wp2;go_ret;exact⟨by rw[<-a];rfl,rfl⟩
 go_enter func200,ntmps200;go_wp2;go_ret;exact QB
theorem dJ(c w)(a:Tb w):
  QA 202 #[I c] w λe w'=>e=QJ (I (sz c))/\w'=w:=by
 by_cases h:0<=c/\c<12
 ·obtain⟨k,rfl⟩:=Ha h.1;have d:k<12:=Z;have f:=a.cells k d;rw[s_ d];have b:=hidR (NR _ w h);go_enter func202,ntmps202;go_wp2_with fail;refine(b).mono ?_;rintro e w'⟨rfl,rfl⟩;go_wp2;go_ret;exact QB
 rw[gP h];have b:=hidR (dY _ w h);go_enter func202,ntmps202;go_wp2_with fail;refine(b).mono ?_;rintro e w'⟨rfl,rfl⟩;go_wp2;go_ret;exact QB
end Go.Proofs.YtdhegekcmmlohaaGreatDoor
namespace Go.Proofs.YtdhegekcmmlohaaGreatDoor.product
open Go.Proofs.Tryz Go.RowKit Go.Maps Go.Shelf Go.ChangeShapes Go.WideShapes Go.ChangeAt
theorem Bm{p:Prop}(h:p):Hid p:=h
theorem tK(x y:Nat)(j:x<18446744073709551616)(k:y<18446744073709551616)(w:QM):
  QA 184 #[U x,U y] w λe w'=>e=QJ (.tuple #[U ((x*y/18446744073709551616:Nat):Int),U ((x*y%18446744073709551616:Nat):Int)])/\w'=w:=by
 have⟨m,l,n,c⟩:=Lib.mul64_hi x y j k;have p:=CT (a:=x/4294967296) (b:=y/4294967296) Z Z;have q:=CT (a:=x/4294967296) (b:=y%4294967296) Z Z;have r:=CT (a:=x%4294967296) (b:=y/4294967296) Z Z;have d:x/4294967296*(y/4294967296)<18446744073709551616:=Z;have f:x/4294967296*(y%4294967296)<18446744073709551616:=Z;have g:x%4294967296*(y/4294967296)<18446744073709551616:=Z;have i:x/4294967296*(y/4294967296)+(x/4294967296*(y%4294967296)+x%4294967296*(y%4294967296)/4294967296)/4294967296<18446744073709551616:=Z;have o:x/4294967296*(y/4294967296)+(x/4294967296*(y%4294967296)+x%4294967296*(y%4294967296)/4294967296)/4294967296+((x/4294967296*(y%4294967296)+x%4294967296*(y%4294967296)/4294967296)%4294967296+x%4294967296*(y/4294967296))/4294967296<18446744073709551616:=Z;go_enter func184,ntmps184;go_wp2;simp only[Mul64.maskN x j,Mul64.maskN y k,Mul64.divN,Mul64.mulN,Mul64.addN,Hv _ m,Hv _ f,Hv _ l,Mul64.maskN _ l,Hv _ g,Hv _ n,Hv _ d,Hv _ i,Hv _ o,Mul64.wrapM (x*y)];rw[c]
 go_ret2
 exact QB
theorem im_Product_no(x y:Nat)(b:x<18446744073709551616)(c:y<18446744073709551616)(h:18446744073709551616<=x*y)(w:QM):
  QA 135 #[U x,U y] w λe w'=>e=QJ (.tuple #[U 0,.bool false])/\w'=w:=by
 have a:=Bm (tK x y b c w);have d:(((x*y/18446744073709551616:Nat):Int) !=0)=true:=by
  have:1<=x*y/18446744073709551616:=(Nat.le_div_iff_mul_le Z).2 Z;simp;omega
 generalize x*y/18446744073709551616=q at a d;generalize x*y%18446744073709551616=r at a;go_enter func135,ntmps135;go_wp2_with fail;refine(a).mono ?_;rintro e w'⟨rfl,rfl⟩;go_wp2
 go_ret2
 exact QB
theorem im_Product_yes(x y:Nat)(b:x<18446744073709551616)(c:y<18446744073709551616)(h:x*y<18446744073709551616)(w:QM):
  QA 135 #[U x,U y] w λe w'=>e=QJ (.tuple #[U ((x*y:Nat):Int),.bool true])/\w'=w:=by
 have a:=Bm (tK x y b c w);rw[Nat.div_eq_of_lt h,H4 h]at a;generalize x*y=r at a h⊢;go_enter func135,ntmps135;go_wp2_with fail;refine(a).mono ?_;rintro e w'⟨rfl,rfl⟩;go_wp2
 go_ret2
 exact QB
end Go.Proofs.YtdhegekcmmlohaaGreatDoor.product
namespace Go.Proofs.YtdhegekcmmlohaaGreatDoor
open Go.Proofs.Tryz Go.RowKit Go.Maps Go.Shelf Go.ChangeShapes Go.WideShapes Go.ChangeAt
section
variable {W w:World}{M S g:Nat}{xs:List Value}{f:Nat->Option Nat}{zs:List Int}
theorem Tryz.info5By:(prog.info? 5).map (λi=>(i.zero,i.size,i.bytes))=some (some (.int .u8 0),1,1):=E
def vZ(e len:Nat):List Int:=(List.range len).map λj=>((e+j:Nat):Int)%256
theorem qX(k0 len):(vZ k0 len).length=len:=by simp[vZ]
theorem y6(b a j:Nat)(h:j<a):(vZ b a)[j]?=some (((b+j:Nat):Int)%256):=by simp[vZ,h]
def RowM(w:World)(g:Nat)(xs:List Value):Prop:=
 ∃(c:Array Value)(fz:Nat×Nat),w.heap[g]?=some (.cells c 5 fz)/\xs.length<=c.size/\(∀i,i<xs.length->c[i]?=xs[i]?)/\(xs.length<=fz.1\/fz.2=0)
theorem RowV.m(h:RowV w g 5 xs):RowM w g xs:=by
 have⟨c,a,b,d⟩:=h;exact⟨c,_,a,b,d,.inr rfl⟩
theorem RowM.lt(h:RowM w g xs):g<w.heap.size:=by
 have⟨c,b,a,_⟩:=h;exact G_ a
theorem RowM.cell{w g}{zs:List Int}(h:RowM w g (Ns .u8 zs))(i:Nat)(a:i<zs.length):w.cell? (Qz g i)=some (.int .u8 (zs[i]?.getD 0)):=by
 have⟨c,e,b,_,d,_⟩:=h;simp[QC,b,d i (by rw[NM];exact a),Ns,a]
theorem RowM.free(h:RowM w g xs)(i:Nat)(b:i<xs.length):w.frozen? (Qz g i)=false:=by
 have⟨c,d,a,_,_,e⟩:=h;simp[QD,a];omega
theorem RowM.below{a:QM}{B:Nat}(h:RowM w g xs)(b:Below B w a)(d:g<B):RowM a g xs:=by
 have⟨c,e,f,i⟩:=h;exact⟨c,e,by rw[b.block g d];exact f,i⟩
theorem RowM.grown{b:QM}{d:Nat}(h:RowM w g xs)(f:w.grownBy b (some d))(a:g≠d):RowM b g xs:=by
 have⟨c,i,e,j⟩:=h;exact⟨c,i,by rw[f.block g (G_ e) (by simpa using a)];exact e,j⟩
theorem RowM.set{w g xs}(h:RowM w g xs)(i:Nat)(b:i<xs.length)(v:QN):RowM (w.setCell (Qz g i) v) g (xs.set i v):=by
 have⟨c,d,f,k,l,m⟩:=h;refine⟨c.setIfInBounds i v,d,?_,by simpa using k,?_,by simpa using m⟩;·simp[World.setCell,FD,f]
 intro j a;simp at a;rw[FK,Gr];by_cases e:i=j;·subst e;simp[b,show i<c.size by omega]
 simp[e,l j a]
theorem J2(x:Addr)(a j:Nat)(zs:List Int)(w:QM)(F:zs.length=a)(v:a<=1000000000)
  (l:∀i,i<a->w.cell? (x.add i)=some (.int .u8 (zs[i]?.getD 0))):
  QA 5 #[.slice (some x) a j] w λe A=>e=QJ (Vl w.heap.size a a)/\RowV A w.heap.size 5 (Ns .u8 zs)/\D w A:=by
 have⟨G,K,m,n,o⟩:=G0 Tryz.info5By;go_enter func5,ntmps5;go_wp2_with (at_make;refine wpList_make_full _ rfl _ _ 22 rfl w.heap.size 5 G (.int .u8 0) 1 underlying22 K m n .i64 .i64 _ _ a rfl rfl rfl rfl ?c1 ?c2 ?c3 ?_);case c1=>rw[o];omega
 case c2=>unfold maxLen;omega
 case c3=>exact Fv _
 intro B c b;have q:RowV B w.heap.size 5 (Ns .u8 (List.replicate a 0)):=by
  have:=RowV.ofOwns c;simpa[Ns,Ii,Value.cells]using this
 have r:D w B:=(Fu _ w).grown b (Fv _) bH;go_wp2;go_loopw [4] (λi wr=>∃(k:Nat)(g:List Int),k<=a/\i=I k/\Agree g zs k/\RowV wr w.heap.size 5 (Ns .u8 g)/\D w wr) (λi _=>a-(intOf i).toNat);case atStart=>exact⟨0,_,FH _,rfl,Agree.zero (by simp[F]),q,r⟩
 case round=>
  obtain⟨k,g,N,rfl,d,b,c⟩:=hrel;by_cases s:k<a
  ·have L:wr.cell? (x.add k)=some (.int .u8 (zs[k]?.getD 0)):=NI c (l k s);have t:=jZ b k (by rw[d.1];omega);have M:=b.free k;have u:=b.set k (by rw[NM,d.1];omega) (.int .u8 (zs[k]?.getD 0));rw[wQ]at u;have y:=d.succ Z _ (getD_some zs k Z);have z:=c.setCell (p:=(Qz w.heap.size k)) (Fv _) (.int .u8 (zs[k]?.getD 0));have f:=H (IT u (IT y z));generalize zs[k]?.getD 0=z at*;generalize g[k]?.getD 0=y at t;go_wp2;go_roundw;(case rel=>exact⟨k+1,_,Z,aY,f.2.1,f.1,f.2.2⟩);case measure=>exact QE
  have f:=H (IT (d.all Z▸b) c);go_wp2;go_ret;exact⟨rfl,f⟩
theorem JK(w:QM):
  QA 5 #[C] w λe f=>e=QJ (Vl w.heap.size 0 0)/\RowV f w.heap.size 5 (Ns .u8 [])/\D w f:=by
 have⟨i,j,c,d,k⟩:=G0 Tryz.info5By;go_enter func5,ntmps5;go_wp2_with (at_make;refine wpList_make_full _ rfl _ _ 22 rfl w.heap.size 5 i (.int .u8 0) 1 underlying22 j c d .i64 .i64 _ _ 0 rfl rfl rfl rfl ?c1 ?c2 ?c3 ?_);case c1=>omega
 case c2=>unfold maxLen;omega
 case c3=>exact Fv _
 intro g b a;have l:RowV g w.heap.size 5 (Ns .u8 []):=by
  have:=RowV.ofOwns b;simpa[Ns,Ii,Value.cells]using this
 have m:D w g:=(Fu _ w).grown a (Fv _) bH;go_wp2;refine Hc 1 ?_;rw[Hu];go_wp2;go_ret;exact⟨rfl,l,m⟩
theorem NE(a:QP)(b c:Nat)(zs:List Int)(w:QM)(h:IsRow .u8 w a b c zs)(d:b<=1000000000):
  QA 5 #[.slice a b c] w λe f=>e=QJ (Vl w.heap.size b b)/\RowV f w.heap.size 5 (Ns .u8 (zs.take b))/\D w f:=by
 have g:=h.len;rcases h with⟨rfl,rfl,rfl,rfl⟩|⟨x,rfl,l,m,n,j,o⟩;·exact JK w
 refine J2 x b c (zs.take b) w g d λi k=>?_;rw[j i Z];simp[k,List.getD_eq_getElem?_getD]
theorem NG(a b:QP)(c q cb:Nat)(zs:List Int)(w:QM)(m:c<=1000000000)
  (ha:∀i,i<c->∃g,a=some (Qz g 0)/\QG w g i (.int .u8 (zs[i]?.getD 0)))
  (n:∀i,i<c->∃g,b=some (Qz g 0)/\QG w g i (.int .u8 (zs[i]?.getD 0))):
  QA 7 #[.slice a c q,.slice b c cb] w λe r=>e=QJ Ql/\D w r:=by
 go_enter func7,ntmps7;go_wp2;go_loopw [5] (λi wr=>∃(k:Nat),k<=c/\i=I k/\D w wr) (λi _=>c-(intOf i).toNat);case atStart=>exact⟨0,FH _,rfl,Fu _ _⟩
 case round=>
  obtain⟨k,t,rfl,d⟩:=hrel;by_cases f:k<c
  ·obtain⟨u,rfl,j⟩:=ha k f;obtain⟨v,rfl,l⟩:=n k f;have o:=NI d j;have p:=NI d l;have s:=H d;go_wp2;go_region
   all_goals go_wp2
   go_roundw;(case rel=>exact⟨k+1,Z,aY,s.drew⟩);case measure=>exact QE
  go_wp2;go_ret;exact⟨rfl,d⟩
theorem MC(a:Nat)(w:QM)(c:a<=1000000000000):
  QA 8 #[C,I a] w λe b=>e=QJ (I a)/\b=w:=by
 go_enter func8,ntmps8;go_wp2;refine Hc 1 ?_;rw[Hu];go_wp2;go_ret;exact QB
theorem Mj(a:Nat)(w:QM)(c:a<=1000000000000):
  QA 9 #[C,I a] w λe b=>e=QJ (I a)/\b=w:=by
 go_enter func9,ntmps9;go_wp2;refine Hc 1 ?_;rw[Hu];go_wp2;go_ret;exact QB
theorem Nr(g)(a:Nat)(cap)(zs:List Int)(c:Nat)(w)(b:zs.length=a)(q:a<=1000000000)(z:c<=1000000000000)(d:RowM w g (Ns .u8 zs)):
  QA 8 #[Vl g a cap,I c] w λe r=>e=QJ (I (c+a:Nat))/\RowM r g (Ns .u8 (vZ c a))/\w.grownBy r (some g):=by
 have⟨t,u⟩:=y7 d b;clear d b;go_enter func8,ntmps8;go_wp2;go_loopw [1,5] (λv i wr=>∃(j:Nat)(k:List Int),j<=a/\i=I j/\v=I (c+j:Nat)/\Hid (Agree k (vZ c a) j)/\Hid (RowM wr g (Ns .u8 k))/\Hid (w.grownBy wr (some g))) (λ_ i _=>a-(intOf i).toNat);case atStart=>exact⟨0,zs,FH _,rfl,rfl,Agree.zero (by rw[u,qX]),t,al w g⟩
 case round=>
  obtain⟨j,k,A,rfl,rfl,d,b,l⟩:=hrel;by_cases m:j<a
  ·have n:k.length=a:=(by rw[d.1,qX]);have o:=b.cell j Z;have v:=b.free j (by rw[NM];omega);have p:=b.set j (by rw[NM];omega) (.int .u8 (((c+j:Nat):Int)%256));rw[wQ]at p;have s:=d.succ (by rw[qX];exact m) _ (y6 c a j m);have f:=H (IT p (IT s (au l j (.int .u8 (((c+j:Nat):Int)%256)))));have x:IntKind.u8.wrap ((c:Int)+(j:Int))=((c+j:Nat):Int)%256:=(by rw[IntKind.wrap_u8'];simp);clear n p s;generalize k[j]?.getD 0=y at o;go_wp2;go_roundw;(case rel=>exact⟨j+1,_,Z,aY,aY,f.2.1,by first|exact f.1|(have:=f.1;simpa using this),by first|exact f.2.2|(have:=f.2.2;simpa using this)⟩);case measure=>exact QE
  have n:j=a:=Z;subst n;have f:=H (IT (d.all (by rw[qX];exact Fv _)▸b.out) l);go_wp2;go_ret;exact⟨rfl,f⟩
theorem Nv(g)(a:Nat)(cap)(b:Nat)(w)(f:a<=1000000000)(n:b<=1000000000000)(c:RowM w g (Ns .u8 (vZ b a))):
  QA 9 #[Vl g a cap,I b] w λe k=>e=QJ (I (b+a:Nat))/\k=w:=by
 have l:=H c;go_enter func9,ntmps9;go_wp2;go_loop [1,5] (λv i=>∃(j:Nat),j<=a/\i=I j/\v=I (b+j:Nat)) (λ_ i=>a-(intOf i).toNat);case atStart=>exact⟨0,FH _,rfl,rfl⟩
 case round=>
  obtain⟨j,o,rfl,rfl⟩:=hrel;by_cases c:j<a
  ·have d:=l.cell j (by rw[qX];exact c);rw[y6 b a j c]at d;simp only[Ht]at d;have m:IntKind.u8.wrap ((b:Int)+(j:Int))=((b+j:Nat):Int)%256:=(by rw[IntKind.wrap_u8'];simp);go_wp2
   go_round
   (case rel=>exact⟨j+1,Z,aY,aY⟩);case measure=>exact QE
  have d:j=a:=Z;subst d;go_wp2;go_ret;exact QB
attribute [local go_sem] Oper.semAt_some
def bQ(m:Nat->Option (Bool×List Int))(first:Nat):Nat->(Nat->Option (Bool×List Int))
 |0=>m
 |k+1=>dT (bQ m first k) (first+k) none
theorem Pg.drop{m}(h:Pg f m W)(k):Pg (upd f k none) (dT m k none) W:=by
 constructor
 ·intro j;by_cases e:j=k;·subst e;exact .inl ⟨upd_same _ _ _,bV _ _ _⟩
  rw[aW m k j _ e,aI f k j _ e];exact h.at' j
 intro i j b a c;by_cases e:i=k;·subst e;rw[upd_same]at a;cases a
 by_cases d:j=k;·subst d;rw[upd_same]at c;cases c
 rw[aI f k i _ e]at a;rw[aI f k j _ d]at c;exact h.inj i j b a c
theorem Pg.without{f m W}(h:Pg f m W)(first):∀k,Pg (without f first k) (bQ m first k) W
 |0=>h
 |k+1=>(Pg.without h first k).drop (first+k)
theorem Pg.turned{m}{c:QM}(h:Pg f m W)(d:∀k b,f k=some b->b≠M)(e:W.mapTurned c M):Pg f m c:=by
 refine⟨?_,h.inj⟩;intro j;rcases h.at' j with a|⟨b,l,xs,a,g,i,k⟩;·exact .inl a
 exact .inr ⟨b,l,xs,a,g,i,by rw[dQ e (d j b a)];exact k⟩
theorem gT{f first}: ∀{k j b:Nat},without f first k j=some b->f j=some b
 |0,_,_,h=>h
 |k+1,j,b,h=>by
  simp only[without]at h
  by_cases e:j=first+k
  ·subst e;rw[upd_same]at h;cases h
  rw[aI _ _ _ _ e]at h
  exact gT h
theorem Fr.without{a:QM}(first k:Nat)(b:W.mapTurned a M):Fr S M f (without f first k) W a:=by
 have h:=(Fr.refl S M f W).turned b;exact⟨h.os,h.tape,h.output,h.size,h.block,λj g e=>.inl ⟨j,gT e⟩⟩
theorem oB(S M st n bud f m)(first a:Nat)(w)(h:Im S M st n bud f w)(j:Pg f m w)(k:0<=n)(d:n<=4096)(g:bI n first a=true)(b:bm f first a=a):
  QA 244 #[J S 0,I first,I a] w λe c=>e=QJ (I 0)/\∃i,Im S M st n bud i c/\Pg i (bQ m first a) c/\Fr S M f i w c:=by
 refine(oJ S M st n bud f first a w h k d g b).mono ?_;rintro e c⟨rfl,l,i⟩;exact⟨rfl,_,l,(j.without first a).turned (λk b e=>(j.apart h (gT e)).2) i,Fr.without first a i⟩
abbrev Bv:Go.Conc.Locks.MuLink:={lock:=166,unlock:=167,ilock:=222,iunlock:=223,lockSlow:=252,unlockSlow:=255,disable:=248,enable:=250,acquire:=251,relMerge:=253,cas32:=249,add32:=254,tMutex:=254,tIMutex:=252,tPMutex:=325,tPIMutex:=345,tPI32:=347,tUP:=158,tNoCopy:=249,tU32:=250}
theorem jw:Go.Conc.Locks.MuLib prog Bv:=
 ⟨func166,func167,func222,func223,func248,func250,func251,func253,func249,func254,underlying252,Tryz.runUnderlying252,Tryz.sizeOf252,Tryz.isAgg252,Tryz.zeroValue252,underlying254,Tryz.runUnderlying254,Tryz.sizeOf254,Tryz.isAgg254,Tryz.zeroValue254,underlying325,Tryz.runUnderlying325,Tryz.sizeOf325,Tryz.isAgg325,Tryz.zeroValue325,underlying345,Tryz.runUnderlying345,Tryz.sizeOf345,Tryz.isAgg345,Tryz.zeroValue345,underlying347,Tryz.runUnderlying347,Tryz.sizeOf347,Tryz.isAgg347,Tryz.zeroValue347,underlying158,Tryz.runUnderlying158,Tryz.sizeOf158,Tryz.isAgg158,Tryz.zeroValue158,underlying249,Tryz.runUnderlying249,Tryz.sizeOf249,Tryz.isAgg249,Tryz.zeroValue249,underlying21,Tryz.runUnderlying21,Tryz.sizeOf21,Tryz.isAgg21,Tryz.zeroValue21,E⟩
theorem fX{n bud}(h:Im S M 0 n bud f w):QA 166 #[J S 0] w λe a=>e=QJ (.tuple #[])/\a=w.setCell (Qz S 0) (.int .i32 1):=
 Go.MuLone.lock_free jw (Qz S 0) w (by simp[QC,h.box]) (by simp[QD,h.box])
theorem Im.st{st n bud}(h:Im S M st n bud f w)(st'):Im S M st' n bud f (w.setCell (Qz S 0) (.int .i32 st')):=by
 have⟨a,c,g⟩:=h.map;refine⟨bj h.box _,a,c.kept (au (al w S) 0 _) (λe=>?_),g⟩;have⟨i,b,d,_⟩:=c;simp at e;subst e;rw[h.box]at d;cases d
def AB(e:Nat)(p c:Int):Prop:=1<=c/\0<=p/\c<=e/\p<=(e:Int)-c
def Sl(w:World)(a:Option Addr)(zs:List Int):Prop:=(a=none/\zs=[])\/∃g,a=some ⟨g,0,none⟩/\RowV w g 3 (Ns .i64 zs)
theorem Sl.cells{a}(h:Sl w a zs):∀i,i<zs.length->∃g,a=some (Qz g 0)/\w.cell? (Qz g i)=some (I (zs[i]?.getD 0)):=by
 intro i b;rcases h with⟨_,rfl⟩|⟨g,rfl,c⟩;·simp at b
 exact⟨g,rfl,jZ c i b⟩
theorem Sl.below{w w' a zs}(h:Sl w a zs)(c:D w w'):Sl w' a zs:=by
 rcases h with h|⟨g,e,b⟩;·exact .inl h
 exact .inr ⟨g,e,b.below c b.lt⟩
def nb(l:Int)(zs:List Int):Bool:=zs.all λx=>decide (l<=x)
def md(d:Int)(m:Nat):Nat:=(d%(m:Int)).toNat
theorem oh(d)(m:Nat)(h:0<m):md d m<m:=by
 unfold md;have a:=IP d (b:=(m:Int)) Z;have c:=IB d (b:=(m:Int)) Z;omega
theorem oT(d)(m:Nat)(h:0<m):(md d m:Int)=if d.tmod m<0 then d.tmod m+m else d.tmod m:=by
 unfold md;have g:=IP d (b:=(m:Int)) Z;rw[IK g];have c:=Int.tmod_eq_emod (a:=d) (b:=(m:Int));have i:=IB d (b:=(m:Int)) Z;have e:((Int.natAbs (m:Int):Nat):Int)=m:=Z;by_cases f:0<=d\/(m:Int)∣d;·rw[GP f]at c;rw[GO Z];omega
 rw[GO f]at c;rw[c,e];rw[GP Z];omega
theorem kj(d:Int)(m:Nat)(h:0<m): -(m:Int)<=d.tmod m/\d.tmod m<m:=by
 have a:=oT d m h;have b:=oh d m h;split at a<;>rename_i c
 ·omega
 omega
theorem Fb(x:Int)(h: -1048576<=x/\x<=2097152):wrap64 x=x:=by
 unfold wrap64;omega
theorem sE(x m:Int)(a:0<=x)(h:x<m):x.tmod m=x:=by
 rw[GH a,Int.emod_eq_of_lt a h]
theorem uG(x m:Int)(a:0<=x)(h:x<m):(x+m).tmod m=x:=by
 rw[GH Z,Int.add_emod_right,Int.emod_eq_of_lt a h]
theorem iA(d)(m:Nat)(w:QM)(b:0<m)(l:m<=1048576):
  QA 237 #[I d,I m] w λe g=>e=QJ (I (md d m:Nat))/\g=w:=by
 have n:((m:Int)==0)=false:=bG;have i:=kj d m b;have j:=Fb (d.tmod m+m) Z;have c:=oT d m b;have k:=oh d m b;have a:Hid ((d.tmod m+m).tmod m=(md d m:Nat)):=by
  show(d.tmod m+m).tmod m=(md d m:Nat);by_cases f:d.tmod m<0;·rw[GP f]at c;rw[sE _ _ Z Z];omega
  rw[GO f]at c;rw[uG _ _ Z Z];omega
 clear c k i;go_enter func237,ntmps237;go_wp2;go_ret;refine⟨cX ?_,rfl⟩
 first|exact a.out|(rw[j];exact a)
theorem lU(d)(m:Nat)(w:QM)(c:0<m)(j:m<=1048576):
  QA 180 #[I d,I m] w λe g=>e=QJ (I (md d m:Nat))/\g=w:=by
 have k:((m:Int)==0)=false:=bG;have b:=oT d m c;have l:=kj d m c;by_cases f:d.tmod m<0
 ·rw[GP f]at b;have a:=H b;have i:=Fb (d.tmod m+m) Z;clear b;go_enter func180,ntmps180;go_wp2;go_ret;refine⟨cX ?_,rfl⟩
  first|exact a.symm|(rw[i];exact a.symm)
 rw[GO f]at b;have a:=H b;clear b;go_enter func180,ntmps180;go_wp2;go_ret;exact⟨cX a.symm,rfl⟩
theorem lu(G r n b o i k:Nat)(ps:List Int)(x:Int)(w:QM)(g:(o+i)%n=k)(l:ps.length=n)(c:0<n)(m:n<=1048576)(s:o<=1048576)(t:i<=1048576)
  (u:QG w G 0 (Vl r n b)) (v:QG w G 1 (I o)) (a:RowV w r 3 (Ns .i64 ps)):
  QA 341 #[J G 0,I i,I x] w λe j=>e=QJ (I (ps[k]?.getD 0))/\RowV j r 3 (Ns .i64 (ps.set k x))/\w.grownBy j (some r):=by
 have y:((n:Int)==0)=false:=bG;have d:(o+i)%n<n:=Nat.mod_lt _ c;have f:((o:Int)+(i:Int))%(n:Int)=(((o+i)%n:Nat):Int):=bH;rw[g]at d f;have z:=jZ a k Z;have A:=a.free k;have p:=H (a.set k (by rw[NM];omega) (I x)).drew;have q:=H (rW (au (al w r) k (I x)));clear a l g;go_enter func341,ntmps341;go_wp2;go_region;rw[f];clear f;go_wp2;go_ret;exact⟨rfl,by rw[<-wQ];exact p,q⟩
def cx(a b:Int):Int:=IntKind.u64.wrap (bits BinOp.xor IntKind.u64 a b*11400714819323198485)
theorem nT(a b):0<=cx a b/\cx a b<18446744073709551616:=by
 unfold cx;simp only[IntKind.wrap,IntKind.signed,IntKind.bits];constructor<;>simp<;>omega
def cb(x:Int)(k:Nat):Int:=if x/2 ^ (8*k)%256<1 then 1 else x/2 ^ (8*k)%256
def gI(x:Int):List Int:=(List.range 8).map λj=>if j=0 then 0 else cb x j
theorem dK(x):(gI x).length=8:=by simp[gI]
theorem qW(x)(k:Nat)(a:1<=k)(h:k<8):(gI x)[k]?=some (cb x k):=by
 simp[gI,h,show k≠0 by omega]
theorem vH(x):(gI x)[0]?=some 0:=by simp[gI]
theorem vh(x)(k:Nat)(a:1<=k)(h:k<8):(gI x).take (k+1)=(gI x).take k++[cb x k]:=by
 rw[F_,qW x k a h];rfl
theorem Dx(x k):1<=cb x k/\cb x k<256:=by
 unfold cb;generalize x/2 ^ (8*k)=y;split<;>omega
theorem rk(a b:Int)(w:QM)(O:0<=a)(P:a<18446744073709551616)(Q:0<=b)(R:b<18446744073709551616):
  QA 161 #[U a,U b] w λe A=>e=QJ (Vl w.heap.size 8 8)/\RowV A w.heap.size 5 (Ns .u8 (gI (cx a b)))/\D w A:=by
 have⟨K,L,m,n,o⟩:=G0 Tryz.info5By;have⟨q,r⟩:=nT a b;unfold cx at q r⊢;go_enter func161,ntmps161;go_wp2_with (at_make;refine wpList_make_full _ rfl _ _ 22 rfl w.heap.size 5 K (.int .u8 0) 1 underlying22 L m n .i64 .i64 _ _ 8 rfl rfl rfl rfl ?c1 ?c2 ?c3 ?_);case c1=>rw[o];omega
 case c2=>unfold maxLen;omega
 case c3=>exact Fv _
 intro B d c;have s:RowV B w.heap.size 5 (Ns .u8 (List.replicate 8 0)):=by
  have:=RowV.ofOwns d;simpa[Ns,Ii,Value.cells]using this
 have t:D w B:=(Fu _ w).grown c (Fv _) bH;go_wp2;generalize c:IntKind.u64.wrap (bits BinOp.xor IntKind.u64 a b*11400714819323198485)=x at*;have M:=H c;go_loopw [7] (λi wr=>∃(k:Nat)(l:List Int),1<=k/\k<=8/\i=I k/\Agree l (gI x) k/\RowV wr w.heap.size 5 (Ns .u8 l)/\D w wr) (λi _=>8-(intOf i).toNat);case atStart=>exact⟨1,_,Z,Z,rfl,⟨by simp[dK],λj c=>by rw[show j=0 by omega,vH];rfl⟩,s,t⟩
 case round=>
  obtain⟨k,l,u,S,rfl,f,c,d⟩:=hrel;have g:l.length=8:=by rw[f.1,dK]
  by_cases v:k<8
  ·have z:=jZ c k Z;have N:=c.free k;have y:=c.set k (by rw[NM,g];omega) (.int .u8 (cb x k));rw[wQ]at y;have F:=f.succ (by rw[dK];omega) _ (qW x k u v);have G:=d.setCell (p:=(Qz w.heap.size k)) (Fv _) (.int .u8 (cb x k));have j:=H (IT y (IT F G));generalize l[k]?.getD 0=y at z;unfold cb at j;go_wp2;go_roundw;(case rel=>exact⟨k+1,_,Z,Z,aY,j.2.1,j.1,j.2.2⟩);case measure=>exact QE
  have j:=H (IT (f.all (by rw[dK];omega)▸c) d);go_wp2;go_ret;rw[M];exact⟨rfl,j⟩
theorem qU(W:QM)(x:QN)(t:QO)(b:Nat)(a:W.heap.size=b):∀j u,[x][j]?=some u->(W.alloc (.cells #[x] t)).cell? (((Qz b 0):Addr).add j)=some u:=by
 subst a;intro j u h;cases j with
 |zero=>
  simp at h;subst h;rw[show((Qz W.heap.size 0):Addr).add 0=(Qz W.heap.size 0)from rfl,World.cell?_alloc_at _ _ _ _ rfl];rfl
 |succ j=>simp at h
theorem nH{A:QM}{a:Nat}{e:QO}{v:QN}{n:Nat}(h:A.ownsRow a e 1 v n xs):∀r,v.ownBlock=some r->a<=r:=by
 intro r e;rcases h.2 with⟨rfl,_⟩|⟨g,b,c,rfl,d,f,_⟩;·cases e
 cases e;exact d
theorem wz(w:QM)(t:QO)(x:QN):(w.alloc (.cells #[x] t)).ownsRow w.heap.size t 1 (Vl w.heap.size 1 1) 1 [x]:=by
 refine⟨rfl,.inr ⟨w.heap.size,1,#[x],rfl,Fv _,?_,?_⟩⟩;·show(w.heap.push (.cells #[x] t))[w.heap.size]?=_;simp
 refine⟨Fv _,by unfold maxLen;omega,rfl,rfl⟩
theorem rO(a b:Int)(w:QM)(Q:0<=a)(R:a<18446744073709551616)(S:0<=b)(T:b<18446744073709551616):
  QA 123 #[U a,U b] w λe B=>∃v,e=QJ v/\B.ownsRow w.heap.size 5 1 v 8 (Ns .u8 (gI (cx a b)))/\D w B:=by
 have⟨F,G,n,o,p⟩:=G0 Tryz.info5By;have⟨t,y⟩:=nT a b;unfold cx at t y⊢;have⟨q,K⟩:=y7 (wz w 5 (.int .u8 0)) ((Fu w.heap.size w).alloc (Fv _) (.cells #[.int .u8 0] 5));go_enter func123,ntmps123;go_wp2;generalize c:IntKind.u64.wrap (bits BinOp.xor IntKind.u64 a b*11400714819323198485)=x at*;have L:=H c;go_loopw [6,7,8] (λv i _ wr=>∃k:Nat,1<=k/\k<=8/\i=I k/\Hid (wr.ownsRow w.heap.size 5 1 v k (Ns .u8 ((gI x).take k)))/\Hid (D w wr)) (λ_ i _ _=>8-(intOf i).toNat);case atStart=>exact⟨1,Z,Z,rfl,q,K⟩
 case round=>
  obtain⟨k,z,V,rfl,f,c⟩:=hrel;by_cases A:k<8
  ·have⟨q,m⟩:=y7 (vh x k z A) (show cb x k=if x/2 ^ (8*k)%256<1 then 1 else x/2 ^ (8*k)%256 from rfl);by_cases W:x/2 ^ (8*k)%256=0
   ·have⟨m,g,d⟩:=Qe (show cb x k=1 by rw[m,GP Z]) (f.alloc (.cells #[.int .u8 1] 5)) (c.alloc c.size (.cells #[.int .u8 1] 5));go_wp2_with (at_builtin;refine Ib _ rfl _ _ 22 rfl w.heap.size 5 F (.int .u8 0) 1 1 underlying22 G n o p rfl Z _ _ _ rfl g _ 1 1 [.int .u8 1] rfl rfl ?hc ?h1c ?b1 ?b2 ?b3 ?_);(case hc=>exact qU _ _ _ _ bH);(case h1c=>intro u r;simp at r;subst r;rfl);(case b1=>unfold maxLen;omega);(case b2=>omega);(case b3=>exact d.size);intro M N j l _;have s:=H (IT j (d.grown l d.size (nH g)));go_wp2;go_roundw;(case rel=>exact⟨k+1,Z,Z,aY,H (by rw[q,m];simpa[Ns]using s.1),H s.2⟩);case measure=>exact QE
   have O:0<=x/2 ^ (8*k)%256:=Z;have P:x/2 ^ (8*k)%256<256:=Z;have⟨m,g,d⟩:=Qe (show cb x k=x/2 ^ (8*k)%256 by rw[m,GO Z]) (f.alloc (.cells #[.int .u8 (x/2 ^ (8*k)%256)] 5)) (c.alloc c.size (.cells #[.int .u8 (x/2 ^ (8*k)%256)] 5));go_wp2_with (at_builtin;refine Ib _ rfl _ _ 22 rfl w.heap.size 5 F (.int .u8 0) 1 1 underlying22 G n o p rfl Z _ _ _ rfl g _ 1 1 [.int .u8 (x/2 ^ (8*k)%256)] rfl rfl ?hc ?h1c ?b1 ?b2 ?b3 ?_);(case hc=>exact qU _ _ _ _ bH);(case h1c=>intro u r;simp at r;subst r;rfl);(case b1=>unfold maxLen;omega);(case b2=>omega);(case b3=>exact d.size);intro M N j l _;have s:=H (IT j (d.grown l d.size (nH g)));go_wp2;go_roundw;(case rel=>exact⟨k+1,Z,Z,aY,H (by rw[q,m];simpa[Ns]using s.1),H s.2⟩);case measure=>exact QE
  have d:k=8:=Z;subst d;have g:=H (show wr.ownsRow w.heap.size 5 1 u6 8 (Ns .u8 (gI x)) by
   have:=f.out;rwa [Ge (by rw[dK];exact Fv _)]at this)
  go_wp2;go_ret;rw[L];exact⟨_,rfl,g,c⟩
theorem mD(c:Int)(w:QM)(h:0<=c/\c<12):
  QA 117 #[I c] w λe a=>e=QJ (I (sz c))/\D w a:=by
 rcases fh h with rfl|rfl|rfl|rfl|rfl|rfl|rfl|rfl|rfl|rfl|rfl|rfl
 all_goals
  clear h
  go_enter func117,ntmps117
  go_wp2
  go_ret
  exact⟨rfl,by repeat(first|exact Fu _ _|apply Below.drew|(refine Below.alloc ?_ (Fv _) _))⟩
theorem kS(c:Int)(w:QM)(b:c<0):
  QA 117 #[I c] w λe a=>e=QJ (I 0)/\D w a:=by
 go_enter func117,ntmps117;go_wp2;go_ret;exact⟨rfl,by repeat(first|exact Fu _ _|apply Below.drew|(refine Below.alloc ?_ (Fv _) _))⟩
theorem kM(c:Int)(w:QM)(b:0<=c)(d:12<=c):
  QA 117 #[I c] w λe a=>e=QJ (I 0)/\D w a:=by
 go_enter func117,ntmps117;go_wp2;go_ret;exact⟨rfl,by repeat(first|exact Fu _ _|apply Below.drew|(refine Below.alloc ?_ (Fv _) _))⟩
theorem dx(c)(w:QM):
  QA 117 #[I c] w λe a=>e=QJ (I (sz c))/\D w a:=by
 by_cases h:0<=c/\c<12;·exact mD c w h
 rw[gP h];by_cases b:c<0;·exact kS c w b
 exact kM c w Z Z
def eN(mix fifo:List Int)(e:Int):Bool:=decide (mix.length<=16)&&(decide (1<=e)&&(decide (e<=32)&&(decide ((fifo.length:Int)<=e)&&(nb (-1) mix&&nb 0 fifo))))
def wv(i:Option Addr)(v u:Nat)(t:Option Addr)(j cf:Nat)(e:Int):Value:=.agg #[.slice i v u,.slice t j cf,I e]
structure Wt(w:QM)(am:QP)(lm:Nat)(af:QP)(lf:Nat)(mix fifo:List Int):Prop where
 m:Sl w am mix
 ml:mix.length=lm
 f:Sl w af fifo
 fl:fifo.length=lf
theorem Wt.below{w w' am lm af lf mix fifo}(h:Wt w am lm af lf mix fifo)(a:D w w'):Wt w' am lm af lf mix fifo:=
 ⟨h.m.below a,h.ml,h.f.below a,h.fl⟩
theorem tL{l}{k:Nat}(h:nb l (zs.take k)=true)(b:k<zs.length)(a:l<=zs[k]?.getD 0):nb l (zs.take (k+1))=true:=by
 unfold nb at*;rw[F_,List.all_append,h];simp[b]at a⊢;exact a
theorem yA{l:Int}{k:Nat}(b:k<zs.length)(a:¬l<=zs[k]?.getD 0):nb l zs=false:=by
 unfold nb;rw[List.all_eq_false];simp[b]at a;exact⟨zs[k],bH,by simpa using a⟩
theorem u_(am lm cm af lf cf lim mix fifo w)(h:Wt w am lm af lf mix fifo):
  QA 181 #[wv am lm cm af lf cf lim] w λe y=>e=QJ (.bool (eN mix fifo lim))/\D w y:=by
 unfold wv;have j:=H ((Fu _ w).alloc (Fv _) (.cells #[.slice am lm cm,.slice af lf cf,I lim] 113));by_cases r:lm<=16;case neg=>
  have d:=H (show eN mix fifo lim=false by unfold eN;rw[h.ml,GR r];rfl);have z:(16<(lm:Int)):=Z;go_enter func181,ntmps181;go_wp2;go_ret;exact⟨cQ d.symm,j⟩
 have z:¬(16<(lm:Int)):=Z;by_cases s:1<=lim;case neg=>
  have d:=H (show eN mix fifo lim=false by unfold eN;rw[GR s];simp);have A:lim<1:=Z;go_enter func181,ntmps181;go_wp2;go_ret;exact⟨cQ d.symm,j⟩
 have A:¬(lim<1):=Z;by_cases t:lim<=32;case neg=>
  have d:=H (show eN mix fifo lim=false by unfold eN;rw[GR t];simp);have B:32<lim:=Z;go_enter func181,ntmps181;go_wp2;go_ret;exact⟨cQ d.symm,j⟩
 have B:¬(32<lim):=Z;by_cases u:(lf:Int)<=lim;case neg=>
  have d:=H (show eN mix fifo lim=false by unfold eN;rw[h.fl,GR u];simp);have F:lim<(lf:Int):=Z;go_enter func181,ntmps181;go_wp2;go_ret;exact⟨cQ d.symm,j⟩
 have F:¬(lim<(lf:Int)):=Z;have d:=H (show eN mix fifo lim=(nb (-1) mix&&nb 0 fifo) by
  unfold eN;rw[h.ml,h.fl,G8 r,G8 s,G8 t,G8 u];simp)
 have v:=H (h.m.below j).cells;have G:=H (h.f.below j).cells;have⟨o,p⟩:=y7 h.ml h.fl;go_enter func181,ntmps181;go_wp2;go_loopw [32] (λi wr=>∃k:Nat,k<=lm/\i=I k/\wr=w.alloc (.cells #[.slice am lm cm,.slice af lf cf,I lim] 113)/\Hid (nb (-1) (mix.take k)=true)) (λi _=>lm-(intOf i).toNat);case atStart=>exact⟨0,FH _,rfl,rfl,by show nb _ _=_;rfl⟩
 case round=>
  obtain⟨k,K,rfl,rfl,b⟩:=hrel;by_cases c:k<lm
  ·obtain⟨g,rfl,L⟩:=v.out k (by rw[o];exact c);have a:k<mix.length:=(by rw[o];exact c);by_cases l: -1<=mix[k]?.getD 0
   ·have m:=H (tL b a l);have n:¬(mix[k]?.getD 0 < -1):=Z;generalize mix[k]?.getD 0=x at*;go_wp2;go_roundw;(case rel=>exact⟨k+1,Z,aY,trivial,m⟩);case measure=>exact QE
   have m:=H (yA a l);have n:mix[k]?.getD 0 < -1:=Z;generalize mix[k]?.getD 0=x at*;go_wp2;go_ret;exact⟨cQ (by rw[d,m];rfl),j⟩
  have M:=H (show nb (-1) mix=true by
   have:=b.out;rwa [show k=lm by omega,<-o.out,G9]at this)
  have q:¬((k:Int)<(lm:Int)):=Z;go_wp2;go_loopw [42] (λi wr=>∃k:Nat,k<=lf/\i=I k/\wr=w.alloc (.cells #[.slice am lm cm,.slice af lf cf,I lim] 113)/\Hid (nb 0 (fifo.take k)=true)) (λi _=>lf-(intOf i).toNat);case atStart=>exact⟨0,FH _,rfl,rfl,by show nb _ _=_;rfl⟩
  case round=>
   obtain⟨f,K,rfl,rfl,b⟩:=hrel;by_cases c:f<lf
   ·obtain⟨g,rfl,L⟩:=G.out f (by rw[p];exact c);have a:f<fifo.length:=(by rw[p];exact c);by_cases l:0<=fifo[f]?.getD 0
    ·have m:=H (tL b a l);have n:¬(fifo[f]?.getD 0<0):=Z;generalize fifo[f]?.getD 0=x at*;go_wp2;go_roundw;(case rel=>exact⟨f+1,Z,aY,trivial,m⟩);case measure=>exact QE
    have m:=H (yA a l);have n:fifo[f]?.getD 0<0:=Z;generalize fifo[f]?.getD 0=x at*;go_wp2;go_ret;exact⟨cQ (by rw[d,m];simp),j⟩
   have N:=H (show nb 0 fifo=true by
    have:=b.out;rwa [show f=lf by omega,<-p.out,G9]at this)
   go_wp2;go_ret;exact⟨cQ (by rw[d,M,N];rfl),j⟩
end
section
variable {DB M R S a b d n:Nat}{bud nn st:Int}{f:Nat->Option Nat}{W w:World}{m:Nat->Option (Bool×List Int)}{v:Value}
theorem eu(x:Int):IntKind.u64.wrap x=x%18446744073709551616:=by
 simp[IntKind.wrap,IntKind.signed,IntKind.bits]
theorem Ah(a n:Int):IntKind.u64.wrap (IntKind.u64.wrap (a+n)-1)=IntKind.u64.wrap (a+(n-1)):=by
 rw[eu,eu,eu];omega
theorem qe(a n:Int)(ha:0<=a)(b:a<=18446744073709551615)(c:1<=n)(d:n<=4194304)(h:4611686018427387904<=a+(n-1)):
 IntKind.u64.wrap (a+(n-1))<a\/(a<=IntKind.u64.wrap (a+(n-1))/\4611686018427387904<=IntKind.u64.wrap (a+(n-1))):=by
 rw[eu];omega
def rR:Ending:=.returned (.tuple #[I 0,I 0,.bool false])
theorem rF(a n:Int)(w:QM)(h:n<1\/4194304<n):
  QA 182 #[U a,I n] w λe b=>e=rR/\b=w:=by
 rcases h with h|h
 ·go_enter func182,ntmps182;go_wp2
  go_ret3
  exact QB
 have c:¬n<1:=Z;go_enter func182,ntmps182;go_wp2
 go_ret3
 exact QB
theorem qf(a n:Int)(w:QM)(h:n<1\/4194304<n):
  QA 306 #[U a,I n] w λe b=>e=rR/\b=w:=by
 rcases h with h|h
 ·go_enter func306,ntmps306;go_wp2
  go_ret3
  exact QB
 have c:¬n<1:=Z;go_enter func306,ntmps306;go_wp2
 go_ret3
 exact QB
theorem qD(a n L:Int)(w:QM)(c:1<=n)(d:n<=4194304)(f:IntKind.u64.wrap (IntKind.u64.wrap (a+n)-1)=L)(h:L<a\/(a<=L/\4611686018427387904<=L)):
  QA 182 #[U a,I n] w λe b=>e=rR/\b=w:=by
 rcases h with h|⟨g,h⟩
 all_goals
  go_enter func182,ntmps182
  go_wp2
  go_ret3
  exact QB
theorem Oc(a n L:Int)(w:QM)(c:1<=n)(d:n<=4194304)(f:IntKind.u64.wrap (a+(n-1))=L)(h:L<a\/(a<=L/\4611686018427387904<=L)):
  QA 306 #[U a,I n] w λe b=>e=rR/\b=w:=by
 rcases h with h|⟨g,h⟩
 all_goals
  go_enter func306,ntmps306
  go_wp2
  go_ret3
  exact QB
theorem qA(a n:Int)(w:QM)(ha:0<=a)(c:1<=n)(d:n<=4194304)(f:a+(n-1)<4611686018427387904):
  QA 182 #[U a,I n] w λe b=>e=QJ (.tuple #[I (a/1024),I ((a+n-1)/1024),.bool true])/\b=w:=by
 go_enter func182,ntmps182;go_wp2
 go_ret3
 exact QB
theorem rE(a n:Int)(w:QM)(ha:0<=a)(c:1<=n)(d:n<=4194304)(f:a+(n-1)<4611686018427387904):
  QA 306 #[U a,I n] w λe b=>e=QJ (.tuple #[I (a/1024),I ((a+(n-1))/1024),.bool true])/\b=w:=by
 go_enter func306,ntmps306;go_wp2
 go_ret3
 exact QB
theorem tB(a n:Int)(w:QM)(ha:0<=a)(b:a<=18446744073709551615)(h:n<1\/4194304<n\/4611686018427387904<=a+(n-1)):
  QA 182 #[U a,I n] w λe c=>e=rR/\c=w:=by
 by_cases d:n<1\/4194304<n;·exact rF a n w d
 exact qD a n _ w Z Z (Ah a n) (qe a n ha b Z Z Z)
theorem tA(a n:Int)(w:QM)(ha:0<=a)(b:a<=18446744073709551615)(h:n<1\/4194304<n\/4611686018427387904<=a+(n-1)):
  QA 306 #[U a,I n] w λe c=>e=rR/\c=w:=by
 by_cases d:n<1\/4194304<n;·exact qf a n w d
 exact Oc a n _ w Z Z rfl (qe a n ha b Z Z Z)
def isOpen:Option (Bool×List Int)->Bool
 |some (l,_)=>!l
 |none=>false
def Oy(m:Nat->Option (Bool×List Int))(first:Nat):Nat->Bool
 |0=>true
 |k+1=>Oy m first k&&isOpen (m (first+k))
def jk(b:Bool):Int:=if b then 0 else 2
theorem hC{m:Nat->Option (Bool×List Int)}{first k:Nat}(h:isOpen (m (first+k))=false):∀N,k<N->Oy m first N=false
 |0,hk=>by omega
 |N+1,hk=>by
  simp only[Oy]
  by_cases e:k=N
  ·subst e;simp[h]
  rw[hC h N Z];rfl
theorem nB{m first}: ∀{N:Nat},Oy m first N=true->∀k,k<N->isOpen (m (first+k))=true
 |0,_,k,a=>by omega
 |N+1,h,k,a=>by
  simp only[Oy,Gi]at h
  by_cases e:k=N
  ·subst e;exact h.2
  exact nB h.1 k Z
theorem pC(S a)(n:Int)(w:QM)(h:n<0\/4096<n):
  QA 285 #[J S 0,U a,I n] w λe b=>e=QJ (I 6)/\b=w:=by
 rcases h with h|h;·go_enter func285,ntmps285;go_wp2;go_ret;exact QB
 have c:¬n<0:=Z;go_enter func285,ntmps285;go_wp2;go_ret;exact QB
theorem rQ(S a)(w:QM):
  QA 285 #[J S 0,U a,I 0] w λe b=>e=QJ (I 0)/\b=w:=by
 go_enter func285,ntmps285;go_wp2;go_ret;exact QB
theorem sV(S)(a n:Int)(w:QM)(ha:0<=a)(b:a<=18446744073709551615)(f:1<=n)(g:n<=4096)(h:4611686018427387904<=a+(n-1)):
  QA 285 #[J S 0,U a,I n] w λe c=>e=QJ (I 2)/\c=w:=by
 have d:=H (tA a n w ha b (.inr (.inr h)));go_enter func285,ntmps285;go_wp2_with fail;refine d.mono ?_;rintro _ _⟨rfl,rfl⟩;unfold rR;go_wp2_with fail;go_ret;exact QB
theorem qK(S M st nn bud f m)(a n p q:Nat)(w)(c:Im S M st nn bud f w)(j:Pg f m w)(x:1<=n)(y:n<=4096)(h:a+(n-1)<4611686018427387904)(d:p=a/1024)(g:q=(a+(n-1))/1024):
  QA 285 #[J S 0,U a,I n] w λe u=>e=QJ (I (jk (Oy m p (q+1-p))))/\u=w:=by
 have i:=H (rE a n w Z Z Z Z);have e1:(a:Int)/1024=(p:Int):=Z;have l:((a:Int)+((n:Int)-1))/1024=(q:Int):=Z;rw[e1,l]at i;have v:p<=q:=Z;have z:q<4503599627370496:=Z;have t:=H (IT c j);have⟨_,_,_,A⟩:=c.c;clear e1 l d g c j h;go_enter func285,ntmps285;go_wp2_with fail;refine i.mono ?_;rintro _ B⟨rfl,rfl⟩;go_wp2_with fail;go_loop [10,11] (λi _=>∃j:Nat,j<=q+1-p/\i=I ((p:Int)+(j:Int))/\Oy m p j=true) (λi _=>q+1-(intOf i).toNat);case atStart=>exact⟨0,FH _,aY,rfl⟩
 case round=>
  obtain⟨j,F,rfl,d⟩:=hrel;by_cases s:j<q+1-p
  ·have c:=t.1.look (p+j) Z;have g:((p+j:Nat):Int)=(p:Int)+(j:Int):=Z;rw[g]at c;clear g;rcases t.2.at' (p+j)with⟨o,g⟩|⟨b,l,G,o,g,_⟩;·rw[o]at c;simp only[Option.map_none]at c;have r:=H (hC (m:=m) (first:=p) (k:=j) (by rw[g];rfl) (q+1-p) s);clear o g d;go_wp2;go_ret;exact⟨cX (by rw[r];rfl),rfl⟩
   rw[o]at c;simp only[Hi]at c;have⟨K,_⟩:=t.2.lockCell o g;cases l with
   |true=>
    have r:=H (hC (m:=m) (first:=p) (k:=j) (by rw[g];rfl) (q+1-p) s);clear o g d;go_wp2;go_ret;exact⟨cX (by rw[r];rfl),rfl⟩
   |false=>
    have r:=H (show Oy m p (j+1)=true by simp only[Oy];rw[d,g];rfl);clear o g d;go_wp2
    go_round
    (case rel=>exact⟨j+1,Z,aY,r⟩);case measure=>exact QE
  have c:j=q+1-p:=Z;have r:=H (c▸d);clear d c;go_wp2;go_ret;exact⟨cX (by rw[r];rfl),rfl⟩
attribute [local go_sem] Oper.semAt_some
theorem oj(S a n)(w:QM):
  QA 286 #[J S 0,U a,I n] w λe b=>e=QJ (.func (.func 307) #[] #[J (w.heap.size+1+1) 0,J (w.heap.size+1) 0,J w.heap.size 0]) /\
   b=((w.alloc (.cells #[J S 0] 141)).alloc (.cells #[U a] 27)).alloc (.cells #[I n] 3):=by
 go_enter func286,ntmps286;go_wp2;go_ret;exact QB
def ct(a n d:Nat):Nat:=min ((a+d)%1024+n-d) 1024-(a+d)%1024
def vt(f:Nat->Option Nat)(a n d:Nat):Array Value:=#[.slice (some ⟨(f ((a+d)/1024)).getD 0,(a+d)%1024,none⟩) (ct a n d) (1024-(a+d)%1024)]
inductive Got(a n:Nat):List {d:Nat // d<n}->Nat->Prop
 |zero:Got a n [] 0
 |next {ys:List {d:Nat // d<n}} {d:Nat} (h:Got a n ys d) (hd:d<n):Got a n (ys++[⟨d,hd⟩]) (d+ct a n d)
theorem me(h:d<n):1<=ct a n d:=by unfold ct;omega
theorem pF(h:d<n):d+ct a n d<=n:=by unfold ct;omega
theorem Got.le{b:List {d:Nat // d<n}}(h:Got a n b d):d<=n/\b.length<=d:=by
 induction h with
 |zero=>exact⟨FH _,Fv _⟩
 |next h c f=>
  have g:=me (a:=a) c;have e:=pF (a:=a) c;exact⟨e,bG⟩
def Kp(S M b:Nat)(A B:World):Prop:=A.heap.size<=B.heap.size/\∀g,g=S\/g=M\/g=b\/g=b+1\/g=b+1+1->B.heap[g]?=A.heap[g]?
theorem Kp.refl(S M b A):Kp S M b A A:=⟨Fv _,λ_ _=>rfl⟩
theorem Kp.trans{S M b A B C}(h:Kp S M b A B)(k:Kp S M b B C):Kp S M b A C:=⟨Fx h.1 k.1,λg a=>(k.2 g a).trans (h.2 g a)⟩
theorem Im.kp{n A B}(h:Im S M st n bud f A)(k:Kp S M b A B):Im S M st n bud f B:=by
 obtain⟨a,⟨d,c,e,g⟩,r⟩:=h.map;exact⟨(k.2 S bH).trans h.box,a,⟨d,c,(k.2 M bH).trans e,g⟩,r⟩
structure Cl(S b:Nat)(a n:Int)(W:QM):Prop where
 s:W.heap[b]?=some (.cells #[J S 0] 141)
 a:W.heap[b+1]?=some (.cells #[U a] 27)
 n:W.heap[b+1+1]?=some (.cells #[I n] 3)
theorem Cl.kp{a n A B}(h:Cl S b a n A)(k:Kp S M b A B):Cl S b a n B:=
 ⟨(k.2 b bH).trans h.s,(k.2 (b+1) bH).trans h.a,(k.2 (b+1+1) bH).trans h.n⟩
theorem Cl.c{a n}(h:Cl S b a n W):W.cell? (Qz b 0)=some (J S 0)/\W.cell? ⟨b+1,0,none⟩=some (U a)/\W.cell? ⟨b+1+1,0,none⟩=some (I n):=by
 have c:=h.s;have d:=h.a;have e:=h.n;refine⟨by simp[QC,c],by simp[QC,d],by simp[QC,e]⟩
theorem Ak(g)(l h:Int)(w:QM)(a:0<=l)(f:l<1024)(b:l<=h)(c:h<=1024):
  (Instr.sliceAt 286 (J g 0) (some (I l)) (some (I h)) none).run prog w=.ok (.slice (some (Qz g l.toNat)) (h.toNat-l.toNat) (1024-l.toNat)) w:=by
 have e1:prog.arrayLen 286=1024:=E;have d:h<=(prog.arrayLen 286:Int):=by rw[e1];exact c
 have e:(sizeOf (prog.elem 286)).run prog w=.ok 1 w:=E;rw[run_sliceAt_array_lh w 286 _ E _ _ l h a b d,e];show Result.ok (slicedAt (Qz g 0) l.toNat h.toNat (prog.arrayLen 286) 1) w=_;rw[e1];unfold slicedAt;rw[GO Z];simp[Addr.add];omega
theorem qo(g a n d:Nat)(b:Int)(w:QM)(e:d<n)(f:b=min (((a:Int)+(d:Int))%1024+(n:Int)-(d:Int)) 1024):
  (Instr.sliceAt 286 (J g 0) (some (I (((a:Int)+(d:Int))%1024))) (some (I b)) none).run prog w=.ok (.slice (some ⟨g,(a+d)%1024,none⟩) (ct a n d) (1024-(a+d)%1024)) w:=by
 have e1:(((a:Int)+(d:Int))%1024).toNat=(a+d)%1024:=Z;have c:b.toNat-(a+d)%1024=ct a n d:=by unfold ct;omega
 rw[Ak g _ b w Z Z Z Z,e1,c]
theorem nW(S M st nn bud)(f:Nat->Option Nat)(a n:Nat)(l:Nat)(b)(m:Nat)(hm:2<=m)(hn:n<=4096)(ha:n=0\/a+n<=4611686018427387904)(j:∀d,d<n->∃g,f ((a+d)/1024)=some g)(c N:List {d:Nat // d<n}->QM->Prop)(W:QM)(q:AbidesFrom W.heap.size c)(O:∀i(x: {d:Nat // d<n})k,c i k->i.length<n->YieldAt Fence.wide (m-1) prog l (vt f a n x.1) k λe z=>
   (e=QJ Ql/\c (i++[x]) z/\Kp S M b k z)\/(e=QJ Qk/\N (i++[x]) z))(k:Cl S b a n W)(o:Im S M st nn bud f W)(p:c [] W):
  CallsIn Fence.wide m prog 307 #[.func (.yield l) #[] #[],J (b+1+1) 0,J (b+1) 0,J b 0] W λe z=>(∃v,e=QJ v) /\
   ((∃t,Got a n t n/\c t z)\/(∃i,(∃d,Got a n i d)/\N i z)):=by
 have⟨T,K,V⟩:=Qe O (IT k (IT o p)) j;refine callsIn_of_wp func307 rfl trivial ?_ rfl;simp only[ntmps307,FX,FN,F1,Nat.reduceAdd,Nat.reduceSub,FP,FO,FY,Iv,FV,F5];gi_wp2
 gi_loopw [5] (λi wr=>∃(d:Nat)(t:List {d:Nat // d<n}),d<=n/\i=I d/\Hid (Got a n t d)/\Hid (c t wr)/\Hid (Kp S M b W wr))
  (λi _=>n-(intOf i).toNat)
 case atStart=>exact⟨0,[],FH _,rfl,Got.zero,K.2.2,Kp.refl _ _ _ _⟩
 case round=>
  obtain⟨d,t,hd,rfl,p,A,u⟩:=hrel;have⟨c0,c1,c2⟩:=(K.1.kp u).c;have o:=K.2.1.kp u;have⟨_,_,_,c4⟩:=o.c;by_cases j:d<n
  ·have⟨g,r⟩:=V.out d j;have q:=o.look ((a+d)/1024) Z;rw[r]at q;simp only[Hi]at q;have k:(((a+d)/1024:Nat):Int)=((a:Int)+(d:Int))/1024:=Z;rw[k]at q;have k:t.length<n:=Nat.lt_of_le_of_lt p.le.2 j;have⟨fn,P,G,Q,y,s⟩:=T.out t ⟨d,j⟩ wr A k;unfold vt at y;rw[r]at y;simp only[Ht]at y;have⟨R,x⟩:=y7 s (IT (p.next j) (IT (me (a:=a) j) (pF (a:=a) j)));by_cases B:((a:Int)+(d:Int))%1024+(n:Int)-(d:Int)<=1024
   ·have L:=qo g a n d _ wr j (by rw[Int.min_eq_left B]);have F:=H (show(d:Int)+(((a:Int)+(d:Int))%1024+(n:Int)-(d:Int)-((a:Int)+(d:Int))%1024)=((d+ct a n d:Nat):Int) by unfold ct;omega);generalize ct a n d=pl at*;gi_wp2;refine⟨λ_=>Z,?_⟩;refine R.mono ?_;rintro e X(⟨rfl,r,s⟩|⟨rfl,k⟩)
    ·have w:=H (IT r (u.trans s));gi_wp2;go_roundw;(case rel=>exact⟨d+pl,t++[⟨d,j⟩],x.2.2,qb F,H x.1,H w.1,H w.2⟩);case measure=>
      have Y:=x.2.1;have h2:=F.out;simp only[intOf];omega
    have w:=H k;gi_wp2;refine GX (Ir rfl _ _ _) rfl ?_;exact⟨⟨_,rfl⟩,.inr ⟨_,⟨_,x.1⟩,w⟩⟩
   have L:=qo g a n d 1024 wr j (by rw[Int.min_eq_right Z]);have F:=H (show(d:Int)+(1024-((a:Int)+(d:Int))%1024)=((d+ct a n d:Nat):Int) by unfold ct;omega);generalize ct a n d=pl at*;gi_wp2;refine⟨λ_=>Z,?_⟩;refine R.mono ?_;rintro e X(⟨rfl,r,s⟩|⟨rfl,k⟩)
   ·have w:=H (IT r (u.trans s));gi_wp2;go_roundw;(case rel=>exact⟨d+pl,t++[⟨d,j⟩],x.2.2,qb F,H x.1,H w.1,H w.2⟩);case measure=>
     have Y:=x.2.1;have h2:=F.out;simp only[intOf];omega
   have w:=H k;gi_wp2;refine GX (Ir rfl _ _ _) rfl ?_;exact⟨⟨_,rfl⟩,.inr ⟨_,⟨_,x.1⟩,w⟩⟩
  have k:d=n:=Z;subst k;gi_wp2;go_end0;exact⟨⟨_,rfl⟩,.inl ⟨_,p,A⟩⟩
def bO(m:Nat->Option (Bool×List Int))(p:Nat):Int:=((((m (p/1024)).map λq=>q.2).getD [])[p%1024]?).getD 0
def NT(m:Nat->Option (Bool×List Int))(a n d:Nat):List Int:=(List.range (ct a n d)).map λi=>bO m (a+(d+i))
def dh(m:Nat->Option (Bool×List Int))(a n:Nat)(ys:List {d:Nat // d<n}):List Int:=ys.flatMap λx=>NT m a n x.1
theorem gV(m a)(n:Nat)(b:List {d:Nat // d<n})(x: {d:Nat // d<n}):dh m a n (b++[x])=dh m a n b++NT m a n x.1:=by
 simp[dh,Gu]
theorem iW(m a n d):(NT m a n d).length=ct a n d:=by simp[NT]
theorem qy(a n d):ct a n d<=1024:=by unfold ct;omega
theorem ko(m a)(n:Nat):∀b:List {d:Nat // d<n},(dh m a n b).length<=1024*b.length
 |[]=>by simp[dh]
 |x::b=>by
  have e:=ko m a n b
  have f:=qy a n x.1
  have c:dh m a n (x::b)=NT m a n x.1++dh m a n b:=by simp[dh]
  rw[c,FC,iW,FN]
  omega
theorem Got.bytes{b:List {d:Nat // d<n}}(h:Got a n b d):dh m a n b=(List.range d).map λi=>bO m (a+i):=by
 induction h with
 |zero=>rfl
 |next h e c=>
  rw[gV,c,List.range_add,Hr];simp[NT]
structure Ld(S M:Nat)(st nn bud:Int)(f:Nat->Option Nat)(m:Nat->Option (Bool×List Int))(w:QM)(R DB:Nat)(v:QN)(W:QM):Prop where
 im:Im S M st nn bud f W
 pg:Pg f m W
 fr:Fr S M f f w W
 res:W.heap[R]?=some Qw
 box:W.heap[DB]?=some (.cells #[v] 22)
 mlt:M<w.heap.size
 rge:w.heap.size<=R
 dge:w.heap.size<=DB
theorem Ld.keep{n:QM}{i:Option Nat}(h:Ld S M st nn bud f m w R DB v W)(d:W.grownBy n i)
  (p:∀r,i=some r->w.heap.size<=r/\∀c t z,W.heap[r]?=some (.cells c t z)->t=5):Ld S M st nn bud f m w R DB v n:=by
 have o:∀(b:Nat)(c:Array QN)(t:QO)(z:Nat×Nat),W.heap[b]?=some (Obj.cells c t z)->t≠5->n.heap[b]?=some (Obj.cells c t z):=by
  intro b c t z k a;rw[d.block b (G_ k) (λe=>a ((p b e.symm).2 c t z k))];exact k
 have u:n.heap[M]?=W.heap[M]?:=d.block M (FG h.mlt h.fr.size) (λe=>by have:=(p M e.symm).1;have:=h.mlt;omega);refine⟨⟨o _ _ _ _ h.im.box ar,?_⟩,⟨?_,h.pg.inj⟩,?_,o _ _ _ _ h.res ar,o _ _ _ _ h.box ar,h.mlt,h.rge,h.dge⟩;·obtain⟨a,⟨j,g,k,l⟩,r⟩:=h.im.map;exact⟨a,⟨j,g,u.trans k,l⟩,r⟩
 ·intro j;rcases h.pg.at' j with a|⟨b,l,g,a,q,s,x⟩;·exact .inl a
  exact .inr ⟨b,l,g,a,q,s,o _ _ _ _ x ar⟩
 refine⟨d.os.trans h.fr.os,d.tape.trans h.fr.tape,d.output.trans h.fr.output,Fx h.fr.size d.size,?_,h.fr.made⟩;intro g j a q s;rw[d.block g (FG j h.fr.size) (λe=>by have:=(p g e.symm).1;omega)];exact h.fr.block g j a q s
theorem Ld.store(h:Ld S M st nn bud f m w R DB v W)(v'):Ld S M st nn bud f m w R DB v' (W.setCell (Qz DB 0) v'):=by
 have n:∀(b:Nat)(c:Array QN)(t:QO)(z:Nat×Nat),W.heap[b]?=some (Obj.cells c t z)->t≠22->(W.setCell (Qz DB 0) v').heap[b]?=some (Obj.cells c t z):=by
  intro b c t z a d;rw[GQ _ _ _ _ ?_];·exact a
  intro e;simp at e;subst e;rw[h.box]at a;cases a;exact d rfl
 have d:DB≠S/\DB≠M:=by
  constructor;·intro e;subst e;have a:=h.box;rw[h.im.box]at a;simp at a
  have:=h.mlt;have:=h.dge;omega
 refine⟨h.im.setCell (p:=(Qz DB 0)) d.1 d.2 v',⟨?_,h.pg.inj⟩,?_,n _ _ _ _ h.res ar,?_,h.mlt,h.rge,h.dge⟩
 ·intro j;rcases h.pg.at' j with a|⟨b,l,g,a,i,k,o⟩;·exact .inl a
  exact .inr ⟨b,l,g,a,i,k,n _ _ _ _ o ar⟩
 ·refine⟨h.fr.os,h.fr.tape,h.fr.output,by simp[World.setCell];exact h.fr.size,?_,h.fr.made⟩;intro g j a i k;rw[GQ _ _ _ _ ?_];·exact h.fr.block g j a i k
  intro e;simp at e;have:=h.dge;omega
 rw[bj h.box];rfl
theorem Ld.cells(h:Ld S M st nn bud f m w R DB v W):
  W.cell? (Qz DB 0)=some v/\W.frozen? (Qz DB 0)=false/\W.cell? (Qz R 0)=some (I 0)/\W.cell? (Qz R 1)=some (C)/\W.frozen? (Qz R 0)=false/\W.frozen? (Qz R 1)=false:=by
 have b:=h.box;have a:=h.res;refine⟨by simp[QC,b],by simp[QD,b],by simp[QC,a],by simp[QC,a],by simp[QD,a],by simp[QD,a]⟩
theorem re(h:Pg f m W){g:Nat}(i:f ((a+d)/1024)=some g):
  ∀j u,(Ns .u8 (NT m a n d))[j]?=some u->W.cell? ((⟨g,(a+d)%1024,none⟩:Addr).add j)=some u:=by
 intro j u b;have⟨l,k,o,t,p⟩:=h.cell i;simp only[Ns,NT,List.map_map,Gv]at b;have c:j<ct a n d:=by
  rcases Nat.lt_or_ge j (ct a n d)with e|e;·exact e
  rw[FJ (by simpa using e)]at b;simp at b
 rw[List.getElem?_range c]at b;simp at b;have v:(a+d)%1024+j<1024:=by unfold ct at c;omega
 have e1:(a+(d+j))/1024=(a+d)/1024:=Z;have q:(a+(d+j))%1024=(a+d)%1024+j:=Z;rw[<-b];simp only[bO,e1,q,o,Hi,Ht];have r:=ja l k ((a+d)%1024+j) Z;have s:(⟨g,(a+d)%1024,none⟩:Addr).add j=⟨g,(a+d)%1024+j,none⟩:=by
  by_cases e:j=0;·subst e;simp[Addr.add]
  simp[Addr.add,e]
 rw[s];simp only[QC,p];exact r
theorem fy{c:Int}(h:0<=c/\c<12):1<=pg c/\pg c<=4:=by
 rcases fh h with rfl|rfl|rfl|rfl|rfl|rfl|rfl|rfl|rfl|rfl|rfl|rfl<;>decide
theorem xX{c:Int}(h:¬(0<=c/\c<12)):pg c=0:=by simp only[pg,gP h];decide
theorem AO(c):0<=pg c/\pg c<=4:=by
 by_cases h:0<=c/\c<12;·have:=fy h;omega
 rw[xX h];omega
theorem kh{c:Int}(h:0<=c/\c<12):4<=sl c/\sl c<=64/\sl c=pg c*1024/sz c/\sl c*sz c<=pg c*1024:=by
 rcases fh h with rfl|rfl|rfl|rfl|rfl|rfl|rfl|rfl|rfl|rfl|rfl|rfl<;>decide
theorem xW{c:Int}(h:¬(0<=c/\c<12)):sl c=0:=by simp only[sl,GO h]
theorem uj{c:Int}(h:0<=c/\c<12):us c=sz c-8:=by simp only[us,GP h]
theorem sW{c:Int}(h:¬(0<=c/\c<12)):us c=0:=by simp only[us,GO h]
theorem eY(c w)(a:Tb w):
  QA 201 #[I c] w λe b=>e=QJ (I (pg c))/\b=w:=by
 have d:=hidR (dJ c w a);have f:=Eh c;unfold pg;generalize sz c=s at d f⊢;go_enter func201,ntmps201;go_wp2_with fail;refine(d).mono ?_;rintro e b⟨rfl,rfl⟩;go_wp2;go_ret;exact QB
theorem gK(c w)(b:Tb w):
  QA 152 #[I c] w λe a=>e=QJ (I (sl c))/\a=w:=by
 have f:=hidR (dJ c w b);have g:=hidR (eY c w b);by_cases h:0<=c/\c<12;·have i:=eJ h;have j:=fy h;rw[(kh h).2.2.1];have d:=hidR (NR _ w h);generalize sz c=s at f i⊢;generalize pg c=p at g j⊢;go_enter func152,ntmps152;go_wp2_with fail;refine(d).mono ?_;rintro e a⟨rfl,rfl⟩;go_wp2_with fail;refine(g).mono ?_;rintro e a⟨rfl,rfl⟩;go_wp2_with fail;refine(f).mono ?_;rintro e a⟨rfl,rfl⟩;go_wp2;go_ret;exact QB
 rw[xW h];have d:=hidR (dY _ w h);go_enter func152,ntmps152;go_wp2_with fail;refine(d).mono ?_;rintro e a⟨rfl,rfl⟩;go_wp2;go_ret;exact QB
end
section
variable {DB M Q S T b base n:Nat}{a bud nn st:Int}{f:Nat->Option Nat}{A W W' w:World}{m:Nat->Option (Bool×List Int)}{v:Value}{xs:List Value}{row:Option Nat}
attribute [local go_sem] Oper.semAt_some
theorem Pg.alloc{f m W}(h:Pg f m W)(o:Obj):Pg f m (W.alloc o):=by
 refine⟨?_,h.inj⟩;intro j;rcases h.at' j with a|⟨b,l,xs,a,d,e,c⟩;·exact .inl a
 exact .inr ⟨b,l,xs,a,d,e,by rw[(GZ W o none).block b (G_ c) bH];exact c⟩
theorem Im.grown{n}(h:Im S M st n bud f W)(c:W.grownBy W' none):Im S M st n bud f W':=by
 have⟨a,b,r⟩:=h.map;exact⟨by rw[c.block S (G_ h.box) bH];exact h.box,a,b.kept c bH,r⟩
theorem Pg.grown(h:Pg f m W)(d:W.grownBy W' none):Pg f m W':=by
 refine⟨?_,h.inj⟩;intro j;rcases h.at' j with a|⟨b,l,xs,a,e,g,c⟩;·exact .inl a
 exact .inr ⟨b,l,xs,a,e,g,by rw[d.block b (G_ c) bH];exact c⟩
theorem Fr.ofGrown(a:W.grownBy W' none):Fr S M f f W W':=
 ⟨a.os,a.tape,a.output,a.size,λg b _ _ _=>a.block g b bH,λk g e=>.inl ⟨k,e⟩⟩
theorem ej{B a:QM}(h:A.grownBy B none)(k:B.grownBy a none):A.grownBy a none:=
 ⟨k.os.trans h.os,k.tape.trans h.tape,k.output.trans h.output,Fx h.size k.size,λg b _=>by rw[k.block g (FG b h.size) bH];exact h.block g b bH⟩
theorem Ld.init{b:QM}(i:Im S M st nn bud f w)(j:Pg f m w)(d:(w.alloc Qw).grownBy b none)(v):
  Ld S M st nn bud f m w w.heap.size b.heap.size v (b.alloc (.cells #[v] 22)):=by
 have e:=ej (GZ w Qw none) (ej d (GZ b (.cells #[v] 22) none));have g:w.heap.size<b.heap.size:=by have:=d.size;simp at this;omega
 refine⟨i.grown e,j.grown e,Fr.ofGrown e,?_,(Hq b _).1,?_,Fv _,Z⟩;·rw[(GZ b (.cells #[v] 22) none).block _ g bH,d.block _ bH bH];exact(Hq w _).1
 have⟨a,c,_⟩:=i.map;exact c.lt
theorem Cl.made(S a n)(W:QM):Cl S W.heap.size a n (((W.alloc (.cells #[J S 0] 141)).alloc (.cells #[U a] 27)).alloc (.cells #[I n] 3)):=by
 refine⟨?_,?_,?_⟩;·rw[(GZ _ _ none).block _ bG bH,(GZ _ _ none).block _ bH bH];exact(Hq W _).1
 ·rw[(GZ _ _ none).block _ bH bH];have:=(Hq (W.alloc (.cells #[J S 0] 141)) (.cells #[U a] 27)).1;simpa using this
 have:=(Hq ((W.alloc (.cells #[J S 0] 141)).alloc (.cells #[U a] 27)) (.cells #[I n] 3)).1;simpa using this
theorem Kp.below{N:Nat}{B:QM}(h:Below N A B)(c:S<N)(d:M<N)(e:b+1+1<N):Kp S M b A B:=
 ⟨h.size,λg a=>h.block g (by rcases a with rfl|rfl|rfl|rfl|rfl<;>omega)⟩
theorem wO{N:Nat}(d:S<N)(e:M<N)(f:b+1+1<N)(W:QM)(l:Nat)(o a:Obj)(i:N<=l)(h:W.heap[l]?=some o):Kp S M b W (W.putObj l a):=
 ⟨(grownBy_putObj' W l a).size,λg c=>(grownBy_putObj' W l a).block g (by have:=G_ h;rcases c with rfl|rfl|rfl|rfl|rfl<;>omega) (by simp;rcases c with rfl|rfl|rfl|rfl|rfl<;>omega)⟩
theorem nz(h:A.ownsRow base 5 1 v n xs)(b:∀r,row=some r->∃o:Obj,A.heap[r]?=some o/\o.isCells=false):v.ownBlock=none\/v.ownBlock≠row:=by
 rcases h.2 with⟨rfl,_⟩|⟨g,c,d,rfl,_,f,_⟩;·exact .inl rfl
 right;intro e;have⟨o,a,i⟩:=b g e.symm;rw[f]at a;cases a;cases i
theorem nN(h:A.ownsRow base 5 1 v n xs):∃p l c,v=.slice p l c:=by
 rcases h.2 with⟨rfl,_⟩|⟨g,a,b,rfl,_⟩;·exact⟨_,_,_,rfl⟩
 exact⟨_,_,_,rfl⟩
theorem core(o:Im S M st nn bud f w)(q:Pg f m w)(p:Im S M st nn bud f W)(pg:Pg f m W)(c:Fr S M f f w W)(i:W.grownBy W' row)(s:∀r,row=some r->w.heap.size<=r):
  Im S M st nn bud f W'/\Pg f m W'/\Fr S M f f w W':=by
 have k:∀g,g<w.heap.size->W'.heap[g]?=W.heap[g]?:=λg n=>i.block g (FG n c.size) (λe=>by have:=s g e.symm;omega)
 refine⟨⟨(k S (G_ o.box)).trans p.box,?_⟩,⟨?_,pg.inj⟩,?_⟩;·have⟨_,e,_⟩:=o.map;obtain⟨a,⟨j,d,l,t⟩,r⟩:=p.map;exact⟨a,⟨j,d,(k M e.lt).trans l,t⟩,r⟩
 ·intro j;rcases pg.at' j with a|⟨b,l,xs,a,d,e,t⟩;·exact .inl a
  have⟨_,_,_,_,u⟩:=q.cell a;exact .inr ⟨b,l,xs,a,d,e,(k b (G_ u)).trans t⟩
 refine⟨i.os.trans c.os,i.tape.trans c.tape,i.output.trans c.output,Fx c.size i.size,?_,c.made⟩;intro g n a d e;rw[k g n];exact c.block g n a d e
theorem tY{c:Array QN}{t:QO}{z:Nat×Nat}(h:A.ownsRow base 5 1 v n xs)(a:A.heap[DB]?=some (.cells c t z))(b:t≠5):v.ownBlock=none\/v.ownBlock≠some DB:=by
 rcases h.2 with⟨rfl,_⟩|⟨g,d,f,rfl,_,i,_⟩;·exact .inl rfl
 right;intro e;cases e;rw[i]at a;cases a;exact b rfl
theorem Ac(h:A.ownsRow base 5 1 v n xs):∀r,v.ownBlock=some r->base<=r/\∃c,A.heap[r]?=some (.cells c 5):=by
 intro r e;rcases h.2 with⟨rfl,_⟩|⟨g,b,a,rfl,c,d,_⟩;·cases e
 cases e;exact⟨c,a,d⟩
theorem Ld.kpRow{R n}(h:Ld S M st nn bud f m w R DB v W)(i:Cl S b a n W)(j:W.grownBy W' row)(k:∀r,row=some r->w.heap.size<=r/\∀c t z,W.heap[r]?=some (.cells c t z)->t=5):Kp S M b W W':=by
 have d:∀(b:Nat)(c:Array QN)(t:QO)(z:Nat×Nat),W.heap[b]?=some (Obj.cells c t z)->t≠5->W'.heap[b]?=W.heap[b]?:=λb c t z l o=>j.block b (G_ l) (λe=>o ((k b e.symm).2 c t z l))
 refine⟨j.size,?_⟩;rintro g(rfl|rfl|rfl|rfl|rfl);·exact d _ _ _ _ h.im.box ar
 ·exact j.block _ (FG h.mlt h.fr.size) (λe=>by have:=(k _ e.symm).1;have:=h.mlt;omega)
 ·exact d _ _ _ _ i.s ar
 ·exact d _ _ _ _ i.a ar
 exact d _ _ _ _ i.n ar
theorem Ld.kpBox{R n}(h:Ld S M st nn bud f m w R DB v W)(i:Cl S b a n W)(j:QN):Kp S M b W (W.setCell (Qz DB 0) j):=by
 have d:∀(b:Nat)(c:Array QN)(t:QO)(z:Nat×Nat),W.heap[b]?=some (Obj.cells c t z)->t≠22->(W.setCell (Qz DB 0) j).heap[b]?=W.heap[b]?:=by
  intro b c t z g k;refine GQ _ _ _ _ ?_;intro e;simp at e;subst e;rw[h.box]at g;cases g;exact k rfl
 refine⟨by simp[World.setCell],?_⟩;rintro g(rfl|rfl|rfl|rfl|rfl);·exact d _ _ _ _ h.im.box ar
 ·refine GQ _ _ _ _ ?_;have:=h.mlt;have:=h.dge;simp;omega
 ·exact d _ _ _ _ i.s ar
 ·exact d _ _ _ _ i.a ar
 exact d _ _ _ _ i.n ar
theorem zu(S M st nn bud f m)(a n:Nat)(w)(j:Im S M st nn bud f w)(k:Pg f m w)(hn:n<=4096)(ha:n=0\/a+n<=4611686018427387904)(c:∀d,d<n->∃g,f ((a+d)/1024)=some g)(h:∀w,Im S M st nn bud f w->Pg f m w->QA 285 #[J S 0,U a,I n] w λe X=>e=QJ (I 0)/\X=w):
  CallsIn Fence.wide 5 prog 246 #[J S 0,U a,I n] w λe X=>∃v,e=QJ (.agg #[I 0,v])/\X.ownsRow w.heap.size 5 1 v n (Ns .u8 ((List.range n).map λi=>bO m (a+i)))/\Im S M st nn bud f X/\Pg f m X/\Fr S M f f w X:=by
 have⟨i0,a0,a1,a2,a3⟩:=G0 Tryz.info5By;have⟨H1,G,HP⟩:=Qe h (IT j k) c;refine callsIn_of_wp_marks func246 rfl trivial ?_ rfl;simp only[ntmps246,FX,FN,F1,Nat.reduceAdd,Nat.reduceSub,FP,FO,FY,Iv,FV,F5]
 gi_wp2_with fail
 refine⟨trivial,?_⟩;refine((callsIn_wide (n:=4)).2 (H1 _ (G.1.alloc _) (G.2.alloc _))).mono ?_;rintro _ _⟨rfl,rfl⟩
 gi_wp2_with (gi_at_make;refine wpListIn_make_own _ rfl _ _ 22 rfl w.heap.size 5 i0 (.int .u8 0) 1 underlying22 a0 a1 a2 .i64 .i64 _ n rfl rfl rfl ?c1 ?c2 ?c3 ?_)
 case c1=>rw[a3];omega
 case c2=>unfold maxLen;omega
 case c3=>simp
 intro w2 i c;have j:=Ld.init G.1 G.2 c (Vl (w.heap.size+1) 0 n);have l:=i.alloc (.cells #[Vl (w.heap.size+1) 0 n] 22);have⟨k,hS,hM⟩:=Qe (IT j l) (FG (G_ G.1.box) j.fr.size) (FG j.mlt j.fr.size);have L:=H j.fr.size
 gi_wp2_with fail
 refine⟨trivial,?_⟩;have⟨j,c⟩:=Qa (w2.alloc (.cells #[Vl (w.heap.size+1) 0 n] 22));have⟨DB,i⟩:=Qa w2.heap.size;rw[c]at k hS hM L;rw[i]at k;rw[c,i];refine((callsIn_wide (n:=4)).2 (oj _ _ _ _)).mono ?_;rintro e w4⟨rfl,rfl⟩;gi_wp2;have HC:=H (Cl.made S a n j);have i:=ej (GZ j (.cells #[J S 0] 141) none) (ej (GZ _ (.cells #[U a] 27) none) (GZ _ (.cells #[I n] 3) none));have q:=H (IT (k.1.keep i (λr e=>by cases e)) (k.2.kept i (.inr (by simp[Value.ownBlock]))));have h4:j.heap.size+1+1+1=(((j.alloc (.cells #[J S 0] 141)).alloc (.cells #[U a] 27)).alloc (.cells #[I n] 3)).heap.size:=bH;have⟨Y,c⟩:=Qa (((j.alloc (.cells #[J S 0] 141)).alloc (.cells #[U a] 27)).alloc (.cells #[I n] 3));rw[c]at HC q h4;rw[c];have hS:=hS.out;have hM:=hM.out;have L:=L.out;refine wpIn_rangeFunc_ownF rfl Z (gf:=307) (lb:=#[J (j.heap.size+1+1) 0,J (j.heap.size+1) 0,J j.heap.size 0]) rfl trivial (enters_of func307 E rfl)
  (encs:=λx: {d:Nat // d<n}=>vt f a n x.1) (Kp:=Kp S M j.heap.size) (S:=λys=>Got a n ys n) (Sp:=λi=>∃d,Got a n i d) (N:=n) (w0:=Y)
  (λl c k W d o p p s=>nW S M st nn bud f a n l j.heap.size 4 Z hn ha HP c k W o p (HC.kp (Kp.below (M:=M) (N:=Y.heap.size) d Z Z Z)) (q.1.im.kp (Kp.below (N:=Y.heap.size) (b:=j.heap.size) d Z Z Z)) s)
  Kp.trans (λW l o c k h _ _=>wO (S:=S) (M:=M) (b:=j.heap.size) (N:=Y.heap.size) Z Z Z W l o c k h) (Fu _ _) (λ_=>rfl)
  (λi W=>∃v,Ld S M st nn bud f m w w.heap.size DB v W/\W.ownsRow w.heap.size 5 1 v (dh m a n i).length (Ns .u8 (dh m a n i))/\Cl S j.heap.size a n W)
  (λc i W=>False)
  ?own (λc s A B row d O hr=>d) ⟨_,q.1,q.2,HC⟩
  (λx=>{tmps:=#[J S 0,U a,I n,undef,undef,undef,J w.heap.size 0,I 0,J DB 0,.slice (some ⟨(f ((a+x.1)/1024)).getD 0,(a+x.1)%1024,none⟩) (ct a n x.1) (1024-(a+x.1)%1024),J S 0,U a,I n,I 0,I 0,.bool false,undef,undef,I n,Vl (w.heap.size+1) 0 n,J S 0,U a,I n,.func (.func 307) #[] #[J (j.heap.size+1+1) 0,J (j.heap.size+1) 0,J j.heap.size 0],.slice (some ⟨(f ((a+x.1)/1024)).getD 0,(a+x.1)%1024,none⟩) (ct a n x.1) (1024-(a+x.1)%1024),undef,undef,undef,undef,undef],defers:=[]}) ?assign ?body ?done ?stop
 case own=>
  rintro s A B row⟨v,k,y,P⟩O hr;have hb:∀r,row=some r->w.heap.size<=r/\∀c t z,A.heap[r]?=some (.cells c t z)->t=5:=by
   intro r e;have⟨h1,o,Q,d⟩:=hr r e;refine⟨Z,λc t z h5=>?_⟩;rw[h5]at Q;cases Q;cases d
  exact⟨v,k.keep O hb,y.kept O (nz y λr e=>(hr r e).2),P.kp (k.kpRow P O hb)⟩
 case assign=>
  intro l x W K hK;unfold vt;gi_wp2;exact hK
 case stop=>
  intro d c i W _ _ h;exact h.elim
 case body=>
  rintro l i x W⟨v,k,y,P⟩a5;have⟨c1,c2,_,_,_,_⟩:=k.cells;have⟨g,O⟩:=HP.out x.1 x.2;have F:=re k.pg (n:=n) O;have K:=Ac y;have p:=H (IT k (IT y P));have a4:(dh m a n i).length<=1024*i.length:=ko m a n i;have a6:=qy a n x.1;rw[O];simp only[Ht];have⟨T,a7⟩:=y7 (IT F K) (Fx L (show j.heap.size<=j.heap.size from Fv _));have V:=H k.fr.size
  gi_wp2_with (gi_at_builtin;refine wpListIn_append_own _ rfl _ _ 22 rfl w.heap.size 5 i0 (.int .u8 0) 1 1 underlying22 a0 a1 a2 a3 rfl Z _ _ _ rfl p.2.1 _ _ _ (Ns .u8 (NT m a n x.1)) rfl ?b0 T.1 ?b1 ?b2 ?b3 ?b4 ?_)
  case b0=>simp[Ns,iW]
  case b1=>
   intro u F;simp only[Ns,FQ]at F;obtain⟨z,_,rfl⟩:=F;rfl
  case b2=>unfold maxLen;omega
  case b3=>omega
  case b4=>exact V
  intro v1 w1 R K _;obtain⟨p1,l1,k1,rfl⟩:=nN R;have hb:∀r,v.ownBlock=some r->w.heap.size<=r/\∀c t z,W.heap[r]?=some (.cells c t z)->t=5:=by
   intro r e;have⟨h1,c0,Q⟩:=T.2 r e;refine⟨h1,λc t z h5=>?_⟩;rw[h5]at Q;cases Q;rfl
  have L1:=p.1.keep K hb;have K1:=p.1.kpRow p.2.2 K hb;have C1:=p.2.2.kp K1;have KO:KeepsOthers W w1:=KeepsOthers.of_grownBy K (λj o e y=>by obtain⟨_,c0,Q⟩:=T.2 j e;rw[Q]at y;cases y;rfl);have F:=H (IT L1 (IT K1 (IT C1 (IT KO R))));have⟨d1,d2,_,_,_,_⟩:=L1.cells;gi_wp2;have K:=F.2.2.2.2.kept (au (al w1 DB) 0 (.slice p1 l1 k1)) (tY F.2.2.2.2 F.1.box ar);have e1:(dh m a n (i++[x])).length=(dh m a n i).length+ct a n x.1:=by rw[gV,FC,iW]
  have R:Ns .u8 (dh m a n (i++[x]))=Ns .u8 (dh m a n i)++Ns .u8 (NT m a n x.1):=by rw[gV];simp[Ns]
  rw[<-e1,<-R]at K;exact⟨F.2.2.2.1.trans (KeepsOthers.setCell _ _ _),F.2.1.trans (F.1.kpBox F.2.2.1 _),_,F.1.store _,K,F.2.2.1.kp (F.1.kpBox F.2.2.1 _)⟩
 case done=>
  rintro d ys W hD F⟨v,k,y,P⟩hK;have⟨c1,c2,c3,c4,c5,c6⟩:=k.cells;have p:=H (IT k (IT y F));obtain⟨K,R,T,rfl⟩:=nN y;gi_wp2;have F:=((KeepsOthers.setCell W (Qz w.heap.size 0) (I 0)).trans (KeepsOthers.setCell _ (Qz w.heap.size 1) (.slice K R T))).same d _ hK rfl;have V:((W.setCell (Qz w.heap.size 0) (I 0)).setCell (Qz w.heap.size 1) (.slice K R T)).heap[w.heap.size]?=some (.cells #[I 0,.slice K R T] 172):=by
   rw[bj (bj p.1.res _)];rfl
  have g2:W.grownBy ((W.setCell (Qz w.heap.size 0) (I 0)).setCell (Qz w.heap.size 1) (.slice K R T)) (some w.heap.size):=au (au (al W w.heap.size) 0 _) 1 _;have o2:=p.2.1.kept g2 (tY p.2.1 p.1.res ar);have q2:=core G.1 G.2 p.1.im p.1.pg p.1.fr g2 (λr e=>by cases e;exact Fv _);have a5:w.heap.size<=d:=Z;generalize (W.setCell (Qz w.heap.size 0) (I 0)).setCell (Qz w.heap.size 1) (.slice K R T)=W5 at*;have g3:=grownBy_putObj' W5 d (.deferred none);have o3:=o2.kept g3 (nz o2 λr e=>by cases e;exact⟨_,F,rfl⟩);have q3:=core G.1 G.2 q2.1 q2.2.1 q2.2.2 g3 (λr e=>by cases e;exact a5);have a4:=(g3.block w.heap.size (G_ V) (λe=>by cases e;rw[V]at F;cases F)).trans V;rw[p.2.2.bytes]at o3;simp only[Gz,GG]at o3;refine⟨bH,.inl ⟨_,_,rfl,run_takeDeferred F,?_⟩⟩;refine⟨.agg #[I 0,.slice K R T],?_,_,rfl,o3,q3⟩;have r1:(W5.putObj d (.deferred none)).cell? (Qz w.heap.size 0)=some (I 0):=by simp[QC,a4]
  have r2:(W5.putObj d (.deferred none)).cell? (Qz w.heap.size 1)=some (.slice K R T):=by simp[QC,a4]
  simp[results,Tryz.f246,go_sem,r1,r2]
def wy(W:World)(c:Array Value)(k:Nat):Option (Bool×List Int)->Prop
 |none=>c[k*3]?=some Qk/\c[k*3+1]?=some Qk/\c[k*3+2]?=some (C)
 |some (l,xs)=>c[k*3]?=some Ql/\c[k*3+1]?=some (.bool (!l))/\xs.length=1024/\∃g,c[k*3+2]?=some (Vl g 1024 1024)/\W.heap[g]?=some (.cells (Ns .u8 xs).toArray 5)
structure Sx(T Q n:Nat)(bud:Int)(m:Nat->Option (Bool×List Int))(W:QM):Prop where
 box:W.heap[T]?=some (.cells #[Vl Q n n,I bud] 177)
 row:∃c,W.heap[Q]?=some (.cells c 179)/\c.size=n*3/\(∀k,k<n->wy W c k (m k))/\∀j k g,j<n->k<n->c[j*3+2]?=some (Vl g 1024 1024)->c[k*3+2]?=some (Vl g 1024 1024)->j=k
 out:∀k,n<=k->m k=none
theorem Sx.c(h:Sx T Q n bud m W):
  W.cell? (Qz T 0)=some (Vl Q n n)/\W.cell? (Qz T 1)=some (I bud):=by
 have a:=h.box;exact⟨by simp[QC,a],by simp[QC,a]⟩
theorem Sx.page(h:Sx T Q n bud m W)(k:Nat)(o:k<n):
  ∃a b c,W.cell? (Qz Q (k*3))=some (.bool a)/\W.cell? (Qz Q (k*3+1))=some (.bool b)/\W.cell? (Qz Q (k*3+2))=some c/\a=(m k).isSome/\(a&&b)=isOpen (m k) /\
   (∀l xs,m k=some (l,xs)->xs.length=1024/\∃g,c=Vl g 1024 1024/\W.heap[g]?=some (.cells (Ns .u8 xs).toArray 5)):=by
 have⟨c,a,u,p,_⟩:=h.row;have b:=p k o;cases j:m k with
 |none=>
  rw[j]at b;have⟨d,f,i⟩:=b;exact⟨false,false,C,by simp[QC,a,d],by simp[QC,a,f],by simp[QC,a,i],rfl,rfl,λl xs e=>by cases e⟩
 |some q=>
  have⟨l,xs⟩:=q;rw[j]at b;have⟨d,f,r,g,i,s⟩:=b;exact⟨true,!l,Vl g 1024 1024,by simp[QC,a,d],by simp[QC,a,f],by simp[QC,a,i],rfl,by simp[isOpen],λv t e=>by cases e;exact⟨r,g,rfl,s⟩⟩
theorem uB(T Q n bud m)(a:Nat)(w)(h:Sx T Q n bud m w)(i:n<=4096)(ha:a<18446744073709551616):
  QA 183 #[J T 0,U a] w λe d=>e=QJ (.bool (isOpen (m (a/1024))))/\d=w:=by
 have⟨j,k⟩:=h.c;by_cases f:a/1024<n
 ·have⟨g,l,o,p,q,r,e1,c,_⟩:=h.page (a/1024) f;have b:=H c;clear e1 c h;cases g;·go_enter func183,ntmps183;go_wp2;go_ret;exact⟨cQ b,rfl⟩
  go_enter func183,ntmps183;go_wp2;go_ret;exact⟨cQ (by rw[<-b.out];rfl),rfl⟩
 have b:=H (h.out (a/1024) Z);have c:¬((a:Int)/1024<(n:Int)):=Z;clear h;go_enter func183,ntmps183;go_wp2;go_ret;exact⟨cQ (by rw[b];rfl),rfl⟩
theorem kT(T Q n bud m)(a:Nat)(w)(h:Sx T Q n bud m w)(t:n<=4096)(ha:a<18446744073709551616)(b:isOpen (m (a/1024))=true):
  QA 129 #[J T 0,U a] w λe j=>e=QJ (.int .u8 (bO m a))/\j=w:=by
 have⟨u,v⟩:=h.c;have k:a/1024<n:=by
  rcases Nat.lt_or_ge (a/1024) n with e|e;·exact e
  rw[h.out _ e]at b;cases b
 have⟨x,y,A,o,p,B,e1,r,f⟩:=h.page (a/1024) k;cases c:m (a/1024)with
 |none=>rw[c]at b;cases b
 | some q=>
  have⟨l,xs⟩:=q;obtain⟨s,g,rfl,i⟩:=f l xs c;have F:w.cell? ⟨g,a%1024,none⟩=some (.int .u8 (xs[a%1024]?.getD 0)):=by
   have d:a%1024<xs.length:=Z;simp[QC,i,Ns,d]
  have d:=H (show bO m a=xs[a%1024]?.getD 0 by simp[bO,c]);generalize xs[a%1024]?.getD 0=z at*;go_enter func129,ntmps129;go_wp2;go_ret;exact⟨cX d.symm,rfl⟩
def dE(m:Nat->Option (Bool×List Int))(a:Nat):Nat->Bool
 |0=>true
 |k+1=>dE m a k&&isOpen (m ((a+k)/1024))
theorem je{m:Nat->Option (Bool×List Int)}{a k:Nat}(h:isOpen (m ((a+k)/1024))=false):∀N,k<N->dE m a N=false
 |0,hk=>by omega
 |N+1,hk=>by
  simp only[dE]
  by_cases e:k=N
  ·subst e;simp[h]
  rw[je h N Z];rfl
theorem gL{m a}: ∀{N:Nat},dE m a N=true->∀k,k<N->isOpen (m ((a+k)/1024))=true
 |0,_,k,b=>by omega
 |N+1,h,k,b=>by
  simp only[dE,Gi]at h
  by_cases e:k=N
  ·subst e;exact h.2
  exact gL h.1 k Z
theorem jX{m:Nat->Option (Bool×List Int)}{a:Nat}: ∀{N:Nat},(∀k,k<N->isOpen (m ((a+k)/1024))=true)->dE m a N=true
 |0,_=>rfl
 |N+1,h=>by
  simp only[dE]
  rw[jX (λk b=>h k Z),h N Z]
  rfl
theorem ry{m:Nat->Option (Bool×List Int)}{p:Nat}: ∀{N:Nat},(∀k,k<N->isOpen (m (p+k))=true)->Oy m p N=true
 |0,_=>rfl
 |N+1,h=>by
  simp only[Oy]
  rw[ry (λk a=>h k Z),h N Z]
  rfl
theorem sF(m)(a n:Nat)(g:1<=n):Oy m (a/1024) ((a+(n-1))/1024+1-a/1024)=dE m a n:=by
 cases c:dE m a n
 ·cases d:Oy m (a/1024) ((a+(n-1))/1024+1-a/1024);·rfl
  exfalso;have:dE m a n=true:=jX (λk f=>by
   have b:=nB d ((a+k)/1024-a/1024) Z;rwa [show a/1024+((a+k)/1024-a/1024)=(a+k)/1024 by omega]at b)
  rw[c]at this;cases this
 refine ry (λk f=>?_);by_cases e:k=0;·have b:=gL c 0 Z;subst e;simpa using b
 have b:=gL c ((a/1024+k)*1024-a) Z;rwa [show(a+((a/1024+k)*1024-a))/1024=a/1024+k by omega]at b
theorem kP(T a)(n:Int)(w:QM)(h:n<0\/4096<n):
  QA 133 #[J T 0,U a,I n] w λe b=>e=QJ (I 6)/\b=w:=by
 rcases h with h|h;·go_enter func133,ntmps133;go_wp2;go_ret;exact QB
 have c:¬n<0:=Z;go_enter func133,ntmps133;go_wp2;go_ret;exact QB
theorem mJ(T a)(w:QM):
  QA 133 #[J T 0,U a,I 0] w λe b=>e=QJ (I 0)/\b=w:=by
 go_enter func133,ntmps133;go_wp2;go_ret;exact QB
theorem nf(T)(a n:Int)(w:QM)(ha:0<=a)(b:a<=18446744073709551615)(f:1<=n)(g:n<=4096)(h:4611686018427387904<=a+(n-1)):
  QA 133 #[J T 0,U a,I n] w λe c=>e=QJ (I 2)/\c=w:=by
 have d:=H (tB a n w ha b (.inr (.inr h)));go_enter func133,ntmps133;go_wp2_with fail;refine d.mono ?_;rintro _ _⟨rfl,rfl⟩;unfold rR;go_wp2_with fail;go_ret;exact QB
theorem lI(T Q nn bud m)(a n:Nat)(w)(b:Sx T Q nn bud m w)(k:nn<=4096)(q:1<=n)(r:n<=4096)(h:a+(n-1)<4611686018427387904):
  QA 133 #[J T 0,U a,I n] w λe l=>e=QJ (I (jk (dE m a n)))/\l=w:=by
 have⟨c,o⟩:=y7 (qA a n w Z Z Z Z) (λ(j:Nat)(p:j<n)=>uB T Q nn bud m (a+j) w b k Z);go_enter func133,ntmps133;go_wp2_with fail;refine c.mono ?_;rintro _ s⟨rfl,rfl⟩;go_wp2_with fail;go_loop [10] (λi=>∃j:Nat,j<=n/\i=I j/\dE m a j=true) (λi=>n-(intOf i).toNat);case atStart=>exact⟨0,FH _,rfl,rfl⟩
 case round=>
  obtain⟨j,p,rfl,b⟩:=hrel;by_cases d:j<n
  ·have f:=H (o j d);rw[show((a+j:Nat):Int)=(a:Int)+(j:Int) by omega]at f;cases c:isOpen (m ((a+j)/1024));·have g:=H (je c n d);rw[c]at f;go_wp2_with fail;refine f.mono ?_;rintro _ _⟨rfl,rfl⟩;go_wp2_with fail;go_ret;exact⟨cX (by rw[g];rfl),rfl⟩
   have g:=H (show dE m a (j+1)=true by simp only[dE];rw[b,c];rfl);rw[c]at f;go_wp2_with fail;refine f.mono ?_;rintro _ _⟨rfl,rfl⟩;go_wp2_with fail
   go_round
   (case rel=>exact⟨j+1,Z,aY,g⟩);case measure=>exact QE
  have c:j=n:=Z;have g:=H (c▸b);go_wp2;go_ret;exact⟨cX (by rw[g];rfl),rfl⟩
def bz(m:Nat->Option (Bool×List Int)):Nat->Nat
 |0=>0
 |k+1=>bz m k+(m k).isSome.toNat
theorem lh(m):∀k,bz m k<=k
 |0=>Fv _
 |k+1=>by have:=lh m k;have a:=Bool.toNat_le (m k).isSome;simp only[bz];omega
theorem ke{f:Nat->Option Nat}{m:Nat->Option (Bool×List Int)}(h:∀k,(f k).isSome=(m k).isSome):∀k,bm f 0 k=bz m k
 |0=>rfl
 |k+1=>by simp only[bm,bz];rw[ke h k,Oi,h k]
theorem mn{m:Nat->Option (Bool×List Int)}{n:Nat}(h:∀k,n<=k->m k=none):∀k,bz m (n+k)=bz m n
 |0=>rfl
 |k+1=>by rw[<-H_];simp only[bz];rw[mn h k,h (n+k) Z];rfl
theorem Sx.three(h:Sx T Q n bud m W)(k:Nat)(j:k<n):
  ∃a p l c,W.cell? (Qz Q (k*3))=some (.bool (m k).isSome)/\W.cell? (Qz Q (k*3+1))=some (.bool a)/\W.cell? (Qz Q (k*3+2))=some (.slice p l c)/\((m k).isSome&&a)=isOpen (m k):=by
 have⟨c,a,p,o,_⟩:=h.row;have b:=o k j;cases i:m k with
 |none=>
  rw[i]at b;have⟨d,e,f⟩:=b;exact⟨false,none,0,0,by simp[QC,a,d],by simp[QC,a,e],by simp[QC,a,f],rfl⟩
 |some q=>
  have⟨l,xs⟩:=q;rw[i]at b;have⟨d,e,r,g,f,s⟩:=b;exact⟨!l,some (Qz g 0),1024,1024,by simp[QC,a,d],by simp[QC,a,e],by simp[QC,a,f],by simp[isOpen]⟩
theorem gj(T Q n bud m w)(h:Sx T Q n bud m w)(v:n<=4096):
  QA 44 #[J T 0] w λe r=>e=QJ (I (bz m n))/\D w r:=by
 have⟨y,z⟩:=h.c;have s:=H h;go_enter func44,ntmps44;go_wp2;go_loopw [3,11] (λc i wr=>∃k:Nat,k<=n/\i=I k/\c=I (bz m k)/\D w wr) (λ_ i _=>n-(intOf i).toNat);case atStart=>exact⟨0,FH _,rfl,rfl,Fu _ _⟩
 case round=>
  obtain⟨k,A,rfl,rfl,a⟩:=hrel;by_cases j:k<n
  ·have⟨t,p,l,c,d,o,q,_⟩:=s.three k j;have d:=NI a d;have o:=NI a o;have q:=NI a q;have u:=lh m k;have⟨f,b⟩:=y7 (show bz m (k+1)=bz m k+(m k).isSome.toNat from rfl) (a.alloc a.size (.cells #[.bool (m k).isSome,.bool t,.slice p l c] 179));generalize bz m k=x at*;cases g:(m k).isSome
   ·rw[g]at d f b;go_wp2;go_roundw;(case rel=>exact⟨k+1,Z,aY,by rw[f];rfl,b⟩);case measure=>exact QE
   rw[g]at d f b;go_wp2;go_roundw;(case rel=>exact⟨k+1,Z,aY,by rw[f];rfl,b⟩);case measure=>exact QE
  have d:k=n:=Z;subst d;have b:=H a;go_wp2;go_ret;exact⟨rfl,b⟩
theorem Sx.set3(h:Sx T Q n bud m W)(k:Nat)(R:k<n)(v:Option (Bool×List Int))(x y z:QN)(F:∀g j,j<n->j≠k->W.cell? (Qz Q (j*3+2))=some (Vl g 1024 1024)->z≠Vl g 1024 1024)
  (hv:∀(c:Array QN)(W':QM),c[k*3]?=some x->c[k*3+1]?=some y->c[k*3+2]?=some z->(∀g,g≠Q->W'.heap[g]?=W.heap[g]?)->wy W' c k v):
  Sx T Q n bud (dT m k v) (((W.setCell (Qz Q (k*3)) x).setCell (Qz Q (k*3+1)) y).setCell (Qz Q (k*3+2)) z):=by
 have⟨c,p,G,K,s⟩:=h.row;have t:T≠Q:=by
  intro e;subst e;rw[h.box]at p;simp at p
 have w:∀g,g≠Q->(((W.setCell (Qz Q (k*3)) x).setCell (Qz Q (k*3+1)) y).setCell (Qz Q (k*3+2)) z).heap[g]?=W.heap[g]?:=by
  intro g a;rw[GQ _ _ _ _ a,GQ _ _ _ _ a,GQ _ _ _ _ a]
 have L:(((W.setCell (Qz Q (k*3)) x).setCell (Qz Q (k*3+1)) y).setCell (Qz Q (k*3+2)) z).heap[Q]?=some (.cells (((c.setIfInBounds (k*3) x).setIfInBounds (k*3+1) y).setIfInBounds (k*3+2) z) 179):=bj (bj (bj p x) y) z;generalize ((W.setCell (Qz Q (k*3)) x).setCell (Qz Q (k*3+1)) y).setCell (Qz Q (k*3+2)) z=W' at*;refine⟨(w T t).trans h.box,⟨_,L,by simpa using G,?_,?_⟩,?_⟩
 ·intro j u;by_cases e:j=k
  ·subst e;rw[bV];refine hv _ _ ?_ ?_ ?_ w;·simp[show j*3<c.size by omega]
   ·simp[show j*3+1<c.size by omega]
   simp[show j*3+2<c.size by omega]
  rw[aW m k j v e];have a:=K j u;have q:∀i,i<3->(((c.setIfInBounds (k*3) x).setIfInBounds (k*3+1) y).setIfInBounds (k*3+2) z)[j*3+i]?=c[j*3+i]?:=by
   intro i b;rw[FK,GO Z,FK,GO Z,FK,GO Z]
  have f:=q 0 Z;have A:=q 1 Z;have b:=q 2 Z;rw[GK]at f;cases B:m j with
  |none=>
   rw[B]at a;exact⟨f.trans a.1,A.trans a.2.1,b.trans a.2.2⟩
  |some r=>
   have⟨l,xs⟩:=r;rw[B]at a;have⟨M,N,O,g,P,o⟩:=a;refine⟨f.trans M,A.trans N,O,g,b.trans P,(w g ?_).trans o⟩;intro d;subst d;rw[p]at o;simp at o
 ·have q:∀g j,j<n->j≠k->c[j*3+2]?=some (Vl g 1024 1024)->z≠Vl g 1024 1024:=λg j f l a=>F g j f l (by simp[QC,p,a])
  have b:∀j,j<n->j≠k->(((c.setIfInBounds (k*3) x).setIfInBounds (k*3+1) y).setIfInBounds (k*3+2) z)[j*3+2]?=c[j*3+2]?:=by
   intro j u t;rw[FK,GO Z,FK,GO Z,FK,GO Z]
  have r:(((c.setIfInBounds (k*3) x).setIfInBounds (k*3+1) y).setIfInBounds (k*3+2) z)[k*3+2]?=some z:=by simp[show k*3+2<c.size by omega]
  intro i j g f l a o;by_cases e1:i=k
  ·by_cases d:j=k;·omega
   subst e1;rw[r]at a;rw[b j l d]at o;exact absurd (GB a) (q g j l d o)
  by_cases d:j=k;·subst d;rw[r]at o;rw[b i f e1]at a;exact absurd (GB o) (q g i f e1 a)
  rw[b i f e1]at a;rw[b j l d]at o;exact s i j g f l a o
 intro j u;rw[aW m k j v Z];exact h.out j u
theorem Sx.setByte(h:Sx T Q n bud m W){k g:Nat}(t:k<n){l:Bool}{xs:List Int}(z:m k=some (l,xs))(A:W.cell? (Qz Q (k*3+2))=some (Vl g 1024 1024))(i:Nat)(X:i<1024)(x:Int):
  Sx T Q n bud (dT m k (some (l,xs.set i x))) (W.setCell (Qz g i) (.int .u8 x)):=by
 have⟨c,q,B,u,a⟩:=h.row;have v:=u k t;rw[z]at v;have⟨F,G,K,f,s,b⟩:=v;have e0:c[k*3+2]?=some (Vl g 1024 1024):=by simpa[QC,q]using A
 have L:f=g:=by rw[s]at e0;simpa using e0
 subst L;have hT:T≠f:=by intro e;subst e;rw[h.box]at b;simp at b
 have M:Q≠f:=by intro e;subst e;rw[q]at b;simp at b
 refine⟨(GQ _ _ _ _ hT).trans h.box,⟨c,(GQ _ _ _ _ M).trans q,B,?_,a⟩,?_⟩
 ·intro j o;by_cases e:j=k;·subst e;rw[bV];refine⟨F,G,by simpa using K,f,s,?_⟩;rw[bj b];simp[Ns,List.map_set]
  rw[aW m k j _ e];have p:=u j o;cases d:m j with
  |none=>rw[d]at p;exact p
  |some r=>
   have⟨l2,N⟩:=r;rw[d]at p;have⟨O,P,R,S,w,V⟩:=p;refine⟨O,P,R,S,w,(GQ _ _ _ _ ?_).trans V⟩;intro y;simp at y;subst y;exact e (a j k _ o t w s)
 intro j o;rw[aW m k j _ Z];exact h.out j o
theorem ud(T Q n bud m)(a:Nat)(x:Int)(w)(h:Sx T Q n bud m w)(u:n<=4096)(ha:a<18446744073709551616){l:Bool}{xs:List Int}(b:m (a/1024)=some (l,xs)):
  QA 128 #[J T 0,U a,.int .u8 x] w λe i=>e=QJ (.tuple #[])/\Sx T Q n bud (dT m (a/1024) (some (l,xs.set (a%1024) x))) i/\∃g c,w.heap[g]?=some (.cells c 5)/\w.cell? ⟨Q,a/1024*3+2,none⟩=some (Vl g 1024 1024)/\w.grownBy i (some g):=by
 have⟨v,y⟩:=h.c;have j:a/1024<n:=by
  rcases Nat.lt_or_ge (a/1024) n with e|e;·exact e
  rw[h.out _ e]at b;cases b
 have⟨A,B,F,p,q,k,e1,r,o⟩:=h.page (a/1024) j;obtain⟨s,g,rfl,d⟩:=o l xs b;have c:a%1024<xs.length:=Z;have t:w.cell? ⟨g,a%1024,none⟩=some (.int .u8 (xs[a%1024]?.getD 0)):=by simp[QC,d,Ns,c]
 have G:w.frozen? ⟨g,a%1024,none⟩=false:=by simp[QD,d]
 have f:=H (IT (h.setByte j b k (a%1024) Z x) (IT d k));generalize xs[a%1024]?.getD 0=z at t;go_enter func128,ntmps128;go_wp2;go_end0;exact⟨rfl,f.1,g,_,f.2.1,f.2.2,au (al w g) _ _⟩
theorem em(c)(w:QM):
  QA 118 #[I c] w λe i=>e=QJ (I (pg c))/\D w i:=by
 have b:=hidR (dx c);by_cases h:0<=c/\c<12
 ·have a:(pg c-1)*1024<4*sz c/\4*sz c<=pg c*1024/\1<=pg c/\pg c<=4:=by
   rcases fh h with rfl|rfl|rfl|rfl|rfl|rfl|rfl|rfl|rfl|rfl|rfl|rfl<;>decide
  have j:=eJ h;generalize sz c=s at b j a⊢;generalize pg c=p at a⊢;go_enter func118,ntmps118;go_wp2_with fail;refine(b _).mono ?_;rintro e l⟨rfl,d⟩;go_wp2;go_loop [4] (λn=>∃k:Int,1<=k/\k<=p/\n=I k) (λn=>(p-intOf n).toNat);case atStart=>exact⟨1,Z,Z,rfl⟩
  case round=>
   obtain⟨k,o,q,rfl⟩:=hrel;by_cases f:k<p
   ·have m:k*1024<4*s:=Z;have g:p<=4:=a.2.2.2;go_wp2
    go_round
    (case rel=>exact⟨k+1,Z,Z,rfl⟩);case measure=>exact QE
   obtain rfl:k=p:=Z;have m:¬k*1024<4*s:=Z;have g:k<=4:=a.2.2.2;go_wp2;go_ret;exact⟨rfl,d⟩
 rw[xX h];rw[gP h]at b;go_enter func118,ntmps118;go_wp2_with fail;refine(b _).mono ?_;rintro e l⟨rfl,d⟩;go_wp2;go_ret;exact⟨rfl,d⟩
theorem gM(c)(w:QM):
  QA 70 #[I c] w λe f=>e=QJ (I (sl c))/\D w f:=by
 have a:=hidR (dx c);have d:=hidR (em c);by_cases h:0<=c/\c<12;·have g:=eJ h;have i:=fy h;rw[(kh h).2.2.1];generalize sz c=s at a g⊢;generalize pg c=p at d i⊢;go_enter func70,ntmps70;go_wp2_with fail;refine(a _).mono ?_;rintro e j⟨rfl,b⟩;go_wp2_with fail;refine(d _).mono ?_;rintro e m⟨rfl,k⟩;go_wp2_with fail;refine(a _).mono ?_;rintro e n⟨rfl,l⟩;go_wp2;go_ret;exact⟨rfl,cv b (cv k l)⟩
 rw[xW h];rw[gP h]at a;go_enter func70,ntmps70;go_wp2_with fail;refine(a _).mono ?_;rintro e j⟨rfl,b⟩;go_wp2;go_ret;exact⟨rfl,b⟩
theorem GN{k:IntKind}{b:Int}(h:a=b):Ending.returned (.int k a)=QJ (.int k b):=by rw[h]
def rp(c:Int):Int:=if 0<=c/\c<12 then 6*(pg c+1)else 0
theorem ub{c:Int}(h:0<=c/\c<12):rp c=6*(pg c+1):=by simp only[rp,GP h]
theorem sS{c:Int}(h:¬(0<=c/\c<12)):rp c=0:=by simp only[rp,GO h]
theorem tM(c):0<=rp c/\rp c<=30:=by
 by_cases h:0<=c/\c<12;·have:=fy h;rw[ub h];omega
 rw[sS h];omega
def fp:Nat->Int
 |0=>1
 |k+1=>fp k+rp k
def rs(c:Int):Int:=if 0<=c/\c<12 then fp c.toNat else -1
theorem iU:∀k:Nat,1<=fp k/\fp k<=1+30*k
 |0=>by simp[fp]
 |k+1=>by have:=iU k;have:=tM k;simp only[fp];omega
theorem gp(c w)(a:Tb w):
  QA 241 #[I c] w λe b=>e=QJ (I (pg c+1))/\b=w:=by
 have d:=hidR (eY c w a);have f:=AO c;generalize pg c=s at d f⊢;go_enter func241,ntmps241;go_wp2_with fail;refine(d).mono ?_;rintro e b⟨rfl,rfl⟩;go_wp2;go_ret;exact QB
theorem lO(c w)(b:Tb w):
  QA 234 #[I c] w λe a=>e=QJ (I (rp c))/\a=w:=by
 have f:=hidR (gp c w b);by_cases h:0<=c/\c<12;·have g:=fy h;have d:=hidR (NR _ w h);rw[ub h];generalize pg c=s at f g⊢;go_enter func234,ntmps234;go_wp2_with fail;refine(d).mono ?_;rintro e a⟨rfl,rfl⟩;go_wp2_with fail;refine(f).mono ?_;rintro e a⟨rfl,rfl⟩;go_wp2;go_ret;exact QB
 rw[sS h];have d:=hidR (dY _ w h);go_enter func234,ntmps234;go_wp2_with fail;refine(d).mono ?_;rintro e a⟨rfl,rfl⟩;go_wp2;go_ret;exact QB
theorem ib(c)(w:QM):
  QA 116 #[I c] w λe f=>e=QJ (I (rp c))/\D w f:=by
 have a:=hidR (dx c);have d:=hidR (em c);by_cases h:0<=c/\c<12;·have g:=eJ h;have i:=fy h;rw[ub h];generalize sz c=s at a g⊢;generalize pg c=p at d i⊢;go_enter func116,ntmps116;go_wp2_with fail;refine(a _).mono ?_;rintro e j⟨rfl,b⟩;go_wp2_with fail;refine(d _).mono ?_;rintro e l⟨rfl,k⟩;go_wp2;go_ret;exact⟨rfl,cv b k⟩
 rw[sS h];rw[gP h]at a;go_enter func116,ntmps116;go_wp2_with fail;refine(a _).mono ?_;rintro e j⟨rfl,b⟩;go_wp2;go_ret;exact⟨rfl,b⟩
theorem kB{c:Int}(h:0<=c/\c<12):rs c=fp c.toNat:=by simp only[rs,GP h]
theorem se{c:Int}(h:¬(0<=c/\c<12)):rs c = -1:=by simp only[rs,GO h]
theorem NU(c)(w:QM):
  QA 115 #[I c] w λe o=>e=QJ (I (rs c))/\D w o:=by
 have d:=hidR (dx c);have p:=hidR ib;by_cases h:0<=c/\c<12
 ·have q:=eJ h;rw[kB h];generalize sz c=s at d q⊢;obtain⟨m,rfl⟩:=Ha h.1;have A:m<12:=Z;simp only[F0];go_enter func115,ntmps115;go_wp2_with fail;refine(d _).mono ?_;rintro e r⟨rfl,f⟩;have t:=hidR f;go_wp2;have e0:(s==0)=false:=bG;simp only[e0];go_loopw [3,4] (λn i wr=>∃k:Nat,k<=m/\i=I k/\n=I (fp k)/\D w wr) (λ_ i _=>m-(intOf i).toNat);case atStart=>exact⟨0,Z,rfl,rfl,t⟩
  case round=>
   obtain⟨k,B,rfl,rfl,g⟩:=hrel;have u:=iU k;by_cases v:k<m
   ·have j:=hidR (show fp (k+1)=fp k+rp (k:Int)from rfl);have x:=tM (k:Int);have y:=hidR g;go_wp2_with fail;refine(p _ _).mono ?_;rintro e F⟨rfl,l⟩;generalize fp k=a at u j;generalize rp (k:Int)=b at x j;have z:=hidR (cv y l);go_wp2;go_roundw;(case rel=>exact⟨k+1,Z,aY,by rw[j],z⟩);case measure=>exact QE
   obtain rfl:k=m:=Z;go_wp2;go_ret;exact⟨rfl,g⟩
 rw[se h];rw[gP h]at d;go_enter func115,ntmps115;go_wp2_with fail;refine(d _).mono ?_;rintro e r⟨rfl,f⟩;go_wp2;go_ret;exact⟨rfl,f⟩
theorem pN:fp 12=187:=ar
theorem gl(w:QM):
  QA 67 #[] w λe c=>e=QJ (I 187)/\D w c:=by
 have e1:rs 11=157:=ar;have d:rp 11=30:=ar;have a:Hid (∀w,_):=λw=>NU 11 w
 have b:Hid (∀w,_):=λw=>ib 11 w
 rw[e1]at a;rw[d]at b;go_enter func67,ntmps67;go_wp2_with fail;refine(a _).mono ?_;rintro e i⟨rfl,f⟩;go_wp2_with fail;refine(b _).mono ?_;rintro e j⟨rfl,g⟩;go_wp2;go_ret;exact⟨rfl,cv f g⟩
theorem gn(w:QM):
  QA 41 #[] w λe a=>e=QJ (I 283)/\D w a:=by
 have b:=hidR gl;go_enter func41,ntmps41;go_wp2_with fail;refine(b _).mono ?_;rintro e d⟨rfl,c⟩;go_wp2;go_ret;exact⟨rfl,c⟩
theorem we(c): -1<=rs c/\rs c<=361:=by
 by_cases h:0<=c/\c<12;·have:=iU c.toNat;rw[kB h];omega
 rw[se h];omega
theorem jO(c s:Int)(k: -1000<=s)(l:s<=1000)(w:QM):
  QA 119 #[I c,I s] w λe d=>e=QJ (I (rs c+s*(pg c+1)))/\D w d:=by
 have a:=hidR (NU c);have b:=hidR (em c);have f:=we c;have g:=AO c;generalize rs c=r at a f⊢;generalize pg c=p at b g⊢;have m: -5000<=s*(p+1)/\s*(p+1)<=5000:=by
  have:p=0\/p=1\/p=2\/p=3\/p=4:=Z;rcases this with rfl|rfl|rfl|rfl|rfl<;>omega
 go_enter func119,ntmps119;go_wp2_with fail;refine(a _).mono ?_;rintro e n⟨rfl,i⟩;go_wp2_with fail;refine(b _).mono ?_;rintro e o⟨rfl,j⟩;go_wp2;go_ret;exact⟨rfl,cv i j⟩
theorem gD(c)(w:QM):
  QA 78 #[I c] w λe d=>e=QJ (I (us c))/\D w d:=by
 have a:=hidR (dx c);by_cases h:0<=c/\c<12;·have f:=eJ h;rw[uj h];generalize sz c=s at a f⊢;go_enter func78,ntmps78;go_wp2_with fail;refine(a _).mono ?_;rintro e g⟨rfl,b⟩;go_wp2_with fail;refine(a _).mono ?_;rintro e j⟨rfl,i⟩;go_wp2;go_ret;exact⟨rfl,cv b i⟩
 rw[sW h];rw[gP h]at a;go_enter func78,ntmps78;go_wp2_with fail;refine(a _).mono ?_;rintro e g⟨rfl,b⟩;go_wp2;go_ret;exact⟨rfl,b⟩
theorem vG(c w)(b:Tb w):
  QA 239 #[I c] w λe a=>e=QJ (I (us c))/\a=w:=by
 have f:=hidR (dJ c w b);by_cases h:0<=c/\c<12;·have g:=eJ h;rw[uj h];have d:=hidR (NR _ w h);generalize sz c=s at f g⊢;go_enter func239,ntmps239;go_wp2_with fail;refine(d).mono ?_;rintro e a⟨rfl,rfl⟩;go_wp2_with fail;refine(f).mono ?_;rintro e a⟨rfl,rfl⟩;go_wp2;go_ret;exact QB
 rw[sW h];have d:=hidR (dY _ w h);go_enter func239,ntmps239;go_wp2_with fail;refine(d).mono ?_;rintro e a⟨rfl,rfl⟩;go_wp2;go_ret;exact QB
theorem GM{k:IntKind}{b:Int}(h:a=b):Ending.returned (.int k a)=QJ (.int k b):=by rw[h]
def iu(r:Int):Nat->Nat->Int
 |k,0=> -1
 |k,n+1=>if r<=us k then(k:Int)else iu r (k+1) n
def co(r:Int):Int:=iu r 0 12
theorem ui(c):0<=us c/\us c<=1016:=by
 by_cases h:0<=c/\c<12;·have:=eJ h;rw[uj h];omega
 rw[sW h];omega
theorem iX(r:Int)(h:1016<r):∀n k,iu r k n = -1
 |0,k=>rfl
 |n+1,k=>by
  have:=ui k
  simp only[iu,GO (show¬r<=us (k:Int) by omega)]
  exact iX r h n (k+1)
theorem sJ(r:Int)(o:0<=r)(p:r<=18446744073709551615)(w:QM):
  QA 121 #[U r] w λe j=>e=QJ (I (co r))/\D w j:=by
 have l:=hidR gD;go_enter func121,ntmps121;go_wp2;go_loopw [3] (λc wr=>∃k:Nat,k<=12/\c=I k/\co r=iu r k (12-k)/\D w wr) (λc _=>12-(intOf c).toNat);case atStart=>exact⟨0,Z,rfl,rfl,Fu _ _⟩
 case round=>
  obtain⟨k,q,rfl,a,d⟩:=hrel;by_cases m:k<12
  ·have e1:12-k=(11-k)+1:=Z;rw[e1,iu]at a;have n:=ui (k:Int);have f:=hidR d;go_wp2_with fail;refine(l _ _).mono ?_;rintro e s⟨rfl,g⟩;generalize us (k:Int)=u at a n⊢;by_cases i:r<=u;·rw[GP i]at a;have b:=hidR a;go_wp2;go_ret;exact⟨GM b.symm,cv f g⟩
   rw[GO i]at a;have b:=hidR a;go_wp2;go_roundw;(case rel=>exact⟨k+1,Z,aY,by rw[b];congr 1;omega,cv f g⟩);case measure=>exact QE
  obtain rfl:k=12:=Z;have b:=hidR a;go_wp2;go_ret;exact⟨GM b.symm,d⟩
theorem CB{k:Nat}(h:k<12):us (k:Int)=vN.getD k 0-8:=by
 rw[uj ⟨Z,Z⟩,s_ h]
theorem lV(r:Int)(h:1016<r)(w:QM):
  QA 203 #[U r] w λe a=>e=QJ (I (co r))/\a=w:=by
 rw[show co r = -1 from iX r h 12 0];go_enter func203,ntmps203;go_wp2;go_ret;exact QB
theorem rx(w:QM)(A:Array QN)(k:Nat)(v:QN)(a:k<12)(h:A[k]?=some v):(Instr.index 339 (.agg A) (I k)).run prog w=.ok v w:=by
 simp[Instr.index,run_underlying underlying339,asIntOf,a,go_sem,h]
theorem NV(r:Int)(o:0<=r)(h:r<=1016)(w)(g:Tb w):
  QA 203 #[U r] w λe m=>e=QJ (I (co r))/\m=w:=by
 have⟨t,n,j⟩:=g.row;go_enter func203,ntmps203;go_wp2_with (refine Gt rfl 339 _ rfl 6 rfl t _ n _ j underlying339 rfl E ?_);go_loop [8] (λi=>∃k:Nat,k<=12/\i=I k/\co r=iu r k (12-k)) (λi=>12-(intOf i).toNat);case atStart=>exact⟨0,Z,rfl,rfl⟩
 case round=>
  obtain⟨k,p,rfl,a⟩:=hrel;by_cases b:k<12
  ·have e1:12-k=(11-k)+1:=Z;rw[e1,iu,CB b]at a;have d:(List.map (λz=>Value.int IntKind.i64 z) vN).toArray[k]?=some (I (vN.getD k 0)):=by
    have f:k<vN.length:=b;simp[Fy f]
   have l:=eJ (c:=(k:Int)) ⟨Z,Z⟩;rw[s_ b]at l;clear j g e1;generalize vN.getD k 0=u at a l d;generalize (List.map (λz=>Value.int IntKind.i64 z) vN).toArray=A at d⊢;have q:=rx w A k _ b d;clear d;by_cases s:r+8<=u;·rw[GP Z]at a;have d:=hidR a;clear a;go_wp2;go_ret;exact⟨GM d.symm,rfl⟩
   rw[GO Z]at a;have d:=hidR a;clear a;go_wp2
   go_round
   (case rel=>exact⟨k+1,Z,aY,by rw[d];congr 1;omega⟩);case measure=>exact QE
  obtain rfl:k=12:=Z;have d:=hidR a;clear a;go_wp2;go_ret;exact⟨GM d.symm,rfl⟩
theorem lB(r:Int)(a:0<=r)(w)(b:Tb w):
  QA 203 #[U r] w λe c=>e=QJ (I (co r))/\c=w:=by
 by_cases h:1016<r;·exact lV r h w
 exact NV r a Z w b
end
end Go.Proofs.YtdhegekcmmlohaaGreatDoor
