import Derived.BigQuiet
import Derived.OpenShut
import Derived.ProofKit
import Derived.Shelf.Bits.Mul64
import Derived.Test.YtdngbppdomoenaaGreatDoorProg
import Derived.WalkLawsBesides
set_option linter.unusedVariables false
set_option linter.unusedSimpArgs false
set_option maxRecDepth 20000
set_option maxHeartbeats 8000000
namespace Go.Proofs.YtdngbppdomoenaaGreatDoor
open Go.Proofs.Tryz
variable {W W1 W2 a w w':World} {M S b cap g i k:Nat} {e:TypeId} {xs:List Value} {bud n st:Int} {zs:List Int} {v:Value} {f:Nat->Option Nat} {m:Nat->Option (Bool×List Int)}
section
open Go.RowKit Go
abbrev Fc:=@Below.refl
abbrev Fe:=@Nat.le_refl
abbrev Ff:=@List.setIfInBounds_toArray
abbrev Fg:=@Nat.le_trans
abbrev Fh:=@List.set_cons_zero
abbrev Fi:=@List.set_cons_succ
abbrev Fj:=@List.getElem?_eq_getElem
abbrev Fl:=@List.getElem?_eq_some_iff
abbrev Fo:=@List.length_append
abbrev Fp:=@Array.getElem?_modify
abbrev Fq:=@Nat.lt_of_lt_of_le
abbrev Fs:=@Nat.zero_le
abbrev Ft:=@List.getElem?_eq_none
abbrev Fu:=@Array.getElem?_setIfInBounds
abbrev Fv:=@Array.replicate_zero
abbrev Fw:=@Array.replicate_succ
abbrev Fx:=@List.length_cons
abbrev Fy:=@List.nil_append
abbrev Fz:=@List.mem_of_getElem?
abbrev FA:=@List.size_toArray
abbrev FB:=@List.push_toArray
abbrev FC:=@List.mem_map
abbrev FD:=@Int.toNat_natCast
abbrev FG:=@List.mem_cons
abbrev FH:=@List.length_nil
abbrev FJ:=@List.cons_append
abbrev FK:=@wpList_store_row
abbrev FM:=@List.mem_append
abbrev FN:=@List.take_add_one
abbrev FO:=@List.length_replicate
abbrev FP:=@Nat.zero_add
abbrev FQ:=@List.take_of_length_le
abbrev FV:=@Bool.and_eq_true
abbrev FX:=@List.length_set
abbrev FY:=@Array.getElem?_toList
abbrev F0:=@List.mem_range
abbrev F1:=@List.not_mem_nil
abbrev F4:=@List.append_nil
abbrev F5:=@Nat.mul_le_mul_right
abbrev F8:=@wpList_load_row
abbrev F_:=@List.mem_filter
abbrev Ga:=@results_cell_row
abbrev Gb:=@List.flatMap_append
abbrev Gc:=@List.getElem?_set
abbrev Ge:=@List.getElem?_take
abbrev Gf:=@List.length_map
abbrev Gg:=@List.range_succ
abbrev Gh:=@List.getElem?_append_left
abbrev Gi:=@List.getElem?_map
abbrev Gj:=@Nat.add_mul
abbrev Gk:=@Option.some.inj
abbrev Gl:=@Nat.one_mul
abbrev Gm:=@List.length_range
abbrev Gn:=@List.getElem?_append_right
abbrev Gp:=@Int.tmod_eq_emod_of_nonneg
abbrev Gq:=@Nat.mul_comm
abbrev Gr:=@List.nodup_cons
abbrev Gs:=@List.append_assoc
abbrev Gt:=@Nat.add_zero
abbrev Gu:=@if_neg
abbrev Gv:=@if_pos
abbrev Gx:=@Below.heap_setCell
abbrev Gy:=@decide_eq_false
abbrev Gz:=@cell_of_row
abbrev GB:=@Calls.quiet_of_same
abbrev GF:=@bodyPost_ret
abbrev GG:=@frozen_of_row
abbrev GH:=@World.grownBy_alloc
abbrev GI:=@info_parts
abbrev GJ:=@decide_eq_true
abbrev GK:=@List.take_length
abbrev GL:=@lt_of_block
abbrev GM:=@Int.eq_ofNat_of_zero_le
abbrev GN:=@List.length_filter_le
abbrev GO:=@wp_loop_rounds
abbrev GP:=@Array.getElem?_eq_none
abbrev GQ:=@List.getElem?_of_mem
abbrev GR:=@List.getElem?_take_of_lt
abbrev GT:=@IntKind.wrap_i64
abbrev GW:=@Option.map_some
abbrev GX:=@decide_eq_true_eq
abbrev GY:=@Option.some.injEq
abbrev GZ:=@List.filter_append
abbrev G0:=@List.length_take
abbrev G8:=@List.filter_cons_of_pos
abbrev G9:=@List.ext_getElem?
abbrev G_:=@MapKept.heap_alloc
abbrev Ha:=@List.map_append
abbrev Hb:=@Option.getD_some
abbrev Hc:=@rounds_succ
abbrev Hd:=@Mul64.wrapN
abbrev He:=@Array.getElem?_eq_getElem
abbrev Hf:=@Value.int.injEq
abbrev Hh:=@Nat.min_eq_left
abbrev Hi:=@Nat.mod_eq_of_lt
abbrev Hj:=@Nat.add_assoc
abbrev Hk:=@run_append_own
abbrev Hl:=@wpList_append_own
abbrev Hm:=@heap_setCell_same
abbrev Hn:=@Nat.lt_trichotomy
abbrev Ho:=@List.flatMap_cons
abbrev Hq:=@Int.tdiv_eq_ediv_of_nonneg
abbrev Hr:=@wp_store_row
abbrev Ht:=@toList_madeCells_one
abbrev Hu:=@List.mem_cons_of_mem
abbrev Hv:=@List.eq_nil_of_length_eq_zero
abbrev Hw:=@List.filter_eq_self
abbrev Hy:=@World.cell?_setCell_other
abbrev Hz:=@List.mem_of_find?_eq_some
abbrev H2:=@Ne.symm
abbrev H4:=@results_none
abbrev H_:=@List.pairwise_append
abbrev Ia:=@List.map_cons
abbrev Ib:=@List.find?_range_eq_some
abbrev Ic:=@List.append_toArray
abbrev Ie:=@List.getElem_mem
abbrev If:=@List.filter_cons_of_neg
abbrev Ig:=@leaves_cons
abbrev Ih:=@List.take_append_of_le_length
abbrev Ii:=@wpList_plain
abbrev Ij:=@Int.emod_lt_of_pos
abbrev Ik:=@List.filter_eq_nil_iff
abbrev Il:=@Nat.lt_irrefl
abbrev Io:=@List.drop_zero
abbrev Ip:=@List.mem_append_left
abbrev Iq:=@WalkArith.wf_i64
abbrev Ir:=@List.pairwise_iff_getElem
abbrev Is:=@Nat.mul_le_mul_left
abbrev It:=@Int.toNat_of_nonneg
abbrev Iu:=@if_false
abbrev Iv:=@if_true
abbrev Iw:=@Lib.half_mul_le
abbrev Ix:=@Int.emod_nonneg
abbrev Iy:=@Option.toList_some
abbrev Iz:=@List.getElem?_drop
abbrev IA:=@Bool.true_eq_false
abbrev IB:=@And.intro
end
section
open Go.RowKit
abbrev D (a b:World):Prop:=Below a.heap.size a b
end
section
open Go.RowKit Go
theorem bK {p:Prop} (h:p:=by simp;omega):p:=h
theorem Z {p:Prop} (h:p:=by omega):p:=h
theorem E {p:Prop} (h:p:=by kernel_rfl):p:=h
theorem aY {p:Prop} (h:p:=by go_num):p:=h
theorem av {p:Prop} (h:p:=by decide):p:=h
theorem bF {p:Prop} (h:p:=by simp):p:=h
theorem ef {p:Prop} (h:p:=by rfl):p:=h
theorem jv {p:Prop} (h:p:=by simp [Value.oneCell']):p:=h
theorem iK {p:Prop} (h:p:=by dsimp only;omega):p:=h
theorem bY {w:World} {g j t:Nat} {a:Array Value} {b:Nat×Nat} {v:Value} (c:w.heap[g]?=some (.cells a t b)) (e:a[j]?=some v:=by rfl):w.cell? ⟨g,j,none⟩=some v:=(Gz _ _ _ _ _ _ c).trans e
theorem AM {P:Program} {e:Func} {p:Tmp} {b:TypeId} {a:Array Value} {w:World} {g t:Nat} {c:Array Value} {f:Nat×Nat} {d:TypeDesc} (i:w.heap[g]?=some (.cells c t f)) (j:P.underlying b=some d) (h:e.results=#[.cell p b]:=by rfl) (k:a.getD p undef=.pointer (some ⟨g,0,none⟩):=by rfl) (l:(match d with|.struct _|.array _ _=>true|_=>false)=true:=by rfl) (m:(P.info? b).map (·.size)=some c.size:=by kernel_rfl):(results e a).run P w=.ok (.agg c) w:=Ga h _ _ _ _ _ _ _ k i j l m
theorem fp {P:Program} {e:Func} {p:Tmp} {b:TypeId} {R:Ending->World->Prop} {a:Act} {w:World} {g t:Nat} {c:Array Value} {f:Nat×Nat} {d:TypeDesc} (i:w.heap[g]?=some (.cells c t f)) (j:P.underlying b=some d) (k:R (.returned (.agg c)) w) (h:e.results=#[.cell p b]:=by rfl) (l:a.tmps.getD p undef=.pointer (some ⟨g,0,none⟩):=by rfl) (m:(match d with|.struct _|.array _ _=>true|_=>false)=true:=by rfl) (n:(P.info? b).map (·.size)=some c.size:=by kernel_rfl) (o:a.defers=[]:=by rfl):bodyPost P e R .ret a w:=GF (Ga h _ _ _ _ _ _ _ l i j m n) o k
theorem eF {P:Program} {ops:Array Oper} {rest:List Oper} {o:Oper} {a:Act} {w:World} {Q:Exit->Act->World->Prop} {e:TypeId} {x y:Operand} {g:Nat} {b:Array Value} {t:TypeId} {c:Array Value} (i:w.heap[g]?=some (.cells c t (0,0))) (h:wpList P ops Q rest (a.put o.dst undef) (w.setRow g b)) (f:o.guard=none:=by rfl) (j:o.op=.store e x y:=by with_reducible rfl) (k:a.eval x=.pointer (some ⟨g,0,none⟩):=by rfl) (l:a.eval y=.agg b:=by rfl) (m:(P.info? e).map (·.size)=some b.size:=by kernel_rfl) (d:c.size=b.size:=by rfl) (n:b.all (·.oneCell')=true:=by simp [Value.oneCell']):wpList P ops Q (o::rest) a w:=FK f e x y j g b k l t c i m d n h
end
abbrev I (x:Int):Value:=.int .i64 x
abbrev U (x:Int):Value:=.int .u64 x
abbrev J (g i:Nat):Value:=.pointer (some ⟨g,i,none⟩)
abbrev Vl (g n c:Nat):Value:=.slice (some ⟨g,0,none⟩) n c
abbrev C:Value:=.slice none 0 0
section
open Go.ChangeShapes Go.WideShapes Go.ChangeAt Go.RowKit
theorem H {p:Prop} (h:p):Hid p:=h
theorem cP {k:IntKind} {a b:Int} (h:a=b):Ending.returned (.int k a)=.returned (.int k b):=by rw [h]
theorem cZ {a b:Bool} (h:a=b):Ending.returned (.bool a)=.returned (.bool b):=by rw [h]
theorem p_ {k:IntKind} {a b:Int} (h:a=b):Value.int k a=.int k b:=by rw [h]
def RowV (w:World) (g:Nat) (e:TypeId) (xs:List Value):Prop :=
 ∃ c:Array Value,w.heap[g]?=some (.cells c e)/\xs.length<=c.size/\∀ i,i<xs.length->c[i]?=xs[i]?
theorem RowV.lt (h:RowV w g e xs):g<w.heap.size:=by
 obtain⟨c,a,_⟩:=h;exact GL a
theorem RowV.cell {w g e xs} (h:RowV w g e xs) (i:Nat) (a:i<xs.length):w.cell? ⟨g,i,none⟩=xs[i]?:=by
 obtain⟨c,b,_,d⟩:=h;simp [World.cell?,b,d i a]
theorem RowV.free (h:RowV w g e xs) (i:Nat):w.frozen? ⟨g,i,none⟩=false:=by
 obtain⟨c,a,_⟩:=h;simp [World.frozen?,a]
theorem RowV.below {B:Nat} (h:RowV w g e xs) (a:Below B w w') (b:g<B):RowV w' g e xs:=by
 obtain⟨c,d,f⟩:=h;exact⟨c,by rw [a.block g b];exact d,f⟩
theorem RowV.drew {w g e xs} (h:RowV w g e xs):RowV w.drew g e xs:=h
theorem RowV.set {w g e xs} (h:RowV w g e xs) (i:Nat) (b:i<xs.length) (v:Value):RowV (w.setCell ⟨g,i,none⟩ v) g e (xs.set i v):=by
 obtain⟨c,d,f,k⟩:=h;refine⟨c.setIfInBounds i v,?_,by simpa using f,?_⟩;·simp [World.setCell,Fp,d]
 intro j a;simp at a;rw [Fu,Gc];by_cases e:i=j;·subst e;simp [b,show i<c.size by omega]
 simp [e,k j a]
theorem RowV.other (h:RowV w g e xs) {p:Addr} (a:g≠p.block) (v:Value):RowV (w.setCell p v) g e xs:=by
 obtain⟨c,b,d⟩:=h;exact⟨c,by rw [Gx _ _ _ _ a];exact b,d⟩
theorem RowV.grown {b:Nat} (h:RowV w g e xs) (f:w.grownBy w' (some b)) (a:g≠b):RowV w' g e xs:=by
 obtain⟨c,d,i⟩:=h;exact⟨c,by rw [f.block g (GL d) (by simpa using a)];exact d,i⟩
theorem RowV.ofOwns {n base:Nat} (h:w.ownsRow base e 1 (Vl g n cap) n xs):RowV w g e xs:=by
 obtain⟨l,a⟩:=h;rcases a with a|⟨m,c,b,d,o,f,p,q,r,j⟩;·simp at a
 simp at d;obtain⟨rfl,rfl⟩:=d;subst j;refine⟨b,f,bK,?_⟩;intro i k;simp at k;simp [Ge];omega
def Ns (k:IntKind) (zs:List Int):List Value:=zs.map (Value.int k)
theorem bo (k zs):(Ns k zs).length=zs.length:=by simp [Ns]
theorem sq (k zs) (i:Nat) (v:Int):(Ns k zs).set i (.int k v)=Ns k (zs.set i v):=by simp [Ns,List.map_set]
theorem iV {k} (h:RowV w g e (Ns k zs)) (i:Nat) (a:i<zs.length):w.cell? ⟨g,i,none⟩=some (.int k (zs[i]?.getD 0)):=by
 rw [h.cell i (by simpa [Ns] using a)];simp [Ns,a]
theorem getD_some (zs:List Int) (k:Nat) (h:k<zs.length):zs[k]?=some (zs[k]?.getD 0):=by simp [h]
def IsRow (k:IntKind) (w:World) (a:Option Addr) (len cap:Nat) (zs:List Int):Prop :=
 (a=none/\len=0/\cap=0/\zs=[]) \/
 ∃ x,a=some x/\len<=cap/\cap<=maxLen/\zs.length=cap/\(∀ i,i<zs.length->w.cell? (x.add i)=some (.int k (zs.getD i 0)))/\∀ n∈zs,(Lit.int k n).wf=true
theorem ad (a:D w w') {x:Addr} (h:w.cell? x=some v):w'.cell? x=some v:=by
 have b:x.block<w.heap.size:=by
  unfold World.cell? at h;split at h;·rename_i c;exact GL c
  cases h
 rw [a.cell b];exact h
theorem IsRow.below {k a len} (h:IsRow k w a len cap zs) (b:D w w'):IsRow k w' a len cap zs:=by
 rcases h with h|⟨x,c,d,e,f,g,j⟩;·exact .inl h
 exact .inr ⟨x,c,d,e,f,λi l=>ad b (g i l),j⟩
theorem IsRow.len {k a len} (h:IsRow k w a len cap zs):(zs.take len).length=len:=by
 rcases h with ⟨_,rfl,_,rfl⟩|⟨x,b,c,d,e,f,g⟩;·simp
 simp;omega
theorem az {b c} (d:D a b) (e:D b c):D a c:=d.trans (e.mono d.size)
def Agree {α:Type} (ys zs:List α) (k:Nat):Prop:=ys.length=zs.length/\∀ j,j<k->ys[j]?=zs[j]?
theorem Agree.zero {α:Type} {a zs:List α} (h:a.length=zs.length):Agree a zs 0:=⟨h,λj b=>Z⟩
theorem Agree.succ {α:Type} {a zs:List α} (h:Agree a zs k) (b:k<zs.length) (v:α) (c:zs[k]?=some v):Agree (a.set k v) zs (k+1):=by
 refine⟨by simp [h.1],λj d=>?_⟩;rw [Gc];by_cases e:k=j;·subst e;simp [h.1,b] at *;exact c.symm
 rw [Gu e];exact h.2 j Z
theorem Agree.all {α:Type} {a zs:List α} (h:Agree a zs k) (c:zs.length<=k):a=zs:=by
 apply G9;intro j;by_cases b:j<k;·exact h.2 j b
 rw [Ft (by have:=h.1;omega),Ft Z]
theorem ar (w:World) (g:Nat):w.grownBy w (some g):=⟨rfl,rfl,rfl,Fe _,λ_ _ _=>rfl⟩
theorem au {b:World} (h:w.grownBy b (some g)) (i:Nat) (v:Value):w.grownBy (b.setCell ⟨g,i,none⟩ v) (some g) :=
 ⟨h.os,h.tape,h.output,by simp [World.setCell];exact h.size,λk c a=>by
  rw [Gx _ _ _ _ (by intro e;exact a (by rw [e]))];exact h.block k c a⟩
theorem rS {a:World} {g:Option Nat} (h:W.grownBy a g):W.grownBy a.drew g:=⟨h.os,h.tape,h.output,h.size,h.block⟩
theorem below_grown (h:D a w) (b:w.grownBy w' (some g)) (c:a.heap.size<=g):D a w' :=
 h.grown b h.size (λk e=>by cases e;exact c)
end
section
open Go.ChangeShapes Go.WideShapes Go.ChangeAt Go.RowKit Go.Maps
def eM:Value->Option (DataW Unit×List MemPlace)
 | .pointer (some ⟨b,0,none⟩)=>some (.lit (.int .i64 b),[])
 | .pointer none=>some (.nil,[])
 | _=>none
theorem oo (b:Nat):eM (.pointer (some ⟨b,0,none⟩))=some (.lit (.int .i64 b),[]):=rfl
theorem g_ {z:DataW Unit×List MemPlace} (h:eM v=some z):(∃ b:Nat,v=.pointer (some ⟨b,0,none⟩)/\z=(.lit (.int .i64 b),[]))\/(v=.pointer none/\z=(.nil,[])):=by
 unfold eM at h;split at h;·left;exact⟨_,rfl,by simpa using h.symm⟩
 ·right;exact⟨rfl,by simpa using h.symm⟩
 cases h
def sD:Option Nat->DataW Unit
 | some b=>.lit (.int .i64 b)
 | none=>.nil
def bm (f:Nat->Option Nat) (first:Nat):Nat->Nat
 | 0=>0
 | k+1=>bm f first k+(f (first+k)).isSome.toNat
theorem eI (f first):∀ k,bm f first k<=k
 | 0=>Fe _
 | k+1=>by have:=eI f first k;have a:=Bool.toNat_le (f (first+k)).isSome;simp only [bm];omega
def upd (f:Nat->Option Nat) (k:Nat) (v:Option Nat):Nat->Option Nat:=λj=>if j=k then v else f j
theorem upd_same (f k v):upd f k v k=v:=by simp [upd]
theorem aJ (f) (k j:Nat) (v) (h:j≠k):upd f k v j=f j:=by simp [upd,h]
theorem iO (f) (k:Nat) (v) (first:Nat):∀ N,k<first\/first+N<=k->bm (upd f k v) first N=bm f first N
 | 0,_=>rfl
 | N+1,h=>by
  simp only [bm]
  rw [iO f k v first N Z,aJ f k _ v Z]
theorem jV (f) (k:Nat) (v) (first:Nat):∀ N,first<=k->k<first+N->bm (upd f k v) first N+(f k).isSome.toNat=bm f first N+v.isSome.toNat
 | 0,h,a=>by omega
 | N+1,h,a=>by
  simp only [bm]
  by_cases e:k=first+N
  ·subst e
   rw [iO f _ v first N Z,upd_same]
   omega
  have:=jV f k v first N h Z
  rw [aJ f k (first+N) v Z]
  omega
structure Im (S M:Nat) (st n bud:Int) (f:Nat->Option Nat) (W:World):Prop where
 box:W.heap[S]?=some (.cells #[.int .i32 st,.int .u32 0,.int .i64 n,.int .i64 bud,.map (some M)] 162)
 map:∃ D:DataW Unit,W.ownsMap prog 3 eM M 4096 D/\Maps.size D=bm f 0 4096/\(∀ k:Nat,k<4611686018427387904->D.atKey (.int .i64 k) .nil=sD (f k))/\∀ k:Nat,k<4611686018427387904->has D (.int .i64 k)=(f k).isSome
theorem gW:Keyed prog 3:=int_keyed underlying3
theorem AZ (w:World):(zeroValue 191).run prog w=.ok (.pointer none) w:=E
theorem Be (k:Nat) (h:k<4611686018427387904):keyOf prog 3 (.int .i64 k)=some (.int .i64 k):=keyOf_int_mk underlying3 (Iq Z)
theorem Im.look (h:Im S M st n bud f W) (k:Nat) (j:k<4611686018427387904) :
  (Instr.lookup 153 (.map (some M)) (.int .i64 k) false).run prog W=.ok (.pointer ((f k).map λb=>⟨b,0,none⟩)) W:=by
 obtain⟨a,d,_,i,_⟩:=h.map;obtain⟨v,ps,e,l⟩:=d.lookup gW underlying153 (AZ W) (show eM (.pointer none)=some (.nil,[]) from rfl) (Be k j);rw [i k j] at l;rw [e];rcases g_ l with ⟨b,rfl,c⟩|⟨rfl,c⟩
 ·cases g:f k with
  | none=>rw [g] at c;simp [sD] at c
  | some m =>
   rw [g] at c;simp [sD] at c;have:m=b:=Z;subst this;rfl
 cases g:f k with
 | none=>rfl
 | some m=>rw [g] at c;simp [sD] at c
theorem Im.c (h:Im S M st n bud f W) :
  W.cell? ⟨S,0,none⟩=some (.int .i32 st)/\W.cell? ⟨S,2,none⟩=some (I n)/\W.cell? ⟨S,3,none⟩=some (I bud)/\W.cell? ⟨S,4,none⟩=some (.map (some M)):=by
 have a:=h.box;simp [World.cell?,a]
theorem ev (S M st n bud f) (first a:Nat) (w) (h:Im S M st n bud f w) (p:first<=4096) (q:a<=4096) :
  Calls prog 227 #[J S 0,I first,I a] w λe w'=>e=.returned (I (bm f first a))/\w'=w:=by
 obtain⟨_,_,_,r⟩:=h.c;have l:=H h;clear h;go_enter func227,ntmps227;go_wp2;go_loop [7,8,10] (λc _ i=>∃ k:Nat,k<=a/\i=I k/\c=I (bm f first k)) (λ_ _ i=>a-(intOf i).toNat);case atStart=>exact ⟨0,Fs _,rfl,rfl⟩
 case round =>
  obtain⟨k,s,rfl,rfl⟩:=hrel;by_cases m:k<a
  ·have d:=l.look (first+k) Z;have g:((first+k:Nat):Int)=(first:Int)+(k:Int):=Z;rw [g] at d;clear g;have o:=eI f first k
   have g:=H (show bm f first (k+1)=bm f first k+(f (first+k)).isSome.toNat from rfl);generalize bm f first k=c at *
   cases j:f (first+k) with
   | none =>
    rw [j] at d g;simp only [Option.map_none] at d;clear j;go_wp2
    go_round
    (case rel=>exact ⟨k+1,Z,aY,by rw [g.out];rfl⟩);case measure=>simp [intOf];omega
   | some b =>
    rw [j] at d g;simp only [GW] at d;clear j;go_wp2
    go_round
    (case rel=>exact ⟨k+1,Z,aY,by rw [g.out];rfl⟩);case measure=>simp [intOf];omega
  have d:k=a:=Z;subst d;go_wp2;go_ret;exact⟨rfl,rfl⟩
def bH (n first e:Int):Bool:=decide (1<=e/\0<=first/\e<=n-first)
theorem dj (S M st n bud f) (first:Int) (count w) (h:Im S M st n bud f w) (b:0<=n) (a:n<=4096) (c:first<=9223372036854775807) :
  Calls prog 226 #[J S 0,I first,I count] w λe w'=>e=.returned (.bool (bH n first count))/\w'=w:=by
 obtain⟨_,d,_,_⟩:=h.c;clear h;by_cases g:1<=count
 ·by_cases i:0<=first
  ·by_cases j:count<=n-first
   ·go_enter func226,ntmps226;go_wp2;go_ret;exact⟨cZ (by simp [bH];omega),rfl⟩
   go_enter func226,ntmps226;go_wp2;go_ret;exact⟨cZ (by simp [bH];omega),rfl⟩
  go_enter func226,ntmps226;go_wp2;go_ret;exact⟨cZ (by simp [bH];omega),rfl⟩
 go_enter func226,ntmps226;go_wp2;go_ret;exact⟨cZ (by simp [bH];omega),rfl⟩
theorem tight {n:Nat} {a:DataW Unit} {R:Value->Option (DataW Unit×List MemPlace)} (h:W.ownsMap prog 3 R b n a) {d:Nat} (e:Maps.size a<=d):W.ownsMap prog 3 R b d a:=by
 obtain⟨f,c,g,F,i,rfl⟩:=h;exact⟨f,c,g,F,by simpa [Maps.size,length_sorted] using e,rfl⟩
theorem dU (h:w.mapTurned w' M) (a:b≠M):w'.heap[b]?=w.heap[b]?:=by
 obtain⟨f,c,d,g,e,rfl⟩:=h;exact ChangeMaps.heap_setBlock_other e _ a
theorem Im.ne (h:Im S M st n bud f W):S≠M:=by
 intro e;subst e;obtain⟨a,⟨d,c,b,_⟩,_⟩:=h.map;rw [h.box] at b;cases b
theorem oT {j:Nat} (h:j≠k):(Lit.int .i64 (j:Int))≠.int .i64 (k:Int):=by
 intro e;injection e with _ e;omega
theorem Im.del {S M st n bud f W} (h:Im S M st n bud f W) (k:Nat) (s:k<4096) (o:TypeId) :
  ∃ g,(Builtin.delete_ #[153,3] o #[.map (some M),.int .i64 k]).run prog W=.ok (.tuple #[]) g/\Im S M st n bud (upd f k none) g/\W.mapTurned g M:=by
 obtain⟨a,b,q,l,c⟩:=h.map;obtain⟨g,i,d,p⟩:=b.drop gW underlying153 (Be k Z) o;refine⟨g,i,⟨by rw [dU p h.ne];exact h.box,a.del (.int .i64 k),d,?_,?_,?_⟩,p⟩
 ·have j:=Maps.size_del (k:=.int .i64 k) (b.tidy gW);have m:=jV f k none 0 4096 Z Z;rw [c k Z] at j;cases r:f k <;> rw [r] at j m <;> simp at j m <;> omega
 ·intro j m;by_cases e:j=k;·subst e;rw [Maps.atKey_del_same,upd_same];rfl
  rw [Maps.atKey_del_other (oT e),aJ f k j _ e];exact l j m
 intro j m;by_cases e:j=k;·subst e;rw [Maps.has_del_same,upd_same];rfl
 rw [Maps.has_del_other (oT e),aJ f k j _ e];exact c j m
theorem Im.put {S M st n bud f W} (h:Im S M st n bud f W) (k b:Nat) (u:k<4096) :
  ∃ l,(Instr.mapUpdate 153 (.map (some M)) (.int .i64 k) (.pointer (some ⟨b,0,none⟩))).run prog W=.ok () l/\Im S M st n bud (upd f k (some b)) l/\W.mapTurned l M:=by
 obtain⟨a,c,s,o,d⟩:=h.map;obtain⟨l,m,i,q⟩:=c.store gW underlying153 av (Be k Z) (oo b);have g:WideAt.IsKeyLit (.int .i64 (k:Int)):=by simp [WideAt.IsKeyLit]
 have r:Maps.size (a.put (.int .i64 k) (.lit (.int .i64 b)))=bm (upd f k (some b)) 0 4096:=by
  have j:=Maps.size_put (k:=.int .i64 k) (c.tidy gW) (.lit (.int .i64 b));have p:=jV f k (some b) 0 4096 Z Z;rw [d k Z] at j;cases t:f k <;> rw [t] at j p <;> simp at j p <;> omega
 refine⟨l,m,⟨by rw [dU q h.ne];exact h.box,_,tight i (by rw [r];exact eI _ _ _),r,?_,?_⟩,q⟩
 ·intro j p;by_cases e:j=k;·subst e;rw [Maps.atKey_put_same c.isMap g,upd_same];rfl
  rw [Maps.atKey_put_other (oT e),aJ f k j _ e];exact o j p
 intro j p;by_cases e:j=k;·subst e;rw [Maps.has_put_same c.isMap g,upd_same];rfl
 rw [Maps.has_put_other (oT e),aJ f k j _ e];exact d j p
theorem Im.len {S M st n bud f W} (h:Im S M st n bud f W) (d:TypeId) :
  (Builtin.len_ #[153] d #[.map (some M)]).run prog W=.ok (I (bm f 0 4096)) W:=by
 obtain⟨a,b,c,_⟩:=h.map;rw [b.len underlying153 d,c]
section
variable {ops:Array Oper} {rest:List Oper} {o:Oper} {a:Act} {Q:Exit->Act->World->Prop}
theorem jB (w) (e:o.guard=none) (m x:Operand) (c:o.op=Op.call { callee:=Callee.builtin Builtin.delete,args:=#[m,x],argTypes:=#[153,3] }) (h:Im S M st n bud f w) (k:Nat) (g:k<4096) (i:a.eval m=.map (some M)) (j:a.eval x=I k) (l:∀ w',Im S M st n bud (upd f k none) w'->w.mapTurned w' M->wpList prog ops Q rest (a.put o.dst (.tuple #[])) w') :
  wpList prog ops Q (o::rest) a w:=by
 refine Ii e λK' d=>?_;obtain⟨w',b,p,q⟩:=h.del k g o.type;unfold Oper.wp;simp [execOp,c,resolve,invoke,builtin,i,j,b,Result.andThen];exact d _ _ (l w' p q)
theorem m_ (w) (g:o.guard=none) (m x v:Operand) (d:o.op=Op.mapUpdate 153 m x v) (h:Im S M st n bud f w) (k:Nat) (b) (i:k<4096) (j:a.eval m=.map (some M)) (l:a.eval x=I k) (p:a.eval v=J b 0) (q:∀ w',Im S M st n bud (upd f k (some b)) w'->w.mapTurned w' M->wpList prog ops Q rest (a.put o.dst undef) w') :
  wpList prog ops Q (o::rest) a w:=by
 refine Ii g λK' e=>?_;obtain⟨w',c,r,s⟩:=h.put k b i;unfold Oper.wp;simp [execOp,d,j,l,p,c,Result.andThen];exact e _ _ (q w' r s)
theorem nj (w) (d:o.guard=none) (m:Operand) (b:o.op=Op.call { callee:=Callee.builtin Builtin.len,args:=#[m],argTypes:=#[153] }) (h:Im S M st n bud f w) (e:a.eval m=.map (some M)) (g:wpList prog ops Q rest (a.put o.dst (I (bm f 0 4096))) w) :
  wpList prog ops Q (o::rest) a w:=by
 refine Ii d λK' c=>?_;unfold Oper.wp;simp [execOp,b,resolve,invoke,builtin,e,h.len o.type,Result.andThen];exact c _ _ g
end
def without (f:Nat->Option Nat) (first:Nat):Nat->(Nat->Option Nat)
 | 0=>f
 | k+1=>upd (without f first k) (first+k) none
theorem turned_refl (h:Im S M st n bud f W):W.mapTurned W M:=by
 obtain⟨a,b,_⟩:=h.map;exact b.turned_refl
theorem rG (S M st n bud f) (first:Int) (count w) (h:Im S M st n bud f w) (d:0<=n) (b:n<=4096) (g:first<=9223372036854775807) (a:bH n first count=false) :
  Calls prog 179 #[J S 0,I first,I count] w λe w'=>e=.returned (I 6)/\w'=w:=by
 have c:=H (dj S M st n bud f first count w h d b g);rw [a] at c;clear a h;go_enter func179,ntmps179;go_wp2_with fail;refine c.mono ?_;rintro _ _ ⟨rfl,rfl⟩;go_wp2_with fail;go_ret;exact⟨rfl,rfl⟩
theorem ni (S M st n bud f) (first a g:Nat) (w) (h:Im S M st n bud f w) (k:0<=n) (d:n<=4096) (b:bH n first a=true) (c:bm f first a=g) (l:g<a) :
  Calls prog 179 #[J S 0,I first,I a] w λe w'=>e=.returned (I 6)/\w'=w:=by
 have m:1<=a/\first+a<=4096:=by simp [bH] at b;omega
 have i:=H (dj S M st n bud f first a w h k d Z);rw [b] at i;have j:=H (ev S M st n bud f first a w h Z Z);rw [c] at j;clear b c h;go_enter func179,ntmps179;go_wp2_with fail;refine i.mono ?_;rintro _ _ ⟨rfl,rfl⟩;go_wp2_with fail;refine j.mono ?_;rintro _ b ⟨rfl,rfl⟩;go_wp2_with fail;go_ret;exact⟨rfl,rfl⟩
theorem oM (S M st n bud f) (first a:Nat) (w) (h:Im S M st n bud f w) (s:0<=n) (l:n<=4096) (c:bH n first a=true) (b:bm f first a=a) :
  Calls prog 179 #[J S 0,I first,I a] w λe w'=>e=.returned (I 0)/\Im S M st n bud (without f first a) w'/\w.mapTurned w' M:=by
 have v:1<=a/\first+a<=4096:=by simp [bH] at c;omega
 have m:=H (dj S M st n bud f first a w h s l Z);rw [c] at m;have o:=H (ev S M st n bud f first a w h Z Z);rw [b] at o;have p:=H h;obtain⟨_,_,_,q⟩:=h.c;clear c b h;go_enter func179,ntmps179;go_wp2_with fail;refine m.mono ?_;rintro _ _ ⟨rfl,rfl⟩;go_wp2_with fail;refine o.mono ?_;rintro _ t ⟨rfl,rfl⟩;go_wp2_with fail;go_loopw [22] (λi wr=>∃ k:Nat,k<=a/\i=I k/\Im S M st n bud (without f first k) wr/\t.mapTurned wr M) (λi _=>a-(intOf i).toNat);case atStart=>exact ⟨0,Fs _,rfl,p,turned_refl p⟩
 case round =>
  obtain⟨k,x,rfl,b,j⟩:=hrel;by_cases u:k<a
  ·obtain⟨_,_,_,q⟩:=b.c;have d:=H (IB b j);clear b j;go_wp2_with (at_delete;refine jB _ rfl _ _ rfl d.1 (first+k) Z rfl aY ?_);intro y c g;have r:=H (IB c (d.2.trans g));clear d c g q;go_wp2_with fail;go_roundw;(case rel=>exact ⟨k+1,Z,aY,r.1,r.2⟩);case measure=>simp [intOf];omega
  have c:k=a:=Z;subst c;have d:=H (IB b j);clear b j;go_wp2_with fail;go_ret;exact⟨rfl,d⟩
def ew (l:Bool) (xs:List Int):Array Value:=(Ns .u8 xs++[Value.bool l]).toArray
structure Pg (f:Nat->Option Nat) (m:Nat->Option (Bool×List Int)) (W:World):Prop where
 at':∀ k,(f k=none/\m k=none)\/∃ b l xs,f k=some b/\m k=some (l,xs)/\xs.length=1024/\W.heap[b]?=some (.cells (ew l xs) 194)
 inj:∀ j k b,f j=some b->f k=some b->j=k
structure Fr (S M:Nat) (f f':Nat->Option Nat) (W W':World):Prop where
 os:W'.os=W.os
 tape:W'.tape=W.tape
 output:W'.output=W.output
 size:W.heap.size<=W'.heap.size
 block:∀ g,g<W.heap.size->g≠S->g≠M->(∀ k,f k≠some g)->W'.heap[g]?=W.heap[g]?
 made:∀ k g,f' k=some g->(∃ j,f j=some g)\/W.heap.size<=g
theorem Fr.refl (S M f W):Fr S M f f W W:=⟨rfl,rfl,rfl,Fe _,λ_ _ _ _ _=>rfl,λk g h=>.inl ⟨k,h⟩⟩
theorem Fr.trans {S M f f' f'' W W' W''} (h:Fr S M f f' W W') (a:Fr S M f' f'' W' W''):Fr S M f f'' W W'':=by
 refine⟨a.os.trans h.os,a.tape.trans h.tape,a.output.trans h.output,Fg h.size a.size,?_,?_⟩
 ·intro g c d i l;rw [a.block g (Fq c h.size) d i ?_];·exact h.block g c d i l
  intro k e;rcases h.made k g e with ⟨j,b⟩|b;·exact l j b
  omega
 intro k g e;rcases a.made k g e with ⟨j,b⟩|b;·exact h.made j g b
 right;have:=h.size;omega
theorem Pg.none_iff (h:Pg f m W) (k:Nat):(f k).isSome=(m k).isSome:=by
 rcases h.at' k with ⟨a,c⟩|⟨b,l,xs,a,c,_⟩ <;> rw [a,c] <;> rfl
theorem Pg.cell (h:Pg f m W) (a:f k=some b) :
  ∃ l xs,m k=some (l,xs)/\xs.length=1024/\W.heap[b]?=some (.cells (ew l xs) 194):=by
 rcases h.at' k with ⟨c,d⟩|⟨g,l,xs,c,d,e⟩;·rw [c] at a;cases a
 rw [c] at a;cases a;exact⟨l,xs,d,e⟩
theorem mN (l) (xs:List Int) (h:xs.length=1024):(ew l xs)[1024]?=some (.bool l):=by
 simp [ew,Ns,h]
theorem iX (l) (xs:List Int) (i:Nat) (h:i<xs.length):(ew l xs)[i]?=some (.int .u8 (xs[i]?.getD 0)):=by
 simp [ew,Ns,List.getElem?_append,h]
theorem Pg.lockCell (h:Pg f m W) (d:f k=some b) {l:Bool} {xs:List Int} (e:m k=some (l,xs)) :
  W.cell? ⟨b,1024,none⟩=some (.bool l)/\W.frozen? ⟨b,1024,none⟩=false:=by
 obtain⟨j,g,a,i,c⟩:=h.cell d;rw [e] at a;cases a;exact⟨by simp [World.cell?,c,mN _ _ i],by simp [World.frozen?,c]⟩
theorem lU (S M st n bud f) (first:Int) (count) (v:Bool) (w) (h:Im S M st n bud f w) (d:0<=n) (b:n<=4096) (g:first<=9223372036854775807) (a:bH n first count=false) :
  Calls prog 180 #[J S 0,I first,I count,.bool v] w λe w'=>e=.returned (I 6)/\w'=w:=by
 have c:=H (dj S M st n bud f first count w h d b g);rw [a] at c;clear a h;go_enter func180,ntmps180;go_wp2_with fail;refine c.mono ?_;rintro _ _ ⟨rfl,rfl⟩;go_wp2_with fail;go_ret;exact⟨rfl,rfl⟩
theorem jg (S M st n bud f) (first a g:Nat) (v:Bool) (w) (h:Im S M st n bud f w) (k:0<=n) (d:n<=4096) (b:bH n first a=true) (c:bm f first a=g) (l:g<a) :
  Calls prog 180 #[J S 0,I first,I a,.bool v] w λe w'=>e=.returned (I 6)/\w'=w:=by
 have m:1<=a/\first+a<=4096:=by simp [bH] at b;omega
 have i:=H (dj S M st n bud f first a w h k d Z);rw [b] at i;have j:=H (ev S M st n bud f first a w h Z Z);rw [c] at j;clear b c h;go_enter func180,ntmps180;go_wp2_with fail;refine i.mono ?_;rintro _ _ ⟨rfl,rfl⟩;go_wp2_with fail;refine j.mono ?_;rintro _ b ⟨rfl,rfl⟩;go_wp2_with fail;go_ret;exact⟨rfl,rfl⟩
def eb (m:Nat->Option (Bool×List Int)) (k:Nat) (v:Option (Bool×List Int)):Nat->Option (Bool×List Int):=λj=>if j=k then v else m j
theorem bL (m k v):eb m k v k=v:=by simp [eb]
theorem aV (m) (k j:Nat) (v) (h:j≠k):eb m k v j=m j:=by simp [eb,h]
def gQ (m:Nat->Option (Bool×List Int)) (first:Nat) (v:Bool):Nat->(Nat->Option (Bool×List Int))
 | 0=>m
 | k+1=>eb (gQ m first v k) (first+k) ((gQ m first v k (first+k)).map λp=>(v,p.2))
theorem Im.setCell {S M st n bud f W} (h:Im S M st n bud f W) {p:Addr} (c:p.block≠S) (d:p.block≠M) (v:Value):Im S M st n bud f (W.setCell p v):=by
 obtain⟨a,b,r⟩:=h.map;exact⟨by rw [Gx _ _ _ _ (H2 c)];exact h.box,a,b.setCell (H2 d) v,r⟩
theorem Pg.apart (h:Pg f m W) (g:Im S M st n bud f W) (i:f k=some b):b≠S/\b≠M:=by
 obtain⟨l,xs,_,_,d⟩:=h.cell i;constructor;·intro e;subst e;rw [g.box] at d;simp at d
 intro e;subst e;obtain⟨a,⟨o,c,j,_⟩,_⟩:=g.map;rw [j] at d;cases d
theorem ns (l v:Bool) (xs:List Int) (h:xs.length=1024):(ew l xs).setIfInBounds 1024 (.bool v)=ew v xs:=by
 apply Array.ext_getElem?;intro i;rw [Fu];by_cases e:1024=i;·subst e;rw [Gv rfl,Gv (by simp [ew,Ns,h]),mN _ _ h]
 rw [Gu e];by_cases a:i<xs.length;·rw [iX _ _ _ a,iX _ _ _ a]
 rw [GP (by simp [ew,Ns];omega),GP (by simp [ew,Ns];omega)]
theorem bj {c:Array Value} {t:TypeId} (h:W.heap[b]?=some (.cells c t)) (v:Value):(W.setCell ⟨b,i,none⟩ v).heap[b]?=some (.cells (c.setIfInBounds i v) t):=by
 simp [World.setCell,Fp,h]
theorem Pg.set (h:Pg f m W) (g:f k=some b) {l n:Bool} {xs a:List Int}
  (s:m k=some (l,xs)) (t:a.length=1024) (u:(ew l xs).setIfInBounds i v=ew n a):Pg f (eb m k (some (n,a))) (W.setCell ⟨b,i,none⟩ v):=by
 refine⟨?_,h.inj⟩;intro j;by_cases e:j=k
 ·subst e;obtain⟨p,d,c,q,o⟩:=h.cell g;rw [s] at c;cases c;exact .inr ⟨b,n,a,g,bL _ _ _,t,by rw [bj o,u]⟩
 rw [aV m k j _ e];rcases h.at' j with c|⟨w,p,d,c,q,o,x⟩;·exact .inl c
 refine .inr ⟨w,p,d,c,q,o,?_⟩;rw [Gx _ _ _ _ ?_];·exact x
 intro r;simp at r;subst r;exact e (h.inj j k _ c g)
theorem Fr.set {W'} (h:Fr S M f f W W') (c:f k=some b) (v:Value):Fr S M f f W (W'.setCell ⟨b,i,none⟩ v):=by
 refine⟨h.os,h.tape,h.output,by simp [World.setCell];exact h.size,?_,h.made⟩;intro g d j l a;rw [Gx _ _ _ _ ?_];·exact h.block g d j l a
 intro e;simp at e;subst e;exact a k c
theorem oj {f first} : ∀ {N:Nat},bm f first N=N->∀ k,k<N->∃ b,f (first+k)=some b
 | 0,_,k,c=>by omega
 | N+1,h,k,c=>by
  have d:=eI f first N
  simp only [bm] at h
  cases a:f (first+N) with
  | none=>rw [a] at h;simp at h;omega
  | some b =>
   rw [a] at h
   simp at h
   by_cases e:k=N
   ·subst e;exact⟨b,a⟩
   exact oj h k Z
theorem kb (S M st n bud f m) (first a:Nat) (v:Bool) (w) (h:Im S M st n bud f w) (l:Pg f m w) (F:0<=n) (u:n<=4096) (d:bH n first a=true) (c:bm f first a=a) :
  Calls prog 180 #[J S 0,I first,I a,.bool v] w λe w'=>e=.returned (I 0)/\Im S M st n bud f w'/\Pg f (gQ m first v a) w'/\Fr S M f f w w':=by
 have N:1<=a/\first+a<=4096:=by simp [bH] at d;omega
 have g:=H (dj S M st n bud f first a w h F u Z);rw [d] at g;have j:=H (ev S M st n bud f first a w h Z Z);rw [c] at j;have G:=H (oj c);have x:=H (IB h l);obtain⟨_,_,_,K⟩:=h.c;clear d c h l;go_enter func180,ntmps180;go_wp2_with fail;refine g.mono ?_;rintro _ _ ⟨rfl,rfl⟩;go_wp2_with fail;refine j.mono ?_;rintro _ L ⟨rfl,rfl⟩;go_wp2_with fail;clear g j;go_loopw [24] (λi wr=>∃ k:Nat,k<=a/\i=I k/\Im S M st n bud f wr/\Pg f (gQ m first v k) wr/\Fr S M f f L wr) (λi _=>a-(intOf i).toNat);case atStart=>exact ⟨0,Fs _,rfl,x.1,x.2,Fr.refl S M f _⟩
 case round =>
  obtain⟨k,O,rfl,c,d,j⟩:=hrel;by_cases y:k<a
  ·obtain⟨_,_,_,K⟩:=c.c;obtain⟨b,o⟩:=G.out k y;obtain⟨l,xs,t,z,_⟩:=d.cell o;obtain⟨P,Q⟩:=d.lockCell o t;obtain⟨r,s⟩:=d.apart c o;have g:=c.look (first+k) Z;rw [o] at g;simp only [GW] at g;have A:((first+k:Nat):Int)=(first:Int)+(k:Int):=Z;rw [A] at g;have B:=d.set o t z (ns l v xs z);have q:=H (IB (c.setCell (p:=⟨b,1024,none⟩) r s (.bool v)) (IB B (IB t (j.set (i:=1024) o (.bool v)))));clear c d j A r s t z o B x;go_wp2;go_roundw;case rel =>
    refine⟨k+1,Z,aY,q.1,?_,q.2.2.2⟩;simp only [gQ];rw [q.2.2.1];exact q.2.1
   case measure=>simp [intOf];omega
  have g:k=a:=Z;subst g;have q:=H (IB c (IB d j));clear c d j;go_wp2_with fail;go_ret;exact⟨rfl,q⟩
theorem Im.drew {S M st n bud f W} (h:Im S M st n bud f W):Im S M st n bud f W.drew:=⟨h.box,h.map⟩
def iJ:Array Value:=ew false (List.replicate 1024 0)
theorem zI (w:World):(Instr.build 194 #[]).run prog w=.ok (.agg iJ) w:=E
theorem Dm (w:World):(Instr.box 194 (.agg iJ)).run prog w=.ok (J w.heap.size 0) (w.alloc (.cells iJ 194)):=E
section
variable {ops:Array Oper} {rest:List Oper} {o:Oper} {a:Act} {Q:Exit->Act->World->Prop}
theorem jm (w:World) (d:o.guard=none) (b:o.op=Op.build 194 #[])
  (e:∀ v,Hid (v=.agg iJ)->wpList prog ops Q rest (a.put o.dst v) w) :
  wpList prog ops Q (o::rest) a w:=by
 refine Ii d λK' c=>?_;unfold Oper.wp;simp [execOp,b,zI w,Result.andThen];exact c _ _ (e _ (H rfl))
theorem kL (w:World) (d:o.guard=none) (x:Operand) (b:o.op=Op.box 194 x) (v:Value) (e:a.eval x=v) (f:Hid (v=.agg iJ))
  (g:∀ w',Hid (w'=w.alloc (.cells iJ 194))->wpList prog ops Q rest (a.put o.dst (J w.heap.size 0)) w') :
  wpList prog ops Q (o::rest) a w:=by
 refine Ii d λK' c=>?_;unfold Oper.wp;simp [execOp,b,e,f.out,Dm w,Result.andThen];exact c _ _ (g _ (H rfl))
end
theorem Im.alloc {S M st n bud f W} (h:Im S M st n bud f W) (o:Obj):Im S M st n bud f (W.alloc o):=by
 obtain⟨a,b,r⟩:=h.map;exact⟨by rw [(GH W o none).block S (GL h.box) bF];exact h.box,a,b.alloc o,r⟩
theorem Pg.drew {f m W} (h:Pg f m W):Pg f m W.drew:=⟨h.at',h.inj⟩
theorem Fr.drew {S M f f' W W'} (h:Fr S M f f' W W'):Fr S M f f' W W'.drew:=⟨h.os,h.tape,h.output,h.size,h.block,h.made⟩
def aU (m:Nat->Option (Bool×List Int)) (first:Nat):Nat->(Nat->Option (Bool×List Int))
 | 0=>m
 | k+1=>eb (aU m first k) (first+k) (some (false,List.replicate 1024 0))
theorem Pg.made (h:Pg f m W) (p:Im S M st n bud f W) (k) (r:W1=W.alloc (.cells iJ 194)) (q:W1.mapTurned W2 M) :
  Pg (upd f k (some W.heap.size)) (eb m k (some (false,List.replicate 1024 0))) W2:=by
 subst r;have u:M<W.heap.size:=by obtain ⟨a,c,_⟩:=p.map;exact c.lt
 have a:∀ j b,f j=some b->b<W.heap.size:=by
  intro j b e;obtain⟨l,xs,_,_,o⟩:=h.cell e;exact GL o
 constructor
 ·intro j;by_cases e:j=k;·subst e;refine .inr ⟨W.heap.size,false,List.replicate 1024 0,upd_same _ _ _,bL _ _ _,FO,?_⟩;rw [dU q Z];exact (G_ W _).1
  rw [aV m k j _ e,aJ f k j _ e];rcases h.at' j with c|⟨g,s,d,c,t,o,l⟩;·exact .inl c
  refine .inr ⟨g,s,d,c,t,o,?_⟩;rw [dU q (h.apart p c).2,(GH W _ none).block g (GL l) bF];exact l
 intro i j b d c;by_cases e:i=k
 ·subst e;rw [upd_same] at d;cases d;by_cases g:j=i;·exact g.symm
  rw [aJ f i j _ g] at c;have:=a j _ c;omega
 rw [aJ f k i _ e] at d;by_cases g:j=k
 ·subst g;rw [upd_same] at c;cases c;have:=a i _ d;omega
 rw [aJ f k j _ g] at c;exact h.inj i j b d c
theorem Fr.turned {f'} (h:Fr S M f f' W W1) (b:W1.mapTurned W2 M):Fr S M f f' W W2:=by
 have a:=b.grown;refine⟨a.os.trans h.os,a.tape.trans h.tape,a.output.trans h.output,Fg h.size a.size,?_,h.made⟩;intro g d e c i;rw [dU b c];exact h.block g d e c i
theorem Fr.fresh {f'} {b:World} (h:Fr S M f f' W W1) (k) (d:W2=W1.alloc (.cells iJ 194)) (i:W2.mapTurned b M):Fr S M f (upd f' k (some W1.heap.size)) W b:=by
 subst d;refine Fr.turned ?_ i;have a:=GH W1 (.cells iJ 194) none;refine⟨a.os.trans h.os,a.tape.trans h.tape,a.output.trans h.output,Fg h.size a.size,?_,?_⟩;·intro g c j l m;rw [a.block g (Fq c h.size) bF];exact h.block g c j l m
 intro j g e;by_cases c:j=k
 ·subst c;rw [upd_same] at e;cases e;exact .inr h.size
 rw [aJ f' k j _ c] at e;exact h.made j g e
theorem uP (S M st n bud f) (first:Int) (count w) (h:Im S M st n bud f w) (d:0<=n) (b:n<=4096) (g:first<=9223372036854775807) (a:bH n first count=false) :
  Calls prog 178 #[J S 0,I first,I count] w λe w'=>e=.returned (I 6)/\w'=w:=by
 have c:=H (dj S M st n bud f first count w h d b g);rw [a] at c;clear a h;go_enter func178,ntmps178;go_wp2_with fail;refine c.mono ?_;rintro _ _ ⟨rfl,rfl⟩;go_wp2_with fail;go_ret;exact⟨rfl,rfl⟩
theorem qh (S M st n bud f) (first a g:Nat) (w) (h:Im S M st n bud f w) (k:0<=n) (d:n<=4096) (b:bH n first a=true) (c:bm f first a=g) (l:0<g) :
  Calls prog 178 #[J S 0,I first,I a] w λe w'=>e=.returned (I 6)/\w'=w:=by
 have m:1<=a/\first+a<=4096:=by simp [bH] at b;omega
 have i:=H (dj S M st n bud f first a w h k d Z);rw [b] at i;have j:=H (ev S M st n bud f first a w h Z Z);rw [c] at j;clear b c h;go_enter func178,ntmps178;go_wp2_with fail;refine i.mono ?_;rintro _ _ ⟨rfl,rfl⟩;go_wp2_with fail;refine j.mono ?_;rintro _ b ⟨rfl,rfl⟩;go_wp2_with fail;go_ret;exact⟨rfl,rfl⟩
theorem qH (S M st n bud f) (first a d:Nat) (w) (h:Im S M st n bud f w) (m:0<=n) (g:n<=4096) (b:bH n first a=true) (i:bm f first a=0) (c:bm f 0 4096=d) (o:bud<d+a) :
  Calls prog 178 #[J S 0,I first,I a] w λe w'=>e=.returned (I 1)/\w'=w.drew:=by
 have r:1<=a/\first+a<=4096:=by simp [bH] at b;omega
 have j:=H (dj S M st n bud f first a w h m g Z);rw [b] at j;have k:=H (ev S M st n bud f first a w h Z Z);rw [i] at k;have p:d<=4096:=c▸eI f 0 4096;obtain⟨_,_,s,t⟩:=h.c;have l:=H h;have q:=H c;clear b c h i;go_enter func178,ntmps178;go_wp2_with fail;refine j.mono ?_;rintro _ _ ⟨rfl,rfl⟩;go_wp2_with fail;refine k.mono ?_;rintro _ i ⟨rfl,rfl⟩;have c:=l.len 3;have b:=l.drew.len 3;rw [q.out] at c b;go_wp2_with fail;go_region;go_wp2;go_ret;exact⟨rfl,rfl⟩
theorem r_ (S M st n bud f m) (first a s:Nat) (w) (h:Im S M st n bud f w) (l:Pg f m w) (A:0<=n) (t:n<=4096) (b:bH n first a=true) (o:bm f first a=0) (d:bm f 0 4096=s) (x:s+a<=bud) :
  Calls prog 178 #[J S 0,I first,I a] w λe w'=>e=.returned (I 0)/\∃ c,Im S M st n bud c w'/\Pg c (aU m first a) w'/\Fr S M f c w w':=by
 have L:1<=a/\first+a<=4096:=by simp [bH] at b;omega
 have g:=H (dj S M st n bud f first a w h A t Z);rw [b] at g;have j:=H (ev S M st n bud f first a w h Z Z);rw [o] at j;have B:s<=4096:=d▸eI f 0 4096;obtain⟨_,_,N,y⟩:=h.c;have r:=H h;have z:=H l;have F:=H d;clear b d h o l;go_enter func178,ntmps178;go_wp2_with fail;refine g.mono ?_;rintro _ _ ⟨rfl,rfl⟩;go_wp2_with fail;refine j.mono ?_;rintro _ G ⟨rfl,rfl⟩;have d:=r.len 3;have b:=r.drew.len 3;rw [F.out] at d b;go_wp2_with fail;go_region;clear d b g j;go_wp2_with fail;go_loopw [33] (λi wr=>∃ k:Nat,k<=a/\i=I k/\∃ c,Im S M st n bud c wr/\Pg c (aU m first k) wr/\Fr S M f c G wr) (λi _=>a-(intOf i).toNat);case atStart=>exact ⟨0,Fs _,rfl,f,r.drew,z.drew,(Fr.refl S M f _).drew⟩
 case round =>
  obtain⟨k,O,rfl,c,b,d,g⟩:=hrel;by_cases K:k<a
  ·obtain⟨_,_,_,y⟩:=b.c;have p:=H (IB b (IB d g));have u:=H (b.alloc (.cells iJ 194));clear b d g r z;go_wp2_with (refine jm _ rfl rfl ?_);intro P q;go_wp2_with (refine kL _ rfl _ rfl _ rfl q ?_);intro Q j;rw [<-j.out] at u;go_wp2_with (refine m_ _ rfl _ _ _ rfl u (first+k) _ Z rfl aY rfl ?_);intro R l o;have v:=H (IB l (IB (p.2.1.made p.1 (first+k) j o) (p.2.2.fresh (first+k) j o)));clear p u l o j q y;go_wp2_with fail;go_roundw;(case rel=>exact ⟨k+1,Z,aY,_,v.1,v.2.1,v.2.2⟩);case measure=>simp [intOf];omega
  have j:k=a:=Z;subst j;have p:=H (IB b (IB d g));clear b d g;go_wp2_with fail;go_ret;exact⟨rfl,c,p⟩
end
section
open Go.ChangeShapes Go.WideShapes Go.ChangeAt Go.RowKit
theorem hidR {p:Prop} (h:p):Hid p:=h
def vK:List Int:=[16,32,48,64,96,128,192,256,384,512,768,1024]
def sz (c:Int):Int:=if 0<=c/\c<12 then vK.getD c.toNat 0 else 0
def pg (c:Int):Int:=(4*sz c+1024-1)/1024
def sl (c:Int):Int:=if 0<=c/\c<12 then pg c*1024/sz c else 0
def us (c:Int):Int:=if 0<=c/\c<12 then sz c-8 else 0
theorem fH {c:Int} (h:0<=c/\c<12):c=0\/c=1\/c=2\/c=3\/c=4\/c=5\/c=6\/c=7\/c=8\/c=9\/c=10\/c=11:=Z
theorem eJ {c:Int} (h:0<=c/\c<12):16<=sz c/\sz c<=1024:=by
 rcases fH h with rfl|rfl|rfl|rfl|rfl|rfl|rfl|rfl|rfl|rfl|rfl|rfl <;> decide
theorem gL {c:Int} (h:¬(0<=c/\c<12)):sz c=0:=by simp only [sz,Gu h]
theorem D3 (c):0<=sz c/\sz c<=1024:=by
 by_cases h:0<=c/\c<12;·have:=eJ h;omega
 rw [gL h];omega
theorem sW (h:k<12):sz (k:Int)=vK.getD k 0:=by
 have a:(0:Int)<=(k:Int)/\(k:Int)<12:=Z;simp only [sz,Gv a,FD]
structure Tb (w:World):Prop where
 row:∃ t fr,w.heap[0]?=some (.cells (vK.map λz=>Value.int .i64 z).toArray t fr)
theorem Tb.cells (h:Tb w) (k:Nat) (b:k<12):w.cell? ⟨0,k,none⟩=some (I (vK.getD k 0)):=by
 obtain⟨t,c,h⟩:=h.row;have a:k<vK.length:=b;simp [World.cell?,h,Fj a]
theorem Tb.below (h:Tb w) (b:D w w'):Tb w':=by
 obtain⟨t,c,h⟩:=h.row;have a:0<w.heap.size:=by
  by_cases a:0<w.heap.size;·exact a
  have:w.heap[0]?=none:=GP Z;rw [this] at h;cases h
 exact⟨t,c,by rw [b.block 0 a];exact h⟩
theorem cu {b c} (d:D a b) (e:D b c):D a c:=d.trans (e.mono d.size)
theorem dS (c:Int) (w:World) (h:0<=c/\c<12) :
  Calls prog 54 #[I c] w λe w'=>e=.returned (.bool true)/\w'=w:=by
 obtain⟨a,b⟩:=h;go_enter func54,ntmps54;go_wp2;go_ret;exact⟨rfl,rfl⟩
theorem em (c:Int) (w:World) (h:¬(0<=c/\c<12)) :
  Calls prog 54 #[I c] w λe w'=>e=.returned (.bool false)/\w'=w:=by
 by_cases b:0<=c;·have a:(decide (c<12))=false:=Gy Z;clear h;go_enter func54,ntmps54;go_wp2;go_ret;exact⟨by rw [<-a];rfl,rfl⟩
 clear h;go_enter func54,ntmps54;go_wp2;go_ret;exact⟨rfl,rfl⟩
theorem dM (c w) (a:Tb w) :
  Calls prog 56 #[I c] w λe w'=>e=.returned (I (sz c))/\w'=w:=by
 by_cases h:0<=c/\c<12
 ·obtain⟨k,rfl⟩:=GM h.1;have d:k<12:=Z;have f:=a.cells k d;rw [sW d];have b:=hidR (dS _ w h);clear a;go_enter func56,ntmps56;go_wp2_with fail;refine (b).mono ?_;rintro e w' ⟨rfl,rfl⟩;go_wp2;go_ret;exact⟨rfl,rfl⟩
 rw [gL h];have b:=hidR (em _ w h);clear a;go_enter func56,ntmps56;go_wp2_with fail;refine (b).mono ?_;rintro e w' ⟨rfl,rfl⟩;go_wp2;go_ret;exact⟨rfl,rfl⟩
end
end Go.Proofs.YtdngbppdomoenaaGreatDoor
namespace Go.Proofs.YtdngbppdomoenaaGreatDoor.product
open Go.Proofs.Tryz
set_option linter.unusedVariables false
set_option linter.unusedSimpArgs false
set_option maxRecDepth 20000
set_option maxHeartbeats 8000000
open Go.ChangeShapes Go.WideShapes Go.ChangeAt Go.RowKit
theorem Bb {p:Prop} (h:p):Hid p:=h
theorem tG (x y:Nat) (j:x<18446744073709551616) (k:y<18446744073709551616) (w:World) :
  Calls prog 144 #[U x,U y] w λe w'=>e=.returned (.tuple #[U ((x*y/18446744073709551616:Nat):Int),U ((x*y%18446744073709551616:Nat):Int)])/\w'=w:=by
 obtain⟨m,l,n,c⟩:=Lib.mul64_hi x y j k;have p:=Iw (a:=x/4294967296) (b:=y/4294967296) Z Z;have q:=Iw (a:=x/4294967296) (b:=y%4294967296) Z Z;have r:=Iw (a:=x%4294967296) (b:=y/4294967296) Z Z;have d:x/4294967296*(y/4294967296)<18446744073709551616:=Z;have f:x/4294967296*(y%4294967296)<18446744073709551616:=Z;have g:x%4294967296*(y/4294967296)<18446744073709551616:=Z;have i:x/4294967296*(y/4294967296)+(x/4294967296*(y%4294967296)+x%4294967296*(y%4294967296)/4294967296)/4294967296<18446744073709551616:=Z;have o:x/4294967296*(y/4294967296)+(x/4294967296*(y%4294967296)+x%4294967296*(y%4294967296)/4294967296)/4294967296+((x/4294967296*(y%4294967296)+x%4294967296*(y%4294967296)/4294967296)%4294967296+x%4294967296*(y/4294967296))/4294967296<18446744073709551616:=Z;go_enter func144,ntmps144;go_wp2;simp only [Mul64.maskN x j,Mul64.maskN y k,Mul64.divN,Mul64.mulN,Mul64.addN,Hd _ m,Hd _ f,Hd _ l,Mul64.maskN _ l,Hd _ g,Hd _ n,Hd _ d,Hd _ i,Hd _ o,Mul64.wrapM (x*y)];rw [c]
 go_ret2
 exact⟨rfl,rfl⟩
theorem im_Product_no (x y:Nat) (b:x<18446744073709551616) (c:y<18446744073709551616) (h:18446744073709551616<=x*y) (w:World) :
  Calls prog 98 #[U x,U y] w λe w'=>e=.returned (.tuple #[U 0,.bool false])/\w'=w:=by
 have a:=Bb (tG x y b c w);have d:(((x*y/18446744073709551616:Nat):Int) != 0)=true:=by
  have:1<=x*y/18446744073709551616:=(Nat.le_div_iff_mul_le Z).2 Z;simp;omega
 generalize x*y/18446744073709551616=q at a d;generalize x*y%18446744073709551616=r at a;clear h;go_enter func98,ntmps98;go_wp2_with fail;refine (a).mono ?_;rintro e w' ⟨rfl,rfl⟩;go_wp2
 go_ret2
 exact⟨rfl,rfl⟩
theorem im_Product_yes (x y:Nat) (b:x<18446744073709551616) (c:y<18446744073709551616) (h:x*y<18446744073709551616) (w:World) :
  Calls prog 98 #[U x,U y] w λe w'=>e=.returned (.tuple #[U ((x*y:Nat):Int),.bool true])/\w'=w:=by
 have a:=Bb (tG x y b c w);rw [Nat.div_eq_of_lt h,Hi h] at a;generalize x*y=r at a h ⊢;go_enter func98,ntmps98;go_wp2_with fail;refine (a).mono ?_;rintro e w' ⟨rfl,rfl⟩;go_wp2
 go_ret2
 exact⟨rfl,rfl⟩
end Go.Proofs.YtdngbppdomoenaaGreatDoor.product
