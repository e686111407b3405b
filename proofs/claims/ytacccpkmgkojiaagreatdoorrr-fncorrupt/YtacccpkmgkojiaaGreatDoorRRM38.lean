import Derived.BigGuardIn
import Derived.BigQuiet
import Derived.BigRegionIn
import Derived.Conc.MuLone
import Derived.Deep.AppendLies
import Derived.Deep.OwnRows
import Derived.Deep.QuietTactic
import Derived.Deep.RegionWith
import Derived.KernelRfl
import Derived.Laws.CopyOwn
import Derived.Laws.Rows
import Derived.Laws.Tables
import Derived.LoopIn
import Derived.LoopNIn
import Derived.Maps.OwnOps
import Derived.Maps.OwnSet
import Derived.Maps.RangeWalk
import Derived.OpenShut
import Derived.OrdersHeld
import Derived.OwnWalkIn
import Derived.ProofKit
import Derived.RangeFuncBound
import Derived.RangeFuncCalls
import Derived.RangeFuncLeaves
import Derived.RangeFuncNested
import Derived.Shelf.Abstract
import Derived.Shelf.Lay
import Derived.Shelf.RegionOpen
import Derived.Shelf.Slices.In.SortNone
import Derived.Shelf.Sort.Plain
import Derived.Sort.KeysCollected
import Derived.Sort.OwnSortedInts
import Derived.TacticsInMore
import Derived.Test.YtacccpkmgkojiaaGreatDoorRRProg
import Derived.WalkKit
import Derived.WalkLawsBesides
import Derived.Test.YtacccpkmgkojiaaGreatDoorRRM00
import Derived.Test.YtacccpkmgkojiaaGreatDoorRRM01
import Derived.Test.YtacccpkmgkojiaaGreatDoorRRM02
import Derived.Test.YtacccpkmgkojiaaGreatDoorRRM06
import Derived.Test.YtacccpkmgkojiaaGreatDoorRRM37
namespace Go.Proofs.YtacccpkmgkojiaaGreatDoorRR
set_option linter.unusedVariables false
set_option linter.unusedSimpArgs false
set_option maxRecDepth 20000
set_option maxHeartbeats 8000000
open Go.ChangeShapes Go.WideShapes Go.ChangeAt Go.RowKit Go.Maps Go.Shelf
theorem sub_all:∀ (L1 L2:List Int),L1.Nodup→(∀ x,x∈L1→x∈L2)→L2.length≤L1.length→∀ y,y∈L2→y∈L1
 | [],L2,_,_,hl,y,hy=>by
  have:L2=[]:=List.length_eq_zero_iff.1 (by simpa using hl)
  rw [this] at hy;cases hy
 | a::t,L2,hn,hs,hl,y,hy=>by
  have ha:=hs a (by simp)
  rw [List.nodup_cons] at hn
  by_cases e:y=a
  ·subst e;simp
  have h1:∀ x,x∈t→x∈L2.erase a:=fun x hx=>(List.mem_erase_of_ne (fun e:x=a=>hn.1 (e▸hx))).2 (hs x (by simp [hx]))
  have h2:(L2.erase a).length≤t.length:=by rw [List.length_erase_of_mem ha];simp at hl;omega
  have h3:=sub_all t (L2.erase a) hn.2 h1 h2 y ((List.mem_erase_of_ne e).2 hy)
  simp [h3]
def litZ:Lit→Int
 | .int _ x=>x
 | _=>0
def heldL (f:Nat→Option Nat) (N:Nat):List Int:=((List.range N).filter fun k=>(f k).isSome).map fun k=>((k:Nat):Int)
theorem heldL_len (f:Nat→Option Nat):∀ N,(heldL f N).length=heldN f 0 N
 | 0=>rfl
 | N+1=>by
  have ih:=heldL_len f N
  unfold heldL at ih ⊢
  rw [List.range_succ,List.filter_append,List.map_append,List.length_append,ih]
  simp only [heldN,Nat.zero_add]
  congr 1
  cases hfN:(f N).isSome <;> simp [List.filter,hfN]
theorem heldL_nodup (f:Nat→Option Nat) (N:Nat):(heldL f N).Nodup:=by
 unfold heldL;refine List.pairwise_map.2 ((List.nodup_range.filter _).imp ?_);intro a b h e;exact h (by omega)
theorem heldL_mem (f:Nat→Option Nat) (N:Nat) (z:Int):z∈heldL f N↔∃ k:Nat,z=k∧k < N∧(f k).isSome=true:=by
 unfold heldL;simp only [List.mem_map,List.mem_filter,List.mem_range];constructor
 ·rintro⟨k,⟨h1,h2⟩,rfl⟩;exact⟨k,rfl,h1,h2⟩
 rintro⟨k,rfl,h1,h2⟩;exact⟨k,⟨h1,h2⟩,rfl⟩
theorem Im.only {S M:Nat} {st n bud:Int} {f:Nat→Option Nat} {W:World} (h:Im S M st n bud f W):∃ D:DataW Unit,W.ownsMap Tryz.prog 3 ptrE M 4096 D∧Maps.size D=heldN f 0 4096∧(∀ k:Nat,k < 4611686018427387904→D.atKey (.int .i64 k) .nil=asD (f k))∧(∀ k:Nat,k < 4611686018427387904→has D (.int .i64 k)=(f k).isSome)∧∀ z:Int,has D (.int .i64 z)=true→∃ k:Nat,z=k∧k < 4096∧(f k).isSome=true:=by
 obtain⟨D,hown,hsz,hat,hhas⟩:=h.map;refine⟨D,hown,hsz,hat,hhas,?_⟩;obtain⟨es,hD,hpw,_⟩:=hown.entries keyed3;have hint:∀ p∈es,∃ x:Int,p.1=.int .i64 x:=by
  obtain⟨es',hD',hko⟩:=hown.keysOf;obtain rfl:es=es':=by rw [hD] at hD';simpa using hD'
  intro p hp;obtain⟨v,hv⟩:=hko p hp;obtain⟨x,_,hx,_⟩:=Maps.keyOf_int_inv Tryz.underlying3 hv;exact⟨x,hx⟩
 subst hD;have hm:∀ z:Int,z∈es.map (fun p=>litZ p.1)↔has (.map es) (.int .i64 z)=true:=by
  intro z;rw [has_eq,List.any_eq_true,List.mem_map];constructor
  ·rintro⟨p,hp,rfl⟩;obtain⟨x,hx⟩:=hint p hp;exact⟨p,hp,by rw [hx];simp [Lit.sameKey,litZ]⟩
  rintro⟨p,hp,hs⟩;obtain⟨x,hx⟩:=hint p hp;refine⟨p,hp,?_⟩;rw [hx] at hs ⊢;simpa [Lit.sameKey,litZ] using hs
 intro z hz;have:=sub_all (heldL f 4096) (es.map fun p=>litZ p.1) (heldL_nodup f 4096) (fun x hx=>by
  obtain⟨k,rfl,h1,h2⟩:=(heldL_mem f 4096 x).1 hx;rw [hm,hhas k (by omega)];exact h2) (by rw [List.length_map,heldL_len,←hsz];exact Nat.le_refl _) z ((hm z).2 hz)
 exact (heldL_mem f 4096 z).1 this
theorem opensM_mem (m:Nat→Option (Bool×List Int)):∀ (n:Nat) (z:Int),z∈opensM m n↔∃ k:Nat,z=k∧k < n∧isOpen (m k)=true
 | 0,z=>by simp [opensM]
 | n+1,z=>by
  have ih:=opensM_mem m n z
  simp only [opensM]
  split
  ·rename_i ho
   rw [List.mem_append,ih]
   simp only [List.mem_singleton]
   constructor
   ·rintro (⟨k,rfl,h1,h2⟩|rfl)
    ·exact⟨k,rfl,by omega,h2⟩
    exact⟨n,rfl,by omega,ho⟩
   rintro⟨k,rfl,h1,h2⟩
   by_cases e:k=n
   ·right;rw [e]
   left;exact⟨k,rfl,by omega,h2⟩
  rename_i ho
  rw [ih]
  constructor
  ·rintro⟨k,rfl,h1,h2⟩;exact⟨k,rfl,by omega,h2⟩
  rintro⟨k,rfl,h1,h2⟩
  refine⟨k,rfl,?_,h2⟩
  by_cases e:k=n
  ·subst e;exact absurd h2 ho
  omega
theorem opensM_sorted (m:Nat→Option (Bool×List Int)):∀ n:Nat,(opensM m n).Pairwise (fun x y=>x < y)
 | 0=>List.Pairwise.nil
 | n+1=>by
  simp only [opensM]
  split
  ·rw [List.pairwise_append]
   refine⟨opensM_sorted m n,by simp,fun x hx y hy=>?_⟩
   obtain⟨k,rfl,h1,_⟩:=(opensM_mem m n x).1 hx
   simp at hy
   omega
  exact opensM_sorted m n
theorem sort_opens (m:Nat→Option (Bool×List Int)) (n:Nat) (os:List Int) (hn:os.Nodup) (h:∀ z,z∈os↔∃ k:Nat,z=k∧k < n∧isOpen (m k)=true):(os.mergeSort fun x y=>decide (x≤y))=opensM m n:=by
 have hp:os.Perm (opensM m n):=(List.perm_ext_iff_of_nodup hn ((opensM_sorted m n).imp fun h=>by omega)).2 fun z=>by rw [h z,opensM_mem]
 have tr:∀ a b c:Int,decide (a≤b)=true→decide (b≤c)=true→decide (a≤c)=true:=fun a b c h1 h2=>by simp at *;omega
 have to:∀ a b:Int,(decide (a≤b) || decide (b≤a))=true:=fun a b=>by simp;omega
 refine List.Perm.eq_of_pairwise (le:=fun a b=>decide (a≤b)=true) (fun a b _ _ h1 h2=>by simp at h1 h2;omega) (List.pairwise_mergeSort tr to os) ((opensM_sorted m n).imp fun h=>by simp;omega) ((List.mergeSort_perm os _).trans hp)
end Go.Proofs.YtacccpkmgkojiaaGreatDoorRR
namespace Go.Proofs.YtacccpkmgkojiaaGreatDoorRR
set_option linter.unusedVariables false
set_option linter.unusedSimpArgs false
set_option maxRecDepth 20000
set_option maxHeartbeats 8000000
open Go.ChangeShapes Go.WideShapes Go.ChangeAt Go.RowKit Go.Maps Go.Shelf
def Sorts:Prop:=∀ (v:Value) (os:List Int) (W:World) (base:Nat),W.ownsRow base 3 1 v os.length (Ns .i64 os)→os.length≤4096 →
 Calls Tryz.prog 106 #[v] W fun e w'=>e=.returned (.tuple #[])∧w'.ownsRow base 3 1 v os.length (Ns .i64 (os.mergeSort fun x y=>decide (x≤y)))∧W.grownBy w' v.ownBlock
def mkP (c:Option Nat):Value:=.pointer (c.map fun b=>⟨b,0,none⟩)
def Met (m:Nat→Option (Bool×List Int)) (left:Lit→Bool) (os:List Int):Prop:=os.Nodup∧∀ z,z∈os↔∃ k:Nat,z=k∧k < 4096∧isOpen (m k)=true∧left (.int .i64 k)=false
theorem Met.step {m:Nat→Option (Bool×List Int)} {left:Lit→Bool} {os:List Int} (h:Met m left os) {k:Nat} (hk:k < 4096) (hl:left (.int .i64 k)=true) :
  (isOpen (m k)=true→Met m (fun z=>left z && !z.sameKey (.int .i64 k)) (os++[(k:Int)]))∧(isOpen (m k)=false→Met m (fun z=>left z && !z.sameKey (.int .i64 k)) os):=by
 have hs:∀ j:Nat,(Lit.int .i64 (j:Int)).sameKey (.int .i64 (k:Int))=decide (j=k):=fun j=>by
  by_cases e:j=k
  ·subst e;simp [Lit.sameKey]
  have:¬((j:Int)=(k:Int)):=by omega
  simp [Lit.sameKey,e,this]
 have hnot:(k:Int)∉os:=fun hx=>by
  obtain⟨j,e,_,_,h4⟩:=(h.2 _).1 hx;obtain rfl:k=j:=by omega
  rw [hl] at h4;cases h4
 constructor
 ·intro ho;refine⟨List.nodup_append.2 ⟨h.1,by simp,fun a ha b hb=>by simp at hb;subst hb;exact fun e=>hnot (e▸ha)⟩,fun z=>?_⟩;rw [List.mem_append,h.2 z];simp only [List.mem_singleton,hs];constructor
  ·rintro (⟨j,rfl,h1,h2,h3⟩|rfl)
   ·exact⟨j,rfl,h1,h2,by rw [h3];rfl⟩
   exact⟨k,rfl,hk,ho,by simp⟩
  rintro⟨j,rfl,h1,h2,h3⟩
  by_cases e:j=k
  ·right;rw [e]
  left;refine⟨j,rfl,h1,h2,?_⟩;simpa [e] using h3
 intro ho;refine⟨h.1,fun z=>?_⟩;rw [h.2 z];simp only [hs];constructor
 ·rintro⟨j,rfl,h1,h2,h3⟩;exact⟨j,rfl,h1,h2,by rw [h3];rfl⟩
 rintro⟨j,rfl,h1,h2,h3⟩;have e:j≠k:=fun e=>by subst e;rw [ho] at h2;cases h2
 refine⟨j,rfl,h1,h2,?_⟩;simpa [e] using h3
theorem Fr.grownS {S M:Nat} {f:Nat→Option Nat} {w W W':World} (h:Fr S M f f w W) (hg:W.grownBy W' (some S)):Fr S M f f w W' :=
 ⟨hg.os.trans h.os,hg.tape.trans h.tape,hg.output.trans h.output,Nat.le_trans h.size hg.size,fun j h0 h1 h2 h3=>by
  rw [hg.block j (Nat.lt_of_lt_of_le h0 h.size) (by simpa using h1)]
  exact h.block j h0 h1 h2 h3,h.made⟩
end Go.Proofs.YtacccpkmgkojiaaGreatDoorRR
namespace Go.Proofs.YtacccpkmgkojiaaGreatDoorRR
set_option linter.unusedVariables false
set_option linter.unusedSimpArgs false
set_option maxRecDepth 20000
set_option maxHeartbeats 8000000
open Go.ChangeShapes Go.WideShapes Go.ChangeAt Go.RowKit Go.Maps Go.Shelf
theorem sorts:Sorts:=by
 intro v os W base h hle
 rcases h.2 with ⟨rfl,h0⟩|⟨g,cap,cur,rfl,hg,hb,h1,h2,h3,h4⟩
 ·have e0:os=[]:=List.eq_nil_of_length_eq_zero (by simpa using h0);subst e0;refine (Any.slices_Sort_int_none Tryz.lays189 none 0 W).mono ?_;rintro e w' ⟨rfl,rfl⟩;exact⟨rfl,by simpa [Ns] using h,⟨rfl,rfl,rfl,Nat.le_refl _,fun _ _ _=>rfl⟩⟩
 have ht:cur.toList.take os.length=os.map (Value.int .i64):=by simpa [Ns] using h4
 refine (Any.slices_Sort_int Tryz.lays189 g 0 cap os W (holds_of_blockI hb ht) (lt_blk hb) (by omega)).mono ?_;rintro e w' ⟨rfl,n,os',rfl⟩;exact⟨rfl,ownsRow_sortedI (List.length_mergeSort os) hg hb h1 h2 h3,grownBy_sortedI _⟩
end Go.Proofs.YtacccpkmgkojiaaGreatDoorRR
