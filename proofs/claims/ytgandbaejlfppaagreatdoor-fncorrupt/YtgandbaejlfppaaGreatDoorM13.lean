import Derived.Test.YtgandbaejlfppaaGreatDoorM06
namespace Go.Proofs.YtgandbaejlfppaaGreatDoor
set_option linter.unusedVariables false
set_option linter.unusedSimpArgs false
set_option maxRecDepth 20000
set_option maxHeartbeats 8000000
open Go.ChangeShapes Go.WideShapes Go.ChangeAt Go.RowKit
theorem sliced_at (g l len cap:Nat) (hl:l≤len) (hc:len≤cap):∃ dp,(∀ w:World,(Instr.slice 24 (Vl g len cap) (some (Vi (l:Nat))) none none).run Tryz.prog w=.ok (.slice dp (len - l) (cap - l)) w)∧(l < len→dp=some ⟨g,l,none⟩):=by
 have h:=fun w=>run_slice_l (P:=Tryz.prog) w 24 (some ⟨g,0,none⟩) len cap Tryz.underlying24 .i64 (l:Int) (by omega) (by omega)
 have hs:∀ w:World,(sizeOf (Tryz.prog.elem 24)).run Tryz.prog w=.ok 1 w:=fun w=>by kernel_rfl
 refine⟨if cap=l then some ⟨g,0,none⟩ else some ⟨g,l,none⟩,fun w=>?_,fun h=>?_⟩
 ·rw [h w,hs];have e:(⟨g,0,none⟩:Addr).add l=⟨g,l,none⟩:=by cases l <;> simp [Addr.add]
  simp [sliced,Result.andThen,e]
 rw [if_neg (by omega)]
theorem src_at {w:World} {r:Nat} {ps:List Int} (hr:RowV w r 3 (Ns .i64 ps)) (o k:Nat) (hk:o+k≤ps.length):∀ j v,(Ns .i64 ((ps.drop o).take k))[j]?=some v→w.cell? ((⟨r,o,none⟩:Addr).add j)=some v:=by
 intro j v hv;have hj:j < k:=by
  by_cases hj:j < k
  ·exact hj
  rw [List.getElem?_eq_none (by simp [Ns];omega)] at hv;cases hv
 have e:(⟨r,o,none⟩:Addr).add j=⟨r,o+j,none⟩:=by cases j <;> simp [Addr.add]
 rw [e,hr.cell _ (by rw [Ns_len];omega)];rw [←hv];simp [Ns,hj]
theorem splice2 {α:Type} (Z A B:List α) (m:Nat) (hA:A.length=m) (hZ:Z.length=m+B.length):splice (splice Z 0 A) m B=A++B:=by
 subst hA;have e1:splice Z 0 A=A++Z.drop A.length:=by simp [splice]
 rw [e1];unfold splice;rw [List.take_append_of_le_length (Nat.le_refl _),List.take_length,List.drop_of_length_le (by simp;omega)];simp
theorem row_list (ps:List Int) (n o h m:Nat) (hn:ps.length=n) (ho:o≤n) (hh:h≤n) (hm:m≤n - o∧m≤h∧(m=n - o∨m=h)):(ps.drop o).take m++(ps.drop 0).take (h - m)=(ps.drop o++ps.take o).take h:=by
 rw [List.take_append,List.drop_zero];have hl:(ps.drop o).length=n - o:=by simp;omega
 rw [hl]
 rcases hm with ⟨a,b,c|c⟩
 ·subst c;rw [List.take_of_length_le (by omega),List.take_of_length_le (l:=ps.drop o) (by omega),List.take_take,Nat.min_eq_left (by omega)]
 subst c;rw [Nat.sub_self,show m - (n - o)=0 by omega];simp
theorem row_in (G r n o h m g:Nat) (ps:List Int) (w:World) (hgw:g=w.heap.size) (hm:m=Nat.min (n - o) h) (c0:w.cell? ⟨G,0,none⟩=some (Vl r n n)) (c1:w.cell? ⟨G,1,none⟩=some (Vi (o:Nat))) (c2:w.cell? ⟨G,2,none⟩=some (Vi (h:Nat)))
  (hr:RowV w r 3 (Ns .i64 ps)) (hn:ps.length=n) (ho:o≤n) (hh:h≤n) (hnl:n≤1024) :
  Calls Tryz.prog 83 #[Vp G 0] w fun e w'=>e=.returned (Vl g h h)∧RowV w' g 3 (Ns .i64 ((ps.drop o++ps.take o).take h))∧Below w.heap.size w w':=by
 have hmn:m≤n - o∧m≤h∧(m=n - o∨m=h):=by
  rw [hm];refine⟨Nat.min_le_left _ _,Nat.min_le_right _ _,?_⟩;show min (n - o) h=_∨min (n - o) h=_;omega
 obtain⟨dp,hs1,hdp⟩:=sliced_at r o n n ho (Nat.le_refl _);obtain⟨dq,hs2,hdq⟩:=sliced_at g m h h hmn.2.1 (Nat.le_refl _);have hmk:=fun W=>mk23 h (by omega) W
 have gb:Below w.heap.size w (w.alloc (.cells (madeCells #[Vi 0] h) 3)).drew:=((Below.refl _ w).alloc (Nat.le_refl _) _).drew;have gl:(w.alloc (.cells (madeCells #[Vi 0] h) 3)).drew.heap[g]?=some (.cells (Ns .i64 (List.replicate h 0)).toArray 3 (0,0)):=by
  rw [←made_n,hgw];exact al_lastW _ _
 have CA0:(w.alloc (.cells (madeCells #[Vi 0] h) 3)).drew.cell? ⟨G,0,none⟩=some (Vl r n n)∧(w.alloc (.cells (madeCells #[Vi 0] h) 3)).drew.cell? ⟨G,1,none⟩=some (Vi (o:Nat)):=⟨below_cell gb c0,below_cell gb c1⟩;have hr0:=hr.below gb hr.lt;have rl:=hr.lt;obtain⟨w1,hcp,hg1,hgr⟩:=copy_run (w.alloc (.cells (madeCells #[Vi 0] h) 3)).drew (some ⟨g,0,none⟩) dp h h (n - o) (n - o) g 0 (Ns .i64 (List.replicate h 0)) gl (Ns .i64 ((ps.drop o).take m)) (by rw [Ns_len];simp;rw [←hm];omega) (fun h0=>⟨rfl,_,hdp (by rw [Ns_len] at h0;simp at h0;omega),src_at hr0 o m (by omega)⟩) (by rw [Ns_len,Ns_len];simp;omega) (Ns_one _ _);rw [show (Ns .i64 ((ps.drop o).take m)).length=m by rw [Ns_len];simp;omega] at hcp;have gb1:=below_grown gb hgr (by omega);have CA1:w1.drew.cell? ⟨G,0,none⟩=some (Vl r n n)∧w1.drew.cell? ⟨G,1,none⟩=some (Vi (o:Nat)):=⟨below_cell gb1.drew c0,below_cell gb1.drew c1⟩;have CA1':w1.cell? ⟨G,0,none⟩=some (Vl r n n)∧w1.cell? ⟨G,1,none⟩=some (Vi (o:Nat)):=CA1;have hr1:=hr.below gb1.drew hr.lt;obtain⟨w2,hcq,hg2,hgr2⟩:=copy_run w1.drew dq (some ⟨r,0,none⟩) (h - m) (h - m) n n g m _ hg1 (Ns .i64 ((ps.drop 0).take (h - m))) (by rw [Ns_len];simp;show min _ _=min _ _;omega) (fun h0=>⟨hdq (by rw [Ns_len] at h0;simp at h0;omega),_,rfl,src_at hr1 0 (h - m) (by omega)⟩) (by rw [length_splice _ _ _ (by rw [Ns_len,Ns_len];simp;omega),Ns_len,Ns_len];simp;omega) (Ns_one _ _);have gb2:=below_grown gb1.drew hgr2 (by omega);have CA2:w2.cell? ⟨G,0,none⟩=some (Vl r n n)∧w2.cell? ⟨G,1,none⟩=some (Vi (o:Nat)):=⟨below_cell gb2 c0,below_cell gb2 c1⟩;have HL:splice (splice (Ns .i64 (List.replicate h 0)) 0 (Ns .i64 ((ps.drop o).take m))) m (Ns .i64 ((ps.drop 0).take (h - m)))=Ns .i64 ((ps.drop o++ps.take o).take h):=by
  rw [splice2 _ _ _ m (by rw [Ns_len];simp;omega) (by rw [Ns_len,Ns_len];simp;omega),←row_list ps n o h m hn ho hh hmn];simp [Ns]
 rw [HL] at hg2;have HR:=hid (rowOf hg2);have HB:=hid gb2;have HW:=hid hgw;clear hgw hm;clear hr0 hr1 hg1 hg2 hgr hgr2 gb gb1 gb2 gl HL hr;go_enter Tryz.func83,Tryz.ntmps83;go_wp2;rw [←HW.out];generalize w.alloc (.cells (madeCells #[Vi 0] h) 3)=W0 at *;refine wp_region_held (S:=fun W=>W.cell? ⟨G,0,none⟩=some (Vl r n n)∧W.cell? ⟨G,1,none⟩=some (Vi (o:Nat))) (by kernel_rfl) ?_;simp only [List.size_toArray,List.length_cons,List.length_nil,Nat.reduceAdd,Array.replicate_succ,Array.replicate_zero,List.push_toArray,List.nil_append,List.cons_append];have hS:=CA0
 iterate 10 (refine py hS ?_;simp only [f0,f1,Nat.reduceAdd,lz,l0,ls])
 refine wpAnyH_oneW (r:=10) (by kernel_rfl) ?_;refine wpOp_doW rfl (by kernel_rfl) (fun K' hK=>?_);go_simp;refine hK.out _ _ ⟨CA1',?_⟩;clear hS;have hS:=CA1';clear hK K';refine pk 11 4 (Vi (m:Nat)) hS ?_;simp only [lz,l0,ls];refine wpAnyH_done (by kernel_rfl) ?_ _;go_wp2;refine wp_region_held (S:=fun W=>W.cell? ⟨G,0,none⟩=some (Vl r n n)∧W.cell? ⟨G,1,none⟩=some (Vi (o:Nat))) (by kernel_rfl) ?_;simp only [List.size_toArray,List.length_cons,List.length_nil,Nat.reduceAdd,Array.replicate_succ,Array.replicate_zero,List.push_toArray,List.nil_append,List.cons_append];have hS:=CA1
 iterate 7 (refine py hS ?_;simp only [f0,f1,Nat.reduceAdd,lz,l0,ls])
 refine wpAnyH_oneW (r:=7) (by kernel_rfl) ?_;refine wpOp_doW rfl (by kernel_rfl) (fun K' hK=>?_);go_simp;refine hK.out _ _ ⟨CA2,?_⟩;clear hK K';refine wpAnyH_done (by kernel_rfl) ?_ _;go_wp2;go_ret;exact⟨rfl,HR.out,HB.out⟩
end Go.Proofs.YtgandbaejlfppaaGreatDoor
namespace Go.Proofs.YtgandbaejlfppaaGreatDoor
set_option linter.unusedVariables false
set_option linter.unusedSimpArgs false
set_option maxRecDepth 20000
set_option maxHeartbeats 8000000
open Go.ChangeShapes Go.WideShapes Go.ChangeAt Go.RowKit
theorem rowM (M rm G rq n:Nat) (mix fifo:List Int) (W:World) (h:Qr W M rm G rq n mix fifo) (hml:mix.length≤1024) :
  Calls Tryz.prog 83 #[Vp M 0] W fun e w'=>e=.returned (Vl W.heap.size mix.length mix.length)∧RowV w' W.heap.size 3 (Ns .i64 mix)∧Below W.heap.size W w':=by
 have hb:=h.mx.1;have hr:=h.mx.2;have:=row_in M rm mix.length 0 mix.length _ W.heap.size mix W rfl rfl (by rw [cell_of_row _ _ _ _ _ _ hb];rfl) (by rw [cell_of_row _ _ _ _ _ _ hb];rfl) (by rw [cell_of_row _ _ _ _ _ _ hb];rfl) hr rfl (Nat.zero_le _) (Nat.le_refl _) hml
 rwa [List.drop_zero,List.take_zero,List.append_nil,List.take_length] at this
theorem rowQ (M rm G rq n:Nat) (mix fifo:List Int) (W:World) (h:Qr W M rm G rq n mix fifo) (hnl:n≤1024) :
  Calls Tryz.prog 83 #[Vp G 0] W fun e w'=>e=.returned (Vl W.heap.size fifo.length fifo.length)∧RowV w' W.heap.size 3 (Ns .i64 fifo)∧Below W.heap.size W w':=by
 obtain⟨ps,o,k,hb,hr,hn,ho,hk,h0,e⟩:=h.qu;have:=row_in G rq n o k _ W.heap.size ps W rfl rfl (by rw [cell_of_row _ _ _ _ _ _ hb];rfl) (by rw [cell_of_row _ _ _ _ _ _ hb];rfl) (by rw [cell_of_row _ _ _ _ _ _ hb];rfl) hr hn (by omega) hk hnl;rw [←e] at this;have el:fifo.length=k:=by rw [e];simp;omega
 rw [el];exact this
theorem cells_off (W:World) (g:Nat) (a b c:Value) (x:Addr) (h:x.block≠g):(((W.setCell ⟨g,0,none⟩ a).setCell ⟨g,1,none⟩ b).setCell ⟨g,2,none⟩ c).cell? x=W.cell? x:=by
 unfold World.cell?;rw [heap_setCell_other _ _ _ _ (by simpa using h),heap_setCell_other _ _ _ _ (by simpa using h),heap_setCell_other _ _ _ _ (by simpa using h)]
theorem told_any (M rm G rq n s:Nat) (t:TypeId) (a:Addr) (mix fifo:List Int) (w:World) (hs:s=w.heap.size) (h:Qr w M rm G rq n mix fifo) (hml:mix.length≤1024) (hnl:n≤1024) :
    Calls Tryz.prog 44 #[.agg #[.pointer (some ⟨M,0,none⟩),.pointer (some ⟨G,0,none⟩),.iface t (.pointer (some a))]] w fun e w'=>∃ g1 g2,e=.returned (wv (some ⟨g1,0,none⟩) mix.length mix.length (some ⟨g2,0,none⟩) fifo.length fifo.length (n:Nat))∧RowV w' g1 3 (Ns .i64 mix)∧RowV w' g2 3 (Ns .i64 fifo)∧w.heap.size≤g1∧g1 < g2∧Below w.heap.size w w':=by
  have T2:=al_two w (.cells #[.pointer (some ⟨M,0,none⟩),.pointer (some ⟨G,0,none⟩),.iface t (.pointer (some a))] 69) (.cells #[.slice none 0 0,.slice none 0 0,.int .i64 0] 88)
  obtain⟨ps,o,k,hb,hx⟩:=h.qu
  clear hx
  have RM:=hid (fun W (hW:Qr W M rm G rq n mix fifo)=>rowM M rm G rq n mix fifo W hW hml)
  have RQ:=hid (fun W (hW:Qr W M rm G rq n mix fifo)=>rowQ M rm G rq n mix fifo W hW hnl)
  have hGl:=lt_blkW hb
  have hGs:G≠s+1:=by omega
  have hGn:G≠s:=by omega
  have cG:=below_cell T2.2.2 (show w.cell? ⟨G,0,none⟩=some (.slice (some ⟨rq,0,none⟩) n n) by rw [cell_of_row _ _ _ _ _ _ hb];rfl)
  have hq:=h.but (But.ofBelow (S:=fun _=>False) T2.2.2) id id id id
  have HS0:=hid (show w.heap.size+2≤((w.alloc (.cells #[.pointer (some ⟨M,0,none⟩),.pointer (some ⟨G,0,none⟩),.iface t (.pointer (some a))] 69)).alloc (.cells #[.slice none 0 0,.slice none 0 0,.int .i64 0] 88)).heap.size by rw [al_sizeW,al_sizeW];omega)
  clear h hb
  go_enter Tryz.func44,Tryz.ntmps44
  go_wp2
  rw [←hs]
  have HBx:=T2.2.2
  rw [←hs] at T2
  generalize (w.alloc (.cells #[.pointer (some ⟨M,0,none⟩),.pointer (some ⟨G,0,none⟩),.iface t (.pointer (some a))] 69)).alloc (.cells #[.slice none 0 0,.slice none 0 0,.int .i64 0] 88)=W0 at *
  have CA0:W0.drew.cell? ⟨s,0,none⟩=some (.pointer (some ⟨M,0,none⟩))∧W0.drew.cell? ⟨s,1,none⟩=some (.pointer (some ⟨G,0,none⟩))∧W0.drew.cell? ⟨G,0,none⟩=some (.slice (some ⟨rq,0,none⟩) n n):=⟨(cell_of_row W0 _ _ _ _ _ T2.1).trans rfl,(cell_of_row W0 _ _ _ _ _ T2.1).trans rfl,cG⟩
  have HQ:Hid (Qr W0.drew M rm G rq n mix fifo):=hq.but (S:=fun _=>False) (But.refl _ _).drew id id id id
  have HZ:Hid (W0.drew.heap[s+1]?=some (.cells #[.slice none 0 0,.slice none 0 0,.int .i64 0] 88 (0,0))):=T2.2.1
  have HB:=hid HBx.drew
  clear HBx
  have HW:=hid hs
  clear T2 hs hq cG
  refine wp_region_held (S:=fun W=>W.cell? ⟨s,0,none⟩=some (.pointer (some ⟨M,0,none⟩))∧W.cell? ⟨s,1,none⟩=some (.pointer (some ⟨G,0,none⟩))∧W.cell? ⟨G,0,none⟩=some (.slice (some ⟨rq,0,none⟩) n n)) (by kernel_rfl) ?_
  simp only [List.size_toArray,List.length_cons,List.length_nil,Nat.reduceAdd,Array.replicate_succ,Array.replicate_zero,List.push_toArray,List.nil_append,List.cons_append]
  have hS:=CA0
  refine wpAnyH_putW (i:=0) (d:=3) (v:=.pointer (some ⟨s,0,none⟩)) rfl (by kernel_rfl) (by kernel_rfl) (by kernel_rfl) (by kernel_rfl) (fun _ _ _ h=>h) (Or.inl ⟨by kernel_rfl,fun _ _=>by kernel_rfl⟩) hS ?_
  simp only [List.setIfInBounds_toArray,List.set_cons_zero,List.set_cons_succ]
  refine wpAnyH_putW (i:=1) (d:=4) (v:=.pointer (some ⟨M,0,none⟩)) rfl (by kernel_rfl) (by kernel_rfl) (by kernel_rfl) (by kernel_rfl) (fun _ _ _ h=>h) (Or.inl ⟨by kernel_rfl,fun W hS=>by obtain ⟨h1,h2,h3⟩:=hS;go_simp⟩) hS ?_
  simp only [List.setIfInBounds_toArray,List.set_cons_zero,List.set_cons_succ]
  refine wpAnyH_putW (i:=2) (d:=5) (v:=.pointer (some ⟨M,0,none⟩)) rfl (by kernel_rfl) (by kernel_rfl) (by kernel_rfl) (by kernel_rfl) (fun _ _ _ h=>h) (Or.inl ⟨by kernel_rfl,fun _ _=>by kernel_rfl⟩) hS ?_
  simp only [List.setIfInBounds_toArray,List.set_cons_zero,List.set_cons_succ]
  refine wpAnyH_putW (i:=3) (d:=6) (v:=.pointer (some ⟨M,0,none⟩)) rfl (by kernel_rfl) (by kernel_rfl) (by kernel_rfl) (by kernel_rfl) (fun _ _ _ h=>h) (Or.inl ⟨by kernel_rfl,fun _ _=>by kernel_rfl⟩) hS ?_
  simp only [List.setIfInBounds_toArray,List.set_cons_zero,List.set_cons_succ]
  refine wpAnyH_putW (i:=5) (d:=8) (v:=.pointer (some ⟨s,1,none⟩)) rfl (by kernel_rfl) (by kernel_rfl) (by kernel_rfl) (by kernel_rfl) (fun _ _ _ h=>h) (Or.inl ⟨by kernel_rfl,fun _ _=>by kernel_rfl⟩) hS ?_
  simp only [List.setIfInBounds_toArray,List.set_cons_zero,List.set_cons_succ]
  refine wpAnyH_putW (i:=6) (d:=9) (v:=.pointer (some ⟨G,0,none⟩)) rfl (by kernel_rfl) (by kernel_rfl) (by kernel_rfl) (by kernel_rfl) (fun _ _ _ h=>h) (Or.inl ⟨by kernel_rfl,fun W hS=>by obtain ⟨h1,h2,h3⟩:=hS;go_simp⟩) hS ?_
  simp only [List.setIfInBounds_toArray,List.set_cons_zero,List.set_cons_succ]
  refine wpAnyH_putW (i:=7) (d:=10) (v:=.pointer (some ⟨G,0,none⟩)) rfl (by kernel_rfl) (by kernel_rfl) (by kernel_rfl) (by kernel_rfl) (fun _ _ _ h=>h) (Or.inl ⟨by kernel_rfl,fun _ _=>by kernel_rfl⟩) hS ?_
  simp only [List.setIfInBounds_toArray,List.set_cons_zero,List.set_cons_succ]
  refine wpAnyH_putW (i:=8) (d:=11) (v:=.pointer (some ⟨G,0,none⟩)) rfl (by kernel_rfl) (by kernel_rfl) (by kernel_rfl) (by kernel_rfl) (fun _ _ _ h=>h) (Or.inl ⟨by kernel_rfl,fun _ _=>by kernel_rfl⟩) hS ?_
  simp only [List.setIfInBounds_toArray,List.set_cons_zero,List.set_cons_succ]
  refine wpAnyH_putW (i:=10) (d:=13) (v:=.pointer (some ⟨s,1,none⟩)) rfl (by kernel_rfl) (by kernel_rfl) (by kernel_rfl) (by kernel_rfl) (fun _ _ _ h=>h) (Or.inl ⟨by kernel_rfl,fun _ _=>by kernel_rfl⟩) hS ?_
  simp only [List.setIfInBounds_toArray,List.set_cons_zero,List.set_cons_succ]
  refine wpAnyH_putW (i:=11) (d:=14) (v:=.pointer (some ⟨G,0,none⟩)) rfl (by kernel_rfl) (by kernel_rfl) (by kernel_rfl) (by kernel_rfl) (fun _ _ _ h=>h) (Or.inl ⟨by kernel_rfl,fun W hS=>by obtain ⟨h1,h2,h3⟩:=hS;go_simp⟩) hS ?_
  simp only [List.setIfInBounds_toArray,List.set_cons_zero,List.set_cons_succ]
  refine wpAnyH_putW (i:=12) (d:=15) (v:=.pointer (some ⟨G,0,none⟩)) rfl (by kernel_rfl) (by kernel_rfl) (by kernel_rfl) (by kernel_rfl) (fun _ _ _ h=>h) (Or.inl ⟨by kernel_rfl,fun _ _=>by kernel_rfl⟩) hS ?_
  simp only [List.setIfInBounds_toArray,List.set_cons_zero,List.set_cons_succ]
  refine wpAnyH_putW (i:=13) (d:=16) (v:=.pointer (some ⟨G,0,none⟩)) rfl (by kernel_rfl) (by kernel_rfl) (by kernel_rfl) (by kernel_rfl) (fun _ _ _ h=>h) (Or.inl ⟨by kernel_rfl,fun _ _=>by kernel_rfl⟩) hS ?_
  simp only [List.setIfInBounds_toArray,List.set_cons_zero,List.set_cons_succ]
  refine wpAnyH_putW (i:=14) (d:=17) (v:=.pointer (some ⟨G,0,none⟩)) rfl (by kernel_rfl) (by kernel_rfl) (by kernel_rfl) (by kernel_rfl) (fun _ _ _ h=>h) (Or.inl ⟨by kernel_rfl,fun _ _=>by kernel_rfl⟩) hS ?_
  simp only [List.setIfInBounds_toArray,List.set_cons_zero,List.set_cons_succ]
  refine wpAnyH_putW (i:=15) (d:=18) (v:=.slice (some ⟨rq,0,none⟩) n n) rfl (by kernel_rfl) (by kernel_rfl) (by kernel_rfl) (by kernel_rfl) (fun _ _ _ h=>h) (Or.inl ⟨by kernel_rfl,fun W hS=>by obtain ⟨h1,h2,h3⟩:=hS;go_simp⟩) hS ?_
  simp only [List.setIfInBounds_toArray,List.set_cons_zero,List.set_cons_succ]
  refine wpAnyH_putW (i:=16) (d:=19) (v:=.int .i64 (n:Nat)) rfl (by kernel_rfl) (by kernel_rfl) (by kernel_rfl) (by kernel_rfl) (fun _ _ _ h=>h) (Or.inl ⟨by kernel_rfl,fun W _=>by first|(go_simp;done)|(go_simp;omega)⟩) hS ?_
  simp only [List.setIfInBounds_toArray,List.set_cons_zero,List.set_cons_succ]
  refine wpAnyH_oneW (r:=4) (by kernel_rfl) ?_
  refine wpOp_doW rfl (by kernel_rfl) (fun K' hK=>?_)
  go_simp
  refine (RM.out _ HQ.out).mono ?_
  rintro e w1 ⟨rfl,r1,b1⟩
  have B1:=hid (bl_trans HB.out b1)
  have Q1:=hid (HQ.out.but (But.ofBelow (S:=fun _=>False) b1) id id id id)
  have Z1:=hid (below_at HZ.out b1)
  have R1:=hid r1
  have hS1:=(show _∧_∧_ from ⟨below_cell b1 hS.1,below_cell b1 hS.2.1,below_cell b1 hS.2.2⟩)
  refine hK.out _ _ ⟨hS1,?_⟩
  clear hS r1 b1
  have hS:=hS1
  clear hS1
  clear hK K'
  refine wpAnyH_oneW (r:=9) (by kernel_rfl) ?_
  refine wpOp_doW rfl (by kernel_rfl) (fun K' hK=>?_)
  go_simp
  refine (RQ.out _ Q1.out).mono ?_
  rintro e w2 ⟨rfl,r2,b2⟩
  have B2:=hid (bl_trans B1.out b2)
  have Z2:=hid (below_at Z1.out b2)
  have R2:=hid r2
  have X1:=hid (R1.out.below b2 R1.out.lt)
  have hS1:=(show _∧_∧_ from ⟨below_cell b2 hS.1,below_cell b2 hS.2.1,below_cell b2 hS.2.2⟩)
  refine hK.out _ _ ⟨hS1,?_⟩
  have L1:=hid (R1.out.lt)
  clear hS r2 b2
  have hS:=hS1
  clear hS1
  clear hK K'
  refine wpAnyH_putW (i:=17) (d:=20) (v:=.agg #[.slice (some ⟨W0.drew.heap.size,0,none⟩) mix.length mix.length,.slice (some ⟨w1.heap.size,0,none⟩) fifo.length fifo.length,.int .i64 (n:Nat)]) rfl (by kernel_rfl) (by kernel_rfl) (by kernel_rfl) (by kernel_rfl) (fun _ _ _ h=>h) (Or.inl ⟨by kernel_rfl,fun _ _=>by kernel_rfl⟩) hS ?_
  simp only [List.setIfInBounds_toArray,List.set_cons_zero,List.set_cons_succ]
  have d0:w2.cell? ⟨s+1,0,none⟩=some (.slice none 0 0):=by rw [cell_of_row _ _ _ _ _ _ Z2.out];rfl
  have d1:w2.cell? ⟨s+1,1,none⟩=some (.slice none 0 0):=by rw [cell_of_row _ _ _ _ _ _ Z2.out];rfl
  have d2:w2.cell? ⟨s+1,2,none⟩=some (.int .i64 0):=by rw [cell_of_row _ _ _ _ _ _ Z2.out];rfl
  have f0:w2.frozen? ⟨s+1,0,none⟩=false:=frozen_of_row _ _ _ _ _ Z2.out
  have f1:w2.frozen? ⟨s+1,1,none⟩=false:=frozen_of_row _ _ _ _ _ Z2.out
  have f2:w2.frozen? ⟨s+1,2,none⟩=false:=frozen_of_row _ _ _ _ _ Z2.out
  refine wpAnyH_oneW (r:=18) (by kernel_rfl) ?_
  refine wpOp_doW rfl (by kernel_rfl) (fun K' hK=>?_)
  go_simp
  refine hK.out _ _ ⟨⟨?_,?_,?_⟩,?_⟩
  · have:=hS.1;rw [cells_off _ _ _ _ _ _ (by dsimp only;omega)];exact this
  · have:=hS.2.1;rw [cells_off _ _ _ _ _ _ (by dsimp only;omega)];exact this
  · have:=hS.2.2;rw [cells_off _ _ _ _ _ _ (by dsimp only;exact hGs)];exact this
  refine wpAnyH_done (by kernel_rfl) ?_ _
  go_wp2
  refine bodyPost_ret (results_cell_row (by rfl) _ _ (s+1) 88 _ (0,0) _ (by rfl) (set3 Z2.out _ _ _) Tryz.underlying88 rfl (by kernel_rfl)) (by rfl) ?_
  have hlt:=HB.out.size
  have hw1:=R1.out.lt
  have h0:s+1≠W0.drew.heap.size:=by have:=HS0.out;have:=HW.out;show s+1≠W0.heap.size;omega
  have h1:s+1≠w1.heap.size:=by have:=HS0.out;have:=HW.out;have e:W0.drew.heap.size=W0.heap.size:=rfl;omega
  refine⟨W0.drew.heap.size,w1.heap.size,rfl,?_,?_,hlt,hw1,?_⟩
  · exact ((X1.out.other (Ne.symm h0) _).other (Ne.symm h0) _).other (Ne.symm h0) _
  · exact ((R2.out.other (Ne.symm h1) _).other (Ne.symm h1) _).other (Ne.symm h1) _
  · have:=HW.out
    exact ((B2.out.setCell (by dsimp only;omega) _).setCell (by dsimp only;omega) _).setCell (by dsimp only;omega) _
end Go.Proofs.YtgandbaejlfppaaGreatDoor
namespace Go.Proofs.YtgandbaejlfppaaGreatDoor
set_option linter.unusedVariables false
set_option linter.unusedSimpArgs false
set_option maxRecDepth 20000
set_option maxHeartbeats 8000000
open Go.ChangeShapes Go.WideShapes Go.ChangeAt Go.RowKit
theorem mul64 (x y:Nat) (hx:x < 18446744073709551616) (hy:y < 18446744073709551616) (w:World) :
  Calls Tryz.prog 105 #[Vu x,Vu y] w fun e w'=>e=.returned (.tuple #[Vu ((x*y/18446744073709551616:Nat):Int),Vu ((x*y % 18446744073709551616:Nat):Int)])∧w'=w:=by
 obtain⟨bd,bt,bw,hhi⟩:=Lib.mul64_hi x y hx hy;have ba:=Lib.half_mul_le (a:=x/4294967296) (b:=y/4294967296) (by omega) (by omega);have bb:=Lib.half_mul_le (a:=x/4294967296) (b:=y % 4294967296) (by omega) (by omega);have bc:=Lib.half_mul_le (a:=x % 4294967296) (b:=y/4294967296) (by omega) (by omega);have ba':x/4294967296*(y/4294967296) < 18446744073709551616:=by omega
 have bb':x/4294967296*(y % 4294967296) < 18446744073709551616:=by omega
 have bc':x % 4294967296*(y/4294967296) < 18446744073709551616:=by omega
 have bh1:x/4294967296*(y/4294967296)+(x/4294967296*(y % 4294967296)+x % 4294967296*(y % 4294967296)/4294967296)/4294967296 < 18446744073709551616:=by omega
 have bh:x/4294967296*(y/4294967296)+(x/4294967296*(y % 4294967296)+x % 4294967296*(y % 4294967296)/4294967296)/4294967296+((x/4294967296*(y % 4294967296)+x % 4294967296*(y % 4294967296)/4294967296) % 4294967296+x % 4294967296*(y/4294967296))/4294967296 < 18446744073709551616:=by omega
 go_enter Tryz.func105,Tryz.ntmps105;go_wp2;simp only [Mul64.maskN x hx,Mul64.maskN y hy,Mul64.divN,Mul64.mulN,Mul64.addN,Mul64.wrapN _ bd,Mul64.wrapN _ bb',Mul64.wrapN _ bt,Mul64.maskN _ bt,Mul64.wrapN _ bc',Mul64.wrapN _ bw,Mul64.wrapN _ ba',Mul64.wrapN _ bh1,Mul64.wrapN _ bh,Mul64.wrapM (x*y)];rw [hhi]
 go_ret2
 exact⟨rfl,rfl⟩
theorem mul_in (m:Nat) (hm:m≤16) (w:World) :
  Calls Tryz.prog 91 #[Vu 1,Vu m] w fun e w'=>e=.returned (.tuple #[Vu 0,Vu m])∧w'=w:=by
 have H:=hid (mul64 1 m (by omega) (by omega) w);rw [Nat.one_mul,Nat.div_eq_of_lt (by omega),Nat.mod_eq_of_lt (by omega)] at H;go_enter Tryz.func91,Tryz.ntmps91;go_wp2_with fail;refine (H.out).mono ?_;rintro e w' ⟨rfl,rfl⟩;go_wp2
 go_ret2
 exact⟨rfl,rfl⟩
theorem sliced_to (g l len cap:Nat) (hl:l≤cap):∀ w:World,(Instr.slice 24 (Vl g len cap) none (some (Vi (l:Nat))) none).run Tryz.prog w=.ok (Vl g l cap) w:=by
 intro w;have h:=run_slice_h (P:=Tryz.prog) w 24 (some ⟨g,0,none⟩) len cap Tryz.underlying24 .i64 (l:Int) (by omega) (by omega);have hs:∀ w:World,(sizeOf (Tryz.prog.elem 24)).run Tryz.prog w=.ok 1 w:=fun w=>by kernel_rfl
 rw [h,hs];simp [sliced,Result.andThen,Addr.add]
theorem rep_splice (m k cnt:Nat) (ys:List Int) (hl:ys.length=m) (hk:k+cnt≤m) (hy:ys.take k=List.replicate k (-1)):∃ zs:List Int,splice (Ns .i64 ys) k (Ns .i64 (List.replicate cnt (-1)))=Ns .i64 zs∧zs.length=m∧zs.take (k+cnt)=List.replicate (k+cnt) (-1):=by
 refine⟨ys.take k++(List.replicate cnt (-1)++ys.drop (k+cnt)),?_,?_,?_⟩
 ·simp [splice,Ns]
 ·simp;omega
 rw [hy,←List.append_assoc,List.replicate_append_replicate,List.take_append_of_le_length (by simp),List.take_of_length_le (by simp)]
theorem repeat_in (q m:Nat) (w:World) (hm:m≤16) (hr:RowV w q 3 (Ns .i64 [-1])) :
  Calls Tryz.prog 61 #[Vl q 1 1,Vi m] w fun e w'=>∃ g,e=.returned (Vl g m m)∧RowV w' g 3 (Ns .i64 (List.replicate m (-1)))∧w.heap.size≤g∧Below w.heap.size w w':=by
 have MU:=hid (mul_in m hm w);have hmk:=fun W=>mk23 m (by omega) W
 obtain⟨g,hg⟩:∃ g,g=w.heap.size:=⟨_,rfl⟩;have gb:Below w.heap.size w (w.alloc (.cells (madeCells #[Vi 0] m) 3)):=(Below.refl _ w).alloc (Nat.le_refl _) _;have gl:(w.alloc (.cells (madeCells #[Vi 0] m) 3)).heap[g]?=some (.cells (Ns .i64 (List.replicate m 0)).toArray 3 (0,0)):=by rw [←made_n,hg];exact al_lastW _ _
 obtain⟨c,hc⟩:∃ c,c=Nat.min 1 m:=⟨_,rfl⟩;have hc':c=min 1 m:=hc;obtain⟨w1,hcp,hg1,hgr⟩:=copy_run (w.alloc (.cells (madeCells #[Vi 0] m) 3)) (some ⟨g,0,none⟩) (some ⟨q,0,none⟩) m m 1 1 g 0 (Ns .i64 (List.replicate m 0)) gl (Ns .i64 (List.replicate c (-1))) (by rw [Ns_len,List.length_replicate];exact hc) (fun h0=>⟨rfl,_,rfl,fun j v hv=>by
  have e1:c=1:=by rw [Ns_len,List.length_replicate] at h0;omega
  rw [e1] at hv;have:=src_at (hr.below gb hr.lt) 0 1 (by simp) j v (by simpa using hv);exact this⟩) (by rw [Ns_len,Ns_len];simp;omega) (Ns_one _ _)
 rw [show (Ns .i64 (List.replicate c (-1))).length=c by rw [Ns_len,List.length_replicate]] at hcp;obtain⟨zs,hz1,hz2,hz3⟩:=rep_splice m 0 c (List.replicate m 0) (by simp) (by omega) (by simp);rw [hz1] at hg1;rw [Nat.zero_add] at hz3;have HI:=hid (show Below w.heap.size w w1∧w1.heap[g]?=some (.cells (Ns .i64 zs).toArray 3 (0,0))∧zs.length=m∧zs.take c=List.replicate c (-1) from ⟨below_grown gb hgr (by omega),hg1,hz2,hz3⟩);have HG:=hid hg;have t1:¬((m:Int) < 0):=by omega
 have t2:¬((9223372036854775807:Int) < (m:Int)):=by omega
 have HC:=hid hc';clear gb gl hgr hg1 hz1 hz2 hz3 hr hc hc';go_enter Tryz.func61,Tryz.ntmps61;go_wp2_with fail;refine (MU.out).mono ?_;rintro e w' ⟨rfl,rfl⟩;rw [hg] at hcp;clear hg;go_wp2;rw [←HG.out];go_loopw [8] (fun i wr=>∃ (k:Nat) (ys:List Int),k≤m∧(0 < m→0 < k)∧i=Vi k∧Hid (Below w'.heap.size w' wr∧wr.heap[g]?=some (.cells (Ns .i64 ys).toArray 3 (0,0))∧ys.length=m∧ys.take k=List.replicate k (-1))) (fun i _=>m - (intOf i).toNat)
 case atStart=>exact ⟨c,zs,by have:=HC.out;omega,by have:=HC.out;omega,rfl,HI⟩
 case round =>
  obtain⟨k,ys,hk,hp,rfl,hh⟩:=hrel
  by_cases hlt:k < m
  ·obtain⟨cnt,hcnt⟩:∃ cnt,cnt=Nat.min k (m - k):=⟨_,rfl⟩;have hcnt':cnt=min k (m - k):=hcnt;obtain⟨dp,hs1,hdp⟩:=sliced_at g k m m (by omega) (Nat.le_refl _);have hdp':=hdp hlt;subst hdp';have hs2:=sliced_to g k m m (by omega);obtain⟨w2,hcq,hg2,hgr2⟩:=copy_run wr.drew (some ⟨g,k,none⟩) (some ⟨g,0,none⟩) (m - k) (m - k) k m g k (Ns .i64 ys) hh.out.2.1 (Ns .i64 (List.replicate cnt (-1))) (by rw [Ns_len,List.length_replicate];exact hcnt) (fun h0=>⟨rfl,_,rfl,fun j v hv=>by
    have hrow:RowV wr.drew g 3 (Ns .i64 ys):=rowOf hh.out.2.1;refine src_at hrow 0 cnt (by rw [hh.out.2.2.1];omega) j v ?_;rw [List.drop_zero];have:ys.take cnt=List.replicate cnt (-1):=by
     have e:=congrArg (List.take cnt) hh.out.2.2.2;rw [List.take_take,List.take_replicate,Nat.min_eq_left (by omega)] at e;exact e
    rw [this];exact hv⟩) (by rw [Ns_len,Ns_len,List.length_replicate,hh.out.2.2.1];omega) (Ns_one _ _)
   rw [show (Ns .i64 (List.replicate cnt (-1))).length=cnt by rw [Ns_len,List.length_replicate]] at hcq;obtain⟨zs2,hz1,hz2,hz3⟩:=rep_splice m k cnt ys hh.out.2.2.1 (by omega) hh.out.2.2.2;rw [hz1] at hg2;have HN:=hid (show Below w'.heap.size w' w2∧w2.heap[g]?=some (.cells (Ns .i64 zs2).toArray 3 (0,0))∧zs2.length=m∧zs2.take (k+cnt)=List.replicate (k+cnt) (-1) from ⟨below_grown hh.out.1.drew hgr2 (by have:=HG.out;omega),hg2,hz2,hz3⟩);have hcn:0 < cnt∧k+cnt≤m:=by have:=hp (by omega);omega
   have hw:IntKind.i64.wrap ((k:Int)+(cnt:Int))=(k:Int)+(cnt:Int):=by rw [IntKind.wrap_i64];omega
   clear hh hgr2 hg2 hz1 hz2 hz3 hcnt hcnt' hdp HI hcp;go_wp2;refine wp_region_held (S:=fun _=>True) (by kernel_rfl) ?_;simp only [List.size_toArray,List.length_cons,List.length_nil,Nat.reduceAdd,Array.replicate_succ,Array.replicate_zero,List.push_toArray,List.nil_append,List.cons_append];have hS:=trivial
   iterate 7 (refine py hS ?_;simp only [f0,f1,Nat.reduceAdd,lz,l0,ls])
   refine wpAnyH_oneW (r:=7) (by kernel_rfl) ?_;refine wpOp_doW rfl (by kernel_rfl) (fun K' hK=>?_);go_simp;refine hK.out _ _ ⟨trivial,?_⟩;clear hK K';refine pz 8 46 (Vi ((k:Int)+(cnt:Int))) hS ?_;simp only [lz,l0,ls];refine pk 9 8 (Vi ((k:Int)+(cnt:Int))) hS ?_;simp only [lz,l0,ls];refine wpAnyH_done (by kernel_rfl) ?_ _;go_wp2;go_roundw
   case rel=>exact ⟨k+cnt,zs2,hcn.2,by omega,by go_num,HN⟩
   case measure=>simp [intOf];omega
  obtain rfl:m=k:=by omega
  have HF:=hid (show RowV wr g 3 (Ns .i64 (List.replicate m (-1))) by
   have:=rowOf hh.out.2.1
   rwa [←hh.out.2.2.2,←hh.out.2.2.1,List.take_length] )
  have HB:=hid hh.out.1;clear hh HI hcp;go_wp2;go_ret;exact⟨g,rfl,HF.out,by have:=HG.out;omega,HB.out⟩
end Go.Proofs.YtgandbaejlfppaaGreatDoor
