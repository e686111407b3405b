import Derived.Test.YtgandbaejlfppaaGreatDoorN16
import Derived.Test.YtgandbaejlfppaaGreatDoorM17
namespace Go.Proofs.YtgandbaejlfppaaGreatDoor
set_option linter.unusedVariables false
set_option linter.unusedSimpArgs false
set_option maxRecDepth 20000
set_option maxHeartbeats 8000000
open Go.RowKit Go.Shelf Go.Maps
theorem b0_0 (w0 : World) (a : Option Addr) (len cap : Nat) (zs : List Int) (h0 : IsRow .u8 w0 a len cap zs) (hlen : len ≤ 1048576) (R gv : Nat) (tt : Bool) (W : World) (X Y k : Nat) : B0 w0 a len cap R gv tt W X Y k (fun m => m = 0) := by
  intro m K Q q w u9 u10 u11 u12 u13 u14 u15 u16 u17 u18 u19 u20 u21 u22 u23 u24 u25 u26 u27 u28 u29 u32 u33 u34 u35 u36 u37 u38 u39 u40 u41 u42 u43 u44 u45 u46 u47 u48 u49 u50 u51 u52 u53 u54 u55 u56 u57 u58 u59 u60 u61 u62 u63 u64 u65 u66 u67 u68 u69 u70 u71 u72 u73 u74 u75 u76 u77 u78 u79 u80 u81 u82 u83 u84 u85 u86 u87 u88 u89 u90 u91 u92 u93 u94 u95 u96 u97 u98 u99 u100 u101 u102 u103 u104 u105 u106 u107 u108 u109 u110 u111 u112 u113 u114 u115 u116 u117 u118 u119 u120 u121 u122 u123 u124 u125 u126 u127 u128 u129 u130 u131 u132 u133 u134 u135 u136 u137 u138 u139 u140 u141 u142 u143 u144 u145 u146 u147 u148 hm O3 HK0
  have N := hid (fun V (hV : Rd w0 a len cap R V V) => next_any w0 a len cap zs h0 hlen R V V hV)
  have WD := hid (fun V (hV : Rd w0 a len cap R V V) => wide_any w0 a len cap zs h0 hlen R V V hV)
  have RQ := hid (fun V (hV : Rd w0 a len cap R V V) => request_any w0 a len cap zs h0 hlen R V V hV)
  have BY := hid (fun n (hn : n ≤ 10000) V (hV : Rd w0 a len cap R V V) => bytes_any w0 a len cap zs h0 hlen R n hn V V hV)
  have US := hid sp_Usable
  have HU := hid u64_in
  clear h0
  have HK := hid HK0
  clear HK0
  conv => arg 2; whnf
  obtain rfl := hm
  cases tt
  · go_wp2_with fail
    refine (RQ.out _ O3.out.rd.at).mono ?_
    rintro e V10 ⟨⟨c10, hx10, hy10, rfl⟩, r⟩
    have O10 := hid (O3.out.next r)
    clear r O3
    go_wp2_with (refine wpList_store_row rfl 42 _ _ rfl _ _ rfl rfl 42 _ O10.out.x (by kernel_rfl) rfl (by simp [Value.oneCell']) ?_; have Ox := hid (O10.out.row 0 c10 0 hx10 hy10 (by omega) (by omega)); generalize V10.setRow X _ = Vx at Ox ⊢; clear O10)
    apply HK.out
    exact Ox
  · go_wp2_with fail
    refine (RQ.out _ O3.out.rd.at).mono ?_
    rintro e V11 ⟨⟨c11, hx11, hy11, rfl⟩, r⟩
    have O11 := hid (O3.out.next r)
    clear r O3
    go_wp2_with (refine wpList_store_row rfl 42 _ _ rfl _ _ rfl rfl 42 _ O11.out.x (by kernel_rfl) rfl (by simp [Value.oneCell']) ?_; have Ox := hid (O11.out.row 0 c11 0 hx11 hy11 (by omega) (by omega)); generalize V11.setRow X _ = Vx at Ox ⊢; clear O11; obtain ⟨z0, z1, z2, z3, z4, z5⟩ := Ox.out.cells; have zf := Ox.out.fr 3)
    apply HK.out
    exact hid (Ox.out.setA _ (by first | omega | exact (HU.out _).1 | (simp; done)) (by first | omega | exact (HU.out _).2 | (simp; done)))
theorem b0_4 (w0 : World) (a : Option Addr) (len cap : Nat) (zs : List Int) (h0 : IsRow .u8 w0 a len cap zs) (hlen : len ≤ 1048576) (R gv : Nat) (tt : Bool) (W : World) (X Y k : Nat) : B0 w0 a len cap R gv tt W X Y k (fun m => m = 4) := by
  intro m K Q q w u9 u10 u11 u12 u13 u14 u15 u16 u17 u18 u19 u20 u21 u22 u23 u24 u25 u26 u27 u28 u29 u32 u33 u34 u35 u36 u37 u38 u39 u40 u41 u42 u43 u44 u45 u46 u47 u48 u49 u50 u51 u52 u53 u54 u55 u56 u57 u58 u59 u60 u61 u62 u63 u64 u65 u66 u67 u68 u69 u70 u71 u72 u73 u74 u75 u76 u77 u78 u79 u80 u81 u82 u83 u84 u85 u86 u87 u88 u89 u90 u91 u92 u93 u94 u95 u96 u97 u98 u99 u100 u101 u102 u103 u104 u105 u106 u107 u108 u109 u110 u111 u112 u113 u114 u115 u116 u117 u118 u119 u120 u121 u122 u123 u124 u125 u126 u127 u128 u129 u130 u131 u132 u133 u134 u135 u136 u137 u138 u139 u140 u141 u142 u143 u144 u145 u146 u147 u148 hm O3 HK0
  have N := hid (fun V (hV : Rd w0 a len cap R V V) => next_any w0 a len cap zs h0 hlen R V V hV)
  have WD := hid (fun V (hV : Rd w0 a len cap R V V) => wide_any w0 a len cap zs h0 hlen R V V hV)
  have RQ := hid (fun V (hV : Rd w0 a len cap R V V) => request_any w0 a len cap zs h0 hlen R V V hV)
  have BY := hid (fun n (hn : n ≤ 10000) V (hV : Rd w0 a len cap R V V) => bytes_any w0 a len cap zs h0 hlen R n hn V V hV)
  have US := hid sp_Usable
  have HU := hid u64_in
  clear h0
  have HK := hid HK0
  clear HK0
  conv => arg 2; whnf
  obtain rfl := hm
  by_cases h240 : 240 ≤ k
  · go_wp2_with fail
    refine (RQ.out _ O3.out.rd.at).mono ?_
    rintro e V10 ⟨⟨c10, hx10, hy10, rfl⟩, r⟩
    have O10 := hid (O3.out.next r)
    clear r O3
    go_wp2_with fail
    refine (N.out _ O10.out.rd.at).mono ?_
    rintro e V11 ⟨⟨c11, hc11, rfl⟩, r⟩
    have O11 := hid (O10.out.next r)
    clear r O10
    go_wp2_with (refine wpList_store_row rfl 42 _ _ rfl _ _ rfl rfl 42 _ O11.out.x (by kernel_rfl) rfl (by simp [Value.oneCell']) ?_; have Ox := hid (O11.out.row 1 c10 ((c11 : Int) % 4) hx10 hy10 (by omega) (by omega)); generalize V11.setRow X _ = Vx at Ox ⊢; clear O11)
    refine (WD.out _ Ox.out.rd.at).mono ?_
    rintro e V12 ⟨⟨c12, hx12, hy12, rfl⟩, r⟩
    have O12 := hid (Ox.out.next r)
    clear r Ox
    obtain ⟨z0, z1, z2, z3, z4, z5⟩ := O12.out.cells
    have zf := O12.out.fr 4
    go_wp2
    apply HK.out
    exact hid (O12.out.setB _ (by first | omega | exact (HU.out _).1 | (simp; done)) (by first | omega | exact (HU.out _).2 | (simp; done)))
  · go_wp2_with fail
    refine (RQ.out _ O3.out.rd.at).mono ?_
    rintro e V13 ⟨⟨c13, hx13, hy13, rfl⟩, r⟩
    have O13 := hid (O3.out.next r)
    clear r O3
    go_wp2_with fail
    refine (N.out _ O13.out.rd.at).mono ?_
    rintro e V14 ⟨⟨c14, hc14, rfl⟩, r⟩
    have O14 := hid (O13.out.next r)
    clear r O13
    go_wp2_with (refine wpList_store_row rfl 42 _ _ rfl _ _ rfl rfl 42 _ O14.out.x (by kernel_rfl) rfl (by simp [Value.oneCell']) ?_; have Ox := hid (O14.out.row 1 c13 ((c14 : Int) % 4) hx13 hy13 (by omega) (by omega)); generalize V14.setRow X _ = Vx at Ox ⊢; clear O14)
    apply HK.out
    exact Ox
theorem b0_6 (w0 : World) (a : Option Addr) (len cap : Nat) (zs : List Int) (h0 : IsRow .u8 w0 a len cap zs) (hlen : len ≤ 1048576) (R gv : Nat) (tt : Bool) (W : World) (X Y k : Nat) : B0 w0 a len cap R gv tt W X Y k (fun m => m = 7 ∨ m = 8 ∨ m = 9 ∨ m = 10 ∨ m = 11) := by
  intro m K Q q w u9 u10 u11 u12 u13 u14 u15 u16 u17 u18 u19 u20 u21 u22 u23 u24 u25 u26 u27 u28 u29 u32 u33 u34 u35 u36 u37 u38 u39 u40 u41 u42 u43 u44 u45 u46 u47 u48 u49 u50 u51 u52 u53 u54 u55 u56 u57 u58 u59 u60 u61 u62 u63 u64 u65 u66 u67 u68 u69 u70 u71 u72 u73 u74 u75 u76 u77 u78 u79 u80 u81 u82 u83 u84 u85 u86 u87 u88 u89 u90 u91 u92 u93 u94 u95 u96 u97 u98 u99 u100 u101 u102 u103 u104 u105 u106 u107 u108 u109 u110 u111 u112 u113 u114 u115 u116 u117 u118 u119 u120 u121 u122 u123 u124 u125 u126 u127 u128 u129 u130 u131 u132 u133 u134 u135 u136 u137 u138 u139 u140 u141 u142 u143 u144 u145 u146 u147 u148 hm O3 HK0
  have N := hid (fun V (hV : Rd w0 a len cap R V V) => next_any w0 a len cap zs h0 hlen R V V hV)
  have WD := hid (fun V (hV : Rd w0 a len cap R V V) => wide_any w0 a len cap zs h0 hlen R V V hV)
  have RQ := hid (fun V (hV : Rd w0 a len cap R V V) => request_any w0 a len cap zs h0 hlen R V V hV)
  have BY := hid (fun n (hn : n ≤ 10000) V (hV : Rd w0 a len cap R V V) => bytes_any w0 a len cap zs h0 hlen R n hn V V hV)
  have US := hid sp_Usable
  have HU := hid u64_in
  clear h0
  have HK := hid HK0
  clear HK0
  conv => arg 2; whnf
  rcases hm with rfl | rfl | rfl | rfl | rfl
  · skip
    obtain ⟨z0, z1, z2, z3, z4, z5⟩ := O3.out.cells
    have zf := O3.out.fr 0
    go_wp2
    apply HK.out
    exact hid (O3.out.setKd 3)
  · skip
    obtain ⟨z0, z1, z2, z3, z4, z5⟩ := O3.out.cells
    have zf := O3.out.fr 0
    go_wp2
    apply HK.out
    exact hid (O3.out.setKd 3)
  · skip
    obtain ⟨z0, z1, z2, z3, z4, z5⟩ := O3.out.cells
    have zf := O3.out.fr 0
    go_wp2
    apply HK.out
    exact hid (O3.out.setKd 3)
  · skip
    obtain ⟨z0, z1, z2, z3, z4, z5⟩ := O3.out.cells
    have zf := O3.out.fr 0
    go_wp2
    apply HK.out
    exact hid (O3.out.setKd 3)
  · skip
    obtain ⟨z0, z1, z2, z3, z4, z5⟩ := O3.out.cells
    have zf := O3.out.fr 0
    go_wp2
    apply HK.out
    exact hid (O3.out.setKd 4)
end Go.Proofs.YtgandbaejlfppaaGreatDoor
namespace Go.Proofs.YtgandbaejlfppaaGreatDoor
set_option linter.unusedVariables false
set_option linter.unusedSimpArgs false
set_option maxRecDepth 20000
set_option maxHeartbeats 8000000
open Go.RowKit Go.Shelf Go.Maps
theorem b0_1 (w0 : World) (a : Option Addr) (len cap : Nat) (zs : List Int) (h0 : IsRow .u8 w0 a len cap zs) (hlen : len ≤ 1048576) (R gv : Nat) (tt : Bool) (W : World) (X Y k : Nat) : B0 w0 a len cap R gv tt W X Y k (fun m => m = 1) := by
  intro m K Q q w u9 u10 u11 u12 u13 u14 u15 u16 u17 u18 u19 u20 u21 u22 u23 u24 u25 u26 u27 u28 u29 u32 u33 u34 u35 u36 u37 u38 u39 u40 u41 u42 u43 u44 u45 u46 u47 u48 u49 u50 u51 u52 u53 u54 u55 u56 u57 u58 u59 u60 u61 u62 u63 u64 u65 u66 u67 u68 u69 u70 u71 u72 u73 u74 u75 u76 u77 u78 u79 u80 u81 u82 u83 u84 u85 u86 u87 u88 u89 u90 u91 u92 u93 u94 u95 u96 u97 u98 u99 u100 u101 u102 u103 u104 u105 u106 u107 u108 u109 u110 u111 u112 u113 u114 u115 u116 u117 u118 u119 u120 u121 u122 u123 u124 u125 u126 u127 u128 u129 u130 u131 u132 u133 u134 u135 u136 u137 u138 u139 u140 u141 u142 u143 u144 u145 u146 u147 u148 hm O3 HK0
  have N := hid (fun V (hV : Rd w0 a len cap R V V) => next_any w0 a len cap zs h0 hlen R V V hV)
  have WD := hid (fun V (hV : Rd w0 a len cap R V V) => wide_any w0 a len cap zs h0 hlen R V V hV)
  have RQ := hid (fun V (hV : Rd w0 a len cap R V V) => request_any w0 a len cap zs h0 hlen R V V hV)
  have BY := hid (fun n (hn : n ≤ 10000) V (hV : Rd w0 a len cap R V V) => bytes_any w0 a len cap zs h0 hlen R n hn V V hV)
  have US := hid sp_Usable
  have HU := hid u64_in
  clear h0
  have HK := hid HK0
  clear HK0
  conv => arg 2; whnf
  obtain rfl := hm
  cases tt
  · go_wp2_with fail
    refine (RQ.out _ O3.out.rd.at).mono ?_
    rintro e V10 ⟨⟨c10, hx10, hy10, rfl⟩, r⟩
    have O10 := hid (O3.out.next r)
    clear r O3
    go_wp2_with (refine wpList_store_row rfl 42 _ _ rfl _ _ rfl rfl 42 _ O10.out.x (by kernel_rfl) rfl (by simp [Value.oneCell']) ?_; have Ox := hid (O10.out.row 0 c10 0 hx10 hy10 (by omega) (by omega)); generalize V10.setRow X _ = Vx at Ox ⊢; clear O10)
    apply HK.out
    exact Ox
  · go_wp2_with fail
    refine (RQ.out _ O3.out.rd.at).mono ?_
    rintro e V11 ⟨⟨c11, hx11, hy11, rfl⟩, r⟩
    have O11 := hid (O3.out.next r)
    clear r O3
    go_wp2_with (refine wpList_store_row rfl 42 _ _ rfl _ _ rfl rfl 42 _ O11.out.x (by kernel_rfl) rfl (by simp [Value.oneCell']) ?_; have Ox := hid (O11.out.row 0 c11 0 hx11 hy11 (by omega) (by omega)); generalize V11.setRow X _ = Vx at Ox ⊢; clear O11; obtain ⟨z0, z1, z2, z3, z4, z5⟩ := Ox.out.cells; have zf := Ox.out.fr 3)
    apply HK.out
    exact hid (Ox.out.setA _ (by first | omega | exact (HU.out _).1 | (simp; done)) (by first | omega | exact (HU.out _).2 | (simp; done)))
theorem b0_5 (w0 : World) (a : Option Addr) (len cap : Nat) (zs : List Int) (h0 : IsRow .u8 w0 a len cap zs) (hlen : len ≤ 1048576) (R gv : Nat) (tt : Bool) (W : World) (X Y k : Nat) : B0 w0 a len cap R gv tt W X Y k (fun m => m = 5 ∨ m = 6) := by
  intro m K Q q w u9 u10 u11 u12 u13 u14 u15 u16 u17 u18 u19 u20 u21 u22 u23 u24 u25 u26 u27 u28 u29 u32 u33 u34 u35 u36 u37 u38 u39 u40 u41 u42 u43 u44 u45 u46 u47 u48 u49 u50 u51 u52 u53 u54 u55 u56 u57 u58 u59 u60 u61 u62 u63 u64 u65 u66 u67 u68 u69 u70 u71 u72 u73 u74 u75 u76 u77 u78 u79 u80 u81 u82 u83 u84 u85 u86 u87 u88 u89 u90 u91 u92 u93 u94 u95 u96 u97 u98 u99 u100 u101 u102 u103 u104 u105 u106 u107 u108 u109 u110 u111 u112 u113 u114 u115 u116 u117 u118 u119 u120 u121 u122 u123 u124 u125 u126 u127 u128 u129 u130 u131 u132 u133 u134 u135 u136 u137 u138 u139 u140 u141 u142 u143 u144 u145 u146 u147 u148 hm O3 HK0
  have N := hid (fun V (hV : Rd w0 a len cap R V V) => next_any w0 a len cap zs h0 hlen R V V hV)
  have WD := hid (fun V (hV : Rd w0 a len cap R V V) => wide_any w0 a len cap zs h0 hlen R V V hV)
  have RQ := hid (fun V (hV : Rd w0 a len cap R V V) => request_any w0 a len cap zs h0 hlen R V V hV)
  have BY := hid (fun n (hn : n ≤ 10000) V (hV : Rd w0 a len cap R V V) => bytes_any w0 a len cap zs h0 hlen R n hn V V hV)
  have US := hid sp_Usable
  have HU := hid u64_in
  clear h0
  have HK := hid HK0
  clear HK0
  conv => arg 2; whnf
  rcases hm with rfl | rfl
  · skip
    obtain ⟨z0, z1, z2, z3, z4, z5⟩ := O3.out.cells
    have zf := O3.out.fr 0
    go_wp2_with fail
    have O10 := hid (O3.out.setKd 2)
    clear O3 z0 z1 z2 z3 z4 z5 zf
    refine (RQ.out _ O10.out.rd.at).mono ?_
    rintro e V11 ⟨⟨c11, hx11, hy11, rfl⟩, r⟩
    have O11 := hid (O10.out.next r)
    clear r O10
    obtain ⟨z0, z1, z2, z3, z4, z5⟩ := O11.out.cells
    have zf := O11.out.fr 3
    go_wp2
    apply HK.out
    exact hid (O11.out.setA _ (by first | omega | exact (HU.out _).1 | (simp; done)) (by first | omega | exact (HU.out _).2 | (simp; done)))
  · skip
    obtain ⟨z0, z1, z2, z3, z4, z5⟩ := O3.out.cells
    have zf := O3.out.fr 0
    go_wp2_with fail
    have O12 := hid (O3.out.setKd 2)
    clear O3 z0 z1 z2 z3 z4 z5 zf
    refine (RQ.out _ O12.out.rd.at).mono ?_
    rintro e V13 ⟨⟨c13, hx13, hy13, rfl⟩, r⟩
    have O13 := hid (O12.out.next r)
    clear r O12
    obtain ⟨z0, z1, z2, z3, z4, z5⟩ := O13.out.cells
    have zf := O13.out.fr 3
    go_wp2
    apply HK.out
    exact hid (O13.out.setA _ (by first | omega | exact (HU.out _).1 | (simp; done)) (by first | omega | exact (HU.out _).2 | (simp; done)))
theorem b0_7 (w0 : World) (a : Option Addr) (len cap : Nat) (zs : List Int) (h0 : IsRow .u8 w0 a len cap zs) (hlen : len ≤ 1048576) (R gv : Nat) (tt : Bool) (W : World) (X Y k : Nat) : B0 w0 a len cap R gv tt W X Y k (fun m => m = 12) := by
  intro m K Q q w u9 u10 u11 u12 u13 u14 u15 u16 u17 u18 u19 u20 u21 u22 u23 u24 u25 u26 u27 u28 u29 u32 u33 u34 u35 u36 u37 u38 u39 u40 u41 u42 u43 u44 u45 u46 u47 u48 u49 u50 u51 u52 u53 u54 u55 u56 u57 u58 u59 u60 u61 u62 u63 u64 u65 u66 u67 u68 u69 u70 u71 u72 u73 u74 u75 u76 u77 u78 u79 u80 u81 u82 u83 u84 u85 u86 u87 u88 u89 u90 u91 u92 u93 u94 u95 u96 u97 u98 u99 u100 u101 u102 u103 u104 u105 u106 u107 u108 u109 u110 u111 u112 u113 u114 u115 u116 u117 u118 u119 u120 u121 u122 u123 u124 u125 u126 u127 u128 u129 u130 u131 u132 u133 u134 u135 u136 u137 u138 u139 u140 u141 u142 u143 u144 u145 u146 u147 u148 hm O3 HK0
  have N := hid (fun V (hV : Rd w0 a len cap R V V) => next_any w0 a len cap zs h0 hlen R V V hV)
  have WD := hid (fun V (hV : Rd w0 a len cap R V V) => wide_any w0 a len cap zs h0 hlen R V V hV)
  have RQ := hid (fun V (hV : Rd w0 a len cap R V V) => request_any w0 a len cap zs h0 hlen R V V hV)
  have BY := hid (fun n (hn : n ≤ 10000) V (hV : Rd w0 a len cap R V V) => bytes_any w0 a len cap zs h0 hlen R n hn V V hV)
  have US := hid sp_Usable
  have HU := hid u64_in
  clear h0
  have HK := hid HK0
  clear HK0
  conv => arg 2; whnf
  obtain rfl := hm
  obtain ⟨z0, z1, z2, z3, z4, z5⟩ := O3.out.cells
  have zf := O3.out.fr 0
  go_wp2_with fail
  have O10 := hid (O3.out.setKd 5)
  clear O3 z0 z1 z2 z3 z4 z5 zf
  refine (N.out _ O10.out.rd.at).mono ?_
  rintro e V11 ⟨⟨c11, hc11, rfl⟩, r⟩
  have O11 := hid (O10.out.next r)
  clear r O10
  obtain ⟨z0, z1, z2, z3, z4, z5⟩ := O11.out.cells
  have zf := O11.out.fr 3
  go_wp2_with fail
  have O12 := hid (O11.out.setA (c11 : Int) (by omega) (by omega))
  clear O11 z0 z1 z2 z3 z4 z5 zf
  refine (N.out _ O12.out.rd.at).mono ?_
  rintro e V13 ⟨⟨c13, hc13, rfl⟩, r⟩
  have O13 := hid (O12.out.next r)
  clear r O12
  obtain ⟨z0, z1, z2, z3, z4, z5⟩ := O13.out.cells
  have zf := O13.out.fr 2
  go_wp2
  apply HK.out
  exact hid (O13.out.setP _ (by first | omega | exact (HU.out _).1 | (simp; done)) (by first | omega | exact (HU.out _).2 | (simp; done)))
end Go.Proofs.YtgandbaejlfppaaGreatDoor
