/- LearnedOptions, of the program and of the model. Nothing here is a claim. -/
import Derived.Test.YtifgaojgnaafbaaStampS
import Derived.Test.YtifgaojgnaafbaaOptOk
import Derived.Test.YtifgaojgnaafbaaMss
namespace Go.Proofs.Ytifgaojgnaafbaa
open Go.RowKit Go.Lib

/-- What LearnedOptions answers. -/
def lrnOpt (i : Int) (t : Bool) (v u : Int) : Opt :=
  bif t && stampIs u then ⟨mssAt i, stampScale u, stampSack u, true, v, 0⟩ else ⟨mssAt i, -1, false, false, 0, 0⟩


set_option maxRecDepth 100000 in
set_option maxHeartbeats 4000000 in
theorem lrnOptI (i m c : Int) (k t : Bool) (v u : Int) (hi : (Lit.int .i64 i).wf = true) (w : World) :
    Calls Try.prog 22 #[.int .i64 i, .agg #[.int .i64 m, .int .i64 c, .bool k, .bool t, .int .i64 v, .int .i64 u]] w (EndV (.agg (lrnOpt i t v u).cs) w) := by
  obtain ⟨z, hz⟩ : ∃ z : Value, Value.agg (lrnOpt i t v u).cs = z := ⟨_, rfl⟩
  rw [hz]
  have M := Lib.hid (mssOfI i hi)
  have Q := Lib.hid (stampInI u)
  unfold lrnOpt at hz
  generalize mssAt i = n at M hz
  cases t with
  | false =>
    have hz := Lib.hid hz
    clear Q
    go_enter Try.func22, Try.ntmps22
    have B0 := Lib.hid (show Below w.heap.size w ((w.alloc (.cells #[.int .i64 m, .int .i64 c, .bool k, .bool false, .int .i64 v, .int .i64 u] 32)).alloc (.cells #[.int .i64 0, .int .i64 0, .bool false, .bool false, .int .i64 0, .int .i64 0] 32)) from (((Below.refl _ w).alloc (by simp) _).alloc (by simp) _))
    have Ko0 := Lib.hid (show Blk ((w.alloc (.cells #[.int .i64 m, .int .i64 c, .bool k, .bool false, .int .i64 v, .int .i64 u] 32)).alloc (.cells #[.int .i64 0, .int .i64 0, .bool false, .bool false, .int .i64 0, .int .i64 0] 32)) (w.heap.size) [.int .i64 m, .int .i64 c, .bool k, .bool false, .int .i64 v, .int .i64 u] from (Blk.new w [.int .i64 m, .int .i64 c, .bool k, .bool false, .int .i64 v, .int .i64 u] 32).alloc (.cells #[.int .i64 0, .int .i64 0, .bool false, .bool false, .int .i64 0, .int .i64 0] 32))
    have s1 : (w.alloc (.cells #[.int .i64 m, .int .i64 c, .bool k, .bool false, .int .i64 v, .int .i64 u] 32)).heap.size = w.heap.size + 1 := by simp
    have Kr0 := Lib.hid (show Blk ((w.alloc (.cells #[.int .i64 m, .int .i64 c, .bool k, .bool false, .int .i64 v, .int .i64 u] 32)).alloc (.cells #[.int .i64 0, .int .i64 0, .bool false, .bool false, .int .i64 0, .int .i64 0] 32)) (w.heap.size + 1) [.int .i64 0, .int .i64 0, .bool false, .bool false, .int .i64 0, .int .i64 0] by have h0 := Blk.new (w.alloc (.cells #[.int .i64 m, .int .i64 c, .bool k, .bool false, .int .i64 v, .int .i64 u] 32)) [.int .i64 0, .int .i64 0, .bool false, .bool false, .int .i64 0, .int .i64 0] 32; rwa [s1] at h0)
    have n_o_r : w.heap.size ≠ w.heap.size + 1 := by omega
    clear s1
    go_wp2_with fail
    change Calls _ _ _ ((w.alloc (.cells #[.int .i64 m, .int .i64 c, .bool k, .bool false, .int .i64 v, .int .i64 u] 32)).alloc (.cells #[.int .i64 0, .int .i64 0, .bool false, .bool false, .int .i64 0, .int .i64 0] 32)) _
    generalize (w.alloc (.cells #[.int .i64 m, .int .i64 c, .bool k, .bool false, .int .i64 v, .int .i64 u] 32)).alloc (.cells #[.int .i64 0, .int .i64 0, .bool false, .bool false, .int .i64 0, .int .i64 0] 32) = v0 at B0 Ko0 Kr0 ⊢
    generalize hh_r : w.heap.size + 1 = g_r at Kr0 n_o_r ⊢
    generalize hh_o : w.heap.size = g_o at Ko0 n_o_r ⊢
    have l_o : w.heap.size ≤ g_o := by omega
    have l_r : w.heap.size ≤ g_r := by omega
    clear hh_o hh_r
    refine (noOptionsI _).mono ?_
    rintro e v1 ⟨rfl, hb⟩
    have B1 := Lib.hid (B0.out.trans (hb.mono B0.out.size))
    have Ko1 := Lib.hid (Ko0.out.below hb)
    have Kr1 := Lib.hid (Kr0.out.below hb)
    clear hb B0 Ko0 Kr0
    have Kxn := Lib.hid (Blk.new v1 [.int .i64 0, .int .i64 (-1), .bool false, .bool false, .int .i64 0, .int .i64 0] 32)
    have l_x : w.heap.size ≤ v1.heap.size := B1.out.size
    have n_o_x : g_o ≠ v1.heap.size := by have h1 := Ko1.out.lt; omega
    have n_r_x : g_r ≠ v1.heap.size := by have h1 := Kr1.out.lt; omega
    have Bn := Lib.hid (B1.out.alloc B1.out.size (.cells #[.int .i64 0, .int .i64 (-1), .bool false, .bool false, .int .i64 0, .int .i64 0] 32))
    have Kon := Lib.hid (Ko1.out.alloc (.cells #[.int .i64 0, .int .i64 (-1), .bool false, .bool false, .int .i64 0, .int .i64 0] 32))
    have Krn := Lib.hid (Kr1.out.alloc (.cells #[.int .i64 0, .int .i64 (-1), .bool false, .bool false, .int .i64 0, .int .i64 0] 32))
    clear B1 Ko1 Kr1
    obtain ⟨⟨co0, co1, co2, co3, co4, co5⟩, do0, do1, do2, do3, do4, do5⟩ := Kon.out.of6
    obtain ⟨⟨cr0, cr1, cr2, cr3, cr4, cr5⟩, dr0, dr1, dr2, dr3, dr4, dr5⟩ := Krn.out.of6
    go_wp2_with fail
    clear co0 co1 co2 co3 co4 co5 do0 do1 do2 do3 do4 do5 cr0 cr1 cr2 cr3 cr4 cr5 dr0 dr1 dr2 dr3 dr4 dr5
    change Calls _ _ _ (v1.alloc (.cells #[.int .i64 0, .int .i64 (-1), .bool false, .bool false, .int .i64 0, .int .i64 0] 32)) _
    generalize v1.alloc (.cells #[.int .i64 0, .int .i64 (-1), .bool false, .bool false, .int .i64 0, .int .i64 0] 32) = v2 at Kxn Bn Kon Krn ⊢
    generalize v1.heap.size = g_x at Kxn l_x n_o_x n_r_x ⊢
    clear v1
    have Ko2 := Kon
    clear Kon
    have Kr2 := Krn
    clear Krn
    have Kx2 := Kxn
    clear Kxn
    have B2 := Bn
    clear Bn
    refine (M.out _).mono ?_
    rintro e v3 ⟨rfl, hb⟩
    have B3 := Lib.hid (B2.out.trans (hb.mono B2.out.size))
    have Ko3 := Lib.hid (Ko2.out.below hb)
    have Kr3 := Lib.hid (Kr2.out.below hb)
    have Kx3 := Lib.hid (Kx2.out.below hb)
    clear hb B2 Ko2 Kr2 Kx2
    obtain ⟨⟨co0, co1, co2, co3, co4, co5⟩, do0, do1, do2, do3, do4, do5⟩ := Ko3.out.of6
    obtain ⟨⟨cr0, cr1, cr2, cr3, cr4, cr5⟩, dr0, dr1, dr2, dr3, dr4, dr5⟩ := Kr3.out.of6
    obtain ⟨⟨cx0, cx1, cx2, cx3, cx4, cx5⟩, dx0, dx1, dx2, dx3, dx4, dx5⟩ := Kx3.out.of6
    go_wp2_with fail
    exact bodyPost_ret (v := .agg #[.int .i64 n, .int .i64 (-1), .bool false, .bool false, .int .i64 0, .int .i64 0]) (by simp [results, Try.results22, go_sem, cr0, cr1, cr2, cr3, cr4, cr5]) rfl ⟨congrArg Ending.returned hz.out, (((((((B3.out.setCell l_x _).setCell l_r _).setCell l_r _).setCell l_r _).setCell l_r _).setCell l_r _).setCell l_r _)⟩
  | true =>
    cases h : stampIs u with
    | false =>
      rw [stampAns_no h] at Q
      rw [h] at hz
      have hz := Lib.hid hz
      clear h
      go_enter Try.func22, Try.ntmps22
      have B0 := Lib.hid (show Below w.heap.size w ((w.alloc (.cells #[.int .i64 m, .int .i64 c, .bool k, .bool true, .int .i64 v, .int .i64 u] 32)).alloc (.cells #[.int .i64 0, .int .i64 0, .bool false, .bool false, .int .i64 0, .int .i64 0] 32)) from (((Below.refl _ w).alloc (by simp) _).alloc (by simp) _))
      have Ko0 := Lib.hid (show Blk ((w.alloc (.cells #[.int .i64 m, .int .i64 c, .bool k, .bool true, .int .i64 v, .int .i64 u] 32)).alloc (.cells #[.int .i64 0, .int .i64 0, .bool false, .bool false, .int .i64 0, .int .i64 0] 32)) (w.heap.size) [.int .i64 m, .int .i64 c, .bool k, .bool true, .int .i64 v, .int .i64 u] from (Blk.new w [.int .i64 m, .int .i64 c, .bool k, .bool true, .int .i64 v, .int .i64 u] 32).alloc (.cells #[.int .i64 0, .int .i64 0, .bool false, .bool false, .int .i64 0, .int .i64 0] 32))
      have s1 : (w.alloc (.cells #[.int .i64 m, .int .i64 c, .bool k, .bool true, .int .i64 v, .int .i64 u] 32)).heap.size = w.heap.size + 1 := by simp
      have Kr0 := Lib.hid (show Blk ((w.alloc (.cells #[.int .i64 m, .int .i64 c, .bool k, .bool true, .int .i64 v, .int .i64 u] 32)).alloc (.cells #[.int .i64 0, .int .i64 0, .bool false, .bool false, .int .i64 0, .int .i64 0] 32)) (w.heap.size + 1) [.int .i64 0, .int .i64 0, .bool false, .bool false, .int .i64 0, .int .i64 0] by have h0 := Blk.new (w.alloc (.cells #[.int .i64 m, .int .i64 c, .bool k, .bool true, .int .i64 v, .int .i64 u] 32)) [.int .i64 0, .int .i64 0, .bool false, .bool false, .int .i64 0, .int .i64 0] 32; rwa [s1] at h0)
      have n_o_r : w.heap.size ≠ w.heap.size + 1 := by omega
      clear s1
      go_wp2_with fail
      change Calls _ _ _ ((w.alloc (.cells #[.int .i64 m, .int .i64 c, .bool k, .bool true, .int .i64 v, .int .i64 u] 32)).alloc (.cells #[.int .i64 0, .int .i64 0, .bool false, .bool false, .int .i64 0, .int .i64 0] 32)) _
      generalize (w.alloc (.cells #[.int .i64 m, .int .i64 c, .bool k, .bool true, .int .i64 v, .int .i64 u] 32)).alloc (.cells #[.int .i64 0, .int .i64 0, .bool false, .bool false, .int .i64 0, .int .i64 0] 32) = v0 at B0 Ko0 Kr0 ⊢
      generalize hh_r : w.heap.size + 1 = g_r at Kr0 n_o_r ⊢
      generalize hh_o : w.heap.size = g_o at Ko0 n_o_r ⊢
      have l_o : w.heap.size ≤ g_o := by omega
      have l_r : w.heap.size ≤ g_r := by omega
      clear hh_o hh_r
      refine (noOptionsI _).mono ?_
      rintro e v1 ⟨rfl, hb⟩
      have B1 := Lib.hid (B0.out.trans (hb.mono B0.out.size))
      have Ko1 := Lib.hid (Ko0.out.below hb)
      have Kr1 := Lib.hid (Kr0.out.below hb)
      clear hb B0 Ko0 Kr0
      have Kxn := Lib.hid (Blk.new v1 [.int .i64 0, .int .i64 (-1), .bool false, .bool false, .int .i64 0, .int .i64 0] 32)
      have l_x : w.heap.size ≤ v1.heap.size := B1.out.size
      have n_o_x : g_o ≠ v1.heap.size := by have h1 := Ko1.out.lt; omega
      have n_r_x : g_r ≠ v1.heap.size := by have h1 := Kr1.out.lt; omega
      have Bn := Lib.hid (B1.out.alloc B1.out.size (.cells #[.int .i64 0, .int .i64 (-1), .bool false, .bool false, .int .i64 0, .int .i64 0] 32))
      have Kon := Lib.hid (Ko1.out.alloc (.cells #[.int .i64 0, .int .i64 (-1), .bool false, .bool false, .int .i64 0, .int .i64 0] 32))
      have Krn := Lib.hid (Kr1.out.alloc (.cells #[.int .i64 0, .int .i64 (-1), .bool false, .bool false, .int .i64 0, .int .i64 0] 32))
      clear B1 Ko1 Kr1
      obtain ⟨⟨co0, co1, co2, co3, co4, co5⟩, do0, do1, do2, do3, do4, do5⟩ := Kon.out.of6
      obtain ⟨⟨cr0, cr1, cr2, cr3, cr4, cr5⟩, dr0, dr1, dr2, dr3, dr4, dr5⟩ := Krn.out.of6
      go_wp2_with fail
      clear co0 co1 co2 co3 co4 co5 do0 do1 do2 do3 do4 do5 cr0 cr1 cr2 cr3 cr4 cr5 dr0 dr1 dr2 dr3 dr4 dr5
      change Calls _ _ _ (v1.alloc (.cells #[.int .i64 0, .int .i64 (-1), .bool false, .bool false, .int .i64 0, .int .i64 0] 32)) _
      generalize v1.alloc (.cells #[.int .i64 0, .int .i64 (-1), .bool false, .bool false, .int .i64 0, .int .i64 0] 32) = v2 at Kxn Bn Kon Krn ⊢
      generalize v1.heap.size = g_x at Kxn l_x n_o_x n_r_x ⊢
      clear v1
      have Ko2 := Kon
      clear Kon
      have Kr2 := Krn
      clear Krn
      have Kx2 := Kxn
      clear Kxn
      have B2 := Bn
      clear Bn
      refine (M.out _).mono ?_
      rintro e v3 ⟨rfl, hb⟩
      have B3 := Lib.hid (B2.out.trans (hb.mono B2.out.size))
      have Ko3 := Lib.hid (Ko2.out.below hb)
      have Kr3 := Lib.hid (Kr2.out.below hb)
      have Kx3 := Lib.hid (Kx2.out.below hb)
      clear hb B2 Ko2 Kr2 Kx2
      obtain ⟨⟨co0, co1, co2, co3, co4, co5⟩, do0, do1, do2, do3, do4, do5⟩ := Ko3.out.of6
      obtain ⟨⟨cr0, cr1, cr2, cr3, cr4, cr5⟩, dr0, dr1, dr2, dr3, dr4, dr5⟩ := Kr3.out.of6
      obtain ⟨⟨cx0, cx1, cx2, cx3, cx4, cx5⟩, dx0, dx1, dx2, dx3, dx4, dx5⟩ := Kx3.out.of6
      have Ko4 := Lib.hid (show Blk (v3.setCell ⟨g_x, 0, none⟩ (.int .i64 n)) g_o [.int .i64 m, .int .i64 c, .bool k, .bool true, .int .i64 v, .int .i64 u] from (Ko3.out.setOther ⟨g_x, 0, none⟩ (.int .i64 n) (n_o_x)))
      have Kr4 := Lib.hid (show Blk (v3.setCell ⟨g_x, 0, none⟩ (.int .i64 n)) g_r [.int .i64 0, .int .i64 0, .bool false, .bool false, .int .i64 0, .int .i64 0] from (Kr3.out.setOther ⟨g_x, 0, none⟩ (.int .i64 n) (n_r_x)))
      have Kx4 := Lib.hid (show Blk (v3.setCell ⟨g_x, 0, none⟩ (.int .i64 n)) g_x [.int .i64 n, .int .i64 (-1), .bool false, .bool false, .int .i64 0, .int .i64 0] from (Kx3.out.set 0 (.int .i64 n)))
      have B4 := Lib.hid (show Below w.heap.size w (v3.setCell ⟨g_x, 0, none⟩ (.int .i64 n)) from (B3.out.setCell l_x (.int .i64 n)))
      clear B3
      go_wp2_with fail
      clear Ko3 Kr3 Kx3
      clear co0 co1 co2 co3 co4 co5 do0 do1 do2 do3 do4 do5 cr0 cr1 cr2 cr3 cr4 cr5 dr0 dr1 dr2 dr3 dr4 dr5 cx0 cx1 cx2 cx3 cx4 cx5 dx0 dx1 dx2 dx3 dx4 dx5
      change Calls _ _ _ (v3.setCell ⟨g_x, 0, none⟩ (.int .i64 n)) _
      generalize v3.setCell ⟨g_x, 0, none⟩ (.int .i64 n) = v4 at B4 Ko4 Kr4 Kx4 ⊢
      refine (Q.out _).mono ?_
      rintro e v5 ⟨rfl, hb⟩
      have B5 := Lib.hid (B4.out.trans (hb.mono B4.out.size))
      have Ko5 := Lib.hid (Ko4.out.below hb)
      have Kr5 := Lib.hid (Kr4.out.below hb)
      have Kx5 := Lib.hid (Kx4.out.below hb)
      clear hb B4 Ko4 Kr4 Kx4
      obtain ⟨⟨co0, co1, co2, co3, co4, co5⟩, do0, do1, do2, do3, do4, do5⟩ := Ko5.out.of6
      obtain ⟨⟨cr0, cr1, cr2, cr3, cr4, cr5⟩, dr0, dr1, dr2, dr3, dr4, dr5⟩ := Kr5.out.of6
      obtain ⟨⟨cx0, cx1, cx2, cx3, cx4, cx5⟩, dx0, dx1, dx2, dx3, dx4, dx5⟩ := Kx5.out.of6
      go_wp2_with fail
      exact bodyPost_ret (v := .agg #[.int .i64 n, .int .i64 (-1), .bool false, .bool false, .int .i64 0, .int .i64 0]) (by simp [results, Try.results22, go_sem, cr0, cr1, cr2, cr3, cr4, cr5]) rfl ⟨congrArg Ending.returned hz.out, ((((((B5.out.setCell l_r _).setCell l_r _).setCell l_r _).setCell l_r _).setCell l_r _).setCell l_r _)⟩
    | true =>
      rw [stampAns_yes h] at Q
      rw [h] at hz
      generalize stampScale u = a at Q hz
      generalize stampSack u = b at Q hz
      have hz := Lib.hid hz
      clear h
      go_enter Try.func22, Try.ntmps22
      have B0 := Lib.hid (show Below w.heap.size w ((w.alloc (.cells #[.int .i64 m, .int .i64 c, .bool k, .bool true, .int .i64 v, .int .i64 u] 32)).alloc (.cells #[.int .i64 0, .int .i64 0, .bool false, .bool false, .int .i64 0, .int .i64 0] 32)) from (((Below.refl _ w).alloc (by simp) _).alloc (by simp) _))
      have Ko0 := Lib.hid (show Blk ((w.alloc (.cells #[.int .i64 m, .int .i64 c, .bool k, .bool true, .int .i64 v, .int .i64 u] 32)).alloc (.cells #[.int .i64 0, .int .i64 0, .bool false, .bool false, .int .i64 0, .int .i64 0] 32)) (w.heap.size) [.int .i64 m, .int .i64 c, .bool k, .bool true, .int .i64 v, .int .i64 u] from (Blk.new w [.int .i64 m, .int .i64 c, .bool k, .bool true, .int .i64 v, .int .i64 u] 32).alloc (.cells #[.int .i64 0, .int .i64 0, .bool false, .bool false, .int .i64 0, .int .i64 0] 32))
      have s1 : (w.alloc (.cells #[.int .i64 m, .int .i64 c, .bool k, .bool true, .int .i64 v, .int .i64 u] 32)).heap.size = w.heap.size + 1 := by simp
      have Kr0 := Lib.hid (show Blk ((w.alloc (.cells #[.int .i64 m, .int .i64 c, .bool k, .bool true, .int .i64 v, .int .i64 u] 32)).alloc (.cells #[.int .i64 0, .int .i64 0, .bool false, .bool false, .int .i64 0, .int .i64 0] 32)) (w.heap.size + 1) [.int .i64 0, .int .i64 0, .bool false, .bool false, .int .i64 0, .int .i64 0] by have h0 := Blk.new (w.alloc (.cells #[.int .i64 m, .int .i64 c, .bool k, .bool true, .int .i64 v, .int .i64 u] 32)) [.int .i64 0, .int .i64 0, .bool false, .bool false, .int .i64 0, .int .i64 0] 32; rwa [s1] at h0)
      have n_o_r : w.heap.size ≠ w.heap.size + 1 := by omega
      clear s1
      go_wp2_with fail
      change Calls _ _ _ ((w.alloc (.cells #[.int .i64 m, .int .i64 c, .bool k, .bool true, .int .i64 v, .int .i64 u] 32)).alloc (.cells #[.int .i64 0, .int .i64 0, .bool false, .bool false, .int .i64 0, .int .i64 0] 32)) _
      generalize (w.alloc (.cells #[.int .i64 m, .int .i64 c, .bool k, .bool true, .int .i64 v, .int .i64 u] 32)).alloc (.cells #[.int .i64 0, .int .i64 0, .bool false, .bool false, .int .i64 0, .int .i64 0] 32) = v0 at B0 Ko0 Kr0 ⊢
      generalize hh_r : w.heap.size + 1 = g_r at Kr0 n_o_r ⊢
      generalize hh_o : w.heap.size = g_o at Ko0 n_o_r ⊢
      have l_o : w.heap.size ≤ g_o := by omega
      have l_r : w.heap.size ≤ g_r := by omega
      clear hh_o hh_r
      refine (noOptionsI _).mono ?_
      rintro e v1 ⟨rfl, hb⟩
      have B1 := Lib.hid (B0.out.trans (hb.mono B0.out.size))
      have Ko1 := Lib.hid (Ko0.out.below hb)
      have Kr1 := Lib.hid (Kr0.out.below hb)
      clear hb B0 Ko0 Kr0
      have Kxn := Lib.hid (Blk.new v1 [.int .i64 0, .int .i64 (-1), .bool false, .bool false, .int .i64 0, .int .i64 0] 32)
      have l_x : w.heap.size ≤ v1.heap.size := B1.out.size
      have n_o_x : g_o ≠ v1.heap.size := by have h1 := Ko1.out.lt; omega
      have n_r_x : g_r ≠ v1.heap.size := by have h1 := Kr1.out.lt; omega
      have Bn := Lib.hid (B1.out.alloc B1.out.size (.cells #[.int .i64 0, .int .i64 (-1), .bool false, .bool false, .int .i64 0, .int .i64 0] 32))
      have Kon := Lib.hid (Ko1.out.alloc (.cells #[.int .i64 0, .int .i64 (-1), .bool false, .bool false, .int .i64 0, .int .i64 0] 32))
      have Krn := Lib.hid (Kr1.out.alloc (.cells #[.int .i64 0, .int .i64 (-1), .bool false, .bool false, .int .i64 0, .int .i64 0] 32))
      clear B1 Ko1 Kr1
      obtain ⟨⟨co0, co1, co2, co3, co4, co5⟩, do0, do1, do2, do3, do4, do5⟩ := Kon.out.of6
      obtain ⟨⟨cr0, cr1, cr2, cr3, cr4, cr5⟩, dr0, dr1, dr2, dr3, dr4, dr5⟩ := Krn.out.of6
      go_wp2_with fail
      clear co0 co1 co2 co3 co4 co5 do0 do1 do2 do3 do4 do5 cr0 cr1 cr2 cr3 cr4 cr5 dr0 dr1 dr2 dr3 dr4 dr5
      change Calls _ _ _ (v1.alloc (.cells #[.int .i64 0, .int .i64 (-1), .bool false, .bool false, .int .i64 0, .int .i64 0] 32)) _
      generalize v1.alloc (.cells #[.int .i64 0, .int .i64 (-1), .bool false, .bool false, .int .i64 0, .int .i64 0] 32) = v2 at Kxn Bn Kon Krn ⊢
      generalize v1.heap.size = g_x at Kxn l_x n_o_x n_r_x ⊢
      clear v1
      have Ko2 := Kon
      clear Kon
      have Kr2 := Krn
      clear Krn
      have Kx2 := Kxn
      clear Kxn
      have B2 := Bn
      clear Bn
      refine (M.out _).mono ?_
      rintro e v3 ⟨rfl, hb⟩
      have B3 := Lib.hid (B2.out.trans (hb.mono B2.out.size))
      have Ko3 := Lib.hid (Ko2.out.below hb)
      have Kr3 := Lib.hid (Kr2.out.below hb)
      have Kx3 := Lib.hid (Kx2.out.below hb)
      clear hb B2 Ko2 Kr2 Kx2
      obtain ⟨⟨co0, co1, co2, co3, co4, co5⟩, do0, do1, do2, do3, do4, do5⟩ := Ko3.out.of6
      obtain ⟨⟨cr0, cr1, cr2, cr3, cr4, cr5⟩, dr0, dr1, dr2, dr3, dr4, dr5⟩ := Kr3.out.of6
      obtain ⟨⟨cx0, cx1, cx2, cx3, cx4, cx5⟩, dx0, dx1, dx2, dx3, dx4, dx5⟩ := Kx3.out.of6
      have Ko4 := Lib.hid (show Blk (v3.setCell ⟨g_x, 0, none⟩ (.int .i64 n)) g_o [.int .i64 m, .int .i64 c, .bool k, .bool true, .int .i64 v, .int .i64 u] from (Ko3.out.setOther ⟨g_x, 0, none⟩ (.int .i64 n) (n_o_x)))
      have Kr4 := Lib.hid (show Blk (v3.setCell ⟨g_x, 0, none⟩ (.int .i64 n)) g_r [.int .i64 0, .int .i64 0, .bool false, .bool false, .int .i64 0, .int .i64 0] from (Kr3.out.setOther ⟨g_x, 0, none⟩ (.int .i64 n) (n_r_x)))
      have Kx4 := Lib.hid (show Blk (v3.setCell ⟨g_x, 0, none⟩ (.int .i64 n)) g_x [.int .i64 n, .int .i64 (-1), .bool false, .bool false, .int .i64 0, .int .i64 0] from (Kx3.out.set 0 (.int .i64 n)))
      have B4 := Lib.hid (show Below w.heap.size w (v3.setCell ⟨g_x, 0, none⟩ (.int .i64 n)) from (B3.out.setCell l_x (.int .i64 n)))
      clear B3
      go_wp2_with fail
      clear Ko3 Kr3 Kx3
      clear co0 co1 co2 co3 co4 co5 do0 do1 do2 do3 do4 do5 cr0 cr1 cr2 cr3 cr4 cr5 dr0 dr1 dr2 dr3 dr4 dr5 cx0 cx1 cx2 cx3 cx4 cx5 dx0 dx1 dx2 dx3 dx4 dx5
      change Calls _ _ _ (v3.setCell ⟨g_x, 0, none⟩ (.int .i64 n)) _
      generalize v3.setCell ⟨g_x, 0, none⟩ (.int .i64 n) = v4 at B4 Ko4 Kr4 Kx4 ⊢
      refine (Q.out _).mono ?_
      rintro e v5 ⟨rfl, hb⟩
      have B5 := Lib.hid (B4.out.trans (hb.mono B4.out.size))
      have Ko5 := Lib.hid (Ko4.out.below hb)
      have Kr5 := Lib.hid (Kr4.out.below hb)
      have Kx5 := Lib.hid (Kx4.out.below hb)
      clear hb B4 Ko4 Kr4 Kx4
      obtain ⟨⟨co0, co1, co2, co3, co4, co5⟩, do0, do1, do2, do3, do4, do5⟩ := Ko5.out.of6
      obtain ⟨⟨cr0, cr1, cr2, cr3, cr4, cr5⟩, dr0, dr1, dr2, dr3, dr4, dr5⟩ := Kr5.out.of6
      obtain ⟨⟨cx0, cx1, cx2, cx3, cx4, cx5⟩, dx0, dx1, dx2, dx3, dx4, dx5⟩ := Kx5.out.of6
      go_wp2_with fail
      exact bodyPost_ret (v := .agg #[.int .i64 n, .int .i64 a, .bool b, .bool true, .int .i64 v, .int .i64 0]) (by simp [results, Try.results22, go_sem, cr0, cr1, cr2, cr3, cr4, cr5]) rfl ⟨congrArg Ending.returned hz.out, ((((((((((B5.out.setCell l_x _).setCell l_x _).setCell l_x _).setCell l_x _).setCell l_r _).setCell l_r _).setCell l_r _).setCell l_r _).setCell l_r _).setCell l_r _)⟩

set_option maxRecDepth 100000 in
set_option maxHeartbeats 4000000 in
theorem lrnOptS (i m c : Int) (k t : Bool) (v u : Int) (w : World) :
    Calls Try.prog 23 #[.int .i64 i, .agg #[.int .i64 m, .int .i64 c, .bool k, .bool t, .int .i64 v, .int .i64 u]] w (EndV (.agg (lrnOpt i t v u).cs) w) := by
  obtain ⟨z, hz⟩ : ∃ z : Value, Value.agg (lrnOpt i t v u).cs = z := ⟨_, rfl⟩
  rw [hz]
  have M := Lib.hid (mssOfS i)
  have Q := Lib.hid (stampInS u)
  unfold lrnOpt at hz
  generalize mssAt i = n at M hz
  cases t with
  | false =>
    simp only [Bool.false_and, cond_false] at hz
    have hz := Lib.hid hz
    cases h : stampIs u with
    | false =>
      rw [stampAns_no h] at Q
      clear h
      go_enter Try.func23, Try.ntmps23
      have B0 := Lib.hid (show Below w.heap.size w ((w.alloc (.cells #[.int .i64 m, .int .i64 c, .bool k, .bool false, .int .i64 v, .int .i64 u] 32)).alloc (.cells #[.int .i64 0, .int .i64 0, .bool false, .bool false, .int .i64 0, .int .i64 0] 32)) from (((Below.refl _ w).alloc (by simp) _).alloc (by simp) _))
      have Ko0 := Lib.hid (show Blk ((w.alloc (.cells #[.int .i64 m, .int .i64 c, .bool k, .bool false, .int .i64 v, .int .i64 u] 32)).alloc (.cells #[.int .i64 0, .int .i64 0, .bool false, .bool false, .int .i64 0, .int .i64 0] 32)) (w.heap.size) [.int .i64 m, .int .i64 c, .bool k, .bool false, .int .i64 v, .int .i64 u] from (Blk.new w [.int .i64 m, .int .i64 c, .bool k, .bool false, .int .i64 v, .int .i64 u] 32).alloc (.cells #[.int .i64 0, .int .i64 0, .bool false, .bool false, .int .i64 0, .int .i64 0] 32))
      have s1 : (w.alloc (.cells #[.int .i64 m, .int .i64 c, .bool k, .bool false, .int .i64 v, .int .i64 u] 32)).heap.size = w.heap.size + 1 := by simp
      have Kr0 := Lib.hid (show Blk ((w.alloc (.cells #[.int .i64 m, .int .i64 c, .bool k, .bool false, .int .i64 v, .int .i64 u] 32)).alloc (.cells #[.int .i64 0, .int .i64 0, .bool false, .bool false, .int .i64 0, .int .i64 0] 32)) (w.heap.size + 1) [.int .i64 0, .int .i64 0, .bool false, .bool false, .int .i64 0, .int .i64 0] by have h0 := Blk.new (w.alloc (.cells #[.int .i64 m, .int .i64 c, .bool k, .bool false, .int .i64 v, .int .i64 u] 32)) [.int .i64 0, .int .i64 0, .bool false, .bool false, .int .i64 0, .int .i64 0] 32; rwa [s1] at h0)
      have n_o_r : w.heap.size ≠ w.heap.size + 1 := by omega
      clear s1
      go_wp2_with fail
      change Calls _ _ _ ((w.alloc (.cells #[.int .i64 m, .int .i64 c, .bool k, .bool false, .int .i64 v, .int .i64 u] 32)).alloc (.cells #[.int .i64 0, .int .i64 0, .bool false, .bool false, .int .i64 0, .int .i64 0] 32)) _
      generalize (w.alloc (.cells #[.int .i64 m, .int .i64 c, .bool k, .bool false, .int .i64 v, .int .i64 u] 32)).alloc (.cells #[.int .i64 0, .int .i64 0, .bool false, .bool false, .int .i64 0, .int .i64 0] 32) = v0 at B0 Ko0 Kr0 ⊢
      generalize hh_r : w.heap.size + 1 = g_r at Kr0 n_o_r ⊢
      generalize hh_o : w.heap.size = g_o at Ko0 n_o_r ⊢
      have l_o : w.heap.size ≤ g_o := by omega
      have l_r : w.heap.size ≤ g_r := by omega
      clear hh_o hh_r
      refine (noOptionsS _).mono ?_
      rintro e v1 ⟨rfl, hb⟩
      have B1 := Lib.hid (B0.out.trans (hb.mono B0.out.size))
      have Ko1 := Lib.hid (Ko0.out.below hb)
      have Kr1 := Lib.hid (Kr0.out.below hb)
      clear hb B0 Ko0 Kr0
      have Kxn := Lib.hid (Blk.new v1 [.int .i64 0, .int .i64 (-1), .bool false, .bool false, .int .i64 0, .int .i64 0] 32)
      have l_x : w.heap.size ≤ v1.heap.size := B1.out.size
      have n_o_x : g_o ≠ v1.heap.size := by have h1 := Ko1.out.lt; omega
      have n_r_x : g_r ≠ v1.heap.size := by have h1 := Kr1.out.lt; omega
      have Bn := Lib.hid (B1.out.alloc B1.out.size (.cells #[.int .i64 0, .int .i64 (-1), .bool false, .bool false, .int .i64 0, .int .i64 0] 32))
      have Kon := Lib.hid (Ko1.out.alloc (.cells #[.int .i64 0, .int .i64 (-1), .bool false, .bool false, .int .i64 0, .int .i64 0] 32))
      have Krn := Lib.hid (Kr1.out.alloc (.cells #[.int .i64 0, .int .i64 (-1), .bool false, .bool false, .int .i64 0, .int .i64 0] 32))
      clear B1 Ko1 Kr1
      obtain ⟨⟨co0, co1, co2, co3, co4, co5⟩, do0, do1, do2, do3, do4, do5⟩ := Kon.out.of6
      obtain ⟨⟨cr0, cr1, cr2, cr3, cr4, cr5⟩, dr0, dr1, dr2, dr3, dr4, dr5⟩ := Krn.out.of6
      go_wp2_with fail
      clear co0 co1 co2 co3 co4 co5 do0 do1 do2 do3 do4 do5 cr0 cr1 cr2 cr3 cr4 cr5 dr0 dr1 dr2 dr3 dr4 dr5
      change Calls _ _ _ (v1.alloc (.cells #[.int .i64 0, .int .i64 (-1), .bool false, .bool false, .int .i64 0, .int .i64 0] 32)) _
      generalize v1.alloc (.cells #[.int .i64 0, .int .i64 (-1), .bool false, .bool false, .int .i64 0, .int .i64 0] 32) = v2 at Kxn Bn Kon Krn ⊢
      generalize v1.heap.size = g_x at Kxn l_x n_o_x n_r_x ⊢
      clear v1
      have Ko2 := Kon
      clear Kon
      have Kr2 := Krn
      clear Krn
      have Kx2 := Kxn
      clear Kxn
      have B2 := Bn
      clear Bn
      refine (M.out _).mono ?_
      rintro e v3 ⟨rfl, hb⟩
      have B3 := Lib.hid (B2.out.trans (hb.mono B2.out.size))
      have Ko3 := Lib.hid (Ko2.out.below hb)
      have Kr3 := Lib.hid (Kr2.out.below hb)
      have Kx3 := Lib.hid (Kx2.out.below hb)
      clear hb B2 Ko2 Kr2 Kx2
      obtain ⟨⟨co0, co1, co2, co3, co4, co5⟩, do0, do1, do2, do3, do4, do5⟩ := Ko3.out.of6
      obtain ⟨⟨cr0, cr1, cr2, cr3, cr4, cr5⟩, dr0, dr1, dr2, dr3, dr4, dr5⟩ := Kr3.out.of6
      obtain ⟨⟨cx0, cx1, cx2, cx3, cx4, cx5⟩, dx0, dx1, dx2, dx3, dx4, dx5⟩ := Kx3.out.of6
      have Ko4 := Lib.hid (show Blk (v3.setCell ⟨g_x, 0, none⟩ (.int .i64 n)) g_o [.int .i64 m, .int .i64 c, .bool k, .bool false, .int .i64 v, .int .i64 u] from (Ko3.out.setOther ⟨g_x, 0, none⟩ (.int .i64 n) (n_o_x)))
      have Kr4 := Lib.hid (show Blk (v3.setCell ⟨g_x, 0, none⟩ (.int .i64 n)) g_r [.int .i64 0, .int .i64 0, .bool false, .bool false, .int .i64 0, .int .i64 0] from (Kr3.out.setOther ⟨g_x, 0, none⟩ (.int .i64 n) (n_r_x)))
      have Kx4 := Lib.hid (show Blk (v3.setCell ⟨g_x, 0, none⟩ (.int .i64 n)) g_x [.int .i64 n, .int .i64 (-1), .bool false, .bool false, .int .i64 0, .int .i64 0] from (Kx3.out.set 0 (.int .i64 n)))
      have B4 := Lib.hid (show Below w.heap.size w (v3.setCell ⟨g_x, 0, none⟩ (.int .i64 n)) from (B3.out.setCell l_x (.int .i64 n)))
      clear B3
      go_wp2_with fail
      clear Ko3 Kr3 Kx3
      clear co0 co1 co2 co3 co4 co5 do0 do1 do2 do3 do4 do5 cr0 cr1 cr2 cr3 cr4 cr5 dr0 dr1 dr2 dr3 dr4 dr5 cx0 cx1 cx2 cx3 cx4 cx5 dx0 dx1 dx2 dx3 dx4 dx5
      change Calls _ _ _ (v3.setCell ⟨g_x, 0, none⟩ (.int .i64 n)) _
      generalize v3.setCell ⟨g_x, 0, none⟩ (.int .i64 n) = v4 at B4 Ko4 Kr4 Kx4 ⊢
      refine (Q.out _).mono ?_
      rintro e v5 ⟨rfl, hb⟩
      have B5 := Lib.hid (B4.out.trans (hb.mono B4.out.size))
      have Ko5 := Lib.hid (Ko4.out.below hb)
      have Kr5 := Lib.hid (Kr4.out.below hb)
      have Kx5 := Lib.hid (Kx4.out.below hb)
      clear hb B4 Ko4 Kr4 Kx4
      obtain ⟨⟨co0, co1, co2, co3, co4, co5⟩, do0, do1, do2, do3, do4, do5⟩ := Ko5.out.of6
      obtain ⟨⟨cr0, cr1, cr2, cr3, cr4, cr5⟩, dr0, dr1, dr2, dr3, dr4, dr5⟩ := Kr5.out.of6
      obtain ⟨⟨cx0, cx1, cx2, cx3, cx4, cx5⟩, dx0, dx1, dx2, dx3, dx4, dx5⟩ := Kx5.out.of6
      go_wp2_with fail
      exact bodyPost_ret (v := .agg #[.int .i64 n, .int .i64 (-1), .bool false, .bool false, .int .i64 0, .int .i64 0]) (by simp [results, Try.results23, go_sem, cr0, cr1, cr2, cr3, cr4, cr5]) rfl ⟨congrArg Ending.returned hz.out, ((((((B5.out.setCell l_r _).setCell l_r _).setCell l_r _).setCell l_r _).setCell l_r _).setCell l_r _)⟩
    | true =>
      rw [stampAns_yes h] at Q
      clear h
      generalize stampScale u = a at Q
      generalize stampSack u = b at Q
      go_enter Try.func23, Try.ntmps23
      have B0 := Lib.hid (show Below w.heap.size w ((w.alloc (.cells #[.int .i64 m, .int .i64 c, .bool k, .bool false, .int .i64 v, .int .i64 u] 32)).alloc (.cells #[.int .i64 0, .int .i64 0, .bool false, .bool false, .int .i64 0, .int .i64 0] 32)) from (((Below.refl _ w).alloc (by simp) _).alloc (by simp) _))
      have Ko0 := Lib.hid (show Blk ((w.alloc (.cells #[.int .i64 m, .int .i64 c, .bool k, .bool false, .int .i64 v, .int .i64 u] 32)).alloc (.cells #[.int .i64 0, .int .i64 0, .bool false, .bool false, .int .i64 0, .int .i64 0] 32)) (w.heap.size) [.int .i64 m, .int .i64 c, .bool k, .bool false, .int .i64 v, .int .i64 u] from (Blk.new w [.int .i64 m, .int .i64 c, .bool k, .bool false, .int .i64 v, .int .i64 u] 32).alloc (.cells #[.int .i64 0, .int .i64 0, .bool false, .bool false, .int .i64 0, .int .i64 0] 32))
      have s1 : (w.alloc (.cells #[.int .i64 m, .int .i64 c, .bool k, .bool false, .int .i64 v, .int .i64 u] 32)).heap.size = w.heap.size + 1 := by simp
      have Kr0 := Lib.hid (show Blk ((w.alloc (.cells #[.int .i64 m, .int .i64 c, .bool k, .bool false, .int .i64 v, .int .i64 u] 32)).alloc (.cells #[.int .i64 0, .int .i64 0, .bool false, .bool false, .int .i64 0, .int .i64 0] 32)) (w.heap.size + 1) [.int .i64 0, .int .i64 0, .bool false, .bool false, .int .i64 0, .int .i64 0] by have h0 := Blk.new (w.alloc (.cells #[.int .i64 m, .int .i64 c, .bool k, .bool false, .int .i64 v, .int .i64 u] 32)) [.int .i64 0, .int .i64 0, .bool false, .bool false, .int .i64 0, .int .i64 0] 32; rwa [s1] at h0)
      have n_o_r : w.heap.size ≠ w.heap.size + 1 := by omega
      clear s1
      go_wp2_with fail
      change Calls _ _ _ ((w.alloc (.cells #[.int .i64 m, .int .i64 c, .bool k, .bool false, .int .i64 v, .int .i64 u] 32)).alloc (.cells #[.int .i64 0, .int .i64 0, .bool false, .bool false, .int .i64 0, .int .i64 0] 32)) _
      generalize (w.alloc (.cells #[.int .i64 m, .int .i64 c, .bool k, .bool false, .int .i64 v, .int .i64 u] 32)).alloc (.cells #[.int .i64 0, .int .i64 0, .bool false, .bool false, .int .i64 0, .int .i64 0] 32) = v0 at B0 Ko0 Kr0 ⊢
      generalize hh_r : w.heap.size + 1 = g_r at Kr0 n_o_r ⊢
      generalize hh_o : w.heap.size = g_o at Ko0 n_o_r ⊢
      have l_o : w.heap.size ≤ g_o := by omega
      have l_r : w.heap.size ≤ g_r := by omega
      clear hh_o hh_r
      refine (noOptionsS _).mono ?_
      rintro e v1 ⟨rfl, hb⟩
      have B1 := Lib.hid (B0.out.trans (hb.mono B0.out.size))
      have Ko1 := Lib.hid (Ko0.out.below hb)
      have Kr1 := Lib.hid (Kr0.out.below hb)
      clear hb B0 Ko0 Kr0
      have Kxn := Lib.hid (Blk.new v1 [.int .i64 0, .int .i64 (-1), .bool false, .bool false, .int .i64 0, .int .i64 0] 32)
      have l_x : w.heap.size ≤ v1.heap.size := B1.out.size
      have n_o_x : g_o ≠ v1.heap.size := by have h1 := Ko1.out.lt; omega
      have n_r_x : g_r ≠ v1.heap.size := by have h1 := Kr1.out.lt; omega
      have Bn := Lib.hid (B1.out.alloc B1.out.size (.cells #[.int .i64 0, .int .i64 (-1), .bool false, .bool false, .int .i64 0, .int .i64 0] 32))
      have Kon := Lib.hid (Ko1.out.alloc (.cells #[.int .i64 0, .int .i64 (-1), .bool false, .bool false, .int .i64 0, .int .i64 0] 32))
      have Krn := Lib.hid (Kr1.out.alloc (.cells #[.int .i64 0, .int .i64 (-1), .bool false, .bool false, .int .i64 0, .int .i64 0] 32))
      clear B1 Ko1 Kr1
      obtain ⟨⟨co0, co1, co2, co3, co4, co5⟩, do0, do1, do2, do3, do4, do5⟩ := Kon.out.of6
      obtain ⟨⟨cr0, cr1, cr2, cr3, cr4, cr5⟩, dr0, dr1, dr2, dr3, dr4, dr5⟩ := Krn.out.of6
      go_wp2_with fail
      clear co0 co1 co2 co3 co4 co5 do0 do1 do2 do3 do4 do5 cr0 cr1 cr2 cr3 cr4 cr5 dr0 dr1 dr2 dr3 dr4 dr5
      change Calls _ _ _ (v1.alloc (.cells #[.int .i64 0, .int .i64 (-1), .bool false, .bool false, .int .i64 0, .int .i64 0] 32)) _
      generalize v1.alloc (.cells #[.int .i64 0, .int .i64 (-1), .bool false, .bool false, .int .i64 0, .int .i64 0] 32) = v2 at Kxn Bn Kon Krn ⊢
      generalize v1.heap.size = g_x at Kxn l_x n_o_x n_r_x ⊢
      clear v1
      have Ko2 := Kon
      clear Kon
      have Kr2 := Krn
      clear Krn
      have Kx2 := Kxn
      clear Kxn
      have B2 := Bn
      clear Bn
      refine (M.out _).mono ?_
      rintro e v3 ⟨rfl, hb⟩
      have B3 := Lib.hid (B2.out.trans (hb.mono B2.out.size))
      have Ko3 := Lib.hid (Ko2.out.below hb)
      have Kr3 := Lib.hid (Kr2.out.below hb)
      have Kx3 := Lib.hid (Kx2.out.below hb)
      clear hb B2 Ko2 Kr2 Kx2
      obtain ⟨⟨co0, co1, co2, co3, co4, co5⟩, do0, do1, do2, do3, do4, do5⟩ := Ko3.out.of6
      obtain ⟨⟨cr0, cr1, cr2, cr3, cr4, cr5⟩, dr0, dr1, dr2, dr3, dr4, dr5⟩ := Kr3.out.of6
      obtain ⟨⟨cx0, cx1, cx2, cx3, cx4, cx5⟩, dx0, dx1, dx2, dx3, dx4, dx5⟩ := Kx3.out.of6
      have Ko4 := Lib.hid (show Blk (v3.setCell ⟨g_x, 0, none⟩ (.int .i64 n)) g_o [.int .i64 m, .int .i64 c, .bool k, .bool false, .int .i64 v, .int .i64 u] from (Ko3.out.setOther ⟨g_x, 0, none⟩ (.int .i64 n) (n_o_x)))
      have Kr4 := Lib.hid (show Blk (v3.setCell ⟨g_x, 0, none⟩ (.int .i64 n)) g_r [.int .i64 0, .int .i64 0, .bool false, .bool false, .int .i64 0, .int .i64 0] from (Kr3.out.setOther ⟨g_x, 0, none⟩ (.int .i64 n) (n_r_x)))
      have Kx4 := Lib.hid (show Blk (v3.setCell ⟨g_x, 0, none⟩ (.int .i64 n)) g_x [.int .i64 n, .int .i64 (-1), .bool false, .bool false, .int .i64 0, .int .i64 0] from (Kx3.out.set 0 (.int .i64 n)))
      have B4 := Lib.hid (show Below w.heap.size w (v3.setCell ⟨g_x, 0, none⟩ (.int .i64 n)) from (B3.out.setCell l_x (.int .i64 n)))
      clear B3
      go_wp2_with fail
      clear Ko3 Kr3 Kx3
      clear co0 co1 co2 co3 co4 co5 do0 do1 do2 do3 do4 do5 cr0 cr1 cr2 cr3 cr4 cr5 dr0 dr1 dr2 dr3 dr4 dr5 cx0 cx1 cx2 cx3 cx4 cx5 dx0 dx1 dx2 dx3 dx4 dx5
      change Calls _ _ _ (v3.setCell ⟨g_x, 0, none⟩ (.int .i64 n)) _
      generalize v3.setCell ⟨g_x, 0, none⟩ (.int .i64 n) = v4 at B4 Ko4 Kr4 Kx4 ⊢
      refine (Q.out _).mono ?_
      rintro e v5 ⟨rfl, hb⟩
      have B5 := Lib.hid (B4.out.trans (hb.mono B4.out.size))
      have Ko5 := Lib.hid (Ko4.out.below hb)
      have Kr5 := Lib.hid (Kr4.out.below hb)
      have Kx5 := Lib.hid (Kx4.out.below hb)
      clear hb B4 Ko4 Kr4 Kx4
      obtain ⟨⟨co0, co1, co2, co3, co4, co5⟩, do0, do1, do2, do3, do4, do5⟩ := Ko5.out.of6
      obtain ⟨⟨cr0, cr1, cr2, cr3, cr4, cr5⟩, dr0, dr1, dr2, dr3, dr4, dr5⟩ := Kr5.out.of6
      obtain ⟨⟨cx0, cx1, cx2, cx3, cx4, cx5⟩, dx0, dx1, dx2, dx3, dx4, dx5⟩ := Kx5.out.of6
      go_wp2_with fail
      exact bodyPost_ret (v := .agg #[.int .i64 n, .int .i64 (-1), .bool false, .bool false, .int .i64 0, .int .i64 0]) (by simp [results, Try.results23, go_sem, cr0, cr1, cr2, cr3, cr4, cr5]) rfl ⟨congrArg Ending.returned hz.out, ((((((B5.out.setCell l_r _).setCell l_r _).setCell l_r _).setCell l_r _).setCell l_r _).setCell l_r _)⟩
  | true =>
    cases h : stampIs u with
    | false =>
      rw [stampAns_no h] at Q
      rw [h] at hz
      have hz := Lib.hid hz
      clear h
      go_enter Try.func23, Try.ntmps23
      have B0 := Lib.hid (show Below w.heap.size w ((w.alloc (.cells #[.int .i64 m, .int .i64 c, .bool k, .bool true, .int .i64 v, .int .i64 u] 32)).alloc (.cells #[.int .i64 0, .int .i64 0, .bool false, .bool false, .int .i64 0, .int .i64 0] 32)) from (((Below.refl _ w).alloc (by simp) _).alloc (by simp) _))
      have Ko0 := Lib.hid (show Blk ((w.alloc (.cells #[.int .i64 m, .int .i64 c, .bool k, .bool true, .int .i64 v, .int .i64 u] 32)).alloc (.cells #[.int .i64 0, .int .i64 0, .bool false, .bool false, .int .i64 0, .int .i64 0] 32)) (w.heap.size) [.int .i64 m, .int .i64 c, .bool k, .bool true, .int .i64 v, .int .i64 u] from (Blk.new w [.int .i64 m, .int .i64 c, .bool k, .bool true, .int .i64 v, .int .i64 u] 32).alloc (.cells #[.int .i64 0, .int .i64 0, .bool false, .bool false, .int .i64 0, .int .i64 0] 32))
      have s1 : (w.alloc (.cells #[.int .i64 m, .int .i64 c, .bool k, .bool true, .int .i64 v, .int .i64 u] 32)).heap.size = w.heap.size + 1 := by simp
      have Kr0 := Lib.hid (show Blk ((w.alloc (.cells #[.int .i64 m, .int .i64 c, .bool k, .bool true, .int .i64 v, .int .i64 u] 32)).alloc (.cells #[.int .i64 0, .int .i64 0, .bool false, .bool false, .int .i64 0, .int .i64 0] 32)) (w.heap.size + 1) [.int .i64 0, .int .i64 0, .bool false, .bool false, .int .i64 0, .int .i64 0] by have h0 := Blk.new (w.alloc (.cells #[.int .i64 m, .int .i64 c, .bool k, .bool true, .int .i64 v, .int .i64 u] 32)) [.int .i64 0, .int .i64 0, .bool false, .bool false, .int .i64 0, .int .i64 0] 32; rwa [s1] at h0)
      have n_o_r : w.heap.size ≠ w.heap.size + 1 := by omega
      clear s1
      go_wp2_with fail
      change Calls _ _ _ ((w.alloc (.cells #[.int .i64 m, .int .i64 c, .bool k, .bool true, .int .i64 v, .int .i64 u] 32)).alloc (.cells #[.int .i64 0, .int .i64 0, .bool false, .bool false, .int .i64 0, .int .i64 0] 32)) _
      generalize (w.alloc (.cells #[.int .i64 m, .int .i64 c, .bool k, .bool true, .int .i64 v, .int .i64 u] 32)).alloc (.cells #[.int .i64 0, .int .i64 0, .bool false, .bool false, .int .i64 0, .int .i64 0] 32) = v0 at B0 Ko0 Kr0 ⊢
      generalize hh_r : w.heap.size + 1 = g_r at Kr0 n_o_r ⊢
      generalize hh_o : w.heap.size = g_o at Ko0 n_o_r ⊢
      have l_o : w.heap.size ≤ g_o := by omega
      have l_r : w.heap.size ≤ g_r := by omega
      clear hh_o hh_r
      refine (noOptionsS _).mono ?_
      rintro e v1 ⟨rfl, hb⟩
      have B1 := Lib.hid (B0.out.trans (hb.mono B0.out.size))
      have Ko1 := Lib.hid (Ko0.out.below hb)
      have Kr1 := Lib.hid (Kr0.out.below hb)
      clear hb B0 Ko0 Kr0
      have Kxn := Lib.hid (Blk.new v1 [.int .i64 0, .int .i64 (-1), .bool false, .bool false, .int .i64 0, .int .i64 0] 32)
      have l_x : w.heap.size ≤ v1.heap.size := B1.out.size
      have n_o_x : g_o ≠ v1.heap.size := by have h1 := Ko1.out.lt; omega
      have n_r_x : g_r ≠ v1.heap.size := by have h1 := Kr1.out.lt; omega
      have Bn := Lib.hid (B1.out.alloc B1.out.size (.cells #[.int .i64 0, .int .i64 (-1), .bool false, .bool false, .int .i64 0, .int .i64 0] 32))
      have Kon := Lib.hid (Ko1.out.alloc (.cells #[.int .i64 0, .int .i64 (-1), .bool false, .bool false, .int .i64 0, .int .i64 0] 32))
      have Krn := Lib.hid (Kr1.out.alloc (.cells #[.int .i64 0, .int .i64 (-1), .bool false, .bool false, .int .i64 0, .int .i64 0] 32))
      clear B1 Ko1 Kr1
      obtain ⟨⟨co0, co1, co2, co3, co4, co5⟩, do0, do1, do2, do3, do4, do5⟩ := Kon.out.of6
      obtain ⟨⟨cr0, cr1, cr2, cr3, cr4, cr5⟩, dr0, dr1, dr2, dr3, dr4, dr5⟩ := Krn.out.of6
      go_wp2_with fail
      clear co0 co1 co2 co3 co4 co5 do0 do1 do2 do3 do4 do5 cr0 cr1 cr2 cr3 cr4 cr5 dr0 dr1 dr2 dr3 dr4 dr5
      change Calls _ _ _ (v1.alloc (.cells #[.int .i64 0, .int .i64 (-1), .bool false, .bool false, .int .i64 0, .int .i64 0] 32)) _
      generalize v1.alloc (.cells #[.int .i64 0, .int .i64 (-1), .bool false, .bool false, .int .i64 0, .int .i64 0] 32) = v2 at Kxn Bn Kon Krn ⊢
      generalize v1.heap.size = g_x at Kxn l_x n_o_x n_r_x ⊢
      clear v1
      have Ko2 := Kon
      clear Kon
      have Kr2 := Krn
      clear Krn
      have Kx2 := Kxn
      clear Kxn
      have B2 := Bn
      clear Bn
      refine (M.out _).mono ?_
      rintro e v3 ⟨rfl, hb⟩
      have B3 := Lib.hid (B2.out.trans (hb.mono B2.out.size))
      have Ko3 := Lib.hid (Ko2.out.below hb)
      have Kr3 := Lib.hid (Kr2.out.below hb)
      have Kx3 := Lib.hid (Kx2.out.below hb)
      clear hb B2 Ko2 Kr2 Kx2
      obtain ⟨⟨co0, co1, co2, co3, co4, co5⟩, do0, do1, do2, do3, do4, do5⟩ := Ko3.out.of6
      obtain ⟨⟨cr0, cr1, cr2, cr3, cr4, cr5⟩, dr0, dr1, dr2, dr3, dr4, dr5⟩ := Kr3.out.of6
      obtain ⟨⟨cx0, cx1, cx2, cx3, cx4, cx5⟩, dx0, dx1, dx2, dx3, dx4, dx5⟩ := Kx3.out.of6
      have Ko4 := Lib.hid (show Blk (v3.setCell ⟨g_x, 0, none⟩ (.int .i64 n)) g_o [.int .i64 m, .int .i64 c, .bool k, .bool true, .int .i64 v, .int .i64 u] from (Ko3.out.setOther ⟨g_x, 0, none⟩ (.int .i64 n) (n_o_x)))
      have Kr4 := Lib.hid (show Blk (v3.setCell ⟨g_x, 0, none⟩ (.int .i64 n)) g_r [.int .i64 0, .int .i64 0, .bool false, .bool false, .int .i64 0, .int .i64 0] from (Kr3.out.setOther ⟨g_x, 0, none⟩ (.int .i64 n) (n_r_x)))
      have Kx4 := Lib.hid (show Blk (v3.setCell ⟨g_x, 0, none⟩ (.int .i64 n)) g_x [.int .i64 n, .int .i64 (-1), .bool false, .bool false, .int .i64 0, .int .i64 0] from (Kx3.out.set 0 (.int .i64 n)))
      have B4 := Lib.hid (show Below w.heap.size w (v3.setCell ⟨g_x, 0, none⟩ (.int .i64 n)) from (B3.out.setCell l_x (.int .i64 n)))
      clear B3
      go_wp2_with fail
      clear Ko3 Kr3 Kx3
      clear co0 co1 co2 co3 co4 co5 do0 do1 do2 do3 do4 do5 cr0 cr1 cr2 cr3 cr4 cr5 dr0 dr1 dr2 dr3 dr4 dr5 cx0 cx1 cx2 cx3 cx4 cx5 dx0 dx1 dx2 dx3 dx4 dx5
      change Calls _ _ _ (v3.setCell ⟨g_x, 0, none⟩ (.int .i64 n)) _
      generalize v3.setCell ⟨g_x, 0, none⟩ (.int .i64 n) = v4 at B4 Ko4 Kr4 Kx4 ⊢
      refine (Q.out _).mono ?_
      rintro e v5 ⟨rfl, hb⟩
      have B5 := Lib.hid (B4.out.trans (hb.mono B4.out.size))
      have Ko5 := Lib.hid (Ko4.out.below hb)
      have Kr5 := Lib.hid (Kr4.out.below hb)
      have Kx5 := Lib.hid (Kx4.out.below hb)
      clear hb B4 Ko4 Kr4 Kx4
      obtain ⟨⟨co0, co1, co2, co3, co4, co5⟩, do0, do1, do2, do3, do4, do5⟩ := Ko5.out.of6
      obtain ⟨⟨cr0, cr1, cr2, cr3, cr4, cr5⟩, dr0, dr1, dr2, dr3, dr4, dr5⟩ := Kr5.out.of6
      obtain ⟨⟨cx0, cx1, cx2, cx3, cx4, cx5⟩, dx0, dx1, dx2, dx3, dx4, dx5⟩ := Kx5.out.of6
      go_wp2_with fail
      exact bodyPost_ret (v := .agg #[.int .i64 n, .int .i64 (-1), .bool false, .bool false, .int .i64 0, .int .i64 0]) (by simp [results, Try.results23, go_sem, cr0, cr1, cr2, cr3, cr4, cr5]) rfl ⟨congrArg Ending.returned hz.out, ((((((B5.out.setCell l_r _).setCell l_r _).setCell l_r _).setCell l_r _).setCell l_r _).setCell l_r _)⟩
    | true =>
      rw [stampAns_yes h] at Q
      rw [h] at hz
      generalize stampScale u = a at Q hz
      generalize stampSack u = b at Q hz
      have hz := Lib.hid hz
      clear h
      go_enter Try.func23, Try.ntmps23
      have B0 := Lib.hid (show Below w.heap.size w ((w.alloc (.cells #[.int .i64 m, .int .i64 c, .bool k, .bool true, .int .i64 v, .int .i64 u] 32)).alloc (.cells #[.int .i64 0, .int .i64 0, .bool false, .bool false, .int .i64 0, .int .i64 0] 32)) from (((Below.refl _ w).alloc (by simp) _).alloc (by simp) _))
      have Ko0 := Lib.hid (show Blk ((w.alloc (.cells #[.int .i64 m, .int .i64 c, .bool k, .bool true, .int .i64 v, .int .i64 u] 32)).alloc (.cells #[.int .i64 0, .int .i64 0, .bool false, .bool false, .int .i64 0, .int .i64 0] 32)) (w.heap.size) [.int .i64 m, .int .i64 c, .bool k, .bool true, .int .i64 v, .int .i64 u] from (Blk.new w [.int .i64 m, .int .i64 c, .bool k, .bool true, .int .i64 v, .int .i64 u] 32).alloc (.cells #[.int .i64 0, .int .i64 0, .bool false, .bool false, .int .i64 0, .int .i64 0] 32))
      have s1 : (w.alloc (.cells #[.int .i64 m, .int .i64 c, .bool k, .bool true, .int .i64 v, .int .i64 u] 32)).heap.size = w.heap.size + 1 := by simp
      have Kr0 := Lib.hid (show Blk ((w.alloc (.cells #[.int .i64 m, .int .i64 c, .bool k, .bool true, .int .i64 v, .int .i64 u] 32)).alloc (.cells #[.int .i64 0, .int .i64 0, .bool false, .bool false, .int .i64 0, .int .i64 0] 32)) (w.heap.size + 1) [.int .i64 0, .int .i64 0, .bool false, .bool false, .int .i64 0, .int .i64 0] by have h0 := Blk.new (w.alloc (.cells #[.int .i64 m, .int .i64 c, .bool k, .bool true, .int .i64 v, .int .i64 u] 32)) [.int .i64 0, .int .i64 0, .bool false, .bool false, .int .i64 0, .int .i64 0] 32; rwa [s1] at h0)
      have n_o_r : w.heap.size ≠ w.heap.size + 1 := by omega
      clear s1
      go_wp2_with fail
      change Calls _ _ _ ((w.alloc (.cells #[.int .i64 m, .int .i64 c, .bool k, .bool true, .int .i64 v, .int .i64 u] 32)).alloc (.cells #[.int .i64 0, .int .i64 0, .bool false, .bool false, .int .i64 0, .int .i64 0] 32)) _
      generalize (w.alloc (.cells #[.int .i64 m, .int .i64 c, .bool k, .bool true, .int .i64 v, .int .i64 u] 32)).alloc (.cells #[.int .i64 0, .int .i64 0, .bool false, .bool false, .int .i64 0, .int .i64 0] 32) = v0 at B0 Ko0 Kr0 ⊢
      generalize hh_r : w.heap.size + 1 = g_r at Kr0 n_o_r ⊢
      generalize hh_o : w.heap.size = g_o at Ko0 n_o_r ⊢
      have l_o : w.heap.size ≤ g_o := by omega
      have l_r : w.heap.size ≤ g_r := by omega
      clear hh_o hh_r
      refine (noOptionsS _).mono ?_
      rintro e v1 ⟨rfl, hb⟩
      have B1 := Lib.hid (B0.out.trans (hb.mono B0.out.size))
      have Ko1 := Lib.hid (Ko0.out.below hb)
      have Kr1 := Lib.hid (Kr0.out.below hb)
      clear hb B0 Ko0 Kr0
      have Kxn := Lib.hid (Blk.new v1 [.int .i64 0, .int .i64 (-1), .bool false, .bool false, .int .i64 0, .int .i64 0] 32)
      have l_x : w.heap.size ≤ v1.heap.size := B1.out.size
      have n_o_x : g_o ≠ v1.heap.size := by have h1 := Ko1.out.lt; omega
      have n_r_x : g_r ≠ v1.heap.size := by have h1 := Kr1.out.lt; omega
      have Bn := Lib.hid (B1.out.alloc B1.out.size (.cells #[.int .i64 0, .int .i64 (-1), .bool false, .bool false, .int .i64 0, .int .i64 0] 32))
      have Kon := Lib.hid (Ko1.out.alloc (.cells #[.int .i64 0, .int .i64 (-1), .bool false, .bool false, .int .i64 0, .int .i64 0] 32))
      have Krn := Lib.hid (Kr1.out.alloc (.cells #[.int .i64 0, .int .i64 (-1), .bool false, .bool false, .int .i64 0, .int .i64 0] 32))
      clear B1 Ko1 Kr1
      obtain ⟨⟨co0, co1, co2, co3, co4, co5⟩, do0, do1, do2, do3, do4, do5⟩ := Kon.out.of6
      obtain ⟨⟨cr0, cr1, cr2, cr3, cr4, cr5⟩, dr0, dr1, dr2, dr3, dr4, dr5⟩ := Krn.out.of6
      go_wp2_with fail
      clear co0 co1 co2 co3 co4 co5 do0 do1 do2 do3 do4 do5 cr0 cr1 cr2 cr3 cr4 cr5 dr0 dr1 dr2 dr3 dr4 dr5
      change Calls _ _ _ (v1.alloc (.cells #[.int .i64 0, .int .i64 (-1), .bool false, .bool false, .int .i64 0, .int .i64 0] 32)) _
      generalize v1.alloc (.cells #[.int .i64 0, .int .i64 (-1), .bool false, .bool false, .int .i64 0, .int .i64 0] 32) = v2 at Kxn Bn Kon Krn ⊢
      generalize v1.heap.size = g_x at Kxn l_x n_o_x n_r_x ⊢
      clear v1
      have Ko2 := Kon
      clear Kon
      have Kr2 := Krn
      clear Krn
      have Kx2 := Kxn
      clear Kxn
      have B2 := Bn
      clear Bn
      refine (M.out _).mono ?_
      rintro e v3 ⟨rfl, hb⟩
      have B3 := Lib.hid (B2.out.trans (hb.mono B2.out.size))
      have Ko3 := Lib.hid (Ko2.out.below hb)
      have Kr3 := Lib.hid (Kr2.out.below hb)
      have Kx3 := Lib.hid (Kx2.out.below hb)
      clear hb B2 Ko2 Kr2 Kx2
      obtain ⟨⟨co0, co1, co2, co3, co4, co5⟩, do0, do1, do2, do3, do4, do5⟩ := Ko3.out.of6
      obtain ⟨⟨cr0, cr1, cr2, cr3, cr4, cr5⟩, dr0, dr1, dr2, dr3, dr4, dr5⟩ := Kr3.out.of6
      obtain ⟨⟨cx0, cx1, cx2, cx3, cx4, cx5⟩, dx0, dx1, dx2, dx3, dx4, dx5⟩ := Kx3.out.of6
      have Ko4 := Lib.hid (show Blk (v3.setCell ⟨g_x, 0, none⟩ (.int .i64 n)) g_o [.int .i64 m, .int .i64 c, .bool k, .bool true, .int .i64 v, .int .i64 u] from (Ko3.out.setOther ⟨g_x, 0, none⟩ (.int .i64 n) (n_o_x)))
      have Kr4 := Lib.hid (show Blk (v3.setCell ⟨g_x, 0, none⟩ (.int .i64 n)) g_r [.int .i64 0, .int .i64 0, .bool false, .bool false, .int .i64 0, .int .i64 0] from (Kr3.out.setOther ⟨g_x, 0, none⟩ (.int .i64 n) (n_r_x)))
      have Kx4 := Lib.hid (show Blk (v3.setCell ⟨g_x, 0, none⟩ (.int .i64 n)) g_x [.int .i64 n, .int .i64 (-1), .bool false, .bool false, .int .i64 0, .int .i64 0] from (Kx3.out.set 0 (.int .i64 n)))
      have B4 := Lib.hid (show Below w.heap.size w (v3.setCell ⟨g_x, 0, none⟩ (.int .i64 n)) from (B3.out.setCell l_x (.int .i64 n)))
      clear B3
      go_wp2_with fail
      clear Ko3 Kr3 Kx3
      clear co0 co1 co2 co3 co4 co5 do0 do1 do2 do3 do4 do5 cr0 cr1 cr2 cr3 cr4 cr5 dr0 dr1 dr2 dr3 dr4 dr5 cx0 cx1 cx2 cx3 cx4 cx5 dx0 dx1 dx2 dx3 dx4 dx5
      change Calls _ _ _ (v3.setCell ⟨g_x, 0, none⟩ (.int .i64 n)) _
      generalize v3.setCell ⟨g_x, 0, none⟩ (.int .i64 n) = v4 at B4 Ko4 Kr4 Kx4 ⊢
      refine (Q.out _).mono ?_
      rintro e v5 ⟨rfl, hb⟩
      have B5 := Lib.hid (B4.out.trans (hb.mono B4.out.size))
      have Ko5 := Lib.hid (Ko4.out.below hb)
      have Kr5 := Lib.hid (Kr4.out.below hb)
      have Kx5 := Lib.hid (Kx4.out.below hb)
      clear hb B4 Ko4 Kr4 Kx4
      obtain ⟨⟨co0, co1, co2, co3, co4, co5⟩, do0, do1, do2, do3, do4, do5⟩ := Ko5.out.of6
      obtain ⟨⟨cr0, cr1, cr2, cr3, cr4, cr5⟩, dr0, dr1, dr2, dr3, dr4, dr5⟩ := Kr5.out.of6
      obtain ⟨⟨cx0, cx1, cx2, cx3, cx4, cx5⟩, dx0, dx1, dx2, dx3, dx4, dx5⟩ := Kx5.out.of6
      go_wp2_with fail
      exact bodyPost_ret (v := .agg #[.int .i64 n, .int .i64 a, .bool b, .bool true, .int .i64 v, .int .i64 0]) (by simp [results, Try.results23, go_sem, cr0, cr1, cr2, cr3, cr4, cr5]) rfl ⟨congrArg Ending.returned hz.out, ((((((((((B5.out.setCell l_x _).setCell l_x _).setCell l_x _).setCell l_x _).setCell l_r _).setCell l_r _).setCell l_r _).setCell l_r _).setCell l_r _).setCell l_r _)⟩
end Go.Proofs.Ytifgaojgnaafbaa
