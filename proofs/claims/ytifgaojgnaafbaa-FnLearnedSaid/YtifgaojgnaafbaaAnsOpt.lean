/- AnswerOptions, of the program and of the model. Nothing here is a claim. -/
import Derived.Test.YtifgaojgnaafbaaStampO
import Derived.Test.YtifgaojgnaafbaaStampS
import Derived.Test.YtifgaojgnaafbaaOptOk
namespace Go.Proofs.Ytifgaojgnaafbaa
open Go.RowKit Go.Lib

/-- What AnswerOptions answers. -/
def ansOpt (c : Int) (k t : Bool) (v clock : Int) : Opt :=
  bif t then ⟨1460, if 0 ≤ c ∧ c ≤ 14 then 0 else -1, k, true, stampOf clock c k, v⟩ else ⟨1460, -1, false, false, 0, 0⟩


set_option maxRecDepth 100000 in
set_option maxHeartbeats 4000000 in
theorem ansOptI (m c : Int) (k t : Bool) (v u clock : Int) (w : World) :
    Calls Try.prog 18 #[.agg #[.int .i64 m, .int .i64 c, .bool k, .bool t, .int .i64 v, .int .i64 u], .int .i64 clock] w (EndV (.agg (ansOpt c k t v clock).cs) w) := by
  obtain ⟨z, hz⟩ : ∃ z : Value, Value.agg (ansOpt c k t v clock).cs = z := ⟨_, rfl⟩
  rw [hz]
  cases t with
  | false =>
    have hz := Lib.hid hz
    go_enter Try.func18, Try.ntmps18
    have B0 := Lib.hid (show Below w.heap.size w ((w.alloc (.cells #[.int .i64 m, .int .i64 c, .bool k, .bool false, .int .i64 v, .int .i64 u] 32)).alloc (.cells #[.int .i64 0, .int .i64 0, .bool false, .bool false, .int .i64 0, .int .i64 0] 32)) from (((Below.refl _ w).alloc (by simp) _).alloc (by simp) _))
    have Ko0 := Lib.hid (show Blk ((w.alloc (.cells #[.int .i64 m, .int .i64 c, .bool k, .bool false, .int .i64 v, .int .i64 u] 32)).alloc (.cells #[.int .i64 0, .int .i64 0, .bool false, .bool false, .int .i64 0, .int .i64 0] 32)) (w.heap.size) [.int .i64 m, .int .i64 c, .bool k, .bool false, .int .i64 v, .int .i64 u] from (Blk.new w [.int .i64 m, .int .i64 c, .bool k, .bool false, .int .i64 v, .int .i64 u] 32).alloc (.cells #[.int .i64 0, .int .i64 0, .bool false, .bool false, .int .i64 0, .int .i64 0] 32))
    have s1 : (w.alloc (.cells #[.int .i64 m, .int .i64 c, .bool k, .bool false, .int .i64 v, .int .i64 u] 32)).heap.size = w.heap.size + 1 := by simp
    have Kr0 := Lib.hid (show Blk ((w.alloc (.cells #[.int .i64 m, .int .i64 c, .bool k, .bool false, .int .i64 v, .int .i64 u] 32)).alloc (.cells #[.int .i64 0, .int .i64 0, .bool false, .bool false, .int .i64 0, .int .i64 0] 32)) (w.heap.size + 1) [.int .i64 0, .int .i64 0, .bool false, .bool false, .int .i64 0, .int .i64 0] by have h0 := Blk.new (w.alloc (.cells #[.int .i64 m, .int .i64 c, .bool k, .bool false, .int .i64 v, .int .i64 u] 32)) [.int .i64 0, .int .i64 0, .bool false, .bool false, .int .i64 0, .int .i64 0] 32; rwa [s1] at h0)
    have n_o_r : w.heap.size ≠ w.heap.size + 1 := by omega
    clear s1
    go_wp2_with fail
    change Calls _ _ _ ((w.alloc (.cells #[.int .i64 m, .int .i64 c, .bool k, .bool false, .int .i64 v, .int .i64 u] 32)).alloc (.cells #[.int .i64 0, .int .i64 0, .bool false, .bool false, .int .i64 0, .int .i64 0] 32)) _
    generalize (w.alloc (.cells #[.int .i64 m, .int .i64 c, .bool k, .bool false, .int .i64 v, .int .i64 u] 32)).alloc (.cells #[.int .i64 0, .int .i64 0, .bool false, .bool false, .int .i64 0, .int .i64 0] 32) = v0 at B0 Ko0 Kr0 ⊢
    generalize hh_r : w.heap.size + 1 = g_r at Kr0 n_o_r ⊢
    generalize hh_o : w.heap.size = g_o at Ko0 n_o_r ⊢
    have l_o : w.heap.size ≤ g_o := by omega
    have l_r : w.heap.size ≤ g_r := by omega
    clear hh_o hh_r
    refine (noOptionsI _).mono ?_
    rintro e v1 ⟨rfl, hb⟩
    have B1 := Lib.hid (B0.out.trans (hb.mono B0.out.size))
    have Ko1 := Lib.hid (Ko0.out.below hb)
    have Kr1 := Lib.hid (Kr0.out.below hb)
    clear hb B0 Ko0 Kr0
    have ho : g_o < v1.heap.size := Ko1.out.lt
    have po : ¬ v1.heap.size = g_o := by omega
    have qo : ¬ g_o = v1.heap.size := by omega
    have hr : g_r < v1.heap.size := Kr1.out.lt
    have pr : ¬ v1.heap.size = g_r := by omega
    have qr : ¬ g_r = v1.heap.size := by omega
    obtain ⟨⟨co0, co1, co2, co3, co4, co5⟩, do0, do1, do2, do3, do4, do5⟩ := Ko1.out.of6
    obtain ⟨⟨cr0, cr1, cr2, cr3, cr4, cr5⟩, dr0, dr1, dr2, dr3, dr4, dr5⟩ := Kr1.out.of6
    go_wp2_with fail
    have Bz := ((((((B1.out.setCell (p := ⟨g_r, 0, none⟩) l_r (.int .i64 1460)).setCell (p := ⟨g_r, 1, none⟩) l_r (.int .i64 (-1))).setCell (p := ⟨g_r, 2, none⟩) l_r (.bool false)).setCell (p := ⟨g_r, 3, none⟩) l_r (.bool false)).setCell (p := ⟨g_r, 4, none⟩) l_r (.int .i64 0)).setCell (p := ⟨g_r, 5, none⟩) l_r (.int .i64 0))
    have Rz := (show Blk (((((((v1.setCell ⟨g_r, 0, none⟩ (.int .i64 1460)).setCell ⟨g_r, 1, none⟩ (.int .i64 (-1))).setCell ⟨g_r, 2, none⟩ (.bool false)).setCell ⟨g_r, 3, none⟩ (.bool false)).setCell ⟨g_r, 4, none⟩ (.int .i64 0)).setCell ⟨g_r, 5, none⟩ (.int .i64 0)).alloc (.cells #[.int .i64 1460, .int .i64 (-1), .bool false, .bool false, .int .i64 0, .int .i64 0] 32)) g_r [.int .i64 1460, .int .i64 (-1), .bool false, .bool false, .int .i64 0, .int .i64 0] from ((((((Kr1.out.set 0 (.int .i64 1460)).set 1 (.int .i64 (-1))).set 2 (.bool false)).set 3 (.bool false)).set 4 (.int .i64 0)).set 5 (.int .i64 0)).alloc _)
    obtain ⟨⟨e0, e1, e2, e3, e4, e5⟩, _⟩ := Rz.of6
    exact bodyPost_ret (v := .agg #[.int .i64 1460, .int .i64 (-1), .bool false, .bool false, .int .i64 0, .int .i64 0]) (by simp [results, Try.results18, go_sem, e0, e1, e2, e3, e4, e5]) rfl ⟨congrArg Ending.returned hz.out, Bz.alloc Bz.size _⟩
  | true =>
    have C := Lib.hid (hasScaleB c)
    have Q := Lib.hid (stampOfI clock c k)
    by_cases h : 0 ≤ c ∧ c ≤ 14
    · rw [decide_eq_true h] at C
      have hz := (show Value.agg (Opt.cs ⟨1460, 0, k, true, stampOf clock c k, v⟩) = z by rw [← hz]; unfold ansOpt; rw [if_pos h]; rfl)
      generalize stampOf clock c k = y at Q hz
      have hz := Lib.hid hz
      clear h
      go_enter Try.func18, Try.ntmps18
      have B0 := Lib.hid (show Below w.heap.size w ((w.alloc (.cells #[.int .i64 m, .int .i64 c, .bool k, .bool true, .int .i64 v, .int .i64 u] 32)).alloc (.cells #[.int .i64 0, .int .i64 0, .bool false, .bool false, .int .i64 0, .int .i64 0] 32)) from (((Below.refl _ w).alloc (by simp) _).alloc (by simp) _))
      have Ko0 := Lib.hid (show Blk ((w.alloc (.cells #[.int .i64 m, .int .i64 c, .bool k, .bool true, .int .i64 v, .int .i64 u] 32)).alloc (.cells #[.int .i64 0, .int .i64 0, .bool false, .bool false, .int .i64 0, .int .i64 0] 32)) (w.heap.size) [.int .i64 m, .int .i64 c, .bool k, .bool true, .int .i64 v, .int .i64 u] from (Blk.new w [.int .i64 m, .int .i64 c, .bool k, .bool true, .int .i64 v, .int .i64 u] 32).alloc (.cells #[.int .i64 0, .int .i64 0, .bool false, .bool false, .int .i64 0, .int .i64 0] 32))
      have s1 : (w.alloc (.cells #[.int .i64 m, .int .i64 c, .bool k, .bool true, .int .i64 v, .int .i64 u] 32)).heap.size = w.heap.size + 1 := by simp
      have Kr0 := Lib.hid (show Blk ((w.alloc (.cells #[.int .i64 m, .int .i64 c, .bool k, .bool true, .int .i64 v, .int .i64 u] 32)).alloc (.cells #[.int .i64 0, .int .i64 0, .bool false, .bool false, .int .i64 0, .int .i64 0] 32)) (w.heap.size + 1) [.int .i64 0, .int .i64 0, .bool false, .bool false, .int .i64 0, .int .i64 0] by have h0 := Blk.new (w.alloc (.cells #[.int .i64 m, .int .i64 c, .bool k, .bool true, .int .i64 v, .int .i64 u] 32)) [.int .i64 0, .int .i64 0, .bool false, .bool false, .int .i64 0, .int .i64 0] 32; rwa [s1] at h0)
      have n_o_r : w.heap.size ≠ w.heap.size + 1 := by omega
      clear s1
      go_wp2_with fail
      change Calls _ _ _ ((w.alloc (.cells #[.int .i64 m, .int .i64 c, .bool k, .bool true, .int .i64 v, .int .i64 u] 32)).alloc (.cells #[.int .i64 0, .int .i64 0, .bool false, .bool false, .int .i64 0, .int .i64 0] 32)) _
      generalize (w.alloc (.cells #[.int .i64 m, .int .i64 c, .bool k, .bool true, .int .i64 v, .int .i64 u] 32)).alloc (.cells #[.int .i64 0, .int .i64 0, .bool false, .bool false, .int .i64 0, .int .i64 0] 32) = v0 at B0 Ko0 Kr0 ⊢
      generalize hh_r : w.heap.size + 1 = g_r at Kr0 n_o_r ⊢
      generalize hh_o : w.heap.size = g_o at Ko0 n_o_r ⊢
      have l_o : w.heap.size ≤ g_o := by omega
      have l_r : w.heap.size ≤ g_r := by omega
      clear hh_o hh_r
      refine (noOptionsI _).mono ?_
      rintro e v1 ⟨rfl, hb⟩
      have B1 := Lib.hid (B0.out.trans (hb.mono B0.out.size))
      have Ko1 := Lib.hid (Ko0.out.below hb)
      have Kr1 := Lib.hid (Kr0.out.below hb)
      clear hb B0 Ko0 Kr0
      have Kxn := Lib.hid (Blk.new v1 [.int .i64 1460, .int .i64 (-1), .bool false, .bool false, .int .i64 0, .int .i64 0] 32)
      have l_x : w.heap.size ≤ v1.heap.size := B1.out.size
      have n_o_x : g_o ≠ v1.heap.size := by have h1 := Ko1.out.lt; omega
      have n_r_x : g_r ≠ v1.heap.size := by have h1 := Kr1.out.lt; omega
      have Bn := Lib.hid (B1.out.alloc B1.out.size (.cells #[.int .i64 1460, .int .i64 (-1), .bool false, .bool false, .int .i64 0, .int .i64 0] 32))
      have Kon := Lib.hid (Ko1.out.alloc (.cells #[.int .i64 1460, .int .i64 (-1), .bool false, .bool false, .int .i64 0, .int .i64 0] 32))
      have Krn := Lib.hid (Kr1.out.alloc (.cells #[.int .i64 1460, .int .i64 (-1), .bool false, .bool false, .int .i64 0, .int .i64 0] 32))
      clear B1 Ko1 Kr1
      obtain ⟨⟨co0, co1, co2, co3, co4, co5⟩, do0, do1, do2, do3, do4, do5⟩ := Kon.out.of6
      obtain ⟨⟨cr0, cr1, cr2, cr3, cr4, cr5⟩, dr0, dr1, dr2, dr3, dr4, dr5⟩ := Krn.out.of6
      go_wp2_with fail
      clear co0 co1 co2 co3 co4 co5 do0 do1 do2 do3 do4 do5 cr0 cr1 cr2 cr3 cr4 cr5 dr0 dr1 dr2 dr3 dr4 dr5
      change Calls _ _ _ (v1.alloc (.cells #[.int .i64 1460, .int .i64 (-1), .bool false, .bool false, .int .i64 0, .int .i64 0] 32)) _
      generalize v1.alloc (.cells #[.int .i64 1460, .int .i64 (-1), .bool false, .bool false, .int .i64 0, .int .i64 0] 32) = v2 at Kxn Bn Kon Krn ⊢
      generalize v1.heap.size = g_x at Kxn l_x n_o_x n_r_x ⊢
      clear v1
      have Ko2 := Kon
      clear Kon
      have Kr2 := Krn
      clear Krn
      have Kx2 := Kxn
      clear Kxn
      have B2 := Bn
      clear Bn
      refine (C.out _).mono ?_
      rintro e v3 ⟨rfl, hb⟩
      have B3 := Lib.hid (B2.out.trans (hb.mono B2.out.size))
      have Ko3 := Lib.hid (Ko2.out.below hb)
      have Kr3 := Lib.hid (Kr2.out.below hb)
      have Kx3 := Lib.hid (Kx2.out.below hb)
      clear hb B2 Ko2 Kr2 Kx2
      obtain ⟨⟨co0, co1, co2, co3, co4, co5⟩, do0, do1, do2, do3, do4, do5⟩ := Ko3.out.of6
      obtain ⟨⟨cr0, cr1, cr2, cr3, cr4, cr5⟩, dr0, dr1, dr2, dr3, dr4, dr5⟩ := Kr3.out.of6
      obtain ⟨⟨cx0, cx1, cx2, cx3, cx4, cx5⟩, dx0, dx1, dx2, dx3, dx4, dx5⟩ := Kx3.out.of6
      have Ko4 := Lib.hid (show Blk (((v3.setCell ⟨g_x, 1, none⟩ (.int .i64 0)).setCell ⟨g_x, 2, none⟩ (.bool k)).setCell ⟨g_x, 3, none⟩ (.bool true)) g_o [.int .i64 m, .int .i64 c, .bool k, .bool true, .int .i64 v, .int .i64 u] from (((Ko3.out.setOther ⟨g_x, 1, none⟩ (.int .i64 0) (n_o_x)).setOther ⟨g_x, 2, none⟩ (.bool k) (n_o_x)).setOther ⟨g_x, 3, none⟩ (.bool true) (n_o_x)))
      have Kr4 := Lib.hid (show Blk (((v3.setCell ⟨g_x, 1, none⟩ (.int .i64 0)).setCell ⟨g_x, 2, none⟩ (.bool k)).setCell ⟨g_x, 3, none⟩ (.bool true)) g_r [.int .i64 0, .int .i64 0, .bool false, .bool false, .int .i64 0, .int .i64 0] from (((Kr3.out.setOther ⟨g_x, 1, none⟩ (.int .i64 0) (n_r_x)).setOther ⟨g_x, 2, none⟩ (.bool k) (n_r_x)).setOther ⟨g_x, 3, none⟩ (.bool true) (n_r_x)))
      have Kx4 := Lib.hid (show Blk (((v3.setCell ⟨g_x, 1, none⟩ (.int .i64 0)).setCell ⟨g_x, 2, none⟩ (.bool k)).setCell ⟨g_x, 3, none⟩ (.bool true)) g_x [.int .i64 1460, .int .i64 0, .bool k, .bool true, .int .i64 0, .int .i64 0] from (((Kx3.out.set 1 (.int .i64 0)).set 2 (.bool k)).set 3 (.bool true)))
      have B4 := Lib.hid (show Below w.heap.size w (((v3.setCell ⟨g_x, 1, none⟩ (.int .i64 0)).setCell ⟨g_x, 2, none⟩ (.bool k)).setCell ⟨g_x, 3, none⟩ (.bool true)) from (((B3.out.setCell l_x (.int .i64 0)).setCell l_x (.bool k)).setCell l_x (.bool true)))
      clear B3
      go_wp2_with fail
      clear Ko3 Kr3 Kx3
      clear co0 co1 co2 co3 co4 co5 do0 do1 do2 do3 do4 do5 cr0 cr1 cr2 cr3 cr4 cr5 dr0 dr1 dr2 dr3 dr4 dr5 cx0 cx1 cx2 cx3 cx4 cx5 dx0 dx1 dx2 dx3 dx4 dx5
      change Calls _ _ _ (((v3.setCell ⟨g_x, 1, none⟩ (.int .i64 0)).setCell ⟨g_x, 2, none⟩ (.bool k)).setCell ⟨g_x, 3, none⟩ (.bool true)) _
      generalize ((v3.setCell ⟨g_x, 1, none⟩ (.int .i64 0)).setCell ⟨g_x, 2, none⟩ (.bool k)).setCell ⟨g_x, 3, none⟩ (.bool true) = v4 at B4 Ko4 Kr4 Kx4 ⊢
      refine (Q.out _).mono ?_
      rintro e v5 ⟨rfl, hb⟩
      have B5 := Lib.hid (B4.out.trans (hb.mono B4.out.size))
      have Ko5 := Lib.hid (Ko4.out.below hb)
      have Kr5 := Lib.hid (Kr4.out.below hb)
      have Kx5 := Lib.hid (Kx4.out.below hb)
      clear hb B4 Ko4 Kr4 Kx4
      obtain ⟨⟨co0, co1, co2, co3, co4, co5⟩, do0, do1, do2, do3, do4, do5⟩ := Ko5.out.of6
      obtain ⟨⟨cr0, cr1, cr2, cr3, cr4, cr5⟩, dr0, dr1, dr2, dr3, dr4, dr5⟩ := Kr5.out.of6
      obtain ⟨⟨cx0, cx1, cx2, cx3, cx4, cx5⟩, dx0, dx1, dx2, dx3, dx4, dx5⟩ := Kx5.out.of6
      go_wp2_with fail
      exact bodyPost_ret (v := .agg #[.int .i64 1460, .int .i64 0, .bool k, .bool true, .int .i64 y, .int .i64 v]) (by simp [results, Try.results18, go_sem, cr0, cr1, cr2, cr3, cr4, cr5]) rfl ⟨congrArg Ending.returned hz.out, ((((((((B5.out.setCell l_x _).setCell l_x _).setCell l_r _).setCell l_r _).setCell l_r _).setCell l_r _).setCell l_r _).setCell l_r _)⟩
    · rw [decide_eq_false h] at C
      have hz := (show Value.agg (Opt.cs ⟨1460, -1, k, true, stampOf clock c k, v⟩) = z by rw [← hz]; unfold ansOpt; rw [if_neg h]; rfl)
      generalize stampOf clock c k = y at Q hz
      have hz := Lib.hid hz
      clear h
      go_enter Try.func18, Try.ntmps18
      have B0 := Lib.hid (show Below w.heap.size w ((w.alloc (.cells #[.int .i64 m, .int .i64 c, .bool k, .bool true, .int .i64 v, .int .i64 u] 32)).alloc (.cells #[.int .i64 0, .int .i64 0, .bool false, .bool false, .int .i64 0, .int .i64 0] 32)) from (((Below.refl _ w).alloc (by simp) _).alloc (by simp) _))
      have Ko0 := Lib.hid (show Blk ((w.alloc (.cells #[.int .i64 m, .int .i64 c, .bool k, .bool true, .int .i64 v, .int .i64 u] 32)).alloc (.cells #[.int .i64 0, .int .i64 0, .bool false, .bool false, .int .i64 0, .int .i64 0] 32)) (w.heap.size) [.int .i64 m, .int .i64 c, .bool k, .bool true, .int .i64 v, .int .i64 u] from (Blk.new w [.int .i64 m, .int .i64 c, .bool k, .bool true, .int .i64 v, .int .i64 u] 32).alloc (.cells #[.int .i64 0, .int .i64 0, .bool false, .bool false, .int .i64 0, .int .i64 0] 32))
      have s1 : (w.alloc (.cells #[.int .i64 m, .int .i64 c, .bool k, .bool true, .int .i64 v, .int .i64 u] 32)).heap.size = w.heap.size + 1 := by simp
      have Kr0 := Lib.hid (show Blk ((w.alloc (.cells #[.int .i64 m, .int .i64 c, .bool k, .bool true, .int .i64 v, .int .i64 u] 32)).alloc (.cells #[.int .i64 0, .int .i64 0, .bool false, .bool false, .int .i64 0, .int .i64 0] 32)) (w.heap.size + 1) [.int .i64 0, .int .i64 0, .bool false, .bool false, .int .i64 0, .int .i64 0] by have h0 := Blk.new (w.alloc (.cells #[.int .i64 m, .int .i64 c, .bool k, .bool true, .int .i64 v, .int .i64 u] 32)) [.int .i64 0, .int .i64 0, .bool false, .bool false, .int .i64 0, .int .i64 0] 32; rwa [s1] at h0)
      have n_o_r : w.heap.size ≠ w.heap.size + 1 := by omega
      clear s1
      go_wp2_with fail
      change Calls _ _ _ ((w.alloc (.cells #[.int .i64 m, .int .i64 c, .bool k, .bool true, .int .i64 v, .int .i64 u] 32)).alloc (.cells #[.int .i64 0, .int .i64 0, .bool false, .bool false, .int .i64 0, .int .i64 0] 32)) _
      generalize (w.alloc (.cells #[.int .i64 m, .int .i64 c, .bool k, .bool true, .int .i64 v, .int .i64 u] 32)).alloc (.cells #[.int .i64 0, .int .i64 0, .bool false, .bool false, .int .i64 0, .int .i64 0] 32) = v0 at B0 Ko0 Kr0 ⊢
      generalize hh_r : w.heap.size + 1 = g_r at Kr0 n_o_r ⊢
      generalize hh_o : w.heap.size = g_o at Ko0 n_o_r ⊢
      have l_o : w.heap.size ≤ g_o := by omega
      have l_r : w.heap.size ≤ g_r := by omega
      clear hh_o hh_r
      refine (noOptionsI _).mono ?_
      rintro e v1 ⟨rfl, hb⟩
      have B1 := Lib.hid (B0.out.trans (hb.mono B0.out.size))
      have Ko1 := Lib.hid (Ko0.out.below hb)
      have Kr1 := Lib.hid (Kr0.out.below hb)
      clear hb B0 Ko0 Kr0
      have Kxn := Lib.hid (Blk.new v1 [.int .i64 1460, .int .i64 (-1), .bool false, .bool false, .int .i64 0, .int .i64 0] 32)
      have l_x : w.heap.size ≤ v1.heap.size := B1.out.size
      have n_o_x : g_o ≠ v1.heap.size := by have h1 := Ko1.out.lt; omega
      have n_r_x : g_r ≠ v1.heap.size := by have h1 := Kr1.out.lt; omega
      have Bn := Lib.hid (B1.out.alloc B1.out.size (.cells #[.int .i64 1460, .int .i64 (-1), .bool false, .bool false, .int .i64 0, .int .i64 0] 32))
      have Kon := Lib.hid (Ko1.out.alloc (.cells #[.int .i64 1460, .int .i64 (-1), .bool false, .bool false, .int .i64 0, .int .i64 0] 32))
      have Krn := Lib.hid (Kr1.out.alloc (.cells #[.int .i64 1460, .int .i64 (-1), .bool false, .bool false, .int .i64 0, .int .i64 0] 32))
      clear B1 Ko1 Kr1
      obtain ⟨⟨co0, co1, co2, co3, co4, co5⟩, do0, do1, do2, do3, do4, do5⟩ := Kon.out.of6
      obtain ⟨⟨cr0, cr1, cr2, cr3, cr4, cr5⟩, dr0, dr1, dr2, dr3, dr4, dr5⟩ := Krn.out.of6
      go_wp2_with fail
      clear co0 co1 co2 co3 co4 co5 do0 do1 do2 do3 do4 do5 cr0 cr1 cr2 cr3 cr4 cr5 dr0 dr1 dr2 dr3 dr4 dr5
      change Calls _ _ _ (v1.alloc (.cells #[.int .i64 1460, .int .i64 (-1), .bool false, .bool false, .int .i64 0, .int .i64 0] 32)) _
      generalize v1.alloc (.cells #[.int .i64 1460, .int .i64 (-1), .bool false, .bool false, .int .i64 0, .int .i64 0] 32) = v2 at Kxn Bn Kon Krn ⊢
      generalize v1.heap.size = g_x at Kxn l_x n_o_x n_r_x ⊢
      clear v1
      have Ko2 := Kon
      clear Kon
      have Kr2 := Krn
      clear Krn
      have Kx2 := Kxn
      clear Kxn
      have B2 := Bn
      clear Bn
      refine (C.out _).mono ?_
      rintro e v3 ⟨rfl, hb⟩
      have B3 := Lib.hid (B2.out.trans (hb.mono B2.out.size))
      have Ko3 := Lib.hid (Ko2.out.below hb)
      have Kr3 := Lib.hid (Kr2.out.below hb)
      have Kx3 := Lib.hid (Kx2.out.below hb)
      clear hb B2 Ko2 Kr2 Kx2
      obtain ⟨⟨co0, co1, co2, co3, co4, co5⟩, do0, do1, do2, do3, do4, do5⟩ := Ko3.out.of6
      obtain ⟨⟨cr0, cr1, cr2, cr3, cr4, cr5⟩, dr0, dr1, dr2, dr3, dr4, dr5⟩ := Kr3.out.of6
      obtain ⟨⟨cx0, cx1, cx2, cx3, cx4, cx5⟩, dx0, dx1, dx2, dx3, dx4, dx5⟩ := Kx3.out.of6
      have Ko4 := Lib.hid (show Blk ((v3.setCell ⟨g_x, 2, none⟩ (.bool k)).setCell ⟨g_x, 3, none⟩ (.bool true)) g_o [.int .i64 m, .int .i64 c, .bool k, .bool true, .int .i64 v, .int .i64 u] from ((Ko3.out.setOther ⟨g_x, 2, none⟩ (.bool k) (n_o_x)).setOther ⟨g_x, 3, none⟩ (.bool true) (n_o_x)))
      have Kr4 := Lib.hid (show Blk ((v3.setCell ⟨g_x, 2, none⟩ (.bool k)).setCell ⟨g_x, 3, none⟩ (.bool true)) g_r [.int .i64 0, .int .i64 0, .bool false, .bool false, .int .i64 0, .int .i64 0] from ((Kr3.out.setOther ⟨g_x, 2, none⟩ (.bool k) (n_r_x)).setOther ⟨g_x, 3, none⟩ (.bool true) (n_r_x)))
      have Kx4 := Lib.hid (show Blk ((v3.setCell ⟨g_x, 2, none⟩ (.bool k)).setCell ⟨g_x, 3, none⟩ (.bool true)) g_x [.int .i64 1460, .int .i64 (-1), .bool k, .bool true, .int .i64 0, .int .i64 0] from ((Kx3.out.set 2 (.bool k)).set 3 (.bool true)))
      have B4 := Lib.hid (show Below w.heap.size w ((v3.setCell ⟨g_x, 2, none⟩ (.bool k)).setCell ⟨g_x, 3, none⟩ (.bool true)) from ((B3.out.setCell l_x (.bool k)).setCell l_x (.bool true)))
      clear B3
      go_wp2_with fail
      clear Ko3 Kr3 Kx3
      clear co0 co1 co2 co3 co4 co5 do0 do1 do2 do3 do4 do5 cr0 cr1 cr2 cr3 cr4 cr5 dr0 dr1 dr2 dr3 dr4 dr5 cx0 cx1 cx2 cx3 cx4 cx5 dx0 dx1 dx2 dx3 dx4 dx5
      change Calls _ _ _ ((v3.setCell ⟨g_x, 2, none⟩ (.bool k)).setCell ⟨g_x, 3, none⟩ (.bool true)) _
      generalize (v3.setCell ⟨g_x, 2, none⟩ (.bool k)).setCell ⟨g_x, 3, none⟩ (.bool true) = v4 at B4 Ko4 Kr4 Kx4 ⊢
      refine (Q.out _).mono ?_
      rintro e v5 ⟨rfl, hb⟩
      have B5 := Lib.hid (B4.out.trans (hb.mono B4.out.size))
      have Ko5 := Lib.hid (Ko4.out.below hb)
      have Kr5 := Lib.hid (Kr4.out.below hb)
      have Kx5 := Lib.hid (Kx4.out.below hb)
      clear hb B4 Ko4 Kr4 Kx4
      obtain ⟨⟨co0, co1, co2, co3, co4, co5⟩, do0, do1, do2, do3, do4, do5⟩ := Ko5.out.of6
      obtain ⟨⟨cr0, cr1, cr2, cr3, cr4, cr5⟩, dr0, dr1, dr2, dr3, dr4, dr5⟩ := Kr5.out.of6
      obtain ⟨⟨cx0, cx1, cx2, cx3, cx4, cx5⟩, dx0, dx1, dx2, dx3, dx4, dx5⟩ := Kx5.out.of6
      go_wp2_with fail
      exact bodyPost_ret (v := .agg #[.int .i64 1460, .int .i64 (-1), .bool k, .bool true, .int .i64 y, .int .i64 v]) (by simp [results, Try.results18, go_sem, cr0, cr1, cr2, cr3, cr4, cr5]) rfl ⟨congrArg Ending.returned hz.out, ((((((((B5.out.setCell l_x _).setCell l_x _).setCell l_r _).setCell l_r _).setCell l_r _).setCell l_r _).setCell l_r _).setCell l_r _)⟩

set_option maxRecDepth 100000 in
set_option maxHeartbeats 4000000 in
theorem ansOptS (m c : Int) (k t : Bool) (v u clock : Int) (w : World) :
    Calls Try.prog 19 #[.agg #[.int .i64 m, .int .i64 c, .bool k, .bool t, .int .i64 v, .int .i64 u], .int .i64 clock] w (EndV (.agg (ansOpt c k t v clock).cs) w) := by
  obtain ⟨z, hz⟩ : ∃ z : Value, Value.agg (ansOpt c k t v clock).cs = z := ⟨_, rfl⟩
  rw [hz]
  cases t with
  | false =>
    have hz := Lib.hid hz
    go_enter Try.func19, Try.ntmps19
    go_wp2_with fail
    exact bodyPost_ret (v := .agg #[.int .i64 1460, .int .i64 (-1), .bool false, .bool false, .int .i64 0, .int .i64 0]) (by simp [results, Try.results19, go_sem]) rfl ⟨congrArg Ending.returned hz.out, (((Below.refl _ _).alloc (Nat.le_refl _) _).alloc (by simp) _).alloc (by simp; omega) _⟩
  | true =>
    have C := Lib.hid (l1In_B c 0 14)
    have Q := Lib.hid (stampOfS clock c k)
    by_cases h : 0 ≤ c ∧ c ≤ 14
    · rw [decide_eq_true h] at C
      have hz := (show Value.agg (Opt.cs ⟨1460, 0, k, true, stampOf clock c k, v⟩) = z by rw [← hz]; unfold ansOpt; rw [if_pos h]; rfl)
      generalize stampOf clock c k = y at Q hz
      have hz := Lib.hid hz
      clear h
      go_enter Try.func19, Try.ntmps19
      have B0 := Lib.hid (show Below w.heap.size w (((w.alloc (.cells #[.int .i64 m, .int .i64 c, .bool k, .bool true, .int .i64 v, .int .i64 u] 32)).alloc (.cells #[.int .i64 0, .int .i64 0, .bool false, .bool false, .int .i64 0, .int .i64 0] 32)).alloc (.cells #[.int .i64 1460, .int .i64 (-1), .bool false, .bool false, .int .i64 0, .int .i64 0] 32)) from ((((Below.refl _ w).alloc (by simp) _).alloc (by simp) _).alloc (by simp; omega) _))
      have Ko0 := Lib.hid (show Blk (((w.alloc (.cells #[.int .i64 m, .int .i64 c, .bool k, .bool true, .int .i64 v, .int .i64 u] 32)).alloc (.cells #[.int .i64 0, .int .i64 0, .bool false, .bool false, .int .i64 0, .int .i64 0] 32)).alloc (.cells #[.int .i64 1460, .int .i64 (-1), .bool false, .bool false, .int .i64 0, .int .i64 0] 32)) (w.heap.size) [.int .i64 m, .int .i64 c, .bool k, .bool true, .int .i64 v, .int .i64 u] from ((Blk.new w [.int .i64 m, .int .i64 c, .bool k, .bool true, .int .i64 v, .int .i64 u] 32).alloc (.cells #[.int .i64 0, .int .i64 0, .bool false, .bool false, .int .i64 0, .int .i64 0] 32)).alloc (.cells #[.int .i64 1460, .int .i64 (-1), .bool false, .bool false, .int .i64 0, .int .i64 0] 32))
      have s1 : (w.alloc (.cells #[.int .i64 m, .int .i64 c, .bool k, .bool true, .int .i64 v, .int .i64 u] 32)).heap.size = w.heap.size + 1 := by simp
      have Kr0 := Lib.hid (show Blk (((w.alloc (.cells #[.int .i64 m, .int .i64 c, .bool k, .bool true, .int .i64 v, .int .i64 u] 32)).alloc (.cells #[.int .i64 0, .int .i64 0, .bool false, .bool false, .int .i64 0, .int .i64 0] 32)).alloc (.cells #[.int .i64 1460, .int .i64 (-1), .bool false, .bool false, .int .i64 0, .int .i64 0] 32)) (w.heap.size + 1) [.int .i64 0, .int .i64 0, .bool false, .bool false, .int .i64 0, .int .i64 0] by have h0 := (Blk.new (w.alloc (.cells #[.int .i64 m, .int .i64 c, .bool k, .bool true, .int .i64 v, .int .i64 u] 32)) [.int .i64 0, .int .i64 0, .bool false, .bool false, .int .i64 0, .int .i64 0] 32).alloc (.cells #[.int .i64 1460, .int .i64 (-1), .bool false, .bool false, .int .i64 0, .int .i64 0] 32); rwa [s1] at h0)
      have n_o_r : w.heap.size ≠ w.heap.size + 1 := by omega
      have s2 : ((w.alloc (.cells #[.int .i64 m, .int .i64 c, .bool k, .bool true, .int .i64 v, .int .i64 u] 32)).alloc (.cells #[.int .i64 0, .int .i64 0, .bool false, .bool false, .int .i64 0, .int .i64 0] 32)).heap.size = w.heap.size + 1 + 1 := by simp
      have Kx0 := Lib.hid (show Blk (((w.alloc (.cells #[.int .i64 m, .int .i64 c, .bool k, .bool true, .int .i64 v, .int .i64 u] 32)).alloc (.cells #[.int .i64 0, .int .i64 0, .bool false, .bool false, .int .i64 0, .int .i64 0] 32)).alloc (.cells #[.int .i64 1460, .int .i64 (-1), .bool false, .bool false, .int .i64 0, .int .i64 0] 32)) (w.heap.size + 1 + 1) [.int .i64 1460, .int .i64 (-1), .bool false, .bool false, .int .i64 0, .int .i64 0] by have h0 := Blk.new ((w.alloc (.cells #[.int .i64 m, .int .i64 c, .bool k, .bool true, .int .i64 v, .int .i64 u] 32)).alloc (.cells #[.int .i64 0, .int .i64 0, .bool false, .bool false, .int .i64 0, .int .i64 0] 32)) [.int .i64 1460, .int .i64 (-1), .bool false, .bool false, .int .i64 0, .int .i64 0] 32; rwa [s2] at h0)
      have n_o_x : w.heap.size ≠ w.heap.size + 1 + 1 := by omega
      have n_r_x : w.heap.size + 1 ≠ w.heap.size + 1 + 1 := by omega
      clear s1 s2
      go_wp2_with fail
      change Calls _ _ _ (((w.alloc (.cells #[.int .i64 m, .int .i64 c, .bool k, .bool true, .int .i64 v, .int .i64 u] 32)).alloc (.cells #[.int .i64 0, .int .i64 0, .bool false, .bool false, .int .i64 0, .int .i64 0] 32)).alloc (.cells #[.int .i64 1460, .int .i64 (-1), .bool false, .bool false, .int .i64 0, .int .i64 0] 32)) _
      generalize ((w.alloc (.cells #[.int .i64 m, .int .i64 c, .bool k, .bool true, .int .i64 v, .int .i64 u] 32)).alloc (.cells #[.int .i64 0, .int .i64 0, .bool false, .bool false, .int .i64 0, .int .i64 0] 32)).alloc (.cells #[.int .i64 1460, .int .i64 (-1), .bool false, .bool false, .int .i64 0, .int .i64 0] 32) = v0 at B0 Ko0 Kr0 Kx0 ⊢
      generalize hh_x : w.heap.size + 1 + 1 = g_x at Kx0 n_o_x n_r_x ⊢
      generalize hh_r : w.heap.size + 1 = g_r at Kr0 n_o_r n_r_x ⊢
      generalize hh_o : w.heap.size = g_o at Ko0 n_o_r n_o_x ⊢
      have l_o : w.heap.size ≤ g_o := by omega
      have l_r : w.heap.size ≤ g_r := by omega
      have l_x : w.heap.size ≤ g_x := by omega
      clear hh_o hh_r hh_x
      refine (C.out _).mono ?_
      rintro e v1 ⟨rfl, hb⟩
      have B1 := Lib.hid (B0.out.trans (hb.mono B0.out.size))
      have Ko1 := Lib.hid (Ko0.out.below hb)
      have Kr1 := Lib.hid (Kr0.out.below hb)
      have Kx1 := Lib.hid (Kx0.out.below hb)
      clear hb B0 Ko0 Kr0 Kx0
      obtain ⟨⟨co0, co1, co2, co3, co4, co5⟩, do0, do1, do2, do3, do4, do5⟩ := Ko1.out.of6
      obtain ⟨⟨cr0, cr1, cr2, cr3, cr4, cr5⟩, dr0, dr1, dr2, dr3, dr4, dr5⟩ := Kr1.out.of6
      obtain ⟨⟨cx0, cx1, cx2, cx3, cx4, cx5⟩, dx0, dx1, dx2, dx3, dx4, dx5⟩ := Kx1.out.of6
      have Ko2 := Lib.hid (show Blk (((v1.setCell ⟨g_x, 1, none⟩ (.int .i64 0)).setCell ⟨g_x, 2, none⟩ (.bool k)).setCell ⟨g_x, 3, none⟩ (.bool true)) g_o [.int .i64 m, .int .i64 c, .bool k, .bool true, .int .i64 v, .int .i64 u] from (((Ko1.out.setOther ⟨g_x, 1, none⟩ (.int .i64 0) (n_o_x)).setOther ⟨g_x, 2, none⟩ (.bool k) (n_o_x)).setOther ⟨g_x, 3, none⟩ (.bool true) (n_o_x)))
      have Kr2 := Lib.hid (show Blk (((v1.setCell ⟨g_x, 1, none⟩ (.int .i64 0)).setCell ⟨g_x, 2, none⟩ (.bool k)).setCell ⟨g_x, 3, none⟩ (.bool true)) g_r [.int .i64 0, .int .i64 0, .bool false, .bool false, .int .i64 0, .int .i64 0] from (((Kr1.out.setOther ⟨g_x, 1, none⟩ (.int .i64 0) (n_r_x)).setOther ⟨g_x, 2, none⟩ (.bool k) (n_r_x)).setOther ⟨g_x, 3, none⟩ (.bool true) (n_r_x)))
      have Kx2 := Lib.hid (show Blk (((v1.setCell ⟨g_x, 1, none⟩ (.int .i64 0)).setCell ⟨g_x, 2, none⟩ (.bool k)).setCell ⟨g_x, 3, none⟩ (.bool true)) g_x [.int .i64 1460, .int .i64 0, .bool k, .bool true, .int .i64 0, .int .i64 0] from (((Kx1.out.set 1 (.int .i64 0)).set 2 (.bool k)).set 3 (.bool true)))
      have B2 := Lib.hid (show Below w.heap.size w (((v1.setCell ⟨g_x, 1, none⟩ (.int .i64 0)).setCell ⟨g_x, 2, none⟩ (.bool k)).setCell ⟨g_x, 3, none⟩ (.bool true)) from (((B1.out.setCell l_x (.int .i64 0)).setCell l_x (.bool k)).setCell l_x (.bool true)))
      clear B1
      go_wp2_with fail
      clear Ko1 Kr1 Kx1
      clear co0 co1 co2 co3 co4 co5 do0 do1 do2 do3 do4 do5 cr0 cr1 cr2 cr3 cr4 cr5 dr0 dr1 dr2 dr3 dr4 dr5 cx0 cx1 cx2 cx3 cx4 cx5 dx0 dx1 dx2 dx3 dx4 dx5
      change Calls _ _ _ (((v1.setCell ⟨g_x, 1, none⟩ (.int .i64 0)).setCell ⟨g_x, 2, none⟩ (.bool k)).setCell ⟨g_x, 3, none⟩ (.bool true)) _
      generalize ((v1.setCell ⟨g_x, 1, none⟩ (.int .i64 0)).setCell ⟨g_x, 2, none⟩ (.bool k)).setCell ⟨g_x, 3, none⟩ (.bool true) = v2 at B2 Ko2 Kr2 Kx2 ⊢
      refine (Q.out _).mono ?_
      rintro e v3 ⟨rfl, hb⟩
      have B3 := Lib.hid (B2.out.trans (hb.mono B2.out.size))
      have Ko3 := Lib.hid (Ko2.out.below hb)
      have Kr3 := Lib.hid (Kr2.out.below hb)
      have Kx3 := Lib.hid (Kx2.out.below hb)
      clear hb B2 Ko2 Kr2 Kx2
      obtain ⟨⟨co0, co1, co2, co3, co4, co5⟩, do0, do1, do2, do3, do4, do5⟩ := Ko3.out.of6
      obtain ⟨⟨cr0, cr1, cr2, cr3, cr4, cr5⟩, dr0, dr1, dr2, dr3, dr4, dr5⟩ := Kr3.out.of6
      obtain ⟨⟨cx0, cx1, cx2, cx3, cx4, cx5⟩, dx0, dx1, dx2, dx3, dx4, dx5⟩ := Kx3.out.of6
      go_wp2_with fail
      exact bodyPost_ret (v := .agg #[.int .i64 1460, .int .i64 0, .bool k, .bool true, .int .i64 y, .int .i64 v]) (by simp [results, Try.results19, go_sem, cr0, cr1, cr2, cr3, cr4, cr5]) rfl ⟨congrArg Ending.returned hz.out, ((((((((B3.out.setCell l_x _).setCell l_x _).setCell l_r _).setCell l_r _).setCell l_r _).setCell l_r _).setCell l_r _).setCell l_r _)⟩
    · rw [decide_eq_false h] at C
      have hz := (show Value.agg (Opt.cs ⟨1460, -1, k, true, stampOf clock c k, v⟩) = z by rw [← hz]; unfold ansOpt; rw [if_neg h]; rfl)
      generalize stampOf clock c k = y at Q hz
      have hz := Lib.hid hz
      clear h
      go_enter Try.func19, Try.ntmps19
      have B0 := Lib.hid (show Below w.heap.size w (((w.alloc (.cells #[.int .i64 m, .int .i64 c, .bool k, .bool true, .int .i64 v, .int .i64 u] 32)).alloc (.cells #[.int .i64 0, .int .i64 0, .bool false, .bool false, .int .i64 0, .int .i64 0] 32)).alloc (.cells #[.int .i64 1460, .int .i64 (-1), .bool false, .bool false, .int .i64 0, .int .i64 0] 32)) from ((((Below.refl _ w).alloc (by simp) _).alloc (by simp) _).alloc (by simp; omega) _))
      have Ko0 := Lib.hid (show Blk (((w.alloc (.cells #[.int .i64 m, .int .i64 c, .bool k, .bool true, .int .i64 v, .int .i64 u] 32)).alloc (.cells #[.int .i64 0, .int .i64 0, .bool false, .bool false, .int .i64 0, .int .i64 0] 32)).alloc (.cells #[.int .i64 1460, .int .i64 (-1), .bool false, .bool false, .int .i64 0, .int .i64 0] 32)) (w.heap.size) [.int .i64 m, .int .i64 c, .bool k, .bool true, .int .i64 v, .int .i64 u] from ((Blk.new w [.int .i64 m, .int .i64 c, .bool k, .bool true, .int .i64 v, .int .i64 u] 32).alloc (.cells #[.int .i64 0, .int .i64 0, .bool false, .bool false, .int .i64 0, .int .i64 0] 32)).alloc (.cells #[.int .i64 1460, .int .i64 (-1), .bool false, .bool false, .int .i64 0, .int .i64 0] 32))
      have s1 : (w.alloc (.cells #[.int .i64 m, .int .i64 c, .bool k, .bool true, .int .i64 v, .int .i64 u] 32)).heap.size = w.heap.size + 1 := by simp
      have Kr0 := Lib.hid (show Blk (((w.alloc (.cells #[.int .i64 m, .int .i64 c, .bool k, .bool true, .int .i64 v, .int .i64 u] 32)).alloc (.cells #[.int .i64 0, .int .i64 0, .bool false, .bool false, .int .i64 0, .int .i64 0] 32)).alloc (.cells #[.int .i64 1460, .int .i64 (-1), .bool false, .bool false, .int .i64 0, .int .i64 0] 32)) (w.heap.size + 1) [.int .i64 0, .int .i64 0, .bool false, .bool false, .int .i64 0, .int .i64 0] by have h0 := (Blk.new (w.alloc (.cells #[.int .i64 m, .int .i64 c, .bool k, .bool true, .int .i64 v, .int .i64 u] 32)) [.int .i64 0, .int .i64 0, .bool false, .bool false, .int .i64 0, .int .i64 0] 32).alloc (.cells #[.int .i64 1460, .int .i64 (-1), .bool false, .bool false, .int .i64 0, .int .i64 0] 32); rwa [s1] at h0)
      have n_o_r : w.heap.size ≠ w.heap.size + 1 := by omega
      have s2 : ((w.alloc (.cells #[.int .i64 m, .int .i64 c, .bool k, .bool true, .int .i64 v, .int .i64 u] 32)).alloc (.cells #[.int .i64 0, .int .i64 0, .bool false, .bool false, .int .i64 0, .int .i64 0] 32)).heap.size = w.heap.size + 1 + 1 := by simp
      have Kx0 := Lib.hid (show Blk (((w.alloc (.cells #[.int .i64 m, .int .i64 c, .bool k, .bool true, .int .i64 v, .int .i64 u] 32)).alloc (.cells #[.int .i64 0, .int .i64 0, .bool false, .bool false, .int .i64 0, .int .i64 0] 32)).alloc (.cells #[.int .i64 1460, .int .i64 (-1), .bool false, .bool false, .int .i64 0, .int .i64 0] 32)) (w.heap.size + 1 + 1) [.int .i64 1460, .int .i64 (-1), .bool false, .bool false, .int .i64 0, .int .i64 0] by have h0 := Blk.new ((w.alloc (.cells #[.int .i64 m, .int .i64 c, .bool k, .bool true, .int .i64 v, .int .i64 u] 32)).alloc (.cells #[.int .i64 0, .int .i64 0, .bool false, .bool false, .int .i64 0, .int .i64 0] 32)) [.int .i64 1460, .int .i64 (-1), .bool false, .bool false, .int .i64 0, .int .i64 0] 32; rwa [s2] at h0)
      have n_o_x : w.heap.size ≠ w.heap.size + 1 + 1 := by omega
      have n_r_x : w.heap.size + 1 ≠ w.heap.size + 1 + 1 := by omega
      clear s1 s2
      go_wp2_with fail
      change Calls _ _ _ (((w.alloc (.cells #[.int .i64 m, .int .i64 c, .bool k, .bool true, .int .i64 v, .int .i64 u] 32)).alloc (.cells #[.int .i64 0, .int .i64 0, .bool false, .bool false, .int .i64 0, .int .i64 0] 32)).alloc (.cells #[.int .i64 1460, .int .i64 (-1), .bool false, .bool false, .int .i64 0, .int .i64 0] 32)) _
      generalize ((w.alloc (.cells #[.int .i64 m, .int .i64 c, .bool k, .bool true, .int .i64 v, .int .i64 u] 32)).alloc (.cells #[.int .i64 0, .int .i64 0, .bool false, .bool false, .int .i64 0, .int .i64 0] 32)).alloc (.cells #[.int .i64 1460, .int .i64 (-1), .bool false, .bool false, .int .i64 0, .int .i64 0] 32) = v0 at B0 Ko0 Kr0 Kx0 ⊢
      generalize hh_x : w.heap.size + 1 + 1 = g_x at Kx0 n_o_x n_r_x ⊢
      generalize hh_r : w.heap.size + 1 = g_r at Kr0 n_o_r n_r_x ⊢
      generalize hh_o : w.heap.size = g_o at Ko0 n_o_r n_o_x ⊢
      have l_o : w.heap.size ≤ g_o := by omega
      have l_r : w.heap.size ≤ g_r := by omega
      have l_x : w.heap.size ≤ g_x := by omega
      clear hh_o hh_r hh_x
      refine (C.out _).mono ?_
      rintro e v1 ⟨rfl, hb⟩
      have B1 := Lib.hid (B0.out.trans (hb.mono B0.out.size))
      have Ko1 := Lib.hid (Ko0.out.below hb)
      have Kr1 := Lib.hid (Kr0.out.below hb)
      have Kx1 := Lib.hid (Kx0.out.below hb)
      clear hb B0 Ko0 Kr0 Kx0
      obtain ⟨⟨co0, co1, co2, co3, co4, co5⟩, do0, do1, do2, do3, do4, do5⟩ := Ko1.out.of6
      obtain ⟨⟨cr0, cr1, cr2, cr3, cr4, cr5⟩, dr0, dr1, dr2, dr3, dr4, dr5⟩ := Kr1.out.of6
      obtain ⟨⟨cx0, cx1, cx2, cx3, cx4, cx5⟩, dx0, dx1, dx2, dx3, dx4, dx5⟩ := Kx1.out.of6
      have Ko2 := Lib.hid (show Blk ((v1.setCell ⟨g_x, 2, none⟩ (.bool k)).setCell ⟨g_x, 3, none⟩ (.bool true)) g_o [.int .i64 m, .int .i64 c, .bool k, .bool true, .int .i64 v, .int .i64 u] from ((Ko1.out.setOther ⟨g_x, 2, none⟩ (.bool k) (n_o_x)).setOther ⟨g_x, 3, none⟩ (.bool true) (n_o_x)))
      have Kr2 := Lib.hid (show Blk ((v1.setCell ⟨g_x, 2, none⟩ (.bool k)).setCell ⟨g_x, 3, none⟩ (.bool true)) g_r [.int .i64 0, .int .i64 0, .bool false, .bool false, .int .i64 0, .int .i64 0] from ((Kr1.out.setOther ⟨g_x, 2, none⟩ (.bool k) (n_r_x)).setOther ⟨g_x, 3, none⟩ (.bool true) (n_r_x)))
      have Kx2 := Lib.hid (show Blk ((v1.setCell ⟨g_x, 2, none⟩ (.bool k)).setCell ⟨g_x, 3, none⟩ (.bool true)) g_x [.int .i64 1460, .int .i64 (-1), .bool k, .bool true, .int .i64 0, .int .i64 0] from ((Kx1.out.set 2 (.bool k)).set 3 (.bool true)))
      have B2 := Lib.hid (show Below w.heap.size w ((v1.setCell ⟨g_x, 2, none⟩ (.bool k)).setCell ⟨g_x, 3, none⟩ (.bool true)) from ((B1.out.setCell l_x (.bool k)).setCell l_x (.bool true)))
      clear B1
      go_wp2_with fail
      clear Ko1 Kr1 Kx1
      clear co0 co1 co2 co3 co4 co5 do0 do1 do2 do3 do4 do5 cr0 cr1 cr2 cr3 cr4 cr5 dr0 dr1 dr2 dr3 dr4 dr5 cx0 cx1 cx2 cx3 cx4 cx5 dx0 dx1 dx2 dx3 dx4 dx5
      change Calls _ _ _ ((v1.setCell ⟨g_x, 2, none⟩ (.bool k)).setCell ⟨g_x, 3, none⟩ (.bool true)) _
      generalize (v1.setCell ⟨g_x, 2, none⟩ (.bool k)).setCell ⟨g_x, 3, none⟩ (.bool true) = v2 at B2 Ko2 Kr2 Kx2 ⊢
      refine (Q.out _).mono ?_
      rintro e v3 ⟨rfl, hb⟩
      have B3 := Lib.hid (B2.out.trans (hb.mono B2.out.size))
      have Ko3 := Lib.hid (Ko2.out.below hb)
      have Kr3 := Lib.hid (Kr2.out.below hb)
      have Kx3 := Lib.hid (Kx2.out.below hb)
      clear hb B2 Ko2 Kr2 Kx2
      obtain ⟨⟨co0, co1, co2, co3, co4, co5⟩, do0, do1, do2, do3, do4, do5⟩ := Ko3.out.of6
      obtain ⟨⟨cr0, cr1, cr2, cr3, cr4, cr5⟩, dr0, dr1, dr2, dr3, dr4, dr5⟩ := Kr3.out.of6
      obtain ⟨⟨cx0, cx1, cx2, cx3, cx4, cx5⟩, dx0, dx1, dx2, dx3, dx4, dx5⟩ := Kx3.out.of6
      go_wp2_with fail
      exact bodyPost_ret (v := .agg #[.int .i64 1460, .int .i64 (-1), .bool k, .bool true, .int .i64 y, .int .i64 v]) (by simp [results, Try.results19, go_sem, cr0, cr1, cr2, cr3, cr4, cr5]) rfl ⟨congrArg Ending.returned hz.out, ((((((((B3.out.setCell l_x _).setCell l_x _).setCell l_r _).setCell l_r _).setCell l_r _).setCell l_r _).setCell l_r _).setCell l_r _)⟩
end Go.Proofs.Ytifgaojgnaafbaa
