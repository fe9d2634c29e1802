/- What a sender may send at once, of the program: unsent.chunk. Nothing here is a claim. -/
import Derived.Test.YtkigkfedkjnkeaaSndPos
import Derived.Test.YtkigkfedkjnkeaaBlk10
import Derived.Deep.DeepCutAuto
import Derived.Deep.RegionHeld3
namespace Go.Proofs.Ytkigkfedkjnkeaa
open Go.RowKit Go.Lib

/-- What chunk answers. -/
def EndCh (q : Int) (x : ByteArray) (b : Bool) (w : World) (e : Ending) (w' : World) : Prop := e = .returned (.agg #[.int .i64 q, .string x, .bool b]) ∧ Below w.heap.size w w'

set_option maxRecDepth 100000 in
set_option maxHeartbeats 4000000 in
theorem chunkI (a b : Int) (x : ByteArray) (f : Bool) (v m : Int) (w : World) (hx : x.size ≤ 48) (h0 : 0 ≤ b) (h1 : b ≤ 49) (hv : I64 v) (k : Nat) (r : Int) (hr : max v 0 - b = r) (hk0 : max 0 (min (min (x.size : Int) r) m) = (k : Int)) :
    Calls Try.prog 53 #[.agg #[.int .i64 a, .int .i64 b, .string x, .bool f], .int .i64 v, .int .i64 m] w (EndCh (pl (a + b)) (x.extract 0 k) (f && (decide (k = x.size) && decide ((k : Int) < r))) w) := by
  have R := Lib.hid (fun w => roomI a b v w h0 (by omega) hv)
  have N := Lib.hid (nextI a b)
  have hk := Lib.hid hk0
  have hkx : k ≤ x.size := by omega
  have hm := Lib.hid (show x.size < 9223372036854775807 from by omega)
  rw [hr] at R
  clear hk0 hr hv h0 h1
  generalize pl (a + b) = q at N ⊢
  cases f with
  | false =>
    rw [Bool.false_and]
    go_enter Try.func53, Try.ntmps53
    have B0 := Lib.hid (show Below w.heap.size w ((w.alloc (.cells #[.int .i64 a, .int .i64 b, .string x, .bool false] 73)).alloc (.cells #[.int .i64 0, .string ⟨#[]⟩, .bool false] 35)) from (((Below.refl _ w).alloc (by simp) _).alloc (by simp) _))
    have Ku0 := Lib.hid (show Blk ((w.alloc (.cells #[.int .i64 a, .int .i64 b, .string x, .bool false] 73)).alloc (.cells #[.int .i64 0, .string ⟨#[]⟩, .bool false] 35)) (w.heap.size) [.int .i64 a, .int .i64 b, .string x, .bool false] from (Blk.new w [.int .i64 a, .int .i64 b, .string x, .bool false] 73).alloc (.cells #[.int .i64 0, .string ⟨#[]⟩, .bool false] 35))
    have s1 : (w.alloc (.cells #[.int .i64 a, .int .i64 b, .string x, .bool false] 73)).heap.size = w.heap.size + 1 := by simp
    have Kr0 := Lib.hid (show Blk ((w.alloc (.cells #[.int .i64 a, .int .i64 b, .string x, .bool false] 73)).alloc (.cells #[.int .i64 0, .string ⟨#[]⟩, .bool false] 35)) (w.heap.size + 1) [.int .i64 0, .string ⟨#[]⟩, .bool false] by have h0 := Blk.new (w.alloc (.cells #[.int .i64 a, .int .i64 b, .string x, .bool false] 73)) [.int .i64 0, .string ⟨#[]⟩, .bool false] 35; rwa [s1] at h0)
    have n_u_r : w.heap.size ≠ w.heap.size + 1 := by omega
    clear s1
    go_wp2_with fail
    change Calls _ _ _ ((w.alloc (.cells #[.int .i64 a, .int .i64 b, .string x, .bool false] 73)).alloc (.cells #[.int .i64 0, .string ⟨#[]⟩, .bool false] 35)) _
    generalize (w.alloc (.cells #[.int .i64 a, .int .i64 b, .string x, .bool false] 73)).alloc (.cells #[.int .i64 0, .string ⟨#[]⟩, .bool false] 35) = v0 at B0 Ku0 Kr0 ⊢
    generalize hh_r : w.heap.size + 1 = g_r at Kr0 n_u_r ⊢
    generalize hh_u : w.heap.size = g_u at Ku0 n_u_r ⊢
    have l_u : w.heap.size ≤ g_u := by omega
    have l_r : w.heap.size ≤ g_r := by omega
    clear hh_u hh_r
    refine (R.out _).mono ?_
    rintro e v1 ⟨rfl, hb⟩
    have B1 := Lib.hid (B0.out.trans (hb.mono B0.out.size))
    have Ku1 := Lib.hid (Ku0.out.below hb)
    have Kr1 := Lib.hid (Kr0.out.below hb)
    clear hb B0 Ku0 Kr0
    obtain ⟨⟨cu0, cu1, cu2, cu3⟩, du0, du1, du2, du3⟩ := Ku1.out.four
    obtain ⟨⟨cr0, cr1, cr2⟩, dr0, dr1, dr2⟩ := Kr1.out.o3
    go_upto_region 3 with fail
    have e0 : (max 0 (if m < if r < (x.size : Int) then r else (x.size : Int) then m else if r < (x.size : Int) then r else (x.size : Int))) = (k : Int) := by rw [← hk.out]; congr 1; split <;> split <;> omega
    rw [e0]
    clear e0
    generalize (if m < if r < (x.size : Int) then r else (x.size : Int) then m else if r < (x.size : Int) then r else (x.size : Int)) = zz
    go_upto_region 4 with fail
    clear cu0 cu1 cu2 cu3 du0 du1 du2 du3 cr0 cr1 cr2 dr0 dr1 dr2
    refine wp_region_noPanic ?_
    refine wp_region_held_drew (S := fun w' => Blk w' g_u [.int .i64 a, .int .i64 b, .string x, .bool false]) (by kernel_rfl) Ku1.out (fun hS => ?_)
    refine wpAnyH_take (i := 0) (v := .pointer (some ⟨g_u, 0, none⟩)) rfl (by kernel_rfl) (by kernel_rfl) (by kernel_rfl) (fun _ _ _ h => h) (Or.inl ⟨rfl, by intro w hS; go_simp⟩) hS ?_
    refine wpAnyH_take (i := 1) (v := .agg #[.int .i64 a, .int .i64 b]) rfl (by kernel_rfl) (by kernel_rfl) (by kernel_rfl) (fun _ _ _ h => h) (Or.inl ⟨rfl, by intro w hS; obtain ⟨⟨h0, h1, h2, h3⟩, _⟩ := hS.four; go_simp⟩) hS ?_
    refine wpAnyH_take (i := 3) (v := .pointer (some ⟨g_u, 2, none⟩)) rfl (by kernel_rfl) (by kernel_rfl) (by kernel_rfl) (fun _ _ _ h => h) (Or.inl ⟨rfl, by intro w hS; go_simp⟩) hS ?_
    refine wpAnyH_take (i := 4) (v := .string x) rfl (by kernel_rfl) (by kernel_rfl) (by kernel_rfl) (fun _ _ _ h => h) (Or.inl ⟨rfl, by intro w hS; obtain ⟨⟨h0, h1, h2, h3⟩, _⟩ := hS.four; go_simp⟩) hS ?_
    refine wpAnyH_take (i := 5) (v := .int .i64 k) rfl (by kernel_rfl) (by kernel_rfl) (by kernel_rfl) (fun _ _ _ h => h) (Or.inl ⟨rfl, by intro w hS; go_simp⟩) hS ?_
    refine wpAnyH_take (i := 6) (v := .string (x.extract 0 k)) rfl (by kernel_rfl) (by kernel_rfl) (by kernel_rfl) (fun _ _ _ h => h) (Or.inl ⟨rfl, by intro w hS; go_simp⟩) hS ?_
    refine wpAnyH_take (i := 7) (v := .bool false) rfl (by kernel_rfl) (by kernel_rfl) (by kernel_rfl) (fun _ _ _ h => h) (Or.inl ⟨rfl, by intro w hS; go_simp⟩) hS ?_
    refine wpAnyH_ready (rs := [2]) (by kernel_rfl) (by simp) ?_
    refine AllReadyH.cons (i := 2) rfl (fun K hK => ?zr1) AllReadyH.nil
    rw [if_pos (by rfl)]
    go_simp
    clear hS
    refine (N.out _).mono ?_
    rintro e v2 ⟨rfl, hb⟩
    replace hb := (Below.refl _ v1).drew.trans hb
    have B2 := Lib.hid (B1.out.trans (hb.mono B1.out.size))
    have Ku2 := Lib.hid (Ku1.out.below hb)
    have Kr2 := Lib.hid (Kr1.out.below hb)
    clear hb B1 Ku1 Kr1
    refine hK.out _ _ Ku2.out (fun hS => ?_)
    clear hK K
    refine wpAnyH_take (i := 8) (v := .agg #[.int .i64 q, .string (x.extract 0 k), .bool false]) rfl (by kernel_rfl) (by kernel_rfl) (by kernel_rfl) (fun _ _ _ h => h) (Or.inl ⟨rfl, by intro w hS; go_simp⟩) hS ?_
    obtain ⟨⟨cr0, cr1, cr2⟩, dr0, dr1, dr2⟩ := Kr2.out.o3
    refine wpAnyH_ready (rs := [9]) (by kernel_rfl) (by simp) ?_
    refine AllReadyH.cons (i := 9) rfl (fun K hK => ?zr2) AllReadyH.nil
    rw [if_pos (by rfl)]
    go_simp
    clear hS
    have Ku3 := Lib.hid (show Blk (((v2.setCell ⟨g_r, 0, none⟩ (.int .i64 q)).setCell ⟨g_r, 1, none⟩ (.string (x.extract 0 k))).setCell ⟨g_r, 2, none⟩ (.bool false)) g_u [.int .i64 a, .int .i64 b, .string x, .bool false] from (((Ku2.out.setOther ⟨g_r, 0, none⟩ (.int .i64 q) (n_u_r)).setOther ⟨g_r, 1, none⟩ (.string (x.extract 0 k)) (n_u_r)).setOther ⟨g_r, 2, none⟩ (.bool false) (n_u_r)))
    have Kr3 := Lib.hid (show Blk (((v2.setCell ⟨g_r, 0, none⟩ (.int .i64 q)).setCell ⟨g_r, 1, none⟩ (.string (x.extract 0 k))).setCell ⟨g_r, 2, none⟩ (.bool false)) g_r [.int .i64 q, .string (x.extract 0 k), .bool false] from (((Kr2.out.set 0 (.int .i64 q)).set 1 (.string (x.extract 0 k))).set 2 (.bool false)))
    have B3 := Lib.hid (show Below w.heap.size w (((v2.setCell ⟨g_r, 0, none⟩ (.int .i64 q)).setCell ⟨g_r, 1, none⟩ (.string (x.extract 0 k))).setCell ⟨g_r, 2, none⟩ (.bool false)) from (((B2.out.setCell l_r (.int .i64 q)).setCell l_r (.string (x.extract 0 k))).setCell l_r (.bool false)))
    refine hK.out _ _ Ku3.out (fun hS => ?_)
    clear hK K B2 cr0 cr1 cr2 dr0 dr1 dr2 Ku2 Kr2
    generalize ((v2.setCell ⟨g_r, 0, none⟩ (.int .i64 q)).setCell ⟨g_r, 1, none⟩ (.string (x.extract 0 k))).setCell ⟨g_r, 2, none⟩ (.bool false) = v3 at hS Ku3 Kr3 B3 ⊢
    refine wpAnyH_done (by kernel_rfl) ?_ _
    refine NoPanic.normal ?_
    obtain ⟨⟨cu0, cu1, cu2, cu3⟩, du0, du1, du2, du3⟩ := Ku3.out.four
    obtain ⟨⟨cr0, cr1, cr2⟩, dr0, dr1, dr2⟩ := Kr3.out.o3
    go_wp2_with fail
    exact bodyPost_ret (v := .agg #[.int .i64 q, .string (x.extract 0 k), .bool false]) (by simp [results, Try.results53, go_sem, cr0, cr1, cr2]) rfl ⟨rfl, B3.out⟩
  | true =>
    rw [Bool.true_and]
    by_cases h1 : k = x.size
    case neg =>
      rw [decide_eq_false h1, Bool.false_and]
      have h1' : ((k : Int) == (x.size : Int)) = false := by simp; omega
      clear h1
      go_enter Try.func53, Try.ntmps53
      have B0 := Lib.hid (show Below w.heap.size w ((w.alloc (.cells #[.int .i64 a, .int .i64 b, .string x, .bool true] 73)).alloc (.cells #[.int .i64 0, .string ⟨#[]⟩, .bool false] 35)) from (((Below.refl _ w).alloc (by simp) _).alloc (by simp) _))
      have Ku0 := Lib.hid (show Blk ((w.alloc (.cells #[.int .i64 a, .int .i64 b, .string x, .bool true] 73)).alloc (.cells #[.int .i64 0, .string ⟨#[]⟩, .bool false] 35)) (w.heap.size) [.int .i64 a, .int .i64 b, .string x, .bool true] from (Blk.new w [.int .i64 a, .int .i64 b, .string x, .bool true] 73).alloc (.cells #[.int .i64 0, .string ⟨#[]⟩, .bool false] 35))
      have s1 : (w.alloc (.cells #[.int .i64 a, .int .i64 b, .string x, .bool true] 73)).heap.size = w.heap.size + 1 := by simp
      have Kr0 := Lib.hid (show Blk ((w.alloc (.cells #[.int .i64 a, .int .i64 b, .string x, .bool true] 73)).alloc (.cells #[.int .i64 0, .string ⟨#[]⟩, .bool false] 35)) (w.heap.size + 1) [.int .i64 0, .string ⟨#[]⟩, .bool false] by have h0 := Blk.new (w.alloc (.cells #[.int .i64 a, .int .i64 b, .string x, .bool true] 73)) [.int .i64 0, .string ⟨#[]⟩, .bool false] 35; rwa [s1] at h0)
      have n_u_r : w.heap.size ≠ w.heap.size + 1 := by omega
      clear s1
      go_wp2_with fail
      change Calls _ _ _ ((w.alloc (.cells #[.int .i64 a, .int .i64 b, .string x, .bool true] 73)).alloc (.cells #[.int .i64 0, .string ⟨#[]⟩, .bool false] 35)) _
      generalize (w.alloc (.cells #[.int .i64 a, .int .i64 b, .string x, .bool true] 73)).alloc (.cells #[.int .i64 0, .string ⟨#[]⟩, .bool false] 35) = v0 at B0 Ku0 Kr0 ⊢
      generalize hh_r : w.heap.size + 1 = g_r at Kr0 n_u_r ⊢
      generalize hh_u : w.heap.size = g_u at Ku0 n_u_r ⊢
      have l_u : w.heap.size ≤ g_u := by omega
      have l_r : w.heap.size ≤ g_r := by omega
      clear hh_u hh_r
      refine (R.out _).mono ?_
      rintro e v1 ⟨rfl, hb⟩
      have B1 := Lib.hid (B0.out.trans (hb.mono B0.out.size))
      have Ku1 := Lib.hid (Ku0.out.below hb)
      have Kr1 := Lib.hid (Kr0.out.below hb)
      clear hb B0 Ku0 Kr0
      obtain ⟨⟨cu0, cu1, cu2, cu3⟩, du0, du1, du2, du3⟩ := Ku1.out.four
      obtain ⟨⟨cr0, cr1, cr2⟩, dr0, dr1, dr2⟩ := Kr1.out.o3
      go_upto_region 3 with fail
      have e0 : (max 0 (if m < if r < (x.size : Int) then r else (x.size : Int) then m else if r < (x.size : Int) then r else (x.size : Int))) = (k : Int) := by rw [← hk.out]; congr 1; split <;> split <;> omega
      rw [e0]
      clear e0
      generalize (if m < if r < (x.size : Int) then r else (x.size : Int) then m else if r < (x.size : Int) then r else (x.size : Int)) = zz
      go_upto_region 4 with fail
      clear cu0 cu1 cu2 cu3 du0 du1 du2 du3 cr0 cr1 cr2 dr0 dr1 dr2
      refine wp_region_noPanic ?_
      refine wp_region_held_drew (S := fun w' => Blk w' g_u [.int .i64 a, .int .i64 b, .string x, .bool true]) (by kernel_rfl) Ku1.out (fun hS => ?_)
      refine wpAnyH_take (i := 0) (v := .pointer (some ⟨g_u, 0, none⟩)) rfl (by kernel_rfl) (by kernel_rfl) (by kernel_rfl) (fun _ _ _ h => h) (Or.inl ⟨rfl, by intro w hS; go_simp⟩) hS ?_
      refine wpAnyH_take (i := 1) (v := .agg #[.int .i64 a, .int .i64 b]) rfl (by kernel_rfl) (by kernel_rfl) (by kernel_rfl) (fun _ _ _ h => h) (Or.inl ⟨rfl, by intro w hS; obtain ⟨⟨h0, h1, h2, h3⟩, _⟩ := hS.four; go_simp⟩) hS ?_
      refine wpAnyH_take (i := 3) (v := .pointer (some ⟨g_u, 2, none⟩)) rfl (by kernel_rfl) (by kernel_rfl) (by kernel_rfl) (fun _ _ _ h => h) (Or.inl ⟨rfl, by intro w hS; go_simp⟩) hS ?_
      refine wpAnyH_take (i := 4) (v := .string x) rfl (by kernel_rfl) (by kernel_rfl) (by kernel_rfl) (fun _ _ _ h => h) (Or.inl ⟨rfl, by intro w hS; obtain ⟨⟨h0, h1, h2, h3⟩, _⟩ := hS.four; go_simp⟩) hS ?_
      refine wpAnyH_take (i := 5) (v := .int .i64 k) rfl (by kernel_rfl) (by kernel_rfl) (by kernel_rfl) (fun _ _ _ h => h) (Or.inl ⟨rfl, by intro w hS; go_simp⟩) hS ?_
      refine wpAnyH_take (i := 6) (v := .string (x.extract 0 k)) rfl (by kernel_rfl) (by kernel_rfl) (by kernel_rfl) (fun _ _ _ h => h) (Or.inl ⟨rfl, by intro w hS; go_simp⟩) hS ?_
      refine wpAnyH_take (i := 7) (v := .bool false) rfl (by kernel_rfl) (by kernel_rfl) (by kernel_rfl) (fun _ _ _ h => h) (Or.inl ⟨rfl, by intro w hS; go_simp⟩) hS ?_
      refine wpAnyH_ready (rs := [2]) (by kernel_rfl) (by simp) ?_
      refine AllReadyH.cons (i := 2) rfl (fun K hK => ?zr3) AllReadyH.nil
      rw [if_pos (by rfl)]
      go_simp
      clear hS
      refine (N.out _).mono ?_
      rintro e v2 ⟨rfl, hb⟩
      replace hb := (Below.refl _ v1).drew.trans hb
      have B2 := Lib.hid (B1.out.trans (hb.mono B1.out.size))
      have Ku2 := Lib.hid (Ku1.out.below hb)
      have Kr2 := Lib.hid (Kr1.out.below hb)
      clear hb B1 Ku1 Kr1
      refine hK.out _ _ Ku2.out (fun hS => ?_)
      clear hK K
      refine wpAnyH_take (i := 8) (v := .agg #[.int .i64 q, .string (x.extract 0 k), .bool false]) rfl (by kernel_rfl) (by kernel_rfl) (by kernel_rfl) (fun _ _ _ h => h) (Or.inl ⟨rfl, by intro w hS; go_simp⟩) hS ?_
      obtain ⟨⟨cr0, cr1, cr2⟩, dr0, dr1, dr2⟩ := Kr2.out.o3
      refine wpAnyH_ready (rs := [9]) (by kernel_rfl) (by simp) ?_
      refine AllReadyH.cons (i := 9) rfl (fun K hK => ?zr4) AllReadyH.nil
      rw [if_pos (by rfl)]
      go_simp
      clear hS
      have Ku3 := Lib.hid (show Blk (((v2.setCell ⟨g_r, 0, none⟩ (.int .i64 q)).setCell ⟨g_r, 1, none⟩ (.string (x.extract 0 k))).setCell ⟨g_r, 2, none⟩ (.bool false)) g_u [.int .i64 a, .int .i64 b, .string x, .bool true] from (((Ku2.out.setOther ⟨g_r, 0, none⟩ (.int .i64 q) (n_u_r)).setOther ⟨g_r, 1, none⟩ (.string (x.extract 0 k)) (n_u_r)).setOther ⟨g_r, 2, none⟩ (.bool false) (n_u_r)))
      have Kr3 := Lib.hid (show Blk (((v2.setCell ⟨g_r, 0, none⟩ (.int .i64 q)).setCell ⟨g_r, 1, none⟩ (.string (x.extract 0 k))).setCell ⟨g_r, 2, none⟩ (.bool false)) g_r [.int .i64 q, .string (x.extract 0 k), .bool false] from (((Kr2.out.set 0 (.int .i64 q)).set 1 (.string (x.extract 0 k))).set 2 (.bool false)))
      have B3 := Lib.hid (show Below w.heap.size w (((v2.setCell ⟨g_r, 0, none⟩ (.int .i64 q)).setCell ⟨g_r, 1, none⟩ (.string (x.extract 0 k))).setCell ⟨g_r, 2, none⟩ (.bool false)) from (((B2.out.setCell l_r (.int .i64 q)).setCell l_r (.string (x.extract 0 k))).setCell l_r (.bool false)))
      refine hK.out _ _ Ku3.out (fun hS => ?_)
      clear hK K B2 cr0 cr1 cr2 dr0 dr1 dr2 Ku2 Kr2
      generalize ((v2.setCell ⟨g_r, 0, none⟩ (.int .i64 q)).setCell ⟨g_r, 1, none⟩ (.string (x.extract 0 k))).setCell ⟨g_r, 2, none⟩ (.bool false) = v3 at hS Ku3 Kr3 B3 ⊢
      refine wpAnyH_done (by kernel_rfl) ?_ _
      refine NoPanic.normal ?_
      obtain ⟨⟨cu0, cu1, cu2, cu3⟩, du0, du1, du2, du3⟩ := Ku3.out.four
      obtain ⟨⟨cr0, cr1, cr2⟩, dr0, dr1, dr2⟩ := Kr3.out.o3
      go_wp2_with fail
      exact bodyPost_ret (v := .agg #[.int .i64 q, .string (x.extract 0 k), .bool false]) (by simp [results, Try.results53, go_sem, cr0, cr1, cr2]) rfl ⟨rfl, B3.out⟩
    rw [decide_eq_true h1, Bool.true_and]
    have h1' : ((k : Int) == (x.size : Int)) = true := by simp; omega
    clear h1
    by_cases h2 : (k : Int) < r
    case neg =>
      rw [decide_eq_false h2]
      go_enter Try.func53, Try.ntmps53
      have B0 := Lib.hid (show Below w.heap.size w ((w.alloc (.cells #[.int .i64 a, .int .i64 b, .string x, .bool true] 73)).alloc (.cells #[.int .i64 0, .string ⟨#[]⟩, .bool false] 35)) from (((Below.refl _ w).alloc (by simp) _).alloc (by simp) _))
      have Ku0 := Lib.hid (show Blk ((w.alloc (.cells #[.int .i64 a, .int .i64 b, .string x, .bool true] 73)).alloc (.cells #[.int .i64 0, .string ⟨#[]⟩, .bool false] 35)) (w.heap.size) [.int .i64 a, .int .i64 b, .string x, .bool true] from (Blk.new w [.int .i64 a, .int .i64 b, .string x, .bool true] 73).alloc (.cells #[.int .i64 0, .string ⟨#[]⟩, .bool false] 35))
      have s1 : (w.alloc (.cells #[.int .i64 a, .int .i64 b, .string x, .bool true] 73)).heap.size = w.heap.size + 1 := by simp
      have Kr0 := Lib.hid (show Blk ((w.alloc (.cells #[.int .i64 a, .int .i64 b, .string x, .bool true] 73)).alloc (.cells #[.int .i64 0, .string ⟨#[]⟩, .bool false] 35)) (w.heap.size + 1) [.int .i64 0, .string ⟨#[]⟩, .bool false] by have h0 := Blk.new (w.alloc (.cells #[.int .i64 a, .int .i64 b, .string x, .bool true] 73)) [.int .i64 0, .string ⟨#[]⟩, .bool false] 35; rwa [s1] at h0)
      have n_u_r : w.heap.size ≠ w.heap.size + 1 := by omega
      clear s1
      go_wp2_with fail
      change Calls _ _ _ ((w.alloc (.cells #[.int .i64 a, .int .i64 b, .string x, .bool true] 73)).alloc (.cells #[.int .i64 0, .string ⟨#[]⟩, .bool false] 35)) _
      generalize (w.alloc (.cells #[.int .i64 a, .int .i64 b, .string x, .bool true] 73)).alloc (.cells #[.int .i64 0, .string ⟨#[]⟩, .bool false] 35) = v0 at B0 Ku0 Kr0 ⊢
      generalize hh_r : w.heap.size + 1 = g_r at Kr0 n_u_r ⊢
      generalize hh_u : w.heap.size = g_u at Ku0 n_u_r ⊢
      have l_u : w.heap.size ≤ g_u := by omega
      have l_r : w.heap.size ≤ g_r := by omega
      clear hh_u hh_r
      refine (R.out _).mono ?_
      rintro e v1 ⟨rfl, hb⟩
      have B1 := Lib.hid (B0.out.trans (hb.mono B0.out.size))
      have Ku1 := Lib.hid (Ku0.out.below hb)
      have Kr1 := Lib.hid (Kr0.out.below hb)
      clear hb B0 Ku0 Kr0
      obtain ⟨⟨cu0, cu1, cu2, cu3⟩, du0, du1, du2, du3⟩ := Ku1.out.four
      obtain ⟨⟨cr0, cr1, cr2⟩, dr0, dr1, dr2⟩ := Kr1.out.o3
      go_upto_region 3 with fail
      have e0 : (max 0 (if m < if r < (x.size : Int) then r else (x.size : Int) then m else if r < (x.size : Int) then r else (x.size : Int))) = (k : Int) := by rw [← hk.out]; congr 1; split <;> split <;> omega
      rw [e0]
      clear e0
      generalize (if m < if r < (x.size : Int) then r else (x.size : Int) then m else if r < (x.size : Int) then r else (x.size : Int)) = zz
      go_upto_region 4 with fail
      clear cu0 cu1 cu2 cu3 du0 du1 du2 du3 cr0 cr1 cr2 dr0 dr1 dr2
      refine wp_region_noPanic ?_
      refine wp_region_held_drew (S := fun w' => Blk w' g_u [.int .i64 a, .int .i64 b, .string x, .bool true]) (by kernel_rfl) Ku1.out (fun hS => ?_)
      refine wpAnyH_take (i := 0) (v := .pointer (some ⟨g_u, 0, none⟩)) rfl (by kernel_rfl) (by kernel_rfl) (by kernel_rfl) (fun _ _ _ h => h) (Or.inl ⟨rfl, by intro w hS; go_simp⟩) hS ?_
      refine wpAnyH_take (i := 1) (v := .agg #[.int .i64 a, .int .i64 b]) rfl (by kernel_rfl) (by kernel_rfl) (by kernel_rfl) (fun _ _ _ h => h) (Or.inl ⟨rfl, by intro w hS; obtain ⟨⟨h0, h1, h2, h3⟩, _⟩ := hS.four; go_simp⟩) hS ?_
      refine wpAnyH_take (i := 3) (v := .pointer (some ⟨g_u, 2, none⟩)) rfl (by kernel_rfl) (by kernel_rfl) (by kernel_rfl) (fun _ _ _ h => h) (Or.inl ⟨rfl, by intro w hS; go_simp⟩) hS ?_
      refine wpAnyH_take (i := 4) (v := .string x) rfl (by kernel_rfl) (by kernel_rfl) (by kernel_rfl) (fun _ _ _ h => h) (Or.inl ⟨rfl, by intro w hS; obtain ⟨⟨h0, h1, h2, h3⟩, _⟩ := hS.four; go_simp⟩) hS ?_
      refine wpAnyH_take (i := 5) (v := .int .i64 k) rfl (by kernel_rfl) (by kernel_rfl) (by kernel_rfl) (fun _ _ _ h => h) (Or.inl ⟨rfl, by intro w hS; go_simp⟩) hS ?_
      refine wpAnyH_take (i := 6) (v := .string (x.extract 0 k)) rfl (by kernel_rfl) (by kernel_rfl) (by kernel_rfl) (fun _ _ _ h => h) (Or.inl ⟨rfl, by intro w hS; go_simp⟩) hS ?_
      refine wpAnyH_take (i := 7) (v := .bool false) rfl (by kernel_rfl) (by kernel_rfl) (by kernel_rfl) (fun _ _ _ h => h) (Or.inl ⟨rfl, by intro w hS; go_simp⟩) hS ?_
      refine wpAnyH_ready (rs := [2]) (by kernel_rfl) (by simp) ?_
      refine AllReadyH.cons (i := 2) rfl (fun K hK => ?zr5) AllReadyH.nil
      rw [if_pos (by rfl)]
      go_simp
      clear hS
      refine (N.out _).mono ?_
      rintro e v2 ⟨rfl, hb⟩
      replace hb := (Below.refl _ v1).drew.trans hb
      have B2 := Lib.hid (B1.out.trans (hb.mono B1.out.size))
      have Ku2 := Lib.hid (Ku1.out.below hb)
      have Kr2 := Lib.hid (Kr1.out.below hb)
      clear hb B1 Ku1 Kr1
      refine hK.out _ _ Ku2.out (fun hS => ?_)
      clear hK K
      refine wpAnyH_take (i := 8) (v := .agg #[.int .i64 q, .string (x.extract 0 k), .bool false]) rfl (by kernel_rfl) (by kernel_rfl) (by kernel_rfl) (fun _ _ _ h => h) (Or.inl ⟨rfl, by intro w hS; go_simp⟩) hS ?_
      obtain ⟨⟨cr0, cr1, cr2⟩, dr0, dr1, dr2⟩ := Kr2.out.o3
      refine wpAnyH_ready (rs := [9]) (by kernel_rfl) (by simp) ?_
      refine AllReadyH.cons (i := 9) rfl (fun K hK => ?zr6) AllReadyH.nil
      rw [if_pos (by rfl)]
      go_simp
      clear hS
      have Ku3 := Lib.hid (show Blk (((v2.setCell ⟨g_r, 0, none⟩ (.int .i64 q)).setCell ⟨g_r, 1, none⟩ (.string (x.extract 0 k))).setCell ⟨g_r, 2, none⟩ (.bool false)) g_u [.int .i64 a, .int .i64 b, .string x, .bool true] from (((Ku2.out.setOther ⟨g_r, 0, none⟩ (.int .i64 q) (n_u_r)).setOther ⟨g_r, 1, none⟩ (.string (x.extract 0 k)) (n_u_r)).setOther ⟨g_r, 2, none⟩ (.bool false) (n_u_r)))
      have Kr3 := Lib.hid (show Blk (((v2.setCell ⟨g_r, 0, none⟩ (.int .i64 q)).setCell ⟨g_r, 1, none⟩ (.string (x.extract 0 k))).setCell ⟨g_r, 2, none⟩ (.bool false)) g_r [.int .i64 q, .string (x.extract 0 k), .bool false] from (((Kr2.out.set 0 (.int .i64 q)).set 1 (.string (x.extract 0 k))).set 2 (.bool false)))
      have B3 := Lib.hid (show Below w.heap.size w (((v2.setCell ⟨g_r, 0, none⟩ (.int .i64 q)).setCell ⟨g_r, 1, none⟩ (.string (x.extract 0 k))).setCell ⟨g_r, 2, none⟩ (.bool false)) from (((B2.out.setCell l_r (.int .i64 q)).setCell l_r (.string (x.extract 0 k))).setCell l_r (.bool false)))
      refine hK.out _ _ Ku3.out (fun hS => ?_)
      clear hK K B2 cr0 cr1 cr2 dr0 dr1 dr2 Ku2 Kr2
      generalize ((v2.setCell ⟨g_r, 0, none⟩ (.int .i64 q)).setCell ⟨g_r, 1, none⟩ (.string (x.extract 0 k))).setCell ⟨g_r, 2, none⟩ (.bool false) = v3 at hS Ku3 Kr3 B3 ⊢
      refine wpAnyH_done (by kernel_rfl) ?_ _
      refine NoPanic.normal ?_
      obtain ⟨⟨cu0, cu1, cu2, cu3⟩, du0, du1, du2, du3⟩ := Ku3.out.four
      obtain ⟨⟨cr0, cr1, cr2⟩, dr0, dr1, dr2⟩ := Kr3.out.o3
      go_wp2_with fail
      exact bodyPost_ret (v := .agg #[.int .i64 q, .string (x.extract 0 k), .bool false]) (by simp [results, Try.results53, go_sem, cr0, cr1, cr2]) rfl ⟨rfl, B3.out⟩
    rw [decide_eq_true h2]
    go_enter Try.func53, Try.ntmps53
    have B0 := Lib.hid (show Below w.heap.size w ((w.alloc (.cells #[.int .i64 a, .int .i64 b, .string x, .bool true] 73)).alloc (.cells #[.int .i64 0, .string ⟨#[]⟩, .bool false] 35)) from (((Below.refl _ w).alloc (by simp) _).alloc (by simp) _))
    have Ku0 := Lib.hid (show Blk ((w.alloc (.cells #[.int .i64 a, .int .i64 b, .string x, .bool true] 73)).alloc (.cells #[.int .i64 0, .string ⟨#[]⟩, .bool false] 35)) (w.heap.size) [.int .i64 a, .int .i64 b, .string x, .bool true] from (Blk.new w [.int .i64 a, .int .i64 b, .string x, .bool true] 73).alloc (.cells #[.int .i64 0, .string ⟨#[]⟩, .bool false] 35))
    have s1 : (w.alloc (.cells #[.int .i64 a, .int .i64 b, .string x, .bool true] 73)).heap.size = w.heap.size + 1 := by simp
    have Kr0 := Lib.hid (show Blk ((w.alloc (.cells #[.int .i64 a, .int .i64 b, .string x, .bool true] 73)).alloc (.cells #[.int .i64 0, .string ⟨#[]⟩, .bool false] 35)) (w.heap.size + 1) [.int .i64 0, .string ⟨#[]⟩, .bool false] by have h0 := Blk.new (w.alloc (.cells #[.int .i64 a, .int .i64 b, .string x, .bool true] 73)) [.int .i64 0, .string ⟨#[]⟩, .bool false] 35; rwa [s1] at h0)
    have n_u_r : w.heap.size ≠ w.heap.size + 1 := by omega
    clear s1
    go_wp2_with fail
    change Calls _ _ _ ((w.alloc (.cells #[.int .i64 a, .int .i64 b, .string x, .bool true] 73)).alloc (.cells #[.int .i64 0, .string ⟨#[]⟩, .bool false] 35)) _
    generalize (w.alloc (.cells #[.int .i64 a, .int .i64 b, .string x, .bool true] 73)).alloc (.cells #[.int .i64 0, .string ⟨#[]⟩, .bool false] 35) = v0 at B0 Ku0 Kr0 ⊢
    generalize hh_r : w.heap.size + 1 = g_r at Kr0 n_u_r ⊢
    generalize hh_u : w.heap.size = g_u at Ku0 n_u_r ⊢
    have l_u : w.heap.size ≤ g_u := by omega
    have l_r : w.heap.size ≤ g_r := by omega
    clear hh_u hh_r
    refine (R.out _).mono ?_
    rintro e v1 ⟨rfl, hb⟩
    have B1 := Lib.hid (B0.out.trans (hb.mono B0.out.size))
    have Ku1 := Lib.hid (Ku0.out.below hb)
    have Kr1 := Lib.hid (Kr0.out.below hb)
    clear hb B0 Ku0 Kr0
    obtain ⟨⟨cu0, cu1, cu2, cu3⟩, du0, du1, du2, du3⟩ := Ku1.out.four
    obtain ⟨⟨cr0, cr1, cr2⟩, dr0, dr1, dr2⟩ := Kr1.out.o3
    go_upto_region 3 with fail
    have e0 : (max 0 (if m < if r < (x.size : Int) then r else (x.size : Int) then m else if r < (x.size : Int) then r else (x.size : Int))) = (k : Int) := by rw [← hk.out]; congr 1; split <;> split <;> omega
    rw [e0]
    clear e0
    generalize (if m < if r < (x.size : Int) then r else (x.size : Int) then m else if r < (x.size : Int) then r else (x.size : Int)) = zz
    go_upto_region 4 with fail
    clear cu0 cu1 cu2 cu3 du0 du1 du2 du3 cr0 cr1 cr2 dr0 dr1 dr2
    refine wp_region_noPanic ?_
    refine wp_region_held_drew (S := fun w' => Blk w' g_u [.int .i64 a, .int .i64 b, .string x, .bool true]) (by kernel_rfl) Ku1.out (fun hS => ?_)
    refine wpAnyH_take (i := 0) (v := .pointer (some ⟨g_u, 0, none⟩)) rfl (by kernel_rfl) (by kernel_rfl) (by kernel_rfl) (fun _ _ _ h => h) (Or.inl ⟨rfl, by intro w hS; go_simp⟩) hS ?_
    refine wpAnyH_take (i := 1) (v := .agg #[.int .i64 a, .int .i64 b]) rfl (by kernel_rfl) (by kernel_rfl) (by kernel_rfl) (fun _ _ _ h => h) (Or.inl ⟨rfl, by intro w hS; obtain ⟨⟨h0, h1, h2, h3⟩, _⟩ := hS.four; go_simp⟩) hS ?_
    refine wpAnyH_take (i := 3) (v := .pointer (some ⟨g_u, 2, none⟩)) rfl (by kernel_rfl) (by kernel_rfl) (by kernel_rfl) (fun _ _ _ h => h) (Or.inl ⟨rfl, by intro w hS; go_simp⟩) hS ?_
    refine wpAnyH_take (i := 4) (v := .string x) rfl (by kernel_rfl) (by kernel_rfl) (by kernel_rfl) (fun _ _ _ h => h) (Or.inl ⟨rfl, by intro w hS; obtain ⟨⟨h0, h1, h2, h3⟩, _⟩ := hS.four; go_simp⟩) hS ?_
    refine wpAnyH_take (i := 5) (v := .int .i64 k) rfl (by kernel_rfl) (by kernel_rfl) (by kernel_rfl) (fun _ _ _ h => h) (Or.inl ⟨rfl, by intro w hS; go_simp⟩) hS ?_
    refine wpAnyH_take (i := 6) (v := .string (x.extract 0 k)) rfl (by kernel_rfl) (by kernel_rfl) (by kernel_rfl) (fun _ _ _ h => h) (Or.inl ⟨rfl, by intro w hS; go_simp⟩) hS ?_
    refine wpAnyH_take (i := 7) (v := .bool true) rfl (by kernel_rfl) (by kernel_rfl) (by kernel_rfl) (fun _ _ _ h => h) (Or.inl ⟨rfl, by intro w hS; go_simp⟩) hS ?_
    refine wpAnyH_ready (rs := [2]) (by kernel_rfl) (by simp) ?_
    refine AllReadyH.cons (i := 2) rfl (fun K hK => ?zr7) AllReadyH.nil
    rw [if_pos (by rfl)]
    go_simp
    clear hS
    refine (N.out _).mono ?_
    rintro e v2 ⟨rfl, hb⟩
    replace hb := (Below.refl _ v1).drew.trans hb
    have B2 := Lib.hid (B1.out.trans (hb.mono B1.out.size))
    have Ku2 := Lib.hid (Ku1.out.below hb)
    have Kr2 := Lib.hid (Kr1.out.below hb)
    clear hb B1 Ku1 Kr1
    refine hK.out _ _ Ku2.out (fun hS => ?_)
    clear hK K
    refine wpAnyH_take (i := 8) (v := .agg #[.int .i64 q, .string (x.extract 0 k), .bool true]) rfl (by kernel_rfl) (by kernel_rfl) (by kernel_rfl) (fun _ _ _ h => h) (Or.inl ⟨rfl, by intro w hS; go_simp⟩) hS ?_
    obtain ⟨⟨cr0, cr1, cr2⟩, dr0, dr1, dr2⟩ := Kr2.out.o3
    refine wpAnyH_ready (rs := [9]) (by kernel_rfl) (by simp) ?_
    refine AllReadyH.cons (i := 9) rfl (fun K hK => ?zr8) AllReadyH.nil
    rw [if_pos (by rfl)]
    go_simp
    clear hS
    have Ku3 := Lib.hid (show Blk (((v2.setCell ⟨g_r, 0, none⟩ (.int .i64 q)).setCell ⟨g_r, 1, none⟩ (.string (x.extract 0 k))).setCell ⟨g_r, 2, none⟩ (.bool true)) g_u [.int .i64 a, .int .i64 b, .string x, .bool true] from (((Ku2.out.setOther ⟨g_r, 0, none⟩ (.int .i64 q) (n_u_r)).setOther ⟨g_r, 1, none⟩ (.string (x.extract 0 k)) (n_u_r)).setOther ⟨g_r, 2, none⟩ (.bool true) (n_u_r)))
    have Kr3 := Lib.hid (show Blk (((v2.setCell ⟨g_r, 0, none⟩ (.int .i64 q)).setCell ⟨g_r, 1, none⟩ (.string (x.extract 0 k))).setCell ⟨g_r, 2, none⟩ (.bool true)) g_r [.int .i64 q, .string (x.extract 0 k), .bool true] from (((Kr2.out.set 0 (.int .i64 q)).set 1 (.string (x.extract 0 k))).set 2 (.bool true)))
    have B3 := Lib.hid (show Below w.heap.size w (((v2.setCell ⟨g_r, 0, none⟩ (.int .i64 q)).setCell ⟨g_r, 1, none⟩ (.string (x.extract 0 k))).setCell ⟨g_r, 2, none⟩ (.bool true)) from (((B2.out.setCell l_r (.int .i64 q)).setCell l_r (.string (x.extract 0 k))).setCell l_r (.bool true)))
    refine hK.out _ _ Ku3.out (fun hS => ?_)
    clear hK K B2 cr0 cr1 cr2 dr0 dr1 dr2 Ku2 Kr2
    generalize ((v2.setCell ⟨g_r, 0, none⟩ (.int .i64 q)).setCell ⟨g_r, 1, none⟩ (.string (x.extract 0 k))).setCell ⟨g_r, 2, none⟩ (.bool true) = v3 at hS Ku3 Kr3 B3 ⊢
    refine wpAnyH_done (by kernel_rfl) ?_ _
    refine NoPanic.normal ?_
    obtain ⟨⟨cu0, cu1, cu2, cu3⟩, du0, du1, du2, du3⟩ := Ku3.out.four
    obtain ⟨⟨cr0, cr1, cr2⟩, dr0, dr1, dr2⟩ := Kr3.out.o3
    go_wp2_with fail
    exact bodyPost_ret (v := .agg #[.int .i64 q, .string (x.extract 0 k), .bool true]) (by simp [results, Try.results53, go_sem, cr0, cr1, cr2]) rfl ⟨rfl, B3.out⟩
end Go.Proofs.Ytkigkfedkjnkeaa
