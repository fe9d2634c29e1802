/- Texts of a proof that belong together, joined. Nothing here is a claim. -/
import Derived.Test.YtkkimgjcefojdaaGreatDoorPkLk13
namespace Go.Proofs.YtkkimgjcefojdaaGreatDoor
open Go.RowKit Go.Lib

set_option maxRecDepth 100000 in
set_option maxHeartbeats 8000000 in
theorem oldestI (a : Option Addr) (cap : Nat) (rs : List ER) (w : World) (hrow : Row w w.heap.size a (ers rs)) (hl : rs.length ≤ 1048577) :
  Calls Tryz.prog 109 #[.agg #[.slice a rs.length cap, .int .i64 4, .int .i64 9]] w (IntE (oldE rs rs.length : Int) w) := by
 have HR := Lib.hid hrow
 clear hrow
 have B0 := Lib.hid (show Below w.heap.size w (w.alloc (.cells #[.slice a rs.length cap, .int .i64 4, .int .i64 9] 74)) from (Below.refl _ w).alloc (Nat.le_refl _) _)
 have K0 := Lib.hid (Blk.new w [.slice a rs.length cap, .int .i64 4, .int .i64 9] 74)
 go_enter Tryz.func109, Tryz.ntmps109
 go_wp2_with fail
 generalize w.alloc (.cells #[.slice a rs.length cap, .int .i64 4, .int .i64 9] 74) = v0 at B0 K0 ⊢
 generalize hgT : w.heap.size = g_T at K0 ⊢
 go_loopw [3, 9] (fun p i wr => ∃ k : Nat, k ≤ rs.length ∧ i = .int .i64 k ∧ p = .int .i64 (oldE rs k : Nat) ∧ Hid (Blk wr g_T [.slice a rs.length cap, .int .i64 4, .int .i64 9]) ∧ Hid (Below w.heap.size w wr)) (fun _ i _ => rs.length - (RowKit.intOf i).toNat)
 case atStart => exact ⟨0, Nat.zero_le _, rfl, rfl, K0, B0⟩
 case round =>
  obtain ⟨k, hk, rfl, rfl, HT, HB⟩ := hrel
  clear B0 K0
  by_cases hlt : k < rs.length
  ·have hp := oldE_lt hk (show 0 < rs.length by omega)
   have hat := oldE_at hlt hp
   generalize oldE rs k = p at hp hat ⊢
   obtain ⟨b, off, rfl, hbb, hcs⟩ := HR.out.er hlt
   obtain ⟨hw0, hw1, hw2⟩ := hcs k hlt
   obtain ⟨hq0, hq1, hq2⟩ := hcs p hp
   have hc0 := (HB.out.cell (p := ⟨b, off + k * 3, none⟩) hbb).trans hw0
   have hc1 := (HB.out.cell (p := ⟨b, off + k * 3 + 1, none⟩) hbb).trans hw1
   have hc2 := (HB.out.cell (p := ⟨b, off + k * 3 + 2, none⟩) hbb).trans hw2
   have Q := Lib.hid (show w.cell? ⟨b, off + p * 3, none⟩ = some (.int .i64 rs[p].ip) ∧ w.cell? ⟨b, off + p * 3 + 1, none⟩ = some (.int .i64 rs[p].hw) ∧ w.cell? ⟨b, off + p * 3 + 2, none⟩ = some (.int .i64 rs[p].age) from ⟨hq0, hq1, hq2⟩)
   have hk0 : (0 : Int) ≤ (k : Int) := Int.natCast_nonneg _
   have hk1 : (k : Int) < (rs.length : Int) := by omega
   have hp0 : (0 : Int) ≤ (p : Int) := Int.natCast_nonneg _
   have hp1 : (p : Int) < (rs.length : Int) := by omega
   clear hcs hw0 hw1 hw2 hq0 hq1 hq2
   have C2 := Lib.hid (fun w => ageI rs[k] w)
   have C3 := Lib.hid (fun w => ageI rs[p] w)
   by_cases h9 : rs[p].age < rs[k].age
   ·rw [if_pos h9] at hat
    have HN := Lib.hid hat
    clear hat
    have KEn := Lib.hid (Blk.new wr [.int .i64 rs[k].ip, .int .i64 rs[k].hw, .int .i64 rs[k].age] 71)
    have n_T_E : g_T ≠ wr.heap.size := by have h1 := HT.out.lt; omega
    have Bn := Lib.hid (HB.out.alloc HB.out.size (.cells #[.int .i64 rs[k].ip, .int .i64 rs[k].hw, .int .i64 rs[k].age] 71))
    have KTn := Lib.hid (HT.out.alloc (.cells #[.int .i64 rs[k].ip, .int .i64 rs[k].hw, .int .i64 rs[k].age] 71))
    clear HB HT
    obtain ⟨⟨cT0, cT1, cT2⟩, dT0, dT1, dT2⟩ := KTn.out.o3
    go_upto_region 5 with fail
    clear hc0 hc1 hc2
    clear cT0 cT1 cT2 dT0 dT1 dT2
    generalize wr.alloc (.cells #[.int .i64 rs[k].ip, .int .i64 rs[k].hw, .int .i64 rs[k].age] 71) = v1 at KEn Bn KTn ⊢
    generalize wr.heap.size = g_E at KEn n_T_E ⊢
    clear wr
    have KT1 := KTn
    clear KTn
    have KE1 := KEn
    clear KEn
    have B1 := Bn
    clear Bn
    refine wp_region_noPanic ?_
    refine wp_region_held_drew (S := fun w' => Blk w' g_T [.slice (some ⟨b, off, none⟩) rs.length cap, .int .i64 4, .int .i64 9] ∧ Blk w' g_E [.int .i64 rs[k].ip, .int .i64 rs[k].hw, .int .i64 rs[k].age] ∧ (w'.cell? ⟨b, off + p * 3, none⟩ = some (.int .i64 rs[p].ip) ∧ w'.cell? ⟨b, off + p * 3 + 1, none⟩ = some (.int .i64 rs[p].hw) ∧ w'.cell? ⟨b, off + p * 3 + 2, none⟩ = some (.int .i64 rs[p].age))) (by kernel_rfl) ⟨KT1.out, KE1.out, ⟨(B1.out.cell (p := ⟨b, off + p * 3, none⟩) hbb).trans Q.out.1, (B1.out.cell (p := ⟨b, off + p * 3 + 1, none⟩) hbb).trans Q.out.2.1, (B1.out.cell (p := ⟨b, off + p * 3 + 2, none⟩) hbb).trans Q.out.2.2⟩⟩ (fun hS => ?_)
    refine wpAnyH_take (i := 0) (v := .agg #[.int .i64 rs[k].ip, .int .i64 rs[k].hw, .int .i64 rs[k].age]) rfl (by kernel_rfl) (by kernel_rfl) (by kernel_rfl) (fun _ _ _ h => h) (Or.inl ⟨rfl, by intro w hS; obtain ⟨⟨h0, h1, h2⟩, _⟩ := hS.2.1.o3; go_simp⟩) hS ?_
    change wpAnyH _ _ _ _ _ _ _ { tmps := #[.agg #[.slice (some ⟨b, off, none⟩) rs.length cap, .int .i64 4, .int .i64 9], .pointer (some ⟨g_T, 0, none⟩), .int .i64 0, .int .i64 p, .int .i64 k, .pointer (some ⟨g_E, 0, none⟩), .pointer (some ⟨g_T, 0, none⟩), .slice (some ⟨b, off, none⟩) rs.length cap, .int .i64 rs.length, .int .i64 k, .bool true, .int .i64 k, .pointer (some ⟨b, off + k * 3, none⟩), .agg #[.int .i64 rs[k].ip, .int .i64 rs[k].hw, .int .i64 rs[k].age], .agg #[.int .i64 rs[k].ip, .int .i64 rs[k].hw, .int .i64 rs[k].age], u15, u16, u17, u18, u19, u20, u21, u22, u23, u24, u25, u26, undef], defers := [] } _
    refine wpAnyH_take (i := 1) (v := .iface 71 (.agg #[.int .i64 rs[k].ip, .int .i64 rs[k].hw, .int .i64 rs[k].age])) rfl (by kernel_rfl) (by kernel_rfl) (by kernel_rfl) (fun _ _ _ h => h) (Or.inl ⟨rfl, by intro w hS; go_simp⟩) hS ?_
    change wpAnyH _ _ _ _ _ _ _ { tmps := #[.agg #[.slice (some ⟨b, off, none⟩) rs.length cap, .int .i64 4, .int .i64 9], .pointer (some ⟨g_T, 0, none⟩), .int .i64 0, .int .i64 p, .int .i64 k, .pointer (some ⟨g_E, 0, none⟩), .pointer (some ⟨g_T, 0, none⟩), .slice (some ⟨b, off, none⟩) rs.length cap, .int .i64 rs.length, .int .i64 k, .bool true, .int .i64 k, .pointer (some ⟨b, off + k * 3, none⟩), .agg #[.int .i64 rs[k].ip, .int .i64 rs[k].hw, .int .i64 rs[k].age], .agg #[.int .i64 rs[k].ip, .int .i64 rs[k].hw, .int .i64 rs[k].age], .iface 71 (.agg #[.int .i64 rs[k].ip, .int .i64 rs[k].hw, .int .i64 rs[k].age]), u16, u17, u18, u19, u20, u21, u22, u23, u24, u25, u26, undef], defers := [] } _
    refine wpAnyH_take (i := 3) (v := .pointer (some ⟨g_T, 0, none⟩)) rfl (by kernel_rfl) (by kernel_rfl) (by kernel_rfl) (fun _ _ _ h => h) (Or.inl ⟨rfl, by intro w hS; go_simp⟩) hS ?_
    change wpAnyH _ _ _ _ _ _ _ { tmps := #[.agg #[.slice (some ⟨b, off, none⟩) rs.length cap, .int .i64 4, .int .i64 9], .pointer (some ⟨g_T, 0, none⟩), .int .i64 0, .int .i64 p, .int .i64 k, .pointer (some ⟨g_E, 0, none⟩), .pointer (some ⟨g_T, 0, none⟩), .slice (some ⟨b, off, none⟩) rs.length cap, .int .i64 rs.length, .int .i64 k, .bool true, .int .i64 k, .pointer (some ⟨b, off + k * 3, none⟩), .agg #[.int .i64 rs[k].ip, .int .i64 rs[k].hw, .int .i64 rs[k].age], .agg #[.int .i64 rs[k].ip, .int .i64 rs[k].hw, .int .i64 rs[k].age], .iface 71 (.agg #[.int .i64 rs[k].ip, .int .i64 rs[k].hw, .int .i64 rs[k].age]), u16, .pointer (some ⟨g_T, 0, none⟩), u18, u19, u20, u21, u22, u23, u24, u25, u26, undef], defers := [] } _
    refine wpAnyH_take (i := 4) (v := .slice (some ⟨b, off, none⟩) rs.length cap) rfl (by kernel_rfl) (by kernel_rfl) (by kernel_rfl) (fun _ _ _ h => h) (Or.inl ⟨rfl, by intro w hS; obtain ⟨⟨h0, h1, h2⟩, _⟩ := hS.1.o3; go_simp⟩) hS ?_
    change wpAnyH _ _ _ _ _ _ _ { tmps := #[.agg #[.slice (some ⟨b, off, none⟩) rs.length cap, .int .i64 4, .int .i64 9], .pointer (some ⟨g_T, 0, none⟩), .int .i64 0, .int .i64 p, .int .i64 k, .pointer (some ⟨g_E, 0, none⟩), .pointer (some ⟨g_T, 0, none⟩), .slice (some ⟨b, off, none⟩) rs.length cap, .int .i64 rs.length, .int .i64 k, .bool true, .int .i64 k, .pointer (some ⟨b, off + k * 3, none⟩), .agg #[.int .i64 rs[k].ip, .int .i64 rs[k].hw, .int .i64 rs[k].age], .agg #[.int .i64 rs[k].ip, .int .i64 rs[k].hw, .int .i64 rs[k].age], .iface 71 (.agg #[.int .i64 rs[k].ip, .int .i64 rs[k].hw, .int .i64 rs[k].age]), u16, .pointer (some ⟨g_T, 0, none⟩), .slice (some ⟨b, off, none⟩) rs.length cap, u19, u20, u21, u22, u23, u24, u25, u26, undef], defers := [] } _
    refine wpAnyH_take (i := 5) (v := .int .i64 p) rfl (by kernel_rfl) (by kernel_rfl) (by kernel_rfl) (fun _ _ _ h => h) (Or.inl ⟨rfl, by intro w hS; go_simp⟩) hS ?_
    change wpAnyH _ _ _ _ _ _ _ { tmps := #[.agg #[.slice (some ⟨b, off, none⟩) rs.length cap, .int .i64 4, .int .i64 9], .pointer (some ⟨g_T, 0, none⟩), .int .i64 0, .int .i64 p, .int .i64 k, .pointer (some ⟨g_E, 0, none⟩), .pointer (some ⟨g_T, 0, none⟩), .slice (some ⟨b, off, none⟩) rs.length cap, .int .i64 rs.length, .int .i64 k, .bool true, .int .i64 k, .pointer (some ⟨b, off + k * 3, none⟩), .agg #[.int .i64 rs[k].ip, .int .i64 rs[k].hw, .int .i64 rs[k].age], .agg #[.int .i64 rs[k].ip, .int .i64 rs[k].hw, .int .i64 rs[k].age], .iface 71 (.agg #[.int .i64 rs[k].ip, .int .i64 rs[k].hw, .int .i64 rs[k].age]), u16, .pointer (some ⟨g_T, 0, none⟩), .slice (some ⟨b, off, none⟩) rs.length cap, .int .i64 p, u20, u21, u22, u23, u24, u25, u26, undef], defers := [] } _
    refine wpAnyH_take (i := 6) (v := .pointer (some ⟨b, off + p * 3, none⟩)) rfl (by kernel_rfl) (by kernel_rfl) (by kernel_rfl) (fun _ _ _ h => h) (Or.inl ⟨rfl, by intro w hS; go_simp⟩) hS ?_
    change wpAnyH _ _ _ _ _ _ _ { tmps := #[.agg #[.slice (some ⟨b, off, none⟩) rs.length cap, .int .i64 4, .int .i64 9], .pointer (some ⟨g_T, 0, none⟩), .int .i64 0, .int .i64 p, .int .i64 k, .pointer (some ⟨g_E, 0, none⟩), .pointer (some ⟨g_T, 0, none⟩), .slice (some ⟨b, off, none⟩) rs.length cap, .int .i64 rs.length, .int .i64 k, .bool true, .int .i64 k, .pointer (some ⟨b, off + k * 3, none⟩), .agg #[.int .i64 rs[k].ip, .int .i64 rs[k].hw, .int .i64 rs[k].age], .agg #[.int .i64 rs[k].ip, .int .i64 rs[k].hw, .int .i64 rs[k].age], .iface 71 (.agg #[.int .i64 rs[k].ip, .int .i64 rs[k].hw, .int .i64 rs[k].age]), u16, .pointer (some ⟨g_T, 0, none⟩), .slice (some ⟨b, off, none⟩) rs.length cap, .int .i64 p, .pointer (some ⟨b, off + p * 3, none⟩), u21, u22, u23, u24, u25, u26, undef], defers := [] } _
    refine wpAnyH_take (i := 7) (v := .agg #[.int .i64 rs[p].ip, .int .i64 rs[p].hw, .int .i64 rs[p].age]) rfl (by kernel_rfl) (by kernel_rfl) (by kernel_rfl) (fun _ _ _ h => h) (Or.inl ⟨rfl, by intro w hS; obtain ⟨h0, h1, h2⟩ := hS.2.2; go_simp⟩) hS ?_
    change wpAnyH _ _ _ _ _ _ _ { tmps := #[.agg #[.slice (some ⟨b, off, none⟩) rs.length cap, .int .i64 4, .int .i64 9], .pointer (some ⟨g_T, 0, none⟩), .int .i64 0, .int .i64 p, .int .i64 k, .pointer (some ⟨g_E, 0, none⟩), .pointer (some ⟨g_T, 0, none⟩), .slice (some ⟨b, off, none⟩) rs.length cap, .int .i64 rs.length, .int .i64 k, .bool true, .int .i64 k, .pointer (some ⟨b, off + k * 3, none⟩), .agg #[.int .i64 rs[k].ip, .int .i64 rs[k].hw, .int .i64 rs[k].age], .agg #[.int .i64 rs[k].ip, .int .i64 rs[k].hw, .int .i64 rs[k].age], .iface 71 (.agg #[.int .i64 rs[k].ip, .int .i64 rs[k].hw, .int .i64 rs[k].age]), u16, .pointer (some ⟨g_T, 0, none⟩), .slice (some ⟨b, off, none⟩) rs.length cap, .int .i64 p, .pointer (some ⟨b, off + p * 3, none⟩), .agg #[.int .i64 rs[p].ip, .int .i64 rs[p].hw, .int .i64 rs[p].age], u22, u23, u24, u25, u26, undef], defers := [] } _
    refine wpAnyH_take (i := 8) (v := .iface 71 (.agg #[.int .i64 rs[p].ip, .int .i64 rs[p].hw, .int .i64 rs[p].age])) rfl (by kernel_rfl) (by kernel_rfl) (by kernel_rfl) (fun _ _ _ h => h) (Or.inl ⟨rfl, by intro w hS; go_simp⟩) hS ?_
    change wpAnyH _ _ _ _ _ _ _ { tmps := #[.agg #[.slice (some ⟨b, off, none⟩) rs.length cap, .int .i64 4, .int .i64 9], .pointer (some ⟨g_T, 0, none⟩), .int .i64 0, .int .i64 p, .int .i64 k, .pointer (some ⟨g_E, 0, none⟩), .pointer (some ⟨g_T, 0, none⟩), .slice (some ⟨b, off, none⟩) rs.length cap, .int .i64 rs.length, .int .i64 k, .bool true, .int .i64 k, .pointer (some ⟨b, off + k * 3, none⟩), .agg #[.int .i64 rs[k].ip, .int .i64 rs[k].hw, .int .i64 rs[k].age], .agg #[.int .i64 rs[k].ip, .int .i64 rs[k].hw, .int .i64 rs[k].age], .iface 71 (.agg #[.int .i64 rs[k].ip, .int .i64 rs[k].hw, .int .i64 rs[k].age]), u16, .pointer (some ⟨g_T, 0, none⟩), .slice (some ⟨b, off, none⟩) rs.length cap, .int .i64 p, .pointer (some ⟨b, off + p * 3, none⟩), .agg #[.int .i64 rs[p].ip, .int .i64 rs[p].hw, .int .i64 rs[p].age], .iface 71 (.agg #[.int .i64 rs[p].ip, .int .i64 rs[p].hw, .int .i64 rs[p].age]), u23, u24, u25, u26, undef], defers := [] } _
    refine wpAnyH_ready (rs := [2]) (by kernel_rfl) (by simp) ?_
    refine AllReadyH.cons (i := 2) rfl (fun K hK => ?zr26) AllReadyH.nil
    rw [if_pos (by rfl)]
    go_simp
    go_invoke
    go_simp
    clear hS
    refine (C2.out _).mono ?_
    rintro e v2 ⟨rfl, hb⟩
    replace hb := (Below.refl _ v1).drew.trans hb
    have B2 := Lib.hid (B1.out.trans (hb.mono B1.out.size))
    have KT2 := Lib.hid (KT1.out.below hb)
    have KE2 := Lib.hid (KE1.out.below hb)
    clear hb B1 KT1 KE1
    refine hK.out _ _ ⟨KT2.out, KE2.out, ⟨(B2.out.cell (p := ⟨b, off + p * 3, none⟩) hbb).trans Q.out.1, (B2.out.cell (p := ⟨b, off + p * 3 + 1, none⟩) hbb).trans Q.out.2.1, (B2.out.cell (p := ⟨b, off + p * 3 + 2, none⟩) hbb).trans Q.out.2.2⟩⟩ (fun hS => ?_)
    clear hK K
    change wpAnyH _ _ _ _ _ _ _ { tmps := #[.agg #[.slice (some ⟨b, off, none⟩) rs.length cap, .int .i64 4, .int .i64 9], .pointer (some ⟨g_T, 0, none⟩), .int .i64 0, .int .i64 p, .int .i64 k, .pointer (some ⟨g_E, 0, none⟩), .pointer (some ⟨g_T, 0, none⟩), .slice (some ⟨b, off, none⟩) rs.length cap, .int .i64 rs.length, .int .i64 k, .bool true, .int .i64 k, .pointer (some ⟨b, off + k * 3, none⟩), .agg #[.int .i64 rs[k].ip, .int .i64 rs[k].hw, .int .i64 rs[k].age], .agg #[.int .i64 rs[k].ip, .int .i64 rs[k].hw, .int .i64 rs[k].age], .iface 71 (.agg #[.int .i64 rs[k].ip, .int .i64 rs[k].hw, .int .i64 rs[k].age]), .int .i64 rs[k].age, .pointer (some ⟨g_T, 0, none⟩), .slice (some ⟨b, off, none⟩) rs.length cap, .int .i64 p, .pointer (some ⟨b, off + p * 3, none⟩), .agg #[.int .i64 rs[p].ip, .int .i64 rs[p].hw, .int .i64 rs[p].age], .iface 71 (.agg #[.int .i64 rs[p].ip, .int .i64 rs[p].hw, .int .i64 rs[p].age]), u23, u24, u25, u26, undef], defers := [] } _
    refine wpAnyH_ready (rs := [9]) (by kernel_rfl) (by simp) ?_
    refine AllReadyH.cons (i := 9) rfl (fun K hK => ?zr27) AllReadyH.nil
    rw [if_pos (by rfl)]
    go_simp
    go_invoke
    go_simp
    clear hS
    refine (C3.out _).mono ?_
    rintro e v3 ⟨rfl, hb⟩
    have B3 := Lib.hid (B2.out.trans (hb.mono B2.out.size))
    have KT3 := Lib.hid (KT2.out.below hb)
    have KE3 := Lib.hid (KE2.out.below hb)
    clear hb B2 KT2 KE2
    refine hK.out _ _ ⟨KT3.out, KE3.out, ⟨(B3.out.cell (p := ⟨b, off + p * 3, none⟩) hbb).trans Q.out.1, (B3.out.cell (p := ⟨b, off + p * 3 + 1, none⟩) hbb).trans Q.out.2.1, (B3.out.cell (p := ⟨b, off + p * 3 + 2, none⟩) hbb).trans Q.out.2.2⟩⟩ (fun hS => ?_)
    clear hK K
    change wpAnyH _ _ _ _ _ _ _ { tmps := #[.agg #[.slice (some ⟨b, off, none⟩) rs.length cap, .int .i64 4, .int .i64 9], .pointer (some ⟨g_T, 0, none⟩), .int .i64 0, .int .i64 p, .int .i64 k, .pointer (some ⟨g_E, 0, none⟩), .pointer (some ⟨g_T, 0, none⟩), .slice (some ⟨b, off, none⟩) rs.length cap, .int .i64 rs.length, .int .i64 k, .bool true, .int .i64 k, .pointer (some ⟨b, off + k * 3, none⟩), .agg #[.int .i64 rs[k].ip, .int .i64 rs[k].hw, .int .i64 rs[k].age], .agg #[.int .i64 rs[k].ip, .int .i64 rs[k].hw, .int .i64 rs[k].age], .iface 71 (.agg #[.int .i64 rs[k].ip, .int .i64 rs[k].hw, .int .i64 rs[k].age]), .int .i64 rs[k].age, .pointer (some ⟨g_T, 0, none⟩), .slice (some ⟨b, off, none⟩) rs.length cap, .int .i64 p, .pointer (some ⟨b, off + p * 3, none⟩), .agg #[.int .i64 rs[p].ip, .int .i64 rs[p].hw, .int .i64 rs[p].age], .iface 71 (.agg #[.int .i64 rs[p].ip, .int .i64 rs[p].hw, .int .i64 rs[p].age]), .int .i64 rs[p].age, u24, u25, u26, undef], defers := [] } _
    refine wpAnyH_take (i := 10) (v := .bool true) rfl (by kernel_rfl) (by kernel_rfl) (by kernel_rfl) (fun _ _ _ h => h) (Or.inl ⟨rfl, by intro w hS; go_simp⟩) hS ?_
    change wpAnyH _ _ _ _ _ _ _ { tmps := #[.agg #[.slice (some ⟨b, off, none⟩) rs.length cap, .int .i64 4, .int .i64 9], .pointer (some ⟨g_T, 0, none⟩), .int .i64 0, .int .i64 p, .int .i64 k, .pointer (some ⟨g_E, 0, none⟩), .pointer (some ⟨g_T, 0, none⟩), .slice (some ⟨b, off, none⟩) rs.length cap, .int .i64 rs.length, .int .i64 k, .bool true, .int .i64 k, .pointer (some ⟨b, off + k * 3, none⟩), .agg #[.int .i64 rs[k].ip, .int .i64 rs[k].hw, .int .i64 rs[k].age], .agg #[.int .i64 rs[k].ip, .int .i64 rs[k].hw, .int .i64 rs[k].age], .iface 71 (.agg #[.int .i64 rs[k].ip, .int .i64 rs[k].hw, .int .i64 rs[k].age]), .int .i64 rs[k].age, .pointer (some ⟨g_T, 0, none⟩), .slice (some ⟨b, off, none⟩) rs.length cap, .int .i64 p, .pointer (some ⟨b, off + p * 3, none⟩), .agg #[.int .i64 rs[p].ip, .int .i64 rs[p].hw, .int .i64 rs[p].age], .iface 71 (.agg #[.int .i64 rs[p].ip, .int .i64 rs[p].hw, .int .i64 rs[p].age]), .int .i64 rs[p].age, .bool true, u25, u26, undef], defers := [] } _
    refine wpAnyH_done (by kernel_rfl) ?_ _
    refine NoPanic.normal ?_
    go_wp2_with fail
    go_roundw
    case rel => exact ⟨k + 1, by omega, by go_num, by rw [HN.out], KT3, B3⟩
    case measure => simp [RowKit.intOf]; omega
   ·rw [if_neg h9] at hat
    have HN := Lib.hid hat
    clear hat
    have KEn := Lib.hid (Blk.new wr [.int .i64 rs[k].ip, .int .i64 rs[k].hw, .int .i64 rs[k].age] 71)
    have n_T_E : g_T ≠ wr.heap.size := by have h1 := HT.out.lt; omega
    have Bn := Lib.hid (HB.out.alloc HB.out.size (.cells #[.int .i64 rs[k].ip, .int .i64 rs[k].hw, .int .i64 rs[k].age] 71))
    have KTn := Lib.hid (HT.out.alloc (.cells #[.int .i64 rs[k].ip, .int .i64 rs[k].hw, .int .i64 rs[k].age] 71))
    clear HB HT
    obtain ⟨⟨cT0, cT1, cT2⟩, dT0, dT1, dT2⟩ := KTn.out.o3
    go_upto_region 5 with fail
    clear hc0 hc1 hc2
    clear cT0 cT1 cT2 dT0 dT1 dT2
    generalize wr.alloc (.cells #[.int .i64 rs[k].ip, .int .i64 rs[k].hw, .int .i64 rs[k].age] 71) = v1 at KEn Bn KTn ⊢
    generalize wr.heap.size = g_E at KEn n_T_E ⊢
    clear wr
    have KT1 := KTn
    clear KTn
    have KE1 := KEn
    clear KEn
    have B1 := Bn
    clear Bn
    refine wp_region_noPanic ?_
    refine wp_region_held_drew (S := fun w' => Blk w' g_T [.slice (some ⟨b, off, none⟩) rs.length cap, .int .i64 4, .int .i64 9] ∧ Blk w' g_E [.int .i64 rs[k].ip, .int .i64 rs[k].hw, .int .i64 rs[k].age] ∧ (w'.cell? ⟨b, off + p * 3, none⟩ = some (.int .i64 rs[p].ip) ∧ w'.cell? ⟨b, off + p * 3 + 1, none⟩ = some (.int .i64 rs[p].hw) ∧ w'.cell? ⟨b, off + p * 3 + 2, none⟩ = some (.int .i64 rs[p].age))) (by kernel_rfl) ⟨KT1.out, KE1.out, ⟨(B1.out.cell (p := ⟨b, off + p * 3, none⟩) hbb).trans Q.out.1, (B1.out.cell (p := ⟨b, off + p * 3 + 1, none⟩) hbb).trans Q.out.2.1, (B1.out.cell (p := ⟨b, off + p * 3 + 2, none⟩) hbb).trans Q.out.2.2⟩⟩ (fun hS => ?_)
    refine wpAnyH_take (i := 0) (v := .agg #[.int .i64 rs[k].ip, .int .i64 rs[k].hw, .int .i64 rs[k].age]) rfl (by kernel_rfl) (by kernel_rfl) (by kernel_rfl) (fun _ _ _ h => h) (Or.inl ⟨rfl, by intro w hS; obtain ⟨⟨h0, h1, h2⟩, _⟩ := hS.2.1.o3; go_simp⟩) hS ?_
    change wpAnyH _ _ _ _ _ _ _ { tmps := #[.agg #[.slice (some ⟨b, off, none⟩) rs.length cap, .int .i64 4, .int .i64 9], .pointer (some ⟨g_T, 0, none⟩), .int .i64 0, .int .i64 p, .int .i64 k, .pointer (some ⟨g_E, 0, none⟩), .pointer (some ⟨g_T, 0, none⟩), .slice (some ⟨b, off, none⟩) rs.length cap, .int .i64 rs.length, .int .i64 k, .bool true, .int .i64 k, .pointer (some ⟨b, off + k * 3, none⟩), .agg #[.int .i64 rs[k].ip, .int .i64 rs[k].hw, .int .i64 rs[k].age], .agg #[.int .i64 rs[k].ip, .int .i64 rs[k].hw, .int .i64 rs[k].age], u15, u16, u17, u18, u19, u20, u21, u22, u23, u24, u25, u26, undef], defers := [] } _
    refine wpAnyH_take (i := 1) (v := .iface 71 (.agg #[.int .i64 rs[k].ip, .int .i64 rs[k].hw, .int .i64 rs[k].age])) rfl (by kernel_rfl) (by kernel_rfl) (by kernel_rfl) (fun _ _ _ h => h) (Or.inl ⟨rfl, by intro w hS; go_simp⟩) hS ?_
    change wpAnyH _ _ _ _ _ _ _ { tmps := #[.agg #[.slice (some ⟨b, off, none⟩) rs.length cap, .int .i64 4, .int .i64 9], .pointer (some ⟨g_T, 0, none⟩), .int .i64 0, .int .i64 p, .int .i64 k, .pointer (some ⟨g_E, 0, none⟩), .pointer (some ⟨g_T, 0, none⟩), .slice (some ⟨b, off, none⟩) rs.length cap, .int .i64 rs.length, .int .i64 k, .bool true, .int .i64 k, .pointer (some ⟨b, off + k * 3, none⟩), .agg #[.int .i64 rs[k].ip, .int .i64 rs[k].hw, .int .i64 rs[k].age], .agg #[.int .i64 rs[k].ip, .int .i64 rs[k].hw, .int .i64 rs[k].age], .iface 71 (.agg #[.int .i64 rs[k].ip, .int .i64 rs[k].hw, .int .i64 rs[k].age]), u16, u17, u18, u19, u20, u21, u22, u23, u24, u25, u26, undef], defers := [] } _
    refine wpAnyH_take (i := 3) (v := .pointer (some ⟨g_T, 0, none⟩)) rfl (by kernel_rfl) (by kernel_rfl) (by kernel_rfl) (fun _ _ _ h => h) (Or.inl ⟨rfl, by intro w hS; go_simp⟩) hS ?_
    change wpAnyH _ _ _ _ _ _ _ { tmps := #[.agg #[.slice (some ⟨b, off, none⟩) rs.length cap, .int .i64 4, .int .i64 9], .pointer (some ⟨g_T, 0, none⟩), .int .i64 0, .int .i64 p, .int .i64 k, .pointer (some ⟨g_E, 0, none⟩), .pointer (some ⟨g_T, 0, none⟩), .slice (some ⟨b, off, none⟩) rs.length cap, .int .i64 rs.length, .int .i64 k, .bool true, .int .i64 k, .pointer (some ⟨b, off + k * 3, none⟩), .agg #[.int .i64 rs[k].ip, .int .i64 rs[k].hw, .int .i64 rs[k].age], .agg #[.int .i64 rs[k].ip, .int .i64 rs[k].hw, .int .i64 rs[k].age], .iface 71 (.agg #[.int .i64 rs[k].ip, .int .i64 rs[k].hw, .int .i64 rs[k].age]), u16, .pointer (some ⟨g_T, 0, none⟩), u18, u19, u20, u21, u22, u23, u24, u25, u26, undef], defers := [] } _
    refine wpAnyH_take (i := 4) (v := .slice (some ⟨b, off, none⟩) rs.length cap) rfl (by kernel_rfl) (by kernel_rfl) (by kernel_rfl) (fun _ _ _ h => h) (Or.inl ⟨rfl, by intro w hS; obtain ⟨⟨h0, h1, h2⟩, _⟩ := hS.1.o3; go_simp⟩) hS ?_
    change wpAnyH _ _ _ _ _ _ _ { tmps := #[.agg #[.slice (some ⟨b, off, none⟩) rs.length cap, .int .i64 4, .int .i64 9], .pointer (some ⟨g_T, 0, none⟩), .int .i64 0, .int .i64 p, .int .i64 k, .pointer (some ⟨g_E, 0, none⟩), .pointer (some ⟨g_T, 0, none⟩), .slice (some ⟨b, off, none⟩) rs.length cap, .int .i64 rs.length, .int .i64 k, .bool true, .int .i64 k, .pointer (some ⟨b, off + k * 3, none⟩), .agg #[.int .i64 rs[k].ip, .int .i64 rs[k].hw, .int .i64 rs[k].age], .agg #[.int .i64 rs[k].ip, .int .i64 rs[k].hw, .int .i64 rs[k].age], .iface 71 (.agg #[.int .i64 rs[k].ip, .int .i64 rs[k].hw, .int .i64 rs[k].age]), u16, .pointer (some ⟨g_T, 0, none⟩), .slice (some ⟨b, off, none⟩) rs.length cap, u19, u20, u21, u22, u23, u24, u25, u26, undef], defers := [] } _
    refine wpAnyH_take (i := 5) (v := .int .i64 p) rfl (by kernel_rfl) (by kernel_rfl) (by kernel_rfl) (fun _ _ _ h => h) (Or.inl ⟨rfl, by intro w hS; go_simp⟩) hS ?_
    change wpAnyH _ _ _ _ _ _ _ { tmps := #[.agg #[.slice (some ⟨b, off, none⟩) rs.length cap, .int .i64 4, .int .i64 9], .pointer (some ⟨g_T, 0, none⟩), .int .i64 0, .int .i64 p, .int .i64 k, .pointer (some ⟨g_E, 0, none⟩), .pointer (some ⟨g_T, 0, none⟩), .slice (some ⟨b, off, none⟩) rs.length cap, .int .i64 rs.length, .int .i64 k, .bool true, .int .i64 k, .pointer (some ⟨b, off + k * 3, none⟩), .agg #[.int .i64 rs[k].ip, .int .i64 rs[k].hw, .int .i64 rs[k].age], .agg #[.int .i64 rs[k].ip, .int .i64 rs[k].hw, .int .i64 rs[k].age], .iface 71 (.agg #[.int .i64 rs[k].ip, .int .i64 rs[k].hw, .int .i64 rs[k].age]), u16, .pointer (some ⟨g_T, 0, none⟩), .slice (some ⟨b, off, none⟩) rs.length cap, .int .i64 p, u20, u21, u22, u23, u24, u25, u26, undef], defers := [] } _
    refine wpAnyH_take (i := 6) (v := .pointer (some ⟨b, off + p * 3, none⟩)) rfl (by kernel_rfl) (by kernel_rfl) (by kernel_rfl) (fun _ _ _ h => h) (Or.inl ⟨rfl, by intro w hS; go_simp⟩) hS ?_
    change wpAnyH _ _ _ _ _ _ _ { tmps := #[.agg #[.slice (some ⟨b, off, none⟩) rs.length cap, .int .i64 4, .int .i64 9], .pointer (some ⟨g_T, 0, none⟩), .int .i64 0, .int .i64 p, .int .i64 k, .pointer (some ⟨g_E, 0, none⟩), .pointer (some ⟨g_T, 0, none⟩), .slice (some ⟨b, off, none⟩) rs.length cap, .int .i64 rs.length, .int .i64 k, .bool true, .int .i64 k, .pointer (some ⟨b, off + k * 3, none⟩), .agg #[.int .i64 rs[k].ip, .int .i64 rs[k].hw, .int .i64 rs[k].age], .agg #[.int .i64 rs[k].ip, .int .i64 rs[k].hw, .int .i64 rs[k].age], .iface 71 (.agg #[.int .i64 rs[k].ip, .int .i64 rs[k].hw, .int .i64 rs[k].age]), u16, .pointer (some ⟨g_T, 0, none⟩), .slice (some ⟨b, off, none⟩) rs.length cap, .int .i64 p, .pointer (some ⟨b, off + p * 3, none⟩), u21, u22, u23, u24, u25, u26, undef], defers := [] } _
    refine wpAnyH_take (i := 7) (v := .agg #[.int .i64 rs[p].ip, .int .i64 rs[p].hw, .int .i64 rs[p].age]) rfl (by kernel_rfl) (by kernel_rfl) (by kernel_rfl) (fun _ _ _ h => h) (Or.inl ⟨rfl, by intro w hS; obtain ⟨h0, h1, h2⟩ := hS.2.2; go_simp⟩) hS ?_
    change wpAnyH _ _ _ _ _ _ _ { tmps := #[.agg #[.slice (some ⟨b, off, none⟩) rs.length cap, .int .i64 4, .int .i64 9], .pointer (some ⟨g_T, 0, none⟩), .int .i64 0, .int .i64 p, .int .i64 k, .pointer (some ⟨g_E, 0, none⟩), .pointer (some ⟨g_T, 0, none⟩), .slice (some ⟨b, off, none⟩) rs.length cap, .int .i64 rs.length, .int .i64 k, .bool true, .int .i64 k, .pointer (some ⟨b, off + k * 3, none⟩), .agg #[.int .i64 rs[k].ip, .int .i64 rs[k].hw, .int .i64 rs[k].age], .agg #[.int .i64 rs[k].ip, .int .i64 rs[k].hw, .int .i64 rs[k].age], .iface 71 (.agg #[.int .i64 rs[k].ip, .int .i64 rs[k].hw, .int .i64 rs[k].age]), u16, .pointer (some ⟨g_T, 0, none⟩), .slice (some ⟨b, off, none⟩) rs.length cap, .int .i64 p, .pointer (some ⟨b, off + p * 3, none⟩), .agg #[.int .i64 rs[p].ip, .int .i64 rs[p].hw, .int .i64 rs[p].age], u22, u23, u24, u25, u26, undef], defers := [] } _
    refine wpAnyH_take (i := 8) (v := .iface 71 (.agg #[.int .i64 rs[p].ip, .int .i64 rs[p].hw, .int .i64 rs[p].age])) rfl (by kernel_rfl) (by kernel_rfl) (by kernel_rfl) (fun _ _ _ h => h) (Or.inl ⟨rfl, by intro w hS; go_simp⟩) hS ?_
    change wpAnyH _ _ _ _ _ _ _ { tmps := #[.agg #[.slice (some ⟨b, off, none⟩) rs.length cap, .int .i64 4, .int .i64 9], .pointer (some ⟨g_T, 0, none⟩), .int .i64 0, .int .i64 p, .int .i64 k, .pointer (some ⟨g_E, 0, none⟩), .pointer (some ⟨g_T, 0, none⟩), .slice (some ⟨b, off, none⟩) rs.length cap, .int .i64 rs.length, .int .i64 k, .bool true, .int .i64 k, .pointer (some ⟨b, off + k * 3, none⟩), .agg #[.int .i64 rs[k].ip, .int .i64 rs[k].hw, .int .i64 rs[k].age], .agg #[.int .i64 rs[k].ip, .int .i64 rs[k].hw, .int .i64 rs[k].age], .iface 71 (.agg #[.int .i64 rs[k].ip, .int .i64 rs[k].hw, .int .i64 rs[k].age]), u16, .pointer (some ⟨g_T, 0, none⟩), .slice (some ⟨b, off, none⟩) rs.length cap, .int .i64 p, .pointer (some ⟨b, off + p * 3, none⟩), .agg #[.int .i64 rs[p].ip, .int .i64 rs[p].hw, .int .i64 rs[p].age], .iface 71 (.agg #[.int .i64 rs[p].ip, .int .i64 rs[p].hw, .int .i64 rs[p].age]), u23, u24, u25, u26, undef], defers := [] } _
    refine wpAnyH_ready (rs := [2]) (by kernel_rfl) (by simp) ?_
    refine AllReadyH.cons (i := 2) rfl (fun K hK => ?zr28) AllReadyH.nil
    rw [if_pos (by rfl)]
    go_simp
    go_invoke
    go_simp
    clear hS
    refine (C2.out _).mono ?_
    rintro e v2 ⟨rfl, hb⟩
    replace hb := (Below.refl _ v1).drew.trans hb
    have B2 := Lib.hid (B1.out.trans (hb.mono B1.out.size))
    have KT2 := Lib.hid (KT1.out.below hb)
    have KE2 := Lib.hid (KE1.out.below hb)
    clear hb B1 KT1 KE1
    refine hK.out _ _ ⟨KT2.out, KE2.out, ⟨(B2.out.cell (p := ⟨b, off + p * 3, none⟩) hbb).trans Q.out.1, (B2.out.cell (p := ⟨b, off + p * 3 + 1, none⟩) hbb).trans Q.out.2.1, (B2.out.cell (p := ⟨b, off + p * 3 + 2, none⟩) hbb).trans Q.out.2.2⟩⟩ (fun hS => ?_)
    clear hK K
    change wpAnyH _ _ _ _ _ _ _ { tmps := #[.agg #[.slice (some ⟨b, off, none⟩) rs.length cap, .int .i64 4, .int .i64 9], .pointer (some ⟨g_T, 0, none⟩), .int .i64 0, .int .i64 p, .int .i64 k, .pointer (some ⟨g_E, 0, none⟩), .pointer (some ⟨g_T, 0, none⟩), .slice (some ⟨b, off, none⟩) rs.length cap, .int .i64 rs.length, .int .i64 k, .bool true, .int .i64 k, .pointer (some ⟨b, off + k * 3, none⟩), .agg #[.int .i64 rs[k].ip, .int .i64 rs[k].hw, .int .i64 rs[k].age], .agg #[.int .i64 rs[k].ip, .int .i64 rs[k].hw, .int .i64 rs[k].age], .iface 71 (.agg #[.int .i64 rs[k].ip, .int .i64 rs[k].hw, .int .i64 rs[k].age]), .int .i64 rs[k].age, .pointer (some ⟨g_T, 0, none⟩), .slice (some ⟨b, off, none⟩) rs.length cap, .int .i64 p, .pointer (some ⟨b, off + p * 3, none⟩), .agg #[.int .i64 rs[p].ip, .int .i64 rs[p].hw, .int .i64 rs[p].age], .iface 71 (.agg #[.int .i64 rs[p].ip, .int .i64 rs[p].hw, .int .i64 rs[p].age]), u23, u24, u25, u26, undef], defers := [] } _
    refine wpAnyH_ready (rs := [9]) (by kernel_rfl) (by simp) ?_
    refine AllReadyH.cons (i := 9) rfl (fun K hK => ?zr29) AllReadyH.nil
    rw [if_pos (by rfl)]
    go_simp
    go_invoke
    go_simp
    clear hS
    refine (C3.out _).mono ?_
    rintro e v3 ⟨rfl, hb⟩
    have B3 := Lib.hid (B2.out.trans (hb.mono B2.out.size))
    have KT3 := Lib.hid (KT2.out.below hb)
    have KE3 := Lib.hid (KE2.out.below hb)
    clear hb B2 KT2 KE2
    refine hK.out _ _ ⟨KT3.out, KE3.out, ⟨(B3.out.cell (p := ⟨b, off + p * 3, none⟩) hbb).trans Q.out.1, (B3.out.cell (p := ⟨b, off + p * 3 + 1, none⟩) hbb).trans Q.out.2.1, (B3.out.cell (p := ⟨b, off + p * 3 + 2, none⟩) hbb).trans Q.out.2.2⟩⟩ (fun hS => ?_)
    clear hK K
    change wpAnyH _ _ _ _ _ _ _ { tmps := #[.agg #[.slice (some ⟨b, off, none⟩) rs.length cap, .int .i64 4, .int .i64 9], .pointer (some ⟨g_T, 0, none⟩), .int .i64 0, .int .i64 p, .int .i64 k, .pointer (some ⟨g_E, 0, none⟩), .pointer (some ⟨g_T, 0, none⟩), .slice (some ⟨b, off, none⟩) rs.length cap, .int .i64 rs.length, .int .i64 k, .bool true, .int .i64 k, .pointer (some ⟨b, off + k * 3, none⟩), .agg #[.int .i64 rs[k].ip, .int .i64 rs[k].hw, .int .i64 rs[k].age], .agg #[.int .i64 rs[k].ip, .int .i64 rs[k].hw, .int .i64 rs[k].age], .iface 71 (.agg #[.int .i64 rs[k].ip, .int .i64 rs[k].hw, .int .i64 rs[k].age]), .int .i64 rs[k].age, .pointer (some ⟨g_T, 0, none⟩), .slice (some ⟨b, off, none⟩) rs.length cap, .int .i64 p, .pointer (some ⟨b, off + p * 3, none⟩), .agg #[.int .i64 rs[p].ip, .int .i64 rs[p].hw, .int .i64 rs[p].age], .iface 71 (.agg #[.int .i64 rs[p].ip, .int .i64 rs[p].hw, .int .i64 rs[p].age]), .int .i64 rs[p].age, u24, u25, u26, undef], defers := [] } _
    refine wpAnyH_take (i := 10) (v := .bool false) rfl (by kernel_rfl) (by kernel_rfl) (by kernel_rfl) (fun _ _ _ h => h) (Or.inl ⟨rfl, by intro w hS; go_simp⟩) hS ?_
    change wpAnyH _ _ _ _ _ _ _ { tmps := #[.agg #[.slice (some ⟨b, off, none⟩) rs.length cap, .int .i64 4, .int .i64 9], .pointer (some ⟨g_T, 0, none⟩), .int .i64 0, .int .i64 p, .int .i64 k, .pointer (some ⟨g_E, 0, none⟩), .pointer (some ⟨g_T, 0, none⟩), .slice (some ⟨b, off, none⟩) rs.length cap, .int .i64 rs.length, .int .i64 k, .bool true, .int .i64 k, .pointer (some ⟨b, off + k * 3, none⟩), .agg #[.int .i64 rs[k].ip, .int .i64 rs[k].hw, .int .i64 rs[k].age], .agg #[.int .i64 rs[k].ip, .int .i64 rs[k].hw, .int .i64 rs[k].age], .iface 71 (.agg #[.int .i64 rs[k].ip, .int .i64 rs[k].hw, .int .i64 rs[k].age]), .int .i64 rs[k].age, .pointer (some ⟨g_T, 0, none⟩), .slice (some ⟨b, off, none⟩) rs.length cap, .int .i64 p, .pointer (some ⟨b, off + p * 3, none⟩), .agg #[.int .i64 rs[p].ip, .int .i64 rs[p].hw, .int .i64 rs[p].age], .iface 71 (.agg #[.int .i64 rs[p].ip, .int .i64 rs[p].hw, .int .i64 rs[p].age]), .int .i64 rs[p].age, .bool false, u25, u26, undef], defers := [] } _
    refine wpAnyH_done (by kernel_rfl) ?_ _
    refine NoPanic.normal ?_
    go_wp2_with fail
    go_roundw
    case rel => exact ⟨k + 1, by omega, by go_num, by rw [HN.out], KT3, B3⟩
    case measure => simp [RowKit.intOf]; omega
  ·obtain rfl : k = rs.length := by omega
   go_wp2_with fail
   go_ret
   exact ⟨rfl, HB.out⟩
end Go.Proofs.YtkkimgjcefojdaaGreatDoor
