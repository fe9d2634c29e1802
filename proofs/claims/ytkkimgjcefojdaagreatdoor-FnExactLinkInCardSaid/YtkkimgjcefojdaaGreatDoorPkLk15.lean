/- Texts of a proof that belong together, joined. Nothing here is a claim. -/
import Derived.Test.YtkkimgjcefojdaaGreatDoorPkLk14
namespace Go.Proofs.YtkkimgjcefojdaaGreatDoor
open Go.RowKit Go.Lib

theorem own_some {w : World} {base size n cap : Nat} {e : TypeId} {a : Option Addr} {xs : List Value} (h : w.ownsRow base e size (.slice a n cap) n xs) (hn : 0 < n) : ∃ g, a = some ⟨g, 0, none⟩ := by
 obtain ⟨g, cap', hv, _⟩ := h.form hn
 cases hv
 exact ⟨g, rfl⟩
set_option maxRecDepth 100000 in
set_option maxHeartbeats 8000000 in
theorem withI (a : Option Addr) (cap : Nat) (rs : List ER) (q : ER) (w : World) (hrow : Row w w.heap.size a (ers rs)) (ha : a = none → rs = [] ∧ cap = 0) (hl : rs.length ≤ 1048577) :
  Calls Tryz.prog 77 #[.agg #[.slice a rs.length cap, .int .i64 4, .int .i64 9], .agg #[.int .i64 q.ip, .int .i64 q.hw, .int .i64 q.age]] w (NewE (putE rs q) w) := by
 obtain ⟨i0, hi, hz0, hz1, hz2⟩ := info_parts Tryz.info71
 have HR := Lib.hid hrow
 clear hrow
 have C1 := Lib.hid (fun w => keyI q w)
 have C2 := Lib.hid (fun w h => findI a cap rs 4 9 q.ip w h hl)
 have C3 := Lib.hid (fun w h => oldestI a cap rs w h hl)
 by_cases h : atE rs q.ip < rs.length
 ·rw [placeE_yes h] at C2
  rw [putE_set h]
  generalize atE rs q.ip = k at h C2 ⊢
  go_enter Tryz.func77, Tryz.ntmps77
  have B0 := Lib.hid (show Below w.heap.size w ((w.alloc (.cells #[.slice a rs.length cap, .int .i64 4, .int .i64 9] 74)).alloc (.cells #[.int .i64 q.ip, .int .i64 q.hw, .int .i64 q.age] 71)) from (((Below.refl _ w).alloc (by simp) _).alloc (by simp) _))
  have KT0 := Lib.hid (show Blk ((w.alloc (.cells #[.slice a rs.length cap, .int .i64 4, .int .i64 9] 74)).alloc (.cells #[.int .i64 q.ip, .int .i64 q.hw, .int .i64 q.age] 71)) (w.heap.size) [.slice a rs.length cap, .int .i64 4, .int .i64 9] from (Blk.new w [.slice a rs.length cap, .int .i64 4, .int .i64 9] 74).alloc (.cells #[.int .i64 q.ip, .int .i64 q.hw, .int .i64 q.age] 71))
  have s1 : (w.alloc (.cells #[.slice a rs.length cap, .int .i64 4, .int .i64 9] 74)).heap.size = w.heap.size + 1 := by simp
  have KR0 := Lib.hid (show Blk ((w.alloc (.cells #[.slice a rs.length cap, .int .i64 4, .int .i64 9] 74)).alloc (.cells #[.int .i64 q.ip, .int .i64 q.hw, .int .i64 q.age] 71)) (w.heap.size + 1) [.int .i64 q.ip, .int .i64 q.hw, .int .i64 q.age] by have h0 := Blk.new (w.alloc (.cells #[.slice a rs.length cap, .int .i64 4, .int .i64 9] 74)) [.int .i64 q.ip, .int .i64 q.hw, .int .i64 q.age] 71; rwa [s1] at h0)
  have n_T_R : w.heap.size ≠ w.heap.size + 1 := by omega
  clear s1
  go_wp2_with fail
  change Calls _ _ _ ((w.alloc (.cells #[.slice a rs.length cap, .int .i64 4, .int .i64 9] 74)).alloc (.cells #[.int .i64 q.ip, .int .i64 q.hw, .int .i64 q.age] 71)) _
  generalize (w.alloc (.cells #[.slice a rs.length cap, .int .i64 4, .int .i64 9] 74)).alloc (.cells #[.int .i64 q.ip, .int .i64 q.hw, .int .i64 q.age] 71) = v0 at B0 KT0 KR0 ⊢
  generalize hh_R : w.heap.size + 1 = g_R at KR0 n_T_R ⊢
  generalize hh_T : w.heap.size = g_T at KT0 n_T_R ⊢
  have l_T : w.heap.size ≤ g_T := by omega
  have l_R : w.heap.size ≤ g_R := by omega
  clear hh_T hh_R
  refine (cloneE a cap rs _ ((HR.out.below B0.out).mono B0.out.size) ha hl).mono ?_
  rintro e v1 ⟨a', cp, rfl, ho, hb⟩
  obtain ⟨g_o, rfl⟩ := own_some ho (show 0 < rs.length by omega)
  have ho_o := ho
  clear ho
  have n_T_o : g_T ≠ g_o := by have h1 := KT0.out.lt; have h2 := (ho_o.lt g_o rfl).1; omega
  have n_R_o : g_R ≠ g_o := by have h1 := KR0.out.lt; have h2 := (ho_o.lt g_o rfl).1; omega
  have l_o : w.heap.size ≤ g_o := Nat.le_trans B0.out.size (ho_o.lt g_o rfl).1
  have B1 := Lib.hid (B0.out.trans (hb.mono B0.out.size))
  have KT1 := Lib.hid (KT0.out.below hb)
  have KR1 := Lib.hid (KR0.out.below hb)
  have Oo1 := Lib.hid (own_down ho_o (Nat.zero_le _))
  clear hb B0 KT0 KR0 ho_o
  obtain ⟨⟨cT0, cT1, cT2⟩, dT0, dT1, dT2⟩ := KT1.out.o3
  obtain ⟨⟨cR0, cR1, cR2⟩, dR0, dR1, dR2⟩ := KR1.out.o3
  go_upto_region 2 with fail
  clear cT0 cT1 cT2 dT0 dT1 dT2 cR0 cR1 cR2 dR0 dR1 dR2
  refine wp_region_noPanic ?_
  refine wp_region_held_drew (S := fun w' => Blk w' g_T [.slice a rs.length cap, .int .i64 4, .int .i64 9] ∧ Blk w' g_R [.int .i64 q.ip, .int .i64 q.hw, .int .i64 q.age]) (by kernel_rfl) ⟨KT1.out, KR1.out⟩ (fun hS => ?_)
  refine wpAnyH_take (i := 0) (v := .agg #[.slice a rs.length cap, .int .i64 4, .int .i64 9]) rfl (by kernel_rfl) (by kernel_rfl) (by kernel_rfl) (fun _ _ _ h => h) (Or.inl ⟨rfl, by intro w hS; obtain ⟨⟨h0, h1, h2⟩, _⟩ := hS.1.o3; go_simp⟩) hS ?_
  change wpAnyH _ _ _ _ _ _ _ { tmps := #[.agg #[.slice a rs.length cap, .int .i64 4, .int .i64 9], .agg #[.int .i64 q.ip, .int .i64 q.hw, .int .i64 q.age], .pointer (some ⟨g_T, 0, none⟩), .pointer (some ⟨g_R, 0, none⟩), .slice none 0 0, .slice (some ⟨g_o, 0, none⟩) rs.length cp, undef, undef, .pointer (some ⟨g_T, 0, none⟩), .slice a rs.length cap, .slice (some ⟨g_o, 0, none⟩) rs.length cp, .agg #[.slice a rs.length cap, .int .i64 4, .int .i64 9], undef, undef, undef, undef, undef, undef, undef, undef, undef, undef, undef, undef, undef, undef, undef, undef, undef, undef, undef, undef, undef, undef, undef, undef, undef, undef, undef], defers := [] } _
  refine wpAnyH_take (i := 1) (v := .agg #[.int .i64 q.ip, .int .i64 q.hw, .int .i64 q.age]) rfl (by kernel_rfl) (by kernel_rfl) (by kernel_rfl) (fun _ _ _ h => h) (Or.inl ⟨rfl, by intro w hS; obtain ⟨⟨h0, h1, h2⟩, _⟩ := hS.2.o3; go_simp⟩) hS ?_
  change wpAnyH _ _ _ _ _ _ _ { tmps := #[.agg #[.slice a rs.length cap, .int .i64 4, .int .i64 9], .agg #[.int .i64 q.ip, .int .i64 q.hw, .int .i64 q.age], .pointer (some ⟨g_T, 0, none⟩), .pointer (some ⟨g_R, 0, none⟩), .slice none 0 0, .slice (some ⟨g_o, 0, none⟩) rs.length cp, undef, undef, .pointer (some ⟨g_T, 0, none⟩), .slice a rs.length cap, .slice (some ⟨g_o, 0, none⟩) rs.length cp, .agg #[.slice a rs.length cap, .int .i64 4, .int .i64 9], .agg #[.int .i64 q.ip, .int .i64 q.hw, .int .i64 q.age], undef, undef, undef, undef, undef, undef, undef, undef, undef, undef, undef, undef, undef, undef, undef, undef, undef, undef, undef, undef, undef, undef, undef, undef, undef, undef], defers := [] } _
  refine wpAnyH_take (i := 2) (v := .iface 71 (.agg #[.int .i64 q.ip, .int .i64 q.hw, .int .i64 q.age])) rfl (by kernel_rfl) (by kernel_rfl) (by kernel_rfl) (fun _ _ _ h => h) (Or.inl ⟨rfl, by intro w hS; go_simp⟩) hS ?_
  change wpAnyH _ _ _ _ _ _ _ { tmps := #[.agg #[.slice a rs.length cap, .int .i64 4, .int .i64 9], .agg #[.int .i64 q.ip, .int .i64 q.hw, .int .i64 q.age], .pointer (some ⟨g_T, 0, none⟩), .pointer (some ⟨g_R, 0, none⟩), .slice none 0 0, .slice (some ⟨g_o, 0, none⟩) rs.length cp, undef, undef, .pointer (some ⟨g_T, 0, none⟩), .slice a rs.length cap, .slice (some ⟨g_o, 0, none⟩) rs.length cp, .agg #[.slice a rs.length cap, .int .i64 4, .int .i64 9], .agg #[.int .i64 q.ip, .int .i64 q.hw, .int .i64 q.age], .iface 71 (.agg #[.int .i64 q.ip, .int .i64 q.hw, .int .i64 q.age]), undef, undef, undef, undef, undef, undef, undef, undef, undef, undef, undef, undef, undef, undef, undef, undef, undef, undef, undef, undef, undef, undef, undef, undef, undef], defers := [] } _
  refine wpAnyH_ready (rs := [3]) (by kernel_rfl) (by simp) ?_
  refine AllReadyH.cons (i := 3) rfl (fun K hK => ?zr26) AllReadyH.nil
  rw [if_pos (by rfl)]
  go_simp
  go_invoke
  go_simp
  clear hS
  refine (C1.out _).mono ?_
  rintro e v2 ⟨rfl, hb⟩
  replace hb := (Below.refl _ v1).drew.trans hb
  have B2 := Lib.hid (B1.out.trans (hb.mono B1.out.size))
  have KT2 := Lib.hid (KT1.out.below hb)
  have KR2 := Lib.hid (KR1.out.below hb)
  have Oo2 := Lib.hid (Oo1.out.kept (below_any (row := none) hb) (.inr (by simp [Value.ownBlock])))
  clear hb B1 KT1 KR1 Oo1
  refine hK.out _ _ ⟨KT2.out, KR2.out⟩ (fun hS => ?_)
  clear hK K
  change wpAnyH _ _ _ _ _ _ _ { tmps := #[.agg #[.slice a rs.length cap, .int .i64 4, .int .i64 9], .agg #[.int .i64 q.ip, .int .i64 q.hw, .int .i64 q.age], .pointer (some ⟨g_T, 0, none⟩), .pointer (some ⟨g_R, 0, none⟩), .slice none 0 0, .slice (some ⟨g_o, 0, none⟩) rs.length cp, undef, undef, .pointer (some ⟨g_T, 0, none⟩), .slice a rs.length cap, .slice (some ⟨g_o, 0, none⟩) rs.length cp, .agg #[.slice a rs.length cap, .int .i64 4, .int .i64 9], .agg #[.int .i64 q.ip, .int .i64 q.hw, .int .i64 q.age], .iface 71 (.agg #[.int .i64 q.ip, .int .i64 q.hw, .int .i64 q.age]), .int .i64 q.ip, undef, undef, undef, undef, undef, undef, undef, undef, undef, undef, undef, undef, undef, undef, undef, undef, undef, undef, undef, undef, undef, undef, undef, undef], defers := [] } _
  refine wpAnyH_ready (rs := [4]) (by kernel_rfl) (by simp) ?_
  refine AllReadyH.cons (i := 4) rfl (fun K hK => ?zr27) AllReadyH.nil
  rw [if_pos (by rfl)]
  go_simp
  clear hS
  refine (C2.out _ ((HR.out.below B2.out).mono B2.out.size)).mono ?_
  rintro e v3 ⟨rfl, hb⟩
  have B3 := Lib.hid (B2.out.trans (hb.mono B2.out.size))
  have KT3 := Lib.hid (KT2.out.below hb)
  have KR3 := Lib.hid (KR2.out.below hb)
  have Oo3 := Lib.hid (Oo2.out.kept (below_any (row := none) hb) (.inr (by simp [Value.ownBlock])))
  clear hb B2 KT2 KR2 Oo2
  refine hK.out _ _ ⟨KT3.out, KR3.out⟩ (fun hS => ?_)
  clear hK K
  change wpAnyH _ _ _ _ _ _ _ { tmps := #[.agg #[.slice a rs.length cap, .int .i64 4, .int .i64 9], .agg #[.int .i64 q.ip, .int .i64 q.hw, .int .i64 q.age], .pointer (some ⟨g_T, 0, none⟩), .pointer (some ⟨g_R, 0, none⟩), .slice none 0 0, .slice (some ⟨g_o, 0, none⟩) rs.length cp, undef, undef, .pointer (some ⟨g_T, 0, none⟩), .slice a rs.length cap, .slice (some ⟨g_o, 0, none⟩) rs.length cp, .agg #[.slice a rs.length cap, .int .i64 4, .int .i64 9], .agg #[.int .i64 q.ip, .int .i64 q.hw, .int .i64 q.age], .iface 71 (.agg #[.int .i64 q.ip, .int .i64 q.hw, .int .i64 q.age]), .int .i64 q.ip, .int .i64 (k : Nat), undef, undef, undef, undef, undef, undef, undef, undef, undef, undef, undef, undef, undef, undef, undef, undef, undef, undef, undef, undef, undef, undef, undef], defers := [] } _
  refine wpAnyH_take (i := 5) (v := .int .i64 (k : Nat)) rfl (by kernel_rfl) (by kernel_rfl) (by kernel_rfl) (fun _ _ _ h => h) (Or.inl ⟨rfl, by intro w hS; go_simp⟩) hS ?_
  change wpAnyH _ _ _ _ _ _ _ { tmps := #[.agg #[.slice a rs.length cap, .int .i64 4, .int .i64 9], .agg #[.int .i64 q.ip, .int .i64 q.hw, .int .i64 q.age], .pointer (some ⟨g_T, 0, none⟩), .pointer (some ⟨g_R, 0, none⟩), .slice none 0 0, .slice (some ⟨g_o, 0, none⟩) rs.length cp, .int .i64 (k : Nat), undef, .pointer (some ⟨g_T, 0, none⟩), .slice a rs.length cap, .slice (some ⟨g_o, 0, none⟩) rs.length cp, .agg #[.slice a rs.length cap, .int .i64 4, .int .i64 9], .agg #[.int .i64 q.ip, .int .i64 q.hw, .int .i64 q.age], .iface 71 (.agg #[.int .i64 q.ip, .int .i64 q.hw, .int .i64 q.age]), .int .i64 q.ip, .int .i64 (k : Nat), undef, undef, undef, undef, undef, undef, undef, undef, undef, undef, undef, undef, undef, undef, undef, undef, undef, undef, undef, undef, undef, undef, undef], defers := [] } _
  refine wpAnyH_done (by kernel_rfl) ?_ _
  refine NoPanic.normal ?_
  have hk0 : (0 : Int) ≤ (k : Int) := Int.natCast_nonneg _
  have hk1 : (k : Int) < (rs.length : Int) := by omega
  have hd0 := (Oo3.out.cellAt (k * 3) (by omega)).trans (ers_ip rs k h)
  have hd1 := (Oo3.out.cellAt (k * 3 + 1) (by omega)).trans (ers_hw rs k h)
  have hd2 := (Oo3.out.cellAt (k * 3 + 2) (by omega)).trans (ers_age rs k h)
  have hf0 := Oo3.out.frozenAt (k * 3)
  have hf1 := Oo3.out.frozenAt (k * 3 + 1)
  have hf2 := Oo3.out.frozenAt (k * 3 + 2)
  have S1 := Oo3.out.stored (k * 3) (.int .i64 q.ip)
  have S2 := S1.1.stored (k * 3 + 1) (.int .i64 q.hw)
  have S3 := S2.1.stored (k * 3 + 2) (.int .i64 q.age)
  rw [ers_set rs k h q] at S3
  have O9 := Lib.hid (own_up S3.1 l_o)
  clear S1 S2 S3
  obtain ⟨⟨cT0, cT1, cT2⟩, dT0, dT1, dT2⟩ := KT3.out.o3
  obtain ⟨⟨cR0, cR1, cR2⟩, dR0, dR1, dR2⟩ := KR3.out.o3
  go_wp2_with fail
  go_ret
  exact ⟨some ⟨g_o, 0, none⟩, cp, by rw [List.length_set]; rfl, by rw [List.length_set]; exact O9.out, ((B3.out.setCell l_o _).setCell l_o _).setCell l_o _⟩
 ·rw [placeE_no h] at C2
  by_cases h4 : rs.length = 4
  ·rw [putE_full h h4]
   have hj := oldE_lt (Nat.le_refl rs.length) (show 0 < rs.length by omega)
   generalize oldE rs rs.length = j at hj C3 ⊢
   have H4 := Lib.hid h4
   clear h4
   go_enter Tryz.func77, Tryz.ntmps77
   have B0 := Lib.hid (show Below w.heap.size w ((w.alloc (.cells #[.slice a rs.length cap, .int .i64 4, .int .i64 9] 74)).alloc (.cells #[.int .i64 q.ip, .int .i64 q.hw, .int .i64 q.age] 71)) from (((Below.refl _ w).alloc (by simp) _).alloc (by simp) _))
   have KT0 := Lib.hid (show Blk ((w.alloc (.cells #[.slice a rs.length cap, .int .i64 4, .int .i64 9] 74)).alloc (.cells #[.int .i64 q.ip, .int .i64 q.hw, .int .i64 q.age] 71)) (w.heap.size) [.slice a rs.length cap, .int .i64 4, .int .i64 9] from (Blk.new w [.slice a rs.length cap, .int .i64 4, .int .i64 9] 74).alloc (.cells #[.int .i64 q.ip, .int .i64 q.hw, .int .i64 q.age] 71))
   have s1 : (w.alloc (.cells #[.slice a rs.length cap, .int .i64 4, .int .i64 9] 74)).heap.size = w.heap.size + 1 := by simp
   have KR0 := Lib.hid (show Blk ((w.alloc (.cells #[.slice a rs.length cap, .int .i64 4, .int .i64 9] 74)).alloc (.cells #[.int .i64 q.ip, .int .i64 q.hw, .int .i64 q.age] 71)) (w.heap.size + 1) [.int .i64 q.ip, .int .i64 q.hw, .int .i64 q.age] by have h0 := Blk.new (w.alloc (.cells #[.slice a rs.length cap, .int .i64 4, .int .i64 9] 74)) [.int .i64 q.ip, .int .i64 q.hw, .int .i64 q.age] 71; rwa [s1] at h0)
   have n_T_R : w.heap.size ≠ w.heap.size + 1 := by omega
   clear s1
   go_wp2_with fail
   change Calls _ _ _ ((w.alloc (.cells #[.slice a rs.length cap, .int .i64 4, .int .i64 9] 74)).alloc (.cells #[.int .i64 q.ip, .int .i64 q.hw, .int .i64 q.age] 71)) _
   generalize (w.alloc (.cells #[.slice a rs.length cap, .int .i64 4, .int .i64 9] 74)).alloc (.cells #[.int .i64 q.ip, .int .i64 q.hw, .int .i64 q.age] 71) = v0 at B0 KT0 KR0 ⊢
   generalize hh_R : w.heap.size + 1 = g_R at KR0 n_T_R ⊢
   generalize hh_T : w.heap.size = g_T at KT0 n_T_R ⊢
   have l_T : w.heap.size ≤ g_T := by omega
   have l_R : w.heap.size ≤ g_R := by omega
   clear hh_T hh_R
   have hpos : 0 < rs.length := by omega
   refine (cloneE a cap rs _ ((HR.out.below B0.out).mono B0.out.size) ha hl).mono ?_
   rintro e v1 ⟨a', cp, rfl, ho, hb⟩
   obtain ⟨g_o, rfl⟩ := own_some ho (show 0 < rs.length by omega)
   have ho_o := ho
   clear ho
   have n_T_o : g_T ≠ g_o := by have h1 := KT0.out.lt; have h2 := (ho_o.lt g_o rfl).1; omega
   have n_R_o : g_R ≠ g_o := by have h1 := KR0.out.lt; have h2 := (ho_o.lt g_o rfl).1; omega
   have l_o : w.heap.size ≤ g_o := Nat.le_trans B0.out.size (ho_o.lt g_o rfl).1
   have B1 := Lib.hid (B0.out.trans (hb.mono B0.out.size))
   have KT1 := Lib.hid (KT0.out.below hb)
   have KR1 := Lib.hid (KR0.out.below hb)
   have Oo1 := Lib.hid (own_down ho_o (Nat.zero_le _))
   clear hb B0 KT0 KR0 ho_o
   obtain ⟨⟨cT0, cT1, cT2⟩, dT0, dT1, dT2⟩ := KT1.out.o3
   obtain ⟨⟨cR0, cR1, cR2⟩, dR0, dR1, dR2⟩ := KR1.out.o3
   go_upto_region 2 with fail
   clear cT0 cT1 cT2 dT0 dT1 dT2 cR0 cR1 cR2 dR0 dR1 dR2
   refine wp_region_noPanic ?_
   refine wp_region_held_drew (S := fun w' => Blk w' g_T [.slice a rs.length cap, .int .i64 4, .int .i64 9] ∧ Blk w' g_R [.int .i64 q.ip, .int .i64 q.hw, .int .i64 q.age]) (by kernel_rfl) ⟨KT1.out, KR1.out⟩ (fun hS => ?_)
   refine wpAnyH_take (i := 0) (v := .agg #[.slice a rs.length cap, .int .i64 4, .int .i64 9]) rfl (by kernel_rfl) (by kernel_rfl) (by kernel_rfl) (fun _ _ _ h => h) (Or.inl ⟨rfl, by intro w hS; obtain ⟨⟨h0, h1, h2⟩, _⟩ := hS.1.o3; go_simp⟩) hS ?_
   change wpAnyH _ _ _ _ _ _ _ { tmps := #[.agg #[.slice a rs.length cap, .int .i64 4, .int .i64 9], .agg #[.int .i64 q.ip, .int .i64 q.hw, .int .i64 q.age], .pointer (some ⟨g_T, 0, none⟩), .pointer (some ⟨g_R, 0, none⟩), .slice none 0 0, .slice (some ⟨g_o, 0, none⟩) rs.length cp, undef, undef, .pointer (some ⟨g_T, 0, none⟩), .slice a rs.length cap, .slice (some ⟨g_o, 0, none⟩) rs.length cp, .agg #[.slice a rs.length cap, .int .i64 4, .int .i64 9], undef, undef, undef, undef, undef, undef, undef, undef, undef, undef, undef, undef, undef, undef, undef, undef, undef, undef, undef, undef, undef, undef, undef, undef, undef, undef, undef], defers := [] } _
   refine wpAnyH_take (i := 1) (v := .agg #[.int .i64 q.ip, .int .i64 q.hw, .int .i64 q.age]) rfl (by kernel_rfl) (by kernel_rfl) (by kernel_rfl) (fun _ _ _ h => h) (Or.inl ⟨rfl, by intro w hS; obtain ⟨⟨h0, h1, h2⟩, _⟩ := hS.2.o3; go_simp⟩) hS ?_
   change wpAnyH _ _ _ _ _ _ _ { tmps := #[.agg #[.slice a rs.length cap, .int .i64 4, .int .i64 9], .agg #[.int .i64 q.ip, .int .i64 q.hw, .int .i64 q.age], .pointer (some ⟨g_T, 0, none⟩), .pointer (some ⟨g_R, 0, none⟩), .slice none 0 0, .slice (some ⟨g_o, 0, none⟩) rs.length cp, undef, undef, .pointer (some ⟨g_T, 0, none⟩), .slice a rs.length cap, .slice (some ⟨g_o, 0, none⟩) rs.length cp, .agg #[.slice a rs.length cap, .int .i64 4, .int .i64 9], .agg #[.int .i64 q.ip, .int .i64 q.hw, .int .i64 q.age], undef, undef, undef, undef, undef, undef, undef, undef, undef, undef, undef, undef, undef, undef, undef, undef, undef, undef, undef, undef, undef, undef, undef, undef, undef, undef], defers := [] } _
   refine wpAnyH_take (i := 2) (v := .iface 71 (.agg #[.int .i64 q.ip, .int .i64 q.hw, .int .i64 q.age])) rfl (by kernel_rfl) (by kernel_rfl) (by kernel_rfl) (fun _ _ _ h => h) (Or.inl ⟨rfl, by intro w hS; go_simp⟩) hS ?_
   change wpAnyH _ _ _ _ _ _ _ { tmps := #[.agg #[.slice a rs.length cap, .int .i64 4, .int .i64 9], .agg #[.int .i64 q.ip, .int .i64 q.hw, .int .i64 q.age], .pointer (some ⟨g_T, 0, none⟩), .pointer (some ⟨g_R, 0, none⟩), .slice none 0 0, .slice (some ⟨g_o, 0, none⟩) rs.length cp, undef, undef, .pointer (some ⟨g_T, 0, none⟩), .slice a rs.length cap, .slice (some ⟨g_o, 0, none⟩) rs.length cp, .agg #[.slice a rs.length cap, .int .i64 4, .int .i64 9], .agg #[.int .i64 q.ip, .int .i64 q.hw, .int .i64 q.age], .iface 71 (.agg #[.int .i64 q.ip, .int .i64 q.hw, .int .i64 q.age]), undef, undef, undef, undef, undef, undef, undef, undef, undef, undef, undef, undef, undef, undef, undef, undef, undef, undef, undef, undef, undef, undef, undef, undef, undef], defers := [] } _
   refine wpAnyH_ready (rs := [3]) (by kernel_rfl) (by simp) ?_
   refine AllReadyH.cons (i := 3) rfl (fun K hK => ?zr28) AllReadyH.nil
   rw [if_pos (by rfl)]
   go_simp
   go_invoke
   go_simp
   clear hS
   refine (C1.out _).mono ?_
   rintro e v2 ⟨rfl, hb⟩
   replace hb := (Below.refl _ v1).drew.trans hb
   have B2 := Lib.hid (B1.out.trans (hb.mono B1.out.size))
   have KT2 := Lib.hid (KT1.out.below hb)
   have KR2 := Lib.hid (KR1.out.below hb)
   have Oo2 := Lib.hid (Oo1.out.kept (below_any (row := none) hb) (.inr (by simp [Value.ownBlock])))
   clear hb B1 KT1 KR1 Oo1
   refine hK.out _ _ ⟨KT2.out, KR2.out⟩ (fun hS => ?_)
   clear hK K
   change wpAnyH _ _ _ _ _ _ _ { tmps := #[.agg #[.slice a rs.length cap, .int .i64 4, .int .i64 9], .agg #[.int .i64 q.ip, .int .i64 q.hw, .int .i64 q.age], .pointer (some ⟨g_T, 0, none⟩), .pointer (some ⟨g_R, 0, none⟩), .slice none 0 0, .slice (some ⟨g_o, 0, none⟩) rs.length cp, undef, undef, .pointer (some ⟨g_T, 0, none⟩), .slice a rs.length cap, .slice (some ⟨g_o, 0, none⟩) rs.length cp, .agg #[.slice a rs.length cap, .int .i64 4, .int .i64 9], .agg #[.int .i64 q.ip, .int .i64 q.hw, .int .i64 q.age], .iface 71 (.agg #[.int .i64 q.ip, .int .i64 q.hw, .int .i64 q.age]), .int .i64 q.ip, undef, undef, undef, undef, undef, undef, undef, undef, undef, undef, undef, undef, undef, undef, undef, undef, undef, undef, undef, undef, undef, undef, undef, undef], defers := [] } _
   refine wpAnyH_ready (rs := [4]) (by kernel_rfl) (by simp) ?_
   refine AllReadyH.cons (i := 4) rfl (fun K hK => ?zr29) AllReadyH.nil
   rw [if_pos (by rfl)]
   go_simp
   clear hS
   refine (C2.out _ ((HR.out.below B2.out).mono B2.out.size)).mono ?_
   rintro e v3 ⟨rfl, hb⟩
   have B3 := Lib.hid (B2.out.trans (hb.mono B2.out.size))
   have KT3 := Lib.hid (KT2.out.below hb)
   have KR3 := Lib.hid (KR2.out.below hb)
   have Oo3 := Lib.hid (Oo2.out.kept (below_any (row := none) hb) (.inr (by simp [Value.ownBlock])))
   clear hb B2 KT2 KR2 Oo2
   refine hK.out _ _ ⟨KT3.out, KR3.out⟩ (fun hS => ?_)
   clear hK K
   change wpAnyH _ _ _ _ _ _ _ { tmps := #[.agg #[.slice a rs.length cap, .int .i64 4, .int .i64 9], .agg #[.int .i64 q.ip, .int .i64 q.hw, .int .i64 q.age], .pointer (some ⟨g_T, 0, none⟩), .pointer (some ⟨g_R, 0, none⟩), .slice none 0 0, .slice (some ⟨g_o, 0, none⟩) rs.length cp, undef, undef, .pointer (some ⟨g_T, 0, none⟩), .slice a rs.length cap, .slice (some ⟨g_o, 0, none⟩) rs.length cp, .agg #[.slice a rs.length cap, .int .i64 4, .int .i64 9], .agg #[.int .i64 q.ip, .int .i64 q.hw, .int .i64 q.age], .iface 71 (.agg #[.int .i64 q.ip, .int .i64 q.hw, .int .i64 q.age]), .int .i64 q.ip, .int .i64 (-1), undef, undef, undef, undef, undef, undef, undef, undef, undef, undef, undef, undef, undef, undef, undef, undef, undef, undef, undef, undef, undef, undef, undef], defers := [] } _
   refine wpAnyH_take (i := 5) (v := .int .i64 (-1)) rfl (by kernel_rfl) (by kernel_rfl) (by kernel_rfl) (fun _ _ _ h => h) (Or.inl ⟨rfl, by intro w hS; go_simp⟩) hS ?_
   change wpAnyH _ _ _ _ _ _ _ { tmps := #[.agg #[.slice a rs.length cap, .int .i64 4, .int .i64 9], .agg #[.int .i64 q.ip, .int .i64 q.hw, .int .i64 q.age], .pointer (some ⟨g_T, 0, none⟩), .pointer (some ⟨g_R, 0, none⟩), .slice none 0 0, .slice (some ⟨g_o, 0, none⟩) rs.length cp, .int .i64 (-1), undef, .pointer (some ⟨g_T, 0, none⟩), .slice a rs.length cap, .slice (some ⟨g_o, 0, none⟩) rs.length cp, .agg #[.slice a rs.length cap, .int .i64 4, .int .i64 9], .agg #[.int .i64 q.ip, .int .i64 q.hw, .int .i64 q.age], .iface 71 (.agg #[.int .i64 q.ip, .int .i64 q.hw, .int .i64 q.age]), .int .i64 q.ip, .int .i64 (-1), undef, undef, undef, undef, undef, undef, undef, undef, undef, undef, undef, undef, undef, undef, undef, undef, undef, undef, undef, undef, undef, undef, undef], defers := [] } _
   refine wpAnyH_done (by kernel_rfl) ?_ _
   refine NoPanic.normal ?_
   have h4' : ((rs.length : Int) == 4) = true := by have := H4.out; simp; omega
   obtain ⟨⟨cT0, cT1, cT2⟩, dT0, dT1, dT2⟩ := KT3.out.o3
   obtain ⟨⟨cR0, cR1, cR2⟩, dR0, dR1, dR2⟩ := KR3.out.o3
   go_wp2_with fail
   clear cT0 cT1 cT2 dT0 dT1 dT2 cR0 cR1 cR2 dR0 dR1 dR2
   refine (C3.out _ ((HR.out.below B3.out).mono B3.out.size)).mono ?_
   rintro e v4 ⟨rfl, hb⟩
   have B4 := Lib.hid (B3.out.trans (hb.mono B3.out.size))
   have KT4 := Lib.hid (KT3.out.below hb)
   have KR4 := Lib.hid (KR3.out.below hb)
   have Oo4 := Lib.hid (Oo3.out.kept (below_any (row := none) hb) (.inr (by simp [Value.ownBlock])))
   clear hb B3 KT3 KR3 Oo3
   have hj0 : (0 : Int) ≤ (j : Int) := Int.natCast_nonneg _
   have hw : IntKind.i64.wrap ((j : Int) + 1) = (j : Int) + 1 := IntWalk.i64_in _ (by omega)
   obtain ⟨⟨cT0, cT1, cT2⟩, dT0, dT1, dT2⟩ := KT4.out.o3
   obtain ⟨⟨cR0, cR1, cR2⟩, dR0, dR1, dR2⟩ := KR4.out.o3
   go_wp2_with fail
   clear cT0 cT1 cT2 dT0 dT1 dT2 cR0 cR1 cR2 dR0 dR1 dR2
   refine (deleteE 0 g_o cp j rs _ _ Oo4.out hj (by omega) hl).mono ?_
   rintro e v5 ⟨rfl, ho, hg⟩
   have B5 := Lib.hid (B4.out.trans (grown_below hg l_o B4.out.size))
   have KT5 := Lib.hid (KT4.out.grown hg (n_T_o))
   have KR5 := Lib.hid (KR4.out.grown hg (n_R_o))
   have Oo5 := Lib.hid ho
   clear hg B4 KT4 KR4 Oo4 ho
   have e1 := goneE hj
   have hz := B5.out.size
   have hO_ := Lib.hid (own_below (own_up Oo5.out l_o) (show Below v5.heap.size v5 (v5.alloc (.cells #[.int .i64 q.ip, .int .i64 q.hw, .int .i64 q.age] 71)) from (Below.refl _ _).alloc (Nat.le_refl _) _))
   have hn_ := Lib.hid (heap_alloc_new v5 (.cells #[.int .i64 q.ip, .int .i64 q.hw, .int .i64 q.age] 71))
   obtain ⟨⟨cT0, cT1, cT2⟩, dT0, dT1, dT2⟩ := KT5.out.o3
   obtain ⟨⟨cR0, cR1, cR2⟩, dR0, dR1, dR2⟩ := KR5.out.o3
   go_wp2_with (at_builtin; refine wpList_append_lies _ rfl _ _ _ rfl w.heap.size 71 i0 _ 3 24 Tryz.underlying24 hi hz0 hz1 hz2 rfl (by omega) _ (rs.length - 1) _ rfl hO_.out ⟨v5.heap.size, 0, none⟩ 1 1 [.int .i64 q.ip, .int .i64 q.hw, .int .i64 q.age] rfl rfl (World.news_of_block (cs := #[.int .i64 q.ip, .int .i64 q.hw, .int .i64 q.age]) (t := 71) (fr := (0, 0)) hn_.out) (by simp [Value.oneCell']) (by omega) (by unfold maxLen; omega) (by omega) (by simp; omega) (v5.heap.size + 1) (by simp) ?_; intro gg' cap' w4 hown hgrow hat hlt')
   have hB4 : Below w.heap.size w w4 := (B5.out.alloc hz (.cells #[.int .i64 q.ip, .int .i64 q.hw, .int .i64 q.age] 71)).grown hgrow (by simp; omega) (fun j e => (hO_.out.lt j e).1)
   go_ret
   exact ⟨_, cap', by rw [List.length_append, e1]; rfl, by rw [List.length_append, e1, ers_append]; exact hown, hB4⟩
  ·rw [putE_more h h4]
   go_enter Tryz.func77, Tryz.ntmps77
   have B0 := Lib.hid (show Below w.heap.size w ((w.alloc (.cells #[.slice a rs.length cap, .int .i64 4, .int .i64 9] 74)).alloc (.cells #[.int .i64 q.ip, .int .i64 q.hw, .int .i64 q.age] 71)) from (((Below.refl _ w).alloc (by simp) _).alloc (by simp) _))
   have KT0 := Lib.hid (show Blk ((w.alloc (.cells #[.slice a rs.length cap, .int .i64 4, .int .i64 9] 74)).alloc (.cells #[.int .i64 q.ip, .int .i64 q.hw, .int .i64 q.age] 71)) (w.heap.size) [.slice a rs.length cap, .int .i64 4, .int .i64 9] from (Blk.new w [.slice a rs.length cap, .int .i64 4, .int .i64 9] 74).alloc (.cells #[.int .i64 q.ip, .int .i64 q.hw, .int .i64 q.age] 71))
   have s1 : (w.alloc (.cells #[.slice a rs.length cap, .int .i64 4, .int .i64 9] 74)).heap.size = w.heap.size + 1 := by simp
   have KR0 := Lib.hid (show Blk ((w.alloc (.cells #[.slice a rs.length cap, .int .i64 4, .int .i64 9] 74)).alloc (.cells #[.int .i64 q.ip, .int .i64 q.hw, .int .i64 q.age] 71)) (w.heap.size + 1) [.int .i64 q.ip, .int .i64 q.hw, .int .i64 q.age] by have h0 := Blk.new (w.alloc (.cells #[.slice a rs.length cap, .int .i64 4, .int .i64 9] 74)) [.int .i64 q.ip, .int .i64 q.hw, .int .i64 q.age] 71; rwa [s1] at h0)
   have n_T_R : w.heap.size ≠ w.heap.size + 1 := by omega
   clear s1
   go_wp2_with fail
   change Calls _ _ _ ((w.alloc (.cells #[.slice a rs.length cap, .int .i64 4, .int .i64 9] 74)).alloc (.cells #[.int .i64 q.ip, .int .i64 q.hw, .int .i64 q.age] 71)) _
   generalize (w.alloc (.cells #[.slice a rs.length cap, .int .i64 4, .int .i64 9] 74)).alloc (.cells #[.int .i64 q.ip, .int .i64 q.hw, .int .i64 q.age] 71) = v0 at B0 KT0 KR0 ⊢
   generalize hh_R : w.heap.size + 1 = g_R at KR0 n_T_R ⊢
   generalize hh_T : w.heap.size = g_T at KT0 n_T_R ⊢
   have l_T : w.heap.size ≤ g_T := by omega
   have l_R : w.heap.size ≤ g_R := by omega
   clear hh_T hh_R
   refine (cloneE a cap rs _ ((HR.out.below B0.out).mono B0.out.size) ha hl).mono ?_
   rintro e v1 ⟨a', cp, rfl, ho, hb⟩
   have OC := Lib.hid (own_down ho B0.out.size)
   clear ho
   have B1 := Lib.hid (B0.out.trans (hb.mono B0.out.size))
   have KT1 := Lib.hid (KT0.out.below hb)
   have KR1 := Lib.hid (KR0.out.below hb)
   clear hb B0 KT0 KR0
   obtain ⟨⟨cT0, cT1, cT2⟩, dT0, dT1, dT2⟩ := KT1.out.o3
   obtain ⟨⟨cR0, cR1, cR2⟩, dR0, dR1, dR2⟩ := KR1.out.o3
   go_upto_region 2 with fail
   clear cT0 cT1 cT2 dT0 dT1 dT2 cR0 cR1 cR2 dR0 dR1 dR2
   refine wp_region_noPanic ?_
   refine wp_region_held_drew (S := fun w' => Blk w' g_T [.slice a rs.length cap, .int .i64 4, .int .i64 9] ∧ Blk w' g_R [.int .i64 q.ip, .int .i64 q.hw, .int .i64 q.age]) (by kernel_rfl) ⟨KT1.out, KR1.out⟩ (fun hS => ?_)
   refine wpAnyH_take (i := 0) (v := .agg #[.slice a rs.length cap, .int .i64 4, .int .i64 9]) rfl (by kernel_rfl) (by kernel_rfl) (by kernel_rfl) (fun _ _ _ h => h) (Or.inl ⟨rfl, by intro w hS; obtain ⟨⟨h0, h1, h2⟩, _⟩ := hS.1.o3; go_simp⟩) hS ?_
   change wpAnyH _ _ _ _ _ _ _ { tmps := #[.agg #[.slice a rs.length cap, .int .i64 4, .int .i64 9], .agg #[.int .i64 q.ip, .int .i64 q.hw, .int .i64 q.age], .pointer (some ⟨g_T, 0, none⟩), .pointer (some ⟨g_R, 0, none⟩), .slice none 0 0, .slice a' rs.length cp, undef, undef, .pointer (some ⟨g_T, 0, none⟩), .slice a rs.length cap, .slice a' rs.length cp, .agg #[.slice a rs.length cap, .int .i64 4, .int .i64 9], undef, undef, undef, undef, undef, undef, undef, undef, undef, undef, undef, undef, undef, undef, undef, undef, undef, undef, undef, undef, undef, undef, undef, undef, undef, undef, undef], defers := [] } _
   refine wpAnyH_take (i := 1) (v := .agg #[.int .i64 q.ip, .int .i64 q.hw, .int .i64 q.age]) rfl (by kernel_rfl) (by kernel_rfl) (by kernel_rfl) (fun _ _ _ h => h) (Or.inl ⟨rfl, by intro w hS; obtain ⟨⟨h0, h1, h2⟩, _⟩ := hS.2.o3; go_simp⟩) hS ?_
   change wpAnyH _ _ _ _ _ _ _ { tmps := #[.agg #[.slice a rs.length cap, .int .i64 4, .int .i64 9], .agg #[.int .i64 q.ip, .int .i64 q.hw, .int .i64 q.age], .pointer (some ⟨g_T, 0, none⟩), .pointer (some ⟨g_R, 0, none⟩), .slice none 0 0, .slice a' rs.length cp, undef, undef, .pointer (some ⟨g_T, 0, none⟩), .slice a rs.length cap, .slice a' rs.length cp, .agg #[.slice a rs.length cap, .int .i64 4, .int .i64 9], .agg #[.int .i64 q.ip, .int .i64 q.hw, .int .i64 q.age], undef, undef, undef, undef, undef, undef, undef, undef, undef, undef, undef, undef, undef, undef, undef, undef, undef, undef, undef, undef, undef, undef, undef, undef, undef, undef], defers := [] } _
   refine wpAnyH_take (i := 2) (v := .iface 71 (.agg #[.int .i64 q.ip, .int .i64 q.hw, .int .i64 q.age])) rfl (by kernel_rfl) (by kernel_rfl) (by kernel_rfl) (fun _ _ _ h => h) (Or.inl ⟨rfl, by intro w hS; go_simp⟩) hS ?_
   change wpAnyH _ _ _ _ _ _ _ { tmps := #[.agg #[.slice a rs.length cap, .int .i64 4, .int .i64 9], .agg #[.int .i64 q.ip, .int .i64 q.hw, .int .i64 q.age], .pointer (some ⟨g_T, 0, none⟩), .pointer (some ⟨g_R, 0, none⟩), .slice none 0 0, .slice a' rs.length cp, undef, undef, .pointer (some ⟨g_T, 0, none⟩), .slice a rs.length cap, .slice a' rs.length cp, .agg #[.slice a rs.length cap, .int .i64 4, .int .i64 9], .agg #[.int .i64 q.ip, .int .i64 q.hw, .int .i64 q.age], .iface 71 (.agg #[.int .i64 q.ip, .int .i64 q.hw, .int .i64 q.age]), undef, undef, undef, undef, undef, undef, undef, undef, undef, undef, undef, undef, undef, undef, undef, undef, undef, undef, undef, undef, undef, undef, undef, undef, undef], defers := [] } _
   refine wpAnyH_ready (rs := [3]) (by kernel_rfl) (by simp) ?_
   refine AllReadyH.cons (i := 3) rfl (fun K hK => ?zr30) AllReadyH.nil
   rw [if_pos (by rfl)]
   go_simp
   go_invoke
   go_simp
   clear hS
   refine (C1.out _).mono ?_
   rintro e v2 ⟨rfl, hb⟩
   replace hb := (Below.refl _ v1).drew.trans hb
   have OC2 := Lib.hid (own_below OC.out hb)
   clear OC
   have B2 := Lib.hid (B1.out.trans (hb.mono B1.out.size))
   have KT2 := Lib.hid (KT1.out.below hb)
   have KR2 := Lib.hid (KR1.out.below hb)
   clear hb B1 KT1 KR1
   refine hK.out _ _ ⟨KT2.out, KR2.out⟩ (fun hS => ?_)
   clear hK K
   change wpAnyH _ _ _ _ _ _ _ { tmps := #[.agg #[.slice a rs.length cap, .int .i64 4, .int .i64 9], .agg #[.int .i64 q.ip, .int .i64 q.hw, .int .i64 q.age], .pointer (some ⟨g_T, 0, none⟩), .pointer (some ⟨g_R, 0, none⟩), .slice none 0 0, .slice a' rs.length cp, undef, undef, .pointer (some ⟨g_T, 0, none⟩), .slice a rs.length cap, .slice a' rs.length cp, .agg #[.slice a rs.length cap, .int .i64 4, .int .i64 9], .agg #[.int .i64 q.ip, .int .i64 q.hw, .int .i64 q.age], .iface 71 (.agg #[.int .i64 q.ip, .int .i64 q.hw, .int .i64 q.age]), .int .i64 q.ip, undef, undef, undef, undef, undef, undef, undef, undef, undef, undef, undef, undef, undef, undef, undef, undef, undef, undef, undef, undef, undef, undef, undef, undef], defers := [] } _
   refine wpAnyH_ready (rs := [4]) (by kernel_rfl) (by simp) ?_
   refine AllReadyH.cons (i := 4) rfl (fun K hK => ?zr31) AllReadyH.nil
   rw [if_pos (by rfl)]
   go_simp
   clear hS
   refine (C2.out _ ((HR.out.below B2.out).mono B2.out.size)).mono ?_
   rintro e v3 ⟨rfl, hb⟩
   have OC3 := Lib.hid (own_below OC2.out hb)
   clear OC2
   have B3 := Lib.hid (B2.out.trans (hb.mono B2.out.size))
   have KT3 := Lib.hid (KT2.out.below hb)
   have KR3 := Lib.hid (KR2.out.below hb)
   clear hb B2 KT2 KR2
   refine hK.out _ _ ⟨KT3.out, KR3.out⟩ (fun hS => ?_)
   clear hK K
   change wpAnyH _ _ _ _ _ _ _ { tmps := #[.agg #[.slice a rs.length cap, .int .i64 4, .int .i64 9], .agg #[.int .i64 q.ip, .int .i64 q.hw, .int .i64 q.age], .pointer (some ⟨g_T, 0, none⟩), .pointer (some ⟨g_R, 0, none⟩), .slice none 0 0, .slice a' rs.length cp, undef, undef, .pointer (some ⟨g_T, 0, none⟩), .slice a rs.length cap, .slice a' rs.length cp, .agg #[.slice a rs.length cap, .int .i64 4, .int .i64 9], .agg #[.int .i64 q.ip, .int .i64 q.hw, .int .i64 q.age], .iface 71 (.agg #[.int .i64 q.ip, .int .i64 q.hw, .int .i64 q.age]), .int .i64 q.ip, .int .i64 (-1), undef, undef, undef, undef, undef, undef, undef, undef, undef, undef, undef, undef, undef, undef, undef, undef, undef, undef, undef, undef, undef, undef, undef], defers := [] } _
   refine wpAnyH_take (i := 5) (v := .int .i64 (-1)) rfl (by kernel_rfl) (by kernel_rfl) (by kernel_rfl) (fun _ _ _ h => h) (Or.inl ⟨rfl, by intro w hS; go_simp⟩) hS ?_
   change wpAnyH _ _ _ _ _ _ _ { tmps := #[.agg #[.slice a rs.length cap, .int .i64 4, .int .i64 9], .agg #[.int .i64 q.ip, .int .i64 q.hw, .int .i64 q.age], .pointer (some ⟨g_T, 0, none⟩), .pointer (some ⟨g_R, 0, none⟩), .slice none 0 0, .slice a' rs.length cp, .int .i64 (-1), undef, .pointer (some ⟨g_T, 0, none⟩), .slice a rs.length cap, .slice a' rs.length cp, .agg #[.slice a rs.length cap, .int .i64 4, .int .i64 9], .agg #[.int .i64 q.ip, .int .i64 q.hw, .int .i64 q.age], .iface 71 (.agg #[.int .i64 q.ip, .int .i64 q.hw, .int .i64 q.age]), .int .i64 q.ip, .int .i64 (-1), undef, undef, undef, undef, undef, undef, undef, undef, undef, undef, undef, undef, undef, undef, undef, undef, undef, undef, undef, undef, undef, undef, undef], defers := [] } _
   refine wpAnyH_done (by kernel_rfl) ?_ _
   refine NoPanic.normal ?_
   have h4 : ((rs.length : Int) == 4) = false := by simp; omega
   have hz := B3.out.size
   have hO_ := Lib.hid (own_below OC3.out (show Below v3.heap.size v3 (v3.alloc (.cells #[.int .i64 q.ip, .int .i64 q.hw, .int .i64 q.age] 71)) from (Below.refl _ _).alloc (Nat.le_refl _) _))
   have hn_ := Lib.hid (heap_alloc_new v3 (.cells #[.int .i64 q.ip, .int .i64 q.hw, .int .i64 q.age] 71))
   obtain ⟨⟨cT0, cT1, cT2⟩, dT0, dT1, dT2⟩ := KT3.out.o3
   obtain ⟨⟨cR0, cR1, cR2⟩, dR0, dR1, dR2⟩ := KR3.out.o3
   go_wp2_with (at_builtin; refine wpList_append_lies _ rfl _ _ _ rfl w.heap.size 71 i0 _ 3 24 Tryz.underlying24 hi hz0 hz1 hz2 rfl (by omega) _ rs.length _ rfl hO_.out ⟨v3.heap.size, 0, none⟩ 1 1 [.int .i64 q.ip, .int .i64 q.hw, .int .i64 q.age] rfl rfl (World.news_of_block (cs := #[.int .i64 q.ip, .int .i64 q.hw, .int .i64 q.age]) (t := 71) (fr := (0, 0)) hn_.out) (by simp [Value.oneCell']) (by omega) (by unfold maxLen; omega) (by omega) (by simp; omega) (v3.heap.size + 1) (by simp) ?_; intro gg' cap' w4 hown hgrow hat hlt')
   have hB4 : Below w.heap.size w w4 := (B3.out.alloc hz (.cells #[.int .i64 q.ip, .int .i64 q.hw, .int .i64 q.age] 71)).grown hgrow (by simp; omega) (fun j e => (hO_.out.lt j e).1)
   go_ret
   exact ⟨_, cap', by rw [List.length_append]; rfl, by rw [List.length_append, ers_append]; exact hown, hB4⟩

set_option maxRecDepth 100000 in
set_option maxHeartbeats 8000000 in
theorem learnedI (a : Option Addr) (cap : Nat) (rs : List ER) (ip hw : Int) (w : World) (hrow : Row w w.heap.size a (ers rs)) (ha : a = none → rs = [] ∧ cap = 0) (hl : rs.length ≤ 1048577) :
  Calls Tryz.prog 32 #[.slice a rs.length cap, .int .i64 ip, .int .i64 hw] w (NewE (learnE rs ip hw) w) := by
 have HR := Lib.hid hrow
 clear hrow
 have C1 := Lib.hid (fun w h => cacheOkI a cap rs w h hl)
 have C2 := Lib.hid (fun w => validI ⟨ip, hw, 0⟩ w)
 cases hx1 : cacheOk rs with
 | false =>
  rw [learnE_no (by rw [hx1]; rfl)]
  rw [hx1] at C1
  clear hx1
  go_enter Tryz.func32, Tryz.ntmps32
  have B0 := Lib.hid (show Below w.heap.size w (w.alloc (.cells #[.int .i64 ip, .int .i64 hw, .int .i64 0] 71)) from ((Below.refl _ w).alloc (by simp) _))
  have KL0 := Lib.hid (show Blk (w.alloc (.cells #[.int .i64 ip, .int .i64 hw, .int .i64 0] 71)) (w.heap.size) [.int .i64 ip, .int .i64 hw, .int .i64 0] from Blk.new w [.int .i64 ip, .int .i64 hw, .int .i64 0] 71)
  go_wp2_with fail
  change Calls _ _ _ (w.alloc (.cells #[.int .i64 ip, .int .i64 hw, .int .i64 0] 71)) _
  generalize w.alloc (.cells #[.int .i64 ip, .int .i64 hw, .int .i64 0] 71) = v0 at B0 KL0 ⊢
  generalize hh_L : w.heap.size = g_L at KL0 ⊢
  have l_L : w.heap.size ≤ g_L := by omega
  clear hh_L
  refine (C1.out _ ((HR.out.below B0.out).mono B0.out.size)).mono ?_
  rintro e v1 ⟨rfl, hb⟩
  have B1 := Lib.hid (B0.out.trans (hb.mono B0.out.size))
  have KL1 := Lib.hid (KL0.out.below hb)
  clear hb B0 KL0
  obtain ⟨⟨cL0, cL1, cL2⟩, dL0, dL1, dL2⟩ := KL1.out.o3
  go_wp2_with fail
  clear cL0 cL1 cL2 dL0 dL1 dL2
  refine (cloneE a cap rs _ ((HR.out.below B1.out).mono B1.out.size) ha hl).mono ?_
  rintro e v2 ⟨a', cp, rfl, ho, hb⟩
  have OC := Lib.hid (own_down ho B1.out.size)
  clear ho
  have B2 := Lib.hid (B1.out.trans (hb.mono B1.out.size))
  have KL2 := Lib.hid (KL1.out.below hb)
  clear hb B1 KL1
  obtain ⟨⟨cL0, cL1, cL2⟩, dL0, dL1, dL2⟩ := KL2.out.o3
  go_wp2_with fail
  go_ret
  exact ⟨a', cp, rfl, OC.out, B2.out⟩
 | true =>
  cases hx2 : (wordOk ip 32 && wordOk hw 48) with
  | false =>
   rw [learnE_no (by rw [hx1, hx2]; rfl)]
   rw [hx1] at C1
   rw [hx2] at C2
   clear hx1 hx2
   go_enter Tryz.func32, Tryz.ntmps32
   have B0 := Lib.hid (show Below w.heap.size w (w.alloc (.cells #[.int .i64 ip, .int .i64 hw, .int .i64 0] 71)) from ((Below.refl _ w).alloc (by simp) _))
   have KL0 := Lib.hid (show Blk (w.alloc (.cells #[.int .i64 ip, .int .i64 hw, .int .i64 0] 71)) (w.heap.size) [.int .i64 ip, .int .i64 hw, .int .i64 0] from Blk.new w [.int .i64 ip, .int .i64 hw, .int .i64 0] 71)
   go_wp2_with fail
   change Calls _ _ _ (w.alloc (.cells #[.int .i64 ip, .int .i64 hw, .int .i64 0] 71)) _
   generalize w.alloc (.cells #[.int .i64 ip, .int .i64 hw, .int .i64 0] 71) = v0 at B0 KL0 ⊢
   generalize hh_L : w.heap.size = g_L at KL0 ⊢
   have l_L : w.heap.size ≤ g_L := by omega
   clear hh_L
   refine (C1.out _ ((HR.out.below B0.out).mono B0.out.size)).mono ?_
   rintro e v1 ⟨rfl, hb⟩
   have B1 := Lib.hid (B0.out.trans (hb.mono B0.out.size))
   have KL1 := Lib.hid (KL0.out.below hb)
   clear hb B0 KL0
   obtain ⟨⟨cL0, cL1, cL2⟩, dL0, dL1, dL2⟩ := KL1.out.o3
   go_wp2_with fail
   clear cL0 cL1 cL2 dL0 dL1 dL2
   refine (C2.out _).mono ?_
   rintro e v2 ⟨rfl, hb⟩
   have B2 := Lib.hid (B1.out.trans (hb.mono B1.out.size))
   have KL2 := Lib.hid (KL1.out.below hb)
   clear hb B1 KL1
   obtain ⟨⟨cL0, cL1, cL2⟩, dL0, dL1, dL2⟩ := KL2.out.o3
   go_wp2_with fail
   clear cL0 cL1 cL2 dL0 dL1 dL2
   refine (cloneE a cap rs _ ((HR.out.below B2.out).mono B2.out.size) ha hl).mono ?_
   rintro e v3 ⟨a', cp, rfl, ho, hb⟩
   have OC := Lib.hid (own_down ho B2.out.size)
   clear ho
   have B3 := Lib.hid (B2.out.trans (hb.mono B2.out.size))
   have KL3 := Lib.hid (KL2.out.below hb)
   clear hb B2 KL2
   obtain ⟨⟨cL0, cL1, cL2⟩, dL0, dL1, dL2⟩ := KL3.out.o3
   go_wp2_with fail
   go_ret
   exact ⟨a', cp, rfl, OC.out, B3.out⟩
  | true =>
   rw [learnE_yes (by rw [hx1, hx2]; rfl)]
   rw [hx1] at C1
   rw [hx2] at C2
   clear hx1 hx2
   go_enter Tryz.func32, Tryz.ntmps32
   have B0 := Lib.hid (show Below w.heap.size w (w.alloc (.cells #[.int .i64 ip, .int .i64 hw, .int .i64 0] 71)) from ((Below.refl _ w).alloc (by simp) _))
   have KL0 := Lib.hid (show Blk (w.alloc (.cells #[.int .i64 ip, .int .i64 hw, .int .i64 0] 71)) (w.heap.size) [.int .i64 ip, .int .i64 hw, .int .i64 0] from Blk.new w [.int .i64 ip, .int .i64 hw, .int .i64 0] 71)
   go_wp2_with fail
   change Calls _ _ _ (w.alloc (.cells #[.int .i64 ip, .int .i64 hw, .int .i64 0] 71)) _
   generalize w.alloc (.cells #[.int .i64 ip, .int .i64 hw, .int .i64 0] 71) = v0 at B0 KL0 ⊢
   generalize hh_L : w.heap.size = g_L at KL0 ⊢
   have l_L : w.heap.size ≤ g_L := by omega
   clear hh_L
   refine (C1.out _ ((HR.out.below B0.out).mono B0.out.size)).mono ?_
   rintro e v1 ⟨rfl, hb⟩
   have B1 := Lib.hid (B0.out.trans (hb.mono B0.out.size))
   have KL1 := Lib.hid (KL0.out.below hb)
   clear hb B0 KL0
   obtain ⟨⟨cL0, cL1, cL2⟩, dL0, dL1, dL2⟩ := KL1.out.o3
   go_wp2_with fail
   clear cL0 cL1 cL2 dL0 dL1 dL2
   refine (C2.out _).mono ?_
   rintro e v2 ⟨rfl, hb⟩
   have B2 := Lib.hid (B1.out.trans (hb.mono B1.out.size))
   have KL2 := Lib.hid (KL1.out.below hb)
   clear hb B1 KL1
   obtain ⟨⟨cL0, cL1, cL2⟩, dL0, dL1, dL2⟩ := KL2.out.o3
   go_wp2_with fail
   clear cL0 cL1 cL2 dL0 dL1 dL2
   obtain ⟨⟨cL0, cL1, cL2⟩, dL0, dL1, dL2⟩ := KL2.out.o3
   have P2_0 : True := trivial
   have P2_1 : True := trivial
   go_region_held3 (fun w' => (w'.cell? ⟨g_L, 0, none⟩ = some (.int .i64 ip) ∧ w'.cell? ⟨g_L, 1, none⟩ = some (.int .i64 hw) ∧ w'.cell? ⟨g_L, 2, none⟩ = some (.int .i64 0)))
    (first | go_keep | (exact KL3.out.o3.1) | (exact KL4.out.o3.1))
    (first | (have q := P2_0; go_at_call 39; clear q P2_0; refine (cacheOfI a rs.length cap _).mono ?_; rintro e v3 ⟨rfl, hb⟩; replace hb := (Below.refl _ v2).drew.trans hb; have B3 := Lib.hid (B2.out.trans (hb.mono B2.out.size)); have KL3 := Lib.hid (KL2.out.below hb); clear hb B2 KL2) | (have q := P2_1; go_at_call 77; clear q P2_1; refine (withI a cap rs ⟨ip, hw, 0⟩ _ ((HR.out.below B3.out).mono B3.out.size) ha hl).mono ?_; rintro e v4 ⟨a', cp, rfl, ho, hb⟩; have OC := Lib.hid (own_down ho B3.out.size); clear ho; have B4 := Lib.hid (B3.out.trans (hb.mono B3.out.size)); have KL4 := Lib.hid (KL3.out.below hb); clear hb B3 KL3))
   try clear cL0 cL1 cL2 dL0 dL1 dL2
   obtain ⟨⟨cL0, cL1, cL2⟩, dL0, dL1, dL2⟩ := KL4.out.o3
   go_wp2_with fail
   go_ret
   exact ⟨a', cp, rfl, OC.out, B4.out⟩
end Go.Proofs.YtkkimgjcefojdaaGreatDoor
