/- The law FnExactRotated, where the keys are not turned. Nothing here is a claim. -/
import Derived.Test.YtobfgkiccmhgdaaPkFnExactRotated
namespace Go.Proofs.Ytobfgkiccmhgdaa
open Go.ChangeShapes Go.WideShapes Go.ChangeAt Go.RowKit Go.Lib

set_option maxRecDepth 100000 in
set_option maxHeartbeats 16000000 in
theorem rotLawNo (e : Int) (p q m : M) (t : Bool) (w : World) (hp : LawM w p) (hq : LawM w q) (hm : LawM w m)
    (c1 : ∀ (g1 g2 g3 c1 c2 c3 : Nat) (w : World), (p.at (some ⟨g1, 0, none⟩) c1).On w → (q.at (some ⟨g2, 0, none⟩) c2).On w → (m.at (some ⟨g3, 0, none⟩) c3).On w → p.Fit → q.Fit → m.Fit → Calls Try.prog 41 #[.agg #[.int .i64 e, .bool p.u, .int .u64 (n64 p.k), .int .u64 (n64 p.l), .slice (some ⟨g1, 0, none⟩) p.rs.length c1, .bool q.u, .int .u64 (n64 q.k), .int .u64 (n64 q.l), .slice (some ⟨g2, 0, none⟩) q.rs.length c2, .bool t], .agg #[.bool m.u, .int .u64 (n64 m.k), .int .u64 (n64 m.l), .slice (some ⟨g3, 0, none⟩) m.rs.length c3]] w (KeysG e p q t w))
    (c2 : ∀ (g1 g2 g3 c1 c2 c3 : Nat) (w : World), (p.at (some ⟨g1, 0, none⟩) c1).On w → (q.at (some ⟨g2, 0, none⟩) c2).On w → (m.at (some ⟨g3, 0, none⟩) c3).On w → p.Fit → q.Fit → m.Fit → Calls Try.prog 21 #[.agg #[.int .i64 e, .bool p.u, .int .u64 (n64 p.k), .int .u64 (n64 p.l), .slice (some ⟨g1, 0, none⟩) p.rs.length c1, .bool q.u, .int .u64 (n64 q.k), .int .u64 (n64 q.l), .slice (some ⟨g2, 0, none⟩) q.rs.length c2, .bool t], .agg #[.bool m.u, .int .u64 (n64 m.k), .int .u64 (n64 m.l), .slice (some ⟨g3, 0, none⟩) m.rs.length c3]] w (KeysG e p q t w)) :
    Calls Try.prog 10 #[.agg #[.int .i64 e, .bool p.u, .int .u64 (n64 p.k), .int .u64 (n64 p.l), .slice p.a p.rs.length p.c, .bool q.u, .int .u64 (n64 q.k), .int .u64 (n64 q.l), .slice q.a q.rs.length q.c, .bool t], .agg #[.bool m.u, .int .u64 (n64 m.k), .int .u64 (n64 m.l), .slice m.a m.rs.length m.c]] w (OkR w) := by
  have HP := Lib.hid hp
  have HQ := Lib.hid hq
  have HM := Lib.hid hm
  have C1 := Lib.hid c1
  have C2 := Lib.hid c2
  clear hp hq hm c1 c2
  go_enter Try.func10, Try.ntmps10
  have B0 := Lib.hid (show Below w.heap.size w ((w.alloc (.cells #[.int .i64 e, .bool p.u, .int .u64 (n64 p.k), .int .u64 (n64 p.l), .slice p.a p.rs.length p.c, .bool q.u, .int .u64 (n64 q.k), .int .u64 (n64 q.l), .slice q.a q.rs.length q.c, .bool t] 52)).alloc (.cells #[.bool m.u, .int .u64 (n64 m.k), .int .u64 (n64 m.l), .slice m.a m.rs.length m.c] 50)) from (((Below.refl _ w).alloc (by simp) _).alloc (by simp) _))
  have KK0 := Lib.hid (show Blk ((w.alloc (.cells #[.int .i64 e, .bool p.u, .int .u64 (n64 p.k), .int .u64 (n64 p.l), .slice p.a p.rs.length p.c, .bool q.u, .int .u64 (n64 q.k), .int .u64 (n64 q.l), .slice q.a q.rs.length q.c, .bool t] 52)).alloc (.cells #[.bool m.u, .int .u64 (n64 m.k), .int .u64 (n64 m.l), .slice m.a m.rs.length m.c] 50)) (w.heap.size) [.int .i64 e, .bool p.u, .int .u64 (n64 p.k), .int .u64 (n64 p.l), .slice p.a p.rs.length p.c, .bool q.u, .int .u64 (n64 q.k), .int .u64 (n64 q.l), .slice q.a q.rs.length q.c, .bool t] from (Blk.new w [.int .i64 e, .bool p.u, .int .u64 (n64 p.k), .int .u64 (n64 p.l), .slice p.a p.rs.length p.c, .bool q.u, .int .u64 (n64 q.k), .int .u64 (n64 q.l), .slice q.a q.rs.length q.c, .bool t] 52).alloc (.cells #[.bool m.u, .int .u64 (n64 m.k), .int .u64 (n64 m.l), .slice m.a m.rs.length m.c] 50))
  have s1 : (w.alloc (.cells #[.int .i64 e, .bool p.u, .int .u64 (n64 p.k), .int .u64 (n64 p.l), .slice p.a p.rs.length p.c, .bool q.u, .int .u64 (n64 q.k), .int .u64 (n64 q.l), .slice q.a q.rs.length q.c, .bool t] 52)).heap.size = w.heap.size + 1 := by simp
  have KM0 := Lib.hid (show Blk ((w.alloc (.cells #[.int .i64 e, .bool p.u, .int .u64 (n64 p.k), .int .u64 (n64 p.l), .slice p.a p.rs.length p.c, .bool q.u, .int .u64 (n64 q.k), .int .u64 (n64 q.l), .slice q.a q.rs.length q.c, .bool t] 52)).alloc (.cells #[.bool m.u, .int .u64 (n64 m.k), .int .u64 (n64 m.l), .slice m.a m.rs.length m.c] 50)) (w.heap.size + 1) [.bool m.u, .int .u64 (n64 m.k), .int .u64 (n64 m.l), .slice m.a m.rs.length m.c] by have h0 := Blk.new (w.alloc (.cells #[.int .i64 e, .bool p.u, .int .u64 (n64 p.k), .int .u64 (n64 p.l), .slice p.a p.rs.length p.c, .bool q.u, .int .u64 (n64 q.k), .int .u64 (n64 q.l), .slice q.a q.rs.length q.c, .bool t] 52)) [.bool m.u, .int .u64 (n64 m.k), .int .u64 (n64 m.l), .slice m.a m.rs.length m.c] 50; rwa [s1] at h0)
  have n_K_M : w.heap.size ≠ w.heap.size + 1 := by omega
  clear s1
  go_wp2_with fail
  change Calls _ _ _ ((w.alloc (.cells #[.int .i64 e, .bool p.u, .int .u64 (n64 p.k), .int .u64 (n64 p.l), .slice p.a p.rs.length p.c, .bool q.u, .int .u64 (n64 q.k), .int .u64 (n64 q.l), .slice q.a q.rs.length q.c, .bool t] 52)).alloc (.cells #[.bool m.u, .int .u64 (n64 m.k), .int .u64 (n64 m.l), .slice m.a m.rs.length m.c] 50)) _
  generalize (w.alloc (.cells #[.int .i64 e, .bool p.u, .int .u64 (n64 p.k), .int .u64 (n64 p.l), .slice p.a p.rs.length p.c, .bool q.u, .int .u64 (n64 q.k), .int .u64 (n64 q.l), .slice q.a q.rs.length q.c, .bool t] 52)).alloc (.cells #[.bool m.u, .int .u64 (n64 m.k), .int .u64 (n64 m.l), .slice m.a m.rs.length m.c] 50) = v0 at B0 KK0 KM0 ⊢
  generalize hh_M : w.heap.size + 1 = g_M at KM0 n_K_M ⊢
  generalize hh_K : w.heap.size = g_K at KK0 n_K_M ⊢
  have l_K : w.heap.size ≤ g_K := by omega
  have l_M : w.heap.size ≤ g_M := by omega
  clear hh_K hh_M
  refine (szKeys_any e p q t 1048576 _ ⟨HP.out.1, ((HP.out.2.below B0.out).mono B0.out.size)⟩ ⟨HQ.out.1, ((HQ.out.2.below B0.out).mono B0.out.size)⟩ (by decide) (by decide)).mono ?_
  rintro e v1 ⟨hb, r, rfl, hr1, hr2⟩
  have B1 := Lib.hid (B0.out.trans (hb.mono B0.out.size))
  have KK1 := Lib.hid (KK0.out.below hb)
  have KM1 := Lib.hid (KM0.out.below hb)
  clear hb B0 KK0 KM0
  have HR := Lib.hid hr2
  clear hr2
  obtain ⟨⟨cK0, cK1, cK2, cK3, cK4, cK5, cK6, cK7, cK8, cK9⟩, dK0, dK1, dK2, dK3, dK4, dK5, dK6, dK7, dK8, dK9⟩ := KK1.out.of10
  obtain ⟨⟨cM0, cM1, cM2, cM3⟩, dM0, dM1, dM2, dM3⟩ := KM1.out.four
  by_cases hnegr : r < 0
  · go_wp2_with fail
    go_ret
    exact ⟨rfl, B1.out⟩
  have fp := Lib.hid (show p.rs.length ≤ 1048576 by have := HR.out (by omega); omega)
  have Fp := Lib.hid (LawM.fit HP.out fp.out)
  have fq := Lib.hid (show q.rs.length ≤ 1048576 by have := HR.out (by omega); omega)
  have Fq := Lib.hid (LawM.fit HQ.out fq.out)
  clear HR
  go_wp2_with fail
  clear cK0 cK1 cK2 cK3 cK4 cK5 cK6 cK7 cK8 cK9 dK0 dK1 dK2 dK3 dK4 dK5 dK6 dK7 dK8 dK9 cM0 cM1 cM2 cM3 dM0 dM1 dM2 dM3
  refine (szMac_any m.u (n64 m.k) (n64 m.l) m.a m.c m.rs r _ ((HM.out.2.below B1.out).mono B1.out.size) HM.out.1.1 (fun r hr => (HM.out.1.2 r hr).1) (by omega) (by omega)).mono ?_
  rintro e v2 ⟨hb, s, rfl, hs1, hs2⟩
  have B2 := Lib.hid (B1.out.trans (hb.mono B1.out.size))
  have KK2 := Lib.hid (KK1.out.below hb)
  have KM2 := Lib.hid (KM1.out.below hb)
  clear hb B1 KK1 KM1
  have HR := Lib.hid hs2
  clear hs2
  obtain ⟨⟨cK0, cK1, cK2, cK3, cK4, cK5, cK6, cK7, cK8, cK9⟩, dK0, dK1, dK2, dK3, dK4, dK5, dK6, dK7, dK8, dK9⟩ := KK2.out.of10
  obtain ⟨⟨cM0, cM1, cM2, cM3⟩, dM0, dM1, dM2, dM3⟩ := KM2.out.four
  by_cases hnegs : s < 0
  · go_wp2_with fail
    go_ret
    exact ⟨rfl, B2.out⟩
  have fm := Lib.hid (show m.rs.length ≤ 1048576 by have := HR.out (by omega); omega)
  have Fm := Lib.hid (LawM.fit HM.out fm.out)
  clear HR
  go_wp2_with fail
  clear cK0 cK1 cK2 cK3 cK4 cK5 cK6 cK7 cK8 cK9 dK0 dK1 dK2 dK3 dK4 dK5 dK6 dK7 dK8 dK9 cM0 cM1 cM2 cM3 dM0 dM1 dM2 dM3
  clear hr1 hs1 hnegr hnegs
  obtain ⟨⟨cK0, cK1, cK2, cK3, cK4, cK5, cK6, cK7, cK8, cK9⟩, dK0, dK1, dK2, dK3, dK4, dK5, dK6, dK7, dK8, dK9⟩ := KK2.out.of10
  obtain ⟨⟨cM0, cM1, cM2, cM3⟩, dM0, dM1, dM2, dM3⟩ := KM2.out.four
  go_upto_region 8 with fail
  clear cK0 cK1 cK2 cK3 cK4 cK5 cK6 cK7 cK8 cK9 dK0 dK1 dK2 dK3 dK4 dK5 dK6 dK7 dK8 dK9 cM0 cM1 cM2 cM3 dM0 dM1 dM2 dM3
  go_cut [6] (fun sx wx => ∃ (g_W g_w1 g_w2 c_w1 c_w2 : Nat), sx = .pointer (some ⟨g_W, 0, none⟩) ∧ Hid (Below w.heap.size w wx) ∧ Hid (Blk wx g_K [.int .i64 e, .bool p.u, .int .u64 (n64 p.k), .int .u64 (n64 p.l), .slice p.a p.rs.length p.c, .bool q.u, .int .u64 (n64 q.k), .int .u64 (n64 q.l), .slice q.a q.rs.length q.c, .bool t]) ∧ Hid (Blk wx g_M [.bool m.u, .int .u64 (n64 m.k), .int .u64 (n64 m.l), .slice m.a m.rs.length m.c]) ∧ Hid (Blk wx g_W [.int .i64 e, .bool p.u, .int .u64 (n64 p.k), .int .u64 (n64 p.l), .slice (some ⟨g_w1, 0, none⟩) p.rs.length c_w1, .bool q.u, .int .u64 (n64 q.k), .int .u64 (n64 q.l), .slice (some ⟨g_w2, 0, none⟩) q.rs.length c_w2, .bool t]) ∧ Hid (wx.ownsRow 0 92 2 (.slice (some ⟨g_w1, 0, none⟩) p.rs.length c_w1) p.rs.length (mrs p.rs)) ∧ Hid (wx.ownsRow 0 92 2 (.slice (some ⟨g_w2, 0, none⟩) q.rs.length c_w2) q.rs.length (mrs q.rs)) ∧ (g_K ≠ g_W ∧ g_K ≠ g_w1 ∧ g_K ≠ g_w2 ∧ g_M ≠ g_W ∧ g_M ≠ g_w1 ∧ g_M ≠ g_w2 ∧ g_W ≠ g_w1 ∧ g_W ≠ g_w2 ∧ g_w1 ≠ g_w2) ∧ (w.heap.size ≤ g_W ∧ w.heap.size ≤ g_w1 ∧ w.heap.size ≤ g_w2))
  case first =>
    refine wp_region_noPanic ?_
    refine wp_region_held_drew (S := fun w' => Blk w' g_K [.int .i64 e, .bool p.u, .int .u64 (n64 p.k), .int .u64 (n64 p.l), .slice p.a p.rs.length p.c, .bool q.u, .int .u64 (n64 q.k), .int .u64 (n64 q.l), .slice q.a q.rs.length q.c, .bool t] ∧ Blk w' g_M [.bool m.u, .int .u64 (n64 m.k), .int .u64 (n64 m.l), .slice m.a m.rs.length m.c]) (by kernel_rfl) ⟨KK2.out, KM2.out⟩ (fun hS => ?_)
    have B3 := Lib.hid (show Below w.heap.size w v2.drew from B2.out.drew)
    have KK3 := Lib.hid (show Blk v2.drew g_K [.int .i64 e, .bool p.u, .int .u64 (n64 p.k), .int .u64 (n64 p.l), .slice p.a p.rs.length p.c, .bool q.u, .int .u64 (n64 q.k), .int .u64 (n64 q.l), .slice q.a q.rs.length q.c, .bool t] from KK2.out.drew)
    have KM3 := Lib.hid (show Blk v2.drew g_M [.bool m.u, .int .u64 (n64 m.k), .int .u64 (n64 m.l), .slice m.a m.rs.length m.c] from KM2.out.drew)
    clear hS B2 KK2 KM2
    generalize v2.drew = v3 at B3 KK3 KM3 ⊢
    have hS : Blk v3 g_K [.int .i64 e, .bool p.u, .int .u64 (n64 p.k), .int .u64 (n64 p.l), .slice p.a p.rs.length p.c, .bool q.u, .int .u64 (n64 q.k), .int .u64 (n64 q.l), .slice q.a q.rs.length q.c, .bool t] ∧ Blk v3 g_M [.bool m.u, .int .u64 (n64 m.k), .int .u64 (n64 m.l), .slice m.a m.rs.length m.c] := ⟨KK3.out, KM3.out⟩
    refine wpAnyH_take (i := 0) (v := .agg #[.int .i64 e, .bool p.u, .int .u64 (n64 p.k), .int .u64 (n64 p.l), .slice p.a p.rs.length p.c, .bool q.u, .int .u64 (n64 q.k), .int .u64 (n64 q.l), .slice q.a q.rs.length q.c, .bool t]) rfl (by kernel_rfl) (by kernel_rfl) (by kernel_rfl) (fun _ _ _ h => h) (Or.inl ⟨rfl, by intro w hS; obtain ⟨⟨h0, h1, h2, h3, h4, h5, h6, h7, h8, h9⟩, _⟩ := hS.1.of10; go_simp⟩) hS ?_
    refine wpAnyH_take (i := 2) (v := .agg #[.bool m.u, .int .u64 (n64 m.k), .int .u64 (n64 m.l), .slice m.a m.rs.length m.c]) rfl (by kernel_rfl) (by kernel_rfl) (by kernel_rfl) (fun _ _ _ h => h) (Or.inl ⟨rfl, by intro w hS; obtain ⟨⟨h0, h1, h2, h3⟩, _⟩ := hS.2.four; go_simp⟩) hS ?_
    refine wpAnyH_ready (rs := [1, 5]) (by kernel_rfl) (by simp) ?_
    refine AllReadyH.cons (i := 1) rfl (fun K hK => ?zx36) (AllReadyH.cons (i := 5) rfl (fun K hK => ?zx35) AllReadyH.nil)
    · rw [if_pos (by rfl)]
      go_simp
      clear hS
      refine (toKeys_any e p q t _ ((HP.out.2.below B3.out).mono B3.out.size) ((HQ.out.2.below B3.out).mono B3.out.size) fp.out fq.out).mono ?_
      rintro e v4 ⟨g_k1, g_k2, n_k1_k2, rfl, ho_k1, ho_k2, hb⟩
      have n_K_k1 : g_K ≠ g_k1 := by have h1 := KK3.out.lt; have h2 := (ho_k1.lt g_k1 rfl).1; omega
      have n_M_k1 : g_M ≠ g_k1 := by have h1 := KM3.out.lt; have h2 := (ho_k1.lt g_k1 rfl).1; omega
      have l_k1 : w.heap.size ≤ g_k1 := Nat.le_trans B3.out.size (ho_k1.lt g_k1 rfl).1
      have n_K_k2 : g_K ≠ g_k2 := by have h1 := KK3.out.lt; have h2 := (ho_k2.lt g_k2 rfl).1; omega
      have n_M_k2 : g_M ≠ g_k2 := by have h1 := KM3.out.lt; have h2 := (ho_k2.lt g_k2 rfl).1; omega
      have l_k2 : w.heap.size ≤ g_k2 := Nat.le_trans B3.out.size (ho_k2.lt g_k2 rfl).1
      have B4 := Lib.hid (B3.out.trans (hb.mono B3.out.size))
      have KK4 := Lib.hid (KK3.out.below hb)
      have KM4 := Lib.hid (KM3.out.below hb)
      have Ok14 := Lib.hid (own_down ho_k1 (Nat.zero_le _))
      have Ok24 := Lib.hid (own_down ho_k2 (Nat.zero_le _))
      clear hb B3 KK3 KM3 ho_k1 ho_k2
      refine hK.out _ _ ⟨KK4.out, KM4.out⟩ (fun hS => ?_)
      clear hK K
      refine wpAnyH_ready (rs := [3, 5]) (by kernel_rfl) (by simp) ?_
      refine AllReadyH.cons (i := 3) rfl (fun K hK => ?zx38) (AllReadyH.cons (i := 5) rfl (fun K hK => ?zx37) AllReadyH.nil)
      · rw [if_pos (by rfl)]
        go_simp
        clear hS
        refine (toMac_any m.u (n64 m.k) (n64 m.l) m.a m.c m.rs _ ((HM.out.2.below B4.out).mono B4.out.size) fm.out).mono ?_
        rintro e v5 ⟨g_n, rfl, ho_n, hb⟩
        have n_K_n : g_K ≠ g_n := by have h1 := KK4.out.lt; have h2 := (ho_n.lt g_n rfl).1; omega
        have n_M_n : g_M ≠ g_n := by have h1 := KM4.out.lt; have h2 := (ho_n.lt g_n rfl).1; omega
        have n_k1_n : g_k1 ≠ g_n := by have h1 := (Ok14.out.lt g_k1 rfl).2; have h2 := (ho_n.lt g_n rfl).1; omega
        have n_k2_n : g_k2 ≠ g_n := by have h1 := (Ok24.out.lt g_k2 rfl).2; have h2 := (ho_n.lt g_n rfl).1; omega
        have l_n : w.heap.size ≤ g_n := Nat.le_trans B4.out.size (ho_n.lt g_n rfl).1
        have B5 := Lib.hid (B4.out.trans (hb.mono B4.out.size))
        have KK5 := Lib.hid (KK4.out.below hb)
        have KM5 := Lib.hid (KM4.out.below hb)
        have Ok15 := Lib.hid (Ok14.out.kept (below_any (row := none) hb) (.inr (by simp [Value.ownBlock])))
        have Ok25 := Lib.hid (Ok24.out.kept (below_any (row := none) hb) (.inr (by simp [Value.ownBlock])))
        have On5 := Lib.hid (own_down ho_n (Nat.zero_le _))
        clear hb B4 KK4 KM4 Ok14 Ok24 ho_n
        refine hK.out _ _ ⟨KK5.out, KM5.out⟩ (fun hS => ?_)
        clear hK K
        refine wpAnyH_ready (rs := [4, 5]) (by kernel_rfl) (by simp) ?_
        refine AllReadyH.cons (i := 4) rfl (fun K hK => ?zx40) (AllReadyH.cons (i := 5) rfl (fun K hK => ?zx39) AllReadyH.nil)
        · rw [if_pos (by rfl)]
          go_simp
          clear hS
          refine (C1.out g_k1 g_k2 g_n p.rs.length q.rs.length m.rs.length _ (M.on_at Ok15.out) (M.on_at Ok25.out) (M.on_at On5.out) Fp.out Fq.out Fm.out).mono ?_
          rintro e v6 ⟨g_w1, g_w2, c_w1, c_w2, n_w1_w2, rfl, ho_w1, ho_w2, hb⟩
          have n_K_w1 : g_K ≠ g_w1 := by have h1 := KK5.out.lt; have h2 := (ho_w1.lt g_w1 rfl).1; omega
          have n_M_w1 : g_M ≠ g_w1 := by have h1 := KM5.out.lt; have h2 := (ho_w1.lt g_w1 rfl).1; omega
          have n_k1_w1 : g_k1 ≠ g_w1 := by have h1 := (Ok15.out.lt g_k1 rfl).2; have h2 := (ho_w1.lt g_w1 rfl).1; omega
          have n_k2_w1 : g_k2 ≠ g_w1 := by have h1 := (Ok25.out.lt g_k2 rfl).2; have h2 := (ho_w1.lt g_w1 rfl).1; omega
          have n_n_w1 : g_n ≠ g_w1 := by have h1 := (On5.out.lt g_n rfl).2; have h2 := (ho_w1.lt g_w1 rfl).1; omega
          have l_w1 : w.heap.size ≤ g_w1 := Nat.le_trans B5.out.size (ho_w1.lt g_w1 rfl).1
          have n_K_w2 : g_K ≠ g_w2 := by have h1 := KK5.out.lt; have h2 := (ho_w2.lt g_w2 rfl).1; omega
          have n_M_w2 : g_M ≠ g_w2 := by have h1 := KM5.out.lt; have h2 := (ho_w2.lt g_w2 rfl).1; omega
          have n_k1_w2 : g_k1 ≠ g_w2 := by have h1 := (Ok15.out.lt g_k1 rfl).2; have h2 := (ho_w2.lt g_w2 rfl).1; omega
          have n_k2_w2 : g_k2 ≠ g_w2 := by have h1 := (Ok25.out.lt g_k2 rfl).2; have h2 := (ho_w2.lt g_w2 rfl).1; omega
          have n_n_w2 : g_n ≠ g_w2 := by have h1 := (On5.out.lt g_n rfl).2; have h2 := (ho_w2.lt g_w2 rfl).1; omega
          have l_w2 : w.heap.size ≤ g_w2 := Nat.le_trans B5.out.size (ho_w2.lt g_w2 rfl).1
          have B6 := Lib.hid (B5.out.trans (hb.mono B5.out.size))
          have KK6 := Lib.hid (KK5.out.below hb)
          have KM6 := Lib.hid (KM5.out.below hb)
          have Ok16 := Lib.hid (Ok15.out.kept (below_any (row := none) hb) (.inr (by simp [Value.ownBlock])))
          have Ok26 := Lib.hid (Ok25.out.kept (below_any (row := none) hb) (.inr (by simp [Value.ownBlock])))
          have On6 := Lib.hid (On5.out.kept (below_any (row := none) hb) (.inr (by simp [Value.ownBlock])))
          have Ow16 := Lib.hid (own_down ho_w1 (Nat.zero_le _))
          have Ow26 := Lib.hid (own_down ho_w2 (Nat.zero_le _))
          clear hb B5 KK5 KM5 Ok15 Ok25 On5 ho_w1 ho_w2
          refine hK.out _ _ ⟨KK6.out, KM6.out⟩ (fun hS => ?_)
          clear hK K
          refine wpAnyH_ready (rs := [5]) (by kernel_rfl) (by simp) ?_
          refine AllReadyH.cons (i := 5) rfl (fun K hK => ?zx41) AllReadyH.nil
          rw [if_pos (by rfl)]
          go_simp
          clear hS
          have B7 := Lib.hid (B6.out.alloc B6.out.size (.cells #[.int .i64 0, .bool false, .int .u64 0, .int .u64 0, .slice none 0 0, .bool false, .int .u64 0, .int .u64 0, .slice none 0 0, .bool false] 29))
          have l_W : w.heap.size ≤ v6.heap.size := B6.out.size
          have n_K_W : g_K ≠ v6.heap.size := by have h1 := KK6.out.lt; omega
          have n_M_W : g_M ≠ v6.heap.size := by have h1 := KM6.out.lt; omega
          have n_k1_W : g_k1 ≠ v6.heap.size := by have h1 := (Ok16.out.lt g_k1 rfl).2; omega
          have n_k2_W : g_k2 ≠ v6.heap.size := by have h1 := (Ok26.out.lt g_k2 rfl).2; omega
          have n_n_W : g_n ≠ v6.heap.size := by have h1 := (On6.out.lt g_n rfl).2; omega
          have n_w1_W : g_w1 ≠ v6.heap.size := by have h1 := (Ow16.out.lt g_w1 rfl).2; omega
          have n_w2_W : g_w2 ≠ v6.heap.size := by have h1 := (Ow26.out.lt g_w2 rfl).2; omega
          have KK7 := Lib.hid (KK6.out.alloc (.cells #[.int .i64 0, .bool false, .int .u64 0, .int .u64 0, .slice none 0 0, .bool false, .int .u64 0, .int .u64 0, .slice none 0 0, .bool false] 29))
          have KM7 := Lib.hid (KM6.out.alloc (.cells #[.int .i64 0, .bool false, .int .u64 0, .int .u64 0, .slice none 0 0, .bool false, .int .u64 0, .int .u64 0, .slice none 0 0, .bool false] 29))
          have Ok17 := Lib.hid (Ok16.out.alloc (.cells #[.int .i64 0, .bool false, .int .u64 0, .int .u64 0, .slice none 0 0, .bool false, .int .u64 0, .int .u64 0, .slice none 0 0, .bool false] 29))
          have Ok27 := Lib.hid (Ok26.out.alloc (.cells #[.int .i64 0, .bool false, .int .u64 0, .int .u64 0, .slice none 0 0, .bool false, .int .u64 0, .int .u64 0, .slice none 0 0, .bool false] 29))
          have On7 := Lib.hid (On6.out.alloc (.cells #[.int .i64 0, .bool false, .int .u64 0, .int .u64 0, .slice none 0 0, .bool false, .int .u64 0, .int .u64 0, .slice none 0 0, .bool false] 29))
          have Ow17 := Lib.hid (Ow16.out.alloc (.cells #[.int .i64 0, .bool false, .int .u64 0, .int .u64 0, .slice none 0 0, .bool false, .int .u64 0, .int .u64 0, .slice none 0 0, .bool false] 29))
          have Ow27 := Lib.hid (Ow26.out.alloc (.cells #[.int .i64 0, .bool false, .int .u64 0, .int .u64 0, .slice none 0 0, .bool false, .int .u64 0, .int .u64 0, .slice none 0 0, .bool false] 29))
          have KW7 := Lib.hid (Blk.new v6 [.int .i64 0, .bool false, .int .u64 0, .int .u64 0, .slice none 0 0, .bool false, .int .u64 0, .int .u64 0, .slice none 0 0, .bool false] 29)
          clear B6 KK6 KM6 Ok16 Ok26 On6 Ow16 Ow26
          refine hK.out _ _ ⟨KK7.out, KM7.out⟩ (fun hS => ?_)
          clear hK K
          generalize v6.alloc (.cells #[.int .i64 0, .bool false, .int .u64 0, .int .u64 0, .slice none 0 0, .bool false, .int .u64 0, .int .u64 0, .slice none 0 0, .bool false] 29) = v7 at hS B7 KK7 KM7 KW7 Ok17 Ok27 On7 Ow17 Ow27 ⊢
          generalize v6.heap.size = g_W at KW7 l_W n_K_W n_M_W n_k1_W n_k2_W n_n_W n_w1_W n_w2_W ⊢
          obtain ⟨⟨cW0, cW1, cW2, cW3, cW4, cW5, cW6, cW7, cW8, cW9⟩, dW0, dW1, dW2, dW3, dW4, dW5, dW6, dW7, dW8, dW9⟩ := KW7.out.of10
          refine wpAnyH_ready (rs := [6]) (by kernel_rfl) (by simp) ?_
          refine AllReadyH.cons (i := 6) rfl (fun K hK => ?zx42) AllReadyH.nil
          rw [if_pos (by rfl)]
          go_simp
          clear hS
          have hgs : v7.grownBy ((((((((((v7.setCell ⟨g_W, 0, none⟩ (.int .i64 e)).setCell ⟨g_W, 1, none⟩ (.bool p.u)).setCell ⟨g_W, 2, none⟩ (.int .u64 (n64 p.k))).setCell ⟨g_W, 3, none⟩ (.int .u64 (n64 p.l))).setCell ⟨g_W, 4, none⟩ (.slice (some ⟨g_w1, 0, none⟩) p.rs.length c_w1)).setCell ⟨g_W, 5, none⟩ (.bool q.u)).setCell ⟨g_W, 6, none⟩ (.int .u64 (n64 q.k))).setCell ⟨g_W, 7, none⟩ (.int .u64 (n64 q.l))).setCell ⟨g_W, 8, none⟩ (.slice (some ⟨g_w2, 0, none⟩) q.rs.length c_w2)).setCell ⟨g_W, 9, none⟩ (.bool t)) (some g_W) := (grown_setR (grown_setR (grown_setR (grown_setR (grown_setR (grown_setR (grown_setR (grown_setR (grown_setR (grown_setR (World.grownBy.refl v7 (some g_W)) 0 (.int .i64 e)) 1 (.bool p.u)) 2 (.int .u64 (n64 p.k))) 3 (.int .u64 (n64 p.l))) 4 (.slice (some ⟨g_w1, 0, none⟩) p.rs.length c_w1)) 5 (.bool q.u)) 6 (.int .u64 (n64 q.k))) 7 (.int .u64 (n64 q.l))) 8 (.slice (some ⟨g_w2, 0, none⟩) q.rs.length c_w2)) 9 (.bool t))
          have B8 := Lib.hid (B7.out.trans (grown_below hgs l_W B7.out.size))
          have KK8 := Lib.hid (KK7.out.grown hgs (n_K_W))
          have KM8 := Lib.hid (KM7.out.grown hgs (n_M_W))
          have KW8 := Lib.hid (show Blk ((((((((((v7.setCell ⟨g_W, 0, none⟩ (.int .i64 e)).setCell ⟨g_W, 1, none⟩ (.bool p.u)).setCell ⟨g_W, 2, none⟩ (.int .u64 (n64 p.k))).setCell ⟨g_W, 3, none⟩ (.int .u64 (n64 p.l))).setCell ⟨g_W, 4, none⟩ (.slice (some ⟨g_w1, 0, none⟩) p.rs.length c_w1)).setCell ⟨g_W, 5, none⟩ (.bool q.u)).setCell ⟨g_W, 6, none⟩ (.int .u64 (n64 q.k))).setCell ⟨g_W, 7, none⟩ (.int .u64 (n64 q.l))).setCell ⟨g_W, 8, none⟩ (.slice (some ⟨g_w2, 0, none⟩) q.rs.length c_w2)).setCell ⟨g_W, 9, none⟩ (.bool t)) g_W [.int .i64 e, .bool p.u, .int .u64 (n64 p.k), .int .u64 (n64 p.l), .slice (some ⟨g_w1, 0, none⟩) p.rs.length c_w1, .bool q.u, .int .u64 (n64 q.k), .int .u64 (n64 q.l), .slice (some ⟨g_w2, 0, none⟩) q.rs.length c_w2, .bool t] from ((((((((((KW7.out.set 0 (.int .i64 e)).set 1 (.bool p.u)).set 2 (.int .u64 (n64 p.k))).set 3 (.int .u64 (n64 p.l))).set 4 (.slice (some ⟨g_w1, 0, none⟩) p.rs.length c_w1)).set 5 (.bool q.u)).set 6 (.int .u64 (n64 q.k))).set 7 (.int .u64 (n64 q.l))).set 8 (.slice (some ⟨g_w2, 0, none⟩) q.rs.length c_w2)).set 9 (.bool t)))
          have Ok18 := Lib.hid (Ok17.out.kept hgs (.inr (own_ne (n_k1_W))))
          have Ok28 := Lib.hid (Ok27.out.kept hgs (.inr (own_ne (n_k2_W))))
          have On8 := Lib.hid (On7.out.kept hgs (.inr (own_ne (n_n_W))))
          have Ow18 := Lib.hid (Ow17.out.kept hgs (.inr (own_ne (n_w1_W))))
          have Ow28 := Lib.hid (Ow27.out.kept hgs (.inr (own_ne (n_w2_W))))
          clear hgs
          refine hK.out _ _ ⟨KK8.out, KM8.out⟩ (fun hS => ?_)
          clear hK K
          clear B7 KK7 KM7 KW7 Ok17 Ok27 On7 Ow17 Ow27
          clear cW0 cW1 cW2 cW3 cW4 cW5 cW6 cW7 cW8 cW9 dW0 dW1 dW2 dW3 dW4 dW5 dW6 dW7 dW8 dW9
          generalize (((((((((v7.setCell ⟨g_W, 0, none⟩ (.int .i64 e)).setCell ⟨g_W, 1, none⟩ (.bool p.u)).setCell ⟨g_W, 2, none⟩ (.int .u64 (n64 p.k))).setCell ⟨g_W, 3, none⟩ (.int .u64 (n64 p.l))).setCell ⟨g_W, 4, none⟩ (.slice (some ⟨g_w1, 0, none⟩) p.rs.length c_w1)).setCell ⟨g_W, 5, none⟩ (.bool q.u)).setCell ⟨g_W, 6, none⟩ (.int .u64 (n64 q.k))).setCell ⟨g_W, 7, none⟩ (.int .u64 (n64 q.l))).setCell ⟨g_W, 8, none⟩ (.slice (some ⟨g_w2, 0, none⟩) q.rs.length c_w2)).setCell ⟨g_W, 9, none⟩ (.bool t) = v8 at hS B8 KK8 KM8 KW8 Ok18 Ok28 On8 Ow18 Ow28 ⊢
          refine wpAnyH_done (by kernel_rfl) ?_ _
          refine NoPanic.normal ?_
          go_wp2_with fail
          go_meet
          case rel => exact ⟨g_W, g_w1, g_w2, c_w1, c_w2, rfl, B8, KK8, KM8, KW8, Ow18, Ow28, ⟨n_K_W, n_K_w1, n_K_w2, n_M_W, n_M_w1, n_M_w2, fun e => n_w1_W e.symm, fun e => n_w2_W e.symm, n_w1_w2⟩, ⟨l_W, l_w1, l_w2⟩⟩
        · rw [if_pos (by rfl)]
          go_simp
          clear hS
          have B6 := Lib.hid (B5.out.alloc B5.out.size (.cells #[.int .i64 0, .bool false, .int .u64 0, .int .u64 0, .slice none 0 0, .bool false, .int .u64 0, .int .u64 0, .slice none 0 0, .bool false] 29))
          have l_W : w.heap.size ≤ v5.heap.size := B5.out.size
          have n_K_W : g_K ≠ v5.heap.size := by have h1 := KK5.out.lt; omega
          have n_M_W : g_M ≠ v5.heap.size := by have h1 := KM5.out.lt; omega
          have n_k1_W : g_k1 ≠ v5.heap.size := by have h1 := (Ok15.out.lt g_k1 rfl).2; omega
          have n_k2_W : g_k2 ≠ v5.heap.size := by have h1 := (Ok25.out.lt g_k2 rfl).2; omega
          have n_n_W : g_n ≠ v5.heap.size := by have h1 := (On5.out.lt g_n rfl).2; omega
          have KK6 := Lib.hid (KK5.out.alloc (.cells #[.int .i64 0, .bool false, .int .u64 0, .int .u64 0, .slice none 0 0, .bool false, .int .u64 0, .int .u64 0, .slice none 0 0, .bool false] 29))
          have KM6 := Lib.hid (KM5.out.alloc (.cells #[.int .i64 0, .bool false, .int .u64 0, .int .u64 0, .slice none 0 0, .bool false, .int .u64 0, .int .u64 0, .slice none 0 0, .bool false] 29))
          have Ok16 := Lib.hid (Ok15.out.alloc (.cells #[.int .i64 0, .bool false, .int .u64 0, .int .u64 0, .slice none 0 0, .bool false, .int .u64 0, .int .u64 0, .slice none 0 0, .bool false] 29))
          have Ok26 := Lib.hid (Ok25.out.alloc (.cells #[.int .i64 0, .bool false, .int .u64 0, .int .u64 0, .slice none 0 0, .bool false, .int .u64 0, .int .u64 0, .slice none 0 0, .bool false] 29))
          have On6 := Lib.hid (On5.out.alloc (.cells #[.int .i64 0, .bool false, .int .u64 0, .int .u64 0, .slice none 0 0, .bool false, .int .u64 0, .int .u64 0, .slice none 0 0, .bool false] 29))
          have KW6 := Lib.hid (Blk.new v5 [.int .i64 0, .bool false, .int .u64 0, .int .u64 0, .slice none 0 0, .bool false, .int .u64 0, .int .u64 0, .slice none 0 0, .bool false] 29)
          clear B5 KK5 KM5 Ok15 Ok25 On5
          refine hK.out _ _ ⟨KK6.out, KM6.out⟩ (fun hS => ?_)
          clear hK K
          generalize v5.alloc (.cells #[.int .i64 0, .bool false, .int .u64 0, .int .u64 0, .slice none 0 0, .bool false, .int .u64 0, .int .u64 0, .slice none 0 0, .bool false] 29) = v6 at hS B6 KK6 KM6 KW6 Ok16 Ok26 On6 ⊢
          generalize v5.heap.size = g_W at KW6 l_W n_K_W n_M_W n_k1_W n_k2_W n_n_W ⊢
          refine wpAnyH_ready (rs := [4]) (by kernel_rfl) (by simp) ?_
          refine AllReadyH.cons (i := 4) rfl (fun K hK => ?zx43) AllReadyH.nil
          rw [if_pos (by rfl)]
          go_simp
          clear hS
          refine (C1.out g_k1 g_k2 g_n p.rs.length q.rs.length m.rs.length _ (M.on_at Ok16.out) (M.on_at Ok26.out) (M.on_at On6.out) Fp.out Fq.out Fm.out).mono ?_
          rintro e v7 ⟨g_w1, g_w2, c_w1, c_w2, n_w1_w2, rfl, ho_w1, ho_w2, hb⟩
          have n_K_w1 : g_K ≠ g_w1 := by have h1 := KK6.out.lt; have h2 := (ho_w1.lt g_w1 rfl).1; omega
          have n_M_w1 : g_M ≠ g_w1 := by have h1 := KM6.out.lt; have h2 := (ho_w1.lt g_w1 rfl).1; omega
          have n_W_w1 : g_W ≠ g_w1 := by have h1 := KW6.out.lt; have h2 := (ho_w1.lt g_w1 rfl).1; omega
          have n_k1_w1 : g_k1 ≠ g_w1 := by have h1 := (Ok16.out.lt g_k1 rfl).2; have h2 := (ho_w1.lt g_w1 rfl).1; omega
          have n_k2_w1 : g_k2 ≠ g_w1 := by have h1 := (Ok26.out.lt g_k2 rfl).2; have h2 := (ho_w1.lt g_w1 rfl).1; omega
          have n_n_w1 : g_n ≠ g_w1 := by have h1 := (On6.out.lt g_n rfl).2; have h2 := (ho_w1.lt g_w1 rfl).1; omega
          have l_w1 : w.heap.size ≤ g_w1 := Nat.le_trans B6.out.size (ho_w1.lt g_w1 rfl).1
          have n_K_w2 : g_K ≠ g_w2 := by have h1 := KK6.out.lt; have h2 := (ho_w2.lt g_w2 rfl).1; omega
          have n_M_w2 : g_M ≠ g_w2 := by have h1 := KM6.out.lt; have h2 := (ho_w2.lt g_w2 rfl).1; omega
          have n_W_w2 : g_W ≠ g_w2 := by have h1 := KW6.out.lt; have h2 := (ho_w2.lt g_w2 rfl).1; omega
          have n_k1_w2 : g_k1 ≠ g_w2 := by have h1 := (Ok16.out.lt g_k1 rfl).2; have h2 := (ho_w2.lt g_w2 rfl).1; omega
          have n_k2_w2 : g_k2 ≠ g_w2 := by have h1 := (Ok26.out.lt g_k2 rfl).2; have h2 := (ho_w2.lt g_w2 rfl).1; omega
          have n_n_w2 : g_n ≠ g_w2 := by have h1 := (On6.out.lt g_n rfl).2; have h2 := (ho_w2.lt g_w2 rfl).1; omega
          have l_w2 : w.heap.size ≤ g_w2 := Nat.le_trans B6.out.size (ho_w2.lt g_w2 rfl).1
          have B7 := Lib.hid (B6.out.trans (hb.mono B6.out.size))
          have KK7 := Lib.hid (KK6.out.below hb)
          have KM7 := Lib.hid (KM6.out.below hb)
          have KW7 := Lib.hid (KW6.out.below hb)
          have Ok17 := Lib.hid (Ok16.out.kept (below_any (row := none) hb) (.inr (by simp [Value.ownBlock])))
          have Ok27 := Lib.hid (Ok26.out.kept (below_any (row := none) hb) (.inr (by simp [Value.ownBlock])))
          have On7 := Lib.hid (On6.out.kept (below_any (row := none) hb) (.inr (by simp [Value.ownBlock])))
          have Ow17 := Lib.hid (own_down ho_w1 (Nat.zero_le _))
          have Ow27 := Lib.hid (own_down ho_w2 (Nat.zero_le _))
          clear hb B6 KK6 KM6 KW6 Ok16 Ok26 On6 ho_w1 ho_w2
          refine hK.out _ _ ⟨KK7.out, KM7.out⟩ (fun hS => ?_)
          clear hK K
          obtain ⟨⟨cW0, cW1, cW2, cW3, cW4, cW5, cW6, cW7, cW8, cW9⟩, dW0, dW1, dW2, dW3, dW4, dW5, dW6, dW7, dW8, dW9⟩ := KW7.out.of10
          refine wpAnyH_ready (rs := [6]) (by kernel_rfl) (by simp) ?_
          refine AllReadyH.cons (i := 6) rfl (fun K hK => ?zx44) AllReadyH.nil
          rw [if_pos (by rfl)]
          go_simp
          clear hS
          have hgs : v7.grownBy ((((((((((v7.setCell ⟨g_W, 0, none⟩ (.int .i64 e)).setCell ⟨g_W, 1, none⟩ (.bool p.u)).setCell ⟨g_W, 2, none⟩ (.int .u64 (n64 p.k))).setCell ⟨g_W, 3, none⟩ (.int .u64 (n64 p.l))).setCell ⟨g_W, 4, none⟩ (.slice (some ⟨g_w1, 0, none⟩) p.rs.length c_w1)).setCell ⟨g_W, 5, none⟩ (.bool q.u)).setCell ⟨g_W, 6, none⟩ (.int .u64 (n64 q.k))).setCell ⟨g_W, 7, none⟩ (.int .u64 (n64 q.l))).setCell ⟨g_W, 8, none⟩ (.slice (some ⟨g_w2, 0, none⟩) q.rs.length c_w2)).setCell ⟨g_W, 9, none⟩ (.bool t)) (some g_W) := (grown_setR (grown_setR (grown_setR (grown_setR (grown_setR (grown_setR (grown_setR (grown_setR (grown_setR (grown_setR (World.grownBy.refl v7 (some g_W)) 0 (.int .i64 e)) 1 (.bool p.u)) 2 (.int .u64 (n64 p.k))) 3 (.int .u64 (n64 p.l))) 4 (.slice (some ⟨g_w1, 0, none⟩) p.rs.length c_w1)) 5 (.bool q.u)) 6 (.int .u64 (n64 q.k))) 7 (.int .u64 (n64 q.l))) 8 (.slice (some ⟨g_w2, 0, none⟩) q.rs.length c_w2)) 9 (.bool t))
          have B8 := Lib.hid (B7.out.trans (grown_below hgs l_W B7.out.size))
          have KK8 := Lib.hid (KK7.out.grown hgs (n_K_W))
          have KM8 := Lib.hid (KM7.out.grown hgs (n_M_W))
          have KW8 := Lib.hid (show Blk ((((((((((v7.setCell ⟨g_W, 0, none⟩ (.int .i64 e)).setCell ⟨g_W, 1, none⟩ (.bool p.u)).setCell ⟨g_W, 2, none⟩ (.int .u64 (n64 p.k))).setCell ⟨g_W, 3, none⟩ (.int .u64 (n64 p.l))).setCell ⟨g_W, 4, none⟩ (.slice (some ⟨g_w1, 0, none⟩) p.rs.length c_w1)).setCell ⟨g_W, 5, none⟩ (.bool q.u)).setCell ⟨g_W, 6, none⟩ (.int .u64 (n64 q.k))).setCell ⟨g_W, 7, none⟩ (.int .u64 (n64 q.l))).setCell ⟨g_W, 8, none⟩ (.slice (some ⟨g_w2, 0, none⟩) q.rs.length c_w2)).setCell ⟨g_W, 9, none⟩ (.bool t)) g_W [.int .i64 e, .bool p.u, .int .u64 (n64 p.k), .int .u64 (n64 p.l), .slice (some ⟨g_w1, 0, none⟩) p.rs.length c_w1, .bool q.u, .int .u64 (n64 q.k), .int .u64 (n64 q.l), .slice (some ⟨g_w2, 0, none⟩) q.rs.length c_w2, .bool t] from ((((((((((KW7.out.set 0 (.int .i64 e)).set 1 (.bool p.u)).set 2 (.int .u64 (n64 p.k))).set 3 (.int .u64 (n64 p.l))).set 4 (.slice (some ⟨g_w1, 0, none⟩) p.rs.length c_w1)).set 5 (.bool q.u)).set 6 (.int .u64 (n64 q.k))).set 7 (.int .u64 (n64 q.l))).set 8 (.slice (some ⟨g_w2, 0, none⟩) q.rs.length c_w2)).set 9 (.bool t)))
          have Ok18 := Lib.hid (Ok17.out.kept hgs (.inr (own_ne (n_k1_W))))
          have Ok28 := Lib.hid (Ok27.out.kept hgs (.inr (own_ne (n_k2_W))))
          have On8 := Lib.hid (On7.out.kept hgs (.inr (own_ne (n_n_W))))
          have Ow18 := Lib.hid (Ow17.out.kept hgs (.inr (own_ne (fun e => n_W_w1 e.symm))))
          have Ow28 := Lib.hid (Ow27.out.kept hgs (.inr (own_ne (fun e => n_W_w2 e.symm))))
          clear hgs
          refine hK.out _ _ ⟨KK8.out, KM8.out⟩ (fun hS => ?_)
          clear hK K
          clear B7 KK7 KM7 KW7 Ok17 Ok27 On7 Ow17 Ow27
          clear cW0 cW1 cW2 cW3 cW4 cW5 cW6 cW7 cW8 cW9 dW0 dW1 dW2 dW3 dW4 dW5 dW6 dW7 dW8 dW9
          generalize (((((((((v7.setCell ⟨g_W, 0, none⟩ (.int .i64 e)).setCell ⟨g_W, 1, none⟩ (.bool p.u)).setCell ⟨g_W, 2, none⟩ (.int .u64 (n64 p.k))).setCell ⟨g_W, 3, none⟩ (.int .u64 (n64 p.l))).setCell ⟨g_W, 4, none⟩ (.slice (some ⟨g_w1, 0, none⟩) p.rs.length c_w1)).setCell ⟨g_W, 5, none⟩ (.bool q.u)).setCell ⟨g_W, 6, none⟩ (.int .u64 (n64 q.k))).setCell ⟨g_W, 7, none⟩ (.int .u64 (n64 q.l))).setCell ⟨g_W, 8, none⟩ (.slice (some ⟨g_w2, 0, none⟩) q.rs.length c_w2)).setCell ⟨g_W, 9, none⟩ (.bool t) = v8 at hS B8 KK8 KM8 KW8 Ok18 Ok28 On8 Ow18 Ow28 ⊢
          refine wpAnyH_done (by kernel_rfl) ?_ _
          refine NoPanic.normal ?_
          go_wp2_with fail
          go_meet
          case rel => exact ⟨g_W, g_w1, g_w2, c_w1, c_w2, rfl, B8, KK8, KM8, KW8, Ow18, Ow28, ⟨n_K_W, n_K_w1, n_K_w2, n_M_W, n_M_w1, n_M_w2, n_W_w1, n_W_w2, n_w1_w2⟩, ⟨l_W, l_w1, l_w2⟩⟩
      · rw [if_pos (by rfl)]
        go_simp
        clear hS
        have B5 := Lib.hid (B4.out.alloc B4.out.size (.cells #[.int .i64 0, .bool false, .int .u64 0, .int .u64 0, .slice none 0 0, .bool false, .int .u64 0, .int .u64 0, .slice none 0 0, .bool false] 29))
        have l_W : w.heap.size ≤ v4.heap.size := B4.out.size
        have n_K_W : g_K ≠ v4.heap.size := by have h1 := KK4.out.lt; omega
        have n_M_W : g_M ≠ v4.heap.size := by have h1 := KM4.out.lt; omega
        have n_k1_W : g_k1 ≠ v4.heap.size := by have h1 := (Ok14.out.lt g_k1 rfl).2; omega
        have n_k2_W : g_k2 ≠ v4.heap.size := by have h1 := (Ok24.out.lt g_k2 rfl).2; omega
        have KK5 := Lib.hid (KK4.out.alloc (.cells #[.int .i64 0, .bool false, .int .u64 0, .int .u64 0, .slice none 0 0, .bool false, .int .u64 0, .int .u64 0, .slice none 0 0, .bool false] 29))
        have KM5 := Lib.hid (KM4.out.alloc (.cells #[.int .i64 0, .bool false, .int .u64 0, .int .u64 0, .slice none 0 0, .bool false, .int .u64 0, .int .u64 0, .slice none 0 0, .bool false] 29))
        have Ok15 := Lib.hid (Ok14.out.alloc (.cells #[.int .i64 0, .bool false, .int .u64 0, .int .u64 0, .slice none 0 0, .bool false, .int .u64 0, .int .u64 0, .slice none 0 0, .bool false] 29))
        have Ok25 := Lib.hid (Ok24.out.alloc (.cells #[.int .i64 0, .bool false, .int .u64 0, .int .u64 0, .slice none 0 0, .bool false, .int .u64 0, .int .u64 0, .slice none 0 0, .bool false] 29))
        have KW5 := Lib.hid (Blk.new v4 [.int .i64 0, .bool false, .int .u64 0, .int .u64 0, .slice none 0 0, .bool false, .int .u64 0, .int .u64 0, .slice none 0 0, .bool false] 29)
        clear B4 KK4 KM4 Ok14 Ok24
        refine hK.out _ _ ⟨KK5.out, KM5.out⟩ (fun hS => ?_)
        clear hK K
        generalize v4.alloc (.cells #[.int .i64 0, .bool false, .int .u64 0, .int .u64 0, .slice none 0 0, .bool false, .int .u64 0, .int .u64 0, .slice none 0 0, .bool false] 29) = v5 at hS B5 KK5 KM5 KW5 Ok15 Ok25 ⊢
        generalize v4.heap.size = g_W at KW5 l_W n_K_W n_M_W n_k1_W n_k2_W ⊢
        refine wpAnyH_ready (rs := [3]) (by kernel_rfl) (by simp) ?_
        refine AllReadyH.cons (i := 3) rfl (fun K hK => ?zx45) AllReadyH.nil
        rw [if_pos (by rfl)]
        go_simp
        clear hS
        refine (toMac_any m.u (n64 m.k) (n64 m.l) m.a m.c m.rs _ ((HM.out.2.below B5.out).mono B5.out.size) fm.out).mono ?_
        rintro e v6 ⟨g_n, rfl, ho_n, hb⟩
        have n_K_n : g_K ≠ g_n := by have h1 := KK5.out.lt; have h2 := (ho_n.lt g_n rfl).1; omega
        have n_M_n : g_M ≠ g_n := by have h1 := KM5.out.lt; have h2 := (ho_n.lt g_n rfl).1; omega
        have n_W_n : g_W ≠ g_n := by have h1 := KW5.out.lt; have h2 := (ho_n.lt g_n rfl).1; omega
        have n_k1_n : g_k1 ≠ g_n := by have h1 := (Ok15.out.lt g_k1 rfl).2; have h2 := (ho_n.lt g_n rfl).1; omega
        have n_k2_n : g_k2 ≠ g_n := by have h1 := (Ok25.out.lt g_k2 rfl).2; have h2 := (ho_n.lt g_n rfl).1; omega
        have l_n : w.heap.size ≤ g_n := Nat.le_trans B5.out.size (ho_n.lt g_n rfl).1
        have B6 := Lib.hid (B5.out.trans (hb.mono B5.out.size))
        have KK6 := Lib.hid (KK5.out.below hb)
        have KM6 := Lib.hid (KM5.out.below hb)
        have KW6 := Lib.hid (KW5.out.below hb)
        have Ok16 := Lib.hid (Ok15.out.kept (below_any (row := none) hb) (.inr (by simp [Value.ownBlock])))
        have Ok26 := Lib.hid (Ok25.out.kept (below_any (row := none) hb) (.inr (by simp [Value.ownBlock])))
        have On6 := Lib.hid (own_down ho_n (Nat.zero_le _))
        clear hb B5 KK5 KM5 KW5 Ok15 Ok25 ho_n
        refine hK.out _ _ ⟨KK6.out, KM6.out⟩ (fun hS => ?_)
        clear hK K
        refine wpAnyH_ready (rs := [4]) (by kernel_rfl) (by simp) ?_
        refine AllReadyH.cons (i := 4) rfl (fun K hK => ?zx46) AllReadyH.nil
        rw [if_pos (by rfl)]
        go_simp
        clear hS
        refine (C1.out g_k1 g_k2 g_n p.rs.length q.rs.length m.rs.length _ (M.on_at Ok16.out) (M.on_at Ok26.out) (M.on_at On6.out) Fp.out Fq.out Fm.out).mono ?_
        rintro e v7 ⟨g_w1, g_w2, c_w1, c_w2, n_w1_w2, rfl, ho_w1, ho_w2, hb⟩
        have n_K_w1 : g_K ≠ g_w1 := by have h1 := KK6.out.lt; have h2 := (ho_w1.lt g_w1 rfl).1; omega
        have n_M_w1 : g_M ≠ g_w1 := by have h1 := KM6.out.lt; have h2 := (ho_w1.lt g_w1 rfl).1; omega
        have n_W_w1 : g_W ≠ g_w1 := by have h1 := KW6.out.lt; have h2 := (ho_w1.lt g_w1 rfl).1; omega
        have n_k1_w1 : g_k1 ≠ g_w1 := by have h1 := (Ok16.out.lt g_k1 rfl).2; have h2 := (ho_w1.lt g_w1 rfl).1; omega
        have n_k2_w1 : g_k2 ≠ g_w1 := by have h1 := (Ok26.out.lt g_k2 rfl).2; have h2 := (ho_w1.lt g_w1 rfl).1; omega
        have n_n_w1 : g_n ≠ g_w1 := by have h1 := (On6.out.lt g_n rfl).2; have h2 := (ho_w1.lt g_w1 rfl).1; omega
        have l_w1 : w.heap.size ≤ g_w1 := Nat.le_trans B6.out.size (ho_w1.lt g_w1 rfl).1
        have n_K_w2 : g_K ≠ g_w2 := by have h1 := KK6.out.lt; have h2 := (ho_w2.lt g_w2 rfl).1; omega
        have n_M_w2 : g_M ≠ g_w2 := by have h1 := KM6.out.lt; have h2 := (ho_w2.lt g_w2 rfl).1; omega
        have n_W_w2 : g_W ≠ g_w2 := by have h1 := KW6.out.lt; have h2 := (ho_w2.lt g_w2 rfl).1; omega
        have n_k1_w2 : g_k1 ≠ g_w2 := by have h1 := (Ok16.out.lt g_k1 rfl).2; have h2 := (ho_w2.lt g_w2 rfl).1; omega
        have n_k2_w2 : g_k2 ≠ g_w2 := by have h1 := (Ok26.out.lt g_k2 rfl).2; have h2 := (ho_w2.lt g_w2 rfl).1; omega
        have n_n_w2 : g_n ≠ g_w2 := by have h1 := (On6.out.lt g_n rfl).2; have h2 := (ho_w2.lt g_w2 rfl).1; omega
        have l_w2 : w.heap.size ≤ g_w2 := Nat.le_trans B6.out.size (ho_w2.lt g_w2 rfl).1
        have B7 := Lib.hid (B6.out.trans (hb.mono B6.out.size))
        have KK7 := Lib.hid (KK6.out.below hb)
        have KM7 := Lib.hid (KM6.out.below hb)
        have KW7 := Lib.hid (KW6.out.below hb)
        have Ok17 := Lib.hid (Ok16.out.kept (below_any (row := none) hb) (.inr (by simp [Value.ownBlock])))
        have Ok27 := Lib.hid (Ok26.out.kept (below_any (row := none) hb) (.inr (by simp [Value.ownBlock])))
        have On7 := Lib.hid (On6.out.kept (below_any (row := none) hb) (.inr (by simp [Value.ownBlock])))
        have Ow17 := Lib.hid (own_down ho_w1 (Nat.zero_le _))
        have Ow27 := Lib.hid (own_down ho_w2 (Nat.zero_le _))
        clear hb B6 KK6 KM6 KW6 Ok16 Ok26 On6 ho_w1 ho_w2
        refine hK.out _ _ ⟨KK7.out, KM7.out⟩ (fun hS => ?_)
        clear hK K
        obtain ⟨⟨cW0, cW1, cW2, cW3, cW4, cW5, cW6, cW7, cW8, cW9⟩, dW0, dW1, dW2, dW3, dW4, dW5, dW6, dW7, dW8, dW9⟩ := KW7.out.of10
        refine wpAnyH_ready (rs := [6]) (by kernel_rfl) (by simp) ?_
        refine AllReadyH.cons (i := 6) rfl (fun K hK => ?zx47) AllReadyH.nil
        rw [if_pos (by rfl)]
        go_simp
        clear hS
        have hgs : v7.grownBy ((((((((((v7.setCell ⟨g_W, 0, none⟩ (.int .i64 e)).setCell ⟨g_W, 1, none⟩ (.bool p.u)).setCell ⟨g_W, 2, none⟩ (.int .u64 (n64 p.k))).setCell ⟨g_W, 3, none⟩ (.int .u64 (n64 p.l))).setCell ⟨g_W, 4, none⟩ (.slice (some ⟨g_w1, 0, none⟩) p.rs.length c_w1)).setCell ⟨g_W, 5, none⟩ (.bool q.u)).setCell ⟨g_W, 6, none⟩ (.int .u64 (n64 q.k))).setCell ⟨g_W, 7, none⟩ (.int .u64 (n64 q.l))).setCell ⟨g_W, 8, none⟩ (.slice (some ⟨g_w2, 0, none⟩) q.rs.length c_w2)).setCell ⟨g_W, 9, none⟩ (.bool t)) (some g_W) := (grown_setR (grown_setR (grown_setR (grown_setR (grown_setR (grown_setR (grown_setR (grown_setR (grown_setR (grown_setR (World.grownBy.refl v7 (some g_W)) 0 (.int .i64 e)) 1 (.bool p.u)) 2 (.int .u64 (n64 p.k))) 3 (.int .u64 (n64 p.l))) 4 (.slice (some ⟨g_w1, 0, none⟩) p.rs.length c_w1)) 5 (.bool q.u)) 6 (.int .u64 (n64 q.k))) 7 (.int .u64 (n64 q.l))) 8 (.slice (some ⟨g_w2, 0, none⟩) q.rs.length c_w2)) 9 (.bool t))
        have B8 := Lib.hid (B7.out.trans (grown_below hgs l_W B7.out.size))
        have KK8 := Lib.hid (KK7.out.grown hgs (n_K_W))
        have KM8 := Lib.hid (KM7.out.grown hgs (n_M_W))
        have KW8 := Lib.hid (show Blk ((((((((((v7.setCell ⟨g_W, 0, none⟩ (.int .i64 e)).setCell ⟨g_W, 1, none⟩ (.bool p.u)).setCell ⟨g_W, 2, none⟩ (.int .u64 (n64 p.k))).setCell ⟨g_W, 3, none⟩ (.int .u64 (n64 p.l))).setCell ⟨g_W, 4, none⟩ (.slice (some ⟨g_w1, 0, none⟩) p.rs.length c_w1)).setCell ⟨g_W, 5, none⟩ (.bool q.u)).setCell ⟨g_W, 6, none⟩ (.int .u64 (n64 q.k))).setCell ⟨g_W, 7, none⟩ (.int .u64 (n64 q.l))).setCell ⟨g_W, 8, none⟩ (.slice (some ⟨g_w2, 0, none⟩) q.rs.length c_w2)).setCell ⟨g_W, 9, none⟩ (.bool t)) g_W [.int .i64 e, .bool p.u, .int .u64 (n64 p.k), .int .u64 (n64 p.l), .slice (some ⟨g_w1, 0, none⟩) p.rs.length c_w1, .bool q.u, .int .u64 (n64 q.k), .int .u64 (n64 q.l), .slice (some ⟨g_w2, 0, none⟩) q.rs.length c_w2, .bool t] from ((((((((((KW7.out.set 0 (.int .i64 e)).set 1 (.bool p.u)).set 2 (.int .u64 (n64 p.k))).set 3 (.int .u64 (n64 p.l))).set 4 (.slice (some ⟨g_w1, 0, none⟩) p.rs.length c_w1)).set 5 (.bool q.u)).set 6 (.int .u64 (n64 q.k))).set 7 (.int .u64 (n64 q.l))).set 8 (.slice (some ⟨g_w2, 0, none⟩) q.rs.length c_w2)).set 9 (.bool t)))
        have Ok18 := Lib.hid (Ok17.out.kept hgs (.inr (own_ne (n_k1_W))))
        have Ok28 := Lib.hid (Ok27.out.kept hgs (.inr (own_ne (n_k2_W))))
        have On8 := Lib.hid (On7.out.kept hgs (.inr (own_ne (fun e => n_W_n e.symm))))
        have Ow18 := Lib.hid (Ow17.out.kept hgs (.inr (own_ne (fun e => n_W_w1 e.symm))))
        have Ow28 := Lib.hid (Ow27.out.kept hgs (.inr (own_ne (fun e => n_W_w2 e.symm))))
        clear hgs
        refine hK.out _ _ ⟨KK8.out, KM8.out⟩ (fun hS => ?_)
        clear hK K
        clear B7 KK7 KM7 KW7 Ok17 Ok27 On7 Ow17 Ow27
        clear cW0 cW1 cW2 cW3 cW4 cW5 cW6 cW7 cW8 cW9 dW0 dW1 dW2 dW3 dW4 dW5 dW6 dW7 dW8 dW9
        generalize (((((((((v7.setCell ⟨g_W, 0, none⟩ (.int .i64 e)).setCell ⟨g_W, 1, none⟩ (.bool p.u)).setCell ⟨g_W, 2, none⟩ (.int .u64 (n64 p.k))).setCell ⟨g_W, 3, none⟩ (.int .u64 (n64 p.l))).setCell ⟨g_W, 4, none⟩ (.slice (some ⟨g_w1, 0, none⟩) p.rs.length c_w1)).setCell ⟨g_W, 5, none⟩ (.bool q.u)).setCell ⟨g_W, 6, none⟩ (.int .u64 (n64 q.k))).setCell ⟨g_W, 7, none⟩ (.int .u64 (n64 q.l))).setCell ⟨g_W, 8, none⟩ (.slice (some ⟨g_w2, 0, none⟩) q.rs.length c_w2)).setCell ⟨g_W, 9, none⟩ (.bool t) = v8 at hS B8 KK8 KM8 KW8 Ok18 Ok28 On8 Ow18 Ow28 ⊢
        refine wpAnyH_done (by kernel_rfl) ?_ _
        refine NoPanic.normal ?_
        go_wp2_with fail
        go_meet
        case rel => exact ⟨g_W, g_w1, g_w2, c_w1, c_w2, rfl, B8, KK8, KM8, KW8, Ow18, Ow28, ⟨n_K_W, n_K_w1, n_K_w2, n_M_W, n_M_w1, n_M_w2, n_W_w1, n_W_w2, n_w1_w2⟩, ⟨l_W, l_w1, l_w2⟩⟩
    · rw [if_pos (by rfl)]
      go_simp
      clear hS
      have B4 := Lib.hid (B3.out.alloc B3.out.size (.cells #[.int .i64 0, .bool false, .int .u64 0, .int .u64 0, .slice none 0 0, .bool false, .int .u64 0, .int .u64 0, .slice none 0 0, .bool false] 29))
      have l_W : w.heap.size ≤ v3.heap.size := B3.out.size
      have n_K_W : g_K ≠ v3.heap.size := by have h1 := KK3.out.lt; omega
      have n_M_W : g_M ≠ v3.heap.size := by have h1 := KM3.out.lt; omega
      have KK4 := Lib.hid (KK3.out.alloc (.cells #[.int .i64 0, .bool false, .int .u64 0, .int .u64 0, .slice none 0 0, .bool false, .int .u64 0, .int .u64 0, .slice none 0 0, .bool false] 29))
      have KM4 := Lib.hid (KM3.out.alloc (.cells #[.int .i64 0, .bool false, .int .u64 0, .int .u64 0, .slice none 0 0, .bool false, .int .u64 0, .int .u64 0, .slice none 0 0, .bool false] 29))
      have KW4 := Lib.hid (Blk.new v3 [.int .i64 0, .bool false, .int .u64 0, .int .u64 0, .slice none 0 0, .bool false, .int .u64 0, .int .u64 0, .slice none 0 0, .bool false] 29)
      clear B3 KK3 KM3
      refine hK.out _ _ ⟨KK4.out, KM4.out⟩ (fun hS => ?_)
      clear hK K
      generalize v3.alloc (.cells #[.int .i64 0, .bool false, .int .u64 0, .int .u64 0, .slice none 0 0, .bool false, .int .u64 0, .int .u64 0, .slice none 0 0, .bool false] 29) = v4 at hS B4 KK4 KM4 KW4 ⊢
      generalize v3.heap.size = g_W at KW4 l_W n_K_W n_M_W ⊢
      refine wpAnyH_ready (rs := [1]) (by kernel_rfl) (by simp) ?_
      refine AllReadyH.cons (i := 1) rfl (fun K hK => ?zx48) AllReadyH.nil
      rw [if_pos (by rfl)]
      go_simp
      clear hS
      refine (toKeys_any e p q t _ ((HP.out.2.below B4.out).mono B4.out.size) ((HQ.out.2.below B4.out).mono B4.out.size) fp.out fq.out).mono ?_
      rintro e v5 ⟨g_k1, g_k2, n_k1_k2, rfl, ho_k1, ho_k2, hb⟩
      have n_K_k1 : g_K ≠ g_k1 := by have h1 := KK4.out.lt; have h2 := (ho_k1.lt g_k1 rfl).1; omega
      have n_M_k1 : g_M ≠ g_k1 := by have h1 := KM4.out.lt; have h2 := (ho_k1.lt g_k1 rfl).1; omega
      have n_W_k1 : g_W ≠ g_k1 := by have h1 := KW4.out.lt; have h2 := (ho_k1.lt g_k1 rfl).1; omega
      have l_k1 : w.heap.size ≤ g_k1 := Nat.le_trans B4.out.size (ho_k1.lt g_k1 rfl).1
      have n_K_k2 : g_K ≠ g_k2 := by have h1 := KK4.out.lt; have h2 := (ho_k2.lt g_k2 rfl).1; omega
      have n_M_k2 : g_M ≠ g_k2 := by have h1 := KM4.out.lt; have h2 := (ho_k2.lt g_k2 rfl).1; omega
      have n_W_k2 : g_W ≠ g_k2 := by have h1 := KW4.out.lt; have h2 := (ho_k2.lt g_k2 rfl).1; omega
      have l_k2 : w.heap.size ≤ g_k2 := Nat.le_trans B4.out.size (ho_k2.lt g_k2 rfl).1
      have B5 := Lib.hid (B4.out.trans (hb.mono B4.out.size))
      have KK5 := Lib.hid (KK4.out.below hb)
      have KM5 := Lib.hid (KM4.out.below hb)
      have KW5 := Lib.hid (KW4.out.below hb)
      have Ok15 := Lib.hid (own_down ho_k1 (Nat.zero_le _))
      have Ok25 := Lib.hid (own_down ho_k2 (Nat.zero_le _))
      clear hb B4 KK4 KM4 KW4 ho_k1 ho_k2
      refine hK.out _ _ ⟨KK5.out, KM5.out⟩ (fun hS => ?_)
      clear hK K
      refine wpAnyH_ready (rs := [3]) (by kernel_rfl) (by simp) ?_
      refine AllReadyH.cons (i := 3) rfl (fun K hK => ?zx49) AllReadyH.nil
      rw [if_pos (by rfl)]
      go_simp
      clear hS
      refine (toMac_any m.u (n64 m.k) (n64 m.l) m.a m.c m.rs _ ((HM.out.2.below B5.out).mono B5.out.size) fm.out).mono ?_
      rintro e v6 ⟨g_n, rfl, ho_n, hb⟩
      have n_K_n : g_K ≠ g_n := by have h1 := KK5.out.lt; have h2 := (ho_n.lt g_n rfl).1; omega
      have n_M_n : g_M ≠ g_n := by have h1 := KM5.out.lt; have h2 := (ho_n.lt g_n rfl).1; omega
      have n_W_n : g_W ≠ g_n := by have h1 := KW5.out.lt; have h2 := (ho_n.lt g_n rfl).1; omega
      have n_k1_n : g_k1 ≠ g_n := by have h1 := (Ok15.out.lt g_k1 rfl).2; have h2 := (ho_n.lt g_n rfl).1; omega
      have n_k2_n : g_k2 ≠ g_n := by have h1 := (Ok25.out.lt g_k2 rfl).2; have h2 := (ho_n.lt g_n rfl).1; omega
      have l_n : w.heap.size ≤ g_n := Nat.le_trans B5.out.size (ho_n.lt g_n rfl).1
      have B6 := Lib.hid (B5.out.trans (hb.mono B5.out.size))
      have KK6 := Lib.hid (KK5.out.below hb)
      have KM6 := Lib.hid (KM5.out.below hb)
      have KW6 := Lib.hid (KW5.out.below hb)
      have Ok16 := Lib.hid (Ok15.out.kept (below_any (row := none) hb) (.inr (by simp [Value.ownBlock])))
      have Ok26 := Lib.hid (Ok25.out.kept (below_any (row := none) hb) (.inr (by simp [Value.ownBlock])))
      have On6 := Lib.hid (own_down ho_n (Nat.zero_le _))
      clear hb B5 KK5 KM5 KW5 Ok15 Ok25 ho_n
      refine hK.out _ _ ⟨KK6.out, KM6.out⟩ (fun hS => ?_)
      clear hK K
      refine wpAnyH_ready (rs := [4]) (by kernel_rfl) (by simp) ?_
      refine AllReadyH.cons (i := 4) rfl (fun K hK => ?zx50) AllReadyH.nil
      rw [if_pos (by rfl)]
      go_simp
      clear hS
      refine (C1.out g_k1 g_k2 g_n p.rs.length q.rs.length m.rs.length _ (M.on_at Ok16.out) (M.on_at Ok26.out) (M.on_at On6.out) Fp.out Fq.out Fm.out).mono ?_
      rintro e v7 ⟨g_w1, g_w2, c_w1, c_w2, n_w1_w2, rfl, ho_w1, ho_w2, hb⟩
      have n_K_w1 : g_K ≠ g_w1 := by have h1 := KK6.out.lt; have h2 := (ho_w1.lt g_w1 rfl).1; omega
      have n_M_w1 : g_M ≠ g_w1 := by have h1 := KM6.out.lt; have h2 := (ho_w1.lt g_w1 rfl).1; omega
      have n_W_w1 : g_W ≠ g_w1 := by have h1 := KW6.out.lt; have h2 := (ho_w1.lt g_w1 rfl).1; omega
      have n_k1_w1 : g_k1 ≠ g_w1 := by have h1 := (Ok16.out.lt g_k1 rfl).2; have h2 := (ho_w1.lt g_w1 rfl).1; omega
      have n_k2_w1 : g_k2 ≠ g_w1 := by have h1 := (Ok26.out.lt g_k2 rfl).2; have h2 := (ho_w1.lt g_w1 rfl).1; omega
      have n_n_w1 : g_n ≠ g_w1 := by have h1 := (On6.out.lt g_n rfl).2; have h2 := (ho_w1.lt g_w1 rfl).1; omega
      have l_w1 : w.heap.size ≤ g_w1 := Nat.le_trans B6.out.size (ho_w1.lt g_w1 rfl).1
      have n_K_w2 : g_K ≠ g_w2 := by have h1 := KK6.out.lt; have h2 := (ho_w2.lt g_w2 rfl).1; omega
      have n_M_w2 : g_M ≠ g_w2 := by have h1 := KM6.out.lt; have h2 := (ho_w2.lt g_w2 rfl).1; omega
      have n_W_w2 : g_W ≠ g_w2 := by have h1 := KW6.out.lt; have h2 := (ho_w2.lt g_w2 rfl).1; omega
      have n_k1_w2 : g_k1 ≠ g_w2 := by have h1 := (Ok16.out.lt g_k1 rfl).2; have h2 := (ho_w2.lt g_w2 rfl).1; omega
      have n_k2_w2 : g_k2 ≠ g_w2 := by have h1 := (Ok26.out.lt g_k2 rfl).2; have h2 := (ho_w2.lt g_w2 rfl).1; omega
      have n_n_w2 : g_n ≠ g_w2 := by have h1 := (On6.out.lt g_n rfl).2; have h2 := (ho_w2.lt g_w2 rfl).1; omega
      have l_w2 : w.heap.size ≤ g_w2 := Nat.le_trans B6.out.size (ho_w2.lt g_w2 rfl).1
      have B7 := Lib.hid (B6.out.trans (hb.mono B6.out.size))
      have KK7 := Lib.hid (KK6.out.below hb)
      have KM7 := Lib.hid (KM6.out.below hb)
      have KW7 := Lib.hid (KW6.out.below hb)
      have Ok17 := Lib.hid (Ok16.out.kept (below_any (row := none) hb) (.inr (by simp [Value.ownBlock])))
      have Ok27 := Lib.hid (Ok26.out.kept (below_any (row := none) hb) (.inr (by simp [Value.ownBlock])))
      have On7 := Lib.hid (On6.out.kept (below_any (row := none) hb) (.inr (by simp [Value.ownBlock])))
      have Ow17 := Lib.hid (own_down ho_w1 (Nat.zero_le _))
      have Ow27 := Lib.hid (own_down ho_w2 (Nat.zero_le _))
      clear hb B6 KK6 KM6 KW6 Ok16 Ok26 On6 ho_w1 ho_w2
      refine hK.out _ _ ⟨KK7.out, KM7.out⟩ (fun hS => ?_)
      clear hK K
      obtain ⟨⟨cW0, cW1, cW2, cW3, cW4, cW5, cW6, cW7, cW8, cW9⟩, dW0, dW1, dW2, dW3, dW4, dW5, dW6, dW7, dW8, dW9⟩ := KW7.out.of10
      refine wpAnyH_ready (rs := [6]) (by kernel_rfl) (by simp) ?_
      refine AllReadyH.cons (i := 6) rfl (fun K hK => ?zx51) AllReadyH.nil
      rw [if_pos (by rfl)]
      go_simp
      clear hS
      have hgs : v7.grownBy ((((((((((v7.setCell ⟨g_W, 0, none⟩ (.int .i64 e)).setCell ⟨g_W, 1, none⟩ (.bool p.u)).setCell ⟨g_W, 2, none⟩ (.int .u64 (n64 p.k))).setCell ⟨g_W, 3, none⟩ (.int .u64 (n64 p.l))).setCell ⟨g_W, 4, none⟩ (.slice (some ⟨g_w1, 0, none⟩) p.rs.length c_w1)).setCell ⟨g_W, 5, none⟩ (.bool q.u)).setCell ⟨g_W, 6, none⟩ (.int .u64 (n64 q.k))).setCell ⟨g_W, 7, none⟩ (.int .u64 (n64 q.l))).setCell ⟨g_W, 8, none⟩ (.slice (some ⟨g_w2, 0, none⟩) q.rs.length c_w2)).setCell ⟨g_W, 9, none⟩ (.bool t)) (some g_W) := (grown_setR (grown_setR (grown_setR (grown_setR (grown_setR (grown_setR (grown_setR (grown_setR (grown_setR (grown_setR (World.grownBy.refl v7 (some g_W)) 0 (.int .i64 e)) 1 (.bool p.u)) 2 (.int .u64 (n64 p.k))) 3 (.int .u64 (n64 p.l))) 4 (.slice (some ⟨g_w1, 0, none⟩) p.rs.length c_w1)) 5 (.bool q.u)) 6 (.int .u64 (n64 q.k))) 7 (.int .u64 (n64 q.l))) 8 (.slice (some ⟨g_w2, 0, none⟩) q.rs.length c_w2)) 9 (.bool t))
      have B8 := Lib.hid (B7.out.trans (grown_below hgs l_W B7.out.size))
      have KK8 := Lib.hid (KK7.out.grown hgs (n_K_W))
      have KM8 := Lib.hid (KM7.out.grown hgs (n_M_W))
      have KW8 := Lib.hid (show Blk ((((((((((v7.setCell ⟨g_W, 0, none⟩ (.int .i64 e)).setCell ⟨g_W, 1, none⟩ (.bool p.u)).setCell ⟨g_W, 2, none⟩ (.int .u64 (n64 p.k))).setCell ⟨g_W, 3, none⟩ (.int .u64 (n64 p.l))).setCell ⟨g_W, 4, none⟩ (.slice (some ⟨g_w1, 0, none⟩) p.rs.length c_w1)).setCell ⟨g_W, 5, none⟩ (.bool q.u)).setCell ⟨g_W, 6, none⟩ (.int .u64 (n64 q.k))).setCell ⟨g_W, 7, none⟩ (.int .u64 (n64 q.l))).setCell ⟨g_W, 8, none⟩ (.slice (some ⟨g_w2, 0, none⟩) q.rs.length c_w2)).setCell ⟨g_W, 9, none⟩ (.bool t)) g_W [.int .i64 e, .bool p.u, .int .u64 (n64 p.k), .int .u64 (n64 p.l), .slice (some ⟨g_w1, 0, none⟩) p.rs.length c_w1, .bool q.u, .int .u64 (n64 q.k), .int .u64 (n64 q.l), .slice (some ⟨g_w2, 0, none⟩) q.rs.length c_w2, .bool t] from ((((((((((KW7.out.set 0 (.int .i64 e)).set 1 (.bool p.u)).set 2 (.int .u64 (n64 p.k))).set 3 (.int .u64 (n64 p.l))).set 4 (.slice (some ⟨g_w1, 0, none⟩) p.rs.length c_w1)).set 5 (.bool q.u)).set 6 (.int .u64 (n64 q.k))).set 7 (.int .u64 (n64 q.l))).set 8 (.slice (some ⟨g_w2, 0, none⟩) q.rs.length c_w2)).set 9 (.bool t)))
      have Ok18 := Lib.hid (Ok17.out.kept hgs (.inr (own_ne (fun e => n_W_k1 e.symm))))
      have Ok28 := Lib.hid (Ok27.out.kept hgs (.inr (own_ne (fun e => n_W_k2 e.symm))))
      have On8 := Lib.hid (On7.out.kept hgs (.inr (own_ne (fun e => n_W_n e.symm))))
      have Ow18 := Lib.hid (Ow17.out.kept hgs (.inr (own_ne (fun e => n_W_w1 e.symm))))
      have Ow28 := Lib.hid (Ow27.out.kept hgs (.inr (own_ne (fun e => n_W_w2 e.symm))))
      clear hgs
      refine hK.out _ _ ⟨KK8.out, KM8.out⟩ (fun hS => ?_)
      clear hK K
      clear B7 KK7 KM7 KW7 Ok17 Ok27 On7 Ow17 Ow27
      clear cW0 cW1 cW2 cW3 cW4 cW5 cW6 cW7 cW8 cW9 dW0 dW1 dW2 dW3 dW4 dW5 dW6 dW7 dW8 dW9
      generalize (((((((((v7.setCell ⟨g_W, 0, none⟩ (.int .i64 e)).setCell ⟨g_W, 1, none⟩ (.bool p.u)).setCell ⟨g_W, 2, none⟩ (.int .u64 (n64 p.k))).setCell ⟨g_W, 3, none⟩ (.int .u64 (n64 p.l))).setCell ⟨g_W, 4, none⟩ (.slice (some ⟨g_w1, 0, none⟩) p.rs.length c_w1)).setCell ⟨g_W, 5, none⟩ (.bool q.u)).setCell ⟨g_W, 6, none⟩ (.int .u64 (n64 q.k))).setCell ⟨g_W, 7, none⟩ (.int .u64 (n64 q.l))).setCell ⟨g_W, 8, none⟩ (.slice (some ⟨g_w2, 0, none⟩) q.rs.length c_w2)).setCell ⟨g_W, 9, none⟩ (.bool t) = v8 at hS B8 KK8 KM8 KW8 Ok18 Ok28 On8 Ow18 Ow28 ⊢
      refine wpAnyH_done (by kernel_rfl) ?_ _
      refine NoPanic.normal ?_
      go_wp2_with fail
      go_meet
      case rel => exact ⟨g_W, g_w1, g_w2, c_w1, c_w2, rfl, B8, KK8, KM8, KW8, Ow18, Ow28, ⟨n_K_W, n_K_w1, n_K_w2, n_M_W, n_M_w1, n_M_w2, n_W_w1, n_W_w2, n_w1_w2⟩, ⟨l_W, l_w1, l_w2⟩⟩
  case rest =>
    clear B2 KK2 KM2
    obtain ⟨g_W, g_w1, g_w2, c_w1, c_w2, rfl, B108, KK108, KM108, KW108, Ow1108, Ow2108, ⟨n_K_W, n_K_w1, n_K_w2, n_M_W, n_M_w1, n_M_w2, n_W_w1, n_W_w2, n_w1_w2⟩, ⟨l_W, l_w1, l_w2⟩⟩ := hcut
    generalize wc = wc_8 at B108 KK108 KM108 KW108 Ow1108 Ow2108 ⊢
    obtain ⟨⟨cK0, cK1, cK2, cK3, cK4, cK5, cK6, cK7, cK8, cK9⟩, dK0, dK1, dK2, dK3, dK4, dK5, dK6, dK7, dK8, dK9⟩ := KK108.out.of10
    obtain ⟨⟨cM0, cM1, cM2, cM3⟩, dM0, dM1, dM2, dM3⟩ := KM108.out.four
    obtain ⟨⟨cW0, cW1, cW2, cW3, cW4, cW5, cW6, cW7, cW8, cW9⟩, dW0, dW1, dW2, dW3, dW4, dW5, dW6, dW7, dW8, dW9⟩ := KW108.out.of10
    go_wp2_with fail
    clear cK0 cK1 cK2 cK3 cK4 cK5 cK6 cK7 cK8 cK9 dK0 dK1 dK2 dK3 dK4 dK5 dK6 dK7 dK8 dK9 cM0 cM1 cM2 cM3 dM0 dM1 dM2 dM3 cW0 cW1 cW2 cW3 cW4 cW5 cW6 cW7 cW8 cW9 dW0 dW1 dW2 dW3 dW4 dW5 dW6 dW7 dW8 dW9
    refine (toKeys_any e p q t _ ((HP.out.2.below B108.out).mono B108.out.size) ((HQ.out.2.below B108.out).mono B108.out.size) fp.out fq.out).mono ?_
    rintro e v109 ⟨g_x1, g_x2, n_x1_x2, rfl, ho_x1, ho_x2, hb⟩
    have n_K_x1 : g_K ≠ g_x1 := by have h1 := KK108.out.lt; have h2 := (ho_x1.lt g_x1 rfl).1; omega
    have n_M_x1 : g_M ≠ g_x1 := by have h1 := KM108.out.lt; have h2 := (ho_x1.lt g_x1 rfl).1; omega
    have n_W_x1 : g_W ≠ g_x1 := by have h1 := KW108.out.lt; have h2 := (ho_x1.lt g_x1 rfl).1; omega
    have n_w1_x1 : g_w1 ≠ g_x1 := by have h1 := (Ow1108.out.lt g_w1 rfl).2; have h2 := (ho_x1.lt g_x1 rfl).1; omega
    have n_w2_x1 : g_w2 ≠ g_x1 := by have h1 := (Ow2108.out.lt g_w2 rfl).2; have h2 := (ho_x1.lt g_x1 rfl).1; omega
    have l_x1 : w.heap.size ≤ g_x1 := Nat.le_trans B108.out.size (ho_x1.lt g_x1 rfl).1
    have n_K_x2 : g_K ≠ g_x2 := by have h1 := KK108.out.lt; have h2 := (ho_x2.lt g_x2 rfl).1; omega
    have n_M_x2 : g_M ≠ g_x2 := by have h1 := KM108.out.lt; have h2 := (ho_x2.lt g_x2 rfl).1; omega
    have n_W_x2 : g_W ≠ g_x2 := by have h1 := KW108.out.lt; have h2 := (ho_x2.lt g_x2 rfl).1; omega
    have n_w1_x2 : g_w1 ≠ g_x2 := by have h1 := (Ow1108.out.lt g_w1 rfl).2; have h2 := (ho_x2.lt g_x2 rfl).1; omega
    have n_w2_x2 : g_w2 ≠ g_x2 := by have h1 := (Ow2108.out.lt g_w2 rfl).2; have h2 := (ho_x2.lt g_x2 rfl).1; omega
    have l_x2 : w.heap.size ≤ g_x2 := Nat.le_trans B108.out.size (ho_x2.lt g_x2 rfl).1
    have B109 := Lib.hid (B108.out.trans (hb.mono B108.out.size))
    have KK109 := Lib.hid (KK108.out.below hb)
    have KM109 := Lib.hid (KM108.out.below hb)
    have KW109 := Lib.hid (KW108.out.below hb)
    have Ow1109 := Lib.hid (Ow1108.out.kept (below_any (row := none) hb) (.inr (by simp [Value.ownBlock])))
    have Ow2109 := Lib.hid (Ow2108.out.kept (below_any (row := none) hb) (.inr (by simp [Value.ownBlock])))
    have Ox1109 := Lib.hid (own_down ho_x1 (Nat.zero_le _))
    have Ox2109 := Lib.hid (own_down ho_x2 (Nat.zero_le _))
    clear hb B108 KK108 KM108 KW108 Ow1108 Ow2108 ho_x1 ho_x2
    have KXn := Lib.hid (Blk.new v109 [.int .i64 e, .bool p.u, .int .u64 (n64 p.k), .int .u64 (n64 p.l), .slice (some ⟨g_x1, 0, none⟩) p.rs.length p.rs.length, .bool q.u, .int .u64 (n64 q.k), .int .u64 (n64 q.l), .slice (some ⟨g_x2, 0, none⟩) q.rs.length q.rs.length, .bool t] 29)
    have n_K_X : g_K ≠ v109.heap.size := by have h1 := KK109.out.lt; omega
    have n_M_X : g_M ≠ v109.heap.size := by have h1 := KM109.out.lt; omega
    have n_W_X : g_W ≠ v109.heap.size := by have h1 := KW109.out.lt; omega
    have n_w1_X : g_w1 ≠ v109.heap.size := by have h1 := (Ow1109.out.lt g_w1 rfl).2; omega
    have n_w2_X : g_w2 ≠ v109.heap.size := by have h1 := (Ow2109.out.lt g_w2 rfl).2; omega
    have n_x1_X : g_x1 ≠ v109.heap.size := by have h1 := (Ox1109.out.lt g_x1 rfl).2; omega
    have n_x2_X : g_x2 ≠ v109.heap.size := by have h1 := (Ox2109.out.lt g_x2 rfl).2; omega
    have Bn := Lib.hid (B109.out.alloc B109.out.size (.cells #[.int .i64 e, .bool p.u, .int .u64 (n64 p.k), .int .u64 (n64 p.l), .slice (some ⟨g_x1, 0, none⟩) p.rs.length p.rs.length, .bool q.u, .int .u64 (n64 q.k), .int .u64 (n64 q.l), .slice (some ⟨g_x2, 0, none⟩) q.rs.length q.rs.length, .bool t] 29))
    have KKn := Lib.hid (KK109.out.alloc (.cells #[.int .i64 e, .bool p.u, .int .u64 (n64 p.k), .int .u64 (n64 p.l), .slice (some ⟨g_x1, 0, none⟩) p.rs.length p.rs.length, .bool q.u, .int .u64 (n64 q.k), .int .u64 (n64 q.l), .slice (some ⟨g_x2, 0, none⟩) q.rs.length q.rs.length, .bool t] 29))
    have KMn := Lib.hid (KM109.out.alloc (.cells #[.int .i64 e, .bool p.u, .int .u64 (n64 p.k), .int .u64 (n64 p.l), .slice (some ⟨g_x1, 0, none⟩) p.rs.length p.rs.length, .bool q.u, .int .u64 (n64 q.k), .int .u64 (n64 q.l), .slice (some ⟨g_x2, 0, none⟩) q.rs.length q.rs.length, .bool t] 29))
    have KWn := Lib.hid (KW109.out.alloc (.cells #[.int .i64 e, .bool p.u, .int .u64 (n64 p.k), .int .u64 (n64 p.l), .slice (some ⟨g_x1, 0, none⟩) p.rs.length p.rs.length, .bool q.u, .int .u64 (n64 q.k), .int .u64 (n64 q.l), .slice (some ⟨g_x2, 0, none⟩) q.rs.length q.rs.length, .bool t] 29))
    have Ow1n := Lib.hid (Ow1109.out.alloc (.cells #[.int .i64 e, .bool p.u, .int .u64 (n64 p.k), .int .u64 (n64 p.l), .slice (some ⟨g_x1, 0, none⟩) p.rs.length p.rs.length, .bool q.u, .int .u64 (n64 q.k), .int .u64 (n64 q.l), .slice (some ⟨g_x2, 0, none⟩) q.rs.length q.rs.length, .bool t] 29))
    have Ow2n := Lib.hid (Ow2109.out.alloc (.cells #[.int .i64 e, .bool p.u, .int .u64 (n64 p.k), .int .u64 (n64 p.l), .slice (some ⟨g_x1, 0, none⟩) p.rs.length p.rs.length, .bool q.u, .int .u64 (n64 q.k), .int .u64 (n64 q.l), .slice (some ⟨g_x2, 0, none⟩) q.rs.length q.rs.length, .bool t] 29))
    have Ox1n := Lib.hid (Ox1109.out.alloc (.cells #[.int .i64 e, .bool p.u, .int .u64 (n64 p.k), .int .u64 (n64 p.l), .slice (some ⟨g_x1, 0, none⟩) p.rs.length p.rs.length, .bool q.u, .int .u64 (n64 q.k), .int .u64 (n64 q.l), .slice (some ⟨g_x2, 0, none⟩) q.rs.length q.rs.length, .bool t] 29))
    have Ox2n := Lib.hid (Ox2109.out.alloc (.cells #[.int .i64 e, .bool p.u, .int .u64 (n64 p.k), .int .u64 (n64 p.l), .slice (some ⟨g_x1, 0, none⟩) p.rs.length p.rs.length, .bool q.u, .int .u64 (n64 q.k), .int .u64 (n64 q.l), .slice (some ⟨g_x2, 0, none⟩) q.rs.length q.rs.length, .bool t] 29))
    clear B109 KK109 KM109 KW109 Ow1109 Ow2109 Ox1109 Ox2109
    obtain ⟨⟨cK0, cK1, cK2, cK3, cK4, cK5, cK6, cK7, cK8, cK9⟩, dK0, dK1, dK2, dK3, dK4, dK5, dK6, dK7, dK8, dK9⟩ := KKn.out.of10
    obtain ⟨⟨cM0, cM1, cM2, cM3⟩, dM0, dM1, dM2, dM3⟩ := KMn.out.four
    obtain ⟨⟨cW0, cW1, cW2, cW3, cW4, cW5, cW6, cW7, cW8, cW9⟩, dW0, dW1, dW2, dW3, dW4, dW5, dW6, dW7, dW8, dW9⟩ := KWn.out.of10
    go_wp2_with fail
    clear cK0 cK1 cK2 cK3 cK4 cK5 cK6 cK7 cK8 cK9 dK0 dK1 dK2 dK3 dK4 dK5 dK6 dK7 dK8 dK9 cM0 cM1 cM2 cM3 dM0 dM1 dM2 dM3 cW0 cW1 cW2 cW3 cW4 cW5 cW6 cW7 cW8 cW9 dW0 dW1 dW2 dW3 dW4 dW5 dW6 dW7 dW8 dW9
    change Calls _ _ _ (v109.alloc (.cells #[.int .i64 e, .bool p.u, .int .u64 (n64 p.k), .int .u64 (n64 p.l), .slice (some ⟨g_x1, 0, none⟩) p.rs.length p.rs.length, .bool q.u, .int .u64 (n64 q.k), .int .u64 (n64 q.l), .slice (some ⟨g_x2, 0, none⟩) q.rs.length q.rs.length, .bool t] 29)) _
    generalize v109.alloc (.cells #[.int .i64 e, .bool p.u, .int .u64 (n64 p.k), .int .u64 (n64 p.l), .slice (some ⟨g_x1, 0, none⟩) p.rs.length p.rs.length, .bool q.u, .int .u64 (n64 q.k), .int .u64 (n64 q.l), .slice (some ⟨g_x2, 0, none⟩) q.rs.length q.rs.length, .bool t] 29) = v110 at KXn Bn KKn KMn KWn Ow1n Ow2n Ox1n Ox2n ⊢
    generalize v109.heap.size = g_X at KXn n_K_X n_M_X n_W_X n_w1_X n_w2_X n_x1_X n_x2_X ⊢
    clear v109
    have KK110 := KKn
    clear KKn
    have KM110 := KMn
    clear KMn
    have KW110 := KWn
    clear KWn
    have KX110 := KXn
    clear KXn
    have Ow1110 := Ow1n
    clear Ow1n
    have Ow2110 := Ow2n
    clear Ow2n
    have Ox1110 := Ox1n
    clear Ox1n
    have Ox2110 := Ox2n
    clear Ox2n
    have B110 := Bn
    clear Bn
    refine (toMac_any m.u (n64 m.k) (n64 m.l) m.a m.c m.rs _ ((HM.out.2.below B110.out).mono B110.out.size) fm.out).mono ?_
    rintro e v111 ⟨g_y, rfl, ho_y, hb⟩
    have n_K_y : g_K ≠ g_y := by have h1 := KK110.out.lt; have h2 := (ho_y.lt g_y rfl).1; omega
    have n_M_y : g_M ≠ g_y := by have h1 := KM110.out.lt; have h2 := (ho_y.lt g_y rfl).1; omega
    have n_W_y : g_W ≠ g_y := by have h1 := KW110.out.lt; have h2 := (ho_y.lt g_y rfl).1; omega
    have n_X_y : g_X ≠ g_y := by have h1 := KX110.out.lt; have h2 := (ho_y.lt g_y rfl).1; omega
    have n_w1_y : g_w1 ≠ g_y := by have h1 := (Ow1110.out.lt g_w1 rfl).2; have h2 := (ho_y.lt g_y rfl).1; omega
    have n_w2_y : g_w2 ≠ g_y := by have h1 := (Ow2110.out.lt g_w2 rfl).2; have h2 := (ho_y.lt g_y rfl).1; omega
    have n_x1_y : g_x1 ≠ g_y := by have h1 := (Ox1110.out.lt g_x1 rfl).2; have h2 := (ho_y.lt g_y rfl).1; omega
    have n_x2_y : g_x2 ≠ g_y := by have h1 := (Ox2110.out.lt g_x2 rfl).2; have h2 := (ho_y.lt g_y rfl).1; omega
    have l_y : w.heap.size ≤ g_y := Nat.le_trans B110.out.size (ho_y.lt g_y rfl).1
    have B111 := Lib.hid (B110.out.trans (hb.mono B110.out.size))
    have KK111 := Lib.hid (KK110.out.below hb)
    have KM111 := Lib.hid (KM110.out.below hb)
    have KW111 := Lib.hid (KW110.out.below hb)
    have KX111 := Lib.hid (KX110.out.below hb)
    have Ow1111 := Lib.hid (Ow1110.out.kept (below_any (row := none) hb) (.inr (by simp [Value.ownBlock])))
    have Ow2111 := Lib.hid (Ow2110.out.kept (below_any (row := none) hb) (.inr (by simp [Value.ownBlock])))
    have Ox1111 := Lib.hid (Ox1110.out.kept (below_any (row := none) hb) (.inr (by simp [Value.ownBlock])))
    have Ox2111 := Lib.hid (Ox2110.out.kept (below_any (row := none) hb) (.inr (by simp [Value.ownBlock])))
    have Oy111 := Lib.hid (own_down ho_y (Nat.zero_le _))
    clear hb B110 KK110 KM110 KW110 KX110 Ow1110 Ow2110 Ox1110 Ox2110 ho_y
    have KYn := Lib.hid (Blk.new v111 [.bool m.u, .int .u64 (n64 m.k), .int .u64 (n64 m.l), .slice (some ⟨g_y, 0, none⟩) m.rs.length m.rs.length] 27)
    have n_K_Y : g_K ≠ v111.heap.size := by have h1 := KK111.out.lt; omega
    have n_M_Y : g_M ≠ v111.heap.size := by have h1 := KM111.out.lt; omega
    have n_W_Y : g_W ≠ v111.heap.size := by have h1 := KW111.out.lt; omega
    have n_X_Y : g_X ≠ v111.heap.size := by have h1 := KX111.out.lt; omega
    have n_w1_Y : g_w1 ≠ v111.heap.size := by have h1 := (Ow1111.out.lt g_w1 rfl).2; omega
    have n_w2_Y : g_w2 ≠ v111.heap.size := by have h1 := (Ow2111.out.lt g_w2 rfl).2; omega
    have n_x1_Y : g_x1 ≠ v111.heap.size := by have h1 := (Ox1111.out.lt g_x1 rfl).2; omega
    have n_x2_Y : g_x2 ≠ v111.heap.size := by have h1 := (Ox2111.out.lt g_x2 rfl).2; omega
    have n_y_Y : g_y ≠ v111.heap.size := by have h1 := (Oy111.out.lt g_y rfl).2; omega
    have Bn := Lib.hid (B111.out.alloc B111.out.size (.cells #[.bool m.u, .int .u64 (n64 m.k), .int .u64 (n64 m.l), .slice (some ⟨g_y, 0, none⟩) m.rs.length m.rs.length] 27))
    have KKn := Lib.hid (KK111.out.alloc (.cells #[.bool m.u, .int .u64 (n64 m.k), .int .u64 (n64 m.l), .slice (some ⟨g_y, 0, none⟩) m.rs.length m.rs.length] 27))
    have KMn := Lib.hid (KM111.out.alloc (.cells #[.bool m.u, .int .u64 (n64 m.k), .int .u64 (n64 m.l), .slice (some ⟨g_y, 0, none⟩) m.rs.length m.rs.length] 27))
    have KWn := Lib.hid (KW111.out.alloc (.cells #[.bool m.u, .int .u64 (n64 m.k), .int .u64 (n64 m.l), .slice (some ⟨g_y, 0, none⟩) m.rs.length m.rs.length] 27))
    have KXn := Lib.hid (KX111.out.alloc (.cells #[.bool m.u, .int .u64 (n64 m.k), .int .u64 (n64 m.l), .slice (some ⟨g_y, 0, none⟩) m.rs.length m.rs.length] 27))
    have Ow1n := Lib.hid (Ow1111.out.alloc (.cells #[.bool m.u, .int .u64 (n64 m.k), .int .u64 (n64 m.l), .slice (some ⟨g_y, 0, none⟩) m.rs.length m.rs.length] 27))
    have Ow2n := Lib.hid (Ow2111.out.alloc (.cells #[.bool m.u, .int .u64 (n64 m.k), .int .u64 (n64 m.l), .slice (some ⟨g_y, 0, none⟩) m.rs.length m.rs.length] 27))
    have Ox1n := Lib.hid (Ox1111.out.alloc (.cells #[.bool m.u, .int .u64 (n64 m.k), .int .u64 (n64 m.l), .slice (some ⟨g_y, 0, none⟩) m.rs.length m.rs.length] 27))
    have Ox2n := Lib.hid (Ox2111.out.alloc (.cells #[.bool m.u, .int .u64 (n64 m.k), .int .u64 (n64 m.l), .slice (some ⟨g_y, 0, none⟩) m.rs.length m.rs.length] 27))
    have Oyn := Lib.hid (Oy111.out.alloc (.cells #[.bool m.u, .int .u64 (n64 m.k), .int .u64 (n64 m.l), .slice (some ⟨g_y, 0, none⟩) m.rs.length m.rs.length] 27))
    clear B111 KK111 KM111 KW111 KX111 Ow1111 Ow2111 Ox1111 Ox2111 Oy111
    obtain ⟨⟨cK0, cK1, cK2, cK3, cK4, cK5, cK6, cK7, cK8, cK9⟩, dK0, dK1, dK2, dK3, dK4, dK5, dK6, dK7, dK8, dK9⟩ := KKn.out.of10
    obtain ⟨⟨cM0, cM1, cM2, cM3⟩, dM0, dM1, dM2, dM3⟩ := KMn.out.four
    obtain ⟨⟨cW0, cW1, cW2, cW3, cW4, cW5, cW6, cW7, cW8, cW9⟩, dW0, dW1, dW2, dW3, dW4, dW5, dW6, dW7, dW8, dW9⟩ := KWn.out.of10
    obtain ⟨⟨cX0, cX1, cX2, cX3, cX4, cX5, cX6, cX7, cX8, cX9⟩, dX0, dX1, dX2, dX3, dX4, dX5, dX6, dX7, dX8, dX9⟩ := KXn.out.of10
    go_wp2_with fail
    clear cK0 cK1 cK2 cK3 cK4 cK5 cK6 cK7 cK8 cK9 dK0 dK1 dK2 dK3 dK4 dK5 dK6 dK7 dK8 dK9 cM0 cM1 cM2 cM3 dM0 dM1 dM2 dM3 cW0 cW1 cW2 cW3 cW4 cW5 cW6 cW7 cW8 cW9 dW0 dW1 dW2 dW3 dW4 dW5 dW6 dW7 dW8 dW9 cX0 cX1 cX2 cX3 cX4 cX5 cX6 cX7 cX8 cX9 dX0 dX1 dX2 dX3 dX4 dX5 dX6 dX7 dX8 dX9
    change Calls _ _ _ (v111.alloc (.cells #[.bool m.u, .int .u64 (n64 m.k), .int .u64 (n64 m.l), .slice (some ⟨g_y, 0, none⟩) m.rs.length m.rs.length] 27)) _
    generalize v111.alloc (.cells #[.bool m.u, .int .u64 (n64 m.k), .int .u64 (n64 m.l), .slice (some ⟨g_y, 0, none⟩) m.rs.length m.rs.length] 27) = v112 at KYn Bn KKn KMn KWn KXn Ow1n Ow2n Ox1n Ox2n Oyn ⊢
    generalize v111.heap.size = g_Y at KYn n_K_Y n_M_Y n_W_Y n_X_Y n_w1_Y n_w2_Y n_x1_Y n_x2_Y n_y_Y ⊢
    clear v111
    have KK112 := KKn
    clear KKn
    have KM112 := KMn
    clear KMn
    have KW112 := KWn
    clear KWn
    have KX112 := KXn
    clear KXn
    have KY112 := KYn
    clear KYn
    have Ow1112 := Ow1n
    clear Ow1n
    have Ow2112 := Ow2n
    clear Ow2n
    have Ox1112 := Ox1n
    clear Ox1n
    have Ox2112 := Ox2n
    clear Ox2n
    have Oy112 := Oyn
    clear Oyn
    have B112 := Bn
    clear Bn
    refine (C2.out g_x1 g_x2 g_y p.rs.length q.rs.length m.rs.length _ (M.on_at Ox1112.out) (M.on_at Ox2112.out) (M.on_at Oy112.out) Fp.out Fq.out Fm.out).mono ?_
    rintro e v113 ⟨g_g1, g_g2, c_g1, c_g2, n_g1_g2, rfl, ho_g1, ho_g2, hb⟩
    have n_K_g1 : g_K ≠ g_g1 := by have h1 := KK112.out.lt; have h2 := (ho_g1.lt g_g1 rfl).1; omega
    have n_M_g1 : g_M ≠ g_g1 := by have h1 := KM112.out.lt; have h2 := (ho_g1.lt g_g1 rfl).1; omega
    have n_W_g1 : g_W ≠ g_g1 := by have h1 := KW112.out.lt; have h2 := (ho_g1.lt g_g1 rfl).1; omega
    have n_X_g1 : g_X ≠ g_g1 := by have h1 := KX112.out.lt; have h2 := (ho_g1.lt g_g1 rfl).1; omega
    have n_Y_g1 : g_Y ≠ g_g1 := by have h1 := KY112.out.lt; have h2 := (ho_g1.lt g_g1 rfl).1; omega
    have n_w1_g1 : g_w1 ≠ g_g1 := by have h1 := (Ow1112.out.lt g_w1 rfl).2; have h2 := (ho_g1.lt g_g1 rfl).1; omega
    have n_w2_g1 : g_w2 ≠ g_g1 := by have h1 := (Ow2112.out.lt g_w2 rfl).2; have h2 := (ho_g1.lt g_g1 rfl).1; omega
    have n_x1_g1 : g_x1 ≠ g_g1 := by have h1 := (Ox1112.out.lt g_x1 rfl).2; have h2 := (ho_g1.lt g_g1 rfl).1; omega
    have n_x2_g1 : g_x2 ≠ g_g1 := by have h1 := (Ox2112.out.lt g_x2 rfl).2; have h2 := (ho_g1.lt g_g1 rfl).1; omega
    have n_y_g1 : g_y ≠ g_g1 := by have h1 := (Oy112.out.lt g_y rfl).2; have h2 := (ho_g1.lt g_g1 rfl).1; omega
    have l_g1 : w.heap.size ≤ g_g1 := Nat.le_trans B112.out.size (ho_g1.lt g_g1 rfl).1
    have n_K_g2 : g_K ≠ g_g2 := by have h1 := KK112.out.lt; have h2 := (ho_g2.lt g_g2 rfl).1; omega
    have n_M_g2 : g_M ≠ g_g2 := by have h1 := KM112.out.lt; have h2 := (ho_g2.lt g_g2 rfl).1; omega
    have n_W_g2 : g_W ≠ g_g2 := by have h1 := KW112.out.lt; have h2 := (ho_g2.lt g_g2 rfl).1; omega
    have n_X_g2 : g_X ≠ g_g2 := by have h1 := KX112.out.lt; have h2 := (ho_g2.lt g_g2 rfl).1; omega
    have n_Y_g2 : g_Y ≠ g_g2 := by have h1 := KY112.out.lt; have h2 := (ho_g2.lt g_g2 rfl).1; omega
    have n_w1_g2 : g_w1 ≠ g_g2 := by have h1 := (Ow1112.out.lt g_w1 rfl).2; have h2 := (ho_g2.lt g_g2 rfl).1; omega
    have n_w2_g2 : g_w2 ≠ g_g2 := by have h1 := (Ow2112.out.lt g_w2 rfl).2; have h2 := (ho_g2.lt g_g2 rfl).1; omega
    have n_x1_g2 : g_x1 ≠ g_g2 := by have h1 := (Ox1112.out.lt g_x1 rfl).2; have h2 := (ho_g2.lt g_g2 rfl).1; omega
    have n_x2_g2 : g_x2 ≠ g_g2 := by have h1 := (Ox2112.out.lt g_x2 rfl).2; have h2 := (ho_g2.lt g_g2 rfl).1; omega
    have n_y_g2 : g_y ≠ g_g2 := by have h1 := (Oy112.out.lt g_y rfl).2; have h2 := (ho_g2.lt g_g2 rfl).1; omega
    have l_g2 : w.heap.size ≤ g_g2 := Nat.le_trans B112.out.size (ho_g2.lt g_g2 rfl).1
    have B113 := Lib.hid (B112.out.trans (hb.mono B112.out.size))
    have KK113 := Lib.hid (KK112.out.below hb)
    have KM113 := Lib.hid (KM112.out.below hb)
    have KW113 := Lib.hid (KW112.out.below hb)
    have KX113 := Lib.hid (KX112.out.below hb)
    have KY113 := Lib.hid (KY112.out.below hb)
    have Ow1113 := Lib.hid (Ow1112.out.kept (below_any (row := none) hb) (.inr (by simp [Value.ownBlock])))
    have Ow2113 := Lib.hid (Ow2112.out.kept (below_any (row := none) hb) (.inr (by simp [Value.ownBlock])))
    have Ox1113 := Lib.hid (Ox1112.out.kept (below_any (row := none) hb) (.inr (by simp [Value.ownBlock])))
    have Ox2113 := Lib.hid (Ox2112.out.kept (below_any (row := none) hb) (.inr (by simp [Value.ownBlock])))
    have Oy113 := Lib.hid (Oy112.out.kept (below_any (row := none) hb) (.inr (by simp [Value.ownBlock])))
    have Og1113 := Lib.hid (own_down ho_g1 (Nat.zero_le _))
    have Og2113 := Lib.hid (own_down ho_g2 (Nat.zero_le _))
    clear hb B112 KK112 KM112 KW112 KX112 KY112 Ow1112 Ow2112 Ox1112 Ox2112 Oy112 ho_g1 ho_g2
    have KGn := Lib.hid (Blk.new v113 [.int .i64 e, .bool p.u, .int .u64 (n64 p.k), .int .u64 (n64 p.l), .slice (some ⟨g_g1, 0, none⟩) p.rs.length c_g1, .bool q.u, .int .u64 (n64 q.k), .int .u64 (n64 q.l), .slice (some ⟨g_g2, 0, none⟩) q.rs.length c_g2, .bool t] 29)
    have n_K_G : g_K ≠ v113.heap.size := by have h1 := KK113.out.lt; omega
    have n_M_G : g_M ≠ v113.heap.size := by have h1 := KM113.out.lt; omega
    have n_W_G : g_W ≠ v113.heap.size := by have h1 := KW113.out.lt; omega
    have n_X_G : g_X ≠ v113.heap.size := by have h1 := KX113.out.lt; omega
    have n_Y_G : g_Y ≠ v113.heap.size := by have h1 := KY113.out.lt; omega
    have n_w1_G : g_w1 ≠ v113.heap.size := by have h1 := (Ow1113.out.lt g_w1 rfl).2; omega
    have n_w2_G : g_w2 ≠ v113.heap.size := by have h1 := (Ow2113.out.lt g_w2 rfl).2; omega
    have n_x1_G : g_x1 ≠ v113.heap.size := by have h1 := (Ox1113.out.lt g_x1 rfl).2; omega
    have n_x2_G : g_x2 ≠ v113.heap.size := by have h1 := (Ox2113.out.lt g_x2 rfl).2; omega
    have n_y_G : g_y ≠ v113.heap.size := by have h1 := (Oy113.out.lt g_y rfl).2; omega
    have n_g1_G : g_g1 ≠ v113.heap.size := by have h1 := (Og1113.out.lt g_g1 rfl).2; omega
    have n_g2_G : g_g2 ≠ v113.heap.size := by have h1 := (Og2113.out.lt g_g2 rfl).2; omega
    have Bn := Lib.hid (B113.out.alloc B113.out.size (.cells #[.int .i64 e, .bool p.u, .int .u64 (n64 p.k), .int .u64 (n64 p.l), .slice (some ⟨g_g1, 0, none⟩) p.rs.length c_g1, .bool q.u, .int .u64 (n64 q.k), .int .u64 (n64 q.l), .slice (some ⟨g_g2, 0, none⟩) q.rs.length c_g2, .bool t] 29))
    have KKn := Lib.hid (KK113.out.alloc (.cells #[.int .i64 e, .bool p.u, .int .u64 (n64 p.k), .int .u64 (n64 p.l), .slice (some ⟨g_g1, 0, none⟩) p.rs.length c_g1, .bool q.u, .int .u64 (n64 q.k), .int .u64 (n64 q.l), .slice (some ⟨g_g2, 0, none⟩) q.rs.length c_g2, .bool t] 29))
    have KMn := Lib.hid (KM113.out.alloc (.cells #[.int .i64 e, .bool p.u, .int .u64 (n64 p.k), .int .u64 (n64 p.l), .slice (some ⟨g_g1, 0, none⟩) p.rs.length c_g1, .bool q.u, .int .u64 (n64 q.k), .int .u64 (n64 q.l), .slice (some ⟨g_g2, 0, none⟩) q.rs.length c_g2, .bool t] 29))
    have KWn := Lib.hid (KW113.out.alloc (.cells #[.int .i64 e, .bool p.u, .int .u64 (n64 p.k), .int .u64 (n64 p.l), .slice (some ⟨g_g1, 0, none⟩) p.rs.length c_g1, .bool q.u, .int .u64 (n64 q.k), .int .u64 (n64 q.l), .slice (some ⟨g_g2, 0, none⟩) q.rs.length c_g2, .bool t] 29))
    have KXn := Lib.hid (KX113.out.alloc (.cells #[.int .i64 e, .bool p.u, .int .u64 (n64 p.k), .int .u64 (n64 p.l), .slice (some ⟨g_g1, 0, none⟩) p.rs.length c_g1, .bool q.u, .int .u64 (n64 q.k), .int .u64 (n64 q.l), .slice (some ⟨g_g2, 0, none⟩) q.rs.length c_g2, .bool t] 29))
    have KYn := Lib.hid (KY113.out.alloc (.cells #[.int .i64 e, .bool p.u, .int .u64 (n64 p.k), .int .u64 (n64 p.l), .slice (some ⟨g_g1, 0, none⟩) p.rs.length c_g1, .bool q.u, .int .u64 (n64 q.k), .int .u64 (n64 q.l), .slice (some ⟨g_g2, 0, none⟩) q.rs.length c_g2, .bool t] 29))
    have Ow1n := Lib.hid (Ow1113.out.alloc (.cells #[.int .i64 e, .bool p.u, .int .u64 (n64 p.k), .int .u64 (n64 p.l), .slice (some ⟨g_g1, 0, none⟩) p.rs.length c_g1, .bool q.u, .int .u64 (n64 q.k), .int .u64 (n64 q.l), .slice (some ⟨g_g2, 0, none⟩) q.rs.length c_g2, .bool t] 29))
    have Ow2n := Lib.hid (Ow2113.out.alloc (.cells #[.int .i64 e, .bool p.u, .int .u64 (n64 p.k), .int .u64 (n64 p.l), .slice (some ⟨g_g1, 0, none⟩) p.rs.length c_g1, .bool q.u, .int .u64 (n64 q.k), .int .u64 (n64 q.l), .slice (some ⟨g_g2, 0, none⟩) q.rs.length c_g2, .bool t] 29))
    have Ox1n := Lib.hid (Ox1113.out.alloc (.cells #[.int .i64 e, .bool p.u, .int .u64 (n64 p.k), .int .u64 (n64 p.l), .slice (some ⟨g_g1, 0, none⟩) p.rs.length c_g1, .bool q.u, .int .u64 (n64 q.k), .int .u64 (n64 q.l), .slice (some ⟨g_g2, 0, none⟩) q.rs.length c_g2, .bool t] 29))
    have Ox2n := Lib.hid (Ox2113.out.alloc (.cells #[.int .i64 e, .bool p.u, .int .u64 (n64 p.k), .int .u64 (n64 p.l), .slice (some ⟨g_g1, 0, none⟩) p.rs.length c_g1, .bool q.u, .int .u64 (n64 q.k), .int .u64 (n64 q.l), .slice (some ⟨g_g2, 0, none⟩) q.rs.length c_g2, .bool t] 29))
    have Oyn := Lib.hid (Oy113.out.alloc (.cells #[.int .i64 e, .bool p.u, .int .u64 (n64 p.k), .int .u64 (n64 p.l), .slice (some ⟨g_g1, 0, none⟩) p.rs.length c_g1, .bool q.u, .int .u64 (n64 q.k), .int .u64 (n64 q.l), .slice (some ⟨g_g2, 0, none⟩) q.rs.length c_g2, .bool t] 29))
    have Og1n := Lib.hid (Og1113.out.alloc (.cells #[.int .i64 e, .bool p.u, .int .u64 (n64 p.k), .int .u64 (n64 p.l), .slice (some ⟨g_g1, 0, none⟩) p.rs.length c_g1, .bool q.u, .int .u64 (n64 q.k), .int .u64 (n64 q.l), .slice (some ⟨g_g2, 0, none⟩) q.rs.length c_g2, .bool t] 29))
    have Og2n := Lib.hid (Og2113.out.alloc (.cells #[.int .i64 e, .bool p.u, .int .u64 (n64 p.k), .int .u64 (n64 p.l), .slice (some ⟨g_g1, 0, none⟩) p.rs.length c_g1, .bool q.u, .int .u64 (n64 q.k), .int .u64 (n64 q.l), .slice (some ⟨g_g2, 0, none⟩) q.rs.length c_g2, .bool t] 29))
    clear B113 KK113 KM113 KW113 KX113 KY113 Ow1113 Ow2113 Ox1113 Ox2113 Oy113 Og1113 Og2113
    obtain ⟨⟨cK0, cK1, cK2, cK3, cK4, cK5, cK6, cK7, cK8, cK9⟩, dK0, dK1, dK2, dK3, dK4, dK5, dK6, dK7, dK8, dK9⟩ := KKn.out.of10
    obtain ⟨⟨cM0, cM1, cM2, cM3⟩, dM0, dM1, dM2, dM3⟩ := KMn.out.four
    obtain ⟨⟨cW0, cW1, cW2, cW3, cW4, cW5, cW6, cW7, cW8, cW9⟩, dW0, dW1, dW2, dW3, dW4, dW5, dW6, dW7, dW8, dW9⟩ := KWn.out.of10
    obtain ⟨⟨cX0, cX1, cX2, cX3, cX4, cX5, cX6, cX7, cX8, cX9⟩, dX0, dX1, dX2, dX3, dX4, dX5, dX6, dX7, dX8, dX9⟩ := KXn.out.of10
    obtain ⟨⟨cY0, cY1, cY2, cY3⟩, dY0, dY1, dY2, dY3⟩ := KYn.out.four
    go_wp2_with fail
    clear cK0 cK1 cK2 cK3 cK4 cK5 cK6 cK7 cK8 cK9 dK0 dK1 dK2 dK3 dK4 dK5 dK6 dK7 dK8 dK9 cM0 cM1 cM2 cM3 dM0 dM1 dM2 dM3 cW0 cW1 cW2 cW3 cW4 cW5 cW6 cW7 cW8 cW9 dW0 dW1 dW2 dW3 dW4 dW5 dW6 dW7 dW8 dW9 cX0 cX1 cX2 cX3 cX4 cX5 cX6 cX7 cX8 cX9 dX0 dX1 dX2 dX3 dX4 dX5 dX6 dX7 dX8 dX9 cY0 cY1 cY2 cY3 dY0 dY1 dY2 dY3
    change Calls _ _ _ (v113.alloc (.cells #[.int .i64 e, .bool p.u, .int .u64 (n64 p.k), .int .u64 (n64 p.l), .slice (some ⟨g_g1, 0, none⟩) p.rs.length c_g1, .bool q.u, .int .u64 (n64 q.k), .int .u64 (n64 q.l), .slice (some ⟨g_g2, 0, none⟩) q.rs.length c_g2, .bool t] 29)) _
    generalize v113.alloc (.cells #[.int .i64 e, .bool p.u, .int .u64 (n64 p.k), .int .u64 (n64 p.l), .slice (some ⟨g_g1, 0, none⟩) p.rs.length c_g1, .bool q.u, .int .u64 (n64 q.k), .int .u64 (n64 q.l), .slice (some ⟨g_g2, 0, none⟩) q.rs.length c_g2, .bool t] 29) = v114 at KGn Bn KKn KMn KWn KXn KYn Ow1n Ow2n Ox1n Ox2n Oyn Og1n Og2n ⊢
    generalize v113.heap.size = g_G at KGn n_K_G n_M_G n_W_G n_X_G n_Y_G n_w1_G n_w2_G n_x1_G n_x2_G n_y_G n_g1_G n_g2_G ⊢
    clear v113
    have KK114 := KKn
    clear KKn
    have KM114 := KMn
    clear KMn
    have KW114 := KWn
    clear KWn
    have KX114 := KXn
    clear KXn
    have KY114 := KYn
    clear KYn
    have KG114 := KGn
    clear KGn
    have Ow1114 := Ow1n
    clear Ow1n
    have Ow2114 := Ow2n
    clear Ow2n
    have Ox1114 := Ox1n
    clear Ox1n
    have Ox2114 := Ox2n
    clear Ox2n
    have Oy114 := Oyn
    clear Oyn
    have Og1114 := Og1n
    clear Og1n
    have Og2114 := Og2n
    clear Og2n
    have B114 := Bn
    clear Bn
    refine (eqKeys_self e p q t (some ⟨g_g1, 0, none⟩) (some ⟨g_g2, 0, none⟩) (some ⟨g_w1, 0, none⟩) (some ⟨g_w2, 0, none⟩) c_g1 c_g2 c_w1 c_w2 _ (Row.ownK Og1114.out) (Row.ownK Og2114.out) (Row.ownK Ow1114.out) (Row.ownK Ow2114.out) fp.out fq.out).mono ?_
    rintro e v115 ⟨rfl, hb⟩
    have B115 := Lib.hid (B114.out.trans (hb.mono B114.out.size))
    have KK115 := Lib.hid (KK114.out.below hb)
    have KM115 := Lib.hid (KM114.out.below hb)
    have KW115 := Lib.hid (KW114.out.below hb)
    have KX115 := Lib.hid (KX114.out.below hb)
    have KY115 := Lib.hid (KY114.out.below hb)
    have KG115 := Lib.hid (KG114.out.below hb)
    have Ow1115 := Lib.hid (Ow1114.out.kept (below_any (row := none) hb) (.inr (by simp [Value.ownBlock])))
    have Ow2115 := Lib.hid (Ow2114.out.kept (below_any (row := none) hb) (.inr (by simp [Value.ownBlock])))
    have Ox1115 := Lib.hid (Ox1114.out.kept (below_any (row := none) hb) (.inr (by simp [Value.ownBlock])))
    have Ox2115 := Lib.hid (Ox2114.out.kept (below_any (row := none) hb) (.inr (by simp [Value.ownBlock])))
    have Oy115 := Lib.hid (Oy114.out.kept (below_any (row := none) hb) (.inr (by simp [Value.ownBlock])))
    have Og1115 := Lib.hid (Og1114.out.kept (below_any (row := none) hb) (.inr (by simp [Value.ownBlock])))
    have Og2115 := Lib.hid (Og2114.out.kept (below_any (row := none) hb) (.inr (by simp [Value.ownBlock])))
    clear hb B114 KK114 KM114 KW114 KX114 KY114 KG114 Ow1114 Ow2114 Ox1114 Ox2114 Oy114 Og1114 Og2114
    obtain ⟨⟨cK0, cK1, cK2, cK3, cK4, cK5, cK6, cK7, cK8, cK9⟩, dK0, dK1, dK2, dK3, dK4, dK5, dK6, dK7, dK8, dK9⟩ := KK115.out.of10
    obtain ⟨⟨cM0, cM1, cM2, cM3⟩, dM0, dM1, dM2, dM3⟩ := KM115.out.four
    obtain ⟨⟨cW0, cW1, cW2, cW3, cW4, cW5, cW6, cW7, cW8, cW9⟩, dW0, dW1, dW2, dW3, dW4, dW5, dW6, dW7, dW8, dW9⟩ := KW115.out.of10
    obtain ⟨⟨cX0, cX1, cX2, cX3, cX4, cX5, cX6, cX7, cX8, cX9⟩, dX0, dX1, dX2, dX3, dX4, dX5, dX6, dX7, dX8, dX9⟩ := KX115.out.of10
    obtain ⟨⟨cY0, cY1, cY2, cY3⟩, dY0, dY1, dY2, dY3⟩ := KY115.out.four
    obtain ⟨⟨cG0, cG1, cG2, cG3, cG4, cG5, cG6, cG7, cG8, cG9⟩, dG0, dG1, dG2, dG3, dG4, dG5, dG6, dG7, dG8, dG9⟩ := KG115.out.of10
    go_wp2_with fail
    clear cK0 cK1 cK2 cK3 cK4 cK5 cK6 cK7 cK8 cK9 dK0 dK1 dK2 dK3 dK4 dK5 dK6 dK7 dK8 dK9 cM0 cM1 cM2 cM3 dM0 dM1 dM2 dM3 cW0 cW1 cW2 cW3 cW4 cW5 cW6 cW7 cW8 cW9 dW0 dW1 dW2 dW3 dW4 dW5 dW6 dW7 dW8 dW9 cX0 cX1 cX2 cX3 cX4 cX5 cX6 cX7 cX8 cX9 dX0 dX1 dX2 dX3 dX4 dX5 dX6 dX7 dX8 dX9 cY0 cY1 cY2 cY3 dY0 dY1 dY2 dY3 cG0 cG1 cG2 cG3 cG4 cG5 cG6 cG7 cG8 cG9 dG0 dG1 dG2 dG3 dG4 dG5 dG6 dG7 dG8 dG9
    obtain ⟨⟨cK0, cK1, cK2, cK3, cK4, cK5, cK6, cK7, cK8, cK9⟩, dK0, dK1, dK2, dK3, dK4, dK5, dK6, dK7, dK8, dK9⟩ := KK115.out.of10
    obtain ⟨⟨cX0, cX1, cX2, cX3, cX4, cX5, cX6, cX7, cX8, cX9⟩, dX0, dX1, dX2, dX3, dX4, dX5, dX6, dX7, dX8, dX9⟩ := KX115.out.of10
    have P115_0 : True := trivial
    have P115_1 : True := trivial
    go_region_held3 (fun w' => (w'.cell? ⟨g_X, 0, none⟩ = some (.int .i64 e) ∧ w'.cell? ⟨g_X, 1, none⟩ = some (.bool p.u) ∧ w'.cell? ⟨g_X, 2, none⟩ = some (.int .u64 (n64 p.k)) ∧ w'.cell? ⟨g_X, 3, none⟩ = some (.int .u64 (n64 p.l)) ∧ w'.cell? ⟨g_X, 4, none⟩ = some (.slice (some ⟨g_x1, 0, none⟩) p.rs.length p.rs.length) ∧ w'.cell? ⟨g_X, 5, none⟩ = some (.bool q.u) ∧ w'.cell? ⟨g_X, 6, none⟩ = some (.int .u64 (n64 q.k)) ∧ w'.cell? ⟨g_X, 7, none⟩ = some (.int .u64 (n64 q.l)) ∧ w'.cell? ⟨g_X, 8, none⟩ = some (.slice (some ⟨g_x2, 0, none⟩) q.rs.length q.rs.length) ∧ w'.cell? ⟨g_X, 9, none⟩ = some (.bool t)) ∧ (w'.cell? ⟨g_K, 0, none⟩ = some (.int .i64 e) ∧ w'.cell? ⟨g_K, 1, none⟩ = some (.bool p.u) ∧ w'.cell? ⟨g_K, 2, none⟩ = some (.int .u64 (n64 p.k)) ∧ w'.cell? ⟨g_K, 3, none⟩ = some (.int .u64 (n64 p.l)) ∧ w'.cell? ⟨g_K, 4, none⟩ = some (.slice p.a p.rs.length p.c) ∧ w'.cell? ⟨g_K, 5, none⟩ = some (.bool q.u) ∧ w'.cell? ⟨g_K, 6, none⟩ = some (.int .u64 (n64 q.k)) ∧ w'.cell? ⟨g_K, 7, none⟩ = some (.int .u64 (n64 q.l)) ∧ w'.cell? ⟨g_K, 8, none⟩ = some (.slice q.a q.rs.length q.c) ∧ w'.cell? ⟨g_K, 9, none⟩ = some (.bool t)))
      (first | go_keep | (exact ⟨KX116.out.of10.1, KK116.out.of10.1⟩) | (exact ⟨KX117.out.of10.1, KK117.out.of10.1⟩))
      (first | (have q := P115_0; go_at_call 27; clear q P115_0; refine (toKeys_any e p q t _ ((HP.out.2.below B115.out.drew).mono B115.out.drew.size) ((HQ.out.2.below B115.out.drew).mono B115.out.drew.size) fp.out fq.out).mono ?_; rintro e v116 ⟨g_z1, g_z2, n_z1_z2, rfl, ho_z1, ho_z2, hb⟩; replace hb := (Below.refl _ v115).drew.trans hb; replace ho_z2 := own_down ho_z2 (show v115.heap.size ≤ v115.drew.heap.size from Nat.le_refl _); replace ho_z1 := own_down ho_z1 (show v115.heap.size ≤ v115.drew.heap.size from Nat.le_refl _); have n_K_z1 : g_K ≠ g_z1 := (by have h1 := KK115.out.lt; have h2 := (ho_z1.lt g_z1 rfl).1; omega); have n_M_z1 : g_M ≠ g_z1 := (by have h1 := KM115.out.lt; have h2 := (ho_z1.lt g_z1 rfl).1; omega); have n_W_z1 : g_W ≠ g_z1 := (by have h1 := KW115.out.lt; have h2 := (ho_z1.lt g_z1 rfl).1; omega); have n_X_z1 : g_X ≠ g_z1 := (by have h1 := KX115.out.lt; have h2 := (ho_z1.lt g_z1 rfl).1; omega); have n_Y_z1 : g_Y ≠ g_z1 := (by have h1 := KY115.out.lt; have h2 := (ho_z1.lt g_z1 rfl).1; omega); have n_G_z1 : g_G ≠ g_z1 := (by have h1 := KG115.out.lt; have h2 := (ho_z1.lt g_z1 rfl).1; omega); have n_w1_z1 : g_w1 ≠ g_z1 := (by have h1 := (Ow1115.out.lt g_w1 rfl).2; have h2 := (ho_z1.lt g_z1 rfl).1; omega); have n_w2_z1 : g_w2 ≠ g_z1 := (by have h1 := (Ow2115.out.lt g_w2 rfl).2; have h2 := (ho_z1.lt g_z1 rfl).1; omega); have n_x1_z1 : g_x1 ≠ g_z1 := (by have h1 := (Ox1115.out.lt g_x1 rfl).2; have h2 := (ho_z1.lt g_z1 rfl).1; omega); have n_x2_z1 : g_x2 ≠ g_z1 := (by have h1 := (Ox2115.out.lt g_x2 rfl).2; have h2 := (ho_z1.lt g_z1 rfl).1; omega); have n_y_z1 : g_y ≠ g_z1 := (by have h1 := (Oy115.out.lt g_y rfl).2; have h2 := (ho_z1.lt g_z1 rfl).1; omega); have n_g1_z1 : g_g1 ≠ g_z1 := (by have h1 := (Og1115.out.lt g_g1 rfl).2; have h2 := (ho_z1.lt g_z1 rfl).1; omega); have n_g2_z1 : g_g2 ≠ g_z1 := (by have h1 := (Og2115.out.lt g_g2 rfl).2; have h2 := (ho_z1.lt g_z1 rfl).1; omega); have l_z1 : w.heap.size ≤ g_z1 := Nat.le_trans B115.out.size (ho_z1.lt g_z1 rfl).1; have n_K_z2 : g_K ≠ g_z2 := (by have h1 := KK115.out.lt; have h2 := (ho_z2.lt g_z2 rfl).1; omega); have n_M_z2 : g_M ≠ g_z2 := (by have h1 := KM115.out.lt; have h2 := (ho_z2.lt g_z2 rfl).1; omega); have n_W_z2 : g_W ≠ g_z2 := (by have h1 := KW115.out.lt; have h2 := (ho_z2.lt g_z2 rfl).1; omega); have n_X_z2 : g_X ≠ g_z2 := (by have h1 := KX115.out.lt; have h2 := (ho_z2.lt g_z2 rfl).1; omega); have n_Y_z2 : g_Y ≠ g_z2 := (by have h1 := KY115.out.lt; have h2 := (ho_z2.lt g_z2 rfl).1; omega); have n_G_z2 : g_G ≠ g_z2 := (by have h1 := KG115.out.lt; have h2 := (ho_z2.lt g_z2 rfl).1; omega); have n_w1_z2 : g_w1 ≠ g_z2 := (by have h1 := (Ow1115.out.lt g_w1 rfl).2; have h2 := (ho_z2.lt g_z2 rfl).1; omega); have n_w2_z2 : g_w2 ≠ g_z2 := (by have h1 := (Ow2115.out.lt g_w2 rfl).2; have h2 := (ho_z2.lt g_z2 rfl).1; omega); have n_x1_z2 : g_x1 ≠ g_z2 := (by have h1 := (Ox1115.out.lt g_x1 rfl).2; have h2 := (ho_z2.lt g_z2 rfl).1; omega); have n_x2_z2 : g_x2 ≠ g_z2 := (by have h1 := (Ox2115.out.lt g_x2 rfl).2; have h2 := (ho_z2.lt g_z2 rfl).1; omega); have n_y_z2 : g_y ≠ g_z2 := (by have h1 := (Oy115.out.lt g_y rfl).2; have h2 := (ho_z2.lt g_z2 rfl).1; omega); have n_g1_z2 : g_g1 ≠ g_z2 := (by have h1 := (Og1115.out.lt g_g1 rfl).2; have h2 := (ho_z2.lt g_z2 rfl).1; omega); have n_g2_z2 : g_g2 ≠ g_z2 := (by have h1 := (Og2115.out.lt g_g2 rfl).2; have h2 := (ho_z2.lt g_z2 rfl).1; omega); have l_z2 : w.heap.size ≤ g_z2 := Nat.le_trans B115.out.size (ho_z2.lt g_z2 rfl).1; have B116 := Lib.hid (B115.out.trans (hb.mono B115.out.size)); have KK116 := Lib.hid (KK115.out.below hb); have KM116 := Lib.hid (KM115.out.below hb); have KW116 := Lib.hid (KW115.out.below hb); have KX116 := Lib.hid (KX115.out.below hb); have KY116 := Lib.hid (KY115.out.below hb); have KG116 := Lib.hid (KG115.out.below hb); have Ow1116 := Lib.hid (Ow1115.out.kept (below_any (row := none) hb) (.inr (by simp [Value.ownBlock]))); have Ow2116 := Lib.hid (Ow2115.out.kept (below_any (row := none) hb) (.inr (by simp [Value.ownBlock]))); have Ox1116 := Lib.hid (Ox1115.out.kept (below_any (row := none) hb) (.inr (by simp [Value.ownBlock]))); have Ox2116 := Lib.hid (Ox2115.out.kept (below_any (row := none) hb) (.inr (by simp [Value.ownBlock]))); have Oy116 := Lib.hid (Oy115.out.kept (below_any (row := none) hb) (.inr (by simp [Value.ownBlock]))); have Og1116 := Lib.hid (Og1115.out.kept (below_any (row := none) hb) (.inr (by simp [Value.ownBlock]))); have Og2116 := Lib.hid (Og2115.out.kept (below_any (row := none) hb) (.inr (by simp [Value.ownBlock]))); have Oz1116 := Lib.hid (own_down ho_z1 (Nat.zero_le _)); have Oz2116 := Lib.hid (own_down ho_z2 (Nat.zero_le _)); clear hb B115 KK115 KM115 KW115 KX115 KY115 KG115 Ow1115 Ow2115 Ox1115 Ox2115 Oy115 Og1115 Og2115 ho_z1 ho_z2) | (have q := P115_1; go_at_call 28; clear q P115_1; refine (eqKeys_self e p q t (some ⟨g_x1, 0, none⟩) (some ⟨g_x2, 0, none⟩) (some ⟨g_z1, 0, none⟩) (some ⟨g_z2, 0, none⟩) p.rs.length q.rs.length p.rs.length q.rs.length _ (Row.ownK Ox1116.out) (Row.ownK Ox2116.out) (Row.ownK Oz1116.out) (Row.ownK Oz2116.out) fp.out fq.out).mono ?_; rintro e v117 ⟨rfl, hb⟩; have B117 := Lib.hid (B116.out.trans (hb.mono B116.out.size)); have KK117 := Lib.hid (KK116.out.below hb); have KM117 := Lib.hid (KM116.out.below hb); have KW117 := Lib.hid (KW116.out.below hb); have KX117 := Lib.hid (KX116.out.below hb); have KY117 := Lib.hid (KY116.out.below hb); have KG117 := Lib.hid (KG116.out.below hb); have Ow1117 := Lib.hid (Ow1116.out.kept (below_any (row := none) hb) (.inr (by simp [Value.ownBlock]))); have Ow2117 := Lib.hid (Ow2116.out.kept (below_any (row := none) hb) (.inr (by simp [Value.ownBlock]))); have Ox1117 := Lib.hid (Ox1116.out.kept (below_any (row := none) hb) (.inr (by simp [Value.ownBlock]))); have Ox2117 := Lib.hid (Ox2116.out.kept (below_any (row := none) hb) (.inr (by simp [Value.ownBlock]))); have Oy117 := Lib.hid (Oy116.out.kept (below_any (row := none) hb) (.inr (by simp [Value.ownBlock]))); have Og1117 := Lib.hid (Og1116.out.kept (below_any (row := none) hb) (.inr (by simp [Value.ownBlock]))); have Og2117 := Lib.hid (Og2116.out.kept (below_any (row := none) hb) (.inr (by simp [Value.ownBlock]))); have Oz1117 := Lib.hid (Oz1116.out.kept (below_any (row := none) hb) (.inr (by simp [Value.ownBlock]))); have Oz2117 := Lib.hid (Oz2116.out.kept (below_any (row := none) hb) (.inr (by simp [Value.ownBlock]))); clear hb B116 KK116 KM116 KW116 KX116 KY116 KG116 Ow1116 Ow2116 Ox1116 Ox2116 Oy116 Og1116 Og2116 Oz1116 Oz2116))
    try clear cK0 cK1 cK2 cK3 cK4 cK5 cK6 cK7 cK8 cK9 dK0 dK1 dK2 dK3 dK4 dK5 dK6 dK7 dK8 dK9 cX0 cX1 cX2 cX3 cX4 cX5 cX6 cX7 cX8 cX9 dX0 dX1 dX2 dX3 dX4 dX5 dX6 dX7 dX8 dX9
    obtain ⟨⟨cK0, cK1, cK2, cK3, cK4, cK5, cK6, cK7, cK8, cK9⟩, dK0, dK1, dK2, dK3, dK4, dK5, dK6, dK7, dK8, dK9⟩ := KK117.out.of10
    obtain ⟨⟨cM0, cM1, cM2, cM3⟩, dM0, dM1, dM2, dM3⟩ := KM117.out.four
    obtain ⟨⟨cW0, cW1, cW2, cW3, cW4, cW5, cW6, cW7, cW8, cW9⟩, dW0, dW1, dW2, dW3, dW4, dW5, dW6, dW7, dW8, dW9⟩ := KW117.out.of10
    obtain ⟨⟨cX0, cX1, cX2, cX3, cX4, cX5, cX6, cX7, cX8, cX9⟩, dX0, dX1, dX2, dX3, dX4, dX5, dX6, dX7, dX8, dX9⟩ := KX117.out.of10
    obtain ⟨⟨cY0, cY1, cY2, cY3⟩, dY0, dY1, dY2, dY3⟩ := KY117.out.four
    obtain ⟨⟨cG0, cG1, cG2, cG3, cG4, cG5, cG6, cG7, cG8, cG9⟩, dG0, dG1, dG2, dG3, dG4, dG5, dG6, dG7, dG8, dG9⟩ := KG117.out.of10
    go_wp2_with fail
    clear cK0 cK1 cK2 cK3 cK4 cK5 cK6 cK7 cK8 cK9 dK0 dK1 dK2 dK3 dK4 dK5 dK6 dK7 dK8 dK9 cM0 cM1 cM2 cM3 dM0 dM1 dM2 dM3 cW0 cW1 cW2 cW3 cW4 cW5 cW6 cW7 cW8 cW9 dW0 dW1 dW2 dW3 dW4 dW5 dW6 dW7 dW8 dW9 cX0 cX1 cX2 cX3 cX4 cX5 cX6 cX7 cX8 cX9 dX0 dX1 dX2 dX3 dX4 dX5 dX6 dX7 dX8 dX9 cY0 cY1 cY2 cY3 dY0 dY1 dY2 dY3 cG0 cG1 cG2 cG3 cG4 cG5 cG6 cG7 cG8 cG9 dG0 dG1 dG2 dG3 dG4 dG5 dG6 dG7 dG8 dG9
    obtain ⟨⟨cM0, cM1, cM2, cM3⟩, dM0, dM1, dM2, dM3⟩ := KM117.out.four
    obtain ⟨⟨cY0, cY1, cY2, cY3⟩, dY0, dY1, dY2, dY3⟩ := KY117.out.four
    have P117_0 : True := trivial
    have P117_1 : True := trivial
    go_region_held3 (fun w' => (w'.cell? ⟨g_Y, 0, none⟩ = some (.bool m.u) ∧ w'.cell? ⟨g_Y, 1, none⟩ = some (.int .u64 (n64 m.k)) ∧ w'.cell? ⟨g_Y, 2, none⟩ = some (.int .u64 (n64 m.l)) ∧ w'.cell? ⟨g_Y, 3, none⟩ = some (.slice (some ⟨g_y, 0, none⟩) m.rs.length m.rs.length)) ∧ (w'.cell? ⟨g_M, 0, none⟩ = some (.bool m.u) ∧ w'.cell? ⟨g_M, 1, none⟩ = some (.int .u64 (n64 m.k)) ∧ w'.cell? ⟨g_M, 2, none⟩ = some (.int .u64 (n64 m.l)) ∧ w'.cell? ⟨g_M, 3, none⟩ = some (.slice m.a m.rs.length m.c)))
      (first | go_keep | (exact ⟨KY118.out.four.1, KM118.out.four.1⟩) | (exact ⟨KY119.out.four.1, KM119.out.four.1⟩))
      (first | (have q := P117_0; go_at_call 37; clear q P117_0; refine (toMac_any m.u (n64 m.k) (n64 m.l) m.a m.c m.rs _ ((HM.out.2.below B117.out.drew).mono B117.out.drew.size) fm.out).mono ?_; rintro e v118 ⟨g_v, rfl, ho_v, hb⟩; replace hb := (Below.refl _ v117).drew.trans hb; replace ho_v := own_down ho_v (show v117.heap.size ≤ v117.drew.heap.size from Nat.le_refl _); have n_K_v : g_K ≠ g_v := (by have h1 := KK117.out.lt; have h2 := (ho_v.lt g_v rfl).1; omega); have n_M_v : g_M ≠ g_v := (by have h1 := KM117.out.lt; have h2 := (ho_v.lt g_v rfl).1; omega); have n_W_v : g_W ≠ g_v := (by have h1 := KW117.out.lt; have h2 := (ho_v.lt g_v rfl).1; omega); have n_X_v : g_X ≠ g_v := (by have h1 := KX117.out.lt; have h2 := (ho_v.lt g_v rfl).1; omega); have n_Y_v : g_Y ≠ g_v := (by have h1 := KY117.out.lt; have h2 := (ho_v.lt g_v rfl).1; omega); have n_G_v : g_G ≠ g_v := (by have h1 := KG117.out.lt; have h2 := (ho_v.lt g_v rfl).1; omega); have n_w1_v : g_w1 ≠ g_v := (by have h1 := (Ow1117.out.lt g_w1 rfl).2; have h2 := (ho_v.lt g_v rfl).1; omega); have n_w2_v : g_w2 ≠ g_v := (by have h1 := (Ow2117.out.lt g_w2 rfl).2; have h2 := (ho_v.lt g_v rfl).1; omega); have n_x1_v : g_x1 ≠ g_v := (by have h1 := (Ox1117.out.lt g_x1 rfl).2; have h2 := (ho_v.lt g_v rfl).1; omega); have n_x2_v : g_x2 ≠ g_v := (by have h1 := (Ox2117.out.lt g_x2 rfl).2; have h2 := (ho_v.lt g_v rfl).1; omega); have n_y_v : g_y ≠ g_v := (by have h1 := (Oy117.out.lt g_y rfl).2; have h2 := (ho_v.lt g_v rfl).1; omega); have n_g1_v : g_g1 ≠ g_v := (by have h1 := (Og1117.out.lt g_g1 rfl).2; have h2 := (ho_v.lt g_v rfl).1; omega); have n_g2_v : g_g2 ≠ g_v := (by have h1 := (Og2117.out.lt g_g2 rfl).2; have h2 := (ho_v.lt g_v rfl).1; omega); have n_z1_v : g_z1 ≠ g_v := (by have h1 := (Oz1117.out.lt g_z1 rfl).2; have h2 := (ho_v.lt g_v rfl).1; omega); have n_z2_v : g_z2 ≠ g_v := (by have h1 := (Oz2117.out.lt g_z2 rfl).2; have h2 := (ho_v.lt g_v rfl).1; omega); have l_v : w.heap.size ≤ g_v := Nat.le_trans B117.out.size (ho_v.lt g_v rfl).1; have B118 := Lib.hid (B117.out.trans (hb.mono B117.out.size)); have KK118 := Lib.hid (KK117.out.below hb); have KM118 := Lib.hid (KM117.out.below hb); have KW118 := Lib.hid (KW117.out.below hb); have KX118 := Lib.hid (KX117.out.below hb); have KY118 := Lib.hid (KY117.out.below hb); have KG118 := Lib.hid (KG117.out.below hb); have Ow1118 := Lib.hid (Ow1117.out.kept (below_any (row := none) hb) (.inr (by simp [Value.ownBlock]))); have Ow2118 := Lib.hid (Ow2117.out.kept (below_any (row := none) hb) (.inr (by simp [Value.ownBlock]))); have Ox1118 := Lib.hid (Ox1117.out.kept (below_any (row := none) hb) (.inr (by simp [Value.ownBlock]))); have Ox2118 := Lib.hid (Ox2117.out.kept (below_any (row := none) hb) (.inr (by simp [Value.ownBlock]))); have Oy118 := Lib.hid (Oy117.out.kept (below_any (row := none) hb) (.inr (by simp [Value.ownBlock]))); have Og1118 := Lib.hid (Og1117.out.kept (below_any (row := none) hb) (.inr (by simp [Value.ownBlock]))); have Og2118 := Lib.hid (Og2117.out.kept (below_any (row := none) hb) (.inr (by simp [Value.ownBlock]))); have Oz1118 := Lib.hid (Oz1117.out.kept (below_any (row := none) hb) (.inr (by simp [Value.ownBlock]))); have Oz2118 := Lib.hid (Oz2117.out.kept (below_any (row := none) hb) (.inr (by simp [Value.ownBlock]))); have Ov118 := Lib.hid (own_down ho_v (Nat.zero_le _)); clear hb B117 KK117 KM117 KW117 KX117 KY117 KG117 Ow1117 Ow2117 Ox1117 Ox2117 Oy117 Og1117 Og2117 Oz1117 Oz2117 ho_v) | (have q := P117_1; go_at_call 31; clear q P117_1; refine (eqMac_self m.u (n64 m.k) (n64 m.l) (some ⟨g_y, 0, none⟩) (some ⟨g_v, 0, none⟩) m.rs.length m.rs.length m.rs _ (Row.ownK Oy118.out) (Row.ownK Ov118.out) fm.out).mono ?_; rintro e v119 ⟨rfl, hb⟩; have B119 := Lib.hid (B118.out.trans (hb.mono B118.out.size)); have KK119 := Lib.hid (KK118.out.below hb); have KM119 := Lib.hid (KM118.out.below hb); have KW119 := Lib.hid (KW118.out.below hb); have KX119 := Lib.hid (KX118.out.below hb); have KY119 := Lib.hid (KY118.out.below hb); have KG119 := Lib.hid (KG118.out.below hb); have Ow1119 := Lib.hid (Ow1118.out.kept (below_any (row := none) hb) (.inr (by simp [Value.ownBlock]))); have Ow2119 := Lib.hid (Ow2118.out.kept (below_any (row := none) hb) (.inr (by simp [Value.ownBlock]))); have Ox1119 := Lib.hid (Ox1118.out.kept (below_any (row := none) hb) (.inr (by simp [Value.ownBlock]))); have Ox2119 := Lib.hid (Ox2118.out.kept (below_any (row := none) hb) (.inr (by simp [Value.ownBlock]))); have Oy119 := Lib.hid (Oy118.out.kept (below_any (row := none) hb) (.inr (by simp [Value.ownBlock]))); have Og1119 := Lib.hid (Og1118.out.kept (below_any (row := none) hb) (.inr (by simp [Value.ownBlock]))); have Og2119 := Lib.hid (Og2118.out.kept (below_any (row := none) hb) (.inr (by simp [Value.ownBlock]))); have Oz1119 := Lib.hid (Oz1118.out.kept (below_any (row := none) hb) (.inr (by simp [Value.ownBlock]))); have Oz2119 := Lib.hid (Oz2118.out.kept (below_any (row := none) hb) (.inr (by simp [Value.ownBlock]))); have Ov119 := Lib.hid (Ov118.out.kept (below_any (row := none) hb) (.inr (by simp [Value.ownBlock]))); clear hb B118 KK118 KM118 KW118 KX118 KY118 KG118 Ow1118 Ow2118 Ox1118 Ox2118 Oy118 Og1118 Og2118 Oz1118 Oz2118 Ov118))
    try clear cM0 cM1 cM2 cM3 dM0 dM1 dM2 dM3 cY0 cY1 cY2 cY3 dY0 dY1 dY2 dY3
    obtain ⟨⟨cK0, cK1, cK2, cK3, cK4, cK5, cK6, cK7, cK8, cK9⟩, dK0, dK1, dK2, dK3, dK4, dK5, dK6, dK7, dK8, dK9⟩ := KK119.out.of10
    obtain ⟨⟨cM0, cM1, cM2, cM3⟩, dM0, dM1, dM2, dM3⟩ := KM119.out.four
    obtain ⟨⟨cW0, cW1, cW2, cW3, cW4, cW5, cW6, cW7, cW8, cW9⟩, dW0, dW1, dW2, dW3, dW4, dW5, dW6, dW7, dW8, dW9⟩ := KW119.out.of10
    obtain ⟨⟨cX0, cX1, cX2, cX3, cX4, cX5, cX6, cX7, cX8, cX9⟩, dX0, dX1, dX2, dX3, dX4, dX5, dX6, dX7, dX8, dX9⟩ := KX119.out.of10
    obtain ⟨⟨cY0, cY1, cY2, cY3⟩, dY0, dY1, dY2, dY3⟩ := KY119.out.four
    obtain ⟨⟨cG0, cG1, cG2, cG3, cG4, cG5, cG6, cG7, cG8, cG9⟩, dG0, dG1, dG2, dG3, dG4, dG5, dG6, dG7, dG8, dG9⟩ := KG119.out.of10
    go_wp2_with fail
    clear cK0 cK1 cK2 cK3 cK4 cK5 cK6 cK7 cK8 cK9 dK0 dK1 dK2 dK3 dK4 dK5 dK6 dK7 dK8 dK9 cM0 cM1 cM2 cM3 dM0 dM1 dM2 dM3 cW0 cW1 cW2 cW3 cW4 cW5 cW6 cW7 cW8 cW9 dW0 dW1 dW2 dW3 dW4 dW5 dW6 dW7 dW8 dW9 cX0 cX1 cX2 cX3 cX4 cX5 cX6 cX7 cX8 cX9 dX0 dX1 dX2 dX3 dX4 dX5 dX6 dX7 dX8 dX9 cY0 cY1 cY2 cY3 dY0 dY1 dY2 dY3 cG0 cG1 cG2 cG3 cG4 cG5 cG6 cG7 cG8 cG9 dG0 dG1 dG2 dG3 dG4 dG5 dG6 dG7 dG8 dG9
    refine (markKeys_any e p q t 0 g_x1 g_x2 p.rs.length q.rs.length 1 _ Ox1119.out Ox2119.out n_x1_x2 (by decide) (by have := fp.out; omega) (Nat.le_succ_of_le fp.out) (Nat.le_succ_of_le fq.out)).mono ?_
    rintro e v121 ⟨rfl, ho1, ho2, v120, hg1, hg2⟩
    have B120 := Lib.hid (B119.out.trans (grown_below hg1 l_x1 B119.out.size))
    have KK120 := Lib.hid (KK119.out.grown hg1 (n_K_x1))
    have KM120 := Lib.hid (KM119.out.grown hg1 (n_M_x1))
    have KW120 := Lib.hid (KW119.out.grown hg1 (n_W_x1))
    have KX120 := Lib.hid (KX119.out.grown hg1 (fun e => n_x1_X e.symm))
    have KY120 := Lib.hid (KY119.out.grown hg1 (fun e => n_x1_Y e.symm))
    have KG120 := Lib.hid (KG119.out.grown hg1 (fun e => n_x1_G e.symm))
    have Ow1120 := Lib.hid (Ow1119.out.kept hg1 (.inr (own_ne (n_w1_x1))))
    have Ow2120 := Lib.hid (Ow2119.out.kept hg1 (.inr (own_ne (n_w2_x1))))
    have Oy120 := Lib.hid (Oy119.out.kept hg1 (.inr (own_ne (fun e => n_x1_y e.symm))))
    have Og1120 := Lib.hid (Og1119.out.kept hg1 (.inr (own_ne (fun e => n_x1_g1 e.symm))))
    have Og2120 := Lib.hid (Og2119.out.kept hg1 (.inr (own_ne (fun e => n_x1_g2 e.symm))))
    have Oz1120 := Lib.hid (Oz1119.out.kept hg1 (.inr (own_ne (fun e => n_x1_z1 e.symm))))
    have Oz2120 := Lib.hid (Oz2119.out.kept hg1 (.inr (own_ne (fun e => n_x1_z2 e.symm))))
    have Ov120 := Lib.hid (Ov119.out.kept hg1 (.inr (own_ne (fun e => n_x1_v e.symm))))
    clear B119 KK119 KM119 KW119 KX119 KY119 KG119 Ow1119 Ow2119 Ox1119 Ox2119 Oy119 Og1119 Og2119 Oz1119 Oz2119 Ov119
    have B121 := Lib.hid (B120.out.trans (grown_below hg2 l_x2 B120.out.size))
    have KK121 := Lib.hid (KK120.out.grown hg2 (n_K_x2))
    have KM121 := Lib.hid (KM120.out.grown hg2 (n_M_x2))
    have KW121 := Lib.hid (KW120.out.grown hg2 (n_W_x2))
    have KX121 := Lib.hid (KX120.out.grown hg2 (fun e => n_x2_X e.symm))
    have KY121 := Lib.hid (KY120.out.grown hg2 (fun e => n_x2_Y e.symm))
    have KG121 := Lib.hid (KG120.out.grown hg2 (fun e => n_x2_G e.symm))
    have Ow1121 := Lib.hid (Ow1120.out.kept hg2 (.inr (own_ne (n_w1_x2))))
    have Ow2121 := Lib.hid (Ow2120.out.kept hg2 (.inr (own_ne (n_w2_x2))))
    have Oy121 := Lib.hid (Oy120.out.kept hg2 (.inr (own_ne (fun e => n_x2_y e.symm))))
    have Og1121 := Lib.hid (Og1120.out.kept hg2 (.inr (own_ne (fun e => n_x2_g1 e.symm))))
    have Og2121 := Lib.hid (Og2120.out.kept hg2 (.inr (own_ne (fun e => n_x2_g2 e.symm))))
    have Oz1121 := Lib.hid (Oz1120.out.kept hg2 (.inr (own_ne (fun e => n_x2_z1 e.symm))))
    have Oz2121 := Lib.hid (Oz2120.out.kept hg2 (.inr (own_ne (fun e => n_x2_z2 e.symm))))
    have Ov121 := Lib.hid (Ov120.out.kept hg2 (.inr (own_ne (fun e => n_x2_v e.symm))))
    clear B120 KK120 KM120 KW120 KX120 KY120 KG120 Ow1120 Ow2120 Oy120 Og1120 Og2120 Oz1120 Oz2120 Ov120
    have Ox1121 := Lib.hid ho1
    have Ox2121 := Lib.hid ho2
    clear ho1 ho2 hg1 hg2
    have hk1 : (0 : Int) ≤ ((1 + 2 * p.rs.length + 2 * q.rs.length : Nat) : Int) := Int.natCast_nonneg _
    obtain ⟨⟨cK0, cK1, cK2, cK3, cK4, cK5, cK6, cK7, cK8, cK9⟩, dK0, dK1, dK2, dK3, dK4, dK5, dK6, dK7, dK8, dK9⟩ := KK121.out.of10
    obtain ⟨⟨cM0, cM1, cM2, cM3⟩, dM0, dM1, dM2, dM3⟩ := KM121.out.four
    obtain ⟨⟨cW0, cW1, cW2, cW3, cW4, cW5, cW6, cW7, cW8, cW9⟩, dW0, dW1, dW2, dW3, dW4, dW5, dW6, dW7, dW8, dW9⟩ := KW121.out.of10
    obtain ⟨⟨cX0, cX1, cX2, cX3, cX4, cX5, cX6, cX7, cX8, cX9⟩, dX0, dX1, dX2, dX3, dX4, dX5, dX6, dX7, dX8, dX9⟩ := KX121.out.of10
    obtain ⟨⟨cY0, cY1, cY2, cY3⟩, dY0, dY1, dY2, dY3⟩ := KY121.out.four
    obtain ⟨⟨cG0, cG1, cG2, cG3, cG4, cG5, cG6, cG7, cG8, cG9⟩, dG0, dG1, dG2, dG3, dG4, dG5, dG6, dG7, dG8, dG9⟩ := KG121.out.of10
    go_wp2_with fail
    clear cK0 cK1 cK2 cK3 cK4 cK5 cK6 cK7 cK8 cK9 dK0 dK1 dK2 dK3 dK4 dK5 dK6 dK7 dK8 dK9 cM0 cM1 cM2 cM3 dM0 dM1 dM2 dM3 cW0 cW1 cW2 cW3 cW4 cW5 cW6 cW7 cW8 cW9 dW0 dW1 dW2 dW3 dW4 dW5 dW6 dW7 dW8 dW9 cX0 cX1 cX2 cX3 cX4 cX5 cX6 cX7 cX8 cX9 dX0 dX1 dX2 dX3 dX4 dX5 dX6 dX7 dX8 dX9 cY0 cY1 cY2 cY3 dY0 dY1 dY2 dY3 cG0 cG1 cG2 cG3 cG4 cG5 cG6 cG7 cG8 cG9 dG0 dG1 dG2 dG3 dG4 dG5 dG6 dG7 dG8 dG9
    refine (markMac_any m.u (n64 m.k) (n64 m.l) 0 g_y m.rs.length m.rs.length (1 + 2 * p.rs.length + 2 * q.rs.length) m.rs _ rfl Oy121.out (by omega) (by have h1 := fp.out; have h2 := fq.out; omega) (Nat.le_succ_of_le fm.out)).mono ?_
    rintro e v122 ⟨rfl, ho, hg⟩
    have B122 := Lib.hid (B121.out.trans (grown_below hg l_y B121.out.size))
    have KK122 := Lib.hid (KK121.out.grown hg (n_K_y))
    have KM122 := Lib.hid (KM121.out.grown hg (n_M_y))
    have KW122 := Lib.hid (KW121.out.grown hg (n_W_y))
    have KX122 := Lib.hid (KX121.out.grown hg (n_X_y))
    have KY122 := Lib.hid (KY121.out.grown hg (fun e => n_y_Y e.symm))
    have KG122 := Lib.hid (KG121.out.grown hg (fun e => n_y_G e.symm))
    have Ow1122 := Lib.hid (Ow1121.out.kept hg (.inr (own_ne (n_w1_y))))
    have Ow2122 := Lib.hid (Ow2121.out.kept hg (.inr (own_ne (n_w2_y))))
    have Ox1122 := Lib.hid (Ox1121.out.kept hg (.inr (own_ne (n_x1_y))))
    have Ox2122 := Lib.hid (Ox2121.out.kept hg (.inr (own_ne (n_x2_y))))
    have Oy122 := Lib.hid ho
    have Og1122 := Lib.hid (Og1121.out.kept hg (.inr (own_ne (fun e => n_y_g1 e.symm))))
    have Og2122 := Lib.hid (Og2121.out.kept hg (.inr (own_ne (fun e => n_y_g2 e.symm))))
    have Oz1122 := Lib.hid (Oz1121.out.kept hg (.inr (own_ne (fun e => n_y_z1 e.symm))))
    have Oz2122 := Lib.hid (Oz2121.out.kept hg (.inr (own_ne (fun e => n_y_z2 e.symm))))
    have Ov122 := Lib.hid (Ov121.out.kept hg (.inr (own_ne (fun e => n_y_v e.symm))))
    clear hg B121 KK121 KM121 KW121 KX121 KY121 KG121 Ow1121 Ow2121 Ox1121 Ox2121 Oy121 Og1121 Og2121 Oz1121 Oz2121 Ov121 ho
    have hk2 : (0 : Int) ≤ ((1 + 2 * p.rs.length + 2 * q.rs.length + 2 * m.rs.length : Nat) : Int) := Int.natCast_nonneg _
    obtain ⟨⟨cK0, cK1, cK2, cK3, cK4, cK5, cK6, cK7, cK8, cK9⟩, dK0, dK1, dK2, dK3, dK4, dK5, dK6, dK7, dK8, dK9⟩ := KK122.out.of10
    obtain ⟨⟨cM0, cM1, cM2, cM3⟩, dM0, dM1, dM2, dM3⟩ := KM122.out.four
    obtain ⟨⟨cW0, cW1, cW2, cW3, cW4, cW5, cW6, cW7, cW8, cW9⟩, dW0, dW1, dW2, dW3, dW4, dW5, dW6, dW7, dW8, dW9⟩ := KW122.out.of10
    obtain ⟨⟨cX0, cX1, cX2, cX3, cX4, cX5, cX6, cX7, cX8, cX9⟩, dX0, dX1, dX2, dX3, dX4, dX5, dX6, dX7, dX8, dX9⟩ := KX122.out.of10
    obtain ⟨⟨cY0, cY1, cY2, cY3⟩, dY0, dY1, dY2, dY3⟩ := KY122.out.four
    obtain ⟨⟨cG0, cG1, cG2, cG3, cG4, cG5, cG6, cG7, cG8, cG9⟩, dG0, dG1, dG2, dG3, dG4, dG5, dG6, dG7, dG8, dG9⟩ := KG122.out.of10
    go_wp2_with fail
    clear cK0 cK1 cK2 cK3 cK4 cK5 cK6 cK7 cK8 cK9 dK0 dK1 dK2 dK3 dK4 dK5 dK6 dK7 dK8 dK9 cM0 cM1 cM2 cM3 dM0 dM1 dM2 dM3 cW0 cW1 cW2 cW3 cW4 cW5 cW6 cW7 cW8 cW9 dW0 dW1 dW2 dW3 dW4 dW5 dW6 dW7 dW8 dW9 cX0 cX1 cX2 cX3 cX4 cX5 cX6 cX7 cX8 cX9 dX0 dX1 dX2 dX3 dX4 dX5 dX6 dX7 dX8 dX9 cY0 cY1 cY2 cY3 dY0 dY1 dY2 dY3 cG0 cG1 cG2 cG3 cG4 cG5 cG6 cG7 cG8 cG9 dG0 dG1 dG2 dG3 dG4 dG5 dG6 dG7 dG8 dG9
    refine (eqKeys_self e p q t (some ⟨g_g1, 0, none⟩) (some ⟨g_g2, 0, none⟩) (some ⟨g_w1, 0, none⟩) (some ⟨g_w2, 0, none⟩) c_g1 c_g2 c_w1 c_w2 _ (Row.ownK Og1122.out) (Row.ownK Og2122.out) (Row.ownK Ow1122.out) (Row.ownK Ow2122.out) fp.out fq.out).mono ?_
    rintro e v123 ⟨rfl, hb⟩
    have B123 := Lib.hid (B122.out.trans (hb.mono B122.out.size))
    have KK123 := Lib.hid (KK122.out.below hb)
    have KM123 := Lib.hid (KM122.out.below hb)
    have KW123 := Lib.hid (KW122.out.below hb)
    have KX123 := Lib.hid (KX122.out.below hb)
    have KY123 := Lib.hid (KY122.out.below hb)
    have KG123 := Lib.hid (KG122.out.below hb)
    have Ow1123 := Lib.hid (Ow1122.out.kept (below_any (row := none) hb) (.inr (by simp [Value.ownBlock])))
    have Ow2123 := Lib.hid (Ow2122.out.kept (below_any (row := none) hb) (.inr (by simp [Value.ownBlock])))
    have Ox1123 := Lib.hid (Ox1122.out.kept (below_any (row := none) hb) (.inr (by simp [Value.ownBlock])))
    have Ox2123 := Lib.hid (Ox2122.out.kept (below_any (row := none) hb) (.inr (by simp [Value.ownBlock])))
    have Oy123 := Lib.hid (Oy122.out.kept (below_any (row := none) hb) (.inr (by simp [Value.ownBlock])))
    have Og1123 := Lib.hid (Og1122.out.kept (below_any (row := none) hb) (.inr (by simp [Value.ownBlock])))
    have Og2123 := Lib.hid (Og2122.out.kept (below_any (row := none) hb) (.inr (by simp [Value.ownBlock])))
    have Oz1123 := Lib.hid (Oz1122.out.kept (below_any (row := none) hb) (.inr (by simp [Value.ownBlock])))
    have Oz2123 := Lib.hid (Oz2122.out.kept (below_any (row := none) hb) (.inr (by simp [Value.ownBlock])))
    have Ov123 := Lib.hid (Ov122.out.kept (below_any (row := none) hb) (.inr (by simp [Value.ownBlock])))
    clear hb B122 KK122 KM122 KW122 KX122 KY122 KG122 Ow1122 Ow2122 Ox1122 Ox2122 Oy122 Og1122 Og2122 Oz1122 Oz2122 Ov122
    obtain ⟨⟨cK0, cK1, cK2, cK3, cK4, cK5, cK6, cK7, cK8, cK9⟩, dK0, dK1, dK2, dK3, dK4, dK5, dK6, dK7, dK8, dK9⟩ := KK123.out.of10
    obtain ⟨⟨cM0, cM1, cM2, cM3⟩, dM0, dM1, dM2, dM3⟩ := KM123.out.four
    obtain ⟨⟨cW0, cW1, cW2, cW3, cW4, cW5, cW6, cW7, cW8, cW9⟩, dW0, dW1, dW2, dW3, dW4, dW5, dW6, dW7, dW8, dW9⟩ := KW123.out.of10
    obtain ⟨⟨cX0, cX1, cX2, cX3, cX4, cX5, cX6, cX7, cX8, cX9⟩, dX0, dX1, dX2, dX3, dX4, dX5, dX6, dX7, dX8, dX9⟩ := KX123.out.of10
    obtain ⟨⟨cY0, cY1, cY2, cY3⟩, dY0, dY1, dY2, dY3⟩ := KY123.out.four
    obtain ⟨⟨cG0, cG1, cG2, cG3, cG4, cG5, cG6, cG7, cG8, cG9⟩, dG0, dG1, dG2, dG3, dG4, dG5, dG6, dG7, dG8, dG9⟩ := KG123.out.of10
    go_wp2_with fail
    clear cK0 cK1 cK2 cK3 cK4 cK5 cK6 cK7 cK8 cK9 dK0 dK1 dK2 dK3 dK4 dK5 dK6 dK7 dK8 dK9 cM0 cM1 cM2 cM3 dM0 dM1 dM2 dM3 cW0 cW1 cW2 cW3 cW4 cW5 cW6 cW7 cW8 cW9 dW0 dW1 dW2 dW3 dW4 dW5 dW6 dW7 dW8 dW9 cX0 cX1 cX2 cX3 cX4 cX5 cX6 cX7 cX8 cX9 dX0 dX1 dX2 dX3 dX4 dX5 dX6 dX7 dX8 dX9 cY0 cY1 cY2 cY3 dY0 dY1 dY2 dY3 cG0 cG1 cG2 cG3 cG4 cG5 cG6 cG7 cG8 cG9 dG0 dG1 dG2 dG3 dG4 dG5 dG6 dG7 dG8 dG9
    refine (markKeys_any e p q t 0 g_g1 g_g2 c_g1 c_g2 1 _ Og1123.out Og2123.out n_g1_g2 (by decide) (by have := fp.out; omega) (Nat.le_succ_of_le fp.out) (Nat.le_succ_of_le fq.out)).mono ?_
    rintro e v125 ⟨rfl, ho1, ho2, v124, hg1, hg2⟩
    have B124 := Lib.hid (B123.out.trans (grown_below hg1 l_g1 B123.out.size))
    have KK124 := Lib.hid (KK123.out.grown hg1 (n_K_g1))
    have KM124 := Lib.hid (KM123.out.grown hg1 (n_M_g1))
    have KW124 := Lib.hid (KW123.out.grown hg1 (n_W_g1))
    have KX124 := Lib.hid (KX123.out.grown hg1 (n_X_g1))
    have KY124 := Lib.hid (KY123.out.grown hg1 (n_Y_g1))
    have KG124 := Lib.hid (KG123.out.grown hg1 (fun e => n_g1_G e.symm))
    have Ow1124 := Lib.hid (Ow1123.out.kept hg1 (.inr (own_ne (n_w1_g1))))
    have Ow2124 := Lib.hid (Ow2123.out.kept hg1 (.inr (own_ne (n_w2_g1))))
    have Ox1124 := Lib.hid (Ox1123.out.kept hg1 (.inr (own_ne (n_x1_g1))))
    have Ox2124 := Lib.hid (Ox2123.out.kept hg1 (.inr (own_ne (n_x2_g1))))
    have Oy124 := Lib.hid (Oy123.out.kept hg1 (.inr (own_ne (n_y_g1))))
    have Oz1124 := Lib.hid (Oz1123.out.kept hg1 (.inr (own_ne (fun e => n_g1_z1 e.symm))))
    have Oz2124 := Lib.hid (Oz2123.out.kept hg1 (.inr (own_ne (fun e => n_g1_z2 e.symm))))
    have Ov124 := Lib.hid (Ov123.out.kept hg1 (.inr (own_ne (fun e => n_g1_v e.symm))))
    clear B123 KK123 KM123 KW123 KX123 KY123 KG123 Ow1123 Ow2123 Ox1123 Ox2123 Oy123 Og1123 Og2123 Oz1123 Oz2123 Ov123
    have B125 := Lib.hid (B124.out.trans (grown_below hg2 l_g2 B124.out.size))
    have KK125 := Lib.hid (KK124.out.grown hg2 (n_K_g2))
    have KM125 := Lib.hid (KM124.out.grown hg2 (n_M_g2))
    have KW125 := Lib.hid (KW124.out.grown hg2 (n_W_g2))
    have KX125 := Lib.hid (KX124.out.grown hg2 (n_X_g2))
    have KY125 := Lib.hid (KY124.out.grown hg2 (n_Y_g2))
    have KG125 := Lib.hid (KG124.out.grown hg2 (fun e => n_g2_G e.symm))
    have Ow1125 := Lib.hid (Ow1124.out.kept hg2 (.inr (own_ne (n_w1_g2))))
    have Ow2125 := Lib.hid (Ow2124.out.kept hg2 (.inr (own_ne (n_w2_g2))))
    have Ox1125 := Lib.hid (Ox1124.out.kept hg2 (.inr (own_ne (n_x1_g2))))
    have Ox2125 := Lib.hid (Ox2124.out.kept hg2 (.inr (own_ne (n_x2_g2))))
    have Oy125 := Lib.hid (Oy124.out.kept hg2 (.inr (own_ne (n_y_g2))))
    have Oz1125 := Lib.hid (Oz1124.out.kept hg2 (.inr (own_ne (fun e => n_g2_z1 e.symm))))
    have Oz2125 := Lib.hid (Oz2124.out.kept hg2 (.inr (own_ne (fun e => n_g2_z2 e.symm))))
    have Ov125 := Lib.hid (Ov124.out.kept hg2 (.inr (own_ne (fun e => n_g2_v e.symm))))
    clear B124 KK124 KM124 KW124 KX124 KY124 KG124 Ow1124 Ow2124 Ox1124 Ox2124 Oy124 Oz1124 Oz2124 Ov124
    have Og1125 := Lib.hid ho1
    have Og2125 := Lib.hid ho2
    clear ho1 ho2 hg1 hg2
    obtain ⟨⟨cK0, cK1, cK2, cK3, cK4, cK5, cK6, cK7, cK8, cK9⟩, dK0, dK1, dK2, dK3, dK4, dK5, dK6, dK7, dK8, dK9⟩ := KK125.out.of10
    obtain ⟨⟨cM0, cM1, cM2, cM3⟩, dM0, dM1, dM2, dM3⟩ := KM125.out.four
    obtain ⟨⟨cW0, cW1, cW2, cW3, cW4, cW5, cW6, cW7, cW8, cW9⟩, dW0, dW1, dW2, dW3, dW4, dW5, dW6, dW7, dW8, dW9⟩ := KW125.out.of10
    obtain ⟨⟨cX0, cX1, cX2, cX3, cX4, cX5, cX6, cX7, cX8, cX9⟩, dX0, dX1, dX2, dX3, dX4, dX5, dX6, dX7, dX8, dX9⟩ := KX125.out.of10
    obtain ⟨⟨cY0, cY1, cY2, cY3⟩, dY0, dY1, dY2, dY3⟩ := KY125.out.four
    obtain ⟨⟨cG0, cG1, cG2, cG3, cG4, cG5, cG6, cG7, cG8, cG9⟩, dG0, dG1, dG2, dG3, dG4, dG5, dG6, dG7, dG8, dG9⟩ := KG125.out.of10
    go_wp2_with fail
    clear cK0 cK1 cK2 cK3 cK4 cK5 cK6 cK7 cK8 cK9 dK0 dK1 dK2 dK3 dK4 dK5 dK6 dK7 dK8 dK9 cM0 cM1 cM2 cM3 dM0 dM1 dM2 dM3 cW0 cW1 cW2 cW3 cW4 cW5 cW6 cW7 cW8 cW9 dW0 dW1 dW2 dW3 dW4 dW5 dW6 dW7 dW8 dW9 cX0 cX1 cX2 cX3 cX4 cX5 cX6 cX7 cX8 cX9 dX0 dX1 dX2 dX3 dX4 dX5 dX6 dX7 dX8 dX9 cY0 cY1 cY2 cY3 dY0 dY1 dY2 dY3 cG0 cG1 cG2 cG3 cG4 cG5 cG6 cG7 cG8 cG9 dG0 dG1 dG2 dG3 dG4 dG5 dG6 dG7 dG8 dG9
    refine (heldKeys_any e p q t (some ⟨g_g1, 0, none⟩) (some ⟨g_g2, 0, none⟩) c_g1 c_g2 1 _ (Row.ownK Og1125.out) (Row.ownK Og2125.out) (by decide) (by have := fp.out; omega) (Nat.le_succ_of_le fp.out) (Nat.le_succ_of_le fq.out)).mono ?_
    rintro e v126 ⟨rfl, hb⟩
    have B126 := Lib.hid (B125.out.trans (hb.mono B125.out.size))
    have KK126 := Lib.hid (KK125.out.below hb)
    have KM126 := Lib.hid (KM125.out.below hb)
    have KW126 := Lib.hid (KW125.out.below hb)
    have KX126 := Lib.hid (KX125.out.below hb)
    have KY126 := Lib.hid (KY125.out.below hb)
    have KG126 := Lib.hid (KG125.out.below hb)
    have Ow1126 := Lib.hid (Ow1125.out.kept (below_any (row := none) hb) (.inr (by simp [Value.ownBlock])))
    have Ow2126 := Lib.hid (Ow2125.out.kept (below_any (row := none) hb) (.inr (by simp [Value.ownBlock])))
    have Ox1126 := Lib.hid (Ox1125.out.kept (below_any (row := none) hb) (.inr (by simp [Value.ownBlock])))
    have Ox2126 := Lib.hid (Ox2125.out.kept (below_any (row := none) hb) (.inr (by simp [Value.ownBlock])))
    have Oy126 := Lib.hid (Oy125.out.kept (below_any (row := none) hb) (.inr (by simp [Value.ownBlock])))
    have Og1126 := Lib.hid (Og1125.out.kept (below_any (row := none) hb) (.inr (by simp [Value.ownBlock])))
    have Og2126 := Lib.hid (Og2125.out.kept (below_any (row := none) hb) (.inr (by simp [Value.ownBlock])))
    have Oz1126 := Lib.hid (Oz1125.out.kept (below_any (row := none) hb) (.inr (by simp [Value.ownBlock])))
    have Oz2126 := Lib.hid (Oz2125.out.kept (below_any (row := none) hb) (.inr (by simp [Value.ownBlock])))
    have Ov126 := Lib.hid (Ov125.out.kept (below_any (row := none) hb) (.inr (by simp [Value.ownBlock])))
    clear hb B125 KK125 KM125 KW125 KX125 KY125 KG125 Ow1125 Ow2125 Ox1125 Ox2125 Oy125 Og1125 Og2125 Oz1125 Oz2125 Ov125
    have hk3 : (0 : Int) ≤ ((1 + 2 * p.rs.length + 2 * q.rs.length : Nat) : Int) := Int.natCast_nonneg _
    obtain ⟨⟨cK0, cK1, cK2, cK3, cK4, cK5, cK6, cK7, cK8, cK9⟩, dK0, dK1, dK2, dK3, dK4, dK5, dK6, dK7, dK8, dK9⟩ := KK126.out.of10
    obtain ⟨⟨cM0, cM1, cM2, cM3⟩, dM0, dM1, dM2, dM3⟩ := KM126.out.four
    obtain ⟨⟨cW0, cW1, cW2, cW3, cW4, cW5, cW6, cW7, cW8, cW9⟩, dW0, dW1, dW2, dW3, dW4, dW5, dW6, dW7, dW8, dW9⟩ := KW126.out.of10
    obtain ⟨⟨cX0, cX1, cX2, cX3, cX4, cX5, cX6, cX7, cX8, cX9⟩, dX0, dX1, dX2, dX3, dX4, dX5, dX6, dX7, dX8, dX9⟩ := KX126.out.of10
    obtain ⟨⟨cY0, cY1, cY2, cY3⟩, dY0, dY1, dY2, dY3⟩ := KY126.out.four
    obtain ⟨⟨cG0, cG1, cG2, cG3, cG4, cG5, cG6, cG7, cG8, cG9⟩, dG0, dG1, dG2, dG3, dG4, dG5, dG6, dG7, dG8, dG9⟩ := KG126.out.of10
    go_upto_region 31 with fail
    clear cK0 cK1 cK2 cK3 cK4 cK5 cK6 cK7 cK8 cK9 dK0 dK1 dK2 dK3 dK4 dK5 dK6 dK7 dK8 dK9 cM0 cM1 cM2 cM3 dM0 dM1 dM2 dM3 cW0 cW1 cW2 cW3 cW4 cW5 cW6 cW7 cW8 cW9 dW0 dW1 dW2 dW3 dW4 dW5 dW6 dW7 dW8 dW9 cX0 cX1 cX2 cX3 cX4 cX5 cX6 cX7 cX8 cX9 dX0 dX1 dX2 dX3 dX4 dX5 dX6 dX7 dX8 dX9 cY0 cY1 cY2 cY3 dY0 dY1 dY2 dY3 cG0 cG1 cG2 cG3 cG4 cG5 cG6 cG7 cG8 cG9 dG0 dG1 dG2 dG3 dG4 dG5 dG6 dG7 dG8 dG9
    obtain ⟨⟨cK0, cK1, cK2, cK3, cK4, cK5, cK6, cK7, cK8, cK9⟩, dK0, dK1, dK2, dK3, dK4, dK5, dK6, dK7, dK8, dK9⟩ := KK126.out.of10
    obtain ⟨⟨cM0, cM1, cM2, cM3⟩, dM0, dM1, dM2, dM3⟩ := KM126.out.four
    obtain ⟨⟨cW0, cW1, cW2, cW3, cW4, cW5, cW6, cW7, cW8, cW9⟩, dW0, dW1, dW2, dW3, dW4, dW5, dW6, dW7, dW8, dW9⟩ := KW126.out.of10
    obtain ⟨⟨cX0, cX1, cX2, cX3, cX4, cX5, cX6, cX7, cX8, cX9⟩, dX0, dX1, dX2, dX3, dX4, dX5, dX6, dX7, dX8, dX9⟩ := KX126.out.of10
    obtain ⟨⟨cY0, cY1, cY2, cY3⟩, dY0, dY1, dY2, dY3⟩ := KY126.out.four
    obtain ⟨⟨cG0, cG1, cG2, cG3, cG4, cG5, cG6, cG7, cG8, cG9⟩, dG0, dG1, dG2, dG3, dG4, dG5, dG6, dG7, dG8, dG9⟩ := KG126.out.of10
    go_upto_region 31 with fail
    clear cK0 cK1 cK2 cK3 cK4 cK5 cK6 cK7 cK8 cK9 dK0 dK1 dK2 dK3 dK4 dK5 dK6 dK7 dK8 dK9 cM0 cM1 cM2 cM3 dM0 dM1 dM2 dM3 cW0 cW1 cW2 cW3 cW4 cW5 cW6 cW7 cW8 cW9 dW0 dW1 dW2 dW3 dW4 dW5 dW6 dW7 dW8 dW9 cX0 cX1 cX2 cX3 cX4 cX5 cX6 cX7 cX8 cX9 dX0 dX1 dX2 dX3 dX4 dX5 dX6 dX7 dX8 dX9 cY0 cY1 cY2 cY3 dY0 dY1 dY2 dY3 cG0 cG1 cG2 cG3 cG4 cG5 cG6 cG7 cG8 cG9 dG0 dG1 dG2 dG3 dG4 dG5 dG6 dG7 dG8 dG9
    go_cut [13] (fun sx wx => ∃ (g_H g_h1 g_h2 c_h1 c_h2 : Nat), sx = .pointer (some ⟨g_H, 0, none⟩) ∧ Hid (Below w.heap.size w wx) ∧ Hid (Blk wx g_K [.int .i64 e, .bool p.u, .int .u64 (n64 p.k), .int .u64 (n64 p.l), .slice p.a p.rs.length p.c, .bool q.u, .int .u64 (n64 q.k), .int .u64 (n64 q.l), .slice q.a q.rs.length q.c, .bool t]) ∧ Hid (Blk wx g_M [.bool m.u, .int .u64 (n64 m.k), .int .u64 (n64 m.l), .slice m.a m.rs.length m.c]) ∧ Hid (Blk wx g_W [.int .i64 e, .bool p.u, .int .u64 (n64 p.k), .int .u64 (n64 p.l), .slice (some ⟨g_w1, 0, none⟩) p.rs.length c_w1, .bool q.u, .int .u64 (n64 q.k), .int .u64 (n64 q.l), .slice (some ⟨g_w2, 0, none⟩) q.rs.length c_w2, .bool t]) ∧ Hid (Blk wx g_X [.int .i64 e, .bool p.u, .int .u64 (n64 p.k), .int .u64 (n64 p.l), .slice (some ⟨g_x1, 0, none⟩) p.rs.length p.rs.length, .bool q.u, .int .u64 (n64 q.k), .int .u64 (n64 q.l), .slice (some ⟨g_x2, 0, none⟩) q.rs.length q.rs.length, .bool t]) ∧ Hid (Blk wx g_Y [.bool m.u, .int .u64 (n64 m.k), .int .u64 (n64 m.l), .slice (some ⟨g_y, 0, none⟩) m.rs.length m.rs.length]) ∧ Hid (Blk wx g_G [.int .i64 e, .bool p.u, .int .u64 (n64 p.k), .int .u64 (n64 p.l), .slice (some ⟨g_g1, 0, none⟩) p.rs.length c_g1, .bool q.u, .int .u64 (n64 q.k), .int .u64 (n64 q.l), .slice (some ⟨g_g2, 0, none⟩) q.rs.length c_g2, .bool t]) ∧ Hid (wx.ownsRow 0 92 2 (.slice (some ⟨g_w1, 0, none⟩) p.rs.length c_w1) p.rs.length (mrs p.rs)) ∧ Hid (wx.ownsRow 0 92 2 (.slice (some ⟨g_w2, 0, none⟩) q.rs.length c_w2) q.rs.length (mrs q.rs)) ∧ Hid (wx.ownsRow 0 92 2 (.slice (some ⟨g_x1, 0, none⟩) p.rs.length p.rs.length) p.rs.length (mrs (marksM 1 p.rs.length))) ∧ Hid (wx.ownsRow 0 92 2 (.slice (some ⟨g_x2, 0, none⟩) q.rs.length q.rs.length) q.rs.length (mrs (marksM (1 + 2 * p.rs.length) q.rs.length))) ∧ Hid (wx.ownsRow 0 92 2 (.slice (some ⟨g_y, 0, none⟩) m.rs.length m.rs.length) m.rs.length (mrs (marksM (1 + 2 * p.rs.length + 2 * q.rs.length) m.rs.length))) ∧ Hid (wx.ownsRow 0 92 2 (.slice (some ⟨g_g1, 0, none⟩) p.rs.length c_g1) p.rs.length (mrs (marksM 1 p.rs.length))) ∧ Hid (wx.ownsRow 0 92 2 (.slice (some ⟨g_g2, 0, none⟩) q.rs.length c_g2) q.rs.length (mrs (marksM (1 + 2 * p.rs.length) q.rs.length))) ∧ Hid (wx.ownsRow 0 92 2 (.slice (some ⟨g_z1, 0, none⟩) p.rs.length p.rs.length) p.rs.length (mrs p.rs)) ∧ Hid (wx.ownsRow 0 92 2 (.slice (some ⟨g_z2, 0, none⟩) q.rs.length q.rs.length) q.rs.length (mrs q.rs)) ∧ Hid (wx.ownsRow 0 92 2 (.slice (some ⟨g_v, 0, none⟩) m.rs.length m.rs.length) m.rs.length (mrs m.rs)) ∧ Hid (Blk wx g_H [.int .i64 e, .bool p.u, .int .u64 (n64 p.k), .int .u64 (n64 p.l), .slice (some ⟨g_h1, 0, none⟩) p.rs.length c_h1, .bool q.u, .int .u64 (n64 q.k), .int .u64 (n64 q.l), .slice (some ⟨g_h2, 0, none⟩) q.rs.length c_h2, .bool t]) ∧ Hid (wx.ownsRow 0 92 2 (.slice (some ⟨g_h1, 0, none⟩) p.rs.length c_h1) p.rs.length (mrs p.rs)) ∧ Hid (wx.ownsRow 0 92 2 (.slice (some ⟨g_h2, 0, none⟩) q.rs.length c_h2) q.rs.length (mrs q.rs)) ∧ (g_K ≠ g_H ∧ g_K ≠ g_h1 ∧ g_K ≠ g_h2 ∧ g_M ≠ g_H ∧ g_M ≠ g_h1 ∧ g_M ≠ g_h2 ∧ g_W ≠ g_H ∧ g_W ≠ g_h1 ∧ g_W ≠ g_h2 ∧ g_X ≠ g_H ∧ g_X ≠ g_h1 ∧ g_X ≠ g_h2 ∧ g_Y ≠ g_H ∧ g_Y ≠ g_h1 ∧ g_Y ≠ g_h2 ∧ g_G ≠ g_H ∧ g_G ≠ g_h1 ∧ g_G ≠ g_h2 ∧ g_w1 ≠ g_H ∧ g_w1 ≠ g_h1 ∧ g_w1 ≠ g_h2 ∧ g_w2 ≠ g_H ∧ g_w2 ≠ g_h1 ∧ g_w2 ≠ g_h2 ∧ g_x1 ≠ g_H ∧ g_x1 ≠ g_h1 ∧ g_x1 ≠ g_h2 ∧ g_x2 ≠ g_H ∧ g_x2 ≠ g_h1 ∧ g_x2 ≠ g_h2 ∧ g_y ≠ g_H ∧ g_y ≠ g_h1 ∧ g_y ≠ g_h2 ∧ g_g1 ≠ g_H ∧ g_g1 ≠ g_h1 ∧ g_g1 ≠ g_h2 ∧ g_g2 ≠ g_H ∧ g_g2 ≠ g_h1 ∧ g_g2 ≠ g_h2 ∧ g_z1 ≠ g_H ∧ g_z1 ≠ g_h1 ∧ g_z1 ≠ g_h2 ∧ g_z2 ≠ g_H ∧ g_z2 ≠ g_h1 ∧ g_z2 ≠ g_h2 ∧ g_v ≠ g_H ∧ g_v ≠ g_h1 ∧ g_v ≠ g_h2 ∧ g_H ≠ g_h1 ∧ g_H ≠ g_h2 ∧ g_h1 ≠ g_h2) ∧ (w.heap.size ≤ g_H ∧ w.heap.size ≤ g_h1 ∧ w.heap.size ≤ g_h2))
    case first =>
      refine wp_region_noPanic ?_
      refine wp_region_held_drew (S := fun w' => Blk w' g_K [.int .i64 e, .bool p.u, .int .u64 (n64 p.k), .int .u64 (n64 p.l), .slice p.a p.rs.length p.c, .bool q.u, .int .u64 (n64 q.k), .int .u64 (n64 q.l), .slice q.a q.rs.length q.c, .bool t] ∧ Blk w' g_M [.bool m.u, .int .u64 (n64 m.k), .int .u64 (n64 m.l), .slice m.a m.rs.length m.c]) (by kernel_rfl) ⟨KK126.out, KM126.out⟩ (fun hS => ?_)
      have B127 := Lib.hid (show Below w.heap.size w v126.drew from B126.out.drew)
      have KK127 := Lib.hid (show Blk v126.drew g_K [.int .i64 e, .bool p.u, .int .u64 (n64 p.k), .int .u64 (n64 p.l), .slice p.a p.rs.length p.c, .bool q.u, .int .u64 (n64 q.k), .int .u64 (n64 q.l), .slice q.a q.rs.length q.c, .bool t] from KK126.out.drew)
      have KM127 := Lib.hid (show Blk v126.drew g_M [.bool m.u, .int .u64 (n64 m.k), .int .u64 (n64 m.l), .slice m.a m.rs.length m.c] from KM126.out.drew)
      have KW127 := Lib.hid (show Blk v126.drew g_W [.int .i64 e, .bool p.u, .int .u64 (n64 p.k), .int .u64 (n64 p.l), .slice (some ⟨g_w1, 0, none⟩) p.rs.length c_w1, .bool q.u, .int .u64 (n64 q.k), .int .u64 (n64 q.l), .slice (some ⟨g_w2, 0, none⟩) q.rs.length c_w2, .bool t] from KW126.out.drew)
      have KX127 := Lib.hid (show Blk v126.drew g_X [.int .i64 e, .bool p.u, .int .u64 (n64 p.k), .int .u64 (n64 p.l), .slice (some ⟨g_x1, 0, none⟩) p.rs.length p.rs.length, .bool q.u, .int .u64 (n64 q.k), .int .u64 (n64 q.l), .slice (some ⟨g_x2, 0, none⟩) q.rs.length q.rs.length, .bool t] from KX126.out.drew)
      have KY127 := Lib.hid (show Blk v126.drew g_Y [.bool m.u, .int .u64 (n64 m.k), .int .u64 (n64 m.l), .slice (some ⟨g_y, 0, none⟩) m.rs.length m.rs.length] from KY126.out.drew)
      have KG127 := Lib.hid (show Blk v126.drew g_G [.int .i64 e, .bool p.u, .int .u64 (n64 p.k), .int .u64 (n64 p.l), .slice (some ⟨g_g1, 0, none⟩) p.rs.length c_g1, .bool q.u, .int .u64 (n64 q.k), .int .u64 (n64 q.l), .slice (some ⟨g_g2, 0, none⟩) q.rs.length c_g2, .bool t] from KG126.out.drew)
      have Ow1127 := Lib.hid (Ow1126.out.kept (below_any (row := none) (Below.refl _ v126).drew) (.inr (by simp [Value.ownBlock])))
      have Ow2127 := Lib.hid (Ow2126.out.kept (below_any (row := none) (Below.refl _ v126).drew) (.inr (by simp [Value.ownBlock])))
      have Ox1127 := Lib.hid (Ox1126.out.kept (below_any (row := none) (Below.refl _ v126).drew) (.inr (by simp [Value.ownBlock])))
      have Ox2127 := Lib.hid (Ox2126.out.kept (below_any (row := none) (Below.refl _ v126).drew) (.inr (by simp [Value.ownBlock])))
      have Oy127 := Lib.hid (Oy126.out.kept (below_any (row := none) (Below.refl _ v126).drew) (.inr (by simp [Value.ownBlock])))
      have Og1127 := Lib.hid (Og1126.out.kept (below_any (row := none) (Below.refl _ v126).drew) (.inr (by simp [Value.ownBlock])))
      have Og2127 := Lib.hid (Og2126.out.kept (below_any (row := none) (Below.refl _ v126).drew) (.inr (by simp [Value.ownBlock])))
      have Oz1127 := Lib.hid (Oz1126.out.kept (below_any (row := none) (Below.refl _ v126).drew) (.inr (by simp [Value.ownBlock])))
      have Oz2127 := Lib.hid (Oz2126.out.kept (below_any (row := none) (Below.refl _ v126).drew) (.inr (by simp [Value.ownBlock])))
      have Ov127 := Lib.hid (Ov126.out.kept (below_any (row := none) (Below.refl _ v126).drew) (.inr (by simp [Value.ownBlock])))
      clear hS B126 KK126 KM126 KW126 KX126 KY126 KG126 Ow1126 Ow2126 Ox1126 Ox2126 Oy126 Og1126 Og2126 Oz1126 Oz2126 Ov126
      generalize v126.drew = v127 at B127 KK127 KM127 KW127 KX127 KY127 KG127 Ow1127 Ow2127 Ox1127 Ox2127 Oy127 Og1127 Og2127 Oz1127 Oz2127 Ov127 ⊢
      have hS : Blk v127 g_K [.int .i64 e, .bool p.u, .int .u64 (n64 p.k), .int .u64 (n64 p.l), .slice p.a p.rs.length p.c, .bool q.u, .int .u64 (n64 q.k), .int .u64 (n64 q.l), .slice q.a q.rs.length q.c, .bool t] ∧ Blk v127 g_M [.bool m.u, .int .u64 (n64 m.k), .int .u64 (n64 m.l), .slice m.a m.rs.length m.c] := ⟨KK127.out, KM127.out⟩
      refine wpAnyH_take (i := 0) (v := .agg #[.int .i64 e, .bool p.u, .int .u64 (n64 p.k), .int .u64 (n64 p.l), .slice p.a p.rs.length p.c, .bool q.u, .int .u64 (n64 q.k), .int .u64 (n64 q.l), .slice q.a q.rs.length q.c, .bool t]) rfl (by kernel_rfl) (by kernel_rfl) (by kernel_rfl) (fun _ _ _ h => h) (Or.inl ⟨rfl, by intro w hS; obtain ⟨⟨h0, h1, h2, h3, h4, h5, h6, h7, h8, h9⟩, _⟩ := hS.1.of10; go_simp⟩) hS ?_
      refine wpAnyH_take (i := 2) (v := .agg #[.bool m.u, .int .u64 (n64 m.k), .int .u64 (n64 m.l), .slice m.a m.rs.length m.c]) rfl (by kernel_rfl) (by kernel_rfl) (by kernel_rfl) (fun _ _ _ h => h) (Or.inl ⟨rfl, by intro w hS; obtain ⟨⟨h0, h1, h2, h3⟩, _⟩ := hS.2.four; go_simp⟩) hS ?_
      refine wpAnyH_ready (rs := [1, 5]) (by kernel_rfl) (by simp) ?_
      refine AllReadyH.cons (i := 1) rfl (fun K hK => ?zx53) (AllReadyH.cons (i := 5) rfl (fun K hK => ?zx52) AllReadyH.nil)
      · rw [if_pos (by rfl)]
        go_simp
        clear hS
        refine (toKeys_any e p q t _ ((HP.out.2.below B127.out).mono B127.out.size) ((HQ.out.2.below B127.out).mono B127.out.size) fp.out fq.out).mono ?_
        rintro e v128 ⟨g_k1, g_k2, n_k1_k2, rfl, ho_k1, ho_k2, hb⟩
        have n_K_k1 : g_K ≠ g_k1 := by have h1 := KK127.out.lt; have h2 := (ho_k1.lt g_k1 rfl).1; omega
        have n_M_k1 : g_M ≠ g_k1 := by have h1 := KM127.out.lt; have h2 := (ho_k1.lt g_k1 rfl).1; omega
        have n_W_k1 : g_W ≠ g_k1 := by have h1 := KW127.out.lt; have h2 := (ho_k1.lt g_k1 rfl).1; omega
        have n_X_k1 : g_X ≠ g_k1 := by have h1 := KX127.out.lt; have h2 := (ho_k1.lt g_k1 rfl).1; omega
        have n_Y_k1 : g_Y ≠ g_k1 := by have h1 := KY127.out.lt; have h2 := (ho_k1.lt g_k1 rfl).1; omega
        have n_G_k1 : g_G ≠ g_k1 := by have h1 := KG127.out.lt; have h2 := (ho_k1.lt g_k1 rfl).1; omega
        have n_w1_k1 : g_w1 ≠ g_k1 := by have h1 := (Ow1127.out.lt g_w1 rfl).2; have h2 := (ho_k1.lt g_k1 rfl).1; omega
        have n_w2_k1 : g_w2 ≠ g_k1 := by have h1 := (Ow2127.out.lt g_w2 rfl).2; have h2 := (ho_k1.lt g_k1 rfl).1; omega
        have n_x1_k1 : g_x1 ≠ g_k1 := by have h1 := (Ox1127.out.lt g_x1 rfl).2; have h2 := (ho_k1.lt g_k1 rfl).1; omega
        have n_x2_k1 : g_x2 ≠ g_k1 := by have h1 := (Ox2127.out.lt g_x2 rfl).2; have h2 := (ho_k1.lt g_k1 rfl).1; omega
        have n_y_k1 : g_y ≠ g_k1 := by have h1 := (Oy127.out.lt g_y rfl).2; have h2 := (ho_k1.lt g_k1 rfl).1; omega
        have n_g1_k1 : g_g1 ≠ g_k1 := by have h1 := (Og1127.out.lt g_g1 rfl).2; have h2 := (ho_k1.lt g_k1 rfl).1; omega
        have n_g2_k1 : g_g2 ≠ g_k1 := by have h1 := (Og2127.out.lt g_g2 rfl).2; have h2 := (ho_k1.lt g_k1 rfl).1; omega
        have n_z1_k1 : g_z1 ≠ g_k1 := by have h1 := (Oz1127.out.lt g_z1 rfl).2; have h2 := (ho_k1.lt g_k1 rfl).1; omega
        have n_z2_k1 : g_z2 ≠ g_k1 := by have h1 := (Oz2127.out.lt g_z2 rfl).2; have h2 := (ho_k1.lt g_k1 rfl).1; omega
        have n_v_k1 : g_v ≠ g_k1 := by have h1 := (Ov127.out.lt g_v rfl).2; have h2 := (ho_k1.lt g_k1 rfl).1; omega
        have l_k1 : w.heap.size ≤ g_k1 := Nat.le_trans B127.out.size (ho_k1.lt g_k1 rfl).1
        have n_K_k2 : g_K ≠ g_k2 := by have h1 := KK127.out.lt; have h2 := (ho_k2.lt g_k2 rfl).1; omega
        have n_M_k2 : g_M ≠ g_k2 := by have h1 := KM127.out.lt; have h2 := (ho_k2.lt g_k2 rfl).1; omega
        have n_W_k2 : g_W ≠ g_k2 := by have h1 := KW127.out.lt; have h2 := (ho_k2.lt g_k2 rfl).1; omega
        have n_X_k2 : g_X ≠ g_k2 := by have h1 := KX127.out.lt; have h2 := (ho_k2.lt g_k2 rfl).1; omega
        have n_Y_k2 : g_Y ≠ g_k2 := by have h1 := KY127.out.lt; have h2 := (ho_k2.lt g_k2 rfl).1; omega
        have n_G_k2 : g_G ≠ g_k2 := by have h1 := KG127.out.lt; have h2 := (ho_k2.lt g_k2 rfl).1; omega
        have n_w1_k2 : g_w1 ≠ g_k2 := by have h1 := (Ow1127.out.lt g_w1 rfl).2; have h2 := (ho_k2.lt g_k2 rfl).1; omega
        have n_w2_k2 : g_w2 ≠ g_k2 := by have h1 := (Ow2127.out.lt g_w2 rfl).2; have h2 := (ho_k2.lt g_k2 rfl).1; omega
        have n_x1_k2 : g_x1 ≠ g_k2 := by have h1 := (Ox1127.out.lt g_x1 rfl).2; have h2 := (ho_k2.lt g_k2 rfl).1; omega
        have n_x2_k2 : g_x2 ≠ g_k2 := by have h1 := (Ox2127.out.lt g_x2 rfl).2; have h2 := (ho_k2.lt g_k2 rfl).1; omega
        have n_y_k2 : g_y ≠ g_k2 := by have h1 := (Oy127.out.lt g_y rfl).2; have h2 := (ho_k2.lt g_k2 rfl).1; omega
        have n_g1_k2 : g_g1 ≠ g_k2 := by have h1 := (Og1127.out.lt g_g1 rfl).2; have h2 := (ho_k2.lt g_k2 rfl).1; omega
        have n_g2_k2 : g_g2 ≠ g_k2 := by have h1 := (Og2127.out.lt g_g2 rfl).2; have h2 := (ho_k2.lt g_k2 rfl).1; omega
        have n_z1_k2 : g_z1 ≠ g_k2 := by have h1 := (Oz1127.out.lt g_z1 rfl).2; have h2 := (ho_k2.lt g_k2 rfl).1; omega
        have n_z2_k2 : g_z2 ≠ g_k2 := by have h1 := (Oz2127.out.lt g_z2 rfl).2; have h2 := (ho_k2.lt g_k2 rfl).1; omega
        have n_v_k2 : g_v ≠ g_k2 := by have h1 := (Ov127.out.lt g_v rfl).2; have h2 := (ho_k2.lt g_k2 rfl).1; omega
        have l_k2 : w.heap.size ≤ g_k2 := Nat.le_trans B127.out.size (ho_k2.lt g_k2 rfl).1
        have B128 := Lib.hid (B127.out.trans (hb.mono B127.out.size))
        have KK128 := Lib.hid (KK127.out.below hb)
        have KM128 := Lib.hid (KM127.out.below hb)
        have KW128 := Lib.hid (KW127.out.below hb)
        have KX128 := Lib.hid (KX127.out.below hb)
        have KY128 := Lib.hid (KY127.out.below hb)
        have KG128 := Lib.hid (KG127.out.below hb)
        have Ow1128 := Lib.hid (Ow1127.out.kept (below_any (row := none) hb) (.inr (by simp [Value.ownBlock])))
        have Ow2128 := Lib.hid (Ow2127.out.kept (below_any (row := none) hb) (.inr (by simp [Value.ownBlock])))
        have Ox1128 := Lib.hid (Ox1127.out.kept (below_any (row := none) hb) (.inr (by simp [Value.ownBlock])))
        have Ox2128 := Lib.hid (Ox2127.out.kept (below_any (row := none) hb) (.inr (by simp [Value.ownBlock])))
        have Oy128 := Lib.hid (Oy127.out.kept (below_any (row := none) hb) (.inr (by simp [Value.ownBlock])))
        have Og1128 := Lib.hid (Og1127.out.kept (below_any (row := none) hb) (.inr (by simp [Value.ownBlock])))
        have Og2128 := Lib.hid (Og2127.out.kept (below_any (row := none) hb) (.inr (by simp [Value.ownBlock])))
        have Oz1128 := Lib.hid (Oz1127.out.kept (below_any (row := none) hb) (.inr (by simp [Value.ownBlock])))
        have Oz2128 := Lib.hid (Oz2127.out.kept (below_any (row := none) hb) (.inr (by simp [Value.ownBlock])))
        have Ov128 := Lib.hid (Ov127.out.kept (below_any (row := none) hb) (.inr (by simp [Value.ownBlock])))
        have Ok1128 := Lib.hid (own_down ho_k1 (Nat.zero_le _))
        have Ok2128 := Lib.hid (own_down ho_k2 (Nat.zero_le _))
        clear hb B127 KK127 KM127 KW127 KX127 KY127 KG127 Ow1127 Ow2127 Ox1127 Ox2127 Oy127 Og1127 Og2127 Oz1127 Oz2127 Ov127 ho_k1 ho_k2
        refine hK.out _ _ ⟨KK128.out, KM128.out⟩ (fun hS => ?_)
        clear hK K
        refine wpAnyH_ready (rs := [3, 5]) (by kernel_rfl) (by simp) ?_
        refine AllReadyH.cons (i := 3) rfl (fun K hK => ?zx55) (AllReadyH.cons (i := 5) rfl (fun K hK => ?zx54) AllReadyH.nil)
        · rw [if_pos (by rfl)]
          go_simp
          clear hS
          refine (toMac_any m.u (n64 m.k) (n64 m.l) m.a m.c m.rs _ ((HM.out.2.below B128.out).mono B128.out.size) fm.out).mono ?_
          rintro e v129 ⟨g_n, rfl, ho_n, hb⟩
          have n_K_n : g_K ≠ g_n := by have h1 := KK128.out.lt; have h2 := (ho_n.lt g_n rfl).1; omega
          have n_M_n : g_M ≠ g_n := by have h1 := KM128.out.lt; have h2 := (ho_n.lt g_n rfl).1; omega
          have n_W_n : g_W ≠ g_n := by have h1 := KW128.out.lt; have h2 := (ho_n.lt g_n rfl).1; omega
          have n_X_n : g_X ≠ g_n := by have h1 := KX128.out.lt; have h2 := (ho_n.lt g_n rfl).1; omega
          have n_Y_n : g_Y ≠ g_n := by have h1 := KY128.out.lt; have h2 := (ho_n.lt g_n rfl).1; omega
          have n_G_n : g_G ≠ g_n := by have h1 := KG128.out.lt; have h2 := (ho_n.lt g_n rfl).1; omega
          have n_w1_n : g_w1 ≠ g_n := by have h1 := (Ow1128.out.lt g_w1 rfl).2; have h2 := (ho_n.lt g_n rfl).1; omega
          have n_w2_n : g_w2 ≠ g_n := by have h1 := (Ow2128.out.lt g_w2 rfl).2; have h2 := (ho_n.lt g_n rfl).1; omega
          have n_x1_n : g_x1 ≠ g_n := by have h1 := (Ox1128.out.lt g_x1 rfl).2; have h2 := (ho_n.lt g_n rfl).1; omega
          have n_x2_n : g_x2 ≠ g_n := by have h1 := (Ox2128.out.lt g_x2 rfl).2; have h2 := (ho_n.lt g_n rfl).1; omega
          have n_y_n : g_y ≠ g_n := by have h1 := (Oy128.out.lt g_y rfl).2; have h2 := (ho_n.lt g_n rfl).1; omega
          have n_g1_n : g_g1 ≠ g_n := by have h1 := (Og1128.out.lt g_g1 rfl).2; have h2 := (ho_n.lt g_n rfl).1; omega
          have n_g2_n : g_g2 ≠ g_n := by have h1 := (Og2128.out.lt g_g2 rfl).2; have h2 := (ho_n.lt g_n rfl).1; omega
          have n_z1_n : g_z1 ≠ g_n := by have h1 := (Oz1128.out.lt g_z1 rfl).2; have h2 := (ho_n.lt g_n rfl).1; omega
          have n_z2_n : g_z2 ≠ g_n := by have h1 := (Oz2128.out.lt g_z2 rfl).2; have h2 := (ho_n.lt g_n rfl).1; omega
          have n_v_n : g_v ≠ g_n := by have h1 := (Ov128.out.lt g_v rfl).2; have h2 := (ho_n.lt g_n rfl).1; omega
          have n_k1_n : g_k1 ≠ g_n := by have h1 := (Ok1128.out.lt g_k1 rfl).2; have h2 := (ho_n.lt g_n rfl).1; omega
          have n_k2_n : g_k2 ≠ g_n := by have h1 := (Ok2128.out.lt g_k2 rfl).2; have h2 := (ho_n.lt g_n rfl).1; omega
          have l_n : w.heap.size ≤ g_n := Nat.le_trans B128.out.size (ho_n.lt g_n rfl).1
          have B129 := Lib.hid (B128.out.trans (hb.mono B128.out.size))
          have KK129 := Lib.hid (KK128.out.below hb)
          have KM129 := Lib.hid (KM128.out.below hb)
          have KW129 := Lib.hid (KW128.out.below hb)
          have KX129 := Lib.hid (KX128.out.below hb)
          have KY129 := Lib.hid (KY128.out.below hb)
          have KG129 := Lib.hid (KG128.out.below hb)
          have Ow1129 := Lib.hid (Ow1128.out.kept (below_any (row := none) hb) (.inr (by simp [Value.ownBlock])))
          have Ow2129 := Lib.hid (Ow2128.out.kept (below_any (row := none) hb) (.inr (by simp [Value.ownBlock])))
          have Ox1129 := Lib.hid (Ox1128.out.kept (below_any (row := none) hb) (.inr (by simp [Value.ownBlock])))
          have Ox2129 := Lib.hid (Ox2128.out.kept (below_any (row := none) hb) (.inr (by simp [Value.ownBlock])))
          have Oy129 := Lib.hid (Oy128.out.kept (below_any (row := none) hb) (.inr (by simp [Value.ownBlock])))
          have Og1129 := Lib.hid (Og1128.out.kept (below_any (row := none) hb) (.inr (by simp [Value.ownBlock])))
          have Og2129 := Lib.hid (Og2128.out.kept (below_any (row := none) hb) (.inr (by simp [Value.ownBlock])))
          have Oz1129 := Lib.hid (Oz1128.out.kept (below_any (row := none) hb) (.inr (by simp [Value.ownBlock])))
          have Oz2129 := Lib.hid (Oz2128.out.kept (below_any (row := none) hb) (.inr (by simp [Value.ownBlock])))
          have Ov129 := Lib.hid (Ov128.out.kept (below_any (row := none) hb) (.inr (by simp [Value.ownBlock])))
          have Ok1129 := Lib.hid (Ok1128.out.kept (below_any (row := none) hb) (.inr (by simp [Value.ownBlock])))
          have Ok2129 := Lib.hid (Ok2128.out.kept (below_any (row := none) hb) (.inr (by simp [Value.ownBlock])))
          have On129 := Lib.hid (own_down ho_n (Nat.zero_le _))
          clear hb B128 KK128 KM128 KW128 KX128 KY128 KG128 Ow1128 Ow2128 Ox1128 Ox2128 Oy128 Og1128 Og2128 Oz1128 Oz2128 Ov128 Ok1128 Ok2128 ho_n
          refine hK.out _ _ ⟨KK129.out, KM129.out⟩ (fun hS => ?_)
          clear hK K
          refine wpAnyH_ready (rs := [4, 5]) (by kernel_rfl) (by simp) ?_
          refine AllReadyH.cons (i := 4) rfl (fun K hK => ?zx57) (AllReadyH.cons (i := 5) rfl (fun K hK => ?zx56) AllReadyH.nil)
          · rw [if_pos (by rfl)]
            go_simp
            clear hS
            refine (C2.out g_k1 g_k2 g_n p.rs.length q.rs.length m.rs.length _ (M.on_at Ok1129.out) (M.on_at Ok2129.out) (M.on_at On129.out) Fp.out Fq.out Fm.out).mono ?_
            rintro e v130 ⟨g_h1, g_h2, c_h1, c_h2, n_h1_h2, rfl, ho_h1, ho_h2, hb⟩
            have n_K_h1 : g_K ≠ g_h1 := by have h1 := KK129.out.lt; have h2 := (ho_h1.lt g_h1 rfl).1; omega
            have n_M_h1 : g_M ≠ g_h1 := by have h1 := KM129.out.lt; have h2 := (ho_h1.lt g_h1 rfl).1; omega
            have n_W_h1 : g_W ≠ g_h1 := by have h1 := KW129.out.lt; have h2 := (ho_h1.lt g_h1 rfl).1; omega
            have n_X_h1 : g_X ≠ g_h1 := by have h1 := KX129.out.lt; have h2 := (ho_h1.lt g_h1 rfl).1; omega
            have n_Y_h1 : g_Y ≠ g_h1 := by have h1 := KY129.out.lt; have h2 := (ho_h1.lt g_h1 rfl).1; omega
            have n_G_h1 : g_G ≠ g_h1 := by have h1 := KG129.out.lt; have h2 := (ho_h1.lt g_h1 rfl).1; omega
            have n_w1_h1 : g_w1 ≠ g_h1 := by have h1 := (Ow1129.out.lt g_w1 rfl).2; have h2 := (ho_h1.lt g_h1 rfl).1; omega
            have n_w2_h1 : g_w2 ≠ g_h1 := by have h1 := (Ow2129.out.lt g_w2 rfl).2; have h2 := (ho_h1.lt g_h1 rfl).1; omega
            have n_x1_h1 : g_x1 ≠ g_h1 := by have h1 := (Ox1129.out.lt g_x1 rfl).2; have h2 := (ho_h1.lt g_h1 rfl).1; omega
            have n_x2_h1 : g_x2 ≠ g_h1 := by have h1 := (Ox2129.out.lt g_x2 rfl).2; have h2 := (ho_h1.lt g_h1 rfl).1; omega
            have n_y_h1 : g_y ≠ g_h1 := by have h1 := (Oy129.out.lt g_y rfl).2; have h2 := (ho_h1.lt g_h1 rfl).1; omega
            have n_g1_h1 : g_g1 ≠ g_h1 := by have h1 := (Og1129.out.lt g_g1 rfl).2; have h2 := (ho_h1.lt g_h1 rfl).1; omega
            have n_g2_h1 : g_g2 ≠ g_h1 := by have h1 := (Og2129.out.lt g_g2 rfl).2; have h2 := (ho_h1.lt g_h1 rfl).1; omega
            have n_z1_h1 : g_z1 ≠ g_h1 := by have h1 := (Oz1129.out.lt g_z1 rfl).2; have h2 := (ho_h1.lt g_h1 rfl).1; omega
            have n_z2_h1 : g_z2 ≠ g_h1 := by have h1 := (Oz2129.out.lt g_z2 rfl).2; have h2 := (ho_h1.lt g_h1 rfl).1; omega
            have n_v_h1 : g_v ≠ g_h1 := by have h1 := (Ov129.out.lt g_v rfl).2; have h2 := (ho_h1.lt g_h1 rfl).1; omega
            have n_k1_h1 : g_k1 ≠ g_h1 := by have h1 := (Ok1129.out.lt g_k1 rfl).2; have h2 := (ho_h1.lt g_h1 rfl).1; omega
            have n_k2_h1 : g_k2 ≠ g_h1 := by have h1 := (Ok2129.out.lt g_k2 rfl).2; have h2 := (ho_h1.lt g_h1 rfl).1; omega
            have n_n_h1 : g_n ≠ g_h1 := by have h1 := (On129.out.lt g_n rfl).2; have h2 := (ho_h1.lt g_h1 rfl).1; omega
            have l_h1 : w.heap.size ≤ g_h1 := Nat.le_trans B129.out.size (ho_h1.lt g_h1 rfl).1
            have n_K_h2 : g_K ≠ g_h2 := by have h1 := KK129.out.lt; have h2 := (ho_h2.lt g_h2 rfl).1; omega
            have n_M_h2 : g_M ≠ g_h2 := by have h1 := KM129.out.lt; have h2 := (ho_h2.lt g_h2 rfl).1; omega
            have n_W_h2 : g_W ≠ g_h2 := by have h1 := KW129.out.lt; have h2 := (ho_h2.lt g_h2 rfl).1; omega
            have n_X_h2 : g_X ≠ g_h2 := by have h1 := KX129.out.lt; have h2 := (ho_h2.lt g_h2 rfl).1; omega
            have n_Y_h2 : g_Y ≠ g_h2 := by have h1 := KY129.out.lt; have h2 := (ho_h2.lt g_h2 rfl).1; omega
            have n_G_h2 : g_G ≠ g_h2 := by have h1 := KG129.out.lt; have h2 := (ho_h2.lt g_h2 rfl).1; omega
            have n_w1_h2 : g_w1 ≠ g_h2 := by have h1 := (Ow1129.out.lt g_w1 rfl).2; have h2 := (ho_h2.lt g_h2 rfl).1; omega
            have n_w2_h2 : g_w2 ≠ g_h2 := by have h1 := (Ow2129.out.lt g_w2 rfl).2; have h2 := (ho_h2.lt g_h2 rfl).1; omega
            have n_x1_h2 : g_x1 ≠ g_h2 := by have h1 := (Ox1129.out.lt g_x1 rfl).2; have h2 := (ho_h2.lt g_h2 rfl).1; omega
            have n_x2_h2 : g_x2 ≠ g_h2 := by have h1 := (Ox2129.out.lt g_x2 rfl).2; have h2 := (ho_h2.lt g_h2 rfl).1; omega
            have n_y_h2 : g_y ≠ g_h2 := by have h1 := (Oy129.out.lt g_y rfl).2; have h2 := (ho_h2.lt g_h2 rfl).1; omega
            have n_g1_h2 : g_g1 ≠ g_h2 := by have h1 := (Og1129.out.lt g_g1 rfl).2; have h2 := (ho_h2.lt g_h2 rfl).1; omega
            have n_g2_h2 : g_g2 ≠ g_h2 := by have h1 := (Og2129.out.lt g_g2 rfl).2; have h2 := (ho_h2.lt g_h2 rfl).1; omega
            have n_z1_h2 : g_z1 ≠ g_h2 := by have h1 := (Oz1129.out.lt g_z1 rfl).2; have h2 := (ho_h2.lt g_h2 rfl).1; omega
            have n_z2_h2 : g_z2 ≠ g_h2 := by have h1 := (Oz2129.out.lt g_z2 rfl).2; have h2 := (ho_h2.lt g_h2 rfl).1; omega
            have n_v_h2 : g_v ≠ g_h2 := by have h1 := (Ov129.out.lt g_v rfl).2; have h2 := (ho_h2.lt g_h2 rfl).1; omega
            have n_k1_h2 : g_k1 ≠ g_h2 := by have h1 := (Ok1129.out.lt g_k1 rfl).2; have h2 := (ho_h2.lt g_h2 rfl).1; omega
            have n_k2_h2 : g_k2 ≠ g_h2 := by have h1 := (Ok2129.out.lt g_k2 rfl).2; have h2 := (ho_h2.lt g_h2 rfl).1; omega
            have n_n_h2 : g_n ≠ g_h2 := by have h1 := (On129.out.lt g_n rfl).2; have h2 := (ho_h2.lt g_h2 rfl).1; omega
            have l_h2 : w.heap.size ≤ g_h2 := Nat.le_trans B129.out.size (ho_h2.lt g_h2 rfl).1
            have B130 := Lib.hid (B129.out.trans (hb.mono B129.out.size))
            have KK130 := Lib.hid (KK129.out.below hb)
            have KM130 := Lib.hid (KM129.out.below hb)
            have KW130 := Lib.hid (KW129.out.below hb)
            have KX130 := Lib.hid (KX129.out.below hb)
            have KY130 := Lib.hid (KY129.out.below hb)
            have KG130 := Lib.hid (KG129.out.below hb)
            have Ow1130 := Lib.hid (Ow1129.out.kept (below_any (row := none) hb) (.inr (by simp [Value.ownBlock])))
            have Ow2130 := Lib.hid (Ow2129.out.kept (below_any (row := none) hb) (.inr (by simp [Value.ownBlock])))
            have Ox1130 := Lib.hid (Ox1129.out.kept (below_any (row := none) hb) (.inr (by simp [Value.ownBlock])))
            have Ox2130 := Lib.hid (Ox2129.out.kept (below_any (row := none) hb) (.inr (by simp [Value.ownBlock])))
            have Oy130 := Lib.hid (Oy129.out.kept (below_any (row := none) hb) (.inr (by simp [Value.ownBlock])))
            have Og1130 := Lib.hid (Og1129.out.kept (below_any (row := none) hb) (.inr (by simp [Value.ownBlock])))
            have Og2130 := Lib.hid (Og2129.out.kept (below_any (row := none) hb) (.inr (by simp [Value.ownBlock])))
            have Oz1130 := Lib.hid (Oz1129.out.kept (below_any (row := none) hb) (.inr (by simp [Value.ownBlock])))
            have Oz2130 := Lib.hid (Oz2129.out.kept (below_any (row := none) hb) (.inr (by simp [Value.ownBlock])))
            have Ov130 := Lib.hid (Ov129.out.kept (below_any (row := none) hb) (.inr (by simp [Value.ownBlock])))
            have Ok1130 := Lib.hid (Ok1129.out.kept (below_any (row := none) hb) (.inr (by simp [Value.ownBlock])))
            have Ok2130 := Lib.hid (Ok2129.out.kept (below_any (row := none) hb) (.inr (by simp [Value.ownBlock])))
            have On130 := Lib.hid (On129.out.kept (below_any (row := none) hb) (.inr (by simp [Value.ownBlock])))
            have Oh1130 := Lib.hid (own_down ho_h1 (Nat.zero_le _))
            have Oh2130 := Lib.hid (own_down ho_h2 (Nat.zero_le _))
            clear hb B129 KK129 KM129 KW129 KX129 KY129 KG129 Ow1129 Ow2129 Ox1129 Ox2129 Oy129 Og1129 Og2129 Oz1129 Oz2129 Ov129 Ok1129 Ok2129 On129 ho_h1 ho_h2
            refine hK.out _ _ ⟨KK130.out, KM130.out⟩ (fun hS => ?_)
            clear hK K
            refine wpAnyH_ready (rs := [5]) (by kernel_rfl) (by simp) ?_
            refine AllReadyH.cons (i := 5) rfl (fun K hK => ?zx58) AllReadyH.nil
            rw [if_pos (by rfl)]
            go_simp
            clear hS
            have B131 := Lib.hid (B130.out.alloc B130.out.size (.cells #[.int .i64 0, .bool false, .int .u64 0, .int .u64 0, .slice none 0 0, .bool false, .int .u64 0, .int .u64 0, .slice none 0 0, .bool false] 29))
            have l_H : w.heap.size ≤ v130.heap.size := B130.out.size
            have n_K_H : g_K ≠ v130.heap.size := by have h1 := KK130.out.lt; omega
            have n_M_H : g_M ≠ v130.heap.size := by have h1 := KM130.out.lt; omega
            have n_W_H : g_W ≠ v130.heap.size := by have h1 := KW130.out.lt; omega
            have n_X_H : g_X ≠ v130.heap.size := by have h1 := KX130.out.lt; omega
            have n_Y_H : g_Y ≠ v130.heap.size := by have h1 := KY130.out.lt; omega
            have n_G_H : g_G ≠ v130.heap.size := by have h1 := KG130.out.lt; omega
            have n_w1_H : g_w1 ≠ v130.heap.size := by have h1 := (Ow1130.out.lt g_w1 rfl).2; omega
            have n_w2_H : g_w2 ≠ v130.heap.size := by have h1 := (Ow2130.out.lt g_w2 rfl).2; omega
            have n_x1_H : g_x1 ≠ v130.heap.size := by have h1 := (Ox1130.out.lt g_x1 rfl).2; omega
            have n_x2_H : g_x2 ≠ v130.heap.size := by have h1 := (Ox2130.out.lt g_x2 rfl).2; omega
            have n_y_H : g_y ≠ v130.heap.size := by have h1 := (Oy130.out.lt g_y rfl).2; omega
            have n_g1_H : g_g1 ≠ v130.heap.size := by have h1 := (Og1130.out.lt g_g1 rfl).2; omega
            have n_g2_H : g_g2 ≠ v130.heap.size := by have h1 := (Og2130.out.lt g_g2 rfl).2; omega
            have n_z1_H : g_z1 ≠ v130.heap.size := by have h1 := (Oz1130.out.lt g_z1 rfl).2; omega
            have n_z2_H : g_z2 ≠ v130.heap.size := by have h1 := (Oz2130.out.lt g_z2 rfl).2; omega
            have n_v_H : g_v ≠ v130.heap.size := by have h1 := (Ov130.out.lt g_v rfl).2; omega
            have n_k1_H : g_k1 ≠ v130.heap.size := by have h1 := (Ok1130.out.lt g_k1 rfl).2; omega
            have n_k2_H : g_k2 ≠ v130.heap.size := by have h1 := (Ok2130.out.lt g_k2 rfl).2; omega
            have n_n_H : g_n ≠ v130.heap.size := by have h1 := (On130.out.lt g_n rfl).2; omega
            have n_h1_H : g_h1 ≠ v130.heap.size := by have h1 := (Oh1130.out.lt g_h1 rfl).2; omega
            have n_h2_H : g_h2 ≠ v130.heap.size := by have h1 := (Oh2130.out.lt g_h2 rfl).2; omega
            have KK131 := Lib.hid (KK130.out.alloc (.cells #[.int .i64 0, .bool false, .int .u64 0, .int .u64 0, .slice none 0 0, .bool false, .int .u64 0, .int .u64 0, .slice none 0 0, .bool false] 29))
            have KM131 := Lib.hid (KM130.out.alloc (.cells #[.int .i64 0, .bool false, .int .u64 0, .int .u64 0, .slice none 0 0, .bool false, .int .u64 0, .int .u64 0, .slice none 0 0, .bool false] 29))
            have KW131 := Lib.hid (KW130.out.alloc (.cells #[.int .i64 0, .bool false, .int .u64 0, .int .u64 0, .slice none 0 0, .bool false, .int .u64 0, .int .u64 0, .slice none 0 0, .bool false] 29))
            have KX131 := Lib.hid (KX130.out.alloc (.cells #[.int .i64 0, .bool false, .int .u64 0, .int .u64 0, .slice none 0 0, .bool false, .int .u64 0, .int .u64 0, .slice none 0 0, .bool false] 29))
            have KY131 := Lib.hid (KY130.out.alloc (.cells #[.int .i64 0, .bool false, .int .u64 0, .int .u64 0, .slice none 0 0, .bool false, .int .u64 0, .int .u64 0, .slice none 0 0, .bool false] 29))
            have KG131 := Lib.hid (KG130.out.alloc (.cells #[.int .i64 0, .bool false, .int .u64 0, .int .u64 0, .slice none 0 0, .bool false, .int .u64 0, .int .u64 0, .slice none 0 0, .bool false] 29))
            have Ow1131 := Lib.hid (Ow1130.out.alloc (.cells #[.int .i64 0, .bool false, .int .u64 0, .int .u64 0, .slice none 0 0, .bool false, .int .u64 0, .int .u64 0, .slice none 0 0, .bool false] 29))
            have Ow2131 := Lib.hid (Ow2130.out.alloc (.cells #[.int .i64 0, .bool false, .int .u64 0, .int .u64 0, .slice none 0 0, .bool false, .int .u64 0, .int .u64 0, .slice none 0 0, .bool false] 29))
            have Ox1131 := Lib.hid (Ox1130.out.alloc (.cells #[.int .i64 0, .bool false, .int .u64 0, .int .u64 0, .slice none 0 0, .bool false, .int .u64 0, .int .u64 0, .slice none 0 0, .bool false] 29))
            have Ox2131 := Lib.hid (Ox2130.out.alloc (.cells #[.int .i64 0, .bool false, .int .u64 0, .int .u64 0, .slice none 0 0, .bool false, .int .u64 0, .int .u64 0, .slice none 0 0, .bool false] 29))
            have Oy131 := Lib.hid (Oy130.out.alloc (.cells #[.int .i64 0, .bool false, .int .u64 0, .int .u64 0, .slice none 0 0, .bool false, .int .u64 0, .int .u64 0, .slice none 0 0, .bool false] 29))
            have Og1131 := Lib.hid (Og1130.out.alloc (.cells #[.int .i64 0, .bool false, .int .u64 0, .int .u64 0, .slice none 0 0, .bool false, .int .u64 0, .int .u64 0, .slice none 0 0, .bool false] 29))
            have Og2131 := Lib.hid (Og2130.out.alloc (.cells #[.int .i64 0, .bool false, .int .u64 0, .int .u64 0, .slice none 0 0, .bool false, .int .u64 0, .int .u64 0, .slice none 0 0, .bool false] 29))
            have Oz1131 := Lib.hid (Oz1130.out.alloc (.cells #[.int .i64 0, .bool false, .int .u64 0, .int .u64 0, .slice none 0 0, .bool false, .int .u64 0, .int .u64 0, .slice none 0 0, .bool false] 29))
            have Oz2131 := Lib.hid (Oz2130.out.alloc (.cells #[.int .i64 0, .bool false, .int .u64 0, .int .u64 0, .slice none 0 0, .bool false, .int .u64 0, .int .u64 0, .slice none 0 0, .bool false] 29))
            have Ov131 := Lib.hid (Ov130.out.alloc (.cells #[.int .i64 0, .bool false, .int .u64 0, .int .u64 0, .slice none 0 0, .bool false, .int .u64 0, .int .u64 0, .slice none 0 0, .bool false] 29))
            have Ok1131 := Lib.hid (Ok1130.out.alloc (.cells #[.int .i64 0, .bool false, .int .u64 0, .int .u64 0, .slice none 0 0, .bool false, .int .u64 0, .int .u64 0, .slice none 0 0, .bool false] 29))
            have Ok2131 := Lib.hid (Ok2130.out.alloc (.cells #[.int .i64 0, .bool false, .int .u64 0, .int .u64 0, .slice none 0 0, .bool false, .int .u64 0, .int .u64 0, .slice none 0 0, .bool false] 29))
            have On131 := Lib.hid (On130.out.alloc (.cells #[.int .i64 0, .bool false, .int .u64 0, .int .u64 0, .slice none 0 0, .bool false, .int .u64 0, .int .u64 0, .slice none 0 0, .bool false] 29))
            have Oh1131 := Lib.hid (Oh1130.out.alloc (.cells #[.int .i64 0, .bool false, .int .u64 0, .int .u64 0, .slice none 0 0, .bool false, .int .u64 0, .int .u64 0, .slice none 0 0, .bool false] 29))
            have Oh2131 := Lib.hid (Oh2130.out.alloc (.cells #[.int .i64 0, .bool false, .int .u64 0, .int .u64 0, .slice none 0 0, .bool false, .int .u64 0, .int .u64 0, .slice none 0 0, .bool false] 29))
            have KH131 := Lib.hid (Blk.new v130 [.int .i64 0, .bool false, .int .u64 0, .int .u64 0, .slice none 0 0, .bool false, .int .u64 0, .int .u64 0, .slice none 0 0, .bool false] 29)
            clear B130 KK130 KM130 KW130 KX130 KY130 KG130 Ow1130 Ow2130 Ox1130 Ox2130 Oy130 Og1130 Og2130 Oz1130 Oz2130 Ov130 Ok1130 Ok2130 On130 Oh1130 Oh2130
            refine hK.out _ _ ⟨KK131.out, KM131.out⟩ (fun hS => ?_)
            clear hK K
            generalize v130.alloc (.cells #[.int .i64 0, .bool false, .int .u64 0, .int .u64 0, .slice none 0 0, .bool false, .int .u64 0, .int .u64 0, .slice none 0 0, .bool false] 29) = v131 at hS B131 KK131 KM131 KW131 KX131 KY131 KG131 KH131 Ow1131 Ow2131 Ox1131 Ox2131 Oy131 Og1131 Og2131 Oz1131 Oz2131 Ov131 Ok1131 Ok2131 On131 Oh1131 Oh2131 ⊢
            generalize v130.heap.size = g_H at KH131 l_H n_K_H n_M_H n_W_H n_X_H n_Y_H n_G_H n_w1_H n_w2_H n_x1_H n_x2_H n_y_H n_g1_H n_g2_H n_z1_H n_z2_H n_v_H n_k1_H n_k2_H n_n_H n_h1_H n_h2_H ⊢
            obtain ⟨⟨cH0, cH1, cH2, cH3, cH4, cH5, cH6, cH7, cH8, cH9⟩, dH0, dH1, dH2, dH3, dH4, dH5, dH6, dH7, dH8, dH9⟩ := KH131.out.of10
            refine wpAnyH_ready (rs := [6]) (by kernel_rfl) (by simp) ?_
            refine AllReadyH.cons (i := 6) rfl (fun K hK => ?zx59) AllReadyH.nil
            rw [if_pos (by rfl)]
            go_simp
            clear hS
            have hgs : v131.grownBy ((((((((((v131.setCell ⟨g_H, 0, none⟩ (.int .i64 e)).setCell ⟨g_H, 1, none⟩ (.bool p.u)).setCell ⟨g_H, 2, none⟩ (.int .u64 (n64 p.k))).setCell ⟨g_H, 3, none⟩ (.int .u64 (n64 p.l))).setCell ⟨g_H, 4, none⟩ (.slice (some ⟨g_h1, 0, none⟩) p.rs.length c_h1)).setCell ⟨g_H, 5, none⟩ (.bool q.u)).setCell ⟨g_H, 6, none⟩ (.int .u64 (n64 q.k))).setCell ⟨g_H, 7, none⟩ (.int .u64 (n64 q.l))).setCell ⟨g_H, 8, none⟩ (.slice (some ⟨g_h2, 0, none⟩) q.rs.length c_h2)).setCell ⟨g_H, 9, none⟩ (.bool t)) (some g_H) := (grown_setR (grown_setR (grown_setR (grown_setR (grown_setR (grown_setR (grown_setR (grown_setR (grown_setR (grown_setR (World.grownBy.refl v131 (some g_H)) 0 (.int .i64 e)) 1 (.bool p.u)) 2 (.int .u64 (n64 p.k))) 3 (.int .u64 (n64 p.l))) 4 (.slice (some ⟨g_h1, 0, none⟩) p.rs.length c_h1)) 5 (.bool q.u)) 6 (.int .u64 (n64 q.k))) 7 (.int .u64 (n64 q.l))) 8 (.slice (some ⟨g_h2, 0, none⟩) q.rs.length c_h2)) 9 (.bool t))
            have B132 := Lib.hid (B131.out.trans (grown_below hgs l_H B131.out.size))
            have KK132 := Lib.hid (KK131.out.grown hgs (n_K_H))
            have KM132 := Lib.hid (KM131.out.grown hgs (n_M_H))
            have KW132 := Lib.hid (KW131.out.grown hgs (n_W_H))
            have KX132 := Lib.hid (KX131.out.grown hgs (n_X_H))
            have KY132 := Lib.hid (KY131.out.grown hgs (n_Y_H))
            have KG132 := Lib.hid (KG131.out.grown hgs (n_G_H))
            have KH132 := Lib.hid (show Blk ((((((((((v131.setCell ⟨g_H, 0, none⟩ (.int .i64 e)).setCell ⟨g_H, 1, none⟩ (.bool p.u)).setCell ⟨g_H, 2, none⟩ (.int .u64 (n64 p.k))).setCell ⟨g_H, 3, none⟩ (.int .u64 (n64 p.l))).setCell ⟨g_H, 4, none⟩ (.slice (some ⟨g_h1, 0, none⟩) p.rs.length c_h1)).setCell ⟨g_H, 5, none⟩ (.bool q.u)).setCell ⟨g_H, 6, none⟩ (.int .u64 (n64 q.k))).setCell ⟨g_H, 7, none⟩ (.int .u64 (n64 q.l))).setCell ⟨g_H, 8, none⟩ (.slice (some ⟨g_h2, 0, none⟩) q.rs.length c_h2)).setCell ⟨g_H, 9, none⟩ (.bool t)) g_H [.int .i64 e, .bool p.u, .int .u64 (n64 p.k), .int .u64 (n64 p.l), .slice (some ⟨g_h1, 0, none⟩) p.rs.length c_h1, .bool q.u, .int .u64 (n64 q.k), .int .u64 (n64 q.l), .slice (some ⟨g_h2, 0, none⟩) q.rs.length c_h2, .bool t] from ((((((((((KH131.out.set 0 (.int .i64 e)).set 1 (.bool p.u)).set 2 (.int .u64 (n64 p.k))).set 3 (.int .u64 (n64 p.l))).set 4 (.slice (some ⟨g_h1, 0, none⟩) p.rs.length c_h1)).set 5 (.bool q.u)).set 6 (.int .u64 (n64 q.k))).set 7 (.int .u64 (n64 q.l))).set 8 (.slice (some ⟨g_h2, 0, none⟩) q.rs.length c_h2)).set 9 (.bool t)))
            have Ow1132 := Lib.hid (Ow1131.out.kept hgs (.inr (own_ne (n_w1_H))))
            have Ow2132 := Lib.hid (Ow2131.out.kept hgs (.inr (own_ne (n_w2_H))))
            have Ox1132 := Lib.hid (Ox1131.out.kept hgs (.inr (own_ne (n_x1_H))))
            have Ox2132 := Lib.hid (Ox2131.out.kept hgs (.inr (own_ne (n_x2_H))))
            have Oy132 := Lib.hid (Oy131.out.kept hgs (.inr (own_ne (n_y_H))))
            have Og1132 := Lib.hid (Og1131.out.kept hgs (.inr (own_ne (n_g1_H))))
            have Og2132 := Lib.hid (Og2131.out.kept hgs (.inr (own_ne (n_g2_H))))
            have Oz1132 := Lib.hid (Oz1131.out.kept hgs (.inr (own_ne (n_z1_H))))
            have Oz2132 := Lib.hid (Oz2131.out.kept hgs (.inr (own_ne (n_z2_H))))
            have Ov132 := Lib.hid (Ov131.out.kept hgs (.inr (own_ne (n_v_H))))
            have Ok1132 := Lib.hid (Ok1131.out.kept hgs (.inr (own_ne (n_k1_H))))
            have Ok2132 := Lib.hid (Ok2131.out.kept hgs (.inr (own_ne (n_k2_H))))
            have On132 := Lib.hid (On131.out.kept hgs (.inr (own_ne (n_n_H))))
            have Oh1132 := Lib.hid (Oh1131.out.kept hgs (.inr (own_ne (n_h1_H))))
            have Oh2132 := Lib.hid (Oh2131.out.kept hgs (.inr (own_ne (n_h2_H))))
            clear hgs
            refine hK.out _ _ ⟨KK132.out, KM132.out⟩ (fun hS => ?_)
            clear hK K
            clear B131 KK131 KM131 KW131 KX131 KY131 KG131 KH131 Ow1131 Ow2131 Ox1131 Ox2131 Oy131 Og1131 Og2131 Oz1131 Oz2131 Ov131 Ok1131 Ok2131 On131 Oh1131 Oh2131
            clear cH0 cH1 cH2 cH3 cH4 cH5 cH6 cH7 cH8 cH9 dH0 dH1 dH2 dH3 dH4 dH5 dH6 dH7 dH8 dH9
            generalize (((((((((v131.setCell ⟨g_H, 0, none⟩ (.int .i64 e)).setCell ⟨g_H, 1, none⟩ (.bool p.u)).setCell ⟨g_H, 2, none⟩ (.int .u64 (n64 p.k))).setCell ⟨g_H, 3, none⟩ (.int .u64 (n64 p.l))).setCell ⟨g_H, 4, none⟩ (.slice (some ⟨g_h1, 0, none⟩) p.rs.length c_h1)).setCell ⟨g_H, 5, none⟩ (.bool q.u)).setCell ⟨g_H, 6, none⟩ (.int .u64 (n64 q.k))).setCell ⟨g_H, 7, none⟩ (.int .u64 (n64 q.l))).setCell ⟨g_H, 8, none⟩ (.slice (some ⟨g_h2, 0, none⟩) q.rs.length c_h2)).setCell ⟨g_H, 9, none⟩ (.bool t) = v132 at hS B132 KK132 KM132 KW132 KX132 KY132 KG132 KH132 Ow1132 Ow2132 Ox1132 Ox2132 Oy132 Og1132 Og2132 Oz1132 Oz2132 Ov132 Ok1132 Ok2132 On132 Oh1132 Oh2132 ⊢
            refine wpAnyH_done (by kernel_rfl) ?_ _
            refine NoPanic.normal ?_
            go_wp2_with fail
            go_meet
            case rel => exact ⟨g_H, g_h1, g_h2, c_h1, c_h2, rfl, B132, KK132, KM132, KW132, KX132, KY132, KG132, Ow1132, Ow2132, Ox1132, Ox2132, Oy132, Og1132, Og2132, Oz1132, Oz2132, Ov132, KH132, Oh1132, Oh2132, ⟨n_K_H, n_K_h1, n_K_h2, n_M_H, n_M_h1, n_M_h2, n_W_H, n_W_h1, n_W_h2, n_X_H, n_X_h1, n_X_h2, n_Y_H, n_Y_h1, n_Y_h2, n_G_H, n_G_h1, n_G_h2, n_w1_H, n_w1_h1, n_w1_h2, n_w2_H, n_w2_h1, n_w2_h2, n_x1_H, n_x1_h1, n_x1_h2, n_x2_H, n_x2_h1, n_x2_h2, n_y_H, n_y_h1, n_y_h2, n_g1_H, n_g1_h1, n_g1_h2, n_g2_H, n_g2_h1, n_g2_h2, n_z1_H, n_z1_h1, n_z1_h2, n_z2_H, n_z2_h1, n_z2_h2, n_v_H, n_v_h1, n_v_h2, fun e => n_h1_H e.symm, fun e => n_h2_H e.symm, n_h1_h2⟩, ⟨l_H, l_h1, l_h2⟩⟩
          · rw [if_pos (by rfl)]
            go_simp
            clear hS
            have B130 := Lib.hid (B129.out.alloc B129.out.size (.cells #[.int .i64 0, .bool false, .int .u64 0, .int .u64 0, .slice none 0 0, .bool false, .int .u64 0, .int .u64 0, .slice none 0 0, .bool false] 29))
            have l_H : w.heap.size ≤ v129.heap.size := B129.out.size
            have n_K_H : g_K ≠ v129.heap.size := by have h1 := KK129.out.lt; omega
            have n_M_H : g_M ≠ v129.heap.size := by have h1 := KM129.out.lt; omega
            have n_W_H : g_W ≠ v129.heap.size := by have h1 := KW129.out.lt; omega
            have n_X_H : g_X ≠ v129.heap.size := by have h1 := KX129.out.lt; omega
            have n_Y_H : g_Y ≠ v129.heap.size := by have h1 := KY129.out.lt; omega
            have n_G_H : g_G ≠ v129.heap.size := by have h1 := KG129.out.lt; omega
            have n_w1_H : g_w1 ≠ v129.heap.size := by have h1 := (Ow1129.out.lt g_w1 rfl).2; omega
            have n_w2_H : g_w2 ≠ v129.heap.size := by have h1 := (Ow2129.out.lt g_w2 rfl).2; omega
            have n_x1_H : g_x1 ≠ v129.heap.size := by have h1 := (Ox1129.out.lt g_x1 rfl).2; omega
            have n_x2_H : g_x2 ≠ v129.heap.size := by have h1 := (Ox2129.out.lt g_x2 rfl).2; omega
            have n_y_H : g_y ≠ v129.heap.size := by have h1 := (Oy129.out.lt g_y rfl).2; omega
            have n_g1_H : g_g1 ≠ v129.heap.size := by have h1 := (Og1129.out.lt g_g1 rfl).2; omega
            have n_g2_H : g_g2 ≠ v129.heap.size := by have h1 := (Og2129.out.lt g_g2 rfl).2; omega
            have n_z1_H : g_z1 ≠ v129.heap.size := by have h1 := (Oz1129.out.lt g_z1 rfl).2; omega
            have n_z2_H : g_z2 ≠ v129.heap.size := by have h1 := (Oz2129.out.lt g_z2 rfl).2; omega
            have n_v_H : g_v ≠ v129.heap.size := by have h1 := (Ov129.out.lt g_v rfl).2; omega
            have n_k1_H : g_k1 ≠ v129.heap.size := by have h1 := (Ok1129.out.lt g_k1 rfl).2; omega
            have n_k2_H : g_k2 ≠ v129.heap.size := by have h1 := (Ok2129.out.lt g_k2 rfl).2; omega
            have n_n_H : g_n ≠ v129.heap.size := by have h1 := (On129.out.lt g_n rfl).2; omega
            have KK130 := Lib.hid (KK129.out.alloc (.cells #[.int .i64 0, .bool false, .int .u64 0, .int .u64 0, .slice none 0 0, .bool false, .int .u64 0, .int .u64 0, .slice none 0 0, .bool false] 29))
            have KM130 := Lib.hid (KM129.out.alloc (.cells #[.int .i64 0, .bool false, .int .u64 0, .int .u64 0, .slice none 0 0, .bool false, .int .u64 0, .int .u64 0, .slice none 0 0, .bool false] 29))
            have KW130 := Lib.hid (KW129.out.alloc (.cells #[.int .i64 0, .bool false, .int .u64 0, .int .u64 0, .slice none 0 0, .bool false, .int .u64 0, .int .u64 0, .slice none 0 0, .bool false] 29))
            have KX130 := Lib.hid (KX129.out.alloc (.cells #[.int .i64 0, .bool false, .int .u64 0, .int .u64 0, .slice none 0 0, .bool false, .int .u64 0, .int .u64 0, .slice none 0 0, .bool false] 29))
            have KY130 := Lib.hid (KY129.out.alloc (.cells #[.int .i64 0, .bool false, .int .u64 0, .int .u64 0, .slice none 0 0, .bool false, .int .u64 0, .int .u64 0, .slice none 0 0, .bool false] 29))
            have KG130 := Lib.hid (KG129.out.alloc (.cells #[.int .i64 0, .bool false, .int .u64 0, .int .u64 0, .slice none 0 0, .bool false, .int .u64 0, .int .u64 0, .slice none 0 0, .bool false] 29))
            have Ow1130 := Lib.hid (Ow1129.out.alloc (.cells #[.int .i64 0, .bool false, .int .u64 0, .int .u64 0, .slice none 0 0, .bool false, .int .u64 0, .int .u64 0, .slice none 0 0, .bool false] 29))
            have Ow2130 := Lib.hid (Ow2129.out.alloc (.cells #[.int .i64 0, .bool false, .int .u64 0, .int .u64 0, .slice none 0 0, .bool false, .int .u64 0, .int .u64 0, .slice none 0 0, .bool false] 29))
            have Ox1130 := Lib.hid (Ox1129.out.alloc (.cells #[.int .i64 0, .bool false, .int .u64 0, .int .u64 0, .slice none 0 0, .bool false, .int .u64 0, .int .u64 0, .slice none 0 0, .bool false] 29))
            have Ox2130 := Lib.hid (Ox2129.out.alloc (.cells #[.int .i64 0, .bool false, .int .u64 0, .int .u64 0, .slice none 0 0, .bool false, .int .u64 0, .int .u64 0, .slice none 0 0, .bool false] 29))
            have Oy130 := Lib.hid (Oy129.out.alloc (.cells #[.int .i64 0, .bool false, .int .u64 0, .int .u64 0, .slice none 0 0, .bool false, .int .u64 0, .int .u64 0, .slice none 0 0, .bool false] 29))
            have Og1130 := Lib.hid (Og1129.out.alloc (.cells #[.int .i64 0, .bool false, .int .u64 0, .int .u64 0, .slice none 0 0, .bool false, .int .u64 0, .int .u64 0, .slice none 0 0, .bool false] 29))
            have Og2130 := Lib.hid (Og2129.out.alloc (.cells #[.int .i64 0, .bool false, .int .u64 0, .int .u64 0, .slice none 0 0, .bool false, .int .u64 0, .int .u64 0, .slice none 0 0, .bool false] 29))
            have Oz1130 := Lib.hid (Oz1129.out.alloc (.cells #[.int .i64 0, .bool false, .int .u64 0, .int .u64 0, .slice none 0 0, .bool false, .int .u64 0, .int .u64 0, .slice none 0 0, .bool false] 29))
            have Oz2130 := Lib.hid (Oz2129.out.alloc (.cells #[.int .i64 0, .bool false, .int .u64 0, .int .u64 0, .slice none 0 0, .bool false, .int .u64 0, .int .u64 0, .slice none 0 0, .bool false] 29))
            have Ov130 := Lib.hid (Ov129.out.alloc (.cells #[.int .i64 0, .bool false, .int .u64 0, .int .u64 0, .slice none 0 0, .bool false, .int .u64 0, .int .u64 0, .slice none 0 0, .bool false] 29))
            have Ok1130 := Lib.hid (Ok1129.out.alloc (.cells #[.int .i64 0, .bool false, .int .u64 0, .int .u64 0, .slice none 0 0, .bool false, .int .u64 0, .int .u64 0, .slice none 0 0, .bool false] 29))
            have Ok2130 := Lib.hid (Ok2129.out.alloc (.cells #[.int .i64 0, .bool false, .int .u64 0, .int .u64 0, .slice none 0 0, .bool false, .int .u64 0, .int .u64 0, .slice none 0 0, .bool false] 29))
            have On130 := Lib.hid (On129.out.alloc (.cells #[.int .i64 0, .bool false, .int .u64 0, .int .u64 0, .slice none 0 0, .bool false, .int .u64 0, .int .u64 0, .slice none 0 0, .bool false] 29))
            have KH130 := Lib.hid (Blk.new v129 [.int .i64 0, .bool false, .int .u64 0, .int .u64 0, .slice none 0 0, .bool false, .int .u64 0, .int .u64 0, .slice none 0 0, .bool false] 29)
            clear B129 KK129 KM129 KW129 KX129 KY129 KG129 Ow1129 Ow2129 Ox1129 Ox2129 Oy129 Og1129 Og2129 Oz1129 Oz2129 Ov129 Ok1129 Ok2129 On129
            refine hK.out _ _ ⟨KK130.out, KM130.out⟩ (fun hS => ?_)
            clear hK K
            generalize v129.alloc (.cells #[.int .i64 0, .bool false, .int .u64 0, .int .u64 0, .slice none 0 0, .bool false, .int .u64 0, .int .u64 0, .slice none 0 0, .bool false] 29) = v130 at hS B130 KK130 KM130 KW130 KX130 KY130 KG130 KH130 Ow1130 Ow2130 Ox1130 Ox2130 Oy130 Og1130 Og2130 Oz1130 Oz2130 Ov130 Ok1130 Ok2130 On130 ⊢
            generalize v129.heap.size = g_H at KH130 l_H n_K_H n_M_H n_W_H n_X_H n_Y_H n_G_H n_w1_H n_w2_H n_x1_H n_x2_H n_y_H n_g1_H n_g2_H n_z1_H n_z2_H n_v_H n_k1_H n_k2_H n_n_H ⊢
            refine wpAnyH_ready (rs := [4]) (by kernel_rfl) (by simp) ?_
            refine AllReadyH.cons (i := 4) rfl (fun K hK => ?zx60) AllReadyH.nil
            rw [if_pos (by rfl)]
            go_simp
            clear hS
            refine (C2.out g_k1 g_k2 g_n p.rs.length q.rs.length m.rs.length _ (M.on_at Ok1130.out) (M.on_at Ok2130.out) (M.on_at On130.out) Fp.out Fq.out Fm.out).mono ?_
            rintro e v131 ⟨g_h1, g_h2, c_h1, c_h2, n_h1_h2, rfl, ho_h1, ho_h2, hb⟩
            have n_K_h1 : g_K ≠ g_h1 := by have h1 := KK130.out.lt; have h2 := (ho_h1.lt g_h1 rfl).1; omega
            have n_M_h1 : g_M ≠ g_h1 := by have h1 := KM130.out.lt; have h2 := (ho_h1.lt g_h1 rfl).1; omega
            have n_W_h1 : g_W ≠ g_h1 := by have h1 := KW130.out.lt; have h2 := (ho_h1.lt g_h1 rfl).1; omega
            have n_X_h1 : g_X ≠ g_h1 := by have h1 := KX130.out.lt; have h2 := (ho_h1.lt g_h1 rfl).1; omega
            have n_Y_h1 : g_Y ≠ g_h1 := by have h1 := KY130.out.lt; have h2 := (ho_h1.lt g_h1 rfl).1; omega
            have n_G_h1 : g_G ≠ g_h1 := by have h1 := KG130.out.lt; have h2 := (ho_h1.lt g_h1 rfl).1; omega
            have n_H_h1 : g_H ≠ g_h1 := by have h1 := KH130.out.lt; have h2 := (ho_h1.lt g_h1 rfl).1; omega
            have n_w1_h1 : g_w1 ≠ g_h1 := by have h1 := (Ow1130.out.lt g_w1 rfl).2; have h2 := (ho_h1.lt g_h1 rfl).1; omega
            have n_w2_h1 : g_w2 ≠ g_h1 := by have h1 := (Ow2130.out.lt g_w2 rfl).2; have h2 := (ho_h1.lt g_h1 rfl).1; omega
            have n_x1_h1 : g_x1 ≠ g_h1 := by have h1 := (Ox1130.out.lt g_x1 rfl).2; have h2 := (ho_h1.lt g_h1 rfl).1; omega
            have n_x2_h1 : g_x2 ≠ g_h1 := by have h1 := (Ox2130.out.lt g_x2 rfl).2; have h2 := (ho_h1.lt g_h1 rfl).1; omega
            have n_y_h1 : g_y ≠ g_h1 := by have h1 := (Oy130.out.lt g_y rfl).2; have h2 := (ho_h1.lt g_h1 rfl).1; omega
            have n_g1_h1 : g_g1 ≠ g_h1 := by have h1 := (Og1130.out.lt g_g1 rfl).2; have h2 := (ho_h1.lt g_h1 rfl).1; omega
            have n_g2_h1 : g_g2 ≠ g_h1 := by have h1 := (Og2130.out.lt g_g2 rfl).2; have h2 := (ho_h1.lt g_h1 rfl).1; omega
            have n_z1_h1 : g_z1 ≠ g_h1 := by have h1 := (Oz1130.out.lt g_z1 rfl).2; have h2 := (ho_h1.lt g_h1 rfl).1; omega
            have n_z2_h1 : g_z2 ≠ g_h1 := by have h1 := (Oz2130.out.lt g_z2 rfl).2; have h2 := (ho_h1.lt g_h1 rfl).1; omega
            have n_v_h1 : g_v ≠ g_h1 := by have h1 := (Ov130.out.lt g_v rfl).2; have h2 := (ho_h1.lt g_h1 rfl).1; omega
            have n_k1_h1 : g_k1 ≠ g_h1 := by have h1 := (Ok1130.out.lt g_k1 rfl).2; have h2 := (ho_h1.lt g_h1 rfl).1; omega
            have n_k2_h1 : g_k2 ≠ g_h1 := by have h1 := (Ok2130.out.lt g_k2 rfl).2; have h2 := (ho_h1.lt g_h1 rfl).1; omega
            have n_n_h1 : g_n ≠ g_h1 := by have h1 := (On130.out.lt g_n rfl).2; have h2 := (ho_h1.lt g_h1 rfl).1; omega
            have l_h1 : w.heap.size ≤ g_h1 := Nat.le_trans B130.out.size (ho_h1.lt g_h1 rfl).1
            have n_K_h2 : g_K ≠ g_h2 := by have h1 := KK130.out.lt; have h2 := (ho_h2.lt g_h2 rfl).1; omega
            have n_M_h2 : g_M ≠ g_h2 := by have h1 := KM130.out.lt; have h2 := (ho_h2.lt g_h2 rfl).1; omega
            have n_W_h2 : g_W ≠ g_h2 := by have h1 := KW130.out.lt; have h2 := (ho_h2.lt g_h2 rfl).1; omega
            have n_X_h2 : g_X ≠ g_h2 := by have h1 := KX130.out.lt; have h2 := (ho_h2.lt g_h2 rfl).1; omega
            have n_Y_h2 : g_Y ≠ g_h2 := by have h1 := KY130.out.lt; have h2 := (ho_h2.lt g_h2 rfl).1; omega
            have n_G_h2 : g_G ≠ g_h2 := by have h1 := KG130.out.lt; have h2 := (ho_h2.lt g_h2 rfl).1; omega
            have n_H_h2 : g_H ≠ g_h2 := by have h1 := KH130.out.lt; have h2 := (ho_h2.lt g_h2 rfl).1; omega
            have n_w1_h2 : g_w1 ≠ g_h2 := by have h1 := (Ow1130.out.lt g_w1 rfl).2; have h2 := (ho_h2.lt g_h2 rfl).1; omega
            have n_w2_h2 : g_w2 ≠ g_h2 := by have h1 := (Ow2130.out.lt g_w2 rfl).2; have h2 := (ho_h2.lt g_h2 rfl).1; omega
            have n_x1_h2 : g_x1 ≠ g_h2 := by have h1 := (Ox1130.out.lt g_x1 rfl).2; have h2 := (ho_h2.lt g_h2 rfl).1; omega
            have n_x2_h2 : g_x2 ≠ g_h2 := by have h1 := (Ox2130.out.lt g_x2 rfl).2; have h2 := (ho_h2.lt g_h2 rfl).1; omega
            have n_y_h2 : g_y ≠ g_h2 := by have h1 := (Oy130.out.lt g_y rfl).2; have h2 := (ho_h2.lt g_h2 rfl).1; omega
            have n_g1_h2 : g_g1 ≠ g_h2 := by have h1 := (Og1130.out.lt g_g1 rfl).2; have h2 := (ho_h2.lt g_h2 rfl).1; omega
            have n_g2_h2 : g_g2 ≠ g_h2 := by have h1 := (Og2130.out.lt g_g2 rfl).2; have h2 := (ho_h2.lt g_h2 rfl).1; omega
            have n_z1_h2 : g_z1 ≠ g_h2 := by have h1 := (Oz1130.out.lt g_z1 rfl).2; have h2 := (ho_h2.lt g_h2 rfl).1; omega
            have n_z2_h2 : g_z2 ≠ g_h2 := by have h1 := (Oz2130.out.lt g_z2 rfl).2; have h2 := (ho_h2.lt g_h2 rfl).1; omega
            have n_v_h2 : g_v ≠ g_h2 := by have h1 := (Ov130.out.lt g_v rfl).2; have h2 := (ho_h2.lt g_h2 rfl).1; omega
            have n_k1_h2 : g_k1 ≠ g_h2 := by have h1 := (Ok1130.out.lt g_k1 rfl).2; have h2 := (ho_h2.lt g_h2 rfl).1; omega
            have n_k2_h2 : g_k2 ≠ g_h2 := by have h1 := (Ok2130.out.lt g_k2 rfl).2; have h2 := (ho_h2.lt g_h2 rfl).1; omega
            have n_n_h2 : g_n ≠ g_h2 := by have h1 := (On130.out.lt g_n rfl).2; have h2 := (ho_h2.lt g_h2 rfl).1; omega
            have l_h2 : w.heap.size ≤ g_h2 := Nat.le_trans B130.out.size (ho_h2.lt g_h2 rfl).1
            have B131 := Lib.hid (B130.out.trans (hb.mono B130.out.size))
            have KK131 := Lib.hid (KK130.out.below hb)
            have KM131 := Lib.hid (KM130.out.below hb)
            have KW131 := Lib.hid (KW130.out.below hb)
            have KX131 := Lib.hid (KX130.out.below hb)
            have KY131 := Lib.hid (KY130.out.below hb)
            have KG131 := Lib.hid (KG130.out.below hb)
            have KH131 := Lib.hid (KH130.out.below hb)
            have Ow1131 := Lib.hid (Ow1130.out.kept (below_any (row := none) hb) (.inr (by simp [Value.ownBlock])))
            have Ow2131 := Lib.hid (Ow2130.out.kept (below_any (row := none) hb) (.inr (by simp [Value.ownBlock])))
            have Ox1131 := Lib.hid (Ox1130.out.kept (below_any (row := none) hb) (.inr (by simp [Value.ownBlock])))
            have Ox2131 := Lib.hid (Ox2130.out.kept (below_any (row := none) hb) (.inr (by simp [Value.ownBlock])))
            have Oy131 := Lib.hid (Oy130.out.kept (below_any (row := none) hb) (.inr (by simp [Value.ownBlock])))
            have Og1131 := Lib.hid (Og1130.out.kept (below_any (row := none) hb) (.inr (by simp [Value.ownBlock])))
            have Og2131 := Lib.hid (Og2130.out.kept (below_any (row := none) hb) (.inr (by simp [Value.ownBlock])))
            have Oz1131 := Lib.hid (Oz1130.out.kept (below_any (row := none) hb) (.inr (by simp [Value.ownBlock])))
            have Oz2131 := Lib.hid (Oz2130.out.kept (below_any (row := none) hb) (.inr (by simp [Value.ownBlock])))
            have Ov131 := Lib.hid (Ov130.out.kept (below_any (row := none) hb) (.inr (by simp [Value.ownBlock])))
            have Ok1131 := Lib.hid (Ok1130.out.kept (below_any (row := none) hb) (.inr (by simp [Value.ownBlock])))
            have Ok2131 := Lib.hid (Ok2130.out.kept (below_any (row := none) hb) (.inr (by simp [Value.ownBlock])))
            have On131 := Lib.hid (On130.out.kept (below_any (row := none) hb) (.inr (by simp [Value.ownBlock])))
            have Oh1131 := Lib.hid (own_down ho_h1 (Nat.zero_le _))
            have Oh2131 := Lib.hid (own_down ho_h2 (Nat.zero_le _))
            clear hb B130 KK130 KM130 KW130 KX130 KY130 KG130 KH130 Ow1130 Ow2130 Ox1130 Ox2130 Oy130 Og1130 Og2130 Oz1130 Oz2130 Ov130 Ok1130 Ok2130 On130 ho_h1 ho_h2
            refine hK.out _ _ ⟨KK131.out, KM131.out⟩ (fun hS => ?_)
            clear hK K
            obtain ⟨⟨cH0, cH1, cH2, cH3, cH4, cH5, cH6, cH7, cH8, cH9⟩, dH0, dH1, dH2, dH3, dH4, dH5, dH6, dH7, dH8, dH9⟩ := KH131.out.of10
            refine wpAnyH_ready (rs := [6]) (by kernel_rfl) (by simp) ?_
            refine AllReadyH.cons (i := 6) rfl (fun K hK => ?zx61) AllReadyH.nil
            rw [if_pos (by rfl)]
            go_simp
            clear hS
            have hgs : v131.grownBy ((((((((((v131.setCell ⟨g_H, 0, none⟩ (.int .i64 e)).setCell ⟨g_H, 1, none⟩ (.bool p.u)).setCell ⟨g_H, 2, none⟩ (.int .u64 (n64 p.k))).setCell ⟨g_H, 3, none⟩ (.int .u64 (n64 p.l))).setCell ⟨g_H, 4, none⟩ (.slice (some ⟨g_h1, 0, none⟩) p.rs.length c_h1)).setCell ⟨g_H, 5, none⟩ (.bool q.u)).setCell ⟨g_H, 6, none⟩ (.int .u64 (n64 q.k))).setCell ⟨g_H, 7, none⟩ (.int .u64 (n64 q.l))).setCell ⟨g_H, 8, none⟩ (.slice (some ⟨g_h2, 0, none⟩) q.rs.length c_h2)).setCell ⟨g_H, 9, none⟩ (.bool t)) (some g_H) := (grown_setR (grown_setR (grown_setR (grown_setR (grown_setR (grown_setR (grown_setR (grown_setR (grown_setR (grown_setR (World.grownBy.refl v131 (some g_H)) 0 (.int .i64 e)) 1 (.bool p.u)) 2 (.int .u64 (n64 p.k))) 3 (.int .u64 (n64 p.l))) 4 (.slice (some ⟨g_h1, 0, none⟩) p.rs.length c_h1)) 5 (.bool q.u)) 6 (.int .u64 (n64 q.k))) 7 (.int .u64 (n64 q.l))) 8 (.slice (some ⟨g_h2, 0, none⟩) q.rs.length c_h2)) 9 (.bool t))
            have B132 := Lib.hid (B131.out.trans (grown_below hgs l_H B131.out.size))
            have KK132 := Lib.hid (KK131.out.grown hgs (n_K_H))
            have KM132 := Lib.hid (KM131.out.grown hgs (n_M_H))
            have KW132 := Lib.hid (KW131.out.grown hgs (n_W_H))
            have KX132 := Lib.hid (KX131.out.grown hgs (n_X_H))
            have KY132 := Lib.hid (KY131.out.grown hgs (n_Y_H))
            have KG132 := Lib.hid (KG131.out.grown hgs (n_G_H))
            have KH132 := Lib.hid (show Blk ((((((((((v131.setCell ⟨g_H, 0, none⟩ (.int .i64 e)).setCell ⟨g_H, 1, none⟩ (.bool p.u)).setCell ⟨g_H, 2, none⟩ (.int .u64 (n64 p.k))).setCell ⟨g_H, 3, none⟩ (.int .u64 (n64 p.l))).setCell ⟨g_H, 4, none⟩ (.slice (some ⟨g_h1, 0, none⟩) p.rs.length c_h1)).setCell ⟨g_H, 5, none⟩ (.bool q.u)).setCell ⟨g_H, 6, none⟩ (.int .u64 (n64 q.k))).setCell ⟨g_H, 7, none⟩ (.int .u64 (n64 q.l))).setCell ⟨g_H, 8, none⟩ (.slice (some ⟨g_h2, 0, none⟩) q.rs.length c_h2)).setCell ⟨g_H, 9, none⟩ (.bool t)) g_H [.int .i64 e, .bool p.u, .int .u64 (n64 p.k), .int .u64 (n64 p.l), .slice (some ⟨g_h1, 0, none⟩) p.rs.length c_h1, .bool q.u, .int .u64 (n64 q.k), .int .u64 (n64 q.l), .slice (some ⟨g_h2, 0, none⟩) q.rs.length c_h2, .bool t] from ((((((((((KH131.out.set 0 (.int .i64 e)).set 1 (.bool p.u)).set 2 (.int .u64 (n64 p.k))).set 3 (.int .u64 (n64 p.l))).set 4 (.slice (some ⟨g_h1, 0, none⟩) p.rs.length c_h1)).set 5 (.bool q.u)).set 6 (.int .u64 (n64 q.k))).set 7 (.int .u64 (n64 q.l))).set 8 (.slice (some ⟨g_h2, 0, none⟩) q.rs.length c_h2)).set 9 (.bool t)))
            have Ow1132 := Lib.hid (Ow1131.out.kept hgs (.inr (own_ne (n_w1_H))))
            have Ow2132 := Lib.hid (Ow2131.out.kept hgs (.inr (own_ne (n_w2_H))))
            have Ox1132 := Lib.hid (Ox1131.out.kept hgs (.inr (own_ne (n_x1_H))))
            have Ox2132 := Lib.hid (Ox2131.out.kept hgs (.inr (own_ne (n_x2_H))))
            have Oy132 := Lib.hid (Oy131.out.kept hgs (.inr (own_ne (n_y_H))))
            have Og1132 := Lib.hid (Og1131.out.kept hgs (.inr (own_ne (n_g1_H))))
            have Og2132 := Lib.hid (Og2131.out.kept hgs (.inr (own_ne (n_g2_H))))
            have Oz1132 := Lib.hid (Oz1131.out.kept hgs (.inr (own_ne (n_z1_H))))
            have Oz2132 := Lib.hid (Oz2131.out.kept hgs (.inr (own_ne (n_z2_H))))
            have Ov132 := Lib.hid (Ov131.out.kept hgs (.inr (own_ne (n_v_H))))
            have Ok1132 := Lib.hid (Ok1131.out.kept hgs (.inr (own_ne (n_k1_H))))
            have Ok2132 := Lib.hid (Ok2131.out.kept hgs (.inr (own_ne (n_k2_H))))
            have On132 := Lib.hid (On131.out.kept hgs (.inr (own_ne (n_n_H))))
            have Oh1132 := Lib.hid (Oh1131.out.kept hgs (.inr (own_ne (fun e => n_H_h1 e.symm))))
            have Oh2132 := Lib.hid (Oh2131.out.kept hgs (.inr (own_ne (fun e => n_H_h2 e.symm))))
            clear hgs
            refine hK.out _ _ ⟨KK132.out, KM132.out⟩ (fun hS => ?_)
            clear hK K
            clear B131 KK131 KM131 KW131 KX131 KY131 KG131 KH131 Ow1131 Ow2131 Ox1131 Ox2131 Oy131 Og1131 Og2131 Oz1131 Oz2131 Ov131 Ok1131 Ok2131 On131 Oh1131 Oh2131
            clear cH0 cH1 cH2 cH3 cH4 cH5 cH6 cH7 cH8 cH9 dH0 dH1 dH2 dH3 dH4 dH5 dH6 dH7 dH8 dH9
            generalize (((((((((v131.setCell ⟨g_H, 0, none⟩ (.int .i64 e)).setCell ⟨g_H, 1, none⟩ (.bool p.u)).setCell ⟨g_H, 2, none⟩ (.int .u64 (n64 p.k))).setCell ⟨g_H, 3, none⟩ (.int .u64 (n64 p.l))).setCell ⟨g_H, 4, none⟩ (.slice (some ⟨g_h1, 0, none⟩) p.rs.length c_h1)).setCell ⟨g_H, 5, none⟩ (.bool q.u)).setCell ⟨g_H, 6, none⟩ (.int .u64 (n64 q.k))).setCell ⟨g_H, 7, none⟩ (.int .u64 (n64 q.l))).setCell ⟨g_H, 8, none⟩ (.slice (some ⟨g_h2, 0, none⟩) q.rs.length c_h2)).setCell ⟨g_H, 9, none⟩ (.bool t) = v132 at hS B132 KK132 KM132 KW132 KX132 KY132 KG132 KH132 Ow1132 Ow2132 Ox1132 Ox2132 Oy132 Og1132 Og2132 Oz1132 Oz2132 Ov132 Ok1132 Ok2132 On132 Oh1132 Oh2132 ⊢
            refine wpAnyH_done (by kernel_rfl) ?_ _
            refine NoPanic.normal ?_
            go_wp2_with fail
            go_meet
            case rel => exact ⟨g_H, g_h1, g_h2, c_h1, c_h2, rfl, B132, KK132, KM132, KW132, KX132, KY132, KG132, Ow1132, Ow2132, Ox1132, Ox2132, Oy132, Og1132, Og2132, Oz1132, Oz2132, Ov132, KH132, Oh1132, Oh2132, ⟨n_K_H, n_K_h1, n_K_h2, n_M_H, n_M_h1, n_M_h2, n_W_H, n_W_h1, n_W_h2, n_X_H, n_X_h1, n_X_h2, n_Y_H, n_Y_h1, n_Y_h2, n_G_H, n_G_h1, n_G_h2, n_w1_H, n_w1_h1, n_w1_h2, n_w2_H, n_w2_h1, n_w2_h2, n_x1_H, n_x1_h1, n_x1_h2, n_x2_H, n_x2_h1, n_x2_h2, n_y_H, n_y_h1, n_y_h2, n_g1_H, n_g1_h1, n_g1_h2, n_g2_H, n_g2_h1, n_g2_h2, n_z1_H, n_z1_h1, n_z1_h2, n_z2_H, n_z2_h1, n_z2_h2, n_v_H, n_v_h1, n_v_h2, n_H_h1, n_H_h2, n_h1_h2⟩, ⟨l_H, l_h1, l_h2⟩⟩
        · rw [if_pos (by rfl)]
          go_simp
          clear hS
          have B129 := Lib.hid (B128.out.alloc B128.out.size (.cells #[.int .i64 0, .bool false, .int .u64 0, .int .u64 0, .slice none 0 0, .bool false, .int .u64 0, .int .u64 0, .slice none 0 0, .bool false] 29))
          have l_H : w.heap.size ≤ v128.heap.size := B128.out.size
          have n_K_H : g_K ≠ v128.heap.size := by have h1 := KK128.out.lt; omega
          have n_M_H : g_M ≠ v128.heap.size := by have h1 := KM128.out.lt; omega
          have n_W_H : g_W ≠ v128.heap.size := by have h1 := KW128.out.lt; omega
          have n_X_H : g_X ≠ v128.heap.size := by have h1 := KX128.out.lt; omega
          have n_Y_H : g_Y ≠ v128.heap.size := by have h1 := KY128.out.lt; omega
          have n_G_H : g_G ≠ v128.heap.size := by have h1 := KG128.out.lt; omega
          have n_w1_H : g_w1 ≠ v128.heap.size := by have h1 := (Ow1128.out.lt g_w1 rfl).2; omega
          have n_w2_H : g_w2 ≠ v128.heap.size := by have h1 := (Ow2128.out.lt g_w2 rfl).2; omega
          have n_x1_H : g_x1 ≠ v128.heap.size := by have h1 := (Ox1128.out.lt g_x1 rfl).2; omega
          have n_x2_H : g_x2 ≠ v128.heap.size := by have h1 := (Ox2128.out.lt g_x2 rfl).2; omega
          have n_y_H : g_y ≠ v128.heap.size := by have h1 := (Oy128.out.lt g_y rfl).2; omega
          have n_g1_H : g_g1 ≠ v128.heap.size := by have h1 := (Og1128.out.lt g_g1 rfl).2; omega
          have n_g2_H : g_g2 ≠ v128.heap.size := by have h1 := (Og2128.out.lt g_g2 rfl).2; omega
          have n_z1_H : g_z1 ≠ v128.heap.size := by have h1 := (Oz1128.out.lt g_z1 rfl).2; omega
          have n_z2_H : g_z2 ≠ v128.heap.size := by have h1 := (Oz2128.out.lt g_z2 rfl).2; omega
          have n_v_H : g_v ≠ v128.heap.size := by have h1 := (Ov128.out.lt g_v rfl).2; omega
          have n_k1_H : g_k1 ≠ v128.heap.size := by have h1 := (Ok1128.out.lt g_k1 rfl).2; omega
          have n_k2_H : g_k2 ≠ v128.heap.size := by have h1 := (Ok2128.out.lt g_k2 rfl).2; omega
          have KK129 := Lib.hid (KK128.out.alloc (.cells #[.int .i64 0, .bool false, .int .u64 0, .int .u64 0, .slice none 0 0, .bool false, .int .u64 0, .int .u64 0, .slice none 0 0, .bool false] 29))
          have KM129 := Lib.hid (KM128.out.alloc (.cells #[.int .i64 0, .bool false, .int .u64 0, .int .u64 0, .slice none 0 0, .bool false, .int .u64 0, .int .u64 0, .slice none 0 0, .bool false] 29))
          have KW129 := Lib.hid (KW128.out.alloc (.cells #[.int .i64 0, .bool false, .int .u64 0, .int .u64 0, .slice none 0 0, .bool false, .int .u64 0, .int .u64 0, .slice none 0 0, .bool false] 29))
          have KX129 := Lib.hid (KX128.out.alloc (.cells #[.int .i64 0, .bool false, .int .u64 0, .int .u64 0, .slice none 0 0, .bool false, .int .u64 0, .int .u64 0, .slice none 0 0, .bool false] 29))
          have KY129 := Lib.hid (KY128.out.alloc (.cells #[.int .i64 0, .bool false, .int .u64 0, .int .u64 0, .slice none 0 0, .bool false, .int .u64 0, .int .u64 0, .slice none 0 0, .bool false] 29))
          have KG129 := Lib.hid (KG128.out.alloc (.cells #[.int .i64 0, .bool false, .int .u64 0, .int .u64 0, .slice none 0 0, .bool false, .int .u64 0, .int .u64 0, .slice none 0 0, .bool false] 29))
          have Ow1129 := Lib.hid (Ow1128.out.alloc (.cells #[.int .i64 0, .bool false, .int .u64 0, .int .u64 0, .slice none 0 0, .bool false, .int .u64 0, .int .u64 0, .slice none 0 0, .bool false] 29))
          have Ow2129 := Lib.hid (Ow2128.out.alloc (.cells #[.int .i64 0, .bool false, .int .u64 0, .int .u64 0, .slice none 0 0, .bool false, .int .u64 0, .int .u64 0, .slice none 0 0, .bool false] 29))
          have Ox1129 := Lib.hid (Ox1128.out.alloc (.cells #[.int .i64 0, .bool false, .int .u64 0, .int .u64 0, .slice none 0 0, .bool false, .int .u64 0, .int .u64 0, .slice none 0 0, .bool false] 29))
          have Ox2129 := Lib.hid (Ox2128.out.alloc (.cells #[.int .i64 0, .bool false, .int .u64 0, .int .u64 0, .slice none 0 0, .bool false, .int .u64 0, .int .u64 0, .slice none 0 0, .bool false] 29))
          have Oy129 := Lib.hid (Oy128.out.alloc (.cells #[.int .i64 0, .bool false, .int .u64 0, .int .u64 0, .slice none 0 0, .bool false, .int .u64 0, .int .u64 0, .slice none 0 0, .bool false] 29))
          have Og1129 := Lib.hid (Og1128.out.alloc (.cells #[.int .i64 0, .bool false, .int .u64 0, .int .u64 0, .slice none 0 0, .bool false, .int .u64 0, .int .u64 0, .slice none 0 0, .bool false] 29))
          have Og2129 := Lib.hid (Og2128.out.alloc (.cells #[.int .i64 0, .bool false, .int .u64 0, .int .u64 0, .slice none 0 0, .bool false, .int .u64 0, .int .u64 0, .slice none 0 0, .bool false] 29))
          have Oz1129 := Lib.hid (Oz1128.out.alloc (.cells #[.int .i64 0, .bool false, .int .u64 0, .int .u64 0, .slice none 0 0, .bool false, .int .u64 0, .int .u64 0, .slice none 0 0, .bool false] 29))
          have Oz2129 := Lib.hid (Oz2128.out.alloc (.cells #[.int .i64 0, .bool false, .int .u64 0, .int .u64 0, .slice none 0 0, .bool false, .int .u64 0, .int .u64 0, .slice none 0 0, .bool false] 29))
          have Ov129 := Lib.hid (Ov128.out.alloc (.cells #[.int .i64 0, .bool false, .int .u64 0, .int .u64 0, .slice none 0 0, .bool false, .int .u64 0, .int .u64 0, .slice none 0 0, .bool false] 29))
          have Ok1129 := Lib.hid (Ok1128.out.alloc (.cells #[.int .i64 0, .bool false, .int .u64 0, .int .u64 0, .slice none 0 0, .bool false, .int .u64 0, .int .u64 0, .slice none 0 0, .bool false] 29))
          have Ok2129 := Lib.hid (Ok2128.out.alloc (.cells #[.int .i64 0, .bool false, .int .u64 0, .int .u64 0, .slice none 0 0, .bool false, .int .u64 0, .int .u64 0, .slice none 0 0, .bool false] 29))
          have KH129 := Lib.hid (Blk.new v128 [.int .i64 0, .bool false, .int .u64 0, .int .u64 0, .slice none 0 0, .bool false, .int .u64 0, .int .u64 0, .slice none 0 0, .bool false] 29)
          clear B128 KK128 KM128 KW128 KX128 KY128 KG128 Ow1128 Ow2128 Ox1128 Ox2128 Oy128 Og1128 Og2128 Oz1128 Oz2128 Ov128 Ok1128 Ok2128
          refine hK.out _ _ ⟨KK129.out, KM129.out⟩ (fun hS => ?_)
          clear hK K
          generalize v128.alloc (.cells #[.int .i64 0, .bool false, .int .u64 0, .int .u64 0, .slice none 0 0, .bool false, .int .u64 0, .int .u64 0, .slice none 0 0, .bool false] 29) = v129 at hS B129 KK129 KM129 KW129 KX129 KY129 KG129 KH129 Ow1129 Ow2129 Ox1129 Ox2129 Oy129 Og1129 Og2129 Oz1129 Oz2129 Ov129 Ok1129 Ok2129 ⊢
          generalize v128.heap.size = g_H at KH129 l_H n_K_H n_M_H n_W_H n_X_H n_Y_H n_G_H n_w1_H n_w2_H n_x1_H n_x2_H n_y_H n_g1_H n_g2_H n_z1_H n_z2_H n_v_H n_k1_H n_k2_H ⊢
          refine wpAnyH_ready (rs := [3]) (by kernel_rfl) (by simp) ?_
          refine AllReadyH.cons (i := 3) rfl (fun K hK => ?zx62) AllReadyH.nil
          rw [if_pos (by rfl)]
          go_simp
          clear hS
          refine (toMac_any m.u (n64 m.k) (n64 m.l) m.a m.c m.rs _ ((HM.out.2.below B129.out).mono B129.out.size) fm.out).mono ?_
          rintro e v130 ⟨g_n, rfl, ho_n, hb⟩
          have n_K_n : g_K ≠ g_n := by have h1 := KK129.out.lt; have h2 := (ho_n.lt g_n rfl).1; omega
          have n_M_n : g_M ≠ g_n := by have h1 := KM129.out.lt; have h2 := (ho_n.lt g_n rfl).1; omega
          have n_W_n : g_W ≠ g_n := by have h1 := KW129.out.lt; have h2 := (ho_n.lt g_n rfl).1; omega
          have n_X_n : g_X ≠ g_n := by have h1 := KX129.out.lt; have h2 := (ho_n.lt g_n rfl).1; omega
          have n_Y_n : g_Y ≠ g_n := by have h1 := KY129.out.lt; have h2 := (ho_n.lt g_n rfl).1; omega
          have n_G_n : g_G ≠ g_n := by have h1 := KG129.out.lt; have h2 := (ho_n.lt g_n rfl).1; omega
          have n_H_n : g_H ≠ g_n := by have h1 := KH129.out.lt; have h2 := (ho_n.lt g_n rfl).1; omega
          have n_w1_n : g_w1 ≠ g_n := by have h1 := (Ow1129.out.lt g_w1 rfl).2; have h2 := (ho_n.lt g_n rfl).1; omega
          have n_w2_n : g_w2 ≠ g_n := by have h1 := (Ow2129.out.lt g_w2 rfl).2; have h2 := (ho_n.lt g_n rfl).1; omega
          have n_x1_n : g_x1 ≠ g_n := by have h1 := (Ox1129.out.lt g_x1 rfl).2; have h2 := (ho_n.lt g_n rfl).1; omega
          have n_x2_n : g_x2 ≠ g_n := by have h1 := (Ox2129.out.lt g_x2 rfl).2; have h2 := (ho_n.lt g_n rfl).1; omega
          have n_y_n : g_y ≠ g_n := by have h1 := (Oy129.out.lt g_y rfl).2; have h2 := (ho_n.lt g_n rfl).1; omega
          have n_g1_n : g_g1 ≠ g_n := by have h1 := (Og1129.out.lt g_g1 rfl).2; have h2 := (ho_n.lt g_n rfl).1; omega
          have n_g2_n : g_g2 ≠ g_n := by have h1 := (Og2129.out.lt g_g2 rfl).2; have h2 := (ho_n.lt g_n rfl).1; omega
          have n_z1_n : g_z1 ≠ g_n := by have h1 := (Oz1129.out.lt g_z1 rfl).2; have h2 := (ho_n.lt g_n rfl).1; omega
          have n_z2_n : g_z2 ≠ g_n := by have h1 := (Oz2129.out.lt g_z2 rfl).2; have h2 := (ho_n.lt g_n rfl).1; omega
          have n_v_n : g_v ≠ g_n := by have h1 := (Ov129.out.lt g_v rfl).2; have h2 := (ho_n.lt g_n rfl).1; omega
          have n_k1_n : g_k1 ≠ g_n := by have h1 := (Ok1129.out.lt g_k1 rfl).2; have h2 := (ho_n.lt g_n rfl).1; omega
          have n_k2_n : g_k2 ≠ g_n := by have h1 := (Ok2129.out.lt g_k2 rfl).2; have h2 := (ho_n.lt g_n rfl).1; omega
          have l_n : w.heap.size ≤ g_n := Nat.le_trans B129.out.size (ho_n.lt g_n rfl).1
          have B130 := Lib.hid (B129.out.trans (hb.mono B129.out.size))
          have KK130 := Lib.hid (KK129.out.below hb)
          have KM130 := Lib.hid (KM129.out.below hb)
          have KW130 := Lib.hid (KW129.out.below hb)
          have KX130 := Lib.hid (KX129.out.below hb)
          have KY130 := Lib.hid (KY129.out.below hb)
          have KG130 := Lib.hid (KG129.out.below hb)
          have KH130 := Lib.hid (KH129.out.below hb)
          have Ow1130 := Lib.hid (Ow1129.out.kept (below_any (row := none) hb) (.inr (by simp [Value.ownBlock])))
          have Ow2130 := Lib.hid (Ow2129.out.kept (below_any (row := none) hb) (.inr (by simp [Value.ownBlock])))
          have Ox1130 := Lib.hid (Ox1129.out.kept (below_any (row := none) hb) (.inr (by simp [Value.ownBlock])))
          have Ox2130 := Lib.hid (Ox2129.out.kept (below_any (row := none) hb) (.inr (by simp [Value.ownBlock])))
          have Oy130 := Lib.hid (Oy129.out.kept (below_any (row := none) hb) (.inr (by simp [Value.ownBlock])))
          have Og1130 := Lib.hid (Og1129.out.kept (below_any (row := none) hb) (.inr (by simp [Value.ownBlock])))
          have Og2130 := Lib.hid (Og2129.out.kept (below_any (row := none) hb) (.inr (by simp [Value.ownBlock])))
          have Oz1130 := Lib.hid (Oz1129.out.kept (below_any (row := none) hb) (.inr (by simp [Value.ownBlock])))
          have Oz2130 := Lib.hid (Oz2129.out.kept (below_any (row := none) hb) (.inr (by simp [Value.ownBlock])))
          have Ov130 := Lib.hid (Ov129.out.kept (below_any (row := none) hb) (.inr (by simp [Value.ownBlock])))
          have Ok1130 := Lib.hid (Ok1129.out.kept (below_any (row := none) hb) (.inr (by simp [Value.ownBlock])))
          have Ok2130 := Lib.hid (Ok2129.out.kept (below_any (row := none) hb) (.inr (by simp [Value.ownBlock])))
          have On130 := Lib.hid (own_down ho_n (Nat.zero_le _))
          clear hb B129 KK129 KM129 KW129 KX129 KY129 KG129 KH129 Ow1129 Ow2129 Ox1129 Ox2129 Oy129 Og1129 Og2129 Oz1129 Oz2129 Ov129 Ok1129 Ok2129 ho_n
          refine hK.out _ _ ⟨KK130.out, KM130.out⟩ (fun hS => ?_)
          clear hK K
          refine wpAnyH_ready (rs := [4]) (by kernel_rfl) (by simp) ?_
          refine AllReadyH.cons (i := 4) rfl (fun K hK => ?zx63) AllReadyH.nil
          rw [if_pos (by rfl)]
          go_simp
          clear hS
          refine (C2.out g_k1 g_k2 g_n p.rs.length q.rs.length m.rs.length _ (M.on_at Ok1130.out) (M.on_at Ok2130.out) (M.on_at On130.out) Fp.out Fq.out Fm.out).mono ?_
          rintro e v131 ⟨g_h1, g_h2, c_h1, c_h2, n_h1_h2, rfl, ho_h1, ho_h2, hb⟩
          have n_K_h1 : g_K ≠ g_h1 := by have h1 := KK130.out.lt; have h2 := (ho_h1.lt g_h1 rfl).1; omega
          have n_M_h1 : g_M ≠ g_h1 := by have h1 := KM130.out.lt; have h2 := (ho_h1.lt g_h1 rfl).1; omega
          have n_W_h1 : g_W ≠ g_h1 := by have h1 := KW130.out.lt; have h2 := (ho_h1.lt g_h1 rfl).1; omega
          have n_X_h1 : g_X ≠ g_h1 := by have h1 := KX130.out.lt; have h2 := (ho_h1.lt g_h1 rfl).1; omega
          have n_Y_h1 : g_Y ≠ g_h1 := by have h1 := KY130.out.lt; have h2 := (ho_h1.lt g_h1 rfl).1; omega
          have n_G_h1 : g_G ≠ g_h1 := by have h1 := KG130.out.lt; have h2 := (ho_h1.lt g_h1 rfl).1; omega
          have n_H_h1 : g_H ≠ g_h1 := by have h1 := KH130.out.lt; have h2 := (ho_h1.lt g_h1 rfl).1; omega
          have n_w1_h1 : g_w1 ≠ g_h1 := by have h1 := (Ow1130.out.lt g_w1 rfl).2; have h2 := (ho_h1.lt g_h1 rfl).1; omega
          have n_w2_h1 : g_w2 ≠ g_h1 := by have h1 := (Ow2130.out.lt g_w2 rfl).2; have h2 := (ho_h1.lt g_h1 rfl).1; omega
          have n_x1_h1 : g_x1 ≠ g_h1 := by have h1 := (Ox1130.out.lt g_x1 rfl).2; have h2 := (ho_h1.lt g_h1 rfl).1; omega
          have n_x2_h1 : g_x2 ≠ g_h1 := by have h1 := (Ox2130.out.lt g_x2 rfl).2; have h2 := (ho_h1.lt g_h1 rfl).1; omega
          have n_y_h1 : g_y ≠ g_h1 := by have h1 := (Oy130.out.lt g_y rfl).2; have h2 := (ho_h1.lt g_h1 rfl).1; omega
          have n_g1_h1 : g_g1 ≠ g_h1 := by have h1 := (Og1130.out.lt g_g1 rfl).2; have h2 := (ho_h1.lt g_h1 rfl).1; omega
          have n_g2_h1 : g_g2 ≠ g_h1 := by have h1 := (Og2130.out.lt g_g2 rfl).2; have h2 := (ho_h1.lt g_h1 rfl).1; omega
          have n_z1_h1 : g_z1 ≠ g_h1 := by have h1 := (Oz1130.out.lt g_z1 rfl).2; have h2 := (ho_h1.lt g_h1 rfl).1; omega
          have n_z2_h1 : g_z2 ≠ g_h1 := by have h1 := (Oz2130.out.lt g_z2 rfl).2; have h2 := (ho_h1.lt g_h1 rfl).1; omega
          have n_v_h1 : g_v ≠ g_h1 := by have h1 := (Ov130.out.lt g_v rfl).2; have h2 := (ho_h1.lt g_h1 rfl).1; omega
          have n_k1_h1 : g_k1 ≠ g_h1 := by have h1 := (Ok1130.out.lt g_k1 rfl).2; have h2 := (ho_h1.lt g_h1 rfl).1; omega
          have n_k2_h1 : g_k2 ≠ g_h1 := by have h1 := (Ok2130.out.lt g_k2 rfl).2; have h2 := (ho_h1.lt g_h1 rfl).1; omega
          have n_n_h1 : g_n ≠ g_h1 := by have h1 := (On130.out.lt g_n rfl).2; have h2 := (ho_h1.lt g_h1 rfl).1; omega
          have l_h1 : w.heap.size ≤ g_h1 := Nat.le_trans B130.out.size (ho_h1.lt g_h1 rfl).1
          have n_K_h2 : g_K ≠ g_h2 := by have h1 := KK130.out.lt; have h2 := (ho_h2.lt g_h2 rfl).1; omega
          have n_M_h2 : g_M ≠ g_h2 := by have h1 := KM130.out.lt; have h2 := (ho_h2.lt g_h2 rfl).1; omega
          have n_W_h2 : g_W ≠ g_h2 := by have h1 := KW130.out.lt; have h2 := (ho_h2.lt g_h2 rfl).1; omega
          have n_X_h2 : g_X ≠ g_h2 := by have h1 := KX130.out.lt; have h2 := (ho_h2.lt g_h2 rfl).1; omega
          have n_Y_h2 : g_Y ≠ g_h2 := by have h1 := KY130.out.lt; have h2 := (ho_h2.lt g_h2 rfl).1; omega
          have n_G_h2 : g_G ≠ g_h2 := by have h1 := KG130.out.lt; have h2 := (ho_h2.lt g_h2 rfl).1; omega
          have n_H_h2 : g_H ≠ g_h2 := by have h1 := KH130.out.lt; have h2 := (ho_h2.lt g_h2 rfl).1; omega
          have n_w1_h2 : g_w1 ≠ g_h2 := by have h1 := (Ow1130.out.lt g_w1 rfl).2; have h2 := (ho_h2.lt g_h2 rfl).1; omega
          have n_w2_h2 : g_w2 ≠ g_h2 := by have h1 := (Ow2130.out.lt g_w2 rfl).2; have h2 := (ho_h2.lt g_h2 rfl).1; omega
          have n_x1_h2 : g_x1 ≠ g_h2 := by have h1 := (Ox1130.out.lt g_x1 rfl).2; have h2 := (ho_h2.lt g_h2 rfl).1; omega
          have n_x2_h2 : g_x2 ≠ g_h2 := by have h1 := (Ox2130.out.lt g_x2 rfl).2; have h2 := (ho_h2.lt g_h2 rfl).1; omega
          have n_y_h2 : g_y ≠ g_h2 := by have h1 := (Oy130.out.lt g_y rfl).2; have h2 := (ho_h2.lt g_h2 rfl).1; omega
          have n_g1_h2 : g_g1 ≠ g_h2 := by have h1 := (Og1130.out.lt g_g1 rfl).2; have h2 := (ho_h2.lt g_h2 rfl).1; omega
          have n_g2_h2 : g_g2 ≠ g_h2 := by have h1 := (Og2130.out.lt g_g2 rfl).2; have h2 := (ho_h2.lt g_h2 rfl).1; omega
          have n_z1_h2 : g_z1 ≠ g_h2 := by have h1 := (Oz1130.out.lt g_z1 rfl).2; have h2 := (ho_h2.lt g_h2 rfl).1; omega
          have n_z2_h2 : g_z2 ≠ g_h2 := by have h1 := (Oz2130.out.lt g_z2 rfl).2; have h2 := (ho_h2.lt g_h2 rfl).1; omega
          have n_v_h2 : g_v ≠ g_h2 := by have h1 := (Ov130.out.lt g_v rfl).2; have h2 := (ho_h2.lt g_h2 rfl).1; omega
          have n_k1_h2 : g_k1 ≠ g_h2 := by have h1 := (Ok1130.out.lt g_k1 rfl).2; have h2 := (ho_h2.lt g_h2 rfl).1; omega
          have n_k2_h2 : g_k2 ≠ g_h2 := by have h1 := (Ok2130.out.lt g_k2 rfl).2; have h2 := (ho_h2.lt g_h2 rfl).1; omega
          have n_n_h2 : g_n ≠ g_h2 := by have h1 := (On130.out.lt g_n rfl).2; have h2 := (ho_h2.lt g_h2 rfl).1; omega
          have l_h2 : w.heap.size ≤ g_h2 := Nat.le_trans B130.out.size (ho_h2.lt g_h2 rfl).1
          have B131 := Lib.hid (B130.out.trans (hb.mono B130.out.size))
          have KK131 := Lib.hid (KK130.out.below hb)
          have KM131 := Lib.hid (KM130.out.below hb)
          have KW131 := Lib.hid (KW130.out.below hb)
          have KX131 := Lib.hid (KX130.out.below hb)
          have KY131 := Lib.hid (KY130.out.below hb)
          have KG131 := Lib.hid (KG130.out.below hb)
          have KH131 := Lib.hid (KH130.out.below hb)
          have Ow1131 := Lib.hid (Ow1130.out.kept (below_any (row := none) hb) (.inr (by simp [Value.ownBlock])))
          have Ow2131 := Lib.hid (Ow2130.out.kept (below_any (row := none) hb) (.inr (by simp [Value.ownBlock])))
          have Ox1131 := Lib.hid (Ox1130.out.kept (below_any (row := none) hb) (.inr (by simp [Value.ownBlock])))
          have Ox2131 := Lib.hid (Ox2130.out.kept (below_any (row := none) hb) (.inr (by simp [Value.ownBlock])))
          have Oy131 := Lib.hid (Oy130.out.kept (below_any (row := none) hb) (.inr (by simp [Value.ownBlock])))
          have Og1131 := Lib.hid (Og1130.out.kept (below_any (row := none) hb) (.inr (by simp [Value.ownBlock])))
          have Og2131 := Lib.hid (Og2130.out.kept (below_any (row := none) hb) (.inr (by simp [Value.ownBlock])))
          have Oz1131 := Lib.hid (Oz1130.out.kept (below_any (row := none) hb) (.inr (by simp [Value.ownBlock])))
          have Oz2131 := Lib.hid (Oz2130.out.kept (below_any (row := none) hb) (.inr (by simp [Value.ownBlock])))
          have Ov131 := Lib.hid (Ov130.out.kept (below_any (row := none) hb) (.inr (by simp [Value.ownBlock])))
          have Ok1131 := Lib.hid (Ok1130.out.kept (below_any (row := none) hb) (.inr (by simp [Value.ownBlock])))
          have Ok2131 := Lib.hid (Ok2130.out.kept (below_any (row := none) hb) (.inr (by simp [Value.ownBlock])))
          have On131 := Lib.hid (On130.out.kept (below_any (row := none) hb) (.inr (by simp [Value.ownBlock])))
          have Oh1131 := Lib.hid (own_down ho_h1 (Nat.zero_le _))
          have Oh2131 := Lib.hid (own_down ho_h2 (Nat.zero_le _))
          clear hb B130 KK130 KM130 KW130 KX130 KY130 KG130 KH130 Ow1130 Ow2130 Ox1130 Ox2130 Oy130 Og1130 Og2130 Oz1130 Oz2130 Ov130 Ok1130 Ok2130 On130 ho_h1 ho_h2
          refine hK.out _ _ ⟨KK131.out, KM131.out⟩ (fun hS => ?_)
          clear hK K
          obtain ⟨⟨cH0, cH1, cH2, cH3, cH4, cH5, cH6, cH7, cH8, cH9⟩, dH0, dH1, dH2, dH3, dH4, dH5, dH6, dH7, dH8, dH9⟩ := KH131.out.of10
          refine wpAnyH_ready (rs := [6]) (by kernel_rfl) (by simp) ?_
          refine AllReadyH.cons (i := 6) rfl (fun K hK => ?zx64) AllReadyH.nil
          rw [if_pos (by rfl)]
          go_simp
          clear hS
          have hgs : v131.grownBy ((((((((((v131.setCell ⟨g_H, 0, none⟩ (.int .i64 e)).setCell ⟨g_H, 1, none⟩ (.bool p.u)).setCell ⟨g_H, 2, none⟩ (.int .u64 (n64 p.k))).setCell ⟨g_H, 3, none⟩ (.int .u64 (n64 p.l))).setCell ⟨g_H, 4, none⟩ (.slice (some ⟨g_h1, 0, none⟩) p.rs.length c_h1)).setCell ⟨g_H, 5, none⟩ (.bool q.u)).setCell ⟨g_H, 6, none⟩ (.int .u64 (n64 q.k))).setCell ⟨g_H, 7, none⟩ (.int .u64 (n64 q.l))).setCell ⟨g_H, 8, none⟩ (.slice (some ⟨g_h2, 0, none⟩) q.rs.length c_h2)).setCell ⟨g_H, 9, none⟩ (.bool t)) (some g_H) := (grown_setR (grown_setR (grown_setR (grown_setR (grown_setR (grown_setR (grown_setR (grown_setR (grown_setR (grown_setR (World.grownBy.refl v131 (some g_H)) 0 (.int .i64 e)) 1 (.bool p.u)) 2 (.int .u64 (n64 p.k))) 3 (.int .u64 (n64 p.l))) 4 (.slice (some ⟨g_h1, 0, none⟩) p.rs.length c_h1)) 5 (.bool q.u)) 6 (.int .u64 (n64 q.k))) 7 (.int .u64 (n64 q.l))) 8 (.slice (some ⟨g_h2, 0, none⟩) q.rs.length c_h2)) 9 (.bool t))
          have B132 := Lib.hid (B131.out.trans (grown_below hgs l_H B131.out.size))
          have KK132 := Lib.hid (KK131.out.grown hgs (n_K_H))
          have KM132 := Lib.hid (KM131.out.grown hgs (n_M_H))
          have KW132 := Lib.hid (KW131.out.grown hgs (n_W_H))
          have KX132 := Lib.hid (KX131.out.grown hgs (n_X_H))
          have KY132 := Lib.hid (KY131.out.grown hgs (n_Y_H))
          have KG132 := Lib.hid (KG131.out.grown hgs (n_G_H))
          have KH132 := Lib.hid (show Blk ((((((((((v131.setCell ⟨g_H, 0, none⟩ (.int .i64 e)).setCell ⟨g_H, 1, none⟩ (.bool p.u)).setCell ⟨g_H, 2, none⟩ (.int .u64 (n64 p.k))).setCell ⟨g_H, 3, none⟩ (.int .u64 (n64 p.l))).setCell ⟨g_H, 4, none⟩ (.slice (some ⟨g_h1, 0, none⟩) p.rs.length c_h1)).setCell ⟨g_H, 5, none⟩ (.bool q.u)).setCell ⟨g_H, 6, none⟩ (.int .u64 (n64 q.k))).setCell ⟨g_H, 7, none⟩ (.int .u64 (n64 q.l))).setCell ⟨g_H, 8, none⟩ (.slice (some ⟨g_h2, 0, none⟩) q.rs.length c_h2)).setCell ⟨g_H, 9, none⟩ (.bool t)) g_H [.int .i64 e, .bool p.u, .int .u64 (n64 p.k), .int .u64 (n64 p.l), .slice (some ⟨g_h1, 0, none⟩) p.rs.length c_h1, .bool q.u, .int .u64 (n64 q.k), .int .u64 (n64 q.l), .slice (some ⟨g_h2, 0, none⟩) q.rs.length c_h2, .bool t] from ((((((((((KH131.out.set 0 (.int .i64 e)).set 1 (.bool p.u)).set 2 (.int .u64 (n64 p.k))).set 3 (.int .u64 (n64 p.l))).set 4 (.slice (some ⟨g_h1, 0, none⟩) p.rs.length c_h1)).set 5 (.bool q.u)).set 6 (.int .u64 (n64 q.k))).set 7 (.int .u64 (n64 q.l))).set 8 (.slice (some ⟨g_h2, 0, none⟩) q.rs.length c_h2)).set 9 (.bool t)))
          have Ow1132 := Lib.hid (Ow1131.out.kept hgs (.inr (own_ne (n_w1_H))))
          have Ow2132 := Lib.hid (Ow2131.out.kept hgs (.inr (own_ne (n_w2_H))))
          have Ox1132 := Lib.hid (Ox1131.out.kept hgs (.inr (own_ne (n_x1_H))))
          have Ox2132 := Lib.hid (Ox2131.out.kept hgs (.inr (own_ne (n_x2_H))))
          have Oy132 := Lib.hid (Oy131.out.kept hgs (.inr (own_ne (n_y_H))))
          have Og1132 := Lib.hid (Og1131.out.kept hgs (.inr (own_ne (n_g1_H))))
          have Og2132 := Lib.hid (Og2131.out.kept hgs (.inr (own_ne (n_g2_H))))
          have Oz1132 := Lib.hid (Oz1131.out.kept hgs (.inr (own_ne (n_z1_H))))
          have Oz2132 := Lib.hid (Oz2131.out.kept hgs (.inr (own_ne (n_z2_H))))
          have Ov132 := Lib.hid (Ov131.out.kept hgs (.inr (own_ne (n_v_H))))
          have Ok1132 := Lib.hid (Ok1131.out.kept hgs (.inr (own_ne (n_k1_H))))
          have Ok2132 := Lib.hid (Ok2131.out.kept hgs (.inr (own_ne (n_k2_H))))
          have On132 := Lib.hid (On131.out.kept hgs (.inr (own_ne (fun e => n_H_n e.symm))))
          have Oh1132 := Lib.hid (Oh1131.out.kept hgs (.inr (own_ne (fun e => n_H_h1 e.symm))))
          have Oh2132 := Lib.hid (Oh2131.out.kept hgs (.inr (own_ne (fun e => n_H_h2 e.symm))))
          clear hgs
          refine hK.out _ _ ⟨KK132.out, KM132.out⟩ (fun hS => ?_)
          clear hK K
          clear B131 KK131 KM131 KW131 KX131 KY131 KG131 KH131 Ow1131 Ow2131 Ox1131 Ox2131 Oy131 Og1131 Og2131 Oz1131 Oz2131 Ov131 Ok1131 Ok2131 On131 Oh1131 Oh2131
          clear cH0 cH1 cH2 cH3 cH4 cH5 cH6 cH7 cH8 cH9 dH0 dH1 dH2 dH3 dH4 dH5 dH6 dH7 dH8 dH9
          generalize (((((((((v131.setCell ⟨g_H, 0, none⟩ (.int .i64 e)).setCell ⟨g_H, 1, none⟩ (.bool p.u)).setCell ⟨g_H, 2, none⟩ (.int .u64 (n64 p.k))).setCell ⟨g_H, 3, none⟩ (.int .u64 (n64 p.l))).setCell ⟨g_H, 4, none⟩ (.slice (some ⟨g_h1, 0, none⟩) p.rs.length c_h1)).setCell ⟨g_H, 5, none⟩ (.bool q.u)).setCell ⟨g_H, 6, none⟩ (.int .u64 (n64 q.k))).setCell ⟨g_H, 7, none⟩ (.int .u64 (n64 q.l))).setCell ⟨g_H, 8, none⟩ (.slice (some ⟨g_h2, 0, none⟩) q.rs.length c_h2)).setCell ⟨g_H, 9, none⟩ (.bool t) = v132 at hS B132 KK132 KM132 KW132 KX132 KY132 KG132 KH132 Ow1132 Ow2132 Ox1132 Ox2132 Oy132 Og1132 Og2132 Oz1132 Oz2132 Ov132 Ok1132 Ok2132 On132 Oh1132 Oh2132 ⊢
          refine wpAnyH_done (by kernel_rfl) ?_ _
          refine NoPanic.normal ?_
          go_wp2_with fail
          go_meet
          case rel => exact ⟨g_H, g_h1, g_h2, c_h1, c_h2, rfl, B132, KK132, KM132, KW132, KX132, KY132, KG132, Ow1132, Ow2132, Ox1132, Ox2132, Oy132, Og1132, Og2132, Oz1132, Oz2132, Ov132, KH132, Oh1132, Oh2132, ⟨n_K_H, n_K_h1, n_K_h2, n_M_H, n_M_h1, n_M_h2, n_W_H, n_W_h1, n_W_h2, n_X_H, n_X_h1, n_X_h2, n_Y_H, n_Y_h1, n_Y_h2, n_G_H, n_G_h1, n_G_h2, n_w1_H, n_w1_h1, n_w1_h2, n_w2_H, n_w2_h1, n_w2_h2, n_x1_H, n_x1_h1, n_x1_h2, n_x2_H, n_x2_h1, n_x2_h2, n_y_H, n_y_h1, n_y_h2, n_g1_H, n_g1_h1, n_g1_h2, n_g2_H, n_g2_h1, n_g2_h2, n_z1_H, n_z1_h1, n_z1_h2, n_z2_H, n_z2_h1, n_z2_h2, n_v_H, n_v_h1, n_v_h2, n_H_h1, n_H_h2, n_h1_h2⟩, ⟨l_H, l_h1, l_h2⟩⟩
      · rw [if_pos (by rfl)]
        go_simp
        clear hS
        have B128 := Lib.hid (B127.out.alloc B127.out.size (.cells #[.int .i64 0, .bool false, .int .u64 0, .int .u64 0, .slice none 0 0, .bool false, .int .u64 0, .int .u64 0, .slice none 0 0, .bool false] 29))
        have l_H : w.heap.size ≤ v127.heap.size := B127.out.size
        have n_K_H : g_K ≠ v127.heap.size := by have h1 := KK127.out.lt; omega
        have n_M_H : g_M ≠ v127.heap.size := by have h1 := KM127.out.lt; omega
        have n_W_H : g_W ≠ v127.heap.size := by have h1 := KW127.out.lt; omega
        have n_X_H : g_X ≠ v127.heap.size := by have h1 := KX127.out.lt; omega
        have n_Y_H : g_Y ≠ v127.heap.size := by have h1 := KY127.out.lt; omega
        have n_G_H : g_G ≠ v127.heap.size := by have h1 := KG127.out.lt; omega
        have n_w1_H : g_w1 ≠ v127.heap.size := by have h1 := (Ow1127.out.lt g_w1 rfl).2; omega
        have n_w2_H : g_w2 ≠ v127.heap.size := by have h1 := (Ow2127.out.lt g_w2 rfl).2; omega
        have n_x1_H : g_x1 ≠ v127.heap.size := by have h1 := (Ox1127.out.lt g_x1 rfl).2; omega
        have n_x2_H : g_x2 ≠ v127.heap.size := by have h1 := (Ox2127.out.lt g_x2 rfl).2; omega
        have n_y_H : g_y ≠ v127.heap.size := by have h1 := (Oy127.out.lt g_y rfl).2; omega
        have n_g1_H : g_g1 ≠ v127.heap.size := by have h1 := (Og1127.out.lt g_g1 rfl).2; omega
        have n_g2_H : g_g2 ≠ v127.heap.size := by have h1 := (Og2127.out.lt g_g2 rfl).2; omega
        have n_z1_H : g_z1 ≠ v127.heap.size := by have h1 := (Oz1127.out.lt g_z1 rfl).2; omega
        have n_z2_H : g_z2 ≠ v127.heap.size := by have h1 := (Oz2127.out.lt g_z2 rfl).2; omega
        have n_v_H : g_v ≠ v127.heap.size := by have h1 := (Ov127.out.lt g_v rfl).2; omega
        have KK128 := Lib.hid (KK127.out.alloc (.cells #[.int .i64 0, .bool false, .int .u64 0, .int .u64 0, .slice none 0 0, .bool false, .int .u64 0, .int .u64 0, .slice none 0 0, .bool false] 29))
        have KM128 := Lib.hid (KM127.out.alloc (.cells #[.int .i64 0, .bool false, .int .u64 0, .int .u64 0, .slice none 0 0, .bool false, .int .u64 0, .int .u64 0, .slice none 0 0, .bool false] 29))
        have KW128 := Lib.hid (KW127.out.alloc (.cells #[.int .i64 0, .bool false, .int .u64 0, .int .u64 0, .slice none 0 0, .bool false, .int .u64 0, .int .u64 0, .slice none 0 0, .bool false] 29))
        have KX128 := Lib.hid (KX127.out.alloc (.cells #[.int .i64 0, .bool false, .int .u64 0, .int .u64 0, .slice none 0 0, .bool false, .int .u64 0, .int .u64 0, .slice none 0 0, .bool false] 29))
        have KY128 := Lib.hid (KY127.out.alloc (.cells #[.int .i64 0, .bool false, .int .u64 0, .int .u64 0, .slice none 0 0, .bool false, .int .u64 0, .int .u64 0, .slice none 0 0, .bool false] 29))
        have KG128 := Lib.hid (KG127.out.alloc (.cells #[.int .i64 0, .bool false, .int .u64 0, .int .u64 0, .slice none 0 0, .bool false, .int .u64 0, .int .u64 0, .slice none 0 0, .bool false] 29))
        have Ow1128 := Lib.hid (Ow1127.out.alloc (.cells #[.int .i64 0, .bool false, .int .u64 0, .int .u64 0, .slice none 0 0, .bool false, .int .u64 0, .int .u64 0, .slice none 0 0, .bool false] 29))
        have Ow2128 := Lib.hid (Ow2127.out.alloc (.cells #[.int .i64 0, .bool false, .int .u64 0, .int .u64 0, .slice none 0 0, .bool false, .int .u64 0, .int .u64 0, .slice none 0 0, .bool false] 29))
        have Ox1128 := Lib.hid (Ox1127.out.alloc (.cells #[.int .i64 0, .bool false, .int .u64 0, .int .u64 0, .slice none 0 0, .bool false, .int .u64 0, .int .u64 0, .slice none 0 0, .bool false] 29))
        have Ox2128 := Lib.hid (Ox2127.out.alloc (.cells #[.int .i64 0, .bool false, .int .u64 0, .int .u64 0, .slice none 0 0, .bool false, .int .u64 0, .int .u64 0, .slice none 0 0, .bool false] 29))
        have Oy128 := Lib.hid (Oy127.out.alloc (.cells #[.int .i64 0, .bool false, .int .u64 0, .int .u64 0, .slice none 0 0, .bool false, .int .u64 0, .int .u64 0, .slice none 0 0, .bool false] 29))
        have Og1128 := Lib.hid (Og1127.out.alloc (.cells #[.int .i64 0, .bool false, .int .u64 0, .int .u64 0, .slice none 0 0, .bool false, .int .u64 0, .int .u64 0, .slice none 0 0, .bool false] 29))
        have Og2128 := Lib.hid (Og2127.out.alloc (.cells #[.int .i64 0, .bool false, .int .u64 0, .int .u64 0, .slice none 0 0, .bool false, .int .u64 0, .int .u64 0, .slice none 0 0, .bool false] 29))
        have Oz1128 := Lib.hid (Oz1127.out.alloc (.cells #[.int .i64 0, .bool false, .int .u64 0, .int .u64 0, .slice none 0 0, .bool false, .int .u64 0, .int .u64 0, .slice none 0 0, .bool false] 29))
        have Oz2128 := Lib.hid (Oz2127.out.alloc (.cells #[.int .i64 0, .bool false, .int .u64 0, .int .u64 0, .slice none 0 0, .bool false, .int .u64 0, .int .u64 0, .slice none 0 0, .bool false] 29))
        have Ov128 := Lib.hid (Ov127.out.alloc (.cells #[.int .i64 0, .bool false, .int .u64 0, .int .u64 0, .slice none 0 0, .bool false, .int .u64 0, .int .u64 0, .slice none 0 0, .bool false] 29))
        have KH128 := Lib.hid (Blk.new v127 [.int .i64 0, .bool false, .int .u64 0, .int .u64 0, .slice none 0 0, .bool false, .int .u64 0, .int .u64 0, .slice none 0 0, .bool false] 29)
        clear B127 KK127 KM127 KW127 KX127 KY127 KG127 Ow1127 Ow2127 Ox1127 Ox2127 Oy127 Og1127 Og2127 Oz1127 Oz2127 Ov127
        refine hK.out _ _ ⟨KK128.out, KM128.out⟩ (fun hS => ?_)
        clear hK K
        generalize v127.alloc (.cells #[.int .i64 0, .bool false, .int .u64 0, .int .u64 0, .slice none 0 0, .bool false, .int .u64 0, .int .u64 0, .slice none 0 0, .bool false] 29) = v128 at hS B128 KK128 KM128 KW128 KX128 KY128 KG128 KH128 Ow1128 Ow2128 Ox1128 Ox2128 Oy128 Og1128 Og2128 Oz1128 Oz2128 Ov128 ⊢
        generalize v127.heap.size = g_H at KH128 l_H n_K_H n_M_H n_W_H n_X_H n_Y_H n_G_H n_w1_H n_w2_H n_x1_H n_x2_H n_y_H n_g1_H n_g2_H n_z1_H n_z2_H n_v_H ⊢
        refine wpAnyH_ready (rs := [1]) (by kernel_rfl) (by simp) ?_
        refine AllReadyH.cons (i := 1) rfl (fun K hK => ?zx65) AllReadyH.nil
        rw [if_pos (by rfl)]
        go_simp
        clear hS
        refine (toKeys_any e p q t _ ((HP.out.2.below B128.out).mono B128.out.size) ((HQ.out.2.below B128.out).mono B128.out.size) fp.out fq.out).mono ?_
        rintro e v129 ⟨g_k1, g_k2, n_k1_k2, rfl, ho_k1, ho_k2, hb⟩
        have n_K_k1 : g_K ≠ g_k1 := by have h1 := KK128.out.lt; have h2 := (ho_k1.lt g_k1 rfl).1; omega
        have n_M_k1 : g_M ≠ g_k1 := by have h1 := KM128.out.lt; have h2 := (ho_k1.lt g_k1 rfl).1; omega
        have n_W_k1 : g_W ≠ g_k1 := by have h1 := KW128.out.lt; have h2 := (ho_k1.lt g_k1 rfl).1; omega
        have n_X_k1 : g_X ≠ g_k1 := by have h1 := KX128.out.lt; have h2 := (ho_k1.lt g_k1 rfl).1; omega
        have n_Y_k1 : g_Y ≠ g_k1 := by have h1 := KY128.out.lt; have h2 := (ho_k1.lt g_k1 rfl).1; omega
        have n_G_k1 : g_G ≠ g_k1 := by have h1 := KG128.out.lt; have h2 := (ho_k1.lt g_k1 rfl).1; omega
        have n_H_k1 : g_H ≠ g_k1 := by have h1 := KH128.out.lt; have h2 := (ho_k1.lt g_k1 rfl).1; omega
        have n_w1_k1 : g_w1 ≠ g_k1 := by have h1 := (Ow1128.out.lt g_w1 rfl).2; have h2 := (ho_k1.lt g_k1 rfl).1; omega
        have n_w2_k1 : g_w2 ≠ g_k1 := by have h1 := (Ow2128.out.lt g_w2 rfl).2; have h2 := (ho_k1.lt g_k1 rfl).1; omega
        have n_x1_k1 : g_x1 ≠ g_k1 := by have h1 := (Ox1128.out.lt g_x1 rfl).2; have h2 := (ho_k1.lt g_k1 rfl).1; omega
        have n_x2_k1 : g_x2 ≠ g_k1 := by have h1 := (Ox2128.out.lt g_x2 rfl).2; have h2 := (ho_k1.lt g_k1 rfl).1; omega
        have n_y_k1 : g_y ≠ g_k1 := by have h1 := (Oy128.out.lt g_y rfl).2; have h2 := (ho_k1.lt g_k1 rfl).1; omega
        have n_g1_k1 : g_g1 ≠ g_k1 := by have h1 := (Og1128.out.lt g_g1 rfl).2; have h2 := (ho_k1.lt g_k1 rfl).1; omega
        have n_g2_k1 : g_g2 ≠ g_k1 := by have h1 := (Og2128.out.lt g_g2 rfl).2; have h2 := (ho_k1.lt g_k1 rfl).1; omega
        have n_z1_k1 : g_z1 ≠ g_k1 := by have h1 := (Oz1128.out.lt g_z1 rfl).2; have h2 := (ho_k1.lt g_k1 rfl).1; omega
        have n_z2_k1 : g_z2 ≠ g_k1 := by have h1 := (Oz2128.out.lt g_z2 rfl).2; have h2 := (ho_k1.lt g_k1 rfl).1; omega
        have n_v_k1 : g_v ≠ g_k1 := by have h1 := (Ov128.out.lt g_v rfl).2; have h2 := (ho_k1.lt g_k1 rfl).1; omega
        have l_k1 : w.heap.size ≤ g_k1 := Nat.le_trans B128.out.size (ho_k1.lt g_k1 rfl).1
        have n_K_k2 : g_K ≠ g_k2 := by have h1 := KK128.out.lt; have h2 := (ho_k2.lt g_k2 rfl).1; omega
        have n_M_k2 : g_M ≠ g_k2 := by have h1 := KM128.out.lt; have h2 := (ho_k2.lt g_k2 rfl).1; omega
        have n_W_k2 : g_W ≠ g_k2 := by have h1 := KW128.out.lt; have h2 := (ho_k2.lt g_k2 rfl).1; omega
        have n_X_k2 : g_X ≠ g_k2 := by have h1 := KX128.out.lt; have h2 := (ho_k2.lt g_k2 rfl).1; omega
        have n_Y_k2 : g_Y ≠ g_k2 := by have h1 := KY128.out.lt; have h2 := (ho_k2.lt g_k2 rfl).1; omega
        have n_G_k2 : g_G ≠ g_k2 := by have h1 := KG128.out.lt; have h2 := (ho_k2.lt g_k2 rfl).1; omega
        have n_H_k2 : g_H ≠ g_k2 := by have h1 := KH128.out.lt; have h2 := (ho_k2.lt g_k2 rfl).1; omega
        have n_w1_k2 : g_w1 ≠ g_k2 := by have h1 := (Ow1128.out.lt g_w1 rfl).2; have h2 := (ho_k2.lt g_k2 rfl).1; omega
        have n_w2_k2 : g_w2 ≠ g_k2 := by have h1 := (Ow2128.out.lt g_w2 rfl).2; have h2 := (ho_k2.lt g_k2 rfl).1; omega
        have n_x1_k2 : g_x1 ≠ g_k2 := by have h1 := (Ox1128.out.lt g_x1 rfl).2; have h2 := (ho_k2.lt g_k2 rfl).1; omega
        have n_x2_k2 : g_x2 ≠ g_k2 := by have h1 := (Ox2128.out.lt g_x2 rfl).2; have h2 := (ho_k2.lt g_k2 rfl).1; omega
        have n_y_k2 : g_y ≠ g_k2 := by have h1 := (Oy128.out.lt g_y rfl).2; have h2 := (ho_k2.lt g_k2 rfl).1; omega
        have n_g1_k2 : g_g1 ≠ g_k2 := by have h1 := (Og1128.out.lt g_g1 rfl).2; have h2 := (ho_k2.lt g_k2 rfl).1; omega
        have n_g2_k2 : g_g2 ≠ g_k2 := by have h1 := (Og2128.out.lt g_g2 rfl).2; have h2 := (ho_k2.lt g_k2 rfl).1; omega
        have n_z1_k2 : g_z1 ≠ g_k2 := by have h1 := (Oz1128.out.lt g_z1 rfl).2; have h2 := (ho_k2.lt g_k2 rfl).1; omega
        have n_z2_k2 : g_z2 ≠ g_k2 := by have h1 := (Oz2128.out.lt g_z2 rfl).2; have h2 := (ho_k2.lt g_k2 rfl).1; omega
        have n_v_k2 : g_v ≠ g_k2 := by have h1 := (Ov128.out.lt g_v rfl).2; have h2 := (ho_k2.lt g_k2 rfl).1; omega
        have l_k2 : w.heap.size ≤ g_k2 := Nat.le_trans B128.out.size (ho_k2.lt g_k2 rfl).1
        have B129 := Lib.hid (B128.out.trans (hb.mono B128.out.size))
        have KK129 := Lib.hid (KK128.out.below hb)
        have KM129 := Lib.hid (KM128.out.below hb)
        have KW129 := Lib.hid (KW128.out.below hb)
        have KX129 := Lib.hid (KX128.out.below hb)
        have KY129 := Lib.hid (KY128.out.below hb)
        have KG129 := Lib.hid (KG128.out.below hb)
        have KH129 := Lib.hid (KH128.out.below hb)
        have Ow1129 := Lib.hid (Ow1128.out.kept (below_any (row := none) hb) (.inr (by simp [Value.ownBlock])))
        have Ow2129 := Lib.hid (Ow2128.out.kept (below_any (row := none) hb) (.inr (by simp [Value.ownBlock])))
        have Ox1129 := Lib.hid (Ox1128.out.kept (below_any (row := none) hb) (.inr (by simp [Value.ownBlock])))
        have Ox2129 := Lib.hid (Ox2128.out.kept (below_any (row := none) hb) (.inr (by simp [Value.ownBlock])))
        have Oy129 := Lib.hid (Oy128.out.kept (below_any (row := none) hb) (.inr (by simp [Value.ownBlock])))
        have Og1129 := Lib.hid (Og1128.out.kept (below_any (row := none) hb) (.inr (by simp [Value.ownBlock])))
        have Og2129 := Lib.hid (Og2128.out.kept (below_any (row := none) hb) (.inr (by simp [Value.ownBlock])))
        have Oz1129 := Lib.hid (Oz1128.out.kept (below_any (row := none) hb) (.inr (by simp [Value.ownBlock])))
        have Oz2129 := Lib.hid (Oz2128.out.kept (below_any (row := none) hb) (.inr (by simp [Value.ownBlock])))
        have Ov129 := Lib.hid (Ov128.out.kept (below_any (row := none) hb) (.inr (by simp [Value.ownBlock])))
        have Ok1129 := Lib.hid (own_down ho_k1 (Nat.zero_le _))
        have Ok2129 := Lib.hid (own_down ho_k2 (Nat.zero_le _))
        clear hb B128 KK128 KM128 KW128 KX128 KY128 KG128 KH128 Ow1128 Ow2128 Ox1128 Ox2128 Oy128 Og1128 Og2128 Oz1128 Oz2128 Ov128 ho_k1 ho_k2
        refine hK.out _ _ ⟨KK129.out, KM129.out⟩ (fun hS => ?_)
        clear hK K
        refine wpAnyH_ready (rs := [3]) (by kernel_rfl) (by simp) ?_
        refine AllReadyH.cons (i := 3) rfl (fun K hK => ?zx66) AllReadyH.nil
        rw [if_pos (by rfl)]
        go_simp
        clear hS
        refine (toMac_any m.u (n64 m.k) (n64 m.l) m.a m.c m.rs _ ((HM.out.2.below B129.out).mono B129.out.size) fm.out).mono ?_
        rintro e v130 ⟨g_n, rfl, ho_n, hb⟩
        have n_K_n : g_K ≠ g_n := by have h1 := KK129.out.lt; have h2 := (ho_n.lt g_n rfl).1; omega
        have n_M_n : g_M ≠ g_n := by have h1 := KM129.out.lt; have h2 := (ho_n.lt g_n rfl).1; omega
        have n_W_n : g_W ≠ g_n := by have h1 := KW129.out.lt; have h2 := (ho_n.lt g_n rfl).1; omega
        have n_X_n : g_X ≠ g_n := by have h1 := KX129.out.lt; have h2 := (ho_n.lt g_n rfl).1; omega
        have n_Y_n : g_Y ≠ g_n := by have h1 := KY129.out.lt; have h2 := (ho_n.lt g_n rfl).1; omega
        have n_G_n : g_G ≠ g_n := by have h1 := KG129.out.lt; have h2 := (ho_n.lt g_n rfl).1; omega
        have n_H_n : g_H ≠ g_n := by have h1 := KH129.out.lt; have h2 := (ho_n.lt g_n rfl).1; omega
        have n_w1_n : g_w1 ≠ g_n := by have h1 := (Ow1129.out.lt g_w1 rfl).2; have h2 := (ho_n.lt g_n rfl).1; omega
        have n_w2_n : g_w2 ≠ g_n := by have h1 := (Ow2129.out.lt g_w2 rfl).2; have h2 := (ho_n.lt g_n rfl).1; omega
        have n_x1_n : g_x1 ≠ g_n := by have h1 := (Ox1129.out.lt g_x1 rfl).2; have h2 := (ho_n.lt g_n rfl).1; omega
        have n_x2_n : g_x2 ≠ g_n := by have h1 := (Ox2129.out.lt g_x2 rfl).2; have h2 := (ho_n.lt g_n rfl).1; omega
        have n_y_n : g_y ≠ g_n := by have h1 := (Oy129.out.lt g_y rfl).2; have h2 := (ho_n.lt g_n rfl).1; omega
        have n_g1_n : g_g1 ≠ g_n := by have h1 := (Og1129.out.lt g_g1 rfl).2; have h2 := (ho_n.lt g_n rfl).1; omega
        have n_g2_n : g_g2 ≠ g_n := by have h1 := (Og2129.out.lt g_g2 rfl).2; have h2 := (ho_n.lt g_n rfl).1; omega
        have n_z1_n : g_z1 ≠ g_n := by have h1 := (Oz1129.out.lt g_z1 rfl).2; have h2 := (ho_n.lt g_n rfl).1; omega
        have n_z2_n : g_z2 ≠ g_n := by have h1 := (Oz2129.out.lt g_z2 rfl).2; have h2 := (ho_n.lt g_n rfl).1; omega
        have n_v_n : g_v ≠ g_n := by have h1 := (Ov129.out.lt g_v rfl).2; have h2 := (ho_n.lt g_n rfl).1; omega
        have n_k1_n : g_k1 ≠ g_n := by have h1 := (Ok1129.out.lt g_k1 rfl).2; have h2 := (ho_n.lt g_n rfl).1; omega
        have n_k2_n : g_k2 ≠ g_n := by have h1 := (Ok2129.out.lt g_k2 rfl).2; have h2 := (ho_n.lt g_n rfl).1; omega
        have l_n : w.heap.size ≤ g_n := Nat.le_trans B129.out.size (ho_n.lt g_n rfl).1
        have B130 := Lib.hid (B129.out.trans (hb.mono B129.out.size))
        have KK130 := Lib.hid (KK129.out.below hb)
        have KM130 := Lib.hid (KM129.out.below hb)
        have KW130 := Lib.hid (KW129.out.below hb)
        have KX130 := Lib.hid (KX129.out.below hb)
        have KY130 := Lib.hid (KY129.out.below hb)
        have KG130 := Lib.hid (KG129.out.below hb)
        have KH130 := Lib.hid (KH129.out.below hb)
        have Ow1130 := Lib.hid (Ow1129.out.kept (below_any (row := none) hb) (.inr (by simp [Value.ownBlock])))
        have Ow2130 := Lib.hid (Ow2129.out.kept (below_any (row := none) hb) (.inr (by simp [Value.ownBlock])))
        have Ox1130 := Lib.hid (Ox1129.out.kept (below_any (row := none) hb) (.inr (by simp [Value.ownBlock])))
        have Ox2130 := Lib.hid (Ox2129.out.kept (below_any (row := none) hb) (.inr (by simp [Value.ownBlock])))
        have Oy130 := Lib.hid (Oy129.out.kept (below_any (row := none) hb) (.inr (by simp [Value.ownBlock])))
        have Og1130 := Lib.hid (Og1129.out.kept (below_any (row := none) hb) (.inr (by simp [Value.ownBlock])))
        have Og2130 := Lib.hid (Og2129.out.kept (below_any (row := none) hb) (.inr (by simp [Value.ownBlock])))
        have Oz1130 := Lib.hid (Oz1129.out.kept (below_any (row := none) hb) (.inr (by simp [Value.ownBlock])))
        have Oz2130 := Lib.hid (Oz2129.out.kept (below_any (row := none) hb) (.inr (by simp [Value.ownBlock])))
        have Ov130 := Lib.hid (Ov129.out.kept (below_any (row := none) hb) (.inr (by simp [Value.ownBlock])))
        have Ok1130 := Lib.hid (Ok1129.out.kept (below_any (row := none) hb) (.inr (by simp [Value.ownBlock])))
        have Ok2130 := Lib.hid (Ok2129.out.kept (below_any (row := none) hb) (.inr (by simp [Value.ownBlock])))
        have On130 := Lib.hid (own_down ho_n (Nat.zero_le _))
        clear hb B129 KK129 KM129 KW129 KX129 KY129 KG129 KH129 Ow1129 Ow2129 Ox1129 Ox2129 Oy129 Og1129 Og2129 Oz1129 Oz2129 Ov129 Ok1129 Ok2129 ho_n
        refine hK.out _ _ ⟨KK130.out, KM130.out⟩ (fun hS => ?_)
        clear hK K
        refine wpAnyH_ready (rs := [4]) (by kernel_rfl) (by simp) ?_
        refine AllReadyH.cons (i := 4) rfl (fun K hK => ?zx67) AllReadyH.nil
        rw [if_pos (by rfl)]
        go_simp
        clear hS
        refine (C2.out g_k1 g_k2 g_n p.rs.length q.rs.length m.rs.length _ (M.on_at Ok1130.out) (M.on_at Ok2130.out) (M.on_at On130.out) Fp.out Fq.out Fm.out).mono ?_
        rintro e v131 ⟨g_h1, g_h2, c_h1, c_h2, n_h1_h2, rfl, ho_h1, ho_h2, hb⟩
        have n_K_h1 : g_K ≠ g_h1 := by have h1 := KK130.out.lt; have h2 := (ho_h1.lt g_h1 rfl).1; omega
        have n_M_h1 : g_M ≠ g_h1 := by have h1 := KM130.out.lt; have h2 := (ho_h1.lt g_h1 rfl).1; omega
        have n_W_h1 : g_W ≠ g_h1 := by have h1 := KW130.out.lt; have h2 := (ho_h1.lt g_h1 rfl).1; omega
        have n_X_h1 : g_X ≠ g_h1 := by have h1 := KX130.out.lt; have h2 := (ho_h1.lt g_h1 rfl).1; omega
        have n_Y_h1 : g_Y ≠ g_h1 := by have h1 := KY130.out.lt; have h2 := (ho_h1.lt g_h1 rfl).1; omega
        have n_G_h1 : g_G ≠ g_h1 := by have h1 := KG130.out.lt; have h2 := (ho_h1.lt g_h1 rfl).1; omega
        have n_H_h1 : g_H ≠ g_h1 := by have h1 := KH130.out.lt; have h2 := (ho_h1.lt g_h1 rfl).1; omega
        have n_w1_h1 : g_w1 ≠ g_h1 := by have h1 := (Ow1130.out.lt g_w1 rfl).2; have h2 := (ho_h1.lt g_h1 rfl).1; omega
        have n_w2_h1 : g_w2 ≠ g_h1 := by have h1 := (Ow2130.out.lt g_w2 rfl).2; have h2 := (ho_h1.lt g_h1 rfl).1; omega
        have n_x1_h1 : g_x1 ≠ g_h1 := by have h1 := (Ox1130.out.lt g_x1 rfl).2; have h2 := (ho_h1.lt g_h1 rfl).1; omega
        have n_x2_h1 : g_x2 ≠ g_h1 := by have h1 := (Ox2130.out.lt g_x2 rfl).2; have h2 := (ho_h1.lt g_h1 rfl).1; omega
        have n_y_h1 : g_y ≠ g_h1 := by have h1 := (Oy130.out.lt g_y rfl).2; have h2 := (ho_h1.lt g_h1 rfl).1; omega
        have n_g1_h1 : g_g1 ≠ g_h1 := by have h1 := (Og1130.out.lt g_g1 rfl).2; have h2 := (ho_h1.lt g_h1 rfl).1; omega
        have n_g2_h1 : g_g2 ≠ g_h1 := by have h1 := (Og2130.out.lt g_g2 rfl).2; have h2 := (ho_h1.lt g_h1 rfl).1; omega
        have n_z1_h1 : g_z1 ≠ g_h1 := by have h1 := (Oz1130.out.lt g_z1 rfl).2; have h2 := (ho_h1.lt g_h1 rfl).1; omega
        have n_z2_h1 : g_z2 ≠ g_h1 := by have h1 := (Oz2130.out.lt g_z2 rfl).2; have h2 := (ho_h1.lt g_h1 rfl).1; omega
        have n_v_h1 : g_v ≠ g_h1 := by have h1 := (Ov130.out.lt g_v rfl).2; have h2 := (ho_h1.lt g_h1 rfl).1; omega
        have n_k1_h1 : g_k1 ≠ g_h1 := by have h1 := (Ok1130.out.lt g_k1 rfl).2; have h2 := (ho_h1.lt g_h1 rfl).1; omega
        have n_k2_h1 : g_k2 ≠ g_h1 := by have h1 := (Ok2130.out.lt g_k2 rfl).2; have h2 := (ho_h1.lt g_h1 rfl).1; omega
        have n_n_h1 : g_n ≠ g_h1 := by have h1 := (On130.out.lt g_n rfl).2; have h2 := (ho_h1.lt g_h1 rfl).1; omega
        have l_h1 : w.heap.size ≤ g_h1 := Nat.le_trans B130.out.size (ho_h1.lt g_h1 rfl).1
        have n_K_h2 : g_K ≠ g_h2 := by have h1 := KK130.out.lt; have h2 := (ho_h2.lt g_h2 rfl).1; omega
        have n_M_h2 : g_M ≠ g_h2 := by have h1 := KM130.out.lt; have h2 := (ho_h2.lt g_h2 rfl).1; omega
        have n_W_h2 : g_W ≠ g_h2 := by have h1 := KW130.out.lt; have h2 := (ho_h2.lt g_h2 rfl).1; omega
        have n_X_h2 : g_X ≠ g_h2 := by have h1 := KX130.out.lt; have h2 := (ho_h2.lt g_h2 rfl).1; omega
        have n_Y_h2 : g_Y ≠ g_h2 := by have h1 := KY130.out.lt; have h2 := (ho_h2.lt g_h2 rfl).1; omega
        have n_G_h2 : g_G ≠ g_h2 := by have h1 := KG130.out.lt; have h2 := (ho_h2.lt g_h2 rfl).1; omega
        have n_H_h2 : g_H ≠ g_h2 := by have h1 := KH130.out.lt; have h2 := (ho_h2.lt g_h2 rfl).1; omega
        have n_w1_h2 : g_w1 ≠ g_h2 := by have h1 := (Ow1130.out.lt g_w1 rfl).2; have h2 := (ho_h2.lt g_h2 rfl).1; omega
        have n_w2_h2 : g_w2 ≠ g_h2 := by have h1 := (Ow2130.out.lt g_w2 rfl).2; have h2 := (ho_h2.lt g_h2 rfl).1; omega
        have n_x1_h2 : g_x1 ≠ g_h2 := by have h1 := (Ox1130.out.lt g_x1 rfl).2; have h2 := (ho_h2.lt g_h2 rfl).1; omega
        have n_x2_h2 : g_x2 ≠ g_h2 := by have h1 := (Ox2130.out.lt g_x2 rfl).2; have h2 := (ho_h2.lt g_h2 rfl).1; omega
        have n_y_h2 : g_y ≠ g_h2 := by have h1 := (Oy130.out.lt g_y rfl).2; have h2 := (ho_h2.lt g_h2 rfl).1; omega
        have n_g1_h2 : g_g1 ≠ g_h2 := by have h1 := (Og1130.out.lt g_g1 rfl).2; have h2 := (ho_h2.lt g_h2 rfl).1; omega
        have n_g2_h2 : g_g2 ≠ g_h2 := by have h1 := (Og2130.out.lt g_g2 rfl).2; have h2 := (ho_h2.lt g_h2 rfl).1; omega
        have n_z1_h2 : g_z1 ≠ g_h2 := by have h1 := (Oz1130.out.lt g_z1 rfl).2; have h2 := (ho_h2.lt g_h2 rfl).1; omega
        have n_z2_h2 : g_z2 ≠ g_h2 := by have h1 := (Oz2130.out.lt g_z2 rfl).2; have h2 := (ho_h2.lt g_h2 rfl).1; omega
        have n_v_h2 : g_v ≠ g_h2 := by have h1 := (Ov130.out.lt g_v rfl).2; have h2 := (ho_h2.lt g_h2 rfl).1; omega
        have n_k1_h2 : g_k1 ≠ g_h2 := by have h1 := (Ok1130.out.lt g_k1 rfl).2; have h2 := (ho_h2.lt g_h2 rfl).1; omega
        have n_k2_h2 : g_k2 ≠ g_h2 := by have h1 := (Ok2130.out.lt g_k2 rfl).2; have h2 := (ho_h2.lt g_h2 rfl).1; omega
        have n_n_h2 : g_n ≠ g_h2 := by have h1 := (On130.out.lt g_n rfl).2; have h2 := (ho_h2.lt g_h2 rfl).1; omega
        have l_h2 : w.heap.size ≤ g_h2 := Nat.le_trans B130.out.size (ho_h2.lt g_h2 rfl).1
        have B131 := Lib.hid (B130.out.trans (hb.mono B130.out.size))
        have KK131 := Lib.hid (KK130.out.below hb)
        have KM131 := Lib.hid (KM130.out.below hb)
        have KW131 := Lib.hid (KW130.out.below hb)
        have KX131 := Lib.hid (KX130.out.below hb)
        have KY131 := Lib.hid (KY130.out.below hb)
        have KG131 := Lib.hid (KG130.out.below hb)
        have KH131 := Lib.hid (KH130.out.below hb)
        have Ow1131 := Lib.hid (Ow1130.out.kept (below_any (row := none) hb) (.inr (by simp [Value.ownBlock])))
        have Ow2131 := Lib.hid (Ow2130.out.kept (below_any (row := none) hb) (.inr (by simp [Value.ownBlock])))
        have Ox1131 := Lib.hid (Ox1130.out.kept (below_any (row := none) hb) (.inr (by simp [Value.ownBlock])))
        have Ox2131 := Lib.hid (Ox2130.out.kept (below_any (row := none) hb) (.inr (by simp [Value.ownBlock])))
        have Oy131 := Lib.hid (Oy130.out.kept (below_any (row := none) hb) (.inr (by simp [Value.ownBlock])))
        have Og1131 := Lib.hid (Og1130.out.kept (below_any (row := none) hb) (.inr (by simp [Value.ownBlock])))
        have Og2131 := Lib.hid (Og2130.out.kept (below_any (row := none) hb) (.inr (by simp [Value.ownBlock])))
        have Oz1131 := Lib.hid (Oz1130.out.kept (below_any (row := none) hb) (.inr (by simp [Value.ownBlock])))
        have Oz2131 := Lib.hid (Oz2130.out.kept (below_any (row := none) hb) (.inr (by simp [Value.ownBlock])))
        have Ov131 := Lib.hid (Ov130.out.kept (below_any (row := none) hb) (.inr (by simp [Value.ownBlock])))
        have Ok1131 := Lib.hid (Ok1130.out.kept (below_any (row := none) hb) (.inr (by simp [Value.ownBlock])))
        have Ok2131 := Lib.hid (Ok2130.out.kept (below_any (row := none) hb) (.inr (by simp [Value.ownBlock])))
        have On131 := Lib.hid (On130.out.kept (below_any (row := none) hb) (.inr (by simp [Value.ownBlock])))
        have Oh1131 := Lib.hid (own_down ho_h1 (Nat.zero_le _))
        have Oh2131 := Lib.hid (own_down ho_h2 (Nat.zero_le _))
        clear hb B130 KK130 KM130 KW130 KX130 KY130 KG130 KH130 Ow1130 Ow2130 Ox1130 Ox2130 Oy130 Og1130 Og2130 Oz1130 Oz2130 Ov130 Ok1130 Ok2130 On130 ho_h1 ho_h2
        refine hK.out _ _ ⟨KK131.out, KM131.out⟩ (fun hS => ?_)
        clear hK K
        obtain ⟨⟨cH0, cH1, cH2, cH3, cH4, cH5, cH6, cH7, cH8, cH9⟩, dH0, dH1, dH2, dH3, dH4, dH5, dH6, dH7, dH8, dH9⟩ := KH131.out.of10
        refine wpAnyH_ready (rs := [6]) (by kernel_rfl) (by simp) ?_
        refine AllReadyH.cons (i := 6) rfl (fun K hK => ?zx68) AllReadyH.nil
        rw [if_pos (by rfl)]
        go_simp
        clear hS
        have hgs : v131.grownBy ((((((((((v131.setCell ⟨g_H, 0, none⟩ (.int .i64 e)).setCell ⟨g_H, 1, none⟩ (.bool p.u)).setCell ⟨g_H, 2, none⟩ (.int .u64 (n64 p.k))).setCell ⟨g_H, 3, none⟩ (.int .u64 (n64 p.l))).setCell ⟨g_H, 4, none⟩ (.slice (some ⟨g_h1, 0, none⟩) p.rs.length c_h1)).setCell ⟨g_H, 5, none⟩ (.bool q.u)).setCell ⟨g_H, 6, none⟩ (.int .u64 (n64 q.k))).setCell ⟨g_H, 7, none⟩ (.int .u64 (n64 q.l))).setCell ⟨g_H, 8, none⟩ (.slice (some ⟨g_h2, 0, none⟩) q.rs.length c_h2)).setCell ⟨g_H, 9, none⟩ (.bool t)) (some g_H) := (grown_setR (grown_setR (grown_setR (grown_setR (grown_setR (grown_setR (grown_setR (grown_setR (grown_setR (grown_setR (World.grownBy.refl v131 (some g_H)) 0 (.int .i64 e)) 1 (.bool p.u)) 2 (.int .u64 (n64 p.k))) 3 (.int .u64 (n64 p.l))) 4 (.slice (some ⟨g_h1, 0, none⟩) p.rs.length c_h1)) 5 (.bool q.u)) 6 (.int .u64 (n64 q.k))) 7 (.int .u64 (n64 q.l))) 8 (.slice (some ⟨g_h2, 0, none⟩) q.rs.length c_h2)) 9 (.bool t))
        have B132 := Lib.hid (B131.out.trans (grown_below hgs l_H B131.out.size))
        have KK132 := Lib.hid (KK131.out.grown hgs (n_K_H))
        have KM132 := Lib.hid (KM131.out.grown hgs (n_M_H))
        have KW132 := Lib.hid (KW131.out.grown hgs (n_W_H))
        have KX132 := Lib.hid (KX131.out.grown hgs (n_X_H))
        have KY132 := Lib.hid (KY131.out.grown hgs (n_Y_H))
        have KG132 := Lib.hid (KG131.out.grown hgs (n_G_H))
        have KH132 := Lib.hid (show Blk ((((((((((v131.setCell ⟨g_H, 0, none⟩ (.int .i64 e)).setCell ⟨g_H, 1, none⟩ (.bool p.u)).setCell ⟨g_H, 2, none⟩ (.int .u64 (n64 p.k))).setCell ⟨g_H, 3, none⟩ (.int .u64 (n64 p.l))).setCell ⟨g_H, 4, none⟩ (.slice (some ⟨g_h1, 0, none⟩) p.rs.length c_h1)).setCell ⟨g_H, 5, none⟩ (.bool q.u)).setCell ⟨g_H, 6, none⟩ (.int .u64 (n64 q.k))).setCell ⟨g_H, 7, none⟩ (.int .u64 (n64 q.l))).setCell ⟨g_H, 8, none⟩ (.slice (some ⟨g_h2, 0, none⟩) q.rs.length c_h2)).setCell ⟨g_H, 9, none⟩ (.bool t)) g_H [.int .i64 e, .bool p.u, .int .u64 (n64 p.k), .int .u64 (n64 p.l), .slice (some ⟨g_h1, 0, none⟩) p.rs.length c_h1, .bool q.u, .int .u64 (n64 q.k), .int .u64 (n64 q.l), .slice (some ⟨g_h2, 0, none⟩) q.rs.length c_h2, .bool t] from ((((((((((KH131.out.set 0 (.int .i64 e)).set 1 (.bool p.u)).set 2 (.int .u64 (n64 p.k))).set 3 (.int .u64 (n64 p.l))).set 4 (.slice (some ⟨g_h1, 0, none⟩) p.rs.length c_h1)).set 5 (.bool q.u)).set 6 (.int .u64 (n64 q.k))).set 7 (.int .u64 (n64 q.l))).set 8 (.slice (some ⟨g_h2, 0, none⟩) q.rs.length c_h2)).set 9 (.bool t)))
        have Ow1132 := Lib.hid (Ow1131.out.kept hgs (.inr (own_ne (n_w1_H))))
        have Ow2132 := Lib.hid (Ow2131.out.kept hgs (.inr (own_ne (n_w2_H))))
        have Ox1132 := Lib.hid (Ox1131.out.kept hgs (.inr (own_ne (n_x1_H))))
        have Ox2132 := Lib.hid (Ox2131.out.kept hgs (.inr (own_ne (n_x2_H))))
        have Oy132 := Lib.hid (Oy131.out.kept hgs (.inr (own_ne (n_y_H))))
        have Og1132 := Lib.hid (Og1131.out.kept hgs (.inr (own_ne (n_g1_H))))
        have Og2132 := Lib.hid (Og2131.out.kept hgs (.inr (own_ne (n_g2_H))))
        have Oz1132 := Lib.hid (Oz1131.out.kept hgs (.inr (own_ne (n_z1_H))))
        have Oz2132 := Lib.hid (Oz2131.out.kept hgs (.inr (own_ne (n_z2_H))))
        have Ov132 := Lib.hid (Ov131.out.kept hgs (.inr (own_ne (n_v_H))))
        have Ok1132 := Lib.hid (Ok1131.out.kept hgs (.inr (own_ne (fun e => n_H_k1 e.symm))))
        have Ok2132 := Lib.hid (Ok2131.out.kept hgs (.inr (own_ne (fun e => n_H_k2 e.symm))))
        have On132 := Lib.hid (On131.out.kept hgs (.inr (own_ne (fun e => n_H_n e.symm))))
        have Oh1132 := Lib.hid (Oh1131.out.kept hgs (.inr (own_ne (fun e => n_H_h1 e.symm))))
        have Oh2132 := Lib.hid (Oh2131.out.kept hgs (.inr (own_ne (fun e => n_H_h2 e.symm))))
        clear hgs
        refine hK.out _ _ ⟨KK132.out, KM132.out⟩ (fun hS => ?_)
        clear hK K
        clear B131 KK131 KM131 KW131 KX131 KY131 KG131 KH131 Ow1131 Ow2131 Ox1131 Ox2131 Oy131 Og1131 Og2131 Oz1131 Oz2131 Ov131 Ok1131 Ok2131 On131 Oh1131 Oh2131
        clear cH0 cH1 cH2 cH3 cH4 cH5 cH6 cH7 cH8 cH9 dH0 dH1 dH2 dH3 dH4 dH5 dH6 dH7 dH8 dH9
        generalize (((((((((v131.setCell ⟨g_H, 0, none⟩ (.int .i64 e)).setCell ⟨g_H, 1, none⟩ (.bool p.u)).setCell ⟨g_H, 2, none⟩ (.int .u64 (n64 p.k))).setCell ⟨g_H, 3, none⟩ (.int .u64 (n64 p.l))).setCell ⟨g_H, 4, none⟩ (.slice (some ⟨g_h1, 0, none⟩) p.rs.length c_h1)).setCell ⟨g_H, 5, none⟩ (.bool q.u)).setCell ⟨g_H, 6, none⟩ (.int .u64 (n64 q.k))).setCell ⟨g_H, 7, none⟩ (.int .u64 (n64 q.l))).setCell ⟨g_H, 8, none⟩ (.slice (some ⟨g_h2, 0, none⟩) q.rs.length c_h2)).setCell ⟨g_H, 9, none⟩ (.bool t) = v132 at hS B132 KK132 KM132 KW132 KX132 KY132 KG132 KH132 Ow1132 Ow2132 Ox1132 Ox2132 Oy132 Og1132 Og2132 Oz1132 Oz2132 Ov132 Ok1132 Ok2132 On132 Oh1132 Oh2132 ⊢
        refine wpAnyH_done (by kernel_rfl) ?_ _
        refine NoPanic.normal ?_
        go_wp2_with fail
        go_meet
        case rel => exact ⟨g_H, g_h1, g_h2, c_h1, c_h2, rfl, B132, KK132, KM132, KW132, KX132, KY132, KG132, Ow1132, Ow2132, Ox1132, Ox2132, Oy132, Og1132, Og2132, Oz1132, Oz2132, Ov132, KH132, Oh1132, Oh2132, ⟨n_K_H, n_K_h1, n_K_h2, n_M_H, n_M_h1, n_M_h2, n_W_H, n_W_h1, n_W_h2, n_X_H, n_X_h1, n_X_h2, n_Y_H, n_Y_h1, n_Y_h2, n_G_H, n_G_h1, n_G_h2, n_w1_H, n_w1_h1, n_w1_h2, n_w2_H, n_w2_h1, n_w2_h2, n_x1_H, n_x1_h1, n_x1_h2, n_x2_H, n_x2_h1, n_x2_h2, n_y_H, n_y_h1, n_y_h2, n_g1_H, n_g1_h1, n_g1_h2, n_g2_H, n_g2_h1, n_g2_h2, n_z1_H, n_z1_h1, n_z1_h2, n_z2_H, n_z2_h1, n_z2_h2, n_v_H, n_v_h1, n_v_h2, n_H_h1, n_H_h2, n_h1_h2⟩, ⟨l_H, l_h1, l_h2⟩⟩
    case rest =>
      clear B126 KK126 KM126 KW126 KX126 KY126 KG126 Ow1126 Ow2126 Ox1126 Ox2126 Oy126 Og1126 Og2126 Oz1126 Oz2126 Ov126
      obtain ⟨g_H, g_h1, g_h2, c_h1, c_h2, rfl, B131, KK131, KM131, KW131, KX131, KY131, KG131, Ow1131, Ow2131, Ox1131, Ox2131, Oy131, Og1131, Og2131, Oz1131, Oz2131, Ov131, KH131, Oh1131, Oh2131, ⟨n_K_H, n_K_h1, n_K_h2, n_M_H, n_M_h1, n_M_h2, n_W_H, n_W_h1, n_W_h2, n_X_H, n_X_h1, n_X_h2, n_Y_H, n_Y_h1, n_Y_h2, n_G_H, n_G_h1, n_G_h2, n_w1_H, n_w1_h1, n_w1_h2, n_w2_H, n_w2_h1, n_w2_h2, n_x1_H, n_x1_h1, n_x1_h2, n_x2_H, n_x2_h1, n_x2_h2, n_y_H, n_y_h1, n_y_h2, n_g1_H, n_g1_h1, n_g1_h2, n_g2_H, n_g2_h1, n_g2_h2, n_z1_H, n_z1_h1, n_z1_h2, n_z2_H, n_z2_h1, n_z2_h2, n_v_H, n_v_h1, n_v_h2, n_H_h1, n_H_h2, n_h1_h2⟩, ⟨l_H, l_h1, l_h2⟩⟩ := hcut
      generalize wc = wc_31 at B131 KK131 KM131 KW131 KX131 KY131 KG131 Ow1131 Ow2131 Ox1131 Ox2131 Oy131 Og1131 Og2131 Oz1131 Oz2131 Ov131 KH131 Oh1131 Oh2131 ⊢
      obtain ⟨⟨cK0, cK1, cK2, cK3, cK4, cK5, cK6, cK7, cK8, cK9⟩, dK0, dK1, dK2, dK3, dK4, dK5, dK6, dK7, dK8, dK9⟩ := KK131.out.of10
      obtain ⟨⟨cM0, cM1, cM2, cM3⟩, dM0, dM1, dM2, dM3⟩ := KM131.out.four
      obtain ⟨⟨cW0, cW1, cW2, cW3, cW4, cW5, cW6, cW7, cW8, cW9⟩, dW0, dW1, dW2, dW3, dW4, dW5, dW6, dW7, dW8, dW9⟩ := KW131.out.of10
      obtain ⟨⟨cX0, cX1, cX2, cX3, cX4, cX5, cX6, cX7, cX8, cX9⟩, dX0, dX1, dX2, dX3, dX4, dX5, dX6, dX7, dX8, dX9⟩ := KX131.out.of10
      obtain ⟨⟨cY0, cY1, cY2, cY3⟩, dY0, dY1, dY2, dY3⟩ := KY131.out.four
      obtain ⟨⟨cG0, cG1, cG2, cG3, cG4, cG5, cG6, cG7, cG8, cG9⟩, dG0, dG1, dG2, dG3, dG4, dG5, dG6, dG7, dG8, dG9⟩ := KG131.out.of10
      obtain ⟨⟨cH0, cH1, cH2, cH3, cH4, cH5, cH6, cH7, cH8, cH9⟩, dH0, dH1, dH2, dH3, dH4, dH5, dH6, dH7, dH8, dH9⟩ := KH131.out.of10
      go_wp2_with fail
      clear cK0 cK1 cK2 cK3 cK4 cK5 cK6 cK7 cK8 cK9 dK0 dK1 dK2 dK3 dK4 dK5 dK6 dK7 dK8 dK9 cM0 cM1 cM2 cM3 dM0 dM1 dM2 dM3 cW0 cW1 cW2 cW3 cW4 cW5 cW6 cW7 cW8 cW9 dW0 dW1 dW2 dW3 dW4 dW5 dW6 dW7 dW8 dW9 cX0 cX1 cX2 cX3 cX4 cX5 cX6 cX7 cX8 cX9 dX0 dX1 dX2 dX3 dX4 dX5 dX6 dX7 dX8 dX9 cY0 cY1 cY2 cY3 dY0 dY1 dY2 dY3 cG0 cG1 cG2 cG3 cG4 cG5 cG6 cG7 cG8 cG9 dG0 dG1 dG2 dG3 dG4 dG5 dG6 dG7 dG8 dG9 cH0 cH1 cH2 cH3 cH4 cH5 cH6 cH7 cH8 cH9 dH0 dH1 dH2 dH3 dH4 dH5 dH6 dH7 dH8 dH9
      refine (eqKeys_self e p q t (some ⟨g_h1, 0, none⟩) (some ⟨g_h2, 0, none⟩) (some ⟨g_w1, 0, none⟩) (some ⟨g_w2, 0, none⟩) c_h1 c_h2 c_w1 c_w2 _ (Row.ownK Oh1131.out) (Row.ownK Oh2131.out) (Row.ownK Ow1131.out) (Row.ownK Ow2131.out) fp.out fq.out).mono ?_
      rintro e v132 ⟨rfl, hb⟩
      have B132 := Lib.hid (B131.out.trans (hb.mono B131.out.size))
      have KK132 := Lib.hid (KK131.out.below hb)
      have KM132 := Lib.hid (KM131.out.below hb)
      have KW132 := Lib.hid (KW131.out.below hb)
      have KX132 := Lib.hid (KX131.out.below hb)
      have KY132 := Lib.hid (KY131.out.below hb)
      have KG132 := Lib.hid (KG131.out.below hb)
      have KH132 := Lib.hid (KH131.out.below hb)
      have Ow1132 := Lib.hid (Ow1131.out.kept (below_any (row := none) hb) (.inr (by simp [Value.ownBlock])))
      have Ow2132 := Lib.hid (Ow2131.out.kept (below_any (row := none) hb) (.inr (by simp [Value.ownBlock])))
      have Ox1132 := Lib.hid (Ox1131.out.kept (below_any (row := none) hb) (.inr (by simp [Value.ownBlock])))
      have Ox2132 := Lib.hid (Ox2131.out.kept (below_any (row := none) hb) (.inr (by simp [Value.ownBlock])))
      have Oy132 := Lib.hid (Oy131.out.kept (below_any (row := none) hb) (.inr (by simp [Value.ownBlock])))
      have Og1132 := Lib.hid (Og1131.out.kept (below_any (row := none) hb) (.inr (by simp [Value.ownBlock])))
      have Og2132 := Lib.hid (Og2131.out.kept (below_any (row := none) hb) (.inr (by simp [Value.ownBlock])))
      have Oz1132 := Lib.hid (Oz1131.out.kept (below_any (row := none) hb) (.inr (by simp [Value.ownBlock])))
      have Oz2132 := Lib.hid (Oz2131.out.kept (below_any (row := none) hb) (.inr (by simp [Value.ownBlock])))
      have Ov132 := Lib.hid (Ov131.out.kept (below_any (row := none) hb) (.inr (by simp [Value.ownBlock])))
      have Oh1132 := Lib.hid (Oh1131.out.kept (below_any (row := none) hb) (.inr (by simp [Value.ownBlock])))
      have Oh2132 := Lib.hid (Oh2131.out.kept (below_any (row := none) hb) (.inr (by simp [Value.ownBlock])))
      clear hb B131 KK131 KM131 KW131 KX131 KY131 KG131 KH131 Ow1131 Ow2131 Ox1131 Ox2131 Oy131 Og1131 Og2131 Oz1131 Oz2131 Ov131 Oh1131 Oh2131
      obtain ⟨⟨cK0, cK1, cK2, cK3, cK4, cK5, cK6, cK7, cK8, cK9⟩, dK0, dK1, dK2, dK3, dK4, dK5, dK6, dK7, dK8, dK9⟩ := KK132.out.of10
      obtain ⟨⟨cM0, cM1, cM2, cM3⟩, dM0, dM1, dM2, dM3⟩ := KM132.out.four
      obtain ⟨⟨cW0, cW1, cW2, cW3, cW4, cW5, cW6, cW7, cW8, cW9⟩, dW0, dW1, dW2, dW3, dW4, dW5, dW6, dW7, dW8, dW9⟩ := KW132.out.of10
      obtain ⟨⟨cX0, cX1, cX2, cX3, cX4, cX5, cX6, cX7, cX8, cX9⟩, dX0, dX1, dX2, dX3, dX4, dX5, dX6, dX7, dX8, dX9⟩ := KX132.out.of10
      obtain ⟨⟨cY0, cY1, cY2, cY3⟩, dY0, dY1, dY2, dY3⟩ := KY132.out.four
      obtain ⟨⟨cG0, cG1, cG2, cG3, cG4, cG5, cG6, cG7, cG8, cG9⟩, dG0, dG1, dG2, dG3, dG4, dG5, dG6, dG7, dG8, dG9⟩ := KG132.out.of10
      obtain ⟨⟨cH0, cH1, cH2, cH3, cH4, cH5, cH6, cH7, cH8, cH9⟩, dH0, dH1, dH2, dH3, dH4, dH5, dH6, dH7, dH8, dH9⟩ := KH132.out.of10
      go_wp2_with fail
      clear cK0 cK1 cK2 cK3 cK4 cK5 cK6 cK7 cK8 cK9 dK0 dK1 dK2 dK3 dK4 dK5 dK6 dK7 dK8 dK9 cM0 cM1 cM2 cM3 dM0 dM1 dM2 dM3 cW0 cW1 cW2 cW3 cW4 cW5 cW6 cW7 cW8 cW9 dW0 dW1 dW2 dW3 dW4 dW5 dW6 dW7 dW8 dW9 cX0 cX1 cX2 cX3 cX4 cX5 cX6 cX7 cX8 cX9 dX0 dX1 dX2 dX3 dX4 dX5 dX6 dX7 dX8 dX9 cY0 cY1 cY2 cY3 dY0 dY1 dY2 dY3 cG0 cG1 cG2 cG3 cG4 cG5 cG6 cG7 cG8 cG9 dG0 dG1 dG2 dG3 dG4 dG5 dG6 dG7 dG8 dG9 cH0 cH1 cH2 cH3 cH4 cH5 cH6 cH7 cH8 cH9 dH0 dH1 dH2 dH3 dH4 dH5 dH6 dH7 dH8 dH9
      refine (heldKeys_any e p q t (some ⟨g_g1, 0, none⟩) (some ⟨g_g2, 0, none⟩) c_g1 c_g2 1 _ (Row.ownK Og1132.out) (Row.ownK Og2132.out) (by decide) (by have := fp.out; omega) (Nat.le_succ_of_le fp.out) (Nat.le_succ_of_le fq.out)).mono ?_
      rintro e v133 ⟨rfl, hb⟩
      have B133 := Lib.hid (B132.out.trans (hb.mono B132.out.size))
      have KK133 := Lib.hid (KK132.out.below hb)
      have KM133 := Lib.hid (KM132.out.below hb)
      have KW133 := Lib.hid (KW132.out.below hb)
      have KX133 := Lib.hid (KX132.out.below hb)
      have KY133 := Lib.hid (KY132.out.below hb)
      have KG133 := Lib.hid (KG132.out.below hb)
      have KH133 := Lib.hid (KH132.out.below hb)
      have Ow1133 := Lib.hid (Ow1132.out.kept (below_any (row := none) hb) (.inr (by simp [Value.ownBlock])))
      have Ow2133 := Lib.hid (Ow2132.out.kept (below_any (row := none) hb) (.inr (by simp [Value.ownBlock])))
      have Ox1133 := Lib.hid (Ox1132.out.kept (below_any (row := none) hb) (.inr (by simp [Value.ownBlock])))
      have Ox2133 := Lib.hid (Ox2132.out.kept (below_any (row := none) hb) (.inr (by simp [Value.ownBlock])))
      have Oy133 := Lib.hid (Oy132.out.kept (below_any (row := none) hb) (.inr (by simp [Value.ownBlock])))
      have Og1133 := Lib.hid (Og1132.out.kept (below_any (row := none) hb) (.inr (by simp [Value.ownBlock])))
      have Og2133 := Lib.hid (Og2132.out.kept (below_any (row := none) hb) (.inr (by simp [Value.ownBlock])))
      have Oz1133 := Lib.hid (Oz1132.out.kept (below_any (row := none) hb) (.inr (by simp [Value.ownBlock])))
      have Oz2133 := Lib.hid (Oz2132.out.kept (below_any (row := none) hb) (.inr (by simp [Value.ownBlock])))
      have Ov133 := Lib.hid (Ov132.out.kept (below_any (row := none) hb) (.inr (by simp [Value.ownBlock])))
      have Oh1133 := Lib.hid (Oh1132.out.kept (below_any (row := none) hb) (.inr (by simp [Value.ownBlock])))
      have Oh2133 := Lib.hid (Oh2132.out.kept (below_any (row := none) hb) (.inr (by simp [Value.ownBlock])))
      clear hb B132 KK132 KM132 KW132 KX132 KY132 KG132 KH132 Ow1132 Ow2132 Ox1132 Ox2132 Oy132 Og1132 Og2132 Oz1132 Oz2132 Ov132 Oh1132 Oh2132
      obtain ⟨⟨cK0, cK1, cK2, cK3, cK4, cK5, cK6, cK7, cK8, cK9⟩, dK0, dK1, dK2, dK3, dK4, dK5, dK6, dK7, dK8, dK9⟩ := KK133.out.of10
      obtain ⟨⟨cM0, cM1, cM2, cM3⟩, dM0, dM1, dM2, dM3⟩ := KM133.out.four
      obtain ⟨⟨cW0, cW1, cW2, cW3, cW4, cW5, cW6, cW7, cW8, cW9⟩, dW0, dW1, dW2, dW3, dW4, dW5, dW6, dW7, dW8, dW9⟩ := KW133.out.of10
      obtain ⟨⟨cX0, cX1, cX2, cX3, cX4, cX5, cX6, cX7, cX8, cX9⟩, dX0, dX1, dX2, dX3, dX4, dX5, dX6, dX7, dX8, dX9⟩ := KX133.out.of10
      obtain ⟨⟨cY0, cY1, cY2, cY3⟩, dY0, dY1, dY2, dY3⟩ := KY133.out.four
      obtain ⟨⟨cG0, cG1, cG2, cG3, cG4, cG5, cG6, cG7, cG8, cG9⟩, dG0, dG1, dG2, dG3, dG4, dG5, dG6, dG7, dG8, dG9⟩ := KG133.out.of10
      obtain ⟨⟨cH0, cH1, cH2, cH3, cH4, cH5, cH6, cH7, cH8, cH9⟩, dH0, dH1, dH2, dH3, dH4, dH5, dH6, dH7, dH8, dH9⟩ := KH133.out.of10
      go_wp2_with fail
      go_ret
      exact ⟨rfl, B133.out⟩
end Go.Proofs.Ytobfgkiccmhgdaa
