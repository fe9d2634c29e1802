/- TakenIn of the model. Nothing here is a claim. -/
import Derived.Test.YtpbnkkgfjmkcdaaRcvTakeK
namespace Go.Proofs.Ytpbnkkgfjmkcdaa
open Go.RowKit Go.Lib

set_option maxRecDepth 100000 in
set_option maxHeartbeats 4000000 in
theorem takenInS (n f : Int) (z : Bool) (d : ByteArray) (a : Option Addr) (cap : Nat) (rs : List HP) (k : Int) (hB : RB d rs) (w : World) (hrow : HasP w a cap rs) :
    Calls Try.prog 22 #[.agg #[.int .i64 n, .string d, .slice a rs.length cap, .int .i64 f, .bool z], .int .i64 k] w (EndTk (taken ⟨n, d, rs, f, z⟩ k) (takenS ⟨n, d, rs, f, z⟩ k) w) := by
  have OK := fun w (h : HasP w a cap rs) => rcvOkS n f z d a cap rs hB w h.1
  have HR := Lib.hid hrow
  have hl := Lib.hid hB.2.1
  have hds := Lib.hid hB.1
  clear hrow hB
  unfold EndTk taken takenS
  cases hok : rcvOk ⟨n, d, rs, f, z⟩ with
  | false =>
    simp only [hok] at OK
    simp only [cond_false]
    replace OK := Lib.hid OK
    clear hok
    go_enter Try.func22, Try.ntmps22
    have B0 := Lib.hid (show Below w.heap.size w ((w.alloc (.cells #[.int .i64 n, .string d, .slice a rs.length cap, .int .i64 f, .bool z] 26)).alloc (.cells #[.int .i64 0, .string ⟨#[]⟩, .slice none 0 0, .int .i64 0, .bool false] 26)) from (((Below.refl _ w).alloc (by simp) _).alloc (by simp) _))
    have Kl0 := Lib.hid (show Blk ((w.alloc (.cells #[.int .i64 n, .string d, .slice a rs.length cap, .int .i64 f, .bool z] 26)).alloc (.cells #[.int .i64 0, .string ⟨#[]⟩, .slice none 0 0, .int .i64 0, .bool false] 26)) (w.heap.size) [.int .i64 n, .string d, .slice a rs.length cap, .int .i64 f, .bool z] from (Blk.new w [.int .i64 n, .string d, .slice a rs.length cap, .int .i64 f, .bool z] 26).alloc (.cells #[.int .i64 0, .string ⟨#[]⟩, .slice none 0 0, .int .i64 0, .bool false] 26))
    have s1 : (w.alloc (.cells #[.int .i64 n, .string d, .slice a rs.length cap, .int .i64 f, .bool z] 26)).heap.size = w.heap.size + 1 := by simp
    have Ko0 := Lib.hid (show Blk ((w.alloc (.cells #[.int .i64 n, .string d, .slice a rs.length cap, .int .i64 f, .bool z] 26)).alloc (.cells #[.int .i64 0, .string ⟨#[]⟩, .slice none 0 0, .int .i64 0, .bool false] 26)) (w.heap.size + 1) [.int .i64 0, .string ⟨#[]⟩, .slice none 0 0, .int .i64 0, .bool false] by have h0 := Blk.new (w.alloc (.cells #[.int .i64 n, .string d, .slice a rs.length cap, .int .i64 f, .bool z] 26)) [.int .i64 0, .string ⟨#[]⟩, .slice none 0 0, .int .i64 0, .bool false] 26; rwa [s1] at h0)
    have n_l_o : w.heap.size ≠ w.heap.size + 1 := by omega
    clear s1
    go_wp2_with fail
    change Calls _ _ _ ((w.alloc (.cells #[.int .i64 n, .string d, .slice a rs.length cap, .int .i64 f, .bool z] 26)).alloc (.cells #[.int .i64 0, .string ⟨#[]⟩, .slice none 0 0, .int .i64 0, .bool false] 26)) _
    generalize (w.alloc (.cells #[.int .i64 n, .string d, .slice a rs.length cap, .int .i64 f, .bool z] 26)).alloc (.cells #[.int .i64 0, .string ⟨#[]⟩, .slice none 0 0, .int .i64 0, .bool false] 26) = v0 at B0 Kl0 Ko0 ⊢
    generalize hh_o : w.heap.size + 1 = g_o at Ko0 n_l_o ⊢
    generalize hh_l : w.heap.size = g_l at Kl0 n_l_o ⊢
    have l_l : w.heap.size ≤ g_l := by omega
    have l_o : w.heap.size ≤ g_o := by omega
    clear hh_l hh_o
    have hz0 := B0.out.size
    have lt0_l := Kl0.out.lt
    have lt0_o := Ko0.out.lt
    refine (rcopyS_any n f z d a cap rs _ (HR.out.below B0.out) hl.out).mono ?_
    rintro e v1 ⟨g2, cap2, rfl, ho_p, hb⟩
    have B1 := Lib.hid (B0.out.trans (hb.mono B0.out.size))
    have Kl1 := Lib.hid (Kl0.out.below hb)
    have Ko1 := Lib.hid (Ko0.out.below hb)
    clear hb B0 Kl0 Ko0
    replace ho_p := (show World.ownsRow v1 _ 64 2 (.slice (some ⟨g2, 0, none⟩) rs.length cap2) rs.length (hps rs) from ho_p)
    have m_p_l : (.slice (some ⟨g2, 0, none⟩) rs.length cap2 : Value).ownBlock ≠ some g_l := fun e => by have h1 := (ho_p.lt _ e).1; have h2 := lt0_l; omega
    have m_p_o : (.slice (some ⟨g2, 0, none⟩) rs.length cap2 : Value).ownBlock ≠ some g_o := fun e => by have h1 := (ho_p.lt _ e).1; have h2 := lt0_o; omega
    have Np1 := Lib.hid ho_p
    clear ho_p
    have m_p_x : (.slice (some ⟨g2, 0, none⟩) rs.length cap2 : Value).ownBlock ≠ some v1.heap.size := fun e => by have h1 := (Np1.out.lt _ e).2; omega
    have Npn := Lib.hid (own_below Np1.out ((Below.refl _ v1).alloc (Nat.le_refl _) (.cells #[.int .i64 n, .string d, .slice (some ⟨g2, 0, none⟩) rs.length cap2, .int .i64 f, .bool z] 26)))
    clear Np1
    have Kxn := Lib.hid (Blk.new v1 [.int .i64 n, .string d, .slice (some ⟨g2, 0, none⟩) rs.length cap2, .int .i64 f, .bool z] 26)
    have l_x : w.heap.size ≤ v1.heap.size := B1.out.size
    have n_l_x : g_l ≠ v1.heap.size := by have h1 := Kl1.out.lt; omega
    have n_o_x : g_o ≠ v1.heap.size := by have h1 := Ko1.out.lt; omega
    have Bn := Lib.hid (B1.out.alloc B1.out.size (.cells #[.int .i64 n, .string d, .slice (some ⟨g2, 0, none⟩) rs.length cap2, .int .i64 f, .bool z] 26))
    have Kln := Lib.hid (Kl1.out.alloc (.cells #[.int .i64 n, .string d, .slice (some ⟨g2, 0, none⟩) rs.length cap2, .int .i64 f, .bool z] 26))
    have Kon := Lib.hid (Ko1.out.alloc (.cells #[.int .i64 n, .string d, .slice (some ⟨g2, 0, none⟩) rs.length cap2, .int .i64 f, .bool z] 26))
    clear B1 Kl1 Ko1
    obtain ⟨⟨cl0, cl1, cl2, cl3, cl4⟩, dl0, dl1, dl2, dl3, dl4⟩ := Kln.out.of5
    obtain ⟨⟨co0, co1, co2, co3, co4⟩, do0, do1, do2, do3, do4⟩ := Kon.out.of5
    go_wp2_with fail
    clear cl0 cl1 cl2 cl3 cl4 dl0 dl1 dl2 dl3 dl4 co0 co1 co2 co3 co4 do0 do1 do2 do3 do4
    change Calls _ _ _ (v1.alloc (.cells #[.int .i64 n, .string d, .slice (some ⟨g2, 0, none⟩) rs.length cap2, .int .i64 f, .bool z] 26)) _
    generalize v1.alloc (.cells #[.int .i64 n, .string d, .slice (some ⟨g2, 0, none⟩) rs.length cap2, .int .i64 f, .bool z] 26) = v2 at Kxn Bn Kln Kon Npn ⊢
    generalize v1.heap.size = g_x at Kxn l_x n_l_x n_o_x m_p_x ⊢
    clear v1
    have Kl2 := Kln
    clear Kln
    have Ko2 := Kon
    clear Kon
    have Kx2 := Kxn
    clear Kxn
    have B2 := Bn
    clear Bn
    have Np2 := Npn
    clear Npn
    refine (OK.out _ (HR.out.below B2.out)).mono ?_
    rintro e v3 ⟨rfl, hb⟩
    have B3 := Lib.hid (B2.out.trans (hb.mono B2.out.size))
    have Kl3 := Lib.hid (Kl2.out.below hb)
    have Ko3 := Lib.hid (Ko2.out.below hb)
    have Kx3 := Lib.hid (Kx2.out.below hb)
    have Np3 := Lib.hid (own_below Np2.out hb)
    clear hb B2 Kl2 Ko2 Kx2 Np2
    obtain ⟨⟨cl0, cl1, cl2, cl3, cl4⟩, dl0, dl1, dl2, dl3, dl4⟩ := Kl3.out.of5
    obtain ⟨⟨co0, co1, co2, co3, co4⟩, do0, do1, do2, do3, do4⟩ := Ko3.out.of5
    obtain ⟨⟨cx0, cx1, cx2, cx3, cx4⟩, dx0, dx1, dx2, dx3, dx4⟩ := Kx3.out.of5
    go_wp2_with fail
    refine bodyPost_ret (v := .tuple #[.agg #[.int .i64 n, .string d, .slice (some ⟨g2, 0, none⟩) rs.length cap2, .int .i64 f, .bool z], .string ⟨#[]⟩]) (by simp [results, Try.results22, go_sem, co0, co1, co2, co3, co4]) rfl ⟨_, _, rfl, ?_, ?_⟩
    · exact own_down (own_setn (own_setn (own_setn (own_setn (own_setn Np3.out (g := g_o) (k := 0) m_p_o (.int .i64 n)) (g := g_o) (k := 1) m_p_o (.string d)) (g := g_o) (k := 2) m_p_o (.slice (some ⟨g2, 0, none⟩) rs.length cap2)) (g := g_o) (k := 3) m_p_o (.int .i64 f)) (g := g_o) (k := 4) m_p_o (.bool z)) hz0
    · exact (((((B3.out.setCell l_o (.int .i64 n)).setCell l_o (.string d)).setCell l_o (.slice (some ⟨g2, 0, none⟩) rs.length cap2)).setCell l_o (.int .i64 f)).setCell l_o (.bool z))
  | true =>
    simp only [hok] at OK
    simp only [cond_true]
    replace OK := Lib.hid OK
    have HN := Lib.hid (tkn_is2 d k)
    have HM := Lib.hid (tkn_le d k)
    generalize tkn d k = m at HN HM ⊢
    clear hok
    go_enter Try.func22, Try.ntmps22
    have B0 := Lib.hid (show Below w.heap.size w ((w.alloc (.cells #[.int .i64 n, .string d, .slice a rs.length cap, .int .i64 f, .bool z] 26)).alloc (.cells #[.int .i64 0, .string ⟨#[]⟩, .slice none 0 0, .int .i64 0, .bool false] 26)) from (((Below.refl _ w).alloc (by simp) _).alloc (by simp) _))
    have Kl0 := Lib.hid (show Blk ((w.alloc (.cells #[.int .i64 n, .string d, .slice a rs.length cap, .int .i64 f, .bool z] 26)).alloc (.cells #[.int .i64 0, .string ⟨#[]⟩, .slice none 0 0, .int .i64 0, .bool false] 26)) (w.heap.size) [.int .i64 n, .string d, .slice a rs.length cap, .int .i64 f, .bool z] from (Blk.new w [.int .i64 n, .string d, .slice a rs.length cap, .int .i64 f, .bool z] 26).alloc (.cells #[.int .i64 0, .string ⟨#[]⟩, .slice none 0 0, .int .i64 0, .bool false] 26))
    have s1 : (w.alloc (.cells #[.int .i64 n, .string d, .slice a rs.length cap, .int .i64 f, .bool z] 26)).heap.size = w.heap.size + 1 := by simp
    have Ko0 := Lib.hid (show Blk ((w.alloc (.cells #[.int .i64 n, .string d, .slice a rs.length cap, .int .i64 f, .bool z] 26)).alloc (.cells #[.int .i64 0, .string ⟨#[]⟩, .slice none 0 0, .int .i64 0, .bool false] 26)) (w.heap.size + 1) [.int .i64 0, .string ⟨#[]⟩, .slice none 0 0, .int .i64 0, .bool false] by have h0 := Blk.new (w.alloc (.cells #[.int .i64 n, .string d, .slice a rs.length cap, .int .i64 f, .bool z] 26)) [.int .i64 0, .string ⟨#[]⟩, .slice none 0 0, .int .i64 0, .bool false] 26; rwa [s1] at h0)
    have n_l_o : w.heap.size ≠ w.heap.size + 1 := by omega
    clear s1
    go_wp2_with fail
    change Calls _ _ _ ((w.alloc (.cells #[.int .i64 n, .string d, .slice a rs.length cap, .int .i64 f, .bool z] 26)).alloc (.cells #[.int .i64 0, .string ⟨#[]⟩, .slice none 0 0, .int .i64 0, .bool false] 26)) _
    generalize (w.alloc (.cells #[.int .i64 n, .string d, .slice a rs.length cap, .int .i64 f, .bool z] 26)).alloc (.cells #[.int .i64 0, .string ⟨#[]⟩, .slice none 0 0, .int .i64 0, .bool false] 26) = v0 at B0 Kl0 Ko0 ⊢
    generalize hh_o : w.heap.size + 1 = g_o at Ko0 n_l_o ⊢
    generalize hh_l : w.heap.size = g_l at Kl0 n_l_o ⊢
    have l_l : w.heap.size ≤ g_l := by omega
    have l_o : w.heap.size ≤ g_o := by omega
    clear hh_l hh_o
    have hz0 := B0.out.size
    have lt0_l := Kl0.out.lt
    have lt0_o := Ko0.out.lt
    refine (rcopyS_any n f z d a cap rs _ (HR.out.below B0.out) hl.out).mono ?_
    rintro e v1 ⟨g2, cap2, rfl, ho_p, hb⟩
    have B1 := Lib.hid (B0.out.trans (hb.mono B0.out.size))
    have Kl1 := Lib.hid (Kl0.out.below hb)
    have Ko1 := Lib.hid (Ko0.out.below hb)
    clear hb B0 Kl0 Ko0
    replace ho_p := (show World.ownsRow v1 _ 64 2 (.slice (some ⟨g2, 0, none⟩) rs.length cap2) rs.length (hps rs) from ho_p)
    have m_p_l : (.slice (some ⟨g2, 0, none⟩) rs.length cap2 : Value).ownBlock ≠ some g_l := fun e => by have h1 := (ho_p.lt _ e).1; have h2 := lt0_l; omega
    have m_p_o : (.slice (some ⟨g2, 0, none⟩) rs.length cap2 : Value).ownBlock ≠ some g_o := fun e => by have h1 := (ho_p.lt _ e).1; have h2 := lt0_o; omega
    have Np1 := Lib.hid ho_p
    clear ho_p
    have m_p_x : (.slice (some ⟨g2, 0, none⟩) rs.length cap2 : Value).ownBlock ≠ some v1.heap.size := fun e => by have h1 := (Np1.out.lt _ e).2; omega
    have Npn := Lib.hid (own_below Np1.out ((Below.refl _ v1).alloc (Nat.le_refl _) (.cells #[.int .i64 n, .string d, .slice (some ⟨g2, 0, none⟩) rs.length cap2, .int .i64 f, .bool z] 26)))
    clear Np1
    have Kxn := Lib.hid (Blk.new v1 [.int .i64 n, .string d, .slice (some ⟨g2, 0, none⟩) rs.length cap2, .int .i64 f, .bool z] 26)
    have l_x : w.heap.size ≤ v1.heap.size := B1.out.size
    have n_l_x : g_l ≠ v1.heap.size := by have h1 := Kl1.out.lt; omega
    have n_o_x : g_o ≠ v1.heap.size := by have h1 := Ko1.out.lt; omega
    have Bn := Lib.hid (B1.out.alloc B1.out.size (.cells #[.int .i64 n, .string d, .slice (some ⟨g2, 0, none⟩) rs.length cap2, .int .i64 f, .bool z] 26))
    have Kln := Lib.hid (Kl1.out.alloc (.cells #[.int .i64 n, .string d, .slice (some ⟨g2, 0, none⟩) rs.length cap2, .int .i64 f, .bool z] 26))
    have Kon := Lib.hid (Ko1.out.alloc (.cells #[.int .i64 n, .string d, .slice (some ⟨g2, 0, none⟩) rs.length cap2, .int .i64 f, .bool z] 26))
    clear B1 Kl1 Ko1
    obtain ⟨⟨cl0, cl1, cl2, cl3, cl4⟩, dl0, dl1, dl2, dl3, dl4⟩ := Kln.out.of5
    obtain ⟨⟨co0, co1, co2, co3, co4⟩, do0, do1, do2, do3, do4⟩ := Kon.out.of5
    go_wp2_with fail
    clear cl0 cl1 cl2 cl3 cl4 dl0 dl1 dl2 dl3 dl4 co0 co1 co2 co3 co4 do0 do1 do2 do3 do4
    change Calls _ _ _ (v1.alloc (.cells #[.int .i64 n, .string d, .slice (some ⟨g2, 0, none⟩) rs.length cap2, .int .i64 f, .bool z] 26)) _
    generalize v1.alloc (.cells #[.int .i64 n, .string d, .slice (some ⟨g2, 0, none⟩) rs.length cap2, .int .i64 f, .bool z] 26) = v2 at Kxn Bn Kln Kon Npn ⊢
    generalize v1.heap.size = g_x at Kxn l_x n_l_x n_o_x m_p_x ⊢
    clear v1
    have Kl2 := Kln
    clear Kln
    have Ko2 := Kon
    clear Kon
    have Kx2 := Kxn
    clear Kxn
    have B2 := Bn
    clear Bn
    have Np2 := Npn
    clear Npn
    refine (OK.out _ (HR.out.below B2.out)).mono ?_
    rintro e v3 ⟨rfl, hb⟩
    have B3 := Lib.hid (B2.out.trans (hb.mono B2.out.size))
    have Kl3 := Lib.hid (Kl2.out.below hb)
    have Ko3 := Lib.hid (Ko2.out.below hb)
    have Kx3 := Lib.hid (Kx2.out.below hb)
    have Np3 := Lib.hid (own_below Np2.out hb)
    clear hb B2 Kl2 Ko2 Kx2 Np2
    obtain ⟨⟨cl0, cl1, cl2, cl3, cl4⟩, dl0, dl1, dl2, dl3, dl4⟩ := Kl3.out.of5
    obtain ⟨⟨co0, co1, co2, co3, co4⟩, do0, do1, do2, do3, do4⟩ := Ko3.out.of5
    obtain ⟨⟨cx0, cx1, cx2, cx3, cx4⟩, dx0, dx1, dx2, dx3, dx4⟩ := Kx3.out.of5
    go_wp2_with fail
    clear cl0 cl1 cl2 cl3 cl4 dl0 dl1 dl2 dl3 dl4 co0 co1 co2 co3 co4 do0 do1 do2 do3 do4 cx0 cx1 cx2 cx3 cx4 dx0 dx1 dx2 dx3 dx4
    refine (l1Min_s k (d.size : Int) _).mono ?_
    rintro e v4 ⟨rfl, hb⟩
    have B4 := Lib.hid (B3.out.trans (hb.mono B3.out.size))
    have Kl4 := Lib.hid (Kl3.out.below hb)
    have Ko4 := Lib.hid (Ko3.out.below hb)
    have Kx4 := Lib.hid (Kx3.out.below hb)
    have Np4 := Lib.hid (own_below Np3.out hb)
    clear hb B3 Kl3 Ko3 Kx3 Np3
    obtain ⟨⟨cl0, cl1, cl2, cl3, cl4⟩, dl0, dl1, dl2, dl3, dl4⟩ := Kl4.out.of5
    obtain ⟨⟨co0, co1, co2, co3, co4⟩, do0, do1, do2, do3, do4⟩ := Ko4.out.of5
    obtain ⟨⟨cx0, cx1, cx2, cx3, cx4⟩, dx0, dx1, dx2, dx3, dx4⟩ := Kx4.out.of5
    go_wp2_with fail
    clear cl0 cl1 cl2 cl3 cl4 dl0 dl1 dl2 dl3 dl4 co0 co1 co2 co3 co4 do0 do1 do2 do3 do4 cx0 cx1 cx2 cx3 cx4 dx0 dx1 dx2 dx3 dx4
    refine (l1Max_s 0 (min k (d.size : Int)) _).mono ?_
    rintro e v5 ⟨rfl, hb⟩
    have B5 := Lib.hid (B4.out.trans (hb.mono B4.out.size))
    have Kl5 := Lib.hid (Kl4.out.below hb)
    have Ko5 := Lib.hid (Ko4.out.below hb)
    have Kx5 := Lib.hid (Kx4.out.below hb)
    have Np5 := Lib.hid (own_below Np4.out hb)
    clear hb B4 Kl4 Ko4 Kx4 Np4
    rw [HN.out]
    obtain ⟨⟨cl0, cl1, cl2, cl3, cl4⟩, dl0, dl1, dl2, dl3, dl4⟩ := Kl5.out.of5
    obtain ⟨⟨co0, co1, co2, co3, co4⟩, do0, do1, do2, do3, do4⟩ := Ko5.out.of5
    obtain ⟨⟨cx0, cx1, cx2, cx3, cx4⟩, dx0, dx1, dx2, dx3, dx4⟩ := Kx5.out.of5
    have hm1 : ¬ ((m : Int) < 0) := by omega
    have hm2 : ¬ ((d.size : Int) < (m : Int)) := by have := HM.out; omega
    have Np6 := Lib.hid (own_setn Np5.out (g := g_x) (k := 1) m_p_x (.string (d.extract m d.size)))
    have Kl6 := Lib.hid (show Blk (v5.setCell ⟨g_x, 1, none⟩ (.string (d.extract m d.size))) g_l [.int .i64 n, .string d, .slice a rs.length cap, .int .i64 f, .bool z] from (Kl5.out.setOther ⟨g_x, 1, none⟩ (.string (d.extract m d.size)) (n_l_x)))
    have Ko6 := Lib.hid (show Blk (v5.setCell ⟨g_x, 1, none⟩ (.string (d.extract m d.size))) g_o [.int .i64 0, .string ⟨#[]⟩, .slice none 0 0, .int .i64 0, .bool false] from (Ko5.out.setOther ⟨g_x, 1, none⟩ (.string (d.extract m d.size)) (n_o_x)))
    have Kx6 := Lib.hid (show Blk (v5.setCell ⟨g_x, 1, none⟩ (.string (d.extract m d.size))) g_x [.int .i64 n, .string (d.extract m d.size), .slice (some ⟨g2, 0, none⟩) rs.length cap2, .int .i64 f, .bool z] from (Kx5.out.set 1 (.string (d.extract m d.size))))
    have B6 := Lib.hid (show Below w.heap.size w (v5.setCell ⟨g_x, 1, none⟩ (.string (d.extract m d.size))) from (B5.out.setCell l_x (.string (d.extract m d.size))))
    clear B5
    go_upto_region 6 with fail
    clear Kl5 Ko5 Kx5
    clear cl0 cl1 cl2 cl3 cl4 dl0 dl1 dl2 dl3 dl4 co0 co1 co2 co3 co4 do0 do1 do2 do3 do4 cx0 cx1 cx2 cx3 cx4 dx0 dx1 dx2 dx3 dx4
    generalize v5.setCell ⟨g_x, 1, none⟩ (.string (d.extract m d.size)) = v6 at B6 Kl6 Ko6 Kx6 Np6 ⊢
    clear Np5
    refine wp_region_noPanic ?_
    refine wp_region_held_drew (S := fun w' => Blk w' g_l [.int .i64 n, .string d, .slice a rs.length cap, .int .i64 f, .bool z] ∧ Blk w' g_x [.int .i64 n, .string (d.extract m d.size), .slice (some ⟨g2, 0, none⟩) rs.length cap2, .int .i64 f, .bool z]) (by kernel_rfl) ⟨Kl6.out, Kx6.out⟩ (fun hS => ?_)
    refine wpAnyH_take (i := 0) (v := .agg #[.int .i64 n, .string (d.extract m d.size), .slice (some ⟨g2, 0, none⟩) rs.length cap2, .int .i64 f, .bool z]) rfl (by kernel_rfl) (by kernel_rfl) (by kernel_rfl) (fun _ _ _ h => h) (Or.inl ⟨rfl, by intro w hS; obtain ⟨⟨h0, h1, h2, h3, h4⟩, _⟩ := hS.2.of5; go_simp⟩) hS ?_
    refine wpAnyH_take (i := 1) (v := .pointer (some ⟨g_l, 1, none⟩)) rfl (by kernel_rfl) (by kernel_rfl) (by kernel_rfl) (fun _ _ _ h => h) (Or.inl ⟨rfl, by intro w hS; go_simp⟩) hS ?_
    refine wpAnyH_take (i := 2) (v := .string d) rfl (by kernel_rfl) (by kernel_rfl) (by kernel_rfl) (fun _ _ _ h => h) (Or.inl ⟨rfl, by intro w hS; obtain ⟨⟨h0, h1, h2, h3, h4⟩, _⟩ := hS.1.of5; go_simp⟩) hS ?_
    refine wpAnyH_take (i := 3) (v := .int .i64 (m : Int)) rfl (by kernel_rfl) (by kernel_rfl) (by kernel_rfl) (fun _ _ _ h => h) (Or.inl ⟨rfl, by intro w hS; go_simp⟩) hS ?_
    refine wpAnyH_take (i := 4) (v := .string (d.extract 0 m)) rfl (by kernel_rfl) (by kernel_rfl) (by kernel_rfl) (fun _ _ _ h => h) (Or.inl ⟨rfl, by intro w hS; first | (go_simp; done) | (go_simp; exact fun hlt => absurd hlt (Nat.not_lt.2 HM.out))⟩) hS ?_
    obtain ⟨⟨co0, co1, co2, co3, co4⟩, do0, do1, do2, do3, do4⟩ := Ko6.out.of5
    refine wpAnyH_ready (rs := [5]) (by kernel_rfl) (by simp) ?_
    refine AllReadyH.cons (i := 5) rfl (fun K hK => ?zr2) AllReadyH.nil
    rw [if_pos (by rfl)]
    go_simp
    clear hS
    have Kl7 := Lib.hid (show Blk ((((((v6.setCell ⟨g_o, 0, none⟩ (.int .i64 n)).setCell ⟨g_o, 1, none⟩ (.string (d.extract m d.size))).setCell ⟨g_o, 2, none⟩ (.slice (some ⟨g2, 0, none⟩) rs.length cap2)).setCell ⟨g_o, 3, none⟩ (.int .i64 f)).setCell ⟨g_o, 4, none⟩ (.bool z)).drew) g_l [.int .i64 n, .string d, .slice a rs.length cap, .int .i64 f, .bool z] from (((((Kl6.out.setOther ⟨g_o, 0, none⟩ (.int .i64 n) (n_l_o)).setOther ⟨g_o, 1, none⟩ (.string (d.extract m d.size)) (n_l_o)).setOther ⟨g_o, 2, none⟩ (.slice (some ⟨g2, 0, none⟩) rs.length cap2) (n_l_o)).setOther ⟨g_o, 3, none⟩ (.int .i64 f) (n_l_o)).setOther ⟨g_o, 4, none⟩ (.bool z) (n_l_o)))
    have Ko7 := Lib.hid (show Blk ((((((v6.setCell ⟨g_o, 0, none⟩ (.int .i64 n)).setCell ⟨g_o, 1, none⟩ (.string (d.extract m d.size))).setCell ⟨g_o, 2, none⟩ (.slice (some ⟨g2, 0, none⟩) rs.length cap2)).setCell ⟨g_o, 3, none⟩ (.int .i64 f)).setCell ⟨g_o, 4, none⟩ (.bool z)).drew) g_o [.int .i64 n, .string (d.extract m d.size), .slice (some ⟨g2, 0, none⟩) rs.length cap2, .int .i64 f, .bool z] from (((((Ko6.out.set 0 (.int .i64 n)).set 1 (.string (d.extract m d.size))).set 2 (.slice (some ⟨g2, 0, none⟩) rs.length cap2)).set 3 (.int .i64 f)).set 4 (.bool z)))
    have Kx7 := Lib.hid (show Blk ((((((v6.setCell ⟨g_o, 0, none⟩ (.int .i64 n)).setCell ⟨g_o, 1, none⟩ (.string (d.extract m d.size))).setCell ⟨g_o, 2, none⟩ (.slice (some ⟨g2, 0, none⟩) rs.length cap2)).setCell ⟨g_o, 3, none⟩ (.int .i64 f)).setCell ⟨g_o, 4, none⟩ (.bool z)).drew) g_x [.int .i64 n, .string (d.extract m d.size), .slice (some ⟨g2, 0, none⟩) rs.length cap2, .int .i64 f, .bool z] from (((((Kx6.out.setOther ⟨g_o, 0, none⟩ (.int .i64 n) (fun e => n_o_x e.symm)).setOther ⟨g_o, 1, none⟩ (.string (d.extract m d.size)) (fun e => n_o_x e.symm)).setOther ⟨g_o, 2, none⟩ (.slice (some ⟨g2, 0, none⟩) rs.length cap2) (fun e => n_o_x e.symm)).setOther ⟨g_o, 3, none⟩ (.int .i64 f) (fun e => n_o_x e.symm)).setOther ⟨g_o, 4, none⟩ (.bool z) (fun e => n_o_x e.symm)))
    have B7 := Lib.hid (show Below w.heap.size w ((((((v6.setCell ⟨g_o, 0, none⟩ (.int .i64 n)).setCell ⟨g_o, 1, none⟩ (.string (d.extract m d.size))).setCell ⟨g_o, 2, none⟩ (.slice (some ⟨g2, 0, none⟩) rs.length cap2)).setCell ⟨g_o, 3, none⟩ (.int .i64 f)).setCell ⟨g_o, 4, none⟩ (.bool z)).drew) from (((((B6.out.setCell l_o (.int .i64 n)).setCell l_o (.string (d.extract m d.size))).setCell l_o (.slice (some ⟨g2, 0, none⟩) rs.length cap2)).setCell l_o (.int .i64 f)).setCell l_o (.bool z)).drew)
    have Np7 := Lib.hid (own_drewn (own_setn (own_setn (own_setn (own_setn (own_setn Np6.out (g := g_o) (k := 0) m_p_o (.int .i64 n)) (g := g_o) (k := 1) m_p_o (.string (d.extract m d.size))) (g := g_o) (k := 2) m_p_o (.slice (some ⟨g2, 0, none⟩) rs.length cap2)) (g := g_o) (k := 3) m_p_o (.int .i64 f)) (g := g_o) (k := 4) m_p_o (.bool z)))
    refine hK.out _ _ ⟨Kl7.out, Kx7.out⟩ (fun hS => ?_)
    clear hK K B6 co0 co1 co2 co3 co4 do0 do1 do2 do3 do4 Kl6 Ko6 Kx6 Np6
    generalize (((((v6.setCell ⟨g_o, 0, none⟩ (.int .i64 n)).setCell ⟨g_o, 1, none⟩ (.string (d.extract m d.size))).setCell ⟨g_o, 2, none⟩ (.slice (some ⟨g2, 0, none⟩) rs.length cap2)).setCell ⟨g_o, 3, none⟩ (.int .i64 f)).setCell ⟨g_o, 4, none⟩ (.bool z)).drew = v7 at hS Kl7 Ko7 Kx7 B7 Np7 ⊢
    refine wpAnyH_take (i := 6) (v := .string (d.extract 0 m)) rfl (by kernel_rfl) (by kernel_rfl) (by kernel_rfl) (fun _ _ _ h => h) (Or.inl ⟨rfl, by intro w hS; go_simp⟩) hS ?_
    refine wpAnyH_done (by kernel_rfl) ?_ _
    refine NoPanic.normal ?_
    obtain ⟨⟨co0, co1, co2, co3, co4⟩, do0, do1, do2, do3, do4⟩ := Ko7.out.of5
    go_wp2_with fail
    refine bodyPost_ret (v := .tuple #[.agg #[.int .i64 n, .string (d.extract m d.size), .slice (some ⟨g2, 0, none⟩) rs.length cap2, .int .i64 f, .bool z], .string (d.extract 0 m)]) (by simp [results, Try.results22, go_sem, co0, co1, co2, co3, co4]) rfl ⟨_, _, rfl, ?_, ?_⟩
    · exact own_down Np7.out hz0
    · exact B7.out
end Go.Proofs.Ytpbnkkgfjmkcdaa
