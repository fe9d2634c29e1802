/- CookieOf, of the model and of the program. Nothing here is a claim. -/
import Derived.Test.YtobfgkiccmhgdaaGreatKeysA
import Derived.Test.YtobfgkiccmhgdaaGreatMacOf
import Derived.Test.YtobfgkiccmhgdaaGreatMacIn
namespace Go.Proofs.YtobfgkiccmhgdaaGreat
open Go.RowKit Go.Lib

theorem size_full {x : ByteArray} (h : 0 < x.size) : x.toList.isEmpty = false := by
  rw [ByteArray.toList_eq]
  cases hl : x.data.toList with
  | nil =>
    have h2 : x.data.size = 0 := by rw [← Array.length_toList, hl]; rfl
    have h3 : x.size = x.data.size := rfl
    omega
  | cons => rfl
/-- A call that answers an int and leaves what lay before it. -/
def EndN (n : Int) (w : World) (e : Ending) (w' : World) : Prop := e = .returned (.int .i64 n) ∧ Below w.heap.size w w'
/-- The tag of an input. -/
noncomputable def M.of (m : M) (x : ByteArray) : Int := macOf m.u m.k m.l m.rs x
theorem M.of_bd (m : M) (x : ByteArray) : 0 ≤ m.of x ∧ m.of x < 16777216 := by
  unfold M.of macOf tagOf
  split <;> omega
/-- The cookie of these fields. -/
noncomputable def cookieOf (m : M) (p q r s t i : Int) : Int := if macArg p q r s t i = true then t % 32 * 134217728 + i * 16777216 + m.of (macIn p q r s t i) else -1
theorem cookieOf_no {m : M} {p q r s t i : Int} (h : macArg p q r s t i = false) : cookieOf m p q r s t i = -1 := if_neg (by rw [h]; simp)
theorem cookieOf_yes {m : M} {p q r s t i : Int} (h : macArg p q r s t i = true) : cookieOf m p q r s t i = t % 32 * 134217728 + i * 16777216 + m.of (macIn p q r s t i) := if_pos h
theorem macArg_bd {p q r s t i : Int} (h : macArg p q r s t i = true) : (0 ≤ t ∧ t < 4294967296) ∧ 0 ≤ i ∧ i ≤ 7 := by
  unfold macArg wordOk at h
  simp only [Bool.and_eq_true, decide_eq_true_eq] at h
  obtain ⟨_, _, ⟨_, h1, h2⟩, h3, h4⟩ := h
  exact ⟨⟨h1, h2⟩, h3, h4⟩
theorem M.ofI (m : M) (x : ByteArray) (hx : x.size ≤ 1048576) (w : World) (h : m.On w) (f : m.Fit) : Calls Tryz.prog 28 #[.agg #[.bool m.u, .int .u64 (n64 m.k), .int .u64 (n64 m.l), .slice m.a m.rs.length m.c], .string x] w (EndN (m.of x) w) :=
  macOfI m.u m.k m.l m.a m.c m.rs x f.1 f.2 hx w h.row
theorem M.ofS (m : M) (x : ByteArray) (hx : x.size ≤ 1048576) (w : World) (h : m.On w) (f : m.Fit) : Calls Tryz.prog 30 #[.agg #[.bool m.u, .int .u64 (n64 m.k), .int .u64 (n64 m.l), .slice m.a m.rs.length m.c], .string x] w (EndN (m.of x) w) :=
  macOfS m.u m.k m.l m.a m.c m.rs x f.1 hx w h.row

set_option maxRecDepth 100000 in
set_option maxHeartbeats 4000000 in
theorem cookieOfI (m : M) (p q r s t i : Int) (w : World) (hm : m.On w) (f : m.Fit) :
    Calls Tryz.prog 10 #[.agg #[.bool m.u, .int .u64 (n64 m.k), .int .u64 (n64 m.l), .slice m.a m.rs.length m.c], .agg #[.int .i64 p, .int .i64 q, .int .i64 r], .int .i64 s, .int .i64 t, .int .i64 i] w (EndN (cookieOf m p q r s t i) w) := by
  have HM := Lib.hid hm
  clear hm
  have C1 := Lib.hid (macInI p q r s t i)
  cases ha : macArg p q r s t i with
  | false =>
    rw [macIn_no ha] at C1
    rw [cookieOf_no ha]
    clear ha f
    go_enter Tryz.func10, Tryz.ntmps10
    have B0 := Lib.hid (show Below w.heap.size w ((w.alloc (.cells #[.bool m.u, .int .u64 (n64 m.k), .int .u64 (n64 m.l), .slice m.a m.rs.length m.c] 27)).alloc (.cells #[.int .i64 p, .int .i64 q, .int .i64 r] 31)) from (((Below.refl _ w).alloc (by simp) _).alloc (by simp) _))
    have KA0 := Lib.hid (show Blk ((w.alloc (.cells #[.bool m.u, .int .u64 (n64 m.k), .int .u64 (n64 m.l), .slice m.a m.rs.length m.c] 27)).alloc (.cells #[.int .i64 p, .int .i64 q, .int .i64 r] 31)) (w.heap.size) [.bool m.u, .int .u64 (n64 m.k), .int .u64 (n64 m.l), .slice m.a m.rs.length m.c] from (Blk.new w [.bool m.u, .int .u64 (n64 m.k), .int .u64 (n64 m.l), .slice m.a m.rs.length m.c] 27).alloc (.cells #[.int .i64 p, .int .i64 q, .int .i64 r] 31))
    have s1 : (w.alloc (.cells #[.bool m.u, .int .u64 (n64 m.k), .int .u64 (n64 m.l), .slice m.a m.rs.length m.c] 27)).heap.size = w.heap.size + 1 := by simp
    have KT0 := Lib.hid (show Blk ((w.alloc (.cells #[.bool m.u, .int .u64 (n64 m.k), .int .u64 (n64 m.l), .slice m.a m.rs.length m.c] 27)).alloc (.cells #[.int .i64 p, .int .i64 q, .int .i64 r] 31)) (w.heap.size + 1) [.int .i64 p, .int .i64 q, .int .i64 r] by have h0 := Blk.new (w.alloc (.cells #[.bool m.u, .int .u64 (n64 m.k), .int .u64 (n64 m.l), .slice m.a m.rs.length m.c] 27)) [.int .i64 p, .int .i64 q, .int .i64 r] 31; rwa [s1] at h0)
    have n_A_T : w.heap.size ≠ w.heap.size + 1 := by omega
    clear s1
    have Hm0 := Lib.hid (show m.On ((w.alloc (.cells #[.bool m.u, .int .u64 (n64 m.k), .int .u64 (n64 m.l), .slice m.a m.rs.length m.c] 27)).alloc (.cells #[.int .i64 p, .int .i64 q, .int .i64 r] 31)) from HM.out.below B0.out)
    clear HM
    go_wp2_with fail
    change Calls _ _ _ ((w.alloc (.cells #[.bool m.u, .int .u64 (n64 m.k), .int .u64 (n64 m.l), .slice m.a m.rs.length m.c] 27)).alloc (.cells #[.int .i64 p, .int .i64 q, .int .i64 r] 31)) _
    generalize (w.alloc (.cells #[.bool m.u, .int .u64 (n64 m.k), .int .u64 (n64 m.l), .slice m.a m.rs.length m.c] 27)).alloc (.cells #[.int .i64 p, .int .i64 q, .int .i64 r] 31) = v0 at B0 KA0 KT0 Hm0 ⊢
    generalize w.heap.size + 1 = g_T at KT0 n_A_T ⊢
    generalize w.heap.size = g_A at KA0 n_A_T ⊢
    refine (C1.out _).mono ?_
    rintro e v1 ⟨rfl, hb⟩
    have B1 := Lib.hid (B0.out.trans (hb.mono B0.out.size))
    have KA1 := Lib.hid (KA0.out.below hb)
    have KT1 := Lib.hid (KT0.out.below hb)
    have Hm1 := Lib.hid (Hm0.out.below hb)
    clear hb B0 KA0 KT0 Hm0
    obtain ⟨⟨cA0, cA1, cA2, cA3⟩, dA0, dA1, dA2, dA3⟩ := KA1.out.four
    obtain ⟨⟨cT0, cT1, cT2⟩, dT0, dT1, dT2⟩ := KT1.out.o3
    go_wp2_with fail
    go_ret
    exact ⟨rfl, B1.out⟩
  | true =>
    obtain ⟨⟨h0, h1⟩, h2, h3⟩ := macArg_bd ha
    have hz := macIn_size ha
    rw [cookieOf_yes ha]
    clear ha
    obtain ⟨x, hx⟩ : ∃ x, macIn p q r s t i = x := ⟨_, rfl⟩
    rw [hx] at C1 hz ⊢
    clear hx
    have hn : x.toList.isEmpty = false := size_full (by omega)
    have C2 := Lib.hid (fun w h => M.ofI m x (by omega) w h f)
    obtain ⟨b0, b1⟩ := M.of_bd m x
    generalize m.of x = y at C2 b0 b1 ⊢
    have q1 : t.tmod 32 = t % 32 := Int.tmod_eq_emod_of_nonneg h0
    clear hz f
    go_enter Tryz.func10, Tryz.ntmps10
    have B0 := Lib.hid (show Below w.heap.size w ((w.alloc (.cells #[.bool m.u, .int .u64 (n64 m.k), .int .u64 (n64 m.l), .slice m.a m.rs.length m.c] 27)).alloc (.cells #[.int .i64 p, .int .i64 q, .int .i64 r] 31)) from (((Below.refl _ w).alloc (by simp) _).alloc (by simp) _))
    have KA0 := Lib.hid (show Blk ((w.alloc (.cells #[.bool m.u, .int .u64 (n64 m.k), .int .u64 (n64 m.l), .slice m.a m.rs.length m.c] 27)).alloc (.cells #[.int .i64 p, .int .i64 q, .int .i64 r] 31)) (w.heap.size) [.bool m.u, .int .u64 (n64 m.k), .int .u64 (n64 m.l), .slice m.a m.rs.length m.c] from (Blk.new w [.bool m.u, .int .u64 (n64 m.k), .int .u64 (n64 m.l), .slice m.a m.rs.length m.c] 27).alloc (.cells #[.int .i64 p, .int .i64 q, .int .i64 r] 31))
    have s1 : (w.alloc (.cells #[.bool m.u, .int .u64 (n64 m.k), .int .u64 (n64 m.l), .slice m.a m.rs.length m.c] 27)).heap.size = w.heap.size + 1 := by simp
    have KT0 := Lib.hid (show Blk ((w.alloc (.cells #[.bool m.u, .int .u64 (n64 m.k), .int .u64 (n64 m.l), .slice m.a m.rs.length m.c] 27)).alloc (.cells #[.int .i64 p, .int .i64 q, .int .i64 r] 31)) (w.heap.size + 1) [.int .i64 p, .int .i64 q, .int .i64 r] by have h0 := Blk.new (w.alloc (.cells #[.bool m.u, .int .u64 (n64 m.k), .int .u64 (n64 m.l), .slice m.a m.rs.length m.c] 27)) [.int .i64 p, .int .i64 q, .int .i64 r] 31; rwa [s1] at h0)
    have n_A_T : w.heap.size ≠ w.heap.size + 1 := by omega
    clear s1
    have Hm0 := Lib.hid (show m.On ((w.alloc (.cells #[.bool m.u, .int .u64 (n64 m.k), .int .u64 (n64 m.l), .slice m.a m.rs.length m.c] 27)).alloc (.cells #[.int .i64 p, .int .i64 q, .int .i64 r] 31)) from HM.out.below B0.out)
    clear HM
    go_wp2_with fail
    change Calls _ _ _ ((w.alloc (.cells #[.bool m.u, .int .u64 (n64 m.k), .int .u64 (n64 m.l), .slice m.a m.rs.length m.c] 27)).alloc (.cells #[.int .i64 p, .int .i64 q, .int .i64 r] 31)) _
    generalize (w.alloc (.cells #[.bool m.u, .int .u64 (n64 m.k), .int .u64 (n64 m.l), .slice m.a m.rs.length m.c] 27)).alloc (.cells #[.int .i64 p, .int .i64 q, .int .i64 r] 31) = v0 at B0 KA0 KT0 Hm0 ⊢
    generalize w.heap.size + 1 = g_T at KT0 n_A_T ⊢
    generalize w.heap.size = g_A at KA0 n_A_T ⊢
    refine (C1.out _).mono ?_
    rintro e v1 ⟨rfl, hb⟩
    have B1 := Lib.hid (B0.out.trans (hb.mono B0.out.size))
    have KA1 := Lib.hid (KA0.out.below hb)
    have KT1 := Lib.hid (KT0.out.below hb)
    have Hm1 := Lib.hid (Hm0.out.below hb)
    clear hb B0 KA0 KT0 Hm0
    obtain ⟨⟨cA0, cA1, cA2, cA3⟩, dA0, dA1, dA2, dA3⟩ := KA1.out.four
    obtain ⟨⟨cT0, cT1, cT2⟩, dT0, dT1, dT2⟩ := KT1.out.o3
    go_wp2_with fail
    clear cA0 cA1 cA2 cA3 dA0 dA1 dA2 dA3 cT0 cT1 cT2 dT0 dT1 dT2
    refine (C2.out _ Hm1.out).mono ?_
    rintro e v2 ⟨rfl, hb⟩
    have B2 := Lib.hid (B1.out.trans (hb.mono B1.out.size))
    have KA2 := Lib.hid (KA1.out.below hb)
    have KT2 := Lib.hid (KT1.out.below hb)
    have Hm2 := Lib.hid (Hm1.out.below hb)
    clear hb B1 KA1 KT1 Hm1
    obtain ⟨⟨cA0, cA1, cA2, cA3⟩, dA0, dA1, dA2, dA3⟩ := KA2.out.four
    obtain ⟨⟨cT0, cT1, cT2⟩, dT0, dT1, dT2⟩ := KT2.out.o3
    go_wp2_with fail
    go_ret
    exact ⟨ret_int (by first | rfl | omega), B2.out⟩

set_option maxRecDepth 100000 in
set_option maxHeartbeats 4000000 in
theorem cookieOfS (m : M) (p q r s t i : Int) (w : World) (hm : m.On w) (f : m.Fit) :
    Calls Tryz.prog 11 #[.agg #[.bool m.u, .int .u64 (n64 m.k), .int .u64 (n64 m.l), .slice m.a m.rs.length m.c], .agg #[.int .i64 p, .int .i64 q, .int .i64 r], .int .i64 s, .int .i64 t, .int .i64 i] w (EndN (cookieOf m p q r s t i) w) := by
  have HM := Lib.hid hm
  clear hm
  have C1 := Lib.hid (macInS p q r s t i)
  cases ha : macArg p q r s t i with
  | false =>
    rw [macIn_no ha] at C1
    rw [cookieOf_no ha]
    clear ha f
    go_enter Tryz.func11, Tryz.ntmps11
    have B0 := Lib.hid (show Below w.heap.size w ((w.alloc (.cells #[.bool m.u, .int .u64 (n64 m.k), .int .u64 (n64 m.l), .slice m.a m.rs.length m.c] 27)).alloc (.cells #[.int .i64 p, .int .i64 q, .int .i64 r] 31)) from (((Below.refl _ w).alloc (by simp) _).alloc (by simp) _))
    have KA0 := Lib.hid (show Blk ((w.alloc (.cells #[.bool m.u, .int .u64 (n64 m.k), .int .u64 (n64 m.l), .slice m.a m.rs.length m.c] 27)).alloc (.cells #[.int .i64 p, .int .i64 q, .int .i64 r] 31)) (w.heap.size) [.bool m.u, .int .u64 (n64 m.k), .int .u64 (n64 m.l), .slice m.a m.rs.length m.c] from (Blk.new w [.bool m.u, .int .u64 (n64 m.k), .int .u64 (n64 m.l), .slice m.a m.rs.length m.c] 27).alloc (.cells #[.int .i64 p, .int .i64 q, .int .i64 r] 31))
    have s1 : (w.alloc (.cells #[.bool m.u, .int .u64 (n64 m.k), .int .u64 (n64 m.l), .slice m.a m.rs.length m.c] 27)).heap.size = w.heap.size + 1 := by simp
    have KT0 := Lib.hid (show Blk ((w.alloc (.cells #[.bool m.u, .int .u64 (n64 m.k), .int .u64 (n64 m.l), .slice m.a m.rs.length m.c] 27)).alloc (.cells #[.int .i64 p, .int .i64 q, .int .i64 r] 31)) (w.heap.size + 1) [.int .i64 p, .int .i64 q, .int .i64 r] by have h0 := Blk.new (w.alloc (.cells #[.bool m.u, .int .u64 (n64 m.k), .int .u64 (n64 m.l), .slice m.a m.rs.length m.c] 27)) [.int .i64 p, .int .i64 q, .int .i64 r] 31; rwa [s1] at h0)
    have n_A_T : w.heap.size ≠ w.heap.size + 1 := by omega
    clear s1
    have Hm0 := Lib.hid (show m.On ((w.alloc (.cells #[.bool m.u, .int .u64 (n64 m.k), .int .u64 (n64 m.l), .slice m.a m.rs.length m.c] 27)).alloc (.cells #[.int .i64 p, .int .i64 q, .int .i64 r] 31)) from HM.out.below B0.out)
    clear HM
    go_wp2_with fail
    change Calls _ _ _ ((w.alloc (.cells #[.bool m.u, .int .u64 (n64 m.k), .int .u64 (n64 m.l), .slice m.a m.rs.length m.c] 27)).alloc (.cells #[.int .i64 p, .int .i64 q, .int .i64 r] 31)) _
    generalize (w.alloc (.cells #[.bool m.u, .int .u64 (n64 m.k), .int .u64 (n64 m.l), .slice m.a m.rs.length m.c] 27)).alloc (.cells #[.int .i64 p, .int .i64 q, .int .i64 r] 31) = v0 at B0 KA0 KT0 Hm0 ⊢
    generalize w.heap.size + 1 = g_T at KT0 n_A_T ⊢
    generalize w.heap.size = g_A at KA0 n_A_T ⊢
    refine (C1.out _).mono ?_
    rintro e v1 ⟨rfl, hb⟩
    have B1 := Lib.hid (B0.out.trans (hb.mono B0.out.size))
    have KA1 := Lib.hid (KA0.out.below hb)
    have KT1 := Lib.hid (KT0.out.below hb)
    have Hm1 := Lib.hid (Hm0.out.below hb)
    clear hb B0 KA0 KT0 Hm0
    obtain ⟨⟨cA0, cA1, cA2, cA3⟩, dA0, dA1, dA2, dA3⟩ := KA1.out.four
    obtain ⟨⟨cT0, cT1, cT2⟩, dT0, dT1, dT2⟩ := KT1.out.o3
    go_wp2_with fail
    go_ret
    exact ⟨rfl, B1.out⟩
  | true =>
    obtain ⟨⟨h0, h1⟩, h2, h3⟩ := macArg_bd ha
    have hz := macIn_size ha
    rw [cookieOf_yes ha]
    clear ha
    obtain ⟨x, hx⟩ : ∃ x, macIn p q r s t i = x := ⟨_, rfl⟩
    rw [hx] at C1 hz ⊢
    clear hx
    have hn : x.toList.isEmpty = false := size_full (by omega)
    have C2 := Lib.hid (fun w h => M.ofS m x (by omega) w h f)
    obtain ⟨b0, b1⟩ := M.of_bd m x
    generalize m.of x = y at C2 b0 b1 ⊢
    have q1 : t.tmod 32 = t % 32 := Int.tmod_eq_emod_of_nonneg h0
    clear hz f
    go_enter Tryz.func11, Tryz.ntmps11
    have B0 := Lib.hid (show Below w.heap.size w ((w.alloc (.cells #[.bool m.u, .int .u64 (n64 m.k), .int .u64 (n64 m.l), .slice m.a m.rs.length m.c] 27)).alloc (.cells #[.int .i64 p, .int .i64 q, .int .i64 r] 31)) from (((Below.refl _ w).alloc (by simp) _).alloc (by simp) _))
    have KA0 := Lib.hid (show Blk ((w.alloc (.cells #[.bool m.u, .int .u64 (n64 m.k), .int .u64 (n64 m.l), .slice m.a m.rs.length m.c] 27)).alloc (.cells #[.int .i64 p, .int .i64 q, .int .i64 r] 31)) (w.heap.size) [.bool m.u, .int .u64 (n64 m.k), .int .u64 (n64 m.l), .slice m.a m.rs.length m.c] from (Blk.new w [.bool m.u, .int .u64 (n64 m.k), .int .u64 (n64 m.l), .slice m.a m.rs.length m.c] 27).alloc (.cells #[.int .i64 p, .int .i64 q, .int .i64 r] 31))
    have s1 : (w.alloc (.cells #[.bool m.u, .int .u64 (n64 m.k), .int .u64 (n64 m.l), .slice m.a m.rs.length m.c] 27)).heap.size = w.heap.size + 1 := by simp
    have KT0 := Lib.hid (show Blk ((w.alloc (.cells #[.bool m.u, .int .u64 (n64 m.k), .int .u64 (n64 m.l), .slice m.a m.rs.length m.c] 27)).alloc (.cells #[.int .i64 p, .int .i64 q, .int .i64 r] 31)) (w.heap.size + 1) [.int .i64 p, .int .i64 q, .int .i64 r] by have h0 := Blk.new (w.alloc (.cells #[.bool m.u, .int .u64 (n64 m.k), .int .u64 (n64 m.l), .slice m.a m.rs.length m.c] 27)) [.int .i64 p, .int .i64 q, .int .i64 r] 31; rwa [s1] at h0)
    have n_A_T : w.heap.size ≠ w.heap.size + 1 := by omega
    clear s1
    have Hm0 := Lib.hid (show m.On ((w.alloc (.cells #[.bool m.u, .int .u64 (n64 m.k), .int .u64 (n64 m.l), .slice m.a m.rs.length m.c] 27)).alloc (.cells #[.int .i64 p, .int .i64 q, .int .i64 r] 31)) from HM.out.below B0.out)
    clear HM
    go_wp2_with fail
    change Calls _ _ _ ((w.alloc (.cells #[.bool m.u, .int .u64 (n64 m.k), .int .u64 (n64 m.l), .slice m.a m.rs.length m.c] 27)).alloc (.cells #[.int .i64 p, .int .i64 q, .int .i64 r] 31)) _
    generalize (w.alloc (.cells #[.bool m.u, .int .u64 (n64 m.k), .int .u64 (n64 m.l), .slice m.a m.rs.length m.c] 27)).alloc (.cells #[.int .i64 p, .int .i64 q, .int .i64 r] 31) = v0 at B0 KA0 KT0 Hm0 ⊢
    generalize w.heap.size + 1 = g_T at KT0 n_A_T ⊢
    generalize w.heap.size = g_A at KA0 n_A_T ⊢
    refine (C1.out _).mono ?_
    rintro e v1 ⟨rfl, hb⟩
    have B1 := Lib.hid (B0.out.trans (hb.mono B0.out.size))
    have KA1 := Lib.hid (KA0.out.below hb)
    have KT1 := Lib.hid (KT0.out.below hb)
    have Hm1 := Lib.hid (Hm0.out.below hb)
    clear hb B0 KA0 KT0 Hm0
    obtain ⟨⟨cA0, cA1, cA2, cA3⟩, dA0, dA1, dA2, dA3⟩ := KA1.out.four
    obtain ⟨⟨cT0, cT1, cT2⟩, dT0, dT1, dT2⟩ := KT1.out.o3
    go_wp2_with fail
    clear cA0 cA1 cA2 cA3 dA0 dA1 dA2 dA3 cT0 cT1 cT2 dT0 dT1 dT2
    refine (C2.out _ Hm1.out).mono ?_
    rintro e v2 ⟨rfl, hb⟩
    have B2 := Lib.hid (B1.out.trans (hb.mono B1.out.size))
    have KA2 := Lib.hid (KA1.out.below hb)
    have KT2 := Lib.hid (KT1.out.below hb)
    have Hm2 := Lib.hid (Hm1.out.below hb)
    clear hb B1 KA1 KT1 Hm1
    obtain ⟨⟨cA0, cA1, cA2, cA3⟩, dA0, dA1, dA2, dA3⟩ := KA2.out.four
    obtain ⟨⟨cT0, cT1, cT2⟩, dT0, dT1, dT2⟩ := KT2.out.o3
    go_wp2_with fail
    go_ret
    exact ⟨ret_int (by first | rfl | omega), B2.out⟩

end Go.Proofs.YtobfgkiccmhgdaaGreat
