/- LinkOk, of both sides. Nothing here is a claim. -/
import Derived.Test.YtkkimgjcefojdaaLinkKit
import Derived.Test.YtkkimgjcefojdaaEntV
import Derived.Test.YtkkimgjcefojdaaEntT
namespace Go.Proofs.Ytkkimgjcefojdaa
open Go.RowKit Go.Lib

theorem wordOkI_E (x n : Int) (w : World) : Calls Try.prog 19 #[.int .i64 x, .int .i64 n] w (BoolE (wordOk x n) w) := (wordOkI x n w).mono fun _ _ h => ⟨h.1, by rw [← h.2]; exact Below.refl _ _⟩

set_option maxRecDepth 100000 in
set_option maxHeartbeats 4000000 in
theorem linkOkI (m ip : Int) (a : Option Addr) (cap : Nat) (rs : List ER) (w : World) (hrow : Row w w.heap.size a (ers rs)) (hl : rs.length ≤ 1048577) :
    Calls Try.prog 9 #[.agg #[.int .i64 m, .int .i64 ip, .slice a rs.length cap]] w (BoolE (linkOk m ip rs) w) := by
  have HR := Lib.hid hrow
  have C1 := Lib.hid (fun w => wordOkI_E m 48 w)
  have C2 := Lib.hid (fun w => wordOkI_E ip 32 w)
  have C3 := Lib.hid (fun w h => cacheOkI a cap rs w h hl)
  clear hrow hl
  unfold linkOk
  generalize wordOk m 48 = x at C1 ⊢
  generalize wordOk ip 32 = y at C2 ⊢
  generalize cacheOk rs = z at C3 ⊢
  cases x with
  | false =>
    rw [Bool.false_and]
    go_enter Try.func9, Try.ntmps9
    have B0 := Lib.hid (show Below w.heap.size w (w.alloc (.cells #[.int .i64 m, .int .i64 ip, .slice a rs.length cap] 29)) from ((Below.refl _ w).alloc (by simp) _))
    have Kl0 := Lib.hid (show Blk (w.alloc (.cells #[.int .i64 m, .int .i64 ip, .slice a rs.length cap] 29)) (w.heap.size) [.int .i64 m, .int .i64 ip, .slice a rs.length cap] from Blk.new w [.int .i64 m, .int .i64 ip, .slice a rs.length cap] 29)
    go_wp2_with fail
    change Calls _ _ _ (w.alloc (.cells #[.int .i64 m, .int .i64 ip, .slice a rs.length cap] 29)) _
    generalize w.alloc (.cells #[.int .i64 m, .int .i64 ip, .slice a rs.length cap] 29) = v0 at B0 Kl0 ⊢
    generalize w.heap.size = g_l at Kl0 ⊢
    refine (C1.out _).mono ?_
    rintro e v1 ⟨rfl, hb⟩
    have B1 := Lib.hid (B0.out.trans (hb.mono B0.out.size))
    have Kl1 := Lib.hid (Kl0.out.below hb)
    clear hb B0 Kl0
    obtain ⟨⟨cl0, cl1, cl2⟩, dl0, dl1, dl2⟩ := Kl1.out.o3
    go_wp2_with fail
    go_ret
    exact ⟨rfl, B1.out⟩
  | true =>
    rw [Bool.true_and]
    by_cases hm : m = 281474976710655
    · rw [decide_eq_false (fun h : m ≠ 281474976710655 => h hm), Bool.false_and]
      have hm' : (m != 281474976710655) = false := by simpa using hm
      clear hm
      go_enter Try.func9, Try.ntmps9
      have B0 := Lib.hid (show Below w.heap.size w (w.alloc (.cells #[.int .i64 m, .int .i64 ip, .slice a rs.length cap] 29)) from ((Below.refl _ w).alloc (by simp) _))
      have Kl0 := Lib.hid (show Blk (w.alloc (.cells #[.int .i64 m, .int .i64 ip, .slice a rs.length cap] 29)) (w.heap.size) [.int .i64 m, .int .i64 ip, .slice a rs.length cap] from Blk.new w [.int .i64 m, .int .i64 ip, .slice a rs.length cap] 29)
      go_wp2_with fail
      change Calls _ _ _ (w.alloc (.cells #[.int .i64 m, .int .i64 ip, .slice a rs.length cap] 29)) _
      generalize w.alloc (.cells #[.int .i64 m, .int .i64 ip, .slice a rs.length cap] 29) = v0 at B0 Kl0 ⊢
      generalize w.heap.size = g_l at Kl0 ⊢
      refine (C1.out _).mono ?_
      rintro e v1 ⟨rfl, hb⟩
      have B1 := Lib.hid (B0.out.trans (hb.mono B0.out.size))
      have Kl1 := Lib.hid (Kl0.out.below hb)
      clear hb B0 Kl0
      obtain ⟨⟨cl0, cl1, cl2⟩, dl0, dl1, dl2⟩ := Kl1.out.o3
      go_wp2_with fail
      go_ret
      exact ⟨rfl, B1.out⟩
    · rw [decide_eq_true (show m ≠ 281474976710655 from hm), Bool.true_and]
      have hm' : (m != 281474976710655) = true := by simpa using hm
      clear hm
      cases y with
      | false =>
        rw [Bool.false_and]
        go_enter Try.func9, Try.ntmps9
        have B0 := Lib.hid (show Below w.heap.size w (w.alloc (.cells #[.int .i64 m, .int .i64 ip, .slice a rs.length cap] 29)) from ((Below.refl _ w).alloc (by simp) _))
        have Kl0 := Lib.hid (show Blk (w.alloc (.cells #[.int .i64 m, .int .i64 ip, .slice a rs.length cap] 29)) (w.heap.size) [.int .i64 m, .int .i64 ip, .slice a rs.length cap] from Blk.new w [.int .i64 m, .int .i64 ip, .slice a rs.length cap] 29)
        go_wp2_with fail
        change Calls _ _ _ (w.alloc (.cells #[.int .i64 m, .int .i64 ip, .slice a rs.length cap] 29)) _
        generalize w.alloc (.cells #[.int .i64 m, .int .i64 ip, .slice a rs.length cap] 29) = v0 at B0 Kl0 ⊢
        generalize w.heap.size = g_l at Kl0 ⊢
        refine (C1.out _).mono ?_
        rintro e v1 ⟨rfl, hb⟩
        have B1 := Lib.hid (B0.out.trans (hb.mono B0.out.size))
        have Kl1 := Lib.hid (Kl0.out.below hb)
        clear hb B0 Kl0
        obtain ⟨⟨cl0, cl1, cl2⟩, dl0, dl1, dl2⟩ := Kl1.out.o3
        go_wp2_with fail
        clear cl0 cl1 cl2 dl0 dl1 dl2
        refine (C2.out _).mono ?_
        rintro e v2 ⟨rfl, hb⟩
        have B2 := Lib.hid (B1.out.trans (hb.mono B1.out.size))
        have Kl2 := Lib.hid (Kl1.out.below hb)
        clear hb B1 Kl1
        obtain ⟨⟨cl0, cl1, cl2⟩, dl0, dl1, dl2⟩ := Kl2.out.o3
        go_wp2_with fail
        go_ret
        exact ⟨rfl, B2.out⟩
      | true =>
        rw [Bool.true_and]
        cases z with
        | false =>
          go_enter Try.func9, Try.ntmps9
          have B0 := Lib.hid (show Below w.heap.size w (w.alloc (.cells #[.int .i64 m, .int .i64 ip, .slice a rs.length cap] 29)) from ((Below.refl _ w).alloc (by simp) _))
          have Kl0 := Lib.hid (show Blk (w.alloc (.cells #[.int .i64 m, .int .i64 ip, .slice a rs.length cap] 29)) (w.heap.size) [.int .i64 m, .int .i64 ip, .slice a rs.length cap] from Blk.new w [.int .i64 m, .int .i64 ip, .slice a rs.length cap] 29)
          go_wp2_with fail
          change Calls _ _ _ (w.alloc (.cells #[.int .i64 m, .int .i64 ip, .slice a rs.length cap] 29)) _
          generalize w.alloc (.cells #[.int .i64 m, .int .i64 ip, .slice a rs.length cap] 29) = v0 at B0 Kl0 ⊢
          generalize w.heap.size = g_l at Kl0 ⊢
          refine (C1.out _).mono ?_
          rintro e v1 ⟨rfl, hb⟩
          have B1 := Lib.hid (B0.out.trans (hb.mono B0.out.size))
          have Kl1 := Lib.hid (Kl0.out.below hb)
          clear hb B0 Kl0
          obtain ⟨⟨cl0, cl1, cl2⟩, dl0, dl1, dl2⟩ := Kl1.out.o3
          go_wp2_with fail
          clear cl0 cl1 cl2 dl0 dl1 dl2
          refine (C2.out _).mono ?_
          rintro e v2 ⟨rfl, hb⟩
          have B2 := Lib.hid (B1.out.trans (hb.mono B1.out.size))
          have Kl2 := Lib.hid (Kl1.out.below hb)
          clear hb B1 Kl1
          obtain ⟨⟨cl0, cl1, cl2⟩, dl0, dl1, dl2⟩ := Kl2.out.o3
          go_wp2_with fail
          clear cl0 cl1 cl2 dl0 dl1 dl2
          refine (C3.out _ ((HR.out.below B2.out).mono B2.out.size)).mono ?_
          rintro e v3 ⟨rfl, hb⟩
          have B3 := Lib.hid (B2.out.trans (hb.mono B2.out.size))
          have Kl3 := Lib.hid (Kl2.out.below hb)
          clear hb B2 Kl2
          obtain ⟨⟨cl0, cl1, cl2⟩, dl0, dl1, dl2⟩ := Kl3.out.o3
          go_wp2_with fail
          go_ret
          exact ⟨rfl, B3.out⟩
        | true =>
          go_enter Try.func9, Try.ntmps9
          have B0 := Lib.hid (show Below w.heap.size w (w.alloc (.cells #[.int .i64 m, .int .i64 ip, .slice a rs.length cap] 29)) from ((Below.refl _ w).alloc (by simp) _))
          have Kl0 := Lib.hid (show Blk (w.alloc (.cells #[.int .i64 m, .int .i64 ip, .slice a rs.length cap] 29)) (w.heap.size) [.int .i64 m, .int .i64 ip, .slice a rs.length cap] from Blk.new w [.int .i64 m, .int .i64 ip, .slice a rs.length cap] 29)
          go_wp2_with fail
          change Calls _ _ _ (w.alloc (.cells #[.int .i64 m, .int .i64 ip, .slice a rs.length cap] 29)) _
          generalize w.alloc (.cells #[.int .i64 m, .int .i64 ip, .slice a rs.length cap] 29) = v0 at B0 Kl0 ⊢
          generalize w.heap.size = g_l at Kl0 ⊢
          refine (C1.out _).mono ?_
          rintro e v1 ⟨rfl, hb⟩
          have B1 := Lib.hid (B0.out.trans (hb.mono B0.out.size))
          have Kl1 := Lib.hid (Kl0.out.below hb)
          clear hb B0 Kl0
          obtain ⟨⟨cl0, cl1, cl2⟩, dl0, dl1, dl2⟩ := Kl1.out.o3
          go_wp2_with fail
          clear cl0 cl1 cl2 dl0 dl1 dl2
          refine (C2.out _).mono ?_
          rintro e v2 ⟨rfl, hb⟩
          have B2 := Lib.hid (B1.out.trans (hb.mono B1.out.size))
          have Kl2 := Lib.hid (Kl1.out.below hb)
          clear hb B1 Kl1
          obtain ⟨⟨cl0, cl1, cl2⟩, dl0, dl1, dl2⟩ := Kl2.out.o3
          go_wp2_with fail
          clear cl0 cl1 cl2 dl0 dl1 dl2
          refine (C3.out _ ((HR.out.below B2.out).mono B2.out.size)).mono ?_
          rintro e v3 ⟨rfl, hb⟩
          have B3 := Lib.hid (B2.out.trans (hb.mono B2.out.size))
          have Kl3 := Lib.hid (Kl2.out.below hb)
          clear hb B2 Kl2
          obtain ⟨⟨cl0, cl1, cl2⟩, dl0, dl1, dl2⟩ := Kl3.out.o3
          go_wp2_with fail
          go_ret
          exact ⟨rfl, B3.out⟩

set_option maxRecDepth 100000 in
set_option maxHeartbeats 4000000 in
theorem linkOkS (m ip : Int) (a : Option Addr) (cap : Nat) (rs : List ER) (w : World) (hrow : Row w w.heap.size a (ers rs)) (hl : rs.length ≤ 1048577) (hcap : rs.length ≤ cap) :
    Calls Try.prog 7 #[.agg #[.int .i64 m, .int .i64 ip, .slice a rs.length cap]] w (BoolE (linkOk m ip rs) w) := by
  have HR := Lib.hid hrow
  have C1 := Lib.hid (fun w => wordOkS_E m 48 w)
  have C2 := Lib.hid (fun w => wordOkS_E ip 32 w)
  have C3 := Lib.hid (fun w h => cacheOkS a cap rs w h hl hcap)
  clear hrow hl hcap
  unfold linkOk
  generalize wordOk m 48 = x at C1 ⊢
  generalize wordOk ip 32 = y at C2 ⊢
  generalize cacheOk rs = z at C3 ⊢
  cases x with
  | false =>
    rw [Bool.false_and]
    go_enter Try.func7, Try.ntmps7
    have B0 := Lib.hid (show Below w.heap.size w (w.alloc (.cells #[.int .i64 m, .int .i64 ip, .slice a rs.length cap] 29)) from ((Below.refl _ w).alloc (by simp) _))
    have Kl0 := Lib.hid (show Blk (w.alloc (.cells #[.int .i64 m, .int .i64 ip, .slice a rs.length cap] 29)) (w.heap.size) [.int .i64 m, .int .i64 ip, .slice a rs.length cap] from Blk.new w [.int .i64 m, .int .i64 ip, .slice a rs.length cap] 29)
    go_wp2_with fail
    change Calls _ _ _ (w.alloc (.cells #[.int .i64 m, .int .i64 ip, .slice a rs.length cap] 29)) _
    generalize w.alloc (.cells #[.int .i64 m, .int .i64 ip, .slice a rs.length cap] 29) = v0 at B0 Kl0 ⊢
    generalize w.heap.size = g_l at Kl0 ⊢
    refine (C1.out _).mono ?_
    rintro e v1 ⟨rfl, hb⟩
    have B1 := Lib.hid (B0.out.trans (hb.mono B0.out.size))
    have Kl1 := Lib.hid (Kl0.out.below hb)
    clear hb B0 Kl0
    obtain ⟨⟨cl0, cl1, cl2⟩, dl0, dl1, dl2⟩ := Kl1.out.o3
    go_wp2_with fail
    go_ret
    exact ⟨rfl, B1.out⟩
  | true =>
    rw [Bool.true_and]
    by_cases hm : m = 281474976710655
    · rw [decide_eq_false (fun h : m ≠ 281474976710655 => h hm), Bool.false_and]
      have hm' : (m != 281474976710655) = false := by simpa using hm
      clear hm
      go_enter Try.func7, Try.ntmps7
      have B0 := Lib.hid (show Below w.heap.size w (w.alloc (.cells #[.int .i64 m, .int .i64 ip, .slice a rs.length cap] 29)) from ((Below.refl _ w).alloc (by simp) _))
      have Kl0 := Lib.hid (show Blk (w.alloc (.cells #[.int .i64 m, .int .i64 ip, .slice a rs.length cap] 29)) (w.heap.size) [.int .i64 m, .int .i64 ip, .slice a rs.length cap] from Blk.new w [.int .i64 m, .int .i64 ip, .slice a rs.length cap] 29)
      go_wp2_with fail
      change Calls _ _ _ (w.alloc (.cells #[.int .i64 m, .int .i64 ip, .slice a rs.length cap] 29)) _
      generalize w.alloc (.cells #[.int .i64 m, .int .i64 ip, .slice a rs.length cap] 29) = v0 at B0 Kl0 ⊢
      generalize w.heap.size = g_l at Kl0 ⊢
      refine (C1.out _).mono ?_
      rintro e v1 ⟨rfl, hb⟩
      have B1 := Lib.hid (B0.out.trans (hb.mono B0.out.size))
      have Kl1 := Lib.hid (Kl0.out.below hb)
      clear hb B0 Kl0
      obtain ⟨⟨cl0, cl1, cl2⟩, dl0, dl1, dl2⟩ := Kl1.out.o3
      go_wp2_with fail
      go_ret
      exact ⟨rfl, B1.out⟩
    · rw [decide_eq_true (show m ≠ 281474976710655 from hm), Bool.true_and]
      have hm' : (m != 281474976710655) = true := by simpa using hm
      clear hm
      cases y with
      | false =>
        rw [Bool.false_and]
        go_enter Try.func7, Try.ntmps7
        have B0 := Lib.hid (show Below w.heap.size w (w.alloc (.cells #[.int .i64 m, .int .i64 ip, .slice a rs.length cap] 29)) from ((Below.refl _ w).alloc (by simp) _))
        have Kl0 := Lib.hid (show Blk (w.alloc (.cells #[.int .i64 m, .int .i64 ip, .slice a rs.length cap] 29)) (w.heap.size) [.int .i64 m, .int .i64 ip, .slice a rs.length cap] from Blk.new w [.int .i64 m, .int .i64 ip, .slice a rs.length cap] 29)
        go_wp2_with fail
        change Calls _ _ _ (w.alloc (.cells #[.int .i64 m, .int .i64 ip, .slice a rs.length cap] 29)) _
        generalize w.alloc (.cells #[.int .i64 m, .int .i64 ip, .slice a rs.length cap] 29) = v0 at B0 Kl0 ⊢
        generalize w.heap.size = g_l at Kl0 ⊢
        refine (C1.out _).mono ?_
        rintro e v1 ⟨rfl, hb⟩
        have B1 := Lib.hid (B0.out.trans (hb.mono B0.out.size))
        have Kl1 := Lib.hid (Kl0.out.below hb)
        clear hb B0 Kl0
        obtain ⟨⟨cl0, cl1, cl2⟩, dl0, dl1, dl2⟩ := Kl1.out.o3
        go_wp2_with fail
        clear cl0 cl1 cl2 dl0 dl1 dl2
        refine (C2.out _).mono ?_
        rintro e v2 ⟨rfl, hb⟩
        have B2 := Lib.hid (B1.out.trans (hb.mono B1.out.size))
        have Kl2 := Lib.hid (Kl1.out.below hb)
        clear hb B1 Kl1
        obtain ⟨⟨cl0, cl1, cl2⟩, dl0, dl1, dl2⟩ := Kl2.out.o3
        go_wp2_with fail
        go_ret
        exact ⟨rfl, B2.out⟩
      | true =>
        rw [Bool.true_and]
        cases z with
        | false =>
          go_enter Try.func7, Try.ntmps7
          have B0 := Lib.hid (show Below w.heap.size w (w.alloc (.cells #[.int .i64 m, .int .i64 ip, .slice a rs.length cap] 29)) from ((Below.refl _ w).alloc (by simp) _))
          have Kl0 := Lib.hid (show Blk (w.alloc (.cells #[.int .i64 m, .int .i64 ip, .slice a rs.length cap] 29)) (w.heap.size) [.int .i64 m, .int .i64 ip, .slice a rs.length cap] from Blk.new w [.int .i64 m, .int .i64 ip, .slice a rs.length cap] 29)
          go_wp2_with fail
          change Calls _ _ _ (w.alloc (.cells #[.int .i64 m, .int .i64 ip, .slice a rs.length cap] 29)) _
          generalize w.alloc (.cells #[.int .i64 m, .int .i64 ip, .slice a rs.length cap] 29) = v0 at B0 Kl0 ⊢
          generalize w.heap.size = g_l at Kl0 ⊢
          refine (C1.out _).mono ?_
          rintro e v1 ⟨rfl, hb⟩
          have B1 := Lib.hid (B0.out.trans (hb.mono B0.out.size))
          have Kl1 := Lib.hid (Kl0.out.below hb)
          clear hb B0 Kl0
          obtain ⟨⟨cl0, cl1, cl2⟩, dl0, dl1, dl2⟩ := Kl1.out.o3
          go_wp2_with fail
          clear cl0 cl1 cl2 dl0 dl1 dl2
          refine (C2.out _).mono ?_
          rintro e v2 ⟨rfl, hb⟩
          have B2 := Lib.hid (B1.out.trans (hb.mono B1.out.size))
          have Kl2 := Lib.hid (Kl1.out.below hb)
          clear hb B1 Kl1
          obtain ⟨⟨cl0, cl1, cl2⟩, dl0, dl1, dl2⟩ := Kl2.out.o3
          go_wp2_with fail
          clear cl0 cl1 cl2 dl0 dl1 dl2
          refine (C3.out _ ((HR.out.below B2.out).mono B2.out.size)).mono ?_
          rintro e v3 ⟨rfl, hb⟩
          have B3 := Lib.hid (B2.out.trans (hb.mono B2.out.size))
          have Kl3 := Lib.hid (Kl2.out.below hb)
          clear hb B2 Kl2
          obtain ⟨⟨cl0, cl1, cl2⟩, dl0, dl1, dl2⟩ := Kl3.out.o3
          go_wp2_with fail
          go_ret
          exact ⟨rfl, B3.out⟩
        | true =>
          go_enter Try.func7, Try.ntmps7
          have B0 := Lib.hid (show Below w.heap.size w (w.alloc (.cells #[.int .i64 m, .int .i64 ip, .slice a rs.length cap] 29)) from ((Below.refl _ w).alloc (by simp) _))
          have Kl0 := Lib.hid (show Blk (w.alloc (.cells #[.int .i64 m, .int .i64 ip, .slice a rs.length cap] 29)) (w.heap.size) [.int .i64 m, .int .i64 ip, .slice a rs.length cap] from Blk.new w [.int .i64 m, .int .i64 ip, .slice a rs.length cap] 29)
          go_wp2_with fail
          change Calls _ _ _ (w.alloc (.cells #[.int .i64 m, .int .i64 ip, .slice a rs.length cap] 29)) _
          generalize w.alloc (.cells #[.int .i64 m, .int .i64 ip, .slice a rs.length cap] 29) = v0 at B0 Kl0 ⊢
          generalize w.heap.size = g_l at Kl0 ⊢
          refine (C1.out _).mono ?_
          rintro e v1 ⟨rfl, hb⟩
          have B1 := Lib.hid (B0.out.trans (hb.mono B0.out.size))
          have Kl1 := Lib.hid (Kl0.out.below hb)
          clear hb B0 Kl0
          obtain ⟨⟨cl0, cl1, cl2⟩, dl0, dl1, dl2⟩ := Kl1.out.o3
          go_wp2_with fail
          clear cl0 cl1 cl2 dl0 dl1 dl2
          refine (C2.out _).mono ?_
          rintro e v2 ⟨rfl, hb⟩
          have B2 := Lib.hid (B1.out.trans (hb.mono B1.out.size))
          have Kl2 := Lib.hid (Kl1.out.below hb)
          clear hb B1 Kl1
          obtain ⟨⟨cl0, cl1, cl2⟩, dl0, dl1, dl2⟩ := Kl2.out.o3
          go_wp2_with fail
          clear cl0 cl1 cl2 dl0 dl1 dl2
          refine (C3.out _ ((HR.out.below B2.out).mono B2.out.size)).mono ?_
          rintro e v3 ⟨rfl, hb⟩
          have B3 := Lib.hid (B2.out.trans (hb.mono B2.out.size))
          have Kl3 := Lib.hid (Kl2.out.below hb)
          clear hb B2 Kl2
          obtain ⟨⟨cl0, cl1, cl2⟩, dl0, dl1, dl2⟩ := Kl3.out.o3
          go_wp2_with fail
          go_ret
          exact ⟨rfl, B3.out⟩
end Go.Proofs.Ytkkimgjcefojdaa
