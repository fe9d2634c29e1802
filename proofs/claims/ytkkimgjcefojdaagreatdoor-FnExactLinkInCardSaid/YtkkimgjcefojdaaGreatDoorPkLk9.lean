/- Texts of a proof that belong together, joined. Nothing here is a claim. -/
import Derived.Test.YtkkimgjcefojdaaGreatDoorPkLk6
import Derived.Test.YtkkimgjcefojdaaGreatDoorPkLk8
namespace Go.Proofs.YtkkimgjcefojdaaGreatDoor
open Go.RowKit Go.Lib

theorem wordOkI_E (x n : Int) (w : World) : Calls Tryz.prog 41 #[.int .i64 x, .int .i64 n] w (BoolE (wordOk x n) w) := (wordOkI x n w).mono fun _ _ h => ⟨h.1, by rw [← h.2]; exact Below.refl _ _⟩

set_option maxRecDepth 100000 in
set_option maxHeartbeats 4000000 in
theorem linkOkI (m ip : Int) (a : Option Addr) (cap : Nat) (rs : List ER) (w : World) (hrow : Row w w.heap.size a (ers rs)) (hl : rs.length ≤ 1048577) :
  Calls Tryz.prog 13 #[.agg #[.int .i64 m, .int .i64 ip, .slice a rs.length cap]] w (BoolE (linkOk m ip rs) w) := by
 have HR := Lib.hid hrow
 have C1 := Lib.hid (fun w => wordOkI_E m 48 w)
 have C2 := Lib.hid (fun w => wordOkI_E ip 32 w)
 have C3 := Lib.hid (fun w h => cacheOkI a cap rs w h hl)
 clear hrow hl
 unfold linkOk
 generalize wordOk m 48 = x at C1 ⊢
 generalize wordOk ip 32 = y at C2 ⊢
 generalize cacheOk rs = z at C3 ⊢
 cases x with
 | false =>
  rw [Bool.false_and]
  go_enter Tryz.func13, Tryz.ntmps13
  have B0 := Lib.hid (show Below w.heap.size w (w.alloc (.cells #[.int .i64 m, .int .i64 ip, .slice a rs.length cap] 26)) from ((Below.refl _ w).alloc (by simp) _))
  have Kl0 := Lib.hid (show Blk (w.alloc (.cells #[.int .i64 m, .int .i64 ip, .slice a rs.length cap] 26)) (w.heap.size) [.int .i64 m, .int .i64 ip, .slice a rs.length cap] from Blk.new w [.int .i64 m, .int .i64 ip, .slice a rs.length cap] 26)
  go_wp2_with fail
  change Calls _ _ _ (w.alloc (.cells #[.int .i64 m, .int .i64 ip, .slice a rs.length cap] 26)) _
  generalize w.alloc (.cells #[.int .i64 m, .int .i64 ip, .slice a rs.length cap] 26) = v0 at B0 Kl0 ⊢
  generalize w.heap.size = g_l at Kl0 ⊢
  refine (C1.out _).mono ?_
  rintro e v1 ⟨rfl, hb⟩
  have B1 := Lib.hid (B0.out.trans (hb.mono B0.out.size))
  have Kl1 := Lib.hid (Kl0.out.below hb)
  clear hb B0 Kl0
  obtain ⟨⟨cl0, cl1, cl2⟩, dl0, dl1, dl2⟩ := Kl1.out.o3
  go_wp2_with fail
  go_ret
  exact ⟨rfl, B1.out⟩
 | true =>
  rw [Bool.true_and]
  by_cases hm : m = 281474976710655
  ·rw [decide_eq_false (fun h : m ≠ 281474976710655 => h hm), Bool.false_and]
   have hm' : (m != 281474976710655) = false := by simpa using hm
   clear hm
   go_enter Tryz.func13, Tryz.ntmps13
   have B0 := Lib.hid (show Below w.heap.size w (w.alloc (.cells #[.int .i64 m, .int .i64 ip, .slice a rs.length cap] 26)) from ((Below.refl _ w).alloc (by simp) _))
   have Kl0 := Lib.hid (show Blk (w.alloc (.cells #[.int .i64 m, .int .i64 ip, .slice a rs.length cap] 26)) (w.heap.size) [.int .i64 m, .int .i64 ip, .slice a rs.length cap] from Blk.new w [.int .i64 m, .int .i64 ip, .slice a rs.length cap] 26)
   go_wp2_with fail
   change Calls _ _ _ (w.alloc (.cells #[.int .i64 m, .int .i64 ip, .slice a rs.length cap] 26)) _
   generalize w.alloc (.cells #[.int .i64 m, .int .i64 ip, .slice a rs.length cap] 26) = v0 at B0 Kl0 ⊢
   generalize w.heap.size = g_l at Kl0 ⊢
   refine (C1.out _).mono ?_
   rintro e v1 ⟨rfl, hb⟩
   have B1 := Lib.hid (B0.out.trans (hb.mono B0.out.size))
   have Kl1 := Lib.hid (Kl0.out.below hb)
   clear hb B0 Kl0
   obtain ⟨⟨cl0, cl1, cl2⟩, dl0, dl1, dl2⟩ := Kl1.out.o3
   go_wp2_with fail
   go_ret
   exact ⟨rfl, B1.out⟩
  ·rw [decide_eq_true (show m ≠ 281474976710655 from hm), Bool.true_and]
   have hm' : (m != 281474976710655) = true := by simpa using hm
   clear hm
   cases y with
   | false =>
    rw [Bool.false_and]
    go_enter Tryz.func13, Tryz.ntmps13
    have B0 := Lib.hid (show Below w.heap.size w (w.alloc (.cells #[.int .i64 m, .int .i64 ip, .slice a rs.length cap] 26)) from ((Below.refl _ w).alloc (by simp) _))
    have Kl0 := Lib.hid (show Blk (w.alloc (.cells #[.int .i64 m, .int .i64 ip, .slice a rs.length cap] 26)) (w.heap.size) [.int .i64 m, .int .i64 ip, .slice a rs.length cap] from Blk.new w [.int .i64 m, .int .i64 ip, .slice a rs.length cap] 26)
    go_wp2_with fail
    change Calls _ _ _ (w.alloc (.cells #[.int .i64 m, .int .i64 ip, .slice a rs.length cap] 26)) _
    generalize w.alloc (.cells #[.int .i64 m, .int .i64 ip, .slice a rs.length cap] 26) = v0 at B0 Kl0 ⊢
    generalize w.heap.size = g_l at Kl0 ⊢
    refine (C1.out _).mono ?_
    rintro e v1 ⟨rfl, hb⟩
    have B1 := Lib.hid (B0.out.trans (hb.mono B0.out.size))
    have Kl1 := Lib.hid (Kl0.out.below hb)
    clear hb B0 Kl0
    obtain ⟨⟨cl0, cl1, cl2⟩, dl0, dl1, dl2⟩ := Kl1.out.o3
    go_wp2_with fail
    clear cl0 cl1 cl2 dl0 dl1 dl2
    refine (C2.out _).mono ?_
    rintro e v2 ⟨rfl, hb⟩
    have B2 := Lib.hid (B1.out.trans (hb.mono B1.out.size))
    have Kl2 := Lib.hid (Kl1.out.below hb)
    clear hb B1 Kl1
    obtain ⟨⟨cl0, cl1, cl2⟩, dl0, dl1, dl2⟩ := Kl2.out.o3
    go_wp2_with fail
    go_ret
    exact ⟨rfl, B2.out⟩
   | true =>
    rw [Bool.true_and]
    cases z with
    | false =>
     go_enter Tryz.func13, Tryz.ntmps13
     have B0 := Lib.hid (show Below w.heap.size w (w.alloc (.cells #[.int .i64 m, .int .i64 ip, .slice a rs.length cap] 26)) from ((Below.refl _ w).alloc (by simp) _))
     have Kl0 := Lib.hid (show Blk (w.alloc (.cells #[.int .i64 m, .int .i64 ip, .slice a rs.length cap] 26)) (w.heap.size) [.int .i64 m, .int .i64 ip, .slice a rs.length cap] from Blk.new w [.int .i64 m, .int .i64 ip, .slice a rs.length cap] 26)
     go_wp2_with fail
     change Calls _ _ _ (w.alloc (.cells #[.int .i64 m, .int .i64 ip, .slice a rs.length cap] 26)) _
     generalize w.alloc (.cells #[.int .i64 m, .int .i64 ip, .slice a rs.length cap] 26) = v0 at B0 Kl0 ⊢
     generalize w.heap.size = g_l at Kl0 ⊢
     refine (C1.out _).mono ?_
     rintro e v1 ⟨rfl, hb⟩
     have B1 := Lib.hid (B0.out.trans (hb.mono B0.out.size))
     have Kl1 := Lib.hid (Kl0.out.below hb)
     clear hb B0 Kl0
     obtain ⟨⟨cl0, cl1, cl2⟩, dl0, dl1, dl2⟩ := Kl1.out.o3
     go_wp2_with fail
     clear cl0 cl1 cl2 dl0 dl1 dl2
     refine (C2.out _).mono ?_
     rintro e v2 ⟨rfl, hb⟩
     have B2 := Lib.hid (B1.out.trans (hb.mono B1.out.size))
     have Kl2 := Lib.hid (Kl1.out.below hb)
     clear hb B1 Kl1
     obtain ⟨⟨cl0, cl1, cl2⟩, dl0, dl1, dl2⟩ := Kl2.out.o3
     go_wp2_with fail
     clear cl0 cl1 cl2 dl0 dl1 dl2
     refine (C3.out _ ((HR.out.below B2.out).mono B2.out.size)).mono ?_
     rintro e v3 ⟨rfl, hb⟩
     have B3 := Lib.hid (B2.out.trans (hb.mono B2.out.size))
     have Kl3 := Lib.hid (Kl2.out.below hb)
     clear hb B2 Kl2
     obtain ⟨⟨cl0, cl1, cl2⟩, dl0, dl1, dl2⟩ := Kl3.out.o3
     go_wp2_with fail
     go_ret
     exact ⟨rfl, B3.out⟩
    | true =>
     go_enter Tryz.func13, Tryz.ntmps13
     have B0 := Lib.hid (show Below w.heap.size w (w.alloc (.cells #[.int .i64 m, .int .i64 ip, .slice a rs.length cap] 26)) from ((Below.refl _ w).alloc (by simp) _))
     have Kl0 := Lib.hid (show Blk (w.alloc (.cells #[.int .i64 m, .int .i64 ip, .slice a rs.length cap] 26)) (w.heap.size) [.int .i64 m, .int .i64 ip, .slice a rs.length cap] from Blk.new w [.int .i64 m, .int .i64 ip, .slice a rs.length cap] 26)
     go_wp2_with fail
     change Calls _ _ _ (w.alloc (.cells #[.int .i64 m, .int .i64 ip, .slice a rs.length cap] 26)) _
     generalize w.alloc (.cells #[.int .i64 m, .int .i64 ip, .slice a rs.length cap] 26) = v0 at B0 Kl0 ⊢
     generalize w.heap.size = g_l at Kl0 ⊢
     refine (C1.out _).mono ?_
     rintro e v1 ⟨rfl, hb⟩
     have B1 := Lib.hid (B0.out.trans (hb.mono B0.out.size))
     have Kl1 := Lib.hid (Kl0.out.below hb)
     clear hb B0 Kl0
     obtain ⟨⟨cl0, cl1, cl2⟩, dl0, dl1, dl2⟩ := Kl1.out.o3
     go_wp2_with fail
     clear cl0 cl1 cl2 dl0 dl1 dl2
     refine (C2.out _).mono ?_
     rintro e v2 ⟨rfl, hb⟩
     have B2 := Lib.hid (B1.out.trans (hb.mono B1.out.size))
     have Kl2 := Lib.hid (Kl1.out.below hb)
     clear hb B1 Kl1
     obtain ⟨⟨cl0, cl1, cl2⟩, dl0, dl1, dl2⟩ := Kl2.out.o3
     go_wp2_with fail
     clear cl0 cl1 cl2 dl0 dl1 dl2
     refine (C3.out _ ((HR.out.below B2.out).mono B2.out.size)).mono ?_
     rintro e v3 ⟨rfl, hb⟩
     have B3 := Lib.hid (B2.out.trans (hb.mono B2.out.size))
     have Kl3 := Lib.hid (Kl2.out.below hb)
     clear hb B2 Kl2
     obtain ⟨⟨cl0, cl1, cl2⟩, dl0, dl1, dl2⟩ := Kl3.out.o3
     go_wp2_with fail
     go_ret
     exact ⟨rfl, B3.out⟩

set_option maxRecDepth 100000 in
set_option maxHeartbeats 4000000 in
theorem linkOkS (m ip : Int) (a : Option Addr) (cap : Nat) (rs : List ER) (w : World) (hrow : Row w w.heap.size a (ers rs)) (hl : rs.length ≤ 1048577) (hcap : rs.length ≤ cap) :
  Calls Tryz.prog 15 #[.agg #[.int .i64 m, .int .i64 ip, .slice a rs.length cap]] w (BoolE (linkOk m ip rs) w) := by
 have HR := Lib.hid hrow
 have C1 := Lib.hid (fun w => wordOkS_E m 48 w)
 have C2 := Lib.hid (fun w => wordOkS_E ip 32 w)
 have C3 := Lib.hid (fun w h => cacheOkS a cap rs w h hl hcap)
 clear hrow hl hcap
 unfold linkOk
 generalize wordOk m 48 = x at C1 ⊢
 generalize wordOk ip 32 = y at C2 ⊢
 generalize cacheOk rs = z at C3 ⊢
 cases x with
 | false =>
  rw [Bool.false_and]
  go_enter Tryz.func15, Tryz.ntmps15
  have B0 := Lib.hid (show Below w.heap.size w (w.alloc (.cells #[.int .i64 m, .int .i64 ip, .slice a rs.length cap] 26)) from ((Below.refl _ w).alloc (by simp) _))
  have Kl0 := Lib.hid (show Blk (w.alloc (.cells #[.int .i64 m, .int .i64 ip, .slice a rs.length cap] 26)) (w.heap.size) [.int .i64 m, .int .i64 ip, .slice a rs.length cap] from Blk.new w [.int .i64 m, .int .i64 ip, .slice a rs.length cap] 26)
  go_wp2_with fail
  change Calls _ _ _ (w.alloc (.cells #[.int .i64 m, .int .i64 ip, .slice a rs.length cap] 26)) _
  generalize w.alloc (.cells #[.int .i64 m, .int .i64 ip, .slice a rs.length cap] 26) = v0 at B0 Kl0 ⊢
  generalize w.heap.size = g_l at Kl0 ⊢
  refine (C1.out _).mono ?_
  rintro e v1 ⟨rfl, hb⟩
  have B1 := Lib.hid (B0.out.trans (hb.mono B0.out.size))
  have Kl1 := Lib.hid (Kl0.out.below hb)
  clear hb B0 Kl0
  obtain ⟨⟨cl0, cl1, cl2⟩, dl0, dl1, dl2⟩ := Kl1.out.o3
  go_wp2_with fail
  go_ret
  exact ⟨rfl, B1.out⟩
 | true =>
  rw [Bool.true_and]
  by_cases hm : m = 281474976710655
  ·rw [decide_eq_false (fun h : m ≠ 281474976710655 => h hm), Bool.false_and]
   have hm' : (m != 281474976710655) = false := by simpa using hm
   clear hm
   go_enter Tryz.func15, Tryz.ntmps15
   have B0 := Lib.hid (show Below w.heap.size w (w.alloc (.cells #[.int .i64 m, .int .i64 ip, .slice a rs.length cap] 26)) from ((Below.refl _ w).alloc (by simp) _))
   have Kl0 := Lib.hid (show Blk (w.alloc (.cells #[.int .i64 m, .int .i64 ip, .slice a rs.length cap] 26)) (w.heap.size) [.int .i64 m, .int .i64 ip, .slice a rs.length cap] from Blk.new w [.int .i64 m, .int .i64 ip, .slice a rs.length cap] 26)
   go_wp2_with fail
   change Calls _ _ _ (w.alloc (.cells #[.int .i64 m, .int .i64 ip, .slice a rs.length cap] 26)) _
   generalize w.alloc (.cells #[.int .i64 m, .int .i64 ip, .slice a rs.length cap] 26) = v0 at B0 Kl0 ⊢
   generalize w.heap.size = g_l at Kl0 ⊢
   refine (C1.out _).mono ?_
   rintro e v1 ⟨rfl, hb⟩
   have B1 := Lib.hid (B0.out.trans (hb.mono B0.out.size))
   have Kl1 := Lib.hid (Kl0.out.below hb)
   clear hb B0 Kl0
   obtain ⟨⟨cl0, cl1, cl2⟩, dl0, dl1, dl2⟩ := Kl1.out.o3
   go_wp2_with fail
   go_ret
   exact ⟨rfl, B1.out⟩
  ·rw [decide_eq_true (show m ≠ 281474976710655 from hm), Bool.true_and]
   have hm' : (m != 281474976710655) = true := by simpa using hm
   clear hm
   cases y with
   | false =>
    rw [Bool.false_and]
    go_enter Tryz.func15, Tryz.ntmps15
    have B0 := Lib.hid (show Below w.heap.size w (w.alloc (.cells #[.int .i64 m, .int .i64 ip, .slice a rs.length cap] 26)) from ((Below.refl _ w).alloc (by simp) _))
    have Kl0 := Lib.hid (show Blk (w.alloc (.cells #[.int .i64 m, .int .i64 ip, .slice a rs.length cap] 26)) (w.heap.size) [.int .i64 m, .int .i64 ip, .slice a rs.length cap] from Blk.new w [.int .i64 m, .int .i64 ip, .slice a rs.length cap] 26)
    go_wp2_with fail
    change Calls _ _ _ (w.alloc (.cells #[.int .i64 m, .int .i64 ip, .slice a rs.length cap] 26)) _
    generalize w.alloc (.cells #[.int .i64 m, .int .i64 ip, .slice a rs.length cap] 26) = v0 at B0 Kl0 ⊢
    generalize w.heap.size = g_l at Kl0 ⊢
    refine (C1.out _).mono ?_
    rintro e v1 ⟨rfl, hb⟩
    have B1 := Lib.hid (B0.out.trans (hb.mono B0.out.size))
    have Kl1 := Lib.hid (Kl0.out.below hb)
    clear hb B0 Kl0
    obtain ⟨⟨cl0, cl1, cl2⟩, dl0, dl1, dl2⟩ := Kl1.out.o3
    go_wp2_with fail
    clear cl0 cl1 cl2 dl0 dl1 dl2
    refine (C2.out _).mono ?_
    rintro e v2 ⟨rfl, hb⟩
    have B2 := Lib.hid (B1.out.trans (hb.mono B1.out.size))
    have Kl2 := Lib.hid (Kl1.out.below hb)
    clear hb B1 Kl1
    obtain ⟨⟨cl0, cl1, cl2⟩, dl0, dl1, dl2⟩ := Kl2.out.o3
    go_wp2_with fail
    go_ret
    exact ⟨rfl, B2.out⟩
   | true =>
    rw [Bool.true_and]
    cases z with
    | false =>
     go_enter Tryz.func15, Tryz.ntmps15
     have B0 := Lib.hid (show Below w.heap.size w (w.alloc (.cells #[.int .i64 m, .int .i64 ip, .slice a rs.length cap] 26)) from ((Below.refl _ w).alloc (by simp) _))
     have Kl0 := Lib.hid (show Blk (w.alloc (.cells #[.int .i64 m, .int .i64 ip, .slice a rs.length cap] 26)) (w.heap.size) [.int .i64 m, .int .i64 ip, .slice a rs.length cap] from Blk.new w [.int .i64 m, .int .i64 ip, .slice a rs.length cap] 26)
     go_wp2_with fail
     change Calls _ _ _ (w.alloc (.cells #[.int .i64 m, .int .i64 ip, .slice a rs.length cap] 26)) _
     generalize w.alloc (.cells #[.int .i64 m, .int .i64 ip, .slice a rs.length cap] 26) = v0 at B0 Kl0 ⊢
     generalize w.heap.size = g_l at Kl0 ⊢
     refine (C1.out _).mono ?_
     rintro e v1 ⟨rfl, hb⟩
     have B1 := Lib.hid (B0.out.trans (hb.mono B0.out.size))
     have Kl1 := Lib.hid (Kl0.out.below hb)
     clear hb B0 Kl0
     obtain ⟨⟨cl0, cl1, cl2⟩, dl0, dl1, dl2⟩ := Kl1.out.o3
     go_wp2_with fail
     clear cl0 cl1 cl2 dl0 dl1 dl2
     refine (C2.out _).mono ?_
     rintro e v2 ⟨rfl, hb⟩
     have B2 := Lib.hid (B1.out.trans (hb.mono B1.out.size))
     have Kl2 := Lib.hid (Kl1.out.below hb)
     clear hb B1 Kl1
     obtain ⟨⟨cl0, cl1, cl2⟩, dl0, dl1, dl2⟩ := Kl2.out.o3
     go_wp2_with fail
     clear cl0 cl1 cl2 dl0 dl1 dl2
     refine (C3.out _ ((HR.out.below B2.out).mono B2.out.size)).mono ?_
     rintro e v3 ⟨rfl, hb⟩
     have B3 := Lib.hid (B2.out.trans (hb.mono B2.out.size))
     have Kl3 := Lib.hid (Kl2.out.below hb)
     clear hb B2 Kl2
     obtain ⟨⟨cl0, cl1, cl2⟩, dl0, dl1, dl2⟩ := Kl3.out.o3
     go_wp2_with fail
     go_ret
     exact ⟨rfl, B3.out⟩
    | true =>
     go_enter Tryz.func15, Tryz.ntmps15
     have B0 := Lib.hid (show Below w.heap.size w (w.alloc (.cells #[.int .i64 m, .int .i64 ip, .slice a rs.length cap] 26)) from ((Below.refl _ w).alloc (by simp) _))
     have Kl0 := Lib.hid (show Blk (w.alloc (.cells #[.int .i64 m, .int .i64 ip, .slice a rs.length cap] 26)) (w.heap.size) [.int .i64 m, .int .i64 ip, .slice a rs.length cap] from Blk.new w [.int .i64 m, .int .i64 ip, .slice a rs.length cap] 26)
     go_wp2_with fail
     change Calls _ _ _ (w.alloc (.cells #[.int .i64 m, .int .i64 ip, .slice a rs.length cap] 26)) _
     generalize w.alloc (.cells #[.int .i64 m, .int .i64 ip, .slice a rs.length cap] 26) = v0 at B0 Kl0 ⊢
     generalize w.heap.size = g_l at Kl0 ⊢
     refine (C1.out _).mono ?_
     rintro e v1 ⟨rfl, hb⟩
     have B1 := Lib.hid (B0.out.trans (hb.mono B0.out.size))
     have Kl1 := Lib.hid (Kl0.out.below hb)
     clear hb B0 Kl0
     obtain ⟨⟨cl0, cl1, cl2⟩, dl0, dl1, dl2⟩ := Kl1.out.o3
     go_wp2_with fail
     clear cl0 cl1 cl2 dl0 dl1 dl2
     refine (C2.out _).mono ?_
     rintro e v2 ⟨rfl, hb⟩
     have B2 := Lib.hid (B1.out.trans (hb.mono B1.out.size))
     have Kl2 := Lib.hid (Kl1.out.below hb)
     clear hb B1 Kl1
     obtain ⟨⟨cl0, cl1, cl2⟩, dl0, dl1, dl2⟩ := Kl2.out.o3
     go_wp2_with fail
     clear cl0 cl1 cl2 dl0 dl1 dl2
     refine (C3.out _ ((HR.out.below B2.out).mono B2.out.size)).mono ?_
     rintro e v3 ⟨rfl, hb⟩
     have B3 := Lib.hid (B2.out.trans (hb.mono B2.out.size))
     have Kl3 := Lib.hid (Kl2.out.below hb)
     clear hb B2 Kl2
     obtain ⟨⟨cl0, cl1, cl2⟩, dl0, dl1, dl2⟩ := Kl3.out.o3
     go_wp2_with fail
     go_ret
     exact ⟨rfl, B3.out⟩
end Go.Proofs.YtkkimgjcefojdaaGreatDoor
namespace Go.Proofs.YtkkimgjcefojdaaGreatDoor
open Go.RowKit Go.Extern.Stop Go.Stop Go.Extern

theorem is_typeOf (v : Value) (w : World) : (Extern.ReflectliteType.typeOf #[.iface 168 v]).run Tryz.prog w = .ok (.iface 132 (.agg #[.pointer (some ⟨2, 168, none⟩)])) w := by kernel_rfl
theorem is_comparable (w : World) : ((Extern.ReflectliteType.method fun t => do Extern.Rtype.noPackHeld "Comparable" t; (fun a => Value.bool a.comparable) <$> typeInfo t) #[.agg #[.pointer (some ⟨2, 168, none⟩)]]).run Tryz.prog w = .ok (.bool true) w := by kernel_rfl
theorem is_methodC (v : Value) (w : World) : (Go.method 300 132 v "Comparable").run Tryz.prog w = .ok (151, v) w := by kernel_rfl
theorem is_comp : (Tryz.prog.info? 168).map (·.comparable) = some true := by kernel_rfl
theorem is_size : (Tryz.prog.info? 189).map (·.size) = some 1 := by kernel_rfl
set_option maxRecDepth 100000 in
/-- errors.Is(x, x), x a pointer to an errors.errorString. -/
theorem is_same (a : Addr) (w : World) :
  Calls Tryz.prog 30 #[.iface 168 (.pointer (some a)), .iface 168 (.pointer (some a))] w fun e w' => e = .returned (.bool true) ∧ w' = w := by
 obtain ⟨i, hi, hcmp⟩ := Option.map_eq_some_iff.1 is_comp
 obtain ⟨j, hj, _⟩ := Option.map_eq_some_iff.1 is_size
 have h8 := @run_callFunc_extern Tryz.prog 73 _ Extern.ReflectliteType.typeOf Tryz.func73 (by kernel_rfl) (by kernel_rfl) (by kernel_rfl) (by kernel_rfl)
 have h32 := @run_callFunc_extern Tryz.prog 151 _ (Extern.ReflectliteType.method fun t => do Extern.Rtype.noPackHeld "Comparable" t; pure (.bool (← typeInfo t).comparable)) Tryz.func151 (by kernel_rfl) (by kernel_rfl) (by kernel_rfl) (by kernel_rfl)
 have tT := is_typeOf
 have cT := is_comparable
 have mR := is_methodC
 have heq := run_eql_iface_ptr_same (P := Tryz.prog) w a Tryz.underlying60 Tryz.underlying168 hi hcmp hj
 go_enter Tryz.func30, Tryz.ntmps30
 go_wp2
 refine wp_loop_rounds 1 ?_
 rw [rounds_succ]
 go_wp2
 go_ret
 exact ⟨rfl, rfl⟩

set_option maxRecDepth 100000 in
/-- errors.Is(nil, x). -/
theorem is_nil (b : Addr) (w : World) :
  Calls Tryz.prog 30 #[.nilIface, .iface 168 (.pointer (some b))] w fun e w' => e = .returned (.bool false) ∧ w' = w := by
 have hn := run_eql_iface_nil_left (P := Tryz.prog) w 168 (.pointer (some b)) Tryz.underlying60
 go_enter Tryz.func30, Tryz.ntmps30
 go_wp2
 go_ret
 exact ⟨rfl, rfl⟩

/-- The sentinel stands in its variable. -/
def Sent (x : Addr) (w : World) : Prop := w.cell? ⟨0, 0, none⟩ = some (.iface 168 (.pointer (some x)))
theorem Sent.below {x : Addr} {B : Nat} {w w' : World} (h : Sent x w) (hb : Below B w w') (hB : 0 < B) : Sent x w' :=
 (hb.cell (p := ⟨0, 0, none⟩) hB).trans h
theorem Sent.lt {x : Addr} {w : World} (h : Sent x w) : 0 < w.heap.size := World.block_lt_of_cell? w _ h
end Go.Proofs.YtkkimgjcefojdaaGreatDoor
