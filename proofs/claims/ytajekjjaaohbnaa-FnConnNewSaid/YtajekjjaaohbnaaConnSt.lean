/- MssFor and StateWord of both sides. Nothing here is a claim. -/
import Derived.Test.YtajekjjaaohbnaaConnKit
import Derived.Test.YtajekjjaaohbnaaSndPos
import Derived.Test.YtajekjjaaohbnaaRcvOkS
import Derived.Test.YtajekjjaaohbnaaCurA
namespace Go.Proofs.Ytajekjjaaohbnaa
open Go.RowKit Go.Lib

/-- What MssFor answers. -/
def mssF (m : Int) : Int := if m = 0 then 536 else max 1 (min 1460 m)

set_option maxRecDepth 100000 in
set_option maxHeartbeats 4000000 in
theorem mssForI (p q r st u : Int) (d : ByteArray) (t : Int) (f g h : Bool) (n : Int) (y : ByteArray) (a : Option Addr) (cap : Nat) (rs : List HP) (fi : Int) (z : Bool) (wi mo m c : Int) (k s : Bool) (v x ti tr : Int) (w : World) :
    Calls Try.prog 20 #[.agg #[.int .i64 p, .int .i64 q, .int .i64 r, .int .i64 st, .int .i64 u, .string d, .int .i64 t, .bool f, .bool g, .bool h, .int .i64 n, .string y, .slice a rs.length cap, .int .i64 fi, .bool z, .int .i64 wi, .int .i64 mo, .int .i64 m, .int .i64 c, .bool k, .bool s, .int .i64 v, .int .i64 x, .int .i64 ti, .int .i64 tr]] w (SndI (mssF m) w) := by
  unfold mssF
  by_cases h0 : m = 0
  · subst h0
    rw [if_pos rfl]
    go_enter Try.func20, Try.ntmps20
    go_wp2_with fail
    go_ret
    exact ⟨rfl, (Below.refl _ _).alloc (Nat.le_refl _) _⟩
  rw [if_neg h0, show max 1 (min 1460 m) = min (max m 1) 1460 by omega]
  go_enter Try.func20, Try.ntmps20
  go_wp2_with fail
  go_ret
  exact ⟨rfl, (Below.refl _ _).alloc (Nat.le_refl _) _⟩

set_option maxRecDepth 100000 in
set_option maxHeartbeats 4000000 in
theorem mssForS (p q r st u : Int) (d : ByteArray) (t : Int) (f g h : Bool) (n : Int) (y : ByteArray) (a : Option Addr) (cap : Nat) (rs : List HP) (fi : Int) (z : Bool) (wi mo m c : Int) (k s : Bool) (v x ti tr : Int) (w : World) :
    Calls Try.prog 34 #[.agg #[.int .i64 p, .int .i64 q, .int .i64 r, .int .i64 st, .int .i64 u, .string d, .int .i64 t, .bool f, .bool g, .bool h, .int .i64 n, .string y, .slice a rs.length cap, .int .i64 fi, .bool z, .int .i64 wi, .int .i64 mo, .int .i64 m, .int .i64 c, .bool k, .bool s, .int .i64 v, .int .i64 x, .int .i64 ti, .int .i64 tr]] w (SndI (mssF m) w) := by
  unfold mssF
  by_cases h0 : m = 0
  · subst h0
    rw [if_pos rfl]
    go_enter Try.func34, Try.ntmps34
    go_wp2_with fail
    go_ret
    exact ⟨rfl, (Below.refl _ _).alloc (Nat.le_refl _) _⟩
  rw [if_neg h0]
  have C1 := Lib.hid (fun w => l1Min_s 1460 m w)
  have C2 := Lib.hid (fun w => l1Max_s 1 (min 1460 m) w)
  go_enter Try.func34, Try.ntmps34
  have B0 := Lib.hid (show Below w.heap.size w (w.alloc (.cells #[.int .i64 p, .int .i64 q, .int .i64 r, .int .i64 st, .int .i64 u, .string d, .int .i64 t, .bool f, .bool g, .bool h, .int .i64 n, .string y, .slice a rs.length cap, .int .i64 fi, .bool z, .int .i64 wi, .int .i64 mo, .int .i64 m, .int .i64 c, .bool k, .bool s, .int .i64 v, .int .i64 x, .int .i64 ti, .int .i64 tr] 36)) from ((Below.refl _ w).alloc (by simp) _))
  have KA0 := Lib.hid (show Blk (w.alloc (.cells #[.int .i64 p, .int .i64 q, .int .i64 r, .int .i64 st, .int .i64 u, .string d, .int .i64 t, .bool f, .bool g, .bool h, .int .i64 n, .string y, .slice a rs.length cap, .int .i64 fi, .bool z, .int .i64 wi, .int .i64 mo, .int .i64 m, .int .i64 c, .bool k, .bool s, .int .i64 v, .int .i64 x, .int .i64 ti, .int .i64 tr] 36)) (w.heap.size) [.int .i64 p, .int .i64 q, .int .i64 r, .int .i64 st, .int .i64 u, .string d, .int .i64 t, .bool f, .bool g, .bool h, .int .i64 n, .string y, .slice a rs.length cap, .int .i64 fi, .bool z, .int .i64 wi, .int .i64 mo, .int .i64 m, .int .i64 c, .bool k, .bool s, .int .i64 v, .int .i64 x, .int .i64 ti, .int .i64 tr] from Blk.new w [.int .i64 p, .int .i64 q, .int .i64 r, .int .i64 st, .int .i64 u, .string d, .int .i64 t, .bool f, .bool g, .bool h, .int .i64 n, .string y, .slice a rs.length cap, .int .i64 fi, .bool z, .int .i64 wi, .int .i64 mo, .int .i64 m, .int .i64 c, .bool k, .bool s, .int .i64 v, .int .i64 x, .int .i64 ti, .int .i64 tr] 36)
  go_wp2_with fail
  change Calls _ _ _ (w.alloc (.cells #[.int .i64 p, .int .i64 q, .int .i64 r, .int .i64 st, .int .i64 u, .string d, .int .i64 t, .bool f, .bool g, .bool h, .int .i64 n, .string y, .slice a rs.length cap, .int .i64 fi, .bool z, .int .i64 wi, .int .i64 mo, .int .i64 m, .int .i64 c, .bool k, .bool s, .int .i64 v, .int .i64 x, .int .i64 ti, .int .i64 tr] 36)) _
  generalize w.alloc (.cells #[.int .i64 p, .int .i64 q, .int .i64 r, .int .i64 st, .int .i64 u, .string d, .int .i64 t, .bool f, .bool g, .bool h, .int .i64 n, .string y, .slice a rs.length cap, .int .i64 fi, .bool z, .int .i64 wi, .int .i64 mo, .int .i64 m, .int .i64 c, .bool k, .bool s, .int .i64 v, .int .i64 x, .int .i64 ti, .int .i64 tr] 36) = v0 at B0 KA0 ⊢
  generalize w.heap.size = g_A at KA0 ⊢
  refine (C1.out _).mono ?_
  rintro e v1 ⟨rfl, hb⟩
  have B1 := Lib.hid (B0.out.trans (hb.mono B0.out.size))
  have KA1 := Lib.hid (KA0.out.below hb)
  clear hb B0 KA0
  go_wp2_with fail
  refine (C2.out _).mono ?_
  rintro e v2 ⟨rfl, hb⟩
  have B2 := Lib.hid (B1.out.trans (hb.mono B1.out.size))
  have KA2 := Lib.hid (KA1.out.below hb)
  clear hb B1 KA1
  go_wp2_with fail
  go_ret
  exact ⟨rfl, B2.out⟩

/-- What StateWord answers. -/
def stWord (k : Int) : ByteArray :=
  if k = 1 then ⟨#[101, 115, 116]⟩ else if k = 2 then ⟨#[102, 105, 110, 49]⟩ else if k = 3 then ⟨#[102, 105, 110, 50]⟩ else if k = 4 then ⟨#[119, 97, 105, 116]⟩ else if k = 5 then ⟨#[99, 108, 111, 115, 105, 110, 103]⟩ else if k = 6 then ⟨#[108, 97, 115, 116]⟩ else if k = 7 then ⟨#[116, 105, 109, 101]⟩ else if k = 8 then ⟨#[99, 108, 111, 115, 101, 100]⟩ else ⟨#[]⟩
theorem stWord_out {k : Int} (h : ¬ (1 ≤ k ∧ k ≤ 8)) : stWord k = ⟨#[]⟩ := by
  unfold stWord
  rw [if_neg (show ¬ k = 1 by omega), if_neg (show ¬ k = 2 by omega), if_neg (show ¬ k = 3 by omega), if_neg (show ¬ k = 4 by omega), if_neg (show ¬ k = 5 by omega), if_neg (show ¬ k = 6 by omega), if_neg (show ¬ k = 7 by omega), if_neg (show ¬ k = 8 by omega)]
def EndW (b : ByteArray) (w : World) (e : Ending) (w' : World) : Prop := e = .returned (.string b) ∧ Below w.heap.size w w'

set_option maxRecDepth 100000 in
set_option maxHeartbeats 4000000 in
theorem stateWordI (k : Int) (w : World) :
    Calls Try.prog 33 #[.int .i64 k] w (EndW (stWord k) w) := by
  by_cases h1 : k = 1
  · subst h1
    rw [show stWord 1 = ⟨#[101, 115, 116]⟩ from rfl]
    go_enter Try.func33, Try.ntmps33
    go_wp2_with fail
    go_ret
    exact ⟨rfl, Below.refl _ _⟩
  by_cases h2 : k = 2
  · subst h2
    rw [show stWord 2 = ⟨#[102, 105, 110, 49]⟩ from rfl]
    go_enter Try.func33, Try.ntmps33
    go_wp2_with fail
    go_ret
    exact ⟨rfl, Below.refl _ _⟩
  by_cases h3 : k = 3
  · subst h3
    rw [show stWord 3 = ⟨#[102, 105, 110, 50]⟩ from rfl]
    go_enter Try.func33, Try.ntmps33
    go_wp2_with fail
    go_ret
    exact ⟨rfl, Below.refl _ _⟩
  by_cases h4 : k = 4
  · subst h4
    rw [show stWord 4 = ⟨#[119, 97, 105, 116]⟩ from rfl]
    go_enter Try.func33, Try.ntmps33
    go_wp2_with fail
    go_ret
    exact ⟨rfl, Below.refl _ _⟩
  by_cases h5 : k = 5
  · subst h5
    rw [show stWord 5 = ⟨#[99, 108, 111, 115, 105, 110, 103]⟩ from rfl]
    go_enter Try.func33, Try.ntmps33
    go_wp2_with fail
    go_ret
    exact ⟨rfl, Below.refl _ _⟩
  by_cases h6 : k = 6
  · subst h6
    rw [show stWord 6 = ⟨#[108, 97, 115, 116]⟩ from rfl]
    go_enter Try.func33, Try.ntmps33
    go_wp2_with fail
    go_ret
    exact ⟨rfl, Below.refl _ _⟩
  by_cases h7 : k = 7
  · subst h7
    rw [show stWord 7 = ⟨#[116, 105, 109, 101]⟩ from rfl]
    go_enter Try.func33, Try.ntmps33
    go_wp2_with fail
    go_ret
    exact ⟨rfl, Below.refl _ _⟩
  by_cases h8 : k = 8
  · subst h8
    rw [show stWord 8 = ⟨#[99, 108, 111, 115, 101, 100]⟩ from rfl]
    go_enter Try.func33, Try.ntmps33
    go_wp2_with fail
    go_ret
    exact ⟨rfl, Below.refl _ _⟩
  rw [stWord_out (by omega)]
  go_enter Try.func33, Try.ntmps33
  go_wp2_with fail
  go_ret
  exact ⟨rfl, Below.refl _ _⟩

set_option maxRecDepth 100000 in
set_option maxHeartbeats 4000000 in
theorem stateWordS (k : Int) (w : World) :
    Calls Try.prog 32 #[.int .i64 k] w (EndW (stWord k) w) := by
  by_cases h1 : k = 1
  · subst h1
    rw [show stWord 1 = ⟨#[101, 115, 116]⟩ from rfl]
    have C := Lib.hid (fun w => l1In_s 1 1 8 w)
    go_enter Try.func32, Try.ntmps32
    go_wp2_with fail
    refine (C.out _).mono ?_
    rintro e w1 ⟨rfl, hb⟩
    have B := Lib.hid hb
    clear hb
    go_wp2_with fail
    go_ret
    exact ⟨rfl, B.out.alloc B.out.size _⟩
  by_cases h2 : k = 2
  · subst h2
    rw [show stWord 2 = ⟨#[102, 105, 110, 49]⟩ from rfl]
    have C := Lib.hid (fun w => l1In_s 2 1 8 w)
    go_enter Try.func32, Try.ntmps32
    go_wp2_with fail
    refine (C.out _).mono ?_
    rintro e w1 ⟨rfl, hb⟩
    have B := Lib.hid hb
    clear hb
    go_wp2_with fail
    go_ret
    exact ⟨rfl, B.out.alloc B.out.size _⟩
  by_cases h3 : k = 3
  · subst h3
    rw [show stWord 3 = ⟨#[102, 105, 110, 50]⟩ from rfl]
    have C := Lib.hid (fun w => l1In_s 3 1 8 w)
    go_enter Try.func32, Try.ntmps32
    go_wp2_with fail
    refine (C.out _).mono ?_
    rintro e w1 ⟨rfl, hb⟩
    have B := Lib.hid hb
    clear hb
    go_wp2_with fail
    go_ret
    exact ⟨rfl, B.out.alloc B.out.size _⟩
  by_cases h4 : k = 4
  · subst h4
    rw [show stWord 4 = ⟨#[119, 97, 105, 116]⟩ from rfl]
    have C := Lib.hid (fun w => l1In_s 4 1 8 w)
    go_enter Try.func32, Try.ntmps32
    go_wp2_with fail
    refine (C.out _).mono ?_
    rintro e w1 ⟨rfl, hb⟩
    have B := Lib.hid hb
    clear hb
    go_wp2_with fail
    go_ret
    exact ⟨rfl, B.out.alloc B.out.size _⟩
  by_cases h5 : k = 5
  · subst h5
    rw [show stWord 5 = ⟨#[99, 108, 111, 115, 105, 110, 103]⟩ from rfl]
    have C := Lib.hid (fun w => l1In_s 5 1 8 w)
    go_enter Try.func32, Try.ntmps32
    go_wp2_with fail
    refine (C.out _).mono ?_
    rintro e w1 ⟨rfl, hb⟩
    have B := Lib.hid hb
    clear hb
    go_wp2_with fail
    go_ret
    exact ⟨rfl, B.out.alloc B.out.size _⟩
  by_cases h6 : k = 6
  · subst h6
    rw [show stWord 6 = ⟨#[108, 97, 115, 116]⟩ from rfl]
    have C := Lib.hid (fun w => l1In_s 6 1 8 w)
    go_enter Try.func32, Try.ntmps32
    go_wp2_with fail
    refine (C.out _).mono ?_
    rintro e w1 ⟨rfl, hb⟩
    have B := Lib.hid hb
    clear hb
    go_wp2_with fail
    go_ret
    exact ⟨rfl, B.out.alloc B.out.size _⟩
  by_cases h7 : k = 7
  · subst h7
    rw [show stWord 7 = ⟨#[116, 105, 109, 101]⟩ from rfl]
    have C := Lib.hid (fun w => l1In_s 7 1 8 w)
    go_enter Try.func32, Try.ntmps32
    go_wp2_with fail
    refine (C.out _).mono ?_
    rintro e w1 ⟨rfl, hb⟩
    have B := Lib.hid hb
    clear hb
    go_wp2_with fail
    go_ret
    exact ⟨rfl, B.out.alloc B.out.size _⟩
  by_cases h8 : k = 8
  · subst h8
    rw [show stWord 8 = ⟨#[99, 108, 111, 115, 101, 100]⟩ from rfl]
    have C := Lib.hid (fun w => l1In_s 8 1 8 w)
    go_enter Try.func32, Try.ntmps32
    go_wp2_with fail
    refine (C.out _).mono ?_
    rintro e w1 ⟨rfl, hb⟩
    have B := Lib.hid hb
    clear hb
    go_wp2_with fail
    go_ret
    exact ⟨rfl, B.out.alloc B.out.size _⟩
  rw [stWord_out (by omega)]
  have C := fun w => l1In_s k 1 8 w
  rw [decide_eq_false (by omega)] at C
  replace C := Lib.hid C
  go_enter Try.func32, Try.ntmps32
  go_wp2_with fail
  refine (C.out _).mono ?_
  rintro e w1 ⟨rfl, hb⟩
  have B := Lib.hid hb
  clear hb
  go_wp2_with fail
  go_ret
  exact ⟨rfl, B.out⟩
end Go.Proofs.Ytajekjjaaohbnaa
