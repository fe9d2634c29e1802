/- The draws of chapter 4: l4Place, l4Near, l4Two, l4Size, DrawSeqAdd, DrawSeqBelow, DrawOverlaps. -/
import Derived.Test.YtfhdjefdbjnccaaDeep
import Derived.Test.YtfhdjefdbjnccaaSeq
namespace Go.Proofs.Ytfhdjefdbjnccaa
open Go.RowKit Go.Lib

theorem results_four {fn : Func} {t u v x : Tmp} (h : fn.results = #[.tmp t, .tmp u, .tmp v, .tmp x]) (tmps : Array Value) (P : Program) (w : World) :
    (results fn tmps).run P w = .ok (.tuple #[tmps.getD t undef, tmps.getD u undef, tmps.getD v undef, tmps.getD x undef]) w := by
  simp [results, h]

set_option maxHeartbeats 1000000 in
theorem l4Place_any (B g : Nat) (w : World) (hc : CurB w B g) : Calls Try.prog 31 #[.pointer (some ⟨g, 0, none⟩)] w (WholeEnd w B g) := by
  have C := Lib.hid (l1Once_any B g w hc 12 (by omega) (by omega))
  clear hc
  go_enter Try.func31, Try.ntmps31
  go_wp2_with fail
  refine C.out.mono ?_
  rintro e w1 ⟨b, rfl, hc1, hg1⟩
  have C1 := Lib.hid hc1
  have G1 := Lib.hid hg1
  clear hc1 hg1
  cases b with
  | true =>
    go_wp2_with fail
    refine (l1Whole_any B g w1 C1.out).mono ?_
    rintro e w2 ⟨n, rfl, hn, hc2, hg2⟩
    have N := Lib.hid hn
    have C2 := Lib.hid hc2
    have G2 := Lib.hid (grown_tr G1.out hg2)
    clear hn hc2 hg2
    go_wp2_with fail
    go_ret
    exact ⟨n, rfl, N.out, C2.out, G2.out⟩
  | false =>
    go_wp2_with fail
    refine (l2Deep_any B g w1 C1.out).mono ?_
    rintro e w2 ⟨n, rfl, hn, hc2, hg2⟩
    have N := Lib.hid hn
    have C2 := Lib.hid hc2
    have G2 := Lib.hid (grown_tr G1.out hg2)
    clear hn hc2 hg2
    go_wp2_with fail
    go_ret
    exact ⟨n, rfl, N.out, C2.out, G2.out⟩

def nearCs : Array Value := #[.int .i64 2147483647, .int .i64 2147483648, .int .i64 (-1), .int .i64 1, .int .i64 0]
theorem nearCs_bd : ∀ v ∈ nearCs.toList, ∃ x, v = .int .i64 x ∧ I64 x := by
  intro v hv
  simp only [nearCs, List.mem_cons, List.mem_nil_iff, or_false] at hv
  unfold I64
  rcases hv with rfl | rfl | rfl | rfl | rfl <;> exact ⟨_, rfl, by decide⟩
theorem pickNear (B g : Nat) (w : World) (hc : CurB w B g) : Calls Try.prog 36 #[.pointer (some ⟨g, 0, none⟩), .slice (some ⟨w.heap.size, 0, none⟩) 5 5] (w.alloc (.cells nearCs 3)) (WholeEnd w B g) :=
  pickNew B g w hc nearCs (by decide) (by decide) nearCs_bd
theorem pl_i64 (n : Int) : I64 (pl n) := by have := pl_bd n; unfold I64; omega

set_option maxHeartbeats 1000000 in
theorem l4Near_any (B g : Nat) (w : World) (hc : CurB w B g) (x : Int) : Calls Try.prog 37 #[.pointer (some ⟨g, 0, none⟩), .int .i64 x] w (WholeEnd w B g) := by
  have C := Lib.hid (l1Below_pos B g w hc 4 (by omega) (by omega))
  clear hc
  go_enter Try.func37, Try.ntmps37
  go_wp2_with fail
  refine C.out.mono ?_
  rintro e w1 ⟨r, rfl, ⟨r0, r1⟩, hc1, hg1⟩
  have C1 := Lib.hid hc1
  have G1 := Lib.hid hg1
  clear hc1 hg1
  have hr : r = 0 ∨ r = 1 ∨ (r ≠ 0 ∧ r ≠ 1) := by omega
  rcases hr with rfl | rfl | ⟨hr0, hr1⟩
  · go_wp2_with fail
    refine (l4Place_any B g w1 C1.out).mono ?_
    rintro e w2 ⟨n, rfl, hn, hc2, hg2⟩
    have N := Lib.hid hn
    have C2 := Lib.hid hc2
    have G2 := Lib.hid (grown_tr G1.out hg2)
    clear hn hc2 hg2
    go_wp2_with fail
    go_ret
    exact ⟨n, rfl, N.out, C2.out, G2.out⟩
  · go_wp2_with fail
    refine (pickNear B g w1 C1.out).mono ?_
    rintro e w2 ⟨n, rfl, hn, hc2, hg2⟩
    have C2 := Lib.hid hc2
    have G2 := Lib.hid (grown_tr G1.out hg2)
    clear hn hc2 hg2
    go_wp2_with fail
    refine (seqAddS _ _ _).mono ?_
    rintro e w3 ⟨rfl, rfl⟩
    go_wp2_with fail
    go_ret
    exact ⟨_, rfl, pl_i64 _, C2.out, G2.out⟩
  · have e0 : (r == 0) = false := by simp; omega
    have e1 : (r == 1) = false := by simp; omega
    go_wp2_with fail
    refine (l1Below_pos B g w1 C1.out 41 (by omega) (by omega)).mono ?_
    rintro e w2 ⟨n, rfl, ⟨n0, n1⟩, hc2, hg2⟩
    have C2 := Lib.hid hc2
    have G2 := Lib.hid (grown_tr G1.out hg2)
    clear hc2 hg2
    go_wp2_with fail
    refine (seqAddS _ _ _).mono ?_
    rintro e w3 ⟨rfl, rfl⟩
    go_wp2_with fail
    go_ret
    exact ⟨_, rfl, pl_i64 _, C2.out, G2.out⟩

def sizeCs : Array Value := #[.int .i64 0, .int .i64 1, .int .i64 5, .int .i64 10, .int .i64 64, .int .i64 65535, .int .i64 (-1), .int .i64 4294967295, .int .i64 4294967296, .int .i64 9223372036854775807, .int .i64 (-9223372036854775808)]
theorem sizeCs_bd : ∀ v ∈ sizeCs.toList, ∃ x, v = .int .i64 x ∧ I64 x := by
  intro v hv
  simp only [sizeCs, List.mem_cons, List.mem_nil_iff, or_false] at hv
  unfold I64
  rcases hv with rfl | rfl | rfl | rfl | rfl | rfl | rfl | rfl | rfl | rfl | rfl <;> exact ⟨_, rfl, by decide⟩
theorem pickSize (B g : Nat) (w : World) (hc : CurB w B g) : Calls Try.prog 36 #[.pointer (some ⟨g, 0, none⟩), .slice (some ⟨w.heap.size, 0, none⟩) 11 11] (w.alloc (.cells sizeCs 3)) (WholeEnd w B g) :=
  pickNew B g w hc sizeCs (by decide) (by decide) sizeCs_bd

set_option maxHeartbeats 1000000 in
theorem l4Size_any (B g : Nat) (w : World) (hc : CurB w B g) : Calls Try.prog 38 #[.pointer (some ⟨g, 0, none⟩)] w (WholeEnd w B g) := by
  have C := Lib.hid (pickSize B g w hc)
  clear hc
  go_enter Try.func38, Try.ntmps38
  go_wp2_with fail
  refine C.out.mono ?_
  rintro e w2 ⟨n, rfl, hn, hc2, hg2⟩
  have N := Lib.hid hn
  have C2 := Lib.hid hc2
  have G2 := Lib.hid hg2
  clear hn hc2 hg2
  go_wp2_with fail
  go_ret
  exact ⟨n, rfl, N.out, C2.out, G2.out⟩

set_option maxHeartbeats 1000000 in
theorem drawSeqAdd (a : Option Addr) (bs : List UInt8) (cap : Nat) (w : World) (hrow : Row w w.heap.size a (byteCells bs)) (hbs : bs.length ≤ 1048576) :
    Calls Try.prog 13 #[.slice a bs.length cap] w fun e w' => ∃ n m : Int, e = .returned (.tuple #[.int .i64 n, .int .i64 m]) ∧ (I64 n ∧ I64 m) ∧ Below w.heap.size w w' := by
  have C := Lib.hid (l1New_any a bs cap w hrow hbs)
  clear hrow
  go_enter Try.func13, Try.ntmps13
  go_wp2_with fail
  refine C.out.mono ?_
  rintro e w1 ⟨g, rfl, hc1, hb1⟩
  have C1 := Lib.hid hc1
  have B1 := Lib.hid hb1
  clear hc1 hb1
  go_wp2_with fail
  refine (l4Place_any _ g w1 C1.out).mono ?_
  rintro e w2 ⟨n, rfl, hn, hc2, hg2⟩
  have N := Lib.hid hn
  have C2 := Lib.hid hc2
  have B2 := Lib.hid (below_new B1.out C1.out hg2)
  clear hn hc2 hg2
  go_wp2_with fail
  refine (l1Whole_any _ g w2 C2.out).mono ?_
  rintro e w3 ⟨m, rfl, hm, hc3, hg3⟩
  have M := Lib.hid hm
  have B3 := Lib.hid (below_new B2.out C2.out hg3)
  clear hm hc3 hg3
  go_wp2_with fail
  go_ret2
  exact ⟨n, m, rfl, ⟨N.out, M.out⟩, B3.out⟩

set_option maxHeartbeats 1000000 in
theorem l4Two_any (a : Option Addr) (bs : List UInt8) (cap : Nat) (w : World) (hrow : Row w w.heap.size a (byteCells bs)) (hbs : bs.length ≤ 1048576) :
    Calls Try.prog 34 #[.slice a bs.length cap] w fun e w' => ∃ n m : Int, e = .returned (.tuple #[.int .i64 n, .int .i64 m]) ∧ (I64 n ∧ I64 m) ∧ Below w.heap.size w w' := by
  have C := Lib.hid (l1New_any a bs cap w hrow hbs)
  clear hrow
  go_enter Try.func34, Try.ntmps34
  go_wp2_with fail
  refine C.out.mono ?_
  rintro e w1 ⟨g, rfl, hc1, hb1⟩
  have C1 := Lib.hid hc1
  have B1 := Lib.hid hb1
  clear hc1 hb1
  go_wp2_with fail
  refine (l4Place_any _ g w1 C1.out).mono ?_
  rintro e w2 ⟨n, rfl, hn, hc2, hg2⟩
  have N := Lib.hid hn
  have C2 := Lib.hid hc2
  have B2 := Lib.hid (below_new B1.out C1.out hg2)
  clear hn hc2 hg2
  go_wp2_with fail
  refine (l4Near_any _ g w2 C2.out n).mono ?_
  rintro e w3 ⟨m, rfl, hm, hc3, hg3⟩
  have M := Lib.hid hm
  have B3 := Lib.hid (below_new B2.out C2.out hg3)
  clear hm hc3 hg3
  go_wp2_with fail
  go_ret2
  exact ⟨n, m, rfl, ⟨N.out, M.out⟩, B3.out⟩

set_option maxHeartbeats 1000000 in
theorem drawSeqBelow (a : Option Addr) (bs : List UInt8) (cap : Nat) (w : World) (hrow : Row w w.heap.size a (byteCells bs)) (hbs : bs.length ≤ 1048576) :
    Calls Try.prog 18 #[.slice a bs.length cap] w fun e w' => ∃ n m : Int, e = .returned (.tuple #[.int .i64 n, .int .i64 m]) ∧ (I64 n ∧ I64 m) ∧ Below w.heap.size w w' := by
  have C := Lib.hid (l4Two_any a bs cap w hrow hbs)
  clear hrow
  go_enter Try.func18, Try.ntmps18
  go_wp2_with fail
  refine C.out.mono ?_
  rintro e w1 ⟨n, m, rfl, hnm, hb1⟩
  have M := Lib.hid hnm
  have B1 := Lib.hid hb1
  clear hnm hb1
  go_wp2_with fail
  go_ret2
  exact ⟨n, m, rfl, M.out, B1.out⟩

def manyCs : Array Value := #[.int .i64 0, .int .i64 1, .int .i64 5, .int .i64 20, .int .i64 (-1), .int .i64 40]
theorem manyCs_bd : ∀ v ∈ manyCs.toList, ∃ x, v = .int .i64 x ∧ (-1 ≤ x ∧ x ≤ 40) := by
  intro v hv
  simp only [manyCs, List.mem_cons, List.mem_nil_iff, or_false] at hv
  rcases hv with rfl | rfl | rfl | rfl | rfl | rfl <;> exact ⟨_, rfl, by decide⟩
theorem pickMany (B g : Nat) (w : World) (hc : CurB w B g) : Calls Try.prog 36 #[.pointer (some ⟨g, 0, none⟩), .slice (some ⟨w.heap.size, 0, none⟩) 6 6] (w.alloc (.cells manyCs 3)) fun e w' => ∃ n : Int, e = .returned (.int .i64 n) ∧ (-1 ≤ n ∧ n ≤ 40) ∧ CurB w' B g ∧ w.grownBy w' (some g) := by
  have hlt := hc.lt
  refine (l1PickInt_any B g w.heap.size _ (hc.new _) manyCs (heap_alloc_new w _) (by omega) (by decide) (by decide) (fun v hv => (manyCs_bd v hv).imp fun _ h => h.1)).mono ?_
  rintro e w' ⟨v, hv, rfl, h1, h2⟩
  obtain ⟨x, rfl, hx⟩ := manyCs_bd v hv
  exact ⟨x, rfl, hx, h1, grown_tr (World.grownBy_alloc w _ _) h2⟩

set_option maxHeartbeats 1000000 in
theorem drawOverlaps (a : Option Addr) (bs : List UInt8) (cap : Nat) (w : World) (hrow : Row w w.heap.size a (byteCells bs)) (hbs : bs.length ≤ 1048576) :
    Calls Try.prog 23 #[.slice a bs.length cap] w fun e w' => ∃ x n f s : Int, e = .returned (.tuple #[.int .i64 x, .int .i64 n, .int .i64 f, .int .i64 s]) ∧ (-1 ≤ n ∧ n ≤ 40) ∧ (I64 x ∧ I64 f ∧ I64 s) ∧ Below w.heap.size w w' := by
  have C := Lib.hid (l1New_any a bs cap w hrow hbs)
  clear hrow
  go_enter Try.func23, Try.ntmps23
  go_wp2_with fail
  refine C.out.mono ?_
  rintro e w1 ⟨g, rfl, hc1, hb1⟩
  have C1 := Lib.hid hc1
  have B1 := Lib.hid hb1
  clear hc1 hb1
  go_wp2_with fail
  refine (l4Place_any _ g w1 C1.out).mono ?_
  rintro e w2 ⟨x, rfl, hn, hc2, hg2⟩
  have X := Lib.hid hn
  have C2 := Lib.hid hc2
  have B2 := Lib.hid (below_new B1.out C1.out hg2)
  clear hn hc2 hg2
  go_wp2_with fail
  refine (pickMany _ g w2 C2.out).mono ?_
  rintro e w3 ⟨n, rfl, hm, hc3, hg3⟩
  have N := Lib.hid hm
  have C3 := Lib.hid hc3
  have B3 := Lib.hid (below_new B2.out C2.out hg3)
  clear hm hc3 hg3
  go_wp2_with fail
  refine (l4Near_any _ g w3 C3.out x).mono ?_
  rintro e w4 ⟨f, rfl, hm, hc4, hg4⟩
  have F := Lib.hid hm
  have C4 := Lib.hid hc4
  have B4 := Lib.hid (below_new B3.out C3.out hg4)
  clear hm hc4 hg4
  go_wp2_with fail
  refine (l4Size_any _ g w4 C4.out).mono ?_
  rintro e w5 ⟨s, rfl, hm, hc5, hg5⟩
  have Z := Lib.hid hm
  have B5 := Lib.hid (below_new B4.out C4.out hg5)
  clear hm hc5 hg5
  go_wp2_with fail
  refine bodyPost_ret (results_four rfl _ _ _) rfl ?_
  exact ⟨x, n, f, s, rfl, N.out, ⟨X.out, F.out, Z.out⟩, B5.out⟩
end Go.Proofs.Ytfhdjefdbjnccaa
