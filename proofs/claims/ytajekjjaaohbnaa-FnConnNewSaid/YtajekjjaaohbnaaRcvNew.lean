/- ReceiverNew of both sides. Nothing here is a claim. -/
import Derived.Test.YtajekjjaaohbnaaRcvKit
import Derived.Test.YtajekjjaaohbnaaSndPos
import Derived.Test.YtajekjjaaohbnaaCurA
namespace Go.Proofs.Ytajekjjaaohbnaa
open Go.RowKit Go.Lib

/-- A receiver at the beginning. -/
def EndN0 (y : Int) (w : World) (e : Ending) (w' : World) : Prop := e = .returned (.agg #[.int .i64 (pl y), .string ⟨#[]⟩, .slice none 0 0, .int .i64 (-1), .bool false]) ∧ Below w.heap.size w w'
theorem restS_s (y : Int) (w : World) : Calls Try.prog 59 #[.int .i64 y] w (SndI (pl y) w) := (restS y w).mono fun _ _ h => ⟨h.1, by rw [← h.2]; exact Below.refl _ _⟩

set_option maxRecDepth 100000 in
set_option maxHeartbeats 2000000 in
theorem rcvNewI (y : Int) (w : World) : Calls Try.prog 44 #[.int .i64 y] w (EndN0 y w) := by
  have C := Lib.hid (fun w => seqAddI_s y 0 w)
  simp only [Int.add_zero] at C
  go_enter Try.func44, Try.ntmps44
  have B0 := Lib.hid (show Below w.heap.size w (w.alloc (.cells #[.int .i64 0, .string ⟨#[]⟩, .slice none 0 0, .int .i64 0, .bool false] 34)) from ((Below.refl _ w).alloc (by simp) _))
  have Ko0 := Lib.hid (show Blk (w.alloc (.cells #[.int .i64 0, .string ⟨#[]⟩, .slice none 0 0, .int .i64 0, .bool false] 34)) (w.heap.size) [.int .i64 0, .string ⟨#[]⟩, .slice none 0 0, .int .i64 0, .bool false] from Blk.new w [.int .i64 0, .string ⟨#[]⟩, .slice none 0 0, .int .i64 0, .bool false] 34)
  go_wp2_with fail
  change Calls _ _ _ (w.alloc (.cells #[.int .i64 0, .string ⟨#[]⟩, .slice none 0 0, .int .i64 0, .bool false] 34)) _
  generalize w.alloc (.cells #[.int .i64 0, .string ⟨#[]⟩, .slice none 0 0, .int .i64 0, .bool false] 34) = v0 at B0 Ko0 ⊢
  generalize hh_o : w.heap.size = g_o at Ko0 ⊢
  have l_o : w.heap.size ≤ g_o := by omega
  clear hh_o
  refine (C.out _).mono ?_
  rintro e v1 ⟨rfl, hb⟩
  have B1 := Lib.hid (B0.out.trans (hb.mono B0.out.size))
  have Ko1 := Lib.hid (Ko0.out.below hb)
  clear hb B0 Ko0
  obtain ⟨⟨co0, co1, co2, co3, co4⟩, do0, do1, do2, do3, do4⟩ := Ko1.out.of5
  go_wp2_with fail
  exact bodyPost_ret (v := .agg #[.int .i64 (pl y), .string ⟨#[]⟩, .slice none 0 0, .int .i64 (-1), .bool false]) (by simp [results, Try.results44, go_sem, co0, co1, co2, co3, co4]) rfl ⟨rfl, (((((B1.out.setCell l_o (.int .i64 (pl y))).setCell l_o (.string ⟨#[]⟩)).setCell l_o (.slice none 0 0)).setCell l_o (.int .i64 (-1))).setCell l_o (.bool false))⟩

set_option maxRecDepth 100000 in
set_option maxHeartbeats 2000000 in
theorem rcvNewS (y : Int) (w : World) : Calls Try.prog 51 #[.int .i64 y] w (EndN0 y w) := by
  have C := Lib.hid (fun w => restS_s y w)
  go_enter Try.func51, Try.ntmps51
  have B0 := Lib.hid (show Below w.heap.size w (w.alloc (.cells #[.int .i64 0, .string ⟨#[]⟩, .slice none 0 0, .int .i64 0, .bool false] 34)) from ((Below.refl _ w).alloc (by simp) _))
  have Ko0 := Lib.hid (show Blk (w.alloc (.cells #[.int .i64 0, .string ⟨#[]⟩, .slice none 0 0, .int .i64 0, .bool false] 34)) (w.heap.size) [.int .i64 0, .string ⟨#[]⟩, .slice none 0 0, .int .i64 0, .bool false] from Blk.new w [.int .i64 0, .string ⟨#[]⟩, .slice none 0 0, .int .i64 0, .bool false] 34)
  go_wp2_with fail
  change Calls _ _ _ (w.alloc (.cells #[.int .i64 0, .string ⟨#[]⟩, .slice none 0 0, .int .i64 0, .bool false] 34)) _
  generalize w.alloc (.cells #[.int .i64 0, .string ⟨#[]⟩, .slice none 0 0, .int .i64 0, .bool false] 34) = v0 at B0 Ko0 ⊢
  generalize hh_o : w.heap.size = g_o at Ko0 ⊢
  have l_o : w.heap.size ≤ g_o := by omega
  clear hh_o
  refine (C.out _).mono ?_
  rintro e v1 ⟨rfl, hb⟩
  have B1 := Lib.hid (B0.out.trans (hb.mono B0.out.size))
  have Ko1 := Lib.hid (Ko0.out.below hb)
  clear hb B0 Ko0
  obtain ⟨⟨co0, co1, co2, co3, co4⟩, do0, do1, do2, do3, do4⟩ := Ko1.out.of5
  go_wp2_with fail
  exact bodyPost_ret (v := .agg #[.int .i64 (pl y), .string ⟨#[]⟩, .slice none 0 0, .int .i64 (-1), .bool false]) (by simp [results, Try.results51, go_sem, co0, co1, co2, co3, co4]) rfl ⟨rfl, (((((B1.out.setCell l_o (.int .i64 (pl y))).setCell l_o (.string ⟨#[]⟩)).setCell l_o (.slice none 0 0)).setCell l_o (.int .i64 (-1))).setCell l_o (.bool false))⟩
end Go.Proofs.Ytajekjjaaohbnaa
