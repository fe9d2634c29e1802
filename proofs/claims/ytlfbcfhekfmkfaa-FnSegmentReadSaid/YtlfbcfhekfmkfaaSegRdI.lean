/- ReadSegment of the program, by cases. Nothing here is a claim. -/
import Derived.Test.YtlfbcfhekfmkfaaSegTxt
import Derived.Test.YtlfbcfhekfmkfaaSegFldR
import Derived.Test.YtlfbcfhekfmkfaaSegFlds
import Derived.Test.YtlfbcfhekfmkfaaSegOk
import Derived.Test.YtlfbcfhekfmkfaaReadOptI
import Derived.Test.YtlfbcfhekfmkfaaCurA
import Derived.Test.YtlfbcfhekfmkfaaKit
import Derived.Deep.RegionWith
import Derived.Deep.DeepCutAuto
import Derived.Deep.RegionHeld3
namespace Go.Proofs.Ytlfbcfhekfmkfaa
open Go.RowKit Go.Lib

/-- The cells of the array of values behind round number j. -/
def segV (x0 x2 x4 x8 x12 x13 x14 x16 x18 : Nat) : Nat → List Value
  | 0 => [.int .i64 0, .int .i64 0, .int .i64 0, .int .i64 0, .int .i64 0, .int .i64 0, .int .i64 0, .int .i64 0, .int .i64 0]
  | 1 => [.int .i64 (x0 : Int), .int .i64 0, .int .i64 0, .int .i64 0, .int .i64 0, .int .i64 0, .int .i64 0, .int .i64 0, .int .i64 0]
  | 2 => [.int .i64 (x0 : Int), .int .i64 (x2 : Int), .int .i64 0, .int .i64 0, .int .i64 0, .int .i64 0, .int .i64 0, .int .i64 0, .int .i64 0]
  | 3 => [.int .i64 (x0 : Int), .int .i64 (x2 : Int), .int .i64 (x4 : Int), .int .i64 0, .int .i64 0, .int .i64 0, .int .i64 0, .int .i64 0, .int .i64 0]
  | 4 => [.int .i64 (x0 : Int), .int .i64 (x2 : Int), .int .i64 (x4 : Int), .int .i64 (x8 : Int), .int .i64 0, .int .i64 0, .int .i64 0, .int .i64 0, .int .i64 0]
  | 5 => [.int .i64 (x0 : Int), .int .i64 (x2 : Int), .int .i64 (x4 : Int), .int .i64 (x8 : Int), .int .i64 (x12 : Int), .int .i64 0, .int .i64 0, .int .i64 0, .int .i64 0]
  | 6 => [.int .i64 (x0 : Int), .int .i64 (x2 : Int), .int .i64 (x4 : Int), .int .i64 (x8 : Int), .int .i64 (x12 : Int), .int .i64 (x13 : Int), .int .i64 0, .int .i64 0, .int .i64 0]
  | 7 => [.int .i64 (x0 : Int), .int .i64 (x2 : Int), .int .i64 (x4 : Int), .int .i64 (x8 : Int), .int .i64 (x12 : Int), .int .i64 (x13 : Int), .int .i64 (x14 : Int), .int .i64 0, .int .i64 0]
  | 8 => [.int .i64 (x0 : Int), .int .i64 (x2 : Int), .int .i64 (x4 : Int), .int .i64 (x8 : Int), .int .i64 (x12 : Int), .int .i64 (x13 : Int), .int .i64 (x14 : Int), .int .i64 (x16 : Int), .int .i64 0]
  | _ => [.int .i64 (x0 : Int), .int .i64 (x2 : Int), .int .i64 (x4 : Int), .int .i64 (x8 : Int), .int .i64 (x12 : Int), .int .i64 (x13 : Int), .int .i64 (x14 : Int), .int .i64 (x16 : Int), .int .i64 (x18 : Int)]

set_option maxRecDepth 100000 in
set_option maxHeartbeats 6000000 in
theorem readSegI_short (s : ByteArray) (x z : Int) (w : World) (h : s.size < 20) :
    Calls Try.prog 16 #[.string s, .int .i64 x, .int .i64 z] w fun e w' => e = .returned (.tuple #[.agg #[.int .i64 0, .int .i64 0, .int .i64 0, .int .i64 0, .int .i64 0, .int .i64 0, .int .i64 0, .int .i64 0, .bool false, .bool false, .int .i64 0, .int .i64 0, .string ⟨#[]⟩], .bool false]) ∧ Below w.heap.size w w' := by
  have h0 : (s.size : Int) < 20 := by omega
  go_enter Try.func16, Try.ntmps16
  go_wp2
  exact bodyPost_ret (v := .tuple #[.agg #[.int .i64 0, .int .i64 0, .int .i64 0, .int .i64 0, .int .i64 0, .int .i64 0, .int .i64 0, .int .i64 0, .bool false, .bool false, .int .i64 0, .int .i64 0, .string ⟨#[]⟩], .bool false]) (by simp [results, Try.results16, go_sem]) rfl ⟨rfl, (Below.refl _ _).alloc (Nat.le_refl _) _⟩

set_option maxRecDepth 100000 in
set_option maxHeartbeats 6000000 in
theorem readSegI_len (s : ByteArray) (x z : Int) (w : World) (hs : s.size ≤ 1048576) (h : 20 ≤ s.size) (hn : ¬ (20 ≤ segN s ∧ segN s ≤ s.size)) :
    Calls Try.prog 16 #[.string s, .int .i64 x, .int .i64 z] w fun e w' => e = .returned (.tuple #[.agg #[.int .i64 0, .int .i64 0, .int .i64 0, .int .i64 0, .int .i64 0, .int .i64 0, .int .i64 0, .int .i64 0, .bool false, .bool false, .int .i64 0, .int .i64 0, .string ⟨#[]⟩], .bool false]) ∧ Below w.heap.size w w' := by
  have h0 : ¬ (s.size : Int) < 20 := by omega
  have j20 : (20 : Int) ≤ s.size := by omega
  have L0 : 0 < (s.extract 0 20).data.toList.length := by rw [len_list, ByteArray.size_extract]; omega
  have g0 := fun w => get3I (s.extract 0 (0 + 2)) 0 2 w (by rw [ByteArray.size_extract]; omega) (by omega) (by rw [ByteArray.size_extract]; omega)
  rw [gw_part s 0 2 2 (by omega)] at g0
  have P0 := Lib.hid g0
  clear g0
  have g1 := fun w => get3I (s.extract 2 (2 + 2)) 0 2 w (by rw [ByteArray.size_extract]; omega) (by omega) (by rw [ByteArray.size_extract]; omega)
  rw [gw_part s 2 2 2 (by omega)] at g1
  have P1 := Lib.hid g1
  clear g1
  have g2 := fun w => get3I (s.extract 4 (4 + 4)) 0 4 w (by rw [ByteArray.size_extract]; omega) (by omega) (by rw [ByteArray.size_extract]; omega)
  rw [gw_part s 4 4 4 (by omega)] at g2
  have P2 := Lib.hid g2
  clear g2
  have g3 := fun w => get3I (s.extract 8 (8 + 4)) 0 4 w (by rw [ByteArray.size_extract]; omega) (by omega) (by rw [ByteArray.size_extract]; omega)
  rw [gw_part s 8 4 4 (by omega)] at g3
  have P3 := Lib.hid g3
  clear g3
  have g4 := fun w => get3I (s.extract 12 (12 + 1)) 0 1 w (by rw [ByteArray.size_extract]; omega) (by omega) (by rw [ByteArray.size_extract]; omega)
  rw [gw_part s 12 1 1 (by omega)] at g4
  have P4 := Lib.hid g4
  clear g4
  have g5 := fun w => get3I (s.extract 13 (13 + 1)) 0 1 w (by rw [ByteArray.size_extract]; omega) (by omega) (by rw [ByteArray.size_extract]; omega)
  rw [gw_part s 13 1 1 (by omega)] at g5
  have P5 := Lib.hid g5
  clear g5
  have g6 := fun w => get3I (s.extract 14 (14 + 2)) 0 2 w (by rw [ByteArray.size_extract]; omega) (by omega) (by rw [ByteArray.size_extract]; omega)
  rw [gw_part s 14 2 2 (by omega)] at g6
  have P6 := Lib.hid g6
  clear g6
  have g7 := fun w => get3I (s.extract 16 (16 + 2)) 0 2 w (by rw [ByteArray.size_extract]; omega) (by omega) (by rw [ByteArray.size_extract]; omega)
  rw [gw_part s 16 2 2 (by omega)] at g7
  have P7 := Lib.hid g7
  clear g7
  have g8 := fun w => get3I (s.extract 18 (18 + 2)) 0 2 w (by rw [ByteArray.size_extract]; omega) (by omega) (by rw [ByteArray.size_extract]; omega)
  rw [gw_part s 18 2 2 (by omega)] at g8
  have P8 := Lib.hid g8
  clear g8
  have z12 : (gw s 12 1 : Nat) = (at8 s 12).toNat := gw1 s 12
  have z13 : (gw s 13 1 : Nat) = (at8 s 13).toNat := gw1 s 13
  obtain ⟨x0, hx0⟩ : ∃ r : Nat, gw s 0 2 = r := ⟨_, rfl⟩
  rw [hx0] at P0
  obtain ⟨x2, hx2⟩ : ∃ r : Nat, gw s 2 2 = r := ⟨_, rfl⟩
  rw [hx2] at P1
  obtain ⟨x4, hx4⟩ : ∃ r : Nat, gw s 4 4 = r := ⟨_, rfl⟩
  rw [hx4] at P2
  obtain ⟨x8, hx8⟩ : ∃ r : Nat, gw s 8 4 = r := ⟨_, rfl⟩
  rw [hx8] at P3
  obtain ⟨x12, hx12⟩ : ∃ r : Nat, gw s 12 1 = r := ⟨_, rfl⟩
  rw [hx12] at P4
  obtain ⟨x13, hx13⟩ : ∃ r : Nat, gw s 13 1 = r := ⟨_, rfl⟩
  rw [hx13] at P5
  obtain ⟨x14, hx14⟩ : ∃ r : Nat, gw s 14 2 = r := ⟨_, rfl⟩
  rw [hx14] at P6
  obtain ⟨x16, hx16⟩ : ∃ r : Nat, gw s 16 2 = r := ⟨_, rfl⟩
  rw [hx16] at P7
  obtain ⟨x18, hx18⟩ : ∃ r : Nat, gw s 18 2 = r := ⟨_, rfl⟩
  rw [hx18] at P8
  obtain ⟨n, hn'⟩ : ∃ n, segN s = n := ⟨_, rfl⟩
  rw [hn'] at hn
  have b12 : x12 < 256 := by rw [← hx12, z12]; exact (at8 s 12).toNat_lt
  have b13 : x13 < 256 := by rw [← hx13, z13]; exact (at8 s 13).toNat_lt
  have q0 : IntKind.i64.wrap ((x12 : Int) / 16) = (x12 : Int) / 16 := by rw [IntKind.wrap_i64]; omega
  have q1 : IntKind.i64.wrap ((x12 : Int) / 16 * 4) = (n : Int) := by rw [IntKind.wrap_i64, ← hn']; unfold segN; rw [← z12, hx12]; omega
  obtain ⟨cap, W, hcv, hcap, hl, hb⟩ := bytes_new2 (P := Try.prog) ((w.alloc (.cells #[.int .i64 0, .int .i64 0, .int .i64 0, .int .i64 0, .int .i64 0, .int .i64 0, .int .i64 0, .int .i64 0, .bool false, .bool false, .int .i64 0, .int .i64 0, .string ⟨#[]⟩] 27)).alloc (.cells #[.int .i64 0, .int .i64 0, .int .i64 0, .int .i64 0, .int .i64 0, .int .i64 0, .int .i64 0, .int .i64 0, .int .i64 0] 59)) 9 22 5 (s.extract 0 20) Try.underlying9 Try.underlying22 Try.underlying5
  have e20 : (s.extract 0 20).size = 20 := by rw [ByteArray.size_extract]; omega
  rw [e20] at hcap hcv
  clear e20
  have hsz : ((w.alloc (.cells #[.int .i64 0, .int .i64 0, .int .i64 0, .int .i64 0, .int .i64 0, .int .i64 0, .int .i64 0, .int .i64 0, .bool false, .bool false, .int .i64 0, .int .i64 0, .string ⟨#[]⟩] 27)).alloc (.cells #[.int .i64 0, .int .i64 0, .int .i64 0, .int .i64 0, .int .i64 0, .int .i64 0, .int .i64 0, .int .i64 0, .int .i64 0] 59)).heap.size = w.heap.size + 1 + 1 := by simp
  rw [hsz] at hcv hl hb
  have hbW : Below ((w.alloc (.cells #[.int .i64 0, .int .i64 0, .int .i64 0, .int .i64 0, .int .i64 0, .int .i64 0, .int .i64 0, .int .i64 0, .bool false, .bool false, .int .i64 0, .int .i64 0, .string ⟨#[]⟩] 27)).alloc (.cells #[.int .i64 0, .int .i64 0, .int .i64 0, .int .i64 0, .int .i64 0, .int .i64 0, .int .i64 0, .int .i64 0, .int .i64 0] 59)).heap.size ((w.alloc (.cells #[.int .i64 0, .int .i64 0, .int .i64 0, .int .i64 0, .int .i64 0, .int .i64 0, .int .i64 0, .int .i64 0, .bool false, .bool false, .int .i64 0, .int .i64 0, .string ⟨#[]⟩] 27)).alloc (.cells #[.int .i64 0, .int .i64 0, .int .i64 0, .int .i64 0, .int .i64 0, .int .i64 0, .int .i64 0, .int .i64 0, .int .i64 0] 59)) W := by rw [hsz]; exact hb
  clear hb
  have B1 := Lib.hid ((((Below.refl w.heap.size w).alloc (Nat.le_refl _) _).alloc (by simp) _ : Below w.heap.size w ((w.alloc (.cells #[.int .i64 0, .int .i64 0, .int .i64 0, .int .i64 0, .int .i64 0, .int .i64 0, .int .i64 0, .int .i64 0, .bool false, .bool false, .int .i64 0, .int .i64 0, .string ⟨#[]⟩] 27)).alloc (.cells #[.int .i64 0, .int .i64 0, .int .i64 0, .int .i64 0, .int .i64 0, .int .i64 0, .int .i64 0, .int .i64 0, .int .i64 0] 59))).trans (hbW.mono (by rw [hsz]; omega)))
  have E1 := Lib.hid (((Blk.new w [.int .i64 0, .int .i64 0, .int .i64 0, .int .i64 0, .int .i64 0, .int .i64 0, .int .i64 0, .int .i64 0, .bool false, .bool false, .int .i64 0, .int .i64 0, .string ⟨#[]⟩] 27).alloc (.cells #[.int .i64 0, .int .i64 0, .int .i64 0, .int .i64 0, .int .i64 0, .int .i64 0, .int .i64 0, .int .i64 0, .int .i64 0] 59)).below hbW)
  have v1 := (Blk.new (w.alloc (.cells #[.int .i64 0, .int .i64 0, .int .i64 0, .int .i64 0, .int .i64 0, .int .i64 0, .int .i64 0, .int .i64 0, .bool false, .bool false, .int .i64 0, .int .i64 0, .string ⟨#[]⟩] 27)) [.int .i64 0, .int .i64 0, .int .i64 0, .int .i64 0, .int .i64 0, .int .i64 0, .int .i64 0, .int .i64 0, .int .i64 0] 59).below hbW
  rw [show (w.alloc (.cells #[.int .i64 0, .int .i64 0, .int .i64 0, .int .i64 0, .int .i64 0, .int .i64 0, .int .i64 0, .int .i64 0, .bool false, .bool false, .int .i64 0, .int .i64 0, .string ⟨#[]⟩] 27)).heap.size = w.heap.size + 1 by simp] at v1
  have V1 := Lib.hid v1
  obtain ⟨G, hG⟩ : ∃ G, w.heap.size + 1 + 1 = G := ⟨_, rfl⟩
  rw [hG] at hcv hl
  have L1 := Lib.hid hl
  have hGV : w.heap.size + 1 < G := by omega
  clear v1 hbW hsz hl
  have sf := segmentFields_any G 20 cap hcap
  simp only [flds] at sf
  have SF := Lib.hid sf
  clear sf
  have ix0 : ∀ w, (Instr.index 57 (.agg #[.slice (some ⟨G, 0, none⟩) 2 2, .slice (some ⟨G, 2, none⟩) 2 2, .slice (some ⟨G, 4, none⟩) 4 4, .slice (some ⟨G, 8, none⟩) 4 4, .slice (some ⟨G, 12, none⟩) 1 1, .slice (some ⟨G, 13, none⟩) 1 1, .slice (some ⟨G, 14, none⟩) 2 2, .slice (some ⟨G, 16, none⟩) 2 2, .slice (some ⟨G, 18, none⟩) 2 2]) (.int .i64 0)).run Try.prog w = .ok (.slice (some ⟨G, 0, none⟩) 2 2) w := fun _ => by kernel_rfl
  have ix1 : ∀ w, (Instr.index 57 (.agg #[.slice (some ⟨G, 0, none⟩) 2 2, .slice (some ⟨G, 2, none⟩) 2 2, .slice (some ⟨G, 4, none⟩) 4 4, .slice (some ⟨G, 8, none⟩) 4 4, .slice (some ⟨G, 12, none⟩) 1 1, .slice (some ⟨G, 13, none⟩) 1 1, .slice (some ⟨G, 14, none⟩) 2 2, .slice (some ⟨G, 16, none⟩) 2 2, .slice (some ⟨G, 18, none⟩) 2 2]) (.int .i64 1)).run Try.prog w = .ok (.slice (some ⟨G, 2, none⟩) 2 2) w := fun _ => by kernel_rfl
  have ix2 : ∀ w, (Instr.index 57 (.agg #[.slice (some ⟨G, 0, none⟩) 2 2, .slice (some ⟨G, 2, none⟩) 2 2, .slice (some ⟨G, 4, none⟩) 4 4, .slice (some ⟨G, 8, none⟩) 4 4, .slice (some ⟨G, 12, none⟩) 1 1, .slice (some ⟨G, 13, none⟩) 1 1, .slice (some ⟨G, 14, none⟩) 2 2, .slice (some ⟨G, 16, none⟩) 2 2, .slice (some ⟨G, 18, none⟩) 2 2]) (.int .i64 2)).run Try.prog w = .ok (.slice (some ⟨G, 4, none⟩) 4 4) w := fun _ => by kernel_rfl
  have ix3 : ∀ w, (Instr.index 57 (.agg #[.slice (some ⟨G, 0, none⟩) 2 2, .slice (some ⟨G, 2, none⟩) 2 2, .slice (some ⟨G, 4, none⟩) 4 4, .slice (some ⟨G, 8, none⟩) 4 4, .slice (some ⟨G, 12, none⟩) 1 1, .slice (some ⟨G, 13, none⟩) 1 1, .slice (some ⟨G, 14, none⟩) 2 2, .slice (some ⟨G, 16, none⟩) 2 2, .slice (some ⟨G, 18, none⟩) 2 2]) (.int .i64 3)).run Try.prog w = .ok (.slice (some ⟨G, 8, none⟩) 4 4) w := fun _ => by kernel_rfl
  have ix4 : ∀ w, (Instr.index 57 (.agg #[.slice (some ⟨G, 0, none⟩) 2 2, .slice (some ⟨G, 2, none⟩) 2 2, .slice (some ⟨G, 4, none⟩) 4 4, .slice (some ⟨G, 8, none⟩) 4 4, .slice (some ⟨G, 12, none⟩) 1 1, .slice (some ⟨G, 13, none⟩) 1 1, .slice (some ⟨G, 14, none⟩) 2 2, .slice (some ⟨G, 16, none⟩) 2 2, .slice (some ⟨G, 18, none⟩) 2 2]) (.int .i64 4)).run Try.prog w = .ok (.slice (some ⟨G, 12, none⟩) 1 1) w := fun _ => by kernel_rfl
  have ix5 : ∀ w, (Instr.index 57 (.agg #[.slice (some ⟨G, 0, none⟩) 2 2, .slice (some ⟨G, 2, none⟩) 2 2, .slice (some ⟨G, 4, none⟩) 4 4, .slice (some ⟨G, 8, none⟩) 4 4, .slice (some ⟨G, 12, none⟩) 1 1, .slice (some ⟨G, 13, none⟩) 1 1, .slice (some ⟨G, 14, none⟩) 2 2, .slice (some ⟨G, 16, none⟩) 2 2, .slice (some ⟨G, 18, none⟩) 2 2]) (.int .i64 5)).run Try.prog w = .ok (.slice (some ⟨G, 13, none⟩) 1 1) w := fun _ => by kernel_rfl
  have ix6 : ∀ w, (Instr.index 57 (.agg #[.slice (some ⟨G, 0, none⟩) 2 2, .slice (some ⟨G, 2, none⟩) 2 2, .slice (some ⟨G, 4, none⟩) 4 4, .slice (some ⟨G, 8, none⟩) 4 4, .slice (some ⟨G, 12, none⟩) 1 1, .slice (some ⟨G, 13, none⟩) 1 1, .slice (some ⟨G, 14, none⟩) 2 2, .slice (some ⟨G, 16, none⟩) 2 2, .slice (some ⟨G, 18, none⟩) 2 2]) (.int .i64 6)).run Try.prog w = .ok (.slice (some ⟨G, 14, none⟩) 2 2) w := fun _ => by kernel_rfl
  have ix7 : ∀ w, (Instr.index 57 (.agg #[.slice (some ⟨G, 0, none⟩) 2 2, .slice (some ⟨G, 2, none⟩) 2 2, .slice (some ⟨G, 4, none⟩) 4 4, .slice (some ⟨G, 8, none⟩) 4 4, .slice (some ⟨G, 12, none⟩) 1 1, .slice (some ⟨G, 13, none⟩) 1 1, .slice (some ⟨G, 14, none⟩) 2 2, .slice (some ⟨G, 16, none⟩) 2 2, .slice (some ⟨G, 18, none⟩) 2 2]) (.int .i64 7)).run Try.prog w = .ok (.slice (some ⟨G, 16, none⟩) 2 2) w := fun _ => by kernel_rfl
  have ix8 : ∀ w, (Instr.index 57 (.agg #[.slice (some ⟨G, 0, none⟩) 2 2, .slice (some ⟨G, 2, none⟩) 2 2, .slice (some ⟨G, 4, none⟩) 4 4, .slice (some ⟨G, 8, none⟩) 4 4, .slice (some ⟨G, 12, none⟩) 1 1, .slice (some ⟨G, 13, none⟩) 1 1, .slice (some ⟨G, 14, none⟩) 2 2, .slice (some ⟨G, 16, none⟩) 2 2, .slice (some ⟨G, 18, none⟩) 2 2]) (.int .i64 8)).run Try.prog w = .ok (.slice (some ⟨G, 18, none⟩) 2 2) w := fun _ => by kernel_rfl
  clear hx0 hx2 hx4 hx8 hx12 hx13 hx14 hx16 hx18 z12 z13
  clear hn'
  go_enter Try.func16, Try.ntmps16
  go_wp2_with fail
  refine (SF.out _).mono ?_
  rintro e w5 ⟨rfl, hb5⟩
  have B5 := Lib.hid (B1.out.trans (hb5.mono B1.out.size))
  have E5 := Lib.hid (E1.out.below hb5)
  have V5 := Lib.hid (V1.out.below hb5)
  have L5 := Lib.hid (L1.out.below L0 hb5)
  clear hb5 B1 E1 V1 L1 SF hcv
  go_wp2_with fail
  go_loopw [23] (fun i wr => ∃ j : Nat, j ≤ 9 ∧ i = .int .i64 j ∧ Hid (Blk wr (w.heap.size + 1) (segV x0 x2 x4 x8 x12 x13 x14 x16 x18 j)) ∧ Hid (Laid8 wr G (s.extract 0 20).data.toList) ∧ Hid (Blk wr w.heap.size [.int .i64 0, .int .i64 0, .int .i64 0, .int .i64 0, .int .i64 0, .int .i64 0, .int .i64 0, .int .i64 0, .bool false, .bool false, .int .i64 0, .int .i64 0, .string ⟨#[]⟩]) ∧ Hid (Below w.heap.size w wr))
    (fun i _ => 9 - (RowKit.intOf i).toNat)
  case atStart => exact ⟨0, Nat.zero_le _, rfl, V5, L5, E5, B5⟩
  case round =>
    obtain ⟨j, hj, rfl, R, L, E, B⟩ := hrel
    clear V5 L5 E5 B5
    have h9 : j = 0 ∨ j = 1 ∨ j = 2 ∨ j = 3 ∨ j = 4 ∨ j = 5 ∨ j = 6 ∨ j = 7 ∨ j = 8 ∨ j = 9 := by omega
    clear hj
    rcases h9 with rfl | rfl | rfl | rfl | rfl | rfl | rfl | rfl | rfl | rfl
    · have r := R.out
      simp only [segV] at r
      have hcj := field_conv (P := Try.prog) L.out (by omega) 0 2 (by omega) 22 9 5 2 Try.underlying22 Try.underlying5 Try.underlying9
      have vj := r.cell 0 _ rfl
      have fj := r.open 0
      have hgV := r.lt
      have R' := Lib.hid (r.set 0 (.int .i64 (x0 : Int)))
      clear r R
      go_wp2_with fail
      refine (P0.out _).mono ?_
      rintro e w6 ⟨rfl, rfl⟩
      go_wp2_with fail
      go_roundw
      case rel => exact ⟨1, by omega, by go_num, R', Lib.hid (L.out.setOther ⟨w.heap.size + 1, 0, none⟩ _ (Nat.ne_of_gt hGV)), Lib.hid (E.out.setOther ⟨w.heap.size + 1, 0, none⟩ _ (Nat.ne_of_lt (Nat.lt_succ_self _))), Lib.hid (B.out.setCell (p := ⟨w.heap.size + 1, 0, none⟩) (Nat.le_succ _) _)⟩
      case measure => simp [RowKit.intOf]
    · have r := R.out
      simp only [segV] at r
      have hcj := field_conv (P := Try.prog) L.out (by omega) 2 2 (by omega) 22 9 5 2 Try.underlying22 Try.underlying5 Try.underlying9
      have vj := r.cell 1 _ rfl
      have fj := r.open 1
      have hgV := r.lt
      have R' := Lib.hid (r.set 1 (.int .i64 (x2 : Int)))
      clear r R
      go_wp2_with fail
      refine (P1.out _).mono ?_
      rintro e w6 ⟨rfl, rfl⟩
      go_wp2_with fail
      go_roundw
      case rel => exact ⟨2, by omega, by go_num, R', Lib.hid (L.out.setOther ⟨w.heap.size + 1, 1, none⟩ _ (Nat.ne_of_gt hGV)), Lib.hid (E.out.setOther ⟨w.heap.size + 1, 1, none⟩ _ (Nat.ne_of_lt (Nat.lt_succ_self _))), Lib.hid (B.out.setCell (p := ⟨w.heap.size + 1, 1, none⟩) (Nat.le_succ _) _)⟩
      case measure => simp [RowKit.intOf]
    · have r := R.out
      simp only [segV] at r
      have hcj := field_conv (P := Try.prog) L.out (by omega) 4 4 (by omega) 22 9 5 4 Try.underlying22 Try.underlying5 Try.underlying9
      have vj := r.cell 2 _ rfl
      have fj := r.open 2
      have hgV := r.lt
      have R' := Lib.hid (r.set 2 (.int .i64 (x4 : Int)))
      clear r R
      go_wp2_with fail
      refine (P2.out _).mono ?_
      rintro e w6 ⟨rfl, rfl⟩
      go_wp2_with fail
      go_roundw
      case rel => exact ⟨3, by omega, by go_num, R', Lib.hid (L.out.setOther ⟨w.heap.size + 1, 2, none⟩ _ (Nat.ne_of_gt hGV)), Lib.hid (E.out.setOther ⟨w.heap.size + 1, 2, none⟩ _ (Nat.ne_of_lt (Nat.lt_succ_self _))), Lib.hid (B.out.setCell (p := ⟨w.heap.size + 1, 2, none⟩) (Nat.le_succ _) _)⟩
      case measure => simp [RowKit.intOf]
    · have r := R.out
      simp only [segV] at r
      have hcj := field_conv (P := Try.prog) L.out (by omega) 8 4 (by omega) 22 9 5 4 Try.underlying22 Try.underlying5 Try.underlying9
      have vj := r.cell 3 _ rfl
      have fj := r.open 3
      have hgV := r.lt
      have R' := Lib.hid (r.set 3 (.int .i64 (x8 : Int)))
      clear r R
      go_wp2_with fail
      refine (P3.out _).mono ?_
      rintro e w6 ⟨rfl, rfl⟩
      go_wp2_with fail
      go_roundw
      case rel => exact ⟨4, by omega, by go_num, R', Lib.hid (L.out.setOther ⟨w.heap.size + 1, 3, none⟩ _ (Nat.ne_of_gt hGV)), Lib.hid (E.out.setOther ⟨w.heap.size + 1, 3, none⟩ _ (Nat.ne_of_lt (Nat.lt_succ_self _))), Lib.hid (B.out.setCell (p := ⟨w.heap.size + 1, 3, none⟩) (Nat.le_succ _) _)⟩
      case measure => simp [RowKit.intOf]
    · have r := R.out
      simp only [segV] at r
      have hcj := field_conv (P := Try.prog) L.out (by omega) 12 1 (by omega) 22 9 5 1 Try.underlying22 Try.underlying5 Try.underlying9
      have vj := r.cell 4 _ rfl
      have fj := r.open 4
      have hgV := r.lt
      have R' := Lib.hid (r.set 4 (.int .i64 (x12 : Int)))
      clear r R
      go_wp2_with fail
      refine (P4.out _).mono ?_
      rintro e w6 ⟨rfl, rfl⟩
      go_wp2_with fail
      go_roundw
      case rel => exact ⟨5, by omega, by go_num, R', Lib.hid (L.out.setOther ⟨w.heap.size + 1, 4, none⟩ _ (Nat.ne_of_gt hGV)), Lib.hid (E.out.setOther ⟨w.heap.size + 1, 4, none⟩ _ (Nat.ne_of_lt (Nat.lt_succ_self _))), Lib.hid (B.out.setCell (p := ⟨w.heap.size + 1, 4, none⟩) (Nat.le_succ _) _)⟩
      case measure => simp [RowKit.intOf]
    · have r := R.out
      simp only [segV] at r
      have hcj := field_conv (P := Try.prog) L.out (by omega) 13 1 (by omega) 22 9 5 1 Try.underlying22 Try.underlying5 Try.underlying9
      have vj := r.cell 5 _ rfl
      have fj := r.open 5
      have hgV := r.lt
      have R' := Lib.hid (r.set 5 (.int .i64 (x13 : Int)))
      clear r R
      go_wp2_with fail
      refine (P5.out _).mono ?_
      rintro e w6 ⟨rfl, rfl⟩
      go_wp2_with fail
      go_roundw
      case rel => exact ⟨6, by omega, by go_num, R', Lib.hid (L.out.setOther ⟨w.heap.size + 1, 5, none⟩ _ (Nat.ne_of_gt hGV)), Lib.hid (E.out.setOther ⟨w.heap.size + 1, 5, none⟩ _ (Nat.ne_of_lt (Nat.lt_succ_self _))), Lib.hid (B.out.setCell (p := ⟨w.heap.size + 1, 5, none⟩) (Nat.le_succ _) _)⟩
      case measure => simp [RowKit.intOf]
    · have r := R.out
      simp only [segV] at r
      have hcj := field_conv (P := Try.prog) L.out (by omega) 14 2 (by omega) 22 9 5 2 Try.underlying22 Try.underlying5 Try.underlying9
      have vj := r.cell 6 _ rfl
      have fj := r.open 6
      have hgV := r.lt
      have R' := Lib.hid (r.set 6 (.int .i64 (x14 : Int)))
      clear r R
      go_wp2_with fail
      refine (P6.out _).mono ?_
      rintro e w6 ⟨rfl, rfl⟩
      go_wp2_with fail
      go_roundw
      case rel => exact ⟨7, by omega, by go_num, R', Lib.hid (L.out.setOther ⟨w.heap.size + 1, 6, none⟩ _ (Nat.ne_of_gt hGV)), Lib.hid (E.out.setOther ⟨w.heap.size + 1, 6, none⟩ _ (Nat.ne_of_lt (Nat.lt_succ_self _))), Lib.hid (B.out.setCell (p := ⟨w.heap.size + 1, 6, none⟩) (Nat.le_succ _) _)⟩
      case measure => simp [RowKit.intOf]
    · have r := R.out
      simp only [segV] at r
      have hcj := field_conv (P := Try.prog) L.out (by omega) 16 2 (by omega) 22 9 5 2 Try.underlying22 Try.underlying5 Try.underlying9
      have vj := r.cell 7 _ rfl
      have fj := r.open 7
      have hgV := r.lt
      have R' := Lib.hid (r.set 7 (.int .i64 (x16 : Int)))
      clear r R
      go_wp2_with fail
      refine (P7.out _).mono ?_
      rintro e w6 ⟨rfl, rfl⟩
      go_wp2_with fail
      go_roundw
      case rel => exact ⟨8, by omega, by go_num, R', Lib.hid (L.out.setOther ⟨w.heap.size + 1, 7, none⟩ _ (Nat.ne_of_gt hGV)), Lib.hid (E.out.setOther ⟨w.heap.size + 1, 7, none⟩ _ (Nat.ne_of_lt (Nat.lt_succ_self _))), Lib.hid (B.out.setCell (p := ⟨w.heap.size + 1, 7, none⟩) (Nat.le_succ _) _)⟩
      case measure => simp [RowKit.intOf]
    · have r := R.out
      simp only [segV] at r
      have hcj := field_conv (P := Try.prog) L.out (by omega) 18 2 (by omega) 22 9 5 2 Try.underlying22 Try.underlying5 Try.underlying9
      have vj := r.cell 8 _ rfl
      have fj := r.open 8
      have hgV := r.lt
      have R' := Lib.hid (r.set 8 (.int .i64 (x18 : Int)))
      clear r R
      go_wp2_with fail
      refine (P8.out _).mono ?_
      rintro e w6 ⟨rfl, rfl⟩
      go_wp2_with fail
      go_roundw
      case rel => exact ⟨9, by omega, by go_num, R', Lib.hid (L.out.setOther ⟨w.heap.size + 1, 8, none⟩ _ (Nat.ne_of_gt hGV)), Lib.hid (E.out.setOther ⟨w.heap.size + 1, 8, none⟩ _ (Nat.ne_of_lt (Nat.lt_succ_self _))), Lib.hid (B.out.setCell (p := ⟨w.heap.size + 1, 8, none⟩) (Nat.le_succ _) _)⟩
      case measure => simp [RowKit.intOf]
    · clear P0 P1 P2 P3 P4 P5 P6 P7 P8 ix0 ix1 ix2 ix3 ix4 ix5 ix6 ix7 ix8
      have r := R.out
      simp only [segV] at r
      have R9 := Lib.hid r
      clear r R L
      obtain ⟨⟨v0, v1, v2, v3, v4, v5, v6, v7, v8⟩, _⟩ := (show Blk wr (w.heap.size + 1) [.int .i64 (x0 : Int), .int .i64 (x2 : Int), .int .i64 (x4 : Int), .int .i64 (x8 : Int), .int .i64 (x12 : Int), .int .i64 (x13 : Int), .int .i64 (x14 : Int), .int .i64 (x16 : Int), .int .i64 (x18 : Int)] from R9.out).of9
      have hgV := R9.out.lt
      by_cases hn1 : n < 20
      · have hn2 : (n : Int) < 20 := by omega
        clear hn
        obtain ⟨⟨c0, c1, c2, c3, c4, c5, c6, c7, c8, c9, c10, c11, c12⟩, f0, f1, f2, f3, f4, f5, f6, f7, f8, f9, f10, f11, f12⟩ := E.out.of13
        have hgE := E.out.lt
        go_wp2_with fail
        exact bodyPost_ret (v := .tuple #[.agg #[.int .i64 0, .int .i64 0, .int .i64 0, .int .i64 0, .int .i64 0, .int .i64 0, .int .i64 0, .int .i64 0, .bool false, .bool false, .int .i64 0, .int .i64 0, .string ⟨#[]⟩], .bool false]) (by simp [results, Try.results16, go_sem, c0, c1, c2, c3, c4, c5, c6, c7, c8, c9, c10, c11, c12]) rfl ⟨rfl, (((((((((((((B.out).setCell (Nat.le_refl _) _).setCell (Nat.le_refl _) _).setCell (Nat.le_refl _) _).setCell (Nat.le_refl _) _).setCell (Nat.le_refl _) _).setCell (Nat.le_refl _) _).setCell (Nat.le_refl _) _).setCell (Nat.le_refl _) _).setCell (Nat.le_refl _) _).setCell (Nat.le_refl _) _).setCell (Nat.le_refl _) _).setCell (Nat.le_refl _) _).setCell (Nat.le_refl _) _⟩
      · have hn2 : ¬ (n : Int) < 20 := by omega
        have hn3 : (s.size : Int) < n := by omega
        clear hn
        obtain ⟨⟨c0, c1, c2, c3, c4, c5, c6, c7, c8, c9, c10, c11, c12⟩, f0, f1, f2, f3, f4, f5, f6, f7, f8, f9, f10, f11, f12⟩ := E.out.of13
        have hgE := E.out.lt
        go_wp2_with fail
        exact bodyPost_ret (v := .tuple #[.agg #[.int .i64 0, .int .i64 0, .int .i64 0, .int .i64 0, .int .i64 0, .int .i64 0, .int .i64 0, .int .i64 0, .bool false, .bool false, .int .i64 0, .int .i64 0, .string ⟨#[]⟩], .bool false]) (by simp [results, Try.results16, go_sem, c0, c1, c2, c3, c4, c5, c6, c7, c8, c9, c10, c11, c12]) rfl ⟨rfl, (((((((((((((B.out).setCell (Nat.le_refl _) _).setCell (Nat.le_refl _) _).setCell (Nat.le_refl _) _).setCell (Nat.le_refl _) _).setCell (Nat.le_refl _) _).setCell (Nat.le_refl _) _).setCell (Nat.le_refl _) _).setCell (Nat.le_refl _) _).setCell (Nat.le_refl _) _).setCell (Nat.le_refl _) _).setCell (Nat.le_refl _) _).setCell (Nat.le_refl _) _).setCell (Nat.le_refl _) _⟩

set_option maxRecDepth 100000 in
set_option maxHeartbeats 6000000 in
theorem readSegI_wrong (s : ByteArray) (x z : Int) (w : World) (hs : s.size ≤ 1048576) (h : 20 ≤ s.size) (hn : 20 ≤ segN s ∧ segN s ≤ s.size) (hr : (decide (segPs x z s.size ≠ ⟨#[]⟩) && sumRight (segPs x z s.size ++ s)) = false) :
    Calls Try.prog 16 #[.string s, .int .i64 x, .int .i64 z] w fun e w' => e = .returned (.tuple #[.agg #[.int .i64 0, .int .i64 0, .int .i64 0, .int .i64 0, .int .i64 0, .int .i64 0, .int .i64 0, .int .i64 0, .bool false, .bool false, .int .i64 0, .int .i64 0, .string ⟨#[]⟩], .bool false]) ∧ Below w.heap.size w w' := by
  have h0 : ¬ (s.size : Int) < 20 := by omega
  have j20 : (20 : Int) ≤ s.size := by omega
  have L0 : 0 < (s.extract 0 20).data.toList.length := by rw [len_list, ByteArray.size_extract]; omega
  have g0 := fun w => get3I (s.extract 0 (0 + 2)) 0 2 w (by rw [ByteArray.size_extract]; omega) (by omega) (by rw [ByteArray.size_extract]; omega)
  rw [gw_part s 0 2 2 (by omega)] at g0
  have P0 := Lib.hid g0
  clear g0
  have g1 := fun w => get3I (s.extract 2 (2 + 2)) 0 2 w (by rw [ByteArray.size_extract]; omega) (by omega) (by rw [ByteArray.size_extract]; omega)
  rw [gw_part s 2 2 2 (by omega)] at g1
  have P1 := Lib.hid g1
  clear g1
  have g2 := fun w => get3I (s.extract 4 (4 + 4)) 0 4 w (by rw [ByteArray.size_extract]; omega) (by omega) (by rw [ByteArray.size_extract]; omega)
  rw [gw_part s 4 4 4 (by omega)] at g2
  have P2 := Lib.hid g2
  clear g2
  have g3 := fun w => get3I (s.extract 8 (8 + 4)) 0 4 w (by rw [ByteArray.size_extract]; omega) (by omega) (by rw [ByteArray.size_extract]; omega)
  rw [gw_part s 8 4 4 (by omega)] at g3
  have P3 := Lib.hid g3
  clear g3
  have g4 := fun w => get3I (s.extract 12 (12 + 1)) 0 1 w (by rw [ByteArray.size_extract]; omega) (by omega) (by rw [ByteArray.size_extract]; omega)
  rw [gw_part s 12 1 1 (by omega)] at g4
  have P4 := Lib.hid g4
  clear g4
  have g5 := fun w => get3I (s.extract 13 (13 + 1)) 0 1 w (by rw [ByteArray.size_extract]; omega) (by omega) (by rw [ByteArray.size_extract]; omega)
  rw [gw_part s 13 1 1 (by omega)] at g5
  have P5 := Lib.hid g5
  clear g5
  have g6 := fun w => get3I (s.extract 14 (14 + 2)) 0 2 w (by rw [ByteArray.size_extract]; omega) (by omega) (by rw [ByteArray.size_extract]; omega)
  rw [gw_part s 14 2 2 (by omega)] at g6
  have P6 := Lib.hid g6
  clear g6
  have g7 := fun w => get3I (s.extract 16 (16 + 2)) 0 2 w (by rw [ByteArray.size_extract]; omega) (by omega) (by rw [ByteArray.size_extract]; omega)
  rw [gw_part s 16 2 2 (by omega)] at g7
  have P7 := Lib.hid g7
  clear g7
  have g8 := fun w => get3I (s.extract 18 (18 + 2)) 0 2 w (by rw [ByteArray.size_extract]; omega) (by omega) (by rw [ByteArray.size_extract]; omega)
  rw [gw_part s 18 2 2 (by omega)] at g8
  have P8 := Lib.hid g8
  clear g8
  have z12 : (gw s 12 1 : Nat) = (at8 s 12).toNat := gw1 s 12
  have z13 : (gw s 13 1 : Nat) = (at8 s 13).toNat := gw1 s 13
  obtain ⟨x0, hx0⟩ : ∃ r : Nat, gw s 0 2 = r := ⟨_, rfl⟩
  rw [hx0] at P0
  obtain ⟨x2, hx2⟩ : ∃ r : Nat, gw s 2 2 = r := ⟨_, rfl⟩
  rw [hx2] at P1
  obtain ⟨x4, hx4⟩ : ∃ r : Nat, gw s 4 4 = r := ⟨_, rfl⟩
  rw [hx4] at P2
  obtain ⟨x8, hx8⟩ : ∃ r : Nat, gw s 8 4 = r := ⟨_, rfl⟩
  rw [hx8] at P3
  obtain ⟨x12, hx12⟩ : ∃ r : Nat, gw s 12 1 = r := ⟨_, rfl⟩
  rw [hx12] at P4
  obtain ⟨x13, hx13⟩ : ∃ r : Nat, gw s 13 1 = r := ⟨_, rfl⟩
  rw [hx13] at P5
  obtain ⟨x14, hx14⟩ : ∃ r : Nat, gw s 14 2 = r := ⟨_, rfl⟩
  rw [hx14] at P6
  obtain ⟨x16, hx16⟩ : ∃ r : Nat, gw s 16 2 = r := ⟨_, rfl⟩
  rw [hx16] at P7
  obtain ⟨x18, hx18⟩ : ∃ r : Nat, gw s 18 2 = r := ⟨_, rfl⟩
  rw [hx18] at P8
  obtain ⟨n, hn'⟩ : ∃ n, segN s = n := ⟨_, rfl⟩
  rw [hn'] at hn
  have b12 : x12 < 256 := by rw [← hx12, z12]; exact (at8 s 12).toNat_lt
  have b13 : x13 < 256 := by rw [← hx13, z13]; exact (at8 s 13).toNat_lt
  have q0 : IntKind.i64.wrap ((x12 : Int) / 16) = (x12 : Int) / 16 := by rw [IntKind.wrap_i64]; omega
  have q1 : IntKind.i64.wrap ((x12 : Int) / 16 * 4) = (n : Int) := by rw [IntKind.wrap_i64, ← hn']; unfold segN; rw [← z12, hx12]; omega
  have SR := Lib.hid (fun w => segRightI s x z w hs)
  rw [hr] at SR
  clear hr
  obtain ⟨cap, W, hcv, hcap, hl, hb⟩ := bytes_new2 (P := Try.prog) ((w.alloc (.cells #[.int .i64 0, .int .i64 0, .int .i64 0, .int .i64 0, .int .i64 0, .int .i64 0, .int .i64 0, .int .i64 0, .bool false, .bool false, .int .i64 0, .int .i64 0, .string ⟨#[]⟩] 27)).alloc (.cells #[.int .i64 0, .int .i64 0, .int .i64 0, .int .i64 0, .int .i64 0, .int .i64 0, .int .i64 0, .int .i64 0, .int .i64 0] 59)) 9 22 5 (s.extract 0 20) Try.underlying9 Try.underlying22 Try.underlying5
  have e20 : (s.extract 0 20).size = 20 := by rw [ByteArray.size_extract]; omega
  rw [e20] at hcap hcv
  clear e20
  have hsz : ((w.alloc (.cells #[.int .i64 0, .int .i64 0, .int .i64 0, .int .i64 0, .int .i64 0, .int .i64 0, .int .i64 0, .int .i64 0, .bool false, .bool false, .int .i64 0, .int .i64 0, .string ⟨#[]⟩] 27)).alloc (.cells #[.int .i64 0, .int .i64 0, .int .i64 0, .int .i64 0, .int .i64 0, .int .i64 0, .int .i64 0, .int .i64 0, .int .i64 0] 59)).heap.size = w.heap.size + 1 + 1 := by simp
  rw [hsz] at hcv hl hb
  have hbW : Below ((w.alloc (.cells #[.int .i64 0, .int .i64 0, .int .i64 0, .int .i64 0, .int .i64 0, .int .i64 0, .int .i64 0, .int .i64 0, .bool false, .bool false, .int .i64 0, .int .i64 0, .string ⟨#[]⟩] 27)).alloc (.cells #[.int .i64 0, .int .i64 0, .int .i64 0, .int .i64 0, .int .i64 0, .int .i64 0, .int .i64 0, .int .i64 0, .int .i64 0] 59)).heap.size ((w.alloc (.cells #[.int .i64 0, .int .i64 0, .int .i64 0, .int .i64 0, .int .i64 0, .int .i64 0, .int .i64 0, .int .i64 0, .bool false, .bool false, .int .i64 0, .int .i64 0, .string ⟨#[]⟩] 27)).alloc (.cells #[.int .i64 0, .int .i64 0, .int .i64 0, .int .i64 0, .int .i64 0, .int .i64 0, .int .i64 0, .int .i64 0, .int .i64 0] 59)) W := by rw [hsz]; exact hb
  clear hb
  have B1 := Lib.hid ((((Below.refl w.heap.size w).alloc (Nat.le_refl _) _).alloc (by simp) _ : Below w.heap.size w ((w.alloc (.cells #[.int .i64 0, .int .i64 0, .int .i64 0, .int .i64 0, .int .i64 0, .int .i64 0, .int .i64 0, .int .i64 0, .bool false, .bool false, .int .i64 0, .int .i64 0, .string ⟨#[]⟩] 27)).alloc (.cells #[.int .i64 0, .int .i64 0, .int .i64 0, .int .i64 0, .int .i64 0, .int .i64 0, .int .i64 0, .int .i64 0, .int .i64 0] 59))).trans (hbW.mono (by rw [hsz]; omega)))
  have E1 := Lib.hid (((Blk.new w [.int .i64 0, .int .i64 0, .int .i64 0, .int .i64 0, .int .i64 0, .int .i64 0, .int .i64 0, .int .i64 0, .bool false, .bool false, .int .i64 0, .int .i64 0, .string ⟨#[]⟩] 27).alloc (.cells #[.int .i64 0, .int .i64 0, .int .i64 0, .int .i64 0, .int .i64 0, .int .i64 0, .int .i64 0, .int .i64 0, .int .i64 0] 59)).below hbW)
  have v1 := (Blk.new (w.alloc (.cells #[.int .i64 0, .int .i64 0, .int .i64 0, .int .i64 0, .int .i64 0, .int .i64 0, .int .i64 0, .int .i64 0, .bool false, .bool false, .int .i64 0, .int .i64 0, .string ⟨#[]⟩] 27)) [.int .i64 0, .int .i64 0, .int .i64 0, .int .i64 0, .int .i64 0, .int .i64 0, .int .i64 0, .int .i64 0, .int .i64 0] 59).below hbW
  rw [show (w.alloc (.cells #[.int .i64 0, .int .i64 0, .int .i64 0, .int .i64 0, .int .i64 0, .int .i64 0, .int .i64 0, .int .i64 0, .bool false, .bool false, .int .i64 0, .int .i64 0, .string ⟨#[]⟩] 27)).heap.size = w.heap.size + 1 by simp] at v1
  have V1 := Lib.hid v1
  obtain ⟨G, hG⟩ : ∃ G, w.heap.size + 1 + 1 = G := ⟨_, rfl⟩
  rw [hG] at hcv hl
  have L1 := Lib.hid hl
  have hGV : w.heap.size + 1 < G := by omega
  clear v1 hbW hsz hl
  have sf := segmentFields_any G 20 cap hcap
  simp only [flds] at sf
  have SF := Lib.hid sf
  clear sf
  have ix0 : ∀ w, (Instr.index 57 (.agg #[.slice (some ⟨G, 0, none⟩) 2 2, .slice (some ⟨G, 2, none⟩) 2 2, .slice (some ⟨G, 4, none⟩) 4 4, .slice (some ⟨G, 8, none⟩) 4 4, .slice (some ⟨G, 12, none⟩) 1 1, .slice (some ⟨G, 13, none⟩) 1 1, .slice (some ⟨G, 14, none⟩) 2 2, .slice (some ⟨G, 16, none⟩) 2 2, .slice (some ⟨G, 18, none⟩) 2 2]) (.int .i64 0)).run Try.prog w = .ok (.slice (some ⟨G, 0, none⟩) 2 2) w := fun _ => by kernel_rfl
  have ix1 : ∀ w, (Instr.index 57 (.agg #[.slice (some ⟨G, 0, none⟩) 2 2, .slice (some ⟨G, 2, none⟩) 2 2, .slice (some ⟨G, 4, none⟩) 4 4, .slice (some ⟨G, 8, none⟩) 4 4, .slice (some ⟨G, 12, none⟩) 1 1, .slice (some ⟨G, 13, none⟩) 1 1, .slice (some ⟨G, 14, none⟩) 2 2, .slice (some ⟨G, 16, none⟩) 2 2, .slice (some ⟨G, 18, none⟩) 2 2]) (.int .i64 1)).run Try.prog w = .ok (.slice (some ⟨G, 2, none⟩) 2 2) w := fun _ => by kernel_rfl
  have ix2 : ∀ w, (Instr.index 57 (.agg #[.slice (some ⟨G, 0, none⟩) 2 2, .slice (some ⟨G, 2, none⟩) 2 2, .slice (some ⟨G, 4, none⟩) 4 4, .slice (some ⟨G, 8, none⟩) 4 4, .slice (some ⟨G, 12, none⟩) 1 1, .slice (some ⟨G, 13, none⟩) 1 1, .slice (some ⟨G, 14, none⟩) 2 2, .slice (some ⟨G, 16, none⟩) 2 2, .slice (some ⟨G, 18, none⟩) 2 2]) (.int .i64 2)).run Try.prog w = .ok (.slice (some ⟨G, 4, none⟩) 4 4) w := fun _ => by kernel_rfl
  have ix3 : ∀ w, (Instr.index 57 (.agg #[.slice (some ⟨G, 0, none⟩) 2 2, .slice (some ⟨G, 2, none⟩) 2 2, .slice (some ⟨G, 4, none⟩) 4 4, .slice (some ⟨G, 8, none⟩) 4 4, .slice (some ⟨G, 12, none⟩) 1 1, .slice (some ⟨G, 13, none⟩) 1 1, .slice (some ⟨G, 14, none⟩) 2 2, .slice (some ⟨G, 16, none⟩) 2 2, .slice (some ⟨G, 18, none⟩) 2 2]) (.int .i64 3)).run Try.prog w = .ok (.slice (some ⟨G, 8, none⟩) 4 4) w := fun _ => by kernel_rfl
  have ix4 : ∀ w, (Instr.index 57 (.agg #[.slice (some ⟨G, 0, none⟩) 2 2, .slice (some ⟨G, 2, none⟩) 2 2, .slice (some ⟨G, 4, none⟩) 4 4, .slice (some ⟨G, 8, none⟩) 4 4, .slice (some ⟨G, 12, none⟩) 1 1, .slice (some ⟨G, 13, none⟩) 1 1, .slice (some ⟨G, 14, none⟩) 2 2, .slice (some ⟨G, 16, none⟩) 2 2, .slice (some ⟨G, 18, none⟩) 2 2]) (.int .i64 4)).run Try.prog w = .ok (.slice (some ⟨G, 12, none⟩) 1 1) w := fun _ => by kernel_rfl
  have ix5 : ∀ w, (Instr.index 57 (.agg #[.slice (some ⟨G, 0, none⟩) 2 2, .slice (some ⟨G, 2, none⟩) 2 2, .slice (some ⟨G, 4, none⟩) 4 4, .slice (some ⟨G, 8, none⟩) 4 4, .slice (some ⟨G, 12, none⟩) 1 1, .slice (some ⟨G, 13, none⟩) 1 1, .slice (some ⟨G, 14, none⟩) 2 2, .slice (some ⟨G, 16, none⟩) 2 2, .slice (some ⟨G, 18, none⟩) 2 2]) (.int .i64 5)).run Try.prog w = .ok (.slice (some ⟨G, 13, none⟩) 1 1) w := fun _ => by kernel_rfl
  have ix6 : ∀ w, (Instr.index 57 (.agg #[.slice (some ⟨G, 0, none⟩) 2 2, .slice (some ⟨G, 2, none⟩) 2 2, .slice (some ⟨G, 4, none⟩) 4 4, .slice (some ⟨G, 8, none⟩) 4 4, .slice (some ⟨G, 12, none⟩) 1 1, .slice (some ⟨G, 13, none⟩) 1 1, .slice (some ⟨G, 14, none⟩) 2 2, .slice (some ⟨G, 16, none⟩) 2 2, .slice (some ⟨G, 18, none⟩) 2 2]) (.int .i64 6)).run Try.prog w = .ok (.slice (some ⟨G, 14, none⟩) 2 2) w := fun _ => by kernel_rfl
  have ix7 : ∀ w, (Instr.index 57 (.agg #[.slice (some ⟨G, 0, none⟩) 2 2, .slice (some ⟨G, 2, none⟩) 2 2, .slice (some ⟨G, 4, none⟩) 4 4, .slice (some ⟨G, 8, none⟩) 4 4, .slice (some ⟨G, 12, none⟩) 1 1, .slice (some ⟨G, 13, none⟩) 1 1, .slice (some ⟨G, 14, none⟩) 2 2, .slice (some ⟨G, 16, none⟩) 2 2, .slice (some ⟨G, 18, none⟩) 2 2]) (.int .i64 7)).run Try.prog w = .ok (.slice (some ⟨G, 16, none⟩) 2 2) w := fun _ => by kernel_rfl
  have ix8 : ∀ w, (Instr.index 57 (.agg #[.slice (some ⟨G, 0, none⟩) 2 2, .slice (some ⟨G, 2, none⟩) 2 2, .slice (some ⟨G, 4, none⟩) 4 4, .slice (some ⟨G, 8, none⟩) 4 4, .slice (some ⟨G, 12, none⟩) 1 1, .slice (some ⟨G, 13, none⟩) 1 1, .slice (some ⟨G, 14, none⟩) 2 2, .slice (some ⟨G, 16, none⟩) 2 2, .slice (some ⟨G, 18, none⟩) 2 2]) (.int .i64 8)).run Try.prog w = .ok (.slice (some ⟨G, 18, none⟩) 2 2) w := fun _ => by kernel_rfl
  clear hx0 hx2 hx4 hx8 hx12 hx13 hx14 hx16 hx18 z12 z13
  clear hn'
  go_enter Try.func16, Try.ntmps16
  go_wp2_with fail
  refine (SF.out _).mono ?_
  rintro e w5 ⟨rfl, hb5⟩
  have B5 := Lib.hid (B1.out.trans (hb5.mono B1.out.size))
  have E5 := Lib.hid (E1.out.below hb5)
  have V5 := Lib.hid (V1.out.below hb5)
  have L5 := Lib.hid (L1.out.below L0 hb5)
  clear hb5 B1 E1 V1 L1 SF hcv
  go_wp2_with fail
  go_loopw [23] (fun i wr => ∃ j : Nat, j ≤ 9 ∧ i = .int .i64 j ∧ Hid (Blk wr (w.heap.size + 1) (segV x0 x2 x4 x8 x12 x13 x14 x16 x18 j)) ∧ Hid (Laid8 wr G (s.extract 0 20).data.toList) ∧ Hid (Blk wr w.heap.size [.int .i64 0, .int .i64 0, .int .i64 0, .int .i64 0, .int .i64 0, .int .i64 0, .int .i64 0, .int .i64 0, .bool false, .bool false, .int .i64 0, .int .i64 0, .string ⟨#[]⟩]) ∧ Hid (Below w.heap.size w wr))
    (fun i _ => 9 - (RowKit.intOf i).toNat)
  case atStart => exact ⟨0, Nat.zero_le _, rfl, V5, L5, E5, B5⟩
  case round =>
    obtain ⟨j, hj, rfl, R, L, E, B⟩ := hrel
    clear V5 L5 E5 B5
    have h9 : j = 0 ∨ j = 1 ∨ j = 2 ∨ j = 3 ∨ j = 4 ∨ j = 5 ∨ j = 6 ∨ j = 7 ∨ j = 8 ∨ j = 9 := by omega
    clear hj
    rcases h9 with rfl | rfl | rfl | rfl | rfl | rfl | rfl | rfl | rfl | rfl
    · have r := R.out
      simp only [segV] at r
      have hcj := field_conv (P := Try.prog) L.out (by omega) 0 2 (by omega) 22 9 5 2 Try.underlying22 Try.underlying5 Try.underlying9
      have vj := r.cell 0 _ rfl
      have fj := r.open 0
      have hgV := r.lt
      have R' := Lib.hid (r.set 0 (.int .i64 (x0 : Int)))
      clear r R
      go_wp2_with fail
      refine (P0.out _).mono ?_
      rintro e w6 ⟨rfl, rfl⟩
      go_wp2_with fail
      go_roundw
      case rel => exact ⟨1, by omega, by go_num, R', Lib.hid (L.out.setOther ⟨w.heap.size + 1, 0, none⟩ _ (Nat.ne_of_gt hGV)), Lib.hid (E.out.setOther ⟨w.heap.size + 1, 0, none⟩ _ (Nat.ne_of_lt (Nat.lt_succ_self _))), Lib.hid (B.out.setCell (p := ⟨w.heap.size + 1, 0, none⟩) (Nat.le_succ _) _)⟩
      case measure => simp [RowKit.intOf]
    · have r := R.out
      simp only [segV] at r
      have hcj := field_conv (P := Try.prog) L.out (by omega) 2 2 (by omega) 22 9 5 2 Try.underlying22 Try.underlying5 Try.underlying9
      have vj := r.cell 1 _ rfl
      have fj := r.open 1
      have hgV := r.lt
      have R' := Lib.hid (r.set 1 (.int .i64 (x2 : Int)))
      clear r R
      go_wp2_with fail
      refine (P1.out _).mono ?_
      rintro e w6 ⟨rfl, rfl⟩
      go_wp2_with fail
      go_roundw
      case rel => exact ⟨2, by omega, by go_num, R', Lib.hid (L.out.setOther ⟨w.heap.size + 1, 1, none⟩ _ (Nat.ne_of_gt hGV)), Lib.hid (E.out.setOther ⟨w.heap.size + 1, 1, none⟩ _ (Nat.ne_of_lt (Nat.lt_succ_self _))), Lib.hid (B.out.setCell (p := ⟨w.heap.size + 1, 1, none⟩) (Nat.le_succ _) _)⟩
      case measure => simp [RowKit.intOf]
    · have r := R.out
      simp only [segV] at r
      have hcj := field_conv (P := Try.prog) L.out (by omega) 4 4 (by omega) 22 9 5 4 Try.underlying22 Try.underlying5 Try.underlying9
      have vj := r.cell 2 _ rfl
      have fj := r.open 2
      have hgV := r.lt
      have R' := Lib.hid (r.set 2 (.int .i64 (x4 : Int)))
      clear r R
      go_wp2_with fail
      refine (P2.out _).mono ?_
      rintro e w6 ⟨rfl, rfl⟩
      go_wp2_with fail
      go_roundw
      case rel => exact ⟨3, by omega, by go_num, R', Lib.hid (L.out.setOther ⟨w.heap.size + 1, 2, none⟩ _ (Nat.ne_of_gt hGV)), Lib.hid (E.out.setOther ⟨w.heap.size + 1, 2, none⟩ _ (Nat.ne_of_lt (Nat.lt_succ_self _))), Lib.hid (B.out.setCell (p := ⟨w.heap.size + 1, 2, none⟩) (Nat.le_succ _) _)⟩
      case measure => simp [RowKit.intOf]
    · have r := R.out
      simp only [segV] at r
      have hcj := field_conv (P := Try.prog) L.out (by omega) 8 4 (by omega) 22 9 5 4 Try.underlying22 Try.underlying5 Try.underlying9
      have vj := r.cell 3 _ rfl
      have fj := r.open 3
      have hgV := r.lt
      have R' := Lib.hid (r.set 3 (.int .i64 (x8 : Int)))
      clear r R
      go_wp2_with fail
      refine (P3.out _).mono ?_
      rintro e w6 ⟨rfl, rfl⟩
      go_wp2_with fail
      go_roundw
      case rel => exact ⟨4, by omega, by go_num, R', Lib.hid (L.out.setOther ⟨w.heap.size + 1, 3, none⟩ _ (Nat.ne_of_gt hGV)), Lib.hid (E.out.setOther ⟨w.heap.size + 1, 3, none⟩ _ (Nat.ne_of_lt (Nat.lt_succ_self _))), Lib.hid (B.out.setCell (p := ⟨w.heap.size + 1, 3, none⟩) (Nat.le_succ _) _)⟩
      case measure => simp [RowKit.intOf]
    · have r := R.out
      simp only [segV] at r
      have hcj := field_conv (P := Try.prog) L.out (by omega) 12 1 (by omega) 22 9 5 1 Try.underlying22 Try.underlying5 Try.underlying9
      have vj := r.cell 4 _ rfl
      have fj := r.open 4
      have hgV := r.lt
      have R' := Lib.hid (r.set 4 (.int .i64 (x12 : Int)))
      clear r R
      go_wp2_with fail
      refine (P4.out _).mono ?_
      rintro e w6 ⟨rfl, rfl⟩
      go_wp2_with fail
      go_roundw
      case rel => exact ⟨5, by omega, by go_num, R', Lib.hid (L.out.setOther ⟨w.heap.size + 1, 4, none⟩ _ (Nat.ne_of_gt hGV)), Lib.hid (E.out.setOther ⟨w.heap.size + 1, 4, none⟩ _ (Nat.ne_of_lt (Nat.lt_succ_self _))), Lib.hid (B.out.setCell (p := ⟨w.heap.size + 1, 4, none⟩) (Nat.le_succ _) _)⟩
      case measure => simp [RowKit.intOf]
    · have r := R.out
      simp only [segV] at r
      have hcj := field_conv (P := Try.prog) L.out (by omega) 13 1 (by omega) 22 9 5 1 Try.underlying22 Try.underlying5 Try.underlying9
      have vj := r.cell 5 _ rfl
      have fj := r.open 5
      have hgV := r.lt
      have R' := Lib.hid (r.set 5 (.int .i64 (x13 : Int)))
      clear r R
      go_wp2_with fail
      refine (P5.out _).mono ?_
      rintro e w6 ⟨rfl, rfl⟩
      go_wp2_with fail
      go_roundw
      case rel => exact ⟨6, by omega, by go_num, R', Lib.hid (L.out.setOther ⟨w.heap.size + 1, 5, none⟩ _ (Nat.ne_of_gt hGV)), Lib.hid (E.out.setOther ⟨w.heap.size + 1, 5, none⟩ _ (Nat.ne_of_lt (Nat.lt_succ_self _))), Lib.hid (B.out.setCell (p := ⟨w.heap.size + 1, 5, none⟩) (Nat.le_succ _) _)⟩
      case measure => simp [RowKit.intOf]
    · have r := R.out
      simp only [segV] at r
      have hcj := field_conv (P := Try.prog) L.out (by omega) 14 2 (by omega) 22 9 5 2 Try.underlying22 Try.underlying5 Try.underlying9
      have vj := r.cell 6 _ rfl
      have fj := r.open 6
      have hgV := r.lt
      have R' := Lib.hid (r.set 6 (.int .i64 (x14 : Int)))
      clear r R
      go_wp2_with fail
      refine (P6.out _).mono ?_
      rintro e w6 ⟨rfl, rfl⟩
      go_wp2_with fail
      go_roundw
      case rel => exact ⟨7, by omega, by go_num, R', Lib.hid (L.out.setOther ⟨w.heap.size + 1, 6, none⟩ _ (Nat.ne_of_gt hGV)), Lib.hid (E.out.setOther ⟨w.heap.size + 1, 6, none⟩ _ (Nat.ne_of_lt (Nat.lt_succ_self _))), Lib.hid (B.out.setCell (p := ⟨w.heap.size + 1, 6, none⟩) (Nat.le_succ _) _)⟩
      case measure => simp [RowKit.intOf]
    · have r := R.out
      simp only [segV] at r
      have hcj := field_conv (P := Try.prog) L.out (by omega) 16 2 (by omega) 22 9 5 2 Try.underlying22 Try.underlying5 Try.underlying9
      have vj := r.cell 7 _ rfl
      have fj := r.open 7
      have hgV := r.lt
      have R' := Lib.hid (r.set 7 (.int .i64 (x16 : Int)))
      clear r R
      go_wp2_with fail
      refine (P7.out _).mono ?_
      rintro e w6 ⟨rfl, rfl⟩
      go_wp2_with fail
      go_roundw
      case rel => exact ⟨8, by omega, by go_num, R', Lib.hid (L.out.setOther ⟨w.heap.size + 1, 7, none⟩ _ (Nat.ne_of_gt hGV)), Lib.hid (E.out.setOther ⟨w.heap.size + 1, 7, none⟩ _ (Nat.ne_of_lt (Nat.lt_succ_self _))), Lib.hid (B.out.setCell (p := ⟨w.heap.size + 1, 7, none⟩) (Nat.le_succ _) _)⟩
      case measure => simp [RowKit.intOf]
    · have r := R.out
      simp only [segV] at r
      have hcj := field_conv (P := Try.prog) L.out (by omega) 18 2 (by omega) 22 9 5 2 Try.underlying22 Try.underlying5 Try.underlying9
      have vj := r.cell 8 _ rfl
      have fj := r.open 8
      have hgV := r.lt
      have R' := Lib.hid (r.set 8 (.int .i64 (x18 : Int)))
      clear r R
      go_wp2_with fail
      refine (P8.out _).mono ?_
      rintro e w6 ⟨rfl, rfl⟩
      go_wp2_with fail
      go_roundw
      case rel => exact ⟨9, by omega, by go_num, R', Lib.hid (L.out.setOther ⟨w.heap.size + 1, 8, none⟩ _ (Nat.ne_of_gt hGV)), Lib.hid (E.out.setOther ⟨w.heap.size + 1, 8, none⟩ _ (Nat.ne_of_lt (Nat.lt_succ_self _))), Lib.hid (B.out.setCell (p := ⟨w.heap.size + 1, 8, none⟩) (Nat.le_succ _) _)⟩
      case measure => simp [RowKit.intOf]
    · clear P0 P1 P2 P3 P4 P5 P6 P7 P8 ix0 ix1 ix2 ix3 ix4 ix5 ix6 ix7 ix8
      have r := R.out
      simp only [segV] at r
      have R9 := Lib.hid r
      clear r R L
      obtain ⟨⟨v0, v1, v2, v3, v4, v5, v6, v7, v8⟩, _⟩ := (show Blk wr (w.heap.size + 1) [.int .i64 (x0 : Int), .int .i64 (x2 : Int), .int .i64 (x4 : Int), .int .i64 (x8 : Int), .int .i64 (x12 : Int), .int .i64 (x13 : Int), .int .i64 (x14 : Int), .int .i64 (x16 : Int), .int .i64 (x18 : Int)] from R9.out).of9
      have hgV := R9.out.lt
      have hn2 : ¬ (n : Int) < 20 := by omega
      have hn3 : ¬ (s.size : Int) < n := by omega
      clear hn
      go_wp2_with fail
      refine (SR.out _).mono ?_
      rintro e w7 ⟨rfl, hb7⟩
      have B7 := Lib.hid (B.out.trans (hb7.mono B.out.size))
      have E7 := Lib.hid (E.out.below hb7)
      have R7 := Lib.hid (R9.out.below hb7)
      clear hb7 B E R9 v0 v1 v2 v3 v4 v5 v6 v7 v8 hgV
      obtain ⟨⟨c0, c1, c2, c3, c4, c5, c6, c7, c8, c9, c10, c11, c12⟩, f0, f1, f2, f3, f4, f5, f6, f7, f8, f9, f10, f11, f12⟩ := E7.out.of13
      have hgE := E7.out.lt
      go_wp2_with fail
      exact bodyPost_ret (v := .tuple #[.agg #[.int .i64 0, .int .i64 0, .int .i64 0, .int .i64 0, .int .i64 0, .int .i64 0, .int .i64 0, .int .i64 0, .bool false, .bool false, .int .i64 0, .int .i64 0, .string ⟨#[]⟩], .bool false]) (by simp [results, Try.results16, go_sem, c0, c1, c2, c3, c4, c5, c6, c7, c8, c9, c10, c11, c12]) rfl ⟨rfl, (((((((((((((B7.out).setCell (Nat.le_refl _) _).setCell (Nat.le_refl _) _).setCell (Nat.le_refl _) _).setCell (Nat.le_refl _) _).setCell (Nat.le_refl _) _).setCell (Nat.le_refl _) _).setCell (Nat.le_refl _) _).setCell (Nat.le_refl _) _).setCell (Nat.le_refl _) _).setCell (Nat.le_refl _) _).setCell (Nat.le_refl _) _).setCell (Nat.le_refl _) _).setCell (Nat.le_refl _) _⟩

end Go.Proofs.Ytlfbcfhekfmkfaa
