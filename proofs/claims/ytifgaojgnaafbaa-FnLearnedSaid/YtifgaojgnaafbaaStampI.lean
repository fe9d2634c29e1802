/- impl's stampPacker and stampReader, the closures. Nothing here is a claim. -/
import Derived.Test.YtifgaojgnaafbaaStampKit
import Derived.Test.YtifgaojgnaafbaaWordA
import Derived.Test.YtifgaojgnaafbaaCurA
import Derived.StillTailTactics
namespace Go.Proofs.Ytifgaojgnaafbaa
open Go.RowKit Go.Lib

/-- What a packer hands back, and leaves in its two variables. -/
def PackEnd (w : World) (B f g : Nat) (s u : Int) (e : Ending) (w' : World) : Prop :=
  e = .returned (.int .i64 s) ∧ Blk w' f [.int .i64 s] ∧ Blk w' g [.int .i64 u] ∧ Below B w w'
/-- What a reader hands back, and leaves in its variable. -/
def ReadEnd (w : World) (B f : Nat) (s u : Int) (e : Ending) (w' : World) : Prop :=
  e = .returned (.int .i64 s) ∧ Blk w' f [.int .i64 u] ∧ Below B w w'

theorem pack0_eq (p s : Int) (h0 : 0 ≤ s) (h1 : s < 1) : bits .or .i64 s (IntKind.i64.wrap (bits .and .i64 p (IntKind.i64.wrap (IntKind.i64.wrap 16 - 1)))) = s + (p % 16) := by
  rw [show IntKind.i64.wrap (IntKind.i64.wrap 16 - 1) = 15 by decide, and_low15]
  obtain ⟨a, rfl⟩ : ∃ a : Nat, s = (a : Int) := ⟨s.toNat, by omega⟩
  obtain ⟨c, hc⟩ : ∃ c : Nat, p % 16 = (c : Int) := ⟨(p % 16).toNat, by omega⟩
  have hcl : c < 16 := by omega
  have hw : IntKind.i64.wrap (p % 16) = ((c * 2 ^ 0 : Nat) : Int) := by
    rw [IntKind.wrap_i64, hc, show (2 : Nat) ^ 0 = 1 from rfl]
    omega
  rw [hw, or_above a c 0 (by rw [show (2 : Nat) ^ 0 = 1 from rfl]; omega) (by rw [show (2 : Nat) ^ 0 = 1 from rfl]; omega), hc, show (2 : Nat) ^ 0 = 1 from rfl]
  omega

set_option maxHeartbeats 1000000 in
theorem pack0I (p s : Int) (h0 : 0 ≤ s) (h1 : s < 1) (B f g : Nat) (hf : B ≤ f) (hg : B ≤ g) (hne : f ≠ g) (w : World) (F : Blk w f [.int .i64 s]) (G : Blk w g [.int .i64 0]) :
    Calls Try.prog 45 #[.int .i64 p, .int .i64 4, .pointer (some ⟨f, 0, none⟩), .pointer (some ⟨g, 0, none⟩)] w (PackEnd w B f g (s + (p % 16)) 4) := by
  have cf := F.cell 0 _ rfl
  have cg := G.cell 0 _ rfl
  have ff := F.open 0
  have fg := G.open 0
  have F0 := Lib.hid F
  have G0 := Lib.hid G
  have E := pack0_eq p s h0 h1
  clear F G
  obtain ⟨z, hz⟩ : ∃ z : Int, s + (p % 16) = z := ⟨_, rfl⟩
  rw [hz] at E ⊢
  clear hz
  go_enter Try.func45, Try.ntmps45
  go_wp2_with fail
  go_still_tail 9, (by kernel_rfl)
  change wpList _ _ _ _ _ w.drew
  clear E
  obtain ⟨w2, B2, F2, G2⟩ : ∃ w2, Hid (w2 = w.drew ∧ Below B w w2) ∧ Hid (Blk w2 f [.int .i64 s]) ∧ Hid (Blk w2 g [.int .i64 0]) := ⟨w.drew, ⟨rfl, (Below.refl _ _).drew⟩, F0.out.drew, G0.out.drew⟩
  rw [← B2.out.1]
  clear cf cg ff fg F0 G0
  have cf := F2.out.cell 0 _ rfl
  have cg := G2.out.cell 0 _ rfl
  have ff := F2.out.open 0
  have fg := G2.out.open 0
  have hne2 : ¬ g = f := fun e => hne e.symm
  go_wp2_with fail
  go_ret
  exact ⟨rfl, (F2.out.set 0 _).setOther ⟨g, 0, none⟩ _ hne, (G2.out.setOther ⟨f, 0, none⟩ _ hne2).set 0 _, (B2.out.2.setCell hf _).setCell hg _⟩

theorem pack4_eq (p s : Int) (h0 : 0 ≤ s) (h1 : s < 16) : bits .or .i64 s (IntKind.i64.wrap (bits .and .i64 p (IntKind.i64.wrap (IntKind.i64.wrap 2 - 1)) * 16)) = s + (p % 2) * 16 := by
  rw [show IntKind.i64.wrap (IntKind.i64.wrap 2 - 1) = 1 by decide, and_low1]
  obtain ⟨a, rfl⟩ : ∃ a : Nat, s = (a : Int) := ⟨s.toNat, by omega⟩
  obtain ⟨c, hc⟩ : ∃ c : Nat, p % 2 = (c : Int) := ⟨(p % 2).toNat, by omega⟩
  have hcl : c < 2 := by omega
  have hw : IntKind.i64.wrap (p % 2 * 16) = ((c * 2 ^ 4 : Nat) : Int) := by
    rw [IntKind.wrap_i64, hc, show (2 : Nat) ^ 4 = 16 from rfl]
    omega
  rw [hw, or_above a c 4 (by rw [show (2 : Nat) ^ 4 = 16 from rfl]; omega) (by rw [show (2 : Nat) ^ 4 = 16 from rfl]; omega), hc, show (2 : Nat) ^ 4 = 16 from rfl]
  omega

set_option maxHeartbeats 1000000 in
theorem pack4I (p s : Int) (h0 : 0 ≤ s) (h1 : s < 16) (B f g : Nat) (hf : B ≤ f) (hg : B ≤ g) (hne : f ≠ g) (w : World) (F : Blk w f [.int .i64 s]) (G : Blk w g [.int .i64 4]) :
    Calls Try.prog 45 #[.int .i64 p, .int .i64 1, .pointer (some ⟨f, 0, none⟩), .pointer (some ⟨g, 0, none⟩)] w (PackEnd w B f g (s + (p % 2) * 16) 5) := by
  have cf := F.cell 0 _ rfl
  have cg := G.cell 0 _ rfl
  have ff := F.open 0
  have fg := G.open 0
  have F0 := Lib.hid F
  have G0 := Lib.hid G
  have E := pack4_eq p s h0 h1
  clear F G
  obtain ⟨z, hz⟩ : ∃ z : Int, s + (p % 2) * 16 = z := ⟨_, rfl⟩
  rw [hz] at E ⊢
  clear hz
  go_enter Try.func45, Try.ntmps45
  go_wp2_with fail
  go_still_tail 9, (by kernel_rfl)
  change wpList _ _ _ _ _ w.drew
  clear E
  obtain ⟨w2, B2, F2, G2⟩ : ∃ w2, Hid (w2 = w.drew ∧ Below B w w2) ∧ Hid (Blk w2 f [.int .i64 s]) ∧ Hid (Blk w2 g [.int .i64 4]) := ⟨w.drew, ⟨rfl, (Below.refl _ _).drew⟩, F0.out.drew, G0.out.drew⟩
  rw [← B2.out.1]
  clear cf cg ff fg F0 G0
  have cf := F2.out.cell 0 _ rfl
  have cg := G2.out.cell 0 _ rfl
  have ff := F2.out.open 0
  have fg := G2.out.open 0
  have hne2 : ¬ g = f := fun e => hne e.symm
  go_wp2_with fail
  go_ret
  exact ⟨rfl, (F2.out.set 0 _).setOther ⟨g, 0, none⟩ _ hne, (G2.out.setOther ⟨f, 0, none⟩ _ hne2).set 0 _, (B2.out.2.setCell hf _).setCell hg _⟩

theorem pack5_eq (p s : Int) (h0 : 0 ≤ s) (h1 : s < 32) : bits .or .i64 s (IntKind.i64.wrap (bits .and .i64 p (IntKind.i64.wrap (IntKind.i64.wrap 2 - 1)) * 32)) = s + (p % 2) * 32 := by
  rw [show IntKind.i64.wrap (IntKind.i64.wrap 2 - 1) = 1 by decide, and_low1]
  obtain ⟨a, rfl⟩ : ∃ a : Nat, s = (a : Int) := ⟨s.toNat, by omega⟩
  obtain ⟨c, hc⟩ : ∃ c : Nat, p % 2 = (c : Int) := ⟨(p % 2).toNat, by omega⟩
  have hcl : c < 2 := by omega
  have hw : IntKind.i64.wrap (p % 2 * 32) = ((c * 2 ^ 5 : Nat) : Int) := by
    rw [IntKind.wrap_i64, hc, show (2 : Nat) ^ 5 = 32 from rfl]
    omega
  rw [hw, or_above a c 5 (by rw [show (2 : Nat) ^ 5 = 32 from rfl]; omega) (by rw [show (2 : Nat) ^ 5 = 32 from rfl]; omega), hc, show (2 : Nat) ^ 5 = 32 from rfl]
  omega

set_option maxHeartbeats 1000000 in
theorem pack5I (p s : Int) (h0 : 0 ≤ s) (h1 : s < 32) (B f g : Nat) (hf : B ≤ f) (hg : B ≤ g) (hne : f ≠ g) (w : World) (F : Blk w f [.int .i64 s]) (G : Blk w g [.int .i64 5]) :
    Calls Try.prog 45 #[.int .i64 p, .int .i64 1, .pointer (some ⟨f, 0, none⟩), .pointer (some ⟨g, 0, none⟩)] w (PackEnd w B f g (s + (p % 2) * 32) 6) := by
  have cf := F.cell 0 _ rfl
  have cg := G.cell 0 _ rfl
  have ff := F.open 0
  have fg := G.open 0
  have F0 := Lib.hid F
  have G0 := Lib.hid G
  have E := pack5_eq p s h0 h1
  clear F G
  obtain ⟨z, hz⟩ : ∃ z : Int, s + (p % 2) * 32 = z := ⟨_, rfl⟩
  rw [hz] at E ⊢
  clear hz
  go_enter Try.func45, Try.ntmps45
  go_wp2_with fail
  go_still_tail 9, (by kernel_rfl)
  change wpList _ _ _ _ _ w.drew
  clear E
  obtain ⟨w2, B2, F2, G2⟩ : ∃ w2, Hid (w2 = w.drew ∧ Below B w w2) ∧ Hid (Blk w2 f [.int .i64 s]) ∧ Hid (Blk w2 g [.int .i64 5]) := ⟨w.drew, ⟨rfl, (Below.refl _ _).drew⟩, F0.out.drew, G0.out.drew⟩
  rw [← B2.out.1]
  clear cf cg ff fg F0 G0
  have cf := F2.out.cell 0 _ rfl
  have cg := G2.out.cell 0 _ rfl
  have ff := F2.out.open 0
  have fg := G2.out.open 0
  have hne2 : ¬ g = f := fun e => hne e.symm
  go_wp2_with fail
  go_ret
  exact ⟨rfl, (F2.out.set 0 _).setOther ⟨g, 0, none⟩ _ hne, (G2.out.setOther ⟨f, 0, none⟩ _ hne2).set 0 _, (B2.out.2.setCell hf _).setCell hg _⟩

theorem pack6_eq (p s : Int) (h0 : 0 ≤ s) (h1 : s < 64) : bits .or .i64 s (IntKind.i64.wrap (bits .and .i64 p (IntKind.i64.wrap (IntKind.i64.wrap 67108864 - 1)) * 64)) = s + (p % 67108864) * 64 := by
  rw [show IntKind.i64.wrap (IntKind.i64.wrap 67108864 - 1) = 67108863 by decide, and_low26]
  obtain ⟨a, rfl⟩ : ∃ a : Nat, s = (a : Int) := ⟨s.toNat, by omega⟩
  obtain ⟨c, hc⟩ : ∃ c : Nat, p % 67108864 = (c : Int) := ⟨(p % 67108864).toNat, by omega⟩
  have hcl : c < 67108864 := by omega
  have hw : IntKind.i64.wrap (p % 67108864 * 64) = ((c * 2 ^ 6 : Nat) : Int) := by
    rw [IntKind.wrap_i64, hc, show (2 : Nat) ^ 6 = 64 from rfl]
    omega
  rw [hw, or_above a c 6 (by rw [show (2 : Nat) ^ 6 = 64 from rfl]; omega) (by rw [show (2 : Nat) ^ 6 = 64 from rfl]; omega), hc, show (2 : Nat) ^ 6 = 64 from rfl]
  omega

set_option maxHeartbeats 1000000 in
theorem pack6I (p s : Int) (h0 : 0 ≤ s) (h1 : s < 64) (B f g : Nat) (hf : B ≤ f) (hg : B ≤ g) (hne : f ≠ g) (w : World) (F : Blk w f [.int .i64 s]) (G : Blk w g [.int .i64 6]) :
    Calls Try.prog 45 #[.int .i64 p, .int .i64 26, .pointer (some ⟨f, 0, none⟩), .pointer (some ⟨g, 0, none⟩)] w (PackEnd w B f g (s + (p % 67108864) * 64) 32) := by
  have cf := F.cell 0 _ rfl
  have cg := G.cell 0 _ rfl
  have ff := F.open 0
  have fg := G.open 0
  have F0 := Lib.hid F
  have G0 := Lib.hid G
  have E := pack6_eq p s h0 h1
  clear F G
  obtain ⟨z, hz⟩ : ∃ z : Int, s + (p % 67108864) * 64 = z := ⟨_, rfl⟩
  rw [hz] at E ⊢
  clear hz
  go_enter Try.func45, Try.ntmps45
  go_wp2_with fail
  go_still_tail 9, (by kernel_rfl)
  change wpList _ _ _ _ _ w.drew
  clear E
  obtain ⟨w2, B2, F2, G2⟩ : ∃ w2, Hid (w2 = w.drew ∧ Below B w w2) ∧ Hid (Blk w2 f [.int .i64 s]) ∧ Hid (Blk w2 g [.int .i64 6]) := ⟨w.drew, ⟨rfl, (Below.refl _ _).drew⟩, F0.out.drew, G0.out.drew⟩
  rw [← B2.out.1]
  clear cf cg ff fg F0 G0
  have cf := F2.out.cell 0 _ rfl
  have cg := G2.out.cell 0 _ rfl
  have ff := F2.out.open 0
  have fg := G2.out.open 0
  have hne2 : ¬ g = f := fun e => hne e.symm
  go_wp2_with fail
  go_ret
  exact ⟨rfl, (F2.out.set 0 _).setOther ⟨g, 0, none⟩ _ hne, (G2.out.setOther ⟨f, 0, none⟩ _ hne2).set 0 _, (B2.out.2.setCell hf _).setCell hg _⟩

theorem read4_eq (s : Int) : bits .and .i64 s (IntKind.i64.wrap (IntKind.i64.wrap 16 - 1)) = s % 16 := by
  rw [show IntKind.i64.wrap (IntKind.i64.wrap 16 - 1) = 15 by decide, and_low15]

set_option maxHeartbeats 1000000 in
theorem read4I (s : Int) (B f : Nat) (hf : B ≤ f) (w : World) (F : Blk w f [.int .i64 s]) :
    Calls Try.prog 46 #[.int .i64 4, .pointer (some ⟨f, 0, none⟩)] w (ReadEnd w B f (s % 16) (s / 16)) := by
  have cf := F.cell 0 _ rfl
  have ff := F.open 0
  have F0 := Lib.hid F
  have E := and_low15 s
  clear F
  obtain ⟨z, hz⟩ : ∃ z : Int, s % 16 = z := ⟨_, rfl⟩
  rw [hz] at E ⊢
  clear hz
  go_enter Try.func46, Try.ntmps46
  go_wp2_with fail
  go_region
  go_wp2_with fail
  go_ret
  exact ⟨rfl, F0.out.drew.set 0 _, (Below.refl _ _).drew.setCell hf _⟩

theorem read1_eq (s : Int) : bits .and .i64 s (IntKind.i64.wrap (IntKind.i64.wrap 2 - 1)) = s % 2 := by
  rw [show IntKind.i64.wrap (IntKind.i64.wrap 2 - 1) = 1 by decide, and_low1]

set_option maxHeartbeats 1000000 in
theorem read1I (s : Int) (B f : Nat) (hf : B ≤ f) (w : World) (F : Blk w f [.int .i64 s]) :
    Calls Try.prog 46 #[.int .i64 1, .pointer (some ⟨f, 0, none⟩)] w (ReadEnd w B f (s % 2) (s / 2)) := by
  have cf := F.cell 0 _ rfl
  have ff := F.open 0
  have F0 := Lib.hid F
  have E := and_low1 s
  clear F
  obtain ⟨z, hz⟩ : ∃ z : Int, s % 2 = z := ⟨_, rfl⟩
  rw [hz] at E ⊢
  clear hz
  go_enter Try.func46, Try.ntmps46
  go_wp2_with fail
  go_region
  go_wp2_with fail
  go_ret
  exact ⟨rfl, F0.out.drew.set 0 _, (Below.refl _ _).drew.setCell hf _⟩

theorem hasScaleI (c : Int) (w : World) : Calls Try.prog 32 #[.int .i64 c] w fun e w' => e = .returned (.bool (decide (0 ≤ c ∧ c ≤ 14))) ∧ w = w' := by
  by_cases h : 0 ≤ c
  · go_enter Try.func32, Try.ntmps32
    go_wp2
    go_ret
    exact ⟨ret_bool (by simp [h]), rfl⟩
  · go_enter Try.func32, Try.ntmps32
    go_wp2
    go_ret
    exact ⟨ret_bool (by rw [decide_eq_false (show ¬ 0 ≤ c by omega)]; rfl), rfl⟩

theorem packerI (w : World) : Calls Try.prog 33 #[] w fun e w' => e = .returned (.func (.func 45) #[] #[.pointer (some ⟨w.heap.size, 0, none⟩), .pointer (some ⟨w.heap.size + 1, 0, none⟩)]) ∧ Blk w' w.heap.size [.int .i64 0] ∧ Blk w' (w.heap.size + 1) [.int .i64 0] ∧ Below w.heap.size w w' := by
  have hmf : ∀ (fn : Fn) (first cap : Array Value) (w : World), (Instr.makeFunc fn first cap).run Try.prog w = .ok (.func fn first cap) w := fun _ _ _ _ => rfl
  go_enter Try.func33, Try.ntmps33
  go_wp2
  go_ret
  exact ⟨rfl, (Blk.new w [.int .i64 0] 3).alloc _, by have h := Blk.new (w.alloc (.cells #[.int .i64 0] 3)) [.int .i64 0] 3; simpa using h, ((Below.refl _ _).alloc (Nat.le_refl _) _).alloc (by simp) _⟩

theorem readerI (s : Int) (w : World) : Calls Try.prog 36 #[.int .i64 s] w fun e w' => e = .returned (.func (.func 46) #[] #[.pointer (some ⟨w.heap.size, 0, none⟩)]) ∧ Blk w' w.heap.size [.int .i64 s] ∧ Below w.heap.size w w' := by
  have hmf : ∀ (fn : Fn) (first cap : Array Value) (w : World), (Instr.makeFunc fn first cap).run Try.prog w = .ok (.func fn first cap) w := fun _ _ _ _ => rfl
  go_enter Try.func36, Try.ntmps36
  go_wp2
  go_ret
  exact ⟨rfl, Blk.new w [.int .i64 s] 3, (Below.refl _ _).alloc (Nat.le_refl _) _⟩
end Go.Proofs.Ytifgaojgnaafbaa
