/- The draws' own l1Bytes. -/
import Derived.Test.YtpbnkkgfjmkcdaaCurA
namespace Go.Proofs.Ytpbnkkgfjmkcdaa
open Go.RowKit Go.Lib

/-- What l1Bytes hands back: n bytes in a new row. -/
def BytesEnd (w : World) (B g n : Nat) (e : Ending) (w' : World) : Prop :=
  ∃ (v : Value) (l : List UInt8), e = .returned v ∧ l.length = n ∧ w'.ownsRow w.heap.size 5 1 v n (byteCells l) ∧ CurB w' B g ∧ w.grownBy w' (some g)

set_option maxHeartbeats 1000000 in
theorem l1Bytes_any (B g n : Nat) (w : World) (hc : CurB w B g) (hn : n ≤ 1048576) : Calls Try.prog 63 #[.pointer (some ⟨g, 0, none⟩), .int .i64 n] w (BytesEnd w B g n) := by
  obtain ⟨i0, hi, hz0, hz1, hz2⟩ := info_parts Try.info5
  have hglt := hc.lt
  have hBg := hc.1
  have C := Lib.hid hc
  clear hc
  go_enter Try.func63, Try.ntmps63
  go_wp2_with fail
  go_loopw [5, 6] (fun v i wr => ∃ k : Nat, k ≤ n ∧ i = .int .i64 k ∧ ∃ l : List UInt8, Hid (l.length = k) ∧ wr.ownsRow w.heap.size 5 1 v k (byteCells l) ∧ CurB wr B g ∧ w.grownBy wr (some g))
    (fun _ i _ => n - (RowKit.intOf i).toNat)
  case atStart => exact ⟨0, Nat.zero_le _, rfl, [], rfl, World.ownsRow_lit w #[] 0 (Nat.le_refl _) (by simp [maxLen]) rfl, C.out.new _, World.grownBy_alloc w _ _⟩
  case round =>
    obtain ⟨k, hk, rfl, l, hl, hown, hcur, hgr⟩ := hrel
    by_cases hlt : k < n
    · have O := Lib.hid hown
      have K := Lib.hid hcur
      have G := Lib.hid hgr
      clear hown hcur hgr
      go_wp2_with fail
      refine (l1Byte_any B g wr K.out).mono ?_
      rintro e w1 ⟨r, rfl, ⟨r0, r1⟩, hc1, hg1⟩
      obtain ⟨c, rfl⟩ : ∃ c : UInt8, r = (c.toNat : Int) := ⟨UInt8.ofNat r.toNat, by rw [UInt8.toNat_ofNat']; omega⟩
      have hown1 := O.out.kept hg1 (.inr (fun e => by have := (O.out.lt g e).1; omega))
      have hG1 := grown_tr G.out hg1
      have hsz : w.heap.size ≤ w1.heap.size := hG1.size
      have K1 := Lib.hid hc1
      have G1 := Lib.hid hG1
      clear hc1 hg1 hG1
      go_wp2_with (at_builtin; refine wpList_append_lies _ rfl _ _ _ rfl w.heap.size 5 i0 _ 1 1 Try.underlying22 hi hz0 hz1 hz2 rfl (by omega) _ k _ rfl (hown1.alloc _) ⟨w1.heap.size, 0, none⟩ 1 1 [.int .u8 c.toNat] rfl rfl (World.news_of_block (cs := #[.int .u8 c.toNat]) (t := 5) (fr := (0, 0)) (heap_alloc_new w1 _)) (by simp [Value.oneCell']) (by omega) (by unfold maxLen; omega) (by omega) (by simp; omega) (w1.heap.size + 1) (by simp) ?_; intro gg cap w2 hown2 hgrow hat hlt')
      have hk2 := app_keeps K1.out hglt (Nat.le_of_lt (Nat.lt_of_le_of_lt hBg hglt)) rfl G1.out hown1 hgrow
      have O2 := Lib.hid (show w2.ownsRow w.heap.size 5 1 (.slice (some ⟨gg, 0, none⟩) (k + 1) cap) (k + 1) (byteCells (l ++ [c])) by rw [byteCells_append]; exact hown2)
      clear hown1 hown2 hgrow hat hlt'
      go_roundw
      case rel => exact ⟨k + 1, by omega, by go_num, l ++ [c], by show _ = _; rw [List.length_append, hl.out]; rfl, O2.out, hk2.1, hk2.2⟩
      case measure => simp [RowKit.intOf]; omega
    · obtain rfl : k = n := by omega
      go_wp2_with fail
      go_ret
      exact ⟨_, l, rfl, hl.out, hown, hcur, hgr⟩

end Go.Proofs.Ytpbnkkgfjmkcdaa
