/- The place of an address in the program's table. Nothing here is a claim. -/
import Derived.Test.YtkkimgjcefojdaaEntM
namespace Go.Proofs.Ytkkimgjcefojdaa
open Go.RowKit Go.Lib

/-- Up to k, no entry has this address. -/
def NoneE (rs : List ER) (ip : Int) (k : Nat) : Prop := ∀ j (h : j < rs.length), j < k → rs[j].ip ≠ ip
theorem NoneE.zero (rs : List ER) (ip : Int) : NoneE rs ip 0 := fun _ _ h => by omega
theorem NoneE.next {rs : List ER} {ip : Int} {k : Nat} (h : NoneE rs ip k) (h1 : k < rs.length) (he : rs[k].ip ≠ ip) : NoneE rs ip (k + 1) := fun j a hj => by
  rcases Nat.lt_or_ge j k with h3 | h3
  · exact h j a h3
  · obtain rfl : j = k := by omega
    exact he
theorem NoneE.hit {rs : List ER} {ip : Int} {k : Nat} (h : NoneE rs ip k) (h1 : k < rs.length) (he : rs[k].ip = ip) : placeE rs ip = k := by
  have := atE_eq h1 he h
  rw [placeE_yes (by omega), this]
theorem NoneE.all {rs : List ER} {ip : Int} (h : NoneE rs ip rs.length) : placeE rs ip = -1 := placeE_no (by rw [atE_none h]; omega)

set_option maxHeartbeats 1000000 in
theorem indexFuncI (a : Option Addr) (cap : Nat) (rs : List ER) (ip : Int) (h : Nat) (w : World) (hrow : Row w w.heap.size a (ers rs)) (hc : Blk w h [.int .i64 ip]) (hl : rs.length ≤ 1048577) :
    Calls Try.prog 46 #[.slice a rs.length cap, .func (.func 47) #[] #[.pointer (some ⟨h, 0, none⟩)]] w (IntE (placeE rs ip) w) := by
  have R := Lib.hid hrow
  have H := Lib.hid hc
  clear hrow hc
  go_enter Try.func46, Try.ntmps46
  go_wp2_with fail
  go_loopw [8] (fun i wr => ∃ k : Nat, k ≤ rs.length ∧ i = .int .i64 k ∧ Hid (NoneE rs ip k) ∧ Hid (Below w.heap.size w wr)) (fun i _ => rs.length - (RowKit.intOf i).toNat)
  case atStart => exact ⟨0, Nat.zero_le _, rfl, NoneE.zero _ _, Below.refl _ _⟩
  case round =>
    obtain ⟨k, hk, rfl, hno, hb⟩ := hrel
    by_cases hlt : k < rs.length
    · obtain ⟨b, off, rfl, hbb, hcs⟩ := (R.out.below hb.out).er hlt
      obtain ⟨hc0, hc1, hc2⟩ := hcs k hlt
      have hk0 : (0 : Int) ≤ (k : Int) := Int.natCast_nonneg _
      have hk1 : (k : Int) < (rs.length : Int) := by omega
      have HC := H.out.below hb.out
      have C := Lib.hid (findF rs[k] ip h wr (HC.cell 0 _ rfl) HC.lt)
      clear hcs HC
      by_cases he : rs[k].ip = ip
      · have HE := Lib.hid he
        rw [decide_eq_true he] at C
        clear he
        go_wp2_with fail
        refine C.out.mono ?_
        rintro e w1 ⟨rfl, hb1⟩
        have HB1 := Lib.hid (hb.out.trans (hb1.mono hb.out.size))
        clear hb1
        go_wp2_with fail
        go_ret
        exact ⟨by rw [hno.out.hit hlt HE.out]; rfl, HB1.out⟩
      · have HE := Lib.hid he
        rw [decide_eq_false he] at C
        clear he
        go_wp2_with fail
        refine C.out.mono ?_
        rintro e w1 ⟨rfl, hb1⟩
        have HB1 := Lib.hid (hb.out.trans (hb1.mono hb.out.size))
        clear hb1
        go_wp2_with fail
        go_roundw
        case rel => exact ⟨k + 1, by omega, by go_num, hno.out.next hlt HE.out, HB1.out⟩
        case measure => simp [RowKit.intOf]; omega
    · obtain rfl : k = rs.length := by omega
      go_wp2_with fail
      go_ret
      exact ⟨by rw [hno.out.all]; rfl, hb.out⟩

set_option maxHeartbeats 1000000 in
theorem findI (a : Option Addr) (cap : Nat) (rs : List ER) (x y ip : Int) (w : World) (hrow : Row w w.heap.size a (ers rs)) (hl : rs.length ≤ 1048577) :
    Calls Try.prog 39 #[.agg #[.slice a rs.length cap, .int .i64 x, .int .i64 y], .int .i64 ip] w (IntE (placeE rs ip) w) := by
  have hmf : ∀ (fn : Fn) (first cap : Array Value) (w : World), (Instr.makeFunc fn first cap).run Try.prog w = .ok (.func fn first cap) w := fun _ _ _ _ => rfl
  have B2 := Lib.hid (show Below w.heap.size w ((w.alloc (.cells #[.slice a rs.length cap, .int .i64 x, .int .i64 y] 58)).alloc (.cells #[.int .i64 ip] 3)) from ((Below.refl _ w).alloc (Nat.le_refl _) _).alloc (by simp) _)
  have H2 := Lib.hid (show Blk ((w.alloc (.cells #[.slice a rs.length cap, .int .i64 x, .int .i64 y] 58)).alloc (.cells #[.int .i64 ip] 3)) (w.heap.size + 1) [.int .i64 ip] by
    have h0 := Blk.new (w.alloc (.cells #[.slice a rs.length cap, .int .i64 x, .int .i64 y] 58)) [.int .i64 ip] 3
    rwa [show (w.alloc (.cells #[.slice a rs.length cap, .int .i64 x, .int .i64 y] 58)).heap.size = w.heap.size + 1 by simp] at h0)
  have R := Lib.hid ((hrow.below B2.out).mono B2.out.size)
  clear hrow
  go_enter Try.func39, Try.ntmps39
  go_wp2_with fail
  refine (indexFuncI a cap rs ip (w.heap.size + 1) _ R.out H2.out hl).mono ?_
  rintro e w1 ⟨rfl, hb1⟩
  have HB1 := Lib.hid (B2.out.trans (hb1.mono B2.out.size))
  clear hb1 H2 R B2
  go_wp2_with fail
  go_ret
  exact ⟨rfl, HB1.out⟩
end Go.Proofs.Ytkkimgjcefojdaa
