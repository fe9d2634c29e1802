/- HwOf and Aged, of both sides. Nothing here is a claim. -/
import Derived.Test.YtkkimgjcefojdaaEntS
import Derived.Test.YtkkimgjcefojdaaEntV
import Derived.Deep.AppendLies
namespace Go.Proofs.Ytkkimgjcefojdaa
open Go.RowKit Go.Lib

/-- The Hw of the first entry with this address, and whether there is one. -/
def hwE (rs : List ER) (ip : Int) : Int := match rs[atE rs ip]? with | some r => r.hw | none => 0
noncomputable def hasE (rs : List ER) (ip : Int) : Bool := decide (atE rs ip < rs.length)
def HwEnd (rs : List ER) (ip : Int) (w : World) (e : Ending) (w' : World) : Prop := e = .returned (.tuple #[.int .i64 (hwE rs ip), .bool (hasE rs ip)]) ∧ Below w.heap.size w w'

set_option maxHeartbeats 1000000 in
theorem hwOfI (a : Option Addr) (cap : Nat) (rs : List ER) (ip : Int) (w : World) (hrow : Row w w.heap.size a (ers rs)) (hl : rs.length ≤ 1048577) :
    Calls Try.prog 25 #[.slice a rs.length cap, .int .i64 ip] w (HwEnd rs ip w) := by
  have HR := Lib.hid hrow
  clear hrow
  have C := Lib.hid (fun w1 h => findI a cap rs 4 9 ip w1 h hl)
  by_cases h : atE rs ip < rs.length
  · have HP : HwEnd rs ip w = fun e w' => e = .returned (.tuple #[.int .i64 rs[atE rs ip].hw, .bool true]) ∧ Below w.heap.size w w' := by
      funext e w'
      unfold HwEnd hwE hasE
      rw [List.getElem?_eq_getElem h, decide_eq_true h]
    rw [HP]
    rw [placeE_yes h] at C
    generalize hk : atE rs ip = k at C h ⊢
    clear HP hk
    go_enter Try.func25, Try.ntmps25
    go_wp2_with fail
    refine (cacheOfI a rs.length cap w).mono ?_
    rintro e w1 ⟨rfl, hb⟩
    have B1 := Lib.hid hb
    clear hb
    go_wp2_with fail
    refine (C.out w1 ((HR.out.below B1.out).mono B1.out.size)).mono ?_
    rintro e w2 ⟨rfl, hb⟩
    have B2 := Lib.hid (B1.out.trans (hb.mono B1.out.size))
    clear hb B1
    obtain ⟨b, off, rfl, hbb, hcs⟩ := (HR.out.below B2.out).er h
    obtain ⟨hc0, hc1, hc2⟩ := hcs k h
    have hk0 : (0 : Int) ≤ (k : Int) := Int.natCast_nonneg _
    have hk1 : (k : Int) < (rs.length : Int) := by omega
    clear hcs
    go_wp2_with fail
    exact bodyPost_ret (v := .tuple #[.int .i64 rs[k].hw, .bool true]) (by simp [results, Try.results25, go_sem]) rfl ⟨rfl, B2.out⟩
  · have HP : HwEnd rs ip w = fun e w' => e = .returned (.tuple #[.int .i64 0, .bool false]) ∧ Below w.heap.size w w' := by
      funext e w'
      unfold HwEnd hwE hasE
      rw [List.getElem?_eq_none (by omega), decide_eq_false h]
    rw [HP]
    rw [placeE_no h] at C
    clear HP
    go_enter Try.func25, Try.ntmps25
    go_wp2_with fail
    refine (cacheOfI a rs.length cap w).mono ?_
    rintro e w1 ⟨rfl, hb⟩
    have B1 := Lib.hid hb
    clear hb
    go_wp2_with fail
    refine (C.out w1 ((HR.out.below B1.out).mono B1.out.size)).mono ?_
    rintro e w2 ⟨rfl, hb⟩
    have B2 := Lib.hid (B1.out.trans (hb.mono B1.out.size))
    clear hb B1
    go_wp2_with fail
    exact bodyPost_ret (v := .tuple #[.int .i64 0, .bool false]) (by simp [results, Try.results25, go_sem]) rfl ⟨rfl, B2.out⟩

set_option maxHeartbeats 1000000 in
theorem hwOfS (a : Option Addr) (cap : Nat) (rs : List ER) (ip : Int) (w : World) (hrow : Row w w.heap.size a (ers rs)) (hl : rs.length ≤ 1048577) :
    Calls Try.prog 22 #[.slice a rs.length cap, .int .i64 ip] w (HwEnd rs ip w) := by
  have HR := Lib.hid hrow
  clear hrow
  have C := Lib.hid (fun w1 h => atS a rs.length cap rs ip w1 h rfl hl)
  by_cases h : atE rs ip < rs.length
  · have HP : HwEnd rs ip w = fun e w' => e = .returned (.tuple #[.int .i64 rs[atE rs ip].hw, .bool true]) ∧ Below w.heap.size w w' := by
      funext e w'
      unfold HwEnd hwE hasE
      rw [List.getElem?_eq_getElem h, decide_eq_true h]
    rw [HP]
    rw [placeE_yes h] at C
    generalize hk : atE rs ip = k at C h ⊢
    clear HP hk
    go_enter Try.func22, Try.ntmps22
    go_wp2_with fail
    refine (C.out w HR.out).mono ?_
    rintro e w2 ⟨rfl, hb⟩
    have B2 := Lib.hid hb
    clear hb
    obtain ⟨b, off, rfl, hbb, hcs⟩ := (HR.out.below B2.out).er h
    obtain ⟨hc0, hc1, hc2⟩ := hcs k h
    have hk0 : (0 : Int) ≤ (k : Int) := Int.natCast_nonneg _
    have hk1 : (k : Int) < (rs.length : Int) := by omega
    clear hcs
    go_wp2_with fail
    exact bodyPost_ret (v := .tuple #[.int .i64 rs[k].hw, .bool true]) (by simp [results, Try.results22, go_sem]) rfl ⟨rfl, B2.out⟩
  · have HP : HwEnd rs ip w = fun e w' => e = .returned (.tuple #[.int .i64 0, .bool false]) ∧ Below w.heap.size w w' := by
      funext e w'
      unfold HwEnd hwE hasE
      rw [List.getElem?_eq_none (by omega), decide_eq_false h]
    rw [HP]
    rw [placeE_no h] at C
    clear HP
    go_enter Try.func22, Try.ntmps22
    go_wp2_with fail
    refine (C.out w HR.out).mono ?_
    rintro e w2 ⟨rfl, hb⟩
    have B2 := Lib.hid hb
    clear hb
    go_wp2_with fail
    exact bodyPost_ret (v := .tuple #[.int .i64 0, .bool false]) (by simp [results, Try.results22, go_sem]) rfl ⟨rfl, B2.out⟩
end Go.Proofs.Ytkkimgjcefojdaa
