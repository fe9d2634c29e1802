/- spec.AddressText -/
import Derived.Test.YtahkaemdgelmdaaDoorPutS
import Derived.Test.YtahkaemdgelmdaaDoorJoinS
import Derived.Test.YtahkaemdgelmdaaDoorAdrKit
namespace Go.Proofs.YtahkaemdgelmdaaDoor
open Go.RowKit Go.Lib

theorem kept_below {w w' : World} {B n : Nat} {e : TypeId} {v : Value} {xs : List Value} (h : w.ownsRow B e 1 v n xs) (hb : Below w.heap.size w w') : w'.ownsRow B e 1 v n xs :=
  h.kept (row := none) (below_any hb) (by cases hv : v.ownBlock with | none => exact .inl rfl | some x => exact .inr (fun e => by cases e))

/-- A row of strings that the call owns, as a slice. -/
theorem own_shape {w : World} {B n : Nat} {e : TypeId} {v : Value} {ss : List ByteArray} (h : w.ownsRow B e 1 v n (strVals ss)) (hn : n = ss.length) : ∃ a cap, v = .slice a ss.length cap ∧ Row w w.heap.size a (strVals ss) := by
  subst hn
  rcases h.2 with ⟨hv, hx⟩ | ⟨g, cap, cur, hv, hrest⟩
  · have : ss = [] := by cases ss <;> simp_all
    subst this
    exact ⟨none, 0, hv, Row.nil⟩
  · subst hv
    exact ⟨_, cap, rfl, Row.own h⟩

set_option maxHeartbeats 1000000 in
theorem addressTextS (n : Int) (w : World) :
    Calls Tryd.prog 22 #[.int .i64 n] w fun e w' => e = .returned (.string (adrText n)) ∧ Below w.heap.size w w' := by
  obtain ⟨i0, hi, hz0, hz1, hz2⟩ := info_parts Tryd.info9
  have C := Lib.hid (putWordS n 4)
  have E : Hid (adrText n = textOf (putW n 4)) := rfl
  have ht := putW_six n
  obtain ⟨t, hpt⟩ : ∃ t, putW n 4 = t := ⟨_, rfl⟩
  rw [hpt] at C E ht
  rw [E.out]
  clear E hpt
  go_enter Tryd.func22, Tryd.ntmps22
  go_wp2_with fail
  refine (C.out w).mono ?_
  rintro e w1 ⟨rfl, hb1⟩
  go_wp2_with fail
  go_loopw [4, 5] (fun v i wr => ∃ k : Nat, k ≤ t.size ∧ i = .int .i64 k ∧ wr.ownsRow w.heap.size 9 1 v k (strVals ((digs t).take k)) ∧ Below w.heap.size w wr)
    (fun _ i _ => t.size - (RowKit.intOf i).toNat)
  case atStart => exact ⟨0, Nat.zero_le _, rfl, World.ownsRow_lit w1 #[] 0 hb1.size (by simp [maxLen]) rfl, hb1.alloc hb1.size _⟩
  case round =>
    clear hb1
    obtain ⟨k, hk, rfl, hown, hb⟩ := hrel
    by_cases hlt : k < t.size
    · have h8 : t[k].toNat < 256 := t[k].toNat_lt
      have O := Lib.hid hown
      have B := Lib.hid hb
      clear hown hb
      go_wp2_with fail
      refine (digitsS (t[k].toNat : Int) wr (by omega) (by omega)).mono ?_
      rintro e w2 ⟨rfl, hb2⟩
      have hown : w2.ownsRow w.heap.size 9 1 u4 k (strVals ((digs t).take k)) := kept_below O.out hb2
      have hb : Below w.heap.size w w2 := B.out.trans (hb2.mono B.out.size)
      have E : Hid ((⟨(itoa (t[k].toNat : Int)).toArray⟩ : ByteArray) = dig1 t[k]) := rfl
      obtain ⟨d, hd⟩ : ∃ d : ByteArray, (⟨(itoa (t[k].toNat : Int)).toArray⟩ : ByteArray) = d := ⟨_, rfl⟩
      rw [hd] at E
      rw [hd]
      clear hb2 hd
      go_wp2_with (at_builtin; refine wpList_append_lies _ rfl _ _ _ rfl w.heap.size 9 i0 _ 1 16 Tryd.underlying35 hi hz0 hz1 hz2 rfl (by omega) _ k _ rfl (hown.alloc _) ⟨w2.heap.size, 0, none⟩ 1 1 [.string d] rfl rfl (World.news_of_block (cs := #[.string d]) (t := 9) (fr := (0, 0)) (heap_alloc_new w2 _)) (by simp [Value.oneCell']) (by omega) (by unfold maxLen; omega) (by omega) (by have := hb.size; simp; omega) (w2.heap.size + 1) (by simp) ?_; intro gg cap w3 hown1 hgrow hat hlt')
      have hb1 := below_app' hb hown hgrow
      rw [E.out, digs_snoc t k hlt] at hown1
      clear hgrow hown
      go_roundw
      case rel => exact ⟨k + 1, by omega, by go_num, hown1, hb1⟩
      case measure => simp [RowKit.intOf]; omega
    · obtain rfl : k = t.size := by omega
      rw [List.take_of_length_le (by rw [digs_length]; exact Nat.le_refl _)] at hown
      obtain ⟨a, cap, rfl, hrow⟩ := own_shape hown (digs_length t).symm
      have hl := digs_length t
      have J := Lib.hid (joinedS a cap (digs t) ⟨#[46]⟩ wr hrow (by omega) (by decide) (lens_digs t ht))
      have B := Lib.hid hb
      clear hown hrow hb hl
      go_wp2_with fail
      refine J.out.mono ?_
      rintro e w2 ⟨rfl, hb2⟩
      have B2 := Lib.hid (B.out.trans (hb2.mono B.out.size))
      clear hb2
      go_wp2_with fail
      go_ret
      exact ⟨rfl, B2.out⟩
end Go.Proofs.YtahkaemdgelmdaaDoor
