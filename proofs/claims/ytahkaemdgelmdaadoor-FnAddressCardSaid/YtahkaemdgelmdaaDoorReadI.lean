/- impl.Address -/
import Derived.Test.YtahkaemdgelmdaaDoorReadS
namespace Go.Proofs.YtahkaemdgelmdaaDoor
open Go.RowKit Go.Lib

theorem numI (s : ByteArray) (m : Int) (b : Bool) (h : Hid (numOut s = (m, b))) (w : World) (hs : s.size ≤ 1048576) : Calls Tryd.prog 19 #[.string s] w fun e w' => e = .returned (.tuple #[.int .i64 m, .bool b]) ∧ Below w.heap.size w w' := by
  have := numberI s w hs; rw [h.out] at this; exact this
theorem wordOk8 (x : Int) (h0 : 0 ≤ x) : wordOk x 8 = decide (x ≤ 255) := by
  unfold wordOk; rw [decide_eq_decide, show (8 : Int).toNat = 8 by rfl]
  have : (2 : Int) ^ 8 = 256 := by decide
  omega
theorem wordOk8I (x : Int) (b : Bool) (h : Hid (wordOk x 8 = b)) (w : World) : Calls Tryd.prog 20 #[.int .i64 x, .int .i64 8] w fun e w' => e = .returned (.bool b) ∧ w = w' := by
  have := wordOkI x 8 w; rw [h.out] at this; exact this
/-- A piece that is no byte's number: no address. -/
theorem adr_bad (s : ByteArray) (ps : List ByteArray) (hp : pieces s 46 = ps) (k : Nat) (hk : k < ps.length) (h4 : k < 4) (x : Int) (y : Bool) (h : numOut ps[k] = (x, y)) (hb : y = false ∨ 255 < x) : adrOut s = (0, false) := by
  refine adrOut_no s (fun hg => ?_)
  rw [hp] at hg
  obtain ⟨m, hm, hle⟩ := hg.2 k h4
  rw [getD_eq ps k hk, h] at hm
  have e1 : x = m := congrArg Prod.fst hm
  have e2 : y = true := congrArg Prod.snd hm
  rcases hb with rfl | hb
  · cases e2
  · omega

set_option maxRecDepth 100000 in
set_option maxHeartbeats 1000000 in
theorem addressI (s : ByteArray) (m : Int) (w : World) (hs : s.size ≤ 1048576) (hm : w.cell? ⟨1, 0, none⟩ = some (.int .i64 m)) :
    Calls Tryd.prog 7 #[.string s] w fun e w' => e = .returned (.tuple #[.int .i64 (adrOut s).1, .bool (adrOut s).2]) ∧ Below w.heap.size w w' := by
  have C := Lib.hid (partsI s 46 m w hs hm)
  clear hm
  have hlen := pieces_length s 46
  have hps := Lib.hid (piece_size s 46)
  have BAD := Lib.hid (adr_bad s)
  have YES := Lib.hid (adrOut_yes s)
  have NO := Lib.hid (adrOut_no s)
  obtain ⟨out, hout⟩ : ∃ out, adrOut s = out := ⟨_, rfl⟩
  rw [hout] at BAD YES NO
  rw [hout]
  clear hout
  obtain ⟨ps, hpp⟩ : ∃ ps, pieces s 46 = ps := ⟨_, rfl⟩
  unfold PartsEnd at C
  have BAD' := Lib.hid (BAD.out ps hpp)
  rw [hpp] at C hlen hps YES NO
  clear hpp BAD
  by_cases h4 : ps.length = 4
  · clear NO
    go_enter Tryd.func7, Tryd.ntmps7
    go_wp2_with fail
    refine C.out.mono ?_
    rintro e w1 ⟨g, cap, rfl, hown, hb1, hcap⟩
    have hrow := Row.own hown
    have R := Lib.hid hrow
    have B1 := Lib.hid hb1
    clear hown hb1 hrow
    go_wp2_with fail
    go_loopw [5, 14] (fun n i wr => ∃ k q : Nat, k ≤ 4 ∧ i = .int .i64 k ∧ n = .int .i64 q ∧ q ≤ 4294967295 ∧ Hid (q = adn ps k) ∧ Hid (∀ j, j < k → GoodAt ps j) ∧ Below w1.heap.size w1 wr)
      (fun _ i _ => 4 - (RowKit.intOf i).toNat)
    case atStart => exact ⟨0, 0, Nat.zero_le _, rfl, rfl, by omega, rfl, fun j hj => by omega, Below.refl _ _⟩
    case round =>
      obtain ⟨k, q, hk4, rfl, rfl, hq4, hq, hgood, hb⟩ := hrel
      have B := Lib.hid hb
      by_cases hlt : k < 4
      · have h1 : k < ps.length := by omega
        obtain ⟨b, off, hao, hbb, hcs⟩ := (R.out.below hb).str h1
        cases hao
        have hc := hcs k h1
        rw [Nat.zero_add] at hc
        have hk0 : (0 : Int) ≤ (k : Int) := by omega
        have hk1 : (k : Int) < (ps.length : Int) := by omega
        have hq3 : q ≤ 1099511627775 := by omega
        obtain ⟨x, y, hxy⟩ : ∃ x y, numOut ps[k] = (x, y) := ⟨_, _, rfl⟩
        have hx := numOut_bd ps[k]
        rw [hxy] at hx
        obtain ⟨hx0, hx1⟩ := hx
        have NUM := Lib.hid hxy
        have hsz := Nat.le_trans (hps.out k h1) hs
        clear hcs hxy hb
        cases y with
        | false =>
          have O2 : Hid (out = (0, false)) := BAD'.out k h1 hlt x false NUM.out (.inl rfl)
          go_wp2_with fail
          refine (numI ps[k] x false NUM wr hsz).mono ?_
          rintro e w2 ⟨rfl, hb2⟩
          have B2 := Lib.hid (B1.out.trans ((B.out.trans (hb2.mono B.out.size)).mono B1.out.size))
          clear hb2 hc
          go_wp2_with fail
          go_ret2
          rw [O2.out]
          exact ⟨rfl, B2.out⟩
        | true =>
          by_cases hle : x ≤ 255
          · obtain ⟨m, rfl⟩ : ∃ m : Nat, x = (m : Int) := ⟨x.toNat, by omega⟩
            have hm8 : m < 256 := by omega
            have hw8 : Hid (wordOk (m : Int) 8 = true) := by show _ = _; rw [wordOk8 _ hx0]; exact decide_eq_true hle
            have hor := or_byte q m hq3 hm8
            have hgd : Hid (GoodAt ps k) := ⟨m, by rw [getD_eq ps k h1]; exact NUM.out, by omega⟩
            have E : Hid (256 * q + m = adn ps (k + 1)) := by
              show _ = _; rw [hq.out]; exact (adn_good (by rw [getD_eq ps k h1]; exact NUM.out) (by omega)).symm
            have hqn := adn_bd ps (k + 1) (by omega)
            rw [← E.out] at hqn
            go_wp2_with fail
            refine (numI ps[k] m true NUM wr hsz).mono ?_
            rintro e w2 ⟨rfl, hb2⟩
            have B2 := Lib.hid (B.out.trans (hb2.mono B.out.size))
            clear hb2 hc
            go_wp2_with fail
            refine (wordOk8I m true hw8 w2).mono ?_
            rintro e w3 ⟨rfl, rfl⟩
            go_wp2_with fail
            go_roundw
            case rel => exact ⟨k + 1, 256 * q + m, by omega, by go_num, by go_num, hqn, E, fun j hj => (by by_cases e : j = k; exact e ▸ hgd.out; exact hgood.out j (by omega)), B2.out⟩
            case measure => simp [RowKit.intOf]; omega
          · have O2 : Hid (out = (0, false)) := BAD'.out k h1 hlt x true NUM.out (.inr (by omega))
            have hw8 : Hid (wordOk x 8 = false) := by show _ = _; rw [wordOk8 _ hx0]; exact decide_eq_false hle
            go_wp2_with fail
            refine (numI ps[k] x true NUM wr hsz).mono ?_
            rintro e w2 ⟨rfl, hb2⟩
            have B2 := Lib.hid (B1.out.trans ((B.out.trans (hb2.mono B.out.size)).mono B1.out.size))
            clear hb2 hc
            go_wp2_with fail
            refine (wordOk8I x false hw8 w2).mono ?_
            rintro e w3 ⟨rfl, rfl⟩
            go_wp2_with fail
            go_ret2
            rw [O2.out]
            exact ⟨rfl, B2.out⟩
      · obtain rfl : k = 4 := by omega
        have O2 : Hid (out = ((q : Int), true)) := by show _ = _; rw [hq.out]; exact YES.out ⟨h4, hgood.out⟩
        clear hb
        go_wp2_with fail
        go_ret2
        rw [O2.out]
        exact ⟨rfl, B1.out.trans (B.out.mono B1.out.size)⟩
  · have O2 : Hid (out = (0, false)) := NO.out (fun h => h4 h.1)
    have hn4 : ((ps.length : Int) != 4) = true := by simp; omega
    clear NO YES h4
    go_enter Tryd.func7, Tryd.ntmps7
    go_wp2_with fail
    refine C.out.mono ?_
    rintro e w1 ⟨g, cap, rfl, hown, hb1, hcap⟩
    have B1 := Lib.hid hb1
    clear hown hb1
    go_wp2_with fail
    go_ret2
    rw [O2.out]
    exact ⟨rfl, B1.out⟩
end Go.Proofs.YtahkaemdgelmdaaDoor
