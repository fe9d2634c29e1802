/- The model's MacOk. Nothing here is a claim. -/
import Derived.Test.YtobfgkiccmhgdaaGreatMacOk
import Derived.Test.YtobfgkiccmhgdaaGreatL1In
namespace Go.Proofs.YtobfgkiccmhgdaaGreat
open Go.RowKit Go.Lib Go.Maps

/-- The first j rows are in order: their values, and their inputs apart. -/
def Good (rs : List MR) (j : Nat) : Prop := (∀ i (h : i < rs.length), i < j → inTag rs[i].v) ∧ ∀ i (h : i < rs.length), i < j → ∀ p (hp : p < rs.length), p < i → rs[p].s ≠ rs[i].s
theorem Good.zero (rs : List MR) : Good rs 0 := ⟨fun _ _ h => by omega, fun _ _ h => by omega⟩
theorem Good.next {rs : List MR} {j : Nat} (h : Good rs j) (hj : j < rs.length) (h1 : inTag rs[j].v) (h2 : ∀ p (hp : p < rs.length), p < j → rs[p].s ≠ rs[j].s) : Good rs (j + 1) := by
  refine ⟨fun i hi hl => ?_, fun i hi hl => ?_⟩
  · rcases Nat.lt_or_ge i j with h3 | h3
    · exact h.1 i hi h3
    · obtain rfl : i = j := by omega
      exact h1
  · rcases Nat.lt_or_ge i j with h3 | h3
    · exact h.2 i hi h3
    · obtain rfl : i = j := by omega
      exact h2
theorem Good.all {rs : List MR} (h : Good rs rs.length) : Apart rs ∧ ∀ r ∈ rs, inTag r.v := by
  refine ⟨?_, fun r hr => by obtain ⟨i, hi, rfl⟩ := List.getElem_of_mem hr; exact h.1 i hi hi⟩
  unfold Apart
  rw [List.Nodup, List.pairwise_iff_getElem]
  intro i j hi hj hij
  rw [List.length_map] at hi hj
  rw [List.getElem_map, List.getElem_map]
  exact h.2 j hj hj i hi hij
theorem apart_ne {rs : List MR} (h : Apart rs) {i j : Nat} (hi : i < rs.length) (hj : j < rs.length) (hij : i < j) : rs[i].s ≠ rs[j].s := by
  unfold Apart at h
  rw [List.Nodup, List.pairwise_iff_getElem] at h
  have := h i j (by simpa using hi) (by simpa using hj) hij
  simpa using this
theorem bad_val {k l : Int} {rs : List MR} {j : Nat} (hj : j < rs.length) (h : ¬ inTag rs[j].v) : macOk true k l rs = false := macOk_no fun e => h (e.2.2.2.2 _ (List.getElem_mem hj))
theorem bad_pair {k l : Int} {rs : List MR} {i j : Nat} (hi : i < rs.length) (hj : j < rs.length) (hij : i < j) (h : rs[i].s = rs[j].s) : macOk true k l rs = false := macOk_no fun e => apart_ne e.2.2.2.1 hi hj hij h

theorem Row.mrAt {w : World} {B b off : Nat} {rs : List MR} (h : Row w B (some ⟨b, off, none⟩) (mrs rs)) {i : Nat} (hi : i < rs.length) : w.cell? ⟨b, off + i * 2, none⟩ = some (.string rs[i].s) ∧ w.cell? ⟨b, off + i * 2 + 1, none⟩ = some (.int .i64 rs[i].v) := by
  obtain ⟨b', off', e, _, hc⟩ := h.mr hi
  injection e with e
  injection e with e1 e2
  subst e1 e2
  exact hc i hi
theorem str_neS {x y : ByteArray} (h : x ≠ y) : (x.toList == y.toList) = false := by
  rw [beq_eq_false_iff_ne]
  exact fun e => h (by rw [ByteArray.toList_eq, ByteArray.toList_eq] at e; exact ByteArray.ext (Array.toList_inj.1 e))
theorem str_eqS {x y : ByteArray} (h : x = y) : (x.toList == y.toList) = true := by
  rw [h]
  simp

set_option maxRecDepth 100000 in
set_option maxHeartbeats 8000000 in
theorem macOkS (u : Bool) (k l : Int) (a : Option Addr) (cap : Nat) (rs : List MR) (hl : rs.length ≤ 1048577) (w : World) (hrow : Row w w.heap.size a (mrs rs)) :
    Calls Tryz.prog 32 #[.agg #[.bool u, .int .u64 k, .int .u64 l, .slice a rs.length cap]] w fun e w' => e = .returned (.bool (macOk u k l rs)) ∧ Below w.heap.size w w' := by
  have B1 := Lib.hid (show Below w.heap.size w (w.alloc (.cells #[.bool u, .int .u64 k, .int .u64 l, .slice a rs.length cap] 27)) from (Below.refl _ w).alloc (Nat.le_refl _) _)
  cases u
  · rw [macOk_key]
    clear hl hrow
    go_enter Tryz.func32, Tryz.ntmps32
    go_wp2_with fail
    go_ret
    exact ⟨ret_bool (by rw [Bool.eq_iff_iff]; simp), B1.out⟩
  obtain ⟨r, hr⟩ : ∃ r, Hid (macOk true k l rs = r) := ⟨_, rfl⟩
  rw [hr.out]
  have E1 := Lib.hid (Blk.new w [.bool true, .int .u64 k, .int .u64 l, .slice a rs.length cap] 27)
  have R := Lib.hid ((hrow.below B1.out).mono B1.out.size)
  clear hrow
  go_enter Tryz.func32, Tryz.ntmps32
  go_wp2_with fail
  generalize (w.alloc (.cells #[.bool true, .int .u64 k, .int .u64 l, .slice a rs.length cap] 27)) = w1 at B1 E1 R ⊢
  go_loopw [3] (fun i wr => ∃ j : Nat, j ≤ rs.length ∧ i = .int .i64 j ∧ Hid (Good rs j) ∧ Hid (Below w1.heap.size w1 wr)) (fun i _ => rs.length - (RowKit.intOf i).toNat)
  case atStart => exact ⟨0, Nat.zero_le _, rfl, Good.zero rs, Below.refl _ _⟩
  case round =>
    obtain ⟨j, hj, rfl, hgd, hbl⟩ := hrel
    obtain ⟨⟨x0, x1, x2, x3⟩, _, _, _, _⟩ := (E1.out.below hbl.out).four
    by_cases hlt : j < rs.length
    · obtain ⟨p, o, rfl, hpb, hcs⟩ := (R.out.below hbl.out).mr hlt
      obtain ⟨hc0, hc1⟩ := hcs j hlt
      have hk0 : (0 : Int) ≤ (j : Int) := Int.natCast_nonneg _
      have hk1 : (j : Int) < (rs.length : Int) := by omega
      clear hcs
      by_cases hin : 0 ≤ rs[j].v ∧ rs[j].v ≤ 16777215
      · go_wp2_with fail
        refine (l1In_yes _ _ _ _ hin.1 hin.2).mono ?_
        rintro e wl ⟨rfl, rfl⟩
        go_wp2_with fail
        clear x0 x1 x2 x3 hc0 hc1
        go_loopw [4] (fun i wx => ∃ q : Nat, q ≤ j ∧ i = .int .i64 q ∧ Hid (∀ n (hn : n < rs.length), n < q → rs[n].s ≠ rs[j].s) ∧ Hid (Below w1.heap.size w1 wx)) (fun i _ => j - (RowKit.intOf i).toNat)
        case atStart => exact ⟨0, Nat.zero_le _, rfl, fun n hn h => by omega, hbl⟩
        case round =>
          obtain ⟨q, hq, rfl, hno, hbx⟩ := hrel
          obtain ⟨⟨y0, y1, y2, y3⟩, _, _, _, _⟩ := (E1.out.below hbx.out).four
          by_cases hlt2 : q < j
          · have hq' : q < rs.length := by omega
            obtain ⟨hd0, hd1⟩ := (R.out.below hbx.out).mrAt hq'
            obtain ⟨hf0, hf1⟩ := (R.out.below hbx.out).mrAt hlt
            have hq0 : (0 : Int) ≤ (q : Int) := Int.natCast_nonneg _
            have hq1 : (q : Int) < (rs.length : Int) := by omega
            by_cases he : rs[q].s = rs[j].s
            · have hs := str_eqS he
              have hx := Lib.hid (bad_pair (k := k) (l := l) hq' hlt hlt2 he)
              clear he
              go_wp2_with fail
              go_quiet (fail)
              go_wp2_with fail
              go_ret
              exact ⟨ret_bool (by rw [← hr.out, hx.out]), B1.out.trans ((below_drawn hbx.out _).mono B1.out.size)⟩
            · have hs := str_neS he
              have HE := Lib.hid he
              clear he
              go_wp2_with fail
              go_quiet (fail)
              go_wp2_with fail
              go_roundw
              case rel =>
                refine ⟨q + 1, by omega, by go_num, fun n hn h => ?_, below_drawn hbx.out _⟩
                rcases Nat.lt_or_ge n q with h1 | h1
                · exact hno.out n hn h1
                · obtain rfl : n = q := by omega
                  exact HE.out
              case measure => simp [RowKit.intOf]; omega
          · obtain rfl : q = j := by omega
            go_wp2_with fail
            go_roundw
            case rel => exact ⟨q + 1, by omega, by go_num, hgd.out.next hlt ⟨hin.1, by omega⟩ hno.out, hbx⟩
            case measure => simp [RowKit.intOf]; omega
      · have hx := Lib.hid (bad_val (k := k) (l := l) hlt (fun h => hin ⟨h.1, by have := h.2; omega⟩))
        go_wp2_with fail
        refine (l1In_no _ _ _ _ hin).mono ?_
        rintro e wl ⟨rfl, rfl⟩
        go_wp2_with fail
        go_ret
        exact ⟨ret_bool (by rw [← hr.out, hx.out]), B1.out.trans (hbl.out.mono B1.out.size)⟩
    · obtain rfl : j = rs.length := by omega
      obtain ⟨hap, hall⟩ := hgd.out.all
      by_cases hk : k = 0
      case neg =>
        have hx := Lib.hid (macOk_no (k := k) (l := l) (rs := rs) (fun h => hk h.1))
        have hk' : (k == 0) = false := by simpa using hk
        clear hap hall hk
        go_wp2_with fail
        go_ret
        exact ⟨ret_bool (by rw [← hr.out, hx.out]), B1.out.trans (hbl.out.mono B1.out.size)⟩
      subst hk
      by_cases hk : l = 0
      case neg =>
        have hx := Lib.hid (macOk_no (k := 0) (l := l) (rs := rs) (fun h => hk h.2.1))
        have hk' : (l == 0) = false := by simpa using hk
        clear hap hall hk
        go_wp2_with fail
        go_ret
        exact ⟨ret_bool (by rw [← hr.out, hx.out]), B1.out.trans (hbl.out.mono B1.out.size)⟩
      subst hk
      by_cases hn : rs.length ≤ 64
      · have hx := Lib.hid (macOk_yes ⟨rfl, rfl, hn, hap, hall⟩)
        have hn' : (rs.length : Int) ≤ 64 := by omega
        clear hap hall hn
        go_wp2_with fail
        go_ret
        exact ⟨ret_bool (by rw [← hr.out, hx.out]), B1.out.trans (hbl.out.mono B1.out.size)⟩
      · have hx := Lib.hid (macOk_no (k := 0) (l := 0) (rs := rs) (fun h => hn h.2.2.1))
        have hn' : ¬ (rs.length : Int) ≤ 64 := by omega
        clear hap hall hn
        go_wp2_with fail
        go_ret
        exact ⟨ret_bool (by rw [← hr.out, hx.out]), B1.out.trans (hbl.out.mono B1.out.size)⟩
end Go.Proofs.YtobfgkiccmhgdaaGreat
