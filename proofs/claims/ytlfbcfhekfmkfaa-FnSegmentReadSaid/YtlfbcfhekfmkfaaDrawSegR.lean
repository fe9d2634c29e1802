/- The draw DrawReadSegment. -/
import Derived.Test.YtlfbcfhekfmkfaaDraw9
import Derived.Test.YtlfbcfhekfmkfaaIp6
import Derived.Test.YtlfbcfhekfmkfaaCurO
import Derived.Test.YtlfbcfhekfmkfaaTurned
import Derived.Test.YtlfbcfhekfmkfaaSegTxtS
import Derived.Test.YtlfbcfhekfmkfaaSegBack
import Derived.Deep.DeepCutAuto
import Derived.Deep.RegionHeld3
namespace Go.Proofs.Ytlfbcfhekfmkfaa
open Go.RowKit Go.Lib

def turn9Cs : Array Value := #[.string ⟨#[0]⟩, .string ⟨#[120]⟩, .string ⟨#[255]⟩]
theorem turn9Cs_bd : ∀ v ∈ turn9Cs.toList, ∃ x, v = .string x ∧ x.size ≤ 100 := by
  intro v hv
  simp only [turn9Cs, List.mem_cons, List.mem_nil_iff, or_false] at hv
  rcases hv with rfl | rfl | rfl <;> exact ⟨_, rfl, by decide⟩
theorem turnNew9 (B g : Nat) (w : World) (hc : CurB w B g) (s : ByteArray) (hs : s.size ≤ 1000000) :
    Calls Try.prog 48 #[.pointer (some ⟨g, 0, none⟩), .string s, .slice (some ⟨w.heap.size, 0, none⟩) 3 3] (w.alloc (.cells turn9Cs 9)) (TurnEnd w B g (s.size + 100)) := by
  have hlt := hc.lt
  refine (l1Turned_any B g w.heap.size _ (hc.new _) s hs turn9Cs (heap_alloc_new w _) (by omega) (by decide) (by decide) turn9Cs_bd).mono ?_
  rintro e w' ⟨t, rfl, ht, h1, h2⟩
  exact ⟨t, rfl, ht, h1, grown_tr (World.grownBy_alloc w _ _) h2⟩
def at9Cs : Array Value := #[.int .i64 12, .int .i64 13, .int .i64 18, .int .i64 20]
theorem at9Cs_bd : ∀ v ∈ at9Cs.toList, ∃ x : Nat, v = .int .i64 (x : Int) ∧ x ≤ 20 := by
  intro v hv
  simp only [at9Cs, List.mem_cons, List.mem_nil_iff, or_false] at hv
  rcases hv with rfl | rfl | rfl | rfl
  · exact ⟨12, rfl, by decide⟩
  · exact ⟨13, rfl, by decide⟩
  · exact ⟨18, rfl, by decide⟩
  · exact ⟨20, rfl, by decide⟩
theorem pickAt9 (B g : Nat) (w : World) (hc : CurB w B g) :
    Calls Try.prog 50 #[.pointer (some ⟨g, 0, none⟩), .slice (some ⟨w.heap.size, 0, none⟩) 4 4] (w.alloc (.cells at9Cs 3)) fun e w' => ∃ x : Nat, e = .returned (.int .i64 (x : Int)) ∧ x ≤ 20 ∧ CurB w' B g ∧ w.grownBy w' (some g) := by
  have hlt := hc.lt
  refine (l1PickInt_any B g w.heap.size _ (hc.new _) at9Cs (heap_alloc_new w _) (by omega) (by decide) (by decide) (fun v hv => by obtain ⟨x, h, _⟩ := at9Cs_bd v hv; exact ⟨_, h⟩)).mono ?_
  rintro e w' ⟨v, hv, rfl, h1, h2⟩
  obtain ⟨x, rfl, hx⟩ := at9Cs_bd v hv
  exact ⟨x, rfl, hx, h1, grown_tr (World.grownBy_alloc w _ _) h2⟩

set_option maxRecDepth 100000 in
set_option maxHeartbeats 8000000 in
theorem drawReadSegment (a0 : Option Addr) (bs : List UInt8) (cap : Nat) (w : World) (hrow : Row w w.heap.size a0 (byteCells bs)) (hbs : bs.length ≤ 1048576) :
    Calls Try.prog 18 #[.slice a0 bs.length cap] w fun e w' => ∃ (s : ByteArray) (x y : Int), e = .returned (.tuple #[.string s, .int .i64 x, .int .i64 y]) ∧ s.size ≤ 1560 ∧ (I64 x ∧ I64 y) ∧ Below w.heap.size w w' := by
  have C := Lib.hid (l1New_any a0 bs cap w hrow hbs)
  clear hrow
  go_enter Try.func18, Try.ntmps18
  go_wp2_with fail
  refine C.out.mono ?_
  rintro e w1 ⟨g, rfl, hc1, hb1⟩
  have C1 := Lib.hid hc1
  have B1 := Lib.hid hb1
  clear hc1 hb1 C
  go_wp2_with fail
  refine (l6Ip_any _ g w1 C1.out).mono ?_
  rintro e w2 ⟨x, rfl, hx, hcn, hgn⟩
  have B2 := Lib.hid (below_cur B1.out C1.out hgn)
  have C2 := Lib.hid hcn
  clear hcn hgn
  have X := Lib.hid hx
  clear hx B1 C1
  go_wp2_with fail
  refine (l6Ip_any _ g w2 C2.out).mono ?_
  rintro e w3 ⟨z, rfl, hz, hcn, hgn⟩
  have B3 := Lib.hid (below_cur B2.out C2.out hgn)
  have C3 := Lib.hid hcn
  clear hcn hgn
  have Z := Lib.hid hz
  clear hz B2 C2
  go_wp2_with fail
  refine (l9Segment_any _ g w3 C3.out).mono ?_
  rintro e w4 ⟨p, d, q, a, r, n, m, c, k, t, v, u, b, rfl, hcn, hgn⟩
  have B4 := Lib.hid (below_cur B3.out C3.out hgn)
  have C4 := Lib.hid hcn
  clear hcn hgn
  have hsz := segText_le ⟨p, d, q, a, r, n, ⟨m, c, k, t, v, u⟩, b⟩ x z
  have CT := segTextS p d q a r n m c k t v u b x z w4
  obtain ⟨s, hs⟩ : ∃ s, segText ⟨p, d, q, a, r, n, ⟨m, c, k, t, v, u⟩, b⟩ x z = s := ⟨_, rfl⟩
  rw [hs] at CT hsz
  have CT := Lib.hid CT
  clear hs B3 C3
  go_wp2_with fail
  refine CT.out.mono ?_
  rintro e w5 ⟨rfl, hb5⟩
  have C5 := Lib.hid (C4.out.below hb5)
  have B5 := Lib.hid (B4.out.trans (hb5.mono B4.out.size))
  clear hb5 CT B4 C4
  go_wp2_with fail
  refine (l1Once_any _ g w5 C5.out 3 (by omega) (by omega)).mono ?_
  rintro e w6 ⟨o, rfl, hcn, hgn⟩
  have B6 := Lib.hid (below_cur B5.out C5.out hgn)
  have C6 := Lib.hid hcn
  clear hcn hgn
  clear B5 C5
  go_upto_if 23 with fail
  go_cut [8] (fun s wx => ∃ t : ByteArray, s = .string t ∧ t.size ≤ 1560 ∧ CurB wx w.heap.size g ∧ Below w.heap.size w wx)
  case first =>
    cases o with
    | false =>
      go_wp2_with fail
      go_meet
      case rel => exact ⟨s, rfl, by omega, C6.out, B6.out⟩
    | true =>
      go_wp2_with fail
      refine (turnNew9 _ g w6 C6.out s (by omega)).mono ?_
      rintro e w7 ⟨t, rfl, ht, hcn, hgn⟩
      have B7 := Lib.hid (below_cur B6.out C6.out hgn)
      have C7 := Lib.hid hcn
      clear hcn hgn
      go_wp2_with fail
      go_meet
      case rel => exact ⟨t, rfl, by omega, C7.out, B7.out⟩
  case rest =>
    obtain ⟨s, rfl, hs, hC, hB⟩ := hcut
    have C8 := Lib.hid hC
    have B8 := Lib.hid hB
    clear hC hB C6 B6 hsz
    go_upto_region 7 with fail
    generalize wc = w8 at C8 B8 ⊢
    go_cut [34] (fun v wx => ∃ o : Bool, v = .bool o ∧ (o = true → 20 < s.size) ∧ CurB wx w.heap.size g ∧ Below w.heap.size w wx)
    case first =>
      by_cases hl : 20 < s.size
      · have hl' : (20 : Int) < s.size := by omega
        go_wp2_with fail
        refine (l1Once_any _ g w8 C8.out 4 (by omega) (by omega)).mono ?_
        rintro e w9 ⟨o, rfl, hcn, hgn⟩
        have B9 := Lib.hid (below_cur B8.out C8.out hgn)
        have C9 := Lib.hid hcn
        clear hcn hgn
        go_wp2_with fail
        go_meet
        case rel => exact ⟨o, rfl, fun _ => hl, C9.out, B9.out⟩
      · have hl' : ¬ (20 : Int) < s.size := by omega
        go_wp2_with fail
        go_meet
        case rel => exact ⟨false, rfl, fun h => absurd h Bool.false_ne_true, C8.out, B8.out⟩
    case rest =>
      obtain ⟨o, rfl, ho, hC, hB⟩ := hcut
      have C9 := Lib.hid hC
      have B9 := Lib.hid hB
      clear hC hB C8 B8
      go_upto_if 34 with fail
      generalize wc = w9 at C9 B9 ⊢
      go_cut [8] (fun s wx => ∃ t : ByteArray, s = .string t ∧ t.size ≤ 1560 ∧ CurB wx w.heap.size g ∧ Below w.heap.size w wx)
      case first =>
        cases o with
        | false =>
          go_wp2_with fail
          go_meet
          case rel => exact ⟨s, rfl, hs, C9.out, B9.out⟩
        | true =>
          have hl := ho rfl
          obtain ⟨cap, W, hcv, hcap, hlaid, hbW⟩ := bytes_new2 (P := Try.prog) w9 9 22 5 s Try.underlying9 Try.underlying22 Try.underlying5
          have hl0 : s.data.toList.length = s.size := by simp
          obtain ⟨l, el⟩ : ∃ l, s.data.toList = l := ⟨_, rfl⟩
          rw [el] at hl0 hlaid
          have L10 := Lib.hid hlaid
          have C10 := Lib.hid (C9.out.below hbW)
          have B10 := Lib.hid (B9.out.trans (hbW.mono B9.out.size))
          have hfg : w9.heap.size ≠ g := Nat.ne_of_gt C9.out.lt
          have hBf : w.heap.size ≤ w9.heap.size := B9.out.size
          clear hlaid hbW el
          go_wp2_with fail
          clear hcv C9 B9
          generalize w9.heap.size = f at *
          refine (pickAt9 _ g W C10.out).mono ?_
          rintro e w11 ⟨j, rfl, hj, hcn, hgn⟩
          have L11 := Lib.hid (L10.out.grown (by omega) hgn hfg)
          have B11 := Lib.hid (below_cur B10.out C10.out hgn)
          have C11 := Lib.hid hcn
          clear hcn hgn L10 C10 B10
          go_wp2_with fail
          refine (l1Byte_any _ g w11 C11.out).mono ?_
          rintro e w12 ⟨y, rfl, ⟨y0, y1⟩, hcn, hgn⟩
          have L12 := Lib.hid (L11.out.grown (by omega) hgn hfg)
          have B12 := Lib.hid (below_cur B11.out C11.out hgn)
          have C12 := Lib.hid hcn
          clear hcn hgn L11 C11 B11
          obtain ⟨b8, hb8⟩ : ∃ b8 : UInt8, IntKind.u8.wrap y = (b8.toNat : Int) := ⟨UInt8.ofNat y.toNat, by rw [UInt8.toNat_ofNat']; simp only [IntKind.wrap, IntKind.bits, IntKind.signed]; simp; omega⟩
          have hcell := L12.out.1 j (by omega)
          have hfz := L12.out.2 j (by omega)
          have L13 := Lib.hid (L12.out.set (i := j) (by omega) b8)
          have C13 := Lib.hid (C12.out.setOther ⟨f, j, none⟩ (.int .u8 (b8.toNat : Int)) hBf hfg)
          have B13 := Lib.hid (B12.out.setCell (p := ⟨f, j, none⟩) hBf (.int .u8 (b8.toNat : Int)))
          have hjs : j < s.size := by omega
          have hji : (j : Int) < s.size := by omega
          have i16 : (16 : Int) < s.size := by omega
          have i17 : (17 : Int) < s.size := by omega
          go_upto_region 10 with fail
          generalize w12.setCell ⟨f, j, none⟩ (.int .u8 (b8.toNat : Int)) = w13 at L13 C13 B13 ⊢
          have hl13 : (l.set j b8).length = s.size := by rw [List.length_set, hl0]
          generalize l.set j b8 = l13 at L13 hl13
          clear hcell hfz L12 C12 B12 hb8 y0 y1
          have c16 := L13.out.1 16 (by omega)
          have c17 := L13.out.1 17 (by omega)
          have z16 := L13.out.2 16 (by omega)
          have z17 := L13.out.2 17 (by omega)
          have L14 : Laid8 ((w13.setCell ⟨f, 16, none⟩ (.int .u8 0)).setCell ⟨f, 17, none⟩ (.int .u8 0)) f ((l13.set 16 0).set 17 0) :=
            (L13.out.set (i := 16) (by omega) 0).set (i := 17) (by rw [List.length_set]; omega) 0
          have L14 := Lib.hid L14
          have hl14 : ((l13.set 16 0).set 17 0).length = s.size := by rw [List.length_set, List.length_set]; omega
          generalize (l13.set 16 0).set 17 0 = l14 at L14 hl14
          have C14 := Lib.hid ((C13.out.setOther ⟨f, 16, none⟩ (.int .u8 0) hBf hfg).setOther ⟨f, 17, none⟩ (.int .u8 0) hBf hfg)
          have B14 := Lib.hid ((B13.out.setCell (p := ⟨f, 16, none⟩) hBf (.int .u8 0)).setCell (p := ⟨f, 17, none⟩) hBf (.int .u8 0))
          go_upto_region 12 with fail
          generalize (w13.setCell ⟨f, 16, none⟩ (.int .u8 0)).setCell ⟨f, 17, none⟩ (.int .u8 0) = w14 at L14 C14 B14 ⊢
          clear c16 c17 z16 z17 L13 C13 B13
          go_cut [10] (fun v wx => ∃ c : Nat, v = .int .i64 c ∧ c < 65536 ∧ Laid8 wx f l14 ∧ CurB wx w.heap.size g ∧ Below w.heap.size w wx)
          case first =>
            have PH := Lib.hid (pseudoHeadS x z (s.size : Int))
            have zp := segPs_le x z s.size
            have e0 : segPs x z s.size = pseudo (putW x 4) (putW z 4) (putW (s.size : Int) 2) := rfl
            rw [← e0] at PH
            clear e0
            generalize segPs x z s.size = P at PH zp
            have L15 : Hid (Laid8 w14.drew f l14) := L14
            have C15 := Lib.hid (C14.out.draws 1)
            have B15 := Lib.hid B14.out.drew
            have hcv := L15.out.conv (P := Try.prog) 22 9 5 cap s.size (by omega) Try.underlying22 Try.underlying5 Try.underlying9
            have hz : (⟨(l14.take s.size).toArray⟩ : ByteArray).size = s.size := by show (l14.take s.size).toArray.size = _; rw [List.size_toArray, List.length_take]; omega
            obtain ⟨tx, htx⟩ : ∃ tx : ByteArray, (⟨(l14.take s.size).toArray⟩ : ByteArray) = tx := ⟨_, rfl⟩
            rw [htx] at hcv hz
            have m0 : ¬ 9223372036854775807 < P.size + tx.size := by omega
            have SO := Lib.hid (sumOfS (P ++ tx) (by rw [ByteArray.size_append]; omega))
            have hso := sumOf_bd (P ++ tx)
            obtain ⟨c, hc⟩ : ∃ c : Nat, sumOf (P ++ tx) = (c : Int) := ⟨(sumOf (P ++ tx)).toNat, by omega⟩
            rw [hc] at SO hso
            clear hc L14 C14 B14
            go_region_with (first | (go_at_call 39; refine (PH.out _).mono ?_; rintro e w16 ⟨rfl, hbn⟩; have L16 := Lib.hid (L15.out.below (by omega) hbn); have C16 := Lib.hid (C15.out.below hbn); have B16 := Lib.hid (B15.out.trans (hbn.mono B15.out.size)); clear hbn; have hcv2 := L16.out.conv (P := Try.prog) 22 9 5 cap s.size (by omega) Try.underlying22 Try.underlying5 Try.underlying9; rw [htx] at hcv2) | (go_at_call 41; refine (SO.out _).mono ?_; rintro e w17 ⟨rfl, rfl⟩))
            all_goals (go_wp2_with fail; go_meet; exact ⟨c, rfl, by omega, L16.out, C16.out, B16.out⟩)
          case rest =>
            obtain ⟨c, rfl, hc, hL, hC, hB⟩ := hcut
            have L17 := Lib.hid hL
            have C17 := Lib.hid hC
            have B17 := Lib.hid hB
            clear hL hC hB L14 C14 B14
            generalize wc = w17 at L17 C17 B17 ⊢
            have c16 := L17.out.1 16 (by omega)
            have c17 := L17.out.1 17 (by omega)
            have z16 := L17.out.2 16 (by omega)
            have z17 := L17.out.2 17 (by omega)
            obtain ⟨u8, hu⟩ : ∃ u8 : UInt8, IntKind.u8.wrap ((c : Int) / 256) = (u8.toNat : Int) := ⟨UInt8.ofNat (c / 256), by rw [UInt8.toNat_ofNat']; simp only [IntKind.wrap, IntKind.bits, IntKind.signed]; simp⟩
            obtain ⟨v8, hv⟩ : ∃ v8 : UInt8, IntKind.u8.wrap ((c : Int) % 256) = (v8.toNat : Int) := ⟨UInt8.ofNat (c % 256), by rw [UInt8.toNat_ofNat']; simp only [IntKind.wrap, IntKind.bits, IntKind.signed]; simp⟩
            have L18 : Laid8 ((w17.setCell ⟨f, 16, none⟩ (.int .u8 (u8.toNat : Int))).setCell ⟨f, 17, none⟩ (.int .u8 (v8.toNat : Int))) f ((l14.set 16 u8).set 17 v8) :=
              (L17.out.set (i := 16) (by omega) u8).set (i := 17) (by rw [List.length_set]; omega) v8
            have L18 := Lib.hid L18
            have hl18 : ((l14.set 16 u8).set 17 v8).length = s.size := by rw [List.length_set, List.length_set]; omega
            generalize (l14.set 16 u8).set 17 v8 = l18 at L18 hl18
            have C18 := Lib.hid ((C17.out.setOther ⟨f, 16, none⟩ (.int .u8 (u8.toNat : Int)) hBf hfg).setOther ⟨f, 17, none⟩ (.int .u8 (v8.toNat : Int)) hBf hfg)
            have B18 := Lib.hid ((B17.out.setCell (p := ⟨f, 16, none⟩) hBf (.int .u8 (u8.toNat : Int))).setCell (p := ⟨f, 17, none⟩) hBf (.int .u8 (v8.toNat : Int)))
            have hcv := L18.out.conv (P := Try.prog) 22 9 5 cap s.size (by omega) Try.underlying22 Try.underlying5 Try.underlying9
            have hz : (⟨(l18.take s.size).toArray⟩ : ByteArray).size ≤ s.size := by show (l18.take s.size).toArray.size ≤ _; rw [List.size_toArray, List.length_take]; omega
            generalize (⟨(l18.take s.size).toArray⟩ : ByteArray) = t at hcv hz
            go_wp2_with fail
            go_meet
            case rel => exact ⟨t, rfl, by omega, C18.out, B18.out⟩
      case rest =>
        obtain ⟨t, rfl, ht, hC, hB⟩ := hcut
        have C20 := Lib.hid hC
        have B20 := Lib.hid hB
        clear hC hB C9 B9 ho hs
        go_wp2_with fail
        refine (l1Once_any _ g _ C20.out 12 (by omega) (by omega)).mono ?_
        rintro e w21 ⟨o, rfl, hcn, hgn⟩
        have B21 := Lib.hid (below_cur B20.out C20.out hgn)
        have C21 := Lib.hid hcn
        clear hcn hgn
        cases o with
        | false =>
          go_wp2_with fail
          exact bodyPost_ret (v := .tuple #[.string t, .int .i64 x, .int .i64 z]) (by simp [results, Try.results18, go_sem]) rfl ⟨t, x, z, rfl, by omega, ⟨X.out, Z.out⟩, B21.out⟩
        | true =>
          go_wp2_with fail
          refine (l6Ip_any _ g w21 C21.out).mono ?_
          rintro e w22 ⟨y, rfl, hy, hcn, hgn⟩
          have B22 := Lib.hid (below_cur B21.out C21.out hgn)
          have C22 := Lib.hid hcn
          clear hcn hgn
          have Y := Lib.hid hy
          clear hy
          go_wp2_with fail
          exact bodyPost_ret (v := .tuple #[.string t, .int .i64 y, .int .i64 z]) (by simp [results, Try.results18, go_sem]) rfl ⟨t, y, z, rfl, by omega, ⟨Y.out, Z.out⟩, B22.out⟩
end Go.Proofs.Ytlfbcfhekfmkfaa
