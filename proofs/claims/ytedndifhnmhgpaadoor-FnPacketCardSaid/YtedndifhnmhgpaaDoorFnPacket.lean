/- Proved here: for every code of at most 1048576 bytes, with the packet that is drawn from it, impl.PacketText writes what the model writes, and a text exactly where impl.PacketOk holds; impl.ReadPacket reads the packet back from that text with three bytes behind it, and reads none where one byte of the head is turned (a longer code is not asked); the only condition is that the library's variable errors.errorType holds what the program's own text lays (the card ties it). -/
import Derived.Test.YtedndifhnmhgpaaDoorRows
import Derived.Test.YtedndifhnmhgpaaDoorCards
import Derived.Test.YtedndifhnmhgpaaDoorTie
import Derived.Test.YtedndifhnmhgpaaDoorDrawPk
import Derived.Test.YtedndifhnmhgpaaDoorPkRound
import Derived.Test.YtedndifhnmhgpaaDoorAt0
import Derived.Test.YtedndifhnmhgpaaDoorBytesOf
import Derived.Test.YtedndifhnmhgpaaDoorBig
import Derived.Test.YtedndifhnmhgpaaDoorOpen
import Derived.ProofKit
import Derived.OpenShut
import Derived.ShutString
import Derived.ChangeOld
import Derived.Below
import Derived.LaidHandle
import Derived.LaidLaws
import Derived.Stop.Joined
import Derived.SevenTiedAt
namespace Go.Proofs.YtedndifhnmhgpaaDoor.fnPacket
open Go.ChangeShapes Go.WideShapes Go.ChangeAt Go.RowKit

/-- A contract of a call that makes memory, with the worlds behind it. -/
theorem step {w w1 w2 : World} (h : Below w.heap.size w w1) (hb : Below w1.heap.size w1 w2) : Below w.heap.size w w2 := h.trans (hb.mono h.size)
theorem stepA {w w1 w2 : World} {o : Obj} (h : Below w.heap.size w w1) (hb : Below (w1.alloc o).heap.size (w1.alloc o) w2) : Below w.heap.size w w2 :=
  step (h.alloc h.size o) hb

theorem notEmpty (s : ByteArray) (h : 0 < s.size) : s.toList.isEmpty = false := by
  rw [ByteArray.toList_eq]
  cases hl : s.data.toList with
  | nil => have e : s.data.toList.length = 0 := by rw [hl]; rfl
           rw [Array.length_toList, ByteArray.size_data] at e; omega
  | cons _ _ => rfl

set_option maxRecDepth 100000 in
set_option maxHeartbeats 4000000 in
theorem walk (a0 : Option Addr) (len0 cap0 : Nat) (s0 : List UInt8) {w : World} (w0 : IsBytes w a0 len0 s0) (hg : ErrTy w) :
    Calls Tryd.prog 3 #[.slice a0 len0 cap0] w fun e w' => e = .returned (.bool true) ∧ Below w.heap.size w w' := by
  obtain ⟨⟨rfl, hm⟩, hrow⟩ := w0
  unfold maxLen at hm
  have HR := Lib.hid hrow
  have HL := Lib.hid hg.lt
  have HG := Lib.hid hg
  clear hrow hg
  by_cases hs : s0.length ≤ 1048576
  · go_enter Tryd.func3, Tryd.ntmps3
    go_wp2_with fail
    refine (big_no _ _ _ _ hs).mono ?_
    rintro e w' ⟨rfl, rfl⟩
    go_wp2_with fail
    refine (drawPacketText a0 s0 cap0 w HR.out hs).mono ?_
    rintro e w1 ⟨s, d, t, p, i, b, rfl, _, hb1⟩
    have B1 := Lib.hid hb1
    clear hb1
    have T1 := Lib.hid (packTextI s d t p i b)
    have T2 := Lib.hid (packTextS s d t p i b)
    have O1 := Lib.hid (packOkI s d t p i b)
    have hle := packText_le s d t p i b
    obtain ⟨o, ho⟩ : ∃ o, packOk s d t p i b = o := ⟨_, rfl⟩
    cases o with
    | false =>
      rw [packText_no ho] at T1 T2
      rw [ho] at O1
      clear ho hle
      go_wp2_with fail
      refine (T1.out _).mono ?_
      rintro e w2 ⟨rfl, hb2⟩
      have F2 := Lib.hid ((HasC.new w1 #[.int .i64 s, .int .i64 d, .int .i64 t, .int .i64 p, .int .i64 i, .string b] 25).keep hb2)
      have B2 := Lib.hid (stepA B1.out hb2)
      clear hb2
      obtain ⟨c0, c1, c2, c3, c4, c5⟩ := F2.out.of6
      go_wp2_with fail
      refine (T2.out _).mono ?_
      rintro e w3 ⟨rfl, hb3⟩
      have F3 := Lib.hid (F2.out.keep hb3)
      have B3 := Lib.hid (step B2.out hb3)
      clear hb3 F2 c0 c1 c2 c3 c4 c5 B2
      obtain ⟨c0, c1, c2, c3, c4, c5⟩ := F3.out.of6
      go_wp2_with fail
      refine (O1.out _).mono ?_
      rintro e w4 ⟨rfl, hb4⟩
      have B4 := Lib.hid (step B3.out hb4)
      clear hb4 F3 B3 c0 c1 c2 c3 c4 c5
      go_wp2_with fail
      go_ret
      exact ⟨rfl, B4.out⟩
    | true =>
      have hok := Lib.hid ho
      rw [ho] at O1
      have hne : ¬ packText s d t p i b = ⟨#[]⟩ := by
        intro e
        have h1 := packTop_size ho
        have h2 := packText_top ho
        rw [e] at h2
        have h3 : (packTop s d t p i b ++ b).size = 0 := by rw [← h2]; rfl
        rw [ByteArray.size_append] at h3; omega
      have hge : 20 ≤ (packText s d t p i b).size := by rw [packText_top ho, ByteArray.size_append, packTop_size ho]; omega
      obtain ⟨x, hx⟩ : ∃ x, packText s d t p i b = x := ⟨_, rfl⟩
      obtain ⟨q0, q1, q2, q3, q4, q5, q6⟩ := pk_round ho ⟨#[112, 97, 100]⟩
      have TU := Lib.hid (fun a ha y hl hy => pk_turned ho a ha y hl hy)
      rw [hx] at T1 T2 hle hne hge q0 q1 q2 q3 q4 q5 q6 TU
      have R1 := Lib.hid (fun w hg => readPkI (x ++ ⟨#[112, 97, 100]⟩) w hg (by rw [ByteArray.size_append]; show x.size + 3 ≤ _; omega))
      have rv : rkV (x ++ ⟨#[112, 97, 100]⟩) = .tuple #[.agg #[.int .i64 s, .int .i64 d, .int .i64 t, .int .i64 p, .int .i64 i, .string b], .int .i64 0] := by
        unfold rkV; rw [q0, q1, q2, q3, q4, q5, q6]; rfl
      rw [rv] at R1
      clear rv q0 q1 q2 q3 q4 q5 q6 ho
      have xe : x.toList.isEmpty = false := notEmpty x (by omega)
      have x3 : ¬ 9223372036854775807 < x.size + 3 := by omega
      clear hne
      go_wp2_with fail
      refine (T1.out _).mono ?_
      rintro e w2 ⟨rfl, hb2⟩
      have F2 := Lib.hid ((HasC.new w1 #[.int .i64 s, .int .i64 d, .int .i64 t, .int .i64 p, .int .i64 i, .string b] 25).keep hb2)
      have B2 := Lib.hid (stepA B1.out hb2)
      clear hb2
      obtain ⟨c0, c1, c2, c3, c4, c5⟩ := F2.out.of6
      go_wp2_with fail
      refine (T2.out _).mono ?_
      rintro e w3 ⟨rfl, hb3⟩
      have F3 := Lib.hid (F2.out.keep hb3)
      have B3 := Lib.hid (step B2.out hb3)
      clear hb3 F2 c0 c1 c2 c3 c4 c5 B2
      obtain ⟨c0, c1, c2, c3, c4, c5⟩ := F3.out.of6
      go_wp2_with fail
      refine (O1.out _).mono ?_
      rintro e w4 ⟨rfl, hb4⟩
      have F4 := Lib.hid (F3.out.keep hb4)
      have B4 := Lib.hid (step B3.out hb4)
      clear hb4 F3 B3 c0 c1 c2 c3 c4 c5
      go_wp2_with fail
      refine (R1.out _ (HG.out.below B4.out HL.out)).mono ?_
      rintro e w5 ⟨rfl, hb5⟩
      have F5 := Lib.hid (F4.out.keep hb5)
      have B5 := Lib.hid (step B4.out hb5)
      clear hb5 F4 B4
      obtain ⟨cap, W, hcv, hcap, hlaid, hbW⟩ := bytes_new2 (P := Tryd.prog) (w5.alloc (.cells #[.int .i64 s, .int .i64 d, .int .i64 t, .int .i64 p, .int .i64 i, .string b] 25)) 9 22 5 x Tryd.underlying9 Tryd.underlying22 Tryd.underlying5
      have K6 := Lib.hid ((HasC.new w5 #[.int .i64 s, .int .i64 d, .int .i64 t, .int .i64 p, .int .i64 i, .string b] 25).keep hbW)
      have F6 := Lib.hid ((F5.out.alloc (.cells #[.int .i64 s, .int .i64 d, .int .i64 t, .int .i64 p, .int .i64 i, .string b] 25)).keep hbW)
      have B6 := Lib.hid (stepA B5.out hbW)
      have e1 : (w5.alloc (.cells #[.int .i64 s, .int .i64 d, .int .i64 t, .int .i64 p, .int .i64 i, .string b] 25)).heap.size = w5.heap.size + 1 := by simp
      rw [e1] at hcv hlaid
      have hl : x.data.toList.length = x.size := by simp
      have L := Lib.hid hlaid
      have HRW := Lib.hid (HR.out.below B6.out)
      have hg5 : w.heap.size ≤ w5.heap.size + 1 := Nat.le_trans B5.out.size (Nat.le_succ _)
      have n1 := F5.out.1
      clear hlaid hbW e1 F5 B5
      go_wp2_with fail
      refine (at0_any a0 s0 cap0 1 (by omega) _ W HRW.out hs).mono ?_
      rintro e w6 ⟨n, rfl, ⟨n0, m0⟩, rfl⟩
      go_wp2_with fail
      clear hcv
      refine (at0_any a0 s0 cap0 2 (by omega) _ W HRW.out hs).mono ?_
      rintro e w6 ⟨m, rfl, ⟨p0, p1⟩, rfl⟩
      have hi0 := Int.emod_nonneg n (show (20 : Int) ≠ 0 by omega)
      have hi1 := Int.emod_lt_of_pos n (show (0 : Int) < 20 by omega)
      obtain ⟨j, hj⟩ : ∃ j : Nat, n % 20 = (j : Int) := ⟨(n % 20).toNat, by omega⟩
      rw [hj] at hi0 hi1 ⊢
      have hj20 : j < 20 := by omega
      have hjl : j < x.size := by omega
      have hji : (j : Int) < x.size := by omega
      obtain ⟨y, hy⟩ : ∃ y : UInt8, 1 + m % 254 = (y.toNat : Int) := ⟨UInt8.ofNat (1 + m % 254).toNat, by rw [UInt8.toNat_ofNat']; omega⟩
      have hy0 : y ≠ 0 := by
        intro e
        rw [e] at hy
        have : (0 : UInt8).toNat = 0 := rfl
        omega
      have wy : IntKind.u8.wrap (1 + m % 254) = (y.toNat : Int) := by rw [hy]; have := y.toNat_lt; simp only [IntKind.wrap, IntKind.bits, IntKind.signed]; simp; omega
      have hcell := L.out.1 j (by omega)
      have hfz := L.out.2 j (by omega)
      have he : x.data.toList[j]'(by omega) = x[j] := by simp [ByteArray.getElem_eq_getElem_data]
      rw [he] at hcell
      have hxx : bits .xor .u8 (x[j].toNat : Int) (y.toNat : Int) = ((x[j] ^^^ y).toNat : Int) := xor_bits _ _
      have hnz := xor_ne x[j] y hy0
      have L2 := L.out.set (i := j) (by omega) (x[j] ^^^ y)
      obtain ⟨z, hz'⟩ : ∃ z, x[j] ^^^ y = z := ⟨_, rfl⟩
      rw [hz'] at hxx hnz L2
      have hw := TU.out j hj20 z hjl hnz
      have hcv2 := L2.conv (P := Tryd.prog) 22 9 5 cap x.size (by rw [List.length_set]; omega) Tryd.underlying22 Tryd.underlying5 Tryd.underlying9
      rw [List.take_of_length_le (by rw [List.length_set]; omega), show (⟨(x.data.toList.set j z).toArray⟩ : ByteArray) = turn x j z from rfl] at hcv2
      have B7 := Lib.hid (B6.out.setCell (p := ⟨w5.heap.size + 1, j, none⟩) hg5 (.int .u8 (z.toNat : Int)))
      have R2 := Lib.hid (readPkI (turn x j z) (W.setCell ⟨w5.heap.size + 1, j, none⟩ (.int .u8 (z.toNat : Int))) (HG.out.below B7.out HL.out) (by rw [turn_size]; omega))
      obtain ⟨k, hk⟩ : ∃ k, pkWhy (turn x j z) = k := ⟨_, rfl⟩
      rw [rkV_no _ k hk (by rw [← hk]; exact hw)] at R2
      rw [hk] at hw
      generalize turn x j z = x2 at hcv2 R2
      obtain ⟨v, hv⟩ : ∃ v, x[j] = v := ⟨_, rfl⟩
      rw [hv] at hxx hcell
      have hk0 : ((k : Int) != 0) = true := by simp; omega
      have K7 : Hid (HasC (W.setCell ⟨w5.heap.size + 1, j, none⟩ (.int .u8 (z.toNat : Int))) w5.heap.size [.int .i64 s, .int .i64 d, .int .i64 t, .int .i64 p, .int .i64 i, .string b]) :=
        ⟨by simp [World.setCell]; exact K6.out.1, fun i v h => by rw [World.cell?_setCell_other _ _ _ _ (by intro x; injection x; omega)]; exact K6.out.2 i v h⟩
      have F7 : Hid (HasC (W.setCell ⟨w5.heap.size + 1, j, none⟩ (.int .u8 (z.toNat : Int))) w1.heap.size [.int .i64 s, .int .i64 d, .int .i64 t, .int .i64 p, .int .i64 i, .string b]) :=
        ⟨by simp [World.setCell]; exact F6.out.1, fun i v h => by rw [World.cell?_setCell_other _ _ _ _ (by intro x; injection x; omega)]; exact F6.out.2 i v h⟩
      have hv8 := v.toNat_lt
      have hz8 := z.toNat_lt
      clear hnz L2 hv he hz' hy0 hw hk K6 F6 B6 L HRW
      go_wp2_with fail
      refine R2.out.mono ?_
      rintro e w7 ⟨rfl, hb7⟩
      have K8 := Lib.hid (K7.out.keep hb7)
      have F8 := Lib.hid (F7.out.keep hb7)
      have B8 := Lib.hid (step B7.out hb7)
      clear hb7 K7 F7 B7 hcv2 R2 hcell hfz
      have ne1 : ¬ w1.heap.size = w5.heap.size := by omega
      have ne2 : ¬ w5.heap.size = w1.heap.size := by omega
      obtain ⟨c0, c1, c2, c3, c4, c5⟩ := K8.out.of6
      obtain ⟨d0, d1, d2, d3, d4, d5⟩ := F8.out.of6
      have n7 := K8.out.1
      have n8 := F8.out.1
      go_wp2_with fail
      go_ret
      exact ⟨rfl, B8.out.alloc B8.out.size _⟩
  · go_enter Tryd.func3, Tryd.ntmps3
    go_wp2_with fail
    refine (big_yes _ _ _ _ (by omega) (by omega)).mono ?_
    rintro e w' ⟨rfl, rfl⟩
    go_wp2_with fail
    go_ret
    exact ⟨rfl, Below.refl _ _⟩

theorem own : ownKnob Tryd.prog.godebug = none := by kernel_rfl
theorem laidOut : laidOutB Tryd.prog = true := by kernel_rfl
/-- The list of the row. -/
abbrev laidL : List (String × DataW Unit) := [("errors.errorType", Rows.laid_errors_errorType)]
theorem hEt : Tryd.prog.globalNamed "errors.errorType" = some 0 := by kernel_rfl
theorem hRt : (Tryd.prog.cutTypes.find? (·.1 == "internal/reflectlite.rtype")).map (·.2) = some 82 := by kernel_rfl
theorem hOne : ((List.range 125).filter fun t => Tryd.prog.rowNamed t [101, 114, 114, 111, 114]) = [45] := by kernel_rfl
theorem hSize : Tryd.prog.types.size = 125 := by kernel_rfl
/-- What the list gives the walk: the variable's one cell. -/
theorem of_laid {W : World} (h : laidMetH Tryd.prog laidL W) : ErrTy W := by
  have h' : laidMet Tryd.prog [] W ∧ handlesMet Tryd.prog laidL W := h
  obtain ⟨name, u, ty, e1, e2, e3, e4, e5⟩ := h'.2 _ (List.mem_singleton.2 rfl)
  have en : name = [101, 114, 114, 111, 114] := (Option.some.inj e1).symm
  subst en
  obtain rfl := Option.some.inj (hRt.symm.trans e2)
  have hm : ty ∈ (List.range 125).filter fun t => Tryd.prog.rowNamed t [101, 114, 114, 111, 114] := List.mem_filter.2 ⟨List.mem_range.2 (by rw [← hSize]; exact e3), e4⟩
  rw [hOne] at hm
  obtain rfl := List.mem_singleton.1 hm
  have hh : typeHandle Tryd.prog 45 = .pointer (some ⟨1, 45, none⟩) := by kernel_rfl
  rw [hh] at e5
  simpa [ErrTy] using World.var?_cell hEt e5 0
/-- A world in which the variable is laid. -/
noncomputable def laidWorld (os : Os) : World :=
  let w0 := World.holding Tryd.prog os ⟨#[], #[], []⟩
  { w0 with heap := w0.heap.modify 0 fun
      | .cells _ t frozen => .cells #[.iface 82 (.agg #[.pointer (some ⟨1, 45, none⟩)])] t frozen
      | o => o }
theorem door_met (os : Os) (args : Array Value) : laidMetH Tryd.prog laidL ((laidWorld os).forCall (fun _ _ => 0) ⟨#[], args, []⟩).memory :=
  laidMetH_of_parts (laidMet_nil _ _) (by kernel_rfl)

set_option maxRecDepth 100000 in
theorem lifted (os : Os) (started : os.Started) (H : Type) (enc : TypeId × Value → H) :
    ReturnsInHanded {} Tryd.checked os 3 .any (fun w args => (Rows.fnPacketSpec.pre enc Tryd.prog Tryd.f3 [] false w args ∧ laidMetH Tryd.prog laidL w) ∧ sizedMet enc Tryd.prog Tryd.f3 (OpenSpec.ofChange Rows.fnPacketSpec) false w args)
      (Rows.fnPacketSpec.post enc Tryd.prog Tryd.f3 false true false false) := by
  refine returnsInHanded_of_change_and (C := Tryd.checked) (X := fun w _ => laidMetH Tryd.prog laidL w) (fun _ _ _ hh h => h.of_heap hh) own started (by kernel_rfl) Tryd.func3
    (ChangeSpec.witness_at (enc := enc) (C := Tryd.checked) (os := os) (X := fun w _ => laidMetH Tryd.prog laidL w) false (laidWorld os) #[.slice none 0 0] 8 rfl (by kernel_rfl) (by kernel_rfl) (by kernel_rfl) (by kernel_rfl) (by kernel_rfl) (door_met os _)) ?_
  intro W base args ds gs before hval0 hW _ _ hL _
  have hval : ∀ (j : Nat) t v, Tryd.f3.params[j]? = some t → args[j]? = some v → Value.okWide Tryd.prog W .any base t v := hval0
  have hW' := hW
  obtain ⟨p, q, hA0, hV, rfl, _, _⟩ := hW
  have hA : DataW.TrodAll enc Tryd.prog W 0 (fun _ => true) true Tryd.f3.params.toList args.toList ds p := hA0
  rw [Tryd.params3] at hA hval
  obtain ⟨v0, vs0, d0, ds0, p0, q0, hargs, rfl, rfl, h0, r0⟩ := trodAll_cons hA
  obtain ⟨rfl, rfl, rfl⟩ := trodAll_nil r0
  obtain rfl : args = #[v0] := by cases args; simp_all
  obtain ⟨rfl, rfl⟩ := trodVars_none hV
  obtain ⟨a0, len0, cap0, rfl⟩ := okWide_slice Tryd.underlying22 (hval 0 22 v0 rfl rfl)
  have k0 := h0
  have lt0 : ∀ x ∈ p0, x.block < W.heap.size := by obtain ⟨m, hm⟩ := k0; exact DataW.trod_lt m _ _ _ hm
  obtain ⟨s0, w0⟩ : ∃ bs : List UInt8, IsBytes W a0 len0 bs := by obtain ⟨fuel, hf⟩ := h0; exact openBytes Tryd.underlying22 Tryd.underlying5 (by kernel_rfl) hf
  have hT := of_laid hL
  clear hA0 hval0
  refine (walk (w := W) a0 len0 cap0 s0 w0 hT).mono fun e W' ⟨he, bel⟩ => ?_
  subst he
  exact ⟨_, rfl, _, _, _, [], _, [], hW', trodAll_mk1 (shut_bool Tryd.underlying4 _), (trodAll_cons_mk (Below.trod laidOut (by kernel_rfl) (of_decide_eq_true (by kernel_rfl)) k0 bel lt0) trodAll_mk0), rfl, bel.frame _, fun h => by cases h⟩

theorem row_holds : Rows.FnPacketSaid :=
  OpenClaim.holds_of_wide 3 Tryd.f3 rfl rfl rfl rfl rfl rfl rfl ⟨rfl, rfl, rfl, rfl, rfl⟩ rfl rfl rfl rfl rfl (by kernel_rfl) Tryd.func3 (by kernel_rfl)
    (of_decide_eq_true (by kernel_rfl)) (by unfold Func.isWrapper; first | (rw [if_pos (by decide +kernel)]; kernel_rfl) | (rw [if_neg (by decide +kernel)]; exact ⟨rfl, rfl⟩))
    (fun os started H enc _ => lifted os started H enc)

theorem proved : Rows.FnPacketCardSaid :=
  Claim7.holds_tied_plain_at .later [] [.handle] true (true, "6636e2859afa5243bb5d3e1edfb1797d545c4e05478ba18afd9f32e618507f06") true
    row_holds (fun _ h => by cases h) (by kernel_rfl) (fun _ h => by cases h) fnPacket_row_tie rfl ⟨rfl, rfl⟩ (by kernel_rfl) rfl
    (fun f fn hf hfn => by
      obtain rfl : f = 3 := Option.some.inj ((show Tryd.prog.funcNamed Rows.fnPacketRow.func = some 3 by kernel_rfl).symm.trans hf) |>.symm
      obtain rfl : fn = Tryd.f3 := (Option.some.inj (Tryd.func3.symm.trans hfn)).symm
      exact ⟨by kernel_rfl, fun j t ht => by
        rw [Tryd.params3] at ht
        have hm : t ∈ [22] := by simpa using Array.mem_of_getElem? ht
        have hall : ([22].all fun u => !Tryd.prog.wantsStandIn u) = true := by kernel_rfl
        exact (show Tryd.prog.wantsStandIn t = false by simpa using List.all_eq_true.1 hall t hm)⟩)
    (by kernel_rfl)
#print axioms proved

end Go.Proofs.YtedndifhnmhgpaaDoor.fnPacket
