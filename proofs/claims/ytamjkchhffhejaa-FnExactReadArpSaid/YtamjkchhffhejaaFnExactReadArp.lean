/- Proved here: for every string of at most 1048576 bytes (a longer one is not asked) impl.ReadArp and the model's ReadArp return the same Arp and the same bool; the call returns true for every argument, without condition. -/
import Derived.Test.YtamjkchhffhejaaRows
import Derived.Test.YtamjkchhffhejaaArpBack
import Derived.Test.YtamjkchhffhejaaArpLaw
import Derived.Test.YtamjkchhffhejaaBlk5
import Derived.ProofKit
import Derived.OpenShut
import Derived.ShutString
import Derived.ChangeOld
import Derived.Below
namespace Go.Proofs.Ytamjkchhffhejaa.fnExactReadArp
open Go.ChangeShapes Go.WideShapes Go.ChangeAt Go.RowKit
open Go.ChangeMaps (open_string shut_string)

set_option maxRecDepth 100000 in
set_option maxHeartbeats 2000000 in
theorem walk (s : ByteArray) (hm : s.size ≤ maxLen) (w : World) :
    Calls Try.prog 6 #[.string s] w fun e w' => e = .returned (.bool true) ∧ Below w.heap.size w w' := by
  unfold maxLen at hm
  by_cases h : (s.size : Int) ≤ 1048576
  · have C1 := Lib.hid (fun w => readArpS s w (by omega))
    have C2 := Lib.hid (fun w => readArpI s w (by omega))
    unfold raV at C1 C2
    generalize raF s 6 2 = x0 at C1 C2
    generalize raF s 8 6 = x1 at C1 C2
    generalize raF s 14 4 = x2 at C1 C2
    generalize raF s 18 6 = x3 at C1 C2
    generalize raF s 24 4 = x4 at C1 C2
    generalize raOk s = o at C1 C2
    have E := Lib.hid (eqArp_self x0 x1 x2 x3 x4)
    have h1 : ¬ (1048576 : Int) < s.size := by omega
    clear h
    go_enter Try.func6, Try.ntmps6
    go_wp2_with fail
    refine (C1.out _).mono ?_
    rintro e w1 ⟨rfl, hb1⟩
    have B1 := Lib.hid hb1
    clear hb1
    go_wp2_with fail
    refine (C2.out _).mono ?_
    rintro e w2 ⟨rfl, hb2⟩
    have B1' := Lib.hid (B1.out.alloc B1.out.size (.cells #[.int .i64 x0, .int .i64 x1, .int .i64 x2, .int .i64 x3, .int .i64 x4] 25))
    have B2 := Lib.hid (B1'.out.trans (hb2.mono B1'.out.size))
    have K2 := Lib.hid ((Blk.new w1 [.int .i64 x0, .int .i64 x1, .int .i64 x2, .int .i64 x3, .int .i64 x4] 25).below hb2)
    clear hb2 B1 B1'
    have hne := K2.out.lt
    have hne2 : ¬ w2.heap.size = w1.heap.size := by omega
    have hne3 : ¬ w1.heap.size = w2.heap.size := by omega
    obtain ⟨⟨c0, c1, c2, c3, c4⟩, _, _, _, _, _⟩ := K2.out.of5
    go_wp2_with fail
    refine (E.out _).mono ?_
    rintro e w3 ⟨rfl, hb3⟩
    have B3 := Lib.hid ((B2.out.alloc B2.out.size (.cells #[.int .i64 x0, .int .i64 x1, .int .i64 x2, .int .i64 x3, .int .i64 x4] 25)).trans (hb3.mono (Nat.le_trans B2.out.size (by simp))))
    clear hb3 c0 c1 c2 c3 c4
    go_wp2_with fail
    go_ret
    exact ⟨rfl, B3.out⟩
  · have h1 : (1048576 : Int) < s.size := by omega
    clear h
    go_enter Try.func6, Try.ntmps6
    go_wp2
    go_ret
    exact ⟨rfl, Below.refl _ _⟩

theorem own : ownKnob Try.prog.godebug = none := by kernel_rfl

set_option maxRecDepth 100000 in
theorem lifted (os : Os) (started : os.Started) (H : Type) (enc : TypeId × Value → H) :
    ReturnsInHanded {} Try.checked os 6 .any (Rows.fnExactReadArpSpec.pre6 enc Try.prog Try.f6 Rows.fnExactReadArpRow.domain false) (Rows.fnExactReadArpSpec.post enc Try.prog Try.f6 false true false false) := by
  refine returnsInHanded_of_change (C := Try.checked) own started (by kernel_rfl) Try.func6
    (ChangeSpec.witness6 (enc := enc) (C := Try.checked) false ⟨#[], #[.string ByteArray.empty], []⟩ 8 (by kernel_rfl) (by kernel_rfl) (by kernel_rfl) (by kernel_rfl)) ?_
  intro W base args ds gs before hval0 hW _ _
  have hval : ∀ (j : Nat) t v, Try.f6.params[j]? = some t → args[j]? = some v → Value.okWide Try.prog W .any base t v := hval0
  have hW' := hW
  obtain ⟨p, q, hA0, hV, rfl, _, _⟩ := hW
  have hA : DataW.TrodAll enc Try.prog W 0 (fun _ => true) true Try.f6.params.toList args.toList ds p := hA0
  rw [Try.params6] at hA hval
  obtain ⟨v0, vs0, d0, ds0, p0, q0, hargs, rfl, rfl, h0, r0⟩ := trodAll_cons hA
  obtain ⟨rfl, rfl, rfl⟩ := trodAll_nil r0
  obtain rfl : args = #[v0] := by cases args; simp_all
  obtain ⟨rfl, rfl⟩ := trodVars_none hV
  obtain ⟨a0, rfl, rfl, rfl, w0⟩ := open_string Try.underlying9 (hval 0 9 v0 rfl rfl) h0
  clear hA0 hval0
  refine (walk a0 w0 W).mono fun e W' ⟨he, bel⟩ => ?_
  subst he
  exact ⟨_, rfl, _, _, _, [], _, [], hW', trodAll_mk1 (shut_bool Try.underlying4 _), (trodAll_cons_mk (shut_string Try.underlying9 w0) trodAll_mk0), rfl, bel.frame _, fun h => by cases h⟩

theorem over : Rows.fnExactReadArpRow.holds Try.pinned (OpenSpec.ofChange Rows.fnExactReadArpSpec) :=
  OpenClaim.holds_of_wide 6 Try.f6 rfl rfl rfl rfl rfl rfl rfl ⟨rfl, rfl, rfl, rfl, rfl⟩ rfl rfl rfl rfl rfl (by kernel_rfl) Try.func6 (by kernel_rfl)
    (of_decide_eq_true (by kernel_rfl)) (by unfold Func.isWrapper; first | (rw [if_pos (by decide +kernel)]; kernel_rfl) | (rw [if_neg (by decide +kernel)]; exact ⟨rfl, rfl⟩))
    (fun os started H enc _ => lifted os started H enc)

theorem proved : Rows.FnExactReadArpSaid := over
#print axioms proved
end Go.Proofs.Ytamjkchhffhejaa.fnExactReadArp
