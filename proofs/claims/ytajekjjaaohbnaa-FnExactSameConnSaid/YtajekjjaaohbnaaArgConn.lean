/- An argument of type laws.Conn, opened. Nothing here is a claim. -/
import Derived.Test.YtajekjjaaohbnaaArgRcv
import Derived.Test.YtajekjjaaohbnaaNest
import Derived.Test.YtajekjjaaohbnaaConnKit
namespace Go.Proofs.Ytajekjjaaohbnaa
open Go.Joins Go.ChangeShapes Go.WideShapes Go.RowKit Go.Deep Go.Lib

theorem cellsC3 : Try.prog.cellsOf 3 = 1 := by kernel_rfl
theorem cellsC9 : Try.prog.cellsOf 9 = 1 := by kernel_rfl
theorem cellsC4 : Try.prog.cellsOf 4 = 1 := by kernel_rfl
theorem cellsC54 : Try.prog.cellsOf 54 = 1 := by kernel_rfl
theorem cellsC47 : Try.prog.cellsOf 47 = 3 := by kernel_rfl
theorem cellsC53 : Try.prog.cellsOf 53 = 6 := by kernel_rfl
theorem cellsC56 : Try.prog.cellsOf 56 = 5 := by kernel_rfl
theorem cellsC48 : Try.prog.cellsOf 48 = 6 := by kernel_rfl
theorem cellsC58 : Try.prog.cellsOf 58 = 25 := by kernel_rfl
/-- What is known of a connection that came in. -/
def LawC (W : World) (d y : ByteArray) (a : Option Addr) (len cap : Nat) (rs : List HP) : Prop := d.size ≤ maxLen ∧ y.size ≤ maxLen ∧ IsP W a len cap rs
set_option maxRecDepth 100000 in
set_option maxHeartbeats 4000000 in
theorem argConn {H : Type} {enc : TypeId × Value → H} {W : World} {rr : Reach} {b0 : Nat} {vv : Value} {dd : DataW H} {pp : List MemPlace}
    (hv : Value.okWide Try.prog W rr b0 58 vv) (hh : DataW.Trod enc Try.prog W 0 (fun _ => true) true 58 vv dd pp) :
    ∃ p q r st u d t f g h n y a len cap rs fi z wi mo m c k s v x ti tr, vv = .agg #[.int .i64 p, .int .i64 q, .int .i64 r, .int .i64 st, .int .i64 u, .string d, .int .i64 t, .bool f, .bool g, .bool h, .int .i64 n, .string y, .slice a len cap, .int .i64 fi, .bool z, .int .i64 wi, .int .i64 mo, .int .i64 m, .int .i64 c, .bool k, .bool s, .int .i64 v, .int .i64 x, .int .i64 ti, .int .i64 tr] ∧ LawC W d y a len cap rs := by
  obtain ⟨cs, nn, rfl, hl, hf⟩ := open_nest Try.underlying58 hv hh
  rw [cellsC58] at hl
  match cs, hl with
  | [c0, c1, c2, c3, c4, c5, c6, c7, c8, c9, c10, c11, c12, c13, c14, c15, c16, c17, c18, c19, c20, c21, c22, c23, c24], _ =>
    obtain ⟨_, t0_0⟩ := hf 0 _ rfl
    replace t0_0 : DataW.trod enc Try.prog W 0 (fun _ => true) true _ 47 (([c0, c1, c2, c3, c4, c5, c6, c7, c8, c9, c10, c11, c12, c13, c14, c15, c16, c17, c18, c19, c20, c21, c22, c23, c24].drop 0).take (Try.prog.cellsOf 47)) = some _ := t0_0
    rw [cellsC47] at t0_0
    replace t0_0 : DataW.trod enc Try.prog W 0 (fun _ => true) true _ 47 [c0, c1, c2] = some _ := t0_0
    obtain ⟨_, _, h1_0⟩ := trod_nest Try.underlying47 t0_0
    obtain ⟨_, t1_0⟩ := h1_0 0 _ rfl
    replace t1_0 : DataW.trod enc Try.prog W 0 (fun _ => true) true _ 3 (([c0, c1, c2].drop 0).take (Try.prog.cellsOf 3)) = some _ := t1_0
    rw [cellsC3] at t1_0
    replace t1_0 : DataW.trod enc Try.prog W 0 (fun _ => true) true _ 3 [c0] = some _ := t1_0
    obtain ⟨_, t1_1⟩ := h1_0 1 _ rfl
    replace t1_1 : DataW.trod enc Try.prog W 0 (fun _ => true) true _ 3 (([c0, c1, c2].drop 1).take (Try.prog.cellsOf 3)) = some _ := t1_1
    rw [cellsC3] at t1_1
    replace t1_1 : DataW.trod enc Try.prog W 0 (fun _ => true) true _ 3 [c1] = some _ := t1_1
    obtain ⟨_, t1_2⟩ := h1_0 2 _ rfl
    replace t1_2 : DataW.trod enc Try.prog W 0 (fun _ => true) true _ 3 (([c0, c1, c2].drop 2).take (Try.prog.cellsOf 3)) = some _ := t1_2
    rw [cellsC3] at t1_2
    replace t1_2 : DataW.trod enc Try.prog W 0 (fun _ => true) true _ 3 [c2] = some _ := t1_2
    obtain ⟨_, t0_3⟩ := hf 1 _ rfl
    replace t0_3 : DataW.trod enc Try.prog W 0 (fun _ => true) true _ 3 (([c0, c1, c2, c3, c4, c5, c6, c7, c8, c9, c10, c11, c12, c13, c14, c15, c16, c17, c18, c19, c20, c21, c22, c23, c24].drop 3).take (Try.prog.cellsOf 3)) = some _ := t0_3
    rw [cellsC3] at t0_3
    replace t0_3 : DataW.trod enc Try.prog W 0 (fun _ => true) true _ 3 [c3] = some _ := t0_3
    obtain ⟨_, t0_4⟩ := hf 2 _ rfl
    replace t0_4 : DataW.trod enc Try.prog W 0 (fun _ => true) true _ 53 (([c0, c1, c2, c3, c4, c5, c6, c7, c8, c9, c10, c11, c12, c13, c14, c15, c16, c17, c18, c19, c20, c21, c22, c23, c24].drop 4).take (Try.prog.cellsOf 53)) = some _ := t0_4
    rw [cellsC53] at t0_4
    replace t0_4 : DataW.trod enc Try.prog W 0 (fun _ => true) true _ 53 [c4, c5, c6, c7, c8, c9] = some _ := t0_4
    obtain ⟨_, _, h1_4⟩ := trod_nest Try.underlying53 t0_4
    obtain ⟨_, t1_4⟩ := h1_4 0 _ rfl
    replace t1_4 : DataW.trod enc Try.prog W 0 (fun _ => true) true _ 3 (([c4, c5, c6, c7, c8, c9].drop 0).take (Try.prog.cellsOf 3)) = some _ := t1_4
    rw [cellsC3] at t1_4
    replace t1_4 : DataW.trod enc Try.prog W 0 (fun _ => true) true _ 3 [c4] = some _ := t1_4
    obtain ⟨_, t1_5⟩ := h1_4 1 _ rfl
    replace t1_5 : DataW.trod enc Try.prog W 0 (fun _ => true) true _ 9 (([c4, c5, c6, c7, c8, c9].drop 1).take (Try.prog.cellsOf 9)) = some _ := t1_5
    rw [cellsC9] at t1_5
    replace t1_5 : DataW.trod enc Try.prog W 0 (fun _ => true) true _ 9 [c5] = some _ := t1_5
    obtain ⟨_, t1_6⟩ := h1_4 2 _ rfl
    replace t1_6 : DataW.trod enc Try.prog W 0 (fun _ => true) true _ 3 (([c4, c5, c6, c7, c8, c9].drop 2).take (Try.prog.cellsOf 3)) = some _ := t1_6
    rw [cellsC3] at t1_6
    replace t1_6 : DataW.trod enc Try.prog W 0 (fun _ => true) true _ 3 [c6] = some _ := t1_6
    obtain ⟨_, t1_7⟩ := h1_4 3 _ rfl
    replace t1_7 : DataW.trod enc Try.prog W 0 (fun _ => true) true _ 4 (([c4, c5, c6, c7, c8, c9].drop 3).take (Try.prog.cellsOf 4)) = some _ := t1_7
    rw [cellsC4] at t1_7
    replace t1_7 : DataW.trod enc Try.prog W 0 (fun _ => true) true _ 4 [c7] = some _ := t1_7
    obtain ⟨_, t1_8⟩ := h1_4 4 _ rfl
    replace t1_8 : DataW.trod enc Try.prog W 0 (fun _ => true) true _ 4 (([c4, c5, c6, c7, c8, c9].drop 4).take (Try.prog.cellsOf 4)) = some _ := t1_8
    rw [cellsC4] at t1_8
    replace t1_8 : DataW.trod enc Try.prog W 0 (fun _ => true) true _ 4 [c8] = some _ := t1_8
    obtain ⟨_, t1_9⟩ := h1_4 5 _ rfl
    replace t1_9 : DataW.trod enc Try.prog W 0 (fun _ => true) true _ 4 (([c4, c5, c6, c7, c8, c9].drop 5).take (Try.prog.cellsOf 4)) = some _ := t1_9
    rw [cellsC4] at t1_9
    replace t1_9 : DataW.trod enc Try.prog W 0 (fun _ => true) true _ 4 [c9] = some _ := t1_9
    obtain ⟨_, t0_10⟩ := hf 3 _ rfl
    replace t0_10 : DataW.trod enc Try.prog W 0 (fun _ => true) true _ 56 (([c0, c1, c2, c3, c4, c5, c6, c7, c8, c9, c10, c11, c12, c13, c14, c15, c16, c17, c18, c19, c20, c21, c22, c23, c24].drop 10).take (Try.prog.cellsOf 56)) = some _ := t0_10
    rw [cellsC56] at t0_10
    replace t0_10 : DataW.trod enc Try.prog W 0 (fun _ => true) true _ 56 [c10, c11, c12, c13, c14] = some _ := t0_10
    obtain ⟨_, _, h1_10⟩ := trod_nest Try.underlying56 t0_10
    obtain ⟨_, t1_10⟩ := h1_10 0 _ rfl
    replace t1_10 : DataW.trod enc Try.prog W 0 (fun _ => true) true _ 3 (([c10, c11, c12, c13, c14].drop 0).take (Try.prog.cellsOf 3)) = some _ := t1_10
    rw [cellsC3] at t1_10
    replace t1_10 : DataW.trod enc Try.prog W 0 (fun _ => true) true _ 3 [c10] = some _ := t1_10
    obtain ⟨_, t1_11⟩ := h1_10 1 _ rfl
    replace t1_11 : DataW.trod enc Try.prog W 0 (fun _ => true) true _ 9 (([c10, c11, c12, c13, c14].drop 1).take (Try.prog.cellsOf 9)) = some _ := t1_11
    rw [cellsC9] at t1_11
    replace t1_11 : DataW.trod enc Try.prog W 0 (fun _ => true) true _ 9 [c11] = some _ := t1_11
    obtain ⟨_, t1_12⟩ := h1_10 2 _ rfl
    replace t1_12 : DataW.trod enc Try.prog W 0 (fun _ => true) true _ 54 (([c10, c11, c12, c13, c14].drop 2).take (Try.prog.cellsOf 54)) = some _ := t1_12
    rw [cellsC54] at t1_12
    replace t1_12 : DataW.trod enc Try.prog W 0 (fun _ => true) true _ 54 [c12] = some _ := t1_12
    obtain ⟨_, t1_13⟩ := h1_10 3 _ rfl
    replace t1_13 : DataW.trod enc Try.prog W 0 (fun _ => true) true _ 3 (([c10, c11, c12, c13, c14].drop 3).take (Try.prog.cellsOf 3)) = some _ := t1_13
    rw [cellsC3] at t1_13
    replace t1_13 : DataW.trod enc Try.prog W 0 (fun _ => true) true _ 3 [c13] = some _ := t1_13
    obtain ⟨_, t1_14⟩ := h1_10 4 _ rfl
    replace t1_14 : DataW.trod enc Try.prog W 0 (fun _ => true) true _ 4 (([c10, c11, c12, c13, c14].drop 4).take (Try.prog.cellsOf 4)) = some _ := t1_14
    rw [cellsC4] at t1_14
    replace t1_14 : DataW.trod enc Try.prog W 0 (fun _ => true) true _ 4 [c14] = some _ := t1_14
    obtain ⟨_, t0_15⟩ := hf 4 _ rfl
    replace t0_15 : DataW.trod enc Try.prog W 0 (fun _ => true) true _ 3 (([c0, c1, c2, c3, c4, c5, c6, c7, c8, c9, c10, c11, c12, c13, c14, c15, c16, c17, c18, c19, c20, c21, c22, c23, c24].drop 15).take (Try.prog.cellsOf 3)) = some _ := t0_15
    rw [cellsC3] at t0_15
    replace t0_15 : DataW.trod enc Try.prog W 0 (fun _ => true) true _ 3 [c15] = some _ := t0_15
    obtain ⟨_, t0_16⟩ := hf 5 _ rfl
    replace t0_16 : DataW.trod enc Try.prog W 0 (fun _ => true) true _ 3 (([c0, c1, c2, c3, c4, c5, c6, c7, c8, c9, c10, c11, c12, c13, c14, c15, c16, c17, c18, c19, c20, c21, c22, c23, c24].drop 16).take (Try.prog.cellsOf 3)) = some _ := t0_16
    rw [cellsC3] at t0_16
    replace t0_16 : DataW.trod enc Try.prog W 0 (fun _ => true) true _ 3 [c16] = some _ := t0_16
    obtain ⟨_, t0_17⟩ := hf 6 _ rfl
    replace t0_17 : DataW.trod enc Try.prog W 0 (fun _ => true) true _ 48 (([c0, c1, c2, c3, c4, c5, c6, c7, c8, c9, c10, c11, c12, c13, c14, c15, c16, c17, c18, c19, c20, c21, c22, c23, c24].drop 17).take (Try.prog.cellsOf 48)) = some _ := t0_17
    rw [cellsC48] at t0_17
    replace t0_17 : DataW.trod enc Try.prog W 0 (fun _ => true) true _ 48 [c17, c18, c19, c20, c21, c22] = some _ := t0_17
    obtain ⟨_, _, h1_17⟩ := trod_nest Try.underlying48 t0_17
    obtain ⟨_, t1_17⟩ := h1_17 0 _ rfl
    replace t1_17 : DataW.trod enc Try.prog W 0 (fun _ => true) true _ 3 (([c17, c18, c19, c20, c21, c22].drop 0).take (Try.prog.cellsOf 3)) = some _ := t1_17
    rw [cellsC3] at t1_17
    replace t1_17 : DataW.trod enc Try.prog W 0 (fun _ => true) true _ 3 [c17] = some _ := t1_17
    obtain ⟨_, t1_18⟩ := h1_17 1 _ rfl
    replace t1_18 : DataW.trod enc Try.prog W 0 (fun _ => true) true _ 3 (([c17, c18, c19, c20, c21, c22].drop 1).take (Try.prog.cellsOf 3)) = some _ := t1_18
    rw [cellsC3] at t1_18
    replace t1_18 : DataW.trod enc Try.prog W 0 (fun _ => true) true _ 3 [c18] = some _ := t1_18
    obtain ⟨_, t1_19⟩ := h1_17 2 _ rfl
    replace t1_19 : DataW.trod enc Try.prog W 0 (fun _ => true) true _ 4 (([c17, c18, c19, c20, c21, c22].drop 2).take (Try.prog.cellsOf 4)) = some _ := t1_19
    rw [cellsC4] at t1_19
    replace t1_19 : DataW.trod enc Try.prog W 0 (fun _ => true) true _ 4 [c19] = some _ := t1_19
    obtain ⟨_, t1_20⟩ := h1_17 3 _ rfl
    replace t1_20 : DataW.trod enc Try.prog W 0 (fun _ => true) true _ 4 (([c17, c18, c19, c20, c21, c22].drop 3).take (Try.prog.cellsOf 4)) = some _ := t1_20
    rw [cellsC4] at t1_20
    replace t1_20 : DataW.trod enc Try.prog W 0 (fun _ => true) true _ 4 [c20] = some _ := t1_20
    obtain ⟨_, t1_21⟩ := h1_17 4 _ rfl
    replace t1_21 : DataW.trod enc Try.prog W 0 (fun _ => true) true _ 3 (([c17, c18, c19, c20, c21, c22].drop 4).take (Try.prog.cellsOf 3)) = some _ := t1_21
    rw [cellsC3] at t1_21
    replace t1_21 : DataW.trod enc Try.prog W 0 (fun _ => true) true _ 3 [c21] = some _ := t1_21
    obtain ⟨_, t1_22⟩ := h1_17 5 _ rfl
    replace t1_22 : DataW.trod enc Try.prog W 0 (fun _ => true) true _ 3 (([c17, c18, c19, c20, c21, c22].drop 5).take (Try.prog.cellsOf 3)) = some _ := t1_22
    rw [cellsC3] at t1_22
    replace t1_22 : DataW.trod enc Try.prog W 0 (fun _ => true) true _ 3 [c22] = some _ := t1_22
    obtain ⟨_, t0_23⟩ := hf 7 _ rfl
    replace t0_23 : DataW.trod enc Try.prog W 0 (fun _ => true) true _ 3 (([c0, c1, c2, c3, c4, c5, c6, c7, c8, c9, c10, c11, c12, c13, c14, c15, c16, c17, c18, c19, c20, c21, c22, c23, c24].drop 23).take (Try.prog.cellsOf 3)) = some _ := t0_23
    rw [cellsC3] at t0_23
    replace t0_23 : DataW.trod enc Try.prog W 0 (fun _ => true) true _ 3 [c23] = some _ := t0_23
    obtain ⟨_, t0_24⟩ := hf 8 _ rfl
    replace t0_24 : DataW.trod enc Try.prog W 0 (fun _ => true) true _ 3 (([c0, c1, c2, c3, c4, c5, c6, c7, c8, c9, c10, c11, c12, c13, c14, c15, c16, c17, c18, c19, c20, c21, c22, c23, c24].drop 24).take (Try.prog.cellsOf 3)) = some _ := t0_24
    rw [cellsC3] at t0_24
    replace t0_24 : DataW.trod enc Try.prog W 0 (fun _ => true) true _ 3 [c24] = some _ := t0_24
    obtain ⟨p, e0, _, w0⟩ := DataW.trod_int Try.underlying3 t1_0
    obtain rfl : c0 = .int .i64 p := (List.cons.inj e0).1
    obtain ⟨q, e1, _, w1⟩ := DataW.trod_int Try.underlying3 t1_1
    obtain rfl : c1 = .int .i64 q := (List.cons.inj e1).1
    obtain ⟨r, e2, _, w2⟩ := DataW.trod_int Try.underlying3 t1_2
    obtain rfl : c2 = .int .i64 r := (List.cons.inj e2).1
    obtain ⟨st, e3, _, w3⟩ := DataW.trod_int Try.underlying3 t0_3
    obtain rfl : c3 = .int .i64 st := (List.cons.inj e3).1
    obtain ⟨u, e4, _, w4⟩ := DataW.trod_int Try.underlying3 t1_4
    obtain rfl : c4 = .int .i64 u := (List.cons.inj e4).1
    obtain ⟨d, e5, _, w5⟩ := DataW.trod_string Try.underlying9 t1_5
    obtain rfl : c5 = .string d := (List.cons.inj e5).1
    obtain ⟨t, e6, _, w6⟩ := DataW.trod_int Try.underlying3 t1_6
    obtain rfl : c6 = .int .i64 t := (List.cons.inj e6).1
    obtain ⟨f, e7, _⟩ := DataW.trod_bool Try.underlying4 t1_7
    obtain rfl : c7 = .bool f := (List.cons.inj e7).1
    obtain ⟨g, e8, _⟩ := DataW.trod_bool Try.underlying4 t1_8
    obtain rfl : c8 = .bool g := (List.cons.inj e8).1
    obtain ⟨h, e9, _⟩ := DataW.trod_bool Try.underlying4 t1_9
    obtain rfl : c9 = .bool h := (List.cons.inj e9).1
    obtain ⟨n, e10, _, w10⟩ := DataW.trod_int Try.underlying3 t1_10
    obtain rfl : c10 = .int .i64 n := (List.cons.inj e10).1
    obtain ⟨y, e11, _, w11⟩ := DataW.trod_string Try.underlying9 t1_11
    obtain rfl : c11 = .string y := (List.cons.inj e11).1
    obtain ⟨a, len, cap, rfl⟩ : ∃ a len cap, c12 = .slice a len cap := by
      rcases open_slice Try.underlying54 t1_12 with ⟨hcs, _⟩ | ⟨ad, l', cq, _, _, _, _, hcs, _⟩
      · exact ⟨_, _, _, (List.cons.inj hcs).1⟩
      · exact ⟨_, _, _, (List.cons.inj hcs).1⟩
    obtain ⟨rs, hrs⟩ := openPs t1_12
    obtain ⟨fi, e13, _, w13⟩ := DataW.trod_int Try.underlying3 t1_13
    obtain rfl : c13 = .int .i64 fi := (List.cons.inj e13).1
    obtain ⟨z, e14, _⟩ := DataW.trod_bool Try.underlying4 t1_14
    obtain rfl : c14 = .bool z := (List.cons.inj e14).1
    obtain ⟨wi, e15, _, w15⟩ := DataW.trod_int Try.underlying3 t0_15
    obtain rfl : c15 = .int .i64 wi := (List.cons.inj e15).1
    obtain ⟨mo, e16, _, w16⟩ := DataW.trod_int Try.underlying3 t0_16
    obtain rfl : c16 = .int .i64 mo := (List.cons.inj e16).1
    obtain ⟨m, e17, _, w17⟩ := DataW.trod_int Try.underlying3 t1_17
    obtain rfl : c17 = .int .i64 m := (List.cons.inj e17).1
    obtain ⟨c, e18, _, w18⟩ := DataW.trod_int Try.underlying3 t1_18
    obtain rfl : c18 = .int .i64 c := (List.cons.inj e18).1
    obtain ⟨k, e19, _⟩ := DataW.trod_bool Try.underlying4 t1_19
    obtain rfl : c19 = .bool k := (List.cons.inj e19).1
    obtain ⟨s, e20, _⟩ := DataW.trod_bool Try.underlying4 t1_20
    obtain rfl : c20 = .bool s := (List.cons.inj e20).1
    obtain ⟨v, e21, _, w21⟩ := DataW.trod_int Try.underlying3 t1_21
    obtain rfl : c21 = .int .i64 v := (List.cons.inj e21).1
    obtain ⟨x, e22, _, w22⟩ := DataW.trod_int Try.underlying3 t1_22
    obtain rfl : c22 = .int .i64 x := (List.cons.inj e22).1
    obtain ⟨ti, e23, _, w23⟩ := DataW.trod_int Try.underlying3 t0_23
    obtain rfl : c23 = .int .i64 ti := (List.cons.inj e23).1
    obtain ⟨tr, e24, _, w24⟩ := DataW.trod_int Try.underlying3 t0_24
    obtain rfl : c24 = .int .i64 tr := (List.cons.inj e24).1
    exact ⟨p, q, r, st, u, d, t, f, g, h, n, y, a, len, cap, rs, fi, z, wi, mo, m, c, k, s, v, x, ti, tr, rfl, w5, w11, hrs⟩
end Go.Proofs.Ytajekjjaaohbnaa
