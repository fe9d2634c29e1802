/- An argument of type laws.Keys, opened. Nothing here is a claim. -/
import Derived.Test.YtobfgkiccmhgdaaArgMac
import Derived.Test.YtobfgkiccmhgdaaKeysLaw
namespace Go.Proofs.Ytobfgkiccmhgdaa
open Go.Joins Go.ChangeShapes Go.WideShapes Go.RowKit Go.Deep Go.Lib

theorem Try.cellsM : Try.prog.cellsOf 50 = 4 := by kernel_rfl
theorem Try.cellsK : Try.prog.cellsOf 52 = 10 := by kernel_rfl
theorem Try.cellsI : Try.prog.cellsOf 3 = 1 := by kernel_rfl
theorem Try.cellsB : Try.prog.cellsOf 4 = 1 := by kernel_rfl
theorem Try.cellsU : Try.prog.cellsOf 24 = 1 := by kernel_rfl
theorem Try.cellsR : Try.prog.cellsOf 48 = 1 := by kernel_rfl
theorem wf_n64 {k : Int} (h : (Lit.int .u64 k).wf = true) : ∃ b, k = n64 b := by
  refine n64_of k ?_
  have h2 : IntKind.u64.min ≤ k ∧ k ≤ IntKind.u64.max := by simpa [Lit.wf] using h
  have e1 : IntKind.u64.min = 0 := by decide
  have e2 : IntKind.u64.max = 18446744073709551615 := by decide
  omega
set_option maxRecDepth 100000 in
theorem openMac {H : Type} {enc : TypeId × Value → H} {W : World} {n : Nat} {c0 c1 c2 c3 : Value} {x : DataW H × List MemPlace}
    (h : DataW.trod enc Try.prog W 0 (fun _ => true) true n 50 [c0, c1, c2, c3] = some x) :
    ∃ m : M, c0 = .bool m.u ∧ c1 = .int .u64 (n64 m.k) ∧ c2 = .int .u64 (n64 m.l) ∧ c3 = .slice m.a m.rs.length m.c ∧ LawM W m := by
  obtain ⟨_, _, hf⟩ := trod_nest Try.underlying50 h
  obtain ⟨_, t0⟩ := hf 0 _ rfl
  obtain ⟨_, t1⟩ := hf 1 _ rfl
  obtain ⟨_, t2⟩ := hf 2 _ rfl
  obtain ⟨_, t3⟩ := hf 3 _ rfl
  replace t0 : DataW.trod enc Try.prog W 0 (fun _ => true) true _ 4 (([c0, c1, c2, c3].drop 0).take (Try.prog.cellsOf 4)) = some _ := t0
  replace t1 : DataW.trod enc Try.prog W 0 (fun _ => true) true _ 24 (([c0, c1, c2, c3].drop 1).take (Try.prog.cellsOf 24)) = some _ := t1
  replace t2 : DataW.trod enc Try.prog W 0 (fun _ => true) true _ 24 (([c0, c1, c2, c3].drop 2).take (Try.prog.cellsOf 24)) = some _ := t2
  replace t3 : DataW.trod enc Try.prog W 0 (fun _ => true) true _ 48 (([c0, c1, c2, c3].drop 3).take (Try.prog.cellsOf 48)) = some _ := t3
  rw [Try.cellsB] at t0
  rw [Try.cellsU] at t1 t2
  rw [Try.cellsR] at t3
  replace t0 : DataW.trod enc Try.prog W 0 (fun _ => true) true _ 4 [c0] = some _ := t0
  replace t1 : DataW.trod enc Try.prog W 0 (fun _ => true) true _ 24 [c1] = some _ := t1
  replace t2 : DataW.trod enc Try.prog W 0 (fun _ => true) true _ 24 [c2] = some _ := t2
  replace t3 : DataW.trod enc Try.prog W 0 (fun _ => true) true _ 48 [c3] = some _ := t3
  obtain ⟨u, e0, _⟩ := DataW.trod_bool Try.underlying4 t0
  obtain rfl : c0 = .bool u := (List.cons.inj e0).1
  obtain ⟨k, e1, _, w1⟩ := DataW.trod_int Try.underlying24 t1
  obtain rfl : c1 = .int .u64 k := (List.cons.inj e1).1
  obtain ⟨l, e2, _, w2⟩ := DataW.trod_int Try.underlying24 t2
  obtain rfl : c2 = .int .u64 l := (List.cons.inj e2).1
  obtain ⟨a, len, cap, rfl⟩ : ∃ a len cap, c3 = .slice a len cap := by
    rcases open_slice Try.underlying48 t3 with ⟨hcs, _⟩ | ⟨ad, l', c, _, _, _, _, hcs, _⟩
    · exact ⟨_, _, _, (List.cons.inj hcs).1⟩
    · exact ⟨_, _, _, (List.cons.inj hcs).1⟩
  obtain ⟨rs, ⟨rfl, hl, hc, hg⟩, hrow⟩ := openMs t3
  obtain ⟨k, rfl⟩ := wf_n64 w1
  obtain ⟨l, rfl⟩ := wf_n64 w2
  exact ⟨⟨u, k, l, a, cap, rs⟩, rfl, rfl, rfl, rfl, ⟨Nat.le_trans hl hc, hg⟩, hrow⟩
set_option maxRecDepth 100000 in
theorem argMacM {H : Type} {enc : TypeId × Value → H} {W : World} {r : Reach} {b0 : Nat} {v : Value} {d : DataW H} {p : List MemPlace}
    (hv : Value.okWide Try.prog W r b0 50 v) (h : DataW.Trod enc Try.prog W 0 (fun _ => true) true 50 v d p) :
    ∃ m : M, v = .agg #[.bool m.u, .int .u64 (n64 m.k), .int .u64 (n64 m.l), .slice m.a m.rs.length m.c] ∧ LawM W m := by
  obtain ⟨cs, rfl, hsz⟩ := okWide_struct Try.underlying50 hv
  obtain ⟨fuel, hf⟩ := h
  replace hf : DataW.trod enc Try.prog W 0 (fun _ => true) true fuel 50 cs.toList = some _ := hf
  obtain ⟨_, hl, _⟩ := trod_nest Try.underlying50 hf
  rw [Try.cellsM] at hl
  obtain ⟨xs, rfl⟩ : ∃ xs : List Value, cs = xs.toArray := ⟨cs.toList, by simp⟩
  match xs, hl with
  | [c0, c1, c2, c3], _ =>
    obtain ⟨m, rfl, rfl, rfl, rfl, hm⟩ := openMac hf
    exact ⟨m, rfl, hm⟩
set_option maxRecDepth 100000 in
theorem argKeys {H : Type} {enc : TypeId × Value → H} {W : World} {r : Reach} {b0 : Nat} {v : Value} {d : DataW H} {p : List MemPlace}
    (hv : Value.okWide Try.prog W r b0 52 v) (h : DataW.Trod enc Try.prog W 0 (fun _ => true) true 52 v d p) :
    ∃ e p q t, v = .agg #[.int .i64 e, .bool p.u, .int .u64 (n64 p.k), .int .u64 (n64 p.l), .slice p.a p.rs.length p.c, .bool q.u, .int .u64 (n64 q.k), .int .u64 (n64 q.l), .slice q.a q.rs.length q.c, .bool t] ∧ ((Lit.int .i64 e).wf = true ∧ LawM W p ∧ LawM W q) := by
  obtain ⟨cs, n, rfl, hl, hf⟩ := open_nest Try.underlying52 hv h
  rw [Try.cellsK] at hl
  match cs, hl with
  | [c0, c1, c2, c3, c4, c5, c6, c7, c8, c9], _ =>
    obtain ⟨_, t0⟩ := hf 0 _ rfl
    obtain ⟨_, t1⟩ := hf 1 _ rfl
    obtain ⟨_, t2⟩ := hf 2 _ rfl
    obtain ⟨_, t3⟩ := hf 3 _ rfl
    replace t0 : DataW.trod enc Try.prog W 0 (fun _ => true) true _ 3 (([c0, c1, c2, c3, c4, c5, c6, c7, c8, c9].drop 0).take (Try.prog.cellsOf 3)) = some _ := t0
    replace t1 : DataW.trod enc Try.prog W 0 (fun _ => true) true _ 50 (([c0, c1, c2, c3, c4, c5, c6, c7, c8, c9].drop 1).take (Try.prog.cellsOf 50)) = some _ := t1
    replace t2 : DataW.trod enc Try.prog W 0 (fun _ => true) true _ 50 (([c0, c1, c2, c3, c4, c5, c6, c7, c8, c9].drop 5).take (Try.prog.cellsOf 50)) = some _ := t2
    replace t3 : DataW.trod enc Try.prog W 0 (fun _ => true) true _ 4 (([c0, c1, c2, c3, c4, c5, c6, c7, c8, c9].drop 9).take (Try.prog.cellsOf 4)) = some _ := t3
    rw [Try.cellsI] at t0
    rw [Try.cellsM] at t1 t2
    rw [Try.cellsB] at t3
    replace t0 : DataW.trod enc Try.prog W 0 (fun _ => true) true _ 3 [c0] = some _ := t0
    replace t1 : DataW.trod enc Try.prog W 0 (fun _ => true) true _ 50 [c1, c2, c3, c4] = some _ := t1
    replace t2 : DataW.trod enc Try.prog W 0 (fun _ => true) true _ 50 [c5, c6, c7, c8] = some _ := t2
    replace t3 : DataW.trod enc Try.prog W 0 (fun _ => true) true _ 4 [c9] = some _ := t3
    obtain ⟨e, e0, _, w0⟩ := DataW.trod_int Try.underlying3 t0
    obtain rfl : c0 = .int .i64 e := (List.cons.inj e0).1
    obtain ⟨p, rfl, rfl, rfl, rfl, hp⟩ := openMac t1
    obtain ⟨q, rfl, rfl, rfl, rfl, hq⟩ := openMac t2
    obtain ⟨t, e3, _⟩ := DataW.trod_bool Try.underlying4 t3
    obtain rfl : c9 = .bool t := (List.cons.inj e3).1
    exact ⟨e, p, q, t, rfl, w0, hp, hq⟩
end Go.Proofs.Ytobfgkiccmhgdaa
