/- An argument of type laws.Link, opened. Nothing here is a claim. -/
import Derived.Test.YtkkimgjcefojdaaArgEnt
namespace Go.Proofs.Ytkkimgjcefojdaa
open Go.Joins Go.ChangeShapes Go.WideShapes Go.RowKit Go.Deep Go.Lib

/-- What is known of a link that came in. -/
def LawL (W : World) (m ip : Int) (a : Option Addr) (len cap : Nat) (rs : List ER) : Prop := (Lit.int .i64 m).wf = true ∧ (Lit.int .i64 ip).wf = true ∧ IsE W a len cap rs
set_option maxRecDepth 100000 in
theorem argLink {H : Type} {enc : TypeId × Value → H} {W : World} {r : Reach} {b0 : Nat} {v : Value} {d : DataW H} {p : List MemPlace}
    (hv : Value.okWide Try.prog W r b0 24 v) (h : DataW.Trod enc Try.prog W 0 (fun _ => true) true 24 v d p) :
    ∃ m ip a len cap rs, v = .agg #[.int .i64 m, .int .i64 ip, .slice a len cap] ∧ LawL W m ip a len cap rs := by
  obtain ⟨cs, n, rfl, hl, hf⟩ := open_flat Try.underlying24 (by kernel_rfl) (by kernel_rfl) hv h
  match cs, hl with
  | [c0, c1, c2], _ =>
    obtain ⟨_, t0⟩ := hf 0 _ rfl
    obtain ⟨_, t1⟩ := hf 1 _ rfl
    obtain ⟨_, t2⟩ := hf 2 _ rfl
    obtain ⟨m, e0, _, w0⟩ := DataW.trod_int Try.underlying3 t0
    obtain rfl : c0 = .int .i64 m := (List.cons.inj e0).1
    obtain ⟨ip, e1, _, w1⟩ := DataW.trod_int Try.underlying3 t1
    obtain rfl : c1 = .int .i64 ip := (List.cons.inj e1).1
    obtain ⟨a, len, cap, rfl⟩ : ∃ a len cap, c2 = .slice a len cap := by
      rcases open_slice Try.underlying22 t2 with ⟨hcs, _⟩ | ⟨ad, l', c, _, _, _, _, hcs, _⟩
      · exact ⟨_, _, _, (List.cons.inj hcs).1⟩
      · exact ⟨_, _, _, (List.cons.inj hcs).1⟩
    obtain ⟨rs, hrs⟩ := openEs t2
    exact ⟨m, ip, a, len, cap, rs, rfl, w0, w1, hrs⟩
end Go.Proofs.Ytkkimgjcefojdaa
