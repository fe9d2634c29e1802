/- Arguments of the laws: a slice of laws.MacRow, a laws.Mac. Nothing here is a claim. -/
import Derived.Test.YtobfgkiccmhgdaaBase
import Derived.Test.YtobfgkiccmhgdaaOpenM
import Derived.Test.YtobfgkiccmhgdaaFlat
namespace Go.Proofs.Ytobfgkiccmhgdaa
open Go.Joins Go.ChangeShapes Go.WideShapes Go.RowKit Go.Deep Go.Lib

set_option maxRecDepth 100000 in
theorem openMs {H : Type} {enc : TypeId × Value → H} {w : World} {fuel : Nat} {a : Option Addr} {len cap : Nat} {x : DataW H × List MemPlace}
    (h : DataW.trod enc Try.prog w 0 (fun _ => true) true fuel 48 (Value.slice a len cap).cells.toList = some x) : ∃ rs, IsM w a len cap rs :=
  openM Try.underlying48 Try.underlying117 (by kernel_rfl) ⟨rfl, rfl, by kernel_rfl⟩ ⟨rfl, rfl, by kernel_rfl⟩ Try.underlying9 Try.underlying3 h
set_option maxRecDepth 100000 in
theorem argMacRowS {H : Type} {enc : TypeId × Value → H} {W : World} {r : Reach} {b0 : Nat} {v : Value} {d : DataW H} {p : List MemPlace}
    (hv : Value.okWide Try.prog W r b0 48 v) (h : DataW.Trod enc Try.prog W 0 (fun _ => true) true 48 v d p) : ∃ a len cap rs, v = .slice a len cap ∧ IsM W a len cap rs := by
  obtain ⟨a, len, cap, rfl⟩ := okWide_slice Try.underlying48 hv
  obtain ⟨fuel, hf⟩ := h
  obtain ⟨rs, hrs⟩ := openMs hf
  exact ⟨a, len, cap, rs, rfl, hrs⟩
set_option maxRecDepth 100000 in
theorem argMac {H : Type} {enc : TypeId × Value → H} {W : World} {r : Reach} {b0 : Nat} {v : Value} {d : DataW H} {p : List MemPlace}
    (hv : Value.okWide Try.prog W r b0 50 v) (h : DataW.Trod enc Try.prog W 0 (fun _ => true) true 50 v d p) :
    ∃ u k l a len cap rs, v = .agg #[.bool u, .int .u64 k, .int .u64 l, .slice a len cap] ∧ ((Lit.int .u64 k).wf = true ∧ (Lit.int .u64 l).wf = true ∧ IsM W a len cap rs) := by
  obtain ⟨cs, n, rfl, hl, hf⟩ := open_flat Try.underlying50 (by kernel_rfl) (by kernel_rfl) hv h
  match cs, hl with
  | [c0, c1, c2, c3], _ =>
    obtain ⟨_, t0⟩ := hf 0 _ rfl
    obtain ⟨_, t1⟩ := hf 1 _ rfl
    obtain ⟨_, t2⟩ := hf 2 _ rfl
    obtain ⟨_, t3⟩ := hf 3 _ rfl
    obtain ⟨u, e0, _⟩ := DataW.trod_bool Try.underlying4 t0
    obtain rfl : c0 = .bool u := (List.cons.inj e0).1
    obtain ⟨k, e1, _, w1⟩ := DataW.trod_int Try.underlying24 t1
    obtain rfl : c1 = .int .u64 k := (List.cons.inj e1).1
    obtain ⟨l, e2, _, w2⟩ := DataW.trod_int Try.underlying24 t2
    obtain rfl : c2 = .int .u64 l := (List.cons.inj e2).1
    obtain ⟨a, len, cap, rfl⟩ : ∃ a len cap, c3 = .slice a len cap := by
      rcases open_slice Try.underlying48 t3 with ⟨hcs, _⟩ | ⟨ad, l', c, _, _, _, _, hcs, _⟩
      · exact ⟨_, _, _, (List.cons.inj hcs).1⟩
      · exact ⟨_, _, _, (List.cons.inj hcs).1⟩
    obtain ⟨rs, hrs⟩ := openMs t3
    exact ⟨u, k, l, a, len, cap, rs, rfl, w1, w2, hrs⟩
end Go.Proofs.Ytobfgkiccmhgdaa
