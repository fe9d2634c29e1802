/- Unhex of Hex. Nothing here is a claim. -/
import Derived.Test.YtbpmebpnnooidaaDoorUnhexKit
namespace Go.Proofs.YtbpmebpnnooidaaDoor
open Go.RowKit Go.Lib

theorem hexL_at (l : List UInt8) : ∀ (j : Nat) (c : UInt8), l[j]? = some c → (hexL l)[2 * j]? = some (hexB (c.toNat / 16)) ∧ (hexL l)[2 * j + 1]? = some (hexB (c.toNat % 16)) := by
  induction l with
  | nil => intro j c h; simp at h
  | cons x l ih =>
    intro j c h
    have e : hexL (x :: l) = hexB (x.toNat / 16) :: hexB (x.toNat % 16) :: hexL l := rfl
    cases j with
    | zero =>
      simp at h
      subst h
      rw [e]; exact ⟨rfl, rfl⟩
    | succ j =>
      have h' : l[j]? = some c := by simpa using h
      rw [e, show 2 * (j + 1) = 2 * j + 1 + 1 by omega, List.getElem?_cons_succ, List.getElem?_cons_succ, show 2 * j + 1 + 1 + 1 = (2 * j + 1) + 1 + 1 by omega, List.getElem?_cons_succ, List.getElem?_cons_succ]
      exact ih j c h'
theorem half_hexB_all : ∀ n : Fin 16, half (hexB n.val) = (n.val : Int) := by decide +kernel
theorem half_hexB (n : Nat) (h : n < 16) : half (hexB n) = (n : Int) := half_hexB_all ⟨n, h⟩

theorem unhex_hex (s : ByteArray) : unhexOut ⟨(hexL s.data.toList).toArray⟩ = (s, true) := by
  have hsz : (ByteArray.mk (hexL s.data.toList).toArray).size = 2 * s.size := by
    show (hexL s.data.toList).toArray.size = _
    rw [List.size_toArray, hexL_length]; simp
  have hat : ∀ j (hj : j < s.size), half (at8 ⟨(hexL s.data.toList).toArray⟩ (2 * j)) = ((s.data.toList[j]'(by simpa using hj)).toNat / 16 : Nat) ∧ half (at8 ⟨(hexL s.data.toList).toArray⟩ (2 * j + 1)) = ((s.data.toList[j]'(by simpa using hj)).toNat % 16 : Nat) := fun j hj => by
    have hjl : j < s.data.toList.length := by simpa using hj
    obtain ⟨h1, h2⟩ := hexL_at s.data.toList j _ (List.getElem?_eq_getElem hjl)
    have h8 : s.data.toList[j].toNat < 256 := s.data.toList[j].toNat_lt
    unfold at8
    simp only [List.getD_eq_getElem?_getD, h1, h2, Option.getD_some]
    exact ⟨half_hexB _ (by omega), half_hexB _ (by omega)⟩
  rw [unhexOut_good _ (by rw [hsz]; omega) (fun j hj => by
    rw [hsz] at hj
    obtain ⟨h1, h2⟩ := hat j (by omega)
    unfold pairOk
    rw [h1, h2]; omega)]
  rw [hsz, show 2 * s.size / 2 = s.size by omega]
  have hp : pairs ⟨(hexL s.data.toList).toArray⟩ s.size = s.data.toList := by
    apply List.ext_getElem (by rw [pairs_length]; simp)
    intro j h1 h2
    rw [pairs_length] at h1
    obtain ⟨e1, e2⟩ := hat j h1
    have h8 : s.data.toList[j].toNat < 256 := s.data.toList[j].toNat_lt
    simp only [pairs, List.getElem_map, List.getElem_range]
    unfold pairB
    rw [e1, e2]
    apply UInt8.toNat_inj.1
    rw [UInt8.toNat_ofNat']
    omega
  rw [hp]
end Go.Proofs.YtbpmebpnnooidaaDoor
