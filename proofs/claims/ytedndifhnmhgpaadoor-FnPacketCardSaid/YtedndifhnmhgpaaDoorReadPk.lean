/- ReadPacket, of the model and of the program: one contract each. Nothing here is a claim. -/
import Derived.Test.YtedndifhnmhgpaaDoorReadPkI
import Derived.Test.YtedndifhnmhgpaaDoorReadPkS
namespace Go.Proofs.YtedndifhnmhgpaaDoor
open Go.RowKit Go.Lib

/-- What ReadPacket answers. -/
def rkF (s : ByteArray) (n : Int) : Int := if pkWhy s = 0 then n else 0
def rkS (s : ByteArray) : Int := rkF s (gw s 12 4 : Nat)
def rkD (s : ByteArray) : Int := rkF s (gw s 16 4 : Nat)
def rkT (s : ByteArray) : Int := rkF s (at8 s 8).toNat
def rkP (s : ByteArray) : Int := rkF s (at8 s 9).toNat
def rkI (s : ByteArray) : Int := rkF s (gw s 4 2 : Nat)
def rkB (s : ByteArray) : ByteArray := if pkWhy s = 0 then s.extract 20 (gw s 2 2) else ⟨#[]⟩
def rkV (s : ByteArray) : Value := .tuple #[.agg #[.int .i64 (rkS s), .int .i64 (rkD s), .int .i64 (rkT s), .int .i64 (rkP s), .int .i64 (rkI s), .string (rkB s)], .int .i64 (pkWhy s : Nat)]
theorem rkV_yes (s : ByteArray) (h : pkWhy s = 0) : rkV s = .tuple #[.agg #[.int .i64 (gw s 12 4 : Nat), .int .i64 (gw s 16 4 : Nat), .int .i64 (at8 s 8).toNat, .int .i64 (at8 s 9).toNat, .int .i64 (gw s 4 2 : Nat), .string (s.extract 20 (gw s 2 2))], .int .i64 0] := by
  unfold rkV rkS rkD rkT rkP rkI rkB rkF; simp only [h, if_true]; rfl
theorem rkV_no (s : ByteArray) (k : Nat) (h : pkWhy s = k) (h0 : ¬ k = 0) : rkV s = .tuple #[.agg #[.int .i64 0, .int .i64 0, .int .i64 0, .int .i64 0, .int .i64 0, .string ⟨#[]⟩], .int .i64 k] := by
  unfold rkV rkS rkD rkT rkP rkI rkB rkF; simp only [h, h0, if_false]
/-- What is known of a text that begins with a packet. -/
theorem pkWhy_zero {s : ByteArray} (h : pkWhy s = 0) : 20 ≤ s.size ∧ (at8 s 0).toNat = 69 ∧ sumRight (s.extract 0 20) = true ∧ (20 ≤ gw s 2 2 ∧ gw s 2 2 ≤ s.size ∧ gw s 2 2 ≤ 1500) ∧ (gw s 6 2 = 0 ∨ gw s 6 2 = 16384) ∧ ¬ (at8 s 8).toNat = 0 := by
  unfold pkWhy at h
  split at h
  · omega
  split at h
  · omega
  split at h
  · omega
  rename_i h3
  split at h
  · omega
  split at h
  · omega
  split at h
  · omega
  exact ⟨by omega, by omega, by simpa using h3, by omega, by omega, by assumption⟩

theorem readPkI (s : ByteArray) (w : World) (hg : ErrTy w) (hs : s.size ≤ 1048576) :
    Calls Tryd.prog 11 #[.string s] w fun e w' => e = .returned (rkV s) ∧ Below w.heap.size w w' := by
  by_cases h : pkWhy s = 0
  · obtain ⟨h1, _, _, ⟨h2, h3, _⟩, _, _⟩ := pkWhy_zero h
    rw [rkV_yes s h]; exact readPkI_ok s hs h h1 h2 h3 w
  · rw [rkV_no s _ rfl h]; exact readPkI_bad s hs _ rfl h w hg

theorem readPkS (s : ByteArray) (w : World) (hs : s.size ≤ 1048576) :
    Calls Tryd.prog 14 #[.string s] w fun e w' => e = .returned (rkV s) ∧ Below w.heap.size w w' := by
  by_cases h : 20 ≤ s.size
  · by_cases hv : (at8 s 0).toNat = 69
    · cases hr : sumRight (s.extract 0 20) with
      | false => rw [rkV_no s 3 (by unfold pkWhy; rw [if_neg (by omega), if_neg (by omega), if_pos hr]) (by omega)]; exact readPkS_sum s w hs h hv hr
      | true =>
        have hr' : ¬ sumRight (s.extract 0 20) = false := by rw [hr]; decide
        by_cases hx : 20 ≤ gw s 2 2 ∧ gw s 2 2 ≤ s.size ∧ gw s 2 2 ≤ 1500
        · by_cases hy : gw s 6 2 = 0 ∨ gw s 6 2 = 16384
          · obtain ⟨hy1, hy2⟩ := (frag_bytes s).1 hy
            by_cases ht : (at8 s 8).toNat = 0
            · rw [rkV_no s 6 (by unfold pkWhy; rw [if_neg (by omega), if_neg (by omega), if_neg hr', if_neg (by omega), if_neg (by omega), if_pos ht]) (by omega)]; exact readPkS_ttl s w hs h hv hr hx hy1 hy2 ht
            · rw [rkV_yes s (by unfold pkWhy; rw [if_neg (by omega), if_neg (by omega), if_neg hr', if_neg (by omega), if_neg (by omega), if_neg ht])]; exact readPkS_ok s w hs h hv hr hx hy1 hy2 ht
          · rw [rkV_no s 5 (by unfold pkWhy; rw [if_neg (by omega), if_neg (by omega), if_neg hr', if_neg (by omega), if_pos hy]) (by omega)]
            by_cases h6 : bits .and .u8 ((at8 s 6).toNat : Int) 191 = 0
            · exact readPkS_frag7 s w hs h hv hr hx h6 (fun h7 => hy ((frag_bytes s).2 ⟨h6, h7⟩))
            · exact readPkS_frag6 s w hs h hv hr hx h6
        · rw [rkV_no s 4 (by unfold pkWhy; rw [if_neg (by omega), if_neg (by omega), if_neg hr', if_pos hx]) (by omega)]; exact readPkS_length s w hs h hv hr hx
    · rw [rkV_no s 2 (by unfold pkWhy; rw [if_neg (by omega), if_pos hv]) (by omega)]; exact readPkS_version s w h hv
  · rw [rkV_no s 1 (by unfold pkWhy; rw [if_pos (by omega)]) (by omega)]; exact readPkS_short s w (by omega)
end Go.Proofs.YtedndifhnmhgpaaDoor
