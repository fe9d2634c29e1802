/- What FnSender, FnAcked and FnChunk lean on (pure). Nothing here is a claim. -/
import Derived.Test.YtkigkfedkjnkeaaSndLaw
namespace Go.Proofs.Ytkigkfedkjnkeaa
open Go.RowKit Go.Lib

theorem que_facts {u : Int} {d : ByteArray} {t : Int} {g h : Bool} (x : ByteArray) (k : sndOk ⟨u, d, t, false, g, h⟩ = true) :
    ∃ n : Nat, qn ⟨u, d, t, false, g, h⟩ x = n ∧ queued ⟨u, d, t, false, g, h⟩ x = ⟨u, d ++ x.extract 0 n, t, false, g, h⟩ ∧ n ≤ x.size ∧ sndOk ⟨u, d ++ x.extract 0 n, t, false, g, h⟩ = true ∧ (d ++ x.extract 0 n).size = d.size + n ∧ d.size + n ≤ 48 ∧ (n ≠ x.size → d.size + n = 48) := by
  obtain ⟨hw, ⟨h1, h2, h3⟩, h4, h5⟩ := sndOk_of k
  have e := qn_yes (s := ⟨u, d, t, false, g, h⟩) (x := x) (by rw [k]; rfl)
  refine ⟨qn ⟨u, d, t, false, g, h⟩ x, rfl, e.2, ?_⟩
  have e1 := e.1
  simp only at e1
  generalize qn ⟨u, d, t, false, g, h⟩ x = n at e1
  have hz : (d ++ x.extract 0 n).size = d.size + n := by rw [ByteArray.size_append, ByteArray.size_extract]; omega
  refine ⟨by omega, sndOk_mk hw (by omega) h2 (by omega) (fun q => absurd (h4 q).1 (by decide)) (fun q => absurd (h5 q).1 (by decide)), hz, by omega, fun q => by omega⟩
theorem ack_facts {u : Int} {d : ByteArray} {t : Int} {f g h : Bool} {a : Int} (k : akOk ⟨u, d, t, f, g, h⟩ a = true) :
    ∃ p n : Nat, t = (p : Int) ∧ df a u = (n : Int) ∧ p ≤ d.size ∧ n ≤ p + 1 ∧ d.size ≤ 48 ∧
      (p < n → g = true ∧ h = false ∧ acked ⟨u, d, t, f, g, h⟩ a = ⟨pl a, d.extract p d.size, 0, f, false, true⟩ ∧ sndOk ⟨pl a, d.extract p d.size, 0, f, false, true⟩ = true ∧ nxt (pl a) 0 false = nxt u t g) ∧
      (¬ p < n → acked ⟨u, d, t, f, g, h⟩ a = ⟨pl a, d.extract n d.size, (p : Int) - n, f, g, h⟩ ∧ sndOk ⟨pl a, d.extract n d.size, (p : Int) - n, f, g, h⟩ = true ∧ nxt (pl a) ((p : Int) - n) g = nxt u t g) := by
  have k2 := k
  unfold akOk at k2
  rw [Bool.and_eq_true, decide_eq_true_eq] at k2
  obtain ⟨ok, hr0, hr1⟩ := k2
  obtain ⟨hw, ⟨h1, h2, h3⟩, h4, h5⟩ := sndOk_of ok
  obtain ⟨p, rfl⟩ : ∃ p : Nat, t = (p : Int) := ⟨t.toNat, by omega⟩
  simp only at hr0 hr1
  obtain ⟨n, hn⟩ : ∃ n : Nat, df a u = (n : Int) := ⟨(df a u).toNat, by omega⟩
  have hpl : pl (u + df a u) = pl a := by unfold pl df; omega
  have hfl := fl_in (g := g) h2 (by omega)
  have hb := fl_bd ok
  simp only at hb
  refine ⟨p, n, rfl, hn, by omega, by omega, h1, fun hf => ?_, fun hf => ?_⟩
  · have hf2 : (p : Int) < df a u := by omega
    have hg : g = true := by
      cases g with
      | true => rfl
      | false => rw [hfl] at hr1; simp only [cond_false] at hr1; omega
    subst hg
    have hh : h = false := by
      cases h with
      | false => rfl
      | true => exact absurd (h5 rfl).2.1 (by decide)
    have e := ak_fin (s := ⟨u, d, p, f, true, h⟩) k hf2
    simp only [Int.toNat_natCast] at e
    rw [hpl] at e
    have hp : (p : Int) = d.size := (h4 rfl).2
    rw [hfl] at hr1
    simp only [cond_true] at hfl hr1
    refine ⟨rfl, hh, e, sndOk_mk (word_pl a) (by rw [ByteArray.size_extract]; omega) (Int.le_refl 0) (by omega) (fun q => by cases q) (fun _ => ⟨(h4 rfl).1, rfl, by rw [ByteArray.size_extract]; omega⟩), ?_⟩
    have e2 : nxt u p true = pl (u + df a u) := by unfold nxt; rw [hfl]; congr 2; omega
    rw [e2, hpl]
    unfold nxt fl
    simp only [cond_false, Int.add_zero]
    exact pl_word (word_pl a)
  · have hf2 : ¬ (p : Int) < df a u := by omega
    have e := ak_yes (s := ⟨u, d, p, f, g, h⟩) k hf2
    simp only [hpl] at e
    rw [hn] at e
    simp only [Int.toNat_natCast] at e
    refine ⟨e, sndOk_mk (word_pl a) (by rw [ByteArray.size_extract]; omega) (by omega) (by rw [ByteArray.size_extract]; omega) (fun q => ⟨(h4 q).1, by rw [ByteArray.size_extract]; have := (h4 q).2; omega⟩) (fun q => ⟨(h5 q).1, (h5 q).2.1, by rw [ByteArray.size_extract]; have := (h5 q).2.2; omega⟩), ?_⟩
    unfold nxt
    have e3 := fl_in (t := (p : Int) - n) (g := g) (by omega) (by omega)
    rw [e3, hfl, ← hpl, hn]
    cases g
    · simp only [cond_false]; unfold pl; omega
    · simp only [cond_true]; unfold pl; omega
/-- What a chunk that is sent leaves. -/
theorem chunk_facts {u : Int} {d : ByteArray} {t : Int} {f g h : Bool} {v m : Int} (k : ckOk ⟨u, d, t, f, g, h⟩ v m = true) :
    ∃ (p n : Nat) (b : Bool) (q r : Int), t = (p : Int) ∧ g = false ∧ p + n ≤ d.size ∧ d.size ≤ 48 ∧ nxt u t g = q ∧ chk ⟨u, d, t, f, g, h⟩ v m = ⟨q, d.extract p (p + n), b⟩ ∧ (d.extract p (p + n)).size = n ∧
      sentOff ⟨u, d, t, f, g, h⟩ ⟨q, d.extract p (p + n), b⟩ = ⟨u, d, (p : Int) + n, f, b, h⟩ ∧ sndOk ⟨u, d, (p : Int) + n, f, b, h⟩ = true ∧ nxt u ((p : Int) + n) b = r ∧
      df r u = (p : Int) + n + (bif b then 1 else 0) ∧ (p : Int) + n + (bif b then 1 else 0) ≤ v ∧ pl (q + ((n : Int) + (bif b then 1 else 0))) = r ∧ (b = false → (n : Int) ≤ m) ∧ (¬ (n : Int) ≤ m → n = 0) := by
  have k2 := k
  unfold ckOk at k2
  rw [Bool.and_eq_true] at k2
  obtain ⟨ok, k3⟩ := k2
  have ey := chk_yes k
  obtain ⟨hw, ⟨h1, h2, h3⟩, h4, h5⟩ := sndOk_of ok
  obtain ⟨p, rfl⟩ : ∃ p : Nat, t = (p : Int) := ⟨t.toNat, by omega⟩
  have hfl := fl_in (g := g) h2 (by omega)
  have eF : ckF ⟨u, d, p, f, g, h⟩ v m = ((f && (!g && !h)) && (decide ((p : Int) + ckN ⟨u, d, p, f, g, h⟩ v m = d.size) && decide ((ckN ⟨u, d, p, f, g, h⟩ v m : Int) < ckW ⟨u, d, p, f, g, h⟩ v))) := rfl
  have eN : (ckN ⟨u, d, p, f, g, h⟩ v m : Int) = max 0 (min (min m (ckW ⟨u, d, p, f, g, h⟩ v)) (d.size - p)) := by unfold ckN; simp only; omega
  have eW : ckW ⟨u, d, p, f, g, h⟩ v = max 0 (max 0 (min v 1000000) - fl p g) := rfl
  simp only [Int.toNat_natCast] at ey
  generalize ckW ⟨u, d, p, f, g, h⟩ v = W at eF eN eW
  generalize ckN ⟨u, d, p, f, g, h⟩ v m = n at eF eN k3 ey
  generalize ckF ⟨u, d, p, f, g, h⟩ v m = b at eF k3 ey
  have hb : b = true → f = true ∧ g = false ∧ h = false ∧ (p : Int) + n = d.size ∧ (n : Int) < W := by
    intro e
    rw [e] at eF
    have eF := eF.symm
    simp only [Bool.and_eq_true, Bool.not_eq_true', decide_eq_true_eq] at eF
    exact ⟨eF.1.1, eF.1.2.1, eF.1.2.2, eF.2.1, eF.2.2⟩
  have hn0 : b = false → n ≠ 0 := by
    intro e
    rw [e] at k3
    simpa using k3
  have hg : g = false := by
    cases g with
    | false => rfl
    | true =>
      have hp := (h4 rfl).2
      cases b with
      | true => exact (hb rfl).2.1
      | false => have := hn0 rfl; omega
  subst hg
  simp only [cond_false] at hfl
  rw [hfl] at eW
  have hpn : p + n ≤ d.size := by omega
  have hsz : (d.extract p (p + n)).size = n := by rw [ByteArray.size_extract]; omega
  have ok2 : sndOk ⟨u, d, (p : Int) + n, f, b, h⟩ = true := sndOk_mk hw h1 (by omega) (by omega) (fun e => ⟨(hb e).1, (hb e).2.2.2.1⟩) (fun e => by
    obtain ⟨f1, _, f3⟩ := h5 e
    refine ⟨f1, ?_, f3⟩
    cases b with
    | false => rfl
    | true => exact absurd ((hb rfl).2.2.1.symm.trans e) (by decide))
  have eo : offS ⟨u, d, p, f, false, h⟩ ⟨nxt u p false, d.extract p (p + n), b⟩ = ⟨u, d, (p : Int) + n, f, b, h⟩ := by
    unfold offS
    simp only [hsz, Bool.false_or]
    rw [show wrap64 ((p : Int) + n) = (p : Int) + n by rw [wrap64_is]; omega]
  have hfl2 := fl_in (t := (p : Int) + n) (g := b) (by omega) (by omega)
  have hq : nxt u p false = pl (u + p) := by unfold nxt; rw [hfl]
  have hr : nxt u ((p : Int) + n) b = pl (u + ((p : Int) + n + (bif b then 1 else 0))) := by
    unfold nxt; rw [hfl2]
    cases b
    · simp only [cond_false, Int.add_zero]
    · simp only [cond_true]
  have hv : (p : Int) + n + (bif b then 1 else 0) ≤ v := by
    cases b with
    | false => have := hn0 rfl; simp only [cond_false]; omega
    | true => have := (hb rfl).2.2.2.2; simp only [cond_true]; omega
  have hbd : 0 ≤ (p : Int) + n + (bif b then 1 else 0) ∧ (p : Int) + n + (bif b then 1 else 0) ≤ 49 := by
    cases b
    · simp only [cond_false]; omega
    · simp only [cond_true]; omega
  refine ⟨p, n, b, nxt u p false, nxt u ((p : Int) + n) b, rfl, rfl, hpn, h1, rfl, ey, hsz, ?_, ok2, rfl, ?_, hv, ?_, fun e => ?_, fun e => ?_⟩
  · rw [off_yes (s := ⟨u, d, p, f, false, h⟩) (by rw [ok, eo]; exact ok2), eo]
  · rw [hr]
    generalize (p : Int) + n + (bif b then 1 else 0) = y at hbd
    unfold df pl
    omega
  · rw [hr, hq]
    cases b
    · simp only [cond_false]; unfold pl; omega
    · simp only [cond_true]; unfold pl; omega
  · have := hn0 e; omega
  · omega
end Go.Proofs.Ytkigkfedkjnkeaa
