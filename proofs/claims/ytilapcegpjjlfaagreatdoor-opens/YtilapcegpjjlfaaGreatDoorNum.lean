import Derived.Test.YtilapcegpjjlfaaGreatDoorCode
import Derived.Laws.BitsAllLaws
namespace Go.Proofs.YtilapcegpjjlfaaGreatDoor
set_option linter.unusedSimpArgs false
set_option linter.unusedVariables false
open Go.RowKit

def nval : List Int → Int
  | [] => 0
  | x :: xs => x + 256 * nval xs
theorem nval_bounds : ∀ xs : List Int, (∀ x ∈ xs, 0 ≤ x ∧ x < 256) → 0 ≤ nval xs ∧ nval xs < (256 : Int) ^ xs.length
  | [], _ => by simp [nval]
  | x :: xs, h => by
    have hx := h x (by simp)
    have hi := nval_bounds xs (fun y hy => h y (by simp [hy]))
    simp only [nval, List.length_cons, Int.pow_succ]
    omega
theorem or_low (n x : Int) (hn : 0 ≤ n) (hn2 : n < 72057594037927936) (hx : 0 ≤ x) (hx2 : x < 256) : bits BinOp.or IntKind.u64 (IntKind.u64.wrap (n * 256)) (IntKind.u64.wrap x) = x + 256 * n := by
  have e1 : IntKind.u64.wrap (n * 256) = n * 256 := by simp only [IntKind.wrap_u64]; omega
  have e2 : IntKind.u64.wrap x = x := by simp only [IntKind.wrap_u64]; omega
  rw [e1, e2, u64_or _ _ (by omega) (by omega) hx (by omega)]
  obtain ⟨a, rfl⟩ := Int.eq_ofNat_of_zero_le hn
  obtain ⟨b, rfl⟩ := Int.eq_ofNat_of_zero_le hx
  have h1 : ((a : Int) * 256).toNat = a <<< 8 := by rw [Nat.shiftLeft_eq]; omega
  rw [h1, Int.toNat_natCast, ← Nat.shiftLeft_add_eq_or_of_lt (by omega), Nat.shiftLeft_eq]
  omega
theorem numOf_eq : ∀ xs : List Int, (∀ x ∈ xs, 0 ≤ x ∧ x < 256) → xs.length ≤ 8 → numOf xs = nval xs
  | [], _, _ => rfl
  | x :: xs, h, hl => by
    have hx := h x (by simp)
    have hh : ∀ y ∈ xs, 0 ≤ y ∧ y < 256 := fun y hy => h y (by simp [hy])
    have hb := nval_bounds xs hh
    have hp : (256 : Int) ^ xs.length ≤ 256 ^ 7 := by
      have h7 : xs.length ≤ 7 := by simp at hl; omega
      have e : ∀ k : Nat, (256 : Int) ^ k = ((256 ^ k : Nat) : Int) := fun k => by rw [Int.natCast_pow]; rfl
      rw [e, e]
      exact Int.ofNat_le.2 (Nat.pow_le_pow_right (by decide) h7)
    have hp7 : (256 : Int) ^ 7 = 72057594037927936 := by decide
    have ih := numOf_eq xs hh (by simp at hl; omega)
    show bits BinOp.or IntKind.u64 (IntKind.u64.wrap (numOf xs * 256)) (IntKind.u64.wrap x) = _
    rw [ih, or_low _ _ hb.1 (by omega) hx.1 hx.2]
    rfl
theorem lows_bounds : ∀ (k : Nat) (n : Int), ∀ x ∈ lows k n, 0 ≤ x ∧ x < 256
  | 0, _, _, h => by simp [lows] at h
  | k + 1, n, x, h => by
    simp only [lows, List.mem_cons] at h
    rcases h with rfl | h
    · omega
    · exact lows_bounds k _ x h
theorem nval_lows : ∀ (k : Nat) (n : Int), 0 ≤ n → n < (256 : Int) ^ k → nval (lows k n) = n
  | 0, n, h0, h1 => by simp [lows, nval] at *; omega
  | k + 1, n, h0, h1 => by
    rw [Int.pow_succ] at h1
    have hq : n / 256 < (256 : Int) ^ k := by
      generalize (256 : Int) ^ k = q at *
      omega
    rw [lows, nval, nval_lows k _ (by omega) hq]
    omega
theorem numOf_lows (k : Nat) (n : Int) (hk : k ≤ 8) (h0 : 0 ≤ n) (h1 : n < (256 : Int) ^ k) : numOf (lows k n) = n := by
  rw [numOf_eq _ (lows_bounds k n) (by rw [lows_length]; exact hk), nval_lows k n h0 h1]
end Go.Proofs.YtilapcegpjjlfaaGreatDoor
