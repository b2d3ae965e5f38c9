import Derived.Test.YtilapcegpjjlfaaGreatDoorRows
import Derived.WalkKit
import Derived.WalkSpells
namespace Go.Proofs.YtilapcegpjjlfaaGreatDoor
set_option linter.unusedSimpArgs false
set_option linter.unusedVariables false
open Go.RowKit

/-- One step of the sum. -/
def fnvStep (s x : Int) : Int := IntKind.u64.wrap (bits BinOp.xor IntKind.u64 s (IntKind.u64.wrap x) * 1099511628211)
/-- The sum of bytes. -/
def fnv (xs : List Int) : Int := xs.foldl fnvStep 14695981039346656037
theorem fnv_snoc (xs : List Int) (k : Nat) (h : k < xs.length) : fnv (xs.take (k + 1)) = fnvStep (fnv (xs.take k)) xs[k] := by
  unfold fnv; rw [List.take_succ_eq_append_getElem h, List.foldl_append]; rfl

theorem ret_int {k : IntKind} {a b : Int} (h : a = b) : Ending.returned (.int k a) = .returned (.int k b) := by rw [h]

set_option maxHeartbeats 400000 in
theorem sum_any (b off len cap : Nat) (xs : List Int) (w : World) (hx : xs.length = len) (hbig : len ≤ 1000000)
    (hc : ∀ j, j < len → w.cell? ⟨b, off + j, none⟩ = some (.int .u8 (xs.getD j 0))) :
    Calls Tryz.prog 177 #[.slice (some ⟨b, off, none⟩) len cap] w fun e w' => e = .returned (.int .u64 (fnv xs)) ∧ w' = w := by
  go_enter Tryz.func177, Tryz.ntmps177
  go_wp2
  go_loop [3, 8] (fun s i => ∃ (k : Nat), k ≤ len ∧ i = .int .i64 k ∧ s = .int .u64 (fnv (xs.take k))) (fun _ i => len - (intOf i).toNat)
  case atStart => exact ⟨0, Nat.zero_le _, rfl, rfl⟩
  case round =>
    obtain ⟨k, hk, rfl, rfl⟩ := hrel
    by_cases hlt : k < len
    · have hck := hc k hlt
      have hs := fnv_snoc xs k (by omega)
      have HS : Hid (fnv (xs.take (k + 1)) = fnvStep (fnv (xs.take k)) xs[k]) := hs
      clear hs
      go_wp2
      refine ⟨⟨k + 1, by omega, by go_num, by rw [HS.out]; rfl⟩, by simp [intOf]; omega⟩
    · go_wp2
      go_ret
      exact ⟨ret_int (by rw [List.take_of_length_le (by omega)]), rfl⟩

/-- A number of bytes, the lowest first: what the loop of Number makes. -/
def numOf (xs : List Int) : Int := xs.foldr (fun x n => bits BinOp.or IntKind.u64 (IntKind.u64.wrap (n * 256)) (IntKind.u64.wrap x)) 0
set_option maxHeartbeats 400000 in
theorem number_any (b off len cap : Nat) (xs : List Int) (w : World) (hx : xs.length = len) (hbig : len ≤ 1000000)
    (hc : ∀ j, j < len → w.cell? ⟨b, off + j, none⟩ = some (.int .u8 (xs.getD j 0))) :
    Calls Tryz.prog 174 #[.slice (some ⟨b, off, none⟩) len cap] w fun e w' => e = .returned (.int .u64 (numOf xs)) ∧ w' = w := by
  go_enter Tryz.func174, Tryz.ntmps174
  go_wp2
  go_loop [3, 4] (fun n i => ∃ (k : Nat), k ≤ len ∧ i = .int .i64 ((k : Int) - 1) ∧ n = .int .u64 (numOf (xs.drop k))) (fun _ i => (intOf i + 1).toNat)
  case atStart => exact ⟨len, Nat.le_refl _, by go_num, by rw [List.drop_of_length_le (by omega)]; rfl⟩
  case round =>
    obtain ⟨k, hk, rfl, rfl⟩ := hrel
    by_cases hlt : 0 < k
    · obtain ⟨j, rfl⟩ : ∃ j, k = j + 1 := ⟨k - 1, by omega⟩
      have hck := hc j (by omega)
      have HS : Hid (numOf (xs.drop j) = bits BinOp.or IntKind.u64 (IntKind.u64.wrap (numOf (xs.drop (j + 1)) * 256)) (IntKind.u64.wrap (xs[j]?.getD 0))) := by
        have hj : j < xs.length := by omega
        show _ = _
        rw [List.drop_eq_getElem_cons hj, List.getElem?_eq_getElem hj]; rfl
      go_wp2
      refine ⟨⟨j, by omega, rfl, by rw [HS.out]⟩, by simp [intOf]⟩
    · have hz : k = 0 := by omega
      subst hz
      have ht : decide ((0 : Int) ≤ ((0 : Nat) : Int) - 1) = false := by decide
      go_wp2
      go_ret
      exact ⟨ret_int (by simp), rfl⟩

/-- The low bytes of a number, the lowest first. -/
def lows : Nat → Int → List Int
  | 0, _ => []
  | k + 1, n => n % 256 :: lows k (n / 256)
theorem lows_length (k : Nat) (n : Int) : (lows k n).length = k := by induction k generalizing n <;> simp_all [lows]
def u8s (xs : List Int) : List Value := xs.map (.int .u8)

theorem lows_snoc (k : Nat) (n : Int) : lows (k + 1) n = lows k n ++ [n / (256 : Int) ^ k % 256] := by
  induction k generalizing n with
  | zero => simp [lows]
  | succ k ih =>
    rw [lows, ih (n / 256), lows]
    simp only [List.cons_append]
    rw [Int.ediv_ediv_of_nonneg (by decide), Int.pow_succ, Int.mul_comm]
theorem own_ge {w : World} {base : Nat} {e : TypeId} {sz : Nat} {v : Value} {n : Nat} {xs : List Value} (h : w.ownsRow base e sz v n xs) : ∀ k, v.ownBlock = some k → base ≤ k := by
  obtain ⟨_, h2⟩ := h
  rcases h2 with ⟨rfl, _⟩ | ⟨g, cap, cur, rfl, hg, _⟩
  · intro k hk; cases hk
  · intro k hk; cases hk; exact hg
theorem Tryz.info5 : (Tryz.prog.info? 5).map (fun i => (i.zero, i.size, i.bytes)) = some (some (.int .u8 0), 1, 1) := by kernel_rfl

set_option maxHeartbeats 400000 in
set_option maxRecDepth 100000 in
theorem append_any (v : Value) (base k : Nat) (xs : List Int) (n : Int) (m : Nat) (w : World) (hx : k ≤ 1000) (hm : m ≤ 100) (hn : 0 ≤ n)
    (hb : base ≤ w.heap.size) (hown : w.ownsRow base 5 1 v k (u8s xs)) :
    Calls Tryz.prog 176 #[v, .int .u64 n, .int .i64 m] w fun e w' => ∃ v', e = .returned v' ∧ w'.ownsRow base 5 1 v' (k + m) (u8s (xs ++ lows m n)) ∧ Below base w w' := by
  obtain ⟨i0, hi, hz0, hz1, hz2⟩ := info_parts Tryz.info5
  go_enter Tryz.func176, Tryz.ntmps176
  go_wp2
  go_loopw [0, 1, 8] (fun s q i wr => ∃ (j : Nat) (v' : Value) (nj : Int), j ≤ m ∧ i = .int .i64 j ∧ q = .int .u64 nj ∧ nj = n / (256 : Int) ^ j ∧ 0 ≤ nj ∧ nj ≤ n ∧ s = v' ∧ wr.ownsRow base 5 1 v' (k + j) (u8s (xs ++ lows j n)) ∧ Below base w wr) (fun _ _ i _ => m - (intOf i).toNat)
  case atStart => exact ⟨0, v, n, Nat.zero_le _, rfl, rfl, by simp, hn, Int.le_refl _, rfl, by simpa [lows] using hown, Below.refl _ _⟩
  case round =>
    obtain ⟨j, v', nj, hj, rfl, rfl, hnj, hnj0, hnj1, rfl, hownr, hbl⟩ := hrel
    have HN : Hid (nj = n / (256 : Int) ^ j) := hnj
    clear hnj
    by_cases hlt : j < m
    · go_wp2_with (at_builtin; refine wpList_append_own _ rfl _ _ 158 rfl base 5 i0 (.int .u8 0) 1 1 Tryz.underlying158 hi hz0 hz1 hz2 rfl (by decide) _ _ _ rfl (hownr.alloc _) ⟨wr.heap.size, 0, none⟩ 1 1 [.int .u8 (nj % 256)] rfl rfl (cell_one_new _ _ _) (by simp [Value.oneCell']) (by unfold maxLen; omega) (by omega) (by have := hbl.size; simp; omega) ?_; intro v1 w1 hown1 hgrow1 _)
      refine ⟨⟨j + 1, v1, nj / 256, by omega, by go_num, rfl, ?_, by omega, by omega, rfl, ?_, ?_⟩, by simp [intOf]; omega⟩
      · rw [HN.out, Int.ediv_ediv_of_nonneg (by exact Int.pow_nonneg (by decide)), Int.pow_succ]
      · have e1 : u8s (xs ++ lows (j + 1) n) = u8s (xs ++ lows j n) ++ [.int .u8 (nj % 256)] := by rw [lows_snoc, ← HN.out]; simp [u8s]
        rw [e1]; exact hown1
      · exact (hbl.alloc (by have := hbl.size; omega) _).grown hgrow1 (by have := hbl.size; simp; omega) (own_ge hownr)
    · go_wp2
      go_ret
      have e : j = m := by omega
      subst e
      exact ⟨_, rfl, hownr, hbl⟩
end Go.Proofs.YtilapcegpjjlfaaGreatDoor
