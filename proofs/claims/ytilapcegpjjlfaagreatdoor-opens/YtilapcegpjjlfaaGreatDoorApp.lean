import Derived.Test.YtilapcegpjjlfaaGreatDoorVol2
namespace Go.Proofs.YtilapcegpjjlfaaGreatDoor
set_option linter.unusedSimpArgs false
set_option linter.unusedVariables false
open Go.RowKit

theorem freeze_heap {w : World} {g : Nat} {c : Array Value} {e : TypeId} (h : w.heap[g]? = some (.cells c e)) (o : Nat) : (w.freeze ⟨g, o, none⟩ 1).heap[g]? = some (.cells c e (o, o + 1)) := by
  simp [World.freeze, Array.getElem?_modify, h]
theorem freeze_other {w : World} {g k : Nat} (hk : k ≠ g) (o : Nat) : (w.freeze ⟨g, o, none⟩ 1).heap[k]? = w.heap[k]? := by
  have : g ≠ k := fun e => hk e.symm
  simp [World.freeze, Array.getElem?_modify, this]
theorem Below.freeze {B : Nat} {a w : World} (h : Below B a w) {g : Nat} (hp : B ≤ g) (o : Nat) : Below B a (w.freeze ⟨g, o, none⟩ 1) :=
  ⟨h.os, h.tape, h.output, by have := h.size; simp [World.freeze]; omega, fun k hk => (freeze_other (by omega) o).trans (h.block k hk)⟩
theorem run_cv {w : World} {g l cc : Nat} {c : Array Value} {e : TypeId} (h : w.heap[g]? = some (.cells c e)) :
    Sem.run Tryz.prog (convert 158 158 (.slice (some ⟨g, 0, none⟩) l cc)) w = .ok (.slice (some ⟨g, 0, none⟩) l cc) (w.freeze ⟨g, c.size, none⟩ 1) := by
  have hsh : w.shape? g = some (e, c.size) := by simp [World.shape?, h]
  simp [convert, run_underlying Tryz.underlying158, run_underlying Tryz.underlying5, markStringish, hsh]

set_option maxHeartbeats 400000 in
set_option maxRecDepth 100000 in
theorem append_full (g k : Nat) (xs : List Int) (n : Int) (m : Nat) (w : World) (hx : k ≤ 1000) (hxl : xs.length = k) (hm : m ≤ 100) (hm1 : 1 ≤ m) (hn : 0 ≤ n)
    (hc : ∀ j, j < k → w.cell? ⟨g, j, none⟩ = some (.int .u8 (xs.getD j 0))) :
    Calls Tryz.prog 176 #[.slice (some ⟨g, 0, none⟩) k k, .int .u64 n, .int .i64 m] w fun e w' => ∃ v', e = .returned v' ∧ w'.ownsRow w.heap.size 5 1 v' (k + m) (u8s (xs ++ lows m n)) ∧ Below w.heap.size w w' := by
  obtain ⟨i0, hi, hz0, hz1, hz2⟩ := info_parts Tryz.info5
  have hgs : ∀ j, j < k → g < w.heap.size := fun j hj => World.block_lt_of_cell? w _ (hc j hj)
  go_enter Tryz.func176, Tryz.ntmps176
  go_wp2
  go_loopw [0, 1, 8] (fun s q i wr => ∃ (j : Nat) (v' : Value) (nj : Int), j ≤ m ∧ i = .int .i64 j ∧ q = .int .u64 nj ∧ nj = n / (256 : Int) ^ j ∧ 0 ≤ nj ∧ nj ≤ n ∧ s = v' ∧ ((j = 0 ∧ v' = .slice (some ⟨g, 0, none⟩) k k ∧ w = wr) ∨ (1 ≤ j ∧ wr.ownsRow w.heap.size 5 1 v' (k + j) (u8s (xs ++ lows j n)))) ∧ Below w.heap.size w wr) (fun _ _ i _ => m - (intOf i).toNat)
  case atStart => exact ⟨0, _, n, Nat.zero_le _, rfl, rfl, by simp, hn, Int.le_refl _, rfl, .inl ⟨rfl, rfl, rfl⟩, Below.refl _ _⟩
  case round =>
    obtain ⟨j, v', nj, hj, rfl, rfl, hnj, hnj0, hnj1, rfl, hcase, hbl⟩ := hrel
    have HN : Hid (nj = n / (256 : Int) ^ j) := hnj
    clear hnj
    rcases hcase with ⟨rfl, rfl, rfl⟩ | ⟨hj1, hownr⟩
    · have hlt : 0 < m := by omega
      have HC : Hid (∀ b, (some (⟨g, 0, none⟩ : Addr)) = some b → ∀ j u, (u8s xs)[j]? = some u → (w.alloc (Obj.cells #[Value.int IntKind.u8 (nj % 256)] 5)).cell? (b.add j) = some u) := by
        intro b hb j u hu
        cases hb
        rw [add_none, Nat.zero_add]
        have hjl : j < k := by have := (List.getElem?_eq_some_iff.1 hu).1; simp [u8s] at this; omega
        rw [World.cell?_alloc_past _ _ _ (hgs j hjl), hc j hjl]
        simp [u8s, List.getElem?_eq_getElem (show j < xs.length by omega)] at hu
        simp [List.getD_eq_getElem?_getD, List.getElem?_eq_getElem (show j < xs.length by omega), hu]
      go_wp2_with (at_builtin; go_must (refine wpList_append_grows _ rfl _ _ 158 rfl 5 i0 (.int .u8 0) 1 1 Tryz.underlying158 hi hz0 hz1 hz2 rfl (by decide) (some ⟨g, 0, none⟩) k k (u8s xs) rfl (by simp) (by simp [u8s, hxl]) HC.out ⟨w.heap.size, 0, none⟩ 1 1 [.int .u8 (nj % 256)] rfl rfl (cell_one_new _ _ _) (by simp [Value.oneCell']) (by omega) (by unfold maxLen; omega) (by omega) ?_); intro v1 w1 hown1 hgrow1)
      refine ⟨⟨1, v1, nj / 256, by omega, rfl, rfl, ?_, by omega, by omega, rfl, .inr ⟨Nat.le_refl _, ?_⟩, ?_⟩, by simp [intOf]; omega⟩
      · rw [HN.out]; simp
      · have e1 : u8s (xs ++ lows 1 n) = u8s xs ++ [.int .u8 (nj % 256)] := by rw [HN.out]; simp [u8s, lows]
        rw [e1]; exact ownsRow_le hown1 (by simp)
      · exact (hbl.alloc (Nat.le_refl _) _).grown hgrow1 (by simp) (by simp)
    · by_cases hlt : j < m
      · go_wp2_with (at_builtin; refine wpList_append_own _ rfl _ _ 158 rfl w.heap.size 5 i0 (.int .u8 0) 1 1 Tryz.underlying158 hi hz0 hz1 hz2 rfl (by decide) _ _ _ rfl (hownr.alloc _) ⟨wr.heap.size, 0, none⟩ 1 1 [.int .u8 (nj % 256)] rfl rfl (cell_one_new _ _ _) (by simp [Value.oneCell']) (by unfold maxLen; omega) (by omega) (by have := hbl.size; simp; omega) ?_; intro v1 w1 hown1 hgrow1 _)
        refine ⟨⟨j + 1, v1, nj / 256, by omega, by go_num, rfl, ?_, by omega, by omega, rfl, .inr ⟨by omega, ?_⟩, ?_⟩, by simp [intOf]; omega⟩
        · rw [HN.out, Int.ediv_ediv_of_nonneg (by exact Int.pow_nonneg (by decide)), Int.pow_succ]
        · have e1 : u8s (xs ++ lows (j + 1) n) = u8s (xs ++ lows j n) ++ [.int .u8 (nj % 256)] := by rw [lows_snoc, ← HN.out]; simp [u8s]
          rw [e1]; exact hown1
        · exact (hbl.alloc (by have := hbl.size; omega) _).grown hgrow1 (by have := hbl.size; simp; omega) (own_ge hownr)
      · go_wp2
        go_ret
        have e : j = m := by omega
        subst e
        exact ⟨_, rfl, hownr, hbl⟩
end Go.Proofs.YtilapcegpjjlfaaGreatDoor
