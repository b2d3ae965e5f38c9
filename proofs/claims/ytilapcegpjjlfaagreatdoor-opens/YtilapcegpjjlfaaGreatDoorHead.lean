import Derived.Test.YtilapcegpjjlfaaGreatDoorApp
namespace Go.Proofs.YtilapcegpjjlfaaGreatDoor
set_option linter.unusedSimpArgs false
set_option linter.unusedVariables false
open Go.RowKit

/-- The mark. -/
def markOf : List Int := [115, 104, 97, 100, 111, 119]
def sector24 (N rb rs : Int) : List Int := markOf ++ lows 2 rb ++ lows 8 N ++ lows 8 rs
/-- A head as it lies on a device. -/
def sectorOf (N rb rs : Int) : List Int := sector24 N rb rs ++ lows 8 (fnv (sector24 N rb rs))
theorem fnv_nonneg (xs : List Int) : 0 ≤ fnv xs := by
  unfold fnv
  suffices h : ∀ s : Int, 0 ≤ s → 0 ≤ xs.foldl fnvStep s from h _ (by decide)
  induction xs with
  | nil => intro s hs; simpa using hs
  | cons x xs ih =>
    intro s hs
    rw [List.foldl_cons]
    apply ih
    simp only [fnvStep, IntKind.wrap_u64]
    exact Int.emod_nonneg _ (by decide)
theorem sector24_length (N rb rs : Int) : (sector24 N rb rs).length = 24 := by simp [sector24, markOf, lows_length]
theorem sectorOf_length (N rb rs : Int) : (sectorOf N rb rs).length = 32 := by simp [sectorOf, sector24_length, lows_length]

/-- What a row of bytes of the call's own holds, cell by cell. -/
theorem own_cells {w : World} {base : Nat} {v : Value} {k : Nat} {xs : List Int} (h : w.ownsRow base 5 1 v (k + 1) (u8s xs)) : ∃ g cap, v = .slice (some ⟨g, 0, none⟩) (k + 1) cap ∧ base ≤ g ∧ xs.length = k + 1 ∧ ∀ j, j < k + 1 → w.cell? ⟨g, 0 + j, none⟩ = some (.int .u8 (xs.getD j 0)) := by
  obtain ⟨hl, h2⟩ := h
  rcases h2 with ⟨_, h0⟩ | ⟨g, cap, cur, rfl, hg, hh, h1, _, hs, ht⟩
  · cases h0
  · have hxl : xs.length = k + 1 := by simpa [u8s] using hl
    refine ⟨g, cap, rfl, hg, hxl, fun j hj => ?_⟩
    rw [cell_of hh]
    have e : (cur.toList.take ((k + 1) * 1))[j]? = (u8s xs)[j]? := by rw [ht]
    rw [List.getElem?_take, if_pos (by omega)] at e
    rw [Nat.zero_add, ← Array.getElem?_toList, e]
    simp [u8s, List.getD_eq_getElem?_getD, List.getElem?_eq_getElem (show j < xs.length by omega)]

set_option maxHeartbeats 400000 in
set_option maxRecDepth 10000 in
theorem sector_ok (N rb rs : Int) (w : World) (hN : 0 ≤ N) (hb : 0 ≤ rb) (hb2 : rb ≤ 1000) (hr : 0 ≤ rs) :
    Calls Tryz.prog 139 #[.agg #[.int .u64 N, .int .i64 rb, .int .u64 rs]] w fun e w' => ∃ v, e = .returned v ∧ w'.ownsRow w.heap.size 5 1 v 32 (u8s (sectorOf N rb rs)) ∧ Below w.heap.size w w' := by
  go_enter Tryz.func139, Tryz.ntmps139
  go_wp2_with fail
  have hM := heap_new (w.alloc (Obj.cells #[Value.int IntKind.u64 N, Value.int IntKind.i64 rb, Value.int IntKind.u64 rs] 126)) (Obj.cells #[Value.int IntKind.u8 115, Value.int IntKind.u8 104, Value.int IntKind.u8 97, Value.int IntKind.u8 100, Value.int IntKind.u8 111, Value.int IntKind.u8 119] 5)
  rw [show (w.alloc (Obj.cells #[Value.int IntKind.u64 N, Value.int IntKind.i64 rb, Value.int IntKind.u64 rs] 126)).heap.size = w.heap.size + 1 from by simp] at hM
  rw [run_cv hM]
  obtain ⟨W1, hW1, hK1, hH1, hO1⟩ : ∃ W1, W1 = ((w.alloc (Obj.cells #[Value.int IntKind.u64 N, Value.int IntKind.i64 rb, Value.int IntKind.u64 rs] 126)).alloc (Obj.cells #[Value.int IntKind.u8 115, Value.int IntKind.u8 104, Value.int IntKind.u8 97, Value.int IntKind.u8 100, Value.int IntKind.u8 111, Value.int IntKind.u8 119] 5)).freeze ⟨w.heap.size + 1, #[Value.int IntKind.u8 115, Value.int IntKind.u8 104, Value.int IntKind.u8 97, Value.int IntKind.u8 100, Value.int IntKind.u8 111, Value.int IntKind.u8 119].size, none⟩ 1 ∧
      Below w.heap.size w W1 ∧ W1.heap[w.heap.size]? = some (Obj.cells #[Value.int IntKind.u64 N, Value.int IntKind.i64 rb, Value.int IntKind.u64 rs] 126) ∧ (∀ j, j < 6 → W1.cell? ⟨w.heap.size + 1, j, none⟩ = some (.int .u8 (markOf.getD j 0))) :=
    ⟨_, rfl, Below.freeze (((Below.refl _ _).alloc (Nat.le_refl _) _).alloc (by simp) _) (by omega) _, (freeze_other (by omega) _).trans (heap_old _ (heap_new _ _)), fun j hj => by
      rw [cell_of (freeze_heap hM _)]
      match j, hj with
      | 0, _ => rfl
      | 1, _ => rfl
      | 2, _ => rfl
      | 3, _ => rfl
      | 4, _ => rfl
      | 5, _ => rfl⟩
  rw [← hW1]
  clear hW1 hM
  have hs1 : w.heap.size + 1 ≤ W1.heap.size := by have := lt_of_heap hH1; omega
  have c1 := cell_of hH1 1
  simp at c1
  have HO : Hid (∀ j, j < 6 → W1.cell? ⟨w.heap.size + 1, j, none⟩ = some (.int .u8 (markOf.getD j 0))) := hO1
  clear hO1
  go_wp2_with fail
  refine (append_full (w.heap.size + 1) 6 markOf rb 2 W1 (by omega) rfl (by omega) (by omega) hb HO.out).mono ?_
  rintro e W2 ⟨v2, rfl, hO2, hB2⟩
  have hH2 := (hB2.block w.heap.size (by omega)).trans hH1
  have hs2 := hB2.size
  have d0 := cell_of hH2 0
  simp at d0
  have hO2' := ownsRow_le hO2 hs1
  clear c1 HO hO2
  go_wp2_with fail
  refine (append_any _ (w.heap.size + 1) (6 + 2) (markOf ++ lows 2 rb) N 8 W2 (by omega) (by omega) hN (by omega) hO2').mono ?_
  rintro e W3 ⟨v3, rfl, hO3, hB3⟩
  have hH3 := (hB3.block w.heap.size (by omega)).trans hH2
  have hs3 := hB3.size
  have d2 := cell_of hH3 2
  simp at d2
  clear d0
  go_wp2_with fail
  refine (append_any _ (w.heap.size + 1) (6 + 2 + 8) (markOf ++ lows 2 rb ++ lows 8 N) rs 8 W3 (by omega) (by omega) hr (by omega) hO3).mono ?_
  rintro e W4 ⟨v4, rfl, hO4, hB4⟩
  have hs4 := hB4.size
  clear d2
  have hS : u8s (markOf ++ lows 2 rb ++ lows 8 N ++ lows 8 rs) = u8s (sector24 N rb rs) := rfl
  rw [hS] at hO4
  obtain ⟨g, cap, rfl, hg, hlen, hcs⟩ := own_cells (k := 23) hO4
  have HC : Hid (∀ j, j < 23 + 1 → W4.cell? ⟨g, 0 + j, none⟩ = some (.int .u8 ((sector24 N rb rs).getD j 0))) := hcs
  clear hcs hS
  go_wp2_with fail
  refine (sum_any g 0 24 cap (sector24 N rb rs) W4 hlen (by omega) HC.out).mono ?_
  rintro e w5 ⟨rfl, rfl⟩
  go_wp2_with fail
  refine (append_any _ (w.heap.size + 1) 24 (sector24 N rb rs) (fnv (sector24 N rb rs)) 8 _ (by omega) (by omega) (fnv_nonneg _) (by omega) hO4).mono ?_
  rintro e W6 ⟨v6, rfl, hO6, hB6⟩
  go_wp2
  go_ret
  refine ⟨_, rfl, ownsRow_le hO6 (by omega), hK1.trans (((hB2.mono (by omega)).trans (hB3.mono (by omega))).trans ((hB4.mono (by omega)).trans (hB6.mono (by omega))))⟩
end Go.Proofs.YtilapcegpjjlfaaGreatDoor
