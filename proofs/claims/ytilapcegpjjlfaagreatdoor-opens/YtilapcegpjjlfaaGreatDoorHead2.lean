import Derived.Test.YtilapcegpjjlfaaGreatDoorHead
namespace Go.Proofs.YtilapcegpjjlfaaGreatDoor
set_option linter.unusedSimpArgs false
set_option linter.unusedVariables false
open Go.RowKit

def hagg (N rb rs : Int) : Value := .agg #[.int .u64 N, .int .i64 rb, .int .u64 rs]

set_option maxHeartbeats 400000 in
theorem place_ok (N rb rs : Int) (w : World) (hN : 0 ≤ N) :
    Calls Tryz.prog 141 #[.agg #[.int .u64 N, .int .i64 rb, .int .u64 rs]] w fun e w' => e = .returned (.int .i64 (N % 2)) ∧ Below w.heap.size w w' := by
  go_enter Tryz.func141, Tryz.ntmps141
  go_wp2
  go_ret
  exact ⟨rfl, (Below.refl _ _).alloc (Nat.le_refl _) _⟩
set_option maxHeartbeats 400000 in
theorem newer_ok (N N' a b c d : Int) (w : World) (hN : 0 ≤ N) (hN' : 0 ≤ N') (hle : N ≤ N') (h1 : N' ≤ 1000000000) :
    Calls Tryz.prog 138 #[.agg #[.int .u64 N, .int .i64 a, .int .u64 b], .agg #[.int .u64 N', .int .i64 c, .int .u64 d]] w fun e w' => e = .returned (.bool false) ∧ Below w.heap.size w w' := by
  have hd : decide (0 < wrap64 (IntKind.u64.wrap (N - N'))) = false := by
    simp only [wrap64, IntKind.wrap_u64, decide_eq_false_iff_not]; omega
  go_enter Tryz.func138, Tryz.ntmps138
  go_wp2
  go_ret
  exact ⟨rfl, ((Below.refl _ _).alloc (Nat.le_refl _) _).alloc (by simp) _⟩
set_option maxHeartbeats 400000 in
theorem next_ok (N rb rs : Int) (w : World) (hN : 0 ≤ N) (h1 : N ≤ 1000000000) :
    Calls Tryz.prog 88 #[.agg #[.int .u64 N, .int .i64 rb, .int .u64 rs]] w fun e w' => e = .returned (.agg #[.int .u64 (N + 1), .int .i64 0, .int .u64 0]) ∧ Below w.heap.size w w' := by
  go_enter Tryz.func88, Tryz.ntmps88
  go_wp2
  refine bodyPost_ret (results_cell_row Tryz.results88 _ _ (w.heap.size + 1) 126 #[.int .u64 (N + 1), .int .i64 0, .int .u64 0] (0, 0) _ rfl ?_ Tryz.underlying126 rfl (by kernel_rfl)) rfl ⟨rfl, ((Below.refl _ _).alloc (Nat.le_refl _) _).alloc (by simp) _⟩
  simpa using heap_new (w.alloc (Obj.cells #[Value.int IntKind.u64 N, Value.int IntKind.i64 rb, Value.int IntKind.u64 rs] 126)) (Obj.cells #[Value.int IntKind.u64 (N + 1), Value.int IntKind.i64 0, Value.int IntKind.u64 0] 126)
/-- string(b) of a piece of a block. -/
theorem run_strA {w : World} {g o n cap : Nat} {ca : Array Value} {tg : TypeId} {fa : Nat × Nat} {l : List UInt8} (h : w.heap[g]? = some (.cells ca tg fa)) (hp : piece ca o n = enc l) (hin : o + n ≤ ca.size) :
    Sem.run Tryz.prog (convert 158 9 (.slice (some ⟨g, o, none⟩) n cap)) w = .ok (.string ⟨l.toArray⟩) w := by
  rw [run_convert_bytes_string w _ _ _ _ _ _ Tryz.underlying158 Tryz.underlying5 Tryz.underlying9]
  have hload := run_loadA (P := Tryz.prog) (o := o) (n := n) h hin
  have e : enc l = ((l.map (fun b => (b.toNat : Int))).map (Value.int .u8)).toArray := by simp [enc, encL]
  rw [hp, e] at hload
  rw [run_bytesToString w _ _ _ _ hload, foldl_push]
  simp

set_option maxHeartbeats 400000 in
theorem equal_ok (g o n cap h o' cap' : Nat) (a b : List UInt8) (w : World) (tg th : TypeId) (ca cb : Array Value) (fa fb : Nat × Nat) (ha : w.heap[g]? = some (.cells ca tg fa)) (hb : w.heap[h]? = some (.cells cb th fb))
    (hpa : piece ca o n = enc a) (hpb : piece cb o' n = enc b) (hal : o + n ≤ ca.size) (hbl : o' + n ≤ cb.size) :
    Calls Tryz.prog 175 #[.slice (some ⟨g, o, none⟩) n cap, .slice (some ⟨h, o', none⟩) n cap'] w fun e w' => e = .returned (.bool (a == b)) ∧ w' = w := by
  have h1 := run_strA (cap := cap) ha hpa hal
  have h2 := run_strA (cap := cap') hb hpb hbl
  clear ha hb hpa hpb hal hbl
  go_enter Tryz.func175, Tryz.ntmps175
  go_wp2
  go_ret
  exact ⟨rfl, rfl⟩
end Go.Proofs.YtilapcegpjjlfaaGreatDoor
