import Derived.Test.YtilapcegpjjlfaaGreatDoorTree
import Derived.Deep.QuietTactic
namespace Go.Proofs.YtilapcegpjjlfaaGreatDoor
set_option linter.unusedSimpArgs false
set_option linter.unusedVariables false
open Go.RowKit

/-- A step of a script. -/
structure SOp where
  k : Int
  x : Int
  y : Int
  a : Int
  b : Int
  s : ByteArray
  t : ByteArray
def SOp.cells (o : SOp) : List Value := [.int .i64 o.k, .int .i64 o.x, .int .i64 o.y, .int .i64 o.a, .int .i64 o.b, .string o.s, .string o.t]

/-- What a script holds. -/
def Script (w : World) (p : Option Addr) (n : Nat) (f : Nat → SOp) : Prop :=
  0 < n → ∃ blk off, p = some ⟨blk, off, none⟩ ∧ blk < w.heap.size ∧ ∀ i, i < n → ∀ c, c < 7 → w.cell? ⟨blk, off + i * 7 + c, none⟩ = (f i).cells[c]?

theorem Script.keep {w w' : World} {p : Option Addr} {n : Nat} {f : Nat → SOp} (h : Script w p n f) (hK : Kp [] w w') : Script w' p n f := fun hn => by
  obtain ⟨blk, off, h1, h2, h3⟩ := h hn
  exact ⟨blk, off, h1, Nat.lt_of_lt_of_le h2 hK.size, fun i hi c hc => (hK.cell (a := ⟨blk, off + i * 7 + c, none⟩) h2 (by simp)).trans (h3 i hi c hc)⟩

def SmallEnd (n : Nat) (w : World) (e : Ending) (w' : World) : Prop := ∃ r : Bool, e = .returned (.bool r) ∧ (r = true → n ≤ 16384) ∧ ∃ m, w' = w.drewN m

set_option maxHeartbeats 2000000 in
set_option maxRecDepth 10000 in
theorem small_ok (p : Option Addr) (n cap : Nat) (f : Nat → SOp) (w : World) (hS : Script w p n f) :
    Calls Tryz.prog 12 #[.slice p n cap] w fun e w' => SmallEnd n w e w' := by
  by_cases hbig : 16384 < n
  · have hb1 : (16384 : Int) < (n : Int) := by omega
    go_enter Tryz.func12, Tryz.ntmps12
    go_wp2
    go_ret
    exact ⟨false, rfl, by simp, 0, rfl⟩
  · have hb1 : ¬ (16384 : Int) < (n : Int) := by omega
    have HS : Hid (Script w p n f) := hS
    clear hS
    go_enter Tryz.func12, Tryz.ntmps12
    go_wp2
    go_loopw [3, 4] (fun s i wr => ∃ (j : Nat) (t : Int), j ≤ n ∧ i = .int .i64 j ∧ s = .int .i64 t ∧ ∃ m, wr = w.drewN m) (fun _ i _ => n - (intOf i).toNat)
    case atStart => exact ⟨0, n, Nat.zero_le _, rfl, rfl, 0, rfl⟩
    case round =>
      obtain ⟨j, t, hj, rfl, rfl, m, rfl⟩ := hrel
      by_cases hlt : j < n
      · obtain ⟨blk, off, rfl, hblk, hcell⟩ := HS.out (by omega)
        have c5 := hcell j hlt 5 (by decide)
        have c6 := hcell j hlt 6 (by decide)
        simp only [SOp.cells, List.getElem?_cons_zero, List.getElem?_cons_succ] at c5 c6
        have hjb : (j : Int) < (n : Int) := by omega
        clear hcell
        go_wp2_with fail
        go_quiet (fail)
        go_wp2
        case roundEnd => exact ⟨⟨j + 1, _, by omega, by go_num, rfl, _, rfl⟩, by simp [intOf]; omega⟩
        go_ret
        exact ⟨false, rfl, by simp, _, rfl⟩
      · have hjb : ¬ (j : Int) < (n : Int) := by omega
        go_wp2
        go_ret
        exact ⟨true, rfl, by omega, m, rfl⟩
end Go.Proofs.YtilapcegpjjlfaaGreatDoor
