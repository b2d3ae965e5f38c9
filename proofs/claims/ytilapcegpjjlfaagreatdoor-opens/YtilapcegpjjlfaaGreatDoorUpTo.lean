import Derived.Test.YtilapcegpjjlfaaGreatDoorPlays
import Derived.Test.YtilapcegpjjlfaaGreatDoorWorld
namespace Go.Proofs.YtilapcegpjjlfaaGreatDoor
set_option linter.unusedSimpArgs false
set_option linter.unusedVariables false
open Go.RowKit

def StepOk : Prop := ∀ (base Wb : Nat) (T : Int) (ds : List DG) (o : SOp) (w : World), WOk base T w Wb ds → Fit o → 0 ≤ T → T ≤ 40000 →
  Calls Tryz.prog 14 #[.pointer (some ⟨Wb, 0, none⟩), .agg #[.int .i64 o.k, .int .i64 o.x, .int .i64 o.y, .int .i64 o.a, .int .i64 o.b, .string o.s, .string o.t]] w fun e w' => e = .returned (.bool true) ∧ (∃ ds', WOk base (T + 2) w' Wb ds') ∧ Below base w w'

set_option maxHeartbeats 4000000 in
set_option maxRecDepth 10000 in
theorem upTo_of (ST : StepOk) (p : Option Addr) (n cap : Nat) (f : Nat → SOp) (w : World) (hn : n ≤ 16384) (h0 : 0 < w.heap.size) (hg : w.cell? ⟨0, 0, none⟩ = some errType) (hS : Script w p n f) (hf : ∀ i, i < n → Fit (f i)) :
    Calls Tryz.prog 13 #[.slice p n cap] w fun e w' => e = .returned (.int .i64 (-1)) ∧ Kp [] w w' := by
  have HS : Hid (Script w p n f) := hS
  have HF : Hid (∀ i, i < n → Fit (f i)) := hf
  have hK0 : Kp [] w (w.alloc (wobj none 0 0 none 0 0)) := (Kp.refl _ _).alloc _
  have HW : Hid (WOk w.heap.size 0 (w.alloc (wobj none 0 0 none 0 0)) w.heap.size []) := by
    exact ⟨h0, by simp, (hK0.cell (a := ⟨0, 0, none⟩) h0 (by simp)).trans hg, Nat.le_refl _, ⟨none, 0, 0, [], none, 0, heap_new _ _, World.ownsRow_nil _ _ _ _, by simp, World.ownsRow_nil _ _ _ _⟩, by simp, by simp, List.Pairwise.nil⟩
  have HB : Hid (Below w.heap.size w (w.alloc (wobj none 0 0 none 0 0))) := hK0.below (Nat.le_refl _) (by simp)
  clear hS hf h0 hg hK0
  go_enter Tryz.func13, Tryz.ntmps13
  go_wp2
  go_loopw [4] (fun i wr => ∃ (j : Nat) (ds : List DG), j ≤ n ∧ i = .int .i64 j ∧ WOk w.heap.size (2 * j) wr w.heap.size ds ∧ Below w.heap.size w wr) (fun i _ => n - (intOf i).toNat)
  case atStart => exact ⟨0, [], Nat.zero_le _, rfl, HW.out, HB.out⟩
  case round =>
    obtain ⟨j, ds, hj, rfl, hW, hB⟩ := hrel
    have HW1 : Hid (WOk w.heap.size (2 * j) wr w.heap.size ds) := hW
    have HB1 : Hid (Below w.heap.size w wr) := hB
    clear hW hB
    by_cases hlt : j < n
    · obtain ⟨blk, off, rfl, hblk, hcell⟩ := (HS.out.keep (Kp.of_below HB1.out (Nat.le_refl _))) (by omega)
      have c0 := hcell j hlt 0 (by decide)
      have c1 := hcell j hlt 1 (by decide)
      have c2 := hcell j hlt 2 (by decide)
      have c3 := hcell j hlt 3 (by decide)
      have c4 := hcell j hlt 4 (by decide)
      have c5 := hcell j hlt 5 (by decide)
      have c6 := hcell j hlt 6 (by decide)
      simp only [SOp.cells, List.getElem?_cons_zero, List.getElem?_cons_succ, Nat.add_zero] at c0 c1 c2 c3 c4 c5 c6
      have hjb : (j : Int) < (n : Int) := by omega
      clear hcell
      go_wp2_with fail
      refine (ST w.heap.size w.heap.size (2 * j) ds (f j) wr HW1.out (HF.out j hlt) (by omega) (by omega)).mono ?_
      rintro e w2 ⟨rfl, ⟨ds', hW2⟩, hB2⟩
      have HW2 : Hid (WOk w.heap.size (2 * j + 2) w2 w.heap.size ds') := hW2
      have HB2 : Hid (Below w.heap.size wr w2) := hB2
      clear hW2 hB2
      go_wp2
      exact ⟨⟨j + 1, ds', by omega, by go_num, by have h := HW2.out; rw [show ((2 * j + 2 : Int)) = 2 * ((j + 1 : Nat) : Int) by omega] at h; exact h, HB1.out.trans HB2.out⟩, by simp [intOf]; omega⟩
    · have hjb : ¬ (j : Int) < (n : Int) := by omega
      go_wp2
      go_ret
      exact ⟨rfl, Kp.of_below HB1.out (Nat.le_refl _)⟩

set_option maxHeartbeats 1000000 in
theorem opens_of (ST : StepOk) (p : Option Addr) (n cap : Nat) (f : Nat → SOp) (w : World) (hS : Script w p n f) (hf : ∀ i, i < n → (f i).fits) (h0 : 0 < w.heap.size) (hg : w.cell? ⟨0, 0, none⟩ = some errType) :
    Calls Tryz.prog 3 #[.slice p n cap] w fun e w' => e = .returned (.bool true) ∧ Kp [] w w' := by
  have hK0 : Kp [] w (w.alloc (.cells #[.int .i64 5, .int .i64 10, .int .i64 11] 3)) := (Kp.refl _ _).alloc _
  go_enter Tryz.func3, Tryz.ntmps3
  go_wp2_with fail
  refine (plays_of (fun p n cap f w => upTo_of ST p n cap f w) p n cap f _ (hS.keep hK0) hf (by simp) ((hK0.cell (a := ⟨0, 0, none⟩) h0 (by simp)).trans hg) w.heap.size (heap_new _ _)).mono ?_
  rintro e w1 ⟨rfl, hK1⟩
  go_wp2
  go_ret
  exact ⟨rfl, hK0.trans hK1 (by simp)⟩
end Go.Proofs.YtilapcegpjjlfaaGreatDoor
