import Derived.Test.YtilapcegpjjlfaaGreatDoorStepA
import Derived.Test.YtilapcegpjjlfaaGreatDoorCopy
namespace Go.Proofs.YtilapcegpjjlfaaGreatDoor
set_option linter.unusedSimpArgs false
set_option linter.unusedVariables false
open Go.RowKit

set_option maxHeartbeats 1000000 in
set_option maxRecDepth 10000 in
theorem owner_copy (base Wb : Nat) (T : Int) (ds : List DG) (x y a b : Int) (s t : ByteArray) (w : World) (h : WOk base T w Wb ds) (hT : T ≤ 50000) (hx0 : -9223372036854775808 ≤ x) (hx1 : x ≤ 9223372036854775807) (ha0 : -9223372036854775808 ≤ a) (ha1 : a ≤ 9223372036854775807) (hb0 : -9223372036854775808 ≤ b) (hb1 : b ≤ 9223372036854775807) :
    Calls Tryz.prog 15 #[.pointer (some ⟨Wb, 0, none⟩), .agg #[.int .i64 5, .int .i64 x, .int .i64 y, .int .i64 a, .int .i64 b, .string s, .string t]] w fun e w' => e = .returned (.bool true) ∧ (∃ ds', WOk base (T + 2) w' Wb ds') ∧ Below base w w' := by
  have hK0 : Kp [] w (w.alloc (Obj.cells #[.int .i64 5, .int .i64 x, .int .i64 y, .int .i64 a, .int .i64 b, .string s, .string t] 28)) := (Kp.refl _ _).alloc _
  have h0 := h.same hK0 (Int.le_refl _)
  have HB : Hid (Below base w (w.alloc (Obj.cells #[.int .i64 5, .int .i64 x, .int .i64 y, .int .i64 a, .int .i64 b, .string s, .string t] 28))) := hK0.below h.hbs (by simp)
  have HC : Calls Tryz.prog 25 #[.pointer (some ⟨Wb, 0, none⟩), .agg #[.int .i64 5, .int .i64 x, .int .i64 y, .int .i64 a, .int .i64 b, .string s, .string t]] (w.alloc (Obj.cells #[.int .i64 5, .int .i64 x, .int .i64 y, .int .i64 a, .int .i64 b, .string s, .string t] 28)) fun e w' => e = .returned (.bool true) ∧ (∃ ds', WOk base (T + 2) w' Wb ds') ∧ Below base (w.alloc (Obj.cells #[.int .i64 5, .int .i64 x, .int .i64 y, .int .i64 a, .int .i64 b, .string s, .string t] 28)) w' := by
    cases ds with
    | nil => exact outer_none base Wb T x y a b s t _ h0
    | cons g ds => exact outer_copy base Wb T (g :: ds) x y a b s t _ h0 hT hx0 hx1 ha0 ha1 hb0 hb1 (by simp)
  clear h h0 hK0
  go_enter Tryz.func15, Tryz.ntmps15
  go_wp2_with fail
  refine HC.mono ?_
  rintro e w1 ⟨rfl, ⟨ds', h1⟩, h2⟩
  have H1 : Hid (WOk base (T + 2) w1 Wb ds') := h1
  have H2 : Hid (Below base (w.alloc (Obj.cells #[.int .i64 5, .int .i64 x, .int .i64 y, .int .i64 a, .int .i64 b, .string s, .string t] 28)) w1) := h2
  clear h1 h2 HC
  go_wp2
  go_ret
  exact ⟨rfl, ⟨ds', H1.out⟩, HB.out.trans H2.out⟩

theorem step_ok : StepOk := by
  intro base Wb T ds o w h hf hT0 hT
  obtain ⟨k, x, y, a, b, s, t⟩ := o
  obtain ⟨hk, x0, x1, a0, a1, b0, b1⟩ := hf
  simp only at *
  rcases hk with hk | rfl | rfl | rfl
  · by_cases h1 : k < 1
    · exact step_idle base Wb T ds k x y a b s t w h (fun w1 => owner_low Wb k x y a b s t w1 h1) (Or.inr h1)
    · have h3 : k = 1 ∨ k = 2 ∨ k = 3 := by omega
      rcases h3 with rfl | rfl | rfl
      · exact step_true base Wb T ds 1 x y a b s t w h (fun w1 h1 => owner_keep base Wb T ds x y a b s t w1 h1 (by omega))
      · exact step_true base Wb T ds 2 x y a b s t w h (fun w1 h1 => owner_none base Wb T ds x y a b s t w1 h1)
      · exact step_true base Wb T ds 3 x y a b s t w h (fun w1 h1 => owner_disk base Wb T ds x y a b s t w1 h1 (by omega))
  · exact step_true base Wb T ds 5 x y a b s t w h (fun w1 h1 => owner_copy base Wb T ds x y a b s t w1 h1 (by omega) x0 x1 a0 a1 b0 b1)
  · exact step_format base Wb T ds x y a b s t w h hT0 hT x0 x1
  · exact step_open base Wb T ds x y a b s t w h hT0 hT x0 x1

theorem opens_ok (p : Option Addr) (n cap : Nat) (f : Nat → SOp) (w : World) (hS : Script w p n f) (hf : ∀ i, i < n → (f i).fits) (h0 : 0 < w.heap.size) (hg : w.cell? ⟨0, 0, none⟩ = some errType) :
    Calls Tryz.prog 3 #[.slice p n cap] w fun e w' => e = .returned (.bool true) ∧ Kp [] w w' := opens_of step_ok p n cap f w hS hf h0 hg
end Go.Proofs.YtilapcegpjjlfaaGreatDoor
