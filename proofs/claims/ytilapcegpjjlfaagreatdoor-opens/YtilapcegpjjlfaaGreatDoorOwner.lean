import Derived.Test.YtilapcegpjjlfaaGreatDoorWorld
namespace Go.Proofs.YtilapcegpjjlfaaGreatDoor
set_option linter.unusedSimpArgs false
set_option linter.unusedVariables false
open Go.RowKit

set_option maxHeartbeats 1000000 in
set_option maxRecDepth 10000 in
theorem outer_low (Wb : Nat) (k x y a b : Int) (s t : ByteArray) (w : World) (hk : k < 5) :
    Calls Tryz.prog 25 #[.pointer (some ⟨Wb, 0, none⟩), .agg #[.int .i64 k, .int .i64 x, .int .i64 y, .int .i64 a, .int .i64 b, .string s, .string t]] w fun e w' => e = .returned (.bool false) ∧ Kp [] w w' := by
  go_enter Tryz.func25, Tryz.ntmps25
  go_wp2
  go_ret
  exact ⟨rfl, (Kp.refl _ _).alloc _⟩
set_option maxHeartbeats 1000000 in
set_option maxRecDepth 10000 in
theorem outer_high (Wb : Nat) (k x y a b : Int) (s t : ByteArray) (w : World) (hk : 9 < k) :
    Calls Tryz.prog 25 #[.pointer (some ⟨Wb, 0, none⟩), .agg #[.int .i64 k, .int .i64 x, .int .i64 y, .int .i64 a, .int .i64 b, .string s, .string t]] w fun e w' => e = .returned (.bool false) ∧ Kp [] w w' := by
  go_enter Tryz.func25, Tryz.ntmps25
  go_wp2
  go_ret
  exact ⟨rfl, (Kp.refl _ _).alloc _⟩

set_option maxHeartbeats 1000000 in
set_option maxRecDepth 10000 in
theorem owner_low (Wb : Nat) (k x y a b : Int) (s t : ByteArray) (w : World) (hk : k < 1) :
    Calls Tryz.prog 15 #[.pointer (some ⟨Wb, 0, none⟩), .agg #[.int .i64 k, .int .i64 x, .int .i64 y, .int .i64 a, .int .i64 b, .string s, .string t]] w fun e w' => e = .returned (.bool false) ∧ Kp [] w w' := by
  have e1 : ¬ k = 1 := by omega
  have e2 : ¬ k = 2 := by omega
  have e3 : ¬ k = 3 := by omega
  have e4 : ¬ k = 4 := by omega
  go_enter Tryz.func15, Tryz.ntmps15
  go_wp2_with fail
  refine (outer_low Wb k x y a b s t _ (by omega)).mono ?_
  rintro e w1 ⟨rfl, hK1⟩
  go_wp2
  go_ret
  exact ⟨rfl, ((Kp.refl _ _).alloc _).trans hK1 (by simp)⟩
set_option maxHeartbeats 1000000 in
set_option maxRecDepth 10000 in
theorem owner_high (Wb : Nat) (k x y a b : Int) (s t : ByteArray) (w : World) (hk : 9 < k) :
    Calls Tryz.prog 15 #[.pointer (some ⟨Wb, 0, none⟩), .agg #[.int .i64 k, .int .i64 x, .int .i64 y, .int .i64 a, .int .i64 b, .string s, .string t]] w fun e w' => e = .returned (.bool false) ∧ Kp [] w w' := by
  have e1 : ¬ k = 1 := by omega
  have e2 : ¬ k = 2 := by omega
  have e3 : ¬ k = 3 := by omega
  have e4 : ¬ k = 4 := by omega
  go_enter Tryz.func15, Tryz.ntmps15
  go_wp2_with fail
  refine (outer_high Wb k x y a b s t _ hk).mono ?_
  rintro e w1 ⟨rfl, hK1⟩
  go_wp2
  go_ret
  exact ⟨rfl, ((Kp.refl _ _).alloc _).trans hK1 (by simp)⟩

set_option maxHeartbeats 1000000 in
set_option maxRecDepth 10000 in
theorem owner_none (base Wb : Nat) (T : Int) (ds : List DG) (x y a b : Int) (s t : ByteArray) (w : World) (h : WOk base T w Wb ds) :
    Calls Tryz.prog 15 #[.pointer (some ⟨Wb, 0, none⟩), .agg #[.int .i64 2, .int .i64 x, .int .i64 y, .int .i64 a, .int .i64 b, .string s, .string t]] w fun e w' => e = .returned (.bool true) ∧ (∃ ds', WOk base (T + 2) w' Wb ds') ∧ Below base w w' := by
  have h' := h
  obtain ⟨pk, nk, ck, xs, pd, cd, h1, h2, h3, h4⟩ := h.hW
  have HH : Hid (WOk base T w Wb ds) := h'
  have hWs := lt_of_heap h1
  have hd1 := heap_old (Obj.cells #[.int .i64 2, .int .i64 x, .int .i64 y, .int .i64 a, .int .i64 b, .string s, .string t] 28) h1
  have k0 := cell_of h1 0
  simp only [wobj, List.getElem?_toArray, List.getElem?_cons_zero, List.getElem?_cons_succ] at k0
  have f0 := frozen_of h1 0
  clear h h'
  go_enter Tryz.func15, Tryz.ntmps15
  go_wp2
  go_ret
  have h := HH.out
  have hK : Kp [Wb] w ((w.setCell { block := Wb, off := 0 } (Value.slice none 0 0)).alloc (Obj.cells #[Value.int IntKind.i64 2, Value.int IntKind.i64 x, Value.int IntKind.i64 y, Value.int IntKind.i64 a, Value.int IntKind.i64 b, Value.string s, Value.string t] 28)) := ((Kp.refl _ _).setCell (by simp) _).alloc _
  have hF : Free base w [Wb] := fun k hk => by rw [List.mem_singleton.1 hk]; exact ⟨h.bW, _, _, _, h1, by decide, by decide, by decide, by decide⟩
  refine ⟨rfl, ⟨ds ++ [], h.turn hK hF (by omega) [] (by simp) (by simp) ⟨none, 0, 0, [], pd, cd, ?_, World.ownsRow_nil _ _ _ _, by have := h.len; simp; omega, ?_⟩ (by have := h.len; simp; omega)⟩, hK.below h.hbs (fun k hk => (hF k hk).1)⟩
  · rw [List.append_nil]
    exact heap_old _ (heap_set h1 0 _)
  · rw [List.append_nil]
    exact own_keep h4 hK (fun k hk => by rw [List.mem_singleton.1 hk]; exact ⟨_, _, _, h1, by decide⟩)
end Go.Proofs.YtilapcegpjjlfaaGreatDoor
