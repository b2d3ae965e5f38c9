import Derived.Test.YtilapcegpjjlfaaGreatDoorScan
import Derived.Lib.SmallJoins
import Derived.Laws.OwnMore
namespace Go.Proofs.YtilapcegpjjlfaaGreatDoor
set_option linter.unusedSimpArgs false
set_option linter.unusedVariables false
open Go.RowKit

theorem num_ok (k : Int) (w : World) : Calls Tryz.prog 30 #[.int .i64 k] w fun e w' => e = .returned (.int .i64 k) ∧ w' = w := by
  go_enter Tryz.func30, Tryz.ntmps30
  go_wp2
  go_ret
  exact ⟨rfl, rfl⟩

theorem pick_ok (c : Int) (n : Nat) (w : World) (h0 : -9223372036854775808 ≤ c) (h1 : c ≤ 9223372036854775807) (hn : 1 ≤ n) (hn1 : n ≤ 1000000) :
    Calls Tryz.prog 16 #[.int .i64 c, .int .i64 n] w fun e w' => ∃ j : Nat, e = .returned (.int .i64 j) ∧ j < n ∧ w' = w := by
  have hne : ¬ ((n : Int) = 0) := by omega
  by_cases hc : c < 0
  · go_enter Tryz.func16, Tryz.ntmps16
    go_wp2
    go_ret
    have e1 : -((c + 1).tmod (n : Int)) = (-(c + 1)) % (n : Int) := by rw [← Int.neg_tmod, Int.tmod_eq_emod_of_nonneg (by omega)]
    have e2 := Int.emod_nonneg (-(c + 1)) hne
    have e3 := Int.emod_lt_of_pos (-(c + 1)) (show (0 : Int) < n by omega)
    refine ⟨((-(c + 1)) % (n : Int)).toNat, ?_, by omega, rfl⟩
    rw [Int.toNat_of_nonneg e2, ← e1]
    rfl
  · go_enter Tryz.func16, Tryz.ntmps16
    go_wp2
    go_ret
    have e2 := Int.emod_nonneg c hne
    have e3 := Int.emod_lt_of_pos c (show (0 : Int) < n by omega)
    refine ⟨(c % (n : Int)).toNat, ?_, by omega, rfl⟩
    rw [Int.toNat_of_nonneg e2]
    rfl

theorem blocks_neg (c : Int) (w : World) (h : c < 0) : Calls Tryz.prog 22 #[.int .i64 c] w fun e w' => e = .returned (.int .i64 0) ∧ w' = w := by
  go_enter Tryz.func22, Tryz.ntmps22
  go_wp2
  go_ret
  exact ⟨rfl, rfl⟩
theorem blocks_nat (c : Int) (w : World) (h : ¬ c < 0) : Calls Tryz.prog 22 #[.int .i64 c] w fun e w' => e = .returned (.int .i64 (c % 1000)) ∧ w' = w := by
  go_enter Tryz.func22, Tryz.ntmps22
  go_wp2
  go_ret
  exact ⟨rfl, rfl⟩

theorem pairs_nil (w : World) : Calls Tryz.prog 55 #[.slice none 0 0] w fun e w' => e = .returned (.slice none 0 0) ∧ w' = w := by
  go_enter Tryz.func55, Tryz.ntmps55
  go_wp2_with fail
  refine wp_loop_rounds 1 ?_
  rw [rounds_succ]
  go_wp2
  go_ret
  exact ⟨rfl, rfl⟩

theorem same_nil (w : World) : Calls Tryz.prog 73 #[.slice none 0 0, .slice none 0 0] w fun e w' => e = .returned (.bool true) ∧ w' = w := by
  go_enter Tryz.func73, Tryz.ntmps73
  go_wp2_with fail
  refine wp_loop_rounds 1 ?_
  rw [rounds_succ]
  go_wp2
  go_ret
  exact ⟨rfl, rfl⟩

/-- A row of maps that have nothing in them. -/
def RowOk (w : World) (base : Nat) (v : Value) (n : Nat) : Prop := w.ownsRow base 44 1 v n (List.replicate n (.slice none 0 0))

theorem RowOk.kp {S : List Nat} {w w' : World} {base : Nat} {v : Value} {n : Nat} (h : RowOk w base v n) (hK : Kp S w w') (hS : ∀ k c t fr, w.heap[k]? = some (.cells c t fr) → k ∈ S → t ≠ 44) : RowOk w' base v n := by
  refine ⟨h.1, ?_⟩
  rcases h.2 with h0 | ⟨g, cap, cur, h1, h2, h3, h4⟩
  · exact .inl h0
  · exact .inr ⟨g, cap, cur, h1, h2, hK.heap h3 (fun hm => hS g _ _ _ h3 hm rfl), h4⟩
theorem RowOk.le {w : World} {base base' : Nat} {v : Value} {n : Nat} (h : RowOk w base v n) (hb : base' ≤ base) : RowOk w base' v n := ownsRow_le h hb
theorem RowOk.form {w : World} {base : Nat} {v : Value} {n : Nat} (h : RowOk w base v n) : ∃ p c, v = .slice p n c := by
  rcases h.2 with ⟨h0, h1⟩ | ⟨g, cap, cur, h1, _⟩
  · exact ⟨none, 0, by rw [h0, h1]⟩
  · exact ⟨_, cap, h1⟩
theorem RowOk.form1 {w : World} {base : Nat} {v : Value} {n : Nat} (h : RowOk w base v (n + 1)) : ∃ g c, v = .slice (some ⟨g, 0, none⟩) (n + 1) c := by
  obtain ⟨g, cap, h⟩ := own_form h
  exact ⟨g, cap, h⟩

theorem info44 : (Tryz.prog.info? 44).map (fun i => (i.zero, i.size, i.bytes)) = some (some (.agg #[.slice none 0 0]), 1, 24) := by kernel_rfl

theorem run_app_nil_nil (w : World) (ty : TypeId) : Sem.run Tryz.prog (Builtin.append_ #[38, 38] ty #[.slice none 0 0, .slice none 0 0]) w = .ok (.slice none 0 0) w := by
  obtain ⟨i0, hi, hz0, hz1, hz2⟩ := info_parts info44
  simp [Builtin.append_, run_underlying Tryz.underlying38, sizeOf, typeInfo, hi, Builtin.lenOf, Builtin.firstCells]

/-- What 'append(nil, row...)' makes: a row like it, of its own. -/
theorem run_app_row (w : World) (base : Nat) (v : Value) (n : Nat) (ty : TypeId) (h : RowOk w base v n) (hn : n ≤ 1000000) :
    ∃ v' w', Sem.run Tryz.prog (Builtin.append_ #[38, 38] ty #[.slice none 0 0, v]) w = .ok v' w' ∧ RowOk w' w.heap.size v' n ∧ Kp [] w w' := by
  obtain ⟨i0, hi, hz0, hz1, hz2⟩ := info_parts info44
  rcases h.2 with ⟨h0, h1⟩ | ⟨g, cap, cur, h1, h2, h3, h4, h5, h6, h7⟩
  · subst h0; subst h1
    exact ⟨_, _, run_app_nil_nil w ty, ⟨by simp, .inl ⟨rfl, rfl⟩⟩, Kp.refl _ _⟩
  · subst h1
    obtain ⟨v', w', hr, r1, r2, r3⟩ := run_append_own (P := Tryz.prog) w w.heap.size 38 ty 44 i0 _ 1 24 Tryz.underlying38 hi hz0 hz1 hz2 rfl (by decide) (.slice none 0 0) 0 [] (World.ownsRow_nil _ _ _ _) ⟨g, 0, none⟩ n cap (List.replicate n (.slice none 0 0)) (by simp) (fun j u hu => h.cells (g := g) rfl j u hu) (by intro u hu; rw [(List.mem_replicate.1 hu).2]; rfl) (by unfold maxLen; omega) (by omega) (Nat.le_refl _)
    refine ⟨v', w', hr, by simpa [RowOk] using r1, (Kp.refl [] w).grown r2 (by simp [Value.ownBlock])⟩

/-- What 'append(row, Map{})' makes of a row of its own. -/
theorem run_app_one (w : World) (base g : Nat) (v : Value) (n : Nat) (ty : TypeId) (h : RowOk w base v n) (hn : n ≤ 1000000) (hg : w.heap[g]? = some (.cells #[.slice none 0 0] 44)) (hb : base ≤ w.heap.size) :
    ∃ v' w', Sem.run Tryz.prog (Builtin.append_ #[38, 38] ty #[v, .slice (some ⟨g, 0, none⟩) 1 1]) w = .ok v' w' ∧ RowOk w' base v' (n + 1) ∧ w.grownBy w' v.ownBlock := by
  obtain ⟨i0, hi, hz0, hz1, hz2⟩ := info_parts info44
  obtain ⟨v', w', hr, r1, r2, r3⟩ := run_append_own (P := Tryz.prog) w base 38 ty 44 i0 _ 1 24 Tryz.underlying38 hi hz0 hz1 hz2 rfl (by decide) v n _ h ⟨g, 0, none⟩ 1 1 [.slice none 0 0] (by simp) (fun j u hu => by
    rw [add_none, cell_of hg]
    simpa using hu) (by simp [Value.oneCell']) (by unfold maxLen; omega) (by omega) hb
  refine ⟨v', w', hr, ?_, r2⟩
  rw [RowOk, List.replicate_succ']
  exact r1
end Go.Proofs.YtilapcegpjjlfaaGreatDoor
