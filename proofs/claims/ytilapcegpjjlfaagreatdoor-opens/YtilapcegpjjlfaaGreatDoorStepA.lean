import Derived.Test.YtilapcegpjjlfaaGreatDoorUpTo
import Derived.Test.YtilapcegpjjlfaaGreatDoorOwner
namespace Go.Proofs.YtilapcegpjjlfaaGreatDoor
set_option linter.unusedSimpArgs false
set_option linter.unusedVariables false
open Go.RowKit

set_option maxHeartbeats 1000000 in
set_option maxRecDepth 10000 in
/-- A step on what the caller owns. -/
theorem step_true (base Wb : Nat) (T : Int) (ds : List DG) (k x y a b : Int) (s t : ByteArray) (w : World) (h : WOk base T w Wb ds)
    (H : ∀ w, WOk base T w Wb ds → Calls Tryz.prog 15 #[.pointer (some ⟨Wb, 0, none⟩), .agg #[.int .i64 k, .int .i64 x, .int .i64 y, .int .i64 a, .int .i64 b, .string s, .string t]] w fun e w' => e = .returned (.bool true) ∧ (∃ ds', WOk base (T + 2) w' Wb ds') ∧ Below base w w') :
    Calls Tryz.prog 14 #[.pointer (some ⟨Wb, 0, none⟩), .agg #[.int .i64 k, .int .i64 x, .int .i64 y, .int .i64 a, .int .i64 b, .string s, .string t]] w fun e w' => e = .returned (.bool true) ∧ (∃ ds', WOk base (T + 2) w' Wb ds') ∧ Below base w w' := by
  have hK0 : Kp [] w (w.alloc (Obj.cells #[.int .i64 k, .int .i64 x, .int .i64 y, .int .i64 a, .int .i64 b, .string s, .string t] 28)) := (Kp.refl _ _).alloc _
  have HC := H _ (h.same hK0 (Int.le_refl _))
  have HB : Hid (Below base w (w.alloc (Obj.cells #[.int .i64 k, .int .i64 x, .int .i64 y, .int .i64 a, .int .i64 b, .string s, .string t] 28))) := hK0.below h.hbs (by simp)
  clear H h hK0
  go_enter Tryz.func14, Tryz.ntmps14
  go_wp2_with fail
  refine HC.mono ?_
  rintro e w1 ⟨rfl, ⟨ds', h1⟩, h2⟩
  have H1 : Hid (WOk base (T + 2) w1 Wb ds') := h1
  have H2 : Hid (Below base (w.alloc (Obj.cells #[.int .i64 k, .int .i64 x, .int .i64 y, .int .i64 a, .int .i64 b, .string s, .string t] 28)) w1) := h2
  clear h1 h2 HC
  go_wp2
  go_ret
  exact ⟨rfl, ⟨ds', H1.out⟩, HB.out.trans H2.out⟩

set_option maxHeartbeats 1000000 in
set_option maxRecDepth 10000 in
/-- A step that does nothing. -/
theorem step_idle (base Wb : Nat) (T : Int) (ds : List DG) (k x y a b : Int) (s t : ByteArray) (w : World) (h : WOk base T w Wb ds)
    (H : ∀ w, Calls Tryz.prog 15 #[.pointer (some ⟨Wb, 0, none⟩), .agg #[.int .i64 k, .int .i64 x, .int .i64 y, .int .i64 a, .int .i64 b, .string s, .string t]] w fun e w' => e = .returned (.bool false) ∧ Kp [] w w') (hk : ds.length = 0 ∨ k < 1) :
    Calls Tryz.prog 14 #[.pointer (some ⟨Wb, 0, none⟩), .agg #[.int .i64 k, .int .i64 x, .int .i64 y, .int .i64 a, .int .i64 b, .string s, .string t]] w fun e w' => e = .returned (.bool true) ∧ (∃ ds', WOk base (T + 2) w' Wb ds') ∧ Below base w w' := by
  have HC := H (w.alloc (Obj.cells #[.int .i64 k, .int .i64 x, .int .i64 y, .int .i64 a, .int .i64 b, .string s, .string t] 28))
  have HH : Hid (WOk base T w Wb ds) := h
  clear H h
  go_enter Tryz.func14, Tryz.ntmps14
  go_wp2_with fail
  refine HC.mono ?_
  rintro e w1 ⟨rfl, hK1⟩
  have HK1 : Hid (Kp [] w w1) := ((Kp.refl _ _).alloc _).trans hK1 (by simp)
  have HH1 : Hid (WOk base T w1 Wb ds) := HH.out.same HK1.out (Int.le_refl _)
  have hO1 := hK1.heap (heap_new w (Obj.cells #[.int .i64 k, .int .i64 x, .int .i64 y, .int .i64 a, .int .i64 b, .string s, .string t] 28)) (by simp)
  obtain ⟨pk, nk, ck, xs, pd, cd, hWb1, h2, h3, h4⟩ := HH1.out.hW
  have hWs := lt_of_heap hWb1
  have hOs := lt_of_heap hO1
  have k1 := cell_of hWb1 1
  simp only [wobj, List.getElem?_toArray, List.getElem?_cons_zero, List.getElem?_cons_succ] at k1
  have o0 := cell_of hO1 0
  simp only [List.getElem?_toArray, List.getElem?_cons_zero, List.getElem?_cons_succ] at o0
  clear h2 h3 h4 hK1 HC hO1 hWb1
  by_cases hn0 : (ds.length : Int) = 0
  · clear hk
    go_wp2
    go_ret
    exact ⟨rfl, ⟨ds, HH1.out.same (Kp.refl _ _) (by omega)⟩, HK1.out.below HH.out.hbs (by simp)⟩
  · have hk1 : k < 1 := by omega
    clear hk
    have hb20 : ¬ 20 < k := by omega
    have hb10 : k < 10 := by omega
    go_wp2
    all_goals
      go_ret
      exact ⟨rfl, ⟨ds, HH1.out.same (Kp.refl _ _) (by omega)⟩, HK1.out.below HH.out.hbs (by simp)⟩

set_option maxHeartbeats 4000000 in
set_option maxRecDepth 10000 in
theorem step_format (base Wb : Nat) (T : Int) (ds : List DG) (x y a b : Int) (s t : ByteArray) (w : World) (h : WOk base T w Wb ds) (hT0 : 0 ≤ T) (hT : T ≤ 40000) (hx0 : -9223372036854775808 ≤ x) (hx1 : x ≤ 9223372036854775807) :
    Calls Tryz.prog 14 #[.pointer (some ⟨Wb, 0, none⟩), .agg #[.int .i64 10, .int .i64 x, .int .i64 y, .int .i64 a, .int .i64 b, .string s, .string t]] w fun e w' => e = .returned (.bool true) ∧ (∃ ds', WOk base (T + 2) w' Wb ds') ∧ Below base w w' := by
  by_cases hd : ds.length = 0
  · exact step_idle base Wb T ds 10 x y a b s t w h (fun w1 => owner_high Wb 10 x y a b s t w1 (by decide)) (Or.inl hd)
  have hbs0 := h.hbs
  have hK0 : Kp [] w (w.alloc (Obj.cells #[.int .i64 10, .int .i64 x, .int .i64 y, .int .i64 a, .int .i64 b, .string s, .string t] 28)) := (Kp.refl _ _).alloc _
  have HK0 : Hid (Kp [] w (w.alloc (Obj.cells #[.int .i64 10, .int .i64 x, .int .i64 y, .int .i64 a, .int .i64 b, .string s, .string t] 28))) := hK0
  have HH : Hid (WOk base T w Wb ds) := h
  clear h hK0
  go_enter Tryz.func14, Tryz.ntmps14
  go_wp2_with fail
  refine (owner_high Wb 10 x y a b s t _ (by decide)).mono ?_
  rintro e w1 ⟨rfl, hK1⟩
  have HK1 : Hid (Kp [] w w1) := HK0.out.trans hK1 (by simp)
  have HH1 : Hid (WOk base T w1 Wb ds) := HH.out.same HK1.out (Int.le_refl _)
  have HB1 : Hid (Below base w w1) := HK1.out.below HH.out.hbs (by simp)
  have hO1 := hK1.heap (heap_new w (Obj.cells #[.int .i64 10, .int .i64 x, .int .i64 y, .int .i64 a, .int .i64 b, .string s, .string t] 28)) (by simp)
  obtain ⟨pk, nk, ck, xs, pd, cd, hWb1, h2, h3, h4⟩ := HH1.out.hW
  obtain ⟨gd, cur, rfl, hgd, hR1, hcur⟩ := own_some h4 (by omega)
  have hWs := lt_of_heap hWb1
  have hOs := lt_of_heap hO1
  have hgs := lt_of_heap hR1
  have hl := HH1.out.len
  have hn0 : ¬ ((ds.length : Int) = 0) := by omega
  have k1 := cell_of hWb1 1
  simp only [wobj, List.getElem?_toArray, List.getElem?_cons_zero, List.getElem?_cons_succ] at k1
  have o0 := cell_of hO1 0
  simp only [List.getElem?_toArray, List.getElem?_cons_zero, List.getElem?_cons_succ] at o0
  clear h2 h3 h4 hK1
  go_wp2_with fail
  have hS0 : w1.drew.heap[Wb]? = some (wobj pk nk ck (some ⟨gd, 0, none⟩) ds.length cd) ∧ w1.drew.heap[w.heap.size]? = some (Obj.cells #[.int .i64 10, .int .i64 x, .int .i64 y, .int .i64 a, .int .i64 b, .string s, .string t] 28) ∧ w1.drew.heap[gd]? = some (.cells cur 34) := ⟨hWb1, hO1, hR1⟩
  refine wp_region_held_drew (S := fun W => W.heap[Wb]? = some (wobj pk nk ck (some ⟨gd, 0, none⟩) ds.length cd) ∧ W.heap[w.heap.size]? = some (Obj.cells #[.int .i64 10, .int .i64 x, .int .i64 y, .int .i64 a, .int .i64 b, .string s, .string t] 28) ∧ W.heap[gd]? = some (.cells cur 34)) (by kernel_rfl) hS0 (fun _ => ?_)
  refine wpAnyH_take (i := 0) (v := .pointer (some ⟨Wb, 0, none⟩)) rfl (by kernel_rfl) (by kernel_rfl) (by kernel_rfl) (fun _ _ _ h => h) (Or.inl ⟨by rfl, fun W hS => by clear hS; go_simp⟩) hS0 ?_
  simp only [Act.put, List.setIfInBounds_toArray, List.set_cons_zero, List.set_cons_succ, List.getElem_toArray, List.getElem_cons_succ, List.getElem_cons_zero]
  refine wpAnyH_take (i := 1) (v := .pointer (some ⟨Wb, 0, none⟩)) rfl (by kernel_rfl) (by kernel_rfl) (by kernel_rfl) (fun _ _ _ h => h) (Or.inl ⟨by rfl, fun W hS => by clear hS; go_simp⟩) hS0 ?_
  simp only [Act.put, List.setIfInBounds_toArray, List.set_cons_zero, List.set_cons_succ, List.getElem_toArray, List.getElem_cons_succ, List.getElem_cons_zero]
  refine wpAnyH_take (i := 2) (v := .pointer (some ⟨Wb, 1, none⟩)) rfl (by kernel_rfl) (by kernel_rfl) (by kernel_rfl) (fun _ _ _ h => h) (Or.inl ⟨by rfl, fun W hS => by clear hS; go_simp⟩) hS0 ?_
  simp only [Act.put, List.setIfInBounds_toArray, List.set_cons_zero, List.set_cons_succ, List.getElem_toArray, List.getElem_cons_succ, List.getElem_cons_zero]
  refine wpAnyH_take (i := 3) (v := .slice (some ⟨gd, 0, none⟩) ds.length cd) rfl (by kernel_rfl) (by kernel_rfl) (by kernel_rfl) (fun _ _ _ h => h) (Or.inl ⟨by rfl, fun W hS => by have c := cell_of hS.1 1; simp [wobj] at c; clear hS; go_simp⟩) hS0 ?_
  simp only [Act.put, List.setIfInBounds_toArray, List.set_cons_zero, List.set_cons_succ, List.getElem_toArray, List.getElem_cons_succ, List.getElem_cons_zero]
  refine wpAnyH_take (i := 4) (v := .pointer (some ⟨w.heap.size, 1, none⟩)) rfl (by kernel_rfl) (by kernel_rfl) (by kernel_rfl) (fun _ _ _ h => h) (Or.inl ⟨by rfl, fun W hS => by clear hS; go_simp⟩) hS0 ?_
  simp only [Act.put, List.setIfInBounds_toArray, List.set_cons_zero, List.set_cons_succ, List.getElem_toArray, List.getElem_cons_succ, List.getElem_cons_zero]
  refine wpAnyH_take (i := 5) (v := .int .i64 x) rfl (by kernel_rfl) (by kernel_rfl) (by kernel_rfl) (fun _ _ _ h => h) (Or.inl ⟨by rfl, fun W hS => by have c := cell_of hS.2.1 1; simp at c; clear hS; go_simp⟩) hS0 ?_
  simp only [Act.put, List.setIfInBounds_toArray, List.set_cons_zero, List.set_cons_succ, List.getElem_toArray, List.getElem_cons_succ, List.getElem_cons_zero]
  refine wpAnyH_take (i := 6) (v := .pointer (some ⟨Wb, 0, none⟩)) rfl (by kernel_rfl) (by kernel_rfl) (by kernel_rfl) (fun _ _ _ h => h) (Or.inl ⟨by rfl, fun W hS => by clear hS; go_simp⟩) hS0 ?_
  simp only [Act.put, List.setIfInBounds_toArray, List.set_cons_zero, List.set_cons_succ, List.getElem_toArray, List.getElem_cons_succ, List.getElem_cons_zero]
  refine wpAnyH_take (i := 7) (v := .pointer (some ⟨Wb, 0, none⟩)) rfl (by kernel_rfl) (by kernel_rfl) (by kernel_rfl) (fun _ _ _ h => h) (Or.inl ⟨by rfl, fun W hS => by clear hS; go_simp⟩) hS0 ?_
  simp only [Act.put, List.setIfInBounds_toArray, List.set_cons_zero, List.set_cons_succ, List.getElem_toArray, List.getElem_cons_succ, List.getElem_cons_zero]
  refine wpAnyH_take (i := 8) (v := .pointer (some ⟨Wb, 1, none⟩)) rfl (by kernel_rfl) (by kernel_rfl) (by kernel_rfl) (fun _ _ _ h => h) (Or.inl ⟨by rfl, fun W hS => by clear hS; go_simp⟩) hS0 ?_
  simp only [Act.put, List.setIfInBounds_toArray, List.set_cons_zero, List.set_cons_succ, List.getElem_toArray, List.getElem_cons_succ, List.getElem_cons_zero]
  refine wpAnyH_take (i := 9) (v := .slice (some ⟨gd, 0, none⟩) ds.length cd) rfl (by kernel_rfl) (by kernel_rfl) (by kernel_rfl) (fun _ _ _ h => h) (Or.inl ⟨by rfl, fun W hS => by have c := cell_of hS.1 1; simp [wobj] at c; clear hS; go_simp⟩) hS0 ?_
  simp only [Act.put, List.setIfInBounds_toArray, List.set_cons_zero, List.set_cons_succ, List.getElem_toArray, List.getElem_cons_succ, List.getElem_cons_zero]
  refine wpAnyH_take (i := 10) (v := .int .i64 ds.length) rfl (by kernel_rfl) (by kernel_rfl) (by kernel_rfl) (fun _ _ _ h => h) (Or.inl ⟨by rfl, fun W hS => by clear hS; go_simp⟩) hS0 ?_
  simp only [Act.put, List.setIfInBounds_toArray, List.set_cons_zero, List.set_cons_succ, List.getElem_toArray, List.getElem_cons_succ, List.getElem_cons_zero]
  refine wpAnyH_ready (rs := [11]) (by kernel_rfl) (by simp) ?_
  refine AllReadyH.cons rfl (fun K hK => ?_) AllReadyH.nil
  go_simp
  refine (pick_ok x ds.length _ hx0 hx1 (by omega) (by omega)).mono ?_
  rintro e w2 ⟨j, rfl, hj, rfl⟩
  refine hK.out _ _ hS0 (fun _ => ?_)
  clear hK K
  try simp only [Act.put, List.setIfInBounds_toArray, List.set_cons_zero, List.set_cons_succ, List.getElem_toArray, List.getElem_cons_succ, List.getElem_cons_zero]
  refine wpAnyH_take (i := 12) (v := .pointer (some ⟨gd, j, none⟩)) rfl (by kernel_rfl) (by kernel_rfl) (by kernel_rfl) (fun _ _ _ h => h) (Or.inl ⟨by rfl, fun W hS => by clear hS; go_simp⟩) hS0 ?_
  simp only [Act.put, List.setIfInBounds_toArray, List.set_cons_zero, List.set_cons_succ, List.getElem_toArray, List.getElem_cons_succ, List.getElem_cons_zero]
  refine wpAnyH_take (i := 13) (v := .pointer (some ⟨ds[j].B, 0, none⟩)) rfl (by kernel_rfl) (by kernel_rfl) (by kernel_rfl) (fun _ _ _ h => h) (Or.inl ⟨by rfl, fun W hS => by have c := cell_of hS.2.2 j; rw [ptr_at hcur j hj] at c; clear hS; go_simp⟩) hS0 ?_
  simp only [Act.put, List.setIfInBounds_toArray, List.set_cons_zero, List.set_cons_succ, List.getElem_toArray, List.getElem_cons_succ, List.getElem_cons_zero]
  refine wpAnyH_take (i := 14) (v := .pointer (some ⟨ds[j].B, 0, none⟩)) rfl (by kernel_rfl) (by kernel_rfl) (by kernel_rfl) (fun _ _ _ h => h) (Or.inl ⟨by rfl, fun W hS => by clear hS; go_simp⟩) hS0 ?_
  simp only [Act.put, List.setIfInBounds_toArray, List.set_cons_zero, List.set_cons_succ, List.getElem_toArray, List.getElem_cons_succ, List.getElem_cons_zero]
  refine wpAnyH_done (by kernel_rfl) ?_ _
  clear hS0 hcur hR1 hWb1 hO1 k1
  go_wp2_with fail
  refine (formatted_ok base T w1.drew _ (HH1.out.all _ (List.getElem_mem hj) |>.keep (Kp.refl [] _).drew (Int.le_refl _) (by simp) (by simp) (by simp) (Apart.nil _ _)) hT0 (by omega) HH1.out.g0 HH1.out.hb HH1.out.hbs).mono ?_
  rintro e w2 ⟨rfl, ⟨g', hg', e1, e2, e3⟩, hK2⟩
  have HK2 : Hid (Kp [ds[j].B, ds[j].A, ds[j].C] w1 w2) := ((Kp.refl _ w1).drew).trans hK2 (fun i hi _ => hi)
  have HX : Hid (∃ ds', WOk base (T + 2) w2 Wb ds') := ⟨_, HH1.out.one j hj g' HK2.out (hg'.keep (Kp.refl [] _) (by omega) (by simp) (by simp) (by simp) (Apart.nil _ _)) e1 e2 e3 (by omega)⟩
  clear hg' e1 e2 e3 hK2
  go_wp2
  go_ret
  have hd := HH1.out.all _ (List.getElem_mem hj)
  exact ⟨rfl, HX.out, HB1.out.trans (HK2.out.below HH1.out.hbs (fun i hi => by
    simp only [List.mem_cons, List.not_mem_nil, or_false] at hi
    rcases hi with rfl | rfl | rfl
    · exact hd.bB
    · exact hd.bA
    · exact hd.bC))⟩

set_option maxHeartbeats 4000000 in
set_option maxRecDepth 10000 in
theorem step_open (base Wb : Nat) (T : Int) (ds : List DG) (x y a b : Int) (s t : ByteArray) (w : World) (h : WOk base T w Wb ds) (hT0 : 0 ≤ T) (hT : T ≤ 40000) (hx0 : -9223372036854775808 ≤ x) (hx1 : x ≤ 9223372036854775807) :
    Calls Tryz.prog 14 #[.pointer (some ⟨Wb, 0, none⟩), .agg #[.int .i64 11, .int .i64 x, .int .i64 y, .int .i64 a, .int .i64 b, .string s, .string t]] w fun e w' => e = .returned (.bool true) ∧ (∃ ds', WOk base (T + 2) w' Wb ds') ∧ Below base w w' := by
  by_cases hd : ds.length = 0
  · exact step_idle base Wb T ds 11 x y a b s t w h (fun w1 => owner_high Wb 11 x y a b s t w1 (by decide)) (Or.inl hd)
  have hbs0 := h.hbs
  have hK0 : Kp [] w (w.alloc (Obj.cells #[.int .i64 11, .int .i64 x, .int .i64 y, .int .i64 a, .int .i64 b, .string s, .string t] 28)) := (Kp.refl _ _).alloc _
  have HK0 : Hid (Kp [] w (w.alloc (Obj.cells #[.int .i64 11, .int .i64 x, .int .i64 y, .int .i64 a, .int .i64 b, .string s, .string t] 28))) := hK0
  have HH : Hid (WOk base T w Wb ds) := h
  clear h hK0
  go_enter Tryz.func14, Tryz.ntmps14
  go_wp2_with fail
  refine (owner_high Wb 11 x y a b s t _ (by decide)).mono ?_
  rintro e w1 ⟨rfl, hK1⟩
  have HK1 : Hid (Kp [] w w1) := HK0.out.trans hK1 (by simp)
  have HH1 : Hid (WOk base T w1 Wb ds) := HH.out.same HK1.out (Int.le_refl _)
  have HB1 : Hid (Below base w w1) := HK1.out.below HH.out.hbs (by simp)
  have hO1 := hK1.heap (heap_new w (Obj.cells #[.int .i64 11, .int .i64 x, .int .i64 y, .int .i64 a, .int .i64 b, .string s, .string t] 28)) (by simp)
  obtain ⟨pk, nk, ck, xs, pd, cd, hWb1, h2, h3, h4⟩ := HH1.out.hW
  obtain ⟨gd, cur, rfl, hgd, hR1, hcur⟩ := own_some h4 (by omega)
  have hWs := lt_of_heap hWb1
  have hOs := lt_of_heap hO1
  have hgs := lt_of_heap hR1
  have hl := HH1.out.len
  have hn0 : ¬ ((ds.length : Int) = 0) := by omega
  have k1 := cell_of hWb1 1
  simp only [wobj, List.getElem?_toArray, List.getElem?_cons_zero, List.getElem?_cons_succ] at k1
  have o0 := cell_of hO1 0
  simp only [List.getElem?_toArray, List.getElem?_cons_zero, List.getElem?_cons_succ] at o0
  clear h2 h3 h4 hK1
  go_wp2_with fail
  have hS0 : w1.drew.heap[Wb]? = some (wobj pk nk ck (some ⟨gd, 0, none⟩) ds.length cd) ∧ w1.drew.heap[w.heap.size]? = some (Obj.cells #[.int .i64 11, .int .i64 x, .int .i64 y, .int .i64 a, .int .i64 b, .string s, .string t] 28) ∧ w1.drew.heap[gd]? = some (.cells cur 34) := ⟨hWb1, hO1, hR1⟩
  refine wp_region_held_drew (S := fun W => W.heap[Wb]? = some (wobj pk nk ck (some ⟨gd, 0, none⟩) ds.length cd) ∧ W.heap[w.heap.size]? = some (Obj.cells #[.int .i64 11, .int .i64 x, .int .i64 y, .int .i64 a, .int .i64 b, .string s, .string t] 28) ∧ W.heap[gd]? = some (.cells cur 34)) (by kernel_rfl) hS0 (fun _ => ?_)
  refine wpAnyH_take (i := 0) (v := .pointer (some ⟨Wb, 0, none⟩)) rfl (by kernel_rfl) (by kernel_rfl) (by kernel_rfl) (fun _ _ _ h => h) (Or.inl ⟨by rfl, fun W hS => by clear hS; go_simp⟩) hS0 ?_
  simp only [Act.put, List.setIfInBounds_toArray, List.set_cons_zero, List.set_cons_succ, List.getElem_toArray, List.getElem_cons_succ, List.getElem_cons_zero]
  refine wpAnyH_take (i := 1) (v := .pointer (some ⟨Wb, 0, none⟩)) rfl (by kernel_rfl) (by kernel_rfl) (by kernel_rfl) (fun _ _ _ h => h) (Or.inl ⟨by rfl, fun W hS => by clear hS; go_simp⟩) hS0 ?_
  simp only [Act.put, List.setIfInBounds_toArray, List.set_cons_zero, List.set_cons_succ, List.getElem_toArray, List.getElem_cons_succ, List.getElem_cons_zero]
  refine wpAnyH_take (i := 2) (v := .pointer (some ⟨Wb, 1, none⟩)) rfl (by kernel_rfl) (by kernel_rfl) (by kernel_rfl) (fun _ _ _ h => h) (Or.inl ⟨by rfl, fun W hS => by clear hS; go_simp⟩) hS0 ?_
  simp only [Act.put, List.setIfInBounds_toArray, List.set_cons_zero, List.set_cons_succ, List.getElem_toArray, List.getElem_cons_succ, List.getElem_cons_zero]
  refine wpAnyH_take (i := 3) (v := .slice (some ⟨gd, 0, none⟩) ds.length cd) rfl (by kernel_rfl) (by kernel_rfl) (by kernel_rfl) (fun _ _ _ h => h) (Or.inl ⟨by rfl, fun W hS => by have c := cell_of hS.1 1; simp [wobj] at c; clear hS; go_simp⟩) hS0 ?_
  simp only [Act.put, List.setIfInBounds_toArray, List.set_cons_zero, List.set_cons_succ, List.getElem_toArray, List.getElem_cons_succ, List.getElem_cons_zero]
  refine wpAnyH_take (i := 4) (v := .pointer (some ⟨w.heap.size, 1, none⟩)) rfl (by kernel_rfl) (by kernel_rfl) (by kernel_rfl) (fun _ _ _ h => h) (Or.inl ⟨by rfl, fun W hS => by clear hS; go_simp⟩) hS0 ?_
  simp only [Act.put, List.setIfInBounds_toArray, List.set_cons_zero, List.set_cons_succ, List.getElem_toArray, List.getElem_cons_succ, List.getElem_cons_zero]
  refine wpAnyH_take (i := 5) (v := .int .i64 x) rfl (by kernel_rfl) (by kernel_rfl) (by kernel_rfl) (fun _ _ _ h => h) (Or.inl ⟨by rfl, fun W hS => by have c := cell_of hS.2.1 1; simp at c; clear hS; go_simp⟩) hS0 ?_
  simp only [Act.put, List.setIfInBounds_toArray, List.set_cons_zero, List.set_cons_succ, List.getElem_toArray, List.getElem_cons_succ, List.getElem_cons_zero]
  refine wpAnyH_take (i := 6) (v := .pointer (some ⟨Wb, 0, none⟩)) rfl (by kernel_rfl) (by kernel_rfl) (by kernel_rfl) (fun _ _ _ h => h) (Or.inl ⟨by rfl, fun W hS => by clear hS; go_simp⟩) hS0 ?_
  simp only [Act.put, List.setIfInBounds_toArray, List.set_cons_zero, List.set_cons_succ, List.getElem_toArray, List.getElem_cons_succ, List.getElem_cons_zero]
  refine wpAnyH_take (i := 7) (v := .pointer (some ⟨Wb, 0, none⟩)) rfl (by kernel_rfl) (by kernel_rfl) (by kernel_rfl) (fun _ _ _ h => h) (Or.inl ⟨by rfl, fun W hS => by clear hS; go_simp⟩) hS0 ?_
  simp only [Act.put, List.setIfInBounds_toArray, List.set_cons_zero, List.set_cons_succ, List.getElem_toArray, List.getElem_cons_succ, List.getElem_cons_zero]
  refine wpAnyH_take (i := 8) (v := .pointer (some ⟨Wb, 1, none⟩)) rfl (by kernel_rfl) (by kernel_rfl) (by kernel_rfl) (fun _ _ _ h => h) (Or.inl ⟨by rfl, fun W hS => by clear hS; go_simp⟩) hS0 ?_
  simp only [Act.put, List.setIfInBounds_toArray, List.set_cons_zero, List.set_cons_succ, List.getElem_toArray, List.getElem_cons_succ, List.getElem_cons_zero]
  refine wpAnyH_take (i := 9) (v := .slice (some ⟨gd, 0, none⟩) ds.length cd) rfl (by kernel_rfl) (by kernel_rfl) (by kernel_rfl) (fun _ _ _ h => h) (Or.inl ⟨by rfl, fun W hS => by have c := cell_of hS.1 1; simp [wobj] at c; clear hS; go_simp⟩) hS0 ?_
  simp only [Act.put, List.setIfInBounds_toArray, List.set_cons_zero, List.set_cons_succ, List.getElem_toArray, List.getElem_cons_succ, List.getElem_cons_zero]
  refine wpAnyH_take (i := 10) (v := .int .i64 ds.length) rfl (by kernel_rfl) (by kernel_rfl) (by kernel_rfl) (fun _ _ _ h => h) (Or.inl ⟨by rfl, fun W hS => by clear hS; go_simp⟩) hS0 ?_
  simp only [Act.put, List.setIfInBounds_toArray, List.set_cons_zero, List.set_cons_succ, List.getElem_toArray, List.getElem_cons_succ, List.getElem_cons_zero]
  refine wpAnyH_ready (rs := [11]) (by kernel_rfl) (by simp) ?_
  refine AllReadyH.cons rfl (fun K hK => ?_) AllReadyH.nil
  go_simp
  refine (pick_ok x ds.length _ hx0 hx1 (by omega) (by omega)).mono ?_
  rintro e w2 ⟨j, rfl, hj, rfl⟩
  refine hK.out _ _ hS0 (fun _ => ?_)
  clear hK K
  try simp only [Act.put, List.setIfInBounds_toArray, List.set_cons_zero, List.set_cons_succ, List.getElem_toArray, List.getElem_cons_succ, List.getElem_cons_zero]
  refine wpAnyH_take (i := 12) (v := .pointer (some ⟨gd, j, none⟩)) rfl (by kernel_rfl) (by kernel_rfl) (by kernel_rfl) (fun _ _ _ h => h) (Or.inl ⟨by rfl, fun W hS => by clear hS; go_simp⟩) hS0 ?_
  simp only [Act.put, List.setIfInBounds_toArray, List.set_cons_zero, List.set_cons_succ, List.getElem_toArray, List.getElem_cons_succ, List.getElem_cons_zero]
  refine wpAnyH_take (i := 13) (v := .pointer (some ⟨ds[j].B, 0, none⟩)) rfl (by kernel_rfl) (by kernel_rfl) (by kernel_rfl) (fun _ _ _ h => h) (Or.inl ⟨by rfl, fun W hS => by have c := cell_of hS.2.2 j; rw [ptr_at hcur j hj] at c; clear hS; go_simp⟩) hS0 ?_
  simp only [Act.put, List.setIfInBounds_toArray, List.set_cons_zero, List.set_cons_succ, List.getElem_toArray, List.getElem_cons_succ, List.getElem_cons_zero]
  refine wpAnyH_take (i := 14) (v := .pointer (some ⟨ds[j].B, 0, none⟩)) rfl (by kernel_rfl) (by kernel_rfl) (by kernel_rfl) (fun _ _ _ h => h) (Or.inl ⟨by rfl, fun W hS => by clear hS; go_simp⟩) hS0 ?_
  simp only [Act.put, List.setIfInBounds_toArray, List.set_cons_zero, List.set_cons_succ, List.getElem_toArray, List.getElem_cons_succ, List.getElem_cons_zero]
  refine wpAnyH_done (by kernel_rfl) ?_ _
  clear hS0 hcur hR1 hWb1 hO1 k1
  go_wp2_with fail
  refine (opened_ok base T w1.drew _ (HH1.out.all _ (List.getElem_mem hj) |>.keep (Kp.refl [] _).drew (Int.le_refl _) (by simp) (by simp) (by simp) (Apart.nil _ _)) hT0 (by omega) HH1.out.g0 HH1.out.hb HH1.out.hbs).mono ?_
  rintro e w2 ⟨rfl, ⟨g', hg', e1, e2, e3⟩, hK2⟩
  have HK2 : Hid (Kp [ds[j].B, ds[j].A, ds[j].C] w1 w2) := ((Kp.refl _ w1).drew).trans hK2 (fun i hi _ => hi)
  have HX : Hid (∃ ds', WOk base (T + 2) w2 Wb ds') := ⟨_, HH1.out.one j hj g' HK2.out (hg'.keep (Kp.refl [] _) (by omega) (by simp) (by simp) (by simp) (Apart.nil _ _)) e1 e2 e3 (by omega)⟩
  clear hg' e1 e2 e3 hK2
  go_wp2
  go_ret
  have hd := HH1.out.all _ (List.getElem_mem hj)
  exact ⟨rfl, HX.out, HB1.out.trans (HK2.out.below HH1.out.hbs (fun i hi => by
    simp only [List.mem_cons, List.not_mem_nil, or_false] at hi
    rcases hi with rfl | rfl | rfl
    · exact hd.bB
    · exact hd.bA
    · exact hd.bC))⟩
end Go.Proofs.YtilapcegpjjlfaaGreatDoor
