import Derived.Test.YtilapcegpjjlfaaGreatDoorKeep
namespace Go.Proofs.YtilapcegpjjlfaaGreatDoor
set_option linter.unusedSimpArgs false
set_option linter.unusedVariables false
open Go.RowKit

set_option maxHeartbeats 1000000 in
theorem near_ok (c : Int) (w : World) (h0 : -9223372036854775808 ≤ c) (h1 : c ≤ 9223372036854775807) :
    Calls Tryz.prog 43 #[.int .i64 c] w fun e w' => ∃ j : Nat, e = .returned (.int .i64 j) ∧ w' = w := by
  go_enter Tryz.func43, Tryz.ntmps43
  go_wp2_with fail
  refine (pick_ok c 600 w h0 h1 (by omega) (by omega)).mono ?_
  rintro e w1 ⟨j, rfl, hj, rfl⟩
  go_wp2
  go_ret
  exact ⟨j, rfl, rfl⟩

set_option maxHeartbeats 1000000 in
set_option maxRecDepth 10000 in
theorem outer_none (base Wb : Nat) (T : Int) (x y a b : Int) (s t : ByteArray) (w : World) (h : WOk base T w Wb []) :
    Calls Tryz.prog 25 #[.pointer (some ⟨Wb, 0, none⟩), .agg #[.int .i64 5, .int .i64 x, .int .i64 y, .int .i64 a, .int .i64 b, .string s, .string t]] w fun e w' => e = .returned (.bool true) ∧ (∃ ds', WOk base (T + 2) w' Wb ds') ∧ Below base w w' := by
  have h' := h
  obtain ⟨pk, nk, ck, xs, pd, cd, h1, h2, h3, h4⟩ := h.hW
  have HH : Hid (WOk base T w Wb []) := h'
  have hWs := lt_of_heap h1
  have k1 := cell_of h1 1
  simp only [wobj, List.length_nil, List.getElem?_toArray, List.getElem?_cons_zero, List.getElem?_cons_succ] at k1
  clear h h' h1 h2 h3 h4
  go_enter Tryz.func25, Tryz.ntmps25
  go_wp2
  go_ret
  have hK : Kp [] w (w.alloc (Obj.cells #[.int .i64 5, .int .i64 x, .int .i64 y, .int .i64 a, .int .i64 b, .string s, .string t] 28)) := (Kp.refl _ _).alloc _
  exact ⟨rfl, ⟨[], HH.out.same hK (by omega)⟩, hK.below HH.out.hbs (by simp)⟩

theorem exec_boxA {P : Program} {a : Act} {w : World} {o : Oper} {t : TypeId} {x : Operand} (ho : o.op = .box t x) (vs : Array Value) (hx : a.eval x = .agg vs) : Sem.run P (execOp a.eval o) w = .ok (.value (.pointer (some ⟨w.heap.size, 0, none⟩))) (w.alloc (.cells vs t)) := by
  have hrun : Sem.run P (Instr.box t (.agg vs)) w = .ok (.pointer (some ⟨w.heap.size, 0, none⟩)) (w.alloc (.cells vs t)) := by
    simp [Instr.box, newVar, newRow, Value.cells]
  unfold execOp
  simp only [ho, Sem.run_bind, Sem.run_pure, Result.andThen_ok, hx, hrun]

set_option maxHeartbeats 4000000 in
set_option maxRecDepth 10000 in
theorem outer_copy (base Wb : Nat) (T : Int) (ds : List DG) (x y a b : Int) (s t : ByteArray) (w : World) (h : WOk base T w Wb ds) (hT : T ≤ 50000) (hx0 : -9223372036854775808 ≤ x) (hx1 : x ≤ 9223372036854775807) (ha0 : -9223372036854775808 ≤ a) (ha1 : a ≤ 9223372036854775807) (hb0 : -9223372036854775808 ≤ b) (hb1 : b ≤ 9223372036854775807) (hd : 1 ≤ ds.length) :
    Calls Tryz.prog 25 #[.pointer (some ⟨Wb, 0, none⟩), .agg #[.int .i64 5, .int .i64 x, .int .i64 y, .int .i64 a, .int .i64 b, .string s, .string t]] w fun e w' => e = .returned (.bool true) ∧ (∃ ds', WOk base (T + 2) w' Wb ds') ∧ Below base w w' := by
  have h' := h
  obtain ⟨pk, nk, ck, xs, pd, cd, h1, h2, h3, h4⟩ := h.hW
  obtain ⟨gd, cur, rfl, hgd, hcur0, hcur⟩ := own_some h4 hd
  have HH : Hid (WOk base T w Wb ds) := h'
  have hWs := lt_of_heap h1
  have hgs := lt_of_heap hcur0
  have hl := h.len
  have hbs := h.hbs
  have hn0 : ¬ ((ds.length : Int) = 0) := by omega
  have H1 : Hid (w.heap[Wb]? = some (wobj pk nk ck (some ⟨gd, 0, none⟩) ds.length cd) ∧ w.ownsRow base 3 1 (.slice pk nk ck) nk xs ∧ (nk : Int) ≤ T ∧ w.ownsRow base 34 1 (.slice (some ⟨gd, 0, none⟩) ds.length cd) ds.length (ptrs ds)) := ⟨h1, h2, h3, h4⟩
  have k1 := cell_of h1 1
  simp only [wobj, List.getElem?_toArray, List.getElem?_cons_zero, List.getElem?_cons_succ] at k1
  clear h h' h2 h3 h4
  go_enter Tryz.func25, Tryz.ntmps25
  go_wp2_with fail
  obtain ⟨W1, hW1, hO1, hWb1, hR1, hK1⟩ : ∃ W1, W1 = w.alloc (Obj.cells #[.int .i64 5, .int .i64 x, .int .i64 y, .int .i64 a, .int .i64 b, .string s, .string t] 28) ∧ W1.heap[w.heap.size]? = some (Obj.cells #[.int .i64 5, .int .i64 x, .int .i64 y, .int .i64 a, .int .i64 b, .string s, .string t] 28) ∧ W1.heap[Wb]? = some (wobj pk nk ck (some ⟨gd, 0, none⟩) ds.length cd) ∧ W1.heap[gd]? = some (.cells cur 34) ∧ Kp [] w W1 := ⟨_, rfl, heap_new _ _, heap_old _ h1, heap_old _ hcur0, (Kp.refl _ _).alloc _⟩
  rw [← hW1]
  clear hW1 h1 hcur0 k1
  have hS0 : W1.drew.heap[Wb]? = some (wobj pk nk ck (some ⟨gd, 0, none⟩) ds.length cd) ∧ W1.drew.heap[w.heap.size]? = some (Obj.cells #[.int .i64 5, .int .i64 x, .int .i64 y, .int .i64 a, .int .i64 b, .string s, .string t] 28) ∧ W1.drew.heap[gd]? = some (.cells cur 34) := ⟨hWb1, hO1, hR1⟩
  refine wp_region_held_drew (S := fun W => W.heap[Wb]? = some (wobj pk nk ck (some ⟨gd, 0, none⟩) ds.length cd) ∧ W.heap[w.heap.size]? = some (Obj.cells #[.int .i64 5, .int .i64 x, .int .i64 y, .int .i64 a, .int .i64 b, .string s, .string t] 28) ∧ W.heap[gd]? = some (.cells cur 34)) (by kernel_rfl) hS0 (fun _ => ?_)
  refine wpAnyH_take (i := 0) (v := .pointer (some ⟨Wb, 0, none⟩)) rfl (by kernel_rfl) (by kernel_rfl) (by kernel_rfl) (fun _ _ _ h => h) (Or.inl ⟨by rfl, fun W hS => by clear hS; go_simp⟩) hS0 ?_
  simp only [Act.put, List.setIfInBounds_toArray, List.set_cons_zero, List.set_cons_succ, List.getElem_toArray, List.getElem_cons_succ, List.getElem_cons_zero]
  refine wpAnyH_take (i := 1) (v := .pointer (some ⟨Wb, 0, none⟩)) rfl (by kernel_rfl) (by kernel_rfl) (by kernel_rfl) (fun _ _ _ h => h) (Or.inl ⟨by rfl, fun W hS => by clear hS; go_simp⟩) hS0 ?_
  simp only [Act.put, List.setIfInBounds_toArray, List.set_cons_zero, List.set_cons_succ, List.getElem_toArray, List.getElem_cons_succ, List.getElem_cons_zero]
  refine wpAnyH_take (i := 2) (v := .pointer (some ⟨Wb, 1, none⟩)) rfl (by kernel_rfl) (by kernel_rfl) (by kernel_rfl) (fun _ _ _ h => h) (Or.inl ⟨by rfl, fun W hS => by clear hS; go_simp⟩) hS0 ?_
  simp only [Act.put, List.setIfInBounds_toArray, List.set_cons_zero, List.set_cons_succ, List.getElem_toArray, List.getElem_cons_succ, List.getElem_cons_zero]
  refine wpAnyH_take (i := 3) (v := .slice (some ⟨gd, 0, none⟩) ds.length cd) rfl (by kernel_rfl) (by kernel_rfl) (by kernel_rfl) (fun _ _ _ h => h) (Or.inl ⟨by rfl, fun W hS => by have c := cell_of hS.1 1; simp [wobj] at c; clear hS; go_simp⟩) hS0 ?_
  simp only [Act.put, List.setIfInBounds_toArray, List.set_cons_zero, List.set_cons_succ, List.getElem_toArray, List.getElem_cons_succ, List.getElem_cons_zero]
  refine wpAnyH_take (i := 4) (v := .pointer (some ⟨w.heap.size, 1, none⟩)) rfl (by kernel_rfl) (by kernel_rfl) (by kernel_rfl) (fun _ _ _ h => h) (Or.inl ⟨by rfl, fun W hS => by clear hS; go_simp⟩) hS0 ?_
  simp only [Act.put, List.setIfInBounds_toArray, List.set_cons_zero, List.set_cons_succ, List.getElem_toArray, List.getElem_cons_succ, List.getElem_cons_zero]
  refine wpAnyH_take (i := 5) (v := .int .i64 x) rfl (by kernel_rfl) (by kernel_rfl) (by kernel_rfl) (fun _ _ _ h => h) (Or.inl ⟨by rfl, fun W hS => by have c := cell_of hS.2.1 1; simp at c; clear hS; go_simp⟩) hS0 ?_
  simp only [Act.put, List.setIfInBounds_toArray, List.set_cons_zero, List.set_cons_succ, List.getElem_toArray, List.getElem_cons_succ, List.getElem_cons_zero]
  refine wpAnyH_take (i := 6) (v := .pointer (some ⟨Wb, 0, none⟩)) rfl (by kernel_rfl) (by kernel_rfl) (by kernel_rfl) (fun _ _ _ h => h) (Or.inl ⟨by rfl, fun W hS => by clear hS; go_simp⟩) hS0 ?_
  simp only [Act.put, List.setIfInBounds_toArray, List.set_cons_zero, List.set_cons_succ, List.getElem_toArray, List.getElem_cons_succ, List.getElem_cons_zero]
  refine wpAnyH_take (i := 7) (v := .pointer (some ⟨Wb, 0, none⟩)) rfl (by kernel_rfl) (by kernel_rfl) (by kernel_rfl) (fun _ _ _ h => h) (Or.inl ⟨by rfl, fun W hS => by clear hS; go_simp⟩) hS0 ?_
  simp only [Act.put, List.setIfInBounds_toArray, List.set_cons_zero, List.set_cons_succ, List.getElem_toArray, List.getElem_cons_succ, List.getElem_cons_zero]
  refine wpAnyH_take (i := 8) (v := .pointer (some ⟨Wb, 1, none⟩)) rfl (by kernel_rfl) (by kernel_rfl) (by kernel_rfl) (fun _ _ _ h => h) (Or.inl ⟨by rfl, fun W hS => by clear hS; go_simp⟩) hS0 ?_
  simp only [Act.put, List.setIfInBounds_toArray, List.set_cons_zero, List.set_cons_succ, List.getElem_toArray, List.getElem_cons_succ, List.getElem_cons_zero]
  refine wpAnyH_take (i := 9) (v := .slice (some ⟨gd, 0, none⟩) ds.length cd) rfl (by kernel_rfl) (by kernel_rfl) (by kernel_rfl) (fun _ _ _ h => h) (Or.inl ⟨by rfl, fun W hS => by have c := cell_of hS.1 1; simp [wobj] at c; clear hS; go_simp⟩) hS0 ?_
  simp only [Act.put, List.setIfInBounds_toArray, List.set_cons_zero, List.set_cons_succ, List.getElem_toArray, List.getElem_cons_succ, List.getElem_cons_zero]
  refine wpAnyH_take (i := 10) (v := .int .i64 ds.length) rfl (by kernel_rfl) (by kernel_rfl) (by kernel_rfl) (fun _ _ _ h => h) (Or.inl ⟨by rfl, fun W hS => by clear hS; go_simp⟩) hS0 ?_
  simp only [Act.put, List.setIfInBounds_toArray, List.set_cons_zero, List.set_cons_succ, List.getElem_toArray, List.getElem_cons_succ, List.getElem_cons_zero]
  refine wpAnyH_ready (rs := [11]) (by kernel_rfl) (by simp) ?_
  refine AllReadyH.cons rfl (fun K hK => ?_) AllReadyH.nil
  go_simp
  refine (pick_ok x ds.length _ hx0 hx1 (by omega) (by omega)).mono ?_
  rintro e w2 ⟨j, rfl, hj, rfl⟩
  refine hK.out _ _ hS0 (fun _ => ?_)
  clear hK K
  try simp only [Act.put, List.setIfInBounds_toArray, List.set_cons_zero, List.set_cons_succ, List.getElem_toArray, List.getElem_cons_succ, List.getElem_cons_zero]
  refine wpAnyH_take (i := 12) (v := .pointer (some ⟨gd, j, none⟩)) rfl (by kernel_rfl) (by kernel_rfl) (by kernel_rfl) (fun _ _ _ h => h) (Or.inl ⟨by rfl, fun W hS => by clear hS; go_simp⟩) hS0 ?_
  simp only [Act.put, List.setIfInBounds_toArray, List.set_cons_zero, List.set_cons_succ, List.getElem_toArray, List.getElem_cons_succ, List.getElem_cons_zero]
  refine wpAnyH_take (i := 13) (v := .pointer (some ⟨ds[j].B, 0, none⟩)) rfl (by kernel_rfl) (by kernel_rfl) (by kernel_rfl) (fun _ _ _ h => h) (Or.inl ⟨by rfl, fun W hS => by have c := cell_of hS.2.2 j; rw [ptr_at hcur j hj] at c; clear hS; go_simp⟩) hS0 ?_
  simp only [Act.put, List.setIfInBounds_toArray, List.set_cons_zero, List.set_cons_succ, List.getElem_toArray, List.getElem_cons_succ, List.getElem_cons_zero]
  refine wpAnyH_take (i := 14) (v := .pointer (some ⟨ds[j].B, 0, none⟩)) rfl (by kernel_rfl) (by kernel_rfl) (by kernel_rfl) (fun _ _ _ h => h) (Or.inl ⟨by rfl, fun W hS => by clear hS; go_simp⟩) hS0 ?_
  simp only [Act.put, List.setIfInBounds_toArray, List.set_cons_zero, List.set_cons_succ, List.getElem_toArray, List.getElem_cons_succ, List.getElem_cons_zero]
  refine wpAnyH_done (by kernel_rfl) ?_ _
  have hdj := HH.out.all ds[j] (List.getElem_mem hj)
  generalize hgj : ds[j] = g at *
  obtain ⟨B, A, C, n, l, calls, writes, N, pm, m, cm, pw, k, cw, x0⟩ := g
  have HD : Hid (DOk base T w ⟨B, A, C, n, l, calls, writes, N, pm, m, cm, pw, k, cw, x0⟩) := hdj
  obtain ⟨bB, bA, bC, hB, hA, hC, len, n1000, calls0, calls1, writes0, writes1, kT, may, were, st⟩ := hdj
  simp only at *
  clear hgj hS0 st may were calls0 calls1 writes0 writes1 kT hcur hR1
  have hB1 := hK1.heap hB (by simp)
  have hA1 := hK1.heap hA (by simp)
  have hC1 := hK1.heap hC (by simp)
  have o0 := cell_of hO1 0
  have o3 := cell_of hO1 3
  have o4 := cell_of hO1 4
  simp only [List.getElem?_toArray, List.getElem?_cons_zero, List.getElem?_cons_succ] at o0 o3 o4
  have hOs1 := lt_of_heap hO1
  have hBs1 := lt_of_heap hB1
  have k0 := cell_of hB1 0
  have k1 := cell_of hB1 1
  simp only [kobj, List.getElem?_toArray, List.getElem?_cons_zero, List.getElem?_cons_succ] at k0 k1
  clear hA hB hC
  go_wp2_with fail
  refine (near_ok a _ ha0 ha1).mono ?_
  rintro e w2 ⟨ja, rfl, rfl⟩
  go_wp2_with fail
  refine (near_ok b _ hb0 hb1).mono ?_
  rintro e w2 ⟨jb, rfl, rfl⟩
  go_wp2_with fail
  refine (bytes_ok A n C calls writes l _ (show W1.drew.heap[A]? = _ from hA1) (by omega) hC1 len).mono ?_
  rintro e w2 ⟨rfl, hK2⟩
  have hK2' : Kp [] w w2 := hK1.drew.trans hK2 (by simp)
  have hB2 := hK2.heap (k := B) hB1 (by simp)
  have hWb2 := hK2.heap (k := Wb) hWb1 (by simp)
  clear hB1 hA1 hC1 hWb1 hO1 o0 o3 o4 k0 k1 hK1 hK2
  have k1 := cell_of hB2 1
  simp only [kobj, List.getElem?_toArray, List.getElem?_cons_zero, List.getElem?_cons_succ] at k1
  have hBs2 := lt_of_heap hB2
  go_wp2_with fail
  refine (laid_ok n l w2 n1000 len).mono ?_
  rintro e w3 ⟨rfl, hC3, hA3, hK3⟩
  have hK3' : Kp [] w w3 := hK2'.trans hK3 (by simp)
  have hB3 := hK3.heap hB2 (by simp)
  have hWb3 := hK3.heap hWb2 (by simp)
  have HS2 : Hid (w.heap.size ≤ w2.heap.size) := hK2'.size
  have HS3 : Hid (w.heap.size ≤ w3.heap.size) := hK3'.size
  have HLA : Hid (w2.heap.size + 1 < w3.heap.size) := lt_of_heap hA3
  clear hB2 hWb2 k1 hK3 hK2'
  go_wp2_with fail
  have h4d : w3.drew.ownsRow base 34 1 (.slice (some ⟨gd, 0, none⟩) ds.length cd) ds.length (ptrs ds) := own_keep H1.out.2.2.2 hK3'.drew (Apart.nil _ _)
  obtain ⟨v5, w5, hr5, hrow5, hgr5⟩ := run_app1 ((w3.drew.alloc (kobj (w2.heap.size + 1) n (.slice pm m cm) (.slice pw k cw) none)).alloc (Obj.cells #[.pointer (some ⟨w3.heap.size, 0, none⟩)] 34)) base (w3.drew.alloc (kobj (w2.heap.size + 1) n (.slice pm m cm) (.slice pw k cw) none)).heap.size (.slice (some ⟨gd, 0, none⟩) ds.length cd) ds.length (ptrs ds) (.pointer (some ⟨w3.heap.size, 0, none⟩)) 30 34 30 (.pointer none) Tryz.underlying30 info34 rfl ((h4d.alloc _).alloc _) (by omega) (heap_new _ _) rfl (by have := HS3.out; simp; omega)
  obtain ⟨g5, c5, rfl⟩ := own_form hrow5
  have hr6 := hr5
  rw [show (w3.drew.alloc (kobj (w2.heap.size + 1) n (.slice pm m cm) (.slice pw k cw) none)).heap.size = w3.heap.size + 1 by simp] at hr6
  have hW5 : w5.heap[Wb]? = some (wobj pk nk ck (some ⟨gd, 0, none⟩) ds.length cd) := by
    have hat := own_at h4d
    refine Kp.heap (S := (Value.slice (some ⟨gd, 0, none⟩) ds.length cd).ownBlock.toList) ((((Kp.refl _ w3.drew).alloc _).alloc _).grown hgr5 (fun k hk => Or.inl (by simp [hk]))) hWb3 (fun hm => ?_)
    obtain ⟨_, c, hc⟩ := hat _ hm
    rw [show w3.drew.heap[Wb]? = w3.heap[Wb]? from rfl, hWb3] at hc
    cases hc
  have HG : Hid (((w3.drew.alloc (kobj (w2.heap.size + 1) n (.slice pm m cm) (.slice pw k cw) none)).alloc (Obj.cells #[.pointer (some ⟨w3.heap.size, 0, none⟩)] 34)).grownBy w5 (Value.slice (some ⟨gd, 0, none⟩) ds.length cd).ownBlock) := hgr5
  have HR : Hid (w5.ownsRow base 34 1 (.slice (some ⟨g5, 0, none⟩) (ds.length + 1) c5) (ds.length + 1) (ptrs ds ++ [.pointer (some ⟨w3.heap.size, 0, none⟩)])) := hrow5
  have HN : Hid (w3.heap[w2.heap.size]? = some (.cells (enc l) 88) ∧ w3.heap[w2.heap.size + 1]? = some (dobj n w2.heap.size (.slice none 0 0) 0 0) ∧ Kp [] w w3) := ⟨hC3, hA3, hK3'⟩
  have HX : Hid (WOk base (T + 2) (w5.setCell ⟨Wb, 1, none⟩ (.slice (some ⟨g5, 0, none⟩) (ds.length + 1) c5)) Wb (ds ++ [⟨w3.heap.size, w2.heap.size + 1, w2.heap.size, n, l, 0, 0, N, pm, m, cm, pw, k, cw, none⟩]) ∧ Below base w (w5.setCell ⟨Wb, 1, none⟩ (.slice (some ⟨g5, 0, none⟩) (ds.length + 1) c5))) := by
    obtain ⟨h1, h2, h3, h4⟩ := H1.out
    have hs2 := HS2.out
    have hs3 := HS3.out
    have hK4 : Kp [] w (w3.drew.alloc (kobj (w2.heap.size + 1) n (.slice pm m cm) (.slice pw k cw) none)) := hK3'.drew.alloc _
    refine HH.out.more h1 h2 h3 h4 hK4 ⟨w3.heap.size, w2.heap.size + 1, w2.heap.size, n, l, 0, 0, N, pm, m, cm, pw, k, cw, none⟩ ?_ hs3 (by show w.heap.size ≤ w2.heap.size + 1; omega) hs2 _ hrow5 hgr5 (Int.le_refl _)
    have hd' := HD.out
    have hk1 := hd'.k1
    refine ⟨by show base ≤ w3.heap.size; omega, by show base ≤ w2.heap.size + 1; omega, by show base ≤ w2.heap.size; omega, heap_new _ _, heap_old _ hA3, heap_old _ hC3, len, n1000, by simp, by show (0 : Int) ≤ 6 * (T + 2); omega, by simp, by show (0 : Int) ≤ 2 * (T + 2); omega, by show (k : Int) ≤ T + 2; simp only at hk1; omega, hd'.may.keep hK4 (Apart.nil _ _), hd'.were.keep hK4 (Apart.nil _ _), ?_⟩
    rcases hd'.st with h | ⟨h1, h2, h3⟩
    · exact .inl h
    · exact .inr ⟨h1, by show N ≤ 2 * (T + 2); simp only at h2; omega, h3⟩
  have u1 := cell_of hWb3 1
  simp only [wobj, List.getElem?_toArray, List.getElem?_cons_zero, List.getElem?_cons_succ] at u1
  have v1 := cell_of hW5 1
  simp only [wobj, List.getElem?_toArray, List.getElem?_cons_zero, List.getElem?_cons_succ] at v1
  have fv1 := frozen_of hW5 1
  have hWs3 := lt_of_heap hWb3
  clear hrow5 hgr5 hW5 h4d hWb3 hC3 hA3 hK3'
  refine wp_region_any (by kernel_rfl) ?_
  change wpAny _ _ _ _ _ _ _ (World.drew _)
  refine wpAny_take (i := 0) (v := .pointer (some ⟨Wb, 0, none⟩)) rfl (by kernel_rfl) (by kernel_rfl) (by kernel_rfl) (fun _ _ _ h => h) (Or.inl ⟨by rfl, fun w => by go_simp⟩) ?_
  simp only [Act.put, List.setIfInBounds_toArray, List.set_cons_zero, List.set_cons_succ, List.getElem_toArray, List.getElem_cons_succ, List.getElem_cons_zero]
  refine wpAny_take (i := 1) (v := .pointer (some ⟨Wb, 0, none⟩)) rfl (by kernel_rfl) (by kernel_rfl) (by kernel_rfl) (fun _ _ _ h => h) (Or.inl ⟨by rfl, fun w => by go_simp⟩) ?_
  simp only [Act.put, List.setIfInBounds_toArray, List.set_cons_zero, List.set_cons_succ, List.getElem_toArray, List.getElem_cons_succ, List.getElem_cons_zero]
  refine wpAny_take (i := 2) (v := .pointer (some ⟨Wb, 0, none⟩)) rfl (by kernel_rfl) (by kernel_rfl) (by kernel_rfl) (fun _ _ _ h => h) (Or.inl ⟨by rfl, fun w => by go_simp⟩) ?_
  simp only [Act.put, List.setIfInBounds_toArray, List.set_cons_zero, List.set_cons_succ, List.getElem_toArray, List.getElem_cons_succ, List.getElem_cons_zero]
  refine wpAny_take (i := 3) (v := .pointer (some ⟨Wb, 1, none⟩)) rfl (by kernel_rfl) (by kernel_rfl) (by kernel_rfl) (fun _ _ _ h => h) (Or.inl ⟨by rfl, fun w => by go_simp⟩) ?_
  simp only [Act.put, List.setIfInBounds_toArray, List.set_cons_zero, List.set_cons_succ, List.getElem_toArray, List.getElem_cons_succ, List.getElem_cons_zero]
  refine wpAny_take (i := 5) (v := .pointer (some ⟨w2.heap.size + 1, 0, none⟩)) rfl (by kernel_rfl) (by kernel_rfl) (by kernel_rfl) (fun _ _ _ h => h) (Or.inl ⟨by rfl, fun w => by go_simp⟩) ?_
  simp only [Act.put, List.setIfInBounds_toArray, List.set_cons_zero, List.set_cons_succ, List.getElem_toArray, List.getElem_cons_succ, List.getElem_cons_zero]
  refine wpAny_take (i := 6) (v := .pointer (some ⟨B, 0, none⟩)) rfl (by kernel_rfl) (by kernel_rfl) (by kernel_rfl) (fun _ _ _ h => h) (Or.inl ⟨by rfl, fun w => by go_simp⟩) ?_
  simp only [Act.put, List.setIfInBounds_toArray, List.set_cons_zero, List.set_cons_succ, List.getElem_toArray, List.getElem_cons_succ, List.getElem_cons_zero]
  refine wpAny_take (i := 7) (v := .pointer (some ⟨B, 0, none⟩)) rfl (by kernel_rfl) (by kernel_rfl) (by kernel_rfl) (fun _ _ _ h => h) (Or.inl ⟨by rfl, fun w => by go_simp⟩) ?_
  simp only [Act.put, List.setIfInBounds_toArray, List.set_cons_zero, List.set_cons_succ, List.getElem_toArray, List.getElem_cons_succ, List.getElem_cons_zero]
  refine wpAny_take (i := 8) (v := .pointer (some ⟨B, 1, none⟩)) rfl (by kernel_rfl) (by kernel_rfl) (by kernel_rfl) (fun _ _ _ h => h) (Or.inl ⟨by rfl, fun w => by go_simp⟩) ?_
  simp only [Act.put, List.setIfInBounds_toArray, List.set_cons_zero, List.set_cons_succ, List.getElem_toArray, List.getElem_cons_succ, List.getElem_cons_zero]
  refine wpAny_ready (rs := [4, 9]) (by kernel_rfl) (by simp) ?_
  refine AllReady.cons rfl (fun K hK => ?_) (AllReady.cons rfl (fun K hK => ?_) AllReady.nil)
  · go_simp
    refine hK _ _ ?_
    clear hK K
    try simp only [Act.put, List.setIfInBounds_toArray, List.set_cons_zero, List.set_cons_succ, List.getElem_toArray, List.getElem_cons_succ, List.getElem_cons_zero]
    refine wpAny_ready (rs := [9]) (by kernel_rfl) (by simp) ?_
    refine AllReady.cons rfl (fun K hK => ?_) AllReady.nil
    refine step_run rfl (exec_loadB (t := 40) rfl (by kernel_rfl) 6 (by kernel_rfl) B 1 rfl (show w3.drew.heap[B]? = _ from hB3) (by simp) (show _ = #[.int .i64 n, .slice pm m cm, .bool false, .slice pw k cw, .bool false, .bool false] from rfl)) ?_
    refine hK _ _ ?_
    clear hK K
    try simp only [Act.put, List.setIfInBounds_toArray, List.set_cons_zero, List.set_cons_succ, List.getElem_toArray, List.getElem_cons_succ, List.getElem_cons_zero]
    refine wpAny_take (i := 10) (v := .agg #[.pointer (some ⟨w2.heap.size + 1, 0, none⟩), .int .i64 n, .slice pm m cm, .bool false, .slice pw k cw, .bool false, .bool false, .pointer none, .slice none 0 0, .int .i64 0, .bool false, .slice none 0 0, .slice none 0 0, .slice none 0 0]) rfl (by kernel_rfl) (by kernel_rfl) (by kernel_rfl) (fun _ _ _ h => h) (Or.inl ⟨by rfl, fun w => by go_simp⟩) ?_
    simp only [Act.put, List.setIfInBounds_toArray, List.set_cons_zero, List.set_cons_succ, List.getElem_toArray, List.getElem_cons_succ, List.getElem_cons_zero]
    refine wpAny_ready (rs := [11]) (by kernel_rfl) (by simp) ?_
    refine AllReady.cons rfl (fun K hK => ?_) AllReady.nil
    refine step_run rfl (exec_boxA rfl #[.pointer (some ⟨w2.heap.size + 1, 0, none⟩), .int .i64 n, .slice pm m cm, .bool false, .slice pw k cw, .bool false, .bool false, .pointer none, .slice none 0 0, .int .i64 0, .bool false, .slice none 0 0, .slice none 0 0, .slice none 0 0] rfl) ?_
    refine hK _ _ ?_
    clear hK K
    try simp only [Act.put, List.setIfInBounds_toArray, List.set_cons_zero, List.set_cons_succ, List.getElem_toArray, List.getElem_cons_succ, List.getElem_cons_zero]
    refine wpAny_ready (rs := [12]) (by kernel_rfl) (by simp) ?_
    refine AllReady.cons rfl (fun K hK => ?_) AllReady.nil
    refine step_run rfl (exec_build1 rfl (.pointer (some ⟨w3.heap.size, 0, none⟩)) _ _ _ Tryz.underlying30 info34 rfl rfl (by decide) (by decide)) ?_
    refine hK _ _ ?_
    clear hK K
    try simp only [Act.put, List.setIfInBounds_toArray, List.set_cons_zero, List.set_cons_succ, List.getElem_toArray, List.getElem_cons_succ, List.getElem_cons_zero]
    refine wpAny_ready (rs := [13]) (by kernel_rfl) (by simp) ?_
    refine AllReady.cons rfl (fun K hK => ?_) AllReady.nil
    refine step_run rfl (exec_appR rfl rfl rfl hr5) ?_
    refine hK _ _ ?_
    clear hK K
    try simp only [Act.put, List.setIfInBounds_toArray, List.set_cons_zero, List.set_cons_succ, List.getElem_toArray, List.getElem_cons_succ, List.getElem_cons_zero]
    refine wpAny_take (i := 14) (v := .pointer (some ⟨Wb, 0, none⟩)) rfl (by kernel_rfl) (by kernel_rfl) (by kernel_rfl) (fun _ _ _ h => h) (Or.inl ⟨by rfl, fun w => by go_simp⟩) ?_
    simp only [Act.put, List.setIfInBounds_toArray, List.set_cons_zero, List.set_cons_succ, List.getElem_toArray, List.getElem_cons_succ, List.getElem_cons_zero]
    refine wpAny_take (i := 15) (v := .pointer (some ⟨Wb, 1, none⟩)) rfl (by kernel_rfl) (by kernel_rfl) (by kernel_rfl) (fun _ _ _ h => h) (Or.inl ⟨by rfl, fun w => by go_simp⟩) ?_
    simp only [Act.put, List.setIfInBounds_toArray, List.set_cons_zero, List.set_cons_succ, List.getElem_toArray, List.getElem_cons_succ, List.getElem_cons_zero]
    refine wpAny_ready (rs := [16]) (by kernel_rfl) (by simp) ?_
    refine AllReady.cons rfl (fun K hK => ?_) AllReady.nil
    go_simp
    refine hK _ _ ?_
    clear hK K
    refine wpAny_done (by kernel_rfl) ?_ _
    go_wp2
    go_ret
    exact ⟨rfl, ⟨_, HX.out.1⟩, HX.out.2⟩
  · refine step_run rfl (exec_loadB (t := 40) rfl (by kernel_rfl) 6 (by kernel_rfl) B 1 rfl (show w3.drew.heap[B]? = _ from hB3) (by simp) (show _ = #[.int .i64 n, .slice pm m cm, .bool false, .slice pw k cw, .bool false, .bool false] from rfl)) ?_
    refine hK _ _ ?_
    clear hK K
    try simp only [Act.put, List.setIfInBounds_toArray, List.set_cons_zero, List.set_cons_succ, List.getElem_toArray, List.getElem_cons_succ, List.getElem_cons_zero]
    refine wpAny_take (i := 10) (v := .agg #[.pointer (some ⟨w2.heap.size + 1, 0, none⟩), .int .i64 n, .slice pm m cm, .bool false, .slice pw k cw, .bool false, .bool false, .pointer none, .slice none 0 0, .int .i64 0, .bool false, .slice none 0 0, .slice none 0 0, .slice none 0 0]) rfl (by kernel_rfl) (by kernel_rfl) (by kernel_rfl) (fun _ _ _ h => h) (Or.inl ⟨by rfl, fun w => by go_simp⟩) ?_
    simp only [Act.put, List.setIfInBounds_toArray, List.set_cons_zero, List.set_cons_succ, List.getElem_toArray, List.getElem_cons_succ, List.getElem_cons_zero]
    refine wpAny_ready (rs := [4, 11]) (by kernel_rfl) (by simp) ?_
    refine AllReady.cons rfl (fun K hK => ?_) (AllReady.cons rfl (fun K hK => ?_) AllReady.nil)
    · go_simp
      refine hK _ _ ?_
      clear hK K
      try simp only [Act.put, List.setIfInBounds_toArray, List.set_cons_zero, List.set_cons_succ, List.getElem_toArray, List.getElem_cons_succ, List.getElem_cons_zero]
      refine wpAny_ready (rs := [11]) (by kernel_rfl) (by simp) ?_
      refine AllReady.cons rfl (fun K hK => ?_) AllReady.nil
      refine step_run rfl (exec_boxA rfl #[.pointer (some ⟨w2.heap.size + 1, 0, none⟩), .int .i64 n, .slice pm m cm, .bool false, .slice pw k cw, .bool false, .bool false, .pointer none, .slice none 0 0, .int .i64 0, .bool false, .slice none 0 0, .slice none 0 0, .slice none 0 0] rfl) ?_
      refine hK _ _ ?_
      clear hK K
      try simp only [Act.put, List.setIfInBounds_toArray, List.set_cons_zero, List.set_cons_succ, List.getElem_toArray, List.getElem_cons_succ, List.getElem_cons_zero]
      refine wpAny_ready (rs := [12]) (by kernel_rfl) (by simp) ?_
      refine AllReady.cons rfl (fun K hK => ?_) AllReady.nil
      refine step_run rfl (exec_build1 rfl (.pointer (some ⟨w3.heap.size, 0, none⟩)) _ _ _ Tryz.underlying30 info34 rfl rfl (by decide) (by decide)) ?_
      refine hK _ _ ?_
      clear hK K
      try simp only [Act.put, List.setIfInBounds_toArray, List.set_cons_zero, List.set_cons_succ, List.getElem_toArray, List.getElem_cons_succ, List.getElem_cons_zero]
      refine wpAny_ready (rs := [13]) (by kernel_rfl) (by simp) ?_
      refine AllReady.cons rfl (fun K hK => ?_) AllReady.nil
      refine step_run rfl (exec_appR rfl rfl rfl hr5) ?_
      refine hK _ _ ?_
      clear hK K
      try simp only [Act.put, List.setIfInBounds_toArray, List.set_cons_zero, List.set_cons_succ, List.getElem_toArray, List.getElem_cons_succ, List.getElem_cons_zero]
      refine wpAny_take (i := 14) (v := .pointer (some ⟨Wb, 0, none⟩)) rfl (by kernel_rfl) (by kernel_rfl) (by kernel_rfl) (fun _ _ _ h => h) (Or.inl ⟨by rfl, fun w => by go_simp⟩) ?_
      simp only [Act.put, List.setIfInBounds_toArray, List.set_cons_zero, List.set_cons_succ, List.getElem_toArray, List.getElem_cons_succ, List.getElem_cons_zero]
      refine wpAny_take (i := 15) (v := .pointer (some ⟨Wb, 1, none⟩)) rfl (by kernel_rfl) (by kernel_rfl) (by kernel_rfl) (fun _ _ _ h => h) (Or.inl ⟨by rfl, fun w => by go_simp⟩) ?_
      simp only [Act.put, List.setIfInBounds_toArray, List.set_cons_zero, List.set_cons_succ, List.getElem_toArray, List.getElem_cons_succ, List.getElem_cons_zero]
      refine wpAny_ready (rs := [16]) (by kernel_rfl) (by simp) ?_
      refine AllReady.cons rfl (fun K hK => ?_) AllReady.nil
      go_simp
      refine hK _ _ ?_
      clear hK K
      refine wpAny_done (by kernel_rfl) ?_ _
      go_wp2
      go_ret
      exact ⟨rfl, ⟨_, HX.out.1⟩, HX.out.2⟩
    · refine step_run rfl (exec_boxA rfl #[.pointer (some ⟨w2.heap.size + 1, 0, none⟩), .int .i64 n, .slice pm m cm, .bool false, .slice pw k cw, .bool false, .bool false, .pointer none, .slice none 0 0, .int .i64 0, .bool false, .slice none 0 0, .slice none 0 0, .slice none 0 0] rfl) ?_
      refine hK _ _ ?_
      clear hK K
      try simp only [Act.put, List.setIfInBounds_toArray, List.set_cons_zero, List.set_cons_succ, List.getElem_toArray, List.getElem_cons_succ, List.getElem_cons_zero]
      refine wpAny_ready (rs := [4, 12]) (by kernel_rfl) (by simp) ?_
      refine AllReady.cons rfl (fun K hK => ?_) (AllReady.cons rfl (fun K hK => ?_) AllReady.nil)
      · go_simp
        refine hK _ _ ?_
        clear hK K
        try simp only [Act.put, List.setIfInBounds_toArray, List.set_cons_zero, List.set_cons_succ, List.getElem_toArray, List.getElem_cons_succ, List.getElem_cons_zero]
        refine wpAny_ready (rs := [12]) (by kernel_rfl) (by simp) ?_
        refine AllReady.cons rfl (fun K hK => ?_) AllReady.nil
        refine step_run rfl (exec_build1 rfl (.pointer (some ⟨w3.heap.size, 0, none⟩)) _ _ _ Tryz.underlying30 info34 rfl rfl (by decide) (by decide)) ?_
        refine hK _ _ ?_
        clear hK K
        try simp only [Act.put, List.setIfInBounds_toArray, List.set_cons_zero, List.set_cons_succ, List.getElem_toArray, List.getElem_cons_succ, List.getElem_cons_zero]
        refine wpAny_ready (rs := [13]) (by kernel_rfl) (by simp) ?_
        refine AllReady.cons rfl (fun K hK => ?_) AllReady.nil
        refine step_run rfl (exec_appR rfl rfl rfl hr5) ?_
        refine hK _ _ ?_
        clear hK K
        try simp only [Act.put, List.setIfInBounds_toArray, List.set_cons_zero, List.set_cons_succ, List.getElem_toArray, List.getElem_cons_succ, List.getElem_cons_zero]
        refine wpAny_take (i := 14) (v := .pointer (some ⟨Wb, 0, none⟩)) rfl (by kernel_rfl) (by kernel_rfl) (by kernel_rfl) (fun _ _ _ h => h) (Or.inl ⟨by rfl, fun w => by go_simp⟩) ?_
        simp only [Act.put, List.setIfInBounds_toArray, List.set_cons_zero, List.set_cons_succ, List.getElem_toArray, List.getElem_cons_succ, List.getElem_cons_zero]
        refine wpAny_take (i := 15) (v := .pointer (some ⟨Wb, 1, none⟩)) rfl (by kernel_rfl) (by kernel_rfl) (by kernel_rfl) (fun _ _ _ h => h) (Or.inl ⟨by rfl, fun w => by go_simp⟩) ?_
        simp only [Act.put, List.setIfInBounds_toArray, List.set_cons_zero, List.set_cons_succ, List.getElem_toArray, List.getElem_cons_succ, List.getElem_cons_zero]
        refine wpAny_ready (rs := [16]) (by kernel_rfl) (by simp) ?_
        refine AllReady.cons rfl (fun K hK => ?_) AllReady.nil
        go_simp
        refine hK _ _ ?_
        clear hK K
        refine wpAny_done (by kernel_rfl) ?_ _
        go_wp2
        go_ret
        exact ⟨rfl, ⟨_, HX.out.1⟩, HX.out.2⟩
      · refine step_run rfl (exec_build1 rfl (.pointer (some ⟨w3.heap.size, 0, none⟩)) _ _ _ Tryz.underlying30 info34 rfl rfl (by decide) (by decide)) ?_
        refine hK _ _ ?_
        clear hK K
        try simp only [Act.put, List.setIfInBounds_toArray, List.set_cons_zero, List.set_cons_succ, List.getElem_toArray, List.getElem_cons_succ, List.getElem_cons_zero]
        refine wpAny_ready (rs := [4]) (by kernel_rfl) (by simp) ?_
        refine AllReady.cons rfl (fun K hK => ?_) AllReady.nil
        go_simp
        refine hK _ _ ?_
        clear hK K
        try simp only [Act.put, List.setIfInBounds_toArray, List.set_cons_zero, List.set_cons_succ, List.getElem_toArray, List.getElem_cons_succ, List.getElem_cons_zero]
        refine wpAny_ready (rs := [13]) (by kernel_rfl) (by simp) ?_
        refine AllReady.cons rfl (fun K hK => ?_) AllReady.nil
        refine step_run rfl (exec_appR rfl rfl rfl hr6) ?_
        refine hK _ _ ?_
        clear hK K
        try simp only [Act.put, List.setIfInBounds_toArray, List.set_cons_zero, List.set_cons_succ, List.getElem_toArray, List.getElem_cons_succ, List.getElem_cons_zero]
        refine wpAny_take (i := 14) (v := .pointer (some ⟨Wb, 0, none⟩)) rfl (by kernel_rfl) (by kernel_rfl) (by kernel_rfl) (fun _ _ _ h => h) (Or.inl ⟨by rfl, fun w => by go_simp⟩) ?_
        simp only [Act.put, List.setIfInBounds_toArray, List.set_cons_zero, List.set_cons_succ, List.getElem_toArray, List.getElem_cons_succ, List.getElem_cons_zero]
        refine wpAny_take (i := 15) (v := .pointer (some ⟨Wb, 1, none⟩)) rfl (by kernel_rfl) (by kernel_rfl) (by kernel_rfl) (fun _ _ _ h => h) (Or.inl ⟨by rfl, fun w => by go_simp⟩) ?_
        simp only [Act.put, List.setIfInBounds_toArray, List.set_cons_zero, List.set_cons_succ, List.getElem_toArray, List.getElem_cons_succ, List.getElem_cons_zero]
        refine wpAny_ready (rs := [16]) (by kernel_rfl) (by simp) ?_
        refine AllReady.cons rfl (fun K hK => ?_) AllReady.nil
        go_simp
        refine hK _ _ ?_
        clear hK K
        refine wpAny_done (by kernel_rfl) ?_ _
        go_wp2
        go_ret
        exact ⟨rfl, ⟨_, HX.out.1⟩, HX.out.2⟩
end Go.Proofs.YtilapcegpjjlfaaGreatDoor
