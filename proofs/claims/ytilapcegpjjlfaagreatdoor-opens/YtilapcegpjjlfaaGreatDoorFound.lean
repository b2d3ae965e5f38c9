import Derived.Test.YtilapcegpjjlfaaGreatDoorStep
namespace Go.Proofs.YtilapcegpjjlfaaGreatDoor
set_option linter.unusedSimpArgs false
set_option linter.unusedVariables false
open Go.RowKit

set_option maxHeartbeats 4000000 in
set_option maxRecDepth 10000 in
theorem found_ok (base : Nat) (T : Int) (w : World) (g : DG) (h : DOk base T w g) (Db St V : Nat) (N room : Int) (hD : w.heap[Db]? = some (.cells #[.pointer (some ⟨St, 0, none⟩)] 106)) (hSt : w.heap[St]? = some (sobj V N room 0)) (hT0 : 0 ≤ T) (hT1 : T ≤ 50000) (hf : Formatted g.l g.N) (hbs : base ≤ w.heap.size) :
    Calls Tryz.prog 35 #[.pointer (some ⟨g.B, 0, none⟩), .pointer (some ⟨Db, 0, none⟩)] w fun e w' => e = .returned (.bool true) ∧ (∃ g', DOk base (T + 1) w' g' ∧ g'.B = g.B ∧ g'.A = g.A ∧ g'.C = g.C) ∧ Kp [g.B, St] w w' := by
  obtain ⟨B, A, C, n, l, calls, writes, N', pm, m, cm, pw, k, cw, x⟩ := g
  obtain ⟨bB, bA, bC, hB, hA, hC, len, n1000, calls0, calls1, writes0, writes1, kT, may, were, st⟩ := h
  simp only at *
  have HBA : Hid (B ≠ A) := cells_ne hB hA (by decide)
  have HBC : Hid (B ≠ C) := cells_ne hB hC (by decide)
  have HSB : Hid (St ≠ B) := cells_ne hSt hB (by decide)
  have HSA : Hid (St ≠ A) := cells_ne hSt hA (by decide)
  have HSC : Hid (St ≠ C) := cells_ne hSt hC (by decide)
  have HSD : Hid (St ≠ Db) := cells_ne hSt hD (by decide)
  have hst : N' ≤ 2 * T ∧ m = 1 ∧ cm = 1 ∧ ∃ gm, pm = some ⟨gm, 0, none⟩ := by
    rcases st with ⟨_, _, h2⟩ | ⟨_, h⟩
    · have := hf.low; omega
    · exact h
  obtain ⟨hN', rfl, rfl, gm, rfl⟩ := hst
  have HF : Hid (Formatted l N') := hf
  clear st hf
  have hBs := lt_of_heap hB
  have k0 := cell_of hB 0
  simp only [kobj, List.getElem?_toArray, List.getElem?_cons_zero, List.getElem?_cons_succ] at k0
  go_enter Tryz.func35, Tryz.ntmps35
  go_wp2_with fail
  refine (told_ok A n C _ calls writes w hA).mono ?_
  rintro e w ⟨rfl, rfl⟩
  go_wp2_with fail
  refine (begin_ok Db St V N room _ hD hSt HSD.out).mono ?_
  rintro e w1 ⟨t, rfl, ht, ht1, hSt1, hK1⟩
  have hB1 := hK1.heap hB (by simp; exact fun e => HSB.out e.symm)
  have hA1 := hK1.heap hA (by simp; exact fun e => HSA.out e.symm)
  have hC1 := hK1.heap hC (by simp; exact fun e => HSC.out e.symm)
  have hap0 : Apart w [St] 44 := fun k hk => by rw [List.mem_singleton.1 hk]; exact ⟨_, _, _, hSt, by decide⟩
  have may1 := may.keep hK1 hap0
  have were1 := were.keep hK1 hap0
  have HTS : Hid (t ≠ St) := by have := lt_of_heap hSt; show t ≠ St; omega
  have HTW : Hid (w.heap.size ≤ t) := ht
  clear ht
  clear hB hA hC may were hSt hD k0 hap0
  go_wp2_with (go_at_call 29; refine (told_nil _).mono ?_; rintro e w1 ⟨rfl, rfl⟩)
  go_wp2_with (go_at_call 30; refine (num_ok _ _).mono ?_; rintro e w1 ⟨rfl, rfl⟩)
  refine (scan_ok t St V N room 1 _ _ w1 ht1 hSt1 HTS.out).mono ?_
  rintro e w2 ⟨rfl, hSt2, hK2⟩
  have hB2 := hK2.heap hB1 (by simp; exact fun e => HSB.out e.symm)
  have hA2 := hK2.heap hA1 (by simp; exact fun e => HSA.out e.symm)
  have hC2 := hK2.heap hC1 (by simp; exact fun e => HSC.out e.symm)
  have ht2 := hK2.heap ht1 (by simp; exact HTS.out)
  have hap1 : Apart w1 [St] 44 := fun k hk => by rw [List.mem_singleton.1 hk]; exact ⟨_, _, _, hSt1, by decide⟩
  have may2 := may1.keep hK2 hap1
  have were2 := were1.keep hK2 hap1
  have hK2' : Kp [St] w w2 := hK1.trans hK2 (by simp)
  clear hB1 hA1 hC1 may1 were1 hSt1 hap1 hK1 hK2 ht1
  go_wp2_with (go_at_call 29; refine (told_nil _).mono ?_; rintro e w2 ⟨rfl, rfl⟩)
  go_wp2_with (go_at_call 30; refine (num_ok _ _).mono ?_; rintro e w2 ⟨rfl, rfl⟩)
  refine (abort_ok t St V N room w2 ht2 hSt2 HTS.out).mono ?_
  rintro e w3 ⟨rfl, hK3⟩
  have HTB : Hid (B ≠ t) := cells_ne hB2 ht2 (by decide)
  have HTA : Hid (A ≠ t) := cells_ne hA2 ht2 (by decide)
  have HTC : Hid (C ≠ t) := cells_ne hC2 ht2 (by decide)
  have hB3 := hK3.heap hB2 (by simp; exact ⟨fun e => HSB.out e.symm, HTB.out⟩)
  have hA3 := hK3.heap hA2 (by simp; exact ⟨fun e => HSA.out e.symm, HTA.out⟩)
  have hC3 := hK3.heap hC2 (by simp; exact ⟨fun e => HSC.out e.symm, HTC.out⟩)
  have hap2 : Apart w2 [St, t] 44 := fun k hk => by
    simp only [List.mem_cons, List.not_mem_nil, or_false] at hk
    rcases hk with rfl | rfl
    · exact ⟨_, _, _, hSt2, by decide⟩
    · exact ⟨_, _, _, ht2, by decide⟩
  have may3 := may2.keep hK3 hap2
  have were3 := were2.keep hK3 hap2
  have hK3' : Kp [B, St] w w3 := (hK2'.mono (S' := [B, St]) (by simp +contextual)).trans hK3 (by intro i hi hlt; have := HTW.out; simp at hi; simp; omega)
  clear hB2 hA2 hC2 may2 were2 hSt2 hap2 hK2' hK3 ht2
  have k0 := cell_of hB3 0
  have k1 := cell_of hB3 1
  have k2 := cell_of hB3 2
  have k3 := cell_of hB3 3
  have k4 := cell_of hB3 4
  have k5 := cell_of hB3 5
  have k6 := cell_of hB3 6
  simp only [kobj, List.getElem?_toArray, List.getElem?_cons_zero, List.getElem?_cons_succ] at k0 k1 k2 k3 k4 k5 k6
  go_wp2_with fail
  refine (pairs_nil _).mono ?_
  rintro e w3 ⟨rfl, rfl⟩
  go_wp2_with fail
  refine (has_ok base gm _ _ _ _ _ w3 may3).mono ?_
  rintro e w4 ⟨rfl, hK4⟩
  have hB4 := hK4.heap hB3 (by simp)
  have hA4 := hK4.heap hA3 (by simp)
  have hC4 := hK4.heap hC3 (by simp)
  have may4 := may3.keep hK4 (by intro k h; simp at h)
  have were4 := were3.keep hK4 (by intro k h; simp at h)
  have hK4' : Kp [B, St] w w4 := hK3'.trans hK4 (by simp)
  clear hB3 hA3 hC3 may3 were3 hK3' hK4 k0 k1 k2 k3 k4 k5 k6
  have k0 := cell_of hB4 0
  have k1 := cell_of hB4 1
  have k2 := cell_of hB4 2
  have k3 := cell_of hB4 3
  have k4 := cell_of hB4 4
  have k5 := cell_of hB4 5
  have k6 := cell_of hB4 6
  have k8 := cell_of hB4 8
  simp only [kobj, List.getElem?_toArray, List.getElem?_cons_zero, List.getElem?_cons_succ] at k0 k1 k2 k3 k4 k5 k6 k8
  have f8 := frozen_of hB4 8
  go_wp2_with fail
  obtain ⟨w5, hw5, hB5, hK5⟩ : ∃ w5, w5 = w4.setCell ⟨B, 8, none⟩ (.slice none 0 0) ∧ w5.heap[B]? = some (kobj A n (.slice (some ⟨gm, 0, none⟩) 1 1) (.slice pw k cw) x) ∧ Kp [B] w4 w5 := ⟨_, rfl, heap_set hB4 8 _, (Kp.refl _ _).setCell (by simp) _⟩
  rw [← hw5]
  clear hw5
  have hA5 := hK5.heap hA4 (by simp; exact fun e => HBA.out e.symm)
  have hC5 := hK5.heap hC4 (by simp; exact fun e => HBC.out e.symm)
  have hap4 : Apart w4 [B] 44 := fun k hk => by rw [List.mem_singleton.1 hk]; exact ⟨_, _, _, hB4, by decide⟩
  have may5 := may4.keep hK5 hap4
  have were5 := were4.keep hK5 hap4
  have hK5' : Kp [B, St] w w5 := hK4'.trans hK5 (by simp +contextual)
  clear hB4 hA4 hC4 may4 were4 hK4' hK5 k0 k1 k2 k3 k4 k5 k6 k8 f8 hap4
  refine wp_region_any (by kernel_rfl) ?_
  change wpAny _ _ _ _ _ _ _ (World.drew _)
  refine wpAny_take (i := 0) (v := .pointer (some ⟨B, 0, none⟩)) rfl (by kernel_rfl) (by kernel_rfl) (by kernel_rfl) (fun _ _ _ h => h) (Or.inl ⟨by rfl, fun w => by go_simp⟩) ?_
  simp only [Act.put, List.setIfInBounds_toArray, List.set_cons_zero, List.set_cons_succ, List.getElem_toArray, List.getElem_cons_succ, List.getElem_cons_zero]
  refine wpAny_take (i := 1) (v := .pointer (some ⟨B, 0, none⟩)) rfl (by kernel_rfl) (by kernel_rfl) (by kernel_rfl) (fun _ _ _ h => h) (Or.inl ⟨by rfl, fun w => by go_simp⟩) ?_
  simp only [Act.put, List.setIfInBounds_toArray, List.set_cons_zero, List.set_cons_succ, List.getElem_toArray, List.getElem_cons_succ, List.getElem_cons_zero]
  refine wpAny_take (i := 2) (v := .pointer (some ⟨B, 0, none⟩)) rfl (by kernel_rfl) (by kernel_rfl) (by kernel_rfl) (fun _ _ _ h => h) (Or.inl ⟨by rfl, fun w => by go_simp⟩) ?_
  simp only [Act.put, List.setIfInBounds_toArray, List.set_cons_zero, List.set_cons_succ, List.getElem_toArray, List.getElem_cons_succ, List.getElem_cons_zero]
  refine wpAny_take (i := 3) (v := .pointer (some ⟨B, 1, none⟩)) rfl (by kernel_rfl) (by kernel_rfl) (by kernel_rfl) (fun _ _ _ h => h) (Or.inl ⟨by rfl, fun w => by go_simp⟩) ?_
  simp only [Act.put, List.setIfInBounds_toArray, List.set_cons_zero, List.set_cons_succ, List.getElem_toArray, List.getElem_cons_succ, List.getElem_cons_zero]
  refine wpAny_take (i := 5) (v := .pointer (some ⟨B, 0, none⟩)) rfl (by kernel_rfl) (by kernel_rfl) (by kernel_rfl) (fun _ _ _ h => h) (Or.inl ⟨by rfl, fun w => by go_simp⟩) ?_
  simp only [Act.put, List.setIfInBounds_toArray, List.set_cons_zero, List.set_cons_succ, List.getElem_toArray, List.getElem_cons_succ, List.getElem_cons_zero]
  refine wpAny_take (i := 6) (v := .pointer (some ⟨B, 0, none⟩)) rfl (by kernel_rfl) (by kernel_rfl) (by kernel_rfl) (fun _ _ _ h => h) (Or.inl ⟨by rfl, fun w => by go_simp⟩) ?_
  simp only [Act.put, List.setIfInBounds_toArray, List.set_cons_zero, List.set_cons_succ, List.getElem_toArray, List.getElem_cons_succ, List.getElem_cons_zero]
  refine wpAny_take (i := 7) (v := .pointer (some ⟨B, 8, none⟩)) rfl (by kernel_rfl) (by kernel_rfl) (by kernel_rfl) (fun _ _ _ h => h) (Or.inl ⟨by rfl, fun w => by go_simp⟩) ?_
  simp only [Act.put, List.setIfInBounds_toArray, List.set_cons_zero, List.set_cons_succ, List.getElem_toArray, List.getElem_cons_succ, List.getElem_cons_zero]
  refine wpAny_ready (rs := [4, 8]) (by kernel_rfl) (by simp) ?_
  refine AllReady.cons rfl (fun K hK => ?_) (AllReady.cons rfl (fun K hK => ?_) AllReady.nil)
  · refine step_run rfl (exec_loadB (t := 40) rfl (by kernel_rfl) 6 (by kernel_rfl) B 1 rfl (show w5.drew.heap[B]? = _ from hB5) (by simp) (show _ = #[.int .i64 n, .slice (some ⟨gm, 0, none⟩) 1 1, .bool false, .slice pw k cw, .bool false, .bool false] from rfl)) ?_
    refine hK _ _ ?_
    clear hK K
    try simp only [Act.put, List.setIfInBounds_toArray, List.set_cons_zero, List.set_cons_succ, List.getElem_toArray, List.getElem_cons_succ, List.getElem_cons_zero]
    refine wpAny_ready (rs := [8]) (by kernel_rfl) (by simp) ?_
    refine AllReady.cons rfl (fun K hK => ?_) AllReady.nil
    refine step_run rfl (exec_loadB (t := 44) rfl (by kernel_rfl) 1 (by kernel_rfl) B 8 rfl (show w5.drew.heap[B]? = _ from hB5) (by simp) (show _ = #[.slice none 0 0] from rfl)) ?_
    refine hK _ _ ?_
    clear hK K
    try simp only [Act.put, List.setIfInBounds_toArray, List.set_cons_zero, List.set_cons_succ, List.getElem_toArray, List.getElem_cons_succ, List.getElem_cons_zero]
    refine wpAny_ready (rs := [9]) (by kernel_rfl) (by simp) ?_
    refine AllReady.cons rfl (fun K hK => ?_) AllReady.nil
    go_simp
    refine (only_ok base 1 1 k cw _ pw n _ _ _ w5.drew may5 were5 (by omega) (by omega)).mono ?_
    rintro e w6 ⟨gm', gw, cw', rfl, may6, were6, hK6⟩
    have hB6 := hK6.heap (k := B) hB5 (by simp)
    have hA6 := hK6.heap (k := A) hA5 (by simp)
    have hC6 := hK6.heap (k := C) hC5 (by simp)
    have hK6' : Kp [B, St] w w6 := (hK5'.drew).trans hK6 (by simp)
    have HS5 : Hid (w.heap.size ≤ w5.heap.size) := hK5'.size
    clear hB5 hA5 hC5 may5 were5 hK5' hK6
    refine hK _ _ ?_
    clear hK K
    try simp only [Act.put, List.setIfInBounds_toArray, List.set_cons_zero, List.set_cons_succ, List.getElem_toArray, List.getElem_cons_succ, List.getElem_cons_zero]
    refine wpAny_take (i := 10) (v := .pointer (some ⟨B, 0, none⟩)) rfl (by kernel_rfl) (by kernel_rfl) (by kernel_rfl) (fun _ _ _ h => h) (Or.inl ⟨by rfl, fun w => by go_simp⟩) ?_
    simp only [Act.put, List.setIfInBounds_toArray, List.set_cons_zero, List.set_cons_succ, List.getElem_toArray, List.getElem_cons_succ, List.getElem_cons_zero]
    refine wpAny_take (i := 11) (v := .pointer (some ⟨B, 1, none⟩)) rfl (by kernel_rfl) (by kernel_rfl) (by kernel_rfl) (fun _ _ _ h => h) (Or.inl ⟨by rfl, fun w => by go_simp⟩) ?_
    simp only [Act.put, List.setIfInBounds_toArray, List.set_cons_zero, List.set_cons_succ, List.getElem_toArray, List.getElem_cons_succ, List.getElem_cons_zero]
    have k1 := cell_of hB6 1
    have k2 := cell_of hB6 2
    have k3 := cell_of hB6 3
    have k4 := cell_of hB6 4
    have k5 := cell_of hB6 5
    have k6 := cell_of hB6 6
    simp only [kobj, List.getElem?_toArray, List.getElem?_cons_zero, List.getElem?_cons_succ] at k1 k2 k3 k4 k5 k6
    have f1 := frozen_of hB6 1
    have f2 := frozen_of hB6 2
    have f3 := frozen_of hB6 3
    have f4 := frozen_of hB6 4
    have f5 := frozen_of hB6 5
    have f6 := frozen_of hB6 6
    refine wpAny_ready (rs := [12]) (by kernel_rfl) (by simp) ?_
    refine AllReady.cons rfl (fun K hK => ?_) AllReady.nil
    go_simp
    refine hK _ _ ?_
    clear hK K
    refine wpAny_done (by kernel_rfl) ?_ _
    obtain ⟨w7, hw7, hB7, hK7⟩ : ∃ w7, w7 = ((((((w6.setCell ⟨B, 1, none⟩ (.int .i64 n)).setCell ⟨B, 2, none⟩ (.slice (some ⟨gm', 0, none⟩) 1 1)).setCell ⟨B, 3, none⟩ (.bool false)).setCell ⟨B, 4, none⟩ (.slice (some ⟨gw, 0, none⟩) (k + 1) cw')).setCell ⟨B, 5, none⟩ (.bool false)).setCell ⟨B, 6, none⟩ (.bool false)) ∧ w7.heap[B]? = some (kobj A n (.slice (some ⟨gm', 0, none⟩) 1 1) (.slice (some ⟨gw, 0, none⟩) (k + 1) cw') x) ∧ Kp [B] w6 w7 :=
      ⟨_, rfl, (heap_set (heap_set (heap_set (heap_set (heap_set (heap_set hB6 1 _) 2 _) 3 _) 4 _) 5 _) 6 _), (((((((Kp.refl [B] w6).setCell (by simp) _).setCell (by simp) _).setCell (by simp) _).setCell (by simp) _).setCell (by simp) _).setCell (by simp) _)⟩
    rw [← hw7]
    clear hw7 k1 k2 k3 k4 k5 k6 f1 f2 f3 f4 f5 f6
    have k7 := cell_of hB7 7
    have k9 := cell_of hB7 9
    simp only [kobj, List.getElem?_toArray, List.getElem?_cons_zero, List.getElem?_cons_succ] at k7 k9
    have f7 := frozen_of hB7 7
    have f9 := frozen_of hB7 9
    go_wp2
    go_ret
    have hK8 : Kp [B] w6 ((w7.setCell ⟨B, 7, none⟩ (.pointer (some ⟨Db, 0, none⟩))).setCell ⟨B, 9, none⟩ (.int .i64 0)) := (hK7.setCell (by simp) _).setCell (by simp) _
    have hap6 : Apart w6 [B] 44 := fun k hk => by rw [List.mem_singleton.1 hk]; exact ⟨_, _, _, hB6, by decide⟩
    have hs5 := HS5.out
    refine ⟨rfl, ⟨⟨B, A, C, n, l, calls, writes, N', some ⟨gm', 0, none⟩, 1, 1, some ⟨gw, 0, none⟩, k + 1, cw', some ⟨Db, 0, none⟩⟩, ?_, rfl, rfl, rfl⟩, hK6'.trans hK8 (by simp +contextual)⟩
    have hb6 : base ≤ w5.drew.heap.size := by show base ≤ w5.heap.size; omega
    exact ⟨bB, bA, bC, heap_set (heap_set hB7 7 _) 9 _, hK8.heap hA6 (by simp; exact fun e => HBA.out e.symm), hK8.heap hC6 (by simp; exact fun e => HBC.out e.symm), len, n1000, calls0, by show calls ≤ 6 * (T + 1); omega, writes0, by show writes ≤ 2 * (T + 1); omega, by show ((k + 1 : Nat) : Int) ≤ T + 1; omega, (may6.le hb6).keep hK8 hap6, (were6.le hb6).keep hK8 hap6, .inr ⟨HF.out, by show N' ≤ 2 * (T + 1); omega, rfl, rfl, gm', rfl⟩⟩
  · refine step_run rfl (exec_loadB (t := 44) rfl (by kernel_rfl) 1 (by kernel_rfl) B 8 rfl (show w5.drew.heap[B]? = _ from hB5) (by simp) (show _ = #[.slice none 0 0] from rfl)) ?_
    refine hK _ _ ?_
    clear hK K
    try simp only [Act.put, List.setIfInBounds_toArray, List.set_cons_zero, List.set_cons_succ, List.getElem_toArray, List.getElem_cons_succ, List.getElem_cons_zero]
    refine wpAny_ready (rs := [4]) (by kernel_rfl) (by simp) ?_
    refine AllReady.cons rfl (fun K hK => ?_) AllReady.nil
    refine step_run rfl (exec_loadB (t := 40) rfl (by kernel_rfl) 6 (by kernel_rfl) B 1 rfl (show w5.drew.heap[B]? = _ from hB5) (by simp) (show _ = #[.int .i64 n, .slice (some ⟨gm, 0, none⟩) 1 1, .bool false, .slice pw k cw, .bool false, .bool false] from rfl)) ?_
    refine hK _ _ ?_
    clear hK K
    try simp only [Act.put, List.setIfInBounds_toArray, List.set_cons_zero, List.set_cons_succ, List.getElem_toArray, List.getElem_cons_succ, List.getElem_cons_zero]
    refine wpAny_ready (rs := [9]) (by kernel_rfl) (by simp) ?_
    refine AllReady.cons rfl (fun K hK => ?_) AllReady.nil
    go_simp
    refine (only_ok base 1 1 k cw _ pw n _ _ _ w5.drew may5 were5 (by omega) (by omega)).mono ?_
    rintro e w6 ⟨gm', gw, cw', rfl, may6, were6, hK6⟩
    have hB6 := hK6.heap (k := B) hB5 (by simp)
    have hA6 := hK6.heap (k := A) hA5 (by simp)
    have hC6 := hK6.heap (k := C) hC5 (by simp)
    have hK6' : Kp [B, St] w w6 := (hK5'.drew).trans hK6 (by simp)
    have HS5 : Hid (w.heap.size ≤ w5.heap.size) := hK5'.size
    clear hB5 hA5 hC5 may5 were5 hK5' hK6
    refine hK _ _ ?_
    clear hK K
    try simp only [Act.put, List.setIfInBounds_toArray, List.set_cons_zero, List.set_cons_succ, List.getElem_toArray, List.getElem_cons_succ, List.getElem_cons_zero]
    refine wpAny_take (i := 10) (v := .pointer (some ⟨B, 0, none⟩)) rfl (by kernel_rfl) (by kernel_rfl) (by kernel_rfl) (fun _ _ _ h => h) (Or.inl ⟨by rfl, fun w => by go_simp⟩) ?_
    simp only [Act.put, List.setIfInBounds_toArray, List.set_cons_zero, List.set_cons_succ, List.getElem_toArray, List.getElem_cons_succ, List.getElem_cons_zero]
    refine wpAny_take (i := 11) (v := .pointer (some ⟨B, 1, none⟩)) rfl (by kernel_rfl) (by kernel_rfl) (by kernel_rfl) (fun _ _ _ h => h) (Or.inl ⟨by rfl, fun w => by go_simp⟩) ?_
    simp only [Act.put, List.setIfInBounds_toArray, List.set_cons_zero, List.set_cons_succ, List.getElem_toArray, List.getElem_cons_succ, List.getElem_cons_zero]
    have k1 := cell_of hB6 1
    have k2 := cell_of hB6 2
    have k3 := cell_of hB6 3
    have k4 := cell_of hB6 4
    have k5 := cell_of hB6 5
    have k6 := cell_of hB6 6
    simp only [kobj, List.getElem?_toArray, List.getElem?_cons_zero, List.getElem?_cons_succ] at k1 k2 k3 k4 k5 k6
    have f1 := frozen_of hB6 1
    have f2 := frozen_of hB6 2
    have f3 := frozen_of hB6 3
    have f4 := frozen_of hB6 4
    have f5 := frozen_of hB6 5
    have f6 := frozen_of hB6 6
    refine wpAny_ready (rs := [12]) (by kernel_rfl) (by simp) ?_
    refine AllReady.cons rfl (fun K hK => ?_) AllReady.nil
    go_simp
    refine hK _ _ ?_
    clear hK K
    refine wpAny_done (by kernel_rfl) ?_ _
    obtain ⟨w7, hw7, hB7, hK7⟩ : ∃ w7, w7 = ((((((w6.setCell ⟨B, 1, none⟩ (.int .i64 n)).setCell ⟨B, 2, none⟩ (.slice (some ⟨gm', 0, none⟩) 1 1)).setCell ⟨B, 3, none⟩ (.bool false)).setCell ⟨B, 4, none⟩ (.slice (some ⟨gw, 0, none⟩) (k + 1) cw')).setCell ⟨B, 5, none⟩ (.bool false)).setCell ⟨B, 6, none⟩ (.bool false)) ∧ w7.heap[B]? = some (kobj A n (.slice (some ⟨gm', 0, none⟩) 1 1) (.slice (some ⟨gw, 0, none⟩) (k + 1) cw') x) ∧ Kp [B] w6 w7 :=
      ⟨_, rfl, (heap_set (heap_set (heap_set (heap_set (heap_set (heap_set hB6 1 _) 2 _) 3 _) 4 _) 5 _) 6 _), (((((((Kp.refl [B] w6).setCell (by simp) _).setCell (by simp) _).setCell (by simp) _).setCell (by simp) _).setCell (by simp) _).setCell (by simp) _)⟩
    rw [← hw7]
    clear hw7 k1 k2 k3 k4 k5 k6 f1 f2 f3 f4 f5 f6
    have k7 := cell_of hB7 7
    have k9 := cell_of hB7 9
    simp only [kobj, List.getElem?_toArray, List.getElem?_cons_zero, List.getElem?_cons_succ] at k7 k9
    have f7 := frozen_of hB7 7
    have f9 := frozen_of hB7 9
    go_wp2
    go_ret
    have hK8 : Kp [B] w6 ((w7.setCell ⟨B, 7, none⟩ (.pointer (some ⟨Db, 0, none⟩))).setCell ⟨B, 9, none⟩ (.int .i64 0)) := (hK7.setCell (by simp) _).setCell (by simp) _
    have hap6 : Apart w6 [B] 44 := fun k hk => by rw [List.mem_singleton.1 hk]; exact ⟨_, _, _, hB6, by decide⟩
    have hs5 := HS5.out
    refine ⟨rfl, ⟨⟨B, A, C, n, l, calls, writes, N', some ⟨gm', 0, none⟩, 1, 1, some ⟨gw, 0, none⟩, k + 1, cw', some ⟨Db, 0, none⟩⟩, ?_, rfl, rfl, rfl⟩, hK6'.trans hK8 (by simp +contextual)⟩
    have hb6 : base ≤ w5.drew.heap.size := by show base ≤ w5.heap.size; omega
    exact ⟨bB, bA, bC, heap_set (heap_set hB7 7 _) 9 _, hK8.heap hA6 (by simp; exact fun e => HBA.out e.symm), hK8.heap hC6 (by simp; exact fun e => HBC.out e.symm), len, n1000, calls0, by show calls ≤ 6 * (T + 1); omega, writes0, by show writes ≤ 2 * (T + 1); omega, by show ((k + 1 : Nat) : Int) ≤ T + 1; omega, (may6.le hb6).keep hK8 hap6, (were6.le hb6).keep hK8 hap6, .inr ⟨HF.out, by show N' ≤ 2 * (T + 1); omega, rfl, rfl, gm', rfl⟩⟩
end Go.Proofs.YtilapcegpjjlfaaGreatDoor
