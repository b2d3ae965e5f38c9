import Derived.Test.YtilapcegpjjlfaaGreatDoorOwner2
namespace Go.Proofs.YtilapcegpjjlfaaGreatDoor
set_option linter.unusedSimpArgs false
set_option linter.unusedVariables false
open Go.RowKit

theorem exec_appR {P : Program} {a : Act} {w w' : World} {o : Oper} {s x : Operand} {t : TypeId} {vs vx v' : Value} (ho : o.op = .call { callee := .builtin .append, args := #[s, x], argTypes := #[t, t] }) (hs : a.eval s = vs) (hx : a.eval x = vx) (hr : Sem.run P (Builtin.append_ #[t, t] o.type #[vs, vx]) w = .ok v' w') : Sem.run P (execOp a.eval o) w = .ok (.value v') w' := by
  unfold execOp
  simp only [ho, resolve, invoke, builtin, Sem.run_bind, Sem.run_pure, Result.andThen_ok, List.map_toArray, List.map_cons, List.map_nil, hs, hx, hr]

/-- The list of what survives has grown. -/
theorem WOk.grew {base : Nat} {T T' : Int} {w w4 w5 : World} {Wb : Nat} {ds : List DG} (h : WOk base T w Wb ds) {pk : Option Addr} {nk ck : Nat} {xs ys : List Value} {pd : Option Addr} {cd : Nat} (h1 : w.heap[Wb]? = some (wobj pk nk ck pd ds.length cd)) (h2 : w.ownsRow base 3 1 (.slice pk nk ck) nk xs) (h3 : (nk : Int) ≤ T) (h4 : w.ownsRow base 34 1 (.slice pd ds.length cd) ds.length (ptrs ds))
    (hK4 : Kp [] w w4) (o : Obj) {g5 c5 : Nat} (hrow5 : w5.ownsRow base 3 1 (.slice (some ⟨g5, 0, none⟩) (nk + 1) c5) (nk + 1) ys) (hgr5 : (w4.alloc o).grownBy w5 (Value.slice pk nk ck).ownBlock) (hT : T + 2 ≤ T') :
    WOk base T' (w5.setCell ⟨Wb, 0, none⟩ (.slice (some ⟨g5, 0, none⟩) (nk + 1) c5)) Wb (ds ++ []) ∧ Below base w (w5.setCell ⟨Wb, 0, none⟩ (.slice (some ⟨g5, 0, none⟩) (nk + 1) c5)) := by
  have hat := own_at h2
  have hlt := lt_of_heap h1
  generalize hS : (Value.slice pk nk ck).ownBlock = r at *
  have hWS : Wb ∉ r.toList := fun hm => by
    obtain ⟨_, c, hc⟩ := hat _ hm
    rw [h1] at hc
    cases hc
  have hK5 : Kp r.toList w w5 := ((hK4.mono (S' := r.toList) (by simp)).alloc o).grown hgr5 (fun k hk => Or.inl (by simp [hk]))
  have hW5 := hK5.heap h1 hWS
  have hK : Kp (Wb :: r.toList) w (w5.setCell ⟨Wb, 0, none⟩ (.slice (some ⟨g5, 0, none⟩) (nk + 1) c5)) := (hK5.mono (S' := Wb :: r.toList) (fun i hi _ => List.mem_cons_of_mem _ hi)).setCell (by simp) _
  have hF : Free base w (Wb :: r.toList) := fun k hk => by
    rcases List.mem_cons.1 hk with rfl | hk
    · exact ⟨h.bW, _, _, _, h1, by decide, by decide, by decide, by decide⟩
    · obtain ⟨hb, c, hc⟩ := hat _ hk
      exact ⟨hb, _, _, _, hc, by decide, by decide, by decide, by decide⟩
  have hl := h.len
  refine ⟨h.turn hK hF (by omega) [] (by simp) (by simp) ⟨some ⟨g5, 0, none⟩, nk + 1, c5, ys, pd, cd, ?_, ?_, by omega, ?_⟩ (by simp; omega), hK.below h.hbs (fun k hk => (hF k hk).1)⟩
  · rw [List.append_nil]
    exact heap_set hW5 0 _
  · exact own_keep hrow5 (S := [Wb]) ((Kp.refl _ _).setCell (by simp) _) (fun k hk => by rw [List.mem_singleton.1 hk]; exact ⟨_, _, _, hW5, by decide⟩)
  · rw [List.append_nil]
    exact own_keep h4 hK (fun k hk => by
      rcases List.mem_cons.1 hk with rfl | hk
      · exact ⟨_, _, _, h1, by decide⟩
      · obtain ⟨hb, c, hc⟩ := hat _ hk
        exact ⟨_, _, _, hc, by decide⟩)

set_option maxHeartbeats 2000000 in
set_option maxRecDepth 10000 in
theorem owner_keep (base Wb : Nat) (T : Int) (ds : List DG) (x y a b : Int) (s t : ByteArray) (w : World) (h : WOk base T w Wb ds) (hT : T ≤ 50000) :
    Calls Tryz.prog 15 #[.pointer (some ⟨Wb, 0, none⟩), .agg #[.int .i64 1, .int .i64 x, .int .i64 y, .int .i64 a, .int .i64 b, .string s, .string t]] w fun e w' => e = .returned (.bool true) ∧ (∃ ds', WOk base (T + 2) w' Wb ds') ∧ Below base w w' := by
  have h' := h
  obtain ⟨pk, nk, ck, xs, pd, cd, h1, h2, h3, h4⟩ := h.hW
  have HH : Hid (WOk base T w Wb ds) := h'
  have hWs := lt_of_heap h1
  have hbs := h.hbs
  have H1 : Hid (w.heap[Wb]? = some (wobj pk nk ck pd ds.length cd) ∧ w.ownsRow base 3 1 (.slice pk nk ck) nk xs ∧ (nk : Int) ≤ T ∧ w.ownsRow base 34 1 (.slice pd ds.length cd) ds.length (ptrs ds)) := ⟨h1, h2, h3, h4⟩
  clear h h'
  go_enter Tryz.func15, Tryz.ntmps15
  go_wp2_with fail
  obtain ⟨W1, hW1, hO1, hWb1, hK1⟩ : ∃ W1, W1 = w.alloc (Obj.cells #[.int .i64 1, .int .i64 x, .int .i64 y, .int .i64 a, .int .i64 b, .string s, .string t] 28) ∧ W1.heap[w.heap.size]? = some (Obj.cells #[.int .i64 1, .int .i64 x, .int .i64 y, .int .i64 a, .int .i64 b, .string s, .string t] 28) ∧ W1.heap[Wb]? = some (wobj pk nk ck pd ds.length cd) ∧ Kp [] w W1 := ⟨_, rfl, heap_new _ _, heap_old _ h1, (Kp.refl _ _).alloc _⟩
  rw [← hW1]
  clear hW1
  have h2d : W1.drew.ownsRow base 3 1 (.slice pk nk ck) nk xs := own_keep h2 hK1.drew (Apart.nil _ _)
  have hs1 := hK1.size
  obtain ⟨v5, w5, hr5, hrow5, hgr5⟩ := run_app1 (W1.drew.alloc (Obj.cells #[.int .i64 a] 3)) base W1.drew.heap.size (.slice pk nk ck) nk xs (.int .i64 a) 24 3 24 (.int .i64 0) Tryz.underlying24 info3 rfl (h2d.alloc _) (by omega) (heap_new _ _) rfl (by simp; omega)
  obtain ⟨g5, c5, rfl⟩ := own_form hrow5
  have hW5 : w5.heap[Wb]? = some (wobj pk nk ck pd ds.length cd) := by
    have hat := own_at h2d
    refine Kp.heap (S := (Value.slice pk nk ck).ownBlock.toList) (((Kp.refl _ W1.drew).alloc _).grown hgr5 (fun k hk => Or.inl (by simp [hk]))) hWb1 (fun hm => ?_)
    obtain ⟨_, c, hc⟩ := hat _ hm
    rw [show W1.drew.heap[Wb]? = W1.heap[Wb]? from rfl, hWb1] at hc
    cases hc
  have HG : Hid ((W1.drew.alloc (Obj.cells #[.int .i64 a] 3)).grownBy w5 (Value.slice pk nk ck).ownBlock) := hgr5
  have HR : Hid (w5.ownsRow base 3 1 (.slice (some ⟨g5, 0, none⟩) (nk + 1) c5) (nk + 1) (xs ++ [.int .i64 a])) := hrow5
  have HK : Hid (Kp [] w W1) := hK1
  have k0 := cell_of hWb1 0
  simp only [wobj, List.getElem?_toArray, List.getElem?_cons_zero, List.getElem?_cons_succ] at k0
  have o3 := cell_of hO1 3
  simp only [List.getElem?_toArray, List.getElem?_cons_zero, List.getElem?_cons_succ] at o3
  have v0 := cell_of hW5 0
  simp only [wobj, List.getElem?_toArray, List.getElem?_cons_zero, List.getElem?_cons_succ] at v0
  have fv0 := frozen_of hW5 0
  have hWs1 := lt_of_heap hWb1
  have hOs1 := lt_of_heap hO1
  clear hrow5 hgr5 hK1 hW5 h1 h2 h3 h4 h2d hs1 hWb1 hO1
  refine wp_region_any (by kernel_rfl) ?_
  change wpAny _ _ _ _ _ _ _ (World.drew _)
  refine wpAny_take (i := 0) (v := .pointer (some ⟨Wb, 0, none⟩)) rfl (by kernel_rfl) (by kernel_rfl) (by kernel_rfl) (fun _ _ _ h => h) (Or.inl ⟨by rfl, fun w => by go_simp⟩) ?_
  simp only [Act.put, List.setIfInBounds_toArray, List.set_cons_zero, List.set_cons_succ, List.getElem_toArray, List.getElem_cons_succ, List.getElem_cons_zero]
  refine wpAny_take (i := 1) (v := .pointer (some ⟨Wb, 0, none⟩)) rfl (by kernel_rfl) (by kernel_rfl) (by kernel_rfl) (fun _ _ _ h => h) (Or.inl ⟨by rfl, fun w => by go_simp⟩) ?_
  simp only [Act.put, List.setIfInBounds_toArray, List.set_cons_zero, List.set_cons_succ, List.getElem_toArray, List.getElem_cons_succ, List.getElem_cons_zero]
  refine wpAny_take (i := 2) (v := .pointer (some ⟨Wb, 0, none⟩)) rfl (by kernel_rfl) (by kernel_rfl) (by kernel_rfl) (fun _ _ _ h => h) (Or.inl ⟨by rfl, fun w => by go_simp⟩) ?_
  simp only [Act.put, List.setIfInBounds_toArray, List.set_cons_zero, List.set_cons_succ, List.getElem_toArray, List.getElem_cons_succ, List.getElem_cons_zero]
  refine wpAny_take (i := 3) (v := .pointer (some ⟨Wb, 0, none⟩)) rfl (by kernel_rfl) (by kernel_rfl) (by kernel_rfl) (fun _ _ _ h => h) (Or.inl ⟨by rfl, fun w => by go_simp⟩) ?_
  simp only [Act.put, List.setIfInBounds_toArray, List.set_cons_zero, List.set_cons_succ, List.getElem_toArray, List.getElem_cons_succ, List.getElem_cons_zero]
  refine wpAny_take (i := 5) (v := .pointer (some ⟨w.heap.size, 3, none⟩)) rfl (by kernel_rfl) (by kernel_rfl) (by kernel_rfl) (fun _ _ _ h => h) (Or.inl ⟨by rfl, fun w => by go_simp⟩) ?_
  simp only [Act.put, List.setIfInBounds_toArray, List.set_cons_zero, List.set_cons_succ, List.getElem_toArray, List.getElem_cons_succ, List.getElem_cons_zero]
  refine wpAny_ready (rs := [4, 6]) (by kernel_rfl) (by simp) ?_
  refine AllReady.cons rfl (fun K hK => ?_) (AllReady.cons rfl (fun K hK => ?_) AllReady.nil)
  · go_simp
    refine hK _ _ ?_
    clear hK K
    try simp only [Act.put, List.setIfInBounds_toArray, List.set_cons_zero, List.set_cons_succ, List.getElem_toArray, List.getElem_cons_succ, List.getElem_cons_zero]
    refine wpAny_ready (rs := [6]) (by kernel_rfl) (by simp) ?_
    refine AllReady.cons rfl (fun K hK => ?_) AllReady.nil
    go_simp
    refine hK _ _ ?_
    clear hK K
    try simp only [Act.put, List.setIfInBounds_toArray, List.set_cons_zero, List.set_cons_succ, List.getElem_toArray, List.getElem_cons_succ, List.getElem_cons_zero]
    refine wpAny_ready (rs := [7]) (by kernel_rfl) (by simp) ?_
    refine AllReady.cons rfl (fun K hK => ?_) AllReady.nil
    refine step_run rfl (exec_build1 rfl (.int .i64 a) _ _ _ Tryz.underlying24 info3 rfl rfl (by decide) (by decide)) ?_
    refine hK _ _ ?_
    clear hK K
    try simp only [Act.put, List.setIfInBounds_toArray, List.set_cons_zero, List.set_cons_succ, List.getElem_toArray, List.getElem_cons_succ, List.getElem_cons_zero]
    refine wpAny_ready (rs := [8]) (by kernel_rfl) (by simp) ?_
    refine AllReady.cons rfl (fun K hK => ?_) AllReady.nil
    refine step_run rfl (exec_appR rfl rfl rfl hr5) ?_
    refine hK _ _ ?_
    clear hK K
    try simp only [Act.put, List.setIfInBounds_toArray, List.set_cons_zero, List.set_cons_succ, List.getElem_toArray, List.getElem_cons_succ, List.getElem_cons_zero]
    refine wpAny_take (i := 9) (v := .pointer (some ⟨Wb, 0, none⟩)) rfl (by kernel_rfl) (by kernel_rfl) (by kernel_rfl) (fun _ _ _ h => h) (Or.inl ⟨by rfl, fun w => by go_simp⟩) ?_
    simp only [Act.put, List.setIfInBounds_toArray, List.set_cons_zero, List.set_cons_succ, List.getElem_toArray, List.getElem_cons_succ, List.getElem_cons_zero]
    refine wpAny_take (i := 10) (v := .pointer (some ⟨Wb, 0, none⟩)) rfl (by kernel_rfl) (by kernel_rfl) (by kernel_rfl) (fun _ _ _ h => h) (Or.inl ⟨by rfl, fun w => by go_simp⟩) ?_
    simp only [Act.put, List.setIfInBounds_toArray, List.set_cons_zero, List.set_cons_succ, List.getElem_toArray, List.getElem_cons_succ, List.getElem_cons_zero]
    refine wpAny_ready (rs := [11]) (by kernel_rfl) (by simp) ?_
    refine AllReady.cons rfl (fun K hK => ?_) AllReady.nil
    go_simp
    refine hK _ _ ?_
    clear hK K
    refine wpAny_done (by kernel_rfl) ?_ _
    go_wp2
    go_ret
    obtain ⟨h1, h2, h3, h4⟩ := H1.out
    obtain ⟨q1, q2⟩ := HH.out.grew h1 h2 h3 h4 HK.out.drew _ HR.out HG.out (Int.le_refl _)
    exact ⟨rfl, ⟨_, q1⟩, q2⟩
  · go_simp
    refine hK _ _ ?_
    clear hK K
    try simp only [Act.put, List.setIfInBounds_toArray, List.set_cons_zero, List.set_cons_succ, List.getElem_toArray, List.getElem_cons_succ, List.getElem_cons_zero]
    refine wpAny_ready (rs := [4, 7]) (by kernel_rfl) (by simp) ?_
    refine AllReady.cons rfl (fun K hK => ?_) (AllReady.cons rfl (fun K hK => ?_) AllReady.nil)
    · go_simp
      refine hK _ _ ?_
      clear hK K
      try simp only [Act.put, List.setIfInBounds_toArray, List.set_cons_zero, List.set_cons_succ, List.getElem_toArray, List.getElem_cons_succ, List.getElem_cons_zero]
      refine wpAny_ready (rs := [7]) (by kernel_rfl) (by simp) ?_
      refine AllReady.cons rfl (fun K hK => ?_) AllReady.nil
      refine step_run rfl (exec_build1 rfl (.int .i64 a) _ _ _ Tryz.underlying24 info3 rfl rfl (by decide) (by decide)) ?_
      refine hK _ _ ?_
      clear hK K
      try simp only [Act.put, List.setIfInBounds_toArray, List.set_cons_zero, List.set_cons_succ, List.getElem_toArray, List.getElem_cons_succ, List.getElem_cons_zero]
      refine wpAny_ready (rs := [8]) (by kernel_rfl) (by simp) ?_
      refine AllReady.cons rfl (fun K hK => ?_) AllReady.nil
      refine step_run rfl (exec_appR rfl rfl rfl hr5) ?_
      refine hK _ _ ?_
      clear hK K
      try simp only [Act.put, List.setIfInBounds_toArray, List.set_cons_zero, List.set_cons_succ, List.getElem_toArray, List.getElem_cons_succ, List.getElem_cons_zero]
      refine wpAny_take (i := 9) (v := .pointer (some ⟨Wb, 0, none⟩)) rfl (by kernel_rfl) (by kernel_rfl) (by kernel_rfl) (fun _ _ _ h => h) (Or.inl ⟨by rfl, fun w => by go_simp⟩) ?_
      simp only [Act.put, List.setIfInBounds_toArray, List.set_cons_zero, List.set_cons_succ, List.getElem_toArray, List.getElem_cons_succ, List.getElem_cons_zero]
      refine wpAny_take (i := 10) (v := .pointer (some ⟨Wb, 0, none⟩)) rfl (by kernel_rfl) (by kernel_rfl) (by kernel_rfl) (fun _ _ _ h => h) (Or.inl ⟨by rfl, fun w => by go_simp⟩) ?_
      simp only [Act.put, List.setIfInBounds_toArray, List.set_cons_zero, List.set_cons_succ, List.getElem_toArray, List.getElem_cons_succ, List.getElem_cons_zero]
      refine wpAny_ready (rs := [11]) (by kernel_rfl) (by simp) ?_
      refine AllReady.cons rfl (fun K hK => ?_) AllReady.nil
      go_simp
      refine hK _ _ ?_
      clear hK K
      refine wpAny_done (by kernel_rfl) ?_ _
      go_wp2
      go_ret
      obtain ⟨h1, h2, h3, h4⟩ := H1.out
      obtain ⟨q1, q2⟩ := HH.out.grew h1 h2 h3 h4 HK.out.drew _ HR.out HG.out (Int.le_refl _)
      exact ⟨rfl, ⟨_, q1⟩, q2⟩
    · refine step_run rfl (exec_build1 rfl (.int .i64 a) _ _ _ Tryz.underlying24 info3 rfl rfl (by decide) (by decide)) ?_
      refine hK _ _ ?_
      clear hK K
      try simp only [Act.put, List.setIfInBounds_toArray, List.set_cons_zero, List.set_cons_succ, List.getElem_toArray, List.getElem_cons_succ, List.getElem_cons_zero]
      refine wpAny_ready (rs := [4]) (by kernel_rfl) (by simp) ?_
      refine AllReady.cons rfl (fun K hK => ?_) AllReady.nil
      go_simp
      refine hK _ _ ?_
      clear hK K
      try simp only [Act.put, List.setIfInBounds_toArray, List.set_cons_zero, List.set_cons_succ, List.getElem_toArray, List.getElem_cons_succ, List.getElem_cons_zero]
      refine wpAny_ready (rs := [8]) (by kernel_rfl) (by simp) ?_
      refine AllReady.cons rfl (fun K hK => ?_) AllReady.nil
      refine step_run rfl (exec_appR rfl rfl rfl hr5) ?_
      refine hK _ _ ?_
      clear hK K
      try simp only [Act.put, List.setIfInBounds_toArray, List.set_cons_zero, List.set_cons_succ, List.getElem_toArray, List.getElem_cons_succ, List.getElem_cons_zero]
      refine wpAny_take (i := 9) (v := .pointer (some ⟨Wb, 0, none⟩)) rfl (by kernel_rfl) (by kernel_rfl) (by kernel_rfl) (fun _ _ _ h => h) (Or.inl ⟨by rfl, fun w => by go_simp⟩) ?_
      simp only [Act.put, List.setIfInBounds_toArray, List.set_cons_zero, List.set_cons_succ, List.getElem_toArray, List.getElem_cons_succ, List.getElem_cons_zero]
      refine wpAny_take (i := 10) (v := .pointer (some ⟨Wb, 0, none⟩)) rfl (by kernel_rfl) (by kernel_rfl) (by kernel_rfl) (fun _ _ _ h => h) (Or.inl ⟨by rfl, fun w => by go_simp⟩) ?_
      simp only [Act.put, List.setIfInBounds_toArray, List.set_cons_zero, List.set_cons_succ, List.getElem_toArray, List.getElem_cons_succ, List.getElem_cons_zero]
      refine wpAny_ready (rs := [11]) (by kernel_rfl) (by simp) ?_
      refine AllReady.cons rfl (fun K hK => ?_) AllReady.nil
      go_simp
      refine hK _ _ ?_
      clear hK K
      refine wpAny_done (by kernel_rfl) ?_ _
      go_wp2
      go_ret
      obtain ⟨h1, h2, h3, h4⟩ := H1.out
      obtain ⟨q1, q2⟩ := HH.out.grew h1 h2 h3 h4 HK.out.drew _ HR.out HG.out (Int.le_refl _)
      exact ⟨rfl, ⟨_, q1⟩, q2⟩
end Go.Proofs.YtilapcegpjjlfaaGreatDoor
