import Derived.Test.YtilapcegpjjlfaaGreatDoorOwner
namespace Go.Proofs.YtilapcegpjjlfaaGreatDoor
set_option linter.unusedSimpArgs false
set_option linter.unusedVariables false
open Go.RowKit

theorem info3 : (Tryz.prog.info? 3).map (fun i => (i.zero, i.size, i.bytes)) = some (some (.int .i64 0), 1, 8) := by kernel_rfl
theorem info34 : (Tryz.prog.info? 34).map (fun i => (i.zero, i.size, i.bytes)) = some (some (.pointer none), 1, 8) := by kernel_rfl

theorem run_app1 (w : World) (base g : Nat) (v : Value) (n : Nat) (xs : List Value) (u : Value) (t e ty : TypeId) (z : Value) (ht : Tryz.prog.underlying t = some (.slice e)) (hi : (Tryz.prog.info? e).map (fun i => (i.zero, i.size, i.bytes)) = some (some z, 1, 8)) (hz : z.cells.size = 1)
    (h : w.ownsRow base e 1 v n xs) (hn : n ≤ 1000000) (hg : w.heap[g]? = some (.cells #[u] e)) (hu : u.oneCell' = true) (hb : base ≤ w.heap.size) :
    ∃ v' w', Sem.run Tryz.prog (Builtin.append_ #[t, t] ty #[v, .slice (some ⟨g, 0, none⟩) 1 1]) w = .ok v' w' ∧ w'.ownsRow base e 1 v' (n + 1) (xs ++ [u]) ∧ w.grownBy w' v.ownBlock := by
  obtain ⟨i0, hi, hz0, hz1, hz2⟩ := info_parts hi
  obtain ⟨v', w', hr, r1, r2, r3⟩ := run_append_own (P := Tryz.prog) w base t ty e i0 _ 1 8 ht hi hz0 hz1 hz2 hz (by decide) v n _ h ⟨g, 0, none⟩ 1 1 [u] (by simp) (fun j v hv => by
    rw [add_none, cell_of hg]
    simpa using hv) (by simpa using hu) (by unfold maxLen; omega) (by omega) hb
  exact ⟨v', w', hr, r1, r2⟩

theorem zeros_enc (Z : Array Value) (n : Nat) (h : Z.size = n) (h0 : ∀ v ∈ Z.toList, v = .int .u8 0) : Z = enc (List.replicate n 0) := by
  apply Array.ext'
  have e : Z.toList = List.replicate n (.int .u8 0) := List.eq_replicate_iff.2 ⟨by simpa using h, h0⟩
  rw [e]
  simp [enc, encL]

theorem fresh_zeros (m : Nat) (h : 8 ≤ m) : Fresh (List.replicate (m * 128) 0) := by
  have e0 : min 128 (m * 128 - 0 * 128) = 128 := by omega
  have e1 : min 128 (m * 128 - 1 * 128) = 128 := by omega
  exact ⟨by rw [blockOf, List.drop_replicate, List.take_replicate, e0]; rfl, by rw [blockOf, List.drop_replicate, List.take_replicate, e1]; rfl⟩

theorem disk_any (a : Int) : ∃ m : Nat, m < 1000 ∧ (∀ w, Calls Tryz.prog 22 #[.int .i64 a] w fun e w' => e = .returned (.int .i64 m) ∧ w' = w) ∧
    (∀ w, Calls Tryz.prog 23 #[.int .i64 a] w fun e w' => e = .returned (.pointer (some ⟨w.heap.size + 1, 0, none⟩)) ∧ w' = (w.alloc (.cells (enc (List.replicate (m * 128) 0)) 88)).alloc (dobj m w.heap.size (.slice none 0 0) 0 0)) := by
  by_cases ha : a < 0
  · refine ⟨0, by omega, fun w => blocks_neg a w ha, fun w => (newDisk_neg w a ha).mono ?_⟩
    rintro e w' ⟨rfl, Z, hZ, hZ0, rfl⟩
    exact ⟨rfl, by rw [zeros_enc Z _ hZ hZ0]⟩
  · have h0 := Int.emod_nonneg a (show (1000 : Int) ≠ 0 by decide)
    have h1 := Int.emod_lt_of_pos a (show (0 : Int) < 1000 by decide)
    refine ⟨(a % 1000).toNat, by omega, fun w => (blocks_nat a w ha).mono ?_, fun w => (newDisk_nat (a % 1000).toNat w (by omega) a (by omega) (by omega)).mono ?_⟩
    · rintro e w' ⟨rfl, rfl⟩
      exact ⟨by rw [Int.toNat_of_nonneg h0], rfl⟩
    · rintro e w' ⟨rfl, Z, hZ, hZ0, rfl⟩
      exact ⟨rfl, by rw [zeros_enc Z _ hZ hZ0]⟩

theorem own_at {w : World} {base sz : Nat} {e : TypeId} {v : Value} {n : Nat} {xs : List Value} (h : w.ownsRow base e sz v n xs) : ∀ k, k ∈ v.ownBlock.toList → base ≤ k ∧ ∃ c, w.heap[k]? = some (.cells c e) := by
  intro k hk
  rcases h.2 with ⟨rfl, _⟩ | ⟨g, cap, cur, rfl, h2, h3, h4⟩
  · simp [Value.ownBlock] at hk
  · simp [Value.ownBlock] at hk
    subst hk
    exact ⟨h2, _, h3⟩

/-- One disk more. -/
theorem WOk.more {base : Nat} {T T' : Int} {w w4 w5 : World} {Wb : Nat} {ds : List DG} (h : WOk base T w Wb ds) {pk : Option Addr} {nk ck : Nat} {xs : List Value} {pd : Option Addr} {cd : Nat} (h1 : w.heap[Wb]? = some (wobj pk nk ck pd ds.length cd)) (h2 : w.ownsRow base 3 1 (.slice pk nk ck) nk xs) (h3 : (nk : Int) ≤ T) (h4 : w.ownsRow base 34 1 (.slice pd ds.length cd) ds.length (ptrs ds))
    (hK4 : Kp [] w w4) (g : DG) (hg : DOk base T' w4 g) (hgB : w.heap.size ≤ g.B) (hgA : w.heap.size ≤ g.A) (hgC : w.heap.size ≤ g.C) (o : Obj) {g5 c5 : Nat} (hrow5 : w5.ownsRow base 34 1 (.slice (some ⟨g5, 0, none⟩) (ds.length + 1) c5) (ds.length + 1) (ptrs ds ++ [.pointer (some ⟨g.B, 0, none⟩)])) (hgr5 : (w4.alloc o).grownBy w5 (Value.slice pd ds.length cd).ownBlock) (hT : T + 2 ≤ T') :
    WOk base T' (w5.setCell ⟨Wb, 1, none⟩ (.slice (some ⟨g5, 0, none⟩) (ds.length + 1) c5)) Wb (ds ++ [g]) ∧ Below base w (w5.setCell ⟨Wb, 1, none⟩ (.slice (some ⟨g5, 0, none⟩) (ds.length + 1) c5)) := by
  have hat := own_at h4
  have hlt := lt_of_heap h1
  generalize hS : (Value.slice pd ds.length cd).ownBlock = r at *
  have hWS : Wb ∉ r.toList := fun hm => by
    obtain ⟨_, c, hc⟩ := hat _ hm
    rw [h1] at hc
    cases hc
  have hK5 : Kp r.toList w w5 := ((hK4.mono (S' := r.toList) (by simp)).alloc o).grown hgr5 (fun k hk => Or.inl (by simp [hk]))
  have hW5 := hK5.heap h1 hWS
  have hK : Kp (Wb :: r.toList) w (w5.setCell ⟨Wb, 1, none⟩ (.slice (some ⟨g5, 0, none⟩) (ds.length + 1) c5)) := (hK5.mono (S' := Wb :: r.toList) (fun i hi _ => List.mem_cons_of_mem _ hi)).setCell (by simp) _
  have hF : Free base w (Wb :: r.toList) := fun k hk => by
    rcases List.mem_cons.1 hk with rfl | hk
    · exact ⟨h.bW, _, _, _, h1, by decide, by decide, by decide, by decide⟩
    · obtain ⟨hb, c, hc⟩ := hat _ hk
      exact ⟨hb, _, _, _, hc, by decide, by decide, by decide, by decide⟩
  have hKg : Kp (Wb :: r.toList) w4 (w5.setCell ⟨Wb, 1, none⟩ (.slice (some ⟨g5, 0, none⟩) (ds.length + 1) c5)) := (((Kp.refl _ _).alloc o).grown hgr5 (fun k hk => Or.inl (by simp [hk]))).setCell (by simp) _
  have hold : ∀ k, w.heap.size ≤ k → k ∉ Wb :: r.toList := fun k hk hm => by
    obtain ⟨_, _, _, _, hc, _⟩ := hF k hm
    have := lt_of_heap hc
    omega
  have hg' : DOk base T' (w5.setCell ⟨Wb, 1, none⟩ (.slice (some ⟨g5, 0, none⟩) (ds.length + 1) c5)) g := hg.keep hKg (Int.le_refl _) (hold _ hgB) (hold _ hgA) (hold _ hgC) (fun k hk => by
    obtain ⟨_, _, _, _, hc, _, _, _, hu⟩ := hF k hk
    exact ⟨_, _, _, hK4.heap hc (by simp), hu⟩)
  have hl := h.len
  refine ⟨h.turn hK hF (by omega) [g] (fun x hx => by rw [List.mem_singleton.1 hx]; exact ⟨hg', hgB, hgA, hgC⟩) (by simp) ⟨pk, nk, ck, xs, some ⟨g5, 0, none⟩, c5, ?_, own_keep h2 hK (fun k hk => ?_), by omega, ?_⟩ (by simp; omega), hK.below h.hbs (fun k hk => (hF k hk).1)⟩
  · rw [List.length_append]
    exact heap_set hW5 1 _
  · rcases List.mem_cons.1 hk with rfl | hk
    · exact ⟨_, _, _, h1, by decide⟩
    · obtain ⟨hb, c, hc⟩ := hat _ hk
      exact ⟨_, _, _, hc, by decide⟩
  · have e : ptrs (ds ++ [g]) = ptrs ds ++ [.pointer (some ⟨g.B, 0, none⟩)] := by simp [ptrs]
    rw [e, List.length_append]
    exact own_keep hrow5 (S := [Wb]) ((Kp.refl _ _).setCell (by simp) _) (fun k hk => by rw [List.mem_singleton.1 hk]; exact ⟨_, _, _, hW5, by decide⟩)

set_option maxHeartbeats 2000000 in
set_option maxRecDepth 10000 in
theorem owner_disk (base Wb : Nat) (T : Int) (ds : List DG) (x y a b : Int) (s t : ByteArray) (w : World) (h : WOk base T w Wb ds) (hT : T ≤ 50000) :
    Calls Tryz.prog 15 #[.pointer (some ⟨Wb, 0, none⟩), .agg #[.int .i64 3, .int .i64 x, .int .i64 y, .int .i64 a, .int .i64 b, .string s, .string t]] w fun e w' => e = .returned (.bool true) ∧ (∃ ds', WOk base (T + 2) w' Wb ds') ∧ Below base w w' := by
  have h' := h
  obtain ⟨pk, nk, ck, xs, pd, cd, h1, h2, h3, h4⟩ := h.hW
  have HH : Hid (WOk base T w Wb ds) := h'
  have hWs := lt_of_heap h1
  obtain ⟨m, hm, hblk, hnew⟩ := disk_any a
  have HBL : Hid (∀ w, Calls Tryz.prog 22 #[.int .i64 a] w fun e w' => e = .returned (.int .i64 m) ∧ w' = w) := hblk
  have HND : Hid (∀ w, Calls Tryz.prog 23 #[.int .i64 a] w fun e w' => e = .returned (.pointer (some ⟨w.heap.size + 1, 0, none⟩)) ∧ w' = (w.alloc (.cells (enc (List.replicate (m * 128) 0)) 88)).alloc (dobj m w.heap.size (.slice none 0 0) 0 0)) := hnew
  clear h h' hblk hnew
  go_enter Tryz.func15, Tryz.ntmps15
  go_wp2_with (go_at_call 22; refine (HBL.out _).mono ?_; rintro e w' ⟨rfl, rfl⟩)
  refine (HND.out _).mono ?_
  rintro e w3 ⟨rfl, rfl⟩
  have hsz : ((w.alloc (Obj.cells #[Value.int IntKind.i64 3, Value.int IntKind.i64 x, Value.int IntKind.i64 y, Value.int IntKind.i64 a, Value.int IntKind.i64 b, Value.string s, Value.string t] 28)).alloc (Obj.cells #[Value.pointer none, Value.int IntKind.i64 m, Value.slice none 0 0, Value.bool false, Value.slice none 0 0, Value.bool false, Value.bool false, Value.pointer none, Value.slice none 0 0, Value.int IntKind.i64 0, Value.bool false, Value.slice none 0 0, Value.slice none 0 0, Value.slice none 0 0] 48)).heap.size = w.heap.size + 2 := by simp
  rw [hsz]
  obtain ⟨w3, hw3, hD3, hC3, hA3, hK3, hs3⟩ : ∃ w3, w3 = ((((w.alloc (Obj.cells #[Value.int IntKind.i64 3, Value.int IntKind.i64 x, Value.int IntKind.i64 y, Value.int IntKind.i64 a, Value.int IntKind.i64 b, Value.string s, Value.string t] 28)).alloc (Obj.cells #[Value.pointer none, Value.int IntKind.i64 m, Value.slice none 0 0, Value.bool false, Value.slice none 0 0, Value.bool false, Value.bool false, Value.pointer none, Value.slice none 0 0, Value.int IntKind.i64 0, Value.bool false, Value.slice none 0 0, Value.slice none 0 0, Value.slice none 0 0] 48)).alloc (.cells (enc (List.replicate (m * 128) 0)) 88)).alloc (dobj m (w.heap.size + 2) (.slice none 0 0) 0 0)) ∧ w3.heap[w.heap.size + 1]? = some (Obj.cells #[Value.pointer none, Value.int IntKind.i64 m, Value.slice none 0 0, Value.bool false, Value.slice none 0 0, Value.bool false, Value.bool false, Value.pointer none, Value.slice none 0 0, Value.int IntKind.i64 0, Value.bool false, Value.slice none 0 0, Value.slice none 0 0, Value.slice none 0 0] 48) ∧ w3.heap[w.heap.size + 2]? = some (.cells (enc (List.replicate (m * 128) 0)) 88) ∧ w3.heap[w.heap.size + 3]? = some (dobj m (w.heap.size + 2) (.slice none 0 0) 0 0) ∧ Kp [] w w3 ∧ w3.heap.size = w.heap.size + 4 := by
    generalize Obj.cells #[Value.int IntKind.i64 3, Value.int IntKind.i64 x, Value.int IntKind.i64 y, Value.int IntKind.i64 a, Value.int IntKind.i64 b, Value.string s, Value.string t] 28 = o1
    generalize Obj.cells #[Value.pointer none, Value.int IntKind.i64 m, Value.slice none 0 0, Value.bool false, Value.slice none 0 0, Value.bool false, Value.bool false, Value.pointer none, Value.slice none 0 0, Value.int IntKind.i64 0, Value.bool false, Value.slice none 0 0, Value.slice none 0 0, Value.slice none 0 0] 48 = o2
    generalize Obj.cells (enc (List.replicate (m * 128) 0)) 88 = o3
    generalize dobj m (w.heap.size + 2) (.slice none 0 0) 0 0 = o4
    refine ⟨_, rfl, heap_old _ (heap_old _ ?_), heap_old _ ?_, ?_, ((((Kp.refl _ _).alloc _).alloc _).alloc _).alloc _, by simp⟩
    · have e := heap_new (w.alloc o1) o2; simpa using e
    · have e := heap_new ((w.alloc o1).alloc o2) o3; simpa using e
    · have e := heap_new (((w.alloc o1).alloc o2).alloc o3) o4; simpa using e
  rw [← hw3]
  clear hw3 hsz
  have hW3 := hK3.heap h1 (by simp)
  have h23 := own_keep h2 hK3 (Apart.nil _ _)
  have h43 := own_keep h4 hK3 (Apart.nil _ _)
  obtain ⟨w4, hw4, hD4, hC4, hA4, hW4, hK4, hs4⟩ : ∃ w4, w4 = w3.setCell ⟨w.heap.size + 1, 0, none⟩ (.pointer (some ⟨w.heap.size + 3, 0, none⟩)) ∧ w4.heap[w.heap.size + 1]? = some (kobj (w.heap.size + 3) m (.slice none 0 0) (.slice none 0 0) none) ∧ w4.heap[w.heap.size + 2]? = some (.cells (enc (List.replicate (m * 128) 0)) 88) ∧ w4.heap[w.heap.size + 3]? = some (dobj m (w.heap.size + 2) (.slice none 0 0) 0 0) ∧ w4.heap[Wb]? = some (wobj pk nk ck pd ds.length cd) ∧ Kp [] w w4 ∧ w4.heap.size = w.heap.size + 4 :=
    ⟨_, rfl, heap_set hD3 0 _, (heap_set_other (by omega) _ _).trans hC3, (heap_set_other (by omega) _ _).trans hA3, (heap_set_other (by omega) _ _).trans hW3, hK3.setCell (Or.inr (by simp)) _, by simp [World.setCell, hs3]⟩
  have h24 := own_keep h2 hK4 (Apart.nil _ _)
  have h44 := own_keep h4 hK4 (Apart.nil _ _)
  have hl := HH.out.len
  have hbs := HH.out.hbs
  obtain ⟨v5, w5, hr5, hrow5, hgr5⟩ := run_app1 (w4.alloc (Obj.cells #[.pointer (some ⟨w.heap.size + 1, 0, none⟩)] 34)) base w4.heap.size (.slice pd ds.length cd) ds.length (ptrs ds) (.pointer (some ⟨w.heap.size + 1, 0, none⟩)) 30 34 30 (.pointer none) Tryz.underlying30 info34 rfl (h44.alloc _) (by omega) (heap_new _ _) rfl (by simp; omega)
  obtain ⟨g5, c5, rfl⟩ := own_form hrow5
  have hgr : Hid ((w4.alloc (Obj.cells #[.pointer (some ⟨w.heap.size + 1, 0, none⟩)] 34)).grownBy w5 (Value.slice pd ds.length cd).ownBlock) := hgr5
  have hrw : Hid (w5.ownsRow base 34 1 (.slice (some ⟨g5, 0, none⟩) (ds.length + 1) c5) (ds.length + 1) (ptrs ds ++ [.pointer (some ⟨w.heap.size + 1, 0, none⟩)])) := hrow5
  have hW5 : w5.heap[Wb]? = some (wobj pk nk ck pd ds.length cd) := by
    have hat := own_at h44
    refine Kp.heap (S := (Value.slice pd ds.length cd).ownBlock.toList) (((Kp.refl _ w4).alloc _).grown hgr5 (fun k hk => Or.inl (by simp [hk]))) hW4 (fun hm => ?_)
    obtain ⟨_, c, hc⟩ := hat _ hm
    rw [hW4] at hc
    cases hc
  have HDOk : Hid (DOk base (T + 2) w4 ⟨w.heap.size + 1, w.heap.size + 3, w.heap.size + 2, m, List.replicate (m * 128) 0, 0, 0, 0, none, 0, 0, none, 0, 0, none⟩) := by
    have hT0 := HH.out.len
    exact ⟨by show base ≤ w.heap.size + 1; omega, by show base ≤ w.heap.size + 3; omega, by show base ≤ w.heap.size + 2; omega, hD4, hA4, hC4, by simp, hm, by simp, by show (0 : Int) ≤ 6 * (T + 2); omega, by simp, by show (0 : Int) ≤ 2 * (T + 2); omega, by show ((0 : Nat) : Int) ≤ T + 2; omega, World.ownsRow_nil _ _ _ _, World.ownsRow_nil _ _ _ _, .inl ⟨fun h8 => fresh_zeros m h8, rfl, rfl⟩⟩
  have HK4 : Hid (Kp [] w w4) := hK4
  have d0 := cell_of hD3 0
  simp only [List.getElem?_toArray, List.getElem?_cons_zero, List.getElem?_cons_succ] at d0
  have fd0 := frozen_of hD3 0
  have u1 := cell_of hW4 1
  simp only [wobj, List.getElem?_toArray, List.getElem?_cons_zero, List.getElem?_cons_succ] at u1
  have v1 := cell_of hW5 1
  simp only [wobj, List.getElem?_toArray, List.getElem?_cons_zero, List.getElem?_cons_succ] at v1
  have fv1 := frozen_of hW5 1
  have HW4 : Hid (w4 = w3.setCell ⟨w.heap.size + 1, 0, none⟩ (.pointer (some ⟨w.heap.size + 3, 0, none⟩))) := hw4
  have hz4 : w4.heap.size = w3.heap.size := by rw [hs4, hs3]
  rw [hz4] at hr5
  rw [hw4] at hr5 u1
  clear hz4
  have H1 : Hid (w.heap[Wb]? = some (wobj pk nk ck pd ds.length cd) ∧ w.ownsRow base 3 1 (.slice pk nk ck) nk xs ∧ (nk : Int) ≤ T ∧ w.ownsRow base 34 1 (.slice pd ds.length cd) ds.length (ptrs ds)) := ⟨h1, h2, h3, h4⟩
  clear hrow5 hgr5 hw4 hs3 hs4 hK3 hK4 hD3 hC3 hA3 hW3 h23 h43 hD4 hC4 hA4 hW4 h24 h44 h1 h2 h3 h4 hW5
  go_wp2_with (at_builtin; ((with_reducible refine wpList_appR ?_ ?_ hr5 ?_); rfl; rfl))
  go_ret
  obtain ⟨h1, h2, h3, h4⟩ := H1.out
  obtain ⟨q1, q2⟩ := HH.out.more h1 h2 h3 h4 HK4.out _ HDOk.out (by simp) (by simp) (by simp) _ hrw.out hgr.out (Int.le_refl _)
  exact ⟨rfl, ⟨_, q1⟩, q2⟩
end Go.Proofs.YtilapcegpjjlfaaGreatDoor
