import Derived.Test.YtilapcegpjjlfaaGreatDoorNewest
namespace Go.Proofs.YtilapcegpjjlfaaGreatDoor
set_option linter.unusedSimpArgs false
set_option linter.unusedVariables false
open Go.RowKit

theorem zero205 : Tryz.zeroCells205 = enc zeroBlock := by
  have h : Tryz.zeroCells205.toList = (enc zeroBlock).toList := by kernel_rfl
  have := congrArg List.toArray h
  simpa using this
def setBlock (l : List UInt8) (i : Nat) (b : List UInt8) : List UInt8 := l.take (i * 128) ++ b ++ l.drop (i * 128 + b.length)

theorem exec_copyA {P : Program} {a : Act} {w : World} {o : Oper} {s x : Operand} {t t' e : TypeId} (ho : o.op = .call { callee := .builtin .copy, args := #[s, x], argTypes := #[t, t'] }) (hu : P.underlying t = some (.slice e)) (hs : (P.info? e).map (·.size) = some 1)
    (g o' dLen dCap b so sLen sCap n : Nat) (hd : a.eval s = .slice (some ⟨g, o', none⟩) dLen dCap) (hx : a.eval x = .slice (some ⟨b, so, none⟩) sLen sCap) (hn : n = Nat.min sLen dLen)
    {cur src : Array Value} {tg tb : TypeId} {fr : Nat × Nat} (hg : w.heap[g]? = some (.cells cur tg)) (hb : w.heap[b]? = some (.cells src tb fr)) (hfit : o' + n ≤ cur.size) (hin : so + n ≤ src.size)
    (h1 : ∀ v ∈ (piece src so n).toList, v.oneCell' = true) :
    Sem.run P (execOp a.eval o) w = .ok (.value (.int .i64 n)) (w.setRow g (laidOver cur o' (piece src so n))) := by
  have hr := run_copyA (P := P) (w := w) o.type (t := t) (t' := t') hu hs (dLen := dLen) (dCap := dCap) (sLen := sLen) (sCap := sCap) n hn hg hb hfit hin h1
  unfold execOp
  simp only [ho, resolve, invoke, builtin, Sem.run_bind, Sem.run_pure, Result.andThen_ok, List.map_toArray, List.map_cons, List.map_nil, hd, hx, hr]

set_option maxHeartbeats 1000000 in
set_option maxRecDepth 10000 in
theorem lay_ok (V A n C : Nat) (calls writes : Int) (i : Nat) (N : Int) (l : List UInt8) (w : World) (hV : w.heap[V]? = some (vobj A n)) (h : w.heap[A]? = some (dobj n C (.slice none 0 0) calls writes)) (h0 : 0 ≤ calls) (h1 : calls ≤ 999999999) (h0w : 0 ≤ writes) (h1w : writes ≤ 999999999)
    (hi : i < n) (hn : n ≤ 1000) (hC : w.heap[C]? = some (.cells (enc l) 88)) (hs : l.length = n * 128) (hAC : C ≠ A) (hVA : V ≠ A) (hVC : V ≠ C) (hN : N % 2 = i) (hN0 : 0 ≤ N) :
    Calls Tryz.prog 89 #[.pointer (some ⟨V, 0, none⟩), .agg #[.int .u64 N, .int .i64 0, .int .u64 0]] w fun e w' => e = .returned (.tuple #[]) ∧
      w'.heap[A]? = some (dobj n C (.slice none 0 0) (calls + 2) (writes + 1)) ∧ w'.heap[C]? = some (.cells (enc (setBlock l i (headBlock N))) 88) ∧ Kp [A, C] w w' := by
  have hVs := lt_of_heap hV
  have hA := lt_of_heap h
  have hCs := lt_of_heap hC
  have HN : Hid (N % 2 = i) := hN
  clear hN
  go_enter Tryz.func89, Tryz.ntmps89
  go_wp2_with fail
  rw [zero205]
  obtain ⟨W1, hW1, hK1, hA1, hC1, hV1, hH1, hG1, hsz⟩ : ∃ W1, W1 = (w.alloc (Obj.cells #[Value.int IntKind.u64 N, Value.int IntKind.i64 0, Value.int IntKind.u64 0] 126)).alloc (Obj.cells (enc zeroBlock) 205) ∧ Kp [A, C] w W1 ∧ W1.heap[A]? = some (dobj n C (.slice none 0 0) calls writes) ∧ W1.heap[C]? = some (.cells (enc l) 88) ∧ W1.heap[V]? = some (vobj A n) ∧
      W1.heap[w.heap.size]? = some (Obj.cells #[Value.int IntKind.u64 N, Value.int IntKind.i64 0, Value.int IntKind.u64 0] 126) ∧ W1.heap[w.heap.size + 1]? = some (Obj.cells (enc zeroBlock) 205) ∧ W1.heap.size = w.heap.size + 2 :=
    ⟨_, rfl, ((Kp.refl _ _).alloc _).alloc _, heap_old _ (heap_old _ h), heap_old _ (heap_old _ hC), heap_old _ (heap_old _ hV), heap_old _ (heap_new _ _), by simpa using heap_new (w.alloc (Obj.cells #[Value.int IntKind.u64 N, Value.int IntKind.i64 0, Value.int IntKind.u64 0] 126)) (Obj.cells (enc zeroBlock) 205), by simp⟩
  rw [← hW1]
  clear hW1
  refine wp_region_any (by kernel_rfl) ?_
  change wpAny _ _ _ _ _ _ _ (World.drew _)
  refine wpAny_take (i := 0) (v := .slice (some ⟨w.heap.size + 1, 0, none⟩) 128 128) rfl (by kernel_rfl) (by kernel_rfl) (by kernel_rfl) (fun _ _ _ h => h) (Or.inl ⟨by rfl, fun W => by go_simp⟩) ?_
  simp only [Act.put, List.setIfInBounds_toArray, List.set_cons_zero, List.set_cons_succ, List.getElem_toArray, List.getElem_cons_succ, List.getElem_cons_zero]
  refine wpAny_ready (rs := [1]) (by kernel_rfl) (by simp) ?_
  refine AllReady.cons rfl (fun K hK => ?_) AllReady.nil
  refine step_run rfl (exec_loadW (t := 126) rfl (by kernel_rfl) 3 (by kernel_rfl) w.heap.size rfl (show W1.drew.heap[w.heap.size]? = _ from hH1) rfl) ?_
  refine hK _ _ ?_
  clear hK K
  simp only [Act.put, List.setIfInBounds_toArray, List.set_cons_zero, List.set_cons_succ, List.getElem_toArray, List.getElem_cons_succ, List.getElem_cons_zero]
  refine wpAny_ready (rs := [2]) (by kernel_rfl) (by simp) ?_
  refine AllReady.cons rfl (fun K hK => ?_) AllReady.nil
  go_simp
  refine (sector_ok N 0 0 _ hN0 (by decide) (by decide) (by decide)).mono ?_
  rintro e w2 ⟨v2, rfl, hO2, hB2⟩
  obtain ⟨g2, cap2, cur2, rfl, hg2, hcs2, hp2⟩ := own_piece hO2
  have hB2' : Kp [] W1.drew w2 := Kp.of_below hB2 (Nat.le_refl _)
  have hA2 := hB2'.heap (k := A) hA1 (by simp)
  have hC2 := hB2'.heap (k := C) hC1 (by simp)
  have hV2 := hB2'.heap (k := V) hV1 (by simp)
  have hH2 := hB2'.heap (k := w.heap.size) hH1 (by simp)
  have hG2 := hB2'.heap (k := w.heap.size + 1) hG1 (by simp)
  have hK2 : Kp [A, C] w w2 := (hK1.drew).trans hB2' (by simp)
  have hs2 : w.heap.size + 2 ≤ w2.heap.size := by have := hB2.size; simp at this; omega
  clear hB2 hB2' hA1 hC1 hV1 hH1 hG1 hK1 hO2
  refine hK _ _ ?_
  clear hK K
  try simp only [Act.put, List.setIfInBounds_toArray, List.set_cons_zero, List.set_cons_succ, List.getElem_toArray, List.getElem_cons_succ, List.getElem_cons_zero]
  refine wpAny_ready (rs := [3]) (by kernel_rfl) (by simp) ?_
  refine AllReady.cons rfl (fun K hK => ?_) AllReady.nil
  refine step_run rfl (exec_copyA rfl Tryz.underlying158 Tryz.size5 (w.heap.size + 1) 0 128 128 g2 0 32 cap2 32 rfl rfl (by decide) hG2 hg2 (by rw [enc_size]; decide) (by omega) (by rw [hp2]; exact (enc_bytes _).one)) ?_
  rw [hp2, laidOver_enc]
  have hblk : zeroBlock.take 0 ++ toB (sectorOf N 0 0) ++ zeroBlock.drop (0 + (toB (sectorOf N 0 0)).length) = headBlock N := by
    rw [toB_length, sectorOf_length]; simp [headBlock, zeroBlock]
  rw [hblk]
  obtain ⟨W3, hW3, hK3, hA3, hC3, hV3, hH3, hG3⟩ : ∃ W3, W3 = w2.setRow (w.heap.size + 1) (enc (headBlock N)) ∧ Kp [A, C] w W3 ∧ W3.heap[A]? = some (dobj n C (.slice none 0 0) calls writes) ∧ W3.heap[C]? = some (.cells (enc l) 88) ∧ W3.heap[V]? = some (vobj A n) ∧
      W3.heap[w.heap.size]? = some (Obj.cells #[Value.int IntKind.u64 N, Value.int IntKind.i64 0, Value.int IntKind.u64 0] 126) ∧ W3.heap[w.heap.size + 1]? = some (Obj.cells (enc (headBlock N)) 205) :=
    ⟨_, rfl, hK2.setRow (Or.inr (by omega)) _, (setRow_other _ _ _ _ (by omega)).trans hA2, (setRow_other _ _ _ _ (by omega)).trans hC2, (setRow_other _ _ _ _ (by omega)).trans hV2, (setRow_other _ _ _ _ (by omega)).trans hH2, setRow_heap _ _ _ _ _ _ hG2⟩
  rw [← hW3]
  clear hW3 hA2 hC2 hV2 hH2 hG2 hK2 hg2 hcs2 hp2 hblk
  refine hK _ _ ?_
  clear hK K
  refine wpAny_done (by kernel_rfl) ?_ _
  simp only [Act.put, List.setIfInBounds_toArray, List.set_cons_zero, List.set_cons_succ, List.getElem_toArray, List.getElem_cons_succ, List.getElem_cons_zero]
  go_wp2_with fail
  have hhl := headBlock_length N
  refine wp_region_held_drew (S := fun W => W.heap[w.heap.size]? = some (Obj.cells #[Value.int IntKind.u64 N, Value.int IntKind.i64 0, Value.int IntKind.u64 0] 126) ∧ W.heap[w.heap.size + 1]? = some (Obj.cells (enc (headBlock N)) 205)) (by kernel_rfl) ⟨hH3, hG3⟩ (fun _ => ?_)
  refine wpAnyH_take (i := 0) (v := .pointer (some ⟨V, 0, none⟩)) rfl (by kernel_rfl) (by kernel_rfl) (by kernel_rfl) (fun _ _ _ h => h) (Or.inl ⟨by rfl, fun W hS => rfl⟩) ⟨hH3, hG3⟩ ?_
  simp only [Act.put, List.setIfInBounds_toArray, List.set_cons_zero, List.set_cons_succ, List.getElem_toArray, List.getElem_cons_succ, List.getElem_cons_zero]
  refine wpAnyH_take (i := 1) (v := .agg #[.int .u64 N, .int .i64 0, .int .u64 0]) rfl (by kernel_rfl) (by kernel_rfl) (by kernel_rfl) (fun _ _ _ h => h) (Or.inl ⟨by rfl, fun W hS => exec_loadW (t := 126) rfl (by kernel_rfl) 3 (by kernel_rfl) w.heap.size rfl hS.1 rfl⟩) ⟨hH3, hG3⟩ ?_
  simp only [Act.put, List.setIfInBounds_toArray, List.set_cons_zero, List.set_cons_succ, List.getElem_toArray, List.getElem_cons_succ, List.getElem_cons_zero]
  refine wpAnyH_take (i := 3) (v := .agg (enc (headBlock N))) rfl (by kernel_rfl) (by kernel_rfl) (by kernel_rfl) (fun _ _ _ h => h) (Or.inl ⟨by rfl, fun W hS => exec_loadW (t := 205) rfl (by kernel_rfl) 128 (by kernel_rfl) (w.heap.size + 1) rfl hS.2 (by rw [enc_size, headBlock_length])⟩) ⟨hH3, hG3⟩ ?_
  simp only [Act.put, List.setIfInBounds_toArray, List.set_cons_zero, List.set_cons_succ, List.getElem_toArray, List.getElem_cons_succ, List.getElem_cons_zero]
  refine wpAnyH_ready (rs := [2]) (by kernel_rfl) (by simp) ?_
  refine AllReadyH.cons rfl (fun K hK => ?_) AllReadyH.nil
  go_simp
  refine (place_ok N 0 0 _ hN0).mono ?_
  rintro e w4 ⟨rfl, hB4⟩
  rw [HN.out]
  have hB4' : Kp [] W3.drew w4 := Kp.of_below hB4 (Nat.le_refl _)
  have hA4 := hB4'.heap (k := A) hA3 (by simp)
  have hC4 := hB4'.heap (k := C) hC3 (by simp)
  have hV4 := hB4'.heap (k := V) hV3 (by simp)
  have hH4 := hB4'.heap (k := w.heap.size) hH3 (by simp)
  have hG4 := hB4'.heap (k := w.heap.size + 1) hG3 (by simp)
  have hK4 : Kp [A, C] w w4 := (hK3.drew).trans hB4' (by simp)
  clear hB4 hB4' hA3 hC3 hV3 hH3 hG3 hK3
  refine hK.out _ _ ⟨hH4, hG4⟩ (fun _ => ?_)
  clear hK K
  try simp only [Act.put, List.setIfInBounds_toArray, List.set_cons_zero, List.set_cons_succ, List.getElem_toArray, List.getElem_cons_succ, List.getElem_cons_zero]
  refine wpAnyH_ready (rs := [4]) (by kernel_rfl) (by simp) ?_
  refine AllReadyH.cons rfl (fun K hK => ?_) AllReadyH.nil
  go_simp
  refine (save_ok V A n C calls writes i (headBlock N) _ hV4 hA4 h0 (by omega) h0w (by omega) hi hn hhl hVA).mono ?_
  rintro e w5 ⟨rfl, v5, hv5, hA5, hK5⟩
  have hC5 := hK5.heap (k := C) hC4 (by simp [hAC])
  have hV5 := hK5.heap (k := V) hV4 (by simp [hVA])
  have hH5 := hK5.heap (k := w.heap.size) hH4 (by simp; omega)
  have hG5 := hK5.heap (k := w.heap.size + 1) hG4 (by simp; omega)
  have hK5' : Kp [A, C] w w5 := hK4.trans hK5 (by simp +contextual)
  clear hK5 hK4 hA4 hC4 hV4 hH4 hG4
  refine hK.out _ _ ⟨hH5, hG5⟩ (fun _ => ?_)
  clear hK K
  refine wpAnyH_done (by kernel_rfl) ?_ _
  try simp only [Act.put, List.setIfInBounds_toArray, List.set_cons_zero, List.set_cons_succ, List.getElem_toArray, List.getElem_cons_succ, List.getElem_cons_zero]
  clear hH5 hG5
  go_wp2_with fail
  refine (settle_one V A n C v5 (calls + 1) (writes + 1) i (enc (headBlock N)) (enc l) _ hV5 hA5 (by omega) (by omega) hv5 hi hn hC5 (by rw [enc_size]; exact hs) hAC).mono ?_
  rintro e w6 ⟨rfl, hA6, hC6, hK6⟩
  rw [show calls + 1 + 1 = calls + 2 from by omega] at hA6
  rw [laidOver_enc] at hC6
  go_wp2
  go_end0
  exact ⟨rfl, hA6, hC6, hK5'.trans hK6 (by simp)⟩
end Go.Proofs.YtilapcegpjjlfaaGreatDoor
