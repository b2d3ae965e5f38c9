import Derived.Test.YtilapcegpjjlfaaGreatDoorBytes
namespace Go.Proofs.YtilapcegpjjlfaaGreatDoor
set_option linter.unusedSimpArgs false
set_option linter.unusedVariables false
open Go.RowKit

theorem exec_indexS {P : Program} {a : Act} {w : World} {o : Oper} {x ix : Operand} {t e : TypeId} (ho : o.op = .indexAddr t x ix) (ht : P.underlying t = some (.slice e)) {size : Nat} (hs : (P.info? e).map (·.size) = some size)
    (k : IntKind) (i b so len cap : Nat) (hx : a.eval x = .slice (some ⟨b, so, none⟩) len cap) (hi : a.eval ix = .int k i) (hlt : i < len) {r : Nat} (hr : r = so + i * size) :
    Sem.run P (execOp a.eval o) w = .ok (.value (.pointer (some ⟨b, r, none⟩))) w := by
  obtain ⟨ie, hie, hsz⟩ := Option.map_eq_some_iff.1 hs
  subst hr
  unfold execOp
  simp only [ho, hx, hi, Sem.run_bind]
  simp [Instr.indexAt, run_underlying ht, Go.sizeOf, typeInfo, hie, hsz, asIntOf, Instr.sureAddr, hlt, add_none]
theorem exec_indexA {P : Program} {a : Act} {w : World} {o : Oper} {x ix : Operand} {t e : TypeId} {n : Nat} (ho : o.op = .indexAddr t x ix) (ht : P.underlying t = some (.array n e)) {size : Nat} (hs : (P.info? e).map (·.size) = some size)
    (k : IntKind) (i b so : Nat) (hx : a.eval x = .pointer (some ⟨b, so, none⟩)) (hi : a.eval ix = .int k i) (hlt : i < n) {r : Nat} (hr : r = so + i * size) :
    Sem.run P (execOp a.eval o) w = .ok (.value (.pointer (some ⟨b, r, none⟩))) w := by
  obtain ⟨ie, hie, hsz⟩ := Option.map_eq_some_iff.1 hs
  subst hr
  unfold execOp
  simp only [ho, hx, hi, Sem.run_bind]
  simp [Instr.indexAt, run_underlying ht, Go.sizeOf, typeInfo, hie, hsz, asIntOf, Instr.sureAddr, hlt, add_none]

theorem exec_store1 {P : Program} {a : Act} {w : World} {o : Oper} {x y : Operand} {t : TypeId} (ho : o.op = .store t x y) (v : Value) (hs : (P.info? t).map (·.size) = some 1) (hv : v.oneCell' = true)
    (b o' : Nat) (hx : a.eval x = .pointer (some ⟨b, o', none⟩)) (hy : a.eval y = v) {cur : Array Value} {tb : TypeId} (hb : w.heap[b]? = some (.cells cur tb)) (hin : o' < cur.size) :
    Sem.run P (execOp a.eval o) w = .ok .skip (w.setRow b (laidOver cur o' #[v])) := by
  obtain ⟨i, hi, hin'⟩ := Option.map_eq_some_iff.1 hs
  have hc : v.cells = #[v] := by cases v <;> first | rfl | cases hv
  have hr := run_storeA (P := P) (w := w) (o := o') (vs := [v]) hb (by simp; omega) (by simp [hv])
  have hrun : Sem.run P (Instr.storeAt t (.pointer (some ⟨b, o', none⟩)) v) w = .ok () (w.setRow b (laidOver cur o' #[v])) := by
    simp [Instr.storeAt, Instr.sureAddr, storeVar, Go.sizeOf, typeInfo, hi, hin', hc, hr]
  unfold execOp
  simp only [ho, Sem.run_bind, Sem.run_pure, Result.andThen_ok, hx, hy, hrun]

set_option maxHeartbeats 400000 in
set_option maxRecDepth 10000 in
theorem laid_ok (m : Nat) (l : List UInt8) (w : World) (hm : m < 1000) (hl : l.length = m * 128) :
    Calls Tryz.prog 24 #[.int .i64 m, .string ⟨l.toArray⟩] w fun e w' => e = .returned (.pointer (some ⟨w.heap.size + 1, 0, none⟩)) ∧
      w'.heap[w.heap.size]? = some (.cells (enc l) 88) ∧ w'.heap[w.heap.size + 1]? = some (dobj m w.heap.size (.slice none 0 0) 0 0) ∧ Kp [] w w' := by
  go_enter Tryz.func24, Tryz.ntmps24
  go_wp2_with fail
  refine (newDisk_nat m w hm m (by omega) (by omega)).mono ?_
  rintro e w1 ⟨rfl, Z, hZ, hZ0, rfl⟩
  obtain ⟨W1, hW1, hK1, hA1, hC1⟩ : ∃ W1, W1 = (w.alloc (.cells Z 88)).alloc (dobj m w.heap.size (.slice none 0 0) 0 0) ∧ Kp [] w W1 ∧ W1.heap[w.heap.size + 1]? = some (dobj m w.heap.size (.slice none 0 0) 0 0) ∧ W1.heap[w.heap.size]? = some (.cells Z 88) :=
    ⟨_, rfl, ((Kp.refl _ _).alloc _).alloc _, by simpa using heap_new (w.alloc (.cells Z 88)) (dobj m w.heap.size (.slice none 0 0) 0 0), heap_old _ (heap_new _ _)⟩
  rw [← hW1]
  clear hW1
  go_wp2
  go_loopw [6] (fun i wr => ∃ (k : Nat) (cur : Array Value), k ≤ m * 128 ∧ i = .int .i64 k ∧ cur.size = m * 128 ∧ (∀ j, j < k → cur[j]? = (enc l)[j]?) ∧ wr.heap[w.heap.size]? = some (.cells cur 88) ∧ wr.heap[w.heap.size + 1]? = some (dobj m w.heap.size (.slice none 0 0) 0 0) ∧ Kp [] w wr) (fun i _ => m * 128 - (intOf i).toNat)
  case atStart => exact ⟨0, Z, Nat.zero_le _, rfl, hZ, fun j hj => by omega, hC1, hA1, hK1⟩
  case round =>
    obtain ⟨k, cur, hk, rfl, hcs, hcur, hC, hA, hK⟩ := hrel
    have c0 := cell_of hA 0
    simp at c0
    have Hcur : Hid (∀ j, j < k → cur[j]? = (enc l)[j]?) := hcur
    clear hcur hC1 hA1 hK1
    by_cases hlt : k < m * 128
    · obtain ⟨x, hx⟩ : ∃ x : UInt8, l[k]? = some x := ⟨_, List.getElem?_eq_getElem (by omega)⟩
      have HX : Hid (l[k]? = some x) := hx
      clear hx
      have hb1 : decide ((k : Int) < (l.length : Int)) = true := by simp; omega
      have hb2 : decide ((k : Int) < (m : Int) * 128) = true := by simp; omega
      go_wp2_with fail
      generalize hQQ : Exit.inBlock 1 _ = QQ
      have HQQ : Hid (_ = QQ) := hQQ
      clear hQQ
      have HQP : Hid (∀ c a (d : Option Tmp) v w, QQ (.panic c) (a.put d v) w → QQ (.panic c) a w) := by
        rw [← HQQ.out]; intro c a d v w h; cases d <;> exact h
      have hqw : IntKind.i64.wrap ((k : Int) / 128) = (k : Int) / 128 := by simp only [IntKind.wrap_i64]; omega
      have hrm : (k : Int).tmod 128 = (k : Int) % 128 := Int.tmod_eq_emod_of_nonneg (by omega)
      refine wp_region_held_drew (S := fun W => W.heap[w.heap.size + 1]? = some (dobj m w.heap.size (.slice none 0 0) 0 0)) (by kernel_rfl) hA (fun _ => ?_)
      refine wpAnyH_take (i := 0) (v := .pointer (some ⟨w.heap.size + 1, 0, none⟩)) rfl (by kernel_rfl) (by kernel_rfl) (by kernel_rfl) (fun c a w h => HQP.out c a _ _ w h) (Or.inl ⟨by rfl, fun W hS => rfl⟩) hA ?_
      simp only [Act.put, List.setIfInBounds_toArray, List.set_cons_zero, List.set_cons_succ, List.getElem_toArray, List.getElem_cons_succ, List.getElem_cons_zero]
      refine wpAnyH_take (i := 1) (v := .pointer (some ⟨w.heap.size + 1, 0, none⟩)) rfl (by kernel_rfl) (by kernel_rfl) (by kernel_rfl) (fun c a w h => HQP.out c a _ _ w h) (Or.inl ⟨by rfl, fun W hS => rfl⟩) hA ?_
      simp only [Act.put, List.setIfInBounds_toArray, List.set_cons_zero, List.set_cons_succ, List.getElem_toArray, List.getElem_cons_succ, List.getElem_cons_zero]
      refine wpAnyH_take (i := 2) (v := .pointer (some ⟨w.heap.size + 1, 0, none⟩)) rfl (by kernel_rfl) (by kernel_rfl) (by kernel_rfl) (fun c a w h => HQP.out c a _ _ w h) (Or.inl ⟨by rfl, fun W hS => by clear hS; go_simp⟩) hA ?_
      simp only [Act.put, List.setIfInBounds_toArray, List.set_cons_zero, List.set_cons_succ, List.getElem_toArray, List.getElem_cons_succ, List.getElem_cons_zero]
      refine wpAnyH_take (i := 3) (v := .slice (some ⟨w.heap.size, 0, none⟩) m m) rfl (by kernel_rfl) (by kernel_rfl) (by kernel_rfl) (fun c a w h => HQP.out c a _ _ w h) (Or.inl ⟨by rfl, fun W hS => by have c := cell_of hS 0; simp at c; clear hS; go_simp⟩) hA ?_
      simp only [Act.put, List.setIfInBounds_toArray, List.set_cons_zero, List.set_cons_succ, List.getElem_toArray, List.getElem_cons_succ, List.getElem_cons_zero]
      refine wpAnyH_take (i := 4) (v := .int .i64 k) rfl (by kernel_rfl) (by kernel_rfl) (by kernel_rfl) (fun c a w h => HQP.out c a _ _ w h) (Or.inl ⟨by rfl, fun W hS => rfl⟩) hA ?_
      simp only [Act.put, List.setIfInBounds_toArray, List.set_cons_zero, List.set_cons_succ, List.getElem_toArray, List.getElem_cons_succ, List.getElem_cons_zero]
      refine wpAnyH_take (i := 5) (v := .int .i64 ((k / 128 : Nat) : Int)) rfl (by kernel_rfl) (by kernel_rfl) (by kernel_rfl) (fun c a w h => HQP.out c a _ _ w h) (Or.inl ⟨by rfl, fun W hS => by clear hS; go_simp⟩) hA ?_
      simp only [Act.put, List.setIfInBounds_toArray, List.set_cons_zero, List.set_cons_succ, List.getElem_toArray, List.getElem_cons_succ, List.getElem_cons_zero]
      refine wpAnyH_take (i := 6) (v := .int .i64 k) rfl (by kernel_rfl) (by kernel_rfl) (by kernel_rfl) (fun c a w h => HQP.out c a _ _ w h) (Or.inl ⟨by rfl, fun W hS => rfl⟩) hA ?_
      simp only [Act.put, List.setIfInBounds_toArray, List.set_cons_zero, List.set_cons_succ, List.getElem_toArray, List.getElem_cons_succ, List.getElem_cons_zero]
      refine wpAnyH_take (i := 7) (v := .int .i64 ((k % 128 : Nat) : Int)) rfl (by kernel_rfl) (by kernel_rfl) (by kernel_rfl) (fun c a w h => HQP.out c a _ _ w h) (Or.inl ⟨by rfl, fun W hS => by clear hS; go_simp⟩) hA ?_
      simp only [Act.put, List.setIfInBounds_toArray, List.set_cons_zero, List.set_cons_succ, List.getElem_toArray, List.getElem_cons_succ, List.getElem_cons_zero]
      refine wpAnyH_take (i := 8) (v := .string ⟨l.toArray⟩) rfl (by kernel_rfl) (by kernel_rfl) (by kernel_rfl) (fun c a w h => HQP.out c a _ _ w h) (Or.inl ⟨by rfl, fun W hS => rfl⟩) hA ?_
      simp only [Act.put, List.setIfInBounds_toArray, List.set_cons_zero, List.set_cons_succ, List.getElem_toArray, List.getElem_cons_succ, List.getElem_cons_zero]
      refine wpAnyH_take (i := 9) (v := .int .i64 k) rfl (by kernel_rfl) (by kernel_rfl) (by kernel_rfl) (fun c a w h => HQP.out c a _ _ w h) (Or.inl ⟨by rfl, fun W hS => rfl⟩) hA ?_
      simp only [Act.put, List.setIfInBounds_toArray, List.set_cons_zero, List.set_cons_succ, List.getElem_toArray, List.getElem_cons_succ, List.getElem_cons_zero]
      refine wpAnyH_take (i := 10) (v := .int .u8 (x.toNat : Int)) rfl (by kernel_rfl) (by kernel_rfl) (by kernel_rfl) (fun c a w h => HQP.out c a _ _ w h) (Or.inl ⟨by rfl, fun W hS => by clear hS; go_simp; rw [dif_pos (by omega)]; have e := HX.out; rw [List.getElem?_eq_getElem (by omega)] at e; simp at e; simp [← e]; rfl⟩) hA ?_
      simp only [Act.put, List.setIfInBounds_toArray, List.set_cons_zero, List.set_cons_succ, List.getElem_toArray, List.getElem_cons_succ, List.getElem_cons_zero]
      refine wpAnyH_take (i := 11) (v := .pointer (some ⟨w.heap.size, k / 128 * 128, none⟩)) rfl (by kernel_rfl) (by kernel_rfl) (by kernel_rfl) (fun c a w h => HQP.out c a _ _ w h) (Or.inl ⟨by rfl, fun W hS => exec_indexS rfl Tryz.underlying84 (size := 128) (by kernel_rfl) .i64 (k / 128) w.heap.size 0 m m rfl rfl (by omega) (by omega)⟩) hA ?_
      simp only [Act.put, List.setIfInBounds_toArray, List.set_cons_zero, List.set_cons_succ, List.getElem_toArray, List.getElem_cons_succ, List.getElem_cons_zero]
      refine wpAnyH_take (i := 12) (v := .pointer (some ⟨w.heap.size, k, none⟩)) rfl (by kernel_rfl) (by kernel_rfl) (by kernel_rfl) (fun c a w h => HQP.out c a _ _ w h) (Or.inl ⟨by rfl, fun W hS => exec_indexA rfl Tryz.underlying88 (size := 1) (by kernel_rfl) .i64 (k % 128) w.heap.size (k / 128 * 128) rfl rfl (by omega) (by omega)⟩) hA ?_
      simp only [Act.put, List.setIfInBounds_toArray, List.set_cons_zero, List.set_cons_succ, List.getElem_toArray, List.getElem_cons_succ, List.getElem_cons_zero]
      refine wpAnyH_ready (rs := [13]) (by kernel_rfl) (by simp) ?_
      refine AllReadyH.cons rfl (fun K hKK => ?_) AllReadyH.nil
      refine step_skip rfl (exec_store1 (t := 5) rfl (.int .u8 (x.toNat : Int)) (by kernel_rfl) rfl w.heap.size k rfl rfl (cur := cur) (tb := 88) hC (by omega)) ?_
      have hAo := (setRow_other wr.drew w.heap.size (w.heap.size + 1) (laidOver cur k #[.int .u8 (x.toNat : Int)]) (by omega)).trans hA
      have hCo := setRow_heap wr.drew w.heap.size _ (laidOver cur k #[.int .u8 (x.toNat : Int)]) _ _ hC
      have hKo := (hK.drew).setRow (g := w.heap.size) (by simp) (laidOver cur k #[.int .u8 (x.toNat : Int)])
      refine hKK.out _ _ hAo (fun _ => ?_)
      clear hKK K
      refine wpAnyH_done (by kernel_rfl) ?_ _
      have hls : (laidOver cur k #[.int .u8 (x.toNat : Int)]).size = m * 128 := by rw [laidOver_size (by simp; omega)]; exact hcs
      have hlc : ∀ j, j < k + 1 → (laidOver cur k #[.int .u8 (x.toNat : Int)])[j]? = (enc l)[j]? := by
        intro j hj
        by_cases hjk : j = k
        · subst hjk
          have := laidOver_in (cs := cur) (p := #[.int .u8 (x.toNat : Int)]) (o := j) (j := 0) (by simp; omega) (by simp)
          rw [Nat.add_zero] at this
          rw [this]
          simp [enc, encL, HX.out]
        · rw [laidOver_out (by simp; omega) (by omega)]
          exact Hcur.out j (by omega)
      rw [← HQQ.out]
      generalize laidOver cur k #[.int .u8 (x.toNat : Int)] = cur2 at *
      generalize wr.drew.setRow w.heap.size cur2 = W2 at *
      simp only [Act.put, List.setIfInBounds_toArray, List.set_cons_zero, List.set_cons_succ, List.getElem_toArray, List.getElem_cons_succ, List.getElem_cons_zero]
      clear HQP HQQ hqw hrm
      have HL : Hid (∀ j, j < k + 1 → cur2[j]? = (enc l)[j]?) := hlc
      clear hlc
      go_wp2
      refine ⟨⟨k + 1, cur2, by omega, by go_num, hls, HL.out, hCo, hAo, hKo⟩, by simp [intOf]; omega⟩
    · have hb1 : decide ((k : Int) < (l.length : Int)) = false := by simp; omega
      go_wp2
      go_ret
      have hkm : k = m * 128 := by omega
      have e : cur = enc l := by
        apply Array.ext_getElem?
        intro j
        by_cases hj : j < k
        · exact Hcur.out j hj
        · rw [Array.getElem?_eq_none (by omega), Array.getElem?_eq_none (by rw [enc_size]; omega)]
      rw [e] at hC
      exact ⟨rfl, hC, hA, hK⟩
end Go.Proofs.YtilapcegpjjlfaaGreatDoor
