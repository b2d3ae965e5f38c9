import Derived.Test.YtilapcegpjjlfaaGreatDoorMem
import Derived.Laws.CopyRow
import Derived.Deep.OwnRows
import Derived.Great.BuildSlice
import Derived.Great.FillDense
namespace Go.Proofs.YtilapcegpjjlfaaGreatDoor
set_option linter.unusedSimpArgs false
set_option linter.unusedVariables false
open Go.RowKit

/-- A piece of a block. -/
def piece (cs : Array Value) (o n : Nat) : Array Value := ((cs.toList.drop o).take n).toArray
/-- A block with a piece laid over it. -/
def laidOver (cs : Array Value) (o : Nat) (p : Array Value) : Array Value := (cs.toList.take o ++ p.toList ++ cs.toList.drop (o + p.size)).toArray
theorem piece_size {cs : Array Value} {o n : Nat} (h : o + n ≤ cs.size) : (piece cs o n).size = n := by simp [piece]; omega
theorem laidOver_size {cs p : Array Value} {o : Nat} (h : o + p.size ≤ cs.size) : (laidOver cs o p).size = cs.size := by simp [laidOver]; omega
theorem piece_get {cs : Array Value} {o n j : Nat} (h : j < n) : (piece cs o n)[j]? = cs[o + j]? := by
  simp [piece, List.getElem?_take, h]
theorem laidOver_in {cs p : Array Value} {o j : Nat} (h : o + p.size ≤ cs.size) (hj : j < p.size) : (laidOver cs o p)[o + j]? = p[j]? := by
  unfold laidOver
  rw [List.getElem?_toArray, List.append_assoc, List.getElem?_append_right (by simp; omega), List.getElem?_append_left (by simp; omega)]
  simp; congr 1; omega
theorem laidOver_out {cs p : Array Value} {o j : Nat} (h : o + p.size ≤ cs.size) (hj : j < o ∨ o + p.size ≤ j) : (laidOver cs o p)[j]? = cs[j]? := by
  unfold laidOver
  rw [List.getElem?_toArray, List.append_assoc]
  rcases hj with hj | hj
  · rw [List.getElem?_append_left (by simp; omega), List.getElem?_take]; simp [hj]
  · rw [List.getElem?_append_right (by simp; omega), List.getElem?_append_right (by simp; omega), List.getElem?_drop]
    simp; congr 1; omega

theorem Kp.setRow {S : List Nat} {a b : World} (h : Kp S a b) {g : Nat} (hp : g ∈ S ∨ a.heap.size ≤ g) (cs : Array Value) : Kp S a (b.setRow g cs) :=
  ⟨h.os, h.tape, h.output, by have := h.size; simp [World.setRow]; omega, fun k hk hn => (setRow_other _ _ _ _ (by
    rcases hp with hp | hp
    · intro e; subst e; exact hn hp
    · omega)).trans (h.block k hk hn)⟩

theorem own_form {w : World} {base : Nat} {e : TypeId} {sz : Nat} {v : Value} {n : Nat} {xs : List Value} (h : w.ownsRow base e sz v (n + 1) xs) : ∃ g cap, v = .slice (some ⟨g, 0, none⟩) (n + 1) cap := by
  obtain ⟨_, h2⟩ := h
  rcases h2 with ⟨_, h0⟩ | ⟨g, cap, cur, rfl, _⟩
  · cases h0
  · exact ⟨g, cap, rfl⟩

section
variable {P : Program} {w : World} {ops : Array Oper} {rest : List Oper} {a : Act} {Q : Exit → Act → World → Prop} {dst : Option Tmp} {ty : TypeId} {pos : String} {aft : Array Edge}

theorem add_none (b o j : Nat) : (⟨b, o, none⟩ : Addr).add j = ⟨b, o + j, none⟩ := by unfold Addr.add; split <;> simp_all

/-- copy, as the walk meets it. -/
theorem run_copyA {t t' e : TypeId} (ty : TypeId) (hu : P.underlying t = some (.slice e)) (hs : (P.info? e).map (·.size) = some 1)
    {g o dLen dCap b so sLen sCap : Nat} (n : Nat) (hn : n = Nat.min sLen dLen)
    {cur src : Array Value} {tg tb : TypeId} {fr : Nat × Nat} (hg : w.heap[g]? = some (.cells cur tg)) (hb : w.heap[b]? = some (.cells src tb fr)) (hfit : o + n ≤ cur.size) (hin : so + n ≤ src.size)
    (h1 : ∀ v ∈ (piece src so n).toList, v.oneCell' = true) :
    Sem.run P (Builtin.copy_ #[t, t'] ty #[.slice (some ⟨g, o, none⟩) dLen dCap, .slice (some ⟨b, so, none⟩) sLen sCap]) w = .ok (.int .i64 n) (w.setRow g (laidOver cur o (piece src so n))) := by
  have hsz := piece_size (cs := src) hin
  have hr := run_copy_row P w t t' ty e g o dLen dCap ⟨b, so, none⟩ sLen sCap cur tg (piece src so n).toList hu hs hg (by rw [Array.length_toList, hsz, hn]) (fun j v hj => by
    rw [add_none, cell_of hb]
    have hlt : j < n := by
      have := (List.getElem?_eq_some_iff.1 hj).1; simp [hsz] at this; exact this
    rw [← piece_get hlt]; simpa using hj) (by simp [hsz]; omega) h1
  have e1 : goInt ((piece src so n).toList.length : Int) = .int .i64 n := by simp [goInt, hsz]
  have e2 : (cur.toList.take o ++ (piece src so n).toList ++ cur.toList.drop (o + (piece src so n).toList.length)).toArray = laidOver cur o (piece src so n) := by simp [laidOver]
  rw [hr, e1, e2]

/-- A whole array or struct is written, as the walk meets it. -/
theorem run_storeA {g o : Nat} {t : TypeId} {vs : List Value} {cur : Array Value} (hg : w.heap[g]? = some (.cells cur t)) (hfit : o + vs.length ≤ cur.size) (h1 : ∀ v ∈ vs, v.oneCell' = true) :
    Sem.run P (storeCells ⟨g, o, none⟩ vs) w = .ok () (w.setRow g (laidOver cur o vs.toArray)) := by
  have hr := run_storeCells_at P g o t vs 0 cur w hg (by simpa using hfit) h1
  rw [hr]; simp [laidOver]

/-- A whole array or struct is read, as the walk meets it. -/
theorem run_loadA {b o n : Nat} {src : Array Value} {tb : TypeId} {fr : Nat × Nat} (hb : w.heap[b]? = some (.cells src tb fr)) (hin : o + n ≤ src.size) :
    Sem.run P (loadCells ⟨b, o, none⟩ n) w = .ok (piece src o n) w := by
  have hsz := piece_size (cs := src) hin
  have hl := run_loadCells_list (P := P) w ⟨b, o, none⟩ (piece src o n).toList (fun j v hj => by
    rw [add_none, cell_of hb]
    have hlt : j < n := by
      have := (List.getElem?_eq_some_iff.1 hj).1; simp [hsz] at this; exact this
    rw [← piece_get hlt]; simpa using hj)
  simpa [hsz] using hl

/-- One step of a region that draws its order, by its run. -/
theorem step_run {o : Oper} {v : Value} {w' : World} {K : Act → World → Prop} {E : Prop} (hg : o.guard = none) (hr : Sem.run P (execOp a.eval o) w = .ok (.value v) w') (hK : K (a.put o.dst v) w') :
    if Region.wanted o (yielded ops a.tmps) = true then Oper.wp P o a w K Q else E := by
  have hw : Region.wanted o (yielded ops a.tmps) = true := by simp [Region.wanted, hg]
  rw [if_pos hw]
  unfold Oper.wp
  rw [hr]
  exact hK
theorem step_skip {o : Oper} {w' : World} {K : Act → World → Prop} {E : Prop} (hg : o.guard = none) (hr : Sem.run P (execOp a.eval o) w = .ok .skip w') (hK : K (a.put o.dst undef) w') :
    if Region.wanted o (yielded ops a.tmps) = true then Oper.wp P o a w K Q else E := by
  have hw : Region.wanted o (yielded ops a.tmps) = true := by simp [Region.wanted, hg]
  rw [if_pos hw]
  unfold Oper.wp
  rw [hr]
  exact hK
theorem exec_loadA {o : Oper} {x : Operand} {t : TypeId} (ho : o.op = .load t x) (hagg : (match P.underlying t with | some (.struct _) => true | some (.array _ _) => true | _ => false) = true) (n : Nat) (hs : (P.info? t).map (·.size) = some n)
    (b o' : Nat) (hx : a.eval x = .pointer (some ⟨b, o', none⟩)) {src : Array Value} {tb : TypeId} {fr : Nat × Nat} (hb : w.heap[b]? = some (.cells src tb fr)) (hin : o' + n ≤ src.size) :
    Sem.run P (execOp a.eval o) w = .ok (.value (.agg (piece src o' n))) w := by
  have hl' := run_loadA (P := P) hb hin
  obtain ⟨i, hi, hin'⟩ := Option.map_eq_some_iff.1 hs
  have hrun : Sem.run P (Instr.loadAt t (.pointer (some ⟨b, o', none⟩))) w = .ok (.agg (piece src o' n)) w := by
    cases hd : P.underlying t with
    | none => simp [hd] at hagg
    | some d => cases d <;> simp [hd] at hagg <;> simp [Instr.loadAt, Instr.sureAddr, loadVar, isAgg, run_underlying hd, Go.sizeOf, typeInfo, hi, hin', hl']
  unfold execOp
  simp only [ho, Sem.run_bind, Sem.run_pure, Result.andThen_ok, hx, hrun]

theorem exec_build1 {o : Oper} {x : Operand} {t e : TypeId} (ho : o.op = .buildSlice t 1 #[(0, x)]) (v z : Value) (size bytes : Nat) (ht : P.underlying t = some (.slice e)) (hi : (P.info? e).map (fun i => (i.zero, i.size, i.bytes)) = some (some z, size, bytes))
    (hx : a.eval x = v) (hv : v.cells.size = size) (hpos : 0 < size) (hsm : size ≤ 16777216) :
    Sem.run P (execOp a.eval o) w = .ok (.value (.slice (some ⟨w.heap.size, 0, none⟩) 1 1)) (w.alloc (.cells v.cells e)) := by
  obtain ⟨i, hi', hz⟩ := Option.map_eq_some_iff.1 hi
  simp only [Prod.mk.injEq] at hz
  obtain ⟨hz, hsz, hby⟩ := hz
  have hf := Great.fill_whole (s := i.size) (by omega) [v] ((Array.range (1 * i.size)).map (z.cells[· % z.cells.size]!)) (by simp [hv, hsz]) (by simp)
  have hr := run_buildSlice (P := P) w t e 1 #[(0, v)] v.cells i z ht hi' hz (by omega) (by omega) (by simpa using hf)
  unfold execOp
  simp only [ho, Sem.run_bind, Sem.run_pure, Result.andThen_ok, List.map_toArray, List.map_cons, List.map_nil, hx, hr]

theorem exec_append {o : Oper} {s x : Operand} {t e : TypeId} (ho : o.op = .call { callee := .builtin .append, args := #[s, x], argTypes := #[t, t] }) (z : Value) (size bytes : Nat) (ht : P.underlying t = some (.slice e)) (hi : (P.info? e).map (fun i => (i.zero, i.size, i.bytes)) = some (some z, size, bytes))
    (hzs : z.cells.size = size) (hsz : 0 < size) (base : Nat) (v : Value) (n : Nat) (xs : List Value) (hs : a.eval s = v) (hown : w.ownsRow base e size v n xs)
    (b so m c : Nat) (src : Array Value) (tb : TypeId) (fr : Nat × Nat) (hx : a.eval x = .slice (some ⟨b, so, none⟩) m c) (hb : w.heap[b]? = some (.cells src tb fr)) (hin : so + m * size ≤ src.size)
    (h1 : ∀ u ∈ (piece src so (m * size)).toList, u.oneCell' = true) (h63 : n + m ≤ 1000000000) (hbytes : (n + m) * bytes ≤ 140737488355328) (hbase : base ≤ w.heap.size) :
    ∃ v' w', Sem.run P (execOp a.eval o) w = .ok (.value v') w' ∧ w'.ownsRow base e size v' (n + m) (xs ++ (piece src so (m * size)).toList) ∧ w.grownBy w' v.ownBlock ∧ (v' = .slice none 0 0 ↔ v = .slice none 0 0 ∧ m = 0) := by
  obtain ⟨i, hi', hz⟩ := Option.map_eq_some_iff.1 hi
  simp only [Prod.mk.injEq] at hz
  obtain ⟨hz, hsz', hby⟩ := hz
  have hps := piece_size (cs := src) hin
  obtain ⟨v', w', hr, r1, r2, r3⟩ := run_append_own (P := P) w base t o.type e i z size bytes ht hi' hz hsz' hby hzs hsz v n xs hown ⟨b, so, none⟩ m c (piece src so (m * size)).toList (by simpa using hps) (fun j u hj => by
    rw [add_none, cell_of hb]
    have hlt : j < m * size := by
      have := (List.getElem?_eq_some_iff.1 hj).1; simp [hps] at this; exact this
    rw [← piece_get hlt]; simpa using hj) h1 (by unfold maxLen; omega) hbytes hbase
  refine ⟨v', w', ?_, r1, r2, r3⟩
  unfold execOp
  simp only [ho, resolve, invoke, builtin, Sem.run_bind, Sem.run_pure, Result.andThen_ok, List.map_toArray, List.map_cons, List.map_nil, hs, hx, hr]

theorem exec_loadW {o : Oper} {x : Operand} {t : TypeId} (ho : o.op = .load t x) (hagg : (match P.underlying t with | some (.struct _) => true | some (.array _ _) => true | _ => false) = true) (n : Nat) (hs : (P.info? t).map (·.size) = some n)
    (b : Nat) (hx : a.eval x = .pointer (some ⟨b, 0, none⟩)) {src : Array Value} {tb : TypeId} {fr : Nat × Nat} (hb : w.heap[b]? = some (.cells src tb fr)) (hin : src.size = n) :
    Sem.run P (execOp a.eval o) w = .ok (.value (.agg src)) w := by
  have h := exec_loadA (P := P) ho hagg n hs b 0 hx hb (by omega)
  have e : piece src 0 n = src := by rw [← hin]; simp [piece, List.take_of_length_le]
  rw [e] at h; exact h

theorem step_append {o : Oper} {K : Act → World → Prop} {E : Prop} (hg : o.guard = none) {s x : Operand} {t e : TypeId} (ho : o.op = .call { callee := .builtin .append, args := #[s, x], argTypes := #[t, t] }) (z : Value) (size bytes : Nat) (ht : P.underlying t = some (.slice e)) (hi : (P.info? e).map (fun i => (i.zero, i.size, i.bytes)) = some (some z, size, bytes))
    (hzs : z.cells.size = size) (hsz : 0 < size) (base : Nat) (v : Value) (n : Nat) (xs : List Value) (hs : a.eval s = v) (hown : w.ownsRow base e size v n xs)
    (b so m c : Nat) (src : Array Value) (tb : TypeId) (fr : Nat × Nat) (hx : a.eval x = .slice (some ⟨b, so, none⟩) m c) (hb : w.heap[b]? = some (.cells src tb fr)) (hin : so + m * size ≤ src.size)
    (h1 : ∀ u ∈ (piece src so (m * size)).toList, u.oneCell' = true) (h63 : n + m ≤ 1000000000) (hbytes : (n + m) * bytes ≤ 140737488355328) (hbase : base ≤ w.heap.size)
    (hK : ∀ v' w', w'.ownsRow base e size v' (n + m) (xs ++ (piece src so (m * size)).toList) → w.grownBy w' v.ownBlock → (v' = .slice none 0 0 ↔ v = .slice none 0 0 ∧ m = 0) → K (a.put o.dst v') w') :
    if Region.wanted o (yielded ops a.tmps) = true then Oper.wp P o a w K Q else E := by
  obtain ⟨v', w', hr, r1, r2, r3⟩ := exec_append (P := P) ho z size bytes ht hi hzs hsz base v n xs hs hown b so m c src tb fr hx hb hin h1 h63 hbytes hbase
  exact step_run hg hr (hK v' w' r1 r2 r3)

theorem exec_loadB {o : Oper} {x : Operand} {t : TypeId} (ho : o.op = .load t x) (hagg : (match P.underlying t with | some (.struct _) => true | some (.array _ _) => true | _ => false) = true) (n : Nat) (hs : (P.info? t).map (·.size) = some n)
    (b o' : Nat) (hx : a.eval x = .pointer (some ⟨b, o', none⟩)) {src r : Array Value} {tb : TypeId} {fr : Nat × Nat} (hb : w.heap[b]? = some (.cells src tb fr)) (hin : o' + n ≤ src.size) (hr : piece src o' n = r) :
    Sem.run P (execOp a.eval o) w = .ok (.value (.agg r)) w := hr ▸ exec_loadA ho hagg n hs b o' hx hb hin

theorem exec_storeA {o : Oper} {x y : Operand} {t : TypeId} (ho : o.op = .store t x y) (vs : Array Value) (hs : (P.info? t).map (·.size) = some vs.size)
    (b o' : Nat) (hx : a.eval x = .pointer (some ⟨b, o', none⟩)) (hy : a.eval y = .agg vs) {cur : Array Value} {tb : TypeId} (hb : w.heap[b]? = some (.cells cur tb)) (hin : o' + vs.size ≤ cur.size)
    (h1 : ∀ v ∈ vs.toList, v.oneCell' = true) : Sem.run P (execOp a.eval o) w = .ok .skip (w.setRow b (laidOver cur o' vs)) := by
  obtain ⟨i, hi, hin'⟩ := Option.map_eq_some_iff.1 hs
  have hr := run_storeA (P := P) (w := w) (o := o') (vs := vs.toList) hb (by simpa using hin) h1
  have hrun : Sem.run P (Instr.storeAt t (.pointer (some ⟨b, o', none⟩)) (.agg vs)) w = .ok () (w.setRow b (laidOver cur o' vs)) := by
    simp [Instr.storeAt, Instr.sureAddr, storeVar, Go.sizeOf, typeInfo, hi, hin', Value.cells, hr]
  unfold execOp
  simp only [ho, Sem.run_bind, Sem.run_pure, Result.andThen_ok, hx, hy, hrun]

theorem piece_all (cs : Array Value) : piece cs 0 cs.size = cs := by simp [piece, List.take_of_length_le]

/-- copy: from one block into another (or within it). -/
theorem wpList_copyA {s x : Operand} {t t' e : TypeId} (hu : P.underlying t = some (.slice e)) (hs : (P.info? e).map (·.size) = some 1)
    (g o dLen dCap b so sLen sCap n : Nat) (hd : a.eval s = .slice (some ⟨g, o, none⟩) dLen dCap) (hx : a.eval x = .slice (some ⟨b, so, none⟩) sLen sCap) (hn : n = Nat.min sLen dLen)
    (cur src : Array Value) (tg tb : TypeId) (fr : Nat × Nat) (hg : w.heap[g]? = some (.cells cur tg)) (hb : w.heap[b]? = some (.cells src tb fr)) (hfit : o + n ≤ cur.size) (hin : so + n ≤ src.size)
    (h1 : ∀ v ∈ (piece src so n).toList, v.oneCell' = true)
    (h : wpList P ops Q rest (a.put dst (.int .i64 n)) (w.setRow g (laidOver cur o (piece src so n)))) :
    wpList P ops Q (⟨dst, .call { callee := .builtin .copy, args := #[s, x], argTypes := #[t, t'] }, ty, pos, aft, none⟩ :: rest) a w := by
  refine wpList_plain rfl fun K hK => ?_
  have hsz := piece_size (cs := src) hin
  have hr := run_copy_row P w t t' ty e g o dLen dCap ⟨b, so, none⟩ sLen sCap cur tg (piece src so n).toList hu hs hg (by rw [Array.length_toList, hsz, hn]) (fun j v hj => by
    rw [add_none, cell_of hb]
    have hlt : j < n := by
      have := (List.getElem?_eq_some_iff.1 hj).1; simp [hsz] at this; exact this
    rw [← piece_get hlt]; simpa using hj) (by simp [hsz]; omega) h1
  have hk := hK _ _ h
  unfold Oper.wp execOp
  simp only [resolve, invoke, builtin, Sem.run_bind, Sem.run_pure, Result.andThen_ok, List.map_toArray, List.map_cons, List.map_nil, hd, hx, hr]
  have e1 : goInt ((piece src so n).toList.length : Int) = .int .i64 n := by simp [goInt, hsz]
  have e2 : (cur.toList.take o ++ (piece src so n).toList ++ cur.toList.drop (o + (piece src so n).toList.length)).toArray = laidOver cur o (piece src so n) := by simp [laidOver]
  rw [e1, e2]
  exact hk

/-- A whole array or struct is read. -/
theorem wpList_loadA {x : Operand} {t : TypeId} (hagg : (match P.underlying t with | some (.struct _) => true | some (.array _ _) => true | _ => false) = true) (n : Nat) (hs : (P.info? t).map (·.size) = some n)
    (b o : Nat) (hx : a.eval x = .pointer (some ⟨b, o, none⟩)) (src : Array Value) (tb : TypeId) (fr : Nat × Nat) (hb : w.heap[b]? = some (.cells src tb fr)) (hin : o + n ≤ src.size)
    (h : wpList P ops Q rest (a.put dst (.agg (piece src o n))) w) :
    wpList P ops Q (⟨dst, .load t x, ty, pos, aft, none⟩ :: rest) a w := by
  refine wpList_plain rfl fun K hK => ?_
  have hk := hK _ _ h
  have hsz := piece_size (cs := src) hin
  have hl := run_loadCells_list (P := P) w ⟨b, o, none⟩ (piece src o n).toList (fun j v hj => by
    rw [add_none, cell_of hb]
    have hlt : j < n := by
      have := (List.getElem?_eq_some_iff.1 hj).1; simp [hsz] at this; exact this
    rw [← piece_get hlt]; simpa using hj)
  obtain ⟨i, hi, hin'⟩ := Option.map_eq_some_iff.1 hs
  have hl' : Sem.run P (loadCells ⟨b, o, none⟩ n) w = .ok (piece src o n) w := by simpa [hsz] using hl
  have hrun : Sem.run P (Instr.loadAt t (.pointer (some ⟨b, o, none⟩))) w = .ok (.agg (piece src o n)) w := by
    cases hd : P.underlying t with
    | none => simp [hd] at hagg
    | some d => cases d <;> simp [hd] at hagg <;> simp [Instr.loadAt, Instr.sureAddr, loadVar, isAgg, run_underlying hd, Go.sizeOf, typeInfo, hi, hin', hl']
  unfold Oper.wp execOp
  simp only [Sem.run_bind, Sem.run_pure, Result.andThen_ok, hx, hrun]
  exact hk

/-- A whole array or struct is written. -/
theorem wpList_storeA {x y : Operand} {t : TypeId} (vs : Array Value) (hs : (P.info? t).map (·.size) = some vs.size)
    (b o : Nat) (hx : a.eval x = .pointer (some ⟨b, o, none⟩)) (hy : a.eval y = .agg vs) (cur : Array Value) (tb : TypeId) (hb : w.heap[b]? = some (.cells cur tb)) (hin : o + vs.size ≤ cur.size)
    (h1 : ∀ v ∈ vs.toList, v.oneCell' = true)
    (h : wpList P ops Q rest (a.put dst undef) (w.setRow b (laidOver cur o vs))) :
    wpList P ops Q (⟨dst, .store t x y, ty, pos, aft, none⟩ :: rest) a w := by
  refine wpList_plain rfl fun K hK => ?_
  have hk := hK _ _ h
  obtain ⟨i, hi, hin'⟩ := Option.map_eq_some_iff.1 hs
  have hr := run_storeCells_at P b o tb vs.toList 0 cur w hb (by simpa using hin) h1
  have e2 : (cur.toList.take (o + 0) ++ vs.toList ++ cur.toList.drop (o + 0 + vs.toList.length)).toArray = laidOver cur o vs := by simp [laidOver]
  rw [e2] at hr
  have hrun : Sem.run P (Instr.storeAt t (.pointer (some ⟨b, o, none⟩)) (.agg vs)) w = .ok () (w.setRow b (laidOver cur o vs)) := by
    simp [Instr.storeAt, Instr.sureAddr, storeVar, Go.sizeOf, typeInfo, hi, hin', Value.cells, hr]
  unfold Oper.wp execOp
  simp only [Sem.run_bind, Sem.run_pure, Result.andThen_ok, hx, hy, hrun]
  exact hk

/-- A new variable, with the zero value. -/
theorem wpList_allocA {t : TypeId} (z : Value) (hz : ((P.info? t).bind (·.zero)) = some z)
    (h : wpList P ops Q rest (a.put dst (.pointer (some ⟨w.heap.size, 0, none⟩))) (w.alloc (.cells z.cells t))) :
    wpList P ops Q (⟨dst, .alloc t, ty, pos, aft, none⟩ :: rest) a w := by
  refine wpList_plain rfl fun K hK => ?_
  have hk := hK _ _ h
  obtain ⟨i, hi, hin'⟩ := Option.bind_eq_some_iff.1 hz
  have hrun : Sem.run P (Instr.alloc t true (Value.tuple #[])) w = .ok (.pointer (some ⟨w.heap.size, 0, none⟩)) (w.alloc (.cells z.cells t)) := by
    simp [Instr.alloc, zeroValue, typeInfo, hi, hin', newVar, newRow]
  unfold Oper.wp execOp
  simp only [Sem.run_bind, Sem.run_pure, Result.andThen_ok, hrun]
  exact hk

/-- A new variable, with a whole array or struct in it. -/
theorem wpList_boxA {t : TypeId} {x : Operand} (vs : Array Value) (hx : a.eval x = .agg vs)
    (h : wpList P ops Q rest (a.put dst (.pointer (some ⟨w.heap.size, 0, none⟩))) (w.alloc (.cells vs t))) :
    wpList P ops Q (⟨dst, .box t x, ty, pos, aft, none⟩ :: rest) a w := by
  refine wpList_plain rfl fun K hK => ?_
  have hk := hK _ _ h
  have hrun : Sem.run P (Instr.box t (.agg vs)) w = .ok (.pointer (some ⟨w.heap.size, 0, none⟩)) (w.alloc (.cells vs t)) := by
    simp [Instr.box, newVar, newRow, Value.cells]
  unfold Oper.wp execOp
  simp only [Sem.run_bind, Sem.run_pure, Result.andThen_ok, hx, hrun]
  exact hk

/-- make: a new row of zero values. -/
theorem wpList_makeA {t e : TypeId} {l c : Operand} (z : Value) (size bytes : Nat) (ht : P.underlying t = some (.slice e)) (hi : (P.info? e).map (fun i => (i.zero, i.size, i.bytes)) = some (some z, size, bytes))
    (kl kc : IntKind) (n : Nat) (hl : a.eval l = .int kl n) (hc : a.eval c = .int kc n) (hb : bytes * n ≤ 281474976710656) (hn : n ≤ 1000000000)
    (h : wpList P ops Q rest (a.put dst (.slice (some ⟨w.heap.size, 0, none⟩) n n)) (w.alloc (.cells (madeCells z.cells (n * size)) e))) :
    wpList P ops Q (⟨dst, .makeSlice t l c, ty, pos, aft, none⟩ :: rest) a w := by
  refine wpList_plain rfl fun K hK => ?_
  have hk := hK _ _ h
  obtain ⟨i, hi', hz⟩ := Option.map_eq_some_iff.1 hi
  simp only [Prod.mk.injEq] at hz
  obtain ⟨hz, hsz, hby⟩ := hz
  have hb' : (i.bytes : Int) * (n : Int) ≤ 281474976710656 := by
    rw [hby]; have h : ((bytes * n : Nat) : Int) ≤ 281474976710656 := by omega
    rwa [Int.natCast_mul] at h
  have hr := run_make (P := P) w t e i z ht hi' hz kl kc n n (by omega) (Int.le_refl _) hb' (by omega)
  simp only [Int.toNat_natCast, hsz] at hr
  unfold Oper.wp execOp
  simp only [Sem.run_bind, Sem.run_pure, Result.andThen_ok, hl, hc, hr]
  exact hk
theorem madeCells_all {z : Array Value} {n : Nat} {z0 : Value} (hz : ∀ v ∈ z.toList, v = z0) (h0 : n = 0 ∨ 0 < z.size) : ∀ v ∈ (madeCells z n).toList, v = z0 := by
  intro v hv
  simp only [madeCells, Array.toList_map, List.mem_map, Array.toList_range, List.mem_range] at hv
  obtain ⟨x, hx, rfl⟩ := hv
  have hp : 0 < z.size := by omega
  have hl : x % z.size < z.size := Nat.mod_lt _ hp
  rw [getElem!_pos z _ hl]
  exact hz _ (by simp)

theorem run_makeZ {t e : TypeId} (z z0 : Value) (size bytes : Nat) (ht : P.underlying t = some (.slice e)) (hi : (P.info? e).map (fun i => (i.zero, i.size, i.bytes)) = some (some z, size, bytes))
    (hz : ∀ v ∈ z.cells.toList, v = z0) (hz1 : 0 < z.cells.size) (kl kc : IntKind) (n : Nat) (hb : bytes * n ≤ 281474976710656) (hn : n ≤ 1000000000) (w : World) :
    ∃ Z : Array Value, Z.size = n * size ∧ (∀ v ∈ Z.toList, v = z0) ∧ Sem.run P (Instr.makeSlice t (.int kl n) (.int kc n)) w = .ok (.slice (some ⟨w.heap.size, 0, none⟩) n n) (w.alloc (.cells Z e)) := by
  obtain ⟨i, hi', hz'⟩ := Option.map_eq_some_iff.1 hi
  simp only [Prod.mk.injEq] at hz'
  obtain ⟨hz', hsz, hby⟩ := hz'
  have hb' : (i.bytes : Int) * (n : Int) ≤ 281474976710656 := by
    rw [hby]; have h : ((bytes * n : Nat) : Int) ≤ 281474976710656 := by omega
    rwa [Int.natCast_mul] at h
  have hr := run_make (P := P) w t e i z ht hi' hz' kl kc n n (by omega) (Int.le_refl _) hb' (by omega)
  simp only [Int.toNat_natCast, hsz] at hr
  exact ⟨_, by simp [madeCells], madeCells_all hz (Or.inr hz1), hr⟩

/-- make, of what is told alone: how many cells, and what each of them holds. -/
theorem wpList_makeZ {t e : TypeId} {l c : Operand} (z z0 : Value) (size bytes : Nat) (ht : P.underlying t = some (.slice e)) (hi : (P.info? e).map (fun i => (i.zero, i.size, i.bytes)) = some (some z, size, bytes))
    (hz : ∀ v ∈ z.cells.toList, v = z0) (hz1 : 0 < z.cells.size)
    (kl kc : IntKind) (n : Nat) (hl : a.eval l = .int kl n) (hc : a.eval c = .int kc n) (hb : bytes * n ≤ 281474976710656) (hn : n ≤ 1000000000)
    (h : ∀ Z : Array Value, Z.size = n * size → (∀ v ∈ Z.toList, v = z0) → wpList P ops Q rest (a.put dst (.slice (some ⟨w.heap.size, 0, none⟩) n n)) (w.alloc (.cells Z e))) :
    wpList P ops Q (⟨dst, .makeSlice t l c, ty, pos, aft, none⟩ :: rest) a w :=
  wpList_makeA z size bytes ht hi kl kc n hl hc hb hn (h _ (by simp [madeCells]) (madeCells_all hz (Or.inr hz1)))

/-- A new variable of an array, likewise. -/
theorem wpList_allocZ {t : TypeId} (z : Array Value) (z0 : Value) (n : Nat) (hz : ((P.info? t).bind (·.zero)) = some (.agg z)) (hn : z.size = n) (hz0 : ∀ v ∈ z.toList, v = z0)
    (h : ∀ Z : Array Value, Z.size = n → (∀ v ∈ Z.toList, v = z0) → wpList P ops Q rest (a.put dst (.pointer (some ⟨w.heap.size, 0, none⟩))) (w.alloc (.cells Z t))) :
    wpList P ops Q (⟨dst, .alloc t, ty, pos, aft, none⟩ :: rest) a w :=
  wpList_allocA _ hz (h z hn hz0)
end
end Go.Proofs.YtilapcegpjjlfaaGreatDoor
