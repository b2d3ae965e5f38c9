import Derived.Test.YtilapcegpjjlfaaGreatDoorSmall
import Derived.Test.YtilapcegpjjlfaaGreatDoorTold
import Derived.Test.YtilapcegpjjlfaaGreatDoorToo
namespace Go.Proofs.YtilapcegpjjlfaaGreatDoor
set_option linter.unusedSimpArgs false
set_option linter.unusedVariables false
open Go.RowKit

/-- The steps that the law plays. -/
structure Fit (o : SOp) : Prop where
  k : o.k < 4 ∨ o.k = 5 ∨ o.k = 10 ∨ o.k = 11
  x0 : -9223372036854775808 ≤ o.x
  x1 : o.x ≤ 9223372036854775807
  a0 : -9223372036854775808 ≤ o.a
  a1 : o.a ≤ 9223372036854775807
  b0 : -9223372036854775808 ≤ o.b
  b1 : o.b ≤ 9223372036854775807
def SOp.fits (o : SOp) : Prop := (-9223372036854775808 ≤ o.x ∧ o.x ≤ 9223372036854775807) ∧ (-9223372036854775808 ≤ o.a ∧ o.a ≤ 9223372036854775807) ∧ (-9223372036854775808 ≤ o.b ∧ o.b ≤ 9223372036854775807)

theorem info28 : (Tryz.prog.info? 28).map (fun i => (i.zero, i.size, i.bytes)) = some (some (.agg #[.int .i64 0, .int .i64 0, .int .i64 0, .int .i64 0, .int .i64 0, .string ⟨#[]⟩, .string ⟨#[]⟩]), 7, 72) := by kernel_rfl

theorem run_app7 (w : World) (base g : Nat) (v : Value) (n : Nat) (xs : List Value) (us : List Value) (h7 : us.length = 7) (ty : TypeId)
    (h : w.ownsRow base 28 7 v n xs) (hn : n ≤ 1000000) (hg : w.heap[g]? = some (.cells us.toArray 28)) (hu : ∀ u ∈ us, u.oneCell' = true) (hb : base ≤ w.heap.size) :
    ∃ v' w', Sem.run Tryz.prog (Builtin.append_ #[22, 22] ty #[v, .slice (some ⟨g, 0, none⟩) 1 1]) w = .ok v' w' ∧ w'.ownsRow base 28 7 v' (n + 1) (xs ++ us) ∧ w.grownBy w' v.ownBlock := by
  obtain ⟨i0, hi, hz0, hz1, hz2⟩ := info_parts info28
  obtain ⟨v', w', hr, r1, r2, r3⟩ := run_append_own (P := Tryz.prog) w base 22 ty 28 i0 _ 7 72 Tryz.underlying22 hi hz0 hz1 hz2 rfl (by decide) v n _ h ⟨g, 0, none⟩ 1 1 us (by simp [h7]) (fun j v hv => by
    rw [add_none, cell_of hg]
    simpa using hv) hu (by unfold maxLen; omega) (by omega) hb
  exact ⟨v', w', hr, r1, r2⟩

/-- A row of steps that the call made. -/
theorem script_of_row {w : World} {base : Nat} {p : Option Addr} {c : Nat} {ops : List SOp} (h : w.ownsRow base 28 7 (.slice p ops.length c) ops.length (ops.flatMap SOp.cells)) : Script w p ops.length (fun i => ops.getD i ⟨0, 0, 0, 0, 0, ⟨#[]⟩, ⟨#[]⟩⟩) := by
  intro hn
  rcases h.2 with ⟨_, h0⟩ | ⟨g, cap, cur, h1, h2, h3, h4, h5, h6, h7⟩
  · omega
  · cases h1
    refine ⟨g, 0, rfl, lt_of_heap h3, fun i hi c hc => ?_⟩
    rw [cell_of h3]
    have hlen : ∀ (l : List SOp) (i : Nat) (hi : i < l.length), (l.flatMap SOp.cells)[i * 7 + c]? = (l[i]).cells[c]? := by
      intro l
      induction l with
      | nil => intro i hi; simp at hi
      | cons o l ih =>
        intro i hi
        rw [List.flatMap_cons]
        have e7 : o.cells.length = 7 := rfl
        cases i with
        | zero => rw [List.getElem?_append_left (by omega)]; simp
        | succ i => rw [List.getElem?_append_right (by omega), show (i + 1) * 7 + c - o.cells.length = i * 7 + c by omega, ih i (by simpa using hi)]; simp
    have e := hlen ops i hi
    rw [← h7, List.getElem?_take_of_lt (by omega)] at e
    have e2 : ops.getD i ⟨0, 0, 0, 0, 0, ⟨#[]⟩, ⟨#[]⟩⟩ = ops[i] := by simp [List.getD, hi]
    show _ = (ops.getD i _).cells[c]?
    rw [e2, ← e]
    simp

set_option maxHeartbeats 4000000 in
set_option maxRecDepth 10000 in
theorem plays_of (UP : ∀ (p : Option Addr) (n cap : Nat) (f : Nat → SOp) (w : World), n ≤ 16384 → 0 < w.heap.size → w.cell? ⟨0, 0, none⟩ = some errType → Script w p n f → (∀ i, i < n → Fit (f i)) → Calls Tryz.prog 13 #[.slice p n cap] w fun e w' => e = .returned (.int .i64 (-1)) ∧ Kp [] w w')
    (p : Option Addr) (n cap : Nat) (f : Nat → SOp) (w : World) (hS : Script w p n f) (hf : ∀ i, i < n → (f i).fits) (h0 : 0 < w.heap.size) (hg : w.cell? ⟨0, 0, none⟩ = some errType) (kb : Nat) (hkb : w.heap[kb]? = some (.cells #[.int .i64 5, .int .i64 10, .int .i64 11] 3)) :
    Calls Tryz.prog 11 #[.slice p n cap, .slice (some ⟨kb, 0, none⟩) 3 3] w fun e w' => e = .returned (.bool true) ∧ Kp [] w w' := by
  have HU : Hid (∀ (p : Option Addr) (n cap : Nat) (f : Nat → SOp) (w : World), n ≤ 16384 → 0 < w.heap.size → w.cell? ⟨0, 0, none⟩ = some errType → Script w p n f → (∀ i, i < n → Fit (f i)) → Calls Tryz.prog 13 #[.slice p n cap] w fun e w' => e = .returned (.int .i64 (-1)) ∧ Kp [] w w') := UP
  have HS : Hid (Script w p n f) := hS
  have HF : Hid (∀ i, i < n → (f i).fits) := hf
  have HG : Hid (0 < w.heap.size ∧ w.cell? ⟨0, 0, none⟩ = some errType ∧ w.heap[kb]? = some (.cells #[.int .i64 5, .int .i64 10, .int .i64 11] 3)) := ⟨h0, hg, hkb⟩
  have hkbs := lt_of_heap hkb
  clear UP hf h0 hg
  go_enter Tryz.func11, Tryz.ntmps11
  go_wp2_with fail
  refine (small_ok p n cap f w hS).mono ?_
  rintro e w1 ⟨r, rfl, hr, m, rfl⟩
  cases r with
  | false =>
    go_wp2
    go_ret
    exact ⟨rfl, (Kp.refl _ _).drewN _⟩
  | true =>
    have hn := hr rfl
    clear hr hS hkb
    go_wp2
    go_loopw [6, 7] (fun l i wr => ∃ (j : Nat) (ops : List SOp) (q : Option Addr) (c : Nat), j ≤ n ∧ i = .int .i64 j ∧ l = .slice q ops.length c ∧ ops.length ≤ j ∧ (∀ o, o ∈ ops → Fit o) ∧ wr.ownsRow w.heap.size 28 7 (.slice q ops.length c) ops.length (ops.flatMap SOp.cells) ∧ Kp [] w wr) (fun _ i _ => n - (intOf i).toNat)
    case atStart => exact ⟨0, [], none, 0, Nat.zero_le _, rfl, rfl, Nat.zero_le _, by simp, World.ownsRow_nil _ _ _ _, (Kp.refl _ _).drewN _⟩
    case round =>
      obtain ⟨j, ops, q, cq, hj, rfl, rfl, hlj, hfit, hrow, hK⟩ := hrel
      by_cases hlt : j < n
      · obtain ⟨blk, off, rfl, hblk, hcell⟩ := (HS.out.keep hK) (by omega)
        have hfj := HF.out j hlt
        have hkb := hK.heap HG.out.2.2 (by simp)
        have hkbs' := lt_of_heap hkb
        generalize hoj : f j = o at *
        have c0 := hcell j hlt 0 (by decide)
        have c1 := hcell j hlt 1 (by decide)
        have c2 := hcell j hlt 2 (by decide)
        have c3 := hcell j hlt 3 (by decide)
        have c4 := hcell j hlt 4 (by decide)
        have c5 := hcell j hlt 5 (by decide)
        have c6 := hcell j hlt 6 (by decide)
        rw [hoj] at c0 c1 c2 c3 c4 c5 c6
        obtain ⟨k, x, y, a, b, s, t⟩ := o
        simp only [SOp.cells, List.getElem?_cons_zero, List.getElem?_cons_succ, Nat.add_zero] at c0 c1 c2 c3 c4 c5 c6
        have hjb : (j : Int) < (n : Int) := by omega
        have HO : Hid (f j = ⟨k, x, y, a, b, s, t⟩) := hoj
        have HR : Hid (wr.ownsRow w.heap.size 28 7 (.slice q ops.length cq) ops.length (ops.flatMap SOp.cells) ∧ Kp [] w wr ∧ (∀ o, o ∈ ops → Fit o)) := ⟨hrow, hK, hfit⟩
        have HJ : Hid (SOp.fits ⟨k, x, y, a, b, s, t⟩) := hfj
        have HQ : Hid (∀ i, i < 3 → ∃ kk, wr.cell? ⟨kb, i, none⟩ = some (.int .i64 kk) ∧ (kk = 5 ∨ kk = 10 ∨ kk = 11)) := by
          intro i hi
          rw [cell_of hkb]
          rcases i with _ | _ | _ | i
          · exact ⟨5, rfl, by decide⟩
          · exact ⟨10, rfl, by decide⟩
          · exact ⟨11, rfl, by decide⟩
          · omega
        clear hcell hrow hK hfit hfj hoj hkb
        go_wp2
        go_loop [9, 10] (fun q i => ∃ (jj : Nat) (bb : Bool), jj ≤ 3 ∧ i = .int .i64 jj ∧ q = .bool bb ∧ Hid (bb = true → k < 4 ∨ k = 5 ∨ k = 10 ∨ k = 11)) (fun _ i => 3 - (intOf i).toNat)
        case atStart => exact ⟨0, _, by decide, rfl, rfl, fun h => Or.inl (by simpa using h)⟩
        case round =>
          obtain ⟨jj, bb, hjj, rfl, rfl, hin⟩ := hrel
          by_cases hlt3 : jj < 3
          · obtain ⟨kk, hkk, hkv⟩ := HQ.out jj hlt3
            have hj3 : (jj : Int) < 3 := by omega
            have HKV : Hid (kk = 5 ∨ kk = 10 ∨ kk = 11) := hkv
            clear hkv
            cases bb with
            | true =>
              go_wp2
              exact ⟨⟨jj + 1, true, by omega, by go_num, rfl, hin⟩, by simp [intOf]; omega⟩
            | false =>
              go_wp2
              exact ⟨⟨jj + 1, decide (k = kk), by omega, by go_num, rfl, fun h => by have h := of_decide_eq_true h; subst h; exact Or.inr HKV.out⟩, by simp [intOf]; omega⟩
          · have hj3 : ¬ (jj : Int) < 3 := by omega
            cases bb with
            | false =>
              go_wp2
              obtain ⟨hrow, hK, hfit⟩ := HR.out
              exact ⟨⟨j + 1, ops, q, cq, by omega, by go_num, rfl, by omega, hfit, hrow, hK⟩, by simp [intOf]; omega⟩
            | true =>
              have hk4 := hin.out rfl
              have HK4 : Hid (k < 4 ∨ k = 5 ∨ k = 10 ∨ k = 11) := hk4
              clear hk4 hin
              have hsz := HR.out.2.1.size
              obtain ⟨v5, w5, hr5, hrow5, hgr5⟩ := run_app7 (wr.alloc (Obj.cells #[.int .i64 k, .int .i64 x, .int .i64 y, .int .i64 a, .int .i64 b, .string s, .string t] 28)) w.heap.size wr.heap.size (.slice q ops.length cq) ops.length _ [.int .i64 k, .int .i64 x, .int .i64 y, .int .i64 a, .int .i64 b, .string s, .string t] rfl 22 (HR.out.1.alloc _) (by omega) (heap_new _ _) (by simp [Value.oneCell']) (by simp; omega)
              obtain ⟨g5, c5, rfl⟩ := own_form hrow5
              have HR5 : Hid (w5.ownsRow w.heap.size 28 7 (.slice (some ⟨g5, 0, none⟩) (ops.length + 1) c5) (ops.length + 1) (ops.flatMap SOp.cells ++ [.int .i64 k, .int .i64 x, .int .i64 y, .int .i64 a, .int .i64 b, .string s, .string t]) ∧ Kp [] w w5) := ⟨hrow5, (HR.out.2.1.alloc _).grown hgr5 (fun k hk => Or.inr (World.ownsRow.lt HR.out.1 k hk).1)⟩
              clear hrow5 hgr5
              go_wp2_with (at_builtin; ((with_reducible refine wpList_appR ?_ ?_ hr5 ?_); rfl; rfl))
              obtain ⟨r1, r2⟩ := HR5.out
              refine ⟨⟨j + 1, ops ++ [⟨k, x, y, a, b, s, t⟩], some ⟨g5, 0, none⟩, c5, by omega, by go_num, by simp, by simp; omega, ?_, ?_, r2⟩, by simp [intOf]; omega⟩
              · intro o ho
                rcases List.mem_append.1 ho with ho | ho
                · exact HR.out.2.2 o ho
                · rw [List.mem_singleton.1 ho]
                  obtain ⟨⟨e1, e2⟩, ⟨e3, e4⟩, ⟨e5, e6⟩⟩ := HJ.out
                  exact ⟨HK4.out, e1, e2, e3, e4, e5, e6⟩
              · rw [List.length_append, List.flatMap_append]
                simpa [SOp.cells] using r1
      · have hjb : ¬ (j : Int) < (n : Int) := by omega
        have hs := script_of_row hrow
        have H0 := hK.size
        have hg1 : wr.cell? ⟨0, 0, none⟩ = some errType := (hK.cell (a := ⟨0, 0, none⟩) HG.out.1 (by simp)).trans HG.out.2.1
        go_wp2_with fail
        refine (HU.out q ops.length cq _ wr (by omega) (by have := HG.out.1; omega) hg1 hs (fun i hi => ?_)).mono ?_
        · have e2 : ops.getD i ⟨0, 0, 0, 0, 0, ⟨#[]⟩, ⟨#[]⟩⟩ = ops[i] := by simp [List.getD, hi]
          show Fit (ops.getD i _)
          rw [e2]
          exact hfit _ (List.getElem_mem hi)
        rintro e w3 ⟨rfl, hK3⟩
        go_wp2
        go_ret
        exact ⟨rfl, hK.trans hK3 (by simp)⟩
end Go.Proofs.YtilapcegpjjlfaaGreatDoor
