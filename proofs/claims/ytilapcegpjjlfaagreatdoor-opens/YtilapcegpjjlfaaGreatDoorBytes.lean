import Derived.Test.YtilapcegpjjlfaaGreatDoorNew
namespace Go.Proofs.YtilapcegpjjlfaaGreatDoor
set_option linter.unusedSimpArgs false
set_option linter.unusedVariables false
open Go.RowKit

def encL (l : List UInt8) : List Value := l.map (fun b => .int .u8 (b.toNat : Int))
def enc (l : List UInt8) : Array Value := (encL l).toArray
theorem encL_length (l : List UInt8) : (encL l).length = l.length := by simp [encL]
theorem enc_size (l : List UInt8) : (enc l).size = l.length := by simp [enc, encL]
theorem enc_bytes (l : List UInt8) : allBytes (enc l) := by
  intro v hv
  simp [enc, encL] at hv
  obtain ⟨b, _, rfl⟩ := hv
  exact ⟨_, rfl⟩
theorem encL_append (a b : List UInt8) : encL (a ++ b) = encL a ++ encL b := by simp [encL]
theorem piece_enc (l : List UInt8) (o n : Nat) : piece (enc l) o n = enc ((l.drop o).take n) := by simp [piece, enc, encL, List.map_take, List.map_drop]
theorem laidOver_enc (l p : List UInt8) (o : Nat) : laidOver (enc l) o (enc p) = enc (l.take o ++ p ++ l.drop (o + p.length)) := by
  simp [laidOver, enc, encL, List.map_take, List.map_drop]
theorem foldl_push (l : List UInt8) (s : ByteArray) : (l.map (fun b => (b.toNat : Int))).foldl (fun r n => r.push (UInt8.ofNat n.toNat)) s = ⟨(s.data.toList ++ l).toArray⟩ := by
  induction l generalizing s with
  | nil => simp
  | cons b l ih =>
    rw [List.map_cons, List.foldl_cons, ih]
    simp [ByteArray.push]

set_option maxRecDepth 10000 in
theorem newDisk_neg (w : World) (k : Int) (hk0 : k < 0) :
    Calls Tryz.prog 23 #[.int .i64 k] w fun e w' => e = .returned (.pointer (some ⟨w.heap.size + 1, 0, none⟩)) ∧ ∃ Z : Array Value, Z.size = 0 * 128 ∧ (∀ v ∈ Z.toList, v = .int .u8 0) ∧
      w' = (w.alloc (.cells Z 88)).alloc (dobj 0 w.heap.size (.slice none 0 0) 0 0) := by
  go_enter Tryz.func23, Tryz.ntmps23
  go_wp2
  obtain ⟨Z, hZ, hZ0, hr⟩ := run_makeZ (P := Tryz.prog) (.agg Tryz.zeroCells88) (.int .u8 0) 128 128 Tryz.underlying84 info88 zall88 (by simp [Value.cells, zsize88]) .i64 .i64 0 (by omega) (by omega) w
  simp only [Int.ofNat_zero, Int.natCast_zero] at hr
  rw [hr]
  clear hr
  go_wp2
  go_ret
  exact ⟨rfl, Z, hZ, hZ0, rfl⟩

/-- string(b), b of the call's own. -/
theorem run_str_own {w : World} {base : Nat} {v : Value} {k : Nat} {l : List UInt8} (h : w.ownsRow base 5 1 v k (encL l)) :
    Sem.run Tryz.prog (convert 158 9 v) w = .ok (.string ⟨l.toArray⟩) w := by
  obtain ⟨hl, h2⟩ := h
  rw [encL_length] at hl
  rcases h2 with ⟨rfl, h0⟩ | ⟨g, cap, cur, rfl, _, hg, h1, _, hs, ht⟩
  · have : l = [] := List.eq_nil_of_length_eq_zero (by omega)
    subst this
    rw [run_convert_bytes_string w _ _ _ _ _ _ Tryz.underlying158 Tryz.underlying5 Tryz.underlying9]
    rfl
  · rw [run_convert_bytes_string w _ _ _ _ _ _ Tryz.underlying158 Tryz.underlying5 Tryz.underlying9]
    have hp : piece cur 0 k = ((l.map (fun b => (b.toNat : Int))).map (Value.int .u8)).toArray := by
      have e : (l.map (fun b => (b.toNat : Int))).map (Value.int .u8) = encL l := by simp [encL]
      rw [e, ← ht]; simp [piece]
    have hload := run_loadA (P := Tryz.prog) (o := 0) (n := k) hg (by omega)
    rw [hp] at hload
    rw [run_bytesToString w _ _ _ _ hload, foldl_push]
    simp

set_option maxHeartbeats 400000 in
set_option maxRecDepth 10000 in
theorem bytes_ok (A n C : Nat) (calls writes : Int) (l : List UInt8) (w : World) (h : w.heap[A]? = some (dobj n C (.slice none 0 0) calls writes)) (hn : n ≤ 1000)
    (hC : w.heap[C]? = some (.cells (enc l) 88)) (hs : l.length = n * 128) :
    Calls Tryz.prog 44 #[.pointer (some ⟨A, 0, none⟩)] w fun e w' => e = .returned (.string ⟨l.toArray⟩) ∧ Kp [] w w' := by
  have c0 := cell_of h 0
  simp at c0
  have hA := lt_of_heap h
  have hCs := lt_of_heap hC
  clear h
  obtain ⟨i0, hi, hz0, hz1, hz2⟩ := info_parts Tryz.info5
  go_enter Tryz.func44, Tryz.ntmps44
  go_wp2_with fail
  have hr := run_make (P := Tryz.prog) w 158 5 i0 (.int .u8 0) Tryz.underlying158 hi hz0 .i64 .i64 0 ((n : Int) * 128) (by omega) (by omega) (by rw [hz2]; omega) (by omega)
  rw [hr]
  clear hr
  rw [show (Int.toNat 0) = 0 from rfl, show ((n : Int) * 128).toNat = n * 128 from by omega, hz1]
  obtain ⟨W1, hW1, hK1, hO1⟩ : ∃ W1, W1 = w.alloc (Obj.cells (madeCells (Value.int IntKind.u8 0).cells (n * 128 * 1)) 5) ∧ Kp [] w W1 ∧ W1.ownsRow w.heap.size 5 1 (.slice (some ⟨w.heap.size, 0, none⟩) 0 (n * 128)) 0 [] :=
    ⟨_, rfl, (Kp.refl _ _).alloc _, by simp, .inr ⟨w.heap.size, n * 128, _, rfl, Nat.le_refl _, heap_new _ _, by omega, by unfold maxLen; omega, by simp [madeCells], by simp⟩⟩
  rw [← hW1]
  clear hW1
  have c01 : W1.cell? ⟨A, 0, none⟩ = some (Value.slice (some { block := C, off := 0 }) n n) := (hK1.cell (a := ⟨A, 0, none⟩) hA (by simp)).trans c0
  go_wp2
  go_loopw [3, 17, 4] (fun s k _ wr => ∃ (j : Nat) (v : Value), j ≤ n ∧ k = .int .i64 j ∧ s = v ∧ wr.ownsRow w.heap.size 5 1 v (j * 128) (encL (l.take (j * 128))) ∧ Kp [] w wr) (fun _ k _ _ => n - (intOf k).toNat)
  case atStart => exact ⟨0, _, Nat.zero_le _, rfl, rfl, by simpa [encL] using hO1, hK1⟩
  case round =>
    obtain ⟨j, v, hj, rfl, rfl, hown, hK⟩ := hrel
    have c02 : wr.cell? ⟨A, 0, none⟩ = some (Value.slice (some { block := C, off := 0 }) n n) := (hK.cell (a := ⟨A, 0, none⟩) hA (by simp)).trans c0
    have hC2 := hK.heap hC (by simp)
    clear c01
    by_cases hlt : j < n
    · have hlen : ((l.drop (j * 128)).take 128).length = 128 := by simp; omega
      have hnews : ∀ k u, (encL ((l.drop (j * 128)).take 128))[k]? = some u → wr.cell? ((⟨C, j * 128, none⟩ : Addr).add k) = some u := by
        intro k u hu
        rw [add_none, cell_of hC2]
        have hk : k < 128 := by have := (List.getElem?_eq_some_iff.1 hu).1; rw [encL_length, hlen] at this; exact this
        rw [← hu, ← piece_get (cs := enc l) (n := 128) hk, piece_enc]
        simp [enc]
      have hone : ∀ u ∈ encL ((l.drop (j * 128)).take 128), u.oneCell' = true := fun u hu => (enc_bytes _).one u (by simpa [enc] using hu)
      have HN : Hid (∀ k u, (encL ((l.drop (j * 128)).take 128))[k]? = some u → wr.cell? ((⟨C, j * 128, none⟩ : Addr).add k) = some u) := hnews
      have HO : Hid (∀ u ∈ encL ((l.drop (j * 128)).take 128), u.oneCell' = true) := hone
      clear hnews hone
      go_wp2_with (at_builtin; go_must (refine wpList_append_own _ rfl _ _ 158 rfl w.heap.size 5 i0 (.int .u8 0) 1 1 Tryz.underlying158 hi hz0 hz1 hz2 rfl (by decide) _ _ _ rfl hown ⟨C, j * 128, none⟩ 128 128 (encL ((l.drop (j * 128)).take 128)) rfl (by rw [encL_length, hlen]) HN.out HO.out (by unfold maxLen; omega) (by omega) hK.size ?_); intro v1 w1 hown1 hgr1 _)
      refine ⟨⟨j + 1, v1, by omega, by go_num, rfl, ?_, hK.grown hgr1 (fun k hk => Or.inr (own_ge hown k hk))⟩, by simp [intOf]; omega⟩
      have e1 : (j + 1) * 128 = j * 128 + 128 := by omega
      rw [e1, List.take_add, encL_append]
      exact hown1
    · have hge : j = n := by omega
      subst hge
      have hrun := run_str_own hown
      rw [List.take_of_length_le (by omega)] at hrun
      go_wp2
      go_ret
      exact ⟨rfl, hK⟩
end Go.Proofs.YtilapcegpjjlfaaGreatDoor
