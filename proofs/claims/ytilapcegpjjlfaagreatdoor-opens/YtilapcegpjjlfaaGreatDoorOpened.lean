import Derived.Test.YtilapcegpjjlfaaGreatDoorFound
namespace Go.Proofs.YtilapcegpjjlfaaGreatDoor
set_option linter.unusedSimpArgs false
set_option linter.unusedVariables false
open Go.RowKit

set_option maxHeartbeats 4000000 in
set_option maxRecDepth 10000 in
theorem opened_ok (base : Nat) (T : Int) (w : World) (g : DG) (h : DOk base T w g) (hT0 : 0 ≤ T) (hT1 : T ≤ 40000) (hg : w.cell? ⟨0, 0, none⟩ = some errType) (hb : 0 < base) (hbs : base ≤ w.heap.size) :
    Calls Tryz.prog 18 #[.pointer (some ⟨g.B, 0, none⟩)] w fun e w' => e = .returned (.bool true) ∧ (∃ g', DOk base (T + 2) w' g' ∧ g'.B = g.B ∧ g'.A = g.A ∧ g'.C = g.C) ∧ Kp [g.B, g.A, g.C] w w' := by
  obtain ⟨B, A, C, n, l, calls, writes, N, pm, m, cm, pw, k, cw, x⟩ := g
  obtain ⟨bB, bA, bC, hB, hA, hC, len, n1000, calls0, calls1, writes0, writes1, kT, may, were, st⟩ := h
  simp only at *
  have HBA : Hid (B ≠ A) := cells_ne hB hA (by decide)
  have HBC : Hid (B ≠ C) := cells_ne hB hC (by decide)
  have HCA : Hid (C ≠ A) := cells_ne hC hA (by decide)
  have HST : Hid (((8 ≤ n → Fresh l) ∧ m = 0 ∧ N = 0) ∨ (Formatted l N ∧ N ≤ 2 * T ∧ m = 1 ∧ cm = 1 ∧ ∃ gm, pm = some ⟨gm, 0, none⟩)) := st
  clear st
  go_enter Tryz.func18, Tryz.ntmps18
  go_wp2_with fail
  refine (close_ok B A n _ _ x w hB).mono ?_
  rintro e w1 ⟨rfl, hB1, hK1⟩
  have hA1 := hK1.heap hA (by simp; exact fun e => HBA.out e.symm)
  have hC1 := hK1.heap hC (by simp; exact fun e => HBC.out e.symm)
  have hap : Apart w [B] 44 := fun k hk => by rw [List.mem_singleton.1 hk]; exact ⟨_, _, _, hB, by decide⟩
  have may1 := may.keep hK1 hap
  have were1 := were.keep hK1 hap
  have hg1 : w1.cell? ⟨0, 0, none⟩ = some errType := (hK1.cell (a := ⟨0, 0, none⟩) (by simp; omega) (by simp; omega)).trans hg
  have hs1 := hK1.size
  have hK1' : Kp [B, A, C] w w1 := hK1.mono (by simp +contextual)
  clear hB hA hC may were hK1 hg hap
  have k0 := cell_of hB1 0
  simp only [kobj, List.getElem?_toArray, List.getElem?_cons_zero, List.getElem?_cons_succ] at k0
  go_wp2_with fail
  refine (told_ok A n C _ calls writes w1 hA1).mono ?_
  rintro e w1 ⟨rfl, rfl⟩
  go_wp2_with fail
  by_cases hfit : 8 ≤ n ∧ n ≤ 400
  · have h8 := hfit.1
    have h400 := hfit.2
    clear hfit
    rcases HST.out with ⟨hfr, hm0, hN0⟩ | ⟨hfm, hN2, hm1, hcm, gm, hpm⟩
    · have hfr' := hfr h8
      refine (open_none A n C calls writes l _ hA1 calls0 (by omega) h8 h400 hC1 len HCA.out hfr').mono ?_
      have HFR : Hid (8 ≤ n → Fresh l) := hfr
      clear hfr hfr'
      rintro e w2 ⟨F, call, rfl, hF, hF2, hA2, hK2⟩
      have hB2 := hK2.heap hB1 (by simp; exact HBA.out)
      have hC2 := hK2.heap hC1 (by simp; exact HCA.out)
      have hap : Apart w1 [A] 44 := fun k hk => by rw [List.mem_singleton.1 hk]; exact ⟨_, _, _, hA1, by decide⟩
      have may2 := may1.keep hK2 hap
      have were2 := were1.keep hK2 hap
      have hg2 : w2.cell? ⟨0, 0, none⟩ = some errType := (hK2.cell (a := ⟨0, 0, none⟩) (by simp; omega) (by simp; omega)).trans hg1
      have hK2' : Kp [B, A, C] w w2 := hK1'.trans hK2 (by simp +contextual)
      clear hA1 hC1 hB1 may1 were1 hK2 hK1' k0 hg1 hap
      go_wp2_with fail
      refine (told_fault F call 9 _ hg2 hF2).mono ?_
      rintro e w3 ⟨rfl, hK3⟩
      have hB3 := hK3.heap hB2 (by simp)
      have hA3 := hK3.heap hA2 (by simp)
      have hC3 := hK3.heap hC2 (by simp)
      have may3 := may2.keep hK3 (by intro k h; simp at h)
      have were3 := were2.keep hK3 (by intro k h; simp at h)
      have hK3' : Kp [B, A, C] w w3 := hK2'.trans hK3 (by simp)
      clear hB2 hA2 hC2 may2 were2 hK2' hK3 hg2 hF2 hF
      have c0 := cell_of hB3 0
      have c1 := cell_of hB3 1
      have c2 := cell_of hB3 2
      have c3 := cell_of hB3 3
      have c4 := cell_of hB3 4
      have c5 := cell_of hB3 5
      have c6 := cell_of hB3 6
      simp only [kobj, List.getElem?_toArray, List.getElem?_cons_zero, List.getElem?_cons_succ] at c0 c1 c2 c3 c4 c5 c6
      go_wp2_with (go_at_call 30; refine (num_ok _ _).mono ?_; rintro e w3 ⟨rfl, rfl⟩)
      refine (fits_yes _ _ n _ _ _ _ h8 h400).mono ?_
      rintro e w4 ⟨rfl, hK4⟩
      have hB4 := hK4.heap hB3 (by simp)
      have hA4 := hK4.heap hA3 (by simp)
      have hC4 := hK4.heap hC3 (by simp)
      have may4 := may3.keep hK4 (by intro k h; simp at h)
      have were4 := were3.keep hK4 (by intro k h; simp at h)
      have hK4' : Kp [B, A, C] w w4 := hK3'.trans hK4 (by simp)
      clear hB3 hA3 hC3 may3 were3 hK3' hK4 c0 c1 c2 c3 c4 c5 c6
      have c0 := cell_of hB4 0
      have c1 := cell_of hB4 1
      have c2 := cell_of hB4 2
      have c3 := cell_of hB4 3
      have c4 := cell_of hB4 4
      have c5 := cell_of hB4 5
      have c6 := cell_of hB4 6
      simp only [kobj, List.getElem?_toArray, List.getElem?_cons_zero, List.getElem?_cons_succ] at c0 c1 c2 c3 c4 c5 c6
      subst hm0
      go_wp2
      go_ret
      refine ⟨rfl, ⟨⟨B, A, C, n, l, calls + 2, writes, N, pm, 0, cm, pw, k, cw, none⟩, ?_, rfl, rfl, rfl⟩, hK4'⟩
      exact ⟨bB, bA, bC, hB4, hA4, hC4, len, n1000, by show (0 : Int) ≤ calls + 2; omega, by show calls + 2 ≤ 6 * (T + 2); omega, writes0, by show writes ≤ 2 * (T + 2); omega, by show ((k : Nat) : Int) ≤ T + 2; omega, may4, were4, .inl ⟨HFR.out, rfl, hN0⟩⟩
    · have HF : Hid (Formatted l N) := hfm
      have hl := hfm.low
      refine (open_ok A n C calls writes l N _ hA1 calls0 (by omega) h8 h400 hC1 len HCA.out hfm).mono ?_
      clear hfm
      rintro e w2 ⟨V, St, Db, rfl, hV, hSt, hDb, hA2, hV2, hSt2, hD2, hK2⟩
      have hB2 := hK2.heap hB1 (by simp; exact HBA.out)
      have hC2 := hK2.heap hC1 (by simp; exact HCA.out)
      have hap : Apart w1 [A] 44 := fun k hk => by rw [List.mem_singleton.1 hk]; exact ⟨_, _, _, hA1, by decide⟩
      have may2 := may1.keep hK2 hap
      have were2 := were1.keep hK2 hap
      have hK2' : Kp [B, A, C] w w2 := hK1'.trans hK2 (by simp +contextual)
      have HSW : Hid (w.heap.size ≤ St) := by show w.heap.size ≤ St; omega
      clear hA1 hC1 hB1 may1 were1 hK2 hK1' k0 hg1 hap hV hSt hDb
      go_wp2_with fail
      refine (told_nil _).mono ?_
      rintro e w2 ⟨rfl, rfl⟩
      have c0 := cell_of hB2 0
      have c1 := cell_of hB2 1
      have c2 := cell_of hB2 2
      have c3 := cell_of hB2 3
      have c4 := cell_of hB2 4
      have c5 := cell_of hB2 5
      have c6 := cell_of hB2 6
      simp only [kobj, List.getElem?_toArray, List.getElem?_cons_zero, List.getElem?_cons_succ] at c0 c1 c2 c3 c4 c5 c6
      go_wp2_with (go_at_call 30; refine (num_ok _ _).mono ?_; rintro e w2 ⟨rfl, rfl⟩)
      refine (fits_yes _ _ n _ _ _ _ h8 h400).mono ?_
      rintro e w3 ⟨rfl, hK3⟩
      have hB3 := hK3.heap hB2 (by simp)
      have hA3 := hK3.heap hA2 (by simp)
      have hC3 := hK3.heap hC2 (by simp)
      have hSt3 := hK3.heap hSt2 (by simp)
      have hD3 := hK3.heap hD2 (by simp)
      have may3 := may2.keep hK3 (by intro k h; simp at h)
      have were3 := were2.keep hK3 (by intro k h; simp at h)
      have hK3' : Kp [B, A, C] w w3 := hK2'.trans hK3 (by simp)
      have hs3 := hK3'.size
      clear hB2 hA2 hC2 may2 were2 hK2' hK3 hSt2 hD2 hV2 c0 c1 c2 c3 c4 c5 c6
      go_wp2_with fail
      have hd : DOk base (T + 1) w3 ⟨B, A, C, n, l, calls + 3, writes, N, pm, m, cm, pw, k, cw, none⟩ :=
        ⟨bB, bA, bC, hB3, hA3, hC3, len, n1000, by show (0 : Int) ≤ calls + 3; omega, by show calls + 3 ≤ 6 * (T + 1); omega, writes0, by show writes ≤ 2 * (T + 1); omega, by show ((k : Nat) : Int) ≤ T + 1; omega, may3, were3, .inr ⟨HF.out, by show N ≤ 2 * (T + 1); omega, hm1, hcm, gm, hpm⟩⟩
      refine (found_ok base (T + 1) w3 _ hd Db St V N _ hD3 hSt3 (by omega) (by omega) HF.out (by omega)).mono ?_
      rintro e w4 ⟨rfl, ⟨g', hg', e1, e2, e3⟩, hK4⟩
      have hg'' : DOk base (T + 2) w4 g' := by rw [show T + 2 = T + 1 + 1 by omega]; exact hg'
      have hK4' : Kp [B, A, C] w w4 := hK3'.trans hK4 (by intro i hi hlt; have := HSW.out; simp at hi; simp; omega)
      clear hd hg' hB3 hA3 hC3 hSt3 hD3 may3 were3 hK3' hK4
      go_wp2
      go_ret
      exact ⟨rfl, ⟨g', hg'', e1, e2, e3⟩, hK4'⟩
  · have hbad : n < 8 ∨ 400 < n := by omega
    clear hfit
    have HB : Hid (n < 8 ∨ 400 < n) := hbad
    refine (open_size A n C _ calls writes _ hA1 hbad).mono ?_
    clear hbad
    rintro e w2 ⟨F, call, rfl, hF, hF2, hK2⟩
    have hB2 := hK2.heap hB1 (by simp)
    have hA2 := hK2.heap hA1 (by simp)
    have hC2 := hK2.heap hC1 (by simp)
    have may2 := may1.keep hK2 (by intro k h; simp at h)
    have were2 := were1.keep hK2 (by intro k h; simp at h)
    have hg2 : w2.cell? ⟨0, 0, none⟩ = some errType := (hK2.cell (a := ⟨0, 0, none⟩) (by simp; omega) (by simp)).trans hg1
    have hK2' : Kp [B, A, C] w w2 := hK1'.trans hK2 (by simp)
    clear hA1 hC1 hB1 may1 were1 hK2 hK1' k0 hg1
    go_wp2_with fail
    refine (told_fault F call 10 _ hg2 hF2).mono ?_
    rintro e w3 ⟨rfl, hK3⟩
    have hB3 := hK3.heap hB2 (by simp)
    have hA3 := hK3.heap hA2 (by simp)
    have hC3 := hK3.heap hC2 (by simp)
    have may3 := may2.keep hK3 (by intro k h; simp at h)
    have were3 := were2.keep hK3 (by intro k h; simp at h)
    have hK3' : Kp [B, A, C] w w3 := hK2'.trans hK3 (by simp)
    clear hB2 hA2 hC2 may2 were2 hK2' hK3 hg2 hF2 hF
    have c0 := cell_of hB3 0
    have c1 := cell_of hB3 1
    have c2 := cell_of hB3 2
    have c3 := cell_of hB3 3
    have c4 := cell_of hB3 4
    have c5 := cell_of hB3 5
    have c6 := cell_of hB3 6
    simp only [kobj, List.getElem?_toArray, List.getElem?_cons_zero, List.getElem?_cons_succ] at c0 c1 c2 c3 c4 c5 c6
    go_wp2_with (go_at_call 30; refine (num_ok _ _).mono ?_; rintro e w3 ⟨rfl, rfl⟩)
    refine (fits_no _ _ n _ _ _ _ HB.out).mono ?_
    rintro e w4 ⟨rfl, hK4⟩
    have hB4 := hK4.heap hB3 (by simp)
    have hA4 := hK4.heap hA3 (by simp)
    have hC4 := hK4.heap hC3 (by simp)
    have may4 := may3.keep hK4 (by intro k h; simp at h)
    have were4 := were3.keep hK4 (by intro k h; simp at h)
    have hK4' : Kp [B, A, C] w w4 := hK3'.trans hK4 (by simp)
    clear hB3 hA3 hC3 may3 were3 hK3' hK4 c0 c1 c2 c3 c4 c5 c6
    go_wp2
    go_ret
    refine ⟨rfl, ⟨⟨B, A, C, n, l, calls, writes, N, pm, m, cm, pw, k, cw, none⟩, ?_, rfl, rfl, rfl⟩, hK4'⟩
    exact ⟨bB, bA, bC, hB4, hA4, hC4, len, n1000, calls0, by show calls ≤ 6 * (T + 2); omega, writes0, by show writes ≤ 2 * (T + 2); omega, by show ((k : Nat) : Int) ≤ T + 2; omega, may4, were4, by
      rcases HST.out with h | ⟨h1, h2, h3⟩
      · exact .inl h
      · exact .inr ⟨h1, by show N ≤ 2 * (T + 2); omega, h3⟩⟩
end Go.Proofs.YtilapcegpjjlfaaGreatDoor
