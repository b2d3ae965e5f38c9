import Derived.Test.YtilapcegpjjlfaaGreatDoorOpened
namespace Go.Proofs.YtilapcegpjjlfaaGreatDoor
set_option linter.unusedSimpArgs false
set_option linter.unusedVariables false
open Go.RowKit

def wobj (pk : Option Addr) (nk ck : Nat) (pd : Option Addr) (nd cd : Nat) : Obj := .cells #[.slice pk nk ck, .slice pd nd cd] 32
def ptrs (ds : List DG) : List Value := ds.map fun g => .pointer (some ⟨g.B, 0, none⟩)
theorem ptrs_length (ds : List DG) : (ptrs ds).length = ds.length := by simp [ptrs]

/-- What a script has made. -/
structure WOk (base : Nat) (T : Int) (w : World) (Wb : Nat) (ds : List DG) : Prop where
  hb : 0 < base
  hbs : base ≤ w.heap.size
  g0 : w.cell? ⟨0, 0, none⟩ = some errType
  bW : base ≤ Wb
  hW : ∃ pk nk ck xs pd cd, w.heap[Wb]? = some (wobj pk nk ck pd ds.length cd) ∧ w.ownsRow base 3 1 (.slice pk nk ck) nk xs ∧ (nk : Int) ≤ T ∧ w.ownsRow base 34 1 (.slice pd ds.length cd) ds.length (ptrs ds)
  len : (ds.length : Int) ≤ T
  all : ∀ g, g ∈ ds → DOk base T w g
  sep : ds.Pairwise fun g h => g.B ≠ h.B ∧ g.A ≠ h.A ∧ g.C ≠ h.C

theorem own_keep {S : List Nat} {w w' : World} {base sz : Nat} {e : TypeId} {v : Value} {n : Nat} {xs : List Value} (h : w.ownsRow base e sz v n xs) (hK : Kp S w w') (hS : Apart w S e) : w'.ownsRow base e sz v n xs := by
  refine ⟨h.1, ?_⟩
  rcases h.2 with h0 | ⟨g, cap, cur, h1, h2, h3, h4⟩
  · exact .inl h0
  · refine .inr ⟨g, cap, cur, h1, h2, hK.heap h3 (fun hm => ?_), h4⟩
    obtain ⟨c', u, fr', h5, h6⟩ := hS g hm
    rw [h3] at h5
    cases h5
    exact h6 rfl

theorem DOk.apartT {base : Nat} {T : Int} {w : World} {g : DG} (h : DOk base T w g) (t : TypeId) (h1 : t ≠ 48) (h2 : t ≠ 87) (h3 : t ≠ 88) : Apart w [g.B, g.A, g.C] t := by
  intro k hk
  simp only [List.mem_cons, List.not_mem_nil, or_false] at hk
  rcases hk with rfl | rfl | rfl
  · exact ⟨_, _, _, h.hB, fun e => h1 e.symm⟩
  · exact ⟨_, _, _, h.hA, fun e => h2 e.symm⟩
  · exact ⟨_, _, _, h.hC, fun e => h3 e.symm⟩

theorem Apart.nil (w : World) (t : TypeId) : Apart w [] t := fun _ h => by cases h
theorem Apart.not {w : World} {S : List Nat} {t : TypeId} {c : Array Value} {fr : Nat × Nat} {k : Nat} (h : Apart w S t) (hk : w.heap[k]? = some (.cells c t fr)) : k ∉ S := fun hm => by
  obtain ⟨c', u, fr', h5, h6⟩ := h k hm
  rw [hk] at h5
  cases h5
  exact h6 rfl

theorem g0_keep {w w' : World} {base : Nat} {S : List Nat} (h : w.cell? ⟨0, 0, none⟩ = some errType) (hK : Kp S w w') (hb : 0 < base) (hbs : base ≤ w.heap.size) (hS : ∀ k, k ∈ S → base ≤ k) : w'.cell? ⟨0, 0, none⟩ = some errType :=
  (hK.cell (a := ⟨0, 0, none⟩) (by simp; omega) (fun hm => by have := hS _ hm; simp at this; omega)).trans h

/-- Nothing that the script made has changed. -/
theorem WOk.same {base : Nat} {T T' : Int} {w w' : World} {Wb : Nat} {ds : List DG} (h : WOk base T w Wb ds) (hK : Kp [] w w') (hT : T ≤ T') : WOk base T' w' Wb ds := by
  obtain ⟨pk, nk, ck, xs, pd, cd, h1, h2, h3, h4⟩ := h.hW
  exact ⟨h.hb, Nat.le_trans h.hbs hK.size, g0_keep h.g0 hK h.hb h.hbs (by simp), h.bW, ⟨pk, nk, ck, xs, pd, cd, hK.heap h1 (by simp), own_keep h2 hK (Apart.nil _ _), by omega, own_keep h4 hK (Apart.nil _ _)⟩, by have := h.len; omega, fun g hg => (h.all g hg).keep hK hT (by simp) (by simp) (by simp) (Apart.nil _ _), h.sep⟩

/-- One disk has changed. -/
theorem WOk.one {base : Nat} {T T' : Int} {w w' : World} {Wb : Nat} {ds : List DG} (h : WOk base T w Wb ds) (j : Nat) (hj : j < ds.length) (g' : DG) (hK : Kp [ds[j].B, ds[j].A, ds[j].C] w w') (hg : DOk base T' w' g') (e1 : g'.B = ds[j].B) (e2 : g'.A = ds[j].A) (e3 : g'.C = ds[j].C) (hT : T ≤ T') : WOk base T' w' Wb (ds.set j g') := by
  obtain ⟨pk, nk, ck, xs, pd, cd, h1, h2, h3, h4⟩ := h.hW
  have hd := h.all ds[j] (List.getElem_mem hj)
  have hbS : ∀ k, k ∈ [ds[j].B, ds[j].A, ds[j].C] → base ≤ k := by
    intro k hk
    simp only [List.mem_cons, List.not_mem_nil, or_false] at hk
    rcases hk with rfl | rfl | rfl
    · exact hd.bB
    · exact hd.bA
    · exact hd.bC
  have hp : ptrs (ds.set j g') = ptrs ds := by
    simp only [ptrs, List.map_set, e1]
    exact List.ext_getElem (by simp) (fun i h1 h2 => by
      rw [List.getElem_set]
      split
      · rename_i h; subst h; simp
      · rfl)
  have hpw := List.pairwise_iff_getElem.1 h.sep
  refine ⟨h.hb, Nat.le_trans h.hbs hK.size, g0_keep h.g0 hK h.hb h.hbs hbS, h.bW, ⟨pk, nk, ck, xs, pd, cd, ?_, own_keep h2 hK (hd.apartT _ (by decide) (by decide) (by decide)), by omega, ?_⟩, by have := h.len; simp; omega, ?_, ?_⟩
  · simp only [List.length_set]
    exact hK.heap h1 ((hd.apartT _ (by decide) (by decide) (by decide)).not h1)
  · rw [hp, List.length_set]
    exact own_keep h4 hK (hd.apartT _ (by decide) (by decide) (by decide))
  · intro g hg'
    obtain ⟨i, hi, rfl⟩ := List.getElem_of_mem hg'
    rw [List.getElem_set]
    split
    · exact hg
    · rename_i hne
      simp only [List.length_set] at hi
      have hdi := h.all ds[i] (List.getElem_mem hi)
      have hq : ds[i].B ≠ ds[j].B ∧ ds[i].A ≠ ds[j].A ∧ ds[i].C ≠ ds[j].C := by
        rcases Nat.lt_or_gt_of_ne hne with hlt | hgt
        · have := hpw j i hj hi hlt
          exact ⟨fun e => this.1 e.symm, fun e => this.2.1 e.symm, fun e => this.2.2 e.symm⟩
        · exact hpw i j hi hj hgt
      have hS := hd.apart
      refine hdi.keep hK hT ?_ ?_ ?_ hS
      · simp only [List.mem_cons, List.not_mem_nil, or_false, not_or]
        exact ⟨hq.1, cells_ne hdi.hB hd.hA (by decide), cells_ne hdi.hB hd.hC (by decide)⟩
      · simp only [List.mem_cons, List.not_mem_nil, or_false, not_or]
        exact ⟨cells_ne hdi.hA hd.hB (by decide), hq.2.1, cells_ne hdi.hA hd.hC (by decide)⟩
      · simp only [List.mem_cons, List.not_mem_nil, or_false, not_or]
        exact ⟨cells_ne hdi.hC hd.hB (by decide), cells_ne hdi.hC hd.hA (by decide), hq.2.2⟩
  · rw [List.pairwise_iff_getElem]
    intro a b ha hb hab
    simp only [List.length_set] at ha hb
    have hq := hpw a b ha hb hab
    rw [List.getElem_set, List.getElem_set]
    split
    · rename_i h1; subst h1
      split
      · omega
      · rw [e1, e2, e3]; exact hq
    · split
      · rename_i h2; subst h2; rw [e1, e2, e3]; exact hq
      · exact hq

/-- What lies in the blocks of S is nothing of a disk's. -/
def Free (base : Nat) (w : World) (S : List Nat) : Prop := ∀ k, k ∈ S → base ≤ k ∧ ∃ c u fr, w.heap[k]? = some (.cells c u fr) ∧ u ≠ 48 ∧ u ≠ 87 ∧ u ≠ 88 ∧ u ≠ 44

theorem pairwise_one {α : Type} (R : α → α → Prop) : ∀ l : List α, l.length ≤ 1 → l.Pairwise R
  | [], _ => List.Pairwise.nil
  | [_], _ => List.pairwise_singleton _ _
  | _ :: _ :: _, h => by simp at h
/-- The law's own rows have changed, and there may be one disk more. -/
theorem WOk.turn {base : Nat} {T T' : Int} {w w' : World} {Wb : Nat} {ds : List DG} {S : List Nat} (h : WOk base T w Wb ds) (hK : Kp S w w') (hS : Free base w S) (hT : T ≤ T') (new : List DG) (hnew : ∀ g, g ∈ new → DOk base T' w' g ∧ w.heap.size ≤ g.B ∧ w.heap.size ≤ g.A ∧ w.heap.size ≤ g.C) (hone : new.length ≤ 1)
    (hW : ∃ pk nk ck xs pd cd, w'.heap[Wb]? = some (wobj pk nk ck pd (ds ++ new).length cd) ∧ w'.ownsRow base 3 1 (.slice pk nk ck) nk xs ∧ (nk : Int) ≤ T' ∧ w'.ownsRow base 34 1 (.slice pd (ds ++ new).length cd) (ds ++ new).length (ptrs (ds ++ new))) (len : ((ds ++ new).length : Int) ≤ T') : WOk base T' w' Wb (ds ++ new) := by
  refine ⟨h.hb, Nat.le_trans h.hbs hK.size, g0_keep h.g0 hK h.hb h.hbs (fun k hk => (hS k hk).1), h.bW, hW, len, ?_, ?_⟩
  · intro g hg
    rcases List.mem_append.1 hg with hg | hg
    · have hd := h.all g hg
      have hn : ∀ k c u fr, w.heap[k]? = some (.cells c u fr) → (u = 48 ∨ u = 87 ∨ u = 88) → k ∉ S := by
        intro k c u fr hk hu hm
        obtain ⟨_, c', u', fr', h1, h2, h3, h4, _⟩ := hS k hm
        rw [hk] at h1
        cases h1
        rcases hu with hu | hu | hu
        · exact h2 hu
        · exact h3 hu
        · exact h4 hu
      exact hd.keep hK hT (hn _ _ _ _ hd.hB (.inl rfl)) (hn _ _ _ _ hd.hA (.inr (.inl rfl))) (hn _ _ _ _ hd.hC (.inr (.inr rfl))) (fun k hk => by
        obtain ⟨_, c', u', fr', h1, _, _, _, h5⟩ := hS k hk
        exact ⟨c', u', fr', h1, h5⟩)
    · exact (hnew g hg).1
  · rw [List.pairwise_append]
    refine ⟨h.sep, ?_, ?_⟩
    · exact pairwise_one _ _ hone
    · intro g hg g' hg'
      have hd := h.all g hg
      have h1 := lt_of_heap hd.hB
      have h2 := lt_of_heap hd.hA
      have h3 := lt_of_heap hd.hC
      have h4 := hnew g' hg'
      exact ⟨by omega, by omega, by omega⟩

theorem ptr_at {cur : Array Value} {ds : List DG} (h : cur.toList.take (ds.length * 1) = ptrs ds) (j : Nat) (hj : j < ds.length) : cur[j]? = some (.pointer (some ⟨ds[j].B, 0, none⟩)) := by
  have e : (ptrs ds)[j]? = some (.pointer (some ⟨ds[j].B, 0, none⟩)) := by simp [ptrs, hj]
  rw [← h, List.getElem?_take_of_lt (by omega)] at e
  simpa using e

theorem own_some {w : World} {base sz : Nat} {e : TypeId} {p : Option Addr} {n c : Nat} {xs : List Value} (h : w.ownsRow base e sz (.slice p n c) n xs) (hn : 1 ≤ n) : ∃ g cur, p = some ⟨g, 0, none⟩ ∧ base ≤ g ∧ w.heap[g]? = some (.cells cur e (0, 0)) ∧ cur.toList.take (n * sz) = xs := by
  rcases h.2 with ⟨h0, h1⟩ | ⟨g, cap, cur, h1, h2, h3, h4, h5, h6, h7⟩
  · omega
  · cases h1
    exact ⟨g, cur, rfl, h2, h3, h7⟩
end Go.Proofs.YtilapcegpjjlfaaGreatDoor
