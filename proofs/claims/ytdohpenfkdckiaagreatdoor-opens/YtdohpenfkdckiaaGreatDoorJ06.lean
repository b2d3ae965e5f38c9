import Derived.Test.YtdohpenfkdckiaaGreatDoorJ05
namespace Go.Proofs.YtdohpenfkdckiaaGreatDoor
set_option linter.unusedSimpArgs false
set_option linter.unusedVariables false
open Go.RowKit

/-- A variable of the work's own is written. -/
theorem Env.To.store {E : Env} {w W W' : World} {k : Nat} {c : Array Value} {t : TypeId} {fr : Nat × Nat} (hT : E.To w W) (hk : w.heap.size ≤ k) (hh : W.heap[k]? = some (.cells c t fr)) (ht : t ∈ locTs) (hK : Kp [k] W W') : E.To w W' :=
  ⟨E.keep W W' [k] hT.dev hK (fun i hi => by rw [List.mem_singleton.1 hi]; exact ⟨c, t, fr, hh, ht⟩), hT.kp.trans hK (fun i hi hlt => by rw [List.mem_singleton.1 hi] at hlt; omega)⟩
theorem row_at {O : Olds} {n : Nat} {w : World} {hs : List HL} {ls : List (Lnk (Tn n))} {cur : Array Value} {off i : Nat} {l : Lnk (Tn n)} (hb : Both (RL O n w) hs ls) (hcur : ∀ i (h : i < hs.length), cur[off + i * 4]? = some (.string hs[i].key) ∧ cur[off + i * 4 + 1]? = some (.int .i64 hs[i].b) ∧ cur[off + i * 4 + 2]? = some (.int .u64 hs[i].s) ∧ cur[off + i * 4 + 3]? = some (.pointer hs[i].ptr)) (h : ls[i]? = some l) :
    ∃ x : HL, i < hs.length ∧ RL O n w x l ∧ cur[off + i * 4]? = some (.string x.key) ∧ cur[off + i * 4 + 1]? = some (.int .i64 x.b) ∧ cur[off + i * 4 + 2]? = some (.int .u64 x.s) ∧ cur[off + i * 4 + 3]? = some (.pointer x.ptr) := by
  obtain ⟨hlt, he⟩ := List.getElem?_eq_some_iff.1 h
  have hl : i < hs.length := by rw [hb.1]; exact hlt
  have hr := hb.2 i hl hlt
  rw [he] at hr
  exact ⟨hs[i], hl, hr, hcur i hl⟩
end Go.Proofs.YtdohpenfkdckiaaGreatDoor

