import Derived.Test.YtilapcegpjjlfaaGreatDoorStepB
import Derived.Test.YtilapcegpjjlfaaGreatDoorRows
import Derived.ChangeSame
import Derived.ChangeVars
import Derived.JoinedOf
import Derived.RowKit
import Derived.RowKitTokens
import Derived.LaidLaws
import Derived.LaidHandle
import Derived.Carry
import Derived.Deep.Slices
import Derived.Stop.Joined
namespace Go.Proofs.YtilapcegpjjlfaaGreatDoor
set_option linter.unusedSimpArgs false
set_option linter.unusedVariables false
open Go.ChangeShapes Go.WideShapes Go.RowKit Go.Deep

theorem cells28 : Tryz.prog.cellsOf 28 = 7 := by kernel_rfl
theorem cells3 : Tryz.prog.cellsOf 3 = 1 := by kernel_rfl
theorem cells9 : Tryz.prog.cellsOf 9 = 1 := by kernel_rfl

section
variable {H : Type} {enc : TypeId × Value → H}

theorem wf_i64 {n : Int} (h : (Lit.int .i64 n).wf = true) : -9223372036854775808 ≤ n ∧ n ≤ 9223372036854775807 := by
  simp [Lit.wf, IntKind.min, IntKind.max, IntKind.bits, IntKind.signed] at h
  omega

set_option maxRecDepth 10000 in
theorem open_op {W : World} {sp : Nat → Bool} {held : Bool} {n : Nat} {cs : List Value} {x : DataW H × List MemPlace} (h : DataW.trod enc Tryz.prog W 0 sp held n 28 cs = some x) : ∃ o : SOp, o.fits ∧ cs = o.cells := by
  obtain ⟨xs, k, hk, hxy, hlen, hxl, hf⟩ := DataW.trod_struct Tryz.underlying28 h
  rw [cells28] at hlen
  match xs, hxl, cs, hlen with
  | [y0, y1, y2, y3, y4, y5, y6], _, [v0, v1, v2, v3, v4, v5, v6], _ =>
    have g0 := hf 0 _ rfl
    have g1 := hf 1 _ rfl
    have g2 := hf 2 _ rfl
    have g3 := hf 3 _ rfl
    have g4 := hf 4 _ rfl
    have g5 := hf 5 _ rfl
    have g6 := hf 6 _ rfl
    simp [cells3, cells9] at g0 g1 g2 g3 g4 g5 g6
    obtain ⟨k0, e0, _, f0⟩ := DataW.trod_int Tryz.underlying3 g0
    obtain ⟨k1, e1, _, f1⟩ := DataW.trod_int Tryz.underlying3 g1
    obtain ⟨k2, e2, _, f2⟩ := DataW.trod_int Tryz.underlying3 g2
    obtain ⟨k3, e3, _, f3⟩ := DataW.trod_int Tryz.underlying3 g3
    obtain ⟨k4, e4, _, f4⟩ := DataW.trod_int Tryz.underlying3 g4
    obtain ⟨s5, e5, _⟩ := DataW.trod_string Tryz.underlying9 g5
    obtain ⟨s6, e6, _⟩ := DataW.trod_string Tryz.underlying9 g6
    simp only [List.cons.injEq, and_true] at e0 e1 e2 e3 e4 e5 e6
    subst e0 e1 e2 e3 e4 e5 e6
    exact ⟨⟨k0, k1, k2, k3, k4, s5, s6⟩, ⟨wf_i64 f1, wf_i64 f3, wf_i64 f4⟩, rfl⟩

theorem open_script {W : World} {fuel : Nat} {c0 : Value} {x : DataW H × List MemPlace} (h : DataW.trod enc Tryz.prog W 0 (fun _ => true) true fuel 22 [c0] = some x) :
    ∃ p n cap f, c0 = .slice p n cap ∧ Script W p n f ∧ ∀ i, i < n → (f i).fits := by
  rcases open_slice Tryz.underlying22 h with ⟨hc, _⟩ | ⟨a, len, cap, m, k, D, Pl, hc, _, hl, _, hmm, _, hall⟩
  · simp only [List.cons.injEq, and_true] at hc
    exact ⟨none, 0, 0, fun _ => ⟨0, 0, 0, 0, 0, ⟨#[]⟩, ⟨#[]⟩⟩, hc, fun h => absurd h (by omega), fun i hi => absurd hi (by omega)⟩
  · simp only [List.cons.injEq, and_true] at hc
    simp only [if_true] at hmm
    rw [cells28] at hall
    haveI : Inhabited SOp := ⟨⟨0, 0, 0, 0, 0, ⟨#[]⟩, ⟨#[]⟩⟩⟩
    obtain ⟨f, hfs⟩ := choose_lt (n := len) (p := fun i (o : SOp) => o.fits ∧ ∀ c, c < 7 → W.cell? ((a.add (i * 7)).add c) = o.cells[c]?) (fun i hi => by
      obtain ⟨cs', h1, h2⟩ := hall i (by omega)
      obtain ⟨_, hlen, hcell⟩ := World.cells?_some h1
      obtain ⟨o, ho, rfl⟩ := open_op h2
      exact ⟨o, ho, hcell⟩)
    refine ⟨some a, len, cap, f, hc, fun hn => ?_, fun i hi => (hfs i hi).1⟩
    obtain ⟨b, off, spot⟩ := a
    have h0 := (hfs 0 hn).2 0 (by decide)
    have hspot : spot = none := by simpa [Addr.add] using World.cell?_spot (v := .int .i64 (f 0).k) h0
    subst hspot
    refine ⟨b, off, rfl, ?_, fun i hi c hc => ?_⟩
    · have h1 : W.cell? ⟨b, off, none⟩ = some (.int .i64 (f 0).k)   := by
        have e : (f 0).cells[0]? = some (.int .i64 (f 0).k) := rfl
        rw [e] at h0
        simpa [Addr.add] using h0
      unfold World.cell? at h1
      cases hb : W.heap[b]? with
      | none => simp [hb] at h1
      | some o => exact lt_of_heap hb
    · have := (hfs i hi).2 c hc
      rw [add_none, add_none] at this
      exact this
end
end Go.Proofs.YtilapcegpjjlfaaGreatDoor
