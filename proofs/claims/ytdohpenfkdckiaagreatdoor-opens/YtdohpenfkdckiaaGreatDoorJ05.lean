import Derived.Test.YtdohpenfkdckiaaGreatDoorJ04
import Derived.Lib.AppendZerosOnto
import Derived.Lib.SliceRun
import Derived.Laws.AppendOwnNone
namespace Go.Proofs.YtdohpenfkdckiaaGreatDoor
set_option linter.unusedSimpArgs false
set_option linter.unusedVariables false
open Go.RowKit

theorem Slc.form {w : World} {T : TypeId} {sz : Nat} {v : Value} {n : Nat} {cs : List Value} (h : Slc w T sz v n cs) : ∃ b m c, v = .slice b m c := by
  rcases h.val with ⟨_, b, c, h1, _⟩ | ⟨g, off, cap, cur, fr, h1, _⟩
  · exact ⟨b, 0, c, h1⟩
  · exact ⟨_, _, cap, h1⟩

end Go.Proofs.YtdohpenfkdckiaaGreatDoor


namespace Go.Proofs.YtdohpenfkdckiaaGreatDoor
set_option linter.unusedSimpArgs false
set_option linter.unusedVariables false
open Go.RowKit

/-- Two lists, entry by entry. -/
def Both {α β : Type} (R : α → β → Prop) (a : List α) (b : List β) : Prop := a.length = b.length ∧ ∀ i (h : i < a.length) (h' : i < b.length), R a[i] b[i]
theorem Both.mono {α β : Type} {R R' : α → β → Prop} {a : List α} {b : List β} (h : Both R a b) (hr : ∀ x y, R x y → R' x y) : Both R' a b := ⟨h.1, fun i h1 h2 => hr _ _ (h.2 i h1 h2)⟩
theorem Both.take {α β : Type} {R : α → β → Prop} {a : List α} {b : List β} (h : Both R a b) (k : Nat) : Both R (a.take k) (b.take k) :=
  ⟨by simp [h.1], fun i h1 h2 => by simp only [List.getElem_take]; exact h.2 i (by simp at h1; omega) (by simp at h2; omega)⟩
theorem Both.drop {α β : Type} {R : α → β → Prop} {a : List α} {b : List β} (h : Both R a b) (k : Nat) : Both R (a.drop k) (b.drop k) :=
  ⟨by simp [h.1], fun i h1 h2 => by simp only [List.getElem_drop]; exact h.2 _ (by simp at h1; omega) (by simp at h2; omega)⟩
theorem Both.append {α β : Type} {R : α → β → Prop} {a a' : List α} {b b' : List β} (h : Both R a b) (h' : Both R a' b') : Both R (a ++ a') (b ++ b') :=
  ⟨by simp [h.1, h'.1], fun i h1 h2 => by
    have hl := h.1
    by_cases hi : i < a.length
    · rw [List.getElem_append_left hi, List.getElem_append_left (by omega)]
      exact h.2 i hi (by omega)
    · rw [List.getElem_append_right (by omega), List.getElem_append_right (by omega)]
      simp only [hl]
      exact h'.2 _ (by simp at h1; omega) (by simp at h2; omega)⟩
theorem Both.nil {α β : Type} {R : α → β → Prop} : Both R ([] : List α) ([] : List β) := ⟨rfl, fun i h => by simp at h⟩
theorem Both.map_eq {α β γ : Type} {R : α → β → Prop} {a : List α} {b : List β} {f : α → γ} {g : β → γ} (h : Both R a b) (hr : ∀ x y, R x y → f x = g y) : a.map f = b.map g := by
  refine List.ext_getElem (by simp [h.1]) fun i h1 h2 => ?_
  simp only [List.getElem_map]
  exact hr _ _ (h.2 i (by simpa using h1) (by simpa using h2))

/-- What a link in memory stands for. -/
def RLof {X : Type} (N : Nat → X → Prop) (O : Nat → Int → X → Prop) (h : HL) (l : Lnk X) : Prop :=
  h.key = l.key ∧ match l.ref with
    | none => h.b = 0 ∧ h.s = 0 ∧ ∃ q, h.p = some q ∧ N q l.sub
    | some (b, s) => h.b = b ∧ h.s = s ∧ h.p = none ∧ O b s l.sub
/-- What a slice of links stands for. -/
def RLsOf {X : Type} (N : Nat → X → Prop) (O : Nat → Int → X → Prop) (w : World) (v : Value) (ls : List (Lnk X)) : Prop :=
  ∃ hs : List HL, Slc w 87 4 v hs.length (lcells hs) ∧ Both (RLof N O) hs ls
abbrev Olds : Type := (n : Nat) → Nat → Int → Tn n → Prop
/-- What a node in memory holds. -/
def RN (O : Olds) : (n : Nat) → World → Nat → Tn n → Prop
  | 0, w, q, t => ∃ vp, w.heap[q]? = some (nobj 0 vp (.slice none 0 0)) ∧ Slc w 185 2 vp (prs t).length (pcells (prs t))
  | n + 1, w, q, t => ∃ vl, w.heap[q]? = some (nobj ((n + 1 : Nat) : Int) (.slice none 0 0) vl) ∧ RLsOf (RN O n w) (O n) w vl (lnks t)
abbrev RL (O : Olds) (n : Nat) (w : World) (h : HL) (l : Lnk (Tn n)) : Prop := RLof (RN O n w) (O n) h l
theorem RLof.mono {X : Type} {N N' : Nat → X → Prop} {O O' : Nat → Int → X → Prop} {h : HL} {l : Lnk X} (hr : RLof N O h l) (hN : ∀ q, N q l.sub → N' q l.sub) (hO : ∀ b s, O b s l.sub → O' b s l.sub) : RLof N' O' h l := by
  refine ⟨hr.1, ?_⟩
  have := hr.2
  cases hl : l.ref with
  | none =>
    rw [hl] at this
    obtain ⟨h1, h2, q, h3, h4⟩ := this
    exact ⟨h1, h2, q, h3, hN q h4⟩
  | some x =>
    rw [hl] at this
    obtain ⟨h1, h2, h3, h4⟩ := this
    exact ⟨h1, h2, h3, hO _ _ h4⟩

/-- The types of what trees are made of. -/
def treeTs : List TypeId := [213, 185, 87]
theorem Apt.sub {w : World} {S : List Nat} {Ts Ts' : List TypeId} (h : Apt w S Ts) (hs : ∀ t ∈ Ts', t ∈ Ts) : Apt w S Ts' := fun k hk c t fr e hm => h k hk c t fr e (hs t hm)
theorem RN.keep {O : Olds} {S : List Nat} {w w' : World} (hK : Kp S w w') (hS : Apt w S treeTs) : ∀ (n : Nat) (q : Nat) (t : Tn n), RN O n w q t → RN O n w' q t
  | 0, q, t, h => by
    obtain ⟨vp, h1, h2⟩ := h
    exact ⟨vp, hK.heap h1 (fun hm => hS q hm _ _ _ h1 (by decide)), h2.keep hK (hS.sub (by decide))⟩
  | n + 1, q, t, h => by
    obtain ⟨vl, h1, hs, h2, h3⟩ := h
    exact ⟨vl, hK.heap h1 (fun hm => hS q hm _ _ _ h1 (by decide)), hs, h2.keep hK (hS.sub (by decide)), h3.mono fun x y hr => hr.mono (fun q hq => RN.keep hK hS n q _ hq) (fun _ _ h => h)⟩
theorem RL.keep {O : Olds} {S : List Nat} {w w' : World} {n : Nat} {h : HL} {l : Lnk (Tn n)} (hr : RL O n w h l) (hK : Kp S w w') (hS : Apt w S treeTs) : RL O n w' h l := hr.mono (fun q hq => RN.keep hK hS n q _ hq) (fun _ _ h => h)

/-- A link that leads nowhere. -/
def zlink : Array Value := #[.string ⟨#[]⟩, .int .i64 0, .int .u64 0, .pointer none]
/-- What S holds is of other types, or a link that leads nowhere. -/
def AptZ (w : World) (S : List Nat) : Prop := ∀ k ∈ S, ∀ c t fr, w.heap[k]? = some (.cells c t fr) → t ∉ treeTs ∨ (t = 87 ∧ c = zlink)
theorem Apt.z {w : World} {S : List Nat} (h : Apt w S treeTs) : AptZ w S := fun k hk c t fr e => .inl (h k hk c t fr e)
end Go.Proofs.YtdohpenfkdckiaaGreatDoor


namespace Go.Proofs.YtdohpenfkdckiaaGreatDoor
set_option linter.unusedSimpArgs false
set_option linter.unusedVariables false
open Go.RowKit

/-- A tree as a value: the volume, and the root's link. -/
def tval (V : Nat) (h : HL) : Value := .agg #[.pointer (some ⟨V, 0, none⟩), .string h.key, .int .i64 h.b, .int .u64 h.s, .pointer h.ptr]
def lval (h : HL) : Value := .agg #[.string h.key, .int .i64 h.b, .int .u64 h.s, .pointer h.ptr]

/-- The types of variables that the work on trees writes into. -/
def locTs : List TypeId := [87, 89, 42]
/-- What trees stand on: what lies on the device, and how it is read. -/
structure Env where
  O : Olds
  V : Nat
  S : List Nat
  Dev : World → Prop
  keep : ∀ w w' L, Dev w → Kp L w w' → (∀ k ∈ L, ∃ c t fr, w.heap[k]? = some (.cells c t fr) ∧ t ∈ locTs) → Dev w'
  apt : ∀ w, Dev w → Apt w S treeTs
  low : ∀ w, Dev w → ∀ k ∈ S, k < w.heap.size
  pos : ∀ (n b : Nat) (s : Int) (t : Tn n), O n b s t → 1 ≤ b
  lvl : ∀ (n b : Nat) (s : Int) (t : Tn n), O n b s t → n < 6
  read : ∀ (n : Nat) (h r : HL) (l : Lnk (Tn n)) (a : Int) (w : World), Dev w → RL O n w h l → h.p = none → (n : Int) < a → Calls Tryz.prog 150 #[tval V r, lval h, .int .i64 a] w fun e w' => ∃ q, e = .returned (.pointer (some ⟨q, 0, none⟩)) ∧ RN O n w' q l.sub ∧ Dev w' ∧ Kp S w w'

/-- What a call on a tree leaves. -/
structure Env.To (E : Env) (w w' : World) : Prop where
  dev : E.Dev w'
  kp : Kp E.S w w'
theorem Env.To.of0 {E : Env} {w w' : World} (h : E.Dev w) (hK : Kp [] w w') : E.To w w' := ⟨E.keep _ _ [] h hK (by simp), hK.mono (by simp)⟩
theorem Env.To.trans {E : Env} {a b c : World} (h : E.To a b) (k : E.To b c) : E.To a c := ⟨k.dev, h.kp.trans k.kp (fun i hi _ => hi)⟩
theorem Env.To.tail {E : Env} {a b c : World} (h : E.To a b) (k : Kp [] b c) : E.To a c := h.trans (Env.To.of0 h.dev k)
theorem Env.RN {E : Env} {n : Nat} {w w' : World} {q : Nat} {t : Tn n} (h : RN E.O n w q t) (hd : E.Dev w) (hT : E.To w w') : YtdohpenfkdckiaaGreatDoor.RN E.O n w' q t := RN.keep hT.kp (E.apt w hd) n q t h
theorem Env.RL {E : Env} {n : Nat} {w w' : World} {h : HL} {l : Lnk (Tn n)} (hr : RL E.O n w h l) (hd : E.Dev w) (hT : E.To w w') : YtdohpenfkdckiaaGreatDoor.RL E.O n w' h l := RL.keep hr hT.kp (E.apt w hd)
/-- What was made on the way is as it was. -/
theorem Env.To.new {E : Env} {w0 w w' : World} {k : Nat} {o : Obj} (hT : E.To w w') (hd : E.Dev w0) (hk : w0.heap.size ≤ k) (h : w.heap[k]? = some o) : w'.heap[k]? = some o :=
  hT.kp.heap h (fun hm => by have := E.low w0 hd k hm; omega)

set_option maxHeartbeats 1000000 in
set_option maxRecDepth 10000 in
theorem node_okA (E : Env) (n : Nat) (h r : HL) (l : Lnk (Tn n)) (a : Int) (w : World) (hd : E.Dev w) (hr : RL E.O n w h l) (ha : h.p = none → (n : Int) < a) :
    Calls Tryz.prog 150 #[tval E.V r, lval h, .int .i64 a] w fun e w' => ∃ q, e = .returned (.pointer (some ⟨q, 0, none⟩)) ∧ RN E.O n w' q l.sub ∧ E.To w w' := by
  cases hp : h.p with
  | none =>
    refine (E.read n h r l a w hd hr hp (ha hp)).mono ?_
    rintro e w' ⟨q, h1, h2, h3, h4⟩
    exact ⟨q, h1, h2, h3, h4⟩
  | some q =>
    have hN : RN E.O n w q l.sub := by
      have h2 := hr.2
      cases hl : l.ref with
      | none =>
        rw [hl] at h2
        obtain ⟨_, _, q', h3, h4⟩ := h2
        rw [hp] at h3
        cases h3
        exact h4
      | some x =>
        rw [hl] at h2
        rw [hp] at h2
        cases h2.2.2.1
    have hptr : h.ptr = some ⟨q, 0, none⟩ := by simp [HL.ptr, hp]
    have e1 : lval h = .agg #[.string h.key, .int .i64 h.b, .int .u64 h.s, .pointer (some ⟨q, 0, none⟩)] := by rw [lval, hptr]
    rw [e1, tval]
    have HN : Hid (RN E.O n w q l.sub) := hN
    have HD : Hid (E.Dev w) := hd
    clear hN hr hd e1 hptr ha
    go_enter Tryz.func150, Tryz.ntmps150
    go_wp2
    go_ret
    exact ⟨q, rfl, Env.RN HN.out HD.out (Env.To.of0 HD.out (((Kp.refl _ _).alloc _).alloc _)), Env.To.of0 HD.out (((Kp.refl _ _).alloc _).alloc _)⟩

theorem node_ok (E : Env) (n : Nat) (h r : HL) (l : Lnk (Tn n)) (a : Int) (w : World) (hd : E.Dev w) (hr : RL E.O n w h l) (ha : (n : Int) < a) :
    Calls Tryz.prog 150 #[tval E.V r, lval h, .int .i64 a] w fun e w' => ∃ q, e = .returned (.pointer (some ⟨q, 0, none⟩)) ∧ RN E.O n w' q l.sub ∧ E.To w w' :=
  node_okA E n h r l a w hd hr fun _ => ha
/-- What lies on the device is not high. -/
theorem Env.low6 {E : Env} {n : Nat} {w : World} {h : HL} {l : Lnk (Tn n)} (hr : YtdohpenfkdckiaaGreatDoor.RL E.O n w h l) (hp : h.p = none) : (n : Int) < 6 := by
  have h2 := hr.2
  cases hl : l.ref with
  | none =>
    rw [hl] at h2
    obtain ⟨_, _, q, h3, h4⟩ := h2
    rw [hp] at h3
    cases h3
  | some x =>
    rw [hl] at h2
    have := E.lvl _ _ _ _ h2.2.2.2
    omega
set_option maxHeartbeats 1000000 in
set_option maxRecDepth 10000 in
theorem top_ok (E : Env) (n : Nat) (h : HL) (l : Lnk (Tn n)) (w : World) (hd : E.Dev w) (hr : RL E.O n w h l) :
    Calls Tryz.prog 94 #[tval E.V h] w fun e w' => ∃ q, e = .returned (.pointer (some ⟨q, 0, none⟩)) ∧ RN E.O n w' q l.sub ∧ E.To w w' := by
  have HD : Hid (E.Dev w) := hd
  have HR : Hid (RL E.O n w h l) := hr
  have HN : Hid (∀ W : World, E.To w W → Calls Tryz.prog 150 #[.agg #[.pointer (some ⟨E.V, 0, none⟩), .string h.key, .int .i64 h.b, .int .u64 h.s, .pointer h.ptr], .agg #[.string h.key, .int .i64 h.b, .int .u64 h.s, .pointer h.ptr], .int .i64 6] W fun e w' => ∃ q, e = .returned (.pointer (some ⟨q, 0, none⟩)) ∧ RN E.O n w' q l.sub ∧ E.To W w') :=
    fun W hT => node_okA E n h h l 6 W hT.dev (Env.RL hr hd hT) (Env.low6 hr)
  clear hd hr
  rw [tval]
  go_enter Tryz.func94, Tryz.ntmps94
  go_wp2_with fail
  refine (HN.out _ (Env.To.of0 HD.out ((Kp.refl _ _).alloc _))).mono ?_
  rintro e w1 ⟨q, rfl, hN1, hT1⟩
  have HN1 : Hid (RN E.O n w1 q l.sub) := hN1
  have HT1 : Hid (E.To w w1) := (Env.To.of0 HD.out ((Kp.refl _ _).alloc _)).trans hT1
  clear hN1 hT1 HN
  go_wp2
  go_ret
  exact ⟨q, rfl, HN1.out, HT1.out⟩

/-- How long rows of links are. -/
theorem RLof.new {O : Olds} {n : Nat} {w : World} {h : HL} {l : Lnk (Tn n)} (hr : RL O n w h l) : (l.ref = none ∧ ∃ q, h.p = some q ∧ RN O n w q l.sub) ∨ (l.ref.isSome = true ∧ h.p = none) := by
  have h2 := hr.2
  cases hl : l.ref with
  | none =>
    rw [hl] at h2
    obtain ⟨_, _, q, h3, h4⟩ := h2
    exact .inl ⟨rfl, q, h3, h4⟩
  | some x =>
    rw [hl] at h2
    exact .inr ⟨rfl, h2.2.2.1⟩
/-- No node has many entries. -/
def Slim : (n : Nat) → Tn n → Prop
  | 0, t => (prs t).length ≤ 10000
  | n + 1, t => (lnks t).length ≤ 10000 ∧ ∀ l ∈ lnks t, Slim n l.sub
theorem meas_le_cnt {α : Type} (f : α → Nat) : ∀ (l : List α), (∀ x ∈ l, 1 ≤ f x) → l.length ≤ meas f l
  | [], _ => by simp [meas]
  | x :: l, h => by
    have h1 := h x (by simp)
    have h2 := meas_le_cnt f l fun y hy => h y (by simp [hy])
    rw [meas_cons, List.length_cons]; omega
theorem good_slim : ∀ (n : Nat) (lo : ByteArray) (t : Tn n), Good n lo t → Slim n t
  | 0, lo, ps, h => by
    have h1 : meas psize (prs ps) ≤ 126 := h.fits
    have h2 := meas_le_cnt psize (prs ps) fun x _ => by unfold psize; omega
    show (prs ps).length ≤ 10000
    omega
  | n + 1, lo, ls, h => by
    have h1 : meas lsize (lnks ls) ≤ 126 := h.fits
    have h2 := meas_le_cnt lsize (lnks ls) fun x _ => by unfold lsize; omega
    exact ⟨by omega, fun l hl => good_slim n l.key l.sub (h.all l hl).1⟩

/-- A node as it lies in memory, of either kind. -/
theorem RN.obj {O : Olds} {n : Nat} {w : World} {q : Nat} {t : Tn n} (h : RN O n w q t) : ∃ pb pl pc lb ll lc, w.heap[q]? = some (nobj (n : Int) (.slice pb pl pc) (.slice lb ll lc)) ∧ pl + ll = cnt n t := by
  cases n with
  | zero =>
    obtain ⟨vp, h1, h2⟩ := h
    obtain ⟨bs, cp, hv⟩ : ∃ bs cp, vp = .slice bs (prs t).length cp := by
      rcases h2.val with ⟨h0, b, c, h1, _⟩ | ⟨g, off, cap, cur, fr, h1, _⟩
      · rw [h0]; exact ⟨b, c, h1⟩
      · exact ⟨_, cap, h1⟩
    rw [hv] at h1
    exact ⟨_, _, _, _, _, _, h1, rfl⟩
  | succ n =>
    obtain ⟨vl, h1, hs, h2, h3⟩ := h
    obtain ⟨bs, cp, hv⟩ : ∃ bs cp, vl = .slice bs hs.length cp := by
      rcases h2.val with ⟨h0, b, c, h1, _⟩ | ⟨g, off, cap, cur, fr, h1, _⟩
      · rw [h0]; exact ⟨b, c, h1⟩
      · exact ⟨_, cap, h1⟩
    rw [hv] at h1
    refine ⟨_, _, _, _, _, _, h1, ?_⟩
    rw [Nat.zero_add, h3.1]; rfl

end Go.Proofs.YtdohpenfkdckiaaGreatDoor


namespace Go.Proofs.YtdohpenfkdckiaaGreatDoor
set_option linter.unusedSimpArgs false
set_option linter.unusedVariables false
open Go.RowKit

/-- What a tree's link stands for. -/
def RR (E : Env) (w : World) (h : HL) : Root → Prop
  | .none => h = ⟨⟨#[]⟩, 0, 0, none⟩
  | .at n l => RL E.O n w h l
theorem RR.to {E : Env} {w w' : World} {h : HL} {r : Root} (hr : RR E w h r) (hd : E.Dev w) (hT : E.To w w') : RR E w' h r := by
  cases r with
  | none => exact hr
  | «at» n l => exact Env.RL hr hd hT

theorem eqp_nn (d : Nat) (W : World) : Sem.run Tryz.prog (Op.equalIn (d + 1) 85 (Value.pointer none) (Value.pointer none)) W = .ok true W := by
  simp [Op.equalIn, run_underlying Tryz.underlying85]
theorem eqp_sn (d : Nat) (a : Addr) (W : World) : Sem.run Tryz.prog (Op.equalIn (d + 1) 85 (Value.pointer (some a)) (Value.pointer none)) W = .ok false W := by
  simp [Op.equalIn, run_underlying Tryz.underlying85]

set_option maxHeartbeats 1000000 in
set_option maxRecDepth 10000 in
theorem empty_none (V : Nat) (w : World) :
    Calls Tryz.prog 92 #[tval V ⟨⟨#[]⟩, 0, 0, none⟩] w fun e w' => e = .returned (.bool true) ∧ Kp [] w w' := by
  have heq : ∀ W : World, Sem.run Tryz.prog (Op.equalIn 9999 85 (Value.pointer none) (Value.pointer none)) W = .ok true W := fun W => eqp_nn 9998 W
  rw [tval, show HL.ptr ⟨⟨#[]⟩, 0, 0, none⟩ = none from rfl]
  go_enter Tryz.func92, Tryz.ntmps92
  go_wp2
  go_ret
  exact ⟨rfl, (Kp.refl _ _).alloc _⟩
set_option maxHeartbeats 1000000 in
set_option maxRecDepth 10000 in
theorem empty_new (V q : Nat) (w : World) :
    Calls Tryz.prog 92 #[.agg #[.pointer (some ⟨V, 0, none⟩), .string ⟨#[]⟩, .int .i64 0, .int .u64 0, .pointer (some ⟨q, 0, none⟩)]] w fun e w' => e = .returned (.bool false) ∧ Kp [] w w' := by
  have heq : ∀ W : World, Sem.run Tryz.prog (Op.equalIn 9999 85 (Value.pointer (some ⟨q, 0, none⟩)) (Value.pointer none)) W = .ok false W := fun W => eqp_sn 9998 _ W
  go_enter Tryz.func92, Tryz.ntmps92
  go_wp2
  go_ret
  exact ⟨rfl, (Kp.refl _ _).alloc _⟩
set_option maxHeartbeats 1000000 in
set_option maxRecDepth 10000 in
theorem empty_old (V : Nat) (b s : Int) (hb : 1 ≤ b) (w : World) :
    Calls Tryz.prog 92 #[.agg #[.pointer (some ⟨V, 0, none⟩), .string ⟨#[]⟩, .int .i64 b, .int .u64 s, .pointer none]] w fun e w' => e = .returned (.bool false) ∧ Kp [] w w' := by
  have heq : ∀ W : World, Sem.run Tryz.prog (Op.equalIn 9999 85 (Value.pointer none) (Value.pointer none)) W = .ok true W := fun W => eqp_nn 9998 W
  have hb0 : ¬ b = 0 := by omega
  go_enter Tryz.func92, Tryz.ntmps92
  go_wp2
  go_ret
  exact ⟨rfl, (Kp.refl _ _).alloc _⟩
/-- A tree with a root is not empty. -/
theorem empty_at (E : Env) (n : Nat) (h : HL) (l : Lnk (Tn n)) (w : World) (hr : RL E.O n w h l) (hl : l.key = ⟨#[]⟩) :
    Calls Tryz.prog 92 #[tval E.V h] w fun e w' => e = .returned (.bool false) ∧ Kp [] w w' := by
  have hk : h.key = ⟨#[]⟩ := by rw [hr.1, hl]
  have h2 := hr.2
  cases hx : l.ref with
  | none =>
    rw [hx] at h2
    obtain ⟨h3, h4, q, h5, _⟩ := h2
    have e : tval E.V h = .agg #[.pointer (some ⟨E.V, 0, none⟩), .string ⟨#[]⟩, .int .i64 0, .int .u64 0, .pointer (some ⟨q, 0, none⟩)] := by rw [tval, hk, h3, h4, HL.ptr, h5]; rfl
    rw [e]
    exact empty_new E.V q w
  | some x =>
    rw [hx] at h2
    obtain ⟨h3, h4, h5, h6⟩ := h2
    have hp := E.pos n _ _ _ h6
    have e : tval E.V h = .agg #[.pointer (some ⟨E.V, 0, none⟩), .string ⟨#[]⟩, .int .i64 h.b, .int .u64 h.s, .pointer none] := by rw [tval, hk, HL.ptr, h5]; rfl
    rw [e]
    exact empty_old E.V h.b h.s (by rw [h3]; omega) w

end Go.Proofs.YtdohpenfkdckiaaGreatDoor


namespace Go.Proofs.YtdohpenfkdckiaaGreatDoor
set_option linter.unusedSimpArgs false
set_option linter.unusedVariables false
open Go.RowKit

theorem Good.row {n : Nat} {lo : ByteArray} {t : Tn (n + 1)} (h : Good (n + 1) lo t) : Row0 n lo (lnks t) := ⟨h.head, fun m hm => ⟨(h.all m hm).1, (h.all m hm).2.2⟩, h.pair⟩
theorem rise_of {O : Olds} {n : Nat} {w : World} {hs : List HL} {ls : List (Lnk (Tn n))} (hb : Both (RL O n w) hs ls) (hp : ls.Pairwise (Ahead n)) : Rise hs := by
  unfold Rise
  rw [List.pairwise_iff_getElem]
  intro i j hi hj hij
  have h1 := hb.1
  have := List.pairwise_iff_getElem.1 hp i j (by omega) (by omega) hij
  rw [(hb.2 i hi (by omega)).1, (hb.2 j hj (by omega)).1]
  exact this.1
end Go.Proofs.YtdohpenfkdckiaaGreatDoor


namespace Go.Proofs.YtdohpenfkdckiaaGreatDoor
set_option linter.unusedSimpArgs false
set_option linter.unusedVariables false
open Go.RowKit

theorem tree_set {W : World} {k : Nat} {a b c d e : Value} (v0 v1 v2 v3 v4 : Value) (h : W.heap[k]? = some (.cells #[a, b, c, d, e] 89)) :
    (((((W.setCell ⟨k, 0, none⟩ v0).setCell ⟨k, 1, none⟩ v1).setCell ⟨k, 2, none⟩ v2).setCell ⟨k, 3, none⟩ v3).setCell ⟨k, 4, none⟩ v4).heap[k]? = some (.cells #[v0, v1, v2, v3, v4] 89) ∧ Kp [k] W (((((W.setCell ⟨k, 0, none⟩ v0).setCell ⟨k, 1, none⟩ v1).setCell ⟨k, 2, none⟩ v2).setCell ⟨k, 3, none⟩ v3).setCell ⟨k, 4, none⟩ v4) :=
  ⟨heap_set (heap_set (heap_set (heap_set (heap_set h 0 _) 1 _) 2 _) 3 _) 4 _, (((((Kp.refl _ W).setCell (by simp) _).setCell (by simp) _).setCell (by simp) _).setCell (by simp) _).setCell (by simp) _⟩
/-- A variable of the work's own is written. -/
theorem Env.To.store' {E : Env} {w W W' : World} {k : Nat} {c : Array Value} {t : TypeId} {fr : Nat × Nat} (hT : E.To w W) (hk : w.heap.size ≤ k) (hh : W.heap[k]? = some (.cells c t fr)) (ht : t ∈ locTs) (hK : Kp [k] W W') : E.To w W' :=
  ⟨E.keep W W' [k] hT.dev hK (fun i hi => by rw [List.mem_singleton.1 hi]; exact ⟨c, t, fr, hh, ht⟩), hT.kp.trans hK (fun i hi hlt => by rw [List.mem_singleton.1 hi] at hlt; omega)⟩
end Go.Proofs.YtdohpenfkdckiaaGreatDoor

