import Derived.Deep.RegionHeld
import Derived.Below
import Derived.WalkKit
import Derived.WalkSpells
import Derived.Deep.QuietTactic
import Derived.BigQuiet
import Derived.Test.YtdohpenfkdckiaaGreatDoorProg
import Derived.Laws.CopyRow
import Derived.Deep.OwnRows
import Derived.Great.BuildSlice
import Derived.Great.FillDense
import Derived.Laws.BitsAllLaws
set_option linter.all false
set_option maxRecDepth 100000
set_option maxHeartbeats 20000000
namespace Go.Proofs.YtdohpenfkdckiaaGreatDoor
open Go.Proofs.Tryz
open Go.RowKit
theorem zA {α : Type} (l : List α) (i : Nat) (a : α) : l.toArray.setIfInBounds i a = (l.set i a).toArray := List.setIfInBounds_toArray l i a
theorem zB {α : Type} {x : α} {xs : List α} {a : α} : (x :: xs).set 0 a = a :: xs := List.set_cons_zero
theorem zC {α : Type} {x : α} {xs : List α} {n : Nat} {a : α} : (x :: xs).set (n + 1) a = x :: xs.set n a := List.set_cons_succ
theorem zD {α : Type} {xs : List α} {i : Nat} (h : i < xs.toArray.size) : xs.toArray[i] = xs[i]'(by simpa using h) := List.getElem_toArray h
theorem zE {α : Type} {a : α} {l : List α} {i : Nat} {h : i + 1 < (a :: l).length} : (a :: l)[i + 1] = l[i]'(Nat.lt_of_succ_lt_succ h) := List.getElem_cons_succ _ _ _ _
theorem zF {α : Type} {a : α} {l : List α} {h : 0 < (a :: l).length} : (a :: l)[0] = a := List.getElem_cons_zero _ _ _
theorem zG {α : Type} {xs : List α} {i : Nat} : xs.toArray[i]? = xs[i]? := List.getElem?_toArray
theorem zH {α : Type} {a : α} {l : List α} : (a :: l)[0]? = some a := List.getElem?_cons_zero
theorem zI {α : Type} {a : α} {l : List α} {i : Nat} : (a :: l)[i + 1]? = l[i]? := List.getElem?_cons_succ
theorem zM : ∀ (fn : Fn) (first cap : Array Value) (w : World), (Instr.makeFunc fn first cap).run Tryz.prog w = .ok (.func fn first cap) w := fun _ _ _ _ => rfl
section
variable {P:Program} {md:Region.Mode} {ops:Array Oper} {Q:Exit→Act→World→Prop} {S:World→Prop} {oi oj:Oper} {fuel:Nat} {l:Array Bool} {a a':Act} {w:World}
theorem zZ:(∀ (a:Act) (d:Nat) (v:Value),a.put (some d) v={a with tmps:=a.tmps.setIfInBounds d v})∧(∀ (a:Act) (v:Value),a.put none v=a)∧(∀ {α:Type} (l:List α) (i:Nat) (a:α),l.toArray.setIfInBounds i a=(l.set i a).toArray)∧(∀ {α:Type} {x:α} {s:List α} {a:α},(x::s).set 0 a=a::s)∧(∀ {α:Type} {x:α} {s:List α} {n:Nat} {a:α},(x::s).set (n+1) a=x::s.set n a)∧(∀ {α:Type} {s:List α} {i:Nat} (h:i<s.toArray.size),s.toArray[i]=s[i]'(by simpa using h))∧(∀ {α:Type} {a:α} {l:List α} {i:Nat} {h:i+1<(a::l).length},(a::l)[i+1]=l[i]'(Nat.lt_of_succ_lt_succ h))∧(∀ {α:Type} {a:α} {l:List α} {h:0<(a::l).length},(a::l)[0]=a):=⟨fun _ _ _=>rfl,fun _ _=>rfl,zA,zB,zC,zD,zE,zF⟩
theorem zV (i:Nat) (v:Value) (hi:ops[i]?=some oi) (hy:∀ W,S W→(execOp a.eval oi).run P W=.ok (.value v) W) (hS:S w) (h:wpAnyH P md ops Q S fuel (l.setIfInBounds i true) a' w) (hb:(Region.noSelect ops && (Region.free md ops l i && (Region.ready md ops l).contains i))=true:=by kernel_rfl) (hQ:∀ c a w,Q (.panic c) (a.put oi.dst v) w→Q (.panic c) a w:=by exact fun _ _ _ h=>h) (hw:Region.wanted oi (yielded ops a.tmps)=true:=by rfl) (ha:a.put oi.dst v=a':=by simp only [zZ];try exact rfl):wpAnyH P md ops Q S (fuel+1) l a w:=by
 subst ha;simp only [Bool.and_eq_true] at hb;exact wpAnyH_take hi hb.1 hb.2.1 hb.2.2 hQ (.inl ⟨hw,hy⟩) hS h
theorem zU (i:Nat) (v:Value) (hS:S w) (h:wpAnyH P md ops Q S fuel (l.setIfInBounds i true) a' w) (hi:ops[i]?=some oi:=by rfl) (hb:(Region.noSelect ops && (Region.free md ops l i && (Region.ready md ops l).contains i))=true:=by kernel_rfl) (hQ:∀ c a w,Q (.panic c) (a.put oi.dst v) w→Q (.panic c) a w:=by exact fun _ _ _ h=>h) (hw:Region.wanted oi (yielded ops a.tmps)=true:=by rfl) (hy:∀ W,(execOp a.eval oi).run P W=.ok (.value v) W:=by intro W;go_simp) (ha:a.put oi.dst v=a':=by simp only [zZ];try exact rfl):wpAnyH P md ops Q S (fuel+1) l a w:=zV i v hi (fun W _=>hy W) hS h hb hQ hw ha
theorem zu (i:Nat) (v:Value) (h:wpAny P md ops Q fuel (l.setIfInBounds i true) a' w) (hi:ops[i]?=some oi:=by rfl) (hb:(Region.noSelect ops && (Region.free md ops l i && (Region.ready md ops l).contains i))=true:=by kernel_rfl) (hQ:∀ c a w,Q (.panic c) (a.put oi.dst v) w→Q (.panic c) a w:=by exact fun _ _ _ h=>h) (hw:Region.wanted oi (yielded ops a.tmps)=true:=by rfl) (hy:∀ W,(execOp a.eval oi).run P W=.ok (.value v) W:=by intro W;go_simp) (ha:a.put oi.dst v=a':=by simp only [zZ];try exact rfl):wpAny P md ops Q (fuel+1) l a w:=by
 subst ha;simp only [Bool.and_eq_true] at hb;exact wpAny_take hi hb.1 hb.2.1 hb.2.2 hQ (.inl ⟨hw,hy⟩) h
theorem zP (i q k:Nat) (hS:S w) (h:wpAnyH P md ops Q S fuel (l.setIfInBounds i true) a' w) (hi:ops[i]?=some oi:=by rfl) (hb:(Region.noSelect ops && (Region.free md ops l i && (Region.ready md ops l).contains i))=true:=by kernel_rfl) (hQ:∀ c a w,Q (.panic c) (a.put oi.dst (.pointer (some ⟨q,k,none⟩))) w→Q (.panic c) a w:=by exact fun _ _ _ h=>h) (hw:Region.wanted oi (yielded ops a.tmps)=true:=by rfl) (hy:∀ W,(execOp a.eval oi).run P W=.ok (.value (.pointer (some ⟨q,k,none⟩))) W:=by intro W;go_simp) (ha:a.put oi.dst (.pointer (some ⟨q,k,none⟩))=a':=by simp only [zZ];try exact rfl):wpAnyH P md ops Q S (fuel+1) l a w:=zV i _ hi (fun W _=>hy W) hS h hb hQ hw ha
theorem zq (i:Nat) (h:∀ K':Act→World→Prop,Shut (∀ a w,S w→(S w→wpAnyH P md ops Q S fuel (l.setIfInBounds i true) a w)→K' a w)→if Region.wanted oi (yielded ops a.tmps)=true then Oper.wp P oi a w K' Q else K' (a.put oi.dst undef) w) (ho:ops[i]?=some oi:=by rfl) (hr:Region.ready md ops l=[i]:=by kernel_rfl):wpAnyH P md ops Q S (fuel+1) l a w:=wpAnyH_ready hr (by simp) (AllReadyH.cons ho h AllReadyH.nil)
theorem zr (i j:Nat) (h:∀ K':Act→World→Prop,Shut (∀ a w,S w→(S w→wpAnyH P md ops Q S fuel (l.setIfInBounds i true) a w)→K' a w)→if Region.wanted oi (yielded ops a.tmps)=true then Oper.wp P oi a w K' Q else K' (a.put oi.dst undef) w) (h2:∀ K':Act→World→Prop,Shut (∀ a w,S w→(S w→wpAnyH P md ops Q S fuel (l.setIfInBounds j true) a w)→K' a w)→if Region.wanted oj (yielded ops a.tmps)=true then Oper.wp P oj a w K' Q else K' (a.put oj.dst undef) w) (ho:ops[i]?=some oi:=by rfl) (ho2:ops[j]?=some oj:=by rfl) (hr:Region.ready md ops l=[i,j]:=by kernel_rfl):wpAnyH P md ops Q S (fuel+1) l a w:=wpAnyH_ready hr (by simp) (AllReadyH.cons ho h (AllReadyH.cons ho2 h2 AllReadyH.nil))
theorem zQ (i:Nat) (h:∀ K':Act→World→Prop,(∀ a w,wpAny P md ops Q fuel (l.setIfInBounds i true) a w→K' a w)→if Region.wanted oi (yielded ops a.tmps)=true then Oper.wp P oi a w K' Q else K' (a.put oi.dst undef) w) (ho:ops[i]?=some oi:=by rfl) (hr:Region.ready md ops l=[i]:=by kernel_rfl):wpAny P md ops Q (fuel+1) l a w:=wpAny_ready hr (by simp) (AllReady.cons ho h AllReady.nil)
theorem zd (h:Q .normal a w) (hr:Region.ready md ops l=[]:=by kernel_rfl):wpAnyH P md ops Q S fuel l a w:=wpAnyH_done hr h _
theorem zh {p:Prop} (h:p):RowKit.Hid p:=h
end
abbrev ϖ(x:Nat):Value:=.pointer (some ⟨x,0,none⟩)
abbrev Ω:=Calls prog
abbrev Ϙ(w:World)(k:Nat)(o:Obj):Prop:=w.heap[k]?=some o
abbrev ϊ:=Value.int .i64
abbrev ϱ:=Ending.returned
abbrev ϛ:Array Value:=#[.pointer none,.string ⟨#[]⟩,.int .i64 0,.int .u64 0,.pointer none]
abbrev ϝ:Array Value:=#[.string ⟨#[]⟩,.string ⟨#[]⟩]
abbrev ϙ:Array Value:=#[.string ⟨#[]⟩,.int .i64 0,.int .u64 0,.pointer none]
abbrev mC:=@List.mem_cons
abbrev lN:=@List.not_mem_nil
abbrev tL:=@List.take_of_length_le
abbrev gM:=@List.getElem_mem
abbrev gQ:=@List.getElem?_eq_getElem
abbrev lA:=@List.length_append
abbrev tA:=@List.take_succ_eq_append_getElem
abbrev zL:=@Nat.zero_le
abbrev aA:=@List.append_assoc
abbrev wN:=@World.ownsRow_nil
abbrev vJ:=@Value.slice.injEq
abbrev tD:=@List.take_append_drop
abbrev lC:=@List.length_cons
abbrev nA:=@List.nil_append
abbrev oB:=@Value.ownBlock
abbrev cA:=@List.cons_append
abbrev gO:=@List.getElem_of_mem
abbrev lT:=@Nat.le_trans
abbrev fC:=@List.flatMap_cons
abbrev dG:=@List.drop_eq_getElem_cons
abbrev iR:=@Int.le_refl
abbrev oC:=@Value.oneCell'
abbrev mM:=@List.mem_cons_of_mem
abbrev fA:=@List.flatMap_append
abbrev lK:=@List.length_take
abbrev aT:=@List.append_toArray
abbrev wK:=@IntKind.wrap_i64
abbrev aN:=@List.append_nil
abbrev gR:=@List.getElem_append_right
abbrev gL:=@List.getElem_append_left
abbrev dZ:=@List.drop_zero
abbrev lD:=@List.length_drop
abbrev mO:=@List.mem_of_getElem?
abbrev mD:=@List.mem_of_mem_drop
abbrev fL:=@List.findIdx_le_length
abbrev mT:=@List.mem_of_mem_take
abbrev dL:=@List.drop_of_length_le
abbrev gN:=@List.getElem?_eq_none
theorem mS{α:Type}{a b:α}(h:a∈[b]):a=b:=List.mem_singleton.1 h
theorem gS{α:Type}{l:List α}{i:Nat}{a:α}(h:l[i]?=some a):∃ h:i<l.length,l[i]=a:=List.getElem?_eq_some_iff.1 h
theorem mA{α:Type}{a:α}{s t:List α}(h:a∈s++t):a∈s∨a∈t:=List.mem_append.1 h
theorem pG{α:Type}{R:α→α→Prop}{l:List α}(h:l.Pairwise R):∀ (i j:Nat)(hi:i<l.length)(hj:j<l.length),i<j→R l[i] l[j]:=List.pairwise_iff_getElem.1 h
theorem mF{α β:Type}{f:α→List β}{b:β}{l:List α}(h:b∈l.flatMap f):∃ a,a∈l∧b∈f a:=List.mem_flatMap.1 h
theorem pC{α:Type}{R:α→α→Prop}{a:α}{l:List α}(h:(a::l).Pairwise R):(∀ b∈l,R a b)∧l.Pairwise R:=List.pairwise_cons.1 h
theorem pA{α:Type}{R:α→α→Prop}{s t:List α}(h:(s++t).Pairwise R):s.Pairwise R∧t.Pairwise R∧∀ a∈s,∀ b∈t,R a b:=List.pairwise_append.1 h
structure Kp(S:List Nat)(w w':World):Prop where
 os:w'.os=w.os
 tape:w'.tape=w.tape
 output:w'.output=w.output
 size:w.heap.size≤w'.heap.size
 block:∀ k,k<w.heap.size→k ∉ S→w'.heap[k]?=w.heap[k]?
theorem ζ{w:World}{k:Nat}{o:Obj}(h:w.heap[k]?=some o):k<w.heap.size:=(Array.getElem?_eq_some_iff.1 h).1
theorem Kp.refl(S)(w):Kp S w w:=⟨rfl,rfl,rfl,Nat.le_refl _,λ_ _ _=>rfl⟩
theorem Kp.trans{S S'}{a b c}(h:Kp S a b)(k:Kp S' b c)(f:∀ i,i∈S'->i<a.heap.size->i∈S):Kp S a c:=
 ⟨k.os.trans h.os,k.tape.trans h.tape,k.output.trans h.output,lT h.size k.size,λi d e=>
  (k.block i (Nat.lt_of_lt_of_le d h.size) (λg=>e (f i g d))).trans (h.block i d e)⟩
theorem Kp.mono{S S'}{a b}(h:Kp S a b)(d:∀ i,i∈S->i<a.heap.size->i∈S'):Kp S' a b:=
 ⟨h.os,h.tape,h.output,h.size,λi c e=>h.block i c (λhm=>e (d i hm c))⟩
theorem Kp.drew{S}{a b}(h:Kp S a b):Kp S a b.drew:=⟨h.os,h.tape,h.output,h.size,h.block⟩
theorem Kp.drewN{S}{a b}(h:Kp S a b)(n:Nat):Kp S a (b.drewN n):=⟨h.os,h.tape,h.output,h.size,h.block⟩
theorem Kp.alloc{S}{a b}(h:Kp S a b)(o):Kp S a (b.alloc o):=
 ⟨h.os,h.tape,h.output,by have:=h.size;simp;omega,λk c d=>(Below.heap_alloc _ _ _ (Nat.lt_of_lt_of_le c h.size)).trans (h.block k c d)⟩
theorem Kp.setCell{S}{a b}(h:Kp S a b){p}(c:p.block∈S\/a.heap.size<=p.block)(u):Kp S a (b.setCell p u):=
 ⟨h.os,h.tape,h.output,by have:=h.size;simp[World.setCell];omega,λk f d=>(Below.heap_setCell _ _ _ _ (by
  rcases c with c|c
  .intro e;subst e;exact d c
  .omega)).trans (h.block k f d)⟩
theorem Kp.grown{S}{a b c}{i:Option Nat}(h:Kp S a b)(d:b.grownBy c i)(j:∀ k,i=some k->k∈S\/a.heap.size<=k):Kp S a c:=
 ⟨d.os.trans h.os,d.tape.trans h.tape,d.output.trans h.output,lT h.size d.size,λk f g=>
  (d.block k (Nat.lt_of_lt_of_le f h.size) (λe=>by rcases j k e.symm with h1 | h1;exact g h1;omega)).trans (h.block k f g)⟩
theorem Kp.of_below{B:Nat}{w w'}(h:Below B w w')(a:w.heap.size<=B):Kp [] w w':=
 ⟨h.os,h.tape,h.output,h.size,λk b _=>h.block k (by omega)⟩
theorem Kp.below{S}{B:Nat}{w w'}(h:Kp S w w')(b:B<=w.heap.size)(a:∀ k,k∈S->B<=k):Below B w w':=
 ⟨h.os,h.tape,h.output,h.size,λk c=>h.block k (by omega) (λhm=>by have:=a k hm;omega)⟩
theorem Kp.heap{S}{w w'}(h:Kp S w w'){k:Nat}{o}(a:w.heap[k]?=some o)(b:k ∉ S):w'.heap[k]?=some o:=
 (h.block k (ζ a) b).trans a
theorem Kp.cell{S}{w w'}(h:Kp S w w'){a}(b:a.block<w.heap.size)(c:a.block ∉ S):w'.cell? a=w.cell? a:=
 World.cell?_of_block (w:=w) (h.block _ b c)
theorem ξ{w:World}{b:Nat}{c:Array Value}{t:TypeId}{a:Nat × Nat}(h:w.heap[b]?=some (.cells c t a))(o:Nat):w.cell? ⟨b,o,none⟩=c[o]?:=by
 simp[World.cell?,h]
theorem ψ{w:World}{b:Nat}{c:Array Value}{t:TypeId}(h:w.heap[b]?=some (.cells c t))(o:Nat):w.frozen? ⟨b,o,none⟩=false:=by
 simp[World.frozen?,h]
theorem μ{w:World}{b:Nat}{c:Array Value}{t:TypeId}{a:Nat × Nat}(h:w.heap[b]?=some (.cells c t a))(o:Nat)(v:Value):(w.setCell ⟨b,o,none⟩ v).heap[b]?=some (.cells (c.setIfInBounds o v) t a):=by
 simp[World.setCell,Array.getElem?_modify,h]
theorem qB2{w:World}{b k:Nat}(a:k≠b)(o:Nat)(v:Value):(w.setCell ⟨b,o,none⟩ v).heap[k]?=w.heap[k]?:=Below.heap_setCell _ _ _ _ a
theorem υ(w:World)(o:Obj):(w.alloc o).heap[w.heap.size]?=some o:=by
 show (w.heap.push o)[w.heap.size]?=_;simp
theorem ρ{w:World}(o:Obj){k:Nat}{x:Obj}(h:w.heap[k]?=some x):(w.alloc o).heap[k]?=some x:=(Below.heap_alloc _ _ _ (ζ h)).trans h
theorem Kp.hp {S:List Nat} {w w':World} (h:Kp S w w') {k:Nat} {o:Obj} (hk:w.heap[k]?=some o) (hn:k∉S:=by simp):w'.heap[k]?=some o:=h.heap hk hn
theorem Kp.ho {S:List Nat} {w w':World} (h:Kp S w w') {k:Nat} {o:Obj} (hk:w.heap[k]?=some o) (hn:k∉S:=by simp;omega):w'.heap[k]?=some o:=h.heap hk hn
theorem Kp.tr {S S':List Nat} {a b c:World} (h:Kp S a b) (k:Kp S' b c) (hS:∀ i,i∈S'→i<a.heap.size→i∈S:=by simp):Kp S a c:=h.trans k hS
theorem Kp.sc {S:List Nat} {a b:World} (h:Kp S a b) {p:Addr} (u:Value) (hp:p.block∈S∨a.heap.size≤p.block:=by simp):Kp S a (b.setCell p u):=h.setCell hp u
section
variable {P:Program} {md:Region.Mode} {ops:Array Oper} {Q:Exit→Act→World→Prop} {S:World→Prop} {oi oj:Oper} {fuel:Nat} {l:Array Bool} {a a':Act} {w:World}
theorem zW (i:Nat) (v:Value) (hS:S w) {b:Nat} {c:Array Value} {t:TypeId} {fr:Nat × Nat} (hc:∀ {W},S W→W.heap[b]?=some (.cells c t fr)) (h:wpAnyH P md ops Q S fuel (l.setIfInBounds i true) a' w) (hi:ops[i]?=some oi:=by rfl) (hb:(Region.noSelect ops && (Region.free md ops l i && (Region.ready md ops l).contains i))=true:=by kernel_rfl) (hQ:∀ c a w,Q (.panic c) (a.put oi.dst v) w→Q (.panic c) a w:=by exact fun _ _ _ h=>h) (hw:Region.wanted oi (yielded ops a.tmps)=true:=by rfl) (hy:∀ W,(∀ o,W.cell? ⟨b,o,none⟩=c[o]?)→(execOp a.eval oi).run P W=.ok (.value v) W:=by intro W h;go_simp) (ha:a.put oi.dst v=a':=by simp only [zZ];try exact rfl):wpAnyH P md ops Q S (fuel+1) l a w:=zV i v hi (fun W h=>hy W (ξ (hc h))) hS h hb hQ hw ha
end
theorem ϻ{w:World}{k:Nat}{c:Array Value}{t:TypeId}{fr:Nat × Nat}(h:w.heap[k]?=some (.cells c t fr))(i:Nat){v:Value}(hv:c[i]?=some v:=by rfl):w.cell? ⟨k,i,none⟩=some v:=(ξ h i).trans hv
theorem alA(w:World)(o:Obj):∃ v,v=w.alloc o∧v.heap[w.heap.size]?=some o∧Kp [] w v:=⟨_,rfl,υ _ _,(Kp.refl _ _).alloc _⟩
theorem alB(w:World)(o:Obj):∃ v,v=w.alloc o∧v.heap[w.heap.size]?=some o∧Kp [] w v∧v.heap.size=w.heap.size+1:=⟨_,rfl,υ _ _,(Kp.refl _ _).alloc _,by simp⟩
theorem alC(w:World)(a b:Obj):∃ v,v=(w.alloc a).alloc b∧v.heap[w.heap.size]?=some a∧v.heap[w.heap.size+1]?=some b∧Kp [] w v∧v.heap.size=w.heap.size+2:=⟨_,rfl,ρ _ (υ _ _),by simpa using υ (w.alloc a) b,((Kp.refl _ _).alloc _).alloc _,by simp⟩
theorem alD(w:World)(a b c:Obj):∃ v,v=((w.alloc a).alloc b).alloc c∧v.heap[w.heap.size]?=some a∧v.heap[w.heap.size+1]?=some b∧v.heap[w.heap.size+1+1]?=some c∧Kp [] w v∧v.heap.size=w.heap.size+3:=⟨_,rfl,ρ _ (ρ _ (υ _ _)),ρ _ (by simpa using υ (w.alloc a) b),by simpa using υ ((w.alloc a).alloc b) c,(((Kp.refl _ _).alloc _).alloc _).alloc _,by simp⟩
theorem alE(w:World)(a b c:Obj):∃ v,v=((w.alloc a).alloc b).alloc c∧v.heap[w.heap.size]?=some a∧v.heap[w.heap.size+1]?=some b∧v.heap[w.heap.size+2]?=some c∧Kp [] w v∧v.heap.size=w.heap.size+3:=alD w a b c
theorem alH(w:World)(a b:Obj):∃ v,v=(w.alloc a).alloc b∧v.heap[w.heap.size]?=some a∧v.heap[w.heap.size+1]?=some b∧Kp [] w v:=⟨_,rfl,ρ _ (υ _ _),by simpa using υ (w.alloc a) b,((Kp.refl _ _).alloc _).alloc _⟩
theorem alG(w:World)(a b c d:Obj):∃ v,v=(((w.alloc a).alloc b).alloc c).alloc d∧v.heap[w.heap.size]?=some a∧v.heap[w.heap.size+1]?=some b∧v.heap[w.heap.size+1+1]?=some c∧v.heap[w.heap.size+1+1+1]?=some d∧Kp [] w v∧v.heap.size=w.heap.size+4:=⟨_,rfl,ρ _ (ρ _ (ρ _ (υ _ _))),ρ _ (ρ _ (by simpa using υ (w.alloc a) b)),ρ _ (by simpa using υ ((w.alloc a).alloc b) c),by simpa using υ (((w.alloc a).alloc b).alloc c) d,((((Kp.refl _ _).alloc _).alloc _).alloc _).alloc _,by simp⟩
theorem alF(w:World)(o:Obj):∃ v,v=(w.alloc o).drew∧v.heap[w.heap.size]?=some o∧Kp [] w v:=⟨_,rfl,υ _ _,((Kp.refl _ _).alloc _).drew⟩
section
variable {P:Program}{md:Region.Mode}{ops:Array Oper}{Q:Exit→Act→World→Prop}{S:World→Prop}{fuel:Nat}{l:Array Bool}{a a':Act}{w:World}
theorem zk {K:Act→World→Prop}(hK:Shut (∀ a w,S w→(S w→wpAnyH P md ops Q S fuel l a w)→K a w))(hS:S w)(h:wpAnyH P md ops Q S fuel l a' w)(ha:a=a':=by first | (simp only [zZ];try exact rfl) | exact rfl):K a w:=by
 subst ha;exact hK.out a w hS fun _=>h
end
theorem n2{a b:Prop}(x:a)(y:b):a∧b:=⟨x,y⟩
theorem n3{a b c:Prop}(x:a)(y:b)(z:c):a∧b∧c:=⟨x,y,z⟩
theorem n4{a b c d:Prop}(x:a)(y:b)(z:c)(u:d):a∧b∧c∧d:=⟨x,y,z,u⟩
theorem n5{a b c d e:Prop}(x:a)(y:b)(z:c)(u:d)(v:e):a∧b∧c∧d∧e:=⟨x,y,z,u,v⟩
theorem n6{a b c d e f:Prop}(x:a)(y:b)(z:c)(u:d)(v:e)(w:f):a∧b∧c∧d∧e∧f:=⟨x,y,z,u,v,w⟩
theorem gE{x:World}{k:Nat}{o:Obj}{S:List Nat}{W:World}(h:x.heap[k]?=some o∧Kp S W x):∃ v,v=x∧v.heap[k]?=some o∧Kp S W v:=⟨x,rfl,h⟩
theorem eX.{u}{α:Sort u}(x:α):∃ v,v=x:=⟨x,rfl⟩
theorem eY.{u}{α:Sort u}(x:α):∃ v,x=v:=⟨x,rfl⟩
theorem oM{p:Prop}(h:p:=by omega):p:=h
theorem dC{p:Prop}(h:p:=by decide):p:=h
theorem sM{p:Prop}(h:p:=by simp):p:=h
theorem sO{p:Prop}(h:p:=by simp;omega):p:=h
theorem kR{p:Prop}(h:p:=by kernel_rfl):p:=h
theorem kF{S:List Nat}{w:World}:Kp S w w:=Kp.refl _ _
theorem lR{n:Nat}:n≤n:=Nat.le_refl _
def qJ5(s x:Int):Int:=IntKind.u64.wrap (bits BinOp.xor .u64 s (IntKind.u64.wrap x)*1099511628211)
def fnv(xs:List Int):Int:=xs.foldl qJ5 14695981039346656037
theorem jK7(xs:List Int)(k:Nat)(h:k<xs.length):fnv (xs.take (k+1))=qJ5 (fnv (xs.take k)) xs[k]:=by
 unfold fnv;rw[tA h,List.foldl_append];rfl
theorem qK7{k:IntKind}{a b:Int}(h:a=b):Ending.returned (.int k a)=.returned (.int k b):=by rw[h]
theorem zB9(b d a cap:Nat)(xs:List Int)(w)(p:xs.length=a)(m:a<=1000000)
  (g:∀ j,j<a->w.cell? ⟨b,d+j,none⟩=some (.int .u8 (xs.getD j 0))):
  Calls prog 251 #[.slice (some ⟨b,d,none⟩) a cap] w λe l=>e=.returned (.int .u64 (fnv xs))/\l=w:=by
 go_enter func251,ntmps251;go_wp2
 go_loop [3,8] (λs i=>∃ (k:Nat),k<=a/\i=.int .i64 k/\s=.int .u64 (fnv (xs.take k))) (λ_ i=>a-(intOf i).toNat)
 case atStart=>exact⟨0,zL _,rfl,rfl⟩
 case round=>
  obtain⟨k,o,rfl,rfl⟩:=hrel;by_cases h:k<a
  .have n:=g k h;have c:=jK7 xs k oM;have f:=zh c;clear c;go_wp2;refine⟨⟨k+1,oM,by go_num,by rw[f.out];rfl⟩,by simp[intOf];omega⟩
  .go_wp2;go_ret;exact⟨qK7 (by rw[tL oM]),rfl⟩
def qG6(xs:List Int):Int:=xs.foldr (fun x n=>bits BinOp.or .u64 (IntKind.u64.wrap (n*256)) (IntKind.u64.wrap x)) 0
theorem qW7(b d a cap:Nat)(xs:List Int)(w)(s:xs.length=a)(m:a<=1000000)
  (g:∀ j,j<a->w.cell? ⟨b,d+j,none⟩=some (.int .u8 (xs.getD j 0))):
  Calls prog 248 #[.slice (some ⟨b,d,none⟩) a cap] w λe l=>e=.returned (.int .u64 (qG6 xs))/\l=w:=by
 go_enter func248,ntmps248;go_wp2
 go_loop [3,4] (λn i=>∃ (k:Nat),k<=a/\i=.int .i64 ((k:Int)-1)/\n=.int .u64 (qG6 (xs.drop k))) (λ_ i=>(intOf i+1).toNat)
 case atStart=>exact⟨a,lR,by go_num,by rw[dL oM];rfl⟩
 case round=>
  obtain⟨k,p,rfl,rfl⟩:=hrel;by_cases q:0<k
  .obtain⟨j,rfl⟩:∃ j,k=j+1:=⟨k-1,oM⟩;have o:=g j oM;have f:Hid (qG6 (xs.drop j)=bits BinOp.or .u64 (IntKind.u64.wrap (qG6 (xs.drop (j+1))*256)) (IntKind.u64.wrap (xs[j]?.getD 0))):=by
    have c:j<xs.length:=oM
    show _=_;rw[dG c,gQ c];rfl
   go_wp2;refine⟨⟨j,oM,rfl,by rw[f.out]⟩,by simp[intOf]⟩
  .have h:k=0:=oM
   subst h;have r:decide ((0:Int)<=((0:Nat):Int)-1)=false:=dC
   go_wp2;go_ret;exact⟨qK7 sM,rfl⟩
def qB5:Nat→Int→List Int
 | 0,_=>[]
 | k+1,n=>n % 256::qB5 k (n / 256)
theorem qH9(k:Nat)(n:Int):(qB5 k n).length=k:=by induction k generalizing n<;>simp_all [qB5]
def u8s(xs:List Int):List Value:=xs.map (.int .u8)
theorem zQ1(k:Nat)(n:Int):qB5 (k+1) n=qB5 k n++[n / (256:Int) ^ k % 256]:=by
 induction k generalizing n with
 | zero=>simp[qB5]
 | succ k ih=>
  rw[qB5,ih (n / 256),qB5];simp only[cA];rw[Int.ediv_ediv_of_nonneg dC,Int.pow_succ,Int.mul_comm]
theorem qI4{w:World}{base:Nat}{e:TypeId}{sz:Nat}{v:Value}{n:Nat}{xs:List Value}(h:w.ownsRow base e sz v n xs):∀ k,v.ownBlock=some k->base<=k:=by
 obtain⟨_,b⟩:=h;rcases b with⟨rfl,_⟩|⟨g,cap,cur,rfl,c,_⟩
 .intro k a;cases a
 .intro k a;cases a;exact c
theorem Tryz.info5:(prog.info? 5).map (λi=>(i.zero,i.size,i.bytes))=some (some (.int .u8 0),1,1):=kR
theorem zL5(v)(base k:Nat)(xs:List Int)(n:Int)(m:Nat)(w)(I:k<=1000)(F:m<=100)(r:0<=n)
  (C:base<=w.heap.size) (t:w.ownsRow base 5 1 v k (u8s xs)):
  Calls prog 250 #[v,.int .u64 n,.int .i64 m] w λe h=>∃ b,e=.returned b/\h.ownsRow base 5 1 b (k+m) (u8s (xs++qB5 m n))/\Below base w h:=by
 obtain⟨A,p,x,y,z⟩:=info_parts Tryz.info5;go_enter func250,ntmps250;go_wp2
 go_loopw [0,1,8] (λs q i wr=>∃ (j:Nat) (b:Value) (a:Int),j<=m/\i=.int .i64 j/\q=.int .u64 a/\a=n / (256:Int) ^ j/\0<=a/\a<=n/\s=b/\wr.ownsRow base 5 1 b (k+j) (u8s (xs++qB5 j n))/\Below base w wr) (λ_ _ i _=>m-(intOf i).toNat)
 case atStart=>exact⟨0,v,n,Nat.zero_le _,rfl,rfl,sM,r,Int.le_refl _,rfl,by simpa [qB5] using t,Below.refl _ _⟩
 case round=>
  obtain⟨j,b,a,D,rfl,rfl,g,G,H,rfl,d,c⟩:=hrel;have f:=zh g;clear g;by_cases E:j<m
  .go_wp2_with (at_builtin;refine wpList_append_own _ rfl _ _ 118 rfl base 5 A (.int .u8 0) 1 1 underlying118 p x y z rfl dC _ _ _ rfl (d.alloc _) ⟨wr.heap.size,0,none⟩ 1 1 [.int .u8 (a % 256)] rfl rfl (cell_one_new _ _ _) (by simp[Value.oneCell']) (by unfold maxLen;omega) oM (by have:=c.size;simp;omega) ?_;intro B J u o _)
   refine⟨⟨j+1,B,a / 256,oM,by go_num,rfl,?_,oM,oM,rfl,?_,?_⟩,by simp[intOf];omega⟩
   .rw[f.out,Int.ediv_ediv_of_nonneg (by exact Int.pow_nonneg dC),Int.pow_succ]
   .have l:u8s (xs++qB5 (j+1) n)=u8s (xs++qB5 j n)++[.int .u8 (a % 256)]:=by rw[zQ1,<-f.out];simp[u8s]
    rw[l];exact u
   .exact (c.alloc (by have:=c.size;omega) _).grown o (by have:=c.size;simp;omega) (qI4 d)
  .go_wp2;go_ret;have e:j=m:=oM
   subst e;exact⟨_,rfl,d,c⟩
def qB0(cs:Array Value)(o n:Nat):Array Value:=((cs.toList.drop o).take n).toArray
def qI2(cs:Array Value)(o:Nat)(p:Array Value):Array Value:=(cs.toList.take o++p.toList++cs.toList.drop (o+p.size)).toArray
theorem qU7{cs}{o n:Nat}(h:o+n<=cs.size):(qB0 cs o n).size=n:=by simp[qB0];omega
theorem qW8{cs}{o n j:Nat}(h:j<n):(qB0 cs o n)[j]?=cs[o+j]?:=by
 simp[qB0,List.getElem?_take,h]
theorem Kp.setRow{S}{a b}(h:Kp S a b){g:Nat}(c:g∈S\/a.heap.size<=g)(cs):Kp S a (b.setRow g cs):=
 ⟨h.os,h.tape,h.output,by have:=h.size;simp[World.setRow];omega,λk f d=>(setRow_other _ _ _ _ (by
  rcases c with c|c
  .intro e;subst e;exact d c
  .omega)).trans (h.block k f d)⟩
theorem qL7{w:World}{base:Nat}{e:TypeId}{sz:Nat}{v:Value}{n:Nat}{xs:List Value}(h:w.ownsRow base e sz v (n+1) xs):∃ g cap,v=.slice (some ⟨g,0,none⟩) (n+1) cap:=by
 obtain⟨_,c⟩:=h;rcases c with⟨_,b⟩|⟨g,cap,cur,rfl,_⟩
 .cases b
 .exact⟨g,cap,rfl⟩
section
variable {P:Program} {w:World} {ops:Array Oper} {rest:List Oper} {a:Act} {Q:Exit→Act→World→Prop} {dst:Option Tmp} {ty:TypeId} {pos:String} {aft:Array Edge}
theorem qH0(b o j:Nat):(⟨b,o,none⟩:Addr).add j=⟨b,o+j,none⟩:=by unfold Addr.add;split<;>simp_all
theorem zB5{t t' e}(ty)(y:P.underlying t=some (.slice e))(x:(P.info? e).map (·.size)=some 1)
  {g o dLen dCap b c sLen sCap:Nat} (n:Nat) (s:n=Nat.min sLen dLen)
  {cur d} {tg tb} {fr} (p:w.heap[g]?=some (.cells cur tg)) (m:w.heap[b]?=some (.cells d tb fr)) (z:o+n<=cur.size) (q:c+n<=d.size)
  (l:∀ v∈(qB0 d c n).toList,v.oneCell'=true):
  Sem.run P (Builtin.copy_ #[t,t'] ty #[.slice (some ⟨g,o,none⟩) dLen dCap,.slice (some ⟨b,c,none⟩) sLen sCap]) w=.ok (.int .i64 n) (w.setRow g (qI2 cur o (qB0 d c n))):=by
 have f:=qU7 (cs:=d) q;have u:=run_copy_row P w t t' ty e g o dLen dCap ⟨b,c,none⟩ sLen sCap cur tg (qB0 d c n).toList y x p (by rw[Array.length_toList,f,s]) (λj v h=>by
  rw[qH0,ξ m];have r:j<n:=by
   have:=(gS h).1;simp[f] at this;exact this
  rw[<-qW8 r];simpa using h) (by simp[f];omega) l
 have i:goInt ((qB0 d c n).toList.length:Int)=.int .i64 n:=by simp[goInt,f]
 have k:(cur.toList.take o++(qB0 d c n).toList++cur.toList.drop (o+(qB0 d c n).toList.length)).toArray=qI2 cur o (qB0 d c n):=by simp[qI2]
 rw[u,i,k]
theorem qQ3{g o:Nat}{t}{vs:List Value}{cur}(d:w.heap[g]?=some (.cells cur t))(c:o+vs.length<=cur.size)(b:∀ v∈vs,v.oneCell'=true):
  Sem.run P (storeCells ⟨g,o,none⟩ vs) w=.ok () (w.setRow g (qI2 cur o vs.toArray)):=by
 have e:=run_storeCells_at P g o t vs 0 cur w d (by simpa using c) b;rw[e];simp[qI2]
theorem zB6{b o n:Nat}{src}{tb}{fr}(e:w.heap[b]?=some (.cells src tb fr))(f:o+n<=src.size):
  Sem.run P (loadCells ⟨b,o,none⟩ n) w=.ok (qB0 src o n) w:=by
 have d:=qU7 (cs:=src) f;have g:=run_loadCells_list (P:=P) w ⟨b,o,none⟩ (qB0 src o n).toList (λj v c=>by
  rw[qH0,ξ e];have h:j<n:=by
   have:=(gS c).1;simp[d] at this;exact this
  rw[<-qW8 h];simpa using c)
 simpa [d] using g
theorem qF2{o:Oper}{v}{w'}{K:Act->World->Prop}{E:Prop}(b:o.guard=none)(c:Sem.run P (execOp a.eval o) w=.ok (.value v) w')(hK:K (a.put o.dst v) w'):
  if Region.wanted o (yielded ops a.tmps)=true then Oper.wp P o a w K Q else E:=by
 have d:Region.wanted o (yielded ops a.tmps)=true:=by simp[Region.wanted,b]
 rw[if_pos d];unfold Oper.wp;rw[c];exact hK
theorem kL3{o:Oper}{w'}{K:Act->World->Prop}{E:Prop}(b:o.guard=none)(c:Sem.run P (execOp a.eval o) w=.ok .skip w')(hK:K (a.put o.dst undef) w'):
  if Region.wanted o (yielded ops a.tmps)=true then Oper.wp P o a w K Q else E:=by
 have d:Region.wanted o (yielded ops a.tmps)=true:=by simp[Region.wanted,b]
 rw[if_pos d];unfold Oper.wp;rw[c];exact hK
theorem xC7{o:Oper}{x:Operand}{t}(k:o.op=.load t x)(qI6:(match P.underlying t with | some (.struct _)=>true | some (.array _ _)=>true | _=>false)=true)(n:Nat)(m:(P.info? t).map (·.size)=some n)
  (b c:Nat) (p:a.eval x=.pointer (some ⟨b,c,none⟩)) {src} {tb} {fr} (e:w.heap[b]?=some (.cells src tb fr)) (g:c+n<=src.size):
  Sem.run P (execOp a.eval o) w=.ok (.value (.agg (qB0 src c n))) w:=by
 have j:=zB6 (P:=P) e g;obtain⟨i,f,h⟩:=Option.map_eq_some_iff.1 m;have l:Sem.run P (Instr.loadAt t (.pointer (some ⟨b,c,none⟩))) w=.ok (.agg (qB0 src c n)) w:=by
  cases hd:P.underlying t with
  | none=>simp[hd] at qI6
  | some d=>cases d<;>simp[hd] at qI6<;>simp[Instr.loadAt,Instr.sureAddr,loadVar,isAgg,run_underlying hd,Go.sizeOf,typeInfo,f,h,j]
 unfold execOp;simp only[k,Sem.run_bind,Sem.run_pure,Result.andThen_ok,p,l]
theorem qP5{o:Oper}{x:Operand}{t e}(j:o.op=.buildSlice t 1 #[(0,x)])(v z)(c d:Nat)(m:P.underlying t=some (.slice e))(g:(P.info? e).map (λi=>(i.zero,i.size,i.bytes))=some (some z,c,d))
  (p:a.eval x=v) (n:v.cells.size=c) (r:0<c) (u:c<=16777216):
  Sem.run P (execOp a.eval o) w=.ok (.value (.slice (some ⟨w.heap.size,0,none⟩) 1 1)) (w.alloc (.cells v.cells e)):=by
 obtain⟨i,h,b⟩:=Option.map_eq_some_iff.1 g;simp only[Prod.mk.injEq] at b;obtain⟨b,l,q⟩:=b;have f:=Great.fill_whole (s:=i.size) oM [v] ((Array.range (1*i.size)).map (z.cells[·% z.cells.size]!)) (by simp[n,l]) sM;have k:=run_buildSlice (P:=P) w t e 1 #[(0,v)] v.cells i z m h b oM oM (by simpa using f);unfold execOp;simp only[j,Sem.run_bind,Sem.run_pure,Result.andThen_ok,List.map_toArray,List.map_cons,List.map_nil,p,k]
theorem jH4{o:Oper}{s x:Operand}{t e}(H:o.op=.call { callee:=.builtin .append,args:=#[s,x],argTypes:=#[t,t] })(z)(d p:Nat)(N:P.underlying t=some (.slice e))(D:(P.info? e).map (λi=>(i.zero,i.size,i.bytes))=some (some z,d,p))
  (R:z.cells.size=d) (L:0<d) (base:Nat) (v) (n:Nat) (xs:List Value) (K:a.eval s=v) (I:w.ownsRow base e d v n xs)
  (b f m c:Nat) (g) (tb) (fr) (O:a.eval x=.slice (some ⟨b,f,none⟩) m c) (y:w.heap[b]?=some (.cells g tb fr)) (F:f+m*d<=g.size)
  (r:∀ u∈(qB0 g f (m*d)).toList,u.oneCell'=true) (V:n+m<=1000000000) (C:(n+m)*p<=140737488355328) (A:base<=w.heap.size):
  ∃ h k,Sem.run P (execOp a.eval o) w=.ok (.value h) k/\k.ownsRow base e d h (n+m) (xs++(qB0 g f (m*d)).toList)/\w.grownBy k v.ownBlock/\(h=.slice none 0 0↔v=.slice none 0 0/\m=0):=by
 obtain⟨i,E,l⟩:=Option.map_eq_some_iff.1 D;simp only[Prod.mk.injEq] at l;obtain⟨l,M,B⟩:=l;have q:=qU7 (cs:=g) F;obtain⟨h,k,J,S,T,U⟩:=run_append_own (P:=P) w base t o.type e i z d p N E l M B R L v n xs I ⟨b,f,none⟩ m c (qB0 g f (m*d)).toList (by simpa using q) (λj u hj=>by
  rw[qH0,ξ y];have G:j<m*d:=by
   have:=(gS hj).1;simp[q] at this;exact this
  rw[<-qW8 G];simpa using hj) r (by unfold maxLen;omega) C A
 refine⟨h,k,?_,S,T,U⟩;unfold execOp;simp only[H,resolve,invoke,builtin,Sem.run_bind,Sem.run_pure,Result.andThen_ok,List.map_toArray,List.map_cons,List.map_nil,K,O,J]
theorem qP6{o:Oper}{x:Operand}{t}(f:o.op=.load t x)(qI6:(match P.underlying t with | some (.struct _)=>true | some (.array _ _)=>true | _=>false)=true)(n:Nat)(g:(P.info? t).map (·.size)=some n)
  (b:Nat) (i:a.eval x=.pointer (some ⟨b,0,none⟩)) {src} {tb} {fr} (c:w.heap[b]?=some (.cells src tb fr)) (d:src.size=n):
  Sem.run P (execOp a.eval o) w=.ok (.value (.agg src)) w:=by
 have h:=xC7 (P:=P) f qI6 n g b 0 i c oM;have e:qB0 src 0 n=src:=by rw[<-d];simp[qB0,tL]
 rw[e] at h;exact h
theorem zB8{o:Oper}{K:Act->World->Prop}{E:Prop}(A:o.guard=none){s x:Operand}{t e}(D:o.op=.call { callee:=.builtin .append,args:=#[s,x],argTypes:=#[t,t] })(z)(d k:Nat)(J:P.underlying t=some (.slice e))(B:(P.info? e).map (λi=>(i.zero,i.size,i.bytes))=some (some z,d,k))
  (M:z.cells.size=d) (I:0<d) (base:Nat) (v) (n:Nat) (xs:List Value) (H:a.eval s=v) (F:w.ownsRow base e d v n xs)
  (b f m c:Nat) (g) (tb) (fr) (L:a.eval x=.slice (some ⟨b,f,none⟩) m c) (q:w.heap[b]?=some (.cells g tb fr)) (C:f+m*d<=g.size)
  (l:∀ u∈(qB0 g f (m*d)).toList,u.oneCell'=true) (p:n+m<=1000000000) (y:(n+m)*k<=140737488355328) (r:base<=w.heap.size)
  (hK:∀ h j,j.ownsRow base e d h (n+m) (xs++(qB0 g f (m*d)).toList)->w.grownBy j v.ownBlock->(h=.slice none 0 0↔v=.slice none 0 0/\m=0)->K (a.put o.dst h) j):
  if Region.wanted o (yielded ops a.tmps)=true then Oper.wp P o a w K Q else E:=by
 obtain⟨h,j,G,N,O,R⟩:=jH4 (P:=P) D z d k J B M I base v n xs H F b f m c g tb fr L q C l p y r;exact qF2 A G (hK h j N O R)
theorem qO4{o:Oper}{x:Operand}{t}(f:o.op=.load t x)(qI6:(match P.underlying t with | some (.struct _)=>true | some (.array _ _)=>true | _=>false)=true)(n:Nat)(h:(P.info? t).map (·.size)=some n)
  (b c:Nat) (i:a.eval x=.pointer (some ⟨b,c,none⟩)) {src r} {tb} {fr} (d:w.heap[b]?=some (.cells src tb fr)) (e:c+n<=src.size) (g:qB0 src c n=r):
  Sem.run P (execOp a.eval o) w=.ok (.value (.agg r)) w:=g ▸ xC7 f qI6 n h b c i d e
theorem jH6{o:Oper}{x y:Operand}{t}(j:o.op=.store t x y)(vs)(m:(P.info? t).map (·.size)=some vs.size)
  (b c:Nat) (n:a.eval x=.pointer (some ⟨b,c,none⟩)) (p:a.eval y=.agg vs) {cur} {tb} (e:w.heap[b]?=some (.cells cur tb)) (g:c+vs.size<=cur.size)
  (d:∀ v∈vs.toList,v.oneCell'=true):Sem.run P (execOp a.eval o) w=.ok .skip (w.setRow b (qI2 cur c vs)):=by
 obtain⟨i,f,h⟩:=Option.map_eq_some_iff.1 m;have k:=qQ3 (P:=P) (w:=w) (o:=c) (vs:=vs.toList) e (by simpa using g) d;have l:Sem.run P (Instr.storeAt t (.pointer (some ⟨b,c,none⟩)) (.agg vs)) w=.ok () (w.setRow b (qI2 cur c vs)):=by
  simp[Instr.storeAt,Instr.sureAddr,storeVar,Go.sizeOf,typeInfo,f,h,Value.cells,k]
 unfold execOp;simp only[j,Sem.run_bind,Sem.run_pure,Result.andThen_ok,n,p,l]
theorem xN8(cs):qB0 cs 0 cs.size=cs:=by simp[qB0,tL]
theorem qV2{x:Operand}{t}(qI6:(match P.underlying t with | some (.struct _)=>true | some (.array _ _)=>true | _=>false)=true)(n:Nat)(u:(P.info? t).map (·.size)=some n)
  (b o:Nat) (y:a.eval x=.pointer (some ⟨b,o,none⟩)) (src) (tb) (fr) (f:w.heap[b]?=some (.cells src tb fr)) (k:o+n<=src.size)
  (h:wpList P ops Q rest (a.put dst (.agg (qB0 src o n))) w):
  wpList P ops Q (⟨dst,.load t x,ty,pos,aft,none⟩::rest) a w:=by
 refine wpList_plain rfl λK hK=>?_;have m:=hK _ _ h;have e:=qU7 (cs:=src) k;have p:=run_loadCells_list (P:=P) w ⟨b,o,none⟩ (qB0 src o n).toList (λj v c=>by
  rw[qH0,ξ f];have r:j<n:=by
   have:=(gS c).1;simp[e] at this;exact this
  rw[<-qW8 r];simpa using c)
 obtain⟨i,g,l⟩:=Option.map_eq_some_iff.1 u;have q:Sem.run P (loadCells ⟨b,o,none⟩ n) w=.ok (qB0 src o n) w:=by simpa [e] using p
 have s:Sem.run P (Instr.loadAt t (.pointer (some ⟨b,o,none⟩))) w=.ok (.agg (qB0 src o n)) w:=by
  cases hd:P.underlying t with
  | none=>simp[hd] at qI6
  | some d=>cases d<;>simp[hd] at qI6<;>simp[Instr.loadAt,Instr.sureAddr,loadVar,isAgg,run_underlying hd,Go.sizeOf,typeInfo,g,l,q]
 unfold Oper.wp execOp;simp only[Sem.run_bind,Sem.run_pure,Result.andThen_ok,y,s];exact m
theorem kR1{t e}{l c:Operand}(z)(j d:Nat)(v:P.underlying t=some (.slice e))(p:(P.info? e).map (λi=>(i.zero,i.size,i.bytes))=some (some z,j,d))
  (kl g:IntKind) (n:Nat) (s:a.eval l=.int kl n) (o:a.eval c=.int g n) (x:d*n<=281474976710656) (y:n<=1000000000)
  (h:wpList P ops Q rest (a.put dst (.slice (some ⟨w.heap.size,0,none⟩) n n)) (w.alloc (.cells (madeCells z.cells (n*j)) e))):
  wpList P ops Q (⟨dst,.makeSlice t l c,ty,pos,aft,none⟩::rest) a w:=by
 refine wpList_plain rfl λK hK=>?_;have r:=hK _ _ h;obtain⟨i,q,b⟩:=Option.map_eq_some_iff.1 p;simp only[Prod.mk.injEq] at b;obtain⟨b,u,m⟩:=b;have k:(i.bytes:Int)*(n:Int)<=281474976710656:=by
  rw[m];have h:((d*n:Nat):Int)<=281474976710656:=oM
  rwa [Int.natCast_mul] at h
 have f:=run_make (P:=P) w t e i z v q b kl g n n oM (iR _) k oM;simp only[Int.toNat_natCast,u] at f;unfold Oper.wp execOp;simp only[Sem.run_bind,Sem.run_pure,Result.andThen_ok,s,o,f];exact r
theorem xK3{z}{n:Nat}{z0}(e:∀ v∈z.toList,v=z0)(f:n=0\/0<z.size):∀ v∈(madeCells z n).toList,v=z0:=by
 intro v b;simp only[madeCells,Array.toList_map,List.mem_map,Array.toList_range,List.mem_range] at b;obtain⟨x,g,rfl⟩:=b;have d:0<z.size:=oM
 have c:x % z.size<z.size:=Nat.mod_lt _ d;rw[getElem!_pos z _ c];exact e _ sM
theorem xP5{t e}(z z0)(g c:Nat)(p:P.underlying t=some (.slice e))(l:(P.info? e).map (λi=>(i.zero,i.size,i.bytes))=some (some z,g,c))
  (q:∀ v∈z.cells.toList,v=z0) (r:0<z.cells.size) (kl f:IntKind) (n:Nat) (s:c*n<=281474976710656) (u:n<=1000000000) (w):
  ∃ Z:Array Value,Z.size=n*g/\(∀ v∈Z.toList,v=z0)/\Sem.run P (Instr.makeSlice t (.int kl n) (.int f n)) w=.ok (.slice (some ⟨w.heap.size,0,none⟩) n n) (w.alloc (.cells Z e)):=by
 obtain⟨i,m,b⟩:=Option.map_eq_some_iff.1 l;simp only[Prod.mk.injEq] at b;obtain⟨b,o,k⟩:=b;have j:(i.bytes:Int)*(n:Int)<=281474976710656:=by
  rw[k];have h:((c*n:Nat):Int)<=281474976710656:=oM
  rwa [Int.natCast_mul] at h
 have d:=run_make (P:=P) w t e i z p m b kl f n n oM (iR _) j oM;simp only[Int.toNat_natCast,o] at d;exact⟨_,by simp[madeCells],xK3 q (Or.inr r),d⟩
theorem xT7{t e}{l c:Operand}(z z0)(d b:Nat)(p:P.underlying t=some (.slice e))(k:(P.info? e).map (λi=>(i.zero,i.size,i.bytes))=some (some z,d,b))
  (q:∀ v∈z.cells.toList,v=z0) (r:0<z.cells.size)
  (kl f:IntKind) (n:Nat) (m:a.eval l=.int kl n) (j:a.eval c=.int f n) (g:b*n<=281474976710656) (o:n<=1000000000)
  (h:∀ Z:Array Value,Z.size=n*d->(∀ v∈Z.toList,v=z0)->wpList P ops Q rest (a.put dst (.slice (some ⟨w.heap.size,0,none⟩) n n)) (w.alloc (.cells Z e))):
  wpList P ops Q (⟨dst,.makeSlice t l c,ty,pos,aft,none⟩::rest) a w:=
 kR1 z d b p k kl f n m j g o (h _ (by simp[madeCells]) (xK3 q (Or.inr r)))
end
def qL6:List Int→Int
 | []=>0
 | x::xs=>x+256*qL6 xs
theorem zR0:∀ xs:List Int,(∀ x∈xs,0<=x/\x<256)->0<=qL6 xs/\qL6 xs<(256:Int) ^ xs.length
 | [],_=>by simp[qL6]
 | x::xs,h=>by
  have c:=h x sM;have b:=zR0 xs (λy a=>h y (by simp[a]));simp only[qL6,lC,Int.pow_succ];omega
theorem jY2(n x:Int)(g:0<=n)(h:n<72057594037927936)(c:0<=x)(i:x<256):bits BinOp.or .u64 (IntKind.u64.wrap (n*256)) (IntKind.u64.wrap x)=x+256*n:=by
 have d:IntKind.u64.wrap (n*256)=n*256:=by simp only[IntKind.wrap_u64];omega
 have e:IntKind.u64.wrap x=x:=by simp only[IntKind.wrap_u64];omega
 rw[d,e,u64_or _ _ oM oM c oM];obtain⟨a,rfl⟩:=Int.eq_ofNat_of_zero_le g;obtain⟨b,rfl⟩:=Int.eq_ofNat_of_zero_le c;have f:((a:Int)*256).toNat=a <<< 8:=by rw[Nat.shiftLeft_eq];omega
 rw[f,Int.toNat_natCast,<-Nat.shiftLeft_add_eq_or_of_lt oM,Nat.shiftLeft_eq];omega
theorem zH9:∀ xs:List Int,(∀ x∈xs,0<=x/\x<256)->xs.length<=8->qG6 xs=qL6 xs
 | [],_,_=>rfl
 | x::xs,h,hl=>by
  have b:=h x sM;have a:∀ y∈xs,0<=y/\y<256:=λy hy=>h y (by simp[hy]);have d:=zR0 xs a;have g:(256:Int) ^ xs.length<=256 ^ 7:=by
   have c:xs.length<=7:=by simp at hl;omega
   have e:∀ k:Nat,(256:Int) ^ k=((256 ^ k:Nat):Int):=λk=>by rw[Int.natCast_pow];rfl
   rw[e,e];exact Int.ofNat_le.2 (Nat.pow_le_pow_right dC c)
  have i:(256:Int) ^ 7=72057594037927936:=dC
  have f:=zH9 xs a (by simp at hl;omega);show bits BinOp.or .u64 (IntKind.u64.wrap (qG6 xs*256)) (IntKind.u64.wrap x)=_;rw[f,jY2 _ _ d.1 oM b.1 b.2];rfl
theorem qK9:∀ (k:Nat) (n:Int),∀ x∈qB5 k n,0<=x/\x<256
 | 0,_,_,h=>by simp[qB5] at h
 | k+1,n,x,h=>by
  simp only[qB5,mC] at h;rcases h with rfl|h
  .omega
  .exact qK9 k _ x h
theorem xM1:∀ (k:Nat) (n:Int),0<=n->n<(256:Int) ^ k->qL6 (qB5 k n)=n
 | 0,n,h0,h1=>by simp[qB5,qL6] at *;omega
 | k+1,n,h0,h1=>by
  rw[Int.pow_succ] at h1;have a:n / 256<(256:Int) ^ k:=by
   generalize (256:Int) ^ k=q at *;omega
  rw[qB5,qL6,xM1 k _ oM a];omega
theorem qP1(k:Nat)(n:Int)(c:k<=8)(a:0<=n)(b:n<(256:Int) ^ k):qG6 (qB5 k n)=n:=by
 rw[zH9 _ (qK9 k n) (by rw[qH9];exact c),xM1 k n a b]
end Go.Proofs.YtdohpenfkdckiaaGreatDoor
