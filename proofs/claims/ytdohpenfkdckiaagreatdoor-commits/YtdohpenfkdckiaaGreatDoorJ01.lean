import Derived.Deep.RegionHeld
import Derived.Below
import Derived.WalkKit
import Derived.WalkSpells
import Derived.Deep.QuietTactic
import Derived.BigQuiet
import Derived.Test.YtdohpenfkdckiaaGreatDoorProg
import Derived.Laws.CopyRow
import Derived.Deep.OwnRows
import Derived.Great.BuildSlice
import Derived.Great.FillDense
import Derived.Laws.BitsAllLaws
import Derived.Laws.Strings
import Derived.Laws.Cover1
import Derived.Lib.Strings
import Derived.Lib.BufferWrite
import Derived.Lib.UnsafeStr
import Derived.Laws.MakeOwn
set_option linter.all false
set_option maxRecDepth 100000
set_option maxHeartbeats 20000000
namespace Go.Proofs.YtdohpenfkdckiaaGreatDoor
open Go.Proofs.Tryz
open Go.RowKit
theorem zA {α : Type} (l : List α) (i : Nat) (a : α) : l.toArray.setIfInBounds i a = (l.set i a).toArray := List.setIfInBounds_toArray l i a
theorem zB {α : Type} {x : α} {xs : List α} {a : α} : (x :: xs).set 0 a = a :: xs := List.set_cons_zero
theorem zC {α : Type} {x : α} {xs : List α} {n : Nat} {a : α} : (x :: xs).set (n + 1) a = x :: xs.set n a := List.set_cons_succ
theorem zD {α : Type} {xs : List α} {i : Nat} (h : i < xs.toArray.size) : xs.toArray[i] = xs[i]'(by simpa using h) := List.getElem_toArray h
theorem zE {α : Type} {a : α} {l : List α} {i : Nat} {h : i + 1 < (a :: l).length} : (a :: l)[i + 1] = l[i]'(Nat.lt_of_succ_lt_succ h) := List.getElem_cons_succ _ _ _ _
theorem zF {α : Type} {a : α} {l : List α} {h : 0 < (a :: l).length} : (a :: l)[0] = a := List.getElem_cons_zero _ _ _
theorem zG {α : Type} {xs : List α} {i : Nat} : xs.toArray[i]? = xs[i]? := List.getElem?_toArray
theorem zH {α : Type} {a : α} {l : List α} : (a :: l)[0]? = some a := List.getElem?_cons_zero
theorem zI {α : Type} {a : α} {l : List α} {i : Nat} : (a :: l)[i + 1]? = l[i]? := List.getElem?_cons_succ
theorem zM : ∀ (fn : Fn) (first cap : Array Value) (w : World), (Instr.makeFunc fn first cap).run Tryz.prog w = .ok (.func fn first cap) w := fun _ _ _ _ => rfl
section
variable {P:Program} {md:Region.Mode} {ops:Array Oper} {Q:Exit→Act→World→Prop} {S:World→Prop} {oi oj:Oper} {fuel:Nat} {l:Array Bool} {a a':Act} {w:World}
theorem zZ:(∀ (a:Act) (d:Nat) (v:Value),a.put (some d) v={a with tmps:=a.tmps.setIfInBounds d v})∧(∀ (a:Act) (v:Value),a.put none v=a)∧(∀ {α:Type} (l:List α) (i:Nat) (a:α),l.toArray.setIfInBounds i a=(l.set i a).toArray)∧(∀ {α:Type} {x:α} {s:List α} {a:α},(x::s).set 0 a=a::s)∧(∀ {α:Type} {x:α} {s:List α} {n:Nat} {a:α},(x::s).set (n+1) a=x::s.set n a)∧(∀ {α:Type} {s:List α} {i:Nat} (h:i<s.toArray.size),s.toArray[i]=s[i]'(by simpa using h))∧(∀ {α:Type} {a:α} {l:List α} {i:Nat} {h:i+1<(a::l).length},(a::l)[i+1]=l[i]'(Nat.lt_of_succ_lt_succ h))∧(∀ {α:Type} {a:α} {l:List α} {h:0<(a::l).length},(a::l)[0]=a):=⟨fun _ _ _=>rfl,fun _ _=>rfl,zA,zB,zC,zD,zE,zF⟩
theorem zV (i:Nat) (v:Value) (hi:ops[i]?=some oi) (hy:∀ W,S W→(execOp a.eval oi).run P W=.ok (.value v) W) (hS:S w) (h:wpAnyH P md ops Q S fuel (l.setIfInBounds i true) a' w) (hb:(Region.noSelect ops && (Region.free md ops l i && (Region.ready md ops l).contains i))=true:=by kernel_rfl) (hQ:∀ c a w,Q (.panic c) (a.put oi.dst v) w→Q (.panic c) a w:=by exact fun _ _ _ h=>h) (hw:Region.wanted oi (yielded ops a.tmps)=true:=by rfl) (ha:a.put oi.dst v=a':=by simp only [zZ];try exact rfl):wpAnyH P md ops Q S (fuel+1) l a w:=by
 subst ha;simp only [Bool.and_eq_true] at hb;exact wpAnyH_take hi hb.1 hb.2.1 hb.2.2 hQ (.inl ⟨hw,hy⟩) hS h
theorem zU (i:Nat) (v:Value) (hS:S w) (h:wpAnyH P md ops Q S fuel (l.setIfInBounds i true) a' w) (hi:ops[i]?=some oi:=by rfl) (hb:(Region.noSelect ops && (Region.free md ops l i && (Region.ready md ops l).contains i))=true:=by kernel_rfl) (hQ:∀ c a w,Q (.panic c) (a.put oi.dst v) w→Q (.panic c) a w:=by exact fun _ _ _ h=>h) (hw:Region.wanted oi (yielded ops a.tmps)=true:=by rfl) (hy:∀ W,(execOp a.eval oi).run P W=.ok (.value v) W:=by intro W;go_simp) (ha:a.put oi.dst v=a':=by simp only [zZ];try exact rfl):wpAnyH P md ops Q S (fuel+1) l a w:=zV i v hi (fun W _=>hy W) hS h hb hQ hw ha
theorem zu (i:Nat) (v:Value) (h:wpAny P md ops Q fuel (l.setIfInBounds i true) a' w) (hi:ops[i]?=some oi:=by rfl) (hb:(Region.noSelect ops && (Region.free md ops l i && (Region.ready md ops l).contains i))=true:=by kernel_rfl) (hQ:∀ c a w,Q (.panic c) (a.put oi.dst v) w→Q (.panic c) a w:=by exact fun _ _ _ h=>h) (hw:Region.wanted oi (yielded ops a.tmps)=true:=by rfl) (hy:∀ W,(execOp a.eval oi).run P W=.ok (.value v) W:=by intro W;go_simp) (ha:a.put oi.dst v=a':=by simp only [zZ];try exact rfl):wpAny P md ops Q (fuel+1) l a w:=by
 subst ha;simp only [Bool.and_eq_true] at hb;exact wpAny_take hi hb.1 hb.2.1 hb.2.2 hQ (.inl ⟨hw,hy⟩) h
theorem zP (i q k:Nat) (hS:S w) (h:wpAnyH P md ops Q S fuel (l.setIfInBounds i true) a' w) (hi:ops[i]?=some oi:=by rfl) (hb:(Region.noSelect ops && (Region.free md ops l i && (Region.ready md ops l).contains i))=true:=by kernel_rfl) (hQ:∀ c a w,Q (.panic c) (a.put oi.dst (.pointer (some ⟨q,k,none⟩))) w→Q (.panic c) a w:=by exact fun _ _ _ h=>h) (hw:Region.wanted oi (yielded ops a.tmps)=true:=by rfl) (hy:∀ W,(execOp a.eval oi).run P W=.ok (.value (.pointer (some ⟨q,k,none⟩))) W:=by intro W;go_simp) (ha:a.put oi.dst (.pointer (some ⟨q,k,none⟩))=a':=by simp only [zZ];try exact rfl):wpAnyH P md ops Q S (fuel+1) l a w:=zV i _ hi (fun W _=>hy W) hS h hb hQ hw ha
theorem zq (i:Nat) (h:∀ K':Act→World→Prop,Shut (∀ a w,S w→(S w→wpAnyH P md ops Q S fuel (l.setIfInBounds i true) a w)→K' a w)→if Region.wanted oi (yielded ops a.tmps)=true then Oper.wp P oi a w K' Q else K' (a.put oi.dst undef) w) (ho:ops[i]?=some oi:=by rfl) (hr:Region.ready md ops l=[i]:=by kernel_rfl):wpAnyH P md ops Q S (fuel+1) l a w:=wpAnyH_ready hr (by simp) (AllReadyH.cons ho h AllReadyH.nil)
theorem zr (i j:Nat) (h:∀ K':Act→World→Prop,Shut (∀ a w,S w→(S w→wpAnyH P md ops Q S fuel (l.setIfInBounds i true) a w)→K' a w)→if Region.wanted oi (yielded ops a.tmps)=true then Oper.wp P oi a w K' Q else K' (a.put oi.dst undef) w) (h2:∀ K':Act→World→Prop,Shut (∀ a w,S w→(S w→wpAnyH P md ops Q S fuel (l.setIfInBounds j true) a w)→K' a w)→if Region.wanted oj (yielded ops a.tmps)=true then Oper.wp P oj a w K' Q else K' (a.put oj.dst undef) w) (ho:ops[i]?=some oi:=by rfl) (ho2:ops[j]?=some oj:=by rfl) (hr:Region.ready md ops l=[i,j]:=by kernel_rfl):wpAnyH P md ops Q S (fuel+1) l a w:=wpAnyH_ready hr (by simp) (AllReadyH.cons ho h (AllReadyH.cons ho2 h2 AllReadyH.nil))
theorem zQ (i:Nat) (h:∀ K':Act→World→Prop,(∀ a w,wpAny P md ops Q fuel (l.setIfInBounds i true) a w→K' a w)→if Region.wanted oi (yielded ops a.tmps)=true then Oper.wp P oi a w K' Q else K' (a.put oi.dst undef) w) (ho:ops[i]?=some oi:=by rfl) (hr:Region.ready md ops l=[i]:=by kernel_rfl):wpAny P md ops Q (fuel+1) l a w:=wpAny_ready hr (by simp) (AllReady.cons ho h AllReady.nil)
theorem zd (h:Q .normal a w) (hr:Region.ready md ops l=[]:=by kernel_rfl):wpAnyH P md ops Q S fuel l a w:=wpAnyH_done hr h _
theorem zh {p:Prop} (h:p):RowKit.Hid p:=h
end
abbrev ϖ(x:Nat):Value:=.pointer (some ⟨x,0,none⟩)
abbrev Ω:=Calls prog
abbrev Ϙ(w:World)(k:Nat)(o:Obj):Prop:=w.heap[k]?=some o
abbrev ϊ:=Value.int .i64
abbrev ϱ:=Ending.returned
abbrev ϛ:Array Value:=#[.pointer none,.string ⟨#[]⟩,.int .i64 0,.int .u64 0,.pointer none]
abbrev ϝ:Array Value:=#[.string ⟨#[]⟩,.string ⟨#[]⟩]
abbrev ϙ:Array Value:=#[.string ⟨#[]⟩,.int .i64 0,.int .u64 0,.pointer none]
abbrev mC:=@List.mem_cons
abbrev lN:=@List.not_mem_nil
abbrev tL:=@List.take_of_length_le
abbrev gM:=@List.getElem_mem
abbrev gQ:=@List.getElem?_eq_getElem
abbrev lA:=@List.length_append
abbrev tA:=@List.take_succ_eq_append_getElem
abbrev zL:=@Nat.zero_le
abbrev aA:=@List.append_assoc
abbrev wN:=@World.ownsRow_nil
abbrev vJ:=@Value.slice.injEq
abbrev tD:=@List.take_append_drop
abbrev lC:=@List.length_cons
abbrev nA:=@List.nil_append
abbrev oB:=@Value.ownBlock
abbrev cA:=@List.cons_append
abbrev gO:=@List.getElem_of_mem
abbrev lT:=@Nat.le_trans
abbrev fC:=@List.flatMap_cons
abbrev dG:=@List.drop_eq_getElem_cons
abbrev iR:=@Int.le_refl
abbrev oC:=@Value.oneCell'
abbrev mM:=@List.mem_cons_of_mem
abbrev fA:=@List.flatMap_append
abbrev lK:=@List.length_take
abbrev aT:=@List.append_toArray
abbrev wK:=@IntKind.wrap_i64
abbrev aN:=@List.append_nil
abbrev gR:=@List.getElem_append_right
abbrev gL:=@List.getElem_append_left
abbrev dZ:=@List.drop_zero
abbrev lD:=@List.length_drop
abbrev mO:=@List.mem_of_getElem?
abbrev mD:=@List.mem_of_mem_drop
abbrev fL:=@List.findIdx_le_length
abbrev mT:=@List.mem_of_mem_take
abbrev dL:=@List.drop_of_length_le
abbrev gN:=@List.getElem?_eq_none
theorem mS{α:Type}{a b:α}(h:a∈[b]):a=b:=List.mem_singleton.1 h
theorem gS{α:Type}{l:List α}{i:Nat}{a:α}(h:l[i]?=some a):∃ h:i<l.length,l[i]=a:=List.getElem?_eq_some_iff.1 h
theorem mA{α:Type}{a:α}{s t:List α}(h:a∈s++t):a∈s∨a∈t:=List.mem_append.1 h
theorem pG{α:Type}{R:α→α→Prop}{l:List α}(h:l.Pairwise R):∀ (i j:Nat)(hi:i<l.length)(hj:j<l.length),i<j→R l[i] l[j]:=List.pairwise_iff_getElem.1 h
theorem mF{α β:Type}{f:α→List β}{b:β}{l:List α}(h:b∈l.flatMap f):∃ a,a∈l∧b∈f a:=List.mem_flatMap.1 h
theorem pC{α:Type}{R:α→α→Prop}{a:α}{l:List α}(h:(a::l).Pairwise R):(∀ b∈l,R a b)∧l.Pairwise R:=List.pairwise_cons.1 h
theorem pA{α:Type}{R:α→α→Prop}{s t:List α}(h:(s++t).Pairwise R):s.Pairwise R∧t.Pairwise R∧∀ a∈s,∀ b∈t,R a b:=List.pairwise_append.1 h
structure Kp(S:List Nat)(w w':World):Prop where
 os:w'.os=w.os
 tape:w'.tape=w.tape
 output:w'.output=w.output
 size:w.heap.size≤w'.heap.size
 block:∀ k,k<w.heap.size→k ∉ S→w'.heap[k]?=w.heap[k]?
theorem ζ{w:World}{k:Nat}{o:Obj}(h:w.heap[k]?=some o):k<w.heap.size:=(Array.getElem?_eq_some_iff.1 h).1
theorem Kp.refl(S)(w):Kp S w w:=⟨rfl,rfl,rfl,Nat.le_refl _,λ_ _ _=>rfl⟩
theorem Kp.trans{S S'}{a b c}(h:Kp S a b)(k:Kp S' b c)(f:∀ i,i∈S'->i<a.heap.size->i∈S):Kp S a c:=
 ⟨k.os.trans h.os,k.tape.trans h.tape,k.output.trans h.output,lT h.size k.size,λi d e=>
  (k.block i (Nat.lt_of_lt_of_le d h.size) (λg=>e (f i g d))).trans (h.block i d e)⟩
theorem Kp.mono{S S'}{a b}(h:Kp S a b)(d:∀ i,i∈S->i<a.heap.size->i∈S'):Kp S' a b:=
 ⟨h.os,h.tape,h.output,h.size,λi c e=>h.block i c (λhm=>e (d i hm c))⟩
theorem Kp.drew{S}{a b}(h:Kp S a b):Kp S a b.drew:=⟨h.os,h.tape,h.output,h.size,h.block⟩
theorem Kp.drewN{S}{a b}(h:Kp S a b)(n:Nat):Kp S a (b.drewN n):=⟨h.os,h.tape,h.output,h.size,h.block⟩
theorem Kp.alloc{S}{a b}(h:Kp S a b)(o):Kp S a (b.alloc o):=
 ⟨h.os,h.tape,h.output,by have:=h.size;simp;omega,λk c d=>(Below.heap_alloc _ _ _ (Nat.lt_of_lt_of_le c h.size)).trans (h.block k c d)⟩
theorem Kp.setCell{S}{a b}(h:Kp S a b){p}(c:p.block∈S\/a.heap.size<=p.block)(u):Kp S a (b.setCell p u):=
 ⟨h.os,h.tape,h.output,by have:=h.size;simp[World.setCell];omega,λk f d=>(Below.heap_setCell _ _ _ _ (by
  rcases c with c|c
  .intro e;subst e;exact d c
  .omega)).trans (h.block k f d)⟩
theorem Kp.grown{S}{a b c}{i:Option Nat}(h:Kp S a b)(d:b.grownBy c i)(j:∀ k,i=some k->k∈S\/a.heap.size<=k):Kp S a c:=
 ⟨d.os.trans h.os,d.tape.trans h.tape,d.output.trans h.output,lT h.size d.size,λk f g=>
  (d.block k (Nat.lt_of_lt_of_le f h.size) (λe=>by rcases j k e.symm with h1 | h1;exact g h1;omega)).trans (h.block k f g)⟩
theorem Kp.of_below{B:Nat}{w w'}(h:Below B w w')(a:w.heap.size<=B):Kp [] w w':=
 ⟨h.os,h.tape,h.output,h.size,λk b _=>h.block k (by omega)⟩
theorem Kp.below{S}{B:Nat}{w w'}(h:Kp S w w')(b:B<=w.heap.size)(a:∀ k,k∈S->B<=k):Below B w w':=
 ⟨h.os,h.tape,h.output,h.size,λk c=>h.block k (by omega) (λhm=>by have:=a k hm;omega)⟩
theorem Kp.heap{S}{w w'}(h:Kp S w w'){k:Nat}{o}(a:w.heap[k]?=some o)(b:k ∉ S):w'.heap[k]?=some o:=
 (h.block k (ζ a) b).trans a
theorem Kp.cell{S}{w w'}(h:Kp S w w'){a}(b:a.block<w.heap.size)(c:a.block ∉ S):w'.cell? a=w.cell? a:=
 World.cell?_of_block (w:=w) (h.block _ b c)
theorem ξ{w:World}{b:Nat}{c:Array Value}{t:TypeId}{a:Nat × Nat}(h:w.heap[b]?=some (.cells c t a))(o:Nat):w.cell? ⟨b,o,none⟩=c[o]?:=by
 simp[World.cell?,h]
theorem φ{w:World}{b:Nat}{c:Array Value}{t:TypeId}(h:w.heap[b]?=some (.cells c t))(o:Nat):w.frozen? ⟨b,o,none⟩=false:=by
 simp[World.frozen?,h]
theorem μ{w:World}{b:Nat}{c:Array Value}{t:TypeId}{a:Nat × Nat}(h:w.heap[b]?=some (.cells c t a))(o:Nat)(v:Value):(w.setCell ⟨b,o,none⟩ v).heap[b]?=some (.cells (c.setIfInBounds o v) t a):=by
 simp[World.setCell,Array.getElem?_modify,h]
theorem qB1{w:World}{b k:Nat}(a:k≠b)(o:Nat)(v:Value):(w.setCell ⟨b,o,none⟩ v).heap[k]?=w.heap[k]?:=Below.heap_setCell _ _ _ _ a
theorem υ(w:World)(o:Obj):(w.alloc o).heap[w.heap.size]?=some o:=by
 show (w.heap.push o)[w.heap.size]?=_;simp
theorem ν{w:World}(o:Obj){k:Nat}{x:Obj}(h:w.heap[k]?=some x):(w.alloc o).heap[k]?=some x:=(Below.heap_alloc _ _ _ (ζ h)).trans h
theorem Kp.hp {S:List Nat} {w w':World} (h:Kp S w w') {k:Nat} {o:Obj} (hk:w.heap[k]?=some o) (hn:k∉S:=by simp):w'.heap[k]?=some o:=h.heap hk hn
theorem Kp.ho {S:List Nat} {w w':World} (h:Kp S w w') {k:Nat} {o:Obj} (hk:w.heap[k]?=some o) (hn:k∉S:=by simp;omega):w'.heap[k]?=some o:=h.heap hk hn
theorem Kp.tr {S S':List Nat} {a b c:World} (h:Kp S a b) (k:Kp S' b c) (hS:∀ i,i∈S'→i<a.heap.size→i∈S:=by simp):Kp S a c:=h.trans k hS
theorem Kp.sc {S:List Nat} {a b:World} (h:Kp S a b) {p:Addr} (u:Value) (hp:p.block∈S∨a.heap.size≤p.block:=by simp):Kp S a (b.setCell p u):=h.setCell hp u
section
variable {P:Program} {md:Region.Mode} {ops:Array Oper} {Q:Exit→Act→World→Prop} {S:World→Prop} {oi oj:Oper} {fuel:Nat} {l:Array Bool} {a a':Act} {w:World}
theorem zW (i:Nat) (v:Value) (hS:S w) {b:Nat} {c:Array Value} {t:TypeId} {fr:Nat × Nat} (hc:∀ {W},S W→W.heap[b]?=some (.cells c t fr)) (h:wpAnyH P md ops Q S fuel (l.setIfInBounds i true) a' w) (hi:ops[i]?=some oi:=by rfl) (hb:(Region.noSelect ops && (Region.free md ops l i && (Region.ready md ops l).contains i))=true:=by kernel_rfl) (hQ:∀ c a w,Q (.panic c) (a.put oi.dst v) w→Q (.panic c) a w:=by exact fun _ _ _ h=>h) (hw:Region.wanted oi (yielded ops a.tmps)=true:=by rfl) (hy:∀ W,(∀ o,W.cell? ⟨b,o,none⟩=c[o]?)→(execOp a.eval oi).run P W=.ok (.value v) W:=by intro W h;go_simp) (ha:a.put oi.dst v=a':=by simp only [zZ];try exact rfl):wpAnyH P md ops Q S (fuel+1) l a w:=zV i v hi (fun W h=>hy W (ξ (hc h))) hS h hb hQ hw ha
end
theorem ϻ{w:World}{k:Nat}{c:Array Value}{t:TypeId}{fr:Nat × Nat}(h:w.heap[k]?=some (.cells c t fr))(i:Nat){v:Value}(hv:c[i]?=some v:=by rfl):w.cell? ⟨k,i,none⟩=some v:=(ξ h i).trans hv
theorem alA(w:World)(o:Obj):∃ v,v=w.alloc o∧v.heap[w.heap.size]?=some o∧Kp [] w v:=⟨_,rfl,υ _ _,(Kp.refl _ _).alloc _⟩
theorem alB(w:World)(o:Obj):∃ v,v=w.alloc o∧v.heap[w.heap.size]?=some o∧Kp [] w v∧v.heap.size=w.heap.size+1:=⟨_,rfl,υ _ _,(Kp.refl _ _).alloc _,by simp⟩
theorem alC(w:World)(a b:Obj):∃ v,v=(w.alloc a).alloc b∧v.heap[w.heap.size]?=some a∧v.heap[w.heap.size+1]?=some b∧Kp [] w v∧v.heap.size=w.heap.size+2:=⟨_,rfl,ν _ (υ _ _),by simpa using υ (w.alloc a) b,((Kp.refl _ _).alloc _).alloc _,by simp⟩
theorem alD(w:World)(a b c:Obj):∃ v,v=((w.alloc a).alloc b).alloc c∧v.heap[w.heap.size]?=some a∧v.heap[w.heap.size+1]?=some b∧v.heap[w.heap.size+1+1]?=some c∧Kp [] w v∧v.heap.size=w.heap.size+3:=⟨_,rfl,ν _ (ν _ (υ _ _)),ν _ (by simpa using υ (w.alloc a) b),by simpa using υ ((w.alloc a).alloc b) c,(((Kp.refl _ _).alloc _).alloc _).alloc _,by simp⟩
theorem alE(w:World)(a b c:Obj):∃ v,v=((w.alloc a).alloc b).alloc c∧v.heap[w.heap.size]?=some a∧v.heap[w.heap.size+1]?=some b∧v.heap[w.heap.size+2]?=some c∧Kp [] w v∧v.heap.size=w.heap.size+3:=alD w a b c
theorem alH(w:World)(a b:Obj):∃ v,v=(w.alloc a).alloc b∧v.heap[w.heap.size]?=some a∧v.heap[w.heap.size+1]?=some b∧Kp [] w v:=⟨_,rfl,ν _ (υ _ _),by simpa using υ (w.alloc a) b,((Kp.refl _ _).alloc _).alloc _⟩
theorem alG(w:World)(a b c d:Obj):∃ v,v=(((w.alloc a).alloc b).alloc c).alloc d∧v.heap[w.heap.size]?=some a∧v.heap[w.heap.size+1]?=some b∧v.heap[w.heap.size+1+1]?=some c∧v.heap[w.heap.size+1+1+1]?=some d∧Kp [] w v∧v.heap.size=w.heap.size+4:=⟨_,rfl,ν _ (ν _ (ν _ (υ _ _))),ν _ (ν _ (by simpa using υ (w.alloc a) b)),ν _ (by simpa using υ ((w.alloc a).alloc b) c),by simpa using υ (((w.alloc a).alloc b).alloc c) d,((((Kp.refl _ _).alloc _).alloc _).alloc _).alloc _,by simp⟩
theorem alF(w:World)(o:Obj):∃ v,v=(w.alloc o).drew∧v.heap[w.heap.size]?=some o∧Kp [] w v:=⟨_,rfl,υ _ _,((Kp.refl _ _).alloc _).drew⟩
section
variable {P:Program}{md:Region.Mode}{ops:Array Oper}{Q:Exit→Act→World→Prop}{S:World→Prop}{fuel:Nat}{l:Array Bool}{a a':Act}{w:World}
theorem zk {K:Act→World→Prop}(hK:Shut (∀ a w,S w→(S w→wpAnyH P md ops Q S fuel l a w)→K a w))(hS:S w)(h:wpAnyH P md ops Q S fuel l a' w)(ha:a=a':=by first | (simp only [zZ];try exact rfl) | exact rfl):K a w:=by
 subst ha;exact hK.out a w hS fun _=>h
end
theorem n2{a b:Prop}(x:a)(y:b):a∧b:=⟨x,y⟩
theorem n3{a b c:Prop}(x:a)(y:b)(z:c):a∧b∧c:=⟨x,y,z⟩
theorem n4{a b c d:Prop}(x:a)(y:b)(z:c)(u:d):a∧b∧c∧d:=⟨x,y,z,u⟩
theorem n5{a b c d e:Prop}(x:a)(y:b)(z:c)(u:d)(v:e):a∧b∧c∧d∧e:=⟨x,y,z,u,v⟩
theorem n6{a b c d e f:Prop}(x:a)(y:b)(z:c)(u:d)(v:e)(w:f):a∧b∧c∧d∧e∧f:=⟨x,y,z,u,v,w⟩
theorem gE{x:World}{k:Nat}{o:Obj}{S:List Nat}{W:World}(h:x.heap[k]?=some o∧Kp S W x):∃ v,v=x∧v.heap[k]?=some o∧Kp S W v:=⟨x,rfl,h⟩
theorem eX.{u}{α:Sort u}(x:α):∃ v,v=x:=⟨x,rfl⟩
theorem eY.{u}{α:Sort u}(x:α):∃ v,x=v:=⟨x,rfl⟩
theorem oM{p:Prop}(h:p:=by omega):p:=h
theorem dC{p:Prop}(h:p:=by decide):p:=h
theorem sM{p:Prop}(h:p:=by simp):p:=h
theorem sO{p:Prop}(h:p:=by simp;omega):p:=h
theorem kR{p:Prop}(h:p:=by kernel_rfl):p:=h
theorem kF{S:List Nat}{w:World}:Kp S w w:=Kp.refl _ _
theorem lR{n:Nat}:n≤n:=Nat.le_refl _
def qV3(s x:Int):Int:=IntKind.u64.wrap (bits BinOp.xor .u64 s (IntKind.u64.wrap x)*1099511628211)
def fnv(xs:List Int):Int:=xs.foldl qV3 14695981039346656037
theorem jO6(xs:List Int)(k:Nat)(h:k<xs.length):fnv (xs.take (k+1))=qV3 (fnv (xs.take k)) xs[k]:=by
 unfold fnv;rw[tA h,List.foldl_append];rfl
theorem qJ5{k:IntKind}{a b:Int}(h:a=b):Ending.returned (.int k a)=.returned (.int k b):=by rw[h]
theorem zI0(b d a cap:Nat)(xs:List Int)(w)(p:xs.length=a)(m:a<=1000000)
  (g:∀ j,j<a->w.cell? ⟨b,d+j,none⟩=some (.int .u8 (xs.getD j 0))):
  Calls prog 251 #[.slice (some ⟨b,d,none⟩) a cap] w λe l=>e=.returned (.int .u64 (fnv xs))/\l=w:=by
 go_enter func251,ntmps251;go_wp2
 go_loop [3,8] (λs i=>∃ (k:Nat),k<=a/\i=.int .i64 k/\s=.int .u64 (fnv (xs.take k))) (λ_ i=>a-(intOf i).toNat)
 case atStart=>exact⟨0,zL _,rfl,rfl⟩
 case round=>
  obtain⟨k,o,rfl,rfl⟩:=hrel;by_cases h:k<a
  .have n:=g k h;have c:=jO6 xs k oM;have f:=zh c;clear c;go_wp2;refine⟨⟨k+1,oM,by go_num,by rw[f.out];rfl⟩,by simp[intOf];omega⟩
  .go_wp2;go_ret;exact⟨qJ5 (by rw[tL oM]),rfl⟩
def qI1(xs:List Int):Int:=xs.foldr (fun x n=>bits BinOp.or .u64 (IntKind.u64.wrap (n*256)) (IntKind.u64.wrap x)) 0
theorem qW3(b d a cap:Nat)(xs:List Int)(w)(s:xs.length=a)(m:a<=1000000)
  (g:∀ j,j<a->w.cell? ⟨b,d+j,none⟩=some (.int .u8 (xs.getD j 0))):
  Calls prog 248 #[.slice (some ⟨b,d,none⟩) a cap] w λe l=>e=.returned (.int .u64 (qI1 xs))/\l=w:=by
 go_enter func248,ntmps248;go_wp2
 go_loop [3,4] (λn i=>∃ (k:Nat),k<=a/\i=.int .i64 ((k:Int)-1)/\n=.int .u64 (qI1 (xs.drop k))) (λ_ i=>(intOf i+1).toNat)
 case atStart=>exact⟨a,lR,by go_num,by rw[dL oM];rfl⟩
 case round=>
  obtain⟨k,p,rfl,rfl⟩:=hrel;by_cases q:0<k
  .obtain⟨j,rfl⟩:∃ j,k=j+1:=⟨k-1,oM⟩;have o:=g j oM;have f:Hid (qI1 (xs.drop j)=bits BinOp.or .u64 (IntKind.u64.wrap (qI1 (xs.drop (j+1))*256)) (IntKind.u64.wrap (xs[j]?.getD 0))):=by
    have c:j<xs.length:=oM
    show _=_;rw[dG c,gQ c];rfl
   go_wp2;refine⟨⟨j,oM,rfl,by rw[f.out]⟩,by simp[intOf]⟩
  .have h:k=0:=oM
   subst h;have r:decide ((0:Int)<=((0:Nat):Int)-1)=false:=dC
   go_wp2;go_ret;exact⟨qJ5 sM,rfl⟩
def qB4:Nat→Int→List Int
 | 0,_=>[]
 | k+1,n=>n % 256::qB4 k (n / 256)
theorem qI0(k:Nat)(n:Int):(qB4 k n).length=k:=by induction k generalizing n<;>simp_all [qB4]
def u8s(xs:List Int):List Value:=xs.map (.int .u8)
theorem zP2(k:Nat)(n:Int):qB4 (k+1) n=qB4 k n++[n / (256:Int) ^ k % 256]:=by
 induction k generalizing n with
 | zero=>simp[qB4]
 | succ k ih=>
  rw[qB4,ih (n / 256),qB4];simp only[cA];rw[Int.ediv_ediv_of_nonneg dC,Int.pow_succ,Int.mul_comm]
theorem qI6{w:World}{base:Nat}{e:TypeId}{sz:Nat}{v:Value}{n:Nat}{xs:List Value}(h:w.ownsRow base e sz v n xs):∀ k,v.ownBlock=some k->base<=k:=by
 obtain⟨_,b⟩:=h;rcases b with⟨rfl,_⟩|⟨g,cap,cur,rfl,c,_⟩
 .intro k a;cases a
 .intro k a;cases a;exact c
theorem Tryz.info5:(prog.info? 5).map (λi=>(i.zero,i.size,i.bytes))=some (some (.int .u8 0),1,1):=kR
theorem zK0(v)(base k:Nat)(xs:List Int)(n:Int)(m:Nat)(w)(I:k<=1000)(F:m<=100)(r:0<=n)
  (C:base<=w.heap.size) (t:w.ownsRow base 5 1 v k (u8s xs)):
  Calls prog 250 #[v,.int .u64 n,.int .i64 m] w λe h=>∃ b,e=.returned b/\h.ownsRow base 5 1 b (k+m) (u8s (xs++qB4 m n))/\Below base w h:=by
 obtain⟨A,p,x,y,z⟩:=info_parts Tryz.info5;go_enter func250,ntmps250;go_wp2
 go_loopw [0,1,8] (λs q i wr=>∃ (j:Nat) (b:Value) (a:Int),j<=m/\i=.int .i64 j/\q=.int .u64 a/\a=n / (256:Int) ^ j/\0<=a/\a<=n/\s=b/\wr.ownsRow base 5 1 b (k+j) (u8s (xs++qB4 j n))/\Below base w wr) (λ_ _ i _=>m-(intOf i).toNat)
 case atStart=>exact⟨0,v,n,Nat.zero_le _,rfl,rfl,sM,r,Int.le_refl _,rfl,by simpa [qB4] using t,Below.refl _ _⟩
 case round=>
  obtain⟨j,b,a,D,rfl,rfl,g,G,H,rfl,d,c⟩:=hrel;have f:=zh g;clear g;by_cases E:j<m
  .go_wp2_with (at_builtin;refine wpList_append_own _ rfl _ _ 118 rfl base 5 A (.int .u8 0) 1 1 underlying118 p x y z rfl dC _ _ _ rfl (d.alloc _) ⟨wr.heap.size,0,none⟩ 1 1 [.int .u8 (a % 256)] rfl rfl (cell_one_new _ _ _) (by simp[Value.oneCell']) (by unfold maxLen;omega) oM (by have:=c.size;simp;omega) ?_;intro B w1 u o _)
   refine⟨⟨j+1,B,a / 256,oM,by go_num,rfl,?_,oM,oM,rfl,?_,?_⟩,by simp[intOf];omega⟩
   .rw[f.out,Int.ediv_ediv_of_nonneg (by exact Int.pow_nonneg dC),Int.pow_succ]
   .have l:u8s (xs++qB4 (j+1) n)=u8s (xs++qB4 j n)++[.int .u8 (a % 256)]:=by rw[zP2,<-f.out];simp[u8s]
    rw[l];exact u
   .exact (c.alloc (by have:=c.size;omega) _).grown o (by have:=c.size;simp;omega) (qI6 d)
  .go_wp2;go_ret;have e:j=m:=oM
   subst e;exact⟨_,rfl,d,c⟩
def qA9(cs:Array Value)(o n:Nat):Array Value:=((cs.toList.drop o).take n).toArray
def qE2(cs:Array Value)(o:Nat)(p:Array Value):Array Value:=(cs.toList.take o++p.toList++cs.toList.drop (o+p.size)).toArray
theorem qU5{cs}{o n:Nat}(h:o+n<=cs.size):(qA9 cs o n).size=n:=by simp[qA9];omega
theorem jV9{cs p}{o:Nat}(h:o+p.size<=cs.size):(qE2 cs o p).size=cs.size:=by simp[qE2];omega
theorem qW5{cs}{o n j:Nat}(h:j<n):(qA9 cs o n)[j]?=cs[o+j]?:=by
 simp[qA9,List.getElem?_take,h]
theorem jV7{cs p}{o j:Nat}(h:o+p.size<=cs.size)(b:j<p.size):(qE2 cs o p)[o+j]?=p[j]?:=by
 unfold qE2;rw[zG,aA,List.getElem?_append_right sO,List.getElem?_append_left sO];simp;congr 1;omega
theorem jV8{cs p}{o j:Nat}(h:o+p.size<=cs.size)(b:j<o\/o+p.size<=j):(qE2 cs o p)[j]?=cs[j]?:=by
 unfold qE2;rw[zG,aA];rcases b with b|b
 .rw[List.getElem?_append_left sO,List.getElem?_take];simp[b]
 .rw[List.getElem?_append_right sO,List.getElem?_append_right sO,List.getElem?_drop];simp;congr 1;omega
theorem Kp.setRow{S}{a b}(h:Kp S a b){g:Nat}(c:g∈S\/a.heap.size<=g)(cs):Kp S a (b.setRow g cs):=
 ⟨h.os,h.tape,h.output,by have:=h.size;simp[World.setRow];omega,λk f d=>(setRow_other _ _ _ _ (by
  rcases c with c|c
  .intro e;subst e;exact d c
  .omega)).trans (h.block k f d)⟩
theorem qO0{w:World}{base:Nat}{e:TypeId}{sz:Nat}{v:Value}{n:Nat}{xs:List Value}(h:w.ownsRow base e sz v (n+1) xs):∃ g cap,v=.slice (some ⟨g,0,none⟩) (n+1) cap:=by
 obtain⟨_,c⟩:=h;rcases c with⟨_,b⟩|⟨g,cap,cur,rfl,_⟩
 .cases b
 .exact⟨g,cap,rfl⟩
section
variable {P:Program} {w:World} {ops:Array Oper} {rest:List Oper} {a:Act} {Q:Exit→Act→World→Prop} {dst:Option Tmp} {ty:TypeId} {pos:String} {aft:Array Edge}
theorem qG4(b o j:Nat):(⟨b,o,none⟩:Addr).add j=⟨b,o+j,none⟩:=by unfold Addr.add;split<;>simp_all
theorem zB1{t t' e}(ty)(y:P.underlying t=some (.slice e))(x:(P.info? e).map (·.size)=some 1)
  {g o dLen dCap b c sLen sCap:Nat} (n:Nat) (s:n=Nat.min sLen dLen)
  {cur d} {tg tb} {fr} (p:w.heap[g]?=some (.cells cur tg)) (m:w.heap[b]?=some (.cells d tb fr)) (z:o+n<=cur.size) (q:c+n<=d.size)
  (l:∀ v∈(qA9 d c n).toList,v.oneCell'=true):
  Sem.run P (Builtin.copy_ #[t,t'] ty #[.slice (some ⟨g,o,none⟩) dLen dCap,.slice (some ⟨b,c,none⟩) sLen sCap]) w=.ok (.int .i64 n) (w.setRow g (qE2 cur o (qA9 d c n))):=by
 have f:=qU5 (cs:=d) q;have u:=run_copy_row P w t t' ty e g o dLen dCap ⟨b,c,none⟩ sLen sCap cur tg (qA9 d c n).toList y x p (by rw[Array.length_toList,f,s]) (λj v h=>by
  rw[qG4,ξ m];have r:j<n:=by
   have:=(gS h).1;simp[f] at this;exact this
  rw[<-qW5 r];simpa using h) (by simp[f];omega) l
 have i:goInt ((qA9 d c n).toList.length:Int)=.int .i64 n:=by simp[goInt,f]
 have k:(cur.toList.take o++(qA9 d c n).toList++cur.toList.drop (o+(qA9 d c n).toList.length)).toArray=qE2 cur o (qA9 d c n):=by simp[qE2]
 rw[u,i,k]
theorem qP9{g o:Nat}{t}{vs:List Value}{cur}(d:w.heap[g]?=some (.cells cur t))(c:o+vs.length<=cur.size)(b:∀ v∈vs,v.oneCell'=true):
  Sem.run P (storeCells ⟨g,o,none⟩ vs) w=.ok () (w.setRow g (qE2 cur o vs.toArray)):=by
 have e:=run_storeCells_at P g o t vs 0 cur w d (by simpa using c) b;rw[e];simp[qE2]
theorem zB2{b o n:Nat}{src}{tb}{fr}(e:w.heap[b]?=some (.cells src tb fr))(f:o+n<=src.size):
  Sem.run P (loadCells ⟨b,o,none⟩ n) w=.ok (qA9 src o n) w:=by
 have d:=qU5 (cs:=src) f;have g:=run_loadCells_list (P:=P) w ⟨b,o,none⟩ (qA9 src o n).toList (λj v c=>by
  rw[qG4,ξ e];have h:j<n:=by
   have:=(gS c).1;simp[d] at this;exact this
  rw[<-qW5 h];simpa using c)
 simpa [d] using g
theorem qF3{o:Oper}{v}{w'}{K:Act->World->Prop}{E:Prop}(b:o.guard=none)(c:Sem.run P (execOp a.eval o) w=.ok (.value v) w')(hK:K (a.put o.dst v) w'):
  if Region.wanted o (yielded ops a.tmps)=true then Oper.wp P o a w K Q else E:=by
 have d:Region.wanted o (yielded ops a.tmps)=true:=by simp[Region.wanted,b]
 rw[if_pos d];unfold Oper.wp;rw[c];exact hK
theorem xP3{o:Oper}{w'}{K:Act->World->Prop}{E:Prop}(b:o.guard=none)(c:Sem.run P (execOp a.eval o) w=.ok .skip w')(hK:K (a.put o.dst undef) w'):
  if Region.wanted o (yielded ops a.tmps)=true then Oper.wp P o a w K Q else E:=by
 have d:Region.wanted o (yielded ops a.tmps)=true:=by simp[Region.wanted,b]
 rw[if_pos d];unfold Oper.wp;rw[c];exact hK
theorem xB0{o:Oper}{x:Operand}{t}(k:o.op=.load t x)(qI8:(match P.underlying t with | some (.struct _)=>true | some (.array _ _)=>true | _=>false)=true)(n:Nat)(m:(P.info? t).map (·.size)=some n)
  (b c:Nat) (p:a.eval x=.pointer (some ⟨b,c,none⟩)) {src} {tb} {fr} (e:w.heap[b]?=some (.cells src tb fr)) (g:c+n<=src.size):
  Sem.run P (execOp a.eval o) w=.ok (.value (.agg (qA9 src c n))) w:=by
 have j:=zB2 (P:=P) e g;obtain⟨i,f,h⟩:=Option.map_eq_some_iff.1 m;have l:Sem.run P (Instr.loadAt t (.pointer (some ⟨b,c,none⟩))) w=.ok (.agg (qA9 src c n)) w:=by
  cases hd:P.underlying t with
  | none=>simp[hd] at qI8
  | some d=>cases d<;>simp[hd] at qI8<;>simp[Instr.loadAt,Instr.sureAddr,loadVar,isAgg,run_underlying hd,Go.sizeOf,typeInfo,f,h,j]
 unfold execOp;simp only[k,Sem.run_bind,Sem.run_pure,Result.andThen_ok,p,l]
theorem qP2{o:Oper}{x:Operand}{t e}(h:o.op=.buildSlice t 1 #[(0,x)])(v z)(size c:Nat)(l:P.underlying t=some (.slice e))(f:(P.info? e).map (λi=>(i.zero,i.size,i.bytes))=some (some z,size,c))
  (n:a.eval x=v) (m:v.cells.size=size) (q:0<size) (r:size<=16777216):
  Sem.run P (execOp a.eval o) w=.ok (.value (.slice (some ⟨w.heap.size,0,none⟩) 1 1)) (w.alloc (.cells v.cells e)):=by
 obtain⟨i,g,b⟩:=Option.map_eq_some_iff.1 f;simp only[Prod.mk.injEq] at b;obtain⟨b,k,p⟩:=b;have d:=Great.fill_whole (s:=i.size) oM [v] ((Array.range (1*i.size)).map (z.cells[·% z.cells.size]!)) (by simp[m,k]) sM;have j:=run_buildSlice (P:=P) w t e 1 #[(0,v)] v.cells i z l g b oM oM (by simpa using d);unfold execOp;simp only[h,Sem.run_bind,Sem.run_pure,Result.andThen_ok,List.map_toArray,List.map_cons,List.map_nil,n,j]
theorem jL3{o:Oper}{s x:Operand}{t e}(G:o.op=.call { callee:=.builtin .append,args:=#[s,x],argTypes:=#[t,t] })(z)(size l:Nat)(M:P.underlying t=some (.slice e))(C:(P.info? e).map (λi=>(i.zero,i.size,i.bytes))=some (some z,size,l))
  (O:z.cells.size=size) (K:0<size) (base:Nat) (v) (n:Nat) (xs:List Value) (J:a.eval s=v) (H:w.ownsRow base e size v n xs)
  (b d m c:Nat) (f) (tb) (fr) (N:a.eval x=.slice (some ⟨b,d,none⟩) m c) (r:w.heap[b]?=some (.cells f tb fr)) (E:d+m*size<=f.size)
  (q:∀ u∈(qA9 f d (m*size)).toList,u.oneCell'=true) (U:n+m<=1000000000) (B:(n+m)*l<=140737488355328) (y:base<=w.heap.size):
  ∃ g h,Sem.run P (execOp a.eval o) w=.ok (.value g) h/\h.ownsRow base e size g (n+m) (xs++(qA9 f d (m*size)).toList)/\w.grownBy h v.ownBlock/\(g=.slice none 0 0↔v=.slice none 0 0/\m=0):=by
 obtain⟨i,D,k⟩:=Option.map_eq_some_iff.1 C;simp only[Prod.mk.injEq] at k;obtain⟨k,L,A⟩:=k;have p:=qU5 (cs:=f) E;obtain⟨g,h,I,R,S,T⟩:=run_append_own (P:=P) w base t o.type e i z size l M D k L A O K v n xs H ⟨b,d,none⟩ m c (qA9 f d (m*size)).toList (by simpa using p) (λj u hj=>by
  rw[qG4,ξ r];have F:j<m*size:=by
   have:=(gS hj).1;simp[p] at this;exact this
  rw[<-qW5 F];simpa using hj) q (by unfold maxLen;omega) B y
 refine⟨g,h,?_,R,S,T⟩;unfold execOp;simp only[G,resolve,invoke,builtin,Sem.run_bind,Sem.run_pure,Result.andThen_ok,List.map_toArray,List.map_cons,List.map_nil,J,N,I]
theorem qR4{o:Oper}{x:Operand}{t}(f:o.op=.load t x)(qI8:(match P.underlying t with | some (.struct _)=>true | some (.array _ _)=>true | _=>false)=true)(n:Nat)(g:(P.info? t).map (·.size)=some n)
  (b:Nat) (i:a.eval x=.pointer (some ⟨b,0,none⟩)) {src} {tb} {fr} (c:w.heap[b]?=some (.cells src tb fr)) (d:src.size=n):
  Sem.run P (execOp a.eval o) w=.ok (.value (.agg src)) w:=by
 have h:=xB0 (P:=P) f qI8 n g b 0 i c oM;have e:qA9 src 0 n=src:=by rw[<-d];simp[qA9,tL]
 rw[e] at h;exact h
theorem zB3{o:Oper}{K:Act->World->Prop}{E:Prop}(y:o.guard=none){s x:Operand}{t e}(C:o.op=.call { callee:=.builtin .append,args:=#[s,x],argTypes:=#[t,t] })(z)(size j:Nat)(I:P.underlying t=some (.slice e))(A:(P.info? e).map (λi=>(i.zero,i.size,i.bytes))=some (some z,size,j))
  (L:z.cells.size=size) (H:0<size) (base:Nat) (v) (n:Nat) (xs:List Value) (G:a.eval s=v) (D:w.ownsRow base e size v n xs)
  (b d m c:Nat) (f) (tb) (fr) (J:a.eval x=.slice (some ⟨b,d,none⟩) m c) (p:w.heap[b]?=some (.cells f tb fr)) (B:d+m*size<=f.size)
  (k:∀ u∈(qA9 f d (m*size)).toList,u.oneCell'=true) (l:n+m<=1000000000) (r:(n+m)*j<=140737488355328) (q:base<=w.heap.size)
  (hK:∀ g h,h.ownsRow base e size g (n+m) (xs++(qA9 f d (m*size)).toList)->w.grownBy h v.ownBlock->(g=.slice none 0 0↔v=.slice none 0 0/\m=0)->K (a.put o.dst g) h):
  if Region.wanted o (yielded ops a.tmps)=true then Oper.wp P o a w K Q else E:=by
 obtain⟨g,h,F,M,N,O⟩:=jL3 (P:=P) C z size j I A L H base v n xs G D b d m c f tb fr J p B k l r q;exact qF3 y F (hK g h M N O)
theorem qO3{o:Oper}{x:Operand}{t}(f:o.op=.load t x)(qI8:(match P.underlying t with | some (.struct _)=>true | some (.array _ _)=>true | _=>false)=true)(n:Nat)(h:(P.info? t).map (·.size)=some n)
  (b c:Nat) (i:a.eval x=.pointer (some ⟨b,c,none⟩)) {src r} {tb} {fr} (d:w.heap[b]?=some (.cells src tb fr)) (e:c+n<=src.size) (g:qA9 src c n=r):
  Sem.run P (execOp a.eval o) w=.ok (.value (.agg r)) w:=g ▸ xB0 f qI8 n h b c i d e
theorem jL8{o:Oper}{x y:Operand}{t}(j:o.op=.store t x y)(vs)(m:(P.info? t).map (·.size)=some vs.size)
  (b c:Nat) (n:a.eval x=.pointer (some ⟨b,c,none⟩)) (p:a.eval y=.agg vs) {cur} {tb} (e:w.heap[b]?=some (.cells cur tb)) (g:c+vs.size<=cur.size)
  (d:∀ v∈vs.toList,v.oneCell'=true):Sem.run P (execOp a.eval o) w=.ok .skip (w.setRow b (qE2 cur c vs)):=by
 obtain⟨i,f,h⟩:=Option.map_eq_some_iff.1 m;have k:=qP9 (P:=P) (w:=w) (o:=c) (vs:=vs.toList) e (by simpa using g) d;have l:Sem.run P (Instr.storeAt t (.pointer (some ⟨b,c,none⟩)) (.agg vs)) w=.ok () (w.setRow b (qE2 cur c vs)):=by
  simp[Instr.storeAt,Instr.sureAddr,storeVar,Go.sizeOf,typeInfo,f,h,Value.cells,k]
 unfold execOp;simp only[j,Sem.run_bind,Sem.run_pure,Result.andThen_ok,n,p,l]
theorem xL9(cs):qA9 cs 0 cs.size=cs:=by simp[qA9,tL]
theorem qX6{x:Operand}{t}(qI8:(match P.underlying t with | some (.struct _)=>true | some (.array _ _)=>true | _=>false)=true)(n:Nat)(u:(P.info? t).map (·.size)=some n)
  (b o:Nat) (y:a.eval x=.pointer (some ⟨b,o,none⟩)) (src) (tb) (fr) (f:w.heap[b]?=some (.cells src tb fr)) (k:o+n<=src.size)
  (h:wpList P ops Q rest (a.put dst (.agg (qA9 src o n))) w):
  wpList P ops Q (⟨dst,.load t x,ty,pos,aft,none⟩::rest) a w:=by
 refine wpList_plain rfl λK hK=>?_;have m:=hK _ _ h;have e:=qU5 (cs:=src) k;have p:=run_loadCells_list (P:=P) w ⟨b,o,none⟩ (qA9 src o n).toList (λj v c=>by
  rw[qG4,ξ f];have r:j<n:=by
   have:=(gS c).1;simp[e] at this;exact this
  rw[<-qW5 r];simpa using c)
 obtain⟨i,g,l⟩:=Option.map_eq_some_iff.1 u;have q:Sem.run P (loadCells ⟨b,o,none⟩ n) w=.ok (qA9 src o n) w:=by simpa [e] using p
 have s:Sem.run P (Instr.loadAt t (.pointer (some ⟨b,o,none⟩))) w=.ok (.agg (qA9 src o n)) w:=by
  cases hd:P.underlying t with
  | none=>simp[hd] at qI8
  | some d=>cases d<;>simp[hd] at qI8<;>simp[Instr.loadAt,Instr.sureAddr,loadVar,isAgg,run_underlying hd,Go.sizeOf,typeInfo,g,l,q]
 unfold Oper.wp execOp;simp only[Sem.run_bind,Sem.run_pure,Result.andThen_ok,y,s];exact m
theorem kT0{t e}{l c:Operand}(z)(size d:Nat)(u:P.underlying t=some (.slice e))(o:(P.info? e).map (λi=>(i.zero,i.size,i.bytes))=some (some z,size,d))
  (kl g:IntKind) (n:Nat) (r:a.eval l=.int kl n) (m:a.eval c=.int g n) (v:d*n<=281474976710656) (x:n<=1000000000)
  (h:wpList P ops Q rest (a.put dst (.slice (some ⟨w.heap.size,0,none⟩) n n)) (w.alloc (.cells (madeCells z.cells (n*size)) e))):
  wpList P ops Q (⟨dst,.makeSlice t l c,ty,pos,aft,none⟩::rest) a w:=by
 refine wpList_plain rfl λK hK=>?_;have q:=hK _ _ h;obtain⟨i,p,b⟩:=Option.map_eq_some_iff.1 o;simp only[Prod.mk.injEq] at b;obtain⟨b,s,k⟩:=b;have j:(i.bytes:Int)*(n:Int)<=281474976710656:=by
  rw[k];have h:((d*n:Nat):Int)<=281474976710656:=oM
  rwa [Int.natCast_mul] at h
 have f:=run_make (P:=P) w t e i z u p b kl g n n oM (iR _) j oM;simp only[Int.toNat_natCast,s] at f;unfold Oper.wp execOp;simp only[Sem.run_bind,Sem.run_pure,Result.andThen_ok,r,m,f];exact q
theorem xI5{z}{n:Nat}{z0}(e:∀ v∈z.toList,v=z0)(f:n=0\/0<z.size):∀ v∈(madeCells z n).toList,v=z0:=by
 intro v b;simp only[madeCells,Array.toList_map,List.mem_map,Array.toList_range,List.mem_range] at b;obtain⟨x,g,rfl⟩:=b;have d:0<z.size:=oM
 have c:x % z.size<z.size:=Nat.mod_lt _ d;rw[getElem!_pos z _ c];exact e _ sM
theorem xN8{t e}(z z0)(size c:Nat)(o:P.underlying t=some (.slice e))(k:(P.info? e).map (λi=>(i.zero,i.size,i.bytes))=some (some z,size,c))
  (p:∀ v∈z.cells.toList,v=z0) (q:0<z.cells.size) (kl f:IntKind) (n:Nat) (r:c*n<=281474976710656) (s:n<=1000000000) (w):
  ∃ Z:Array Value,Z.size=n*size/\(∀ v∈Z.toList,v=z0)/\Sem.run P (Instr.makeSlice t (.int kl n) (.int f n)) w=.ok (.slice (some ⟨w.heap.size,0,none⟩) n n) (w.alloc (.cells Z e)):=by
 obtain⟨i,l,b⟩:=Option.map_eq_some_iff.1 k;simp only[Prod.mk.injEq] at b;obtain⟨b,m,j⟩:=b;have g:(i.bytes:Int)*(n:Int)<=281474976710656:=by
  rw[j];have h:((c*n:Nat):Int)<=281474976710656:=oM
  rwa [Int.natCast_mul] at h
 have d:=run_make (P:=P) w t e i z o l b kl f n n oM (iR _) g oM;simp only[Int.toNat_natCast,m] at d;exact⟨_,by simp[madeCells],xI5 p (Or.inr q),d⟩
theorem xR6{t e}{l c:Operand}(z z0)(size b:Nat)(o:P.underlying t=some (.slice e))(j:(P.info? e).map (λi=>(i.zero,i.size,i.bytes))=some (some z,size,b))
  (p:∀ v∈z.cells.toList,v=z0) (q:0<z.cells.size)
  (kl d:IntKind) (n:Nat) (k:a.eval l=.int kl n) (g:a.eval c=.int d n) (f:b*n<=281474976710656) (m:n<=1000000000)
  (h:∀ Z:Array Value,Z.size=n*size->(∀ v∈Z.toList,v=z0)->wpList P ops Q rest (a.put dst (.slice (some ⟨w.heap.size,0,none⟩) n n)) (w.alloc (.cells Z e))):
  wpList P ops Q (⟨dst,.makeSlice t l c,ty,pos,aft,none⟩::rest) a w:=
 kT0 z size b o j kl d n k g f m (h _ (by simp[madeCells]) (xI5 p (Or.inr q)))
end
def qQ8:List Int→Int
 | []=>0
 | x::xs=>x+256*qQ8 xs
theorem zQ4:∀ xs:List Int,(∀ x∈xs,0<=x/\x<256)->0<=qQ8 xs/\qQ8 xs<(256:Int) ^ xs.length
 | [],_=>by simp[qQ8]
 | x::xs,h=>by
  have c:=h x sM;have b:=zQ4 xs (λy a=>h y (by simp[a]));simp only[qQ8,lC,Int.pow_succ];omega
theorem kF5(n x:Int)(g:0<=n)(h:n<72057594037927936)(c:0<=x)(i:x<256):bits BinOp.or .u64 (IntKind.u64.wrap (n*256)) (IntKind.u64.wrap x)=x+256*n:=by
 have d:IntKind.u64.wrap (n*256)=n*256:=by simp only[IntKind.wrap_u64];omega
 have e:IntKind.u64.wrap x=x:=by simp only[IntKind.wrap_u64];omega
 rw[d,e,u64_or _ _ oM oM c oM];obtain⟨a,rfl⟩:=Int.eq_ofNat_of_zero_le g;obtain⟨b,rfl⟩:=Int.eq_ofNat_of_zero_le c;have f:((a:Int)*256).toNat=a <<< 8:=by rw[Nat.shiftLeft_eq];omega
 rw[f,Int.toNat_natCast,<-Nat.shiftLeft_add_eq_or_of_lt oM,Nat.shiftLeft_eq];omega
theorem zQ2:∀ xs:List Int,(∀ x∈xs,0<=x/\x<256)->xs.length<=8->qI1 xs=qQ8 xs
 | [],_,_=>rfl
 | x::xs,h,hl=>by
  have b:=h x sM;have a:∀ y∈xs,0<=y/\y<256:=λy hy=>h y (by simp[hy]);have d:=zQ4 xs a;have g:(256:Int) ^ xs.length<=256 ^ 7:=by
   have c:xs.length<=7:=by simp at hl;omega
   have e:∀ k:Nat,(256:Int) ^ k=((256 ^ k:Nat):Int):=λk=>by rw[Int.natCast_pow];rfl
   rw[e,e];exact Int.ofNat_le.2 (Nat.pow_le_pow_right dC c)
  have i:(256:Int) ^ 7=72057594037927936:=dC
  have f:=zQ2 xs a (by simp at hl;omega);show bits BinOp.or .u64 (IntKind.u64.wrap (qI1 xs*256)) (IntKind.u64.wrap x)=_;rw[f,kF5 _ _ d.1 oM b.1 b.2];rfl
theorem qM6:∀ (k:Nat) (n:Int),∀ x∈qB4 k n,0<=x/\x<256
 | 0,_,_,h=>by simp[qB4] at h
 | k+1,n,x,h=>by
  simp only[qB4,mC] at h;rcases h with rfl|h
  .omega
  .exact qM6 k _ x h
theorem xK0:∀ (k:Nat) (n:Int),0<=n->n<(256:Int) ^ k->qQ8 (qB4 k n)=n
 | 0,n,h0,h1=>by simp[qB4,qQ8] at *;omega
 | k+1,n,h0,h1=>by
  rw[Int.pow_succ] at h1;have a:n / 256<(256:Int) ^ k:=by
   generalize (256:Int) ^ k=q at *;omega
  rw[qB4,qQ8,xK0 k _ oM a];omega
theorem qQ7(k:Nat)(n:Int)(c:k<=8)(a:0<=n)(b:n<(256:Int) ^ k):qI1 (qB4 k n)=n:=by
 rw[zQ2 _ (qM6 k n) (by rw[qI0];exact c),xK0 k n a b]
def kl(a b:ByteArray):Bool:=Op.bytesLess a.toList b.toList
theorem xH3:∀ (x y:List UInt8),Op.bytesLess x y=decide (x<y)
 | [],[]=>by simp[Op.bytesLess]
 | _::_,[]=>by simp[Op.bytesLess]
 | [],_::_=>by simp[Op.bytesLess]
 | a::x,b::y=>by
  rw[Op.bytesLess,xH3 x y];simp only[List.cons_lt_cons_iff];by_cases c:a<b<;>by_cases d:a=b<;>by_cases e:x<y<;>simp[c,d,e]
theorem zX6{a b:ByteArray}(h:a.toList=b.toList):a=b:=by
 rw[ByteArray.toList_eq,ByteArray.toList_eq] at h;cases a;cases b;simp only[ByteArray.mk.injEq];exact Array.toList_inj.1 h
theorem zH4(a b:ByteArray):(a.toList == b.toList)=decide (a=b):=by
 by_cases h:a=b
 .simp[h]
 .have:¬a.toList=b.toList:=λe=>h (zX6 e);simp[h,this]
theorem zF4(a b):kl a b=true↔a.toList<b.toList:=by unfold kl;rw[xH3];simp
theorem qV7(a b):kl a b=false↔b.toList<=a.toList:=by
 rw[<-Bool.not_eq_true,zF4];exact List.not_lt
theorem qL5(a):kl a a=false:=(qV7 a a).2 (List.le_refl _)
theorem qO4{a b c}(h:kl a b=true)(k:kl b c=true):kl a c=true:=by
 rw[zF4] at *;exact List.lt_trans h k
theorem qP4{a b}(h:kl a b=true):kl b a=false:=by
 rw[zF4] at h;rw[qV7];exact List.le_of_lt h
theorem qZ2{a b}(h:kl a b=false)(k:kl b a=false):a=b:=by
 rw[qV7] at *;exact zX6 (List.le_antisymm k h)
theorem qZ1{a b c}(h:kl b a=false)(k:kl b c=true):kl a c=true:=by
 rw[qV7] at h;rw[zF4] at *;exact List.lt_of_le_of_lt h k
theorem qN6{a b c}(h:kl a b=true)(k:kl c b=false):kl a c=true:=by
 by_cases e:kl a c=true
 .exact e
 .have:=qZ1 (a:=c) (b:=a) (c:=b) (by simpa using e) h;rw[k] at this;cases this
theorem xE6{a b c}(h:kl b a=false)(k:kl c b=false):kl c a=false:=by
 rw[qV7] at *;exact List.le_trans h k
theorem qI9{a b}(h:kl a b=true):a≠b:=λe=>by subst e;rw[qL5] at h;cases h
theorem qN5(a):kl a ⟨#[]⟩=false:=by
 rw[qV7];simp
theorem xE7(a b):(Op.bytesLess a.toList b.toList || a.toList == b.toList)=!kl b a:=by
 rw[zH4];by_cases h:kl a b=true
 .have:Op.bytesLess a.toList b.toList=true:=h;simp[this,qP4 h]
 .have c:kl a b=false:=by simpa using h
  have f:Op.bytesLess a.toList b.toList=false:=c;by_cases e:a=b
  .subst e;simp[qL5]
  .have:kl b a=true:=by
    by_cases d:kl b a=true
    .exact d
    .exact absurd (qZ2 c (by simpa using d)) e
   simp[f,e,this]
structure KV where
 k:ByteArray
 v:ByteArray
 deriving DecidableEq
def Sorted(l:List KV):Prop:=l.Pairwise fun a b=>kl a.k b.k=true
def ins(p:KV)(l:List KV):List KV:=l.takeWhile (fun q=>kl q.k p.k)++p::(l.dropWhile (fun q=>kl q.k p.k)).filter (fun q=>!decide (q.k=p.k))
def del(k:ByteArray)(l:List KV):List KV:=l.filter fun q=>!decide (q.k=k)
theorem Sorted.append{a b}:Sorted (a++b)↔Sorted a/\Sorted b/\∀ x∈a,∀ y∈b,kl x.k y.k=true:=List.pairwise_append
theorem Sorted.del{l}(h:Sorted l)(k):Sorted (del k l):=h.sublist List.filter_sublist
theorem zG0{k}{l}{q}:q∈del k l↔q∈l/\q.k≠k:=by simp[del]
theorem zG1{p q}{l}(h:q∈ins p l):q=p\/q∈l:=by
 simp only[ins,List.mem_append,mC,List.mem_filter] at h;rcases h with h|h|⟨h,_⟩
 .exact .inr (List.takeWhile_sublist _ |>.subset h)
 .exact .inl h
 .exact .inr (List.dropWhile_sublist _ |>.subset h)
theorem zN4(p)(l):(ins p l).length<=l.length+1:=by
 have h:=congrArg List.length (List.takeWhile_append_dropWhile (p:=λq=>kl q.k p.k) (l:=l));have a:=List.length_filter_le (λq=>!decide (q.k=p.k)) (l.dropWhile (λq=>kl q.k p.k));simp only[ins,lA,lC] at *;omega
theorem zI1{p:ByteArray}{l:List KV}:∀ q∈l.takeWhile (λq=>kl q.k p),kl q.k p=true:=by
 induction l with
 | nil=>intro q h;simp at h
 | cons a l ih=>
  intro q h;rw[List.takeWhile_cons] at h;split at h
  .rcases List.mem_cons.1 h with rfl|h
   .assumption
   .exact ih q h
  .simp at h
theorem zL6{p}{l}(d:Sorted l):∀ q∈l.dropWhile (λq=>kl q.k p),kl q.k p=false:=by
 induction l with
 | nil=>intro q h;simp at h
 | cons a l ih=>
  intro q h;have c:=pC d;rw[List.dropWhile_cons] at h;split at h
  .exact ih c.2 q h
  .next b=>
   have b:kl a.k p=false:=by simpa using b
   rcases List.mem_cons.1 h with rfl|h
   .exact b
   .exact qP4 (qZ1 b (c.1 q h))
theorem Sorted.ins{l}(h:Sorted l)(p):Sorted (ins p l):=by
 have i:Sorted (l.takeWhile (λq=>kl q.k p.k)++l.dropWhile (λq=>kl q.k p.k)):=by rw[List.takeWhile_append_dropWhile];exact h
 obtain⟨f,g,j⟩:=Sorted.append.1 i;have c:∀ q∈(l.dropWhile (λq=>kl q.k p.k)).filter (λq=>!decide (q.k=p.k)),kl p.k q.k=true:=by
  intro q a;simp only[List.mem_filter,Bool.not_eq_true',decide_eq_false_iff_not] at a;have:=zL6 h q a.1;by_cases e:kl p.k q.k=true
  .exact e
  .exact absurd (qZ2 this (by simpa using e)) a.2
 refine Sorted.append.2 ⟨f,List.pairwise_cons.2 ⟨c,g.sublist List.filter_sublist⟩,?_⟩;intro x d y b;rcases List.mem_cons.1 b with rfl|b
 .exact zI1 x d
 .exact qO4 (zI1 x d) (c y b)
theorem zE1{l:List KV}{k:ByteArray}(h:∀ q∈l,q.k≠k):l.filter (λq=>!decide (q.k=k))=l:=by
 rw[List.filter_eq_self];intro q a;simp[h q a]
theorem qY6{l}{k}(h:∀ q∈l,q.k≠k):del k l=l:=zE1 h
theorem qY5(k)(a b):del k (a++b)=del k a++del k b:=by simp[del]
theorem jS8{p}{a b c}(f:∀ q∈a,kl q.k p.k=true)(g:∀ q∈c,kl p.k q.k=true):ins p (a++b++c)=a++ins p b++c:=by
 have i:∀ (x y:List KV),(∀ q∈x,kl q.k p.k=true)->(x++y).takeWhile (λq=>kl q.k p.k)=x++y.takeWhile (λq=>kl q.k p.k):=by
  intro x y e
  induction x with
  | nil=>rfl
  | cons z x ih=>simp[List.takeWhile_cons,e z sM,ih (λq d=>e q (by simp[d]))]
 have j:∀ (x y:List KV),(∀ q∈x,kl q.k p.k=true)->(x++y).dropWhile (λq=>kl q.k p.k)=y.dropWhile (λq=>kl q.k p.k):=by
  intro x y e
  induction x with
  | nil=>rfl
  | cons z x ih=>simp[List.dropWhile_cons,e z sM,ih (λq d=>e q (by simp[d]))]
 have h:=λq d=>qP4 (g q d);have k:∀ y:List KV,(y++c).takeWhile (λq=>kl q.k p.k)=y.takeWhile (λq=>kl q.k p.k):=by
  intro y
  induction y with
  | nil=>
   cases c with
   | nil=>rfl
   | cons z c=>simp[List.takeWhile_cons,h z sM]
  | cons z y ih=>simp only[cA,List.takeWhile_cons];split<;>simp_all
 have l:∀ y:List KV,(y++c).dropWhile (λq=>kl q.k p.k)=y.dropWhile (λq=>kl q.k p.k)++c:=by
  intro y
  induction y with
  | nil=>
   cases c with
   | nil=>rfl
   | cons z c=>simp[List.dropWhile_cons,h z sM]
  | cons z y ih=>simp only[cA,List.dropWhile_cons];split<;>simp_all
 have m:=zE1 λq d=>(qI9 (g q d)).symm;unfold ins;rw[aA,i _ _ f,j _ _ f,k,l,List.filter_append,m];simp
theorem jJ0{k}{a b c}(e:∀ q∈a,kl q.k k=true)(f:∀ q∈c,kl k q.k=true):del k (a++b++c)=a++del k b++c:=by
 rw[qY5,qY5,qY6 λq d=>qI9 (e q d),qY6 λq d=>(qI9 (f q d)).symm]
theorem xO8{l}(c:Sorted l)(k):l.findIdx (λq=>!kl q.k k)=(l.takeWhile (λq=>kl q.k k)).length:=by
 induction l with
 | nil=>rfl
 | cons a l ih=>
  have d:=pC c;rw[List.findIdx_cons,List.takeWhile_cons];by_cases h:kl a.k k=true
  .simp[h,ih d.2]
  .have b:kl a.k k=false:=by simpa using h
   simp[b]
theorem xP4{l}(a:Sorted l)(k):l.take (l.findIdx (λq=>!kl q.k k))=l.takeWhile (λq=>kl q.k k):=by
 rw[xO8 a]
 conv=>lhs;arg 2;rw[<-List.takeWhile_append_dropWhile (p:=λq=>kl q.k k) (l:=l)]
 rw[List.take_left]
theorem xA4{l}(a:Sorted l)(k):l.drop (l.findIdx (λq=>!kl q.k k))=l.dropWhile (λq=>kl q.k k):=by
 rw[xO8 a]
 conv=>lhs;arg 2;rw[<-List.takeWhile_append_dropWhile (p:=λq=>kl q.k k) (l:=l)]
 rw[List.drop_left]
def qG7(l:List KV)(i:Nat)(k:ByteArray):Bool:=match l[i]? with
 | some q=>decide (q.k=k)
 | none=>false
def qB0(l:List KV)(k:ByteArray):Nat:=l.findIdx (fun q=>!kl q.k k)
theorem qX0(l)(k):qB0 l k<=l.length:=fL
theorem qT3{l}(d:Sorted l)(p):ins p l=l.take (qB0 l p.k)++[p]++l.drop (if qG7 l (qB0 l p.k) p.k then qB0 l p.k+1 else qB0 l p.k):=by
 unfold ins qB0;rw[xP4 d];have b:=xA4 d p.k;have h:=zL6 (p:=p.k) d;have k:Sorted (l.dropWhile (λq=>kl q.k p.k)):=d.sublist (List.dropWhile_sublist _);generalize l.findIdx (λq=>!kl q.k p.k)=i at *;have c:l[i]?=(l.dropWhile (λq=>kl q.k p.k)).head?:=by rw[<-b];simp
 have g:l.drop (i+1)=(l.dropWhile (λq=>kl q.k p.k)).tail:=by rw[<-b];simp
 cases hc:l.dropWhile (λq=>kl q.k p.k) with
 | nil=>
  rw[hc] at c b;simp[qG7,c,b]
 | cons a r=>
  rw[hc] at c b g h k;have j:=pC k;by_cases e:a.k=p.k
  .have:r.filter (λq=>!decide (q.k=p.k))=r:=zE1 λq hq=>by rw[<-e];exact (qI9 (j.1 q hq)).symm
   simp[qG7,c,e,g,this]
  .have m:kl p.k a.k=true:=by
    by_cases f:kl p.k a.k=true
    .exact f
    .exact absurd (qZ2 (h a sM) (by simpa using f)) e
   have:r.filter (λq=>!decide (q.k=p.k))=r:=zE1 λq hq=>(qI9 (qO4 m (j.1 q hq))).symm;simp[qG7,c,e,b,this]
theorem zM8{l}(c:Sorted l)(k):qG7 l (qB0 l k) k=true↔∃ q∈l,q.k=k:=by
 unfold qB0;have m:=xA4 c k;have g:=zL6 (p:=k) c;have i:Sorted (l.dropWhile (λq=>kl q.k k)):=c.sublist (List.dropWhile_sublist _);have j:l[l.findIdx (λq=>!kl q.k k)]?=(l.dropWhile (λq=>kl q.k k)).head?:=by rw[<-m];simp
 have n:(∃ q∈l,q.k=k)↔∃ q∈l.dropWhile (λq=>kl q.k k),q.k=k:=by
  constructor
  .rintro⟨q,b,e⟩;rw[<-List.takeWhile_append_dropWhile (p:=λq=>kl q.k k) (l:=l)] at b;rcases mA b with h|h
   .exact absurd e (qI9 (zI1 q h))
   .exact⟨q,h,e⟩
  .rintro⟨q,b,e⟩;exact⟨q,List.dropWhile_sublist _ |>.subset b,e⟩
 rw[n];unfold qG7;rw[j]
 cases hc:l.dropWhile (λq=>kl q.k k) with
 | nil=>simp
 | cons a r=>
  rw[hc] at i g;have o:=pC i;simp only[List.head?_cons,decide_eq_true_eq,mC,exists_eq_or_imp];constructor
  .intro h;exact .inl h
  .rintro (h|⟨q,b,e⟩)
   .exact h
   .have d:=o.1 q b;rw[e] at d;have f:=g a sM;rw[d] at f;cases f
theorem xA3{l}(j:Sorted l){k}(h:qG7 l (qB0 l k) k=true):del k l=l.take (qB0 l k)++l.drop (qB0 l k+1):=by
 have e:=tD (qB0 l k) l;unfold qG7 at h;split at h
 .next q hq=>
  have a:q.k=k:=by simpa using h
  have i:=(gS hq).1;have c:l.drop (qB0 l k)=q::l.drop (qB0 l k+1):=by
   rw[dG i,(gS hq).2]
  have m:Sorted (l.take (qB0 l k)++q::l.drop (qB0 l k+1)):=by rw[<-c,e];exact j
  obtain⟨n,d,f⟩:=Sorted.append.1 m;have g:=pC d
  conv=>lhs;rw[<-e,c]
  rw[qY5,qY6 λx b=>by rw[<-a];exact qI9 (f x b q sM)]
  congr 1
  rw[show q::l.drop (qB0 l k+1)=[q]++l.drop (qB0 l k+1) from rfl,qY5,qY6 (l:=l.drop (qB0 l k+1)) λx b=>by rw[<-a];exact (qI9 (g.1 x b)).symm];simp[del,a]
 .cases h
structure Lnk(X:Type) where
 key:ByteArray
 ref:Option (Nat × Int)
 sub:X
def Tn:Nat→Type
 | 0=>List KV
 | n+1=>List (Lnk (Tn n))
def cont:(n:Nat)→Tn n→List KV
 | 0,ps=>ps
 | n+1,ls=>List.flatMap (fun l:Lnk (Tn n)=>cont n l.sub) ls
def cnt:(n:Nat)→Tn n→Nat
 | 0,ps=>List.length (α:=KV) ps
 | n+1,ls=>List.length (α:=Lnk (Tn n)) ls
def ρ(p:KV):Nat:=1+p.k.size+p.v.size
def qA2{X:Type}(l:Lnk X):Nat:=11+l.key.size
def meas{α:Type}(f:α→Nat)(l:List α):Nat:=(l.map f).sum
theorem qD7{α:Type}(f:α->Nat)(a b:List α):meas f (a++b)=meas f a+meas f b:=by simp[meas]
theorem qC1{α:Type}(f:α->Nat)(a:α)(b:List α):meas f (a::b)=f a+meas f b:=by simp[meas]
theorem qD6{α:Type}(f:α->Nat):meas f []=0:=rfl
def qH0{α:Type}(f:α→Nat)(all:Nat):List α→Nat→Nat
 | [],_=>0
 | x::xs,n=>if 2*n<all then qH0 f all xs (n+f x)+1 else 0
def qB7{α:Type}(f:α→Nat)(l:List α):List (List α):=
 if meas f l≤126 then [l] else [l.take (qH0 f (meas f l) l 0),l.drop (qH0 f (meas f l) l 0)]
def links{α:Type}(low:α→ByteArray)(key:ByteArray):List (List α)→List (Lnk (List α))
 | []=>[]
 | a::rest=>⟨key,none,a⟩::rest.map fun b=>⟨(b.head?.map low).getD ⟨#[]⟩,none,b⟩
def qD5(key:ByteArray)(ps:List KV):List (Lnk (Tn 0)):=links KV.k key (qB7 ρ ps)
def qC4(n:Nat)(key:ByteArray)(ls:List (Lnk (Tn n))):List (Lnk (Tn (n+1))):=links Lnk.key key (qB7 qA2 ls)
def qA6{X:Type}(ls:List (Lnk X))(k:ByteArray):Nat:=ls.findIdx (fun l=>kl k l.key)-1
def qH4(p:KV)(ps:List KV):List KV:=ps.take (qB0 ps p.k)++[p]++ps.drop (if qG7 ps (qB0 ps p.k) p.k then qB0 ps p.k+1 else qB0 ps p.k)
def qD8:(n:Nat)→Lnk (Tn n)→KV→List (Lnk (Tn n))
 | 0,l,p=>qD5 l.key (qH4 p l.sub)
 | n+1,l,p=>
  let ls:List (Lnk (Tn n)):=l.sub
  match ls[qA6 ls p.k]? with
  | some m=>qC4 n l.key (ls.take (qA6 ls p.k)++qD8 n m p++ls.drop (qA6 ls p.k+1))
  | none=>[]
def qG2:(n:Nat)→ByteArray→Tn n→Tn n→List (Lnk (Tn n))
 | 0,key,a,b=>qD5 key (List.append (α:=KV) a b)
 | n+1,key,a,b=>qC4 n key (List.append (α:=Lnk (Tn n)) a b)
def qC2(n:Nat)(ls:List (Lnk (Tn n)))(i:Nat):List (Lnk (Tn n)):=
 match ls[i]? with
 | none=>ls
 | some l=>if 3≤cnt n l.sub then ls else
  match ls[min i (ls.length-2)]?,ls[min i (ls.length-2)+1]? with
  | some a,some b=>ls.take (min i (ls.length-2))++qG2 n a.key a.sub b.sub++ls.drop (min i (ls.length-2)+2)
  | _,_=>ls
def qC3:(n:Nat)→Lnk (Tn n)→ByteArray→List (Lnk (Tn n))
 | 0,l,k=>qD5 l.key (List.take (α:=KV) (qB0 l.sub k) l.sub++List.drop (α:=KV) (qB0 l.sub k+1) l.sub)
 | n+1,l,k=>
  let ls:List (Lnk (Tn n)):=l.sub
  match ls[qA6 ls k]? with
  | some m=>qC4 n l.key (qC2 n (ls.take (qA6 ls k)++qC3 n m k++ls.drop (qA6 ls k+1)) (qA6 ls k))
  | none=>[]
inductive Root where
 | none
 | at (n:Nat) (l:Lnk (Tn n))
def qN0:(n:Nat)→Lnk (Tn n)→Root
 | 0,l=>match (l.sub:List KV) with
  | []=>.none
  | _::_=>.at 0 l
 | n+1,l=>match (l.sub:List (Lnk (Tn n))) with
  | []=>.none
  | [m]=>.at n m
  | _::_::_=>.at (n+1) l
def qE0(n:Nat)(ls:List (Lnk (Tn n))):Root:=
 match ls with
 | []=>.none
 | [l]=>qN0 n l
 | ls=>match qC4 n ⟨#[]⟩ ls with
  | []=>.none
  | r::_=>qN0 (n+1) r
def Root.cont:Root→List KV
 | .none=>[]
 | .at n l=>YtdohpenfkdckiaaGreatDoor.cont n l.sub
def Root.put(r:Root)(p:KV):Root:=match r with
 | .none=>qE0 0 (qD5 ⟨#[]⟩ [p])
 | .at n l=>qE0 n (qD8 n l p)
def Root.del(r:Root)(k:ByteArray):Root:=match r with
 | .none=>.none
 | .at n l=>if (YtdohpenfkdckiaaGreatDoor.cont n l.sub).any (fun q=>decide (q.k=k)) then qE0 n (qC3 n l k) else .at n l
def qC6(p:KV):Prop:=1≤p.k.size∧p.k.size≤8∧p.v.size≤12
def zU2{X:Type}(co:X→List KV)(a b:Lnk X):Prop:=kl a.key b.key=true∧∀ q∈co a.sub,kl q.k b.key=true
abbrev qQ2(n:Nat)(a b:Lnk (Tn n)):Prop:=zU2 (cont n) a b
structure GoodL(lo:ByteArray)(ps:List KV):Prop where
 sorted:Sorted ps
 all:∀ p∈ps,qC6 p∧kl p.k lo=false
 fits:meas ρ ps≤126
structure GoodB{X:Type}(G:ByteArray→X→Prop)(C:X→Nat)(co:X→List KV)(lo:ByteArray)(ls:List (Lnk X)):Prop where
 head:∀ l∈ls.head?,l.key=lo
 all:∀ l∈ls,G l.key l.sub∧3≤C l.sub∧l.key.size≤8
 pair:ls.Pairwise (zU2 co)
 fits:meas qA2 ls≤126
def Good:(n:Nat)→ByteArray→Tn n→Prop
 | 0,lo,ps=>GoodL lo ps
 | n+1,lo,ls=>GoodB (Good n) (cnt n) (cont n) lo ls
structure Row0(n:Nat)(lo:ByteArray)(ls:List (Lnk (Tn n))):Prop where
 head:∀ l∈ls.head?,l.key=lo
 all:∀ l∈ls,Good n l.key l.sub∧l.key.size≤8
 pair:ls.Pairwise (qQ2 n)
theorem qK9:∀ (n:Nat) (lo) (t),Good n lo t->Sorted (cont n t)/\∀ q∈cont n t,qC6 q/\kl q.k lo=false
 | 0,lo,ps,h=>⟨h.1,h.2⟩
 | n+1,lo,ls,h=>by
  obtain⟨u,s,i,_⟩:=h;have o:=λl:Lnk (Tn n)=>qK9 n l.key l.sub;have key:∀ (ls:List (Lnk (Tn n))),(∀ l∈ls,Good n l.key l.sub)->ls.Pairwise (qQ2 n)->Sorted (ls.flatMap λl=>cont n l.sub)/\∀ q∈ls.flatMap (λl=>cont n l.sub),qC6 q/\∀ l∈ls.head?,kl q.k l.key=false:=by
   intro ls
   induction ls with
   | nil=>intro _ _;simp[Sorted]
   | cons a ls ihl=>
    intro g i;obtain⟨m,v⟩:=pC i;obtain⟨C,D⟩:=ihl (λl hl=>g l (by simp[hl])) v;obtain⟨p,j⟩:=o a (g a sM);have k:∀ q∈ls.flatMap (λl=>cont n l.sub),∃ b∈ls,kl q.k b.key=false:=by
     intro q c;obtain⟨b,d,c⟩:=mF c;exact⟨b,d,((o b (g b (by simp[d]))).2 q c).2⟩
    rw[fC];refine⟨Sorted.append.2 ⟨p,C,?_⟩,?_⟩
    .intro x z y A;obtain⟨b,d,B⟩:=k y A;exact qN6 ((m b d).2 x z) B
    .intro q c;rcases mA c with c|c
     .exact⟨(j q c).1,by simpa using (j q c).2⟩
     .obtain⟨b,d,w⟩:=k q c;refine⟨(D q c).1,?_⟩;simp only[List.head?_cons,Option.mem_def,Option.some.injEq,forall_eq'];exact xE6 (qP4 (m b d).1) w
  obtain⟨E,F⟩:=key ls (λl hl=>(s l hl).1) i;refine⟨E,λq c=>?_⟩;obtain⟨G,H⟩:=F q c;refine⟨G,?_⟩
  cases hls:(ls:List (Lnk (Tn n))) with
  | nil=>rw[show cont (n+1) ls=List.flatMap (λl:Lnk (Tn n)=>cont n l.sub) ls from rfl,hls] at c;simp at c
  | cons a r=>
   have e:=u a (by rw[hls];simp);have:=H a (by rw[hls];simp);rw[e] at this;exact this
section
variable {α:Type} (f:α→Nat)
theorem zD5(a m:Nat):∀ (l:List α) (n:Nat),(∀ x∈l,f x<=m)->2*n<a+2*m->a<=2*(n+meas f l)->
  a<=2*(n+meas f (l.take (qH0 f a l n)))/\2*(n+meas f (l.take (qH0 f a l n)))<a+2*m
 | [],n,_,h1,h2=>by simp[qH0,meas] at *;omega
 | x::xs,n,hm,h1,h2=>by
  unfold qH0;have c:=hm x sM;split
  .have d:=zD5 a m xs (n+f x) (λy b=>hm y (by simp[b])) oM (by rw[qC1] at h2;omega);rw[List.take_succ_cons,qC1];omega
  .simp[meas];omega
theorem qN7(m:Nat):∀ (l:List α),(∀ x∈l,f x<=m)->meas f l<=m*l.length
 | [],_=>by simp[meas]
 | x::xs,h=>by
  have b:=h x sM;have c:=qN7 m xs λy a=>h y (by simp[a]);rw[qC1,lC,Nat.mul_succ];omega
theorem qN8(l:List α)(i:Nat):meas f (l.take i)+meas f (l.drop i)=meas f l:=by
 rw[<-qD7,tD]
theorem zE7(l:List α)(c:∀ x∈l,f x<=21)(e:meas f l<=210):
  (qB7 f l=[l]/\meas f l<=126)\/∃ a b,qB7 f l=[a,b]/\a++b=l/\meas f a<=126/\meas f b<=126/\3<=a.length/\3<=b.length:=by
 unfold qB7;split
 .exact .inl ⟨rfl,by assumption⟩
 .next h=>
  right;have g:=zD5 f (meas f l) 21 l 0 c oM oM;have i:=qN8 f l (qH0 f (meas f l) l 0);refine⟨_,_,rfl,tD _ _,oM,oM,?_,?_⟩
  .have:=qN7 f 21 (l.take (qH0 f (meas f l) l 0)) λx d=>c x (mT d);omega
  .have:=qN7 f 21 (l.drop (qH0 f (meas f l) l 0)) λx d=>c x (mD d);omega
end
theorem qZ5{lo}{ps}(t:Sorted ps)(g:∀ p∈ps,qC6 p/\kl p.k lo=false)(B:meas ρ ps<=210)(s:lo.size<=8):
  Row0 0 lo (qD5 lo ps)/\(qD5 lo ps).flatMap (λl=>cont 0 l.sub)=ps/\
  ((∃ a,qD5 lo ps=[a]/\a.key=lo/\a.ref=none/\a.sub=ps)\/∃ a b,qD5 lo ps=[a,b]/\a.key=lo/\a.ref=none/\b.ref=none/\3<=cnt 0 a.sub/\3<=cnt 0 b.sub):=by
 have D:∀ x∈ps,ρ x<=21:=λx hx=>by obtain⟨⟨m,h2,h3⟩,_⟩:=g x hx;unfold ρ;omega
 rcases zE7 ρ ps D B with⟨e,m⟩|⟨a,b,e,y,w,z,n,o⟩
 .have j:qD5 lo ps=[⟨lo,none,ps⟩]:=by unfold qD5;rw[e];rfl
  rw[j];refine⟨⟨sM,?_,sM⟩,aN ps,.inl ⟨_,rfl,rfl,rfl,rfl⟩⟩;intro l i;rw[mS i];exact⟨⟨t,g,m⟩,s⟩
 .subst y;obtain⟨c,r,rfl⟩:∃ c r,b=c::r:=by cases b with
   | nil=>simp at o
   | cons c r=>exact⟨c,r,rfl⟩
  obtain⟨c0,k,rfl⟩:∃ c r,a=c::r:=by cases a with
   | nil=>simp at n
   | cons c r=>exact⟨c,r,rfl⟩
  have j:qD5 lo (c0::k++c::r)=[⟨lo,none,c0::k⟩,⟨c.k,none,c::r⟩]:=by unfold qD5;rw[e];rfl
  rw[j];obtain⟨E,u,v⟩:=Sorted.append.1 t;have A:=g c sM;refine⟨⟨sM,?_,?_⟩,show c0::k++(c::r++[])=_ by simp,.inr ⟨_,_,rfl,rfl,rfl,rfl,n,o⟩⟩
  .intro l i;simp only[mC,lN,or_false] at i;rcases i with rfl|rfl
   .exact⟨⟨E,λp d=>g p (by simp at d |-;rcases d with h | h<;>simp[h]),w⟩,s⟩
   .refine⟨⟨u,λp d=>⟨(g p (List.mem_append_right _ d)).1,?_⟩,z⟩,A.1.2.1⟩;rcases List.mem_cons.1 d with rfl|d
    .exact qL5 _
    .exact qP4 ((pC u).1 p d)
  .simp only[List.pairwise_cons,mC,lN,or_false,forall_eq,List.Pairwise.nil,and_true,false_implies,implies_true];refine⟨qZ1 (g c0 sM).2 (v c0 sM c sM),λq C=>v q C c sM⟩
theorem zK6{n:Nat}{lo}{ls}(h:Row0 n lo ls)(m:∀ l∈ls,3<=cnt n l.sub)(A:meas qA2 ls<=210)(t:lo.size<=8):
  Row0 (n+1) lo (qC4 n lo ls)/\(qC4 n lo ls).flatMap (λl=>cont (n+1) l.sub)=ls.flatMap (λl=>cont n l.sub)/\
  ((∃ a,qC4 n lo ls=[a]/\a.key=lo/\a.ref=none/\a.sub=ls)\/∃ a b,qC4 n lo ls=[a,b]/\a.key=lo/\a.ref=none/\b.ref=none/\3<=cnt (n+1) a.sub/\3<=cnt (n+1) b.sub):=by
 have B:∀ x∈ls,qA2 x<=21:=λx hx=>by have:=(h.all x hx).2;unfold qA2;omega
 rcases zE7 qA2 ls B A with⟨e,v⟩|⟨a,b,e,y,w,z,o,p⟩
 .have i:qC4 n lo ls=[⟨lo,none,ls⟩]:=by unfold qC4;rw[e];rfl
  rw[i];refine⟨⟨sM,?_,sM⟩,aN _,.inl ⟨_,rfl,rfl,rfl,rfl⟩⟩;intro l d;rw[mS d];exact⟨⟨h.head,λl d=>⟨(h.all l d).1,m l d,(h.all l d).2⟩,h.pair,v⟩,t⟩
 .subst y;obtain⟨c,r,rfl⟩:∃ c r,b=c::r:=by cases b with
   | nil=>simp at p
   | cons c r=>exact⟨c,r,rfl⟩
  obtain⟨c0,g,rfl⟩:∃ c r,a=c::r:=by cases a with
   | nil=>simp at o
   | cons c r=>exact⟨c,r,rfl⟩
  have i:qC4 n lo (c0::g++c::r)=[⟨lo,none,c0::g⟩,⟨c.key,none,c::r⟩]:=by unfold qC4;rw[e];rfl
  rw[i];obtain⟨C,D,u⟩:=pA h.pair;have s:=h.head c0 sM;have j:∀ l∈c0::g++c::r,Good n l.key l.sub/\3<=cnt n l.sub/\l.key.size<=8:=λl d=>⟨(h.all l d).1,m l d,(h.all l d).2⟩;refine⟨⟨sM,?_,?_⟩,?_,.inr ⟨_,_,rfl,rfl,rfl,rfl,o,p⟩⟩
  rotate_left 2
  .show List.flatMap _ (c0::g)++(List.flatMap _ (c::r)++[])=_;rw[aN,<-fA]
  .intro l d;simp only[mC,lN,or_false] at d;rcases d with rfl|rfl
   .exact⟨⟨by simpa using s,λl d=>j l (List.mem_append_left _ d),C,w⟩,t⟩
   .exact⟨⟨sM,λl d=>j l (List.mem_append_right _ d),D,z⟩,(j c sM).2.2⟩
  .simp only[List.pairwise_cons,mC,lN,or_false,forall_eq,List.Pairwise.nil,and_true,false_implies,implies_true];refine⟨by rw[<-s];exact (u c0 sM c sM).1,λq k=>?_⟩;obtain⟨l,d,k⟩:=mF k;exact (u l d c sM).2 q k
def η{n:Nat}(t:Tn (n+1)):List (Lnk (Tn n)):=t
def prs(t:Tn 0):List KV:=t
theorem zD4:∀ (n:Nat) (lo) (t),Good n lo t->1<=cnt n t->∃ q,q∈cont n t
 | 0,lo,ps,h,h1=>by
  have c:1<=(prs ps).length:=h1;obtain⟨a,b⟩:=List.exists_mem_of_length_pos (l:=prs ps) oM;exact⟨a,b⟩
 | n+1,lo,ls,h,h1=>by
  have c:1<=(η ls).length:=h1;obtain⟨a,b⟩:=List.exists_mem_of_length_pos (l:=η ls) oM;have d:=h.all a b;obtain⟨q,e⟩:=zD4 n a.key a.sub d.1 oM;exact⟨q,List.mem_flatMap.2 ⟨a,b,e⟩⟩
theorem zB6{n:Nat}{lo k}{ls}(h:Row0 n lo ls)(v:ls≠[])(u:kl k lo=false):
  ∃ A m B,ls=A++m::B/\A.length=qA6 ls k/\kl k m.key=false/\(∀ a∈A,∀ q∈cont n a.sub,kl q.k k=true)/\(∀ b∈B,kl k b.key=true):=by
 have D:1<=ls.findIdx (λl=>kl k l.key):=by
  cases ls with
  | nil=>exact absurd rfl v
  | cons a r=>
   have e:=h.head a sM;rw[List.findIdx_cons,e,u];simp
 have C:ls.findIdx (λl=>kl k l.key)<=ls.length:=fL;have z:qA6 ls k<ls.length:=by unfold qA6;omega
 have g:kl k (ls[qA6 ls k]).key=false:=by
  have:=List.not_of_lt_findIdx (p:=λl:Lnk (Tn n)=>kl k l.key) (xs:=ls) (i:=qA6 ls k) (by unfold qA6;omega);simpa using this
 have s:ls=ls.take (qA6 ls k)++ls[qA6 ls k]::ls.drop (qA6 ls k+1):=by
  rw[List.getElem_cons_drop];simp
 have j:=h.pair;rw[s] at j;obtain⟨E,F,y⟩:=pA j;refine⟨ls.take (qA6 ls k),ls[qA6 ls k],ls.drop (qA6 ls k+1),s,sO,g,?_,?_⟩
 .intro a t q x;exact qN6 ((y a t _ (List.mem_cons_self ..)).2 q x) g
 .intro b c;have e:qA6 ls k+1=ls.findIdx (λl=>kl k l.key):=by unfold qA6;omega
  rw[e] at c;by_cases d:ls.findIdx (λl=>kl k l.key)<ls.length
  .have f:=List.findIdx_getElem (w:=d);rw[dG d] at c;rcases List.mem_cons.1 c with rfl|c
   .exact f
   .have o:=h.pair;rw[<-tD (ls.findIdx (λl=>kl k l.key)) ls,dG d] at o;have:=(pC (pA o).2.1).1 b c;exact qO4 f this.1
  .rw[dL oM] at c;simp at c
theorem Row0.keys{n:Nat}{lo}{W}(h:Row0 n lo W):∀ w∈W,kl w.key lo=false:=by
 intro w b
 cases W with
 | nil=>simp at b
 | cons a r=>
  have e:=h.head a sM;rcases List.mem_cons.1 b with rfl|b
  .rw[e];exact qL5 _
  .have:=((pC h.pair).1 w b).1;rw[e] at this;exact qP4 this
theorem zH2{n:Nat}{lo}{A B W}{m}(h:Row0 n lo (A++m::B))(d:Row0 n m.key W)(u:W≠[])(t:∀ w∈W,1<=cnt n w.sub)
  (j:∀ w∈W,∀ q∈cont n w.sub,∀ b∈B,kl q.k b.key=true):Row0 n lo (A++W++B):=by
 obtain⟨z,C,s⟩:=pA h.pair;obtain⟨E,D⟩:=pC C;refine⟨?_,?_,?_⟩
 .intro l c
  cases A with
  | nil=>
   have e:=h.head m sM
   cases W with
   | nil=>exact absurd rfl u
   | cons w W=>
    simp at c;rw[<-c,d.head w sM,e]
  | cons a A=>
   simp at c;rw[<-c];exact h.head a sM
 .intro l c;simp only[List.mem_append] at c;rcases c with (c|c)|c
  .exact h.all l (by simp[c])
  .exact d.all l c
  .exact h.all l (by simp[c])
 .rw[aA];refine List.pairwise_append.2 ⟨z,List.pairwise_append.2 ⟨d.pair,D,?_⟩,?_⟩
  .intro w g b o;obtain⟨q,f⟩:=zD4 n w.key w.sub (d.all w g).1 (t w g);have v:=j w g q f b o;have y:=((qK9 n w.key w.sub (d.all w g).1).2 q f).2;exact⟨qZ1 y v,λq f=>j w g q f b o⟩
  .intro a k x i;rcases mA i with i|i
   .have r:=s a k m sM;have p:=d.keys x i;exact⟨qN6 r.1 p,λq f=>qN6 (r.2 q f) p⟩
   .exact s a k x (by simp[i])
theorem zP5(p){l}(a:Sorted l):meas ρ (ins p l)<=meas ρ l+ρ p:=by
 rw[qT3 a,qD7,qD7,qC1,qD6];have b:=qN8 ρ l (qB0 l p.k);have c:meas ρ (l.drop (if qG7 l (qB0 l p.k) p.k then qB0 l p.k+1 else qB0 l p.k))<=meas ρ (l.drop (qB0 l p.k)):=by
  split
  .have:=qN8 ρ (l.drop (qB0 l p.k)) 1;rw[List.drop_drop] at this;omega
  .exact lR
 omega
theorem jS7(p){l}(a:Sorted l):l.length<=(ins p l).length:=by
 rw[qT3 a];have:=qX0 l p.k;simp only[lA,lK,lD,lC,List.length_nil];split<;>omega
def Made(n:Nat)(l:Lnk (Tn n))(d:Nat)(W:List (Lnk (Tn n))):Prop:=
 (∃ a,W=[a]∧a.key=l.key∧a.ref=none∧cnt n l.sub≤cnt n a.sub+d)∨∃ a b,W=[a,b]∧a.key=l.key∧a.ref=none∧b.ref=none∧3≤cnt n a.sub∧3≤cnt n b.sub
theorem Made.ne{n:Nat}{l}{d:Nat}{W}(h:Made n l d W):W≠[]:=by
 rcases h with⟨a,rfl,_⟩|⟨a,b,rfl,_⟩<;>simp
theorem Made.meas{n:Nat}{l}{d:Nat}{W}(h:Made n l d W)(c:∀ w∈W,w.key.size<=8):meas qA2 W<=qA2 l+19:=by
 rcases h with⟨a,rfl,e,_⟩|⟨a,b,rfl,e,_⟩
 .simp[YtdohpenfkdckiaaGreatDoor.meas,qA2,e]
 .have:=c b sM;simp[YtdohpenfkdckiaaGreatDoor.meas,qA2,e];omega
theorem zB7:∀ (n:Nat) (l) (p),Good n l.key l.sub->qC6 p->kl p.k l.key=false->l.key.size<=8->1<=cnt n l.sub->
  Row0 n l.key (qD8 n l p)/\(qD8 n l p).flatMap (λl=>cont n l.sub)=ins p (cont n l.sub)/\Made n l 0 (qD8 n l p)
 | 0,l,p,h,hp,hk,hz,C=>by
  have y:=h.sorted;have e:qH4 p l.sub=ins p l.sub:=(qT3 y p).symm;have r:=zP5 p y;have ab:ρ p<=21:=by obtain⟨C,D,h3⟩:=hp;unfold ρ;omega
  obtain⟨X,Y,Z⟩:=qZ5 (lo:=l.key) (ps:=ins p l.sub) (y.ins p) (λq c=>by
   rcases zG1 c with rfl|c
   .exact⟨hp,hk⟩
   .exact h.all q c) (by have:=h.fits;omega) hz
  show Row0 0 l.key (qD5 l.key (qH4 p l.sub))/\List.flatMap _ (qD5 l.key (qH4 p l.sub))=_/\Made 0 l 0 (qD5 l.key (qH4 p l.sub));rw[e];refine⟨X,Y,?_⟩;rcases Z with⟨a,d,j,o,i⟩|⟨a,b,d,j,o,i,t,u⟩
  .refine .inl ⟨a,d,j,o,?_⟩;rw[i];exact jS7 p y
  .exact .inr ⟨a,b,d,j,o,i,t,u⟩
 | n+1,l,p,h,hp,hk,hz,C=>by
  have G:Row0 n l.key l.sub:=⟨h.head,λm r=>⟨(h.all m r).1,(h.all m r).2.2⟩,h.pair⟩;obtain⟨A,m,B,e,E,Q,T,F⟩:=zB6 (k:=p.k) G (by intro e;have D:1<=List.length (α:=Lnk (Tn n)) l.sub:=C;rw[e] at D;simp at D) hk;have v:=λx g=>h.all x (by rw[e];exact g);have r:=v m sM;obtain⟨w1,J,z⟩:=zB7 n m p r.1 hp Q r.2.2 oM;have I:∀ w∈qD8 n m p,3<=cnt n w.sub:=by
   rcases z with⟨a,d,_,_,i⟩|⟨a,b,d,_,_,_,t,u⟩
   .rw[d];intro w f;rw[mS f];omega
   .rw[d];intro w f;simp only[mC,lN,or_false] at f;rcases f with rfl|rfl<;>assumption
  have H:Row0 n l.key (A++m::B):=by rw[<-e];exact G
  have U:=λw f q c=>by
   have:q∈(qD8 n m p).flatMap (λl=>cont n l.sub):=List.mem_flatMap.2 ⟨w,f,c⟩;rw[J] at this;exact zG1 this
  have S:=pA H.pair;have V:=zH2 H w1 z.ne (λw f=>by have:=I w f;omega) (λw f q c b s=>by
   rcases U w f q c with rfl|c
   .exact F b s
   .exact ((pC S.2.1).1 b s).2 q c)
  have aa:=z.meas (λw f=>(w1.all w f).2);have O:meas qA2 (A++m::B)<=126:=by have:=h.fits;rw[e] at this;exact this
  have R:meas qA2 (A++qD8 n m p++B)<=210:=by
   rw[qD7,qD7];rw[qD7,qC1] at O;omega
  have P:(η l.sub)[qA6 (η l.sub) p.k]?=some m:=by rw[show qA6 (η l.sub) p.k=A.length from E.symm,show η l.sub=A++m::B from e];simp
  have W:(η l.sub).take (qA6 (η l.sub) p.k)=A:=by rw[show qA6 (η l.sub) p.k=A.length from E.symm,show η l.sub=A++m::B from e];simp
  have N:(η l.sub).drop (qA6 (η l.sub) p.k+1)=B:=by
   rw[show qA6 (η l.sub) p.k=A.length from E.symm,show η l.sub=(A++[m])++B by rw[show η l.sub=A++m::B from e];simp];exact List.drop_left' sM
  have f:qD8 (n+1) l p=qC4 n l.key (A++qD8 n m p++B):=by
   show (match (η l.sub)[qA6 (η l.sub) p.k]? with
    | some m=>qC4 n l.key ((η l.sub).take (qA6 (η l.sub) p.k)++qD8 n m p++(η l.sub).drop (qA6 (η l.sub) p.k+1))
    | none=>[])=_
   rw[P,W,N]
  rw[f];obtain⟨K,L,M⟩:=zK6 V (λx g=>by
   simp only[List.mem_append] at g;rcases g with (g|g)|g
   .exact (v x (by simp[g])).2.1
   .exact I x g
   .exact (v x (by simp[g])).2.1) R hz
  refine⟨K,?_,?_⟩
  .rw[L];show _=ins p (List.flatMap (λl:Lnk (Tn n)=>cont n l.sub) l.sub);rw[e];simp only[fA,J,fC];rw[<-aA,jS8 (λq c=>by obtain⟨a,ha,c⟩:=mF c;exact T a ha q c) (λq c=>by
    obtain⟨b,s,c⟩:=mF c;exact qN6 (F b s) ((qK9 n b.key b.sub (v b (by simp[s])).1).2 q c).2)]
  .rcases M with⟨a,d,j,o,i⟩|⟨a,b,d,j,o,i,t,u⟩
   .refine .inl ⟨a,d,j,o,?_⟩;rw[i];show List.length (α:=Lnk (Tn n)) l.sub<=List.length (α:=Lnk (Tn n)) (A++qD8 n m p++B);rw[e];have:1<=(qD8 n m p).length:=by
     rcases z with⟨a,d,_⟩|⟨a,b,d,_⟩<;>rw[d]<;>simp
    simp;omega
   .exact .inr ⟨a,b,d,j,o,i,t,u⟩
theorem jU5:∀ (n:Nat) (a b),Good n a.key a.sub->Good n b.key b.sub->qQ2 n a b->(cnt n a.sub<=2\/cnt n b.sub<=2)->a.key.size<=8->3<=cnt n a.sub+cnt n b.sub->1<=cnt n a.sub->
  Row0 n a.key (qG2 n a.key a.sub b.sub)/\(qG2 n a.key a.sub b.sub).flatMap (λl=>cont n l.sub)=cont n a.sub++cont n b.sub/\(∀ w∈qG2 n a.key a.sub b.sub,3<=cnt n w.sub)/\qG2 n a.key a.sub b.sub≠[]/\meas qA2 (qG2 n a.key a.sub b.sub)<=qA2 a+19
 | 0,a,b,ha,hb,hab,hc,hz,k,t=>by
  have P:Sorted (prs a.sub++prs b.sub):=Sorted.append.2 ⟨ha.sorted,hb.sorted,λx i y D=>qN6 (hab.2 x i) (hb.all y D).2⟩;have G:∀ p∈prs a.sub++prs b.sub,qC6 p/\kl p.k a.key=false:=λp f=>by
   rcases mA f with f|f
   .exact ha.all p f
   .exact⟨(hb.all p f).1,xE6 (qP4 hab.1) (hb.all p f).2⟩
  have v:∀ p∈prs a.sub++prs b.sub,ρ p<=21:=λp f=>by obtain⟨⟨t,F,k⟩,_⟩:=G p f;unfold ρ;omega
  have o:meas ρ (prs a.sub++prs b.sub)<=210:=by
   rw[qD7];have t:=qN7 ρ 21 (prs a.sub) λp f=>v p (List.mem_append_left _ f);have F:=qN7 ρ 21 (prs b.sub) λp f=>v p (List.mem_append_right _ f);have k:meas ρ (prs a.sub)<=126:=ha.fits;have A:meas ρ (prs b.sub)<=126:=hb.fits;have L:(prs a.sub).length<=2\/(prs b.sub).length<=2:=hc;omega
  obtain⟨z,E,j⟩:=qZ5 P G o hz;refine⟨z,E,?_,?_,?_⟩
  .intro w g;rw[show qG2 0 a.key a.sub b.sub=qD5 a.key (prs a.sub++prs b.sub) from rfl] at g;rcases j with⟨x,c,h,C,s⟩|⟨x,y,c,h,C,s,J,K⟩
   .rw[c] at g;rw[mS g,s];show 3<=(prs a.sub++prs b.sub).length;rw[lA];exact k
   .rw[c] at g;simp only[mC,lN,or_false] at g;rcases g with rfl|rfl<;>assumption
  .show qD5 a.key (prs a.sub++prs b.sub)≠[];rcases j with⟨x,c,_⟩|⟨x,y,c,_⟩<;>rw[c]<;>simp
  .show meas qA2 (qD5 a.key (prs a.sub++prs b.sub))<=_;rcases j with⟨x,c,h,_⟩|⟨x,y,c,h,_⟩
   .rw[c];simp[meas,qA2,h]
   .have:=(z.all y (by rw[c];simp)).2;rw[c];simp[meas,qA2,h];omega
 | n+1,a,b,ha,hb,hab,hc,hz,k,t=>by
  have u:∀ l∈η a.sub++η b.sub,Good n l.key l.sub/\3<=cnt n l.sub/\l.key.size<=8:=λl d=>by
   rcases mA d with d|d
   .exact ha.all l d
   .exact hb.all l d
  have N:=λl d=>(Row0.keys (W:=η b.sub) ⟨hb.head,λm o=>⟨(hb.all m o).1,(hb.all m o).2.2⟩,hb.pair⟩) l d;have M:η a.sub≠[]:=λe=>by
   have A:1<=(η a.sub).length:=t;rw[e] at A;simp at A
  have O:Row0 n a.key (η a.sub++η b.sub):=by
   refine⟨?_,λl d=>⟨(u l d).1,(u l d).2.2⟩,List.pairwise_append.2 ⟨ha.pair,hb.pair,?_⟩⟩
   .intro l d;rw[List.head?_append] at d
    cases i:η a.sub with
    | nil=>exact absurd i M
    | cons x r=>
     rw[i] at d;exact ha.head l (by show l∈(η a.sub).head?;rw[i];simpa using d)
   .intro x i y D;have I:=u x (List.mem_append_left _ i);have H:=λq B=>qN6 (hab.2 q (List.mem_flatMap.2 ⟨x,i,B⟩)) (N y D);obtain⟨q,B⟩:=zD4 n x.key x.sub I.1 oM;exact⟨qZ1 ((qK9 n x.key x.sub I.1).2 q B).2 (H q B),H⟩
  have v:∀ l∈η a.sub++η b.sub,qA2 l<=21:=λl d=>by have:=(u l d).2.2;unfold qA2;omega
  have o:meas qA2 (η a.sub++η b.sub)<=210:=by
   rw[qD7];have t:=qN7 qA2 21 (η a.sub) λp f=>v p (List.mem_append_left _ f);have F:=qN7 qA2 21 (η b.sub) λp f=>v p (List.mem_append_right _ f);have k:meas qA2 (η a.sub)<=126:=ha.fits;have A:meas qA2 (η b.sub)<=126:=hb.fits;have L:(η a.sub).length<=2\/(η b.sub).length<=2:=hc;omega
  obtain⟨z,E,j⟩:=zK6 O (λl d=>(u l d).2.1) o hz;refine⟨z,?_,?_,?_,?_⟩
  .refine Eq.trans E ?_;rw[fA];rfl
  .intro w g;rw[show qG2 (n+1) a.key a.sub b.sub=qC4 n a.key (η a.sub++η b.sub) from rfl] at g;rcases j with⟨x,c,h,C,s⟩|⟨x,y,c,h,C,s,J,K⟩
   .rw[c] at g;rw[mS g,s];show 3<=(η a.sub++η b.sub).length;rw[lA];exact k
   .rw[c] at g;simp only[mC,lN,or_false] at g;rcases g with rfl|rfl<;>assumption
  .show qC4 n a.key (η a.sub++η b.sub)≠[];rcases j with⟨x,c,_⟩|⟨x,y,c,_⟩<;>rw[c]<;>simp
  .show meas qA2 (qC4 n a.key (η a.sub++η b.sub))<=_;rcases j with⟨x,c,h,_⟩|⟨x,y,c,h,_⟩
   .rw[c];simp[meas,qA2,h]
   .have:=(z.all y (by rw[c];simp)).2;rw[c];simp[meas,qA2,h];omega
theorem Row0.drop_one{n:Nat}{lo}{P Q}{a b}(h:Row0 n lo (P++a::b::Q)):Row0 n lo (P++a::Q):=
 ⟨λl c=>h.head l (by cases P<;>simpa using c),λl c=>h.all l (by
  rcases mA c with c|c
  .simp[c]
  .rcases List.mem_cons.1 c with rfl|c
   .simp
   .simp[c]),h.pair.sublist (List.Sublist.append_left (List.Sublist.cons_cons _ (List.sublist_cons_self _ _)) _)⟩
theorem xI8{n:Nat}{lo}{P Q}{a b}(h:Row0 n lo (P++a::b::Q))(r:∀ x∈P,3<=cnt n x.sub)(s:∀ x∈Q,3<=cnt n x.sub)(t:cnt n a.sub<=2\/cnt n b.sub<=2)(p:3<=cnt n a.sub+cnt n b.sub)(o:1<=cnt n a.sub):
  Row0 n lo (P++qG2 n a.key a.sub b.sub++Q)/\(P++qG2 n a.key a.sub b.sub++Q).flatMap (λl=>cont n l.sub)=(P++a::b::Q).flatMap (λl=>cont n l.sub)/\(∀ x∈P++qG2 n a.key a.sub b.sub++Q,3<=cnt n x.sub)/\
  (P++a::b::Q).length<=(P++qG2 n a.key a.sub b.sub++Q).length+1/\meas qA2 (P++qG2 n a.key a.sub b.sub++Q)<=meas qA2 (P++a::b::Q)+19:=by
 have u:=pA h.pair;have e:=pC u.2.1;have v:=pC e.2;have g:=h.all a sM;have m:=h.all b sM;obtain⟨y,i,j,k,z⟩:=jU5 n a b g.1 m.1 (e.1 b sM) t g.2 p o;refine⟨zH2 h.drop_one y k (λw f=>by have:=j w f;omega) ?_,?_,?_,?_,?_⟩
 .intro w f q d x c;have:q∈(qG2 n a.key a.sub b.sub).flatMap (λl=>cont n l.sub):=List.mem_flatMap.2 ⟨w,f,d⟩;rw[i] at this;rcases mA this with d|d
  .exact (e.1 x (by simp[c])).2 q d
  .exact (v.1 x c).2 q d
 .simp only[fA,fC,i,aA]
 .intro x c;simp only[List.mem_append] at c;rcases c with (c|c)|c
  .exact r x c
  .exact j x c
  .exact s x c
 .have:1<=(qG2 n a.key a.sub b.sub).length:=List.length_pos_iff.2 k;simp;omega
 .simp only[qD7,qC1];omega
theorem xI9{n:Nat}{lo}{A W B}{m}(h:Row0 n lo (A++W++B))(f:∀ x∈A,3<=cnt n x.sub)(g:∀ x∈B,3<=cnt n x.sub)(o:Made n m 1 W)(E:3<=cnt n m.sub)(v:2<=(A++W++B).length):
  Row0 n lo (qC2 n (A++W++B) A.length)/\(qC2 n (A++W++B) A.length).flatMap (λl=>cont n l.sub)=(A++W++B).flatMap (λl=>cont n l.sub)/\(∀ x∈qC2 n (A++W++B) A.length,3<=cnt n x.sub)/\
  (A++W++B).length<=(qC2 n (A++W++B) A.length).length+1/\meas qA2 (qC2 n (A++W++B) A.length)<=meas qA2 (A++W++B)+19:=by
 have k:(∀ x∈W,3<=cnt n x.sub)->Row0 n lo (qC2 n (A++W++B) A.length)/\(qC2 n (A++W++B) A.length).flatMap (λl=>cont n l.sub)=(A++W++B).flatMap (λl=>cont n l.sub)/\(∀ x∈qC2 n (A++W++B) A.length,3<=cnt n x.sub)/\
  (A++W++B).length<=(qC2 n (A++W++B) A.length).length+1/\meas qA2 (qC2 n (A++W++B) A.length)<=meas qA2 (A++W++B)+19:=by
  intro d;have e:qC2 n (A++W++B) A.length=A++W++B:=by
   obtain⟨a,r,rfl⟩:∃ a r,W=a::r:=by
    rcases o with⟨a,rfl,_⟩|⟨a,b,rfl,_⟩
    .exact⟨a,[],rfl⟩
    .exact⟨a,[b],rfl⟩
   have:(A++a::r++B)[A.length]?=some a:=sM
   unfold qC2;rw[this];simp[d a sM]
  rw[e];refine⟨h,rfl,?_,oM,oM⟩;intro x c;simp only[List.mem_append] at c;rcases c with (c|c)|c
  .exact f x c
  .exact d x c
  .exact g x c
 rcases o with⟨a,rfl,q,s,t⟩|⟨a,b,rfl,q,s,t,z,C⟩
 .by_cases d:3<=cnt n a.sub
  .exact k (λx c=>by rw[mS c];exact d)
  .clear k;have i:(A++[a]++B)[A.length]?=some a:=sM
   cases B with
   | cons b Q=>
    have j:min A.length ((A++[a]++b::Q).length-2)=A.length:=sO
    have u:(A++[a]++b::Q)[A.length+1]?=some b:=by
     rw[show A++[a]++b::Q=(A++[a])++b::Q from rfl,List.getElem?_append_right sM];simp
    have e:qC2 n (A++[a]++b::Q) A.length=A++qG2 n a.key a.sub b.sub++Q:=by
     unfold qC2;rw[i];simp only[d,if_false,j,i,u]
     congr 2
     .simp
     .rw[show A++[a]++b::Q=(A++[a,b])++Q by simp];exact List.drop_left' sM
    rw[e];have D:=g b sM;have:=xI8 (P:=A) (Q:=Q) (a:=a) (b:=b) (lo:=lo) (by simpa using h) f (λx c=>g x (by simp[c])) (.inl oM) oM oM;simpa using this
   | nil=>
    rcases List.eq_nil_or_concat A with rfl|⟨P,p,rfl⟩
    .simp at v
    .rw[List.concat_eq_append] at *;have j:min (P++[p]).length ((P++[p]++[a]++[]).length-2)=P.length:=sM
     have w:(P++[p]++[a]++[])[P.length]?=some p:=sM
     have y:(P++[p]++[a]++[])[P.length+1]?=some a:=sM
     have e:qC2 n (P++[p]++[a]++[]) (P++[p]).length=P++qG2 n p.key p.sub a.sub++[]:=by
      unfold qC2;rw[i];simp only[d,if_false,j,w,y]
      congr 2
      .simp
      .simp
     rw[e];have F:=f p sM;have:=xI8 (P:=P) (Q:=[]) (a:=p) (b:=a) (lo:=lo) (by simpa using h) (λx c=>f x (by simp[c])) sM (.inr oM) oM oM;simpa using this
 .exact k (λx c=>by
   simp only[mC,lN,or_false] at c;rcases c with rfl|rfl<;>assumption)
theorem qX4:∀ (n:Nat) (l) (k),Good n l.key l.sub->kl k l.key=false->l.key.size<=8->(∃ q∈cont n l.sub,q.k=k)->min n 1<cnt n l.sub->
  Row0 n l.key (qC3 n l k)/\(qC3 n l k).flatMap (λl=>cont n l.sub)=del k (cont n l.sub)/\Made n l 1 (qC3 n l k)
 | 0,l,k,h,hk,hz,c,D=>by
  have G:Sorted (prs l.sub):=h.sorted;have H:=(zM8 G k).2 c;have e:=(xA3 G H).symm;have p:meas ρ (del k (prs l.sub))<=126:=by
   rw[<-e,qD7];have D:=qN8 ρ (prs l.sub) (qB0 (prs l.sub) k);have s:=qN8 ρ ((prs l.sub).drop (qB0 (prs l.sub) k)) 1;have E:meas ρ (prs l.sub)<=126:=h.fits;rw[List.drop_drop] at s;omega
  obtain⟨r1,r2,r3⟩:=qZ5 (lo:=l.key) (ps:=del k (prs l.sub)) (G.del k) (λq c=>h.all q (zG0.1 c).1) oM hz;have i:qC3 0 l k=qD5 l.key (del k (prs l.sub)):=by rw[<-e];rfl
  rw[i];refine⟨r1,r2,?_⟩;rcases r3 with⟨a,f,i,o,j⟩|⟨a,b,f,i,o,j,u,v⟩
  .refine .inl ⟨a,f,i,o,?_⟩;rw[j];show (prs l.sub).length<=(del k (prs l.sub)).length+1;rw[<-e];simp;omega
  .exact .inr ⟨a,b,f,i,o,j,u,v⟩
 | n+1,l,k,h,hk,hz,c,D=>by
  have s:1<(η l.sub).length:=by have s:min (n+1) 1<(η l.sub).length:=D;omega
  have K:Row0 n l.key (η l.sub):=⟨h.head,λm p=>⟨(h.all m p).1,(h.all m p).2.2⟩,h.pair⟩;obtain⟨A,m,B,e,y,W,I,Y⟩:=zB6 (k:=k) K (by intro e;rw[e] at s;simp at s) hk;have z:=λx d=>h.all x (by show x∈η l.sub;rw[e];exact d);have p:=z m sM;have J:=λb r q c=>qN6 (Y b r) ((qK9 n b.key b.sub (z b (by simp[r])).1).2 q c).2;have Z:∃ q∈cont n m.sub,q.k=k:=by
   obtain⟨q,c,C⟩:=c;have c:q∈(η l.sub).flatMap (λl=>cont n l.sub):=c;rw[e] at c;obtain⟨x,d,F⟩:=mF c;rcases mA d with d|d
   .exact absurd C (qI9 (I x d q F))
   .rcases List.mem_cons.1 d with rfl|d
    .exact⟨q,F,C⟩
    .exact absurd C.symm (qI9 (J x d q F))
  obtain⟨w1,M,t⟩:=qX4 n m k p.1 W p.2.2 Z oM;have ab:∀ w∈qC3 n m k,1<=cnt n w.sub:=by
   rcases t with⟨a,f,_,_,j⟩|⟨a,b,f,_,_,_,u,v⟩
   .rw[f];intro w g;rw[mS g];omega
   .rw[f];intro w g;simp only[mC,lN,or_false] at g;rcases g with rfl|rfl<;>omega
  have L:Row0 n l.key (A++m::B):=by rw[<-e];exact K
  have X:=pA L.pair;have H:=zH2 L w1 t.ne ab (λw g q c b r=>by
   have:q∈(qC3 n m k).flatMap (λl=>cont n l.sub):=List.mem_flatMap.2 ⟨w,g,c⟩;rw[M] at this;exact ((pC X.2.1).1 b r).2 q (zG0.1 this).1)
  have ae:=t.meas (λw g=>(w1.all w g).2);have U:meas qA2 (A++m::B)<=126:=by have E:meas qA2 (η l.sub)<=126:=h.fits;rw[e] at E;exact E
  have af:meas qA2 (A++qC3 n m k++B)<=145:=by
   rw[qD7,qD7];rw[qD7,qC1] at U;omega
  have ac:1<=(qC3 n m k).length:=List.length_pos_iff.2 t.ne;have ad:(η l.sub).length<=(A++qC3 n m k++B).length:=by rw[e];simp;omega
  obtain⟨Q,R,S,d4,d5⟩:=xI9 (m:=m) H (λx d=>(z x (by simp[d])).2.1) (λx d=>(z x (by simp[d])).2.1) t p.2.1 oM;have g:qC3 (n+1) l k=qC4 n l.key (qC2 n (A++qC3 n m k++B) A.length):=by
   have V:(η l.sub)[qA6 (η l.sub) k]?=some m:=by rw[<-y,e];simp
   have aa:(η l.sub).take (qA6 (η l.sub) k)=A:=by rw[<-y,e];simp
   have T:(η l.sub).drop (qA6 (η l.sub) k+1)=B:=by
    rw[<-y,e,show A++m::B=(A++[m])++B by simp];exact List.drop_left' sM
   show (match (η l.sub)[qA6 (η l.sub) k]? with
    | some m=>qC4 n l.key (qC2 n ((η l.sub).take (qA6 (η l.sub) k)++qC3 n m k++(η l.sub).drop (qA6 (η l.sub) k+1)) (qA6 (η l.sub) k))
    | none=>[])=_
   rw[V,aa,T,y]
  rw[g];obtain⟨N,O,P⟩:=zK6 Q S oM hz;refine⟨N,?_,?_⟩
  .rw[O,R];show _=del k ((η l.sub).flatMap (λl=>cont n l.sub));rw[e];simp only[fA,M,fC];rw[<-aA,jJ0 (λq c=>by obtain⟨a,ha,c⟩:=mF c;exact I a ha q c) (λq c=>by
    obtain⟨b,r,c⟩:=mF c;exact J b r q c)]
  .rcases P with⟨a,f,i,o,j⟩|⟨a,b,f,i,o,j,u,v⟩
   .refine .inl ⟨a,f,i,o,?_⟩;rw[j];show (η l.sub).length<=(qC2 n (A++qC3 n m k++B) A.length).length+1;omega
   .exact .inr ⟨a,b,f,i,o,j,u,v⟩
def RGood:Root→Prop
 | .none=>True
 | .at n l=>l.key=⟨#[]⟩∧Good n l.key l.sub∧min n 1<cnt n l.sub
theorem zT6{n:Nat}{l}{d:Nat}{W}(i:l.key=⟨#[]⟩)(f:Row0 n l.key W)(u:Made n l d W)(v:min n 1<cnt n l.sub)(C:d<=1):
  RGood (qE0 n W)/\(qE0 n W).cont=W.flatMap (λl=>cont n l.sub):=by
 rcases u with⟨a,rfl,g,t,o⟩|⟨a,b,rfl,g,t,o,w,z⟩
 .have h:=f.all a sM;have e:qE0 n [a]=qN0 n a:=rfl;rw[e]
  cases n with
  | zero=>
   have k:[a].flatMap (λl=>cont 0 l.sub)=prs a.sub:=aN _;rw[k];show RGood (match prs a.sub with | []=>.none | _::_=>.at 0 a)/\Root.cont (match prs a.sub with | []=>.none | _::_=>.at 0 a)=_
   cases hp:prs a.sub with
   | nil=>exact⟨trivial,rfl⟩
   | cons x r=>
    refine⟨⟨by rw[g,i],h.1,?_⟩,hp⟩;show 0<(prs a.sub).length;rw[hp];simp
  | succ n=>
   have k:[a].flatMap (λl=>cont (n+1) l.sub)=(η a.sub).flatMap λl=>cont n l.sub:=aN _;rw[k];have q:(η l.sub).length<=(η a.sub).length+d:=o;have B:1<(η l.sub).length:=by have j:min (n+1) 1<(η l.sub).length:=v;omega
   show RGood (match η a.sub with | []=>.none | [m]=>.at n m | _::_::_=>.at (n+1) a)/\Root.cont (match η a.sub with | []=>.none | [m]=>.at n m | _::_::_=>.at (n+1) a)=_
   cases hp:η a.sub with
   | nil=>rw[hp] at q;simp at q;omega
   | cons x r=>
    cases r with
    | nil=>
     have p:=h.1.all x (by show x∈η a.sub;rw[hp];simp);have c:=h.1.head x (by show x∈(η a.sub).head?;rw[hp];simp);refine⟨⟨by rw[c,g,i],p.1,by have:=p.2.1;omega⟩,(aN _).symm⟩
    | cons y r=>
     refine⟨⟨by rw[g,i],h.1,?_⟩,?_⟩
     .show min (n+1) 1<(η a.sub).length;rw[hp];simp
     .show (η a.sub).flatMap (λl=>cont n l.sub)=_;rw[hp]
 .have A:=f.all b sM;have j:meas qA2 [a,b]<=126:=by
   have:=(f.all a sM).2;simp[meas,qA2];omega
  have e:qC4 n ⟨#[]⟩ [a,b]=[⟨⟨#[]⟩,none,[a,b]⟩]:=by
   unfold qC4 qB7;rw[if_pos j];rfl
  have s:qE0 n [a,b]=.at (n+1) ⟨⟨#[]⟩,none,[a,b]⟩:=by
   show (match qC4 n ⟨#[]⟩ [a,b] with | []=>Root.none | r::_=>qN0 (n+1) r)=_;rw[e];rfl
  rw[s];refine⟨⟨rfl,⟨?_,?_,f.pair,j⟩,?_⟩,rfl⟩
  .intro x c;have:x=a:=by simpa using c.symm
   rw[this,g,i]
  .intro x c;refine⟨(f.all x c).1,?_,(f.all x c).2⟩;have c:x∈[a,b]:=c;simp only[mC,lN,or_false] at c;rcases c with rfl|rfl<;>assumption
  .show min (n+1) 1<2;omega
theorem zR8{r}{p}(h:RGood r)(i:qC6 p):RGood (r.put p)/\(r.put p).cont=ins p r.cont:=by
 cases r with
 | none=>
  have t:Sorted [p]:=by simp[Sorted]
  have u:(⟨#[]⟩:ByteArray).size<=8:=dC
  obtain⟨v,w,x⟩:=qZ5 (lo:=⟨#[]⟩) (ps:=[p]) t (λq hq=>by rw[mS hq];exact⟨i,qN5 _⟩) (by obtain⟨c,j,k⟩:=i;simp[meas,ρ];omega) u;have s:Made 0 ⟨⟨#[]⟩,none,[p]⟩ 0 (qD5 ⟨#[]⟩ [p]):=by
   rcases x with⟨a,d,e,f,g⟩|⟨a,b,d,e,f,g,m,o⟩
   .exact .inl ⟨a,d,e,f,by rw[g];exact lR⟩
   .exact .inr ⟨a,b,d,e,f,g,m,o⟩
  have:=zT6 (n:=0) (l:=(⟨⟨#[]⟩,none,[p]⟩:Lnk (List KV))) rfl v s (by show 0<1;omega) oM;rw[w] at this;refine⟨this.1,this.2.trans ?_⟩;simp[ins,Root.cont]
 | «at» n l=>
  obtain⟨c,j,k⟩:=h;obtain⟨w1,y,z⟩:=zB7 n l p j i (by rw[c];exact qN5 _) (by rw[c];decide) oM;have:=zT6 c w1 z k oM;rw[y] at this;exact this
theorem xA2{r}{k}(h:RGood r):RGood (r.del k)/\(r.del k).cont=del k r.cont:=by
 cases r with
 | none=>exact⟨trivial,rfl⟩
 | «at» n l=>
  obtain⟨a,d,c⟩:=h;unfold Root.del;by_cases b:(cont n l.sub).any (λq=>decide (q.k=k))=true
  .simp only[b,if_true];have e:∃ q∈cont n l.sub,q.k=k:=by simpa using b
   obtain⟨w1,f,g⟩:=qX4 n l k d (by rw[a];exact qN5 _) (by rw[a];decide) e c;have:=zT6 a w1 g c oM;rw[f] at this;exact this
  .simp only[b];refine⟨⟨a,d,c⟩,?_⟩;have:∀ q∈cont n l.sub,q.k≠k:=by simpa using b
   exact (qY6 this).symm
def qB6:(n:Nat)→Tn n→Nat
 | 0,_=>1
 | n+1,ls=>1+meas (fun l:Lnk (Tn n)=>qB6 n l.sub) ls
def news:(n:Nat)→Lnk (Tn n)→Nat
 | 0,l=>if l.ref.isSome then 0 else 1
 | n+1,l=>if l.ref.isSome then 0 else 1+meas (fun m:Lnk (Tn n)=>news n m) (η l.sub)
def Root.news:Root→Nat
 | .none=>0
 | .at n l=>YtdohpenfkdckiaaGreatDoor.news n l
theorem zP6{α:Type}{f g:α->Nat}:∀ (l:List α),(∀ x∈l,f x<=g x)->meas f l<=meas g l
 | [],_=>lR
 | x::l,h=>by
  rw[qC1,qC1];have:=h x sM;have:=zP6 l λy a=>h y (by simp[a]);omega
theorem zQ0:∀ (n:Nat) (l),news n l<=qB6 n l.sub
 | 0,l=>by unfold news qB6;split<;>omega
 | n+1,l=>by
  unfold news qB6;split
  .omega
  .have:=zP6 (f:=λm:Lnk (Tn n)=>news n m) (g:=λm=>qB6 n m.sub) (η l.sub) λm _=>zQ0 n m;show 1+_<=1+meas _ (η l.sub);omega
theorem zA5:∀ (n:Nat) (lo) (t),Good n lo t->2*qB6 n t+cnt n t<=(cont n t).length+2
 | 0,lo,ps,h=>by show 2*1+(prs ps).length<=(prs ps).length+2;omega
 | n+1,lo,ls,h=>by
  have key:∀ (ls),(∀ l∈ls,Good n l.key l.sub/\3<=cnt n l.sub)->2*meas (λl:Lnk (Tn n)=>qB6 n l.sub) ls+ls.length<=(ls.flatMap λl=>cont n l.sub).length:=by
   intro ls
   induction ls with
   | nil=>intro _;simp[meas]
   | cons a ls ih=>
    intro c;have d:=ih λl b=>c l (by simp[b]);have e:=zA5 n a.key a.sub (c a sM).1;have f:=(c a sM).2;rw[qC1,fC,lA,lC];omega
  have:=key (η ls) λl b=>⟨(h.all l b).1,(h.all l b).2.1⟩;show 2*(1+meas _ (η ls))+(η ls).length<=((η ls).flatMap λl=>cont n l.sub).length+2;omega
theorem xH5:∀ (n:Nat) (lo) (t),Good n lo t->1<=cnt n t->n+1<=qB6 n t
 | 0,lo,ps,h,_=>by show 1<=1;omega
 | n+1,lo,ls,h,h1=>by
  have b:1<=(η ls).length:=h1;obtain⟨a,r,e⟩:∃ a r,η ls=a::r:=by
   cases hx:η ls with
   | nil=>rw[hx] at b;simp at b
   | cons a r=>exact⟨a,r,rfl⟩
  have c:=h.all a (by show a∈η ls;rw[e];simp);have:=xH5 n a.key a.sub c.1 oM;show n+1+1<=1+meas _ (η ls);rw[e,qC1];omega
theorem qW8{r}(h:RGood r):2*r.news<=r.cont.length+1:=by
 cases r with
 | none=>simp[Root.news]
 | «at» n l=>
  obtain⟨d,c,e⟩:=h;have a:=zA5 n l.key l.sub c;have b:=zQ0 n l;show 2*news n l<=(cont n l.sub).length+1;omega
theorem zS1{n:Nat}{l}(h:RGood (.at n l)):2*n<=(cont n l.sub).length:=by
 obtain⟨d,c,e⟩:=h;have a:=zA5 n l.key l.sub c;have b:=xH5 n l.key l.sub c oM;omega
theorem zH1{r}(h:RGood r):Sorted r.cont/\∀ q∈r.cont,qC6 q:=by
 cases r with
 | none=>exact⟨List.Pairwise.nil,λq a=>by cases a⟩
 | «at» n l=>
  obtain⟨c,b,d⟩:=h;exact⟨(qK9 n l.key l.sub b).1,λq a=>((qK9 n l.key l.sub b).2 q a).1⟩
def Up(f:ByteArray→Bool):Prop:=∀ a b,kl a b=true→f a=true→f b=true
def qR2(f:ByteArray→Bool):Prop:=∀ a b,kl a b=true→f b=true→f a=true
theorem xB5{l:List KV}{f:ByteArray->Bool}(h:∀ q∈l,f q.k=false):l.find? (λq=>f q.k)=none:=by
 rw[List.find?_eq_none];intro q a;simp[h q a]
theorem jN5{n:Nat}{lo}{f:ByteArray->Bool}(k:Up f){ls}(h:Row0 n lo ls):
  (ls.flatMap λl=>cont n l.sub).find? (λq=>f q.k)=((ls.drop (ls.findIdx (λl=>f l.key)-1)).flatMap λl=>cont n l.sub).find? (λq=>f q.k):=by
 by_cases g:ls.findIdx (λl=>f l.key)=0
 .simp[g]
 .obtain⟨i,m⟩:=eX (ls.findIdx (λl=>f l.key)-1);rw[<-m];have s:ls.findIdx (λl=>f l.key)<=ls.length:=fL;have o:i<ls.length:=oM
  have c:f (ls[i]).key=false:=by
   have:=List.not_of_lt_findIdx (p:=λl:Lnk (Tn n)=>f l.key) (xs:=ls) (i:=i) oM;simpa using this
  have d:=h.pair;rw[<-tD i ls,dG o] at d;have r:=(pA d).2.2
  conv=>lhs;rw[<-tD i ls,fA,List.find?_append]
  rw[xB5 λq b=>?_]
  .simp
  .obtain⟨a,j,b⟩:=mF b;have:=(r a j ls[i] (List.mem_cons_self ..)).2 q b;by_cases e:f q.k=true
   .rw[k _ _ this e] at c;cases c
   .simpa using e
def qF0(f:ByteArray→Bool)(l:List KV):Option KV:=l.reverse.find? (fun q=>f q.k)
theorem qT6(f:ByteArray->Bool)(a b):qF0 f (a++b)=(qF0 f b).or (qF0 f a):=by simp[qF0,List.find?_append]
theorem jX3{n:Nat}{lo}{f:ByteArray->Bool}(o:qR2 f){ls}(h:Row0 n lo ls):
  qF0 f (ls.flatMap λl=>cont n l.sub)=qF0 f ((ls.take (ls.findIdx (λl=>!f l.key)-1+1)).flatMap λl=>cont n l.sub):=by
 obtain⟨i,u⟩:=eX (ls.findIdx (λl=>!f l.key)-1+1);rw[<-u];have t:∀ q∈(ls.drop i).flatMap (λl=>cont n l.sub),f q.k=false:=by
  intro q d;obtain⟨b,c,d⟩:=mF d;have s:=h.all b (mD c);have y:=((qK9 n b.key b.sub s.1).2 q d).2;have j:f b.key=false:=by
   have k:ls.findIdx (λl=>!f l.key)<ls.length:=by
    by_cases v:ls.findIdx (λl=>!f l.key)<ls.length
    .exact v
    .rw[dL oM] at c;simp at c
   have a:f (ls[ls.findIdx (λl=>!f l.key)]).key=false:=by
    have a:=List.findIdx_getElem (p:=λl:Lnk (Tn n)=>!f l.key) (xs:=ls) (w:=k);simpa using a
   have r:=h.pair;rw[<-tD (ls.findIdx (λl=>!f l.key)) ls,dG k] at r;have x:=pC (pA r).2.1;have g:b∈ls.drop (ls.findIdx (λl=>!f l.key)):=by
    have e:i=ls.findIdx (λl=>!f l.key)+(i-ls.findIdx (λl=>!f l.key)):=oM
    rw[e,<-List.drop_drop] at c;exact mD c
   rw[dG k] at g;rcases List.mem_cons.1 g with rfl|g
   .exact a
   .by_cases e:f b.key=true
    .rw[o _ _ (x.1 b g).1 e] at a;cases a
    .simpa using e
  by_cases e:f q.k=true
  .by_cases m:kl b.key q.k=true
   .rw[o _ _ m e] at j;cases j
   .rw[qZ2 y (by simpa using m)] at e;rw[e] at j;cases j
  .simpa using e
 conv=>lhs;rw[<-tD i ls,fA,qT6]
 have:qF0 f ((ls.drop i).flatMap λl=>cont n l.sub)=none:=by
  unfold qF0;exact xB5 λq d=>t q (List.mem_reverse.1 d)
 rw[this];simp
theorem xO3(g:Nat)(cap)(n:Nat)(P:Nat->Bool)(w)(A:n<=1000000)(l:∀ i j,i<=j->j<n->P i=true->P j=true)
  (v:∀ (args) (W),Sem.run prog (callFunc g args) W=.ok (.enter g args) W)
  (d:∀ W,Kp [] w W->∀ i:Nat,i<n->Calls prog g (#[.int .i64 i]++cap) W λe W'=>e=.returned (.bool (P i))/\Kp [] W W'):
  Calls prog 213 #[.int .i64 n,.func (.func g) #[] cap] w λe u=>∃ i:Nat,e=.returned (.int .i64 i)/\(i<=n/\(∀ j,j<i->P j=false)/\(i<n->P i=true))/\Kp [] w u:=by
 have m:=zh d;have o:=zh l;clear d l;go_enter func213,ntmps213;go_wp2
 go_loopw [5,6] (λs q wr=>∃ (i j:Nat),i<=j/\j<=n/\s=.int .i64 i/\q=.int .i64 j/\Hid ((∀ k,k<i->P k=false)/\(j<n->P j=true))/\Kp [] w wr) (λs q _=>(intOf q-intOf s).toNat)
 case atStart=>exact⟨0,n,oM,lR,rfl,rfl,⟨λk t=>by omega,λh=>by omega⟩,Kp.refl _ _⟩
 case round=>
  obtain⟨i,j,x,y,rfl,rfl,a,hK⟩:=hrel;by_cases z:i<j
  .obtain⟨h,r⟩:∃ h:Nat,((i:Int)+j) / 2=h:=⟨(i+j) / 2,oM⟩;go_wp2_with fail
   try simp only[r]
   refine (m wr hK h oM).mono ?_;rintro e w1 ⟨rfl,p⟩;have c:=hK.tr p;by_cases b:P h=true
   .rw[b];go_wp2;refine⟨⟨i,h,oM,oM,rfl,rfl,⟨a.out.1,λ_=>b⟩,c⟩,by simp[intOf];omega⟩
   .have f:P h=false:=by simpa using b
    rw[f];go_wp2;refine⟨⟨h+1,j,oM,oM,by go_num,rfl,⟨λk t=>?_,a.out.2⟩,c⟩,by simp[intOf];omega⟩;by_cases e:P k=true
    .have:=o.out k h oM oM e;rw[f] at this;cases this
    .simpa using e
  .go_wp2;go_ret;have e:j=i:=oM
   subst e;exact⟨j,rfl,⟨oM,a.out.1,a.out.2⟩,hK⟩
theorem xD6{α:Type}{xs:List α}{f:α->Bool}{i:Nat}(d:i<=xs.length)(b:∀ j (h:j<xs.length),j<i->f xs[j]=false)(c:∀ h:i<xs.length,f xs[i]=true):i=xs.findIdx f:=by
 rcases Nat.lt_trichotomy i (xs.findIdx f) with h|h|h
 .have e:xs.findIdx f<=xs.length:=fL;have:=List.not_of_lt_findIdx (p:=f) (xs:=xs) h;rw[c oM] at this;simp at this
 .exact h
 .have a:xs.findIdx f<xs.length:=oM
  have:=List.findIdx_getElem (p:=f) (xs:=xs) (w:=a);rw[b _ a h] at this;cases this
theorem kM0(s)(w)(y:s.size<=1000000):
  Calls prog 119 #[.string s] w λe D=>e=.returned (.string s)/\Kp [] w D:=by
 by_cases a:s.size=0
 .have z:s=⟨#[]⟩:=by
   apply ByteArray.ext;exact Array.eq_empty_of_size_eq_zero a
  subst z;clear a y;go_enter func119,ntmps119;go_wp2;go_ret;exact⟨rfl,Kp.refl _ _⟩
 .obtain⟨o,l,B,n,C⟩:=info_parts Tryz.info5;have v:(prog.info? 5).map (·.size)=some 1:=by rw[l];simp[n]
  have t:prog.cellsOf 5=1:=kR
  obtain⟨M,b⟩:=eX (madeCells (Value.int .u8 0).cells (((s.size:Nat):Int).toNat*o.size));have E:M.size=s.size:=by rw[b,size_madeCells,n];simp
  have H:∀ W:World,(Instr.makeSlice 118 (ϊ (s.size:Int)) (ϊ (s.size:Int))).run prog W=.ok (.slice (some ⟨W.heap.size,0,none⟩) s.size s.size) (W.alloc (.cells M 5)):=λW=>by
   have h:=run_make (P:=prog) W 118 5 o (.int .u8 0) underlying118 l B .i64 .i64 (s.size:Int) (s.size:Int) oM oM (by rw[C];omega) oM;rw[<-b] at h;simpa using h
  clear b;have u:=Lib.run_copy_row_string (P:=prog) (w.alloc (.cells M 5)) 118 9 3 5 w.heap.size 0 s.size s.size s M 5 underlying118 v (heap_alloc_new w _) lR oM;obtain⟨Y,c⟩:=eX ((M.toList.take 0++Lib.byteCells s.data.toList++M.toList.drop (0+s.size)).toArray);rw[<-c] at u;have d:Y.toList=Lib.byteCells s.data.toList:=by
   rw[c,List.toList_toArray,List.take_zero,nA,dL (by rw[Array.length_toList];omega),aN]
  have F:Y.size=s.size:=by rw[<-Array.length_toList,d,Lib.byteCells_length,<-Lib.size_eq]
  have f:((w.alloc (.cells M 5)).setRow w.heap.size Y).heap[w.heap.size]?=some (.cells Y 5 (0,0)):=setRow_heap _ _ M _ 5 (0,0) (heap_alloc_new w _);have m:s.data.toList≠[]:=λe=>a (by rw[Lib.size_eq,e];rfl);have r:=Lib.run_unsafeString_row (P:=prog) ((w.alloc (.cells M 5)).setRow w.heap.size Y) 261 3 9 5 underlying261 t w.heap.size Y.size (by unfold World.shape?;rw[f]) s.data.toList m (by rw[<-Lib.size_eq];omega) (by rw[<-Lib.size_eq];omega)
   (λj x A=>Lib.cells_of_row f Y.size j _ (by rw[tL (by rw[Array.length_toList];exact lR),d];simp[Lib.byteCells,A]))
  rw[<-Lib.size_eq] at r;clear c;have g:Below w.heap.size w (w.alloc (.cells M 5)):=(Below.refl _ w).alloc lR _;have i:Below w.heap.size (w.alloc (.cells M 5)) ((w.alloc (.cells M 5)).setRow w.heap.size Y):=⟨rfl,rfl,rfl,sM,λk G=>setRow_other _ _ _ _ oM⟩;have q:=zh (g.trans i);clear g i f m d;go_enter func119,ntmps119;go_wp2;go_ret;exact⟨rfl,Kp.of_below (Lib.below_freeze q (p:=⟨w.heap.size,0,none⟩) lR _) lR⟩
theorem qY3(s)(w)(b:s.size<=1000000):
  Calls prog 75 #[.string s] w λe c=>e=.returned (.string s)/\Kp [] w c:=by
 go_enter func75,ntmps75;go_wp2_with fail;refine (kM0 s w b).mono ?_;rintro e w1 ⟨rfl,a⟩;go_wp2;go_ret;exact⟨rfl,a⟩
end Go.Proofs.YtdohpenfkdckiaaGreatDoor
