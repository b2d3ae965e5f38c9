import Derived.Deep.RegionHeld
import Derived.Below
import Derived.WalkKit
import Derived.WalkSpells
import Derived.Deep.QuietTactic
import Derived.BigQuiet
import Derived.Laws.Strings
import Derived.Laws.Cover1
import Derived.Test.YtdohpenfkdckiaaGreatDoorProg
import Derived.Laws.CopyRow
import Derived.Deep.OwnRows
import Derived.Great.BuildSlice
import Derived.Great.FillDense
set_option linter.all false
set_option maxRecDepth 100000
set_option maxHeartbeats 20000000
namespace Go.Proofs.YtdohpenfkdckiaaGreatDoor
open Go.Proofs.Tryz
open Go.RowKit
theorem zA {α : Type} (l : List α) (i : Nat) (a : α) : l.toArray.setIfInBounds i a = (l.set i a).toArray := List.setIfInBounds_toArray l i a
theorem zB {α : Type} {x : α} {xs : List α} {a : α} : (x :: xs).set 0 a = a :: xs := List.set_cons_zero
theorem zC {α : Type} {x : α} {xs : List α} {n : Nat} {a : α} : (x :: xs).set (n + 1) a = x :: xs.set n a := List.set_cons_succ
theorem zD {α : Type} {xs : List α} {i : Nat} (h : i < xs.toArray.size) : xs.toArray[i] = xs[i]'(by simpa using h) := List.getElem_toArray h
theorem zE {α : Type} {a : α} {l : List α} {i : Nat} {h : i + 1 < (a :: l).length} : (a :: l)[i + 1] = l[i]'(Nat.lt_of_succ_lt_succ h) := List.getElem_cons_succ _ _ _ _
theorem zF {α : Type} {a : α} {l : List α} {h : 0 < (a :: l).length} : (a :: l)[0] = a := List.getElem_cons_zero _ _ _
theorem zG {α : Type} {xs : List α} {i : Nat} : xs.toArray[i]? = xs[i]? := List.getElem?_toArray
theorem zH {α : Type} {a : α} {l : List α} : (a :: l)[0]? = some a := List.getElem?_cons_zero
theorem zI {α : Type} {a : α} {l : List α} {i : Nat} : (a :: l)[i + 1]? = l[i]? := List.getElem?_cons_succ
theorem zM : ∀ (fn : Fn) (first cap : Array Value) (w : World), (Instr.makeFunc fn first cap).run Tryz.prog w = .ok (.func fn first cap) w := fun _ _ _ _ => rfl
section
variable {P:Program} {md:Region.Mode} {ops:Array Oper} {Q:Exit→Act→World→Prop} {S:World→Prop} {oi oj:Oper} {fuel:Nat} {l:Array Bool} {a a':Act} {w:World}
theorem zZ:(∀ (a:Act) (d:Nat) (v:Value),a.put (some d) v={a with tmps:=a.tmps.setIfInBounds d v})∧(∀ (a:Act) (v:Value),a.put none v=a)∧(∀ {α:Type} (l:List α) (i:Nat) (a:α),l.toArray.setIfInBounds i a=(l.set i a).toArray)∧(∀ {α:Type} {x:α} {s:List α} {a:α},(x::s).set 0 a=a::s)∧(∀ {α:Type} {x:α} {s:List α} {n:Nat} {a:α},(x::s).set (n+1) a=x::s.set n a)∧(∀ {α:Type} {s:List α} {i:Nat} (h:i<s.toArray.size),s.toArray[i]=s[i]'(by simpa using h))∧(∀ {α:Type} {a:α} {l:List α} {i:Nat} {h:i+1<(a::l).length},(a::l)[i+1]=l[i]'(Nat.lt_of_succ_lt_succ h))∧(∀ {α:Type} {a:α} {l:List α} {h:0<(a::l).length},(a::l)[0]=a):=⟨fun _ _ _=>rfl,fun _ _=>rfl,zA,zB,zC,zD,zE,zF⟩
theorem zV (i:Nat) (v:Value) (hi:ops[i]?=some oi) (hy:∀ W,S W→(execOp a.eval oi).run P W=.ok (.value v) W) (hS:S w) (h:wpAnyH P md ops Q S fuel (l.setIfInBounds i true) a' w) (hb:(Region.noSelect ops && (Region.free md ops l i && (Region.ready md ops l).contains i))=true:=by kernel_rfl) (hQ:∀ c a w,Q (.panic c) (a.put oi.dst v) w→Q (.panic c) a w:=by exact fun _ _ _ h=>h) (hw:Region.wanted oi (yielded ops a.tmps)=true:=by rfl) (ha:a.put oi.dst v=a':=by simp only [zZ];try exact rfl):wpAnyH P md ops Q S (fuel+1) l a w:=by
 subst ha;simp only [Bool.and_eq_true] at hb;exact wpAnyH_take hi hb.1 hb.2.1 hb.2.2 hQ (.inl ⟨hw,hy⟩) hS h
theorem zU (i:Nat) (v:Value) (hS:S w) (h:wpAnyH P md ops Q S fuel (l.setIfInBounds i true) a' w) (hi:ops[i]?=some oi:=by rfl) (hb:(Region.noSelect ops && (Region.free md ops l i && (Region.ready md ops l).contains i))=true:=by kernel_rfl) (hQ:∀ c a w,Q (.panic c) (a.put oi.dst v) w→Q (.panic c) a w:=by exact fun _ _ _ h=>h) (hw:Region.wanted oi (yielded ops a.tmps)=true:=by rfl) (hy:∀ W,(execOp a.eval oi).run P W=.ok (.value v) W:=by intro W;go_simp) (ha:a.put oi.dst v=a':=by simp only [zZ];try exact rfl):wpAnyH P md ops Q S (fuel+1) l a w:=zV i v hi (fun W _=>hy W) hS h hb hQ hw ha
theorem zu (i:Nat) (v:Value) (h:wpAny P md ops Q fuel (l.setIfInBounds i true) a' w) (hi:ops[i]?=some oi:=by rfl) (hb:(Region.noSelect ops && (Region.free md ops l i && (Region.ready md ops l).contains i))=true:=by kernel_rfl) (hQ:∀ c a w,Q (.panic c) (a.put oi.dst v) w→Q (.panic c) a w:=by exact fun _ _ _ h=>h) (hw:Region.wanted oi (yielded ops a.tmps)=true:=by rfl) (hy:∀ W,(execOp a.eval oi).run P W=.ok (.value v) W:=by intro W;go_simp) (ha:a.put oi.dst v=a':=by simp only [zZ];try exact rfl):wpAny P md ops Q (fuel+1) l a w:=by
 subst ha;simp only [Bool.and_eq_true] at hb;exact wpAny_take hi hb.1 hb.2.1 hb.2.2 hQ (.inl ⟨hw,hy⟩) h
theorem zP (i q k:Nat) (hS:S w) (h:wpAnyH P md ops Q S fuel (l.setIfInBounds i true) a' w) (hi:ops[i]?=some oi:=by rfl) (hb:(Region.noSelect ops && (Region.free md ops l i && (Region.ready md ops l).contains i))=true:=by kernel_rfl) (hQ:∀ c a w,Q (.panic c) (a.put oi.dst (.pointer (some ⟨q,k,none⟩))) w→Q (.panic c) a w:=by exact fun _ _ _ h=>h) (hw:Region.wanted oi (yielded ops a.tmps)=true:=by rfl) (hy:∀ W,(execOp a.eval oi).run P W=.ok (.value (.pointer (some ⟨q,k,none⟩))) W:=by intro W;go_simp) (ha:a.put oi.dst (.pointer (some ⟨q,k,none⟩))=a':=by simp only [zZ];try exact rfl):wpAnyH P md ops Q S (fuel+1) l a w:=zV i _ hi (fun W _=>hy W) hS h hb hQ hw ha
theorem zq (i:Nat) (h:∀ K':Act→World→Prop,Shut (∀ a w,S w→(S w→wpAnyH P md ops Q S fuel (l.setIfInBounds i true) a w)→K' a w)→if Region.wanted oi (yielded ops a.tmps)=true then Oper.wp P oi a w K' Q else K' (a.put oi.dst undef) w) (ho:ops[i]?=some oi:=by rfl) (hr:Region.ready md ops l=[i]:=by kernel_rfl):wpAnyH P md ops Q S (fuel+1) l a w:=wpAnyH_ready hr (by simp) (AllReadyH.cons ho h AllReadyH.nil)
theorem zr (i j:Nat) (h:∀ K':Act→World→Prop,Shut (∀ a w,S w→(S w→wpAnyH P md ops Q S fuel (l.setIfInBounds i true) a w)→K' a w)→if Region.wanted oi (yielded ops a.tmps)=true then Oper.wp P oi a w K' Q else K' (a.put oi.dst undef) w) (h2:∀ K':Act→World→Prop,Shut (∀ a w,S w→(S w→wpAnyH P md ops Q S fuel (l.setIfInBounds j true) a w)→K' a w)→if Region.wanted oj (yielded ops a.tmps)=true then Oper.wp P oj a w K' Q else K' (a.put oj.dst undef) w) (ho:ops[i]?=some oi:=by rfl) (ho2:ops[j]?=some oj:=by rfl) (hr:Region.ready md ops l=[i,j]:=by kernel_rfl):wpAnyH P md ops Q S (fuel+1) l a w:=wpAnyH_ready hr (by simp) (AllReadyH.cons ho h (AllReadyH.cons ho2 h2 AllReadyH.nil))
theorem zQ (i:Nat) (h:∀ K':Act→World→Prop,(∀ a w,wpAny P md ops Q fuel (l.setIfInBounds i true) a w→K' a w)→if Region.wanted oi (yielded ops a.tmps)=true then Oper.wp P oi a w K' Q else K' (a.put oi.dst undef) w) (ho:ops[i]?=some oi:=by rfl) (hr:Region.ready md ops l=[i]:=by kernel_rfl):wpAny P md ops Q (fuel+1) l a w:=wpAny_ready hr (by simp) (AllReady.cons ho h AllReady.nil)
theorem zd (h:Q .normal a w) (hr:Region.ready md ops l=[]:=by kernel_rfl):wpAnyH P md ops Q S fuel l a w:=wpAnyH_done hr h _
theorem zh {p:Prop} (h:p):RowKit.Hid p:=h
end
structure Kp(S:List Nat)(w w':World):Prop where
 os:w'.os=w.os
 tape:w'.tape=w.tape
 output:w'.output=w.output
 size:w.heap.size≤w'.heap.size
 block:∀ k,k<w.heap.size→k ∉ S→w'.heap[k]?=w.heap[k]?
theorem ζ{w:World}{k:Nat}{o:Obj}(h:w.heap[k]?=some o):k<w.heap.size:=(Array.getElem?_eq_some_iff.1 h).1
theorem Kp.refl(S:List Nat)(w:World):Kp S w w:=⟨rfl,rfl,rfl,Nat.le_refl _,fun _ _ _=>rfl⟩
theorem Kp.trans{S S':List Nat}{a b c:World}(h:Kp S a b)(k:Kp S' b c)(hS:∀ i,i∈S'→i<a.heap.size→i∈S):Kp S a c:=
 ⟨k.os.trans h.os,k.tape.trans h.tape,k.output.trans h.output,Nat.le_trans h.size k.size,fun i hi hn=>
  (k.block i (Nat.lt_of_lt_of_le hi h.size) (fun hm=>hn (hS i hm hi))).trans (h.block i hi hn)⟩
theorem Kp.mono{S S':List Nat}{a b:World}(h:Kp S a b)(hS:∀ i,i∈S→i<a.heap.size→i∈S'):Kp S' a b:=
 ⟨h.os,h.tape,h.output,h.size,fun i hi hn=>h.block i hi (fun hm=>hn (hS i hm hi))⟩
theorem Kp.drew{S:List Nat}{a b:World}(h:Kp S a b):Kp S a b.drew:=⟨h.os,h.tape,h.output,h.size,h.block⟩
theorem Kp.drewN{S:List Nat}{a b:World}(h:Kp S a b)(n:Nat):Kp S a (b.drewN n):=⟨h.os,h.tape,h.output,h.size,h.block⟩
theorem Kp.alloc{S:List Nat}{a b:World}(h:Kp S a b)(o:Obj):Kp S a (b.alloc o):=
 ⟨h.os,h.tape,h.output,by have:=h.size;simp;omega,fun k hk hn=>(Below.heap_alloc _ _ _ (Nat.lt_of_lt_of_le hk h.size)).trans (h.block k hk hn)⟩
theorem Kp.setCell{S:List Nat}{a b:World}(h:Kp S a b){p:Addr}(hp:p.block∈S∨a.heap.size≤p.block)(u:Value):Kp S a (b.setCell p u):=
 ⟨h.os,h.tape,h.output,by have:=h.size;simp[World.setCell];omega,fun k hk hn=>(Below.heap_setCell _ _ _ _ (by
  rcases hp with hp|hp
  ·intro e;subst e;exact hn hp
  ·omega)).trans (h.block k hk hn)⟩
theorem Kp.grown{S:List Nat}{a b c:World}{row:Option Nat}(h:Kp S a b)(hg:b.grownBy c row)(hr:∀ k,row=some k→k∈S∨a.heap.size≤k):Kp S a c:=
 ⟨hg.os.trans h.os,hg.tape.trans h.tape,hg.output.trans h.output,Nat.le_trans h.size hg.size,fun k hk hn=>
  (hg.block k (Nat.lt_of_lt_of_le hk h.size) (fun e=>by rcases hr k e.symm with h1 | h1;exact hn h1;omega)).trans (h.block k hk hn)⟩
theorem Kp.of_below{B:Nat}{w w':World}(h:Below B w w')(hB:w.heap.size≤B):Kp [] w w':=
 ⟨h.os,h.tape,h.output,h.size,fun k hk _=>h.block k (by omega)⟩
theorem Kp.below{S:List Nat}{B:Nat}{w w':World}(h:Kp S w w')(hB:B≤w.heap.size)(hS:∀ k,k∈S→B≤k):Below B w w':=
 ⟨h.os,h.tape,h.output,h.size,fun k hk=>h.block k (by omega) (fun hm=>by have:=hS k hm;omega)⟩
theorem Kp.heap{S:List Nat}{w w':World}(h:Kp S w w'){k:Nat}{o:Obj}(hk:w.heap[k]?=some o)(hn:k ∉ S):w'.heap[k]?=some o:=
 (h.block k (ζ hk) hn).trans hk
theorem ξ{w:World}{b:Nat}{c:Array Value}{t:TypeId}{fr:Nat × Nat}(h:w.heap[b]?=some (.cells c t fr))(o:Nat):w.cell? ⟨b,o,none⟩=c[o]?:=by
 simp[World.cell?,h]
theorem μ{w:World}{b:Nat}{c:Array Value}{t:TypeId}(h:w.heap[b]?=some (.cells c t))(o:Nat):w.frozen? ⟨b,o,none⟩=false:=by
 simp[World.frozen?,h]
theorem φ{w:World}{b:Nat}{c:Array Value}{t:TypeId}{fr:Nat × Nat}(h:w.heap[b]?=some (.cells c t fr))(o:Nat)(v:Value):(w.setCell ⟨b,o,none⟩ v).heap[b]?=some (.cells (c.setIfInBounds o v) t fr):=by
 simp[World.setCell,Array.getElem?_modify,h]
theorem qA8{w:World}{b k:Nat}(hk:k≠b)(o:Nat)(v:Value):(w.setCell ⟨b,o,none⟩ v).heap[k]?=w.heap[k]?:=Below.heap_setCell _ _ _ _ hk
theorem κ(w:World)(o:Obj):(w.alloc o).heap[w.heap.size]?=some o:=by
 show (w.heap.push o)[w.heap.size]?=_;simp
theorem θ{w:World}(o:Obj){k:Nat}{x:Obj}(h:w.heap[k]?=some x):(w.alloc o).heap[k]?=some x:=(Below.heap_alloc _ _ _ (ζ h)).trans h
theorem Kp.hp {S:List Nat} {w w':World} (h:Kp S w w') {k:Nat} {o:Obj} (hk:w.heap[k]?=some o) (hn:k∉S:=by simp):w'.heap[k]?=some o:=h.heap hk hn
theorem Kp.ho {S:List Nat} {w w':World} (h:Kp S w w') {k:Nat} {o:Obj} (hk:w.heap[k]?=some o) (hn:k∉S:=by simp;omega):w'.heap[k]?=some o:=h.heap hk hn
theorem Kp.tr {S S':List Nat} {a b c:World} (h:Kp S a b) (k:Kp S' b c) (hS:∀ i,i∈S'→i<a.heap.size→i∈S:=by simp):Kp S a c:=h.trans k hS
theorem Kp.sc {S:List Nat} {a b:World} (h:Kp S a b) {p:Addr} (u:Value) (hp:p.block∈S∨a.heap.size≤p.block:=by simp):Kp S a (b.setCell p u):=h.setCell hp u
section
variable {P:Program} {md:Region.Mode} {ops:Array Oper} {Q:Exit→Act→World→Prop} {S:World→Prop} {oi oj:Oper} {fuel:Nat} {l:Array Bool} {a a':Act} {w:World}
theorem zW (i:Nat) (v:Value) (hS:S w) {b:Nat} {c:Array Value} {t:TypeId} {fr:Nat × Nat} (hc:∀ {W},S W→W.heap[b]?=some (.cells c t fr)) (h:wpAnyH P md ops Q S fuel (l.setIfInBounds i true) a' w) (hi:ops[i]?=some oi:=by rfl) (hb:(Region.noSelect ops && (Region.free md ops l i && (Region.ready md ops l).contains i))=true:=by kernel_rfl) (hQ:∀ c a w,Q (.panic c) (a.put oi.dst v) w→Q (.panic c) a w:=by exact fun _ _ _ h=>h) (hw:Region.wanted oi (yielded ops a.tmps)=true:=by rfl) (hy:∀ W,(∀ o,W.cell? ⟨b,o,none⟩=c[o]?)→(execOp a.eval oi).run P W=.ok (.value v) W:=by intro W h;go_simp) (ha:a.put oi.dst v=a':=by simp only [zZ];try exact rfl):wpAnyH P md ops Q S (fuel+1) l a w:=zV i v hi (fun W h=>hy W (ξ (hc h))) hS h hb hQ hw ha
end
end Go.Proofs.YtdohpenfkdckiaaGreatDoor
namespace Go.Proofs.YtdohpenfkdckiaaGreatDoor
open Go.Proofs.Tryz
def kl(a b:ByteArray):Bool:=Op.bytesLess a.toList b.toList
theorem zH5:∀ (x y:List UInt8),Op.bytesLess x y=decide (x<y)
 | [],[]=>by simp[Op.bytesLess]
 | _::_,[]=>by simp[Op.bytesLess]
 | [],_::_=>by simp[Op.bytesLess]
 | a::x,b::y=>by
  rw[Op.bytesLess,zH5 x y];simp only[List.cons_lt_cons_iff];by_cases h1:a<b<;>by_cases h2:a=b<;>by_cases h3:x<y<;>simp[h1,h2,h3]
theorem zS5{a b:ByteArray}(h:a.toList=b.toList):a=b:=by
 rw[ByteArray.toList_eq,ByteArray.toList_eq] at h;cases a;cases b;simp only[ByteArray.mk.injEq];exact Array.toList_inj.1 h
theorem zQ1(a b:ByteArray):(a.toList == b.toList)=decide (a=b):=by
 by_cases h:a=b
 ·simp[h]
 ·have:¬a.toList=b.toList:=fun e=>h (zS5 e);simp[h,this]
theorem qZ7(a b:ByteArray):kl a b=true↔a.toList<b.toList:=by unfold kl;rw[zH5];simp
theorem qT0(a b:ByteArray):kl a b=false↔b.toList≤a.toList:=by
 rw[←Bool.not_eq_true,qZ7];exact List.not_lt
theorem qN5(a:ByteArray):kl a a=false:=(qT0 a a).2 (List.le_refl _)
theorem qM4{a b c:ByteArray}(h:kl a b=true)(k:kl b c=true):kl a c=true:=by
 rw[qZ7] at *;exact List.lt_trans h k
theorem qO4{a b:ByteArray}(h:kl a b=true):kl b a=false:=by
 rw[qZ7] at h;rw[qT0];exact List.le_of_lt h
theorem qZ8{a b:ByteArray}(h:kl a b=false)(k:kl b a=false):a=b:=by
 rw[qT0] at *;exact zS5 (List.le_antisymm k h)
theorem qV5{a b c:ByteArray}(h:kl b a=false)(k:kl b c=true):kl a c=true:=by
 rw[qT0] at h;rw[qZ7] at *;exact List.lt_of_le_of_lt h k
theorem qN6{a b c:ByteArray}(h:kl a b=true)(k:kl c b=false):kl a c=true:=by
 by_cases e:kl a c=true
 ·exact e
 ·have:=qV5 (a:=c) (b:=a) (c:=b) (by simpa using e) h;rw[k] at this;cases this
theorem zX7{a b c:ByteArray}(h:kl b a=false)(k:kl c b=false):kl c a=false:=by
 rw[qT0] at *;exact List.le_trans h k
theorem qI7{a b:ByteArray}(h:kl a b=true):a≠b:=fun e=>by subst e;rw[qN5] at h;cases h
theorem qN4(a:ByteArray):kl a ⟨#[]⟩=false:=by
 rw[qT0];simp
theorem zX8(a b:ByteArray):(Op.bytesLess a.toList b.toList || a.toList == b.toList)=!kl b a:=by
 rw[zQ1];by_cases h:kl a b=true
 ·have:Op.bytesLess a.toList b.toList=true:=h;simp[this,qO4 h]
 ·have h':kl a b=false:=by simpa using h
  have h0:Op.bytesLess a.toList b.toList=false:=h';by_cases e:a=b
  ·subst e;simp[qN5]
  ·have:kl b a=true:=by
    by_cases h2:kl b a=true
    ·exact h2
    ·exact absurd (qZ8 h' (by simpa using h2)) e
   simp[h0,e,this]
structure KV where
 k:ByteArray
 v:ByteArray
 deriving DecidableEq
def Sorted(l:List KV):Prop:=l.Pairwise fun a b=>kl a.k b.k=true
def ins(p:KV)(l:List KV):List KV:=l.takeWhile (fun q=>kl q.k p.k)++p::(l.dropWhile (fun q=>kl q.k p.k)).filter (fun q=>!decide (q.k=p.k))
def del(k:ByteArray)(l:List KV):List KV:=l.filter fun q=>!decide (q.k=k)
theorem Sorted.append{a b:List KV}:Sorted (a++b)↔Sorted a∧Sorted b∧∀ x∈a,∀ y∈b,kl x.k y.k=true:=List.pairwise_append
theorem Sorted.del{l:List KV}(h:Sorted l)(k:ByteArray):Sorted (del k l):=h.sublist List.filter_sublist
theorem qW1{k:ByteArray}{l:List KV}{q:KV}:q∈del k l↔q∈l∧q.k≠k:=by simp[del]
theorem zA4{p q:KV}{l:List KV}(h:q∈ins p l):q=p∨q∈l:=by
 simp only[ins,List.mem_append,List.mem_cons,List.mem_filter] at h;rcases h with h|h|⟨h,_⟩
 ·exact .inr (List.takeWhile_sublist _ |>.subset h)
 ·exact .inl h
 ·exact .inr (List.dropWhile_sublist _ |>.subset h)
theorem qN3(p:KV)(l:List KV):(ins p l).length≤l.length+1:=by
 have h:=congrArg List.length (List.takeWhile_append_dropWhile (p:=fun q=>kl q.k p.k) (l:=l));have h2:=List.length_filter_le (fun q=>!decide (q.k=p.k)) (l.dropWhile (fun q=>kl q.k p.k));simp only[ins,List.length_append,List.length_cons] at *;omega
theorem zB6{p:ByteArray}{l:List KV}:∀ q∈l.takeWhile (fun q=>kl q.k p),kl q.k p=true:=by
 induction l with
 | nil=>intro q h;simp at h
 | cons a l ih=>
  intro q h;rw[List.takeWhile_cons] at h;split at h
  ·rcases List.mem_cons.1 h with rfl|h
   ·assumption
   ·exact ih q h
  ·simp at h
theorem zE2{p:ByteArray}{l:List KV}(hs:Sorted l):∀ q∈l.dropWhile (fun q=>kl q.k p),kl q.k p=false:=by
 induction l with
 | nil=>intro q h;simp at h
 | cons a l ih=>
  intro q h;have hs':=List.pairwise_cons.1 hs;rw[List.dropWhile_cons] at h;split at h
  ·exact ih hs'.2 q h
  ·next hn=>
   have hn:kl a.k p=false:=by simpa using hn
   rcases List.mem_cons.1 h with rfl|h
   ·exact hn
   ·exact qO4 (qV5 hn (hs'.1 q h))
theorem Sorted.ins{l:List KV}(h:Sorted l)(p:KV):Sorted (ins p l):=by
 have hs:Sorted (l.takeWhile (fun q=>kl q.k p.k)++l.dropWhile (fun q=>kl q.k p.k)):=by rw[List.takeWhile_append_dropWhile];exact h
 obtain⟨h1,h2,h3⟩:=Sorted.append.1 hs;have hf:∀ q∈(l.dropWhile (fun q=>kl q.k p.k)).filter (fun q=>!decide (q.k=p.k)),kl p.k q.k=true:=by
  intro q hq;simp only[List.mem_filter,Bool.not_eq_true',decide_eq_false_iff_not] at hq;have:=zE2 h q hq.1;by_cases e:kl p.k q.k=true
  ·exact e
  ·exact absurd (qZ8 this (by simpa using e)) hq.2
 refine Sorted.append.2 ⟨h1,List.pairwise_cons.2 ⟨hf,h2.sublist List.filter_sublist⟩,?_⟩;intro x hx y hy;rcases List.mem_cons.1 hy with rfl|hy
 ·exact zB6 x hx
 ·exact qM4 (zB6 x hx) (hf y hy)
theorem qY9{l:List KV}{k:ByteArray}(h:∀ q∈l,q.k≠k):l.filter (fun q=>!decide (q.k=k))=l:=by
 rw[List.filter_eq_self];intro q hq;simp[h q hq]
theorem qV1{l:List KV}{k:ByteArray}(h:∀ q∈l,q.k≠k):del k l=l:=qY9 h
theorem qX2(k:ByteArray)(a b:List KV):del k (a++b)=del k a++del k b:=by simp[del]
theorem xY5{p:KV}{a b c:List KV}(ha:∀ q∈a,kl q.k p.k=true)(hc:∀ q∈c,kl p.k q.k=true):ins p (a++b++c)=a++ins p b++c:=by
 have h1:∀ (x y:List KV),(∀ q∈x,kl q.k p.k=true)→(x++y).takeWhile (fun q=>kl q.k p.k)=x++y.takeWhile (fun q=>kl q.k p.k):=by
  intro x y hx
  induction x with
  | nil=>rfl
  | cons z x ih=>simp[List.takeWhile_cons,hx z (by simp),ih (fun q hq=>hx q (by simp[hq]))]
 have h2:∀ (x y:List KV),(∀ q∈x,kl q.k p.k=true)→(x++y).dropWhile (fun q=>kl q.k p.k)=y.dropWhile (fun q=>kl q.k p.k):=by
  intro x y hx
  induction x with
  | nil=>rfl
  | cons z x ih=>simp[List.dropWhile_cons,hx z (by simp),ih (fun q hq=>hx q (by simp[hq]))]
 have hc0:∀ q∈c,kl q.k p.k=false:=fun q hq=>qO4 (hc q hq);have h3:∀ y:List KV,(y++c).takeWhile (fun q=>kl q.k p.k)=y.takeWhile (fun q=>kl q.k p.k):=by
  intro y
  induction y with
  | nil=>
   cases c with
   | nil=>rfl
   | cons z c=>simp[List.takeWhile_cons,hc0 z (by simp)]
  | cons z y ih=>simp only[List.cons_append,List.takeWhile_cons];split<;>simp_all
 have h4:∀ y:List KV,(y++c).dropWhile (fun q=>kl q.k p.k)=y.dropWhile (fun q=>kl q.k p.k)++c:=by
  intro y
  induction y with
  | nil=>
   cases c with
   | nil=>rfl
   | cons z c=>simp[List.dropWhile_cons,hc0 z (by simp)]
  | cons z y ih=>simp only[List.cons_append,List.dropWhile_cons];split<;>simp_all
 have h5:c.filter (fun q=>!decide (q.k=p.k))=c:=qY9 fun q hq=>(qI7 (hc q hq)).symm;unfold ins;rw[List.append_assoc,h1 _ _ ha,h2 _ _ ha,h3,h4,List.filter_append,h5];simp
theorem xS0{k:ByteArray}{a b c:List KV}(ha:∀ q∈a,kl q.k k=true)(hc:∀ q∈c,kl k q.k=true):del k (a++b++c)=a++del k b++c:=by
 rw[qX2,qX2,qV1 fun q hq=>qI7 (ha q hq),qV1 fun q hq=>(qI7 (hc q hq)).symm]
theorem xD2{l:List KV}(hs:Sorted l)(k:ByteArray):l.findIdx (fun q=>!kl q.k k)=(l.takeWhile (fun q=>kl q.k k)).length:=by
 induction l with
 | nil=>rfl
 | cons a l ih=>
  have hs':=List.pairwise_cons.1 hs;rw[List.findIdx_cons,List.takeWhile_cons];by_cases h:kl a.k k=true
  ·simp[h,ih hs'.2]
  ·have h':kl a.k k=false:=by simpa using h
   simp[h']
theorem xD4{l:List KV}(hs:Sorted l)(k:ByteArray):l.take (l.findIdx (fun q=>!kl q.k k))=l.takeWhile (fun q=>kl q.k k):=by
 rw[xD2 hs]
 conv=>lhs;arg 2;rw[←List.takeWhile_append_dropWhile (p:=fun q=>kl q.k k) (l:=l)]
 rw[List.take_left]
theorem zU3{l:List KV}(hs:Sorted l)(k:ByteArray):l.drop (l.findIdx (fun q=>!kl q.k k))=l.dropWhile (fun q=>kl q.k k):=by
 rw[xD2 hs]
 conv=>lhs;arg 2;rw[←List.takeWhile_append_dropWhile (p:=fun q=>kl q.k k) (l:=l)]
 rw[List.drop_left]
def qF6(l:List KV)(i:Nat)(k:ByteArray):Bool:=match l[i]? with
 | some q=>decide (q.k=k)
 | none=>false
def qB2(l:List KV)(k:ByteArray):Nat:=l.findIdx (fun q=>!kl q.k k)
theorem qU5(l:List KV)(k:ByteArray):qB2 l k≤l.length:=List.findIdx_le_length
theorem qR6{l:List KV}(hs:Sorted l)(p:KV):ins p l=l.take (qB2 l p.k)++[p]++l.drop (if qF6 l (qB2 l p.k) p.k then qB2 l p.k+1 else qB2 l p.k):=by
 unfold ins qB2;rw[xD4 hs];have hd:=zU3 hs p.k;have hg:=zE2 (p:=p.k) hs;have hsd:Sorted (l.dropWhile (fun q=>kl q.k p.k)):=hs.sublist (List.dropWhile_sublist _);generalize l.findIdx (fun q=>!kl q.k p.k)=i at *;have hat:l[i]?=(l.dropWhile (fun q=>kl q.k p.k)).head?:=by rw[←hd];simp
 have hd1:l.drop (i+1)=(l.dropWhile (fun q=>kl q.k p.k)).tail:=by rw[←hd];simp
 cases hc:l.dropWhile (fun q=>kl q.k p.k) with
 | nil=>
  rw[hc] at hat hd;simp[qF6,hat,hd]
 | cons a r=>
  rw[hc] at hat hd hd1 hg hsd;have hr:=List.pairwise_cons.1 hsd;by_cases e:a.k=p.k
  ·have:r.filter (fun q=>!decide (q.k=p.k))=r:=qY9 fun q hq=>by rw[←e];exact (qI7 (hr.1 q hq)).symm
   simp[qF6,hat,e,hd1,this]
  ·have hlt:kl p.k a.k=true:=by
    by_cases h2:kl p.k a.k=true
    ·exact h2
    ·exact absurd (qZ8 (hg a (by simp)) (by simpa using h2)) e
   have:r.filter (fun q=>!decide (q.k=p.k))=r:=qY9 fun q hq=>(qI7 (qM4 hlt (hr.1 q hq))).symm;simp[qF6,hat,e,hd,this]
theorem zF4{l:List KV}(hs:Sorted l)(k:ByteArray):qF6 l (qB2 l k) k=true↔∃ q∈l,q.k=k:=by
 unfold qB2;have hd:=zU3 hs k;have hg:=zE2 (p:=k) hs;have hsd:Sorted (l.dropWhile (fun q=>kl q.k k)):=hs.sublist (List.dropWhile_sublist _);have hat:l[l.findIdx (fun q=>!kl q.k k)]?=(l.dropWhile (fun q=>kl q.k k)).head?:=by rw[←hd];simp
 have hm:(∃ q∈l,q.k=k)↔∃ q∈l.dropWhile (fun q=>kl q.k k),q.k=k:=by
  constructor
  ·rintro⟨q,hq,e⟩;rw[←List.takeWhile_append_dropWhile (p:=fun q=>kl q.k k) (l:=l)] at hq;rcases List.mem_append.1 hq with h|h
   ·exact absurd e (qI7 (zB6 q h))
   ·exact⟨q,h,e⟩
  ·rintro⟨q,hq,e⟩;exact⟨q,List.dropWhile_sublist _ |>.subset hq,e⟩
 rw[hm];unfold qF6;rw[hat]
 cases hc:l.dropWhile (fun q=>kl q.k k) with
 | nil=>simp
 | cons a r=>
  rw[hc] at hsd hg;have hr:=List.pairwise_cons.1 hsd;simp only[List.head?_cons,decide_eq_true_eq,List.mem_cons,exists_eq_or_imp];constructor
  ·intro h;exact .inl h
  ·rintro (h|⟨q,hq,e⟩)
   ·exact h
   ·have h1:=hr.1 q hq;rw[e] at h1;have h2:=hg a (by simp);rw[h1] at h2;cases h2
theorem zU2{l:List KV}(hs:Sorted l){k:ByteArray}(h:qF6 l (qB2 l k) k=true):del k l=l.take (qB2 l k)++l.drop (qB2 l k+1):=by
 have e:=List.take_append_drop (qB2 l k) l;unfold qF6 at h;split at h
 ·next q hq=>
  have hqk:q.k=k:=by simpa using h
  have hlt:=(List.getElem?_eq_some_iff.1 hq).1;have hd:l.drop (qB2 l k)=q::l.drop (qB2 l k+1):=by
   rw[List.drop_eq_getElem_cons hlt,(List.getElem?_eq_some_iff.1 hq).2]
  have hs2:Sorted (l.take (qB2 l k)++q::l.drop (qB2 l k+1)):=by rw[←hd,e];exact hs
  obtain⟨h1,h2,h3⟩:=Sorted.append.1 hs2;have h4:=List.pairwise_cons.1 h2
  conv=>lhs;rw[←e,hd]
  rw[qX2,qV1 fun x hx=>by rw[←hqk];exact qI7 (h3 x hx q (by simp))]
  congr 1
  rw[show q::l.drop (qB2 l k+1)=[q]++l.drop (qB2 l k+1) from rfl,qX2,qV1 (l:=l.drop (qB2 l k+1)) fun x hx=>by rw[←hqk];exact (qI7 (h4.1 x hx)).symm];simp[del,hqk]
 ·cases h
structure Lnk(X:Type) where
 key:ByteArray
 ref:Option (Nat × Int)
 sub:X
def Tn:Nat→Type
 | 0=>List KV
 | n+1=>List (Lnk (Tn n))
def cont:(n:Nat)→Tn n→List KV
 | 0,ps=>ps
 | n+1,ls=>List.flatMap (fun l:Lnk (Tn n)=>cont n l.sub) ls
def cnt:(n:Nat)→Tn n→Nat
 | 0,ps=>List.length (α:=KV) ps
 | n+1,ls=>List.length (α:=Lnk (Tn n)) ls
def ρ(p:KV):Nat:=1+p.k.size+p.v.size
def qA2{X:Type}(l:Lnk X):Nat:=11+l.key.size
def meas{α:Type}(f:α→Nat)(l:List α):Nat:=(l.map f).sum
theorem qG3{α:Type}(f:α→Nat)(a b:List α):meas f (a++b)=meas f a+meas f b:=by simp[meas]
theorem qE6{α:Type}(f:α→Nat)(a:α)(b:List α):meas f (a::b)=f a+meas f b:=by simp[meas]
theorem qE7{α:Type}(f:α→Nat):meas f []=0:=rfl
def qE3{α:Type}(f:α→Nat)(all:Nat):List α→Nat→Nat
 | [],_=>0
 | x::xs,n=>if 2*n<all then qE3 f all xs (n+f x)+1 else 0
def qB7{α:Type}(f:α→Nat)(l:List α):List (List α):=
 if meas f l≤126 then [l] else [l.take (qE3 f (meas f l) l 0),l.drop (qE3 f (meas f l) l 0)]
def links{α:Type}(low:α→ByteArray)(key:ByteArray):List (List α)→List (Lnk (List α))
 | []=>[]
 | a::rest=>⟨key,none,a⟩::rest.map fun b=>⟨(b.head?.map low).getD ⟨#[]⟩,none,b⟩
def qD6(key:ByteArray)(ps:List KV):List (Lnk (Tn 0)):=links KV.k key (qB7 ρ ps)
def qD4(n:Nat)(key:ByteArray)(ls:List (Lnk (Tn n))):List (Lnk (Tn (n+1))):=links Lnk.key key (qB7 qA2 ls)
def qB0{X:Type}(ls:List (Lnk X))(k:ByteArray):Nat:=ls.findIdx (fun l=>kl k l.key)-1
def qG0(p:KV)(ps:List KV):List KV:=ps.take (qB2 ps p.k)++[p]++ps.drop (if qF6 ps (qB2 ps p.k) p.k then qB2 ps p.k+1 else qB2 ps p.k)
def qE1:(n:Nat)→Lnk (Tn n)→KV→List (Lnk (Tn n))
 | 0,l,p=>qD6 l.key (qG0 p l.sub)
 | n+1,l,p=>
  let ls:List (Lnk (Tn n)):=l.sub
  match ls[qB0 ls p.k]? with
  | some m=>qD4 n l.key (ls.take (qB0 ls p.k)++qE1 n m p++ls.drop (qB0 ls p.k+1))
  | none=>[]
def qD8:(n:Nat)→ByteArray→Tn n→Tn n→List (Lnk (Tn n))
 | 0,key,a,b=>qD6 key (List.append (α:=KV) a b)
 | n+1,key,a,b=>qD4 n key (List.append (α:=Lnk (Tn n)) a b)
def qC2(n:Nat)(ls:List (Lnk (Tn n)))(i:Nat):List (Lnk (Tn n)):=
 match ls[i]? with
 | none=>ls
 | some l=>if 3≤cnt n l.sub then ls else
  match ls[min i (ls.length-2)]?,ls[min i (ls.length-2)+1]? with
  | some a,some b=>ls.take (min i (ls.length-2))++qD8 n a.key a.sub b.sub++ls.drop (min i (ls.length-2)+2)
  | _,_=>ls
def qD1:(n:Nat)→Lnk (Tn n)→ByteArray→List (Lnk (Tn n))
 | 0,l,k=>qD6 l.key (List.take (α:=KV) (qB2 l.sub k) l.sub++List.drop (α:=KV) (qB2 l.sub k+1) l.sub)
 | n+1,l,k=>
  let ls:List (Lnk (Tn n)):=l.sub
  match ls[qB0 ls k]? with
  | some m=>qD4 n l.key (qC2 n (ls.take (qB0 ls k)++qD1 n m k++ls.drop (qB0 ls k+1)) (qB0 ls k))
  | none=>[]
inductive Root where
 | none
 | at (n:Nat) (l:Lnk (Tn n))
def qS2:(n:Nat)→Lnk (Tn n)→Root
 | 0,l=>match (l.sub:List KV) with
  | []=>.none
  | _::_=>.at 0 l
 | n+1,l=>match (l.sub:List (Lnk (Tn n))) with
  | []=>.none
  | [m]=>.at n m
  | _::_::_=>.at (n+1) l
def qF3(n:Nat)(ls:List (Lnk (Tn n))):Root:=
 match ls with
 | []=>.none
 | [l]=>qS2 n l
 | ls=>match qD4 n ⟨#[]⟩ ls with
  | []=>.none
  | r::_=>qS2 (n+1) r
def Root.cont:Root→List KV
 | .none=>[]
 | .at n l=>YtdohpenfkdckiaaGreatDoor.cont n l.sub
def Root.put(r:Root)(p:KV):Root:=match r with
 | .none=>qF3 0 (qD6 ⟨#[]⟩ [p])
 | .at n l=>qF3 n (qE1 n l p)
def Root.del(r:Root)(k:ByteArray):Root:=match r with
 | .none=>.none
 | .at n l=>if (YtdohpenfkdckiaaGreatDoor.cont n l.sub).any (fun q=>decide (q.k=k)) then qF3 n (qD1 n l k) else .at n l
def qC6(p:KV):Prop:=1≤p.k.size∧p.k.size≤8∧p.v.size≤12
def zQ3{X:Type}(co:X→List KV)(a b:Lnk X):Prop:=kl a.key b.key=true∧∀ q∈co a.sub,kl q.k b.key=true
abbrev qP6(n:Nat)(a b:Lnk (Tn n)):Prop:=zQ3 (cont n) a b
structure GoodL(lo:ByteArray)(ps:List KV):Prop where
 sorted:Sorted ps
 all:∀ p∈ps,qC6 p∧kl p.k lo=false
 fits:meas ρ ps≤126
structure GoodB{X:Type}(G:ByteArray→X→Prop)(C:X→Nat)(co:X→List KV)(lo:ByteArray)(ls:List (Lnk X)):Prop where
 head:∀ l∈ls.head?,l.key=lo
 all:∀ l∈ls,G l.key l.sub∧3≤C l.sub∧l.key.size≤8
 pair:ls.Pairwise (zQ3 co)
 fits:meas qA2 ls≤126
def Good:(n:Nat)→ByteArray→Tn n→Prop
 | 0,lo,ps=>GoodL lo ps
 | n+1,lo,ls=>GoodB (Good n) (cnt n) (cont n) lo ls
structure Row0(n:Nat)(lo:ByteArray)(ls:List (Lnk (Tn n))):Prop where
 head:∀ l∈ls.head?,l.key=lo
 all:∀ l∈ls,Good n l.key l.sub∧l.key.size≤8
 pair:ls.Pairwise (qP6 n)
theorem qK7:∀ (n:Nat) (lo:ByteArray) (t:Tn n),Good n lo t→Sorted (cont n t)∧∀ q∈cont n t,qC6 q∧kl q.k lo=false
 | 0,lo,ps,h=>⟨h.1,h.2⟩
 | n+1,lo,ls,h=>by
  obtain⟨hh,ha,hp,_⟩:=h;have ih:=fun l:Lnk (Tn n)=>qK7 n l.key l.sub;have key:∀ (ls:List (Lnk (Tn n))),(∀ l∈ls,Good n l.key l.sub)→ls.Pairwise (qP6 n)→Sorted (ls.flatMap fun l=>cont n l.sub)∧∀ q∈ls.flatMap (fun l=>cont n l.sub),qC6 q∧∀ l∈ls.head?,kl q.k l.key=false:=by
   intro ls
   induction ls with
   | nil=>intro _ _;simp[Sorted]
   | cons a ls ihl=>
    intro hg hp;obtain⟨hp1,hp2⟩:=List.pairwise_cons.1 hp;obtain⟨i1,i2⟩:=ihl (fun l hl=>hg l (by simp[hl])) hp2;obtain⟨a1,a2⟩:=ih a (hg a (by simp));have hlow:∀ q∈ls.flatMap (fun l=>cont n l.sub),∃ b∈ls,kl q.k b.key=false:=by
     intro q hq;obtain⟨b,hb,hq⟩:=List.mem_flatMap.1 hq;exact⟨b,hb,((ih b (hg b (by simp[hb]))).2 q hq).2⟩
    rw[List.flatMap_cons];refine⟨Sorted.append.2 ⟨a1,i1,?_⟩,?_⟩
    ·intro x hx y hy;obtain⟨b,hb,hyb⟩:=hlow y hy;exact qN6 ((hp1 b hb).2 x hx) hyb
    ·intro q hq;rcases List.mem_append.1 hq with hq|hq
     ·exact⟨(a2 q hq).1,by simpa using (a2 q hq).2⟩
     ·obtain⟨b,hb,hqb⟩:=hlow q hq;refine⟨(i2 q hq).1,?_⟩;simp only[List.head?_cons,Option.mem_def,Option.some.injEq,forall_eq'];exact zX7 (qO4 (hp1 b hb).1) hqb
  obtain⟨k1,k2⟩:=key ls (fun l hl=>(ha l hl).1) hp;refine⟨k1,fun q hq=>?_⟩;obtain⟨q1,q2⟩:=k2 q hq;refine⟨q1,?_⟩
  cases hls:(ls:List (Lnk (Tn n))) with
  | nil=>rw[show cont (n+1) ls=List.flatMap (fun l:Lnk (Tn n)=>cont n l.sub) ls from rfl,hls] at hq;simp at hq
  | cons a r=>
   have e:=hh a (by rw[hls];simp);have:=q2 a (by rw[hls];simp);rw[e] at this;exact this
section
variable {α:Type} (f:α→Nat)
theorem qY6(all m:Nat):∀ (l:List α) (n:Nat),(∀ x∈l,f x≤m)→2*n<all+2*m→all≤2*(n+meas f l)→
  all≤2*(n+meas f (l.take (qE3 f all l n)))∧2*(n+meas f (l.take (qE3 f all l n)))<all+2*m
 | [],n,_,h1,h2=>by simp[qE3,meas] at *;omega
 | x::xs,n,hm,h1,h2=>by
  unfold qE3;have hx:=hm x (by simp);split
  ·have ih:=qY6 all m xs (n+f x) (fun y hy=>hm y (by simp[hy])) (by omega) (by rw[qE6] at h2;omega);rw[List.take_succ_cons,qE6];omega
  ·simp[meas];omega
theorem qM6(m:Nat):∀ (l:List α),(∀ x∈l,f x≤m)→meas f l≤m*l.length
 | [],_=>by simp[meas]
 | x::xs,h=>by
  have h1:=h x (by simp);have h2:=qM6 m xs fun y hy=>h y (by simp[hy]);rw[qE6,List.length_cons,Nat.mul_succ];omega
theorem qO6(l:List α)(i:Nat):meas f (l.take i)+meas f (l.drop i)=meas f l:=by
 rw[←qG3,List.take_append_drop]
theorem qZ3(l:List α)(hm:∀ x∈l,f x≤21)(hl:meas f l≤210):
  (qB7 f l=[l]∧meas f l≤126)∨∃ a b,qB7 f l=[a,b]∧a++b=l∧meas f a≤126∧meas f b≤126∧3≤a.length∧3≤b.length:=by
 unfold qB7;split
 ·exact .inl ⟨rfl,by assumption⟩
 ·next h=>
  right;have hs:=qY6 f (meas f l) 21 l 0 hm (by omega) (by omega);have ht:=qO6 f l (qE3 f (meas f l) l 0);refine⟨_,_,rfl,List.take_append_drop _ _,by omega,by omega,?_,?_⟩
  ·have:=qM6 f 21 (l.take (qE3 f (meas f l) l 0)) fun x hx=>hm x (List.mem_of_mem_take hx);omega
  ·have:=qM6 f 21 (l.drop (qE3 f (meas f l) l 0)) fun x hx=>hm x (List.mem_of_mem_drop hx);omega
end
theorem qT2{lo:ByteArray}{ps:List KV}(hs:Sorted ps)(ho:∀ p∈ps,qC6 p∧kl p.k lo=false)(hm:meas ρ ps≤210)(hlo:lo.size≤8):
  Row0 0 lo (qD6 lo ps)∧(qD6 lo ps).flatMap (fun l=>cont 0 l.sub)=ps∧
  ((∃ a,qD6 lo ps=[a]∧a.key=lo∧a.ref=none∧a.sub=ps)∨∃ a b,qD6 lo ps=[a,b]∧a.key=lo∧a.ref=none∧b.ref=none∧3≤cnt 0 a.sub∧3≤cnt 0 b.sub):=by
 have hsz:∀ x∈ps,ρ x≤21:=fun x hx=>by obtain⟨⟨h1,h2,h3⟩,_⟩:=ho x hx;unfold ρ;omega
 rcases qZ3 ρ ps hsz hm with⟨e,h1⟩|⟨a,b,e,hab,ha,hb,ha3,hb3⟩
 ·have e':qD6 lo ps=[⟨lo,none,ps⟩]:=by unfold qD6;rw[e];rfl
  rw[e'];refine⟨⟨by simp,?_,by simp⟩,List.append_nil ps,.inl ⟨_,rfl,rfl,rfl,rfl⟩⟩;intro l hl;rw[List.mem_singleton.1 hl];exact⟨⟨hs,ho,h1⟩,hlo⟩
 ·subst hab;obtain⟨c,r,rfl⟩:∃ c r,b=c::r:=by cases b with
   | nil=>simp at hb3
   | cons c r=>exact⟨c,r,rfl⟩
  obtain⟨c0,r0,rfl⟩:∃ c r,a=c::r:=by cases a with
   | nil=>simp at ha3
   | cons c r=>exact⟨c,r,rfl⟩
  have e':qD6 lo (c0::r0++c::r)=[⟨lo,none,c0::r0⟩,⟨c.k,none,c::r⟩]:=by unfold qD6;rw[e];rfl
  rw[e'];obtain⟨s1,s2,s3⟩:=Sorted.append.1 hs;have hc:=ho c (by simp);refine⟨⟨by simp,?_,?_⟩,show c0::r0++(c::r++[])=_ by simp,.inr ⟨_,_,rfl,rfl,rfl,rfl,ha3,hb3⟩⟩
  ·intro l hl;simp only[List.mem_cons,List.not_mem_nil,or_false] at hl;rcases hl with rfl|rfl
   ·exact⟨⟨s1,fun p hp=>ho p (by simp at hp ⊢;rcases hp with h | h<;>simp[h]),ha⟩,hlo⟩
   ·refine⟨⟨s2,fun p hp=>⟨(ho p (List.mem_append_right _ hp)).1,?_⟩,hb⟩,hc.1.2.1⟩;rcases List.mem_cons.1 hp with rfl|hp
    ·exact qN5 _
    ·exact qO4 ((List.pairwise_cons.1 s2).1 p hp)
  ·simp only[List.pairwise_cons,List.mem_cons,List.not_mem_nil,or_false,forall_eq,List.Pairwise.nil,and_true,false_implies,implies_true];refine⟨qV5 (ho c0 (by simp)).2 (s3 c0 (by simp) c (by simp)),fun q hq=>s3 q hq c (by simp)⟩
theorem zD7{n:Nat}{lo:ByteArray}{ls:List (Lnk (Tn n))}(h:Row0 n lo ls)(h3:∀ l∈ls,3≤cnt n l.sub)(hm:meas qA2 ls≤210)(hlo:lo.size≤8):
  Row0 (n+1) lo (qD4 n lo ls)∧(qD4 n lo ls).flatMap (fun l=>cont (n+1) l.sub)=ls.flatMap (fun l=>cont n l.sub)∧
  ((∃ a,qD4 n lo ls=[a]∧a.key=lo∧a.ref=none∧a.sub=ls)∨∃ a b,qD4 n lo ls=[a,b]∧a.key=lo∧a.ref=none∧b.ref=none∧3≤cnt (n+1) a.sub∧3≤cnt (n+1) b.sub):=by
 have hsz:∀ x∈ls,qA2 x≤21:=fun x hx=>by have:=(h.all x hx).2;unfold qA2;omega
 rcases qZ3 qA2 ls hsz hm with⟨e,h1⟩|⟨a,b,e,hab,ha,hb,ha3,hb3⟩
 ·have e':qD4 n lo ls=[⟨lo,none,ls⟩]:=by unfold qD4;rw[e];rfl
  rw[e'];refine⟨⟨by simp,?_,by simp⟩,List.append_nil _,.inl ⟨_,rfl,rfl,rfl,rfl⟩⟩;intro l hl;rw[List.mem_singleton.1 hl];exact⟨⟨h.head,fun l hl=>⟨(h.all l hl).1,h3 l hl,(h.all l hl).2⟩,h.pair,h1⟩,hlo⟩
 ·subst hab;obtain⟨c,r,rfl⟩:∃ c r,b=c::r:=by cases b with
   | nil=>simp at hb3
   | cons c r=>exact⟨c,r,rfl⟩
  obtain⟨c0,r0,rfl⟩:∃ c r,a=c::r:=by cases a with
   | nil=>simp at ha3
   | cons c r=>exact⟨c,r,rfl⟩
  have e':qD4 n lo (c0::r0++c::r)=[⟨lo,none,c0::r0⟩,⟨c.key,none,c::r⟩]:=by unfold qD4;rw[e];rfl
  rw[e'];obtain⟨s1,s2,s3⟩:=List.pairwise_append.1 h.pair;have hc0:=h.head c0 (by simp);have hall:∀ l∈c0::r0++c::r,Good n l.key l.sub∧3≤cnt n l.sub∧l.key.size≤8:=fun l hl=>⟨(h.all l hl).1,h3 l hl,(h.all l hl).2⟩;refine⟨⟨by simp,?_,?_⟩,?_,.inr ⟨_,_,rfl,rfl,rfl,rfl,ha3,hb3⟩⟩
  rotate_left 2
  ·show List.flatMap _ (c0::r0)++(List.flatMap _ (c::r)++[])=_;rw[List.append_nil,←List.flatMap_append]
  ·intro l hl;simp only[List.mem_cons,List.not_mem_nil,or_false] at hl;rcases hl with rfl|rfl
   ·exact⟨⟨by simpa using hc0,fun l hl=>hall l (List.mem_append_left _ hl),s1,ha⟩,hlo⟩
   ·exact⟨⟨by simp,fun l hl=>hall l (List.mem_append_right _ hl),s2,hb⟩,(hall c (by simp)).2.2⟩
  ·simp only[List.pairwise_cons,List.mem_cons,List.not_mem_nil,or_false,forall_eq,List.Pairwise.nil,and_true,false_implies,implies_true];refine⟨by rw[←hc0];exact (s3 c0 (by simp) c (by simp)).1,fun q hq=>?_⟩;obtain⟨l,hl,hq⟩:=List.mem_flatMap.1 hq;exact (s3 l hl c (by simp)).2 q hq
def η{n:Nat}(t:Tn (n+1)):List (Lnk (Tn n)):=t
def prs(t:Tn 0):List KV:=t
theorem zE0:∀ (n:Nat) (lo:ByteArray) (t:Tn n),Good n lo t→1≤cnt n t→∃ q,q∈cont n t
 | 0,lo,ps,h,h1=>by
  have h2:1≤(prs ps).length:=h1;obtain⟨a,ha⟩:=List.exists_mem_of_length_pos (l:=prs ps) (by omega);exact⟨a,ha⟩
 | n+1,lo,ls,h,h1=>by
  have h2:1≤(η ls).length:=h1;obtain⟨a,ha⟩:=List.exists_mem_of_length_pos (l:=η ls) (by omega);have hg:=h.all a ha;obtain⟨q,hq⟩:=zE0 n a.key a.sub hg.1 (by omega);exact⟨q,List.mem_flatMap.2 ⟨a,ha,hq⟩⟩
theorem zC0{n:Nat}{lo k:ByteArray}{ls:List (Lnk (Tn n))}(h:Row0 n lo ls)(hne:ls≠[])(hk:kl k lo=false):
  ∃ A m B,ls=A++m::B∧A.length=qB0 ls k∧kl k m.key=false∧(∀ a∈A,∀ q∈cont n a.sub,kl q.k k=true)∧(∀ b∈B,kl k b.key=true):=by
 have hpos:1≤ls.findIdx (fun l=>kl k l.key):=by
  cases ls with
  | nil=>exact absurd rfl hne
  | cons a r=>
   have e:=h.head a (by simp);rw[List.findIdx_cons,e,hk];simp
 have hle:ls.findIdx (fun l=>kl k l.key)≤ls.length:=List.findIdx_le_length;have hi:qB0 ls k<ls.length:=by unfold qB0;omega
 have hm:kl k (ls[qB0 ls k]).key=false:=by
  have:=List.not_of_lt_findIdx (p:=fun l:Lnk (Tn n)=>kl k l.key) (xs:=ls) (i:=qB0 ls k) (by unfold qB0;omega);simpa using this
 have hsp:ls=ls.take (qB0 ls k)++ls[qB0 ls k]::ls.drop (qB0 ls k+1):=by
  rw[List.getElem_cons_drop];simp
 have hp:=h.pair;rw[hsp] at hp;obtain⟨p1,p2,p3⟩:=List.pairwise_append.1 hp;refine⟨ls.take (qB0 ls k),ls[qB0 ls k],ls.drop (qB0 ls k+1),hsp,by simp;omega,hm,?_,?_⟩
 ·intro a ha q hq;exact qN6 ((p3 a ha _ (List.mem_cons_self ..)).2 q hq) hm
 ·intro b hb;have e:qB0 ls k+1=ls.findIdx (fun l=>kl k l.key):=by unfold qB0;omega
  rw[e] at hb;by_cases hlt:ls.findIdx (fun l=>kl k l.key)<ls.length
  ·have h0:kl k (ls[ls.findIdx (fun l=>kl k l.key)]).key=true:=List.findIdx_getElem (w:=hlt);rw[List.drop_eq_getElem_cons hlt] at hb;rcases List.mem_cons.1 hb with rfl|hb
   ·exact h0
   ·have hp2:=h.pair;rw[←List.take_append_drop (ls.findIdx (fun l=>kl k l.key)) ls,List.drop_eq_getElem_cons hlt] at hp2;have:=(List.pairwise_cons.1 (List.pairwise_append.1 hp2).2.1).1 b hb;exact qM4 h0 this.1
  ·rw[List.drop_of_length_le (by omega)] at hb;simp at hb
theorem Row0.keys{n:Nat}{lo:ByteArray}{W:List (Lnk (Tn n))}(h:Row0 n lo W):∀ w∈W,kl w.key lo=false:=by
 intro w hw
 cases W with
 | nil=>simp at hw
 | cons a r=>
  have e:=h.head a (by simp);rcases List.mem_cons.1 hw with rfl|hw
  ·rw[e];exact qN5 _
  ·have:=((List.pairwise_cons.1 h.pair).1 w hw).1;rw[e] at this;exact qO4 this
theorem zB2{n:Nat}{lo:ByteArray}{A B W:List (Lnk (Tn n))}{m:Lnk (Tn n)}(h:Row0 n lo (A++m::B))(hW:Row0 n m.key W)(hne:W≠[])(hc:∀ w∈W,1≤cnt n w.sub)
  (hB:∀ w∈W,∀ q∈cont n w.sub,∀ b∈B,kl q.k b.key=true):Row0 n lo (A++W++B):=by
 obtain⟨p1,p2,p3⟩:=List.pairwise_append.1 h.pair;obtain⟨p4,p5⟩:=List.pairwise_cons.1 p2;refine⟨?_,?_,?_⟩
 ·intro l hl
  cases A with
  | nil=>
   have e:=h.head m (by simp)
   cases W with
   | nil=>exact absurd rfl hne
   | cons w W=>
    simp at hl;rw[←hl,hW.head w (by simp),e]
  | cons a A=>
   simp at hl;rw[←hl];exact h.head a (by simp)
 ·intro l hl;simp only[List.mem_append] at hl;rcases hl with (hl|hl)|hl
  ·exact h.all l (by simp[hl])
  ·exact hW.all l hl
  ·exact h.all l (by simp[hl])
 ·rw[List.append_assoc];refine List.pairwise_append.2 ⟨p1,List.pairwise_append.2 ⟨hW.pair,p5,?_⟩,?_⟩
  ·intro w hw b hb;obtain⟨q,hq⟩:=zE0 n w.key w.sub (hW.all w hw).1 (hc w hw);have hqb:=hB w hw q hq b hb;have hqw:=((qK7 n w.key w.sub (hW.all w hw).1).2 q hq).2;exact⟨qV5 hqw hqb,fun q hq=>hB w hw q hq b hb⟩
  ·intro a ha x hx;rcases List.mem_append.1 hx with hx|hx
   ·have hm:=p3 a ha m (by simp);have hk:=hW.keys x hx;exact⟨qN6 hm.1 hk,fun q hq=>qN6 (hm.2 q hq) hk⟩
   ·exact p3 a ha x (by simp[hx])
theorem zH9(p:KV){l:List KV}(hs:Sorted l):meas ρ (ins p l)≤meas ρ l+ρ p:=by
 rw[qR6 hs,qG3,qG3,qE6,qE7];have h1:=qO6 ρ l (qB2 l p.k);have h2:meas ρ (l.drop (if qF6 l (qB2 l p.k) p.k then qB2 l p.k+1 else qB2 l p.k))≤meas ρ (l.drop (qB2 l p.k)):=by
  split
  ·have:=qO6 ρ (l.drop (qB2 l p.k)) 1;rw[List.drop_drop] at this;omega
  ·exact Nat.le_refl _
 omega
theorem xY3(p:KV){l:List KV}(hs:Sorted l):l.length≤(ins p l).length:=by
 rw[qR6 hs];have:=qU5 l p.k;simp only[List.length_append,List.length_take,List.length_drop,List.length_cons,List.length_nil];split<;>omega
def Made(n:Nat)(l:Lnk (Tn n))(d:Nat)(W:List (Lnk (Tn n))):Prop:=
 (∃ a,W=[a]∧a.key=l.key∧a.ref=none∧cnt n l.sub≤cnt n a.sub+d)∨∃ a b,W=[a,b]∧a.key=l.key∧a.ref=none∧b.ref=none∧3≤cnt n a.sub∧3≤cnt n b.sub
theorem Made.ne{n:Nat}{l:Lnk (Tn n)}{d:Nat}{W:List (Lnk (Tn n))}(h:Made n l d W):W≠[]:=by
 rcases h with⟨a,rfl,_⟩|⟨a,b,rfl,_⟩<;>simp
theorem Made.meas{n:Nat}{l:Lnk (Tn n)}{d:Nat}{W:List (Lnk (Tn n))}(h:Made n l d W)(hk:∀ w∈W,w.key.size≤8):meas qA2 W≤qA2 l+19:=by
 rcases h with⟨a,rfl,e,_⟩|⟨a,b,rfl,e,_⟩
 ·simp[YtdohpenfkdckiaaGreatDoor.meas,qA2,e]
 ·have:=hk b (by simp);simp[YtdohpenfkdckiaaGreatDoor.meas,qA2,e];omega
theorem qX1:∀ (n:Nat) (l:Lnk (Tn n)) (p:KV),Good n l.key l.sub→qC6 p→kl p.k l.key=false→l.key.size≤8→1≤cnt n l.sub→
  Row0 n l.key (qE1 n l p)∧(qE1 n l p).flatMap (fun l=>cont n l.sub)=ins p (cont n l.sub)∧Made n l 0 (qE1 n l p)
 | 0,l,p,h,hp,hk,hz,h1=>by
  have hs:Sorted l.sub:=h.sorted;have e:qG0 p l.sub=ins p l.sub:=(qR6 hs p).symm;have hm:=zH9 p hs;have hps:ρ p≤21:=by obtain⟨h1,h2,h3⟩:=hp;unfold ρ;omega
  obtain⟨r1,r2,r3⟩:=qT2 (lo:=l.key) (ps:=ins p l.sub) (hs.ins p) (fun q hq=>by
   rcases zA4 hq with rfl|hq
   ·exact⟨hp,hk⟩
   ·exact h.all q hq) (by have:=h.fits;omega) hz
  show Row0 0 l.key (qD6 l.key (qG0 p l.sub))∧List.flatMap _ (qD6 l.key (qG0 p l.sub))=_∧Made 0 l 0 (qD6 l.key (qG0 p l.sub));rw[e];refine⟨r1,r2,?_⟩;rcases r3 with⟨a,e1,e2,e3,e4⟩|⟨a,b,e1,e2,e3,e4,e5,e6⟩
  ·refine .inl ⟨a,e1,e2,e3,?_⟩;rw[e4];exact xY3 p hs
  ·exact .inr ⟨a,b,e1,e2,e3,e4,e5,e6⟩
 | n+1,l,p,h,hp,hk,hz,h1=>by
  have hr:Row0 n l.key l.sub:=⟨h.head,fun m hm=>⟨(h.all m hm).1,(h.all m hm).2.2⟩,h.pair⟩;obtain⟨A,m,B,e,hA,hkm,hqA,hqB⟩:=zC0 (k:=p.k) hr (by intro e;have h2:1≤List.length (α:=Lnk (Tn n)) l.sub:=h1;rw[e] at h2;simp at h2) hk;have hall:∀ x∈A++m::B,Good n x.key x.sub∧3≤cnt n x.sub∧x.key.size≤8:=fun x hx=>h.all x (by rw[e];exact hx);have hm:=hall m (by simp);obtain⟨w1,w2,w3⟩:=qX1 n m p hm.1 hp hkm hm.2.2 (by omega);have hwc:∀ w∈qE1 n m p,3≤cnt n w.sub:=by
   rcases w3 with⟨a,e1,_,_,e4⟩|⟨a,b,e1,_,_,_,e5,e6⟩
   ·rw[e1];intro w hw;rw[List.mem_singleton.1 hw];omega
   ·rw[e1];intro w hw;simp only[List.mem_cons,List.not_mem_nil,or_false] at hw;rcases hw with rfl|rfl<;>assumption
  have hr':Row0 n l.key (A++m::B):=by rw[←e];exact hr
  have hqm:∀ w∈qE1 n m p,∀ q∈cont n w.sub,q=p∨q∈cont n m.sub:=fun w hw q hq=>by
   have:q∈(qE1 n m p).flatMap (fun l=>cont n l.sub):=List.mem_flatMap.2 ⟨w,hw,hq⟩;rw[w2] at this;exact zA4 this
  have hpair:=List.pairwise_append.1 hr'.pair;have hsp:=zB2 hr' w1 w3.ne (fun w hw=>by have:=hwc w hw;omega) (fun w hw q hq b hb=>by
   rcases hqm w hw q hq with rfl|hq
   ·exact hqB b hb
   ·exact ((List.pairwise_cons.1 hpair.2.1).1 b hb).2 q hq)
  have hmW:=w3.meas (fun w hw=>(w1.all w hw).2);have hfit:meas qA2 (A++m::B)≤126:=by have:=h.fits;rw[e] at this;exact this
  have hmm:meas qA2 (A++qE1 n m p++B)≤210:=by
   rw[qG3,qG3];rw[qG3,qE6] at hfit;omega
  have hget:(η l.sub)[qB0 (η l.sub) p.k]?=some m:=by rw[show qB0 (η l.sub) p.k=A.length from hA.symm,show η l.sub=A++m::B from e];simp
  have htake:(η l.sub).take (qB0 (η l.sub) p.k)=A:=by rw[show qB0 (η l.sub) p.k=A.length from hA.symm,show η l.sub=A++m::B from e];simp
  have hdrop:(η l.sub).drop (qB0 (η l.sub) p.k+1)=B:=by
   rw[show qB0 (η l.sub) p.k=A.length from hA.symm,show η l.sub=(A++[m])++B by rw[show η l.sub=A++m::B from e];simp];exact List.drop_left' (by simp)
  have hw:qE1 (n+1) l p=qD4 n l.key (A++qE1 n m p++B):=by
   show (match (η l.sub)[qB0 (η l.sub) p.k]? with
    | some m=>qD4 n l.key ((η l.sub).take (qB0 (η l.sub) p.k)++qE1 n m p++(η l.sub).drop (qB0 (η l.sub) p.k+1))
    | none=>[])=_
   rw[hget,htake,hdrop]
  rw[hw];obtain⟨b1,b2,b3⟩:=zD7 hsp (fun x hx=>by
   simp only[List.mem_append] at hx;rcases hx with (hx|hx)|hx
   ·exact (hall x (by simp[hx])).2.1
   ·exact hwc x hx
   ·exact (hall x (by simp[hx])).2.1) hmm hz
  refine⟨b1,?_,?_⟩
  ·rw[b2];show _=ins p (List.flatMap (fun l:Lnk (Tn n)=>cont n l.sub) l.sub);rw[e];simp only[List.flatMap_append,w2,List.flatMap_cons];rw[←List.append_assoc,xY5 (fun q hq=>by obtain⟨a,ha,hq⟩:=List.mem_flatMap.1 hq;exact hqA a ha q hq) (fun q hq=>by
    obtain⟨b,hb,hq⟩:=List.mem_flatMap.1 hq;exact qN6 (hqB b hb) ((qK7 n b.key b.sub (hall b (by simp[hb])).1).2 q hq).2)]
  ·rcases b3 with⟨a,e1,e2,e3,e4⟩|⟨a,b,e1,e2,e3,e4,e5,e6⟩
   ·refine .inl ⟨a,e1,e2,e3,?_⟩;rw[e4];show List.length (α:=Lnk (Tn n)) l.sub≤List.length (α:=Lnk (Tn n)) (A++qE1 n m p++B);rw[e];have:1≤(qE1 n m p).length:=by
     rcases w3 with⟨a,e1,_⟩|⟨a,b,e1,_⟩<;>rw[e1]<;>simp
    simp;omega
   ·exact .inr ⟨a,b,e1,e2,e3,e4,e5,e6⟩
theorem jA0:∀ (n:Nat) (a b:Lnk (Tn n)),Good n a.key a.sub→Good n b.key b.sub→qP6 n a b→(cnt n a.sub≤2∨cnt n b.sub≤2)→a.key.size≤8→3≤cnt n a.sub+cnt n b.sub→1≤cnt n a.sub→
  Row0 n a.key (qD8 n a.key a.sub b.sub)∧(qD8 n a.key a.sub b.sub).flatMap (fun l=>cont n l.sub)=cont n a.sub++cont n b.sub∧(∀ w∈qD8 n a.key a.sub b.sub,3≤cnt n w.sub)∧qD8 n a.key a.sub b.sub≠[]∧meas qA2 (qD8 n a.key a.sub b.sub)≤qA2 a+19
 | 0,a,b,ha,hb,hab,hc,hz,h3,h1=>by
  have hs:Sorted (prs a.sub++prs b.sub):=Sorted.append.2 ⟨ha.sorted,hb.sorted,fun x hx y hy=>qN6 (hab.2 x hx) (hb.all y hy).2⟩;have ho:∀ p∈prs a.sub++prs b.sub,qC6 p∧kl p.k a.key=false:=fun p hp=>by
   rcases List.mem_append.1 hp with hp|hp
   ·exact ha.all p hp
   ·exact⟨(hb.all p hp).1,zX7 (qO4 hab.1) (hb.all p hp).2⟩
  have hsz:∀ p∈prs a.sub++prs b.sub,ρ p≤21:=fun p hp=>by obtain⟨⟨h1,h2,h3⟩,_⟩:=ho p hp;unfold ρ;omega
  have hm:meas ρ (prs a.sub++prs b.sub)≤210:=by
   rw[qG3];have h1:=qM6 ρ 21 (prs a.sub) fun p hp=>hsz p (List.mem_append_left _ hp);have h2:=qM6 ρ 21 (prs b.sub) fun p hp=>hsz p (List.mem_append_right _ hp);have h3:meas ρ (prs a.sub)≤126:=ha.fits;have h4:meas ρ (prs b.sub)≤126:=hb.fits;have h5:(prs a.sub).length≤2∨(prs b.sub).length≤2:=hc;omega
  obtain⟨r1,r2,r3⟩:=qT2 hs ho hm hz;refine⟨r1,r2,?_,?_,?_⟩
  ·intro w hw;rw[show qD8 0 a.key a.sub b.sub=qD6 a.key (prs a.sub++prs b.sub) from rfl] at hw;rcases r3 with⟨x,e1,e2,e3,e4⟩|⟨x,y,e1,e2,e3,e4,e5,e6⟩
   ·rw[e1] at hw;rw[List.mem_singleton.1 hw,e4];show 3≤(prs a.sub++prs b.sub).length;rw[List.length_append];exact h3
   ·rw[e1] at hw;simp only[List.mem_cons,List.not_mem_nil,or_false] at hw;rcases hw with rfl|rfl<;>assumption
  ·show qD6 a.key (prs a.sub++prs b.sub)≠[];rcases r3 with⟨x,e1,_⟩|⟨x,y,e1,_⟩<;>rw[e1]<;>simp
  ·show meas qA2 (qD6 a.key (prs a.sub++prs b.sub))≤_;rcases r3 with⟨x,e1,e2,_⟩|⟨x,y,e1,e2,_⟩
   ·rw[e1];simp[meas,qA2,e2]
   ·have:=(r1.all y (by rw[e1];simp)).2;rw[e1];simp[meas,qA2,e2];omega
 | n+1,a,b,ha,hb,hab,hc,hz,h3,h1=>by
  have hall:∀ l∈η a.sub++η b.sub,Good n l.key l.sub∧3≤cnt n l.sub∧l.key.size≤8:=fun l hl=>by
   rcases List.mem_append.1 hl with hl|hl
   ·exact ha.all l hl
   ·exact hb.all l hl
  have hkb:∀ l∈η b.sub,kl l.key b.key=false:=fun l hl=>(Row0.keys (W:=η b.sub) ⟨hb.head,fun m hm=>⟨(hb.all m hm).1,(hb.all m hm).2.2⟩,hb.pair⟩) l hl;have hae:η a.sub≠[]:=fun e=>by
   have h4:1≤(η a.sub).length:=h1;rw[e] at h4;simp at h4
  have hr:Row0 n a.key (η a.sub++η b.sub):=by
   refine⟨?_,fun l hl=>⟨(hall l hl).1,(hall l hl).2.2⟩,List.pairwise_append.2 ⟨ha.pair,hb.pair,?_⟩⟩
   ·intro l hl;rw[List.head?_append] at hl
    cases hx:η a.sub with
    | nil=>exact absurd hx hae
    | cons x r=>
     rw[hx] at hl;exact ha.head l (by show l∈(η a.sub).head?;rw[hx];simpa using hl)
   ·intro x hx y hy;have hxg:=hall x (List.mem_append_left _ hx);have hxb:∀ q∈cont n x.sub,kl q.k y.key=true:=fun q hq=>qN6 (hab.2 q (List.mem_flatMap.2 ⟨x,hx,hq⟩)) (hkb y hy);obtain⟨q,hq⟩:=zE0 n x.key x.sub hxg.1 (by omega);exact⟨qV5 ((qK7 n x.key x.sub hxg.1).2 q hq).2 (hxb q hq),hxb⟩
  have hsz:∀ l∈η a.sub++η b.sub,qA2 l≤21:=fun l hl=>by have:=(hall l hl).2.2;unfold qA2;omega
  have hm:meas qA2 (η a.sub++η b.sub)≤210:=by
   rw[qG3];have h1:=qM6 qA2 21 (η a.sub) fun p hp=>hsz p (List.mem_append_left _ hp);have h2:=qM6 qA2 21 (η b.sub) fun p hp=>hsz p (List.mem_append_right _ hp);have h3:meas qA2 (η a.sub)≤126:=ha.fits;have h4:meas qA2 (η b.sub)≤126:=hb.fits;have h5:(η a.sub).length≤2∨(η b.sub).length≤2:=hc;omega
  obtain⟨r1,r2,r3⟩:=zD7 hr (fun l hl=>(hall l hl).2.1) hm hz;refine⟨r1,?_,?_,?_,?_⟩
  ·refine Eq.trans r2 ?_;rw[List.flatMap_append];rfl
  ·intro w hw;rw[show qD8 (n+1) a.key a.sub b.sub=qD4 n a.key (η a.sub++η b.sub) from rfl] at hw;rcases r3 with⟨x,e1,e2,e3,e4⟩|⟨x,y,e1,e2,e3,e4,e5,e6⟩
   ·rw[e1] at hw;rw[List.mem_singleton.1 hw,e4];show 3≤(η a.sub++η b.sub).length;rw[List.length_append];exact h3
   ·rw[e1] at hw;simp only[List.mem_cons,List.not_mem_nil,or_false] at hw;rcases hw with rfl|rfl<;>assumption
  ·show qD4 n a.key (η a.sub++η b.sub)≠[];rcases r3 with⟨x,e1,_⟩|⟨x,y,e1,_⟩<;>rw[e1]<;>simp
  ·show meas qA2 (qD4 n a.key (η a.sub++η b.sub))≤_;rcases r3 with⟨x,e1,e2,_⟩|⟨x,y,e1,e2,_⟩
   ·rw[e1];simp[meas,qA2,e2]
   ·have:=(r1.all y (by rw[e1];simp)).2;rw[e1];simp[meas,qA2,e2];omega
theorem Row0.drop_one{n:Nat}{lo:ByteArray}{P Q:List (Lnk (Tn n))}{a b:Lnk (Tn n)}(h:Row0 n lo (P++a::b::Q)):Row0 n lo (P++a::Q):=
 ⟨fun l hl=>h.head l (by cases P<;>simpa using hl),fun l hl=>h.all l (by
  rcases List.mem_append.1 hl with hl|hl
  ·simp[hl]
  ·rcases List.mem_cons.1 hl with rfl|hl
   ·simp
   ·simp[hl]),h.pair.sublist (List.Sublist.append_left (List.Sublist.cons_cons _ (List.sublist_cons_self _ _)) _)⟩
theorem xA7{n:Nat}{lo:ByteArray}{P Q:List (Lnk (Tn n))}{a b:Lnk (Tn n)}(h:Row0 n lo (P++a::b::Q))(hP:∀ x∈P,3≤cnt n x.sub)(hQ:∀ x∈Q,3≤cnt n x.sub)(hc:cnt n a.sub≤2∨cnt n b.sub≤2)(h3:3≤cnt n a.sub+cnt n b.sub)(h1:1≤cnt n a.sub):
  Row0 n lo (P++qD8 n a.key a.sub b.sub++Q)∧(P++qD8 n a.key a.sub b.sub++Q).flatMap (fun l=>cont n l.sub)=(P++a::b::Q).flatMap (fun l=>cont n l.sub)∧(∀ x∈P++qD8 n a.key a.sub b.sub++Q,3≤cnt n x.sub)∧
  (P++a::b::Q).length≤(P++qD8 n a.key a.sub b.sub++Q).length+1∧meas qA2 (P++qD8 n a.key a.sub b.sub++Q)≤meas qA2 (P++a::b::Q)+19:=by
 have hp:=List.pairwise_append.1 h.pair;have hp2:=List.pairwise_cons.1 hp.2.1;have hp3:=List.pairwise_cons.1 hp2.2;have ga:=h.all a (by simp);have gb:=h.all b (by simp);obtain⟨j1,j2,j3,j4,j5⟩:=jA0 n a b ga.1 gb.1 (hp2.1 b (by simp)) hc ga.2 h3 h1;refine⟨zB2 h.drop_one j1 j4 (fun w hw=>by have:=j3 w hw;omega) ?_,?_,?_,?_,?_⟩
 ·intro w hw q hq x hx;have:q∈(qD8 n a.key a.sub b.sub).flatMap (fun l=>cont n l.sub):=List.mem_flatMap.2 ⟨w,hw,hq⟩;rw[j2] at this;rcases List.mem_append.1 this with hq|hq
  ·exact (hp2.1 x (by simp[hx])).2 q hq
  ·exact (hp3.1 x hx).2 q hq
 ·simp only[List.flatMap_append,List.flatMap_cons,j2,List.append_assoc]
 ·intro x hx;simp only[List.mem_append] at hx;rcases hx with (hx|hx)|hx
  ·exact hP x hx
  ·exact j3 x hx
  ·exact hQ x hx
 ·have:1≤(qD8 n a.key a.sub b.sub).length:=List.length_pos_iff.2 j4;simp;omega
 ·simp only[qG3,qE6];omega
theorem xA8{n:Nat}{lo:ByteArray}{A W B:List (Lnk (Tn n))}{m:Lnk (Tn n)}(h:Row0 n lo (A++W++B))(hA:∀ x∈A,3≤cnt n x.sub)(hB:∀ x∈B,3≤cnt n x.sub)(hW:Made n m 1 W)(hm:3≤cnt n m.sub)(hlen:2≤(A++W++B).length):
  Row0 n lo (qC2 n (A++W++B) A.length)∧(qC2 n (A++W++B) A.length).flatMap (fun l=>cont n l.sub)=(A++W++B).flatMap (fun l=>cont n l.sub)∧(∀ x∈qC2 n (A++W++B) A.length,3≤cnt n x.sub)∧
  (A++W++B).length≤(qC2 n (A++W++B) A.length).length+1∧meas qA2 (qC2 n (A++W++B) A.length)≤meas qA2 (A++W++B)+19:=by
 have stay:(∀ x∈W,3≤cnt n x.sub)→Row0 n lo (qC2 n (A++W++B) A.length)∧(qC2 n (A++W++B) A.length).flatMap (fun l=>cont n l.sub)=(A++W++B).flatMap (fun l=>cont n l.sub)∧(∀ x∈qC2 n (A++W++B) A.length,3≤cnt n x.sub)∧
  (A++W++B).length≤(qC2 n (A++W++B) A.length).length+1∧meas qA2 (qC2 n (A++W++B) A.length)≤meas qA2 (A++W++B)+19:=by
  intro h3;have e:qC2 n (A++W++B) A.length=A++W++B:=by
   obtain⟨a,r,rfl⟩:∃ a r,W=a::r:=by
    rcases hW with⟨a,rfl,_⟩|⟨a,b,rfl,_⟩
    ·exact⟨a,[],rfl⟩
    ·exact⟨a,[b],rfl⟩
   have:(A++a::r++B)[A.length]?=some a:=by simp
   unfold qC2;rw[this];simp[h3 a (by simp)]
  rw[e];refine⟨h,rfl,?_,by omega,by omega⟩;intro x hx;simp only[List.mem_append] at hx;rcases hx with (hx|hx)|hx
  ·exact hA x hx
  ·exact h3 x hx
  ·exact hB x hx
 rcases hW with⟨a,rfl,e1,e2,e3⟩|⟨a,b,rfl,e1,e2,e3,e4,e5⟩
 ·by_cases h3:3≤cnt n a.sub
  ·exact stay (fun x hx=>by rw[List.mem_singleton.1 hx];exact h3)
  ·clear stay;have hat:(A++[a]++B)[A.length]?=some a:=by simp
   cases B with
   | cons b Q=>
    have hmin:min A.length ((A++[a]++b::Q).length-2)=A.length:=by simp;omega
    have ha1:(A++[a]++b::Q)[A.length+1]?=some b:=by
     rw[show A++[a]++b::Q=(A++[a])++b::Q from rfl,List.getElem?_append_right (by simp)];simp
    have e:qC2 n (A++[a]++b::Q) A.length=A++qD8 n a.key a.sub b.sub++Q:=by
     unfold qC2;rw[hat];simp only[h3,if_false,hmin,hat,ha1]
     congr 2
     ·simp
     ·rw[show A++[a]++b::Q=(A++[a,b])++Q by simp];exact List.drop_left' (by simp)
    rw[e];have hb3:=hB b (by simp);have:=xA7 (P:=A) (Q:=Q) (a:=a) (b:=b) (lo:=lo) (by simpa using h) hA (fun x hx=>hB x (by simp[hx])) (.inl (by omega)) (by omega) (by omega);simpa using this
   | nil=>
    rcases List.eq_nil_or_concat A with rfl|⟨P,p,rfl⟩
    ·simp at hlen
    ·rw[List.concat_eq_append] at *;have hmin:min (P++[p]).length ((P++[p]++[a]++[]).length-2)=P.length:=by simp
     have hp0:(P++[p]++[a]++[])[P.length]?=some p:=by simp
     have hp1:(P++[p]++[a]++[])[P.length+1]?=some a:=by simp
     have e:qC2 n (P++[p]++[a]++[]) (P++[p]).length=P++qD8 n p.key p.sub a.sub++[]:=by
      unfold qC2;rw[hat];simp only[h3,if_false,hmin,hp0,hp1]
      congr 2
      ·simp
      ·simp
     rw[e];have hp3:=hA p (by simp);have:=xA7 (P:=P) (Q:=[]) (a:=p) (b:=a) (lo:=lo) (by simpa using h) (fun x hx=>hA x (by simp[hx])) (by simp) (.inr (by omega)) (by omega) (by omega);simpa using this
 ·exact stay (fun x hx=>by
   simp only[List.mem_cons,List.not_mem_nil,or_false] at hx;rcases hx with rfl|rfl<;>assumption)
theorem zC1:∀ (n:Nat) (l:Lnk (Tn n)) (k:ByteArray),Good n l.key l.sub→kl k l.key=false→l.key.size≤8→(∃ q∈cont n l.sub,q.k=k)→min n 1<cnt n l.sub→
  Row0 n l.key (qD1 n l k)∧(qD1 n l k).flatMap (fun l=>cont n l.sub)=del k (cont n l.sub)∧Made n l 1 (qD1 n l k)
 | 0,l,k,h,hk,hz,hq,h1=>by
  have hs:Sorted (prs l.sub):=h.sorted;have hsp:=(zF4 hs k).2 hq;have e:(prs l.sub).take (qB2 (prs l.sub) k)++(prs l.sub).drop (qB2 (prs l.sub) k+1)=del k (prs l.sub):=(zU2 hs hsp).symm;have hm:meas ρ (del k (prs l.sub))≤126:=by
   rw[←e,qG3];have h1:=qO6 ρ (prs l.sub) (qB2 (prs l.sub) k);have h2:=qO6 ρ ((prs l.sub).drop (qB2 (prs l.sub) k)) 1;have h3:meas ρ (prs l.sub)≤126:=h.fits;rw[List.drop_drop] at h2;omega
  obtain⟨r1,r2,r3⟩:=qT2 (lo:=l.key) (ps:=del k (prs l.sub)) (hs.del k) (fun q hq=>h.all q (qW1.1 hq).1) (by omega) hz;have e2:qD1 0 l k=qD6 l.key (del k (prs l.sub)):=by rw[←e];rfl
  rw[e2];refine⟨r1,r2,?_⟩;rcases r3 with⟨a,e1,e2,e3,e4⟩|⟨a,b,e1,e2,e3,e4,e5,e6⟩
  ·refine .inl ⟨a,e1,e2,e3,?_⟩;rw[e4];show (prs l.sub).length≤(del k (prs l.sub)).length+1;rw[←e];simp;omega
  ·exact .inr ⟨a,b,e1,e2,e3,e4,e5,e6⟩
 | n+1,l,k,h,hk,hz,hq,h1=>by
  have h2:1<(η l.sub).length:=by have h2:min (n+1) 1<(η l.sub).length:=h1;omega
  have hr:Row0 n l.key (η l.sub):=⟨h.head,fun m hm=>⟨(h.all m hm).1,(h.all m hm).2.2⟩,h.pair⟩;obtain⟨A,m,B,e,hA,hkm,hqA,hqB⟩:=zC0 (k:=k) hr (by intro e;rw[e] at h2;simp at h2) hk;have hall:∀ x∈A++m::B,Good n x.key x.sub∧3≤cnt n x.sub∧x.key.size≤8:=fun x hx=>h.all x (by show x∈η l.sub;rw[e];exact hx);have hm:=hall m (by simp);have hqB':∀ b∈B,∀ q∈cont n b.sub,kl k q.k=true:=fun b hb q hq=>qN6 (hqB b hb) ((qK7 n b.key b.sub (hall b (by simp[hb])).1).2 q hq).2;have hqm:∃ q∈cont n m.sub,q.k=k:=by
   obtain⟨q,hq,eq⟩:=hq;have hq:q∈(η l.sub).flatMap (fun l=>cont n l.sub):=hq;rw[e] at hq;obtain⟨x,hx,hqx⟩:=List.mem_flatMap.1 hq;rcases List.mem_append.1 hx with hx|hx
   ·exact absurd eq (qI7 (hqA x hx q hqx))
   ·rcases List.mem_cons.1 hx with rfl|hx
    ·exact⟨q,hqx,eq⟩
    ·exact absurd eq.symm (qI7 (hqB' x hx q hqx))
  obtain⟨w1,w2,w3⟩:=zC1 n m k hm.1 hkm hm.2.2 hqm (by omega);have hwc:∀ w∈qD1 n m k,1≤cnt n w.sub:=by
   rcases w3 with⟨a,e1,_,_,e4⟩|⟨a,b,e1,_,_,_,e5,e6⟩
   ·rw[e1];intro w hw;rw[List.mem_singleton.1 hw];omega
   ·rw[e1];intro w hw;simp only[List.mem_cons,List.not_mem_nil,or_false] at hw;rcases hw with rfl|rfl<;>omega
  have hr':Row0 n l.key (A++m::B):=by rw[←e];exact hr
  have hpair:=List.pairwise_append.1 hr'.pair;have hsp:=zB2 hr' w1 w3.ne hwc (fun w hw q hq b hb=>by
   have:q∈(qD1 n m k).flatMap (fun l=>cont n l.sub):=List.mem_flatMap.2 ⟨w,hw,hq⟩;rw[w2] at this;exact ((List.pairwise_cons.1 hpair.2.1).1 b hb).2 q (qW1.1 this).1)
  have hmW:=w3.meas (fun w hw=>(w1.all w hw).2);have hfit:meas qA2 (A++m::B)≤126:=by have h3:meas qA2 (η l.sub)≤126:=h.fits;rw[e] at h3;exact h3
  have hmm:meas qA2 (A++qD1 n m k++B)≤145:=by
   rw[qG3,qG3];rw[qG3,qE6] at hfit;omega
  have hW1:1≤(qD1 n m k).length:=List.length_pos_iff.2 w3.ne;have hlen:(η l.sub).length≤(A++qD1 n m k++B).length:=by rw[e];simp;omega
  obtain⟨d1,d2,d3,d4,d5⟩:=xA8 (m:=m) hsp (fun x hx=>(hall x (by simp[hx])).2.1) (fun x hx=>(hall x (by simp[hx])).2.1) w3 hm.2.1 (by omega);have hw:qD1 (n+1) l k=qD4 n l.key (qC2 n (A++qD1 n m k++B) A.length):=by
   have hget:(η l.sub)[qB0 (η l.sub) k]?=some m:=by rw[←hA,e];simp
   have htake:(η l.sub).take (qB0 (η l.sub) k)=A:=by rw[←hA,e];simp
   have hdrop:(η l.sub).drop (qB0 (η l.sub) k+1)=B:=by
    rw[←hA,e,show A++m::B=(A++[m])++B by simp];exact List.drop_left' (by simp)
   show (match (η l.sub)[qB0 (η l.sub) k]? with
    | some m=>qD4 n l.key (qC2 n ((η l.sub).take (qB0 (η l.sub) k)++qD1 n m k++(η l.sub).drop (qB0 (η l.sub) k+1)) (qB0 (η l.sub) k))
    | none=>[])=_
   rw[hget,htake,hdrop,hA]
  rw[hw];obtain⟨b1,b2,b3⟩:=zD7 d1 d3 (by omega) hz;refine⟨b1,?_,?_⟩
  ·rw[b2,d2];show _=del k ((η l.sub).flatMap (fun l=>cont n l.sub));rw[e];simp only[List.flatMap_append,w2,List.flatMap_cons];rw[←List.append_assoc,xS0 (fun q hq=>by obtain⟨a,ha,hq⟩:=List.mem_flatMap.1 hq;exact hqA a ha q hq) (fun q hq=>by
    obtain⟨b,hb,hq⟩:=List.mem_flatMap.1 hq;exact hqB' b hb q hq)]
  ·rcases b3 with⟨a,e1,e2,e3,e4⟩|⟨a,b,e1,e2,e3,e4,e5,e6⟩
   ·refine .inl ⟨a,e1,e2,e3,?_⟩;rw[e4];show (η l.sub).length≤(qC2 n (A++qD1 n m k++B) A.length).length+1;omega
   ·exact .inr ⟨a,b,e1,e2,e3,e4,e5,e6⟩
def RGood:Root→Prop
 | .none=>True
 | .at n l=>l.key=⟨#[]⟩∧Good n l.key l.sub∧min n 1<cnt n l.sub
theorem zO8{n:Nat}{l:Lnk (Tn n)}{d:Nat}{W:List (Lnk (Tn n))}(hl:l.key=⟨#[]⟩)(hW:Row0 n l.key W)(hM:Made n l d W)(hd:min n 1<cnt n l.sub)(hd1:d≤1):
  RGood (qF3 n W)∧(qF3 n W).cont=W.flatMap (fun l=>cont n l.sub):=by
 rcases hM with⟨a,rfl,e1,e2,e3⟩|⟨a,b,rfl,e1,e2,e3,e4,e5⟩
 ·have ga:=hW.all a (by simp);have e:qF3 n [a]=qS2 n a:=rfl;rw[e]
  cases n with
  | zero=>
   have hf:[a].flatMap (fun l=>cont 0 l.sub)=prs a.sub:=List.append_nil _;rw[hf];show RGood (match prs a.sub with | []=>.none | _::_=>.at 0 a)∧Root.cont (match prs a.sub with | []=>.none | _::_=>.at 0 a)=_
   cases hp:prs a.sub with
   | nil=>exact⟨trivial,rfl⟩
   | cons x r=>
    refine⟨⟨by rw[e1,hl],ga.1,?_⟩,hp⟩;show 0<(prs a.sub).length;rw[hp];simp
  | succ n=>
   have hf:[a].flatMap (fun l=>cont (n+1) l.sub)=(η a.sub).flatMap fun l=>cont n l.sub:=List.append_nil _;rw[hf];have hc:(η l.sub).length≤(η a.sub).length+d:=e3;have hc2:1<(η l.sub).length:=by have h2:min (n+1) 1<(η l.sub).length:=hd;omega
   show RGood (match η a.sub with | []=>.none | [m]=>.at n m | _::_::_=>.at (n+1) a)∧Root.cont (match η a.sub with | []=>.none | [m]=>.at n m | _::_::_=>.at (n+1) a)=_
   cases hp:η a.sub with
   | nil=>rw[hp] at hc;simp at hc;omega
   | cons x r=>
    cases r with
    | nil=>
     have gx:=ga.1.all x (by show x∈η a.sub;rw[hp];simp);have hx:=ga.1.head x (by show x∈(η a.sub).head?;rw[hp];simp);refine⟨⟨by rw[hx,e1,hl],gx.1,by have:=gx.2.1;omega⟩,(List.append_nil _).symm⟩
    | cons y r=>
     refine⟨⟨by rw[e1,hl],ga.1,?_⟩,?_⟩
     ·show min (n+1) 1<(η a.sub).length;rw[hp];simp
     ·show (η a.sub).flatMap (fun l=>cont n l.sub)=_;rw[hp]
 ·have hb:=hW.all b (by simp);have h2:meas qA2 [a,b]≤126:=by
   have:=(hW.all a (by simp)).2;simp[meas,qA2];omega
  have e:qD4 n ⟨#[]⟩ [a,b]=[⟨⟨#[]⟩,none,[a,b]⟩]:=by
   unfold qD4 qB7;rw[if_pos h2];rfl
  have e':qF3 n [a,b]=.at (n+1) ⟨⟨#[]⟩,none,[a,b]⟩:=by
   show (match qD4 n ⟨#[]⟩ [a,b] with | []=>Root.none | r::_=>qS2 (n+1) r)=_;rw[e];rfl
  rw[e'];refine⟨⟨rfl,⟨?_,?_,hW.pair,h2⟩,?_⟩,rfl⟩
  ·intro x hx;have:x=a:=by simpa using hx.symm
   rw[this,e1,hl]
  ·intro x hx;refine⟨(hW.all x hx).1,?_,(hW.all x hx).2⟩;have hx:x∈[a,b]:=hx;simp only[List.mem_cons,List.not_mem_nil,or_false] at hx;rcases hx with rfl|rfl<;>assumption
  ·show min (n+1) 1<2;omega
theorem qP1{r:Root}{p:KV}(h:RGood r)(hp:qC6 p):RGood (r.put p)∧(r.put p).cont=ins p r.cont:=by
 cases r with
 | none=>
  have hs:Sorted [p]:=by simp[Sorted]
  have hz:(⟨#[]⟩:ByteArray).size≤8:=by decide
  obtain⟨r1,r2,r3⟩:=qT2 (lo:=⟨#[]⟩) (ps:=[p]) hs (fun q hq=>by rw[List.mem_singleton.1 hq];exact⟨hp,qN4 _⟩) (by obtain⟨h1,h2,h3⟩:=hp;simp[meas,ρ];omega) hz;have hM:Made 0 ⟨⟨#[]⟩,none,[p]⟩ 0 (qD6 ⟨#[]⟩ [p]):=by
   rcases r3 with⟨a,e1,e2,e3,e4⟩|⟨a,b,e1,e2,e3,e4,e5,e6⟩
   ·exact .inl ⟨a,e1,e2,e3,by rw[e4];exact Nat.le_refl _⟩
   ·exact .inr ⟨a,b,e1,e2,e3,e4,e5,e6⟩
  have:=zO8 (n:=0) (l:=(⟨⟨#[]⟩,none,[p]⟩:Lnk (List KV))) rfl r1 hM (by show 0<1;omega) (by omega);rw[r2] at this;refine⟨this.1,this.2.trans ?_⟩;simp[ins,Root.cont]
 | «at» n l=>
  obtain⟨h1,h2,h3⟩:=h;obtain⟨w1,w2,w3⟩:=qX1 n l p h2 hp (by rw[h1];exact qN4 _) (by rw[h1];decide) (by omega);have:=zO8 h1 w1 w3 h3 (by omega);rw[w2] at this;exact this
theorem zU1{r:Root}{k:ByteArray}(h:RGood r):RGood (r.del k)∧(r.del k).cont=del k r.cont:=by
 cases r with
 | none=>exact⟨trivial,rfl⟩
 | «at» n l=>
  obtain⟨h1,h2,h3⟩:=h;unfold Root.del;by_cases hq:(cont n l.sub).any (fun q=>decide (q.k=k))=true
  ·simp only[hq,if_true];have hq':∃ q∈cont n l.sub,q.k=k:=by simpa using hq
   obtain⟨w1,w2,w3⟩:=zC1 n l k h2 (by rw[h1];exact qN4 _) (by rw[h1];decide) hq' h3;have:=zO8 h1 w1 w3 h3 (by omega);rw[w2] at this;exact this
  ·simp only[hq];refine⟨⟨h1,h2,h3⟩,?_⟩;have:∀ q∈cont n l.sub,q.k≠k:=by simpa using hq
   exact (qV1 this).symm
def qC8:(n:Nat)→Tn n→Nat
 | 0,_=>1
 | n+1,ls=>1+meas (fun l:Lnk (Tn n)=>qC8 n l.sub) ls
def news:(n:Nat)→Lnk (Tn n)→Nat
 | 0,l=>if l.ref.isSome then 0 else 1
 | n+1,l=>if l.ref.isSome then 0 else 1+meas (fun m:Lnk (Tn n)=>news n m) (η l.sub)
def Root.news:Root→Nat
 | .none=>0
 | .at n l=>YtdohpenfkdckiaaGreatDoor.news n l
theorem zI0{α:Type}{f g:α→Nat}:∀ (l:List α),(∀ x∈l,f x≤g x)→meas f l≤meas g l
 | [],_=>Nat.le_refl _
 | x::l,h=>by
  rw[qE6,qE6];have:=h x (by simp);have:=zI0 l fun y hy=>h y (by simp[hy]);omega
theorem zI2:∀ (n:Nat) (l:Lnk (Tn n)),news n l≤qC8 n l.sub
 | 0,l=>by unfold news qC8;split<;>omega
 | n+1,l=>by
  unfold news qC8;split
  ·omega
  ·have:=zI0 (f:=fun m:Lnk (Tn n)=>news n m) (g:=fun m=>qC8 n m.sub) (η l.sub) fun m _=>zI2 n m;show 1+_≤1+meas _ (η l.sub);omega
theorem qW3:∀ (n:Nat) (lo:ByteArray) (t:Tn n),Good n lo t→2*qC8 n t+cnt n t≤(cont n t).length+2
 | 0,lo,ps,h=>by show 2*1+(prs ps).length≤(prs ps).length+2;omega
 | n+1,lo,ls,h=>by
  have key:∀ (ls:List (Lnk (Tn n))),(∀ l∈ls,Good n l.key l.sub∧3≤cnt n l.sub)→2*meas (fun l:Lnk (Tn n)=>qC8 n l.sub) ls+ls.length≤(ls.flatMap fun l=>cont n l.sub).length:=by
   intro ls
   induction ls with
   | nil=>intro _;simp[meas]
   | cons a ls ih=>
    intro hg;have h1:=ih fun l hl=>hg l (by simp[hl]);have h2:=qW3 n a.key a.sub (hg a (by simp)).1;have h3:=(hg a (by simp)).2;rw[qE6,List.flatMap_cons,List.length_append,List.length_cons];omega
  have:=key (η ls) fun l hl=>⟨(h.all l hl).1,(h.all l hl).2.1⟩;show 2*(1+meas _ (η ls))+(η ls).length≤((η ls).flatMap fun l=>cont n l.sub).length+2;omega
theorem zZ9:∀ (n:Nat) (lo:ByteArray) (t:Tn n),Good n lo t→1≤cnt n t→n+1≤qC8 n t
 | 0,lo,ps,h,_=>by show 1≤1;omega
 | n+1,lo,ls,h,h1=>by
  have h2:1≤(η ls).length:=h1;obtain⟨a,r,e⟩:∃ a r,η ls=a::r:=by
   cases hx:η ls with
   | nil=>rw[hx] at h2;simp at h2
   | cons a r=>exact⟨a,r,rfl⟩
  have ha:=h.all a (by show a∈η ls;rw[e];simp);have:=zZ9 n a.key a.sub ha.1 (by omega);show n+1+1≤1+meas _ (η ls);rw[e,qE6];omega
theorem qS6{r:Root}(h:RGood r):2*r.news≤r.cont.length+1:=by
 cases r with
 | none=>simp[Root.news]
 | «at» n l=>
  obtain⟨h1,h2,h3⟩:=h;have a:=qW3 n l.key l.sub h2;have b:=zI2 n l;show 2*news n l≤(cont n l.sub).length+1;omega
theorem zN1{n:Nat}{l:Lnk (Tn n)}(h:RGood (.at n l)):2*n≤(cont n l.sub).length:=by
 obtain⟨h1,h2,h3⟩:=h;have a:=qW3 n l.key l.sub h2;have b:=zZ9 n l.key l.sub h2 (by omega);omega
theorem jL2{r:Root}(h:RGood r):Sorted r.cont∧∀ q∈r.cont,qC6 q:=by
 cases r with
 | none=>exact⟨List.Pairwise.nil,fun q hq=>by cases hq⟩
 | «at» n l=>
  obtain⟨h1,h2,h3⟩:=h;exact⟨(qK7 n l.key l.sub h2).1,fun q hq=>((qK7 n l.key l.sub h2).2 q hq).1⟩
def Up(f:ByteArray→Bool):Prop:=∀ a b,kl a b=true→f a=true→f b=true
theorem zV1{l:List KV}{f:ByteArray→Bool}(h:∀ q∈l,f q.k=false):l.find? (fun q=>f q.k)=none:=by
 rw[List.find?_eq_none];intro q hq;simp[h q hq]
theorem xU2{n:Nat}{lo:ByteArray}{f:ByteArray→Bool}(hf:Up f){ls:List (Lnk (Tn n))}(h:Row0 n lo ls):
  (ls.flatMap fun l=>cont n l.sub).find? (fun q=>f q.k)=((ls.drop (ls.findIdx (fun l=>f l.key)-1)).flatMap fun l=>cont n l.sub).find? (fun q=>f q.k):=by
 by_cases h0:ls.findIdx (fun l=>f l.key)=0
 ·simp[h0]
 ·obtain⟨i,hi⟩:∃ i,i=ls.findIdx (fun l=>f l.key)-1:=⟨_,rfl⟩;rw[←hi];have hle:ls.findIdx (fun l=>f l.key)≤ls.length:=List.findIdx_le_length;have hlt:i<ls.length:=by omega
  have hm:f (ls[i]).key=false:=by
   have:=List.not_of_lt_findIdx (p:=fun l:Lnk (Tn n)=>f l.key) (xs:=ls) (i:=i) (by omega);simpa using this
  have hp:=h.pair;rw[←List.take_append_drop i ls,List.drop_eq_getElem_cons hlt] at hp;have hp3:=(List.pairwise_append.1 hp).2.2
  conv=>lhs;rw[←List.take_append_drop i ls,List.flatMap_append,List.find?_append]
  rw[zV1 fun q hq=>?_]
  ·simp
  ·obtain⟨a,ha,hq⟩:=List.mem_flatMap.1 hq;have:=(hp3 a ha ls[i] (List.mem_cons_self ..)).2 q hq;by_cases e:f q.k=true
   ·rw[hf _ _ this e] at hm;cases hm
   ·simpa using e
end Go.Proofs.YtdohpenfkdckiaaGreatDoor
namespace Go.Proofs.YtdohpenfkdckiaaGreatDoor
open Go.Proofs.Tryz
open Go.RowKit
theorem xC8(g:Nat)(cap:Array Value)(n:Nat)(P:Nat→Bool)(w:World)(hn:n≤1000000)(hup:∀ i j,i≤j→j<n→P i=true→P j=true)
  (hcf:∀ (args:Array Value) (W:World),Sem.run prog (callFunc g args) W=.ok (.enter g args) W)
  (hf:∀ W,Kp [] w W→∀ i:Nat,i<n→Calls prog g (#[.int .i64 i]++cap) W fun e W'=>e=.returned (.bool (P i))∧Kp [] W W'):
  Calls prog 213 #[.int .i64 n,.func (.func g) #[] cap] w fun e w'=>∃ i:Nat,e=.returned (.int .i64 i)∧(i≤n∧(∀ j,j<i→P j=false)∧(i<n→P i=true))∧Kp [] w w':=by
 have HF:=zh hf;have HU:=zh hup;clear hf hup;go_enter func213,ntmps213;go_wp2
 go_loopw [5,6] (fun s q wr=>∃ (i j:Nat),i≤j∧j≤n∧s=.int .i64 i∧q=.int .i64 j∧Hid ((∀ k,k<i→P k=false)∧(j<n→P j=true))∧Kp [] w wr) (fun s q _=>(intOf q-intOf s).toNat)
 case atStart=>exact⟨0,n,by omega,Nat.le_refl _,rfl,rfl,⟨fun k hk=>by omega,fun h=>by omega⟩,Kp.refl _ _⟩
 case round=>
  obtain⟨i,j,hij,hjn,rfl,rfl,hP,hK⟩:=hrel;by_cases hlt:i<j
  ·obtain⟨h,hh⟩:∃ h:Nat,((i:Int)+j) / 2=h:=⟨(i+j) / 2,by omega⟩;go_wp2_with fail
   try simp only[hh]
   refine (HF.out wr hK h (by omega)).mono ?_;rintro e w1 ⟨rfl,hK1⟩;have hK1':Kp [] w w1:=hK.tr hK1;by_cases hp:P h=true
   ·rw[hp];go_wp2;refine⟨⟨i,h,by omega,by omega,rfl,rfl,⟨hP.out.1,fun _=>hp⟩,hK1'⟩,by simp[intOf];omega⟩
   ·have hp0:P h=false:=by simpa using hp
    rw[hp0];go_wp2;refine⟨⟨h+1,j,by omega,by omega,by go_num,rfl,⟨fun k hk=>?_,hP.out.2⟩,hK1'⟩,by simp[intOf];omega⟩;by_cases e:P k=true
    ·have:=HU.out k h (by omega) (by omega) e;rw[hp0] at this;cases this
    ·simpa using e
  ·go_wp2;go_ret;have e:j=i:=by omega
   subst e;exact⟨j,rfl,⟨by omega,hP.out.1,hP.out.2⟩,hK⟩
theorem zW9{α:Type}{xs:List α}{f:α→Bool}{i:Nat}(h1:i≤xs.length)(h2:∀ j (h:j<xs.length),j<i→f xs[j]=false)(h3:∀ h:i<xs.length,f xs[i]=true):i=xs.findIdx f:=by
 rcases Nat.lt_trichotomy i (xs.findIdx f) with h|h|h
 ·have hle:xs.findIdx f≤xs.length:=List.findIdx_le_length;have:=List.not_of_lt_findIdx (p:=f) (xs:=xs) h;rw[h3 (by omega)] at this;simp at this
 ·exact h
 ·have hlt:xs.findIdx f<xs.length:=by omega
  have:=List.findIdx_getElem (p:=f) (xs:=xs) (w:=hlt);rw[h2 _ hlt h] at this;cases this
def qS4(s x:Int):Int:=IntKind.u64.wrap (bits BinOp.xor .u64 s (IntKind.u64.wrap x)*1099511628211)
def fnv(xs:List Int):Int:=xs.foldl qS4 14695981039346656037
theorem xV1(xs:List Int)(k:Nat)(h:k<xs.length):fnv (xs.take (k+1))=qS4 (fnv (xs.take k)) xs[k]:=by
 unfold fnv;rw[List.take_succ_eq_append_getElem h,List.foldl_append];rfl
theorem qJ5{k:IntKind}{a b:Int}(h:a=b):Ending.returned (.int k a)=.returned (.int k b):=by rw[h]
theorem zB5(b off len cap:Nat)(xs:List Int)(w:World)(hx:xs.length=len)(hbig:len≤1000000)
  (hc:∀ j,j<len→w.cell? ⟨b,off+j,none⟩=some (.int .u8 (xs.getD j 0))):
  Calls prog 251 #[.slice (some ⟨b,off,none⟩) len cap] w fun e w'=>e=.returned (.int .u64 (fnv xs))∧w'=w:=by
 go_enter func251,ntmps251;go_wp2
 go_loop [3,8] (fun s i=>∃ (k:Nat),k≤len∧i=.int .i64 k∧s=.int .u64 (fnv (xs.take k))) (fun _ i=>len-(intOf i).toNat)
 case atStart=>exact⟨0,Nat.zero_le _,rfl,rfl⟩
 case round=>
  obtain⟨k,hk,rfl,rfl⟩:=hrel;by_cases hlt:k<len
  ·have hck:=hc k hlt;have hs:=xV1 xs k (by omega);have HS:=zh hs;clear hs;go_wp2;refine⟨⟨k+1,by omega,by go_num,by rw[HS.out];rfl⟩,by simp[intOf];omega⟩
  ·go_wp2;go_ret;exact⟨qJ5 (by rw[List.take_of_length_le (by omega)]),rfl⟩
def qH0(xs:List Int):Int:=xs.foldr (fun x n=>bits BinOp.or .u64 (IntKind.u64.wrap (n*256)) (IntKind.u64.wrap x)) 0
theorem qT5(b off len cap:Nat)(xs:List Int)(w:World)(hx:xs.length=len)(hbig:len≤1000000)
  (hc:∀ j,j<len→w.cell? ⟨b,off+j,none⟩=some (.int .u8 (xs.getD j 0))):
  Calls prog 248 #[.slice (some ⟨b,off,none⟩) len cap] w fun e w'=>e=.returned (.int .u64 (qH0 xs))∧w'=w:=by
 go_enter func248,ntmps248;go_wp2
 go_loop [3,4] (fun n i=>∃ (k:Nat),k≤len∧i=.int .i64 ((k:Int)-1)∧n=.int .u64 (qH0 (xs.drop k))) (fun _ i=>(intOf i+1).toNat)
 case atStart=>exact⟨len,Nat.le_refl _,by go_num,by rw[List.drop_of_length_le (by omega)];rfl⟩
 case round=>
  obtain⟨k,hk,rfl,rfl⟩:=hrel;by_cases hlt:0<k
  ·obtain⟨j,rfl⟩:∃ j,k=j+1:=⟨k-1,by omega⟩;have hck:=hc j (by omega);have HS:Hid (qH0 (xs.drop j)=bits BinOp.or .u64 (IntKind.u64.wrap (qH0 (xs.drop (j+1))*256)) (IntKind.u64.wrap (xs[j]?.getD 0))):=by
    have hj:j<xs.length:=by omega
    show _=_;rw[List.drop_eq_getElem_cons hj,List.getElem?_eq_getElem hj];rfl
   go_wp2;refine⟨⟨j,by omega,rfl,by rw[HS.out]⟩,by simp[intOf]⟩
  ·have hz:k=0:=by omega
   subst hz;have ht:decide ((0:Int)≤((0:Nat):Int)-1)=false:=by decide
   go_wp2;go_ret;exact⟨qJ5 (by simp),rfl⟩
def qB1:Nat→Int→List Int
 | 0,_=>[]
 | k+1,n=>n % 256::qB1 k (n / 256)
theorem qG5(k:Nat)(n:Int):(qB1 k n).length=k:=by induction k generalizing n<;>simp_all [qB1]
def u8s(xs:List Int):List Value:=xs.map (.int .u8)
theorem zH7(k:Nat)(n:Int):qB1 (k+1) n=qB1 k n++[n / (256:Int) ^ k % 256]:=by
 induction k generalizing n with
 | zero=>simp[qB1]
 | succ k ih=>
  rw[qB1,ih (n / 256),qB1];simp only[List.cons_append];rw[Int.ediv_ediv_of_nonneg (by decide),Int.pow_succ,Int.mul_comm]
theorem qH2{w:World}{base:Nat}{e:TypeId}{sz:Nat}{v:Value}{n:Nat}{xs:List Value}(h:w.ownsRow base e sz v n xs):∀ k,v.ownBlock=some k→base≤k:=by
 obtain⟨_,h2⟩:=h;rcases h2 with⟨rfl,_⟩|⟨g,cap,cur,rfl,hg,_⟩
 ·intro k hk;cases hk
 ·intro k hk;cases hk;exact hg
theorem Tryz.info5:(prog.info? 5).map (fun i=>(i.zero,i.size,i.bytes))=some (some (.int .u8 0),1,1):=by kernel_rfl
theorem zD2(v:Value)(base k:Nat)(xs:List Int)(n:Int)(m:Nat)(w:World)(hx:k≤1000)(hm:m≤100)(hn:0≤n)
  (hb:base≤w.heap.size) (hown:w.ownsRow base 5 1 v k (u8s xs)):
  Calls prog 250 #[v,.int .u64 n,.int .i64 m] w fun e w'=>∃ v',e=.returned v'∧w'.ownsRow base 5 1 v' (k+m) (u8s (xs++qB1 m n))∧Below base w w':=by
 obtain⟨i0,hi,hz0,hz1,hz2⟩:=info_parts Tryz.info5;go_enter func250,ntmps250;go_wp2
 go_loopw [0,1,8] (fun s q i wr=>∃ (j:Nat) (v':Value) (nj:Int),j≤m∧i=.int .i64 j∧q=.int .u64 nj∧nj=n / (256:Int) ^ j∧0≤nj∧nj≤n∧s=v'∧wr.ownsRow base 5 1 v' (k+j) (u8s (xs++qB1 j n))∧Below base w wr) (fun _ _ i _=>m-(intOf i).toNat)
 case atStart=>exact⟨0,v,n,Nat.zero_le _,rfl,rfl,by simp,hn,Int.le_refl _,rfl,by simpa [qB1] using hown,Below.refl _ _⟩
 case round=>
  obtain⟨j,v',nj,hj,rfl,rfl,hnj,hnj0,hnj1,rfl,hownr,hbl⟩:=hrel;have HN:=zh hnj;clear hnj;by_cases hlt:j<m
  ·go_wp2_with (at_builtin;refine wpList_append_own _ rfl _ _ 118 rfl base 5 i0 (.int .u8 0) 1 1 underlying118 hi hz0 hz1 hz2 rfl (by decide) _ _ _ rfl (hownr.alloc _) ⟨wr.heap.size,0,none⟩ 1 1 [.int .u8 (nj % 256)] rfl rfl (cell_one_new _ _ _) (by simp[Value.oneCell']) (by unfold maxLen;omega) (by omega) (by have:=hbl.size;simp;omega) ?_;intro v1 w1 hown1 hgrow1 _)
   refine⟨⟨j+1,v1,nj / 256,by omega,by go_num,rfl,?_,by omega,by omega,rfl,?_,?_⟩,by simp[intOf];omega⟩
   ·rw[HN.out,Int.ediv_ediv_of_nonneg (by exact Int.pow_nonneg (by decide)),Int.pow_succ]
   ·have e1:u8s (xs++qB1 (j+1) n)=u8s (xs++qB1 j n)++[.int .u8 (nj % 256)]:=by rw[zH7,←HN.out];simp[u8s]
    rw[e1];exact hown1
   ·exact (hbl.alloc (by have:=hbl.size;omega) _).grown hgrow1 (by have:=hbl.size;simp;omega) (qH2 hownr)
  ·go_wp2;go_ret;have e:j=m:=by omega
   subst e;exact⟨_,rfl,hownr,hbl⟩
def qA1(cs:Array Value)(o n:Nat):Array Value:=((cs.toList.drop o).take n).toArray
def qC9(cs:Array Value)(o:Nat)(p:Array Value):Array Value:=(cs.toList.take o++p.toList++cs.toList.drop (o+p.size)).toArray
theorem qN0{cs:Array Value}{o n:Nat}(h:o+n≤cs.size):(qA1 cs o n).size=n:=by simp[qA1];omega
theorem qT7{cs:Array Value}{o n j:Nat}(h:j<n):(qA1 cs o n)[j]?=cs[o+j]?:=by
 simp[qA1,List.getElem?_take,h]
theorem Kp.setRow{S:List Nat}{a b:World}(h:Kp S a b){g:Nat}(hp:g∈S∨a.heap.size≤g)(cs:Array Value):Kp S a (b.setRow g cs):=
 ⟨h.os,h.tape,h.output,by have:=h.size;simp[World.setRow];omega,fun k hk hn=>(setRow_other _ _ _ _ (by
  rcases hp with hp|hp
  ·intro e;subst e;exact hn hp
  ·omega)).trans (h.block k hk hn)⟩
theorem qI8{w:World}{base:Nat}{e:TypeId}{sz:Nat}{v:Value}{n:Nat}{xs:List Value}(h:w.ownsRow base e sz v (n+1) xs):∃ g cap,v=.slice (some ⟨g,0,none⟩) (n+1) cap:=by
 obtain⟨_,h2⟩:=h;rcases h2 with⟨_,h0⟩|⟨g,cap,cur,rfl,_⟩
 ·cases h0
 ·exact⟨g,cap,rfl⟩
section
variable {P:Program} {w:World} {ops:Array Oper} {rest:List Oper} {a:Act} {Q:Exit→Act→World→Prop} {dst:Option Tmp} {ty:TypeId} {pos:String} {aft:Array Edge}
theorem qK0(b o j:Nat):(⟨b,o,none⟩:Addr).add j=⟨b,o+j,none⟩:=by unfold Addr.add;split<;>simp_all
theorem qQ6{t t' e:TypeId}(ty:TypeId)(hu:P.underlying t=some (.slice e))(hs:(P.info? e).map (·.size)=some 1)
  {g o dLen dCap b so sLen sCap:Nat} (n:Nat) (hn:n=Nat.min sLen dLen)
  {cur src:Array Value} {tg tb:TypeId} {fr:Nat × Nat} (hg:w.heap[g]?=some (.cells cur tg)) (hb:w.heap[b]?=some (.cells src tb fr)) (hfit:o+n≤cur.size) (hin:so+n≤src.size)
  (h1:∀ v∈(qA1 src so n).toList,v.oneCell'=true):
  Sem.run P (Builtin.copy_ #[t,t'] ty #[.slice (some ⟨g,o,none⟩) dLen dCap,.slice (some ⟨b,so,none⟩) sLen sCap]) w=.ok (.int .i64 n) (w.setRow g (qC9 cur o (qA1 src so n))):=by
 have hsz:=qN0 (cs:=src) hin;have hr:=run_copy_row P w t t' ty e g o dLen dCap ⟨b,so,none⟩ sLen sCap cur tg (qA1 src so n).toList hu hs hg (by rw[Array.length_toList,hsz,hn]) (fun j v hj=>by
  rw[qK0,ξ hb];have hlt:j<n:=by
   have:=(List.getElem?_eq_some_iff.1 hj).1;simp[hsz] at this;exact this
  rw[←qT7 hlt];simpa using hj) (by simp[hsz];omega) h1
 have e1:goInt ((qA1 src so n).toList.length:Int)=.int .i64 n:=by simp[goInt,hsz]
 have e2:(cur.toList.take o++(qA1 src so n).toList++cur.toList.drop (o+(qA1 src so n).toList.length)).toArray=qC9 cur o (qA1 src so n):=by simp[qC9]
 rw[hr,e1,e2]
theorem qL5{g o:Nat}{t:TypeId}{vs:List Value}{cur:Array Value}(hg:w.heap[g]?=some (.cells cur t))(hfit:o+vs.length≤cur.size)(h1:∀ v∈vs,v.oneCell'=true):
  Sem.run P (storeCells ⟨g,o,none⟩ vs) w=.ok () (w.setRow g (qC9 cur o vs.toArray)):=by
 have hr:=run_storeCells_at P g o t vs 0 cur w hg (by simpa using hfit) h1;rw[hr];simp[qC9]
theorem qX4{b o n:Nat}{src:Array Value}{tb:TypeId}{fr:Nat × Nat}(hb:w.heap[b]?=some (.cells src tb fr))(hin:o+n≤src.size):
  Sem.run P (loadCells ⟨b,o,none⟩ n) w=.ok (qA1 src o n) w:=by
 have hsz:=qN0 (cs:=src) hin;have hl:=run_loadCells_list (P:=P) w ⟨b,o,none⟩ (qA1 src o n).toList (fun j v hj=>by
  rw[qK0,ξ hb];have hlt:j<n:=by
   have:=(List.getElem?_eq_some_iff.1 hj).1;simp[hsz] at this;exact this
  rw[←qT7 hlt];simpa using hj)
 simpa [hsz] using hl
theorem qI9{o:Oper}{v:Value}{w':World}{K:Act→World→Prop}{E:Prop}(hg:o.guard=none)(hr:Sem.run P (execOp a.eval o) w=.ok (.value v) w')(hK:K (a.put o.dst v) w'):
  if Region.wanted o (yielded ops a.tmps)=true then Oper.wp P o a w K Q else E:=by
 have hw:Region.wanted o (yielded ops a.tmps)=true:=by simp[Region.wanted,hg]
 rw[if_pos hw];unfold Oper.wp;rw[hr];exact hK
theorem zQ2{o:Oper}{w':World}{K:Act→World→Prop}{E:Prop}(hg:o.guard=none)(hr:Sem.run P (execOp a.eval o) w=.ok .skip w')(hK:K (a.put o.dst undef) w'):
  if Region.wanted o (yielded ops a.tmps)=true then Oper.wp P o a w K Q else E:=by
 have hw:Region.wanted o (yielded ops a.tmps)=true:=by simp[Region.wanted,hg]
 rw[if_pos hw];unfold Oper.wp;rw[hr];exact hK
theorem zU7{o:Oper}{x:Operand}{t:TypeId}(ho:o.op=.load t x)(qK3:(match P.underlying t with | some (.struct _)=>true | some (.array _ _)=>true | _=>false)=true)(n:Nat)(hs:(P.info? t).map (·.size)=some n)
  (b o':Nat) (hx:a.eval x=.pointer (some ⟨b,o',none⟩)) {src:Array Value} {tb:TypeId} {fr:Nat × Nat} (hb:w.heap[b]?=some (.cells src tb fr)) (hin:o'+n≤src.size):
  Sem.run P (execOp a.eval o) w=.ok (.value (.agg (qA1 src o' n))) w:=by
 have hl':=qX4 (P:=P) hb hin;obtain⟨i,hi,hin'⟩:=Option.map_eq_some_iff.1 hs;have hrun:Sem.run P (Instr.loadAt t (.pointer (some ⟨b,o',none⟩))) w=.ok (.agg (qA1 src o' n)) w:=by
  cases hd:P.underlying t with
  | none=>simp[hd] at qK3
  | some d=>cases d<;>simp[hd] at qK3<;>simp[Instr.loadAt,Instr.sureAddr,loadVar,isAgg,run_underlying hd,Go.sizeOf,typeInfo,hi,hin',hl']
 unfold execOp;simp only[ho,Sem.run_bind,Sem.run_pure,Result.andThen_ok,hx,hrun]
theorem qS9{o:Oper}{x:Operand}{t e:TypeId}(ho:o.op=.buildSlice t 1 #[(0,x)])(v z:Value)(size bytes:Nat)(ht:P.underlying t=some (.slice e))(hi:(P.info? e).map (fun i=>(i.zero,i.size,i.bytes))=some (some z,size,bytes))
  (hx:a.eval x=v) (hv:v.cells.size=size) (hpos:0<size) (hsm:size≤16777216):
  Sem.run P (execOp a.eval o) w=.ok (.value (.slice (some ⟨w.heap.size,0,none⟩) 1 1)) (w.alloc (.cells v.cells e)):=by
 obtain⟨i,hi',hz⟩:=Option.map_eq_some_iff.1 hi;simp only[Prod.mk.injEq] at hz;obtain⟨hz,hsz,hby⟩:=hz;have hf:=Great.fill_whole (s:=i.size) (by omega) [v] ((Array.range (1*i.size)).map (z.cells[·% z.cells.size]!)) (by simp[hv,hsz]) (by simp);have hr:=run_buildSlice (P:=P) w t e 1 #[(0,v)] v.cells i z ht hi' hz (by omega) (by omega) (by simpa using hf);unfold execOp;simp only[ho,Sem.run_bind,Sem.run_pure,Result.andThen_ok,List.map_toArray,List.map_cons,List.map_nil,hx,hr]
theorem xT1{o:Oper}{s x:Operand}{t e:TypeId}(ho:o.op=.call { callee:=.builtin .append,args:=#[s,x],argTypes:=#[t,t] })(z:Value)(size bytes:Nat)(ht:P.underlying t=some (.slice e))(hi:(P.info? e).map (fun i=>(i.zero,i.size,i.bytes))=some (some z,size,bytes))
  (hzs:z.cells.size=size) (hsz:0<size) (base:Nat) (v:Value) (n:Nat) (xs:List Value) (hs:a.eval s=v) (hown:w.ownsRow base e size v n xs)
  (b so m c:Nat) (src:Array Value) (tb:TypeId) (fr:Nat × Nat) (hx:a.eval x=.slice (some ⟨b,so,none⟩) m c) (hb:w.heap[b]?=some (.cells src tb fr)) (hin:so+m*size≤src.size)
  (h1:∀ u∈(qA1 src so (m*size)).toList,u.oneCell'=true) (h63:n+m≤1000000000) (hbytes:(n+m)*bytes≤140737488355328) (hbase:base≤w.heap.size):
  ∃ v' w',Sem.run P (execOp a.eval o) w=.ok (.value v') w'∧w'.ownsRow base e size v' (n+m) (xs++(qA1 src so (m*size)).toList)∧w.grownBy w' v.ownBlock∧(v'=.slice none 0 0↔v=.slice none 0 0∧m=0):=by
 obtain⟨i,hi',hz⟩:=Option.map_eq_some_iff.1 hi;simp only[Prod.mk.injEq] at hz;obtain⟨hz,hsz',hby⟩:=hz;have hps:=qN0 (cs:=src) hin;obtain⟨v',w',hr,r1,r2,r3⟩:=run_append_own (P:=P) w base t o.type e i z size bytes ht hi' hz hsz' hby hzs hsz v n xs hown ⟨b,so,none⟩ m c (qA1 src so (m*size)).toList (by simpa using hps) (fun j u hj=>by
  rw[qK0,ξ hb];have hlt:j<m*size:=by
   have:=(List.getElem?_eq_some_iff.1 hj).1;simp[hps] at this;exact this
  rw[←qT7 hlt];simpa using hj) h1 (by unfold maxLen;omega) hbytes hbase
 refine⟨v',w',?_,r1,r2,r3⟩;unfold execOp;simp only[ho,resolve,invoke,builtin,Sem.run_bind,Sem.run_pure,Result.andThen_ok,List.map_toArray,List.map_cons,List.map_nil,hs,hx,hr]
theorem qK6{o:Oper}{x:Operand}{t:TypeId}(ho:o.op=.load t x)(qK3:(match P.underlying t with | some (.struct _)=>true | some (.array _ _)=>true | _=>false)=true)(n:Nat)(hs:(P.info? t).map (·.size)=some n)
  (b:Nat) (hx:a.eval x=.pointer (some ⟨b,0,none⟩)) {src:Array Value} {tb:TypeId} {fr:Nat × Nat} (hb:w.heap[b]?=some (.cells src tb fr)) (hin:src.size=n):
  Sem.run P (execOp a.eval o) w=.ok (.value (.agg src)) w:=by
 have h:=zU7 (P:=P) ho qK3 n hs b 0 hx hb (by omega);have e:qA1 src 0 n=src:=by rw[←hin];simp[qA1,List.take_of_length_le]
 rw[e] at h;exact h
theorem qL4{o:Oper}{K:Act→World→Prop}{E:Prop}(hg:o.guard=none){s x:Operand}{t e:TypeId}(ho:o.op=.call { callee:=.builtin .append,args:=#[s,x],argTypes:=#[t,t] })(z:Value)(size bytes:Nat)(ht:P.underlying t=some (.slice e))(hi:(P.info? e).map (fun i=>(i.zero,i.size,i.bytes))=some (some z,size,bytes))
  (hzs:z.cells.size=size) (hsz:0<size) (base:Nat) (v:Value) (n:Nat) (xs:List Value) (hs:a.eval s=v) (hown:w.ownsRow base e size v n xs)
  (b so m c:Nat) (src:Array Value) (tb:TypeId) (fr:Nat × Nat) (hx:a.eval x=.slice (some ⟨b,so,none⟩) m c) (hb:w.heap[b]?=some (.cells src tb fr)) (hin:so+m*size≤src.size)
  (h1:∀ u∈(qA1 src so (m*size)).toList,u.oneCell'=true) (h63:n+m≤1000000000) (hbytes:(n+m)*bytes≤140737488355328) (hbase:base≤w.heap.size)
  (hK:∀ v' w',w'.ownsRow base e size v' (n+m) (xs++(qA1 src so (m*size)).toList)→w.grownBy w' v.ownBlock→(v'=.slice none 0 0↔v=.slice none 0 0∧m=0)→K (a.put o.dst v') w'):
  if Region.wanted o (yielded ops a.tmps)=true then Oper.wp P o a w K Q else E:=by
 obtain⟨v',w',hr,r1,r2,r3⟩:=xT1 (P:=P) ho z size bytes ht hi hzs hsz base v n xs hs hown b so m c src tb fr hx hb hin h1 h63 hbytes hbase;exact qI9 hg hr (hK v' w' r1 r2 r3)
theorem zU8{o:Oper}{x:Operand}{t:TypeId}(ho:o.op=.load t x)(qK3:(match P.underlying t with | some (.struct _)=>true | some (.array _ _)=>true | _=>false)=true)(n:Nat)(hs:(P.info? t).map (·.size)=some n)
  (b o':Nat) (hx:a.eval x=.pointer (some ⟨b,o',none⟩)) {src r:Array Value} {tb:TypeId} {fr:Nat × Nat} (hb:w.heap[b]?=some (.cells src tb fr)) (hin:o'+n≤src.size) (hr:qA1 src o' n=r):
  Sem.run P (execOp a.eval o) w=.ok (.value (.agg r)) w:=hr ▸ zU7 ho qK3 n hs b o' hx hb hin
theorem zU9{o:Oper}{x y:Operand}{t:TypeId}(ho:o.op=.store t x y)(vs:Array Value)(hs:(P.info? t).map (·.size)=some vs.size)
  (b o':Nat) (hx:a.eval x=.pointer (some ⟨b,o',none⟩)) (hy:a.eval y=.agg vs) {cur:Array Value} {tb:TypeId} (hb:w.heap[b]?=some (.cells cur tb)) (hin:o'+vs.size≤cur.size)
  (h1:∀ v∈vs.toList,v.oneCell'=true):Sem.run P (execOp a.eval o) w=.ok .skip (w.setRow b (qC9 cur o' vs)):=by
 obtain⟨i,hi,hin'⟩:=Option.map_eq_some_iff.1 hs;have hr:=qL5 (P:=P) (w:=w) (o:=o') (vs:=vs.toList) hb (by simpa using hin) h1;have hrun:Sem.run P (Instr.storeAt t (.pointer (some ⟨b,o',none⟩)) (.agg vs)) w=.ok () (w.setRow b (qC9 cur o' vs)):=by
  simp[Instr.storeAt,Instr.sureAddr,storeVar,Go.sizeOf,typeInfo,hi,hin',Value.cells,hr]
 unfold execOp;simp only[ho,Sem.run_bind,Sem.run_pure,Result.andThen_ok,hx,hy,hrun]
theorem qQ2(cs:Array Value):qA1 cs 0 cs.size=cs:=by simp[qA1,List.take_of_length_le]
theorem qQ9{x:Operand}{t:TypeId}(qK3:(match P.underlying t with | some (.struct _)=>true | some (.array _ _)=>true | _=>false)=true)(n:Nat)(hs:(P.info? t).map (·.size)=some n)
  (b o:Nat) (hx:a.eval x=.pointer (some ⟨b,o,none⟩)) (src:Array Value) (tb:TypeId) (fr:Nat × Nat) (hb:w.heap[b]?=some (.cells src tb fr)) (hin:o+n≤src.size)
  (h:wpList P ops Q rest (a.put dst (.agg (qA1 src o n))) w):
  wpList P ops Q (⟨dst,.load t x,ty,pos,aft,none⟩::rest) a w:=by
 refine wpList_plain rfl fun K hK=>?_;have hk:=hK _ _ h;have hsz:=qN0 (cs:=src) hin;have hl:=run_loadCells_list (P:=P) w ⟨b,o,none⟩ (qA1 src o n).toList (fun j v hj=>by
  rw[qK0,ξ hb];have hlt:j<n:=by
   have:=(List.getElem?_eq_some_iff.1 hj).1;simp[hsz] at this;exact this
  rw[←qT7 hlt];simpa using hj)
 obtain⟨i,hi,hin'⟩:=Option.map_eq_some_iff.1 hs;have hl':Sem.run P (loadCells ⟨b,o,none⟩ n) w=.ok (qA1 src o n) w:=by simpa [hsz] using hl
 have hrun:Sem.run P (Instr.loadAt t (.pointer (some ⟨b,o,none⟩))) w=.ok (.agg (qA1 src o n)) w:=by
  cases hd:P.underlying t with
  | none=>simp[hd] at qK3
  | some d=>cases d<;>simp[hd] at qK3<;>simp[Instr.loadAt,Instr.sureAddr,loadVar,isAgg,run_underlying hd,Go.sizeOf,typeInfo,hi,hin',hl']
 unfold Oper.wp execOp;simp only[Sem.run_bind,Sem.run_pure,Result.andThen_ok,hx,hrun];exact hk
theorem jR0{t e:TypeId}{l c:Operand}(z:Value)(size bytes:Nat)(ht:P.underlying t=some (.slice e))(hi:(P.info? e).map (fun i=>(i.zero,i.size,i.bytes))=some (some z,size,bytes))
  (kl kc:IntKind) (n:Nat) (hl:a.eval l=.int kl n) (hc:a.eval c=.int kc n) (hb:bytes*n≤281474976710656) (hn:n≤1000000000)
  (h:wpList P ops Q rest (a.put dst (.slice (some ⟨w.heap.size,0,none⟩) n n)) (w.alloc (.cells (madeCells z.cells (n*size)) e))):
  wpList P ops Q (⟨dst,.makeSlice t l c,ty,pos,aft,none⟩::rest) a w:=by
 refine wpList_plain rfl fun K hK=>?_;have hk:=hK _ _ h;obtain⟨i,hi',hz⟩:=Option.map_eq_some_iff.1 hi;simp only[Prod.mk.injEq] at hz;obtain⟨hz,hsz,hby⟩:=hz;have hb':(i.bytes:Int)*(n:Int)≤281474976710656:=by
  rw[hby];have h:((bytes*n:Nat):Int)≤281474976710656:=by omega
  rwa [Int.natCast_mul] at h
 have hr:=run_make (P:=P) w t e i z ht hi' hz kl kc n n (by omega) (Int.le_refl _) hb' (by omega);simp only[Int.toNat_natCast,hsz] at hr;unfold Oper.wp execOp;simp only[Sem.run_bind,Sem.run_pure,Result.andThen_ok,hl,hc,hr];exact hk
theorem xA4{z:Array Value}{n:Nat}{z0:Value}(hz:∀ v∈z.toList,v=z0)(h0:n=0∨0<z.size):∀ v∈(madeCells z n).toList,v=z0:=by
 intro v hv;simp only[madeCells,Array.toList_map,List.mem_map,Array.toList_range,List.mem_range] at hv;obtain⟨x,hx,rfl⟩:=hv;have hp:0<z.size:=by omega
 have hl:x % z.size<z.size:=Nat.mod_lt _ hp;rw[getElem!_pos z _ hl];exact hz _ (by simp)
theorem xG4{t e:TypeId}(z z0:Value)(size bytes:Nat)(ht:P.underlying t=some (.slice e))(hi:(P.info? e).map (fun i=>(i.zero,i.size,i.bytes))=some (some z,size,bytes))
  (hz:∀ v∈z.cells.toList,v=z0) (hz1:0<z.cells.size) (kl kc:IntKind) (n:Nat) (hb:bytes*n≤281474976710656) (hn:n≤1000000000) (w:World):
  ∃ Z:Array Value,Z.size=n*size∧(∀ v∈Z.toList,v=z0)∧Sem.run P (Instr.makeSlice t (.int kl n) (.int kc n)) w=.ok (.slice (some ⟨w.heap.size,0,none⟩) n n) (w.alloc (.cells Z e)):=by
 obtain⟨i,hi',hz'⟩:=Option.map_eq_some_iff.1 hi;simp only[Prod.mk.injEq] at hz';obtain⟨hz',hsz,hby⟩:=hz';have hb':(i.bytes:Int)*(n:Int)≤281474976710656:=by
  rw[hby];have h:((bytes*n:Nat):Int)≤281474976710656:=by omega
  rwa [Int.natCast_mul] at h
 have hr:=run_make (P:=P) w t e i z ht hi' hz' kl kc n n (by omega) (Int.le_refl _) hb' (by omega);simp only[Int.toNat_natCast,hsz] at hr;exact⟨_,by simp[madeCells],xA4 hz (Or.inr hz1),hr⟩
theorem xE8{t e:TypeId}{l c:Operand}(z z0:Value)(size bytes:Nat)(ht:P.underlying t=some (.slice e))(hi:(P.info? e).map (fun i=>(i.zero,i.size,i.bytes))=some (some z,size,bytes))
  (hz:∀ v∈z.cells.toList,v=z0) (hz1:0<z.cells.size)
  (kl kc:IntKind) (n:Nat) (hl:a.eval l=.int kl n) (hc:a.eval c=.int kc n) (hb:bytes*n≤281474976710656) (hn:n≤1000000000)
  (h:∀ Z:Array Value,Z.size=n*size→(∀ v∈Z.toList,v=z0)→wpList P ops Q rest (a.put dst (.slice (some ⟨w.heap.size,0,none⟩) n n)) (w.alloc (.cells Z e))):
  wpList P ops Q (⟨dst,.makeSlice t l c,ty,pos,aft,none⟩::rest) a w:=
 jR0 z size bytes ht hi kl kc n hl hc hb hn (h _ (by simp[madeCells]) (xA4 hz (Or.inr hz1)))
end
def Apt(w:World)(S:List Nat)(Ts:List TypeId):Prop:=∀ k∈S,∀ c t fr,w.heap[k]?=some (.cells c t fr)→t ∉ Ts
structure Slc(w:World)(T:TypeId)(sz:Nat)(v:Value)(n:Nat)(cs:List Value):Prop where
 len:cs.length=n*sz
 val:(n=0∧∃ b c,v=.slice b 0 c∧(b=none→c=0))∨∃ g off cap cur fr,v=.slice (some ⟨g,off,none⟩) n cap∧1≤n∧n≤cap∧w.heap[g]?=some (.cells cur T fr)∧∀ j u,cs[j]?=some u→cur[off+j]?=some u
theorem Slc.keep{w w':World}{T:TypeId}{sz:Nat}{v:Value}{n:Nat}{cs:List Value}{S:List Nat}(h:Slc w T sz v n cs)(hK:Kp S w w')(hS:Apt w S [T]):Slc w' T sz v n cs:=by
 refine⟨h.len,?_⟩;rcases h.val with h|⟨g,off,cap,cur,fr,h1,h2,h3,h4,h5⟩
 ·exact .inl h
 ·exact .inr ⟨g,off,cap,cur,fr,h1,h2,h3,hK.heap h4 (fun hm=>hS g hm _ _ _ h4 (by simp)),h5⟩
theorem Apt.nil(w:World)(Ts:List TypeId):Apt w [] Ts:=fun k hk=>by simp at hk
theorem Slc.keep0{w w':World}{T:TypeId}{sz:Nat}{v:Value}{n:Nat}{cs:List Value}(h:Slc w T sz v n cs)(hK:Kp [] w w'):Slc w' T sz v n cs:=h.keep hK (Apt.nil _ _)
def pcs(p:KV):List Value:=[.string p.k,.string p.v]
def qA6(ps:List KV):List Value:=ps.flatMap pcs
theorem zA8(ps:List KV):(qA6 ps).length=ps.length*2:=by
 induction ps with
 | nil=>rfl
 | cons p ps ih=>simp[qA6,pcs] at *;omega
theorem qT6{ps:List KV}{i:Nat}(h:i<ps.length):(qA6 ps)[i*2]?=some (.string ps[i].k)∧(qA6 ps)[i*2+1]?=some (.string ps[i].v):=by
 induction ps generalizing i with
 | nil=>simp at h
 | cons p ps ih=>
  cases i with
  | zero=>simp[qA6,pcs]
  | succ i=>
   have:=ih (i:=i) (by simpa using h);have e1:(qA6 (p::ps))[(i+1)*2]?=(qA6 ps)[i*2]?:=by
    rw[show qA6 (p::ps)=.string p.k::.string p.v::qA6 ps from rfl,show (i+1)*2=i*2+1+1 by omega];simp
   have e2:(qA6 (p::ps))[(i+1)*2+1]?=(qA6 ps)[i*2+1]?:=by
    rw[show qA6 (p::ps)=.string p.k::.string p.v::qA6 ps from rfl,show (i+1)*2+1=i*2+1+1+1 by omega];simp
   rw[e1,e2];simpa using this
theorem Slc.pair{w:World}{v:Value}{ps:List KV}(h:Slc w 185 2 v ps.length (qA6 ps))(hn:1≤ps.length):
  ∃ g off cap cur fr,v=.slice (some ⟨g,off,none⟩) ps.length cap∧ps.length≤cap∧w.heap[g]?=some (.cells cur 185 fr)∧∀ i (h:i<ps.length),cur[off+i*2]?=some (.string ps[i].k)∧cur[off+i*2+1]?=some (.string ps[i].v):=by
 rcases h.val with⟨h0,_⟩|⟨g,off,cap,cur,fr,h1,h2,h3,h4,h5⟩
 ·omega
 ·exact⟨g,off,cap,cur,fr,h1,h3,h4,fun i hi=>⟨h5 _ _ (qT6 hi).1,h5 _ _ (qT6 hi).2⟩⟩
structure HL where
 key:ByteArray
 b:Int
 s:Int
 p:Option Nat
def HL.ptr(l:HL):Option Addr:=l.p.map fun q=>⟨q,0,none⟩
def lcs(l:HL):List Value:=[.string l.key,.int .i64 l.b,.int .u64 l.s,.pointer l.ptr]
def qA4(ls:List HL):List Value:=ls.flatMap lcs
theorem zH4(ls:List HL):(qA4 ls).length=ls.length*4:=by
 induction ls with
 | nil=>rfl
 | cons p ps ih=>simp[qA4,lcs] at *;omega
theorem qT1{ls:List HL}{i:Nat}(h:i<ls.length):(qA4 ls)[i*4]?=some (.string ls[i].key)∧(qA4 ls)[i*4+1]?=some (.int .i64 ls[i].b)∧(qA4 ls)[i*4+2]?=some (.int .u64 ls[i].s)∧(qA4 ls)[i*4+3]?=some (.pointer ls[i].ptr):=by
 induction ls generalizing i with
 | nil=>simp at h
 | cons p ps ih=>
  cases i with
  | zero=>simp[qA4,lcs]
  | succ i=>
   have:=ih (i:=i) (by simpa using h);have e:∀ c,(qA4 (p::ps))[(i+1)*4+c]?=(qA4 ps)[i*4+c]?:=fun c=>by
    rw[show qA4 (p::ps)=.string p.key::.int .i64 p.b::.int .u64 p.s::.pointer p.ptr::qA4 ps from rfl,show (i+1)*4+c=i*4+c+1+1+1+1 by omega];simp
   have e0:=e 0;rw[Nat.add_zero,Nat.add_zero] at e0;rw[e0,e 1,e 2,e 3];simpa using this
theorem Slc.link{w:World}{v:Value}{ls:List HL}(h:Slc w 87 4 v ls.length (qA4 ls))(hn:1≤ls.length):
  ∃ g off cap cur fr,v=.slice (some ⟨g,off,none⟩) ls.length cap∧ls.length≤cap∧w.heap[g]?=some (.cells cur 87 fr)∧∀ i (h:i<ls.length),cur[off+i*4]?=some (.string ls[i].key)∧cur[off+i*4+1]?=some (.int .i64 ls[i].b)∧cur[off+i*4+2]?=some (.int .u64 ls[i].s)∧cur[off+i*4+3]?=some (.pointer ls[i].ptr):=by
 rcases h.val with⟨h0,_⟩|⟨g,off,cap,cur,fr,h1,h2,h3,h4,h5⟩
 ·omega
 ·exact⟨g,off,cap,cur,fr,h1,h3,h4,fun i hi=>⟨h5 _ _ (qT1 hi).1,h5 _ _ (qT1 hi).2.1,h5 _ _ (qT1 hi).2.2.1,h5 _ _ (qT1 hi).2.2.2⟩⟩
theorem xT7(g F L:Nat)(cap:Array Value)(v:Value)(ps:List KV)(f:KV→Bool)(i:Nat)(w:World)(hF:w.heap[F]?=some (.cells #[.func (.func g) #[] cap] 215))(hL:w.heap[L]?=some (.cells #[v] 186))
  (hs:Slc w 185 2 v ps.length (qA6 ps)) (hi:i<ps.length) (hn:ps.length≤1000000)
  (hcf:∀ (args:Array Value) (W:World),Sem.run prog (callFunc g args) W=.ok (.enter g args) W)
  (hf:∀ W,Kp [] w W→Calls prog g (#[.agg #[.string ps[i].k,.string ps[i].v]]++cap) W fun e W'=>e=.returned (.bool (f ps[i]))∧Kp [] W W'):
  Calls prog 214 #[.int .i64 i,.pointer (some ⟨F,0,none⟩),.pointer (some ⟨L,0,none⟩)] w fun e w'=>e=.returned (.bool (f ps[i]))∧Kp [] w w':=by
 obtain⟨gb,off,cp,cur,fr,rfl,hcp,hrow,hcur⟩:=hs.pair (by omega);obtain⟨c0,c1⟩:=hcur i hi;have HF:=zh hf;clear hf hs hcur;go_enter func214,ntmps214;go_wp2_with fail;have hS0:w.heap[F]?=some (.cells #[.func (.func g) #[] cap] 215)∧w.heap[L]?=some (.cells #[.slice (some ⟨gb,off,none⟩) ps.length cp] 186)∧w.heap[gb]?=some (.cells cur 185 fr):=⟨hF,hL,hrow⟩;refine wp_region_held_drew (S:=fun W=>W.heap[F]?=some (.cells #[.func (.func g) #[] cap] 215)∧W.heap[L]?=some (.cells #[.slice (some ⟨gb,off,none⟩) ps.length cp] 186)∧W.heap[gb]?=some (.cells cur 185 fr)) (by kernel_rfl) hS0 (fun _=>?_);refine zV 0 (.func (.func g) #[] cap) rfl (fun W hS=>by have c:=ξ hS.1 0;simp at c;clear hS;go_simp) hS0 ?_;refine zV 1 (.slice (some ⟨gb,off,none⟩) ps.length cp) rfl (fun W hS=>by have c:=ξ hS.2.1 0;simp at c;clear hS;go_simp) hS0 ?_;refine zU 2 (.int .i64 i) hS0 ?_;refine zU 3 (.pointer (some ⟨gb,off+i*2,none⟩)) hS0 ?_;refine zV 4 (.agg #[.string ps[i].k,.string ps[i].v]) rfl (fun W hS=>by have a0:=ξ hS.2.2 (off+i*2);rw[c0] at a0;have a1:=ξ hS.2.2 (off+i*2+1);rw[c1] at a1;clear hS;go_simp) hS0 ?_;refine zq 5 fun K hK=>?_;go_simp;refine (HF.out w.drew ((Kp.refl _ _).drew)).mono ?_;rintro e w1 ⟨rfl,hK1⟩;have hK1':Kp [] w w1:=((Kp.refl _ w).drew).tr hK1;have hS1:=And.intro (hK1'.hp hF) (And.intro (hK1'.hp hL) (hK1'.hp hrow));refine hK.out _ _ hS1 (fun _=>?_);clear hK K
 try simp only[zZ]
 refine zq 6 fun K hK=>?_;go_simp;refine hK.out _ _ hS1 (fun _=>?_);clear hK K;refine zd ?_;go_wp2;go_ret;exact⟨rfl,hK1'⟩
theorem zE7(g:Nat)(cap:Array Value)(v:Value)(ps:List KV)(f:KV→Bool)(w:World)
  (hs:Slc w 185 2 v ps.length (qA6 ps)) (hn:ps.length≤1000000) (hup:∀ i j (hi:i<ps.length) (hj:j<ps.length),i≤j→f ps[i]=true→f ps[j]=true)
  (hcf:∀ (args:Array Value) (W:World),Sem.run prog (callFunc g args) W=.ok (.enter g args) W)
  (hf:∀ W,Kp [] w W→∀ i (h:i<ps.length),Calls prog g (#[.agg #[.string ps[i].k,.string ps[i].v]]++cap) W fun e W'=>e=.returned (.bool (f ps[i]))∧Kp [] W W'):
  Calls prog 146 #[v,.func (.func g) #[] cap] w fun e w'=>e=.returned (.int .i64 (ps.findIdx f:Nat))∧Kp [] w w':=by
 have hmf:=zM;obtain⟨bs,cp,hv⟩:∃ bs cp,v=.slice bs ps.length cp:=by
  rcases hs.val with⟨h0,b,c,h1,_⟩|⟨g,off,cap,cur,fr,h1,_⟩
  ·rw[h0];exact⟨b,c,h1⟩
  ·exact⟨_,cap,h1⟩
 subst hv;have HF:=zh hf;have HU:=zh hup;clear hf hup;go_enter func146,ntmps146;go_wp2_with fail;obtain⟨w1,hw1,hL1,hF1,hK1⟩:∃ w1,w1=(w.alloc (.cells #[.slice bs ps.length cp] 186)).alloc (.cells #[.func (.func g) #[] cap] 215)∧w1.heap[w.heap.size]?=some (.cells #[.slice bs ps.length cp] 186)∧w1.heap[w.heap.size+1]?=some (.cells #[.func (.func g) #[] cap] 215)∧Kp [] w w1:=by
  refine⟨_,rfl,θ _ (κ _ _),?_,((Kp.refl _ _).alloc _).alloc _⟩;have e:=κ (w.alloc (.cells #[.slice bs ps.length cp] 186)) (.cells #[.func (.func g) #[] cap] 215);simpa using e
 rw[←hw1];clear hw1;refine (xC8 214 _ ps.length (fun i=>((ps[i]?.map f).getD false)) w1 hn ?_ ?_ ?_).mono ?_
 ·intro i j hij hj hp;have hi:i<ps.length:=by omega
  simp only[List.getElem?_eq_getElem hi,List.getElem?_eq_getElem hj,Option.map_some,Option.getD_some] at *;exact HU.out i j hi hj hij hp
 ·intro args W;simp[go_sem,func214]
 ·intro W hKW i hi;refine (xT7 g (w.heap.size+1) w.heap.size cap _ ps f i W (hKW.hp hF1) (hKW.hp hL1) (hs.keep0 (hK1.tr hKW)) hi hn hcf (fun W' hK'=>HF.out W' ((hK1.tr hKW).tr hK') i hi)).mono ?_;rintro e W' ⟨rfl,hK'⟩;exact⟨by simp[List.getElem?_eq_getElem hi],hK'⟩
 ·rintro e w2 ⟨i,rfl,⟨h1,h2,h3⟩,hK2⟩;have e:i=ps.findIdx f:=zW9 h1 (fun j hj hji=>by
   have:=h2 j hji;simpa [List.getElem?_eq_getElem hj] using this) (fun h=>by
   have:=h3 h;simpa [List.getElem?_eq_getElem h] using this)
  subst e;have hK2':=hK1.tr hK2;go_wp2;go_ret;exact⟨rfl,hK2'⟩
theorem xT5(g F L:Nat)(cap:Array Value)(v:Value)(ps:List HL)(f:HL→Bool)(i:Nat)(w:World)(hF:w.heap[F]?=some (.cells #[.func (.func g) #[] cap] 217))(hL:w.heap[L]?=some (.cells #[v] 156))
  (hs:Slc w 87 4 v ps.length (qA4 ps)) (hi:i<ps.length) (hn:ps.length≤1000000)
  (hcf:∀ (args:Array Value) (W:World),Sem.run prog (callFunc g args) W=.ok (.enter g args) W)
  (hf:∀ W,Kp [] w W→Calls prog g (#[.agg #[.string ps[i].key,.int .i64 ps[i].b,.int .u64 ps[i].s,.pointer ps[i].ptr]]++cap) W fun e W'=>e=.returned (.bool (f ps[i]))∧Kp [] W W'):
  Calls prog 256 #[.int .i64 i,.pointer (some ⟨F,0,none⟩),.pointer (some ⟨L,0,none⟩)] w fun e w'=>e=.returned (.bool (f ps[i]))∧Kp [] w w':=by
 obtain⟨gb,off,cp,cur,fr,rfl,hcp,hrow,hcur⟩:=hs.link (by omega);obtain⟨c0,c1,c2,c3⟩:=hcur i hi;have HF:=zh hf;clear hf hs hcur;go_enter func256,ntmps256;go_wp2_with fail;have hS0:w.heap[F]?=some (.cells #[.func (.func g) #[] cap] 217)∧w.heap[L]?=some (.cells #[.slice (some ⟨gb,off,none⟩) ps.length cp] 156)∧w.heap[gb]?=some (.cells cur 87 fr):=⟨hF,hL,hrow⟩;refine wp_region_held_drew (S:=fun W=>W.heap[F]?=some (.cells #[.func (.func g) #[] cap] 217)∧W.heap[L]?=some (.cells #[.slice (some ⟨gb,off,none⟩) ps.length cp] 156)∧W.heap[gb]?=some (.cells cur 87 fr)) (by kernel_rfl) hS0 (fun _=>?_);refine zV 0 (.func (.func g) #[] cap) rfl (fun W hS=>by have c:=ξ hS.1 0;simp at c;clear hS;go_simp) hS0 ?_;refine zV 1 (.slice (some ⟨gb,off,none⟩) ps.length cp) rfl (fun W hS=>by have c:=ξ hS.2.1 0;simp at c;clear hS;go_simp) hS0 ?_;refine zU 2 (.int .i64 i) hS0 ?_;refine zU 3 (.pointer (some ⟨gb,off+i*4,none⟩)) hS0 ?_;refine zV 4 (.agg #[.string ps[i].key,.int .i64 ps[i].b,.int .u64 ps[i].s,.pointer ps[i].ptr]) rfl (fun W hS=>by have a0:=ξ hS.2.2 (off+i*4);rw[c0] at a0;have a1:=ξ hS.2.2 (off+i*4+1);rw[c1] at a1;have a2:=ξ hS.2.2 (off+i*4+2);rw[c2] at a2;have a3:=ξ hS.2.2 (off+i*4+3);rw[c3] at a3;clear hS;go_simp) hS0 ?_;refine zq 5 fun K hK=>?_;go_simp;refine (HF.out w.drew ((Kp.refl _ _).drew)).mono ?_;rintro e w1 ⟨rfl,hK1⟩;have hK1':Kp [] w w1:=((Kp.refl _ w).drew).tr hK1;have hS1:=And.intro (hK1'.hp hF) (And.intro (hK1'.hp hL) (hK1'.hp hrow));refine hK.out _ _ hS1 (fun _=>?_);clear hK K
 try simp only[zZ]
 refine zq 6 fun K hK=>?_;go_simp;refine hK.out _ _ hS1 (fun _=>?_);clear hK K;refine zd ?_;go_wp2;go_ret;exact⟨rfl,hK1'⟩
theorem xT6(g:Nat)(cap:Array Value)(v:Value)(ps:List HL)(f:HL→Bool)(w:World)
  (hs:Slc w 87 4 v ps.length (qA4 ps)) (hn:ps.length≤1000000) (hup:∀ i j (hi:i<ps.length) (hj:j<ps.length),i≤j→f ps[i]=true→f ps[j]=true)
  (hcf:∀ (args:Array Value) (W:World),Sem.run prog (callFunc g args) W=.ok (.enter g args) W)
  (hf:∀ W,Kp [] w W→∀ i (h:i<ps.length),Calls prog g (#[.agg #[.string ps[i].key,.int .i64 ps[i].b,.int .u64 ps[i].s,.pointer ps[i].ptr]]++cap) W fun e W'=>e=.returned (.bool (f ps[i]))∧Kp [] W W'):
  Calls prog 215 #[v,.func (.func g) #[] cap] w fun e w'=>e=.returned (.int .i64 (ps.findIdx f:Nat))∧Kp [] w w':=by
 have hmf:=zM;obtain⟨bs,cp,hv⟩:∃ bs cp,v=.slice bs ps.length cp:=by
  rcases hs.val with⟨h0,b,c,h1,_⟩|⟨g,off,cap,cur,fr,h1,_⟩
  ·rw[h0];exact⟨b,c,h1⟩
  ·exact⟨_,cap,h1⟩
 subst hv;have HF:=zh hf;have HU:=zh hup;clear hf hup;go_enter func215,ntmps215;go_wp2_with fail;obtain⟨w1,hw1,hL1,hF1,hK1⟩:∃ w1,w1=(w.alloc (.cells #[.slice bs ps.length cp] 156)).alloc (.cells #[.func (.func g) #[] cap] 217)∧w1.heap[w.heap.size]?=some (.cells #[.slice bs ps.length cp] 156)∧w1.heap[w.heap.size+1]?=some (.cells #[.func (.func g) #[] cap] 217)∧Kp [] w w1:=by
  refine⟨_,rfl,θ _ (κ _ _),?_,((Kp.refl _ _).alloc _).alloc _⟩;have e:=κ (w.alloc (.cells #[.slice bs ps.length cp] 156)) (.cells #[.func (.func g) #[] cap] 217);simpa using e
 rw[←hw1];clear hw1;refine (xC8 256 _ ps.length (fun i=>((ps[i]?.map f).getD false)) w1 hn ?_ ?_ ?_).mono ?_
 ·intro i j hij hj hp;have hi:i<ps.length:=by omega
  simp only[List.getElem?_eq_getElem hi,List.getElem?_eq_getElem hj,Option.map_some,Option.getD_some] at *;exact HU.out i j hi hj hij hp
 ·intro args W;simp[go_sem,func256]
 ·intro W hKW i hi;refine (xT5 g (w.heap.size+1) w.heap.size cap _ ps f i W (hKW.hp hF1) (hKW.hp hL1) (hs.keep0 (hK1.tr hKW)) hi hn hcf (fun W' hK'=>HF.out W' ((hK1.tr hKW).tr hK') i hi)).mono ?_;rintro e W' ⟨rfl,hK'⟩;exact⟨by simp[List.getElem?_eq_getElem hi],hK'⟩
 ·rintro e w2 ⟨i,rfl,⟨h1,h2,h3⟩,hK2⟩;have e:i=ps.findIdx f:=zW9 h1 (fun j hj hji=>by
   have:=h2 j hji;simpa [List.getElem?_eq_getElem hj] using this) (fun h=>by
   have:=h3 h;simpa [List.getElem?_eq_getElem h] using this)
  subst e;have hK2':=hK1.tr hK2;go_wp2;go_ret;exact⟨rfl,hK2'⟩
theorem jD8(g F:Nat)(cap:Array Value)(p:KV)(r:Bool)(w:World)(hF:w.heap[F]?=some (.cells #[.func (.func g) #[] cap] 215))
  (hcf:∀ (args:Array Value) (W:World),Sem.run prog (callFunc g args) W=.ok (.enter g args) W)
  (hf:∀ W,Kp [] w W→Calls prog g (#[.agg #[.string p.k,.string p.v]]++cap) W fun e W'=>e=.returned (.bool r)∧Kp [] W W'):
  Calls prog 219 #[.agg #[.string p.k,.string p.v],.pointer (some ⟨F,0,none⟩)] w fun e w'=>e=.returned (.bool !r)∧Kp [] w w':=by
 have HF:=zh hf;clear hf;have hFs:=ζ hF;have f0:=ξ hF 0;simp only[zG,zH,zI] at f0;go_enter func219,ntmps219;go_wp2_with fail;refine (HF.out _ ((Kp.refl _ _).alloc _)).mono ?_;rintro e w1 ⟨rfl,hK1⟩;have hK1':Kp [] w w1:=((Kp.refl _ _).alloc _).tr hK1;go_wp2;go_ret;exact⟨rfl,hK1'⟩
theorem jD7(g F:Nat)(cap:Array Value)(p:HL)(r:Bool)(w:World)(hF:w.heap[F]?=some (.cells #[.func (.func g) #[] cap] 217))
  (hcf:∀ (args:Array Value) (W:World),Sem.run prog (callFunc g args) W=.ok (.enter g args) W)
  (hf:∀ W,Kp [] w W→Calls prog g (#[.agg #[.string p.key,.int .i64 p.b,.int .u64 p.s,.pointer p.ptr]]++cap) W fun e W'=>e=.returned (.bool r)∧Kp [] W W'):
  Calls prog 216 #[.agg #[.string p.key,.int .i64 p.b,.int .u64 p.s,.pointer p.ptr],.pointer (some ⟨F,0,none⟩)] w fun e w'=>e=.returned (.bool !r)∧Kp [] w w':=by
 have HF:=zh hf;clear hf;have hFs:=ζ hF;have f0:=ξ hF 0;simp only[zG,zH,zI] at f0;go_enter func216,ntmps216;go_wp2_with fail;refine (HF.out _ ((Kp.refl _ _).alloc _)).mono ?_;rintro e w1 ⟨rfl,hK1⟩;have hK1':Kp [] w w1:=((Kp.refl _ _).alloc _).tr hK1;go_wp2;go_ret;exact⟨rfl,hK1'⟩
theorem zG5(g:Nat)(cap:Array Value)(v:Value)(ps:List HL)(f:HL→Bool)(w:World)
  (hs:Slc w 87 4 v ps.length (qA4 ps)) (hn:ps.length≤1000000) (hdn:∀ i j (hi:i<ps.length) (hj:j<ps.length),i≤j→f ps[j]=true→f ps[i]=true)
  (hcf:∀ (args:Array Value) (W:World),Sem.run prog (callFunc g args) W=.ok (.enter g args) W)
  (hf:∀ W,Kp [] w W→∀ i (h:i<ps.length),Calls prog g (#[.agg #[.string ps[i].key,.int .i64 ps[i].b,.int .u64 ps[i].s,.pointer ps[i].ptr]]++cap) W fun e W'=>e=.returned (.bool (f ps[i]))∧Kp [] W W'):
  Calls prog 148 #[v,.func (.func g) #[] cap] w fun e w'=>e=.returned (.int .i64 (ps.findIdx (fun p=>!f p)-1:Nat))∧Kp [] w w':=by
 have hmf:=zM;have HF:=zh hf;have HU:=zh hdn;clear hf hdn;go_enter func148,ntmps148;go_wp2_with fail;have hF1:=κ w (.cells #[.func (.func g) #[] cap] 217);have hK1:Kp [] w (w.alloc (.cells #[.func (.func g) #[] cap] 217)):=(Kp.refl _ _).alloc _;refine (xT6 216 _ v ps (fun p=>!f p) _ (hs.keep0 hK1) hn ?_ ?_ ?_).mono ?_
 ·intro i j hi hj hij hp;by_cases e:f ps[j]=true
  ·rw[HU.out i j hi hj hij e] at hp;simp at hp
  ·simpa using e
 ·intro args W;simp[go_sem,func216]
 ·intro W hKW i hi;exact jD7 g w.heap.size cap ps[i] (f ps[i]) W (hKW.hp hF1) hcf (fun W' hK'=>HF.out W' ((hK1.tr hKW).tr hK') i hi)
 ·rintro e w2 ⟨rfl,hK2⟩;have hK2':=hK1.tr hK2;have hle:ps.findIdx (fun p=>!f p)≤ps.length:=List.findIdx_le_length;go_wp2
  all_goals
   go_ret;exact⟨qJ5 (by omega),hK2'⟩
def υ(lvl:Int)(vp vl:Value):Obj:=.cells #[.int .i64 lvl,vp,vl] 213
theorem jP8(K:Nat)(k:ByteArray)(p:HL)(w:World)(hK:w.heap[K]?=some (.cells #[.string k] 9)):
  Calls prog 221 #[.agg #[.string p.key,.int .i64 p.b,.int .u64 p.s,.pointer p.ptr],.pointer (some ⟨K,0,none⟩)] w fun e w'=>e=.returned (.bool !kl k p.key)∧Kp [] w w':=by
 have hKs:=ζ hK;have k0:=ξ hK 0;simp only[zG,zH,zI] at k0;go_enter func221,ntmps221;go_wp2;go_ret;exact⟨by rw[←zX8];rfl,(Kp.refl _ _).alloc _⟩
def Rise(ls:List HL):Prop:=ls.Pairwise fun a b=>kl a.key b.key=true
theorem Rise.at{ls:List HL}(h:Rise ls){i j:Nat}(hi:i<ls.length)(hj:j<ls.length)(hij:i<j):kl ls[i].key ls[j].key=true:=
 List.pairwise_iff_getElem.1 h i j hi hj hij
theorem zP1(q:Nat)(lvl:Int)(vp vl:Value)(ls:List HL)(k:ByteArray)(w:World)(hq:w.heap[q]?=some (υ lvl vp vl))(hs:Slc w 87 4 vl ls.length (qA4 ls))(hn:ls.length≤1000000)(hr:Rise ls):
  Calls prog 158 #[.pointer (some ⟨q,0,none⟩),.string k] w fun e w'=>e=.returned (.int .i64 (ls.findIdx (fun l=>kl k l.key)-1:Nat))∧Kp [] w w':=by
 have hmf:=zM;have hqs:=ζ hq;have q2:=ξ hq 2;simp only[υ,zG,zH,zI] at q2;go_enter func158,ntmps158;go_wp2_with fail;have hK0:=κ w (.cells #[.string k] 9);have hK1:Kp [] w (w.alloc (.cells #[.string k] 9)):=(Kp.refl _ _).alloc _;refine (zG5 221 _ vl ls (fun l=>!kl k l.key) _ (hs.keep0 hK1) hn ?_ ?_ ?_).mono ?_
 ·intro i j hi hj hij hp;by_cases e:i=j
  ·subst e;exact hp
  ·have h1:=hr.at hi hj (by omega);have hp':kl k ls[j].key=false:=by simpa using hp
   by_cases e2:kl k ls[i].key=true
   ·rw[qM4 e2 h1] at hp';cases hp'
   ·simpa using e2
 ·intro args W;simp[go_sem,func221]
 ·intro W hKW i hi;exact jP8 w.heap.size k ls[i] W (hKW.hp hK0)
 ·rintro e w2 ⟨rfl,hK2⟩;have hK2':=hK1.tr hK2;go_wp2;go_ret;exact⟨by simp,hK2'⟩
theorem jN1(K:Nat)(k:ByteArray)(p:KV)(w:World)(hK:w.heap[K]?=some (.cells #[.string k] 9)):
  Calls prog 222 #[.agg #[.string p.k,.string p.v],.pointer (some ⟨K,0,none⟩)] w fun e w'=>e=.returned (.bool !kl p.k k)∧Kp [] w w':=by
 have hKs:=ζ hK;have k0:=ξ hK 0;simp only[zG,zH,zI] at k0;go_enter func222,ntmps222;go_wp2;go_ret;exact⟨rfl,(Kp.refl _ _).alloc _⟩
theorem jN4{ps:List KV}(hs:Sorted ps)(k:ByteArray):∀ i j (hi:i<ps.length) (hj:j<ps.length),i≤j→(!kl ps[i].k k)=true→(!kl ps[j].k k)=true:=by
 intro i j hi hj hij hp;by_cases e:i=j
 ·subst e;exact hp
 ·have h1:kl ps[i].k ps[j].k=true:=List.pairwise_iff_getElem.1 hs i j hi hj (by omega);by_cases e2:kl ps[j].k k=true
  ·rw[qM4 h1 e2] at hp;cases hp
  ·simpa using e2
theorem zB4(q:Nat)(lvl:Int)(vp vl:Value)(ps:List KV)(k:ByteArray)(w:World)(hq:w.heap[q]?=some (υ lvl vp vl))(hs:Slc w 185 2 vp ps.length (qA6 ps))(hn:ps.length≤1000000)(hr:Sorted ps):
  Calls prog 159 #[.pointer (some ⟨q,0,none⟩),.string k] w fun e w'=>e=.returned (.tuple #[.int .i64 (qB2 ps k),.bool (qF6 ps (qB2 ps k) k)])∧Kp [] w w':=by
 have hmf:=zM;have hqs:=ζ hq;have q1:=ξ hq 1;simp only[υ,zG,zH,zI] at q1;go_enter func159,ntmps159;go_wp2_with fail;have hK0:=κ w (.cells #[.string k] 9);have hK1:Kp [] w (w.alloc (.cells #[.string k] 9)):=(Kp.refl _ _).alloc _;refine (zE7 222 _ vp ps (fun p=>!kl p.k k) _ (hs.keep0 hK1) hn (jN4 hr k) ?_ ?_).mono ?_
 ·intro args W;simp[go_sem,func222]
 ·intro W hKW i hi;exact jN1 w.heap.size k ps[i] W (hKW.hp hK0)
 rintro e w2 ⟨rfl,hK2⟩;have hK2':=hK1.tr hK2;have hq2:=hK2'.hp hq;have hk2:=hK2.hp hK0;have hs2:=hs.keep0 hK2';have e:ps.findIdx (fun p=>!kl p.k k)=qB2 ps k:=rfl;rw[e];clear hK2 hK1 hK0 hs hq q1 hqs e;have hqs:=ζ hq2;have hks:=ζ hk2;have q1:=ξ hq2 1;simp only[υ,zG,zH,zI] at q1;have k0:=ξ hk2 0;simp only[zG,zH,zI] at k0;have hle:=qU5 ps k;obtain⟨i,hi0⟩:∃ i,qB2 ps k=i:=⟨_,rfl⟩;rw[hi0] at hle ⊢;by_cases hi:i<ps.length
 ·obtain⟨gb,off,cp,cur,fr,rfl,hcp,hrow,hcur⟩:=hs2.pair (by omega);obtain⟨c0,_⟩:=hcur i hi;have r0:=ξ hrow (off+i*2);rw[c0] at r0;have hgs:=ζ hrow;have hib:(i:Int)<(ps.length:Int):=by omega
  clear hcur hs2;go_wp2_with fail
  go_quiet (fail)
  go_wp2
  go_ret2
  refine⟨?_,hK2'.drewN _⟩;rw[hi0];simp[qF6,List.getElem?_eq_getElem hi,zQ1]
 ·have hib:¬(i:Int)<(ps.length:Int):=by omega
  obtain⟨bs,cp,hv⟩:∃ bs cp,vp=.slice bs ps.length cp:=by
   rcases hs2.val with⟨h0,b,c,h1,_⟩|⟨g,off,cap,cur,fr,h1,_⟩
   ·rw[h0];exact⟨b,c,h1⟩
   ·exact⟨_,cap,h1⟩
  subst hv;go_wp2_with fail
  go_quiet (fail)
  go_wp2
  go_ret2
  refine⟨?_,hK2'.drewN _⟩;rw[hi0];have:qF6 ps i k=false:=by unfold qF6;rw[List.getElem?_eq_none (by omega)]
  rw[this];rfl
def ι(l:HL):Nat:=11+l.key.size
theorem xD1(p:KV)(w:World)(hp:ρ p≤1000):
  Calls prog 340 #[.agg #[.string p.k,.string p.v]] w fun e w'=>e=.returned (.int .i64 (ρ p))∧Kp [] w w':=by
 unfold ρ at hp;go_enter func340,ntmps340;go_wp2;go_ret;exact⟨qJ5 (by unfold ρ;omega),(Kp.refl _ _).alloc _⟩
theorem xD0(p:HL)(w:World)(hp:ι p≤1000):
  Calls prog 334 #[.agg #[.string p.key,.int .i64 p.b,.int .u64 p.s,.pointer p.ptr]] w fun e w'=>e=.returned (.int .i64 (ι p))∧Kp [] w w':=by
 unfold ι at hp;go_enter func334,ntmps334;go_wp2;go_ret;exact⟨qJ5 (by unfold ι;omega),(Kp.refl _ _).alloc _⟩
theorem jG2(p:KV)(w:World):
  Calls prog 339 #[.agg #[.string p.k,.string p.v]] w fun e w'=>e=.returned (.string p.k)∧Kp [] w w':=by
 go_enter func339,ntmps339;go_wp2;go_ret;exact⟨rfl,(Kp.refl _ _).alloc _⟩
theorem jG1(p:HL)(w:World):
  Calls prog 333 #[.agg #[.string p.key,.int .i64 p.b,.int .u64 p.s,.pointer p.ptr]] w fun e w'=>e=.returned (.string p.key)∧Kp [] w w':=by
 go_enter func333,ntmps333;go_wp2;go_ret;exact⟨rfl,(Kp.refl _ _).alloc _⟩
theorem qL0{α:Type}(f:α→Nat)(l:List α)(j:Nat)(h:j<l.length):meas f (l.take (j+1))=meas f (l.take j)+f l[j]:=by
 rw[List.take_succ_eq_append_getElem h,qG3,qE6,qE7];omega
theorem qN7{α:Type}(f:α→Nat)(l:List α)(j:Nat):meas f (l.take j)≤meas f l:=by
 have:=qO6 f l j;omega
theorem jG4(v:Value)(ps:List KV)(w:World)(hs:Slc w 185 2 v ps.length (qA6 ps))(hn:ps.length≤1000000)(hz:∀ p∈ps,ρ p≤1000)(hm:meas ρ ps≤1000000):
  Calls prog 272 #[v] w fun e w'=>e=.returned (.int .i64 (meas ρ ps))∧Kp [] w w':=by
 obtain⟨bs,cp,hv⟩:∃ bs cp,v=.slice bs ps.length cp:=by
  rcases hs.val with⟨h0,b,c,h1,_⟩|⟨g,off,cap,cur,fr,h1,_⟩
  ·rw[h0];exact⟨b,c,h1⟩
  ·exact⟨_,cap,h1⟩
 subst hv;have HS:=zh hs;have HZ:=zh hz;clear hs hz;go_enter func272,ntmps272;go_wp2
 go_loopw [3,8] (fun s i wr=>∃ (j:Nat),j≤ps.length∧i=.int .i64 j∧s=.int .i64 (meas ρ (ps.take j):Nat)∧Kp [] w wr) (fun _ i _=>ps.length-(intOf i).toNat)
 case atStart=>exact⟨0,Nat.zero_le _,rfl,rfl,Kp.refl _ _⟩
 case round=>
  obtain⟨j,hj,rfl,rfl,hK⟩:=hrel;by_cases hlt:j<ps.length
  ·obtain⟨gb,off,cp',cur,fr,hv,hcp,hrow,hcur⟩:=HS.out.pair (by omega);obtain⟨c0,c1⟩:=hcur j hlt;simp only[Value.slice.injEq,true_and] at hv;obtain⟨rfl,rfl⟩:=hv;have hR:=hK.hp hrow;have a0:=ξ hR (off+j*2);rw[c0] at a0;have a1:=ξ hR (off+j*2+1);rw[c1] at a1;have hgs:=ζ hR;have hjb:(j:Int)<(ps.length:Int):=by omega
   have hz0:=HZ.out ps[j] (List.getElem_mem hlt);have hmt:=qN7 ρ ps j;have HMS:Hid (meas ρ (ps.take (j+1))=meas ρ (ps.take j)+ρ ps[j]):=qL0 ρ ps j hlt;clear hcur;go_wp2_with fail;refine (xD1 ps[j] _ hz0).mono ?_;rintro e w1 ⟨rfl,hK1⟩;have hK1':Kp [] w w1:=((hK.alloc _)).tr hK1;go_wp2;refine⟨⟨j+1,by omega,by go_num,by rw[HMS.out];go_num,hK1'⟩,by simp[intOf];omega⟩
  ·have hjb:¬(j:Int)<(ps.length:Int):=by omega
   go_wp2;go_ret;exact⟨qJ5 (by rw[List.take_of_length_le (by omega)]),hK⟩
theorem jG3(v:Value)(ps:List HL)(w:World)(hs:Slc w 87 4 v ps.length (qA4 ps))(hn:ps.length≤1000000)(hz:∀ p∈ps,ι p≤1000)(hm:meas ι ps≤1000000):
  Calls prog 276 #[v] w fun e w'=>e=.returned (.int .i64 (meas ι ps))∧Kp [] w w':=by
 obtain⟨bs,cp,hv⟩:∃ bs cp,v=.slice bs ps.length cp:=by
  rcases hs.val with⟨h0,b,c,h1,_⟩|⟨g,off,cap,cur,fr,h1,_⟩
  ·rw[h0];exact⟨b,c,h1⟩
  ·exact⟨_,cap,h1⟩
 subst hv;have HS:=zh hs;have HZ:=zh hz;clear hs hz;go_enter func276,ntmps276;go_wp2
 go_loopw [3,8] (fun s i wr=>∃ (j:Nat),j≤ps.length∧i=.int .i64 j∧s=.int .i64 (meas ι (ps.take j):Nat)∧Kp [] w wr) (fun _ i _=>ps.length-(intOf i).toNat)
 case atStart=>exact⟨0,Nat.zero_le _,rfl,rfl,Kp.refl _ _⟩
 case round=>
  obtain⟨j,hj,rfl,rfl,hK⟩:=hrel;by_cases hlt:j<ps.length
  ·obtain⟨gb,off,cp',cur,fr,hv,hcp,hrow,hcur⟩:=HS.out.link (by omega);obtain⟨c0,c1,c2,c3⟩:=hcur j hlt;simp only[Value.slice.injEq,true_and] at hv;obtain⟨rfl,rfl⟩:=hv;have hR:=hK.hp hrow;have a0:=ξ hR (off+j*4);rw[c0] at a0;have a1:=ξ hR (off+j*4+1);rw[c1] at a1;have a2:=ξ hR (off+j*4+2);rw[c2] at a2;have a3:=ξ hR (off+j*4+3);rw[c3] at a3;have hgs:=ζ hR;have hjb:(j:Int)<(ps.length:Int):=by omega
   have hz0:=HZ.out ps[j] (List.getElem_mem hlt);have hmt:=qN7 ι ps j;have HMS:Hid (meas ι (ps.take (j+1))=meas ι (ps.take j)+ι ps[j]):=qL0 ι ps j hlt;clear hcur;go_wp2_with fail;refine (xD0 ps[j] _ hz0).mono ?_;rintro e w1 ⟨rfl,hK1⟩;have hK1':Kp [] w w1:=((hK.alloc _)).tr hK1;go_wp2;refine⟨⟨j+1,by omega,by go_num,by rw[HMS.out];go_num,hK1'⟩,by simp[intOf];omega⟩
  ·have hjb:¬(j:Int)<(ps.length:Int):=by omega
   go_wp2;go_ret;exact⟨qJ5 (by rw[List.take_of_length_le (by omega)]),hK⟩
end Go.Proofs.YtdohpenfkdckiaaGreatDoor
