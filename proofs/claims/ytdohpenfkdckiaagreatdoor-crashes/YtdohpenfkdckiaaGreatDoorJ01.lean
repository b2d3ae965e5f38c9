import Derived.Deep.RegionHeld
import Derived.Below
import Derived.WalkKit
import Derived.WalkSpells
import Derived.Deep.QuietTactic
import Derived.BigQuiet
import Derived.Test.YtdohpenfkdckiaaGreatDoorProg
import Derived.Laws.CopyRow
import Derived.Deep.OwnRows
import Derived.Great.BuildSlice
import Derived.Great.FillDense
import Derived.Deep.RegionLaw
import Derived.Deep.RegionLawGrows
import Derived.Deep.RegionWith
import Derived.Deep.DeepMust
import Derived.Laws.BitsAllLaws
import Derived.Laws.Strings
import Derived.Laws.Cover1
set_option linter.all false
set_option maxRecDepth 100000
set_option maxHeartbeats 0
namespace Go.Proofs.YtdohpenfkdckiaaGreatDoor
open Go.Proofs.Tryz Go.RowKit
def zA {α : Type} (l : List α) (i : Nat) (a : α) : l.toArray.setIfInBounds i a = (l.set i a).toArray := List.setIfInBounds_toArray l i a
def zB {α : Type} {x : α} {xs : List α} {a : α} : (x :: xs).set 0 a = a :: xs := List.set_cons_zero
def zC {α : Type} {x : α} {xs : List α} {n : Nat} {a : α} : (x :: xs).set (n + 1) a = x :: xs.set n a := List.set_cons_succ
def zD {α : Type} {xs : List α} {i : Nat} (h : i < xs.toArray.size) : xs.toArray[i] = xs[i]'(by simpa using h) := List.getElem_toArray h
def zE {α : Type} {a : α} {l : List α} {i : Nat} {h : i + 1 < (a :: l).length} : (a :: l)[i + 1] = l[i]'(Nat.lt_of_succ_lt_succ h) := List.getElem_cons_succ _ _ _ _
def zF {α : Type} {a : α} {l : List α} {h : 0 < (a :: l).length} : (a :: l)[0] = a := List.getElem_cons_zero _ _ _
def zG {α : Type} {xs : List α} {i : Nat} : xs.toArray[i]? = xs[i]? := List.getElem?_toArray
def zH {α : Type} {a : α} {l : List α} : (a :: l)[0]? = some a := List.getElem?_cons_zero
def zI {α : Type} {a : α} {l : List α} {i : Nat} : (a :: l)[i + 1]? = l[i]? := List.getElem?_cons_succ
def zM : ∀(fn : Fn)(first cap : Array Value)(w : World), (Instr.makeFunc fn first cap).run Tryz.prog w = .ok (.func fn first cap) w := fun _ _ _ _ => rfl
section
variable {P:Program} {md:Region.Mode} {ops:Array Oper} {Q:Exit→Act→World→Prop} {S:World→Prop} {oi oj:Oper} {fuel:Nat} {l:Array Bool} {a a':Act} {w:World}
def zZ:(∀(a:Act)(d:Nat)(v:Value),a.put (some d) v={a with tmps:=a.tmps.setIfInBounds d v})∧(∀(a:Act)(v:Value),a.put none v=a)∧(∀{α:Type} (l:List α) (i:Nat) (a:α),l.toArray.setIfInBounds i a=(l.set i a).toArray)∧(∀{α:Type} {x:α} {s:List α} {a:α},(x::s).set 0 a=a::s)∧(∀{α:Type} {x:α} {s:List α} {n:Nat} {a:α},(x::s).set (n+1) a=x::s.set n a)∧(∀{α:Type} {s:List α} {i:Nat} (h:i<s.toArray.size),s.toArray[i]=s[i]'(by simpa using h))∧(∀{α:Type} {a:α} {l:List α} {i:Nat} {h:i+1<(a::l).length},(a::l)[i+1]=l[i]'(Nat.lt_of_succ_lt_succ h))∧(∀{α:Type} {a:α} {l:List α} {h:0<(a::l).length},(a::l)[0]=a):=⟨fun _ _ _=>rfl,fun _ _=>rfl,zA,zB,zC,zD,zE,zF⟩
def zV (i:Nat) (v:Value) (hi:ops[i]?=some oi) (hy:∀W,S W→(execOp a.eval oi).run P W=.ok (.value v) W) (hS:S w) (h:wpAnyH P md ops Q S fuel (l.setIfInBounds i true) a' w) (hb:(Region.noSelect ops && (Region.free md ops l i && (Region.ready md ops l).contains i))=true:=by kernel_rfl) (hQ:∀c a w,Q (.panic c) (a.put oi.dst v) w→Q (.panic c) a w:=by exact fun _ _ _ h=>h) (hw:Region.wanted oi (yielded ops a.tmps)=true:=by rfl) (ha:a.put oi.dst v=a':=by simp only [zZ];try exact rfl):wpAnyH P md ops Q S (fuel+1) l a w:=by
 subst ha;simp only [Bool.and_eq_true]at hb;exact wpAnyH_take hi hb.1 hb.2.1 hb.2.2 hQ (.inl ⟨hw,hy⟩) hS h
def zU (i:Nat) (v:Value) (hS:S w) (h:wpAnyH P md ops Q S fuel (l.setIfInBounds i true) a' w) (hi:ops[i]?=some oi:=by rfl) (hb:(Region.noSelect ops && (Region.free md ops l i && (Region.ready md ops l).contains i))=true:=by kernel_rfl) (hQ:∀c a w,Q (.panic c) (a.put oi.dst v) w→Q (.panic c) a w:=by exact fun _ _ _ h=>h) (hw:Region.wanted oi (yielded ops a.tmps)=true:=by rfl) (hy:∀W,(execOp a.eval oi).run P W=.ok (.value v) W:=by intro W;go_simp) (ha:a.put oi.dst v=a':=by simp only [zZ];try exact rfl):wpAnyH P md ops Q S (fuel+1) l a w:=zV i v hi (fun W _=>hy W) hS h hb hQ hw ha
def zu (i:Nat) (v:Value) (h:wpAny P md ops Q fuel (l.setIfInBounds i true) a' w) (hi:ops[i]?=some oi:=by rfl) (hb:(Region.noSelect ops && (Region.free md ops l i && (Region.ready md ops l).contains i))=true:=by kernel_rfl) (hQ:∀c a w,Q (.panic c) (a.put oi.dst v) w→Q (.panic c) a w:=by exact fun _ _ _ h=>h) (hw:Region.wanted oi (yielded ops a.tmps)=true:=by rfl) (hy:∀W,(execOp a.eval oi).run P W=.ok (.value v) W:=by intro W;go_simp) (ha:a.put oi.dst v=a':=by simp only [zZ];try exact rfl):wpAny P md ops Q (fuel+1) l a w:=by
 subst ha;simp only [Bool.and_eq_true]at hb;exact wpAny_take hi hb.1 hb.2.1 hb.2.2 hQ (.inl ⟨hw,hy⟩) h
def zP (i q k:Nat) (hS:S w) (h:wpAnyH P md ops Q S fuel (l.setIfInBounds i true) a' w) (hi:ops[i]?=some oi:=by rfl) (hb:(Region.noSelect ops && (Region.free md ops l i && (Region.ready md ops l).contains i))=true:=by kernel_rfl) (hQ:∀c a w,Q (.panic c) (a.put oi.dst (.pointer (some ⟨q,k,none⟩))) w→Q (.panic c) a w:=by exact fun _ _ _ h=>h) (hw:Region.wanted oi (yielded ops a.tmps)=true:=by rfl) (hy:∀W,(execOp a.eval oi).run P W=.ok (.value (.pointer (some ⟨q,k,none⟩))) W:=by intro W;go_simp) (ha:a.put oi.dst (.pointer (some ⟨q,k,none⟩))=a':=by simp only [zZ];try exact rfl):wpAnyH P md ops Q S (fuel+1) l a w:=zV i _ hi (fun W _=>hy W) hS h hb hQ hw ha
def zq (i:Nat) (h:∀K':Act→World→Prop,Shut (∀a w,S w→(S w→wpAnyH P md ops Q S fuel (l.setIfInBounds i true) a w)→K' a w)→if Region.wanted oi (yielded ops a.tmps)=true then Oper.wp P oi a w K' Q else K' (a.put oi.dst undef) w) (ho:ops[i]?=some oi:=by rfl) (hr:Region.ready md ops l=[i]:=by kernel_rfl):wpAnyH P md ops Q S (fuel+1) l a w:=wpAnyH_ready hr (by simp) (AllReadyH.cons ho h AllReadyH.nil)
def zr (i j:Nat) (h:∀K':Act→World→Prop,Shut (∀a w,S w→(S w→wpAnyH P md ops Q S fuel (l.setIfInBounds i true) a w)→K' a w)→if Region.wanted oi (yielded ops a.tmps)=true then Oper.wp P oi a w K' Q else K' (a.put oi.dst undef) w) (h2:∀K':Act→World→Prop,Shut (∀a w,S w→(S w→wpAnyH P md ops Q S fuel (l.setIfInBounds j true) a w)→K' a w)→if Region.wanted oj (yielded ops a.tmps)=true then Oper.wp P oj a w K' Q else K' (a.put oj.dst undef) w) (ho:ops[i]?=some oi:=by rfl) (ho2:ops[j]?=some oj:=by rfl) (hr:Region.ready md ops l=[i,j]:=by kernel_rfl):wpAnyH P md ops Q S (fuel+1) l a w:=wpAnyH_ready hr (by simp) (AllReadyH.cons ho h (AllReadyH.cons ho2 h2 AllReadyH.nil))
def zQ (i:Nat) (h:∀K':Act→World→Prop,(∀a w,wpAny P md ops Q fuel (l.setIfInBounds i true) a w→K' a w)→if Region.wanted oi (yielded ops a.tmps)=true then Oper.wp P oi a w K' Q else K' (a.put oi.dst undef) w) (ho:ops[i]?=some oi:=by rfl) (hr:Region.ready md ops l=[i]:=by kernel_rfl):wpAny P md ops Q (fuel+1) l a w:=wpAny_ready hr (by simp) (AllReady.cons ho h AllReady.nil)
def zd (h:Q .normal a w) (hr:Region.ready md ops l=[]:=by kernel_rfl):wpAnyH P md ops Q S fuel l a w:=wpAnyH_done hr h _
def zh {p:Prop} (h:p):RowKit.Hid p:=h
end
abbrev ϖ(x:Nat):Value:=.pointer (some ⟨x,0,none⟩)
abbrev Ω:=Calls prog
abbrev Ϙ(w:World)(k:Nat)(o:Obj):Prop:=w.heap[k]?=some o
abbrev ϊ:=Value.int .i64
abbrev ϱ:=Ending.returned
abbrev ϛ:Array Value:=#[.pointer none,.string ⟨#[]⟩,.int .i64 0,.int .u64 0,.pointer none]
abbrev ϝ:Array Value:=#[.string ⟨#[]⟩,.string ⟨#[]⟩]
abbrev ϙ:Array Value:=#[.string ⟨#[]⟩,.int .i64 0,.int .u64 0,.pointer none]
abbrev ϳ(w:World):Nat:=w.heap.size
abbrev ϲ(c:Array Value)(t:TypeId)(f:Nat×Nat:=(0,0)):Obj:=.cells c t f
abbrev ϕ:=Value.string
abbrev ϗ:=Value.pointer
abbrev ϒ:=Value.slice
abbrev ϐ:=Value.bool
abbrev ϑ(g a:Nat)(n c:Nat):Value:=.slice (some ⟨g,a,none⟩) n c
abbrev ϰ(g a:Nat):Addr:=⟨g,a,none⟩
abbrev mC:=@List.mem_cons
abbrev lN:=@List.not_mem_nil
abbrev tL:=@List.take_of_length_le
abbrev gM:=@List.getElem_mem
abbrev gQ:=@List.getElem?_eq_getElem
abbrev lA:=@List.length_append
abbrev tA:=@List.take_succ_eq_append_getElem
abbrev zL:=@Nat.zero_le
abbrev aA:=@List.append_assoc
abbrev wN:=@World.ownsRow_nil
abbrev vJ:=@Value.slice.injEq
abbrev tD:=@List.take_append_drop
abbrev lC:=@List.length_cons
abbrev nA:=@List.nil_append
abbrev oB:=@Value.ownBlock
abbrev cA:=@List.cons_append
abbrev gO:=@List.getElem_of_mem
abbrev lT:=@Nat.le_trans
abbrev fC:=@List.flatMap_cons
abbrev dG:=@List.drop_eq_getElem_cons
abbrev iR:=@Int.le_refl
abbrev oC:=@Value.oneCell'
abbrev mM:=@List.mem_cons_of_mem
abbrev fA:=@List.flatMap_append
abbrev lK:=@List.length_take
abbrev aT:=@List.append_toArray
abbrev wK:=@IntKind.wrap_i64
abbrev aN:=@List.append_nil
abbrev gR:=@List.getElem_append_right
abbrev gL:=@List.getElem_append_left
abbrev dZ:=@List.drop_zero
abbrev lD:=@List.length_drop
abbrev mO:=@List.mem_of_getElem?
abbrev mD:=@List.mem_of_mem_drop
abbrev fL:=@List.findIdx_le_length
abbrev mT:=@List.mem_of_mem_take
abbrev dL:=@List.drop_of_length_le
abbrev gN:=@List.getElem?_eq_none
def mS{α:Type}{a b:α}(h:a∈[b]):a=b:=List.mem_singleton.1 h
def gS{α:Type}{l:List α}{i:Nat}{a:α}(h:l[i]?=some a):∃h:i<l.length,l[i]=a:=List.getElem?_eq_some_iff.1 h
def mA{α:Type}{a:α}{s t:List α}(h:a∈s++t):a∈s∨a∈t:=List.mem_append.1 h
def pG{α:Type}{R:α→α→Prop}{l:List α}(h:l.Pairwise R):∀(i j:Nat)(hi:i<l.length)(hj:j<l.length),i<j→R l[i] l[j]:=List.pairwise_iff_getElem.1 h
def mF{α β:Type}{f:α→List β}{b:β}{l:List α}(h:b∈l.flatMap f):∃a,a∈l∧b∈f a:=List.mem_flatMap.1 h
def pC{α:Type}{R:α→α→Prop}{a:α}{l:List α}(h:(a::l).Pairwise R):(∀b∈l,R a b)∧l.Pairwise R:=List.pairwise_cons.1 h
def pA{α:Type}{R:α→α→Prop}{s t:List α}(h:(s++t).Pairwise R):s.Pairwise R∧t.Pairwise R∧∀a∈s,∀b∈t,R a b:=List.pairwise_append.1 h
def oW{p q:Prop}(h:p)(k:p→q:=by intro h;omega):q:=k h
def oX{p r q:Prop}(h:p)(g:r)(k:p→r→q:=by intro h g;omega):q:=k h g
def sU{p q:Prop}(h:p)(k:p→q:=by intro h;simpa using h):q:=k h
def sC{p:Prop}(h:p:=by simp +contextual):p:=h
def iO{p:Prop}(h:p:=by simp[intOf];omega):p:=h
def dO{p:Prop}(h:p:=by first | (dsimp only;omega) | (simp;omega)):p:=h
def cF{P:Program}{f:FuncId}{a:Array Value}{w:World}{Q:Ending→World→Prop}(h:Calls P f a w Q):Calls P f a w Q:=h
abbrev ϯ:=World→Prop
abbrev Ϯ:=TypeId
abbrev Ϫ:=DataW Unit
abbrev ϥ:=List (Nat×List UInt8)
abbrev ϣ:=List UInt8
abbrev Ϥ:=List Nat
abbrev Ϧ:=ByteArray
abbrev ϧ:=Array Value
abbrev Ϩ:=List Value
abbrev ϩ:=Option Int
abbrev Ϣ:=World
abbrev Ϭ:=Option Addr
abbrev ϴ(g:FuncId):Prop:=∀(a:Array Value)(W:World),Sem.run prog (callFunc g a) W=.ok (.enter g a) W
structure Kp(S:Ϥ)(w w':Ϣ):Prop where
 os:w'.os=w.os
 tape:w'.tape=w.tape
 output:w'.output=w.output
 size:w.heap.size<=w'.heap.size
 block:∀k,k<w.heap.size->k∉S->w'.heap[k]?=w.heap[k]?
def U{w:Ϣ}{k:Nat}{o:Obj}(h:w.heap[k]?=some o):k<w.heap.size:=(Array.getElem?_eq_some_iff.1 h).1
def Kp.refl(S)(w):Kp S w w:=⟨rfl,rfl,rfl,Nat.le_refl _,λ_ _ _=>rfl⟩
def Kp.trans{S S'}{a b c}(h:Kp S a b)(k:Kp S' b c)(f:∀i,i∈S'->i<a.heap.size->i∈S):Kp S a c:=
 ⟨k.os.trans h.os,k.tape.trans h.tape,k.output.trans h.output,lT h.size k.size,λi d e=>
  (k.block i (Nat.lt_of_lt_of_le d h.size) (λg=>e (f i g d))).trans (h.block i d e)⟩
def Kp.mono{S S'}{a b}(h:Kp S a b)(d:∀i,i∈S->i<a.heap.size->i∈S'):Kp S' a b:=
 ⟨h.os,h.tape,h.output,h.size,λi c e=>h.block i c (λhm=>e (d i hm c))⟩
def Kp.drew{S}{a b}(h:Kp S a b):Kp S a b.drew:=⟨h.os,h.tape,h.output,h.size,h.block⟩
def Kp.drewN{S}{a b}(h:Kp S a b)(n:Nat):Kp S a (b.drewN n):=⟨h.os,h.tape,h.output,h.size,h.block⟩
def Kp.alloc{S}{a b}(h:Kp S a b)(o):Kp S a (b.alloc o):=
 ⟨h.os,h.tape,h.output,by have:=h.size;simp;omega,λk c d=>(Below.heap_alloc _ _ _ (Nat.lt_of_lt_of_le c h.size)).trans (h.block k c d)⟩
def Kp.setCell{S}{a b}(h:Kp S a b){p}(c:p.block∈S\/a.heap.size<=p.block)(u):Kp S a (b.setCell p u):=
 ⟨h.os,h.tape,h.output,by have:=h.size;simp[World.setCell];omega,λk f d=>(Below.heap_setCell _ _ _ _ (by
  rcases c with c|c
  .intro e;subst e;exact d c
  .omega)).trans (h.block k f d)⟩
def Kp.grown{S}{a b c}{i:Option Nat}(h:Kp S a b)(d:b.grownBy c i)(j:∀k,i=some k->k∈S\/a.heap.size<=k):Kp S a c:=
 ⟨d.os.trans h.os,d.tape.trans h.tape,d.output.trans h.output,lT h.size d.size,λk f g=>
  (d.block k (Nat.lt_of_lt_of_le f h.size) (λe=>by rcases j k e.symm with h1 | h1;exact g h1;omega)).trans (h.block k f g)⟩
def Kp.qN2{B:Nat}{w w'}(h:Below B w w')(a:w.heap.size<=B):Kp [] w w':=
 ⟨h.os,h.tape,h.output,h.size,λk b _=>h.block k (by omega)⟩
def Kp.below{S}{B:Nat}{w w'}(h:Kp S w w')(b:B<=w.heap.size)(a:∀k,k∈S->B<=k):Below B w w':=
 ⟨h.os,h.tape,h.output,h.size,λk c=>h.block k (by omega) (λhm=>by have:=a k hm;omega)⟩
def Kp.heap{S}{w w'}(h:Kp S w w'){k:Nat}{o}(a:w.heap[k]?=some o)(b:k∉S):w'.heap[k]?=some o:=
 (h.block k (U a) b).trans a
def Kp.cell{S}{w w'}(h:Kp S w w'){a}(b:a.block<w.heap.size)(c:a.block∉S):w'.cell? a=w.cell? a:=
 World.cell?_of_block (w:=w) (h.block _ b c)
def Y{w:Ϣ}{b:Nat}{c:ϧ}{t:Ϯ}{a:Nat×Nat}(h:w.heap[b]?=some (ϲ c t a))(o:Nat):w.cell? (ϰ b o)=c[o]?:=by
 simp[World.cell?,h]
def ρ{w:Ϣ}{b:Nat}{c:ϧ}{t:Ϯ}(h:w.heap[b]?=some (ϲ c t))(o:Nat):w.frozen? (ϰ b o)=false:=by
 simp[World.frozen?,h]
def ξ{w:Ϣ}{b:Nat}{c:ϧ}{t:Ϯ}{a:Nat×Nat}(h:w.heap[b]?=some (ϲ c t a))(o:Nat)(v:Value):(w.setCell (ϰ b o) v).heap[b]?=some (ϲ (c.setIfInBounds o v) t a):=by
 simp[World.setCell,Array.getElem?_modify,h]
def AM{w:Ϣ}{b k:Nat}(a:k≠b)(o:Nat)(v:Value):(w.setCell (ϰ b o) v).heap[k]?=w.heap[k]?:=Below.heap_setCell _ _ _ _ a
def μ(w:Ϣ)(o:Obj):(w.alloc o).heap[w.heap.size]?=some o:=by
 show(w.heap.push o)[w.heap.size]?=_;simp
def ν{w:Ϣ}(o:Obj){k:Nat}{x:Obj}(h:w.heap[k]?=some x):(w.alloc o).heap[k]?=some x:=(Below.heap_alloc _ _ _ (U h)).trans h
def Kp.hp {S:List Nat} {w w':World} (h:Kp S w w') {k:Nat} {o:Obj} (hk:w.heap[k]?=some o) (hn:k∉S:=by simp):w'.heap[k]?=some o:=h.heap hk hn
def Kp.ho {S:List Nat} {w w':World} (h:Kp S w w') {k:Nat} {o:Obj} (hk:w.heap[k]?=some o) (hn:k∉S:=by simp;omega):w'.heap[k]?=some o:=h.heap hk hn
def Kp.tr {S S':List Nat} {a b c:World} (h:Kp S a b) (k:Kp S' b c) (hS:∀i,i∈S'→i<a.heap.size→i∈S:=by simp):Kp S a c:=h.trans k hS
def Kp.sc {S:List Nat} {a b:World} (h:Kp S a b) {p:Addr} (u:Value) (hp:p.block∈S∨a.heap.size≤p.block:=by simp):Kp S a (b.setCell p u):=h.setCell hp u
section
variable {P:Program} {md:Region.Mode} {ops:Array Oper} {Q:Exit→Act→World→Prop} {S:World→Prop} {oi oj:Oper} {fuel:Nat} {l:Array Bool} {a a':Act} {w:World}
def zW (i:Nat) (v:Value) (hS:S w) {b:Nat} {c:Array Value} {t:TypeId} {fr:Nat×Nat} (hc:∀{W},S W→W.heap[b]?=some (.cells c t fr)) (h:wpAnyH P md ops Q S fuel (l.setIfInBounds i true) a' w) (hi:ops[i]?=some oi:=by rfl) (hb:(Region.noSelect ops && (Region.free md ops l i && (Region.ready md ops l).contains i))=true:=by kernel_rfl) (hQ:∀c a w,Q (.panic c) (a.put oi.dst v) w→Q (.panic c) a w:=by exact fun _ _ _ h=>h) (hw:Region.wanted oi (yielded ops a.tmps)=true:=by rfl) (hy:∀W,(∀o,W.cell? ⟨b,o,none⟩=c[o]?)→(execOp a.eval oi).run P W=.ok (.value v) W:=by intro W h;go_simp) (ha:a.put oi.dst v=a':=by simp only [zZ];try exact rfl):wpAnyH P md ops Q S (fuel+1) l a w:=zV i v hi (fun W h=>hy W (Y (hc h))) hS h hb hQ hw ha
end
def ϻ{w:World}{k:Nat}{c:Array Value}{t:TypeId}{fr:Nat×Nat}(h:w.heap[k]?=some (.cells c t fr))(i:Nat){v:Value}(hv:c[i]?=some v:=by rfl):w.cell? ⟨k,i,none⟩=some v:=(Y h i).trans hv
def alA(w:World)(o:Obj):∃v,v=w.alloc o∧v.heap[w.heap.size]?=some o∧Kp [] w v:=⟨_,rfl,μ _ _,(Kp.refl _ _).alloc _⟩
def alB(w:World)(o:Obj):∃v,v=w.alloc o∧v.heap[w.heap.size]?=some o∧Kp [] w v∧v.heap.size=w.heap.size+1:=⟨_,rfl,μ _ _,(Kp.refl _ _).alloc _,by simp⟩
def alC(w:World)(a b:Obj):∃v,v=(w.alloc a).alloc b∧v.heap[w.heap.size]?=some a∧v.heap[w.heap.size+1]?=some b∧Kp [] w v∧v.heap.size=w.heap.size+2:=⟨_,rfl,ν _ (μ _ _),by simpa using μ (w.alloc a) b,((Kp.refl _ _).alloc _).alloc _,by simp⟩
def alD(w:World)(a b c:Obj):∃v,v=((w.alloc a).alloc b).alloc c∧v.heap[w.heap.size]?=some a∧v.heap[w.heap.size+1]?=some b∧v.heap[w.heap.size+1+1]?=some c∧Kp [] w v∧v.heap.size=w.heap.size+3:=⟨_,rfl,ν _ (ν _ (μ _ _)),ν _ (by simpa using μ (w.alloc a) b),by simpa using μ ((w.alloc a).alloc b) c,(((Kp.refl _ _).alloc _).alloc _).alloc _,by simp⟩
def alE(w:World)(a b c:Obj):∃v,v=((w.alloc a).alloc b).alloc c∧v.heap[w.heap.size]?=some a∧v.heap[w.heap.size+1]?=some b∧v.heap[w.heap.size+2]?=some c∧Kp [] w v∧v.heap.size=w.heap.size+3:=alD w a b c
def alH(w:World)(a b:Obj):∃v,v=(w.alloc a).alloc b∧v.heap[w.heap.size]?=some a∧v.heap[w.heap.size+1]?=some b∧Kp [] w v:=⟨_,rfl,ν _ (μ _ _),by simpa using μ (w.alloc a) b,((Kp.refl _ _).alloc _).alloc _⟩
def alG(w:World)(a b c d:Obj):∃v,v=(((w.alloc a).alloc b).alloc c).alloc d∧v.heap[w.heap.size]?=some a∧v.heap[w.heap.size+1]?=some b∧v.heap[w.heap.size+1+1]?=some c∧v.heap[w.heap.size+1+1+1]?=some d∧Kp [] w v∧v.heap.size=w.heap.size+4:=⟨_,rfl,ν _ (ν _ (ν _ (μ _ _))),ν _ (ν _ (by simpa using μ (w.alloc a) b)),ν _ (by simpa using μ ((w.alloc a).alloc b) c),by simpa using μ (((w.alloc a).alloc b).alloc c) d,((((Kp.refl _ _).alloc _).alloc _).alloc _).alloc _,by simp⟩
def alF(w:World)(o:Obj):∃v,v=(w.alloc o).drew∧v.heap[w.heap.size]?=some o∧Kp [] w v:=⟨_,rfl,μ _ _,((Kp.refl _ _).alloc _).drew⟩
section
variable {P:Program}{md:Region.Mode}{ops:Array Oper}{Q:Exit→Act→World→Prop}{S:World→Prop}{fuel:Nat}{l:Array Bool}{a a':Act}{w:World}
def zk {K:Act→World→Prop}(hK:Shut (∀a w,S w→(S w→wpAnyH P md ops Q S fuel l a w)→K a w))(hS:S w)(h:wpAnyH P md ops Q S fuel l a' w)(ha:a=a':=by first | (simp only [zZ];try exact rfl) | exact rfl):K a w:=by
 subst ha;exact hK.out a w hS fun _=>h
end
def mR{P:Program}{f:FuncId}{a:Array Value}{w:World}{v:Value}{Q:World→Prop}{K:Ending→World→Prop}(h:Calls P f a w fun e w'=>e=.returned v∧Q w')(k:∀w',Q w'→K (.returned v) w'):Calls P f a w K:=h.mono (by rintro e w' ⟨rfl,h⟩;exact k w' h)
def n2{a b:Prop}(x:a)(y:b):a∧b:=⟨x,y⟩
def n3{a b c:Prop}(x:a)(y:b)(z:c):a∧b∧c:=⟨x,y,z⟩
def n4{a b c d:Prop}(x:a)(y:b)(z:c)(u:d):a∧b∧c∧d:=⟨x,y,z,u⟩
def n5{a b c d e:Prop}(x:a)(y:b)(z:c)(u:d)(v:e):a∧b∧c∧d∧e:=⟨x,y,z,u,v⟩
def n6{a b c d e f:Prop}(x:a)(y:b)(z:c)(u:d)(v:e)(w:f):a∧b∧c∧d∧e∧f:=⟨x,y,z,u,v,w⟩
def gE{x:World}{k:Nat}{o:Obj}{S:List Nat}{W:World}(h:x.heap[k]?=some o∧Kp S W x):∃v,v=x∧v.heap[k]?=some o∧Kp S W v:=⟨x,rfl,h⟩
def eX.{u}{α:Sort u}(x:α):∃v,v=x:=⟨x,rfl⟩
def eY.{u}{α:Sort u}(x:α):∃v,x=v:=⟨x,rfl⟩
def oM{p:Prop}(h:p:=by omega):p:=h
def dC{p:Prop}(h:p:=by decide):p:=h
def sM{p:Prop}(h:p:=by simp):p:=h
def sO{p:Prop}(h:p:=by simp;omega):p:=h
def kR{p:Prop}(h:p:=by kernel_rfl):p:=h
def kF{S:List Nat}{w:World}:Kp S w w:=Kp.refl _ _
def lR{n:Nat}:n≤n:=Nat.le_refl _
def ET(s x:Int):Int:=IntKind.u64.wrap (bits BinOp.xor .u64 s (IntKind.u64.wrap x)*1099511628211)
def fnv(xs:List Int):Int:=xs.foldl ET 14695981039346656037
def VS(xs:List Int)(k:Nat)(h:k<xs.length):fnv (xs.take (k+1))=ET (fnv (xs.take k)) xs[k]:=by
 unfold fnv;rw[tA h,List.foldl_append];rfl
def BV{k:IntKind}{a b:Int}(h:a=b):Ending.returned (.int k a)=ϱ (.int k b):=by rw[h]
def Ir(b c a cap:Nat)(xs:List Int)(w)(m:xs.length=a)(h:a<=1000000)
  (d:∀j,j<a->w.cell? (ϰ b (c+j))=some (.int .u8 (xs.getD j 0))):
  Ω 251 #[.slice (some (ϰ b c)) a cap] w λe w'=>e=ϱ (.int .u64 (fnv xs))/\w'=w:=by
 go_enter func251,ntmps251;go_wp2
 go_loop [3,8] (λs i=>∃(k:Nat),k<=a/\i=.int .i64 k/\s=.int .u64 (fnv (xs.take k))) (λ_ i=>a-(intOf i).toNat)
 case atStart=>exact⟨0,zL _,rfl,rfl⟩
 case round=>
  obtain⟨k,l,rfl,rfl⟩:=hrel;by_cases f:k<a
  .have:=d k f;have g:=VS xs k oM;go_wp2;refine⟨⟨k+1,oM,by go_num,by rw[g];rfl⟩,iO⟩
  .go_wp2;go_ret;exact⟨BV (by rw[tL oM]),rfl⟩
def BF(xs:List Int):Int:=xs.foldr (fun x n=>bits BinOp.or .u64 (IntKind.u64.wrap (n*256)) (IntKind.u64.wrap x)) 0
def Gm(b d a cap:Nat)(xs:List Int)(w)(p:xs.length=a)(l:a<=1000000)
  (g:∀j,j<a->w.cell? (ϰ b (d+j))=some (.int .u8 (xs.getD j 0))):
  Ω 248 #[.slice (some (ϰ b d)) a cap] w λe w'=>e=ϱ (.int .u64 (BF xs))/\w'=w:=by
 go_enter func248,ntmps248;go_wp2
 go_loop [3,4] (λn i=>∃(k:Nat),k<=a/\i=.int .i64 ((k:Int)-1)/\n=.int .u64 (BF (xs.drop k))) (λ_ i=>(intOf i+1).toNat)
 case atStart=>exact⟨a,lR,by go_num,by rw[dL oM];rfl⟩
 case round=>
  obtain⟨k,m,rfl,rfl⟩:=hrel;by_cases o:0<k
  .obtain⟨j,rfl⟩:∃j,k=j+1:=⟨k-1,oM⟩;have:=g j oM;have f:Hid (BF (xs.drop j)=bits BinOp.or .u64 (IntKind.u64.wrap (BF (xs.drop (j+1))*256)) (IntKind.u64.wrap (xs[j]?.getD 0))):=by
    have c:j<xs.length:=oM
    show _=_;rw[dG c,gQ c];rfl
   go_wp2;refine⟨⟨j,oM,rfl,by rw[f.out]⟩,by simp[intOf]⟩
  .have h:k=0:=oM
   subst h;have:decide ((0:Int)<=((0:Nat):Int)-1)=false:=dC
   go_wp2;go_ret;exact⟨BV sM,rfl⟩
def Ak:Nat→Int→List Int
 | 0,_=>[]
 | k+1,n=>n % 256::Ak k (n / 256)
def BJ(k:Nat)(n:Int):(Ak k n).length=k:=by induction k generalizing n<;>simp_all [Ak]
def u8s(xs:List Int):List Value:=xs.map (.int .u8)
def Ka(k:Nat)(n:Int):Ak (k+1) n=Ak k n++[n / (256:Int) ^ k % 256]:=by
 induction k generalizing n with
 | zero=>simp[Ak]
 | succ k ih=>
  rw[Ak,ih (n / 256),Ak];simp[cA];rw[Int.ediv_ediv_of_nonneg dC,Int.pow_succ,Int.mul_comm]
def qN3{w:Ϣ}{base:Nat}{e:Ϯ}{sz:Nat}{v:Value}{n:Nat}{xs:Ϩ}(h:w.ownsRow base e sz v n xs):∀k,v.ownBlock=some k->base<=k:=by
 let⟨_,b⟩:=h;rcases b with⟨rfl,_⟩|⟨g,cap,cur,rfl,c,_⟩
 .intro k a;cases a
 .intro k a;cases a;exact c
def Tryz.qQ2:(prog.info? 5).map (λi=>(i.zero,i.size,i.bytes))=some (some (.int .u8 0),1,1):=kR
def IW(v)(base k:Nat)(xs:List Int)(n:Int)(m:Nat)(w)(H:k<=1000)(E:m<=100)(p:0<=n)
  (B:base<=w.heap.size) (r:w.ownsRow base 5 1 v k (u8s xs)):
  Ω 250 #[v,.int .u64 n,ϊ m] w λe w'=>∃b,e=ϱ b/\w'.ownsRow base 5 1 b (k+m) (u8s (xs++Ak m n))/\Below base w w':=by
 let⟨z,o,u,x,y⟩:=info_parts Tryz.qQ2;go_enter func250,ntmps250;go_wp2
 go_loopw [0,1,8] (λs q i wr=>∃(j:Nat)(b:Value)(a:Int),j<=m/\i=.int .i64 j/\q=.int .u64 a/\a=n / (256:Int) ^ j/\0<=a/\a<=n/\s=b/\wr.ownsRow base 5 1 b (k+j) (u8s (xs++Ak j n))/\Below base w wr) (λ_ _ i _=>m-(intOf i).toNat)
 case atStart=>exact⟨0,v,n,Nat.zero_le _,rfl,rfl,sM,p,Int.le_refl _,rfl,by simpa [Ak] using r,Below.refl _ _⟩
 case round=>
  obtain⟨j,b,a,C,rfl,rfl,g,F,G,rfl,d,c⟩:=hrel;have f:=zh g;clear g;by_cases D:j<m
  .go_wp2_with (at_builtin;refine wpList_append_own _ rfl _ _ 118 rfl base 5 z (.int .u8 0) 1 1 underlying118 o u x y rfl dC _ _ _ rfl (d.alloc _) (ϰ wr.heap.size 0) 1 1 [.int .u8 (a % 256)] rfl rfl (cell_one_new _ _ _) (by simp[Value.oneCell']) (by unfold maxLen;omega) oM (by have:=c.size;simp;omega) ?_;intro A I t l _)
   refine⟨⟨j+1,A,a / 256,oM,by go_num,rfl,?_,oM,oM,rfl,?_,?_⟩,iO⟩
   .rw[f.out,Int.ediv_ediv_of_nonneg (by exact Int.pow_nonneg dC),Int.pow_succ]
   .have h:u8s (xs++Ak (j+1) n)=u8s (xs++Ak j n)++[.int .u8 (a % 256)]:=by rw[Ka,<-f.out];simp[u8s]
    rw[h];exact t
   .exact (c.alloc (oW c.size) _).grown l (by have:=c.size;simp;omega) (qN3 d)
  .go_wp2;go_ret;have e:j=m:=oM
   subst e;exact⟨_,rfl,d,c⟩
def Ad(cs:Array Value)(o n:Nat):Array Value:=((cs.toList.drop o).take n).toArray
def Bz(cs:Array Value)(o:Nat)(p:Array Value):Array Value:=(cs.toList.take o++p.toList++cs.toList.drop (o+p.size)).toArray
def Ed{cs}{o n:Nat}(h:o+n<=cs.size):(Ad cs o n).size=n:=by simp[Ad];omega
def EH{cs}{o n j:Nat}(h:j<n):(Ad cs o n)[j]?=cs[o+j]?:=by
 simp[Ad,List.getElem?_take,h]
def Kp.setRow{S}{a b}(h:Kp S a b){g:Nat}(c:g∈S\/a.heap.size<=g)(cs):Kp S a (b.setRow g cs):=
 ⟨h.os,h.tape,h.output,by have:=h.size;simp[World.setRow];omega,λk f d=>(setRow_other _ _ _ _ (by
  rcases c with c|c
  .intro e;subst e;exact d c
  .omega)).trans (h.block k f d)⟩
def CN{w:Ϣ}{base:Nat}{e:Ϯ}{sz:Nat}{v:Value}{n:Nat}{xs:Ϩ}(h:w.ownsRow base e sz v (n+1) xs):∃g cap,v=.slice (some (ϰ g 0)) (n+1) cap:=by
 let⟨_,c⟩:=h;rcases c with⟨_,b⟩|⟨g,cap,cur,rfl,_⟩
 .cases b
 .exact⟨g,cap,rfl⟩
section
variable {P:Program} {w:Ϣ} {ops:Array Oper} {rest:List Oper} {a:Act} {Q:Exit→Act→ϯ} {dst:Option Tmp} {ty:Ϯ} {pos:String} {aft:Array Edge}
def Br(b o j:Nat):((ϰ b o):Addr).add j=(ϰ b (o+j)):=by unfold Addr.add;split<;>simp_all
def Fp{t t' e}(ty)(y:P.underlying t=some (.slice e))(x:(P.info? e).map (·.size)=some 1)
  {g o dLen dCap b c sLen sCap:Nat} (n:Nat) (s:n=Nat.min sLen dLen)
  {cur d} {tg tb} {fr} (p:w.heap[g]?=some (ϲ cur tg)) (m:w.heap[b]?=some (ϲ d tb fr)) (z:o+n<=cur.size) (q:c+n<=d.size)
  (l:∀v∈(Ad d c n).toList,v.oneCell'=true):
  Sem.run P (Builtin.copy_ #[t,t'] ty #[.slice (some (ϰ g o)) dLen dCap,.slice (some (ϰ b c)) sLen sCap]) w=.ok (ϊ n) (w.setRow g (Bz cur o (Ad d c n))):=by
 have f:=Ed (cs:=d) q;have u:=run_copy_row P w t t' ty e g o dLen dCap (ϰ b c) sLen sCap cur tg (Ad d c n).toList y x p (by rw[Array.length_toList,f,s]) (λj v h=>by
  rw[Br,Y m];have r:j<n:=by
   have:=(gS h).1;simp[f]at this;exact this
  rw[<-EH r];simpa using h) (by simp[f];omega) l
 have i:goInt ((Ad d c n).toList.length:Int)=.int .i64 n:=by simp[goInt,f]
 have k:(cur.toList.take o++(Ad d c n).toList++cur.toList.drop (o+(Ad d c n).toList.length)).toArray=Bz cur o (Ad d c n):=by simp[Bz]
 rw[u,i,k]
def DB{g o:Nat}{t}{vs:Ϩ}{cur}(d:w.heap[g]?=some (ϲ cur t))(c:o+vs.length<=cur.size)(b:∀v∈vs,v.oneCell'=true):
  Sem.run P (storeCells (ϰ g o) vs) w=.ok () (w.setRow g (Bz cur o vs.toArray)):=by
 have e:=run_storeCells_at P g o t vs 0 cur w d (sU c) b;rw[e];simp[Bz]
def Gt{b o n:Nat}{src}{tb}{fr}(e:w.heap[b]?=some (ϲ src tb fr))(f:o+n<=src.size):
  Sem.run P (loadCells (ϰ b o) n) w=.ok (Ad src o n) w:=by
 have d:=Ed (cs:=src) f;have g:=run_loadCells_list (P:=P) w (ϰ b o) (Ad src o n).toList (λj v c=>by
  rw[Br,Y e];have h:j<n:=by
   have:=(gS c).1;simp[d]at this;exact this
  rw[<-EH h];simpa using c)
 simpa [d] using g
def AU{o:Oper}{v}{w'}{K:Act->ϯ}{E:Prop}(b:o.guard=none)(c:Sem.run P (execOp a.eval o) w=.ok (.value v) w')(hK:K (a.put o.dst v) w'):
  if Region.wanted o (yielded ops a.tmps)=true then Oper.wp P o a w K Q else E:=by
 have d:Region.wanted o (yielded ops a.tmps)=true:=by simp[Region.wanted,b]
 rw[if_pos d];unfold Oper.wp;rw[c];exact hK
def qF6{o:Oper}{w'}{K:Act->ϯ}{E:Prop}(b:o.guard=none)(c:Sem.run P (execOp a.eval o) w=.ok .skip w')(hK:K (a.put o.dst undef) w'):
  if Region.wanted o (yielded ops a.tmps)=true then Oper.wp P o a w K Q else E:=by
 have d:Region.wanted o (yielded ops a.tmps)=true:=by simp[Region.wanted,b]
 rw[if_pos d];unfold Oper.wp;rw[c];exact hK
def Nc{o:Oper}{x:Operand}{t}(j:o.op=.load t x)(BE:(match P.underlying t with | some (.struct _)=>true | some (.array _ _)=>true | _=>false)=true)(n:Nat)(l:(P.info? t).map (·.size)=some n)
  (b c:Nat) (m:a.eval x=.pointer (some (ϰ b c))) {src} {tb} {fr} (e:w.heap[b]?=some (ϲ src tb fr)) (g:c+n<=src.size):
  Sem.run P (execOp a.eval o) w=.ok (.value (.agg (Ad src c n))) w:=by
 let⟨i,f,h⟩:=Option.map_eq_some_iff.1 l;have k:Sem.run P (Instr.loadAt t (ϗ (some (ϰ b c)))) w=.ok (.agg (Ad src c n)) w:=by
  cases hd:P.underlying t with
  | none=>simp[hd]at BE
  | some d=>cases d<;>simp[hd]at BE<;>simp[Instr.loadAt,Instr.sureAddr,loadVar,isAgg,run_underlying hd,Go.sizeOf,typeInfo,f,h,Gt (P:=P) e g]
 unfold execOp;simp[j,Sem.run_bind,Sem.run_pure,Result.andThen_ok,m,k]
def DX{o:Oper}{x:Operand}{t e}(j:o.op=.buildSlice t 1 #[(0,x)])(v z)(c d:Nat)(m:P.underlying t=some (.slice e))(g:(P.info? e).map (λi=>(i.zero,i.size,i.bytes))=some (some z,c,d))
  (p:a.eval x=v) (n:v.cells.size=c) (r:0<c) (u:c<=16777216):
  Sem.run P (execOp a.eval o) w=.ok (.value (.slice (some (ϰ w.heap.size 0)) 1 1)) (w.alloc (ϲ v.cells e)):=by
 let⟨i,h,b⟩:=Option.map_eq_some_iff.1 g;simp[Prod.mk.injEq]at b;let⟨b,l,q⟩:=b;have f:=Great.fill_whole (s:=i.size) oM [v] ((Array.range (1*i.size)).map (z.cells[·% z.cells.size]!)) (by simp[n,l]) sM;have k:=run_buildSlice (P:=P) w t e 1 #[(0,v)] v.cells i z m h b oM oM (sU f);unfold execOp;simp[j,Sem.run_bind,Sem.run_pure,Result.andThen_ok,List.map_toArray,List.map_cons,List.map_nil,p,k]
def Vk{o:Oper}{s x:Operand}{t e}(G:o.op=.call { callee:=.builtin .append,args:=#[s,x],argTypes:=#[t,t] })(z)(d l:Nat)(N:P.underlying t=some (.slice e))(C:(P.info? e).map (λi=>(i.zero,i.size,i.bytes))=some (some z,d,l))
  (R:z.cells.size=d) (L:0<d) (base:Nat) (v) (n:Nat) (xs:Ϩ) (K:a.eval s=v) (H:w.ownsRow base e d v n xs)
  (b f m c:Nat) (g) (tb) (fr) (O:a.eval x=.slice (some (ϰ b f)) m c) (r:w.heap[b]?=some (ϲ g tb fr)) (E:f+m*d<=g.size)
  (q:∀u∈(Ad g f (m*d)).toList,u.oneCell'=true) (W:n+m<=1000000000) (B:(n+m)*l<=140737488355328) (y:base<=w.heap.size):
  ∃h w',Sem.run P (execOp a.eval o) w=.ok (.value h) w'/\w'.ownsRow base e d h (n+m) (xs++(Ad g f (m*d)).toList)/\w.grownBy w' v.ownBlock/\(h=.slice none 0 0↔v=.slice none 0 0/\m=0):=by
 let⟨i,D,k⟩:=Option.map_eq_some_iff.1 C;simp[Prod.mk.injEq]at k;let⟨k,M,A⟩:=k;have p:=Ed (cs:=g) E;let⟨h,w',I,S,T,V⟩:=run_append_own (P:=P) w base t o.type e i z d l N D k M A R L v n xs H (ϰ b f) m c (Ad g f (m*d)).toList (sU p) (λj u hj=>by
  rw[Br,Y r];have F:j<m*d:=by
   have:=(gS hj).1;simp[p]at this;exact this
  rw[<-EH F];simpa using hj) q (by unfold maxLen;omega) B y
 refine⟨h,w',?_,S,T,V⟩;unfold execOp;simp[G,resolve,invoke,builtin,Sem.run_bind,Sem.run_pure,Result.andThen_ok,List.map_toArray,List.map_cons,List.map_nil,K,O,I]
def Es{o:Oper}{x:Operand}{t}(f:o.op=.load t x)(BE:(match P.underlying t with | some (.struct _)=>true | some (.array _ _)=>true | _=>false)=true)(n:Nat)(g:(P.info? t).map (·.size)=some n)
  (b:Nat) (i:a.eval x=ϖ b) {src} {tb} {fr} (c:w.heap[b]?=some (ϲ src tb fr)) (d:src.size=n):
  Sem.run P (execOp a.eval o) w=.ok (.value (.agg src)) w:=by
 have h:=Nc (P:=P) f BE n g b 0 i c oM;have e:Ad src 0 n=src:=by rw[<-d];simp[Ad,tL]
 rw[e]at h;exact h
def Ip{o:Oper}{K:Act->World->Prop}{E:Prop}(y:o.guard=none){s x:Operand}{t e}(C:o.op=.call { callee:=.builtin .append,args:=#[s,x],argTypes:=#[t,t] })(z)(d j:Nat)(I:P.underlying t=some (.slice e))(A:(P.info? e).map (λi=>(i.zero,i.size,i.bytes))=some (some z,d,j))
  (M:z.cells.size=d) (H:0<d) (base:Nat) (v) (n:Nat) (xs:List Value) (G:a.eval s=v) (D:w.ownsRow base e d v n xs)
  (b f m c:Nat) (g) (tb) (fr) (L:a.eval x=.slice (some ⟨b,f,none⟩) m c) (p:w.heap[b]?=some (.cells g tb fr)) (B:f+m*d<=g.size)
  (k:∀u∈(Ad g f (m*d)).toList,u.oneCell'=true) (l:n+m<=1000000000) (r:(n+m)*j<=140737488355328) (q:base<=w.heap.size)
  (hK:∀h w',w'.ownsRow base e d h (n+m) (xs++(Ad g f (m*d)).toList)->w.grownBy w' v.ownBlock->(h=.slice none 0 0↔v=.slice none 0 0/\m=0)->K (a.put o.dst h) w'):
  if Region.wanted o (yielded ops a.tmps)=true then Oper.wp P o a w K Q else E:=by
 let⟨h,w',F,N,O,R⟩:=Vk (P:=P) C z d j I A M H base v n xs G D b f m c g tb fr L p B k l r q;exact AU y F (hK h w' N O R)
def Cw{o:Oper}{x:Operand}{t}(f:o.op=.load t x)(BE:(match P.underlying t with | some (.struct _)=>true | some (.array _ _)=>true | _=>false)=true)(n:Nat)(h:(P.info? t).map (·.size)=some n)
  (b c:Nat) (i:a.eval x=.pointer (some (ϰ b c))) {src r} {tb} {fr} (d:w.heap[b]?=some (ϲ src tb fr)) (e:c+n<=src.size) (g:Ad src c n=r):
  Sem.run P (execOp a.eval o) w=.ok (.value (.agg r)) w:=g ▸ Nc f BE n h b c i d e
def Vm{o:Oper}{x y:Operand}{t}(j:o.op=.store t x y)(vs)(m:(P.info? t).map (·.size)=some vs.size)
  (b c:Nat) (n:a.eval x=ϗ (some (ϰ b c))) (p:a.eval y=.agg vs) {cur} {tb} (e:w.heap[b]?=some (ϲ cur tb)) (g:c+vs.size<=cur.size)
  (d:∀v∈vs.toList,v.oneCell'=true):Sem.run P (execOp a.eval o) w=.ok .skip (w.setRow b (Bz cur c vs)):=by
 let⟨i,f,h⟩:=Option.map_eq_some_iff.1 m;have k:=DB (P:=P) (w:=w) (o:=c) (vs:=vs.toList) e (sU g) d;have l:Sem.run P (Instr.storeAt t (ϗ (some (ϰ b c))) (.agg vs)) w=.ok () (w.setRow b (Bz cur c vs)):=by
  simp[Instr.storeAt,Instr.sureAddr,storeVar,Go.sizeOf,typeInfo,f,h,Value.cells,k]
 unfold execOp;simp[j,Sem.run_bind,Sem.run_pure,Result.andThen_ok,n,p,l]
def Pw(cs):Ad cs 0 cs.size=cs:=by simp[Ad,tL]
def EO{x:Operand}{t}(BE:(match P.underlying t with | some (.struct _)=>true | some (.array _ _)=>true | _=>false)=true)(n:Nat)(s:(P.info? t).map (·.size)=some n)
  (b o:Nat) (u:a.eval x=.pointer (some (ϰ b o))) (src) (tb) (fr) (f:w.heap[b]?=some (ϲ src tb fr)) (k:o+n<=src.size)
  (h:wpList P ops Q rest (a.put dst (.agg (Ad src o n))) w):
  wpList P ops Q (⟨dst,.load t x,ty,pos,aft,none⟩::rest) a w:=by
 refine wpList_plain rfl λK hK=>?_;have e:=Ed (cs:=src) k;have m:=run_loadCells_list (P:=P) w (ϰ b o) (Ad src o n).toList (λj v c=>by
  rw[Br,Y f];have q:j<n:=by
   have:=(gS c).1;simp[e]at this;exact this
  rw[<-EH q];simpa using c)
 let⟨i,g,l⟩:=Option.map_eq_some_iff.1 s;have p:Sem.run P (loadCells (ϰ b o) n) w=.ok (Ad src o n) w:=by simpa [e] using m
 have r:Sem.run P (Instr.loadAt t (ϗ (some (ϰ b o)))) w=.ok (.agg (Ad src o n)) w:=by
  cases hd:P.underlying t with
  | none=>simp[hd]at BE
  | some d=>cases d<;>simp[hd]at BE<;>simp[Instr.loadAt,Instr.sureAddr,loadVar,isAgg,run_underlying hd,Go.sizeOf,typeInfo,g,l,p]
 unfold Oper.wp execOp;simp[Sem.run_bind,Sem.run_pure,Result.andThen_ok,u,r];exact hK _ _ h
def qK8{t e}{l c:Operand}(z)(j d:Nat)(u:P.underlying t=some (.slice e))(p:(P.info? e).map (λi=>(i.zero,i.size,i.bytes))=some (some z,j,d))
  (kl g:IntKind) (n:Nat) (r:a.eval l=.int kl n) (o:a.eval c=.int g n) (v:d*n<=281474976710656) (x:n<=1000000000)
  (h:wpList P ops Q rest (a.put dst (.slice (some (ϰ w.heap.size 0)) n n)) (w.alloc (ϲ (madeCells z.cells (n*j)) e))):
  wpList P ops Q (⟨dst,.makeSlice t l c,ty,pos,aft,none⟩::rest) a w:=by
 refine wpList_plain rfl λK hK=>?_;let⟨i,q,b⟩:=Option.map_eq_some_iff.1 p;simp[Prod.mk.injEq]at b;let⟨b,s,m⟩:=b;have k:(i.bytes:Int)*(n:Int)<=281474976710656:=by
  rw[m];have h:((d*n:Nat):Int)<=281474976710656:=oM
  rwa [Int.natCast_mul]at h
 have f:=run_make (P:=P) w t e i z u q b kl g n n oM (iR _) k oM;simp[Int.toNat_natCast,s]at f;unfold Oper.wp execOp;simp[Sem.run_bind,Sem.run_pure,Result.andThen_ok,r,o,f];exact hK _ _ h
def ON{z}{n:Nat}{z0}(e:∀v∈z.toList,v=z0)(f:n=0\/0<z.size):∀v∈(madeCells z n).toList,v=z0:=by
 intro v b;simp[madeCells,Array.toList_map,List.mem_map,Array.toList_range,List.mem_range]at b;obtain⟨x,g,rfl⟩:=b;have d:0<z.size:=oM
 have c:x % z.size<z.size:=Nat.mod_lt _ d;rw[getElem!_pos z _ c];exact e _ sM
def PO{t e}(z z0)(g c:Nat)(p:P.underlying t=some (.slice e))(l:(P.info? e).map (λi=>(i.zero,i.size,i.bytes))=some (some z,g,c))
  (q:∀v∈z.cells.toList,v=z0) (r:0<z.cells.size) (kl f:IntKind) (n:Nat) (s:c*n<=281474976710656) (u:n<=1000000000) (w):
  ∃Z:ϧ,Z.size=n*g/\(∀v∈Z.toList,v=z0)/\Sem.run P (Instr.makeSlice t (.int kl n) (.int f n)) w=.ok (.slice (some (ϰ w.heap.size 0)) n n) (w.alloc (ϲ Z e)):=by
 let⟨i,m,b⟩:=Option.map_eq_some_iff.1 l;simp[Prod.mk.injEq]at b;let⟨b,o,k⟩:=b;have j:(i.bytes:Int)*(n:Int)<=281474976710656:=by
  rw[k];have h:((c*n:Nat):Int)<=281474976710656:=oM
  rwa [Int.natCast_mul]at h
 have d:=run_make (P:=P) w t e i z p m b kl f n n oM (iR _) j oM;simp[Int.toNat_natCast,o]at d;exact⟨_,by simp[madeCells],ON q (Or.inr r),d⟩
def QD{t e}{l c:Operand}(z z0)(d b:Nat)(p:P.underlying t=some (.slice e))(k:(P.info? e).map (λi=>(i.zero,i.size,i.bytes))=some (some z,d,b))
  (q:∀v∈z.cells.toList,v=z0) (r:0<z.cells.size)
  (kl f:IntKind) (n:Nat) (m:a.eval l=.int kl n) (j:a.eval c=.int f n) (g:b*n<=281474976710656) (o:n<=1000000000)
  (h:∀Z:ϧ,Z.size=n*d->(∀v∈Z.toList,v=z0)->wpList P ops Q rest (a.put dst (.slice (some (ϰ w.heap.size 0)) n n)) (w.alloc (ϲ Z e))):
  wpList P ops Q (⟨dst,.makeSlice t l c,ty,pos,aft,none⟩::rest) a w:=
 qK8 z d b p k kl f n m j g o (h _ (by simp[madeCells]) (ON q (Or.inr r)))
end
variable {κ:Nat}
def Er(κ n C:Nat)(cache:Value)(calls writes:Int):Obj:=
 .cells #[.slice (some ⟨C,0,none⟩) n κ,cache,.int .i64 calls,.int .i64 writes,.int .i64 0,.int .i64 (-1),.int .i64 0,.int .i64 0] 114
abbrev DW(n C:Nat)(cache:Value)(calls writes:Int):Obj:=Er n n C cache calls writes
def allBytes(cs:ϧ):Prop:=∀v∈cs.toList,∃x,v=.int .u8 x
def allBytes.one{cs}(h:allBytes cs):∀v∈cs.toList,v.oneCell'=true:=λv hv=>by obtain⟨x,rfl⟩:=h v hv;rfl
def GL{cs}(h:allBytes cs)(o n:Nat):allBytes (Ad cs o n):=λv a=>h v (mD (mT (by simpa [Ad] using a)))
def CY{cs p}(h:cs.size=p.size):Bz cs 0 p=p:=by
 have e:cs.toList.drop p.size=[]:=dL (by simp[h]);simp[Bz,e]
def Tryz.qQ7:(prog.info? 5).map (·.size)=some 1:=kR
variable {κ:Nat}
def EX:(prog.info? 117).map (λi=>(i.zero,i.size,i.bytes))=some (some (.agg zeroCells117),129,136):=kR
def Dj:zeroCells117.size=129:=kR
def qM1:∀v∈zeroCells117.toList,v.oneCell'=true:=by
 have h:zeroCells117.toList.all (·.oneCell')=true:=kR
 exact List.all_eq_true.1 h
def JG:(prog.info? 115).map (λi=>(i.zero,i.size,i.bytes))=some (some (.agg zeroCells115),128,128):=kR
def Lo:∀v∈zeroCells115.toList,v=.int .u8 0:=by
 have h:zeroCells115.toList=List.replicate 128 (.int .u8 0):=kR
 intro v hv;rw[h]at hv;exact List.eq_of_mem_replicate hv
def IF:zeroCells115.size=128:=kR
def OW(m:Nat)(w)(g:m<1000)(k:Int)(f:0<=k)(d:k % 1000=m):
  Ω 41 #[ϊ k] w λe w'=>e=ϱ (ϖ (w.heap.size+1))/\∃Z:ϧ,Z.size=m*128/\(∀v∈Z.toList,v=.int .u8 0)/\
   w'=(w.alloc (ϲ Z 115)).alloc (DW m w.heap.size (.slice none 0 0) 0 0):=by
 go_enter func41,ntmps41;have:¬k<0:=oM
 go_wp2;let⟨Z,a,b,c⟩:=PO (P:=prog) (.agg zeroCells115) (.int .u8 0) 128 128 underlying111 JG Lo (by simp[Value.cells,IF]) .i64 .i64 m oM oM w;rw[c];go_wp2;go_ret;exact⟨rfl,Z,a,b,rfl⟩
def Ay(l:List UInt8):List Value:=l.map (fun b=>.int .u8 (b.toNat:Int))
def enc(l:List UInt8):Array Value:=(Ay l).toArray
def FI(l):(Ay l).length=l.length:=by simp[Ay]
def Bw(l):(enc l).size=l.length:=by simp[enc,Ay]
def Co(l):allBytes (enc l):=by
 intro v a;simp[enc,Ay]at a;obtain⟨b,_,rfl⟩:=a;exact⟨_,rfl⟩
def UW(a b):Ay (a++b)=Ay a++Ay b:=by simp[Ay]
def Dd(l)(o n:Nat):Ad (enc l) o n=enc ((l.drop o).take n):=by simp[Ad,enc,Ay,List.map_take,List.map_drop]
def JN(l p)(o:Nat):Bz (enc l) o (enc p)=enc (l.take o++p++l.drop (o+p.length)):=by
 simp[Bz,enc,Ay,List.map_take,List.map_drop]
def Jz(l:ϣ)(s:Ϧ):(l.map (λb=>(b.toNat:Int))).foldl (λr n=>r.push (UInt8.ofNat n.toNat)) s=⟨(s.data.toList++l).toArray⟩:=by
 induction l generalizing s with
 | nil=>simp
 | cons b l ih=>
  rw[List.map_cons,List.foldl_cons,ih];simp[ByteArray.push]
def YI(w)(k:Int)(d:k<0):
  Ω 41 #[ϊ k] w λe w'=>e=ϱ (ϖ (w.heap.size+1))/\∃Z:ϧ,Z.size=0*128/\(∀v∈Z.toList,v=.int .u8 0)/\
   w'=(w.alloc (ϲ Z 115)).alloc (DW 0 w.heap.size (.slice none 0 0) 0 0):=by
 go_enter func41,ntmps41;go_wp2;let⟨Z,b,c,a⟩:=PO (P:=prog) (.agg zeroCells115) (.int .u8 0) 128 128 underlying111 JG Lo (by simp[Value.cells,IF]) .i64 .i64 0 oM oM w;simp[Int.ofNat_zero,Int.natCast_zero]at a;rw[a];go_wp2;go_ret;exact⟨rfl,Z,b,c,rfl⟩
def qC7{w}{base:Nat}{v}{k:Nat}{l}(h:w.ownsRow base 5 1 v k (Ay l)):
  Sem.run prog (convert 118 9 v) w=.ok (ϕ ⟨l.toArray⟩) w:=by
 let⟨f,c⟩:=h;rw[FI]at f;rcases c with⟨rfl,m⟩|⟨g,cap,cur,rfl,_,d,p,_,q,j⟩
 .have:l=[]:=List.eq_nil_of_length_eq_zero oM;subst this;rw[run_convert_bytes_string w _ _ _ _ _ _ underlying118 underlying5 underlying9];rfl
 .rw[run_convert_bytes_string w _ _ _ _ _ _ underlying118 underlying5 underlying9];have i:Ad cur 0 k=((l.map (λb=>(b.toNat:Int))).map (.int .u8)).toArray:=by
   have e:(l.map (λb=>(b.toNat:Int))).map (Value.int .u8)=Ay l:=by simp[Ay]
   rw[e,<-j];simp[Ad]
  have a:=Gt (P:=prog) (o:=0) (n:=k) d oM;rw[i]at a;rw[run_bytesToString w _ _ _ _ a,Jz];simp
variable {κ:Nat}
def CR(A n:Nat):Obj:=.cells #[.iface 27 (.pointer (some ⟨A,0,none⟩)),.int .i64 n] 263
def τ(l:List UInt8)(i:Nat):List UInt8:=(l.drop (i*128)).take 128
def CS:zeroCells288.size=128:=kR
variable {κ:Nat}
def Ct{w:Ϣ}{base b:Nat}{e:Ϯ}{sz:Nat}{v:Value}{n:Nat}{xs:Ϩ}(h:w.ownsRow base e sz v n xs)(f:b<=base):w.ownsRow b e sz v n xs:=by
 let⟨c,a⟩:=h;refine⟨c,?_⟩;rcases a with a|⟨g,cap,cur,d,i,r⟩
 .exact .inl a
 .exact .inr ⟨g,cap,cur,d,oM,r⟩
def Wg{w:Ϣ}{g:Nat}{c:ϧ}{e:Ϯ}(h:w.heap[g]?=some (ϲ c e))(o:Nat):(w.freeze (ϰ g o) 1).heap[g]?=some (ϲ c e (o,o+1)):=by
 simp[World.freeze,Array.getElem?_modify,h]
def Ns{w:Ϣ}{g k:Nat}(a:k≠g)(o:Nat):(w.freeze (ϰ g o) 1).heap[k]?=w.heap[k]?:=by
 have:g≠k:=λe=>a e.symm;simp[World.freeze,Array.getElem?_modify,this]
def Below.freeze{B:Nat}{a w}(h:Below B a w){g:Nat}(c:B<=g)(o:Nat):Below B a (w.freeze (ϰ g o) 1):=
 ⟨h.os,h.tape,h.output,by have:=h.size;simp[World.freeze];omega,λk b=>(Ns oM o).trans (h.block k b)⟩
def qC3{w}{g l a:Nat}{c}{e}(h:w.heap[g]?=some (ϲ c e)):
  Sem.run prog (convert 118 118 (.slice (some (ϰ g 0)) l a)) w=.ok (.slice (some (ϰ g 0)) l a) (w.freeze (ϰ g c.size) 1):=by
 have b:w.shape? g=some (e,c.size):=by simp[World.shape?,h]
 simp[convert,run_underlying underlying118,run_underlying underlying5,markStringish,b]
def Rx(g k:Nat)(xs:List Int)(n:Int)(m:Nat)(w)(T:k<=1000)(M:xs.length=k)(P:m<=100)(Q:1<=m)(L:0<=n)
  (v:∀j,j<k->w.cell? (ϰ g j)=some (.int .u8 (xs.getD j 0))):
  Ω 250 #[.slice (some (ϰ g 0)) k k,.int .u64 n,ϊ m] w λe w'=>∃c,e=ϱ c/\w'.ownsRow w.heap.size 5 1 c (k+m) (u8s (xs++Ak m n))/\Below w.heap.size w w':=by
 let⟨E,x,B,C,D⟩:=info_parts Tryz.qQ2;have I:∀j,j<k->g<w.heap.size:=λj y=>World.block_lt_of_cell? w _ (v j y);go_enter func250,ntmps250;go_wp2
 go_loopw [0,1,8] (λs q i wr=>∃(j:Nat)(c:Value)(a:Int),j<=m/\i=.int .i64 j/\q=.int .u64 a/\a=n / (256:Int) ^ j/\0<=a/\a<=n/\s=c/\((j=0/\c=ϑ g 0 k k/\w=wr)\/(1<=j/\wr.ownsRow w.heap.size 5 1 c (k+j) (u8s (xs++Ak j n))))/\Below w.heap.size w wr) (λ_ _ i _=>m-(intOf i).toNat)
 case atStart=>exact⟨0,_,n,Nat.zero_le _,rfl,rfl,sM,L,Int.le_refl _,rfl,.inl ⟨rfl,rfl,rfl⟩,Below.refl _ _⟩
 case round=>
  obtain⟨j,c,a,y,rfl,rfl,A,R,S,rfl,H,d⟩:=hrel;have f:=zh A;clear A;rcases H with⟨rfl,rfl,rfl⟩|⟨O,p⟩
  .have K:0<m:=oM
   have F:Hid (∀b,(some ((ϰ g 0):Addr))=some b->∀j u,(u8s xs)[j]?=some u->(w.alloc (ϲ #[.int .u8 (a % 256)] 5)).cell? (b.add j)=some u):=by
    intro b G j u r;cases G;rw[Br,Nat.zero_add];have z:j<k:=by have:=(List.getElem?_eq_some_iff.1 r).1;simp[u8s]at this;omega
    rw[World.cell?_alloc_past _ _ _ (I j z),v j z];simp[u8s,List.getElem?_eq_getElem (show j<xs.length by omega)]at r;simp[List.getD_eq_getElem?_getD,List.getElem?_eq_getElem (show j<xs.length by omega),r]
   go_wp2_with (at_builtin;go_must (refine wpList_append_grows _ rfl _ _ 118 rfl 5 E (.int .u8 0) 1 1 underlying118 x B C D rfl dC (some (ϰ g 0)) k k (u8s xs) rfl sM (by simp[u8s,M]) F (ϰ w.heap.size 0) 1 1 [.int .u8 (a % 256)] rfl rfl (cell_one_new _ _ _) (by simp[Value.oneCell']) oM (by unfold maxLen;omega) oM ?_);intro t N o l)
   refine⟨⟨1,t,a / 256,oM,rfl,rfl,?_,oM,oM,rfl,.inr ⟨Nat.le_refl _,?_⟩,?_⟩,iO⟩
   .rw[f.out];simp
   .have h:u8s (xs++Ak 1 n)=u8s xs++[.int .u8 (a % 256)]:=by rw[f.out];simp[u8s,Ak]
    rw[h];exact Ct o sM
   .exact (d.alloc (Nat.le_refl _) _).grown l sM sM
  .by_cases K:j<m
   .go_wp2_with (at_builtin;apply wpList_append_own _ rfl _ _ 118 rfl w.heap.size 5 E (.int .u8 0) 1 1 underlying118 x B C D rfl dC _ _ _ rfl (p.alloc _) (ϰ wr.heap.size 0) 1 1 [.int .u8 (a % 256)] rfl rfl (cell_one_new _ _ _) (by simp[Value.oneCell']) (by unfold maxLen;omega) oM (by have:=d.size;simp;omega);intro t N o l _)
    refine⟨⟨j+1,t,a / 256,oM,by go_num,rfl,?_,oM,oM,rfl,.inr ⟨oM,?_⟩,?_⟩,iO⟩
    .rw[f.out,Int.ediv_ediv_of_nonneg (by exact Int.pow_nonneg dC),Int.pow_succ]
    .have h:u8s (xs++Ak (j+1) n)=u8s (xs++Ak j n)++[.int .u8 (a % 256)]:=by rw[Ka,<-f.out];simp[u8s]
     rw[h];exact o
    .exact (d.alloc (oW d.size) _).grown l (by have:=d.size;simp;omega) (qN3 p)
   .go_wp2;go_ret;have e:j=m:=oM
    subst e;exact⟨_,rfl,p,d⟩
def Cj:List Int:=[115,104,97,100,111,119]
def De(N rb rs:Int):List Int:=Cj++Ak 2 rb++Ak 8 N++Ak 8 rs
def BP(N rb rs:Int):List Int:=De N rb rs++Ak 8 (fnv (De N rb rs))
def FJ(xs:List Int):0<=fnv xs:=by
 unfold fnv
 suffices h:∀s:Int,0<=s->0<=xs.foldl ET s from h _ dC
 induction xs with
 | nil=>intro s a;simpa using a
 | cons x xs ih=>
  intro s a;rw[List.foldl_cons];apply ih;simp[ET,IntKind.wrap_u64];exact Int.emod_nonneg _ dC
def qD4(N a rs:Int):(De N a rs).length=24:=by simp[De,Cj,BJ]
def KL(N a rs:Int):(BP N a rs).length=32:=by simp[BP,qD4,BJ]
def Zu{w:Ϣ}{base:Nat}{v:Value}{k:Nat}{xs:List Int}(h:w.ownsRow base 5 1 v (k+1) (u8s xs)):∃g cap,v=.slice (some (ϰ g 0)) (k+1) cap/\base<=g/\xs.length=k+1/\∀j,j<k+1->w.cell? (ϰ g (0+j))=some (.int .u8 (xs.getD j 0)):=by
 let⟨f,b⟩:=h;rcases b with⟨_,a⟩|⟨g,cap,cur,rfl,c,d,m,_,o,i⟩
 .cases a
 .have l:xs.length=k+1:=by simpa [u8s] using f
  refine⟨g,cap,rfl,c,l,λj n=>?_⟩;rw[Y d];have e:(cur.toList.take ((k+1)*1))[j]?=(u8s xs)[j]?:=by rw[i]
  rw[List.getElem?_take,if_pos oM]at e;rw[Nat.zero_add,<-Array.getElem?_toList,e];simp[u8s,List.getD_eq_getElem?_getD,gQ (show j<xs.length by omega)]
def PV(N a rs:Int)(w)(y:0<=N)(E:0<=a)(M:a<=65535)(I:0<=rs):
  Ω 207 #[.agg #[.int .u64 N,ϊ a,.int .u64 rs]] w λe w'=>∃v,e=ϱ v/\w'.ownsRow w.heap.size 5 1 v 32 (u8s (BP N a rs))/\Below w.heap.size w w':=by
 go_enter func207,ntmps207;go_wp2_with fail;have c:=μ (w.alloc (ϲ #[.int .u64 N,ϊ a,.int .u64 rs] 166)) (ϲ #[.int .u8 115,.int .u8 104,.int .u8 97,.int .u8 100,.int .u8 111,.int .u8 119] 5);rw[show(w.alloc (ϲ #[.int .u64 N,ϊ a,.int .u64 rs] 166)).heap.size=w.heap.size+1 from by simp]at c;rw[qC3 c];obtain⟨b,p,x,h,z⟩:∃b,b=((w.alloc (ϲ #[.int .u64 N,ϊ a,.int .u64 rs] 166)).alloc (ϲ #[.int .u8 115,.int .u8 104,.int .u8 97,.int .u8 100,.int .u8 111,.int .u8 119] 5)).freeze ⟨w.heap.size+1,#[Value.int .u8 115,Value.int .u8 104,Value.int .u8 97,Value.int .u8 100,Value.int .u8 111,Value.int .u8 119].size,none⟩ 1/\
   Below w.heap.size w b/\Ϙ b w.heap.size (ϲ #[.int .u64 N,ϊ a,.int .u64 rs] 166)/\(∀j,j<6->b.cell? (ϰ (w.heap.size+1) j)=some (.int .u8 (Cj.getD j 0))):=
  ⟨_,rfl,Below.freeze (((Below.refl _ _).alloc lR _).alloc sM _) oM _,(Ns oM _).trans (ν _ (μ _ _)),λj G=>by
   rw[Y (Wg c _)]
   match j,G with
   | 0,_=>rfl
   | 1,_=>rfl
   | 2,_=>rfl
   | 3,_=>rfl
   | 4,_=>rfl
   | 5,_=>rfl⟩
 rw[<-p];clear p c;have K:w.heap.size+1<=b.heap.size:=by have:=U h;omega
 have t:=Y h 1;simp at t;go_wp2_with fail;apply(Rx (w.heap.size+1) 6 Cj a 2 b oM rfl oM oM E z).mono;rintro e q ⟨P,rfl,A,d⟩;have o:=(d.block w.heap.size oM).trans h;have:=d.size;have l:=Y o 0;simp at l;go_wp2_with fail;apply(IW _ (w.heap.size+1) (6+2) (Cj++Ak 2 a) N 8 q oM oM y oM (Ct A K)).mono;rintro e r ⟨Q,rfl,B,f⟩;have:=f.size;have m:=Y ((f.block w.heap.size oM).trans o) 2;simp at m;clear l;go_wp2_with fail;apply(IW _ (w.heap.size+1) (6+2+8) (Cj++Ak 2 a++Ak 8 N) rs 8 r oM oM I oM B).mono;rintro e s ⟨R,rfl,i,n⟩;have:=n.size;clear m;have D:u8s (Cj++Ak 2 a++Ak 8 N++Ak 8 rs)=u8s (De N a rs):=rfl;rw[D]at i;obtain⟨g,cap,rfl,O,H,F⟩:=Zu (k:=23) i;go_wp2_with fail;apply mR (Ir g 0 24 cap (De N a rs) s H oM F);rintro T rfl;go_wp2_with fail;apply(IW _ (w.heap.size+1) 24 (De N a rs) (fnv (De N a rs)) 8 _ oM oM (FJ _) oM i).mono;rintro e L ⟨S,rfl,C,u⟩;go_wp2;go_ret;refine⟨_,rfl,Ct C oM,x.trans (((d.mono oM).trans (f.mono oM)).trans ((n.mono oM).trans (u.mono oM)))⟩
def BE(N rb rs:Int):Value:=.agg #[.int .u64 N,.int .i64 rb,.int .u64 rs]
def KC(N a rs:Int)(w)(b:0<=N):
  Ω 209 #[.agg #[.int .u64 N,ϊ a,.int .u64 rs]] w λe w'=>e=ϱ (ϊ (N % 2))/\Below w.heap.size w w':=by
 go_enter func209,ntmps209;go_wp2;go_ret;exact⟨rfl,(Below.refl _ _).alloc lR _⟩
def PP{w}{g o n cap:Nat}{ca}{tg}{fa}{l}(h:w.heap[g]?=some (ϲ ca tg fa))(d:Ad ca o n=enc l)(c:o+n<=ca.size):
  Sem.run prog (convert 118 9 (.slice (some (ϰ g o)) n cap)) w=.ok (ϕ ⟨l.toArray⟩) w:=by
 rw[run_convert_bytes_string w _ _ _ _ _ _ underlying118 underlying5 underlying9];have a:=Gt (P:=prog) (o:=o) (n:=n) h c;have e:enc l=((l.map (λb=>(b.toNat:Int))).map (.int .u8)).toArray:=by simp[enc,Ay]
 rw[d,e]at a;rw[run_bytesToString w _ _ _ _ a,Jz];simp
def Vi(g o n cap h c d:Nat)(a b)(w)(tg th)(ca cb)(fa fb)(f:w.heap[g]?=some (ϲ ca tg fa))(j:w.heap[h]?=some (ϲ cb th fb))
  (l:Ad ca o n=enc a) (m:Ad cb c n=enc b) (i:o+n<=ca.size) (k:c+n<=cb.size):
  Ω 249 #[.slice (some (ϰ g o)) n cap,.slice (some (ϰ h c)) n d] w λe w'=>e=ϱ (ϐ (a == b))/\w'=w:=by
 have:=PP (cap:=cap) f l i;have:=PP (cap:=d) j m k;go_enter func249,ntmps249;go_wp2;go_ret;exact⟨rfl,rfl⟩
def DN:List Int→Int
 | []=>0
 | x::xs=>x+256*DN xs
def Ko:∀xs:List Int,(∀x∈xs,0<=x/\x<256)->0<=DN xs/\DN xs<(256:Int) ^ xs.length
 | [],_=>by simp[DN]
 | x::xs,h=>by
  have:=h x sM;have:=Ko xs (λy a=>h y (by simp[a]));simp[DN,lC,Int.pow_succ];omega
def Zl(n x:Int)(g:0<=n)(h:n<72057594037927936)(c:0<=x)(i:x<256):bits BinOp.or .u64 (IntKind.u64.wrap (n*256)) (IntKind.u64.wrap x)=x+256*n:=by
 have d:IntKind.u64.wrap (n*256)=n*256:=by simp[IntKind.wrap_u64];omega
 have e:IntKind.u64.wrap x=x:=by simp[IntKind.wrap_u64];omega
 rw[d,e,u64_or _ _ oM oM c oM];obtain⟨a,rfl⟩:=Int.eq_ofNat_of_zero_le g;obtain⟨b,rfl⟩:=Int.eq_ofNat_of_zero_le c;have f:((a:Int)*256).toNat=a <<< 8:=by rw[Nat.shiftLeft_eq];omega
 rw[f,Int.toNat_natCast,<-Nat.shiftLeft_add_eq_or_of_lt oM,Nat.shiftLeft_eq];omega
def Kn:∀xs:List Int,(∀x∈xs,0<=x/\x<256)->xs.length<=8->BF xs=DN xs
 | [],_,_=>rfl
 | x::xs,h,hl=>by
  have b:=h x sM;have a:∀y∈xs,0<=y/\y<256:=λy hy=>h y (by simp[hy]);have d:=Ko xs a;have:(256:Int) ^ xs.length<=256 ^ 7:=by
   have c:xs.length<=7:=by simp at hl;omega
   have e:∀k:Nat,(256:Int) ^ k=((256 ^ k:Nat):Int):=λk=>by rw[Int.natCast_pow];rfl
   rw[e,e];exact Int.ofNat_le.2 (Nat.pow_le_pow_right dC c)
  have:(256:Int) ^ 7=72057594037927936:=dC
  have f:=Kn xs a (by simp at hl;omega);show bits BinOp.or .u64 (IntKind.u64.wrap (BF xs*256)) (IntKind.u64.wrap x)=_;rw[f,Zl _ _ d.1 oM b.1 b.2];rfl
def CK:∀(k:Nat)(n:Int),∀x∈Ak k n,0<=x/\x<256
 | 0,_,_,h=>by simp[Ak]at h
 | k+1,n,x,h=>by
  simp[Ak,mC]at h;rcases h with rfl|h
  .omega
  .exact CK k _ x h
def Pe:∀(k:Nat)(n:Int),0<=n->n<(256:Int) ^ k->DN (Ak k n)=n
 | 0,n,h0,h1=>by simp[Ak,DN]at *;omega
 | k+1,n,h0,h1=>by
  rw[Int.pow_succ]at h1;have a:n / 256<(256:Int) ^ k:=by
   generalize (256:Int) ^ k=q at *;omega
  rw[Ak,DN,Pe k _ oM a];omega
def DM(k:Nat)(n:Int)(c:k<=8)(a:0<=n)(b:n<(256:Int) ^ k):BF (Ak k n)=n:=by
 rw[Kn _ (CK k n) (by rw[BJ];exact c),Pe k n a b]
variable {κ:Nat}
def BC(l:List UInt8):List Int:=l.map (fun b=>(b.toNat:Int))
def toB(xs:List Int):List UInt8:=xs.map (fun x=>UInt8.ofNat x.toNat)
def Ja(l):(BC l).length=l.length:=by simp[BC]
def Se(l):∀x∈BC l,0<=x/\x<256:=by
 intro x a;simp[BC]at a;obtain⟨b,_,rfl⟩:=a;have:=b.toNat_lt;omega
def EP(xs:List Int)(h:∀x∈xs,0<=x/\x<256):BC (toB xs)=xs:=by
 simp only[BC,toB,List.map_map]
 conv=>rhs;rw[<-List.map_id xs]
 apply List.map_congr_left;intro x a;have:=h x a;simp[UInt8.toNat_ofNat'];omega
def UX(l):Ay l=u8s (BC l):=by simp[Ay,u8s,BC]
def IA(xs:List Int)(h:∀x∈xs,0<=x/\x<256):u8s xs=Ay (toB xs):=by rw[UX,EP xs h]
def qD5(N b rs:Int):∀x∈BP N b rs,0<=x/\x<256:=by
 intro x a;simp only[BP,De,List.mem_append]at a;rcases a with (((a|a)|a)|a)|a
 .simp[Cj]at a;omega
 .exact CK _ _ x a
 .exact CK _ _ x a
 .exact CK _ _ x a
 .exact CK _ _ x a
def Po{w:Ϣ}{base:Nat}{v:Value}{N a rs:Int}(h:w.ownsRow base 5 1 v 32 (u8s (BP N a rs))):∃g cap cur,v=.slice (some (ϰ g 0)) 32 cap/\w.heap[g]?=some (ϲ cur 5)/\32<=cur.size/\Ad cur 0 32=enc (toB (BP N a rs)):=by
 let⟨_,d⟩:=h;rcases d with⟨_,c⟩|⟨g,cap,cur,rfl,_,e,f,_,i,b⟩
 .cases c
 .refine⟨g,cap,cur,rfl,e,oM,?_⟩;rw[IA _ (qD5 N a rs)]at b;simp[Ad,enc,<-b]
def YU(G a n cap:Nat)(bl)(t)(w)(b:w.heap[G]?=some (ϲ (enc bl) t))(h:a+n<=bl.length)(c:n<=1000000):
  Ω 248 #[.slice (some (ϰ G a)) n cap] w λe w'=>e=ϱ (.int .u64 (BF (BC ((bl.drop a).take n))))/\w'=w:=by
 have g:((bl.drop a).take n).length=n:=sO
 refine Gm G a n cap _ w (by rw[Ja,g]) c (λj d=>?_);rw[Y b,<-EH (cs:=enc bl) d,Dd];have f:j<((bl.drop a).take n).length:=oM
 generalize (bl.drop a).take n=s at *;simp[enc,Ay,BC,List.getD_eq_getElem?_getD,gQ f]
def Fl{P:Program}{a:Func}{p u:Tmp}{ty}(h:a.results=#[.cell p ty,.tmp u])(tmps)(w)(g:Nat)(t)(cs)(fr)(d:TypeDesc)
  (f:tmps.getD p undef=ϖ g) (c:w.heap[g]?=some (ϲ cs t fr))
  (i:P.underlying ty=some d) (b:(match d with | .struct _ | .array _ _=>true | _=>false)=true) (e:(P.info? ty).map (·.size)=some cs.size):
  (results a tmps).run P w=.ok (.tuple #[.agg cs,tmps.getD u undef]) w:=by
 rw[results_cell_tmp h,f];simp[asAddr,run_loadVar_row w g t ty cs fr d c i b e]
def kl(a b:ByteArray):Bool:=Op.bytesLess a.toList b.toList
def OA:∀(x y:ϣ),Op.bytesLess x y=decide (x<y)
 | [],[]=>by simp[Op.bytesLess]
 | _::_,[]=>by simp[Op.bytesLess]
 | [],_::_=>by simp[Op.bytesLess]
 | a::x,b::y=>by
  rw[Op.bytesLess,OA x y];simp[List.cons_lt_cons_iff];by_cases c:a<b<;>by_cases d:a=b<;>by_cases e:x<y<;>simp[c,d,e]
def Mx{a b:Ϧ}(h:a.toList=b.toList):a=b:=by
 rw[ByteArray.toList_eq,ByteArray.toList_eq]at h;cases a;cases b;simp[ByteArray.mk.injEq];exact Array.toList_inj.1 h
def Ij(a b:Ϧ):(a.toList == b.toList)=decide (a=b):=by
 by_cases h:a=b
 .simp[h]
 .have:¬a.toList=b.toList:=λe=>h (Mx e);simp[h,this]
def Hn(a b):kl a b=true↔a.toList<b.toList:=by unfold kl;rw[OA];simp
def Fa(a b):kl a b=false↔b.toList<=a.toList:=by
 rw[<-Bool.not_eq_true,Hn];exact List.not_lt
def Cx(a):kl a a=false:=(Fa a a).2 (List.le_refl _)
def Dp{a b c}(h:kl a b=true)(k:kl b c=true):kl a c=true:=by
 rw[Hn]at *;exact List.lt_trans h k
def Dt{a b}(h:kl a b=true):kl b a=false:=by
 rw[Hn]at h;rw[Fa];exact List.le_of_lt h
def FT{a b}(h:kl a b=false)(k:kl b a=false):a=b:=by
 rw[Fa]at *;exact Mx (List.le_antisymm k h)
def FS{a b c}(h:kl b a=false)(k:kl b c=true):kl a c=true:=by
 rw[Fa]at h;rw[Hn]at *;exact List.lt_of_le_of_lt h k
def CX{a b c}(h:kl a b=true)(k:kl c b=false):kl a c=true:=by
 by_cases e:kl a c=true
 .exact e
 .have:=FS (a:=c) (b:=a) (c:=b) (sU e) h;rw[k]at this;cases this
def NU{a b c}(h:kl b a=false)(k:kl c b=false):kl c a=false:=by
 rw[Fa]at *;exact List.le_trans h k
def BM{a b}(h:kl a b=true):a≠b:=λe=>by subst e;rw[Cx]at h;cases h
def CW(a):kl a ⟨#[]⟩=false:=by
 rw[Fa];simp
def NV(a b):(Op.bytesLess a.toList b.toList || a.toList == b.toList)=!kl b a:=by
 rw[Ij];by_cases h:kl a b=true
 .have:Op.bytesLess a.toList b.toList=true:=h;simp[this,Dt h]
 .have c:kl a b=false:=by simpa using h
  have f:Op.bytesLess a.toList b.toList=false:=c;by_cases e:a=b
  .subst e;simp[Cx]
  .have:kl b a=true:=by
    by_cases d:kl b a=true
    .exact d
    .exact absurd (FT c (sU d)) e
   simp[f,e,this]
structure KV where
 k:Ϧ
 v:Ϧ
 deriving DecidableEq
def Sorted(l:List KV):Prop:=l.Pairwise λa b=>kl a.k b.k=true
def ins(p:KV)(l:List KV):List KV:=l.takeWhile (fun q=>kl q.k p.k)++p::(l.dropWhile (fun q=>kl q.k p.k)).filter (fun q=>!decide (q.k=p.k))
def del(k:ByteArray)(l:List KV):List KV:=l.filter fun q=>!decide (q.k=k)
def Sorted.append{a b}:Sorted (a++b)↔Sorted a/\Sorted b/\∀x∈a,∀y∈b,kl x.k y.k=true:=List.pairwise_append
def Sorted.del{l}(h:Sorted l)(k):Sorted (del k l):=h.sublist List.filter_sublist
def Ht{k}{l}{q}:q∈del k l↔q∈l/\q.k≠k:=by simp[del]
def Kg{p q}{l}(h:q∈ins p l):q=p\/q∈l:=by
 simp[ins,List.mem_append,mC,List.mem_filter]at h;rcases h with h|h|⟨h,_⟩
 .exact .inr (List.takeWhile_sublist _ |>.subset h)
 .exact .inl h
 .exact .inr (List.dropWhile_sublist _ |>.subset h)
def JJ(p)(l):(ins p l).length<=l.length+1:=by
 have:=congrArg List.length (List.takeWhile_append_dropWhile (p:=λq=>kl q.k p.k) (l:=l));have:=List.length_filter_le (λq=>!decide (q.k=p.k)) (l.dropWhile (λq=>kl q.k p.k));simp only[ins,lA,lC]at *;omega
def It{p:Ϧ}{l:List KV}:∀q∈l.takeWhile (λq=>kl q.k p),kl q.k p=true:=by
 induction l with
 | nil=>intro q h;simp at h
 | cons a l ih=>
  intro q h;rw[List.takeWhile_cons]at h;split at h
  .rcases List.mem_cons.1 h with rfl|h
   .assumption
   .exact ih q h
  .simp at h
def Jm{p}{l}(d:Sorted l):∀q∈l.dropWhile (λq=>kl q.k p),kl q.k p=false:=by
 induction l with
 | nil=>intro q h;simp at h
 | cons a l ih=>
  intro q h;have c:=pC d;rw[List.dropWhile_cons]at h;split at h
  .exact ih c.2 q h
  .next b=>
   have b:kl a.k p=false:=by simpa using b
   rcases List.mem_cons.1 h with rfl|h
   .exact b
   .exact Dt (FS b (c.1 q h))
def Sorted.ins{l}(h:Sorted l)(p):Sorted (ins p l):=by
 have i:Sorted (l.takeWhile (λq=>kl q.k p.k)++l.dropWhile (λq=>kl q.k p.k)):=by rw[List.takeWhile_append_dropWhile];exact h
 let⟨f,g,j⟩:=Sorted.append.1 i;have c:∀q∈(l.dropWhile (λq=>kl q.k p.k)).filter (λq=>!decide (q.k=p.k)),kl p.k q.k=true:=by
  intro q a;simp[List.mem_filter,Bool.not_eq_true',decide_eq_false_iff_not]at a;have:=Jm h q a.1;by_cases e:kl p.k q.k=true
  .exact e
  .exact absurd (FT this (sU e)) a.2
 refine Sorted.append.2 ⟨f,List.pairwise_cons.2 ⟨c,g.sublist List.filter_sublist⟩,?_⟩;intro x d y b;rcases List.mem_cons.1 b with rfl|b
 .exact It x d
 .exact Dp (It x d) (c y b)
def Ha{l:List KV}{k:Ϧ}(h:∀q∈l,q.k≠k):l.filter (λq=>!decide (q.k=k))=l:=by
 rw[List.filter_eq_self];intro q a;simp[h q a]
def FG{l}{k}(h:∀q∈l,q.k≠k):del k l=l:=Ha h
def FF(k)(a b):del k (a++b)=del k a++del k b:=by simp[del]
def WP{p}{a b c}(f:∀q∈a,kl q.k p.k=true)(g:∀q∈c,kl p.k q.k=true):ins p (a++b++c)=a++ins p b++c:=by
 have i:∀(x y:List KV),(∀q∈x,kl q.k p.k=true)->(x++y).takeWhile (λq=>kl q.k p.k)=x++y.takeWhile (λq=>kl q.k p.k):=by
  intro x y e
  induction x with
  | nil=>rfl
  | cons z x ih=>simp[List.takeWhile_cons,e z sM,ih (λq d=>e q (by simp[d]))]
 have j:∀(x y:List KV),(∀q∈x,kl q.k p.k=true)->(x++y).dropWhile (λq=>kl q.k p.k)=y.dropWhile (λq=>kl q.k p.k):=by
  intro x y e
  induction x with
  | nil=>rfl
  | cons z x ih=>simp[List.dropWhile_cons,e z sM,ih (λq d=>e q (by simp[d]))]
 have h:=λq d=>Dt (g q d);have k:∀y:List KV,(y++c).takeWhile (λq=>kl q.k p.k)=y.takeWhile (λq=>kl q.k p.k):=by
  intro y
  induction y with
  | nil=>
   cases c with
   | nil=>rfl
   | cons z c=>simp[List.takeWhile_cons,h z sM]
  | cons z y ih=>simp[cA,List.takeWhile_cons];split<;>simp_all
 have l:∀y:List KV,(y++c).dropWhile (λq=>kl q.k p.k)=y.dropWhile (λq=>kl q.k p.k)++c:=by
  intro y
  induction y with
  | nil=>
   cases c with
   | nil=>rfl
   | cons z c=>simp[List.dropWhile_cons,h z sM]
  | cons z y ih=>simp[cA,List.dropWhile_cons];split<;>simp_all
 have m:=Ha λq d=>(BM (g q d)).symm;unfold ins;rw[aA,i _ _ f,j _ _ f,k,l,List.filter_append,m];simp
def UK{k}{a b c}(e:∀q∈a,kl q.k k=true)(f:∀q∈c,kl k q.k=true):del k (a++b++c)=a++del k b++c:=by
 rw[FF,FF,FG λq d=>BM (e q d),FG λq d=>(BM (f q d)).symm]
def PZ{l}(c:Sorted l)(k):l.findIdx (λq=>!kl q.k k)=(l.takeWhile (λq=>kl q.k k)).length:=by
 induction l with
 | nil=>rfl
 | cons a l ih=>
  rw[List.findIdx_cons,List.takeWhile_cons];by_cases h:kl a.k k=true
  .simp[h,ih (pC c).2]
  .have b:kl a.k k=false:=by simpa using h
   simp[b]
def Qf{l}(a:Sorted l)(k):l.take (l.findIdx (λq=>!kl q.k k))=l.takeWhile (λq=>kl q.k k):=by
 rw[PZ a]
 conv=>lhs;arg 2;rw[<-List.takeWhile_append_dropWhile (p:=λq=>kl q.k k) (l:=l)]
 rw[List.take_left]
def MU{l}(a:Sorted l)(k):l.drop (l.findIdx (λq=>!kl q.k k))=l.dropWhile (λq=>kl q.k k):=by
 rw[PZ a]
 conv=>lhs;arg 2;rw[<-List.takeWhile_append_dropWhile (p:=λq=>kl q.k k) (l:=l)]
 rw[List.drop_left]
def Bo(l:List KV)(i:Nat)(k:ByteArray):Bool:=match l[i]? with
 | some q=>decide (q.k=k)
 | none=>false
def Ah(l:List KV)(k:ByteArray):Nat:=l.findIdx (fun q=>!kl q.k k)
def Gu(l)(k):Ah l k<=l.length:=fL
def FQ{l}(d:Sorted l)(p):ins p l=l.take (Ah l p.k)++[p]++l.drop (if Bo l (Ah l p.k) p.k then Ah l p.k+1 else Ah l p.k):=by
 unfold ins Ah;rw[Qf d];have b:=MU d p.k;have h:=Jm (p:=p.k) d;have k:Sorted (l.dropWhile (λq=>kl q.k p.k)):=d.sublist (List.dropWhile_sublist _);generalize l.findIdx (λq=>!kl q.k p.k)=i at *;have c:l[i]?=(l.dropWhile (λq=>kl q.k p.k)).head?:=by rw[<-b];simp
 have g:l.drop (i+1)=(l.dropWhile (λq=>kl q.k p.k)).tail:=by rw[<-b];simp
 cases hc:l.dropWhile (λq=>kl q.k p.k) with
 | nil=>
  rw[hc]at c b;simp[Bo,c,b]
 | cons a r=>
  rw[hc]at c b g h k;have j:=pC k;by_cases e:a.k=p.k
  .have:r.filter (λq=>!decide (q.k=p.k))=r:=Ha λq hq=>by rw[<-e];exact(BM (j.1 q hq)).symm
   simp[Bo,c,e,g,this]
  .have m:kl p.k a.k=true:=by
    by_cases f:kl p.k a.k=true
    .exact f
    .exact absurd (FT (h a sM) (sU f)) e
   have:r.filter (λq=>!decide (q.k=p.k))=r:=Ha λq hq=>(BM (Dp m (j.1 q hq))).symm;simp[Bo,c,e,b,this]
def JB{l}(c:Sorted l)(k):Bo l (Ah l k) k=true↔∃q∈l,q.k=k:=by
 unfold Ah;have m:=MU c k;have g:=Jm (p:=k) c;have i:Sorted (l.dropWhile (λq=>kl q.k k)):=c.sublist (List.dropWhile_sublist _);have j:l[l.findIdx (λq=>!kl q.k k)]?=(l.dropWhile (λq=>kl q.k k)).head?:=by rw[<-m];simp
 have n:(∃q∈l,q.k=k)↔∃q∈l.dropWhile (λq=>kl q.k k),q.k=k:=by
  constructor
  .rintro⟨q,b,e⟩;rw[<-List.takeWhile_append_dropWhile (p:=λq=>kl q.k k) (l:=l)]at b;rcases mA b with h|h
   .exact absurd e (BM (It q h))
   .exact⟨q,h,e⟩
  .rintro⟨q,b,e⟩;exact⟨q,List.dropWhile_sublist _ |>.subset b,e⟩
 rw[n];unfold Bo;rw[j]
 cases hc:l.dropWhile (λq=>kl q.k k) with
 | nil=>simp
 | cons a r=>
  rw[hc]at i g;simp only[List.head?_cons,decide_eq_true_eq,mC,exists_eq_or_imp];constructor
  .intro h;exact .inl h
  .rintro (h|⟨q,b,e⟩)
   .exact h
   .have d:=(pC i).1 q b;rw[e]at d;have f:=g a sM;rw[d]at f;cases f
def MT{l}(j:Sorted l){k}(h:Bo l (Ah l k) k=true):del k l=l.take (Ah l k)++l.drop (Ah l k+1):=by
 have e:=tD (Ah l k) l;unfold Bo at h;split at h
 .next q hq=>
  have a:q.k=k:=by simpa using h
  have i:=(gS hq).1;have c:l.drop (Ah l k)=q::l.drop (Ah l k+1):=by
   rw[dG i,(gS hq).2]
  have m:Sorted (l.take (Ah l k)++q::l.drop (Ah l k+1)):=by rw[<-c,e];exact j
  let⟨n,d,f⟩:=Sorted.append.1 m;have g:=pC d
  conv=>lhs;rw[<-e,c]
  rw[FF,FG λx b=>by rw[<-a];exact BM (f x b q sM)]
  congr 1
  rw[show q::l.drop (Ah l k+1)=[q]++l.drop (Ah l k+1) from rfl,FF,FG (l:=l.drop (Ah l k+1)) λx b=>by rw[<-a];exact(BM (g.1 x b)).symm];simp[del,a]
 .cases h
structure Lnk(X:Type) where
 key:Ϧ
 ref:Option (Nat×Int)
 sub:X
def Tn:Nat→Type
 | 0=>List KV
 | n+1=>List (Lnk (Tn n))
def cont:(n:Nat)→Tn n→List KV
 | 0,ps=>ps
 | n+1,ls=>List.flatMap (fun l:Lnk (Tn n)=>cont n l.sub) ls
def cnt:(n:Nat)→Tn n→Nat
 | 0,ps=>List.length (α:=KV) ps
 | n+1,ls=>List.length (α:=Lnk (Tn n)) ls
def ζ(p:KV):Nat:=1+p.k.size+p.v.size
def ι{X:Type}(l:Lnk X):Nat:=11+l.key.size
def qM2{α:Type}(f:α→Nat)(l:List α):Nat:=(l.map f).sum
def AL{α:Type}(f:α->Nat)(a b:List α):qM2 f (a++b)=qM2 f a+qM2 f b:=by simp[qM2]
def Au{α:Type}(f:α->Nat)(a:α)(b:List α):qM2 f (a::b)=f a+qM2 f b:=by simp[qM2]
def AJ{α:Type}(f:α->Nat):qM2 f []=0:=rfl
def Bs{α:Type}(f:α→Nat)(all:Nat):List α→Nat→Nat
 | [],_=>0
 | x::xs,n=>if 2*n<all then Bs f all xs (n+f x)+1 else 0
def Aq{α:Type}(f:α→Nat)(l:List α):List (List α):=
 if qM2 f l≤126 then [l] else [l.take (Bs f (qM2 f l) l 0),l.drop (Bs f (qM2 f l) l 0)]
def links{α:Type}(low:α→ByteArray)(key:ByteArray):List (List α)→List (Lnk (List α))
 | []=>[]
 | a::rest=>⟨key,none,a⟩::rest.map fun b=>⟨(b.head?.map low).getD ⟨#[]⟩,none,b⟩
def AI(key:ByteArray)(ps:List KV):List (Lnk (Tn 0)):=links KV.k key (Aq ζ ps)
def AA(n:Nat)(key:ByteArray)(ls:List (Lnk (Tn n))):List (Lnk (Tn (n+1))):=links Lnk.key key (Aq ι ls)
def Af{X:Type}(ls:List (Lnk X))(k:ByteArray):Nat:=ls.findIdx (fun l=>kl k l.key)-1
def BL(p:KV)(ps:List KV):List KV:=ps.take (Ah ps p.k)++[p]++ps.drop (if Bo ps (Ah ps p.k) p.k then Ah ps p.k+1 else Ah ps p.k)
def AN:(n:Nat)→Lnk (Tn n)→KV→List (Lnk (Tn n))
 | 0,l,p=>AI l.key (BL p l.sub)
 | n+1,l,p=>
  let ls:List (Lnk (Tn n)):=l.sub
  match ls[Af ls p.k]? with
  | some m=>AA n l.key (ls.take (Af ls p.k)++AN n m p++ls.drop (Af ls p.k+1))
  | none=>[]
def Bf:(n:Nat)→ByteArray→Tn n→Tn n→List (Lnk (Tn n))
 | 0,key,a,b=>AI key (List.append (α:=KV) a b)
 | n+1,key,a,b=>AA n key (List.append (α:=Lnk (Tn n)) a b)
def Av(n:Nat)(ls:List (Lnk (Tn n)))(i:Nat):List (Lnk (Tn n)):=
 match ls[i]? with
 | none=>ls
 | some l=>if 3≤cnt n l.sub then ls else
  match ls[min i (ls.length-2)]?,ls[min i (ls.length-2)+1]? with
  | some a,some b=>ls.take (min i (ls.length-2))++Bf n a.key a.sub b.sub++ls.drop (min i (ls.length-2)+2)
  | _,_=>ls
def Ax:(n:Nat)→Lnk (Tn n)→ByteArray→List (Lnk (Tn n))
 | 0,l,k=>AI l.key (List.take (α:=KV) (Ah l.sub k) l.sub++List.drop (α:=KV) (Ah l.sub k+1) l.sub)
 | n+1,l,k=>
  let ls:List (Lnk (Tn n)):=l.sub
  match ls[Af ls k]? with
  | some m=>AA n l.key (Av n (ls.take (Af ls k)++Ax n m k++ls.drop (Af ls k+1)) (Af ls k))
  | none=>[]
inductive Root where
 | none
 | at (n:Nat) (l:Lnk (Tn n))
def Di:(n:Nat)→Lnk (Tn n)→Root
 | 0,l=>match (l.sub:List KV) with
  | []=>.none
  | _::_=>.at 0 l
 | n+1,l=>match (l.sub:List (Lnk (Tn n))) with
  | []=>.none
  | [m]=>.at n m
  | _::_::_=>.at (n+1) l
def AR(n:Nat)(ls:List (Lnk (Tn n))):Root:=
 match ls with
 | []=>.none
 | [l]=>Di n l
 | ls=>match AA n ⟨#[]⟩ ls with
  | []=>.none
  | r::_=>Di (n+1) r
def Root.cont:Root→List KV
 | .none=>[]
 | .at n l=>YtdohpenfkdckiaaGreatDoor.cont n l.sub
def Root.put(r:Root)(p:KV):Root:=match r with
 | .none=>AR 0 (AI ⟨#[]⟩ [p])
 | .at n l=>AR n (AN n l p)
def Root.del(r:Root)(k:ByteArray):Root:=match r with
 | .none=>.none
 | .at n l=>if (YtdohpenfkdckiaaGreatDoor.cont n l.sub).any (fun q=>decide (q.k=k)) then AR n (Ax n l k) else .at n l
def AD(p:KV):Prop:=1<=p.k.size/\p.k.size<=8/\p.v.size<=12
def Lr{X:Type}(c:X->List KV)(a b:Lnk X):Prop:=kl a.key b.key=true/\∀q∈c a.sub,kl q.k b.key=true
abbrev DG(n:Nat)(a b:Lnk (Tn n)):Prop:=Lr (cont n) a b
structure GoodL(lo:Ϧ)(ps:List KV):Prop where
 sorted:Sorted ps
 all:∀p∈ps,AD p/\kl p.k lo=false
 fits:qM2 ζ ps<=126
structure GoodB{X:Type}(G:Ϧ->X->Prop)(C:X->Nat)(co:X->List KV)(lo:Ϧ)(ls:List (Lnk X)):Prop where
 head:∀l∈ls.head?,l.key=lo
 all:∀l∈ls,G l.key l.sub/\3<=C l.sub/\l.key.size<=8
 pair:ls.Pairwise (Lr co)
 fits:qM2 ι ls<=126
def Good:(n:Nat)→ByteArray→Tn n→Prop
 | 0,lo,ps=>GoodL lo ps
 | n+1,lo,ls=>GoodB (Good n) (cnt n) (cont n) lo ls
structure Row0(n:Nat)(lo:Ϧ)(ls:List (Lnk (Tn n))):Prop where
 head:∀l∈ls.head?,l.key=lo
 all:∀l∈ls,Good n l.key l.sub/\l.key.size<=8
 pair:ls.Pairwise (DG n)
def Cq:∀(n:Nat)(lo)(t),Good n lo t->Sorted (cont n t)/\∀q∈cont n t,AD q/\kl q.k lo=false
 | 0,lo,ps,h=>⟨h.1,h.2⟩
 | n+1,lo,ls,h=>by
  let⟨u,s,i,_⟩:=h;have o:=λl:Lnk (Tn n)=>Cq n l.key l.sub;have key:∀(ls:List (Lnk (Tn n))),(∀l∈ls,Good n l.key l.sub)->ls.Pairwise (DG n)->Sorted (ls.flatMap λl=>cont n l.sub)/\∀q∈ls.flatMap (λl=>cont n l.sub),AD q/\∀l∈ls.head?,kl q.k l.key=false:=by
   intro ls
   induction ls with
   | nil=>intro _ _;simp[Sorted]
   | cons a ls ihl=>
    intro g i;let⟨m,v⟩:=pC i;let⟨C,D⟩:=ihl (λl hl=>g l (by simp[hl])) v;let⟨p,j⟩:=o a (g a sM);have k:∀q∈ls.flatMap (λl=>cont n l.sub),∃b∈ls,kl q.k b.key=false:=by
     intro q c;let⟨b,d,c⟩:=mF c;exact⟨b,d,((o b (g b (by simp[d]))).2 q c).2⟩
    rw[fC];refine⟨Sorted.append.2 ⟨p,C,?_⟩,?_⟩
    .intro x z y A;let⟨b,d,B⟩:=k y A;exact CX ((m b d).2 x z) B
    .intro q c;rcases mA c with c|c
     .exact⟨(j q c).1,sU ((j q c).2)⟩
     .let⟨b,d,w⟩:=k q c;refine⟨(D q c).1,?_⟩;simp[List.head?_cons,Option.mem_def,Option.some.injEq,forall_eq'];exact NU (Dt (m b d).1) w
  let⟨E,F⟩:=key ls (λl hl=>(s l hl).1) i;refine⟨E,λq c=>?_⟩;let⟨G,H⟩:=F q c;refine⟨G,?_⟩
  cases hls:(ls:List (Lnk (Tn n))) with
  | nil=>rw[show cont (n+1) ls=List.flatMap (λl:Lnk (Tn n)=>cont n l.sub) ls from rfl,hls]at c;simp at c
  | cons a r=>
   have e:=u a (by rw[hls];simp);have:=H a (by rw[hls];simp);rw[e]at this;exact this
section
variable {α:Type} (f:α→Nat)
def GV(a m:Nat):∀(l:List α)(n:Nat),(∀x∈l,f x<=m)->2*n<a+2*m->a<=2*(n+qM2 f l)->
  a<=2*(n+qM2 f (l.take (Bs f a l n)))/\2*(n+qM2 f (l.take (Bs f a l n)))<a+2*m
 | [],n,_,h1,h2=>by simp[Bs,qM2]at *;omega
 | x::xs,n,hm,h1,h2=>by
  unfold Bs;have:=hm x sM;split
  .have:=GV a m xs (n+f x) (λy b=>hm y (by simp[b])) oM (by rw[Au]at h2;omega);rw[List.take_succ_cons,Au];omega
  .simp[qM2];omega
def CZ(m:Nat):∀(l:List α),(∀x∈l,f x<=m)->qM2 f l<=m*l.length
 | [],_=>by simp[qM2]
 | x::xs,h=>by
  have:=h x sM;have:=CZ m xs λy a=>h y (by simp[a]);rw[Au,lC,Nat.mul_succ];omega
def Da(l:List α)(i:Nat):qM2 f (l.take i)+qM2 f (l.drop i)=qM2 f l:=by
 rw[<-AL,tD]
def Hi(l:List α)(c:∀x∈l,f x<=21)(e:qM2 f l<=210):
  (Aq f l=[l]/\qM2 f l<=126)\/∃a b,Aq f l=[a,b]/\a++b=l/\qM2 f a<=126/\qM2 f b<=126/\3<=a.length/\3<=b.length:=by
 unfold Aq;split
 .exact .inl ⟨rfl,by assumption⟩
 .next h=>
  right;have:=GV f (qM2 f l) 21 l 0 c oM oM;have:=Da f l (Bs f (qM2 f l) l 0);refine⟨_,_,rfl,tD _ _,oM,oM,?_,?_⟩
  .have:=CZ f 21 (l.take (Bs f (qM2 f l) l 0)) λx d=>c x (mT d);omega
  .have:=CZ f 21 (l.drop (Bs f (qM2 f l) l 0)) λx d=>c x (mD d);omega
end
def FW{lo}{ps}(t:Sorted ps)(g:∀p∈ps,AD p/\kl p.k lo=false)(B:qM2 ζ ps<=210)(s:lo.size<=8):
  Row0 0 lo (AI lo ps)/\(AI lo ps).flatMap (λl=>cont 0 l.sub)=ps/\
  ((∃a,AI lo ps=[a]/\a.key=lo/\a.ref=none/\a.sub=ps)\/∃a b,AI lo ps=[a,b]/\a.key=lo/\a.ref=none/\b.ref=none/\3<=cnt 0 a.sub/\3<=cnt 0 b.sub):=by
 have D:∀x∈ps,ζ x<=21:=λx hx=>by let⟨⟨m,h2,h3⟩,_⟩:=g x hx;unfold ζ;omega
 rcases Hi ζ ps D B with⟨e,m⟩|⟨a,b,e,y,w,z,n,o⟩
 .have j:AI lo ps=[⟨lo,none,ps⟩]:=by unfold AI;rw[e];rfl
  rw[j];refine⟨⟨sM,?_,sM⟩,aN ps,.inl ⟨_,rfl,rfl,rfl,rfl⟩⟩;intro l i;rw[mS i];exact⟨⟨t,g,m⟩,s⟩
 .subst y;obtain⟨c,r,rfl⟩:∃c r,b=c::r:=by cases b with
   | nil=>simp at o
   | cons c r=>exact⟨c,r,rfl⟩
  obtain⟨c0,k,rfl⟩:∃c r,a=c::r:=by cases a with
   | nil=>simp at n
   | cons c r=>exact⟨c,r,rfl⟩
  have j:AI lo (c0::k++c::r)=[⟨lo,none,c0::k⟩,⟨c.k,none,c::r⟩]:=by unfold AI;rw[e];rfl
  rw[j];let⟨E,u,v⟩:=Sorted.append.1 t;have A:=g c sM;refine⟨⟨sM,?_,?_⟩,show c0::k++(c::r++[])=_ by simp,.inr ⟨_,_,rfl,rfl,rfl,rfl,n,o⟩⟩
  .intro l i;simp[mC,lN,or_false]at i;rcases i with rfl|rfl
   .exact⟨⟨E,λp d=>g p (by simp at d |-;rcases d with h | h<;>simp[h]),w⟩,s⟩
   .refine⟨⟨u,λp d=>⟨(g p (List.mem_append_right _ d)).1,?_⟩,z⟩,A.1.2.1⟩;rcases List.mem_cons.1 d with rfl|d
    .exact Cx _
    .exact Dt ((pC u).1 p d)
  .simp[List.pairwise_cons,mC,lN,or_false,forall_eq,List.Pairwise.nil,and_true,false_implies,implies_true];refine⟨FS (g c0 sM).2 (v c0 sM c sM),λq C=>v q C c sM⟩
def Jd{n:Nat}{lo}{ls}(h:Row0 n lo ls)(m:∀l∈ls,3<=cnt n l.sub)(A:qM2 ι ls<=210)(t:lo.size<=8):
  Row0 (n+1) lo (AA n lo ls)/\(AA n lo ls).flatMap (λl=>cont (n+1) l.sub)=ls.flatMap (λl=>cont n l.sub)/\
  ((∃a,AA n lo ls=[a]/\a.key=lo/\a.ref=none/\a.sub=ls)\/∃a b,AA n lo ls=[a,b]/\a.key=lo/\a.ref=none/\b.ref=none/\3<=cnt (n+1) a.sub/\3<=cnt (n+1) b.sub):=by
 have B:∀x∈ls,ι x<=21:=λx hx=>by have:=(h.all x hx).2;unfold ι;omega
 rcases Hi ι ls B A with⟨e,v⟩|⟨a,b,e,y,w,z,o,p⟩
 .have i:AA n lo ls=[⟨lo,none,ls⟩]:=by unfold AA;rw[e];rfl
  rw[i];refine⟨⟨sM,?_,sM⟩,aN _,.inl ⟨_,rfl,rfl,rfl,rfl⟩⟩;intro l d;rw[mS d];exact⟨⟨h.head,λl d=>⟨(h.all l d).1,m l d,(h.all l d).2⟩,h.pair,v⟩,t⟩
 .subst y;obtain⟨c,r,rfl⟩:∃c r,b=c::r:=by cases b with
   | nil=>simp at p
   | cons c r=>exact⟨c,r,rfl⟩
  obtain⟨c0,g,rfl⟩:∃c r,a=c::r:=by cases a with
   | nil=>simp at o
   | cons c r=>exact⟨c,r,rfl⟩
  have i:AA n lo (c0::g++c::r)=[⟨lo,none,c0::g⟩,⟨c.key,none,c::r⟩]:=by unfold AA;rw[e];rfl
  rw[i];let⟨C,D,u⟩:=pA h.pair;have s:=h.head c0 sM;have j:∀l∈c0::g++c::r,Good n l.key l.sub/\3<=cnt n l.sub/\l.key.size<=8:=λl d=>⟨(h.all l d).1,m l d,(h.all l d).2⟩;refine⟨⟨sM,?_,?_⟩,?_,.inr ⟨_,_,rfl,rfl,rfl,rfl,o,p⟩⟩
  rotate_left 2
  .show List.flatMap _ (c0::g)++(List.flatMap _ (c::r)++[])=_;rw[aN,<-fA]
  .intro l d;simp[mC,lN,or_false]at d;rcases d with rfl|rfl
   .exact⟨⟨sU s,λl d=>j l (List.mem_append_left _ d),C,w⟩,t⟩
   .exact⟨⟨sM,λl d=>j l (List.mem_append_right _ d),D,z⟩,(j c sM).2.2⟩
  .simp[List.pairwise_cons,mC,lN,or_false,forall_eq,List.Pairwise.nil,and_true,false_implies,implies_true];refine⟨by rw[<-s];exact(u c0 sM c sM).1,λq k=>?_⟩;let⟨l,d,k⟩:=mF k;exact(u l d c sM).2 q k
def J{n:Nat}(t:Tn (n+1)):List (Lnk (Tn n)):=t
def prs(t:Tn 0):List KV:=t
def GT:∀(n:Nat)(lo)(t),Good n lo t->1<=cnt n t->∃q,q∈cont n t
 | 0,lo,ps,h,h1=>by
  have:1<=(prs ps).length:=h1;let⟨a,b⟩:=List.exists_mem_of_length_pos (l:=prs ps) oM;exact⟨a,b⟩
 | n+1,lo,ls,h,h1=>by
  have:1<=(J ls).length:=h1;let⟨a,b⟩:=List.exists_mem_of_length_pos (l:=J ls) oM;have c:=h.all a b;let⟨q,d⟩:=GT n a.key a.sub c.1 oM;exact⟨q,List.mem_flatMap.2 ⟨a,b,d⟩⟩
def Gy{n:Nat}{lo k}{ls}(h:Row0 n lo ls)(v:ls≠[])(u:kl k lo=false):
  ∃A m B,ls=A++m::B/\A.length=Af ls k/\kl k m.key=false/\(∀a∈A,∀q∈cont n a.sub,kl q.k k=true)/\(∀b∈B,kl k b.key=true):=by
 have D:1<=ls.findIdx (λl=>kl k l.key):=by
  cases ls with
  | nil=>exact absurd rfl v
  | cons a r=>
   have e:=h.head a sM;rw[List.findIdx_cons,e,u];simp
 have C:ls.findIdx (λl=>kl k l.key)<=ls.length:=fL;have z:Af ls k<ls.length:=by unfold Af;omega
 have g:kl k (ls[Af ls k]).key=false:=by
  have:=List.not_of_lt_findIdx (p:=λl:Lnk (Tn n)=>kl k l.key) (xs:=ls) (i:=Af ls k) (by unfold Af;omega);simpa using this
 have s:ls=ls.take (Af ls k)++ls[Af ls k]::ls.drop (Af ls k+1):=by
  rw[List.getElem_cons_drop];simp
 have j:=h.pair;rw[s]at j;let⟨E,F,y⟩:=pA j;refine⟨ls.take (Af ls k),ls[Af ls k],ls.drop (Af ls k+1),s,sO,g,?_,?_⟩
 .intro a t q x;exact CX ((y a t _ (List.mem_cons_self ..)).2 q x) g
 .intro b c;have e:Af ls k+1=ls.findIdx (λl=>kl k l.key):=by unfold Af;omega
  rw[e]at c;by_cases d:ls.findIdx (λl=>kl k l.key)<ls.length
  .have f:=List.findIdx_getElem (w:=d);rw[dG d]at c;rcases List.mem_cons.1 c with rfl|c
   .exact f
   .have o:=h.pair;rw[<-tD (ls.findIdx (λl=>kl k l.key)) ls,dG d]at o;have:=(pC (pA o).2.1).1 b c;exact Dp f this.1
  .rw[dL oM]at c;simp at c
def Row0.keys{n:Nat}{lo}{W}(h:Row0 n lo W):∀w∈W,kl w.key lo=false:=by
 intro w b
 cases W with
 | nil=>simp at b
 | cons a r=>
  have e:=h.head a sM;rcases List.mem_cons.1 b with rfl|b
  .rw[e];exact Cx _
  .have:=((pC h.pair).1 w b).1;rw[e]at this;exact Dt this
def Ii{n:Nat}{lo}{A B W}{m}(h:Row0 n lo (A++m::B))(d:Row0 n m.key W)(u:W≠[])(t:∀w∈W,1<=cnt n w.sub)
  (j:∀w∈W,∀q∈cont n w.sub,∀b∈B,kl q.k b.key=true):Row0 n lo (A++W++B):=by
 let⟨v,y,s⟩:=pA h.pair;let⟨C,z⟩:=pC y;refine⟨?_,?_,?_⟩
 .intro l c
  cases A with
  | nil=>
   have e:=h.head m sM
   cases W with
   | nil=>exact absurd rfl u
   | cons w W=>
    simp at c;rw[<-c,d.head w sM,e]
  | cons a A=>
   simp at c;rw[<-c];exact h.head a sM
 .intro l c;simp only[List.mem_append]at c;rcases c with (c|c)|c
  .exact h.all l (by simp[c])
  .exact d.all l c
  .exact h.all l (by simp[c])
 .rw[aA];refine List.pairwise_append.2 ⟨v,List.pairwise_append.2 ⟨d.pair,z,?_⟩,?_⟩
  .intro w g b o;let⟨q,f⟩:=GT n w.key w.sub (d.all w g).1 (t w g);exact⟨FS (((Cq n w.key w.sub (d.all w g).1).2 q f).2) (j w g q f b o),λq f=>j w g q f b o⟩
  .intro a k x i;rcases mA i with i|i
   .have r:=s a k m sM;have p:=d.keys x i;exact⟨CX r.1 p,λq f=>CX (r.2 q f) p⟩
   .exact s a k x (by simp[i])
def OP(p){l}(a:Sorted l):qM2 ζ (ins p l)<=qM2 ζ l+ζ p:=by
 rw[FQ a,AL,AL,Au,AJ];have b:=Da ζ l (Ah l p.k);have c:qM2 ζ (l.drop (if Bo l (Ah l p.k) p.k then Ah l p.k+1 else Ah l p.k))<=qM2 ζ (l.drop (Ah l p.k)):=by
  split
  .have:=Da ζ (l.drop (Ah l p.k)) 1;rw[List.drop_drop]at this;omega
  .exact lR
 omega
def WO(p){l}(a:Sorted l):l.length<=(ins p l).length:=by
 rw[FQ a];have:=Gu l p.k;simp[lA,lK,lD,lC,List.length_nil];split<;>omega
def Made(n:Nat)(l:Lnk (Tn n))(d:Nat)(W:List (Lnk (Tn n))):Prop:=
 (∃a,W=[a]/\a.key=l.key/\a.ref=none/\cnt n l.sub<=cnt n a.sub+d)\/∃a b,W=[a,b]/\a.key=l.key/\a.ref=none/\b.ref=none/\3<=cnt n a.sub/\3<=cnt n b.sub
def Made.ne{n:Nat}{l}{d:Nat}{W}(h:Made n l d W):W≠[]:=by
 rcases h with⟨a,rfl,_⟩|⟨a,b,rfl,_⟩<;>simp
def Made.qM2{n:Nat}{l}{d:Nat}{W}(h:Made n l d W)(c:∀w∈W,w.key.size<=8):qM2 ι W<=ι l+19:=by
 rcases h with⟨a,rfl,e,_⟩|⟨a,b,rfl,e,_⟩
 .simp[YtdohpenfkdckiaaGreatDoor.qM2,ι,e]
 .have:=c b sM;simp[YtdohpenfkdckiaaGreatDoor.qM2,ι,e];omega
def Gz:∀(n:Nat)(l)(p),Good n l.key l.sub->AD p->kl p.k l.key=false->l.key.size<=8->1<=cnt n l.sub->
  Row0 n l.key (AN n l p)/\(AN n l p).flatMap (λl=>cont n l.sub)=ins p (cont n l.sub)/\Made n l 0 (AN n l p)
 | 0,l,p,h,hp,hk,hz,C=>by
  have y:=h.sorted;have e:BL p l.sub=ins p l.sub:=(FQ y p).symm;have r:=OP p y;have ab:ζ p<=21:=by let⟨C,D,h3⟩:=hp;unfold ζ;omega
  let⟨r1,r2,r3⟩:=FW (lo:=l.key) (ps:=ins p l.sub) (y.ins p) (λq c=>by
   rcases Kg c with rfl|c
   .exact⟨hp,hk⟩
   .exact h.all q c) (oW h.fits) hz
  show Row0 0 l.key (AI l.key (BL p l.sub))/\List.flatMap _ (AI l.key (BL p l.sub))=_/\Made 0 l 0 (AI l.key (BL p l.sub));rw[e];refine⟨r1,r2,?_⟩;rcases r3 with⟨a,d,j,o,i⟩|⟨a,b,d,j,o,i,t,u⟩
  .refine .inl ⟨a,d,j,o,?_⟩;rw[i];exact WO p y
  .exact .inr ⟨a,b,d,j,o,i,t,u⟩
 | n+1,l,p,h,hp,hk,hz,C=>by
  have G:Row0 n l.key l.sub:=⟨h.head,λm r=>⟨(h.all m r).1,(h.all m r).2.2⟩,h.pair⟩;let⟨A,m,B,e,E,S,V,F⟩:=Gy (k:=p.k) G (by intro e;have D:1<=List.length (α:=Lnk (Tn n)) l.sub:=C;rw[e]at D;simp at D) hk;have v:=λx g=>h.all x (by rw[e];exact g);have r:=v m sM;let⟨K,L,z⟩:=Gz n m p r.1 hp S r.2.2 oM;have I:∀w∈AN n m p,3<=cnt n w.sub:=by
   rcases z with⟨a,d,_,_,i⟩|⟨a,b,d,_,_,_,t,u⟩
   .rw[d];intro w f;rw[mS f];omega
   .rw[d];intro w f;simp only[mC,lN,or_false]at f;rcases f with rfl|rfl<;>assumption
  have H:Row0 n l.key (A++m::B):=by rw[<-e];exact G
  have W:=λw f q c=>by
   have:q∈(AN n m p).flatMap (λl=>cont n l.sub):=List.mem_flatMap.2 ⟨w,f,c⟩;rw[L]at this;exact Kg this
  have X:=Ii H K z.ne (λw f=>by have:=I w f;omega) (λw f q c b s=>by
   rcases W w f q c with rfl|c
   .exact F b s
   .exact ((pC (pA H.pair).2.1).1 b s).2 q c)
  have aa:=z.qM2 (λw f=>(K.all w f).2);have Q:qM2 ι (A++m::B)<=126:=by have:=h.fits;rw[e]at this;exact this
  have T:qM2 ι (A++AN n m p++B)<=210:=by
   rw[AL,AL];rw[AL,Au]at Q;omega
  have R:(J l.sub)[Af (J l.sub) p.k]?=some m:=by rw[show Af (J l.sub) p.k=A.length from E.symm,show J l.sub=A++m::B from e];simp
  have Z:(J l.sub).take (Af (J l.sub) p.k)=A:=by rw[show Af (J l.sub) p.k=A.length from E.symm,show J l.sub=A++m::B from e];simp
  have P:(J l.sub).drop (Af (J l.sub) p.k+1)=B:=by
   rw[show Af (J l.sub) p.k=A.length from E.symm,show J l.sub=(A++[m])++B by rw[show J l.sub=A++m::B from e];simp];exact List.drop_left' sM
  have f:AN (n+1) l p=AA n l.key (A++AN n m p++B):=by
   show(match (J l.sub)[Af (J l.sub) p.k]? with
    | some m=>AA n l.key ((J l.sub).take (Af (J l.sub) p.k)++AN n m p++(J l.sub).drop (Af (J l.sub) p.k+1))
    | none=>[])=_
   rw[R,Z,P]
  rw[f];let⟨M,N,O⟩:=Jd X (λx g=>by
   simp only[List.mem_append]at g;rcases g with (g|g)|g
   .exact (v x (by simp[g])).2.1
   .exact I x g
   .exact (v x (by simp[g])).2.1) T hz
  refine⟨M,?_,?_⟩
  .rw[N];show _=ins p (List.flatMap (λl:Lnk (Tn n)=>cont n l.sub) l.sub);rw[e];simp only[fA,L,fC];rw[<-aA,WP (λq c=>by let⟨a,ha,c⟩:=mF c;exact V a ha q c) (λq c=>by
    let⟨b,s,c⟩:=mF c;exact CX (F b s) ((Cq n b.key b.sub (v b (by simp[s])).1).2 q c).2)]
  .rcases O with⟨a,d,j,o,i⟩|⟨a,b,d,j,o,i,t,u⟩
   .refine .inl ⟨a,d,j,o,?_⟩;rw[i];show List.length (α:=Lnk (Tn n)) l.sub<=List.length (α:=Lnk (Tn n)) (A++AN n m p++B);rw[e];have:1<=(AN n m p).length:=by
     rcases z with⟨a,d,_⟩|⟨a,b,d,_⟩<;>rw[d]<;>simp
    simp;omega
   .exact .inr ⟨a,b,d,j,o,i,t,u⟩
def Xg:∀(n:Nat)(a b),Good n a.key a.sub->Good n b.key b.sub->DG n a b->(cnt n a.sub<=2\/cnt n b.sub<=2)->a.key.size<=8->3<=cnt n a.sub+cnt n b.sub->1<=cnt n a.sub->
  Row0 n a.key (Bf n a.key a.sub b.sub)/\(Bf n a.key a.sub b.sub).flatMap (λl=>cont n l.sub)=cont n a.sub++cont n b.sub/\(∀w∈Bf n a.key a.sub b.sub,3<=cnt n w.sub)/\Bf n a.key a.sub b.sub≠[]/\qM2 ι (Bf n a.key a.sub b.sub)<=ι a+19
 | 0,a,b,ha,hb,hab,hc,hz,k,z=>by
  have O:Sorted (prs a.sub++prs b.sub):=Sorted.append.2 ⟨ha.sorted,hb.sorted,λx i y C=>CX (hab.2 x i) (hb.all y C).2⟩;have F:∀p∈prs a.sub++prs b.sub,AD p/\kl p.k a.key=false:=λp f=>by
   rcases mA f with f|f
   .exact ha.all p f
   .exact⟨(hb.all p f).1,NU (Dt hab.1) (hb.all p f).2⟩
  have u:∀p∈prs a.sub++prs b.sub,ζ p<=21:=λp f=>by let⟨⟨z,h2,k⟩,_⟩:=F p f;unfold ζ;omega
  have o:qM2 ζ (prs a.sub++prs b.sub)<=210:=by
   rw[AL];have z:=CZ ζ 21 (prs a.sub) λp f=>u p (List.mem_append_left _ f);have:=CZ ζ 21 (prs b.sub) λp f=>u p (List.mem_append_right _ f);have k:qM2 ζ (prs a.sub)<=126:=ha.fits;have:qM2 ζ (prs b.sub)<=126:=hb.fits;have:(prs a.sub).length<=2\/(prs b.sub).length<=2:=hc;omega
  let⟨v,D,j⟩:=FW O F o hz;refine⟨v,D,?_,?_,?_⟩
  .intro w g;rw[show Bf 0 a.key a.sub b.sub=AI a.key (prs a.sub++prs b.sub) from rfl]at g;rcases j with⟨x,c,h,B,s⟩|⟨x,y,c,h,B,s,I,K⟩
   .rw[c]at g;rw[mS g,s];show 3<=(prs a.sub++prs b.sub).length;rw[lA];exact k
   .rw[c]at g;simp[mC,lN,or_false]at g;rcases g with rfl|rfl<;>assumption
  .show AI a.key (prs a.sub++prs b.sub)≠[];rcases j with⟨x,c,_⟩|⟨x,y,c,_⟩<;>rw[c]<;>simp
  .show qM2 ι (AI a.key (prs a.sub++prs b.sub))<=_;rcases j with⟨x,c,h,_⟩|⟨x,y,c,h,_⟩
   .rw[c];simp[qM2,ι,h]
   .have:=(v.all y (by rw[c];simp)).2;rw[c];simp[qM2,ι,h];omega
 | n+1,a,b,ha,hb,hab,hc,hz,k,z=>by
  have t:∀l∈J a.sub++J b.sub,Good n l.key l.sub/\3<=cnt n l.sub/\l.key.size<=8:=λl d=>by
   rcases mA d with d|d
   .exact ha.all l d
   .exact hb.all l d
  have M:=λl d=>(Row0.keys (W:=J b.sub) ⟨hb.head,λm o=>⟨(hb.all m o).1,(hb.all m o).2.2⟩,hb.pair⟩) l d;have L:J a.sub≠[]:=λe=>by
   have E:1<=(J a.sub).length:=z;rw[e]at E;simp at E
  have N:Row0 n a.key (J a.sub++J b.sub):=by
   refine⟨?_,λl d=>⟨(t l d).1,(t l d).2.2⟩,List.pairwise_append.2 ⟨ha.pair,hb.pair,?_⟩⟩
   .intro l d;rw[List.head?_append]at d
    cases i:J a.sub with
    | nil=>exact absurd i L
    | cons x r=>
     rw[i]at d;exact ha.head l (by show l∈(J a.sub).head?;rw[i];simpa using d)
   .intro x i y C;have H:=t x (List.mem_append_left _ i);have G:=λq A=>CX (hab.2 q (List.mem_flatMap.2 ⟨x,i,A⟩)) (M y C);let⟨q,A⟩:=GT n x.key x.sub H.1 oM;exact⟨FS ((Cq n x.key x.sub H.1).2 q A).2 (G q A),G⟩
  have u:∀l∈J a.sub++J b.sub,ι l<=21:=λl d=>by have:=(t l d).2.2;unfold ι;omega
  have o:qM2 ι (J a.sub++J b.sub)<=210:=by
   rw[AL];have:=CZ ι 21 (J a.sub) λp f=>u p (List.mem_append_left _ f);have:=CZ ι 21 (J b.sub) λp f=>u p (List.mem_append_right _ f);have k:qM2 ι (J a.sub)<=126:=ha.fits;have:qM2 ι (J b.sub)<=126:=hb.fits;have:(J a.sub).length<=2\/(J b.sub).length<=2:=hc;omega
  let⟨v,D,j⟩:=Jd N (λl d=>(t l d).2.1) o hz;refine⟨v,?_,?_,?_,?_⟩
  .apply Eq.trans D;rw[fA];rfl
  .intro w g;rw[show Bf (n+1) a.key a.sub b.sub=AA n a.key (J a.sub++J b.sub) from rfl]at g;rcases j with⟨x,c,h,B,s⟩|⟨x,y,c,h,B,s,I,K⟩
   .rw[c]at g;rw[mS g,s];show 3<=(J a.sub++J b.sub).length;rw[lA];exact k
   .rw[c]at g;simp[mC,lN,or_false]at g;rcases g with rfl|rfl<;>assumption
  .show AA n a.key (J a.sub++J b.sub)≠[];rcases j with⟨x,c,_⟩|⟨x,y,c,_⟩<;>rw[c]<;>simp
  .show qM2 ι (AA n a.key (J a.sub++J b.sub))<=_;rcases j with⟨x,c,h,_⟩|⟨x,y,c,h,_⟩
   .rw[c];simp[qM2,ι,h]
   .have:=(v.all y (by rw[c];simp)).2;rw[c];simp[qM2,ι,h];omega
def Row0.drop_one{n:Nat}{lo}{P Q}{a b}(h:Row0 n lo (P++a::b::Q)):Row0 n lo (P++a::Q):=
 ⟨λl c=>h.head l (by cases P<;>simpa using c),λl c=>h.all l (by
  rcases mA c with c|c
  .simp[c]
  .rcases List.mem_cons.1 c with rfl|c
   .simp
   .simp[c]),h.pair.sublist (List.Sublist.append_left (List.Sublist.cons_cons _ (List.sublist_cons_self _ _)) _)⟩
def OS{n:Nat}{lo}{P Q}{a b}(h:Row0 n lo (P++a::b::Q))(p:∀x∈P,3<=cnt n x.sub)(r:∀x∈Q,3<=cnt n x.sub)(s:cnt n a.sub<=2\/cnt n b.sub<=2)(o:3<=cnt n a.sub+cnt n b.sub)(m:1<=cnt n a.sub):
  Row0 n lo (P++Bf n a.key a.sub b.sub++Q)/\(P++Bf n a.key a.sub b.sub++Q).flatMap (λl=>cont n l.sub)=(P++a::b::Q).flatMap (λl=>cont n l.sub)/\(∀x∈P++Bf n a.key a.sub b.sub++Q,3<=cnt n x.sub)/\
  (P++a::b::Q).length<=(P++Bf n a.key a.sub b.sub++Q).length+1/\qM2 ι (P++Bf n a.key a.sub b.sub++Q)<=qM2 ι (P++a::b::Q)+19:=by
 have e:=pC (pA h.pair).2.1;have g:=h.all a sM;let⟨t,i,j,k,u⟩:=Xg n a b g.1 (h.all b sM).1 (e.1 b sM) s g.2 o m;refine⟨Ii h.drop_one t k (λw f=>by have:=j w f;omega) ?_,?_,?_,?_,?_⟩
 .intro w f q d x c;have:q∈(Bf n a.key a.sub b.sub).flatMap (λl=>cont n l.sub):=List.mem_flatMap.2 ⟨w,f,d⟩;rw[i]at this;rcases mA this with d|d
  .exact (e.1 x (by simp[c])).2 q d
  .exact ((pC e.2).1 x c).2 q d
 .simp only[fA,fC,i,aA]
 .intro x c;simp only[List.mem_append]at c;rcases c with (c|c)|c
  .exact p x c
  .exact j x c
  .exact r x c
 .have:1<=(Bf n a.key a.sub b.sub).length:=List.length_pos_iff.2 k;simp;omega
 .simp only[AL,Au];omega
def OT{n:Nat}{lo}{A W B}{m}(h:Row0 n lo (A++W++B))(f:∀x∈A,3<=cnt n x.sub)(g:∀x∈B,3<=cnt n x.sub)(o:Made n m 1 W)(E:3<=cnt n m.sub)(v:2<=(A++W++B).length):
  Row0 n lo (Av n (A++W++B) A.length)/\(Av n (A++W++B) A.length).flatMap (λl=>cont n l.sub)=(A++W++B).flatMap (λl=>cont n l.sub)/\(∀x∈Av n (A++W++B) A.length,3<=cnt n x.sub)/\
  (A++W++B).length<=(Av n (A++W++B) A.length).length+1/\qM2 ι (Av n (A++W++B) A.length)<=qM2 ι (A++W++B)+19:=by
 have k:(∀x∈W,3<=cnt n x.sub)->Row0 n lo (Av n (A++W++B) A.length)/\(Av n (A++W++B) A.length).flatMap (λl=>cont n l.sub)=(A++W++B).flatMap (λl=>cont n l.sub)/\(∀x∈Av n (A++W++B) A.length,3<=cnt n x.sub)/\
  (A++W++B).length<=(Av n (A++W++B) A.length).length+1/\qM2 ι (Av n (A++W++B) A.length)<=qM2 ι (A++W++B)+19:=by
  intro d;have e:Av n (A++W++B) A.length=A++W++B:=by
   obtain⟨a,r,rfl⟩:∃a r,W=a::r:=by
    rcases o with⟨a,rfl,_⟩|⟨a,b,rfl,_⟩
    .exact⟨a,[],rfl⟩
    .exact⟨a,[b],rfl⟩
   have:(A++a::r++B)[A.length]?=some a:=sM
   unfold Av;rw[this];simp[d a sM]
  rw[e];refine⟨h,rfl,?_,oM,oM⟩;intro x c;simp only[List.mem_append]at c;rcases c with (c|c)|c
  .exact f x c
  .exact d x c
  .exact g x c
 rcases o with⟨a,rfl,q,s,t⟩|⟨a,b,rfl,q,s,t,z,C⟩
 .by_cases d:3<=cnt n a.sub
  .exact k (λx c=>by rw[mS c];exact d)
  .clear k;have i:(A++[a]++B)[A.length]?=some a:=sM
   cases B with
   | cons b Q=>
    have j:min A.length ((A++[a]++b::Q).length-2)=A.length:=sO
    have u:(A++[a]++b::Q)[A.length+1]?=some b:=by
     rw[show A++[a]++b::Q=(A++[a])++b::Q from rfl,List.getElem?_append_right sM];simp
    have e:Av n (A++[a]++b::Q) A.length=A++Bf n a.key a.sub b.sub++Q:=by
     unfold Av;rw[i];simp only[d,if_false,j,i,u]
     congr 2
     .simp
     .rw[show A++[a]++b::Q=(A++[a,b])++Q by simp];exact List.drop_left' sM
    rw[e];have D:=g b sM;have:=OS (P:=A) (Q:=Q) (a:=a) (b:=b) (lo:=lo) (sU h) f (λx c=>g x (by simp[c])) (.inl oM) oM oM;simpa using this
   | nil=>
    rcases List.eq_nil_or_concat A with rfl|⟨P,p,rfl⟩
    .simp at v
    .rw[List.concat_eq_append]at *;have j:min (P++[p]).length ((P++[p]++[a]++[]).length-2)=P.length:=sM
     have w:(P++[p]++[a]++[])[P.length]?=some p:=sM
     have y:(P++[p]++[a]++[])[P.length+1]?=some a:=sM
     have e:Av n (P++[p]++[a]++[]) (P++[p]).length=P++Bf n p.key p.sub a.sub++[]:=by
      unfold Av;rw[i];simp only[d,if_false,j,w,y]
      congr 2
      .simp
      .simp
     rw[e];have F:=f p sM;have:=OS (P:=P) (Q:=[]) (a:=p) (b:=a) (lo:=lo) (sU h) (λx c=>f x (by simp[c])) sM (.inr oM) oM oM;simpa using this
 .exact k (λx c=>by
   simp only[mC,lN,or_false]at c;rcases c with rfl|rfl<;>assumption)
def Fs:∀(n:Nat)(l)(k),Good n l.key l.sub->kl k l.key=false->l.key.size<=8->(∃q∈cont n l.sub,q.k=k)->min n 1<cnt n l.sub->
  Row0 n l.key (Ax n l k)/\(Ax n l k).flatMap (λl=>cont n l.sub)=del k (cont n l.sub)/\Made n l 1 (Ax n l k)
 | 0,l,k,h,hk,hz,c,D=>by
  have G:Sorted (prs l.sub):=h.sorted;have H:=(JB G k).2 c;have e:=(MT G H).symm;have p:qM2 ζ (del k (prs l.sub))<=126:=by
   rw[<-e,AL];have D:=Da ζ (prs l.sub) (Ah (prs l.sub) k);have s:=Da ζ ((prs l.sub).drop (Ah (prs l.sub) k)) 1;have E:qM2 ζ (prs l.sub)<=126:=h.fits;rw[List.drop_drop]at s;omega
  let⟨r1,r2,r3⟩:=FW (lo:=l.key) (ps:=del k (prs l.sub)) (G.del k) (λq c=>h.all q (Ht.1 c).1) oM hz;have i:Ax 0 l k=AI l.key (del k (prs l.sub)):=by rw[<-e];rfl
  rw[i];refine⟨r1,r2,?_⟩;rcases r3 with⟨a,f,i,o,j⟩|⟨a,b,f,i,o,j,u,v⟩
  .refine .inl ⟨a,f,i,o,?_⟩;rw[j];show(prs l.sub).length<=(del k (prs l.sub)).length+1;rw[<-e];simp;omega
  .exact .inr ⟨a,b,f,i,o,j,u,v⟩
 | n+1,l,k,h,hk,hz,c,D=>by
  have s:1<(J l.sub).length:=by have s:min (n+1) 1<(J l.sub).length:=D;omega
  have L:Row0 n l.key (J l.sub):=⟨h.head,λm p=>⟨(h.all m p).1,(h.all m p).2.2⟩,h.pair⟩;let⟨A,m,B,e,y,aa,I,ab⟩:=Gy (k:=k) L (by intro e;rw[e]at s;simp at s) hk;have z:=λx d=>h.all x (by show x∈J l.sub;rw[e];exact d);have p:=z m sM;have K:=λb r q c=>CX (ab b r) ((Cq n b.key b.sub (z b (by simp[r])).1).2 q c).2;have ac:∃q∈cont n m.sub,q.k=k:=by
   let⟨q,c,C⟩:=c;have c:q∈(J l.sub).flatMap (λl=>cont n l.sub):=c;rw[e]at c;let⟨x,d,F⟩:=mF c;rcases mA d with d|d
   .exact absurd C (BM (I x d q F))
   .rcases List.mem_cons.1 d with rfl|d
    .exact⟨q,F,C⟩
    .exact absurd C.symm (BM (K x d q F))
  let⟨N,O,t⟩:=Fs n m k p.1 aa p.2.2 ac oM;have ae:∀w∈Ax n m k,1<=cnt n w.sub:=by
   rcases t with⟨a,f,_,_,j⟩|⟨a,b,f,_,_,_,u,v⟩
   .rw[f];intro w g;rw[mS g];omega
   .rw[f];intro w g;simp only[mC,lN,or_false]at g;rcases g with rfl|rfl<;>omega
  have M:Row0 n l.key (A++m::B):=by rw[<-e];exact L
  have H:=Ii M N t.ne ae (λw g q c b r=>by
   have:q∈(Ax n m k).flatMap (λl=>cont n l.sub):=List.mem_flatMap.2 ⟨w,g,c⟩;rw[O]at this;exact((pC (pA M.pair).2.1).1 b r).2 q (Ht.1 this).1)
  have ah:=t.qM2 (λw g=>(N.all w g).2);have X:qM2 ι (A++m::B)<=126:=by have E:qM2 ι (J l.sub)<=126:=h.fits;rw[e]at E;exact E
  have ai:qM2 ι (A++Ax n m k++B)<=145:=by
   rw[AL,AL];rw[AL,Au]at X;omega
  have af:1<=(Ax n m k).length:=List.length_pos_iff.2 t.ne;have ag:(J l.sub).length<=(A++Ax n m k++B).length:=by rw[e];simp;omega
  let⟨S,T,V,d4,d5⟩:=OT (m:=m) H (λx d=>(z x (by simp[d])).2.1) (λx d=>(z x (by simp[d])).2.1) t p.2.1 oM;have g:Ax (n+1) l k=AA n l.key (Av n (A++Ax n m k++B) A.length):=by
   have Z:(J l.sub)[Af (J l.sub) k]?=some m:=by rw[<-y,e];simp
   have ad:(J l.sub).take (Af (J l.sub) k)=A:=by rw[<-y,e];simp
   have W:(J l.sub).drop (Af (J l.sub) k+1)=B:=by
    rw[<-y,e,show A++m::B=(A++[m])++B by simp];exact List.drop_left' sM
   show(match (J l.sub)[Af (J l.sub) k]? with
    | some m=>AA n l.key (Av n ((J l.sub).take (Af (J l.sub) k)++Ax n m k++(J l.sub).drop (Af (J l.sub) k+1)) (Af (J l.sub) k))
    | none=>[])=_
   rw[Z,ad,W,y]
  rw[g];let⟨P,Q,R⟩:=Jd S V oM hz;refine⟨P,?_,?_⟩
  .rw[Q,T];show _=del k ((J l.sub).flatMap (λl=>cont n l.sub));rw[e];simp only[fA,O,fC];rw[<-aA,UK (λq c=>by let⟨a,ha,c⟩:=mF c;exact I a ha q c) (λq c=>by
    let⟨b,r,c⟩:=mF c;exact K b r q c)]
  .rcases R with⟨a,f,i,o,j⟩|⟨a,b,f,i,o,j,u,v⟩
   .refine .inl ⟨a,f,i,o,?_⟩;rw[j];show(J l.sub).length<=(Av n (A++Ax n m k++B) A.length).length+1;omega
   .exact .inr ⟨a,b,f,i,o,j,u,v⟩
def RGood:Root→Prop
 | .none=>True
 | .at n l=>l.key=⟨#[]⟩∧Good n l.key l.sub∧min n 1<cnt n l.sub
def QS{p:Prop}(_h:p:=by
 have e:AA n ⟨#[]⟩ [a,b]=[⟨⟨#[]⟩,none,[a,b]⟩]:=by
  unfold AA Aq;rw[if_pos h2];rfl
 have e':AR n [a,b]=.at (n+1) ⟨⟨#[]⟩,none,[a,b]⟩:=by
  show(match AA n ⟨#[]⟩ [a,b] with | []=>Root.none | r::_=>Di (n+1) r)=_;rw[e];rfl
 rw[e'];exact Tz.out):p:=_h
def Lf{n:Nat}{l}{d:Nat}{W}(i:l.key=⟨#[]⟩)(f:Row0 n l.key W)(k:Made n l d W)(hd:min n 1<cnt n l.sub)(t:d<=1):
  RGood (AR n W)/\(AR n W).cont=W.flatMap (λl=>cont n l.sub):=by
 rcases k with⟨a,rfl,e1,e2,e3⟩|⟨a,b,rfl,e1,e2,e3,o,q⟩
 .have g:=f.all a sM;have e:AR n [a]=Di n a:=rfl;rw[e]
  cases n with
  | zero=>
   have hf:[a].flatMap (λl=>cont 0 l.sub)=prs a.sub:=aN _;rw[hf];show RGood (match prs a.sub with | []=>.none | _::_=>.at 0 a)/\Root.cont (match prs a.sub with | []=>.none | _::_=>.at 0 a)=_
   cases hp:prs a.sub with
   | nil=>exact⟨trivial,rfl⟩
   | cons x r=>
    refine⟨⟨by rw[e1,i],g.1,?_⟩,hp⟩;show 0<(prs a.sub).length;rw[hp];simp
  | succ n=>
   have hf:[a].flatMap (λl=>cont (n+1) l.sub)=(J a.sub).flatMap λl=>cont n l.sub:=aN _;rw[hf];have hc:(J l.sub).length<=(J a.sub).length+d:=e3;have s:1<(J l.sub).length:=by have h2:min (n+1) 1<(J l.sub).length:=hd;omega
   show RGood (match J a.sub with | []=>.none | [m]=>.at n m | _::_::_=>.at (n+1) a)/\Root.cont (match J a.sub with | []=>.none | [m]=>.at n m | _::_::_=>.at (n+1) a)=_
   cases hp:J a.sub with
   | nil=>rw[hp]at hc;simp at hc;omega
   | cons x r=>
    cases r with
    | nil=>
     have j:=g.1.all x (by show x∈J a.sub;rw[hp];simp);have c:=g.1.head x (by show x∈(J a.sub).head?;rw[hp];simp);refine⟨⟨by rw[c,e1,i],j.1,oW j.2.1⟩,(aN _).symm⟩
    | cons y r=>
     refine⟨⟨by rw[e1,i],g.1,?_⟩,?_⟩
     .show min (n+1) 1<(J a.sub).length;rw[hp];simp
     .show (J a.sub).flatMap (λl=>cont n l.sub)=_;rw[hp]
 .have hb:=f.all b sM;have h2:qM2 ι [a,b]<=126:=by
   have:=(f.all a sM).2;simp[qM2,ι];omega
  have Tz:Hid (∀{p:Prop},(_h:p:=by
   refine⟨⟨rfl,⟨?_,?_,f.pair,h2⟩,?_⟩,rfl⟩
   .intro x c;have:x=a:=by simpa using c.symm
    rw[this,e1,i]
   .intro x c;refine⟨(f.all x c).1,?_,(f.all x c).2⟩;have c:x∈[a,b]:=c;simp[mC,lN,or_false]at c;rcases c with rfl|rfl<;>assumption
   .show min (n+1) 1<2;omega)->p):=λh=>h;exact QS
def KD{r}{p}(h:RGood r)(i:AD p):RGood (r.put p)/\(r.put p).cont=ins p r.cont:=by
 cases r with
 | none=>
  have t:Sorted [p]:=by simp[Sorted]
  have u:(⟨#[]⟩:ByteArray).size<=8:=dC
  let⟨v,w,x⟩:=FW (lo:=⟨#[]⟩) (ps:=[p]) t (λq hq=>by rw[mS hq];exact⟨i,CW _⟩) (by let⟨c,j,k⟩:=i;simp[qM2,ζ];omega) u;have s:Made 0 ⟨⟨#[]⟩,none,[p]⟩ 0 (AI ⟨#[]⟩ [p]):=by
   rcases x with⟨a,d,e,f,g⟩|⟨a,b,d,e,f,g,m,o⟩
   .exact .inl ⟨a,d,e,f,by rw[g];exact lR⟩
   .exact .inr ⟨a,b,d,e,f,g,m,o⟩
  have:=Lf (n:=0) (l:=(⟨⟨#[]⟩,none,[p]⟩:Lnk (List KV))) rfl v s (by show 0<1;omega) oM;rw[w]at this;refine⟨this.1,this.2.trans ?_⟩;simp[ins,Root.cont]
 | «at» n l=>
  let⟨c,j,k⟩:=h;let⟨y,z,A⟩:=Gz n l p j i (by rw[c];exact CW _) (by rw[c];decide) oM;have:=Lf c y A k oM;rw[z]at this;exact this
def MS{r}{k}(h:RGood r):RGood (r.del k)/\(r.del k).cont=del k r.cont:=by
 cases r with
 | none=>exact⟨trivial,rfl⟩
 | «at» n l=>
  let⟨a,d,c⟩:=h;unfold Root.del;by_cases b:(cont n l.sub).any (λq=>decide (q.k=k))=true
  .simp[b,if_true];have e:∃q∈cont n l.sub,q.k=k:=by simpa using b
   let⟨f,g,i⟩:=Fs n l k d (by rw[a];exact CW _) (by rw[a];decide) e c;have:=Lf a f i c oM;rw[g]at this;exact this
  .simp[b];refine⟨⟨a,d,c⟩,?_⟩;have:∀q∈cont n l.sub,q.k≠k:=by simpa using b
   exact(FG this).symm
def Am:(n:Nat)→Tn n→Nat
 | 0,_=>1
 | n+1,ls=>1+qM2 (fun l:Lnk (Tn n)=>Am n l.sub) ls
def news:(n:Nat)→Lnk (Tn n)→Nat
 | 0,l=>if l.ref.isSome then 0 else 1
 | n+1,l=>if l.ref.isSome then 0 else 1+qM2 (fun m:Lnk (Tn n)=>news n m) (J l.sub)
def Root.news:Root→Nat
 | .none=>0
 | .at n l=>YtdohpenfkdckiaaGreatDoor.news n l
def Kf{α:Type}{f g:α->Nat}:∀(l:List α),(∀x∈l,f x<=g x)->qM2 f l<=qM2 g l
 | [],_=>lR
 | x::l,h=>by
  rw[Au,Au];have:=h x sM;have:=Kf l λy a=>h y (by simp[a]);omega
def Kl:∀(n:Nat)(l),news n l<=Am n l.sub
 | 0,l=>by unfold news Am;split<;>omega
 | n+1,l=>by
  unfold news Am;split
  .omega
  .have:=Kf (f:=λm:Lnk (Tn n)=>news n m) (g:=λm=>Am n m.sub) (J l.sub) λm _=>Kl n m;show 1+_<=1+qM2 _ (J l.sub);omega
def Gj:∀(n:Nat)(lo)(t),Good n lo t->2*Am n t+cnt n t<=(cont n t).length+2
 | 0,lo,ps,h=>by show 2*1+(prs ps).length<=(prs ps).length+2;omega
 | n+1,lo,ls,h=>by
  have key:∀(ls),(∀l∈ls,Good n l.key l.sub/\3<=cnt n l.sub)->2*qM2 (λl:Lnk (Tn n)=>Am n l.sub) ls+ls.length<=(ls.flatMap λl=>cont n l.sub).length:=by
   intro ls
   induction ls with
   | nil=>intro _;simp[qM2]
   | cons a ls ih=>
    intro c;have:=ih λl b=>c l (by simp[b]);have:=Gj n a.key a.sub (c a sM).1;have:=(c a sM).2;rw[Au,fC,lA,lC];omega
  have:=key (J ls) λl b=>⟨(h.all l b).1,(h.all l b).2.1⟩;show 2*(1+qM2 _ (J ls))+(J ls).length<=((J ls).flatMap λl=>cont n l.sub).length+2;omega
def OC:∀(n:Nat)(lo)(t),Good n lo t->1<=cnt n t->n+1<=Am n t
 | 0,lo,ps,h,_=>by show 1<=1;omega
 | n+1,lo,ls,h,h1=>by
  have b:1<=(J ls).length:=h1;obtain⟨a,r,e⟩:∃a r,J ls=a::r:=by
   cases hx:J ls with
   | nil=>rw[hx]at b;simp at b
   | cons a r=>exact⟨a,r,rfl⟩
  have c:=h.all a (by show a∈J ls;rw[e];simp);have:=OC n a.key a.sub c.1 oM;show n+1+1<=1+qM2 _ (J ls);rw[e,Au];omega
def Fo{r}(h:RGood r):2*r.news<=r.cont.length+1:=by
 cases r with
 | none=>simp[Root.news]
 | «at» n l=>
  let⟨b,a,c⟩:=h;have:=Gj n l.key l.sub a;have:=Kl n l;show 2*news n l<=(cont n l.sub).length+1;omega
def KG{n:Nat}{l}(h:RGood (.at n l)):2*n<=(cont n l.sub).length:=by
 let⟨b,a,c⟩:=h;have:=Gj n l.key l.sub a;have:=OC n l.key l.sub a oM;omega
def Gp{r}(h:RGood r):Sorted r.cont/\∀q∈r.cont,AD q:=by
 cases r with
 | none=>exact⟨List.Pairwise.nil,λq a=>by cases a⟩
 | «at» n l=>
  let⟨c,b,d⟩:=h;exact⟨(Cq n l.key l.sub b).1,λq a=>((Cq n l.key l.sub b).2 q a).1⟩
def Up(f:Ϧ->Bool):Prop:=∀a b,kl a b=true->f a=true->f b=true
def DT(f:Ϧ->Bool):Prop:=∀a b,kl a b=true->f b=true->f a=true
def Ni{l:List KV}{f:Ϧ->Bool}(h:∀q∈l,f q.k=false):l.find? (λq=>f q.k)=none:=by
 rw[List.find?_eq_none];intro q a;simp[h q a]
def VH{n:Nat}{lo}{f:Ϧ->Bool}(k:Up f){ls}(h:Row0 n lo ls):
  (ls.flatMap λl=>cont n l.sub).find? (λq=>f q.k)=((ls.drop (ls.findIdx (λl=>f l.key)-1)).flatMap λl=>cont n l.sub).find? (λq=>f q.k):=by
 by_cases g:ls.findIdx (λl=>f l.key)=0
 .simp[g]
 .let⟨i,m⟩:=eX (ls.findIdx (λl=>f l.key)-1);rw[<-m];have s:ls.findIdx (λl=>f l.key)<=ls.length:=fL;have o:i<ls.length:=oM
  have c:f (ls[i]).key=false:=by
   have:=List.not_of_lt_findIdx (p:=λl:Lnk (Tn n)=>f l.key) (xs:=ls) (i:=i) oM;simpa using this
  have d:=h.pair;rw[<-tD i ls,dG o]at d;have r:=(pA d).2.2
  conv=>lhs;rw[<-tD i ls,fA,List.find?_append]
  rw[Ni λq b=>?_]
  .simp
  .let⟨a,j,b⟩:=mF b;have:=(r a j ls[i] (List.mem_cons_self ..)).2 q b;by_cases e:f q.k=true
   .rw[k _ _ this e]at c;cases c
   .simpa using e
def AX(f:ByteArray→Bool)(l:List KV):Option KV:=l.reverse.find? (fun q=>f q.k)
def Ex(f:Ϧ->Bool)(a b):AX f (a++b)=(AX f b).or (AX f a):=by simp[AX,List.find?_append]
def XF{n:Nat}{lo}{f:Ϧ->Bool}(o:DT f){ls}(h:Row0 n lo ls):
  AX f (ls.flatMap λl=>cont n l.sub)=AX f ((ls.take (ls.findIdx (λl=>!f l.key)-1+1)).flatMap λl=>cont n l.sub):=by
 let⟨i,t⟩:=eX (ls.findIdx (λl=>!f l.key)-1+1);rw[<-t];have s:∀q∈(ls.drop i).flatMap (λl=>cont n l.sub),f q.k=false:=by
  intro q d;let⟨b,c,d⟩:=mF d;have j:f b.key=false:=by
   have k:ls.findIdx (λl=>!f l.key)<ls.length:=by
    by_cases u:ls.findIdx (λl=>!f l.key)<ls.length
    .exact u
    .rw[dL oM]at c;simp at c
   have a:f (ls[ls.findIdx (λl=>!f l.key)]).key=false:=by
    have a:=List.findIdx_getElem (p:=λl:Lnk (Tn n)=>!f l.key) (xs:=ls) (w:=k);simpa using a
   have r:=h.pair;rw[<-tD (ls.findIdx (λl=>!f l.key)) ls,dG k]at r;have g:b∈ls.drop (ls.findIdx (λl=>!f l.key)):=by
    have e:i=ls.findIdx (λl=>!f l.key)+(i-ls.findIdx (λl=>!f l.key)):=oM
    rw[e,<-List.drop_drop]at c;exact mD c
   rw[dG k]at g;rcases List.mem_cons.1 g with rfl|g
   .exact a
   .by_cases e:f b.key=true
    .rw[o _ _ ((pC (pA r).2.1).1 b g).1 e]at a;cases a
    .simpa using e
  by_cases e:f q.k=true
  .by_cases m:kl b.key q.k=true
   .rw[o _ _ m e]at j;cases j
   .rw[FT (((Cq n b.key b.sub (h.all b (mD c)).1).2 q d).2) (sU m)]at e;rw[e]at j;cases j
  .simpa using e
 conv=>lhs;rw[<-tD i ls,fA,Ex]
 have:AX f ((ls.drop i).flatMap λl=>cont n l.sub)=none:=by
  unfold AX;exact Ni λq d=>s q (List.mem_reverse.1 d)
 rw[this];simp
def PU(g:Nat)(cap)(n:Nat)(P:Nat->Bool)(w)(x:n<=1000000)(p:∀i j,i<=j->j<n->P i=true->P j=true)
  (r:ϴ g)
  (l:∀W,Kp [] w W->∀i:Nat,i<n->Calls prog g (#[ϊ i]++cap) W λe W'=>e=ϱ (ϐ (P i))/\Kp [] W W'):
  Ω 213 #[ϊ n,.func (.func g) #[] cap] w λe w'=>∃i:Nat,e=ϱ (ϊ i)/\(i<=n/\(∀j,j<i->P j=false)/\(i<n->P i=true))/\Kp [] w w':=by
 go_enter func213,ntmps213;go_wp2
 go_loopw [5,6] (λs q wr=>∃(i j:Nat),i<=j/\j<=n/\s=.int .i64 i/\q=.int .i64 j/\Hid ((∀k,k<i->P k=false)/\(j<n->P j=true))/\Kp [] w wr) (λs q _=>(intOf q-intOf s).toNat)
 case atStart=>exact⟨0,n,oM,lR,rfl,rfl,⟨λk o=>by omega,λh=>by omega⟩,Kp.refl _ _⟩
 case round=>
  obtain⟨i,j,t,u,rfl,rfl,a,hK⟩:=hrel;by_cases v:i<j
  .obtain⟨h,m⟩:∃h:Nat,((i:Int)+j) / 2=h:=⟨(i+j) / 2,oM⟩;go_wp2_with fail
   try simp[m]
   refine mR (l wr hK h oM) ?_;rintro y f;have c:=hK.tr f;by_cases b:P h=true
   .rw[b];go_wp2;refine⟨⟨i,h,oM,oM,rfl,rfl,⟨a.out.1,λ_=>b⟩,c⟩,iO⟩
   .have d:P h=false:=by simpa using b
    rw[d];go_wp2;refine⟨⟨h+1,j,oM,oM,by go_num,rfl,⟨λk o=>?_,a.out.2⟩,c⟩,iO⟩;by_cases e:P k=true
    .have:=p k h oM oM e;rw[d]at this;cases this
    .simpa using e
  .go_wp2;go_ret;have e:j=i:=oM
   subst e;exact⟨j,rfl,⟨oM,a.out.1,a.out.2⟩,hK⟩
def ND{α:Type}{xs:List α}{f:α->Bool}{i:Nat}(d:i<=xs.length)(b:∀j (h:j<xs.length),j<i->f xs[j]=false)(c:∀h:i<xs.length,f xs[i]=true):i=xs.findIdx f:=by
 rcases Nat.lt_trichotomy i (xs.findIdx f) with h|h|h
 .have e:xs.findIdx f<=xs.length:=fL;have:=List.not_of_lt_findIdx (p:=f) (xs:=xs) h;rw[c oM]at this;simp at this
 .exact h
 .have a:xs.findIdx f<xs.length:=oM
  have:=List.findIdx_getElem (p:=f) (xs:=xs) (w:=a);rw[b _ a h]at this;cases this
def Apt(w:Ϣ)(S:Ϥ)(a:List Ϯ):Prop:=∀k∈S,∀c t fr,w.heap[k]?=some (ϲ c t fr)->t∉a
structure Slc(w:Ϣ)(T:Ϯ)(sz:Nat)(v:Value)(n:Nat)(cs:Ϩ):Prop where
 len:cs.length=n*sz
 val:(n=0/\∃b c,v=.slice b 0 c/\(b=none->c=0))\/∃g off cap cur fr,v=.slice (some (ϰ g off)) n cap/\1<=n/\n<=cap/\w.heap[g]?=some (ϲ cur T fr)/\∀j u,cs[j]?=some u->cur[off+j]?=some u
def Slc.qM3{w w'}{T}{sz:Nat}{v}{n:Nat}{cs:Ϩ}{S}(h:Slc w T sz v n cs)(hK:Kp S w w')(i:Apt w S [T]):Slc w' T sz v n cs:=by
 refine⟨h.len,?_⟩;rcases h.val with h|⟨g,k,cap,cur,b,c,d,e,a,f⟩
 .exact .inl h
 .exact .inr ⟨g,k,cap,cur,b,c,d,e,hK.heap a (λj=>i g j _ _ _ a sM),f⟩
def Apt.nil(w)(a:List Ϯ):Apt w [] a:=λk b=>by simp at b
def Slc.qM4{w w'}{T}{sz:Nat}{v}{n:Nat}{cs:Ϩ}(h:Slc w T sz v n cs)(hK:Kp [] w w'):Slc w' T sz v n cs:=h.qM3 hK (Apt.nil _ _)
def pcs(p:KV):List Value:=[.string p.k,.string p.v]
def Aa(ps:List KV):List Value:=ps.flatMap pcs
def DO(ps):(Aa ps).length=ps.length*2:=by
 induction ps with
 | nil=>rfl
 | cons p ps ih=>simp[Aa,pcs]at *;omega
def Ec{ps}{i:Nat}(h:i<ps.length):(Aa ps)[i*2]?=some (ϕ ps[i].k)/\(Aa ps)[i*2+1]?=some (ϕ ps[i].v):=by
 induction ps generalizing i with
 | nil=>simp at h
 | cons p ps ih=>
  cases i with
  | zero=>simp[Aa,pcs]
  | succ i=>
   have:=ih (i:=i) (sU h);have a:(Aa (p::ps))[(i+1)*2]?=(Aa ps)[i*2]?:=by
    rw[show Aa (p::ps)=ϕ p.k::.string p.v::Aa ps from rfl,show(i+1)*2=i*2+1+1 by omega];simp
   have b:(Aa (p::ps))[(i+1)*2+1]?=(Aa ps)[i*2+1]?:=by
    rw[show Aa (p::ps)=ϕ p.k::.string p.v::Aa ps from rfl,show(i+1)*2+1=i*2+1+1+1 by omega];simp
   rw[a,b];simpa using this
def Slc.pair{w}{v}{ps}(h:Slc w 185 2 v ps.length (Aa ps))(m:1<=ps.length):
  ∃g a cap cur b,v=.slice (some (ϰ g a)) ps.length cap/\ps.length<=cap/\w.heap[g]?=some (ϲ cur 185 b)/\∀i (h:i<ps.length),cur[a+i*2]?=some (ϕ ps[i].k)/\cur[a+i*2+1]?=some (ϕ ps[i].v):=by
 rcases h.val with⟨k,_⟩|⟨g,a,cap,cur,b,e,l,f,j,c⟩
 .omega
 .exact⟨g,a,cap,cur,b,e,f,j,λi d=>⟨c _ _ (Ec d).1,c _ _ (Ec d).2⟩⟩
structure HL where
 key:Ϧ
 b:Int
 s:Int
 p:Option Nat
def HL.ptr(l:HL):Option Addr:=l.p.map fun q=>⟨q,0,none⟩
def lcs(l:HL):List Value:=[.string l.key,.int .i64 l.b,.int .u64 l.s,.pointer l.ptr]
def Ag(ls:List HL):List Value:=ls.flatMap lcs
def JY(ls):(Ag ls).length=ls.length*4:=by
 induction ls with
 | nil=>rfl
 | cons p ps ih=>simp[Ag,lcs]at *;omega
def Fe{ls}{i:Nat}(h:i<ls.length):(Ag ls)[i*4]?=some (ϕ ls[i].key)/\(Ag ls)[i*4+1]?=some (ϊ ls[i].b)/\(Ag ls)[i*4+2]?=some (.int .u64 ls[i].s)/\(Ag ls)[i*4+3]?=some (ϗ ls[i].ptr):=by
 induction ls generalizing i with
 | nil=>simp at h
 | cons p ps ih=>
  cases i with
  | zero=>simp[Ag,lcs]
  | succ i=>
   have:=ih (i:=i) (sU h);have e:∀c,(Ag (p::ps))[(i+1)*4+c]?=(Ag ps)[i*4+c]?:=λc=>by
    rw[show Ag (p::ps)=ϕ p.key::.int .i64 p.b::.int .u64 p.s::.pointer p.ptr::Ag ps from rfl,show(i+1)*4+c=i*4+c+1+1+1+1 by omega];simp
   have a:=e 0;rw[Nat.add_zero,Nat.add_zero]at a;rw[a,e 1,e 2,e 3];simpa using this
def Slc.link{w}{v}{ls}(h:Slc w 87 4 v ls.length (Ag ls))(m:1<=ls.length):
  ∃g a cap cur d,v=.slice (some (ϰ g a)) ls.length cap/\ls.length<=cap/\w.heap[g]?=some (ϲ cur 87 d)/\∀i (h:i<ls.length),cur[a+i*4]?=some (ϕ ls[i].key)/\cur[a+i*4+1]?=some (ϊ ls[i].b)/\cur[a+i*4+2]?=some (.int .u64 ls[i].s)/\cur[a+i*4+3]?=some (ϗ ls[i].ptr):=by
 rcases h.val with⟨k,_⟩|⟨g,a,cap,cur,d,e,l,f,j,b⟩
 .omega
 .exact⟨g,a,cap,cur,d,e,f,j,λi c=>⟨b _ _ (Fe c).1,b _ _ (Fe c).2.1,b _ _ (Fe c).2.2.1,b _ _ (Fe c).2.2.2⟩⟩
def QH{p:Prop}(_h:p:=by
 refine zq 5 λK hK=>?_;go_simp;refine mR (hf w.drew (kF.drew)) ?_;rintro w1 hK1;have hK1':Kp [] w w1:=((Kp.refl _ w).drew).tr hK1;have hS1:=And.intro (hK1'.hp hF) (And.intro (hK1'.hp hL) (hK1'.hp hrow));refine zk hK hS1 ?_;refine zq 6 λK hK=>?_;go_simp;refine hK.out _ _ hS1 (λ_=>?_);refine zd ?_;go_wp2;go_ret;exact⟨rfl,hK1'⟩):p:=_h
def VB(g F L:Nat)(cap)(v)(ps)(f:KV->Bool)(i:Nat)(w)(hF:w.heap[F]?=some (ϲ #[.func (.func g) #[] cap] 215))(hL:w.heap[L]?=some (ϲ #[v] 186))
  (hs:Slc w 185 2 v ps.length (Aa ps)) (hi:i<ps.length) (hn:ps.length<=1000000)
  (a:ϴ g)
  (hf:∀W,Kp [] w W->Calls prog g (#[.agg #[ϕ ps[i].k,ϕ ps[i].v]]++cap) W λe W'=>e=ϱ (ϐ (f ps[i]))/\Kp [] W W'):
  Ω 214 #[ϊ i,ϖ F,ϖ L] w λe w'=>e=ϱ (ϐ (f ps[i]))/\Kp [] w w':=by
 obtain⟨gb,off,cp,cur,fr,rfl,hcp,hrow,hcur⟩:=hs.pair oM;let⟨c0,c1⟩:=hcur i hi;go_enter func214,ntmps214;go_wp2_with fail;have hS0:=n3 hF hL hrow;refine wp_region_held_drew (S:=λW=>Ϙ W F (ϲ #[.func (.func g) #[] cap] 215)/\Ϙ W L (ϲ #[ϑ gb off ps.length cp] 186)/\Ϙ W gb (ϲ cur 185 fr)) kR hS0 (λ_=>?_);apply zV 0 (.func (.func g) #[] cap) rfl (λW hS=>by have c:=Y hS.1 0;simp at c;go_simp) hS0;apply zV 1 (ϑ gb off ps.length cp) rfl (λW hS=>by have c:=Y hS.2.1 0;simp at c;go_simp) hS0;apply zU 2 (ϊ i) hS0;apply zU 3 (ϗ (some (ϰ gb (off+i*2)))) hS0;refine zV 4 (.agg #[ϕ ps[i].k,ϕ ps[i].v]) rfl (λW hS=>by have a0:=Y hS.2.2 (off+i*2);rw[c0]at a0;have a1:=Y hS.2.2 (off+i*2+1);rw[c1]at a1;go_simp) hS0 ?_;exact QH
def Jt(g:Nat)(cap)(v)(ps)(f:KV->Bool)(w)
  (s:Slc w 185 2 v ps.length (Aa ps)) (r:ps.length<=1000000) (D:∀i j (a:i<ps.length) (k:j<ps.length),i<=j->f ps[i]=true->f ps[j]=true)
  (y:ϴ g)
  (z:∀W,Kp [] w W->∀i (h:i<ps.length),Calls prog g (#[.agg #[ϕ ps[i].k,ϕ ps[i].v]]++cap) W λe l=>e=ϱ (ϐ (f ps[i]))/\Kp [] W l):
  Ω 146 #[v,.func (.func g) #[] cap] w λe w'=>e=ϱ (ϊ (ps.findIdx f:Nat))/\Kp [] w w':=by
 have I:=zM;obtain⟨n,o,E⟩:∃n o,v=ϒ n ps.length o:=by
  rcases s.val with⟨t,b,c,d,_⟩|⟨g,K,cap,cur,H,d,_⟩
  .rw[t];exact⟨b,c,d⟩
  .exact⟨_,cap,d⟩
 subst E;go_enter func146,ntmps146;go_wp2_with fail;obtain⟨G,F,x,u,q⟩:=alH w (ϲ #[ϒ n ps.length o] 186) (ϲ #[.func (.func g) #[] cap] 215)
 rw[<-F];refine(PU 214 _ ps.length (λi=>((ps[i]?.map f).getD false)) G r ?_ ?_ ?_).mono ?_
 .intro i j A k C;have a:i<ps.length:=oM
  simp[gQ a,gQ k,Option.map_some,Option.getD_some]at *;exact D i j a k A C
 .intro args W;simp[go_sem,func214]
 .intro W m i a;refine mR (VB g (ϳ w+1) (ϳ w) cap _ ps f i W (m.hp u) (m.hp x) (s.qM4 (q.tr m)) a r y (λl p=>z l ((q.tr m).tr p) i a)) ?_;rintro l p;exact⟨by simp[gQ a],p⟩
 .rintro e L ⟨i,rfl,⟨d,h2,h3⟩,hK2⟩;have e:=ND d (λj k B=>by
   have:=h2 j B;simpa [gQ k] using this) (λh=>by
   have:=h3 h;simpa [gQ h] using this)
  subst e;go_wp2;go_ret;exact⟨rfl,q.tr hK2⟩
def Vy(g F L:Nat)(cap)(v)(ps)(f:HL->Bool)(i:Nat)(w)(hF:w.heap[F]?=some (ϲ #[.func (.func g) #[] cap] 217))(hL:w.heap[L]?=some (ϲ #[v] 156))
  (hs:Slc w 87 4 v ps.length (Ag ps)) (hi:i<ps.length) (hn:ps.length<=1000000)
  (a:ϴ g)
  (hf:∀W,Kp [] w W->Calls prog g (#[.agg #[ϕ ps[i].key,ϊ ps[i].b,.int .u64 ps[i].s,ϗ ps[i].ptr]]++cap) W λe W'=>e=ϱ (ϐ (f ps[i]))/\Kp [] W W'):
  Ω 256 #[ϊ i,ϖ F,ϖ L] w λe w'=>e=ϱ (ϐ (f ps[i]))/\Kp [] w w':=by
 obtain⟨gb,off,cp,cur,fr,rfl,hcp,hrow,hcur⟩:=hs.link oM;let⟨c0,c1,c2,c3⟩:=hcur i hi;go_enter func256,ntmps256;go_wp2_with fail;have hS0:=n3 hF hL hrow;refine wp_region_held_drew (S:=λW=>Ϙ W F (ϲ #[.func (.func g) #[] cap] 217)/\Ϙ W L (ϲ #[ϑ gb off ps.length cp] 156)/\Ϙ W gb (ϲ cur 87 fr)) kR hS0 (λ_=>?_);refine zV 0 (.func (.func g) #[] cap) rfl (λW hS=>by have c:=Y hS.1 0;simp at c;go_simp) hS0 ?_;refine zV 1 (ϑ gb off ps.length cp) rfl (λW hS=>by have c:=Y hS.2.1 0;simp at c;go_simp) hS0 ?_;refine zU 2 (ϊ i) hS0 ?_;refine zU 3 (ϗ (some (ϰ gb (off+i*4)))) hS0 ?_;refine zV 4 (.agg #[ϕ ps[i].key,ϊ ps[i].b,.int .u64 ps[i].s,ϗ ps[i].ptr]) rfl (λW hS=>by have a0:=Y hS.2.2 (off+i*4);rw[c0]at a0;have a1:=Y hS.2.2 (off+i*4+1);rw[c1]at a1;have a2:=Y hS.2.2 (off+i*4+2);rw[c2]at a2;have a3:=Y hS.2.2 (off+i*4+3);rw[c3]at a3;go_simp) hS0 ?_;exact QH
def Vz(g:Nat)(cap)(v)(ps)(f:HL->Bool)(w)
  (s:Slc w 87 4 v ps.length (Ag ps)) (r:ps.length<=1000000) (D:∀i j (a:i<ps.length) (k:j<ps.length),i<=j->f ps[i]=true->f ps[j]=true)
  (y:ϴ g)
  (z:∀W,Kp [] w W->∀i (h:i<ps.length),Calls prog g (#[.agg #[ϕ ps[i].key,ϊ ps[i].b,.int .u64 ps[i].s,ϗ ps[i].ptr]]++cap) W λe l=>e=ϱ (ϐ (f ps[i]))/\Kp [] W l):
  Ω 215 #[v,.func (.func g) #[] cap] w λe w'=>e=ϱ (ϊ (ps.findIdx f:Nat))/\Kp [] w w':=by
 have I:=zM;obtain⟨n,o,E⟩:∃n o,v=ϒ n ps.length o:=by
  rcases s.val with⟨t,b,c,d,_⟩|⟨g,K,cap,cur,H,d,_⟩
  .rw[t];exact⟨b,c,d⟩
  .exact⟨_,cap,d⟩
 subst E;go_enter func215,ntmps215;go_wp2_with fail;obtain⟨G,F,x,u,q⟩:=alH w (ϲ #[ϒ n ps.length o] 156) (ϲ #[.func (.func g) #[] cap] 217)
 rw[<-F];refine(PU 256 _ ps.length (λi=>((ps[i]?.map f).getD false)) G r ?_ ?_ ?_).mono ?_
 .intro i j A k C;have a:i<ps.length:=oM
  simp[gQ a,gQ k,Option.map_some,Option.getD_some]at *;exact D i j a k A C
 .intro args W;simp[go_sem,func256]
 .intro W m i a;refine mR (Vy g (ϳ w+1) (ϳ w) cap _ ps f i W (m.hp u) (m.hp x) (s.qM4 (q.tr m)) a r y (λl p=>z l ((q.tr m).tr p) i a)) ?_;rintro l p;exact⟨by simp[gQ a],p⟩
 .rintro e L ⟨i,rfl,⟨d,h2,h3⟩,hK2⟩;have e:=ND d (λj k B=>by
   have:=h2 j B;simpa [gQ k] using this) (λh=>by
   have:=h3 h;simpa [gQ h] using this)
  subst e;go_wp2;go_ret;exact⟨rfl,q.tr hK2⟩
abbrev ϟ(v:Nat)(h:HL):Array Value:=#[.pointer (some ⟨v,0,none⟩),.string h.key,.int .i64 h.b,.int .u64 h.s,.pointer h.ptr]
abbrev ϡ(h:HL):Array Value:=#[.string h.key,.int .i64 h.b,.int .u64 h.s,.pointer h.ptr]
def Xz(g F:Nat)(cap:ϧ)(p:KV)(r:Bool)(w:Ϣ)(a:w.heap[F]?=some (ϲ #[.func (.func g) #[] cap] 215))
  (j:ϴ g)
  (b:∀W,Kp [] w W->Calls prog g (#[.agg #[ϕ p.k,ϕ p.v]]++cap) W λe W'=>e=ϱ (ϐ r)/\Kp [] W W'):
  Ω 219 #[.agg #[ϕ p.k,ϕ p.v],ϖ F] w λe w'=>e=ϱ (.bool !r)/\Kp [] w w':=by
 have c:=zh b;clear b;have:=U a;have i:=ϻ a 0;go_enter func219,ntmps219;go_wp2_with fail;refine(c _ (kF.alloc _)).mono ?_;rintro e h ⟨rfl,d⟩;have f:Kp [] w h:=(kF.alloc _).tr d;go_wp2;go_ret;exact⟨rfl,f⟩
def XA(g:Nat)(cap)(v)(ps)(f:KV->Bool)(w)
  (A:Slc w 185 2 v ps.length (Aa ps)) (z:ps.length<=1000000) (k:∀i j (a:i<ps.length) (m:j<ps.length),i<=j->f ps[j]=true->f ps[i]=true)
  (x:ϴ g)
  (l:∀W,Kp [] w W->∀i (h:i<ps.length),Calls prog g (#[.agg #[ϕ ps[i].k,ϕ ps[i].v]]++cap) W λe b=>e=ϱ (ϐ (f ps[i]))/\Kp [] W b):
  Ω 154 #[v,.func (.func g) #[] cap] w λe w'=>e=ϱ (ϊ (ps.findIdx (λp=>!f p)-1:Nat))/\Kp [] w w':=by
 have:=zM;have o:=zh l;have q:=zh k;clear l k;go_enter func154,ntmps154;go_wp2_with fail;have r:=μ w (ϲ #[.func (.func g) #[] cap] 215);have c:Kp [] w (w.alloc (ϲ #[.func (.func g) #[] cap] 215)):=kF.alloc _;refine(Jt 219 _ v ps (λp=>!f p) _ (A.qM4 c) z ?_ ?_ ?_).mono ?_
 .intro i j a m y n;by_cases e:f ps[j]=true
  .rw[q.out i j a m y e]at n;simp at n
  .simpa using e
 .intro args W;simp[go_sem,func219]
 .intro W d i a;exact Xz g w.heap.size cap ps[i] (f ps[i]) W (d.hp r) x (λb s=>o b ((c.tr d).tr s) i a)
 .rintro e B ⟨rfl,t⟩;have u:=c.tr t;have:ps.findIdx (λp=>!f p)<=ps.length:=fL;go_wp2
  all_goals
   go_ret;exact⟨BV oM,u⟩
def Xy(g F:Nat)(cap:ϧ)(p:HL)(r:Bool)(w:Ϣ)(a:w.heap[F]?=some (ϲ #[.func (.func g) #[] cap] 217))
  (j:ϴ g)
  (b:∀W,Kp [] w W->Calls prog g (#[.agg #[ϕ p.key,ϊ p.b,.int .u64 p.s,ϗ p.ptr]]++cap) W λe W'=>e=ϱ (ϐ r)/\Kp [] W W'):
  Ω 216 #[.agg #[ϕ p.key,ϊ p.b,.int .u64 p.s,ϗ p.ptr],ϖ F] w λe w'=>e=ϱ (.bool !r)/\Kp [] w w':=by
 have c:=zh b;clear b;have:=U a;have i:=ϻ a 0;go_enter func216,ntmps216;go_wp2_with fail;refine(c _ (kF.alloc _)).mono ?_;rintro e h ⟨rfl,d⟩;have f:Kp [] w h:=(kF.alloc _).tr d;go_wp2;go_ret;exact⟨rfl,f⟩
def JQ(g:Nat)(cap)(v)(ps)(f:HL->Bool)(w)
  (A:Slc w 87 4 v ps.length (Ag ps)) (z:ps.length<=1000000) (k:∀i j (a:i<ps.length) (m:j<ps.length),i<=j->f ps[j]=true->f ps[i]=true)
  (x:ϴ g)
  (l:∀W,Kp [] w W->∀i (h:i<ps.length),Calls prog g (#[.agg #[ϕ ps[i].key,ϊ ps[i].b,.int .u64 ps[i].s,ϗ ps[i].ptr]]++cap) W λe b=>e=ϱ (ϐ (f ps[i]))/\Kp [] W b):
  Ω 148 #[v,.func (.func g) #[] cap] w λe w'=>e=ϱ (ϊ (ps.findIdx (λp=>!f p)-1:Nat))/\Kp [] w w':=by
 have:=zM;have o:=zh l;have q:=zh k;clear l k;go_enter func148,ntmps148;go_wp2_with fail;have r:=μ w (ϲ #[.func (.func g) #[] cap] 217);have c:Kp [] w (w.alloc (ϲ #[.func (.func g) #[] cap] 217)):=kF.alloc _;refine(Vz 216 _ v ps (λp=>!f p) _ (A.qM4 c) z ?_ ?_ ?_).mono ?_
 .intro i j a m y n;by_cases e:f ps[j]=true
  .rw[q.out i j a m y e]at n;simp at n
  .simpa using e
 .intro args W;simp[go_sem,func216]
 .intro W d i a;exact Xy g w.heap.size cap ps[i] (f ps[i]) W (d.hp r) x (λb s=>o b ((c.tr d).tr s) i a)
 .rintro e B ⟨rfl,t⟩;have u:=c.tr t;have:ps.findIdx (λp=>!f p)<=ps.length:=fL;go_wp2
  all_goals
   go_ret;exact⟨BV oM,u⟩
def Ai(lvl:Int)(vp vl:Value):Obj:=.cells #[.int .i64 lvl,vp,vl] 213
def qJ5(K:Nat)(k:Ϧ)(p:HL)(w:Ϣ)(hK:w.heap[K]?=some (ϲ #[ϕ k] 9)):
  Ω 221 #[.agg #[ϕ p.key,ϊ p.b,.int .u64 p.s,ϗ p.ptr],ϖ K] w λe w'=>e=ϱ (.bool !kl k p.key)/\Kp [] w w':=by
 have:=U hK;have a:=ϻ hK 0;go_enter func221,ntmps221;go_wp2;go_ret;exact⟨by rw[<-NV];rfl,kF.alloc _⟩
def Rise(ls:List HL):Prop:=ls.Pairwise λa b=>kl a.key b.key=true
def Rise.at{ls}(h:Rise ls){i j:Nat}(a:i<ls.length)(c:j<ls.length)(b:i<j):kl ls[i].key ls[j].key=true:=
 pG h i j a c b
def Ln(q:Nat)(v:Int)(vp vl)(ls)(k)(w)(g:w.heap[q]?=some (Ai v vp vl))(u:Slc w 87 4 vl ls.length (Ag ls))(s:ls.length<=1000000)(t:Rise ls):
  Ω 158 #[ϖ q,ϕ k] w λe w'=>e=ϱ (ϊ (ls.findIdx (λl=>kl k l.key)-1:Nat))/\Kp [] w w':=by
 have:=zM;have:=U g;have y:=ϻ g 2;go_enter func158,ntmps158;go_wp2_with fail;have m:=μ w (ϲ #[.string k] 9);have b:Kp [] w (w.alloc (ϲ #[.string k] 9)):=kF.alloc _;refine(JQ 221 _ vl ls (λl=>!kl k l.key) _ (u.qM4 b) s ?_ ?_ ?_).mono ?_
 .intro i j c r x d;by_cases e:i=j
  .subst e;exact d
  .have h:=t.at c r oM;have f:kl k ls[j].key=false:=by simpa using d
   by_cases a:kl k ls[i].key=true
   .rw[Dp a h]at f;cases f
   .simpa using a
 .intro args W;simp[go_sem,func221]
 .intro W p i c;exact qJ5 w.heap.size k ls[i] W (p.hp m)
 .rintro e z ⟨rfl,n⟩;have o:=b.tr n;go_wp2;go_ret;exact⟨sM,o⟩
def qF0(K:Nat)(k:Ϧ)(p:KV)(w:Ϣ)(hK:w.heap[K]?=some (ϲ #[ϕ k] 9)):
  Ω 222 #[.agg #[ϕ p.k,ϕ p.v],ϖ K] w λe w'=>e=ϱ (.bool !kl p.k k)/\Kp [] w w':=by
 have:=U hK;have a:=ϻ hK 0;go_enter func222,ntmps222;go_wp2;go_ret;exact⟨rfl,kF.alloc _⟩
def qF1{ps}(g:Sorted ps)(k):∀i j (c:i<ps.length) (d:j<ps.length),i<=j->(!kl ps[i].k k)=true->(!kl ps[j].k k)=true:=by
 intro i j c d h a;by_cases e:i=j
 .subst e;exact a
 .have f:=pG g i j c d oM;by_cases b:kl ps[j].k k=true
  .rw[Dp f b]at a;cases a
  .simpa using b
def KS(q:Nat)(L:Int)(vp vl)(ps)(k)(w)(d:w.heap[q]?=some (Ai L vp vl))(r:Slc w 185 2 vp ps.length (Aa ps))(H:ps.length<=1000000)(I:Sorted ps):
  Ω 159 #[ϖ q,ϕ k] w λe w'=>e=ϱ (.tuple #[ϊ (Ah ps k),ϐ (Bo ps (Ah ps k) k)])/\Kp [] w w':=by
 have R:=zM;have y:=U d;have B:=ϻ d 1;go_enter func159,ntmps159;go_wp2_with fail;have j:=μ w (ϲ #[.string k] 9);have l:Kp [] w (w.alloc (ϲ #[.string k] 9)):=kF.alloc _;refine(Jt 222 _ vp ps (λp=>!kl p.k k) _ (r.qM4 l) H (qF1 I k) ?_ ?_).mono ?_
 .intro args W;simp[go_sem,func222]
 .intro W E i n;exact qF0 w.heap.size k ps[i] W (E.hp j)
 rintro e T ⟨rfl,m⟩;have a:=l.tr m;have x:=a.hp d;have v:=m.hp j;have s:=r.qM4 a;have e:ps.findIdx (λp=>!kl p.k k)=Ah ps k:=rfl;rw[e];clear m l j r d B y e;have y:=U x;have Q:=U v;have B:=ϻ x 1;have S:=ϻ v 0;have G:=Gu ps k;let⟨i,o⟩:=eY (Ah ps k);rw[o]at G |-;by_cases n:i<ps.length
 .obtain⟨N,A,f,cur,C,rfl,O,z,u⟩:=s.pair oM;let⟨c0,_⟩:=u i n;have M:=Y z (A+i*2);rw[c0]at M;have P:=U z;have F:(i:Int)<(ps.length:Int):=oM
  clear u s;go_wp2_with fail
  go_quiet (fail)
  go_wp2
  go_ret2
  refine⟨?_,a.drewN _⟩;rw[o];simp[Bo,gQ n,Ij]
 .have F:¬(i:Int)<(ps.length:Int):=oM
  obtain⟨t,f,K⟩:∃t f,vp=.slice t ps.length f:=by
   rcases s.val with⟨D,b,c,h,_⟩|⟨g,A,cap,cur,C,h,_⟩
   .rw[D];exact⟨b,c,h⟩
   .exact⟨_,cap,h⟩
  subst K;go_wp2_with fail
  go_quiet (fail)
  go_wp2
  go_ret2
  refine⟨?_,a.drewN _⟩;rw[o];have:Bo ps i k=false:=by unfold Bo;rw[gN oM]
  rw[this];rfl
def CC{P:Program}{c:Array Oper}{d:List Oper}{b:Option Tmp}{ty}{j:String}{e:Array Edge}{a:Act}{w w'}{Q:Exit->Act->ϯ}{s x:Operand}{t}{vs vx v'}(g:a.eval s=vs)(i:a.eval x=vx)
  (f:Sem.run P (Builtin.append_ #[t,t] ty #[vs,vx]) w=.ok v' w') (h:wpList P c Q d (a.put b v') w'):
  wpList P c Q (⟨b,.call { callee:=.builtin .append,args:=#[s,x],argTypes:=#[t,t] },ty,j,e,none⟩::d) a w:=by
 refine wpList_plain rfl λK hK=>?_;unfold Oper.wp execOp;simp[resolve,invoke,builtin,Sem.run_bind,Sem.run_pure,Result.andThen_ok,List.map_toArray,List.map_cons,List.map_nil,g,i,f];exact hK _ _ h
def SPR(w:Ϣ)(v:Value)(ps:List KV):Prop:=Slc w 284 2 v ps.length (Aa ps)
def OPR(w:Ϣ)(base:Nat)(v:Value)(ps:List KV):Prop:=w.ownsRow base 284 2 v ps.length (Aa ps)
def WK:(prog.info? 284).map (λi=>(i.zero,i.size,i.bytes))=some (some (.agg #[ϕ ⟨#[]⟩,ϕ ⟨#[]⟩]),2,32):=kR
def SPR.qM3{w w'}{v}{ps}{S}(h:SPR w v ps)(hK:Kp S w w')(a:Apt w S [284]):SPR w' v ps:=Slc.qM3 h hK a
def SPR.qM4{w w'}{v}{ps}(h:SPR w v ps)(hK:Kp [] w w'):SPR w' v ps:=Slc.qM4 h hK
def SPR.nil(w):SPR w (.slice none 0 0) []:=⟨rfl,.inl ⟨rfl,none,0,rfl,λ_=>rfl⟩⟩
def OPR.nil(w)(base:Nat):OPR w base (.slice none 0 0) []:=wN _ _ _ _
def OPR.sp{w}{base:Nat}{v}{ps}(h:OPR w base v ps):SPR w v ps:=by
 refine⟨h.1,?_⟩;rcases h.2 with⟨d,a⟩|⟨g,cap,cur,a,l,e,f,m,n,i⟩
 .exact .inl ⟨a,none,0,by rw[d],λ_=>rfl⟩
 .by_cases c:ps.length=0
  .exact .inl ⟨c,some (ϰ g 0),cap,by rw[a,c],sM⟩
  .refine .inr ⟨g,0,cap,cur,(0,0),a,oM,f,e,λj u b=>?_⟩;have k:j<ps.length*2:=by
    have:=(gS b).1;rw[DO]at this;exact this
   rw[<-i,List.getElem?_take_of_lt k]at b;simpa using b
def OPR.alloc{w}{base:Nat}{v}{ps}(h:OPR w base v ps)(o):OPR (w.alloc o) base v ps:=World.ownsRow.alloc h o
def OPR.form{w}{base:Nat}{v}{ps}(h:OPR w base v ps):∃b c,v=.slice b ps.length c:=by
 rcases h.2 with⟨d,a⟩|⟨g,cap,cur,a,e⟩
 .exact⟨none,0,by rw[d,a]⟩
 .exact⟨_,cap,a⟩
def SPR.form{w}{v}{ps}(h:SPR w v ps):∃b c,v=.slice b ps.length c:=by
 rcases h.val with⟨d,b,c,a,_⟩|⟨g,f,cap,cur,e,a,_⟩
 .rw[d];exact⟨b,c,a⟩
 .exact⟨_,cap,a⟩
def SPR.at{w}{v}{ps}(h:SPR w v ps)(m:1<=ps.length):
  ∃g a cap cur b,v=.slice (some (ϰ g a)) ps.length cap/\ps.length<=cap/\w.heap[g]?=some (ϲ cur 284 b)/\∀i (h:i<ps.length),cur[a+i*2]?=some (ϕ ps[i].k)/\cur[a+i*2+1]?=some (ϕ ps[i].v):=by
 rcases h.val with⟨k,_⟩|⟨g,a,cap,cur,b,e,l,f,j,c⟩
 .omega
 .exact⟨g,a,cap,cur,b,e,f,j,λi d=>⟨c _ _ (Ec d).1,c _ _ (Ec d).2⟩⟩
def ZL(ps)(p):Aa (ps++[p])=Aa ps++[ϕ p.k,ϕ p.v]:=by simp[Aa,pcs]
def OPR.app{w}{base:Nat}{v}{ps}(h:OPR w base v ps)(g:Nat)(p)(ty)(o:ps.length<=1000000)(c:w.heap[g]?=some (ϲ #[ϕ p.k,ϕ p.v] 284))(b:base<=w.heap.size):
  ∃a w',Sem.run prog (Builtin.append_ #[124,124] ty #[v,.slice (some (ϰ g 0)) 1 1]) w=.ok a w'/\OPR w' base a (ps++[p])/\w.grownBy w' v.ownBlock:=by
 let⟨l,d,f,i,k⟩:=info_parts WK;let⟨a,w',e,m,n,q⟩:=run_append_own (P:=prog) w base 124 ty 284 l _ 2 32 underlying124 d f i k rfl dC v ps.length _ h (ϰ g 0) 1 1 [ϕ p.k,ϕ p.v] rfl (λj v hv=>by
  rw[Br,Y c];simpa using hv) (by simp[Value.oneCell']) (by unfold maxLen;omega) oM b
 refine⟨a,w',e,?_,n⟩;unfold OPR;rw[ZL,List.length_append];exact m
def OPR.low{w}{base:Nat}{v}{ps}(h:OPR w base v ps):∀k,v.ownBlock=some k->base<=k:=λk hk=>(World.ownsRow.lt h k hk).1
def SPA(w:Ϣ)(v:Value)(ps:List KV):Prop:=Slc w 42 2 v ps.length (Aa ps)
def OPA(w:Ϣ)(base:Nat)(v:Value)(ps:List KV):Prop:=w.ownsRow base 42 2 v ps.length (Aa ps)
def JH:(prog.info? 42).map (λi=>(i.zero,i.size,i.bytes))=some (some (.agg #[ϕ ⟨#[]⟩,ϕ ⟨#[]⟩]),2,32):=kR
def SPA.qM3{w w'}{v}{ps}{S}(h:SPA w v ps)(hK:Kp S w w')(a:Apt w S [42]):SPA w' v ps:=Slc.qM3 h hK a
def SPA.qM4{w w'}{v}{ps}(h:SPA w v ps)(hK:Kp [] w w'):SPA w' v ps:=Slc.qM4 h hK
def SPA.nil(w):SPA w (.slice none 0 0) []:=⟨rfl,.inl ⟨rfl,none,0,rfl,λ_=>rfl⟩⟩
def OPA.nil(w)(base:Nat):OPA w base (.slice none 0 0) []:=wN _ _ _ _
def OPA.sp{w}{base:Nat}{v}{ps}(h:OPA w base v ps):SPA w v ps:=by
 refine⟨h.1,?_⟩;rcases h.2 with⟨d,a⟩|⟨g,cap,cur,a,l,e,f,m,n,i⟩
 .exact .inl ⟨a,none,0,by rw[d],λ_=>rfl⟩
 .by_cases c:ps.length=0
  .exact .inl ⟨c,some (ϰ g 0),cap,by rw[a,c],sM⟩
  .refine .inr ⟨g,0,cap,cur,(0,0),a,oM,f,e,λj u b=>?_⟩;have k:j<ps.length*2:=by
    have:=(gS b).1;rw[DO]at this;exact this
   rw[<-i,List.getElem?_take_of_lt k]at b;simpa using b
def OPA.alloc{w}{base:Nat}{v}{ps}(h:OPA w base v ps)(o):OPA (w.alloc o) base v ps:=World.ownsRow.alloc h o
def OPA.form{w}{base:Nat}{v}{ps}(h:OPA w base v ps):∃b c,v=.slice b ps.length c:=by
 rcases h.2 with⟨d,a⟩|⟨g,cap,cur,a,e⟩
 .exact⟨none,0,by rw[d,a]⟩
 .exact⟨_,cap,a⟩
def SPA.form{w}{v}{ps}(h:SPA w v ps):∃b c,v=.slice b ps.length c:=by
 rcases h.val with⟨d,b,c,a,_⟩|⟨g,f,cap,cur,e,a,_⟩
 .rw[d];exact⟨b,c,a⟩
 .exact⟨_,cap,a⟩
def SPA.at{w}{v}{ps}(h:SPA w v ps)(m:1<=ps.length):
  ∃g a cap cur b,v=.slice (some (ϰ g a)) ps.length cap/\ps.length<=cap/\w.heap[g]?=some (ϲ cur 42 b)/\∀i (h:i<ps.length),cur[a+i*2]?=some (ϕ ps[i].k)/\cur[a+i*2+1]?=some (ϕ ps[i].v):=by
 rcases h.val with⟨k,_⟩|⟨g,a,cap,cur,b,e,l,f,j,c⟩
 .omega
 .exact⟨g,a,cap,cur,b,e,f,j,λi d=>⟨c _ _ (Ec d).1,c _ _ (Ec d).2⟩⟩
def ZK(ps)(p):Aa (ps++[p])=Aa ps++[ϕ p.k,ϕ p.v]:=by simp[Aa,pcs]
def OPA.low{w}{base:Nat}{v}{ps}(h:OPA w base v ps):∀k,v.ownBlock=some k->base<=k:=λk hk=>(World.ownsRow.lt h k hk).1
def AV(p:KV)(st:List KV×Bool)(q:KV):List KV×Bool:=
 let s1:=if !st.2 && !kl q.k p.k then(st.1++[p],true) else st
 if q.k=p.k then s1 else(s1.1++[q],s1.2)
def IB(p:KV):∀(l a:List KV),l.foldl (AV p) (a,true)=(a++l.filter (λq=>!decide (q.k=p.k)),true)
 | [],a=>by simp
 | q::l,a=>by
  rw[List.foldl_cons];by_cases h:q.k=p.k
  .simp[AV,h,IB p l a]
  .simp[AV,h,IB p l (a++[q])]
def Qr(p:KV):∀(l a:List KV),(if (l.foldl (AV p) (a,false)).2 then(l.foldl (AV p) (a,false)).1 else(l.foldl (AV p) (a,false)).1++[p])=a++ins p l
 | [],a=>by simp[ins]
 | q::l,a=>by
  rw[List.foldl_cons];by_cases h:kl q.k p.k=true
  .have d:=BM h;have e:AV p (a,false) q=(a++[q],false):=by simp[AV,h,d]
   rw[e,Qr p l (a++[q])];simp[ins,h]
  .have b:kl q.k p.k=false:=by simpa using h
   by_cases c:q.k=p.k
   .have e:AV p (a,false) q=(a++[p],true):=by simp[AV,b,c,Cx]
    rw[e,IB];simp[ins,b,c,Cx]
   .have e:AV p (a,false) q=(a++[p]++[q],true):=by simp[AV,b,c]
    rw[e,IB];simp[ins,b,c]
def Qs(p:KV):∀(l:List KV)(a:List KV×Bool),(l.foldl (AV p) a).1.length<=a.1.length+2*l.length
 | [],a=>by simp
 | q::l,a=>by
  rw[List.foldl_cons];have:=Qs p l (AV p a q);have:(AV p a q).1.length<=a.1.length+2:=by
   unfold AV;dsimp only;split<;>split<;>simp<;>omega
  simp[lC];omega
def VT{α a:Type}(f:a->α->a)(b:a)(l:List α)(j:Nat)(h:j<l.length):(l.take (j+1)).foldl f b=f ((l.take j).foldl f b) l[j]:=by
 rw[tA h,List.foldl_append];rfl
def CE(a b:Ϧ):(a.toList == b.toList)=decide (a=b):=Ij a b
end Go.Proofs.YtdohpenfkdckiaaGreatDoor
