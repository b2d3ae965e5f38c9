import Derived.Deep.RegionHeld
import Derived.Below
import Derived.WalkKit
import Derived.WalkSpells
import Derived.Deep.QuietTactic
import Derived.BigQuiet
import Derived.Test.YtdohpenfkdckiaaGreatDoorProg
import Derived.Laws.CopyRow
import Derived.Deep.OwnRows
import Derived.Great.BuildSlice
import Derived.Great.FillDense
import Derived.Laws.Strings
import Derived.Laws.Cover1
import Derived.Lib.Strings
import Derived.Lib.BufferWrite
import Derived.Lib.UnsafeStr
import Derived.Laws.MakeOwn
set_option linter.all false
set_option maxRecDepth 100000
set_option maxHeartbeats 0
namespace Go.Proofs.YtdohpenfkdckiaaGreatDoor
open Go.Proofs.Tryz Go.RowKit
def zA {α : Type} (l : List α) (i : Nat) (a : α) : l.toArray.setIfInBounds i a = (l.set i a).toArray := List.setIfInBounds_toArray l i a
def zB {α : Type} {x : α} {xs : List α} {a : α} : (x :: xs).set 0 a = a :: xs := List.set_cons_zero
def zC {α : Type} {x : α} {xs : List α} {n : Nat} {a : α} : (x :: xs).set (n + 1) a = x :: xs.set n a := List.set_cons_succ
def zD {α : Type} {xs : List α} {i : Nat} (h : i < xs.toArray.size) : xs.toArray[i] = xs[i]'(by simpa using h) := List.getElem_toArray h
def zE {α : Type} {a : α} {l : List α} {i : Nat} {h : i + 1 < (a :: l).length} : (a :: l)[i + 1] = l[i]'(Nat.lt_of_succ_lt_succ h) := List.getElem_cons_succ _ _ _ _
def zF {α : Type} {a : α} {l : List α} {h : 0 < (a :: l).length} : (a :: l)[0] = a := List.getElem_cons_zero _ _ _
def zG {α : Type} {xs : List α} {i : Nat} : xs.toArray[i]? = xs[i]? := List.getElem?_toArray
def zH {α : Type} {a : α} {l : List α} : (a :: l)[0]? = some a := List.getElem?_cons_zero
def zI {α : Type} {a : α} {l : List α} {i : Nat} : (a :: l)[i + 1]? = l[i]? := List.getElem?_cons_succ
def zM : ∀(fn : Fn)(first cap : Array Value)(w : World), (Instr.makeFunc fn first cap).run Tryz.prog w = .ok (.func fn first cap) w := fun _ _ _ _ => rfl
section
variable {P:Program} {md:Region.Mode} {ops:Array Oper} {Q:Exit→Act→World→Prop} {S:World→Prop} {oi oj:Oper} {fuel:Nat} {l:Array Bool} {a a':Act} {w:World}
def zZ:(∀(a:Act)(d:Nat)(v:Value),a.put (some d) v={a with tmps:=a.tmps.setIfInBounds d v})∧(∀(a:Act)(v:Value),a.put none v=a)∧(∀{α:Type} (l:List α) (i:Nat) (a:α),l.toArray.setIfInBounds i a=(l.set i a).toArray)∧(∀{α:Type} {x:α} {s:List α} {a:α},(x::s).set 0 a=a::s)∧(∀{α:Type} {x:α} {s:List α} {n:Nat} {a:α},(x::s).set (n+1) a=x::s.set n a)∧(∀{α:Type} {s:List α} {i:Nat} (h:i<s.toArray.size),s.toArray[i]=s[i]'(by simpa using h))∧(∀{α:Type} {a:α} {l:List α} {i:Nat} {h:i+1<(a::l).length},(a::l)[i+1]=l[i]'(Nat.lt_of_succ_lt_succ h))∧(∀{α:Type} {a:α} {l:List α} {h:0<(a::l).length},(a::l)[0]=a):=⟨fun _ _ _=>rfl,fun _ _=>rfl,zA,zB,zC,zD,zE,zF⟩
def zV (i:Nat) (v:Value) (hi:ops[i]?=some oi) (hy:∀W,S W→(execOp a.eval oi).run P W=.ok (.value v) W) (hS:S w) (h:wpAnyH P md ops Q S fuel (l.setIfInBounds i true) a' w) (hb:(Region.noSelect ops && (Region.free md ops l i && (Region.ready md ops l).contains i))=true:=by kernel_rfl) (hQ:∀c a w,Q (.panic c) (a.put oi.dst v) w→Q (.panic c) a w:=by exact fun _ _ _ h=>h) (hw:Region.wanted oi (yielded ops a.tmps)=true:=by rfl) (ha:a.put oi.dst v=a':=by simp only [zZ];try exact rfl):wpAnyH P md ops Q S (fuel+1) l a w:=by
 subst ha;simp only [Bool.and_eq_true]at hb;exact wpAnyH_take hi hb.1 hb.2.1 hb.2.2 hQ (.inl ⟨hw,hy⟩) hS h
def zU (i:Nat) (v:Value) (hS:S w) (h:wpAnyH P md ops Q S fuel (l.setIfInBounds i true) a' w) (hi:ops[i]?=some oi:=by rfl) (hb:(Region.noSelect ops && (Region.free md ops l i && (Region.ready md ops l).contains i))=true:=by kernel_rfl) (hQ:∀c a w,Q (.panic c) (a.put oi.dst v) w→Q (.panic c) a w:=by exact fun _ _ _ h=>h) (hw:Region.wanted oi (yielded ops a.tmps)=true:=by rfl) (hy:∀W,(execOp a.eval oi).run P W=.ok (.value v) W:=by intro W;go_simp) (ha:a.put oi.dst v=a':=by simp only [zZ];try exact rfl):wpAnyH P md ops Q S (fuel+1) l a w:=zV i v hi (fun W _=>hy W) hS h hb hQ hw ha
def zu (i:Nat) (v:Value) (h:wpAny P md ops Q fuel (l.setIfInBounds i true) a' w) (hi:ops[i]?=some oi:=by rfl) (hb:(Region.noSelect ops && (Region.free md ops l i && (Region.ready md ops l).contains i))=true:=by kernel_rfl) (hQ:∀c a w,Q (.panic c) (a.put oi.dst v) w→Q (.panic c) a w:=by exact fun _ _ _ h=>h) (hw:Region.wanted oi (yielded ops a.tmps)=true:=by rfl) (hy:∀W,(execOp a.eval oi).run P W=.ok (.value v) W:=by intro W;go_simp) (ha:a.put oi.dst v=a':=by simp only [zZ];try exact rfl):wpAny P md ops Q (fuel+1) l a w:=by
 subst ha;simp only [Bool.and_eq_true]at hb;exact wpAny_take hi hb.1 hb.2.1 hb.2.2 hQ (.inl ⟨hw,hy⟩) h
def zP (i q k:Nat) (hS:S w) (h:wpAnyH P md ops Q S fuel (l.setIfInBounds i true) a' w) (hi:ops[i]?=some oi:=by rfl) (hb:(Region.noSelect ops && (Region.free md ops l i && (Region.ready md ops l).contains i))=true:=by kernel_rfl) (hQ:∀c a w,Q (.panic c) (a.put oi.dst (.pointer (some ⟨q,k,none⟩))) w→Q (.panic c) a w:=by exact fun _ _ _ h=>h) (hw:Region.wanted oi (yielded ops a.tmps)=true:=by rfl) (hy:∀W,(execOp a.eval oi).run P W=.ok (.value (.pointer (some ⟨q,k,none⟩))) W:=by intro W;go_simp) (ha:a.put oi.dst (.pointer (some ⟨q,k,none⟩))=a':=by simp only [zZ];try exact rfl):wpAnyH P md ops Q S (fuel+1) l a w:=zV i _ hi (fun W _=>hy W) hS h hb hQ hw ha
def zq (i:Nat) (h:∀K':Act→World→Prop,Shut (∀a w,S w→(S w→wpAnyH P md ops Q S fuel (l.setIfInBounds i true) a w)→K' a w)→if Region.wanted oi (yielded ops a.tmps)=true then Oper.wp P oi a w K' Q else K' (a.put oi.dst undef) w) (ho:ops[i]?=some oi:=by rfl) (hr:Region.ready md ops l=[i]:=by kernel_rfl):wpAnyH P md ops Q S (fuel+1) l a w:=wpAnyH_ready hr (by simp) (AllReadyH.cons ho h AllReadyH.nil)
def zr (i j:Nat) (h:∀K':Act→World→Prop,Shut (∀a w,S w→(S w→wpAnyH P md ops Q S fuel (l.setIfInBounds i true) a w)→K' a w)→if Region.wanted oi (yielded ops a.tmps)=true then Oper.wp P oi a w K' Q else K' (a.put oi.dst undef) w) (h2:∀K':Act→World→Prop,Shut (∀a w,S w→(S w→wpAnyH P md ops Q S fuel (l.setIfInBounds j true) a w)→K' a w)→if Region.wanted oj (yielded ops a.tmps)=true then Oper.wp P oj a w K' Q else K' (a.put oj.dst undef) w) (ho:ops[i]?=some oi:=by rfl) (ho2:ops[j]?=some oj:=by rfl) (hr:Region.ready md ops l=[i,j]:=by kernel_rfl):wpAnyH P md ops Q S (fuel+1) l a w:=wpAnyH_ready hr (by simp) (AllReadyH.cons ho h (AllReadyH.cons ho2 h2 AllReadyH.nil))
def zQ (i:Nat) (h:∀K':Act→World→Prop,(∀a w,wpAny P md ops Q fuel (l.setIfInBounds i true) a w→K' a w)→if Region.wanted oi (yielded ops a.tmps)=true then Oper.wp P oi a w K' Q else K' (a.put oi.dst undef) w) (ho:ops[i]?=some oi:=by rfl) (hr:Region.ready md ops l=[i]:=by kernel_rfl):wpAny P md ops Q (fuel+1) l a w:=wpAny_ready hr (by simp) (AllReady.cons ho h AllReady.nil)
def zd (h:Q .normal a w) (hr:Region.ready md ops l=[]:=by kernel_rfl):wpAnyH P md ops Q S fuel l a w:=wpAnyH_done hr h _
def zh {p:Prop} (h:p):RowKit.Hid p:=h
end
abbrev ϖ(x:Nat):Value:=.pointer (some ⟨x,0,none⟩)
abbrev Ω:=Calls prog
abbrev Ϙ(w:World)(k:Nat)(o:Obj):Prop:=w.heap[k]?=some o
abbrev ϊ:=Value.int .i64
abbrev ϱ:=Ending.returned
abbrev ϛ:Array Value:=#[.pointer none,.string ⟨#[]⟩,.int .i64 0,.int .u64 0,.pointer none]
abbrev ϝ:Array Value:=#[.string ⟨#[]⟩,.string ⟨#[]⟩]
abbrev ϙ:Array Value:=#[.string ⟨#[]⟩,.int .i64 0,.int .u64 0,.pointer none]
abbrev ϳ(w:World):Nat:=w.heap.size
abbrev ϲ(c:Array Value)(t:TypeId)(f:Nat×Nat:=(0,0)):Obj:=.cells c t f
abbrev ϕ:=Value.string
abbrev ϗ:=Value.pointer
abbrev ϒ:=Value.slice
abbrev ϐ:=Value.bool
abbrev ϑ(g a:Nat)(n c:Nat):Value:=.slice (some ⟨g,a,none⟩) n c
abbrev ϰ(g a:Nat):Addr:=⟨g,a,none⟩
abbrev mC:=@List.mem_cons
abbrev lN:=@List.not_mem_nil
abbrev tL:=@List.take_of_length_le
abbrev gM:=@List.getElem_mem
abbrev gQ:=@List.getElem?_eq_getElem
abbrev lA:=@List.length_append
abbrev tA:=@List.take_succ_eq_append_getElem
abbrev zL:=@Nat.zero_le
abbrev aA:=@List.append_assoc
abbrev wN:=@World.ownsRow_nil
abbrev vJ:=@Value.slice.injEq
abbrev tD:=@List.take_append_drop
abbrev lC:=@List.length_cons
abbrev nA:=@List.nil_append
abbrev oB:=@Value.ownBlock
abbrev cA:=@List.cons_append
abbrev gO:=@List.getElem_of_mem
abbrev lT:=@Nat.le_trans
abbrev fC:=@List.flatMap_cons
abbrev dG:=@List.drop_eq_getElem_cons
abbrev iR:=@Int.le_refl
abbrev oC:=@Value.oneCell'
abbrev mM:=@List.mem_cons_of_mem
abbrev fA:=@List.flatMap_append
abbrev lK:=@List.length_take
abbrev aT:=@List.append_toArray
abbrev wK:=@IntKind.wrap_i64
abbrev aN:=@List.append_nil
abbrev gR:=@List.getElem_append_right
abbrev gL:=@List.getElem_append_left
abbrev dZ:=@List.drop_zero
abbrev lD:=@List.length_drop
abbrev mO:=@List.mem_of_getElem?
abbrev mD:=@List.mem_of_mem_drop
abbrev fL:=@List.findIdx_le_length
abbrev mT:=@List.mem_of_mem_take
abbrev dL:=@List.drop_of_length_le
abbrev gN:=@List.getElem?_eq_none
def mS{α:Type}{a b:α}(h:a∈[b]):a=b:=List.mem_singleton.1 h
def gS{α:Type}{l:List α}{i:Nat}{a:α}(h:l[i]?=some a):∃h:i<l.length,l[i]=a:=List.getElem?_eq_some_iff.1 h
def mA{α:Type}{a:α}{s t:List α}(h:a∈s++t):a∈s∨a∈t:=List.mem_append.1 h
def pG{α:Type}{R:α→α→Prop}{l:List α}(h:l.Pairwise R):∀(i j:Nat)(hi:i<l.length)(hj:j<l.length),i<j→R l[i] l[j]:=List.pairwise_iff_getElem.1 h
def mF{α β:Type}{f:α→List β}{b:β}{l:List α}(h:b∈l.flatMap f):∃a,a∈l∧b∈f a:=List.mem_flatMap.1 h
def pC{α:Type}{R:α→α→Prop}{a:α}{l:List α}(h:(a::l).Pairwise R):(∀b∈l,R a b)∧l.Pairwise R:=List.pairwise_cons.1 h
def pA{α:Type}{R:α→α→Prop}{s t:List α}(h:(s++t).Pairwise R):s.Pairwise R∧t.Pairwise R∧∀a∈s,∀b∈t,R a b:=List.pairwise_append.1 h
def oW{p q:Prop}(h:p)(k:p→q:=by intro h;omega):q:=k h
def oX{p r q:Prop}(h:p)(g:r)(k:p→r→q:=by intro h g;omega):q:=k h g
def sU{p q:Prop}(h:p)(k:p→q:=by intro h;simpa using h):q:=k h
def sC{p:Prop}(h:p:=by simp +contextual):p:=h
def iO{p:Prop}(h:p:=by simp[intOf];omega):p:=h
def dO{p:Prop}(h:p:=by first | (dsimp only;omega) | (simp;omega)):p:=h
def cF{P:Program}{f:FuncId}{a:Array Value}{w:World}{Q:Ending→World→Prop}(h:Calls P f a w Q):Calls P f a w Q:=h
abbrev aB:=@wp_region_held_drew
abbrev aC:=@List.mem_singleton
abbrev aD:=@or_false
abbrev aG:=@bodyPost_ret
abbrev aH:=@List.mem_append
abbrev aI:=@List.mem_append_left
abbrev aJ:=@List.length_nil
abbrev aK:=@List.mem_append_right
abbrev aL:=@results_cell_row
abbrev aM:=@Nat.le_refl
abbrev aO:=@if_neg
abbrev aP:=@Option.some.injEq
abbrev aQ:=@List.mem_map
abbrev aR:=@if_pos
abbrev aS:=@List.mem_flatMap
abbrev aU:=@setRow_other
abbrev aW:=@List.take_append_of_le_length
abbrev aX:=@List.getElem?_take
abbrev aY:=@wpAnyH_take
abbrev aZ:=@Result.andThen_ok
abbrev bD:=@List.length_set
abbrev bE:=@List.map_cons
abbrev bF:=@info_parts
abbrev bG:=@Nat.add_zero
abbrev bH:=@List.drop_drop
abbrev bI:=@Nat.mul_le_mul_right
abbrev bJ:=@List.getElem_set
abbrev bK:=@wpList_append_own
abbrev bL:=@Array.length_toList
abbrev bN:=@true_and
abbrev bO:=@Sem.run_bind
abbrev bP:=@Int.le_trans
abbrev bQ:=@List.getElem?_map
abbrev bR:=@Option.map_eq_some_iff
abbrev bU:=@List.getElem?_drop
abbrev bV:=@List.length_map
abbrev bY:=@not_or
abbrev bZ:=@decide_eq_true
abbrev cB:=@setRow_heap
abbrev cC:=@List.eq_nil_of_length_eq_zero
abbrev cD:=@Nat.zero_add
abbrev cE:=@Bool.false_eq_true
abbrev cG:=@Option.some.inj
abbrev cH:=@decide_eq_false
abbrev cI:=@List.map_append
abbrev cJ:=@IntKind.wrap_u64
abbrev cK:=@List.foldl_append
abbrev cL:=@List.length_eq_zero_iff
abbrev cN:=@rounds_succ
abbrev cO:=@run_underlying
abbrev cP:=@List.take_take
abbrev cQ:=@List.cons.injEq
abbrev cR:=@List.find?_append
abbrev cU:=@List.getElem?_take_of_lt
abbrev cV:=@List.map_nil
abbrev cW:=@List.foldl_cons
abbrev cX:=@List.mem_cons_self
abbrev cZ:=@wp_region_any
abbrev dA:=@Sem.run_pure
abbrev dB:=@Nat.zero_mul
abbrev dD:=@Int.toNat_natCast
abbrev dE:=@Nat.min_eq_left
abbrev dF:=@List.takeWhile_append_dropWhile
abbrev dH:=@List.getElem?_eq_some_iff
abbrev dI:=@List.length_filter_le
abbrev dJ:=@List.pairwise_append
abbrev dK:=@List.drop_append_of_le_length
abbrev dM:=@List.size_toArray
abbrev dN:=@List.map_toArray
abbrev dP:=@Bool.not_eq_true
abbrev dQ:=@if_false
abbrev dR:=@run_append_own
abbrev dS:=@wp_loop_rounds
abbrev dU:=@List.drop_take
abbrev dV:=@List.filter_append
abbrev dW:=@List.find?_eq_none
abbrev dX:=@List.getD_eq_getElem?_getD
abbrev dY:=@List.eq_nil_or_concat
abbrev eA:=@List.concat_eq_append
abbrev eB:=@wpAny_ready
abbrev eC:=@of_decide_eq_true
abbrev eD:=@World.cell?_alloc_lt
abbrev eE:=@Array.replicate_succ
abbrev eF:=@Array.replicate_zero
abbrev eH:=@Maps.atKey_del_other
abbrev eI:=@wpAny_done
abbrev eJ:=@run_convert_bytes_string
abbrev eK:=@ByteArray.toList_eq
abbrev eN:=@Calls.quiet_of_same
abbrev eO:=@Option.getD_some
abbrev eP:=@callsIn_wide
abbrev eQ:=@Maps.has_del_other
abbrev eR:=@List.not_of_lt_findIdx
abbrev eT:=@List.head?_eq_getElem?
abbrev eU:=@Prod.mk.injEq
abbrev eW:=@List.push_toArray
abbrev eZ:=@and_true
abbrev fB:=@wpAny_take
abbrev fD:=@fenced_wide
abbrev fE:=@List.findIdx_getElem
abbrev fF:=@Int.tmod_eq_emod_of_nonneg
abbrev fG:=@results_none
abbrev fH:=@Nat.le_of_lt
abbrev fI:=@List.map_set
abbrev fJ:=@List.ext_getElem
abbrev fK:=@List.getElem_map
abbrev fM:=@List.findIdx_map
abbrev fO:=@List.flatMap_nil
abbrev fP:=@List.pairwise_iff_getElem
abbrev fQ:=@List.map_congr_left
abbrev fS:=@List.takeWhile_cons
abbrev fT:=@List.filter_eq_self
abbrev fU:=@List.mem_map_of_mem
abbrev fV:=@Addr.mk.injEq
abbrev fW:=@Bool.not_true
abbrev fX:=@List.drop_left'
abbrev fY:=@Nat.lt_of_lt_of_le
abbrev fZ:=@Value.string.injEq
abbrev gB:=@Int.ediv_ediv_of_nonneg
abbrev gD:=@if_true
abbrev gF:=@Bool.or_true
abbrev gG:=@Nat.ne_of_lt
abbrev gH:=@Bool.not_false
abbrev gI:=@decide_eq_true_eq
abbrev gJ:=@Value.tuple.injEq
abbrev gK:=@Maps.has_del_same
abbrev gP:=@List.dropWhile_sublist
abbrev gT:=@Below.heap_alloc
abbrev gU:=@List.drop_append
abbrev gV:=@List.take_length
abbrev gW:=@Value.bool.injEq
abbrev gX:=@Nat.add_assoc
abbrev gY:=@Nat.pow_le_pow_right
abbrev gZ:=@List.getElem?_append
abbrev iA:=@List.mem_filter
abbrev iB:=@IntKind.wrap_u8
abbrev iC:=@List.append_inj
abbrev iD:=@List.dropWhile_cons
abbrev iE:=@List.take_succ_cons
abbrev iG:=@Int.toNat_of_nonneg
abbrev iH:=@Int.pow_succ
abbrev iI:=@Nat.succ_mul
abbrev iK:=@Nat.add_comm
abbrev iL:=@Nat.lt_or_ge
abbrev iN:=@Array.mk.injEq
abbrev iP:=@List.take_zero
abbrev iQ:=@run_part_plain
abbrev iS:=@DataW.trod_int
abbrev iT:=@UInt8.toNat_ofNat'
abbrev iU:=@Maps.has_put_other
abbrev iV:=@Nat.lt_or_gt_of_ne
abbrev iW:=@Nat.eq_zero_or_pos
abbrev iX:=@Int.tdiv_eq_ediv_of_nonneg
abbrev iZ:=@Nat.mul_one
abbrev jA:=@Array.getElem?_eq_getElem
abbrev jB:=@List.getElem?_append_left
abbrev jC:=@run_bytesToString
abbrev jD:=@List.getElem_drop
abbrev jE:=@UInt8.ofNat_toNat
abbrev jF:=@decide_eq_false_iff_not
abbrev jG:=@List.map_map
abbrev jH:=@List.filter_eq_nil_iff
abbrev jI:=@Int.emod_nonneg
abbrev jJ:=@List.head?_cons
abbrev jK:=@Value.agg.injEq
abbrev jL:=@List.headD_cons
abbrev jM:=@UInt8.toNat_inj
abbrev jN:=@Array.getElem?_modify
abbrev jO:=@List.length_singleton
abbrev jP:=@List.length_replicate
abbrev jQ:=@leaves_cons
abbrev jR:=@Option.mem_def
abbrev jT:=@List.tail_cons
abbrev ϯ:=World→Prop
abbrev Ϯ:=TypeId
abbrev Ϫ:=DataW Unit
abbrev ϥ:=List (Nat×List UInt8)
abbrev ϣ:=List UInt8
abbrev Ϥ:=List Nat
abbrev Ϧ:=ByteArray
abbrev ϧ:=Array Value
abbrev Ϩ:=List Value
abbrev ϩ:=Option Int
abbrev Ϣ:=World
abbrev Ϭ:=Option Addr
abbrev ϴ(g:FuncId):Prop:=∀(a:Array Value)(W:World),Sem.run prog (callFunc g a) W=.ok (.enter g a) W
structure Kp(S:Ϥ)(w a:Ϣ):Prop where
 os:a.os=w.os
 tape:a.tape=w.tape
 output:a.output=w.output
 size:w.heap.size<=a.heap.size
 block:∀k,k<w.heap.size->k∉S->a.heap[k]?=w.heap[k]?
def U{w:Ϣ}{k:Nat}{o:Obj}(h:w.heap[k]?=some o):k<w.heap.size:=(Array.getElem?_eq_some_iff.1 h).1
def Kp.refl(S)(w):Kp S w w:=⟨rfl,rfl,rfl,aM _,λ_ _ _=>rfl⟩
def Kp.trans{S S'}{a b c}(h:Kp S a b)(k:Kp S' b c)(f:∀i,i∈S'->i<a.heap.size->i∈S):Kp S a c:=
 ⟨k.os.trans h.os,k.tape.trans h.tape,k.output.trans h.output,lT h.size k.size,λi d e=>
  (k.block i (fY d h.size) λg=>e<|f i g d).trans (h.block i d e)⟩
def Kp.mono{S S'}{a b}(h:Kp S a b)(d:∀i,i∈S->i<a.heap.size->i∈S'):Kp S' a b:=
 ⟨h.os,h.tape,h.output,h.size,λi c e=>h.block i c λhm=>e<|d i hm c⟩
def Kp.drew{S}{a b}(h:Kp S a b):Kp S a b.drew:=⟨h.os,h.tape,h.output,h.size,h.block⟩
def Kp.drewN{S}{a b}(h:Kp S a b)(n:Nat):Kp S a (b.drewN n):=⟨h.os,h.tape,h.output,h.size,h.block⟩
def Kp.alloc{S}{a b}(h:Kp S a b)(o):Kp S a (b.alloc o):=
 ⟨h.os,h.tape,h.output,by have:=h.size;simp;omega,λk c d=>(gT _ _ _<|fY c h.size).trans<|h.block k c d⟩
def Kp.setCell{S}{a b}(h:Kp S a b){p}(c:p.block∈S\/a.heap.size<=p.block)(u):Kp S a (b.setCell p u):=
 ⟨h.os,h.tape,h.output,by have:=h.size;simp[World.setCell];omega,λk f d=>(Below.heap_setCell _ _ _ _ (by
  rcases c with c|c
  .intro e;subst e;exact d c
  .omega)).trans<|h.block k f d⟩
def Kp.grown{S}{a b c}{i:Option Nat}(h:Kp S a b)(d:b.grownBy c i)(j:∀k,i=some k->k∈S\/a.heap.size<=k):Kp S a c:=
 ⟨d.os.trans h.os,d.tape.trans h.tape,d.output.trans h.output,lT h.size d.size,λk f g=>
  (d.block k (fY f h.size) (λe=>by rcases j k e.symm with h1 | h1;exact g h1;omega)).trans (h.block k f g)⟩
def Kp.qL4{B:Nat}{w w'}(h:Below B w w')(a:w.heap.size<=B):Kp [] w w':=
 ⟨h.os,h.tape,h.output,h.size,λk b _=>h.block k (by omega)⟩
def Kp.below{S}{B:Nat}{w w'}(h:Kp S w w')(b:B<=w.heap.size)(a:∀k,k∈S->B<=k):Below B w w':=
 ⟨h.os,h.tape,h.output,h.size,λk c=>h.block k (by omega) (λhm=>by have:=a k hm;omega)⟩
def Kp.heap{S}{w w'}(h:Kp S w w'){k:Nat}{o}(a:w.heap[k]?=some o)(b:k∉S):w'.heap[k]?=some o:=
 (h.block k (U a) b).trans a
def Kp.cell{S}{w w'}(h:Kp S w w'){a}(b:a.block<w.heap.size)(c:a.block∉S):w'.cell? a=w.cell? a:=
 World.cell?_of_block (w:=w) (h.block _ b c)
def Y{w:Ϣ}{b:Nat}{c:ϧ}{t:Ϯ}{a:Nat×Nat}(h:w.heap[b]?=some (ϲ c t a))(o:Nat):w.cell? (ϰ b o)=c[o]?:=by simp[World.cell?,h]
def ω{w:Ϣ}{b:Nat}{c:ϧ}{t:Ϯ}(h:w.heap[b]?=some (ϲ c t))(o:Nat):w.frozen? (ϰ b o)=false:=by simp[World.frozen?,h]
def η{w:Ϣ}{b:Nat}{c:ϧ}{t:Ϯ}{a:Nat×Nat}(h:w.heap[b]?=some (ϲ c t a))(o:Nat)(v:Value):(w.setCell (ϰ b o) v).heap[b]?=some (ϲ (c.setIfInBounds o v) t a):=by simp[World.setCell,jN,h]
def Bd{w:Ϣ}{b k:Nat}(a:k≠b)(o:Nat)(v:Value):(w.setCell (ϰ b o) v).heap[k]?=w.heap[k]?:=Below.heap_setCell _ _ _ _ a
def φ(w:Ϣ)(o:Obj):(w.alloc o).heap[w.heap.size]?=some o:=by show(w.heap.push o)[w.heap.size]?=_;simp
def ψ{w:Ϣ}(o:Obj){k:Nat}{x:Obj}(h:w.heap[k]?=some x):(w.alloc o).heap[k]?=some x:=(gT _ _ _<|U h).trans h
def Kp.hp {S:List Nat} {w w':World} (h:Kp S w w') {k:Nat} {o:Obj} (hk:w.heap[k]?=some o) (hn:k∉S:=by simp):w'.heap[k]?=some o:=h.heap hk hn
def Kp.ho {S:List Nat} {w w':World} (h:Kp S w w') {k:Nat} {o:Obj} (hk:w.heap[k]?=some o) (hn:k∉S:=by simp;omega):w'.heap[k]?=some o:=h.heap hk hn
def Kp.tr {S S':List Nat} {a b c:World} (h:Kp S a b) (k:Kp S' b c) (hS:∀i,i∈S'→i<a.heap.size→i∈S:=by simp):Kp S a c:=h.trans k hS
def Kp.sc {S:List Nat} {a b:World} (h:Kp S a b) {p:Addr} (u:Value) (hp:p.block∈S∨a.heap.size≤p.block:=by simp):Kp S a (b.setCell p u):=h.setCell hp u
section
variable {P:Program} {md:Region.Mode} {ops:Array Oper} {Q:Exit→Act→World→Prop} {S:World→Prop} {oi oj:Oper} {fuel:Nat} {l:Array Bool} {a a':Act} {w:World}
def zW (i:Nat) (v:Value) (hS:S w) {b:Nat} {c:Array Value} {t:TypeId} {fr:Nat×Nat} (hc:∀{W},S W→W.heap[b]?=some (.cells c t fr)) (h:wpAnyH P md ops Q S fuel (l.setIfInBounds i true) a' w) (hi:ops[i]?=some oi:=by rfl) (hb:(Region.noSelect ops && (Region.free md ops l i && (Region.ready md ops l).contains i))=true:=by kernel_rfl) (hQ:∀c a w,Q (.panic c) (a.put oi.dst v) w→Q (.panic c) a w:=by exact fun _ _ _ h=>h) (hw:Region.wanted oi (yielded ops a.tmps)=true:=by rfl) (hy:∀W,(∀o,W.cell? ⟨b,o,none⟩=c[o]?)→(execOp a.eval oi).run P W=.ok (.value v) W:=by intro W h;go_simp) (ha:a.put oi.dst v=a':=by simp only [zZ];try exact rfl):wpAnyH P md ops Q S (fuel+1) l a w:=zV i v hi (fun W h=>hy W (Y (hc h))) hS h hb hQ hw ha
end
def ϻ{w:World}{k:Nat}{c:Array Value}{t:TypeId}{fr:Nat×Nat}(h:w.heap[k]?=some (.cells c t fr))(i:Nat){v:Value}(hv:c[i]?=some v:=by rfl):w.cell? ⟨k,i,none⟩=some v:=(Y h i).trans hv
def CX(w:World)(o:Obj):∃v,v=w.alloc o∧v.heap[w.heap.size]?=some o∧Kp [] w v:=⟨_,rfl,φ _ _,(Kp.refl _ _).alloc _⟩
def Ja(w:World)(o:Obj):∃v,v=w.alloc o∧v.heap[w.heap.size]?=some o∧Kp [] w v∧v.heap.size=w.heap.size+1:=⟨_,rfl,φ _ _,(Kp.refl _ _).alloc _,by simp⟩
def El(w:World)(a b:Obj):∃v,v=(w.alloc a).alloc b∧v.heap[w.heap.size]?=some a∧v.heap[w.heap.size+1]?=some b∧Kp [] w v∧v.heap.size=w.heap.size+2:=⟨_,rfl,ψ _ (φ _ _),by simpa using φ (w.alloc a) b,((Kp.refl _ _).alloc _).alloc _,by simp⟩
def En(w:World)(a b c:Obj):∃v,v=((w.alloc a).alloc b).alloc c∧v.heap[w.heap.size]?=some a∧v.heap[w.heap.size+1]?=some b∧v.heap[w.heap.size+1+1]?=some c∧Kp [] w v∧v.heap.size=w.heap.size+3:=⟨_,rfl,ψ _ (ψ _ (φ _ _)),ψ _ (by simpa using φ (w.alloc a) b),by simpa using φ ((w.alloc a).alloc b) c,(((Kp.refl _ _).alloc _).alloc _).alloc _,by simp⟩
def KQ(w:World)(a b c:Obj):∃v,v=((w.alloc a).alloc b).alloc c∧v.heap[w.heap.size]?=some a∧v.heap[w.heap.size+1]?=some b∧v.heap[w.heap.size+2]?=some c∧Kp [] w v∧v.heap.size=w.heap.size+3:=En w a b c
def Jb(w:World)(a b:Obj):∃v,v=(w.alloc a).alloc b∧v.heap[w.heap.size]?=some a∧v.heap[w.heap.size+1]?=some b∧Kp [] w v:=⟨_,rfl,ψ _ (φ _ _),by simpa using φ (w.alloc a) b,((Kp.refl _ _).alloc _).alloc _⟩
def KR(w:World)(a b c d:Obj):∃v,v=(((w.alloc a).alloc b).alloc c).alloc d∧v.heap[w.heap.size]?=some a∧v.heap[w.heap.size+1]?=some b∧v.heap[w.heap.size+1+1]?=some c∧v.heap[w.heap.size+1+1+1]?=some d∧Kp [] w v∧v.heap.size=w.heap.size+4:=⟨_,rfl,ψ _ (ψ _ (ψ _ (φ _ _))),ψ _ (ψ _ (by simpa using φ (w.alloc a) b)),ψ _ (by simpa using φ ((w.alloc a).alloc b) c),by simpa using φ (((w.alloc a).alloc b).alloc c) d,((((Kp.refl _ _).alloc _).alloc _).alloc _).alloc _,by simp⟩
def FC(w:World)(o:Obj):∃v,v=(w.alloc o).drew∧v.heap[w.heap.size]?=some o∧Kp [] w v:=⟨_,rfl,φ _ _,((Kp.refl _ _).alloc _).drew⟩
section
variable {P:Program}{md:Region.Mode}{ops:Array Oper}{Q:Exit→Act→World→Prop}{S:World→Prop}{fuel:Nat}{l:Array Bool}{a a':Act}{w:World}
def zk {K:Act→World→Prop}(hK:Shut (∀a w,S w→(S w→wpAnyH P md ops Q S fuel l a w)→K a w))(hS:S w)(h:wpAnyH P md ops Q S fuel l a' w)(ha:a=a':=by first | (simp only [zZ];try exact rfl) | exact rfl):K a w:=by
 subst ha;exact hK.out a w hS fun _=>h
end
def mR{P:Program}{f:FuncId}{a:Array Value}{w:World}{v:Value}{Q:World→Prop}{K:Ending→World→Prop}(h:Calls P f a w fun e w'=>e=.returned v∧Q w')(k:∀w',Q w'→K (.returned v) w'):Calls P f a w K:=h.mono (by rintro e w' ⟨rfl,h⟩;exact k w' h)
def n2{a b:Prop}(x:a)(y:b):a∧b:=⟨x,y⟩
def n3{a b c:Prop}(x:a)(y:b)(z:c):a∧b∧c:=⟨x,y,z⟩
def n4{a b c d:Prop}(x:a)(y:b)(z:c)(u:d):a∧b∧c∧d:=⟨x,y,z,u⟩
def n5{a b c d e:Prop}(x:a)(y:b)(z:c)(u:d)(v:e):a∧b∧c∧d∧e:=⟨x,y,z,u,v⟩
def n6{a b c d e f:Prop}(x:a)(y:b)(z:c)(u:d)(v:e)(w:f):a∧b∧c∧d∧e∧f:=⟨x,y,z,u,v,w⟩
def gE{x:World}{k:Nat}{o:Obj}{S:List Nat}{W:World}(h:x.heap[k]?=some o∧Kp S W x):∃v,v=x∧v.heap[k]?=some o∧Kp S W v:=⟨x,rfl,h⟩
def eX.{u}{α:Sort u}(x:α):∃v,v=x:=⟨x,rfl⟩
def eY.{u}{α:Sort u}(x:α):∃v,x=v:=⟨x,rfl⟩
def oM{p:Prop}(h:p:=by omega):p:=h
def dC{p:Prop}(h:p:=by decide):p:=h
def sM{p:Prop}(h:p:=by simp):p:=h
def sO{p:Prop}(h:p:=by simp;omega):p:=h
def kR{p:Prop}(h:p:=by kernel_rfl):p:=h
def kF{S:List Nat}{w:World}:Kp S w w:=Kp.refl _ _
def lR{n:Nat}:n≤n:=Nat.le_refl _
abbrev kE:=@Kp.refl
section
variable {P:Program}{md:Region.Mode}{ops:Array Oper}{Q:Exit→Act→World→Prop}{S:World→Prop}{oi:Oper}{fuel:Nat}{l:Array Bool}{a a':Act}{w:World}{v:Value}
def zN(i:Nat)(hS:S w)(h:wpAnyH P md ops Q S fuel (l.setIfInBounds i true) a' w) (hi:ops[i]?=some oi:=by rfl) (hb:(Region.noSelect ops && (Region.free md ops l i && (Region.ready md ops l).contains i))=true:=by kernel_rfl) (hQ:∀c a w,Q (.panic c) (a.put oi.dst v) w→Q (.panic c) a w:=by exact fun _ _ _ h=>h) (hw:Region.wanted oi (yielded ops a.tmps)=true:=by rfl) (hy:∀W,(execOp a.eval oi).run P W=.ok (.value v) W:=by intro W;go_simp;exact rfl) (ha:a.put oi.dst v=a':=by simp only [zZ];try exact rfl):wpAnyH P md ops Q S (fuel+1) l a w:=zU i v hS h hi hb hQ hw hy ha
def zn(i:Nat)(h:wpAny P md ops Q fuel (l.setIfInBounds i true) a' w) (hi:ops[i]?=some oi:=by rfl) (hb:(Region.noSelect ops && (Region.free md ops l i && (Region.ready md ops l).contains i))=true:=by kernel_rfl) (hQ:∀c a w,Q (.panic c) (a.put oi.dst v) w→Q (.panic c) a w:=by exact fun _ _ _ h=>h) (hw:Region.wanted oi (yielded ops a.tmps)=true:=by rfl) (hy:∀W,(execOp a.eval oi).run P W=.ok (.value v) W:=by intro W;go_simp;exact rfl) (ha:a.put oi.dst v=a':=by simp only [zZ];try exact rfl):wpAny P md ops Q (fuel+1) l a w:=zu i v h hi hb hQ hw hy ha
def zw(i:Nat)(hS:S w){b:Nat}{c:Array Value}{t:TypeId}{fr:Nat×Nat}(hc:∀{W},S W→W.heap[b]?=some (.cells c t fr))(h:wpAnyH P md ops Q S fuel (l.setIfInBounds i true) a' w) (hi:ops[i]?=some oi:=by rfl) (hb:(Region.noSelect ops && (Region.free md ops l i && (Region.ready md ops l).contains i))=true:=by kernel_rfl) (hQ:∀c a w,Q (.panic c) (a.put oi.dst v) w→Q (.panic c) a w:=by exact fun _ _ _ h=>h) (hw:Region.wanted oi (yielded ops a.tmps)=true:=by rfl) (hy:∀W,(∀o,W.cell? ⟨b,o,none⟩=c[o]?)→(execOp a.eval oi).run P W=.ok (.value v) W:=by intro W h;go_simp;exact rfl) (ha:a.put oi.dst v=a':=by simp only [zZ];try exact rfl):wpAnyH P md ops Q S (fuel+1) l a w:=zW i v hS hc h hi hb hQ hw hy ha
end
def CY(s x:Int):Int:=IntKind.u64.wrap (bits BinOp.xor .u64 s (IntKind.u64.wrap x)*1099511628211)
def A9(xs:List Int):Int:=xs.foldl CY 14695981039346656037
def Wj(a:List Int)(k:Nat)(h:k<a.length):A9 (a.take (k+1))=CY (A9 (a.take k)) a[k]:=by unfold A9;rw[tA h,List.foldl_append];rfl
def C6{k:IntKind}{a b:Int}(h:a=b):Ending.returned (.int k a)=ϱ (.int k b):=by rw[h]
def MH(b d a f:Nat)(c:List Int)(w)(p:c.length=a)(n:a<=1000000) (g:∀j,j<a->w.cell? (ϰ b (d+j))=some (.int .u8 (c.getD j 0))):Ω 251 #[.slice (some (ϰ b d)) a f] w λe m=>e=ϱ (.int .u64 (A9 c))/\m=w:=by go_enter func251,ntmps251;go_wp2;go_loop [3,8] (λs i=>∃(k:Nat),k<=a/\i=.int .i64 k/\s=.int .u64 (A9<|c.take k)) λ_ i=>a-(intOf i).toNat;(case atStart=>exact⟨0,zL _,rfl,rfl⟩);case round=>obtain⟨k,o,rfl,rfl⟩:=hrel;by_cases h:k<a;(.have:=g k h;have l:=Wj c k oM;go_wp2;refine⟨⟨k+1,oM,by go_num,by rw[l];rfl⟩,iO⟩);go_wp2;go_ret;exact⟨C6 (by rw[tL oM]),rfl⟩
def Cm(xs:List Int):Int:=xs.foldr (fun x n=>bits BinOp.or .u64 (IntKind.u64.wrap (n*256)) (IntKind.u64.wrap x)) 0
def IF(b f c h:Nat)(a:List Int)(w)(s:a.length=c)(p:c<=1000000) (l:∀j,j<c->w.cell? (ϰ b (f+j))=some (.int .u8 (a.getD j 0))):Ω 248 #[.slice (some (ϰ b f)) c h] w λe o=>e=ϱ (.int .u64 (Cm a))/\o=w:=by go_enter func248,ntmps248;go_wp2;go_loop [3,4] (λn i=>∃(k:Nat),k<=c/\i=.int .i64 ((k:Int)-1)/\n=.int .u64 (Cm<|a.drop k)) λ_ i=>(intOf i+1).toNat;(case atStart=>exact⟨c,lR,by go_num,by rw[dL oM];rfl⟩);case round=>obtain⟨k,q,rfl,rfl⟩:=hrel;by_cases r:0<k;(.obtain⟨j,rfl⟩:∃j,k=j+1:=⟨k-1,oM⟩;have:=l j oM;(have g:Hid (Cm (a.drop j)=bits BinOp.or .u64 (IntKind.u64.wrap<|Cm (a.drop<|j+1)*256) (IntKind.u64.wrap<|a[j]?.getD 0)):=by have d:j<a.length:=oM;show _=_;rw[dG d,gQ d];rfl);go_wp2;refine⟨⟨j,oM,rfl,by rw[g.out]⟩,by simp[intOf]⟩);have m:k=0:=oM;subst m;have:decide ((0:Int)<=((0:Nat):Int)-1)=false:=dC;go_wp2;go_ret;exact⟨C6 sM,rfl⟩
def AB:Nat→Int→List Int
 | 0,_=>[]
 | k+1,n=>n % 256::AB k (n / 256)
def CK(k:Nat)(n:Int):(AB k n).length=k:=by induction k generalizing n<;>simp_all [AB]
def Ax(xs:List Int):List Value:=xs.map (.int .u8)
def LP(k:Nat)(n:Int):AB (k+1) n=AB k n++[n / (256:Int) ^ k % 256]:=by induction k generalizing n with|zero=>simp[AB]|succ k ih=>rw[AB,ih<|n / 256,AB];simp[cA];rw[Int.ediv_ediv_of_nonneg dC,Int.pow_succ,Int.mul_comm]
def qL8{w:Ϣ}{b:Nat}{e:Ϯ}{d:Nat}{v:Value}{n:Nat}{f:Ϩ}(h:w.ownsRow b e d v n f):∀k,v.ownBlock=some k->b<=k:=by let⟨_,h2⟩:=h;rcases h2 with⟨rfl,_⟩|⟨g,i,j,rfl,c,_⟩;intro k a;cases a;intro k a;cases a;exact c
def Tryz.qO0:(prog.info? 5).map (λi=>(i.zero,i.size,i.bytes))=some (some (.int .u8 0),1,1):=kR
def KU(v)(b k:Nat)(f:List Int)(n:Int)(m:Nat)(w)(F:k<=1000)(C:m<=100)(t:0<=n) (z:b<=w.heap.size) (u:w.ownsRow b 5 1 v k (Ax f)):Ω 250 #[v,.int .u64 n,ϊ m] w λe o=>∃c,e=ϱ c/\o.ownsRow b 5 1 c (k+m) (Ax (f++AB m n))/\Below b w o:=by let⟨i0,hi,hz0,hz1,hz2⟩:=info_parts Tryz.qO0;go_enter func250,ntmps250;go_wp2;go_loopw [0,1,8] (λs q i wr=>∃(j:Nat)(c:Value)(a:Int),j<=m/\i=.int .i64 j/\q=.int .u64 a/\a=n / (256:Int) ^ j/\0<=a/\a<=n/\s=c/\wr.ownsRow b 5 1 c (k+j) (Ax<|f++AB j n)/\Below b w wr) λ_ _ i _=>m-(intOf i).toNat;(case atStart=>exact⟨0,v,n,Nat.zero_le _,rfl,rfl,sM,t,Int.le_refl _,rfl,by simpa [AB] using u,Below.refl _ _⟩);case round=>obtain⟨j,c,a,A,rfl,rfl,l,D,E,rfl,g,d⟩:=hrel;have h:=zh l;clear l;by_cases B:j<m;(.go_wp2_with (at_builtin;refine wpList_append_own _ rfl _ _ 118 rfl b 5 i0 (.int .u8 0) 1 1 underlying118 hi hz0 hz1 hz2 rfl dC _ _ _ rfl (g.alloc _) (ϰ wr.heap.size 0) 1 1 [.int .u8<|a % 256] rfl rfl (cell_one_new _ _ _) (by simp[Value.oneCell']) (by unfold maxLen;omega) oM (by have:=d.size;simp;omega) ?_;intro y G x r _);refine⟨⟨j+1,y,a / 256,oM,by go_num,rfl,?_,oM,oM,rfl,?_,?_⟩,iO⟩;rw[h.out,Int.ediv_ediv_of_nonneg (by exact Int.pow_nonneg dC),Int.pow_succ];(have p:Ax (f++AB (j+1) n)=Ax (f++AB j n)++[.int .u8<|a % 256]:=by rw[LP,<-h.out];simp[Ax]);rw[p];exact x;exact(d.alloc (oW d.size) _).grown r (by have:=d.size;simp;omega)<|qL8 g);go_wp2;go_ret;have e:j=m:=oM;subst e;exact⟨_,rfl,g,d⟩
def Am(cs:Array Value)(o n:Nat):Array Value:=((cs.toList.drop o).take n).toArray
def Cz(cs:Array Value)(o:Nat)(p:Array Value):Array Value:=(cs.toList.take o++p.toList++cs.toList.drop (o+p.size)).toArray
def FM{cs}{o n:Nat}(h:o+n<=cs.size):(Am cs o n).size=n:=by simp[Am];omega
def Gx{cs}{o n j:Nat}(h:j<n):(Am cs o n)[j]?=cs[o+j]?:=by simp[Am,aX,h]
def Kp.setRow{S}{a b}(h:Kp S a b){g:Nat}(c:g∈S\/a.heap.size<=g)(cs):Kp S a (b.setRow g cs):=
 ⟨h.os,h.tape,h.output,by have:=h.size;simp[World.setRow];omega,λk f d=>(aU _ _ _ _ (by
  rcases c with c|c
  .intro e;subst e;exact d c
  .omega)).trans<|h.block k f d⟩
def D7{w:Ϣ}{c:Nat}{e:Ϯ}{f:Nat}{v:Value}{n:Nat}{i:Ϩ}(h:w.ownsRow c e f v (n+1) i):∃g b,v=.slice (some (ϰ g 0)) (n+1) b:=by let⟨_,h2⟩:=h;rcases h2 with⟨_,d⟩|⟨g,b,j,rfl,_⟩;cases d;exact⟨g,b,rfl⟩
section
variable {P:Program} {w:Ϣ} {ops:Array Oper} {rest:List Oper} {a:Act} {Q:Exit→Act→ϯ} {dst:Option Tmp} {ty:Ϯ} {pos:String} {aft:Array Edge}
def Cp(b o j:Nat):((ϰ b o):Addr).add j=(ϰ b (o+j)):=by unfold Addr.add;split<;>simp_all
def Hb{t t' e}(ty)(y:P.underlying t=some (.slice e))(x:(P.info? e).map (·.size)=some 1) {g o dLen dCap b c sLen sCap:Nat} (n:Nat) (s:n=Nat.min sLen dLen) {cur d} {tg tb} {fr} (p:w.heap[g]?=some (ϲ cur tg)) (m:w.heap[b]?=some (ϲ d tb fr)) (z:o+n<=cur.size) (q:c+n<=d.size) (l:∀v∈(Am d c n).toList,v.oneCell'=true):Sem.run P (Builtin.copy_ #[t,t'] ty #[.slice (some (ϰ g o)) dLen dCap,.slice (some (ϰ b c)) sLen sCap]) w=.ok (ϊ n) (w.setRow g (Cz cur o (Am d c n))):=by have f:=FM (cs:=d) q;have u:=run_copy_row P w t t' ty e g o dLen dCap (ϰ b c) sLen sCap cur tg (Am d c n).toList y x p (by rw[bL,f,s]) (λj v h=>by rw[Cp,Y m];(have r:j<n:=by have:=(gS h).1;simp[f]at this;exact this);rw[<-Gx r];simpa using h) (by simp[f];omega) l;(have i:goInt ((Am d c n).toList.length:Int)=.int .i64 n:=by simp[goInt,f]);(have k:(cur.toList.take o++(Am d c n).toList++cur.toList.drop (o+(Am d c n).toList.length)).toArray=Cz cur o (Am d c n):=by simp[Cz]);rw[u,i,k]
def E1{g o:Nat}{t}{vs:Ϩ}{cur}(d:w.heap[g]?=some (ϲ cur t))(c:o+vs.length<=cur.size)(b:∀v∈vs,v.oneCell'=true):Sem.run P (storeCells (ϰ g o) vs) w=.ok () (w.setRow g (Cz cur o vs.toArray)):=by have e:=run_storeCells_at P g o t vs 0 cur w d (sU c) b;rw[e];simp[Cz]
def IM{b o n:Nat}{src}{tb}{fr}(e:w.heap[b]?=some (ϲ src tb fr))(f:o+n<=src.size):Sem.run P (loadCells (ϰ b o) n) w=.ok (Am src o n) w:=by have d:=FM (cs:=src) f;have g:=run_loadCells_list (P:=P) w (ϰ b o) (Am src o n).toList (λj v c=>by rw[Cp,Y e];(have h:j<n:=by have:=(gS c).1;simp[d]at this;exact this);rw[<-Gx h];simpa using c);simpa [d] using g
def BF{o:Oper}{v}{w'}{K:Act->ϯ}{E:Prop}(b:o.guard=none)(c:Sem.run P (execOp a.eval o) w=.ok (.value v) w')(hK:K (a.put o.dst v) w'):if Region.wanted o (yielded ops a.tmps)=true then Oper.wp P o a w K Q else E:=by
 have d:Region.wanted o (yielded ops a.tmps)=true:=by simp[Region.wanted,b]
 rw[aR d];unfold Oper.wp;rwa[c]
def qD7{o:Oper}{w'}{K:Act->ϯ}{E:Prop}(b:o.guard=none)(c:Sem.run P (execOp a.eval o) w=.ok .skip w')(hK:K (a.put o.dst undef) w'):if Region.wanted o (yielded ops a.tmps)=true then Oper.wp P o a w K Q else E:=by
 have d:Region.wanted o (yielded ops a.tmps)=true:=by simp[Region.wanted,b]
 rw[aR d];unfold Oper.wp;rwa[c]
def OE{o:Oper}{x:Operand}{t}(j:o.op=.load t x)(Cy:(match P.underlying t with | some (.struct _)=>true | some (.array _ _)=>true | _=>false)=true)(n:Nat)(l:(P.info? t).map (·.size)=some n) (b c:Nat) (m:a.eval x=.pointer (some (ϰ b c))) {src} {tb} {fr} (e:w.heap[b]?=some (ϲ src tb fr)) (g:c+n<=src.size):Sem.run P (execOp a.eval o) w=.ok (.value (.agg (Am src c n))) w:=by let⟨i,f,h⟩:=bR.1 l;(have k:Sem.run P (Instr.loadAt t<|ϗ<|some<|ϰ b c) w=.ok (.agg<|Am src c n) w:=by cases hd:P.underlying t with|none=>simp[hd]at Cy|some d=>cases d<;>simp[hd]at Cy<;>simp[Instr.loadAt,Instr.sureAddr,loadVar,isAgg,cO hd,Go.sizeOf,typeInfo,f,h,IM (P:=P) e g]);unfold execOp;simp[j,bO,dA,aZ,m,k]
def FE{o:Oper}{x:Operand}{t e}(j:o.op=.buildSlice t 1 #[(0,x)])(v z)(c d:Nat)(m:P.underlying t=some (.slice e))(g:(P.info? e).map (λi=>(i.zero,i.size,i.bytes))=some (some z,c,d)) (p:a.eval x=v) (n:v.cells.size=c) (r:0<c) (u:c<=16777216):Sem.run P (execOp a.eval o) w=.ok (.value (.slice (some (ϰ w.heap.size 0)) 1 1)) (w.alloc (ϲ v.cells e)):=by let⟨i,h,b⟩:=bR.1 g;simp[eU]at b;let⟨b,l,q⟩:=b;have f:=Great.fill_whole (s:=i.size) oM [v] ((Array.range<|1*i.size).map (z.cells[·% z.cells.size]!)) (by simp[n,l]) sM;have k:=run_buildSlice (P:=P) w t e 1 #[(0,v)] v.cells i z m h b oM oM (sU f);unfold execOp;simp[j,bO,dA,aZ,dN,bE,cV,p,k]
def VH{o:Oper}{s x:Operand}{t e}(I:o.op=.call { callee:=.builtin .append,args:=#[s,x],argTypes:=#[t,t] })(z)(d q:Nat)(R:P.underlying t=some (.slice e))(F:(P.info? e).map (λi=>(i.zero,i.size,i.bytes))=some (some z,d,q)) (T:z.cells.size=d) (N:0<d) (l:Nat) (v) (n:Nat) (r:Ϩ) (M:a.eval s=v) (K:w.ownsRow l e d v n r) (b f m c:Nat) (g) (tb) (fr) (S:a.eval x=.slice (some (ϰ b f)) m c) (B:w.heap[b]?=some (ϲ g tb fr)) (G:f+m*d<=g.size) (A:∀u∈(Am g f (m*d)).toList,u.oneCell'=true) (Z:n+m<=1000000000) (E:(n+m)*q<=140737488355328) (C:l<=w.heap.size):∃h k,Sem.run P (execOp a.eval o) w=.ok (.value h) k/\k.ownsRow l e d h (n+m) (r++(Am g f (m*d)).toList)/\w.grownBy k v.ownBlock/\(h=.slice none 0 0↔v=.slice none 0 0/\m=0):=by let⟨i,hi',p⟩:=bR.1 F;simp[eU]at p;let⟨p,O,D⟩:=p;have y:=FM (cs:=g) G;let⟨h,k,L,V,W,X⟩:=dR (P:=P) w l t o.type e i z d q R hi' p O D T N v n r K (ϰ b f) m c (Am g f<|m*d).toList (sU y) (λj u hj=>by rw[Cp,Y B];(have H:j<m*d:=by have:=(gS hj).1;simp[y]at this;exact this);rw[<-Gx H];simpa using hj) A (by unfold maxLen;omega) E C;refine⟨h,k,?_,V,W,X⟩;unfold execOp;simp[I,resolve,invoke,builtin,bO,dA,aZ,dN,bE,cV,M,S,L]
def Ga{o:Oper}{x:Operand}{t}(f:o.op=.load t x)(Cy:(match P.underlying t with | some (.struct _)=>true | some (.array _ _)=>true | _=>false)=true)(n:Nat)(g:(P.info? t).map (·.size)=some n) (b:Nat) (i:a.eval x=ϖ b) {src} {tb} {fr} (c:w.heap[b]?=some (ϲ src tb fr)) (d:src.size=n):Sem.run P (execOp a.eval o) w=.ok (.value (.agg src)) w:=by
 have h:=OE (P:=P) f Cy n g b 0 i c oM;have e:Am src 0 n=src:=by rw[<-d];simp[Am,tL]
 rwa[e]at h
def Ke{o:Oper}{K:Act->World->Prop}{E:Prop}(C:o.guard=none){s x:Operand}{t e}(G:o.op=.call { callee:=.builtin .append,args:=#[s,x],argTypes:=#[t,t] })(z)(d l:Nat)(N:P.underlying t=some (.slice e))(D:(P.info? e).map (λi=>(i.zero,i.size,i.bytes))=some (some z,d,l))
  (R:z.cells.size=d) (M:0<d) (k:Nat) (v) (n:Nat) (p:List Value) (L:a.eval s=v) (H:w.ownsRow k e d v n p)
  (b f m c:Nat) (g) (tb) (fr) (O:a.eval x=.slice (some ⟨b,f,none⟩) m c) (y:w.heap[b]?=some (.cells g tb fr)) (F:f+m*d<=g.size)
  (q:∀u∈(Am g f (m*d)).toList,u.oneCell'=true) (r:n+m<=1000000000) (B:(n+m)*l<=140737488355328) (A:k<=w.heap.size)
  (hK:∀h j,j.ownsRow k e d h (n+m) (p++(Am g f (m*d)).toList)->w.grownBy j v.ownBlock->(h=.slice none 0 0↔v=.slice none 0 0/\m=0)->K (a.put o.dst h) j):
  if Region.wanted o (yielded ops a.tmps)=true then Oper.wp P o a w K Q else E:=by let⟨h,j,I,S,T,V⟩:=VH (P:=P) G z d l N D R M k v n p L H b f m c g tb fr O y F q r B A;exact BF C I<|hK h j S T V
def DP{o:Oper}{x:Operand}{t}(f:o.op=.load t x)(Cy:(match P.underlying t with | some (.struct _)=>true | some (.array _ _)=>true | _=>false)=true)(n:Nat)(h:(P.info? t).map (·.size)=some n) (b c:Nat) (i:a.eval x=.pointer (some (ϰ b c))) {src r} {tb} {fr} (d:w.heap[b]?=some (ϲ src tb fr)) (e:c+n<=src.size) (g:Am src c n=r):Sem.run P (execOp a.eval o) w=.ok (.value (.agg r)) w:=g ▸ OE f Cy n h b c i d e
def VJ{o:Oper}{x y:Operand}{t}(g:o.op=.store t x y)(vs)(k:(P.info? t).map (·.size)=some vs.size) (b c:Nat) (l:a.eval x=ϗ (some (ϰ b c))) (m:a.eval y=.agg vs) {cur} {tb} (e:w.heap[b]?=some (ϲ cur tb)) (f:c+vs.size<=cur.size) (d:∀v∈vs.toList,v.oneCell'=true):Sem.run P (execOp a.eval o) w=.ok .skip (w.setRow b (Cz cur c vs)):=by let⟨i,hi,hin'⟩:=bR.1 k;have h:=E1 (P:=P) (w:=w) (o:=c) (vs:=vs.toList) e (sU f) d;(have j:Sem.run P (Instr.storeAt t (ϗ<|some<|ϰ b c)<|.agg vs) w=.ok () (w.setRow b<|Cz cur c vs):=by simp[Instr.storeAt,Instr.sureAddr,storeVar,Go.sizeOf,typeInfo,hi,hin',Value.cells,h]);unfold execOp;simp[g,bO,dA,aZ,l,m,j]
def QD(cs):Am cs 0 cs.size=cs:=by simp[Am,tL]
def GE{x:Operand}{t}(Cy:(match P.underlying t with | some (.struct _)=>true | some (.array _ _)=>true | _=>false)=true)(n:Nat)(s:(P.info? t).map (·.size)=some n) (b o:Nat) (u:a.eval x=.pointer (some (ϰ b o))) (src) (tb) (fr) (f:w.heap[b]?=some (ϲ src tb fr)) (k:o+n<=src.size) (h:wpList P ops Q rest (a.put dst (.agg (Am src o n))) w):wpList P ops Q (⟨dst,.load t x,ty,pos,aft,none⟩::rest) a w:=by refine wpList_plain rfl λK hK=>?_;have e:=FM (cs:=src) k;have m:=run_loadCells_list (P:=P) w (ϰ b o) (Am src o n).toList (λj v c=>by rw[Cp,Y f];(have q:j<n:=by have:=(gS c).1;simp[e]at this;exact this);rw[<-Gx q];simpa using c);let⟨i,g,l⟩:=bR.1 s;(have p:Sem.run P (loadCells (ϰ b o) n) w=.ok (Am src o n) w:=by simpa [e] using m);(have r:Sem.run P (Instr.loadAt t<|ϗ<|some<|ϰ b o) w=.ok (.agg<|Am src o n) w:=by cases hd:P.underlying t with|none=>simp[hd]at Cy|some d=>cases d<;>simp[hd]at Cy<;>simp[Instr.loadAt,Instr.sureAddr,loadVar,isAgg,cO hd,Go.sizeOf,typeInfo,g,l,p]);unfold Oper.wp execOp;simp[bO,dA,aZ,u,r];exact hK _ _ h
def qI7{t e}{l c:Operand}(z)(j d:Nat)(u:P.underlying t=some (.slice e))(p:(P.info? e).map (λi=>(i.zero,i.size,i.bytes))=some (some z,j,d)) (kl g:IntKind) (n:Nat) (r:a.eval l=.int kl n) (o:a.eval c=.int g n) (v:d*n<=281474976710656) (x:n<=1000000000) (h:wpList P ops Q rest (a.put dst (.slice (some (ϰ w.heap.size 0)) n n)) (w.alloc (ϲ (madeCells z.cells (n*j)) e))):wpList P ops Q (⟨dst,.makeSlice t l c,ty,pos,aft,none⟩::rest) a w:=by refine wpList_plain rfl λK hK=>?_;let⟨i,q,b⟩:=bR.1 p;simp[eU]at b;let⟨b,s,m⟩:=b;(have k:(i.bytes:Int)*(n:Int)<=281474976710656:=by rw[m];have h:((d*n:Nat):Int)<=281474976710656:=oM;rwa [Int.natCast_mul]at h);have f:=run_make (P:=P) w t e i z u q b kl g n n oM (iR _) k oM;simp[dD,s]at f;unfold Oper.wp execOp;simp[bO,dA,aZ,r,o,f];exact hK _ _ h
def PY{z}{n:Nat}{z0}(e:∀v∈z.toList,v=z0)(f:n=0\/0<z.size):∀v∈(madeCells z n).toList,v=z0:=by
 intro v b;simp[madeCells,Array.toList_map,aQ,Array.toList_range,List.mem_range]at b;obtain⟨x,g,rfl⟩:=b;have d:0<z.size:=oM
 have c:x % z.size<z.size:=Nat.mod_lt _ d;rw[getElem!_pos z _ c];exact e _ sM
def QO{t e}(z z0)(g c:Nat)(o:P.underlying t=some (.slice e))(l:(P.info? e).map (λi=>(i.zero,i.size,i.bytes))=some (some z,g,c)) (p:∀v∈z.cells.toList,v=z0) (q:0<z.cells.size) (kl f:IntKind) (n:Nat) (r:c*n<=281474976710656) (s:n<=1000000000) (w):∃Z:ϧ,Z.size=n*g/\(∀v∈Z.toList,v=z0)/\Sem.run P (Instr.makeSlice t (.int kl n) (.int f n)) w=.ok (.slice (some (ϰ w.heap.size 0)) n n) (w.alloc (ϲ Z e)):=by let⟨i,hi',b⟩:=bR.1 l;simp[eU]at b;let⟨b,m,k⟩:=b;(have j:(i.bytes:Int)*(n:Int)<=281474976710656:=by rw[k];have h:((c*n:Nat):Int)<=281474976710656:=oM;rwa [Int.natCast_mul]at h);have d:=run_make (P:=P) w t e i z o hi' b kl f n n oM (iR _) j oM;simp[dD,m]at d;exact⟨_,by simp[madeCells],PY p<|Or.inr q,d⟩
def Ry{t e}{l c:Operand}(z z0)(d b:Nat)(p:P.underlying t=some (.slice e))(k:(P.info? e).map (λi=>(i.zero,i.size,i.bytes))=some (some z,d,b)) (q:∀v∈z.cells.toList,v=z0) (r:0<z.cells.size) (kl f:IntKind) (n:Nat) (m:a.eval l=.int kl n) (j:a.eval c=.int f n) (g:b*n<=281474976710656) (o:n<=1000000000) (h:∀Z:ϧ,Z.size=n*d->(∀v∈Z.toList,v=z0)->wpList P ops Q rest (a.put dst (.slice (some (ϰ w.heap.size 0)) n n)) (w.alloc (ϲ Z e))):wpList P ops Q (⟨dst,.makeSlice t l c,ty,pos,aft,none⟩::rest) a w:=
 qI7 z d b p k kl f n m j g o (h _ (by simp[madeCells])<|PY q<|Or.inr r)
end
def kl(a b:ByteArray):Bool:=Op.bytesLess a.toList b.toList
def PK:∀(x y:ϣ),Op.bytesLess x y=decide (x<y)
 |[],[]=>by simp[Op.bytesLess]|_::_,[]=>by simp[Op.bytesLess]|[],_::_=>by simp[Op.bytesLess]|a::x,b::y=>by rw[Op.bytesLess,PK x y];simp[List.cons_lt_cons_iff];by_cases c:a<b<;>by_cases d:a=b<;>by_cases e:x<y<;>simp[c,d,e]
def N2{a b:Ϧ}(h:a.toList=b.toList):a=b:=by rw[eK,eK]at h;cases a;cases b;simp[ByteArray.mk.injEq];exact Array.toList_inj.1 h
def IN(a b:Ϧ):(a.toList == b.toList)=decide (a=b):=by by_cases h:a=b;simp[h];have:¬a.toList=b.toList:=λe=>h<|N2 e;simp[h,this]
def JG(a b):kl a b=true↔a.toList<b.toList:=by unfold kl;rw[PK];simp
def GS(a b):kl a b=false↔b.toList<=a.toList:=by rw[<-dP,JG];exact List.not_lt
def DQ(a):kl a a=false:=(GS a a).2<|List.le_refl _
def D4{a b c}(h:kl a b=true)(k:kl b c=true):kl a c=true:=by rw[JG]at *;exact List.lt_trans h k
def ER{a b}(h:kl a b=true):kl b a=false:=by rw[JG]at h;rw[GS];exact List.le_of_lt h
def GT{a b}(h:kl a b=false)(k:kl b a=false):a=b:=by rw[GS]at *;exact N2<|List.le_antisymm k h
def GR{a b c}(h:kl b a=false)(k:kl b c=true):kl a c=true:=by rw[GS]at h;rw[JG]at *;exact List.lt_of_le_of_lt h k
def Et{a b c}(h:kl a b=true)(k:kl c b=false):kl a c=true:=by by_cases e:kl a c=true;exact e;have:=GR (a:=c) (b:=a) (c:=b) (sU e) h;rw[k]at this;cases this
def Pj{a b c}(h:kl b a=false)(k:kl c b=false):kl c a=false:=by rw[GS]at *;exact List.le_trans h k
def CO{a b}(h:kl a b=true):a≠b:=λe=>by subst e;rw[DQ]at h;cases h
def Es(a):kl a ⟨#[]⟩=false:=by rw[GS];simp
def Pk(a b):(Op.bytesLess a.toList b.toList || a.toList == b.toList)=!kl b a:=by rw[IN];by_cases h:kl a b=true;have:Op.bytesLess a.toList b.toList=true:=h;simp[this,ER h];(have c:kl a b=false:=by simpa using h);have f:Op.bytesLess a.toList b.toList=false:=c;by_cases e:a=b;subst e;simp[DQ];(have:kl b a=true:=by by_cases d:kl b a=true;exact d;exact absurd (GT c (sU d)) e);simp[f,e,this]
structure KV where
 k:Ϧ
 v:Ϧ
 deriving DecidableEq
def AJ(l:List KV):Prop:=l.Pairwise λa b=>kl a.k b.k=true
def ins(p:KV)(l:List KV):List KV:=l.takeWhile (fun q=>kl q.k p.k)++p::(l.dropWhile (fun q=>kl q.k p.k)).filter (fun q=>!decide (q.k=p.k))
def del(k:ByteArray)(l:List KV):List KV:=l.filter fun q=>!decide (q.k=k)
def AJ.append{a b}:AJ (a++b)↔AJ a/\AJ b/\∀x∈a,∀y∈b,kl x.k y.k=true:=dJ
def AJ.del{l}(h:AJ l)(k):AJ (del k l):=h.sublist List.filter_sublist
def JP{k}{l}{q}:q∈del k l↔q∈l/\q.k≠k:=by simp[del]
def LU{p q}{l}(h:q∈ins p l):q=p\/q∈l:=by simp[ins,aH,mC,iA]at h;rcases h with h|h|⟨h,_⟩;exact .inr (List.takeWhile_sublist _ |>.subset h);exact .inl h;exact .inr (gP _ |>.subset h)
def Lu(p)(l):(ins p l).length<=l.length+1:=by have:=congrArg List.length<|dF (p:=λq=>kl q.k p.k) (l:=l);have:=dI (λq=>!decide (q.k=p.k))<|l.dropWhile λq=>kl q.k p.k;simp only[ins,lA,lC]at *;omega
def Kg{p:Ϧ}{l:List KV}:∀q∈l.takeWhile (λq=>kl q.k p),kl q.k p=true:=by induction l with|nil=>intro q h;simp at h|cons a l ih=>intro q h;rw[fS]at h;split at h;rcases List.mem_cons.1 h with rfl|h;assumption;exact ih q h;simp at h
def K8{p}{l}(d:AJ l):∀q∈l.dropWhile (λq=>kl q.k p),kl q.k p=false:=by induction l with|nil=>intro q h;simp at h|cons a l ih=>intro q h;have c:=pC d;rw[iD]at h;split at h;exact ih c.2 q h;next b=>(have b:kl a.k p=false:=by simpa using b);rcases List.mem_cons.1 h with rfl|h;exact b;exact ER<|GR b<|c.1 q h
def AJ.ins{l}(h:AJ l)(p):AJ (ins p l):=by (have g:AJ (l.takeWhile (λq=>kl q.k p.k)++l.dropWhile λq=>kl q.k p.k):=by rwa[dF]);let⟨d,f,i⟩:=AJ.append.1 g;(have b:∀q∈(l.dropWhile λq=>kl q.k p.k).filter λq=>!decide (q.k=p.k),kl p.k q.k=true:=by intro q hq;simp[iA,Bool.not_eq_true',jF]at hq;have:=K8 h q hq.1;by_cases e:kl p.k q.k=true;exact e;exact absurd (GT this<|sU e) hq.2);refine AJ.append.2 ⟨d,List.pairwise_cons.2 ⟨b,f.sublist List.filter_sublist⟩,?_⟩;intro x c y a;rcases List.mem_cons.1 a with rfl|a;exact Kg x c;exact D4 (Kg x c)<|b y a
def Js{l:List KV}{k:Ϧ}(h:∀q∈l,q.k≠k):l.filter (λq=>!decide (q.k=k))=l:=by rw[fT];intro q a;simp[h q a]
def H4{l}{k}(h:∀q∈l,q.k≠k):del k l=l:=Js h
def H3(k)(a b):del k (a++b)=del k a++del k b:=by simp[del]
def W7{p}{a b c}(e:∀q∈a,kl q.k p.k=true)(f:∀q∈c,kl p.k q.k=true):ins p (a++b++c)=a++ins p b++c:=by (have h:∀(x y:List KV),(∀q∈x,kl q.k p.k=true)->(x++y).takeWhile (λq=>kl q.k p.k)=x++y.takeWhile (λq=>kl q.k p.k):=by intro x y hx;induction x with|nil=>rfl|cons z x ih=>simp[fS,hx z sM,ih λq d=>hx q (by simp[d])]);(have i:∀(x y:List KV),(∀q∈x,kl q.k p.k=true)->(x++y).dropWhile (λq=>kl q.k p.k)=y.dropWhile (λq=>kl q.k p.k):=by intro x y hx;induction x with|nil=>rfl|cons z x ih=>simp[iD,hx z sM,ih λq d=>hx q (by simp[d])]);have g:=λq d=>ER<|f q d;(have j:∀y:List KV,(y++c).takeWhile (λq=>kl q.k p.k)=y.takeWhile (λq=>kl q.k p.k):=by intro y;induction y with|nil=>(cases c with|nil=>rfl|cons z c=>simp[fS,g z sM])|cons z y ih=>simp[cA,fS];split<;>simp_all);(have k:∀y:List KV,(y++c).dropWhile (λq=>kl q.k p.k)=y.dropWhile (λq=>kl q.k p.k)++c:=by intro y;induction y with|nil=>(cases c with|nil=>rfl|cons z c=>simp[iD,g z sM])|cons z y ih=>simp[cA,iD];split<;>simp_all);have l:=Js λq d=>(CO<|f q d).symm;unfold ins;rw[aA,h _ _ e,i _ _ e,j,k,dV,l];simp
def Vg{k}{a b c}(d:∀q∈a,kl q.k k=true)(e:∀q∈c,kl k q.k=true):del k (a++b++c)=a++del k b++c:=by rw[H3,H3,H4 λq hq=>CO<|d q hq,H4 λq hq=>(CO<|e q hq).symm]
def Q5{l}(c:AJ l)(k):l.findIdx (λq=>!kl q.k k)=(l.takeWhile (λq=>kl q.k k)).length:=by induction l with|nil=>rfl|cons a l ih=>rw[List.findIdx_cons,fS];by_cases h:kl a.k k=true;simp[h,ih (pC c).2];(have b:kl a.k k=false:=by simpa using h);simp[b]
def Rb{l}(a:AJ l)(k):l.take (l.findIdx (λq=>!kl q.k k))=l.takeWhile (λq=>kl q.k k):=by rw[Q5 a];(conv=>lhs;arg 2;rw[<-dF (p:=λq=>kl q.k k) (l:=l)]);rw[List.take_left]
def Ou{l}(a:AJ l)(k):l.drop (l.findIdx (λq=>!kl q.k k))=l.dropWhile (λq=>kl q.k k):=by rw[Q5 a];(conv=>lhs;arg 2;rw[<-dF (p:=λq=>kl q.k k) (l:=l)]);rw[List.drop_left]
def Cd(l:List KV)(i:Nat)(k:ByteArray):Bool:=match l[i]? with
 | some q=>decide (q.k=k)
 | none=>false
def Aw(l:List KV)(k:ByteArray):Nat:=l.findIdx (fun q=>!kl q.k k)
def IP(l)(k):Aw l k<=l.length:=fL
def Il{l}(d:AJ l)(p):ins p l=l.take (Aw l p.k)++[p]++l.drop (if Cd l (Aw l p.k) p.k then Aw l p.k+1 else Aw l p.k):=by unfold ins Aw;rw[Rb d];have b:=Ou d p.k;have h:=K8 (p:=p.k) d;have k:AJ (l.dropWhile λq=>kl q.k p.k):=d.sublist<|gP _;generalize l.findIdx (λq=>!kl q.k p.k)=i at *;(have c:l[i]?=(l.dropWhile λq=>kl q.k p.k).head?:=by rw[<-b];simp);(have g:l.drop (i+1)=(l.dropWhile λq=>kl q.k p.k).tail:=by rw[<-b];simp);cases hc:l.dropWhile (λq=>kl q.k p.k) with|nil=>rw[hc]at c b;simp[Cd,c,b]|cons a r=>rw[hc]at c b g h k;have j:=pC k;by_cases e:a.k=p.k;(have:r.filter (λq=>!decide (q.k=p.k))=r:=Js λq hq=>by rw[<-e];exact(CO<|j.1 q hq).symm);simp[Cd,c,e,g,this];(have m:kl p.k a.k=true:=by by_cases f:kl p.k a.k=true;exact f;exact absurd (GT (h a sM)<|sU f) e);have:r.filter (λq=>!decide (q.k=p.k))=r:=Js λq hq=>(CO<|D4 m<|j.1 q hq).symm;simp[Cd,c,e,b,this]
def Ln{l}(c:AJ l)(k):Cd l (Aw l k) k=true↔∃q∈l,q.k=k:=by unfold Aw;have m:=Ou c k;have g:=K8 (p:=k) c;have i:AJ (l.dropWhile λq=>kl q.k k):=c.sublist<|gP _;(have j:l[l.findIdx λq=>!kl q.k k]?=(l.dropWhile λq=>kl q.k k).head?:=by rw[<-m];simp);(have n:(∃q∈l,q.k=k)↔∃q∈l.dropWhile λq=>kl q.k k,q.k=k:=by constructor;rintro⟨q,b,e⟩;rw[<-dF (p:=λq=>kl q.k k) (l:=l)]at b;rcases mA b with h|h;exact absurd e<|CO<|Kg q h;exact⟨q,h,e⟩;rintro⟨q,b,e⟩;exact⟨q,gP _ |>.subset b,e⟩);rw[n];unfold Cd;rw[j];cases hc:l.dropWhile (λq=>kl q.k k) with|nil=>simp|cons a r=>rw[hc]at i g;simp only[jJ,gI,mC,exists_eq_or_imp];constructor;intro h;exact .inl h;rintro (h|⟨q,b,e⟩);exact h;have d:=(pC i).1 q b;rw[e]at d;have f:=g a sM;rw[d]at f;cases f
def Ot{l}(n:AJ l){k}(h:Cd l (Aw l k) k=true):del k l=l.take (Aw l k)++l.drop (Aw l k+1):=by have e:=tD (Aw l k) l;unfold Cd at h;split at h;(.next q hq=>(have a:q.k=k:=by simpa using h);have i:=(gS hq).1;(have c:l.drop (Aw l k)=q::l.drop (Aw l k+1):=by rw[dG i,(gS hq).2]);(have j:AJ (l.take (Aw l k)++q::l.drop (Aw l k+1)):=by rwa[<-c,e]);let⟨m,d,f⟩:=AJ.append.1 j;have g:=pC d;(conv=>lhs;rw[<-e,c]);rw[H3,H4 λx b=>by rw[<-a];exact CO<|f x b q sM];congr 1;rw[show q::l.drop (Aw l k+1)=[q]++l.drop (Aw l k+1) from rfl,H3,H4 (l:=l.drop<|Aw l k+1) λx b=>by rw[<-a];exact(CO<|g.1 x b).symm];simp[del,a]);cases h
structure θ(X:Type) where
 key:Ϧ
 ref:Option (Nat×Int)
 sub:X
def Tn:Nat→Type
 | 0=>List KV
 | n+1=>List (θ (Tn n))
def cont:(n:Nat)→Tn n→List KV
 | 0,ps=>ps
 | n+1,ls=>List.flatMap (fun l:θ (Tn n)=>cont n l.sub) ls
def cnt:(n:Nat)→Tn n→Nat
 | 0,ps=>List.length (α:=KV) ps
 | n+1,ls=>List.length (α:=θ (Tn n)) ls
def μ(p:KV):Nat:=1+p.k.size+p.v.size
def Af{X:Type}(l:θ X):Nat:=11+l.key.size
def qK3{α:Type}(f:α→Nat)(l:List α):Nat:=(l.map f).sum
def Br{α:Type}(f:α->Nat)(a b:List α):qK3 f (a++b)=qK3 f a+qK3 f b:=by simp[qK3]
def AV{α:Type}(f:α->Nat)(a:α)(b:List α):qK3 f (a::b)=f a+qK3 f b:=by simp[qK3]
def Bf{α:Type}(f:α->Nat):qK3 f []=0:=rfl
def Ch{α:Type}(f:α→Nat)(all:Nat):List α→Nat→Nat
 | [],_=>0
 | x::xs,n=>if 2*n<all then Ch f all xs (n+f x)+1 else 0
def AN{α:Type}(f:α→Nat)(l:List α):List (List α):=
 if qK3 f l≤126 then [l] else [l.take (Ch f (qK3 f l) l 0),l.drop (Ch f (qK3 f l) l 0)]
def links{α:Type}(low:α→ByteArray)(key:ByteArray):List (List α)→List (θ (List α))
 | []=>[]
 | a::rest=>⟨key,none,a⟩::rest.map fun b=>⟨(b.head?.map low).getD ⟨#[]⟩,none,b⟩
def Bn(key:ByteArray)(ps:List KV):List (θ (Tn 0)):=links KV.k key (AN μ ps)
def A8(n:Nat)(key:ByteArray)(ls:List (θ (Tn n))):List (θ (Tn (n+1))):=links θ.key key (AN Af ls)
def Ao{X:Type}(ls:List (θ X))(k:ByteArray):Nat:=ls.findIdx (fun l=>kl k l.key)-1
def CN(p:KV)(ps:List KV):List KV:=ps.take (Aw ps p.k)++[p]++ps.drop (if Cd ps (Aw ps p.k) p.k then Aw ps p.k+1 else Aw ps p.k)
def Bu:(n:Nat)→θ (Tn n)→KV→List (θ (Tn n))
 | 0,l,p=>Bn l.key (CN p l.sub)
 | n+1,l,p=>
  let ls:List (θ (Tn n)):=l.sub
  match ls[Ao ls p.k]? with
  | some m=>A8 n l.key (ls.take (Ao ls p.k)++Bu n m p++ls.drop (Ao ls p.k+1))
  | none=>[]
def BX:(n:Nat)→ByteArray→Tn n→Tn n→List (θ (Tn n))
 | 0,key,a,b=>Bn key (List.append (α:=KV) a b)
 | n+1,key,a,b=>A8 n key (List.append (α:=θ (Tn n)) a b)
def AZ(n:Nat)(ls:List (θ (Tn n)))(i:Nat):List (θ (Tn n)):=
 match ls[i]? with
 | none=>ls
 | some l=>if 3≤cnt n l.sub then ls else
  match ls[min i (ls.length-2)]?,ls[min i (ls.length-2)+1]? with
  | some a,some b=>ls.take (min i (ls.length-2))++BX n a.key a.sub b.sub++ls.drop (min i (ls.length-2)+2)
  | _,_=>ls
def A4:(n:Nat)→θ (Tn n)→ByteArray→List (θ (Tn n))
 | 0,l,k=>Bn l.key (List.take (α:=KV) (Aw l.sub k) l.sub++List.drop (α:=KV) (Aw l.sub k+1) l.sub)
 | n+1,l,k=>
  let ls:List (θ (Tn n)):=l.sub
  match ls[Ao ls k]? with
  | some m=>A8 n l.key (AZ n (ls.take (Ao ls k)++A4 n m k++ls.drop (Ao ls k+1)) (Ao ls k))
  | none=>[]
inductive Ah where
 | none
 | at (n:Nat) (l:θ (Tn n))
def ED:(n:Nat)→θ (Tn n)→Ah
 | 0,l=>match (l.sub:List KV) with
  | []=>.none
  | _::_=>.at 0 l
 | n+1,l=>match (l.sub:List (θ (Tn n))) with
  | []=>.none
  | [m]=>.at n m
  | _::_::_=>.at (n+1) l
def BA(n:Nat)(ls:List (θ (Tn n))):Ah:=
 match ls with
 | []=>.none
 | [l]=>ED n l
 | ls=>match A8 n ⟨#[]⟩ ls with
  | []=>.none
  | r::_=>ED (n+1) r
def Ah.cont:Ah→List KV
 | .none=>[]
 | .at n l=>YtdohpenfkdckiaaGreatDoor.cont n l.sub
def Ah.put(r:Ah)(p:KV):Ah:=match r with
 | .none=>BA 0 (Bn ⟨#[]⟩ [p])
 | .at n l=>BA n (Bu n l p)
def Ah.del(r:Ah)(k:ByteArray):Ah:=match r with
 | .none=>.none
 | .at n l=>if (YtdohpenfkdckiaaGreatDoor.cont n l.sub).any (fun q=>decide (q.k=k)) then BA n (A4 n l k) else .at n l
def A2(p:KV):Prop:=1<=p.k.size/\p.k.size<=8/\p.v.size<=12
def M0{X:Type}(c:X->List KV)(a b:θ X):Prop:=kl a.key b.key=true/\∀q∈c a.sub,kl q.k b.key=true
abbrev Fr(n:Nat)(a b:θ (Tn n)):Prop:=M0 (cont n) a b
structure R7(b:Ϧ)(a:List KV):Prop where
 sorted:AJ a
 all:∀p∈a,A2 p/\kl p.k b=false
 fits:qK3 μ a<=126
structure Na{X:Type}(G:Ϧ->X->Prop)(C:X->Nat)(b:X->List KV)(c:Ϧ)(a:List (θ X)):Prop where
 head:∀l∈a.head?,l.key=c
 all:∀l∈a,G l.key l.sub/\3<=C l.sub/\l.key.size<=8
 pair:a.Pairwise (M0 b)
 fits:qK3 Af a<=126
def Ay:(n:Nat)→ByteArray→Tn n→Prop
 | 0,lo,ps=>R7 lo ps
 | n+1,lo,ls=>Na (Ay n) (cnt n) (cont n) lo ls
structure Bz(n:Nat)(b:Ϧ)(a:List (θ (Tn n))):Prop where
 head:∀l∈a.head?,l.key=b
 all:∀l∈a,Ay n l.key l.sub/\l.key.size<=8
 pair:a.Pairwise (Fr n)
def De:∀(n:Nat)(lo)(t),Ay n lo t->AJ (cont n t)/\∀q∈cont n t,A2 q/\kl q.k lo=false
 |0,lo,ps,h=>⟨h.1,h.2⟩|n+1,lo,d,h=>by let⟨v,u,j,_⟩:=h;have p:=λl:θ (Tn n)=>De n l.key l.sub;(have H:∀(d:List (θ<|Tn n)),(∀l∈d,Ay n l.key l.sub)->d.Pairwise (Fr n)->AJ (d.flatMap λl=>cont n l.sub)/\∀q∈d.flatMap λl=>cont n l.sub,A2 q/\∀l∈d.head?,kl q.k l.key=false:=by intro d;induction d with|nil=>intro _ _;simp[AJ]|cons a d ihl=>intro i j;let⟨o,w⟩:=pC j;let⟨D,E⟩:=ihl (λl hl=>i l (by simp[hl])) w;let⟨s,k⟩:=p a<|i a sM;(have m:∀q∈d.flatMap λl=>cont n l.sub,∃b∈d,kl q.k b.key=false:=by intro q c;let⟨b,g,c⟩:=mF c;exact⟨b,g,((p b<|i b (by simp[g])).2 q c).2⟩);rw[fC];refine⟨AJ.append.2 ⟨s,D,?_⟩,?_⟩;intro x A y B;let⟨b,g,C⟩:=m y B;exact Et ((o b g).2 x A) C;intro q c;rcases mA c with c|c;exact⟨(k q c).1,sU<|(k q c).2⟩;let⟨b,g,z⟩:=m q c;refine⟨(E q c).1,?_⟩;simp[jJ,jR,aP,forall_eq'];exact Pj (ER (o b g).1) z);let⟨F,G⟩:=H d (λl hl=>(u l hl).1) j;refine⟨F,λq c=>?_⟩;let⟨I,K⟩:=G q c;refine⟨I,?_⟩;cases hls:(d:List (θ<|Tn n)) with|nil=>rw[show cont (n+1) d=List.flatMap (λl:θ (Tn n)=>cont n l.sub) d from rfl,hls]at c;simp at c|cons a r=>have e:=v a (by rw[hls];simp);have:=K a (by rw[hls];simp);rw[e]at this;exact this
section
variable {α:Type} (f:α→Nat)
def Jo(a m:Nat):∀(l:List α)(n:Nat),(∀x∈l,f x<=m)->2*n<a+2*m->a<=2*(n+qK3 f l)->a<=2*(n+qK3 f (l.take (Ch f a l n)))/\2*(n+qK3 f (l.take (Ch f a l n)))<a+2*m
 |[],n,_,h1,h2=>by simp[Ch,qK3]at *;omega|x::xs,n,hm,h1,h2=>by unfold Ch;have:=hm x sM;split;have:=Jo a m xs (n+f x) (λy b=>hm y (by simp[b])) oM (by rw[AV]at h2;omega);rw[iE,AV];omega;simp[qK3];omega
def Ew(m:Nat):∀(l:List α),(∀x∈l,f x<=m)->qK3 f l<=m*l.length
 |[],_=>by simp[qK3]|x::xs,h=>by have:=h x sM;have:=Ew m xs λy a=>h y (by simp[a]);rw[AV,lC,Nat.mul_succ];omega
def Ex(l:List α)(i:Nat):qK3 f (l.take i)+qK3 f (l.drop i)=qK3 f l:=by rw[<-Br,tD]
def JA(l:List α)(c:∀x∈l,f x<=21)(e:qK3 f l<=210):(AN f l=[l]/\qK3 f l<=126)\/∃a b,AN f l=[a,b]/\a++b=l/\qK3 f a<=126/\qK3 f b<=126/\3<=a.length/\3<=b.length:=by unfold AN;split;exact .inl ⟨rfl,by assumption⟩;next h=>right;have:=Jo f (qK3 f l) 21 l 0 c oM oM;have:=Ex f l<|Ch f (qK3 f l) l 0;refine⟨_,_,rfl,tD _ _,oM,oM,?_,?_⟩;have:=Ew f 21 (l.take<|Ch f (qK3 f l) l 0) λx d=>c x<|mT d;omega;have:=Ew f 21 (l.drop<|Ch f (qK3 f l) l 0) λx d=>c x<|mD d;omega
end
def Iq{lo}{ps}(u:AJ ps)(g:∀p∈ps,A2 p/\kl p.k lo=false)(C:qK3 μ ps<=210)(t:lo.size<=8):Bz 0 lo (Bn lo ps)/\(Bn lo ps).flatMap (λl=>cont 0 l.sub)=ps/\((∃a,Bn lo ps=[a]/\a.key=lo/\a.ref=none/\a.sub=ps)\/∃a b,Bn lo ps=[a,b]/\a.key=lo/\a.ref=none/\b.ref=none/\3<=cnt 0 a.sub/\3<=cnt 0 b.sub):=by (have E:∀x∈ps,μ x<=21:=λx hx=>by let⟨⟨n,h2,h3⟩,_⟩:=g x hx;unfold μ;omega);rcases JA μ ps E C with⟨e,n⟩|⟨a,b,e,z,y,A,o,s⟩;(have k:Bn lo ps=[⟨lo,none,ps⟩]:=by unfold Bn;rw[e];rfl);rw[k];refine⟨⟨sM,?_,sM⟩,aN ps,.inl ⟨_,rfl,rfl,rfl,rfl⟩⟩;intro l j;rw[mS j];exact⟨⟨u,g,n⟩,t⟩;subst z;(obtain⟨c,r,rfl⟩:∃c r,b=c::r:=by cases b with|nil=>simp at s|cons c r=>exact⟨c,r,rfl⟩);(obtain⟨i,m,rfl⟩:∃c r,a=c::r:=by cases a with|nil=>simp at o|cons c r=>exact⟨c,r,rfl⟩);(have k:Bn lo (i::m++c::r)=[⟨lo,none,i::m⟩,⟨c.k,none,c::r⟩]:=by unfold Bn;rw[e];rfl);rw[k];let⟨F,v,w⟩:=AJ.append.1 u;have B:=g c sM;refine⟨⟨sM,?_,?_⟩,show i::m++(c::r++[])=_ by simp,.inr ⟨_,_,rfl,rfl,rfl,rfl,o,s⟩⟩;intro l j;simp[mC,lN,aD]at j;rcases j with rfl|rfl;exact⟨⟨F,λp d=>g p (by simp at d |-;rcases d with h | h<;>simp[h]),y⟩,t⟩;refine⟨⟨v,λp d=>⟨(g p<|aK _ d).1,?_⟩,A⟩,B.1.2.1⟩;rcases List.mem_cons.1 d with rfl|d;exact DQ _;exact ER<|(pC v).1 p d;simp[List.pairwise_cons,mC,lN,aD,forall_eq,List.Pairwise.nil,eZ,false_implies,implies_true];refine⟨GR (g i sM).2<|w i sM c sM,λq D=>w q D c sM⟩
def K2{n:Nat}{lo}{g}(h:Bz n lo g)(p:∀l∈g,3<=cnt n l.sub)(C:qK3 Af g<=210)(v:lo.size<=8):Bz (n+1) lo (A8 n lo g)/\(A8 n lo g).flatMap (λl=>cont (n+1) l.sub)=g.flatMap (λl=>cont n l.sub)/\((∃a,A8 n lo g=[a]/\a.key=lo/\a.ref=none/\a.sub=g)\/∃a b,A8 n lo g=[a,b]/\a.key=lo/\a.ref=none/\b.ref=none/\3<=cnt (n+1) a.sub/\3<=cnt (n+1) b.sub):=by (have D:∀x∈g,Af x<=21:=λx hx=>by have:=(h.all x hx).2;unfold Af;omega);rcases JA Af g D C with⟨e,y⟩|⟨a,b,e,A,z,B,s,t⟩;(have k:A8 n lo g=[⟨lo,none,g⟩]:=by unfold A8;rw[e];rfl);rw[k];refine⟨⟨sM,?_,sM⟩,aN _,.inl ⟨_,rfl,rfl,rfl,rfl⟩⟩;intro l d;rw[mS d];exact⟨⟨h.head,λl d=>⟨(h.all l d).1,p l d,(h.all l d).2⟩,h.pair,y⟩,v⟩;subst A;(obtain⟨c,r,rfl⟩:∃c r,b=c::r:=by cases b with|nil=>simp at t|cons c r=>exact⟨c,r,rfl⟩);(obtain⟨i,j,rfl⟩:∃c r,a=c::r:=by cases a with|nil=>simp at s|cons c r=>exact⟨c,r,rfl⟩);(have k:A8 n lo (i::j++c::r)=[⟨lo,none,i::j⟩,⟨c.key,none,c::r⟩]:=by unfold A8;rw[e];rfl);rw[k];let⟨E,F,w⟩:=pA h.pair;have u:=h.head i sM;have m:∀l∈i::j++c::r,Ay n l.key l.sub/\3<=cnt n l.sub/\l.key.size<=8:=λl d=>⟨(h.all l d).1,p l d,(h.all l d).2⟩;refine⟨⟨sM,?_,?_⟩,?_,.inr ⟨_,_,rfl,rfl,rfl,rfl,s,t⟩⟩;rotate_left 2;show List.flatMap _ (i::j)++(List.flatMap _ (c::r)++[])=_;rw[aN,<-fA];intro l d;simp[mC,lN,aD]at d;rcases d with rfl|rfl;exact⟨⟨sU u,λl d=>m l<|aI _ d,E,z⟩,v⟩;exact⟨⟨sM,λl d=>m l<|aK _ d,F,B⟩,(m c sM).2.2⟩;simp[List.pairwise_cons,mC,lN,aD,forall_eq,List.Pairwise.nil,eZ,false_implies,implies_true];refine⟨by rw[<-u];exact(w i sM c sM).1,λq o=>?_⟩;let⟨l,d,o⟩:=mF o;exact(w l d c sM).2 q o
def J{n:Nat}(t:Tn (n+1)):List (θ (Tn n)):=t
def ζ(t:Tn 0):List KV:=t
def Hz:∀(n:Nat)(lo)(t),Ay n lo t->1<=cnt n t->∃q,q∈cont n t
 |0,lo,ps,h,h1=>by have:1<=(ζ ps).length:=h1;let⟨a,b⟩:=List.exists_mem_of_length_pos (l:=ζ ps) oM;exact⟨a,b⟩|n+1,lo,ls,h,h1=>by have:1<=(J ls).length:=h1;let⟨a,b⟩:=List.exists_mem_of_length_pos (l:=J ls) oM;have c:=h.all a b;let⟨q,d⟩:=Hz n a.key a.sub c.1 oM;exact⟨q,aS.2 ⟨a,b,d⟩⟩
def IQ{n:Nat}{lo k}{ls}(h:Bz n lo ls)(v:ls≠[])(u:kl k lo=false):∃A m B,ls=A++m::B/\A.length=Ao ls k/\kl k m.key=false/\(∀a∈A,∀q∈cont n a.sub,kl q.k k=true)/\(∀b∈B,kl k b.key=true):=by (have D:1<=ls.findIdx (λl=>kl k l.key):=by cases ls with|nil=>exact absurd rfl v|cons a r=>have e:=h.head a sM;rw[List.findIdx_cons,e,u];simp);have C:ls.findIdx (λl=>kl k l.key)<=ls.length:=fL;(have z:Ao ls k<ls.length:=by unfold Ao;omega);(have g:kl k (ls[Ao ls k]).key=false:=by have:=eR (p:=λl:θ (Tn n)=>kl k l.key) (xs:=ls) (i:=Ao ls k) (by unfold Ao;omega);simpa using this);(have s:ls=ls.take (Ao ls k)++ls[Ao ls k]::ls.drop (Ao ls k+1):=by rw[List.getElem_cons_drop];simp);have j:=h.pair;rw[s]at j;let⟨E,F,y⟩:=pA j;refine⟨ls.take<|Ao ls k,ls[Ao ls k],ls.drop<|Ao ls k+1,s,sO,g,?_,?_⟩;intro a t q x;exact Et ((y a t _<|cX ..).2 q x) g;intro b c;(have e:Ao ls k+1=ls.findIdx (λl=>kl k l.key):=by unfold Ao;omega);rw[e]at c;by_cases d:ls.findIdx (λl=>kl k l.key)<ls.length;have f:=fE (w:=d);rw[dG d]at c;rcases List.mem_cons.1 c with rfl|c;exact f;have o:=h.pair;rw[<-tD (ls.findIdx λl=>kl k l.key) ls,dG d]at o;have:=(pC (pA o).2.1).1 b c;exact D4 f this.1;rw[dL oM]at c;simp at c
def Bz.keys{n:Nat}{lo}{W}(h:Bz n lo W):∀w∈W,kl w.key lo=false:=by intro w b;cases W with|nil=>simp at b|cons a r=>have e:=h.head a sM;rcases List.mem_cons.1 b with rfl|b;rw[e];exact DQ _;have:=((pC h.pair).1 w b).1;rw[e]at this;exact ER this
def J8{n:Nat}{lo}{A B W}{m}(h:Bz n lo (A++m::B))(d:Bz n m.key W)(t:W≠[])(s:∀w∈W,1<=cnt n w.sub) (j:∀w∈W,∀q∈cont n w.sub,∀b∈B,kl q.k b.key=true):Bz n lo (A++W++B):=by let⟨p1,p2,p3⟩:=pA h.pair;let⟨v,u⟩:=pC p2;refine⟨?_,?_,?_⟩;intro l c;(cases A with|nil=>have e:=h.head m sM;(cases W with|nil=>exact absurd rfl t|cons w W=>simp at c;rw[<-c,d.head w sM,e])|cons a A=>simp at c;rw[<-c];exact h.head a sM);intro l c;simp only[aH]at c;rcases c with (c|c)|c;exact h.all l (by simp[c]);exact d.all l c;exact h.all l (by simp[c]);rw[aA];refine dJ.2 ⟨p1,dJ.2 ⟨d.pair,u,?_⟩,?_⟩;intro w g b o;let⟨q,f⟩:=Hz n w.key w.sub (d.all w g).1<|s w g;exact⟨GR (((De n w.key w.sub (d.all w g).1).2 q f).2)<|j w g q f b o,λq f=>j w g q f b o⟩;intro a k x i;rcases mA i with i|i;have r:=p3 a k m sM;have p:=d.keys x i;exact⟨Et r.1 p,λq f=>Et (r.2 q f) p⟩;exact p3 a k x (by simp[i])
def P0(p){l}(a:AJ l):qK3 μ (ins p l)<=qK3 μ l+μ p:=by rw[Il a,Br,Br,AV,Bf];have b:=Ex μ l<|Aw l p.k;(have c:qK3 μ (l.drop (if Cd l (Aw l p.k) p.k then Aw l p.k+1 else Aw l p.k))<=qK3 μ (l.drop<|Aw l p.k):=by split;have:=Ex μ (l.drop<|Aw l p.k) 1;rw[bH]at this;omega;exact lR);omega
def W6(p){l}(a:AJ l):l.length<=(ins p l).length:=by rw[Il a];have:=IP l p.k;simp[lA,lK,lD,lC,aJ];split<;>omega
def C8(n:Nat)(l:θ (Tn n))(d:Nat)(W:List (θ (Tn n))):Prop:=
 (∃a,W=[a]/\a.key=l.key/\a.ref=none/\cnt n l.sub<=cnt n a.sub+d)\/∃a b,W=[a,b]/\a.key=l.key/\a.ref=none/\b.ref=none/\3<=cnt n a.sub/\3<=cnt n b.sub
def C8.ne{n:Nat}{l}{d:Nat}{W}(h:C8 n l d W):W≠[]:=by rcases h with⟨a,rfl,_⟩|⟨a,b,rfl,_⟩<;>simp
def C8.qK3{n:Nat}{l}{d:Nat}{W}(h:C8 n l d W)(c:∀w∈W,w.key.size<=8):qK3 Af W<=Af l+19:=by rcases h with⟨a,rfl,e,_⟩|⟨a,b,rfl,e,_⟩;simp[YtdohpenfkdckiaaGreatDoor.qK3,Af,e];have:=c b sM;simp[YtdohpenfkdckiaaGreatDoor.qK3,Af,e];omega
def IR:∀(n:Nat)(l)(p),Ay n l.key l.sub->A2 p->kl p.k l.key=false->l.key.size<=8->1<=cnt n l.sub->Bz n l.key (Bu n l p)/\(Bu n l p).flatMap (λl=>cont n l.sub)=ins p (cont n l.sub)/\C8 n l 0 (Bu n l p)
 |0,l,p,h,hp,hk,hz,z=>(by have v:=h.sorted;have e:CN p l.sub=ins p l.sub:=(Il v p).symm;have o:=P0 p v;(have ab:μ p<=21:=by let⟨z,C,h3⟩:=hp;unfold μ;omega);let⟨Z,r2,r3⟩:=Iq (lo:=l.key) (ps:=ins p l.sub) (v.ins p) (λq c=>by rcases LU c with rfl|c;exact⟨hp,hk⟩;exact h.all q c) (oW h.fits) hz;show Bz 0 l.key (Bn l.key<|CN p l.sub)/\List.flatMap _ (Bn l.key<|CN p l.sub)=_/\C8 0 l 0 (Bn l.key<|CN p l.sub);rw[e];refine⟨Z,r2,?_⟩;rcases r3 with⟨a,d,i,j,g⟩|⟨a,b,d,i,j,g,s,t⟩;refine .inl ⟨a,d,i,j,?_⟩;rw[g];exact W6 p v;exact .inr ⟨a,b,d,i,j,g,s,t⟩)|n+1,l,p,h,hp,hk,hz,z=>by have V:Bz n l.key l.sub:=⟨h.head,λm o=>⟨(h.all m o).1,(h.all m o).2.2⟩,h.pair⟩;let⟨A,m,B,e,D,Q,S,E⟩:=IQ (k:=p.k) V (by intro e;have C:1<=List.length (α:=θ<|Tn n) l.sub:=z;rw[e]at C;simp at C) hk;have u:=λx hx=>h.all x (by rwa[e]);have o:=u m sM;let⟨H,I,y⟩:=IR n m p o.1 hp Q o.2.2 oM;(have G:∀w∈Bu n m p,3<=cnt n w.sub:=by rcases y with⟨a,d,_,_,g⟩|⟨a,b,d,_,_,_,s,t⟩;rw[d];intro w f;rw[mS f];omega;rw[d];intro w f;simp only[mC,lN,aD]at f;rcases f with rfl|rfl<;>assumption);(have F:Bz n l.key (A++m::B):=by rwa[<-e]);(have T:=λw f q c=>by have:q∈(Bu n m p).flatMap (λl=>cont n l.sub):=aS.2 ⟨w,f,c⟩;rw[I]at this;exact LU this);have W:=J8 F H y.ne (λw f=>by have:=G w f;omega) (λw f q c b r=>by rcases T w f q c with rfl|c;exact E b r;exact((pC (pA F.pair).2.1).1 b r).2 q c);have aa:=y.qK3 λw f=>(H.all w f).2;(have O:qK3 Af (A++m::B)<=126:=by have:=h.fits;rw[e]at this;exact this);(have R:qK3 Af (A++Bu n m p++B)<=210:=by rw[Br,Br];rw[Br,AV]at O;omega);(have P:(J l.sub)[Ao (J l.sub) p.k]?=some m:=by rw[show Ao (J l.sub) p.k=A.length from D.symm,show J l.sub=A++m::B from e];simp);(have X:(J l.sub).take (Ao (J l.sub) p.k)=A:=by rw[show Ao (J l.sub) p.k=A.length from D.symm,show J l.sub=A++m::B from e];simp);(have N:(J l.sub).drop (Ao (J l.sub) p.k+1)=B:=by rw[show Ao (J l.sub) p.k=A.length from D.symm,show J l.sub=(A++[m])++B by rw[show J l.sub=A++m::B from e];simp];exact fX sM);(have f:Bu (n+1) l p=A8 n l.key (A++Bu n m p++B):=by show(match (J l.sub)[Ao (J l.sub) p.k]? with|some m=>A8 n l.key ((J l.sub).take (Ao (J l.sub) p.k)++Bu n m p++(J l.sub).drop (Ao (J l.sub) p.k+1))|none=>[])=_;rw[P,X,N]);rw[f];let⟨K,L,M⟩:=K2 W (λx hx=>by simp only[aH]at hx;rcases hx with (hx|hx)|hx;exact(u x (by simp[hx])).2.1;exact G x hx;exact(u x (by simp[hx])).2.1) R hz;refine⟨K,?_,?_⟩;rw[L];show _=ins p (List.flatMap (λl:θ (Tn n)=>cont n l.sub) l.sub);rw[e];simp only[fA,I,fC];rw[<-aA,W7 (λq c=>by let⟨a,ha,c⟩:=mF c;exact S a ha q c) (λq c=>by let⟨b,r,c⟩:=mF c;exact Et (E b r) ((De n b.key b.sub (u b (by simp[r])).1).2 q c).2)];rcases M with⟨a,d,i,j,g⟩|⟨a,b,d,i,j,g,s,t⟩;refine .inl ⟨a,d,i,j,?_⟩;rw[g];show List.length (α:=θ<|Tn n) l.sub<=List.length (α:=θ<|Tn n) (A++Bu n m p++B);rw[e];(have:1<=(Bu n m p).length:=by rcases y with⟨a,d,_⟩|⟨a,b,d,_⟩<;>rw[d]<;>simp);simp;omega;exact .inr ⟨a,b,d,i,j,g,s,t⟩
def Xp:∀(n:Nat)(a b),Ay n a.key a.sub->Ay n b.key b.sub->Fr n a b->(cnt n a.sub<=2\/cnt n b.sub<=2)->a.key.size<=8->3<=cnt n a.sub+cnt n b.sub->1<=cnt n a.sub->Bz n a.key (BX n a.key a.sub b.sub)/\(BX n a.key a.sub b.sub).flatMap (λl=>cont n l.sub)=cont n a.sub++cont n b.sub/\(∀w∈BX n a.key a.sub b.sub,3<=cnt n w.sub)/\BX n a.key a.sub b.sub≠[]/\qK3 Af (BX n a.key a.sub b.sub)<=Af a+19
 |0,a,b,ha,hb,hab,hc,hz,z,v=>(by have O:AJ (ζ a.sub++ζ b.sub):=AJ.append.2 ⟨ha.sorted,hb.sorted,λx i y C=>Et (hab.2 x i) (hb.all y C).2⟩;(have F:∀p∈ζ a.sub++ζ b.sub,A2 p/\kl p.k a.key=false:=λp f=>by rcases mA f with f|f;exact ha.all p f;exact⟨(hb.all p f).1,Pj (ER hab.1) (hb.all p f).2⟩);(have t:∀p∈ζ a.sub++ζ b.sub,μ p<=21:=λp f=>by let⟨⟨v,h2,z⟩,_⟩:=F p f;unfold μ;omega);(have k:qK3 μ (ζ a.sub++ζ b.sub)<=210:=by rw[Br];have v:=Ew μ 21 (ζ a.sub) λp f=>t p<|aI _ f;have:=Ew μ 21 (ζ b.sub) λp f=>t p<|aK _ f;have z:qK3 μ (ζ a.sub)<=126:=ha.fits;have:qK3 μ (ζ b.sub)<=126:=hb.fits;have:(ζ a.sub).length<=2\/(ζ b.sub).length<=2:=hc;omega);let⟨u,D,j⟩:=Iq O F k hz;refine⟨u,D,?_,?_,?_⟩;intro w g;rw[show BX 0 a.key a.sub b.sub=Bn a.key (ζ a.sub++ζ b.sub) from rfl]at g;rcases j with⟨x,c,h,B,o⟩|⟨x,y,c,h,B,o,I,K⟩;rw[c]at g;rw[mS g,o];show 3<=(ζ a.sub++ζ b.sub).length;rwa[lA];rw[c]at g;simp[mC,lN,aD]at g;rcases g with rfl|rfl<;>assumption;show Bn a.key (ζ a.sub++ζ b.sub)≠[];rcases j with⟨x,c,_⟩|⟨x,y,c,_⟩<;>rw[c]<;>simp;show qK3 Af (Bn a.key<|ζ a.sub++ζ b.sub)<=_;rcases j with⟨x,c,h,_⟩|⟨x,y,c,h,_⟩;rw[c];simp[qK3,Af,h];have:=(u.all y (by rw[c];simp)).2;rw[c];simp[qK3,Af,h];omega)|n+1,a,b,ha,hb,hab,hc,hz,z,v=>by (have s:∀l∈J a.sub++J b.sub,Ay n l.key l.sub/\3<=cnt n l.sub/\l.key.size<=8:=λl d=>by rcases mA d with d|d;exact ha.all l d;exact hb.all l d);have M:=λl d=>(Bz.keys (W:=J b.sub) ⟨hb.head,λm k=>⟨(hb.all m k).1,(hb.all m k).2.2⟩,hb.pair⟩) l d;(have L:J a.sub≠[]:=λe=>by have E:1<=(J a.sub).length:=v;rw[e]at E;simp at E);(have N:Bz n a.key (J a.sub++J b.sub):=by refine⟨?_,λl d=>⟨(s l d).1,(s l d).2.2⟩,dJ.2 ⟨ha.pair,hb.pair,?_⟩⟩;intro l d;rw[List.head?_append]at d;(cases i:J a.sub with|nil=>exact absurd i L|cons x r=>rw[i]at d;exact ha.head l (by show l∈(J a.sub).head?;rw[i];simpa using d));intro x i y C;have H:=s x<|aI _ i;have G:=λq A=>Et (hab.2 q<|aS.2 ⟨x,i,A⟩)<|M y C;let⟨q,A⟩:=Hz n x.key x.sub H.1 oM;exact⟨GR ((De n x.key x.sub H.1).2 q A).2<|G q A,G⟩);(have t:∀l∈J a.sub++J b.sub,Af l<=21:=λl d=>by have:=(s l d).2.2;unfold Af;omega);(have k:qK3 Af (J a.sub++J b.sub)<=210:=by rw[Br];have:=Ew Af 21 (J a.sub) λp f=>t p<|aI _ f;have:=Ew Af 21 (J b.sub) λp f=>t p<|aK _ f;have z:qK3 Af (J a.sub)<=126:=ha.fits;have:qK3 Af (J b.sub)<=126:=hb.fits;have:(J a.sub).length<=2\/(J b.sub).length<=2:=hc;omega);let⟨u,D,j⟩:=K2 N (λl d=>(s l d).2.1) k hz;refine⟨u,?_,?_,?_,?_⟩;apply Eq.trans D;rw[fA];rfl;intro w g;rw[show BX (n+1) a.key a.sub b.sub=A8 n a.key (J a.sub++J b.sub) from rfl]at g;rcases j with⟨x,c,h,B,o⟩|⟨x,y,c,h,B,o,I,K⟩;rw[c]at g;rw[mS g,o];show 3<=(J a.sub++J b.sub).length;rwa[lA];rw[c]at g;simp[mC,lN,aD]at g;rcases g with rfl|rfl<;>assumption;show A8 n a.key (J a.sub++J b.sub)≠[];rcases j with⟨x,c,_⟩|⟨x,y,c,_⟩<;>rw[c]<;>simp;show qK3 Af (A8 n a.key<|J a.sub++J b.sub)<=_;rcases j with⟨x,c,h,_⟩|⟨x,y,c,h,_⟩;rw[c];simp[qK3,Af,h];have:=(u.all y (by rw[c];simp)).2;rw[c];simp[qK3,Af,h];omega
def Bz.drop_one{n:Nat}{lo}{P Q}{a b}(h:Bz n lo (P++a::b::Q)):Bz n lo (P++a::Q):=
 ⟨λl c=>h.head l (by cases P<;>simpa using c),λl c=>h.all l (by
  rcases mA c with c|c
  .simp[c]
  .rcases List.mem_cons.1 c with rfl|c
   .simp
   .simp[c]),h.pair.sublist<|List.Sublist.append_left (List.Sublist.cons_cons _<|List.sublist_cons_self _ _) _⟩
def P2{n:Nat}{lo}{P Q}{a b}(h:Bz n lo (P++a::b::Q))(p:∀x∈P,3<=cnt n x.sub)(r:∀x∈Q,3<=cnt n x.sub)(s:cnt n a.sub<=2\/cnt n b.sub<=2)(o:3<=cnt n a.sub+cnt n b.sub)(m:1<=cnt n a.sub):Bz n lo (P++BX n a.key a.sub b.sub++Q)/\(P++BX n a.key a.sub b.sub++Q).flatMap (λl=>cont n l.sub)=(P++a::b::Q).flatMap (λl=>cont n l.sub)/\(∀x∈P++BX n a.key a.sub b.sub++Q,3<=cnt n x.sub)/\(P++a::b::Q).length<=(P++BX n a.key a.sub b.sub++Q).length+1/\qK3 Af (P++BX n a.key a.sub b.sub++Q)<=qK3 Af (P++a::b::Q)+19:=by have e:=pC (pA h.pair).2.1;have g:=h.all a sM;let⟨t,i,j,k,u⟩:=Xp n a b g.1 (h.all b sM).1 (e.1 b sM) s g.2 o m;refine⟨J8 h.drop_one t k (λw f=>by have:=j w f;omega) ?_,?_,?_,?_,?_⟩;intro w f q d x c;have:q∈(BX n a.key a.sub b.sub).flatMap (λl=>cont n l.sub):=aS.2 ⟨w,f,d⟩;rw[i]at this;rcases mA this with d|d;exact(e.1 x (by simp[c])).2 q d;exact((pC e.2).1 x c).2 q d;simp only[fA,fC,i,aA];intro x c;simp only[aH]at c;rcases c with (c|c)|c;exact p x c;exact j x c;exact r x c;have:1<=(BX n a.key a.sub b.sub).length:=List.length_pos_iff.2 k;simp;omega;simp only[Br,AV];omega
def P3{n:Nat}{lo}{A W B}{m}(h:Bz n lo (A++W++B))(f:∀x∈A,3<=cnt n x.sub)(g:∀x∈B,3<=cnt n x.sub)(o:C8 n m 1 W)(E:3<=cnt n m.sub)(v:2<=(A++W++B).length):Bz n lo (AZ n (A++W++B) A.length)/\(AZ n (A++W++B) A.length).flatMap (λl=>cont n l.sub)=(A++W++B).flatMap (λl=>cont n l.sub)/\(∀x∈AZ n (A++W++B) A.length,3<=cnt n x.sub)/\(A++W++B).length<=(AZ n (A++W++B) A.length).length+1/\qK3 Af (AZ n (A++W++B) A.length)<=qK3 Af (A++W++B)+19:=by (have k:(∀x∈W,3<=cnt n x.sub)->Bz n lo (AZ n (A++W++B) A.length)/\(AZ n (A++W++B) A.length).flatMap (λl=>cont n l.sub)=(A++W++B).flatMap (λl=>cont n l.sub)/\(∀x∈AZ n (A++W++B) A.length,3<=cnt n x.sub)/\(A++W++B).length<=(AZ n (A++W++B) A.length).length+1/\qK3 Af (AZ n (A++W++B) A.length)<=qK3 Af (A++W++B)+19:=by intro d;(have e:AZ n (A++W++B) A.length=A++W++B:=by (obtain⟨a,r,rfl⟩:∃a r,W=a::r:=by rcases o with⟨a,rfl,_⟩|⟨a,b,rfl,_⟩;exact⟨a,[],rfl⟩;exact⟨a,[b],rfl⟩);have:(A++a::r++B)[A.length]?=some a:=sM;unfold AZ;rw[this];simp[d a sM]);rw[e];refine⟨h,rfl,?_,oM,oM⟩;intro x c;simp only[aH]at c;rcases c with (c|c)|c;exact f x c;exact d x c;exact g x c);rcases o with⟨a,rfl,q,s,t⟩|⟨a,b,rfl,q,s,t,z,C⟩;by_cases d:3<=cnt n a.sub;exact k (λx c=>by rwa[mS c]);clear k;have i:(A++[a]++B)[A.length]?=some a:=sM;(cases B with|cons b Q=>have j:min A.length ((A++[a]++b::Q).length-2)=A.length:=sO;(have u:(A++[a]++b::Q)[A.length+1]?=some b:=by rw[show A++[a]++b::Q=(A++[a])++b::Q from rfl,List.getElem?_append_right sM];simp);(have e:AZ n (A++[a]++b::Q) A.length=A++BX n a.key a.sub b.sub++Q:=by unfold AZ;rw[i];simp only[d,dQ,j,i,u];congr 2;simp;rw[show A++[a]++b::Q=(A++[a,b])++Q by simp];exact fX sM);rw[e];have D:=g b sM;have:=P2 (P:=A) (Q:=Q) (a:=a) (b:=b) (lo:=lo) (sU h) f (λx c=>g x (by simp[c])) (.inl oM) oM oM;simpa using this|nil=>rcases dY A with rfl|⟨P,p,rfl⟩;simp at v;rw[eA]at *;have j:min (P++[p]).length ((P++[p]++[a]++[]).length-2)=P.length:=sM;have w:(P++[p]++[a]++[])[P.length]?=some p:=sM;have y:(P++[p]++[a]++[])[P.length+1]?=some a:=sM;(have e:AZ n (P++[p]++[a]++[]) (P++[p]).length=P++BX n p.key p.sub a.sub++[]:=by unfold AZ;rw[i];simp only[d,dQ,j,w,y];congr 2;simp;simp);rw[e];have F:=f p sM;have:=P2 (P:=P) (Q:=[]) (a:=p) (b:=a) (lo:=lo) (sU h) (λx c=>f x (by simp[c])) sM (.inr oM) oM oM;simpa using this);exact k (λx c=>by simp only[mC,lN,aD]at c;rcases c with rfl|rfl<;>assumption)
def Hm:∀(n:Nat)(l)(k),Ay n l.key l.sub->kl k l.key=false->l.key.size<=8->(∃q∈cont n l.sub,q.k=k)->min n 1<cnt n l.sub->Bz n l.key (A4 n l k)/\(A4 n l k).flatMap (λl=>cont n l.sub)=del k (cont n l.sub)/\C8 n l 1 (A4 n l k)
 |0,l,k,h,hk,hz,c,C=>(by have E:AJ (ζ l.sub):=h.sorted;have F:=(Ln E k).2 c;have e:=(Ot E F).symm;(have p:qK3 μ (del k<|ζ l.sub)<=126:=by rw[<-e,Br];have C:=Ex μ (ζ l.sub)<|Aw (ζ l.sub) k;have s:=Ex μ ((ζ l.sub).drop<|Aw (ζ l.sub) k) 1;have G:qK3 μ (ζ l.sub)<=126:=h.fits;rw[bH]at s;omega);let⟨r1,r2,r3⟩:=Iq (lo:=l.key) (ps:=del k<|ζ l.sub) (E.del k) (λq c=>h.all q (JP.1 c).1) oM hz;(have i:A4 0 l k=Bn l.key (del k<|ζ l.sub):=by rw[<-e];rfl);rw[i];refine⟨r1,r2,?_⟩;rcases r3 with⟨a,f,i,o,j⟩|⟨a,b,f,i,o,j,u,v⟩;refine .inl ⟨a,f,i,o,?_⟩;rw[j];show(ζ l.sub).length<=(del k<|ζ l.sub).length+1;rw[<-e];simp;omega;exact .inr ⟨a,b,f,i,o,j,u,v⟩)|n+1,l,k,h,hk,hz,c,C=>by (have s:1<(J l.sub).length:=by have s:min (n+1) 1<(J l.sub).length:=C;omega);have hr:Bz n l.key (J l.sub):=⟨h.head,λm p=>⟨(h.all m p).1,(h.all m p).2.2⟩,h.pair⟩;let⟨A,m,B,e,y,X,H,Z⟩:=IQ (k:=k) hr (by intro e;rw[e]at s;simp at s) hk;have z:=λx d=>h.all x (by show x∈J l.sub;rwa[e]);have p:=z m sM;have I:=λb r q c=>Et (Z b r) ((De n b.key b.sub (z b (by simp[r])).1).2 q c).2;(have aa:∃q∈cont n m.sub,q.k=k:=by let⟨q,c,eq⟩:=c;have c:q∈(J l.sub).flatMap (λl=>cont n l.sub):=c;rw[e]at c;let⟨x,d,D⟩:=mF c;rcases mA d with d|d;exact absurd eq<|CO<|H x d q D;rcases List.mem_cons.1 d with rfl|d;exact⟨q,D,eq⟩;exact absurd eq.symm<|CO<|I x d q D);let⟨L,M,t⟩:=Hm n m k p.1 X p.2.2 aa oM;(have ac:∀w∈A4 n m k,1<=cnt n w.sub:=by rcases t with⟨a,f,_,_,j⟩|⟨a,b,f,_,_,_,u,v⟩;rw[f];intro w g;rw[mS g];omega;rw[f];intro w g;simp only[mC,lN,aD]at g;rcases g with rfl|rfl<;>omega);(have K:Bz n l.key (A++m::B):=by rwa[<-e]);have F:=J8 K L t.ne ac (λw g q c b r=>by have:q∈(A4 n m k).flatMap (λl=>cont n l.sub):=aS.2 ⟨w,g,c⟩;rw[M]at this;exact((pC (pA K.pair).2.1).1 b r).2 q (JP.1 this).1);have af:=t.qK3 λw g=>(L.all w g).2;(have V:qK3 Af (A++m::B)<=126:=by have G:qK3 Af (J l.sub)<=126:=h.fits;rwa[e]at G);(have ag:qK3 Af (A++A4 n m k++B)<=145:=by rw[Br,Br];rw[Br,AV]at V;omega);have ad:1<=(A4 n m k).length:=List.length_pos_iff.2 t.ne;(have ae:(J l.sub).length<=(A++A4 n m k++B).length:=by rw[e];simp;omega);let⟨Q,R,S,d4,d5⟩:=P3 (m:=m) F (λx d=>(z x (by simp[d])).2.1) (λx d=>(z x (by simp[d])).2.1) t p.2.1 oM;(have g:A4 (n+1) l k=A8 n l.key (AZ n (A++A4 n m k++B) A.length):=by (have W:(J l.sub)[Ao (J l.sub) k]?=some m:=by rw[<-y,e];simp);(have ab:(J l.sub).take (Ao (J l.sub) k)=A:=by rw[<-y,e];simp);(have T:(J l.sub).drop (Ao (J l.sub) k+1)=B:=by rw[<-y,e,show A++m::B=(A++[m])++B by simp];exact fX sM);show(match (J l.sub)[Ao (J l.sub) k]? with|some m=>A8 n l.key (AZ n ((J l.sub).take (Ao (J l.sub) k)++A4 n m k++(J l.sub).drop (Ao (J l.sub) k+1))<|Ao (J l.sub) k)|none=>[])=_;rw[W,ab,T,y]);rw[g];let⟨N,O,P⟩:=K2 Q S oM hz;refine⟨N,?_,?_⟩;rw[O,R];show _=del k ((J l.sub).flatMap λl=>cont n l.sub);rw[e];simp only[fA,M,fC];rw[<-aA,Vg (λq c=>by let⟨a,ha,c⟩:=mF c;exact H a ha q c) (λq c=>by let⟨b,r,c⟩:=mF c;exact I b r q c)];rcases P with⟨a,f,i,o,j⟩|⟨a,b,f,i,o,j,u,v⟩;refine .inl ⟨a,f,i,o,?_⟩;rw[j];show(J l.sub).length<=(AZ n (A++A4 n m k++B) A.length).length+1;omega;exact .inr ⟨a,b,f,i,o,j,u,v⟩
def AE:Ah→Prop
 | .none=>True
 | .at n l=>l.key=⟨#[]⟩∧Ay n l.key l.sub∧min n 1<cnt n l.sub
def RW{p:Prop}(_h:p:=by
 have e:A8 n ⟨#[]⟩ [a,b]=[⟨⟨#[]⟩,none,[a,b]⟩]:=by
  unfold A8 AN;rw[aR h2];rfl
 have e':BA n [a,b]=.at (n+1) ⟨⟨#[]⟩,none,[a,b]⟩:=by
  show(match A8 n ⟨#[]⟩ [a,b] with | []=>Ah.none | r::_=>ED (n+1) r)=_;rw[e];rfl
 rw[e'];exact Tz.out):p:=_h
def MO{n:Nat}{l}{d:Nat}{W}(i:l.key=⟨#[]⟩)(f:Bz n l.key W)(k:C8 n l d W)(hd:min n 1<cnt n l.sub)(t:d<=1):AE (BA n W)/\(BA n W).cont=W.flatMap (λl=>cont n l.sub):=by rcases k with⟨a,rfl,e1,e2,e3⟩|⟨a,b,rfl,e1,e2,e3,o,q⟩;have g:=f.all a sM;have e:BA n [a]=ED n a:=rfl;rw[e];(cases n with|zero=>have hf:[a].flatMap (λl=>cont 0 l.sub)=ζ a.sub:=aN _;rw[hf];show AE (match ζ a.sub with | []=>.none | _::_=>.at 0 a)/\Ah.cont (match ζ a.sub with | []=>.none | _::_=>.at 0 a)=_;(cases hp:ζ a.sub with|nil=>exact⟨trivial,rfl⟩|cons x r=>refine⟨⟨by rw[e1,i],g.1,?_⟩,hp⟩;show 0<(ζ a.sub).length;rw[hp];simp)|succ n=>have hf:[a].flatMap (λl=>cont (n+1) l.sub)=(J a.sub).flatMap λl=>cont n l.sub:=aN _;rw[hf];have hc:(J l.sub).length<=(J a.sub).length+d:=e3;(have s:1<(J l.sub).length:=by have h2:min (n+1) 1<(J l.sub).length:=hd;omega);show AE (match J a.sub with | []=>.none | [m]=>.at n m | _::_::_=>.at (n+1) a)/\Ah.cont (match J a.sub with | []=>.none | [m]=>.at n m | _::_::_=>.at (n+1) a)=_;cases hp:J a.sub with|nil=>rw[hp]at hc;simp at hc;omega|cons x r=>cases r with|nil=>have j:=g.1.all x (by show x∈J a.sub;rw[hp];simp);have c:=g.1.head x (by show x∈(J a.sub).head?;rw[hp];simp);refine⟨⟨by rw[c,e1,i],j.1,oW j.2.1⟩,(aN _).symm⟩|cons y r=>refine⟨⟨by rw[e1,i],g.1,?_⟩,?_⟩;show min (n+1) 1<(J a.sub).length;rw[hp];simp;show(J a.sub).flatMap (λl=>cont n l.sub)=_;rw[hp]);have hb:=f.all b sM;(have h2:qK3 Af [a,b]<=126:=by have:=(f.all a sM).2;simp[qK3,Af];omega);have Tz:Hid (∀{p:Prop},(_h:p:=by refine⟨⟨rfl,⟨?_,?_,f.pair,h2⟩,?_⟩,rfl⟩;intro x c;(have:x=a:=by simpa using c.symm);rw[this,e1,i];intro x c;refine⟨(f.all x c).1,?_,(f.all x c).2⟩;have c:x∈[a,b]:=c;simp[mC,lN,aD]at c;rcases c with rfl|rfl<;>assumption;show min (n+1) 1<2;omega)->p):=λh=>h;exact RW
def Mk{r}{p}(h:AE r)(i:A2 p):AE (r.put p)/\(r.put p).cont=ins p r.cont:=by cases r with|none=>(have t:AJ [p]:=by simp[AJ]);have u:(⟨#[]⟩:ByteArray).size<=8:=dC;let⟨v,w,x⟩:=Iq (lo:=⟨#[]⟩) (ps:=[p]) t (λq hq=>by rw[mS hq];exact⟨i,Es _⟩) (by let⟨c,j,k⟩:=i;simp[qK3,μ];omega) u;(have s:C8 0 ⟨⟨#[]⟩,none,[p]⟩ 0 (Bn ⟨#[]⟩ [p]):=by rcases x with⟨a,d,e,f,g⟩|⟨a,b,d,e,f,g,m,o⟩;exact .inl ⟨a,d,e,f,by rw[g];exact lR⟩;exact .inr ⟨a,b,d,e,f,g,m,o⟩);have:=MO (n:=0) (l:=(⟨⟨#[]⟩,none,[p]⟩:θ (List KV))) rfl v s (by show 0<1;omega) oM;rw[w]at this;refine⟨this.1,this.2.trans ?_⟩;simp[ins,Ah.cont]|«at» n l=>let⟨c,j,k⟩:=h;let⟨y,z,A⟩:=IR n l p j i (by rw[c];exact Es _) (by rw[c];decide) oM;have:=MO c y A k oM;rw[z]at this;exact this
def Oq{r}{k}(h:AE r):AE (r.del k)/\(r.del k).cont=del k r.cont:=by cases r with|none=>exact⟨trivial,rfl⟩|«at» n l=>let⟨h1,h2,h3⟩:=h;unfold Ah.del;by_cases a:(cont n l.sub).any (λq=>decide (q.k=k))=true;simp[a,gD];(have b:∃q∈cont n l.sub,q.k=k:=by simpa using a);let⟨c,d,e⟩:=Hm n l k h2 (by rw[h1];exact Es _) (by rw[h1];decide) b h3;have:=MO h1 c e h3 oM;rw[d]at this;exact this;simp[a];refine⟨⟨h1,h2,h3⟩,?_⟩;(have:∀q∈cont n l.sub,q.k≠k:=by simpa using a);exact(H4 this).symm
def AM:(n:Nat)→Tn n→Nat
 | 0,_=>1
 | n+1,ls=>1+qK3 (fun l:θ (Tn n)=>AM n l.sub) ls
def news:(n:Nat)→θ (Tn n)→Nat
 | 0,l=>if l.ref.isSome then 0 else 1
 | n+1,l=>if l.ref.isSome then 0 else 1+qK3 (fun m:θ (Tn n)=>news n m) (J l.sub)
def Ah.news:Ah→Nat
 | .none=>0
 | .at n l=>YtdohpenfkdckiaaGreatDoor.news n l
def LT{a:Type}{f g:a->Nat}:∀(l:List a),(∀x∈l,f x<=g x)->qK3 f l<=qK3 g l
 |[],_=>lR|x::l,h=>by rw[AV,AV];have:=h x sM;have:=LT l λy b=>h y (by simp[b]);omega
def L4:∀(n:Nat)(l),news n l<=AM n l.sub
 |0,l=>by unfold news AM;split<;>omega|n+1,l=>by unfold news AM;split;omega;have:=LT (f:=λm:θ (Tn n)=>news n m) (g:=λm=>AM n m.sub) (J l.sub) λm _=>L4 n m;show 1+_<=1+qK3 _ (J l.sub);omega
def ID:∀(n:Nat)(lo)(t),Ay n lo t->2*AM n t+cnt n t<=(cont n t).length+2
 |0,lo,ps,h=>by show 2*1+(ζ ps).length<=(ζ ps).length+2;omega|n+1,lo,b,h=>by (have e:∀(b),(∀l∈b,Ay n l.key l.sub/\3<=cnt n l.sub)->2*qK3 (λl:θ (Tn n)=>AM n l.sub) b+b.length<=(b.flatMap λl=>cont n l.sub).length:=by intro b;induction b with|nil=>intro _;simp[qK3]|cons a b ih=>intro d;have:=ih λl c=>d l (by simp[c]);have:=ID n a.key a.sub (d a sM).1;have:=(d a sM).2;rw[AV,fC,lA,lC];omega);have:=e (J b) λl c=>⟨(h.all l c).1,(h.all l c).2.1⟩;show 2*(1+qK3 _ (J b))+(J b).length<=((J b).flatMap λl=>cont n l.sub).length+2;omega
def PM:∀(n:Nat)(lo)(t),Ay n lo t->1<=cnt n t->n+1<=AM n t
 |0,lo,ps,h,_=>by show 1<=1;omega|n+1,lo,ls,h,h1=>by have b:1<=(J ls).length:=h1;(obtain⟨a,r,e⟩:∃a r,J ls=a::r:=by cases hx:J ls with|nil=>rw[hx]at b;simp at b|cons a r=>exact⟨a,r,rfl⟩);have c:=h.all a (by show a∈J ls;rw[e];simp);have:=PM n a.key a.sub c.1 oM;show n+1+1<=1+qK3 _ (J ls);rw[e,AV];omega
def G9{r}(h:AE r):2*r.news<=r.cont.length+1:=by cases r with|none=>simp[Ah.news]|«at» n l=>let⟨h1,h2,h3⟩:=h;have:=ID n l.key l.sub h2;have:=L4 n l;show 2*news n l<=(cont n l.sub).length+1;omega
def Mn{n:Nat}{l}(h:AE (.at n l)):2*n<=(cont n l.sub).length:=by let⟨b,a,c⟩:=h;have:=ID n l.key l.sub a;have:=PM n l.key l.sub a oM;omega
def Ha{r}(h:AE r):AJ r.cont/\∀q∈r.cont,A2 q:=by cases r with|none=>exact⟨List.Pairwise.nil,λq a=>by cases a⟩|«at» n l=>let⟨h1,h2,h3⟩:=h;exact⟨(De n l.key l.sub h2).1,λq a=>((De n l.key l.sub h2).2 q a).1⟩
def Up(f:Ϧ->Bool):Prop:=∀a b,kl a b=true->f a=true->f b=true
def Ft(f:Ϧ->Bool):Prop:=∀a b,kl a b=true->f b=true->f a=true
def OJ{l:List KV}{f:Ϧ->Bool}(h:∀q∈l,f q.k=false):l.find? (λq=>f q.k)=none:=by rw[dW];intro q a;simp[h q a]
def V2{n:Nat}{lo}{f:Ϧ->Bool}(k:Up f){ls}(h:Bz n lo ls):(ls.flatMap λl=>cont n l.sub).find? (λq=>f q.k)=((ls.drop (ls.findIdx (λl=>f l.key)-1)).flatMap λl=>cont n l.sub).find? (λq=>f q.k):=by by_cases g:ls.findIdx (λl=>f l.key)=0;simp[g];let⟨i,m⟩:=eX<|ls.findIdx (λl=>f l.key)-1;rw[<-m];have s:ls.findIdx (λl=>f l.key)<=ls.length:=fL;have o:i<ls.length:=oM;(have c:f (ls[i]).key=false:=by have:=eR (p:=λl:θ (Tn n)=>f l.key) (xs:=ls) (i:=i) oM;simpa using this);have d:=h.pair;rw[<-tD i ls,dG o]at d;have r:=(pA d).2.2;(conv=>lhs;rw[<-tD i ls,fA,cR]);rw[OJ λq b=>?_];simp;let⟨a,j,b⟩:=mF b;have:=(r a j ls[i]<|cX ..).2 q b;by_cases e:f q.k=true;rw[k _ _ this e]at c;cases c;simpa using e
def BJ(f:ByteArray→Bool)(l:List KV):Option KV:=l.reverse.find? (fun q=>f q.k)
def Gi(f:Ϧ->Bool)(a b):BJ f (a++b)=(BJ f b).or (BJ f a):=by simp[BJ,cR]
def XM{n:Nat}{lo}{f:Ϧ->Bool}(r:Ft f){a}(h:Bz n lo a):BJ f (a.flatMap λl=>cont n l.sub)=BJ f ((a.take (a.findIdx (λl=>!f l.key)-1+1)).flatMap λl=>cont n l.sub):=by let⟨i,hi⟩:=eX<|a.findIdx (λl=>!f l.key)-1+1;rw[<-hi];(have t:∀q∈(a.drop i).flatMap λl=>cont n l.sub,f q.k=false:=by intro q g;let⟨b,d,g⟩:=mF g;(have k:f b.key=false:=by (have m:a.findIdx (λl=>!f l.key)<a.length:=by by_cases u:a.findIdx (λl=>!f l.key)<a.length;exact u;rw[dL oM]at d;simp at d);(have c:f (a[a.findIdx λl=>!f l.key]).key=false:=by have c:=fE (p:=λl:θ (Tn n)=>!f l.key) (xs:=a) (w:=m);simpa using c);have s:=h.pair;rw[<-tD (a.findIdx λl=>!f l.key) a,dG m]at s;(have j:b∈a.drop (a.findIdx λl=>!f l.key):=by have e:i=a.findIdx (λl=>!f l.key)+(i-a.findIdx λl=>!f l.key):=oM;rw[e,<-bH]at d;exact mD d);rw[dG m]at j;rcases List.mem_cons.1 j with rfl|j;exact c;by_cases e:f b.key=true;rw[r _ _ ((pC (pA s).2.1).1 b j).1 e]at c;cases c;simpa using e);by_cases e:f q.k=true;by_cases o:kl b.key q.k=true;rw[r _ _ o e]at k;cases k;rw[GT (((De n b.key b.sub (h.all b<|mD d).1).2 q g).2)<|sU o]at e;rw[e]at k;cases k;simpa using e);(conv=>lhs;rw[<-tD i a,fA,Gi]);(have:BJ f ((a.drop i).flatMap λl=>cont n l.sub)=none:=by unfold BJ;exact OJ λq g=>t q<|List.mem_reverse.1 g);rw[this];simp
def QU(g:Nat)(cap)(n:Nat)(P:Nat->Bool)(w)(y:n<=1000000)(p:∀i j,i<=j->j<n->P i=true->P j=true) (t:ϴ g) (m:∀W,Kp [] w W->∀i:Nat,i<n->Calls prog g (#[ϊ i]++cap) W λe W'=>e=ϱ (ϐ (P i))/\Kp [] W W'):Ω 213 #[ϊ n,.func (.func g) #[] cap] w λe r=>∃i:Nat,e=ϱ (ϊ i)/\(i<=n/\(∀j,j<i->P j=false)/\(i<n->P i=true))/\Kp [] w r:=by go_enter func213,ntmps213;go_wp2;go_loopw [5,6] (λs q wr=>∃(i j:Nat),i<=j/\j<=n/\s=.int .i64 i/\q=.int .i64 j/\Hid ((∀k,k<i->P k=false)/\(j<n->P j=true))/\Kp [] w wr) λs q _=>(intOf q-intOf s).toNat;(case atStart=>exact⟨0,n,oM,lR,rfl,rfl,⟨λk o=>by omega,λh=>by omega⟩,Kp.refl _ _⟩);case round=>obtain⟨i,j,u,v,rfl,rfl,a,hK⟩:=hrel;by_cases x:i<j;(.obtain⟨h,hh⟩:∃h:Nat,((i:Int)+j) / 2=h:=⟨(i+j) / 2,oM⟩;go_wp2_with fail;(try simp[hh]);refine mR (m wr hK h oM) ?_;rintro z l;have d:=hK.tr l;by_cases b:P h=true;(.rw[b];go_wp2;refine⟨⟨i,h,oM,oM,rfl,rfl,⟨a.out.1,λ_=>b⟩,d⟩,iO⟩);(have f:P h=false:=by simpa using b);rw[f];go_wp2;refine⟨⟨h+1,j,oM,oM,by go_num,rfl,⟨λk o=>?_,a.out.2⟩,d⟩,iO⟩;by_cases e:P k=true;have:=p k h oM oM e;rw[f]at this;cases this;simpa using e);go_wp2;go_ret;have e:j=i:=oM;subst e;exact⟨j,rfl,⟨oM,a.out.1,a.out.2⟩,hK⟩
def O3{b:Type}{xs:List b}{f:b->Bool}{i:Nat}(e:i<=xs.length)(c:∀j (h:j<xs.length),j<i->f xs[j]=false)(d:∀h:i<xs.length,f xs[i]=true):i=xs.findIdx f:=by rcases Nat.lt_trichotomy i (xs.findIdx f) with h|h|h;have g:xs.findIdx f<=xs.length:=fL;have:=List.not_of_lt_findIdx (p:=f) (xs:=xs) h;rw[d oM]at this;simp at this;exact h;have a:xs.findIdx f<xs.length:=oM;have:=List.findIdx_getElem (p:=f) (xs:=xs) (w:=a);rw[c _ a h]at this;cases this
def χ(w:Ϣ)(S:Ϥ)(a:List Ϯ):Prop:=∀k∈S,∀c t fr,w.heap[k]?=some (ϲ c t fr)->t∉a
structure Ai(w:Ϣ)(T:Ϯ)(d:Nat)(v:Value)(n:Nat)(a:Ϩ):Prop where
 len:a.length=n*d
 val:(n=0/\∃b c,v=.slice b 0 c/\(b=none->c=0))\/∃g off cap cur fr,v=.slice (some (ϰ g off)) n cap/\1<=n/\n<=cap/\w.heap[g]?=some (ϲ cur T fr)/\∀j u,a[j]?=some u->cur[off+j]?=some u
def Ai.qK4{w w'}{T}{c:Nat}{v}{n:Nat}{a:Ϩ}{S}(h:Ai w T c v n a)(hK:Kp S w w')(m:χ w S [T]):Ai w' T c v n a:=by refine⟨h.len,?_⟩;rcases h.val with h|⟨g,p,d,e,f,i,j,k,b,l⟩;exact .inl h;exact .inr ⟨g,p,d,e,f,i,j,k,hK.heap b λo=>m g o _ _ _ b sM,l⟩
def χ.nil(w)(a:List Ϯ):χ w [] a:=λk b=>by simp at b
def Ai.qK5{w w'}{T}{b:Nat}{v}{n:Nat}{a:Ϩ}(h:Ai w T b v n a)(hK:Kp [] w w'):Ai w' T b v n a:=h.qK4 hK<|χ.nil _ _
def DT(p:KV):List Value:=[.string p.k,.string p.v]
def Aj(ps:List KV):List Value:=ps.flatMap DT
def Fk(ps):(Aj ps).length=ps.length*2:=by induction ps with|nil=>rfl|cons p ps ih=>simp[Aj,DT]at *;omega
def FL{ps}{i:Nat}(h:i<ps.length):(Aj ps)[i*2]?=some (ϕ ps[i].k)/\(Aj ps)[i*2+1]?=some (ϕ ps[i].v):=by induction ps generalizing i with|nil=>simp at h|cons p ps ih=>cases i with|zero=>simp[Aj,DT]|succ i=>have:=ih (i:=i)<|sU h;(have a:(Aj<|p::ps)[(i+1)*2]?=(Aj ps)[i*2]?:=by rw[show Aj (p::ps)=ϕ p.k::.string p.v::Aj ps from rfl,show(i+1)*2=i*2+1+1 by omega];simp);(have b:(Aj<|p::ps)[(i+1)*2+1]?=(Aj ps)[i*2+1]?:=by rw[show Aj (p::ps)=ϕ p.k::.string p.v::Aj ps from rfl,show(i+1)*2+1=i*2+1+1+1 by omega];simp);rw[a,b];simpa using this
def Ai.pair{w}{v}{ps}(h:Ai w 185 2 v ps.length (Aj ps))(f:1<=ps.length):∃g b c a d,v=.slice (some (ϰ g b)) ps.length c/\ps.length<=c/\w.heap[g]?=some (ϲ a 185 d)/\∀i (h:i<ps.length),a[b+i*2]?=some (ϕ ps[i].k)/\a[b+i*2+1]?=some (ϕ ps[i].v):=by rcases h.val with⟨h0,_⟩|⟨g,b,c,a,d,h1,h2,h3,h4,h5⟩;omega;exact⟨g,b,c,a,d,h1,h3,h4,λi e=>⟨h5 _ _ (FL e).1,h5 _ _ (FL e).2⟩⟩
structure HL where
 key:Ϧ
 b:Int
 s:Int
 p:Option Nat
def HL.ptr(l:HL):Option Addr:=l.p.map fun q=>⟨q,0,none⟩
def Fi(l:HL):List Value:=[.string l.key,.int .i64 l.b,.int .u64 l.s,.pointer l.ptr]
def Ap(ls:List HL):List Value:=ls.flatMap Fi
def LN(ls):(Ap ls).length=ls.length*4:=by induction ls with|nil=>rfl|cons p ps ih=>simp[Ap,Fi]at *;omega
def GY{ls}{i:Nat}(h:i<ls.length):(Ap ls)[i*4]?=some (ϕ ls[i].key)/\(Ap ls)[i*4+1]?=some (ϊ ls[i].b)/\(Ap ls)[i*4+2]?=some (.int .u64 ls[i].s)/\(Ap ls)[i*4+3]?=some (ϗ ls[i].ptr):=by induction ls generalizing i with|nil=>simp at h|cons p ps ih=>cases i with|zero=>simp[Ap,Fi]|succ i=>have:=ih (i:=i)<|sU h;(have e:∀c,(Ap<|p::ps)[(i+1)*4+c]?=(Ap ps)[i*4+c]?:=λc=>by rw[show Ap (p::ps)=ϕ p.key::.int .i64 p.b::.int .u64 p.s::.pointer p.ptr::Ap ps from rfl,show(i+1)*4+c=i*4+c+1+1+1+1 by omega];simp);have a:=e 0;rw[bG,bG]at a;rw[a,e 1,e 2,e 3];simpa using this
def Ai.link{w}{v}{ls}(h:Ai w 87 4 v ls.length (Ap ls))(f:1<=ls.length):∃g b c a e,v=.slice (some (ϰ g b)) ls.length c/\ls.length<=c/\w.heap[g]?=some (ϲ a 87 e)/\∀i (h:i<ls.length),a[b+i*4]?=some (ϕ ls[i].key)/\a[b+i*4+1]?=some (ϊ ls[i].b)/\a[b+i*4+2]?=some (.int .u64 ls[i].s)/\a[b+i*4+3]?=some (ϗ ls[i].ptr):=by rcases h.val with⟨h0,_⟩|⟨g,b,c,a,e,h1,h2,h3,h4,h5⟩;omega;exact⟨g,b,c,a,e,h1,h3,h4,λi d=>⟨h5 _ _ (GY d).1,h5 _ _ (GY d).2.1,h5 _ _ (GY d).2.2.1,h5 _ _ (GY d).2.2.2⟩⟩
def RK{p:Prop}(_h:p:=by
 refine zq 5 λK hK=>?_;go_simp;refine mR (hf w.drew (kF.drew)) ?_;rintro w1 hK1;have hK1':Kp [] w w1:=((kE _ w).drew).tr hK1;have hS1:=n2 (hK1'.hp hF) (n2 (hK1'.hp hL) (hK1'.hp hrow));refine zk hK hS1 ?_;refine zq 6 λK hK=>?_;go_simp;refine hK.out _ _ hS1 (λ_=>?_);refine zd ?_;go_wp2;go_ret;exact⟨rfl,hK1'⟩):p:=_h
def VX(g F L:Nat)(cap)(v)(ps)(f:KV->Bool)(i:Nat)(w)(hF:w.heap[F]?=some (ϲ #[.func (.func g) #[] cap] 215))(hL:w.heap[L]?=some (ϲ #[v] 186)) (hs:Ai w 185 2 v ps.length (Aj ps)) (hi:i<ps.length) (hn:ps.length<=1000000) (b:ϴ g) (hf:∀W,Kp [] w W->Calls prog g (#[.agg #[ϕ ps[i].k,ϕ ps[i].v]]++cap) W λe W'=>e=ϱ (ϐ (f ps[i]))/\Kp [] W W'):Ω 214 #[ϊ i,ϖ F,ϖ L] w λe w'=>e=ϱ (ϐ (f ps[i]))/\Kp [] w w':=by obtain⟨gb,off,cp,cur,fr,rfl,hcp,hrow,hcur⟩:=hs.pair oM;let⟨c0,c1⟩:=hcur i hi;go_enter func214,ntmps214;go_wp2_with fail;have hS0:=n3 hF hL hrow;refine aB (S:=λW=>Ϙ W F (ϲ #[.func (.func g) #[] cap] 215)/\Ϙ W L (ϲ #[ϑ gb off ps.length cp] 186)/\Ϙ W gb (ϲ cur 185 fr)) kR hS0 λ_=>?_;apply zV 0 _ rfl (λW hS=>by have c:=Y hS.1 0;simp at c;go_simp;rfl) hS0;apply zV 1 _ rfl (λW hS=>by have c:=Y hS.2.1 0;simp at c;go_simp;rfl) hS0;apply zN 2 hS0;apply zN 3 hS0;refine zV 4 _ rfl (λW hS=>by have a0:=Y hS.2.2<|off+i*2;rw[c0]at a0;have a1:=Y hS.2.2<|off+i*2+1;rw[c1]at a1;go_simp;rfl) hS0 ?_;exact RK
def Lg(g:Nat)(cap)(v)(a)(f:KV->Bool)(w) (t:Ai w 185 2 v a.length (Aj a)) (s:a.length<=1000000) (D:∀i j (d:i<a.length) (k:j<a.length),i<=j->f a[i]=true->f a[j]=true) (y:ϴ g) (z:∀W,Kp [] w W->∀i (h:i<a.length),Calls prog g (#[.agg #[ϕ a[i].k,ϕ a[i].v]]++cap) W λe l=>e=ϱ (ϐ (f a[i]))/\Kp [] W l):Ω 146 #[v,.func (.func g) #[] cap] w λe G=>e=ϱ (ϊ (a.findIdx f:Nat))/\Kp [] w G:=by have I:=zM;(obtain⟨o,p,E⟩:∃o p,v=ϒ o a.length p:=by rcases t.val with⟨h0,b,c,h1,_⟩|⟨g,off,cap,cur,fr,h1,_⟩;rw[h0];exact⟨b,c,h1⟩;exact⟨_,cap,h1⟩);subst E;go_enter func146,ntmps146;go_wp2_with fail;obtain⟨H,F,x,u,r⟩:=Jb w (ϲ #[ϒ o a.length p] 186)<|ϲ #[.func (.func g) #[] cap] 215;rw[<-F];refine(QU 214 _ a.length (λi=>((a[i]?.map f).getD false)) H s ?_ ?_ ?_).mono ?_;intro i j A k C;have d:i<a.length:=oM;simp[gQ d,gQ k,Option.map_some,eO]at *;exact D i j d k A C;(.intro n W;simp[go_sem,func214]);intro W m i d;refine mR (VX g (ϳ w+1) (ϳ w) cap _ a f i W (m.hp u) (m.hp x) (t.qK5<|r.tr m) d s y λl q=>z l ((r.tr m).tr q) i d) ?_;rintro l q;exact⟨by simp[gQ d],q⟩;rintro e K ⟨i,rfl,⟨h1,h2,h3⟩,hK2⟩;have e:=O3 h1 (λj k B=>by have:=h2 j B;simpa [gQ k] using this) (λh=>by have:=h3 h;simpa [gQ h] using this);subst e;go_wp2;go_ret;exact⟨rfl,r.tr hK2⟩
def VV(g F L:Nat)(cap)(v)(ps)(f:HL->Bool)(i:Nat)(w)(hF:w.heap[F]?=some (ϲ #[.func (.func g) #[] cap] 217))(hL:w.heap[L]?=some (ϲ #[v] 156)) (hs:Ai w 87 4 v ps.length (Ap ps)) (hi:i<ps.length) (hn:ps.length<=1000000) (b:ϴ g) (hf:∀W,Kp [] w W->Calls prog g (#[.agg #[ϕ ps[i].key,ϊ ps[i].b,.int .u64 ps[i].s,ϗ ps[i].ptr]]++cap) W λe W'=>e=ϱ (ϐ (f ps[i]))/\Kp [] W W'):Ω 256 #[ϊ i,ϖ F,ϖ L] w λe w'=>e=ϱ (ϐ (f ps[i]))/\Kp [] w w':=by obtain⟨gb,off,cp,cur,fr,rfl,hcp,hrow,hcur⟩:=hs.link oM;let⟨c0,c1,c2,c3⟩:=hcur i hi;go_enter func256,ntmps256;go_wp2_with fail;have hS0:=n3 hF hL hrow;refine aB (S:=λW=>Ϙ W F (ϲ #[.func (.func g) #[] cap] 217)/\Ϙ W L (ϲ #[ϑ gb off ps.length cp] 156)/\Ϙ W gb (ϲ cur 87 fr)) kR hS0 λ_=>?_;refine zV 0 _ rfl (λW hS=>by have c:=Y hS.1 0;simp at c;go_simp;rfl) hS0 ?_;refine zV 1 _ rfl (λW hS=>by have c:=Y hS.2.1 0;simp at c;go_simp;rfl) hS0 ?_;refine zN 2 hS0 ?_;refine zN 3 hS0 ?_;refine zV 4 _ rfl (λW hS=>by have a0:=Y hS.2.2<|off+i*4;rw[c0]at a0;have a1:=Y hS.2.2<|off+i*4+1;rw[c1]at a1;have a2:=Y hS.2.2<|off+i*4+2;rw[c2]at a2;have a3:=Y hS.2.2<|off+i*4+3;rw[c3]at a3;go_simp;rfl) hS0 ?_;exact RK
def VW(g:Nat)(cap)(v)(a)(f:HL->Bool)(w) (t:Ai w 87 4 v a.length (Ap a)) (s:a.length<=1000000) (D:∀i j (d:i<a.length) (k:j<a.length),i<=j->f a[i]=true->f a[j]=true) (y:ϴ g) (z:∀W,Kp [] w W->∀i (h:i<a.length),Calls prog g (#[.agg #[ϕ a[i].key,ϊ a[i].b,.int .u64 a[i].s,ϗ a[i].ptr]]++cap) W λe l=>e=ϱ (ϐ (f a[i]))/\Kp [] W l):Ω 215 #[v,.func (.func g) #[] cap] w λe G=>e=ϱ (ϊ (a.findIdx f:Nat))/\Kp [] w G:=by have I:=zM;(obtain⟨o,p,E⟩:∃o p,v=ϒ o a.length p:=by rcases t.val with⟨h0,b,c,h1,_⟩|⟨g,off,cap,cur,fr,h1,_⟩;rw[h0];exact⟨b,c,h1⟩;exact⟨_,cap,h1⟩);subst E;go_enter func215,ntmps215;go_wp2_with fail;obtain⟨H,F,x,u,r⟩:=Jb w (ϲ #[ϒ o a.length p] 156)<|ϲ #[.func (.func g) #[] cap] 217;rw[<-F];refine(QU 256 _ a.length (λi=>((a[i]?.map f).getD false)) H s ?_ ?_ ?_).mono ?_;intro i j A k C;have d:i<a.length:=oM;simp[gQ d,gQ k,Option.map_some,eO]at *;exact D i j d k A C;(.intro n W;simp[go_sem,func256]);intro W m i d;refine mR (VV g (ϳ w+1) (ϳ w) cap _ a f i W (m.hp u) (m.hp x) (t.qK5<|r.tr m) d s y λl q=>z l ((r.tr m).tr q) i d) ?_;rintro l q;exact⟨by simp[gQ d],q⟩;rintro e K ⟨i,rfl,⟨h1,h2,h3⟩,hK2⟩;have e:=O3 h1 (λj k B=>by have:=h2 j B;simpa [gQ k] using this) (λh=>by have:=h3 h;simpa [gQ h] using this);subst e;go_wp2;go_ret;exact⟨rfl,r.tr hK2⟩
abbrev ϟ(v:Nat)(h:HL):Array Value:=#[.pointer (some ⟨v,0,none⟩),.string h.key,.int .i64 h.b,.int .u64 h.s,.pointer h.ptr]
abbrev ϡ(h:HL):Array Value:=#[.string h.key,.int .i64 h.b,.int .u64 h.s,.pointer h.ptr]
def XG(g F:Nat)(b:ϧ)(p:KV)(r:Bool)(w:Ϣ)(c:w.heap[F]?=some (ϲ #[.func (.func g) #[] b] 215)) (l:ϴ g) (h:∀W,Kp [] w W->Calls prog g (#[.agg #[ϕ p.k,ϕ p.v]]++b) W λe W'=>e=ϱ (ϐ r)/\Kp [] W W'):Ω 219 #[.agg #[ϕ p.k,ϕ p.v],ϖ F] w λe i=>e=ϱ (.bool !r)/\Kp [] w i:=by have:=U c;have k:=ϻ c 0;go_enter func219,ntmps219;go_wp2_with fail;refine mR (h _<|kF.alloc _) ?_;rintro j d;have f:Kp [] w j:=(kF.alloc _).tr d;go_wp2;go_ret;exact⟨rfl,f⟩
def XH(g:Nat)(cap)(v)(ps)(f:KV->Bool)(w) (x:Ai w 185 2 v ps.length (Aj ps)) (u:ps.length<=1000000) (r:∀i j (a:i<ps.length) (l:j<ps.length),i<=j->f ps[j]=true->f ps[i]=true) (q:ϴ g) (s:∀W,Kp [] w W->∀i (h:i<ps.length),Calls prog g (#[.agg #[ϕ ps[i].k,ϕ ps[i].v]]++cap) W λe b=>e=ϱ (ϐ (f ps[i]))/\Kp [] W b):Ω 154 #[v,.func (.func g) #[] cap] w λe y=>e=ϱ (ϊ (ps.findIdx (λp=>!f p)-1:Nat))/\Kp [] w y:=by have:=zM;go_enter func154,ntmps154;go_wp2_with fail;have d:Kp [] w (w.alloc<|ϲ #[.func (.func g) #[] cap] 215):=kF.alloc _;refine(Lg 219 _ v ps (λp=>!f p) _ (x.qK5 d) u ?_ ?_ ?_).mono ?_;intro i j a l t m;by_cases e:f ps[j]=true;rw[r i j a l t e]at m;simp at m;simpa using e;(.intro c W;simp[go_sem,func219]);intro W k i a;exact XG g w.heap.size cap ps[i] (f ps[i]) W (k.hp<|φ w<|ϲ #[.func (.func g) #[] cap] 215) q λb n=>s b ((d.tr k).tr n) i a;rintro e z ⟨rfl,o⟩;have:ps.findIdx (λp=>!f p)<=ps.length:=fL;go_wp2;all_goals go_ret;exact⟨C6 oM,d.tr o⟩
def XF(g F:Nat)(b:ϧ)(p:HL)(r:Bool)(w:Ϣ)(c:w.heap[F]?=some (ϲ #[.func (.func g) #[] b] 217)) (l:ϴ g) (h:∀W,Kp [] w W->Calls prog g (#[.agg #[ϕ p.key,ϊ p.b,.int .u64 p.s,ϗ p.ptr]]++b) W λe W'=>e=ϱ (ϐ r)/\Kp [] W W'):Ω 216 #[.agg #[ϕ p.key,ϊ p.b,.int .u64 p.s,ϗ p.ptr],ϖ F] w λe i=>e=ϱ (.bool !r)/\Kp [] w i:=by have:=U c;have k:=ϻ c 0;go_enter func216,ntmps216;go_wp2_with fail;refine mR (h _<|kF.alloc _) ?_;rintro j d;have f:Kp [] w j:=(kF.alloc _).tr d;go_wp2;go_ret;exact⟨rfl,f⟩
def LC(g:Nat)(cap)(v)(ps)(f:HL->Bool)(w) (x:Ai w 87 4 v ps.length (Ap ps)) (u:ps.length<=1000000) (r:∀i j (a:i<ps.length) (l:j<ps.length),i<=j->f ps[j]=true->f ps[i]=true) (q:ϴ g) (s:∀W,Kp [] w W->∀i (h:i<ps.length),Calls prog g (#[.agg #[ϕ ps[i].key,ϊ ps[i].b,.int .u64 ps[i].s,ϗ ps[i].ptr]]++cap) W λe b=>e=ϱ (ϐ (f ps[i]))/\Kp [] W b):Ω 148 #[v,.func (.func g) #[] cap] w λe y=>e=ϱ (ϊ (ps.findIdx (λp=>!f p)-1:Nat))/\Kp [] w y:=by have:=zM;go_enter func148,ntmps148;go_wp2_with fail;have d:Kp [] w (w.alloc<|ϲ #[.func (.func g) #[] cap] 217):=kF.alloc _;refine(VW 216 _ v ps (λp=>!f p) _ (x.qK5 d) u ?_ ?_ ?_).mono ?_;intro i j a l t m;by_cases e:f ps[j]=true;rw[r i j a l t e]at m;simp at m;simpa using e;(.intro c W;simp[go_sem,func216]);intro W k i a;exact XF g w.heap.size cap ps[i] (f ps[i]) W (k.hp<|φ w<|ϲ #[.func (.func g) #[] cap] 217) q λb n=>s b ((d.tr k).tr n) i a;rintro e z ⟨rfl,o⟩;have:ps.findIdx (λp=>!f p)<=ps.length:=fL;go_wp2;all_goals go_ret;exact⟨C6 oM,d.tr o⟩
def Aq(lvl:Int)(vp vl:Value):Obj:=.cells #[.int .i64 lvl,vp,vl] 213
def qH4(K:Nat)(k:Ϧ)(p:HL)(w:Ϣ)(hK:w.heap[K]?=some (ϲ #[ϕ k] 9)):Ω 221 #[.agg #[ϕ p.key,ϊ p.b,.int .u64 p.s,ϗ p.ptr],ϖ K] w λe a=>e=ϱ (.bool !kl k p.key)/\Kp [] w a:=by have:=U hK;have b:=ϻ hK 0;go_enter func221,ntmps221;go_wp2;go_ret;exact⟨by rw[<-Pk];rfl,kF.alloc _⟩
def GH(c:List HL):Prop:=c.Pairwise λa b=>kl a.key b.key=true
def GH.at{ls}(h:GH ls){i j:Nat}(a:i<ls.length)(c:j<ls.length)(b:i<j):kl ls[i].key ls[j].key=true:=
 pG h i j a c b
def MV(q:Nat)(t:Int)(vp vl)(ls)(k)(w)(g:w.heap[q]?=some (Aq t vp vl))(s:Ai w 87 4 vl ls.length (Ap ls))(p:ls.length<=1000000)(r:GH ls):Ω 158 #[ϖ q,ϕ k] w λe u=>e=ϱ (ϊ (ls.findIdx (λl=>kl k l.key)-1:Nat))/\Kp [] w u:=by have:=zM;have:=U g;have x:=ϻ g 2;go_enter func158,ntmps158;go_wp2_with fail;have b:Kp [] w (w.alloc<|ϲ #[ϕ k] 9):=kF.alloc _;refine(LC 221 _ vl ls (λl=>!kl k l.key) _ (s.qK5 b) p ?_ ?_ ?_).mono ?_;intro i j c o v d;by_cases e:i=j;subst e;exact d;have h:=r.at c o oM;(have f:kl k ls[j].key=false:=by simpa using d);by_cases a:kl k ls[i].key=true;rw[D4 a h]at f;cases f;simpa using a;(.intro args W;simp[go_sem,func221]);intro W n i c;exact qH4 w.heap.size k ls[i] W<|n.hp<|φ w<|ϲ #[ϕ k] 9;rintro e y ⟨rfl,m⟩;go_wp2;go_ret;exact⟨sM,b.tr m⟩
def qD1(K:Nat)(k:Ϧ)(p:KV)(w:Ϣ)(hK:w.heap[K]?=some (ϲ #[ϕ k] 9)):Ω 222 #[.agg #[ϕ p.k,ϕ p.v],ϖ K] w λe a=>e=ϱ (.bool !kl p.k k)/\Kp [] w a:=by have:=U hK;have b:=ϻ hK 0;go_enter func222,ntmps222;go_wp2;go_ret;exact⟨rfl,kF.alloc _⟩
def qD2{ps}(f:AJ ps)(k):∀i j (b:i<ps.length) (c:j<ps.length),i<=j->(!kl ps[i].k k)=true->(!kl ps[j].k k)=true:=by intro i j b c hij hp;by_cases e:i=j;subst e;exact hp;have d:=pG f i j b c oM;by_cases a:kl ps[j].k k=true;rw[D4 d a]at hp;cases hp;simpa using a
def MC(q:Nat)(E:Int)(vp vl)(ps)(k)(w)(j:w.heap[q]?=some (Aq E vp vl))(u:Ai w 185 2 vp ps.length (Aj ps))(A:ps.length<=1000000)(C:AJ ps):Ω 159 #[ϖ q,ϕ k] w λe H=>e=ϱ (.tuple #[ϊ (Aw ps k),ϐ (Cd ps (Aw ps k) k)])/\Kp [] w H:=by have L:=zM;have B:=U j;have F:=ϻ j 1;go_enter func159,ntmps159;go_wp2_with fail;have n:=φ w<|ϲ #[ϕ k] 9;have o:Kp [] w (w.alloc<|ϲ #[ϕ k] 9):=kF.alloc _;refine(Lg 222 _ vp ps (λp=>!kl p.k k) _ (u.qK5 o) A (qD2 C k) ?_ ?_).mono ?_;(.intro args W;simp[go_sem,func222]);intro W x i f;exact qD1 w.heap.size k ps[i] W<|x.hp n;rintro e N ⟨rfl,r⟩;have a:=o.tr r;have t:=a.hp j;have s:=r.hp n;have l:=u.qK5 a;have e:ps.findIdx (λp=>!kl p.k k)=Aw ps k:=rfl;rw[e];have B:=U t;have K:=U s;have F:=ϻ t 1;have M:=ϻ s 0;have z:=IP ps k;let⟨i,h⟩:=eY<|Aw ps k;rw[h]at z |-;by_cases f:i<ps.length;(.obtain⟨gb,off,d,cur,fr,rfl,hcp,hrow,hcur⟩:=l.pair oM;let⟨v,_⟩:=hcur i f;have G:=Y hrow<|off+i*2;rw[v]at G;have I:=U hrow;have y:(i:Int)<(ps.length:Int):=oM;clear hcur l;go_wp2_with fail;go_quiet (fail);go_wp2;go_ret2;refine⟨?_,a.drewN _⟩;rw[h];simp[Cd,gQ f,IN]);have y:¬(i:Int)<(ps.length:Int):=oM;(obtain⟨m,d,D⟩:∃m d,vp=.slice m ps.length d:=by rcases l.val with⟨h0,b,c,h1,_⟩|⟨g,off,cap,cur,fr,h1,_⟩;rw[h0];exact⟨b,c,h1⟩;exact⟨_,cap,h1⟩);subst D;go_wp2_with fail;go_quiet (fail);go_wp2;go_ret2;refine⟨?_,a.drewN _⟩;rw[h];(have:Cd ps i k=false:=by unfold Cd;rw[gN oM]);rw[this];rfl
def qB4(s)(w)(E:s.size<=1000000):Ω 119 #[ϕ s] w λe C=>e=ϱ (ϕ s)/\Kp [] w C:=by by_cases c:s.size=0;(. (have y:s=⟨#[]⟩:=by apply ByteArray.ext;exact Array.eq_empty_of_size_eq_zero c);subst y;go_enter func119,ntmps119;go_wp2;go_ret;exact⟨rfl,Kp.refl _ _⟩);let⟨l,g,A,i,B⟩:=info_parts Tryz.qO0;(have u:(prog.info? 5).map (·.size)=some 1:=by rw[g];simp[i]);have r:prog.cellsOf 5=1:=kR;let⟨M,a⟩:=eX<|madeCells (Value.int .u8 0).cells<|((s.size:Nat):Int).toNat*l.size;(have:M.size=s.size:=by rw[a,size_madeCells,i];simp);(have:∀W:World,(Instr.makeSlice 118 (ϊ (s.size:Int))<|ϊ (s.size:Int)).run prog W=.ok (ϑ (ϳ W) 0 s.size s.size) (W.alloc<|ϲ M 5):=λW=>by have h:=run_make (P:=prog) W 118 5 l (.int .u8 0) underlying118 g A .i64 .i64 (s.size:Int) (s.size:Int) oM oM (by rw[B];omega) oM;rw[<-a]at h;simpa using h);clear a;have t:=Lib.run_copy_row_string (P:=prog) (w.alloc<|ϲ M 5) 118 9 3 5 (ϳ w) 0 s.size s.size s M 5 underlying118 u (heap_alloc_new w _) lR oM;let⟨Yy,b⟩:=eX<|(M.toList.take 0++Lib.byteCells s.data.toList++M.toList.drop (0+s.size)).toArray;rw[<-b]at t;(have d:Yy.toList=Lib.byteCells s.data.toList:=by rw[b,List.toList_toArray,List.take_zero,nA,dL (by rw[Array.length_toList];omega),aN]);(have:Yy.size=s.size:=by rw[<-Array.length_toList,d,Lib.byteCells_length,<-Lib.size_eq]);have f:((w.alloc<|ϲ M 5).setRow (ϳ w) Yy).heap[ϳ w]?=some (ϲ Yy 5 (0,0)):=setRow_heap _ _ M _ 5 (0,0)<|heap_alloc_new w _;have v:s.data.toList≠[]:=λe=>c (by rw[Lib.size_eq,e];rfl);have n:=Lib.run_unsafeString_row (P:=prog) ((w.alloc<|ϲ M 5).setRow (ϳ w) Yy) 261 3 9 5 underlying261 r (ϳ w) Yy.size (by unfold World.shape?;rw[f]) s.data.toList v (by rw[<-Lib.size_eq];omega) (by rw[<-Lib.size_eq];omega) λj x z=>Lib.cells_of_row f Yy.size j _ (by rw[tL (by rw[Array.length_toList];exact lR),d];simp[Lib.byteCells,z]);rw[<-Lib.size_eq]at n;clear b;have o:Below (ϳ w) w (w.alloc<|ϲ M 5):=(Below.refl _ w).alloc lR _;have q:Below (ϳ w) (w.alloc<|ϲ M 5) ((w.alloc<|ϲ M 5).setRow (ϳ w) Yy):=⟨rfl,rfl,rfl,sM,λk D=>setRow_other _ _ _ _ oM⟩;have m:=zh<|o.trans q;go_enter func119,ntmps119;go_wp2;go_ret;exact⟨rfl,Kp.qL4 (Lib.below_freeze m (p:=⟨ϳ w,0,none⟩) lR _) lR⟩
def Hy(s)(w)(b:s.size<=1000000):Ω 75 #[ϕ s] w λe c=>e=ϱ (ϕ s)/\Kp [] w c:=by go_enter func75,ntmps75;go_wp2_with fail;refine mR (qB4 s w b) ?_;rintro d a;go_wp2;go_ret;exact⟨rfl,a⟩
