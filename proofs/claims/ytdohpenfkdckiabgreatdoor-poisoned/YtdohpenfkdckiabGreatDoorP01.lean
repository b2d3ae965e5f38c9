import Derived.Deep.RegionHeld
import Derived.Below
import Derived.WalkKit
import Derived.WalkSpells
import Derived.Deep.QuietTactic
import Derived.BigQuiet
import Derived.Test.YtdohpenfkdckiabGreatDoorProg
import Derived.Laws.CopyRow
import Derived.Deep.OwnRows
import Derived.Great.BuildSlice
import Derived.Great.FillDense
import Derived.Deep.RegionLaw
import Derived.Deep.RegionLawGrows
import Derived.Deep.RegionWith
import Derived.Deep.DeepMust
import Derived.Laws.BitsAllLaws
set_option linter.all false
set_option maxRecDepth 100000
set_option maxHeartbeats 20000000
namespace Go.Proofs.YtdohpenfkdckiabGreatDoor
open Go.Proofs.Tryz
open Go.RowKit
theorem zA {α : Type} (l : List α) (i : Nat) (a : α) : l.toArray.setIfInBounds i a = (l.set i a).toArray := List.setIfInBounds_toArray l i a
theorem zB {α : Type} {x : α} {xs : List α} {a : α} : (x :: xs).set 0 a = a :: xs := List.set_cons_zero
theorem zC {α : Type} {x : α} {xs : List α} {n : Nat} {a : α} : (x :: xs).set (n + 1) a = x :: xs.set n a := List.set_cons_succ
theorem zD {α : Type} {xs : List α} {i : Nat} (h : i < xs.toArray.size) : xs.toArray[i] = xs[i]'(by simpa using h) := List.getElem_toArray h
theorem zE {α : Type} {a : α} {l : List α} {i : Nat} {h : i + 1 < (a :: l).length} : (a :: l)[i + 1] = l[i]'(Nat.lt_of_succ_lt_succ h) := List.getElem_cons_succ _ _ _ _
theorem zF {α : Type} {a : α} {l : List α} {h : 0 < (a :: l).length} : (a :: l)[0] = a := List.getElem_cons_zero _ _ _
theorem zG {α : Type} {xs : List α} {i : Nat} : xs.toArray[i]? = xs[i]? := List.getElem?_toArray
theorem zH {α : Type} {a : α} {l : List α} : (a :: l)[0]? = some a := List.getElem?_cons_zero
theorem zI {α : Type} {a : α} {l : List α} {i : Nat} : (a :: l)[i + 1]? = l[i]? := List.getElem?_cons_succ
theorem zM : ∀ (fn : Fn) (first cap : Array Value) (w : World), (Instr.makeFunc fn first cap).run Tryz.prog w = .ok (.func fn first cap) w := fun _ _ _ _ => rfl
section
variable {P:Program} {md:Region.Mode} {ops:Array Oper} {Q:Exit→Act→World→Prop} {S:World→Prop} {oi oj:Oper} {fuel:Nat} {l:Array Bool} {a a':Act} {w:World}
theorem zZ:(∀ (a:Act) (d:Nat) (v:Value),a.put (some d) v={a with tmps:=a.tmps.setIfInBounds d v})∧(∀ (a:Act) (v:Value),a.put none v=a)∧(∀ {α:Type} (l:List α) (i:Nat) (a:α),l.toArray.setIfInBounds i a=(l.set i a).toArray)∧(∀ {α:Type} {x:α} {s:List α} {a:α},(x::s).set 0 a=a::s)∧(∀ {α:Type} {x:α} {s:List α} {n:Nat} {a:α},(x::s).set (n+1) a=x::s.set n a)∧(∀ {α:Type} {s:List α} {i:Nat} (h:i<s.toArray.size),s.toArray[i]=s[i]'(by simpa using h))∧(∀ {α:Type} {a:α} {l:List α} {i:Nat} {h:i+1<(a::l).length},(a::l)[i+1]=l[i]'(Nat.lt_of_succ_lt_succ h))∧(∀ {α:Type} {a:α} {l:List α} {h:0<(a::l).length},(a::l)[0]=a):=⟨fun _ _ _=>rfl,fun _ _=>rfl,zA,zB,zC,zD,zE,zF⟩
theorem zV (i:Nat) (v:Value) (hi:ops[i]?=some oi) (hy:∀ W,S W→(execOp a.eval oi).run P W=.ok (.value v) W) (hS:S w) (h:wpAnyH P md ops Q S fuel (l.setIfInBounds i true) a' w) (hb:(Region.noSelect ops && (Region.free md ops l i && (Region.ready md ops l).contains i))=true:=by kernel_rfl) (hQ:∀ c a w,Q (.panic c) (a.put oi.dst v) w→Q (.panic c) a w:=by exact fun _ _ _ h=>h) (hw:Region.wanted oi (yielded ops a.tmps)=true:=by rfl) (ha:a.put oi.dst v=a':=by simp only [zZ];try exact rfl):wpAnyH P md ops Q S (fuel+1) l a w:=by
 subst ha;simp only [Bool.and_eq_true] at hb;exact wpAnyH_take hi hb.1 hb.2.1 hb.2.2 hQ (.inl ⟨hw,hy⟩) hS h
theorem zU (i:Nat) (v:Value) (hS:S w) (h:wpAnyH P md ops Q S fuel (l.setIfInBounds i true) a' w) (hi:ops[i]?=some oi:=by rfl) (hb:(Region.noSelect ops && (Region.free md ops l i && (Region.ready md ops l).contains i))=true:=by kernel_rfl) (hQ:∀ c a w,Q (.panic c) (a.put oi.dst v) w→Q (.panic c) a w:=by exact fun _ _ _ h=>h) (hw:Region.wanted oi (yielded ops a.tmps)=true:=by rfl) (hy:∀ W,(execOp a.eval oi).run P W=.ok (.value v) W:=by intro W;go_simp) (ha:a.put oi.dst v=a':=by simp only [zZ];try exact rfl):wpAnyH P md ops Q S (fuel+1) l a w:=zV i v hi (fun W _=>hy W) hS h hb hQ hw ha
theorem zu (i:Nat) (v:Value) (h:wpAny P md ops Q fuel (l.setIfInBounds i true) a' w) (hi:ops[i]?=some oi:=by rfl) (hb:(Region.noSelect ops && (Region.free md ops l i && (Region.ready md ops l).contains i))=true:=by kernel_rfl) (hQ:∀ c a w,Q (.panic c) (a.put oi.dst v) w→Q (.panic c) a w:=by exact fun _ _ _ h=>h) (hw:Region.wanted oi (yielded ops a.tmps)=true:=by rfl) (hy:∀ W,(execOp a.eval oi).run P W=.ok (.value v) W:=by intro W;go_simp) (ha:a.put oi.dst v=a':=by simp only [zZ];try exact rfl):wpAny P md ops Q (fuel+1) l a w:=by
 subst ha;simp only [Bool.and_eq_true] at hb;exact wpAny_take hi hb.1 hb.2.1 hb.2.2 hQ (.inl ⟨hw,hy⟩) h
theorem zP (i q k:Nat) (hS:S w) (h:wpAnyH P md ops Q S fuel (l.setIfInBounds i true) a' w) (hi:ops[i]?=some oi:=by rfl) (hb:(Region.noSelect ops && (Region.free md ops l i && (Region.ready md ops l).contains i))=true:=by kernel_rfl) (hQ:∀ c a w,Q (.panic c) (a.put oi.dst (.pointer (some ⟨q,k,none⟩))) w→Q (.panic c) a w:=by exact fun _ _ _ h=>h) (hw:Region.wanted oi (yielded ops a.tmps)=true:=by rfl) (hy:∀ W,(execOp a.eval oi).run P W=.ok (.value (.pointer (some ⟨q,k,none⟩))) W:=by intro W;go_simp) (ha:a.put oi.dst (.pointer (some ⟨q,k,none⟩))=a':=by simp only [zZ];try exact rfl):wpAnyH P md ops Q S (fuel+1) l a w:=zV i _ hi (fun W _=>hy W) hS h hb hQ hw ha
theorem zq (i:Nat) (h:∀ K':Act→World→Prop,Shut (∀ a w,S w→(S w→wpAnyH P md ops Q S fuel (l.setIfInBounds i true) a w)→K' a w)→if Region.wanted oi (yielded ops a.tmps)=true then Oper.wp P oi a w K' Q else K' (a.put oi.dst undef) w) (ho:ops[i]?=some oi:=by rfl) (hr:Region.ready md ops l=[i]:=by kernel_rfl):wpAnyH P md ops Q S (fuel+1) l a w:=wpAnyH_ready hr (by simp) (AllReadyH.cons ho h AllReadyH.nil)
theorem zr (i j:Nat) (h:∀ K':Act→World→Prop,Shut (∀ a w,S w→(S w→wpAnyH P md ops Q S fuel (l.setIfInBounds i true) a w)→K' a w)→if Region.wanted oi (yielded ops a.tmps)=true then Oper.wp P oi a w K' Q else K' (a.put oi.dst undef) w) (h2:∀ K':Act→World→Prop,Shut (∀ a w,S w→(S w→wpAnyH P md ops Q S fuel (l.setIfInBounds j true) a w)→K' a w)→if Region.wanted oj (yielded ops a.tmps)=true then Oper.wp P oj a w K' Q else K' (a.put oj.dst undef) w) (ho:ops[i]?=some oi:=by rfl) (ho2:ops[j]?=some oj:=by rfl) (hr:Region.ready md ops l=[i,j]:=by kernel_rfl):wpAnyH P md ops Q S (fuel+1) l a w:=wpAnyH_ready hr (by simp) (AllReadyH.cons ho h (AllReadyH.cons ho2 h2 AllReadyH.nil))
theorem zQ (i:Nat) (h:∀ K':Act→World→Prop,(∀ a w,wpAny P md ops Q fuel (l.setIfInBounds i true) a w→K' a w)→if Region.wanted oi (yielded ops a.tmps)=true then Oper.wp P oi a w K' Q else K' (a.put oi.dst undef) w) (ho:ops[i]?=some oi:=by rfl) (hr:Region.ready md ops l=[i]:=by kernel_rfl):wpAny P md ops Q (fuel+1) l a w:=wpAny_ready hr (by simp) (AllReady.cons ho h AllReady.nil)
theorem zd (h:Q .normal a w) (hr:Region.ready md ops l=[]:=by kernel_rfl):wpAnyH P md ops Q S fuel l a w:=wpAnyH_done hr h _
theorem zh {p:Prop} (h:p):RowKit.Hid p:=h
end
structure Kp(S:List Nat)(w w':World):Prop where
 os:w'.os=w.os
 tape:w'.tape=w.tape
 output:w'.output=w.output
 size:w.heap.size≤w'.heap.size
 block:∀ k,k<w.heap.size→k ∉ S→w'.heap[k]?=w.heap[k]?
theorem ζ{w:World}{k:Nat}{o:Obj}(h:w.heap[k]?=some o):k<w.heap.size:=(Array.getElem?_eq_some_iff.1 h).1
theorem Kp.refl(S:List Nat)(w:World):Kp S w w:=⟨rfl,rfl,rfl,Nat.le_refl _,fun _ _ _=>rfl⟩
theorem Kp.trans{S S':List Nat}{a b c:World}(h:Kp S a b)(k:Kp S' b c)(hS:∀ i,i∈S'→i<a.heap.size→i∈S):Kp S a c:=
 ⟨k.os.trans h.os,k.tape.trans h.tape,k.output.trans h.output,Nat.le_trans h.size k.size,fun i hi hn=>
  (k.block i (Nat.lt_of_lt_of_le hi h.size) (fun hm=>hn (hS i hm hi))).trans (h.block i hi hn)⟩
theorem Kp.mono{S S':List Nat}{a b:World}(h:Kp S a b)(hS:∀ i,i∈S→i<a.heap.size→i∈S'):Kp S' a b:=
 ⟨h.os,h.tape,h.output,h.size,fun i hi hn=>h.block i hi (fun hm=>hn (hS i hm hi))⟩
theorem Kp.drew{S:List Nat}{a b:World}(h:Kp S a b):Kp S a b.drew:=⟨h.os,h.tape,h.output,h.size,h.block⟩
theorem Kp.drewN{S:List Nat}{a b:World}(h:Kp S a b)(n:Nat):Kp S a (b.drewN n):=⟨h.os,h.tape,h.output,h.size,h.block⟩
theorem Kp.alloc{S:List Nat}{a b:World}(h:Kp S a b)(o:Obj):Kp S a (b.alloc o):=
 ⟨h.os,h.tape,h.output,by have:=h.size;simp;omega,fun k hk hn=>(Below.heap_alloc _ _ _ (Nat.lt_of_lt_of_le hk h.size)).trans (h.block k hk hn)⟩
theorem Kp.setCell{S:List Nat}{a b:World}(h:Kp S a b){p:Addr}(hp:p.block∈S∨a.heap.size≤p.block)(u:Value):Kp S a (b.setCell p u):=
 ⟨h.os,h.tape,h.output,by have:=h.size;simp[World.setCell];omega,fun k hk hn=>(Below.heap_setCell _ _ _ _ (by
  rcases hp with hp|hp
  ·intro e;subst e;exact hn hp
  ·omega)).trans (h.block k hk hn)⟩
theorem Kp.grown{S:List Nat}{a b c:World}{row:Option Nat}(h:Kp S a b)(hg:b.grownBy c row)(hr:∀ k,row=some k→k∈S∨a.heap.size≤k):Kp S a c:=
 ⟨hg.os.trans h.os,hg.tape.trans h.tape,hg.output.trans h.output,Nat.le_trans h.size hg.size,fun k hk hn=>
  (hg.block k (Nat.lt_of_lt_of_le hk h.size) (fun e=>by rcases hr k e.symm with h1 | h1;exact hn h1;omega)).trans (h.block k hk hn)⟩
theorem Kp.of_below{B:Nat}{w w':World}(h:Below B w w')(hB:w.heap.size≤B):Kp [] w w':=
 ⟨h.os,h.tape,h.output,h.size,fun k hk _=>h.block k (by omega)⟩
theorem Kp.below{S:List Nat}{B:Nat}{w w':World}(h:Kp S w w')(hB:B≤w.heap.size)(hS:∀ k,k∈S→B≤k):Below B w w':=
 ⟨h.os,h.tape,h.output,h.size,fun k hk=>h.block k (by omega) (fun hm=>by have:=hS k hm;omega)⟩
theorem Kp.heap{S:List Nat}{w w':World}(h:Kp S w w'){k:Nat}{o:Obj}(hk:w.heap[k]?=some o)(hn:k ∉ S):w'.heap[k]?=some o:=
 (h.block k (ζ hk) hn).trans hk
theorem Kp.cell{S:List Nat}{w w':World}(h:Kp S w w'){a:Addr}(hk:a.block<w.heap.size)(hn:a.block ∉ S):w'.cell? a=w.cell? a:=
 World.cell?_of_block (w:=w) (h.block _ hk hn)
theorem ξ{w:World}{b:Nat}{c:Array Value}{t:TypeId}{fr:Nat × Nat}(h:w.heap[b]?=some (.cells c t fr))(o:Nat):w.cell? ⟨b,o,none⟩=c[o]?:=by
 simp[World.cell?,h]
theorem ψ{w:World}{b:Nat}{c:Array Value}{t:TypeId}(h:w.heap[b]?=some (.cells c t))(o:Nat):w.frozen? ⟨b,o,none⟩=false:=by
 simp[World.frozen?,h]
theorem φ{w:World}{b:Nat}{c:Array Value}{t:TypeId}{fr:Nat × Nat}(h:w.heap[b]?=some (.cells c t fr))(o:Nat)(v:Value):(w.setCell ⟨b,o,none⟩ v).heap[b]?=some (.cells (c.setIfInBounds o v) t fr):=by
 simp[World.setCell,Array.getElem?_modify,h]
theorem qA9{w:World}{b k:Nat}(hk:k≠b)(o:Nat)(v:Value):(w.setCell ⟨b,o,none⟩ v).heap[k]?=w.heap[k]?:=Below.heap_setCell _ _ _ _ hk
theorem μ(w:World)(o:Obj):(w.alloc o).heap[w.heap.size]?=some o:=by
 show (w.heap.push o)[w.heap.size]?=_;simp
theorem θ{w:World}(o:Obj){k:Nat}{x:Obj}(h:w.heap[k]?=some x):(w.alloc o).heap[k]?=some x:=(Below.heap_alloc _ _ _ (ζ h)).trans h
theorem Kp.hp {S:List Nat} {w w':World} (h:Kp S w w') {k:Nat} {o:Obj} (hk:w.heap[k]?=some o) (hn:k∉S:=by simp):w'.heap[k]?=some o:=h.heap hk hn
theorem Kp.ho {S:List Nat} {w w':World} (h:Kp S w w') {k:Nat} {o:Obj} (hk:w.heap[k]?=some o) (hn:k∉S:=by simp;omega):w'.heap[k]?=some o:=h.heap hk hn
theorem Kp.tr {S S':List Nat} {a b c:World} (h:Kp S a b) (k:Kp S' b c) (hS:∀ i,i∈S'→i<a.heap.size→i∈S:=by simp):Kp S a c:=h.trans k hS
theorem Kp.sc {S:List Nat} {a b:World} (h:Kp S a b) {p:Addr} (u:Value) (hp:p.block∈S∨a.heap.size≤p.block:=by simp):Kp S a (b.setCell p u):=h.setCell hp u
section
variable {P:Program} {md:Region.Mode} {ops:Array Oper} {Q:Exit→Act→World→Prop} {S:World→Prop} {oi oj:Oper} {fuel:Nat} {l:Array Bool} {a a':Act} {w:World}
theorem zW (i:Nat) (v:Value) (hS:S w) {b:Nat} {c:Array Value} {t:TypeId} {fr:Nat × Nat} (hc:∀ {W},S W→W.heap[b]?=some (.cells c t fr)) (h:wpAnyH P md ops Q S fuel (l.setIfInBounds i true) a' w) (hi:ops[i]?=some oi:=by rfl) (hb:(Region.noSelect ops && (Region.free md ops l i && (Region.ready md ops l).contains i))=true:=by kernel_rfl) (hQ:∀ c a w,Q (.panic c) (a.put oi.dst v) w→Q (.panic c) a w:=by exact fun _ _ _ h=>h) (hw:Region.wanted oi (yielded ops a.tmps)=true:=by rfl) (hy:∀ W,(∀ o,W.cell? ⟨b,o,none⟩=c[o]?)→(execOp a.eval oi).run P W=.ok (.value v) W:=by intro W h;go_simp) (ha:a.put oi.dst v=a':=by simp only [zZ];try exact rfl):wpAnyH P md ops Q S (fuel+1) l a w:=zV i v hi (fun W h=>hy W (ξ (hc h))) hS h hb hQ hw ha
end
def qT9(s x:Int):Int:=IntKind.u64.wrap (bits BinOp.xor .u64 s (IntKind.u64.wrap x)*1099511628211)
def fnv(xs:List Int):Int:=xs.foldl qT9 14695981039346656037
theorem xV2(xs:List Int)(k:Nat)(h:k<xs.length):fnv (xs.take (k+1))=qT9 (fnv (xs.take k)) xs[k]:=by
 unfold fnv;rw[List.take_succ_eq_append_getElem h,List.foldl_append];rfl
theorem qK9{k:IntKind}{a b:Int}(h:a=b):Ending.returned (.int k a)=.returned (.int k b):=by rw[h]
theorem qV2(b off len cap:Nat)(xs:List Int)(w:World)(hx:xs.length=len)(hbig:len≤1000000)
  (hc:∀ j,j<len→w.cell? ⟨b,off+j,none⟩=some (.int .u8 (xs.getD j 0))):
  Calls prog 165 #[.slice (some ⟨b,off,none⟩) len cap] w fun e w'=>e=.returned (.int .u64 (fnv xs))∧w'=w:=by
 go_enter func165,ntmps165;go_wp2
 go_loop [3,8] (fun s i=>∃ (k:Nat),k≤len∧i=.int .i64 k∧s=.int .u64 (fnv (xs.take k))) (fun _ i=>len-(intOf i).toNat)
 case atStart=>exact⟨0,Nat.zero_le _,rfl,rfl⟩
 case round=>
  obtain⟨k,hk,rfl,rfl⟩:=hrel;by_cases hlt:k<len
  ·have hck:=hc k hlt;have hs:=xV2 xs k (by omega);have HS:=zh hs;clear hs;go_wp2;refine⟨⟨k+1,by omega,by go_num,by rw[HS.out];rfl⟩,by simp[intOf];omega⟩
  ·go_wp2;go_ret;exact⟨qK9 (by rw[List.take_of_length_le (by omega)]),rfl⟩
def qE6(xs:List Int):Int:=xs.foldr (fun x n=>bits BinOp.or .u64 (IntKind.u64.wrap (n*256)) (IntKind.u64.wrap x)) 0
theorem qU7(b off len cap:Nat)(xs:List Int)(w:World)(hx:xs.length=len)(hbig:len≤1000000)
  (hc:∀ j,j<len→w.cell? ⟨b,off+j,none⟩=some (.int .u8 (xs.getD j 0))):
  Calls prog 152 #[.slice (some ⟨b,off,none⟩) len cap] w fun e w'=>e=.returned (.int .u64 (qE6 xs))∧w'=w:=by
 go_enter func152,ntmps152;go_wp2
 go_loop [3,4] (fun n i=>∃ (k:Nat),k≤len∧i=.int .i64 ((k:Int)-1)∧n=.int .u64 (qE6 (xs.drop k))) (fun _ i=>(intOf i+1).toNat)
 case atStart=>exact⟨len,Nat.le_refl _,by go_num,by rw[List.drop_of_length_le (by omega)];rfl⟩
 case round=>
  obtain⟨k,hk,rfl,rfl⟩:=hrel;by_cases hlt:0<k
  ·obtain⟨j,rfl⟩:∃ j,k=j+1:=⟨k-1,by omega⟩;have hck:=hc j (by omega);have HS:Hid (qE6 (xs.drop j)=bits BinOp.or .u64 (IntKind.u64.wrap (qE6 (xs.drop (j+1))*256)) (IntKind.u64.wrap (xs[j]?.getD 0))):=by
    have hj:j<xs.length:=by omega
    show _=_;rw[List.drop_eq_getElem_cons hj,List.getElem?_eq_getElem hj];rfl
   go_wp2;refine⟨⟨j,by omega,rfl,by rw[HS.out]⟩,by simp[intOf]⟩
  ·have hz:k=0:=by omega
   subst hz;have ht:decide ((0:Int)≤((0:Nat):Int)-1)=false:=by decide
   go_wp2;go_ret;exact⟨qK9 (by simp),rfl⟩
def qB2:Nat→Int→List Int
 | 0,_=>[]
 | k+1,n=>n % 256::qB2 k (n / 256)
theorem qG1(k:Nat)(n:Int):(qB2 k n).length=k:=by induction k generalizing n<;>simp_all [qB2]
def u8s(xs:List Int):List Value:=xs.map (.int .u8)
theorem zJ7(k:Nat)(n:Int):qB2 (k+1) n=qB2 k n++[n / (256:Int) ^ k % 256]:=by
 induction k generalizing n with
 | zero=>simp[qB2]
 | succ k ih=>
  rw[qB2,ih (n / 256),qB2];simp only[List.cons_append];rw[Int.ediv_ediv_of_nonneg (by decide),Int.pow_succ,Int.mul_comm]
theorem qH7{w:World}{base:Nat}{e:TypeId}{sz:Nat}{v:Value}{n:Nat}{xs:List Value}(h:w.ownsRow base e sz v n xs):∀ k,v.ownBlock=some k→base≤k:=by
 obtain⟨_,h2⟩:=h;rcases h2 with⟨rfl,_⟩|⟨g,cap,cur,rfl,hg,_⟩
 ·intro k hk;cases hk
 ·intro k hk;cases hk;exact hg
theorem Tryz.info5:(prog.info? 5).map (fun i=>(i.zero,i.size,i.bytes))=some (some (.int .u8 0),1,1):=by kernel_rfl
theorem zF2(v:Value)(base k:Nat)(xs:List Int)(n:Int)(m:Nat)(w:World)(hx:k≤1000)(hm:m≤100)(hn:0≤n)
  (hb:base≤w.heap.size) (hown:w.ownsRow base 5 1 v k (u8s xs)):
  Calls prog 177 #[v,.int .u64 n,.int .i64 m] w fun e w'=>∃ v',e=.returned v'∧w'.ownsRow base 5 1 v' (k+m) (u8s (xs++qB2 m n))∧Below base w w':=by
 obtain⟨i0,hi,hz0,hz1,hz2⟩:=info_parts Tryz.info5;go_enter func177,ntmps177;go_wp2
 go_loopw [0,1,8] (fun s q i wr=>∃ (j:Nat) (v':Value) (nj:Int),j≤m∧i=.int .i64 j∧q=.int .u64 nj∧nj=n / (256:Int) ^ j∧0≤nj∧nj≤n∧s=v'∧wr.ownsRow base 5 1 v' (k+j) (u8s (xs++qB2 j n))∧Below base w wr) (fun _ _ i _=>m-(intOf i).toNat)
 case atStart=>exact⟨0,v,n,Nat.zero_le _,rfl,rfl,by simp,hn,Int.le_refl _,rfl,by simpa [qB2] using hown,Below.refl _ _⟩
 case round=>
  obtain⟨j,v',nj,hj,rfl,rfl,hnj,hnj0,hnj1,rfl,hownr,hbl⟩:=hrel;have HN:=zh hnj;clear hnj;by_cases hlt:j<m
  ·go_wp2_with (at_builtin;refine wpList_append_own _ rfl _ _ 90 rfl base 5 i0 (.int .u8 0) 1 1 underlying90 hi hz0 hz1 hz2 rfl (by decide) _ _ _ rfl (hownr.alloc _) ⟨wr.heap.size,0,none⟩ 1 1 [.int .u8 (nj % 256)] rfl rfl (cell_one_new _ _ _) (by simp[Value.oneCell']) (by unfold maxLen;omega) (by omega) (by have:=hbl.size;simp;omega) ?_;intro v1 w1 hown1 hgrow1 _)
   refine⟨⟨j+1,v1,nj / 256,by omega,by go_num,rfl,?_,by omega,by omega,rfl,?_,?_⟩,by simp[intOf];omega⟩
   ·rw[HN.out,Int.ediv_ediv_of_nonneg (by exact Int.pow_nonneg (by decide)),Int.pow_succ]
   ·have e1:u8s (xs++qB2 (j+1) n)=u8s (xs++qB2 j n)++[.int .u8 (nj % 256)]:=by rw[zJ7,←HN.out];simp[u8s]
    rw[e1];exact hown1
   ·exact (hbl.alloc (by have:=hbl.size;omega) _).grown hgrow1 (by have:=hbl.size;simp;omega) (qH7 hownr)
  ·go_wp2;go_ret;have e:j=m:=by omega
   subst e;exact⟨_,rfl,hownr,hbl⟩
def qA1(cs:Array Value)(o n:Nat):Array Value:=((cs.toList.drop o).take n).toArray
def qD6(cs:Array Value)(o:Nat)(p:Array Value):Array Value:=(cs.toList.take o++p.toList++cs.toList.drop (o+p.size)).toArray
theorem qO4{cs:Array Value}{o n:Nat}(h:o+n≤cs.size):(qA1 cs o n).size=n:=by simp[qA1];omega
theorem qX5{cs:Array Value}{o n j:Nat}(h:j<n):(qA1 cs o n)[j]?=cs[o+j]?:=by
 simp[qA1,List.getElem?_take,h]
theorem Kp.setRow{S:List Nat}{a b:World}(h:Kp S a b){g:Nat}(hp:g∈S∨a.heap.size≤g)(cs:Array Value):Kp S a (b.setRow g cs):=
 ⟨h.os,h.tape,h.output,by have:=h.size;simp[World.setRow];omega,fun k hk hn=>(setRow_other _ _ _ _ (by
  rcases hp with hp|hp
  ·intro e;subst e;exact hn hp
  ·omega)).trans (h.block k hk hn)⟩
theorem qJ6{w:World}{base:Nat}{e:TypeId}{sz:Nat}{v:Value}{n:Nat}{xs:List Value}(h:w.ownsRow base e sz v (n+1) xs):∃ g cap,v=.slice (some ⟨g,0,none⟩) (n+1) cap:=by
 obtain⟨_,h2⟩:=h;rcases h2 with⟨_,h0⟩|⟨g,cap,cur,rfl,_⟩
 ·cases h0
 ·exact⟨g,cap,rfl⟩
section
variable {P:Program} {w:World} {ops:Array Oper} {rest:List Oper} {a:Act} {Q:Exit→Act→World→Prop} {dst:Option Tmp} {ty:TypeId} {pos:String} {aft:Array Edge}
theorem qM5(b o j:Nat):(⟨b,o,none⟩:Addr).add j=⟨b,o+j,none⟩:=by unfold Addr.add;split<;>simp_all
theorem qO5{t t' e:TypeId}(ty:TypeId)(hu:P.underlying t=some (.slice e))(hs:(P.info? e).map (·.size)=some 1)
  {g o dLen dCap b so sLen sCap:Nat} (n:Nat) (hn:n=Nat.min sLen dLen)
  {cur src:Array Value} {tg tb:TypeId} {fr:Nat × Nat} (hg:w.heap[g]?=some (.cells cur tg)) (hb:w.heap[b]?=some (.cells src tb fr)) (hfit:o+n≤cur.size) (hin:so+n≤src.size)
  (h1:∀ v∈(qA1 src so n).toList,v.oneCell'=true):
  Sem.run P (Builtin.copy_ #[t,t'] ty #[.slice (some ⟨g,o,none⟩) dLen dCap,.slice (some ⟨b,so,none⟩) sLen sCap]) w=.ok (.int .i64 n) (w.setRow g (qD6 cur o (qA1 src so n))):=by
 have hsz:=qO4 (cs:=src) hin;have hr:=run_copy_row P w t t' ty e g o dLen dCap ⟨b,so,none⟩ sLen sCap cur tg (qA1 src so n).toList hu hs hg (by rw[Array.length_toList,hsz,hn]) (fun j v hj=>by
  rw[qM5,ξ hb];have hlt:j<n:=by
   have:=(List.getElem?_eq_some_iff.1 hj).1;simp[hsz] at this;exact this
  rw[←qX5 hlt];simpa using hj) (by simp[hsz];omega) h1
 have e1:goInt ((qA1 src so n).toList.length:Int)=.int .i64 n:=by simp[goInt,hsz]
 have e2:(cur.toList.take o++(qA1 src so n).toList++cur.toList.drop (o+(qA1 src so n).toList.length)).toArray=qD6 cur o (qA1 src so n):=by simp[qD6]
 rw[hr,e1,e2]
theorem qI9{g o:Nat}{t:TypeId}{vs:List Value}{cur:Array Value}(hg:w.heap[g]?=some (.cells cur t))(hfit:o+vs.length≤cur.size)(h1:∀ v∈vs,v.oneCell'=true):
  Sem.run P (storeCells ⟨g,o,none⟩ vs) w=.ok () (w.setRow g (qD6 cur o vs.toArray)):=by
 have hr:=run_storeCells_at P g o t vs 0 cur w hg (by simpa using hfit) h1;rw[hr];simp[qD6]
theorem zD0{b o n:Nat}{src:Array Value}{tb:TypeId}{fr:Nat × Nat}(hb:w.heap[b]?=some (.cells src tb fr))(hin:o+n≤src.size):
  Sem.run P (loadCells ⟨b,o,none⟩ n) w=.ok (qA1 src o n) w:=by
 have hsz:=qO4 (cs:=src) hin;have hl:=run_loadCells_list (P:=P) w ⟨b,o,none⟩ (qA1 src o n).toList (fun j v hj=>by
  rw[qM5,ξ hb];have hlt:j<n:=by
   have:=(List.getElem?_eq_some_iff.1 hj).1;simp[hsz] at this;exact this
  rw[←qX5 hlt];simpa using hj)
 simpa [hsz] using hl
theorem qJ0{o:Oper}{v:Value}{w':World}{K:Act→World→Prop}{E:Prop}(hg:o.guard=none)(hr:Sem.run P (execOp a.eval o) w=.ok (.value v) w')(hK:K (a.put o.dst v) w'):
  if Region.wanted o (yielded ops a.tmps)=true then Oper.wp P o a w K Q else E:=by
 have hw:Region.wanted o (yielded ops a.tmps)=true:=by simp[Region.wanted,hg]
 rw[if_pos hw];unfold Oper.wp;rw[hr];exact hK
theorem xF8{o:Oper}{w':World}{K:Act→World→Prop}{E:Prop}(hg:o.guard=none)(hr:Sem.run P (execOp a.eval o) w=.ok .skip w')(hK:K (a.put o.dst undef) w'):
  if Region.wanted o (yielded ops a.tmps)=true then Oper.wp P o a w K Q else E:=by
 have hw:Region.wanted o (yielded ops a.tmps)=true:=by simp[Region.wanted,hg]
 rw[if_pos hw];unfold Oper.wp;rw[hr];exact hK
theorem zU5{o:Oper}{x:Operand}{t:TypeId}(ho:o.op=.load t x)(qI0:(match P.underlying t with | some (.struct _)=>true | some (.array _ _)=>true | _=>false)=true)(n:Nat)(hs:(P.info? t).map (·.size)=some n)
  (b o':Nat) (hx:a.eval x=.pointer (some ⟨b,o',none⟩)) {src:Array Value} {tb:TypeId} {fr:Nat × Nat} (hb:w.heap[b]?=some (.cells src tb fr)) (hin:o'+n≤src.size):
  Sem.run P (execOp a.eval o) w=.ok (.value (.agg (qA1 src o' n))) w:=by
 have hl':=zD0 (P:=P) hb hin;obtain⟨i,hi,hin'⟩:=Option.map_eq_some_iff.1 hs;have hrun:Sem.run P (Instr.loadAt t (.pointer (some ⟨b,o',none⟩))) w=.ok (.agg (qA1 src o' n)) w:=by
  cases hd:P.underlying t with
  | none=>simp[hd] at qI0
  | some d=>cases d<;>simp[hd] at qI0<;>simp[Instr.loadAt,Instr.sureAddr,loadVar,isAgg,run_underlying hd,Go.sizeOf,typeInfo,hi,hin',hl']
 unfold execOp;simp only[ho,Sem.run_bind,Sem.run_pure,Result.andThen_ok,hx,hrun]
theorem qT8{o:Oper}{x:Operand}{t e:TypeId}(ho:o.op=.buildSlice t 1 #[(0,x)])(v z:Value)(size bytes:Nat)(ht:P.underlying t=some (.slice e))(hi:(P.info? e).map (fun i=>(i.zero,i.size,i.bytes))=some (some z,size,bytes))
  (hx:a.eval x=v) (hv:v.cells.size=size) (hpos:0<size) (hsm:size≤16777216):
  Sem.run P (execOp a.eval o) w=.ok (.value (.slice (some ⟨w.heap.size,0,none⟩) 1 1)) (w.alloc (.cells v.cells e)):=by
 obtain⟨i,hi',hz⟩:=Option.map_eq_some_iff.1 hi;simp only[Prod.mk.injEq] at hz;obtain⟨hz,hsz,hby⟩:=hz;have hf:=Great.fill_whole (s:=i.size) (by omega) [v] ((Array.range (1*i.size)).map (z.cells[·% z.cells.size]!)) (by simp[hv,hsz]) (by simp);have hr:=run_buildSlice (P:=P) w t e 1 #[(0,v)] v.cells i z ht hi' hz (by omega) (by omega) (by simpa using hf);unfold execOp;simp only[ho,Sem.run_bind,Sem.run_pure,Result.andThen_ok,List.map_toArray,List.map_cons,List.map_nil,hx,hr]
theorem xS8{o:Oper}{s x:Operand}{t e:TypeId}(ho:o.op=.call { callee:=.builtin .append,args:=#[s,x],argTypes:=#[t,t] })(z:Value)(size bytes:Nat)(ht:P.underlying t=some (.slice e))(hi:(P.info? e).map (fun i=>(i.zero,i.size,i.bytes))=some (some z,size,bytes))
  (hzs:z.cells.size=size) (hsz:0<size) (base:Nat) (v:Value) (n:Nat) (xs:List Value) (hs:a.eval s=v) (hown:w.ownsRow base e size v n xs)
  (b so m c:Nat) (src:Array Value) (tb:TypeId) (fr:Nat × Nat) (hx:a.eval x=.slice (some ⟨b,so,none⟩) m c) (hb:w.heap[b]?=some (.cells src tb fr)) (hin:so+m*size≤src.size)
  (h1:∀ u∈(qA1 src so (m*size)).toList,u.oneCell'=true) (h63:n+m≤1000000000) (hbytes:(n+m)*bytes≤140737488355328) (hbase:base≤w.heap.size):
  ∃ v' w',Sem.run P (execOp a.eval o) w=.ok (.value v') w'∧w'.ownsRow base e size v' (n+m) (xs++(qA1 src so (m*size)).toList)∧w.grownBy w' v.ownBlock∧(v'=.slice none 0 0↔v=.slice none 0 0∧m=0):=by
 obtain⟨i,hi',hz⟩:=Option.map_eq_some_iff.1 hi;simp only[Prod.mk.injEq] at hz;obtain⟨hz,hsz',hby⟩:=hz;have hps:=qO4 (cs:=src) hin;obtain⟨v',w',hr,r1,r2,r3⟩:=run_append_own (P:=P) w base t o.type e i z size bytes ht hi' hz hsz' hby hzs hsz v n xs hown ⟨b,so,none⟩ m c (qA1 src so (m*size)).toList (by simpa using hps) (fun j u hj=>by
  rw[qM5,ξ hb];have hlt:j<m*size:=by
   have:=(List.getElem?_eq_some_iff.1 hj).1;simp[hps] at this;exact this
  rw[←qX5 hlt];simpa using hj) h1 (by unfold maxLen;omega) hbytes hbase
 refine⟨v',w',?_,r1,r2,r3⟩;unfold execOp;simp only[ho,resolve,invoke,builtin,Sem.run_bind,Sem.run_pure,Result.andThen_ok,List.map_toArray,List.map_cons,List.map_nil,hs,hx,hr]
theorem qK7{o:Oper}{x:Operand}{t:TypeId}(ho:o.op=.load t x)(qI0:(match P.underlying t with | some (.struct _)=>true | some (.array _ _)=>true | _=>false)=true)(n:Nat)(hs:(P.info? t).map (·.size)=some n)
  (b:Nat) (hx:a.eval x=.pointer (some ⟨b,0,none⟩)) {src:Array Value} {tb:TypeId} {fr:Nat × Nat} (hb:w.heap[b]?=some (.cells src tb fr)) (hin:src.size=n):
  Sem.run P (execOp a.eval o) w=.ok (.value (.agg src)) w:=by
 have h:=zU5 (P:=P) ho qI0 n hs b 0 hx hb (by omega);have e:qA1 src 0 n=src:=by rw[←hin];simp[qA1,List.take_of_length_le]
 rw[e] at h;exact h
theorem qM1{o:Oper}{K:Act→World→Prop}{E:Prop}(hg:o.guard=none){s x:Operand}{t e:TypeId}(ho:o.op=.call { callee:=.builtin .append,args:=#[s,x],argTypes:=#[t,t] })(z:Value)(size bytes:Nat)(ht:P.underlying t=some (.slice e))(hi:(P.info? e).map (fun i=>(i.zero,i.size,i.bytes))=some (some z,size,bytes))
  (hzs:z.cells.size=size) (hsz:0<size) (base:Nat) (v:Value) (n:Nat) (xs:List Value) (hs:a.eval s=v) (hown:w.ownsRow base e size v n xs)
  (b so m c:Nat) (src:Array Value) (tb:TypeId) (fr:Nat × Nat) (hx:a.eval x=.slice (some ⟨b,so,none⟩) m c) (hb:w.heap[b]?=some (.cells src tb fr)) (hin:so+m*size≤src.size)
  (h1:∀ u∈(qA1 src so (m*size)).toList,u.oneCell'=true) (h63:n+m≤1000000000) (hbytes:(n+m)*bytes≤140737488355328) (hbase:base≤w.heap.size)
  (hK:∀ v' w',w'.ownsRow base e size v' (n+m) (xs++(qA1 src so (m*size)).toList)→w.grownBy w' v.ownBlock→(v'=.slice none 0 0↔v=.slice none 0 0∧m=0)→K (a.put o.dst v') w'):
  if Region.wanted o (yielded ops a.tmps)=true then Oper.wp P o a w K Q else E:=by
 obtain⟨v',w',hr,r1,r2,r3⟩:=xS8 (P:=P) ho z size bytes ht hi hzs hsz base v n xs hs hown b so m c src tb fr hx hb hin h1 h63 hbytes hbase;exact qJ0 hg hr (hK v' w' r1 r2 r3)
theorem zU6{o:Oper}{x:Operand}{t:TypeId}(ho:o.op=.load t x)(qI0:(match P.underlying t with | some (.struct _)=>true | some (.array _ _)=>true | _=>false)=true)(n:Nat)(hs:(P.info? t).map (·.size)=some n)
  (b o':Nat) (hx:a.eval x=.pointer (some ⟨b,o',none⟩)) {src r:Array Value} {tb:TypeId} {fr:Nat × Nat} (hb:w.heap[b]?=some (.cells src tb fr)) (hin:o'+n≤src.size) (hr:qA1 src o' n=r):
  Sem.run P (execOp a.eval o) w=.ok (.value (.agg r)) w:=hr ▸ zU5 ho qI0 n hs b o' hx hb hin
theorem zU7{o:Oper}{x y:Operand}{t:TypeId}(ho:o.op=.store t x y)(vs:Array Value)(hs:(P.info? t).map (·.size)=some vs.size)
  (b o':Nat) (hx:a.eval x=.pointer (some ⟨b,o',none⟩)) (hy:a.eval y=.agg vs) {cur:Array Value} {tb:TypeId} (hb:w.heap[b]?=some (.cells cur tb)) (hin:o'+vs.size≤cur.size)
  (h1:∀ v∈vs.toList,v.oneCell'=true):Sem.run P (execOp a.eval o) w=.ok .skip (w.setRow b (qD6 cur o' vs)):=by
 obtain⟨i,hi,hin'⟩:=Option.map_eq_some_iff.1 hs;have hr:=qI9 (P:=P) (w:=w) (o:=o') (vs:=vs.toList) hb (by simpa using hin) h1;have hrun:Sem.run P (Instr.storeAt t (.pointer (some ⟨b,o',none⟩)) (.agg vs)) w=.ok () (w.setRow b (qD6 cur o' vs)):=by
  simp[Instr.storeAt,Instr.sureAddr,storeVar,Go.sizeOf,typeInfo,hi,hin',Value.cells,hr]
 unfold execOp;simp only[ho,Sem.run_bind,Sem.run_pure,Result.andThen_ok,hx,hy,hrun]
theorem qR6(cs:Array Value):qA1 cs 0 cs.size=cs:=by simp[qA1,List.take_of_length_le]
theorem qM4{x:Operand}{t:TypeId}(qI0:(match P.underlying t with | some (.struct _)=>true | some (.array _ _)=>true | _=>false)=true)(n:Nat)(hs:(P.info? t).map (·.size)=some n)
  (b o:Nat) (hx:a.eval x=.pointer (some ⟨b,o,none⟩)) (src:Array Value) (tb:TypeId) (fr:Nat × Nat) (hb:w.heap[b]?=some (.cells src tb fr)) (hin:o+n≤src.size)
  (h:wpList P ops Q rest (a.put dst (.agg (qA1 src o n))) w):
  wpList P ops Q (⟨dst,.load t x,ty,pos,aft,none⟩::rest) a w:=by
 refine wpList_plain rfl fun K hK=>?_;have hk:=hK _ _ h;have hsz:=qO4 (cs:=src) hin;have hl:=run_loadCells_list (P:=P) w ⟨b,o,none⟩ (qA1 src o n).toList (fun j v hj=>by
  rw[qM5,ξ hb];have hlt:j<n:=by
   have:=(List.getElem?_eq_some_iff.1 hj).1;simp[hsz] at this;exact this
  rw[←qX5 hlt];simpa using hj)
 obtain⟨i,hi,hin'⟩:=Option.map_eq_some_iff.1 hs;have hl':Sem.run P (loadCells ⟨b,o,none⟩ n) w=.ok (qA1 src o n) w:=by simpa [hsz] using hl
 have hrun:Sem.run P (Instr.loadAt t (.pointer (some ⟨b,o,none⟩))) w=.ok (.agg (qA1 src o n)) w:=by
  cases hd:P.underlying t with
  | none=>simp[hd] at qI0
  | some d=>cases d<;>simp[hd] at qI0<;>simp[Instr.loadAt,Instr.sureAddr,loadVar,isAgg,run_underlying hd,Go.sizeOf,typeInfo,hi,hin',hl']
 unfold Oper.wp execOp;simp only[Sem.run_bind,Sem.run_pure,Result.andThen_ok,hx,hrun];exact hk
theorem jZ1{t e:TypeId}{l c:Operand}(z:Value)(size bytes:Nat)(ht:P.underlying t=some (.slice e))(hi:(P.info? e).map (fun i=>(i.zero,i.size,i.bytes))=some (some z,size,bytes))
  (kl kc:IntKind) (n:Nat) (hl:a.eval l=.int kl n) (hc:a.eval c=.int kc n) (hb:bytes*n≤281474976710656) (hn:n≤1000000000)
  (h:wpList P ops Q rest (a.put dst (.slice (some ⟨w.heap.size,0,none⟩) n n)) (w.alloc (.cells (madeCells z.cells (n*size)) e))):
  wpList P ops Q (⟨dst,.makeSlice t l c,ty,pos,aft,none⟩::rest) a w:=by
 refine wpList_plain rfl fun K hK=>?_;have hk:=hK _ _ h;obtain⟨i,hi',hz⟩:=Option.map_eq_some_iff.1 hi;simp only[Prod.mk.injEq] at hz;obtain⟨hz,hsz,hby⟩:=hz;have hb':(i.bytes:Int)*(n:Int)≤281474976710656:=by
  rw[hby];have h:((bytes*n:Nat):Int)≤281474976710656:=by omega
  rwa [Int.natCast_mul] at h
 have hr:=run_make (P:=P) w t e i z ht hi' hz kl kc n n (by omega) (Int.le_refl _) hb' (by omega);simp only[Int.toNat_natCast,hsz] at hr;unfold Oper.wp execOp;simp only[Sem.run_bind,Sem.run_pure,Result.andThen_ok,hl,hc,hr];exact hk
theorem xB4{z:Array Value}{n:Nat}{z0:Value}(hz:∀ v∈z.toList,v=z0)(h0:n=0∨0<z.size):∀ v∈(madeCells z n).toList,v=z0:=by
 intro v hv;simp only[madeCells,Array.toList_map,List.mem_map,Array.toList_range,List.mem_range] at hv;obtain⟨x,hx,rfl⟩:=hv;have hp:0<z.size:=by omega
 have hl:x % z.size<z.size:=Nat.mod_lt _ hp;rw[getElem!_pos z _ hl];exact hz _ (by simp)
theorem jS0{t e:TypeId}(z z0:Value)(size bytes:Nat)(ht:P.underlying t=some (.slice e))(hi:(P.info? e).map (fun i=>(i.zero,i.size,i.bytes))=some (some z,size,bytes))
  (hz:∀ v∈z.cells.toList,v=z0) (hz1:0<z.cells.size) (kl kc:IntKind) (n:Nat) (hb:bytes*n≤281474976710656) (hn:n≤1000000000) (w:World):
  ∃ Z:Array Value,Z.size=n*size∧(∀ v∈Z.toList,v=z0)∧Sem.run P (Instr.makeSlice t (.int kl n) (.int kc n)) w=.ok (.slice (some ⟨w.heap.size,0,none⟩) n n) (w.alloc (.cells Z e)):=by
 obtain⟨i,hi',hz'⟩:=Option.map_eq_some_iff.1 hi;simp only[Prod.mk.injEq] at hz';obtain⟨hz',hsz,hby⟩:=hz';have hb':(i.bytes:Int)*(n:Int)≤281474976710656:=by
  rw[hby];have h:((bytes*n:Nat):Int)≤281474976710656:=by omega
  rwa [Int.natCast_mul] at h
 have hr:=run_make (P:=P) w t e i z ht hi' hz' kl kc n n (by omega) (Int.le_refl _) hb' (by omega);simp only[Int.toNat_natCast,hsz] at hr;exact⟨_,by simp[madeCells],xB4 hz (Or.inr hz1),hr⟩
theorem zN5{t e:TypeId}{l c:Operand}(z z0:Value)(size bytes:Nat)(ht:P.underlying t=some (.slice e))(hi:(P.info? e).map (fun i=>(i.zero,i.size,i.bytes))=some (some z,size,bytes))
  (hz:∀ v∈z.cells.toList,v=z0) (hz1:0<z.cells.size)
  (kl kc:IntKind) (n:Nat) (hl:a.eval l=.int kl n) (hc:a.eval c=.int kc n) (hb:bytes*n≤281474976710656) (hn:n≤1000000000)
  (h:∀ Z:Array Value,Z.size=n*size→(∀ v∈Z.toList,v=z0)→wpList P ops Q rest (a.put dst (.slice (some ⟨w.heap.size,0,none⟩) n n)) (w.alloc (.cells Z e))):
  wpList P ops Q (⟨dst,.makeSlice t l c,ty,pos,aft,none⟩::rest) a w:=
 jZ1 z size bytes ht hi kl kc n hl hc hb hn (h _ (by simp[madeCells]) (xB4 hz (Or.inr hz1)))
end
variable {κ:Nat}
def qA8(κ n C:Nat)(cache:Value)(calls writes:Int):Obj:=
 .cells #[.slice (some ⟨C,0,none⟩) n κ,cache,.int .i64 calls,.int .i64 writes,.int .i64 0,.int .i64 (-1),.int .i64 0,.int .i64 0] 72
abbrev qT7(n C:Nat)(cache:Value)(calls writes:Int):Obj:=qA8 n n C cache calls writes
theorem zA3(A n C:Nat)(cache:Value)(calls writes:Int)(w:World)(h:w.heap[A]?=some (qA8 κ n C cache calls writes))(h0:0≤calls)(h1:calls≤1000000000):
  Calls prog 252 #[.pointer (some ⟨A,0,none⟩)] w fun e w'=>e=.returned (.bool false)∧w'=w.setCell ⟨A,2,none⟩ (.int .i64 (calls+1)):=by
 have c2:=ξ h 2;have c5:=ξ h 5;have c6:=ξ h 6;have c7:=ξ h 7;simp at c2 c5 c6 c7;have f2:=ψ h 2;clear h;have hd:decide (calls<0)=false:=by simp;omega
 go_enter func252,ntmps252;go_wp2;go_ret;exact⟨rfl,rfl⟩
theorem zK4(A n C:Nat)(cache:Value)(calls writes:Int)(i:Int)(w:World)(h:w.heap[A]?=some (qA8 κ n C cache calls writes))(h0:0≤i)(h1:i<n):
  Calls prog 253 #[.pointer (some ⟨A,0,none⟩),.int .i64 i] w fun e w'=>e=.returned (.bool false)∧w'=w:=by
 have c0:=ξ h 0;simp at c0;clear h;go_enter func253,ntmps253;go_wp2;go_ret;exact⟨rfl,rfl⟩
theorem xN1(A n C:Nat)(cache:Value)(calls writes:Int)(w:World)(h:w.heap[A]?=some (qA8 κ n C cache calls writes)):
  Calls prog 33 #[.pointer (some ⟨A,0,none⟩)] w fun e w'=>e=.returned (.int .i64 n)∧w'=w:=by
 have c0:=ξ h 0;simp at c0;clear h;go_enter func33,ntmps33;go_wp2;go_ret;exact⟨rfl,rfl⟩
def allBytes(cs:Array Value):Prop:=∀ v∈cs.toList,∃ x,v=.int .u8 x
theorem allBytes.one{cs:Array Value}(h:allBytes cs):∀ v∈cs.toList,v.oneCell'=true:=fun v hv=>by obtain⟨x,rfl⟩:=h v hv;rfl
theorem qO6{cs:Array Value}(h:allBytes cs)(o n:Nat):allBytes (qA1 cs o n):=fun v hv=>h v (List.mem_of_mem_drop (List.mem_of_mem_take (by simpa [qA1] using hv)))
theorem qH1{cs p:Array Value}(h:cs.size=p.size):qD6 cs 0 p=p:=by
 have e:cs.toList.drop p.size=[]:=List.drop_of_length_le (by simp[h]);simp[qD6,e]
theorem Tryz.size5:(prog.info? 5).map (·.size)=some 1:=by kernel_rfl
theorem jQ8(A n C:Nat)(calls writes:Int)(i:Nat)(cs:Array Value)(w:World)(h:w.heap[A]?=some (qA8 κ n C (.slice none 0 0) calls writes))(h0:0≤calls)(h1:calls≤1000000000)
  (hi:i<n) (hn:n≤1000) (hC:w.heap[C]?=some (.cells cs 87)) (hs:n*128≤cs.size) (hby:allBytes cs) (hAC:C≠A):
  Calls prog 250 #[.pointer (some ⟨A,0,none⟩),.int .i64 i] w fun e w'=>∃ g,e=.returned (.tuple #[.slice (some ⟨g,0,none⟩) 128 128,.nilIface])∧w.heap.size≤g∧
   w'.heap[g]?=some (.cells (qA1 cs (i*128) 128) 5)∧w'.heap[A]?=some (qA8 κ n C (.slice none 0 0) (calls+1) writes)∧Kp [A] w w':=by
 have c0:=ξ h 0;have c1:=ξ h 1;simp at c0 c1;have hA:=ζ h;have hCs:=ζ hC;go_enter func250,ntmps250;go_wp2_with fail;refine (zA3 A n C _ calls writes _ h h0 h1).mono ?_;rintro e w1 ⟨rfl,rfl⟩;go_wp2_with fail;refine (zK4 A n C (.slice none 0 0) (calls+1) writes i _ (φ h 2 _) (by omega) (by omega)).mono ?_;rintro e w1 ⟨rfl,rfl⟩
 go_wp2_with (refine zN5 (.int .u8 0) (.int .u8 0) 1 1 underlying90 Tryz.info5 (by simp[Value.cells]) (by simp[Value.cells]) .i64 .i64 128 rfl rfl (by decide) (by decide) ?_;intro Z hZ hZ0)
 have hN:((w.setCell ⟨A,2,none⟩ (.int .i64 (calls+1))).alloc (.cells Z 5)).heap[w.heap.size]?=some (.cells Z 5):=by
  simpa using μ (w.setCell ⟨A,2,none⟩ (.int .i64 (calls+1))) (.cells Z 5)
 have hC':=θ (.cells Z 5) ((qA9 hAC 2 (.int .i64 (calls+1))).trans hC);rw[qO5 (n:=128) 3 underlying90 Tryz.size5 rfl hN hC' (by omega) (by omega) (qO6 hby _ _).one];obtain⟨W1,hW1,hK1,hA1,hG1⟩:∃ W1,W1=((w.setCell ⟨A,2,none⟩ (.int .i64 (calls+1))).alloc (.cells Z 5)).setRow w.heap.size (qD6 Z 0 (qA1 cs (i*128) 128))∧Kp [A] w W1∧
   W1.heap[A]?=some (qA8 κ n C (.slice none 0 0) (calls+1) writes)∧W1.heap[w.heap.size]?=some (.cells (qA1 cs (i*128) 128) 5):=
  ⟨_,rfl,(((Kp.refl _ _).sc _).alloc _).setRow (by simp) _,(setRow_other _ _ _ _ (by omega)).trans (θ _ (φ h 2 _)),by
   rw[setRow_heap _ _ _ _ _ _ hN,qH1 (by rw[qO4 (by omega)];omega)]⟩
 rw[←hW1];clear hW1 hN hC' c0 c1 h;have c1:=ξ hA1 1;simp at c1;go_wp2;refine wp_loop_rounds 1 ?_;rw[rounds_succ];go_wp2
 go_ret2
 exact⟨_,rfl,Nat.le_refl _,hG1,hA1,hK1⟩
variable {κ:Nat}
theorem qM7:(prog.info? 89).map (fun i=>(i.zero,i.size,i.bytes))=some (some (.agg zeroCells89),129,136):=by kernel_rfl
theorem qI5:zeroCells89.size=129:=by kernel_rfl
theorem xI0:∀ v∈zeroCells89.toList,v.oneCell'=true:=by
 have h:zeroCells89.toList.all (·.oneCell')=true:=by kernel_rfl
 exact List.all_eq_true.1 h
theorem jZ5(A n C:Nat)(calls writes:Int)(i:Nat)(B bo cap:Nat)(src:Array Value)(tb:TypeId)(w:World)(h:w.heap[A]?=some (qA8 κ n C (.slice none 0 0) calls writes))(h0:0≤calls)(h1:calls≤1000000000)(h0w:0≤writes)(h1w:writes≤1000000000)
  (hi:i<n) (hn:n≤1000) (hB:w.heap[B]?=some (.cells src tb)) (hs:bo+128≤src.size) (hby:allBytes src) (hAB:B≠A):
  Calls prog 251 #[.pointer (some ⟨A,0,none⟩),.int .i64 i,.slice (some ⟨B,bo,none⟩) 128 cap] w fun e w'=>e=.returned .nilIface∧∃ v',
   w'.ownsRow w.heap.size 89 129 v' 1 (.int .i64 i::(qA1 src bo 128).toList)∧w'.heap[A]?=some (qA8 κ n C v' (calls+1) (writes+1))∧Kp [A] w w':=by
 have c1:=ξ h 1;have c3:=ξ h 3;simp at c1 c3;have hA:=ζ h;have hBs:=ζ hB;go_enter func251,ntmps251;go_wp2_with fail;refine (zA3 A n C _ calls writes _ h h0 h1).mono ?_;rintro e w1 ⟨rfl,rfl⟩;go_wp2_with fail;refine (zK4 A n C (.slice none 0 0) (calls+1) writes i _ (φ h 2 _) (by omega) (by omega)).mono ?_;rintro e w1 ⟨rfl,rfl⟩;go_wp2_with fail;have hN:((w.setCell ⟨A,2,none⟩ (.int .i64 (calls+1))).alloc (.cells zeroCells89 89)).heap[w.heap.size]?=some (.cells zeroCells89 89):=by
  simpa using μ (w.setCell ⟨A,2,none⟩ (.int .i64 (calls+1))) (.cells zeroCells89 89)
 rw[qI9 hN (by simp[qI5]) (fun v hv=>by rcases List.mem_or_eq_of_mem_set hv with h | h;exact xI0 v h;subst h;rfl)];obtain⟨W1,hW1,hK1,hA1,hG1⟩:∃ W1,W1=((w.setCell ⟨A,2,none⟩ (.int .i64 (calls+1))).alloc (.cells zeroCells89 89)).setRow w.heap.size (qD6 zeroCells89 0 (zeroCells89.toList.set 0 (.int .i64 i)).toArray)∧Kp [A] w W1∧
   W1.heap[A]?=some (qA8 κ n C (.slice none 0 0) (calls+1) writes)∧W1.heap[w.heap.size]?=some (.cells (zeroCells89.toList.set 0 (.int .i64 i)).toArray 89):=
  ⟨_,rfl,(((Kp.refl _ _).sc _).alloc _).setRow (by simp) _,(setRow_other _ _ _ _ (by omega)).trans (θ _ (φ h 2 _)),by
   rw[setRow_heap _ _ _ _ _ _ hN,qH1 (by simp)]⟩
 rw[←hW1];clear hW1 hN;have hB1:=hK1.heap hB (by simp[hAB]);go_wp2_with fail;rw[qO5 (n:=128) 3 underlying90 Tryz.size5 rfl hG1 hB1 (by simp[qI5]) hs (qO6 hby _ _).one];obtain⟨W2,hW2,hK2,hA2,hG2⟩:∃ W2,W2=W1.setRow w.heap.size (qD6 (zeroCells89.toList.set 0 (.int .i64 i)).toArray 1 (qA1 src bo 128))∧Kp [A] w W2∧
   W2.heap[A]?=some (qA8 κ n C (.slice none 0 0) (calls+1) writes)∧W2.heap[w.heap.size]?=some (.cells (.int .i64 i::(qA1 src bo 128).toList).toArray 89):=
  ⟨_,rfl,hK1.setRow (by simp) _,(setRow_other _ _ _ _ (by omega)).trans hA1,by
   rw[setRow_heap _ _ _ _ _ _ hG1];have e:qD6 (zeroCells89.toList.set 0 (.int .i64 i)).toArray 1 (qA1 src bo 128)=(.int .i64 i::(qA1 src bo 128).toList).toArray:=by
    have hz:zeroCells89.toList.length=129:=by simp[qI5]
    obtain⟨z0,zs,hzs⟩:∃ z0 zs,zeroCells89.toList=z0::zs:=by
     cases hq:zeroCells89.toList with
     | nil=>rw[hq] at hz;cases hz
     | cons z0 zs=>exact⟨z0,zs,rfl⟩
    rw[hzs] at hz ⊢;have hp:=qO4 (cs:=src) hs;have hd:zs.drop 128=[]:=List.drop_of_length_le (by simp at hz;omega);unfold qD6;rw[hp];simp[hd]
   rw[e]⟩
 rw[←hW2];clear hW2 hK1 hA1 hG1 hB1 c1 c3;have c1:=ξ hA2 1;have c3:=ξ hA2 3;simp at c1 c3;have f1:=ψ hA2 1;go_wp2_with fail;refine wp_region_any (by kernel_rfl) ?_;change wpAny _ _ _ _ _ _ _ (World.drew _);refine zu 0 (.pointer (some ⟨A,0,none⟩)) ?_;refine zu 1 (.pointer (some ⟨A,0,none⟩)) ?_;refine zu 2 (.pointer (some ⟨A,0,none⟩)) ?_;refine zu 3 (.pointer (some ⟨A,1,none⟩)) ?_;obtain⟨X,hX⟩:∃ X,X=(Value.int .i64 (i:Int)::(qA1 src bo 128).toList).toArray:=⟨_,rfl⟩;rw[←hX] at hG2;have hd2:W2.drew.heap[w.heap.size]?=some (.cells X 89):=hG2;have hlen:X.size=129:=by rw[hX];simp[qO4 hs]
 have hnew:(W2.drew.alloc (.cells (Value.agg X).cells 89)).heap[W2.heap.size]?=some (.cells X 89):=μ W2.drew _;have hone:∀ u∈(qA1 X 0 (1*129)).toList,u.oneCell'=true:=by
  have e:qA1 X 0 (1*129)=X:=by have:=qR6 X;rw[hlen] at this;exact this
  rw[e,hX];intro u hu;simp at hu;rcases hu with rfl|hu
  ·rfl
  ·exact (qO6 hby bo 128).one u (by simpa using hu)
 have HX:=zh hX;clear hX;have hA2s:=ζ hA2;refine wpAny_ready (rs:=[4,5]) (by kernel_rfl) (by simp) ?_;refine AllReady.cons rfl (fun K hK=>?_) (AllReady.cons rfl (fun K hK=>?_) AllReady.nil)
 ·go_simp;refine hK _ _ ?_;clear hK K;refine zQ 5 fun K hK=>?_;refine qJ0 rfl (qK7 (t:=89) rfl (by kernel_rfl) 129 (by kernel_rfl) w.heap.size (by simp[Act.eval]) hd2 hlen) ?_;refine hK _ _ ?_;clear hK K;simp only[zZ];refine zQ 6 fun K hK=>?_;refine qJ0 rfl (qT8 rfl (.agg X) _ _ _ underlying70 qM7 (by simp[Act.eval]) (by simpa [Value.cells] using hlen) (by decide) (by decide)) ?_;refine hK _ _ ?_;clear hK K;simp only[zZ];refine zQ 7 fun K hK=>?_;refine qM1 rfl rfl (.agg zeroCells89) 129 136 underlying70 qM7 (by simp[Value.cells,qI5]) (by decide) w.heap.size (.slice none 0 0) 0 [] (by simp[Act.eval]) (World.ownsRow_nil _ _ _ _) W2.heap.size 0 1 1 X 89 (0,0) (by simp[Act.eval]) hnew (by omega) hone (by decide) (by decide) (by have:=hK2.size;simp;omega) ?_;intro v1 w1 hown1 hgr1 _;obtain⟨g1,cap1,rfl⟩:=qJ6 (n:=0) hown1;refine hK _ _ ?_;clear hK K;simp only[zZ];have hA3:w1.heap[A]?=some (qA8 κ n C (.slice none 0 0) (calls+1) writes):=(hgr1.block A (by have:=hK2.size;simp;omega) (by simp[Value.ownBlock])).trans (θ _ hA2);have hK3:Kp [A] w w1:=((hK2.drew).alloc _).grown hgr1 (by simp[Value.ownBlock]);have d1:=ξ hA3 1;simp at d1;have e1:=ψ hA3 1;refine zu 8 (.pointer (some ⟨A,0,none⟩)) ?_;refine zu 9 (.pointer (some ⟨A,1,none⟩)) ?_;refine zQ 10 fun K hK=>?_;go_simp;refine hK _ _ ?_;clear hK K;refine wpAny_done (by kernel_rfl) ?_ _;have d3:=ξ hA3 3;simp at d3;have e3:=ψ hA3 3;go_wp2;go_ret;refine⟨rfl,.slice (some ⟨g1,0,none⟩) 1 cap1,?_,?_,(hK3.sc _).sc _⟩
  ·have hz:qA1 X 0 (1*129)=X:=by have:=qR6 X;rw[hlen] at this;exact this
   rw[hz,HX.out] at hown1;exact ownsRow_setCell_below (ownsRow_setCell_below (by simpa using hown1) hA _) hA _
  ·exact φ (φ hA3 1 _) 3 _
 ·refine qJ0 rfl (qK7 (t:=89) rfl (by kernel_rfl) 129 (by kernel_rfl) w.heap.size (by simp[Act.eval]) hd2 hlen) ?_;refine hK _ _ ?_;clear hK K;simp only[zZ];refine wpAny_ready (rs:=[4,6]) (by kernel_rfl) (by simp) ?_;refine AllReady.cons rfl (fun K hK=>?_) (AllReady.cons rfl (fun K hK=>?_) AllReady.nil)
  ·go_simp;refine hK _ _ ?_;clear hK K;refine zQ 6 fun K hK=>?_;refine qJ0 rfl (qT8 rfl (.agg X) _ _ _ underlying70 qM7 (by simp[Act.eval]) (by simpa [Value.cells] using hlen) (by decide) (by decide)) ?_;refine hK _ _ ?_;clear hK K;simp only[zZ];refine zQ 7 fun K hK=>?_;refine qM1 rfl rfl (.agg zeroCells89) 129 136 underlying70 qM7 (by simp[Value.cells,qI5]) (by decide) w.heap.size (.slice none 0 0) 0 [] (by simp[Act.eval]) (World.ownsRow_nil _ _ _ _) W2.heap.size 0 1 1 X 89 (0,0) (by simp[Act.eval]) hnew (by omega) hone (by decide) (by decide) (by have:=hK2.size;simp;omega) ?_;intro v1 w1 hown1 hgr1 _;obtain⟨g1,cap1,rfl⟩:=qJ6 (n:=0) hown1;refine hK _ _ ?_;clear hK K;simp only[zZ];have hA3:w1.heap[A]?=some (qA8 κ n C (.slice none 0 0) (calls+1) writes):=(hgr1.block A (by have:=hK2.size;simp;omega) (by simp[Value.ownBlock])).trans (θ _ hA2);have hK3:Kp [A] w w1:=((hK2.drew).alloc _).grown hgr1 (by simp[Value.ownBlock]);have d1:=ξ hA3 1;simp at d1;have e1:=ψ hA3 1;refine zu 8 (.pointer (some ⟨A,0,none⟩)) ?_;refine zu 9 (.pointer (some ⟨A,1,none⟩)) ?_;refine zQ 10 fun K hK=>?_;go_simp;refine hK _ _ ?_;clear hK K;refine wpAny_done (by kernel_rfl) ?_ _;have d3:=ξ hA3 3;simp at d3;have e3:=ψ hA3 3;go_wp2;go_ret;refine⟨rfl,.slice (some ⟨g1,0,none⟩) 1 cap1,?_,?_,(hK3.sc _).sc _⟩
   ·have hz:qA1 X 0 (1*129)=X:=by have:=qR6 X;rw[hlen] at this;exact this
    rw[hz,HX.out] at hown1;exact ownsRow_setCell_below (ownsRow_setCell_below (by simpa using hown1) hA _) hA _
   ·exact φ (φ hA3 1 _) 3 _
  ·refine qJ0 rfl (qT8 rfl (.agg X) _ _ _ underlying70 qM7 (by simp[Act.eval]) (by simpa [Value.cells] using hlen) (by decide) (by decide)) ?_;refine hK _ _ ?_;clear hK K;simp only[zZ];refine zQ 4 fun K hK=>?_;go_simp;refine hK _ _ ?_;clear hK K;refine zQ 7 fun K hK=>?_;refine qM1 rfl rfl (.agg zeroCells89) 129 136 underlying70 qM7 (by simp[Value.cells,qI5]) (by decide) w.heap.size (.slice none 0 0) 0 [] (by simp[Act.eval]) (World.ownsRow_nil _ _ _ _) W2.heap.size 0 1 1 X 89 (0,0) (by simp[Act.eval]) hnew (by omega) hone (by decide) (by decide) (by have:=hK2.size;simp;omega) ?_;intro v1 w1 hown1 hgr1 _;obtain⟨g1,cap1,rfl⟩:=qJ6 (n:=0) hown1;refine hK _ _ ?_;clear hK K;simp only[zZ];have hA3:w1.heap[A]?=some (qA8 κ n C (.slice none 0 0) (calls+1) writes):=(hgr1.block A (by have:=hK2.size;simp;omega) (by simp[Value.ownBlock])).trans (θ _ hA2);have hK3:Kp [A] w w1:=((hK2.drew).alloc _).grown hgr1 (by simp[Value.ownBlock]);have d1:=ξ hA3 1;simp at d1;have e1:=ψ hA3 1;refine zu 8 (.pointer (some ⟨A,0,none⟩)) ?_;refine zu 9 (.pointer (some ⟨A,1,none⟩)) ?_;refine zQ 10 fun K hK=>?_;go_simp;refine hK _ _ ?_;clear hK K;refine wpAny_done (by kernel_rfl) ?_ _;have d3:=ξ hA3 3;simp at d3;have e3:=ψ hA3 3;go_wp2;go_ret;refine⟨rfl,.slice (some ⟨g1,0,none⟩) 1 cap1,?_,?_,(hK3.sc _).sc _⟩
   ·have hz:qA1 X 0 (1*129)=X:=by have:=qR6 X;rw[hlen] at this;exact this
    rw[hz,HX.out] at hown1;exact ownsRow_setCell_below (ownsRow_setCell_below (by simpa using hown1) hA _) hA _
   ·exact φ (φ hA3 1 _) 3 _
variable {κ:Nat}
structure Cached(w:World)(v:Value)(i:Nat)(bs:Array Value):Prop where
 own:w.ownsRow 0 89 129 v 1 (.int .i64 i::bs.toList)
 size:bs.size=128
 bytes:allBytes bs
theorem Cached.form{w:World}{v:Value}{i:Nat}{bs:Array Value}(h:Cached w v i bs):∃ g cap cur,v=.slice (some ⟨g,0,none⟩) 1 cap∧w.heap[g]?=some (.cells cur 89)∧129≤cur.size∧qA1 cur 0 129=(.int .i64 (i:Int)::bs.toList).toArray:=by
 obtain⟨_,h2⟩:=h.own;rcases h2 with⟨_,h0⟩|⟨g,cap,cur,rfl,_,hg,h1,_,hs,ht⟩
 ·cases h0
 ·exact⟨g,cap,cur,rfl,hg,by omega,by simpa [qA1] using ht⟩
theorem xU8(A n C:Nat)(calls writes:Int)(w:World)(h:w.heap[A]?=some (qA8 κ n C (.slice none 0 0) calls writes))(h0:0≤calls)(h1:calls≤1000000000):
  Calls prog 249 #[.pointer (some ⟨A,0,none⟩)] w fun e w'=>e=.returned .nilIface∧w'.heap[A]?=some (qA8 κ n C (.slice none 0 0) (calls+1) writes)∧Kp [A] w w':=by
 have c1:=ξ h 1;simp at c1;have f1:=ψ h 1;go_enter func249,ntmps249;go_wp2_with fail;refine (zA3 A n C _ calls writes _ h h0 h1).mono ?_;rintro e w1 ⟨rfl,rfl⟩;go_wp2;refine wp_loop_rounds 1 ?_;rw[rounds_succ];go_wp2;go_ret;refine⟨rfl,?_,((Kp.refl _ _).sc _).sc _⟩;exact φ (φ h 2 _) 1 _
theorem xV0(A n C:Nat)(v:Value)(calls writes:Int)(i:Nat)(bs cs:Array Value)(w:World)(h:w.heap[A]?=some (qA8 κ n C v calls writes))(h0:0≤calls)(h1:calls≤1000000000)
  (hv:Cached w v i bs) (hi:i<n) (hn:n≤1000) (hC:w.heap[C]?=some (.cells cs 87)) (hs:n*128≤cs.size) (hAC:C≠A):
  Calls prog 249 #[.pointer (some ⟨A,0,none⟩)] w fun e w'=>e=.returned .nilIface∧w'.heap[A]?=some (qA8 κ n C (.slice none 0 0) (calls+1) writes)∧
   w'.heap[C]?=some (.cells (qD6 cs (i*128) bs) 87)∧Kp [A,C] w w':=by
 obtain⟨g,cap,cur,rfl,hg,hcs,hcur⟩:=hv.form;have hsz:=hv.size;have hby:=hv.bytes;clear hv;obtain⟨X,hX⟩:∃ X,X=(.int .i64 (i:Int)::bs.toList).toArray:=⟨_,rfl⟩;rw[←hX] at hcur;have hXs:X.size=129:=by rw[hX];simp[hsz]
 have hX0:X[0]?=some (.int .i64 i):=by rw[hX];rfl
 have hXp:qA1 X 1 128=bs:=by rw[hX];simp[qA1,List.take_of_length_le,hsz]
 have hX1:∀ v∈X.toList,v.oneCell'=true:=by
  rw[hX];intro v hv;simp at hv;rcases hv with rfl|hv
  ·rfl
  ·exact hby.one v (by simpa using hv)
 clear hX;have hgA:g≠A:=by intro e;subst e;rw[h] at hg;simp[qA8] at hg
 have hgC:g≠C:=by intro e;subst e;rw[hC] at hg;simp at hg
 have hA:=ζ h;have hCs:=ζ hC;have c0:=ξ h 0;have c1:=ξ h 1;simp at c0 c1;have f1:=ψ h 1;go_enter func249,ntmps249;go_wp2_with fail;refine (zA3 A n C _ calls writes _ h h0 h1).mono ?_;rintro e w1 ⟨rfl,rfl⟩;go_wp2;refine wp_loop_rounds 2 ?_;rw[rounds_succ];have hg1:(w.setCell ⟨A,2,none⟩ (.int .i64 (calls+1))).heap[g]?=some (.cells cur 89):=(qA9 hgA _ _).trans hg
 go_wp2_with (
  with_reducible refine qM4 (t:=89) ?_ 129 ?_ g 0 ?_ cur 89 (0,0) ?_ ?_ ?_
  ·kernel_rfl
  ·kernel_rfl
  ·rfl
  ·exact hg1
  ·omega)
 have hN:((w.setCell ⟨A,2,none⟩ (.int .i64 (calls+1))).alloc (.cells zeroCells89 89)).heap[w.heap.size]?=some (.cells zeroCells89 89):=by
  simpa using μ (w.setCell ⟨A,2,none⟩ (.int .i64 (calls+1))) (.cells zeroCells89 89)
 rw[qI9 hN (by simp[qI5,hXs]) hX1];obtain⟨W1,hW1,hK1,hA1,hC1,hT1⟩:∃ W1,W1=((w.setCell ⟨A,2,none⟩ (.int .i64 (calls+1))).alloc (.cells zeroCells89 89)).setRow w.heap.size (qD6 zeroCells89 0 X.toList.toArray)∧Kp [A,C] w W1∧
   W1.heap[A]?=some (qA8 κ n C (.slice (some ⟨g,0,none⟩) 1 cap) (calls+1) writes)∧W1.heap[C]?=some (.cells cs 87)∧W1.heap[w.heap.size]?=some (.cells X 89):=
  ⟨_,rfl,(((Kp.refl _ _).sc _).alloc _).setRow (by simp) _,(setRow_other _ _ _ _ (by omega)).trans (θ _ (φ h 2 _)),(setRow_other _ _ _ _ (by omega)).trans (θ _ ((qA9 hAC _ _).trans hC)),by
   rw[setRow_heap _ _ _ _ _ _ hN,qH1 (by simp[qI5,hXs])]⟩
 rw[←hW1];clear hW1 hN hg1 c0 c1 f1;have c0:=ξ hA1 0;have t0:=ξ hT1 0;rw[hX0] at t0;simp at c0;go_wp2_with fail;refine wp_region_held_drew (S:=fun W=>W.heap[A]?=some (qA8 κ n C (.slice (some ⟨g,0,none⟩) 1 cap) (calls+1) writes)∧W.heap[w.heap.size]?=some (.cells X 89)) (by kernel_rfl) ⟨hA1,hT1⟩ (fun _=>?_);refine zP 0 A 0 ⟨hA1,hT1⟩ ?_;refine zP 1 A 0 ⟨hA1,hT1⟩ ?_;refine zP 2 A 0 ⟨hA1,hT1⟩ ?_;refine zV 3 (.slice (some ⟨C,0,none⟩) n κ) rfl (fun W hS=>by have c:=ξ hS.1 0;simp at c;clear hS;go_simp) ⟨hA1,hT1⟩ ?_;refine zP 4 w.heap.size 0 ⟨hA1,hT1⟩ ?_;refine zV 5 (.int .i64 i) rfl (fun W hS=>by have c:=ξ hS.2 0;rw[hX0] at c;clear hS;go_simp) ⟨hA1,hT1⟩ ?_;refine zP 6 w.heap.size 1 ⟨hA1,hT1⟩ ?_;refine zV 7 (.agg bs) rfl (fun W hS=>zU6 (t:=87) rfl (by kernel_rfl) 128 (by kernel_rfl) w.heap.size 1 rfl hS.2 (by omega) hXp) ⟨hA1,hT1⟩ ?_;refine zU 8 (.pointer (some ⟨C,i*128,none⟩)) ⟨hA1,hT1⟩ ?_;refine zq 9 fun K hK=>?_;refine xF8 rfl (zU7 (t:=87) rfl bs (by rw[hsz];kernel_rfl) C (i*128) rfl rfl (cur:=cs) (tb:=87) hC1 (by omega) hby.one) ?_;have hAo:=(setRow_other W1.drew C A (qD6 cs (i*128) bs) (by omega)).trans hA1;have hTo:=(setRow_other W1.drew C w.heap.size (qD6 cs (i*128) bs) (by omega)).trans hT1;have hCo:=setRow_heap W1.drew C _ (qD6 cs (i*128) bs) _ _ hC1;have hKo:=(hK1.drew).setRow (g:=C) (by simp) (qD6 cs (i*128) bs);refine hK.out _ _ ⟨hAo,hTo⟩ (fun _=>?_);clear hK K;refine zd ?_;generalize W1.drew.setRow C (qD6 cs (i*128) bs)=W2 at *;simp only[zZ];clear hA1 hT1 hC1 hK1 c0 t0 hTo;have c1:=ξ hAo 1;simp at c1;have f1:=ψ hAo 1;go_wp2;rw[rounds_succ];go_wp2;go_ret;exact⟨rfl,φ hAo 1 _,(qA9 hAC _ _).trans hCo,hKo.sc _⟩
theorem zX1:(prog.info? 87).map (fun i=>(i.zero,i.size,i.bytes))=some (some (.agg zeroCells87),128,128):=by kernel_rfl
theorem xH8:∀ v∈zeroCells87.toList,v=.int .u8 0:=by
 have h:zeroCells87.toList=List.replicate 128 (.int .u8 0):=by kernel_rfl
 intro v hv;rw[h] at hv;exact List.eq_of_mem_replicate hv
theorem zN6:zeroCells87.size=128:=by kernel_rfl
theorem jI4(m:Nat)(w:World)(hm:m<1000)(k:Int)(hk0:0≤k)(hk:k % 1000=m):
  Calls prog 34 #[.int .i64 k] w fun e w'=>e=.returned (.pointer (some ⟨w.heap.size+1,0,none⟩))∧∃ Z:Array Value,Z.size=m*128∧(∀ v∈Z.toList,v=.int .u8 0)∧
   w'=(w.alloc (.cells Z 87)).alloc (qT7 m w.heap.size (.slice none 0 0) 0 0):=by
 go_enter func34,ntmps34;have hlt:¬k<0:=by omega
 go_wp2;obtain⟨Z,hZ,hZ0,hr⟩:=jS0 (P:=prog) (.agg zeroCells87) (.int .u8 0) 128 128 underlying69 zX1 xH8 (by simp[Value.cells,zN6]) .i64 .i64 m (by omega) (by omega) w;rw[hr];clear hr;go_wp2;go_ret;exact⟨rfl,Z,hZ,hZ0,rfl⟩
def qD8(l:List UInt8):List Value:=l.map (fun b=>.int .u8 (b.toNat:Int))
def enc(l:List UInt8):Array Value:=(qD8 l).toArray
theorem zU0(l:List UInt8):(qD8 l).length=l.length:=by simp[qD8]
theorem qD2(l:List UInt8):(enc l).size=l.length:=by simp[enc,qD8]
theorem qF9(l:List UInt8):allBytes (enc l):=by
 intro v hv;simp[enc,qD8] at hv;obtain⟨b,_,rfl⟩:=hv;exact⟨_,rfl⟩
theorem qI8(l:List UInt8)(o n:Nat):qA1 (enc l) o n=enc ((l.drop o).take n):=by simp[qA1,enc,qD8,List.map_take,List.map_drop]
theorem qW7(l p:List UInt8)(o:Nat):qD6 (enc l) o (enc p)=enc (l.take o++p++l.drop (o+p.length)):=by
 simp[qD6,enc,qD8,List.map_take,List.map_drop]
theorem zV7(l:List UInt8)(s:ByteArray):(l.map (fun b=>(b.toNat:Int))).foldl (fun r n=>r.push (UInt8.ofNat n.toNat)) s=⟨(s.data.toList++l).toArray⟩:=by
 induction l generalizing s with
 | nil=>simp
 | cons b l ih=>
  rw[List.map_cons,List.foldl_cons,ih];simp[ByteArray.push]
variable {κ:Nat}
def qC8(A n:Nat):Obj:=.cells #[.iface 23 (.pointer (some ⟨A,0,none⟩)),.int .i64 n] 186
def χ(l:List UInt8)(i:Nat):List UInt8:=(l.drop (i*128)).take 128
theorem qF5:zeroCells223.size=128:=by kernel_rfl
theorem jH3(V A n C:Nat)(calls writes:Int)(i:Nat)(l:List UInt8)(w:World)(hV:w.heap[V]?=some (qC8 A n))(h:w.heap[A]?=some (qA8 κ n C (.slice none 0 0) calls writes))(h0:0≤calls)(h1:calls≤1000000000)
  (hi:i<n) (hn:n≤1000) (hC:w.heap[C]?=some (.cells (enc l) 87)) (hs:n*128≤l.length) (hAC:C≠A) (hVA:V≠A):
  Calls prog 151 #[.pointer (some ⟨V,0,none⟩),.int .i64 i] w fun e w'=>e=.returned (.agg (enc (χ l i)))∧
   w'.heap[A]?=some (qA8 κ n C (.slice none 0 0) (calls+1) writes)∧Kp [A] w w':=by
 have c0:=ξ hV 0;simp at c0;have hVs:=ζ hV;have hA:=ζ h;have hCs:=ζ hC;go_enter func151,ntmps151;go_wp2_with fail;refine (jQ8 A n C calls writes i (enc l) _ (θ _ h) h0 h1 hi hn (θ _ hC) (by rw[qD2];exact hs) (qF9 l) hAC).mono ?_;rintro e w1 ⟨g,rfl,hg,hG,hA1,hK1⟩;rw[qI8] at hG;have hb:χ l i=(l.drop (i*128)).take 128:=rfl;rw[←hb] at hG;have hbl:(χ l i).length=128:=by simp[χ];omega
 clear hb;obtain⟨bl,hb0⟩:∃ bl,χ l i=bl:=⟨_,rfl⟩;rw[hb0] at hG hbl;have HB:=zh hb0;clear hb0;have hR:w1.heap[w.heap.size]?=some (.cells zeroCells223 223):=hK1.heap (μ _ _) (by simp;omega);have hK2:Kp [A] w w1:=((Kp.refl _ _).alloc _).tr hK1;have hgs:w.heap.size+1≤g:=by simpa using hg
 have hg1:=ζ hG;have hA1s:=ζ hA1;clear hK1 hg c0;go_wp2_with fail;have hN:=μ w1 (.cells zeroCells223 223);rw[qO5 (n:=128) 3 underlying90 Tryz.size5 rfl hN (θ _ hG) (by simp[qF5]) (by rw[qD2];omega) (qO6 (qF9 _) _ _).one];rw[qI8,List.drop_zero,List.take_of_length_le (by omega),qH1 (by rw[qF5,qD2,hbl])];obtain⟨W2,hW2,hK3,hA3,hR3,hB3⟩:∃ W2,W2=(w1.alloc (.cells zeroCells223 223)).setRow w1.heap.size (enc bl)∧Kp [A] w W2∧W2.heap[A]?=some (qA8 κ n C (.slice none 0 0) (calls+1) writes)∧
   W2.heap[w.heap.size]?=some (.cells zeroCells223 223)∧W2.heap[w1.heap.size]?=some (.cells (enc bl) 223):=
  ⟨_,rfl,(hK2.alloc _).setRow (Or.inr hK2.size) _,(setRow_other _ _ _ _ (by omega)).trans (θ _ hA1),(setRow_other _ _ _ _ (by omega)).trans (θ _ hR),setRow_heap _ _ _ _ _ _ hN⟩
 rw[←hW2];clear hW2 hN;have hpp:qA1 (enc bl) 0 128=enc bl:=by rw[qI8,List.drop_zero,List.take_of_length_le (by omega)]
 have hes:(enc bl).size=128:=by rw[qD2,hbl]
 go_wp2_with (
  with_reducible refine qM4 (t:=223) ?_ 128 ?_ w1.heap.size 0 ?_ (enc bl) 223 (0,0) ?_ ?_ ?_
  ·kernel_rfl
  ·kernel_rfl
  ·rfl
  ·exact hB3
  ·rw[qD2];omega)
 rw[qI9 hR3 (by simp[qF5,hes]) (qF9 bl).one];rw[show (enc bl).toList.toArray=enc bl from by simp,qH1 (by rw[qF5,hes])];obtain⟨W3,hW3,hK4,hA4,hR4⟩:∃ W3,W3=W2.setRow w.heap.size (enc bl)∧Kp [A] w W3∧W3.heap[A]?=some (qA8 κ n C (.slice none 0 0) (calls+1) writes)∧W3.heap[w.heap.size]?=some (.cells (enc bl) 223):=
  ⟨_,rfl,hK3.setRow (by simp) _,(setRow_other _ _ _ _ (by omega)).trans hA3,setRow_heap _ _ _ _ _ _ hR3⟩
 rw[←hW3];clear hW3;go_wp2_with fail;exact bodyPost_ret (results_cell_row results151 _ _ w.heap.size _ _ _ _ rfl hR4 underlying223 rfl (by rw[hes];kernel_rfl)) rfl ⟨by rw[HB.out],hA4,hK4⟩
variable {κ:Nat}
theorem qH4{w:World}{base base':Nat}{e:TypeId}{sz:Nat}{v:Value}{n:Nat}{xs:List Value}(h:w.ownsRow base e sz v n xs)(hb:base'≤base):w.ownsRow base' e sz v n xs:=by
 obtain⟨h1,h2⟩:=h;refine⟨h1,?_⟩;rcases h2 with h2|⟨g,cap,cur,hv,hg,r⟩
 ·exact .inl h2
 ·exact .inr ⟨g,cap,cur,hv,by omega,r⟩
theorem jT1(V A n C:Nat)(calls writes:Int)(w:World)(hV:w.heap[V]?=some (qC8 A n))(h:w.heap[A]?=some (qA8 κ n C (.slice none 0 0) calls writes))(h0:0≤calls)(h1:calls≤1000000000):
  Calls prog 76 #[.pointer (some ⟨V,0,none⟩)] w fun e w'=>e=.returned (.tuple #[])∧w'.heap[A]?=some (qA8 κ n C (.slice none 0 0) (calls+1) writes)∧Kp [A] w w':=by
 have c0:=ξ hV 0;simp at c0;go_enter func76,ntmps76;go_wp2_with fail;refine (xU8 A n C calls writes _ h h0 h1).mono ?_;rintro e w1 ⟨rfl,hA1,hK1⟩;go_wp2
 go_end0
 exact⟨rfl,hA1,hK1⟩
theorem jT2(V A n C:Nat)(v:Value)(calls writes:Int)(i:Nat)(bs cs:Array Value)(w:World)(hV:w.heap[V]?=some (qC8 A n))(h:w.heap[A]?=some (qA8 κ n C v calls writes))(h0:0≤calls)(h1:calls≤1000000000)
  (hv:Cached w v i bs) (hi:i<n) (hn:n≤1000) (hC:w.heap[C]?=some (.cells cs 87)) (hs:n*128≤cs.size) (hAC:C≠A):
  Calls prog 76 #[.pointer (some ⟨V,0,none⟩)] w fun e w'=>e=.returned (.tuple #[])∧w'.heap[A]?=some (qA8 κ n C (.slice none 0 0) (calls+1) writes)∧
   w'.heap[C]?=some (.cells (qD6 cs (i*128) bs) 87)∧Kp [A,C] w w':=by
 have c0:=ξ hV 0;simp at c0;go_enter func76,ntmps76;go_wp2_with fail;refine (xV0 A n C v calls writes i bs cs _ h h0 h1 hv hi hn hC hs hAC).mono ?_;rintro e w1 ⟨rfl,hA1,hC1,hK1⟩;go_wp2
 go_end0
 exact⟨rfl,hA1,hC1,hK1⟩
theorem jS2(V A n C:Nat)(calls writes:Int)(i:Nat)(bl:List UInt8)(w:World)(hV:w.heap[V]?=some (qC8 A n))(h:w.heap[A]?=some (qA8 κ n C (.slice none 0 0) calls writes))(h0:0≤calls)(h1:calls≤1000000000)(h0w:0≤writes)(h1w:writes≤1000000000)
  (hi:i<n) (hn:n≤1000) (hbl:bl.length=128) (hVA:V≠A):
  Calls prog 136 #[.pointer (some ⟨V,0,none⟩),.int .i64 i,.agg (enc bl)] w fun e w'=>e=.returned (.tuple #[])∧∃ v',Cached w' v' i (enc bl)∧
   w'.heap[A]?=some (qA8 κ n C v' (calls+1) (writes+1))∧Kp [A] w w':=by
 have c0:=ξ hV 0;simp at c0;have hVs:=ζ hV;have hA:=ζ h;have hes:(enc bl).size=128:=by rw[qD2,hbl]
 go_enter func136,ntmps136;go_wp2_with fail;obtain⟨W1,hW1,hK1,hA1,hB1,hV1⟩:∃ W1,W1=w.alloc (.cells (enc bl) 223)∧Kp [A] w W1∧W1.heap[A]?=some (qA8 κ n C (.slice none 0 0) calls writes)∧W1.heap[w.heap.size]?=some (.cells (enc bl) 223)∧W1.heap[V]?=some (qC8 A n):=
  ⟨_,rfl,(Kp.refl _ _).alloc _,θ _ h,μ _ _,θ _ hV⟩
 rw[←hW1];clear hW1 c0;have c0:=ξ hV1 0;simp at c0;have hpp:qA1 (enc bl) 0 128=enc bl:=by rw[qI8,List.drop_zero,List.take_of_length_le (by omega)]
 have hm:∀ W:World,(method 445 23 (.pointer (some ⟨A,0,none⟩)) "Write").run prog W=.ok (251,.pointer (some ⟨A,0,none⟩)) W:=fun _=>by kernel_rfl
 go_region_with (go_at_call 251;go_must (refine (jZ5 A n C calls writes i w.heap.size 0 128 (enc bl) 223 W1.drew hA1 h0 h1 h0w h1w hi hn hB1 (by omega) (qF9 bl) (by omega)).mono ?_);rintro e w2 ⟨rfl,v',hown,hA2,hK2⟩)
 go_wp2
 go_end0
 refine⟨rfl,v',⟨?_,hes,qF9 bl⟩,hA2,hK1.trans ((Kp.refl [A] W1).drew.tr hK2) (by simp)⟩;rw[hpp] at hown;exact qH4 hown (Nat.zero_le _)
theorem xW3{w:World}{g:Nat}{c:Array Value}{e:TypeId}(h:w.heap[g]?=some (.cells c e))(o:Nat):(w.freeze ⟨g,o,none⟩ 1).heap[g]?=some (.cells c e (o,o+1)):=by
 simp[World.freeze,Array.getElem?_modify,h]
theorem zV9{w:World}{g k:Nat}(hk:k≠g)(o:Nat):(w.freeze ⟨g,o,none⟩ 1).heap[k]?=w.heap[k]?:=by
 have:g≠k:=fun e=>hk e.symm;simp[World.freeze,Array.getElem?_modify,this]
theorem Below.freeze{B:Nat}{a w:World}(h:Below B a w){g:Nat}(hp:B≤g)(o:Nat):Below B a (w.freeze ⟨g,o,none⟩ 1):=
 ⟨h.os,h.tape,h.output,by have:=h.size;simp[World.freeze];omega,fun k hk=>(zV9 (by omega) o).trans (h.block k hk)⟩
theorem jR9{w:World}{g l cc:Nat}{c:Array Value}{e:TypeId}(h:w.heap[g]?=some (.cells c e)):
  Sem.run prog (convert 90 90 (.slice (some ⟨g,0,none⟩) l cc)) w=.ok (.slice (some ⟨g,0,none⟩) l cc) (w.freeze ⟨g,c.size,none⟩ 1):=by
 have hsh:w.shape? g=some (e,c.size):=by simp[World.shape?,h]
 simp[convert,run_underlying underlying90,run_underlying underlying5,markStringish,hsh]
theorem xK2(g k:Nat)(xs:List Int)(n:Int)(m:Nat)(w:World)(hx:k≤1000)(hxl:xs.length=k)(hm:m≤100)(hm1:1≤m)(hn:0≤n)
  (hc:∀ j,j<k→w.cell? ⟨g,j,none⟩=some (.int .u8 (xs.getD j 0))):
  Calls prog 177 #[.slice (some ⟨g,0,none⟩) k k,.int .u64 n,.int .i64 m] w fun e w'=>∃ v',e=.returned v'∧w'.ownsRow w.heap.size 5 1 v' (k+m) (u8s (xs++qB2 m n))∧Below w.heap.size w w':=by
 obtain⟨i0,hi,hz0,hz1,hz2⟩:=info_parts Tryz.info5;have hgs:∀ j,j<k→g<w.heap.size:=fun j hj=>World.block_lt_of_cell? w _ (hc j hj);go_enter func177,ntmps177;go_wp2
 go_loopw [0,1,8] (fun s q i wr=>∃ (j:Nat) (v':Value) (nj:Int),j≤m∧i=.int .i64 j∧q=.int .u64 nj∧nj=n / (256:Int) ^ j∧0≤nj∧nj≤n∧s=v'∧((j=0∧v'=.slice (some ⟨g,0,none⟩) k k∧w=wr)∨(1≤j∧wr.ownsRow w.heap.size 5 1 v' (k+j) (u8s (xs++qB2 j n))))∧Below w.heap.size w wr) (fun _ _ i _=>m-(intOf i).toNat)
 case atStart=>exact⟨0,_,n,Nat.zero_le _,rfl,rfl,by simp,hn,Int.le_refl _,rfl,.inl ⟨rfl,rfl,rfl⟩,Below.refl _ _⟩
 case round=>
  obtain⟨j,v',nj,hj,rfl,rfl,hnj,hnj0,hnj1,rfl,hcase,hbl⟩:=hrel;have HN:=zh hnj;clear hnj;rcases hcase with⟨rfl,rfl,rfl⟩|⟨hj1,hownr⟩
  ·have hlt:0<m:=by omega
   have HC:Hid (∀ b,(some (⟨g,0,none⟩:Addr))=some b→∀ j u,(u8s xs)[j]?=some u→(w.alloc (.cells #[.int .u8 (nj % 256)] 5)).cell? (b.add j)=some u):=by
    intro b hb j u hu;cases hb;rw[qM5,Nat.zero_add];have hjl:j<k:=by have:=(List.getElem?_eq_some_iff.1 hu).1;simp[u8s] at this;omega
    rw[World.cell?_alloc_past _ _ _ (hgs j hjl),hc j hjl];simp[u8s,List.getElem?_eq_getElem (show j<xs.length by omega)] at hu;simp[List.getD_eq_getElem?_getD,List.getElem?_eq_getElem (show j<xs.length by omega),hu]
   go_wp2_with (at_builtin;go_must (refine wpList_append_grows _ rfl _ _ 90 rfl 5 i0 (.int .u8 0) 1 1 underlying90 hi hz0 hz1 hz2 rfl (by decide) (some ⟨g,0,none⟩) k k (u8s xs) rfl (by simp) (by simp[u8s,hxl]) HC.out ⟨w.heap.size,0,none⟩ 1 1 [.int .u8 (nj % 256)] rfl rfl (cell_one_new _ _ _) (by simp[Value.oneCell']) (by omega) (by unfold maxLen;omega) (by omega) ?_);intro v1 w1 hown1 hgrow1)
   refine⟨⟨1,v1,nj / 256,by omega,rfl,rfl,?_,by omega,by omega,rfl,.inr ⟨Nat.le_refl _,?_⟩,?_⟩,by simp[intOf];omega⟩
   ·rw[HN.out];simp
   ·have e1:u8s (xs++qB2 1 n)=u8s xs++[.int .u8 (nj % 256)]:=by rw[HN.out];simp[u8s,qB2]
    rw[e1];exact qH4 hown1 (by simp)
   ·exact (hbl.alloc (Nat.le_refl _) _).grown hgrow1 (by simp) (by simp)
  ·by_cases hlt:j<m
   ·go_wp2_with (at_builtin;refine wpList_append_own _ rfl _ _ 90 rfl w.heap.size 5 i0 (.int .u8 0) 1 1 underlying90 hi hz0 hz1 hz2 rfl (by decide) _ _ _ rfl (hownr.alloc _) ⟨wr.heap.size,0,none⟩ 1 1 [.int .u8 (nj % 256)] rfl rfl (cell_one_new _ _ _) (by simp[Value.oneCell']) (by unfold maxLen;omega) (by omega) (by have:=hbl.size;simp;omega) ?_;intro v1 w1 hown1 hgrow1 _)
    refine⟨⟨j+1,v1,nj / 256,by omega,by go_num,rfl,?_,by omega,by omega,rfl,.inr ⟨by omega,?_⟩,?_⟩,by simp[intOf];omega⟩
    ·rw[HN.out,Int.ediv_ediv_of_nonneg (by exact Int.pow_nonneg (by decide)),Int.pow_succ]
    ·have e1:u8s (xs++qB2 (j+1) n)=u8s (xs++qB2 j n)++[.int .u8 (nj % 256)]:=by rw[zJ7,←HN.out];simp[u8s]
     rw[e1];exact hown1
    ·exact (hbl.alloc (by have:=hbl.size;omega) _).grown hgrow1 (by have:=hbl.size;simp;omega) (qH7 hownr)
   ·go_wp2;go_ret;have e:j=m:=by omega
    subst e;exact⟨_,rfl,hownr,hbl⟩
def qH3:List Int:=[115,104,97,100,111,119]
def qL0(N rb rs:Int):List Int:=qH3++qB2 2 rb++qB2 8 N++qB2 8 rs
def qE3(N rb rs:Int):List Int:=qL0 N rb rs++qB2 8 (fnv (qL0 N rb rs))
theorem qW3(xs:List Int):0≤fnv xs:=by
 unfold fnv
 suffices h:∀ s:Int,0≤s→0≤xs.foldl qT9 s from h _ (by decide)
 induction xs with
 | nil=>intro s hs;simpa using hs
 | cons x xs ih=>
  intro s hs;rw[List.foldl_cons];apply ih;simp only[qT9,IntKind.wrap_u64];exact Int.emod_nonneg _ (by decide)
theorem jS6(N rb rs:Int):(qL0 N rb rs).length=24:=by simp[qL0,qH3,qG1]
theorem qV0(N rb rs:Int):(qE3 N rb rs).length=32:=by simp[qE3,jS6,qG1]
theorem jO7{w:World}{base:Nat}{v:Value}{k:Nat}{xs:List Int}(h:w.ownsRow base 5 1 v (k+1) (u8s xs)):∃ g cap,v=.slice (some ⟨g,0,none⟩) (k+1) cap∧base≤g∧xs.length=k+1∧∀ j,j<k+1→w.cell? ⟨g,0+j,none⟩=some (.int .u8 (xs.getD j 0)):=by
 obtain⟨hl,h2⟩:=h;rcases h2 with⟨_,h0⟩|⟨g,cap,cur,rfl,hg,hh,h1,_,hs,ht⟩
 ·cases h0
 ·have hxl:xs.length=k+1:=by simpa [u8s] using hl
  refine⟨g,cap,rfl,hg,hxl,fun j hj=>?_⟩;rw[ξ hh];have e:(cur.toList.take ((k+1)*1))[j]?=(u8s xs)[j]?:=by rw[ht]
  rw[List.getElem?_take,if_pos (by omega)] at e;rw[Nat.zero_add,←Array.getElem?_toList,e];simp[u8s,List.getD_eq_getElem?_getD,List.getElem?_eq_getElem (show j<xs.length by omega)]
theorem zD1(N rb rs:Int)(w:World)(hN:0≤N)(hb:0≤rb)(hb2:rb≤65535)(hr:0≤rs):
  Calls prog 135 #[.agg #[.int .u64 N,.int .i64 rb,.int .u64 rs]] w fun e w'=>∃ v,e=.returned v∧w'.ownsRow w.heap.size 5 1 v 32 (u8s (qE3 N rb rs))∧Below w.heap.size w w':=by
 go_enter func135,ntmps135;go_wp2_with fail;have hM:=μ (w.alloc (.cells #[.int .u64 N,.int .i64 rb,.int .u64 rs] 116)) (.cells #[.int .u8 115,.int .u8 104,.int .u8 97,.int .u8 100,.int .u8 111,.int .u8 119] 5);rw[show (w.alloc (.cells #[.int .u64 N,.int .i64 rb,.int .u64 rs] 116)).heap.size=w.heap.size+1 from by simp] at hM;rw[jR9 hM];obtain⟨W1,hW1,hK1,hH1,hO1⟩:∃ W1,W1=((w.alloc (.cells #[.int .u64 N,.int .i64 rb,.int .u64 rs] 116)).alloc (.cells #[.int .u8 115,.int .u8 104,.int .u8 97,.int .u8 100,.int .u8 111,.int .u8 119] 5)).freeze ⟨w.heap.size+1,#[Value.int .u8 115,Value.int .u8 104,Value.int .u8 97,Value.int .u8 100,Value.int .u8 111,Value.int .u8 119].size,none⟩ 1∧
   Below w.heap.size w W1∧W1.heap[w.heap.size]?=some (.cells #[.int .u64 N,.int .i64 rb,.int .u64 rs] 116)∧(∀ j,j<6→W1.cell? ⟨w.heap.size+1,j,none⟩=some (.int .u8 (qH3.getD j 0))):=
  ⟨_,rfl,Below.freeze (((Below.refl _ _).alloc (Nat.le_refl _) _).alloc (by simp) _) (by omega) _,(zV9 (by omega) _).trans (θ _ (μ _ _)),fun j hj=>by
   rw[ξ (xW3 hM _)]
   match j,hj with
   | 0,_=>rfl
   | 1,_=>rfl
   | 2,_=>rfl
   | 3,_=>rfl
   | 4,_=>rfl
   | 5,_=>rfl⟩
 rw[←hW1];clear hW1 hM;have hs1:w.heap.size+1≤W1.heap.size:=by have:=ζ hH1;omega
 have c1:=ξ hH1 1;simp at c1;have HO:=zh hO1;clear hO1;go_wp2_with fail;refine (xK2 (w.heap.size+1) 6 qH3 rb 2 W1 (by omega) rfl (by omega) (by omega) hb HO.out).mono ?_;rintro e W2 ⟨v2,rfl,hO2,hB2⟩;have hH2:=(hB2.block w.heap.size (by omega)).trans hH1;have hs2:=hB2.size;have d0:=ξ hH2 0;simp at d0;have hO2':=qH4 hO2 hs1;clear c1 HO hO2;go_wp2_with fail;refine (zF2 _ (w.heap.size+1) (6+2) (qH3++qB2 2 rb) N 8 W2 (by omega) (by omega) hN (by omega) hO2').mono ?_;rintro e W3 ⟨v3,rfl,hO3,hB3⟩;have hH3:=(hB3.block w.heap.size (by omega)).trans hH2;have hs3:=hB3.size;have d2:=ξ hH3 2;simp at d2;clear d0;go_wp2_with fail;refine (zF2 _ (w.heap.size+1) (6+2+8) (qH3++qB2 2 rb++qB2 8 N) rs 8 W3 (by omega) (by omega) hr (by omega) hO3).mono ?_;rintro e W4 ⟨v4,rfl,hO4,hB4⟩;have hs4:=hB4.size;clear d2;have hS:u8s (qH3++qB2 2 rb++qB2 8 N++qB2 8 rs)=u8s (qL0 N rb rs):=rfl;rw[hS] at hO4;obtain⟨g,cap,rfl,hg,hlen,hcs⟩:=jO7 (k:=23) hO4;have HC:=zh hcs;clear hcs hS;go_wp2_with fail;refine (qV2 g 0 24 cap (qL0 N rb rs) W4 hlen (by omega) HC.out).mono ?_;rintro e w5 ⟨rfl,rfl⟩;go_wp2_with fail;refine (zF2 _ (w.heap.size+1) 24 (qL0 N rb rs) (fnv (qL0 N rb rs)) 8 _ (by omega) (by omega) (qW3 _) (by omega) hO4).mono ?_;rintro e W6 ⟨v6,rfl,hO6,hB6⟩;go_wp2;go_ret;refine⟨_,rfl,qH4 hO6 (by omega),hK1.trans (((hB2.mono (by omega)).trans (hB3.mono (by omega))).trans ((hB4.mono (by omega)).trans (hB6.mono (by omega))))⟩
def qI0(N rb rs:Int):Value:=.agg #[.int .u64 N,.int .i64 rb,.int .u64 rs]
theorem qU8(N rb rs:Int)(w:World)(hN:0≤N):
  Calls prog 137 #[.agg #[.int .u64 N,.int .i64 rb,.int .u64 rs]] w fun e w'=>e=.returned (.int .i64 (N % 2))∧Below w.heap.size w w':=by
 go_enter func137,ntmps137;go_wp2;go_ret;exact⟨rfl,(Below.refl _ _).alloc (Nat.le_refl _) _⟩
theorem jI7(N N' a b c d:Int)(w:World)(hN:0≤N)(hN':0≤N')(hle:N≤N')(h1:N'≤1000000000):
  Calls prog 112 #[.agg #[.int .u64 N,.int .i64 a,.int .u64 b],.agg #[.int .u64 N',.int .i64 c,.int .u64 d]] w fun e w'=>e=.returned (.bool false)∧Below w.heap.size w w':=by
 have hd:decide (0<wrap64 (IntKind.u64.wrap (N-N')))=false:=by
  simp only[wrap64,IntKind.wrap_u64,decide_eq_false_iff_not];omega
 go_enter func112,ntmps112;go_wp2;go_ret;exact⟨rfl,((Below.refl _ _).alloc (Nat.le_refl _) _).alloc (by simp) _⟩
theorem zB8(N rb rs qb qs:Int)(w:World)(hN:0≤N)(h1:N≤1000000000):
  Calls prog 99 #[.agg #[.int .u64 N,.int .i64 rb,.int .u64 rs],.agg #[.int .i64 qb,.int .u64 qs]] w fun e w'=>e=.returned (.agg #[.int .u64 (N+1),.int .i64 qb,.int .u64 qs])∧Below w.heap.size w w':=by
 go_enter func99,ntmps99;go_wp2;refine bodyPost_ret (results_cell_row results99 _ _ (w.heap.size+1+1) 116 #[.int .u64 (N+1),.int .i64 qb,.int .u64 qs] (0,0) _ rfl ?_ underlying116 rfl (by kernel_rfl)) rfl ⟨rfl,(((Below.refl _ _).alloc (Nat.le_refl _) _).alloc (by simp) _).alloc (by simp;omega) _⟩;simpa using μ ((w.alloc (.cells #[.int .u64 N,.int .i64 rb,.int .u64 rs] 116)).alloc (.cells #[.int .i64 qb,.int .u64 qs] 78)) (.cells #[.int .u64 (N+1),.int .i64 qb,.int .u64 qs] 116)
theorem xF0{w:World}{g o n cap:Nat}{ca:Array Value}{tg:TypeId}{fa:Nat × Nat}{l:List UInt8}(h:w.heap[g]?=some (.cells ca tg fa))(hp:qA1 ca o n=enc l)(hin:o+n≤ca.size):
  Sem.run prog (convert 90 9 (.slice (some ⟨g,o,none⟩) n cap)) w=.ok (.string ⟨l.toArray⟩) w:=by
 rw[run_convert_bytes_string w _ _ _ _ _ _ underlying90 underlying5 underlying9];have hload:=zD0 (P:=prog) (o:=o) (n:=n) h hin;have e:enc l=((l.map (fun b=>(b.toNat:Int))).map (.int .u8)).toArray:=by simp[enc,qD8]
 rw[hp,e] at hload;rw[run_bytesToString w _ _ _ _ hload,zV7];simp
theorem zU3(g o n cap h o' cap':Nat)(a b:List UInt8)(w:World)(tg th:TypeId)(ca cb:Array Value)(fa fb:Nat × Nat)(ha:w.heap[g]?=some (.cells ca tg fa))(hb:w.heap[h]?=some (.cells cb th fb))
  (hpa:qA1 ca o n=enc a) (hpb:qA1 cb o' n=enc b) (hal:o+n≤ca.size) (hbl:o'+n≤cb.size):
  Calls prog 153 #[.slice (some ⟨g,o,none⟩) n cap,.slice (some ⟨h,o',none⟩) n cap'] w fun e w'=>e=.returned (.bool (a == b))∧w'=w:=by
 have h1:=xF0 (cap:=cap) ha hpa hal;have h2:=xF0 (cap:=cap') hb hpb hbl;clear ha hb hpa hpb hal hbl;go_enter func153,ntmps153;go_wp2;go_ret;exact⟨rfl,rfl⟩
def qQ5:List Int→Int
 | []=>0
 | x::xs=>x+256*qQ5 xs
theorem zK7:∀ xs:List Int,(∀ x∈xs,0≤x∧x<256)→0≤qQ5 xs∧qQ5 xs<(256:Int) ^ xs.length
 | [],_=>by simp[qQ5]
 | x::xs,h=>by
  have hx:=h x (by simp);have hi:=zK7 xs (fun y hy=>h y (by simp[hy]));simp only[qQ5,List.length_cons,Int.pow_succ];omega
theorem jO5(n x:Int)(hn:0≤n)(hn2:n<72057594037927936)(hx:0≤x)(hx2:x<256):bits BinOp.or .u64 (IntKind.u64.wrap (n*256)) (IntKind.u64.wrap x)=x+256*n:=by
 have e1:IntKind.u64.wrap (n*256)=n*256:=by simp only[IntKind.wrap_u64];omega
 have e2:IntKind.u64.wrap x=x:=by simp only[IntKind.wrap_u64];omega
 rw[e1,e2,u64_or _ _ (by omega) (by omega) hx (by omega)];obtain⟨a,rfl⟩:=Int.eq_ofNat_of_zero_le hn;obtain⟨b,rfl⟩:=Int.eq_ofNat_of_zero_le hx;have h1:((a:Int)*256).toNat=a <<< 8:=by rw[Nat.shiftLeft_eq];omega
 rw[h1,Int.toNat_natCast,←Nat.shiftLeft_add_eq_or_of_lt (by omega),Nat.shiftLeft_eq];omega
theorem zK5:∀ xs:List Int,(∀ x∈xs,0≤x∧x<256)→xs.length≤8→qE6 xs=qQ5 xs
 | [],_,_=>rfl
 | x::xs,h,hl=>by
  have hx:=h x (by simp);have hh:∀ y∈xs,0≤y∧y<256:=fun y hy=>h y (by simp[hy]);have hb:=zK7 xs hh;have hp:(256:Int) ^ xs.length≤256 ^ 7:=by
   have h7:xs.length≤7:=by simp at hl;omega
   have e:∀ k:Nat,(256:Int) ^ k=((256 ^ k:Nat):Int):=fun k=>by rw[Int.natCast_pow];rfl
   rw[e,e];exact Int.ofNat_le.2 (Nat.pow_le_pow_right (by decide) h7)
  have hp7:(256:Int) ^ 7=72057594037927936:=by decide
  have ih:=zK5 xs hh (by simp at hl;omega);show bits BinOp.or .u64 (IntKind.u64.wrap (qE6 xs*256)) (IntKind.u64.wrap x)=_;rw[ih,jO5 _ _ hb.1 (by omega) hx.1 hx.2];rfl
theorem qJ5:∀ (k:Nat) (n:Int),∀ x∈qB2 k n,0≤x∧x<256
 | 0,_,_,h=>by simp[qB2] at h
 | k+1,n,x,h=>by
  simp only[qB2,List.mem_cons] at h;rcases h with rfl|h
  ·omega
  ·exact qJ5 k _ x h
theorem xC7:∀ (k:Nat) (n:Int),0≤n→n<(256:Int) ^ k→qQ5 (qB2 k n)=n
 | 0,n,h0,h1=>by simp[qB2,qQ5] at *;omega
 | k+1,n,h0,h1=>by
  rw[Int.pow_succ] at h1;have hq:n / 256<(256:Int) ^ k:=by
   generalize (256:Int) ^ k=q at *;omega
  rw[qB2,qQ5,xC7 k _ (by omega) hq];omega
theorem qN0(k:Nat)(n:Int)(hk:k≤8)(h0:0≤n)(h1:n<(256:Int) ^ k):qE6 (qB2 k n)=n:=by
 rw[zK5 _ (qJ5 k n) (by rw[qG1];exact hk),xC7 k n h0 h1]
end Go.Proofs.YtdohpenfkdckiabGreatDoor
