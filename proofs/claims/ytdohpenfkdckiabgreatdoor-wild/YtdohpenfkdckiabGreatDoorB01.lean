import Derived.Deep.RegionHeld
import Derived.Below
import Derived.WalkKit
import Derived.WalkSpells
import Derived.Deep.QuietTactic
import Derived.BigQuiet
import Derived.Test.YtdohpenfkdckiabGreatDoorProg
import Derived.Laws.CopyRow
import Derived.Deep.OwnRows
import Derived.Great.BuildSlice
import Derived.Great.FillDense
import Derived.Deep.RegionLaw
import Derived.Deep.RegionLawGrows
import Derived.Deep.RegionWith
import Derived.Deep.DeepMust
import Derived.Laws.Strings
import Derived.Laws.Cover1
import Derived.Laws.BitsAllLaws
set_option linter.all false
set_option maxRecDepth 100000
set_option maxHeartbeats 20000000
namespace Go.Proofs.YtdohpenfkdckiabGreatDoor
open Go.Proofs.Tryz
open Go.RowKit
theorem zA {α : Type} (l : List α) (i : Nat) (a : α) : l.toArray.setIfInBounds i a = (l.set i a).toArray := List.setIfInBounds_toArray l i a
theorem zB {α : Type} {x : α} {xs : List α} {a : α} : (x :: xs).set 0 a = a :: xs := List.set_cons_zero
theorem zC {α : Type} {x : α} {xs : List α} {n : Nat} {a : α} : (x :: xs).set (n + 1) a = x :: xs.set n a := List.set_cons_succ
theorem zD {α : Type} {xs : List α} {i : Nat} (h : i < xs.toArray.size) : xs.toArray[i] = xs[i]'(by simpa using h) := List.getElem_toArray h
theorem zE {α : Type} {a : α} {l : List α} {i : Nat} {h : i + 1 < (a :: l).length} : (a :: l)[i + 1] = l[i]'(Nat.lt_of_succ_lt_succ h) := List.getElem_cons_succ _ _ _ _
theorem zF {α : Type} {a : α} {l : List α} {h : 0 < (a :: l).length} : (a :: l)[0] = a := List.getElem_cons_zero _ _ _
theorem zG {α : Type} {xs : List α} {i : Nat} : xs.toArray[i]? = xs[i]? := List.getElem?_toArray
theorem zH {α : Type} {a : α} {l : List α} : (a :: l)[0]? = some a := List.getElem?_cons_zero
theorem zI {α : Type} {a : α} {l : List α} {i : Nat} : (a :: l)[i + 1]? = l[i]? := List.getElem?_cons_succ
theorem zM : ∀ (fn : Fn) (first cap : Array Value) (w : World), (Instr.makeFunc fn first cap).run Tryz.prog w = .ok (.func fn first cap) w := fun _ _ _ _ => rfl
section
variable {P:Program} {md:Region.Mode} {ops:Array Oper} {Q:Exit→Act→World→Prop} {S:World→Prop} {oi oj:Oper} {fuel:Nat} {l:Array Bool} {a a':Act} {w:World}
theorem zZ:(∀ (a:Act) (d:Nat) (v:Value),a.put (some d) v={a with tmps:=a.tmps.setIfInBounds d v})∧(∀ (a:Act) (v:Value),a.put none v=a)∧(∀ {α:Type} (l:List α) (i:Nat) (a:α),l.toArray.setIfInBounds i a=(l.set i a).toArray)∧(∀ {α:Type} {x:α} {s:List α} {a:α},(x::s).set 0 a=a::s)∧(∀ {α:Type} {x:α} {s:List α} {n:Nat} {a:α},(x::s).set (n+1) a=x::s.set n a)∧(∀ {α:Type} {s:List α} {i:Nat} (h:i<s.toArray.size),s.toArray[i]=s[i]'(by simpa using h))∧(∀ {α:Type} {a:α} {l:List α} {i:Nat} {h:i+1<(a::l).length},(a::l)[i+1]=l[i]'(Nat.lt_of_succ_lt_succ h))∧(∀ {α:Type} {a:α} {l:List α} {h:0<(a::l).length},(a::l)[0]=a):=⟨fun _ _ _=>rfl,fun _ _=>rfl,zA,zB,zC,zD,zE,zF⟩
theorem zV (i:Nat) (v:Value) (hi:ops[i]?=some oi) (hy:∀ W,S W→(execOp a.eval oi).run P W=.ok (.value v) W) (hS:S w) (h:wpAnyH P md ops Q S fuel (l.setIfInBounds i true) a' w) (hb:(Region.noSelect ops && (Region.free md ops l i && (Region.ready md ops l).contains i))=true:=by kernel_rfl) (hQ:∀ c a w,Q (.panic c) (a.put oi.dst v) w→Q (.panic c) a w:=by exact fun _ _ _ h=>h) (hw:Region.wanted oi (yielded ops a.tmps)=true:=by rfl) (ha:a.put oi.dst v=a':=by simp only [zZ];try exact rfl):wpAnyH P md ops Q S (fuel+1) l a w:=by
 subst ha;simp only [Bool.and_eq_true] at hb;exact wpAnyH_take hi hb.1 hb.2.1 hb.2.2 hQ (.inl ⟨hw,hy⟩) hS h
theorem zU (i:Nat) (v:Value) (hS:S w) (h:wpAnyH P md ops Q S fuel (l.setIfInBounds i true) a' w) (hi:ops[i]?=some oi:=by rfl) (hb:(Region.noSelect ops && (Region.free md ops l i && (Region.ready md ops l).contains i))=true:=by kernel_rfl) (hQ:∀ c a w,Q (.panic c) (a.put oi.dst v) w→Q (.panic c) a w:=by exact fun _ _ _ h=>h) (hw:Region.wanted oi (yielded ops a.tmps)=true:=by rfl) (hy:∀ W,(execOp a.eval oi).run P W=.ok (.value v) W:=by intro W;go_simp) (ha:a.put oi.dst v=a':=by simp only [zZ];try exact rfl):wpAnyH P md ops Q S (fuel+1) l a w:=zV i v hi (fun W _=>hy W) hS h hb hQ hw ha
theorem zu (i:Nat) (v:Value) (h:wpAny P md ops Q fuel (l.setIfInBounds i true) a' w) (hi:ops[i]?=some oi:=by rfl) (hb:(Region.noSelect ops && (Region.free md ops l i && (Region.ready md ops l).contains i))=true:=by kernel_rfl) (hQ:∀ c a w,Q (.panic c) (a.put oi.dst v) w→Q (.panic c) a w:=by exact fun _ _ _ h=>h) (hw:Region.wanted oi (yielded ops a.tmps)=true:=by rfl) (hy:∀ W,(execOp a.eval oi).run P W=.ok (.value v) W:=by intro W;go_simp) (ha:a.put oi.dst v=a':=by simp only [zZ];try exact rfl):wpAny P md ops Q (fuel+1) l a w:=by
 subst ha;simp only [Bool.and_eq_true] at hb;exact wpAny_take hi hb.1 hb.2.1 hb.2.2 hQ (.inl ⟨hw,hy⟩) h
theorem zP (i q k:Nat) (hS:S w) (h:wpAnyH P md ops Q S fuel (l.setIfInBounds i true) a' w) (hi:ops[i]?=some oi:=by rfl) (hb:(Region.noSelect ops && (Region.free md ops l i && (Region.ready md ops l).contains i))=true:=by kernel_rfl) (hQ:∀ c a w,Q (.panic c) (a.put oi.dst (.pointer (some ⟨q,k,none⟩))) w→Q (.panic c) a w:=by exact fun _ _ _ h=>h) (hw:Region.wanted oi (yielded ops a.tmps)=true:=by rfl) (hy:∀ W,(execOp a.eval oi).run P W=.ok (.value (.pointer (some ⟨q,k,none⟩))) W:=by intro W;go_simp) (ha:a.put oi.dst (.pointer (some ⟨q,k,none⟩))=a':=by simp only [zZ];try exact rfl):wpAnyH P md ops Q S (fuel+1) l a w:=zV i _ hi (fun W _=>hy W) hS h hb hQ hw ha
theorem zq (i:Nat) (h:∀ K':Act→World→Prop,Shut (∀ a w,S w→(S w→wpAnyH P md ops Q S fuel (l.setIfInBounds i true) a w)→K' a w)→if Region.wanted oi (yielded ops a.tmps)=true then Oper.wp P oi a w K' Q else K' (a.put oi.dst undef) w) (ho:ops[i]?=some oi:=by rfl) (hr:Region.ready md ops l=[i]:=by kernel_rfl):wpAnyH P md ops Q S (fuel+1) l a w:=wpAnyH_ready hr (by simp) (AllReadyH.cons ho h AllReadyH.nil)
theorem zr (i j:Nat) (h:∀ K':Act→World→Prop,Shut (∀ a w,S w→(S w→wpAnyH P md ops Q S fuel (l.setIfInBounds i true) a w)→K' a w)→if Region.wanted oi (yielded ops a.tmps)=true then Oper.wp P oi a w K' Q else K' (a.put oi.dst undef) w) (h2:∀ K':Act→World→Prop,Shut (∀ a w,S w→(S w→wpAnyH P md ops Q S fuel (l.setIfInBounds j true) a w)→K' a w)→if Region.wanted oj (yielded ops a.tmps)=true then Oper.wp P oj a w K' Q else K' (a.put oj.dst undef) w) (ho:ops[i]?=some oi:=by rfl) (ho2:ops[j]?=some oj:=by rfl) (hr:Region.ready md ops l=[i,j]:=by kernel_rfl):wpAnyH P md ops Q S (fuel+1) l a w:=wpAnyH_ready hr (by simp) (AllReadyH.cons ho h (AllReadyH.cons ho2 h2 AllReadyH.nil))
theorem zQ (i:Nat) (h:∀ K':Act→World→Prop,(∀ a w,wpAny P md ops Q fuel (l.setIfInBounds i true) a w→K' a w)→if Region.wanted oi (yielded ops a.tmps)=true then Oper.wp P oi a w K' Q else K' (a.put oi.dst undef) w) (ho:ops[i]?=some oi:=by rfl) (hr:Region.ready md ops l=[i]:=by kernel_rfl):wpAny P md ops Q (fuel+1) l a w:=wpAny_ready hr (by simp) (AllReady.cons ho h AllReady.nil)
theorem zd (h:Q .normal a w) (hr:Region.ready md ops l=[]:=by kernel_rfl):wpAnyH P md ops Q S fuel l a w:=wpAnyH_done hr h _
theorem zh {p:Prop} (h:p):RowKit.Hid p:=h
end
structure Kp(S:List Nat)(w w':World):Prop where
 os:w'.os=w.os
 tape:w'.tape=w.tape
 output:w'.output=w.output
 size:w.heap.size≤w'.heap.size
 block:∀ k,k<w.heap.size→k ∉ S→w'.heap[k]?=w.heap[k]?
theorem ζ{w:World}{k:Nat}{o:Obj}(h:w.heap[k]?=some o):k<w.heap.size:=(Array.getElem?_eq_some_iff.1 h).1
theorem Kp.refl(S:List Nat)(w:World):Kp S w w:=⟨rfl,rfl,rfl,Nat.le_refl _,fun _ _ _=>rfl⟩
theorem Kp.trans{S S':List Nat}{a b c:World}(h:Kp S a b)(k:Kp S' b c)(hS:∀ i,i∈S'→i<a.heap.size→i∈S):Kp S a c:=
 ⟨k.os.trans h.os,k.tape.trans h.tape,k.output.trans h.output,Nat.le_trans h.size k.size,fun i hi hn=>
  (k.block i (Nat.lt_of_lt_of_le hi h.size) (fun hm=>hn (hS i hm hi))).trans (h.block i hi hn)⟩
theorem Kp.mono{S S':List Nat}{a b:World}(h:Kp S a b)(hS:∀ i,i∈S→i<a.heap.size→i∈S'):Kp S' a b:=
 ⟨h.os,h.tape,h.output,h.size,fun i hi hn=>h.block i hi (fun hm=>hn (hS i hm hi))⟩
theorem Kp.drew{S:List Nat}{a b:World}(h:Kp S a b):Kp S a b.drew:=⟨h.os,h.tape,h.output,h.size,h.block⟩
theorem Kp.drewN{S:List Nat}{a b:World}(h:Kp S a b)(n:Nat):Kp S a (b.drewN n):=⟨h.os,h.tape,h.output,h.size,h.block⟩
theorem Kp.alloc{S:List Nat}{a b:World}(h:Kp S a b)(o:Obj):Kp S a (b.alloc o):=
 ⟨h.os,h.tape,h.output,by have:=h.size;simp;omega,fun k hk hn=>(Below.heap_alloc _ _ _ (Nat.lt_of_lt_of_le hk h.size)).trans (h.block k hk hn)⟩
theorem Kp.setCell{S:List Nat}{a b:World}(h:Kp S a b){p:Addr}(hp:p.block∈S∨a.heap.size≤p.block)(u:Value):Kp S a (b.setCell p u):=
 ⟨h.os,h.tape,h.output,by have:=h.size;simp[World.setCell];omega,fun k hk hn=>(Below.heap_setCell _ _ _ _ (by
  rcases hp with hp|hp
  ·intro e;subst e;exact hn hp
  ·omega)).trans (h.block k hk hn)⟩
theorem Kp.grown{S:List Nat}{a b c:World}{row:Option Nat}(h:Kp S a b)(hg:b.grownBy c row)(hr:∀ k,row=some k→k∈S∨a.heap.size≤k):Kp S a c:=
 ⟨hg.os.trans h.os,hg.tape.trans h.tape,hg.output.trans h.output,Nat.le_trans h.size hg.size,fun k hk hn=>
  (hg.block k (Nat.lt_of_lt_of_le hk h.size) (fun e=>by rcases hr k e.symm with h1 | h1;exact hn h1;omega)).trans (h.block k hk hn)⟩
theorem Kp.of_below{B:Nat}{w w':World}(h:Below B w w')(hB:w.heap.size≤B):Kp [] w w':=
 ⟨h.os,h.tape,h.output,h.size,fun k hk _=>h.block k (by omega)⟩
theorem Kp.below{S:List Nat}{B:Nat}{w w':World}(h:Kp S w w')(hB:B≤w.heap.size)(hS:∀ k,k∈S→B≤k):Below B w w':=
 ⟨h.os,h.tape,h.output,h.size,fun k hk=>h.block k (by omega) (fun hm=>by have:=hS k hm;omega)⟩
theorem Kp.heap{S:List Nat}{w w':World}(h:Kp S w w'){k:Nat}{o:Obj}(hk:w.heap[k]?=some o)(hn:k ∉ S):w'.heap[k]?=some o:=
 (h.block k (ζ hk) hn).trans hk
theorem ξ{w:World}{b:Nat}{c:Array Value}{t:TypeId}{fr:Nat × Nat}(h:w.heap[b]?=some (.cells c t fr))(o:Nat):w.cell? ⟨b,o,none⟩=c[o]?:=by
 simp[World.cell?,h]
theorem ρ{w:World}{b:Nat}{c:Array Value}{t:TypeId}(h:w.heap[b]?=some (.cells c t))(o:Nat):w.frozen? ⟨b,o,none⟩=false:=by
 simp[World.frozen?,h]
theorem ω{w:World}{b:Nat}{c:Array Value}{t:TypeId}{fr:Nat × Nat}(h:w.heap[b]?=some (.cells c t fr))(o:Nat)(v:Value):(w.setCell ⟨b,o,none⟩ v).heap[b]?=some (.cells (c.setIfInBounds o v) t fr):=by
 simp[World.setCell,Array.getElem?_modify,h]
theorem qA7{w:World}{b k:Nat}(hk:k≠b)(o:Nat)(v:Value):(w.setCell ⟨b,o,none⟩ v).heap[k]?=w.heap[k]?:=Below.heap_setCell _ _ _ _ hk
theorem μ(w:World)(o:Obj):(w.alloc o).heap[w.heap.size]?=some o:=by
 show (w.heap.push o)[w.heap.size]?=_;simp
theorem θ{w:World}(o:Obj){k:Nat}{x:Obj}(h:w.heap[k]?=some x):(w.alloc o).heap[k]?=some x:=(Below.heap_alloc _ _ _ (ζ h)).trans h
theorem Kp.hp {S:List Nat} {w w':World} (h:Kp S w w') {k:Nat} {o:Obj} (hk:w.heap[k]?=some o) (hn:k∉S:=by simp):w'.heap[k]?=some o:=h.heap hk hn
theorem Kp.ho {S:List Nat} {w w':World} (h:Kp S w w') {k:Nat} {o:Obj} (hk:w.heap[k]?=some o) (hn:k∉S:=by simp;omega):w'.heap[k]?=some o:=h.heap hk hn
theorem Kp.tr {S S':List Nat} {a b c:World} (h:Kp S a b) (k:Kp S' b c) (hS:∀ i,i∈S'→i<a.heap.size→i∈S:=by simp):Kp S a c:=h.trans k hS
theorem Kp.sc {S:List Nat} {a b:World} (h:Kp S a b) {p:Addr} (u:Value) (hp:p.block∈S∨a.heap.size≤p.block:=by simp):Kp S a (b.setCell p u):=h.setCell hp u
section
variable {P:Program} {md:Region.Mode} {ops:Array Oper} {Q:Exit→Act→World→Prop} {S:World→Prop} {oi oj:Oper} {fuel:Nat} {l:Array Bool} {a a':Act} {w:World}
theorem zW (i:Nat) (v:Value) (hS:S w) {b:Nat} {c:Array Value} {t:TypeId} {fr:Nat × Nat} (hc:∀ {W},S W→W.heap[b]?=some (.cells c t fr)) (h:wpAnyH P md ops Q S fuel (l.setIfInBounds i true) a' w) (hi:ops[i]?=some oi:=by rfl) (hb:(Region.noSelect ops && (Region.free md ops l i && (Region.ready md ops l).contains i))=true:=by kernel_rfl) (hQ:∀ c a w,Q (.panic c) (a.put oi.dst v) w→Q (.panic c) a w:=by exact fun _ _ _ h=>h) (hw:Region.wanted oi (yielded ops a.tmps)=true:=by rfl) (hy:∀ W,(∀ o,W.cell? ⟨b,o,none⟩=c[o]?)→(execOp a.eval oi).run P W=.ok (.value v) W:=by intro W h;go_simp) (ha:a.put oi.dst v=a':=by simp only [zZ];try exact rfl):wpAnyH P md ops Q S (fuel+1) l a w:=zV i v hi (fun W h=>hy W (ξ (hc h))) hS h hb hQ hw ha
end
def qI8(s x:Int):Int:=IntKind.u64.wrap (bits BinOp.xor .u64 s (IntKind.u64.wrap x)*1099511628211)
def fnv(xs:List Int):Int:=xs.foldl qI8 14695981039346656037
theorem xY4(xs:List Int)(k:Nat)(h:k<xs.length):fnv (xs.take (k+1))=qI8 (fnv (xs.take k)) xs[k]:=by
 unfold fnv;rw[List.take_succ_eq_append_getElem h,List.foldl_append];rfl
theorem qL1{k:IntKind}{a b:Int}(h:a=b):Ending.returned (.int k a)=.returned (.int k b):=by rw[h]
theorem qY5(b off len cap:Nat)(xs:List Int)(w:World)(hx:xs.length=len)(hbig:len≤1000000)
  (hc:∀ j,j<len→w.cell? ⟨b,off+j,none⟩=some (.int .u8 (xs.getD j 0))):
  Calls prog 165 #[.slice (some ⟨b,off,none⟩) len cap] w fun e w'=>e=.returned (.int .u64 (fnv xs))∧w'=w:=by
 go_enter func165,ntmps165;go_wp2
 go_loop [3,8] (fun s i=>∃ (k:Nat),k≤len∧i=.int .i64 k∧s=.int .u64 (fnv (xs.take k))) (fun _ i=>len-(intOf i).toNat)
 case atStart=>exact⟨0,Nat.zero_le _,rfl,rfl⟩
 case round=>
  obtain⟨k,hk,rfl,rfl⟩:=hrel;by_cases hlt:k<len
  ·have hck:=hc k hlt;have hs:=xY4 xs k (by omega);have HS:=zh hs;clear hs;go_wp2;refine⟨⟨k+1,by omega,by go_num,by rw[HS.out];rfl⟩,by simp[intOf];omega⟩
  ·go_wp2;go_ret;exact⟨qL1 (by rw[List.take_of_length_le (by omega)]),rfl⟩
def qE4(xs:List Int):Int:=xs.foldr (fun x n=>bits BinOp.or .u64 (IntKind.u64.wrap (n*256)) (IntKind.u64.wrap x)) 0
theorem qV1(b off len cap:Nat)(xs:List Int)(w:World)(hx:xs.length=len)(hbig:len≤1000000)
  (hc:∀ j,j<len→w.cell? ⟨b,off+j,none⟩=some (.int .u8 (xs.getD j 0))):
  Calls prog 152 #[.slice (some ⟨b,off,none⟩) len cap] w fun e w'=>e=.returned (.int .u64 (qE4 xs))∧w'=w:=by
 go_enter func152,ntmps152;go_wp2
 go_loop [3,4] (fun n i=>∃ (k:Nat),k≤len∧i=.int .i64 ((k:Int)-1)∧n=.int .u64 (qE4 (xs.drop k))) (fun _ i=>(intOf i+1).toNat)
 case atStart=>exact⟨len,Nat.le_refl _,by go_num,by rw[List.drop_of_length_le (by omega)];rfl⟩
 case round=>
  obtain⟨k,hk,rfl,rfl⟩:=hrel;by_cases hlt:0<k
  ·obtain⟨j,rfl⟩:∃ j,k=j+1:=⟨k-1,by omega⟩;have hck:=hc j (by omega);have HS:Hid (qE4 (xs.drop j)=bits BinOp.or .u64 (IntKind.u64.wrap (qE4 (xs.drop (j+1))*256)) (IntKind.u64.wrap (xs[j]?.getD 0))):=by
    have hj:j<xs.length:=by omega
    show _=_;rw[List.drop_eq_getElem_cons hj,List.getElem?_eq_getElem hj];rfl
   go_wp2;refine⟨⟨j,by omega,rfl,by rw[HS.out]⟩,by simp[intOf]⟩
  ·have hz:k=0:=by omega
   subst hz;have ht:decide ((0:Int)≤((0:Nat):Int)-1)=false:=by decide
   go_wp2;go_ret;exact⟨qL1 (by simp),rfl⟩
def qB0:Nat→Int→List Int
 | 0,_=>[]
 | k+1,n=>n % 256::qB0 k (n / 256)
theorem qG5(k:Nat)(n:Int):(qB0 k n).length=k:=by induction k generalizing n<;>simp_all [qB0]
def u8s(xs:List Int):List Value:=xs.map (.int .u8)
theorem zJ7(k:Nat)(n:Int):qB0 (k+1) n=qB0 k n++[n / (256:Int) ^ k % 256]:=by
 induction k generalizing n with
 | zero=>simp[qB0]
 | succ k ih=>
  rw[qB0,ih (n / 256),qB0];simp only[List.cons_append];rw[Int.ediv_ediv_of_nonneg (by decide),Int.pow_succ,Int.mul_comm]
theorem qI3{w:World}{base:Nat}{e:TypeId}{sz:Nat}{v:Value}{n:Nat}{xs:List Value}(h:w.ownsRow base e sz v n xs):∀ k,v.ownBlock=some k→base≤k:=by
 obtain⟨_,h2⟩:=h;rcases h2 with⟨rfl,_⟩|⟨g,cap,cur,rfl,hg,_⟩
 ·intro k hk;cases hk
 ·intro k hk;cases hk;exact hg
theorem Tryz.info5:(prog.info? 5).map (fun i=>(i.zero,i.size,i.bytes))=some (some (.int .u8 0),1,1):=by kernel_rfl
theorem zG2(v:Value)(base k:Nat)(xs:List Int)(n:Int)(m:Nat)(w:World)(hx:k≤1000)(hm:m≤100)(hn:0≤n)
  (hb:base≤w.heap.size) (hown:w.ownsRow base 5 1 v k (u8s xs)):
  Calls prog 177 #[v,.int .u64 n,.int .i64 m] w fun e w'=>∃ v',e=.returned v'∧w'.ownsRow base 5 1 v' (k+m) (u8s (xs++qB0 m n))∧Below base w w':=by
 obtain⟨i0,hi,hz0,hz1,hz2⟩:=info_parts Tryz.info5;go_enter func177,ntmps177;go_wp2
 go_loopw [0,1,8] (fun s q i wr=>∃ (j:Nat) (v':Value) (nj:Int),j≤m∧i=.int .i64 j∧q=.int .u64 nj∧nj=n / (256:Int) ^ j∧0≤nj∧nj≤n∧s=v'∧wr.ownsRow base 5 1 v' (k+j) (u8s (xs++qB0 j n))∧Below base w wr) (fun _ _ i _=>m-(intOf i).toNat)
 case atStart=>exact⟨0,v,n,Nat.zero_le _,rfl,rfl,by simp,hn,Int.le_refl _,rfl,by simpa [qB0] using hown,Below.refl _ _⟩
 case round=>
  obtain⟨j,v',nj,hj,rfl,rfl,hnj,hnj0,hnj1,rfl,hownr,hbl⟩:=hrel;have HN:=zh hnj;clear hnj;by_cases hlt:j<m
  ·go_wp2_with (at_builtin;refine wpList_append_own _ rfl _ _ 90 rfl base 5 i0 (.int .u8 0) 1 1 underlying90 hi hz0 hz1 hz2 rfl (by decide) _ _ _ rfl (hownr.alloc _) ⟨wr.heap.size,0,none⟩ 1 1 [.int .u8 (nj % 256)] rfl rfl (cell_one_new _ _ _) (by simp[Value.oneCell']) (by unfold maxLen;omega) (by omega) (by have:=hbl.size;simp;omega) ?_;intro v1 w1 hown1 hgrow1 _)
   refine⟨⟨j+1,v1,nj / 256,by omega,by go_num,rfl,?_,by omega,by omega,rfl,?_,?_⟩,by simp[intOf];omega⟩
   ·rw[HN.out,Int.ediv_ediv_of_nonneg (by exact Int.pow_nonneg (by decide)),Int.pow_succ]
   ·have e1:u8s (xs++qB0 (j+1) n)=u8s (xs++qB0 j n)++[.int .u8 (nj % 256)]:=by rw[zJ7,←HN.out];simp[u8s]
    rw[e1];exact hown1
   ·exact (hbl.alloc (by have:=hbl.size;omega) _).grown hgrow1 (by have:=hbl.size;simp;omega) (qI3 hownr)
  ·go_wp2;go_ret;have e:j=m:=by omega
   subst e;exact⟨_,rfl,hownr,hbl⟩
def qA2(cs:Array Value)(o n:Nat):Array Value:=((cs.toList.drop o).take n).toArray
def qD3(cs:Array Value)(o:Nat)(p:Array Value):Array Value:=(cs.toList.take o++p.toList++cs.toList.drop (o+p.size)).toArray
theorem qO3{cs:Array Value}{o n:Nat}(h:o+n≤cs.size):(qA2 cs o n).size=n:=by simp[qA2];omega
theorem qW1{cs:Array Value}{o n j:Nat}(h:j<n):(qA2 cs o n)[j]?=cs[o+j]?:=by
 simp[qA2,List.getElem?_take,h]
theorem Kp.setRow{S:List Nat}{a b:World}(h:Kp S a b){g:Nat}(hp:g∈S∨a.heap.size≤g)(cs:Array Value):Kp S a (b.setRow g cs):=
 ⟨h.os,h.tape,h.output,by have:=h.size;simp[World.setRow];omega,fun k hk hn=>(setRow_other _ _ _ _ (by
  rcases hp with hp|hp
  ·intro e;subst e;exact hn hp
  ·omega)).trans (h.block k hk hn)⟩
theorem qJ2{w:World}{base:Nat}{e:TypeId}{sz:Nat}{v:Value}{n:Nat}{xs:List Value}(h:w.ownsRow base e sz v (n+1) xs):∃ g cap,v=.slice (some ⟨g,0,none⟩) (n+1) cap:=by
 obtain⟨_,h2⟩:=h;rcases h2 with⟨_,h0⟩|⟨g,cap,cur,rfl,_⟩
 ·cases h0
 ·exact⟨g,cap,rfl⟩
section
variable {P:Program} {w:World} {ops:Array Oper} {rest:List Oper} {a:Act} {Q:Exit→Act→World→Prop} {dst:Option Tmp} {ty:TypeId} {pos:String} {aft:Array Edge}
theorem qM1(b o j:Nat):(⟨b,o,none⟩:Addr).add j=⟨b,o+j,none⟩:=by unfold Addr.add;split<;>simp_all
theorem qR3{t t' e:TypeId}(ty:TypeId)(hu:P.underlying t=some (.slice e))(hs:(P.info? e).map (·.size)=some 1)
  {g o dLen dCap b so sLen sCap:Nat} (n:Nat) (hn:n=Nat.min sLen dLen)
  {cur src:Array Value} {tg tb:TypeId} {fr:Nat × Nat} (hg:w.heap[g]?=some (.cells cur tg)) (hb:w.heap[b]?=some (.cells src tb fr)) (hfit:o+n≤cur.size) (hin:so+n≤src.size)
  (h1:∀ v∈(qA2 src so n).toList,v.oneCell'=true):
  Sem.run P (Builtin.copy_ #[t,t'] ty #[.slice (some ⟨g,o,none⟩) dLen dCap,.slice (some ⟨b,so,none⟩) sLen sCap]) w=.ok (.int .i64 n) (w.setRow g (qD3 cur o (qA2 src so n))):=by
 have hsz:=qO3 (cs:=src) hin;have hr:=run_copy_row P w t t' ty e g o dLen dCap ⟨b,so,none⟩ sLen sCap cur tg (qA2 src so n).toList hu hs hg (by rw[Array.length_toList,hsz,hn]) (fun j v hj=>by
  rw[qM1,ξ hb];have hlt:j<n:=by
   have:=(List.getElem?_eq_some_iff.1 hj).1;simp[hsz] at this;exact this
  rw[←qW1 hlt];simpa using hj) (by simp[hsz];omega) h1
 have e1:goInt ((qA2 src so n).toList.length:Int)=.int .i64 n:=by simp[goInt,hsz]
 have e2:(cur.toList.take o++(qA2 src so n).toList++cur.toList.drop (o+(qA2 src so n).toList.length)).toArray=qD3 cur o (qA2 src so n):=by simp[qD3]
 rw[hr,e1,e2]
theorem qM0{g o:Nat}{t:TypeId}{vs:List Value}{cur:Array Value}(hg:w.heap[g]?=some (.cells cur t))(hfit:o+vs.length≤cur.size)(h1:∀ v∈vs,v.oneCell'=true):
  Sem.run P (storeCells ⟨g,o,none⟩ vs) w=.ok () (w.setRow g (qD3 cur o vs.toArray)):=by
 have hr:=run_storeCells_at P g o t vs 0 cur w hg (by simpa using hfit) h1;rw[hr];simp[qD3]
theorem qZ4{b o n:Nat}{src:Array Value}{tb:TypeId}{fr:Nat × Nat}(hb:w.heap[b]?=some (.cells src tb fr))(hin:o+n≤src.size):
  Sem.run P (loadCells ⟨b,o,none⟩ n) w=.ok (qA2 src o n) w:=by
 have hsz:=qO3 (cs:=src) hin;have hl:=run_loadCells_list (P:=P) w ⟨b,o,none⟩ (qA2 src o n).toList (fun j v hj=>by
  rw[qM1,ξ hb];have hlt:j<n:=by
   have:=(List.getElem?_eq_some_iff.1 hj).1;simp[hsz] at this;exact this
  rw[←qW1 hlt];simpa using hj)
 simpa [hsz] using hl
theorem qJ9{o:Oper}{v:Value}{w':World}{K:Act→World→Prop}{E:Prop}(hg:o.guard=none)(hr:Sem.run P (execOp a.eval o) w=.ok (.value v) w')(hK:K (a.put o.dst v) w'):
  if Region.wanted o (yielded ops a.tmps)=true then Oper.wp P o a w K Q else E:=by
 have hw:Region.wanted o (yielded ops a.tmps)=true:=by simp[Region.wanted,hg]
 rw[if_pos hw];unfold Oper.wp;rw[hr];exact hK
theorem zN9{o:Oper}{w':World}{K:Act→World→Prop}{E:Prop}(hg:o.guard=none)(hr:Sem.run P (execOp a.eval o) w=.ok .skip w')(hK:K (a.put o.dst undef) w'):
  if Region.wanted o (yielded ops a.tmps)=true then Oper.wp P o a w K Q else E:=by
 have hw:Region.wanted o (yielded ops a.tmps)=true:=by simp[Region.wanted,hg]
 rw[if_pos hw];unfold Oper.wp;rw[hr];exact hK
theorem zT1{o:Oper}{x:Operand}{t:TypeId}(ho:o.op=.load t x)(qK9:(match P.underlying t with | some (.struct _)=>true | some (.array _ _)=>true | _=>false)=true)(n:Nat)(hs:(P.info? t).map (·.size)=some n)
  (b o':Nat) (hx:a.eval x=.pointer (some ⟨b,o',none⟩)) {src:Array Value} {tb:TypeId} {fr:Nat × Nat} (hb:w.heap[b]?=some (.cells src tb fr)) (hin:o'+n≤src.size):
  Sem.run P (execOp a.eval o) w=.ok (.value (.agg (qA2 src o' n))) w:=by
 have hl':=qZ4 (P:=P) hb hin;obtain⟨i,hi,hin'⟩:=Option.map_eq_some_iff.1 hs;have hrun:Sem.run P (Instr.loadAt t (.pointer (some ⟨b,o',none⟩))) w=.ok (.agg (qA2 src o' n)) w:=by
  cases hd:P.underlying t with
  | none=>simp[hd] at qK9
  | some d=>cases d<;>simp[hd] at qK9<;>simp[Instr.loadAt,Instr.sureAddr,loadVar,isAgg,run_underlying hd,Go.sizeOf,typeInfo,hi,hin',hl']
 unfold execOp;simp only[ho,Sem.run_bind,Sem.run_pure,Result.andThen_ok,hx,hrun]
theorem xV7{o:Oper}{s x:Operand}{t e:TypeId}(ho:o.op=.call { callee:=.builtin .append,args:=#[s,x],argTypes:=#[t,t] })(z:Value)(size bytes:Nat)(ht:P.underlying t=some (.slice e))(hi:(P.info? e).map (fun i=>(i.zero,i.size,i.bytes))=some (some z,size,bytes))
  (hzs:z.cells.size=size) (hsz:0<size) (base:Nat) (v:Value) (n:Nat) (xs:List Value) (hs:a.eval s=v) (hown:w.ownsRow base e size v n xs)
  (b so m c:Nat) (src:Array Value) (tb:TypeId) (fr:Nat × Nat) (hx:a.eval x=.slice (some ⟨b,so,none⟩) m c) (hb:w.heap[b]?=some (.cells src tb fr)) (hin:so+m*size≤src.size)
  (h1:∀ u∈(qA2 src so (m*size)).toList,u.oneCell'=true) (h63:n+m≤1000000000) (hbytes:(n+m)*bytes≤140737488355328) (hbase:base≤w.heap.size):
  ∃ v' w',Sem.run P (execOp a.eval o) w=.ok (.value v') w'∧w'.ownsRow base e size v' (n+m) (xs++(qA2 src so (m*size)).toList)∧w.grownBy w' v.ownBlock∧(v'=.slice none 0 0↔v=.slice none 0 0∧m=0):=by
 obtain⟨i,hi',hz⟩:=Option.map_eq_some_iff.1 hi;simp only[Prod.mk.injEq] at hz;obtain⟨hz,hsz',hby⟩:=hz;have hps:=qO3 (cs:=src) hin;obtain⟨v',w',hr,r1,r2,r3⟩:=run_append_own (P:=P) w base t o.type e i z size bytes ht hi' hz hsz' hby hzs hsz v n xs hown ⟨b,so,none⟩ m c (qA2 src so (m*size)).toList (by simpa using hps) (fun j u hj=>by
  rw[qM1,ξ hb];have hlt:j<m*size:=by
   have:=(List.getElem?_eq_some_iff.1 hj).1;simp[hps] at this;exact this
  rw[←qW1 hlt];simpa using hj) h1 (by unfold maxLen;omega) hbytes hbase
 refine⟨v',w',?_,r1,r2,r3⟩;unfold execOp;simp only[ho,resolve,invoke,builtin,Sem.run_bind,Sem.run_pure,Result.andThen_ok,List.map_toArray,List.map_cons,List.map_nil,hs,hx,hr]
theorem qK3{o:Oper}{x:Operand}{t:TypeId}(ho:o.op=.load t x)(qK9:(match P.underlying t with | some (.struct _)=>true | some (.array _ _)=>true | _=>false)=true)(n:Nat)(hs:(P.info? t).map (·.size)=some n)
  (b:Nat) (hx:a.eval x=.pointer (some ⟨b,0,none⟩)) {src:Array Value} {tb:TypeId} {fr:Nat × Nat} (hb:w.heap[b]?=some (.cells src tb fr)) (hin:src.size=n):
  Sem.run P (execOp a.eval o) w=.ok (.value (.agg src)) w:=by
 have h:=zT1 (P:=P) ho qK9 n hs b 0 hx hb (by omega);have e:qA2 src 0 n=src:=by rw[←hin];simp[qA2,List.take_of_length_le]
 rw[e] at h;exact h
theorem qM4{o:Oper}{K:Act→World→Prop}{E:Prop}(hg:o.guard=none){s x:Operand}{t e:TypeId}(ho:o.op=.call { callee:=.builtin .append,args:=#[s,x],argTypes:=#[t,t] })(z:Value)(size bytes:Nat)(ht:P.underlying t=some (.slice e))(hi:(P.info? e).map (fun i=>(i.zero,i.size,i.bytes))=some (some z,size,bytes))
  (hzs:z.cells.size=size) (hsz:0<size) (base:Nat) (v:Value) (n:Nat) (xs:List Value) (hs:a.eval s=v) (hown:w.ownsRow base e size v n xs)
  (b so m c:Nat) (src:Array Value) (tb:TypeId) (fr:Nat × Nat) (hx:a.eval x=.slice (some ⟨b,so,none⟩) m c) (hb:w.heap[b]?=some (.cells src tb fr)) (hin:so+m*size≤src.size)
  (h1:∀ u∈(qA2 src so (m*size)).toList,u.oneCell'=true) (h63:n+m≤1000000000) (hbytes:(n+m)*bytes≤140737488355328) (hbase:base≤w.heap.size)
  (hK:∀ v' w',w'.ownsRow base e size v' (n+m) (xs++(qA2 src so (m*size)).toList)→w.grownBy w' v.ownBlock→(v'=.slice none 0 0↔v=.slice none 0 0∧m=0)→K (a.put o.dst v') w'):
  if Region.wanted o (yielded ops a.tmps)=true then Oper.wp P o a w K Q else E:=by
 obtain⟨v',w',hr,r1,r2,r3⟩:=xV7 (P:=P) ho z size bytes ht hi hzs hsz base v n xs hs hown b so m c src tb fr hx hb hin h1 h63 hbytes hbase;exact qJ9 hg hr (hK v' w' r1 r2 r3)
theorem zT2{o:Oper}{x:Operand}{t:TypeId}(ho:o.op=.load t x)(qK9:(match P.underlying t with | some (.struct _)=>true | some (.array _ _)=>true | _=>false)=true)(n:Nat)(hs:(P.info? t).map (·.size)=some n)
  (b o':Nat) (hx:a.eval x=.pointer (some ⟨b,o',none⟩)) {src r:Array Value} {tb:TypeId} {fr:Nat × Nat} (hb:w.heap[b]?=some (.cells src tb fr)) (hin:o'+n≤src.size) (hr:qA2 src o' n=r):
  Sem.run P (execOp a.eval o) w=.ok (.value (.agg r)) w:=hr ▸ zT1 ho qK9 n hs b o' hx hb hin
theorem zT3{o:Oper}{x y:Operand}{t:TypeId}(ho:o.op=.store t x y)(vs:Array Value)(hs:(P.info? t).map (·.size)=some vs.size)
  (b o':Nat) (hx:a.eval x=.pointer (some ⟨b,o',none⟩)) (hy:a.eval y=.agg vs) {cur:Array Value} {tb:TypeId} (hb:w.heap[b]?=some (.cells cur tb)) (hin:o'+vs.size≤cur.size)
  (h1:∀ v∈vs.toList,v.oneCell'=true):Sem.run P (execOp a.eval o) w=.ok .skip (w.setRow b (qD3 cur o' vs)):=by
 obtain⟨i,hi,hin'⟩:=Option.map_eq_some_iff.1 hs;have hr:=qM0 (P:=P) (w:=w) (o:=o') (vs:=vs.toList) hb (by simpa using hin) h1;have hrun:Sem.run P (Instr.storeAt t (.pointer (some ⟨b,o',none⟩)) (.agg vs)) w=.ok () (w.setRow b (qD3 cur o' vs)):=by
  simp[Instr.storeAt,Instr.sureAddr,storeVar,Go.sizeOf,typeInfo,hi,hin',Value.cells,hr]
 unfold execOp;simp only[ho,Sem.run_bind,Sem.run_pure,Result.andThen_ok,hx,hy,hrun]
theorem qQ1{x:Operand}{t:TypeId}(qK9:(match P.underlying t with | some (.struct _)=>true | some (.array _ _)=>true | _=>false)=true)(n:Nat)(hs:(P.info? t).map (·.size)=some n)
  (b o:Nat) (hx:a.eval x=.pointer (some ⟨b,o,none⟩)) (src:Array Value) (tb:TypeId) (fr:Nat × Nat) (hb:w.heap[b]?=some (.cells src tb fr)) (hin:o+n≤src.size)
  (h:wpList P ops Q rest (a.put dst (.agg (qA2 src o n))) w):
  wpList P ops Q (⟨dst,.load t x,ty,pos,aft,none⟩::rest) a w:=by
 refine wpList_plain rfl fun K hK=>?_;have hk:=hK _ _ h;have hsz:=qO3 (cs:=src) hin;have hl:=run_loadCells_list (P:=P) w ⟨b,o,none⟩ (qA2 src o n).toList (fun j v hj=>by
  rw[qM1,ξ hb];have hlt:j<n:=by
   have:=(List.getElem?_eq_some_iff.1 hj).1;simp[hsz] at this;exact this
  rw[←qW1 hlt];simpa using hj)
 obtain⟨i,hi,hin'⟩:=Option.map_eq_some_iff.1 hs;have hl':Sem.run P (loadCells ⟨b,o,none⟩ n) w=.ok (qA2 src o n) w:=by simpa [hsz] using hl
 have hrun:Sem.run P (Instr.loadAt t (.pointer (some ⟨b,o,none⟩))) w=.ok (.agg (qA2 src o n)) w:=by
  cases hd:P.underlying t with
  | none=>simp[hd] at qK9
  | some d=>cases d<;>simp[hd] at qK9<;>simp[Instr.loadAt,Instr.sureAddr,loadVar,isAgg,run_underlying hd,Go.sizeOf,typeInfo,hi,hin',hl']
 unfold Oper.wp execOp;simp only[Sem.run_bind,Sem.run_pure,Result.andThen_ok,hx,hrun];exact hk
theorem jT8{t e:TypeId}{l c:Operand}(z:Value)(size bytes:Nat)(ht:P.underlying t=some (.slice e))(hi:(P.info? e).map (fun i=>(i.zero,i.size,i.bytes))=some (some z,size,bytes))
  (kl kc:IntKind) (n:Nat) (hl:a.eval l=.int kl n) (hc:a.eval c=.int kc n) (hb:bytes*n≤281474976710656) (hn:n≤1000000000)
  (h:wpList P ops Q rest (a.put dst (.slice (some ⟨w.heap.size,0,none⟩) n n)) (w.alloc (.cells (madeCells z.cells (n*size)) e))):
  wpList P ops Q (⟨dst,.makeSlice t l c,ty,pos,aft,none⟩::rest) a w:=by
 refine wpList_plain rfl fun K hK=>?_;have hk:=hK _ _ h;obtain⟨i,hi',hz⟩:=Option.map_eq_some_iff.1 hi;simp only[Prod.mk.injEq] at hz;obtain⟨hz,hsz,hby⟩:=hz;have hb':(i.bytes:Int)*(n:Int)≤281474976710656:=by
  rw[hby];have h:((bytes*n:Nat):Int)≤281474976710656:=by omega
  rwa [Int.natCast_mul] at h
 have hr:=run_make (P:=P) w t e i z ht hi' hz kl kc n n (by omega) (Int.le_refl _) hb' (by omega);simp only[Int.toNat_natCast,hsz] at hr;unfold Oper.wp execOp;simp only[Sem.run_bind,Sem.run_pure,Result.andThen_ok,hl,hc,hr];exact hk
theorem zY9{z:Array Value}{n:Nat}{z0:Value}(hz:∀ v∈z.toList,v=z0)(h0:n=0∨0<z.size):∀ v∈(madeCells z n).toList,v=z0:=by
 intro v hv;simp only[madeCells,Array.toList_map,List.mem_map,Array.toList_range,List.mem_range] at hv;obtain⟨x,hx,rfl⟩:=hv;have hp:0<z.size:=by omega
 have hl:x % z.size<z.size:=Nat.mod_lt _ hp;rw[getElem!_pos z _ hl];exact hz _ (by simp)
theorem xL6{t e:TypeId}(z z0:Value)(size bytes:Nat)(ht:P.underlying t=some (.slice e))(hi:(P.info? e).map (fun i=>(i.zero,i.size,i.bytes))=some (some z,size,bytes))
  (hz:∀ v∈z.cells.toList,v=z0) (hz1:0<z.cells.size) (kl kc:IntKind) (n:Nat) (hb:bytes*n≤281474976710656) (hn:n≤1000000000) (w:World):
  ∃ Z:Array Value,Z.size=n*size∧(∀ v∈Z.toList,v=z0)∧Sem.run P (Instr.makeSlice t (.int kl n) (.int kc n)) w=.ok (.slice (some ⟨w.heap.size,0,none⟩) n n) (w.alloc (.cells Z e)):=by
 obtain⟨i,hi',hz'⟩:=Option.map_eq_some_iff.1 hi;simp only[Prod.mk.injEq] at hz';obtain⟨hz',hsz,hby⟩:=hz';have hb':(i.bytes:Int)*(n:Int)≤281474976710656:=by
  rw[hby];have h:((bytes*n:Nat):Int)≤281474976710656:=by omega
  rwa [Int.natCast_mul] at h
 have hr:=run_make (P:=P) w t e i z ht hi' hz' kl kc n n (by omega) (Int.le_refl _) hb' (by omega);simp only[Int.toNat_natCast,hsz] at hr;exact⟨_,by simp[madeCells],zY9 hz (Or.inr hz1),hr⟩
theorem xJ1{t e:TypeId}{l c:Operand}(z z0:Value)(size bytes:Nat)(ht:P.underlying t=some (.slice e))(hi:(P.info? e).map (fun i=>(i.zero,i.size,i.bytes))=some (some z,size,bytes))
  (hz:∀ v∈z.cells.toList,v=z0) (hz1:0<z.cells.size)
  (kl kc:IntKind) (n:Nat) (hl:a.eval l=.int kl n) (hc:a.eval c=.int kc n) (hb:bytes*n≤281474976710656) (hn:n≤1000000000)
  (h:∀ Z:Array Value,Z.size=n*size→(∀ v∈Z.toList,v=z0)→wpList P ops Q rest (a.put dst (.slice (some ⟨w.heap.size,0,none⟩) n n)) (w.alloc (.cells Z e))):
  wpList P ops Q (⟨dst,.makeSlice t l c,ty,pos,aft,none⟩::rest) a w:=
 jT8 z size bytes ht hi kl kc n hl hc hb hn (h _ (by simp[madeCells]) (zY9 hz (Or.inr hz1)))
end
variable {κ:Nat}
def χ(κ n C:Nat)(cache:Value)(calls writes:Int):Obj:=
 .cells #[.slice (some ⟨C,0,none⟩) n κ,cache,.int .i64 calls,.int .i64 writes,.int .i64 0,.int .i64 (-1),.int .i64 0,.int .i64 0] 72
abbrev qM7(n C:Nat)(cache:Value)(calls writes:Int):Obj:=χ n n C cache calls writes
theorem zB2(A n C:Nat)(cache:Value)(calls writes:Int)(w:World)(h:w.heap[A]?=some (χ κ n C cache calls writes))(h0:0≤calls)(h1:calls≤1000000000):
  Calls prog 252 #[.pointer (some ⟨A,0,none⟩)] w fun e w'=>e=.returned (.bool false)∧w'=w.setCell ⟨A,2,none⟩ (.int .i64 (calls+1)):=by
 have c2:=ξ h 2;have c5:=ξ h 5;have c6:=ξ h 6;have c7:=ξ h 7;simp at c2 c5 c6 c7;have f2:=ρ h 2;clear h;have hd:decide (calls<0)=false:=by simp;omega
 go_enter func252,ntmps252;go_wp2;go_ret;exact⟨rfl,rfl⟩
theorem zD5(A n C:Nat)(cache:Value)(calls writes:Int)(i:Int)(w:World)(h:w.heap[A]?=some (χ κ n C cache calls writes))(h0:0≤i)(h1:i<n):
  Calls prog 253 #[.pointer (some ⟨A,0,none⟩),.int .i64 i] w fun e w'=>e=.returned (.bool false)∧w'=w:=by
 have c0:=ξ h 0;simp at c0;clear h;go_enter func253,ntmps253;go_wp2;go_ret;exact⟨rfl,rfl⟩
theorem zM7(A n C:Nat)(cache:Value)(calls writes:Int)(w:World)(h:w.heap[A]?=some (χ κ n C cache calls writes)):
  Calls prog 33 #[.pointer (some ⟨A,0,none⟩)] w fun e w'=>e=.returned (.int .i64 n)∧w'=w:=by
 have c0:=ξ h 0;simp at c0;clear h;go_enter func33,ntmps33;go_wp2;go_ret;exact⟨rfl,rfl⟩
def allBytes(cs:Array Value):Prop:=∀ v∈cs.toList,∃ x,v=.int .u8 x
theorem allBytes.one{cs:Array Value}(h:allBytes cs):∀ v∈cs.toList,v.oneCell'=true:=fun v hv=>by obtain⟨x,rfl⟩:=h v hv;rfl
theorem qQ4{cs:Array Value}(h:allBytes cs)(o n:Nat):allBytes (qA2 cs o n):=fun v hv=>h v (List.mem_of_mem_drop (List.mem_of_mem_take (by simpa [qA2] using hv)))
theorem qJ6{cs p:Array Value}(h:cs.size=p.size):qD3 cs 0 p=p:=by
 have e:cs.toList.drop p.size=[]:=List.drop_of_length_le (by simp[h]);simp[qD3,e]
theorem Tryz.size5:(prog.info? 5).map (·.size)=some 1:=by kernel_rfl
theorem jO2(A n C:Nat)(calls writes:Int)(i:Nat)(cs:Array Value)(w:World)(h:w.heap[A]?=some (χ κ n C (.slice none 0 0) calls writes))(h0:0≤calls)(h1:calls≤1000000000)
  (hi:i<n) (hn:n≤1000) (hC:w.heap[C]?=some (.cells cs 87)) (hs:n*128≤cs.size) (hby:allBytes cs) (hAC:C≠A):
  Calls prog 250 #[.pointer (some ⟨A,0,none⟩),.int .i64 i] w fun e w'=>∃ g,e=.returned (.tuple #[.slice (some ⟨g,0,none⟩) 128 128,.nilIface])∧w.heap.size≤g∧
   w'.heap[g]?=some (.cells (qA2 cs (i*128) 128) 5)∧w'.heap[A]?=some (χ κ n C (.slice none 0 0) (calls+1) writes)∧Kp [A] w w':=by
 have c0:=ξ h 0;have c1:=ξ h 1;simp at c0 c1;have hA:=ζ h;have hCs:=ζ hC;go_enter func250,ntmps250;go_wp2_with fail;refine (zB2 A n C _ calls writes _ h h0 h1).mono ?_;rintro e w1 ⟨rfl,rfl⟩;go_wp2_with fail;refine (zD5 A n C (.slice none 0 0) (calls+1) writes i _ (ω h 2 _) (by omega) (by omega)).mono ?_;rintro e w1 ⟨rfl,rfl⟩
 go_wp2_with (refine xJ1 (.int .u8 0) (.int .u8 0) 1 1 underlying90 Tryz.info5 (by simp[Value.cells]) (by simp[Value.cells]) .i64 .i64 128 rfl rfl (by decide) (by decide) ?_;intro Z hZ hZ0)
 have hN:((w.setCell ⟨A,2,none⟩ (.int .i64 (calls+1))).alloc (.cells Z 5)).heap[w.heap.size]?=some (.cells Z 5):=by
  simpa using μ (w.setCell ⟨A,2,none⟩ (.int .i64 (calls+1))) (.cells Z 5)
 have hC':=θ (.cells Z 5) ((qA7 hAC 2 (.int .i64 (calls+1))).trans hC);rw[qR3 (n:=128) 3 underlying90 Tryz.size5 rfl hN hC' (by omega) (by omega) (qQ4 hby _ _).one];obtain⟨W1,hW1,hK1,hA1,hG1⟩:∃ W1,W1=((w.setCell ⟨A,2,none⟩ (.int .i64 (calls+1))).alloc (.cells Z 5)).setRow w.heap.size (qD3 Z 0 (qA2 cs (i*128) 128))∧Kp [A] w W1∧
   W1.heap[A]?=some (χ κ n C (.slice none 0 0) (calls+1) writes)∧W1.heap[w.heap.size]?=some (.cells (qA2 cs (i*128) 128) 5):=
  ⟨_,rfl,(((Kp.refl _ _).sc _).alloc _).setRow (by simp) _,(setRow_other _ _ _ _ (by omega)).trans (θ _ (ω h 2 _)),by
   rw[setRow_heap _ _ _ _ _ _ hN,qJ6 (by rw[qO3 (by omega)];omega)]⟩
 rw[←hW1];clear hW1 hN hC' c0 c1 h;have c1:=ξ hA1 1;simp at c1;go_wp2;refine wp_loop_rounds 1 ?_;rw[rounds_succ];go_wp2
 go_ret2
 exact⟨_,rfl,Nat.le_refl _,hG1,hA1,hK1⟩
variable {κ:Nat}
theorem qK1:zeroCells89.size=129:=by kernel_rfl
theorem zN2:(prog.info? 87).map (fun i=>(i.zero,i.size,i.bytes))=some (some (.agg zeroCells87),128,128):=by kernel_rfl
theorem zO1:∀ v∈zeroCells87.toList,v=.int .u8 0:=by
 have h:zeroCells87.toList=List.replicate 128 (.int .u8 0):=by kernel_rfl
 intro v hv;rw[h] at hv;exact List.eq_of_mem_replicate hv
theorem zF8:zeroCells87.size=128:=by kernel_rfl
theorem zZ7(m:Nat)(w:World)(hm:m<1000)(k:Int)(hk0:0≤k)(hk:k % 1000=m):
  Calls prog 34 #[.int .i64 k] w fun e w'=>e=.returned (.pointer (some ⟨w.heap.size+1,0,none⟩))∧∃ Z:Array Value,Z.size=m*128∧(∀ v∈Z.toList,v=.int .u8 0)∧
   w'=(w.alloc (.cells Z 87)).alloc (qM7 m w.heap.size (.slice none 0 0) 0 0):=by
 go_enter func34,ntmps34;have hlt:¬k<0:=by omega
 go_wp2;obtain⟨Z,hZ,hZ0,hr⟩:=xL6 (P:=prog) (.agg zeroCells87) (.int .u8 0) 128 128 underlying69 zN2 zO1 (by simp[Value.cells,zF8]) .i64 .i64 m (by omega) (by omega) w;rw[hr];clear hr;go_wp2;go_ret;exact⟨rfl,Z,hZ,hZ0,rfl⟩
def qC6(l:List UInt8):List Value:=l.map (fun b=>.int .u8 (b.toNat:Int))
def enc(l:List UInt8):Array Value:=(qC6 l).toArray
theorem xJ9(l:List UInt8):(qC6 l).length=l.length:=by simp[qC6]
theorem qF2(l:List UInt8):(enc l).size=l.length:=by simp[enc,qC6]
theorem qH3(l:List UInt8):allBytes (enc l):=by
 intro v hv;simp[enc,qC6] at hv;obtain⟨b,_,rfl⟩:=hv;exact⟨_,rfl⟩
theorem qL6(l:List UInt8)(o n:Nat):qA2 (enc l) o n=enc ((l.drop o).take n):=by simp[qA2,enc,qC6,List.map_take,List.map_drop]
theorem zC6(l p:List UInt8)(o:Nat):qD3 (enc l) o (enc p)=enc (l.take o++p++l.drop (o+p.length)):=by
 simp[qD3,enc,qC6,List.map_take,List.map_drop]
theorem zM9(l:List UInt8)(s:ByteArray):(l.map (fun b=>(b.toNat:Int))).foldl (fun r n=>r.push (UInt8.ofNat n.toNat)) s=⟨(s.data.toList++l).toArray⟩:=by
 induction l generalizing s with
 | nil=>simp
 | cons b l ih=>
  rw[List.map_cons,List.foldl_cons,ih];simp[ByteArray.push]
variable {κ:Nat}
def qB8(A n:Nat):Obj:=.cells #[.iface 23 (.pointer (some ⟨A,0,none⟩)),.int .i64 n] 186
def ι(l:List UInt8)(i:Nat):List UInt8:=(l.drop (i*128)).take 128
theorem qH9:zeroCells223.size=128:=by kernel_rfl
theorem jI8(V A n C:Nat)(calls writes:Int)(i:Nat)(l:List UInt8)(w:World)(hV:w.heap[V]?=some (qB8 A n))(h:w.heap[A]?=some (χ κ n C (.slice none 0 0) calls writes))(h0:0≤calls)(h1:calls≤1000000000)
  (hi:i<n) (hn:n≤1000) (hC:w.heap[C]?=some (.cells (enc l) 87)) (hs:n*128≤l.length) (hAC:C≠A) (hVA:V≠A):
  Calls prog 151 #[.pointer (some ⟨V,0,none⟩),.int .i64 i] w fun e w'=>e=.returned (.agg (enc (ι l i)))∧
   w'.heap[A]?=some (χ κ n C (.slice none 0 0) (calls+1) writes)∧Kp [A] w w':=by
 have c0:=ξ hV 0;simp at c0;have hVs:=ζ hV;have hA:=ζ h;have hCs:=ζ hC;go_enter func151,ntmps151;go_wp2_with fail;refine (jO2 A n C calls writes i (enc l) _ (θ _ h) h0 h1 hi hn (θ _ hC) (by rw[qF2];exact hs) (qH3 l) hAC).mono ?_;rintro e w1 ⟨g,rfl,hg,hG,hA1,hK1⟩;rw[qL6] at hG;have hb:ι l i=(l.drop (i*128)).take 128:=rfl;rw[←hb] at hG;have hbl:(ι l i).length=128:=by simp[ι];omega
 clear hb;obtain⟨bl,hb0⟩:∃ bl,ι l i=bl:=⟨_,rfl⟩;rw[hb0] at hG hbl;have HB:=zh hb0;clear hb0;have hR:w1.heap[w.heap.size]?=some (.cells zeroCells223 223):=hK1.heap (μ _ _) (by simp;omega);have hK2:Kp [A] w w1:=((Kp.refl _ _).alloc _).tr hK1;have hgs:w.heap.size+1≤g:=by simpa using hg
 have hg1:=ζ hG;have hA1s:=ζ hA1;clear hK1 hg c0;go_wp2_with fail;have hN:=μ w1 (.cells zeroCells223 223);rw[qR3 (n:=128) 3 underlying90 Tryz.size5 rfl hN (θ _ hG) (by simp[qH9]) (by rw[qF2];omega) (qQ4 (qH3 _) _ _).one];rw[qL6,List.drop_zero,List.take_of_length_le (by omega),qJ6 (by rw[qH9,qF2,hbl])];obtain⟨W2,hW2,hK3,hA3,hR3,hB3⟩:∃ W2,W2=(w1.alloc (.cells zeroCells223 223)).setRow w1.heap.size (enc bl)∧Kp [A] w W2∧W2.heap[A]?=some (χ κ n C (.slice none 0 0) (calls+1) writes)∧
   W2.heap[w.heap.size]?=some (.cells zeroCells223 223)∧W2.heap[w1.heap.size]?=some (.cells (enc bl) 223):=
  ⟨_,rfl,(hK2.alloc _).setRow (Or.inr hK2.size) _,(setRow_other _ _ _ _ (by omega)).trans (θ _ hA1),(setRow_other _ _ _ _ (by omega)).trans (θ _ hR),setRow_heap _ _ _ _ _ _ hN⟩
 rw[←hW2];clear hW2 hN;have hpp:qA2 (enc bl) 0 128=enc bl:=by rw[qL6,List.drop_zero,List.take_of_length_le (by omega)]
 have hes:(enc bl).size=128:=by rw[qF2,hbl]
 go_wp2_with (
  with_reducible refine qQ1 (t:=223) ?_ 128 ?_ w1.heap.size 0 ?_ (enc bl) 223 (0,0) ?_ ?_ ?_
  ·kernel_rfl
  ·kernel_rfl
  ·rfl
  ·exact hB3
  ·rw[qF2];omega)
 rw[qM0 hR3 (by simp[qH9,hes]) (qH3 bl).one];rw[show (enc bl).toList.toArray=enc bl from by simp,qJ6 (by rw[qH9,hes])];obtain⟨W3,hW3,hK4,hA4,hR4⟩:∃ W3,W3=W2.setRow w.heap.size (enc bl)∧Kp [A] w W3∧W3.heap[A]?=some (χ κ n C (.slice none 0 0) (calls+1) writes)∧W3.heap[w.heap.size]?=some (.cells (enc bl) 223):=
  ⟨_,rfl,hK3.setRow (by simp) _,(setRow_other _ _ _ _ (by omega)).trans hA3,setRow_heap _ _ _ _ _ _ hR3⟩
 rw[←hW3];clear hW3;go_wp2_with fail;exact bodyPost_ret (results_cell_row results151 _ _ w.heap.size _ _ _ _ rfl hR4 underlying223 rfl (by rw[hes];kernel_rfl)) rfl ⟨by rw[HB.out],hA4,hK4⟩
variable {κ:Nat}
theorem qI7{w:World}{base base':Nat}{e:TypeId}{sz:Nat}{v:Value}{n:Nat}{xs:List Value}(h:w.ownsRow base e sz v n xs)(hb:base'≤base):w.ownsRow base' e sz v n xs:=by
 obtain⟨h1,h2⟩:=h;refine⟨h1,?_⟩;rcases h2 with h2|⟨g,cap,cur,hv,hg,r⟩
 ·exact .inl h2
 ·exact .inr ⟨g,cap,cur,hv,by omega,r⟩
end Go.Proofs.YtdohpenfkdckiabGreatDoor
namespace Go.Proofs.YtdohpenfkdckiabGreatDoor
open Go.Proofs.Tryz
def kl(a b:ByteArray):Bool:=Op.bytesLess a.toList b.toList
theorem zY2:∀ (x y:List UInt8),Op.bytesLess x y=decide (x<y)
 | [],[]=>by simp[Op.bytesLess]
 | _::_,[]=>by simp[Op.bytesLess]
 | [],_::_=>by simp[Op.bytesLess]
 | a::x,b::y=>by
  rw[Op.bytesLess,zY2 x y];simp only[List.cons_lt_cons_iff];by_cases h1:a<b<;>by_cases h2:a=b<;>by_cases h3:x<y<;>simp[h1,h2,h3]
theorem zQ9{a b:ByteArray}(h:a.toList=b.toList):a=b:=by
 rw[ByteArray.toList_eq,ByteArray.toList_eq] at h;cases a;cases b;simp only[ByteArray.mk.injEq];exact Array.toList_inj.1 h
theorem qS3(a b:ByteArray):(a.toList == b.toList)=decide (a=b):=by
 by_cases h:a=b
 ·simp[h]
 ·have:¬a.toList=b.toList:=fun e=>h (zQ9 e);simp[h,this]
theorem zC5(a b:ByteArray):kl a b=true↔a.toList<b.toList:=by unfold kl;rw[zY2];simp
theorem qU5(a b:ByteArray):kl a b=false↔b.toList≤a.toList:=by
 rw[←Bool.not_eq_true,zC5];exact List.not_lt
theorem qS1(a:ByteArray):kl a a=false:=(qU5 a a).2 (List.le_refl _)
theorem qN8{a b c:ByteArray}(h:kl a b=true)(k:kl b c=true):kl a c=true:=by
 rw[zC5] at *;exact List.lt_trans h k
theorem qP8{a b:ByteArray}(h:kl a b=true):kl b a=false:=by
 rw[zC5] at h;rw[qU5];exact List.le_of_lt h
theorem qX4{a b:ByteArray}(h:kl a b=false)(k:kl b a=false):a=b:=by
 rw[qU5] at *;exact zQ9 (List.le_antisymm k h)
theorem qU4{a b c:ByteArray}(h:kl b a=false)(k:kl b c=true):kl a c=true:=by
 rw[qU5] at h;rw[zC5] at *;exact List.lt_of_le_of_lt h k
theorem qN7{a b c:ByteArray}(h:kl a b=true)(k:kl c b=false):kl a c=true:=by
 by_cases e:kl a c=true
 ·exact e
 ·have:=qU4 (a:=c) (b:=a) (c:=b) (by simpa using e) h;rw[k] at this;cases this
theorem zV8{a b c:ByteArray}(h:kl b a=false)(k:kl c b=false):kl c a=false:=by
 rw[qU5] at *;exact List.le_trans h k
theorem qJ3{a b:ByteArray}(h:kl a b=true):a≠b:=fun e=>by subst e;rw[qS1] at h;cases h
theorem qN6(a:ByteArray):kl a ⟨#[]⟩=false:=by
 rw[qU5];simp
theorem zV9(a b:ByteArray):(Op.bytesLess a.toList b.toList || a.toList == b.toList)=!kl b a:=by
 rw[qS3];by_cases h:kl a b=true
 ·have:Op.bytesLess a.toList b.toList=true:=h;simp[this,qP8 h]
 ·have h':kl a b=false:=by simpa using h
  have h0:Op.bytesLess a.toList b.toList=false:=h';by_cases e:a=b
  ·subst e;simp[qS1]
  ·have:kl b a=true:=by
    by_cases h2:kl b a=true
    ·exact h2
    ·exact absurd (qX4 h' (by simpa using h2)) e
   simp[h0,e,this]
structure KV where
 k:ByteArray
 v:ByteArray
 deriving DecidableEq
def Sorted(l:List KV):Prop:=l.Pairwise fun a b=>kl a.k b.k=true
def ins(p:KV)(l:List KV):List KV:=l.takeWhile (fun q=>kl q.k p.k)++p::(l.dropWhile (fun q=>kl q.k p.k)).filter (fun q=>!decide (q.k=p.k))
def del(k:ByteArray)(l:List KV):List KV:=l.filter fun q=>!decide (q.k=k)
theorem Sorted.append{a b:List KV}:Sorted (a++b)↔Sorted a∧Sorted b∧∀ x∈a,∀ y∈b,kl x.k y.k=true:=List.pairwise_append
theorem zD3{p q:KV}{l:List KV}(h:q∈ins p l):q=p∨q∈l:=by
 simp only[ins,List.mem_append,List.mem_cons,List.mem_filter] at h;rcases h with h|h|⟨h,_⟩
 ·exact .inr (List.takeWhile_sublist _ |>.subset h)
 ·exact .inl h
 ·exact .inr (List.dropWhile_sublist _ |>.subset h)
theorem qN5(p:KV)(l:List KV):(ins p l).length≤l.length+1:=by
 have h:=congrArg List.length (List.takeWhile_append_dropWhile (p:=fun q=>kl q.k p.k) (l:=l));have h2:=List.length_filter_le (fun q=>!decide (q.k=p.k)) (l.dropWhile (fun q=>kl q.k p.k));simp only[ins,List.length_append,List.length_cons] at *;omega
theorem zE5{p:ByteArray}{l:List KV}:∀ q∈l.takeWhile (fun q=>kl q.k p),kl q.k p=true:=by
 induction l with
 | nil=>intro q h;simp at h
 | cons a l ih=>
  intro q h;rw[List.takeWhile_cons] at h;split at h
  ·rcases List.mem_cons.1 h with rfl|h
   ·assumption
   ·exact ih q h
  ·simp at h
theorem zG9{p:ByteArray}{l:List KV}(hs:Sorted l):∀ q∈l.dropWhile (fun q=>kl q.k p),kl q.k p=false:=by
 induction l with
 | nil=>intro q h;simp at h
 | cons a l ih=>
  intro q h;have hs':=List.pairwise_cons.1 hs;rw[List.dropWhile_cons] at h;split at h
  ·exact ih hs'.2 q h
  ·next hn=>
   have hn:kl a.k p=false:=by simpa using hn
   rcases List.mem_cons.1 h with rfl|h
   ·exact hn
   ·exact qP8 (qU4 hn (hs'.1 q h))
theorem Sorted.ins{l:List KV}(h:Sorted l)(p:KV):Sorted (ins p l):=by
 have hs:Sorted (l.takeWhile (fun q=>kl q.k p.k)++l.dropWhile (fun q=>kl q.k p.k)):=by rw[List.takeWhile_append_dropWhile];exact h
 obtain⟨h1,h2,h3⟩:=Sorted.append.1 hs;have hf:∀ q∈(l.dropWhile (fun q=>kl q.k p.k)).filter (fun q=>!decide (q.k=p.k)),kl p.k q.k=true:=by
  intro q hq;simp only[List.mem_filter,Bool.not_eq_true',decide_eq_false_iff_not] at hq;have:=zG9 h q hq.1;by_cases e:kl p.k q.k=true
  ·exact e
  ·exact absurd (qX4 this (by simpa using e)) hq.2
 refine Sorted.append.2 ⟨h1,List.pairwise_cons.2 ⟨hf,h2.sublist List.filter_sublist⟩,?_⟩;intro x hx y hy;rcases List.mem_cons.1 hy with rfl|hy
 ·exact zE5 x hx
 ·exact qN8 (zE5 x hx) (hf y hy)
theorem zB3{l:List KV}{k:ByteArray}(h:∀ q∈l,q.k≠k):l.filter (fun q=>!decide (q.k=k))=l:=by
 rw[List.filter_eq_self];intro q hq;simp[h q hq]
theorem jB6{p:KV}{a b c:List KV}(ha:∀ q∈a,kl q.k p.k=true)(hc:∀ q∈c,kl p.k q.k=true):ins p (a++b++c)=a++ins p b++c:=by
 have h1:∀ (x y:List KV),(∀ q∈x,kl q.k p.k=true)→(x++y).takeWhile (fun q=>kl q.k p.k)=x++y.takeWhile (fun q=>kl q.k p.k):=by
  intro x y hx
  induction x with
  | nil=>rfl
  | cons z x ih=>simp[List.takeWhile_cons,hx z (by simp),ih (fun q hq=>hx q (by simp[hq]))]
 have h2:∀ (x y:List KV),(∀ q∈x,kl q.k p.k=true)→(x++y).dropWhile (fun q=>kl q.k p.k)=y.dropWhile (fun q=>kl q.k p.k):=by
  intro x y hx
  induction x with
  | nil=>rfl
  | cons z x ih=>simp[List.dropWhile_cons,hx z (by simp),ih (fun q hq=>hx q (by simp[hq]))]
 have hc0:∀ q∈c,kl q.k p.k=false:=fun q hq=>qP8 (hc q hq);have h3:∀ y:List KV,(y++c).takeWhile (fun q=>kl q.k p.k)=y.takeWhile (fun q=>kl q.k p.k):=by
  intro y
  induction y with
  | nil=>
   cases c with
   | nil=>rfl
   | cons z c=>simp[List.takeWhile_cons,hc0 z (by simp)]
  | cons z y ih=>simp only[List.cons_append,List.takeWhile_cons];split<;>simp_all
 have h4:∀ y:List KV,(y++c).dropWhile (fun q=>kl q.k p.k)=y.dropWhile (fun q=>kl q.k p.k)++c:=by
  intro y
  induction y with
  | nil=>
   cases c with
   | nil=>rfl
   | cons z c=>simp[List.dropWhile_cons,hc0 z (by simp)]
  | cons z y ih=>simp only[List.cons_append,List.dropWhile_cons];split<;>simp_all
 have h5:c.filter (fun q=>!decide (q.k=p.k))=c:=zB3 fun q hq=>(qJ3 (hc q hq)).symm;unfold ins;rw[List.append_assoc,h1 _ _ ha,h2 _ _ ha,h3,h4,List.filter_append,h5];simp
theorem xH3{l:List KV}(hs:Sorted l)(k:ByteArray):l.findIdx (fun q=>!kl q.k k)=(l.takeWhile (fun q=>kl q.k k)).length:=by
 induction l with
 | nil=>rfl
 | cons a l ih=>
  have hs':=List.pairwise_cons.1 hs;rw[List.findIdx_cons,List.takeWhile_cons];by_cases h:kl a.k k=true
  ·simp[h,ih hs'.2]
  ·have h':kl a.k k=false:=by simpa using h
   simp[h']
theorem xH5{l:List KV}(hs:Sorted l)(k:ByteArray):l.take (l.findIdx (fun q=>!kl q.k k))=l.takeWhile (fun q=>kl q.k k):=by
 rw[xH3 hs]
 conv=>lhs;arg 2;rw[←List.takeWhile_append_dropWhile (p:=fun q=>kl q.k k) (l:=l)]
 rw[List.take_left]
theorem zS3{l:List KV}(hs:Sorted l)(k:ByteArray):l.drop (l.findIdx (fun q=>!kl q.k k))=l.dropWhile (fun q=>kl q.k k):=by
 rw[xH3 hs]
 conv=>lhs;arg 2;rw[←List.takeWhile_append_dropWhile (p:=fun q=>kl q.k k) (l:=l)]
 rw[List.drop_left]
def qG0(l:List KV)(i:Nat)(k:ByteArray):Bool:=match l[i]? with
 | some q=>decide (q.k=k)
 | none=>false
def qC1(l:List KV)(k:ByteArray):Nat:=l.findIdx (fun q=>!kl q.k k)
theorem zE3(l:List KV)(k:ByteArray):qC1 l k≤l.length:=List.findIdx_le_length
theorem qS7{l:List KV}(hs:Sorted l)(p:KV):ins p l=l.take (qC1 l p.k)++[p]++l.drop (if qG0 l (qC1 l p.k) p.k then qC1 l p.k+1 else qC1 l p.k):=by
 unfold ins qC1;rw[xH5 hs];have hd:=zS3 hs p.k;have hg:=zG9 (p:=p.k) hs;have hsd:Sorted (l.dropWhile (fun q=>kl q.k p.k)):=hs.sublist (List.dropWhile_sublist _);generalize l.findIdx (fun q=>!kl q.k p.k)=i at *;have hat:l[i]?=(l.dropWhile (fun q=>kl q.k p.k)).head?:=by rw[←hd];simp
 have hd1:l.drop (i+1)=(l.dropWhile (fun q=>kl q.k p.k)).tail:=by rw[←hd];simp
 cases hc:l.dropWhile (fun q=>kl q.k p.k) with
 | nil=>
  rw[hc] at hat hd;simp[qG0,hat,hd]
 | cons a r=>
  rw[hc] at hat hd hd1 hg hsd;have hr:=List.pairwise_cons.1 hsd;by_cases e:a.k=p.k
  ·have:r.filter (fun q=>!decide (q.k=p.k))=r:=zB3 fun q hq=>by rw[←e];exact (qJ3 (hr.1 q hq)).symm
   simp[qG0,hat,e,hd1,this]
  ·have hlt:kl p.k a.k=true:=by
    by_cases h2:kl p.k a.k=true
    ·exact h2
    ·exact absurd (qX4 (hg a (by simp)) (by simpa using h2)) e
   have:r.filter (fun q=>!decide (q.k=p.k))=r:=zB3 fun q hq=>(qJ3 (qN8 hlt (hr.1 q hq))).symm;simp[qG0,hat,e,hd,this]
theorem zH6{l:List KV}(hs:Sorted l)(k:ByteArray):qG0 l (qC1 l k) k=true↔∃ q∈l,q.k=k:=by
 unfold qC1;have hd:=zS3 hs k;have hg:=zG9 (p:=k) hs;have hsd:Sorted (l.dropWhile (fun q=>kl q.k k)):=hs.sublist (List.dropWhile_sublist _);have hat:l[l.findIdx (fun q=>!kl q.k k)]?=(l.dropWhile (fun q=>kl q.k k)).head?:=by rw[←hd];simp
 have hm:(∃ q∈l,q.k=k)↔∃ q∈l.dropWhile (fun q=>kl q.k k),q.k=k:=by
  constructor
  ·rintro⟨q,hq,e⟩;rw[←List.takeWhile_append_dropWhile (p:=fun q=>kl q.k k) (l:=l)] at hq;rcases List.mem_append.1 hq with h|h
   ·exact absurd e (qJ3 (zE5 q h))
   ·exact⟨q,h,e⟩
  ·rintro⟨q,hq,e⟩;exact⟨q,List.dropWhile_sublist _ |>.subset hq,e⟩
 rw[hm];unfold qG0;rw[hat]
 cases hc:l.dropWhile (fun q=>kl q.k k) with
 | nil=>simp
 | cons a r=>
  rw[hc] at hsd hg;have hr:=List.pairwise_cons.1 hsd;simp only[List.head?_cons,decide_eq_true_eq,List.mem_cons,exists_eq_or_imp];constructor
  ·intro h;exact .inl h
  ·rintro (h|⟨q,hq,e⟩)
   ·exact h
   ·have h1:=hr.1 q hq;rw[e] at h1;have h2:=hg a (by simp);rw[h1] at h2;cases h2
structure Lnk(X:Type) where
 key:ByteArray
 ref:Option (Nat × Int)
 sub:X
def Tn:Nat→Type
 | 0=>List KV
 | n+1=>List (Lnk (Tn n))
def cont:(n:Nat)→Tn n→List KV
 | 0,ps=>ps
 | n+1,ls=>List.flatMap (fun l:Lnk (Tn n)=>cont n l.sub) ls
def cnt:(n:Nat)→Tn n→Nat
 | 0,ps=>List.length (α:=KV) ps
 | n+1,ls=>List.length (α:=Lnk (Tn n)) ls
def ν(p:KV):Nat:=1+p.k.size+p.v.size
def qA3{X:Type}(l:Lnk X):Nat:=11+l.key.size
def meas{α:Type}(f:α→Nat)(l:List α):Nat:=(l.map f).sum
theorem qF4{α:Type}(f:α→Nat)(a b:List α):meas f (a++b)=meas f a+meas f b:=by simp[meas]
theorem qE0{α:Type}(f:α→Nat)(a:α)(b:List α):meas f (a::b)=f a+meas f b:=by simp[meas]
theorem qC9{α:Type}(f:α→Nat):meas f []=0:=rfl
def qE9{α:Type}(f:α→Nat)(all:Nat):List α→Nat→Nat
 | [],_=>0
 | x::xs,n=>if 2*n<all then qE9 f all xs (n+f x)+1 else 0
def qB6{α:Type}(f:α→Nat)(l:List α):List (List α):=
 if meas f l≤126 then [l] else [l.take (qE9 f (meas f l) l 0),l.drop (qE9 f (meas f l) l 0)]
def links{α:Type}(low:α→ByteArray)(key:ByteArray):List (List α)→List (Lnk (List α))
 | []=>[]
 | a::rest=>⟨key,none,a⟩::rest.map fun b=>⟨(b.head?.map low).getD ⟨#[]⟩,none,b⟩
def qE1(key:ByteArray)(ps:List KV):List (Lnk (Tn 0)):=links KV.k key (qB6 ν ps)
def qD7(n:Nat)(key:ByteArray)(ls:List (Lnk (Tn n))):List (Lnk (Tn (n+1))):=links Lnk.key key (qB6 qA3 ls)
def qB2{X:Type}(ls:List (Lnk X))(k:ByteArray):Nat:=ls.findIdx (fun l=>kl k l.key)-1
def qG6(p:KV)(ps:List KV):List KV:=ps.take (qC1 ps p.k)++[p]++ps.drop (if qG0 ps (qC1 ps p.k) p.k then qC1 ps p.k+1 else qC1 ps p.k)
def qE3:(n:Nat)→Lnk (Tn n)→KV→List (Lnk (Tn n))
 | 0,l,p=>qE1 l.key (qG6 p l.sub)
 | n+1,l,p=>
  let ls:List (Lnk (Tn n)):=l.sub
  match ls[qB2 ls p.k]? with
  | some m=>qD7 n l.key (ls.take (qB2 ls p.k)++qE3 n m p++ls.drop (qB2 ls p.k+1))
  | none=>[]
def qE2:(n:Nat)→ByteArray→Tn n→Tn n→List (Lnk (Tn n))
 | 0,key,a,b=>qE1 key (List.append (α:=KV) a b)
 | n+1,key,a,b=>qD7 n key (List.append (α:=Lnk (Tn n)) a b)
inductive Root where
 | none
 | at (n:Nat) (l:Lnk (Tn n))
def qQ3:(n:Nat)→Lnk (Tn n)→Root
 | 0,l=>match (l.sub:List KV) with
  | []=>.none
  | _::_=>.at 0 l
 | n+1,l=>match (l.sub:List (Lnk (Tn n))) with
  | []=>.none
  | [m]=>.at n m
  | _::_::_=>.at (n+1) l
def qF5(n:Nat)(ls:List (Lnk (Tn n))):Root:=
 match ls with
 | []=>.none
 | [l]=>qQ3 n l
 | ls=>match qD7 n ⟨#[]⟩ ls with
  | []=>.none
  | r::_=>qQ3 (n+1) r
def Root.cont:Root→List KV
 | .none=>[]
 | .at n l=>YtdohpenfkdckiabGreatDoor.cont n l.sub
def Root.put(r:Root)(p:KV):Root:=match r with
 | .none=>qF5 0 (qE1 ⟨#[]⟩ [p])
 | .at n l=>qF5 n (qE3 n l p)
def qC3(p:KV):Prop:=1≤p.k.size∧p.k.size≤8∧p.v.size≤12
def zO2{X:Type}(co:X→List KV)(a b:Lnk X):Prop:=kl a.key b.key=true∧∀ q∈co a.sub,kl q.k b.key=true
abbrev qR8(n:Nat)(a b:Lnk (Tn n)):Prop:=zO2 (cont n) a b
structure GoodL(lo:ByteArray)(ps:List KV):Prop where
 sorted:Sorted ps
 all:∀ p∈ps,qC3 p∧kl p.k lo=false
 fits:meas ν ps≤126
structure GoodB{X:Type}(G:ByteArray→X→Prop)(C:X→Nat)(co:X→List KV)(lo:ByteArray)(ls:List (Lnk X)):Prop where
 head:∀ l∈ls.head?,l.key=lo
 all:∀ l∈ls,G l.key l.sub∧3≤C l.sub∧l.key.size≤8
 pair:ls.Pairwise (zO2 co)
 fits:meas qA3 ls≤126
def Good:(n:Nat)→ByteArray→Tn n→Prop
 | 0,lo,ps=>GoodL lo ps
 | n+1,lo,ls=>GoodB (Good n) (cnt n) (cont n) lo ls
structure Row0(n:Nat)(lo:ByteArray)(ls:List (Lnk (Tn n))):Prop where
 head:∀ l∈ls.head?,l.key=lo
 all:∀ l∈ls,Good n l.key l.sub∧l.key.size≤8
 pair:ls.Pairwise (qR8 n)
theorem qK4:∀ (n:Nat) (lo:ByteArray) (t:Tn n),Good n lo t→Sorted (cont n t)∧∀ q∈cont n t,qC3 q∧kl q.k lo=false
 | 0,lo,ps,h=>⟨h.1,h.2⟩
 | n+1,lo,ls,h=>by
  obtain⟨hh,ha,hp,_⟩:=h;have ih:=fun l:Lnk (Tn n)=>qK4 n l.key l.sub;have key:∀ (ls:List (Lnk (Tn n))),(∀ l∈ls,Good n l.key l.sub)→ls.Pairwise (qR8 n)→Sorted (ls.flatMap fun l=>cont n l.sub)∧∀ q∈ls.flatMap (fun l=>cont n l.sub),qC3 q∧∀ l∈ls.head?,kl q.k l.key=false:=by
   intro ls
   induction ls with
   | nil=>intro _ _;simp[Sorted]
   | cons a ls ihl=>
    intro hg hp;obtain⟨hp1,hp2⟩:=List.pairwise_cons.1 hp;obtain⟨i1,i2⟩:=ihl (fun l hl=>hg l (by simp[hl])) hp2;obtain⟨a1,a2⟩:=ih a (hg a (by simp));have hlow:∀ q∈ls.flatMap (fun l=>cont n l.sub),∃ b∈ls,kl q.k b.key=false:=by
     intro q hq;obtain⟨b,hb,hq⟩:=List.mem_flatMap.1 hq;exact⟨b,hb,((ih b (hg b (by simp[hb]))).2 q hq).2⟩
    rw[List.flatMap_cons];refine⟨Sorted.append.2 ⟨a1,i1,?_⟩,?_⟩
    ·intro x hx y hy;obtain⟨b,hb,hyb⟩:=hlow y hy;exact qN7 ((hp1 b hb).2 x hx) hyb
    ·intro q hq;rcases List.mem_append.1 hq with hq|hq
     ·exact⟨(a2 q hq).1,by simpa using (a2 q hq).2⟩
     ·obtain⟨b,hb,hqb⟩:=hlow q hq;refine⟨(i2 q hq).1,?_⟩;simp only[List.head?_cons,Option.mem_def,Option.some.injEq,forall_eq'];exact zV8 (qP8 (hp1 b hb).1) hqb
  obtain⟨k1,k2⟩:=key ls (fun l hl=>(ha l hl).1) hp;refine⟨k1,fun q hq=>?_⟩;obtain⟨q1,q2⟩:=k2 q hq;refine⟨q1,?_⟩
  cases hls:(ls:List (Lnk (Tn n))) with
  | nil=>rw[show cont (n+1) ls=List.flatMap (fun l:Lnk (Tn n)=>cont n l.sub) ls from rfl,hls] at hq;simp at hq
  | cons a r=>
   have e:=hh a (by rw[hls];simp);have:=q2 a (by rw[hls];simp);rw[e] at this;exact this
section
variable {α:Type} (f:α→Nat)
theorem zA9(all m:Nat):∀ (l:List α) (n:Nat),(∀ x∈l,f x≤m)→2*n<all+2*m→all≤2*(n+meas f l)→
  all≤2*(n+meas f (l.take (qE9 f all l n)))∧2*(n+meas f (l.take (qE9 f all l n)))<all+2*m
 | [],n,_,h1,h2=>by simp[qE9,meas] at *;omega
 | x::xs,n,hm,h1,h2=>by
  unfold qE9;have hx:=hm x (by simp);split
  ·have ih:=zA9 all m xs (n+f x) (fun y hy=>hm y (by simp[hy])) (by omega) (by rw[qE0] at h2;omega);rw[List.take_succ_cons,qE0];omega
  ·simp[meas];omega
theorem qO0(m:Nat):∀ (l:List α),(∀ x∈l,f x≤m)→meas f l≤m*l.length
 | [],_=>by simp[meas]
 | x::xs,h=>by
  have h1:=h x (by simp);have h2:=qO0 m xs fun y hy=>h y (by simp[hy]);rw[qE0,List.length_cons,Nat.mul_succ];omega
theorem qP1(l:List α)(i:Nat):meas f (l.take i)+meas f (l.drop i)=meas f l:=by
 rw[←qF4,List.take_append_drop]
theorem zC0(l:List α)(hm:∀ x∈l,f x≤21)(hl:meas f l≤210):
  (qB6 f l=[l]∧meas f l≤126)∨∃ a b,qB6 f l=[a,b]∧a++b=l∧meas f a≤126∧meas f b≤126∧3≤a.length∧3≤b.length:=by
 unfold qB6;split
 ·exact .inl ⟨rfl,by assumption⟩
 ·next h=>
  right;have hs:=zA9 f (meas f l) 21 l 0 hm (by omega) (by omega);have ht:=qP1 f l (qE9 f (meas f l) l 0);refine⟨_,_,rfl,List.take_append_drop _ _,by omega,by omega,?_,?_⟩
  ·have:=qO0 f 21 (l.take (qE9 f (meas f l) l 0)) fun x hx=>hm x (List.mem_of_mem_take hx);omega
  ·have:=qO0 f 21 (l.drop (qE9 f (meas f l) l 0)) fun x hx=>hm x (List.mem_of_mem_drop hx);omega
end
theorem qU8{lo:ByteArray}{ps:List KV}(hs:Sorted ps)(ho:∀ p∈ps,qC3 p∧kl p.k lo=false)(hm:meas ν ps≤210)(hlo:lo.size≤8):
  Row0 0 lo (qE1 lo ps)∧(qE1 lo ps).flatMap (fun l=>cont 0 l.sub)=ps∧
  ((∃ a,qE1 lo ps=[a]∧a.key=lo∧a.ref=none∧a.sub=ps)∨∃ a b,qE1 lo ps=[a,b]∧a.key=lo∧a.ref=none∧b.ref=none∧3≤cnt 0 a.sub∧3≤cnt 0 b.sub):=by
 have hsz:∀ x∈ps,ν x≤21:=fun x hx=>by obtain⟨⟨h1,h2,h3⟩,_⟩:=ho x hx;unfold ν;omega
 rcases zC0 ν ps hsz hm with⟨e,h1⟩|⟨a,b,e,hab,ha,hb,ha3,hb3⟩
 ·have e':qE1 lo ps=[⟨lo,none,ps⟩]:=by unfold qE1;rw[e];rfl
  rw[e'];refine⟨⟨by simp,?_,by simp⟩,List.append_nil ps,.inl ⟨_,rfl,rfl,rfl,rfl⟩⟩;intro l hl;rw[List.mem_singleton.1 hl];exact⟨⟨hs,ho,h1⟩,hlo⟩
 ·subst hab;obtain⟨c,r,rfl⟩:∃ c r,b=c::r:=by cases b with
   | nil=>simp at hb3
   | cons c r=>exact⟨c,r,rfl⟩
  obtain⟨c0,r0,rfl⟩:∃ c r,a=c::r:=by cases a with
   | nil=>simp at ha3
   | cons c r=>exact⟨c,r,rfl⟩
  have e':qE1 lo (c0::r0++c::r)=[⟨lo,none,c0::r0⟩,⟨c.k,none,c::r⟩]:=by unfold qE1;rw[e];rfl
  rw[e'];obtain⟨s1,s2,s3⟩:=Sorted.append.1 hs;have hc:=ho c (by simp);refine⟨⟨by simp,?_,?_⟩,show c0::r0++(c::r++[])=_ by simp,.inr ⟨_,_,rfl,rfl,rfl,rfl,ha3,hb3⟩⟩
  ·intro l hl;simp only[List.mem_cons,List.not_mem_nil,or_false] at hl;rcases hl with rfl|rfl
   ·exact⟨⟨s1,fun p hp=>ho p (by simp at hp ⊢;rcases hp with h | h<;>simp[h]),ha⟩,hlo⟩
   ·refine⟨⟨s2,fun p hp=>⟨(ho p (List.mem_append_right _ hp)).1,?_⟩,hb⟩,hc.1.2.1⟩;rcases List.mem_cons.1 hp with rfl|hp
    ·exact qS1 _
    ·exact qP8 ((List.pairwise_cons.1 s2).1 p hp)
  ·simp only[List.pairwise_cons,List.mem_cons,List.not_mem_nil,or_false,forall_eq,List.Pairwise.nil,and_true,false_implies,implies_true];refine⟨qU4 (ho c0 (by simp)).2 (s3 c0 (by simp) c (by simp)),fun q hq=>s3 q hq c (by simp)⟩
theorem zG5{n:Nat}{lo:ByteArray}{ls:List (Lnk (Tn n))}(h:Row0 n lo ls)(h3:∀ l∈ls,3≤cnt n l.sub)(hm:meas qA3 ls≤210)(hlo:lo.size≤8):
  Row0 (n+1) lo (qD7 n lo ls)∧(qD7 n lo ls).flatMap (fun l=>cont (n+1) l.sub)=ls.flatMap (fun l=>cont n l.sub)∧
  ((∃ a,qD7 n lo ls=[a]∧a.key=lo∧a.ref=none∧a.sub=ls)∨∃ a b,qD7 n lo ls=[a,b]∧a.key=lo∧a.ref=none∧b.ref=none∧3≤cnt (n+1) a.sub∧3≤cnt (n+1) b.sub):=by
 have hsz:∀ x∈ls,qA3 x≤21:=fun x hx=>by have:=(h.all x hx).2;unfold qA3;omega
 rcases zC0 qA3 ls hsz hm with⟨e,h1⟩|⟨a,b,e,hab,ha,hb,ha3,hb3⟩
 ·have e':qD7 n lo ls=[⟨lo,none,ls⟩]:=by unfold qD7;rw[e];rfl
  rw[e'];refine⟨⟨by simp,?_,by simp⟩,List.append_nil _,.inl ⟨_,rfl,rfl,rfl,rfl⟩⟩;intro l hl;rw[List.mem_singleton.1 hl];exact⟨⟨h.head,fun l hl=>⟨(h.all l hl).1,h3 l hl,(h.all l hl).2⟩,h.pair,h1⟩,hlo⟩
 ·subst hab;obtain⟨c,r,rfl⟩:∃ c r,b=c::r:=by cases b with
   | nil=>simp at hb3
   | cons c r=>exact⟨c,r,rfl⟩
  obtain⟨c0,r0,rfl⟩:∃ c r,a=c::r:=by cases a with
   | nil=>simp at ha3
   | cons c r=>exact⟨c,r,rfl⟩
  have e':qD7 n lo (c0::r0++c::r)=[⟨lo,none,c0::r0⟩,⟨c.key,none,c::r⟩]:=by unfold qD7;rw[e];rfl
  rw[e'];obtain⟨s1,s2,s3⟩:=List.pairwise_append.1 h.pair;have hc0:=h.head c0 (by simp);have hall:∀ l∈c0::r0++c::r,Good n l.key l.sub∧3≤cnt n l.sub∧l.key.size≤8:=fun l hl=>⟨(h.all l hl).1,h3 l hl,(h.all l hl).2⟩;refine⟨⟨by simp,?_,?_⟩,?_,.inr ⟨_,_,rfl,rfl,rfl,rfl,ha3,hb3⟩⟩
  rotate_left 2
  ·show List.flatMap _ (c0::r0)++(List.flatMap _ (c::r)++[])=_;rw[List.append_nil,←List.flatMap_append]
  ·intro l hl;simp only[List.mem_cons,List.not_mem_nil,or_false] at hl;rcases hl with rfl|rfl
   ·exact⟨⟨by simpa using hc0,fun l hl=>hall l (List.mem_append_left _ hl),s1,ha⟩,hlo⟩
   ·exact⟨⟨by simp,fun l hl=>hall l (List.mem_append_right _ hl),s2,hb⟩,(hall c (by simp)).2.2⟩
  ·simp only[List.pairwise_cons,List.mem_cons,List.not_mem_nil,or_false,forall_eq,List.Pairwise.nil,and_true,false_implies,implies_true];refine⟨by rw[←hc0];exact (s3 c0 (by simp) c (by simp)).1,fun q hq=>?_⟩;obtain⟨l,hl,hq⟩:=List.mem_flatMap.1 hq;exact (s3 l hl c (by simp)).2 q hq
def η{n:Nat}(t:Tn (n+1)):List (Lnk (Tn n)):=t
def prs(t:Tn 0):List KV:=t
theorem qZ1:∀ (n:Nat) (lo:ByteArray) (t:Tn n),Good n lo t→1≤cnt n t→∃ q,q∈cont n t
 | 0,lo,ps,h,h1=>by
  have h2:1≤(prs ps).length:=h1;obtain⟨a,ha⟩:=List.exists_mem_of_length_pos (l:=prs ps) (by omega);exact⟨a,ha⟩
 | n+1,lo,ls,h,h1=>by
  have h2:1≤(η ls).length:=h1;obtain⟨a,ha⟩:=List.exists_mem_of_length_pos (l:=η ls) (by omega);have hg:=h.all a ha;obtain⟨q,hq⟩:=qZ1 n a.key a.sub hg.1 (by omega);exact⟨q,List.mem_flatMap.2 ⟨a,ha,hq⟩⟩
theorem qZ7{n:Nat}{lo k:ByteArray}{ls:List (Lnk (Tn n))}(h:Row0 n lo ls)(hne:ls≠[])(hk:kl k lo=false):
  ∃ A m B,ls=A++m::B∧A.length=qB2 ls k∧kl k m.key=false∧(∀ a∈A,∀ q∈cont n a.sub,kl q.k k=true)∧(∀ b∈B,kl k b.key=true):=by
 have hpos:1≤ls.findIdx (fun l=>kl k l.key):=by
  cases ls with
  | nil=>exact absurd rfl hne
  | cons a r=>
   have e:=h.head a (by simp);rw[List.findIdx_cons,e,hk];simp
 have hle:ls.findIdx (fun l=>kl k l.key)≤ls.length:=List.findIdx_le_length;have hi:qB2 ls k<ls.length:=by unfold qB2;omega
 have hm:kl k (ls[qB2 ls k]).key=false:=by
  have:=List.not_of_lt_findIdx (p:=fun l:Lnk (Tn n)=>kl k l.key) (xs:=ls) (i:=qB2 ls k) (by unfold qB2;omega);simpa using this
 have hsp:ls=ls.take (qB2 ls k)++ls[qB2 ls k]::ls.drop (qB2 ls k+1):=by
  rw[List.getElem_cons_drop];simp
 have hp:=h.pair;rw[hsp] at hp;obtain⟨p1,p2,p3⟩:=List.pairwise_append.1 hp;refine⟨ls.take (qB2 ls k),ls[qB2 ls k],ls.drop (qB2 ls k+1),hsp,by simp;omega,hm,?_,?_⟩
 ·intro a ha q hq;exact qN7 ((p3 a ha _ (List.mem_cons_self ..)).2 q hq) hm
 ·intro b hb;have e:qB2 ls k+1=ls.findIdx (fun l=>kl k l.key):=by unfold qB2;omega
  rw[e] at hb;by_cases hlt:ls.findIdx (fun l=>kl k l.key)<ls.length
  ·have h0:kl k (ls[ls.findIdx (fun l=>kl k l.key)]).key=true:=List.findIdx_getElem (w:=hlt);rw[List.drop_eq_getElem_cons hlt] at hb;rcases List.mem_cons.1 hb with rfl|hb
   ·exact h0
   ·have hp2:=h.pair;rw[←List.take_append_drop (ls.findIdx (fun l=>kl k l.key)) ls,List.drop_eq_getElem_cons hlt] at hp2;have:=(List.pairwise_cons.1 (List.pairwise_append.1 hp2).2.1).1 b hb;exact qN8 h0 this.1
  ·rw[List.drop_of_length_le (by omega)] at hb;simp at hb
theorem Row0.keys{n:Nat}{lo:ByteArray}{W:List (Lnk (Tn n))}(h:Row0 n lo W):∀ w∈W,kl w.key lo=false:=by
 intro w hw
 cases W with
 | nil=>simp at hw
 | cons a r=>
  have e:=h.head a (by simp);rcases List.mem_cons.1 hw with rfl|hw
  ·rw[e];exact qS1 _
  ·have:=((List.pairwise_cons.1 h.pair).1 w hw).1;rw[e] at this;exact qP8 this
theorem zE1{n:Nat}{lo:ByteArray}{A B W:List (Lnk (Tn n))}{m:Lnk (Tn n)}(h:Row0 n lo (A++m::B))(hW:Row0 n m.key W)(hne:W≠[])(hc:∀ w∈W,1≤cnt n w.sub)
  (hB:∀ w∈W,∀ q∈cont n w.sub,∀ b∈B,kl q.k b.key=true):Row0 n lo (A++W++B):=by
 obtain⟨p1,p2,p3⟩:=List.pairwise_append.1 h.pair;obtain⟨p4,p5⟩:=List.pairwise_cons.1 p2;refine⟨?_,?_,?_⟩
 ·intro l hl
  cases A with
  | nil=>
   have e:=h.head m (by simp)
   cases W with
   | nil=>exact absurd rfl hne
   | cons w W=>
    simp at hl;rw[←hl,hW.head w (by simp),e]
  | cons a A=>
   simp at hl;rw[←hl];exact h.head a (by simp)
 ·intro l hl;simp only[List.mem_append] at hl;rcases hl with (hl|hl)|hl
  ·exact h.all l (by simp[hl])
  ·exact hW.all l hl
  ·exact h.all l (by simp[hl])
 ·rw[List.append_assoc];refine List.pairwise_append.2 ⟨p1,List.pairwise_append.2 ⟨hW.pair,p5,?_⟩,?_⟩
  ·intro w hw b hb;obtain⟨q,hq⟩:=qZ1 n w.key w.sub (hW.all w hw).1 (hc w hw);have hqb:=hB w hw q hq b hb;have hqw:=((qK4 n w.key w.sub (hW.all w hw).1).2 q hq).2;exact⟨qU4 hqw hqb,fun q hq=>hB w hw q hq b hb⟩
  ·intro a ha x hx;rcases List.mem_append.1 hx with hx|hx
   ·have hm:=p3 a ha m (by simp);have hk:=hW.keys x hx;exact⟨qN7 hm.1 hk,fun q hq=>qN7 (hm.2 q hq) hk⟩
   ·exact p3 a ha x (by simp[hx])
theorem zJ9(p:KV){l:List KV}(hs:Sorted l):meas ν (ins p l)≤meas ν l+ν p:=by
 rw[qS7 hs,qF4,qF4,qE0,qC9];have h1:=qP1 ν l (qC1 l p.k);have h2:meas ν (l.drop (if qG0 l (qC1 l p.k) p.k then qC1 l p.k+1 else qC1 l p.k))≤meas ν (l.drop (qC1 l p.k)):=by
  split
  ·have:=qP1 ν (l.drop (qC1 l p.k)) 1;rw[List.drop_drop] at this;omega
  ·exact Nat.le_refl _
 omega
theorem jB4(p:KV){l:List KV}(hs:Sorted l):l.length≤(ins p l).length:=by
 rw[qS7 hs];have:=zE3 l p.k;simp only[List.length_append,List.length_take,List.length_drop,List.length_cons,List.length_nil];split<;>omega
def Made(n:Nat)(l:Lnk (Tn n))(d:Nat)(W:List (Lnk (Tn n))):Prop:=
 (∃ a,W=[a]∧a.key=l.key∧a.ref=none∧cnt n l.sub≤cnt n a.sub+d)∨∃ a b,W=[a,b]∧a.key=l.key∧a.ref=none∧b.ref=none∧3≤cnt n a.sub∧3≤cnt n b.sub
theorem Made.ne{n:Nat}{l:Lnk (Tn n)}{d:Nat}{W:List (Lnk (Tn n))}(h:Made n l d W):W≠[]:=by
 rcases h with⟨a,rfl,_⟩|⟨a,b,rfl,_⟩<;>simp
theorem Made.meas{n:Nat}{l:Lnk (Tn n)}{d:Nat}{W:List (Lnk (Tn n))}(h:Made n l d W)(hk:∀ w∈W,w.key.size≤8):meas qA3 W≤qA3 l+19:=by
 rcases h with⟨a,rfl,e,_⟩|⟨a,b,rfl,e,_⟩
 ·simp[YtdohpenfkdckiabGreatDoor.meas,qA3,e]
 ·have:=hk b (by simp);simp[YtdohpenfkdckiabGreatDoor.meas,qA3,e];omega
theorem qW2:∀ (n:Nat) (l:Lnk (Tn n)) (p:KV),Good n l.key l.sub→qC3 p→kl p.k l.key=false→l.key.size≤8→1≤cnt n l.sub→
  Row0 n l.key (qE3 n l p)∧(qE3 n l p).flatMap (fun l=>cont n l.sub)=ins p (cont n l.sub)∧Made n l 0 (qE3 n l p)
 | 0,l,p,h,hp,hk,hz,h1=>by
  have hs:Sorted l.sub:=h.sorted;have e:qG6 p l.sub=ins p l.sub:=(qS7 hs p).symm;have hm:=zJ9 p hs;have hps:ν p≤21:=by obtain⟨h1,h2,h3⟩:=hp;unfold ν;omega
  obtain⟨r1,r2,r3⟩:=qU8 (lo:=l.key) (ps:=ins p l.sub) (hs.ins p) (fun q hq=>by
   rcases zD3 hq with rfl|hq
   ·exact⟨hp,hk⟩
   ·exact h.all q hq) (by have:=h.fits;omega) hz
  show Row0 0 l.key (qE1 l.key (qG6 p l.sub))∧List.flatMap _ (qE1 l.key (qG6 p l.sub))=_∧Made 0 l 0 (qE1 l.key (qG6 p l.sub));rw[e];refine⟨r1,r2,?_⟩;rcases r3 with⟨a,e1,e2,e3,e4⟩|⟨a,b,e1,e2,e3,e4,e5,e6⟩
  ·refine .inl ⟨a,e1,e2,e3,?_⟩;rw[e4];exact jB4 p hs
  ·exact .inr ⟨a,b,e1,e2,e3,e4,e5,e6⟩
 | n+1,l,p,h,hp,hk,hz,h1=>by
  have hr:Row0 n l.key l.sub:=⟨h.head,fun m hm=>⟨(h.all m hm).1,(h.all m hm).2.2⟩,h.pair⟩;obtain⟨A,m,B,e,hA,hkm,hqA,hqB⟩:=qZ7 (k:=p.k) hr (by intro e;have h2:1≤List.length (α:=Lnk (Tn n)) l.sub:=h1;rw[e] at h2;simp at h2) hk;have hall:∀ x∈A++m::B,Good n x.key x.sub∧3≤cnt n x.sub∧x.key.size≤8:=fun x hx=>h.all x (by rw[e];exact hx);have hm:=hall m (by simp);obtain⟨w1,w2,w3⟩:=qW2 n m p hm.1 hp hkm hm.2.2 (by omega);have hwc:∀ w∈qE3 n m p,3≤cnt n w.sub:=by
   rcases w3 with⟨a,e1,_,_,e4⟩|⟨a,b,e1,_,_,_,e5,e6⟩
   ·rw[e1];intro w hw;rw[List.mem_singleton.1 hw];omega
   ·rw[e1];intro w hw;simp only[List.mem_cons,List.not_mem_nil,or_false] at hw;rcases hw with rfl|rfl<;>assumption
  have hr':Row0 n l.key (A++m::B):=by rw[←e];exact hr
  have hqm:∀ w∈qE3 n m p,∀ q∈cont n w.sub,q=p∨q∈cont n m.sub:=fun w hw q hq=>by
   have:q∈(qE3 n m p).flatMap (fun l=>cont n l.sub):=List.mem_flatMap.2 ⟨w,hw,hq⟩;rw[w2] at this;exact zD3 this
  have hpair:=List.pairwise_append.1 hr'.pair;have hsp:=zE1 hr' w1 w3.ne (fun w hw=>by have:=hwc w hw;omega) (fun w hw q hq b hb=>by
   rcases hqm w hw q hq with rfl|hq
   ·exact hqB b hb
   ·exact ((List.pairwise_cons.1 hpair.2.1).1 b hb).2 q hq)
  have hmW:=w3.meas (fun w hw=>(w1.all w hw).2);have hfit:meas qA3 (A++m::B)≤126:=by have:=h.fits;rw[e] at this;exact this
  have hmm:meas qA3 (A++qE3 n m p++B)≤210:=by
   rw[qF4,qF4];rw[qF4,qE0] at hfit;omega
  have hget:(η l.sub)[qB2 (η l.sub) p.k]?=some m:=by rw[show qB2 (η l.sub) p.k=A.length from hA.symm,show η l.sub=A++m::B from e];simp
  have htake:(η l.sub).take (qB2 (η l.sub) p.k)=A:=by rw[show qB2 (η l.sub) p.k=A.length from hA.symm,show η l.sub=A++m::B from e];simp
  have hdrop:(η l.sub).drop (qB2 (η l.sub) p.k+1)=B:=by
   rw[show qB2 (η l.sub) p.k=A.length from hA.symm,show η l.sub=(A++[m])++B by rw[show η l.sub=A++m::B from e];simp];exact List.drop_left' (by simp)
  have hw:qE3 (n+1) l p=qD7 n l.key (A++qE3 n m p++B):=by
   show (match (η l.sub)[qB2 (η l.sub) p.k]? with
    | some m=>qD7 n l.key ((η l.sub).take (qB2 (η l.sub) p.k)++qE3 n m p++(η l.sub).drop (qB2 (η l.sub) p.k+1))
    | none=>[])=_
   rw[hget,htake,hdrop]
  rw[hw];obtain⟨b1,b2,b3⟩:=zG5 hsp (fun x hx=>by
   simp only[List.mem_append] at hx;rcases hx with (hx|hx)|hx
   ·exact (hall x (by simp[hx])).2.1
   ·exact hwc x hx
   ·exact (hall x (by simp[hx])).2.1) hmm hz
  refine⟨b1,?_,?_⟩
  ·rw[b2];show _=ins p (List.flatMap (fun l:Lnk (Tn n)=>cont n l.sub) l.sub);rw[e];simp only[List.flatMap_append,w2,List.flatMap_cons];rw[←List.append_assoc,jB6 (fun q hq=>by obtain⟨a,ha,hq⟩:=List.mem_flatMap.1 hq;exact hqA a ha q hq) (fun q hq=>by
    obtain⟨b,hb,hq⟩:=List.mem_flatMap.1 hq;exact qN7 (hqB b hb) ((qK4 n b.key b.sub (hall b (by simp[hb])).1).2 q hq).2)]
  ·rcases b3 with⟨a,e1,e2,e3,e4⟩|⟨a,b,e1,e2,e3,e4,e5,e6⟩
   ·refine .inl ⟨a,e1,e2,e3,?_⟩;rw[e4];show List.length (α:=Lnk (Tn n)) l.sub≤List.length (α:=Lnk (Tn n)) (A++qE3 n m p++B);rw[e];have:1≤(qE3 n m p).length:=by
     rcases w3 with⟨a,e1,_⟩|⟨a,b,e1,_⟩<;>rw[e1]<;>simp
    simp;omega
   ·exact .inr ⟨a,b,e1,e2,e3,e4,e5,e6⟩
theorem jD2:∀ (n:Nat) (a b:Lnk (Tn n)),Good n a.key a.sub→Good n b.key b.sub→qR8 n a b→(cnt n a.sub≤2∨cnt n b.sub≤2)→a.key.size≤8→3≤cnt n a.sub+cnt n b.sub→1≤cnt n a.sub→
  Row0 n a.key (qE2 n a.key a.sub b.sub)∧(qE2 n a.key a.sub b.sub).flatMap (fun l=>cont n l.sub)=cont n a.sub++cont n b.sub∧(∀ w∈qE2 n a.key a.sub b.sub,3≤cnt n w.sub)∧qE2 n a.key a.sub b.sub≠[]∧meas qA3 (qE2 n a.key a.sub b.sub)≤qA3 a+19
 | 0,a,b,ha,hb,hab,hc,hz,h3,h1=>by
  have hs:Sorted (prs a.sub++prs b.sub):=Sorted.append.2 ⟨ha.sorted,hb.sorted,fun x hx y hy=>qN7 (hab.2 x hx) (hb.all y hy).2⟩;have ho:∀ p∈prs a.sub++prs b.sub,qC3 p∧kl p.k a.key=false:=fun p hp=>by
   rcases List.mem_append.1 hp with hp|hp
   ·exact ha.all p hp
   ·exact⟨(hb.all p hp).1,zV8 (qP8 hab.1) (hb.all p hp).2⟩
  have hsz:∀ p∈prs a.sub++prs b.sub,ν p≤21:=fun p hp=>by obtain⟨⟨h1,h2,h3⟩,_⟩:=ho p hp;unfold ν;omega
  have hm:meas ν (prs a.sub++prs b.sub)≤210:=by
   rw[qF4];have h1:=qO0 ν 21 (prs a.sub) fun p hp=>hsz p (List.mem_append_left _ hp);have h2:=qO0 ν 21 (prs b.sub) fun p hp=>hsz p (List.mem_append_right _ hp);have h3:meas ν (prs a.sub)≤126:=ha.fits;have h4:meas ν (prs b.sub)≤126:=hb.fits;have h5:(prs a.sub).length≤2∨(prs b.sub).length≤2:=hc;omega
  obtain⟨r1,r2,r3⟩:=qU8 hs ho hm hz;refine⟨r1,r2,?_,?_,?_⟩
  ·intro w hw;rw[show qE2 0 a.key a.sub b.sub=qE1 a.key (prs a.sub++prs b.sub) from rfl] at hw;rcases r3 with⟨x,e1,e2,e3,e4⟩|⟨x,y,e1,e2,e3,e4,e5,e6⟩
   ·rw[e1] at hw;rw[List.mem_singleton.1 hw,e4];show 3≤(prs a.sub++prs b.sub).length;rw[List.length_append];exact h3
   ·rw[e1] at hw;simp only[List.mem_cons,List.not_mem_nil,or_false] at hw;rcases hw with rfl|rfl<;>assumption
  ·show qE1 a.key (prs a.sub++prs b.sub)≠[];rcases r3 with⟨x,e1,_⟩|⟨x,y,e1,_⟩<;>rw[e1]<;>simp
  ·show meas qA3 (qE1 a.key (prs a.sub++prs b.sub))≤_;rcases r3 with⟨x,e1,e2,_⟩|⟨x,y,e1,e2,_⟩
   ·rw[e1];simp[meas,qA3,e2]
   ·have:=(r1.all y (by rw[e1];simp)).2;rw[e1];simp[meas,qA3,e2];omega
 | n+1,a,b,ha,hb,hab,hc,hz,h3,h1=>by
  have hall:∀ l∈η a.sub++η b.sub,Good n l.key l.sub∧3≤cnt n l.sub∧l.key.size≤8:=fun l hl=>by
   rcases List.mem_append.1 hl with hl|hl
   ·exact ha.all l hl
   ·exact hb.all l hl
  have hkb:∀ l∈η b.sub,kl l.key b.key=false:=fun l hl=>(Row0.keys (W:=η b.sub) ⟨hb.head,fun m hm=>⟨(hb.all m hm).1,(hb.all m hm).2.2⟩,hb.pair⟩) l hl;have hae:η a.sub≠[]:=fun e=>by
   have h4:1≤(η a.sub).length:=h1;rw[e] at h4;simp at h4
  have hr:Row0 n a.key (η a.sub++η b.sub):=by
   refine⟨?_,fun l hl=>⟨(hall l hl).1,(hall l hl).2.2⟩,List.pairwise_append.2 ⟨ha.pair,hb.pair,?_⟩⟩
   ·intro l hl;rw[List.head?_append] at hl
    cases hx:η a.sub with
    | nil=>exact absurd hx hae
    | cons x r=>
     rw[hx] at hl;exact ha.head l (by show l∈(η a.sub).head?;rw[hx];simpa using hl)
   ·intro x hx y hy;have hxg:=hall x (List.mem_append_left _ hx);have hxb:∀ q∈cont n x.sub,kl q.k y.key=true:=fun q hq=>qN7 (hab.2 q (List.mem_flatMap.2 ⟨x,hx,hq⟩)) (hkb y hy);obtain⟨q,hq⟩:=qZ1 n x.key x.sub hxg.1 (by omega);exact⟨qU4 ((qK4 n x.key x.sub hxg.1).2 q hq).2 (hxb q hq),hxb⟩
  have hsz:∀ l∈η a.sub++η b.sub,qA3 l≤21:=fun l hl=>by have:=(hall l hl).2.2;unfold qA3;omega
  have hm:meas qA3 (η a.sub++η b.sub)≤210:=by
   rw[qF4];have h1:=qO0 qA3 21 (η a.sub) fun p hp=>hsz p (List.mem_append_left _ hp);have h2:=qO0 qA3 21 (η b.sub) fun p hp=>hsz p (List.mem_append_right _ hp);have h3:meas qA3 (η a.sub)≤126:=ha.fits;have h4:meas qA3 (η b.sub)≤126:=hb.fits;have h5:(η a.sub).length≤2∨(η b.sub).length≤2:=hc;omega
  obtain⟨r1,r2,r3⟩:=zG5 hr (fun l hl=>(hall l hl).2.1) hm hz;refine⟨r1,?_,?_,?_,?_⟩
  ·refine Eq.trans r2 ?_;rw[List.flatMap_append];rfl
  ·intro w hw;rw[show qE2 (n+1) a.key a.sub b.sub=qD7 n a.key (η a.sub++η b.sub) from rfl] at hw;rcases r3 with⟨x,e1,e2,e3,e4⟩|⟨x,y,e1,e2,e3,e4,e5,e6⟩
   ·rw[e1] at hw;rw[List.mem_singleton.1 hw,e4];show 3≤(η a.sub++η b.sub).length;rw[List.length_append];exact h3
   ·rw[e1] at hw;simp only[List.mem_cons,List.not_mem_nil,or_false] at hw;rcases hw with rfl|rfl<;>assumption
  ·show qD7 n a.key (η a.sub++η b.sub)≠[];rcases r3 with⟨x,e1,_⟩|⟨x,y,e1,_⟩<;>rw[e1]<;>simp
  ·show meas qA3 (qD7 n a.key (η a.sub++η b.sub))≤_;rcases r3 with⟨x,e1,e2,_⟩|⟨x,y,e1,e2,_⟩
   ·rw[e1];simp[meas,qA3,e2]
   ·have:=(r1.all y (by rw[e1];simp)).2;rw[e1];simp[meas,qA3,e2];omega
def RGood:Root→Prop
 | .none=>True
 | .at n l=>l.key=⟨#[]⟩∧Good n l.key l.sub∧min n 1<cnt n l.sub
theorem zM2{n:Nat}{l:Lnk (Tn n)}{d:Nat}{W:List (Lnk (Tn n))}(hl:l.key=⟨#[]⟩)(hW:Row0 n l.key W)(hM:Made n l d W)(hd:min n 1<cnt n l.sub)(hd1:d≤1):
  RGood (qF5 n W)∧(qF5 n W).cont=W.flatMap (fun l=>cont n l.sub):=by
 rcases hM with⟨a,rfl,e1,e2,e3⟩|⟨a,b,rfl,e1,e2,e3,e4,e5⟩
 ·have ga:=hW.all a (by simp);have e:qF5 n [a]=qQ3 n a:=rfl;rw[e]
  cases n with
  | zero=>
   have hf:[a].flatMap (fun l=>cont 0 l.sub)=prs a.sub:=List.append_nil _;rw[hf];show RGood (match prs a.sub with | []=>.none | _::_=>.at 0 a)∧Root.cont (match prs a.sub with | []=>.none | _::_=>.at 0 a)=_
   cases hp:prs a.sub with
   | nil=>exact⟨trivial,rfl⟩
   | cons x r=>
    refine⟨⟨by rw[e1,hl],ga.1,?_⟩,hp⟩;show 0<(prs a.sub).length;rw[hp];simp
  | succ n=>
   have hf:[a].flatMap (fun l=>cont (n+1) l.sub)=(η a.sub).flatMap fun l=>cont n l.sub:=List.append_nil _;rw[hf];have hc:(η l.sub).length≤(η a.sub).length+d:=e3;have hc2:1<(η l.sub).length:=by have h2:min (n+1) 1<(η l.sub).length:=hd;omega
   show RGood (match η a.sub with | []=>.none | [m]=>.at n m | _::_::_=>.at (n+1) a)∧Root.cont (match η a.sub with | []=>.none | [m]=>.at n m | _::_::_=>.at (n+1) a)=_
   cases hp:η a.sub with
   | nil=>rw[hp] at hc;simp at hc;omega
   | cons x r=>
    cases r with
    | nil=>
     have gx:=ga.1.all x (by show x∈η a.sub;rw[hp];simp);have hx:=ga.1.head x (by show x∈(η a.sub).head?;rw[hp];simp);refine⟨⟨by rw[hx,e1,hl],gx.1,by have:=gx.2.1;omega⟩,(List.append_nil _).symm⟩
    | cons y r=>
     refine⟨⟨by rw[e1,hl],ga.1,?_⟩,?_⟩
     ·show min (n+1) 1<(η a.sub).length;rw[hp];simp
     ·show (η a.sub).flatMap (fun l=>cont n l.sub)=_;rw[hp]
 ·have hb:=hW.all b (by simp);have h2:meas qA3 [a,b]≤126:=by
   have:=(hW.all a (by simp)).2;simp[meas,qA3];omega
  have e:qD7 n ⟨#[]⟩ [a,b]=[⟨⟨#[]⟩,none,[a,b]⟩]:=by
   unfold qD7 qB6;rw[if_pos h2];rfl
  have e':qF5 n [a,b]=.at (n+1) ⟨⟨#[]⟩,none,[a,b]⟩:=by
   show (match qD7 n ⟨#[]⟩ [a,b] with | []=>Root.none | r::_=>qQ3 (n+1) r)=_;rw[e];rfl
  rw[e'];refine⟨⟨rfl,⟨?_,?_,hW.pair,h2⟩,?_⟩,rfl⟩
  ·intro x hx;have:x=a:=by simpa using hx.symm
   rw[this,e1,hl]
  ·intro x hx;refine⟨(hW.all x hx).1,?_,(hW.all x hx).2⟩;have hx:x∈[a,b]:=hx;simp only[List.mem_cons,List.not_mem_nil,or_false] at hx;rcases hx with rfl|rfl<;>assumption
  ·show min (n+1) 1<2;omega
theorem qO9{r:Root}{p:KV}(h:RGood r)(hp:qC3 p):RGood (r.put p)∧(r.put p).cont=ins p r.cont:=by
 cases r with
 | none=>
  have hs:Sorted [p]:=by simp[Sorted]
  have hz:(⟨#[]⟩:ByteArray).size≤8:=by decide
  obtain⟨r1,r2,r3⟩:=qU8 (lo:=⟨#[]⟩) (ps:=[p]) hs (fun q hq=>by rw[List.mem_singleton.1 hq];exact⟨hp,qN6 _⟩) (by obtain⟨h1,h2,h3⟩:=hp;simp[meas,ν];omega) hz;have hM:Made 0 ⟨⟨#[]⟩,none,[p]⟩ 0 (qE1 ⟨#[]⟩ [p]):=by
   rcases r3 with⟨a,e1,e2,e3,e4⟩|⟨a,b,e1,e2,e3,e4,e5,e6⟩
   ·exact .inl ⟨a,e1,e2,e3,by rw[e4];exact Nat.le_refl _⟩
   ·exact .inr ⟨a,b,e1,e2,e3,e4,e5,e6⟩
  have:=zM2 (n:=0) (l:=(⟨⟨#[]⟩,none,[p]⟩:Lnk (List KV))) rfl r1 hM (by show 0<1;omega) (by omega);rw[r2] at this;refine⟨this.1,this.2.trans ?_⟩;simp[ins,Root.cont]
 | «at» n l=>
  obtain⟨h1,h2,h3⟩:=h;obtain⟨w1,w2,w3⟩:=qW2 n l p h2 hp (by rw[h1];exact qN6 _) (by rw[h1];decide) (by omega);have:=zM2 h1 w1 w3 h3 (by omega);rw[w2] at this;exact this
def qB1:(n:Nat)→Tn n→Nat
 | 0,_=>1
 | n+1,ls=>1+meas (fun l:Lnk (Tn n)=>qB1 n l.sub) ls
def news:(n:Nat)→Lnk (Tn n)→Nat
 | 0,l=>if l.ref.isSome then 0 else 1
 | n+1,l=>if l.ref.isSome then 0 else 1+meas (fun m:Lnk (Tn n)=>news n m) (η l.sub)
def Root.news:Root→Nat
 | .none=>0
 | .at n l=>YtdohpenfkdckiabGreatDoor.news n l
theorem zK0{α:Type}{f g:α→Nat}:∀ (l:List α),(∀ x∈l,f x≤g x)→meas f l≤meas g l
 | [],_=>Nat.le_refl _
 | x::l,h=>by
  rw[qE0,qE0];have:=h x (by simp);have:=zK0 l fun y hy=>h y (by simp[hy]);omega
theorem zK2:∀ (n:Nat) (l:Lnk (Tn n)),news n l≤qB1 n l.sub
 | 0,l=>by unfold news qB1;split<;>omega
 | n+1,l=>by
  unfold news qB1;split
  ·omega
  ·have:=zK0 (f:=fun m:Lnk (Tn n)=>news n m) (g:=fun m=>qB1 n m.sub) (η l.sub) fun m _=>zK2 n m;show 1+_≤1+meas _ (η l.sub);omega
theorem qY1:∀ (n:Nat) (lo:ByteArray) (t:Tn n),Good n lo t→2*qB1 n t+cnt n t≤(cont n t).length+2
 | 0,lo,ps,h=>by show 2*1+(prs ps).length≤(prs ps).length+2;omega
 | n+1,lo,ls,h=>by
  have key:∀ (ls:List (Lnk (Tn n))),(∀ l∈ls,Good n l.key l.sub∧3≤cnt n l.sub)→2*meas (fun l:Lnk (Tn n)=>qB1 n l.sub) ls+ls.length≤(ls.flatMap fun l=>cont n l.sub).length:=by
   intro ls
   induction ls with
   | nil=>intro _;simp[meas]
   | cons a ls ih=>
    intro hg;have h1:=ih fun l hl=>hg l (by simp[hl]);have h2:=qY1 n a.key a.sub (hg a (by simp)).1;have h3:=(hg a (by simp)).2;rw[qE0,List.flatMap_cons,List.length_append,List.length_cons];omega
  have:=key (η ls) fun l hl=>⟨(h.all l hl).1,(h.all l hl).2.1⟩;show 2*(1+meas _ (η ls))+(η ls).length≤((η ls).flatMap fun l=>cont n l.sub).length+2;omega
theorem zY3:∀ (n:Nat) (lo:ByteArray) (t:Tn n),Good n lo t→1≤cnt n t→n+1≤qB1 n t
 | 0,lo,ps,h,_=>by show 1≤1;omega
 | n+1,lo,ls,h,h1=>by
  have h2:1≤(η ls).length:=h1;obtain⟨a,r,e⟩:∃ a r,η ls=a::r:=by
   cases hx:η ls with
   | nil=>rw[hx] at h2;simp at h2
   | cons a r=>exact⟨a,r,rfl⟩
  have ha:=h.all a (by show a∈η ls;rw[e];simp);have:=zY3 n a.key a.sub ha.1 (by omega);show n+1+1≤1+meas _ (η ls);rw[e,qE0];omega
theorem zL3{n:Nat}{l:Lnk (Tn n)}(h:RGood (.at n l)):2*n≤(cont n l.sub).length:=by
 obtain⟨h1,h2,h3⟩:=h;have a:=qY1 n l.key l.sub h2;have b:=zY3 n l.key l.sub h2 (by omega);omega
theorem jO4{r:Root}(h:RGood r):Sorted r.cont∧∀ q∈r.cont,qC3 q:=by
 cases r with
 | none=>exact⟨List.Pairwise.nil,fun q hq=>by cases hq⟩
 | «at» n l=>
  obtain⟨h1,h2,h3⟩:=h;exact⟨(qK4 n l.key l.sub h2).1,fun q hq=>((qK4 n l.key l.sub h2).2 q hq).1⟩
def Up(f:ByteArray→Bool):Prop:=∀ a b,kl a b=true→f a=true→f b=true
theorem xK3{l:List KV}{f:ByteArray→Bool}(h:∀ q∈l,f q.k=false):l.find? (fun q=>f q.k)=none:=by
 rw[List.find?_eq_none];intro q hq;simp[h q hq]
theorem xW9{n:Nat}{lo:ByteArray}{f:ByteArray→Bool}(hf:Up f){ls:List (Lnk (Tn n))}(h:Row0 n lo ls):
  (ls.flatMap fun l=>cont n l.sub).find? (fun q=>f q.k)=((ls.drop (ls.findIdx (fun l=>f l.key)-1)).flatMap fun l=>cont n l.sub).find? (fun q=>f q.k):=by
 by_cases h0:ls.findIdx (fun l=>f l.key)=0
 ·simp[h0]
 ·obtain⟨i,hi⟩:∃ i,i=ls.findIdx (fun l=>f l.key)-1:=⟨_,rfl⟩;rw[←hi];have hle:ls.findIdx (fun l=>f l.key)≤ls.length:=List.findIdx_le_length;have hlt:i<ls.length:=by omega
  have hm:f (ls[i]).key=false:=by
   have:=List.not_of_lt_findIdx (p:=fun l:Lnk (Tn n)=>f l.key) (xs:=ls) (i:=i) (by omega);simpa using this
  have hp:=h.pair;rw[←List.take_append_drop i ls,List.drop_eq_getElem_cons hlt] at hp;have hp3:=(List.pairwise_append.1 hp).2.2
  conv=>lhs;rw[←List.take_append_drop i ls,List.flatMap_append,List.find?_append]
  rw[xK3 fun q hq=>?_]
  ·simp
  ·obtain⟨a,ha,hq⟩:=List.mem_flatMap.1 hq;have:=(hp3 a ha ls[i] (List.mem_cons_self ..)).2 q hq;by_cases e:f q.k=true
   ·rw[hf _ _ this e] at hm;cases hm
   ·simpa using e
end Go.Proofs.YtdohpenfkdckiabGreatDoor
namespace Go.Proofs.YtdohpenfkdckiabGreatDoor
open Go.Proofs.Tryz
open Go.RowKit
theorem xG2(g:Nat)(cap:Array Value)(n:Nat)(P:Nat→Bool)(w:World)(hn:n≤1000000)(hup:∀ i j,i≤j→j<n→P i=true→P j=true)
  (hcf:∀ (args:Array Value) (W:World),Sem.run prog (callFunc g args) W=.ok (.enter g args) W)
  (hf:∀ W,Kp [] w W→∀ i:Nat,i<n→Calls prog g (#[.int .i64 i]++cap) W fun e W'=>e=.returned (.bool (P i))∧Kp [] W W'):
  Calls prog 170 #[.int .i64 n,.func (.func g) #[] cap] w fun e w'=>∃ i:Nat,e=.returned (.int .i64 i)∧(i≤n∧(∀ j,j<i→P j=false)∧(i<n→P i=true))∧Kp [] w w':=by
 have HF:=zh hf;have HU:=zh hup;clear hf hup;go_enter func170,ntmps170;go_wp2
 go_loopw [5,6] (fun s q wr=>∃ (i j:Nat),i≤j∧j≤n∧s=.int .i64 i∧q=.int .i64 j∧Hid ((∀ k,k<i→P k=false)∧(j<n→P j=true))∧Kp [] w wr) (fun s q _=>(intOf q-intOf s).toNat)
 case atStart=>exact⟨0,n,by omega,Nat.le_refl _,rfl,rfl,⟨fun k hk=>by omega,fun h=>by omega⟩,Kp.refl _ _⟩
 case round=>
  obtain⟨i,j,hij,hjn,rfl,rfl,hP,hK⟩:=hrel;by_cases hlt:i<j
  ·obtain⟨h,hh⟩:∃ h:Nat,((i:Int)+j) / 2=h:=⟨(i+j) / 2,by omega⟩;go_wp2_with fail
   try simp only[hh]
   refine (HF.out wr hK h (by omega)).mono ?_;rintro e w1 ⟨rfl,hK1⟩;have hK1':Kp [] w w1:=hK.tr hK1;by_cases hp:P h=true
   ·rw[hp];go_wp2;refine⟨⟨i,h,by omega,by omega,rfl,rfl,⟨hP.out.1,fun _=>hp⟩,hK1'⟩,by simp[intOf];omega⟩
   ·have hp0:P h=false:=by simpa using hp
    rw[hp0];go_wp2;refine⟨⟨h+1,j,by omega,by omega,by go_num,rfl,⟨fun k hk=>?_,hP.out.2⟩,hK1'⟩,by simp[intOf];omega⟩;by_cases e:P k=true
    ·have:=HU.out k h (by omega) (by omega) e;rw[hp0] at this;cases this
    ·simpa using e
  ·go_wp2;go_ret;have e:j=i:=by omega
   subst e;exact⟨j,rfl,⟨by omega,hP.out.1,hP.out.2⟩,hK⟩
theorem zV3{α:Type}{xs:List α}{f:α→Bool}{i:Nat}(h1:i≤xs.length)(h2:∀ j (h:j<xs.length),j<i→f xs[j]=false)(h3:∀ h:i<xs.length,f xs[i]=true):i=xs.findIdx f:=by
 rcases Nat.lt_trichotomy i (xs.findIdx f) with h|h|h
 ·have hle:xs.findIdx f≤xs.length:=List.findIdx_le_length;have:=List.not_of_lt_findIdx (p:=f) (xs:=xs) h;rw[h3 (by omega)] at this;simp at this
 ·exact h
 ·have hlt:xs.findIdx f<xs.length:=by omega
  have:=List.findIdx_getElem (p:=f) (xs:=xs) (w:=hlt);rw[h2 _ hlt h] at this;cases this
def Apt(w:World)(S:List Nat)(Ts:List TypeId):Prop:=∀ k∈S,∀ c t fr,w.heap[k]?=some (.cells c t fr)→t ∉ Ts
structure Slc(w:World)(T:TypeId)(sz:Nat)(v:Value)(n:Nat)(cs:List Value):Prop where
 len:cs.length=n*sz
 val:(n=0∧∃ b c,v=.slice b 0 c∧(b=none→c=0))∨∃ g off cap cur fr,v=.slice (some ⟨g,off,none⟩) n cap∧1≤n∧n≤cap∧w.heap[g]?=some (.cells cur T fr)∧∀ j u,cs[j]?=some u→cur[off+j]?=some u
theorem Slc.keep{w w':World}{T:TypeId}{sz:Nat}{v:Value}{n:Nat}{cs:List Value}{S:List Nat}(h:Slc w T sz v n cs)(hK:Kp S w w')(hS:Apt w S [T]):Slc w' T sz v n cs:=by
 refine⟨h.len,?_⟩;rcases h.val with h|⟨g,off,cap,cur,fr,h1,h2,h3,h4,h5⟩
 ·exact .inl h
 ·exact .inr ⟨g,off,cap,cur,fr,h1,h2,h3,hK.heap h4 (fun hm=>hS g hm _ _ _ h4 (by simp)),h5⟩
theorem Apt.nil(w:World)(Ts:List TypeId):Apt w [] Ts:=fun k hk=>by simp at hk
theorem Slc.keep0{w w':World}{T:TypeId}{sz:Nat}{v:Value}{n:Nat}{cs:List Value}(h:Slc w T sz v n cs)(hK:Kp [] w w'):Slc w' T sz v n cs:=h.keep hK (Apt.nil _ _)
def pcs(p:KV):List Value:=[.string p.k,.string p.v]
def qA9(ps:List KV):List Value:=ps.flatMap pcs
theorem zF6(ps:List KV):(qA9 ps).length=ps.length*2:=by
 induction ps with
 | nil=>rfl
 | cons p ps ih=>simp[qA9,pcs] at *;omega
theorem qY4{ps:List KV}{i:Nat}(h:i<ps.length):(qA9 ps)[i*2]?=some (.string ps[i].k)∧(qA9 ps)[i*2+1]?=some (.string ps[i].v):=by
 induction ps generalizing i with
 | nil=>simp at h
 | cons p ps ih=>
  cases i with
  | zero=>simp[qA9,pcs]
  | succ i=>
   have:=ih (i:=i) (by simpa using h);have e1:(qA9 (p::ps))[(i+1)*2]?=(qA9 ps)[i*2]?:=by
    rw[show qA9 (p::ps)=.string p.k::.string p.v::qA9 ps from rfl,show (i+1)*2=i*2+1+1 by omega];simp
   have e2:(qA9 (p::ps))[(i+1)*2+1]?=(qA9 ps)[i*2+1]?:=by
    rw[show qA9 (p::ps)=.string p.k::.string p.v::qA9 ps from rfl,show (i+1)*2+1=i*2+1+1+1 by omega];simp
   rw[e1,e2];simpa using this
theorem Slc.pair{w:World}{v:Value}{ps:List KV}(h:Slc w 158 2 v ps.length (qA9 ps))(hn:1≤ps.length):
  ∃ g off cap cur fr,v=.slice (some ⟨g,off,none⟩) ps.length cap∧ps.length≤cap∧w.heap[g]?=some (.cells cur 158 fr)∧∀ i (h:i<ps.length),cur[off+i*2]?=some (.string ps[i].k)∧cur[off+i*2+1]?=some (.string ps[i].v):=by
 rcases h.val with⟨h0,_⟩|⟨g,off,cap,cur,fr,h1,h2,h3,h4,h5⟩
 ·omega
 ·exact⟨g,off,cap,cur,fr,h1,h3,h4,fun i hi=>⟨h5 _ _ (qY4 hi).1,h5 _ _ (qY4 hi).2⟩⟩
structure HL where
 key:ByteArray
 b:Int
 s:Int
 p:Option Nat
def HL.ptr(l:HL):Option Addr:=l.p.map fun q=>⟨q,0,none⟩
def lcs(l:HL):List Value:=[.string l.key,.int .i64 l.b,.int .u64 l.s,.pointer l.ptr]
def qA5(ls:List HL):List Value:=ls.flatMap lcs
theorem zJ2(ls:List HL):(qA5 ls).length=ls.length*4:=by
 induction ls with
 | nil=>rfl
 | cons p ps ih=>simp[qA5,lcs] at *;omega
theorem qU7{ls:List HL}{i:Nat}(h:i<ls.length):(qA5 ls)[i*4]?=some (.string ls[i].key)∧(qA5 ls)[i*4+1]?=some (.int .i64 ls[i].b)∧(qA5 ls)[i*4+2]?=some (.int .u64 ls[i].s)∧(qA5 ls)[i*4+3]?=some (.pointer ls[i].ptr):=by
 induction ls generalizing i with
 | nil=>simp at h
 | cons p ps ih=>
  cases i with
  | zero=>simp[qA5,lcs]
  | succ i=>
   have:=ih (i:=i) (by simpa using h);have e:∀ c,(qA5 (p::ps))[(i+1)*4+c]?=(qA5 ps)[i*4+c]?:=fun c=>by
    rw[show qA5 (p::ps)=.string p.key::.int .i64 p.b::.int .u64 p.s::.pointer p.ptr::qA5 ps from rfl,show (i+1)*4+c=i*4+c+1+1+1+1 by omega];simp
   have e0:=e 0;rw[Nat.add_zero,Nat.add_zero] at e0;rw[e0,e 1,e 2,e 3];simpa using this
theorem Slc.link{w:World}{v:Value}{ls:List HL}(h:Slc w 81 4 v ls.length (qA5 ls))(hn:1≤ls.length):
  ∃ g off cap cur fr,v=.slice (some ⟨g,off,none⟩) ls.length cap∧ls.length≤cap∧w.heap[g]?=some (.cells cur 81 fr)∧∀ i (h:i<ls.length),cur[off+i*4]?=some (.string ls[i].key)∧cur[off+i*4+1]?=some (.int .i64 ls[i].b)∧cur[off+i*4+2]?=some (.int .u64 ls[i].s)∧cur[off+i*4+3]?=some (.pointer ls[i].ptr):=by
 rcases h.val with⟨h0,_⟩|⟨g,off,cap,cur,fr,h1,h2,h3,h4,h5⟩
 ·omega
 ·exact⟨g,off,cap,cur,fr,h1,h3,h4,fun i hi=>⟨h5 _ _ (qU7 hi).1,h5 _ _ (qU7 hi).2.1,h5 _ _ (qU7 hi).2.2.1,h5 _ _ (qU7 hi).2.2.2⟩⟩
theorem xW5(g F L:Nat)(cap:Array Value)(v:Value)(ps:List KV)(f:KV→Bool)(i:Nat)(w:World)(hF:w.heap[F]?=some (.cells #[.func (.func g) #[] cap] 215))(hL:w.heap[L]?=some (.cells #[v] 149))
  (hs:Slc w 158 2 v ps.length (qA9 ps)) (hi:i<ps.length) (hn:ps.length≤1000000)
  (hcf:∀ (args:Array Value) (W:World),Sem.run prog (callFunc g args) W=.ok (.enter g args) W)
  (hf:∀ W,Kp [] w W→Calls prog g (#[.agg #[.string ps[i].k,.string ps[i].v]]++cap) W fun e W'=>e=.returned (.bool (f ps[i]))∧Kp [] W W'):
  Calls prog 171 #[.int .i64 i,.pointer (some ⟨F,0,none⟩),.pointer (some ⟨L,0,none⟩)] w fun e w'=>e=.returned (.bool (f ps[i]))∧Kp [] w w':=by
 obtain⟨gb,off,cp,cur,fr,rfl,hcp,hrow,hcur⟩:=hs.pair (by omega);obtain⟨c0,c1⟩:=hcur i hi;have HF:=zh hf;clear hf hs hcur;go_enter func171,ntmps171;go_wp2_with fail;have hS0:w.heap[F]?=some (.cells #[.func (.func g) #[] cap] 215)∧w.heap[L]?=some (.cells #[.slice (some ⟨gb,off,none⟩) ps.length cp] 149)∧w.heap[gb]?=some (.cells cur 158 fr):=⟨hF,hL,hrow⟩;refine wp_region_held_drew (S:=fun W=>W.heap[F]?=some (.cells #[.func (.func g) #[] cap] 215)∧W.heap[L]?=some (.cells #[.slice (some ⟨gb,off,none⟩) ps.length cp] 149)∧W.heap[gb]?=some (.cells cur 158 fr)) (by kernel_rfl) hS0 (fun _=>?_);refine zV 0 (.func (.func g) #[] cap) rfl (fun W hS=>by have c:=ξ hS.1 0;simp at c;clear hS;go_simp) hS0 ?_;refine zV 1 (.slice (some ⟨gb,off,none⟩) ps.length cp) rfl (fun W hS=>by have c:=ξ hS.2.1 0;simp at c;clear hS;go_simp) hS0 ?_;refine zU 2 (.int .i64 i) hS0 ?_;refine zU 3 (.pointer (some ⟨gb,off+i*2,none⟩)) hS0 ?_;refine zV 4 (.agg #[.string ps[i].k,.string ps[i].v]) rfl (fun W hS=>by have a0:=ξ hS.2.2 (off+i*2);rw[c0] at a0;have a1:=ξ hS.2.2 (off+i*2+1);rw[c1] at a1;clear hS;go_simp) hS0 ?_;refine zq 5 fun K hK=>?_;go_simp;refine (HF.out w.drew ((Kp.refl _ _).drew)).mono ?_;rintro e w1 ⟨rfl,hK1⟩;have hK1':Kp [] w w1:=((Kp.refl _ w).drew).tr hK1;have hS1:=And.intro (hK1'.hp hF) (And.intro (hK1'.hp hL) (hK1'.hp hrow));refine hK.out _ _ hS1 (fun _=>?_);clear hK K
 try simp only[zZ]
 refine zq 6 fun K hK=>?_;go_simp;refine hK.out _ _ hS1 (fun _=>?_);clear hK K;refine zd ?_;go_wp2;go_ret;exact⟨rfl,hK1'⟩
theorem zT7(g:Nat)(cap:Array Value)(v:Value)(ps:List KV)(f:KV→Bool)(w:World)
  (hs:Slc w 158 2 v ps.length (qA9 ps)) (hn:ps.length≤1000000) (hup:∀ i j (hi:i<ps.length) (hj:j<ps.length),i≤j→f ps[i]=true→f ps[j]=true)
  (hcf:∀ (args:Array Value) (W:World),Sem.run prog (callFunc g args) W=.ok (.enter g args) W)
  (hf:∀ W,Kp [] w W→∀ i (h:i<ps.length),Calls prog g (#[.agg #[.string ps[i].k,.string ps[i].v]]++cap) W fun e W'=>e=.returned (.bool (f ps[i]))∧Kp [] W W'):
  Calls prog 126 #[v,.func (.func g) #[] cap] w fun e w'=>e=.returned (.int .i64 (ps.findIdx f:Nat))∧Kp [] w w':=by
 have hmf:=zM;obtain⟨bs,cp,hv⟩:∃ bs cp,v=.slice bs ps.length cp:=by
  rcases hs.val with⟨h0,b,c,h1,_⟩|⟨g,off,cap,cur,fr,h1,_⟩
  ·rw[h0];exact⟨b,c,h1⟩
  ·exact⟨_,cap,h1⟩
 subst hv;have HF:=zh hf;have HU:=zh hup;clear hf hup;go_enter func126,ntmps126;go_wp2_with fail;obtain⟨w1,hw1,hL1,hF1,hK1⟩:∃ w1,w1=(w.alloc (.cells #[.slice bs ps.length cp] 149)).alloc (.cells #[.func (.func g) #[] cap] 215)∧w1.heap[w.heap.size]?=some (.cells #[.slice bs ps.length cp] 149)∧w1.heap[w.heap.size+1]?=some (.cells #[.func (.func g) #[] cap] 215)∧Kp [] w w1:=by
  refine⟨_,rfl,θ _ (μ _ _),?_,((Kp.refl _ _).alloc _).alloc _⟩;have e:=μ (w.alloc (.cells #[.slice bs ps.length cp] 149)) (.cells #[.func (.func g) #[] cap] 215);simpa using e
 rw[←hw1];clear hw1;refine (xG2 171 _ ps.length (fun i=>((ps[i]?.map f).getD false)) w1 hn ?_ ?_ ?_).mono ?_
 ·intro i j hij hj hp;have hi:i<ps.length:=by omega
  simp only[List.getElem?_eq_getElem hi,List.getElem?_eq_getElem hj,Option.map_some,Option.getD_some] at *;exact HU.out i j hi hj hij hp
 ·intro args W;simp[go_sem,func171]
 ·intro W hKW i hi;refine (xW5 g (w.heap.size+1) w.heap.size cap _ ps f i W (hKW.hp hF1) (hKW.hp hL1) (hs.keep0 (hK1.tr hKW)) hi hn hcf (fun W' hK'=>HF.out W' ((hK1.tr hKW).tr hK') i hi)).mono ?_;rintro e W' ⟨rfl,hK'⟩;exact⟨by simp[List.getElem?_eq_getElem hi],hK'⟩
 ·rintro e w2 ⟨i,rfl,⟨h1,h2,h3⟩,hK2⟩;have e:i=ps.findIdx f:=zV3 h1 (fun j hj hji=>by
   have:=h2 j hji;simpa [List.getElem?_eq_getElem hj] using this) (fun h=>by
   have:=h3 h;simpa [List.getElem?_eq_getElem h] using this)
  subst e;have hK2':=hK1.tr hK2;go_wp2;go_ret;exact⟨rfl,hK2'⟩
theorem xW3(g F L:Nat)(cap:Array Value)(v:Value)(ps:List HL)(f:HL→Bool)(i:Nat)(w:World)(hF:w.heap[F]?=some (.cells #[.func (.func g) #[] cap] 213))(hL:w.heap[L]?=some (.cells #[v] 150))
  (hs:Slc w 81 4 v ps.length (qA5 ps)) (hi:i<ps.length) (hn:ps.length≤1000000)
  (hcf:∀ (args:Array Value) (W:World),Sem.run prog (callFunc g args) W=.ok (.enter g args) W)
  (hf:∀ W,Kp [] w W→Calls prog g (#[.agg #[.string ps[i].key,.int .i64 ps[i].b,.int .u64 ps[i].s,.pointer ps[i].ptr]]++cap) W fun e W'=>e=.returned (.bool (f ps[i]))∧Kp [] W W'):
  Calls prog 193 #[.int .i64 i,.pointer (some ⟨F,0,none⟩),.pointer (some ⟨L,0,none⟩)] w fun e w'=>e=.returned (.bool (f ps[i]))∧Kp [] w w':=by
 obtain⟨gb,off,cp,cur,fr,rfl,hcp,hrow,hcur⟩:=hs.link (by omega);obtain⟨c0,c1,c2,c3⟩:=hcur i hi;have HF:=zh hf;clear hf hs hcur;go_enter func193,ntmps193;go_wp2_with fail;have hS0:w.heap[F]?=some (.cells #[.func (.func g) #[] cap] 213)∧w.heap[L]?=some (.cells #[.slice (some ⟨gb,off,none⟩) ps.length cp] 150)∧w.heap[gb]?=some (.cells cur 81 fr):=⟨hF,hL,hrow⟩;refine wp_region_held_drew (S:=fun W=>W.heap[F]?=some (.cells #[.func (.func g) #[] cap] 213)∧W.heap[L]?=some (.cells #[.slice (some ⟨gb,off,none⟩) ps.length cp] 150)∧W.heap[gb]?=some (.cells cur 81 fr)) (by kernel_rfl) hS0 (fun _=>?_);refine zV 0 (.func (.func g) #[] cap) rfl (fun W hS=>by have c:=ξ hS.1 0;simp at c;clear hS;go_simp) hS0 ?_;refine zV 1 (.slice (some ⟨gb,off,none⟩) ps.length cp) rfl (fun W hS=>by have c:=ξ hS.2.1 0;simp at c;clear hS;go_simp) hS0 ?_;refine zU 2 (.int .i64 i) hS0 ?_;refine zU 3 (.pointer (some ⟨gb,off+i*4,none⟩)) hS0 ?_;refine zV 4 (.agg #[.string ps[i].key,.int .i64 ps[i].b,.int .u64 ps[i].s,.pointer ps[i].ptr]) rfl (fun W hS=>by have a0:=ξ hS.2.2 (off+i*4);rw[c0] at a0;have a1:=ξ hS.2.2 (off+i*4+1);rw[c1] at a1;have a2:=ξ hS.2.2 (off+i*4+2);rw[c2] at a2;have a3:=ξ hS.2.2 (off+i*4+3);rw[c3] at a3;clear hS;go_simp) hS0 ?_;refine zq 5 fun K hK=>?_;go_simp;refine (HF.out w.drew ((Kp.refl _ _).drew)).mono ?_;rintro e w1 ⟨rfl,hK1⟩;have hK1':Kp [] w w1:=((Kp.refl _ w).drew).tr hK1;have hS1:=And.intro (hK1'.hp hF) (And.intro (hK1'.hp hL) (hK1'.hp hrow));refine hK.out _ _ hS1 (fun _=>?_);clear hK K
 try simp only[zZ]
 refine zq 6 fun K hK=>?_;go_simp;refine hK.out _ _ hS1 (fun _=>?_);clear hK K;refine zd ?_;go_wp2;go_ret;exact⟨rfl,hK1'⟩
theorem xW4(g:Nat)(cap:Array Value)(v:Value)(ps:List HL)(f:HL→Bool)(w:World)
  (hs:Slc w 81 4 v ps.length (qA5 ps)) (hn:ps.length≤1000000) (hup:∀ i j (hi:i<ps.length) (hj:j<ps.length),i≤j→f ps[i]=true→f ps[j]=true)
  (hcf:∀ (args:Array Value) (W:World),Sem.run prog (callFunc g args) W=.ok (.enter g args) W)
  (hf:∀ W,Kp [] w W→∀ i (h:i<ps.length),Calls prog g (#[.agg #[.string ps[i].key,.int .i64 ps[i].b,.int .u64 ps[i].s,.pointer ps[i].ptr]]++cap) W fun e W'=>e=.returned (.bool (f ps[i]))∧Kp [] W W'):
  Calls prog 168 #[v,.func (.func g) #[] cap] w fun e w'=>e=.returned (.int .i64 (ps.findIdx f:Nat))∧Kp [] w w':=by
 have hmf:=zM;obtain⟨bs,cp,hv⟩:∃ bs cp,v=.slice bs ps.length cp:=by
  rcases hs.val with⟨h0,b,c,h1,_⟩|⟨g,off,cap,cur,fr,h1,_⟩
  ·rw[h0];exact⟨b,c,h1⟩
  ·exact⟨_,cap,h1⟩
 subst hv;have HF:=zh hf;have HU:=zh hup;clear hf hup;go_enter func168,ntmps168;go_wp2_with fail;obtain⟨w1,hw1,hL1,hF1,hK1⟩:∃ w1,w1=(w.alloc (.cells #[.slice bs ps.length cp] 150)).alloc (.cells #[.func (.func g) #[] cap] 213)∧w1.heap[w.heap.size]?=some (.cells #[.slice bs ps.length cp] 150)∧w1.heap[w.heap.size+1]?=some (.cells #[.func (.func g) #[] cap] 213)∧Kp [] w w1:=by
  refine⟨_,rfl,θ _ (μ _ _),?_,((Kp.refl _ _).alloc _).alloc _⟩;have e:=μ (w.alloc (.cells #[.slice bs ps.length cp] 150)) (.cells #[.func (.func g) #[] cap] 213);simpa using e
 rw[←hw1];clear hw1;refine (xG2 193 _ ps.length (fun i=>((ps[i]?.map f).getD false)) w1 hn ?_ ?_ ?_).mono ?_
 ·intro i j hij hj hp;have hi:i<ps.length:=by omega
  simp only[List.getElem?_eq_getElem hi,List.getElem?_eq_getElem hj,Option.map_some,Option.getD_some] at *;exact HU.out i j hi hj hij hp
 ·intro args W;simp[go_sem,func193]
 ·intro W hKW i hi;refine (xW3 g (w.heap.size+1) w.heap.size cap _ ps f i W (hKW.hp hF1) (hKW.hp hL1) (hs.keep0 (hK1.tr hKW)) hi hn hcf (fun W' hK'=>HF.out W' ((hK1.tr hKW).tr hK') i hi)).mono ?_;rintro e W' ⟨rfl,hK'⟩;exact⟨by simp[List.getElem?_eq_getElem hi],hK'⟩
 ·rintro e w2 ⟨i,rfl,⟨h1,h2,h3⟩,hK2⟩;have e:i=ps.findIdx f:=zV3 h1 (fun j hj hji=>by
   have:=h2 j hji;simpa [List.getElem?_eq_getElem hj] using this) (fun h=>by
   have:=h3 h;simpa [List.getElem?_eq_getElem h] using this)
  subst e;have hK2':=hK1.tr hK2;go_wp2;go_ret;exact⟨rfl,hK2'⟩
def OPA(w:World)(base:Nat)(v:Value)(ps:List KV):Prop:=w.ownsRow base 64 2 v ps.length (qA9 ps)
theorem xK9:(prog.info? 64).map (fun i=>(i.zero,i.size,i.bytes))=some (some (.agg #[.string ⟨#[]⟩,.string ⟨#[]⟩]),2,32):=by kernel_rfl
theorem OPA.nil(w:World)(base:Nat):OPA w base (.slice none 0 0) []:=World.ownsRow_nil _ _ _ _
theorem OPA.form{w:World}{base:Nat}{v:Value}{ps:List KV}(h:OPA w base v ps):∃ b c,v=.slice b ps.length c:=by
 rcases h.2 with⟨h0,h1⟩|⟨g,cap,cur,h1,h2⟩
 ·exact⟨none,0,by rw[h0,h1]⟩
 ·exact⟨_,cap,h1⟩
theorem zN5(ps:List KV)(p:KV):qA9 (ps++[p])=qA9 ps++[.string p.k,.string p.v]:=by simp[qA9,pcs]
theorem OPA.low{w:World}{base:Nat}{v:Value}{ps:List KV}(h:OPA w base v ps):∀ k,v.ownBlock=some k→base≤k:=fun k hk=>(World.ownsRow.lt h k hk).1
theorem xZ4{w:World}{g:Nat}{c:Array Value}{e:TypeId}(h:w.heap[g]?=some (.cells c e))(o:Nat):(w.freeze ⟨g,o,none⟩ 1).heap[g]?=some (.cells c e (o,o+1)):=by
 simp[World.freeze,Array.getElem?_modify,h]
theorem zU4{w:World}{g k:Nat}(hk:k≠g)(o:Nat):(w.freeze ⟨g,o,none⟩ 1).heap[k]?=w.heap[k]?:=by
 have:g≠k:=fun e=>hk e.symm;simp[World.freeze,Array.getElem?_modify,this]
theorem Below.freeze{B:Nat}{a w:World}(h:Below B a w){g:Nat}(hp:B≤g)(o:Nat):Below B a (w.freeze ⟨g,o,none⟩ 1):=
 ⟨h.os,h.tape,h.output,by have:=h.size;simp[World.freeze];omega,fun k hk=>(zU4 (by omega) o).trans (h.block k hk)⟩
theorem jO7{w:World}{g l cc:Nat}{c:Array Value}{e:TypeId}(h:w.heap[g]?=some (.cells c e)):
  Sem.run prog (convert 90 90 (.slice (some ⟨g,0,none⟩) l cc)) w=.ok (.slice (some ⟨g,0,none⟩) l cc) (w.freeze ⟨g,c.size,none⟩ 1):=by
 have hsh:w.shape? g=some (e,c.size):=by simp[World.shape?,h]
 simp[convert,run_underlying underlying90,run_underlying underlying5,markStringish,hsh]
theorem xN1(g k:Nat)(xs:List Int)(n:Int)(m:Nat)(w:World)(hx:k≤1000)(hxl:xs.length=k)(hm:m≤100)(hm1:1≤m)(hn:0≤n)
  (hc:∀ j,j<k→w.cell? ⟨g,j,none⟩=some (.int .u8 (xs.getD j 0))):
  Calls prog 177 #[.slice (some ⟨g,0,none⟩) k k,.int .u64 n,.int .i64 m] w fun e w'=>∃ v',e=.returned v'∧w'.ownsRow w.heap.size 5 1 v' (k+m) (u8s (xs++qB0 m n))∧Below w.heap.size w w':=by
 obtain⟨i0,hi,hz0,hz1,hz2⟩:=info_parts Tryz.info5;have hgs:∀ j,j<k→g<w.heap.size:=fun j hj=>World.block_lt_of_cell? w _ (hc j hj);go_enter func177,ntmps177;go_wp2
 go_loopw [0,1,8] (fun s q i wr=>∃ (j:Nat) (v':Value) (nj:Int),j≤m∧i=.int .i64 j∧q=.int .u64 nj∧nj=n / (256:Int) ^ j∧0≤nj∧nj≤n∧s=v'∧((j=0∧v'=.slice (some ⟨g,0,none⟩) k k∧w=wr)∨(1≤j∧wr.ownsRow w.heap.size 5 1 v' (k+j) (u8s (xs++qB0 j n))))∧Below w.heap.size w wr) (fun _ _ i _=>m-(intOf i).toNat)
 case atStart=>exact⟨0,_,n,Nat.zero_le _,rfl,rfl,by simp,hn,Int.le_refl _,rfl,.inl ⟨rfl,rfl,rfl⟩,Below.refl _ _⟩
 case round=>
  obtain⟨j,v',nj,hj,rfl,rfl,hnj,hnj0,hnj1,rfl,hcase,hbl⟩:=hrel;have HN:=zh hnj;clear hnj;rcases hcase with⟨rfl,rfl,rfl⟩|⟨hj1,hownr⟩
  ·have hlt:0<m:=by omega
   have HC:Hid (∀ b,(some (⟨g,0,none⟩:Addr))=some b→∀ j u,(u8s xs)[j]?=some u→(w.alloc (.cells #[.int .u8 (nj % 256)] 5)).cell? (b.add j)=some u):=by
    intro b hb j u hu;cases hb;rw[qM1,Nat.zero_add];have hjl:j<k:=by have:=(List.getElem?_eq_some_iff.1 hu).1;simp[u8s] at this;omega
    rw[World.cell?_alloc_past _ _ _ (hgs j hjl),hc j hjl];simp[u8s,List.getElem?_eq_getElem (show j<xs.length by omega)] at hu;simp[List.getD_eq_getElem?_getD,List.getElem?_eq_getElem (show j<xs.length by omega),hu]
   go_wp2_with (at_builtin;go_must (refine wpList_append_grows _ rfl _ _ 90 rfl 5 i0 (.int .u8 0) 1 1 underlying90 hi hz0 hz1 hz2 rfl (by decide) (some ⟨g,0,none⟩) k k (u8s xs) rfl (by simp) (by simp[u8s,hxl]) HC.out ⟨w.heap.size,0,none⟩ 1 1 [.int .u8 (nj % 256)] rfl rfl (cell_one_new _ _ _) (by simp[Value.oneCell']) (by omega) (by unfold maxLen;omega) (by omega) ?_);intro v1 w1 hown1 hgrow1)
   refine⟨⟨1,v1,nj / 256,by omega,rfl,rfl,?_,by omega,by omega,rfl,.inr ⟨Nat.le_refl _,?_⟩,?_⟩,by simp[intOf];omega⟩
   ·rw[HN.out];simp
   ·have e1:u8s (xs++qB0 1 n)=u8s xs++[.int .u8 (nj % 256)]:=by rw[HN.out];simp[u8s,qB0]
    rw[e1];exact qI7 hown1 (by simp)
   ·exact (hbl.alloc (Nat.le_refl _) _).grown hgrow1 (by simp) (by simp)
  ·by_cases hlt:j<m
   ·go_wp2_with (at_builtin;refine wpList_append_own _ rfl _ _ 90 rfl w.heap.size 5 i0 (.int .u8 0) 1 1 underlying90 hi hz0 hz1 hz2 rfl (by decide) _ _ _ rfl (hownr.alloc _) ⟨wr.heap.size,0,none⟩ 1 1 [.int .u8 (nj % 256)] rfl rfl (cell_one_new _ _ _) (by simp[Value.oneCell']) (by unfold maxLen;omega) (by omega) (by have:=hbl.size;simp;omega) ?_;intro v1 w1 hown1 hgrow1 _)
    refine⟨⟨j+1,v1,nj / 256,by omega,by go_num,rfl,?_,by omega,by omega,rfl,.inr ⟨by omega,?_⟩,?_⟩,by simp[intOf];omega⟩
    ·rw[HN.out,Int.ediv_ediv_of_nonneg (by exact Int.pow_nonneg (by decide)),Int.pow_succ]
    ·have e1:u8s (xs++qB0 (j+1) n)=u8s (xs++qB0 j n)++[.int .u8 (nj % 256)]:=by rw[zJ7,←HN.out];simp[u8s]
     rw[e1];exact hown1
    ·exact (hbl.alloc (by have:=hbl.size;omega) _).grown hgrow1 (by have:=hbl.size;simp;omega) (qI3 hownr)
   ·go_wp2;go_ret;have e:j=m:=by omega
    subst e;exact⟨_,rfl,hownr,hbl⟩
def qH2:List Int:=[115,104,97,100,111,119]
def qH6(N rb rs:Int):List Int:=qH2++qB0 2 rb++qB0 8 N++qB0 8 rs
def qE5(N rb rs:Int):List Int:=qH6 N rb rs++qB0 8 (fnv (qH6 N rb rs))
theorem qQ5(xs:List Int):0≤fnv xs:=by
 unfold fnv
 suffices h:∀ s:Int,0≤s→0≤xs.foldl qI8 s from h _ (by decide)
 induction xs with
 | nil=>intro s hs;simpa using hs
 | cons x xs ih=>
  intro s hs;rw[List.foldl_cons];apply ih;simp only[qI8,IntKind.wrap_u64];exact Int.emod_nonneg _ (by decide)
theorem jM3{w:World}{base:Nat}{v:Value}{k:Nat}{xs:List Int}(h:w.ownsRow base 5 1 v (k+1) (u8s xs)):∃ g cap,v=.slice (some ⟨g,0,none⟩) (k+1) cap∧base≤g∧xs.length=k+1∧∀ j,j<k+1→w.cell? ⟨g,0+j,none⟩=some (.int .u8 (xs.getD j 0)):=by
 obtain⟨hl,h2⟩:=h;rcases h2 with⟨_,h0⟩|⟨g,cap,cur,rfl,hg,hh,h1,_,hs,ht⟩
 ·cases h0
 ·have hxl:xs.length=k+1:=by simpa [u8s] using hl
  refine⟨g,cap,rfl,hg,hxl,fun j hj=>?_⟩;rw[ξ hh];have e:(cur.toList.take ((k+1)*1))[j]?=(u8s xs)[j]?:=by rw[ht]
  rw[List.getElem?_take,if_pos (by omega)] at e;rw[Nat.zero_add,←Array.getElem?_toList,e];simp[u8s,List.getD_eq_getElem?_getD,List.getElem?_eq_getElem (show j<xs.length by omega)]
theorem zL6(N rb rs:Int)(w:World)(hN:0≤N)(hb:0≤rb)(hb2:rb≤65535)(hr:0≤rs):
  Calls prog 135 #[.agg #[.int .u64 N,.int .i64 rb,.int .u64 rs]] w fun e w'=>∃ v,e=.returned v∧w'.ownsRow w.heap.size 5 1 v 32 (u8s (qE5 N rb rs))∧Below w.heap.size w w':=by
 go_enter func135,ntmps135;go_wp2_with fail;have hM:=μ (w.alloc (.cells #[.int .u64 N,.int .i64 rb,.int .u64 rs] 116)) (.cells #[.int .u8 115,.int .u8 104,.int .u8 97,.int .u8 100,.int .u8 111,.int .u8 119] 5);rw[show (w.alloc (.cells #[.int .u64 N,.int .i64 rb,.int .u64 rs] 116)).heap.size=w.heap.size+1 from by simp] at hM;rw[jO7 hM];obtain⟨W1,hW1,hK1,hH1,hO1⟩:∃ W1,W1=((w.alloc (.cells #[.int .u64 N,.int .i64 rb,.int .u64 rs] 116)).alloc (.cells #[.int .u8 115,.int .u8 104,.int .u8 97,.int .u8 100,.int .u8 111,.int .u8 119] 5)).freeze ⟨w.heap.size+1,#[Value.int .u8 115,Value.int .u8 104,Value.int .u8 97,Value.int .u8 100,Value.int .u8 111,Value.int .u8 119].size,none⟩ 1∧
   Below w.heap.size w W1∧W1.heap[w.heap.size]?=some (.cells #[.int .u64 N,.int .i64 rb,.int .u64 rs] 116)∧(∀ j,j<6→W1.cell? ⟨w.heap.size+1,j,none⟩=some (.int .u8 (qH2.getD j 0))):=
  ⟨_,rfl,Below.freeze (((Below.refl _ _).alloc (Nat.le_refl _) _).alloc (by simp) _) (by omega) _,(zU4 (by omega) _).trans (θ _ (μ _ _)),fun j hj=>by
   rw[ξ (xZ4 hM _)]
   match j,hj with
   | 0,_=>rfl
   | 1,_=>rfl
   | 2,_=>rfl
   | 3,_=>rfl
   | 4,_=>rfl
   | 5,_=>rfl⟩
 rw[←hW1];clear hW1 hM;have hs1:w.heap.size+1≤W1.heap.size:=by have:=ζ hH1;omega
 have c1:=ξ hH1 1;simp at c1;have HO:=zh hO1;clear hO1;go_wp2_with fail;refine (xN1 (w.heap.size+1) 6 qH2 rb 2 W1 (by omega) rfl (by omega) (by omega) hb HO.out).mono ?_;rintro e W2 ⟨v2,rfl,hO2,hB2⟩;have hH2:=(hB2.block w.heap.size (by omega)).trans hH1;have hs2:=hB2.size;have d0:=ξ hH2 0;simp at d0;have hO2':=qI7 hO2 hs1;clear c1 HO hO2;go_wp2_with fail;refine (zG2 _ (w.heap.size+1) (6+2) (qH2++qB0 2 rb) N 8 W2 (by omega) (by omega) hN (by omega) hO2').mono ?_;rintro e W3 ⟨v3,rfl,hO3,hB3⟩;have hH3:=(hB3.block w.heap.size (by omega)).trans hH2;have hs3:=hB3.size;have d2:=ξ hH3 2;simp at d2;clear d0;go_wp2_with fail;refine (zG2 _ (w.heap.size+1) (6+2+8) (qH2++qB0 2 rb++qB0 8 N) rs 8 W3 (by omega) (by omega) hr (by omega) hO3).mono ?_;rintro e W4 ⟨v4,rfl,hO4,hB4⟩;have hs4:=hB4.size;clear d2;have hS:u8s (qH2++qB0 2 rb++qB0 8 N++qB0 8 rs)=u8s (qH6 N rb rs):=rfl;rw[hS] at hO4;obtain⟨g,cap,rfl,hg,hlen,hcs⟩:=jM3 (k:=23) hO4;have HC:=zh hcs;clear hcs hS;go_wp2_with fail;refine (qY5 g 0 24 cap (qH6 N rb rs) W4 hlen (by omega) HC.out).mono ?_;rintro e w5 ⟨rfl,rfl⟩;go_wp2_with fail;refine (zG2 _ (w.heap.size+1) 24 (qH6 N rb rs) (fnv (qH6 N rb rs)) 8 _ (by omega) (by omega) (qQ5 _) (by omega) hO4).mono ?_;rintro e W6 ⟨v6,rfl,hO6,hB6⟩;go_wp2;go_ret;refine⟨_,rfl,qI7 hO6 (by omega),hK1.trans (((hB2.mono (by omega)).trans (hB3.mono (by omega))).trans ((hB4.mono (by omega)).trans (hB6.mono (by omega))))⟩
def qK9(N rb rs:Int):Value:=.agg #[.int .u64 N,.int .i64 rb,.int .u64 rs]
theorem zD9(N rb rs:Int)(w:World)(hN:0≤N):
  Calls prog 137 #[.agg #[.int .u64 N,.int .i64 rb,.int .u64 rs]] w fun e w'=>e=.returned (.int .i64 (N % 2))∧Below w.heap.size w w':=by
 go_enter func137,ntmps137;go_wp2;go_ret;exact⟨rfl,(Below.refl _ _).alloc (Nat.le_refl _) _⟩
theorem xG0{w:World}{g o n cap:Nat}{ca:Array Value}{tg:TypeId}{fa:Nat × Nat}{l:List UInt8}(h:w.heap[g]?=some (.cells ca tg fa))(hp:qA2 ca o n=enc l)(hin:o+n≤ca.size):
  Sem.run prog (convert 90 9 (.slice (some ⟨g,o,none⟩) n cap)) w=.ok (.string ⟨l.toArray⟩) w:=by
 rw[run_convert_bytes_string w _ _ _ _ _ _ underlying90 underlying5 underlying9];have hload:=qZ4 (P:=prog) (o:=o) (n:=n) h hin;have e:enc l=((l.map (fun b=>(b.toNat:Int))).map (.int .u8)).toArray:=by simp[enc,qC6]
 rw[hp,e] at hload;rw[run_bytesToString w _ _ _ _ hload,zM9];simp
theorem xV6(g o n cap h o' cap':Nat)(a b:List UInt8)(w:World)(tg th:TypeId)(ca cb:Array Value)(fa fb:Nat × Nat)(ha:w.heap[g]?=some (.cells ca tg fa))(hb:w.heap[h]?=some (.cells cb th fb))
  (hpa:qA2 ca o n=enc a) (hpb:qA2 cb o' n=enc b) (hal:o+n≤ca.size) (hbl:o'+n≤cb.size):
  Calls prog 153 #[.slice (some ⟨g,o,none⟩) n cap,.slice (some ⟨h,o',none⟩) n cap'] w fun e w'=>e=.returned (.bool (a == b))∧w'=w:=by
 have h1:=xG0 (cap:=cap) ha hpa hal;have h2:=xG0 (cap:=cap') hb hpb hbl;clear ha hb hpa hpb hal hbl;go_enter func153,ntmps153;go_wp2;go_ret;exact⟨rfl,rfl⟩
def qL5:List Int→Int
 | []=>0
 | x::xs=>x+256*qL5 xs
theorem zK3:∀ xs:List Int,(∀ x∈xs,0≤x∧x<256)→0≤qL5 xs∧qL5 xs<(256:Int) ^ xs.length
 | [],_=>by simp[qL5]
 | x::xs,h=>by
  have hx:=h x (by simp);have hi:=zK3 xs (fun y hy=>h y (by simp[hy]));simp only[qL5,List.length_cons,Int.pow_succ];omega
theorem jM1(n x:Int)(hn:0≤n)(hn2:n<72057594037927936)(hx:0≤x)(hx2:x<256):bits BinOp.or .u64 (IntKind.u64.wrap (n*256)) (IntKind.u64.wrap x)=x+256*n:=by
 have e1:IntKind.u64.wrap (n*256)=n*256:=by simp only[IntKind.wrap_u64];omega
 have e2:IntKind.u64.wrap x=x:=by simp only[IntKind.wrap_u64];omega
 rw[e1,e2,u64_or _ _ (by omega) (by omega) hx (by omega)];obtain⟨a,rfl⟩:=Int.eq_ofNat_of_zero_le hn;obtain⟨b,rfl⟩:=Int.eq_ofNat_of_zero_le hx;have h1:((a:Int)*256).toNat=a <<< 8:=by rw[Nat.shiftLeft_eq];omega
 rw[h1,Int.toNat_natCast,←Nat.shiftLeft_add_eq_or_of_lt (by omega),Nat.shiftLeft_eq];omega
theorem zD6:∀ xs:List Int,(∀ x∈xs,0≤x∧x<256)→xs.length≤8→qE4 xs=qL5 xs
 | [],_,_=>rfl
 | x::xs,h,hl=>by
  have hx:=h x (by simp);have hh:∀ y∈xs,0≤y∧y<256:=fun y hy=>h y (by simp[hy]);have hb:=zK3 xs hh;have hp:(256:Int) ^ xs.length≤256 ^ 7:=by
   have h7:xs.length≤7:=by simp at hl;omega
   have e:∀ k:Nat,(256:Int) ^ k=((256 ^ k:Nat):Int):=fun k=>by rw[Int.natCast_pow];rfl
   rw[e,e];exact Int.ofNat_le.2 (Nat.pow_le_pow_right (by decide) h7)
  have hp7:(256:Int) ^ 7=72057594037927936:=by decide
  have ih:=zD6 xs hh (by simp at hl;omega);show bits BinOp.or .u64 (IntKind.u64.wrap (qE4 xs*256)) (IntKind.u64.wrap x)=_;rw[ih,jM1 _ _ hb.1 (by omega) hx.1 hx.2];rfl
theorem qJ1:∀ (k:Nat) (n:Int),∀ x∈qB0 k n,0≤x∧x<256
 | 0,_,_,h=>by simp[qB0] at h
 | k+1,n,x,h=>by
  simp only[qB0,List.mem_cons] at h;rcases h with rfl|h
  ·omega
  ·exact qJ1 k _ x h
theorem xA3:∀ (k:Nat) (n:Int),0≤n→n<(256:Int) ^ k→qL5 (qB0 k n)=n
 | 0,n,h0,h1=>by simp[qB0,qL5] at *;omega
 | k+1,n,h0,h1=>by
  rw[Int.pow_succ] at h1;have hq:n / 256<(256:Int) ^ k:=by
   generalize (256:Int) ^ k=q at *;omega
  rw[qB0,qL5,xA3 k _ (by omega) hq];omega
theorem qL4(k:Nat)(n:Int)(hk:k≤8)(h0:0≤n)(h1:n<(256:Int) ^ k):qE4 (qB0 k n)=n:=by
 rw[zD6 _ (qJ1 k n) (by rw[qG5];exact hk),xA3 k n h0 h1]
end Go.Proofs.YtdohpenfkdckiabGreatDoor
