import Derived.Test.YtdohpenfkdckiabGreatDoorB05
set_option linter.all false
set_option maxRecDepth 100000
set_option maxHeartbeats 20000000
namespace Go.Proofs.YtdohpenfkdckiabGreatDoor
open Go.Proofs.Tryz
open Go.RowKit
section
variable {P:Program} {w:World} {ops:Array Oper} {rest:List Oper} {a:Act} {Q:Exit→Act→World→Prop} {dst:Option Tmp} {ty:TypeId} {pos:String} {aft:Array Edge}
theorem qU3{o:Oper}{x:Operand}{t e:TypeId}(ho:o.op=.buildSlice t 1 #[(0,x)])(v z:Value)(size bytes:Nat)(ht:P.underlying t=some (.slice e))(hi:(P.info? e).map (fun i=>(i.zero,i.size,i.bytes))=some (some z,size,bytes))
  (hx:a.eval x=v) (hv:v.cells.size=size) (hpos:0<size) (hsm:size≤16777216):
  Sem.run P (execOp a.eval o) w=.ok (.value (.slice (some ⟨w.heap.size,0,none⟩) 1 1)) (w.alloc (.cells v.cells e)):=by
 obtain⟨i,hi',hz⟩:=Option.map_eq_some_iff.1 hi;simp only[Prod.mk.injEq] at hz;obtain⟨hz,hsz,hby⟩:=hz;have hf:=Great.fill_whole (s:=i.size) (by omega) [v] ((Array.range (1*i.size)).map (z.cells[·% z.cells.size]!)) (by simp[hv,hsz]) (by simp);have hr:=run_buildSlice (P:=P) w t e 1 #[(0,v)] v.cells i z ht hi' hz (by omega) (by omega) (by simpa using hf);unfold execOp;simp only[ho,Sem.run_bind,Sem.run_pure,Result.andThen_ok,List.map_toArray,List.map_cons,List.map_nil,hx,hr]
theorem qQ9(cs:Array Value):qA2 cs 0 cs.size=cs:=by simp[qA2,List.take_of_length_le]
end
variable {κ:Nat}
theorem qM8:(prog.info? 89).map (fun i=>(i.zero,i.size,i.bytes))=some (some (.agg zeroCells89),129,136):=by kernel_rfl
theorem xJ4:∀ v∈zeroCells89.toList,v.oneCell'=true:=by
 have h:zeroCells89.toList.all (·.oneCell')=true:=by kernel_rfl
 exact List.all_eq_true.1 h
theorem jU2(A n C:Nat)(calls writes:Int)(i:Nat)(B bo cap:Nat)(src:Array Value)(tb:TypeId)(w:World)(h:w.heap[A]?=some (χ κ n C (.slice none 0 0) calls writes))(h0:0≤calls)(h1:calls≤1000000000)(h0w:0≤writes)(h1w:writes≤1000000000)
  (hi:i<n) (hn:n≤1000) (hB:w.heap[B]?=some (.cells src tb)) (hs:bo+128≤src.size) (hby:allBytes src) (hAB:B≠A):
  Calls prog 251 #[.pointer (some ⟨A,0,none⟩),.int .i64 i,.slice (some ⟨B,bo,none⟩) 128 cap] w fun e w'=>e=.returned .nilIface∧∃ v',
   w'.ownsRow w.heap.size 89 129 v' 1 (.int .i64 i::(qA2 src bo 128).toList)∧w'.heap[A]?=some (χ κ n C v' (calls+1) (writes+1))∧Kp [A] w w':=by
 have c1:=ξ h 1;have c3:=ξ h 3;simp at c1 c3;have hA:=ζ h;have hBs:=ζ hB;go_enter func251,ntmps251;go_wp2_with fail;refine (zB2 A n C _ calls writes _ h h0 h1).mono ?_;rintro e w1 ⟨rfl,rfl⟩;go_wp2_with fail;refine (zD5 A n C (.slice none 0 0) (calls+1) writes i _ (ω h 2 _) (by omega) (by omega)).mono ?_;rintro e w1 ⟨rfl,rfl⟩;go_wp2_with fail;have hN:((w.setCell ⟨A,2,none⟩ (.int .i64 (calls+1))).alloc (.cells zeroCells89 89)).heap[w.heap.size]?=some (.cells zeroCells89 89):=by
  simpa using μ (w.setCell ⟨A,2,none⟩ (.int .i64 (calls+1))) (.cells zeroCells89 89)
 rw[qM0 hN (by simp[qK1]) (fun v hv=>by rcases List.mem_or_eq_of_mem_set hv with h | h;exact xJ4 v h;subst h;rfl)];obtain⟨W1,hW1,hK1,hA1,hG1⟩:∃ W1,W1=((w.setCell ⟨A,2,none⟩ (.int .i64 (calls+1))).alloc (.cells zeroCells89 89)).setRow w.heap.size (qD3 zeroCells89 0 (zeroCells89.toList.set 0 (.int .i64 i)).toArray)∧Kp [A] w W1∧
   W1.heap[A]?=some (χ κ n C (.slice none 0 0) (calls+1) writes)∧W1.heap[w.heap.size]?=some (.cells (zeroCells89.toList.set 0 (.int .i64 i)).toArray 89):=
  ⟨_,rfl,(((Kp.refl _ _).sc _).alloc _).setRow (by simp) _,(setRow_other _ _ _ _ (by omega)).trans (θ _ (ω h 2 _)),by
   rw[setRow_heap _ _ _ _ _ _ hN,qJ6 (by simp)]⟩
 rw[←hW1];clear hW1 hN;have hB1:=hK1.heap hB (by simp[hAB]);go_wp2_with fail;rw[qR3 (n:=128) 3 underlying90 Tryz.size5 rfl hG1 hB1 (by simp[qK1]) hs (qQ4 hby _ _).one];obtain⟨W2,hW2,hK2,hA2,hG2⟩:∃ W2,W2=W1.setRow w.heap.size (qD3 (zeroCells89.toList.set 0 (.int .i64 i)).toArray 1 (qA2 src bo 128))∧Kp [A] w W2∧
   W2.heap[A]?=some (χ κ n C (.slice none 0 0) (calls+1) writes)∧W2.heap[w.heap.size]?=some (.cells (.int .i64 i::(qA2 src bo 128).toList).toArray 89):=
  ⟨_,rfl,hK1.setRow (by simp) _,(setRow_other _ _ _ _ (by omega)).trans hA1,by
   rw[setRow_heap _ _ _ _ _ _ hG1];have e:qD3 (zeroCells89.toList.set 0 (.int .i64 i)).toArray 1 (qA2 src bo 128)=(.int .i64 i::(qA2 src bo 128).toList).toArray:=by
    have hz:zeroCells89.toList.length=129:=by simp[qK1]
    obtain⟨z0,zs,hzs⟩:∃ z0 zs,zeroCells89.toList=z0::zs:=by
     cases hq:zeroCells89.toList with
     | nil=>rw[hq] at hz;cases hz
     | cons z0 zs=>exact⟨z0,zs,rfl⟩
    rw[hzs] at hz ⊢;have hp:=qO3 (cs:=src) hs;have hd:zs.drop 128=[]:=List.drop_of_length_le (by simp at hz;omega);unfold qD3;rw[hp];simp[hd]
   rw[e]⟩
 rw[←hW2];clear hW2 hK1 hA1 hG1 hB1 c1 c3;have c1:=ξ hA2 1;have c3:=ξ hA2 3;simp at c1 c3;have f1:=ρ hA2 1;go_wp2_with fail;refine wp_region_any (by kernel_rfl) ?_;change wpAny _ _ _ _ _ _ _ (World.drew _);refine zu 0 (.pointer (some ⟨A,0,none⟩)) ?_;refine zu 1 (.pointer (some ⟨A,0,none⟩)) ?_;refine zu 2 (.pointer (some ⟨A,0,none⟩)) ?_;refine zu 3 (.pointer (some ⟨A,1,none⟩)) ?_;obtain⟨X,hX⟩:∃ X,X=(Value.int .i64 (i:Int)::(qA2 src bo 128).toList).toArray:=⟨_,rfl⟩;rw[←hX] at hG2;have hd2:W2.drew.heap[w.heap.size]?=some (.cells X 89):=hG2;have hlen:X.size=129:=by rw[hX];simp[qO3 hs]
 have hnew:(W2.drew.alloc (.cells (Value.agg X).cells 89)).heap[W2.heap.size]?=some (.cells X 89):=μ W2.drew _;have hone:∀ u∈(qA2 X 0 (1*129)).toList,u.oneCell'=true:=by
  have e:qA2 X 0 (1*129)=X:=by have:=qQ9 X;rw[hlen] at this;exact this
  rw[e,hX];intro u hu;simp at hu;rcases hu with rfl|hu
  ·rfl
  ·exact (qQ4 hby bo 128).one u (by simpa using hu)
 have HX:=zh hX;clear hX;have hA2s:=ζ hA2;refine wpAny_ready (rs:=[4,5]) (by kernel_rfl) (by simp) ?_;refine AllReady.cons rfl (fun K hK=>?_) (AllReady.cons rfl (fun K hK=>?_) AllReady.nil)
 ·go_simp;refine hK _ _ ?_;clear hK K;refine zQ 5 fun K hK=>?_;refine qJ9 rfl (qK3 (t:=89) rfl (by kernel_rfl) 129 (by kernel_rfl) w.heap.size (by simp[Act.eval]) hd2 hlen) ?_;refine hK _ _ ?_;clear hK K;simp only[zZ];refine zQ 6 fun K hK=>?_;refine qJ9 rfl (qU3 rfl (.agg X) _ _ _ underlying70 qM8 (by simp[Act.eval]) (by simpa [Value.cells] using hlen) (by decide) (by decide)) ?_;refine hK _ _ ?_;clear hK K;simp only[zZ];refine zQ 7 fun K hK=>?_;refine qM4 rfl rfl (.agg zeroCells89) 129 136 underlying70 qM8 (by simp[Value.cells,qK1]) (by decide) w.heap.size (.slice none 0 0) 0 [] (by simp[Act.eval]) (World.ownsRow_nil _ _ _ _) W2.heap.size 0 1 1 X 89 (0,0) (by simp[Act.eval]) hnew (by omega) hone (by decide) (by decide) (by have:=hK2.size;simp;omega) ?_;intro v1 w1 hown1 hgr1 _;obtain⟨g1,cap1,rfl⟩:=qJ2 (n:=0) hown1;refine hK _ _ ?_;clear hK K;simp only[zZ];have hA3:w1.heap[A]?=some (χ κ n C (.slice none 0 0) (calls+1) writes):=(hgr1.block A (by have:=hK2.size;simp;omega) (by simp[Value.ownBlock])).trans (θ _ hA2);have hK3:Kp [A] w w1:=((hK2.drew).alloc _).grown hgr1 (by simp[Value.ownBlock]);have d1:=ξ hA3 1;simp at d1;have e1:=ρ hA3 1;refine zu 8 (.pointer (some ⟨A,0,none⟩)) ?_;refine zu 9 (.pointer (some ⟨A,1,none⟩)) ?_;refine zQ 10 fun K hK=>?_;go_simp;refine hK _ _ ?_;clear hK K;refine wpAny_done (by kernel_rfl) ?_ _;have d3:=ξ hA3 3;simp at d3;have e3:=ρ hA3 3;go_wp2;go_ret;refine⟨rfl,.slice (some ⟨g1,0,none⟩) 1 cap1,?_,?_,(hK3.sc _).sc _⟩
  ·have hz:qA2 X 0 (1*129)=X:=by have:=qQ9 X;rw[hlen] at this;exact this
   rw[hz,HX.out] at hown1;exact ownsRow_setCell_below (ownsRow_setCell_below (by simpa using hown1) hA _) hA _
  ·exact ω (ω hA3 1 _) 3 _
 ·refine qJ9 rfl (qK3 (t:=89) rfl (by kernel_rfl) 129 (by kernel_rfl) w.heap.size (by simp[Act.eval]) hd2 hlen) ?_;refine hK _ _ ?_;clear hK K;simp only[zZ];refine wpAny_ready (rs:=[4,6]) (by kernel_rfl) (by simp) ?_;refine AllReady.cons rfl (fun K hK=>?_) (AllReady.cons rfl (fun K hK=>?_) AllReady.nil)
  ·go_simp;refine hK _ _ ?_;clear hK K;refine zQ 6 fun K hK=>?_;refine qJ9 rfl (qU3 rfl (.agg X) _ _ _ underlying70 qM8 (by simp[Act.eval]) (by simpa [Value.cells] using hlen) (by decide) (by decide)) ?_;refine hK _ _ ?_;clear hK K;simp only[zZ];refine zQ 7 fun K hK=>?_;refine qM4 rfl rfl (.agg zeroCells89) 129 136 underlying70 qM8 (by simp[Value.cells,qK1]) (by decide) w.heap.size (.slice none 0 0) 0 [] (by simp[Act.eval]) (World.ownsRow_nil _ _ _ _) W2.heap.size 0 1 1 X 89 (0,0) (by simp[Act.eval]) hnew (by omega) hone (by decide) (by decide) (by have:=hK2.size;simp;omega) ?_;intro v1 w1 hown1 hgr1 _;obtain⟨g1,cap1,rfl⟩:=qJ2 (n:=0) hown1;refine hK _ _ ?_;clear hK K;simp only[zZ];have hA3:w1.heap[A]?=some (χ κ n C (.slice none 0 0) (calls+1) writes):=(hgr1.block A (by have:=hK2.size;simp;omega) (by simp[Value.ownBlock])).trans (θ _ hA2);have hK3:Kp [A] w w1:=((hK2.drew).alloc _).grown hgr1 (by simp[Value.ownBlock]);have d1:=ξ hA3 1;simp at d1;have e1:=ρ hA3 1;refine zu 8 (.pointer (some ⟨A,0,none⟩)) ?_;refine zu 9 (.pointer (some ⟨A,1,none⟩)) ?_;refine zQ 10 fun K hK=>?_;go_simp;refine hK _ _ ?_;clear hK K;refine wpAny_done (by kernel_rfl) ?_ _;have d3:=ξ hA3 3;simp at d3;have e3:=ρ hA3 3;go_wp2;go_ret;refine⟨rfl,.slice (some ⟨g1,0,none⟩) 1 cap1,?_,?_,(hK3.sc _).sc _⟩
   ·have hz:qA2 X 0 (1*129)=X:=by have:=qQ9 X;rw[hlen] at this;exact this
    rw[hz,HX.out] at hown1;exact ownsRow_setCell_below (ownsRow_setCell_below (by simpa using hown1) hA _) hA _
   ·exact ω (ω hA3 1 _) 3 _
  ·refine qJ9 rfl (qU3 rfl (.agg X) _ _ _ underlying70 qM8 (by simp[Act.eval]) (by simpa [Value.cells] using hlen) (by decide) (by decide)) ?_;refine hK _ _ ?_;clear hK K;simp only[zZ];refine zQ 4 fun K hK=>?_;go_simp;refine hK _ _ ?_;clear hK K;refine zQ 7 fun K hK=>?_;refine qM4 rfl rfl (.agg zeroCells89) 129 136 underlying70 qM8 (by simp[Value.cells,qK1]) (by decide) w.heap.size (.slice none 0 0) 0 [] (by simp[Act.eval]) (World.ownsRow_nil _ _ _ _) W2.heap.size 0 1 1 X 89 (0,0) (by simp[Act.eval]) hnew (by omega) hone (by decide) (by decide) (by have:=hK2.size;simp;omega) ?_;intro v1 w1 hown1 hgr1 _;obtain⟨g1,cap1,rfl⟩:=qJ2 (n:=0) hown1;refine hK _ _ ?_;clear hK K;simp only[zZ];have hA3:w1.heap[A]?=some (χ κ n C (.slice none 0 0) (calls+1) writes):=(hgr1.block A (by have:=hK2.size;simp;omega) (by simp[Value.ownBlock])).trans (θ _ hA2);have hK3:Kp [A] w w1:=((hK2.drew).alloc _).grown hgr1 (by simp[Value.ownBlock]);have d1:=ξ hA3 1;simp at d1;have e1:=ρ hA3 1;refine zu 8 (.pointer (some ⟨A,0,none⟩)) ?_;refine zu 9 (.pointer (some ⟨A,1,none⟩)) ?_;refine zQ 10 fun K hK=>?_;go_simp;refine hK _ _ ?_;clear hK K;refine wpAny_done (by kernel_rfl) ?_ _;have d3:=ξ hA3 3;simp at d3;have e3:=ρ hA3 3;go_wp2;go_ret;refine⟨rfl,.slice (some ⟨g1,0,none⟩) 1 cap1,?_,?_,(hK3.sc _).sc _⟩
   ·have hz:qA2 X 0 (1*129)=X:=by have:=qQ9 X;rw[hlen] at this;exact this
    rw[hz,HX.out] at hown1;exact ownsRow_setCell_below (ownsRow_setCell_below (by simpa using hown1) hA _) hA _
   ·exact ω (ω hA3 1 _) 3 _
variable {κ:Nat}
structure Cached(w:World)(v:Value)(i:Nat)(bs:Array Value):Prop where
 own:w.ownsRow 0 89 129 v 1 (.int .i64 i::bs.toList)
 size:bs.size=128
 bytes:allBytes bs
theorem Cached.form{w:World}{v:Value}{i:Nat}{bs:Array Value}(h:Cached w v i bs):∃ g cap cur,v=.slice (some ⟨g,0,none⟩) 1 cap∧w.heap[g]?=some (.cells cur 89)∧129≤cur.size∧qA2 cur 0 129=(.int .i64 (i:Int)::bs.toList).toArray:=by
 obtain⟨_,h2⟩:=h.own;rcases h2 with⟨_,h0⟩|⟨g,cap,cur,rfl,_,hg,h1,_,hs,ht⟩
 ·cases h0
 ·exact⟨g,cap,cur,rfl,hg,by omega,by simpa [qA2] using ht⟩
theorem xX7(A n C:Nat)(calls writes:Int)(w:World)(h:w.heap[A]?=some (χ κ n C (.slice none 0 0) calls writes))(h0:0≤calls)(h1:calls≤1000000000):
  Calls prog 249 #[.pointer (some ⟨A,0,none⟩)] w fun e w'=>e=.returned .nilIface∧w'.heap[A]?=some (χ κ n C (.slice none 0 0) (calls+1) writes)∧Kp [A] w w':=by
 have c1:=ξ h 1;simp at c1;have f1:=ρ h 1;go_enter func249,ntmps249;go_wp2_with fail;refine (zB2 A n C _ calls writes _ h h0 h1).mono ?_;rintro e w1 ⟨rfl,rfl⟩;go_wp2;refine wp_loop_rounds 1 ?_;rw[rounds_succ];go_wp2;go_ret;refine⟨rfl,?_,((Kp.refl _ _).sc _).sc _⟩;exact ω (ω h 2 _) 1 _
theorem xX9(A n C:Nat)(v:Value)(calls writes:Int)(i:Nat)(bs cs:Array Value)(w:World)(h:w.heap[A]?=some (χ κ n C v calls writes))(h0:0≤calls)(h1:calls≤1000000000)
  (hv:Cached w v i bs) (hi:i<n) (hn:n≤1000) (hC:w.heap[C]?=some (.cells cs 87)) (hs:n*128≤cs.size) (hAC:C≠A):
  Calls prog 249 #[.pointer (some ⟨A,0,none⟩)] w fun e w'=>e=.returned .nilIface∧w'.heap[A]?=some (χ κ n C (.slice none 0 0) (calls+1) writes)∧
   w'.heap[C]?=some (.cells (qD3 cs (i*128) bs) 87)∧Kp [A,C] w w':=by
 obtain⟨g,cap,cur,rfl,hg,hcs,hcur⟩:=hv.form;have hsz:=hv.size;have hby:=hv.bytes;clear hv;obtain⟨X,hX⟩:∃ X,X=(.int .i64 (i:Int)::bs.toList).toArray:=⟨_,rfl⟩;rw[←hX] at hcur;have hXs:X.size=129:=by rw[hX];simp[hsz]
 have hX0:X[0]?=some (.int .i64 i):=by rw[hX];rfl
 have hXp:qA2 X 1 128=bs:=by rw[hX];simp[qA2,List.take_of_length_le,hsz]
 have hX1:∀ v∈X.toList,v.oneCell'=true:=by
  rw[hX];intro v hv;simp at hv;rcases hv with rfl|hv
  ·rfl
  ·exact hby.one v (by simpa using hv)
 clear hX;have hgA:g≠A:=by intro e;subst e;rw[h] at hg;simp[χ] at hg
 have hgC:g≠C:=by intro e;subst e;rw[hC] at hg;simp at hg
 have hA:=ζ h;have hCs:=ζ hC;have c0:=ξ h 0;have c1:=ξ h 1;simp at c0 c1;have f1:=ρ h 1;go_enter func249,ntmps249;go_wp2_with fail;refine (zB2 A n C _ calls writes _ h h0 h1).mono ?_;rintro e w1 ⟨rfl,rfl⟩;go_wp2;refine wp_loop_rounds 2 ?_;rw[rounds_succ];have hg1:(w.setCell ⟨A,2,none⟩ (.int .i64 (calls+1))).heap[g]?=some (.cells cur 89):=(qA7 hgA _ _).trans hg
 go_wp2_with (
  with_reducible refine qQ1 (t:=89) ?_ 129 ?_ g 0 ?_ cur 89 (0,0) ?_ ?_ ?_
  ·kernel_rfl
  ·kernel_rfl
  ·rfl
  ·exact hg1
  ·omega)
 have hN:((w.setCell ⟨A,2,none⟩ (.int .i64 (calls+1))).alloc (.cells zeroCells89 89)).heap[w.heap.size]?=some (.cells zeroCells89 89):=by
  simpa using μ (w.setCell ⟨A,2,none⟩ (.int .i64 (calls+1))) (.cells zeroCells89 89)
 rw[qM0 hN (by simp[qK1,hXs]) hX1];obtain⟨W1,hW1,hK1,hA1,hC1,hT1⟩:∃ W1,W1=((w.setCell ⟨A,2,none⟩ (.int .i64 (calls+1))).alloc (.cells zeroCells89 89)).setRow w.heap.size (qD3 zeroCells89 0 X.toList.toArray)∧Kp [A,C] w W1∧
   W1.heap[A]?=some (χ κ n C (.slice (some ⟨g,0,none⟩) 1 cap) (calls+1) writes)∧W1.heap[C]?=some (.cells cs 87)∧W1.heap[w.heap.size]?=some (.cells X 89):=
  ⟨_,rfl,(((Kp.refl _ _).sc _).alloc _).setRow (by simp) _,(setRow_other _ _ _ _ (by omega)).trans (θ _ (ω h 2 _)),(setRow_other _ _ _ _ (by omega)).trans (θ _ ((qA7 hAC _ _).trans hC)),by
   rw[setRow_heap _ _ _ _ _ _ hN,qJ6 (by simp[qK1,hXs])]⟩
 rw[←hW1];clear hW1 hN hg1 c0 c1 f1;have c0:=ξ hA1 0;have t0:=ξ hT1 0;rw[hX0] at t0;simp at c0;go_wp2_with fail;refine wp_region_held_drew (S:=fun W=>W.heap[A]?=some (χ κ n C (.slice (some ⟨g,0,none⟩) 1 cap) (calls+1) writes)∧W.heap[w.heap.size]?=some (.cells X 89)) (by kernel_rfl) ⟨hA1,hT1⟩ (fun _=>?_);refine zP 0 A 0 ⟨hA1,hT1⟩ ?_;refine zP 1 A 0 ⟨hA1,hT1⟩ ?_;refine zP 2 A 0 ⟨hA1,hT1⟩ ?_;refine zV 3 (.slice (some ⟨C,0,none⟩) n κ) rfl (fun W hS=>by have c:=ξ hS.1 0;simp at c;clear hS;go_simp) ⟨hA1,hT1⟩ ?_;refine zP 4 w.heap.size 0 ⟨hA1,hT1⟩ ?_;refine zV 5 (.int .i64 i) rfl (fun W hS=>by have c:=ξ hS.2 0;rw[hX0] at c;clear hS;go_simp) ⟨hA1,hT1⟩ ?_;refine zP 6 w.heap.size 1 ⟨hA1,hT1⟩ ?_;refine zV 7 (.agg bs) rfl (fun W hS=>zT2 (t:=87) rfl (by kernel_rfl) 128 (by kernel_rfl) w.heap.size 1 rfl hS.2 (by omega) hXp) ⟨hA1,hT1⟩ ?_;refine zU 8 (.pointer (some ⟨C,i*128,none⟩)) ⟨hA1,hT1⟩ ?_;refine zq 9 fun K hK=>?_;refine zN9 rfl (zT3 (t:=87) rfl bs (by rw[hsz];kernel_rfl) C (i*128) rfl rfl (cur:=cs) (tb:=87) hC1 (by omega) hby.one) ?_;have hAo:=(setRow_other W1.drew C A (qD3 cs (i*128) bs) (by omega)).trans hA1;have hTo:=(setRow_other W1.drew C w.heap.size (qD3 cs (i*128) bs) (by omega)).trans hT1;have hCo:=setRow_heap W1.drew C _ (qD3 cs (i*128) bs) _ _ hC1;have hKo:=(hK1.drew).setRow (g:=C) (by simp) (qD3 cs (i*128) bs);refine hK.out _ _ ⟨hAo,hTo⟩ (fun _=>?_);clear hK K;refine zd ?_;generalize W1.drew.setRow C (qD3 cs (i*128) bs)=W2 at *;simp only[zZ];clear hA1 hT1 hC1 hK1 c0 t0 hTo;have c1:=ξ hAo 1;simp at c1;have f1:=ρ hAo 1;go_wp2;rw[rounds_succ];go_wp2;go_ret;exact⟨rfl,ω hAo 1 _,(qA7 hAC _ _).trans hCo,hKo.sc _⟩
variable {κ:Nat}
theorem jP2(V A n C:Nat)(calls writes:Int)(w:World)(hV:w.heap[V]?=some (qB8 A n))(h:w.heap[A]?=some (χ κ n C (.slice none 0 0) calls writes))(h0:0≤calls)(h1:calls≤1000000000):
  Calls prog 76 #[.pointer (some ⟨V,0,none⟩)] w fun e w'=>e=.returned (.tuple #[])∧w'.heap[A]?=some (χ κ n C (.slice none 0 0) (calls+1) writes)∧Kp [A] w w':=by
 have c0:=ξ hV 0;simp at c0;go_enter func76,ntmps76;go_wp2_with fail;refine (xX7 A n C calls writes _ h h0 h1).mono ?_;rintro e w1 ⟨rfl,hA1,hK1⟩;go_wp2
 go_end0
 exact⟨rfl,hA1,hK1⟩
theorem jP3(V A n C:Nat)(v:Value)(calls writes:Int)(i:Nat)(bs cs:Array Value)(w:World)(hV:w.heap[V]?=some (qB8 A n))(h:w.heap[A]?=some (χ κ n C v calls writes))(h0:0≤calls)(h1:calls≤1000000000)
  (hv:Cached w v i bs) (hi:i<n) (hn:n≤1000) (hC:w.heap[C]?=some (.cells cs 87)) (hs:n*128≤cs.size) (hAC:C≠A):
  Calls prog 76 #[.pointer (some ⟨V,0,none⟩)] w fun e w'=>e=.returned (.tuple #[])∧w'.heap[A]?=some (χ κ n C (.slice none 0 0) (calls+1) writes)∧
   w'.heap[C]?=some (.cells (qD3 cs (i*128) bs) 87)∧Kp [A,C] w w':=by
 have c0:=ξ hV 0;simp at c0;go_enter func76,ntmps76;go_wp2_with fail;refine (xX9 A n C v calls writes i bs cs _ h h0 h1 hv hi hn hC hs hAC).mono ?_;rintro e w1 ⟨rfl,hA1,hC1,hK1⟩;go_wp2
 go_end0
 exact⟨rfl,hA1,hC1,hK1⟩
theorem jO9(V A n C:Nat)(calls writes:Int)(i:Nat)(bl:List UInt8)(w:World)(hV:w.heap[V]?=some (qB8 A n))(h:w.heap[A]?=some (χ κ n C (.slice none 0 0) calls writes))(h0:0≤calls)(h1:calls≤1000000000)(h0w:0≤writes)(h1w:writes≤1000000000)
  (hi:i<n) (hn:n≤1000) (hbl:bl.length=128) (hVA:V≠A):
  Calls prog 136 #[.pointer (some ⟨V,0,none⟩),.int .i64 i,.agg (enc bl)] w fun e w'=>e=.returned (.tuple #[])∧∃ v',Cached w' v' i (enc bl)∧
   w'.heap[A]?=some (χ κ n C v' (calls+1) (writes+1))∧Kp [A] w w':=by
 have c0:=ξ hV 0;simp at c0;have hVs:=ζ hV;have hA:=ζ h;have hes:(enc bl).size=128:=by rw[qF2,hbl]
 go_enter func136,ntmps136;go_wp2_with fail;obtain⟨W1,hW1,hK1,hA1,hB1,hV1⟩:∃ W1,W1=w.alloc (.cells (enc bl) 223)∧Kp [A] w W1∧W1.heap[A]?=some (χ κ n C (.slice none 0 0) calls writes)∧W1.heap[w.heap.size]?=some (.cells (enc bl) 223)∧W1.heap[V]?=some (qB8 A n):=
  ⟨_,rfl,(Kp.refl _ _).alloc _,θ _ h,μ _ _,θ _ hV⟩
 rw[←hW1];clear hW1 c0;have c0:=ξ hV1 0;simp at c0;have hpp:qA2 (enc bl) 0 128=enc bl:=by rw[qL6,List.drop_zero,List.take_of_length_le (by omega)]
 have hm:∀ W:World,(method 445 23 (.pointer (some ⟨A,0,none⟩)) "Write").run prog W=.ok (251,.pointer (some ⟨A,0,none⟩)) W:=fun _=>by kernel_rfl
 go_region_with (go_at_call 251;go_must (refine (jU2 A n C calls writes i w.heap.size 0 128 (enc bl) 223 W1.drew hA1 h0 h1 h0w h1w hi hn hB1 (by omega) (qH3 bl) (by omega)).mono ?_);rintro e w2 ⟨rfl,v',hown,hA2,hK2⟩)
 go_wp2
 go_end0
 refine⟨rfl,v',⟨?_,hes,qH3 bl⟩,hA2,hK1.trans ((Kp.refl [A] W1).drew.tr hK2) (by simp)⟩;rw[hpp] at hown;exact qI7 hown (Nat.zero_le _)
end Go.Proofs.YtdohpenfkdckiabGreatDoor
namespace Go.Proofs.YtdohpenfkdckiabGreatDoor
open Go.Proofs.Tryz
theorem Sorted.del{l:List KV}(h:Sorted l)(k:ByteArray):Sorted (del k l):=h.sublist List.filter_sublist
theorem qX9{k:ByteArray}{l:List KV}{q:KV}:q∈del k l↔q∈l∧q.k≠k:=by simp[del]
theorem qW8{l:List KV}{k:ByteArray}(h:∀ q∈l,q.k≠k):del k l=l:=zB3 h
theorem qZ2(k:ByteArray)(a b:List KV):del k (a++b)=del k a++del k b:=by simp[del]
theorem xU6{k:ByteArray}{a b c:List KV}(ha:∀ q∈a,kl q.k k=true)(hc:∀ q∈c,kl k q.k=true):del k (a++b++c)=a++del k b++c:=by
 rw[qZ2,qZ2,qW8 fun q hq=>qJ3 (ha q hq),qW8 fun q hq=>(qJ3 (hc q hq)).symm]
theorem zS2{l:List KV}(hs:Sorted l){k:ByteArray}(h:qG0 l (qC1 l k) k=true):del k l=l.take (qC1 l k)++l.drop (qC1 l k+1):=by
 have e:=List.take_append_drop (qC1 l k) l;unfold qG0 at h;split at h
 ·next q hq=>
  have hqk:q.k=k:=by simpa using h
  have hlt:=(List.getElem?_eq_some_iff.1 hq).1;have hd:l.drop (qC1 l k)=q::l.drop (qC1 l k+1):=by
   rw[List.drop_eq_getElem_cons hlt,(List.getElem?_eq_some_iff.1 hq).2]
  have hs2:Sorted (l.take (qC1 l k)++q::l.drop (qC1 l k+1)):=by rw[←hd,e];exact hs
  obtain⟨h1,h2,h3⟩:=Sorted.append.1 hs2;have h4:=List.pairwise_cons.1 h2
  conv=>lhs;rw[←e,hd]
  rw[qZ2,qW8 fun x hx=>by rw[←hqk];exact qJ3 (h3 x hx q (by simp))]
  congr 1
  rw[show q::l.drop (qC1 l k+1)=[q]++l.drop (qC1 l k+1) from rfl,qZ2,qW8 (l:=l.drop (qC1 l k+1)) fun x hx=>by rw[←hqk];exact (qJ3 (h4.1 x hx)).symm];simp[del,hqk]
 ·cases h
def qC2(n:Nat)(ls:List (Lnk (Tn n)))(i:Nat):List (Lnk (Tn n)):=
 match ls[i]? with
 | none=>ls
 | some l=>if 3≤cnt n l.sub then ls else
  match ls[min i (ls.length-2)]?,ls[min i (ls.length-2)+1]? with
  | some a,some b=>ls.take (min i (ls.length-2))++qE2 n a.key a.sub b.sub++ls.drop (min i (ls.length-2)+2)
  | _,_=>ls
def qD0:(n:Nat)→Lnk (Tn n)→ByteArray→List (Lnk (Tn n))
 | 0,l,k=>qE1 l.key (List.take (α:=KV) (qC1 l.sub k) l.sub++List.drop (α:=KV) (qC1 l.sub k+1) l.sub)
 | n+1,l,k=>
  let ls:List (Lnk (Tn n)):=l.sub
  match ls[qB2 ls k]? with
  | some m=>qD7 n l.key (qC2 n (ls.take (qB2 ls k)++qD0 n m k++ls.drop (qB2 ls k+1)) (qB2 ls k))
  | none=>[]
def Root.del(r:Root)(k:ByteArray):Root:=match r with
 | .none=>.none
 | .at n l=>if (YtdohpenfkdckiabGreatDoor.cont n l.sub).any (fun q=>decide (q.k=k)) then qF5 n (qD0 n l k) else .at n l
section
variable {α:Type} (f:α→Nat)
end
theorem Row0.drop_one{n:Nat}{lo:ByteArray}{P Q:List (Lnk (Tn n))}{a b:Lnk (Tn n)}(h:Row0 n lo (P++a::b::Q)):Row0 n lo (P++a::Q):=
 ⟨fun l hl=>h.head l (by cases P<;>simpa using hl),fun l hl=>h.all l (by
  rcases List.mem_append.1 hl with hl|hl
  ·simp[hl]
  ·rcases List.mem_cons.1 hl with rfl|hl
   ·simp
   ·simp[hl]),h.pair.sublist (List.Sublist.append_left (List.Sublist.cons_cons _ (List.sublist_cons_self _ _)) _)⟩
theorem zZ2{n:Nat}{lo:ByteArray}{P Q:List (Lnk (Tn n))}{a b:Lnk (Tn n)}(h:Row0 n lo (P++a::b::Q))(hP:∀ x∈P,3≤cnt n x.sub)(hQ:∀ x∈Q,3≤cnt n x.sub)(hc:cnt n a.sub≤2∨cnt n b.sub≤2)(h3:3≤cnt n a.sub+cnt n b.sub)(h1:1≤cnt n a.sub):
  Row0 n lo (P++qE2 n a.key a.sub b.sub++Q)∧(P++qE2 n a.key a.sub b.sub++Q).flatMap (fun l=>cont n l.sub)=(P++a::b::Q).flatMap (fun l=>cont n l.sub)∧(∀ x∈P++qE2 n a.key a.sub b.sub++Q,3≤cnt n x.sub)∧
  (P++a::b::Q).length≤(P++qE2 n a.key a.sub b.sub++Q).length+1∧meas qA3 (P++qE2 n a.key a.sub b.sub++Q)≤meas qA3 (P++a::b::Q)+19:=by
 have hp:=List.pairwise_append.1 h.pair;have hp2:=List.pairwise_cons.1 hp.2.1;have hp3:=List.pairwise_cons.1 hp2.2;have ga:=h.all a (by simp);have gb:=h.all b (by simp);obtain⟨j1,j2,j3,j4,j5⟩:=jD2 n a b ga.1 gb.1 (hp2.1 b (by simp)) hc ga.2 h3 h1;refine⟨zE1 h.drop_one j1 j4 (fun w hw=>by have:=j3 w hw;omega) ?_,?_,?_,?_,?_⟩
 ·intro w hw q hq x hx;have:q∈(qE2 n a.key a.sub b.sub).flatMap (fun l=>cont n l.sub):=List.mem_flatMap.2 ⟨w,hw,hq⟩;rw[j2] at this;rcases List.mem_append.1 this with hq|hq
  ·exact (hp2.1 x (by simp[hx])).2 q hq
  ·exact (hp3.1 x hx).2 q hq
 ·simp only[List.flatMap_append,List.flatMap_cons,j2,List.append_assoc]
 ·intro x hx;simp only[List.mem_append] at hx;rcases hx with (hx|hx)|hx
  ·exact hP x hx
  ·exact j3 x hx
  ·exact hQ x hx
 ·have:1≤(qE2 n a.key a.sub b.sub).length:=List.length_pos_iff.2 j4;simp;omega
 ·simp only[qF4,qE0];omega
theorem zZ3{n:Nat}{lo:ByteArray}{A W B:List (Lnk (Tn n))}{m:Lnk (Tn n)}(h:Row0 n lo (A++W++B))(hA:∀ x∈A,3≤cnt n x.sub)(hB:∀ x∈B,3≤cnt n x.sub)(hW:Made n m 1 W)(hm:3≤cnt n m.sub)(hlen:2≤(A++W++B).length):
  Row0 n lo (qC2 n (A++W++B) A.length)∧(qC2 n (A++W++B) A.length).flatMap (fun l=>cont n l.sub)=(A++W++B).flatMap (fun l=>cont n l.sub)∧(∀ x∈qC2 n (A++W++B) A.length,3≤cnt n x.sub)∧
  (A++W++B).length≤(qC2 n (A++W++B) A.length).length+1∧meas qA3 (qC2 n (A++W++B) A.length)≤meas qA3 (A++W++B)+19:=by
 have stay:(∀ x∈W,3≤cnt n x.sub)→Row0 n lo (qC2 n (A++W++B) A.length)∧(qC2 n (A++W++B) A.length).flatMap (fun l=>cont n l.sub)=(A++W++B).flatMap (fun l=>cont n l.sub)∧(∀ x∈qC2 n (A++W++B) A.length,3≤cnt n x.sub)∧
  (A++W++B).length≤(qC2 n (A++W++B) A.length).length+1∧meas qA3 (qC2 n (A++W++B) A.length)≤meas qA3 (A++W++B)+19:=by
  intro h3;have e:qC2 n (A++W++B) A.length=A++W++B:=by
   obtain⟨a,r,rfl⟩:∃ a r,W=a::r:=by
    rcases hW with⟨a,rfl,_⟩|⟨a,b,rfl,_⟩
    ·exact⟨a,[],rfl⟩
    ·exact⟨a,[b],rfl⟩
   have:(A++a::r++B)[A.length]?=some a:=by simp
   unfold qC2;rw[this];simp[h3 a (by simp)]
  rw[e];refine⟨h,rfl,?_,by omega,by omega⟩;intro x hx;simp only[List.mem_append] at hx;rcases hx with (hx|hx)|hx
  ·exact hA x hx
  ·exact h3 x hx
  ·exact hB x hx
 rcases hW with⟨a,rfl,e1,e2,e3⟩|⟨a,b,rfl,e1,e2,e3,e4,e5⟩
 ·by_cases h3:3≤cnt n a.sub
  ·exact stay (fun x hx=>by rw[List.mem_singleton.1 hx];exact h3)
  ·clear stay;have hat:(A++[a]++B)[A.length]?=some a:=by simp
   cases B with
   | cons b Q=>
    have hmin:min A.length ((A++[a]++b::Q).length-2)=A.length:=by simp;omega
    have ha1:(A++[a]++b::Q)[A.length+1]?=some b:=by
     rw[show A++[a]++b::Q=(A++[a])++b::Q from rfl,List.getElem?_append_right (by simp)];simp
    have e:qC2 n (A++[a]++b::Q) A.length=A++qE2 n a.key a.sub b.sub++Q:=by
     unfold qC2;rw[hat];simp only[h3,if_false,hmin,hat,ha1]
     congr 2
     ·simp
     ·rw[show A++[a]++b::Q=(A++[a,b])++Q by simp];exact List.drop_left' (by simp)
    rw[e];have hb3:=hB b (by simp);have:=zZ2 (P:=A) (Q:=Q) (a:=a) (b:=b) (lo:=lo) (by simpa using h) hA (fun x hx=>hB x (by simp[hx])) (.inl (by omega)) (by omega) (by omega);simpa using this
   | nil=>
    rcases List.eq_nil_or_concat A with rfl|⟨P,p,rfl⟩
    ·simp at hlen
    ·rw[List.concat_eq_append] at *;have hmin:min (P++[p]).length ((P++[p]++[a]++[]).length-2)=P.length:=by simp
     have hp0:(P++[p]++[a]++[])[P.length]?=some p:=by simp
     have hp1:(P++[p]++[a]++[])[P.length+1]?=some a:=by simp
     have e:qC2 n (P++[p]++[a]++[]) (P++[p]).length=P++qE2 n p.key p.sub a.sub++[]:=by
      unfold qC2;rw[hat];simp only[h3,if_false,hmin,hp0,hp1]
      congr 2
      ·simp
      ·simp
     rw[e];have hp3:=hA p (by simp);have:=zZ2 (P:=P) (Q:=[]) (a:=p) (b:=a) (lo:=lo) (by simpa using h) (fun x hx=>hA x (by simp[hx])) (by simp) (.inr (by omega)) (by omega) (by omega);simpa using this
 ·exact stay (fun x hx=>by
   simp only[List.mem_cons,List.not_mem_nil,or_false] at hx;rcases hx with rfl|rfl<;>assumption)
theorem qY8:∀ (n:Nat) (l:Lnk (Tn n)) (k:ByteArray),Good n l.key l.sub→kl k l.key=false→l.key.size≤8→(∃ q∈cont n l.sub,q.k=k)→min n 1<cnt n l.sub→
  Row0 n l.key (qD0 n l k)∧(qD0 n l k).flatMap (fun l=>cont n l.sub)=del k (cont n l.sub)∧Made n l 1 (qD0 n l k)
 | 0,l,k,h,hk,hz,hq,h1=>by
  have hs:Sorted (prs l.sub):=h.sorted;have hsp:=(zH6 hs k).2 hq;have e:(prs l.sub).take (qC1 (prs l.sub) k)++(prs l.sub).drop (qC1 (prs l.sub) k+1)=del k (prs l.sub):=(zS2 hs hsp).symm;have hm:meas ν (del k (prs l.sub))≤126:=by
   rw[←e,qF4];have h1:=qP1 ν (prs l.sub) (qC1 (prs l.sub) k);have h2:=qP1 ν ((prs l.sub).drop (qC1 (prs l.sub) k)) 1;have h3:meas ν (prs l.sub)≤126:=h.fits;rw[List.drop_drop] at h2;omega
  obtain⟨r1,r2,r3⟩:=qU8 (lo:=l.key) (ps:=del k (prs l.sub)) (hs.del k) (fun q hq=>h.all q (qX9.1 hq).1) (by omega) hz;have e2:qD0 0 l k=qE1 l.key (del k (prs l.sub)):=by rw[←e];rfl
  rw[e2];refine⟨r1,r2,?_⟩;rcases r3 with⟨a,e1,e2,e3,e4⟩|⟨a,b,e1,e2,e3,e4,e5,e6⟩
  ·refine .inl ⟨a,e1,e2,e3,?_⟩;rw[e4];show (prs l.sub).length≤(del k (prs l.sub)).length+1;rw[←e];simp;omega
  ·exact .inr ⟨a,b,e1,e2,e3,e4,e5,e6⟩
 | n+1,l,k,h,hk,hz,hq,h1=>by
  have h2:1<(η l.sub).length:=by have h2:min (n+1) 1<(η l.sub).length:=h1;omega
  have hr:Row0 n l.key (η l.sub):=⟨h.head,fun m hm=>⟨(h.all m hm).1,(h.all m hm).2.2⟩,h.pair⟩;obtain⟨A,m,B,e,hA,hkm,hqA,hqB⟩:=qZ7 (k:=k) hr (by intro e;rw[e] at h2;simp at h2) hk;have hall:∀ x∈A++m::B,Good n x.key x.sub∧3≤cnt n x.sub∧x.key.size≤8:=fun x hx=>h.all x (by show x∈η l.sub;rw[e];exact hx);have hm:=hall m (by simp);have hqB':∀ b∈B,∀ q∈cont n b.sub,kl k q.k=true:=fun b hb q hq=>qN7 (hqB b hb) ((qK4 n b.key b.sub (hall b (by simp[hb])).1).2 q hq).2;have hqm:∃ q∈cont n m.sub,q.k=k:=by
   obtain⟨q,hq,eq⟩:=hq;have hq:q∈(η l.sub).flatMap (fun l=>cont n l.sub):=hq;rw[e] at hq;obtain⟨x,hx,hqx⟩:=List.mem_flatMap.1 hq;rcases List.mem_append.1 hx with hx|hx
   ·exact absurd eq (qJ3 (hqA x hx q hqx))
   ·rcases List.mem_cons.1 hx with rfl|hx
    ·exact⟨q,hqx,eq⟩
    ·exact absurd eq.symm (qJ3 (hqB' x hx q hqx))
  obtain⟨w1,w2,w3⟩:=qY8 n m k hm.1 hkm hm.2.2 hqm (by omega);have hwc:∀ w∈qD0 n m k,1≤cnt n w.sub:=by
   rcases w3 with⟨a,e1,_,_,e4⟩|⟨a,b,e1,_,_,_,e5,e6⟩
   ·rw[e1];intro w hw;rw[List.mem_singleton.1 hw];omega
   ·rw[e1];intro w hw;simp only[List.mem_cons,List.not_mem_nil,or_false] at hw;rcases hw with rfl|rfl<;>omega
  have hr':Row0 n l.key (A++m::B):=by rw[←e];exact hr
  have hpair:=List.pairwise_append.1 hr'.pair;have hsp:=zE1 hr' w1 w3.ne hwc (fun w hw q hq b hb=>by
   have:q∈(qD0 n m k).flatMap (fun l=>cont n l.sub):=List.mem_flatMap.2 ⟨w,hw,hq⟩;rw[w2] at this;exact ((List.pairwise_cons.1 hpair.2.1).1 b hb).2 q (qX9.1 this).1)
  have hmW:=w3.meas (fun w hw=>(w1.all w hw).2);have hfit:meas qA3 (A++m::B)≤126:=by have h3:meas qA3 (η l.sub)≤126:=h.fits;rw[e] at h3;exact h3
  have hmm:meas qA3 (A++qD0 n m k++B)≤145:=by
   rw[qF4,qF4];rw[qF4,qE0] at hfit;omega
  have hW1:1≤(qD0 n m k).length:=List.length_pos_iff.2 w3.ne;have hlen:(η l.sub).length≤(A++qD0 n m k++B).length:=by rw[e];simp;omega
  obtain⟨d1,d2,d3,d4,d5⟩:=zZ3 (m:=m) hsp (fun x hx=>(hall x (by simp[hx])).2.1) (fun x hx=>(hall x (by simp[hx])).2.1) w3 hm.2.1 (by omega);have hw:qD0 (n+1) l k=qD7 n l.key (qC2 n (A++qD0 n m k++B) A.length):=by
   have hget:(η l.sub)[qB2 (η l.sub) k]?=some m:=by rw[←hA,e];simp
   have htake:(η l.sub).take (qB2 (η l.sub) k)=A:=by rw[←hA,e];simp
   have hdrop:(η l.sub).drop (qB2 (η l.sub) k+1)=B:=by
    rw[←hA,e,show A++m::B=(A++[m])++B by simp];exact List.drop_left' (by simp)
   show (match (η l.sub)[qB2 (η l.sub) k]? with
    | some m=>qD7 n l.key (qC2 n ((η l.sub).take (qB2 (η l.sub) k)++qD0 n m k++(η l.sub).drop (qB2 (η l.sub) k+1)) (qB2 (η l.sub) k))
    | none=>[])=_
   rw[hget,htake,hdrop,hA]
  rw[hw];obtain⟨b1,b2,b3⟩:=zG5 d1 d3 (by omega) hz;refine⟨b1,?_,?_⟩
  ·rw[b2,d2];show _=del k ((η l.sub).flatMap (fun l=>cont n l.sub));rw[e];simp only[List.flatMap_append,w2,List.flatMap_cons];rw[←List.append_assoc,xU6 (fun q hq=>by obtain⟨a,ha,hq⟩:=List.mem_flatMap.1 hq;exact hqA a ha q hq) (fun q hq=>by
    obtain⟨b,hb,hq⟩:=List.mem_flatMap.1 hq;exact hqB' b hb q hq)]
  ·rcases b3 with⟨a,e1,e2,e3,e4⟩|⟨a,b,e1,e2,e3,e4,e5,e6⟩
   ·refine .inl ⟨a,e1,e2,e3,?_⟩;rw[e4];show (η l.sub).length≤(qC2 n (A++qD0 n m k++B) A.length).length+1;omega
   ·exact .inr ⟨a,b,e1,e2,e3,e4,e5,e6⟩
theorem xU4{r:Root}{k:ByteArray}(h:RGood r):RGood (r.del k)∧(r.del k).cont=del k r.cont:=by
 cases r with
 | none=>exact⟨trivial,rfl⟩
 | «at» n l=>
  obtain⟨h1,h2,h3⟩:=h;unfold Root.del;by_cases hq:(cont n l.sub).any (fun q=>decide (q.k=k))=true
  ·simp only[hq,if_true];have hq':∃ q∈cont n l.sub,q.k=k:=by simpa using hq
   obtain⟨w1,w2,w3⟩:=qY8 n l k h2 (by rw[h1];exact qN6 _) (by rw[h1];decide) hq' h3;have:=zM2 h1 w1 w3 h3 (by omega);rw[w2] at this;exact this
  ·simp only[hq];refine⟨⟨h1,h2,h3⟩,?_⟩;have:∀ q∈cont n l.sub,q.k≠k:=by simpa using hq
   exact (qW8 this).symm
theorem qT9{r:Root}(h:RGood r):2*r.news≤r.cont.length+1:=by
 cases r with
 | none=>simp[Root.news]
 | «at» n l=>
  obtain⟨h1,h2,h3⟩:=h;have a:=qY1 n l.key l.sub h2;have b:=zK2 n l;show 2*news n l≤(cont n l.sub).length+1;omega
end Go.Proofs.YtdohpenfkdckiabGreatDoor
namespace Go.Proofs.YtdohpenfkdckiabGreatDoor
open Go.Proofs.Tryz
open Go.RowKit
theorem jT7{P:Program}{ops:Array Oper}{rest:List Oper}{dst:Option Tmp}{ty:TypeId}{pos:String}{aft:Array Edge}{a:Act}{w w':World}{Q:Exit→Act→World→Prop}{s x:Operand}{t:TypeId}{vs vx v':Value}(hs:a.eval s=vs)(hx:a.eval x=vx)
  (hr:Sem.run P (Builtin.append_ #[t,t] ty #[vs,vx]) w=.ok v' w') (h:wpList P ops Q rest (a.put dst v') w'):
  wpList P ops Q (⟨dst,.call { callee:=.builtin .append,args:=#[s,x],argTypes:=#[t,t] },ty,pos,aft,none⟩::rest) a w:=by
 refine wpList_plain rfl fun K hK=>?_;have hk:=hK _ _ h;unfold Oper.wp execOp;simp only[resolve,invoke,builtin,Sem.run_bind,Sem.run_pure,Result.andThen_ok,List.map_toArray,List.map_cons,List.map_nil,hs,hx,hr];exact hk
variable {κ:Nat}
theorem jV1(k:Nat):∀ v∈(Builtin.zeroCells zeroCells87 k).toList,v=.int .u8 0:=by
 intro v hv;unfold Builtin.zeroCells at hv;simp only[Array.toList_map,List.mem_map] at hv;obtain⟨i,_,rfl⟩:=hv;have hlt:i % zeroCells87.size<zeroCells87.size:=Nat.mod_lt _ (by rw[zF8];decide);rw[getElem!_pos zeroCells87 (i % zeroCells87.size) hlt];exact zO1 _ (by simp)
theorem jV0(k:Nat):Builtin.zeroCells zeroCells87 k=enc (List.replicate (k*128) 0):=by
 apply Array.ext';have h1:(Builtin.zeroCells zeroCells87 k).toList.length=k*128:=by rw[Array.length_toList,size_zeroCells,zF8]
 have e:(Builtin.zeroCells zeroCells87 k).toList=List.replicate (k*128) (.int .u8 0):=List.eq_replicate_iff.2 ⟨h1,jV1 k⟩;rw[e];simp[enc,qC6]
def pad(l:List UInt8)(N z:Nat):List UInt8:=l.take (N*128)++List.replicate (z*128) 0
theorem xE6{l:List UInt8}{N z:Nat}(h:N*128≤l.length):(pad l N z).length=(N+z)*128:=by simp[pad];omega
theorem jM4{l:List UInt8}{N z k:Nat}(h:N*128≤l.length)(hk:k<N):ι (pad l N z) k=ι l k:=by
 unfold ι pad;rw[List.drop_append_of_le_length (by simp;omega),List.take_append_of_le_length (by simp;omega),List.drop_take,List.take_take]
 congr 1
 omega
theorem xM1(A N C:Nat)(calls writes:Int)(l:List UInt8)(kb:Option Addr)(kn kc:Nat)(w:World)(h:w.heap[A]?=some (χ κ N C (.slice none 0 0) calls writes))(hN:1≤N)(hN4:N≤1000)(hC:w.heap[C]?=some (.cells (enc l) 87))(hl:N*128≤l.length):
  Calls prog 15 #[.pointer (some ⟨A,0,none⟩),.slice kb kn kc] w fun e w'=>∃ A' C' z,e=.returned (.pointer (some ⟨A',0,none⟩))∧w.heap.size≤A'∧w.heap.size≤C'∧C'≠A'∧w'.heap[A']?=some (χ ((pad l N z).length / 128) N C' (.slice none 0 0) 0 0)∧w'.heap[C']?=some (.cells (enc (pad l N z)) 87)∧Kp [] w w':=by
 obtain⟨i,hi,hiz⟩:=Option.map_eq_some_iff.1 zN2;simp only[Prod.mk.injEq] at hiz;obtain⟨hz,hsz,hby⟩:=hiz;have hr:=run_append_nil (P:=prog) w 69 69 87 i (.agg zeroCells87) underlying69 hi hz ⟨C,0,none⟩ N κ (qC6 (l.take (N*128))) (by rw[hsz];simp[qC6];omega) (fun j v hj=>by
  have e:=ξ hC j;have hj2:(qC6 l)[j]?=some v:=by
   unfold qC6 at hj ⊢;rw[List.map_take,List.getElem?_take] at hj;split at hj
   ·exact hj
   ·cases hj
  rw[show (⟨C,0,none⟩:Addr).add j=⟨C,j,none⟩ by simp[Addr.add];omega,e];simpa [enc] using hj2) (by omega) (by omega) (by rw[hby];omega)
 have hge:=grownCap_ge w N 0 87;obtain⟨z,hzd⟩:∃ z,grownCap w N 0 87=N+z:=⟨grownCap w N 0 87-N,by omega⟩;rw[hzd,show N+z-N=z by omega,show (Value.agg zeroCells87).cells=zeroCells87 from rfl,jV0] at hr;have he:(qC6 (l.take (N*128))).toArray++enc (List.replicate (z*128) 0)=enc (pad l N z):=by simp[enc,qC6,pad]
 rw[he] at hr;have hAs:=ζ h;have a0:=ξ h 0;have a1:=ξ h 1;simp only[χ,zG,zH,zI] at a0 a1;have HR:Hid (N+z=(pad l N z).length / 128):=by show N+z=_;rw[xE6 hl];omega
 clear h hge hzd he hi hz hsz hby;go_enter func15,ntmps15
 go_wp2_with (at_builtin;(with_reducible refine jT7 ?_ ?_ hr ?_);rfl;rfl)
 obtain⟨w2,hw2,hC2,hA2,hK2⟩:∃ w2,w2=((w.alloc (.cells (enc (pad l N z)) 87)).alloc (χ (N+z) N w.heap.size (.slice none 0 0) 0 0)).drew∧w2.heap[w.heap.size]?=some (.cells (enc (pad l N z)) 87)∧w2.heap[w.heap.size+1]?=some (χ (N+z) N w.heap.size (.slice none 0 0) 0 0)∧Kp [] w w2:=by
  refine⟨_,rfl,θ _ (μ w _),?_,(((Kp.refl [] w).alloc _).alloc _).drew⟩;have e:=μ (w.alloc (.cells (enc (pad l N z)) 87)) (χ (N+z) N w.heap.size (.slice none 0 0) 0 0);rw[show (w.alloc (.cells (enc (pad l N z)) 87)).heap.size=w.heap.size+1 by simp] at e;exact e
 rw[χ] at hw2;rw[←hw2];clear hw2 hr
 go_loopw [21] (fun i w'=>i=.int .i64 0∧w'=w2) (fun _ _=>0)
 case atStart=>exact⟨rfl,rfl⟩
 case round=>
  obtain⟨rfl,hwr⟩:=hrel;rw[hwr];clear hwr;go_wp2;go_ret;exact⟨w.heap.size+1,w.heap.size,z,rfl,by omega,by omega,by omega,by rw[←HR.out];exact hA2,hC2,hK2⟩
theorem zL5(N rb rs:Int):(qH6 N rb rs).length=24:=by simp[qH6,qH2,qG5]
theorem qV3(N rb rs:Int):(qE5 N rb rs).length=32:=by simp[qE5,zL5,qG5]
theorem jK1(N N' a b c d:Int)(w:World)(hN:0≤N)(hN':0≤N')(hle:N≤N')(h1:N'≤1000000000):
  Calls prog 112 #[.agg #[.int .u64 N,.int .i64 a,.int .u64 b],.agg #[.int .u64 N',.int .i64 c,.int .u64 d]] w fun e w'=>e=.returned (.bool false)∧Below w.heap.size w w':=by
 have hd:decide (0<wrap64 (IntKind.u64.wrap (N-N')))=false:=by
  simp only[wrap64,IntKind.wrap_u64,decide_eq_false_iff_not];omega
 go_enter func112,ntmps112;go_wp2;go_ret;exact⟨rfl,((Below.refl _ _).alloc (Nat.le_refl _) _).alloc (by simp) _⟩
theorem zD4(N rb rs qb qs:Int)(w:World)(hN:0≤N)(h1:N≤1000000000):
  Calls prog 99 #[.agg #[.int .u64 N,.int .i64 rb,.int .u64 rs],.agg #[.int .i64 qb,.int .u64 qs]] w fun e w'=>e=.returned (.agg #[.int .u64 (N+1),.int .i64 qb,.int .u64 qs])∧Below w.heap.size w w':=by
 go_enter func99,ntmps99;go_wp2;refine bodyPost_ret (results_cell_row results99 _ _ (w.heap.size+1+1) 116 #[.int .u64 (N+1),.int .i64 qb,.int .u64 qs] (0,0) _ rfl ?_ underlying116 rfl (by kernel_rfl)) rfl ⟨rfl,(((Below.refl _ _).alloc (Nat.le_refl _) _).alloc (by simp) _).alloc (by simp;omega) _⟩;simpa using μ ((w.alloc (.cells #[.int .u64 N,.int .i64 rb,.int .u64 rs] 116)).alloc (.cells #[.int .i64 qb,.int .u64 qs] 78)) (.cells #[.int .u64 (N+1),.int .i64 qb,.int .u64 qs] 116)
def qF3(N:Int):List UInt8:=toB (qE5 N 0 0)++List.replicate 96 0
def qH5:List UInt8:=List.replicate 128 0
theorem qI5(xs:List Int):(toB xs).length=xs.length:=by simp[toB]
theorem qP6(N:Int):(qF3 N).length=128:=by simp[qF3,qI5,qV3]
theorem jA6(N:Int):(qF3 N).take 32=toB (qE5 N 0 0):=by
 have h:(toB (qE5 N 0 0)).length=32:=by rw[qI5,qV3]
 rw[qF3,List.take_append_of_le_length (by omega),List.take_of_length_le (by omega)]
theorem zH8(N:Int):qF3 N=toB qH2++(toB (qB0 2 0)++(toB (qB0 8 N)++(toB (qB0 8 0)++(toB (qB0 8 (fnv (qH6 N 0 0)))++List.replicate 96 0)))):=by
 simp only[qF3,qE5]
 conv=>lhs;rw[qH4]
 simp only[qH6,qH4,List.append_assoc]
theorem qU2{α:Type}(a b c:List α)(k n:Nat)(hk:a.length=k)(hn:b.length=n):((a++(b++c)).drop k).take n=b:=by
 subst hk;subst hn;simp
theorem jA8(N:Int)(h0:0≤N)(h1:N≤1000000000):qE4 (qD2 (((qF3 N).drop 8).take 8))=N:=by
 have e:((qF3 N).drop 8).take 8=toB (qB0 8 N):=by
  rw[zH8,←List.append_assoc (toB qH2)];exact qU2 _ _ _ 8 8 (by simp[qI5,qG5,qH2]) (by simp[qI5,qG5])
 rw[e,qK2 _ (qJ1 8 N),qL4 8 N (by decide) h0];have:(256:Int) ^ 8=18446744073709551616:=by decide
 omega
theorem jA7(N:Int):qE4 (qD2 (((qF3 N).drop 6).take 2))=0:=by
 have e:((qF3 N).drop 6).take 2=toB (qB0 2 0):=by
  rw[zH8];exact qU2 _ _ _ 6 2 (by simp[qI5,qH2]) (by simp[qI5,qG5])
 rw[e,qK2 _ (qJ1 2 0),qL4 2 0 (by decide) (by decide) (by decide)]
theorem jA9(N:Int):qE4 (qD2 (((qF3 N).drop 16).take 8))=0:=by
 have e:((qF3 N).drop 16).take 8=toB (qB0 8 0):=by
  rw[zH8,←List.append_assoc (toB qH2),←List.append_assoc (toB qH2++toB (qB0 2 0))];exact qU2 _ _ _ 16 8 (by simp[qI5,qG5,qH2]) (by simp[qI5,qG5])
 rw[e,qK2 _ (qJ1 8 0),qL4 8 0 (by decide) (by decide) (by decide)]
theorem jU8:qE4 (qD2 ((qH5.drop 8).take 8))=0:=by decide
theorem jU6:qE4 (qD2 ((qH5.drop 6).take 2))=0:=by decide
theorem jU9:qE4 (qD2 ((qH5.drop 16).take 8))=0:=by decide
theorem jU7:(toB (qE5 0 0 0) == qH5.take 32)=false:=by
 have h:toB (qE5 0 0 0)=115::(toB (qE5 0 0 0)).tail:=by
  simp[qE5,qH6,qH2,toB]
 rw[h];simp[qH5,List.replicate]
structure Fresh(l:List UInt8):Prop where
 b0:ι l 0=qH5
 b1:ι l 1=qH5
structure Formatted(l:List UInt8)(N:Int):Prop where
 b0:ι l 0=qF3 N
 b1:ι l 1=qF3 (N-1)
 even:N % 2=0
 low:2≤N
 high:N≤1000000000
variable {κ:Nat}
theorem zV2(V A n C:Nat)(calls writes:Int)(i:Nat)(l:List UInt8)(w:World)(hV:w.heap[V]?=some (qB8 A n))(h:w.heap[A]?=some (χ κ n C (.slice none 0 0) calls writes))(h0:0≤calls)(h1:calls≤1000000000)
  (hi:i<n) (hn:n≤1000) (hC:w.heap[C]?=some (.cells (enc l) 87)) (hs:n*128≤l.length) (hAC:C≠A) (hVA:V≠A) (hb:ι l i=qH5):
  Calls prog 111 #[.pointer (some ⟨V,0,none⟩),.int .i64 i] w fun e w'=>e=.returned (.tuple #[.agg #[.int .u64 0,.int .i64 0,.int .u64 0],.bool false])∧
   w'.heap[A]?=some (χ κ n C (.slice none 0 0) (calls+1) writes)∧Kp [A] w w':=
 (zF2 V A n C calls writes i l 0 0 0 w hV h h0 h1 hi hn hC hs hAC hVA (by rw[hb];exact jU8) (by rw[hb];exact jU6) (by rw[hb];exact jU9) (by decide) (by decide) (by decide) (by decide) false (by rw[hb,jU7];simp)).mono fun e w' hr=>⟨by simpa [qK9] using hr.1,hr.2⟩
theorem zT6(V A n C:Nat)(calls writes:Int)(i:Nat)(l:List UInt8)(N:Int)(w:World)(hV:w.heap[V]?=some (qB8 A n))(h:w.heap[A]?=some (χ κ n C (.slice none 0 0) calls writes))(h0:0≤calls)(h1:calls≤1000000000)
  (hi:i<n) (hn:n≤1000) (hC:w.heap[C]?=some (.cells (enc l) 87)) (hs:n*128≤l.length) (hAC:C≠A) (hVA:V≠A) (hb:ι l i=qF3 N) (hN:N % 2=i) (hN0:0≤N) (hN1:N≤1000000000):
  Calls prog 111 #[.pointer (some ⟨V,0,none⟩),.int .i64 i] w fun e w'=>e=.returned (.tuple #[.agg #[.int .u64 N,.int .i64 0,.int .u64 0],.bool true])∧
   w'.heap[A]?=some (χ κ n C (.slice none 0 0) (calls+1) writes)∧Kp [A] w w':=
 (zF2 V A n C calls writes i l N 0 0 w hV h h0 h1 hi hn hC hs hAC hVA (by rw[hb];exact jA8 N hN0 hN1) (by rw[hb];exact jA7 N) (by rw[hb];exact jA9 N) hN0 (by decide) (by decide) (by decide) true (by rw[hb,jA6];simp[hN])).mono fun e w' hr=>⟨by simpa [qK9] using hr.1,hr.2⟩
theorem xL3(V A n C:Nat)(calls writes:Int)(l:List UInt8)(w:World)(hV:w.heap[V]?=some (qB8 A n))(h:w.heap[A]?=some (χ κ n C (.slice none 0 0) calls writes))(h0:0≤calls)(h1:calls≤999999999)
  (hn2:8≤n) (hn:n≤1000) (hC:w.heap[C]?=some (.cells (enc l) 87)) (hs:n*128≤l.length) (hAC:C≠A) (hVA:V≠A) (hf:Fresh l):
  Calls prog 73 #[.pointer (some ⟨V,0,none⟩)] w fun e w'=>e=.returned (.tuple #[.agg #[.int .u64 0,.int .i64 0,.int .u64 0],.bool false])∧
   w'.heap[A]?=some (χ κ n C (.slice none 0 0) (calls+2) writes)∧Kp [A] w w':=by
 have hVs:=ζ hV;have hA:=ζ h;have hCs:=ζ hC;go_enter func73,ntmps73;go_wp2_with fail;refine (zV2 V A n C calls writes 0 l _ (θ _ hV) (θ _ h) h0 (by omega) (by omega) hn (θ _ hC) hs hAC hVA hf.b0).mono ?_;rintro e w1 ⟨rfl,hA1,hK1⟩;have hR1:=hK1.heap (μ w (.cells #[.int .u64 0,.int .i64 0,.int .u64 0] 116)) (by simp;omega);have hV1:=hK1.heap (θ _ hV) (by simp[hVA]);have hC1:=hK1.heap (θ _ hC) (by simp[hAC]);have hK1':Kp [A] w w1:=((Kp.refl _ _).alloc _).tr hK1;have hA1s:=ζ hA1;have hR1s:=ζ hR1;clear hK1;go_wp2_with fail;refine (zV2 V A n C (calls+1) writes 1 l _ (θ _ hV1) (θ _ hA1) (by omega) (by omega) (by omega) hn (θ _ hC1) hs hAC hVA hf.b1).mono ?_;rintro e w2 ⟨rfl,hA2,hK2⟩;have hR2:=hK2.heap (θ _ hR1) (by simp;omega);have hH2:=hK2.heap (μ w1 (.cells #[.int .u64 0,.int .i64 0,.int .u64 0] 116)) (by simp;omega);have hK2':Kp [A] w w2:=hK1'.trans (((Kp.refl [A] _).alloc _).tr hK2) (by simp);have hH2s:=ζ hH2;have hR2s:=ζ hR2;have hA2s:=ζ hA2;rw[show calls+1+1=calls+2 from by omega] at hA2;clear hK2 hK1' hR1 hV1 hC1 hA1;have r0:=ξ hR2 0;have r1:=ξ hR2 1;have r2:=ξ hR2 2;have s0:=ξ hH2 0;have s1:=ξ hH2 1;have s2:=ξ hH2 2;simp at r0 r1 r2 s0 s1 s2;have rf:=ρ hR2;go_wp2;have hfin:=θ (.cells #[.int .u64 0,.int .i64 0,.int .u64 0] 116) (ω (ω (ω hR2 0 (.int .u64 0)) 1 (.int .i64 0)) 2 (.int .u64 0));refine bodyPost_ret (qP0 results73 _ _ w.heap.size 116 _ _ _ rfl hfin underlying116 rfl (by kernel_rfl)) rfl ⟨rfl,?_,(((hK2'.sc _).sc _).sc _).alloc _⟩;exact θ _ ((qA7 (by omega) _ _).trans ((qA7 (by omega) _ _).trans ((qA7 (by omega) _ _).trans hA2)))
theorem zZ8(V A n C:Nat)(calls writes:Int)(l:List UInt8)(N:Int)(w:World)(hV:w.heap[V]?=some (qB8 A n))(h:w.heap[A]?=some (χ κ n C (.slice none 0 0) calls writes))(h0:0≤calls)(h1:calls≤999999999)
  (hn2:8≤n) (hn:n≤1000) (hC:w.heap[C]?=some (.cells (enc l) 87)) (hs:n*128≤l.length) (hAC:C≠A) (hVA:V≠A) (hf:Formatted l N):
  Calls prog 73 #[.pointer (some ⟨V,0,none⟩)] w fun e w'=>e=.returned (.tuple #[.agg #[.int .u64 N,.int .i64 0,.int .u64 0],.bool true])∧
   w'.heap[A]?=some (χ κ n C (.slice none 0 0) (calls+2) writes)∧Kp [A] w w':=by
 have hVs:=ζ hV;have hA:=ζ h;have hCs:=ζ hC;have hNhi:=hf.high;have hNlo:=hf.low;have hodd:(N-1) % 2=((1:Nat):Int):=by have:=hf.even;omega
 have HO:=zh hodd;clear hodd;go_enter func73,ntmps73;go_wp2_with fail;refine (zT6 V A n C calls writes 0 l N _ (θ _ hV) (θ _ h) h0 (by omega) (by omega) hn (θ _ hC) hs hAC hVA hf.b0 hf.even (by omega) hNhi).mono ?_;rintro e w1 ⟨rfl,hA1,hK1⟩;have hR1:=hK1.heap (μ w (.cells #[.int .u64 0,.int .i64 0,.int .u64 0] 116)) (by simp;omega);have hV1:=hK1.heap (θ _ hV) (by simp[hVA]);have hC1:=hK1.heap (θ _ hC) (by simp[hAC]);have hK1':Kp [A] w w1:=((Kp.refl _ _).alloc _).tr hK1;have hA1s:=ζ hA1;have hR1s:=ζ hR1;clear hK1;go_wp2_with fail;refine (zT6 V A n C (calls+1) writes 1 l (N-1) _ (θ _ hV1) (θ _ hA1) (by omega) (by omega) (by omega) hn (θ _ hC1) hs hAC hVA hf.b1 HO.out (by omega) (by omega)).mono ?_;rintro e w2 ⟨rfl,hA2,hK2⟩;have hR2:=hK2.heap (θ _ hR1) (by simp;omega);have hH2:=hK2.heap (μ w1 (.cells #[.int .u64 N,.int .i64 0,.int .u64 0] 116)) (by simp;omega);have hK2':Kp [A] w w2:=hK1'.trans (((Kp.refl [A] _).alloc _).tr hK2) (by simp);have hH2s:=ζ hH2;have hR2s:=ζ hR2;have hA2s:=ζ hA2;rw[show calls+1+1=calls+2 from by omega] at hA2;clear hK2 hK1' hR1 hV1 hC1 hA1;have r0:=ξ hR2 0;have r1:=ξ hR2 1;have r2:=ξ hR2 2;have s0:=ξ hH2 0;have s1:=ξ hH2 1;have s2:=ξ hH2 2;simp at r0 r1 r2 s0 s1 s2;have rf:=ρ hR2;go_wp2_with fail;refine (jK1 (N-1) N 0 0 0 0 _ (by omega) (by omega) (by omega) hNhi).mono ?_;rintro e w3 ⟨rfl,hB3⟩;have hB3':=Kp.of_below hB3 (Nat.le_refl _);have hR3:=hB3'.heap (θ _ hR2) (by simp);have hA3:=hB3'.heap (θ _ hA2) (by simp);have hH3:=hB3'.heap (θ _ hH2) (by simp);have hK3:Kp [A] w w3:=(hK2'.alloc _).tr hB3';clear hB3 hB3' r0 r1 r2 s0 s1 s2 rf;have r0:=ξ hR3 0;have r1:=ξ hR3 1;have r2:=ξ hR3 2;have s0:=ξ hH3 0;have s1:=ξ hH3 1;have s2:=ξ hH3 2;simp at r0 r1 r2 s0 s1 s2;have rf:=ρ hR3;go_wp2;have hfin:=ω (ω (ω hR3 0 (.int .u64 N)) 1 (.int .i64 0)) 2 (.int .u64 0);refine bodyPost_ret (qP0 results73 _ _ w.heap.size 116 _ _ _ rfl hfin underlying116 rfl (by kernel_rfl)) rfl ⟨rfl,?_,((hK3.sc _).sc _).sc _⟩;exact (qA7 (by omega) _ _).trans ((qA7 (by omega) _ _).trans ((qA7 (by omega) _ _).trans hA3))
variable {κ:Nat}
theorem xJ3:zeroCells223=enc qH5:=by
 have h:zeroCells223.toList=(enc qH5).toList:=by kernel_rfl
 have:=congrArg List.toArray h;simpa using this
theorem zT0{P:Program}{a:Act}{w:World}{o:Oper}{s x:Operand}{t t' e:TypeId}(ho:o.op=.call { callee:=.builtin .copy,args:=#[s,x],argTypes:=#[t,t'] })(hu:P.underlying t=some (.slice e))(hs:(P.info? e).map (·.size)=some 1)
  (g o' dLen dCap b so sLen sCap n:Nat) (hd:a.eval s=.slice (some ⟨g,o',none⟩) dLen dCap) (hx:a.eval x=.slice (some ⟨b,so,none⟩) sLen sCap) (hn:n=Nat.min sLen dLen)
  {cur src:Array Value} {tg tb:TypeId} {fr:Nat × Nat} (hg:w.heap[g]?=some (.cells cur tg)) (hb:w.heap[b]?=some (.cells src tb fr)) (hfit:o'+n≤cur.size) (hin:so+n≤src.size)
  (h1:∀ v∈(qA2 src so n).toList,v.oneCell'=true):
  Sem.run P (execOp a.eval o) w=.ok (.value (.int .i64 n)) (w.setRow g (qD3 cur o' (qA2 src so n))):=by
 have hr:=qR3 (P:=P) (w:=w) o.type (t:=t) (t':=t') hu hs (dLen:=dLen) (dCap:=dCap) (sLen:=sLen) (sCap:=sCap) n hn hg hb hfit hin h1;unfold execOp;simp only[ho,resolve,invoke,builtin,Sem.run_bind,Sem.run_pure,Result.andThen_ok,List.map_toArray,List.map_cons,List.map_nil,hd,hx,hr]
theorem zX2(V A n C:Nat)(calls writes:Int)(i:Nat)(N:Int)(l:List UInt8)(w:World)(hV:w.heap[V]?=some (qB8 A n))(h:w.heap[A]?=some (χ κ n C (.slice none 0 0) calls writes))(h0:0≤calls)(h1:calls≤999999999)(h0w:0≤writes)(h1w:writes≤999999999)
  (hi:i<n) (hn:n≤1000) (hC:w.heap[C]?=some (.cells (enc l) 87)) (hs:n*128≤l.length) (hAC:C≠A) (hVA:V≠A) (hVC:V≠C) (hN:N % 2=i) (hN0:0≤N):
  Calls prog 100 #[.pointer (some ⟨V,0,none⟩),.agg #[.int .u64 N,.int .i64 0,.int .u64 0]] w fun e w'=>e=.returned (.tuple #[])∧
   w'.heap[A]?=some (χ κ n C (.slice none 0 0) (calls+2) (writes+1))∧w'.heap[C]?=some (.cells (enc (qC8 l i (qF3 N))) 87)∧Kp [A,C] w w':=by
 have hVs:=ζ hV;have hA:=ζ h;have hCs:=ζ hC;have HN:=zh hN;clear hN;go_enter func100,ntmps100;go_wp2_with fail;rw[xJ3];obtain⟨W1,hW1,hK1,hA1,hC1,hV1,hH1,hG1,hsz⟩:∃ W1,W1=(w.alloc (.cells #[.int .u64 N,.int .i64 0,.int .u64 0] 116)).alloc (.cells (enc qH5) 223)∧Kp [A,C] w W1∧W1.heap[A]?=some (χ κ n C (.slice none 0 0) calls writes)∧W1.heap[C]?=some (.cells (enc l) 87)∧W1.heap[V]?=some (qB8 A n)∧
   W1.heap[w.heap.size]?=some (.cells #[.int .u64 N,.int .i64 0,.int .u64 0] 116)∧W1.heap[w.heap.size+1]?=some (.cells (enc qH5) 223)∧W1.heap.size=w.heap.size+2:=
  ⟨_,rfl,((Kp.refl _ _).alloc _).alloc _,θ _ (θ _ h),θ _ (θ _ hC),θ _ (θ _ hV),θ _ (μ _ _),by simpa using μ (w.alloc (.cells #[.int .u64 N,.int .i64 0,.int .u64 0] 116)) (.cells (enc qH5) 223),by simp⟩
 rw[←hW1];clear hW1;refine wp_region_any (by kernel_rfl) ?_;change wpAny _ _ _ _ _ _ _ (World.drew _);refine zu 0 (.slice (some ⟨w.heap.size+1,0,none⟩) 128 128) ?_;refine zQ 1 fun K hK=>?_;refine qJ9 rfl (qK3 (t:=116) rfl (by kernel_rfl) 3 (by kernel_rfl) w.heap.size rfl (show W1.drew.heap[w.heap.size]?=_ from hH1) rfl) ?_;refine hK _ _ ?_;clear hK K;simp only[zZ];refine zQ 2 fun K hK=>?_;go_simp;refine (zL6 N 0 0 _ hN0 (by decide) (by decide) (by decide)).mono ?_;rintro e w2 ⟨v2,rfl,hO2,hB2⟩;obtain⟨g2,cap2,cur2,rfl,hg2,hcs2,hp2⟩:=zK7 hO2;have hB2':Kp [] W1.drew w2:=Kp.of_below hB2 (Nat.le_refl _);have hA2:=hB2'.heap (k:=A) hA1 (by simp);have hC2:=hB2'.heap (k:=C) hC1 (by simp);have hV2:=hB2'.heap (k:=V) hV1 (by simp);have hH2:=hB2'.heap (k:=w.heap.size) hH1 (by simp);have hG2:=hB2'.heap (k:=w.heap.size+1) hG1 (by simp);have hK2:Kp [A,C] w w2:=(hK1.drew).tr hB2';have hs2:w.heap.size+2≤w2.heap.size:=by have:=hB2.size;simp at this;omega
 clear hB2 hB2' hA1 hC1 hV1 hH1 hG1 hK1 hO2;refine hK _ _ ?_;clear hK K
 try simp only[zZ]
 refine zQ 3 fun K hK=>?_;refine qJ9 rfl (zT0 rfl underlying90 Tryz.size5 (w.heap.size+1) 0 128 128 g2 0 32 cap2 32 rfl rfl (by decide) hG2 hg2 (by rw[qF2];decide) (by omega) (by rw[hp2];exact (qH3 _).one)) ?_;rw[hp2,zC6];have hblk:qH5.take 0++toB (qE5 N 0 0)++qH5.drop (0+(toB (qE5 N 0 0)).length)=qF3 N:=by
  rw[qI5,qV3];simp[qF3,qH5]
 rw[hblk];obtain⟨W3,hW3,hK3,hA3,hC3,hV3,hH3,hG3⟩:∃ W3,W3=w2.setRow (w.heap.size+1) (enc (qF3 N))∧Kp [A,C] w W3∧W3.heap[A]?=some (χ κ n C (.slice none 0 0) calls writes)∧W3.heap[C]?=some (.cells (enc l) 87)∧W3.heap[V]?=some (qB8 A n)∧
   W3.heap[w.heap.size]?=some (.cells #[.int .u64 N,.int .i64 0,.int .u64 0] 116)∧W3.heap[w.heap.size+1]?=some (.cells (enc (qF3 N)) 223):=
  ⟨_,rfl,hK2.setRow (Or.inr (by omega)) _,(setRow_other _ _ _ _ (by omega)).trans hA2,(setRow_other _ _ _ _ (by omega)).trans hC2,(setRow_other _ _ _ _ (by omega)).trans hV2,(setRow_other _ _ _ _ (by omega)).trans hH2,setRow_heap _ _ _ _ _ _ hG2⟩
 rw[←hW3];clear hW3 hA2 hC2 hV2 hH2 hG2 hK2 hg2 hcs2 hp2 hblk;refine hK _ _ ?_;clear hK K;refine wpAny_done (by kernel_rfl) ?_ _;simp only[zZ];go_wp2_with fail;have hhl:=qP6 N;refine wp_region_held_drew (S:=fun W=>W.heap[w.heap.size]?=some (.cells #[.int .u64 N,.int .i64 0,.int .u64 0] 116)∧W.heap[w.heap.size+1]?=some (.cells (enc (qF3 N)) 223)) (by kernel_rfl) ⟨hH3,hG3⟩ (fun _=>?_);refine zV 0 (.pointer (some ⟨V,0,none⟩)) rfl (fun W hS=>rfl) ⟨hH3,hG3⟩ ?_;refine zV 1 (.agg #[.int .u64 N,.int .i64 0,.int .u64 0]) rfl (fun W hS=>qK3 (t:=116) rfl (by kernel_rfl) 3 (by kernel_rfl) w.heap.size rfl hS.1 rfl) ⟨hH3,hG3⟩ ?_;refine zV 3 (.agg (enc (qF3 N))) rfl (fun W hS=>qK3 (t:=223) rfl (by kernel_rfl) 128 (by kernel_rfl) (w.heap.size+1) rfl hS.2 (by rw[qF2,qP6])) ⟨hH3,hG3⟩ ?_;refine zq 2 fun K hK=>?_;go_simp;refine (zD9 N 0 0 _ hN0).mono ?_;rintro e w4 ⟨rfl,hB4⟩;rw[HN.out];have hB4':Kp [] W3.drew w4:=Kp.of_below hB4 (Nat.le_refl _);have hA4:=hB4'.heap (k:=A) hA3 (by simp);have hC4:=hB4'.heap (k:=C) hC3 (by simp);have hV4:=hB4'.heap (k:=V) hV3 (by simp);have hH4:=hB4'.heap (k:=w.heap.size) hH3 (by simp);have hG4:=hB4'.heap (k:=w.heap.size+1) hG3 (by simp);have hK4:Kp [A,C] w w4:=(hK3.drew).tr hB4';clear hB4 hB4' hA3 hC3 hV3 hH3 hG3 hK3;refine hK.out _ _ ⟨hH4,hG4⟩ (fun _=>?_);clear hK K
 try simp only[zZ]
 refine zq 4 fun K hK=>?_;go_simp;refine (jO9 V A n C calls writes i (qF3 N) _ hV4 hA4 h0 (by omega) h0w (by omega) hi hn hhl hVA).mono ?_;rintro e w5 ⟨rfl,v5,hv5,hA5,hK5⟩;have hC5:=hK5.heap (k:=C) hC4 (by simp[hAC]);have hV5:=hK5.heap (k:=V) hV4 (by simp[hVA]);have hH5:=hK5.heap (k:=w.heap.size) hH4 (by simp;omega);have hG5:=hK5.heap (k:=w.heap.size+1) hG4 (by simp;omega);have hK5':Kp [A,C] w w5:=hK4.trans hK5 (by simp +contextual);clear hK5 hK4 hA4 hC4 hV4 hH4 hG4;refine hK.out _ _ ⟨hH5,hG5⟩ (fun _=>?_);clear hK K;refine zd ?_
 try simp only[zZ]
 clear hH5 hG5;go_wp2_with fail;refine (jP3 V A n C v5 (calls+1) (writes+1) i (enc (qF3 N)) (enc l) _ hV5 hA5 (by omega) (by omega) hv5 hi hn hC5 (by rw[qF2];exact hs) hAC).mono ?_;rintro e w6 ⟨rfl,hA6,hC6,hK6⟩;rw[show calls+1+1=calls+2 from by omega] at hA6;rw[zC6] at hC6;go_wp2
 go_end0
 exact⟨rfl,hA6,hC6,hK5'.tr hK6⟩
variable {κ:Nat}
theorem zE2(l:List UInt8)(i:Nat)(b:List UInt8)(h:i*128+b.length≤l.length):(qC8 l i b).length=l.length:=by simp[qC8];omega
theorem zG3(l:List UInt8)(i:Nat)(b:List UInt8)(hb:b.length=128)(h:i*128+128≤l.length):ι (qC8 l i b) i=b:=by
 unfold ι qC8;rw[List.append_assoc,List.drop_append_of_le_length (by simp;omega),List.drop_of_length_le (by simp;omega),List.nil_append,List.take_append_of_le_length (by omega),List.take_of_length_le (by omega)]
theorem xQ7(l:List UInt8)(b:List UInt8)(hb:b.length=128)(h:256≤l.length):ι (qC8 l 0 b) 1=ι l 1:=by
 unfold ι qC8;simp only[Nat.zero_mul,List.take_zero,List.nil_append,Nat.zero_add,hb,Nat.one_mul];rw[List.drop_append_of_le_length (by omega),List.drop_of_length_le (by omega),List.nil_append]
def qO5(l:List UInt8)(N:Int):List UInt8:=qC8 (qC8 l 1 (qF3 (N+1))) 0 (qF3 (N+2))
theorem xY6(l:List UInt8)(N:Int)(h:256≤l.length):(qO5 l N).length=l.length:=by
 have h1:=zE2 l 1 (qF3 (N+1)) (by rw[qP6];omega);rw[qO5,zE2 _ _ _ (by rw[qP6];omega),h1]
theorem xY7(l:List UInt8)(N:Int)(h:256≤l.length)(h0:0≤N)(he:N % 2=0)(h1:N≤999999998):Formatted (qO5 l N) (N+2):=by
 have hl:=zE2 l 1 (qF3 (N+1)) (by rw[qP6];omega);refine⟨zG3 _ _ _ (qP6 _) (by omega),?_,by omega,by omega,by omega⟩;rw[qO5,xQ7 _ _ (qP6 _) (by omega),zG3 _ _ _ (qP6 _) (by omega)]
 congr 1;omega
theorem xY5(D A n C:Nat)(calls writes:Int)(l:List UInt8)(N:Int)(w:World)(hD:w.heap[D]?=some (.cells #[.iface 23 (.pointer (some ⟨A,0,none⟩))] 129))(h:w.heap[A]?=some (χ κ n C (.slice none 0 0) calls writes))(h0:0≤calls)(h1:calls≤999999000)(h0w:0≤writes)(h1w:writes≤999999000)
  (h8:8≤n) (h400:n≤400) (hC:w.heap[C]?=some (.cells (enc l) 87)) (hs:n*128≤l.length) (hAC:C≠A) (hst:(Fresh l∧N=0)∨Formatted l N) (hN0:0≤N) (hNe:N % 2=0) (hN1:N≤999999000):
  Calls prog 98 #[.pointer (some ⟨D,0,none⟩)] w fun e w'=>e=.returned (.tuple #[])∧
   w'.heap[A]?=some (χ κ n C (.slice none 0 0) (calls+6) (writes+2))∧w'.heap[C]?=some (.cells (enc (qO5 l N)) 87)∧Kp [A,C] w w':=by
 have hDs:=ζ hD;have hA:=ζ h;have hCs:=ζ hC;have c0:=ξ hD 0;simp at c0;have HE:=zh hNe;clear hNe;go_enter func98,ntmps98;go_wp2_with fail;refine (zD7 A n C (.slice none 0 0) calls writes _ h h8 h400).mono ?_;rintro e w1 ⟨V,rfl,hVs,hV1,hK1⟩;have hA1:=hK1.hp h;have hC1:=hK1.hp hC;have hK1':Kp [A,C] w w1:=hK1.mono (by simp);have hVA:V≠A:=by omega
 have hVC:V≠C:=by omega
 clear hK1;go_wp2_with fail;have hnew:Calls prog 73 #[.pointer (some ⟨V,0,none⟩)] w1 fun e w'=>(∃ b,e=.returned (.tuple #[.agg #[.int .u64 N,.int .i64 0,.int .u64 0],.bool b]))∧w'.heap[A]?=some (χ κ n C (.slice none 0 0) (calls+2) writes)∧Kp [A] w1 w':=by
  rcases hst with⟨hf,rfl⟩|hf
  ·exact (xL3 V A n C calls writes l w1 hV1 hA1 h0 (by omega) h8 (by omega) hC1 hs hAC hVA hf).mono fun e w' hr=>⟨⟨_,hr.1⟩,hr.2⟩
  ·exact (zZ8 V A n C calls writes l N w1 hV1 hA1 h0 (by omega) h8 (by omega) hC1 hs hAC hVA hf).mono fun e w' hr=>⟨⟨_,hr.1⟩,hr.2⟩
 refine hnew.mono ?_;rintro e w2 ⟨⟨b,rfl⟩,hA2,hK2⟩;clear hnew hst;have hV2:=hK2.heap hV1 (by simp[hVA]);have hC2:=hK2.heap hC1 (by simp[hAC]);have hK2':Kp [A,C] w w2:=hK1'.tr hK2;have hVl:=ζ hV1;have hs2:=hK2.size;have hs1:=hK1'.size;clear hK2 hK1' hA1 hC1 hV1 c0;go_wp2;obtain⟨H,hHd⟩:∃ H,H=w2.heap.size:=⟨_,rfl⟩;rw[←hHd];have hHw:w.heap.size≤H:=by omega
 have hHA:A≠H:=by omega
 have hHC:C≠H:=by omega
 have hHV:V≠H:=by omega
 obtain⟨W3,hW3,hK3,hA3,hC3,hV3,hH3⟩:∃ W3,W3=w2.alloc (.cells #[.int .u64 N,.int .i64 0,.int .u64 0] 116)∧Kp [A,C] w W3∧W3.heap[A]?=some (χ κ n C (.slice none 0 0) (calls+2) writes)∧W3.heap[C]?=some (.cells (enc l) 87)∧W3.heap[V]?=some (qB8 A n)∧W3.heap[H]?=some (.cells #[.int .u64 N,.int .i64 0,.int .u64 0] 116):=
  ⟨_,rfl,hK2'.alloc _,θ _ hA2,θ _ hC2,θ _ hV2,by rw[hHd];exact μ _ _⟩
 rw[←hW3];clear hW3 hK2' hA2 hC2 hV2 hHd hs2 hs1;have HHA:=zh hHA;have HHC:=zh hHC;have HHV:=zh hHV;clear hHA hHC hHV;have x0:=ξ hH3 0;have x1:=ξ hH3 1;have x2:=ξ hH3 2;simp at x0 x1 x2;refine wp_loop_rounds 3 ?_;rw[rounds_succ];go_wp2_with fail;refine (zD4 N 0 0 0 0 _ (by omega) (by omega)).mono ?_;rintro e W3a ⟨rfl,hB3a⟩;have hB3a':=Kp.of_below hB3a (Nat.le_refl _);have hA3a:=hB3a'.hp hA3;have hC3a:=hB3a'.hp hC3;have hV3a:=hB3a'.hp hV3;have hH3a:=hB3a'.hp hH3;have hK3a:Kp [A,C] w W3a:=hK3.tr hB3a';clear hB3a hB3a' hA3 hC3 hV3 hH3 hK3 x0 x1 x2;have x0:=ξ hH3a 0;have x1:=ξ hH3a 1;have x2:=ξ hH3a 2;simp at x0 x1 x2;have y0:=ρ hH3a;go_wp2_with fail;obtain⟨W3b,hW3b,hK3b,hA3b,hC3b,hV3b,hH3b⟩:∃ W3b,W3b=((W3a.setCell ⟨H,0,none⟩ (.int .u64 (N+1))).setCell ⟨H,1,none⟩ (.int .i64 0)).setCell ⟨H,2,none⟩ (.int .u64 0)∧Kp [A,C] w W3b∧W3b.heap[A]?=some (χ κ n C (.slice none 0 0) (calls+2) (writes))∧W3b.heap[C]?=some (.cells (enc (l)) 87)∧W3b.heap[V]?=some (qB8 A n)∧W3b.heap[H]?=some (.cells #[.int .u64 (N+1),.int .i64 0,.int .u64 0] 116):=
  ⟨_,rfl,((hK3a.setCell (Or.inr hHw) _).setCell (Or.inr hHw) _).setCell (Or.inr hHw) _,(qA7 HHA.out _ _).trans ((qA7 HHA.out _ _).trans ((qA7 HHA.out _ _).trans hA3a)),(qA7 HHC.out _ _).trans ((qA7 HHC.out _ _).trans ((qA7 HHC.out _ _).trans hC3a)),(qA7 HHV.out _ _).trans ((qA7 HHV.out _ _).trans ((qA7 HHV.out _ _).trans hV3a)),ω (ω (ω hH3a 0 _) 1 _) 2 _⟩
 rw[←hW3b];clear hW3b hK3a hA3a hC3a hV3a hH3a x0 x1 x2 y0;refine (zX2 V A n C (calls+2) (writes) 1 (N+1) (l) _ hV3b hA3b (by omega) (by omega) (by omega) (by omega) (by omega) (by omega) hC3b hs hAC hVA hVC (by have:=HE.out;omega) (by omega)).mono ?_;rintro e W3c ⟨rfl,hA3c,hC3c,hK3c'⟩;have hV3c:=hK3c'.heap hV3b (by simp[hVA,hVC]);have hH3c:=hK3c'.ho hH3b;have hK3c:Kp [A,C] w W3c:=hK3b.tr hK3c';clear hK3c' hK3b hA3b hC3b hV3b hH3b;have x0:=ξ hH3c 0;have x1:=ξ hH3c 1;have x2:=ξ hH3c 2;simp at x0 x1 x2;have hsl:n*128≤(qC8 l 1 (qF3 (N+1))).length:=by rw[zE2 _ _ _ (by rw[qP6];omega)];exact hs
 go_wp2_with fail;rw[rounds_succ];go_wp2_with fail;refine (zD4 (N+1) 0 0 0 0 _ (by omega) (by omega)).mono ?_;rintro e W3ca ⟨rfl,hB3ca⟩;have hB3ca':=Kp.of_below hB3ca (Nat.le_refl _);have hA3ca:=hB3ca'.hp hA3c;have hC3ca:=hB3ca'.hp hC3c;have hV3ca:=hB3ca'.hp hV3c;have hH3ca:=hB3ca'.hp hH3c;have hK3ca:Kp [A,C] w W3ca:=hK3c.tr hB3ca';clear hB3ca hB3ca' hA3c hC3c hV3c hH3c hK3c x0 x1 x2;have x0:=ξ hH3ca 0;have x1:=ξ hH3ca 1;have x2:=ξ hH3ca 2;simp at x0 x1 x2;have y0:=ρ hH3ca;go_wp2_with fail;obtain⟨W3cb,hW3cb,hK3cb,hA3cb,hC3cb,hV3cb,hH3cb⟩:∃ W3cb,W3cb=((W3ca.setCell ⟨H,0,none⟩ (.int .u64 ((N+1)+1))).setCell ⟨H,1,none⟩ (.int .i64 0)).setCell ⟨H,2,none⟩ (.int .u64 0)∧Kp [A,C] w W3cb∧W3cb.heap[A]?=some (χ κ n C (.slice none 0 0) (calls+2+2) (writes+1))∧W3cb.heap[C]?=some (.cells (enc (qC8 l 1 (qF3 (N+1)))) 87)∧W3cb.heap[V]?=some (qB8 A n)∧W3cb.heap[H]?=some (.cells #[.int .u64 ((N+1)+1),.int .i64 0,.int .u64 0] 116):=
  ⟨_,rfl,((hK3ca.setCell (Or.inr hHw) _).setCell (Or.inr hHw) _).setCell (Or.inr hHw) _,(qA7 HHA.out _ _).trans ((qA7 HHA.out _ _).trans ((qA7 HHA.out _ _).trans hA3ca)),(qA7 HHC.out _ _).trans ((qA7 HHC.out _ _).trans ((qA7 HHC.out _ _).trans hC3ca)),(qA7 HHV.out _ _).trans ((qA7 HHV.out _ _).trans ((qA7 HHV.out _ _).trans hV3ca)),ω (ω (ω hH3ca 0 _) 1 _) 2 _⟩
 rw[←hW3cb];clear hW3cb hK3ca hA3ca hC3ca hV3ca hH3ca x0 x1 x2 y0;refine (zX2 V A n C (calls+2+2) (writes+1) 0 ((N+1)+1) (qC8 l 1 (qF3 (N+1))) _ hV3cb hA3cb (by omega) (by omega) (by omega) (by omega) (by omega) (by omega) hC3cb hsl hAC hVA hVC (by have:=HE.out;omega) (by omega)).mono ?_;rintro e W3cc ⟨rfl,hA3cc,hC3cc,hK3cc'⟩;have hV3cc:=hK3cc'.heap hV3cb (by simp[hVA,hVC]);have hH3cc:=hK3cc'.ho hH3cb;have hK3cc:Kp [A,C] w W3cc:=hK3cb.tr hK3cc';clear hK3cc' hK3cb hA3cb hC3cb hV3cb hH3cb;go_wp2_with fail;rw[rounds_succ];go_wp2
 go_end0
 rw[show calls+2+2+2=calls+6 from by omega,show writes+1+1=writes+2 from by omega] at hA3cc;rw[show N+1+1=N+2 from by omega] at hC3cc;exact⟨rfl,hA3cc,hC3cc,hK3cc⟩
theorem xJ6(args:Array Value)(W:World):Sem.run prog (callFunc 98 args) W=.ok (.enter 98 args) W:=by
 simp[go_sem,func98]
theorem xY8(A n C:Nat)(calls writes:Int)(l:List UInt8)(N:Int)(w:World)(h:w.heap[A]?=some (χ κ n C (.slice none 0 0) calls writes))(h0:0≤calls)(h1:calls≤999999000)(h0w:0≤writes)(h1w:writes≤999999000)
  (h8:8≤n) (h400:n≤400) (hC:w.heap[C]?=some (.cells (enc l) 87)) (hs:n*128≤l.length) (hAC:C≠A) (hst:(Fresh l∧N=0)∨Formatted l N) (hN0:0≤N) (hNe:N % 2=0) (hN1:N≤999999000):
  Calls prog 35 #[.pointer (some ⟨A,0,none⟩)] w fun e w'=>e=.returned .nilIface∧
   w'.heap[A]?=some (χ κ n C (.slice none 0 0) (calls+6) (writes+2))∧w'.heap[C]?=some (.cells (enc (qO5 l N)) 87)∧Kp [A,C] w w':=by
 have hA:=ζ h;have hCs:=ζ hC;have hmf:=zM;have HE:=zh hNe;clear hNe;go_enter func35,ntmps35
 go_wp2_with (go_at_call 60;go_in)
 obtain⟨W0,hW0,hK0,hs0⟩:∃ W0,W0=w.alloc (.cells #[.iface 23 (.pointer (some ⟨A,0,none⟩))] 129)∧Kp [] w W0∧W0.heap.size=w.heap.size+1:=⟨_,rfl,(Kp.refl _ _).alloc _,by simp⟩;have hD0:W0.heap[w.heap.size]?=some (.cells #[.iface 23 (.pointer (some ⟨A,0,none⟩))] 129):=by rw[hW0];exact μ _ _
 rw[←hW0];clear hW0;have hA0:=hK0.hp h;have hC0:=hK0.hp hC;refine (qY9 98 _ _ _ (fun w'=>w'.heap[A]?=some (χ κ n C (.slice none 0 0) (calls+6) (writes+2))∧w'.heap[C]?=some (.cells (enc (qO5 l N)) 87)∧Kp [A,C] w w') (xJ6 _) ?_).mono ?_
 ·refine (xY5 w.heap.size A n C calls writes l N _ (θ _ (θ _ hD0)) (θ _ (θ _ hA0)) h0 h1 h0w h1w h8 h400 (θ _ (θ _ hC0)) hs hAC hst hN0 HE.out hN1).mono ?_;rintro e w1 ⟨rfl,hA1,hC1,hK1⟩;refine⟨rfl,⟨hA1,hC1,(((hK0.mono (S':=[A,C]) (by simp)).alloc _).alloc _).tr hK1⟩,hK1.heap ?_ (by simp;omega)⟩;have e:=μ (W0.alloc (.cells #[.string ⟨#[70,111,114,109,97,116]⟩] 9)) (.cells #[.nilIface] 35);simpa using e
 rintro e w2 ⟨rfl,w1,⟨hA1,hC1,hK1⟩,rfl⟩;go_wp2;go_ret;exact⟨rfl,(qA7 (by omega) _ _).trans hA1,(qA7 (by omega) _ _).trans hC1,hK1.setCell (Or.inr (by simp;omega)) _⟩
def jQ3(V:Nat):Value:=.agg #[.pointer (some ⟨V,0,none⟩),.string ⟨#[]⟩,.int .i64 0,.int .u64 0,.pointer none]
theorem xP8(V:Nat)(w:World):
  Calls prog 74 #[.pointer (some ⟨V,0,none⟩),.agg #[.int .i64 0,.int .u64 0]] w fun e w'=>e=.returned (jQ3 V)∧Kp [] w w':=by
 go_enter func74,ntmps74;go_wp2;refine bodyPost_ret (results_cell_row results74 _ _ (w.heap.size+1) 83 #[.pointer (some ⟨V,0,none⟩),.string ⟨#[]⟩,.int .i64 0,.int .u64 0,.pointer none] (0,0) _ rfl ?_ underlying83 rfl (by kernel_rfl)) rfl ⟨rfl,((Kp.refl _ _).alloc _).alloc _⟩;have e:=μ (w.alloc (.cells #[.int .i64 0,.int .u64 0] 78)) (.cells #[.pointer (some ⟨V,0,none⟩),.string ⟨#[]⟩,.int .i64 0,.int .u64 0,.pointer none] 83);simpa using e
variable {κ:Nat}
def qJ4(V M:Nat)(N:Int):Sto:=⟨V,M,N,0,0,0,false,0,0⟩
theorem jL8(D X A n C:Nat)(calls writes:Int)(l:List UInt8)(N:Int)(w:World)(hD:w.heap[D]?=some (.cells #[.iface 23 (.pointer (some ⟨A,0,none⟩))] 129))(hX:w.heap[X]?=some (.cells #[.pointer none] 24))(h:w.heap[A]?=some (χ κ n C (.slice none 0 0) calls writes))(h0:0≤calls)(h1:calls≤999999000)
  (h8:8≤n) (h400:n≤400) (hC:w.heap[C]?=some (.cells (enc l) 87)) (hs:n*128≤l.length) (hAC:C≠A) (hXA:X≠A) (hf:Formatted l N):
  Calls prog 71 #[.pointer (some ⟨D,0,none⟩),.pointer (some ⟨X,0,none⟩)] w fun e w'=>e=.returned (.tuple #[])∧
   w'.heap[A]?=some (χ κ n C (.slice none 0 0) (calls+3) writes)∧(∃ V M St Db,w.heap.size≤V∧w.heap.size≤M∧w.heap.size≤St∧w.heap.size≤Db∧w'.heap[V]?=some (qB8 A n)∧w'.heap[M]?=some (.map #[] 0)∧w'.heap[St]?=some (τ 0 (qJ4 V M N))∧w'.heap[Db]?=some (.cells #[.pointer (some ⟨St,0,none⟩)] 95)∧w'.heap[X]?=some (.cells #[.pointer (some ⟨Db,0,none⟩)] 24))∧Kp [A,X] w w':=by
 have hDs:=ζ hD;have hXs:=ζ hX;have hA:=ζ h;have hCs:=ζ hC;have c0:=ξ hD 0;simp at c0;go_enter func71,ntmps71;go_wp2_with fail;refine (zD7 A n C (.slice none 0 0) calls writes _ h h8 h400).mono ?_;rintro e w1 ⟨V,rfl,hVs,hV1,hK1⟩;have hA1:=hK1.hp h;have hC1:=hK1.hp hC;have hX1:=hK1.hp hX;have hK1':Kp [A,X] w w1:=hK1.mono (by simp);have HVA:Hid (V≠A):=by show V≠A;omega
 have HXA:=zh hXA;clear hK1 hXA;go_wp2_with fail;refine (zZ8 V A n C calls writes l N w1 hV1 hA1 h0 (by omega) h8 (by omega) hC1 hs hAC HVA.out hf).mono ?_;rintro e w2 ⟨rfl,hA2,hK2⟩;have hV2:=hK2.heap hV1 (by simp[HVA.out]);have hX2:=hK2.heap hX1 (by simp[HXA.out]);have hK2':Kp [A,X] w w2:=hK1'.trans hK2 (by simp +contextual);have hs1:=hK1'.size;have hs2:=hK2.size;have hVl:=ζ hV1;clear hK2 hK1' hA1 hC1 hV1 hX1 c0;go_wp2_with fail;obtain⟨H,hHd⟩:∃ H,H=w2.heap.size:=⟨_,rfl⟩;rw[←hHd];obtain⟨W3,hW3,hK3,hA3,hX3,hV3,hH3⟩:∃ W3,W3=w2.alloc (.cells #[.int .u64 N,.int .i64 0,.int .u64 0] 116)∧Kp [A,X] w W3∧W3.heap[A]?=some (χ κ n C (.slice none 0 0) (calls+2) writes)∧W3.heap[X]?=some (.cells #[.pointer none] 24)∧W3.heap[V]?=some (qB8 A n)∧W3.heap[H]?=some (.cells #[.int .u64 N,.int .i64 0,.int .u64 0] 116):=
  ⟨_,rfl,hK2'.alloc _,θ _ hA2,θ _ hX2,θ _ hV2,by rw[hHd];exact μ _ _⟩
 rw[←hW3];have hHb:w2.heap.size≤H:=by omega
 clear hW3 hK2' hA2 hX2 hV2 hHd;have hHs:=ζ hH3;refine (xP8 V _).mono ?_;rintro e W4 ⟨rfl,hK40⟩;have hA4:=hK40.hp hA3;have hX4:=hK40.hp hX3;have hV4:=hK40.hp hV3;have hH4:=hK40.hp hH3;have hK4:Kp [A,X] w W4:=hK3.tr hK40;have hs4:=hK40.size;clear hK40 hA3 hX3 hV3 hH3 hK3;go_wp2_with fail;refine (zM8 V _).mono ?_;rintro e W5 ⟨rfl,hK50⟩;have hA5:=hK50.hp hA4;have hX5:=hK50.hp hX4;have hV5:=hK50.hp hV4;have hH5:=hK50.hp hH4;have hK5:Kp [A,X] w W5:=hK4.tr hK50;have hs5:=hK50.size;clear hK50 hA4 hX4 hV4 hH4 hK4;go_wp2_with fail;refine (jP2 V A n C (calls+2) writes _ hV5 hA5 (by omega) (by omega)).mono ?_;rintro e W6 ⟨rfl,hA6,hK60⟩;rw[show calls+2+1=calls+3 from by omega] at hA6;have hX6:=hK60.heap hX5 (by simp[HXA.out]);have hV6:=hK60.heap hV5 (by simp[HVA.out]);have hH6:=hK60.ho hH5;have hK6:Kp [A,X] w W6:=hK5.trans hK60 (by simp +contextual);have hs6:=hK60.size;have hXH:X≠H:=by omega
 have HXH:=zh hXH;have HXV:Hid (X≠V):=by show X≠V;omega
 have hsW6:=hK6.size;clear hK60 hA5 hX5 hV5 hH5 hK5 hXH;have hmm:=@run_makeMap prog;have z0:=ξ hH6;have x0:=ξ hX6 0;simp only[zG,zH,zI] at x0;have fx0:=ρ hX6 0;have hX6s:=ζ hX6;have hX6a:X<W6.heap.size+1:=by omega
 have hX6b:X<W6.heap.size+1+1:=by omega
 go_wp2
 go_end0
 obtain⟨U,hU,hKU,hAU,hVU,hXU,hsU⟩:∃ U,U=W6.setCell ⟨X,0,none⟩ (.pointer (some ⟨W6.heap.size+1+1,0,none⟩))∧Kp [A,X] w U∧U.heap[A]?=some (χ κ n C (.slice none 0 0) (calls+3) writes)∧U.heap[V]?=some (qB8 A n)∧U.heap[X]?=some (.cells #[.pointer (some ⟨W6.heap.size+1+1,0,none⟩)] 24)∧U.heap.size=W6.heap.size:=
  ⟨_,rfl,hK6.sc _,(qA7 (fun e=>HXA.out e.symm) _ _).trans hA6,(qA7 (fun e=>HXV.out e.symm) _ _).trans hV6,ω hX6 0 _,by simp[World.setCell]⟩
 rw[←hU];have e1:=μ U (.map #[] 0);have e2:=μ (U.alloc (.map #[] 0)) (τ 0 (qJ4 V W6.heap.size N));have e3:=μ ((U.alloc (.map #[] 0)).alloc (τ 0 (qJ4 V W6.heap.size N))) (.cells #[.pointer (some ⟨W6.heap.size+1,0,none⟩)] 95);rw[hsU] at e1;rw[show (U.alloc (.map #[] 0)).heap.size=W6.heap.size+1 from by simp[hsU]] at e2;rw[show ((U.alloc (.map #[] 0)).alloc (τ 0 (qJ4 V W6.heap.size N))).heap.size=W6.heap.size+1+1 from by simp[hsU]] at e3;exact⟨rfl,θ _ (θ _ (θ _ hAU)),⟨V,W6.heap.size,W6.heap.size+1,W6.heap.size+1+1,hVs,by omega,by omega,by omega,θ _ (θ _ (θ _ hVU)),θ _ (θ _ e1),θ _ e2,e3,θ _ (θ _ (θ _ hXU))⟩,((hKU.alloc _).alloc _).alloc _⟩
variable {κ:Nat}
theorem jL9(A n C:Nat)(calls writes:Int)(l:List UInt8)(N:Int)(w:World)(h:w.heap[A]?=some (χ κ n C (.slice none 0 0) calls writes))(h0:0≤calls)(h1:calls≤999999000)
  (h8:8≤n) (h400:n≤400) (hC:w.heap[C]?=some (.cells (enc l) 87)) (hs:n*128≤l.length) (hAC:C≠A) (hf:Formatted l N):
  Calls prog 16 #[.pointer (some ⟨A,0,none⟩)] w fun e w'=>∃ V M St Db,e=.returned (.tuple #[.pointer (some ⟨Db,0,none⟩),.nilIface])∧w.heap.size≤V∧w.heap.size≤M∧w.heap.size≤St∧w.heap.size≤Db∧
   w'.heap[A]?=some (χ κ n C (.slice none 0 0) (calls+3) writes)∧w'.heap[V]?=some (qB8 A n)∧w'.heap[M]?=some (.map #[] 0)∧w'.heap[St]?=some (τ 0 (qJ4 V M N))∧w'.heap[Db]?=some (.cells #[.pointer (some ⟨St,0,none⟩)] 95)∧Kp [A] w w':=by
 have hA:=ζ h;have hCs:=ζ hC;have hmf:=zM;go_enter func16,ntmps16
 go_wp2_with (go_at_call 42;go_in)
 obtain⟨W0,hW0,hK0,hs0⟩:∃ W0,W0=(w.alloc (.cells #[.iface 23 (.pointer (some ⟨A,0,none⟩))] 129)).alloc (.cells #[.pointer none] 24)∧Kp [] w W0∧W0.heap.size=w.heap.size+2:=⟨_,rfl,((Kp.refl _ _).alloc _).alloc _,by simp⟩;have hD0:W0.heap[w.heap.size]?=some (.cells #[.iface 23 (.pointer (some ⟨A,0,none⟩))] 129):=by rw[hW0];exact θ _ (μ _ _)
 have hX0:W0.heap[w.heap.size+1]?=some (.cells #[.pointer none] 24):=by
  rw[hW0];have e:=μ (w.alloc (.cells #[.iface 23 (.pointer (some ⟨A,0,none⟩))] 129)) (.cells #[.pointer none] 24);simpa using e
 rw[←hW0];clear hW0;have hA0:=hK0.hp h;have hC0:=hK0.hp hC;refine (qY9 71 _ _ _ (fun w'=>w'.heap[A]?=some (χ κ n C (.slice none 0 0) (calls+3) writes)∧(∃ V M St Db,W0.heap.size+2≤V∧W0.heap.size+2≤M∧W0.heap.size+2≤St∧W0.heap.size+2≤Db∧w'.heap[V]?=some (qB8 A n)∧w'.heap[M]?=some (.map #[] 0)∧w'.heap[St]?=some (τ 0 (qJ4 V M N))∧w'.heap[Db]?=some (.cells #[.pointer (some ⟨St,0,none⟩)] 95)∧w'.heap[w.heap.size+1]?=some (.cells #[.pointer (some ⟨Db,0,none⟩)] 24))∧Kp [A] w w') (zF1 _) ?_).mono ?_
 ·refine (jL8 w.heap.size (w.heap.size+1) A n C calls writes l N _ (θ _ (θ _ hD0)) (θ _ (θ _ hX0)) (θ _ (θ _ hA0)) h0 h1 h8 h400 (θ _ (θ _ hC0)) hs hAC (by omega) hf).mono ?_;rintro e w1 ⟨rfl,hA1,⟨V,M,St,Db,hV,hM,hSt,hDb,r⟩,hK1⟩;refine⟨rfl,⟨hA1,⟨V,M,St,Db,by simpa using hV,by simpa using hM,by simpa using hSt,by simpa using hDb,r⟩,(((hK0.mono (S':=[A]) (by simp)).alloc _).alloc _).trans hK1 (by intro i hi hlt;simp at hi;rcases hi with rfl | rfl;simp;omega)⟩,hK1.heap ?_ (by simp;omega)⟩;have e:=μ (W0.alloc (.cells #[.string ⟨#[79,112,101,110]⟩] 9)) (.cells #[.nilIface] 35);simpa using e
 rintro e w2 ⟨rfl,w1,⟨hA1,⟨V,M,St,Db,hV,hM,hSt,hDb,r1,rm,r2,r3,r4⟩,hK1⟩,rfl⟩;have x0:=ξ r4 0;simp at x0;go_wp2
 go_ret2
 exact⟨V,M,St,Db,rfl,by omega,by omega,by omega,by omega,(qA7 (by omega) _ _).trans hA1,(qA7 (by omega) _ _).trans r1,(qA7 (by omega) _ _).trans rm,(qA7 (by omega) _ _).trans r2,(qA7 (by omega) _ _).trans r3,hK1.setCell (Or.inr (by simp;omega)) _⟩
def qJ5:Array Value:=#[.string ⟨#[]⟩,.int .i64 0,.int .u64 0,.pointer none]
def qZ9(w:World)(S:List Nat):Prop:=∀ k∈S,∀ c t fr,w.heap[k]?=some (.cells c t fr)→t ∉ qF9∨(t=81∧c=qJ5)
theorem xQ8{α β:Type}{R:α→β→Prop}{a:List α}{b:List β}(h:Both R a b)(ha:1≤a.length):R (a[0]'ha) (b[0]'(by rw[←h.1];exact ha)):=h.2 0 _ _
theorem xL5{X:Type}{N:Nat→X→Prop}{O:Nat→Int→X→Prop}(pos:∀ (b:Nat) (s:Int) (t:X),O b s t→1≤b){S:List Nat}{w w':World}(hK:Kp S w w')(hS:qZ9 w S){v:Value}{hs:List HL}{ls:List (Lnk X)}(h:Slc w 81 4 v hs.length (qA5 hs))(hb:Both (RLof N O) hs ls):Slc w' 81 4 v hs.length (qA5 hs):=by
 refine⟨h.len,?_⟩;rcases h.val with h|⟨g,off,cap,cur,fr,h1,h2,h3,h4,h5⟩
 ·exact .inl h
 ·refine .inr ⟨g,off,cap,cur,fr,h1,h2,h3,hK.heap h4 (fun hm=>?_),h5⟩;rcases hS g hm _ _ _ h4 with hx|⟨_,hx⟩
  ·exact hx (by decide)
  ·obtain⟨e0,e1,_,e3⟩:=qU7 (ls:=hs) (i:=0) h2;have d0:=h5 _ _ e0;have d1:=h5 _ _ e1;have d3:=h5 _ _ e3;rw[hx] at d0 d1 d3;have hoff:off=0:=by
    match off,d0 with
    | 0,_=>rfl
    | 1,d0=>simp[qJ5] at d0
    | 2,d0=>simp[qJ5] at d0
    | 3,d0=>simp[qJ5] at d0
    | k+4,d0=>simp[qJ5] at d0
   subst hoff;simp[qJ5] at d1 d3;have hr:=xQ8 hb h2;obtain⟨_,hr2⟩:=hr
   cases hl:(ls[0]'(by rw[←hb.1];exact h2)).ref with
   | none=>
    rw[hl] at hr2;obtain⟨_,_,q,hq,_⟩:=hr2;simp[HL.ptr,hq] at d3
   | some x=>
    rw[hl] at hr2;have:=pos _ _ _ hr2.2.2.2;rw[hr2.1] at d1;omega
theorem RN.keepZ{O:qF0}(pos:∀ (n b:Nat) (s:Int) (t:Tn n),O n b s t→1≤b){S:List Nat}{w w':World}(hK:Kp S w w')(hS:qZ9 w S):∀ (n:Nat) (q:Nat) (t:Tn n),RN O n w q t→RN O n w' q t
 | 0,q,t,h=>by
  obtain⟨vp,h1,h2⟩:=h;have hn:∀ (k:Nat) (c:Array Value) (t:TypeId) (fr:Nat × Nat),w.heap[k]?=some (.cells c t fr)→t∈qF9→t≠81→k ∉ S:=fun k c t fr e ht hne hm=>by
   rcases hS k hm c t fr e with hx|⟨hx,_⟩
   ·exact hx ht
   ·exact hne hx
  refine⟨vp,hK.heap h1 (hn q _ _ _ h1 (by decide) (by decide)),h2.len,?_⟩;rcases h2.val with h|⟨g,off,cap,cur,fr,k1,k2,k3,k4,k5⟩
  ·exact .inl h
  ·exact .inr ⟨g,off,cap,cur,fr,k1,k2,k3,hK.heap k4 (hn g _ _ _ k4 (by decide) (by decide)),k5⟩
 | n+1,q,t,h=>by
  obtain⟨vl,h1,hs,h2,h3⟩:=h;refine⟨vl,hK.heap h1 (fun hm=>?_),hs,xL5 (pos n) hK hS h2 h3,h3.mono fun x y hr=>hr.mono (fun q hq=>RN.keepZ pos hK hS n q _ hq) (fun _ _ h=>h)⟩;rcases hS q hm _ _ _ h1 with hx|⟨hx,_⟩
  ·exact hx (by decide)
  ·cases hx
theorem qU9{α:Type}(low:α→ByteArray)(key:ByteArray)(l:List (List α)):(links low key l).length=l.length:=by
 cases l<;>simp[links]
theorem jJ7(E:Env)(n:Nat)(lev:Int)(r:HL)(v:Value)(ls:List (Lnk (Tn n)))(i:Nat)(w:World)(hd:E.Dev w)(hr:RLs E.O n w v ls)(hi:i<ls.length)(hll:ls.length≤10000)(hnew:ls[i].ref=none)(hc:3≤cnt n ls[i].sub)(hcm:cnt n ls[i].sub≤10000):
  Calls prog 132 #[φ E.V r,v,.int .i64 lev,.int .i64 i] w fun e w'=>∃ v',e=.returned v'∧RLs E.O n w' v' (qC2 n ls i)∧E.To w w':=by
 have hm:qC2 n ls i=ls:=by
  unfold qC2;rw[List.getElem?_eq_getElem hi];simp only[hc,if_true]
 obtain⟨hs,hsl,hb⟩:=hr;have hil:i<hs.length:=by rw[hb.1];exact hi
 have hhl:hs.length≤10000:=by rw[hb.1];exact hll
 obtain⟨gb,off,cp,cur,fr,rfl,hcp,hrow,hcur⟩:=hsl.link (by omega);obtain⟨c0,c1,c2,c3⟩:=hcur i hil;have hri:=zG4 hb hil hi;rcases hri.new with⟨_,q,hq1,hq2⟩|⟨hx,_⟩
 ·have hptr:hs[i].ptr=some ⟨q,0,none⟩:=by simp[HL.ptr,hq1]
  rw[hptr] at c3;have HM:=zh hm;have HD:=zh hd;have HR:Hid (RLs E.O n w (.slice (some ⟨gb,off,none⟩) hs.length cp) ls):=⟨hs,hsl,hb⟩;have HQ:=zh hq2;have hgs:=ζ hrow;have a3:=ξ hrow (off+i*4+3);rw[c3] at a3;have hc3:(3:Int)≤((cnt n ls[i].sub:Nat):Int):=by omega
  clear hb hsl hri hq2 hcur hd hm;rw[φ];go_enter func132,ntmps132;go_wp2_with fail;have hK0:Kp [] w (w.alloc (.cells #[.pointer (some ⟨E.V,0,none⟩),.string r.key,.int .i64 r.b,.int .u64 r.s,.pointer r.ptr] 83)):=(Kp.refl _ _).alloc _;refine (qT1 E.O n q ls[i].sub _ (RN.keep hK0 (Apt.nil _ _) n q _ HQ.out) (by omega)).mono ?_;rintro e w1 ⟨rfl,hK1⟩;have hK1':Kp [] w w1:=hK0.tr hK1;go_wp2;go_ret;have hT:=Env.To.of0 HD.out hK1';exact⟨_,rfl,by rw[HM.out];exact Env.RLs HR.out HD.out hT,hT⟩
 ·rw[hnew] at hx;cases hx
end Go.Proofs.YtdohpenfkdckiabGreatDoor
