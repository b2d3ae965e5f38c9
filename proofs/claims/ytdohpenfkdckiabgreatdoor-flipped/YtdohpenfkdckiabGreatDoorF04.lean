import Derived.Test.YtdohpenfkdckiabGreatDoorF03
import Derived.Deep.RegionLaw
import Derived.Deep.RegionLawGrows
import Derived.Deep.RegionWith
import Derived.Deep.DeepMust
import Derived.Laws.BitsAllLaws
set_option linter.all false
set_option maxRecDepth 100000
set_option maxHeartbeats 20000000
namespace Go.Proofs.YtdohpenfkdckiabGreatDoor
open Go.Proofs.Tryz
open Go.RowKit
theorem zH2(c n:Int)(hc0:-9223372036854775808≤c)(hc1:c≤9223372036854775807)(h1:1≤n)(h2:n≤2147483648)(w:World):Calls prog 12 #[.int .i64 c,.int .i64 n] w fun e w'=>(∃ k:Int,e=.returned (.int .i64 k)∧0≤k∧k<n)∧w'=w:=by
 by_cases hn:c<0
 ·have e1:wrap64 (c+1)=c+1:=by simp only[wrap64];omega
  have e2:wrap64 (-(c+1))=-(c+1):=by simp only[wrap64];omega
  have e3:(-(c+1)).tmod n=(-(c+1)) % n:=Int.tmod_eq_emod_of_nonneg (by omega);have b1:=Int.emod_nonneg (-(c+1)) (show n≠0 by omega);have b2:=Int.emod_lt_of_pos (-(c+1)) (show 0<n by omega);have hn0:¬n=0:=by omega
  go_enter func12,ntmps12;go_wp2;go_ret;exact⟨⟨_,rfl,b1,b2⟩,rfl⟩
 ·have e3:c.tmod n=c % n:=Int.tmod_eq_emod_of_nonneg (by omega);have b1:=Int.emod_nonneg c (show n≠0 by omega);have b2:=Int.emod_lt_of_pos c (show 0<n by omega);have hn0:¬n=0:=by omega
  go_enter func12,ntmps12;go_wp2;go_ret;exact⟨⟨_,rfl,b1,b2⟩,rfl⟩
theorem jA7(n:Int)(h0:0≤n)(h1:n<2147483648)(w:World):Calls prog 25 #[.int .i64 n] w fun e w'=>(∃ k:Int,e=.returned (.int .i64 k)∧0≤k∧k<2147483648)∧w'=w:=by
 have e1:IntKind.i64.wrap (n*1103515245)=n*1103515245:=by rw[IntKind.wrap_i64];omega
 have e2:IntKind.i64.wrap (n*1103515245+12345)=n*1103515245+12345:=by rw[IntKind.wrap_i64];omega
 go_enter func25,ntmps25;go_wp2;go_ret;exact⟨⟨_,rfl,by omega,by omega⟩,rfl⟩
theorem jB1(k:Int)(h0:0≤k)(h1:k<2147483648)(w:World):Calls prog 63 #[.int .i64 k] w fun e w'=>(∃ s:ByteArray,e=.returned (.string s)∧s.size≤12)∧w'=w:=by
 go_enter func63,ntmps63;go_wp2;go_ret;refine⟨⟨_,rfl,?_⟩,rfl⟩;rw[ByteArray.size_extract];have:(k % 13).toNat≤12:=by omega
 omega
variable {κ:Nat}
def χ(κ n C:Nat)(cache:Value)(calls writes:Int):Obj:=
 .cells #[.slice (some ⟨C,0,none⟩) n κ,cache,.int .i64 calls,.int .i64 writes,.int .i64 0,.int .i64 (-1),.int .i64 0,.int .i64 0] 72
abbrev qP8(n C:Nat)(cache:Value)(calls writes:Int):Obj:=χ n n C cache calls writes
theorem qZ9(A n C:Nat)(cache:Value)(calls writes:Int)(w:World)(h:w.heap[A]?=some (χ κ n C cache calls writes))(h0:0≤calls)(h1:calls≤1000000000):
  Calls prog 252 #[.pointer (some ⟨A,0,none⟩)] w fun e w'=>e=.returned (.bool false)∧w'=w.setCell ⟨A,2,none⟩ (.int .i64 (calls+1)):=by
 have c2:=ξ h 2;have c5:=ξ h 5;have c6:=ξ h 6;have c7:=ξ h 7;simp at c2 c5 c6 c7;have f2:=ω h 2;clear h;have hd:decide (calls<0)=false:=by simp;omega
 go_enter func252,ntmps252;go_wp2;go_ret;exact⟨rfl,rfl⟩
theorem zC3(A n C:Nat)(cache:Value)(calls writes:Int)(i:Int)(w:World)(h:w.heap[A]?=some (χ κ n C cache calls writes))(h0:0≤i)(h1:i<n):
  Calls prog 253 #[.pointer (some ⟨A,0,none⟩),.int .i64 i] w fun e w'=>e=.returned (.bool false)∧w'=w:=by
 have c0:=ξ h 0;simp at c0;clear h;go_enter func253,ntmps253;go_wp2;go_ret;exact⟨rfl,rfl⟩
theorem xJ3(A n C:Nat)(cache:Value)(calls writes:Int)(w:World)(h:w.heap[A]?=some (χ κ n C cache calls writes)):
  Calls prog 33 #[.pointer (some ⟨A,0,none⟩)] w fun e w'=>e=.returned (.int .i64 n)∧w'=w:=by
 have c0:=ξ h 0;simp at c0;clear h;go_enter func33,ntmps33;go_wp2;go_ret;exact⟨rfl,rfl⟩
def allBytes(cs:Array Value):Prop:=∀ v∈cs.toList,∃ x,v=.int .u8 x
theorem allBytes.one{cs:Array Value}(h:allBytes cs):∀ v∈cs.toList,v.oneCell'=true:=fun v hv=>by obtain⟨x,rfl⟩:=h v hv;rfl
theorem qP7{cs:Array Value}(h:allBytes cs)(o n:Nat):allBytes (qA4 cs o n):=fun v hv=>h v (List.mem_of_mem_drop (List.mem_of_mem_take (by simpa [qA4] using hv)))
theorem qJ4{cs p:Array Value}(h:cs.size=p.size):qE2 cs 0 p=p:=by
 have e:cs.toList.drop p.size=[]:=List.drop_of_length_le (by simp[h]);simp[qE2,e]
theorem Tryz.size5:(prog.info? 5).map (·.size)=some 1:=by kernel_rfl
theorem jN1(A n C:Nat)(calls writes:Int)(i:Nat)(cs:Array Value)(w:World)(h:w.heap[A]?=some (χ κ n C (.slice none 0 0) calls writes))(h0:0≤calls)(h1:calls≤1000000000)
  (hi:i<n) (hn:n≤1000) (hC:w.heap[C]?=some (.cells cs 87)) (hs:n*128≤cs.size) (hby:allBytes cs) (hAC:C≠A):
  Calls prog 250 #[.pointer (some ⟨A,0,none⟩),.int .i64 i] w fun e w'=>∃ g,e=.returned (.tuple #[.slice (some ⟨g,0,none⟩) 128 128,.nilIface])∧w.heap.size≤g∧
   w'.heap[g]?=some (.cells (qA4 cs (i*128) 128) 5)∧w'.heap[A]?=some (χ κ n C (.slice none 0 0) (calls+1) writes)∧Kp [A] w w':=by
 have c0:=ξ h 0;have c1:=ξ h 1;simp at c0 c1;have hA:=ζ h;have hCs:=ζ hC;go_enter func250,ntmps250;go_wp2_with fail;refine (qZ9 A n C _ calls writes _ h h0 h1).mono ?_;rintro e w1 ⟨rfl,rfl⟩;go_wp2_with fail;refine (zC3 A n C (.slice none 0 0) (calls+1) writes i _ (ψ h 2 _) (by omega) (by omega)).mono ?_;rintro e w1 ⟨rfl,rfl⟩
 go_wp2_with (refine xD8 (.int .u8 0) (.int .u8 0) 1 1 underlying90 Tryz.info5 (by simp[Value.cells]) (by simp[Value.cells]) .i64 .i64 128 rfl rfl (by decide) (by decide) ?_;intro Z hZ hZ0)
 have hN:((w.setCell ⟨A,2,none⟩ (.int .i64 (calls+1))).alloc (.cells Z 5)).heap[w.heap.size]?=some (.cells Z 5):=by
  simpa using ν (w.setCell ⟨A,2,none⟩ (.int .i64 (calls+1))) (.cells Z 5)
 have hC':=θ (.cells Z 5) ((qA6 hAC 2 (.int .i64 (calls+1))).trans hC);rw[qQ7 (n:=128) 3 underlying90 Tryz.size5 rfl hN hC' (by omega) (by omega) (qP7 hby _ _).one];obtain⟨W1,hW1,hK1,hA1,hG1⟩:∃ W1,W1=((w.setCell ⟨A,2,none⟩ (.int .i64 (calls+1))).alloc (.cells Z 5)).setRow w.heap.size (qE2 Z 0 (qA4 cs (i*128) 128))∧Kp [A] w W1∧
   W1.heap[A]?=some (χ κ n C (.slice none 0 0) (calls+1) writes)∧W1.heap[w.heap.size]?=some (.cells (qA4 cs (i*128) 128) 5):=
  ⟨_,rfl,(((Kp.refl _ _).sc _).alloc _).setRow (by simp) _,(setRow_other _ _ _ _ (by omega)).trans (θ _ (ψ h 2 _)),by
   rw[setRow_heap _ _ _ _ _ _ hN,qJ4 (by rw[qO3 (by omega)];omega)]⟩
 rw[←hW1];clear hW1 hN hC' c0 c1 h;have c1:=ξ hA1 1;simp at c1;go_wp2;refine wp_loop_rounds 1 ?_;rw[rounds_succ];go_wp2
 go_ret2
 exact⟨_,rfl,Nat.le_refl _,hG1,hA1,hK1⟩
variable {κ:Nat}
theorem qM3:(prog.info? 89).map (fun i=>(i.zero,i.size,i.bytes))=some (some (.agg zeroCells89),129,136):=by kernel_rfl
theorem qJ8:zeroCells89.size=129:=by kernel_rfl
theorem xE2:∀ v∈zeroCells89.toList,v.oneCell'=true:=by
 have h:zeroCells89.toList.all (·.oneCell')=true:=by kernel_rfl
 exact List.all_eq_true.1 h
theorem jU1(A n C:Nat)(calls writes:Int)(i:Nat)(B bo cap:Nat)(src:Array Value)(tb:TypeId)(w:World)(h:w.heap[A]?=some (χ κ n C (.slice none 0 0) calls writes))(h0:0≤calls)(h1:calls≤1000000000)(h0w:0≤writes)(h1w:writes≤1000000000)
  (hi:i<n) (hn:n≤1000) (hB:w.heap[B]?=some (.cells src tb)) (hs:bo+128≤src.size) (hby:allBytes src) (hAB:B≠A):
  Calls prog 251 #[.pointer (some ⟨A,0,none⟩),.int .i64 i,.slice (some ⟨B,bo,none⟩) 128 cap] w fun e w'=>e=.returned .nilIface∧∃ v',
   w'.ownsRow w.heap.size 89 129 v' 1 (.int .i64 i::(qA4 src bo 128).toList)∧w'.heap[A]?=some (χ κ n C v' (calls+1) (writes+1))∧Kp [A] w w':=by
 have c1:=ξ h 1;have c3:=ξ h 3;simp at c1 c3;have hA:=ζ h;have hBs:=ζ hB;go_enter func251,ntmps251;go_wp2_with fail;refine (qZ9 A n C _ calls writes _ h h0 h1).mono ?_;rintro e w1 ⟨rfl,rfl⟩;go_wp2_with fail;refine (zC3 A n C (.slice none 0 0) (calls+1) writes i _ (ψ h 2 _) (by omega) (by omega)).mono ?_;rintro e w1 ⟨rfl,rfl⟩;go_wp2_with fail;have hN:((w.setCell ⟨A,2,none⟩ (.int .i64 (calls+1))).alloc (.cells zeroCells89 89)).heap[w.heap.size]?=some (.cells zeroCells89 89):=by
  simpa using ν (w.setCell ⟨A,2,none⟩ (.int .i64 (calls+1))) (.cells zeroCells89 89)
 rw[qL7 hN (by simp[qJ8]) (fun v hv=>by rcases List.mem_or_eq_of_mem_set hv with h | h;exact xE2 v h;subst h;rfl)];obtain⟨W1,hW1,hK1,hA1,hG1⟩:∃ W1,W1=((w.setCell ⟨A,2,none⟩ (.int .i64 (calls+1))).alloc (.cells zeroCells89 89)).setRow w.heap.size (qE2 zeroCells89 0 (zeroCells89.toList.set 0 (.int .i64 i)).toArray)∧Kp [A] w W1∧
   W1.heap[A]?=some (χ κ n C (.slice none 0 0) (calls+1) writes)∧W1.heap[w.heap.size]?=some (.cells (zeroCells89.toList.set 0 (.int .i64 i)).toArray 89):=
  ⟨_,rfl,(((Kp.refl _ _).sc _).alloc _).setRow (by simp) _,(setRow_other _ _ _ _ (by omega)).trans (θ _ (ψ h 2 _)),by
   rw[setRow_heap _ _ _ _ _ _ hN,qJ4 (by simp)]⟩
 rw[←hW1];clear hW1 hN;have hB1:=hK1.heap hB (by simp[hAB]);go_wp2_with fail;rw[qQ7 (n:=128) 3 underlying90 Tryz.size5 rfl hG1 hB1 (by simp[qJ8]) hs (qP7 hby _ _).one];obtain⟨W2,hW2,hK2,hA2,hG2⟩:∃ W2,W2=W1.setRow w.heap.size (qE2 (zeroCells89.toList.set 0 (.int .i64 i)).toArray 1 (qA4 src bo 128))∧Kp [A] w W2∧
   W2.heap[A]?=some (χ κ n C (.slice none 0 0) (calls+1) writes)∧W2.heap[w.heap.size]?=some (.cells (.int .i64 i::(qA4 src bo 128).toList).toArray 89):=
  ⟨_,rfl,hK1.setRow (by simp) _,(setRow_other _ _ _ _ (by omega)).trans hA1,by
   rw[setRow_heap _ _ _ _ _ _ hG1];have e:qE2 (zeroCells89.toList.set 0 (.int .i64 i)).toArray 1 (qA4 src bo 128)=(.int .i64 i::(qA4 src bo 128).toList).toArray:=by
    have hz:zeroCells89.toList.length=129:=by simp[qJ8]
    obtain⟨z0,zs,hzs⟩:∃ z0 zs,zeroCells89.toList=z0::zs:=by
     cases hq:zeroCells89.toList with
     | nil=>rw[hq] at hz;cases hz
     | cons z0 zs=>exact⟨z0,zs,rfl⟩
    rw[hzs] at hz ⊢;have hp:=qO3 (cs:=src) hs;have hd:zs.drop 128=[]:=List.drop_of_length_le (by simp at hz;omega);unfold qE2;rw[hp];simp[hd]
   rw[e]⟩
 rw[←hW2];clear hW2 hK1 hA1 hG1 hB1 c1 c3;have c1:=ξ hA2 1;have c3:=ξ hA2 3;simp at c1 c3;have f1:=ω hA2 1;go_wp2_with fail;refine wp_region_any (by kernel_rfl) ?_;change wpAny _ _ _ _ _ _ _ (World.drew _);refine zu 0 (.pointer (some ⟨A,0,none⟩)) ?_;refine zu 1 (.pointer (some ⟨A,0,none⟩)) ?_;refine zu 2 (.pointer (some ⟨A,0,none⟩)) ?_;refine zu 3 (.pointer (some ⟨A,1,none⟩)) ?_;obtain⟨X,hX⟩:∃ X,X=(Value.int .i64 (i:Int)::(qA4 src bo 128).toList).toArray:=⟨_,rfl⟩;rw[←hX] at hG2;have hd2:W2.drew.heap[w.heap.size]?=some (.cells X 89):=hG2;have hlen:X.size=129:=by rw[hX];simp[qO3 hs]
 have hnew:(W2.drew.alloc (.cells (Value.agg X).cells 89)).heap[W2.heap.size]?=some (.cells X 89):=ν W2.drew _;have hone:∀ u∈(qA4 X 0 (1*129)).toList,u.oneCell'=true:=by
  have e:qA4 X 0 (1*129)=X:=by have:=qQ4 X;rw[hlen] at this;exact this
  rw[e,hX];intro u hu;simp at hu;rcases hu with rfl|hu
  ·rfl
  ·exact (qP7 hby bo 128).one u (by simpa using hu)
 have HX:=zh hX;clear hX;have hA2s:=ζ hA2;refine wpAny_ready (rs:=[4,5]) (by kernel_rfl) (by simp) ?_;refine AllReady.cons rfl (fun K hK=>?_) (AllReady.cons rfl (fun K hK=>?_) AllReady.nil)
 ·go_simp;refine hK _ _ ?_;clear hK K;refine zQ 5 fun K hK=>?_;refine qJ6 rfl (qK0 (t:=89) rfl (by kernel_rfl) 129 (by kernel_rfl) w.heap.size (by simp[Act.eval]) hd2 hlen) ?_;refine hK _ _ ?_;clear hK K;simp only[zZ];refine zQ 6 fun K hK=>?_;refine qJ6 rfl (qT4 rfl (.agg X) _ _ _ underlying70 qM3 (by simp[Act.eval]) (by simpa [Value.cells] using hlen) (by decide) (by decide)) ?_;refine hK _ _ ?_;clear hK K;simp only[zZ];refine zQ 7 fun K hK=>?_;refine qL9 rfl rfl (.agg zeroCells89) 129 136 underlying70 qM3 (by simp[Value.cells,qJ8]) (by decide) w.heap.size (.slice none 0 0) 0 [] (by simp[Act.eval]) (World.ownsRow_nil _ _ _ _) W2.heap.size 0 1 1 X 89 (0,0) (by simp[Act.eval]) hnew (by omega) hone (by decide) (by decide) (by have:=hK2.size;simp;omega) ?_;intro v1 w1 hown1 hgr1 _;obtain⟨g1,cap1,rfl⟩:=qJ1 (n:=0) hown1;refine hK _ _ ?_;clear hK K;simp only[zZ];have hA3:w1.heap[A]?=some (χ κ n C (.slice none 0 0) (calls+1) writes):=(hgr1.block A (by have:=hK2.size;simp;omega) (by simp[Value.ownBlock])).trans (θ _ hA2);have hK3:Kp [A] w w1:=((hK2.drew).alloc _).grown hgr1 (by simp[Value.ownBlock]);have d1:=ξ hA3 1;simp at d1;have e1:=ω hA3 1;refine zu 8 (.pointer (some ⟨A,0,none⟩)) ?_;refine zu 9 (.pointer (some ⟨A,1,none⟩)) ?_;refine zQ 10 fun K hK=>?_;go_simp;refine hK _ _ ?_;clear hK K;refine wpAny_done (by kernel_rfl) ?_ _;have d3:=ξ hA3 3;simp at d3;have e3:=ω hA3 3;go_wp2;go_ret;refine⟨rfl,.slice (some ⟨g1,0,none⟩) 1 cap1,?_,?_,(hK3.sc _).sc _⟩
  ·have hz:qA4 X 0 (1*129)=X:=by have:=qQ4 X;rw[hlen] at this;exact this
   rw[hz,HX.out] at hown1;exact ownsRow_setCell_below (ownsRow_setCell_below (by simpa using hown1) hA _) hA _
  ·exact ψ (ψ hA3 1 _) 3 _
 ·refine qJ6 rfl (qK0 (t:=89) rfl (by kernel_rfl) 129 (by kernel_rfl) w.heap.size (by simp[Act.eval]) hd2 hlen) ?_;refine hK _ _ ?_;clear hK K;simp only[zZ];refine wpAny_ready (rs:=[4,6]) (by kernel_rfl) (by simp) ?_;refine AllReady.cons rfl (fun K hK=>?_) (AllReady.cons rfl (fun K hK=>?_) AllReady.nil)
  ·go_simp;refine hK _ _ ?_;clear hK K;refine zQ 6 fun K hK=>?_;refine qJ6 rfl (qT4 rfl (.agg X) _ _ _ underlying70 qM3 (by simp[Act.eval]) (by simpa [Value.cells] using hlen) (by decide) (by decide)) ?_;refine hK _ _ ?_;clear hK K;simp only[zZ];refine zQ 7 fun K hK=>?_;refine qL9 rfl rfl (.agg zeroCells89) 129 136 underlying70 qM3 (by simp[Value.cells,qJ8]) (by decide) w.heap.size (.slice none 0 0) 0 [] (by simp[Act.eval]) (World.ownsRow_nil _ _ _ _) W2.heap.size 0 1 1 X 89 (0,0) (by simp[Act.eval]) hnew (by omega) hone (by decide) (by decide) (by have:=hK2.size;simp;omega) ?_;intro v1 w1 hown1 hgr1 _;obtain⟨g1,cap1,rfl⟩:=qJ1 (n:=0) hown1;refine hK _ _ ?_;clear hK K;simp only[zZ];have hA3:w1.heap[A]?=some (χ κ n C (.slice none 0 0) (calls+1) writes):=(hgr1.block A (by have:=hK2.size;simp;omega) (by simp[Value.ownBlock])).trans (θ _ hA2);have hK3:Kp [A] w w1:=((hK2.drew).alloc _).grown hgr1 (by simp[Value.ownBlock]);have d1:=ξ hA3 1;simp at d1;have e1:=ω hA3 1;refine zu 8 (.pointer (some ⟨A,0,none⟩)) ?_;refine zu 9 (.pointer (some ⟨A,1,none⟩)) ?_;refine zQ 10 fun K hK=>?_;go_simp;refine hK _ _ ?_;clear hK K;refine wpAny_done (by kernel_rfl) ?_ _;have d3:=ξ hA3 3;simp at d3;have e3:=ω hA3 3;go_wp2;go_ret;refine⟨rfl,.slice (some ⟨g1,0,none⟩) 1 cap1,?_,?_,(hK3.sc _).sc _⟩
   ·have hz:qA4 X 0 (1*129)=X:=by have:=qQ4 X;rw[hlen] at this;exact this
    rw[hz,HX.out] at hown1;exact ownsRow_setCell_below (ownsRow_setCell_below (by simpa using hown1) hA _) hA _
   ·exact ψ (ψ hA3 1 _) 3 _
  ·refine qJ6 rfl (qT4 rfl (.agg X) _ _ _ underlying70 qM3 (by simp[Act.eval]) (by simpa [Value.cells] using hlen) (by decide) (by decide)) ?_;refine hK _ _ ?_;clear hK K;simp only[zZ];refine zQ 4 fun K hK=>?_;go_simp;refine hK _ _ ?_;clear hK K;refine zQ 7 fun K hK=>?_;refine qL9 rfl rfl (.agg zeroCells89) 129 136 underlying70 qM3 (by simp[Value.cells,qJ8]) (by decide) w.heap.size (.slice none 0 0) 0 [] (by simp[Act.eval]) (World.ownsRow_nil _ _ _ _) W2.heap.size 0 1 1 X 89 (0,0) (by simp[Act.eval]) hnew (by omega) hone (by decide) (by decide) (by have:=hK2.size;simp;omega) ?_;intro v1 w1 hown1 hgr1 _;obtain⟨g1,cap1,rfl⟩:=qJ1 (n:=0) hown1;refine hK _ _ ?_;clear hK K;simp only[zZ];have hA3:w1.heap[A]?=some (χ κ n C (.slice none 0 0) (calls+1) writes):=(hgr1.block A (by have:=hK2.size;simp;omega) (by simp[Value.ownBlock])).trans (θ _ hA2);have hK3:Kp [A] w w1:=((hK2.drew).alloc _).grown hgr1 (by simp[Value.ownBlock]);have d1:=ξ hA3 1;simp at d1;have e1:=ω hA3 1;refine zu 8 (.pointer (some ⟨A,0,none⟩)) ?_;refine zu 9 (.pointer (some ⟨A,1,none⟩)) ?_;refine zQ 10 fun K hK=>?_;go_simp;refine hK _ _ ?_;clear hK K;refine wpAny_done (by kernel_rfl) ?_ _;have d3:=ξ hA3 3;simp at d3;have e3:=ω hA3 3;go_wp2;go_ret;refine⟨rfl,.slice (some ⟨g1,0,none⟩) 1 cap1,?_,?_,(hK3.sc _).sc _⟩
   ·have hz:qA4 X 0 (1*129)=X:=by have:=qQ4 X;rw[hlen] at this;exact this
    rw[hz,HX.out] at hown1;exact ownsRow_setCell_below (ownsRow_setCell_below (by simpa using hown1) hA _) hA _
   ·exact ψ (ψ hA3 1 _) 3 _
variable {κ:Nat}
structure Cached(w:World)(v:Value)(i:Nat)(bs:Array Value):Prop where
 own:w.ownsRow 0 89 129 v 1 (.int .i64 i::bs.toList)
 size:bs.size=128
 bytes:allBytes bs
theorem Cached.form{w:World}{v:Value}{i:Nat}{bs:Array Value}(h:Cached w v i bs):∃ g cap cur,v=.slice (some ⟨g,0,none⟩) 1 cap∧w.heap[g]?=some (.cells cur 89)∧129≤cur.size∧qA4 cur 0 129=(.int .i64 (i:Int)::bs.toList).toArray:=by
 obtain⟨_,h2⟩:=h.own;rcases h2 with⟨_,h0⟩|⟨g,cap,cur,rfl,_,hg,h1,_,hs,ht⟩
 ·cases h0
 ·exact⟨g,cap,cur,rfl,hg,by omega,by simpa [qA4] using ht⟩
theorem xR3(A n C:Nat)(calls writes:Int)(w:World)(h:w.heap[A]?=some (χ κ n C (.slice none 0 0) calls writes))(h0:0≤calls)(h1:calls≤1000000000):
  Calls prog 249 #[.pointer (some ⟨A,0,none⟩)] w fun e w'=>e=.returned .nilIface∧w'.heap[A]?=some (χ κ n C (.slice none 0 0) (calls+1) writes)∧Kp [A] w w':=by
 have c1:=ξ h 1;simp at c1;have f1:=ω h 1;go_enter func249,ntmps249;go_wp2_with fail;refine (qZ9 A n C _ calls writes _ h h0 h1).mono ?_;rintro e w1 ⟨rfl,rfl⟩;go_wp2;refine wp_loop_rounds 1 ?_;rw[rounds_succ];go_wp2;go_ret;refine⟨rfl,?_,((Kp.refl _ _).sc _).sc _⟩;exact ψ (ψ h 2 _) 1 _
theorem xR5(A n C:Nat)(v:Value)(calls writes:Int)(i:Nat)(bs cs:Array Value)(w:World)(h:w.heap[A]?=some (χ κ n C v calls writes))(h0:0≤calls)(h1:calls≤1000000000)
  (hv:Cached w v i bs) (hi:i<n) (hn:n≤1000) (hC:w.heap[C]?=some (.cells cs 87)) (hs:n*128≤cs.size) (hAC:C≠A):
  Calls prog 249 #[.pointer (some ⟨A,0,none⟩)] w fun e w'=>e=.returned .nilIface∧w'.heap[A]?=some (χ κ n C (.slice none 0 0) (calls+1) writes)∧
   w'.heap[C]?=some (.cells (qE2 cs (i*128) bs) 87)∧Kp [A,C] w w':=by
 obtain⟨g,cap,cur,rfl,hg,hcs,hcur⟩:=hv.form;have hsz:=hv.size;have hby:=hv.bytes;clear hv;obtain⟨X,hX⟩:∃ X,X=(.int .i64 (i:Int)::bs.toList).toArray:=⟨_,rfl⟩;rw[←hX] at hcur;have hXs:X.size=129:=by rw[hX];simp[hsz]
 have hX0:X[0]?=some (.int .i64 i):=by rw[hX];rfl
 have hXp:qA4 X 1 128=bs:=by rw[hX];simp[qA4,List.take_of_length_le,hsz]
 have hX1:∀ v∈X.toList,v.oneCell'=true:=by
  rw[hX];intro v hv;simp at hv;rcases hv with rfl|hv
  ·rfl
  ·exact hby.one v (by simpa using hv)
 clear hX;have hgA:g≠A:=by intro e;subst e;rw[h] at hg;simp[χ] at hg
 have hgC:g≠C:=by intro e;subst e;rw[hC] at hg;simp at hg
 have hA:=ζ h;have hCs:=ζ hC;have c0:=ξ h 0;have c1:=ξ h 1;simp at c0 c1;have f1:=ω h 1;go_enter func249,ntmps249;go_wp2_with fail;refine (qZ9 A n C _ calls writes _ h h0 h1).mono ?_;rintro e w1 ⟨rfl,rfl⟩;go_wp2;refine wp_loop_rounds 2 ?_;rw[rounds_succ];have hg1:(w.setCell ⟨A,2,none⟩ (.int .i64 (calls+1))).heap[g]?=some (.cells cur 89):=(qA6 hgA _ _).trans hg
 go_wp2_with (
  with_reducible refine qP5 (t:=89) ?_ 129 ?_ g 0 ?_ cur 89 (0,0) ?_ ?_ ?_
  ·kernel_rfl
  ·kernel_rfl
  ·rfl
  ·exact hg1
  ·omega)
 have hN:((w.setCell ⟨A,2,none⟩ (.int .i64 (calls+1))).alloc (.cells zeroCells89 89)).heap[w.heap.size]?=some (.cells zeroCells89 89):=by
  simpa using ν (w.setCell ⟨A,2,none⟩ (.int .i64 (calls+1))) (.cells zeroCells89 89)
 rw[qL7 hN (by simp[qJ8,hXs]) hX1];obtain⟨W1,hW1,hK1,hA1,hC1,hT1⟩:∃ W1,W1=((w.setCell ⟨A,2,none⟩ (.int .i64 (calls+1))).alloc (.cells zeroCells89 89)).setRow w.heap.size (qE2 zeroCells89 0 X.toList.toArray)∧Kp [A,C] w W1∧
   W1.heap[A]?=some (χ κ n C (.slice (some ⟨g,0,none⟩) 1 cap) (calls+1) writes)∧W1.heap[C]?=some (.cells cs 87)∧W1.heap[w.heap.size]?=some (.cells X 89):=
  ⟨_,rfl,(((Kp.refl _ _).sc _).alloc _).setRow (by simp) _,(setRow_other _ _ _ _ (by omega)).trans (θ _ (ψ h 2 _)),(setRow_other _ _ _ _ (by omega)).trans (θ _ ((qA6 hAC _ _).trans hC)),by
   rw[setRow_heap _ _ _ _ _ _ hN,qJ4 (by simp[qJ8,hXs])]⟩
 rw[←hW1];clear hW1 hN hg1 c0 c1 f1;have c0:=ξ hA1 0;have t0:=ξ hT1 0;rw[hX0] at t0;simp at c0;go_wp2_with fail;refine wp_region_held_drew (S:=fun W=>W.heap[A]?=some (χ κ n C (.slice (some ⟨g,0,none⟩) 1 cap) (calls+1) writes)∧W.heap[w.heap.size]?=some (.cells X 89)) (by kernel_rfl) ⟨hA1,hT1⟩ (fun _=>?_);refine zP 0 A 0 ⟨hA1,hT1⟩ ?_;refine zP 1 A 0 ⟨hA1,hT1⟩ ?_;refine zP 2 A 0 ⟨hA1,hT1⟩ ?_;refine zV 3 (.slice (some ⟨C,0,none⟩) n κ) rfl (fun W hS=>by have c:=ξ hS.1 0;simp at c;clear hS;go_simp) ⟨hA1,hT1⟩ ?_;refine zP 4 w.heap.size 0 ⟨hA1,hT1⟩ ?_;refine zV 5 (.int .i64 i) rfl (fun W hS=>by have c:=ξ hS.2 0;rw[hX0] at c;clear hS;go_simp) ⟨hA1,hT1⟩ ?_;refine zP 6 w.heap.size 1 ⟨hA1,hT1⟩ ?_;refine zV 7 (.agg bs) rfl (fun W hS=>zR4 (t:=87) rfl (by kernel_rfl) 128 (by kernel_rfl) w.heap.size 1 rfl hS.2 (by omega) hXp) ⟨hA1,hT1⟩ ?_;refine zU 8 (.pointer (some ⟨C,i*128,none⟩)) ⟨hA1,hT1⟩ ?_;refine zq 9 fun K hK=>?_;refine xC1 rfl (zR5 (t:=87) rfl bs (by rw[hsz];kernel_rfl) C (i*128) rfl rfl (cur:=cs) (tb:=87) hC1 (by omega) hby.one) ?_;have hAo:=(setRow_other W1.drew C A (qE2 cs (i*128) bs) (by omega)).trans hA1;have hTo:=(setRow_other W1.drew C w.heap.size (qE2 cs (i*128) bs) (by omega)).trans hT1;have hCo:=setRow_heap W1.drew C _ (qE2 cs (i*128) bs) _ _ hC1;have hKo:=(hK1.drew).setRow (g:=C) (by simp) (qE2 cs (i*128) bs);refine hK.out _ _ ⟨hAo,hTo⟩ (fun _=>?_);clear hK K;refine zd ?_;generalize W1.drew.setRow C (qE2 cs (i*128) bs)=W2 at *;simp only[zZ];clear hA1 hT1 hC1 hK1 c0 t0 hTo;have c1:=ξ hAo 1;simp at c1;have f1:=ω hAo 1;go_wp2;rw[rounds_succ];go_wp2;go_ret;exact⟨rfl,ψ hAo 1 _,(qA6 hAC _ _).trans hCo,hKo.sc _⟩
theorem zT8:(prog.info? 87).map (fun i=>(i.zero,i.size,i.bytes))=some (some (.agg zeroCells87),128,128):=by kernel_rfl
theorem xE0:∀ v∈zeroCells87.toList,v=.int .u8 0:=by
 have h:zeroCells87.toList=List.replicate 128 (.int .u8 0):=by kernel_rfl
 intro v hv;rw[h] at hv;exact List.eq_of_mem_replicate hv
theorem zM1:zeroCells87.size=128:=by kernel_rfl
theorem jE8(m:Nat)(w:World)(hm:m<1000)(k:Int)(hk0:0≤k)(hk:k % 1000=m):
  Calls prog 34 #[.int .i64 k] w fun e w'=>e=.returned (.pointer (some ⟨w.heap.size+1,0,none⟩))∧∃ Z:Array Value,Z.size=m*128∧(∀ v∈Z.toList,v=.int .u8 0)∧
   w'=(w.alloc (.cells Z 87)).alloc (qP8 m w.heap.size (.slice none 0 0) 0 0):=by
 go_enter func34,ntmps34;have hlt:¬k<0:=by omega
 go_wp2;obtain⟨Z,hZ,hZ0,hr⟩:=jO4 (P:=prog) (.agg zeroCells87) (.int .u8 0) 128 128 underlying69 zT8 xE0 (by simp[Value.cells,zM1]) .i64 .i64 m (by omega) (by omega) w;rw[hr];clear hr;go_wp2;go_ret;exact⟨rfl,Z,hZ,hZ0,rfl⟩
def qC9(l:List UInt8):List Value:=l.map (fun b=>.int .u8 (b.toNat:Int))
def enc(l:List UInt8):Array Value:=(qC9 l).toArray
theorem xO4(l:List UInt8):(qC9 l).length=l.length:=by simp[qC9]
theorem qE6(l:List UInt8):(enc l).size=l.length:=by simp[enc,qC9]
theorem qH1(l:List UInt8):allBytes (enc l):=by
 intro v hv;simp[enc,qC9] at hv;obtain⟨b,_,rfl⟩:=hv;exact⟨_,rfl⟩
theorem qL1(l:List UInt8)(o n:Nat):qA4 (enc l) o n=enc ((l.drop o).take n):=by simp[qA4,enc,qC9,List.map_take,List.map_drop]
theorem zB4(l p:List UInt8)(o:Nat):qE2 (enc l) o (enc p)=enc (l.take o++p++l.drop (o+p.length)):=by
 simp[qE2,enc,qC9,List.map_take,List.map_drop]
theorem zS5(l:List UInt8)(s:ByteArray):(l.map (fun b=>(b.toNat:Int))).foldl (fun r n=>r.push (UInt8.ofNat n.toNat)) s=⟨(s.data.toList++l).toArray⟩:=by
 induction l generalizing s with
 | nil=>simp
 | cons b l ih=>
  rw[List.map_cons,List.foldl_cons,ih];simp[ByteArray.push]
variable {κ:Nat}
def qB6(A n:Nat):Obj:=.cells #[.iface 23 (.pointer (some ⟨A,0,none⟩)),.int .i64 n] 186
def qA0(l:List UInt8)(i:Nat):List UInt8:=(l.drop (i*128)).take 128
theorem qH7:zeroCells223.size=128:=by kernel_rfl
theorem jD6(V A n C:Nat)(calls writes:Int)(i:Nat)(l:List UInt8)(w:World)(hV:w.heap[V]?=some (qB6 A n))(h:w.heap[A]?=some (χ κ n C (.slice none 0 0) calls writes))(h0:0≤calls)(h1:calls≤1000000000)
  (hi:i<n) (hn:n≤1000) (hC:w.heap[C]?=some (.cells (enc l) 87)) (hs:n*128≤l.length) (hAC:C≠A) (hVA:V≠A):
  Calls prog 151 #[.pointer (some ⟨V,0,none⟩),.int .i64 i] w fun e w'=>e=.returned (.agg (enc (qA0 l i)))∧
   w'.heap[A]?=some (χ κ n C (.slice none 0 0) (calls+1) writes)∧Kp [A] w w':=by
 have c0:=ξ hV 0;simp at c0;have hVs:=ζ hV;have hA:=ζ h;have hCs:=ζ hC;go_enter func151,ntmps151;go_wp2_with fail;refine (jN1 A n C calls writes i (enc l) _ (θ _ h) h0 h1 hi hn (θ _ hC) (by rw[qE6];exact hs) (qH1 l) hAC).mono ?_;rintro e w1 ⟨g,rfl,hg,hG,hA1,hK1⟩;rw[qL1] at hG;have hb:qA0 l i=(l.drop (i*128)).take 128:=rfl;rw[←hb] at hG;have hbl:(qA0 l i).length=128:=by simp[qA0];omega
 clear hb;obtain⟨bl,hb0⟩:∃ bl,qA0 l i=bl:=⟨_,rfl⟩;rw[hb0] at hG hbl;have HB:=zh hb0;clear hb0;have hR:w1.heap[w.heap.size]?=some (.cells zeroCells223 223):=hK1.heap (ν _ _) (by simp;omega);have hK2:Kp [A] w w1:=((Kp.refl _ _).alloc _).tr hK1;have hgs:w.heap.size+1≤g:=by simpa using hg
 have hg1:=ζ hG;have hA1s:=ζ hA1;clear hK1 hg c0;go_wp2_with fail;have hN:=ν w1 (.cells zeroCells223 223);rw[qQ7 (n:=128) 3 underlying90 Tryz.size5 rfl hN (θ _ hG) (by simp[qH7]) (by rw[qE6];omega) (qP7 (qH1 _) _ _).one];rw[qL1,List.drop_zero,List.take_of_length_le (by omega),qJ4 (by rw[qH7,qE6,hbl])];obtain⟨W2,hW2,hK3,hA3,hR3,hB3⟩:∃ W2,W2=(w1.alloc (.cells zeroCells223 223)).setRow w1.heap.size (enc bl)∧Kp [A] w W2∧W2.heap[A]?=some (χ κ n C (.slice none 0 0) (calls+1) writes)∧
   W2.heap[w.heap.size]?=some (.cells zeroCells223 223)∧W2.heap[w1.heap.size]?=some (.cells (enc bl) 223):=
  ⟨_,rfl,(hK2.alloc _).setRow (Or.inr hK2.size) _,(setRow_other _ _ _ _ (by omega)).trans (θ _ hA1),(setRow_other _ _ _ _ (by omega)).trans (θ _ hR),setRow_heap _ _ _ _ _ _ hN⟩
 rw[←hW2];clear hW2 hN;have hpp:qA4 (enc bl) 0 128=enc bl:=by rw[qL1,List.drop_zero,List.take_of_length_le (by omega)]
 have hes:(enc bl).size=128:=by rw[qE6,hbl]
 go_wp2_with (
  with_reducible refine qP5 (t:=223) ?_ 128 ?_ w1.heap.size 0 ?_ (enc bl) 223 (0,0) ?_ ?_ ?_
  ·kernel_rfl
  ·kernel_rfl
  ·rfl
  ·exact hB3
  ·rw[qE6];omega)
 rw[qL7 hR3 (by simp[qH7,hes]) (qH1 bl).one];rw[show (enc bl).toList.toArray=enc bl from by simp,qJ4 (by rw[qH7,hes])];obtain⟨W3,hW3,hK4,hA4,hR4⟩:∃ W3,W3=W2.setRow w.heap.size (enc bl)∧Kp [A] w W3∧W3.heap[A]?=some (χ κ n C (.slice none 0 0) (calls+1) writes)∧W3.heap[w.heap.size]?=some (.cells (enc bl) 223):=
  ⟨_,rfl,hK3.setRow (by simp) _,(setRow_other _ _ _ _ (by omega)).trans hA3,setRow_heap _ _ _ _ _ _ hR3⟩
 rw[←hW3];clear hW3;go_wp2_with fail;exact bodyPost_ret (results_cell_row results151 _ _ w.heap.size _ _ _ _ rfl hR4 underlying223 rfl (by rw[hes];kernel_rfl)) rfl ⟨by rw[HB.out],hA4,hK4⟩
variable {κ:Nat}
theorem qI7{w:World}{base base':Nat}{e:TypeId}{sz:Nat}{v:Value}{n:Nat}{xs:List Value}(h:w.ownsRow base e sz v n xs)(hb:base'≤base):w.ownsRow base' e sz v n xs:=by
 obtain⟨h1,h2⟩:=h;refine⟨h1,?_⟩;rcases h2 with h2|⟨g,cap,cur,hv,hg,r⟩
 ·exact .inl h2
 ·exact .inr ⟨g,cap,cur,hv,by omega,r⟩
theorem jO9(V A n C:Nat)(calls writes:Int)(w:World)(hV:w.heap[V]?=some (qB6 A n))(h:w.heap[A]?=some (χ κ n C (.slice none 0 0) calls writes))(h0:0≤calls)(h1:calls≤1000000000):
  Calls prog 76 #[.pointer (some ⟨V,0,none⟩)] w fun e w'=>e=.returned (.tuple #[])∧w'.heap[A]?=some (χ κ n C (.slice none 0 0) (calls+1) writes)∧Kp [A] w w':=by
 have c0:=ξ hV 0;simp at c0;go_enter func76,ntmps76;go_wp2_with fail;refine (xR3 A n C calls writes _ h h0 h1).mono ?_;rintro e w1 ⟨rfl,hA1,hK1⟩;go_wp2
 go_end0
 exact⟨rfl,hA1,hK1⟩
theorem jP0(V A n C:Nat)(v:Value)(calls writes:Int)(i:Nat)(bs cs:Array Value)(w:World)(hV:w.heap[V]?=some (qB6 A n))(h:w.heap[A]?=some (χ κ n C v calls writes))(h0:0≤calls)(h1:calls≤1000000000)
  (hv:Cached w v i bs) (hi:i<n) (hn:n≤1000) (hC:w.heap[C]?=some (.cells cs 87)) (hs:n*128≤cs.size) (hAC:C≠A):
  Calls prog 76 #[.pointer (some ⟨V,0,none⟩)] w fun e w'=>e=.returned (.tuple #[])∧w'.heap[A]?=some (χ κ n C (.slice none 0 0) (calls+1) writes)∧
   w'.heap[C]?=some (.cells (qE2 cs (i*128) bs) 87)∧Kp [A,C] w w':=by
 have c0:=ξ hV 0;simp at c0;go_enter func76,ntmps76;go_wp2_with fail;refine (xR5 A n C v calls writes i bs cs _ h h0 h1 hv hi hn hC hs hAC).mono ?_;rintro e w1 ⟨rfl,hA1,hC1,hK1⟩;go_wp2
 go_end0
 exact⟨rfl,hA1,hC1,hK1⟩
theorem jO6(V A n C:Nat)(calls writes:Int)(i:Nat)(bl:List UInt8)(w:World)(hV:w.heap[V]?=some (qB6 A n))(h:w.heap[A]?=some (χ κ n C (.slice none 0 0) calls writes))(h0:0≤calls)(h1:calls≤1000000000)(h0w:0≤writes)(h1w:writes≤1000000000)
  (hi:i<n) (hn:n≤1000) (hbl:bl.length=128) (hVA:V≠A):
  Calls prog 136 #[.pointer (some ⟨V,0,none⟩),.int .i64 i,.agg (enc bl)] w fun e w'=>e=.returned (.tuple #[])∧∃ v',Cached w' v' i (enc bl)∧
   w'.heap[A]?=some (χ κ n C v' (calls+1) (writes+1))∧Kp [A] w w':=by
 have c0:=ξ hV 0;simp at c0;have hVs:=ζ hV;have hA:=ζ h;have hes:(enc bl).size=128:=by rw[qE6,hbl]
 go_enter func136,ntmps136;go_wp2_with fail;obtain⟨W1,hW1,hK1,hA1,hB1,hV1⟩:∃ W1,W1=w.alloc (.cells (enc bl) 223)∧Kp [A] w W1∧W1.heap[A]?=some (χ κ n C (.slice none 0 0) calls writes)∧W1.heap[w.heap.size]?=some (.cells (enc bl) 223)∧W1.heap[V]?=some (qB6 A n):=
  ⟨_,rfl,(Kp.refl _ _).alloc _,θ _ h,ν _ _,θ _ hV⟩
 rw[←hW1];clear hW1 c0;have c0:=ξ hV1 0;simp at c0;have hpp:qA4 (enc bl) 0 128=enc bl:=by rw[qL1,List.drop_zero,List.take_of_length_le (by omega)]
 have hm:∀ W:World,(method 445 23 (.pointer (some ⟨A,0,none⟩)) "Write").run prog W=.ok (251,.pointer (some ⟨A,0,none⟩)) W:=fun _=>by kernel_rfl
 go_region_with (go_at_call 251;go_must (refine (jU1 A n C calls writes i w.heap.size 0 128 (enc bl) 223 W1.drew hA1 h0 h1 h0w h1w hi hn hB1 (by omega) (qH1 bl) (by omega)).mono ?_);rintro e w2 ⟨rfl,v',hown,hA2,hK2⟩)
 go_wp2
 go_end0
 refine⟨rfl,v',⟨?_,hes,qH1 bl⟩,hA2,hK1.trans ((Kp.refl [A] W1).drew.tr hK2) (by simp)⟩;rw[hpp] at hown;exact qI7 hown (Nat.zero_le _)
theorem xT0{w:World}{g:Nat}{c:Array Value}{e:TypeId}(h:w.heap[g]?=some (.cells c e))(o:Nat):(w.freeze ⟨g,o,none⟩ 1).heap[g]?=some (.cells c e (o,o+1)):=by
 simp[World.freeze,Array.getElem?_modify,h]
theorem zS7{w:World}{g k:Nat}(hk:k≠g)(o:Nat):(w.freeze ⟨g,o,none⟩ 1).heap[k]?=w.heap[k]?:=by
 have:g≠k:=fun e=>hk e.symm;simp[World.freeze,Array.getElem?_modify,this]
theorem Below.freeze{B:Nat}{a w:World}(h:Below B a w){g:Nat}(hp:B≤g)(o:Nat):Below B a (w.freeze ⟨g,o,none⟩ 1):=
 ⟨h.os,h.tape,h.output,by have:=h.size;simp[World.freeze];omega,fun k hk=>(zS7 (by omega) o).trans (h.block k hk)⟩
theorem jO3{w:World}{g l cc:Nat}{c:Array Value}{e:TypeId}(h:w.heap[g]?=some (.cells c e)):
  Sem.run prog (convert 90 90 (.slice (some ⟨g,0,none⟩) l cc)) w=.ok (.slice (some ⟨g,0,none⟩) l cc) (w.freeze ⟨g,c.size,none⟩ 1):=by
 have hsh:w.shape? g=some (e,c.size):=by simp[World.shape?,h]
 simp[convert,run_underlying underlying90,run_underlying underlying5,markStringish,hsh]
theorem xF6(g k:Nat)(xs:List Int)(n:Int)(m:Nat)(w:World)(hx:k≤1000)(hxl:xs.length=k)(hm:m≤100)(hm1:1≤m)(hn:0≤n)
  (hc:∀ j,j<k→w.cell? ⟨g,j,none⟩=some (.int .u8 (xs.getD j 0))):
  Calls prog 177 #[.slice (some ⟨g,0,none⟩) k k,.int .u64 n,.int .i64 m] w fun e w'=>∃ v',e=.returned v'∧w'.ownsRow w.heap.size 5 1 v' (k+m) (u8s (xs++qB0 m n))∧Below w.heap.size w w':=by
 obtain⟨i0,hi,hz0,hz1,hz2⟩:=info_parts Tryz.info5;have hgs:∀ j,j<k→g<w.heap.size:=fun j hj=>World.block_lt_of_cell? w _ (hc j hj);go_enter func177,ntmps177;go_wp2
 go_loopw [0,1,8] (fun s q i wr=>∃ (j:Nat) (v':Value) (nj:Int),j≤m∧i=.int .i64 j∧q=.int .u64 nj∧nj=n / (256:Int) ^ j∧0≤nj∧nj≤n∧s=v'∧((j=0∧v'=.slice (some ⟨g,0,none⟩) k k∧w=wr)∨(1≤j∧wr.ownsRow w.heap.size 5 1 v' (k+j) (u8s (xs++qB0 j n))))∧Below w.heap.size w wr) (fun _ _ i _=>m-(intOf i).toNat)
 case atStart=>exact⟨0,_,n,Nat.zero_le _,rfl,rfl,by simp,hn,Int.le_refl _,rfl,.inl ⟨rfl,rfl,rfl⟩,Below.refl _ _⟩
 case round=>
  obtain⟨j,v',nj,hj,rfl,rfl,hnj,hnj0,hnj1,rfl,hcase,hbl⟩:=hrel;have HN:=zh hnj;clear hnj;rcases hcase with⟨rfl,rfl,rfl⟩|⟨hj1,hownr⟩
  ·have hlt:0<m:=by omega
   have HC:Hid (∀ b,(some (⟨g,0,none⟩:Addr))=some b→∀ j u,(u8s xs)[j]?=some u→(w.alloc (.cells #[.int .u8 (nj % 256)] 5)).cell? (b.add j)=some u):=by
    intro b hb j u hu;cases hb;rw[qM8,Nat.zero_add];have hjl:j<k:=by have:=(List.getElem?_eq_some_iff.1 hu).1;simp[u8s] at this;omega
    rw[World.cell?_alloc_past _ _ _ (hgs j hjl),hc j hjl];simp[u8s,List.getElem?_eq_getElem (show j<xs.length by omega)] at hu;simp[List.getD_eq_getElem?_getD,List.getElem?_eq_getElem (show j<xs.length by omega),hu]
   go_wp2_with (at_builtin;go_must (refine wpList_append_grows _ rfl _ _ 90 rfl 5 i0 (.int .u8 0) 1 1 underlying90 hi hz0 hz1 hz2 rfl (by decide) (some ⟨g,0,none⟩) k k (u8s xs) rfl (by simp) (by simp[u8s,hxl]) HC.out ⟨w.heap.size,0,none⟩ 1 1 [.int .u8 (nj % 256)] rfl rfl (cell_one_new _ _ _) (by simp[Value.oneCell']) (by omega) (by unfold maxLen;omega) (by omega) ?_);intro v1 w1 hown1 hgrow1)
   refine⟨⟨1,v1,nj / 256,by omega,rfl,rfl,?_,by omega,by omega,rfl,.inr ⟨Nat.le_refl _,?_⟩,?_⟩,by simp[intOf];omega⟩
   ·rw[HN.out];simp
   ·have e1:u8s (xs++qB0 1 n)=u8s xs++[.int .u8 (nj % 256)]:=by rw[HN.out];simp[u8s,qB0]
    rw[e1];exact qI7 hown1 (by simp)
   ·exact (hbl.alloc (Nat.le_refl _) _).grown hgrow1 (by simp) (by simp)
  ·by_cases hlt:j<m
   ·go_wp2_with (at_builtin;refine wpList_append_own _ rfl _ _ 90 rfl w.heap.size 5 i0 (.int .u8 0) 1 1 underlying90 hi hz0 hz1 hz2 rfl (by decide) _ _ _ rfl (hownr.alloc _) ⟨wr.heap.size,0,none⟩ 1 1 [.int .u8 (nj % 256)] rfl rfl (cell_one_new _ _ _) (by simp[Value.oneCell']) (by unfold maxLen;omega) (by omega) (by have:=hbl.size;simp;omega) ?_;intro v1 w1 hown1 hgrow1 _)
    refine⟨⟨j+1,v1,nj / 256,by omega,by go_num,rfl,?_,by omega,by omega,rfl,.inr ⟨by omega,?_⟩,?_⟩,by simp[intOf];omega⟩
    ·rw[HN.out,Int.ediv_ediv_of_nonneg (by exact Int.pow_nonneg (by decide)),Int.pow_succ]
    ·have e1:u8s (xs++qB0 (j+1) n)=u8s (xs++qB0 j n)++[.int .u8 (nj % 256)]:=by rw[zI8,←HN.out];simp[u8s]
     rw[e1];exact hown1
    ·exact (hbl.alloc (by have:=hbl.size;omega) _).grown hgrow1 (by have:=hbl.size;simp;omega) (qI3 hownr)
   ·go_wp2;go_ret;have e:j=m:=by omega
    subst e;exact⟨_,rfl,hownr,hbl⟩
def qH2:List Int:=[115,104,97,100,111,119]
def qH6(N rb rs:Int):List Int:=qH2++qB0 2 rb++qB0 8 N++qB0 8 rs
def qE1(N rb rs:Int):List Int:=qH6 N rb rs++qB0 8 (fnv (qH6 N rb rs))
theorem qP9(xs:List Int):0≤fnv xs:=by
 unfold fnv
 suffices h:∀ s:Int,0≤s→0≤xs.foldl qI9 s from h _ (by decide)
 induction xs with
 | nil=>intro s hs;simpa using hs
 | cons x xs ih=>
  intro s hs;rw[List.foldl_cons];apply ih;simp only[qI9,IntKind.wrap_u64];exact Int.emod_nonneg _ (by decide)
theorem zK8(N rb rs:Int):(qH6 N rb rs).length=24:=by simp[qH6,qH2,qF8]
theorem qU8(N rb rs:Int):(qE1 N rb rs).length=32:=by simp[qE1,zK8,qF8]
theorem jL2{w:World}{base:Nat}{v:Value}{k:Nat}{xs:List Int}(h:w.ownsRow base 5 1 v (k+1) (u8s xs)):∃ g cap,v=.slice (some ⟨g,0,none⟩) (k+1) cap∧base≤g∧xs.length=k+1∧∀ j,j<k+1→w.cell? ⟨g,0+j,none⟩=some (.int .u8 (xs.getD j 0)):=by
 obtain⟨hl,h2⟩:=h;rcases h2 with⟨_,h0⟩|⟨g,cap,cur,rfl,hg,hh,h1,_,hs,ht⟩
 ·cases h0
 ·have hxl:xs.length=k+1:=by simpa [u8s] using hl
  refine⟨g,cap,rfl,hg,hxl,fun j hj=>?_⟩;rw[ξ hh];have e:(cur.toList.take ((k+1)*1))[j]?=(u8s xs)[j]?:=by rw[ht]
  rw[List.getElem?_take,if_pos (by omega)] at e;rw[Nat.zero_add,←Array.getElem?_toList,e];simp[u8s,List.getD_eq_getElem?_getD,List.getElem?_eq_getElem (show j<xs.length by omega)]
theorem zK9(N rb rs:Int)(w:World)(hN:0≤N)(hb:0≤rb)(hb2:rb≤65535)(hr:0≤rs):
  Calls prog 135 #[.agg #[.int .u64 N,.int .i64 rb,.int .u64 rs]] w fun e w'=>∃ v,e=.returned v∧w'.ownsRow w.heap.size 5 1 v 32 (u8s (qE1 N rb rs))∧Below w.heap.size w w':=by
 go_enter func135,ntmps135;go_wp2_with fail;have hM:=ν (w.alloc (.cells #[.int .u64 N,.int .i64 rb,.int .u64 rs] 116)) (.cells #[.int .u8 115,.int .u8 104,.int .u8 97,.int .u8 100,.int .u8 111,.int .u8 119] 5);rw[show (w.alloc (.cells #[.int .u64 N,.int .i64 rb,.int .u64 rs] 116)).heap.size=w.heap.size+1 from by simp] at hM;rw[jO3 hM];obtain⟨W1,hW1,hK1,hH1,hO1⟩:∃ W1,W1=((w.alloc (.cells #[.int .u64 N,.int .i64 rb,.int .u64 rs] 116)).alloc (.cells #[.int .u8 115,.int .u8 104,.int .u8 97,.int .u8 100,.int .u8 111,.int .u8 119] 5)).freeze ⟨w.heap.size+1,#[Value.int .u8 115,Value.int .u8 104,Value.int .u8 97,Value.int .u8 100,Value.int .u8 111,Value.int .u8 119].size,none⟩ 1∧
   Below w.heap.size w W1∧W1.heap[w.heap.size]?=some (.cells #[.int .u64 N,.int .i64 rb,.int .u64 rs] 116)∧(∀ j,j<6→W1.cell? ⟨w.heap.size+1,j,none⟩=some (.int .u8 (qH2.getD j 0))):=
  ⟨_,rfl,Below.freeze (((Below.refl _ _).alloc (Nat.le_refl _) _).alloc (by simp) _) (by omega) _,(zS7 (by omega) _).trans (θ _ (ν _ _)),fun j hj=>by
   rw[ξ (xT0 hM _)]
   match j,hj with
   | 0,_=>rfl
   | 1,_=>rfl
   | 2,_=>rfl
   | 3,_=>rfl
   | 4,_=>rfl
   | 5,_=>rfl⟩
 rw[←hW1];clear hW1 hM;have hs1:w.heap.size+1≤W1.heap.size:=by have:=ζ hH1;omega
 have c1:=ξ hH1 1;simp at c1;have HO:=zh hO1;clear hO1;go_wp2_with fail;refine (xF6 (w.heap.size+1) 6 qH2 rb 2 W1 (by omega) rfl (by omega) (by omega) hb HO.out).mono ?_;rintro e W2 ⟨v2,rfl,hO2,hB2⟩;have hH2:=(hB2.block w.heap.size (by omega)).trans hH1;have hs2:=hB2.size;have d0:=ξ hH2 0;simp at d0;have hO2':=qI7 hO2 hs1;clear c1 HO hO2;go_wp2_with fail;refine (zE9 _ (w.heap.size+1) (6+2) (qH2++qB0 2 rb) N 8 W2 (by omega) (by omega) hN (by omega) hO2').mono ?_;rintro e W3 ⟨v3,rfl,hO3,hB3⟩;have hH3:=(hB3.block w.heap.size (by omega)).trans hH2;have hs3:=hB3.size;have d2:=ξ hH3 2;simp at d2;clear d0;go_wp2_with fail;refine (zE9 _ (w.heap.size+1) (6+2+8) (qH2++qB0 2 rb++qB0 8 N) rs 8 W3 (by omega) (by omega) hr (by omega) hO3).mono ?_;rintro e W4 ⟨v4,rfl,hO4,hB4⟩;have hs4:=hB4.size;clear d2;have hS:u8s (qH2++qB0 2 rb++qB0 8 N++qB0 8 rs)=u8s (qH6 N rb rs):=rfl;rw[hS] at hO4;obtain⟨g,cap,rfl,hg,hlen,hcs⟩:=jL2 (k:=23) hO4;have HC:=zh hcs;clear hcs hS;go_wp2_with fail;refine (qX5 g 0 24 cap (qH6 N rb rs) W4 hlen (by omega) HC.out).mono ?_;rintro e w5 ⟨rfl,rfl⟩;go_wp2_with fail;refine (zE9 _ (w.heap.size+1) 24 (qH6 N rb rs) (fnv (qH6 N rb rs)) 8 _ (by omega) (by omega) (qP9 _) (by omega) hO4).mono ?_;rintro e W6 ⟨v6,rfl,hO6,hB6⟩;go_wp2;go_ret;refine⟨_,rfl,qI7 hO6 (by omega),hK1.trans (((hB2.mono (by omega)).trans (hB3.mono (by omega))).trans ((hB4.mono (by omega)).trans (hB6.mono (by omega))))⟩
def qK6(N rb rs:Int):Value:=.agg #[.int .u64 N,.int .i64 rb,.int .u64 rs]
theorem zC7(N rb rs:Int)(w:World)(hN:0≤N):
  Calls prog 137 #[.agg #[.int .u64 N,.int .i64 rb,.int .u64 rs]] w fun e w'=>e=.returned (.int .i64 (N % 2))∧Below w.heap.size w w':=by
 go_enter func137,ntmps137;go_wp2;go_ret;exact⟨rfl,(Below.refl _ _).alloc (Nat.le_refl _) _⟩
theorem jF0(N N' a b c d:Int)(w:World)(hN:0≤N)(hN':0≤N')(hle:N≤N')(h1:N'≤1000000000):
  Calls prog 112 #[.agg #[.int .u64 N,.int .i64 a,.int .u64 b],.agg #[.int .u64 N',.int .i64 c,.int .u64 d]] w fun e w'=>e=.returned (.bool false)∧Below w.heap.size w w':=by
 have hd:decide (0<wrap64 (IntKind.u64.wrap (N-N')))=false:=by
  simp only[wrap64,IntKind.wrap_u64,decide_eq_false_iff_not];omega
 go_enter func112,ntmps112;go_wp2;go_ret;exact⟨rfl,((Below.refl _ _).alloc (Nat.le_refl _) _).alloc (by simp) _⟩
theorem zC2(N rb rs qb qs:Int)(w:World)(hN:0≤N)(h1:N≤1000000000):
  Calls prog 99 #[.agg #[.int .u64 N,.int .i64 rb,.int .u64 rs],.agg #[.int .i64 qb,.int .u64 qs]] w fun e w'=>e=.returned (.agg #[.int .u64 (N+1),.int .i64 qb,.int .u64 qs])∧Below w.heap.size w w':=by
 go_enter func99,ntmps99;go_wp2;refine bodyPost_ret (results_cell_row results99 _ _ (w.heap.size+1+1) 116 #[.int .u64 (N+1),.int .i64 qb,.int .u64 qs] (0,0) _ rfl ?_ underlying116 rfl (by kernel_rfl)) rfl ⟨rfl,(((Below.refl _ _).alloc (Nat.le_refl _) _).alloc (by simp) _).alloc (by simp;omega) _⟩;simpa using ν ((w.alloc (.cells #[.int .u64 N,.int .i64 rb,.int .u64 rs] 116)).alloc (.cells #[.int .i64 qb,.int .u64 qs] 78)) (.cells #[.int .u64 (N+1),.int .i64 qb,.int .u64 qs] 116)
theorem xA6{w:World}{g o n cap:Nat}{ca:Array Value}{tg:TypeId}{fa:Nat × Nat}{l:List UInt8}(h:w.heap[g]?=some (.cells ca tg fa))(hp:qA4 ca o n=enc l)(hin:o+n≤ca.size):
  Sem.run prog (convert 90 9 (.slice (some ⟨g,o,none⟩) n cap)) w=.ok (.string ⟨l.toArray⟩) w:=by
 rw[run_convert_bytes_string w _ _ _ _ _ _ underlying90 underlying5 underlying9];have hload:=zD1 (P:=prog) (o:=o) (n:=n) h hin;have e:enc l=((l.map (fun b=>(b.toNat:Int))).map (.int .u8)).toArray:=by simp[enc,qC9]
 rw[hp,e] at hload;rw[run_bytesToString w _ _ _ _ hload,zS5];simp
theorem xP1(g o n cap h o' cap':Nat)(a b:List UInt8)(w:World)(tg th:TypeId)(ca cb:Array Value)(fa fb:Nat × Nat)(ha:w.heap[g]?=some (.cells ca tg fa))(hb:w.heap[h]?=some (.cells cb th fb))
  (hpa:qA4 ca o n=enc a) (hpb:qA4 cb o' n=enc b) (hal:o+n≤ca.size) (hbl:o'+n≤cb.size):
  Calls prog 153 #[.slice (some ⟨g,o,none⟩) n cap,.slice (some ⟨h,o',none⟩) n cap'] w fun e w'=>e=.returned (.bool (a == b))∧w'=w:=by
 have h1:=xA6 (cap:=cap) ha hpa hal;have h2:=xA6 (cap:=cap') hb hpb hbl;clear ha hb hpa hpb hal hbl;go_enter func153,ntmps153;go_wp2;go_ret;exact⟨rfl,rfl⟩
def qK9:List Int→Int
 | []=>0
 | x::xs=>x+256*qK9 xs
theorem zJ4:∀ xs:List Int,(∀ x∈xs,0≤x∧x<256)→0≤qK9 xs∧qK9 xs<(256:Int) ^ xs.length
 | [],_=>by simp[qK9]
 | x::xs,h=>by
  have hx:=h x (by simp);have hi:=zJ4 xs (fun y hy=>h y (by simp[hy]));simp only[qK9,List.length_cons,Int.pow_succ];omega
theorem jL0(n x:Int)(hn:0≤n)(hn2:n<72057594037927936)(hx:0≤x)(hx2:x<256):bits BinOp.or .u64 (IntKind.u64.wrap (n*256)) (IntKind.u64.wrap x)=x+256*n:=by
 have e1:IntKind.u64.wrap (n*256)=n*256:=by simp only[IntKind.wrap_u64];omega
 have e2:IntKind.u64.wrap x=x:=by simp only[IntKind.wrap_u64];omega
 rw[e1,e2,u64_or _ _ (by omega) (by omega) hx (by omega)];obtain⟨a,rfl⟩:=Int.eq_ofNat_of_zero_le hn;obtain⟨b,rfl⟩:=Int.eq_ofNat_of_zero_le hx;have h1:((a:Int)*256).toNat=a <<< 8:=by rw[Nat.shiftLeft_eq];omega
 rw[h1,Int.toNat_natCast,←Nat.shiftLeft_add_eq_or_of_lt (by omega),Nat.shiftLeft_eq];omega
theorem zC4:∀ xs:List Int,(∀ x∈xs,0≤x∧x<256)→xs.length≤8→qD8 xs=qK9 xs
 | [],_,_=>rfl
 | x::xs,h,hl=>by
  have hx:=h x (by simp);have hh:∀ y∈xs,0≤y∧y<256:=fun y hy=>h y (by simp[hy]);have hb:=zJ4 xs hh;have hp:(256:Int) ^ xs.length≤256 ^ 7:=by
   have h7:xs.length≤7:=by simp at hl;omega
   have e:∀ k:Nat,(256:Int) ^ k=((256 ^ k:Nat):Int):=fun k=>by rw[Int.natCast_pow];rfl
   rw[e,e];exact Int.ofNat_le.2 (Nat.pow_le_pow_right (by decide) h7)
  have hp7:(256:Int) ^ 7=72057594037927936:=by decide
  have ih:=zC4 xs hh (by simp at hl;omega);show bits BinOp.or .u64 (IntKind.u64.wrap (qD8 xs*256)) (IntKind.u64.wrap x)=_;rw[ih,jL0 _ _ hb.1 (by omega) hx.1 hx.2];rfl
theorem qJ0:∀ (k:Nat) (n:Int),∀ x∈qB0 k n,0≤x∧x<256
 | 0,_,_,h=>by simp[qB0] at h
 | k+1,n,x,h=>by
  simp only[qB0,List.mem_cons] at h;rcases h with rfl|h
  ·omega
  ·exact qJ0 k _ x h
theorem zY8:∀ (k:Nat) (n:Int),0≤n→n<(256:Int) ^ k→qK9 (qB0 k n)=n
 | 0,n,h0,h1=>by simp[qB0,qK9] at *;omega
 | k+1,n,h0,h1=>by
  rw[Int.pow_succ] at h1;have hq:n / 256<(256:Int) ^ k:=by
   generalize (256:Int) ^ k=q at *;omega
  rw[qB0,qK9,zY8 k _ (by omega) hq];omega
theorem qK8(k:Nat)(n:Int)(hk:k≤8)(h0:0≤n)(h1:n<(256:Int) ^ k):qD8 (qB0 k n)=n:=by
 rw[zC4 _ (qJ0 k n) (by rw[qF8];exact hk),zY8 k n h0 h1]
end Go.Proofs.YtdohpenfkdckiabGreatDoor
