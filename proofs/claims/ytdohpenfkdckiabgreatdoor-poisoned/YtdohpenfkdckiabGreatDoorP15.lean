import Derived.Test.YtdohpenfkdckiabGreatDoorP14
set_option linter.all false
set_option maxRecDepth 100000
set_option maxHeartbeats 20000000
namespace Go.Proofs.YtdohpenfkdckiabGreatDoor
open Go.Proofs.Tryz
open Go.RowKit
variable {κ:Kd}
def xI7(κ:Kd)(A n C base k:Nat)(v:Value)(calls writes:Int)(xs:List Value)(w:World)(e:Ending)(w':World):Prop:=
 (¬κ.quiet∧e=.returned qP5∧w'.heap[A]?=some (qC1 κ.up n C v (nx calls) writes)∧Kp [A] w w')∨
  (e=.returned .nilIface∧∃ v',w'.ownsRow base 89 129 v' (k+1) xs∧w'.heap[A]?=some (qC1 κ n C v' (nx calls) (nx writes))∧Wr base A w w')
def zO0(κ:Kd)(A n C:Nat)(v:Value)(calls writes:Int)(l:List UInt8)(w:World)(e:Ending)(w':World):Prop:=
 (¬κ.quiet∧e=.returned qP5∧w'.heap[A]?=some (qC1 κ.up n C v (nx calls) writes)∧Kp [A] w w')∨
  (e=.returned .nilIface∧w'.heap[A]?=some (qC1 κ n C (.slice none 0 0) (nx calls) writes)∧w'.heap[C]?=some (.cells (enc l) 87)∧Kp [A,C] w w')
theorem jZ4(A n C:Nat)(v:Value)(base k:Nat)(xs:List Value)(calls writes:Int)(i:Nat)(B bo cap:Nat)(src:Array Value)(tb:TypeId)(w:World)(h:w.heap[A]?=some (qC1 κ n C v calls writes))
  (hi:i<n) (hn:n≤1000) (hB:w.heap[B]?=some (.cells src tb)) (hs:bo+128≤src.size) (hby:allBytes src) (hAB:B≠A) (hv:w.ownsRow base 89 129 v k xs) (hb:base≤w.heap.size) (hk:k≤100000):
  Calls prog 251 #[.pointer (some ⟨A,0,none⟩),.int .i64 i,.slice (some ⟨B,bo,none⟩) 128 cap] w (xI7 κ A n C base k v calls writes (xs++.int .i64 i::(qA1 src bo 128).toList) w):=by
 have HV:=zh hv;have HB:Hid (base≤w.heap.size∧k≤100000):=⟨hb,hk⟩;clear hv hb hk;have c1:=ξ h 1;have c3:=ξ h 3;simp at c1 c3;have hA:=ζ h;have hBs:=ζ hB;go_enter func251,ntmps251;go_wp2_with fail;refine (zA2 A n C _ calls writes _ h).mono ?_;rintro e w1 (⟨rfl,rfl⟩|⟨hq,rfl,rfl⟩)
 rotate_left
 ·have HE:Hid (¬κ.quiet∧((w.setCell ⟨A,2,none⟩ (.int .i64 (nx calls))).setCell ⟨A,4,none⟩ (.int .i64 (nx κ.told))).heap[A]?=some (qC1 κ.up n C v (nx calls) writes)):=⟨hq,zD7 h⟩;clear hq h;go_wp2;go_ret;exact .inl ⟨HE.out.1,rfl,HE.out.2,zD6 A _ _ w⟩
 go_wp2_with fail;refine (xC5 A n C v (nx calls) writes i _ (φ h 2 _) (by omega) (by omega)).mono ?_;rintro e w1 ⟨rfl,rfl⟩;go_wp2_with fail;have hN:((w.setCell ⟨A,2,none⟩ (.int .i64 (nx calls))).alloc (.cells zeroCells89 89)).heap[w.heap.size]?=some (.cells zeroCells89 89):=by
  simpa using μ (w.setCell ⟨A,2,none⟩ (.int .i64 (nx calls))) (.cells zeroCells89 89)
 rw[qI9 hN (by simp[qI5]) (fun v hv=>by rcases List.mem_or_eq_of_mem_set hv with h | h;exact xI0 v h;subst h;rfl)];obtain⟨W1,hW1,hK1,hA1,hG1⟩:∃ W1,W1=((w.setCell ⟨A,2,none⟩ (.int .i64 (nx calls))).alloc (.cells zeroCells89 89)).setRow w.heap.size (qD6 zeroCells89 0 (zeroCells89.toList.set 0 (.int .i64 i)).toArray)∧Kp [A] w W1∧
   W1.heap[A]?=some (qC1 κ n C v (nx calls) writes)∧W1.heap[w.heap.size]?=some (.cells (zeroCells89.toList.set 0 (.int .i64 i)).toArray 89):=
  ⟨_,rfl,(((Kp.refl _ _).sc _).alloc _).setRow (by simp) _,(setRow_other _ _ _ _ (by omega)).trans (θ _ (φ h 2 _)),by
   rw[setRow_heap _ _ _ _ _ _ hN,qH1 (by simp)]⟩
 rw[←hW1];clear hW1 hN;have hB1:=hK1.heap hB (by simp[hAB]);go_wp2_with fail;rw[qO5 (n:=128) 3 underlying90 Tryz.size5 rfl hG1 hB1 (by simp[qI5]) hs (qO6 hby _ _).one];obtain⟨W2,hW2,hK2,hA2,hG2⟩:∃ W2,W2=W1.setRow w.heap.size (qD6 (zeroCells89.toList.set 0 (.int .i64 i)).toArray 1 (qA1 src bo 128))∧Kp [A] w W2∧
   W2.heap[A]?=some (qC1 κ n C v (nx calls) writes)∧W2.heap[w.heap.size]?=some (.cells (.int .i64 i::(qA1 src bo 128).toList).toArray 89):=
  ⟨_,rfl,hK1.setRow (by simp) _,(setRow_other _ _ _ _ (by omega)).trans hA1,by
   rw[setRow_heap _ _ _ _ _ _ hG1];have e:qD6 (zeroCells89.toList.set 0 (.int .i64 i)).toArray 1 (qA1 src bo 128)=(.int .i64 i::(qA1 src bo 128).toList).toArray:=by
    have hz:zeroCells89.toList.length=129:=by simp[qI5]
    obtain⟨z0,zs,hzs⟩:∃ z0 zs,zeroCells89.toList=z0::zs:=by
     cases hq:zeroCells89.toList with
     | nil=>rw[hq] at hz;cases hz
     | cons z0 zs=>exact⟨z0,zs,rfl⟩
    rw[hzs] at hz ⊢;have hp:=qO4 (cs:=src) hs;have hd:zs.drop 128=[]:=List.drop_of_length_le (by simp at hz;omega);unfold qD6;rw[hp];simp[hd]
   rw[e]⟩
 rw[←hW2];clear hW2 hK1 hA1 hG1 hB1 c1 c3;have c1:=ξ hA2 1;have c3:=ξ hA2 3;simp at c1 c3;have f1:=ψ hA2 1;go_wp2_with fail;refine wp_region_any (by kernel_rfl) ?_;change wpAny _ _ _ _ _ _ _ (World.drew _);refine zu 0 (.pointer (some ⟨A,0,none⟩)) ?_;refine zu 1 (.pointer (some ⟨A,0,none⟩)) ?_;refine zu 2 (.pointer (some ⟨A,0,none⟩)) ?_;refine zu 3 (.pointer (some ⟨A,1,none⟩)) ?_;obtain⟨X,hX⟩:∃ X,X=(Value.int .i64 (i:Int)::(qA1 src bo 128).toList).toArray:=⟨_,rfl⟩;rw[←hX] at hG2;have hd2:W2.drew.heap[w.heap.size]?=some (.cells X 89):=hG2;have hlen:X.size=129:=by rw[hX];simp[qO4 hs]
 have hnew:(W2.drew.alloc (.cells (Value.agg X).cells 89)).heap[W2.heap.size]?=some (.cells X 89):=μ W2.drew _;have hone:∀ u∈(qA1 X 0 (1*129)).toList,u.oneCell'=true:=by
  have e:qA1 X 0 (1*129)=X:=by have:=qR6 X;rw[hlen] at this;exact this
  rw[e,hX];intro u hu;simp at hu;rcases hu with rfl|hu
  ·rfl
  ·exact (qO6 hby bo 128).one u (by simpa using hu)
 have HX:=zh hX;clear hX;have hA2s:=ζ hA2;have HK2:=zh hK2;have HO2:Hid ((W2.drew.alloc (.cells (Value.agg X).cells 89)).ownsRow base 89 129 v k xs):=qG5 HV.out ((hK2.drew).alloc _) (fun q hq c t fr e=>by rw[List.mem_singleton.1 hq,h] at e;cases e;decide);refine wpAny_ready (rs:=[4,5]) (by kernel_rfl) (by simp) ?_;refine AllReady.cons rfl (fun K hK=>?_) (AllReady.cons rfl (fun K hK=>?_) AllReady.nil)
 ·go_simp;refine hK _ _ ?_;clear hK K;refine zQ 5 fun K hK=>?_;refine qJ0 rfl (qK7 (t:=89) rfl (by kernel_rfl) 129 (by kernel_rfl) w.heap.size (by simp[Act.eval]) hd2 hlen) ?_;refine hK _ _ ?_;clear hK K;simp only[zZ];refine zQ 6 fun K hK=>?_;refine qJ0 rfl (qT8 rfl (.agg X) _ _ _ underlying70 qM7 (by simp[Act.eval]) (by simpa [Value.cells] using hlen) (by decide) (by decide)) ?_;refine hK _ _ ?_;clear hK K;simp only[zZ];refine zQ 7 fun K hK=>?_;refine qM1 rfl rfl (.agg zeroCells89) 129 136 underlying70 qM7 (by simp[Value.cells,qI5]) (by decide) base v k xs (by simp[Act.eval]) HO2.out W2.heap.size 0 1 1 X 89 (0,0) (by simp[Act.eval]) hnew (by omega) hone (by have:=HB.out;omega) (by have:=HB.out;omega) (by have:=HK2.out.size;have:=HB.out;simp;omega) ?_;intro v1 w1 hown1 hgr1 _;obtain⟨g1,cap1,rfl⟩:=qJ6 (n:=k) hown1;refine hK _ _ ?_;clear hK K;simp only[zZ];have hA3:w1.heap[A]?=some (qC1 κ n C v (nx calls) writes):=qP6 HO2.out hgr1 (θ _ hA2) (by decide);have HW3:Hid (Wr base A w w1):=((Wr.ofKp ((HK2.out.drew).alloc _) HB.out.1).grown HB.out.1 HO2.out hgr1);have HO3:Hid (w1.ownsRow base 89 129 (.slice (some ⟨g1,0,none⟩) (k+1) cap1) (k+1) (xs++X.toList)):=by
   have hz:qA1 X 0 (1*129)=X:=by have:=qR6 X;rw[hlen] at this;exact this
   rw[hz] at hown1;exact hown1
  have hA3s:=ζ hA3;have d1:=ξ hA3 1;simp at d1;have e1:=ψ hA3 1;clear hown1 hgr1;refine zu 8 (.pointer (some ⟨A,0,none⟩)) ?_;refine zu 9 (.pointer (some ⟨A,1,none⟩)) ?_;refine zQ 10 fun K hK=>?_;go_simp;refine hK _ _ ?_;clear hK K;refine wpAny_done (by kernel_rfl) ?_ _;have d3:=ξ hA3 3;simp at d3;have e3:=ψ hA3 3;have hnw:wrap64 (writes+1)=nx writes:=rfl;go_wp2;go_ret;have hKs:Kp [A] w1 ((w1.setCell ⟨A,1,none⟩ (.slice (some ⟨g1,0,none⟩) (k+1) cap1)).setCell ⟨A,3,none⟩ (.int .i64 (nx writes))):=((Kp.refl _ _).sc _).sc _;refine .inr ⟨rfl,_,?_,φ (φ hA3 1 _) 3 _,HW3.out.trans (Wr.ofKp hKs (Nat.le_trans HB.out.1 HW3.out.size))⟩;have h:=HO3.out;rw[HX.out] at h;exact qG5 h hKs (fun q hq c t fr e=>by rw[List.mem_singleton.1 hq,hA3] at e;cases e;decide)
 ·refine qJ0 rfl (qK7 (t:=89) rfl (by kernel_rfl) 129 (by kernel_rfl) w.heap.size (by simp[Act.eval]) hd2 hlen) ?_;refine hK _ _ ?_;clear hK K;simp only[zZ];refine wpAny_ready (rs:=[4,6]) (by kernel_rfl) (by simp) ?_;refine AllReady.cons rfl (fun K hK=>?_) (AllReady.cons rfl (fun K hK=>?_) AllReady.nil)
  ·go_simp;refine hK _ _ ?_;clear hK K;refine zQ 6 fun K hK=>?_;refine qJ0 rfl (qT8 rfl (.agg X) _ _ _ underlying70 qM7 (by simp[Act.eval]) (by simpa [Value.cells] using hlen) (by decide) (by decide)) ?_;refine hK _ _ ?_;clear hK K;simp only[zZ];refine zQ 7 fun K hK=>?_;refine qM1 rfl rfl (.agg zeroCells89) 129 136 underlying70 qM7 (by simp[Value.cells,qI5]) (by decide) base v k xs (by simp[Act.eval]) HO2.out W2.heap.size 0 1 1 X 89 (0,0) (by simp[Act.eval]) hnew (by omega) hone (by have:=HB.out;omega) (by have:=HB.out;omega) (by have:=HK2.out.size;have:=HB.out;simp;omega) ?_;intro v1 w1 hown1 hgr1 _;obtain⟨g1,cap1,rfl⟩:=qJ6 (n:=k) hown1;refine hK _ _ ?_;clear hK K;simp only[zZ];have hA3:w1.heap[A]?=some (qC1 κ n C v (nx calls) writes):=qP6 HO2.out hgr1 (θ _ hA2) (by decide);have HW3:Hid (Wr base A w w1):=((Wr.ofKp ((HK2.out.drew).alloc _) HB.out.1).grown HB.out.1 HO2.out hgr1);have HO3:Hid (w1.ownsRow base 89 129 (.slice (some ⟨g1,0,none⟩) (k+1) cap1) (k+1) (xs++X.toList)):=by
    have hz:qA1 X 0 (1*129)=X:=by have:=qR6 X;rw[hlen] at this;exact this
    rw[hz] at hown1;exact hown1
   have hA3s:=ζ hA3;have d1:=ξ hA3 1;simp at d1;have e1:=ψ hA3 1;clear hown1 hgr1;refine zu 8 (.pointer (some ⟨A,0,none⟩)) ?_;refine zu 9 (.pointer (some ⟨A,1,none⟩)) ?_;refine zQ 10 fun K hK=>?_;go_simp;refine hK _ _ ?_;clear hK K;refine wpAny_done (by kernel_rfl) ?_ _;have d3:=ξ hA3 3;simp at d3;have e3:=ψ hA3 3;have hnw:wrap64 (writes+1)=nx writes:=rfl;go_wp2;go_ret;have hKs:Kp [A] w1 ((w1.setCell ⟨A,1,none⟩ (.slice (some ⟨g1,0,none⟩) (k+1) cap1)).setCell ⟨A,3,none⟩ (.int .i64 (nx writes))):=((Kp.refl _ _).sc _).sc _;refine .inr ⟨rfl,_,?_,φ (φ hA3 1 _) 3 _,HW3.out.trans (Wr.ofKp hKs (Nat.le_trans HB.out.1 HW3.out.size))⟩;have h:=HO3.out;rw[HX.out] at h;exact qG5 h hKs (fun q hq c t fr e=>by rw[List.mem_singleton.1 hq,hA3] at e;cases e;decide)
  ·refine qJ0 rfl (qT8 rfl (.agg X) _ _ _ underlying70 qM7 (by simp[Act.eval]) (by simpa [Value.cells] using hlen) (by decide) (by decide)) ?_;refine hK _ _ ?_;clear hK K;simp only[zZ];refine zQ 4 fun K hK=>?_;go_simp;refine hK _ _ ?_;clear hK K;refine zQ 7 fun K hK=>?_;refine qM1 rfl rfl (.agg zeroCells89) 129 136 underlying70 qM7 (by simp[Value.cells,qI5]) (by decide) base v k xs (by simp[Act.eval]) HO2.out W2.heap.size 0 1 1 X 89 (0,0) (by simp[Act.eval]) hnew (by omega) hone (by have:=HB.out;omega) (by have:=HB.out;omega) (by have:=HK2.out.size;have:=HB.out;simp;omega) ?_;intro v1 w1 hown1 hgr1 _;obtain⟨g1,cap1,rfl⟩:=qJ6 (n:=k) hown1;refine hK _ _ ?_;clear hK K;simp only[zZ];have hA3:w1.heap[A]?=some (qC1 κ n C v (nx calls) writes):=qP6 HO2.out hgr1 (θ _ hA2) (by decide);have HW3:Hid (Wr base A w w1):=((Wr.ofKp ((HK2.out.drew).alloc _) HB.out.1).grown HB.out.1 HO2.out hgr1);have HO3:Hid (w1.ownsRow base 89 129 (.slice (some ⟨g1,0,none⟩) (k+1) cap1) (k+1) (xs++X.toList)):=by
    have hz:qA1 X 0 (1*129)=X:=by have:=qR6 X;rw[hlen] at this;exact this
    rw[hz] at hown1;exact hown1
   have hA3s:=ζ hA3;have d1:=ξ hA3 1;simp at d1;have e1:=ψ hA3 1;clear hown1 hgr1;refine zu 8 (.pointer (some ⟨A,0,none⟩)) ?_;refine zu 9 (.pointer (some ⟨A,1,none⟩)) ?_;refine zQ 10 fun K hK=>?_;go_simp;refine hK _ _ ?_;clear hK K;refine wpAny_done (by kernel_rfl) ?_ _;have d3:=ξ hA3 3;simp at d3;have e3:=ψ hA3 3;have hnw:wrap64 (writes+1)=nx writes:=rfl;go_wp2;go_ret;have hKs:Kp [A] w1 ((w1.setCell ⟨A,1,none⟩ (.slice (some ⟨g1,0,none⟩) (k+1) cap1)).setCell ⟨A,3,none⟩ (.int .i64 (nx writes))):=((Kp.refl _ _).sc _).sc _;refine .inr ⟨rfl,_,?_,φ (φ hA3 1 _) 3 _,HW3.out.trans (Wr.ofKp hKs (Nat.le_trans HB.out.1 HW3.out.size))⟩;have h:=HO3.out;rw[HX.out] at h;exact qG5 h hKs (fun q hq c t fr e=>by rw[List.mem_singleton.1 hq,hA3] at e;cases e;decide)
theorem xU9(A n C:Nat)(calls writes:Int)(l:List UInt8)(w:World)(h:w.heap[A]?=some (qC1 κ n C (.slice none 0 0) calls writes))(hC:w.heap[C]?=some (.cells (enc l) 87))(hAC:C≠A):
  Calls prog 249 #[.pointer (some ⟨A,0,none⟩)] w (zO0 κ A n C (.slice none 0 0) calls writes l w):=by
 have c1:=ξ h 1;simp at c1;have f1:=ψ h 1;go_enter func249,ntmps249;go_wp2_with fail;refine (zA2 A n C _ calls writes _ h).mono ?_;rintro e w1 (⟨rfl,rfl⟩|⟨hq,rfl,rfl⟩)
 rotate_left
 ·have HE:Hid (¬κ.quiet∧((w.setCell ⟨A,2,none⟩ (.int .i64 (nx calls))).setCell ⟨A,4,none⟩ (.int .i64 (nx κ.told))).heap[A]?=some (qC1 κ.up n C (.slice none 0 0) (nx calls) writes)):=⟨hq,zD7 h⟩;clear hq h;go_wp2;go_ret;exact .inl ⟨HE.out.1,rfl,HE.out.2,zD6 A _ _ w⟩
 go_wp2;refine wp_loop_rounds 1 ?_;rw[rounds_succ];go_wp2;go_ret;have hK:Kp [A] w ((w.setCell ⟨A,2,none⟩ (.int .i64 (nx calls))).setCell ⟨A,1,none⟩ (.slice none 0 0)):=((Kp.refl _ _).sc _).sc _;exact .inr ⟨rfl,φ (φ h 2 _) 1 _,hK.heap hC (by simpa using hAC),hK.mono (by simp)⟩
theorem xU7(A n C base:Nat)(v:Value)(ws:List (Nat × List UInt8))(calls writes:Int)(l:List UInt8)(w:World)(h:w.heap[A]?=some (qC1 κ n C v calls writes))
  (hv:w.ownsRow base 89 129 v ws.length (ws.flatMap wcs)) (hws:∀ x∈ws,x.1<n∧x.2.length=128) (hwl:ws.length≤100000) (hn:n≤1000) (hC:w.heap[C]?=some (.cells (enc l) 87)) (hs:n*128≤l.length) (hAC:C≠A):
  Calls prog 249 #[.pointer (some ⟨A,0,none⟩)] w (zO0 κ A n C v calls writes (laidAll l ws) w):=by
 rcases hv.2 with⟨rfl,hl0⟩|⟨g,cap,cur,rfl,hgb,hg,hle,_,hcs,hcur⟩
 ·have e:=List.eq_nil_of_length_eq_zero hl0;subst e;exact xU9 A n C calls writes l w h hC hAC
 have HWS:=zh hws;have HCUR:=zh hcur;have HS:=zh hs;have hgA:g≠A:=by intro e;subst e;rw[h] at hg;simp[qC1] at hg
 have hgC:g≠C:=by intro e;subst e;rw[hC] at hg;simp at hg
 have hAlt:=ζ h;have hClt:=ζ hC;have hglt:=ζ hg;have HCS:Hid (ws.length*129≤cur.size):=by show _≤_;rw[hcs];exact Nat.mul_le_mul_right _ hle
 have c1:=ξ h 1;simp at c1;have f1:=ψ h 1;have HN:=zh hn;clear hv hws hcur hs hcs hle;go_enter func249,ntmps249;go_wp2_with fail;refine (zA2 A n C _ calls writes _ h).mono ?_;rintro e w1 (⟨rfl,rfl⟩|⟨hq,rfl,rfl⟩)
 rotate_left
 ·have HE:Hid (¬κ.quiet∧((w.setCell ⟨A,2,none⟩ (.int .i64 (nx calls))).setCell ⟨A,4,none⟩ (.int .i64 (nx κ.told))).heap[A]?=some (qC1 κ.up n C (.slice (some ⟨g,0,none⟩) ws.length cap) (nx calls) writes)):=⟨hq,zD7 h⟩;clear hq h;go_wp2;go_ret;exact .inl ⟨HE.out.1,rfl,HE.out.2,zD6 A _ _ w⟩
 have hA0:=φ h 2 (.int .i64 (nx calls));have hC0:=(qA9 hAC 2 (.int .i64 (nx calls))).trans hC;have hg0:=(qA9 hgA 2 (.int .i64 (nx calls))).trans hg;have hK0:Kp [A,C] w (w.setCell ⟨A,2,none⟩ (.int .i64 (nx calls))):=(Kp.refl _ _).sc _;go_wp2
 go_loopw [13] (fun i wr=>∃ (j:Nat),j≤ws.length∧i=.int .i64 j∧Hid (wr.heap[A]?=some (qC1 κ n C (.slice (some ⟨g,0,none⟩) ws.length cap) (nx calls) writes))∧Hid (wr.heap[C]?=some (.cells (enc (laidAll l (ws.take j))) 87))∧Hid (wr.heap[g]?=some (.cells cur 89))∧Hid (Kp [A,C] w wr)) (fun i _=>ws.length-(intOf i).toNat)
 case atStart=>exact⟨0,Nat.zero_le _,rfl,hA0,hC0,hg0,hK0⟩
 case round=>
  obtain⟨j,hj,rfl,HA,HC,HG,HK⟩:=hrel;clear hA0 hC0 hg0 hK0 h hC hg c1 f1;by_cases hlt:j<ws.length
  ·have hjb:(j:Int)<(ws.length:Int):=by omega
   obtain⟨hi,hbl⟩:=HWS.out ws[j] (List.getElem_mem hlt);obtain⟨X,hX⟩:∃ X,X=(wcs ws[j]).toArray:=⟨_,rfl⟩;obtain⟨i,hie⟩:∃ i,i=ws[j].1:=⟨_,rfl⟩;obtain⟨bs,hbs⟩:∃ bs,bs=enc ws[j].2:=⟨_,rfl⟩;have hsz:bs.size=128:=by rw[hbs,qD2];exact hbl
   have hby:allBytes bs:=by rw[hbs];exact qF9 _
   have hXl:X=(.int .i64 (i:Int)::bs.toList).toArray:=by rw[hX,hie,hbs];simp[wcs,enc]
   have hXs:X.size=129:=by rw[hXl];simp[hsz]
   have hX0:X[0]?=some (.int .i64 i):=by rw[hXl];rfl
   have hXp:qA1 X 1 128=bs:=by rw[hXl];simp[qA1,List.take_of_length_le,hsz]
   have hX1:∀ v∈X.toList,v.oneCell'=true:=by
    rw[hXl];intro v hv;simp at hv;rcases hv with rfl|hv
    ·rfl
    ·exact hby.one v (by simpa using hv)
   have hjm:j*129+129≤ws.length*129:=by omega
   have hcp:qA1 cur (j*129) 129=X:=by
    have hf:=zG9 wcs 129 ws (fun x hx=>by simp[wcs,zU0,(HWS.out x hx).2]) j hlt;rw[hX];unfold qA1
    congr 1
    rw[←hf,←HCUR.out,List.drop_take,List.take_take]
    congr 1
    omega
   have HSN:Hid (qD6 (enc (laidAll l (ws.take j))) (i*128) bs=enc (laidAll l (ws.take (j+1)))):=by
    show _=_;rw[hbs,hie,qW7,zI4 l ws j hlt];rfl
   have hls:n*128≤(enc (laidAll l (ws.take j))).size:=by rw[qD2];exact qQ2 n _ l HS.out (fun x hx=>HWS.out x (List.mem_of_mem_take hx))
   rw[←hie] at hi;have hcsz:=HCS.out;clear hX hie hbs hXl hbl
   go_wp2_with (
    with_reducible refine qM4 (t:=89) ?_ 129 ?_ g (j*129) ?_ cur 89 (0,0) ?_ ?_ ?_
    ·kernel_rfl
    ·kernel_rfl
    ·rfl
    ·exact HG.out
    ·omega)
   have hN:=μ wr (.cells zeroCells89 89);rw[qI9 hN (by simp[qI5,hXs]) hX1];obtain⟨W1,hW1,hK1,hA1,hC1,hG1,hT1,hs1⟩:∃ W1,W1=(wr.alloc (.cells zeroCells89 89)).setRow wr.heap.size (qD6 zeroCells89 0 X.toList.toArray)∧Kp [A,C] w W1∧
     W1.heap[A]?=some (qC1 κ n C (.slice (some ⟨g,0,none⟩) ws.length cap) (nx calls) writes)∧W1.heap[C]?=some (.cells (enc (laidAll l (ws.take j))) 87)∧W1.heap[g]?=some (.cells cur 89)∧W1.heap[wr.heap.size]?=some (.cells X 89)∧W1.heap.size=wr.heap.size+1:=
    ⟨_,rfl,(HK.out.alloc _).setRow (Or.inr HK.out.size) _,(setRow_other _ _ _ _ (Nat.ne_of_lt (ζ HA.out))).trans (θ _ HA.out),(setRow_other _ _ _ _ (Nat.ne_of_lt (ζ HC.out))).trans (θ _ HC.out),(setRow_other _ _ _ _ (Nat.ne_of_lt (ζ HG.out))).trans (θ _ HG.out),by
     rw[setRow_heap _ _ _ _ _ _ hN,qH1 (by simp[qI5,hXs])],by simp⟩
   have hA1s:=ζ HA.out;have hC1s:=ζ HC.out;rw[←hW1];clear hW1 hN;go_wp2_with fail;refine wp_region_held_drew (S:=fun W=>W.heap[A]?=some (qC1 κ n C (.slice (some ⟨g,0,none⟩) ws.length cap) (nx calls) writes)∧W.heap[wr.heap.size]?=some (.cells X 89)) (by kernel_rfl) ⟨hA1,hT1⟩ (fun _=>?_);have hSd:W1.drew.heap[A]?=some (qC1 κ n C (.slice (some ⟨g,0,none⟩) ws.length cap) (nx calls) writes)∧W1.drew.heap[wr.heap.size]?=some (.cells X 89):=⟨hA1,hT1⟩;refine zP 0 A 0 hSd ?_;refine zV 1 (.pointer (some ⟨A,0,none⟩)) rfl (fun W hS=>by have c:=ζ hS.1;clear hS;go_simp) hSd ?_;refine zP 2 A 0 hSd ?_;refine zV 3 (.slice (some ⟨C,0,none⟩) n κ.cap) rfl (fun W hS=>by have c:=ξ hS.1 0;simp at c;clear hS;go_simp) hSd ?_;refine zP 4 wr.heap.size 0 hSd ?_;refine zV 5 (.int .i64 i) rfl (fun W hS=>by have c:=ξ hS.2 0;rw[hX0] at c;clear hS;go_simp) hSd ?_;refine zP 6 wr.heap.size 1 hSd ?_;refine zV 7 (.agg bs) rfl (fun W hS=>zU6 (t:=87) rfl (by kernel_rfl) 128 (by kernel_rfl) wr.heap.size 1 rfl hS.2 (by omega) hXp) hSd ?_;refine zU 8 (.pointer (some ⟨C,i*128,none⟩)) hSd ?_;refine zq 9 fun K hK=>?_;refine xF8 rfl (zU7 (t:=87) rfl bs (by rw[hsz];kernel_rfl) C (i*128) rfl rfl (cur:=enc (laidAll l (ws.take j))) (tb:=87) hC1 (by omega) hby.one) ?_;rw[HSN.out];obtain⟨W2,hW2,hA2,hT2,hC2,hG2,hK2,hs2⟩:∃ W2,W2=W1.drew.setRow C (enc (laidAll l (ws.take (j+1))))∧W2.heap[A]?=some (qC1 κ n C (.slice (some ⟨g,0,none⟩) ws.length cap) (nx calls) writes)∧W2.heap[wr.heap.size]?=some (.cells X 89)∧W2.heap[C]?=some (.cells (enc (laidAll l (ws.take (j+1)))) 87)∧W2.heap[g]?=some (.cells cur 89)∧Kp [A,C] w W2∧W2.heap.size=wr.heap.size+1:=
    ⟨_,rfl,(setRow_other W1.drew C A _ hAC.symm).trans hA1,(setRow_other W1.drew C wr.heap.size _ (by omega)).trans hT1,setRow_heap W1.drew C _ _ _ _ hC1,(setRow_other W1.drew C g _ hgC).trans hG1,(hK1.drew).setRow (g:=C) (by simp) _,by simp[hs1]⟩
   rw[←hW2];clear hW2;refine hK.out _ _ ⟨hA2,hT2⟩ (fun _=>?_);clear hK K;refine zd ?_;simp only[zZ];have HA2:=zh hA2;have HC2:=zh hC2;have HG2:=zh hG2;have HK2:=zh hK2;clear hA1 hT1 hC1 hG1 hK1 hA2 hT2 hC2 hG2 hK2 hSd;go_wp2;exact⟨⟨j+1,by omega,by go_num,HA2,HC2,HG2,HK2⟩,by simp[intOf];omega⟩
  ·have hjb:¬(j:Int)<(ws.length:Int):=by omega
   have hje:ws.take j=ws:=List.take_of_length_le (by omega);have hCe:=HC.out;rw[hje] at hCe;have hAe:=HA.out;have hAs:=ζ hAe;have c1:=ξ hAe 1;simp at c1;have f1:=ψ hAe 1;have HAE:=zh hAe;have HCE:=zh hCe;clear hje hCe hAe;go_wp2;go_ret;exact .inr ⟨rfl,φ HAE.out 1 _,(qA9 hAC _ _).trans HCE.out,HK.out.sc _⟩
variable {κ:Kd}
theorem qL8{w:World}{a b:Nat}{c d:Array Value}{t u:TypeId}{fr gr:Nat × Nat}(ha:w.heap[a]?=some (.cells c t fr))(hb:w.heap[b]?=some (.cells d u gr))(h:t≠u):a≠b:=fun e=>by
 rw[e,hb] at ha;cases ha;exact h rfl
def qZ8:List TypeId:=[72,186,87,89,314,330]
def qS1(w:World)(L:List Nat):Prop:=∀ k∈L,∀ c t fr,w.heap[k]?=some (.cells c t fr)→t ∉ qZ8
structure Dk(κ:Kd)(V A N C base:Nat)(l:List UInt8)(ws:List (Nat × List UInt8))(wr:Int)(w:World):Prop where
 hV:w.heap[V]?=some (qC8 A N)
 hA:∃ v calls,w.heap[A]?=some (qC1 κ N C v calls wr)∧w.ownsRow base 89 129 v ws.length (ws.flatMap wcs)∧(ws=[]→v=.slice none 0 0)
 hC:w.heap[C]?=some (.cells (enc l) 87)
 gl:κ.quiet∨Gl w
 low:base≤w.heap.size
 fit:∀ x∈ws,x.1<N∧x.2.length=128
 wl:ws.length≤100000
 len:N*128≤l.length
 N1:N≤1000
section
variable {V A N C base:Nat} {l:List UInt8} {ws:List (Nat × List UInt8)} {wr:Int} {w w':World}
theorem Dk.AC(h:Dk κ V A N C base l ws wr w):C≠A:=by obtain⟨v,c,h1,_⟩:=h.hA;exact qL8 h.hC h1 (by decide)
theorem Dk.VA(h:Dk κ V A N C base l ws wr w):V≠A:=by obtain⟨v,c,h1,_⟩:=h.hA;exact qL8 h.hV h1 (by decide)
theorem Dk.VC(h:Dk κ V A N C base l ws wr w):V≠C:=qL8 h.hV h.hC (by decide)
theorem Dk.sA(h:Dk κ V A N C base l ws wr w):A<w.heap.size:=by obtain⟨v,c,h1,_⟩:=h.hA;exact ζ h1
theorem Dk.keep{L:List Nat}(h:Dk κ V A N C base l ws wr w)(hK:Kp L w w')(hL:qS1 w L):Dk κ V A N C base l ws wr w':=by
 obtain⟨v,c,h1,h2,h3⟩:=h.hA;exact⟨hK.heap h.hV (fun hm=>hL _ hm _ _ _ h.hV (by decide)),⟨v,c,hK.heap h1 (fun hm=>hL _ hm _ _ _ h1 (by decide)),qG5 h2 hK (fun q hq c t fr e hm=>hL q hq c t fr e (by rw[List.mem_singleton.1 hm];decide)),h3⟩,hK.heap h.hC (fun hm=>hL _ hm _ _ _ h.hC (by decide)),h.gl.imp_right (fun g=>g.keep hK (fun k hk c t fr e hm=>hL k hk c t fr e (by simp[xF9] at hm;rcases hm with rfl | rfl<;>decide))),Nat.le_trans h.low hK.size,h.fit,h.wl,h.len,h.N1⟩
theorem Dk.keep0(h:Dk κ V A N C base l ws wr w)(hK:Kp [] w w'):Dk κ V A N C base l ws wr w':=h.keep hK (by intro k hk;cases hk)
theorem Dk.turn{κ':Kd}{v:Value}{calls' wr':Int}(h:Dk κ V A N C base l ws wr w)(hq:κ'.quiet↔κ.quiet)(hK:Kp [A] w w')(h1:w'.heap[A]?=some (qC1 κ' N C v calls' wr'))(h2:w'.ownsRow base 89 129 v ws.length (ws.flatMap wcs))(h3:ws=[]→v=.slice none 0 0):Dk κ' V A N C base l ws wr' w':=by
 obtain⟨v0,c0,g1,g2,_⟩:=h.hA;exact⟨hK.heap h.hV (by simpa using h.VA),⟨v,calls',h1,h2,h3⟩,hK.heap h.hC (by simpa using h.AC),h.gl.imp hq.2 (fun g=>g.keep hK (fun k hk c t fr e hm=>by rw[List.mem_singleton.1 hk,g1] at e;cases e;revert hm;decide)),Nat.le_trans h.low hK.size,h.fit,h.wl,h.len,h.N1⟩
theorem zC2{v:Value}{n:Nat}{xs:List Value}{calls:Int}{v0:Value}(h:w.ownsRow base 89 129 v n xs)(hA:w.heap[A]?=some (qC1 κ N C v0 calls wr))(hK:Kp [A] w w'):w'.ownsRow base 89 129 v n xs:=
 qG5 h hK (fun q hq c t fr e=>by rw[List.mem_singleton.1 hq,hA] at e;cases e;decide)
end
theorem zJ6{V A N C base:Nat}{l:List UInt8}{ws:List (Nat × List UInt8)}{wr:Int}{w:World}(hd:Dk κ V A N C base l ws wr w)(i:Nat)(hi:i<N):
  Calls prog 151 #[.pointer (some ⟨V,0,none⟩),.int .i64 i] w fun e w'=>((Io κ e∧Dk κ.up V A N C base l ws wr w')∨(e=.returned (.agg (enc (χ (laidAll l ws) i)))∧Dk κ V A N C base l ws wr w'))∧Kp [A] w w':=by
 obtain⟨v,calls,hA0,hO0,hN0⟩:=hd.hA;have hl2:N*128≤(laidAll l ws).length:=qQ2 N ws l hd.len hd.fit;have hbl:(χ (laidAll l ws) i).length=128:=zF4 hl2 hi;have HD:=zh hd;have HREAD:Hid (∀ W,Kp [] w W→Calls prog 250 #[.pointer (some ⟨A,0,none⟩),.int .i64 i] W (zO4 κ A N C v calls wr (laidAll l ws) i W)):=fun W hK=>
  jQ6 A N C base v ws calls wr i l W (hK.hp hA0) (qG5 hO0 hK (Apt.nil _ _)) hd.fit hd.wl hi hd.N1 (hK.hp hd.hC) hd.len hd.AC
 have HFIN:Hid (∀ κ' W c,(κ'.quiet↔κ.quiet)→Kp [A] w W→W.heap[A]?=some (qC1 κ' N C v c wr)→Dk κ' V A N C base l ws wr W):=fun κ' W c hq hK h1=>hd.turn hq hK h1 (zC2 hO0 hA0 hK) hN0;have HITOA:Hid (¬κ.quiet→∀ W,Kp [A] w W→Gl W):=fun hq W hK=>by
  rcases hd.gl with h|h
  ·exact absurd h hq
  ·exact h.keep hK (fun k hk c t fr e hm=>by rw[List.mem_singleton.1 hk,hA0] at e;cases e;revert hm;decide)
 have c0:=ξ hd.hV 0;simp at c0;have hVs:=ζ hd.hV;have hA:=ζ hA0;have hi1:i≤1000000:=by have:=hd.N1;omega
 generalize laidAll l ws=L at *;clear hA0 hO0 hN0 hd hl2;go_enter func151,ntmps151;go_wp2_with fail;refine (HREAD.out _ ((Kp.refl _ _).alloc _)).mono ?_;rintro e w1 ⟨(⟨hq,rfl,hA1⟩|⟨g,rfl,hg,hG,hA1⟩),hK1⟩
 ·have hK2:Kp [A] w w1:=((Kp.refl _ _).alloc _).tr hK1;have hGl:=HITOA.out hq w1 hK2;have HE:Hid (¬κ.quiet∧Dk κ.up V A N C base l ws wr w1):=⟨hq,HFIN.out κ.up w1 _ Kd.up_quiet hK2 hA1⟩;unfold qP5;clear hA1 hq hK1 c0;go_wp2_with fail;refine (zY0 i hi1 w1 hGl.is).mono ?_;rintro e w2 ⟨s,rfl,hss,hK3⟩;have hGl2:=hGl.keep hK3 (by intro k hk;cases hk);go_wp2_with fail;refine (show Calls _ _ _ _ _ from zG5 _ w2 hGl2).mono ?_;rintro e w3 ⟨⟨p,rfl⟩,hK4⟩;go_wp2;have hKK:=hK3.tr hK4;exact⟨rfl,.inl ⟨⟨HE.out.1,p,rfl⟩,HE.out.2.keep0 hKK⟩,hK2.tr hKK⟩
 obtain⟨bl,hb0⟩:∃ bl,χ L i=bl:=⟨_,rfl⟩;rw[hb0] at hG hbl;have HB:=zh hb0;clear hb0;have hR:w1.heap[w.heap.size]?=some (.cells zeroCells223 223):=hK1.heap (μ _ _) (by simp;omega);have hK2:Kp [A] w w1:=((Kp.refl _ _).alloc _).tr hK1;have hgs:w.heap.size+1≤g:=by simpa using hg
 have hg1:=ζ hG;have hA1s:=ζ hA1;clear hK1 hg c0;go_wp2_with fail;have hN:=μ w1 (.cells zeroCells223 223);rw[qO5 (n:=128) 3 underlying90 Tryz.size5 rfl hN (θ _ hG) (by simp[qF5]) (by rw[qD2];omega) (qO6 (qF9 _) _ _).one];rw[qI8,List.drop_zero,List.take_of_length_le (by omega),qH1 (by rw[qF5,qD2,hbl])];obtain⟨W2,hW2,hK3,hA3,hR3,hB3⟩:∃ W2,W2=(w1.alloc (.cells zeroCells223 223)).setRow w1.heap.size (enc bl)∧Kp [A] w W2∧W2.heap[A]?=some (qC1 κ N C v (nx calls) wr)∧
   W2.heap[w.heap.size]?=some (.cells zeroCells223 223)∧W2.heap[w1.heap.size]?=some (.cells (enc bl) 223):=
  ⟨_,rfl,(hK2.alloc _).setRow (Or.inr hK2.size) _,(setRow_other _ _ _ _ (by omega)).trans (θ _ hA1),(setRow_other _ _ _ _ (by omega)).trans (θ _ hR),setRow_heap _ _ _ _ _ _ hN⟩
 rw[←hW2];clear hW2 hN;have hpp:qA1 (enc bl) 0 128=enc bl:=by rw[qI8,List.drop_zero,List.take_of_length_le (by omega)]
 have hes:(enc bl).size=128:=by rw[qD2,hbl]
 go_wp2_with (
  with_reducible refine qM4 (t:=223) ?_ 128 ?_ w1.heap.size 0 ?_ (enc bl) 223 (0,0) ?_ ?_ ?_
  ·kernel_rfl
  ·kernel_rfl
  ·rfl
  ·exact hB3
  ·rw[qD2];omega)
 rw[qI9 hR3 (by simp[qF5,hes]) (qF9 bl).one];rw[show (enc bl).toList.toArray=enc bl from by simp,qH1 (by rw[qF5,hes])];obtain⟨W3,hW3,hK4,hA4,hR4⟩:∃ W3,W3=W2.setRow w.heap.size (enc bl)∧Kp [A] w W3∧W3.heap[A]?=some (qC1 κ N C v (nx calls) wr)∧W3.heap[w.heap.size]?=some (.cells (enc bl) 223):=
  ⟨_,rfl,hK3.setRow (by simp) _,(setRow_other _ _ _ _ (by omega)).trans hA3,setRow_heap _ _ _ _ _ _ hR3⟩
 rw[←hW3];clear hW3;go_wp2_with fail;exact bodyPost_ret (results_cell_row results151 _ _ w.heap.size _ _ _ _ rfl hR4 underlying223 rfl (by rw[hes];kernel_rfl)) rfl ⟨.inr ⟨by rw[HB.out],HFIN.out κ W3 _ Iff.rfl hK4 hA4⟩,hK4⟩
theorem zM0{V A N C base:Nat}{l:List UInt8}{ws:List (Nat × List UInt8)}{wr:Int}{w:World}(hd:Dk κ V A N C base l ws wr w):
  Calls prog 76 #[.pointer (some ⟨V,0,none⟩)] w fun e w'=>(Io κ e∧Dk κ.up V A N C base l ws wr w'∧Kp [A] w w')∨(e=.returned (.tuple #[])∧Dk κ V A N C base (laidAll l ws) [] wr w'∧Kp [A,C] w w'):=by
 obtain⟨v,calls,hA0,hO0,hN0⟩:=hd.hA;have HD:=zh hd;have HFL:=Hid.mk' (xU7 A N C base v ws calls wr l w hA0 hO0 hd.fit hd.wl hd.N1 hd.hC hd.len hd.AC);have HFIN:Hid (∀ κ' W c,(κ'.quiet↔κ.quiet)→Kp [A] w W→W.heap[A]?=some (qC1 κ' N C v c wr)→Dk κ' V A N C base l ws wr W):=fun κ' W c hq hK h1=>hd.turn hq hK h1 (zC2 hO0 hA0 hK) hN0;have HITOA:Hid (¬κ.quiet→∀ W,Kp [A] w W→Gl W):=fun hq W hK=>by
  rcases hd.gl with h|h
  ·exact absurd h hq
  ·exact h.keep hK (fun k hk c t fr e hm=>by rw[List.mem_singleton.1 hk,hA0] at e;cases e;revert hm;decide)
 have HDONE:Hid (∀ W,Kp [A,C] w W→W.heap[A]?=some (qC1 κ N C (.slice none 0 0) (nx calls) wr)→W.heap[C]?=some (.cells (enc (laidAll l ws)) 87)→Dk κ V A N C base (laidAll l ws) [] wr W):=fun W hK h1 h2=>by
  exact⟨hK.heap hd.hV (by simpa using⟨hd.VA,hd.VC⟩),⟨_,_,h1,World.ownsRow_nil _ _ _ _,fun _=>rfl⟩,h2,hd.gl.imp_right (fun g=>g.keep hK (fun k hk c t fr e hm=>by
   simp at hk;rcases hk with rfl|rfl
   ·rw[hA0] at e;cases e;revert hm;decide
   ·rw[hd.hC] at e;cases e;revert hm;decide)),Nat.le_trans hd.low hK.size,by simp,by simp,qQ2 N ws l hd.len hd.fit,hd.N1⟩
 have c0:=ξ hd.hV 0;simp at c0;clear hA0 hO0 hN0 hd;go_enter func76,ntmps76;go_wp2_with fail;refine (HFL.out).mono ?_;rintro e w1 (⟨hq,rfl,hA1,hK1⟩|⟨rfl,hA1,hC1,hK1⟩)
 ·have hGl:=HITOA.out hq w1 hK1;have HE:Hid (¬κ.quiet∧Dk κ.up V A N C base l ws wr w1):=⟨hq,HFIN.out κ.up w1 _ Kd.up_quiet hK1 hA1⟩;have HF:=Hid.mk' (fun s=>zG5 s w1 hGl);unfold qP5 at HF ⊢;clear hA1 hq c0;go_wp2_with fail;refine (show Calls _ _ _ _ _ from HF.out _).mono ?_;rintro e w3 ⟨⟨p,rfl⟩,hK4⟩;go_wp2;exact⟨rfl,.inl ⟨⟨HE.out.1,p,rfl⟩,HE.out.2.keep0 hK4,hK1.tr hK4⟩⟩
 have HE:=Hid.mk' (HDONE.out w1 hK1 hA1 hC1);clear hA1 hC1 c0;go_wp2
 go_end0
 exact .inr ⟨rfl,HE.out,hK1⟩
variable {κ:Kd}
theorem xF1{V A N C base:Nat}{l:List UInt8}{ws:List (Nat × List UInt8)}{wr:Int}{w:World}(hd:Dk κ V A N C base l ws wr w)(i:Nat)(hi:i<N)(bl:List UInt8)(hbl:bl.length=128)(hwl:ws.length<100000):
  Calls prog 136 #[.pointer (some ⟨V,0,none⟩),.int .i64 i,.agg (enc bl)] w fun e w'=>((Io κ e∧Dk κ.up V A N C base l ws wr w')∨(e=.returned (.tuple #[])∧Dk κ V A N C base l (ws++[(i,bl)]) (nx wr) w'))∧Wr base A w w':=by
 obtain⟨v,calls,hA0,hO0,hN0⟩:=hd.hA;have HD:=zh hd;have hes:(enc bl).size=128:=by rw[qD2,hbl]
 have hpp:qA1 (enc bl) 0 128=enc bl:=by rw[qI8,List.drop_zero,List.take_of_length_le (by omega)]
 have hfl:List.flatMap wcs [(i,bl)]=.int .i64 (i:Int)::(enc bl).toList:=by simp[wcs,enc]
 have HWRITE:Hid (∀ W B,Kp [] w W→W.heap[B]?=some (.cells (enc bl) 223)→w.heap.size≤B→Calls prog 251 #[.pointer (some ⟨A,0,none⟩),.int .i64 i,.slice (some ⟨B,0,none⟩) 128 128] W fun e w'=>∃ ev,e=.returned ev∧((¬κ.quiet∧ev=qP5∧Dk κ.up V A N C base l ws wr w')∨(ev=.nilIface∧Dk κ V A N C base l (ws++[(i,bl)]) (nx wr) w'))∧Wr base A w w'):=fun W B hK hB hBs=>by
  have hAW:=hK.hp hA0;have hOW:=qG5 hO0 hK (Apt.nil _ _);have hdW:=hd.keep0 hK;refine (jZ4 A N C v base ws.length (ws.flatMap wcs) calls wr i B 0 128 (enc bl) 223 W hAW hi hd.N1 hB (by omega) (qF9 bl) (by have:=ζ hA0;omega) hOW hdW.low hd.wl).mono ?_;rintro e w' (⟨hq,rfl,h1,hK1⟩|⟨rfl,v',h1,h2,hW⟩)
  ·exact⟨_,rfl,.inl ⟨hq,rfl,hdW.turn Kd.up_quiet hK1 h1 (zC2 hOW hAW hK1) hN0⟩,(Wr.ofKp (hK.mono (by simp)) hd.low).trans (Wr.ofKp hK1 hdW.low)⟩
  ·refine⟨_,rfl,.inr ⟨rfl,?_⟩,(Wr.ofKp (hK.mono (by simp)) hd.low).trans hW⟩;rw[hpp] at h1;refine⟨hW.oth _ _ _ _ hdW.hV (by decide) hd.VA,⟨v',_,h2,by rw[List.length_append,List.flatMap_append,hfl];exact h1,by simp⟩,hW.oth _ _ _ _ hdW.hC (by decide) hd.AC,?_,Nat.le_trans hdW.low hW.size,?_,by simp;omega,hd.len,hd.N1⟩
   ·refine hdW.gl.imp_right (fun g=>?_);obtain⟨fr,g1⟩:=g.tab;obtain⟨c,fr2,s,g2,g3⟩:=g.word;exact⟨⟨fr,hW.oth _ _ _ _ g1 (by decide) (qL8 g1 hAW (by decide))⟩,⟨c,fr2,s,hW.oth _ _ _ _ g2 (by decide) (qL8 g2 hAW (by decide)),g3⟩⟩
   ·intro x hx;rcases List.mem_append.1 hx with hx|hx
    ·exact hd.fit x hx
    ·rw[List.mem_singleton.1 hx];exact⟨hi,hbl⟩
 have HLOW:=zh hd.low;have HGL:=zh hd.gl;have hVs:=ζ hd.hV;have hA:=ζ hA0;have hV0:=hd.hV;have hi1:i≤1000000:=by have:=hd.N1;omega
 have hm:∀ W:World,(method 445 23 (.pointer (some ⟨A,0,none⟩)) "Write").run prog W=.ok (251,.pointer (some ⟨A,0,none⟩)) W:=fun _=>by kernel_rfl
 clear hA0 hO0 hN0 hd hfl hpp;go_enter func136,ntmps136;go_wp2_with fail;obtain⟨W1,hW1,hB1,hK1,hsz⟩:=qE8 w (.cells (enc bl) 223);rw[←hW1];clear hW1;have hV1:=hK1.hp hV0;have c0:=ξ hV1 0;simp at c0;clear hV0
 go_region_with (go_at_call 251;go_must (refine (HWRITE.out W1.drew w.heap.size hK1.drew hB1 (Nat.le_refl _)).mono ?_);rintro e w2 ⟨ev,rfl,hres,hW2⟩)
 rcases hres with⟨hq,rfl,hD2⟩|⟨rfl,hD2⟩
 ·have hGl:Gl w2:=hD2.gl.resolve_left (fun h=>hq (Kd.up_quiet.1 h));have HE:Hid (¬κ.quiet∧Dk κ.up V A N C base l ws wr w2∧Wr base A w w2):=⟨hq,hD2,hW2⟩;unfold qP5;clear hq hD2 hW2 c0;go_wp2_with fail;refine (zY0 i hi1 w2 hGl.is).mono ?_;rintro e w3 ⟨s,rfl,hss,hK3⟩;have hGl2:=hGl.keep hK3 (by intro k hk;cases hk);go_wp2_with fail;refine (show Calls _ _ _ _ _ from zG5 _ w3 hGl2).mono ?_;rintro e w4 ⟨⟨p,rfl⟩,hK4⟩;go_wp2;have hKK:=hK3.tr hK4;exact⟨rfl,.inl ⟨⟨HE.out.1,p,rfl⟩,HE.out.2.1.keep0 hKK⟩,HE.out.2.2.trans (Wr.ofKp (hKK.mono (by simp)) HE.out.2.1.low)⟩
 have HE:Hid (Dk κ V A N C base l (ws++[(i,bl)]) (nx wr) w2∧Wr base A w w2):=⟨hD2,hW2⟩;clear hD2 hW2 c0;go_wp2
 go_end0
 exact⟨.inr ⟨rfl,HE.out.1⟩,HE.out.2⟩
variable {κ:Kd}
theorem jJ2{V A N C base:Nat}{l:List UInt8}{ws:List (Nat × List UInt8)}{wr:Int}(i:Nat)(q:Nat)(lv:Int)(vp vl:Value)(ps:List KV)(hs:List HL)(w:World)
  (hq:w.heap[q]?=some (υ lv vp vl)) (hl0:0≤lv) (hl1:lv<256)
  (hsp:Slc w 158 2 vp ps.length (qB0 ps)) (hsl:Slc w 81 4 vl hs.length (qA7 hs)) (hm:2+meas ρ ps+meas qA0 hs≤128) (hc:ps.length+hs.length≤255)
  (hzp:∀ p∈ps,qD0 p) (hzl:∀ p∈hs,p.key.size≤8∧0≤p.b∧p.b≤1000000∧0≤p.s)
  (hd:Dk κ V A N C base l ws wr w) (hwl:ws.length<100000) (hi:i<N):
  Calls prog 149 #[.pointer (some ⟨q,0,none⟩),.pointer (some ⟨V,0,none⟩),.int .i64 i] w fun e w'=>((Io κ e∧Dk κ.up V A N C base l ws wr w')∨(e=.returned (.agg #[.int .i64 i,.int .u64 (fnv (qA2 lv ps hs))])∧
   Dk κ V A N C base l (ws++[(i,toB (qA2 lv ps hs))]) (nx wr) w'))∧Wr base A w w':=by
 have hby:=qK3 lv ps hs hl0 hl1 hc hzp (fun p hp=>(hzl p hp).1);have hbl:=qP0 lv ps hs hm;have HBLK:Hid (∀ W,Kp [] w W→Calls prog 182 #[.pointer (some ⟨q,0,none⟩)] W fun e w'=>e=.returned (.agg (u8s (qA2 lv ps hs)).toArray)∧Kp [] W w'):=fun W hK=>
  zF6 q lv vp vl ps hs W (hK.hp hq) hl0 hl1 (hsp.keep0 hK) (hsl.keep0 hK) hm hc hzp hzl
 obtain⟨xs,hxs⟩:∃ xs,xs=qA2 lv ps hs:=⟨_,rfl⟩;rw[←hxs] at hby hbl HBLK;have HG:=zh hxs;rw[←hxs];have HBY:=zh hby;have HD:=zh hd;have hAlt:=hd.sA;have hVlt:=ζ hd.hV;have hb:=hd.low;clear hq hsp hsl hm hc hzp hzl hby hd hl0 hl1 hxs;have hes:(u8s xs).toArray=enc (toB xs):=by unfold enc;rw[zU1 xs HBY.out]
 rw[hes] at HBLK;clear hes;go_enter func149,ntmps149;go_wp2_with fail;obtain⟨w0,hw0,hR0,hK0,hs0⟩:=qE8 w (.cells #[.int .i64 0,.int .u64 0] 78);rw[←hw0];clear hw0;refine (HBLK.out w0 hK0).mono ?_;rintro e w1 ⟨rfl,hK1⟩;have hKw1:Kp [] w w1:=hK0.tr hK1;have hR1:=hK1.hp hR0;have hs1:=hK1.size;clear hK1 hR0 hK0 HBLK;have hles:(enc (toB xs)).size=128:=by rw[qD2,qG6,hbl]
 go_wp2_with fail;have hN:=μ w1 (.cells zeroCells223 223);rw[qI9 hN (by simp[qF5,hles]) (qF9 _).one];rw[show (enc (toB xs)).toList.toArray=enc (toB xs) from by simp,qH1 (by rw[qF5,hles])];obtain⟨w2,hw2,hB2,hR2,hKw2,hs2⟩:∃ w2,w2=(w1.alloc (.cells zeroCells223 223)).setRow w1.heap.size (enc (toB xs))∧w2.heap[w1.heap.size]?=some (.cells (enc (toB xs)) 223)∧w2.heap[w.heap.size]?=some (.cells #[.int .i64 0,.int .u64 0] 78)∧Kp [] w w2∧w2.heap.size=w1.heap.size+1:=
  ⟨_,rfl,setRow_heap _ _ _ _ _ _ hN,(setRow_other _ _ _ _ (by omega)).trans (θ _ hR1),(hKw1.alloc _).setRow (Or.inr (by have:=hKw1.size;omega)) _,by simp⟩
 rw[←hw2];clear hw2 hN hR1;have hpp:qA1 (enc (toB xs)) 0 128=enc (toB xs):=by rw[qI8,List.drop_zero,List.take_of_length_le (by rw[qG6];omega)]
 go_wp2_with (
  with_reducible refine qM4 (t:=223) ?_ 128 ?_ w1.heap.size 0 ?_ (enc (toB xs)) 223 (0,0) ?_ ?_ ?_
  ·kernel_rfl
  ·kernel_rfl
  ·rfl
  ·exact hB2
  ·omega)
 refine (xF1 (HD.out.keep0 hKw2) i hi (toB xs) (by rw[qG6,hbl]) hwl).mono ?_;rintro e w3 ⟨(⟨hio,hD3⟩|⟨rfl,hD3⟩),hW3⟩
 ·obtain⟨hnq,p,rfl⟩:=hio;go_wp2;exact⟨rfl,.inl ⟨⟨hnq,p,rfl⟩,hD3⟩,(Wr.ofKp (hKw2.mono (by simp)) hb).trans hW3⟩
 have hAw:w2.heap.size=w1.heap.size+1:=hs2;have hB3:=hW3.oth _ _ _ _ hB2 (by decide) (by omega);have hR3:=hW3.oth _ _ _ _ hR2 (by decide) (by omega);have HD3:=zh hD3;have HW3:Hid (Wr base A w w3):=(Wr.ofKp (hKw2.mono (by simp)) hb).trans hW3;have hR3s:=ζ hR3;have hB3s:=ζ hB3;clear hD3 hW3 hB2 hR2 hpp hKw2 hKw1;go_wp2_with fail;refine (qV2 w1.heap.size 0 128 128 xs w3 hbl (by omega) (fun j hj=>?_)).mono ?_
 ·rw[ξ hB3];unfold enc;rw[←zE2 xs HBY.out];simp only[Nat.zero_add,zG,u8s,List.getElem?_map,List.getD];rw[List.getElem?_eq_getElem (by omega)];rfl
 rintro e w4 ⟨rfl,rfl⟩;have r0:=ξ hR3;have fr0:=ψ hR3;have HR3:=zh hR3;clear hR3 hB3;go_wp2;have hK5:Kp [w.heap.size] w4 ((w4.setCell ⟨w.heap.size,0,none⟩ (.int .i64 (i:Int))).setCell ⟨w.heap.size,1,none⟩ (.int .u64 (fnv xs))):=((Kp.refl _ _).sc _).sc _;have hR5:=φ (φ HR3.out 0 (.int .i64 (i:Int))) 1 (.int .u64 (fnv xs));refine bodyPost_ret (results_cell_row results149 _ _ w.heap.size 78 #[.int .i64 (i:Int),.int .u64 (fnv xs)] (0,0) _ rfl hR5 underlying78 rfl (by kernel_rfl)) rfl ⟨.inr ⟨rfl,HD3.out.keep hK5 (fun q hq c t fr e=>by rw[List.mem_singleton.1 hq,HR3.out] at e;cases e;decide)⟩,HW3.out.tail hK5 (by simp) hb⟩
variable {κ:Kd}
structure LyF(κ:Kd)(wn:Int)(V A N C base F:Nat)(l:List UInt8)(ws:List (Nat × List UInt8))(fr:List Nat)(w:World):Prop where
 dk:Dk κ V A N C base l ws (nk wn ws.length) w
 hF:∃ vf,w.heap[F]?=some (.cells #[vf] 22)∧Slc w 3 1 vf fr.length (ints fr)
def LyX(κ:Kd)(wn:Int)(V A N C base:Nat)(l:List UInt8)(ws:List (Nat × List UInt8))(fr:List Nat)(k:Nat)(e:Ending)(w:World):Prop:=
 Io κ e∧∃ ws',Dk κ.up V A N C base l ws' (nk wn ws'.length) w∧(∀ x∈ws',x∈ws∨x.1∈fr)∧ws'.length≤ws.length+k
section
variable {wn:Int} {V A N C base F:Nat} {l:List UInt8} {ws:List (Nat × List UInt8)} {fr:List Nat} {w w':World}
theorem LyF.low(h:LyF κ wn V A N C base F l ws fr w):base≤w.heap.size:=h.dk.low
theorem LyF.sF(h:LyF κ wn V A N C base F l ws fr w):F<w.heap.size:=by obtain⟨vf,h1,_⟩:=h.hF;exact ζ h1
theorem LyF.keep(h:LyF κ wn V A N C base F l ws fr w)(hK:Kp [] w w'):LyF κ wn V A N C base F l ws fr w':=by
 obtain⟨vf,h3,h4⟩:=h.hF;exact⟨h.dk.keep0 hK,⟨vf,hK.hp h3,h4.keep0 hK⟩⟩
theorem LyF.turn{S:List Nat}(h:LyF κ wn V A N C base F l ws fr w)(hK:Kp S w w')(hS:Apt w S (qZ8++[22,3])):LyF κ wn V A N C base F l ws fr w':=by
 obtain⟨vf,h3,h4⟩:=h.hF;exact⟨h.dk.keep hK (fun k hk c t fr e hm=>hS k hk c t fr e (List.mem_append_left _ hm)),⟨vf,hK.heap h3 (fun hm=>hS _ hm _ _ _ h3 (by decide)),h4.keep hK (hS.sub (by decide))⟩⟩
theorem LyF.apt(h:LyF κ wn V A N C base F l ws fr w):Apt w [A,F] qF8:=fun q hq c t f e=>by
 obtain⟨v,calls,h1,h2,_⟩:=h.dk.hA;obtain⟨vf,h3,h4⟩:=h.hF;rcases List.mem_cons.1 hq with rfl|hq
 ·rw[h1] at e;cases e;decide
 ·rw[List.mem_singleton.1 hq,h3] at e;cases e;decide
end
theorem LyF.next{wn:Int}{V A N C base F b:Nat}{l:List UInt8}{ws:List (Nat × List UInt8)}{fr:List Nat}{w:World}(h:LyF κ wn V A N C base F l ws (b::fr) w)(hl:fr.length≤100000):
  Calls prog 107 #[.pointer (some ⟨F,0,none⟩)] w fun e w'=>e=.returned (.int .i64 b)∧LyF κ wn V A N C base F l ws fr w'∧Wx base [A,F] w w':=by
 obtain⟨vf,h3,h4⟩:=h.hF;refine (jJ1 F b fr vf w h3 h4 hl).mono ?_;rintro e w' ⟨rfl,v',h5,h6,hK⟩;exact⟨rfl,⟨h.dk.keep hK (fun q hq c t fr e=>by rw[List.mem_singleton.1 hq,h3] at e;cases e;decide),⟨v',h5,h6⟩⟩,Wx.ofKp (hK.mono (by simp)) h.low⟩
theorem LyF.lay{wn:Int}{V A N C base F i:Nat}{l:List UInt8}{ws:List (Nat × List UInt8)}{fr:List Nat}{w:World}(h:LyF κ wn V A N C base F l ws fr w)(hwl:ws.length<100000)(hi:i<N)
  (q:Nat) (lv:Int) (vp vl:Value) (ps:List KV) (hs:List HL) (hq:w.heap[q]?=some (υ lv vp vl)) (hl0:0≤lv) (hl1:lv<256)
  (hsp:Slc w 158 2 vp ps.length (qB0 ps)) (hsl:Slc w 81 4 vl hs.length (qA7 hs)) (hm:2+meas ρ ps+meas qA0 hs≤128) (hc:ps.length+hs.length≤255)
  (hzp:∀ p∈ps,qD0 p) (hzl:∀ p∈hs,p.key.size≤8∧0≤p.b∧p.b≤1000000∧0≤p.s):
  Calls prog 149 #[.pointer (some ⟨q,0,none⟩),.pointer (some ⟨V,0,none⟩),.int .i64 i] w fun e w'=>((Io κ e∧Dk κ.up V A N C base l ws (nk wn ws.length) w')∨(e=.returned (.agg #[.int .i64 i,.int .u64 (fnv (qA2 lv ps hs))])∧
   LyF κ wn V A N C base F l (ws++[(i,toB (qA2 lv ps hs))]) fr w'))∧Wx base [A,F] w w':=by
 obtain⟨vf,h3,h4⟩:=h.hF;obtain⟨v,calls,h1,_⟩:=h.dk.hA;refine (jJ2 i q lv vp vl ps hs w hq hl0 hl1 hsp hsl hm hc hzp hzl h.dk hwl hi).mono ?_;rintro e w' ⟨(⟨hio,hD⟩|⟨rfl,hD⟩),hW⟩
 ·exact⟨.inl ⟨hio,hD⟩,Wx.of hW (by simp)⟩
 have hFA:F≠A:=qL8 h3 h1 (by decide);refine⟨.inr ⟨rfl,⟨by rw[List.length_append];exact hD,⟨vf,hW.oth _ _ _ _ h3 (by decide) hFA,h4.len,?_⟩⟩⟩,Wx.of hW (by simp)⟩;rcases h4.val with h7|⟨g,off,cap,cur,f',k1,k2,k3,k4,k5⟩
 ·exact Or.inl h7
 ·exact Or.inr ⟨g,off,cap,cur,f',k1,k2,k3,hW.oth _ _ _ _ k4 (by decide) (qL8 k4 h1 (by decide)),k5⟩
theorem LyX.of{wn:Int}{V A N C base:Nat}{l:List UInt8}{ws ws1:List (Nat × List UInt8)}{fr:List Nat}{k:Nat}{e:Ending}{w:World}(hio:Io κ e)(hD:Dk κ.up V A N C base l ws1 (nk wn ws1.length) w)(hx:∀ x∈ws1,x∈ws∨x.1∈fr)(hl:ws1.length≤ws.length+k):LyX κ wn V A N C base l ws fr k e w:=⟨hio,ws1,hD,hx,hl⟩
theorem LyX.weak{wn:Int}{V A N C base:Nat}{l:List UInt8}{ws ws1:List (Nat × List UInt8)}{fr fr1:List Nat}{k k1:Nat}{e:Ending}{w:World}(h:LyX κ wn V A N C base l ws1 fr1 k1 e w)(hx:∀ x∈ws1,x∈ws∨x.1∈fr)(hf:∀ b∈fr1,b∈fr)(hl:ws1.length+k1≤ws.length+k):LyX κ wn V A N C base l ws fr k e w:=by
 obtain⟨h1,ws',h2,h3,h4⟩:=h;exact⟨h1,ws',h2,fun x hx'=>(h3 x hx').elim (hx x) (fun g=>.inr (hf _ g)),by omega⟩
theorem jF9(wn:Int)(V A N C base F:Nat)(l:List UInt8)(ws:List (Nat × List UInt8))(fr:List Nat)(b:Nat)(r h:HL)(q:Nat)(O:qE1)(L:Lnk (Tn 0))(w:World)(hy:LyF κ wn V A N C base F l ws (b::fr) w)(hb:b<N)(hwl:ws.length<100000)(hfl:fr.length≤100000)(hp:h.p=some q)(hq:RN O 0 w q L.sub)
  (hz:∀ p∈prs L.sub,qD0 p) (hm:2+meas ρ (prs L.sub)≤128) (hn:(prs L.sub).length≤126):
  Calls prog 106 #[τ V r,qC2 h,.func (.func 107) #[] #[.pointer (some ⟨F,0,none⟩)]] w fun e w'=>(LyX κ wn V A N C base l ws (b::fr) 1 e w'∨(e=.returned (qC2 ⟨h.key,(b:Int),fnv (qA2 0 (prs L.sub) []),none⟩)∧
   LyF κ wn V A N C base F l (ws++[(b,toB (qA2 0 (prs L.sub) []))]) fr w'))∧Wx base [A,F] w w':=by
 obtain⟨vp,hq,hsp⟩:=hq;obtain⟨pb,pc,rfl⟩:=qM0 hsp;obtain⟨pn,hpn⟩:∃ pn,pn=(prs L.sub).length:=⟨_,rfl⟩;obtain⟨lv,hlv⟩:∃ lv:Int,lv=0:=⟨_,rfl⟩;obtain⟨vl,hvl⟩:∃ vl,vl=Value.slice none 0 0:=⟨_,rfl⟩;rw[←hlv,←hvl,←hpn] at hq;rw[←hpn] at hsp;have HPN:Hid (pn=(prs L.sub).length∧lv=0∧vl=.slice none 0 0):=⟨hpn,hlv,hvl⟩;have HSP:=zh hsp;clear hpn hlv hvl hsp;have HQ:=zh hq;have hqs:=ζ hq;have HY:=zh hy;have hptr:h.ptr=some ⟨q,0,none⟩:=by simp[HL.ptr,hp]
 rw[τ,qC2,hptr];clear hq hy hp hptr;go_enter func106,ntmps106;go_wp2_with fail;obtain⟨w0,hw0,hT0,hL0,hR0,hK0,hs0⟩:=qV7 w (.cells #[.pointer (some ⟨V,0,none⟩),.string r.key,.int .i64 r.b,.int .u64 r.s,.pointer r.ptr] 83) (.cells #[.string h.key,.int .i64 h.b,.int .u64 h.s,.pointer (some ⟨q,0,none⟩)] 81) (.cells qJ3 81);unfold qJ3 at hR0 hw0;rw[←hw0];clear hw0;have hS0:w0.drew.heap[w.heap.size+1]?=some (.cells #[.string h.key,.int .i64 h.b,.int .u64 h.s,.pointer (some ⟨q,0,none⟩)] 81)∧w0.drew.heap[q]?=some (υ lv (.slice pb pn pc) vl):=⟨hL0,hK0.hp HQ.out⟩;refine wp_region_held_drew (S:=fun W=>W.heap[w.heap.size+1]?=some (.cells #[.string h.key,.int .i64 h.b,.int .u64 h.s,.pointer (some ⟨q,0,none⟩)] 81)∧W.heap[q]?=some (υ lv (.slice pb pn pc) vl)) (by kernel_rfl) hS0 (fun _=>?_);refine zU 0 (.pointer (some ⟨w.heap.size+1,3,none⟩)) hS0 ?_;refine zV 1 (.pointer (some ⟨q,0,none⟩)) rfl (fun W hS=>by have a:=ξ hS.1 3;simp only[zG,zH,zI] at a;clear hS;go_simp) hS0 ?_;refine zV 2 (.pointer (some ⟨q,0,none⟩)) rfl (fun W hS=>by have c:=ζ hS.2;clear hS;go_simp) hS0 ?_;refine zP 3 q 0 hS0 ?_;refine zV 4 (.int .i64 lv) rfl (fun W hS=>by have a:=ξ hS.2 0;simp only[υ,zG,zH,zI] at a;clear hS;go_simp) hS0 ?_;refine zU 5 (.pointer (some ⟨w.heap.size+1,3,none⟩)) hS0 ?_;refine zV 6 (.pointer (some ⟨q,0,none⟩)) rfl (fun W hS=>by have a:=ξ hS.1 3;simp only[zG,zH,zI] at a;clear hS;go_simp) hS0 ?_;refine zV 7 (.pointer (some ⟨q,0,none⟩)) rfl (fun W hS=>by have c:=ζ hS.2;clear hS;go_simp) hS0 ?_;refine zP 8 q 1 hS0 ?_;refine zV 9 (.slice pb pn pc) rfl (fun W hS=>by have a:=ξ hS.2 1;simp only[υ,zG,zH,zI] at a;clear hS;go_simp) hS0 ?_;refine zU 10 (.agg #[.int .i64 lv,.slice pb pn pc,.slice none 0 0]) hS0 ?_;refine zq 11 fun K hK=>?_;go_simp;obtain⟨w1,hw1,hN1,hK1⟩:∃ w1,w1=(w0.alloc (.cells #[.int .i64 0,.slice none 0 0,.slice none 0 0] 152)).drew∧w1.heap[w.heap.size+3]?=some (.cells #[.int .i64 0,.slice none 0 0,.slice none 0 0] 152)∧Kp [] w0 w1:=⟨_,rfl,by rw[←hs0];exact μ w0 _,((Kp.refl _ _).alloc _).drew⟩;rw[←hw1];have hs1:w1.heap.size=w.heap.size+4:=by rw[hw1];simp[hs0]
 clear hw1;refine hK.out _ _ ⟨hK1.hp hS0.1,hK1.hp hS0.2⟩ (fun _=>?_);clear hK K
 try simp only[zZ]
 refine zq 12 fun K hK=>?_;have z0:=ξ hN1;have f0:=ψ hN1;have hN1s:=ζ hN1;have HN1:=zh hN1;clear hN1;go_simp;obtain⟨w2,hw2,hN2,hK2⟩:∃ w2,w2=((w1.setCell ⟨w.heap.size+3,0,none⟩ (.int .i64 lv)).setCell ⟨w.heap.size+3,1,none⟩ (.slice pb pn pc)).setCell ⟨w.heap.size+3,2,none⟩ (.slice none 0 0)∧w2.heap[w.heap.size+3]?=some (υ lv (.slice pb pn pc) (.slice none 0 0))∧Kp [w.heap.size+3] w1 w2:=
  ⟨_,rfl,φ (φ (φ HN1.out 0 _) 1 _) 2 _,(((Kp.refl _ _).sc _).sc _).sc _⟩
 rw[←hw2];clear hw2 z0 f0;have hKw2:Kp [] w w2:=(hK0.tr hK1).tr hK2;have hK02:Kp [] w0 w2:=hK1.trans hK2 (by simp;omega);have hS2:=And.intro (hK02.hp hS0.1) (hK02.hp hS0.2);refine hK.out _ _ hS2 (fun _=>?_);clear hK K;refine zd ?_
 try simp only[zZ]
 have hs2:w.heap.size+4≤w2.heap.size:=by have:=hK2.size;omega
 have hT2:=hK02.hp hT0;have hR2:=hK02.hp hR0;have l3:=ξ hS2.1 3;have q2:=ξ hS2.2 2;simp only[υ,zG,zH,zI] at l3 q2;have HL2:=zh hS2.1;have HT2:=zh hT2;have HR2:=zh hR2;have HN2:=zh hN2;have HK2:=zh hKw2;have hqs2:=ζ hS2.2;clear hS0 hS2 hT2 hR2 hN2 hKw2 hK02 hK2 hK1 hK0 hT0 hL0 hR0 HN1 hN1s hs1 hs0;rw[HPN.out.2.2] at q2;have hAs:A<w.heap.size:=HY.out.dk.sA;have hFs:F<w.heap.size:=HY.out.sF;go_wp2_with fail;refine wp_loop_rounds 1 ?_;rw[rounds_succ];go_wp2_with fail;have HY2:Hid (LyF κ wn V A N C base F l ws (b::fr) w2):=HY.out.keep HK2.out;have hpsl:=HPN.out.1;have HPSL:=zh hpsl;clear hpsl;have hSd:w2.drew.heap[w.heap.size+1]?=some (.cells #[.string h.key,.int .i64 h.b,.int .u64 h.s,.pointer (some ⟨q,0,none⟩)] 81)∧w2.drew.heap[w.heap.size]?=some (.cells #[.pointer (some ⟨V,0,none⟩),.string r.key,.int .i64 r.b,.int .u64 r.s,.pointer r.ptr] 83):=⟨HL2.out,HT2.out⟩;refine wp_region_held_drew (S:=fun W=>W.heap[w.heap.size+1]?=some (.cells #[.string h.key,.int .i64 h.b,.int .u64 h.s,.pointer (some ⟨q,0,none⟩)] 81)∧W.heap[w.heap.size]?=some (.cells #[.pointer (some ⟨V,0,none⟩),.string r.key,.int .i64 r.b,.int .u64 r.s,.pointer r.ptr] 83)) (by kernel_rfl) hSd (fun _=>?_);refine zU 0 (.pointer (some ⟨w.heap.size+1,0,none⟩)) hSd ?_;refine zV 1 (.string h.key) rfl (fun W hS=>by have a:=ξ hS.1 0;simp only[zG,zH,zI] at a;clear hS;go_simp) hSd ?_;refine zP 2 w.heap.size 0 hSd ?_;refine zV 3 (.pointer (some ⟨V,0,none⟩)) rfl (fun W hS=>by have a:=ξ hS.2 0;simp only[zG,zH,zI] at a;clear hS;go_simp) hSd ?_;refine zU 4 (.func (.func 107) #[] #[.pointer (some ⟨F,0,none⟩)]) hSd ?_;refine zq 5 fun K hK=>?_;have hcf:=zS8;go_simp;refine ((HY2.out.keep ((Kp.refl _ w2).drew)).next hfl).mono ?_;rintro e w3 ⟨rfl,hy3,hW3⟩;have hS3:=And.intro (hW3.oth _ _ _ _ hSd.1 (by decide) (by simp;omega)) (hW3.oth _ _ _ _ hSd.2 (by decide) (by simp;omega));have hR3:=hW3.oth _ _ _ _ HR2.out (by decide) (by simp;omega);have hq3:=hW3.oth _ _ _ _ HN2.out (by decide) (by simp;omega);have hs3:=hW3.size;have hsp3:=((HSP.out.keep0 HK2.out).keep0 ((Kp.refl _ w2).drew)).wx hW3 (by decide) ((HY2.out.keep ((Kp.refl _ w2).drew)).apt.sub (by decide));refine hK.out _ _ hS3 (fun _=>?_);clear hK K hcf
 try simp only[zZ]
 refine zq 6 fun K hK=>?_;go_simp;refine (hy3.lay hwl hb (w.heap.size+3) lv (.slice pb pn pc) (.slice none 0 0) (prs L.sub) [] hq3 (by have:=HPN.out;omega) (by have:=HPN.out;omega) (by have h:=hsp3;rw[HPSL.out] at h ⊢;exact h) ⟨rfl,Or.inl ⟨rfl,none,0,rfl,fun _=>rfl⟩⟩ (by simpa [qE2] using hm) (by simp;omega) hz (by simp)).mono ?_;rintro e w4 ⟨(⟨hio,hD4⟩|⟨rfl,hy4⟩),hW4⟩
 ·obtain⟨hnq,p,rfl⟩:=hio;clear hK;go_wp2;exact⟨rfl,.inl (LyX.of ⟨hnq,p,rfl⟩ hD4 (fun x hx=>.inl hx) (by omega)),((Wx.ofKp (HK2.out.mono (by simp)) HY.out.low).trans (((Wx.ofKp (Kp.mono (S:=[]) ((Kp.refl _ w2).drew) (by simp)) HY2.out.low).trans hW3).trans hW4))⟩
 have hS4:=And.intro (hW4.oth _ _ _ _ hS3.1 (by decide) (by simp;omega)) (hW4.oth _ _ _ _ hS3.2 (by decide) (by simp;omega));have hR4:=hW4.oth _ _ _ _ hR3 (by decide) (by simp;omega);refine hK.out _ _ hS4 (fun _=>?_);clear hK K
 try simp only[zZ]
 refine zU 7 (.agg #[.string h.key,.int .i64 b,.int .u64 (fnv (qA2 lv (prs L.sub) [])),.pointer none]) hS4 ?_;refine zq 8 fun K hK=>?_;have z0:=ξ hR4;have f0:=ψ hR4;have hR4s:=ζ hR4;have hls:=qK0 (.string h.key) (.int .i64 (b:Int)) (.int .u64 (fnv (qA2 lv (prs L.sub) []))) (.pointer none) hR4;have HR4:=zh hR4;clear hR4;go_simp;obtain⟨w5,hw5,hR5,hK5⟩:∃ w5,w5=(((w4.setCell ⟨w.heap.size+1+1,0,none⟩ (.string h.key)).setCell ⟨w.heap.size+1+1,1,none⟩ (.int .i64 (b:Int))).setCell ⟨w.heap.size+1+1,2,none⟩ (.int .u64 (fnv (qA2 lv (prs L.sub) [])))).setCell ⟨w.heap.size+1+1,3,none⟩ (.pointer none)∧w5.heap[w.heap.size+1+1]?=some (.cells #[.string h.key,.int .i64 (b:Int),.int .u64 (fnv (qA2 lv (prs L.sub) [])),.pointer none] 81)∧Kp [w.heap.size+1+1] w4 w5:=⟨_,rfl,hls.1,hls.2⟩;rw[←hw5];clear hw5 hls z0 f0;refine hK.out _ _ ⟨hK5.hp hS4.1,hK5.ho hS4.2⟩ (fun _=>?_);clear hK K;refine zd ?_
 try simp only[zZ]
 have hap:Apt w4 [w.heap.size+1+1] (qZ8++[22,3]):=fun q hq c t fr e=>by rw[List.mem_singleton.1 hq,HR4.out] at e;cases e;decide
 have HY5:Hid (LyF κ wn V A N C base F l (ws++[(b,toB (qA2 lv (prs L.sub) []))]) fr w5):=hy4.turn hK5 hap;have HW5:Hid (Wx base [A,F] w w5):=((Wx.ofKp (HK2.out.mono (by simp)) HY.out.low).trans (((Wx.ofKp (Kp.mono (S:=[]) ((Kp.refl _ w2).drew) (by simp)) HY2.out.low).trans hW3).trans hW4)).tail hK5 (by simp;omega) HY.out.low;have HR5:=zh hR5;clear hSd hS3 hS4 hR3 hq3 hy3 hW3 hy4 hW4 hR5 hK5 hap HR4 hR4s;go_wp2_with fail;exact bodyPost_ret (results_cell_row results106 _ _ (w.heap.size+1+1) 81 #[.string h.key,.int .i64 (b:Int),.int .u64 (fnv (qA2 lv (prs L.sub) [])),.pointer none] (0,0) _ rfl HR5.out underlying81 rfl (by kernel_rfl)) rfl ⟨.inr ⟨by simp only[qC2,HL.ptr,HPN.out.2.1,Option.map_none],by have h:=HY5.out;rw[HPN.out.2.1] at h;exact h⟩,HW5.out⟩
def qV5(κ:Kd)(wn:Int)(V A N C base F:Nat)(l:List UInt8)(O:qE1)(n:Nat):Prop:=∀ (h r:HL) (L:Lnk (Tn n)) (fr:List Nat) (ws:List (Nat × List UInt8)) (w:World),LyF κ wn V A N C base F l ws fr w→RL O n w h L→OkL n L→news n L≤fr.length→(∀ b∈fr,b<N)→ws.length+fr.length≤100000→
 Calls prog 106 #[τ V r,qC2 h,qR4 F] w fun e w'=>(LyX κ wn V A N C base l ws fr (news n L) e w'∨(e=.returned (qC2 (lhl (ω n L fr).1))∧LyF κ wn V A N C base F l (ws++(ω n L fr).2.1) (ω n L fr).2.2 w'))∧Wx base [A,F] w w'
theorem jF7(wn:Int)(V A N C base F:Nat)(l:List UInt8)(O:qE1):qV5 κ wn V A N C base F l O 0:=by
 intro h r L fr ws w hy hr ho hn hf hl
 cases hx:L.ref with
 | some x=>
  have hs:L.ref.isSome:=by rw[hx];rfl
  obtain⟨hp,he⟩:=zK9 hr hs;have e:ω 0 L fr=(L,[],fr):=by simp only[ω,if_pos hs]
  rw[e];refine (zJ3 V r h (qR4 F) w hp).mono ?_;rintro e w' ⟨rfl,hK⟩;exact⟨.inr ⟨by rw[←he],by simpa using hy.keep hK⟩,Wx.ofKp (hK.mono (by simp)) hy.low⟩
 | none=>
  obtain⟨hk,q,hp,hq⟩:=zK1 hr hx;have hns:¬L.ref.isSome=true:=by rw[hx];simp
  have h1:news 0 L=1:=by simp only[news,if_neg hns]
  cases fr with
  | nil=>rw[h1] at hn;simp at hn
  | cons b fr=>
   obtain⟨z1,z2,z3⟩:=ho.2 hx;have e:ω 0 L (b::fr)=(⟨L.key,some (b,fnv (qA2 0 (prs L.sub) [])),L.sub⟩,[(b,toB (qA2 0 (prs L.sub) []))],fr):=by simp only[ω,if_neg hns,List.headD_cons,List.tail_cons]
   rw[e];refine (jF9 wn V A N C base F l ws fr b r h q O L w hy (hf b (by simp)) (by simp at hl;omega) (by simp at hl;omega) hp hq z1 z2 z3).mono ?_;rintro e w' ⟨(h2|⟨rfl,h2⟩),h3⟩
   ·exact⟨.inl (by rw[h1];exact h2),h3⟩
   exact⟨.inr ⟨by simp only[lhl,hk,Option.getD_some],h2⟩,h3⟩
variable {κ:Kd}
theorem zZ5(n:Nat)(ls:List (Lnk (Tn n)))(fr:List Nat)(hn:meas (news n) ls≤fr.length):∀ x∈(qB1 (ω n) ls fr).2.1,x.1∈fr:=fun x hx=>by
 have h:=zI7 (ω n) (news n) ls fr (fun l _ fr h=>⟨qW9 n l fr h,qL7 n l fr⟩) hn;have:x.1∈(qB1 (ω n) ls fr).2.1.map Prod.fst:=List.mem_map_of_mem hx;rw[h] at this;exact List.mem_of_mem_take this
theorem jF8(wn:Int)(V A N C base F:Nat)(l:List UInt8)(O:qE1)(hO:∀ (n b:Nat) (s:Int) (t:Tn n),O n b s t→b≤1000000∧0≤s)(n:Nat)(IH:qV5 κ wn V A N C base F l O n)(hNN:N≤1000)(h r:HL)(q:Nat)(L:Lnk (Tn (n+1)))(b:Nat)(fr0 fr:List Nat)(ws:List (Nat × List UInt8))(w:World)
  (hy:LyF κ wn V A N C base F l ws fr0 w) (hp:h.p=some q) (hq:RN O (n+1) w q L.sub) (hlv:n+1<256) (hok:∀ m∈η L.sub,OkL n m) (hm:2+meas qA4 (η L.sub)≤128) (hnl:(η L.sub).length≤126)
  (hn:meas (news n) (η L.sub)≤fr0.length) (hf:∀ b∈fr0,b<N) (hl:ws.length+fr0.length≤100000) (hfr:(qB1 (ω n) (η L.sub) fr0).2.2=b::fr):
  Calls prog 106 #[τ V r,qC2 h,qR4 F] w fun e w'=>(LyX κ wn V A N C base l ws fr0 (1+meas (news n) (η L.sub)) e w'∨(e=.returned (qC2 ⟨h.key,(b:Int),fnv (qA2 ((n+1:Nat):Int) [] ((qB1 (ω n) (η L.sub) fr0).1.map lhl)),none⟩)∧
   LyF κ wn V A N C base F l (ws++(qB1 (ω n) (η L.sub) fr0).2.1++[(b,toB (qA2 ((n+1:Nat):Int) [] ((qB1 (ω n) (η L.sub) fr0).1.map lhl)))]) fr w'))∧Wx base [A,F] w w':=by
 obtain⟨vl,hq,hs,hsl,hbo⟩:=hq;obtain⟨lb,lc,rfl⟩:=qM0 hsl;obtain⟨ln,hln⟩:∃ ln,ln=hs.length:=⟨_,rfl⟩;obtain⟨pb,hpb⟩:∃ pb:Option Addr,pb=none:=⟨_,rfl⟩;obtain⟨pn,hpn⟩:∃ pn,pn=0:=⟨_,rfl⟩;obtain⟨pc,hpc⟩:∃ pc,pc=0:=⟨_,rfl⟩;obtain⟨lv,hlve⟩:∃ lv:Int,lv=((n+1:Nat):Int):=⟨_,rfl⟩;obtain⟨vl,hvl⟩:∃ vl,vl=Value.slice lb ln lc:=⟨_,rfl⟩;rw[←hlve,←hln,←hvl] at hq;rw[←hln] at hsl;have hq':w.heap[q]?=some (υ lv (.slice pb pn pc) vl):=by rw[hpb,hpn,hpc];exact hq
 have HQ:=zh hq';have HPN:Hid (pb=none∧pn=0∧pc=0∧lv=((n+1:Nat):Int)∧vl=.slice lb ln lc∧ln=hs.length):=⟨hpb,hpn,hpc,hlve,hvl,hln⟩;have HSL:=zh hsl;have HBO:=zh hbo;have hqs:=ζ hq;have HY:=zh hy;have hptr:h.ptr=some ⟨q,0,none⟩:=by simp[HL.ptr,hp]
 rw[τ,qC2,hptr,qR4];obtain⟨R,hRe⟩:∃ R,R=qB1 (ω n) (η L.sub) fr0:=⟨_,rfl⟩;rw[←hRe];have HRE:Hid (R=qB1 (ω n) (η L.sub) fr0∧(qB1 (ω n) (η L.sub) fr0).2.2=b::fr):=⟨hRe,hfr⟩;clear hq hq' hy hp hptr hpb hpn hpc hlve hvl hln hsl hbo hRe hfr;go_enter func106,ntmps106;go_wp2_with fail;obtain⟨w0,hw0,hT0,hL0,hR0,hK0,hs0⟩:=qV7 w (.cells #[.pointer (some ⟨V,0,none⟩),.string r.key,.int .i64 r.b,.int .u64 r.s,.pointer r.ptr] 83) (.cells #[.string h.key,.int .i64 h.b,.int .u64 h.s,.pointer (some ⟨q,0,none⟩)] 81) (.cells qJ3 81);unfold qJ3 at hR0 hw0;rw[←hw0];clear hw0;have hS0:w0.drew.heap[w.heap.size+1]?=some (.cells #[.string h.key,.int .i64 h.b,.int .u64 h.s,.pointer (some ⟨q,0,none⟩)] 81)∧w0.drew.heap[q]?=some (υ lv (.slice pb pn pc) vl):=⟨hL0,hK0.hp HQ.out⟩;refine wp_region_held_drew (S:=fun W=>W.heap[w.heap.size+1]?=some (.cells #[.string h.key,.int .i64 h.b,.int .u64 h.s,.pointer (some ⟨q,0,none⟩)] 81)∧W.heap[q]?=some (υ lv (.slice pb pn pc) vl)) (by kernel_rfl) hS0 (fun _=>?_);refine zU 0 (.pointer (some ⟨w.heap.size+1,3,none⟩)) hS0 ?_;refine zV 1 (.pointer (some ⟨q,0,none⟩)) rfl (fun W hS=>by have a:=ξ hS.1 3;simp only[zG,zH,zI] at a;clear hS;go_simp) hS0 ?_;refine zV 2 (.pointer (some ⟨q,0,none⟩)) rfl (fun W hS=>by have c:=ζ hS.2;clear hS;go_simp) hS0 ?_;refine zP 3 q 0 hS0 ?_;refine zV 4 (.int .i64 lv) rfl (fun W hS=>by have a:=ξ hS.2 0;simp only[υ,zG,zH,zI] at a;clear hS;go_simp) hS0 ?_;refine zU 5 (.pointer (some ⟨w.heap.size+1,3,none⟩)) hS0 ?_;refine zV 6 (.pointer (some ⟨q,0,none⟩)) rfl (fun W hS=>by have a:=ξ hS.1 3;simp only[zG,zH,zI] at a;clear hS;go_simp) hS0 ?_;refine zV 7 (.pointer (some ⟨q,0,none⟩)) rfl (fun W hS=>by have c:=ζ hS.2;clear hS;go_simp) hS0 ?_;refine zP 8 q 1 hS0 ?_;refine zV 9 (.slice pb pn pc) rfl (fun W hS=>by have a:=ξ hS.2 1;simp only[υ,zG,zH,zI] at a;clear hS;go_simp) hS0 ?_;refine zU 10 (.agg #[.int .i64 lv,.slice pb pn pc,.slice none 0 0]) hS0 ?_;refine zq 11 fun K hK=>?_;go_simp;obtain⟨w1,hw1,hN1,hK1⟩:∃ w1,w1=(w0.alloc (.cells #[.int .i64 0,.slice none 0 0,.slice none 0 0] 152)).drew∧w1.heap[w.heap.size+3]?=some (.cells #[.int .i64 0,.slice none 0 0,.slice none 0 0] 152)∧Kp [] w0 w1:=⟨_,rfl,by rw[←hs0];exact μ w0 _,((Kp.refl _ _).alloc _).drew⟩;rw[←hw1];have hs1:w1.heap.size=w.heap.size+4:=by rw[hw1];simp[hs0]
 clear hw1;refine hK.out _ _ ⟨hK1.hp hS0.1,hK1.hp hS0.2⟩ (fun _=>?_);clear hK K
 try simp only[zZ]
 refine zq 12 fun K hK=>?_;have z0:=ξ hN1;have f0:=ψ hN1;have hN1s:=ζ hN1;have HN1:=zh hN1;clear hN1;go_simp;obtain⟨w2,hw2,hN2,hK2⟩:∃ w2,w2=((w1.setCell ⟨w.heap.size+3,0,none⟩ (.int .i64 lv)).setCell ⟨w.heap.size+3,1,none⟩ (.slice pb pn pc)).setCell ⟨w.heap.size+3,2,none⟩ (.slice none 0 0)∧w2.heap[w.heap.size+3]?=some (υ lv (.slice pb pn pc) (.slice none 0 0))∧Kp [w.heap.size+3] w1 w2:=
  ⟨_,rfl,φ (φ (φ HN1.out 0 _) 1 _) 2 _,(((Kp.refl _ _).sc _).sc _).sc _⟩
 rw[←hw2];clear hw2 z0 f0;have hKw2:Kp [] w w2:=(hK0.tr hK1).tr hK2;have hK02:Kp [] w0 w2:=hK1.trans hK2 (by simp;omega);have hS2:=And.intro (hK02.hp hS0.1) (hK02.hp hS0.2);refine hK.out _ _ hS2 (fun _=>?_);clear hK K;refine zd ?_
 try simp only[zZ]
 have hs2:w.heap.size+4≤w2.heap.size:=by have:=hK2.size;omega
 have hT2:=hK02.hp hT0;have hR2:=hK02.hp hR0;have l3:=ξ hS2.1 3;have q2:=ξ hS2.2 2;simp only[υ,zG,zH,zI] at l3 q2;have HL2:=zh hS2.1;have HT2:=zh hT2;have HR2:=zh hR2;have HN2:=zh hN2;have HK2:=zh hKw2;have hqs2:=ζ hS2.2;clear hS0 hS2 hT2 hR2 hN2 hKw2 hK02 hK2 hK1 hK0 hT0 hL0 hR0 HN1 hN1s hs1 hs0;rw[HPN.out.2.2.2.2.1] at q2;have hAs:A<w.heap.size:=HY.out.dk.sA;have hFs:F<w.heap.size:=HY.out.sF;have HY2:Hid (LyF κ wn V A N C base F l ws fr0 w2):=HY.out.keep HK2.out;have HW2:Hid (Wx base [A,F] w w2):=Wx.ofKp (HK2.out.mono (by simp)) HY.out.low;go_wp2_with fail
 go_loopw [31] (fun i wr=>∃ (j:Nat) (vj:Value),j≤ln∧i=.int .i64 j∧w.heap.size+4≤wr.heap.size∧Hid (wr.heap[w.heap.size+1]?=some (.cells #[.string h.key,.int .i64 h.b,.int .u64 h.s,.pointer (some ⟨q,0,none⟩)] 81))∧Hid (wr.heap[w.heap.size]?=some (.cells #[.pointer (some ⟨V,0,none⟩),.string r.key,.int .i64 r.b,.int .u64 r.s,.pointer r.ptr] 83))∧Hid (wr.heap[w.heap.size+1+1]?=some (.cells #[.string ⟨#[]⟩,.int .i64 0,.int .u64 0,.pointer none] 81))∧Hid (wr.heap[w.heap.size+3]?=some (υ lv (.slice pb pn pc) vj))∧Hid (wr.ownsRow (w.heap.size+4) 81 4 vj j (qA7 ((qB1 (ω n) ((η L.sub).take j) fr0).1.map lhl)))∧Hid (LyF κ wn V A N C base F l (ws++(qB1 (ω n) ((η L.sub).take j) fr0).2.1) (qB1 (ω n) ((η L.sub).take j) fr0).2.2 wr)∧Hid (Wx base [A,F] w wr)) (fun i _=>ln-(intOf i).toNat)
 case atStart=>exact⟨0,.slice none 0 0,Nat.zero_le _,rfl,hs2,HL2,HT2,HR2,HN2,by show World.ownsRow _ _ _ _ _ _ _;exact World.ownsRow_nil _ _ _ _,by show LyF _ _ _ _ _ _ _ _ _ _ _ _;simpa [qB1] using HY2.out,HW2⟩
 case round=>
  obtain⟨j,vj,hj,rfl,hsw,HLr,HTr,HRr,HNr,HOr,HYr,HWr⟩:=hrel;clear l3 q2 HL2 HT2 HR2 HN2 HY2 HW2 hs2 hqs2;by_cases hlt:j<ln
  ·have hjl:j<hs.length:=by have:=HPN.out;omega
   have hjm:j<(η L.sub).length:=by rw[←HBO.out.1];exact hjl
   have hsl0:=HSL.out;rw[HPN.out.2.2.2.2.2] at hsl0;obtain⟨gb,off,cp',cur,fq,hv,hcp,hrow,hcur⟩:=hsl0.link (by omega);obtain⟨c0,c1,c2,c3⟩:=hcur j hjl;simp only[Value.slice.injEq,true_and] at hv;obtain⟨rfl,rfl⟩:=hv;have hap:=HY.out.apt;have hR:=HWr.out.oth _ _ _ _ hrow (by decide) (fun hm=>hap _ hm _ _ _ hrow (by decide));have a0:=ξ hR (off+j*4);have a1:=ξ hR (off+j*4+1);have a2:=ξ hR (off+j*4+2);have a3:=ξ hR (off+j*4+3);rw[c0] at a0;rw[c1] at a1;rw[c2] at a2;rw[c3] at a3;have hgs:=ζ hR;have hjb:(j:Int)<(ln:Int):=by omega
   have HRL:Hid (RL O n wr hs[j] (η L.sub)[j]):=(HBO.out.2 j hjl hjm).mono (fun q hq=>RN.wx HWr.out hap n q _ hq) (fun _ _ h=>h);clear hcur hsl0 hcp hap;go_wp2_with fail;rename_i K0 hK0;obtain⟨X,hX⟩:∃ X,X=lhl (ω n (η L.sub)[j] (qB1 (ω n) ((η L.sub).take j) fr0).2.2).1:=⟨_,rfl⟩;have hXp:X.ptr=none:=by rw[hX];rfl
   have hsn:=zZ7 (ω n) ((η L.sub).take j) (η L.sub)[j] fr0;rw[←List.take_succ_eq_append_getElem hjm] at hsn;have HSN:=zh hsn;have HX:=zh hX;obtain⟨w1,hw1,h91,hK1,hs1⟩:=qE8 wr (.cells #[.string hs[j].key,.int .i64 hs[j].b,.int .u64 hs[j].s,.pointer hs[j].ptr] 81);rw[←hw1];clear hw1 hsn hX a0 a1 a2 a3 hR hrow c0 c1 c2 c3 hgs hjb;have hSd:w1.drew.heap[w.heap.size]?=some (.cells #[.pointer (some ⟨V,0,none⟩),.string r.key,.int .i64 r.b,.int .u64 r.s,.pointer r.ptr] 83)∧w1.drew.heap[wr.heap.size]?=some (.cells #[.string hs[j].key,.int .i64 hs[j].b,.int .u64 hs[j].s,.pointer hs[j].ptr] 81):=⟨hK1.hp HTr.out,h91⟩;have hKd:Kp [] wr w1.drew:=hK1.drew;have hNd:=hKd.hp HNr.out;have hYd:=HYr.out.keep hKd;have HCALL:Hid (Calls prog 106 #[τ V r,qC2 hs[j],qR4 F] w1.drew fun e w'=>(LyX κ wn V A N C base l ws fr0 (1+meas (news n) (η L.sub)) e w'∨(e=.returned (.agg #[.string X.key,.int .i64 X.b,.int .u64 X.s,.pointer none])∧LyF κ wn V A N C base F l (ws++(qB1 (ω n) ((η L.sub).take (j+1)) fr0).2.1) (qB1 (ω n) ((η L.sub).take (j+1)) fr0).2.2 w'))∧Wx base [A,F] w1.drew w'):=by
    have hfree:=qO9 (ω n) (news n) ((η L.sub).take j) fr0 (fun l _ fr=>qL7 n l fr);have hcnt:=zB5 (ω n) (news n) ((η L.sub).take j) fr0 (fun l _ fr=>qU2 n l fr);have hmj:=qX2 (news n) (η L.sub) j hjm;refine (IH hs[j] r (η L.sub)[j] _ _ w1.drew hYd (RL.keep HRL.out hKd (Apt.nil _ _)) (hok _ (List.getElem_mem hjm)) (by rw[hfree,List.length_drop];omega) (fun b hb=>hf b (by rw[hfree] at hb;exact List.mem_of_mem_drop hb)) (by rw[hfree,List.length_append,hcnt,List.length_drop];omega)).mono ?_;rintro e w' ⟨(h1|⟨rfl,h1⟩),h2⟩
    ·refine⟨.inl (h1.weak (fun x hx=>?_) (fun b hb=>?_) ?_),h2⟩
     ·rcases List.mem_append.1 hx with hx|hx
      ·exact .inl hx
      ·exact .inr (zZ5 n _ fr0 (by have:=qM8 (news n) (η L.sub) j;omega) x hx)
     ·rw[hfree] at hb;exact List.mem_of_mem_drop hb
     ·rw[List.length_append,hcnt];omega
    rw[HSN.out,←List.append_assoc];exact⟨.inr ⟨by rw[←HX.out,qC2,hXp],h1⟩,h2⟩
   have HIN:=zh hKd;refine zD2 (α:=Nat→Nat→Nat→Act) (R:=fun A0=>∀ g c d W,(w.heap.size+4≤W.heap.size∧W.heap[w.heap.size+1]?=some (.cells #[.string h.key,.int .i64 h.b,.int .u64 h.s,.pointer (some ⟨q,0,none⟩)] 81)∧W.heap[w.heap.size]?=some (.cells #[.pointer (some ⟨V,0,none⟩),.string r.key,.int .i64 r.b,.int .u64 r.s,.pointer r.ptr] 83)∧W.heap[w.heap.size+1+1]?=some (.cells #[.string ⟨#[]⟩,.int .i64 0,.int .u64 0,.pointer none] 81)∧W.heap[w.heap.size+3]?=some (υ lv (.slice pb pn pc) (.slice (some ⟨g,0,none⟩) (j+1) c))∧W.ownsRow (w.heap.size+4) 81 4 (.slice (some ⟨g,0,none⟩) (j+1) c) (j+1) (qA7 ((qB1 (ω n) ((η L.sub).take (j+1)) fr0).1.map lhl))∧LyF κ wn V A N C base F l (ws++(qB1 (ω n) ((η L.sub).take (j+1)) fr0).2.1) (qB1 (ω n) ((η L.sub).take (j+1)) fr0).2.2 W∧Wx base [A,F] w W)→K0 (A0 g c d) W) ?_;apply Exists.intro;apply And.intro
   rotate_left
   ·intro HREST;refine wp_region_held_drew (S:=fun W=>W.heap[w.heap.size]?=some (.cells #[.pointer (some ⟨V,0,none⟩),.string r.key,.int .i64 r.b,.int .u64 r.s,.pointer r.ptr] 83)∧W.heap[wr.heap.size]?=some (.cells #[.string hs[j].key,.int .i64 hs[j].b,.int .u64 hs[j].s,.pointer hs[j].ptr] 81)) (by kernel_rfl) hSd (fun _=>?_);refine zU 0 (.pointer (some ⟨w.heap.size+3,2,none⟩)) hSd ?_;refine zV 2 (.agg #[.pointer (some ⟨V,0,none⟩),.string r.key,.int .i64 r.b,.int .u64 r.s,.pointer r.ptr]) rfl (fun W hS=>by have a:=ξ hS.1;clear hS;go_simp) hSd ?_;refine zV 3 (.agg #[.string hs[j].key,.int .i64 hs[j].b,.int .u64 hs[j].s,.pointer hs[j].ptr]) rfl (fun W hS=>by have a:=ξ hS.2;clear hS;go_simp) hSd ?_;refine zU 4 (.func (.func 107) #[] #[.pointer (some ⟨F,0,none⟩)]) hSd ?_;refine zr 1 5 (fun K hK=>?_) fun K hK=>?_
    ·skip
     have c2:=ξ hNd 2;simp only[υ,zG,zH,zI] at c2;go_simp;refine hK.out _ _ hSd (fun _=>?_);clear hK K c2
     try simp only[zZ]
     refine zq 5 fun K hK=>?_;go_simp;refine (show Calls _ _ _ _ _ from HCALL.out).mono ?_;rintro e w2 ⟨(hx2|⟨rfl,hy2⟩),hW2⟩
     ·obtain⟨⟨hnq,p,rfl⟩,hx3⟩:=hx2;clear hK;go_wp2;exact⟨rfl,.inl ⟨⟨hnq,p,rfl⟩,hx3⟩,HWr.out.trans ((Wx.ofKp (HIN.out.mono (by simp)) HYr.out.low).trans hW2)⟩
     have hS2:=And.intro (hW2.oth _ _ _ _ hSd.1 (by decide) (by simp;omega)) (hW2.oth _ _ _ _ hSd.2 (by decide) (by simp;omega));have hN2:=hW2.oth _ _ _ _ hNd (by decide) (by simp;omega);have hs2:w1.heap.size≤w2.heap.size:=hW2.size;refine hK.out _ _ hS2 (fun _=>?_);clear hK K
     try simp only[zZ]
     refine zq 6 fun K hK=>?_;go_simp;obtain⟨w3,hw3,hB3,hK3,hs3⟩:=qE8 w2 (.cells #[.string X.key,.int .i64 X.b,.int .u64 X.s,.pointer none] 81);rw[←hw3];clear hw3;obtain⟨d,hd⟩:∃ d,d=w2.heap.size:=⟨_,rfl⟩;rw[←hd] at hB3 ⊢;clear hd;have hS3:=And.intro (hK3.hp hS2.1) (hK3.hp hS2.2);have hN3:=hK3.hp hN2;refine hK.out _ _ hS3 (fun _=>?_);clear hK K
     try simp only[zZ]
     have hownd:=qG5 HOr.out HIN.out (Apt.nil _ _);have hown3:=qG5 (zL2 hownd hW2 (by decide) (hYd.apt.sub (by decide))) hK3 (Apt.nil _ _);refine zq 7 fun K hK=>?_;refine qM1 rfl rfl (.agg #[.string ⟨#[]⟩,.int .i64 0,.int .u64 0,.pointer none]) 4 40 underlying150 qR2 rfl (by decide) (w.heap.size+4) vj j _ (by simp[Act.eval]) hown3 d 0 1 1 #[.string X.key,.int .i64 X.b,.int .u64 X.s,.pointer none] 81 (0,0) (by simp[Act.eval]) hB3 (by simp) (by simp[qA1,Value.oneCell']) (by omega) (by omega) (by omega) ?_;intro v4 w4 hown4 hgr4 _;obtain⟨g1,cap1,rfl⟩:=qJ6 (n:=j) hown4;have hKg:Kp vj.ownBlock.toList w3 w4:=(Kp.refl _ _).grown hgr4 (fun k hk=>Or.inl (by simp[hk]));have hlo:∀ k,k<w.heap.size+4∨k=wr.heap.size→k ∉ vj.ownBlock.toList:=fun k hk hm=>by
      have h1:=qR5 HOr.out k (by simpa using hm);omega
     have hS4:=And.intro (hKg.heap hS3.1 (hlo _ (by omega))) (hKg.heap hS3.2 (hlo _ (Or.inr rfl)));have hN4:=hKg.heap hN3 (hlo _ (by omega));have hN4s:=ζ hN4;refine hK.out _ _ hS4 (fun _=>?_);clear hK K
     try simp only[zZ]
     refine zU 8 (.pointer (some ⟨w.heap.size+3,2,none⟩)) hS4 ?_;refine zq 9 fun K hK=>?_;have d2:=ξ hN4 2;simp only[υ,zG,zH,zI] at d2;have e2:=ψ hN4 2;go_simp;have hKs:Kp [w.heap.size+3] w4 (w4.setCell ⟨w.heap.size+3,2,none⟩ (.slice (some ⟨g1,0,none⟩) (j+1) cap1)):=(Kp.refl _ _).sc _;have hR5:=φ hN4 2 (.slice (some ⟨g1,0,none⟩) (j+1) cap1);have haN:∀ {Ts:List TypeId},152 ∉ Ts→Apt w4 [w.heap.size+3] Ts:=fun hT q hq c t fr e=>by rw[List.mem_singleton.1 hq,hN4] at e;cases e;exact hT
     generalize w4.setCell ⟨w.heap.size+3,2,none⟩ (.slice (some ⟨g1,0,none⟩) (j+1) cap1)=w5 at hKs hR5 ⊢;refine hK.out _ _ ⟨hKs.hp hS4.1,hKs.ho hS4.2⟩ (fun _=>?_);clear hK K d2 e2;refine zd ?_
     try simp only[zZ]
     have hw5:Wx base [A,F] w w5:=((((HWr.out.trans ((Wx.ofKp (HIN.out.mono (by simp)) HYr.out.low).trans hW2)).tail hK3 (by simp) HY.out.low).tail hKg (fun k hk=>by have:=qR5 HOr.out k (by simpa using hk);omega) HY.out.low).tail hKs (by simp) HY.out.low);have hy5:=((hy2.keep hK3).turn hKg (zL0 hown3 (by decide))).turn hKs (haN (by decide));have hK35:∀ k c t fr,w3.heap[k]?=some (.cells c t fr)→k<w.heap.size+3→w5.heap[k]?=some (.cells c t fr):=fun k c t fr e hk=>hKs.heap (hKg.heap e (hlo k (by omega))) (by simp;omega);have hto:∀ k c t fr,wr.heap[k]?=some (.cells c t fr)→t≠89→w.heap.size≤k→k<w.heap.size+3→w5.heap[k]?=some (.cells c t fr):=fun k c t fr e ht h1 h2=>hK35 k c t fr (hK3.heap (hW2.oth _ _ _ _ (HIN.out.hp e) ht (by simp;omega)) (by simp)) h2;show K0 _ w5;refine HREST g1 cap1 d w5 ⟨by have:=hKs.size;have:=hKg.size;omega,hto _ _ _ _ HLr.out (by decide) (by omega) (by omega),hto _ _ _ _ HTr.out (by decide) (by omega) (by omega),hto _ _ _ _ HRr.out (by decide) (by omega) (by omega),hR5,?_,hy5,hw5⟩;have e:qA7 ((qB1 (ω n) ((η L.sub).take (j+1)) fr0).1.map lhl)=qA7 ((qB1 (ω n) ((η L.sub).take j) fr0).1.map lhl)++(qA1 #[.string X.key,.int .i64 X.b,.int .u64 X.s,.pointer none] 0 (1*4)).toList:=by
      rw[HSN.out,List.map_append,List.map_cons,List.map_nil,←HX.out];simp[qA7,lcs,qA1,hXp]
     rw[e];exact qG5 hown4 hKs (haN (by decide))
    ·skip
     go_simp;refine (show Calls _ _ _ _ _ from HCALL.out).mono ?_;rintro e w2 ⟨(hx2|⟨rfl,hy2⟩),hW2⟩
     ·obtain⟨⟨hnq,p,rfl⟩,hx3⟩:=hx2;clear hK;go_wp2;exact⟨rfl,.inl ⟨⟨hnq,p,rfl⟩,hx3⟩,HWr.out.trans ((Wx.ofKp (HIN.out.mono (by simp)) HYr.out.low).trans hW2)⟩
     have hS2:=And.intro (hW2.oth _ _ _ _ hSd.1 (by decide) (by simp;omega)) (hW2.oth _ _ _ _ hSd.2 (by decide) (by simp;omega));have hN2:=hW2.oth _ _ _ _ hNd (by decide) (by simp;omega);have hs2:w1.heap.size≤w2.heap.size:=hW2.size;refine hK.out _ _ hS2 (fun _=>?_);clear hK K
     try simp only[zZ]
     refine zr 1 6 (fun K hK=>?_) fun K hK=>?_
     ·skip
      have c2:=ξ hN2 2;simp only[υ,zG,zH,zI] at c2;go_simp;refine hK.out _ _ hS2 (fun _=>?_);clear hK K c2
      try simp only[zZ]
      refine zq 6 fun K hK=>?_;go_simp;obtain⟨w3,hw3,hB3,hK3,hs3⟩:=qE8 w2 (.cells #[.string X.key,.int .i64 X.b,.int .u64 X.s,.pointer none] 81);rw[←hw3];clear hw3;obtain⟨d,hd⟩:∃ d,d=w2.heap.size:=⟨_,rfl⟩;rw[←hd] at hB3 ⊢;clear hd;have hS3:=And.intro (hK3.hp hS2.1) (hK3.hp hS2.2);have hN3:=hK3.hp hN2;refine hK.out _ _ hS3 (fun _=>?_);clear hK K
      try simp only[zZ]
      have hownd:=qG5 HOr.out HIN.out (Apt.nil _ _);have hown3:=qG5 (zL2 hownd hW2 (by decide) (hYd.apt.sub (by decide))) hK3 (Apt.nil _ _);refine zq 7 fun K hK=>?_;refine qM1 rfl rfl (.agg #[.string ⟨#[]⟩,.int .i64 0,.int .u64 0,.pointer none]) 4 40 underlying150 qR2 rfl (by decide) (w.heap.size+4) vj j _ (by simp[Act.eval]) hown3 d 0 1 1 #[.string X.key,.int .i64 X.b,.int .u64 X.s,.pointer none] 81 (0,0) (by simp[Act.eval]) hB3 (by simp) (by simp[qA1,Value.oneCell']) (by omega) (by omega) (by omega) ?_;intro v4 w4 hown4 hgr4 _;obtain⟨g1,cap1,rfl⟩:=qJ6 (n:=j) hown4;have hKg:Kp vj.ownBlock.toList w3 w4:=(Kp.refl _ _).grown hgr4 (fun k hk=>Or.inl (by simp[hk]));have hlo:∀ k,k<w.heap.size+4∨k=wr.heap.size→k ∉ vj.ownBlock.toList:=fun k hk hm=>by
       have h1:=qR5 HOr.out k (by simpa using hm);omega
      have hS4:=And.intro (hKg.heap hS3.1 (hlo _ (by omega))) (hKg.heap hS3.2 (hlo _ (Or.inr rfl)));have hN4:=hKg.heap hN3 (hlo _ (by omega));have hN4s:=ζ hN4;refine hK.out _ _ hS4 (fun _=>?_);clear hK K
      try simp only[zZ]
      refine zU 8 (.pointer (some ⟨w.heap.size+3,2,none⟩)) hS4 ?_;refine zq 9 fun K hK=>?_;have d2:=ξ hN4 2;simp only[υ,zG,zH,zI] at d2;have e2:=ψ hN4 2;go_simp;have hKs:Kp [w.heap.size+3] w4 (w4.setCell ⟨w.heap.size+3,2,none⟩ (.slice (some ⟨g1,0,none⟩) (j+1) cap1)):=(Kp.refl _ _).sc _;have hR5:=φ hN4 2 (.slice (some ⟨g1,0,none⟩) (j+1) cap1);have haN:∀ {Ts:List TypeId},152 ∉ Ts→Apt w4 [w.heap.size+3] Ts:=fun hT q hq c t fr e=>by rw[List.mem_singleton.1 hq,hN4] at e;cases e;exact hT
      generalize w4.setCell ⟨w.heap.size+3,2,none⟩ (.slice (some ⟨g1,0,none⟩) (j+1) cap1)=w5 at hKs hR5 ⊢;refine hK.out _ _ ⟨hKs.hp hS4.1,hKs.ho hS4.2⟩ (fun _=>?_);clear hK K d2 e2;refine zd ?_
      try simp only[zZ]
      have hw5:Wx base [A,F] w w5:=((((HWr.out.trans ((Wx.ofKp (HIN.out.mono (by simp)) HYr.out.low).trans hW2)).tail hK3 (by simp) HY.out.low).tail hKg (fun k hk=>by have:=qR5 HOr.out k (by simpa using hk);omega) HY.out.low).tail hKs (by simp) HY.out.low);have hy5:=((hy2.keep hK3).turn hKg (zL0 hown3 (by decide))).turn hKs (haN (by decide));have hK35:∀ k c t fr,w3.heap[k]?=some (.cells c t fr)→k<w.heap.size+3→w5.heap[k]?=some (.cells c t fr):=fun k c t fr e hk=>hKs.heap (hKg.heap e (hlo k (by omega))) (by simp;omega);have hto:∀ k c t fr,wr.heap[k]?=some (.cells c t fr)→t≠89→w.heap.size≤k→k<w.heap.size+3→w5.heap[k]?=some (.cells c t fr):=fun k c t fr e ht h1 h2=>hK35 k c t fr (hK3.heap (hW2.oth _ _ _ _ (HIN.out.hp e) ht (by simp;omega)) (by simp)) h2;show K0 _ w5;refine HREST g1 cap1 d w5 ⟨by have:=hKs.size;have:=hKg.size;omega,hto _ _ _ _ HLr.out (by decide) (by omega) (by omega),hto _ _ _ _ HTr.out (by decide) (by omega) (by omega),hto _ _ _ _ HRr.out (by decide) (by omega) (by omega),hR5,?_,hy5,hw5⟩;have e:qA7 ((qB1 (ω n) ((η L.sub).take (j+1)) fr0).1.map lhl)=qA7 ((qB1 (ω n) ((η L.sub).take j) fr0).1.map lhl)++(qA1 #[.string X.key,.int .i64 X.b,.int .u64 X.s,.pointer none] 0 (1*4)).toList:=by
       rw[HSN.out,List.map_append,List.map_cons,List.map_nil,←HX.out];simp[qA7,lcs,qA1,hXp]
      rw[e];exact qG5 hown4 hKs (haN (by decide))
     ·skip
      go_simp;obtain⟨w3,hw3,hB3,hK3,hs3⟩:=qE8 w2 (.cells #[.string X.key,.int .i64 X.b,.int .u64 X.s,.pointer none] 81);rw[←hw3];clear hw3;obtain⟨d,hd⟩:∃ d,d=w2.heap.size:=⟨_,rfl⟩;rw[←hd] at hB3 ⊢;clear hd;have hS3:=And.intro (hK3.hp hS2.1) (hK3.hp hS2.2);have hN3:=hK3.hp hN2;refine hK.out _ _ hS3 (fun _=>?_);clear hK K
      try simp only[zZ]
      refine zq 1 fun K hK=>?_;have c2:=ξ hN3 2;simp only[υ,zG,zH,zI] at c2;go_simp;refine hK.out _ _ hS3 (fun _=>?_);clear hK K c2
      try simp only[zZ]
      have hownd:=qG5 HOr.out HIN.out (Apt.nil _ _);have hown3:=qG5 (zL2 hownd hW2 (by decide) (hYd.apt.sub (by decide))) hK3 (Apt.nil _ _);refine zq 7 fun K hK=>?_;refine qM1 rfl rfl (.agg #[.string ⟨#[]⟩,.int .i64 0,.int .u64 0,.pointer none]) 4 40 underlying150 qR2 rfl (by decide) (w.heap.size+4) vj j _ (by simp[Act.eval]) hown3 d 0 1 1 #[.string X.key,.int .i64 X.b,.int .u64 X.s,.pointer none] 81 (0,0) (by simp[Act.eval]) hB3 (by simp) (by simp[qA1,Value.oneCell']) (by omega) (by omega) (by omega) ?_;intro v4 w4 hown4 hgr4 _;obtain⟨g1,cap1,rfl⟩:=qJ6 (n:=j) hown4;have hKg:Kp vj.ownBlock.toList w3 w4:=(Kp.refl _ _).grown hgr4 (fun k hk=>Or.inl (by simp[hk]));have hlo:∀ k,k<w.heap.size+4∨k=wr.heap.size→k ∉ vj.ownBlock.toList:=fun k hk hm=>by
       have h1:=qR5 HOr.out k (by simpa using hm);omega
      have hS4:=And.intro (hKg.heap hS3.1 (hlo _ (by omega))) (hKg.heap hS3.2 (hlo _ (Or.inr rfl)));have hN4:=hKg.heap hN3 (hlo _ (by omega));have hN4s:=ζ hN4;refine hK.out _ _ hS4 (fun _=>?_);clear hK K
      try simp only[zZ]
      refine zU 8 (.pointer (some ⟨w.heap.size+3,2,none⟩)) hS4 ?_;refine zq 9 fun K hK=>?_;have d2:=ξ hN4 2;simp only[υ,zG,zH,zI] at d2;have e2:=ψ hN4 2;go_simp;have hKs:Kp [w.heap.size+3] w4 (w4.setCell ⟨w.heap.size+3,2,none⟩ (.slice (some ⟨g1,0,none⟩) (j+1) cap1)):=(Kp.refl _ _).sc _;have hR5:=φ hN4 2 (.slice (some ⟨g1,0,none⟩) (j+1) cap1);have haN:∀ {Ts:List TypeId},152 ∉ Ts→Apt w4 [w.heap.size+3] Ts:=fun hT q hq c t fr e=>by rw[List.mem_singleton.1 hq,hN4] at e;cases e;exact hT
      generalize w4.setCell ⟨w.heap.size+3,2,none⟩ (.slice (some ⟨g1,0,none⟩) (j+1) cap1)=w5 at hKs hR5 ⊢;refine hK.out _ _ ⟨hKs.hp hS4.1,hKs.ho hS4.2⟩ (fun _=>?_);clear hK K d2 e2;refine zd ?_
      try simp only[zZ]
      have hw5:Wx base [A,F] w w5:=((((HWr.out.trans ((Wx.ofKp (HIN.out.mono (by simp)) HYr.out.low).trans hW2)).tail hK3 (by simp) HY.out.low).tail hKg (fun k hk=>by have:=qR5 HOr.out k (by simpa using hk);omega) HY.out.low).tail hKs (by simp) HY.out.low);have hy5:=((hy2.keep hK3).turn hKg (zL0 hown3 (by decide))).turn hKs (haN (by decide));have hK35:∀ k c t fr,w3.heap[k]?=some (.cells c t fr)→k<w.heap.size+3→w5.heap[k]?=some (.cells c t fr):=fun k c t fr e hk=>hKs.heap (hKg.heap e (hlo k (by omega))) (by simp;omega);have hto:∀ k c t fr,wr.heap[k]?=some (.cells c t fr)→t≠89→w.heap.size≤k→k<w.heap.size+3→w5.heap[k]?=some (.cells c t fr):=fun k c t fr e ht h1 h2=>hK35 k c t fr (hK3.heap (hW2.oth _ _ _ _ (HIN.out.hp e) ht (by simp;omega)) (by simp)) h2;show K0 _ w5;refine HREST g1 cap1 d w5 ⟨by have:=hKs.size;have:=hKg.size;omega,hto _ _ _ _ HLr.out (by decide) (by omega) (by omega),hto _ _ _ _ HTr.out (by decide) (by omega) (by omega),hto _ _ _ _ HRr.out (by decide) (by omega) (by omega),hR5,?_,hy5,hw5⟩;have e:qA7 ((qB1 (ω n) ((η L.sub).take (j+1)) fr0).1.map lhl)=qA7 ((qB1 (ω n) ((η L.sub).take j) fr0).1.map lhl)++(qA1 #[.string X.key,.int .i64 X.b,.int .u64 X.s,.pointer none] 0 (1*4)).toList:=by
       rw[HSN.out,List.map_append,List.map_cons,List.map_nil,←HX.out];simp[qA7,lcs,qA1,hXp]
      rw[e];exact qG5 hown4 hKs (haN (by decide))
   rintro g c d W ⟨e1,e2,e3,e4,e5,e6,e7,e8⟩;refine hK0 _ _ ?_;have HE:Hid (w.heap.size+4≤W.heap.size∧W.heap[w.heap.size+1]?=some (.cells #[.string h.key,.int .i64 h.b,.int .u64 h.s,.pointer (some ⟨q,0,none⟩)] 81)∧W.heap[w.heap.size]?=some (.cells #[.pointer (some ⟨V,0,none⟩),.string r.key,.int .i64 r.b,.int .u64 r.s,.pointer r.ptr] 83)∧W.heap[w.heap.size+1+1]?=some (.cells #[.string ⟨#[]⟩,.int .i64 0,.int .u64 0,.pointer none] 81)∧W.heap[w.heap.size+3]?=some (υ lv (.slice pb pn pc) (.slice (some ⟨g,0,none⟩) (j+1) c))∧W.ownsRow (w.heap.size+4) 81 4 (.slice (some ⟨g,0,none⟩) (j+1) c) (j+1) (qA7 ((qB1 (ω n) ((η L.sub).take (j+1)) fr0).1.map lhl))∧LyF κ wn V A N C base F l (ws++(qB1 (ω n) ((η L.sub).take (j+1)) fr0).2.1) (qB1 (ω n) ((η L.sub).take (j+1)) fr0).2.2 W∧Wx base [A,F] w W):=⟨e1,e2,e3,e4,e5,e6,e7,e8⟩;clear e1 e2 e3 e4 e5 e6 e7 e8 hSd hKd hNd hYd h91 hK1 hK0 K0;go_wp2;exact⟨⟨j+1,_,by omega,by go_num,HE.out.1,HE.out.2.1,HE.out.2.2.1,HE.out.2.2.2.1,HE.out.2.2.2.2.1,HE.out.2.2.2.2.2.1,HE.out.2.2.2.2.2.2.1,HE.out.2.2.2.2.2.2.2⟩,by simp[intOf];omega⟩
  ·have hje:(η L.sub).take j=η L.sub:=List.take_of_length_le (by rw[←HBO.out.1];have:=HPN.out;omega);have hjn:j=(η L.sub).length:=by rw[←HBO.out.1];have:=HPN.out;omega
   have hjb:¬(j:Int)<(ln:Int):=by omega
   have hfr:=HRE.out.2;have hRe:=HRE.out.1;have hOe:=HOr.out;have hYe:=HYr.out;rw[hje] at hOe hYe;rw[hfr] at hYe;have hb:b<N:=hf b (by have h:=qO9 (ω n) (news n) (η L.sub) fr0 (fun l _ fr=>qL7 n l fr);rw[hfr] at h;exact List.mem_of_mem_drop (h ▸ List.mem_cons_self));have hcnt:=zB5 (ω n) (news n) (η L.sub) fr0 (fun l _ fr=>qU2 n l fr);have hlen:=zI8 (ω n) (η L.sub) fr0;have hfl:fr.length≤100000:=by have h:=congrArg List.length (qO9 (ω n) (news n) (η L.sub) fr0 (fun l _ fr=>qL7 n l fr));rw[hfr] at h;simp at h;omega
   have hms:=zB6 n (η L.sub) fr0;have hzl:=xB0 N n hNN (η L.sub) fr0 (fun l hl=>by
    obtain⟨i,hi,rfl⟩:=List.getElem_of_mem hl;refine⟨by have h:=hok _ hl;cases n with | zero=>exact h.1 | succ n=>exact h.1,fun x hx=>?_⟩;have h2:=(HBO.out.2 i (by rw[HBO.out.1];exact hi) hi).2;rw[hx] at h2;exact hO _ _ _ _ h2.2.2.2) hf
   rw[←hRe] at hOe hYe hcnt hlen hms hzl;have hfx:(b::fr).length+meas (news n) (η L.sub)=fr0.length:=by have h:=congrArg List.length (qO9 (ω n) (news n) (η L.sub) fr0 (fun l _ fr=>qL7 n l fr));rw[HRE.out.2,List.length_drop] at h;omega
   have hwl:(ws++R.2.1).length<100000:=by rw[List.length_append,hcnt];simp at hfx;omega
   have HTHR:Hid ((∀ x∈ws++R.2.1,x∈ws∨x.1∈fr0)∧(ws++R.2.1).length≤ws.length+(1+meas (news n) (η L.sub))):=by
    refine⟨fun x hx=>?_,by rw[List.length_append,hcnt];omega⟩;rcases List.mem_append.1 hx with hx|hx
    ·exact .inl hx
    ·rw[HRE.out.1] at hx;exact .inr (zZ5 n _ fr0 hn x hx)
   have HYE:=zh hYe;have HOE:Hid (wr.ownsRow (w.heap.size+4) 81 4 vj (R.1.map lhl).length (qA7 (R.1.map lhl))):=by rw[List.length_map,hlen,←hjn];exact hOe
   have HZL:=zh hzl;have HMS:Hid (2+meas ρ []+meas qA0 (R.1.map lhl)≤128∧([]:List KV).length+(R.1.map lhl).length≤255):=⟨by rw[hms,qE2];omega,by rw[List.length_map,hlen];simp;omega⟩;clear hje hjn hOe hYe hcnt hlen hms hzl hfr hRe IH hok hm hn hfx;go_wp2_with fail;have hSd:wr.drew.heap[w.heap.size+1]?=some (.cells #[.string h.key,.int .i64 h.b,.int .u64 h.s,.pointer (some ⟨q,0,none⟩)] 81)∧wr.drew.heap[w.heap.size]?=some (.cells #[.pointer (some ⟨V,0,none⟩),.string r.key,.int .i64 r.b,.int .u64 r.s,.pointer r.ptr] 83):=⟨HLr.out,HTr.out⟩;refine wp_region_held_drew (S:=fun W=>W.heap[w.heap.size+1]?=some (.cells #[.string h.key,.int .i64 h.b,.int .u64 h.s,.pointer (some ⟨q,0,none⟩)] 81)∧W.heap[w.heap.size]?=some (.cells #[.pointer (some ⟨V,0,none⟩),.string r.key,.int .i64 r.b,.int .u64 r.s,.pointer r.ptr] 83)) (by kernel_rfl) hSd (fun _=>?_);refine zU 0 (.pointer (some ⟨w.heap.size+1,0,none⟩)) hSd ?_;refine zV 1 (.string h.key) rfl (fun W hS=>by have a:=ξ hS.1 0;simp only[zG,zH,zI] at a;clear hS;go_simp) hSd ?_;refine zP 2 w.heap.size 0 hSd ?_;refine zV 3 (.pointer (some ⟨V,0,none⟩)) rfl (fun W hS=>by have a:=ξ hS.2 0;simp only[zG,zH,zI] at a;clear hS;go_simp) hSd ?_;refine zU 4 (.func (.func 107) #[] #[.pointer (some ⟨F,0,none⟩)]) hSd ?_;refine zq 5 fun K hK=>?_;have hcf:=zS8;go_simp;refine ((HYE.out.keep ((Kp.refl _ wr).drew)).next hfl).mono ?_;rintro e w3 ⟨rfl,hy3,hW3⟩;have hS3:=And.intro (hW3.oth _ _ _ _ hSd.1 (by decide) (by simp;omega)) (hW3.oth _ _ _ _ hSd.2 (by decide) (by simp;omega));have hR3:=hW3.oth _ _ _ _ HRr.out (by decide) (by simp;omega);have hq3:=hW3.oth _ _ _ _ HNr.out (by decide) (by simp;omega);have hs3:=hW3.size;have hsl3:=((qF7 HOE.out).keep0 ((Kp.refl _ wr).drew)).wx hW3 (by decide) ((HYE.out.keep ((Kp.refl _ wr).drew)).apt.sub (by decide));refine hK.out _ _ hS3 (fun _=>?_);clear hK K hcf
   try simp only[zZ]
   refine zq 6 fun K hK=>?_;go_simp;refine (hy3.lay hwl hb (w.heap.size+3) lv (.slice pb pn pc) vj [] (R.1.map lhl) hq3 (by have:=HPN.out;omega) (by have:=HPN.out;omega) (by have e:=HPN.out;rw[e.1,e.2.1,e.2.2.1];exact⟨rfl,Or.inl ⟨rfl,none,0,rfl,fun _=>rfl⟩⟩) hsl3 HMS.out.1 HMS.out.2 (by simp) HZL.out).mono ?_;rintro e w4 ⟨(⟨hio,hD4⟩|⟨rfl,hy4⟩),hW4⟩
   ·obtain⟨hnq,p,rfl⟩:=hio;clear hK;go_wp2;exact⟨rfl,.inl (LyX.of ⟨hnq,p,rfl⟩ hD4 HTHR.out.1 HTHR.out.2),((HWr.out).trans (((Wx.ofKp (Kp.mono (S:=[]) ((Kp.refl _ wr).drew) (by simp)) HYE.out.low).trans hW3).trans hW4))⟩
   have hS4:=And.intro (hW4.oth _ _ _ _ hS3.1 (by decide) (by simp;omega)) (hW4.oth _ _ _ _ hS3.2 (by decide) (by simp;omega));have hR4:=hW4.oth _ _ _ _ hR3 (by decide) (by simp;omega);refine hK.out _ _ hS4 (fun _=>?_);clear hK K
   try simp only[zZ]
   refine zU 7 (.agg #[.string h.key,.int .i64 b,.int .u64 (fnv (qA2 lv [] (R.1.map lhl))),.pointer none]) hS4 ?_;refine zq 8 fun K hK=>?_;have z0:=ξ hR4;have f0:=ψ hR4;have hR4s:=ζ hR4;have hls:=qK0 (.string h.key) (.int .i64 (b:Int)) (.int .u64 (fnv (qA2 lv [] (R.1.map lhl)))) (.pointer none) hR4;have HR4:=zh hR4;clear hR4;go_simp;obtain⟨w5,hw5,hR5,hK5⟩:∃ w5,w5=(((w4.setCell ⟨w.heap.size+1+1,0,none⟩ (.string h.key)).setCell ⟨w.heap.size+1+1,1,none⟩ (.int .i64 (b:Int))).setCell ⟨w.heap.size+1+1,2,none⟩ (.int .u64 (fnv (qA2 lv [] (R.1.map lhl))))).setCell ⟨w.heap.size+1+1,3,none⟩ (.pointer none)∧w5.heap[w.heap.size+1+1]?=some (.cells #[.string h.key,.int .i64 (b:Int),.int .u64 (fnv (qA2 lv [] (R.1.map lhl))),.pointer none] 81)∧Kp [w.heap.size+1+1] w4 w5:=⟨_,rfl,hls.1,hls.2⟩;rw[←hw5];clear hw5 hls z0 f0;refine hK.out _ _ ⟨hK5.hp hS4.1,hK5.ho hS4.2⟩ (fun _=>?_);clear hK K;refine zd ?_
   try simp only[zZ]
   have hap:Apt w4 [w.heap.size+1+1] (qZ8++[22,3]):=fun q hq c t fr e=>by rw[List.mem_singleton.1 hq,HR4.out] at e;cases e;decide
   have HY5:Hid (LyF κ wn V A N C base F l (ws++R.2.1++[(b,toB (qA2 lv [] (R.1.map lhl)))]) fr w5):=hy4.turn hK5 hap;have HW5:Hid (Wx base [A,F] w w5):=((HWr.out).trans (((Wx.ofKp (Kp.mono (S:=[]) ((Kp.refl _ wr).drew) (by simp)) HYE.out.low).trans hW3).trans hW4)).tail hK5 (by simp;omega) HY.out.low;have HR5:=zh hR5;clear hSd hS3 hS4 hR3 hq3 hy3 hW3 hy4 hW4 hR5 hK5 hap HR4 hR4s;go_wp2_with fail;exact bodyPost_ret (results_cell_row results106 _ _ (w.heap.size+1+1) 81 #[.string h.key,.int .i64 (b:Int),.int .u64 (fnv (qA2 lv [] (R.1.map lhl))),.pointer none] (0,0) _ rfl HR5.out underlying81 rfl (by kernel_rfl)) rfl ⟨.inr ⟨by simp only[qC2,HL.ptr,HPN.out.2.2.2.1,Option.map_none],by have h:=HY5.out;rw[HPN.out.2.2.2.1] at h;exact h⟩,HW5.out⟩
variable {κ:Kd}
theorem Dk.rebase{V A N C base:Nat}{l:List UInt8}{wr:Int}{w:World}(h:Dk κ V A N C base l [] wr w):Dk κ V A N C w.heap.size l [] wr w:=by
 obtain⟨v,c,h1,h2,h3⟩:=h.hA;have hv:=h3 rfl;subst hv;exact⟨h.hV,⟨_,c,h1,World.ownsRow_nil _ _ _ _,fun _=>rfl⟩,h.hC,h.gl,Nat.le_refl _,h.fit,h.wl,h.len,h.N1⟩
theorem jF6(wn:Int)(V A N C base F:Nat)(l:List UInt8)(O:qE1)(hO:∀ (n b:Nat) (s:Int) (t:Tn n),O n b s t→b≤1000000∧0≤s)(hN:N≤1000)(n:Nat)(IH:qV5 κ wn V A N C base F l O n):qV5 κ wn V A N C base F l O (n+1):=by
 intro h r L fr ws w hy hr ho hn hf hl
 cases hx:L.ref with
 | some x=>
  have hs:L.ref.isSome:=by rw[hx];rfl
  obtain⟨hp,he⟩:=zK9 hr hs;have e:ω (n+1) L fr=(L,[],fr):=by simp only[ω,if_pos hs]
  rw[e];refine (zJ3 V r h (qR4 F) w hp).mono ?_;rintro e w' ⟨rfl,hK⟩;exact⟨.inr ⟨by rw[←he],by simpa using hy.keep hK⟩,Wx.ofKp (hK.mono (by simp)) hy.low⟩
 | none=>
  obtain⟨hk,q,hp,hq⟩:=zK1 hr hx;have hns:¬L.ref.isSome=true:=by rw[hx];simp
  have h1:news (n+1) L=1+meas (news n) (η L.sub):=by simp only[news,if_neg hns]
  have hfree:=qO9 (ω n) (news n) (η L.sub) fr (fun l _ fr=>qL7 n l fr);obtain⟨z1,z2,z3,z4⟩:=ho.2 hx
  cases hfr:(qB1 (ω n) (η L.sub) fr).2.2 with
  | nil=>
   have h2:=congrArg List.length hfree;rw[hfr,List.length_drop] at h2;simp at h2;omega
  | cons b fr'=>
   have e:ω (n+1) L fr=(⟨L.key,some (b,fnv (qA2 ((n+1:Nat):Int) [] ((qB1 (ω n) (η L.sub) fr).1.map lhl))),(qB1 (ω n) (η L.sub) fr).1⟩,(qB1 (ω n) (η L.sub) fr).2.1++[(b,toB (qA2 ((n+1:Nat):Int) [] ((qB1 (ω n) (η L.sub) fr).1.map lhl)))],fr'):=by
    simp only[ω,if_neg hns,hfr,List.headD_cons,List.tail_cons]
   rw[e];refine (jF8 wn V A N C base F l O hO n IH hN h r q L b fr fr' ws w hy hp hq z1 z2 z3 z4 (by omega) hf hl hfr).mono ?_;rintro e w' ⟨(h2|⟨rfl,h2⟩),h3⟩
   ·exact⟨.inl (by rw[h1];exact h2),h3⟩
   exact⟨.inr ⟨by simp only[lhl,hk,Option.getD_some],by rw[←List.append_assoc];exact h2⟩,h3⟩
theorem zZ4(wn:Int)(V A N C base F:Nat)(l:List UInt8)(O:qE1)(hO:∀ (n b:Nat) (s:Int) (t:Tn n),O n b s t→b≤1000000∧0≤s)(hN:N≤1000):∀ n,qV5 κ wn V A N C base F l O n
 | 0=>jF7 wn V A N C base F l O
 | n+1=>jF6 wn V A N C base F l O hO hN n (zZ4 wn V A N C base F l O hO hN n)
def qV4(κ:Kd)(V A N C base:Nat)(l:List UInt8)(wn:Int)(fr:List Nat)(k:Nat)(e:Ending)(w:World):Prop:=
 Io κ e∧∃ ws',Dk κ.up V A N C base l ws' (nk wn ws'.length) w∧(∀ x∈ws',x.1∈fr)∧ws'.length≤k
theorem xG3{V A N C base:Nat}{l:List UInt8}{wn:Int}{w:World}(hd:Dk κ V A N C base l [] wn w)(h X:HL)(fr:List Nat)(k:Nat)(ws:List (Nat × List UInt8))(v:Value)(hv:Slc w 3 1 v fr.length (ints fr))(hfw:∀ x∈ws,x.1∈fr)(hwl:ws.length≤k)(hXp:X.ptr=none)
  (hcall:∀ (F:Nat) (w0:World),Kp [] w w0→LyF κ wn V A N C w0.heap.size F l [] fr w0→Calls prog 106 #[τ V h,qC2 h,qR4 F] w0 fun e w'=>(LyX κ wn V A N C w0.heap.size l [] fr k e w'∨(e=.returned (qC2 X)∧(∃ fr',LyF κ wn V A N C w0.heap.size F l ws fr' w')))∧Wx w0.heap.size [A,F] w0 w'):
  Calls prog 69 #[τ V h,v] w fun e w'=>((∃ b,w.heap.size≤b∧qV4 κ V A N C b l wn fr k e w')∨(e=.returned (.agg #[.int .i64 X.b,.int .u64 X.s])∧∃ b,w.heap.size≤b∧Dk κ V A N C b (laidAll l ws) [] (nk wn ws.length) w'))∧Kp [A,C] w w':=by
 obtain⟨bs,cp,rfl⟩:=qM0 hv;obtain⟨fl,hfl⟩:∃ fl,fl=fr.length:=⟨_,rfl⟩;have HV:Hid (Slc w 3 1 (.slice bs fl cp) fr.length (ints fr)):=by rw[hfl];exact hv
 rw[←hfl];have HD:=zh hd;have HFL:=zh hfl;have HWS:Hid ((∀ x∈ws,x.1∈fr)∧ws.length≤k):=⟨hfw,hwl⟩;have hAs:=hd.sA;have hCs:=ζ hd.hC;have HCALL:=zh hcall;clear hd hv hfl hcall hfw hwl;rw[τ];go_enter func69,ntmps69;go_wp2_with fail;obtain⟨w0,hw0,hT0,hF0,hR0,hK0,hs0⟩:=qV7 w (.cells #[.pointer (some ⟨V,0,none⟩),.string h.key,.int .i64 h.b,.int .u64 h.s,.pointer h.ptr] 83) (.cells #[.slice bs fl cp] 22) (.cells #[.int .i64 0,.int .u64 0] 78);rw[←hw0];clear hw0;have hd0:=HD.out.keep0 hK0;have hy:LyF κ wn V A N C w0.heap.size (w.heap.size+1) l [] fr w0:=⟨hd0.rebase,⟨_,hF0,HV.out.keep0 hK0⟩⟩;refine (show Calls _ _ _ _ _ from HCALL.out (w.heap.size+1) w0 hK0 hy).mono ?_;rintro e w1 ⟨hres,hW1⟩;have hs1:=hW1.size;have HK1:Hid (Kp [A] w w1):=⟨hW1.os.trans hK0.os,hW1.tape.trans hK0.tape,hW1.output.trans hK0.output,Nat.le_trans hK0.size hW1.size,fun k hk hm=>(hW1.low k (by omega) (by simp at hm ⊢;omega)).trans (hK0.block k hk (by simp))⟩;rcases hres with⟨⟨hnq,p,rfl⟩,ws',hD1,hx1,hl1⟩|⟨rfl,fr',hy1⟩
 ·go_wp2;exact⟨rfl,.inl ⟨w0.heap.size,by omega,⟨hnq,p,rfl⟩,ws',hD1,fun x hx=>(hx1 x hx).elim (fun h=>by cases h) id,by simpa using hl1⟩,HK1.out.mono (by simp)⟩
 rw[qC2,hXp];have hT1:=hW1.oth _ _ _ _ hT0 (by decide) (by simp;omega);have hR1:=hW1.oth _ _ _ _ hR0 (by decide) (by simp;omega);have HD1:=zh hy1.dk;have HS0:Hid (w.heap.size≤w0.heap.size):=by show _≤_;omega
 clear hy hy1 hW1 hT0 hF0 hR0 hK0 HV HCALL hd0;have t0:=ξ hT1 0;simp only[zG,zH,zI] at t0;have hT1s:=ζ hT1;go_wp2_with fail;obtain⟨w2,hw2,hL2,hK2,hs2⟩:=qE8 w1 (.cells #[.string X.key,.int .i64 X.b,.int .u64 X.s,.pointer none] 81);rw[←hw2];clear hw2 t0;refine (zM0 (HD1.out.keep0 hK2)).mono ?_;rintro e w3 (⟨⟨hnq,p,rfl⟩,hD3,hK3⟩|⟨rfl,hD3,hK3⟩)
 ·go_wp2;exact⟨rfl,.inl ⟨w0.heap.size,HS0.out,⟨hnq,p,rfl⟩,ws,hD3,HWS.out.1,HWS.out.2⟩,((HK1.out.mono (S':=[A,C]) (by simp)).tr hK2).trans (hK3.mono (S':=[A,C]) (by simp)) (by simp)⟩
 have hL3:=hK3.ho hL2;have hR3:=hK3.heap (hK2.hp hR1) (by simp;omega);have hL3s:=ζ hL3;have hR3s:=ζ hR3;have z1:=ξ hL3;have y0:=ξ hR3;have fy0:=ψ hR3;have HR3:=zh hR3;have HEND:Hid (Dk κ V A N C w0.heap.size (laidAll l ws) [] (nk wn ws.length) w3∧Kp [A,C] w w3):=⟨hD3,((HK1.out.mono (by simp)).tr hK2).tr hK3⟩;clear hD3 hK3 hL2 hK2 hR1 hT1 HK1 hL3 hR3;go_wp2_with fail;have hK4:Kp [w.heap.size+1+1] w3 ((w3.setCell ⟨w.heap.size+1+1,0,none⟩ (.int .i64 X.b)).setCell ⟨w.heap.size+1+1,1,none⟩ (.int .u64 X.s)):=((Kp.refl _ _).sc _).sc _;have hR4:=φ (φ HR3.out 0 (.int .i64 X.b)) 1 (.int .u64 X.s);obtain⟨e1,e4⟩:=HEND.out;refine bodyPost_ret (results_cell_row results69 _ _ (w.heap.size+1+1) 78 #[.int .i64 X.b,.int .u64 X.s] (0,0) _ rfl hR4 underlying78 rfl (by kernel_rfl)) rfl ?_;exact⟨.inr ⟨rfl,w0.heap.size,HS0.out,e1.keep hK4 (fun q hq c t fr e=>by rw[List.mem_singleton.1 hq,HR3.out] at e;cases e;decide)⟩,e4.trans hK4 (by simp;omega)⟩
theorem jV6{V A N C base:Nat}{l:List UInt8}{wn:Int}{w:World}(hd:Dk κ V A N C base l [] wn w)(O:qE1)(hO:∀ (n b:Nat) (s:Int) (t:Tn n),O n b s t→b≤1000000∧0≤s)(n:Nat)(h:HL)(L:Lnk (Tn n))(fr:List Nat)(v:Value)(hr:RL O n w h L)(ho:OkL n L)(hn:news n L≤fr.length)(hf:∀ b∈fr,b<N)(hl:fr.length≤10000)(hv:Slc w 3 1 v fr.length (ints fr)):
  Calls prog 69 #[τ V h,v] w fun e w'=>((∃ b,w.heap.size≤b∧qV4 κ V A N C b l wn fr (news n L) e w')∨(e=.returned (.agg #[.int .i64 (lhl (ω n L fr).1).b,.int .u64 (lhl (ω n L fr).1).s])∧∃ b,w.heap.size≤b∧Dk κ V A N C b (laidAll l (ω n L fr).2.1) [] (nk wn (ω n L fr).2.1.length) w'))∧Kp [A,C] w w':=by
 have hwc:=qU2 n L fr;have hin:∀ x∈(ω n L fr).2.1,x.1∈fr:=fun x hx=>by
  have h1:x.1∈(ω n L fr).2.1.map Prod.fst:=List.mem_map_of_mem hx;rw[qW9 n L fr hn] at h1;exact List.mem_of_mem_take h1
 refine xG3 hd h (lhl (ω n L fr).1) fr (news n L) (ω n L fr).2.1 v hv hin (by omega) rfl ?_;intro F w0 hK0 hy;refine (zZ4 wn V A N C w0.heap.size F l O hO hd.N1 n h h L fr [] w0 hy (RL.keep hr hK0 (Apt.nil _ _)) ho hn hf (by simp;omega)).mono ?_;rintro e w1 ⟨(hx|⟨rfl,hy1⟩),hW1⟩
 ·exact⟨.inl hx,hW1⟩
 ·exact⟨.inr ⟨rfl,_,by simpa using hy1⟩,hW1⟩
theorem jV7{V A N C base:Nat}{l:List UInt8}{wn:Int}{w:World}(hd:Dk κ V A N C base l [] wn w)(fr:List Nat)(v:Value)(hv:Slc w 3 1 v fr.length (ints fr)):
  Calls prog 69 #[τ V ⟨⟨#[]⟩,0,0,none⟩,v] w fun e w'=>((∃ b,w.heap.size≤b∧qV4 κ V A N C b l wn fr 0 e w')∨(e=.returned (.agg #[.int .i64 0,.int .u64 0])∧∃ b,w.heap.size≤b∧Dk κ V A N C b l [] wn w'))∧Kp [A,C] w w':=by
 refine xG3 hd ⟨⟨#[]⟩,0,0,none⟩ ⟨⟨#[]⟩,0,0,none⟩ fr 0 [] v hv (by simp) (by simp) rfl ?_;intro F w0 hK0 hy;refine (zJ3 V _ ⟨⟨#[]⟩,0,0,none⟩ (qR4 F) w0 rfl).mono ?_;rintro e w1 ⟨rfl,hK⟩;exact⟨.inr ⟨rfl,_,hy.keep hK⟩,Wx.ofKp (hK.mono (by simp)) hy.low⟩
end Go.Proofs.YtdohpenfkdckiabGreatDoor
