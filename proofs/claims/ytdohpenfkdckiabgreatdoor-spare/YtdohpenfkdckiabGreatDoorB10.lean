import Derived.Test.YtdohpenfkdckiabGreatDoorB09
set_option linter.all false
set_option maxRecDepth 100000
set_option maxHeartbeats 20000000
namespace Go.Proofs.YtdohpenfkdckiabGreatDoor
open Go.Proofs.Tryz
open Go.RowKit
structure Wr(base A:Nat)(w w':World):Prop where
 os:w'.os=w.os
 tape:w'.tape=w.tape
 output:w'.output=w.output
 size:w.heap.size≤w'.heap.size
 low:∀ k,k<base→k≠A→w'.heap[k]?=w.heap[k]?
 oth:∀ (k:Nat) (c:Array Value) (t:TypeId) (fr:Nat × Nat),w.heap[k]?=some (.cells c t fr)→t≠89→k≠A→w'.heap[k]?=some (.cells c t fr)
theorem Wr.trans{base A:Nat}{a b c:World}(h:Wr base A a b)(k:Wr base A b c):Wr base A a c:=
 ⟨k.os.trans h.os,k.tape.trans h.tape,k.output.trans h.output,Nat.le_trans h.size k.size,fun q h1 h2=>(k.low q h1 h2).trans (h.low q h1 h2),fun q c t fr e h1 h2=>k.oth q c t fr (h.oth q c t fr e h1 h2) h1 h2⟩
theorem Wr.ofKp{base A:Nat}{a b:World}(h:Kp [A] a b)(hb:base≤a.heap.size):Wr base A a b:=
 ⟨h.os,h.tape,h.output,h.size,fun k h1 h2=>h.block k (by omega) (by simpa using h2),fun k c t fr e h1 h2=>h.heap e (by simpa using h2)⟩
theorem Wr.grown{base A:Nat}{a w w':World}{sz:Nat}{v:Value}{n:Nat}{xs:List Value}(s:Wr base A a w)(hb:base≤a.heap.size)(h:w.ownsRow base 89 sz v n xs)(hg:w.grownBy w' v.ownBlock):Wr base A a w':=
 ⟨hg.os.trans s.os,hg.tape.trans s.tape,hg.output.trans s.output,Nat.le_trans s.size hg.size,fun k h1 h2=>by
  refine (hg.block k (by have:=s.size;omega) ?_).trans (s.low k h1 h2);intro e;have:=qG3 h k e.symm;omega,fun k c t fr e h1 h2=>qM4 h hg (s.oth k c t fr e h1 h2) h1⟩
theorem qE8{w w':World}{S:List Nat}{base:Nat}{e:TypeId}{sz:Nat}{v:Value}{n:Nat}{xs:List Value}(h:w.ownsRow base e sz v n xs)(hK:Kp S w w')(hS:Apt w S [e]):w'.ownsRow base e sz v n xs:=by
 refine⟨h.1,?_⟩;rcases h.2 with h1|⟨g,cap,cur,h1,h2,h3,h4⟩
 ·exact Or.inl h1
 ·exact Or.inr ⟨g,cap,cur,h1,h2,hK.heap h3 (fun hm=>hS g hm _ _ _ h3 (by simp)),h4⟩
theorem jA3(A n C:Nat)(v:Value)(base k:Nat)(xs:List Value)(calls writes:Int)(i:Nat)(B bo cap:Nat)(src:Array Value)(tb:TypeId)(w:World)(h:w.heap[A]?=some (φ n C v calls writes))
  (hi:i<n) (hn:n≤1000) (hB:w.heap[B]?=some (.cells src tb)) (hs:bo+128≤src.size) (hby:allBytes src) (hAB:B≠A) (hv:w.ownsRow base 89 129 v k xs) (hb:base≤w.heap.size) (hk:k≤100000):
  Calls prog 251 #[.pointer (some ⟨A,0,none⟩),.int .i64 i,.slice (some ⟨B,bo,none⟩) 128 cap] w fun e w'=>e=.returned .nilIface∧∃ v',
   w'.ownsRow base 89 129 v' (k+1) (xs++.int .i64 i::(ι src bo 128).toList)∧w'.heap[A]?=some (φ n C v' (nx calls) (nx writes))∧Wr base A w w':=by
 have HV:=zh hv;have HB:Hid (base≤w.heap.size∧k≤100000):=⟨hb,hk⟩;clear hv hb hk;have c1:=ξ h 1;have c3:=ξ h 3;simp at c1 c3;have hA:=η h;have hBs:=η hB;go_enter func251,ntmps251;go_wp2_with fail;refine (qW5 A n C _ calls writes _ h).mono ?_;rintro e w1 ⟨rfl,rfl⟩;go_wp2_with fail;refine (qY5 A n C v (nx calls) writes i _ (ω h 2 _) (by omega) (by omega)).mono ?_;rintro e w1 ⟨rfl,rfl⟩;go_wp2_with fail;have hN:((w.setCell ⟨A,2,none⟩ (.int .i64 (nx calls))).alloc (.cells zeroCells89 89)).heap[w.heap.size]?=some (.cells zeroCells89 89):=by
  simpa using μ (w.setCell ⟨A,2,none⟩ (.int .i64 (nx calls))) (.cells zeroCells89 89)
 rw[qJ9 hN (by simp[qH6]) (fun v hv=>by rcases List.mem_or_eq_of_mem_set hv with h | h;exact zZ8 v h;subst h;rfl)];obtain⟨W1,hW1,hK1,hA1,hG1⟩:∃ W1,W1=((w.setCell ⟨A,2,none⟩ (.int .i64 (nx calls))).alloc (.cells zeroCells89 89)).setRow w.heap.size (qC6 zeroCells89 0 (zeroCells89.toList.set 0 (.int .i64 i)).toArray)∧Kp [A] w W1∧
   W1.heap[A]?=some (φ n C v (nx calls) writes)∧W1.heap[w.heap.size]?=some (.cells (zeroCells89.toList.set 0 (.int .i64 i)).toArray 89):=
  ⟨_,rfl,(((Kp.refl _ _).sc _).alloc _).setRow (by simp) _,(setRow_other _ _ _ _ (by omega)).trans (θ _ (ω h 2 _)),by
   rw[setRow_heap _ _ _ _ _ _ hN,qH7 (by simp)]⟩
 rw[←hW1];clear hW1 hN;have hB1:=hK1.heap hB (by simp[hAB]);go_wp2_with fail;rw[qO4 (n:=128) 3 underlying90 Tryz.size5 rfl hG1 hB1 (by simp[qH6]) hs (qN6 hby _ _).one];obtain⟨W2,hW2,hK2,hA2,hG2⟩:∃ W2,W2=W1.setRow w.heap.size (qC6 (zeroCells89.toList.set 0 (.int .i64 i)).toArray 1 (ι src bo 128))∧Kp [A] w W2∧
   W2.heap[A]?=some (φ n C v (nx calls) writes)∧W2.heap[w.heap.size]?=some (.cells (.int .i64 i::(ι src bo 128).toList).toArray 89):=
  ⟨_,rfl,hK1.setRow (by simp) _,(setRow_other _ _ _ _ (by omega)).trans hA1,by
   rw[setRow_heap _ _ _ _ _ _ hG1];have e:qC6 (zeroCells89.toList.set 0 (.int .i64 i)).toArray 1 (ι src bo 128)=(.int .i64 i::(ι src bo 128).toList).toArray:=by
    have hz:zeroCells89.toList.length=129:=by simp[qH6]
    obtain⟨z0,zs,hzs⟩:∃ z0 zs,zeroCells89.toList=z0::zs:=by
     cases hq:zeroCells89.toList with
     | nil=>rw[hq] at hz;cases hz
     | cons z0 zs=>exact⟨z0,zs,rfl⟩
    rw[hzs] at hz ⊢;have hp:=qL2 (cs:=src) hs;have hd:zs.drop 128=[]:=List.drop_of_length_le (by simp at hz;omega);unfold qC6;rw[hp];simp[hd]
   rw[e]⟩
 rw[←hW2];clear hW2 hK1 hA1 hG1 hB1 c1 c3;have c1:=ξ hA2 1;have c3:=ξ hA2 3;simp at c1 c3;have f1:=ν hA2 1;go_wp2_with fail;refine wp_region_any (by kernel_rfl) ?_;change wpAny _ _ _ _ _ _ _ (World.drew _);refine zu 0 (.pointer (some ⟨A,0,none⟩)) ?_;refine zu 1 (.pointer (some ⟨A,0,none⟩)) ?_;refine zu 2 (.pointer (some ⟨A,0,none⟩)) ?_;refine zu 3 (.pointer (some ⟨A,1,none⟩)) ?_;obtain⟨X,hX⟩:∃ X,X=(Value.int .i64 (i:Int)::(ι src bo 128).toList).toArray:=⟨_,rfl⟩;rw[←hX] at hG2;have hd2:W2.drew.heap[w.heap.size]?=some (.cells X 89):=hG2;have hlen:X.size=129:=by rw[hX];simp[qL2 hs]
 have hnew:(W2.drew.alloc (.cells (Value.agg X).cells 89)).heap[W2.heap.size]?=some (.cells X 89):=μ W2.drew _;have hone:∀ u∈(ι X 0 (1*129)).toList,u.oneCell'=true:=by
  have e:ι X 0 (1*129)=X:=by have:=qO1 X;rw[hlen] at this;exact this
  rw[e,hX];intro u hu;simp at hu;rcases hu with rfl|hu
  ·rfl
  ·exact (qN6 hby bo 128).one u (by simpa using hu)
 have HX:=zh hX;clear hX;have hA2s:=η hA2;have HK2:=zh hK2;have HO2:Hid ((W2.drew.alloc (.cells (Value.agg X).cells 89)).ownsRow base 89 129 v k xs):=qE8 HV.out ((hK2.drew).alloc _) (fun q hq c t fr e=>by rw[List.mem_singleton.1 hq,h] at e;cases e;decide);refine wpAny_ready (rs:=[4,5]) (by kernel_rfl) (by simp) ?_;refine AllReady.cons rfl (fun K hK=>?_) (AllReady.cons rfl (fun K hK=>?_) AllReady.nil)
 ·go_simp;refine hK _ _ ?_;clear hK K;refine zQ 5 fun K hK=>?_;refine qH4 rfl (qJ0 (t:=89) rfl (by kernel_rfl) 129 (by kernel_rfl) w.heap.size (by simp[Act.eval]) hd2 hlen) ?_;refine hK _ _ ?_;clear hK K;simp only[zZ];refine zQ 6 fun K hK=>?_;refine qH4 rfl (qQ9 rfl (.agg X) _ _ _ underlying70 qK2 (by simp[Act.eval]) (by simpa [Value.cells] using hlen) (by decide) (by decide)) ?_;refine hK _ _ ?_;clear hK K;simp only[zZ];refine zQ 7 fun K hK=>?_;refine qJ7 rfl rfl (.agg zeroCells89) 129 136 underlying70 qK2 (by simp[Value.cells,qH6]) (by decide) base v k xs (by simp[Act.eval]) HO2.out W2.heap.size 0 1 1 X 89 (0,0) (by simp[Act.eval]) hnew (by omega) hone (by have:=HB.out;omega) (by have:=HB.out;omega) (by have:=HK2.out.size;have:=HB.out;simp;omega) ?_;intro v1 w1 hown1 hgr1 _;obtain⟨g1,cap1,rfl⟩:=qI1 (n:=k) hown1;refine hK _ _ ?_;clear hK K;simp only[zZ];have hA3:w1.heap[A]?=some (φ n C v (nx calls) writes):=qM4 HO2.out hgr1 (θ _ hA2) (by decide);have HW3:Hid (Wr base A w w1):=((Wr.ofKp ((HK2.out.drew).alloc _) HB.out.1).grown HB.out.1 HO2.out hgr1);have HO3:Hid (w1.ownsRow base 89 129 (.slice (some ⟨g1,0,none⟩) (k+1) cap1) (k+1) (xs++X.toList)):=by
   have hz:ι X 0 (1*129)=X:=by have:=qO1 X;rw[hlen] at this;exact this
   rw[hz] at hown1;exact hown1
  have hA3s:=η hA3;have d1:=ξ hA3 1;simp at d1;have e1:=ν hA3 1;clear hown1 hgr1;refine zu 8 (.pointer (some ⟨A,0,none⟩)) ?_;refine zu 9 (.pointer (some ⟨A,1,none⟩)) ?_;refine zQ 10 fun K hK=>?_;go_simp;refine hK _ _ ?_;clear hK K;refine wpAny_done (by kernel_rfl) ?_ _;have d3:=ξ hA3 3;simp at d3;have e3:=ν hA3 3;have hnw:wrap64 (writes+1)=nx writes:=rfl;go_wp2;go_ret;have hKs:Kp [A] w1 ((w1.setCell ⟨A,1,none⟩ (.slice (some ⟨g1,0,none⟩) (k+1) cap1)).setCell ⟨A,3,none⟩ (.int .i64 (nx writes))):=((Kp.refl _ _).sc _).sc _;refine⟨rfl,_,?_,ω (ω hA3 1 _) 3 _,HW3.out.trans (Wr.ofKp hKs (Nat.le_trans HB.out.1 HW3.out.size))⟩;have h:=HO3.out;rw[HX.out] at h;exact qE8 h hKs (fun q hq c t fr e=>by rw[List.mem_singleton.1 hq,hA3] at e;cases e;decide)
 ·refine qH4 rfl (qJ0 (t:=89) rfl (by kernel_rfl) 129 (by kernel_rfl) w.heap.size (by simp[Act.eval]) hd2 hlen) ?_;refine hK _ _ ?_;clear hK K;simp only[zZ];refine wpAny_ready (rs:=[4,6]) (by kernel_rfl) (by simp) ?_;refine AllReady.cons rfl (fun K hK=>?_) (AllReady.cons rfl (fun K hK=>?_) AllReady.nil)
  ·go_simp;refine hK _ _ ?_;clear hK K;refine zQ 6 fun K hK=>?_;refine qH4 rfl (qQ9 rfl (.agg X) _ _ _ underlying70 qK2 (by simp[Act.eval]) (by simpa [Value.cells] using hlen) (by decide) (by decide)) ?_;refine hK _ _ ?_;clear hK K;simp only[zZ];refine zQ 7 fun K hK=>?_;refine qJ7 rfl rfl (.agg zeroCells89) 129 136 underlying70 qK2 (by simp[Value.cells,qH6]) (by decide) base v k xs (by simp[Act.eval]) HO2.out W2.heap.size 0 1 1 X 89 (0,0) (by simp[Act.eval]) hnew (by omega) hone (by have:=HB.out;omega) (by have:=HB.out;omega) (by have:=HK2.out.size;have:=HB.out;simp;omega) ?_;intro v1 w1 hown1 hgr1 _;obtain⟨g1,cap1,rfl⟩:=qI1 (n:=k) hown1;refine hK _ _ ?_;clear hK K;simp only[zZ];have hA3:w1.heap[A]?=some (φ n C v (nx calls) writes):=qM4 HO2.out hgr1 (θ _ hA2) (by decide);have HW3:Hid (Wr base A w w1):=((Wr.ofKp ((HK2.out.drew).alloc _) HB.out.1).grown HB.out.1 HO2.out hgr1);have HO3:Hid (w1.ownsRow base 89 129 (.slice (some ⟨g1,0,none⟩) (k+1) cap1) (k+1) (xs++X.toList)):=by
    have hz:ι X 0 (1*129)=X:=by have:=qO1 X;rw[hlen] at this;exact this
    rw[hz] at hown1;exact hown1
   have hA3s:=η hA3;have d1:=ξ hA3 1;simp at d1;have e1:=ν hA3 1;clear hown1 hgr1;refine zu 8 (.pointer (some ⟨A,0,none⟩)) ?_;refine zu 9 (.pointer (some ⟨A,1,none⟩)) ?_;refine zQ 10 fun K hK=>?_;go_simp;refine hK _ _ ?_;clear hK K;refine wpAny_done (by kernel_rfl) ?_ _;have d3:=ξ hA3 3;simp at d3;have e3:=ν hA3 3;have hnw:wrap64 (writes+1)=nx writes:=rfl;go_wp2;go_ret;have hKs:Kp [A] w1 ((w1.setCell ⟨A,1,none⟩ (.slice (some ⟨g1,0,none⟩) (k+1) cap1)).setCell ⟨A,3,none⟩ (.int .i64 (nx writes))):=((Kp.refl _ _).sc _).sc _;refine⟨rfl,_,?_,ω (ω hA3 1 _) 3 _,HW3.out.trans (Wr.ofKp hKs (Nat.le_trans HB.out.1 HW3.out.size))⟩;have h:=HO3.out;rw[HX.out] at h;exact qE8 h hKs (fun q hq c t fr e=>by rw[List.mem_singleton.1 hq,hA3] at e;cases e;decide)
  ·refine qH4 rfl (qQ9 rfl (.agg X) _ _ _ underlying70 qK2 (by simp[Act.eval]) (by simpa [Value.cells] using hlen) (by decide) (by decide)) ?_;refine hK _ _ ?_;clear hK K;simp only[zZ];refine zQ 4 fun K hK=>?_;go_simp;refine hK _ _ ?_;clear hK K;refine zQ 7 fun K hK=>?_;refine qJ7 rfl rfl (.agg zeroCells89) 129 136 underlying70 qK2 (by simp[Value.cells,qH6]) (by decide) base v k xs (by simp[Act.eval]) HO2.out W2.heap.size 0 1 1 X 89 (0,0) (by simp[Act.eval]) hnew (by omega) hone (by have:=HB.out;omega) (by have:=HB.out;omega) (by have:=HK2.out.size;have:=HB.out;simp;omega) ?_;intro v1 w1 hown1 hgr1 _;obtain⟨g1,cap1,rfl⟩:=qI1 (n:=k) hown1;refine hK _ _ ?_;clear hK K;simp only[zZ];have hA3:w1.heap[A]?=some (φ n C v (nx calls) writes):=qM4 HO2.out hgr1 (θ _ hA2) (by decide);have HW3:Hid (Wr base A w w1):=((Wr.ofKp ((HK2.out.drew).alloc _) HB.out.1).grown HB.out.1 HO2.out hgr1);have HO3:Hid (w1.ownsRow base 89 129 (.slice (some ⟨g1,0,none⟩) (k+1) cap1) (k+1) (xs++X.toList)):=by
    have hz:ι X 0 (1*129)=X:=by have:=qO1 X;rw[hlen] at this;exact this
    rw[hz] at hown1;exact hown1
   have hA3s:=η hA3;have d1:=ξ hA3 1;simp at d1;have e1:=ν hA3 1;clear hown1 hgr1;refine zu 8 (.pointer (some ⟨A,0,none⟩)) ?_;refine zu 9 (.pointer (some ⟨A,1,none⟩)) ?_;refine zQ 10 fun K hK=>?_;go_simp;refine hK _ _ ?_;clear hK K;refine wpAny_done (by kernel_rfl) ?_ _;have d3:=ξ hA3 3;simp at d3;have e3:=ν hA3 3;have hnw:wrap64 (writes+1)=nx writes:=rfl;go_wp2;go_ret;have hKs:Kp [A] w1 ((w1.setCell ⟨A,1,none⟩ (.slice (some ⟨g1,0,none⟩) (k+1) cap1)).setCell ⟨A,3,none⟩ (.int .i64 (nx writes))):=((Kp.refl _ _).sc _).sc _;refine⟨rfl,_,?_,ω (ω hA3 1 _) 3 _,HW3.out.trans (Wr.ofKp hKs (Nat.le_trans HB.out.1 HW3.out.size))⟩;have h:=HO3.out;rw[HX.out] at h;exact qE8 h hKs (fun q hq c t fr e=>by rw[List.mem_singleton.1 hq,hA3] at e;cases e;decide)
def wcs(x:Nat × List UInt8):List Value:=.int .i64 (x.1:Int)::qD9 x.2
def laidAll(l:List UInt8)(ws:List (Nat × List UInt8)):List UInt8:=ws.foldl (fun l x=>qC3 l x.1 x.2) l
theorem xO9(l:List UInt8)(ws:List (Nat × List UInt8))(j:Nat)(h:j<ws.length):laidAll l (ws.take (j+1))=qC3 (laidAll l (ws.take j)) ws[j].1 ws[j].2:=by
 unfold laidAll;rw[List.take_succ_eq_append_getElem h,List.foldl_append];rfl
theorem qR8(l b:List UInt8)(i n:Nat)(hb:b.length=128)(hl:l.length=n*128)(hi:i<n):(qC3 l i b).length=n*128:=by
 unfold qC3;simp only[List.length_append,List.length_take,List.length_drop];omega
theorem zD2(n:Nat)(ws:List (Nat × List UInt8)):∀ (l:List UInt8),l.length=n*128→(∀ x∈ws,x.1<n∧x.2.length=128)→(laidAll l ws).length=n*128:=by
 induction ws with
 | nil=>intro l h _;exact h
 | cons a ws ih=>
  intro l h hw;have h1:=hw a (by simp);exact ih _ (qR8 l a.2 a.1 n h1.2 h h1.1) (fun x hx=>hw x (by simp[hx]))
theorem zM7{α β:Type}(f:α→List β)(m:Nat)(l:List α):(∀ x∈l,(f x).length=m)→∀ j (h:j<l.length),((l.flatMap f).drop (j*m)).take m=f l[j]:=by
 induction l with
 | nil=>intro _ j h;cases h
 | cons a l ih=>
  intro hm j h;have ha:=hm a (by simp)
  cases j with
  | zero=>
   simp only[Nat.zero_mul,List.drop_zero,List.flatMap_cons,zF];rw[List.take_append_of_le_length (by omega),List.take_of_length_le (by omega)]
  | succ j=>
   simp only[List.flatMap_cons,zE];rw[show (j+1)*m=(f a).length+j*m from by rw[ha,Nat.succ_mul];omega,←List.drop_drop,List.drop_left];exact ih (fun x hx=>hm x (by simp[hx])) j (by simpa using h)
theorem xJ6(A n C base:Nat)(v:Value)(ws:List (Nat × List UInt8))(calls writes:Int)(l:List UInt8)(w:World)(h:w.heap[A]?=some (φ n C v calls writes))
  (hv:w.ownsRow base 89 129 v ws.length (ws.flatMap wcs)) (hws:∀ x∈ws,x.1<n∧x.2.length=128) (hwl:ws.length≤100000) (hn:n≤1000) (hC:w.heap[C]?=some (.cells (enc l) 87)) (hs:l.length=n*128) (hAC:C≠A):
  Calls prog 249 #[.pointer (some ⟨A,0,none⟩)] w fun e w'=>e=.returned .nilIface∧w'.heap[A]?=some (φ n C (.slice none 0 0) (nx calls) writes)∧
   w'.heap[C]?=some (.cells (enc (laidAll l ws)) 87)∧Kp [A,C] w w':=by
 rcases hv.2 with⟨rfl,hl0⟩|⟨g,cap,cur,rfl,hgb,hg,hle,_,hcs,hcur⟩
 ·have e:=List.eq_nil_of_length_eq_zero hl0;subst e;refine (xJ8 A n C calls writes w h).mono ?_;rintro e w1 ⟨rfl,hA,hK⟩;exact⟨rfl,hA,hK.heap hC (by simpa using hAC),hK.mono (by simp)⟩
 have HWS:=zh hws;have HCUR:=zh hcur;have HS:=zh hs;have hgA:g≠A:=by intro e;subst e;rw[h] at hg;simp[φ] at hg
 have hgC:g≠C:=by intro e;subst e;rw[hC] at hg;simp at hg
 have hAlt:=η h;have hClt:=η hC;have hglt:=η hg;have HCS:Hid (ws.length*129≤cur.size):=by show _≤_;rw[hcs];exact Nat.mul_le_mul_right _ hle
 have c1:=ξ h 1;simp at c1;have f1:=ν h 1;have HN:=zh hn;clear hv hws hcur hs hcs hle;go_enter func249,ntmps249;go_wp2_with fail;refine (qW5 A n C _ calls writes _ h).mono ?_;rintro e w1 ⟨rfl,rfl⟩;have hA0:=ω h 2 (.int .i64 (nx calls));have hC0:=(qB1 hAC 2 (.int .i64 (nx calls))).trans hC;have hg0:=(qB1 hgA 2 (.int .i64 (nx calls))).trans hg;have hK0:Kp [A,C] w (w.setCell ⟨A,2,none⟩ (.int .i64 (nx calls))):=(Kp.refl _ _).sc _;go_wp2
 go_loopw [13] (fun i wr=>∃ (j:Nat),j≤ws.length∧i=.int .i64 j∧Hid (wr.heap[A]?=some (φ n C (.slice (some ⟨g,0,none⟩) ws.length cap) (nx calls) writes))∧Hid (wr.heap[C]?=some (.cells (enc (laidAll l (ws.take j))) 87))∧Hid (wr.heap[g]?=some (.cells cur 89))∧Hid (Kp [A,C] w wr)) (fun i _=>ws.length-(intOf i).toNat)
 case atStart=>exact⟨0,Nat.zero_le _,rfl,hA0,hC0,hg0,hK0⟩
 case round=>
  obtain⟨j,hj,rfl,HA,HC,HG,HK⟩:=hrel;clear hA0 hC0 hg0 hK0 h hC hg c1 f1;by_cases hlt:j<ws.length
  ·have hjb:(j:Int)<(ws.length:Int):=by omega
   obtain⟨hi,hbl⟩:=HWS.out ws[j] (List.getElem_mem hlt);obtain⟨X,hX⟩:∃ X,X=(wcs ws[j]).toArray:=⟨_,rfl⟩;obtain⟨i,hie⟩:∃ i,i=ws[j].1:=⟨_,rfl⟩;obtain⟨bs,hbs⟩:∃ bs,bs=enc ws[j].2:=⟨_,rfl⟩;have hsz:bs.size=128:=by rw[hbs,qE5];exact hbl
   have hby:allBytes bs:=by rw[hbs];exact qG8 _
   have hXl:X=(.int .i64 (i:Int)::bs.toList).toArray:=by rw[hX,hie,hbs];simp[wcs,enc]
   have hXs:X.size=129:=by rw[hXl];simp[hsz]
   have hX0:X[0]?=some (.int .i64 i):=by rw[hXl];rfl
   have hXp:ι X 1 128=bs:=by rw[hXl];simp[ι,List.take_of_length_le,hsz]
   have hX1:∀ v∈X.toList,v.oneCell'=true:=by
    rw[hXl];intro v hv;simp at hv;rcases hv with rfl|hv
    ·rfl
    ·exact hby.one v (by simpa using hv)
   have hjm:j*129+129≤ws.length*129:=by omega
   have hcp:ι cur (j*129) 129=X:=by
    have hf:=zM7 wcs 129 ws (fun x hx=>by simp[wcs,xA6,(HWS.out x hx).2]) j hlt;rw[hX];unfold ι
    congr 1
    rw[←hf,←HCUR.out,List.drop_take,List.take_take]
    congr 1
    omega
   have HSN:Hid (qC6 (enc (laidAll l (ws.take j))) (i*128) bs=enc (laidAll l (ws.take (j+1)))):=by
    show _=_;rw[hbs,hie,qX7,xO9 l ws j hlt];rfl
   have hls:(enc (laidAll l (ws.take j))).size=n*128:=by rw[qE5];exact zD2 n _ l HS.out (fun x hx=>HWS.out x (List.mem_of_mem_take hx))
   rw[←hie] at hi;have hcsz:=HCS.out;clear hX hie hbs hXl hbl
   go_wp2_with (
    with_reducible refine qO7 (t:=89) ?_ 129 ?_ g (j*129) ?_ cur 89 (0,0) ?_ ?_ ?_
    ·kernel_rfl
    ·kernel_rfl
    ·rfl
    ·exact HG.out
    ·omega)
   have hN:=μ wr (.cells zeroCells89 89);rw[qJ9 hN (by simp[qH6,hXs]) hX1];obtain⟨W1,hW1,hK1,hA1,hC1,hG1,hT1,hs1⟩:∃ W1,W1=(wr.alloc (.cells zeroCells89 89)).setRow wr.heap.size (qC6 zeroCells89 0 X.toList.toArray)∧Kp [A,C] w W1∧
     W1.heap[A]?=some (φ n C (.slice (some ⟨g,0,none⟩) ws.length cap) (nx calls) writes)∧W1.heap[C]?=some (.cells (enc (laidAll l (ws.take j))) 87)∧W1.heap[g]?=some (.cells cur 89)∧W1.heap[wr.heap.size]?=some (.cells X 89)∧W1.heap.size=wr.heap.size+1:=
    ⟨_,rfl,(HK.out.alloc _).setRow (Or.inr HK.out.size) _,(setRow_other _ _ _ _ (Nat.ne_of_lt (η HA.out))).trans (θ _ HA.out),(setRow_other _ _ _ _ (Nat.ne_of_lt (η HC.out))).trans (θ _ HC.out),(setRow_other _ _ _ _ (Nat.ne_of_lt (η HG.out))).trans (θ _ HG.out),by
     rw[setRow_heap _ _ _ _ _ _ hN,qH7 (by simp[qH6,hXs])],by simp⟩
   have hA1s:=η HA.out;have hC1s:=η HC.out;rw[←hW1];clear hW1 hN;go_wp2_with fail;refine wp_region_held_drew (S:=fun W=>W.heap[A]?=some (φ n C (.slice (some ⟨g,0,none⟩) ws.length cap) (nx calls) writes)∧W.heap[wr.heap.size]?=some (.cells X 89)) (by kernel_rfl) ⟨hA1,hT1⟩ (fun _=>?_);have hSd:W1.drew.heap[A]?=some (φ n C (.slice (some ⟨g,0,none⟩) ws.length cap) (nx calls) writes)∧W1.drew.heap[wr.heap.size]?=some (.cells X 89):=⟨hA1,hT1⟩;refine zP 0 A 0 hSd ?_;refine zV 1 (.pointer (some ⟨A,0,none⟩)) rfl (fun W hS=>by have c:=η hS.1;clear hS;go_simp) hSd ?_;refine zP 2 A 0 hSd ?_;refine zV 3 (.slice (some ⟨C,0,none⟩) n n) rfl (fun W hS=>by have c:=ξ hS.1 0;simp at c;clear hS;go_simp) hSd ?_;refine zP 4 wr.heap.size 0 hSd ?_;refine zV 5 (.int .i64 i) rfl (fun W hS=>by have c:=ξ hS.2 0;rw[hX0] at c;clear hS;go_simp) hSd ?_;refine zP 6 wr.heap.size 1 hSd ?_;refine zV 7 (.agg bs) rfl (fun W hS=>zM2 (t:=87) rfl (by kernel_rfl) 128 (by kernel_rfl) wr.heap.size 1 rfl hS.2 (by omega) hXp) hSd ?_;refine zU 8 (.pointer (some ⟨C,i*128,none⟩)) hSd ?_;refine zq 9 fun K hK=>?_;refine zI0 rfl (zM3 (t:=87) rfl bs (by rw[hsz];kernel_rfl) C (i*128) rfl rfl (cur:=enc (laidAll l (ws.take j))) (tb:=87) hC1 (by omega) hby.one) ?_;rw[HSN.out];obtain⟨W2,hW2,hA2,hT2,hC2,hG2,hK2,hs2⟩:∃ W2,W2=W1.drew.setRow C (enc (laidAll l (ws.take (j+1))))∧W2.heap[A]?=some (φ n C (.slice (some ⟨g,0,none⟩) ws.length cap) (nx calls) writes)∧W2.heap[wr.heap.size]?=some (.cells X 89)∧W2.heap[C]?=some (.cells (enc (laidAll l (ws.take (j+1)))) 87)∧W2.heap[g]?=some (.cells cur 89)∧Kp [A,C] w W2∧W2.heap.size=wr.heap.size+1:=
    ⟨_,rfl,(setRow_other W1.drew C A _ hAC.symm).trans hA1,(setRow_other W1.drew C wr.heap.size _ (by omega)).trans hT1,setRow_heap W1.drew C _ _ _ _ hC1,(setRow_other W1.drew C g _ hgC).trans hG1,(hK1.drew).setRow (g:=C) (by simp) _,by simp[hs1]⟩
   rw[←hW2];clear hW2;refine hK.out _ _ ⟨hA2,hT2⟩ (fun _=>?_);clear hK K;refine zd ?_;simp only[zZ];have HA2:=zh hA2;have HC2:=zh hC2;have HG2:=zh hG2;have HK2:=zh hK2;clear hA1 hT1 hC1 hG1 hK1 hA2 hT2 hC2 hG2 hK2 hSd;go_wp2;exact⟨⟨j+1,by omega,by go_num,HA2,HC2,HG2,HK2⟩,by simp[intOf];omega⟩
  ·have hjb:¬(j:Int)<(ws.length:Int):=by omega
   have hje:ws.take j=ws:=List.take_of_length_le (by omega);have hCe:=HC.out;rw[hje] at hCe;have hAe:=HA.out;have hAs:=η hAe;have c1:=ξ hAe 1;simp at c1;have f1:=ν hAe 1;have HAE:=zh hAe;have HCE:=zh hCe;clear hje hCe hAe;go_wp2;go_ret;exact⟨rfl,ω HAE.out 1 _,(qB1 hAC _ _).trans HCE.out,HK.out.sc _⟩
theorem zX6(V A n C base:Nat)(v:Value)(ws:List (Nat × List UInt8))(calls writes:Int)(l:List UInt8)(w:World)(hV:w.heap[V]?=some (qB6 A n))(h:w.heap[A]?=some (φ n C v calls writes))
  (hv:w.ownsRow base 89 129 v ws.length (ws.flatMap wcs)) (hws:∀ x∈ws,x.1<n∧x.2.length=128) (hwl:ws.length≤100000) (hn:n≤1000) (hC:w.heap[C]?=some (.cells (enc l) 87)) (hs:l.length=n*128) (hAC:C≠A):
  Calls prog 76 #[.pointer (some ⟨V,0,none⟩)] w fun e w'=>e=.returned (.tuple #[])∧w'.heap[A]?=some (φ n C (.slice none 0 0) (nx calls) writes)∧
   w'.heap[C]?=some (.cells (enc (laidAll l ws)) 87)∧Kp [A,C] w w':=by
 have c0:=ξ hV 0;simp at c0;go_enter func76,ntmps76;go_wp2_with fail;refine (xJ6 A n C base v ws calls writes l _ h hv hws hwl hn hC hs hAC).mono ?_;rintro e w1 ⟨rfl,hA1,hC1,hK1⟩;go_wp2
 go_end0
 exact⟨rfl,hA1,hC1,hK1⟩
theorem zX4(V A n C base:Nat)(v:Value)(ws:List (Nat × List UInt8))(calls writes:Int)(i:Nat)(bl:List UInt8)(w:World)(hV:w.heap[V]?=some (qB6 A n))(h:w.heap[A]?=some (φ n C v calls writes))
  (hv:w.ownsRow base 89 129 v ws.length (ws.flatMap wcs)) (hwl:ws.length≤100000) (hb:base≤w.heap.size)
  (hi:i<n) (hn:n≤1000) (hbl:bl.length=128) (hVA:V≠A):
  Calls prog 136 #[.pointer (some ⟨V,0,none⟩),.int .i64 i,.agg (enc bl)] w fun e w'=>e=.returned (.tuple #[])∧∃ v',w'.ownsRow base 89 129 v' (ws++[(i,bl)]).length ((ws++[(i,bl)]).flatMap wcs)∧
   w'.heap[A]?=some (φ n C v' (nx calls) (nx writes))∧Wr base A w w':=by
 have c0:=ξ hV 0;simp at c0;have hVs:=η hV;have hA:=η h;have hes:(enc bl).size=128:=by rw[qE5,hbl]
 have HV:=zh hv;clear hv;go_enter func136,ntmps136;go_wp2_with fail;obtain⟨W1,hW1,hK1,hA1,hB1,hV1⟩:∃ W1,W1=w.alloc (.cells (enc bl) 223)∧Kp [A] w W1∧W1.heap[A]?=some (φ n C v calls writes)∧W1.heap[w.heap.size]?=some (.cells (enc bl) 223)∧W1.heap[V]?=some (qB6 A n):=
  ⟨_,rfl,(Kp.refl _ _).alloc _,θ _ h,μ _ _,θ _ hV⟩
 rw[←hW1];clear hW1 c0;have c0:=ξ hV1 0;simp at c0;have hpp:ι (enc bl) 0 128=enc bl:=by rw[qI6,List.drop_zero,List.take_of_length_le (by omega)]
 have hm:∀ W:World,(method 445 23 (.pointer (some ⟨A,0,none⟩)) "Write").run prog W=.ok (251,.pointer (some ⟨A,0,none⟩)) W:=fun _=>by kernel_rfl
 have hKd:Kp [A] w W1.drew:=hK1.drew;have hs1:=hK1.size;have HO:Hid (W1.drew.ownsRow base 89 129 v ws.length (ws.flatMap wcs)):=qE8 HV.out hKd (fun q hq c t fr e=>by rw[List.mem_singleton.1 hq,h] at e;cases e;decide)
 go_region_with (go_at_call 251;go_must (refine (jA3 A n C v base ws.length (ws.flatMap wcs) calls writes i w.heap.size 0 128 (enc bl) 223 W1.drew hA1 hi hn hB1 (by omega) (qG8 bl) (by omega) HO.out (by show base≤W1.heap.size;omega) hwl).mono ?_);rintro e w2 ⟨rfl,v',hown,hA2,hW2⟩)
 go_wp2
 go_end0
 refine⟨rfl,v',?_,hA2,(Wr.ofKp hKd hb).trans hW2⟩;rw[hpp] at hown;rw[List.length_append,List.flatMap_append];have e:List.flatMap wcs [(i,bl)]=.int .i64 (i:Int)::(enc bl).toList:=by simp[wcs,enc]
 rw[e];exact hown
theorem Wr.tail{base A:Nat}{a w w':World}{S:List Nat}(h:Wr base A a w)(hK:Kp S w w')(hS:∀ k∈S,a.heap.size≤k)(hb:base≤a.heap.size):Wr base A a w':=
 ⟨hK.os.trans h.os,hK.tape.trans h.tape,hK.output.trans h.output,Nat.le_trans h.size hK.size,fun k h1 h2=>(hK.block k (by have:=h.size;omega) (fun hm=>by have:=hS k hm;omega)).trans (h.low k h1 h2),fun k c t fr e h1 h2=>hK.heap (h.oth k c t fr e h1 h2) (fun hm=>by have:=hS k hm;have:=η e;omega)⟩
theorem xT6(p:KV)(h:qC2 p):∀ x∈qD3 p,0≤x∧x<256:=by
 obtain⟨h1,h2,h3⟩:=h;intro x hx;simp only[qD3,List.mem_append,List.mem_singleton] at hx;rcases hx with (rfl|hx)|hx
 ·omega
 ·exact zG2 _ x hx
 ·exact zG2 _ x hx
theorem xQ6(h:HL)(hk:h.key.size≤8):∀ x∈qD4 h,0≤x∧x<256:=by
 intro x hx;simp only[qD4,List.mem_append,List.mem_singleton] at hx;rcases hx with ((hx|hx)|rfl)|hx
 ·exact qJ2 _ _ x hx
 ·exact qJ2 _ _ x hx
 ·omega
 ·exact zG2 _ x hx
theorem qJ4(lv:Int)(ps:List KV)(hs:List HL)(hl0:0≤lv)(hl1:lv<256)(hc:ps.length+hs.length≤255)(hzp:∀ p∈ps,qC2 p)(hzl:∀ p∈hs,p.key.size≤8):∀ x∈qA1 lv ps hs,0≤x∧x<256:=by
 intro x hx;simp only[qA1,qH9,List.mem_append,List.mem_cons,List.not_mem_nil,or_false,List.mem_flatMap] at hx;rcases hx with (((rfl|rfl)|⟨p,hp,hx⟩)|⟨p,hp,hx⟩)|hx
 ·omega
 ·omega
 ·exact xT6 p (hzp p hp) x hx
 ·exact xQ6 p (hzl p hp) x hx
 ·rw[List.eq_of_mem_replicate hx];omega
theorem zL7(xs:List Int)(h:∀ x∈xs,0≤x∧x<256):qD9 (toB xs)=u8s xs:=by
 unfold qD9 toB u8s;rw[List.map_map];refine List.map_congr_left fun x hx=>?_;have hb:=h x hx;simp only[Function.comp]
 congr 1
 have e:(UInt8.ofNat x.toNat).toNat=x.toNat:=by
  rw[UInt8.toNat_ofNat'];omega
 rw[e];omega
theorem qF8(xs:List Int):(toB xs).length=xs.length:=by simp[toB]
theorem xS2(V A n C base:Nat)(v:Value)(ws:List (Nat × List UInt8))(calls writes:Int)(i:Nat)(q:Nat)(lv:Int)(vp vl:Value)(ps:List KV)(hs:List HL)(w:World)
  (hq:w.heap[q]?=some (υ lv vp vl)) (hl0:0≤lv) (hl1:lv<256)
  (hsp:Slc w 158 2 vp ps.length (qA7 ps)) (hsl:Slc w 81 4 vl hs.length (qA2 hs)) (hm:2+meas κ ps+meas ψ hs≤128) (hc:ps.length+hs.length≤255)
  (hzp:∀ p∈ps,qC2 p) (hzl:∀ p∈hs,p.key.size≤8∧0≤p.b∧p.b≤1000000∧0≤p.s)
  (hV:w.heap[V]?=some (qB6 A n)) (h:w.heap[A]?=some (φ n C v calls writes))
  (hv:w.ownsRow base 89 129 v ws.length (ws.flatMap wcs)) (hwl:ws.length≤100000) (hb:base≤w.heap.size) (hi:i<n) (hn:n≤1000) (hVA:V≠A):
  Calls prog 149 #[.pointer (some ⟨q,0,none⟩),.pointer (some ⟨V,0,none⟩),.int .i64 i] w fun e w'=>e=.returned (.agg #[.int .i64 i,.int .u64 (fnv (qA1 lv ps hs))])∧
   ∃ v',w'.ownsRow base 89 129 v' (ws++[(i,toB (qA1 lv ps hs))]).length ((ws++[(i,toB (qA1 lv ps hs))]).flatMap wcs)∧
   w'.heap[A]?=some (φ n C v' (nx calls) (nx writes))∧Wr base A w w':=by
 have hby:=qJ4 lv ps hs hl0 hl1 hc hzp (fun p hp=>(hzl p hp).1);have hbl:=qN9 lv ps hs hm;have HBLK:Hid (∀ W,Kp [] w W→Calls prog 182 #[.pointer (some ⟨q,0,none⟩)] W fun e w'=>e=.returned (.agg (u8s (qA1 lv ps hs)).toArray)∧Kp [] W w'):=fun W hK=>
  zB3 q lv vp vl ps hs W (hK.hp hq) hl0 hl1 (hsp.keep0 hK) (hsl.keep0 hK) hm hc hzp hzl
 obtain⟨xs,hxs⟩:∃ xs,xs=qA1 lv ps hs:=⟨_,rfl⟩;rw[←hxs] at hby hbl HBLK;have HG:=zh hxs;rw[←hxs];have HBY:=zh hby;have HV:=zh hv;have hAlt:=η h;have hVlt:=η hV;clear hq hsp hsl hm hc hzp hzl hby hv hl0 hl1 hxs;have hes:(u8s xs).toArray=enc (toB xs):=by unfold enc;rw[zL7 xs HBY.out]
 rw[hes] at HBLK;clear hes;go_enter func149,ntmps149;go_wp2_with fail;obtain⟨w0,hw0,hR0,hK0,hs0⟩:=qG2 w (.cells #[.int .i64 0,.int .u64 0] 78);rw[←hw0];clear hw0;refine (HBLK.out w0 hK0).mono ?_;rintro e w1 ⟨rfl,hK1⟩;have hKw1:Kp [] w w1:=hK0.tr hK1;have hR1:=hK1.hp hR0;have hs1:=hK1.size;clear hK1 hR0 hK0 HBLK;have hles:(enc (toB xs)).size=128:=by rw[qE5,qF8,hbl]
 go_wp2_with fail;have hN:=μ w1 (.cells zeroCells223 223);rw[qJ9 hN (by simp[qG6,hles]) (qG8 _).one];rw[show (enc (toB xs)).toList.toArray=enc (toB xs) from by simp,qH7 (by rw[qG6,hles])];obtain⟨w2,hw2,hB2,hR2,hKw2,hs2⟩:∃ w2,w2=(w1.alloc (.cells zeroCells223 223)).setRow w1.heap.size (enc (toB xs))∧w2.heap[w1.heap.size]?=some (.cells (enc (toB xs)) 223)∧w2.heap[w.heap.size]?=some (.cells #[.int .i64 0,.int .u64 0] 78)∧Kp [] w w2∧w2.heap.size=w1.heap.size+1:=
  ⟨_,rfl,setRow_heap _ _ _ _ _ _ hN,(setRow_other _ _ _ _ (by omega)).trans (θ _ hR1),(hKw1.alloc _).setRow (Or.inr (by have:=hKw1.size;omega)) _,by simp⟩
 rw[←hw2];clear hw2 hN hR1;have hpp:ι (enc (toB xs)) 0 128=enc (toB xs):=by rw[qI6,List.drop_zero,List.take_of_length_le (by rw[qF8];omega)]
 go_wp2_with (
  with_reducible refine qO7 (t:=223) ?_ 128 ?_ w1.heap.size 0 ?_ (enc (toB xs)) 223 (0,0) ?_ ?_ ?_
  ·kernel_rfl
  ·kernel_rfl
  ·rfl
  ·exact hB2
  ·omega)
 have hV2:=hKw2.hp hV;have hA2:=hKw2.hp h;refine (zX4 V A n C base v ws calls writes i (toB xs) w2 hV2 hA2 (qE8 HV.out hKw2 (Apt.nil _ _)) hwl (by have:=hKw2.size;omega) hi hn (by rw[qF8,hbl]) hVA).mono ?_;rintro e w3 ⟨rfl,v',hown3,hA3,hW3⟩;have hAw:w2.heap.size=w1.heap.size+1:=hs2;have hB3:=hW3.oth _ _ _ _ hB2 (by decide) (by omega);have hR3:=hW3.oth _ _ _ _ hR2 (by decide) (by omega);have HO3:=zh hown3;have HA3:=zh hA3;have HW3:Hid (Wr base A w w3):=(Wr.ofKp (hKw2.mono (by simp)) hb).trans hW3;have hR3s:=η hR3;have hB3s:=η hB3;clear hown3 hA3 hW3 hB2 hR2 hV2 hA2 hpp hKw2 hKw1 hV h;go_wp2_with fail;refine (qZ3 w1.heap.size 0 128 128 xs w3 hbl (by omega) (fun j hj=>?_)).mono ?_
 ·rw[ξ hB3];unfold enc;rw[←qZ6 xs HBY.out];simp only[Nat.zero_add,zG,u8s,List.getElem?_map,List.getD];rw[List.getElem?_eq_getElem (by omega)];rfl
 rintro e w4 ⟨rfl,rfl⟩;have r0:=ξ hR3;have fr0:=ν hR3;have HR3:=zh hR3;clear hR3 hB3;go_wp2;have hK5:Kp [w.heap.size] w4 ((w4.setCell ⟨w.heap.size,0,none⟩ (.int .i64 (i:Int))).setCell ⟨w.heap.size,1,none⟩ (.int .u64 (fnv xs))):=((Kp.refl _ _).sc _).sc _;have hR5:=ω (ω HR3.out 0 (.int .i64 (i:Int))) 1 (.int .u64 (fnv xs));refine bodyPost_ret (results_cell_row results149 _ _ w.heap.size 78 #[.int .i64 (i:Int),.int .u64 (fnv xs)] (0,0) _ rfl hR5 underlying78 rfl (by kernel_rfl)) rfl ⟨rfl,v',?_,hK5.ho HA3.out,HW3.out.tail hK5 (by simp) hb⟩;exact qE8 HO3.out hK5 (fun q hq c t fr e=>by rw[List.mem_singleton.1 hq,HR3.out] at e;cases e;decide)
def StT(T:TypeId)(w w':World):Prop:=∀ (k:Nat) (c:Array Value) (t:TypeId) (fr:Nat × Nat),w.heap[k]?=some (.cells c t fr)→t≠T→w'.heap[k]?=some (.cells c t fr)
theorem StT.refl(T:TypeId)(w:World):StT T w w:=fun _ _ _ _ h _=>h
theorem StT.kp{T:TypeId}{a b c:World}(h:StT T a b)(k:Kp [] b c):StT T a c:=fun q x t fr e ht=>k.heap (h q x t fr e ht) (by simp)
theorem StT.grown{T:TypeId}{a w w':World}{base:Nat}{sz:Nat}{v:Value}{n:Nat}{xs:List Value}(s:StT T a w)(h:w.ownsRow base T sz v n xs)(hg:w.grownBy w' v.ownBlock):StT T a w':=fun q x t fr e ht=>qM4 h hg (s q x t fr e ht) ht
theorem xV8{w:World}{g off k cap:Nat}{cur:Array Value}{t:TypeId}{fr:Nat × Nat}{l:List UInt8}(hg:w.heap[g]?=some (.cells cur t fr))(hin:off+k≤cur.size)(hp:ι cur off k=(qD9 l).toArray):
  Sem.run prog (convert 90 9 (.slice (some ⟨g,off,none⟩) k cap)) w=.ok (.string ⟨l.toArray⟩) w:=by
 rw[run_convert_bytes_string w _ _ _ _ _ _ underlying90 underlying5 underlying9];have e:(l.map (fun b=>(b.toNat:Int))).map (Value.int .u8)=qD9 l:=by simp[qD9]
 have hload:=qU0 (P:=prog) (o:=off) (n:=k) hg hin;rw[hp,←e] at hload;rw[run_bytesToString w _ _ _ _ hload,zH5];simp
theorem zG0{w:World}{g off k cap:Nat}{cur:Array Value}{t:TypeId}{fr:Nat × Nat}{s:ByteArray}(hg:w.heap[g]?=some (.cells cur t fr))(hin:off+k≤cur.size)(hp:ι cur off k=(qD9 s.data.toList).toArray):
  Sem.run prog (convert 90 9 (.slice (some ⟨g,off,none⟩) k cap)) w=.ok (.string s) w:=by
 rw[xV8 hg hin hp,Array.toArray_toList]
theorem qU2(s:ByteArray):toB (qJ6 s)=s.data.toList:=by
 unfold toB qJ6;rw[List.map_map];refine Eq.trans (List.map_congr_left (g:=id) fun b _=>?_) (List.map_id _);simp only[Function.comp,Int.toNat_natCast,id];exact UInt8.ofNat_toNat
theorem xF8(bl:List UInt8)(off:Nat)(p:KV)(hp:qC2 p)(hpc:(bl.drop off).take (κ p)=toB (qD3 p)):
  (enc bl)[off]?=some (.int .u8 ((p.k.size:Int)*16+p.v.size))∧ι (enc bl) (off+1) p.k.size=(qD9 p.k.data.toList).toArray∧ι (enc bl) (off+1+p.k.size) p.v.size=(qD9 p.v.data.toList).toArray:=by
 obtain⟨h1,h2,h3⟩:=hp;have hps:κ p=1+p.k.size+p.v.size:=rfl;have hkl:p.k.data.toList.length=p.k.size:=Array.length_toList;have hvl:p.v.data.toList.length=p.v.size:=Array.length_toList;have e:(bl.drop off).take (κ p)=[UInt8.ofNat ((p.k.size:Int)*16+p.v.size).toNat]++p.k.data.toList++p.v.data.toList:=by
  rw[hpc,qD3,qL0,qL0,qU2,qU2];rfl
 obtain⟨l,hl⟩:∃ l,l=bl.drop off:=⟨_,rfl⟩;rw[←hl] at e;refine⟨?_,?_,?_⟩
 ·have e0:l[0]?=some (UInt8.ofNat ((p.k.size:Int)*16+p.v.size).toNat):=by
   have:=congrArg (fun z=>z[0]?) e;simp only[List.getElem?_take,List.append_assoc,List.cons_append,List.nil_append,zH] at this;rw[if_pos (by omega)] at this;exact this
  rw[hl,List.getElem?_drop,Nat.add_zero] at e0;unfold enc qD9;rw[zG,List.getElem?_map,e0];simp only[Option.map_some,Option.some.injEq,Value.int.injEq,true_and];rw[UInt8.toNat_ofNat'];omega
 ·rw[qI6];have e1:(bl.drop (off+1)).take p.k.size=p.k.data.toList:=by
   rw[←List.drop_drop,←hl];have h:=congrArg (fun z=>(z.drop 1).take p.k.size) e;simp only[List.drop_take,List.take_take,List.append_assoc,List.cons_append,List.nil_append,List.drop_succ_cons,List.drop_zero] at h;rw[Nat.min_eq_left (by omega),List.take_left' hkl] at h;exact h
  rw[e1];rfl
 ·rw[qI6];have e2:(bl.drop (off+1+p.k.size)).take p.v.size=p.v.data.toList:=by
   rw[Nat.add_assoc,←List.drop_drop,←hl];have h:=congrArg (fun z=>(z.drop (1+p.k.size)).take p.v.size) e;simp only[List.drop_take,List.take_take] at h;rw[Nat.min_eq_left (by omega)] at h;rw[h,List.drop_left' (by simp[hkl];omega),List.take_of_length_le (by omega)]
  rw[e2];rfl
theorem xU5(B base off:Nat)(bl:List UInt8)(p:KV)(ps:List KV)(v:Value)(w:World)(hB:w.heap[B]?=some (.cells (enc bl) 223))(hbl:bl.length=128)(hp:qC2 p)(hoff:off+κ p≤128)
  (hpc:(bl.drop off).take (κ p)=toB (qD3 p)) (hv:w.ownsRow base 158 2 v ps.length (qA7 ps)) (hb:base≤w.heap.size) (hl:ps.length≤1000):
  Calls prog 190 #[v,.slice (some ⟨B,off,none⟩) (128-off) (128-off)] w fun e w'=>∃ v' r,e=.returned (.tuple #[v',r,.bool true])∧(off+κ p<128→r=.slice (some ⟨B,off+κ p,none⟩) (128-(off+κ p)) (128-(off+κ p)))∧
   w'.ownsRow base 158 2 v' (ps.length+1) (qA7 (ps++[p]))∧Below base w w'∧StT 158 w w':=by
 obtain⟨hp1,hp2,hp3⟩:=hp;have hps:κ p=1+p.k.size+p.v.size:=rfl;obtain⟨m,hm⟩:∃ m,m=128-off:=⟨_,rfl⟩;obtain⟨x,hx⟩:∃ x:Int,x=(p.k.size:Int)*16+p.v.size:=⟨_,rfl⟩;obtain⟨kn,hkn⟩:∃ kn:Nat,kn=p.k.size:=⟨_,rfl⟩;obtain⟨vn,hvn⟩:∃ vn:Nat,vn=p.v.size:=⟨_,rfl⟩;have hk16:x / 16=(kn:Int):=by omega
 have hv16:x % 16=(vn:Int):=by omega
 have hm1:(0:Int)<(m:Int):=by omega
 have hm0:((m:Int) == 0)=false:=by simp;omega
 have hc1:¬(kn:Int)<1:=by omega
 have hc2:¬(8:Int)<(kn:Int):=by omega
 have hc3:¬(12:Int)<(vn:Int):=by omega
 have hc4:¬(m:Int)<1+(kn:Int)+(vn:Int):=by omega
 have hsh:=xF8 bl off p ⟨hp1,hp2,hp3⟩ hpc;obtain⟨hq0,hqk,hqv⟩:=hsh;have b0:w.cell? ⟨B,off,none⟩=some (.int .u8 x):=by rw[ξ hB,hx];exact hq0
 rw[←hkn] at hqk hqv;rw[←hvn] at hqv;have HQK:=zh hqk;have HQV:=zh hqv;have HOF:Hid (m=128-off∧off+(1+kn+vn)≤128):=⟨hm,by omega⟩;have HPS:Hid (κ p=1+kn+vn):=by show _=_;omega
 have HB:=zh hB;have HV:=zh hv;have HBL:=zh hbl;have hBs:=η hB;rw[←hm,HPS.out];clear hpc hv hB hx hkn hvn hm hq0 hqk hqv hps hoff hbl hp1 hp2 hp3;go_enter func190,ntmps190;go_wp2_with fail
 go_quiet (fail)
 go_wp2_with fail;obtain⟨w0,hw0,hB0,hKw0,hs0⟩:∃ w0,w0=w.drewN nq∧w0.heap[B]?=some (.cells (enc bl) 223)∧Kp [] w w0∧w0.heap.size=w.heap.size:=⟨_,rfl,HB.out,(Kp.refl _ _).drewN _,rfl⟩;rw[←hw0];clear hw0 b0 hk16 hv16 hm1 hm0 hc1 hc2 hc3 hc4;have hkm:kn≤m-1:=by have:=HOF.out;omega
 have hkv:kn+vn≤m-1:=by have:=HOF.out;omega
 have hkmi:(kn:Int)≤((m-1:Nat):Int):=by omega
 have hkvi:(kn:Int)+(vn:Int)≤((m-1:Nat):Int):=by omega
 have hkk:(kn:Int)≤(kn:Int)+(vn:Int):=by omega
 have hwkv:IntKind.i64.wrap ((kn:Int)+(vn:Int))=(kn:Int)+(vn:Int):=by rw[IntKind.wrap_i64];have:=HOF.out;omega
 obtain⟨o9,ho9⟩:∃ o9,o9=if m-1=kn then off+1 else off+1+kn:=⟨_,rfl⟩
 have HO9:=zh ho9;clear ho9;have hsub:((kn:Int)+(vn:Int)).toNat-kn=vn:=by omega
 have hin1:off+1+kn≤(enc bl).size:=by rw[qE5,HBL.out];have:=HOF.out;omega
 have hin2:off+1+kn+vn≤(enc bl).size:=by rw[qE5,HBL.out];have:=HOF.out;omega
 have hin9:o9+vn≤(enc bl).size:=by
  rw[HO9.out];split
  ·omega
  ·exact hin2
 have HQ9:Hid (ι (enc bl) o9 vn=(qD9 p.v.data.toList).toArray):=by
  show _=_;rw[HO9.out];split
  ·rename_i he;have hv0:vn=0:=by omega
   have h:=HQV.out;rw[hv0] at h ⊢;rw[←h];simp[ι]
  ·exact HQV.out
 have hSd:w0.drew.heap[B]?=some (.cells (enc bl) 223):=hB0;refine wp_region_held_drew (S:=fun W=>W.heap[B]?=some (.cells (enc bl) 223)) (by kernel_rfl) hSd (fun _=>?_);refine zU 0 (.slice (some ⟨B,off+1,none⟩) (m-1) (m-1)) hSd ?_;refine zU 1 (.int .i64 kn) hSd ?_;refine zU 2 (.slice (some ⟨B,off+1,none⟩) kn (m-1)) hSd ?_;refine zV 3 (.string p.k) rfl (fun W hS=>by have h:=zG0 (cap:=m-1) hS hin1 HQK.out;clear hS;go_simp) hSd ?_;refine zU 4 (.slice (some ⟨B,off+1,none⟩) (m-1) (m-1)) hSd ?_;refine zU 5 (.int .i64 kn) hSd ?_;refine zU 6 (.int .i64 kn) hSd ?_;refine zU 7 (.int .i64 vn) hSd ?_;refine zU 8 (.int .i64 ((kn:Int)+(vn:Int))) hSd ?_;refine zV 9 (.slice (some ⟨B,o9,none⟩) vn (m-1-kn)) rfl (fun W hS=>by clear hS;go_simp;rw[HO9.out];split<;>rfl) hSd ?_;refine zV 10 (.string p.v) rfl (fun W hS=>by have h:=zG0 (cap:=m-1-kn) hS hin9 HQ9.out;clear hS;go_simp) hSd ?_;refine zU 11 (.agg #[.string p.k,.string p.v]) hSd ?_;refine zU 12 (.agg #[.string p.k,.string p.v]) hSd ?_;refine zq 13 fun K hK=>?_;go_simp;obtain⟨w1,hw1,hP1,hB1,hKw1,hs1⟩:∃ w1,w1=(w0.alloc (.cells #[.string ⟨#[]⟩,.string ⟨#[]⟩] 158)).drew∧w1.heap[w.heap.size]?=some (.cells #[.string ⟨#[]⟩,.string ⟨#[]⟩] 158)∧w1.heap[B]?=some (.cells (enc bl) 223)∧Kp [] w w1∧w1.heap.size=w.heap.size+1:=
  ⟨_,rfl,by rw[←hs0];exact μ w0 _,θ _ hB0,(hKw0.alloc _).drew,by simp[hs0]⟩
 rw[←hw1];clear hw1;refine hK.out _ _ hB1 (fun _=>?_);clear hK K hSd
 try simp only[zZ]
 refine zq 14 fun K hK=>?_;have z0:=ξ hP1;have f0:=ν hP1;have hP1s:=η hP1;have HP1:=zh hP1;have HB1:=zh hB1;clear hP1 hB1;go_simp;obtain⟨w2,hw2,hP2,hB2,hKw2,hs2⟩:∃ w2,w2=(w1.setCell ⟨w.heap.size,0,none⟩ (.string p.k)).setCell ⟨w.heap.size,1,none⟩ (.string p.v)∧w2.heap[w.heap.size]?=some (.cells #[.string p.k,.string p.v] 158)∧w2.heap[B]?=some (.cells (enc bl) 223)∧Kp [] w w2∧w2.heap.size=w.heap.size+1:=
  ⟨_,rfl,ω (ω HP1.out 0 _) 1 _,(qB1 (by omega) _ _).trans ((qB1 (by omega) _ _).trans HB1.out),(hKw1.setCell (Or.inr (Nat.le_refl _)) _).setCell (Or.inr (Nat.le_refl _)) _,by simp[hs1]⟩
 rw[←hw2];clear hw2 z0 f0;refine hK.out _ _ hB2 (fun _=>?_);clear hK K;refine zd ?_
 try simp only[zZ]
 go_wp2_with fail;obtain⟨o8,ho8⟩:∃ o8,o8=if m-1=kn+vn then off+1 else off+1+(kn+vn):=⟨_,rfl⟩
 have HO8:=zh ho8;clear ho8;have h0kv:(0:Int)≤(kn:Int)+(vn:Int):=by omega
 have hkvt:((kn:Int)+(vn:Int)).toNat=kn+vn:=by omega
 have hS2:w2.drew.heap[w.heap.size]?=some (.cells #[.string p.k,.string p.v] 158):=hP2;refine wp_region_held_drew (S:=fun W=>W.heap[w.heap.size]?=some (.cells #[.string p.k,.string p.v] 158)) (by kernel_rfl) hS2 (fun _=>?_);refine zU 0 v hS2 ?_;refine zW 1 (.agg #[.string p.k,.string p.v]) hS2 id ?_;refine zU 4 (.slice (some ⟨B,off+1,none⟩) (m-1) (m-1)) hS2 ?_;refine zU 5 (.int .i64 kn) hS2 ?_;refine zU 6 (.int .i64 vn) hS2 ?_;refine zU 7 (.int .i64 ((kn:Int)+(vn:Int))) hS2 ?_;refine zV 8 (.slice (some ⟨B,o8,none⟩) (m-1-(kn+vn)) (m-1-(kn+vn))) rfl (fun W hS=>by clear hS;go_simp;rw[HO8.out];split<;>rfl) hS2 ?_;refine zq 2 fun K hK=>?_;go_simp;obtain⟨w3,hw3,hN3,hP3,hKw3,hs3⟩:∃ w3,w3=(w2.alloc (.cells #[.string p.k,.string p.v] 158)).drew∧w3.heap[w2.heap.size]?=some (.cells #[.string p.k,.string p.v] 158)∧w3.heap[w.heap.size]?=some (.cells #[.string p.k,.string p.v] 158)∧Kp [] w w3∧w3.heap.size=w2.heap.size+1:=
  ⟨_,rfl,μ w2 _,θ _ hP2,(hKw2.alloc _).drew,by simp⟩
 rw[←hw3];clear hw3;refine hK.out _ _ hP3 (fun _=>?_);clear hK K hS2
 try simp only[zZ]
 have hown3:w3.ownsRow base 158 2 v ps.length (qA7 ps):=qE8 HV.out hKw3 (Apt.nil _ _);refine zq 3 fun K hK=>?_;refine qJ7 rfl rfl (.agg #[.string ⟨#[]⟩,.string ⟨#[]⟩]) 2 32 underlying149 zC9 rfl (by decide) base v ps.length (qA7 ps) (by simp[Act.eval]) hown3 w2.heap.size 0 1 1 #[.string p.k,.string p.v] 158 (0,0) (by simp[Act.eval]) hN3 (by simp) (by simp[ι,Value.oneCell']) (by omega) (by omega) (by omega) ?_;intro v4 w4 hown4 hgr4 _;have hP4:w4.heap[w.heap.size]?=some (.cells #[.string p.k,.string p.v] 158):=by
  refine (hgr4.block _ (by omega) ?_).trans hP3;rcases HV.out.2 with⟨rfl,_⟩|⟨g,cap,cur,rfl,_,hh,_⟩
  ·simp[Value.ownBlock]
  ·intro e;simp only[Value.ownBlock,Option.some.injEq] at e;have:=η hh;omega
 have HO4:Hid (w4.ownsRow base 158 2 v4 (ps.length+1) (qA7 (ps++[p]))):=by
  have e:qA7 (ps++[p])=qA7 ps++(ι #[.string p.k,.string p.v] 0 (1*2)).toList:=by simp[qA7,pcs,ι]
  show World.ownsRow _ _ _ _ _ _ _;rw[e];exact hown4
 have HL4:Hid (Below base w w4):=(hKw3.below hb (by simp)).grown hgr4 (by omega) (qG3 hown3);have HS4:Hid (StT 158 w w4):=((StT.refl _ w).kp hKw3).grown hown3 hgr4;refine hK.out _ _ hP4 (fun _=>?_);clear hK K hown4 hgr4 hown3
 try simp only[zZ]
 refine zq 9 fun K hK=>?_;go_simp;refine hK.out _ _ hP4 (fun _=>?_);clear hK K
 try simp only[zZ]
 refine zq 10 fun K hK=>?_;go_simp;refine hK.out _ _ hP4 (fun _=>?_);clear hK K
 try simp only[zZ]
 refine zq 11 fun K hK=>?_;go_simp;refine hK.out _ _ hP4 (fun _=>?_);clear hK K
 try simp only[zZ]
 refine zd ?_;have HEND:Hid (off+(1+kn+vn)<128→(Value.slice (some ⟨B,o8,none⟩) (m-1-(kn+vn)) (m-1-(kn+vn)))=.slice (some ⟨B,off+(1+kn+vn),none⟩) (128-(off+(1+kn+vn))) (128-(off+(1+kn+vn)))):=by
  intro hlt;have h1:=HOF.out;rw[HO8.out,if_neg (by omega),show off+1+(kn+vn)=off+(1+kn+vn) from by omega,show m-1-(kn+vn)=128-(off+(1+kn+vn)) from by omega]
 clear hP4 hN3 hP3 hP2 hB2;go_wp2
 go_ret3
 exact⟨v4,_,rfl,HEND.out,HO4.out,HL4.out,HS4.out⟩
end Go.Proofs.YtdohpenfkdckiabGreatDoor
