import Derived.Test.YtdohpenfkdckiabGreatDoorP19
set_option linter.all false
set_option maxRecDepth 100000
set_option maxHeartbeats 20000000
namespace Go.Proofs.YtdohpenfkdckiabGreatDoor
open Go.Proofs.Tryz
open Go.RowKit
theorem Devv.blk{V A N C:Nat}{δ:Dvw}{wr:Int}{w:World}(h:Devv V A N C δ wr w){i:Nat}(hi:i<N):(χ δ.l i).length=128:=zF4 (qQ2 N δ.ws δ.l0 h.dk.len h.dk.fit) hi
theorem jH2{V A N C:Nat}{δ:Dvw}{wr:Int}{w:World}(h:Devv V A N C δ wr w){i:Nat}(hi:i<N):
  Calls prog 151 #[.pointer (some ⟨V,0,none⟩),.int .i64 i] w fun e w'=>e=.returned (.agg (enc (χ δ.l i)))∧Devv V A N C δ wr w'∧Kp [A] w w':=by
 refine (zJ6 h.dk i hi).mono ?_;rintro e w' ⟨hx|⟨rfl,hd⟩,hK⟩
 ·exact absurd δ.q hx.1.1
 ·exact⟨rfl,⟨hd⟩,hK⟩
theorem xT2(V A n C:Nat)(δ:Dvw)(writes:Int)(i:Nat)(N rb rs:Int)(w:World)(hd:Devv V A n C δ writes w)(hi:i<n)
  (hN:qE6 (qE9 (((χ δ.l i).drop 8).take 8))=N) (hrb:qE6 (qE9 (((χ δ.l i).drop 6).take 2))=rb) (hrs:qE6 (qE9 (((χ δ.l i).drop 16).take 8))=rs)
  (hN0:0≤N) (hrb0:0≤rb) (hrb1:rb≤65535) (hrs0:0≤rs) (q:Bool) (hq:q=(decide (N % 2=(i:Int)) && (toB (qE3 N rb rs) == (χ δ.l i).take 32))):
  Calls prog 111 #[.pointer (some ⟨V,0,none⟩),.int .i64 i] w fun e w'=>e=.returned (.tuple #[if q then qI0 N rb rs else qI0 0 0 0,.bool q])∧
   Devv V A n C δ writes w'∧Kp [A] w w':=by
 have hbl:(χ δ.l i).length=128:=hd.blk hi;obtain⟨bl,hb0⟩:∃ bl,χ δ.l i=bl:=⟨_,rfl⟩;rw[hb0] at hN hrb hrs hq hbl;have HB:=zh hb0;have HQ:=zh hq;clear hb0 hq;have hA:=hd.dk.sA;have HD:=zh hd;clear hd;go_enter func111,ntmps111;go_wp2_with fail;refine (jH2 (qG3 HD.out ((Kp.refl [] _).alloc _) (by intro k hk;cases hk)) hi).mono ?_;rintro e w1 ⟨rfl,hD1,hK1⟩;rw[HB.out];have hes:(enc bl).size=128:=by rw[qD2,hbl]
 go_wp2_with fail;have hN1:=μ w1 (.cells zeroCells223 223);have hR:w1.heap[w.heap.size]?=some (.cells #[.int .u64 0,.int .i64 0,.int .u64 0] 116):=hK1.heap (μ _ _) (by simp;omega);have hK1':Kp [A] w w1:=((Kp.refl _ _).alloc _).tr hK1;have hRs:=ζ hR;have hA1s:=hD1.dk.sA;have HD1:Hid (Devv V A n C δ writes w1∧OffD w1 [w.heap.size]):=⟨hD1,OffD.one hR (by decide)⟩;rw[qI9 hN1 (by simp[qF5,hes]) (qF9 bl).one];rw[show (enc bl).toList.toArray=enc bl from by simp,qH1 (by rw[qF5,hes])];obtain⟨W2,hW2,hK2,hA2,hR2,hG2,hs2⟩:∃ W2,W2=(w1.alloc (.cells zeroCells223 223)).setRow w1.heap.size (enc bl)∧Kp [A] w W2∧Kp [w.heap.size] w1 W2∧
   W2.heap[w.heap.size]?=some (.cells #[.int .u64 0,.int .i64 0,.int .u64 0] 116)∧W2.heap[w1.heap.size]?=some (.cells (enc bl) 223)∧W2.heap.size=w1.heap.size+1:=
  ⟨_,rfl,(hK1'.alloc _).setRow (Or.inr hK1'.size) _,((Kp.refl _ _).alloc _).setRow (Or.inr (Nat.le_refl _)) _,(setRow_other _ _ _ _ (by omega)).trans (θ _ hR),setRow_heap _ _ _ _ _ _ hN1,by simp[World.setRow]⟩
 rw[←hW2];clear hW2 hN1 hR hK1 hK1' hD1;generalize hgen:w1.heap.size=G at *;clear hgen;go_wp2_with fail;have hwr:IntKind.i64.wrap rb=rb:=by simp only[IntKind.wrap_i64];omega
 rename_i Q0 K0 hK0;have key:K0 { tmps:=#[Value.pointer (some ⟨V,0,none⟩),Value.int .i64 ↑i,undef,undef,Value.pointer (some ⟨w.heap.size,0,none⟩),Value.bool false,
     Value.pointer (some ⟨G,0,none⟩),Value.pointer (some ⟨G+1,0,none⟩),Value.pointer (some ⟨V,0,none⟩),Value.int .i64 ↑i,Value.agg (enc bl),
     Value.slice (some ⟨G,8,none⟩) 8 120,Value.int .u64 N,Value.slice (some ⟨G,6,none⟩) 2 122,Value.int .u64 rb,
     Value.int .i64 rb,Value.slice (some ⟨G,16,none⟩) 8 112,Value.int .u64 rs,Value.agg #[.int .i64 rb,.int .u64 rs],
     Value.agg #[.int .u64 N,.int .i64 rb,.int .u64 rs],undef,undef,undef,undef,undef,undef,undef,undef,undef,undef,undef,undef,undef],defers:=[] }
   (W2.alloc (.cells #[.int .u64 N,.int .i64 rb,.int .u64 rs] 116)).drew:=by
  refine hK0 _ _ ?_;clear hK0 K0 hwr;obtain⟨W3,hW3,hK3,hA3,hR3,hG3,hH3⟩:∃ W3,W3=(W2.alloc (.cells #[.int .u64 N,.int .i64 rb,.int .u64 rs] 116)).drew∧Kp [A] w W3∧Kp [w.heap.size] w1 W3∧
    W3.heap[w.heap.size]?=some (.cells #[.int .u64 0,.int .i64 0,.int .u64 0] 116)∧W3.heap[G]?=some (.cells (enc bl) 223)∧W3.heap[G+1]?=some (.cells #[.int .u64 N,.int .i64 rb,.int .u64 rs] 116):=
   ⟨_,rfl,(hK2.alloc _).drew,(hA2.alloc _).drew,θ _ hR2,θ _ hG2,by rw[←hs2];exact μ W2 _⟩
  rw[←hW3];clear hW3 hK2 hA2 hR2 hG2 hN hrb hrs hs2;have e0:=ξ hH3 0;have e1:=ξ hH3 1;have e2:=ξ hH3 2;simp at e0 e1 e2;have hG1s:=ζ hH3;by_cases hp:N % 2=(i:Int)
  ·have hpb:(N % 2 != (i:Int))=false:=by simp[hp]
   go_wp2_with fail
   go_region_with (first
    | (go_at_call 137;go_must (refine (qU8 N rb rs _ hN0).mono ?_;rintro e w4 ⟨rfl,hB4⟩;have hH4:=(hB4.block (G+1) hG1s).trans hH3;have hG4:=(hB4.block G (by have:=hG1s;show G<W3.heap.size;omega)).trans hG3;have g0:=ξ hH4 0;have g1:=ξ hH4 1;have g2:=ξ hH4 2;simp at g0 g1 g2))
    | (go_at_call 135;go_must (refine (zD1 N rb rs _ hN0 hrb0 hrb1 hrs0).mono ?_;rintro e w5 ⟨v5,rfl,hO5,hB5⟩;obtain⟨g5,cap5,cur5,rfl,hg5,hcs5,hp5⟩:=zC4 hO5;have hG5:=(hB5.block G (ζ hG4)).trans hG4))
    | (go_at_call 153;go_must (refine (zU3 g5 0 32 cap5 G 0 128 (toB (qE3 N rb rs)) (bl.take 32) _ 5 223 cur5 (enc bl) (0,0) (0,0) hg5 hG5 hp5 (by rw[qI8,List.drop_zero]) (by omega) (by omega)).mono ?_;rintro e w6 ⟨rfl,rfl⟩)))
   have hB4':Kp [] W3.drew w4:=Kp.of_below hB4 (Nat.le_refl _);have hB5':Kp [] w4 w6:=Kp.of_below hB5 (Nat.le_refl _);have hR5:=hB5'.heap (hB4'.heap (k:=w.heap.size) hR3 (by simp)) (by simp);have hA5:Kp [w.heap.size] w1 w6:=((hA3.drew).tr hB4').tr hB5';have hH5:=hB5'.hp hH4;have hK5:Kp [A] w w6:=((hK3.drew).tr hB4').tr hB5';clear hB4 hB4' hB5 hB5' g0 g1 g2 e0 e1 e2 hG5 hp5 hO5 hG4 hH4 hg5 hcs5 hpb;have r0:=ξ hR5 0;have r1:=ξ hR5 1;have r2:=ξ hR5 2;have s0:=ξ hH5 0;have s1:=ξ hH5 1;have s2:=ξ hH5 2;simp at r0 r1 r2 s0 s1 s2;have rf:=ψ hR5;have hqq:q=(toB (qE3 N rb rs) == bl.take 32):=by rw[HQ.out];simp[hp]
   clear HQ hp;have HQ2:=zh hqq;clear hqq;simp only[zZ];by_cases hE:(toB (qE3 N rb rs) == bl.take 32)=true
   ·have hq1:q=true:=by rw[HQ2.out];exact hE
    subst hq1;clear HQ2;simp only[hE,Bool.not_true];go_wp2;have hfin:=φ (φ (φ hR5 0 (.int .u64 N)) 1 (.int .i64 rb)) 2 (.int .u64 rs);refine bodyPost_ret (qN3 results111 _ _ w.heap.size 116 _ _ _ rfl hfin underlying116 rfl (by kernel_rfl)) rfl ⟨rfl,?_,((hK5.sc _).sc _).sc _⟩;exact qG3 HD1.out.1 (((hA5.sc _).sc _).sc _) HD1.out.2
   ·have hE':(toB (qE3 N rb rs) == bl.take 32)=false:=by simpa using hE
    have hq1:q=false:=by rw[HQ2.out];exact hE'
    subst hq1;clear HQ2 hE;simp only[hE',Bool.not_false];go_wp2;have hfin:=φ (φ (φ hR5 0 (.int .u64 0)) 1 (.int .i64 0)) 2 (.int .u64 0);refine bodyPost_ret (qN3 results111 _ _ w.heap.size 116 _ _ _ rfl hfin underlying116 rfl (by kernel_rfl)) rfl ⟨rfl,?_,((hK5.sc _).sc _).sc _⟩;exact qG3 HD1.out.1 (((hA5.sc _).sc _).sc _) HD1.out.2
  ·have hpb:(N % 2 != (i:Int))=true:=by simp[hp]
   have hq0:q=false:=by rw[HQ.out];simp[hp]
   clear hp HQ;subst hq0;go_wp2_with fail;refine wp_region_any (by kernel_rfl) ?_;change wpAny _ _ _ _ _ _ _ (World.drew _);refine wpAny_take (i:=2) (v:=.int .i64 i) rfl (by kernel_rfl) (by kernel_rfl) (by kernel_rfl) (fun _ _ _ h=>h) (Or.inl ⟨by rfl,fun W=>rfl⟩) ?_;simp only[zZ];refine zQ 0 fun K hK=>?_;refine qJ0 rfl (qK7 (t:=116) rfl (by kernel_rfl) 3 (by kernel_rfl) (G+1) rfl (show W3.drew.heap[G+1]?=_ from hH3) rfl) ?_;refine hK _ _ ?_;clear hK K;simp only[zZ];refine zQ 1 fun K hK=>?_;go_simp;refine (qU8 N rb rs _ hN0).mono ?_;rintro e w4 ⟨rfl,hB4⟩;refine hK _ _ ?_;clear hK K;refine zu 3 (.bool true) ?_;refine wpAny_take (i:=4) (v:=.bool true) rfl (by kernel_rfl) (by kernel_rfl) (by kernel_rfl) (fun _ _ _ h=>h) (Or.inl ⟨by rfl,fun W=>rfl⟩) ?_;simp only[zZ];refine wpAny_take (i:=5) (v:=undef) rfl (by kernel_rfl) (by kernel_rfl) (by kernel_rfl) (fun _ _ _ h=>h) (Or.inr ⟨by rfl,rfl⟩) ?_;simp only[zZ];refine wpAny_take (i:=6) (v:=undef) rfl (by kernel_rfl) (by kernel_rfl) (by kernel_rfl) (fun _ _ _ h=>h) (Or.inr ⟨by rfl,rfl⟩) ?_;simp only[zZ];refine wpAny_take (i:=7) (v:=undef) rfl (by kernel_rfl) (by kernel_rfl) (by kernel_rfl) (fun _ _ _ h=>h) (Or.inr ⟨by rfl,rfl⟩) ?_;simp only[zZ];refine wpAny_take (i:=8) (v:=undef) rfl (by kernel_rfl) (by kernel_rfl) (by kernel_rfl) (fun _ _ _ h=>h) (Or.inr ⟨by rfl,rfl⟩) ?_;simp only[zZ];refine wpAny_take (i:=9) (v:=undef) rfl (by kernel_rfl) (by kernel_rfl) (by kernel_rfl) (fun _ _ _ h=>h) (Or.inr ⟨by rfl,rfl⟩) ?_;simp only[zZ];refine zu 10 (.bool true) ?_;refine wpAny_done (by kernel_rfl) ?_ _;have hB4':Kp [] W3.drew w4:=Kp.of_below hB4 (Nat.le_refl _);have hR4:=hB4'.heap (k:=w.heap.size) hR3 (by simp);have hA4:Kp [w.heap.size] w1 w4:=(hA3.drew).tr hB4';have hK4:Kp [A] w w4:=(hK3.drew).tr hB4';clear hB4 hB4';have r0:=ξ hR4 0;have r1:=ξ hR4 1;have r2:=ξ hR4 2;simp at r0 r1 r2;have rf:=ψ hR4;go_wp2;have hfin:=φ (φ (φ hR4 0 (.int .u64 0)) 1 (.int .i64 0)) 2 (.int .u64 0);refine bodyPost_ret (qN3 results111 _ _ w.heap.size 116 _ _ _ rfl hfin underlying116 rfl (by kernel_rfl)) rfl ⟨rfl,?_,((hK4.sc _).sc _).sc _⟩;exact qG3 HD1.out.1 (((hA4.sc _).sc _).sc _) HD1.out.2
 go_region_with (go_at_call 152;go_must (refine (xC6 _ _ _ _ bl 223 _ (by first | exact hG2 | exact θ _ hG2) (by omega) (by omega)).mono ?_);rintro e w' ⟨rfl,rfl⟩)
 all_goals exact key
theorem zU9(V A n C:Nat)(δ:Dvw)(writes:Int)(i:Nat)(hd:Option (Int × Int × Int))(w:World)(hv:Devv V A n C δ writes w)(hi:i<n)(hh:IsHd δ.l i hd):
  Calls prog 111 #[.pointer (some ⟨V,0,none⟩),.int .i64 i] w fun e w'=>e=.returned (.tuple #[qP7 hd,.bool hd.isSome])∧
   Devv V A n C δ writes w'∧Kp [A] w w':=by
 have p2:(256:Int) ^ 2=65536:=by decide
 have p8:(256:Int) ^ 8=18446744073709551616:=by decide
 have hbl:(χ δ.l i).length=128:=hv.blk hi;have l1:(((χ δ.l i).drop 8).take 8).length=8:=by rw[List.length_take,List.length_drop];omega
 have l2:(((χ δ.l i).drop 6).take 2).length=2:=by rw[List.length_take,List.length_drop];omega
 have l3:(((χ δ.l i).drop 16).take 8).length=8:=by rw[List.length_take,List.length_drop];omega
 have b1:=zK6 (((χ δ.l i).drop 8).take 8) (by omega);have b2:=zK6 (((χ δ.l i).drop 6).take 2) (by omega);have b3:=zK6 (((χ δ.l i).drop 16).take 8) (by omega);rw[l1,p8] at b1;rw[l2,p2] at b2;rw[l3,p8] at b3;refine (xT2 V A n C δ writes i _ _ _ w hv hi rfl rfl rfl b1.1 b2.1 (by omega) b3.1 hd.isSome ?_).mono ?_
 ·cases hd with
  | some hd=>
   obtain⟨e1,e2,e3,e4,e5⟩:=hh;rw[e1,e2,e3];simp[e4,e5]
  | none=>
   symm
   show _=false;rw[Bool.and_eq_false_iff];by_cases hm:qE6 (qE9 (((χ δ.l i).drop 8).take 8)) % 2=(i:Int)
   ·right;rw[beq_eq_false_iff_ne];intro e;exact hh _ _ _ ⟨rfl,rfl,rfl,hm,e⟩
   ·left;simpa using hm
 ·rintro e w' ⟨rfl,hA,hK⟩;refine⟨?_,hA,hK⟩
  cases hd with
  | some hd=>
   obtain⟨e1,e2,e3,e4,e5⟩:=hh;rw[e1,e2,e3];simp[qP7]
  | none=>simp[qP7]
theorem jI8(V A n C:Nat)(δ:Dvw)(writes:Int)(d0 d1:Option (Int × Int × Int))(w:World)(hd:Devv V A n C δ writes w)(hn2:8≤n)(hh0:IsHd δ.l 0 d0)(hh1:IsHd δ.l 1 d1):
  Calls prog 73 #[.pointer (some ⟨V,0,none⟩)] w fun e w'=>e=.returned (.tuple #[qP7 (qK1 d0 d1),.bool (qK1 d0 d1).isSome])∧
   Devv V A n C δ writes w'∧Kp [A] w w':=by
 have hA:=hd.dk.sA;obtain⟨N0,rb0,rs0,q0,hz0,hq0⟩:∃ N0 rb0 rs0 q0,qP7 d0=.agg #[.int .u64 N0,.int .i64 rb0,.int .u64 rs0]∧d0.isSome=q0:=by cases d0<;>exact⟨_,_,_,_,rfl,rfl⟩
 obtain⟨N1,rb1,rs1,q1,hz1,hq1⟩:∃ N1 rb1 rs1 q1,qP7 d1=.agg #[.int .u64 N1,.int .i64 rb1,.int .u64 rs1]∧d1.isSome=q1:=by cases d1<;>exact⟨_,_,_,_,rfl,rfl⟩
 have HF:∀ W,Hid (Devv V A n C δ writes W→(Calls prog 111 #[.pointer (some ⟨V,0,none⟩),.int .i64 0] W fun e w'=>e=.returned (.tuple #[.agg #[.int .u64 N0,.int .i64 rb0,.int .u64 rs0],.bool q0])∧Devv V A n C δ writes w'∧Kp [A] W w')∧(Calls prog 111 #[.pointer (some ⟨V,0,none⟩),.int .i64 1] W fun e w'=>e=.returned (.tuple #[.agg #[.int .u64 N1,.int .i64 rb1,.int .u64 rs1],.bool q1])∧Devv V A n C δ writes w'∧Kp [A] W w')):=fun W g=>by
  have k0:=zU9 V A n C δ writes 0 d0 W g (by omega) hh0;have k1:=zU9 V A n C δ writes 1 d1 W g (by omega) hh1;rw[hz0,hq0] at k0;rw[hz1,hq1] at k1;exact⟨k0,k1⟩
 have HD:=zh hd;clear hd;have HRES:Hid (∀ q,(q1=true→q0=true→qT0 N1 N0=q)→qP7 (qK1 d0 d1)=(if q1 && (!q0 || q) then .agg #[.int .u64 N1,.int .i64 rb1,.int .u64 rs1] else .agg #[.int .u64 N0,.int .i64 rb0,.int .u64 rs0])∧(qK1 d0 d1).isSome=(q1 || q0)):=fun q hq=>by
  cases d0 with
  | none=>
   cases d1 with
   | none=>subst hq0;subst hq1;exact⟨by simpa [qK1] using hz0,rfl⟩
   | some b=>subst hq0;subst hq1;exact⟨by simpa [qK1] using hz1,rfl⟩
  | some a=>
   cases d1 with
   | none=>subst hq0;subst hq1;exact⟨by simpa [qK1] using hz0,rfl⟩
   | some b=>
    subst hq0;subst hq1;have e0:a.1=N0:=by have h:=hz0;simp[qP7,qI0] at h;exact h.1
    have e1:b.1=N1:=by have h:=hz1;simp[qP7,qI0] at h;exact h.1
    have hq':=hq rfl rfl;rw[←e0,←e1] at hq'
    cases q with
    | true=>exact⟨by simpa [qK1,hq'] using hz1,by simp[qK1,hq']⟩
    | false=>exact⟨by simpa [qK1,hq'] using hz0,by simp[qK1,hq']⟩
 clear hh0 hh1 hz0 hz1 hq0 hq1;go_enter func73,ntmps73;go_wp2_with fail;refine ((HF _).out (qG3 HD.out ((Kp.refl [] _).alloc _) (by intro k hk;cases hk))).1.mono ?_;rintro e w1 ⟨rfl,hD1,hK1⟩;have hR1:=hK1.heap (μ w (.cells #[.int .u64 0,.int .i64 0,.int .u64 0] 116)) (by simp;omega);have hK1':Kp [A] w w1:=((Kp.refl _ _).alloc _).tr hK1;have hA1s:=hD1.dk.sA;have hR1s:=ζ hR1;clear hK1;go_wp2_with fail;refine ((HF _).out (qG3 hD1 ((Kp.refl [] _).alloc _) (by intro k hk;cases hk))).2.mono ?_;rintro e w2 ⟨rfl,hD2,hK2⟩;have hR2:=hK2.heap (θ _ hR1) (by simp;omega);have hH2:=hK2.heap (μ w1 (.cells #[.int .u64 N0,.int .i64 rb0,.int .u64 rs0] 116)) (by simp;omega);have hK2':Kp [A] w w2:=hK1'.trans (((Kp.refl [A] _).alloc _).tr hK2) (by simp);have hs2:=hK2.size;have hH2s:=ζ hH2;have hR2s:=ζ hR2;have hA2s:=hD2.dk.sA;have HD2:Hid (Devv V A n C δ writes w2∧OffD w2 [w.heap.size]):=⟨hD2,OffD.one hR2 (by decide)⟩;clear hK2 hK1' hR1 hD1 hD2 HF HD
 cases q1 with
 | false=>
  have r0:=ξ hR2 0;have r1:=ξ hR2 1;have r2:=ξ hR2 2;have rf:=ψ hR2;have s0:=ξ hH2 0;have s1:=ξ hH2 1;have s2:=ξ hH2 2;simp at r0 r1 r2 s0 s1 s2;go_wp2;have hfin:=θ (.cells #[.int .u64 N1,.int .i64 rb1,.int .u64 rs1] 116) (φ (φ (φ hR2 0 (.int .u64 N0)) 1 (.int .i64 rb0)) 2 (.int .u64 rs0));refine bodyPost_ret (qN3 results73 _ _ w.heap.size 116 _ _ _ rfl hfin underlying116 rfl (by kernel_rfl)) rfl ⟨by have h:=HRES.out true (by simp);simp only[Bool.false_and,Bool.false_or] at h;rw[h.1,h.2];rfl,?_,(((hK2'.sc _).sc _).sc _).alloc _⟩;exact qG3 HD2.out.1 (((((Kp.refl _ _).sc _).sc _).sc _).alloc _) HD2.out.2
 | true=>
  cases q0 with
  | false=>
   have r0:=ξ hR2 0;have r1:=ξ hR2 1;have r2:=ξ hR2 2;have rf:=ψ hR2;simp at r0 r1 r2;go_wp2;have hfin:=θ (.cells #[.int .u64 N1,.int .i64 rb1,.int .u64 rs1] 116) (φ (φ (φ hR2 0 (.int .u64 N1)) 1 (.int .i64 rb1)) 2 (.int .u64 rs1));refine bodyPost_ret (qN3 results73 _ _ w.heap.size 116 _ _ _ rfl hfin underlying116 rfl (by kernel_rfl)) rfl ⟨by have h:=HRES.out true (by simp);simp only[Bool.not_false,Bool.true_or,Bool.and_self,Bool.or_false] at h;rw[h.1,h.2];rfl,?_,(((hK2'.sc _).sc _).sc _).alloc _⟩;exact qG3 HD2.out.1 (((((Kp.refl _ _).sc _).sc _).sc _).alloc _) HD2.out.2
  | true=>
   have r0:=ξ hR2 0;have r1:=ξ hR2 1;have r2:=ξ hR2 2;have rf:=ψ hR2;have s0:=ξ hH2 0;have s1:=ξ hH2 1;have s2:=ξ hH2 2;simp at r0 r1 r2 s0 s1 s2;go_wp2_with fail;refine (jI6 _ _ _ _ _ _ _).mono ?_;obtain⟨q,hqq⟩:∃ q,qT0 N1 N0=q:=⟨_,rfl⟩;rw[hqq];have HR:=Hid.mk' (HRES.out q (fun _ _=>hqq));clear hqq;rintro e w3 ⟨rfl,hB3⟩;have hB3':=Kp.of_below hB3 (Nat.le_refl _);have hR3:=hB3'.heap (θ _ hR2) (by simp);have hA3:Kp [w.heap.size] w2 w3:=((Kp.refl _ _).alloc _).tr hB3';have hH3:=hB3'.heap (θ _ hH2) (by simp);have hJ3:=hB3'.heap (μ w2 (.cells #[.int .u64 N1,.int .i64 rb1,.int .u64 rs1] 116)) (by simp);have hK3:Kp [A] w w3:=(hK2'.alloc _).tr hB3';have hR3s:=ζ hR3;have hH3s:=ζ hH3;have hJ3s:=ζ hJ3;clear hB3 hB3' r0 r1 r2 s0 s1 s2 rf
   cases q with
   | false=>
    have r0:=ξ hR3 0;have r1:=ξ hR3 1;have r2:=ξ hR3 2;have rf:=ψ hR3;have s0:=ξ hH3 0;have s1:=ξ hH3 1;have s2:=ξ hH3 2;simp at r0 r1 r2 s0 s1 s2;go_wp2;have hfin:=φ (φ (φ hR3 0 (.int .u64 N0)) 1 (.int .i64 rb0)) 2 (.int .u64 rs0);refine bodyPost_ret (qN3 results73 _ _ w.heap.size 116 _ _ _ rfl hfin underlying116 rfl (by kernel_rfl)) rfl ⟨by have h:=HR.out;simp only[Bool.not_true,Bool.or_self,Bool.and_false,Bool.or_true] at h;rw[h.1,h.2];rfl,?_,((hK3.sc _).sc _).sc _⟩;exact qG3 HD2.out.1 (((hA3.sc _).sc _).sc _) HD2.out.2
   | true=>
    have r0:=ξ hR3 0;have r1:=ξ hR3 1;have r2:=ξ hR3 2;have rf:=ψ hR3;have s0:=ξ hJ3 0;have s1:=ξ hJ3 1;have s2:=ξ hJ3 2;simp at r0 r1 r2 s0 s1 s2;go_wp2;have hfin:=φ (φ (φ hR3 0 (.int .u64 N1)) 1 (.int .i64 rb1)) 2 (.int .u64 rs1);refine bodyPost_ret (qN3 results73 _ _ w.heap.size 116 _ _ _ rfl hfin underlying116 rfl (by kernel_rfl)) rfl ⟨by have h:=HR.out;simp only[Bool.or_true,Bool.and_self] at h;rw[h.1,h.2];rfl,?_,((hK3.sc _).sc _).sc _⟩;exact qG3 HD2.out.1 (((hA3.sc _).sc _).sc _) HD2.out.2
variable {κ:Kd}
structure Devn(A N C:Nat)(δ:Dvw)(wr:Int)(w:World):Prop where
 hA:∃ v calls,w.heap[A]?=some (qC1 δ.κ N C v calls wr)∧w.ownsRow δ.base 89 129 v δ.ws.length (δ.ws.flatMap wcs)∧(δ.ws=[]→v=.slice none 0 0)
 hC:w.heap[C]?=some (.cells (enc δ.l0) 87)
 low:δ.base≤w.heap.size
 fit:∀ x∈δ.ws,x.1<N∧x.2.length=128
 wl:δ.ws.length≤100000
 len:N*128≤δ.l0.length
 N1:N≤1000
section
variable {A N C:Nat} {δ:Dvw} {wr:Int} {w w':World}
theorem Devn.v(h:Devn A N C δ wr w){V:Nat}(hV:w.heap[V]?=some (qC8 A N)):Devv V A N C δ wr w:=⟨⟨hV,h.hA,h.hC,.inl δ.q,h.low,h.fit,h.wl,h.len,h.N1⟩⟩
theorem Dk.n{κ:Kd}{V base:Nat}{l:List UInt8}{ws:List (Nat × List UInt8)}(hq:κ.quiet)(h:Dk κ V A N C base l ws wr w):Devn A N C ⟨κ,hq,base,l,ws⟩ wr w:=⟨h.hA,h.hC,h.low,h.fit,h.wl,h.len,h.N1⟩
theorem Devn.new{c:Nat}{l:List UInt8}{calls:Int}(h:w.heap[A]?=some (qA8 c N C (.slice none 0 0) calls wr))(hC:w.heap[C]?=some (.cells (enc l) 87))(hs:N*128≤l.length)(hN:N≤1000):Devn A N C ⟨kq c,zY7 c,0,l,[]⟩ wr w:=
 ⟨⟨.slice none 0 0,calls,h,World.ownsRow_nil _ _ _ _,fun _=>rfl⟩,hC,Nat.zero_le _,by simp,by simp,hs,hN⟩
theorem Devn.keep{S:List Nat}(h:Devn A N C δ wr w)(hK:Kp S w w')(hS:OffD w S):Devn A N C δ wr w':=by
 obtain⟨v,c,h1,h2,h3⟩:=h.hA;exact⟨⟨v,c,hK.heap h1 (fun hm=>hS _ hm _ _ _ h1 (by decide)),qG5 h2 hK (fun q hq c t fr e hm=>hS q hq c t fr e (by rw[List.mem_singleton.1 hm];decide)),h3⟩,hK.heap h.hC (fun hm=>hS _ hm _ _ _ h.hC (by decide)),Nat.le_trans h.low hK.size,h.fit,h.wl,h.len,h.N1⟩
theorem Devn.keep0(h:Devn A N C δ wr w)(hK:Kp [] w w'):Devn A N C δ wr w':=h.keep hK (by intro k hk;cases hk)
theorem Devn.AC(h:Devn A N C δ wr w):C≠A:=by obtain⟨v,c,h1,_⟩:=h.hA;exact qL8 h.hC h1 (by decide)
theorem Devn.sA(h:Devn A N C δ wr w):A<w.heap.size:=by obtain⟨v,c,h1,_⟩:=h.hA;exact ζ h1
theorem Devn.sC(h:Devn A N C δ wr w):C<w.heap.size:=ζ h.hC
end
theorem xN0(A n C:Nat)(cache:Value)(calls writes:Int)(w:World)(h:w.heap[A]?=some (qC1 κ n C cache calls writes)):
  Calls prog 33 #[.pointer (some ⟨A,0,none⟩)] w fun e w'=>e=.returned (.int .i64 n)∧w'=w:=by
 have c0:=ξ h 0;simp at c0;clear h;go_enter func33,ntmps33;go_wp2;go_ret;exact⟨rfl,rfl⟩
theorem jX6(A n C:Nat)(cache:Value)(calls writes:Int)(w:World)(h:w.heap[A]?=some (qC1 κ n C cache calls writes)):
  Calls prog 110 #[.iface 23 (.pointer (some ⟨A,0,none⟩))] w fun e w'=>e=.returned (.int .i64 n)∧Kp [] w w':=by
 have hmf:=zM;have hA:=ζ h
 go_enter_defers func110,ntmps110
 go_wp2_with fail;refine (xN0 A n C cache calls writes _ (θ _ h)).mono ?_;rintro e w1 ⟨rfl,rfl⟩;go_wp2;refine leaves_cons (f:=150) (args:=#[.pointer (some ⟨w.heap.size,0,none⟩)]) (by simp) (by simp[go_sem]) ?_;refine (zT3 ⟨w.heap.size,0,none⟩ _).mono ?_;rintro e u' w'' ⟨rfl,rfl,rfl⟩;simp[Leaves,settle,results,results110,go_sem];exact (Kp.refl _ _).alloc _
theorem jJ9{A n C:Nat}{δ:Dvw}{wr:Int}{w:World}(hd:Devn A n C δ wr w)(h8:8≤n)(h400:n≤400):
  Calls prog 72 #[.iface 23 (.pointer (some ⟨A,0,none⟩))] w fun e w'=>∃ V,e=.returned (.pointer (some ⟨V,0,none⟩))∧w.heap.size≤V∧w'.heap[V]?=some (qC8 A n)∧Kp [] w w':=by
 obtain⟨v,c,h,_⟩:=hd.hA;clear hd;go_enter func72,ntmps72;go_wp2_with fail;refine (jX6 A n C v c wr _ h).mono ?_;rintro e w1 ⟨rfl,hK1⟩;have hd:decide ((n:Int)<8)=false:=by simp;omega
 have hd2:decide ((400:Int)<(n:Int))=false:=by simp;omega
 have hs1:=hK1.size;go_wp2;go_ret;exact⟨_,rfl,hs1,μ _ _,hK1.alloc _⟩
theorem jI9{V A n C:Nat}{δ:Dvw}{writes:Int}{N rb rs:Int}{w:World}(hd:Devv V A n C δ writes w)(h8:8≤n)(hh:Heads δ.l N rb rs):
  Calls prog 73 #[.pointer (some ⟨V,0,none⟩)] w fun e w'=>e=.returned (.tuple #[.agg #[.int .u64 N,.int .i64 rb,.int .u64 rs],.bool true])∧Devv V A n C δ writes w'∧Kp [A] w w':=by
 obtain⟨d0,d1,g0,g1,g2⟩:=hh;have k:=jI8 V A n C δ writes d0 d1 w hd h8 g0 g1;rw[g2] at k;exact k
end Go.Proofs.YtdohpenfkdckiabGreatDoor
