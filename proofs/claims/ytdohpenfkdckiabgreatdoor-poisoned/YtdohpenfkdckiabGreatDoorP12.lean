import Derived.Test.YtdohpenfkdckiabGreatDoorP11
import Derived.ChangeKeysEq
set_option linter.all false
set_option maxRecDepth 100000
set_option maxHeartbeats 20000000
namespace Go.Proofs.YtdohpenfkdckiabGreatDoor
open Go.Proofs.Tryz
open Go.RowKit
theorem zD2{α:Type}{R:α→Prop}{G:Prop}(h:∃ a,R a∧(R a→G)):G:=h.elim fun _ h=>h.2 h.1
theorem qV1{α:Type}(l:List α)(off N:Nat)(A B C:List α)(h:(l.drop off).take N=A++B++C):(l.drop (off+A.length)).take B.length=B:=by
 have hl:(A++B++C).length≤N:=by rw[←h];exact List.length_take_le _ _
 simp only[List.length_append] at hl;have h2:=congrArg (fun z=>(z.drop A.length).take B.length) h;simp only[List.drop_take,List.take_take,List.drop_drop,List.append_assoc,List.drop_left,List.take_left] at h2;rw[Nat.min_eq_left (by omega)] at h2;exact h2
theorem qP3(bl:List UInt8)(o k:Nat)(xs:List Int)(hx:∀ x∈xs,0≤x∧x<256)(hk:xs.length=k)(h:(bl.drop o).take k=toB xs):∀ j,j<k→(enc bl)[o+j]?=some (.int .u8 (xs.getD j 0)):=by
 intro j hj;have h1:=congrArg (fun z=>(qD8 z)[j]?) h;simp only[qD8,List.getElem?_map,List.getElem?_take,if_pos hj,List.getElem?_drop] at h1;unfold enc qD8;rw[zG,List.getElem?_map,h1,←List.getElem?_map];have e:=zU1 xs hx;unfold qD8 at e;rw[e];unfold u8s;rw[List.getElem?_map,List.getElem?_eq_getElem (by omega),List.getD_eq_getElem?_getD,List.getElem?_eq_getElem (by omega)];rfl
theorem xO0(bl:List UInt8)(off:Nat)(h:HL)(hk:h.key.size≤8)(hpc:(bl.drop off).take (qA0 h)=toB (qD7 h)):
  (∀ j,j<2→(enc bl)[off+j]?=some (.int .u8 ((qB2 2 h.b).getD j 0)))∧(∀ j,j<8→(enc bl)[off+2+j]?=some (.int .u8 ((qB2 8 h.s).getD j 0)))∧
  (enc bl)[off+10]?=some (.int .u8 (h.key.size:Int))∧qA1 (enc bl) (off+11) h.key.size=(qD8 h.key.data.toList).toArray:=by
 have hkl:h.key.data.toList.length=h.key.size:=Array.length_toList;have e:(bl.drop off).take (qA0 h)=toB (qB2 2 h.b)++toB (qB2 8 h.s)++toB [(h.key.size:Int)]++h.key.data.toList:=by
  rw[hpc,qD7,qM2,qM2,qM2,qX9]
 have l2:(toB (qB2 2 h.b)).length=2:=by rw[qG6,qG1]
 have l8:(toB (qB2 8 h.s)).length=8:=by rw[qG6,qG1]
 have l1:(toB [(h.key.size:Int)]).length=1:=by rw[qG6];rfl
 refine⟨?_,?_,?_,?_⟩
 ·have h2:=qV1 bl off (qA0 h) [] (toB (qB2 2 h.b)) (toB (qB2 8 h.s)++toB [(h.key.size:Int)]++h.key.data.toList) (by rw[e];simp);rw[l2] at h2;exact qP3 bl off 2 _ (qJ5 _ _) (qG1 _ _) h2
 ·have h2:=qV1 bl off (qA0 h) (toB (qB2 2 h.b)) (toB (qB2 8 h.s)) (toB [(h.key.size:Int)]++h.key.data.toList) (by rw[e];simp);rw[l2,l8] at h2;exact qP3 bl (off+2) 8 _ (qJ5 _ _) (qG1 _ _) h2
 ·have h2:=qV1 bl off (qA0 h) (toB (qB2 2 h.b)++toB (qB2 8 h.s)) (toB [(h.key.size:Int)]) (h.key.data.toList) (by rw[e]);rw[List.length_append,l2,l8,l1] at h2;exact qP3 bl (off+10) 1 [(h.key.size:Int)] (by simp;omega) rfl h2 0 (by omega)
 ·have h2:=qV1 bl off (qA0 h) (toB (qB2 2 h.b)++toB (qB2 8 h.s)++toB [(h.key.size:Int)]) (h.key.data.toList) [] (by rw[e];simp);rw[List.length_append,List.length_append,l2,l8,l1,hkl] at h2;rw[qI8,h2];rfl
theorem jP5(B base off:Nat)(bl:List UInt8)(h:HL)(hs:List HL)(v:Value)(w:World)(hB:w.heap[B]?=some (.cells (enc bl) 223))(hbl:bl.length=128)(hp:h.p=none)(hk:h.key.size≤8)(hb0:0≤h.b)(hb1:h.b<65536)(hs0:0≤h.s)(hs1:h.s<18446744073709551616)(hoff:off+qA0 h≤128)
  (hpc:(bl.drop off).take (qA0 h)=toB (qD7 h)) (hv:w.ownsRow base 81 4 v hs.length (qA7 hs)) (hb:base≤w.heap.size) (hl:hs.length≤1000):
  Calls prog 191 #[v,.slice (some ⟨B,off,none⟩) (128-off) (128-off)] w fun e w'=>∃ v' r,e=.returned (.tuple #[v',r,.bool true])∧(off+qA0 h<128→r=.slice (some ⟨B,off+qA0 h,none⟩) (128-(off+qA0 h)) (128-(off+qA0 h)))∧(∃ o,r=.slice (some ⟨B,o,none⟩) (128-(off+qA0 h)) (128-(off+qA0 h)))∧
   w'.ownsRow base 81 4 v' (hs.length+1) (qA7 (hs++[h]))∧Below base w w'∧StT 81 w w':=by
 obtain⟨m,hm⟩:∃ m,m=128-off:=⟨_,rfl⟩;obtain⟨kn,hkn⟩:∃ kn:Nat,kn=h.key.size:=⟨_,rfl⟩;have hsz:qA0 h=11+kn:=by rw[hkn];rfl
 obtain⟨hq1,hq2,hq3,hq4⟩:=xO0 bl off h hk hpc;rw[←hkn] at hq3 hq4;have hptr:h.ptr=none:=by simp[HL.ptr,hp]
 have hm11:¬(m:Int)<11:=by omega
 have hmx:(10:Int)<(m:Int):=by omega
 have hm2:¬(m:Int)<2:=by omega
 have hm10:¬(m:Int)<10:=by omega
 have hc2:¬(8:Int)<(kn:Int):=by omega
 have hc4:¬(m:Int)<11+(kn:Int):=by omega
 have b10:w.cell? ⟨B,off+10,none⟩=some (.int .u8 (kn:Int)):=by rw[ξ hB];exact hq3
 have HN1:Hid (qE6 (qB2 2 h.b)=h.b):=qN0 2 h.b (by omega) hb0 (by simpa using hb1);have HN2:Hid (qE6 (qB2 8 h.s)=h.s):=qN0 8 h.s (by omega) hs0 (by simpa using hs1);have hwb:IntKind.i64.wrap h.b=h.b:=by rw[IntKind.wrap_i64];omega
 have HQ1:=zh hq1;have HQ2:=zh hq2;have HQ4:=zh hq4;have HOF:Hid (m=128-off∧off+(11+kn)≤128):=⟨hm,by omega⟩;have HB:=zh hB;have HV:=zh hv;have HBL:=zh hbl;have hBs:=ζ hB;rw[←hm,hsz];clear hpc hv hB hm hq1 hq2 hq3 hq4 hoff hbl hb0 hb1 hs0 hs1 hk hkn hp hsz;go_enter func191,ntmps191;go_wp2_with fail;have hn2:¬m=2:=by omega
 have hin:off+11+kn≤(enc bl).size:=by rw[qD2,HBL.out];have:=HOF.out;omega
 rename_i K0 hK0;have hSd:w.drew.heap[B]?=some (.cells (enc bl) 223):=HB.out;refine zD2 (R:=fun A=>∀ W,W.heap[w.heap.size]?=some (.cells #[.int .i64 h.b,.int .u64 h.s] 78)→W.heap[B]?=some (.cells (enc bl) 223)→Kp [] w W→W.heap.size=w.heap.size+1→K0 A W) ?_;apply Exists.intro;apply And.intro
 rotate_left
 ·intro HREST;refine wp_region_held_drew (S:=fun W=>W.heap[B]?=some (.cells (enc bl) 223)) (by kernel_rfl) hSd (fun _=>?_);refine zU 0 (.slice (some ⟨B,off,none⟩) m m) hSd ?_;refine zU 1 (.slice (some ⟨B,off,none⟩) 2 m) hSd ?_;refine zU 4 (.slice (some ⟨B,off,none⟩) m m) hSd ?_;refine zU 5 (.slice (some ⟨B,off+2,none⟩) 8 (m-2)) hSd ?_;refine zr 2 8 (fun K hK=>?_) fun K hK=>?_
  ·skip
   go_simp;refine (qU7 B off 2 m (qB2 2 h.b) w.drew (qG1 _ _) (by omega) (fun j hj=>(ξ hSd (off+j)).trans (HQ1.out j hj))).mono ?_;rintro e w' ⟨rfl,hw'⟩;rw[hw',HN1.out];clear hw' w';refine hK.out _ _ hSd (fun _=>?_);clear hK K
   try simp only[zZ]
   refine zU 3 (.int .i64 h.b) hSd ?_;refine zr 6 8 (fun K hK=>?_) fun K hK=>?_
   ·skip
    go_simp;refine (qU7 B (off+2) 8 (m-2) (qB2 8 h.s) w.drew (qG1 _ _) (by omega) (fun j hj=>(ξ hSd (off+2+j)).trans (HQ2.out j hj))).mono ?_;rintro e w' ⟨rfl,hw'⟩;rw[hw',HN2.out];clear hw' w';refine hK.out _ _ hSd (fun _=>?_);clear hK K
    try simp only[zZ]
    refine zU 7 (.agg #[.int .i64 h.b,.int .u64 h.s]) hSd ?_;refine zq 8 fun K hK=>?_;go_simp;obtain⟨w1,hw1,hP1,hB1,hKw1,hs1⟩:∃ w1,w1=(w.alloc (.cells #[.int .i64 0,.int .u64 0] 78)).drew∧w1.heap[w.heap.size]?=some (.cells #[.int .i64 0,.int .u64 0] 78)∧w1.heap[B]?=some (.cells (enc bl) 223)∧Kp [] w w1∧w1.heap.size=w.heap.size+1:=
     ⟨_,rfl,μ w _,θ _ HB.out,((Kp.refl _ _).alloc _).drew,by simp⟩
    rw[←hw1];clear hw1;refine hK.out _ _ hB1 (fun _=>?_);clear hK K
    try simp only[zZ]
    refine zq 9 fun K hK=>?_;have z0:=ξ hP1;have f0:=ψ hP1;have hP1s:=ζ hP1;have HP1:=zh hP1;have HB1:=zh hB1;clear hP1 hB1;go_simp;obtain⟨w2,hw2,hP2,hB2,hKw2,hs2⟩:∃ w2,w2=(w1.setCell ⟨w.heap.size,0,none⟩ (.int .i64 h.b)).setCell ⟨w.heap.size,1,none⟩ (.int .u64 h.s)∧w2.heap[w.heap.size]?=some (.cells #[.int .i64 h.b,.int .u64 h.s] 78)∧w2.heap[B]?=some (.cells (enc bl) 223)∧Kp [] w w2∧w2.heap.size=w.heap.size+1:=
     ⟨_,rfl,φ (φ HP1.out 0 _) 1 _,(qA9 (by omega) _ _).trans ((qA9 (by omega) _ _).trans HB1.out),(hKw1.setCell (Or.inr (Nat.le_refl _)) _).setCell (Or.inr (Nat.le_refl _)) _,by simp[hs1]⟩
    rw[←hw2];clear hw2 z0 f0;refine hK.out _ _ hB2 (fun _=>?_);clear hK K hKw1 hs1 HP1 HB1 hP1s;refine zd ?_
    try simp only[zZ]
    exact HREST w2 hP2 hB2 hKw2 hs2
   ·skip
    go_simp;obtain⟨w1,hw1,hP1,hB1,hKw1,hs1⟩:∃ w1,w1=(w.alloc (.cells #[.int .i64 0,.int .u64 0] 78)).drew∧w1.heap[w.heap.size]?=some (.cells #[.int .i64 0,.int .u64 0] 78)∧w1.heap[B]?=some (.cells (enc bl) 223)∧Kp [] w w1∧w1.heap.size=w.heap.size+1:=
     ⟨_,rfl,μ w _,θ _ HB.out,((Kp.refl _ _).alloc _).drew,by simp⟩
    rw[←hw1];clear hw1;refine hK.out _ _ hB1 (fun _=>?_);clear hK K
    try simp only[zZ]
    refine zq 6 fun K hK=>?_;go_simp;refine (qU7 B (off+2) 8 (m-2) (qB2 8 h.s) w1 (qG1 _ _) (by omega) (fun j hj=>(ξ hB1 (off+2+j)).trans (HQ2.out j hj))).mono ?_;rintro e w' ⟨rfl,hw'⟩;rw[hw',HN2.out];clear hw' w';refine hK.out _ _ hB1 (fun _=>?_);clear hK K
    try simp only[zZ]
    refine zU 7 (.agg #[.int .i64 h.b,.int .u64 h.s]) hB1 ?_;refine zq 9 fun K hK=>?_;have z0:=ξ hP1;have f0:=ψ hP1;have hP1s:=ζ hP1;have HP1:=zh hP1;have HB1:=zh hB1;clear hP1 hB1;go_simp;obtain⟨w2,hw2,hP2,hB2,hKw2,hs2⟩:∃ w2,w2=(w1.setCell ⟨w.heap.size,0,none⟩ (.int .i64 h.b)).setCell ⟨w.heap.size,1,none⟩ (.int .u64 h.s)∧w2.heap[w.heap.size]?=some (.cells #[.int .i64 h.b,.int .u64 h.s] 78)∧w2.heap[B]?=some (.cells (enc bl) 223)∧Kp [] w w2∧w2.heap.size=w.heap.size+1:=
     ⟨_,rfl,φ (φ HP1.out 0 _) 1 _,(qA9 (by omega) _ _).trans ((qA9 (by omega) _ _).trans HB1.out),(hKw1.setCell (Or.inr (Nat.le_refl _)) _).setCell (Or.inr (Nat.le_refl _)) _,by simp[hs1]⟩
    rw[←hw2];clear hw2 z0 f0;refine hK.out _ _ hB2 (fun _=>?_);clear hK K hKw1 hs1 HP1 HB1 hP1s;refine zd ?_
    try simp only[zZ]
    exact HREST w2 hP2 hB2 hKw2 hs2
  ·skip
   go_simp;obtain⟨w1,hw1,hP1,hB1,hKw1,hs1⟩:∃ w1,w1=(w.alloc (.cells #[.int .i64 0,.int .u64 0] 78)).drew∧w1.heap[w.heap.size]?=some (.cells #[.int .i64 0,.int .u64 0] 78)∧w1.heap[B]?=some (.cells (enc bl) 223)∧Kp [] w w1∧w1.heap.size=w.heap.size+1:=
    ⟨_,rfl,μ w _,θ _ HB.out,((Kp.refl _ _).alloc _).drew,by simp⟩
   rw[←hw1];clear hw1;refine hK.out _ _ hB1 (fun _=>?_);clear hK K
   try simp only[zZ]
   refine zq 2 fun K hK=>?_;go_simp;refine (qU7 B off 2 m (qB2 2 h.b) w1 (qG1 _ _) (by omega) (fun j hj=>(ξ hB1 (off+j)).trans (HQ1.out j hj))).mono ?_;rintro e w' ⟨rfl,hw'⟩;rw[hw',HN1.out];clear hw' w';refine hK.out _ _ hB1 (fun _=>?_);clear hK K
   try simp only[zZ]
   refine zU 3 (.int .i64 h.b) hB1 ?_;refine zq 6 fun K hK=>?_;go_simp;refine (qU7 B (off+2) 8 (m-2) (qB2 8 h.s) w1 (qG1 _ _) (by omega) (fun j hj=>(ξ hB1 (off+2+j)).trans (HQ2.out j hj))).mono ?_;rintro e w' ⟨rfl,hw'⟩;rw[hw',HN2.out];clear hw' w';refine hK.out _ _ hB1 (fun _=>?_);clear hK K
   try simp only[zZ]
   refine zU 7 (.agg #[.int .i64 h.b,.int .u64 h.s]) hB1 ?_;refine zq 9 fun K hK=>?_;have z0:=ξ hP1;have f0:=ψ hP1;have hP1s:=ζ hP1;have HP1:=zh hP1;have HB1:=zh hB1;clear hP1 hB1;go_simp;obtain⟨w2,hw2,hP2,hB2,hKw2,hs2⟩:∃ w2,w2=(w1.setCell ⟨w.heap.size,0,none⟩ (.int .i64 h.b)).setCell ⟨w.heap.size,1,none⟩ (.int .u64 h.s)∧w2.heap[w.heap.size]?=some (.cells #[.int .i64 h.b,.int .u64 h.s] 78)∧w2.heap[B]?=some (.cells (enc bl) 223)∧Kp [] w w2∧w2.heap.size=w.heap.size+1:=
    ⟨_,rfl,φ (φ HP1.out 0 _) 1 _,(qA9 (by omega) _ _).trans ((qA9 (by omega) _ _).trans HB1.out),(hKw1.setCell (Or.inr (Nat.le_refl _)) _).setCell (Or.inr (Nat.le_refl _)) _,by simp[hs1]⟩
   rw[←hw2];clear hw2 z0 f0;refine hK.out _ _ hB2 (fun _=>?_);clear hK K hKw1 hs1 HP1 HB1 hP1s;refine zd ?_
   try simp only[zZ]
   exact HREST w2 hP2 hB2 hKw2 hs2
 intro w2 hP2 hB2 hKw2 hs2;refine hK0 _ _ ?_;clear hK0 K0 b10 hm11 hmx hc2 hc4 hwb hn2;go_wp2_with fail;have hP2s:=ζ hP2;have h11:(0:Int)≤11+(kn:Int):=by omega
 have h11a:(11:Int)≤11+(kn:Int):=by omega
 have h11m:¬(m:Int)<11+(kn:Int):=by have:=HOF.out;omega
 have h11n:(11:Int)+(kn:Int)≤(m:Int):=by have:=HOF.out;omega
 have h11t:((11:Int)+(kn:Int)).toNat=11+kn:=by omega
 have hw11:IntKind.i64.wrap (11+(kn:Int))=11+(kn:Int):=by rw[IntKind.wrap_i64];have:=HOF.out;omega
 have hsub:11+kn-11=kn:=by omega
 obtain⟨o7,ho7⟩:∃ o7,o7=if m=11 then off else off+11:=⟨_,rfl⟩
 obtain⟨o8,ho8⟩:∃ o8,o8=if m=11+kn then off else off+(11+kn):=⟨_,rfl⟩
 have HO7:=zh ho7;have HO8:=zh ho8;clear ho7 ho8;have hin7:o7+kn≤(enc bl).size:=by
  rw[HO7.out];have:=HOF.out;split<;>omega
 have HQ7:Hid (qA1 (enc bl) o7 kn=(qD8 h.key.data.toList).toArray):=by
  show _=_;rw[HO7.out];split
  ·rename_i he;have hv0:kn=0:=by have:=HOF.out;omega
   have h:=HQ4.out;rw[hv0] at h ⊢;rw[←h];simp[qA1]
  ·exact HQ4.out
 have hS2:w2.drew.heap[w.heap.size]?=some (.cells #[.int .i64 h.b,.int .u64 h.s] 78)∧w2.drew.heap[B]?=some (.cells (enc bl) 223):=⟨hP2,hB2⟩;refine wp_region_held_drew (S:=fun W=>W.heap[w.heap.size]?=some (.cells #[.int .i64 h.b,.int .u64 h.s] 78)∧W.heap[B]?=some (.cells (enc bl) 223)) (by kernel_rfl) hS2 (fun _=>?_);refine zU 0 (.slice (some ⟨B,off,none⟩) m m) hS2 ?_;refine zU 1 (.int .i64 kn) hS2 ?_;refine zU 2 (.int .i64 (11+(kn:Int))) hS2 ?_;refine zV 3 (.slice (some ⟨B,o7,none⟩) kn (m-11)) rfl (fun W hS=>by clear hS;go_simp;rw[HO7.out];split<;>rfl) hS2 ?_;refine zV 4 (.string h.key) rfl (fun W hS=>by have h:=zL7 (cap:=m-11) hS.2 hin7 HQ7.out;clear hS;go_simp) hS2 ?_;refine zW 5 (.agg #[.int .i64 h.b,.int .u64 h.s]) hS2 (·.1) ?_;refine zU 6 (.agg #[.string h.key,.int .i64 h.b,.int .u64 h.s,.pointer none]) hS2 ?_;refine zq 7 fun K hK=>?_;go_simp;obtain⟨w3,hw3,hL3,hP3,hB3,hKw3,hs3⟩:∃ w3,w3=(w2.alloc (.cells #[.string ⟨#[]⟩,.int .i64 0,.int .u64 0,.pointer none] 81)).drew∧w3.heap[w2.heap.size]?=some (.cells #[.string ⟨#[]⟩,.int .i64 0,.int .u64 0,.pointer none] 81)∧w3.heap[w.heap.size]?=some (.cells #[.int .i64 h.b,.int .u64 h.s] 78)∧w3.heap[B]?=some (.cells (enc bl) 223)∧Kp [] w w3∧w3.heap.size=w2.heap.size+1:=
  ⟨_,rfl,μ w2 _,θ _ hP2,θ _ hB2,(hKw2.alloc _).drew,by simp⟩
 rw[←hw3];clear hw3;rw[hs2] at hL3 hs3;refine hK.out _ _ ⟨hP3,hB3⟩ (fun _=>?_);clear hK K hS2
 try simp only[zZ]
 refine zq 8 fun K hK=>?_;have z0:=ξ hL3;have f0:=ψ hL3;have hL3s:=ζ hL3;have HL3:=zh hL3;have HB3:Hid (w3.heap[w.heap.size]?=some (.cells #[.int .i64 h.b,.int .u64 h.s] 78)∧w3.heap[B]?=some (.cells (enc bl) 223)):=⟨hP3,hB3⟩;clear hL3 hP3 hB3;go_simp;have hls:=qK0 (.string h.key) (.int .i64 h.b) (.int .u64 h.s) (.pointer none) HL3.out;obtain⟨w4,hw4,hL4,hK4⟩:∃ w4,w4=(((w3.setCell ⟨w.heap.size+1,0,none⟩ (.string h.key)).setCell ⟨w.heap.size+1,1,none⟩ (.int .i64 h.b)).setCell ⟨w.heap.size+1,2,none⟩ (.int .u64 h.s)).setCell ⟨w.heap.size+1,3,none⟩ (.pointer none)∧w4.heap[w.heap.size+1]?=some (.cells #[.string h.key,.int .i64 h.b,.int .u64 h.s,.pointer none] 81)∧Kp [w.heap.size+1] w3 w4:=⟨_,rfl,hls.1,hls.2⟩;rw[←hw4];clear hw4 hls z0 f0;have hKw4:Kp [] w w4:=hKw3.tr hK4;have hs4:=hK4.size;refine hK.out _ _ ⟨hK4.hp HB3.out.1,hK4.ho HB3.out.2⟩ (fun _=>?_);clear hK K;refine zd ?_
 try simp only[zZ]
 clear HB3 HL3 hKw3 hK4 hL3s;go_wp2_with fail;have hS4:w4.drew.heap[w.heap.size+1]?=some (.cells #[.string h.key,.int .i64 h.b,.int .u64 h.s,.pointer none] 81):=hL4;refine wp_region_held_drew (S:=fun W=>W.heap[w.heap.size+1]?=some (.cells #[.string h.key,.int .i64 h.b,.int .u64 h.s,.pointer none] 81)) (by kernel_rfl) hS4 (fun _=>?_);refine zU 0 v hS4 ?_;refine zW 1 (.agg #[.string h.key,.int .i64 h.b,.int .u64 h.s,.pointer none]) hS4 id ?_;refine zU 4 (.slice (some ⟨B,off,none⟩) m m) hS4 ?_;refine zU 5 (.int .i64 kn) hS4 ?_;refine zU 6 (.int .i64 (11+(kn:Int))) hS4 ?_;refine zV 7 (.slice (some ⟨B,o8,none⟩) (m-(11+kn)) (m-(11+kn))) rfl (fun W hS=>by clear hS;go_simp;rw[HO8.out];split<;>rfl) hS4 ?_;refine zq 2 fun K hK=>?_;go_simp;obtain⟨w5,hw5,hN5,hL5,hKw5,hs5⟩:∃ w5,w5=(w4.alloc (.cells #[.string h.key,.int .i64 h.b,.int .u64 h.s,.pointer none] 81)).drew∧w5.heap[w4.heap.size]?=some (.cells #[.string h.key,.int .i64 h.b,.int .u64 h.s,.pointer none] 81)∧w5.heap[w.heap.size+1]?=some (.cells #[.string h.key,.int .i64 h.b,.int .u64 h.s,.pointer none] 81)∧Kp [] w w5∧w5.heap.size=w4.heap.size+1:=
  ⟨_,rfl,μ w4 _,θ _ hL4,(hKw4.alloc _).drew,by simp⟩
 rw[←hw5];clear hw5;refine hK.out _ _ hL5 (fun _=>?_);clear hK K hS4
 try simp only[zZ]
 have hown5:w5.ownsRow base 81 4 v hs.length (qA7 hs):=qG5 HV.out hKw5 (Apt.nil _ _);refine zq 3 fun K hK=>?_;refine qM1 rfl rfl (.agg #[.string ⟨#[]⟩,.int .i64 0,.int .u64 0,.pointer none]) 4 40 underlying150 qR2 rfl (by decide) base v hs.length (qA7 hs) (by simp[Act.eval]) hown5 w4.heap.size 0 1 1 #[.string h.key,.int .i64 h.b,.int .u64 h.s,.pointer none] 81 (0,0) (by simp[Act.eval]) hN5 (by simp) (by simp[qA1,Value.oneCell']) (by omega) (by omega) (by omega) ?_;intro v6 w6 hown6 hgr6 _;have hL6:w6.heap[w.heap.size+1]?=some (.cells #[.string h.key,.int .i64 h.b,.int .u64 h.s,.pointer none] 81):=by
  refine (hgr6.block _ (by omega) ?_).trans hL5;rcases HV.out.2 with⟨rfl,_⟩|⟨g,cap,cur,rfl,_,hh,_⟩
  ·simp[Value.ownBlock]
  ·intro e;simp only[Value.ownBlock,Option.some.injEq] at e;have:=ζ hh;omega
 have HO6:Hid (w6.ownsRow base 81 4 v6 (hs.length+1) (qA7 (hs++[h]))):=by
  have e:qA7 (hs++[h])=qA7 hs++(qA1 #[.string h.key,.int .i64 h.b,.int .u64 h.s,.pointer none] 0 (1*4)).toList:=by simp[qA7,lcs,qA1,hptr]
  show World.ownsRow _ _ _ _ _ _ _;rw[e];exact hown6
 have HL6:Hid (Below base w w6):=(hKw5.below hb (by simp)).grown hgr6 (by omega) (qH7 hown5);have HS6:Hid (StT 81 w w6):=((StT.refl _ w).kp hKw5).grown hown5 hgr6;refine hK.out _ _ hL6 (fun _=>?_);clear hK K hown6 hgr6 hown5
 try simp only[zZ]
 refine zq 8 fun K hK=>?_;go_simp;refine hK.out _ _ hL6 (fun _=>?_);clear hK K
 try simp only[zZ]
 refine zq 9 fun K hK=>?_;go_simp;refine hK.out _ _ hL6 (fun _=>?_);clear hK K
 try simp only[zZ]
 refine zq 10 fun K hK=>?_;go_simp;refine hK.out _ _ hL6 (fun _=>?_);clear hK K
 try simp only[zZ]
 refine zd ?_;have HEND:Hid (off+(11+kn)<128→(Value.slice (some ⟨B,o8,none⟩) (m-(11+kn)) (m-(11+kn)))=.slice (some ⟨B,off+(11+kn),none⟩) (128-(off+(11+kn))) (128-(off+(11+kn)))):=by
  intro hlt;have h1:=HOF.out;rw[HO8.out,if_neg (by omega),show m-(11+kn)=128-(off+(11+kn)) from by omega]
 clear hL6 hN5 hL5 hL4 hP2 hB2;go_wp2
 go_ret3
 refine⟨v6,_,rfl,HEND.out,⟨o8,?_⟩,HO6.out,HL6.out,HS6.out⟩;show Value.slice (some ⟨B,o8,none⟩) (m-(11+kn)) (m-(11+kn))=_;rw[show m-(11+kn)=128-(off+(11+kn)) from by have:=HOF.out;omega]
theorem zV3{α:Type}(f:α→List Int)(g:α→Nat)(hf:∀ x,(f x).length=g x)(l:List α)(j:Nat)(h:j<l.length):l.flatMap f=(l.take j).flatMap f++f l[j]++(l.drop (j+1)).flatMap f:=by
 conv=>lhs;rw[←List.take_append_drop j l,List.flatMap_append,List.drop_eq_getElem_cons h,List.flatMap_cons]
 rw[List.append_assoc]
theorem qX2{α:Type}(g:α→Nat)(l:List α)(j:Nat)(h:j<l.length):meas g (l.take j)+g l[j]≤meas g l:=by
 have h1:=qK8 g l j h;have h2:=qM8 g l (j+1);omega
theorem jJ4(ps:List KV)  (j:Nat) (h:j<ps.length):((toB (qA2 0 ps [])).drop (2+meas ρ (ps.take j))).take (ρ ps[j])=toB (qD4 ps[j]):=by
 have e:toB (qA2 0 ps [])=toB ([(0:Int),((ps.length:Nat):Int)]++(ps.take j).flatMap qD4)++toB (qD4 ps[j])++toB ((ps.drop (j+1)).flatMap qD4++List.replicate (128-(2+meas ρ ps)) 0):=by
  rw[←qM2,←qM2]
  congr 1
  simp only[qA2,qK2,List.flatMap_nil,List.append_nil,List.length_nil,Nat.add_zero,Nat.zero_add,qE2]
  conv=>lhs;rw[zV3 qD4 ρ (fun p=>by first | exact qT1 p | exact qS7 p) ps j h]
  simp only[List.append_assoc]
 have hl:(toB ([(0:Int),((ps.length:Nat):Int)]++(ps.take j).flatMap qD4)).length=2+meas ρ (ps.take j):=by
  rw[qG6,List.length_append,zA5 qD4 ρ (fun p=>by first | exact qT1 p | exact qS7 p)];rfl
 have hl2:(toB (qD4 ps[j])).length=ρ ps[j]:=by
  rw[qG6]
  first | exact qT1 _ | exact qS7 _
 have h2:=qV1 (toB (qA2 0 ps [])) 0 (toB (qA2 0 ps [])).length _ _ _ (by rw[List.drop_zero,List.take_length];exact e);rw[hl,hl2,Nat.zero_add] at h2;exact h2
theorem jJ3(ps:List HL)(lv:Int)(hlv0:0<lv)(hlv1:lv<256)(j:Nat)(h:j<ps.length):((toB (qA2 lv [] ps)).drop (2+meas qA0 (ps.take j))).take (qA0 ps[j])=toB (qD7 ps[j]):=by
 have e:toB (qA2 lv [] ps)=toB ([(lv:Int),((ps.length:Nat):Int)]++(ps.take j).flatMap qD7)++toB (qD7 ps[j])++toB ((ps.drop (j+1)).flatMap qD7++List.replicate (128-(2+meas qA0 ps)) 0):=by
  rw[←qM2,←qM2]
  congr 1
  simp only[qA2,qK2,List.flatMap_nil,List.append_nil,List.length_nil,Nat.add_zero,Nat.zero_add,qE2]
  conv=>lhs;rw[zV3 qD7 qA0 (fun p=>by first | exact qT1 p | exact qS7 p) ps j h]
  simp only[List.append_assoc]
 have hl:(toB ([(lv:Int),((ps.length:Nat):Int)]++(ps.take j).flatMap qD7)).length=2+meas qA0 (ps.take j):=by
  rw[qG6,List.length_append,zA5 qD7 qA0 (fun p=>by first | exact qT1 p | exact qS7 p)];rfl
 have hl2:(toB (qD7 ps[j])).length=qA0 ps[j]:=by
  rw[qG6]
  first | exact qT1 _ | exact qS7 _
 have h2:=qV1 (toB (qA2 lv [] ps)) 0 (toB (qA2 lv [] ps)).length _ _ _ (by rw[List.drop_zero,List.take_length];exact e);rw[hl,hl2,Nat.zero_add] at h2;exact h2
theorem xN8(d:Nat)(x:Int)(W:World):(Op.equalIn (d+1) 5 (.int .u8 x) (.int .u8 x)).run prog W=.ok true W:=by
 simp[Op.equalIn,run_underlying underlying5]
theorem jA8(d:Nat)(E:Array Value)(hb:allBytes E)(W:World):∀ is:List Nat,(∀ i∈is,i<E.size)→(Op.eqItems (d+1) 5 1 E E is).run prog W=.ok true W:=by
 intro is
 induction is with
 | nil=>intro _;rfl
 | cons i is ih=>
  intro h;have hi:=h i (by simp);obtain⟨x,hx⟩:=hb E[i] (by simp);have he:E[i*1]?=some (.int .u8 x):=by rw[Nat.mul_one,Array.getElem?_eq_getElem hi,hx]
  simp only[Op.eqItems,Sem.run_bind,run_part_plain W (P:=prog) (e:=5) (by kernel_rfl) he,Result.andThen_ok,xN8,Bool.not_true,Bool.false_eq_true,if_false];exact ih (fun j hj=>h j (by simp[hj]))
theorem zS0(E:Array Value)(hs:E.size=128)(hb:allBytes E)(W:World):Sem.run prog (Op.equalIn 10000 223 (.agg E) (.agg E)) W=.ok true W:=by
 obtain⟨i0,hi,_⟩:=info_parts Tryz.info5;have h:=run_equalIn_array (P:=prog) W 9999 E E underlying223 hi;refine Eq.trans h ?_;rw[show prog.cellsOf 5=1 from by kernel_rfl];exact jA8 9998 E hb W _ (fun i hi=>by rw[hs];simpa using hi)
theorem xD8(ps:List KV)  (w:World) (hz:∀ p∈ps,qD0 p) (hm:2+meas ρ ps≤128) (hn:ps.length≤126):
  Calls prog 166 #[.agg (enc (toB (qA2 0 ps [])))] w fun e w'=>∃ q v,e=.returned (.tuple #[.pointer (some ⟨q,0,none⟩),.bool true])∧w'.heap[q]?=some (.cells #[.int .i64 0,v,.slice none 0 0] 152)∧w.heap.size≤q∧
   w'.ownsRow w.heap.size 158 2 v ps.length (qB0 ps)∧Kp [] w w':=by
 have hby:=qK3 0 ps [] (by omega) (by omega) (by simp;omega) hz (by simp);have HNL:Hid ((qA2 0 ps []).length=128):=qP0 0 ps [] (by simpa [qE2] using hm);obtain⟨cn,hcn⟩:∃ cn:Nat,cn=ps.length:=⟨_,rfl⟩;have hcs:=qP3 (toB (qA2 0 ps [])) 0 128 (qA2 0 ps []) hby HNL.out (by rw[List.drop_zero,List.take_of_length_le (by rw[qG6];exact Nat.le_of_eq HNL.out)]);have b0:(enc (toB (qA2 0 ps [])))[0]?=some (.int .u8 0):=hcs 0 (by omega);have b1:(enc (toB (qA2 0 ps [])))[1]?=some (.int .u8 (cn:Int)):=by
  rw[hcn];have h:=hcs 1 (by omega);simpa [qA2,qK2] using h
 have hes:(enc (toB (qA2 0 ps []))).size=128:=by rw[qD2,qG6];exact HNL.out
 obtain⟨E,hE⟩:∃ E,E=enc (toB (qA2 0 ps [])):=⟨_,rfl⟩;have HE:Hid (E=enc (toB (qA2 0 ps []))∧E.size=128):=⟨hE,by rw[hE];exact hes⟩;rw[←hE] at b0 b1;rw[←hE];have HCN:=zh hcn;have HZ:=zh hz;have HM:=zh hm;clear hcs hcn hby hz hm hes hE;go_enter func166,ntmps166;go_wp2_with fail;have hE0:=θ (.cells #[.int .i64 0,.slice none 0 0,.slice none 0 0] 152) (μ w (.cells E 223));have hN0:=μ (w.alloc (.cells E 223)) (.cells #[.int .i64 0,.slice none 0 0,.slice none 0 0] 152);rw[show (w.alloc (.cells E 223)).heap.size=w.heap.size+1 from by simp] at hN0;have hK0:Kp [] w ((w.alloc (.cells E 223)).alloc (.cells #[.int .i64 0,.slice none 0 0,.slice none 0 0] 152)):=((Kp.refl _ _).alloc _).alloc _;have h126:∀ o:Nat,2+meas ρ (ps.take 0)=o→o=2:=fun o h=>by rw[←h];simp[qE2]
 go_loopw [5,6,15] (fun r o i wr=>∃ (j off:Nat) (vj:Value),j≤ps.length∧i=.int .u8 j∧o=.bool true∧Hid (off=2+meas ρ (ps.take j))∧Hid (off<128→r=.slice (some ⟨w.heap.size,off,none⟩) (128-off) (128-off))∧Hid (wr.heap[w.heap.size]?=some (.cells E 223))∧Hid (wr.heap[w.heap.size+1]?=some (.cells #[.int .i64 0,vj,.slice none 0 0] 152))∧Hid (wr.ownsRow w.heap.size 158 2 vj j (qB0 (ps.take j)))∧Hid (Kp [] w wr)) (fun _ _ i _=>ps.length-(intOf i).toNat)
 case atStart=>exact⟨0,2,.slice none 0 0,Nat.zero_le _,rfl,rfl,by show _=_;simp[qE2],fun _=>rfl,hE0,hN0,by show World.ownsRow _ _ _ _ _ _ _;exact World.ownsRow_nil _ _ _ _,hK0⟩
 case round=>
  obtain⟨j,off,vj,hj,rfl,rfl,HOFF,HR,HB,HN,HO,HKP⟩:=hrel;clear hE0 hN0 hK0 h126 b0 b1;by_cases hlt:j<ps.length
  ·have hjb:(j:Int)<(cn:Int):=by have:=HCN.out;omega
   have hz0:=HZ.out ps[j] (List.getElem_mem hlt);have hmj:=qX2 ρ ps j hlt;have hoffj:off+ρ ps[j]≤128:=by have:=HOFF.out;have:=HM.out;omega
   have hFp:0<ρ ps[j]:=by unfold ρ;omega
   have hr:=HR.out (by omega);subst hr;have HEN:Hid (((toB (qA2 0 ps [])).drop off).take (ρ ps[j])=toB (qD4 ps[j])):=by show _=_;rw[HOFF.out];exact jJ4 ps  j hlt
   have hN:=HN.out;have hNs:=ζ hN;have n0:=ξ hN;have fn1:=ψ hN 1;clear hN;go_wp2_with fail;have hBE:wr.heap[w.heap.size]?=some (.cells (enc (toB (qA2 0 ps []))) 223):=by rw[←HE.out.1];exact HB.out
   refine (jP9 w.heap.size w.heap.size off (toB (qA2 0 ps [])) ps[j] (ps.take j) _ wr hBE (by rw[qG6];exact HNL.out) hz0 (by omega) HEN.out (by rw[List.length_take,Nat.min_eq_left (by omega)];exact HO.out) (by have:=HKP.out.size;omega) (by rw[List.length_take];omega)).mono ?_;rintro e w1 ⟨v1,r1,rfl,hr1,_,hown1,hbl1,hst1⟩;have hjl:(ps.take j).length=j:=by rw[List.length_take,Nat.min_eq_left (by omega)]
   rw[hjl] at hown1;obtain⟨g1,cap1,rfl⟩:=qJ6 hown1;have hsn:ps.take j++[ps[j]]=ps.take (j+1):=(List.take_succ_eq_append_getElem hlt).symm;rw[hsn] at hown1;have hN1:=hst1 _ _ _ _ HN.out (by decide);have hB1:=hst1 _ _ _ _ HB.out (by decide);have hN1s:=ζ hN1;have m1:=ξ hN1 1;simp only[zG,zH,zI] at m1;have fm1:=ψ hN1 1;have HN1:=zh hN1;have HB1:=zh hB1;have HO1:=zh hown1;have HK1:Hid (Kp [] w w1):=Kp.of_below ((HKP.out.below (Nat.le_refl _) (by simp)).trans hbl1) (Nat.le_refl _);have HR1:=zh hr1;have HOF1:Hid (off+ρ ps[j]=2+meas ρ (ps.take (j+1))):=by show _=_;rw[qK8 ρ ps j hlt,HOFF.out];omega
   have hwj:IntKind.u8.wrap ((j:Int)+1)=(j:Int)+1:=by rw[IntKind.wrap_u8];omega
   clear hN1 hB1 hown1 hbl1 hst1 hr1 n0 fn1 hsn hjl hBE;go_wp2;have hKs:Kp [w.heap.size+1] w1 (w1.setCell ⟨w.heap.size+1,1,none⟩ (.slice (some ⟨g1,0,none⟩) (j+1) cap1)):=(Kp.refl _ _).sc _;exact⟨⟨j+1,off+ρ ps[j],_,by omega,by go_num,rfl,HOF1,HR1,hKs.hp HB1.out,φ HN1.out 1 _,qG5 HO1.out hKs (fun q hq c t fr e=>by rw[List.mem_singleton.1 hq,HN1.out] at e;cases e;decide),HK1.out.tr hKs⟩,by simp[intOf];omega⟩
  ·have hjb:¬(j:Int)<(cn:Int):=by have:=HCN.out;omega
   have hje:ps.take j=ps:=List.take_of_length_le (by omega);have hjl:j=ps.length:=by omega
   have hOe:=HO.out;rw[hje,hjl] at hOe;have HOE:=zh hOe;clear hje hOe;go_wp2_with fail;have hSd:wr.drew.heap[w.heap.size]?=some (.cells E 223):=HB.out;refine wp_region_held_drew (S:=fun W=>W.heap[w.heap.size]?=some (.cells E 223)) (by kernel_rfl) hSd (fun _=>?_);refine zU 0 (.pointer (some ⟨w.heap.size+1,0,none⟩)) hSd ?_;refine zU 1 (.pointer (some ⟨w.heap.size+1,0,none⟩)) hSd ?_;refine zV 3 (.agg E) rfl (fun W hS=>qK7 (t:=223) rfl (by kernel_rfl) 128 (by kernel_rfl) w.heap.size rfl hS HE.out.2) hSd ?_;refine zq 2 fun K hK=>?_;go_simp;refine (zF6 (w.heap.size+1) 0 vj (.slice none 0 0) ps [] wr.drew HN.out (by omega) (by omega) (qF7 HOE.out) ⟨rfl,Or.inl ⟨rfl,none,0,rfl,fun _=>rfl⟩⟩ (by simpa [qE2] using HM.out) (by simp;omega) HZ.out (by simp)).mono ?_;rintro e w1 ⟨rfl,hK1⟩;have hS1:=hK1.hp hSd;refine hK.out _ _ hS1 (fun _=>?_);clear hK K;have heq:(u8s (qA2 0 ps [])).toArray=E:=by rw[HE.out.1,enc,←zE2 _ (qK3 0 ps [] (by omega) (by omega) (by simp;omega) HZ.out (by simp))]
   rw[heq]
   try simp only[zZ]
   have hbE:allBytes E:=by rw[HE.out.1];exact qF9 _
   refine zV 4 (.bool true) rfl (fun W hS=>by have h:=zS0 E HE.out.2 hbE W;clear hS;go_simp) hS1 ?_;refine zq 5 fun K hK=>?_;go_simp;refine hK.out _ _ hS1 (fun _=>?_);clear hK K
   try simp only[zZ]
   refine zq 6 fun K hK=>?_;go_simp;refine hK.out _ _ hS1 (fun _=>?_);clear hK K
   try simp only[zZ]
   refine zd ?_;have hKw:Kp [] wr w1:=((Kp.refl _ wr).drew).tr hK1;have HW:=zh hKw;clear hKw hK1 hS1 hSd;go_wp2
   go_ret2
   exact⟨w.heap.size+1,vj,rfl,HW.out.hp HN.out,by omega,qG5 HOE.out HW.out (Apt.nil _ _),HKP.out.tr HW.out⟩
theorem xD7(ps:List HL)(lv:Int)(hlv0:0<lv)(hlv1:lv<256)(w:World)(hz:∀ p∈ps,p.p=none∧p.key.size≤8∧0≤p.b∧p.b<65536∧0≤p.s∧p.s<18446744073709551616)(hm:2+meas qA0 ps≤128)(hn:ps.length≤126):
  Calls prog 166 #[.agg (enc (toB (qA2 lv [] ps)))] w fun e w'=>∃ q v,e=.returned (.tuple #[.pointer (some ⟨q,0,none⟩),.bool true])∧w'.heap[q]?=some (.cells #[.int .i64 lv,.slice none 0 0,v] 152)∧w.heap.size≤q∧
   w'.ownsRow w.heap.size 81 4 v ps.length (qA7 ps)∧Kp [] w w':=by
 have hby:=qK3 lv [] ps (by omega) hlv1 (by simp;omega) (by simp) (fun p hp=>(hz p hp).2.1);have HNL:Hid ((qA2 lv [] ps).length=128):=qP0 lv [] ps (by simpa [qE2] using hm);obtain⟨cn,hcn⟩:∃ cn:Nat,cn=ps.length:=⟨_,rfl⟩;have hcs:=qP3 (toB (qA2 lv [] ps)) 0 128 (qA2 lv [] ps) hby HNL.out (by rw[List.drop_zero,List.take_of_length_le (by rw[qG6];exact Nat.le_of_eq HNL.out)]);have b0:(enc (toB (qA2 lv [] ps)))[0]?=some (.int .u8 lv):=hcs 0 (by omega);have b1:(enc (toB (qA2 lv [] ps)))[1]?=some (.int .u8 (cn:Int)):=by
  rw[hcn];have h:=hcs 1 (by omega);simpa [qA2,qK2] using h
 have hes:(enc (toB (qA2 lv [] ps))).size=128:=by rw[qD2,qG6];exact HNL.out
 obtain⟨E,hE⟩:∃ E,E=enc (toB (qA2 lv [] ps)):=⟨_,rfl⟩;have HE:Hid (E=enc (toB (qA2 lv [] ps))∧E.size=128):=⟨hE,by rw[hE];exact hes⟩;rw[←hE] at b0 b1;rw[←hE];have HCN:=zh hcn;have HZ:=zh hz;have HM:=zh hm;clear hcs hcn hby hz hm hes hE;go_enter func166,ntmps166;go_wp2_with fail;have hE0:=θ (.cells #[.int .i64 lv,.slice none 0 0,.slice none 0 0] 152) (μ w (.cells E 223));have hN0:=μ (w.alloc (.cells E 223)) (.cells #[.int .i64 lv,.slice none 0 0,.slice none 0 0] 152);rw[show (w.alloc (.cells E 223)).heap.size=w.heap.size+1 from by simp] at hN0;have hK0:Kp [] w ((w.alloc (.cells E 223)).alloc (.cells #[.int .i64 lv,.slice none 0 0,.slice none 0 0] 152)):=((Kp.refl _ _).alloc _).alloc _;have h126:∀ o:Nat,2+meas qA0 (ps.take 0)=o→o=2:=fun o h=>by rw[←h];simp[qE2]
 go_loopw [5,6,15] (fun r o i wr=>∃ (j off:Nat) (vj:Value),j≤ps.length∧i=.int .u8 j∧o=.bool true∧Hid (off=2+meas qA0 (ps.take j))∧Hid (off<128→r=.slice (some ⟨w.heap.size,off,none⟩) (128-off) (128-off))∧Hid (wr.heap[w.heap.size]?=some (.cells E 223))∧Hid (wr.heap[w.heap.size+1]?=some (.cells #[.int .i64 lv,.slice none 0 0,vj] 152))∧Hid (wr.ownsRow w.heap.size 81 4 vj j (qA7 (ps.take j)))∧Hid (Kp [] w wr)) (fun _ _ i _=>ps.length-(intOf i).toNat)
 case atStart=>exact⟨0,2,.slice none 0 0,Nat.zero_le _,rfl,rfl,by show _=_;simp[qE2],fun _=>rfl,hE0,hN0,by show World.ownsRow _ _ _ _ _ _ _;exact World.ownsRow_nil _ _ _ _,hK0⟩
 case round=>
  obtain⟨j,off,vj,hj,rfl,rfl,HOFF,HR,HB,HN,HO,HKP⟩:=hrel;clear hE0 hN0 hK0 h126 b0 b1;by_cases hlt:j<ps.length
  ·have hjb:(j:Int)<(cn:Int):=by have:=HCN.out;omega
   have hz0:=HZ.out ps[j] (List.getElem_mem hlt);have hmj:=qX2 qA0 ps j hlt;have hoffj:off+qA0 ps[j]≤128:=by have:=HOFF.out;have:=HM.out;omega
   have hFp:0<qA0 ps[j]:=by unfold qA0;omega
   have hr:=HR.out (by omega);subst hr;have HEN:Hid (((toB (qA2 lv [] ps)).drop off).take (qA0 ps[j])=toB (qD7 ps[j])):=by show _=_;rw[HOFF.out];exact jJ3 ps lv hlv0 hlv1 j hlt
   have hN:=HN.out;have hNs:=ζ hN;have n0:=ξ hN;have fn1:=ψ hN 2;clear hN;go_wp2_with fail;have hBE:wr.heap[w.heap.size]?=some (.cells (enc (toB (qA2 lv [] ps))) 223):=by rw[←HE.out.1];exact HB.out
   refine (jP5 w.heap.size w.heap.size off (toB (qA2 lv [] ps)) ps[j] (ps.take j) _ wr hBE (by rw[qG6];exact HNL.out) hz0.1 hz0.2.1 hz0.2.2.1 hz0.2.2.2.1 hz0.2.2.2.2.1 hz0.2.2.2.2.2 (by omega) HEN.out (by rw[List.length_take,Nat.min_eq_left (by omega)];exact HO.out) (by have:=HKP.out.size;omega) (by rw[List.length_take];omega)).mono ?_;rintro e w1 ⟨v1,r1,rfl,hr1,_,hown1,hbl1,hst1⟩;have hjl:(ps.take j).length=j:=by rw[List.length_take,Nat.min_eq_left (by omega)]
   rw[hjl] at hown1;obtain⟨g1,cap1,rfl⟩:=qJ6 hown1;have hsn:ps.take j++[ps[j]]=ps.take (j+1):=(List.take_succ_eq_append_getElem hlt).symm;rw[hsn] at hown1;have hN1:=hst1 _ _ _ _ HN.out (by decide);have hB1:=hst1 _ _ _ _ HB.out (by decide);have hN1s:=ζ hN1;have m1:=ξ hN1 2;simp only[zG,zH,zI] at m1;have fm1:=ψ hN1 2;have HN1:=zh hN1;have HB1:=zh hB1;have HO1:=zh hown1;have HK1:Hid (Kp [] w w1):=Kp.of_below ((HKP.out.below (Nat.le_refl _) (by simp)).trans hbl1) (Nat.le_refl _);have HR1:=zh hr1;have HOF1:Hid (off+qA0 ps[j]=2+meas qA0 (ps.take (j+1))):=by show _=_;rw[qK8 qA0 ps j hlt,HOFF.out];omega
   have hwj:IntKind.u8.wrap ((j:Int)+1)=(j:Int)+1:=by rw[IntKind.wrap_u8];omega
   clear hN1 hB1 hown1 hbl1 hst1 hr1 n0 fn1 hsn hjl hBE;go_wp2;have hKs:Kp [w.heap.size+1] w1 (w1.setCell ⟨w.heap.size+1,2,none⟩ (.slice (some ⟨g1,0,none⟩) (j+1) cap1)):=(Kp.refl _ _).sc _;exact⟨⟨j+1,off+qA0 ps[j],_,by omega,by go_num,rfl,HOF1,HR1,hKs.hp HB1.out,φ HN1.out 2 _,qG5 HO1.out hKs (fun q hq c t fr e=>by rw[List.mem_singleton.1 hq,HN1.out] at e;cases e;decide),HK1.out.tr hKs⟩,by simp[intOf];omega⟩
  ·have hjb:¬(j:Int)<(cn:Int):=by have:=HCN.out;omega
   have hje:ps.take j=ps:=List.take_of_length_le (by omega);have hjl:j=ps.length:=by omega
   have hOe:=HO.out;rw[hje,hjl] at hOe;have HOE:=zh hOe;clear hje hOe;go_wp2_with fail;have hSd:wr.drew.heap[w.heap.size]?=some (.cells E 223):=HB.out;refine wp_region_held_drew (S:=fun W=>W.heap[w.heap.size]?=some (.cells E 223)) (by kernel_rfl) hSd (fun _=>?_);refine zU 0 (.pointer (some ⟨w.heap.size+1,0,none⟩)) hSd ?_;refine zU 1 (.pointer (some ⟨w.heap.size+1,0,none⟩)) hSd ?_;refine zV 3 (.agg E) rfl (fun W hS=>qK7 (t:=223) rfl (by kernel_rfl) 128 (by kernel_rfl) w.heap.size rfl hS HE.out.2) hSd ?_;refine zq 2 fun K hK=>?_;go_simp;refine (zF6 (w.heap.size+1) lv (.slice none 0 0) vj [] ps wr.drew HN.out (by omega) hlv1 ⟨rfl,Or.inl ⟨rfl,none,0,rfl,fun _=>rfl⟩⟩ (qF7 HOE.out) (by simpa [qE2] using HM.out) (by simp;omega) (by simp) (fun p hp=>⟨(HZ.out p hp).2.1,(HZ.out p hp).2.2.1,by have:=(HZ.out p hp).2.2.2.1;omega,(HZ.out p hp).2.2.2.2.1⟩)).mono ?_;rintro e w1 ⟨rfl,hK1⟩;have hS1:=hK1.hp hSd;refine hK.out _ _ hS1 (fun _=>?_);clear hK K;have heq:(u8s (qA2 lv [] ps)).toArray=E:=by rw[HE.out.1,enc,←zE2 _ (qK3 lv [] ps (by omega) hlv1 (by simp;omega) (by simp) (fun p hp=>(HZ.out p hp).2.1))]
   rw[heq]
   try simp only[zZ]
   have hbE:allBytes E:=by rw[HE.out.1];exact qF9 _
   refine zV 4 (.bool true) rfl (fun W hS=>by have h:=zS0 E HE.out.2 hbE W;clear hS;go_simp) hS1 ?_;refine zq 5 fun K hK=>?_;go_simp;refine hK.out _ _ hS1 (fun _=>?_);clear hK K
   try simp only[zZ]
   refine zq 6 fun K hK=>?_;go_simp;refine hK.out _ _ hS1 (fun _=>?_);clear hK K
   try simp only[zZ]
   refine zd ?_;have hKw:Kp [] wr w1:=((Kp.refl _ wr).drew).tr hK1;have HW:=zh hKw;clear hKw hK1 hS1 hSd;go_wp2
   go_ret2
   exact⟨w.heap.size+1,vj,rfl,HW.out.hp HN.out,by omega,qG5 HOE.out HW.out (Apt.nil _ _),HKP.out.tr HW.out⟩
end Go.Proofs.YtdohpenfkdckiabGreatDoor
