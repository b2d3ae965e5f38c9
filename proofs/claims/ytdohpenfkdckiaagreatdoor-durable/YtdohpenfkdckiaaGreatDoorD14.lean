import Derived.Test.YtdohpenfkdckiaaGreatDoorD13
import Derived.LaidEqlPtr
import Derived.RangeFuncNested
import Derived.RangeFuncBound
import Derived.RangeFuncCalls
import Derived.RangeFuncLeaves
import Derived.RangeFuncGives
import Derived.Sort.MapsRangeIn
import Derived.Shelf.Abstract
import Derived.Shelf.RegionOpen
import Derived.OwnWalkIn
import Derived.TacticsInMore
import Derived.LoopNIn
import Derived.LoopIn
import Derived.Sort.LoopGhostIn
import Derived.Maps.AppendAt
set_option linter.all false
set_option maxRecDepth 100000
set_option maxHeartbeats 20000000
namespace Go.Proofs.YtdohpenfkdckiaaGreatDoor
open Go.Proofs.Tryz
open Go.RowKit
variable {κ:Nat}
def qB5(N rb rs:Int):List UInt8:=toB (qE9 N rb rs)++List.replicate 96 0
theorem qM2(N rb rs:Int):(qB5 N rb rs).length=128:=by simp[qB5,qI2,qS8]
theorem xN5(V A n C:Nat)(calls writes:Int)(i:Nat)(N rb rs:Int)(l:List UInt8)(w:World)(hV:w.heap[V]?=some (qB7 A n))(h:w.heap[A]?=some (φ κ n C (.slice none 0 0) calls writes))
  (hi:i<n) (hn:n≤1000) (hC:w.heap[C]?=some (.cells (enc l) 115)) (hs:n*128≤l.length) (hAC:C≠A) (hVA:V≠A) (hVC:V≠C) (hN:N % 2=i) (hN0:0≤N) (hb0:0≤rb) (hb1:rb≤1000) (hs0:0≤rs):
  Calls prog 142 #[.pointer (some ⟨V,0,none⟩),.agg #[.int .u64 N,.int .i64 rb,.int .u64 rs]] w fun e w'=>e=.returned (.tuple #[])∧
   w'.heap[A]?=some (φ κ n C (.slice none 0 0) (nx (nx calls)) (nx writes))∧w'.heap[C]?=some (.cells (enc (qC1 l i (qB5 N rb rs))) 115)∧Kp [A,C] w w':=by
 have hVs:=ζ hV;have hA:=ζ h;have hCs:=ζ hC;have HN:=zh hN;clear hN;go_enter func142,ntmps142;go_wp2_with fail;rw[zY7];obtain⟨W1,hW1,hK1,hA1,hC1,hV1,hH1,hG1,hsz⟩:∃ W1,W1=(w.alloc (.cells #[.int .u64 N,.int .i64 rb,.int .u64 rs] 166)).alloc (.cells (enc qG8) 288)∧Kp [A,C] w W1∧W1.heap[A]?=some (φ κ n C (.slice none 0 0) calls writes)∧W1.heap[C]?=some (.cells (enc l) 115)∧W1.heap[V]?=some (qB7 A n)∧
   W1.heap[w.heap.size]?=some (.cells #[.int .u64 N,.int .i64 rb,.int .u64 rs] 166)∧W1.heap[w.heap.size+1]?=some (.cells (enc qG8) 288)∧W1.heap.size=w.heap.size+2:=
  ⟨_,rfl,((Kp.refl _ _).alloc _).alloc _,θ _ (θ _ h),θ _ (θ _ hC),θ _ (θ _ hV),θ _ (μ _ _),by simpa using μ (w.alloc (.cells #[.int .u64 N,.int .i64 rb,.int .u64 rs] 166)) (.cells (enc qG8) 288),by simp⟩
 rw[←hW1];clear hW1;refine wp_region_any (by kernel_rfl) ?_;change wpAny _ _ _ _ _ _ _ (World.drew _);refine zu 0 (.slice (some ⟨w.heap.size+1,0,none⟩) 128 128) ?_;refine zQ 1 fun K hK=>?_;refine qI8 rfl (qK5 (t:=166) rfl (by kernel_rfl) 3 (by kernel_rfl) w.heap.size rfl (show W1.drew.heap[w.heap.size]?=_ from hH1) rfl) ?_;refine hK _ _ ?_;clear hK K;simp only[zZ];refine zQ 2 fun K hK=>?_;go_simp;refine (zH8 N rb rs _ hN0 hb0 (by omega) hs0).mono ?_;rintro e w2 ⟨v2,rfl,hO2,hB2⟩;obtain⟨g2,cap2,cur2,rfl,hg2,hcs2,hp2⟩:=zG8 hO2;have hB2':Kp [] W1.drew w2:=Kp.of_below hB2 (Nat.le_refl _);have hA2:=hB2'.heap (k:=A) hA1 (by simp);have hC2:=hB2'.heap (k:=C) hC1 (by simp);have hV2:=hB2'.heap (k:=V) hV1 (by simp);have hH2:=hB2'.heap (k:=w.heap.size) hH1 (by simp);have hG2:=hB2'.heap (k:=w.heap.size+1) hG1 (by simp);have hK2:Kp [A,C] w w2:=(hK1.drew).tr hB2';have hs2:w.heap.size+2≤w2.heap.size:=by have:=hB2.size;simp at this;omega
 clear hB2 hB2' hA1 hC1 hV1 hH1 hG1 hK1 hO2;refine hK _ _ ?_;clear hK K
 try simp only[zZ]
 refine zQ 3 fun K hK=>?_;refine qI8 rfl (zN3 rfl underlying118 Tryz.size5 (w.heap.size+1) 0 128 128 g2 0 32 cap2 32 rfl rfl (by decide) hG2 hg2 (by rw[qE8];decide) (by omega) (by rw[hp2];exact (qI1 _).one)) ?_;rw[hp2,qY4];have hblk:qG8.take 0++toB (qE9 N rb rs)++qG8.drop (0+(toB (qE9 N rb rs)).length)=qB5 N rb rs:=by
  rw[qI2,qS8];simp[qB5,qG8]
 rw[hblk];obtain⟨W3,hW3,hK3,hA3,hC3,hV3,hH3,hG3⟩:∃ W3,W3=w2.setRow (w.heap.size+1) (enc (qB5 N rb rs))∧Kp [A,C] w W3∧W3.heap[A]?=some (φ κ n C (.slice none 0 0) calls writes)∧W3.heap[C]?=some (.cells (enc l) 115)∧W3.heap[V]?=some (qB7 A n)∧
   W3.heap[w.heap.size]?=some (.cells #[.int .u64 N,.int .i64 rb,.int .u64 rs] 166)∧W3.heap[w.heap.size+1]?=some (.cells (enc (qB5 N rb rs)) 288):=
  ⟨_,rfl,hK2.setRow (Or.inr (by omega)) _,(setRow_other _ _ _ _ (by omega)).trans hA2,(setRow_other _ _ _ _ (by omega)).trans hC2,(setRow_other _ _ _ _ (by omega)).trans hV2,(setRow_other _ _ _ _ (by omega)).trans hH2,setRow_heap _ _ _ _ _ _ hG2⟩
 rw[←hW3];clear hW3 hA2 hC2 hV2 hH2 hG2 hK2 hg2 hcs2 hp2 hblk;refine hK _ _ ?_;clear hK K;refine wpAny_done (by kernel_rfl) ?_ _;simp only[zZ];go_wp2_with fail;have hhl:=qM2 N rb rs;refine wp_region_held_drew (S:=fun W=>W.heap[w.heap.size]?=some (.cells #[.int .u64 N,.int .i64 rb,.int .u64 rs] 166)∧W.heap[w.heap.size+1]?=some (.cells (enc (qB5 N rb rs)) 288)) (by kernel_rfl) ⟨hH3,hG3⟩ (fun _=>?_);refine zV 0 (.pointer (some ⟨V,0,none⟩)) rfl (fun W hS=>rfl) ⟨hH3,hG3⟩ ?_;refine zV 1 (.agg #[.int .u64 N,.int .i64 rb,.int .u64 rs]) rfl (fun W hS=>qK5 (t:=166) rfl (by kernel_rfl) 3 (by kernel_rfl) w.heap.size rfl hS.1 rfl) ⟨hH3,hG3⟩ ?_;refine zV 3 (.agg (enc (qB5 N rb rs))) rfl (fun W hS=>qK5 (t:=288) rfl (by kernel_rfl) 128 (by kernel_rfl) (w.heap.size+1) rfl hS.2 (by rw[qE8,qM2])) ⟨hH3,hG3⟩ ?_;refine zq 2 fun K hK=>?_;go_simp;refine (qZ5 N rb rs _ hN0).mono ?_;rintro e w4 ⟨rfl,hB4⟩;rw[HN.out];have hB4':Kp [] W3.drew w4:=Kp.of_below hB4 (Nat.le_refl _);have hA4:=hB4'.heap (k:=A) hA3 (by simp);have hC4:=hB4'.heap (k:=C) hC3 (by simp);have hV4:=hB4'.heap (k:=V) hV3 (by simp);have hH4:=hB4'.heap (k:=w.heap.size) hH3 (by simp);have hG4:=hB4'.heap (k:=w.heap.size+1) hG3 (by simp);have hK4:Kp [A,C] w w4:=(hK3.drew).tr hB4';clear hB4 hB4' hA3 hC3 hV3 hH3 hG3 hK3;refine hK.out _ _ ⟨hH4,hG4⟩ (fun _=>?_);clear hK K
 try simp only[zZ]
 refine zq 4 fun K hK=>?_;go_simp;refine (zW5 V A n C w4.heap.size (.slice none 0 0) [] calls writes i (qB5 N rb rs) w4 hV4 hA4 (World.ownsRow_nil _ _ _ _) (by simp) (Nat.le_refl _) hi hn hhl hVA).mono ?_;rintro e w5 ⟨rfl,v5,hv5,hA5,hW5⟩;rw[List.nil_append] at hv5;have hs5:w.heap.size+2≤w4.heap.size:=by have:=ζ hG4;omega
 have hC5:=hW5.oth _ _ _ _ hC4 (by decide) hAC;have hV5:=hW5.oth _ _ _ _ hV4 (by decide) hVA;have hH5:=hW5.oth _ _ _ _ hH4 (by decide) (by omega);have hG5:=hW5.oth _ _ _ _ hG4 (by decide) (by omega);have hK5':Kp [A,C] w w5:=⟨hW5.os.trans hK4.os,hW5.tape.trans hK4.tape,hW5.output.trans hK4.output,Nat.le_trans hK4.size hW5.size,fun k hk hm=>(hW5.low k (by omega) (by simp at hm;exact hm.1)).trans (hK4.block k hk hm)⟩;clear hW5 hK4 hA4 hC4 hV4 hH4 hG4;refine hK.out _ _ ⟨hH5,hG5⟩ (fun _=>?_);clear hK K;refine zd ?_
 try simp only[zZ]
 clear hH5 hG5;go_wp2_with fail;refine (zH9 V A n C w4.heap.size v5 [(i,qB5 N rb rs)] (nx calls) (nx writes) l _ hV5 hA5 hv5 (by simpa using⟨hi,hhl⟩) (by simp) hn hC5 hs hAC).mono ?_;rintro e w6 ⟨rfl,hA6,hC6,hK6⟩;go_wp2
 go_end0
 exact⟨rfl,hA6,hC6,hK5'.tr hK6⟩
def Sto.led(s:Sto)(qb qs:Int):Sto:={ s with N:=s.N+1,rb:=qb,rs:=qs }
theorem zS7(St A n C:Nat)(s:Sto)(qb qs:Int)(l:List UInt8)(wr:Int)(w:World)(hSt:w.heap[St]?=some (ρ 1 s))(hd:Devl s.V A n C l wr w)(hn:n≤1000)(hn2:2≤n)(hl:n*128≤l.length)(hAC:C≠A)(hVA:s.V≠A)(hVC:s.V≠C)(hN0:0≤s.N)(hN1:s.N≤1000000000)(hb0:0≤qb)(hb1:qb≤1000)(hs0:0≤qs)(i:Nat)(hi:(s.N+1) % 2=i):
  Calls prog 114 #[.pointer (some ⟨St,0,none⟩),.agg #[.int .i64 qb,.int .u64 qs]] w fun e w'=>e=.returned (.tuple #[])∧w'.heap[St]?=some (ρ 1 (s.led qb qs))∧Devl s.V A n C (qC1 l i (qB5 (s.N+1) qb qs)) (nx wr) w'∧Kp [St,A,C] w w':=by
 have hSts:=ζ hSt;have HS:=zh hSt;have HD:=zh hd;have HI:=zh hi;clear hSt hd hi;go_enter func114,ntmps114;go_wp2_with fail;rename_i K0 hK0;obtain⟨w1,hw1,hT1,hK1,hs1⟩:=qF0 w (.cells #[.int .i64 qb,.int .u64 qs] 84);rw[←hw1];clear hw1;have hSd:w1.drew.heap[St]?=some (ρ 1 s)∧w1.drew.heap[w.heap.size]?=some (.cells #[.int .i64 qb,.int .u64 qs] 84):=⟨hK1.hp HS.out,hT1⟩;refine zA1 (α:=Nat→Act) (R:=fun A0=>∀ H W,W.heap[H]?=some (.cells #[.int .u64 (s.N+1),.int .i64 qb,.int .u64 qs] 166)→Kp [] w W→w.heap.size≤H→K0 (A0 H) W) ?_;apply Exists.intro;apply And.intro
 rotate_left
 ·intro HREST;refine wp_region_held_drew (S:=fun W=>W.heap[St]?=some (ρ 1 s)∧W.heap[w.heap.size]?=some (.cells #[.int .i64 qb,.int .u64 qs] 84)) (by kernel_rfl) hSd (fun _=>?_);refine zP 0 St 0 hSd ?_;refine zV 1 (.pointer (some ⟨St,0,none⟩)) rfl (fun W hS=>by have c:=ζ hS.1;clear hS;go_simp) hSd ?_;refine zP 2 St 3 hSd ?_;refine zV 3 (.agg #[.int .u64 s.N,.int .i64 s.rb,.int .u64 s.rs]) rfl (fun W hS=>by have a3:=ξ hS.1 3;have a4:=ξ hS.1 4;have a5:=ξ hS.1 5;simp only[ρ,zG,zH,zI] at a3 a4 a5;clear hS;go_simp) hSd ?_;refine zV 4 (.agg #[.int .i64 qb,.int .u64 qs]) rfl (fun W hS=>by have a:=ξ hS.2;clear hS;go_simp) hSd ?_;refine zr 5 6 (fun K hK=>?_) fun K hK=>?_
  ·skip
   go_simp;refine (qY9 s.N s.rb s.rs qb qs w1.drew hN0 hN1).mono ?_;rintro e w2 ⟨rfl,hB2⟩;have hK2:Kp [] w1.drew w2:=Kp.of_below hB2 (Nat.le_refl _);have hS2:=And.intro (hK2.hp hSd.1) (hK2.hp hSd.2);refine hK.out _ _ hS2 (fun _=>?_);clear hK K hB2
   try simp only[zZ]
   refine zq 6 fun K hK=>?_;go_simp;obtain⟨w3,hw3,hH3,hK3,hs3⟩:=qF0 w2 (.cells #[.int .u64 0,.int .i64 0,.int .u64 0] 166);obtain⟨B,hB⟩:∃ B,B=w2.heap.size:=⟨_,rfl⟩;rw[←hw3,←hB];rw[←hB] at hH3;have hs2:=hK2.size;have hBge:w.heap.size<B:=by rw[hB];have:w1.heap.size≤w2.heap.size:=hs2;omega
   clear hw3 hB;have hS3:=And.intro (hK3.hp hS2.1) (hK3.hp hS2.2);refine hK.out _ _ hS3 (fun _=>?_);clear hK K
   try simp only[zZ]
   refine zq 7 fun K hK=>?_;have z0:=ξ hH3;have f0:=ι hH3;have hHs:=ζ hH3;have HH:=zh hH3;go_simp;have hKs:Kp [B] w3 (((w3.setCell ⟨B,0,none⟩ (.int .u64 (s.N+1))).setCell ⟨B,1,none⟩ (.int .i64 qb)).setCell ⟨B,2,none⟩ (.int .u64 qs)):=(((Kp.refl _ _).sc _).sc _).sc _;have hH5:=χ (χ (χ HH.out 0 (.int .u64 (s.N+1))) 1 (.int .i64 qb)) 2 (.int .u64 qs);generalize ((w3.setCell ⟨B,0,none⟩ (.int .u64 (s.N+1))).setCell ⟨B,1,none⟩ (.int .i64 qb)).setCell ⟨B,2,none⟩ (.int .u64 qs)=w5 at hKs hH5 ⊢;refine hK.out _ _ ⟨hKs.heap hS3.1 (by simp<;>omega),hKs.heap hS3.2 (by simp<;>omega)⟩ (fun _=>?_);clear hK K;refine zd ?_
   try simp only[zZ]
   show K0 _ w5;exact HREST B w5 hH5 ((((hK1.drew).tr hK2).tr hK3).trans hKs (by simp<;>omega)) (by omega)
  ·go_simp;obtain⟨w3,hw3,hH3,hK3,hs3⟩:∃ w3,w3=(w1.alloc (.cells #[.int .u64 0,.int .i64 0,.int .u64 0] 166)).drew∧w3.heap[w.heap.size+1]?=some (.cells #[.int .u64 0,.int .i64 0,.int .u64 0] 166)∧Kp [] w1 w3∧w3.heap.size=w1.heap.size+1:=⟨_,rfl,by rw[←hs1];exact μ w1 _,((Kp.refl _ _).alloc _).drew,by simp⟩;rw[←hw3];clear hw3;have hS3:=And.intro (hK3.hp hSd.1) (hK3.hp hSd.2);refine hK.out _ _ hS3 (fun _=>?_);clear hK K
   try simp only[zZ]
   refine zq 5 fun K hK=>?_;go_simp;refine (qY9 s.N s.rb s.rs qb qs w3 hN0 hN1).mono ?_;rintro e w2 ⟨rfl,hB2⟩;have hK2:Kp [] w3 w2:=Kp.of_below hB2 (Nat.le_refl _);have hS2:=And.intro (hK2.hp hS3.1) (hK2.hp hS3.2);refine hK.out _ _ hS2 (fun _=>?_);clear hK K hB2
   try simp only[zZ]
   have hH4:=hK2.hp hH3;refine zq 7 fun K hK=>?_;have z0:=ξ hH4;have f0:=ι hH4;have hHs:=ζ hH4;have HH:=zh hH4;go_simp;have hKs:Kp [(w.heap.size+1)] w2 (((w2.setCell ⟨(w.heap.size+1),0,none⟩ (.int .u64 (s.N+1))).setCell ⟨(w.heap.size+1),1,none⟩ (.int .i64 qb)).setCell ⟨(w.heap.size+1),2,none⟩ (.int .u64 qs)):=(((Kp.refl _ _).sc _).sc _).sc _;have hH5:=χ (χ (χ HH.out 0 (.int .u64 (s.N+1))) 1 (.int .i64 qb)) 2 (.int .u64 qs);generalize ((w2.setCell ⟨(w.heap.size+1),0,none⟩ (.int .u64 (s.N+1))).setCell ⟨(w.heap.size+1),1,none⟩ (.int .i64 qb)).setCell ⟨(w.heap.size+1),2,none⟩ (.int .u64 qs)=w5 at hKs hH5 ⊢;refine hK.out _ _ ⟨hKs.heap hS2.1 (by simp<;>omega),hKs.heap hS2.2 (by simp<;>omega)⟩ (fun _=>?_);clear hK K;refine zd ?_
   try simp only[zZ]
   show K0 _ w5;exact HREST (w.heap.size+1) w5 hH5 (((hK1.tr hK3).tr hK2).tr hKs) (by omega)
 intro H W hH hKW hHge;refine hK0 _ _ ?_;clear hK0 K0 hSd hK1 hT1;go_wp2_with fail;have hHs:=ζ hH;have hVs:=ζ HD.out.hV;have hCs:=ζ HD.out.hC;have hS2:W.drew.heap[St]?=some (ρ 1 s)∧W.drew.heap[H]?=some (.cells #[.int .u64 (s.N+1),.int .i64 qb,.int .u64 qs] 166):=⟨hKW.hp HS.out,hH⟩;obtain⟨calls,hA⟩:=HD.out.hA;have hAs:=ζ hA;have hStA:St≠A:=by intro e;subst e;rw[HS.out] at hA;simp[ρ,φ] at hA
 have hStC:St≠C:=by intro e;subst e;have h:=HD.out.hC;rw[HS.out] at h;simp[ρ] at h
 refine wp_region_held_drew (S:=fun W=>W.heap[St]?=some (ρ 1 s)∧W.heap[H]?=some (.cells #[.int .u64 (s.N+1),.int .i64 qb,.int .u64 qs] 166)) (by kernel_rfl) hS2 (fun _=>?_);refine zP 0 St 0 hS2 ?_;refine zV 1 (.pointer (some ⟨St,0,none⟩)) rfl (fun W hS=>by have c:=ζ hS.1;clear hS;go_simp) hS2 ?_;refine zP 2 St 2 hS2 ?_;refine zV 3 (.pointer (some ⟨s.V,0,none⟩)) rfl (fun W hS=>by have a:=ξ hS.1 2;simp only[ρ,zG,zH,zI] at a;clear hS;go_simp) hS2 ?_;refine zV 4 (.agg #[.int .u64 (s.N+1),.int .i64 qb,.int .u64 qs]) rfl (fun W hS=>by have a:=ξ hS.2;clear hS;go_simp) hS2 ?_;refine zq 5 fun K hK=>?_;go_simp;refine (xN5 s.V A n C calls wr i (s.N+1) qb qs l W.drew (hKW.hp HD.out.hV) (hKW.hp hA) (by have:=HI.out;omega) hn (hKW.hp HD.out.hC) hl hAC hVA hVC HI.out (by omega) hb0 hb1 hs0).mono ?_;rintro e w3 ⟨rfl,hA3,hC3,hK3⟩;have hS3:=And.intro (hK3.heap hS2.1 (by simp[hStA,hStC])) (hK3.heap hS2.2 (by simp<;>omega));have hV3:=hK3.heap (hKW.hp HD.out.hV) (by simp[hVA,hVC]);refine hK.out _ _ hS3 (fun _=>?_);clear hK K;refine zd ?_
 try simp only[zZ]
 have hSts3:=ζ hS3.1;have hHs3:=ζ hS3.2;have y3:=ξ hS3.1 3;have y4:=ξ hS3.1 4;have y5:=ξ hS3.1 5;simp only[ρ,zG,zH,zI] at y3 y4 y5;have g3:=ι hS3.1;have z0:=ξ hS3.2;have hHSt:H≠St:=by omega
 have HE:Hid (w3.heap[St]?=some (ρ 1 s)∧w3.heap[s.V]?=some (qB7 A n)∧w3.heap[A]?=some (φ ((qC1 l i (qB5 (s.N+1) qb qs)).length / 128) n C (.slice none 0 0) (nx (nx calls)) (nx wr))∧w3.heap[C]?=some (.cells (enc (qC1 l i (qB5 (s.N+1) qb qs))) 115)∧Kp [A,C] w w3):=⟨hS3.1,hV3,by rw[zW7 l _ i n (qM2 _ _ _) hl (by have:=HI.out;omega)];exact hA3,hC3,(Kp.mono (S':=[A,C]) hKW (by simp)).trans (((Kp.refl [A,C] W).drew).tr hK3) (by simp)⟩;clear hS2 hS3 hA3 hC3 hV3 hK3 hH hKW;go_wp2
 go_end0
 obtain⟨e1,e2,e3,e4,e5⟩:=HE.out;have hKs:Kp [St] w3 (((w3.setCell ⟨St,3,none⟩ (.int .u64 (s.N+1))).setCell ⟨St,4,none⟩ (.int .i64 qb)).setCell ⟨St,5,none⟩ (.int .u64 qs)):=(((Kp.refl _ _).sc _).sc _).sc _;have hVSt:s.V≠St:=by intro e;rw[e,e1] at e2;simp[ρ,qB7] at e2
 exact⟨rfl,χ (χ (χ e1 3 _) 4 _) 5 _,⟨hKs.heap e2 (by simpa using hVSt),⟨_,hKs.heap e3 (by simpa using hStA.symm)⟩,hKs.heap e4 (by simpa using hStC.symm)⟩,(e5.mono (by simp +contextual)).tr hKs⟩
theorem zI1{a b:ByteArray}(h:qK7 a=qK7 b):a=b:=by
 have e:=congrArg toB h;rw[qV1,qV1] at e;cases a;cases b;simp only at e
 congr 1
 exact Array.toList_inj.1 e
theorem jD1{p p':KV}(hp:qC9 p)(hp':qC9 p'){r r':List Int}(h:qD1 p++r=qD1 p'++r'):p=p'∧r=r':=by
 obtain⟨h1,h2,h3⟩:=hp;obtain⟨g1,g2,g3⟩:=hp';simp only[qD1,List.append_assoc,List.cons_append,List.nil_append,List.cons.injEq] at h;obtain⟨e0,e1⟩:=h;have ek:p.k.size=p'.k.size:=by omega
 have ev:p.v.size=p'.v.size:=by omega
 obtain⟨e2,e3⟩:=List.append_inj e1 (by rw[qP9,qP9,ek]);obtain⟨e4,e5⟩:=List.append_inj e3 (by rw[qP9,qP9,ev]);refine⟨?_,e5⟩;cases p;cases p';simp only at e2 e4;rw[zI1 e2,zI1 e4]
theorem zV4:∀ (ps ps':List KV) (r r':List Int),(∀ p∈ps,qC9 p)→(∀ p∈ps',qC9 p)→ps.length=ps'.length→ps.flatMap qD1++r=ps'.flatMap qD1++r'→ps=ps'
 | [],[],_,_,_,_,_,_=>rfl
 | [],_::_,_,_,_,_,h,_=>by cases h
 | _::_,[],_,_,_,_,h,_=>by cases h
 | p::ps,p'::ps',r,r',h1,h2,hl,h=>by
  rw[List.flatMap_cons,List.flatMap_cons,List.append_assoc,List.append_assoc] at h;obtain⟨e1,e2⟩:=jD1 (h1 p (by simp)) (h2 p' (by simp)) h;rw[e1,zV4 ps ps' r r' (fun q hq=>h1 q (by simp[hq])) (fun q hq=>h2 q (by simp[hq])) (by simpa using hl) e2]
theorem xV2{h h':HL}(hk:h.key.size≤8)(hk':h'.key.size≤8)(hp:h.p=none)(hp':h'.p=none)(b0:0≤h.b∧h.b<65536)(b0':0≤h'.b∧h'.b<65536)(s0:0≤h.s∧h.s<18446744073709551616)(s0':0≤h'.s∧h'.s<18446744073709551616){r r':List Int}(e:qD3 h++r=qD3 h'++r'):h=h'∧r=r':=by
 simp only[qD3,List.append_assoc] at e;obtain⟨e1,e2⟩:=List.append_inj e (by rw[qF2,qF2]);obtain⟨e3,e4⟩:=List.append_inj e2 (by rw[qF2,qF2]);simp only[List.cons_append,List.nil_append,List.cons.injEq] at e4;obtain⟨e5,e6⟩:=e4;obtain⟨e7,e8⟩:=List.append_inj e6 (by rw[qP9,qP9];omega);have n1:=congrArg qG2 e1;rw[qL5 2 _ (by omega) b0.1 (by simpa using b0.2),qL5 2 _ (by omega) b0'.1 (by simpa using b0'.2)] at n1;have n2:=congrArg qG2 e3;rw[qL5 8 _ (by omega) s0.1 (by simpa using s0.2),qL5 8 _ (by omega) s0'.1 (by simpa using s0'.2)] at n2;refine⟨?_,e8⟩;cases h;cases h';simp only at hp hp' n1 n2 e7;rw[zI1 e7,n1,n2,hp,hp']
def zU8(h:HL):Prop:=h.p=none∧h.key.size≤8∧0≤h.b∧h.b<65536∧0≤h.s∧h.s<18446744073709551616
theorem zT2:∀ (ps ps':List HL) (r r':List Int),(∀ p∈ps,zU8 p)→(∀ p∈ps',zU8 p)→ps.length=ps'.length→ps.flatMap qD3++r=ps'.flatMap qD3++r'→ps=ps'
 | [],[],_,_,_,_,_,_=>rfl
 | [],_::_,_,_,_,_,h,_=>by cases h
 | _::_,[],_,_,_,_,h,_=>by cases h
 | p::ps,p'::ps',r,r',h1,h2,hl,h=>by
  rw[List.flatMap_cons,List.flatMap_cons,List.append_assoc,List.append_assoc] at h;obtain⟨a1,a2,a3,a4,a5,a6⟩:=h1 p (by simp);obtain⟨c1,c2,c3,c4,c5,c6⟩:=h2 p' (by simp);obtain⟨e1,e2⟩:=xV2 a2 c2 a1 c1 ⟨a3,a4⟩ ⟨c3,c4⟩ ⟨a5,a6⟩ ⟨c5,c6⟩ h;rw[e1,zT2 ps ps' r r' (fun q hq=>h1 q (by simp[hq])) (fun q hq=>h2 q (by simp[hq])) (by simpa using hl) e2]
theorem zI5{xs ys:List Int}(hx:∀ x∈xs,0≤x∧x<256)(hy:∀ x∈ys,0≤x∧x<256)(h:toB xs=toB ys):xs=ys:=by
 rw[←qN4 xs hx,←qN4 ys hy,h]
theorem zG3{lv lv':Int}{ps ps':List KV}{hs hs':List HL}(h:qA1 lv ps hs=qA1 lv' ps' hs'):lv=lv'∧ps.length+hs.length=ps'.length+hs'.length∧∃ r r',ps.flatMap qD1++(hs.flatMap qD3++r)=ps'.flatMap qD1++(hs'.flatMap qD3++r'):=by
 simp only[qA1,qJ6,List.append_assoc,List.cons_append,List.nil_append,List.cons.injEq] at h;exact⟨h.1,by have:=h.2.1;omega,_,_,h.2.2⟩
theorem zR1{N:Nat}{l:List UInt8}(hN:N≤1000):∀ {n b:Nat} {s:Int} {t:Tn n},Laid N l n b s t→∃ ps hs,qA7 l b=toB (qA1 (n:Int) ps hs)∧∀ x∈qA1 (n:Int) ps hs,0≤x∧x<256
 | 0,b,s,t,h=>by
  obtain⟨_,_,_,h4,h5,h6,h7⟩:=h;exact⟨prs t,[],h4,qK6 0 _ [] (by omega) (by omega) (by simp;omega) h5 (by simp)⟩
 | n+1,b,s,t,h=>by
  obtain⟨_,_,h3,hs,h4,h5,h6,h7,h8,h9⟩:=h;exact⟨[],hs,h6,qK6 _ [] hs (by omega) (by omega) (by simp;omega) (by simp) h7⟩
theorem qU1{N:Nat}{l:List UInt8}(hN:N≤1000){n n' b:Nat}{s s':Int}{t:Tn n}{t':Tn n'}(h:Laid N l n b s t)(h':Laid N l n' b s' t'):n=n':=by
 obtain⟨ps,hs,e1,g1⟩:=zR1 hN h;obtain⟨ps',hs',e2,g2⟩:=zR1 hN h';rw[e1] at e2;have:=(zG3 (zI5 g1 g2 e2)).1;omega
theorem zE6{N:Nat}{l:List UInt8}(hN:N≤1000):∀ (n b:Nat) (s s':Int) (t t':Tn n),Laid N l n b s t→Laid N l n b s' t'→s=s'∧t=t'
 | 0,b,s,s',t,t',h,h'=>by
  obtain⟨_,_,h3,h4,h5,h6,h7⟩:=h;obtain⟨_,_,g3,g4,g5,g6,g7⟩:=h';rw[h4] at g4;have e:=zI5 (qK6 0 _ [] (by omega) (by omega) (by simp;omega) h5 (by simp)) (qK6 0 _ [] (by omega) (by omega) (by simp;omega) g5 (by simp)) g4;refine⟨by rw[h3,g3,e],?_⟩;obtain⟨_,hl,r,r',e2⟩:=zG3 e;exact zV4 (prs t) (prs t') _ _ h5 g5 (by simpa using hl) e2
 | n+1,b,s,s',t,t',h,h'=>by
  obtain⟨_,_,h2,hs,h3,h4,h5,h6,h7,h8⟩:=h;obtain⟨_,_,g2,hs',g3,g4,g5,g6,g7,g8⟩:=h';rw[h5] at g5;have e:=zI5 (qK6 _ [] hs (by omega) (by omega) (by simp;omega) (by simp) h6) (qK6 _ [] hs' (by omega) (by omega) (by simp;omega) (by simp) g6) g5;refine⟨by rw[h4,g4,e],?_⟩;obtain⟨_,hl,r,r',e2⟩:=zG3 e;simp only[List.flatMap_nil,List.nil_append] at e2;have ehs:=zT2 hs hs' _ _ (fun p hp=>Laid.links h3 h6 hN p hp) (fun p hp=>Laid.links g3 g6 hN p hp) (by simpa using hl) e2;subst ehs;refine (List.ext_getElem (h3.1.symm.trans g3.1) fun i a1 a2=>?_:η t=η t');have r1:=h3.2 i (by rw[h3.1];exact a1) a1;have r2:=g3.2 i (by rw[h3.1];exact a1) a2;obtain⟨k1,m1⟩:=r1;obtain⟨k2,m2⟩:=r2
  cases x1:(η t)[i].ref with
  | none=>rw[x1] at m1;obtain⟨_,_,q,_,hf⟩:=m1;exact hf.elim
  | some y1=>
   cases x2:(η t')[i].ref with
   | none=>rw[x2] at m2;obtain⟨_,_,q,_,hf⟩:=m2;exact hf.elim
   | some y2=>
    rw[x1] at m1;rw[x2] at m2;obtain⟨b1,s1,_,L1⟩:=m1;obtain⟨b2,s2,_,L2⟩:=m2;have eb:y1.1=y2.1:=by omega
    rw[←eb] at L2;have es:=zE6 hN n y1.1 _ _ _ _ L1 L2;have ey:y1=y2:=Prod.ext eb es.1;have hk:(η t)[i].key=(η t')[i].key:=k1.symm.trans k2;have hx:(η t)[i].ref=(η t')[i].ref:=by rw[x1,x2,ey]
    have hsub:=es.2
    revert hk hx hsub
    generalize (η t)[i]=u;generalize (η t')[i]=v;intro hk hx hsub;cases u;cases v;simp only at hk hx hsub;rw[hk,hx,hsub]
def Cl(N:Nat)(l:List UInt8)(n:Nat)(ks:List Nat):Prop:=∀ (m b:Nat) (s:Int) (t:Tn m),m<n→Laid N l m b s t→b∈ks→∀ k∈Blk m b t,k∈ks
def zZ0(N:Nat)(l:List UInt8)(n:Nat)(ks ks':List Nat):Prop:=∀ k∈ks',k∈ks∨∃ (m:Nat) (s:Int) (t:Tn m),m<n∧Laid N l m k s t
structure Bel(N:Nat)(l:List UInt8)(n:Nat)(ks ks':List Nat):Prop where
 sub:∀ k∈ks,k∈ks'
 new:zZ0 N l n ks ks'
 cl:Cl N l n ks'
theorem Bel.refl{N n:Nat}{l:List UInt8}{ks:List Nat}(h:Cl N l n ks):Bel N l n ks ks:=⟨fun _ h=>h,fun _ h=>Or.inl h,h⟩
theorem Bel.trans{N n:Nat}{l:List UInt8}{a b c:List Nat}(h:Bel N l n a b)(k:Bel N l n b c):Bel N l n a c:=
 ⟨fun x hx=>k.sub x (h.sub x hx),fun x hx=>by
  rcases k.new x hx with h1|h1
  ·exact h.new x h1
  ·exact Or.inr h1,k.cl⟩
def zB3(N:Nat)(l:List UInt8)(n:Nat):Prop:=∀ (t:Tn n) (ks:List Nat),Cl N l n ks→(∀ n' (e:n=n'+1),∀ m∈η (e ▸ t:Tn (n'+1)),qJ7 N l n' m)→
 Bel N l n ks (qE7 n t ks)∧∀ n' (e:n=n'+1),∀ m∈η (e ▸ t:Tn (n'+1)),∀ k∈qH2 n' m,k∈qE7 n t ks
theorem zV0{N:Nat}{l:List UInt8}:∀ {n:Nat} {m:Lnk (Tn n)},qJ7 N l n m→∀ n' (e:n=n'+1),∀ u∈η (e ▸ m.sub:Tn (n'+1)),qJ7 N l n' u
 | 0,_,_,n',e=>by cases e
 | n+1,m,h,n',e=>by
  cases e;intro u hu
  cases hx:m.ref with
  | none=>exact h.2 hx u hu
  | some x=>
   obtain⟨_,_,_,hs,hb,_⟩:=h.1 x hx;obtain⟨i,hi,rfl⟩:=List.getElem_of_mem hu;have h2:=(hb.2 i (by rw[hb.1];exact hi) hi).2;have key:∀ y,(η m.sub)[i].ref=some y→Laid N l n y.1 y.2 (η m.sub)[i].sub:=fun y hy=>by rw[hy] at h2;exact h2.2.2.2
   have hnn:(η m.sub)[i].ref≠none:=fun hn=>by rw[hn] at h2;obtain⟨_,_,q,_,hf⟩:=h2;exact hf
   cases n with
   | zero=>exact key
   | succ n=>exact⟨key,fun hn=>absurd hn hnn⟩
theorem qO8{n:Nat}{m:Lnk (Tn n)}{x:Nat × Int}(h:m.ref=some x):qH2 n m=Blk n x.1 m.sub:=by
 cases n<;>simp only[qH2,h]
theorem xY0{N:Nat}{l:List UInt8}{n:Nat}{m:Lnk (Tn n)}(h:qJ7 N l n m){x:Nat × Int}(hx:m.ref=some x):Laid N l n x.1 x.2 m.sub:=by
 cases n with
 | zero=>exact h x hx
 | succ n=>exact h.1 x hx
theorem xB8{n b:Nat}{t:Tn n}{k:Nat}(h:k∈Blk n b t):k=b∨∃ n',∃ e:n=n'+1,∃ u∈η (e ▸ t:Tn (n'+1)),k∈qH2 n' u:=by
 cases n with
 | zero=>exact Or.inl (by simpa [Blk] using h)
 | succ n=>
  simp only[Blk,List.mem_cons,List.mem_flatMap] at h;rcases h with h|⟨u,hu,hk⟩
  ·exact Or.inl h
  ·refine Or.inr ⟨n,rfl,u,hu,?_⟩
   cases hx:u.ref with
   | none=>rw[hx] at hk;cases hk
   | some x=>rw[hx] at hk;rw[qO8 hx];exact hk
theorem zX1{N:Nat}{l:List UInt8}(hN:N≤1000)(n:Nat)(IH:zB3 N l n)(m:Lnk (Tn n))(hm:qJ7 N l n m)(ks:List Nat)(hc:Cl N l (n+1) ks):
  Bel N l (n+1) ks (qG1 (qE7 n) ks m)∧∀ k∈qH2 n m,k∈qG1 (qE7 n) ks m:=by
 cases hx:m.ref with
 | none=>
  have e:qG1 (qE7 n) ks m=qE7 n m.sub ks:=by simp only[qG1,hx]
  rw[e];obtain⟨hb,hblk⟩:=IH m.sub ks (fun m' b s t h=>hc m' b s t (by omega)) (zV0 hm);refine⟨⟨hb.sub,fun k hk=>?_,fun m' b s t hlt hL hbk k hk=>?_⟩,fun k hk=>?_⟩
  ·rcases hb.new k hk with h|⟨a,s,t,h1,h2⟩
   ·exact Or.inl h
   ·exact Or.inr ⟨a,s,t,by omega,h2⟩
  ·by_cases hmn:m'<n
   ·exact hb.cl m' b s t hmn hL hbk k hk
   ·rcases hb.new b hbk with h|⟨a,s',t',h1,h2⟩
    ·exact hb.sub k (hc m' b s t hlt hL h k hk)
    ·have:=qU1 hN hL h2;omega
  ·cases n with
   | zero=>simp[qH2,hx] at hk
   | succ n=>
    simp only[qH2,hx,List.mem_flatMap] at hk;obtain⟨u,hu,hk⟩:=hk;exact hblk n rfl u hu k hk
 | some x=>
  have hL:=xY0 hm hx;by_cases hin:x.1∈ks
  ·have e:qG1 (qE7 n) ks m=ks:=by simp only[qG1,hx,if_pos hin]
   rw[e];exact⟨Bel.refl hc,fun k hk=>by rw[qO8 hx] at hk;exact hc n x.1 x.2 m.sub (by omega) hL hin k hk⟩
  ·have e:qG1 (qE7 n) ks m=qE7 n m.sub (x.1::ks):=by simp only[qG1,hx,if_neg hin]
   rw[e];have hc1:Cl N l n (x.1::ks):=fun m' b s t hlt hL' hb k hk=>by
    rcases List.mem_cons.1 hb with rfl|hb
    ·have:=qU1 hN hL' hL;omega
    ·exact List.mem_cons_of_mem _ (hc m' b s t (by omega) hL' hb k hk)
   obtain⟨hb,hblk⟩:=IH m.sub (x.1::ks) hc1 (zV0 hm);have hall:∀ k∈Blk n x.1 m.sub,k∈qE7 n m.sub (x.1::ks):=fun k hk=>by
    rcases xB8 hk with rfl|⟨n',e',u,hu,hk⟩
    ·exact hb.sub _ List.mem_cons_self
    ·exact hblk n' e' u hu k hk
   refine⟨⟨fun k hk=>hb.sub k (List.mem_cons_of_mem _ hk),fun k hk=>?_,fun m' b s t hlt hL' hbk k hk=>?_⟩,fun k hk=>by rw[qO8 hx] at hk;exact hall k hk⟩
   ·rcases hb.new k hk with h|⟨a,s,t,h1,h2⟩
    ·rcases List.mem_cons.1 h with rfl|h
     ·exact Or.inr ⟨n,x.2,m.sub,by omega,hL⟩
     ·exact Or.inl h
    ·exact Or.inr ⟨a,s,t,by omega,h2⟩
   ·by_cases hmn:m'<n
    ·exact hb.cl m' b s t hmn hL' hbk k hk
    ·have hmn':m'=n:=by omega
     subst hmn';rcases hb.new b hbk with h|⟨a,s',t',h1,h2⟩
     ·rcases List.mem_cons.1 h with rfl|h
      ·rw[(zE6 hN _ _ _ _ _ _ hL' hL).2] at hk;exact hall k hk
      ·exact hb.sub k (List.mem_cons_of_mem _ (hc _ b s t hlt hL' h k hk))
     ·have:=qU1 hN hL' h2;omega
theorem zO4{N:Nat}{l:List UInt8}(hN:N≤1000)(n:Nat)(IH:zB3 N l n):∀ (ls:List (Lnk (Tn n))) (ks:List Nat),(∀ m∈ls,qJ7 N l n m)→Cl N l (n+1) ks→
  Bel N l (n+1) ks (ls.foldl (qG1 (qE7 n)) ks)∧∀ m∈ls,∀ k∈qH2 n m,k∈ls.foldl (qG1 (qE7 n)) ks
 | [],ks,_,hc=>⟨Bel.refl hc,fun m hm=>by cases hm⟩
 | a::ls,ks,h,hc=>by
  obtain⟨h1,h2⟩:=zX1 hN n IH a (h a (by simp)) ks hc;obtain⟨h3,h4⟩:=zO4 hN n IH ls (qG1 (qE7 n) ks a) (fun m hm=>h m (by simp[hm])) h1.cl;refine⟨h1.trans h3,fun m hm k hk=>?_⟩;rcases List.mem_cons.1 hm with rfl|hm
  ·exact h3.sub k (h2 k hk)
  ·exact h4 m hm k hk
theorem zK7{N:Nat}{l:List UInt8}(hN:N≤1000):∀ n,zB3 N l n
 | 0=>fun t ks hc _=>⟨Bel.refl hc,fun n' e=>by cases e⟩
 | n+1=>fun t ks hc ho=>by
  obtain⟨h1,h2⟩:=zO4 hN n (zK7 hN n) (η t) ks (ho n rfl) hc;exact⟨h1,fun n' e=>by cases e;exact h2⟩
def ClA(N:Nat)(l:List UInt8)(ks:List Nat):Prop:=∀ n,Cl N l n ks
def qM9:Root→List Nat
 | .none=>[]
 | .at n l=>qH2 n l
def qN3(N:Nat)(l:List UInt8):Root→Prop
 | .none=>True
 | .at n m=>qJ7 N l n m
theorem ClA.nil(N:Nat)(l:List UInt8):ClA N l []:=fun n m b s t _ _ h=>by cases h
theorem zJ8{N:Nat}{l:List UInt8}(hN:N≤1000)(rt:Root)(ks:List Nat)(ho:qN3 N l rt)(hc:ClA N l ks):(∀ k∈ks,k∈qA4 ks rt)∧ClA N l (qA4 ks rt)∧∀ k∈qM9 rt,k∈qA4 ks rt:=by
 cases rt with
 | none=>exact⟨fun _ h=>h,hc,fun k hk=>by cases hk⟩
 | «at» n m=>
  obtain⟨h1,h2⟩:=zX1 hN n (zK7 hN n) m ho ks (hc (n+1));refine⟨h1.sub,fun p m' b s t hlt hL hb k hk=>?_,h2⟩;rcases h1.new b hb with h|⟨a,s',t',e1,e2⟩
  ·exact h1.sub k (hc p m' b s t hlt hL h k hk)
  ·exact h1.cl m' b s t (by have:=qU1 hN hL e2;omega) hL hb k hk
theorem zJ9{N:Nat}{l:List UInt8}(hN:N≤1000):∀ (rs:List Root) (ks:List Nat),(∀ r∈rs,qN3 N l r)→ClA N l ks→(∀ k∈ks,k∈rs.foldl qA4 ks)∧ClA N l (rs.foldl qA4 ks)∧∀ r∈rs,∀ k∈qM9 r,k∈rs.foldl qA4 ks
 | [],ks,_,hc=>⟨fun _ h=>h,hc,fun r hr=>by cases hr⟩
 | a::rs,ks,h,hc=>by
  obtain⟨h1,h2,h3⟩:=zJ8 hN a ks (h a (by simp)) hc;obtain⟨g1,g2,g3⟩:=zJ9 hN rs (qA4 ks a) (fun r hr=>h r (by simp[hr])) h2;refine⟨fun k hk=>g1 k (h1 k hk),g2,fun r hr k hk=>?_⟩;rcases List.mem_cons.1 hr with rfl|hr
  ·exact g1 k (h3 k hk)
  ·exact g3 r hr k hk
theorem zD1{N:Nat}{ks:List Nat}:∀ b∈qB8 N ks,2≤b∧b<N∧b ∉ ks:=by
 intro b hb;simp only[qB8,List.mem_filter,List.mem_range'_1,decide_eq_true_eq] at hb;exact⟨hb.1.1,by omega,hb.2⟩
theorem xL0(N:Nat)(ks:List Nat):(qB8 N ks).Nodup:=List.Pairwise.filter _ List.nodup_range'
theorem xF3{N:Nat}{l:List UInt8}(hN:N≤1000)(hl:N*128≤l.length)(n:Nat)(L:Lnk (Tn n))(rs:List Root)(ho:qJ7 N l n L)(hok:OkL n L)(hn6:n<6)(hrs:∀ r∈rs,qN3 N l r)
  (hfit:news n L≤(qB8 N (rs.foldl qA4 (qA4 [] (.at n L)))).length) (ws:List (Nat × List UInt8)) (hws:ws=(ψ n L (qB8 N (rs.foldl qA4 (qA4 [] (.at n L))))).2.1):
  (∀ x∈ws,x.1<N∧x.2.length=128)∧(∃ x,(ψ n L (qB8 N (rs.foldl qA4 (qA4 [] (.at n L))))).1.ref=some x∧Laid N (laidAll l ws) n x.1 x.2 (ψ n L (qB8 N (rs.foldl qA4 (qA4 [] (.at n L))))).1.sub)∧
  (∀ r∈rs,∀ k∈qM9 r,qA7 (laidAll l ws) k=qA7 l k)∧(∀ k,k<2→qA7 (laidAll l ws) k=qA7 l k):=by
 obtain⟨a1,a2,a3⟩:=zJ8 hN (.at n L) [] ho (ClA.nil N l);obtain⟨b1,b2,b3⟩:=zJ9 hN rs _ hrs a2;have hfo:=zD1 (N:=N) (ks:=rs.foldl qA4 (qA4 [] (.at n L)));have hnd:=xL0 N (rs.foldl qA4 (qA4 [] (.at n L)));generalize rs.foldl qA4 (qA4 [] (.at n L))=ks at *;have hfst:=zF1 n L (qB8 N ks) hfit;rw[←hws] at hfst;have hin:∀ x∈ws,x.1∈qB8 N ks:=fun x hx=>by
  have h:x.1∈ws.map Prod.fst:=List.mem_map_of_mem hx;rw[hfst] at h;exact List.mem_of_mem_take h
 have hw:∀ x∈ws,x.1<N∧x.2.length=128:=fun x hx=>⟨(hfo x.1 (hin x hx)).2.1,zF2 n L _ hok x (by rw[←hws];exact hx)⟩;have hkeep:∀ k,(k∈ks∨k<2)→qA7 (laidAll l ws) k=qA7 l k:=fun k hk=>zL0 N k ws l hl hw (fun hm=>by
  obtain⟨x,hx,rfl⟩:=List.mem_map.1 hm;have h:=hfo _ (hin x hx);rcases hk with hk|hk
  ·exact h.2.2 hk
  ·omega)
 refine⟨hw,?_,fun r hr k hk=>hkeep k (Or.inl (b3 r hr k hk)),fun k hk=>hkeep k (Or.inr hk)⟩;refine zR4 N l (laidAll l ws) n L (qB8 N ks) ho hok hn6 (fun b hb=>⟨(hfo b hb).1,(hfo b hb).2.1⟩) hfit (fun x hx=>?_) (fun k hk=>hkeep k (Or.inl (b1 k (a3 k hk))));rw[←hws] at hx;refine xB7 N ws x l hl hw ?_ hx;rw[hfst];exact hnd.sublist (List.take_sublist _ _)
theorem xN8:(prog.info? 263).map (·.size)=some 2:=by kernel_rfl
theorem xI0(d:Nat)(a:Addr)(W:World):Sem.run prog (Op.equalIn (d+1) 82 (.pointer (some a)) (.pointer (some a))) W=.ok true W:=by
 obtain⟨i,hi,hs⟩:=Option.map_eq_some_iff.1 xN8;simp[Op.equalIn,run_underlying underlying82,run_sizeOf W hi,hs,run_sameAddr_same]
theorem jI9(V q:Nat)(h:HL)(rb rs:Int)(hp:h.p=some q)(hk:h.key=⟨#[]⟩)(W:World):
  Sem.run prog (Op.equalIn 10000 89 (υ V h) (υ V ⟨⟨#[]⟩,rb,rs,none⟩)) W=.ok false W:=by
 have heq:∀ W:World,Sem.run prog (Op.equalIn 9998 85 (.pointer (some ⟨q,0,none⟩)) (.pointer none)) W=.ok false W:=fun W=>zN2 9997 _ W;have hv:=xI0 9998 ⟨V,0,none⟩;have hptr:h.ptr=some ⟨q,0,none⟩:=by simp[HL.ptr,hp]
 rw[υ,υ,hptr,hk,show HL.ptr ⟨⟨#[]⟩,rb,rs,none⟩=none from rfl];go_simp
end Go.Proofs.YtdohpenfkdckiaaGreatDoor
namespace Go.Proofs.YtdohpenfkdckiaaGreatDoor
open Go.Proofs.Tryz
open Go.RowKit
open Go.Maps (Keyed)
attribute [local go_sem] Oper.semAt_some
structure Come(D:DataW Unit)(left:Lit→Bool)(ks:List Int):Prop where
 sub:∀ kl,left kl=true→Maps.has D kl=true
 has:∀ x∈ks,Maps.has D (qA6 x)=true∧keyOf prog 78 (.int .u64 x)=some (qA6 x)
 all:∀ kl,Maps.has D kl=true→left kl=true∨∃ x∈ks,kl=qA6 x
theorem Come.start(D:DataW Unit):Come D (Maps.has D) []:=⟨fun _ h=>h,fun x hx=>(by cases hx),fun _ h=>Or.inl h⟩
theorem Come.step{D:DataW Unit}{left:Lit→Bool}{ks:List Int}(h:Come D left ks){x:Int}(hx:left (qA6 x)=true)(hk:keyOf prog 78 (.int .u64 x)=some (qA6 x)):Come D (fun z=>left z && !z.sameKey (qA6 x)) (ks++[x]):=by
 refine⟨fun kl hk=>h.sub kl (by simp at hk;exact hk.1),fun y hy=>?_,fun kl hk=>?_⟩
 ·rcases List.mem_append.1 hy with hy|hy
  ·exact h.has y hy
  ·rw[List.mem_singleton.1 hy];exact⟨h.sub _ hx,hk⟩
 ·rcases h.all kl hk with h1|⟨y,hy,e⟩
  ·by_cases hs:kl.sameKey (qA6 x)=true
   ·exact Or.inr ⟨x,by simp,WideAt.sameKey_eq hs⟩
   ·exact Or.inl (by simp[h1,hs])
  ·exact Or.inr ⟨y,by simp[hy],e⟩
def KeysU(D:DataW Unit)(ks:List Int):Prop:=(∀ x∈ks,Maps.has D (qA6 x)=true∧keyOf prog 78 (.int .u64 x)=some (qA6 x))∧(∀ kl,Maps.has D kl=true→∃ x∈ks,kl=qA6 x)∧ks.length≤Maps.size D
theorem xS3(n:Nat)(hn:1≤n)(l Bm M V nn:Nat)(D:DataW Unit)(J:List Int→World→Prop)
  (hY:∀ pre x W,J pre W→pre.length<Maps.size D→YieldAt Fence.wide (n-1) prog l #[.int .u64 x] W fun e W'=>e=.returned (.bool true)∧J (pre++[x]) W'∧KeepsWalks W W')
  (W:World) (hJ:AbidesFrom W.heap.size J) (hm:W.cell? ⟨Bm,0,none⟩=some (.map (some M))) (hown:RM W V M nn D) (h0:J [] W):
  CallsIn Fence.wide n prog 239 #[.func (.yield l) #[] #[],.pointer (some ⟨Bm,0,none⟩)] W fun e W'=>(∃ v,e=.returned v)∧∃ ks:List Int,KeysU D ks∧J ks W':=by
 refine callsIn_of_wp func239 rfl trivial ?_ rfl;simp only[ntmps239,List.size_toArray,List.length_cons,List.length_nil,Nat.reduceAdd,Nat.reduceSub,Array.replicate_succ,Array.replicate_zero,List.push_toArray,List.append_toArray,List.nil_append,List.cons_append]
 gi_wp2_with (first
  | (gi_at_range;refine wpListIn_range_own _ rfl _ 167 rfl 78 89 qN7 qU3 _ M nn _ rfl hown ?_;intro w0 hrg0 hg0 hs0)
  | gi_in)
 go_frame
 gi_loopw [3] (fun _ wr=>∃ (left:Lit→Bool) (cnt:Nat) (ks:List Int),wr.ranges prog 78 (qR5 V) M W.heap.size nn D left cnt∧ks.length+cnt≤Maps.size D∧Come D left ks∧J ks wr)
  (fun _ wr=>wr.rangeLeft M W.heap.size)
 case atStart=>
  exact⟨_,_,[],hrg0,by simp,Come.start D,hJ [] W w0 none h0 hg0 (fun r e=>by cases e)⟩
 case round=>
  obtain⟨left,cnt,ks,hrg,hcs,hC,hJs⟩:=hrel
  gi_wp2_with (first
   | (gi_at_next;refine wpListIn_next_ranges _ rfl _ rfl 78 qN7 (qR5 V) (.int .u64) (fun v:Value=>v) (fun key kl hk=>by obtain⟨x,hx,_⟩:=Maps.keyOf_int_inv underlying78 hk;exact⟨x,hx⟩) (fun v y hv=>⟨v,rfl⟩) M W.heap.size nn _ _ _ rfl hrg ?_ ?_)
   | gi_in)
  ·intro hc0 hl0
   gi_wp2
   go_end0
   exact⟨⟨_,rfl⟩,ks,⟨hC.has,fun kl hk=>(hC.all kl hk).resolve_left (by simp[hl0]),by omega⟩,hJs⟩
  ·intro x c kl yd yp w2 cnt2 hkey hlk hv hat hrg2 hlt hg2 hs2 hen;obtain⟨x',ex,rfl,_⟩:=Maps.keyOf_int_inv underlying78 hkey;cases ex;have hJ2:J ks w2:=hJ ks wr w2 (some W.heap.size) hJs hg2 (fun r e=>by cases e;exact⟨Nat.le_refl _,hrg.iter_walk⟩);obtain⟨fn,tmps,assign,body,hy,hR⟩:=hY ks x w2 hJ2 (by omega);clear hs2
   gi_wp2
   refine hR.mono ?_;rintro e W3 ⟨rfl,hJ3,hk3⟩
   gi_wp2
   have hrg3:=hrg2.of_walks hk3
   go_roundw
   case rel=>exact⟨_,cnt2,ks++[x],hrg3,by simp;omega,hC.step hlk hkey,hJ3⟩
   case measure=>rw[hrg3.left_eq,hrg.left_eq];exact hlt
end Go.Proofs.YtdohpenfkdckiaaGreatDoor
namespace Go.Proofs.YtdohpenfkdckiaaGreatDoor
open Go.Proofs.Tryz
open Go.RowKit
open Go.Maps (Keyed)
attribute [local go_sem] Oper.semAt_some
theorem Kp.ofGrown{a b:World}{row:Option Nat}(h:a.grownBy b row):Kp row.toList a b:=(Kp.refl _ _).grown h (fun k hk=>Or.inl (by rw[hk];simp))
theorem Kp.putO{S:List Nat}{a b:World}(h:Kp S a b){l:Nat}(hl:l∈S)(o:Obj):Kp S a (b.putObj l o):=
 ⟨h.os,h.tape,h.output,by have:=h.size;simp[World.putObj];omega,fun k hk hn=>(World.putObj_heap_other (by intro e;subst e;exact hn hl)).trans (h.block k hk hn)⟩
theorem jK8{nn:Nat}{g:Operand}{ps:Array Tmp}{assign body:Code}{Q:Exit→Act→World→Prop}{a:Act}{w:World}(gf:Nat)(lb:Array Value)(S:List Int→Prop)(N:Nat)(h1:1≤nn)
  (hg:a.eval g=.func (.func gf) #[] lb) (eg:∀ (args:Array Value) (W:World),Sem.run prog (callFunc gf args) W=.ok (.enter gf args) W) (hps:ps.size=1) (hseq:SeqGives Fence.wide (nn-1) prog gf lb (.int .u64) S N w)
  (J:List Int→World→Prop)
  (hJK:∀ s W W' T,J s W→Kp T W W'→(∀ k∈T,w.heap.size≤k∧∀ c t fr,W.heap[k]?≠some (.cells c t fr))→J s W')
  (hJ0:∀ W,Kp [] w W→J [] W)
  (a₁:Int→Act)
  (hassign:∀ (l:Nat) (x:Int) (W:World) (K:Act→World→Prop),K (a₁ x) W→assign.wpIn (Fence.wide.inRound l) (nn-1-1) prog (Exit.then K (fun _ _ _=>False)) { tmps:=(ps.zip #[.int .u64 x]).foldl (fun t (p,v)=>t.setIfInBounds p v) a.tmps,defers:=[] } W)
  (hbody:∀ (l:Nat) (pre:List Int) (x:Int) (W:World),J pre W→pre.length<N→w.heap.size+2≤W.heap.size→
   body.wpIn (Fence.wide.inRound l) (nn-1-1) prog (fun e _ W3=>match e with
    | .normal=>J (pre++[x]) W3∧W.heap.size≤W3.heap.size∧∀ (k:Nat) (o:Obj),W.heap[k]?=some o→(∀ c t fr,o≠Obj.cells c t fr)→W3.heap[k]?=some o
    | _=>False) (a₁ x) W)
  (hdone:∀ (W:World) (ss:List Int),S ss→J ss W→W.heap[w.heap.size]?=some (.deferred (some []))→Q .normal { a with defers:={ target:=.collected w.heap.size,args:=#[] }::a.defers } W):
  (Code.rangeFunc g ps assign body).wpIn Fence.wide nn prog Q a w:=by
 refine wpIn_rangeFunc ?_;intro fn hfn;obtain⟨rec,hrec⟩:∃ rec:LoopState→Option Code→Loop,rec=fun st pe=>{ state:=st,pending:=pe,fn,tmps:=a.tmps,params:=ps,assign,body,defers:=w.heap.size }:=⟨_,rfl⟩;obtain⟨W1,hW1⟩:∃ W1,(w.alloc (.deferred (some []))).alloc (.loop (rec .ready none))=W1:=⟨_,rfl⟩;have hL1:W1.heap[w.heap.size+1]?=some (.loop (rec .ready none)):=by
  rw[←hW1];have:=World.alloc_heap_new (w.alloc (.deferred (some []))) (.loop (rec .ready none));rwa [World.size_alloc] at this
 have hD1:W1.heap[w.heap.size]?=some (.deferred (some [])):=by
  rw[←hW1];exact (Below.heap_alloc _ _ _ (by simp)).trans (World.alloc_heap_new w _)
 have hK1:Kp [] w W1:=by rw[←hW1];exact ((Kp.refl _ _).alloc _).alloc _
 have hB1:Below w.heap.size w W1:=by rw[←hW1];exact ((Below.refl _ w).alloc (Nat.le_refl _) _).alloc (by simp) _
 have hs1:W1.heap.size=w.heap.size+2:=by rw[←hW1];simp
 refine⟨w.heap.size+1,[{ target:=.collected w.heap.size,args:=#[] }],W1,{ target:=.fn (.func gf) lb,args:=#[.func (.yield (w.heap.size+1)) #[] #[]] },W1,gf,
  #[.func (.yield (w.heap.size+1)) #[] #[]]++lb,W1,?_,?_,?_,?_,fun h=>(by cases h),?_⟩
 ·rw[←hW1,hrec];exact run_enterLoop_outer _ _ _ _ _
 ·simp only[resolve,hg];simp[go_sem]
 ·intro f' hf';trivial
 ·simp[invoke,go_sem,eg]
 ·refine (hseq (w.heap.size+1) (fun ss W=>J ss W∧W.heap[w.heap.size+1]?=some (.loop (rec .ready none))∧W.heap[w.heap.size]?=some (.deferred (some []))) W1 hB1 ?_ ?_ ⟨hJ0 W1 hK1,hL1,hD1⟩).mono ?_
  ·rintro ss W W' row ⟨hJ,hL,hD⟩ hgr hrow;have hr2:∀ r,row=some r→∃ o:Obj,W.heap[r]?=some o∧o.isWalk=true:=fun r e=>(hrow r e).2;refine⟨hJK ss W W' _ hJ (Kp.ofGrown hgr) (fun k hk=>?_),(grownBy_keeps hgr hr2 hL rfl).trans hL,(grownBy_keeps hgr hr2 hD rfl).trans hD⟩;obtain⟨h3,o,h4,h5⟩:=hrow k (by simpa using hk);exact⟨by omega,fun c t fr e=>by rw[h4] at e;cases e;cases h5⟩
  ·
   rintro pre x W ⟨hJ,hL,hD⟩ hpl;have hlt:w.heap.size+1<W.heap.size:=ζ hL;have hy:=run_yield (P:=prog) (args:=#[.int .u64 x]) hL (by rw[hrec];simp[hps]);rw[hrec] at hy;refine⟨fn,_,assign,body,hy,roundIn_of_wpIn hfn (hassign _ x W _ ?_)⟩;clear hy;refine⟨_,run_beginRound hL (by rw[hrec]),?_⟩;obtain⟨W3,hW3,hL3,hK3⟩:∃ W3,W3=W.putObj (w.heap.size+1) (.loop { rec .ready none with state:=.busy })∧W3.heap[w.heap.size+1]?=some (.loop { rec .ready none with state:=.busy })∧Kp [w.heap.size+1] W W3:=
    ⟨_,rfl,World.putObj_heap_same (ζ hL),(Kp.refl _ _).putO (by simp) _⟩
   have hk3:KeepsWalks W W3:=by rw[hW3];exact KeepsWalks.putObj _ hL rfl
   rw[←hW3];clear hW3;have hJ3:J pre W3:=hJK _ _ _ _ hJ hK3 (fun k hk=>by rw[List.mem_singleton.1 hk];exact⟨by omega,fun c t fr e=>by rw[hL] at e;cases e⟩);have hD3:=hK3.hp hD;refine wpIn_mono (hbody _ pre x W3 hJ3 hpl (by have:=hK3.size;omega)) ?_;rintro e a3 W4 hp
   cases e with
   | normal=>
    obtain⟨hJ4,hs4,hk4⟩:=hp;have hb1:=hk4 _ _ hL3 (fun c t fr e=>by cases e);have hb2:=hk4 _ _ hD3 (fun c t fr e=>by cases e);have hr:=run_endRound (P:=prog) none hb1;rw[hrec] at hr;refine⟨_,_,hr,rfl,?_⟩;have hKf:Kp [w.heap.size+1] W4 (W4.putObj (w.heap.size+1) (.loop (rec .ready none))):=(Kp.refl _ _).putO (by simp) _;have hfin:(J (pre++[x]) (W4.putObj (w.heap.size+1) (.loop (rec .ready none)))∧(W4.putObj (w.heap.size+1) (.loop (rec .ready none))).heap[w.heap.size+1]?=some (.loop (rec .ready none))∧(W4.putObj (w.heap.size+1) (.loop (rec .ready none))).heap[w.heap.size]?=some (.deferred (some [])))∧KeepsWalks W (W4.putObj (w.heap.size+1) (.loop (rec .ready none))):=
     ⟨⟨hJK _ _ _ _ hJ4 hKf (fun k hk=>by rw[List.mem_singleton.1 hk];exact⟨by omega,fun c t fr e=>by rw[hb1] at e;cases e⟩),World.putObj_heap_same (ζ hb1),hKf.hp hb2⟩,
      (hk3.trans ⟨hs4,fun k o hk ho=>hk4 k o hk (fun c t fr e=>by rw[e] at ho;cases ho)⟩).trans (KeepsWalks.putObj _ hb1 rfl)⟩
    rw[hrec] at hfin ⊢;exact hfin
   | ret=>exact hp.elim
   | exit i=>exact hp.elim
   | goto l=>exact hp.elim
   | panic ch=>exact hp.elim
   | outgrown=>exact hp.elim
  ·
   rintro e W2 ⟨⟨v,rfl⟩,ss,hS,hJ2,hL2,hD2⟩;have hr:=run_endLoop (P:=prog) hL2 (by rw[hrec];simp);rw[hrec] at hr;have hKf:Kp [w.heap.size+1] W2 (W2.putObj (w.heap.size+1) (.loop { rec .ready none with state:=.exhausted })):=(Kp.refl _ _).putO (by simp) _;refine⟨none,_,hr,?_⟩;have:=hdone (W2.putObj (w.heap.size+1) (.loop { rec .ready none with state:=.exhausted })) ss hS (hJK _ _ _ _ hJ2 hKf (fun k hk=>by rw[List.mem_singleton.1 hk];exact⟨by omega,fun c t fr e=>by rw[hL2] at e;cases e⟩)) (hKf.hp hD2);rw[hrec] at this;exact this
end Go.Proofs.YtdohpenfkdckiaaGreatDoor
namespace Go.Proofs.YtdohpenfkdckiaaGreatDoor
open Go.Proofs.Tryz
open Go.RowKit
open Go.Maps (Keyed)
attribute [local go_sem] Oper.semAt_some
theorem xN7:(prog.info? 78).map (fun i=>(i.zero,i.size,i.bytes))=some (some (.int .u64 0),1,8):=by kernel_rfl
def qK3(ks:List Int):List Value:=ks.map (.int .u64)
theorem xY2(w:World)(a:Value)(t:TypeId):∀ j u,[a][j]?=some u→(w.alloc (.cells #[a] t)).cell? ((⟨w.heap.size,0,none⟩:Addr).add j)=some u:=fun j u hj=>by
 rw[qL1,ξ (μ _ _)];simpa using hj
theorem xE5(args:Array Value)(W:World):Sem.run prog (callFunc 239 args) W=.ok (.enter 239 args) W:=by
 simp[go_sem,func239]
theorem xS4(n:Nat)(hn:1≤n)(Mx M V nn:Nat)(D:DataW Unit)(w:World)(hm:w.heap[Mx]?=some (.cells #[.map (some M)] 167))(hown:RM w V M nn D):
  SeqGives Fence.wide n prog 239 #[.pointer (some ⟨Mx,0,none⟩)] (.int .u64) (KeysU D) (Maps.size D) w:=fun l J W hW hJ hY h0=>by
 have hM':RM W V M nn D:=by
  have hbl:=hown.lt;obtain⟨es,clock,hb,Ft⟩:=hown;exact⟨es,clock,(hW.block M hbl).trans hb,Ft⟩
 have hm':W.heap[Mx]?=some (.cells #[.map (some M)] 167):=(hW.block Mx (ζ hm)).trans hm;exact xS3 n hn l Mx M V nn D J hY W hJ (by have:=ξ hm' 0;simpa using this) hM' h0
theorem zG7{w w':World}{S:List Nat}{base:Nat}{e:TypeId}{sz:Nat}{v:Value}{n:Nat}{xs:List Value}(h:w.ownsRow base e sz v n xs)(hK:Kp S w w')(hS:∀ k∈S,∀ c fr,w.heap[k]?≠some (.cells c e fr)):w'.ownsRow base e sz v n xs:=by
 refine⟨h.1,?_⟩;rcases h.2 with h1|⟨g,cap,cur,h1,h2,h3,h4⟩
 ·exact Or.inl h1
 ·exact Or.inr ⟨g,cap,cur,h1,h2,hK.heap h3 (fun hm=>hS g hm _ _ h3),h4⟩
theorem qL6{w:World}{base:Nat}{e:TypeId}{sz:Nat}{v:Value}{n:Nat}{xs:List Value}(h:w.ownsRow base e sz v n xs):∃ bs cp,v=.slice bs n cp:=by
 rcases h.2 with⟨h1,h2⟩|⟨g,cap,cur,h1,_⟩
 ·exact⟨none,0,by rw[h1,h2]⟩
 ·exact⟨_,cap,h1⟩
def zY9(B:Nat)(w0:World)(ks:List Int)(W:World):Prop:=∃ v,W.heap[B]?=some (.cells #[v] 252)∧W.ownsRow (B+1) 78 1 v ks.length (qK3 ks)∧Kp [B] w0 W
theorem xA7(gf:Nat)(lb:Array Value)(eg:∀ (args:Array Value) (W:World),Sem.run prog (callFunc gf args) W=.ok (.enter gf args) W)(S:List Int→Prop)(N:Nat)(hN:N≤1000)(w:World)(hseq:∀ W,Kp [] w W→SeqGives Fence.wide 8 prog gf lb (.int .u64) S N W):
  Calls prog 268 #[.slice none 0 0,.func (.func gf) #[] lb] w fun e w'=>∃ v ks,e=.returned v∧S ks∧w'.ownsRow w.heap.size 78 1 v ks.length (qK3 ks)∧Kp [] w w':=by
 obtain⟨i0,hi0,hz0,hz1,hz2⟩:=info_parts xN7;have HSEQ:=zh hseq;clear hseq;refine (callsIn_wide (n:=9)).1 ?_;refine callsIn_of_wp_marks func268 rfl trivial ?_ rfl;simp only[ntmps268,List.size_toArray,List.length_cons,List.length_nil,Nat.reduceAdd,Nat.reduceSub,Array.replicate_succ,Array.replicate_zero,List.push_toArray,List.append_toArray,List.nil_append,List.cons_append]
 gi_wp2_with fail
 obtain⟨w0,hw0,hB0,hK0,hs0⟩:∃ w0,w0=w.alloc (.cells #[.slice none 0 0] 252)∧w0.heap[w.heap.size]?=some (.cells #[.slice none 0 0] 252)∧Kp [] w w0∧w0.heap.size=w.heap.size+1:=⟨_,rfl,μ _ _,(Kp.refl _ _).alloc _,by simp⟩;rw[←hw0];clear hw0;refine jK8 gf lb S N (by decide) rfl eg rfl (HSEQ.out w0 hK0) (zY9 w.heap.size w0) ?JK ?J0 (fun x=>{ tmps:=#[.slice none 0 0,.func (.func gf) #[] lb,.pointer (some ⟨w.heap.size,0,none⟩),undef,.slice none 0 0,.int .u64 x,.func (.func gf) #[] lb,.int .u64 x,undef,undef,undef,undef,undef],defers:=[] }) ?assign ?body ?done
 case JK=>
  rintro s W W' T ⟨v,h1,h2,h3⟩ hK hT;exact⟨v,hK.heap h1 (fun hm=>(hT _ hm).2 _ _ _ h1),zG7 h2 hK (fun k hk c fr=>(hT k hk).2 c _ fr),h3.trans hK (fun i hi hlt=>absurd (hT i hi).1 (by omega))⟩
 case J0=>
  intro W hK;exact⟨_,hK.hp hB0,World.ownsRow_nil _ _ _ _,hK.mono (by simp)⟩
 case assign=>
  intro l x W K hK
  gi_wp2
  exact hK
 case body=>
  rintro l pre x W ⟨v,hB,hO,hKp⟩ hlen hsz;obtain⟨ob,oc,rfl⟩:=qL6 hO;have hBs:=ζ hB;have o0:=ξ hB 0;simp only[zG,zH,zI] at o0;have fo0:=ι hB 0;have HOO:Hid (W.heap[w.heap.size]?=some (.cells #[.slice ob pre.length oc] 252)∧W.ownsRow (w.heap.size+1) 78 1 (.slice ob pre.length oc) pre.length (qK3 pre)∧Kp [w.heap.size] w0 W):=⟨hB,hO,hKp⟩;have HNO:Hid ((Value.slice ob pre.length oc).ownBlock≠some w.heap.size):=fun e=>by
   have:=qH1 hO _ e;omega
  have hgrow:∀ {X:Obj} {w5:World},(W.alloc X).grownBy w5 (Value.slice ob pre.length oc).ownBlock→w5.heap[w.heap.size]?=some (.cells #[.slice ob pre.length oc] 252):=fun {X w5} hg=>(hg.block _ (by simp;omega) (fun e=>HNO.out e.symm)).trans (θ _ HOO.out.1);clear hB hO hKp
  gi_wp2_with (gi_at_builtin;refine wpListIn_append_own _ rfl _ _ 252 rfl (w.heap.size+1) 78 i0 (.int .u64 0) 1 8 underlying252 hi0 hz0 hz1 hz2 rfl (by decide) _ _ _ rfl (World.ownsRow.alloc HOO.out.2.1 _) ⟨W.heap.size,0,none⟩ 1 1 [.int .u64 x] rfl rfl (xY2 _ _ _) (by simp[Value.oneCell']) (by unfold maxLen;omega) (by omega) (by simp;omega) ?_;intro v5 w5 hO5 hg5 _;obtain⟨g5,c5,rfl⟩:=qI7 hO5;have hB5:=hgrow hg5;have o5:=ξ hB5 0;have fo5:=ι hB5 0;simp only[zG,zH] at o5)
  have hs5:=hg5.size;have hsW:(W.alloc (.cells #[.int .u64 x] 78)).heap.size=W.heap.size+1:=by simp
  have hKs:Kp [w.heap.size] w5 (w5.setCell ⟨w.heap.size,0,none⟩ (.slice (some ⟨g5,0,none⟩) (pre.length+1) c5)):=(Kp.refl _ _).sc _;have hown:∀ k,(Value.slice ob pre.length oc).ownBlock=some k→w.heap.size+1≤k:=fun k hk=>qH1 HOO.out.2.1 k hk;refine⟨⟨_,χ hB5 0 _,?_,?_⟩,?_,?_⟩
  ·have e:qK3 (pre++[x])=qK3 pre++[.int .u64 x]:=by simp[qK3]
   rw[e,List.length_append];exact zG7 hO5 hKs (fun k hk c fr e=>by rw[List.mem_singleton.1 hk,hB5] at e;cases e)
  ·exact (((HOO.out.2.2.alloc _).grown hg5 (fun k hk=>Or.inr (by have:=hown k hk;omega))).tr hKs)
  ·have:=hKs.size;omega
  ·intro k o hk hno;have hlt:=ζ hk;have hne:k≠w.heap.size:=fun e=>by
    rw[e,HOO.out.1] at hk;cases hk;exact hno _ _ _ _ rfl
   refine hKs.heap ((hg5.block k (by simp;omega) (fun e=>?_)).trans (θ _ hk)) (by simpa using hne);rcases HOO.out.2.1.2 with⟨h0,_⟩|⟨gb,cap,cur,e1,e2,e3,_⟩
   ·rw[h0] at e;cases e
   ·rw[e1] at e;cases e;rw[e3] at hk;cases hk;exact hno _ _ _ _ rfl
 case done=>
  rintro W ss hS ⟨v,hB,hO,hKp⟩ hD;obtain⟨ob,oc,rfl⟩:=qL6 hO;have hBs:=ζ hB;have o0:=ξ hB 0;simp only[zG,zH,zI] at o0;obtain⟨sl,hsl⟩:∃ sl,sl=ss.length:=⟨_,rfl⟩;rw[←hsl] at o0;have HOO:Hid (W.ownsRow (w.heap.size+1) 78 1 (.slice ob sl oc) ss.length (qK3 ss)∧Kp [w.heap.size] w0 W∧W.heap[w0.heap.size]?=some (.deferred (some []))):=⟨by rw[hsl];exact hO,hKp,hD⟩;clear hB hO hKp hD hsl
  gi_wp2
  obtain⟨hO,hKp,hD⟩:=HOO.out;refine⟨by simp,.inl ⟨_,_,rfl,run_takeDeferred hD,?_⟩⟩;have hKf:Kp [w0.heap.size] W (W.putObj w0.heap.size (.deferred none)):=(Kp.refl _ _).putO (by simp) _;exact⟨_,results_tmp rfl _ _ _,_,ss,rfl,hS,qH9 (zG7 hO hKf (fun k hk c fr e=>by rw[List.mem_singleton.1 hk,hD] at e;cases e)) (by omega),hK0.trans (hKp.tr hKf) (fun i hi hlt=>by simp at hi;omega)⟩
theorem xS5(M:Nat)(w:World):Calls prog 173 #[.map (some M)] w fun e w'=>e=.returned (.func (.func 239) #[] #[.pointer (some ⟨w.heap.size,0,none⟩)])∧w'=w.alloc (.cells #[.map (some M)] 167):=by
 have hmf:=zM;go_enter func173,ntmps173;go_wp2;go_ret;exact⟨rfl,rfl⟩
theorem xF0(Mx M V nn:Nat)(D:DataW Unit)(h4:Maps.size D≤4)(w:World)(hm:w.heap[Mx]?=some (.cells #[.map (some M)] 167))(hown:RM w V M nn D):
  Calls prog 237 #[.func (.func 239) #[] #[.pointer (some ⟨Mx,0,none⟩)]] w fun e w'=>∃ v ks,e=.returned v∧KeysU D ks∧w'.ownsRow w.heap.size 78 1 v ks.length (qK3 ks)∧Kp [] w w':=by
 have HC:Hid (Calls prog 268 #[.slice none 0 0,.func (.func 239) #[] #[.pointer (some ⟨Mx,0,none⟩)]] w fun e w'=>∃ v ks,e=.returned v∧KeysU D ks∧w'.ownsRow w.heap.size 78 1 v ks.length (qK3 ks)∧Kp [] w w'):=
  xA7 _ _ xE5 (KeysU D) (Maps.size D) (by omega) w (fun W hK=>xS4 8 (by decide) Mx M V nn D W (hK.hp hm) (hown.kp hK (by simp)))
 clear hm hown;go_enter func237,ntmps237;go_wp2_with fail;refine (show Calls _ _ _ _ _ from HC.out).mono ?_;rintro e w1 ⟨v,ks,rfl,h1,h2,h3⟩;have HE:Hid (KeysU D ks∧w1.ownsRow w.heap.size 78 1 v ks.length (qK3 ks)∧Kp [] w w1):=⟨h1,h2,h3⟩;clear h1 h2 h3;go_wp2;go_ret;exact⟨v,ks,rfl,HE.out⟩
end Go.Proofs.YtdohpenfkdckiaaGreatDoor
namespace Go.Proofs.YtdohpenfkdckiaaGreatDoor
open Go.Proofs.Tryz
open Go.RowKit
theorem xW3(x:Int)(w:World):Calls prog 296 #[.int .u64 x] w fun e w'=>e=.returned (.bool false)∧w'=w:=by
 go_enter func296,ntmps296;go_wp2;go_ret;exact⟨rfl,rfl⟩
theorem xU8(x y:Int)(w:World):Calls prog 283 #[.int .u64 x,.int .u64 y] w fun e w'=>e=.returned (.bool (decide (x<y)))∧w'=w:=by
 go_enter func283,ntmps283;go_wp2_with fail;refine (xW3 x w).mono ?_;rintro e w1 ⟨rfl,rfl⟩;go_wp2;go_ret;exact⟨rfl,rfl⟩
theorem xU7(x:Int)(h0:0≤x)(h1:x<12)(w:World):Calls prog 287 #[.int .u64 x] w fun e w'=>(∃ n,e=.returned (.int .i64 n))∧w'=w:=by
 have hc:x=0∨x=1∨x=2∨x=3∨x=4∨x=5∨x=6∨x=7∨x=8∨x=9∨x=10∨x=11:=by omega
 rcases hc with rfl|rfl|rfl|rfl|rfl|rfl|rfl|rfl|rfl|rfl|rfl|rfl <;>
 ·clear h0 h1;go_enter func287,ntmps287;go_wp2;go_ret;exact⟨⟨_,rfl⟩,rfl⟩
theorem zS8(x:Int)(h0:0≤x)(h1:x<12)(w:World):Calls prog 270 #[.int .u64 x] w fun e w'=>(∃ n,e=.returned (.int .i64 n))∧w'=w:=by
 go_enter func270,ntmps270;go_wp2_with fail;refine (xU7 x h0 h1 w).mono ?_;rintro e w1 ⟨⟨n,rfl⟩,rfl⟩;go_wp2;go_ret;exact⟨⟨_,rfl⟩,rfl⟩
def RowU(w:World)(g:Nat)(ks:List Int)(c:Nat):Prop:=∃ cur,w.heap[g]?=some (.cells cur 78)∧cur.size=c∧∀ i (h:i<ks.length),cur[i]?=some (.int .u64 ks[i])
def qO6(w:World)(g:Nat)(ks:List Int)(c:Nat)(W:World):Prop:=∃ ks',ks'.Perm ks∧RowU W g ks' c∧Kp [g] w W
theorem xP2(g cp:Nat)(ks:List Int)(w:World)(hr:RowU w g ks cp)(hn:ks.length≤cp)(h12:ks.length≤12):
  Calls prog 277 #[.slice (some ⟨g,0,none⟩) ks.length cp,.int .i64 0,.int .i64 ks.length] w fun e w'=>e=.returned (.tuple #[])∧qO6 w g ks cp w':=by
 obtain⟨ln,hln⟩:∃ ln,ln=ks.length:=⟨_,rfl⟩;rw[←hln];have HLN:=zh hln;have HR:=zh hr;rw[←hln] at hn h12;clear hln hr;go_enter func277,ntmps277;go_wp2_with fail
 go_loopw [6] (fun i wr=>∃ (j:Nat),1≤j∧j≤13∧i=.int .i64 j∧Hid (qO6 w g ks cp wr)) (fun i _=>(14-intOf i).toNat)
 case atStart=>exact⟨1,by omega,by omega,rfl,ks,List.Perm.refl _,HR.out,Kp.refl _ _⟩
 case round=>
  obtain⟨j,hj1,hj13,rfl,HSU⟩:=hrel;by_cases hlt:j<ln
  ·have hjb:(j:Int)<(ln:Int):=by omega
   go_wp2_with fail
   go_loopw [7] (fun i wr=>∃ (m:Nat),m≤j∧i=.int .i64 m∧Hid (qO6 w g ks cp wr)) (fun i _=>(intOf i).toNat)
   case atStart=>exact⟨j,Nat.le_refl _,rfl,HSU⟩
   case round=>
    obtain⟨m,hmj,rfl,HSV⟩:=hrel;by_cases hm:0<m
    ·have hd:decide ((0:Int)<(m:Int))=true:=by simp;omega
     obtain⟨ks',hp,⟨cur,hc,hsz,hcur⟩,hK⟩:=HSV.out;have hlk:=hp.length_eq;have hln:=HLN.out;have x1:=ξ hc m;rw[hcur m (by omega)] at x1;have x2:=ξ hc (m-1);rw[hcur (m-1) (by omega)] at x2;have hwr:wrap64 ((m:Int)-1)=((m-1:Nat):Int):=by simp only[wrap64];omega
     have HIN:Hid (w.heap.size≤w.heap.size∧wr.heap[g]?=some (.cells cur 78)):=⟨Nat.le_refl _,hc⟩;have f1:=ι hc m;have f2:=ι hc (m-1);have hgs:=ζ hc;obtain⟨A,hA⟩:∃ A,A=ks'[m]'(by omega):=⟨_,rfl⟩;obtain⟨B,hB⟩:∃ B,B=ks'[m-1]'(by omega):=⟨_,rfl⟩;rw[←hA] at x1;rw[←hB] at x2;have HAB:Hid (A=ks'[m]'(by omega)∧B=ks'[m-1]'(by omega)):=⟨hA,hB⟩;have HCU:=zh hcur;have HK:=zh hK;have HPP:=zh hp;clear hc hcur hK hA hB;go_wp2_with fail
     go_quiet (first | (go_at_call 283;refine Calls.quiet_of_same (xU8 _ _ _)))
     by_cases hAB:A<B
     ·go_wp2_with fail
      go_region
      all_goals go_wp2_with fail
      refine⟨⟨m-1,by omega,by congr 1;omega,?_⟩,by simp[intOf];omega⟩;refine⟨(ks'.set m B).set (m-1) A,?_,⟨(cur.setIfInBounds m (.int .u64 B)).setIfInBounds (m-1) (.int .u64 A),χ (χ (w:=wr.drewN (nq+1)) HIN.out.2 m (.int .u64 B)) (m-1) (.int .u64 A),by simp[hsz],?_⟩,?_⟩
      ·rw[HAB.out.1,HAB.out.2];exact (List.set_set_perm (by omega) (by omega)).trans HPP.out
      ·intro i hi;simp only[List.length_set] at hi;have h1:=HCU.out i hi;rw[Array.getElem?_setIfInBounds,Array.getElem?_setIfInBounds,List.getElem_set,List.getElem_set];by_cases e1:m-1=i
       ·subst e1;simp[hsz];omega
       ·by_cases e2:m=i
        ·subst e2;simp[hsz,e1];omega
        ·simp[e1,e2,h1]
      ·exact (((HK.out.drewN _).sc _).sc _)
     ·go_wp2_with fail;refine⟨⟨j+1,by omega,by omega,by go_num,?_⟩,by simp[intOf];omega⟩;exact⟨ks',HPP.out,⟨cur,HIN.out.2,hsz,HCU.out⟩,HK.out.drewN _⟩
    ·obtain rfl:m=0:=by omega
     have hd:decide ((0:Int)<((0:Nat):Int))=false:=by simp
     go_wp2_with fail
     go_quiet (fail)
     go_wp2_with fail;obtain⟨ks',hp,⟨cur,hc,hsz,hcur⟩,hK⟩:=HSV.out;refine⟨⟨j+1,by omega,by omega,by go_num,?_⟩,by simp[intOf];omega⟩;exact⟨ks',hp,⟨cur,hc,hsz,hcur⟩,hK.drewN _⟩
  ·have hjb:¬(j:Int)<(ln:Int):=by omega
   go_wp2
   go_end0
   exact⟨rfl,HSU.out⟩
theorem jD7(g cp:Nat)(ks:List Int)(lim:Int)(w:World)(hr:RowU w g ks cp)(hn:ks.length≤cp)(h12:ks.length≤12):
  Calls prog 269 #[.slice (some ⟨g,0,none⟩) ks.length cp,.int .i64 0,.int .i64 ks.length,.int .i64 lim] w fun e w'=>e=.returned (.tuple #[])∧qO6 w g ks cp w':=by
 obtain⟨ln,hln⟩:∃ ln,ln=ks.length:=⟨_,rfl⟩;have HC:Hid (Calls prog 277 #[.slice (some ⟨g,0,none⟩) ln cp,.int .i64 0,.int .i64 ln] w fun e w'=>e=.returned (.tuple #[])∧qO6 w g ks cp w'):=by rw[hln];exact xP2 g cp ks w hr hn h12
 rw[←hln];rw[←hln] at hn h12;clear hln hr;have hwr:wrap64 ((ln:Int)-0)=(ln:Int):=by simp only[wrap64];omega
 have hle:(ln:Int)≤12:=by omega
 go_enter func269,ntmps269;go_wp2_with fail
 go_loopw [1,2] (fun a b wr=>a=.int .i64 0∧b=.int .i64 ln∧wr=w) (fun _ _ _=>0)
 case atStart=>exact⟨rfl,rfl,rfl⟩
 case round=>
  obtain⟨rfl,rfl,rfl⟩:=hrel;go_wp2_with fail;refine (show Calls _ _ _ _ _ from HC.out).mono ?_;rintro e w1 ⟨rfl,hS⟩;have HS:=zh hS;clear hS;go_wp2;refine bodyPost_ret (results_none results269 _ _ _) rfl ?_;exact⟨rfl,HS.out⟩
theorem jG7(g cp:Nat)(ks:List Int)(w:World)(hr:RowU w g ks cp)(hn:ks.length≤cp)(h12:ks.length<12):
  Calls prog 238 #[.slice (some ⟨g,0,none⟩) ks.length cp] w fun e w'=>e=.returned (.tuple #[])∧qO6 w g ks cp w':=by
 obtain⟨ln,hln⟩:∃ ln,ln=ks.length:=⟨_,rfl⟩;have HC:Hid (∀ lim:Int,Calls prog 269 #[.slice (some ⟨g,0,none⟩) ln cp,.int .i64 0,.int .i64 ln,.int .i64 lim] w fun e w'=>e=.returned (.tuple #[])∧qO6 w g ks cp w'):=fun lim=>by rw[hln];exact jD7 g cp ks lim w hr hn (by omega)
 rw[←hln];rw[←hln] at hn h12;clear hln hr;have hcv:IntKind.u64.wrap (ln:Int)=(ln:Int):=by rw[IntKind.wrap_u64];omega
 go_enter func238,ntmps238;go_wp2_with fail;refine (zS8 (ln:Int) (by omega) (by omega) w).mono ?_;rintro e w1 ⟨⟨n,rfl⟩,rfl⟩;go_wp2_with fail;refine (show Calls _ _ _ _ _ from HC.out n).mono ?_;rintro e w2 ⟨rfl,hS⟩;have HS:=zh hS;clear hS;go_wp2
 go_end0
 exact⟨rfl,HS.out⟩
theorem jG6(w:World):Calls prog 238 #[.slice none 0 0] w fun e w'=>e=.returned (.tuple #[])∧w'=w:=by
 have hI:Hid (Calls prog 277 #[.slice none 0 0,.int .i64 0,.int .i64 0] w fun e w'=>e=.returned (.tuple #[])∧w'=w):=by
  show Calls _ _ _ _ _;go_enter func277,ntmps277;go_wp2_with fail
  go_loopw [6] (fun i wr=>i=.int .i64 1∧wr=w) (fun i _=>0)
  case atStart=>exact⟨rfl,rfl⟩
  case round=>
   obtain⟨rfl,rfl⟩:=hrel;go_wp2
   go_end0
   exact⟨rfl,rfl⟩
 have hP:Hid (∀ lim:Int,Calls prog 269 #[.slice none 0 0,.int .i64 0,.int .i64 0,.int .i64 lim] w fun e w'=>e=.returned (.tuple #[])∧w'=w):=by
  intro lim;go_enter func269,ntmps269;go_wp2_with fail
  go_loopw [1,2] (fun a b wr=>a=.int .i64 0∧b=.int .i64 0∧wr=w) (fun _ _ _=>0)
  case atStart=>exact⟨rfl,rfl,rfl⟩
  case round=>
   obtain⟨rfl,rfl,rfl⟩:=hrel;go_wp2_with fail;refine (show Calls _ _ _ _ _ from hI.out).mono ?_;rintro e w1 ⟨rfl,rfl⟩;go_wp2;refine bodyPost_ret (results_none results269 _ _ _) rfl ?_;exact⟨rfl,rfl⟩
 clear hI;go_enter func238,ntmps238;go_wp2_with fail;refine (zS8 0 (by omega) (by omega) w).mono ?_;rintro e w1 ⟨⟨n,rfl⟩,rfl⟩;go_wp2_with fail;refine (show Calls _ _ _ _ _ from hP.out n).mono ?_;rintro e w2 ⟨rfl,rfl⟩;go_wp2
 go_end0
 exact⟨rfl,rfl⟩
end Go.Proofs.YtdohpenfkdckiaaGreatDoor
namespace Go.Proofs.YtdohpenfkdckiaaGreatDoor
open Go.Proofs.Tryz
open Go.RowKit
open Go.Maps (Keyed)
theorem zD8:(prog.info? 89).map (fun i=>(i.zero,i.size,i.bytes))=some (some (.agg #[.pointer none,.string ⟨#[]⟩,.int .i64 0,.int .u64 0,.pointer none]),5,48):=by kernel_rfl
theorem jI8{V:Nat}{v:Value}{y:DataW Unit × List MemPlace}(h:qR5 V v=some y):∃ hl:HL,hl.p=none∧v=υ V hl∧y.1=qF5 hl:=by
 unfold qR5 at h;split at h
 ·rename_i c;split at h
  ·rename_i a k x z hc;split at h
   ·rename_i he;cases h;refine⟨⟨k,x,z,none⟩,rfl,?_,rfl⟩;have hc':c=#[.pointer (some a),.string k,.int .i64 x,.int .u64 z,.pointer none]:=by rw[←Array.toArray_toList (xs:=c),hc]
    have ha:a=⟨V,0,none⟩:=by cases a;simp at he ⊢;exact he
    rw[hc',ha];rfl
   ·cases h
  ·cases h
 ·cases h
theorem RM.look{w:World}{V M n:Nat}{D:DataW Unit}(h:RM w V M n D){x:Int}(hh:Maps.has D (qA6 x)=true)(hk:keyOf prog 78 (.int .u64 x)=some (qA6 x)):
  ∃ hl:HL,hl.p=none∧(Instr.lookup 167 (.map (some M)) (.int .u64 x) false).run prog w=.ok (υ V hl) w∧∀ zd,D.atKey (qA6 x) zd=qF5 hl:=by
 obtain⟨es,clock,hb,F,hs,rfl⟩:=h;rcases Maps.fit_look false qN7 qU3 (z:=.agg #[.pointer none,.string ⟨#[]⟩,.int .i64 0,.int .u64 0,.pointer none]) (w:=w) (by kernel_rfl) hb F hk with⟨_,hno,_⟩|⟨e0,y,_,_,hrun,hRv,hat,_⟩
 ·obtain⟨p,hp,hpk⟩:=List.any_eq_true.1 hh;obtain⟨e0,he,rfl⟩:=List.mem_map.1 (Go.mem_sorted.1 hp);obtain⟨y,hy⟩:=F.reads e0 he;have m1:=WideElems.rd_key hy;have e1:=WideAt.sameKey_eq hpk;rw[WideElems.rg_of hy] at e1;rw[e1] at m1;exact absurd (qN7.inj m1 hk) (hno e0 he)
 ·obtain⟨hl,h1,h2,h3⟩:=jI8 hRv;exact⟨hl,h1,by rw[hrun,h2];rfl,fun zd=>by rw[hat zd,h3]⟩
theorem RowU.of{w:World}{base g cap:Nat}{cur:Array Value}{ks:List Int}(h3:w.heap[g]?=some (.cells cur 78))(hs:cur.size=cap*1)(ht:cur.toList.take (ks.length*1)=qK3 ks):RowU w g ks cap:=by
 refine⟨cur,h3,by omega,fun i hi=>?_⟩;have h1:(qK3 ks)[i]?=some (.int .u64 ks[i]):=by simp[qK3,hi]
 rw[←ht,List.getElem?_take_of_lt (by omega),Array.getElem?_toList] at h1;exact h1
def zZ1(B:Nat)(D:DataW Unit)(v:Value)(ks:List Int)(w:World):Prop:=KeysU D ks∧((v=.slice none 0 0∧ks=[])∨∃ g cap,v=.slice (some ⟨g,0,none⟩) ks.length cap∧B≤g∧ks.length≤cap∧RowU w g ks cap)
theorem KeysU.perm{D:DataW Unit}{ks ks':List Int}(h:KeysU D ks)(hp:ks'.Perm ks):KeysU D ks':=
 ⟨fun x hx=>h.1 x (hp.mem_iff.1 hx),fun kl hk=>by obtain⟨x,hx,e⟩:=h.2.1 kl hk;exact⟨x,hp.mem_iff.2 hx,e⟩,by rw[hp.length_eq];exact h.2.2⟩
theorem jG8(Mx M V nn:Nat)(D:DataW Unit)(h4:Maps.size D≤4)(w:World)(hm:w.heap[Mx]?=some (.cells #[.map (some M)] 167))(hown:RM w V M nn D):
  Calls prog 172 #[.func (.func 239) #[] #[.pointer (some ⟨Mx,0,none⟩)]] w fun e w'=>∃ v ks,e=.returned v∧zZ1 w.heap.size D v ks w'∧Kp [] w w':=by
 have HC:Hid (Calls prog 237 #[.func (.func 239) #[] #[.pointer (some ⟨Mx,0,none⟩)]] w fun e w'=>∃ v ks,e=.returned v∧KeysU D ks∧w'.ownsRow w.heap.size 78 1 v ks.length (qK3 ks)∧Kp [] w w'):=xF0 Mx M V nn D h4 w hm hown;clear hm hown;go_enter func172,ntmps172;go_wp2_with fail;refine (show Calls _ _ _ _ _ from HC.out).mono ?_;rintro e w1 ⟨v,ks,rfl,h1,h2,h3⟩;have HK:Hid (KeysU D ks∧Kp [] w w1):=⟨h1,h3⟩;rcases h2.2 with⟨rfl,h0⟩|⟨g,cap,cur,rfl,hbase,hgb,hr1,hr2,hr3,hr4⟩
 ·have hks:ks=[]:=List.eq_nil_of_length_eq_zero h0;clear h1 h2 h3 h0;go_wp2_with fail;refine (jG6 w1).mono ?_;rintro e w2 ⟨rfl,rfl⟩;go_wp2;go_ret;exact⟨_,ks,rfl,⟨HK.out.1,.inl ⟨rfl,hks⟩⟩,HK.out.2⟩
 ·have HS:Hid (Calls prog 238 #[.slice (some ⟨g,0,none⟩) ks.length cap] w1 fun e w'=>e=.returned (.tuple #[])∧qO6 w1 g ks cap w'):=jG7 g cap ks w1 (RowU.of (base:=0) hgb hr3 hr4) hr1 (by have:=h1.2.2;omega);obtain⟨ln,hln⟩:∃ ln,ln=ks.length:=⟨_,rfl⟩;rw[←hln] at HS ⊢;have HLN:Hid (ln=ks.length∧ks.length≤cap):=⟨hln,hr1⟩;clear h1 h2 h3 hgb hr1 hr2 hr3 hr4 hln HC;go_wp2_with fail;refine (show Calls _ _ _ _ _ from HS.out).mono ?_;rintro e w2 ⟨rfl,ks',hp,hR,hK2⟩;have HE:Hid (ks'.Perm ks∧RowU w2 g ks' cap∧Kp [g] w1 w2):=⟨hp,hR,hK2⟩;clear hp hR hK2;go_wp2;go_ret;obtain⟨hp,hR,hK2⟩:=HE.out;exact⟨.slice (some ⟨g,0,none⟩) ln cap,ks',rfl,⟨HK.out.1.perm hp,.inr ⟨g,cap,by rw[hp.length_eq,←HLN.out.1],hbase,by rw[hp.length_eq];exact HLN.out.2,hR⟩⟩,HK.out.2.trans hK2 (by simp;omega)⟩
structure ReadH(D:DataW Unit)(hs:List HL):Prop where
 len:hs.length≤Maps.size D
 are:∀ h∈hs,h.p=none∧∃ x,Maps.has D (qA6 x)=true∧∀ zd,D.atKey (qA6 x) zd=qF5 h
 all:∀ kl,Maps.has D kl=true→∃ h∈hs,h.p=none∧∀ zd,D.atKey kl zd=qF5 h
theorem zI4(V:Nat)(hs:List HL)(h:HL):qK2 V (hs++[h])=qK2 V hs++tcs V h:=by simp[qK2]
theorem jH2(St nn:Nat)(lk:Int)(s:Sto)(D:DataW Unit)(w:World)(hSt:w.heap[St]?=some (ρ lk s))(hM:RM w s.V s.M nn D)(h4:Maps.size D≤4):
  Calls prog 113 #[.pointer (some ⟨St,0,none⟩)] w fun e w'=>∃ v hs,e=.returned v∧w'.ownsRow w.heap.size 89 5 v hs.length (qK2 s.V hs)∧ReadH D hs∧Kp [] w w':=by
 obtain⟨i0,hi0,hz0,hz1,hz2⟩:=info_parts zD8;have hSs:=ζ hSt;have s10:=ξ hSt 10;simp only[ρ,zG,zH,zI] at s10;have HS:=zh hSt;have HM:=zh hM;clear hSt hM;go_enter func113,ntmps113;go_wp2_with fail;refine (xS5 s.M w).mono ?_;rintro e w1 ⟨rfl,hw1⟩;have hB1:w1.heap[w.heap.size]?=some (.cells #[.map (some s.M)] 167):=by rw[hw1];exact μ _ _
 have hK1:Kp [] w w1:=by rw[hw1];exact (Kp.refl _ _).alloc _
 clear hw1;go_wp2_with fail;refine (jG8 w.heap.size s.M s.V nn D h4 w1 hB1 (HM.out.kp hK1 (by simp))).mono ?_;rintro e w2 ⟨v,ks,rfl,⟨hku,hv⟩,hK2⟩;have HK2:Hid (Kp [] w w2):=hK1.tr hK2;have hs2:=HK2.out.size;have HKU:=zh hku;obtain⟨bs,cp,hvf⟩:∃ bs cp,v=.slice bs ks.length cp:=by
  rcases hv with⟨h1,h2⟩|⟨g,cap,h1,_⟩
  ·exact⟨none,0,by rw[h1,h2];rfl⟩
  ·exact⟨_,cap,h1⟩
 subst hvf;obtain⟨ln,hln⟩:∃ ln,ln=ks.length:=⟨_,rfl⟩;have HV:Hid (ln=ks.length∧((Value.slice bs ln cp=.slice none 0 0∧ks=[])∨∃ g cap,Value.slice bs ln cp=.slice (some ⟨g,0,none⟩) ln cap∧w1.heap.size≤g∧ks.length≤cap∧RowU w2 g ks cap)):=⟨hln,by rw[hln];exact hv⟩;rw[←hln];have hl4:ln≤4:=by have:=hku.2.2;omega
 clear hln hv hku hB1 hK1 hK2;go_wp2_with fail
 go_loopw [3,13] (fun lv i wr=>∃ (j:Nat) (hs:List HL),j≤ln∧i=.int .i64 j∧hs.length=j∧Hid (wr.ownsRow w2.heap.size 89 5 lv j (qK2 s.V hs))∧Hid (∀ q (h1:q<hs.length) (h2:q<ks.length),hs[q].p=none∧∀ zd,D.atKey (qA6 ks[q]) zd=qF5 hs[q])∧Hid (Kp [] w2 wr)) (fun _ i _=>ln-(intOf i).toNat)
 case atStart=>exact⟨0,[],Nat.zero_le _,rfl,rfl,World.ownsRow_nil _ _ _ _,fun q h1=>by simp at h1,Kp.refl _ _⟩
 case round=>
  obtain⟨j,hs,hjl,rfl,hhs,HO,HA,HK⟩:=hrel;by_cases hlt:j<ln
  ·have hjb:(j:Int)<(ln:Int):=by omega
   have hjk:j<ks.length:=by have:=HV.out.1;omega
   obtain⟨g,cap,hve,hgb,hcap,⟨cur,hc,hsz,hcur⟩⟩:∃ g cap,Value.slice bs ln cp=.slice (some ⟨g,0,none⟩) ln cap∧w1.heap.size≤g∧ks.length≤cap∧RowU w2 g ks cap:=by
    rcases HV.out.2 with⟨_,h2⟩|h
    ·rw[h2] at hjk;simp at hjk
    ·exact h
   cases hve;have x1:=ξ (HK.out.hp hc) j;rw[hcur j hjk] at x1;have hgs:=ζ (HK.out.hp hc);have hKw:Kp [] w wr:=HK2.out.tr HK.out;have hSr:=hKw.hp HS.out;have hSrs:=ζ hSr;have y10:=ξ hSr 10;simp only[ρ,zG,zH,zI] at y10;obtain⟨hl,hp,hrun,hat⟩:=(HM.out.kp hKw (by simp)).look (HKU.out.1 _ (List.getElem_mem hjk)).1 (HKU.out.1 _ (List.getElem_mem hjk)).2;have hptr:hl.ptr=none:=by simp[HL.ptr,hp]
   rw[υ,hptr] at hrun;have HAT:Hid (hl.p=none∧∀ zd,D.atKey (qA6 ks[j]) zd=qF5 hl):=⟨hp,hat⟩;have HKW:=zh hKw;obtain⟨kj,hkj⟩:∃ kj,kj=ks[j]:=⟨_,rfl⟩;rw[←hkj] at x1 hrun;clear hc hcur hSr hat hp hKw hkj;clear hSs s10
   go_wp2_with (at_builtin;refine wpList_append_own _ rfl _ _ 175 rfl w2.heap.size 89 i0 (.agg #[.pointer none,.string ⟨#[]⟩,.int .i64 0,.int .u64 0,.pointer none]) 5 48 underlying175 hi0 hz0 hz1 hz2 rfl (by decide) _ _ _ rfl (HO.out.alloc _) ⟨wr.heap.size,0,none⟩ 1 1 [.pointer (some ⟨s.V,0,none⟩),.string hl.key,.int .i64 hl.b,.int .u64 hl.s,.pointer none] rfl rfl ?_ (by simp[Value.oneCell']) (by unfold maxLen;omega) (by omega) (by have:=HK.out.size;simp;omega) ?_)
   ·intro q u hu;rw[qL1,ξ (μ _ _)];simpa using hu
   ·intro v1 w3 hown1 hgr1 _;have HO1:Hid (w3.ownsRow w2.heap.size 89 5 v1 (j+1) (qK2 s.V (hs++[hl]))):=by
     show World.ownsRow _ _ _ _ _ _ _;rw[zI4,tcs,hptr];exact hown1
    have HK1:Hid (Kp [] w2 w3):=(HK.out.alloc _).grown hgr1 (fun q hq=>Or.inr (by have:=qH1 HO.out q hq;omega));clear hown1 hgr1;go_wp2;refine⟨⟨j+1,hs++[hl],by omega,by go_num,by simp[hhs],HO1,fun q h1 h2=>?_,HK1⟩,by simp[intOf];omega⟩;by_cases hq:q<hs.length
    ·rw[List.getElem_append_left hq];exact HA.out q hq h2
    ·have e:q=j:=by simp at h1;omega
     subst e;rw[List.getElem_append_right (by omega)];simpa [hhs] using HAT.out
  ·have hjb:¬(j:Int)<(ln:Int):=by omega
   have hjn:j=ks.length:=by have:=HV.out.1;omega
   subst hjn;go_wp2;go_ret;refine⟨_,rfl,hs,by rw[hhs];exact qH9 HO.out hs2,⟨by rw[hhs];exact HKU.out.2.2,fun h hm=>?_,fun kl hk=>?_⟩,HK2.out.tr HK.out⟩
   ·obtain⟨q,hq,rfl⟩:=List.getElem_of_mem hm;have h1:=HA.out q hq (by omega);exact⟨h1.1,ks[q]'(by omega),(HKU.out.1 _ (List.getElem_mem (by omega))).1,h1.2⟩
   ·obtain⟨x,hx,rfl⟩:=HKU.out.2.1 kl hk;obtain⟨q,hq,rfl⟩:=List.getElem_of_mem hx;have h1:=HA.out q (by omega) hq;exact⟨hs[q]'(by omega),List.getElem_mem (by omega),h1.1,h1.2⟩
end Go.Proofs.YtdohpenfkdckiaaGreatDoor
namespace Go.Proofs.YtdohpenfkdckiaaGreatDoor
open Go.Proofs.Tryz
open Go.RowKit
def Sto.cmt(s:Sto)(qb qs bl:Int):Sto:={ s with N:=s.N+1+1,rb:=qb,rs:=qs,bl:=bl }
def qC2:Root→List Nat→HL × List (Nat × List UInt8)
 | .none,_=>(⟨⟨#[]⟩,0,0,none⟩,[])
 | .at n L,fr=>(lhl (ψ n L fr).1,(ψ n L fr).2.1)
def qL4(s:Sto):HL:=⟨⟨#[]⟩,s.rb,s.rs,none⟩
def OkR:Root→Prop
 | .none=>True
 | .at n L=>OkL n L
theorem zE9{N:Nat}{rt:Root}{fr:List Nat}(ho:OkR rt)(hn:rt.news≤fr.length)(hf:∀ b∈fr,b<N):∀ x∈(qC2 rt fr).2,x.1<N∧x.2.length=128:=by
 cases rt with
 | none=>intro x hx;simp[qC2] at hx
 | «at» n L=>
  intro x hx;refine⟨hf x.1 ?_,zF2 n L fr ho x hx⟩;have h1:x.1∈((ψ n L fr).2.1).map Prod.fst:=List.mem_map_of_mem hx;rw[zF1 n L fr hn] at h1;exact List.mem_of_mem_take h1
theorem jE5(V A N C:Nat)(l:List UInt8)(wn:Int)(E:Env)(hO:∀ (n b:Nat) (s:Int) (t:Tn n),E.O n b s t→b≤1000000∧0≤s)(hVA:V≠A)(hAC:C≠A)(hVC:V≠C)(hN:N≤1000)(hs:N*128≤l.length)(rt:Root)(h:HL)(fr:List Nat)(v:Value)(w:World)(hd:Devl V A N C l wn w)(hr:RR E w h rt)(ho:OkR rt)(hn:rt.news≤fr.length)(hf:∀ b∈fr,b<N)(hl:fr.length≤10000)(hv:Slc w 3 1 v fr.length (ints fr)):
  Calls prog 115 #[υ V h,v] w fun e w'=>e=.returned (.agg #[.int .i64 (qC2 rt fr).1.b,.int .u64 (qC2 rt fr).1.s])∧Devl V A N C (laidAll l (qC2 rt fr).2) (nk wn (qC2 rt fr).2.length) w'∧Kp [A,C] w w':=by
 cases rt with
 | none=>
  have hh:h=⟨⟨#[]⟩,0,0,none⟩:=hr;subst hh;exact jI2 V A N C l wn hVA hAC hVC hN hs fr v w hd hv
 | «at» n L=>
  exact jI3 V A N C l wn E.O hO hVA hAC hVC hN hs n h L fr v w hd hr ho hn hf hl hv (zE9 (rt:=.at n L) ho hn hf)
theorem xX8{w:World}{a b:Nat}{c d:Array Value}{fr gr:Nat × Nat}(ha:w.heap[a]?=some (.cells c 169 fr))(hb:w.heap[b]?=some (.cells d 115 gr)):a≠b:=fun e=>by
 subst e;rw[ha] at hb;simp at hb
theorem xF2(St A N C:Nat)(s:Sto)(h:HL)(rt nw:Root)(l:List UInt8)(wr:Int)(P:List HL→List Root→Prop)(w:World)(hN2:2≤N)(hN:N≤1000)(hl:N*128≤l.length)(hAC:C≠A)(hVA:s.V≠A)(hVC:s.V≠C)
  (hSt:w.heap[St]?=some (ρ 1 s)) (hd:Devl s.V A N C l wr w) (hr:RR (EL s.V A N C l wr hN hl hAC hVA).toEnv w h rt) (hkt:∀ n l,rt=.at n l→l.key=⟨#[]⟩) (hg:RGood rt) (hsz:rt.cont.length≤1000000) (hok:OkR rt)
  (hnow:RR (EL s.V A N C l wr hN hl hAC hVA).toEnv w ⟨⟨#[]⟩,s.rb,s.rs,none⟩ nw) (hkn:∀ n l,nw=.at n l→l.key=⟨#[]⟩) (hN0:0≤s.N) (hN1:s.N≤999999999) (hb0:0≤s.rb) (hb1:s.rb≤1000) (hs0:0≤s.rs)
  (heq:∀ W:World,Sem.run prog (Op.equalIn 10000 89 (υ s.V h) (υ s.V ⟨⟨#[]⟩,s.rb,s.rs,none⟩)) W=.ok false W)
  (hread:∀ W,Kp [] w W→Calls prog 113 #[.pointer (some ⟨St,0,none⟩)] W fun e w'=>∃ v hs rs,e=.returned v∧w'.ownsRow W.heap.size 89 5 v hs.length (qK2 s.V hs)∧P hs rs∧Kp [] W w')
  (hP:∀ hs rs,P hs rs→hs.length=rs.length∧hs.length≤4∧(∀ i (h1:i<hs.length) (h2:i<rs.length),RR (EL s.V A N C l wr hN hl hAC hVA).toEnv w hs[i] rs[i]∧(∀ n l,rs[i]=.at n l→l.key=⟨#[]⟩))∧qC6 rt+meas qC6 (rs++[nw])<1000000∧rt.news≤(qB8 N ((rs++[nw]).foldl qA4 (qA4 [] rt))).length∧0≤(qC2 rt (qB8 N ((rs++[nw]).foldl qA4 (qA4 [] rt)))).1.b∧(qC2 rt (qB8 N ((rs++[nw]).foldl qA4 (qA4 [] rt)))).1.b≤1000∧0≤(qC2 rt (qB8 N ((rs++[nw]).foldl qA4 (qA4 [] rt)))).1.s)
  (i j:Nat) (hi:(s.N+1) % 2=i) (hj:(s.N+1+1) % 2=j):
  Calls prog 70 #[.pointer (some ⟨St,0,none⟩),υ s.V h] w fun e w'=>e=.returned (.tuple #[])∧∃ hs rs fr,P hs rs∧fr=qB8 N ((rs++[nw]).foldl qA4 (qA4 [] rt))∧
   w'.heap[St]?=some (ρ 1 (s.cmt (qC2 rt fr).1.b (qC2 rt fr).1.s (((qA4 [] rt).length+rt.news:Nat):Int)))∧
   Devl s.V A N C (qC1 (laidAll (qC1 l i (qB5 (s.N+1) s.rb s.rs)) (qC2 rt fr).2) j (qB5 (s.N+1+1) (qC2 rt fr).1.b (qC2 rt fr).1.s)) (nx (nk (nx wr) (qC2 rt fr).2.length)) w'∧Kp [St,A,C] w w':=by
 have hSts:=ζ hSt;have HS:=zh hSt;have HD:=zh hd;have HR:=zh hr;have HNOW:=zh hnow;have HREAD:=zh hread;have HIJ:Hid ((s.N+1) % 2=(i:Int)∧(s.N+1+1) % 2=(j:Int)):=⟨hi,hj⟩;have HP:=zh hP;clear hSt hd hr hnow hread hi hj hP;rw[υ,show υ s.V ⟨⟨#[]⟩,s.rb,s.rs,none⟩=.agg #[.pointer (some ⟨s.V,0,none⟩),.string ⟨#[]⟩,.int .i64 s.rb,.int .u64 s.rs,.pointer none] from rfl] at heq;rw[υ];go_enter func70,ntmps70;go_wp2_with fail;obtain⟨w0,hw0,hT0,hK0,hs0'⟩:=qF0 w (.cells #[.pointer (some ⟨s.V,0,none⟩),.string h.key,.int .i64 h.b,.int .u64 h.s,.pointer h.ptr] 89);rw[←hw0];clear hw0;refine (qZ1 St 1 s w0 (hK0.hp HS.out)).mono ?_;rintro e w1 ⟨rfl,hK1⟩;rw[show υ s.V ⟨⟨#[]⟩,s.rb,s.rs,none⟩=.agg #[.pointer (some ⟨s.V,0,none⟩),.string ⟨#[]⟩,.int .i64 s.rb,.int .u64 s.rs,.pointer none] from rfl];have hT1:=hK1.hp hT0;have hT1s:=ζ hT1;have t:=ξ hT1;go_wp2_with fail;rename_i K0 hK0';obtain⟨w2,hw2,hN2',hK2,hs2⟩:=qF0 w1 (.cells #[.pointer (some ⟨s.V,0,none⟩),.string ⟨#[]⟩,.int .i64 s.rb,.int .u64 s.rs,.pointer none] 89);rw[←hw2];clear hw2 t;have hAs:A<w.heap.size:=by obtain⟨c,h⟩:=HD.out.hA;exact ζ h
 have hCs:=ζ HD.out.hC;have hVs:=ζ HD.out.hV;have hKd:Kp [] w w2.drew:=((hK0.tr hK1).tr hK2).drew;have hs1:=hK1.size;obtain⟨Nn,hNn⟩:∃ Nn,Nn=w1.heap.size:=⟨_,rfl⟩;rw[←hNn] at hN2' hs2 ⊢;have hSd:w2.drew.heap[w.heap.size]?=some (.cells #[.pointer (some ⟨s.V,0,none⟩),.string h.key,.int .i64 h.b,.int .u64 h.s,.pointer h.ptr] 89)∧w2.drew.heap[Nn]?=some (.cells #[.pointer (some ⟨s.V,0,none⟩),.string ⟨#[]⟩,.int .i64 s.rb,.int .u64 s.rs,.pointer none] 89):=⟨hK2.hp hT1,hN2'⟩;have hTN:w.heap.size<Nn:=by omega
 clear hN2' hT1 hT0 hK0 hK1 hK2 hT1s heq hNn;obtain⟨szv,hszv⟩:∃ szv:Int,szv=(((qA4 [] rt).length+rt.news:Nat):Int):=⟨_,rfl⟩;have HSZ:=zh hszv;clear hszv;refine zA1 (α:=Value→Nat→Nat→Nat→Nat→Value→Act) (R:=fun A0=>∀ v n d g c vf hs rs W,Hid (P hs rs∧Slc W 3 1 vf (qB8 N ((rs++[nw]).foldl qA4 (qA4 [] rt))).length (ints (qB8 N ((rs++[nw]).foldl qA4 (qA4 [] rt))))∧Devl s.V A N C l wr W∧Kp [A] w W∧W.heap[w.heap.size]?=some (.cells #[.pointer (some ⟨s.V,0,none⟩),.string h.key,.int .i64 h.b,.int .u64 h.s,.pointer h.ptr] 89))→K0 (A0 v n d g c vf) W) ?_;apply Exists.intro;apply And.intro
 rotate_left
 ·intro HREST;refine wp_region_held_drew (S:=fun W=>W.heap[w.heap.size]?=some (.cells #[.pointer (some ⟨s.V,0,none⟩),.string h.key,.int .i64 h.b,.int .u64 h.s,.pointer h.ptr] 89)∧W.heap[Nn]?=some (.cells #[.pointer (some ⟨s.V,0,none⟩),.string ⟨#[]⟩,.int .i64 s.rb,.int .u64 s.rs,.pointer none] 89)) (by kernel_rfl) hSd (fun _=>?_);refine zV 0 (.agg #[.pointer (some ⟨s.V,0,none⟩),.string h.key,.int .i64 h.b,.int .u64 h.s,.pointer h.ptr]) rfl (fun W hS=>by have a:=ξ hS.1;clear hS;go_simp) hSd ?_;refine zP 1 St 0 hSd ?_;refine zV 3 (.agg #[.pointer (some ⟨s.V,0,none⟩),.string ⟨#[]⟩,.int .i64 s.rb,.int .u64 s.rs,.pointer none]) rfl (fun W hS=>by have a:=ξ hS.2;clear hS;go_simp) hSd ?_;refine zr 2 4 (fun K hK=>?_) fun K hK=>?_
  ·skip
   go_simp;refine (show Calls _ _ _ _ _ from HREAD.out w2.drew hKd).mono ?_;rintro e w3 ⟨v,hs,rs,rfl,hown,hPr,hKr⟩;have hSr:=And.intro (hKr.hp hSd.1) (hKr.hp hSd.2);refine hK.out _ _ hSr (fun _=>?_);clear hK K
   try simp only[zZ]
   have how3:=qH9 hown (show Nn+1≤w2.drew.heap.size by show _≤w2.heap.size;omega);have hKw3:Kp [] w w3:=hKd.tr hKr;refine zq 4 fun K hK=>?_;go_simp;obtain⟨w4,hwb,hBb,hKb,hsb⟩:=qF0 w3 (.cells #[.pointer (some ⟨s.V,0,none⟩),.string ⟨#[]⟩,.int .i64 s.rb,.int .u64 s.rs,.pointer none] 89);rw[←hwb];clear hwb;obtain⟨d,hd⟩:∃ d,d=(w3).heap.size:=⟨_,rfl⟩
   try rw[←hd] at hBb ⊢
   clear hd;have hSb:=And.intro (hKb.hp hSr.1) (hKb.hp hSr.2);refine hK.out _ _ hSb (fun _=>?_);clear hK K
   try simp only[zZ]
   have hown4:=qF3 how3 hKb (Apt.nil _ _);have hKw4:Kp [] w w4:=hKw3.tr hKb;refine zq 5 fun K hK=>?_;obtain⟨hl1,hl2,hl3,hl4,hl5,_⟩:=HP.out hs rs hPr;obtain⟨n,hn⟩:∃ n,n=hs.length:=⟨_,rfl⟩;rw[←hn] at hown4;refine qK8 rfl rfl (.agg #[.pointer none,.string ⟨#[]⟩,.int .i64 0,.int .u64 0,.pointer none]) 5 48 underlying175 zD8 rfl (by decide) (Nn+1) v n _ (by simp[Act.eval]) hown4 d 0 1 1 #[.pointer (some ⟨s.V,0,none⟩),.string ⟨#[]⟩,.int .i64 s.rb,.int .u64 s.rs,.pointer none] 89 (0,0) (by simp[Act.eval]) hBb (by simp) (by simp[qA2,Value.oneCell']) (by omega) (by omega) (by have:=hKw4.size;have:=ζ hSb.2;omega) ?_;intro v5 w5 hown5 hgr5 _;obtain⟨g,c,rfl⟩:=qI7 (n:=n) hown5;have hKg:Kp v.ownBlock.toList w4 w5:=(Kp.refl _ _).grown hgr5 (fun k hk=>Or.inl (by simp[hk]));have hlo:∀ k,k<Nn+1→k ∉ v.ownBlock.toList:=fun k hk hm=>by
    have h1:=qP4 hown4 k (by simpa using hm);omega
   have hS5:=And.intro (hKg.heap hSb.1 (hlo _ (by omega))) (hKg.heap hSb.2 (hlo _ (by omega)));refine hK.out _ _ hS5 (fun _=>?_);clear hK K
   try simp only[zZ]
   have hKw5:Kp [] w w5:=hKw4.trans hKg (fun k hk hlt=>absurd hk (hlo k (by omega)));have hd5:Devl s.V A N C l wr w5:=(Env.To.of0 (E:=(EL s.V A N C l wr hN hl hAC hVA).toEnv) HD.out hKw5).dev;have hsl5:Slc w5 89 5 (.slice (some ⟨g,0,none⟩) (hs++[qL4 s]).length c) (hs++[qL4 s]).length (qK2 s.V (hs++[qL4 s])):=by
    have h:=qG6 hown5;rw[List.length_append,←hn,zI4];exact h
   refine zq 6 fun K hK=>?_;have HROOM:Hid (Calls prog 112 #[υ s.V h,.slice (some ⟨g,0,none⟩) (n+1) c] w5 fun e w'=>∃ vf,e=.returned (.tuple #[vf,.int .i64 szv])∧Slc w' 3 1 vf (qB8 N ((rs++[nw]).foldl qA4 (qA4 [] rt))).length (ints (qB8 N ((rs++[nw]).foldl qA4 (qA4 [] rt))))∧Devl s.V A N C l wr w'∧Kp [A] w5 w'):=by
    have h:=zW2 (EL s.V A N C l wr hN hl hAC hVA) (fun n b s t h=>by have:=Laid.at h;omega) A N h rt (.slice (some ⟨g,0,none⟩) (hs++[qL4 s]).length c) (hs++[qL4 s]) (rs++[nw]) w5 hd5 hsl5 (by simp[hl1]) (fun i h1 h2=>by
     by_cases hi:i<hs.length
     ·rw[List.getElem_append_left hi,List.getElem_append_left (by omega)];exact⟨RR.kp (hl3 i hi (by omega)).1 hKw5 (Apt.nil _ _),(hl3 i hi (by omega)).2⟩
     ·have e:i=hs.length:=by simp at h1;omega
      subst e;rw[List.getElem_append_right (by omega),List.getElem_append_right (by omega)];simp only[hl1,Nat.sub_self,zF];exact⟨RR.kp (h:=qL4 s) HNOW.out hKw5 (Apt.nil _ _),hkn⟩) (RR.kp HR.out hKw5 (Apt.nil _ _)) hkt hl4 (by simp;omega) (fun W hW=>hW.hV) hN2 hN (fun W hW hr=>qS7 _ rt h W hr hg hsz) (by have:=qX6 N ((rs++[nw]).foldl qA4 (qA4 [] rt));omega) hl5
    rw[List.length_append,←hn,←HSZ.out] at h;exact h
   clear hn hl1 hl2 hl3 hl4 hl5;rw[υ] at HROOM;go_simp;refine (show Calls _ _ _ _ _ from HROOM.out).mono ?_;rintro e w6 ⟨vf,rfl,hsf,hd6,hK6⟩;have hS6:=And.intro (hK6.ho hS5.1) (hK6.ho hS5.2);refine hK.out _ _ hS6 (fun _=>?_);clear hK K HROOM
   try simp only[zZ]
   refine zU 7 (.tuple #[vf,.int .i64 szv]) hS6 ?_;refine zU 8 vf hS6 ?_;refine zU 9 (.int .i64 szv) hS6 ?_;refine zU 10 vf hS6 ?_;refine zU 11 (.int .i64 szv) hS6 ?_;refine zd ?_;show K0 _ w6;exact HREST v n d g c vf hs rs w6 (Hid.mk' ⟨hPr,hsf,hd6,(hKw5.mono (by simp)).tr hK6,hS6.1⟩)
  ·skip
   go_simp;obtain⟨w3,hwb,hBb,hKb,hsb⟩:∃ w3,w3=(w2.alloc (.cells #[.pointer (some ⟨s.V,0,none⟩),.string ⟨#[]⟩,.int .i64 s.rb,.int .u64 s.rs,.pointer none] 89)).drew∧w3.heap[Nn+1]?=some (.cells #[.pointer (some ⟨s.V,0,none⟩),.string ⟨#[]⟩,.int .i64 s.rb,.int .u64 s.rs,.pointer none] 89)∧Kp [] w2.drew w3∧w3.heap.size=w2.heap.size+1:=⟨_,rfl,by rw[←hs2];exact μ w2 _,(by exact (Kp.refl [] w2.drew).alloc _),by simp⟩;rw[←hwb];clear hwb;obtain⟨d,hd⟩:∃ d,d=Nn+1:=⟨_,rfl⟩;rw[←hd] at hBb ⊢;clear hd;have hSb:=And.intro (hKb.hp hSd.1) (hKb.hp hSd.2);refine hK.out _ _ hSb (fun _=>?_);clear hK K
   try simp only[zZ]
   have hKw3:Kp [] w w3:=hKd.tr hKb;refine zq 2 fun K hK=>?_;have hS3:=hSb;have hB3:=hBb;clear hSb hBb;go_simp;refine (show Calls _ _ _ _ _ from HREAD.out w3 hKw3).mono ?_;rintro e w4 ⟨v,hs,rs,rfl,hown,hPr,hKr⟩;have hSr:=And.intro (hKr.hp hS3.1) (hKr.hp hS3.2);refine hK.out _ _ hSr (fun _=>?_);clear hK K
   try simp only[zZ]
   have hSb:=hSr;have hBb:=hKr.hp hB3;have hown4:=qH9 hown (show Nn+1≤w3.heap.size by have:=hKb.size;have e:w2.drew.heap.size=w2.heap.size:=rfl;omega);have hKw4:Kp [] w w4:=hKw3.tr hKr;refine zq 5 fun K hK=>?_;obtain⟨hl1,hl2,hl3,hl4,hl5,_⟩:=HP.out hs rs hPr;obtain⟨n,hn⟩:∃ n,n=hs.length:=⟨_,rfl⟩;rw[←hn] at hown4;refine qK8 rfl rfl (.agg #[.pointer none,.string ⟨#[]⟩,.int .i64 0,.int .u64 0,.pointer none]) 5 48 underlying175 zD8 rfl (by decide) (Nn+1) v n _ (by simp[Act.eval]) hown4 d 0 1 1 #[.pointer (some ⟨s.V,0,none⟩),.string ⟨#[]⟩,.int .i64 s.rb,.int .u64 s.rs,.pointer none] 89 (0,0) (by simp[Act.eval]) hBb (by simp) (by simp[qA2,Value.oneCell']) (by omega) (by omega) (by have:=hKw4.size;have:=ζ hSb.2;omega) ?_;intro v5 w5 hown5 hgr5 _;obtain⟨g,c,rfl⟩:=qI7 (n:=n) hown5;have hKg:Kp v.ownBlock.toList w4 w5:=(Kp.refl _ _).grown hgr5 (fun k hk=>Or.inl (by simp[hk]));have hlo:∀ k,k<Nn+1→k ∉ v.ownBlock.toList:=fun k hk hm=>by
    have h1:=qP4 hown4 k (by simpa using hm);omega
   have hS5:=And.intro (hKg.heap hSb.1 (hlo _ (by omega))) (hKg.heap hSb.2 (hlo _ (by omega)));refine hK.out _ _ hS5 (fun _=>?_);clear hK K
   try simp only[zZ]
   have hKw5:Kp [] w w5:=hKw4.trans hKg (fun k hk hlt=>absurd hk (hlo k (by omega)));have hd5:Devl s.V A N C l wr w5:=(Env.To.of0 (E:=(EL s.V A N C l wr hN hl hAC hVA).toEnv) HD.out hKw5).dev;have hsl5:Slc w5 89 5 (.slice (some ⟨g,0,none⟩) (hs++[qL4 s]).length c) (hs++[qL4 s]).length (qK2 s.V (hs++[qL4 s])):=by
    have h:=qG6 hown5;rw[List.length_append,←hn,zI4];exact h
   refine zq 6 fun K hK=>?_;have HROOM:Hid (Calls prog 112 #[υ s.V h,.slice (some ⟨g,0,none⟩) (n+1) c] w5 fun e w'=>∃ vf,e=.returned (.tuple #[vf,.int .i64 szv])∧Slc w' 3 1 vf (qB8 N ((rs++[nw]).foldl qA4 (qA4 [] rt))).length (ints (qB8 N ((rs++[nw]).foldl qA4 (qA4 [] rt))))∧Devl s.V A N C l wr w'∧Kp [A] w5 w'):=by
    have h:=zW2 (EL s.V A N C l wr hN hl hAC hVA) (fun n b s t h=>by have:=Laid.at h;omega) A N h rt (.slice (some ⟨g,0,none⟩) (hs++[qL4 s]).length c) (hs++[qL4 s]) (rs++[nw]) w5 hd5 hsl5 (by simp[hl1]) (fun i h1 h2=>by
     by_cases hi:i<hs.length
     ·rw[List.getElem_append_left hi,List.getElem_append_left (by omega)];exact⟨RR.kp (hl3 i hi (by omega)).1 hKw5 (Apt.nil _ _),(hl3 i hi (by omega)).2⟩
     ·have e:i=hs.length:=by simp at h1;omega
      subst e;rw[List.getElem_append_right (by omega),List.getElem_append_right (by omega)];simp only[hl1,Nat.sub_self,zF];exact⟨RR.kp (h:=qL4 s) HNOW.out hKw5 (Apt.nil _ _),hkn⟩) (RR.kp HR.out hKw5 (Apt.nil _ _)) hkt hl4 (by simp;omega) (fun W hW=>hW.hV) hN2 hN (fun W hW hr=>qS7 _ rt h W hr hg hsz) (by have:=qX6 N ((rs++[nw]).foldl qA4 (qA4 [] rt));omega) hl5
    rw[List.length_append,←hn,←HSZ.out] at h;exact h
   clear hn hl1 hl2 hl3 hl4 hl5;rw[υ] at HROOM;go_simp;refine (show Calls _ _ _ _ _ from HROOM.out).mono ?_;rintro e w6 ⟨vf,rfl,hsf,hd6,hK6⟩;have hS6:=And.intro (hK6.ho hS5.1) (hK6.ho hS5.2);refine hK.out _ _ hS6 (fun _=>?_);clear hK K HROOM
   try simp only[zZ]
   refine zU 7 (.tuple #[vf,.int .i64 szv]) hS6 ?_;refine zU 8 vf hS6 ?_;refine zU 9 (.int .i64 szv) hS6 ?_;refine zU 10 vf hS6 ?_;refine zU 11 (.int .i64 szv) hS6 ?_;refine zd ?_;show K0 _ w6;exact HREST v n d g c vf hs rs w6 (Hid.mk' ⟨hPr,hsf,hd6,(hKw5.mono (by simp)).tr hK6,hS6.1⟩)
 rintro v n d g c vf hs rs W HFR;refine hK0' _ _ ?_;clear hK0' K0 hSd hKd;obtain⟨hPr,hsf,hdW,hKW,hTW⟩:=HFR.out;obtain⟨_,_,_,_,q1,q2,q3,q4⟩:=HP.out hs rs hPr;obtain⟨fr,hfr⟩:∃ fr,fr=qB8 N ((rs++[nw]).foldl qA4 (qA4 [] rt)):=⟨_,rfl⟩;have hfo:=zD1 (N:=N) (ks:=(rs++[nw]).foldl qA4 (qA4 [] rt));have hfl:=qX6 N ((rs++[nw]).foldl qA4 (qA4 [] rt));rw[←hfr] at hsf q1 q2 q3 q4 hfo hfl;obtain⟨X,ws,hX⟩:∃ X ws,(X,ws)=qC2 rt fr:=⟨_,_,rfl⟩;rw[←hX] at q2 q3 q4;simp only at q2 q3 q4;have hAne:∀ k o,w.heap[k]?=some o→(∀ c,o≠φ (l.length / 128) N C (.slice none 0 0) c wr)→k≠A:=fun k o hk ho e=>by
  obtain⟨c,h⟩:=HD.out.hA;subst e;rw[h] at hk;cases hk;exact ho c rfl
 have hStA:St≠A:=hAne St _ HS.out (fun c e=>by simp[ρ,φ] at e);have hStC:St≠C:=xX8 HS.out HD.out.hC;have hSW:=hKW.heap HS.out (by simpa using hStA);have hsW:=hKW.size;have hTW':=hTW;have HFX:Hid (P hs rs∧fr=qB8 N ((rs++[nw]).foldl qA4 (qA4 [] rt))∧(X,ws)=qC2 rt fr):=⟨hPr,hfr,hX⟩;have HSF:=zh hsf;have hSWs:=ζ hSW;have HSW:=zh hSW;have y4:=ξ hSW 4;have y5:=ξ hSW 5;simp only[ρ,zG,zH,zI] at y4 y5;have HTW:=zh hTW;clear hPr hsf hTW hTW' hfr hX hSW hAne HFR;go_wp2_with fail;refine (zS7 St A N C s s.rb s.rs l wr W HSW.out hdW hN hN2 hl hAC hVA hVC hN0 (by omega) hb0 hb1 hs0 i HIJ.out.1).mono ?_;rintro e w7 ⟨rfl,hS7,hd7,hK7⟩;have hT7:=hK7.ho HTW.out;have hT7s:=ζ hT7;have t:=ξ hT7;have hsl7:=HSF.out.keep hK7 (fun k hk c ty fr e hm=>by
  rw[List.mem_singleton.1 hm] at e;simp only[List.mem_cons,List.not_mem_nil,or_false] at hk;rcases hk with rfl|rfl|rfl
  ·rw[HSW.out] at e;simp[ρ] at e
  ·obtain⟨c',h'⟩:=hdW.hA;rw[h'] at e;simp[φ] at e
  ·rw[hdW.hC] at e;simp at e)
 have hap7:Apt W [St,A,C] qF6:=(Apt.one HSW.out (by decide)).cons ((by obtain⟨c',h'⟩:=hdW.hA;exact Apt.one h' (by decide):Apt W [A] qF6).cons (Apt.one hdW.hC (by decide)));have hr7:=RR.kp (RR.kp HR.out hKW ((EL s.V A N C l wr hN hl hAC hVA).apt w HD.out)) hK7 hap7;have HS7:=zh hS7;have HK7:Hid (Kp [St,A,C] w w7):=(hKW.mono (by simp)).tr hK7;have hlen1:N*128≤(qC1 l i (qB5 (s.N+1) s.rb s.rs)).length:=qS9 l _ i N (qM2 _ _ _) hl (by have:=HIJ.out.1;omega);have HLAY:Hid (Calls prog 115 #[υ s.V h,vf] w7 fun e w'=>e=.returned (.agg #[.int .i64 X.b,.int .u64 X.s])∧Devl s.V A N C (laidAll (qC1 l i (qB5 (s.N+1) s.rb s.rs)) ws) (nk (nx wr) ws.length) w'∧Kp [A,C] w7 w'):=by
  have h:=jE5 s.V A N C (qC1 l i (qB5 (s.N+1) s.rb s.rs)) (nx wr) (EL s.V A N C l wr hN hl hAC hVA).toEnv (fun n b s t h=>by have:=Laid.at h;omega) hVA hAC hVC hN hlen1 rt h fr vf w7 hd7 hr7 hok q1 (fun b hb=>(hfo b hb).2.1) (by omega) hsl7;rw[←HFX.out.2.2] at h;exact h
 clear hS7 hd7 hK7 hsl7 hr7 hdW hKW hap7 y4 y5;rw[υ] at HLAY;go_wp2_with fail;refine (show Calls _ _ _ _ _ from HLAY.out).mono ?_;rintro e w8 ⟨rfl,hd8,hK8⟩;have hS8:=hK8.heap HS7.out (by simp[hStA,hStC]);have hlen2:N*128≤(laidAll (qC1 l i (qB5 (s.N+1) s.rb s.rs)) ws).length:=zE4 N ws _ hlen1 (by
  have h:=zE9 (N:=N) hok q1 (fun b hb=>(hfo b hb).2.1);rw[←HFX.out.2.2] at h;exact h)
 clear t hT7 HLAY;go_wp2_with fail;refine (zS7 St A N C (s.led s.rb s.rs) X.b X.s _ _ w8 hS8 hd8 hN hN2 hlen2 hAC hVA hVC (by show 0≤s.N+1;omega) (by show s.N+1≤1000000000;omega) q2 q3 q4 j HIJ.out.2).mono ?_;rintro e w9 ⟨rfl,hS9,hd9,hK9⟩;have HE:Hid (w9.heap[St]?=some (ρ 1 ((s.led s.rb s.rs).led X.b X.s))∧Devl s.V A N C (qC1 (laidAll (qC1 l i (qB5 (s.N+1) s.rb s.rs)) ws) j (qB5 (s.N+1+1) X.b X.s)) (nx (nk (nx wr) ws.length)) w9∧Kp [St,A,C] w w9):=⟨hS9,hd9,(HK7.out.trans hK8 (by simp +contextual)).tr hK9⟩;have hS9s:=ζ hS9;have y6:=ξ hS9 6;simp only[ρ,Sto.led,zG,zH,zI] at y6;have fy6:=ι hS9 6;clear hS9 hd9 hK9 hS8 hd8 hK8 hlen1 hlen2;go_wp2
 go_end0
 obtain⟨e1,e2,e3⟩:=HE.out;refine⟨rfl,hs,rs,fr,HFX.out.1,HFX.out.2.1,?_,?_,e3.trans ((Kp.refl [St] w9).sc _) (by simp)⟩
 ·rw[←HFX.out.2.2,←HSZ.out];exact χ e1 6 _
 ·rw[←HFX.out.2.2];have hKs:Kp [St] w9 (w9.setCell ⟨St,6,none⟩ (.int .i64 szv)):=(Kp.refl _ _).sc _;obtain⟨c9,h9⟩:=e2.hA;have hVSt:s.V≠St:=fun e=>by have h:=e2.hV;rw[e,e1] at h;simp[ρ,qB7] at h
  exact⟨hKs.heap e2.hV (by simpa using hVSt),⟨_,hKs.heap h9 (by simpa using hStA.symm)⟩,hKs.heap e2.hC (by simpa using hStC.symm)⟩
theorem zT6{α:Type}(f:α→Nat)(c:Nat):∀ (l:List α),(∀ x∈l,c≤f x)→c*l.length≤meas f l
 | [],_=>by simp[meas]
 | x::l,h=>by
  have h1:=h x (by simp);have h2:=zT6 f c l fun y hy=>h y (by simp[hy]);rw[qE3,List.length_cons,Nat.mul_succ];omega
theorem xJ5{α β:Type}(f:α→List β)(l:List α):(l.flatMap f).length=meas (fun x=>(f x).length) l:=by simp[meas,List.length_flatMap]
theorem zP3:∀ (n:Nat) (lo:ByteArray) (t:Tn n),Good n lo t→cnt n t*3 ^ n≤(cont n t).length
 | 0,lo,t,h=>by simp[cnt,cont]
 | n+1,lo,t,h=>by
  have h1:∀ x∈η t,3 ^ (n+1)≤(cont n x.sub).length:=fun x hx=>by
   have h2:=zP3 n x.key x.sub (h.all x hx).1;have h3:=(h.all x hx).2.1;have h4:3*3 ^ n≤cnt n x.sub*3 ^ n:=Nat.mul_le_mul_right _ h3;rw[Nat.pow_succ];omega
  have h5:=zT6 (fun x:Lnk (Tn n)=>(cont n x.sub).length) (3 ^ (n+1)) (η t) h1;have h6:(cont (n+1) t).length=meas (fun x:Lnk (Tn n)=>(cont n x.sub).length) (η t):=xJ5 (fun x:Lnk (Tn n)=>cont n x.sub) (η t);have h7:cnt (n+1) t=(η t).length:=rfl;rw[h6,h7,Nat.mul_comm];exact h5
theorem zW3{n:Nat}{l:Lnk (Tn n)}(h:RGood (.at n l))(hc:(cont n l.sub).length≤1400):n<6:=by
 obtain⟨_,h2,h3⟩:=h;have h1:=zP3 n _ _ h2;rcases Nat.lt_or_ge n 6 with hn|hn
 ·exact hn
 ·have h4:2≤cnt n l.sub:=by
    have:min n 1=1:=by omega
    omega
  have h5:3 ^ 6≤3 ^ n:=Nat.pow_le_pow_right (by omega) hn;have h6:2*3 ^ n≤cnt n l.sub*3 ^ n:=Nat.mul_le_mul_right _ h4;simp at h5;omega
theorem zP4:∀ (n:Nat) (L:Lnk (Tn n)),Good n L.key L.sub→L.key.size≤8→n<256→OkL n L
 | 0,L,h,hk,hn=>⟨hk,fun _=>by
   have h1:meas ν (prs L.sub)≤126:=h.fits;have h2:=qG0 ν (prs L.sub) fun x _=>by unfold ν;omega
   exact⟨fun p hp=>(h.all p hp).1,by omega,by omega⟩⟩
 | n+1,L,h,hk,hn=>⟨hk,fun _=>by
   have h1:meas qA0 (η L.sub)≤126:=h.fits;have h2:=qG0 qA0 (η L.sub) fun x _=>by unfold qA0;omega
   exact⟨hn,fun m hm=>zP4 n m (h.all m hm).1 (h.all m hm).2.2 (by omega),by omega,by omega⟩⟩
theorem zH4{r:Root}(h:RGood r)(hc:r.cont.length≤1400):OkR r:=by
 cases r with
 | none=>trivial
 | «at» n L=>
  have hn:=zW3 h hc;exact zP4 n L h.2.1 (by rw[h.1];decide) (by omega)
theorem zW1{N:Nat}{l:List UInt8}{w:World}:∀ (n:Nat) (h:HL) (L:Lnk (Tn n)),RL (Laid N l) n w h L→qJ7 N l n L
 | 0,h,L,hr=>fun x hx=>by
  have h2:=hr.2;rw[hx] at h2;exact h2.2.2.2
 | n+1,h,L,hr=>by
  refine⟨fun x hx=>?_,fun hn m hm=>?_⟩
  ·have h2:=hr.2;rw[hx] at h2;exact h2.2.2.2
  ·have h2:=hr.2;rw[hn] at h2;obtain⟨_,_,q,_,vl,_,hs,_,hb⟩:=h2;obtain⟨i,hi,rfl⟩:=List.getElem_of_mem hm;exact zW1 n (hs[i]'(by rw[hb.1];exact hi)) _ (hb.2 i (by rw[hb.1];exact hi) hi)
theorem jF1{V A N C:Nat}{l:List UInt8}{wr:Int}{hN:N≤1000}{hs:N*128≤l.length}{hAC:C≠A}{hVA:V≠A}{w:World}{h:HL}{r:Root}(hr:RR (EL V A N C l wr hN hs hAC hVA).toEnv w h r):qN3 N l r:=by
 cases r with
 | none=>trivial
 | «at» n L=>exact zW1 n h L hr
theorem zE8{X:Type}(f:Lnk X→List Nat→Lnk X × List (Nat × List UInt8) × List Nat)(R:Lnk X→Lnk X→Prop):∀ (ls:List (Lnk X)) (fr:List Nat),(∀ l∈ls,∀ fr,R l (f l fr).1)→Both R ls (qB0 f ls fr).1
 | [],fr,_=>⟨rfl,fun i h=>by simp at h⟩
 | l::ls,fr,h=>by
  obtain⟨h1,h2⟩:=zE8 f R ls (f l fr).2.2 fun x hx=>h x (by simp[hx]);refine⟨by simp[qB0,h1],fun i hi hi'=>?_⟩
  cases i with
  | zero=>exact h l (by simp) fr
  | succ i=>exact h2 i (by simpa using hi) (by simpa [qB0] using hi')
theorem zF3:∀ (n:Nat) (L:Lnk (Tn n)) (fr:List Nat),(ψ n L fr).1.key=L.key
 | 0,L,fr=>by unfold ψ;split<;>rfl
 | n+1,L,fr=>by unfold ψ;split<;>rfl
theorem zS0:∀ (n:Nat) (L:Lnk (Tn n)) (fr:List Nat),cnt n (ψ n L fr).1.sub=cnt n L.sub
 | 0,L,fr=>by unfold ψ;split<;>rfl
 | n+1,L,fr=>by
  unfold ψ;split
  ·rfl
  ·exact (zE8 (ψ n) (fun _ _=>True) (η L.sub) fr fun _ _ _=>trivial).1.symm
theorem zL3{α:Type}(f:α→Nat):∀ (a b:List α),Both (fun x y=>f x=f y) a b→meas f b=meas f a
 | [],[],_=>rfl
 | [],_::_,h=>by have:=h.1;simp at this
 | _::_,[],h=>by have:=h.1;simp at this
 | x::a,y::b,h=>by
  have h0:=h.2 0 (by simp) (by simp);simp only[zF] at h0;have h1:=zL3 f a b ⟨by simpa using h.1,fun i hi hi'=>by have h3:=h.2 (i+1) (by simp;exact hi) (by simp;exact hi');simp only[zE] at h3;exact h3⟩;rw[qE3,qE3,h0,h1]
theorem zS1:∀ (n:Nat) (L:Lnk (Tn n)) (fr:List Nat) (lo:ByteArray),Good n lo L.sub→Good n lo (ψ n L fr).1.sub
 | 0,L,fr,lo,h=>by unfold ψ;split<;>exact h
 | n+1,L,fr,lo,h=>by
  unfold ψ;split
  ·exact h
  ·have hB:=zE8 (ψ n) (fun a b=>b.key=a.key∧cnt n b.sub=cnt n a.sub∧cont n b.sub=cont n a.sub∧(Good n a.key a.sub→Good n a.key b.sub)) (η L.sub) fr fun l hl fr=>⟨zF3 n l fr,zS0 n l fr,zF0 n l fr,zS1 n l fr l.key⟩;have hlen:=hB.1;refine⟨?_,?_,?_,?_⟩
   ·intro l hl;have hl':(qB0 (ψ n) (η L.sub) fr).1.head?=some l:=hl
    cases hx:(qB0 (ψ n) (η L.sub) fr).1 with
    | nil=>rw[hx] at hl';cases hl'
    | cons y ys=>
     rw[hx] at hl' hB hlen;cases hl'
     cases hz:η L.sub with
     | nil=>rw[hz] at hlen;simp at hlen
     | cons z zs=>
      have h0:=hB.2 0 (by rw[hz];simp) (by simp);simp only[zF] at h0;rw[h0.1];have:=h.head z (by show (η L.sub).head?=some z;rw[hz];rfl);simp only[hz,zF];exact this
   ·intro l hl;obtain⟨i,hi,rfl⟩:=List.getElem_of_mem hl;have hi2:i<(η L.sub).length:=by rw[hlen];exact hi
    obtain⟨e1,e2,e3,e4⟩:=hB.2 i hi2 hi;have:=h.all _ (List.getElem_mem hi2);refine⟨?_,?_,?_⟩
    ·rw[e1];exact e4 this.1
    ·rw[e2];exact this.2.1
    ·rw[e1];exact this.2.2
   ·rw[List.pairwise_iff_getElem];intro i j hi hj hij;have hi2:i<(η L.sub).length:=by rw[hlen];exact hi
    have hj2:j<(η L.sub).length:=by rw[hlen];exact hj
    obtain⟨e1,e2,e3,e4⟩:=hB.2 i hi2 hi;obtain⟨f1,f2,f3,f4⟩:=hB.2 j hj2 hj;have:=(List.pairwise_iff_getElem.1 h.pair) i j hi2 hj2 hij;refine⟨?_,?_⟩
    ·rw[e1,f1];exact this.1
    ·rw[e3,f1];exact this.2
   ·have e:=zL3 qA0 (η L.sub) (qB0 (ψ n) (η L.sub) fr).1 ⟨hlen,fun i h1 h2=>by show 11+_=11+_;rw[(hB.2 i h1 h2).1]⟩;show meas qA0 (qB0 (ψ n) (η L.sub) fr).1≤126;rw[e];exact h.fits
theorem zI2{X:Type}(f:X→List Nat→List Nat)(g:X→Nat)(hf:∀ t ks,(f t ks).length+1≤ks.length+g t):∀ (ls:List (Lnk X)) (ks:List Nat),(ls.foldl (qG1 f) ks).length≤ks.length+meas (fun m=>g m.sub) ls
 | [],ks=>by simp[meas]
 | m::ls,ks=>by
  have h1:=zI2 f g hf ls (qG1 f ks m);have h2:(qG1 f ks m).length≤ks.length+g m.sub:=by
   unfold qG1;split
   ·have:=hf m.sub ks;omega
   ·rename_i x _;split
    ·omega
    ·have:=hf m.sub (x.1::ks);simp at this;omega
  rw[List.foldl_cons,qE3];omega
theorem zK8:∀ (n:Nat) (t:Tn n) (ks:List Nat),(qE7 n t ks).length+1≤ks.length+qB4 n t
 | 0,t,ks=>by simp[qE7,qB4]
 | n+1,t,ks=>by
  have h:=zI2 (qE7 n) (qB4 n) (zK8 n) (η t) ks;have e:qB4 (n+1) t=1+meas (fun m:Lnk (Tn n)=>qB4 n m.sub) (η t):=rfl;rw[e];simp only[qE7];omega
theorem zB4(ks:List Nat)(r:Root):(qA4 ks r).length≤ks.length+qC6 r:=by
 cases r with
 | none=>simp[qA4,qC6]
 | «at» n L=>
  have h:=zI2 (qE7 n) (qB4 n) (zK8 n) [L] ks;simpa [qA4,qC6,meas] using h
theorem zJ7:∀ (rs:List Root) (ks:List Nat),(rs.foldl qA4 ks).length≤ks.length+meas qC6 rs
 | [],ks=>by simp[meas]
 | r::rs,ks=>by
  have h1:=zJ7 rs (qA4 ks r);have h2:=zB4 ks r;rw[List.foldl_cons,qE3];omega
theorem zC6:∀ (a ks:List Nat),a.Nodup→a.length≤(a.filter (fun k=>decide (k ∉ ks))).length+ks.length
 | [],ks,_=>by simp
 | x::a,ks,h=>by
  obtain⟨hx,ha⟩:=List.nodup_cons.1 h;by_cases hm:x∈ks
  ·have ih:=zC6 a (ks.erase x) ha;have e:a.filter (fun k=>decide (k ∉ ks.erase x))=a.filter (fun k=>decide (k ∉ ks)):=List.filter_congr fun y hy=>by
    have hne:y≠x:=fun e=>hx (e ▸ hy);simp[List.mem_erase_of_ne hne]
   have e2:(x::a).filter (fun k=>decide (k ∉ ks))=a.filter (fun k=>decide (k ∉ ks)):=by rw[List.filter_cons_of_neg (by simp[hm])]
   have e3:=List.length_erase_of_mem hm;have e4:1≤ks.length:=List.length_pos_of_mem hm;rw[e] at ih;rw[e2,List.length_cons];omega
  ·have ih:=zC6 a ks ha;rw[List.filter_cons_of_pos (by simp[hm]),List.length_cons,List.length_cons];omega
theorem xK9(N:Nat)(ks:List Nat):N-2≤(qB8 N ks).length+ks.length:=by
 have h:=zC6 (List.range' 2 (N-2)) ks List.nodup_range';simpa [qB8] using h
theorem qU9{r:Root}(h:RGood r):2*qC6 r≤r.cont.length+1:=by
 cases r with
 | none=>simp[qC6]
 | «at» n l=>
  have h1:=qU7 n _ _ h.2.1;have h2:=h.2.2;show 2*qB4 n l.sub≤(cont n l.sub).length+1;omega
end Go.Proofs.YtdohpenfkdckiaaGreatDoor
