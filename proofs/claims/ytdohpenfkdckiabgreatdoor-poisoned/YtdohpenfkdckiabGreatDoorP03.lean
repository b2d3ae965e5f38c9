import Derived.Test.YtdohpenfkdckiabGreatDoorP02
import Derived.Defers
import Derived.Recover
import Derived.WalkSmall
import Derived.Carry
import Derived.LaidEql
import Derived.Stop.Asserts
import Derived.RowKitTokens
set_option linter.all false
set_option maxRecDepth 100000
set_option maxHeartbeats 20000000
namespace Go.Proofs.YtdohpenfkdckiabGreatDoor
open Go.Proofs.Tryz
open Go.RowKit
def qF0(N:Int):List UInt8:=toB (qE3 N 0 0)++List.replicate 96 0
def qH5:List UInt8:=List.replicate 128 0
theorem qJ1(xs:List Int):(toB xs).length=xs.length:=by simp[toB]
theorem qM2(a b:List Int):toB (a++b)=toB a++toB b:=by simp[toB]
theorem qP8(N:Int):(qF0 N).length=128:=by simp[qF0,qJ1,qV0]
theorem xY9(N:Int):(qF0 N).take 32=toB (qE3 N 0 0):=by
 have h:(toB (qE3 N 0 0)).length=32:=by rw[qJ1,qV0]
 rw[qF0,List.take_append_of_le_length (by omega),List.take_of_length_le (by omega)]
theorem zH5(N:Int):qF0 N=toB qH3++(toB (qB2 2 0)++(toB (qB2 8 N)++(toB (qB2 8 0)++(toB (qB2 8 (fnv (qL0 N 0 0)))++List.replicate 96 0)))):=by
 simp only[qF0,qE3]
 conv=>lhs;rw[qM2]
 simp only[qL0,qM2,List.append_assoc]
theorem qT6{α:Type}(a b c:List α)(k n:Nat)(hk:a.length=k)(hn:b.length=n):((a++(b++c)).drop k).take n=b:=by
 subst hk;subst hn;simp
theorem xZ1(N:Int)(h0:0≤N)(h1:N≤1000000000):qE6 (qE9 (((qF0 N).drop 8).take 8))=N:=by
 have e:((qF0 N).drop 8).take 8=toB (qB2 8 N):=by
  rw[zH5,←List.append_assoc (toB qH3)];exact qT6 _ _ _ 8 8 (by simp[qJ1,qG1,qH3]) (by simp[qJ1,qG1])
 rw[e,qP1 _ (qJ5 8 N),qN0 8 N (by decide) h0];have:(256:Int) ^ 8=18446744073709551616:=by decide
 omega
theorem xZ0(N:Int):qE6 (qE9 (((qF0 N).drop 6).take 2))=0:=by
 have e:((qF0 N).drop 6).take 2=toB (qB2 2 0):=by
  rw[zH5];exact qT6 _ _ _ 6 2 (by simp[qJ1,qH3]) (by simp[qJ1,qG1])
 rw[e,qP1 _ (qJ5 2 0),qN0 2 0 (by decide) (by decide) (by decide)]
theorem xZ2(N:Int):qE6 (qE9 (((qF0 N).drop 16).take 8))=0:=by
 have e:((qF0 N).drop 16).take 8=toB (qB2 8 0):=by
  rw[zH5,←List.append_assoc (toB qH3),←List.append_assoc (toB qH3++toB (qB2 2 0))];exact qT6 _ _ _ 16 8 (by simp[qJ1,qG1,qH3]) (by simp[qJ1,qG1])
 rw[e,qP1 _ (qJ5 8 0),qN0 8 0 (by decide) (by decide) (by decide)]
theorem kA2:qE6 (qE9 ((qH5.drop 8).take 8))=0:=by decide
theorem jZ9:qE6 (qE9 ((qH5.drop 6).take 2))=0:=by decide
theorem kA3:qE6 (qE9 ((qH5.drop 16).take 8))=0:=by decide
theorem kA0:(toB (qE3 0 0 0) == qH5.take 32)=false:=by
 have h:toB (qE3 0 0 0)=115::(toB (qE3 0 0 0)).tail:=by
  simp[qE3,qL0,qH3,toB]
 rw[h];simp[qH5,List.replicate]
structure Fresh(l:List UInt8):Prop where
 b0:χ l 0=qH5
 b1:χ l 1=qH5
structure Formatted(l:List UInt8)(N:Int):Prop where
 b0:χ l 0=qF0 N
 b1:χ l 1=qF0 (N-1)
 even:N % 2=0
 low:2≤N
 high:N≤1000000000
variable {κ:Nat}
theorem zW9(V A n C:Nat)(calls writes:Int)(i:Nat)(l:List UInt8)(w:World)(hV:w.heap[V]?=some (qC8 A n))(h:w.heap[A]?=some (qA8 κ n C (.slice none 0 0) calls writes))(h0:0≤calls)(h1:calls≤1000000000)
  (hi:i<n) (hn:n≤1000) (hC:w.heap[C]?=some (.cells (enc l) 87)) (hs:n*128≤l.length) (hAC:C≠A) (hVA:V≠A) (hb:χ l i=qH5):
  Calls prog 111 #[.pointer (some ⟨V,0,none⟩),.int .i64 i] w fun e w'=>e=.returned (.tuple #[.agg #[.int .u64 0,.int .i64 0,.int .u64 0],.bool false])∧
   w'.heap[A]?=some (qA8 κ n C (.slice none 0 0) (calls+1) writes)∧Kp [A] w w':=
 (zV0 V A n C calls writes i l 0 0 0 w hV h h0 h1 hi hn hC hs hAC hVA (by rw[hb];exact kA2) (by rw[hb];exact jZ9) (by rw[hb];exact kA3) (by decide) (by decide) (by decide) (by decide) false (by rw[hb,kA0];simp)).mono fun e w' hr=>⟨by simpa [qI0] using hr.1,hr.2⟩
theorem zV1(V A n C:Nat)(calls writes:Int)(i:Nat)(l:List UInt8)(N:Int)(w:World)(hV:w.heap[V]?=some (qC8 A n))(h:w.heap[A]?=some (qA8 κ n C (.slice none 0 0) calls writes))(h0:0≤calls)(h1:calls≤1000000000)
  (hi:i<n) (hn:n≤1000) (hC:w.heap[C]?=some (.cells (enc l) 87)) (hs:n*128≤l.length) (hAC:C≠A) (hVA:V≠A) (hb:χ l i=qF0 N) (hN:N % 2=i) (hN0:0≤N) (hN1:N≤1000000000):
  Calls prog 111 #[.pointer (some ⟨V,0,none⟩),.int .i64 i] w fun e w'=>e=.returned (.tuple #[.agg #[.int .u64 N,.int .i64 0,.int .u64 0],.bool true])∧
   w'.heap[A]?=some (qA8 κ n C (.slice none 0 0) (calls+1) writes)∧Kp [A] w w':=
 (zV0 V A n C calls writes i l N 0 0 w hV h h0 h1 hi hn hC hs hAC hVA (by rw[hb];exact xZ1 N hN0 hN1) (by rw[hb];exact xZ0 N) (by rw[hb];exact xZ2 N) hN0 (by decide) (by decide) (by decide) true (by rw[hb,xY9];simp[hN])).mono fun e w' hr=>⟨by simpa [qI0] using hr.1,hr.2⟩
theorem jJ0(V A n C:Nat)(calls writes:Int)(l:List UInt8)(w:World)(hV:w.heap[V]?=some (qC8 A n))(h:w.heap[A]?=some (qA8 κ n C (.slice none 0 0) calls writes))(h0:0≤calls)(h1:calls≤999999999)
  (hn2:8≤n) (hn:n≤1000) (hC:w.heap[C]?=some (.cells (enc l) 87)) (hs:n*128≤l.length) (hAC:C≠A) (hVA:V≠A) (hf:Fresh l):
  Calls prog 73 #[.pointer (some ⟨V,0,none⟩)] w fun e w'=>e=.returned (.tuple #[.agg #[.int .u64 0,.int .i64 0,.int .u64 0],.bool false])∧
   w'.heap[A]?=some (qA8 κ n C (.slice none 0 0) (calls+2) writes)∧Kp [A] w w':=by
 have hVs:=ζ hV;have hA:=ζ h;have hCs:=ζ hC;go_enter func73,ntmps73;go_wp2_with fail;refine (zW9 V A n C calls writes 0 l _ (θ _ hV) (θ _ h) h0 (by omega) (by omega) hn (θ _ hC) hs hAC hVA hf.b0).mono ?_;rintro e w1 ⟨rfl,hA1,hK1⟩;have hR1:=hK1.heap (μ w (.cells #[.int .u64 0,.int .i64 0,.int .u64 0] 116)) (by simp;omega);have hV1:=hK1.heap (θ _ hV) (by simp[hVA]);have hC1:=hK1.heap (θ _ hC) (by simp[hAC]);have hK1':Kp [A] w w1:=((Kp.refl _ _).alloc _).tr hK1;have hA1s:=ζ hA1;have hR1s:=ζ hR1;clear hK1;go_wp2_with fail;refine (zW9 V A n C (calls+1) writes 1 l _ (θ _ hV1) (θ _ hA1) (by omega) (by omega) (by omega) hn (θ _ hC1) hs hAC hVA hf.b1).mono ?_;rintro e w2 ⟨rfl,hA2,hK2⟩;have hR2:=hK2.heap (θ _ hR1) (by simp;omega);have hH2:=hK2.heap (μ w1 (.cells #[.int .u64 0,.int .i64 0,.int .u64 0] 116)) (by simp;omega);have hK2':Kp [A] w w2:=hK1'.trans (((Kp.refl [A] _).alloc _).tr hK2) (by simp);have hH2s:=ζ hH2;have hR2s:=ζ hR2;have hA2s:=ζ hA2;rw[show calls+1+1=calls+2 from by omega] at hA2;clear hK2 hK1' hR1 hV1 hC1 hA1;have r0:=ξ hR2 0;have r1:=ξ hR2 1;have r2:=ξ hR2 2;have s0:=ξ hH2 0;have s1:=ξ hH2 1;have s2:=ξ hH2 2;simp at r0 r1 r2 s0 s1 s2;have rf:=ψ hR2;go_wp2;have hfin:=θ (.cells #[.int .u64 0,.int .i64 0,.int .u64 0] 116) (φ (φ (φ hR2 0 (.int .u64 0)) 1 (.int .i64 0)) 2 (.int .u64 0));refine bodyPost_ret (qN3 results73 _ _ w.heap.size 116 _ _ _ rfl hfin underlying116 rfl (by kernel_rfl)) rfl ⟨rfl,?_,(((hK2'.sc _).sc _).sc _).alloc _⟩;exact θ _ ((qA9 (by omega) _ _).trans ((qA9 (by omega) _ _).trans ((qA9 (by omega) _ _).trans hA2)))
theorem xC0(V A n C:Nat)(calls writes:Int)(l:List UInt8)(N:Int)(w:World)(hV:w.heap[V]?=some (qC8 A n))(h:w.heap[A]?=some (qA8 κ n C (.slice none 0 0) calls writes))(h0:0≤calls)(h1:calls≤999999999)
  (hn2:8≤n) (hn:n≤1000) (hC:w.heap[C]?=some (.cells (enc l) 87)) (hs:n*128≤l.length) (hAC:C≠A) (hVA:V≠A) (hf:Formatted l N):
  Calls prog 73 #[.pointer (some ⟨V,0,none⟩)] w fun e w'=>e=.returned (.tuple #[.agg #[.int .u64 N,.int .i64 0,.int .u64 0],.bool true])∧
   w'.heap[A]?=some (qA8 κ n C (.slice none 0 0) (calls+2) writes)∧Kp [A] w w':=by
 have hVs:=ζ hV;have hA:=ζ h;have hCs:=ζ hC;have hNhi:=hf.high;have hNlo:=hf.low;have hodd:(N-1) % 2=((1:Nat):Int):=by have:=hf.even;omega
 have HO:=zh hodd;clear hodd;go_enter func73,ntmps73;go_wp2_with fail;refine (zV1 V A n C calls writes 0 l N _ (θ _ hV) (θ _ h) h0 (by omega) (by omega) hn (θ _ hC) hs hAC hVA hf.b0 hf.even (by omega) hNhi).mono ?_;rintro e w1 ⟨rfl,hA1,hK1⟩;have hR1:=hK1.heap (μ w (.cells #[.int .u64 0,.int .i64 0,.int .u64 0] 116)) (by simp;omega);have hV1:=hK1.heap (θ _ hV) (by simp[hVA]);have hC1:=hK1.heap (θ _ hC) (by simp[hAC]);have hK1':Kp [A] w w1:=((Kp.refl _ _).alloc _).tr hK1;have hA1s:=ζ hA1;have hR1s:=ζ hR1;clear hK1;go_wp2_with fail;refine (zV1 V A n C (calls+1) writes 1 l (N-1) _ (θ _ hV1) (θ _ hA1) (by omega) (by omega) (by omega) hn (θ _ hC1) hs hAC hVA hf.b1 HO.out (by omega) (by omega)).mono ?_;rintro e w2 ⟨rfl,hA2,hK2⟩;have hR2:=hK2.heap (θ _ hR1) (by simp;omega);have hH2:=hK2.heap (μ w1 (.cells #[.int .u64 N,.int .i64 0,.int .u64 0] 116)) (by simp;omega);have hK2':Kp [A] w w2:=hK1'.trans (((Kp.refl [A] _).alloc _).tr hK2) (by simp);have hH2s:=ζ hH2;have hR2s:=ζ hR2;have hA2s:=ζ hA2;rw[show calls+1+1=calls+2 from by omega] at hA2;clear hK2 hK1' hR1 hV1 hC1 hA1;have r0:=ξ hR2 0;have r1:=ξ hR2 1;have r2:=ξ hR2 2;have s0:=ξ hH2 0;have s1:=ξ hH2 1;have s2:=ξ hH2 2;simp at r0 r1 r2 s0 s1 s2;have rf:=ψ hR2;go_wp2_with fail;refine (jI7 (N-1) N 0 0 0 0 _ (by omega) (by omega) (by omega) hNhi).mono ?_;rintro e w3 ⟨rfl,hB3⟩;have hB3':=Kp.of_below hB3 (Nat.le_refl _);have hR3:=hB3'.heap (θ _ hR2) (by simp);have hA3:=hB3'.heap (θ _ hA2) (by simp);have hH3:=hB3'.heap (θ _ hH2) (by simp);have hK3:Kp [A] w w3:=(hK2'.alloc _).tr hB3';clear hB3 hB3' r0 r1 r2 s0 s1 s2 rf;have r0:=ξ hR3 0;have r1:=ξ hR3 1;have r2:=ξ hR3 2;have s0:=ξ hH3 0;have s1:=ξ hH3 1;have s2:=ξ hH3 2;simp at r0 r1 r2 s0 s1 s2;have rf:=ψ hR3;go_wp2;have hfin:=φ (φ (φ hR3 0 (.int .u64 N)) 1 (.int .i64 0)) 2 (.int .u64 0);refine bodyPost_ret (qN3 results73 _ _ w.heap.size 116 _ _ _ rfl hfin underlying116 rfl (by kernel_rfl)) rfl ⟨rfl,?_,((hK3.sc _).sc _).sc _⟩;exact (qA9 (by omega) _ _).trans ((qA9 (by omega) _ _).trans ((qA9 (by omega) _ _).trans hA3))
variable {κ:Nat}
theorem xH9:zeroCells223=enc qH5:=by
 have h:zeroCells223.toList=(enc qH5).toList:=by kernel_rfl
 have:=congrArg List.toArray h;simpa using this
def qB6(l:List UInt8)(i:Nat)(b:List UInt8):List UInt8:=l.take (i*128)++b++l.drop (i*128+b.length)
theorem zG4{P:Program}{a:Act}{w:World}{o:Oper}{s x:Operand}{t t' e:TypeId}(ho:o.op=.call { callee:=.builtin .copy,args:=#[s,x],argTypes:=#[t,t'] })(hu:P.underlying t=some (.slice e))(hs:(P.info? e).map (·.size)=some 1)
  (g o' dLen dCap b so sLen sCap n:Nat) (hd:a.eval s=.slice (some ⟨g,o',none⟩) dLen dCap) (hx:a.eval x=.slice (some ⟨b,so,none⟩) sLen sCap) (hn:n=Nat.min sLen dLen)
  {cur src:Array Value} {tg tb:TypeId} {fr:Nat × Nat} (hg:w.heap[g]?=some (.cells cur tg)) (hb:w.heap[b]?=some (.cells src tb fr)) (hfit:o'+n≤cur.size) (hin:so+n≤src.size)
  (h1:∀ v∈(qA1 src so n).toList,v.oneCell'=true):
  Sem.run P (execOp a.eval o) w=.ok (.value (.int .i64 n)) (w.setRow g (qD6 cur o' (qA1 src so n))):=by
 have hr:=qO5 (P:=P) (w:=w) o.type (t:=t) (t':=t') hu hs (dLen:=dLen) (dCap:=dCap) (sLen:=sLen) (sCap:=sCap) n hn hg hb hfit hin h1;unfold execOp;simp only[ho,resolve,invoke,builtin,Sem.run_bind,Sem.run_pure,Result.andThen_ok,List.map_toArray,List.map_cons,List.map_nil,hd,hx,hr]
theorem xA2(V A n C:Nat)(calls writes:Int)(i:Nat)(N:Int)(l:List UInt8)(w:World)(hV:w.heap[V]?=some (qC8 A n))(h:w.heap[A]?=some (qA8 κ n C (.slice none 0 0) calls writes))(h0:0≤calls)(h1:calls≤999999999)(h0w:0≤writes)(h1w:writes≤999999999)
  (hi:i<n) (hn:n≤1000) (hC:w.heap[C]?=some (.cells (enc l) 87)) (hs:n*128≤l.length) (hAC:C≠A) (hVA:V≠A) (hVC:V≠C) (hN:N % 2=i) (hN0:0≤N):
  Calls prog 100 #[.pointer (some ⟨V,0,none⟩),.agg #[.int .u64 N,.int .i64 0,.int .u64 0]] w fun e w'=>e=.returned (.tuple #[])∧
   w'.heap[A]?=some (qA8 κ n C (.slice none 0 0) (calls+2) (writes+1))∧w'.heap[C]?=some (.cells (enc (qB6 l i (qF0 N))) 87)∧Kp [A,C] w w':=by
 have hVs:=ζ hV;have hA:=ζ h;have hCs:=ζ hC;have HN:=zh hN;clear hN;go_enter func100,ntmps100;go_wp2_with fail;rw[xH9];obtain⟨W1,hW1,hK1,hA1,hC1,hV1,hH1,hG1,hsz⟩:∃ W1,W1=(w.alloc (.cells #[.int .u64 N,.int .i64 0,.int .u64 0] 116)).alloc (.cells (enc qH5) 223)∧Kp [A,C] w W1∧W1.heap[A]?=some (qA8 κ n C (.slice none 0 0) calls writes)∧W1.heap[C]?=some (.cells (enc l) 87)∧W1.heap[V]?=some (qC8 A n)∧
   W1.heap[w.heap.size]?=some (.cells #[.int .u64 N,.int .i64 0,.int .u64 0] 116)∧W1.heap[w.heap.size+1]?=some (.cells (enc qH5) 223)∧W1.heap.size=w.heap.size+2:=
  ⟨_,rfl,((Kp.refl _ _).alloc _).alloc _,θ _ (θ _ h),θ _ (θ _ hC),θ _ (θ _ hV),θ _ (μ _ _),by simpa using μ (w.alloc (.cells #[.int .u64 N,.int .i64 0,.int .u64 0] 116)) (.cells (enc qH5) 223),by simp⟩
 rw[←hW1];clear hW1;refine wp_region_any (by kernel_rfl) ?_;change wpAny _ _ _ _ _ _ _ (World.drew _);refine zu 0 (.slice (some ⟨w.heap.size+1,0,none⟩) 128 128) ?_;refine zQ 1 fun K hK=>?_;refine qJ0 rfl (qK7 (t:=116) rfl (by kernel_rfl) 3 (by kernel_rfl) w.heap.size rfl (show W1.drew.heap[w.heap.size]?=_ from hH1) rfl) ?_;refine hK _ _ ?_;clear hK K;simp only[zZ];refine zQ 2 fun K hK=>?_;go_simp;refine (zD1 N 0 0 _ hN0 (by decide) (by decide) (by decide)).mono ?_;rintro e w2 ⟨v2,rfl,hO2,hB2⟩;obtain⟨g2,cap2,cur2,rfl,hg2,hcs2,hp2⟩:=zC4 hO2;have hB2':Kp [] W1.drew w2:=Kp.of_below hB2 (Nat.le_refl _);have hA2:=hB2'.heap (k:=A) hA1 (by simp);have hC2:=hB2'.heap (k:=C) hC1 (by simp);have hV2:=hB2'.heap (k:=V) hV1 (by simp);have hH2:=hB2'.heap (k:=w.heap.size) hH1 (by simp);have hG2:=hB2'.heap (k:=w.heap.size+1) hG1 (by simp);have hK2:Kp [A,C] w w2:=(hK1.drew).tr hB2';have hs2:w.heap.size+2≤w2.heap.size:=by have:=hB2.size;simp at this;omega
 clear hB2 hB2' hA1 hC1 hV1 hH1 hG1 hK1 hO2;refine hK _ _ ?_;clear hK K
 try simp only[zZ]
 refine zQ 3 fun K hK=>?_;refine qJ0 rfl (zG4 rfl underlying90 Tryz.size5 (w.heap.size+1) 0 128 128 g2 0 32 cap2 32 rfl rfl (by decide) hG2 hg2 (by rw[qD2];decide) (by omega) (by rw[hp2];exact (qF9 _).one)) ?_;rw[hp2,qW7];have hblk:qH5.take 0++toB (qE3 N 0 0)++qH5.drop (0+(toB (qE3 N 0 0)).length)=qF0 N:=by
  rw[qJ1,qV0];simp[qF0,qH5]
 rw[hblk];obtain⟨W3,hW3,hK3,hA3,hC3,hV3,hH3,hG3⟩:∃ W3,W3=w2.setRow (w.heap.size+1) (enc (qF0 N))∧Kp [A,C] w W3∧W3.heap[A]?=some (qA8 κ n C (.slice none 0 0) calls writes)∧W3.heap[C]?=some (.cells (enc l) 87)∧W3.heap[V]?=some (qC8 A n)∧
   W3.heap[w.heap.size]?=some (.cells #[.int .u64 N,.int .i64 0,.int .u64 0] 116)∧W3.heap[w.heap.size+1]?=some (.cells (enc (qF0 N)) 223):=
  ⟨_,rfl,hK2.setRow (Or.inr (by omega)) _,(setRow_other _ _ _ _ (by omega)).trans hA2,(setRow_other _ _ _ _ (by omega)).trans hC2,(setRow_other _ _ _ _ (by omega)).trans hV2,(setRow_other _ _ _ _ (by omega)).trans hH2,setRow_heap _ _ _ _ _ _ hG2⟩
 rw[←hW3];clear hW3 hA2 hC2 hV2 hH2 hG2 hK2 hg2 hcs2 hp2 hblk;refine hK _ _ ?_;clear hK K;refine wpAny_done (by kernel_rfl) ?_ _;simp only[zZ];go_wp2_with fail;have hhl:=qP8 N;refine wp_region_held_drew (S:=fun W=>W.heap[w.heap.size]?=some (.cells #[.int .u64 N,.int .i64 0,.int .u64 0] 116)∧W.heap[w.heap.size+1]?=some (.cells (enc (qF0 N)) 223)) (by kernel_rfl) ⟨hH3,hG3⟩ (fun _=>?_);refine zV 0 (.pointer (some ⟨V,0,none⟩)) rfl (fun W hS=>rfl) ⟨hH3,hG3⟩ ?_;refine zV 1 (.agg #[.int .u64 N,.int .i64 0,.int .u64 0]) rfl (fun W hS=>qK7 (t:=116) rfl (by kernel_rfl) 3 (by kernel_rfl) w.heap.size rfl hS.1 rfl) ⟨hH3,hG3⟩ ?_;refine zV 3 (.agg (enc (qF0 N))) rfl (fun W hS=>qK7 (t:=223) rfl (by kernel_rfl) 128 (by kernel_rfl) (w.heap.size+1) rfl hS.2 (by rw[qD2,qP8])) ⟨hH3,hG3⟩ ?_;refine zq 2 fun K hK=>?_;go_simp;refine (qU8 N 0 0 _ hN0).mono ?_;rintro e w4 ⟨rfl,hB4⟩;rw[HN.out];have hB4':Kp [] W3.drew w4:=Kp.of_below hB4 (Nat.le_refl _);have hA4:=hB4'.heap (k:=A) hA3 (by simp);have hC4:=hB4'.heap (k:=C) hC3 (by simp);have hV4:=hB4'.heap (k:=V) hV3 (by simp);have hH4:=hB4'.heap (k:=w.heap.size) hH3 (by simp);have hG4:=hB4'.heap (k:=w.heap.size+1) hG3 (by simp);have hK4:Kp [A,C] w w4:=(hK3.drew).tr hB4';clear hB4 hB4' hA3 hC3 hV3 hH3 hG3 hK3;refine hK.out _ _ ⟨hH4,hG4⟩ (fun _=>?_);clear hK K
 try simp only[zZ]
 refine zq 4 fun K hK=>?_;go_simp;refine (jS2 V A n C calls writes i (qF0 N) _ hV4 hA4 h0 (by omega) h0w (by omega) hi hn hhl hVA).mono ?_;rintro e w5 ⟨rfl,v5,hv5,hA5,hK5⟩;have hC5:=hK5.heap (k:=C) hC4 (by simp[hAC]);have hV5:=hK5.heap (k:=V) hV4 (by simp[hVA]);have hH5:=hK5.heap (k:=w.heap.size) hH4 (by simp;omega);have hG5:=hK5.heap (k:=w.heap.size+1) hG4 (by simp;omega);have hK5':Kp [A,C] w w5:=hK4.trans hK5 (by simp +contextual);clear hK5 hK4 hA4 hC4 hV4 hH4 hG4;refine hK.out _ _ ⟨hH5,hG5⟩ (fun _=>?_);clear hK K;refine zd ?_
 try simp only[zZ]
 clear hH5 hG5;go_wp2_with fail;refine (jT2 V A n C v5 (calls+1) (writes+1) i (enc (qF0 N)) (enc l) _ hV5 hA5 (by omega) (by omega) hv5 hi hn hC5 (by rw[qD2];exact hs) hAC).mono ?_;rintro e w6 ⟨rfl,hA6,hC6,hK6⟩;rw[show calls+1+1=calls+2 from by omega] at hA6;rw[qW7] at hC6;go_wp2
 go_end0
 exact⟨rfl,hA6,hC6,hK5'.tr hK6⟩
variable {κ:Nat}
theorem zT3(p:Addr)(w:World):
  CallsD prog 150 #[.pointer (some p)] .returning w fun e u' w'=>e=.returned (.tuple #[])∧u'=.returning∧w'=w:=by
 refine callsD_of_wpS func150 rfl fun c₀ cs hu=>?_;apply wpS_seq;apply wpS_region;simp[wpOpsS,go_sem,recoverD,hu,ntmps150,Exit.thenS];refine wpS_cond (t:=false) (by simp[Act.eval,Array.replicate]) ?_;simp only[Bool.false_eq_true,if_false];refine wpS_of_wp (wp_skip ?_);cases c₀
 simp_all [bodyPostS,results,results150]
theorem jX7(A n C:Nat)(cache:Value)(calls writes:Int)(w:World)(h:w.heap[A]?=some (qA8 κ n C cache calls writes)):
  Calls prog 110 #[.iface 23 (.pointer (some ⟨A,0,none⟩))] w fun e w'=>e=.returned (.int .i64 n)∧Kp [] w w':=by
 have hmf:=zM;have hA:=ζ h
 go_enter_defers func110,ntmps110
 go_wp2_with fail;refine (xN1 A n C cache calls writes _ (θ _ h)).mono ?_;rintro e w1 ⟨rfl,rfl⟩;go_wp2;refine leaves_cons (f:=150) (args:=#[.pointer (some ⟨w.heap.size,0,none⟩)]) (by simp) (by simp[go_sem]) ?_;refine (zT3 ⟨w.heap.size,0,none⟩ _).mono ?_;rintro e u' w'' ⟨rfl,rfl,rfl⟩;simp[Leaves,settle,results,results110,go_sem];exact (Kp.refl _ _).alloc _
theorem xD2(A n C:Nat)(cache:Value)(calls writes:Int)(w:World)(h:w.heap[A]?=some (qA8 κ n C cache calls writes))(h8:8≤n)(h400:n≤400):
  Calls prog 72 #[.iface 23 (.pointer (some ⟨A,0,none⟩))] w fun e w'=>∃ V,e=.returned (.pointer (some ⟨V,0,none⟩))∧w.heap.size≤V∧w'.heap[V]?=some (qC8 A n)∧Kp [] w w':=by
 go_enter func72,ntmps72;go_wp2_with fail;refine (jX7 A n C cache calls writes _ h).mono ?_;rintro e w1 ⟨rfl,hK1⟩;have hd:decide ((n:Int)<8)=false:=by simp;omega
 have hd2:decide ((400:Int)<(n:Int))=false:=by simp;omega
 have hs1:=hK1.size;go_wp2;go_ret;exact⟨_,rfl,hs1,μ _ _,hK1.alloc _⟩
theorem jZ7(k:Int)(w:World):
  Calls prog 109 #[.iface 162 (.agg #[.iface 46 (.int .i64 k)])] w fun e w'=>e=.returned (.iface 46 (.int .i64 k))∧Kp [] w w':=by
 have hta:∀ W:World,Sem.run prog (Instr.typeAssert (.iface 162 (.agg #[.iface 46 (.int .i64 k)])) 20 162 true) W=.ok (.tuple #[.agg #[.iface 46 (.int .i64 k)],.bool true]) W:=fun W=>by kernel_rfl
 go_enter func109,ntmps109;go_wp2;go_ret;exact⟨rfl,(Kp.refl _ _).alloc _⟩
theorem zS4(p q:Addr)(w:World):
  CallsD prog 108 #[.pointer (some p),.pointer (some q)] .returning w fun e u' w'=>e=.returned (.tuple #[])∧u'=.returning∧w'=w:=by
 refine callsD_of_wpS func108 rfl fun c₀ cs hu=>?_;apply wpS_seq;apply wpS_region;simp[wpOpsS,go_sem,recoverD,hu,ntmps108,Exit.thenS,Array.replicate];refine wpS_of_wp ?_;go_wp2;cases c₀
 simp_all [bodyPostS,results,results108]
theorem xO2(B E:Nat)(k:Int)(call:ByteArray)(w:World)(hp:w.heap[B]?=some (.cells #[.string call] 9))(hBE:B≠E)(hE:w.heap[E]?=some (.cells #[.nilIface] 35)):
  CallsD prog 108 #[.pointer (some ⟨B,0,none⟩),.pointer (some ⟨E,0,none⟩)] (.panicking [{ v:=.iface 162 (.agg #[.iface 46 (.int .i64 k)]),recovered:=false }]) w fun e u' w'=>
   e=.returned (.tuple #[])∧u'=.panicking [{ v:=.iface 162 (.agg #[.iface 46 (.int .i64 k)]),recovered:=true }]∧∃ F,w.heap.size≤F∧w'.heap[F]?=some (.cells #[.string call,.iface 46 (.int .i64 k)] 183)∧w'.heap[E]?=some (.cells #[.iface 180 (.pointer (some ⟨F,0,none⟩))] 35)∧Kp [E] w w':=by
 refine callsD_of_wpS func108 rfl fun c₀ cs hu=>?_;apply wpS_seq;apply wpS_region;simp[wpOpsS,go_sem,recoverD,hu,ntmps108,Exit.thenS,Array.replicate];refine wpS_of_wp ?_;go_wp2_with fail;refine wp_region_held_drew (S:=fun W=>W.heap[B]?=some (.cells #[.string call] 9)) (by kernel_rfl) hp (fun _=>?_);refine zV 1 (.iface 162 (.agg #[.iface 46 (.int .i64 k)])) rfl (fun W hS=>rfl) hp ?_;refine zV 0 (.string call) rfl (fun W hS=>by have c:=ξ hS 0;simp at c;clear hS;go_simp) hp ?_;refine zq 2 fun K hK=>?_;go_simp;refine (jZ7 k _).mono ?_;rintro e w2 ⟨rfl,hK2⟩;have hp2:=hK2.heap (k:=B) hp (by simp);have hE2:=hK2.heap (k:=E) hE (by simp);have hK2':Kp [E] w w2:=((Kp.refl [E] w).drew).tr hK2;have hs2:=hK2'.size;clear hK2;refine hK.out _ _ hp2 (fun _=>?_);clear hK K
 try simp only[zZ]
 refine zU 3 (.agg #[.string call,.iface 46 (.int .i64 k)]) hp2 ?_;refine zq 4 fun K hK=>?_;go_simp;refine hK.out _ _ (θ _ hp2) (fun _=>?_);clear hK K
 try simp only[zZ]
 have hp3:=θ (.cells #[.string call,.iface 46 (.int .i64 k)] 183) hp2;have hE3:=θ (.cells #[.string call,.iface 46 (.int .i64 k)] 183) hE2;have hF3:=μ w2 (.cells #[.string call,.iface 46 (.int .i64 k)] 183);have hK3:=hK2'.alloc (.cells #[.string call,.iface 46 (.int .i64 k)] 183);refine zU 5 (.iface 180 (.pointer (some ⟨w2.heap.size,0,none⟩))) hp3 ?_;generalize w2.alloc (.cells #[.string call,.iface 46 (.int .i64 k)] 183)=W3 at *;have hF3s:=ζ hF3;have hE2s:=ζ hE2;have e0:=ξ hE3 0;simp at e0;have ef:=ψ hE3 0;refine zq 6 fun K hK=>?_;go_simp;refine hK.out _ _ ((qA9 hBE _ _).trans hp3) (fun _=>?_);clear hK K;refine zd ?_;exact⟨rfl,_,rfl,_,results_none results108 _ _ _,rfl,rfl,w2.heap.size,hs2,(qA9 (by omega) _ _).trans hF3,φ hE3 0 _,hK3.sc _⟩
theorem qV8(f:Nat)(cap:Array Value)(call:ByteArray)(w:World)(R:World→Prop)(hcf:∀ W:World,Sem.run prog (callFunc f cap) W=.ok (.enter f cap) W)
  (hw:Calls prog f cap ((w.alloc (.cells #[.string call] 9)).alloc (.cells #[.nilIface] 35)) fun e w'=>e=.returned (.tuple #[])∧R w'∧w'.heap[w.heap.size+1]?=some (.cells #[.nilIface] 35)):
  Calls prog 70 #[.string call,.func (.func f) #[] cap] w fun e w'=>e=.returned .nilIface∧∃ w1,R w1∧w'=w1.setCell ⟨w.heap.size+1,0,none⟩ .nilIface:=by
 have hmf:=zM;have HW:=zh hw;clear hw
 go_enter_defers func70,ntmps70
 go_wp2_with fail;refine (show Calls _ _ _ _ _ from HW.out).mono ?_;rintro e w1 ⟨rfl,hR,hE⟩;have e0:=ξ hE 0;simp at e0;have ef:=ψ hE 0;go_wp2;refine leaves_cons (f:=108) (args:=#[.pointer (some ⟨w.heap.size,0,none⟩),.pointer (some ⟨w.heap.size+1,0,none⟩)]) (by simp) (by simp[go_sem]) ?_;refine (zS4 ⟨w.heap.size,0,none⟩ ⟨w.heap.size+1,0,none⟩ _).mono ?_;rintro e u' w'' ⟨rfl,rfl,rfl⟩;simp[Leaves,settle,results,results70,go_sem,e0];exact⟨w1,hR,rfl⟩
variable {κ:Nat}
theorem qX8(l:List UInt8)(i:Nat)(b:List UInt8)(h:i*128+b.length≤l.length):(qB6 l i b).length=l.length:=by simp[qB6];omega
theorem zF5(l:List UInt8)(i:Nat)(b:List UInt8)(hb:b.length=128)(h:i*128+128≤l.length):χ (qB6 l i b) i=b:=by
 unfold χ qB6;rw[List.append_assoc,List.drop_append_of_le_length (by simp;omega),List.drop_of_length_le (by simp;omega),List.nil_append,List.take_append_of_le_length (by omega),List.take_of_length_le (by omega)]
theorem xM9(l:List UInt8)(b:List UInt8)(hb:b.length=128)(h:256≤l.length):χ (qB6 l 0 b) 1=χ l 1:=by
 unfold χ qB6;simp only[Nat.zero_mul,List.take_zero,List.nil_append,Nat.zero_add,hb,Nat.one_mul];rw[List.drop_append_of_le_length (by omega),List.drop_of_length_le (by omega),List.nil_append]
def qO7(l:List UInt8)(N:Int):List UInt8:=qB6 (qB6 l 1 (qF0 (N+1))) 0 (qF0 (N+2))
theorem xV4(l:List UInt8)(N:Int)(h:256≤l.length):(qO7 l N).length=l.length:=by
 have h1:=qX8 l 1 (qF0 (N+1)) (by rw[qP8];omega);rw[qO7,qX8 _ _ _ (by rw[qP8];omega),h1]
theorem xV5(l:List UInt8)(N:Int)(h:256≤l.length)(h0:0≤N)(he:N % 2=0)(h1:N≤999999998):Formatted (qO7 l N) (N+2):=by
 have hl:=qX8 l 1 (qF0 (N+1)) (by rw[qP8];omega);refine⟨zF5 _ _ _ (qP8 _) (by omega),?_,by omega,by omega,by omega⟩;rw[qO7,xM9 _ _ (qP8 _) (by omega),zF5 _ _ _ (qP8 _) (by omega)]
 congr 1;omega
theorem xV3(D A n C:Nat)(calls writes:Int)(l:List UInt8)(N:Int)(w:World)(hD:w.heap[D]?=some (.cells #[.iface 23 (.pointer (some ⟨A,0,none⟩))] 129))(h:w.heap[A]?=some (qA8 κ n C (.slice none 0 0) calls writes))(h0:0≤calls)(h1:calls≤999999000)(h0w:0≤writes)(h1w:writes≤999999000)
  (h8:8≤n) (h400:n≤400) (hC:w.heap[C]?=some (.cells (enc l) 87)) (hs:n*128≤l.length) (hAC:C≠A) (hst:(Fresh l∧N=0)∨Formatted l N) (hN0:0≤N) (hNe:N % 2=0) (hN1:N≤999999000):
  Calls prog 98 #[.pointer (some ⟨D,0,none⟩)] w fun e w'=>e=.returned (.tuple #[])∧
   w'.heap[A]?=some (qA8 κ n C (.slice none 0 0) (calls+6) (writes+2))∧w'.heap[C]?=some (.cells (enc (qO7 l N)) 87)∧Kp [A,C] w w':=by
 have hDs:=ζ hD;have hA:=ζ h;have hCs:=ζ hC;have c0:=ξ hD 0;simp at c0;have HE:=zh hNe;clear hNe;go_enter func98,ntmps98;go_wp2_with fail;refine (xD2 A n C (.slice none 0 0) calls writes _ h h8 h400).mono ?_;rintro e w1 ⟨V,rfl,hVs,hV1,hK1⟩;have hA1:=hK1.hp h;have hC1:=hK1.hp hC;have hK1':Kp [A,C] w w1:=hK1.mono (by simp);have hVA:V≠A:=by omega
 have hVC:V≠C:=by omega
 clear hK1;go_wp2_with fail;have hnew:Calls prog 73 #[.pointer (some ⟨V,0,none⟩)] w1 fun e w'=>(∃ b,e=.returned (.tuple #[.agg #[.int .u64 N,.int .i64 0,.int .u64 0],.bool b]))∧w'.heap[A]?=some (qA8 κ n C (.slice none 0 0) (calls+2) writes)∧Kp [A] w1 w':=by
  rcases hst with⟨hf,rfl⟩|hf
  ·exact (jJ0 V A n C calls writes l w1 hV1 hA1 h0 (by omega) h8 (by omega) hC1 hs hAC hVA hf).mono fun e w' hr=>⟨⟨_,hr.1⟩,hr.2⟩
  ·exact (xC0 V A n C calls writes l N w1 hV1 hA1 h0 (by omega) h8 (by omega) hC1 hs hAC hVA hf).mono fun e w' hr=>⟨⟨_,hr.1⟩,hr.2⟩
 refine hnew.mono ?_;rintro e w2 ⟨⟨b,rfl⟩,hA2,hK2⟩;clear hnew hst;have hV2:=hK2.heap hV1 (by simp[hVA]);have hC2:=hK2.heap hC1 (by simp[hAC]);have hK2':Kp [A,C] w w2:=hK1'.tr hK2;have hVl:=ζ hV1;have hs2:=hK2.size;have hs1:=hK1'.size;clear hK2 hK1' hA1 hC1 hV1 c0;go_wp2;obtain⟨H,hHd⟩:∃ H,H=w2.heap.size:=⟨_,rfl⟩;rw[←hHd];have hHw:w.heap.size≤H:=by omega
 have hHA:A≠H:=by omega
 have hHC:C≠H:=by omega
 have hHV:V≠H:=by omega
 obtain⟨W3,hW3,hK3,hA3,hC3,hV3,hH3⟩:∃ W3,W3=w2.alloc (.cells #[.int .u64 N,.int .i64 0,.int .u64 0] 116)∧Kp [A,C] w W3∧W3.heap[A]?=some (qA8 κ n C (.slice none 0 0) (calls+2) writes)∧W3.heap[C]?=some (.cells (enc l) 87)∧W3.heap[V]?=some (qC8 A n)∧W3.heap[H]?=some (.cells #[.int .u64 N,.int .i64 0,.int .u64 0] 116):=
  ⟨_,rfl,hK2'.alloc _,θ _ hA2,θ _ hC2,θ _ hV2,by rw[hHd];exact μ _ _⟩
 rw[←hW3];clear hW3 hK2' hA2 hC2 hV2 hHd hs2 hs1;have HHA:=zh hHA;have HHC:=zh hHC;have HHV:=zh hHV;clear hHA hHC hHV;have x0:=ξ hH3 0;have x1:=ξ hH3 1;have x2:=ξ hH3 2;simp at x0 x1 x2;refine wp_loop_rounds 3 ?_;rw[rounds_succ];go_wp2_with fail;refine (zB8 N 0 0 0 0 _ (by omega) (by omega)).mono ?_;rintro e W3a ⟨rfl,hB3a⟩;have hB3a':=Kp.of_below hB3a (Nat.le_refl _);have hA3a:=hB3a'.hp hA3;have hC3a:=hB3a'.hp hC3;have hV3a:=hB3a'.hp hV3;have hH3a:=hB3a'.hp hH3;have hK3a:Kp [A,C] w W3a:=hK3.tr hB3a';clear hB3a hB3a' hA3 hC3 hV3 hH3 hK3 x0 x1 x2;have x0:=ξ hH3a 0;have x1:=ξ hH3a 1;have x2:=ξ hH3a 2;simp at x0 x1 x2;have y0:=ψ hH3a;go_wp2_with fail;obtain⟨W3b,hW3b,hK3b,hA3b,hC3b,hV3b,hH3b⟩:∃ W3b,W3b=((W3a.setCell ⟨H,0,none⟩ (.int .u64 (N+1))).setCell ⟨H,1,none⟩ (.int .i64 0)).setCell ⟨H,2,none⟩ (.int .u64 0)∧Kp [A,C] w W3b∧W3b.heap[A]?=some (qA8 κ n C (.slice none 0 0) (calls+2) (writes))∧W3b.heap[C]?=some (.cells (enc (l)) 87)∧W3b.heap[V]?=some (qC8 A n)∧W3b.heap[H]?=some (.cells #[.int .u64 (N+1),.int .i64 0,.int .u64 0] 116):=
  ⟨_,rfl,((hK3a.setCell (Or.inr hHw) _).setCell (Or.inr hHw) _).setCell (Or.inr hHw) _,(qA9 HHA.out _ _).trans ((qA9 HHA.out _ _).trans ((qA9 HHA.out _ _).trans hA3a)),(qA9 HHC.out _ _).trans ((qA9 HHC.out _ _).trans ((qA9 HHC.out _ _).trans hC3a)),(qA9 HHV.out _ _).trans ((qA9 HHV.out _ _).trans ((qA9 HHV.out _ _).trans hV3a)),φ (φ (φ hH3a 0 _) 1 _) 2 _⟩
 rw[←hW3b];clear hW3b hK3a hA3a hC3a hV3a hH3a x0 x1 x2 y0;refine (xA2 V A n C (calls+2) (writes) 1 (N+1) (l) _ hV3b hA3b (by omega) (by omega) (by omega) (by omega) (by omega) (by omega) hC3b hs hAC hVA hVC (by have:=HE.out;omega) (by omega)).mono ?_;rintro e W3c ⟨rfl,hA3c,hC3c,hK3c'⟩;have hV3c:=hK3c'.heap hV3b (by simp[hVA,hVC]);have hH3c:=hK3c'.ho hH3b;have hK3c:Kp [A,C] w W3c:=hK3b.tr hK3c';clear hK3c' hK3b hA3b hC3b hV3b hH3b;have x0:=ξ hH3c 0;have x1:=ξ hH3c 1;have x2:=ξ hH3c 2;simp at x0 x1 x2;have hsl:n*128≤(qB6 l 1 (qF0 (N+1))).length:=by rw[qX8 _ _ _ (by rw[qP8];omega)];exact hs
 go_wp2_with fail;rw[rounds_succ];go_wp2_with fail;refine (zB8 (N+1) 0 0 0 0 _ (by omega) (by omega)).mono ?_;rintro e W3ca ⟨rfl,hB3ca⟩;have hB3ca':=Kp.of_below hB3ca (Nat.le_refl _);have hA3ca:=hB3ca'.hp hA3c;have hC3ca:=hB3ca'.hp hC3c;have hV3ca:=hB3ca'.hp hV3c;have hH3ca:=hB3ca'.hp hH3c;have hK3ca:Kp [A,C] w W3ca:=hK3c.tr hB3ca';clear hB3ca hB3ca' hA3c hC3c hV3c hH3c hK3c x0 x1 x2;have x0:=ξ hH3ca 0;have x1:=ξ hH3ca 1;have x2:=ξ hH3ca 2;simp at x0 x1 x2;have y0:=ψ hH3ca;go_wp2_with fail;obtain⟨W3cb,hW3cb,hK3cb,hA3cb,hC3cb,hV3cb,hH3cb⟩:∃ W3cb,W3cb=((W3ca.setCell ⟨H,0,none⟩ (.int .u64 ((N+1)+1))).setCell ⟨H,1,none⟩ (.int .i64 0)).setCell ⟨H,2,none⟩ (.int .u64 0)∧Kp [A,C] w W3cb∧W3cb.heap[A]?=some (qA8 κ n C (.slice none 0 0) (calls+2+2) (writes+1))∧W3cb.heap[C]?=some (.cells (enc (qB6 l 1 (qF0 (N+1)))) 87)∧W3cb.heap[V]?=some (qC8 A n)∧W3cb.heap[H]?=some (.cells #[.int .u64 ((N+1)+1),.int .i64 0,.int .u64 0] 116):=
  ⟨_,rfl,((hK3ca.setCell (Or.inr hHw) _).setCell (Or.inr hHw) _).setCell (Or.inr hHw) _,(qA9 HHA.out _ _).trans ((qA9 HHA.out _ _).trans ((qA9 HHA.out _ _).trans hA3ca)),(qA9 HHC.out _ _).trans ((qA9 HHC.out _ _).trans ((qA9 HHC.out _ _).trans hC3ca)),(qA9 HHV.out _ _).trans ((qA9 HHV.out _ _).trans ((qA9 HHV.out _ _).trans hV3ca)),φ (φ (φ hH3ca 0 _) 1 _) 2 _⟩
 rw[←hW3cb];clear hW3cb hK3ca hA3ca hC3ca hV3ca hH3ca x0 x1 x2 y0;refine (xA2 V A n C (calls+2+2) (writes+1) 0 ((N+1)+1) (qB6 l 1 (qF0 (N+1))) _ hV3cb hA3cb (by omega) (by omega) (by omega) (by omega) (by omega) (by omega) hC3cb hsl hAC hVA hVC (by have:=HE.out;omega) (by omega)).mono ?_;rintro e W3cc ⟨rfl,hA3cc,hC3cc,hK3cc'⟩;have hV3cc:=hK3cc'.heap hV3cb (by simp[hVA,hVC]);have hH3cc:=hK3cc'.ho hH3cb;have hK3cc:Kp [A,C] w W3cc:=hK3cb.tr hK3cc';clear hK3cc' hK3cb hA3cb hC3cb hV3cb hH3cb;go_wp2_with fail;rw[rounds_succ];go_wp2
 go_end0
 rw[show calls+2+2+2=calls+6 from by omega,show writes+1+1=writes+2 from by omega] at hA3cc;rw[show N+1+1=N+2 from by omega] at hC3cc;exact⟨rfl,hA3cc,hC3cc,hK3cc⟩
theorem xO7(args:Array Value)(W:World):Sem.run prog (callFunc 98 args) W=.ok (.enter 98 args) W:=by
 simp[go_sem,func98]
theorem xV6(A n C:Nat)(calls writes:Int)(l:List UInt8)(N:Int)(w:World)(h:w.heap[A]?=some (qA8 κ n C (.slice none 0 0) calls writes))(h0:0≤calls)(h1:calls≤999999000)(h0w:0≤writes)(h1w:writes≤999999000)
  (h8:8≤n) (h400:n≤400) (hC:w.heap[C]?=some (.cells (enc l) 87)) (hs:n*128≤l.length) (hAC:C≠A) (hst:(Fresh l∧N=0)∨Formatted l N) (hN0:0≤N) (hNe:N % 2=0) (hN1:N≤999999000):
  Calls prog 35 #[.pointer (some ⟨A,0,none⟩)] w fun e w'=>e=.returned .nilIface∧
   w'.heap[A]?=some (qA8 κ n C (.slice none 0 0) (calls+6) (writes+2))∧w'.heap[C]?=some (.cells (enc (qO7 l N)) 87)∧Kp [A,C] w w':=by
 have hA:=ζ h;have hCs:=ζ hC;have hmf:=zM;have HE:=zh hNe;clear hNe;go_enter func35,ntmps35
 go_wp2_with (go_at_call 60;go_in)
 obtain⟨W0,hW0,hK0,hs0⟩:∃ W0,W0=w.alloc (.cells #[.iface 23 (.pointer (some ⟨A,0,none⟩))] 129)∧Kp [] w W0∧W0.heap.size=w.heap.size+1:=⟨_,rfl,(Kp.refl _ _).alloc _,by simp⟩;have hD0:W0.heap[w.heap.size]?=some (.cells #[.iface 23 (.pointer (some ⟨A,0,none⟩))] 129):=by rw[hW0];exact μ _ _
 rw[←hW0];clear hW0;have hA0:=hK0.hp h;have hC0:=hK0.hp hC;refine (qV8 98 _ _ _ (fun w'=>w'.heap[A]?=some (qA8 κ n C (.slice none 0 0) (calls+6) (writes+2))∧w'.heap[C]?=some (.cells (enc (qO7 l N)) 87)∧Kp [A,C] w w') (xO7 _) ?_).mono ?_
 ·refine (xV3 w.heap.size A n C calls writes l N _ (θ _ (θ _ hD0)) (θ _ (θ _ hA0)) h0 h1 h0w h1w h8 h400 (θ _ (θ _ hC0)) hs hAC hst hN0 HE.out hN1).mono ?_;rintro e w1 ⟨rfl,hA1,hC1,hK1⟩;refine⟨rfl,⟨hA1,hC1,(((hK0.mono (S':=[A,C]) (by simp)).alloc _).alloc _).tr hK1⟩,hK1.heap ?_ (by simp;omega)⟩;have e:=μ (W0.alloc (.cells #[.string ⟨#[70,111,114,109,97,116]⟩] 9)) (.cells #[.nilIface] 35);simpa using e
 rintro e w2 ⟨rfl,w1,⟨hA1,hC1,hK1⟩,rfl⟩;go_wp2;go_ret;exact⟨rfl,(qA9 (by omega) _ _).trans hA1,(qA9 (by omega) _ _).trans hC1,hK1.setCell (Or.inr (by simp;omega)) _⟩
def jU4(V:Nat):Value:=.agg #[.pointer (some ⟨V,0,none⟩),.string ⟨#[]⟩,.int .i64 0,.int .u64 0,.pointer none]
theorem xL6(V:Nat)(w:World):
  Calls prog 74 #[.pointer (some ⟨V,0,none⟩),.agg #[.int .i64 0,.int .u64 0]] w fun e w'=>e=.returned (jU4 V)∧Kp [] w w':=by
 go_enter func74,ntmps74;go_wp2;refine bodyPost_ret (results_cell_row results74 _ _ (w.heap.size+1) 83 #[.pointer (some ⟨V,0,none⟩),.string ⟨#[]⟩,.int .i64 0,.int .u64 0,.pointer none] (0,0) _ rfl ?_ underlying83 rfl (by kernel_rfl)) rfl ⟨rfl,((Kp.refl _ _).alloc _).alloc _⟩;have e:=μ (w.alloc (.cells #[.int .i64 0,.int .u64 0] 78)) (.cells #[.pointer (some ⟨V,0,none⟩),.string ⟨#[]⟩,.int .i64 0,.int .u64 0,.pointer none] 83);simpa using e
theorem xS7(d:Nat)(W:World):Sem.run prog (Op.equalIn (d+1) 79 (.pointer none) (.pointer none)) W=.ok true W:=by
 simp[Op.equalIn,run_underlying underlying79]
theorem xS0(V:Nat)(w:World):
  Calls prog 85 #[.agg #[.pointer (some ⟨V,0,none⟩),.string ⟨#[]⟩,.int .i64 0,.int .u64 0,.pointer none]] w fun e w'=>e=.returned (.bool true)∧Kp [] w w':=by
 have heq:∀ W:World,Sem.run prog (Op.equalIn 9999 79 (.pointer none) (.pointer none)) W=.ok true W:=fun W=>xS7 9998 W;go_enter func85,ntmps85;go_wp2;go_ret;exact⟨rfl,(Kp.refl _ _).alloc _⟩
theorem zT0(V:Nat)(w:World):
  Calls prog 75 #[.agg #[.pointer (some ⟨V,0,none⟩),.string ⟨#[]⟩,.int .i64 0,.int .u64 0,.pointer none]] w fun e w'=>e=.returned (.int .i64 0)∧Kp [] w w':=by
 go_enter func75,ntmps75;go_wp2_with fail;refine (xS0 V _).mono ?_;rintro e w1 ⟨rfl,hK1⟩;have hc:w1.heap[w.heap.size+1]?=some (.cells #[.pointer (some ⟨V,0,none⟩),.int .i64 0,.string { data:=#[] }] 191):=hK1.heap (by
  have e:=μ (w.alloc (.cells #[.pointer (some ⟨V,0,none⟩),.string { data:=#[] },.int .i64 0,.int .u64 0,.pointer none] 83)) (.cells #[.pointer (some ⟨V,0,none⟩),.int .i64 0,.string { data:=#[] }] 191);simpa using e) (by simp)
 have hK1':Kp [] w w1:=(((Kp.refl [] w).alloc _).alloc _).tr hK1;clear hK1;have c1:=ξ hc 1;simp at c1;go_wp2;go_ret;exact⟨rfl,hK1'⟩
variable {κ:Nat}
structure Sto where
 V:Nat
 M:Nat
 N:Int
 rb:Int
 rs:Int
 bl:Int
 po:Bool
 bg:Int
 wr:Int
def ν(lk:Int)(s:Sto):Obj:=
 .cells #[.int .i32 lk,.int .u32 0,.pointer (some ⟨s.V,0,none⟩),.int .u64 s.N,.int .i64 s.rb,.int .u64 s.rs,.int .i64 s.bl,.bool s.po,.int .u64 s.bg,.int .u64 s.wr,.map (some s.M)] 126
def qJ8(V M:Nat)(N:Int):Sto:=⟨V,M,N,0,0,0,false,0,0⟩
theorem zN2(V A n:Nat)(w:World)(hV:w.heap[V]?=some (qC8 A n)):
  Calls prog 97 #[.pointer (some ⟨V,0,none⟩)] w fun e w'=>e=.returned (.int .i64 n)∧w'=w:=by
 have c1:=ξ hV 1;simp at c1;clear hV;go_enter func97,ntmps97;go_wp2;go_ret;exact⟨rfl,rfl⟩
theorem jO0(D X A n C:Nat)(calls writes:Int)(l:List UInt8)(N:Int)(w:World)(hD:w.heap[D]?=some (.cells #[.iface 23 (.pointer (some ⟨A,0,none⟩))] 129))(hX:w.heap[X]?=some (.cells #[.pointer none] 24))(h:w.heap[A]?=some (qA8 κ n C (.slice none 0 0) calls writes))(h0:0≤calls)(h1:calls≤999999000)
  (h8:8≤n) (h400:n≤400) (hC:w.heap[C]?=some (.cells (enc l) 87)) (hs:n*128≤l.length) (hAC:C≠A) (hXA:X≠A) (hf:Formatted l N):
  Calls prog 71 #[.pointer (some ⟨D,0,none⟩),.pointer (some ⟨X,0,none⟩)] w fun e w'=>e=.returned (.tuple #[])∧
   w'.heap[A]?=some (qA8 κ n C (.slice none 0 0) (calls+3) writes)∧(∃ V M St Db,w.heap.size≤V∧w.heap.size≤M∧w.heap.size≤St∧w.heap.size≤Db∧w'.heap[V]?=some (qC8 A n)∧w'.heap[M]?=some (.map #[] 0)∧w'.heap[St]?=some (ν 0 (qJ8 V M N))∧w'.heap[Db]?=some (.cells #[.pointer (some ⟨St,0,none⟩)] 95)∧w'.heap[X]?=some (.cells #[.pointer (some ⟨Db,0,none⟩)] 24))∧Kp [A,X] w w':=by
 have hDs:=ζ hD;have hXs:=ζ hX;have hA:=ζ h;have hCs:=ζ hC;have c0:=ξ hD 0;simp at c0;go_enter func71,ntmps71;go_wp2_with fail;refine (xD2 A n C (.slice none 0 0) calls writes _ h h8 h400).mono ?_;rintro e w1 ⟨V,rfl,hVs,hV1,hK1⟩;have hA1:=hK1.hp h;have hC1:=hK1.hp hC;have hX1:=hK1.hp hX;have hK1':Kp [A,X] w w1:=hK1.mono (by simp);have HVA:Hid (V≠A):=by show V≠A;omega
 have HXA:=zh hXA;clear hK1 hXA;go_wp2_with fail;refine (xC0 V A n C calls writes l N w1 hV1 hA1 h0 (by omega) h8 (by omega) hC1 hs hAC HVA.out hf).mono ?_;rintro e w2 ⟨rfl,hA2,hK2⟩;have hV2:=hK2.heap hV1 (by simp[HVA.out]);have hX2:=hK2.heap hX1 (by simp[HXA.out]);have hK2':Kp [A,X] w w2:=hK1'.trans hK2 (by simp +contextual);have hs1:=hK1'.size;have hs2:=hK2.size;have hVl:=ζ hV1;clear hK2 hK1' hA1 hC1 hV1 hX1 c0;go_wp2_with fail;obtain⟨H,hHd⟩:∃ H,H=w2.heap.size:=⟨_,rfl⟩;rw[←hHd];obtain⟨W3,hW3,hK3,hA3,hX3,hV3,hH3⟩:∃ W3,W3=w2.alloc (.cells #[.int .u64 N,.int .i64 0,.int .u64 0] 116)∧Kp [A,X] w W3∧W3.heap[A]?=some (qA8 κ n C (.slice none 0 0) (calls+2) writes)∧W3.heap[X]?=some (.cells #[.pointer none] 24)∧W3.heap[V]?=some (qC8 A n)∧W3.heap[H]?=some (.cells #[.int .u64 N,.int .i64 0,.int .u64 0] 116):=
  ⟨_,rfl,hK2'.alloc _,θ _ hA2,θ _ hX2,θ _ hV2,by rw[hHd];exact μ _ _⟩
 rw[←hW3];have hHb:w2.heap.size≤H:=by omega
 clear hW3 hK2' hA2 hX2 hV2 hHd;have hHs:=ζ hH3;refine (xL6 V _).mono ?_;rintro e W4 ⟨rfl,hK40⟩;have hA4:=hK40.hp hA3;have hX4:=hK40.hp hX3;have hV4:=hK40.hp hV3;have hH4:=hK40.hp hH3;have hK4:Kp [A,X] w W4:=hK3.tr hK40;have hs4:=hK40.size;clear hK40 hA3 hX3 hV3 hH3 hK3;go_wp2_with fail;refine (zT0 V _).mono ?_;rintro e W5 ⟨rfl,hK50⟩;have hA5:=hK50.hp hA4;have hX5:=hK50.hp hX4;have hV5:=hK50.hp hV4;have hH5:=hK50.hp hH4;have hK5:Kp [A,X] w W5:=hK4.tr hK50;have hs5:=hK50.size;clear hK50 hA4 hX4 hV4 hH4 hK4;go_wp2_with fail;refine (jT1 V A n C (calls+2) writes _ hV5 hA5 (by omega) (by omega)).mono ?_;rintro e W6 ⟨rfl,hA6,hK60⟩;rw[show calls+2+1=calls+3 from by omega] at hA6;have hX6:=hK60.heap hX5 (by simp[HXA.out]);have hV6:=hK60.heap hV5 (by simp[HVA.out]);have hH6:=hK60.ho hH5;have hK6:Kp [A,X] w W6:=hK5.trans hK60 (by simp +contextual);have hs6:=hK60.size;have hXH:X≠H:=by omega
 have HXH:=zh hXH;have HXV:Hid (X≠V):=by show X≠V;omega
 have hsW6:=hK6.size;clear hK60 hA5 hX5 hV5 hH5 hK5 hXH;have hmm:=@run_makeMap prog;have z0:=ξ hH6;have x0:=ξ hX6 0;simp only[zG,zH,zI] at x0;have fx0:=ψ hX6 0;have hX6s:=ζ hX6;have hX6a:X<W6.heap.size+1:=by omega
 have hX6b:X<W6.heap.size+1+1:=by omega
 go_wp2
 go_end0
 obtain⟨U,hU,hKU,hAU,hVU,hXU,hsU⟩:∃ U,U=W6.setCell ⟨X,0,none⟩ (.pointer (some ⟨W6.heap.size+1+1,0,none⟩))∧Kp [A,X] w U∧U.heap[A]?=some (qA8 κ n C (.slice none 0 0) (calls+3) writes)∧U.heap[V]?=some (qC8 A n)∧U.heap[X]?=some (.cells #[.pointer (some ⟨W6.heap.size+1+1,0,none⟩)] 24)∧U.heap.size=W6.heap.size:=
  ⟨_,rfl,hK6.sc _,(qA9 (fun e=>HXA.out e.symm) _ _).trans hA6,(qA9 (fun e=>HXV.out e.symm) _ _).trans hV6,φ hX6 0 _,by simp[World.setCell]⟩
 rw[←hU];have e1:=μ U (.map #[] 0);have e2:=μ (U.alloc (.map #[] 0)) (ν 0 (qJ8 V W6.heap.size N));have e3:=μ ((U.alloc (.map #[] 0)).alloc (ν 0 (qJ8 V W6.heap.size N))) (.cells #[.pointer (some ⟨W6.heap.size+1,0,none⟩)] 95);rw[hsU] at e1;rw[show (U.alloc (.map #[] 0)).heap.size=W6.heap.size+1 from by simp[hsU]] at e2;rw[show ((U.alloc (.map #[] 0)).alloc (ν 0 (qJ8 V W6.heap.size N))).heap.size=W6.heap.size+1+1 from by simp[hsU]] at e3;exact⟨rfl,θ _ (θ _ (θ _ hAU)),⟨V,W6.heap.size,W6.heap.size+1,W6.heap.size+1+1,hVs,by omega,by omega,by omega,θ _ (θ _ (θ _ hVU)),θ _ (θ _ e1),θ _ e2,e3,θ _ (θ _ (θ _ hXU))⟩,((hKU.alloc _).alloc _).alloc _⟩
variable {κ:Nat}
theorem zS6(args:Array Value)(W:World):Sem.run prog (callFunc 71 args) W=.ok (.enter 71 args) W:=by
 simp[go_sem,func71]
theorem jO3(A n C:Nat)(calls writes:Int)(l:List UInt8)(N:Int)(w:World)(h:w.heap[A]?=some (qA8 κ n C (.slice none 0 0) calls writes))(h0:0≤calls)(h1:calls≤999999000)
  (h8:8≤n) (h400:n≤400) (hC:w.heap[C]?=some (.cells (enc l) 87)) (hs:n*128≤l.length) (hAC:C≠A) (hf:Formatted l N):
  Calls prog 16 #[.pointer (some ⟨A,0,none⟩)] w fun e w'=>∃ V M St Db,e=.returned (.tuple #[.pointer (some ⟨Db,0,none⟩),.nilIface])∧w.heap.size≤V∧w.heap.size≤M∧w.heap.size≤St∧w.heap.size≤Db∧
   w'.heap[A]?=some (qA8 κ n C (.slice none 0 0) (calls+3) writes)∧w'.heap[V]?=some (qC8 A n)∧w'.heap[M]?=some (.map #[] 0)∧w'.heap[St]?=some (ν 0 (qJ8 V M N))∧w'.heap[Db]?=some (.cells #[.pointer (some ⟨St,0,none⟩)] 95)∧Kp [A] w w':=by
 have hA:=ζ h;have hCs:=ζ hC;have hmf:=zM;go_enter func16,ntmps16
 go_wp2_with (go_at_call 42;go_in)
 obtain⟨W0,hW0,hK0,hs0⟩:∃ W0,W0=(w.alloc (.cells #[.iface 23 (.pointer (some ⟨A,0,none⟩))] 129)).alloc (.cells #[.pointer none] 24)∧Kp [] w W0∧W0.heap.size=w.heap.size+2:=⟨_,rfl,((Kp.refl _ _).alloc _).alloc _,by simp⟩;have hD0:W0.heap[w.heap.size]?=some (.cells #[.iface 23 (.pointer (some ⟨A,0,none⟩))] 129):=by rw[hW0];exact θ _ (μ _ _)
 have hX0:W0.heap[w.heap.size+1]?=some (.cells #[.pointer none] 24):=by
  rw[hW0];have e:=μ (w.alloc (.cells #[.iface 23 (.pointer (some ⟨A,0,none⟩))] 129)) (.cells #[.pointer none] 24);simpa using e
 rw[←hW0];clear hW0;have hA0:=hK0.hp h;have hC0:=hK0.hp hC;refine (qV8 71 _ _ _ (fun w'=>w'.heap[A]?=some (qA8 κ n C (.slice none 0 0) (calls+3) writes)∧(∃ V M St Db,W0.heap.size+2≤V∧W0.heap.size+2≤M∧W0.heap.size+2≤St∧W0.heap.size+2≤Db∧w'.heap[V]?=some (qC8 A n)∧w'.heap[M]?=some (.map #[] 0)∧w'.heap[St]?=some (ν 0 (qJ8 V M N))∧w'.heap[Db]?=some (.cells #[.pointer (some ⟨St,0,none⟩)] 95)∧w'.heap[w.heap.size+1]?=some (.cells #[.pointer (some ⟨Db,0,none⟩)] 24))∧Kp [A] w w') (zS6 _) ?_).mono ?_
 ·refine (jO0 w.heap.size (w.heap.size+1) A n C calls writes l N _ (θ _ (θ _ hD0)) (θ _ (θ _ hX0)) (θ _ (θ _ hA0)) h0 h1 h8 h400 (θ _ (θ _ hC0)) hs hAC (by omega) hf).mono ?_;rintro e w1 ⟨rfl,hA1,⟨V,M,St,Db,hV,hM,hSt,hDb,r⟩,hK1⟩;refine⟨rfl,⟨hA1,⟨V,M,St,Db,by simpa using hV,by simpa using hM,by simpa using hSt,by simpa using hDb,r⟩,(((hK0.mono (S':=[A]) (by simp)).alloc _).alloc _).trans hK1 (by intro i hi hlt;simp at hi;rcases hi with rfl | rfl;simp;omega)⟩,hK1.heap ?_ (by simp;omega)⟩;have e:=μ (W0.alloc (.cells #[.string ⟨#[79,112,101,110]⟩] 9)) (.cells #[.nilIface] 35);simpa using e
 rintro e w2 ⟨rfl,w1,⟨hA1,⟨V,M,St,Db,hV,hM,hSt,hDb,r1,rm,r2,r3,r4⟩,hK1⟩,rfl⟩;have x0:=ξ r4 0;simp at x0;go_wp2
 go_ret2
 exact⟨V,M,St,Db,rfl,by omega,by omega,by omega,by omega,(qA9 (by omega) _ _).trans hA1,(qA9 (by omega) _ _).trans r1,(qA9 (by omega) _ _).trans rm,(qA9 (by omega) _ _).trans r2,(qA9 (by omega) _ _).trans r3,hK1.setCell (Or.inr (by simp;omega)) _⟩
end Go.Proofs.YtdohpenfkdckiabGreatDoor
namespace Go.Proofs.YtdohpenfkdckiabGreatDoor
open Go.Proofs.Tryz
open Go.RowKit Go.Extern.Stop Go.Stop Go.Extern
def qL6:Value:=.iface 196 (.agg #[.pointer (some ⟨5,35,none⟩)])
theorem zQ9(t:Addr)(w:World):(ReflectliteValue.unpack (.iface 93 (.pointer (some t)))).run prog w
  = .ok (.agg #[.pointer (some ⟨5,93,none⟩),.pointer (some ⟨w.heap.size,0,none⟩),.int .u64 150]) (w.alloc (.cells #[.pointer (some t)] 93)):=by kernel_rfl
theorem zQ7(a:Addr)(w:World):(ReflectliteValue.methodAny (ReflectliteValue.valueError "reflectlite.Value.Type" 0) (fun t _ _ _=>ReflectliteType.toType t) #[.agg #[.pointer (some ⟨5,93,none⟩),.pointer (some a),.int .u64 150]]).run prog w
  = .ok (.iface 196 (.agg #[.pointer (some ⟨5,93,none⟩)])) w:=by kernel_rfl
theorem zQ3(h:Value)(w:World):(Go.method 445 196 (.agg #[h]) "Kind").run prog w=.ok (246,h) w:=by kernel_rfl
theorem zP9(w:World):((ReflectliteType.abiMethod fun t=>Functor.map (fun a:Nat=>Value.int .u8 (a:Int)) (Rtype.kind t)) #[.pointer (some ⟨5,93,none⟩)]).run prog w=.ok (.int .u8 22) w:=by kernel_rfl
theorem zP8(w:World):((ReflectliteType.abiMethod fun t=>Functor.map (fun a:Nat=>Value.int .u8 (a:Int)) (Rtype.kind t)) #[.pointer (some ⟨5,46,none⟩)]).run prog w=.ok (.int .u8 2) w:=by kernel_rfl
theorem zQ5(a:Addr)(w:World):(ReflectliteValue.parts (.agg #[.pointer (some ⟨5,93,none⟩),.pointer (some a),.int .u64 150])).run prog w=.ok (some (93,a,150)) w:=by kernel_rfl
theorem zP7(a p:Addr)(W:World)(ha:W.cell? a=some (.pointer (some p))):
  (ReflectliteValue.method (ReflectliteValue.valueError "reflectlite.Value.IsNil" 0) ReflectliteValue.isNil #[.agg #[.pointer (some ⟨5,93,none⟩),.pointer (some a),.int .u64 150]]).run prog W=.ok (.bool false) W:=by
 show Sem.run prog (Bind.bind (ReflectliteValue.parts (.agg #[.pointer (some ⟨5,93,none⟩),.pointer (some a),.int .u64 150])) _) W=_;simp only[Sem.run_bind,zQ5,Result.andThen];simp[ReflectliteValue.isNil,loadVar,isAgg,underlying,underlying93,ha,Result.andThen]
theorem zQ1(h:Value)(w:World):(Go.method 445 196 (.agg #[h]) "Elem").run prog w=.ok (269,.agg #[h]) w:=by kernel_rfl
theorem zQ2(h:Value)(w:World):(Go.method 445 196 (.agg #[h]) "Implements").run prog w=.ok (270,.agg #[h]) w:=by kernel_rfl
theorem zQ0(h:Value)(w:World):(Go.method 445 196 (.agg #[h]) "AssignableTo").run prog w=.ok (267,.agg #[h]) w:=by kernel_rfl
theorem qY8(p:Addr)(w:World):(Go.method 445 180 (.pointer (some p)) "Unwrap").run prog w=.ok (265,.pointer (some p)) w:=by kernel_rfl
theorem zP4(w:World):(ReflectliteType.method ReflectliteType.elem #[.agg #[.pointer (some ⟨5,93,none⟩)]]).run prog w=.ok (.iface 196 (.agg #[.pointer (some ⟨5,46,none⟩)])) w:=by kernel_rfl
theorem zP6(w:World):(ReflectliteType.relation "Implements" ReflectliteType.implements_ #[.agg #[.pointer (some ⟨5,46,none⟩)],.iface 196 (.agg #[.pointer (some ⟨5,35,none⟩)])]).run prog w=.ok (.bool true) w:=by kernel_rfl
theorem zQ8(v:Value)(w:World):(ReflectliteType.typeOf #[.iface 180 v]).run prog w=.ok (.iface 196 (.agg #[.pointer (some ⟨5,180,none⟩)])) w:=by kernel_rfl
theorem qY9(v:Value)(w:World):(ReflectliteType.typeOf #[.iface 46 v]).run prog w=.ok (.iface 196 (.agg #[.pointer (some ⟨5,46,none⟩)])) w:=by kernel_rfl
theorem zP3(w:World):(ReflectliteType.relation "AssignableTo" ReflectliteType.assignableTo #[.agg #[.pointer (some ⟨5,180,none⟩)],.iface 196 (.agg #[.pointer (some ⟨5,46,none⟩)])]).run prog w=.ok (.bool false) w:=by kernel_rfl
theorem zP2(w:World):(ReflectliteType.relation "AssignableTo" ReflectliteType.assignableTo #[.agg #[.pointer (some ⟨5,46,none⟩)],.iface 196 (.agg #[.pointer (some ⟨5,46,none⟩)])]).run prog w=.ok (.bool true) w:=by kernel_rfl
theorem zR0(k:Int)(w:World):(ReflectliteValue.unpack (.iface 46 (.int .i64 k))).run prog w
  = .ok (.agg #[.pointer (some ⟨5,46,none⟩),.pointer (some ⟨w.heap.size,0,none⟩),.int .u64 130]) (w.alloc (.cells #[.int .i64 k] 46)):=by kernel_rfl
theorem xL0(w:World):(Rtype.elem? 93).run prog w=.ok (some 46) w:=by kernel_rfl
theorem xL1(p:Addr)(w:World):(ReflectliteValue.mk 46 p ReflectliteValue.flagAddr).run prog w=.ok (.agg #[.pointer (some ⟨5,46,none⟩),.pointer (some p),.int .u64 386]) w:=by kernel_rfl
theorem zP5(a p:Addr)(W:World)(ha:W.cell? a=some (.pointer (some p))):
  (ReflectliteValue.method (ReflectliteValue.valueError "reflectlite.Value.Elem" 0) ReflectliteValue.elem #[.agg #[.pointer (some ⟨5,93,none⟩),.pointer (some a),.int .u64 150]]).run prog W
   = .ok (.agg #[.pointer (some ⟨5,46,none⟩),.pointer (some p),.int .u64 386]) W:=by
 show Sem.run prog (Bind.bind (ReflectliteValue.parts (.agg #[.pointer (some ⟨5,93,none⟩),.pointer (some a),.int .u64 150])) _) W=_;simp only[Sem.run_bind,zQ5,Result.andThen];simp[ReflectliteValue.elem,loadVar,isAgg,underlying,underlying93,ha,Result.andThen,xL0,xL1]
theorem xL2(a:Addr)(w:World):(ReflectliteValue.parts (.agg #[.pointer (some ⟨5,46,none⟩),.pointer (some a),.int .u64 386])).run prog w=.ok (some (46,a,386)) w:=by kernel_rfl
theorem xL3(a:Addr)(w:World):(ReflectliteValue.parts (.agg #[.pointer (some ⟨5,46,none⟩),.pointer (some a),.int .u64 130])).run prog w=.ok (some (46,a,130)) w:=by kernel_rfl
theorem xK9(w:World):(Rtype.directlyAssignable 46 46).run prog w=.ok true w:=by kernel_rfl
theorem zQ6(ta b:Addr)(k:Int)(old:Value)(W:World)(hb:W.cell? b=some (.int .i64 k))(ht:W.cell? ta=some old)(hf:W.frozen? ta=false):
  (ReflectliteValue.set #[.agg #[.pointer (some ⟨5,46,none⟩),.pointer (some ta),.int .u64 386],.agg #[.pointer (some ⟨5,46,none⟩),.pointer (some b),.int .u64 130]]).run prog W
   = .ok (.tuple #[]) (W.setCell ta (.int .i64 k)):=by
 show Sem.run prog (Bind.bind (ReflectliteValue.parts (.agg #[.pointer (some ⟨5,46,none⟩),.pointer (some ta),.int .u64 386])) fun q=>Bind.bind (ReflectliteValue.parts (.agg #[.pointer (some ⟨5,46,none⟩),.pointer (some b),.int .u64 130])) _) W=_;simp only[Sem.run_bind,xL2,xL3,Result.andThen];simp[ReflectliteValue.flagAddr,loadVar,isAgg,underlying,underlying46,hb,Result.andThen,xK9,storeVar,Value.cells,storeCells,Addr.add];rw[run_store prog W ta _ _ (by rfl)];simp[ht,hf]
end Go.Proofs.YtdohpenfkdckiabGreatDoor
