import Derived.Test.YtdohpenfkdckiabGreatDoorB04
import Derived.Defers
import Derived.Recover
import Derived.WalkSmall
import Derived.Carry
import Derived.LaidEql
import Derived.Stop.Asserts
import Derived.RowKitTokens
import Derived.Conc.MuLib
import Derived.Conc.MuLone
import Derived.KernelRfl
set_option linter.all false
set_option maxRecDepth 100000
set_option maxHeartbeats 20000000
namespace Go.Proofs.YtdohpenfkdckiabGreatDoor
open Go.Proofs.Tryz
open Go.RowKit
def qE3(N:Int):List UInt8:=toB (qF1 N 0 0)++List.replicate 96 0
def qF9:List UInt8:=List.replicate 128 0
theorem qL1(xs:List Int):(toB xs).length=xs.length:=by simp[toB]
theorem qL0(a b:List Int):toB (a++b)=toB a++toB b:=by simp[toB]
theorem qM5(N:Int):(qE3 N).length=128:=by simp[qE3,qL1,qU1]
theorem xL6(N:Int):(qE3 N).take 32=toB (qF1 N 0 0):=by
 have h:(toB (qF1 N 0 0)).length=32:=by rw[qL1,qU1]
 rw[qE3,List.take_append_of_le_length (by omega),List.take_of_length_le (by omega)]
theorem zC8(N:Int):qE3 N=toB qH3++(toB (qA9 2 0)++(toB (qA9 8 N)++(toB (qA9 8 0)++(toB (qA9 8 (fnv (qK0 N 0 0)))++List.replicate 96 0)))):=by
 simp only[qE3,qF1]
 conv=>lhs;rw[qL0]
 simp only[qK0,qL0,List.append_assoc]
theorem zB9{α:Type}(a b c:List α)(k n:Nat)(hk:a.length=k)(hn:b.length=n):((a++(b++c)).drop k).take n=b:=by
 subst hk;subst hn;simp
theorem xL8(N:Int)(h0:0≤N)(h1:N≤1000000000):qG1 (qG7 (((qE3 N).drop 8).take 8))=N:=by
 have e:((qE3 N).drop 8).take 8=toB (qA9 8 N):=by
  rw[zC8,←List.append_assoc (toB qH3)];exact zB9 _ _ _ 8 8 (by simp[qL1,qF7,qH3]) (by simp[qL1,qF7])
 rw[e,qQ7 _ (qJ2 8 N),qM9 8 N (by decide) h0];have:(256:Int) ^ 8=18446744073709551616:=by decide
 omega
theorem xL7(N:Int):qG1 (qG7 (((qE3 N).drop 6).take 2))=0:=by
 have e:((qE3 N).drop 6).take 2=toB (qA9 2 0):=by
  rw[zC8];exact zB9 _ _ _ 6 2 (by simp[qL1,qH3]) (by simp[qL1,qF7])
 rw[e,qQ7 _ (qJ2 2 0),qM9 2 0 (by decide) (by decide) (by decide)]
theorem xL9(N:Int):qG1 (qG7 (((qE3 N).drop 16).take 8))=0:=by
 have e:((qE3 N).drop 16).take 8=toB (qA9 8 0):=by
  rw[zC8,←List.append_assoc (toB qH3),←List.append_assoc (toB qH3++toB (qA9 2 0))];exact zB9 _ _ _ 16 8 (by simp[qL1,qF7,qH3]) (by simp[qL1,qF7])
 rw[e,qQ7 _ (qJ2 8 0),qM9 8 0 (by decide) (by decide) (by decide)]
theorem jA9:qG1 (qG7 ((qF9.drop 8).take 8))=0:=by decide
theorem jA7:qG1 (qG7 ((qF9.drop 6).take 2))=0:=by decide
theorem jB0:qG1 (qG7 ((qF9.drop 16).take 8))=0:=by decide
theorem jA8:(toB (qF1 0 0 0) == qF9.take 32)=false:=by
 have h:toB (qF1 0 0 0)=115::(toB (qF1 0 0 0)).tail:=by
  simp[qF1,qK0,qH3,toB]
 rw[h];simp[qF9,List.replicate]
structure Fresh(l:List UInt8):Prop where
 b0:qB0 l 0=qF9
 b1:qB0 l 1=qF9
structure Formatted(l:List UInt8)(N:Int):Prop where
 b0:qB0 l 0=qE3 N
 b1:qB0 l 1=qE3 (N-1)
 even:N % 2=0
 low:2≤N
 high:N≤1000000000
theorem zN5(V A n C:Nat)(calls writes:Int)(i:Nat)(l:List UInt8)(w:World)(hV:w.heap[V]?=some (qB6 A n))(h:w.heap[A]?=some (φ n C (.slice none 0 0) calls writes))(h0:0≤calls)(h1:calls≤1000000000)
  (hi:i<n) (hn:n≤1000) (hC:w.heap[C]?=some (.cells (enc l) 87)) (hs:l.length=n*128) (hAC:C≠A) (hVA:V≠A) (hb:qB0 l i=qF9):
  Calls prog 111 #[.pointer (some ⟨V,0,none⟩),.int .i64 i] w fun e w'=>e=.returned (.tuple #[.agg #[.int .u64 0,.int .i64 0,.int .u64 0],.bool false])∧
   w'.heap[A]?=some (φ n C (.slice none 0 0) (calls+1) writes)∧Kp [A] w w':=
 (zM4 V A n C calls writes i l 0 0 0 w hV h h0 h1 hi hn hC hs hAC hVA (by rw[hb];exact jA9) (by rw[hb];exact jA7) (by rw[hb];exact jB0) (by decide) (by decide) (by decide) (by decide) false (by rw[hb,jA8];simp)).mono fun e w' hr=>⟨by simpa [qI5] using hr.1,hr.2⟩
theorem zM5(V A n C:Nat)(calls writes:Int)(i:Nat)(l:List UInt8)(N:Int)(w:World)(hV:w.heap[V]?=some (qB6 A n))(h:w.heap[A]?=some (φ n C (.slice none 0 0) calls writes))(h0:0≤calls)(h1:calls≤1000000000)
  (hi:i<n) (hn:n≤1000) (hC:w.heap[C]?=some (.cells (enc l) 87)) (hs:l.length=n*128) (hAC:C≠A) (hVA:V≠A) (hb:qB0 l i=qE3 N) (hN:N % 2=i) (hN0:0≤N) (hN1:N≤1000000000):
  Calls prog 111 #[.pointer (some ⟨V,0,none⟩),.int .i64 i] w fun e w'=>e=.returned (.tuple #[.agg #[.int .u64 N,.int .i64 0,.int .u64 0],.bool true])∧
   w'.heap[A]?=some (φ n C (.slice none 0 0) (calls+1) writes)∧Kp [A] w w':=
 (zM4 V A n C calls writes i l N 0 0 w hV h h0 h1 hi hn hC hs hAC hVA (by rw[hb];exact xL8 N hN0 hN1) (by rw[hb];exact xL7 N) (by rw[hb];exact xL9 N) hN0 (by decide) (by decide) (by decide) true (by rw[hb,xL6];simp[hN])).mono fun e w' hr=>⟨by simpa [qI5] using hr.1,hr.2⟩
theorem xC1(V A n C:Nat)(calls writes:Int)(l:List UInt8)(w:World)(hV:w.heap[V]?=some (qB6 A n))(h:w.heap[A]?=some (φ n C (.slice none 0 0) calls writes))(h0:0≤calls)(h1:calls≤999999999)
  (hn2:8≤n) (hn:n≤1000) (hC:w.heap[C]?=some (.cells (enc l) 87)) (hs:l.length=n*128) (hAC:C≠A) (hVA:V≠A) (hf:Fresh l):
  Calls prog 73 #[.pointer (some ⟨V,0,none⟩)] w fun e w'=>e=.returned (.tuple #[.agg #[.int .u64 0,.int .i64 0,.int .u64 0],.bool false])∧
   w'.heap[A]?=some (φ n C (.slice none 0 0) (calls+2) writes)∧Kp [A] w w':=by
 have hVs:=η hV;have hA:=η h;have hCs:=η hC;go_enter func73,ntmps73;go_wp2_with fail;refine (zN5 V A n C calls writes 0 l _ (θ _ hV) (θ _ h) h0 (by omega) (by omega) hn (θ _ hC) hs hAC hVA hf.b0).mono ?_;rintro e w1 ⟨rfl,hA1,hK1⟩;have hR1:=hK1.heap (μ w (.cells #[.int .u64 0,.int .i64 0,.int .u64 0] 116)) (by simp;omega);have hV1:=hK1.heap (θ _ hV) (by simp[hVA]);have hC1:=hK1.heap (θ _ hC) (by simp[hAC]);have hK1':Kp [A] w w1:=((Kp.refl _ _).alloc _).tr hK1;have hA1s:=η hA1;have hR1s:=η hR1;clear hK1;go_wp2_with fail;refine (zN5 V A n C (calls+1) writes 1 l _ (θ _ hV1) (θ _ hA1) (by omega) (by omega) (by omega) hn (θ _ hC1) hs hAC hVA hf.b1).mono ?_;rintro e w2 ⟨rfl,hA2,hK2⟩;have hR2:=hK2.heap (θ _ hR1) (by simp;omega);have hH2:=hK2.heap (μ w1 (.cells #[.int .u64 0,.int .i64 0,.int .u64 0] 116)) (by simp;omega);have hK2':Kp [A] w w2:=hK1'.trans (((Kp.refl [A] _).alloc _).tr hK2) (by simp);have hH2s:=η hH2;have hR2s:=η hR2;have hA2s:=η hA2;rw[show calls+1+1=calls+2 from by omega] at hA2;clear hK2 hK1' hR1 hV1 hC1 hA1;have r0:=ξ hR2 0;have r1:=ξ hR2 1;have r2:=ξ hR2 2;have s0:=ξ hH2 0;have s1:=ξ hH2 1;have s2:=ξ hH2 2;simp at r0 r1 r2 s0 s1 s2;have rf:=ν hR2;go_wp2;have hfin:=θ (.cells #[.int .u64 0,.int .i64 0,.int .u64 0] 116) (ω (ω (ω hR2 0 (.int .u64 0)) 1 (.int .i64 0)) 2 (.int .u64 0));refine bodyPost_ret (qT9 results73 _ _ w.heap.size 116 _ _ _ rfl hfin underlying116 rfl (by kernel_rfl)) rfl ⟨rfl,?_,(((hK2'.sc _).sc _).sc _).alloc _⟩;exact θ _ ((qB1 (by omega) _ _).trans ((qB1 (by omega) _ _).trans ((qB1 (by omega) _ _).trans hA2)))
theorem zR3(V A n C:Nat)(calls writes:Int)(l:List UInt8)(N:Int)(w:World)(hV:w.heap[V]?=some (qB6 A n))(h:w.heap[A]?=some (φ n C (.slice none 0 0) calls writes))(h0:0≤calls)(h1:calls≤999999999)
  (hn2:8≤n) (hn:n≤1000) (hC:w.heap[C]?=some (.cells (enc l) 87)) (hs:l.length=n*128) (hAC:C≠A) (hVA:V≠A) (hf:Formatted l N):
  Calls prog 73 #[.pointer (some ⟨V,0,none⟩)] w fun e w'=>e=.returned (.tuple #[.agg #[.int .u64 N,.int .i64 0,.int .u64 0],.bool true])∧
   w'.heap[A]?=some (φ n C (.slice none 0 0) (calls+2) writes)∧Kp [A] w w':=by
 have hVs:=η hV;have hA:=η h;have hCs:=η hC;have hNhi:=hf.high;have hNlo:=hf.low;have hodd:(N-1) % 2=((1:Nat):Int):=by have:=hf.even;omega
 have HO:=zh hodd;clear hodd;go_enter func73,ntmps73;go_wp2_with fail;refine (zM5 V A n C calls writes 0 l N _ (θ _ hV) (θ _ h) h0 (by omega) (by omega) hn (θ _ hC) hs hAC hVA hf.b0 hf.even (by omega) hNhi).mono ?_;rintro e w1 ⟨rfl,hA1,hK1⟩;have hR1:=hK1.heap (μ w (.cells #[.int .u64 0,.int .i64 0,.int .u64 0] 116)) (by simp;omega);have hV1:=hK1.heap (θ _ hV) (by simp[hVA]);have hC1:=hK1.heap (θ _ hC) (by simp[hAC]);have hK1':Kp [A] w w1:=((Kp.refl _ _).alloc _).tr hK1;have hA1s:=η hA1;have hR1s:=η hR1;clear hK1;go_wp2_with fail;refine (zM5 V A n C (calls+1) writes 1 l (N-1) _ (θ _ hV1) (θ _ hA1) (by omega) (by omega) (by omega) hn (θ _ hC1) hs hAC hVA hf.b1 HO.out (by omega) (by omega)).mono ?_;rintro e w2 ⟨rfl,hA2,hK2⟩;have hR2:=hK2.heap (θ _ hR1) (by simp;omega);have hH2:=hK2.heap (μ w1 (.cells #[.int .u64 N,.int .i64 0,.int .u64 0] 116)) (by simp;omega);have hK2':Kp [A] w w2:=hK1'.trans (((Kp.refl [A] _).alloc _).tr hK2) (by simp);have hH2s:=η hH2;have hR2s:=η hR2;have hA2s:=η hA2;rw[show calls+1+1=calls+2 from by omega] at hA2;clear hK2 hK1' hR1 hV1 hC1 hA1;have r0:=ξ hR2 0;have r1:=ξ hR2 1;have r2:=ξ hR2 2;have s0:=ξ hH2 0;have s1:=ξ hH2 1;have s2:=ξ hH2 2;simp at r0 r1 r2 s0 s1 s2;have rf:=ν hR2;go_wp2_with fail;refine (xS0 (N-1) N 0 0 0 0 _ (by omega) (by omega) (by omega) hNhi).mono ?_;rintro e w3 ⟨rfl,hB3⟩;have hB3':=Kp.of_below hB3 (Nat.le_refl _);have hR3:=hB3'.heap (θ _ hR2) (by simp);have hA3:=hB3'.heap (θ _ hA2) (by simp);have hH3:=hB3'.heap (θ _ hH2) (by simp);have hK3:Kp [A] w w3:=(hK2'.alloc _).tr hB3';clear hB3 hB3' r0 r1 r2 s0 s1 s2 rf;have r0:=ξ hR3 0;have r1:=ξ hR3 1;have r2:=ξ hR3 2;have s0:=ξ hH3 0;have s1:=ξ hH3 1;have s2:=ξ hH3 2;simp at r0 r1 r2 s0 s1 s2;have rf:=ν hR3;go_wp2;have hfin:=ω (ω (ω hR3 0 (.int .u64 N)) 1 (.int .i64 0)) 2 (.int .u64 0);refine bodyPost_ret (qT9 results73 _ _ w.heap.size 116 _ _ _ rfl hfin underlying116 rfl (by kernel_rfl)) rfl ⟨rfl,?_,((hK3.sc _).sc _).sc _⟩;exact (qB1 (by omega) _ _).trans ((qB1 (by omega) _ _).trans ((qB1 (by omega) _ _).trans hA3))
theorem zZ7:zeroCells223=enc qF9:=by
 have h:zeroCells223.toList=(enc qF9).toList:=by kernel_rfl
 have:=congrArg List.toArray h;simpa using this
def qC3(l:List UInt8)(i:Nat)(b:List UInt8):List UInt8:=l.take (i*128)++b++l.drop (i*128+b.length)
theorem zM0{P:Program}{a:Act}{w:World}{o:Oper}{s x:Operand}{t t' e:TypeId}(ho:o.op=.call { callee:=.builtin .copy,args:=#[s,x],argTypes:=#[t,t'] })(hu:P.underlying t=some (.slice e))(hs:(P.info? e).map (·.size)=some 1)
  (g o' dLen dCap b so sLen sCap n:Nat) (hd:a.eval s=.slice (some ⟨g,o',none⟩) dLen dCap) (hx:a.eval x=.slice (some ⟨b,so,none⟩) sLen sCap) (hn:n=Nat.min sLen dLen)
  {cur src:Array Value} {tg tb:TypeId} {fr:Nat × Nat} (hg:w.heap[g]?=some (.cells cur tg)) (hb:w.heap[b]?=some (.cells src tb fr)) (hfit:o'+n≤cur.size) (hin:so+n≤src.size)
  (h1:∀ v∈(ι src so n).toList,v.oneCell'=true):
  Sem.run P (execOp a.eval o) w=.ok (.value (.int .i64 n)) (w.setRow g (qC6 cur o' (ι src so n))):=by
 have hr:=qO4 (P:=P) (w:=w) o.type (t:=t) (t':=t') hu hs (dLen:=dLen) (dCap:=dCap) (sLen:=sLen) (sCap:=sCap) n hn hg hb hfit hin h1;unfold execOp;simp only[ho,resolve,invoke,builtin,Sem.run_bind,Sem.run_pure,Result.andThen_ok,List.map_toArray,List.map_cons,List.map_nil,hd,hx,hr]
theorem zP4(V A n C:Nat)(calls writes:Int)(i:Nat)(N:Int)(l:List UInt8)(w:World)(hV:w.heap[V]?=some (qB6 A n))(h:w.heap[A]?=some (φ n C (.slice none 0 0) calls writes))(h0:0≤calls)(h1:calls≤999999999)(h0w:0≤writes)(h1w:writes≤999999999)
  (hi:i<n) (hn:n≤1000) (hC:w.heap[C]?=some (.cells (enc l) 87)) (hs:l.length=n*128) (hAC:C≠A) (hVA:V≠A) (hVC:V≠C) (hN:N % 2=i) (hN0:0≤N):
  Calls prog 100 #[.pointer (some ⟨V,0,none⟩),.agg #[.int .u64 N,.int .i64 0,.int .u64 0]] w fun e w'=>e=.returned (.tuple #[])∧
   w'.heap[A]?=some (φ n C (.slice none 0 0) (calls+2) (writes+1))∧w'.heap[C]?=some (.cells (enc (qC3 l i (qE3 N))) 87)∧Kp [A,C] w w':=by
 have hVs:=η hV;have hA:=η h;have hCs:=η hC;have HN:=zh hN;clear hN;go_enter func100,ntmps100;go_wp2_with fail;rw[zZ7];obtain⟨W1,hW1,hK1,hA1,hC1,hV1,hH1,hG1,hsz⟩:∃ W1,W1=(w.alloc (.cells #[.int .u64 N,.int .i64 0,.int .u64 0] 116)).alloc (.cells (enc qF9) 223)∧Kp [A,C] w W1∧W1.heap[A]?=some (φ n C (.slice none 0 0) calls writes)∧W1.heap[C]?=some (.cells (enc l) 87)∧W1.heap[V]?=some (qB6 A n)∧
   W1.heap[w.heap.size]?=some (.cells #[.int .u64 N,.int .i64 0,.int .u64 0] 116)∧W1.heap[w.heap.size+1]?=some (.cells (enc qF9) 223)∧W1.heap.size=w.heap.size+2:=
  ⟨_,rfl,((Kp.refl _ _).alloc _).alloc _,θ _ (θ _ h),θ _ (θ _ hC),θ _ (θ _ hV),θ _ (μ _ _),by simpa using μ (w.alloc (.cells #[.int .u64 N,.int .i64 0,.int .u64 0] 116)) (.cells (enc qF9) 223),by simp⟩
 rw[←hW1];clear hW1;refine wp_region_any (by kernel_rfl) ?_;change wpAny _ _ _ _ _ _ _ (World.drew _);refine zu 0 (.slice (some ⟨w.heap.size+1,0,none⟩) 128 128) ?_;refine zQ 1 fun K hK=>?_;refine qH4 rfl (qJ0 (t:=116) rfl (by kernel_rfl) 3 (by kernel_rfl) w.heap.size rfl (show W1.drew.heap[w.heap.size]?=_ from hH1) rfl) ?_;refine hK _ _ ?_;clear hK K;simp only[zZ];refine zQ 2 fun K hK=>?_;go_simp;refine (zG1 N 0 0 _ hN0 (by decide) (by decide) (by decide)).mono ?_;rintro e w2 ⟨v2,rfl,hO2,hB2⟩;obtain⟨g2,cap2,cur2,rfl,hg2,hcs2,hp2⟩:=zF5 hO2;have hB2':Kp [] W1.drew w2:=Kp.of_below hB2 (Nat.le_refl _);have hA2:=hB2'.heap (k:=A) hA1 (by simp);have hC2:=hB2'.heap (k:=C) hC1 (by simp);have hV2:=hB2'.heap (k:=V) hV1 (by simp);have hH2:=hB2'.heap (k:=w.heap.size) hH1 (by simp);have hG2:=hB2'.heap (k:=w.heap.size+1) hG1 (by simp);have hK2:Kp [A,C] w w2:=(hK1.drew).tr hB2';have hs2:w.heap.size+2≤w2.heap.size:=by have:=hB2.size;simp at this;omega
 clear hB2 hB2' hA1 hC1 hV1 hH1 hG1 hK1 hO2;refine hK _ _ ?_;clear hK K
 try simp only[zZ]
 refine zQ 3 fun K hK=>?_;refine qH4 rfl (zM0 rfl underlying90 Tryz.size5 (w.heap.size+1) 0 128 128 g2 0 32 cap2 32 rfl rfl (by decide) hG2 hg2 (by rw[qE5];decide) (by omega) (by rw[hp2];exact (qG8 _).one)) ?_;rw[hp2,qX7];have hblk:qF9.take 0++toB (qF1 N 0 0)++qF9.drop (0+(toB (qF1 N 0 0)).length)=qE3 N:=by
  rw[qL1,qU1];simp[qE3,qF9]
 rw[hblk];obtain⟨W3,hW3,hK3,hA3,hC3,hV3,hH3,hG3⟩:∃ W3,W3=w2.setRow (w.heap.size+1) (enc (qE3 N))∧Kp [A,C] w W3∧W3.heap[A]?=some (φ n C (.slice none 0 0) calls writes)∧W3.heap[C]?=some (.cells (enc l) 87)∧W3.heap[V]?=some (qB6 A n)∧
   W3.heap[w.heap.size]?=some (.cells #[.int .u64 N,.int .i64 0,.int .u64 0] 116)∧W3.heap[w.heap.size+1]?=some (.cells (enc (qE3 N)) 223):=
  ⟨_,rfl,hK2.setRow (Or.inr (by omega)) _,(setRow_other _ _ _ _ (by omega)).trans hA2,(setRow_other _ _ _ _ (by omega)).trans hC2,(setRow_other _ _ _ _ (by omega)).trans hV2,(setRow_other _ _ _ _ (by omega)).trans hH2,setRow_heap _ _ _ _ _ _ hG2⟩
 rw[←hW3];clear hW3 hA2 hC2 hV2 hH2 hG2 hK2 hg2 hcs2 hp2 hblk;refine hK _ _ ?_;clear hK K;refine wpAny_done (by kernel_rfl) ?_ _;simp only[zZ];go_wp2_with fail;have hhl:=qM5 N;refine wp_region_held_drew (S:=fun W=>W.heap[w.heap.size]?=some (.cells #[.int .u64 N,.int .i64 0,.int .u64 0] 116)∧W.heap[w.heap.size+1]?=some (.cells (enc (qE3 N)) 223)) (by kernel_rfl) ⟨hH3,hG3⟩ (fun _=>?_);refine zV 0 (.pointer (some ⟨V,0,none⟩)) rfl (fun W hS=>rfl) ⟨hH3,hG3⟩ ?_;refine zV 1 (.agg #[.int .u64 N,.int .i64 0,.int .u64 0]) rfl (fun W hS=>qJ0 (t:=116) rfl (by kernel_rfl) 3 (by kernel_rfl) w.heap.size rfl hS.1 rfl) ⟨hH3,hG3⟩ ?_;refine zV 3 (.agg (enc (qE3 N))) rfl (fun W hS=>qJ0 (t:=223) rfl (by kernel_rfl) 128 (by kernel_rfl) (w.heap.size+1) rfl hS.2 (by rw[qE5,qM5])) ⟨hH3,hG3⟩ ?_;refine zq 2 fun K hK=>?_;go_simp;refine (qY8 N 0 0 _ hN0).mono ?_;rintro e w4 ⟨rfl,hB4⟩;rw[HN.out];have hB4':Kp [] W3.drew w4:=Kp.of_below hB4 (Nat.le_refl _);have hA4:=hB4'.heap (k:=A) hA3 (by simp);have hC4:=hB4'.heap (k:=C) hC3 (by simp);have hV4:=hB4'.heap (k:=V) hV3 (by simp);have hH4:=hB4'.heap (k:=w.heap.size) hH3 (by simp);have hG4:=hB4'.heap (k:=w.heap.size+1) hG3 (by simp);have hK4:Kp [A,C] w w4:=(hK3.drew).tr hB4';clear hB4 hB4' hA3 hC3 hV3 hH3 hG3 hK3;refine hK.out _ _ ⟨hH4,hG4⟩ (fun _=>?_);clear hK K
 try simp only[zZ]
 refine zq 4 fun K hK=>?_;go_simp;refine (xV9 V A n C calls writes i (qE3 N) _ hV4 hA4 h0 (by omega) h0w (by omega) hi hn hhl hVA).mono ?_;rintro e w5 ⟨rfl,v5,hv5,hA5,hK5⟩;have hC5:=hK5.heap (k:=C) hC4 (by simp[hAC]);have hV5:=hK5.heap (k:=V) hV4 (by simp[hVA]);have hH5:=hK5.heap (k:=w.heap.size) hH4 (by simp;omega);have hG5:=hK5.heap (k:=w.heap.size+1) hG4 (by simp;omega);have hK5':Kp [A,C] w w5:=hK4.trans hK5 (by simp +contextual);clear hK5 hK4 hA4 hC4 hV4 hH4 hG4;refine hK.out _ _ ⟨hH5,hG5⟩ (fun _=>?_);clear hK K;refine zd ?_
 try simp only[zZ]
 clear hH5 hG5;go_wp2_with fail;refine (xW4 V A n C v5 (calls+1) (writes+1) i (enc (qE3 N)) (enc l) _ hV5 hA5 (by omega) (by omega) hv5 hi hn hC5 (by rw[qE5];exact hs) hAC).mono ?_;rintro e w6 ⟨rfl,hA6,hC6,hK6⟩;rw[show calls+1+1=calls+2 from by omega] at hA6;rw[qX7] at hC6;go_wp2
 go_end0
 exact⟨rfl,hA6,hC6,hK5'.tr hK6⟩
theorem xH5(p:Addr)(w:World):
  CallsD prog 150 #[.pointer (some p)] .returning w fun e u' w'=>e=.returned (.tuple #[])∧u'=.returning∧w'=w:=by
 refine callsD_of_wpS func150 rfl fun c₀ cs hu=>?_;apply wpS_seq;apply wpS_region;simp[wpOpsS,go_sem,recoverD,hu,ntmps150,Exit.thenS];refine wpS_cond (t:=false) (by simp[Act.eval,Array.replicate]) ?_;simp only[Bool.false_eq_true,if_false];refine wpS_of_wp (wp_skip ?_);cases c₀
 simp_all [bodyPostS,results,results150]
theorem xC6(A n C:Nat)(cache:Value)(calls writes:Int)(w:World)(h:w.heap[A]?=some (φ n C cache calls writes)):
  Calls prog 110 #[.iface 23 (.pointer (some ⟨A,0,none⟩))] w fun e w'=>e=.returned (.int .i64 n)∧Kp [] w w':=by
 have hmf:=zM;have hA:=η h
 go_enter_defers func110,ntmps110
 go_wp2_with fail;refine (xF0 A n C cache calls writes _ (θ _ h)).mono ?_;rintro e w1 ⟨rfl,rfl⟩;go_wp2;refine leaves_cons (f:=150) (args:=#[.pointer (some ⟨w.heap.size,0,none⟩)]) (by simp) (by simp[go_sem]) ?_;refine (xH5 ⟨w.heap.size,0,none⟩ _).mono ?_;rintro e u' w'' ⟨rfl,rfl,rfl⟩;simp[Leaves,settle,results,results110,go_sem];exact (Kp.refl _ _).alloc _
theorem zH7(A n C:Nat)(cache:Value)(calls writes:Int)(w:World)(h:w.heap[A]?=some (φ n C cache calls writes))(h8:8≤n)(h400:n≤400):
  Calls prog 72 #[.iface 23 (.pointer (some ⟨A,0,none⟩))] w fun e w'=>∃ V,e=.returned (.pointer (some ⟨V,0,none⟩))∧w.heap.size≤V∧w'.heap[V]?=some (qB6 A n)∧Kp [] w w':=by
 go_enter func72,ntmps72;go_wp2_with fail;refine (xC6 A n C cache calls writes _ h).mono ?_;rintro e w1 ⟨rfl,hK1⟩;have hd:decide ((n:Int)<8)=false:=by simp;omega
 have hd2:decide ((400:Int)<(n:Int))=false:=by simp;omega
 have hs1:=hK1.size;go_wp2;go_ret;exact⟨_,rfl,hs1,μ _ _,hK1.alloc _⟩
theorem jA5(k:Int)(w:World):
  Calls prog 109 #[.iface 162 (.agg #[.iface 46 (.int .i64 k)])] w fun e w'=>e=.returned (.iface 46 (.int .i64 k))∧Kp [] w w':=by
 have hta:∀ W:World,Sem.run prog (Instr.typeAssert (.iface 162 (.agg #[.iface 46 (.int .i64 k)])) 20 162 true) W=.ok (.tuple #[.agg #[.iface 46 (.int .i64 k)],.bool true]) W:=fun W=>by kernel_rfl
 go_enter func109,ntmps109;go_wp2;go_ret;exact⟨rfl,(Kp.refl _ _).alloc _⟩
theorem xG0(p q:Addr)(w:World):
  CallsD prog 108 #[.pointer (some p),.pointer (some q)] .returning w fun e u' w'=>e=.returned (.tuple #[])∧u'=.returning∧w'=w:=by
 refine callsD_of_wpS func108 rfl fun c₀ cs hu=>?_;apply wpS_seq;apply wpS_region;simp[wpOpsS,go_sem,recoverD,hu,ntmps108,Exit.thenS,Array.replicate];refine wpS_of_wp ?_;go_wp2;cases c₀
 simp_all [bodyPostS,results,results108]
theorem zK2(B E:Nat)(k:Int)(call:ByteArray)(w:World)(hp:w.heap[B]?=some (.cells #[.string call] 9))(hBE:B≠E)(hE:w.heap[E]?=some (.cells #[.nilIface] 35)):
  CallsD prog 108 #[.pointer (some ⟨B,0,none⟩),.pointer (some ⟨E,0,none⟩)] (.panicking [{ v:=.iface 162 (.agg #[.iface 46 (.int .i64 k)]),recovered:=false }]) w fun e u' w'=>
   e=.returned (.tuple #[])∧u'=.panicking [{ v:=.iface 162 (.agg #[.iface 46 (.int .i64 k)]),recovered:=true }]∧∃ F,w.heap.size≤F∧w'.heap[F]?=some (.cells #[.string call,.iface 46 (.int .i64 k)] 183)∧w'.heap[E]?=some (.cells #[.iface 180 (.pointer (some ⟨F,0,none⟩))] 35)∧Kp [E] w w':=by
 refine callsD_of_wpS func108 rfl fun c₀ cs hu=>?_;apply wpS_seq;apply wpS_region;simp[wpOpsS,go_sem,recoverD,hu,ntmps108,Exit.thenS,Array.replicate];refine wpS_of_wp ?_;go_wp2_with fail;refine wp_region_held_drew (S:=fun W=>W.heap[B]?=some (.cells #[.string call] 9)) (by kernel_rfl) hp (fun _=>?_);refine zV 1 (.iface 162 (.agg #[.iface 46 (.int .i64 k)])) rfl (fun W hS=>rfl) hp ?_;refine zV 0 (.string call) rfl (fun W hS=>by have c:=ξ hS 0;simp at c;clear hS;go_simp) hp ?_;refine zq 2 fun K hK=>?_;go_simp;refine (jA5 k _).mono ?_;rintro e w2 ⟨rfl,hK2⟩;have hp2:=hK2.heap (k:=B) hp (by simp);have hE2:=hK2.heap (k:=E) hE (by simp);have hK2':Kp [E] w w2:=((Kp.refl [E] w).drew).tr hK2;have hs2:=hK2'.size;clear hK2;refine hK.out _ _ hp2 (fun _=>?_);clear hK K
 try simp only[zZ]
 refine zU 3 (.agg #[.string call,.iface 46 (.int .i64 k)]) hp2 ?_;refine zq 4 fun K hK=>?_;go_simp;refine hK.out _ _ (θ _ hp2) (fun _=>?_);clear hK K
 try simp only[zZ]
 have hp3:=θ (.cells #[.string call,.iface 46 (.int .i64 k)] 183) hp2;have hE3:=θ (.cells #[.string call,.iface 46 (.int .i64 k)] 183) hE2;have hF3:=μ w2 (.cells #[.string call,.iface 46 (.int .i64 k)] 183);have hK3:=hK2'.alloc (.cells #[.string call,.iface 46 (.int .i64 k)] 183);refine zU 5 (.iface 180 (.pointer (some ⟨w2.heap.size,0,none⟩))) hp3 ?_;generalize w2.alloc (.cells #[.string call,.iface 46 (.int .i64 k)] 183)=W3 at *;have hF3s:=η hF3;have hE2s:=η hE2;have e0:=ξ hE3 0;simp at e0;have ef:=ν hE3 0;refine zq 6 fun K hK=>?_;go_simp;refine hK.out _ _ ((qB1 hBE _ _).trans hp3) (fun _=>?_);clear hK K;refine zd ?_;exact⟨rfl,_,rfl,_,results_none results108 _ _ _,rfl,rfl,w2.heap.size,hs2,(qB1 (by omega) _ _).trans hF3,ω hE3 0 _,hK3.sc _⟩
theorem qV9(f:Nat)(cap:Array Value)(call:ByteArray)(w:World)(R:World→Prop)(hcf:∀ W:World,Sem.run prog (callFunc f cap) W=.ok (.enter f cap) W)
  (hw:Calls prog f cap ((w.alloc (.cells #[.string call] 9)).alloc (.cells #[.nilIface] 35)) fun e w'=>e=.returned (.tuple #[])∧R w'∧w'.heap[w.heap.size+1]?=some (.cells #[.nilIface] 35)):
  Calls prog 70 #[.string call,.func (.func f) #[] cap] w fun e w'=>e=.returned .nilIface∧∃ w1,R w1∧w'=w1.setCell ⟨w.heap.size+1,0,none⟩ .nilIface:=by
 have hmf:=zM;have HW:=zh hw;clear hw
 go_enter_defers func70,ntmps70
 go_wp2_with fail;refine (show Calls _ _ _ _ _ from HW.out).mono ?_;rintro e w1 ⟨rfl,hR,hE⟩;have e0:=ξ hE 0;simp at e0;have ef:=ν hE 0;go_wp2;refine leaves_cons (f:=108) (args:=#[.pointer (some ⟨w.heap.size,0,none⟩),.pointer (some ⟨w.heap.size+1,0,none⟩)]) (by simp) (by simp[go_sem]) ?_;refine (xG0 ⟨w.heap.size,0,none⟩ ⟨w.heap.size+1,0,none⟩ _).mono ?_;rintro e u' w'' ⟨rfl,rfl,rfl⟩;simp[Leaves,settle,results,results70,go_sem,e0];exact⟨w1,hR,rfl⟩
theorem qZ0(l:List UInt8)(i:Nat)(b:List UInt8)(h:i*128+b.length≤l.length):(qC3 l i b).length=l.length:=by simp[qC3];omega
theorem zB2(l:List UInt8)(i:Nat)(b:List UInt8)(hb:b.length=128)(h:i*128+128≤l.length):qB0 (qC3 l i b) i=b:=by
 unfold qB0 qC3;rw[List.append_assoc,List.drop_append_of_le_length (by simp;omega),List.drop_of_length_le (by simp;omega),List.nil_append,List.take_append_of_le_length (by omega),List.take_of_length_le (by omega)]
theorem xE9(l:List UInt8)(b:List UInt8)(hb:b.length=128)(h:256≤l.length):qB0 (qC3 l 0 b) 1=qB0 l 1:=by
 unfold qB0 qC3;simp only[Nat.zero_mul,List.take_zero,List.nil_append,Nat.zero_add,hb,Nat.one_mul];rw[List.drop_append_of_le_length (by omega),List.drop_of_length_le (by omega),List.nil_append]
def qK5(l:List UInt8)(N:Int):List UInt8:=qC3 (qC3 l 1 (qE3 (N+1))) 0 (qE3 (N+2))
theorem xB0(l:List UInt8)(N:Int)(h:256≤l.length):(qK5 l N).length=l.length:=by
 have h1:=qZ0 l 1 (qE3 (N+1)) (by rw[qM5];omega);rw[qK5,qZ0 _ _ _ (by rw[qM5];omega),h1]
theorem xB1(l:List UInt8)(N:Int)(h:256≤l.length)(h0:0≤N)(he:N % 2=0)(h1:N≤999999998):Formatted (qK5 l N) (N+2):=by
 have hl:=qZ0 l 1 (qE3 (N+1)) (by rw[qM5];omega);refine⟨zB2 _ _ _ (qM5 _) (by omega),?_,by omega,by omega,by omega⟩;rw[qK5,xE9 _ _ (qM5 _) (by omega),zB2 _ _ _ (qM5 _) (by omega)]
 congr 1;omega
theorem xK2(D A n C:Nat)(calls writes:Int)(l:List UInt8)(N:Int)(w:World)(hD:w.heap[D]?=some (.cells #[.iface 23 (.pointer (some ⟨A,0,none⟩))] 129))(h:w.heap[A]?=some (φ n C (.slice none 0 0) calls writes))(h0:0≤calls)(h1:calls≤999999000)(h0w:0≤writes)(h1w:writes≤999999000)
  (h8:8≤n) (h400:n≤400) (hC:w.heap[C]?=some (.cells (enc l) 87)) (hs:l.length=n*128) (hAC:C≠A) (hst:(Fresh l∧N=0)∨Formatted l N) (hN0:0≤N) (hNe:N % 2=0) (hN1:N≤999999000):
  Calls prog 98 #[.pointer (some ⟨D,0,none⟩)] w fun e w'=>e=.returned (.tuple #[])∧
   w'.heap[A]?=some (φ n C (.slice none 0 0) (calls+6) (writes+2))∧w'.heap[C]?=some (.cells (enc (qK5 l N)) 87)∧Kp [A,C] w w':=by
 have hDs:=η hD;have hA:=η h;have hCs:=η hC;have c0:=ξ hD 0;simp at c0;have HE:=zh hNe;clear hNe;go_enter func98,ntmps98;go_wp2_with fail;refine (zH7 A n C (.slice none 0 0) calls writes _ h h8 h400).mono ?_;rintro e w1 ⟨V,rfl,hVs,hV1,hK1⟩;have hA1:=hK1.hp h;have hC1:=hK1.hp hC;have hK1':Kp [A,C] w w1:=hK1.mono (by simp);have hVA:V≠A:=by omega
 have hVC:V≠C:=by omega
 clear hK1;go_wp2_with fail;have hnew:Calls prog 73 #[.pointer (some ⟨V,0,none⟩)] w1 fun e w'=>(∃ b,e=.returned (.tuple #[.agg #[.int .u64 N,.int .i64 0,.int .u64 0],.bool b]))∧w'.heap[A]?=some (φ n C (.slice none 0 0) (calls+2) writes)∧Kp [A] w1 w':=by
  rcases hst with⟨hf,rfl⟩|hf
  ·exact (xC1 V A n C calls writes l w1 hV1 hA1 h0 (by omega) h8 (by omega) hC1 hs hAC hVA hf).mono fun e w' hr=>⟨⟨_,hr.1⟩,hr.2⟩
  ·exact (zR3 V A n C calls writes l N w1 hV1 hA1 h0 (by omega) h8 (by omega) hC1 hs hAC hVA hf).mono fun e w' hr=>⟨⟨_,hr.1⟩,hr.2⟩
 refine hnew.mono ?_;rintro e w2 ⟨⟨b,rfl⟩,hA2,hK2⟩;clear hnew hst;have hV2:=hK2.heap hV1 (by simp[hVA]);have hC2:=hK2.heap hC1 (by simp[hAC]);have hK2':Kp [A,C] w w2:=hK1'.tr hK2;have hVl:=η hV1;have hs2:=hK2.size;have hs1:=hK1'.size;clear hK2 hK1' hA1 hC1 hV1 c0;go_wp2;obtain⟨H,hHd⟩:∃ H,H=w2.heap.size:=⟨_,rfl⟩;rw[←hHd];have hHw:w.heap.size≤H:=by omega
 have hHA:A≠H:=by omega
 have hHC:C≠H:=by omega
 have hHV:V≠H:=by omega
 obtain⟨W3,hW3,hK3,hA3,hC3,hV3,hH3⟩:∃ W3,W3=w2.alloc (.cells #[.int .u64 N,.int .i64 0,.int .u64 0] 116)∧Kp [A,C] w W3∧W3.heap[A]?=some (φ n C (.slice none 0 0) (calls+2) writes)∧W3.heap[C]?=some (.cells (enc l) 87)∧W3.heap[V]?=some (qB6 A n)∧W3.heap[H]?=some (.cells #[.int .u64 N,.int .i64 0,.int .u64 0] 116):=
  ⟨_,rfl,hK2'.alloc _,θ _ hA2,θ _ hC2,θ _ hV2,by rw[hHd];exact μ _ _⟩
 rw[←hW3];clear hW3 hK2' hA2 hC2 hV2 hHd hs2 hs1;have HHA:=zh hHA;have HHC:=zh hHC;have HHV:=zh hHV;clear hHA hHC hHV;have x0:=ξ hH3 0;have x1:=ξ hH3 1;have x2:=ξ hH3 2;simp at x0 x1 x2;refine wp_loop_rounds 3 ?_;rw[rounds_succ];go_wp2_with fail;refine (qY4 N 0 0 0 0 _ (by omega) (by omega)).mono ?_;rintro e W3a ⟨rfl,hB3a⟩;have hB3a':=Kp.of_below hB3a (Nat.le_refl _);have hA3a:=hB3a'.hp hA3;have hC3a:=hB3a'.hp hC3;have hV3a:=hB3a'.hp hV3;have hH3a:=hB3a'.hp hH3;have hK3a:Kp [A,C] w W3a:=hK3.tr hB3a';clear hB3a hB3a' hA3 hC3 hV3 hH3 hK3 x0 x1 x2;have x0:=ξ hH3a 0;have x1:=ξ hH3a 1;have x2:=ξ hH3a 2;simp at x0 x1 x2;have y0:=ν hH3a;go_wp2_with fail;obtain⟨W3b,hW3b,hK3b,hA3b,hC3b,hV3b,hH3b⟩:∃ W3b,W3b=((W3a.setCell ⟨H,0,none⟩ (.int .u64 (N+1))).setCell ⟨H,1,none⟩ (.int .i64 0)).setCell ⟨H,2,none⟩ (.int .u64 0)∧Kp [A,C] w W3b∧W3b.heap[A]?=some (φ n C (.slice none 0 0) (calls+2) (writes))∧W3b.heap[C]?=some (.cells (enc (l)) 87)∧W3b.heap[V]?=some (qB6 A n)∧W3b.heap[H]?=some (.cells #[.int .u64 (N+1),.int .i64 0,.int .u64 0] 116):=
  ⟨_,rfl,((hK3a.setCell (Or.inr hHw) _).setCell (Or.inr hHw) _).setCell (Or.inr hHw) _,(qB1 HHA.out _ _).trans ((qB1 HHA.out _ _).trans ((qB1 HHA.out _ _).trans hA3a)),(qB1 HHC.out _ _).trans ((qB1 HHC.out _ _).trans ((qB1 HHC.out _ _).trans hC3a)),(qB1 HHV.out _ _).trans ((qB1 HHV.out _ _).trans ((qB1 HHV.out _ _).trans hV3a)),ω (ω (ω hH3a 0 _) 1 _) 2 _⟩
 rw[←hW3b];clear hW3b hK3a hA3a hC3a hV3a hH3a x0 x1 x2 y0;refine (zP4 V A n C (calls+2) (writes) 1 (N+1) (l) _ hV3b hA3b (by omega) (by omega) (by omega) (by omega) (by omega) (by omega) hC3b hs hAC hVA hVC (by have:=HE.out;omega) (by omega)).mono ?_;rintro e W3c ⟨rfl,hA3c,hC3c,hK3c'⟩;have hV3c:=hK3c'.heap hV3b (by simp[hVA,hVC]);have hH3c:=hK3c'.ho hH3b;have hK3c:Kp [A,C] w W3c:=hK3b.tr hK3c';clear hK3c' hK3b hA3b hC3b hV3b hH3b;have x0:=ξ hH3c 0;have x1:=ξ hH3c 1;have x2:=ξ hH3c 2;simp at x0 x1 x2;have hsl:(qC3 l 1 (qE3 (N+1))).length=n*128:=by rw[qZ0 _ _ _ (by rw[qM5];omega)];exact hs
 go_wp2_with fail;rw[rounds_succ];go_wp2_with fail;refine (qY4 (N+1) 0 0 0 0 _ (by omega) (by omega)).mono ?_;rintro e W3ca ⟨rfl,hB3ca⟩;have hB3ca':=Kp.of_below hB3ca (Nat.le_refl _);have hA3ca:=hB3ca'.hp hA3c;have hC3ca:=hB3ca'.hp hC3c;have hV3ca:=hB3ca'.hp hV3c;have hH3ca:=hB3ca'.hp hH3c;have hK3ca:Kp [A,C] w W3ca:=hK3c.tr hB3ca';clear hB3ca hB3ca' hA3c hC3c hV3c hH3c hK3c x0 x1 x2;have x0:=ξ hH3ca 0;have x1:=ξ hH3ca 1;have x2:=ξ hH3ca 2;simp at x0 x1 x2;have y0:=ν hH3ca;go_wp2_with fail;obtain⟨W3cb,hW3cb,hK3cb,hA3cb,hC3cb,hV3cb,hH3cb⟩:∃ W3cb,W3cb=((W3ca.setCell ⟨H,0,none⟩ (.int .u64 ((N+1)+1))).setCell ⟨H,1,none⟩ (.int .i64 0)).setCell ⟨H,2,none⟩ (.int .u64 0)∧Kp [A,C] w W3cb∧W3cb.heap[A]?=some (φ n C (.slice none 0 0) (calls+2+2) (writes+1))∧W3cb.heap[C]?=some (.cells (enc (qC3 l 1 (qE3 (N+1)))) 87)∧W3cb.heap[V]?=some (qB6 A n)∧W3cb.heap[H]?=some (.cells #[.int .u64 ((N+1)+1),.int .i64 0,.int .u64 0] 116):=
  ⟨_,rfl,((hK3ca.setCell (Or.inr hHw) _).setCell (Or.inr hHw) _).setCell (Or.inr hHw) _,(qB1 HHA.out _ _).trans ((qB1 HHA.out _ _).trans ((qB1 HHA.out _ _).trans hA3ca)),(qB1 HHC.out _ _).trans ((qB1 HHC.out _ _).trans ((qB1 HHC.out _ _).trans hC3ca)),(qB1 HHV.out _ _).trans ((qB1 HHV.out _ _).trans ((qB1 HHV.out _ _).trans hV3ca)),ω (ω (ω hH3ca 0 _) 1 _) 2 _⟩
 rw[←hW3cb];clear hW3cb hK3ca hA3ca hC3ca hV3ca hH3ca x0 x1 x2 y0;refine (zP4 V A n C (calls+2+2) (writes+1) 0 ((N+1)+1) (qC3 l 1 (qE3 (N+1))) _ hV3cb hA3cb (by omega) (by omega) (by omega) (by omega) (by omega) (by omega) hC3cb hsl hAC hVA hVC (by have:=HE.out;omega) (by omega)).mono ?_;rintro e W3cc ⟨rfl,hA3cc,hC3cc,hK3cc'⟩;have hV3cc:=hK3cc'.heap hV3cb (by simp[hVA,hVC]);have hH3cc:=hK3cc'.ho hH3cb;have hK3cc:Kp [A,C] w W3cc:=hK3cb.tr hK3cc';clear hK3cc' hK3cb hA3cb hC3cb hV3cb hH3cb;go_wp2_with fail;rw[rounds_succ];go_wp2
 go_end0
 rw[show calls+2+2+2=calls+6 from by omega,show writes+1+1=writes+2 from by omega] at hA3cc;rw[show N+1+1=N+2 from by omega] at hC3cc;exact⟨rfl,hA3cc,hC3cc,hK3cc⟩
theorem xA2(args:Array Value)(W:World):Sem.run prog (callFunc 98 args) W=.ok (.enter 98 args) W:=by
 simp[go_sem,func98]
theorem xB2(A n C:Nat)(calls writes:Int)(l:List UInt8)(N:Int)(w:World)(h:w.heap[A]?=some (φ n C (.slice none 0 0) calls writes))(h0:0≤calls)(h1:calls≤999999000)(h0w:0≤writes)(h1w:writes≤999999000)
  (h8:8≤n) (h400:n≤400) (hC:w.heap[C]?=some (.cells (enc l) 87)) (hs:l.length=n*128) (hAC:C≠A) (hst:(Fresh l∧N=0)∨Formatted l N) (hN0:0≤N) (hNe:N % 2=0) (hN1:N≤999999000):
  Calls prog 35 #[.pointer (some ⟨A,0,none⟩)] w fun e w'=>e=.returned .nilIface∧
   w'.heap[A]?=some (φ n C (.slice none 0 0) (calls+6) (writes+2))∧w'.heap[C]?=some (.cells (enc (qK5 l N)) 87)∧Kp [A,C] w w':=by
 have hA:=η h;have hCs:=η hC;have hmf:=zM;have HE:=zh hNe;clear hNe;go_enter func35,ntmps35
 go_wp2_with (go_at_call 60;go_in)
 obtain⟨W0,hW0,hK0,hs0⟩:∃ W0,W0=w.alloc (.cells #[.iface 23 (.pointer (some ⟨A,0,none⟩))] 129)∧Kp [] w W0∧W0.heap.size=w.heap.size+1:=⟨_,rfl,(Kp.refl _ _).alloc _,by simp⟩;have hD0:W0.heap[w.heap.size]?=some (.cells #[.iface 23 (.pointer (some ⟨A,0,none⟩))] 129):=by rw[hW0];exact μ _ _
 rw[←hW0];clear hW0;have hA0:=hK0.hp h;have hC0:=hK0.hp hC;refine (qV9 98 _ _ _ (fun w'=>w'.heap[A]?=some (φ n C (.slice none 0 0) (calls+6) (writes+2))∧w'.heap[C]?=some (.cells (enc (qK5 l N)) 87)∧Kp [A,C] w w') (xA2 _) ?_).mono ?_
 ·refine (xK2 w.heap.size A n C calls writes l N _ (θ _ (θ _ hD0)) (θ _ (θ _ hA0)) h0 h1 h0w h1w h8 h400 (θ _ (θ _ hC0)) hs hAC hst hN0 HE.out hN1).mono ?_;rintro e w1 ⟨rfl,hA1,hC1,hK1⟩;refine⟨rfl,⟨hA1,hC1,(((hK0.mono (S':=[A,C]) (by simp)).alloc _).alloc _).tr hK1⟩,hK1.heap ?_ (by simp;omega)⟩;have e:=μ (W0.alloc (.cells #[.string ⟨#[70,111,114,109,97,116]⟩] 9)) (.cells #[.nilIface] 35);simpa using e
 rintro e w2 ⟨rfl,w1,⟨hA1,hC1,hK1⟩,rfl⟩;go_wp2;go_ret;exact⟨rfl,(qB1 (by omega) _ _).trans hA1,(qB1 (by omega) _ _).trans hC1,hK1.setCell (Or.inr (by simp;omega)) _⟩
def xX3(V:Nat):Value:=.agg #[.pointer (some ⟨V,0,none⟩),.string ⟨#[]⟩,.int .i64 0,.int .u64 0,.pointer none]
theorem xD7(V:Nat)(w:World):
  Calls prog 74 #[.pointer (some ⟨V,0,none⟩),.agg #[.int .i64 0,.int .u64 0]] w fun e w'=>e=.returned (xX3 V)∧Kp [] w w':=by
 go_enter func74,ntmps74;go_wp2;refine bodyPost_ret (results_cell_row results74 _ _ (w.heap.size+1) 83 #[.pointer (some ⟨V,0,none⟩),.string ⟨#[]⟩,.int .i64 0,.int .u64 0,.pointer none] (0,0) _ rfl ?_ underlying83 rfl (by kernel_rfl)) rfl ⟨rfl,((Kp.refl _ _).alloc _).alloc _⟩;have e:=μ (w.alloc (.cells #[.int .i64 0,.int .u64 0] 78)) (.cells #[.pointer (some ⟨V,0,none⟩),.string ⟨#[]⟩,.int .i64 0,.int .u64 0,.pointer none] 83);simpa using e
theorem xI7(d:Nat)(W:World):Sem.run prog (Op.equalIn (d+1) 79 (.pointer none) (.pointer none)) W=.ok true W:=by
 simp[Op.equalIn,run_underlying underlying79]
theorem xI3(V:Nat)(w:World):
  Calls prog 85 #[.agg #[.pointer (some ⟨V,0,none⟩),.string ⟨#[]⟩,.int .i64 0,.int .u64 0,.pointer none]] w fun e w'=>e=.returned (.bool true)∧Kp [] w w':=by
 have heq:∀ W:World,Sem.run prog (Op.equalIn 9999 79 (.pointer none) (.pointer none)) W=.ok true W:=fun W=>xI7 9998 W;go_enter func85,ntmps85;go_wp2;go_ret;exact⟨rfl,(Kp.refl _ _).alloc _⟩
theorem xH0(V:Nat)(w:World):
  Calls prog 75 #[.agg #[.pointer (some ⟨V,0,none⟩),.string ⟨#[]⟩,.int .i64 0,.int .u64 0,.pointer none]] w fun e w'=>e=.returned (.int .i64 0)∧Kp [] w w':=by
 go_enter func75,ntmps75;go_wp2_with fail;refine (xI3 V _).mono ?_;rintro e w1 ⟨rfl,hK1⟩;have hc:w1.heap[w.heap.size+1]?=some (.cells #[.pointer (some ⟨V,0,none⟩),.int .i64 0,.string { data:=#[] }] 191):=hK1.heap (by
  have e:=μ (w.alloc (.cells #[.pointer (some ⟨V,0,none⟩),.string { data:=#[] },.int .i64 0,.int .u64 0,.pointer none] 83)) (.cells #[.pointer (some ⟨V,0,none⟩),.int .i64 0,.string { data:=#[] }] 191);simpa using e) (by simp)
 have hK1':Kp [] w w1:=(((Kp.refl [] w).alloc _).alloc _).tr hK1;clear hK1;have c1:=ξ hc 1;simp at c1;go_wp2;go_ret;exact⟨rfl,hK1'⟩
structure Sto where
 V:Nat
 M:Nat
 N:Int
 rb:Int
 rs:Int
 bl:Int
 po:Bool
 bg:Int
 wr:Int
def ρ(lk:Int)(s:Sto):Obj:=
 .cells #[.int .i32 lk,.int .u32 0,.pointer (some ⟨s.V,0,none⟩),.int .u64 s.N,.int .i64 s.rb,.int .u64 s.rs,.int .i64 s.bl,.bool s.po,.int .u64 s.bg,.int .u64 s.wr,.map (some s.M)] 126
def qF5(V M:Nat)(N:Int):Sto:=⟨V,M,N,0,0,0,false,0,0⟩
theorem zZ2(V A n:Nat)(w:World)(hV:w.heap[V]?=some (qB6 A n)):
  Calls prog 97 #[.pointer (some ⟨V,0,none⟩)] w fun e w'=>e=.returned (.int .i64 n)∧w'=w:=by
 have c1:=ξ hV 1;simp at c1;clear hV;go_enter func97,ntmps97;go_wp2;go_ret;exact⟨rfl,rfl⟩
theorem xT1(D X A n C:Nat)(calls writes:Int)(l:List UInt8)(N:Int)(w:World)(hD:w.heap[D]?=some (.cells #[.iface 23 (.pointer (some ⟨A,0,none⟩))] 129))(hX:w.heap[X]?=some (.cells #[.pointer none] 24))(h:w.heap[A]?=some (φ n C (.slice none 0 0) calls writes))(h0:0≤calls)(h1:calls≤999999000)
  (h8:8≤n) (h400:n≤400) (hC:w.heap[C]?=some (.cells (enc l) 87)) (hs:l.length=n*128) (hAC:C≠A) (hXA:X≠A) (hf:Formatted l N):
  Calls prog 71 #[.pointer (some ⟨D,0,none⟩),.pointer (some ⟨X,0,none⟩)] w fun e w'=>e=.returned (.tuple #[])∧
   w'.heap[A]?=some (φ n C (.slice none 0 0) (calls+3) writes)∧(∃ V M St Db,w.heap.size≤V∧w.heap.size≤M∧w.heap.size≤St∧w.heap.size≤Db∧w'.heap[V]?=some (qB6 A n)∧w'.heap[M]?=some (.map #[] 0)∧w'.heap[St]?=some (ρ 0 (qF5 V M N))∧w'.heap[Db]?=some (.cells #[.pointer (some ⟨St,0,none⟩)] 95)∧w'.heap[X]?=some (.cells #[.pointer (some ⟨Db,0,none⟩)] 24))∧Kp [A,X] w w':=by
 have hDs:=η hD;have hXs:=η hX;have hA:=η h;have hCs:=η hC;have c0:=ξ hD 0;simp at c0;go_enter func71,ntmps71;go_wp2_with fail;refine (zH7 A n C (.slice none 0 0) calls writes _ h h8 h400).mono ?_;rintro e w1 ⟨V,rfl,hVs,hV1,hK1⟩;have hA1:=hK1.hp h;have hC1:=hK1.hp hC;have hX1:=hK1.hp hX;have hK1':Kp [A,X] w w1:=hK1.mono (by simp);have HVA:Hid (V≠A):=by show V≠A;omega
 have HXA:=zh hXA;clear hK1 hXA;go_wp2_with fail;refine (zR3 V A n C calls writes l N w1 hV1 hA1 h0 (by omega) h8 (by omega) hC1 hs hAC HVA.out hf).mono ?_;rintro e w2 ⟨rfl,hA2,hK2⟩;have hV2:=hK2.heap hV1 (by simp[HVA.out]);have hX2:=hK2.heap hX1 (by simp[HXA.out]);have hK2':Kp [A,X] w w2:=hK1'.trans hK2 (by simp +contextual);have hs1:=hK1'.size;have hs2:=hK2.size;have hVl:=η hV1;clear hK2 hK1' hA1 hC1 hV1 hX1 c0;go_wp2_with fail;obtain⟨H,hHd⟩:∃ H,H=w2.heap.size:=⟨_,rfl⟩;rw[←hHd];obtain⟨W3,hW3,hK3,hA3,hX3,hV3,hH3⟩:∃ W3,W3=w2.alloc (.cells #[.int .u64 N,.int .i64 0,.int .u64 0] 116)∧Kp [A,X] w W3∧W3.heap[A]?=some (φ n C (.slice none 0 0) (calls+2) writes)∧W3.heap[X]?=some (.cells #[.pointer none] 24)∧W3.heap[V]?=some (qB6 A n)∧W3.heap[H]?=some (.cells #[.int .u64 N,.int .i64 0,.int .u64 0] 116):=
  ⟨_,rfl,hK2'.alloc _,θ _ hA2,θ _ hX2,θ _ hV2,by rw[hHd];exact μ _ _⟩
 rw[←hW3];have hHb:w2.heap.size≤H:=by omega
 clear hW3 hK2' hA2 hX2 hV2 hHd;have hHs:=η hH3;refine (xD7 V _).mono ?_;rintro e W4 ⟨rfl,hK40⟩;have hA4:=hK40.hp hA3;have hX4:=hK40.hp hX3;have hV4:=hK40.hp hV3;have hH4:=hK40.hp hH3;have hK4:Kp [A,X] w W4:=hK3.tr hK40;have hs4:=hK40.size;clear hK40 hA3 hX3 hV3 hH3 hK3;go_wp2_with fail;refine (xH0 V _).mono ?_;rintro e W5 ⟨rfl,hK50⟩;have hA5:=hK50.hp hA4;have hX5:=hK50.hp hX4;have hV5:=hK50.hp hV4;have hH5:=hK50.hp hH4;have hK5:Kp [A,X] w W5:=hK4.tr hK50;have hs5:=hK50.size;clear hK50 hA4 hX4 hV4 hH4 hK4;go_wp2_with fail;refine (xW3 V A n C (calls+2) writes _ hV5 hA5 (by omega) (by omega)).mono ?_;rintro e W6 ⟨rfl,hA6,hK60⟩;rw[show calls+2+1=calls+3 from by omega] at hA6;have hX6:=hK60.heap hX5 (by simp[HXA.out]);have hV6:=hK60.heap hV5 (by simp[HVA.out]);have hH6:=hK60.ho hH5;have hK6:Kp [A,X] w W6:=hK5.trans hK60 (by simp +contextual);have hs6:=hK60.size;have hXH:X≠H:=by omega
 have HXH:=zh hXH;have HXV:Hid (X≠V):=by show X≠V;omega
 have hsW6:=hK6.size;clear hK60 hA5 hX5 hV5 hH5 hK5 hXH;have hmm:=@run_makeMap prog;have z0:=ξ hH6;have x0:=ξ hX6 0;simp only[zG,zH,zI] at x0;have fx0:=ν hX6 0;have hX6s:=η hX6;have hX6a:X<W6.heap.size+1:=by omega
 have hX6b:X<W6.heap.size+1+1:=by omega
 go_wp2
 go_end0
 obtain⟨U,hU,hKU,hAU,hVU,hXU,hsU⟩:∃ U,U=W6.setCell ⟨X,0,none⟩ (.pointer (some ⟨W6.heap.size+1+1,0,none⟩))∧Kp [A,X] w U∧U.heap[A]?=some (φ n C (.slice none 0 0) (calls+3) writes)∧U.heap[V]?=some (qB6 A n)∧U.heap[X]?=some (.cells #[.pointer (some ⟨W6.heap.size+1+1,0,none⟩)] 24)∧U.heap.size=W6.heap.size:=
  ⟨_,rfl,hK6.sc _,(qB1 (fun e=>HXA.out e.symm) _ _).trans hA6,(qB1 (fun e=>HXV.out e.symm) _ _).trans hV6,ω hX6 0 _,by simp[World.setCell]⟩
 rw[←hU];have e1:=μ U (.map #[] 0);have e2:=μ (U.alloc (.map #[] 0)) (ρ 0 (qF5 V W6.heap.size N));have e3:=μ ((U.alloc (.map #[] 0)).alloc (ρ 0 (qF5 V W6.heap.size N))) (.cells #[.pointer (some ⟨W6.heap.size+1,0,none⟩)] 95);rw[hsU] at e1;rw[show (U.alloc (.map #[] 0)).heap.size=W6.heap.size+1 from by simp[hsU]] at e2;rw[show ((U.alloc (.map #[] 0)).alloc (ρ 0 (qF5 V W6.heap.size N))).heap.size=W6.heap.size+1+1 from by simp[hsU]] at e3;exact⟨rfl,θ _ (θ _ (θ _ hAU)),⟨V,W6.heap.size,W6.heap.size+1,W6.heap.size+1+1,hVs,by omega,by omega,by omega,θ _ (θ _ (θ _ hVU)),θ _ (θ _ e1),θ _ e2,e3,θ _ (θ _ (θ _ hXU))⟩,((hKU.alloc _).alloc _).alloc _⟩
theorem zK5(args:Array Value)(W:World):Sem.run prog (callFunc 71 args) W=.ok (.enter 71 args) W:=by
 simp[go_sem,func71]
theorem xC2(A n C:Nat)(calls writes:Int)(l:List UInt8)(N:Int)(w:World)(h:w.heap[A]?=some (φ n C (.slice none 0 0) calls writes))(h0:0≤calls)(h1:calls≤999999000)
  (h8:8≤n) (h400:n≤400) (hC:w.heap[C]?=some (.cells (enc l) 87)) (hs:l.length=n*128) (hAC:C≠A) (hf:Formatted l N):
  Calls prog 16 #[.pointer (some ⟨A,0,none⟩)] w fun e w'=>∃ V M St Db,e=.returned (.tuple #[.pointer (some ⟨Db,0,none⟩),.nilIface])∧w.heap.size≤V∧w.heap.size≤M∧w.heap.size≤St∧w.heap.size≤Db∧
   w'.heap[A]?=some (φ n C (.slice none 0 0) (calls+3) writes)∧w'.heap[V]?=some (qB6 A n)∧w'.heap[M]?=some (.map #[] 0)∧w'.heap[St]?=some (ρ 0 (qF5 V M N))∧w'.heap[Db]?=some (.cells #[.pointer (some ⟨St,0,none⟩)] 95)∧Kp [A] w w':=by
 have hA:=η h;have hCs:=η hC;have hmf:=zM;go_enter func16,ntmps16
 go_wp2_with (go_at_call 42;go_in)
 obtain⟨W0,hW0,hK0,hs0⟩:∃ W0,W0=(w.alloc (.cells #[.iface 23 (.pointer (some ⟨A,0,none⟩))] 129)).alloc (.cells #[.pointer none] 24)∧Kp [] w W0∧W0.heap.size=w.heap.size+2:=⟨_,rfl,((Kp.refl _ _).alloc _).alloc _,by simp⟩;have hD0:W0.heap[w.heap.size]?=some (.cells #[.iface 23 (.pointer (some ⟨A,0,none⟩))] 129):=by rw[hW0];exact θ _ (μ _ _)
 have hX0:W0.heap[w.heap.size+1]?=some (.cells #[.pointer none] 24):=by
  rw[hW0];have e:=μ (w.alloc (.cells #[.iface 23 (.pointer (some ⟨A,0,none⟩))] 129)) (.cells #[.pointer none] 24);simpa using e
 rw[←hW0];clear hW0;have hA0:=hK0.hp h;have hC0:=hK0.hp hC;refine (qV9 71 _ _ _ (fun w'=>w'.heap[A]?=some (φ n C (.slice none 0 0) (calls+3) writes)∧(∃ V M St Db,W0.heap.size+2≤V∧W0.heap.size+2≤M∧W0.heap.size+2≤St∧W0.heap.size+2≤Db∧w'.heap[V]?=some (qB6 A n)∧w'.heap[M]?=some (.map #[] 0)∧w'.heap[St]?=some (ρ 0 (qF5 V M N))∧w'.heap[Db]?=some (.cells #[.pointer (some ⟨St,0,none⟩)] 95)∧w'.heap[w.heap.size+1]?=some (.cells #[.pointer (some ⟨Db,0,none⟩)] 24))∧Kp [A] w w') (zK5 _) ?_).mono ?_
 ·refine (xT1 w.heap.size (w.heap.size+1) A n C calls writes l N _ (θ _ (θ _ hD0)) (θ _ (θ _ hX0)) (θ _ (θ _ hA0)) h0 h1 h8 h400 (θ _ (θ _ hC0)) hs hAC (by omega) hf).mono ?_;rintro e w1 ⟨rfl,hA1,⟨V,M,St,Db,hV,hM,hSt,hDb,r⟩,hK1⟩;refine⟨rfl,⟨hA1,⟨V,M,St,Db,by simpa using hV,by simpa using hM,by simpa using hSt,by simpa using hDb,r⟩,(((hK0.mono (S':=[A]) (by simp)).alloc _).alloc _).trans hK1 (by intro i hi hlt;simp at hi;rcases hi with rfl | rfl;simp;omega)⟩,hK1.heap ?_ (by simp;omega)⟩;have e:=μ (W0.alloc (.cells #[.string ⟨#[79,112,101,110]⟩] 9)) (.cells #[.nilIface] 35);simpa using e
 rintro e w2 ⟨rfl,w1,⟨hA1,⟨V,M,St,Db,hV,hM,hSt,hDb,r1,rm,r2,r3,r4⟩,hK1⟩,rfl⟩;have x0:=ξ r4 0;simp at x0;go_wp2
 go_ret2
 exact⟨V,M,St,Db,rfl,by omega,by omega,by omega,by omega,(qB1 (by omega) _ _).trans hA1,(qB1 (by omega) _ _).trans r1,(qB1 (by omega) _ _).trans rm,(qB1 (by omega) _ _).trans r2,(qB1 (by omega) _ _).trans r3,hK1.setCell (Or.inr (by simp;omega)) _⟩
end Go.Proofs.YtdohpenfkdckiabGreatDoor
namespace Go.Proofs.YtdohpenfkdckiabGreatDoor
open Go.Proofs.Tryz
open Go.RowKit Go.Extern.Stop Go.Stop Go.Extern
theorem zZ9(p:Addr)(w:World):(Go.method 445 180 (.pointer (some p)) "Unwrap").run prog w=.ok (265,.pointer (some p)) w:=by kernel_rfl
theorem xA0(v:Value)(w:World):(ReflectliteType.typeOf #[.iface 46 v]).run prog w=.ok (.iface 196 (.agg #[.pointer (some ⟨5,46,none⟩)])) w:=by kernel_rfl
end Go.Proofs.YtdohpenfkdckiabGreatDoor
namespace Go.Proofs.YtdohpenfkdckiabGreatDoor
open Go.Proofs.Tryz
abbrev xR8:Go.Conc.Locks.MuLink:={ lock:=81,unlock:=82,ilock:=119,iunlock:=120,lockSlow:=161,unlockSlow:=164,disable:=157,enable:=159,acquire:=160,relMerge:=162,cas32:=158,add32:=163,tMutex:=123,tIMutex:=121,tPMutex:=208,tPIMutex:=245,tPI32:=247,tUP:=134,tNoCopy:=118,tU32:=119 }
theorem qT6:Go.Conc.Locks.MuLib prog xR8:=
 ⟨func81,func82,func119,func120,func157,func159,func160,func162,func158,func163,underlying121,runUnderlying121,sizeOf121,isAgg121,zeroValue121,underlying123,runUnderlying123,sizeOf123,isAgg123,zeroValue123,underlying208,runUnderlying208,sizeOf208,isAgg208,zeroValue208,underlying245,runUnderlying245,sizeOf245,isAgg245,zeroValue245,underlying247,runUnderlying247,sizeOf247,isAgg247,zeroValue247,underlying134,runUnderlying134,sizeOf134,isAgg134,zeroValue134,underlying118,runUnderlying118,sizeOf118,isAgg118,zeroValue118,underlying21,runUnderlying21,sizeOf21,isAgg21,zeroValue21,(by kernel_rfl)⟩
end Go.Proofs.YtdohpenfkdckiabGreatDoor
namespace Go.Proofs.YtdohpenfkdckiabGreatDoor
open Go.Proofs.Tryz
open Go.RowKit Go.Extern.Stop Go.Stop Go.Extern
theorem xM8(w:World):((Extern.ReflectliteType.method fun t=>do Rtype.noPackHeld "Comparable" t;(fun a=>Value.bool a.comparable) <$> typeInfo t) #[.agg #[.pointer (some ⟨5,46,none⟩)]]).run prog w=.ok (.bool true) w:=by kernel_rfl
theorem xN2(h:Value)(w:World):(Go.method 445 196 (.agg #[h]) "Comparable").run prog w=.ok (268,.agg #[h]) w:=by kernel_rfl
theorem xM9(k:Int)(w:World):Sem.run prog (binOp .eql 35 (.iface 46 (.int .i64 k)) (.iface 46 (.int .i64 8))) w=.ok (.bool (k == 8)) w:=by
 kernel_rfl
theorem xN4(v:Value)(xT:TypeId)(w:World):(Instr.typeAssert (.iface 180 v) xT 251 true).run prog w=.ok (.tuple #[.nilIface,.bool false]) w:=run_typeAssert_lacksB underlying251 (by kernel_rfl) (by kernel_rfl) v xT w
theorem xN3(v:Value)(xT:TypeId)(w:World):(Instr.typeAssert (.iface 46 v) xT 251 true).run prog w=.ok (.tuple #[.nilIface,.bool false]) w:=run_typeAssert_lacksB underlying251 (by kernel_rfl) (by kernel_rfl) v xT w
theorem xN5(v:Value)(xT:TypeId)(w:World):(Instr.typeAssert (.iface 46 v) xT 204 true).run prog w=.ok (.tuple #[.nilIface,.bool false]) w:=run_typeAssert_lacksB underlying204 (by kernel_rfl) (by kernel_rfl) v xT w
theorem xN6(v:Value)(xT:TypeId)(w:World):(Instr.typeAssert (.iface 46 v) xT 205 true).run prog w=.ok (.tuple #[.nilIface,.bool false]) w:=run_typeAssert_lacksB underlying205 (by kernel_rfl) (by kernel_rfl) v xT w
theorem xN1(v:Value)(xT:TypeId)(w:World):(Instr.typeAssert (.iface 180 v) xT 204 true).run prog w=.ok (.tuple #[.iface 180 v,.bool true]) w:=run_typeAssert_hasB underlying204 (by kernel_rfl) v xT w
theorem xN0(F:Nat)(call:ByteArray)(k:Int)(w:World)(hk:k≠8)(hF:w.heap[F]?=some (.cells #[.string call,.iface 46 (.int .i64 k)] 183)):
  Calls prog 84 #[.iface 180 (.pointer (some ⟨F,0,none⟩)),.iface 46 (.int .i64 8)] w fun e w'=>e=.returned (.bool false)∧w'=w:=by
 have h151:=@run_callFunc_extern prog 116 _ ReflectliteType.typeOf func116 (by kernel_rfl) (by kernel_rfl) (by kernel_rfl) (by kernel_rfl);have hcmp:=@run_callFunc_extern prog 268 _ (Extern.ReflectliteType.method fun t=>do Rtype.noPackHeld "Comparable" t;pure (.bool (←typeInfo t).comparable)) func268 (by kernel_rfl) (by kernel_rfl) (by kernel_rfl) (by kernel_rfl);have tT:=xA0;have cT:=xM8;have mR:=xN2;have nF:=xN4;have nE:=xN3;have uE:=xN5;have vE:=xN6;have uF:=xN1;have mU:=zZ9;have hq:=run_eql_iface_types (P:=prog) 180 46 (.pointer (some ⟨F,0,none⟩)) (.int .i64 8) underlying35 (by decide) w;have hb:(k == 8)=false:=by simp[hk]
 have he:=xM9 k w;rw[hb] at he;clear hk hb;have hFs:=η hF;have c1:=ξ hF 1;simp only[zG,zH,zI] at c1;go_enter func84,ntmps84;go_wp2;refine wp_loop_rounds 2 ?_;rw[rounds_succ];go_wp2;rw[rounds_succ];go_wp2;go_ret;exact⟨rfl,rfl⟩
end Go.Proofs.YtdohpenfkdckiabGreatDoor
namespace Go.Proofs.YtdohpenfkdckiabGreatDoor
open Go.Proofs.Tryz
open Go.RowKit Go.MuLone
def zY4(k:Int):Value:=.iface 162 (.agg #[.iface 46 (.int .i64 k)])
def qC5:Option Int→Ending
 | none=>.returned (.tuple #[])
 | some k=>.panicked [{ v:=zY4 k,recovered:=false }]
def qH0(w:World)(v:Value):Option Int→Prop
 | none=>v=.nilIface
 | some k=>∃ F call,v=.iface 180 (.pointer (some ⟨F,0,none⟩))∧w.heap[F]?=some (.cells #[.string call,.iface 46 (.int .i64 k)] 183)
theorem xG1(f:Nat)(cap:Array Value)(call:ByteArray)(k:Int)(w:World)(R:World→Prop)(hcf:∀ W:World,Sem.run prog (callFunc f cap) W=.ok (.enter f cap) W)
  (hw:Calls prog f cap ((w.alloc (.cells #[.string call] 9)).alloc (.cells #[.nilIface] 35)) fun e w'=>e=.panicked [{ v:=zY4 k,recovered:=false }]∧R w'∧w'.heap[w.heap.size+1]?=some (.cells #[.nilIface] 35)∧w'.heap[w.heap.size]?=some (.cells #[.string call] 9)):
  Calls prog 70 #[.string call,.func (.func f) #[] cap] w fun e w'=>∃ F,e=.returned (.iface 180 (.pointer (some ⟨F,0,none⟩)))∧w'.heap[F]?=some (.cells #[.string call,.iface 46 (.int .i64 k)] 183)∧∃ w1,R w1∧w1.heap.size≤F∧Kp [w.heap.size+1] w1 w':=by
 have hmf:=zM;have HW:=zh hw;clear hw
 go_enter_defers func70,ntmps70
 go_wp2_with fail;refine (show Calls _ _ _ _ _ from HW.out).mono ?_;rintro e w1 ⟨rfl,hR,hE,hB⟩;have HR:=zh hR;clear hR;go_wp2;refine leaves_cons (f:=108) (args:=#[.pointer (some ⟨w.heap.size,0,none⟩),.pointer (some ⟨w.heap.size+1,0,none⟩)]) (by simp) (by simp[go_sem]) ?_;refine (zK2 w.heap.size (w.heap.size+1) k call _ hB (by omega) hE).mono ?_;rintro e u' w2 ⟨rfl,rfl,F,hF,hF2,hE2,hK2⟩;have e0:=ξ hE2 0;simp at e0;simp[Leaves,settle,results,results70,go_sem,e0];exact⟨hF2,w1,HR.out,hF,hK2⟩
theorem zN8(k:Int)(w:World):Calls prog 84 #[.nilIface,.iface 46 (.int .i64 k)] w fun e w'=>e=.returned (.bool false)∧w'=w:=by
 have hb:∀ W:World,Sem.run prog (binOp .eql 35 .nilIface (.iface 46 (.int .i64 k))) W=.ok (.bool false) W:=fun W=>by kernel_rfl
 go_enter func84,ntmps84;go_wp2;go_ret;exact⟨rfl,rfl⟩
theorem zB7(args:Array Value)(W:World):Sem.run prog (callFunc 83 args) W=.ok (.enter 83 args) W:=by
 simp[go_sem,func83]
theorem zJ1(k:Option Int)(S F St f:Nat)(s:Sto)(first cap:Array Value)(w:World)(R:World→Prop)(hS:w.heap[S]?=some (.cells #[.pointer (some ⟨St,0,none⟩)] 74))(hF:w.heap[F]?=some (.cells #[.func (.func f) first cap] 1))(hSt:w.heap[St]?=some (ρ 1 s))(hpo:s.po=false)
  (hcf:∀ W:World,Sem.run prog (callFunc f (first++cap)) W=.ok (.enter f (first++cap)) W)
  (hw:Calls prog f (first++cap) w fun e w'=>e=qC5 k∧R w'):
  Calls prog 83 #[.pointer (some ⟨S,0,none⟩),.pointer (some ⟨F,0,none⟩)] w fun e w'=>e=qC5 k∧R w':=by
 have s0:=ξ hS 0;have f0:=ξ hF 0;have p7:=ξ hSt 7;simp[hpo] at s0 f0 p7;clear hS hF hSt;have HW:=zh hw;clear hw;go_enter func83,ntmps83;go_wp2_with fail;refine (show Calls _ _ _ _ _ from HW.out).mono ?_;rintro e w1 ⟨rfl,hR⟩
 cases k with
 | none=>
  simp only[qC5];go_wp2
  go_end0
  exact⟨rfl,hR⟩
 | some k=>
  simp only[qC5];go_wp2;exact⟨rfl,rfl,hR⟩
theorem zA9(k:Option Int)(hk8:k≠some 8)(St f:Nat)(s s':Sto)(first cap:Array Value)(call:ByteArray)(X:List Nat)(Q:World→World→Prop)(w:World)(hSt:w.heap[St]?=some (ρ 0 s))(hpo:s.po=false)
  (hcf:∀ W:World,Sem.run prog (callFunc f (first++cap)) W=.ok (.enter f (first++cap)) W) (hX:∀ i,i∈X→i<w.heap.size)
  (hw:∀ W:World,Kp [St] w W→W.heap[St]?=some (ρ 1 s)→Calls prog f (first++cap) W fun e w1=>e=qC5 k∧Q W w1∧Kp (St::X) W w1∧w1.heap[St]?=some (ρ 1 s')):
  Calls prog 44 #[.pointer (some ⟨St,0,none⟩),.string call,.func (.func f) first cap] w fun e w'=>∃ v,e=.returned v∧qH0 w' v k∧w'.heap[St]?=some (ρ 0 s')∧Kp (St::X) w w'∧∃ W w1 B,Q W w1∧Kp [St] w W∧w.heap.size≤B∧B<W.heap.size∧w1.heap[B]?=some (.cells #[.nilIface] 35)∧Kp [St,B] w1 w':=by
 have hmf:=zM;have HW:=zh hw;have HX:=zh hX;have HPO:=zh hpo;have HK8:=zh hk8;clear hw hX hpo hk8;have hSs:=η hSt
 go_enter_defers func44,ntmps44
 go_wp2_with fail;refine (lock_free qT6 ⟨St,0,none⟩ _ (ξ (θ _ (θ _ hSt)) 0) (ν (θ _ (θ _ hSt)) 0)).mono ?_;rintro e W0 ⟨rfl,rfl⟩;obtain⟨W0,hW0,hK0,hs0,hB0,hF0,hSt0⟩:∃ W0,W0=((w.alloc (.cells #[.pointer (some ⟨St,0,none⟩)] 74)).alloc (.cells #[.func (Fn.func f) first cap] 1)).setCell ⟨St,0,none⟩ (.int .i32 1)∧Kp [St] w W0∧W0.heap.size=w.heap.size+2∧W0.heap[w.heap.size]?=some (.cells #[.pointer (some ⟨St,0,none⟩)] 74)∧W0.heap[w.heap.size+1]?=some (.cells #[.func (Fn.func f) first cap] 1)∧W0.heap[St]?=some (ρ 1 s):=by
  refine⟨_,rfl,((((Kp.refl _ _).alloc _).alloc _).sc _),by simp[World.setCell],?_,?_,?_⟩
  ·exact (qB1 (by omega) _ _).trans (θ _ (μ _ _))
  ·refine (qB1 (by omega) _ _).trans ?_;have e:=μ (w.alloc (.cells #[.pointer (some ⟨St,0,none⟩)] 74)) (.cells #[.func (Fn.func f) first cap] 1);simpa using e
  ·exact ω (θ _ (θ _ hSt)) 0 _
 rw[←hW0];clear hW0;have b0:=ξ hB0 0;simp at b0;go_wp2_with fail;obtain⟨Wc,hWc,hKc,hsc,hBc,hFc,hStc,hEc,hCc⟩:∃ Wc,Wc=(W0.alloc (.cells #[.string call] 9)).alloc (.cells #[.nilIface] 35)∧Kp [St] w Wc∧Wc.heap.size=w.heap.size+4∧Wc.heap[w.heap.size]?=some (.cells #[.pointer (some ⟨St,0,none⟩)] 74)∧Wc.heap[w.heap.size+1]?=some (.cells #[.func (Fn.func f) first cap] 1)∧Wc.heap[St]?=some (ρ 1 s)∧Wc.heap[W0.heap.size+1]?=some (.cells #[.nilIface] 35)∧Wc.heap[W0.heap.size]?=some (.cells #[.string call] 9):=by
  refine⟨_,rfl,(hK0.alloc _).alloc _,by simp[hs0],θ _ (θ _ hB0),θ _ (θ _ hF0),θ _ (θ _ hSt0),?_,θ _ (μ _ _)⟩;have e:=μ (W0.alloc (.cells #[.string call] 9)) (.cells #[.nilIface] 35);simpa using e
 have HA1:Hid (Calls prog 83 #[.pointer (some ⟨w.heap.size,0,none⟩),.pointer (some ⟨w.heap.size+1,0,none⟩)] Wc fun e w1=>e=qC5 k∧Q Wc w1∧Kp (St::X) Wc w1∧w1.heap[St]?=some (ρ 1 s')):=
  zJ1 k w.heap.size (w.heap.size+1) St f s first cap Wc (fun w1=>Q Wc w1∧Kp (St::X) Wc w1∧w1.heap[St]?=some (ρ 1 s')) hBc hFc hStc HPO.out hcf (HW.out Wc hKc hStc)
 have HNM:Hid (∀ i,w.heap.size≤i→i ∉ St::X):=by
  show ∀ i,w.heap.size≤i→i ∉ St::X;intro i hi h;rcases List.mem_cons.1 h with h|h
  ·omega
  ·have:=HX.out _ h;omega
 clear HW
 cases k with
 | none=>
  refine (qV9 83 _ _ _ (fun w1=>Q Wc w1∧Kp (St::X) Wc w1∧w1.heap[St]?=some (ρ 1 s')) (zB7 _) ?_).mono ?_
  ·rw[←hWc];refine (show Calls _ _ _ _ _ from HA1.out).mono ?_;rintro e w1 ⟨rfl,hQ,hk,hst⟩;exact⟨rfl,⟨hQ,hk,hst⟩,hk.heap hEc (HNM.out _ (by omega))⟩
  rintro e w2 ⟨rfl,w1,⟨hQ,hk,hst⟩,rfl⟩;have hs1:=hk.size;have hEw1:=hk.heap hEc (HNM.out _ (by omega));obtain⟨w2,hw2,hst2,hK2,ho2⟩:∃ w2,w2=w1.setCell ⟨W0.heap.size+1,0,none⟩ .nilIface∧w2.heap[St]?=some (ρ 1 s')∧Kp (St::X) w w2∧Kp [St,W0.heap.size+1] w1 w2:=
   ⟨_,rfl,(qB1 (by omega) _ _).trans hst,(((hKc.mono (S':=St::X) (by simp)).trans hk (fun _ h _=>h)).setCell (Or.inr (by simp;omega)) _),(Kp.refl _ _).sc _⟩
  rw[←hw2];clear hw2
  go_wp2_with (go_at_call 84;refine (zN8 8 _).mono ?_;rintro e w' ⟨rfl,rfl⟩)
  refine leaves_cons (f:=82) (args:=#[.pointer (some ⟨St,0,none⟩)]) (by simp) (by simp[go_sem]) ?_;refine (unlock_deferred qT6 ⟨St,0,none⟩ .returning _ (ξ hst2 0) (ν hst2 0)).mono ?_;rintro e u' w'' ⟨rfl,rfl,rfl⟩;exact⟨_,results_tmp rfl _ _ _,.nilIface,rfl,rfl,ω hst2 0 _,hK2.sc _,Wc,w1,W0.heap.size+1,hQ,hKc,by omega,by omega,hEw1,ho2.sc _⟩
 | some k=>
  have hk8:k≠8:=fun h=>HK8.out (by rw[h]);have HK:=zh hk8;clear hk8;refine (xG1 83 _ _ k _ (fun w1=>Q Wc w1∧Kp (St::X) Wc w1∧w1.heap[St]?=some (ρ 1 s')) (zB7 _) ?_).mono ?_
  ·rw[←hWc];refine (show Calls _ _ _ _ _ from HA1.out).mono ?_;rintro e w1 ⟨rfl,hQ,hk,hst⟩;exact⟨rfl,⟨hQ,hk,hst⟩,hk.heap hEc (HNM.out _ (by omega)),hk.heap hCc (HNM.out _ (by omega))⟩
  rintro e w2 ⟨F,rfl,hF2,w1,⟨hQ,hk,hst⟩,hFs,hKc2⟩;have hs1:=hk.size;have hEw1:=hk.heap hEc (HNM.out _ (by omega));have hst2:w2.heap[St]?=some (ρ 1 s'):=hKc2.ho hst;have hK2:Kp (St::X) w w2:=((hKc.mono (S':=St::X) (by simp)).trans hk (fun _ h _=>h)).trans hKc2 (by intro i hi hlt;simp at hi;omega);have ho2:Kp [St,W0.heap.size+1] w1 w2:=hKc2.mono (by simp);have HIS:Hid (Calls prog 84 #[.iface 180 (.pointer (some ⟨F,0,none⟩)),.iface 46 (.int .i64 8)] w2 fun e w'=>e=.returned (.bool false)∧w'=w2):=xN0 F _ k w2 HK.out hF2;have hFSt:St<F:=by have:=η hst;omega
  go_wp2_with (go_at_call 84;refine (show Calls _ _ _ _ _ from HIS.out).mono ?_;rintro e w' ⟨rfl,rfl⟩)
  refine leaves_cons (f:=82) (args:=#[.pointer (some ⟨St,0,none⟩)]) (by simp) (by simp[go_sem]) ?_;refine (unlock_deferred qT6 ⟨St,0,none⟩ .returning _ (ξ hst2 0) (ν hst2 0)).mono ?_;rintro e u' w'' ⟨rfl,rfl,rfl⟩;exact⟨_,results_tmp rfl _ _ _,.iface 180 (.pointer (some ⟨F,0,none⟩)),rfl,⟨F,_,rfl,(qB1 (by omega) _ _).trans hF2⟩,ω hst2 0 _,hK2.sc _,Wc,w1,W0.heap.size+1,hQ,hKc,by omega,by omega,hEw1,ho2.sc _⟩
end Go.Proofs.YtdohpenfkdckiabGreatDoor
namespace Go.Proofs.YtdohpenfkdckiabGreatDoor
open Go.Proofs.Tryz
open Go.RowKit
def τ(V:Nat)(h:HL):Value:=.agg #[.pointer (some ⟨V,0,none⟩),.string h.key,.int .i64 h.b,.int .u64 h.s,.pointer h.ptr]
def qB9(h:HL):Value:=.agg #[.string h.key,.int .i64 h.b,.int .u64 h.s,.pointer h.ptr]
def qY1:List TypeId:=[81,83,64]
structure Env where
 O:qE1
 V:Nat
 S:List Nat
 Dev:World→Prop
 keep:∀ w w' L,Dev w→Kp L w w'→(∀ k∈L,∃ c t fr,w.heap[k]?=some (.cells c t fr)∧t∈qY1)→Dev w'
 apt:∀ w,Dev w→Apt w S qF4
 low:∀ w,Dev w→∀ k∈S,k<w.heap.size
 pos:∀ (n b:Nat) (s:Int) (t:Tn n),O n b s t→1≤b
 lvl:∀ (n b:Nat) (s:Int) (t:Tn n),O n b s t→n<6
 read:∀ (n:Nat) (h r:HL) (l:Lnk (Tn n)) (a:Int) (w:World),Dev w→RL O n w h l→h.p=none→(n:Int)<a→Calls prog 87 #[τ V r,qB9 h,.int .i64 a] w fun e w'=>∃ q,e=.returned (.pointer (some ⟨q,0,none⟩))∧RN O n w' q l.sub∧Dev w'∧Kp S w w'
structure Env.To(E:Env)(w w':World):Prop where
 dev:E.Dev w'
 kp:Kp E.S w w'
theorem Env.To.of0{E:Env}{w w':World}(h:E.Dev w)(hK:Kp [] w w'):E.To w w':=⟨E.keep _ _ [] h hK (by simp),hK.mono (by simp)⟩
theorem Env.To.trans{E:Env}{a b c:World}(h:E.To a b)(k:E.To b c):E.To a c:=⟨k.dev,h.kp.trans k.kp (fun i hi _=>hi)⟩
theorem Env.To.tail{E:Env}{a b c:World}(h:E.To a b)(k:Kp [] b c):E.To a c:=h.trans (Env.To.of0 h.dev k)
theorem Env.RN{E:Env}{n:Nat}{w w':World}{q:Nat}{t:Tn n}(h:RN E.O n w q t)(hd:E.Dev w)(hT:E.To w w'):YtdohpenfkdckiabGreatDoor.RN E.O n w' q t:=RN.keep hT.kp (E.apt w hd) n q t h
theorem Env.RL{E:Env}{n:Nat}{w w':World}{h:HL}{l:Lnk (Tn n)}(hr:RL E.O n w h l)(hd:E.Dev w)(hT:E.To w w'):YtdohpenfkdckiabGreatDoor.RL E.O n w' h l:=RL.keep hr hT.kp (E.apt w hd)
theorem Env.RLs{E:Env}{n:Nat}{w w':World}{v:Value}{ls:List (Lnk (Tn n))}(hr:RLs E.O n w v ls)(hd:E.Dev w)(hT:E.To w w'):YtdohpenfkdckiabGreatDoor.RLs E.O n w' v ls:=RLs.keep hr hT.kp (E.apt w hd)
theorem Env.To.new{E:Env}{w0 w w':World}{k:Nat}{o:Obj}(hT:E.To w w')(hd:E.Dev w0)(hk:w0.heap.size≤k)(h:w.heap[k]?=some o):w'.heap[k]?=some o:=
 hT.kp.heap h (fun hm=>by have:=E.low w0 hd k hm;omega)
theorem zR6(E:Env)(n:Nat)(h r:HL)(l:Lnk (Tn n))(a:Int)(w:World)(hd:E.Dev w)(hr:RL E.O n w h l)(ha:h.p=none→(n:Int)<a):
  Calls prog 87 #[τ E.V r,qB9 h,.int .i64 a] w fun e w'=>∃ q,e=.returned (.pointer (some ⟨q,0,none⟩))∧RN E.O n w' q l.sub∧E.To w w':=by
 cases hp:h.p with
 | none=>
  refine (E.read n h r l a w hd hr hp (ha hp)).mono ?_;rintro e w' ⟨q,h1,h2,h3,h4⟩;exact⟨q,h1,h2,h3,h4⟩
 | some q=>
  have hN:RN E.O n w q l.sub:=by
   have h2:=hr.2
   cases hl:l.ref with
   | none=>
    rw[hl] at h2;obtain⟨_,_,q',h3,h4⟩:=h2;rw[hp] at h3;cases h3;exact h4
   | some x=>
    rw[hl] at h2;rw[hp] at h2;cases h2.2.2.1
  have hptr:h.ptr=some ⟨q,0,none⟩:=by simp[HL.ptr,hp]
  have e1:qB9 h=.agg #[.string h.key,.int .i64 h.b,.int .u64 h.s,.pointer (some ⟨q,0,none⟩)]:=by rw[qB9,hptr]
  rw[e1,τ];have HN:=zh hN;have HD:=zh hd;clear hN hr hd e1 hptr ha;go_enter func87,ntmps87;go_wp2;go_ret;exact⟨q,rfl,Env.RN HN.out HD.out (Env.To.of0 HD.out (((Kp.refl _ _).alloc _).alloc _)),Env.To.of0 HD.out (((Kp.refl _ _).alloc _).alloc _)⟩
theorem qI0(E:Env)(n:Nat)(h r:HL)(l:Lnk (Tn n))(a:Int)(w:World)(hd:E.Dev w)(hr:RL E.O n w h l)(ha:(n:Int)<a):
  Calls prog 87 #[τ E.V r,qB9 h,.int .i64 a] w fun e w'=>∃ q,e=.returned (.pointer (some ⟨q,0,none⟩))∧RN E.O n w' q l.sub∧E.To w w':=
 zR6 E n h r l a w hd hr fun _=>ha
theorem Env.low6{E:Env}{n:Nat}{w:World}{h:HL}{l:Lnk (Tn n)}(hr:YtdohpenfkdckiabGreatDoor.RL E.O n w h l)(hp:h.p=none):(n:Int)<6:=by
 have h2:=hr.2
 cases hl:l.ref with
 | none=>
  rw[hl] at h2;obtain⟨_,_,q,h3,h4⟩:=h2;rw[hp] at h3;cases h3
 | some x=>
  rw[hl] at h2;have:=E.lvl _ _ _ _ h2.2.2.2;omega
theorem qV1(E:Env)(n:Nat)(h:HL)(l:Lnk (Tn n))(w:World)(hd:E.Dev w)(hr:RL E.O n w h l):
  Calls prog 86 #[τ E.V h] w fun e w'=>∃ q,e=.returned (.pointer (some ⟨q,0,none⟩))∧RN E.O n w' q l.sub∧E.To w w':=by
 have HD:=zh hd;have HR:=zh hr;have HN:Hid (∀ W:World,E.To w W→Calls prog 87 #[.agg #[.pointer (some ⟨E.V,0,none⟩),.string h.key,.int .i64 h.b,.int .u64 h.s,.pointer h.ptr],.agg #[.string h.key,.int .i64 h.b,.int .u64 h.s,.pointer h.ptr],.int .i64 6] W fun e w'=>∃ q,e=.returned (.pointer (some ⟨q,0,none⟩))∧RN E.O n w' q l.sub∧E.To W w'):=
  fun W hT=>zR6 E n h h l 6 W hT.dev (Env.RL hr hd hT) (Env.low6 hr)
 clear hd hr;rw[τ];go_enter func86,ntmps86;go_wp2_with fail;refine (HN.out _ (Env.To.of0 HD.out ((Kp.refl _ _).alloc _))).mono ?_;rintro e w1 ⟨q,rfl,hN1,hT1⟩;have HN1:=zh hN1;have HT1:Hid (E.To w w1):=(Env.To.of0 HD.out ((Kp.refl _ _).alloc _)).trans hT1;clear hN1 hT1 HN;go_wp2;go_ret;exact⟨q,rfl,HN1.out,HT1.out⟩
theorem RLof.new{O:qE1}{n:Nat}{w:World}{h:HL}{l:Lnk (Tn n)}(hr:RL O n w h l):(l.ref=none∧∃ q,h.p=some q∧RN O n w q l.sub)∨(l.ref.isSome=true∧h.p=none):=by
 have h2:=hr.2
 cases hl:l.ref with
 | none=>
  rw[hl] at h2;obtain⟨_,_,q,h3,h4⟩:=h2;exact .inl ⟨rfl,q,h3,h4⟩
 | some x=>
  rw[hl] at h2;exact .inr ⟨rfl,h2.2.2.1⟩
def qS5:(n:Nat)→Tn n→Prop
 | 0,t=>(prs t).length≤10000
 | n+1,t=>(ζ t).length≤10000∧∀ l∈ζ t,qS5 n l.sub
theorem qF3{α:Type}(f:α→Nat):∀ (l:List α),(∀ x∈l,1≤f x)→l.length≤meas f l
 | [],_=>by simp[meas]
 | x::l,h=>by
  have h1:=h x (by simp);have h2:=qF3 f l fun y hy=>h y (by simp[hy]);rw[qC9,List.length_cons];omega
theorem qI4:∀ (n:Nat) (lo:ByteArray) (t:Tn n),Good n lo t→qS5 n t
 | 0,lo,ps,h=>by
  have h1:meas κ (prs ps)≤126:=h.fits;have h2:=qF3 κ (prs ps) fun x _=>by unfold κ;omega
  show (prs ps).length≤10000;omega
 | n+1,lo,ls,h=>by
  have h1:meas qA0 (ζ ls)≤126:=h.fits;have h2:=qF3 qA0 (ζ ls) fun x _=>by unfold qA0;omega
  exact⟨by omega,fun l hl=>qI4 n l.key l.sub (h.all l hl).1⟩
theorem xH6(O:qE1):∀ (n:Nat) (h:HL) (l:Lnk (Tn n)) (w:World),RL O n w h l→qS5 n l.sub→qC4 n l.sub≤1000000→
  Calls prog 96 #[qB9 h] w fun e w'=>e=.returned (.int .i64 (news n l))∧Kp [] w w':=by
 intro n
 induction n with
 | zero=>
  intro h l w hr hsl hno;rcases hr.new with⟨h1,q,h2,vp,h3,h4⟩|⟨h1,h2⟩
  ·have hptr:h.ptr=some ⟨q,0,none⟩:=by simp[HL.ptr,h2]
   rw[qB9,hptr];have hqs:=η h3;have q2:=ξ h3 2;simp only[υ,zG,zH,zI] at q2;clear hr h4;go_enter func96,ntmps96;go_wp2_with fail;refine wp_loop_rounds 1 ?_;rw[rounds_succ];go_wp2;go_ret;exact⟨qJ5 (by simp[news,h1]),(Kp.refl _ _).alloc _⟩
  ·have hptr:h.ptr=none:=by simp[HL.ptr,h2]
   rw[qB9,hptr];clear hr;go_enter func96,ntmps96;go_wp2;go_ret;exact⟨qJ5 (by simp[news,h1]),(Kp.refl _ _).alloc _⟩
 | succ n ih=>
  intro h l w hr hsl hno;rcases hr.new with⟨h1,q,h2,vl,h3,hs,h4,h5⟩|⟨h1,h2⟩
  ·have hptr:h.ptr=some ⟨q,0,none⟩:=by simp[HL.ptr,h2]
   rw[qB9,hptr];obtain⟨hsl1,hsl2⟩:=hsl;have hnews:news (n+1) l=1+meas (fun m:Lnk (Tn n)=>news n m) (ζ l.sub):=by simp[news,h1]
   have hnod:qC4 (n+1) l.sub=1+meas (fun m:Lnk (Tn n)=>qC4 n m.sub) (ζ l.sub):=rfl;have hnn:=zE7 (f:=fun m:Lnk (Tn n)=>news n m) (g:=fun m=>qC4 n m.sub) (ζ l.sub) fun m _=>zE9 n m;rw[hnod] at hno;have hbl:=h5.1;obtain⟨ls,hls⟩:∃ ls,ls=ζ l.sub:=⟨_,rfl⟩;rw[←hls] at h5 hsl1 hsl2 hnews hnn hno hbl;clear hls hnod;have hqs:=η h3;obtain⟨bs,cp,hv⟩:∃ bs cp,vl=.slice bs hs.length cp:=by
    rcases h4.val with⟨h0,b,c,h1,_⟩|⟨g,off,cap,cur,fr,h1,_⟩
    ·rw[h0];exact⟨b,c,h1⟩
    ·exact⟨_,cap,h1⟩
   subst hv;have q2:=ξ h3 2;simp only[υ,zG,zH,zI] at q2;have HS:=zh h4;have HB:=zh h5;have HN:=zh hnews;have HSL:=zh hsl2;have HNO:=zh hno;have HNN:=zh hnn;have HIH:=ih;clear hr h4 h5 hnews hsl2 h1 h2 ih hno hnn;go_enter func96,ntmps96;go_wp2
   go_loopw [3,15] (fun s i wr=>∃ (j:Nat),j≤hs.length∧i=.int .i64 j∧s=.int .i64 (1+meas (fun m:Lnk (Tn n)=>news n m) (ls.take j):Nat)∧Kp [] w wr) (fun _ i _=>hs.length-(intOf i).toNat)
   case atStart=>exact⟨0,Nat.zero_le _,rfl,rfl,(Kp.refl _ _).alloc _⟩
   case round=>
    obtain⟨j,hj,rfl,rfl,hK⟩:=hrel;have hmt:=qL6 (fun m:Lnk (Tn n)=>news n m) ls j;have hnb:=HNN.out;have hnc:=HNO.out;by_cases hlt:j<hs.length
    ·have hjb:(j:Int)<(hs.length:Int):=by omega
     obtain⟨gb,off,cp',cur,fr,hv,hcp,hrow,hcur⟩:=HS.out.link (by omega);obtain⟨c0,c1,c2,c3⟩:=hcur j hlt;simp only[Value.slice.injEq,true_and] at hv;obtain⟨rfl,rfl⟩:=hv;have hR:=hK.hp hrow;have a0:=ξ hR (off+j*4);rw[c0] at a0;have a1:=ξ hR (off+j*4+1);rw[c1] at a1;have a2:=ξ hR (off+j*4+2);rw[c2] at a2;have a3:=ξ hR (off+j*4+3);rw[c3] at a3;have hgs:=η hR;have hjl:j<ls.length:=by omega
     have hrl:=HB.out.2 j hlt hjl;have HMS:Hid (meas (fun m:Lnk (Tn n)=>news n m) (ls.take (j+1))=meas (fun m:Lnk (Tn n)=>news n m) (ls.take j)+news n ls[j]):=qJ3 _ ls j hjl;have hmt1:=qL6 (fun m:Lnk (Tn n)=>news n m) ls (j+1);rw[HMS.out] at hmt1;have hnj:qC4 n ls[j].sub≤meas (fun m:Lnk (Tn n)=>qC4 n m.sub) ls:=by
      have h1:=qJ3 (fun m:Lnk (Tn n)=>qC4 n m.sub) ls j hjl;have h2:=qL6 (fun m:Lnk (Tn n)=>qC4 n m.sub) ls (j+1);omega
     have HRL:=zh hrl;have HNJ:Hid (qC4 n ls[j].sub≤1000000):=by show _≤_;omega
     clear hcur hrl hnj;generalize meas (fun m:Lnk (Tn n)=>news n m) (ls.take j)=M at *;go_wp2_with fail;refine (HIH hs[j] ls[j] _ (RL.keep HRL.out (hK.alloc _) (Apt.nil _ _)) (HSL.out _ (List.getElem_mem hjl)) HNJ.out).mono ?_;rintro e w1 ⟨rfl,hK1⟩;have hK1':Kp [] w w1:=(hK.alloc _).tr hK1;go_wp2;refine⟨⟨j+1,by omega,by go_num,by rw[HMS.out];go_num,hK1'⟩,by simp[intOf];omega⟩
    ·have hjb:¬(j:Int)<(hs.length:Int):=by omega
     go_wp2;go_ret;refine⟨qJ5 ?_,hK⟩;rw[HN.out,List.take_of_length_le (by omega)];omega
  ·have hptr:h.ptr=none:=by simp[HL.ptr,h2]
   rw[qB9,hptr];clear hr;go_enter func96,ntmps96;go_wp2;go_ret;exact⟨qJ5 (by simp[news,h1]),(Kp.refl _ _).alloc _⟩
theorem RN.obj{O:qE1}{n:Nat}{w:World}{q:Nat}{t:Tn n}(h:RN O n w q t):∃ pb pl pc lb ll lc,w.heap[q]?=some (υ (n:Int) (.slice pb pl pc) (.slice lb ll lc))∧pl+ll=cnt n t:=by
 cases n with
 | zero=>
  obtain⟨vp,h1,h2⟩:=h;obtain⟨bs,cp,hv⟩:∃ bs cp,vp=.slice bs (prs t).length cp:=by
   rcases h2.val with⟨h0,b,c,h1,_⟩|⟨g,off,cap,cur,fr,h1,_⟩
   ·rw[h0];exact⟨b,c,h1⟩
   ·exact⟨_,cap,h1⟩
  rw[hv] at h1;exact⟨_,_,_,_,_,_,h1,rfl⟩
 | succ n=>
  obtain⟨vl,h1,hs,h2,h3⟩:=h;obtain⟨bs,cp,hv⟩:∃ bs cp,vl=.slice bs hs.length cp:=by
   rcases h2.val with⟨h0,b,c,h1,_⟩|⟨g,off,cap,cur,fr,h1,_⟩
   ·rw[h0];exact⟨b,c,h1⟩
   ·exact⟨_,cap,h1⟩
  rw[hv] at h1;refine⟨_,_,_,_,_,_,h1,?_⟩;rw[Nat.zero_add,h3.1];rfl
theorem qQ1(O:qE1)(n:Nat)(q:Nat)(t:Tn n)(w:World)(h:RN O n w q t)(hc:cnt n t≤1000000):
  Calls prog 129 #[.pointer (some ⟨q,0,none⟩)] w fun e w'=>e=.returned (.int .i64 (cnt n t))∧Kp [] w w':=by
 obtain⟨pb,pl,pc,lb,ll,lc,h1,h2⟩:=h.obj;have HC:=zh h2;rw[←h2] at hc;have hqs:=η h1;have q1:=ξ h1;simp only[υ,zG,zH,zI] at q1;clear h h1 h2;go_enter func129,ntmps129;go_wp2_with fail
 go_quiet (fail)
 go_wp2;go_ret;exact⟨qJ5 (by rw[←HC.out];omega),(Kp.refl _ _).drewN _⟩
theorem xY0(O:qE1)(V n:Nat)(h:HL)(l:Lnk (Tn n))(w:World)(hr:RL O n w h l)(hs:qS5 n l.sub)(hn:qC4 n l.sub≤1000000):
  Calls prog 58 #[τ V h] w fun e w'=>e=.returned (.int .i64 (news n l))∧Kp [] w w':=by
 rw[τ];go_enter func58,ntmps58;go_wp2_with fail;refine (xH6 O n h l _ (RL.keep hr ((Kp.refl _ _).alloc _) (Apt.nil _ _)) hs hn).mono ?_;rintro e w1 ⟨rfl,hK1⟩;have hK1':Kp [] w w1:=((Kp.refl _ _).alloc _).tr hK1;go_wp2;go_ret;exact⟨rfl,hK1'⟩
def RR(E:Env)(w:World)(h:HL):Root→Prop
 | .none=>h=⟨⟨#[]⟩,0,0,none⟩
 | .at n l=>RL E.O n w h l
theorem RR.to{E:Env}{w w':World}{h:HL}{r:Root}(hr:RR E w h r)(hd:E.Dev w)(hT:E.To w w'):RR E w' h r:=by
 cases r with
 | none=>exact hr
 | «at» n l=>exact Env.RL hr hd hT
theorem qW4(d:Nat)(W:World):Sem.run prog (Op.equalIn (d+1) 79 (.pointer none) (.pointer none)) W=.ok true W:=by
 simp[Op.equalIn,run_underlying underlying79]
theorem zL8(d:Nat)(a:Addr)(W:World):Sem.run prog (Op.equalIn (d+1) 79 (.pointer (some a)) (.pointer none)) W=.ok false W:=by
 simp[Op.equalIn,run_underlying underlying79]
theorem qZ9(V:Nat)(w:World):
  Calls prog 85 #[τ V ⟨⟨#[]⟩,0,0,none⟩] w fun e w'=>e=.returned (.bool true)∧Kp [] w w':=by
 have heq:∀ W:World,Sem.run prog (Op.equalIn 9999 79 (.pointer none) (.pointer none)) W=.ok true W:=fun W=>qW4 9998 W;rw[τ,show HL.ptr ⟨⟨#[]⟩,0,0,none⟩=none from rfl];go_enter func85,ntmps85;go_wp2;go_ret;exact⟨rfl,(Kp.refl _ _).alloc _⟩
theorem xI2(V q:Nat)(w:World):
  Calls prog 85 #[.agg #[.pointer (some ⟨V,0,none⟩),.string ⟨#[]⟩,.int .i64 0,.int .u64 0,.pointer (some ⟨q,0,none⟩)]] w fun e w'=>e=.returned (.bool false)∧Kp [] w w':=by
 have heq:∀ W:World,Sem.run prog (Op.equalIn 9999 79 (.pointer (some ⟨q,0,none⟩)) (.pointer none)) W=.ok false W:=fun W=>zL8 9998 _ W;go_enter func85,ntmps85;go_wp2;go_ret;exact⟨rfl,(Kp.refl _ _).alloc _⟩
theorem xI4(V:Nat)(b s:Int)(hb:1≤b)(w:World):
  Calls prog 85 #[.agg #[.pointer (some ⟨V,0,none⟩),.string ⟨#[]⟩,.int .i64 b,.int .u64 s,.pointer none]] w fun e w'=>e=.returned (.bool false)∧Kp [] w w':=by
 have heq:∀ W:World,Sem.run prog (Op.equalIn 9999 79 (.pointer none) (.pointer none)) W=.ok true W:=fun W=>qW4 9998 W;have hb0:¬b=0:=by omega
 go_enter func85,ntmps85;go_wp2;go_ret;exact⟨rfl,(Kp.refl _ _).alloc _⟩
theorem qZ8(E:Env)(n:Nat)(h:HL)(l:Lnk (Tn n))(w:World)(hr:RL E.O n w h l)(hl:l.key=⟨#[]⟩):
  Calls prog 85 #[τ E.V h] w fun e w'=>e=.returned (.bool false)∧Kp [] w w':=by
 have hk:h.key=⟨#[]⟩:=by rw[hr.1,hl]
 have h2:=hr.2
 cases hx:l.ref with
 | none=>
  rw[hx] at h2;obtain⟨h3,h4,q,h5,_⟩:=h2;have e:τ E.V h=.agg #[.pointer (some ⟨E.V,0,none⟩),.string ⟨#[]⟩,.int .i64 0,.int .u64 0,.pointer (some ⟨q,0,none⟩)]:=by rw[τ,hk,h3,h4,HL.ptr,h5];rfl
  rw[e];exact xI2 E.V q w
 | some x=>
  rw[hx] at h2;obtain⟨h3,h4,h5,h6⟩:=h2;have hp:=E.pos n _ _ _ h6;have e:τ E.V h=.agg #[.pointer (some ⟨E.V,0,none⟩),.string ⟨#[]⟩,.int .i64 h.b,.int .u64 h.s,.pointer none]:=by rw[τ,hk,HL.ptr,h5];rfl
  rw[e];exact xI4 E.V h.b h.s (by rw[h3];omega) w
def qE9(l:List KV)(k:ByteArray):Option KV:=l.find? fun q=>decide (q.k=k)
def qP4(l:List KV)(k:ByteArray):ByteArray:=((qE9 l k).map KV.v).getD ⟨#[]⟩
theorem xK8{k:ByteArray}{a b c:List KV}(ha:∀ q∈a,q.k≠k)(hc:∀ q∈c,q.k≠k):qE9 (a++b++c) k=qE9 b k:=by
 unfold qE9;rw[List.find?_append,List.find?_append];have h1:a.find? (fun q=>decide (q.k=k))=none:=by rw[List.find?_eq_none];intro q hq;simp[ha q hq]
 have h2:c.find? (fun q=>decide (q.k=k))=none:=by rw[List.find?_eq_none];intro q hq;simp[hc q hq]
 rw[h1,h2];simp
theorem xK9{l:List KV}(hs:Sorted l)(k:ByteArray):qE9 l k=if qE6 l (qB4 l k) k then l[qB4 l k]? else none:=by
 by_cases h:qE6 l (qB4 l k) k=true
 ·rw[if_pos h];unfold qE6 at h;split at h
  ·next q hq=>
   have hqk:q.k=k:=by simpa using h
   have hlt:=(List.getElem?_eq_some_iff.1 hq).1;rw[hq];unfold qE9;rw[←List.take_append_drop (qB4 l k) l,List.find?_append,List.find?_eq_none.2 (fun x hx=>?_),List.drop_eq_getElem_cons hlt,(List.getElem?_eq_some_iff.1 hq).2]
   ·simp[hqk]
   ·have:kl x.k k=true:=qZ4 x (by rw[←zY2 hs k];exact hx);simp[qG9 this]
  ·cases h
 ·rw[if_neg h];have hn:¬∃ q∈l,q.k=k:=fun hq=>h ((zC7 hs k).2 hq);unfold qE9;rw[List.find?_eq_none];intro q hq;simp only[decide_eq_true_eq];exact fun e=>hn ⟨q,hq,e⟩
end Go.Proofs.YtdohpenfkdckiabGreatDoor
