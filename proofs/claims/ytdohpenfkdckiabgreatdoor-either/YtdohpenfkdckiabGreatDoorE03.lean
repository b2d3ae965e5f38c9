import Derived.Test.YtdohpenfkdckiabGreatDoorE02
import Derived.Defers
import Derived.Recover
import Derived.WalkSmall
import Derived.Carry
import Derived.LaidEql
import Derived.Stop.Asserts
import Derived.RowKitTokens
import Derived.Conc.MuLib
import Derived.Conc.MuLone
import Derived.KernelRfl
import Derived.Laws.Strings
import Derived.Laws.Cover1
set_option linter.all false
set_option maxRecDepth 100000
set_option maxHeartbeats 20000000
namespace Go.Proofs.YtdohpenfkdckiabGreatDoor
open Go.Proofs.Tryz
open Go.RowKit
def qE6(N:Int):List UInt8:=toB (qF2 N 0 0)++List.replicate 96 0
def qH5:List UInt8:=List.replicate 128 0
theorem qI9(xs:List Int):(toB xs).length=xs.length:=by simp[toB]
theorem qL9(a b:List Int):toB (a++b)=toB a++toB b:=by simp[toB]
theorem qP2(N:Int):(qE6 N).length=128:=by simp[qE6,qI9,qU8]
theorem xU5(N:Int):(qE6 N).take 32=toB (qF2 N 0 0):=by
 have h:(toB (qF2 N 0 0)).length=32:=by rw[qI9,qU8]
 rw[qE6,List.take_append_of_le_length (by omega),List.take_of_length_le (by omega)]
theorem zH4(N:Int):qE6 N=toB qH3++(toB (qB2 2 0)++(toB (qB2 8 N)++(toB (qB2 8 0)++(toB (qB2 8 (fnv (qK7 N 0 0)))++List.replicate 96 0)))):=by
 simp only[qE6,qF2]
 conv=>lhs;rw[qL9]
 simp only[qK7,qL9,List.append_assoc]
theorem qT4{α:Type}(a b c:List α)(k n:Nat)(hk:a.length=k)(hn:b.length=n):((a++(b++c)).drop k).take n=b:=by
 subst hk;subst hn;simp
theorem xU7(N:Int)(h0:0≤N)(h1:N≤1000000000):qF0 (qF5 (((qE6 N).drop 8).take 8))=N:=by
 have e:((qE6 N).drop 8).take 8=toB (qB2 8 N):=by
  rw[zH4,←List.append_assoc (toB qH3)];exact qT4 _ _ _ 8 8 (by simp[qI9,qG0,qH3]) (by simp[qI9,qG0])
 rw[e,qO7 _ (qJ4 8 N),qM6 8 N (by decide) h0];have:(256:Int) ^ 8=18446744073709551616:=by decide
 omega
theorem xU6(N:Int):qF0 (qF5 (((qE6 N).drop 6).take 2))=0:=by
 have e:((qE6 N).drop 6).take 2=toB (qB2 2 0):=by
  rw[zH4];exact qT4 _ _ _ 6 2 (by simp[qI9,qH3]) (by simp[qI9,qG0])
 rw[e,qO7 _ (qJ4 2 0),qM6 2 0 (by decide) (by decide) (by decide)]
theorem xU8(N:Int):qF0 (qF5 (((qE6 N).drop 16).take 8))=0:=by
 have e:((qE6 N).drop 16).take 8=toB (qB2 8 0):=by
  rw[zH4,←List.append_assoc (toB qH3),←List.append_assoc (toB qH3++toB (qB2 2 0))];exact qT4 _ _ _ 16 8 (by simp[qI9,qG0,qH3]) (by simp[qI9,qG0])
 rw[e,qO7 _ (qJ4 8 0),qM6 8 0 (by decide) (by decide) (by decide)]
theorem jU3:qF0 (qF5 ((qH5.drop 8).take 8))=0:=by decide
theorem jU1:qF0 (qF5 ((qH5.drop 6).take 2))=0:=by decide
theorem jU4:qF0 (qF5 ((qH5.drop 16).take 8))=0:=by decide
theorem jU2:(toB (qF2 0 0 0) == qH5.take 32)=false:=by
 have h:toB (qF2 0 0 0)=115::(toB (qF2 0 0 0)).tail:=by
  simp[qF2,qK7,qH3,toB]
 rw[h];simp[qH5,List.replicate]
structure Fresh(l:List UInt8):Prop where
 b0:χ l 0=qH5
 b1:χ l 1=qH5
structure Formatted(l:List UInt8)(N:Int):Prop where
 b0:χ l 0=qE6 N
 b1:χ l 1=qE6 (N-1)
 even:N % 2=0
 low:2≤N
 high:N≤1000000000
variable {κ:Nat}
theorem zU2(V A n C:Nat)(calls writes:Int)(i:Nat)(l:List UInt8)(w:World)(hV:w.heap[V]?=some (qC7 A n))(h:w.heap[A]?=some (qA2 κ n C (.slice none 0 0) calls writes))(h0:0≤calls)(h1:calls≤1000000000)
  (hi:i<n) (hn:n≤1000) (hC:w.heap[C]?=some (.cells (enc l) 87)) (hs:n*128≤l.length) (hAC:C≠A) (hVA:V≠A) (hb:χ l i=qH5):
  Calls prog 111 #[.pointer (some ⟨V,0,none⟩),.int .i64 i] w fun e w'=>e=.returned (.tuple #[.agg #[.int .u64 0,.int .i64 0,.int .u64 0],.bool false])∧
   w'.heap[A]?=some (qA2 κ n C (.slice none 0 0) (calls+1) writes)∧Kp [A] w w':=
 (zG7 V A n C calls writes i l 0 0 0 w hV h h0 h1 hi hn hC hs hAC hVA (by rw[hb];exact jU3) (by rw[hb];exact jU1) (by rw[hb];exact jU4) (by decide) (by decide) (by decide) (by decide) false (by rw[hb,jU2];simp)).mono fun e w' hr=>⟨by simpa [qI6] using hr.1,hr.2⟩
theorem zS5(V A n C:Nat)(calls writes:Int)(i:Nat)(l:List UInt8)(N:Int)(w:World)(hV:w.heap[V]?=some (qC7 A n))(h:w.heap[A]?=some (qA2 κ n C (.slice none 0 0) calls writes))(h0:0≤calls)(h1:calls≤1000000000)
  (hi:i<n) (hn:n≤1000) (hC:w.heap[C]?=some (.cells (enc l) 87)) (hs:n*128≤l.length) (hAC:C≠A) (hVA:V≠A) (hb:χ l i=qE6 N) (hN:N % 2=i) (hN0:0≤N) (hN1:N≤1000000000):
  Calls prog 111 #[.pointer (some ⟨V,0,none⟩),.int .i64 i] w fun e w'=>e=.returned (.tuple #[.agg #[.int .u64 N,.int .i64 0,.int .u64 0],.bool true])∧
   w'.heap[A]?=some (qA2 κ n C (.slice none 0 0) (calls+1) writes)∧Kp [A] w w':=
 (zG7 V A n C calls writes i l N 0 0 w hV h h0 h1 hi hn hC hs hAC hVA (by rw[hb];exact xU7 N hN0 hN1) (by rw[hb];exact xU6 N) (by rw[hb];exact xU8 N) hN0 (by decide) (by decide) (by decide) true (by rw[hb,xU5];simp[hN])).mono fun e w' hr=>⟨by simpa [qI6] using hr.1,hr.2⟩
theorem jE4(V A n C:Nat)(calls writes:Int)(l:List UInt8)(w:World)(hV:w.heap[V]?=some (qC7 A n))(h:w.heap[A]?=some (qA2 κ n C (.slice none 0 0) calls writes))(h0:0≤calls)(h1:calls≤999999999)
  (hn2:8≤n) (hn:n≤1000) (hC:w.heap[C]?=some (.cells (enc l) 87)) (hs:n*128≤l.length) (hAC:C≠A) (hVA:V≠A) (hf:Fresh l):
  Calls prog 73 #[.pointer (some ⟨V,0,none⟩)] w fun e w'=>e=.returned (.tuple #[.agg #[.int .u64 0,.int .i64 0,.int .u64 0],.bool false])∧
   w'.heap[A]?=some (qA2 κ n C (.slice none 0 0) (calls+2) writes)∧Kp [A] w w':=by
 have hVs:=ζ hV;have hA:=ζ h;have hCs:=ζ hC;go_enter func73,ntmps73;go_wp2_with fail;refine (zU2 V A n C calls writes 0 l _ (θ _ hV) (θ _ h) h0 (by omega) (by omega) hn (θ _ hC) hs hAC hVA hf.b0).mono ?_;rintro e w1 ⟨rfl,hA1,hK1⟩;have hR1:=hK1.heap (μ w (.cells #[.int .u64 0,.int .i64 0,.int .u64 0] 116)) (by simp;omega);have hV1:=hK1.heap (θ _ hV) (by simp[hVA]);have hC1:=hK1.heap (θ _ hC) (by simp[hAC]);have hK1':Kp [A] w w1:=((Kp.refl _ _).alloc _).tr hK1;have hA1s:=ζ hA1;have hR1s:=ζ hR1;clear hK1;go_wp2_with fail;refine (zU2 V A n C (calls+1) writes 1 l _ (θ _ hV1) (θ _ hA1) (by omega) (by omega) (by omega) hn (θ _ hC1) hs hAC hVA hf.b1).mono ?_;rintro e w2 ⟨rfl,hA2,hK2⟩;have hR2:=hK2.heap (θ _ hR1) (by simp;omega);have hH2:=hK2.heap (μ w1 (.cells #[.int .u64 0,.int .i64 0,.int .u64 0] 116)) (by simp;omega);have hK2':Kp [A] w w2:=hK1'.trans (((Kp.refl [A] _).alloc _).tr hK2) (by simp);have hH2s:=ζ hH2;have hR2s:=ζ hR2;have hA2s:=ζ hA2;rw[show calls+1+1=calls+2 from by omega] at hA2;clear hK2 hK1' hR1 hV1 hC1 hA1;have r0:=ξ hR2 0;have r1:=ξ hR2 1;have r2:=ξ hR2 2;have s0:=ξ hH2 0;have s1:=ξ hH2 1;have s2:=ξ hH2 2;simp at r0 r1 r2 s0 s1 s2;have rf:=ω hR2;go_wp2;have hfin:=θ (.cells #[.int .u64 0,.int .i64 0,.int .u64 0] 116) (φ (φ (φ hR2 0 (.int .u64 0)) 1 (.int .i64 0)) 2 (.int .u64 0));refine bodyPost_ret (qQ0 results73 _ _ w.heap.size 116 _ _ _ rfl hfin underlying116 rfl (by kernel_rfl)) rfl ⟨rfl,?_,(((hK2'.sc _).sc _).sc _).alloc _⟩;exact θ _ ((qA6 (by omega) _ _).trans ((qA6 (by omega) _ _).trans ((qA6 (by omega) _ _).trans hA2)))
theorem zZ5(V A n C:Nat)(calls writes:Int)(l:List UInt8)(N:Int)(w:World)(hV:w.heap[V]?=some (qC7 A n))(h:w.heap[A]?=some (qA2 κ n C (.slice none 0 0) calls writes))(h0:0≤calls)(h1:calls≤999999999)
  (hn2:8≤n) (hn:n≤1000) (hC:w.heap[C]?=some (.cells (enc l) 87)) (hs:n*128≤l.length) (hAC:C≠A) (hVA:V≠A) (hf:Formatted l N):
  Calls prog 73 #[.pointer (some ⟨V,0,none⟩)] w fun e w'=>e=.returned (.tuple #[.agg #[.int .u64 N,.int .i64 0,.int .u64 0],.bool true])∧
   w'.heap[A]?=some (qA2 κ n C (.slice none 0 0) (calls+2) writes)∧Kp [A] w w':=by
 have hVs:=ζ hV;have hA:=ζ h;have hCs:=ζ hC;have hNhi:=hf.high;have hNlo:=hf.low;have hodd:(N-1) % 2=((1:Nat):Int):=by have:=hf.even;omega
 have HO:=zh hodd;clear hodd;go_enter func73,ntmps73;go_wp2_with fail;refine (zS5 V A n C calls writes 0 l N _ (θ _ hV) (θ _ h) h0 (by omega) (by omega) hn (θ _ hC) hs hAC hVA hf.b0 hf.even (by omega) hNhi).mono ?_;rintro e w1 ⟨rfl,hA1,hK1⟩;have hR1:=hK1.heap (μ w (.cells #[.int .u64 0,.int .i64 0,.int .u64 0] 116)) (by simp;omega);have hV1:=hK1.heap (θ _ hV) (by simp[hVA]);have hC1:=hK1.heap (θ _ hC) (by simp[hAC]);have hK1':Kp [A] w w1:=((Kp.refl _ _).alloc _).tr hK1;have hA1s:=ζ hA1;have hR1s:=ζ hR1;clear hK1;go_wp2_with fail;refine (zS5 V A n C (calls+1) writes 1 l (N-1) _ (θ _ hV1) (θ _ hA1) (by omega) (by omega) (by omega) hn (θ _ hC1) hs hAC hVA hf.b1 HO.out (by omega) (by omega)).mono ?_;rintro e w2 ⟨rfl,hA2,hK2⟩;have hR2:=hK2.heap (θ _ hR1) (by simp;omega);have hH2:=hK2.heap (μ w1 (.cells #[.int .u64 N,.int .i64 0,.int .u64 0] 116)) (by simp;omega);have hK2':Kp [A] w w2:=hK1'.trans (((Kp.refl [A] _).alloc _).tr hK2) (by simp);have hH2s:=ζ hH2;have hR2s:=ζ hR2;have hA2s:=ζ hA2;rw[show calls+1+1=calls+2 from by omega] at hA2;clear hK2 hK1' hR1 hV1 hC1 hA1;have r0:=ξ hR2 0;have r1:=ξ hR2 1;have r2:=ξ hR2 2;have s0:=ξ hH2 0;have s1:=ξ hH2 1;have s2:=ξ hH2 2;simp at r0 r1 r2 s0 s1 s2;have rf:=ω hR2;go_wp2_with fail;refine (jE2 (N-1) N 0 0 0 0 _ (by omega) (by omega) (by omega) hNhi).mono ?_;rintro e w3 ⟨rfl,hB3⟩;have hB3':=Kp.of_below hB3 (Nat.le_refl _);have hR3:=hB3'.heap (θ _ hR2) (by simp);have hA3:=hB3'.heap (θ _ hA2) (by simp);have hH3:=hB3'.heap (θ _ hH2) (by simp);have hK3:Kp [A] w w3:=(hK2'.alloc _).tr hB3';clear hB3 hB3' r0 r1 r2 s0 s1 s2 rf;have r0:=ξ hR3 0;have r1:=ξ hR3 1;have r2:=ξ hR3 2;have s0:=ξ hH3 0;have s1:=ξ hH3 1;have s2:=ξ hH3 2;simp at r0 r1 r2 s0 s1 s2;have rf:=ω hR3;go_wp2;have hfin:=φ (φ (φ hR3 0 (.int .u64 N)) 1 (.int .i64 0)) 2 (.int .u64 0);refine bodyPost_ret (qQ0 results73 _ _ w.heap.size 116 _ _ _ rfl hfin underlying116 rfl (by kernel_rfl)) rfl ⟨rfl,?_,((hK3.sc _).sc _).sc _⟩;exact (qA6 (by omega) _ _).trans ((qA6 (by omega) _ _).trans ((qA6 (by omega) _ _).trans hA3))
variable {κ:Nat}
theorem xF0:zeroCells223=enc qH5:=by
 have h:zeroCells223.toList=(enc qH5).toList:=by kernel_rfl
 have:=congrArg List.toArray h;simpa using this
def qB6(l:List UInt8)(i:Nat)(b:List UInt8):List UInt8:=l.take (i*128)++b++l.drop (i*128+b.length)
theorem zG0{P:Program}{a:Act}{w:World}{o:Oper}{s x:Operand}{t t' e:TypeId}(ho:o.op=.call { callee:=.builtin .copy,args:=#[s,x],argTypes:=#[t,t'] })(hu:P.underlying t=some (.slice e))(hs:(P.info? e).map (·.size)=some 1)
  (g o' dLen dCap b so sLen sCap n:Nat) (hd:a.eval s=.slice (some ⟨g,o',none⟩) dLen dCap) (hx:a.eval x=.slice (some ⟨b,so,none⟩) sLen sCap) (hn:n=Nat.min sLen dLen)
  {cur src:Array Value} {tg tb:TypeId} {fr:Nat × Nat} (hg:w.heap[g]?=some (.cells cur tg)) (hb:w.heap[b]?=some (.cells src tb fr)) (hfit:o'+n≤cur.size) (hin:so+n≤src.size)
  (h1:∀ v∈(ι src so n).toList,v.oneCell'=true):
  Sem.run P (execOp a.eval o) w=.ok (.value (.int .i64 n)) (w.setRow g (qD4 cur o' (ι src so n))):=by
 have hr:=qN9 (P:=P) (w:=w) o.type (t:=t) (t':=t') hu hs (dLen:=dLen) (dCap:=dCap) (sLen:=sLen) (sCap:=sCap) n hn hg hb hfit hin h1;unfold execOp;simp only[ho,resolve,invoke,builtin,Sem.run_bind,Sem.run_pure,Result.andThen_ok,List.map_toArray,List.map_cons,List.map_nil,hd,hx,hr]
theorem zX6(V A n C:Nat)(calls writes:Int)(i:Nat)(N:Int)(l:List UInt8)(w:World)(hV:w.heap[V]?=some (qC7 A n))(h:w.heap[A]?=some (qA2 κ n C (.slice none 0 0) calls writes))(h0:0≤calls)(h1:calls≤999999999)(h0w:0≤writes)(h1w:writes≤999999999)
  (hi:i<n) (hn:n≤1000) (hC:w.heap[C]?=some (.cells (enc l) 87)) (hs:n*128≤l.length) (hAC:C≠A) (hVA:V≠A) (hVC:V≠C) (hN:N % 2=i) (hN0:0≤N):
  Calls prog 100 #[.pointer (some ⟨V,0,none⟩),.agg #[.int .u64 N,.int .i64 0,.int .u64 0]] w fun e w'=>e=.returned (.tuple #[])∧
   w'.heap[A]?=some (qA2 κ n C (.slice none 0 0) (calls+2) (writes+1))∧w'.heap[C]?=some (.cells (enc (qB6 l i (qE6 N))) 87)∧Kp [A,C] w w':=by
 have hVs:=ζ hV;have hA:=ζ h;have hCs:=ζ hC;have HN:=zh hN;clear hN;go_enter func100,ntmps100;go_wp2_with fail;rw[xF0];obtain⟨W1,hW1,hK1,hA1,hC1,hV1,hH1,hG1,hsz⟩:∃ W1,W1=(w.alloc (.cells #[.int .u64 N,.int .i64 0,.int .u64 0] 116)).alloc (.cells (enc qH5) 223)∧Kp [A,C] w W1∧W1.heap[A]?=some (qA2 κ n C (.slice none 0 0) calls writes)∧W1.heap[C]?=some (.cells (enc l) 87)∧W1.heap[V]?=some (qC7 A n)∧
   W1.heap[w.heap.size]?=some (.cells #[.int .u64 N,.int .i64 0,.int .u64 0] 116)∧W1.heap[w.heap.size+1]?=some (.cells (enc qH5) 223)∧W1.heap.size=w.heap.size+2:=
  ⟨_,rfl,((Kp.refl _ _).alloc _).alloc _,θ _ (θ _ h),θ _ (θ _ hC),θ _ (θ _ hV),θ _ (μ _ _),by simpa using μ (w.alloc (.cells #[.int .u64 N,.int .i64 0,.int .u64 0] 116)) (.cells (enc qH5) 223),by simp⟩
 rw[←hW1];clear hW1;refine wp_region_any (by kernel_rfl) ?_;change wpAny _ _ _ _ _ _ _ (World.drew _);refine zu 0 (.slice (some ⟨w.heap.size+1,0,none⟩) 128 128) ?_;refine zQ 1 fun K hK=>?_;refine qJ1 rfl (qL4 (t:=116) rfl (by kernel_rfl) 3 (by kernel_rfl) w.heap.size rfl (show W1.drew.heap[w.heap.size]?=_ from hH1) rfl) ?_;refine hK _ _ ?_;clear hK K;simp only[zZ];refine zQ 2 fun K hK=>?_;go_simp;refine (zL7 N 0 0 _ hN0 (by decide) (by decide) (by decide)).mono ?_;rintro e w2 ⟨v2,rfl,hO2,hB2⟩;obtain⟨g2,cap2,cur2,rfl,hg2,hcs2,hp2⟩:=zL0 hO2;have hB2':Kp [] W1.drew w2:=Kp.of_below hB2 (Nat.le_refl _);have hA2:=hB2'.heap (k:=A) hA1 (by simp);have hC2:=hB2'.heap (k:=C) hC1 (by simp);have hV2:=hB2'.heap (k:=V) hV1 (by simp);have hH2:=hB2'.heap (k:=w.heap.size) hH1 (by simp);have hG2:=hB2'.heap (k:=w.heap.size+1) hG1 (by simp);have hK2:Kp [A,C] w w2:=(hK1.drew).tr hB2';have hs2:w.heap.size+2≤w2.heap.size:=by have:=hB2.size;simp at this;omega
 clear hB2 hB2' hA1 hC1 hV1 hH1 hG1 hK1 hO2;refine hK _ _ ?_;clear hK K
 try simp only[zZ]
 refine zQ 3 fun K hK=>?_;refine qJ1 rfl (zG0 rfl underlying90 Tryz.size5 (w.heap.size+1) 0 128 128 g2 0 32 cap2 32 rfl rfl (by decide) hG2 hg2 (by rw[qD2];decide) (by omega) (by rw[hp2];exact (qF8 _).one)) ?_;rw[hp2,qU0];have hblk:qH5.take 0++toB (qF2 N 0 0)++qH5.drop (0+(toB (qF2 N 0 0)).length)=qE6 N:=by
  rw[qI9,qU8];simp[qE6,qH5]
 rw[hblk];obtain⟨W3,hW3,hK3,hA3,hC3,hV3,hH3,hG3⟩:∃ W3,W3=w2.setRow (w.heap.size+1) (enc (qE6 N))∧Kp [A,C] w W3∧W3.heap[A]?=some (qA2 κ n C (.slice none 0 0) calls writes)∧W3.heap[C]?=some (.cells (enc l) 87)∧W3.heap[V]?=some (qC7 A n)∧
   W3.heap[w.heap.size]?=some (.cells #[.int .u64 N,.int .i64 0,.int .u64 0] 116)∧W3.heap[w.heap.size+1]?=some (.cells (enc (qE6 N)) 223):=
  ⟨_,rfl,hK2.setRow (Or.inr (by omega)) _,(setRow_other _ _ _ _ (by omega)).trans hA2,(setRow_other _ _ _ _ (by omega)).trans hC2,(setRow_other _ _ _ _ (by omega)).trans hV2,(setRow_other _ _ _ _ (by omega)).trans hH2,setRow_heap _ _ _ _ _ _ hG2⟩
 rw[←hW3];clear hW3 hA2 hC2 hV2 hH2 hG2 hK2 hg2 hcs2 hp2 hblk;refine hK _ _ ?_;clear hK K;refine wpAny_done (by kernel_rfl) ?_ _;simp only[zZ];go_wp2_with fail;have hhl:=qP2 N;refine wp_region_held_drew (S:=fun W=>W.heap[w.heap.size]?=some (.cells #[.int .u64 N,.int .i64 0,.int .u64 0] 116)∧W.heap[w.heap.size+1]?=some (.cells (enc (qE6 N)) 223)) (by kernel_rfl) ⟨hH3,hG3⟩ (fun _=>?_);refine zV 0 (.pointer (some ⟨V,0,none⟩)) rfl (fun W hS=>rfl) ⟨hH3,hG3⟩ ?_;refine zV 1 (.agg #[.int .u64 N,.int .i64 0,.int .u64 0]) rfl (fun W hS=>qL4 (t:=116) rfl (by kernel_rfl) 3 (by kernel_rfl) w.heap.size rfl hS.1 rfl) ⟨hH3,hG3⟩ ?_;refine zV 3 (.agg (enc (qE6 N))) rfl (fun W hS=>qL4 (t:=223) rfl (by kernel_rfl) 128 (by kernel_rfl) (w.heap.size+1) rfl hS.2 (by rw[qD2,qP2])) ⟨hH3,hG3⟩ ?_;refine zq 2 fun K hK=>?_;go_simp;refine (zC1 N 0 0 _ hN0).mono ?_;rintro e w4 ⟨rfl,hB4⟩;rw[HN.out];have hB4':Kp [] W3.drew w4:=Kp.of_below hB4 (Nat.le_refl _);have hA4:=hB4'.heap (k:=A) hA3 (by simp);have hC4:=hB4'.heap (k:=C) hC3 (by simp);have hV4:=hB4'.heap (k:=V) hV3 (by simp);have hH4:=hB4'.heap (k:=w.heap.size) hH3 (by simp);have hG4:=hB4'.heap (k:=w.heap.size+1) hG3 (by simp);have hK4:Kp [A,C] w w4:=(hK3.drew).tr hB4';clear hB4 hB4' hA3 hC3 hV3 hH3 hG3 hK3;refine hK.out _ _ ⟨hH4,hG4⟩ (fun _=>?_);clear hK K
 try simp only[zZ]
 refine zq 4 fun K hK=>?_;go_simp;refine (jM7 V A n C calls writes i (qE6 N) _ hV4 hA4 h0 (by omega) h0w (by omega) hi hn hhl hVA).mono ?_;rintro e w5 ⟨rfl,v5,hv5,hA5,hK5⟩;have hC5:=hK5.heap (k:=C) hC4 (by simp[hAC]);have hV5:=hK5.heap (k:=V) hV4 (by simp[hVA]);have hH5:=hK5.heap (k:=w.heap.size) hH4 (by simp;omega);have hG5:=hK5.heap (k:=w.heap.size+1) hG4 (by simp;omega);have hK5':Kp [A,C] w w5:=hK4.trans hK5 (by simp +contextual);clear hK5 hK4 hA4 hC4 hV4 hH4 hG4;refine hK.out _ _ ⟨hH5,hG5⟩ (fun _=>?_);clear hK K;refine zd ?_
 try simp only[zZ]
 clear hH5 hG5;go_wp2_with fail;refine (jN8 V A n C v5 (calls+1) (writes+1) i (enc (qE6 N)) (enc l) _ hV5 hA5 (by omega) (by omega) hv5 hi hn hC5 (by rw[qD2];exact hs) hAC).mono ?_;rintro e w6 ⟨rfl,hA6,hC6,hK6⟩;rw[show calls+1+1=calls+2 from by omega] at hA6;rw[qU0] at hC6;go_wp2
 go_end0
 exact⟨rfl,hA6,hC6,hK5'.tr hK6⟩
variable {κ:Nat}
theorem xM2(p:Addr)(w:World):
  CallsD prog 150 #[.pointer (some p)] .returning w fun e u' w'=>e=.returned (.tuple #[])∧u'=.returning∧w'=w:=by
 refine callsD_of_wpS func150 rfl fun c₀ cs hu=>?_;apply wpS_seq;apply wpS_region;simp[wpOpsS,go_sem,recoverD,hu,ntmps150,Exit.thenS];refine wpS_cond (t:=false) (by simp[Act.eval,Array.replicate]) ?_;simp only[Bool.false_eq_true,if_false];refine wpS_of_wp (wp_skip ?_);cases c₀
 simp_all [bodyPostS,results,results150]
theorem jR9(A n C:Nat)(cache:Value)(calls writes:Int)(w:World)(h:w.heap[A]?=some (qA2 κ n C cache calls writes)):
  Calls prog 110 #[.iface 23 (.pointer (some ⟨A,0,none⟩))] w fun e w'=>e=.returned (.int .i64 n)∧Kp [] w w':=by
 have hmf:=zM;have hA:=ζ h
 go_enter_defers func110,ntmps110
 go_wp2_with fail;refine (xI6 A n C cache calls writes _ (θ _ h)).mono ?_;rintro e w1 ⟨rfl,rfl⟩;go_wp2;refine leaves_cons (f:=150) (args:=#[.pointer (some ⟨w.heap.size,0,none⟩)]) (by simp) (by simp[go_sem]) ?_;refine (xM2 ⟨w.heap.size,0,none⟩ _).mono ?_;rintro e u' w'' ⟨rfl,rfl,rfl⟩;simp[Leaves,settle,results,results110,go_sem];exact (Kp.refl _ _).alloc _
theorem zK7(A n C:Nat)(cache:Value)(calls writes:Int)(w:World)(h:w.heap[A]?=some (qA2 κ n C cache calls writes))(h8:8≤n)(h400:n≤400):
  Calls prog 72 #[.iface 23 (.pointer (some ⟨A,0,none⟩))] w fun e w'=>∃ V,e=.returned (.pointer (some ⟨V,0,none⟩))∧w.heap.size≤V∧w'.heap[V]?=some (qC7 A n)∧Kp [] w w':=by
 go_enter func72,ntmps72;go_wp2_with fail;refine (jR9 A n C cache calls writes _ h).mono ?_;rintro e w1 ⟨rfl,hK1⟩;have hd:decide ((n:Int)<8)=false:=by simp;omega
 have hd2:decide ((400:Int)<(n:Int))=false:=by simp;omega
 have hs1:=hK1.size;go_wp2;go_ret;exact⟨_,rfl,hs1,μ _ _,hK1.alloc _⟩
theorem jT9(k:Int)(w:World):
  Calls prog 109 #[.iface 162 (.agg #[.iface 46 (.int .i64 k)])] w fun e w'=>e=.returned (.iface 46 (.int .i64 k))∧Kp [] w w':=by
 have hta:∀ W:World,Sem.run prog (Instr.typeAssert (.iface 162 (.agg #[.iface 46 (.int .i64 k)])) 20 162 true) W=.ok (.tuple #[.agg #[.iface 46 (.int .i64 k)],.bool true]) W:=fun W=>by kernel_rfl
 go_enter func109,ntmps109;go_wp2;go_ret;exact⟨rfl,(Kp.refl _ _).alloc _⟩
theorem zQ5(p q:Addr)(w:World):
  CallsD prog 108 #[.pointer (some p),.pointer (some q)] .returning w fun e u' w'=>e=.returned (.tuple #[])∧u'=.returning∧w'=w:=by
 refine callsD_of_wpS func108 rfl fun c₀ cs hu=>?_;apply wpS_seq;apply wpS_region;simp[wpOpsS,go_sem,recoverD,hu,ntmps108,Exit.thenS,Array.replicate];refine wpS_of_wp ?_;go_wp2;cases c₀
 simp_all [bodyPostS,results,results108]
theorem xJ8(B E:Nat)(k:Int)(call:ByteArray)(w:World)(hp:w.heap[B]?=some (.cells #[.string call] 9))(hBE:B≠E)(hE:w.heap[E]?=some (.cells #[.nilIface] 35)):
  CallsD prog 108 #[.pointer (some ⟨B,0,none⟩),.pointer (some ⟨E,0,none⟩)] (.panicking [{ v:=.iface 162 (.agg #[.iface 46 (.int .i64 k)]),recovered:=false }]) w fun e u' w'=>
   e=.returned (.tuple #[])∧u'=.panicking [{ v:=.iface 162 (.agg #[.iface 46 (.int .i64 k)]),recovered:=true }]∧∃ F,w.heap.size≤F∧w'.heap[F]?=some (.cells #[.string call,.iface 46 (.int .i64 k)] 183)∧w'.heap[E]?=some (.cells #[.iface 180 (.pointer (some ⟨F,0,none⟩))] 35)∧Kp [E] w w':=by
 refine callsD_of_wpS func108 rfl fun c₀ cs hu=>?_;apply wpS_seq;apply wpS_region;simp[wpOpsS,go_sem,recoverD,hu,ntmps108,Exit.thenS,Array.replicate];refine wpS_of_wp ?_;go_wp2_with fail;refine wp_region_held_drew (S:=fun W=>W.heap[B]?=some (.cells #[.string call] 9)) (by kernel_rfl) hp (fun _=>?_);refine zV 1 (.iface 162 (.agg #[.iface 46 (.int .i64 k)])) rfl (fun W hS=>rfl) hp ?_;refine zV 0 (.string call) rfl (fun W hS=>by have c:=ξ hS 0;simp at c;clear hS;go_simp) hp ?_;refine zq 2 fun K hK=>?_;go_simp;refine (jT9 k _).mono ?_;rintro e w2 ⟨rfl,hK2⟩;have hp2:=hK2.heap (k:=B) hp (by simp);have hE2:=hK2.heap (k:=E) hE (by simp);have hK2':Kp [E] w w2:=((Kp.refl [E] w).drew).tr hK2;have hs2:=hK2'.size;clear hK2;refine hK.out _ _ hp2 (fun _=>?_);clear hK K
 try simp only[zZ]
 refine zU 3 (.agg #[.string call,.iface 46 (.int .i64 k)]) hp2 ?_;refine zq 4 fun K hK=>?_;go_simp;refine hK.out _ _ (θ _ hp2) (fun _=>?_);clear hK K
 try simp only[zZ]
 have hp3:=θ (.cells #[.string call,.iface 46 (.int .i64 k)] 183) hp2;have hE3:=θ (.cells #[.string call,.iface 46 (.int .i64 k)] 183) hE2;have hF3:=μ w2 (.cells #[.string call,.iface 46 (.int .i64 k)] 183);have hK3:=hK2'.alloc (.cells #[.string call,.iface 46 (.int .i64 k)] 183);refine zU 5 (.iface 180 (.pointer (some ⟨w2.heap.size,0,none⟩))) hp3 ?_;generalize w2.alloc (.cells #[.string call,.iface 46 (.int .i64 k)] 183)=W3 at *;have hF3s:=ζ hF3;have hE2s:=ζ hE2;have e0:=ξ hE3 0;simp at e0;have ef:=ω hE3 0;refine zq 6 fun K hK=>?_;go_simp;refine hK.out _ _ ((qA6 hBE _ _).trans hp3) (fun _=>?_);clear hK K;refine zd ?_;exact⟨rfl,_,rfl,_,results_none results108 _ _ _,rfl,rfl,w2.heap.size,hs2,(qA6 (by omega) _ _).trans hF3,φ hE3 0 _,hK3.sc _⟩
theorem qV8(f:Nat)(cap:Array Value)(call:ByteArray)(w:World)(R:World→Prop)(hcf:∀ W:World,Sem.run prog (callFunc f cap) W=.ok (.enter f cap) W)
  (hw:Calls prog f cap ((w.alloc (.cells #[.string call] 9)).alloc (.cells #[.nilIface] 35)) fun e w'=>e=.returned (.tuple #[])∧R w'∧w'.heap[w.heap.size+1]?=some (.cells #[.nilIface] 35)):
  Calls prog 70 #[.string call,.func (.func f) #[] cap] w fun e w'=>e=.returned .nilIface∧∃ w1,R w1∧w'=w1.setCell ⟨w.heap.size+1,0,none⟩ .nilIface:=by
 have hmf:=zM;have HW:=zh hw;clear hw
 go_enter_defers func70,ntmps70
 go_wp2_with fail;refine (show Calls _ _ _ _ _ from HW.out).mono ?_;rintro e w1 ⟨rfl,hR,hE⟩;have e0:=ξ hE 0;simp at e0;have ef:=ω hE 0;go_wp2;refine leaves_cons (f:=108) (args:=#[.pointer (some ⟨w.heap.size,0,none⟩),.pointer (some ⟨w.heap.size+1,0,none⟩)]) (by simp) (by simp[go_sem]) ?_;refine (zQ5 ⟨w.heap.size,0,none⟩ ⟨w.heap.size+1,0,none⟩ _).mono ?_;rintro e u' w'' ⟨rfl,rfl,rfl⟩;simp[Leaves,settle,results,results70,go_sem,e0];exact⟨w1,hR,rfl⟩
variable {κ:Nat}
theorem zC7(l:List UInt8)(i:Nat)(b:List UInt8)(h:i*128+b.length≤l.length):(qB6 l i b).length=l.length:=by simp[qB6];omega
theorem zF0(l:List UInt8)(i:Nat)(b:List UInt8)(hb:b.length=128)(h:i*128+128≤l.length):χ (qB6 l i b) i=b:=by
 unfold χ qB6;rw[List.append_assoc,List.drop_append_of_le_length (by simp;omega),List.drop_of_length_le (by simp;omega),List.nil_append,List.take_append_of_le_length (by omega),List.take_of_length_le (by omega)]
theorem xI5(l:List UInt8)(b:List UInt8)(hb:b.length=128)(h:256≤l.length):χ (qB6 l 0 b) 1=χ l 1:=by
 unfold χ qB6;simp only[Nat.zero_mul,List.take_zero,List.nil_append,Nat.zero_add,hb,Nat.one_mul];rw[List.drop_append_of_le_length (by omega),List.drop_of_length_le (by omega),List.nil_append]
def qO2(l:List UInt8)(N:Int):List UInt8:=qB6 (qB6 l 1 (qE6 (N+1))) 0 (qE6 (N+2))
theorem xR4(l:List UInt8)(N:Int)(h:256≤l.length):(qO2 l N).length=l.length:=by
 have h1:=zC7 l 1 (qE6 (N+1)) (by rw[qP2];omega);rw[qO2,zC7 _ _ _ (by rw[qP2];omega),h1]
theorem xR5(l:List UInt8)(N:Int)(h:256≤l.length)(h0:0≤N)(he:N % 2=0)(h1:N≤999999998):Formatted (qO2 l N) (N+2):=by
 have hl:=zC7 l 1 (qE6 (N+1)) (by rw[qP2];omega);refine⟨zF0 _ _ _ (qP2 _) (by omega),?_,by omega,by omega,by omega⟩;rw[qO2,xI5 _ _ (qP2 _) (by omega),zF0 _ _ _ (qP2 _) (by omega)]
 congr 1;omega
theorem xR3(D A n C:Nat)(calls writes:Int)(l:List UInt8)(N:Int)(w:World)(hD:w.heap[D]?=some (.cells #[.iface 23 (.pointer (some ⟨A,0,none⟩))] 129))(h:w.heap[A]?=some (qA2 κ n C (.slice none 0 0) calls writes))(h0:0≤calls)(h1:calls≤999999000)(h0w:0≤writes)(h1w:writes≤999999000)
  (h8:8≤n) (h400:n≤400) (hC:w.heap[C]?=some (.cells (enc l) 87)) (hs:n*128≤l.length) (hAC:C≠A) (hst:(Fresh l∧N=0)∨Formatted l N) (hN0:0≤N) (hNe:N % 2=0) (hN1:N≤999999000):
  Calls prog 98 #[.pointer (some ⟨D,0,none⟩)] w fun e w'=>e=.returned (.tuple #[])∧
   w'.heap[A]?=some (qA2 κ n C (.slice none 0 0) (calls+6) (writes+2))∧w'.heap[C]?=some (.cells (enc (qO2 l N)) 87)∧Kp [A,C] w w':=by
 have hDs:=ζ hD;have hA:=ζ h;have hCs:=ζ hC;have c0:=ξ hD 0;simp at c0;have HE:=zh hNe;clear hNe;go_enter func98,ntmps98;go_wp2_with fail;refine (zK7 A n C (.slice none 0 0) calls writes _ h h8 h400).mono ?_;rintro e w1 ⟨V,rfl,hVs,hV1,hK1⟩;have hA1:=hK1.hp h;have hC1:=hK1.hp hC;have hK1':Kp [A,C] w w1:=hK1.mono (by simp);have hVA:V≠A:=by omega
 have hVC:V≠C:=by omega
 clear hK1;go_wp2_with fail;have hnew:Calls prog 73 #[.pointer (some ⟨V,0,none⟩)] w1 fun e w'=>(∃ b,e=.returned (.tuple #[.agg #[.int .u64 N,.int .i64 0,.int .u64 0],.bool b]))∧w'.heap[A]?=some (qA2 κ n C (.slice none 0 0) (calls+2) writes)∧Kp [A] w1 w':=by
  rcases hst with⟨hf,rfl⟩|hf
  ·exact (jE4 V A n C calls writes l w1 hV1 hA1 h0 (by omega) h8 (by omega) hC1 hs hAC hVA hf).mono fun e w' hr=>⟨⟨_,hr.1⟩,hr.2⟩
  ·exact (zZ5 V A n C calls writes l N w1 hV1 hA1 h0 (by omega) h8 (by omega) hC1 hs hAC hVA hf).mono fun e w' hr=>⟨⟨_,hr.1⟩,hr.2⟩
 refine hnew.mono ?_;rintro e w2 ⟨⟨b,rfl⟩,hA2,hK2⟩;clear hnew hst;have hV2:=hK2.heap hV1 (by simp[hVA]);have hC2:=hK2.heap hC1 (by simp[hAC]);have hK2':Kp [A,C] w w2:=hK1'.tr hK2;have hVl:=ζ hV1;have hs2:=hK2.size;have hs1:=hK1'.size;clear hK2 hK1' hA1 hC1 hV1 c0;go_wp2;obtain⟨H,hHd⟩:∃ H,H=w2.heap.size:=⟨_,rfl⟩;rw[←hHd];have hHw:w.heap.size≤H:=by omega
 have hHA:A≠H:=by omega
 have hHC:C≠H:=by omega
 have hHV:V≠H:=by omega
 obtain⟨W3,hW3,hK3,hA3,hC3,hV3,hH3⟩:∃ W3,W3=w2.alloc (.cells #[.int .u64 N,.int .i64 0,.int .u64 0] 116)∧Kp [A,C] w W3∧W3.heap[A]?=some (qA2 κ n C (.slice none 0 0) (calls+2) writes)∧W3.heap[C]?=some (.cells (enc l) 87)∧W3.heap[V]?=some (qC7 A n)∧W3.heap[H]?=some (.cells #[.int .u64 N,.int .i64 0,.int .u64 0] 116):=
  ⟨_,rfl,hK2'.alloc _,θ _ hA2,θ _ hC2,θ _ hV2,by rw[hHd];exact μ _ _⟩
 rw[←hW3];clear hW3 hK2' hA2 hC2 hV2 hHd hs2 hs1;have HHA:=zh hHA;have HHC:=zh hHC;have HHV:=zh hHV;clear hHA hHC hHV;have x0:=ξ hH3 0;have x1:=ξ hH3 1;have x2:=ξ hH3 2;simp at x0 x1 x2;refine wp_loop_rounds 3 ?_;rw[rounds_succ];go_wp2_with fail;refine (zB5 N 0 0 0 0 _ (by omega) (by omega)).mono ?_;rintro e W3a ⟨rfl,hB3a⟩;have hB3a':=Kp.of_below hB3a (Nat.le_refl _);have hA3a:=hB3a'.hp hA3;have hC3a:=hB3a'.hp hC3;have hV3a:=hB3a'.hp hV3;have hH3a:=hB3a'.hp hH3;have hK3a:Kp [A,C] w W3a:=hK3.tr hB3a';clear hB3a hB3a' hA3 hC3 hV3 hH3 hK3 x0 x1 x2;have x0:=ξ hH3a 0;have x1:=ξ hH3a 1;have x2:=ξ hH3a 2;simp at x0 x1 x2;have y0:=ω hH3a;go_wp2_with fail;obtain⟨W3b,hW3b,hK3b,hA3b,hC3b,hV3b,hH3b⟩:∃ W3b,W3b=((W3a.setCell ⟨H,0,none⟩ (.int .u64 (N+1))).setCell ⟨H,1,none⟩ (.int .i64 0)).setCell ⟨H,2,none⟩ (.int .u64 0)∧Kp [A,C] w W3b∧W3b.heap[A]?=some (qA2 κ n C (.slice none 0 0) (calls+2) (writes))∧W3b.heap[C]?=some (.cells (enc (l)) 87)∧W3b.heap[V]?=some (qC7 A n)∧W3b.heap[H]?=some (.cells #[.int .u64 (N+1),.int .i64 0,.int .u64 0] 116):=
  ⟨_,rfl,((hK3a.setCell (Or.inr hHw) _).setCell (Or.inr hHw) _).setCell (Or.inr hHw) _,(qA6 HHA.out _ _).trans ((qA6 HHA.out _ _).trans ((qA6 HHA.out _ _).trans hA3a)),(qA6 HHC.out _ _).trans ((qA6 HHC.out _ _).trans ((qA6 HHC.out _ _).trans hC3a)),(qA6 HHV.out _ _).trans ((qA6 HHV.out _ _).trans ((qA6 HHV.out _ _).trans hV3a)),φ (φ (φ hH3a 0 _) 1 _) 2 _⟩
 rw[←hW3b];clear hW3b hK3a hA3a hC3a hV3a hH3a x0 x1 x2 y0;refine (zX6 V A n C (calls+2) (writes) 1 (N+1) (l) _ hV3b hA3b (by omega) (by omega) (by omega) (by omega) (by omega) (by omega) hC3b hs hAC hVA hVC (by have:=HE.out;omega) (by omega)).mono ?_;rintro e W3c ⟨rfl,hA3c,hC3c,hK3c'⟩;have hV3c:=hK3c'.heap hV3b (by simp[hVA,hVC]);have hH3c:=hK3c'.ho hH3b;have hK3c:Kp [A,C] w W3c:=hK3b.tr hK3c';clear hK3c' hK3b hA3b hC3b hV3b hH3b;have x0:=ξ hH3c 0;have x1:=ξ hH3c 1;have x2:=ξ hH3c 2;simp at x0 x1 x2;have hsl:n*128≤(qB6 l 1 (qE6 (N+1))).length:=by rw[zC7 _ _ _ (by rw[qP2];omega)];exact hs
 go_wp2_with fail;rw[rounds_succ];go_wp2_with fail;refine (zB5 (N+1) 0 0 0 0 _ (by omega) (by omega)).mono ?_;rintro e W3ca ⟨rfl,hB3ca⟩;have hB3ca':=Kp.of_below hB3ca (Nat.le_refl _);have hA3ca:=hB3ca'.hp hA3c;have hC3ca:=hB3ca'.hp hC3c;have hV3ca:=hB3ca'.hp hV3c;have hH3ca:=hB3ca'.hp hH3c;have hK3ca:Kp [A,C] w W3ca:=hK3c.tr hB3ca';clear hB3ca hB3ca' hA3c hC3c hV3c hH3c hK3c x0 x1 x2;have x0:=ξ hH3ca 0;have x1:=ξ hH3ca 1;have x2:=ξ hH3ca 2;simp at x0 x1 x2;have y0:=ω hH3ca;go_wp2_with fail;obtain⟨W3cb,hW3cb,hK3cb,hA3cb,hC3cb,hV3cb,hH3cb⟩:∃ W3cb,W3cb=((W3ca.setCell ⟨H,0,none⟩ (.int .u64 ((N+1)+1))).setCell ⟨H,1,none⟩ (.int .i64 0)).setCell ⟨H,2,none⟩ (.int .u64 0)∧Kp [A,C] w W3cb∧W3cb.heap[A]?=some (qA2 κ n C (.slice none 0 0) (calls+2+2) (writes+1))∧W3cb.heap[C]?=some (.cells (enc (qB6 l 1 (qE6 (N+1)))) 87)∧W3cb.heap[V]?=some (qC7 A n)∧W3cb.heap[H]?=some (.cells #[.int .u64 ((N+1)+1),.int .i64 0,.int .u64 0] 116):=
  ⟨_,rfl,((hK3ca.setCell (Or.inr hHw) _).setCell (Or.inr hHw) _).setCell (Or.inr hHw) _,(qA6 HHA.out _ _).trans ((qA6 HHA.out _ _).trans ((qA6 HHA.out _ _).trans hA3ca)),(qA6 HHC.out _ _).trans ((qA6 HHC.out _ _).trans ((qA6 HHC.out _ _).trans hC3ca)),(qA6 HHV.out _ _).trans ((qA6 HHV.out _ _).trans ((qA6 HHV.out _ _).trans hV3ca)),φ (φ (φ hH3ca 0 _) 1 _) 2 _⟩
 rw[←hW3cb];clear hW3cb hK3ca hA3ca hC3ca hV3ca hH3ca x0 x1 x2 y0;refine (zX6 V A n C (calls+2+2) (writes+1) 0 ((N+1)+1) (qB6 l 1 (qE6 (N+1))) _ hV3cb hA3cb (by omega) (by omega) (by omega) (by omega) (by omega) (by omega) hC3cb hsl hAC hVA hVC (by have:=HE.out;omega) (by omega)).mono ?_;rintro e W3cc ⟨rfl,hA3cc,hC3cc,hK3cc'⟩;have hV3cc:=hK3cc'.heap hV3cb (by simp[hVA,hVC]);have hH3cc:=hK3cc'.ho hH3cb;have hK3cc:Kp [A,C] w W3cc:=hK3cb.tr hK3cc';clear hK3cc' hK3cb hA3cb hC3cb hV3cb hH3cb;go_wp2_with fail;rw[rounds_succ];go_wp2
 go_end0
 rw[show calls+2+2+2=calls+6 from by omega,show writes+1+1=writes+2 from by omega] at hA3cc;rw[show N+1+1=N+2 from by omega] at hC3cc;exact⟨rfl,hA3cc,hC3cc,hK3cc⟩
theorem xK2(args:Array Value)(W:World):Sem.run prog (callFunc 98 args) W=.ok (.enter 98 args) W:=by
 simp[go_sem,func98]
theorem xR6(A n C:Nat)(calls writes:Int)(l:List UInt8)(N:Int)(w:World)(h:w.heap[A]?=some (qA2 κ n C (.slice none 0 0) calls writes))(h0:0≤calls)(h1:calls≤999999000)(h0w:0≤writes)(h1w:writes≤999999000)
  (h8:8≤n) (h400:n≤400) (hC:w.heap[C]?=some (.cells (enc l) 87)) (hs:n*128≤l.length) (hAC:C≠A) (hst:(Fresh l∧N=0)∨Formatted l N) (hN0:0≤N) (hNe:N % 2=0) (hN1:N≤999999000):
  Calls prog 35 #[.pointer (some ⟨A,0,none⟩)] w fun e w'=>e=.returned .nilIface∧
   w'.heap[A]?=some (qA2 κ n C (.slice none 0 0) (calls+6) (writes+2))∧w'.heap[C]?=some (.cells (enc (qO2 l N)) 87)∧Kp [A,C] w w':=by
 have hA:=ζ h;have hCs:=ζ hC;have hmf:=zM;have HE:=zh hNe;clear hNe;go_enter func35,ntmps35
 go_wp2_with (go_at_call 60;go_in)
 obtain⟨W0,hW0,hK0,hs0⟩:∃ W0,W0=w.alloc (.cells #[.iface 23 (.pointer (some ⟨A,0,none⟩))] 129)∧Kp [] w W0∧W0.heap.size=w.heap.size+1:=⟨_,rfl,(Kp.refl _ _).alloc _,by simp⟩;have hD0:W0.heap[w.heap.size]?=some (.cells #[.iface 23 (.pointer (some ⟨A,0,none⟩))] 129):=by rw[hW0];exact μ _ _
 rw[←hW0];clear hW0;have hA0:=hK0.hp h;have hC0:=hK0.hp hC;refine (qV8 98 _ _ _ (fun w'=>w'.heap[A]?=some (qA2 κ n C (.slice none 0 0) (calls+6) (writes+2))∧w'.heap[C]?=some (.cells (enc (qO2 l N)) 87)∧Kp [A,C] w w') (xK2 _) ?_).mono ?_
 ·refine (xR3 w.heap.size A n C calls writes l N _ (θ _ (θ _ hD0)) (θ _ (θ _ hA0)) h0 h1 h0w h1w h8 h400 (θ _ (θ _ hC0)) hs hAC hst hN0 HE.out hN1).mono ?_;rintro e w1 ⟨rfl,hA1,hC1,hK1⟩;refine⟨rfl,⟨hA1,hC1,(((hK0.mono (S':=[A,C]) (by simp)).alloc _).alloc _).tr hK1⟩,hK1.heap ?_ (by simp;omega)⟩;have e:=μ (W0.alloc (.cells #[.string ⟨#[70,111,114,109,97,116]⟩] 9)) (.cells #[.nilIface] 35);simpa using e
 rintro e w2 ⟨rfl,w1,⟨hA1,hC1,hK1⟩,rfl⟩;go_wp2;go_ret;exact⟨rfl,(qA6 (by omega) _ _).trans hA1,(qA6 (by omega) _ _).trans hC1,hK1.setCell (Or.inr (by simp;omega)) _⟩
def jP1(V:Nat):Value:=.agg #[.pointer (some ⟨V,0,none⟩),.string ⟨#[]⟩,.int .i64 0,.int .u64 0,.pointer none]
theorem xH4(V:Nat)(w:World):
  Calls prog 74 #[.pointer (some ⟨V,0,none⟩),.agg #[.int .i64 0,.int .u64 0]] w fun e w'=>e=.returned (jP1 V)∧Kp [] w w':=by
 go_enter func74,ntmps74;go_wp2;refine bodyPost_ret (results_cell_row results74 _ _ (w.heap.size+1) 83 #[.pointer (some ⟨V,0,none⟩),.string ⟨#[]⟩,.int .i64 0,.int .u64 0,.pointer none] (0,0) _ rfl ?_ underlying83 rfl (by kernel_rfl)) rfl ⟨rfl,((Kp.refl _ _).alloc _).alloc _⟩;have e:=μ (w.alloc (.cells #[.int .i64 0,.int .u64 0] 78)) (.cells #[.pointer (some ⟨V,0,none⟩),.string ⟨#[]⟩,.int .i64 0,.int .u64 0,.pointer none] 83);simpa using e
theorem xO6(d:Nat)(W:World):Sem.run prog (Op.equalIn (d+1) 79 (.pointer none) (.pointer none)) W=.ok true W:=by
 simp[Op.equalIn,run_underlying underlying79]
theorem xN9(V:Nat)(w:World):
  Calls prog 85 #[.agg #[.pointer (some ⟨V,0,none⟩),.string ⟨#[]⟩,.int .i64 0,.int .u64 0,.pointer none]] w fun e w'=>e=.returned (.bool true)∧Kp [] w w':=by
 have heq:∀ W:World,Sem.run prog (Op.equalIn 9999 79 (.pointer none) (.pointer none)) W=.ok true W:=fun W=>xO6 9998 W;go_enter func85,ntmps85;go_wp2;go_ret;exact⟨rfl,(Kp.refl _ _).alloc _⟩
theorem zR1(V:Nat)(w:World):
  Calls prog 75 #[.agg #[.pointer (some ⟨V,0,none⟩),.string ⟨#[]⟩,.int .i64 0,.int .u64 0,.pointer none]] w fun e w'=>e=.returned (.int .i64 0)∧Kp [] w w':=by
 go_enter func75,ntmps75;go_wp2_with fail;refine (xN9 V _).mono ?_;rintro e w1 ⟨rfl,hK1⟩;have hc:w1.heap[w.heap.size+1]?=some (.cells #[.pointer (some ⟨V,0,none⟩),.int .i64 0,.string { data:=#[] }] 191):=hK1.heap (by
  have e:=μ (w.alloc (.cells #[.pointer (some ⟨V,0,none⟩),.string { data:=#[] },.int .i64 0,.int .u64 0,.pointer none] 83)) (.cells #[.pointer (some ⟨V,0,none⟩),.int .i64 0,.string { data:=#[] }] 191);simpa using e) (by simp)
 have hK1':Kp [] w w1:=(((Kp.refl [] w).alloc _).alloc _).tr hK1;clear hK1;have c1:=ξ hc 1;simp at c1;go_wp2;go_ret;exact⟨rfl,hK1'⟩
variable {κ:Nat}
structure Sto where
 V:Nat
 M:Nat
 N:Int
 rb:Int
 rs:Int
 bl:Int
 po:Bool
 bg:Int
 wr:Int
def ν(lk:Int)(s:Sto):Obj:=
 .cells #[.int .i32 lk,.int .u32 0,.pointer (some ⟨s.V,0,none⟩),.int .u64 s.N,.int .i64 s.rb,.int .u64 s.rs,.int .i64 s.bl,.bool s.po,.int .u64 s.bg,.int .u64 s.wr,.map (some s.M)] 126
def qJ7(V M:Nat)(N:Int):Sto:=⟨V,M,N,0,0,0,false,0,0⟩
theorem zN0(V A n:Nat)(w:World)(hV:w.heap[V]?=some (qC7 A n)):
  Calls prog 97 #[.pointer (some ⟨V,0,none⟩)] w fun e w'=>e=.returned (.int .i64 n)∧w'=w:=by
 have c1:=ξ hV 1;simp at c1;clear hV;go_enter func97,ntmps97;go_wp2;go_ret;exact⟨rfl,rfl⟩
theorem jJ4(D X A n C:Nat)(calls writes:Int)(l:List UInt8)(N:Int)(w:World)(hD:w.heap[D]?=some (.cells #[.iface 23 (.pointer (some ⟨A,0,none⟩))] 129))(hX:w.heap[X]?=some (.cells #[.pointer none] 24))(h:w.heap[A]?=some (qA2 κ n C (.slice none 0 0) calls writes))(h0:0≤calls)(h1:calls≤999999000)
  (h8:8≤n) (h400:n≤400) (hC:w.heap[C]?=some (.cells (enc l) 87)) (hs:n*128≤l.length) (hAC:C≠A) (hXA:X≠A) (hf:Formatted l N):
  Calls prog 71 #[.pointer (some ⟨D,0,none⟩),.pointer (some ⟨X,0,none⟩)] w fun e w'=>e=.returned (.tuple #[])∧
   w'.heap[A]?=some (qA2 κ n C (.slice none 0 0) (calls+3) writes)∧(∃ V M St Db,w.heap.size≤V∧w.heap.size≤M∧w.heap.size≤St∧w.heap.size≤Db∧w'.heap[V]?=some (qC7 A n)∧w'.heap[M]?=some (.map #[] 0)∧w'.heap[St]?=some (ν 0 (qJ7 V M N))∧w'.heap[Db]?=some (.cells #[.pointer (some ⟨St,0,none⟩)] 95)∧w'.heap[X]?=some (.cells #[.pointer (some ⟨Db,0,none⟩)] 24))∧Kp [A,X] w w':=by
 have hDs:=ζ hD;have hXs:=ζ hX;have hA:=ζ h;have hCs:=ζ hC;have c0:=ξ hD 0;simp at c0;go_enter func71,ntmps71;go_wp2_with fail;refine (zK7 A n C (.slice none 0 0) calls writes _ h h8 h400).mono ?_;rintro e w1 ⟨V,rfl,hVs,hV1,hK1⟩;have hA1:=hK1.hp h;have hC1:=hK1.hp hC;have hX1:=hK1.hp hX;have hK1':Kp [A,X] w w1:=hK1.mono (by simp);have HVA:Hid (V≠A):=by show V≠A;omega
 have HXA:=zh hXA;clear hK1 hXA;go_wp2_with fail;refine (zZ5 V A n C calls writes l N w1 hV1 hA1 h0 (by omega) h8 (by omega) hC1 hs hAC HVA.out hf).mono ?_;rintro e w2 ⟨rfl,hA2,hK2⟩;have hV2:=hK2.heap hV1 (by simp[HVA.out]);have hX2:=hK2.heap hX1 (by simp[HXA.out]);have hK2':Kp [A,X] w w2:=hK1'.trans hK2 (by simp +contextual);have hs1:=hK1'.size;have hs2:=hK2.size;have hVl:=ζ hV1;clear hK2 hK1' hA1 hC1 hV1 hX1 c0;go_wp2_with fail;obtain⟨H,hHd⟩:∃ H,H=w2.heap.size:=⟨_,rfl⟩;rw[←hHd];obtain⟨W3,hW3,hK3,hA3,hX3,hV3,hH3⟩:∃ W3,W3=w2.alloc (.cells #[.int .u64 N,.int .i64 0,.int .u64 0] 116)∧Kp [A,X] w W3∧W3.heap[A]?=some (qA2 κ n C (.slice none 0 0) (calls+2) writes)∧W3.heap[X]?=some (.cells #[.pointer none] 24)∧W3.heap[V]?=some (qC7 A n)∧W3.heap[H]?=some (.cells #[.int .u64 N,.int .i64 0,.int .u64 0] 116):=
  ⟨_,rfl,hK2'.alloc _,θ _ hA2,θ _ hX2,θ _ hV2,by rw[hHd];exact μ _ _⟩
 rw[←hW3];have hHb:w2.heap.size≤H:=by omega
 clear hW3 hK2' hA2 hX2 hV2 hHd;have hHs:=ζ hH3;refine (xH4 V _).mono ?_;rintro e W4 ⟨rfl,hK40⟩;have hA4:=hK40.hp hA3;have hX4:=hK40.hp hX3;have hV4:=hK40.hp hV3;have hH4:=hK40.hp hH3;have hK4:Kp [A,X] w W4:=hK3.tr hK40;have hs4:=hK40.size;clear hK40 hA3 hX3 hV3 hH3 hK3;go_wp2_with fail;refine (zR1 V _).mono ?_;rintro e W5 ⟨rfl,hK50⟩;have hA5:=hK50.hp hA4;have hX5:=hK50.hp hX4;have hV5:=hK50.hp hV4;have hH5:=hK50.hp hH4;have hK5:Kp [A,X] w W5:=hK4.tr hK50;have hs5:=hK50.size;clear hK50 hA4 hX4 hV4 hH4 hK4;go_wp2_with fail;refine (jN7 V A n C (calls+2) writes _ hV5 hA5 (by omega) (by omega)).mono ?_;rintro e W6 ⟨rfl,hA6,hK60⟩;rw[show calls+2+1=calls+3 from by omega] at hA6;have hX6:=hK60.heap hX5 (by simp[HXA.out]);have hV6:=hK60.heap hV5 (by simp[HVA.out]);have hH6:=hK60.ho hH5;have hK6:Kp [A,X] w W6:=hK5.trans hK60 (by simp +contextual);have hs6:=hK60.size;have hXH:X≠H:=by omega
 have HXH:=zh hXH;have HXV:Hid (X≠V):=by show X≠V;omega
 have hsW6:=hK6.size;clear hK60 hA5 hX5 hV5 hH5 hK5 hXH;have hmm:=@run_makeMap prog;have z0:=ξ hH6;have x0:=ξ hX6 0;simp only[zG,zH,zI] at x0;have fx0:=ω hX6 0;have hX6s:=ζ hX6;have hX6a:X<W6.heap.size+1:=by omega
 have hX6b:X<W6.heap.size+1+1:=by omega
 go_wp2
 go_end0
 obtain⟨U,hU,hKU,hAU,hVU,hXU,hsU⟩:∃ U,U=W6.setCell ⟨X,0,none⟩ (.pointer (some ⟨W6.heap.size+1+1,0,none⟩))∧Kp [A,X] w U∧U.heap[A]?=some (qA2 κ n C (.slice none 0 0) (calls+3) writes)∧U.heap[V]?=some (qC7 A n)∧U.heap[X]?=some (.cells #[.pointer (some ⟨W6.heap.size+1+1,0,none⟩)] 24)∧U.heap.size=W6.heap.size:=
  ⟨_,rfl,hK6.sc _,(qA6 (fun e=>HXA.out e.symm) _ _).trans hA6,(qA6 (fun e=>HXV.out e.symm) _ _).trans hV6,φ hX6 0 _,by simp[World.setCell]⟩
 rw[←hU];have e1:=μ U (.map #[] 0);have e2:=μ (U.alloc (.map #[] 0)) (ν 0 (qJ7 V W6.heap.size N));have e3:=μ ((U.alloc (.map #[] 0)).alloc (ν 0 (qJ7 V W6.heap.size N))) (.cells #[.pointer (some ⟨W6.heap.size+1,0,none⟩)] 95);rw[hsU] at e1;rw[show (U.alloc (.map #[] 0)).heap.size=W6.heap.size+1 from by simp[hsU]] at e2;rw[show ((U.alloc (.map #[] 0)).alloc (ν 0 (qJ7 V W6.heap.size N))).heap.size=W6.heap.size+1+1 from by simp[hsU]] at e3;exact⟨rfl,θ _ (θ _ (θ _ hAU)),⟨V,W6.heap.size,W6.heap.size+1,W6.heap.size+1+1,hVs,by omega,by omega,by omega,θ _ (θ _ (θ _ hVU)),θ _ (θ _ e1),θ _ e2,e3,θ _ (θ _ (θ _ hXU))⟩,((hKU.alloc _).alloc _).alloc _⟩
variable {κ:Nat}
theorem zQ7(args:Array Value)(W:World):Sem.run prog (callFunc 71 args) W=.ok (.enter 71 args) W:=by
 simp[go_sem,func71]
theorem jJ6(A n C:Nat)(calls writes:Int)(l:List UInt8)(N:Int)(w:World)(h:w.heap[A]?=some (qA2 κ n C (.slice none 0 0) calls writes))(h0:0≤calls)(h1:calls≤999999000)
  (h8:8≤n) (h400:n≤400) (hC:w.heap[C]?=some (.cells (enc l) 87)) (hs:n*128≤l.length) (hAC:C≠A) (hf:Formatted l N):
  Calls prog 16 #[.pointer (some ⟨A,0,none⟩)] w fun e w'=>∃ V M St Db,e=.returned (.tuple #[.pointer (some ⟨Db,0,none⟩),.nilIface])∧w.heap.size≤V∧w.heap.size≤M∧w.heap.size≤St∧w.heap.size≤Db∧
   w'.heap[A]?=some (qA2 κ n C (.slice none 0 0) (calls+3) writes)∧w'.heap[V]?=some (qC7 A n)∧w'.heap[M]?=some (.map #[] 0)∧w'.heap[St]?=some (ν 0 (qJ7 V M N))∧w'.heap[Db]?=some (.cells #[.pointer (some ⟨St,0,none⟩)] 95)∧Kp [A] w w':=by
 have hA:=ζ h;have hCs:=ζ hC;have hmf:=zM;go_enter func16,ntmps16
 go_wp2_with (go_at_call 42;go_in)
 obtain⟨W0,hW0,hK0,hs0⟩:∃ W0,W0=(w.alloc (.cells #[.iface 23 (.pointer (some ⟨A,0,none⟩))] 129)).alloc (.cells #[.pointer none] 24)∧Kp [] w W0∧W0.heap.size=w.heap.size+2:=⟨_,rfl,((Kp.refl _ _).alloc _).alloc _,by simp⟩;have hD0:W0.heap[w.heap.size]?=some (.cells #[.iface 23 (.pointer (some ⟨A,0,none⟩))] 129):=by rw[hW0];exact θ _ (μ _ _)
 have hX0:W0.heap[w.heap.size+1]?=some (.cells #[.pointer none] 24):=by
  rw[hW0];have e:=μ (w.alloc (.cells #[.iface 23 (.pointer (some ⟨A,0,none⟩))] 129)) (.cells #[.pointer none] 24);simpa using e
 rw[←hW0];clear hW0;have hA0:=hK0.hp h;have hC0:=hK0.hp hC;refine (qV8 71 _ _ _ (fun w'=>w'.heap[A]?=some (qA2 κ n C (.slice none 0 0) (calls+3) writes)∧(∃ V M St Db,W0.heap.size+2≤V∧W0.heap.size+2≤M∧W0.heap.size+2≤St∧W0.heap.size+2≤Db∧w'.heap[V]?=some (qC7 A n)∧w'.heap[M]?=some (.map #[] 0)∧w'.heap[St]?=some (ν 0 (qJ7 V M N))∧w'.heap[Db]?=some (.cells #[.pointer (some ⟨St,0,none⟩)] 95)∧w'.heap[w.heap.size+1]?=some (.cells #[.pointer (some ⟨Db,0,none⟩)] 24))∧Kp [A] w w') (zQ7 _) ?_).mono ?_
 ·refine (jJ4 w.heap.size (w.heap.size+1) A n C calls writes l N _ (θ _ (θ _ hD0)) (θ _ (θ _ hX0)) (θ _ (θ _ hA0)) h0 h1 h8 h400 (θ _ (θ _ hC0)) hs hAC (by omega) hf).mono ?_;rintro e w1 ⟨rfl,hA1,⟨V,M,St,Db,hV,hM,hSt,hDb,r⟩,hK1⟩;refine⟨rfl,⟨hA1,⟨V,M,St,Db,by simpa using hV,by simpa using hM,by simpa using hSt,by simpa using hDb,r⟩,(((hK0.mono (S':=[A]) (by simp)).alloc _).alloc _).trans hK1 (by intro i hi hlt;simp at hi;rcases hi with rfl | rfl;simp;omega)⟩,hK1.heap ?_ (by simp;omega)⟩;have e:=μ (W0.alloc (.cells #[.string ⟨#[79,112,101,110]⟩] 9)) (.cells #[.nilIface] 35);simpa using e
 rintro e w2 ⟨rfl,w1,⟨hA1,⟨V,M,St,Db,hV,hM,hSt,hDb,r1,rm,r2,r3,r4⟩,hK1⟩,rfl⟩;have x0:=ξ r4 0;simp at x0;go_wp2
 go_ret2
 exact⟨V,M,St,Db,rfl,by omega,by omega,by omega,by omega,(qA6 (by omega) _ _).trans hA1,(qA6 (by omega) _ _).trans r1,(qA6 (by omega) _ _).trans rm,(qA6 (by omega) _ _).trans r2,(qA6 (by omega) _ _).trans r3,hK1.setCell (Or.inr (by simp;omega)) _⟩
end Go.Proofs.YtdohpenfkdckiabGreatDoor
namespace Go.Proofs.YtdohpenfkdckiabGreatDoor
open Go.Proofs.Tryz
open Go.RowKit Go.Extern.Stop Go.Stop Go.Extern
theorem zP0(p:Addr)(w:World):(Go.method 445 180 (.pointer (some p)) "Unwrap").run prog w=.ok (265,.pointer (some p)) w:=by kernel_rfl
theorem zP1(v:Value)(w:World):(ReflectliteType.typeOf #[.iface 46 v]).run prog w=.ok (.iface 196 (.agg #[.pointer (some ⟨5,46,none⟩)])) w:=by kernel_rfl
end Go.Proofs.YtdohpenfkdckiabGreatDoor
namespace Go.Proofs.YtdohpenfkdckiabGreatDoor
open Go.Proofs.Tryz
abbrev jD7:Go.Conc.Locks.MuLink:={ lock:=81,unlock:=82,ilock:=119,iunlock:=120,lockSlow:=161,unlockSlow:=164,disable:=157,enable:=159,acquire:=160,relMerge:=162,cas32:=158,add32:=163,tMutex:=123,tIMutex:=121,tPMutex:=208,tPIMutex:=245,tPI32:=247,tUP:=134,tNoCopy:=118,tU32:=119 }
theorem qP7:Go.Conc.Locks.MuLib prog jD7:=
 ⟨func81,func82,func119,func120,func157,func159,func160,func162,func158,func163,underlying121,runUnderlying121,sizeOf121,isAgg121,zeroValue121,underlying123,runUnderlying123,sizeOf123,isAgg123,zeroValue123,underlying208,runUnderlying208,sizeOf208,isAgg208,zeroValue208,underlying245,runUnderlying245,sizeOf245,isAgg245,zeroValue245,underlying247,runUnderlying247,sizeOf247,isAgg247,zeroValue247,underlying134,runUnderlying134,sizeOf134,isAgg134,zeroValue134,underlying118,runUnderlying118,sizeOf118,isAgg118,zeroValue118,underlying21,runUnderlying21,sizeOf21,isAgg21,zeroValue21,(by kernel_rfl)⟩
end Go.Proofs.YtdohpenfkdckiabGreatDoor
namespace Go.Proofs.YtdohpenfkdckiabGreatDoor
open Go.Proofs.Tryz
open Go.RowKit Go.Extern.Stop Go.Stop Go.Extern
theorem zU7(w:World):((Extern.ReflectliteType.method fun t=>do Rtype.noPackHeld "Comparable" t;(fun a=>Value.bool a.comparable) <$> typeInfo t) #[.agg #[.pointer (some ⟨5,46,none⟩)]]).run prog w=.ok (.bool true) w:=by kernel_rfl
theorem zV1(h:Value)(w:World):(Go.method 445 196 (.agg #[h]) "Comparable").run prog w=.ok (268,.agg #[h]) w:=by kernel_rfl
theorem zU8(k:Int)(w:World):Sem.run prog (binOp .eql 35 (.iface 46 (.int .i64 k)) (.iface 46 (.int .i64 8))) w=.ok (.bool (k == 8)) w:=by
 kernel_rfl
theorem zV3(v:Value)(xT:TypeId)(w:World):(Instr.typeAssert (.iface 180 v) xT 251 true).run prog w=.ok (.tuple #[.nilIface,.bool false]) w:=run_typeAssert_lacksB underlying251 (by kernel_rfl) (by kernel_rfl) v xT w
theorem zV2(v:Value)(xT:TypeId)(w:World):(Instr.typeAssert (.iface 46 v) xT 251 true).run prog w=.ok (.tuple #[.nilIface,.bool false]) w:=run_typeAssert_lacksB underlying251 (by kernel_rfl) (by kernel_rfl) v xT w
theorem xW1(v:Value)(xT:TypeId)(w:World):(Instr.typeAssert (.iface 46 v) xT 204 true).run prog w=.ok (.tuple #[.nilIface,.bool false]) w:=run_typeAssert_lacksB underlying204 (by kernel_rfl) (by kernel_rfl) v xT w
theorem xW2(v:Value)(xT:TypeId)(w:World):(Instr.typeAssert (.iface 46 v) xT 205 true).run prog w=.ok (.tuple #[.nilIface,.bool false]) w:=run_typeAssert_lacksB underlying205 (by kernel_rfl) (by kernel_rfl) v xT w
theorem zV0(v:Value)(xT:TypeId)(w:World):(Instr.typeAssert (.iface 180 v) xT 204 true).run prog w=.ok (.tuple #[.iface 180 v,.bool true]) w:=run_typeAssert_hasB underlying204 (by kernel_rfl) v xT w
theorem zU9(F:Nat)(call:ByteArray)(k:Int)(w:World)(hk:k≠8)(hF:w.heap[F]?=some (.cells #[.string call,.iface 46 (.int .i64 k)] 183)):
  Calls prog 84 #[.iface 180 (.pointer (some ⟨F,0,none⟩)),.iface 46 (.int .i64 8)] w fun e w'=>e=.returned (.bool false)∧w'=w:=by
 have h151:=@run_callFunc_extern prog 116 _ ReflectliteType.typeOf func116 (by kernel_rfl) (by kernel_rfl) (by kernel_rfl) (by kernel_rfl);have hcmp:=@run_callFunc_extern prog 268 _ (Extern.ReflectliteType.method fun t=>do Rtype.noPackHeld "Comparable" t;pure (.bool (←typeInfo t).comparable)) func268 (by kernel_rfl) (by kernel_rfl) (by kernel_rfl) (by kernel_rfl);have tT:=zP1;have cT:=zU7;have mR:=zV1;have nF:=zV3;have nE:=zV2;have uE:=xW1;have vE:=xW2;have uF:=zV0;have mU:=zP0;have hq:=run_eql_iface_types (P:=prog) 180 46 (.pointer (some ⟨F,0,none⟩)) (.int .i64 8) underlying35 (by decide) w;have hb:(k == 8)=false:=by simp[hk]
 have he:=zU8 k w;rw[hb] at he;clear hk hb;have hFs:=ζ hF;have c1:=ξ hF 1;simp only[zG,zH,zI] at c1;go_enter func84,ntmps84;go_wp2;refine wp_loop_rounds 2 ?_;rw[rounds_succ];go_wp2;rw[rounds_succ];go_wp2;go_ret;exact⟨rfl,rfl⟩
end Go.Proofs.YtdohpenfkdckiabGreatDoor
namespace Go.Proofs.YtdohpenfkdckiabGreatDoor
open Go.Proofs.Tryz
open Go.RowKit Go.MuLone
def xD5(k:Int):Value:=.iface 162 (.agg #[.iface 46 (.int .i64 k)])
def qC6:Option Int→Ending
 | none=>.returned (.tuple #[])
 | some k=>.panicked [{ v:=xD5 k,recovered:=false }]
def qT2(w:World)(v:Value):Option Int→Prop
 | none=>v=.nilIface
 | some k=>∃ F call,v=.iface 180 (.pointer (some ⟨F,0,none⟩))∧w.heap[F]?=some (.cells #[.string call,.iface 46 (.int .i64 k)] 183)
theorem xJ7(f:Nat)(cap:Array Value)(call:ByteArray)(k:Int)(w:World)(R:World→Prop)(hcf:∀ W:World,Sem.run prog (callFunc f cap) W=.ok (.enter f cap) W)
  (hw:Calls prog f cap ((w.alloc (.cells #[.string call] 9)).alloc (.cells #[.nilIface] 35)) fun e w'=>e=.panicked [{ v:=xD5 k,recovered:=false }]∧R w'∧w'.heap[w.heap.size+1]?=some (.cells #[.nilIface] 35)∧w'.heap[w.heap.size]?=some (.cells #[.string call] 9)):
  Calls prog 70 #[.string call,.func (.func f) #[] cap] w fun e w'=>∃ F,e=.returned (.iface 180 (.pointer (some ⟨F,0,none⟩)))∧w'.heap[F]?=some (.cells #[.string call,.iface 46 (.int .i64 k)] 183)∧∃ w1,R w1∧w1.heap.size≤F∧Kp [w.heap.size+1] w1 w':=by
 have hmf:=zM;have HW:=zh hw;clear hw
 go_enter_defers func70,ntmps70
 go_wp2_with fail;refine (show Calls _ _ _ _ _ from HW.out).mono ?_;rintro e w1 ⟨rfl,hR,hE,hB⟩;have HR:=zh hR;clear hR;go_wp2;refine leaves_cons (f:=108) (args:=#[.pointer (some ⟨w.heap.size,0,none⟩),.pointer (some ⟨w.heap.size+1,0,none⟩)]) (by simp) (by simp[go_sem]) ?_;refine (xJ8 w.heap.size (w.heap.size+1) k call _ hB (by omega) hE).mono ?_;rintro e u' w2 ⟨rfl,rfl,F,hF,hF2,hE2,hK2⟩;have e0:=ξ hE2 0;simp at e0;simp[Leaves,settle,results,results70,go_sem,e0];exact⟨hF2,w1,HR.out,hF,hK2⟩
theorem zH7(k:Int)(w:World):Calls prog 84 #[.nilIface,.iface 46 (.int .i64 k)] w fun e w'=>e=.returned (.bool false)∧w'=w:=by
 have hb:∀ W:World,Sem.run prog (binOp .eql 35 .nilIface (.iface 46 (.int .i64 k))) W=.ok (.bool false) W:=fun W=>by kernel_rfl
 go_enter func84,ntmps84;go_wp2;go_ret;exact⟨rfl,rfl⟩
theorem qY7(args:Array Value)(W:World):Sem.run prog (callFunc 83 args) W=.ok (.enter 83 args) W:=by
 simp[go_sem,func83]
theorem zO8(k:Option Int)(S F St f:Nat)(s:Sto)(first cap:Array Value)(w:World)(R:World→Prop)(hS:w.heap[S]?=some (.cells #[.pointer (some ⟨St,0,none⟩)] 74))(hF:w.heap[F]?=some (.cells #[.func (.func f) first cap] 1))(hSt:w.heap[St]?=some (ν 1 s))(hpo:s.po=false)
  (hcf:∀ W:World,Sem.run prog (callFunc f (first++cap)) W=.ok (.enter f (first++cap)) W)
  (hw:Calls prog f (first++cap) w fun e w'=>e=qC6 k∧R w'):
  Calls prog 83 #[.pointer (some ⟨S,0,none⟩),.pointer (some ⟨F,0,none⟩)] w fun e w'=>e=qC6 k∧R w':=by
 have s0:=ξ hS 0;have f0:=ξ hF 0;have p7:=ξ hSt 7;simp[hpo] at s0 f0 p7;clear hS hF hSt;have HW:=zh hw;clear hw;go_enter func83,ntmps83;go_wp2_with fail;refine (show Calls _ _ _ _ _ from HW.out).mono ?_;rintro e w1 ⟨rfl,hR⟩
 cases k with
 | none=>
  simp only[qC6];go_wp2
  go_end0
  exact⟨rfl,hR⟩
 | some k=>
  simp only[qC6];go_wp2;exact⟨rfl,rfl,hR⟩
theorem zE7(k:Option Int)(hk8:k≠some 8)(St f:Nat)(s s':Sto)(first cap:Array Value)(call:ByteArray)(X:List Nat)(Q:World→World→Prop)(w:World)(hSt:w.heap[St]?=some (ν 0 s))(hpo:s.po=false)
  (hcf:∀ W:World,Sem.run prog (callFunc f (first++cap)) W=.ok (.enter f (first++cap)) W) (hX:∀ i,i∈X→i<w.heap.size)
  (hw:∀ W:World,Kp [St] w W→W.heap[St]?=some (ν 1 s)→Calls prog f (first++cap) W fun e w1=>e=qC6 k∧Q W w1∧Kp (St::X) W w1∧w1.heap[St]?=some (ν 1 s')):
  Calls prog 44 #[.pointer (some ⟨St,0,none⟩),.string call,.func (.func f) first cap] w fun e w'=>∃ v,e=.returned v∧qT2 w' v k∧w'.heap[St]?=some (ν 0 s')∧Kp (St::X) w w'∧∃ W w1 B,Q W w1∧Kp [St] w W∧w.heap.size≤B∧B<W.heap.size∧w1.heap[B]?=some (.cells #[.nilIface] 35)∧Kp [St,B] w1 w':=by
 have hmf:=zM;have HW:=zh hw;have HX:=zh hX;have HPO:=zh hpo;have HK8:=zh hk8;clear hw hX hpo hk8;have hSs:=ζ hSt
 go_enter_defers func44,ntmps44
 go_wp2_with fail;refine (lock_free qP7 ⟨St,0,none⟩ _ (ξ (θ _ (θ _ hSt)) 0) (ω (θ _ (θ _ hSt)) 0)).mono ?_;rintro e W0 ⟨rfl,rfl⟩;obtain⟨W0,hW0,hK0,hs0,hB0,hF0,hSt0⟩:∃ W0,W0=((w.alloc (.cells #[.pointer (some ⟨St,0,none⟩)] 74)).alloc (.cells #[.func (Fn.func f) first cap] 1)).setCell ⟨St,0,none⟩ (.int .i32 1)∧Kp [St] w W0∧W0.heap.size=w.heap.size+2∧W0.heap[w.heap.size]?=some (.cells #[.pointer (some ⟨St,0,none⟩)] 74)∧W0.heap[w.heap.size+1]?=some (.cells #[.func (Fn.func f) first cap] 1)∧W0.heap[St]?=some (ν 1 s):=by
  refine⟨_,rfl,((((Kp.refl _ _).alloc _).alloc _).sc _),by simp[World.setCell],?_,?_,?_⟩
  ·exact (qA6 (by omega) _ _).trans (θ _ (μ _ _))
  ·refine (qA6 (by omega) _ _).trans ?_;have e:=μ (w.alloc (.cells #[.pointer (some ⟨St,0,none⟩)] 74)) (.cells #[.func (Fn.func f) first cap] 1);simpa using e
  ·exact φ (θ _ (θ _ hSt)) 0 _
 rw[←hW0];clear hW0;have b0:=ξ hB0 0;simp at b0;go_wp2_with fail;obtain⟨Wc,hWc,hKc,hsc,hBc,hFc,hStc,hEc,hCc⟩:∃ Wc,Wc=(W0.alloc (.cells #[.string call] 9)).alloc (.cells #[.nilIface] 35)∧Kp [St] w Wc∧Wc.heap.size=w.heap.size+4∧Wc.heap[w.heap.size]?=some (.cells #[.pointer (some ⟨St,0,none⟩)] 74)∧Wc.heap[w.heap.size+1]?=some (.cells #[.func (Fn.func f) first cap] 1)∧Wc.heap[St]?=some (ν 1 s)∧Wc.heap[W0.heap.size+1]?=some (.cells #[.nilIface] 35)∧Wc.heap[W0.heap.size]?=some (.cells #[.string call] 9):=by
  refine⟨_,rfl,(hK0.alloc _).alloc _,by simp[hs0],θ _ (θ _ hB0),θ _ (θ _ hF0),θ _ (θ _ hSt0),?_,θ _ (μ _ _)⟩;have e:=μ (W0.alloc (.cells #[.string call] 9)) (.cells #[.nilIface] 35);simpa using e
 have HA1:Hid (Calls prog 83 #[.pointer (some ⟨w.heap.size,0,none⟩),.pointer (some ⟨w.heap.size+1,0,none⟩)] Wc fun e w1=>e=qC6 k∧Q Wc w1∧Kp (St::X) Wc w1∧w1.heap[St]?=some (ν 1 s')):=
  zO8 k w.heap.size (w.heap.size+1) St f s first cap Wc (fun w1=>Q Wc w1∧Kp (St::X) Wc w1∧w1.heap[St]?=some (ν 1 s')) hBc hFc hStc HPO.out hcf (HW.out Wc hKc hStc)
 have HNM:Hid (∀ i,w.heap.size≤i→i ∉ St::X):=by
  show ∀ i,w.heap.size≤i→i ∉ St::X;intro i hi h;rcases List.mem_cons.1 h with h|h
  ·omega
  ·have:=HX.out _ h;omega
 clear HW
 cases k with
 | none=>
  refine (qV8 83 _ _ _ (fun w1=>Q Wc w1∧Kp (St::X) Wc w1∧w1.heap[St]?=some (ν 1 s')) (qY7 _) ?_).mono ?_
  ·rw[←hWc];refine (show Calls _ _ _ _ _ from HA1.out).mono ?_;rintro e w1 ⟨rfl,hQ,hk,hst⟩;exact⟨rfl,⟨hQ,hk,hst⟩,hk.heap hEc (HNM.out _ (by omega))⟩
  rintro e w2 ⟨rfl,w1,⟨hQ,hk,hst⟩,rfl⟩;have hs1:=hk.size;have hEw1:=hk.heap hEc (HNM.out _ (by omega));obtain⟨w2,hw2,hst2,hK2,ho2⟩:∃ w2,w2=w1.setCell ⟨W0.heap.size+1,0,none⟩ .nilIface∧w2.heap[St]?=some (ν 1 s')∧Kp (St::X) w w2∧Kp [St,W0.heap.size+1] w1 w2:=
   ⟨_,rfl,(qA6 (by omega) _ _).trans hst,(((hKc.mono (S':=St::X) (by simp)).trans hk (fun _ h _=>h)).setCell (Or.inr (by simp;omega)) _),(Kp.refl _ _).sc _⟩
  rw[←hw2];clear hw2
  go_wp2_with (go_at_call 84;refine (zH7 8 _).mono ?_;rintro e w' ⟨rfl,rfl⟩)
  refine leaves_cons (f:=82) (args:=#[.pointer (some ⟨St,0,none⟩)]) (by simp) (by simp[go_sem]) ?_;refine (unlock_deferred qP7 ⟨St,0,none⟩ .returning _ (ξ hst2 0) (ω hst2 0)).mono ?_;rintro e u' w'' ⟨rfl,rfl,rfl⟩;exact⟨_,results_tmp rfl _ _ _,.nilIface,rfl,rfl,φ hst2 0 _,hK2.sc _,Wc,w1,W0.heap.size+1,hQ,hKc,by omega,by omega,hEw1,ho2.sc _⟩
 | some k=>
  have hk8:k≠8:=fun h=>HK8.out (by rw[h]);have HK:=zh hk8;clear hk8;refine (xJ7 83 _ _ k _ (fun w1=>Q Wc w1∧Kp (St::X) Wc w1∧w1.heap[St]?=some (ν 1 s')) (qY7 _) ?_).mono ?_
  ·rw[←hWc];refine (show Calls _ _ _ _ _ from HA1.out).mono ?_;rintro e w1 ⟨rfl,hQ,hk,hst⟩;exact⟨rfl,⟨hQ,hk,hst⟩,hk.heap hEc (HNM.out _ (by omega)),hk.heap hCc (HNM.out _ (by omega))⟩
  rintro e w2 ⟨F,rfl,hF2,w1,⟨hQ,hk,hst⟩,hFs,hKc2⟩;have hs1:=hk.size;have hEw1:=hk.heap hEc (HNM.out _ (by omega));have hst2:w2.heap[St]?=some (ν 1 s'):=hKc2.ho hst;have hK2:Kp (St::X) w w2:=((hKc.mono (S':=St::X) (by simp)).trans hk (fun _ h _=>h)).trans hKc2 (by intro i hi hlt;simp at hi;omega);have ho2:Kp [St,W0.heap.size+1] w1 w2:=hKc2.mono (by simp);have HIS:Hid (Calls prog 84 #[.iface 180 (.pointer (some ⟨F,0,none⟩)),.iface 46 (.int .i64 8)] w2 fun e w'=>e=.returned (.bool false)∧w'=w2):=zU9 F _ k w2 HK.out hF2;have hFSt:St<F:=by have:=ζ hst;omega
  go_wp2_with (go_at_call 84;refine (show Calls _ _ _ _ _ from HIS.out).mono ?_;rintro e w' ⟨rfl,rfl⟩)
  refine leaves_cons (f:=82) (args:=#[.pointer (some ⟨St,0,none⟩)]) (by simp) (by simp[go_sem]) ?_;refine (unlock_deferred qP7 ⟨St,0,none⟩ .returning _ (ξ hst2 0) (ω hst2 0)).mono ?_;rintro e u' w'' ⟨rfl,rfl,rfl⟩;exact⟨_,results_tmp rfl _ _ _,.iface 180 (.pointer (some ⟨F,0,none⟩)),rfl,⟨F,_,rfl,(qA6 (by omega) _ _).trans hF2⟩,φ hst2 0 _,hK2.sc _,Wc,w1,W0.heap.size+1,hQ,hKc,by omega,by omega,hEw1,ho2.sc _⟩
end Go.Proofs.YtdohpenfkdckiabGreatDoor
namespace Go.Proofs.YtdohpenfkdckiabGreatDoor
open Go.Proofs.Tryz
def kl(a b:ByteArray):Bool:=Op.bytesLess a.toList b.toList
theorem zY2:∀ (x y:List UInt8),Op.bytesLess x y=decide (x<y)
 | [],[]=>by simp[Op.bytesLess]
 | _::_,[]=>by simp[Op.bytesLess]
 | [],_::_=>by simp[Op.bytesLess]
 | a::x,b::y=>by
  rw[Op.bytesLess,zY2 x y];simp only[List.cons_lt_cons_iff];by_cases h1:a<b<;>by_cases h2:a=b<;>by_cases h3:x<y<;>simp[h1,h2,h3]
theorem zQ4{a b:ByteArray}(h:a.toList=b.toList):a=b:=by
 rw[ByteArray.toList_eq,ByteArray.toList_eq] at h;cases a;cases b;simp only[ByteArray.mk.injEq];exact Array.toList_inj.1 h
theorem qU7(a b:ByteArray):(a.toList == b.toList)=decide (a=b):=by
 by_cases h:a=b
 ·simp[h]
 ·have:¬a.toList=b.toList:=fun e=>h (zQ4 e);simp[h,this]
theorem zA8(a b:ByteArray):kl a b=true↔a.toList<b.toList:=by unfold kl;rw[zY2];simp
theorem qT7(a b:ByteArray):kl a b=false↔b.toList≤a.toList:=by
 rw[←Bool.not_eq_true,zA8];exact List.not_lt
theorem qW4(a:ByteArray):kl a a=false:=(qT7 a a).2 (List.le_refl _)
theorem qP5{a b c:ByteArray}(h:kl a b=true)(k:kl b c=true):kl a c=true:=by
 rw[zA8] at *;exact List.lt_trans h k
theorem qP4{a b:ByteArray}(h:kl a b=true):kl b a=false:=by
 rw[zA8] at h;rw[qT7];exact List.le_of_lt h
theorem zA9{a b:ByteArray}(h:kl a b=false)(k:kl b a=false):a=b:=by
 rw[qT7] at *;exact zQ4 (List.le_antisymm k h)
theorem qW5{a b c:ByteArray}(h:kl b a=false)(k:kl b c=true):kl a c=true:=by
 rw[qT7] at h;rw[zA8] at *;exact List.lt_of_le_of_lt h k
theorem qN6{a b c:ByteArray}(h:kl a b=true)(k:kl c b=false):kl a c=true:=by
 by_cases e:kl a c=true
 ·exact e
 ·have:=qW5 (a:=c) (b:=a) (c:=b) (by simpa using e) h;rw[k] at this;cases this
theorem zV9{a b c:ByteArray}(h:kl b a=false)(k:kl c b=false):kl c a=false:=by
 rw[qT7] at *;exact List.le_trans h k
theorem qJ3{a b:ByteArray}(h:kl a b=true):a≠b:=fun e=>by subst e;rw[qW4] at h;cases h
theorem qO3(a:ByteArray):kl a ⟨#[]⟩=false:=by
 rw[qT7];simp
theorem zW0(a b:ByteArray):(Op.bytesLess a.toList b.toList || a.toList == b.toList)=!kl b a:=by
 rw[qU7];by_cases h:kl a b=true
 ·have:Op.bytesLess a.toList b.toList=true:=h;simp[this,qP4 h]
 ·have h':kl a b=false:=by simpa using h
  have h0:Op.bytesLess a.toList b.toList=false:=h';by_cases e:a=b
  ·subst e;simp[qW4]
  ·have:kl b a=true:=by
    by_cases h2:kl b a=true
    ·exact h2
    ·exact absurd (zA9 h' (by simpa using h2)) e
   simp[h0,e,this]
structure KV where
 k:ByteArray
 v:ByteArray
 deriving DecidableEq
def Sorted(l:List KV):Prop:=l.Pairwise fun a b=>kl a.k b.k=true
def ins(p:KV)(l:List KV):List KV:=l.takeWhile (fun q=>kl q.k p.k)++p::(l.dropWhile (fun q=>kl q.k p.k)).filter (fun q=>!decide (q.k=p.k))
def del(k:ByteArray)(l:List KV):List KV:=l.filter fun q=>!decide (q.k=k)
theorem Sorted.append{a b:List KV}:Sorted (a++b)↔Sorted a∧Sorted b∧∀ x∈a,∀ y∈b,kl x.k y.k=true:=List.pairwise_append
theorem Sorted.del{l:List KV}(h:Sorted l)(k:ByteArray):Sorted (del k l):=h.sublist List.filter_sublist
theorem qX0{k:ByteArray}{l:List KV}{q:KV}:q∈del k l↔q∈l∧q.k≠k:=by simp[del]
theorem zB4{p q:KV}{l:List KV}(h:q∈ins p l):q=p∨q∈l:=by
 simp only[ins,List.mem_append,List.mem_cons,List.mem_filter] at h;rcases h with h|h|⟨h,_⟩
 ·exact .inr (List.takeWhile_sublist _ |>.subset h)
 ·exact .inl h
 ·exact .inr (List.dropWhile_sublist _ |>.subset h)
theorem qQ7(p:KV)(l:List KV):(ins p l).length≤l.length+1:=by
 have h:=congrArg List.length (List.takeWhile_append_dropWhile (p:=fun q=>kl q.k p.k) (l:=l));have h2:=List.length_filter_le (fun q=>!decide (q.k=p.k)) (l.dropWhile (fun q=>kl q.k p.k));simp only[ins,List.length_append,List.length_cons] at *;omega
theorem zD1{p:ByteArray}{l:List KV}:∀ q∈l.takeWhile (fun q=>kl q.k p),kl q.k p=true:=by
 induction l with
 | nil=>intro q h;simp at h
 | cons a l ih=>
  intro q h;rw[List.takeWhile_cons] at h;split at h
  ·rcases List.mem_cons.1 h with rfl|h
   ·assumption
   ·exact ih q h
  ·simp at h
theorem zF6{p:ByteArray}{l:List KV}(hs:Sorted l):∀ q∈l.dropWhile (fun q=>kl q.k p),kl q.k p=false:=by
 induction l with
 | nil=>intro q h;simp at h
 | cons a l ih=>
  intro q h;have hs':=List.pairwise_cons.1 hs;rw[List.dropWhile_cons] at h;split at h
  ·exact ih hs'.2 q h
  ·next hn=>
   have hn:kl a.k p=false:=by simpa using hn
   rcases List.mem_cons.1 h with rfl|h
   ·exact hn
   ·exact qP4 (qW5 hn (hs'.1 q h))
theorem Sorted.ins{l:List KV}(h:Sorted l)(p:KV):Sorted (ins p l):=by
 have hs:Sorted (l.takeWhile (fun q=>kl q.k p.k)++l.dropWhile (fun q=>kl q.k p.k)):=by rw[List.takeWhile_append_dropWhile];exact h
 obtain⟨h1,h2,h3⟩:=Sorted.append.1 hs;have hf:∀ q∈(l.dropWhile (fun q=>kl q.k p.k)).filter (fun q=>!decide (q.k=p.k)),kl p.k q.k=true:=by
  intro q hq;simp only[List.mem_filter,Bool.not_eq_true',decide_eq_false_iff_not] at hq;have:=zF6 h q hq.1;by_cases e:kl p.k q.k=true
  ·exact e
  ·exact absurd (zA9 this (by simpa using e)) hq.2
 refine Sorted.append.2 ⟨h1,List.pairwise_cons.2 ⟨hf,h2.sublist List.filter_sublist⟩,?_⟩;intro x hx y hy;rcases List.mem_cons.1 hy with rfl|hy
 ·exact zD1 x hx
 ·exact qP5 (zD1 x hx) (hf y hy)
theorem qZ9{l:List KV}{k:ByteArray}(h:∀ q∈l,q.k≠k):l.filter (fun q=>!decide (q.k=k))=l:=by
 rw[List.filter_eq_self];intro q hq;simp[h q hq]
theorem qW0{l:List KV}{k:ByteArray}(h:∀ q∈l,q.k≠k):del k l=l:=qZ9 h
theorem qZ2(k:ByteArray)(a b:List KV):del k (a++b)=del k a++del k b:=by simp[del]
theorem xV5{p:KV}{a b c:List KV}(ha:∀ q∈a,kl q.k p.k=true)(hc:∀ q∈c,kl p.k q.k=true):ins p (a++b++c)=a++ins p b++c:=by
 have h1:∀ (x y:List KV),(∀ q∈x,kl q.k p.k=true)→(x++y).takeWhile (fun q=>kl q.k p.k)=x++y.takeWhile (fun q=>kl q.k p.k):=by
  intro x y hx
  induction x with
  | nil=>rfl
  | cons z x ih=>simp[List.takeWhile_cons,hx z (by simp),ih (fun q hq=>hx q (by simp[hq]))]
 have h2:∀ (x y:List KV),(∀ q∈x,kl q.k p.k=true)→(x++y).dropWhile (fun q=>kl q.k p.k)=y.dropWhile (fun q=>kl q.k p.k):=by
  intro x y hx
  induction x with
  | nil=>rfl
  | cons z x ih=>simp[List.dropWhile_cons,hx z (by simp),ih (fun q hq=>hx q (by simp[hq]))]
 have hc0:∀ q∈c,kl q.k p.k=false:=fun q hq=>qP4 (hc q hq);have h3:∀ y:List KV,(y++c).takeWhile (fun q=>kl q.k p.k)=y.takeWhile (fun q=>kl q.k p.k):=by
  intro y
  induction y with
  | nil=>
   cases c with
   | nil=>rfl
   | cons z c=>simp[List.takeWhile_cons,hc0 z (by simp)]
  | cons z y ih=>simp only[List.cons_append,List.takeWhile_cons];split<;>simp_all
 have h4:∀ y:List KV,(y++c).dropWhile (fun q=>kl q.k p.k)=y.dropWhile (fun q=>kl q.k p.k)++c:=by
  intro y
  induction y with
  | nil=>
   cases c with
   | nil=>rfl
   | cons z c=>simp[List.dropWhile_cons,hc0 z (by simp)]
  | cons z y ih=>simp only[List.cons_append,List.dropWhile_cons];split<;>simp_all
 have h5:c.filter (fun q=>!decide (q.k=p.k))=c:=qZ9 fun q hq=>(qJ3 (hc q hq)).symm;unfold ins;rw[List.append_assoc,h1 _ _ ha,h2 _ _ ha,h3,h4,List.filter_append,h5];simp
theorem xN2{k:ByteArray}{a b c:List KV}(ha:∀ q∈a,kl q.k k=true)(hc:∀ q∈c,kl k q.k=true):del k (a++b++c)=a++del k b++c:=by
 rw[qZ2,qZ2,qW0 fun q hq=>qJ3 (ha q hq),qW0 fun q hq=>(qJ3 (hc q hq)).symm]
theorem xD1{l:List KV}(hs:Sorted l)(k:ByteArray):l.findIdx (fun q=>!kl q.k k)=(l.takeWhile (fun q=>kl q.k k)).length:=by
 induction l with
 | nil=>rfl
 | cons a l ih=>
  have hs':=List.pairwise_cons.1 hs;rw[List.findIdx_cons,List.takeWhile_cons];by_cases h:kl a.k k=true
  ·simp[h,ih hs'.2]
  ·have h':kl a.k k=false:=by simpa using h
   simp[h']
theorem xD4{l:List KV}(hs:Sorted l)(k:ByteArray):l.take (l.findIdx (fun q=>!kl q.k k))=l.takeWhile (fun q=>kl q.k k):=by
 rw[xD1 hs]
 conv=>lhs;arg 2;rw[←List.takeWhile_append_dropWhile (p:=fun q=>kl q.k k) (l:=l)]
 rw[List.take_left]
theorem zR8{l:List KV}(hs:Sorted l)(k:ByteArray):l.drop (l.findIdx (fun q=>!kl q.k k))=l.dropWhile (fun q=>kl q.k k):=by
 rw[xD1 hs]
 conv=>lhs;arg 2;rw[←List.takeWhile_append_dropWhile (p:=fun q=>kl q.k k) (l:=l)]
 rw[List.drop_left]
def qF9(l:List KV)(i:Nat)(k:ByteArray):Bool:=match l[i]? with
 | some q=>decide (q.k=k)
 | none=>false
def qC1(l:List KV)(k:ByteArray):Nat:=l.findIdx (fun q=>!kl q.k k)
theorem zC9(l:List KV)(k:ByteArray):qC1 l k≤l.length:=List.findIdx_le_length
theorem qR9{l:List KV}(hs:Sorted l)(p:KV):ins p l=l.take (qC1 l p.k)++[p]++l.drop (if qF9 l (qC1 l p.k) p.k then qC1 l p.k+1 else qC1 l p.k):=by
 unfold ins qC1;rw[xD4 hs];have hd:=zR8 hs p.k;have hg:=zF6 (p:=p.k) hs;have hsd:Sorted (l.dropWhile (fun q=>kl q.k p.k)):=hs.sublist (List.dropWhile_sublist _);generalize l.findIdx (fun q=>!kl q.k p.k)=i at *;have hat:l[i]?=(l.dropWhile (fun q=>kl q.k p.k)).head?:=by rw[←hd];simp
 have hd1:l.drop (i+1)=(l.dropWhile (fun q=>kl q.k p.k)).tail:=by rw[←hd];simp
 cases hc:l.dropWhile (fun q=>kl q.k p.k) with
 | nil=>
  rw[hc] at hat hd;simp[qF9,hat,hd]
 | cons a r=>
  rw[hc] at hat hd hd1 hg hsd;have hr:=List.pairwise_cons.1 hsd;by_cases e:a.k=p.k
  ·have:r.filter (fun q=>!decide (q.k=p.k))=r:=qZ9 fun q hq=>by rw[←e];exact (qJ3 (hr.1 q hq)).symm
   simp[qF9,hat,e,hd1,this]
  ·have hlt:kl p.k a.k=true:=by
    by_cases h2:kl p.k a.k=true
    ·exact h2
    ·exact absurd (zA9 (hg a (by simp)) (by simpa using h2)) e
   have:r.filter (fun q=>!decide (q.k=p.k))=r:=qZ9 fun q hq=>(qJ3 (qP5 hlt (hr.1 q hq))).symm;simp[qF9,hat,e,hd,this]
theorem zH2{l:List KV}(hs:Sorted l)(k:ByteArray):qF9 l (qC1 l k) k=true↔∃ q∈l,q.k=k:=by
 unfold qC1;have hd:=zR8 hs k;have hg:=zF6 (p:=k) hs;have hsd:Sorted (l.dropWhile (fun q=>kl q.k k)):=hs.sublist (List.dropWhile_sublist _);have hat:l[l.findIdx (fun q=>!kl q.k k)]?=(l.dropWhile (fun q=>kl q.k k)).head?:=by rw[←hd];simp
 have hm:(∃ q∈l,q.k=k)↔∃ q∈l.dropWhile (fun q=>kl q.k k),q.k=k:=by
  constructor
  ·rintro⟨q,hq,e⟩;rw[←List.takeWhile_append_dropWhile (p:=fun q=>kl q.k k) (l:=l)] at hq;rcases List.mem_append.1 hq with h|h
   ·exact absurd e (qJ3 (zD1 q h))
   ·exact⟨q,h,e⟩
  ·rintro⟨q,hq,e⟩;exact⟨q,List.dropWhile_sublist _ |>.subset hq,e⟩
 rw[hm];unfold qF9;rw[hat]
 cases hc:l.dropWhile (fun q=>kl q.k k) with
 | nil=>simp
 | cons a r=>
  rw[hc] at hsd hg;have hr:=List.pairwise_cons.1 hsd;simp only[List.head?_cons,decide_eq_true_eq,List.mem_cons,exists_eq_or_imp];constructor
  ·intro h;exact .inl h
  ·rintro (h|⟨q,hq,e⟩)
   ·exact h
   ·have h1:=hr.1 q hq;rw[e] at h1;have h2:=hg a (by simp);rw[h1] at h2;cases h2
theorem zR7{l:List KV}(hs:Sorted l){k:ByteArray}(h:qF9 l (qC1 l k) k=true):del k l=l.take (qC1 l k)++l.drop (qC1 l k+1):=by
 have e:=List.take_append_drop (qC1 l k) l;unfold qF9 at h;split at h
 ·next q hq=>
  have hqk:q.k=k:=by simpa using h
  have hlt:=(List.getElem?_eq_some_iff.1 hq).1;have hd:l.drop (qC1 l k)=q::l.drop (qC1 l k+1):=by
   rw[List.drop_eq_getElem_cons hlt,(List.getElem?_eq_some_iff.1 hq).2]
  have hs2:Sorted (l.take (qC1 l k)++q::l.drop (qC1 l k+1)):=by rw[←hd,e];exact hs
  obtain⟨h1,h2,h3⟩:=Sorted.append.1 hs2;have h4:=List.pairwise_cons.1 h2
  conv=>lhs;rw[←e,hd]
  rw[qZ2,qW0 fun x hx=>by rw[←hqk];exact qJ3 (h3 x hx q (by simp))]
  congr 1
  rw[show q::l.drop (qC1 l k+1)=[q]++l.drop (qC1 l k+1) from rfl,qZ2,qW0 (l:=l.drop (qC1 l k+1)) fun x hx=>by rw[←hqk];exact (qJ3 (h4.1 x hx)).symm];simp[del,hqk]
 ·cases h
structure Lnk(X:Type) where
 key:ByteArray
 ref:Option (Nat × Int)
 sub:X
def Tn:Nat→Type
 | 0=>List KV
 | n+1=>List (Lnk (Tn n))
def cont:(n:Nat)→Tn n→List KV
 | 0,ps=>ps
 | n+1,ls=>List.flatMap (fun l:Lnk (Tn n)=>cont n l.sub) ls
def cnt:(n:Nat)→Tn n→Nat
 | 0,ps=>List.length (α:=KV) ps
 | n+1,ls=>List.length (α:=Lnk (Tn n)) ls
def ρ(p:KV):Nat:=1+p.k.size+p.v.size
def qA4{X:Type}(l:Lnk X):Nat:=11+l.key.size
def meas{α:Type}(f:α→Nat)(l:List α):Nat:=(l.map f).sum
theorem qG6{α:Type}(f:α→Nat)(a b:List α):meas f (a++b)=meas f a+meas f b:=by simp[meas]
theorem qE8{α:Type}(f:α→Nat)(a:α)(b:List α):meas f (a::b)=f a+meas f b:=by simp[meas]
theorem qE1{α:Type}(f:α→Nat):meas f []=0:=rfl
def qE9{α:Type}(f:α→Nat)(all:Nat):List α→Nat→Nat
 | [],_=>0
 | x::xs,n=>if 2*n<all then qE9 f all xs (n+f x)+1 else 0
def qB7{α:Type}(f:α→Nat)(l:List α):List (List α):=
 if meas f l≤126 then [l] else [l.take (qE9 f (meas f l) l 0),l.drop (qE9 f (meas f l) l 0)]
def links{α:Type}(low:α→ByteArray)(key:ByteArray):List (List α)→List (Lnk (List α))
 | []=>[]
 | a::rest=>⟨key,none,a⟩::rest.map fun b=>⟨(b.head?.map low).getD ⟨#[]⟩,none,b⟩
def qE4(key:ByteArray)(ps:List KV):List (Lnk (Tn 0)):=links KV.k key (qB7 ρ ps)
def qD6(n:Nat)(key:ByteArray)(ls:List (Lnk (Tn n))):List (Lnk (Tn (n+1))):=links Lnk.key key (qB7 qA4 ls)
def qB3{X:Type}(ls:List (Lnk X))(k:ByteArray):Nat:=ls.findIdx (fun l=>kl k l.key)-1
def qG5(p:KV)(ps:List KV):List KV:=ps.take (qC1 ps p.k)++[p]++ps.drop (if qF9 ps (qC1 ps p.k) p.k then qC1 ps p.k+1 else qC1 ps p.k)
def qE3:(n:Nat)→Lnk (Tn n)→KV→List (Lnk (Tn n))
 | 0,l,p=>qE4 l.key (qG5 p l.sub)
 | n+1,l,p=>
  let ls:List (Lnk (Tn n)):=l.sub
  match ls[qB3 ls p.k]? with
  | some m=>qD6 n l.key (ls.take (qB3 ls p.k)++qE3 n m p++ls.drop (qB3 ls p.k+1))
  | none=>[]
def qD9:(n:Nat)→ByteArray→Tn n→Tn n→List (Lnk (Tn n))
 | 0,key,a,b=>qE4 key (List.append (α:=KV) a b)
 | n+1,key,a,b=>qD6 n key (List.append (α:=Lnk (Tn n)) a b)
def qC4(n:Nat)(ls:List (Lnk (Tn n)))(i:Nat):List (Lnk (Tn n)):=
 match ls[i]? with
 | none=>ls
 | some l=>if 3≤cnt n l.sub then ls else
  match ls[min i (ls.length-2)]?,ls[min i (ls.length-2)+1]? with
  | some a,some b=>ls.take (min i (ls.length-2))++qD9 n a.key a.sub b.sub++ls.drop (min i (ls.length-2)+2)
  | _,_=>ls
def qD1:(n:Nat)→Lnk (Tn n)→ByteArray→List (Lnk (Tn n))
 | 0,l,k=>qE4 l.key (List.take (α:=KV) (qC1 l.sub k) l.sub++List.drop (α:=KV) (qC1 l.sub k+1) l.sub)
 | n+1,l,k=>
  let ls:List (Lnk (Tn n)):=l.sub
  match ls[qB3 ls k]? with
  | some m=>qD6 n l.key (qC4 n (ls.take (qB3 ls k)++qD1 n m k++ls.drop (qB3 ls k+1)) (qB3 ls k))
  | none=>[]
inductive Root where
 | none
 | at (n:Nat) (l:Lnk (Tn n))
def qT0:(n:Nat)→Lnk (Tn n)→Root
 | 0,l=>match (l.sub:List KV) with
  | []=>.none
  | _::_=>.at 0 l
 | n+1,l=>match (l.sub:List (Lnk (Tn n))) with
  | []=>.none
  | [m]=>.at n m
  | _::_::_=>.at (n+1) l
def qF3(n:Nat)(ls:List (Lnk (Tn n))):Root:=
 match ls with
 | []=>.none
 | [l]=>qT0 n l
 | ls=>match qD6 n ⟨#[]⟩ ls with
  | []=>.none
  | r::_=>qT0 (n+1) r
def Root.cont:Root→List KV
 | .none=>[]
 | .at n l=>YtdohpenfkdckiabGreatDoor.cont n l.sub
def Root.put(r:Root)(p:KV):Root:=match r with
 | .none=>qF3 0 (qE4 ⟨#[]⟩ [p])
 | .at n l=>qF3 n (qE3 n l p)
def Root.del(r:Root)(k:ByteArray):Root:=match r with
 | .none=>.none
 | .at n l=>if (YtdohpenfkdckiabGreatDoor.cont n l.sub).any (fun q=>decide (q.k=k)) then qF3 n (qD1 n l k) else .at n l
def qD0(p:KV):Prop:=1≤p.k.size∧p.k.size≤8∧p.v.size≤12
def zN5{X:Type}(co:X→List KV)(a b:Lnk X):Prop:=kl a.key b.key=true∧∀ q∈co a.sub,kl q.k b.key=true
abbrev qQ1(n:Nat)(a b:Lnk (Tn n)):Prop:=zN5 (cont n) a b
structure GoodL(lo:ByteArray)(ps:List KV):Prop where
 sorted:Sorted ps
 all:∀ p∈ps,qD0 p∧kl p.k lo=false
 fits:meas ρ ps≤126
structure GoodB{X:Type}(G:ByteArray→X→Prop)(C:X→Nat)(co:X→List KV)(lo:ByteArray)(ls:List (Lnk X)):Prop where
 head:∀ l∈ls.head?,l.key=lo
 all:∀ l∈ls,G l.key l.sub∧3≤C l.sub∧l.key.size≤8
 pair:ls.Pairwise (zN5 co)
 fits:meas qA4 ls≤126
def Good:(n:Nat)→ByteArray→Tn n→Prop
 | 0,lo,ps=>GoodL lo ps
 | n+1,lo,ls=>GoodB (Good n) (cnt n) (cont n) lo ls
structure Row0(n:Nat)(lo:ByteArray)(ls:List (Lnk (Tn n))):Prop where
 head:∀ l∈ls.head?,l.key=lo
 all:∀ l∈ls,Good n l.key l.sub∧l.key.size≤8
 pair:ls.Pairwise (qQ1 n)
theorem qN4:∀ (n:Nat) (lo:ByteArray) (t:Tn n),Good n lo t→Sorted (cont n t)∧∀ q∈cont n t,qD0 q∧kl q.k lo=false
 | 0,lo,ps,h=>⟨h.1,h.2⟩
 | n+1,lo,ls,h=>by
  obtain⟨hh,ha,hp,_⟩:=h;have ih:=fun l:Lnk (Tn n)=>qN4 n l.key l.sub;have key:∀ (ls:List (Lnk (Tn n))),(∀ l∈ls,Good n l.key l.sub)→ls.Pairwise (qQ1 n)→Sorted (ls.flatMap fun l=>cont n l.sub)∧∀ q∈ls.flatMap (fun l=>cont n l.sub),qD0 q∧∀ l∈ls.head?,kl q.k l.key=false:=by
   intro ls
   induction ls with
   | nil=>intro _ _;simp[Sorted]
   | cons a ls ihl=>
    intro hg hp;obtain⟨hp1,hp2⟩:=List.pairwise_cons.1 hp;obtain⟨i1,i2⟩:=ihl (fun l hl=>hg l (by simp[hl])) hp2;obtain⟨a1,a2⟩:=ih a (hg a (by simp));have hlow:∀ q∈ls.flatMap (fun l=>cont n l.sub),∃ b∈ls,kl q.k b.key=false:=by
     intro q hq;obtain⟨b,hb,hq⟩:=List.mem_flatMap.1 hq;exact⟨b,hb,((ih b (hg b (by simp[hb]))).2 q hq).2⟩
    rw[List.flatMap_cons];refine⟨Sorted.append.2 ⟨a1,i1,?_⟩,?_⟩
    ·intro x hx y hy;obtain⟨b,hb,hyb⟩:=hlow y hy;exact qN6 ((hp1 b hb).2 x hx) hyb
    ·intro q hq;rcases List.mem_append.1 hq with hq|hq
     ·exact⟨(a2 q hq).1,by simpa using (a2 q hq).2⟩
     ·obtain⟨b,hb,hqb⟩:=hlow q hq;refine⟨(i2 q hq).1,?_⟩;simp only[List.head?_cons,Option.mem_def,Option.some.injEq,forall_eq'];exact zV9 (qP4 (hp1 b hb).1) hqb
  obtain⟨k1,k2⟩:=key ls (fun l hl=>(ha l hl).1) hp;refine⟨k1,fun q hq=>?_⟩;obtain⟨q1,q2⟩:=k2 q hq;refine⟨q1,?_⟩
  cases hls:(ls:List (Lnk (Tn n))) with
  | nil=>rw[show cont (n+1) ls=List.flatMap (fun l:Lnk (Tn n)=>cont n l.sub) ls from rfl,hls] at hq;simp at hq
  | cons a r=>
   have e:=hh a (by rw[hls];simp);have:=q2 a (by rw[hls];simp);rw[e] at this;exact this
section
variable {α:Type} (f:α→Nat)
theorem qZ1(all m:Nat):∀ (l:List α) (n:Nat),(∀ x∈l,f x≤m)→2*n<all+2*m→all≤2*(n+meas f l)→
  all≤2*(n+meas f (l.take (qE9 f all l n)))∧2*(n+meas f (l.take (qE9 f all l n)))<all+2*m
 | [],n,_,h1,h2=>by simp[qE9,meas] at *;omega
 | x::xs,n,hm,h1,h2=>by
  unfold qE9;have hx:=hm x (by simp);split
  ·have ih:=qZ1 all m xs (n+f x) (fun y hy=>hm y (by simp[hy])) (by omega) (by rw[qE8] at h2;omega);rw[List.take_succ_cons,qE8];omega
  ·simp[meas];omega
theorem qN7(m:Nat):∀ (l:List α),(∀ x∈l,f x≤m)→meas f l≤m*l.length
 | [],_=>by simp[meas]
 | x::xs,h=>by
  have h1:=h x (by simp);have h2:=qN7 m xs fun y hy=>h y (by simp[hy]);rw[qE8,List.length_cons,Nat.mul_succ];omega
theorem qP6(l:List α)(i:Nat):meas f (l.take i)+meas f (l.drop i)=meas f l:=by
 rw[←qG6,List.take_append_drop]
theorem zA4(l:List α)(hm:∀ x∈l,f x≤21)(hl:meas f l≤210):
  (qB7 f l=[l]∧meas f l≤126)∨∃ a b,qB7 f l=[a,b]∧a++b=l∧meas f a≤126∧meas f b≤126∧3≤a.length∧3≤b.length:=by
 unfold qB7;split
 ·exact .inl ⟨rfl,by assumption⟩
 ·next h=>
  right;have hs:=qZ1 f (meas f l) 21 l 0 hm (by omega) (by omega);have ht:=qP6 f l (qE9 f (meas f l) l 0);refine⟨_,_,rfl,List.take_append_drop _ _,by omega,by omega,?_,?_⟩
  ·have:=qN7 f 21 (l.take (qE9 f (meas f l) l 0)) fun x hx=>hm x (List.mem_of_mem_take hx);omega
  ·have:=qN7 f 21 (l.drop (qE9 f (meas f l) l 0)) fun x hx=>hm x (List.mem_of_mem_drop hx);omega
end
theorem qU3{lo:ByteArray}{ps:List KV}(hs:Sorted ps)(ho:∀ p∈ps,qD0 p∧kl p.k lo=false)(hm:meas ρ ps≤210)(hlo:lo.size≤8):
  Row0 0 lo (qE4 lo ps)∧(qE4 lo ps).flatMap (fun l=>cont 0 l.sub)=ps∧
  ((∃ a,qE4 lo ps=[a]∧a.key=lo∧a.ref=none∧a.sub=ps)∨∃ a b,qE4 lo ps=[a,b]∧a.key=lo∧a.ref=none∧b.ref=none∧3≤cnt 0 a.sub∧3≤cnt 0 b.sub):=by
 have hsz:∀ x∈ps,ρ x≤21:=fun x hx=>by obtain⟨⟨h1,h2,h3⟩,_⟩:=ho x hx;unfold ρ;omega
 rcases zA4 ρ ps hsz hm with⟨e,h1⟩|⟨a,b,e,hab,ha,hb,ha3,hb3⟩
 ·have e':qE4 lo ps=[⟨lo,none,ps⟩]:=by unfold qE4;rw[e];rfl
  rw[e'];refine⟨⟨by simp,?_,by simp⟩,List.append_nil ps,.inl ⟨_,rfl,rfl,rfl,rfl⟩⟩;intro l hl;rw[List.mem_singleton.1 hl];exact⟨⟨hs,ho,h1⟩,hlo⟩
 ·subst hab;obtain⟨c,r,rfl⟩:∃ c r,b=c::r:=by cases b with
   | nil=>simp at hb3
   | cons c r=>exact⟨c,r,rfl⟩
  obtain⟨c0,r0,rfl⟩:∃ c r,a=c::r:=by cases a with
   | nil=>simp at ha3
   | cons c r=>exact⟨c,r,rfl⟩
  have e':qE4 lo (c0::r0++c::r)=[⟨lo,none,c0::r0⟩,⟨c.k,none,c::r⟩]:=by unfold qE4;rw[e];rfl
  rw[e'];obtain⟨s1,s2,s3⟩:=Sorted.append.1 hs;have hc:=ho c (by simp);refine⟨⟨by simp,?_,?_⟩,show c0::r0++(c::r++[])=_ by simp,.inr ⟨_,_,rfl,rfl,rfl,rfl,ha3,hb3⟩⟩
  ·intro l hl;simp only[List.mem_cons,List.not_mem_nil,or_false] at hl;rcases hl with rfl|rfl
   ·exact⟨⟨s1,fun p hp=>ho p (by simp at hp ⊢;rcases hp with h | h<;>simp[h]),ha⟩,hlo⟩
   ·refine⟨⟨s2,fun p hp=>⟨(ho p (List.mem_append_right _ hp)).1,?_⟩,hb⟩,hc.1.2.1⟩;rcases List.mem_cons.1 hp with rfl|hp
    ·exact qW4 _
    ·exact qP4 ((List.pairwise_cons.1 s2).1 p hp)
  ·simp only[List.pairwise_cons,List.mem_cons,List.not_mem_nil,or_false,forall_eq,List.Pairwise.nil,and_true,false_implies,implies_true];refine⟨qW5 (ho c0 (by simp)).2 (s3 c0 (by simp) c (by simp)),fun q hq=>s3 q hq c (by simp)⟩
theorem zF3{n:Nat}{lo:ByteArray}{ls:List (Lnk (Tn n))}(h:Row0 n lo ls)(h3:∀ l∈ls,3≤cnt n l.sub)(hm:meas qA4 ls≤210)(hlo:lo.size≤8):
  Row0 (n+1) lo (qD6 n lo ls)∧(qD6 n lo ls).flatMap (fun l=>cont (n+1) l.sub)=ls.flatMap (fun l=>cont n l.sub)∧
  ((∃ a,qD6 n lo ls=[a]∧a.key=lo∧a.ref=none∧a.sub=ls)∨∃ a b,qD6 n lo ls=[a,b]∧a.key=lo∧a.ref=none∧b.ref=none∧3≤cnt (n+1) a.sub∧3≤cnt (n+1) b.sub):=by
 have hsz:∀ x∈ls,qA4 x≤21:=fun x hx=>by have:=(h.all x hx).2;unfold qA4;omega
 rcases zA4 qA4 ls hsz hm with⟨e,h1⟩|⟨a,b,e,hab,ha,hb,ha3,hb3⟩
 ·have e':qD6 n lo ls=[⟨lo,none,ls⟩]:=by unfold qD6;rw[e];rfl
  rw[e'];refine⟨⟨by simp,?_,by simp⟩,List.append_nil _,.inl ⟨_,rfl,rfl,rfl,rfl⟩⟩;intro l hl;rw[List.mem_singleton.1 hl];exact⟨⟨h.head,fun l hl=>⟨(h.all l hl).1,h3 l hl,(h.all l hl).2⟩,h.pair,h1⟩,hlo⟩
 ·subst hab;obtain⟨c,r,rfl⟩:∃ c r,b=c::r:=by cases b with
   | nil=>simp at hb3
   | cons c r=>exact⟨c,r,rfl⟩
  obtain⟨c0,r0,rfl⟩:∃ c r,a=c::r:=by cases a with
   | nil=>simp at ha3
   | cons c r=>exact⟨c,r,rfl⟩
  have e':qD6 n lo (c0::r0++c::r)=[⟨lo,none,c0::r0⟩,⟨c.key,none,c::r⟩]:=by unfold qD6;rw[e];rfl
  rw[e'];obtain⟨s1,s2,s3⟩:=List.pairwise_append.1 h.pair;have hc0:=h.head c0 (by simp);have hall:∀ l∈c0::r0++c::r,Good n l.key l.sub∧3≤cnt n l.sub∧l.key.size≤8:=fun l hl=>⟨(h.all l hl).1,h3 l hl,(h.all l hl).2⟩;refine⟨⟨by simp,?_,?_⟩,?_,.inr ⟨_,_,rfl,rfl,rfl,rfl,ha3,hb3⟩⟩
  rotate_left 2
  ·show List.flatMap _ (c0::r0)++(List.flatMap _ (c::r)++[])=_;rw[List.append_nil,←List.flatMap_append]
  ·intro l hl;simp only[List.mem_cons,List.not_mem_nil,or_false] at hl;rcases hl with rfl|rfl
   ·exact⟨⟨by simpa using hc0,fun l hl=>hall l (List.mem_append_left _ hl),s1,ha⟩,hlo⟩
   ·exact⟨⟨by simp,fun l hl=>hall l (List.mem_append_right _ hl),s2,hb⟩,(hall c (by simp)).2.2⟩
  ·simp only[List.pairwise_cons,List.mem_cons,List.not_mem_nil,or_false,forall_eq,List.Pairwise.nil,and_true,false_implies,implies_true];refine⟨by rw[←hc0];exact (s3 c0 (by simp) c (by simp)).1,fun q hq=>?_⟩;obtain⟨l,hl,hq⟩:=List.mem_flatMap.1 hq;exact (s3 l hl c (by simp)).2 q hq
end Go.Proofs.YtdohpenfkdckiabGreatDoor
