import Derived.Test.YtdohpenfkdckiaaGreatDoorJ02
import Derived.Defers
import Derived.Recover
import Derived.WalkSmall
import Derived.Deep.QuietTactic
import Derived.Carry
import Derived.LaidEql
import Derived.Stop.Asserts
import Derived.RowKitTokens
namespace Go.Proofs.YtdohpenfkdckiaaGreatDoor
set_option linter.unusedSimpArgs false
set_option linter.unusedVariables false
set_option maxRecDepth 100000
set_option maxHeartbeats 20000000
open Go.RowKit
def headBlock (N:Int):List UInt8:=toB (sectorOf N 0 0) ++ List.replicate 96 0
def zeroBlock:List UInt8:=List.replicate 128 0
theorem toB_length (xs:List Int):(toB xs).length=xs.length:=by simp [toB]
theorem toB_append (a b:List Int):toB (a ++ b)=toB a ++ toB b:=by simp [toB]
theorem headBlock_length (N:Int):(headBlock N).length=128:=by simp [headBlock,toB_length,sectorOf_length]
theorem headBlock_take (N:Int):(headBlock N).take 32=toB (sectorOf N 0 0):=by
 have h:(toB (sectorOf N 0 0)).length=32:=by rw [toB_length,sectorOf_length]
 rw [headBlock,List.take_append_of_le_length (by omega),List.take_of_length_le (by omega)]
theorem headBlock_split (N:Int):headBlock N=toB markOf ++ (toB (lows 2 0) ++ (toB (lows 8 N) ++ (toB (lows 8 0) ++ (toB (lows 8 (fnv (sector24 N 0 0))) ++ List.replicate 96 0)))):=by
 simp only [headBlock,sectorOf]
 conv=>lhs;rw [toB_append]
 simp only [sector24,toB_append,List.append_assoc]
theorem cut_mid {α:Type} (a b c:List α) (k n:Nat) (hk:a.length=k) (hn:b.length=n):((a ++ (b ++ c)).drop k).take n=b:=by
 subst hk;subst hn
 simp
theorem head_number (N:Int) (h0:0≤N) (h1:N≤1000000000):numOf (bints (((headBlock N).drop 8).take 8))=N:=by
 have e:((headBlock N).drop 8).take 8=toB (lows 8 N):=by
  rw [headBlock_split,← List.append_assoc (toB markOf)]
  exact cut_mid _ _ _ 8 8 (by simp [toB_length,lows_length,markOf]) (by simp [toB_length,lows_length])
 rw [e,bints_toB _ (lows_bounds 8 N),numOf_lows 8 N (by decide) h0]
 have:(256:Int) ^ 8=18446744073709551616:=by decide
 omega
theorem head_block (N:Int):numOf (bints (((headBlock N).drop 6).take 2))=0:=by
 have e:((headBlock N).drop 6).take 2=toB (lows 2 0):=by
  rw [headBlock_split]
  exact cut_mid _ _ _ 6 2 (by simp [toB_length,markOf]) (by simp [toB_length,lows_length])
 rw [e,bints_toB _ (lows_bounds 2 0),numOf_lows 2 0 (by decide) (by decide) (by decide)]
theorem head_sum (N:Int):numOf (bints (((headBlock N).drop 16).take 8))=0:=by
 have e:((headBlock N).drop 16).take 8=toB (lows 8 0):=by
  rw [headBlock_split,← List.append_assoc (toB markOf),← List.append_assoc (toB markOf ++ toB (lows 2 0))]
  exact cut_mid _ _ _ 16 8 (by simp [toB_length,lows_length,markOf]) (by simp [toB_length,lows_length])
 rw [e,bints_toB _ (lows_bounds 8 0),numOf_lows 8 0 (by decide) (by decide) (by decide)]
theorem zero_number:numOf (bints ((zeroBlock.drop 8).take 8))=0:=by decide
theorem zero_block:numOf (bints ((zeroBlock.drop 6).take 2))=0:=by decide
theorem zero_sum:numOf (bints ((zeroBlock.drop 16).take 8))=0:=by decide
theorem zero_differs:(toB (sectorOf 0 0 0) == zeroBlock.take 32)=false:=by
 have h:toB (sectorOf 0 0 0)=115 :: (toB (sectorOf 0 0 0)).tail:=by
  simp [sectorOf,sector24,markOf,toB]
 rw [h]
 simp [zeroBlock,List.replicate]
structure Fresh (l:List UInt8):Prop where
 b0:blockOf l 0=zeroBlock
 b1:blockOf l 1=zeroBlock
structure Formatted (l:List UInt8) (N:Int):Prop where
 b0:blockOf l 0=headBlock N
 b1:blockOf l 1=headBlock (N - 1)
 even:N % 2=0
 low:2≤N
 high:N≤1000000000
theorem headless (V A n C:Nat) (calls writes:Int) (i:Nat) (l:List UInt8) (w:World) (hV:w.heap[V]?=some (vobj A n)) (h:w.heap[A]?=some (dobj n C (.slice none 0 0) calls writes)) (h0:0≤calls) (h1:calls≤1000000000)
  (hi:i < n) (hn:n≤1000) (hC:w.heap[C]?=some (.cells (enc l) 115)) (hs:l.length=n * 128) (hAC:C≠A) (hVA:V≠A) (hb:blockOf l i=zeroBlock) :
  Calls Tryz.prog 205 #[.pointer (some ⟨V,0,none⟩),.int .i64 i] w fun e w'=>e=.returned (.tuple #[.agg #[.int .u64 0,.int .i64 0,.int .u64 0],.bool false]) ∧
   w'.heap[A]?=some (dobj n C (.slice none 0 0) (calls+1) writes)∧Kp [A] w w':=
 (find_ok V A n C calls writes i l 0 0 0 w hV h h0 h1 hi hn hC hs hAC hVA (by rw [hb];exact zero_number) (by rw [hb];exact zero_block) (by rw [hb];exact zero_sum) (by decide) (by decide) (by decide) (by decide) false (by rw [hb,zero_differs];simp)).mono fun e w' hr=>⟨by simpa [hagg] using hr.1,hr.2⟩
theorem find_some (V A n C:Nat) (calls writes:Int) (i:Nat) (l:List UInt8) (N:Int) (w:World) (hV:w.heap[V]?=some (vobj A n)) (h:w.heap[A]?=some (dobj n C (.slice none 0 0) calls writes)) (h0:0≤calls) (h1:calls≤1000000000)
  (hi:i < n) (hn:n≤1000) (hC:w.heap[C]?=some (.cells (enc l) 115)) (hs:l.length=n * 128) (hAC:C≠A) (hVA:V≠A) (hb:blockOf l i=headBlock N) (hN:N % 2=i) (hN0:0≤N) (hN1:N≤1000000000) :
  Calls Tryz.prog 205 #[.pointer (some ⟨V,0,none⟩),.int .i64 i] w fun e w'=>e=.returned (.tuple #[.agg #[.int .u64 N,.int .i64 0,.int .u64 0],.bool true]) ∧
   w'.heap[A]?=some (dobj n C (.slice none 0 0) (calls+1) writes)∧Kp [A] w w':=
 (find_ok V A n C calls writes i l N 0 0 w hV h h0 h1 hi hn hC hs hAC hVA (by rw [hb];exact head_number N hN0 hN1) (by rw [hb];exact head_block N) (by rw [hb];exact head_sum N) hN0 (by decide) (by decide) (by decide) true (by rw [hb,headBlock_take];simp [hN])).mono fun e w' hr=>⟨by simpa [hagg] using hr.1,hr.2⟩
theorem newest_none (V A n C:Nat) (calls writes:Int) (l:List UInt8) (w:World) (hV:w.heap[V]?=some (vobj A n)) (h:w.heap[A]?=some (dobj n C (.slice none 0 0) calls writes)) (h0:0≤calls) (h1:calls≤999999999)
  (hn2:8≤n) (hn:n≤1000) (hC:w.heap[C]?=some (.cells (enc l) 115)) (hs:l.length=n * 128) (hAC:C≠A) (hVA:V≠A) (hf:Fresh l) :
  Calls Tryz.prog 140 #[.pointer (some ⟨V,0,none⟩)] w fun e w'=>e=.returned (.tuple #[.agg #[.int .u64 0,.int .i64 0,.int .u64 0],.bool false]) ∧
   w'.heap[A]?=some (dobj n C (.slice none 0 0) (calls+2) writes)∧Kp [A] w w':=by
 have hVs:=lt_of_heap hV
 have hA:=lt_of_heap h
 have hCs:=lt_of_heap hC
 go_enter Tryz.func140,Tryz.ntmps140
 go_wp2_with fail
 refine (headless V A n C calls writes 0 l _ (heap_old _ hV) (heap_old _ h) h0 (by omega) (by omega) hn (heap_old _ hC) hs hAC hVA hf.b0).mono ?_
 rintro e w1 ⟨rfl,hA1,hK1⟩
 have hR1:=hK1.heap (heap_new w (Obj.cells #[Value.int IntKind.u64 0,Value.int IntKind.i64 0,Value.int IntKind.u64 0] 166)) (by simp;omega)
 have hV1:=hK1.heap (heap_old _ hV) (by simp [hVA])
 have hC1:=hK1.heap (heap_old _ hC) (by simp [hAC])
 have hK1':Kp [A] w w1:=((Kp.refl _ _).alloc _).trans hK1 (by simp)
 have hA1s:=lt_of_heap hA1
 have hR1s:=lt_of_heap hR1
 clear hK1
 go_wp2_with fail
 refine (headless V A n C (calls+1) writes 1 l _ (heap_old _ hV1) (heap_old _ hA1) (by omega) (by omega) (by omega) hn (heap_old _ hC1) hs hAC hVA hf.b1).mono ?_
 rintro e w2 ⟨rfl,hA2,hK2⟩
 have hR2:=hK2.heap (heap_old _ hR1) (by simp;omega)
 have hH2:=hK2.heap (heap_new w1 (Obj.cells #[Value.int IntKind.u64 0,Value.int IntKind.i64 0,Value.int IntKind.u64 0] 166)) (by simp;omega)
 have hK2':Kp [A] w w2:=hK1'.trans (((Kp.refl [A] _).alloc _).trans hK2 (by simp)) (by simp)
 have hH2s:=lt_of_heap hH2
 have hR2s:=lt_of_heap hR2
 have hA2s:=lt_of_heap hA2
 rw [show calls+1+1=calls+2 from by omega] at hA2
 clear hK2 hK1' hR1 hV1 hC1 hA1
 have r0:=cell_of hR2 0
 have r1:=cell_of hR2 1
 have r2:=cell_of hR2 2
 have s0:=cell_of hH2 0
 have s1:=cell_of hH2 1
 have s2:=cell_of hH2 2
 simp at r0 r1 r2 s0 s1 s2
 have rf:=frozen_of hR2 0
 have rf1:=frozen_of hR2 1
 have rf2:=frozen_of hR2 2
 go_wp2
 have hfin:=heap_old (Obj.cells #[Value.int IntKind.u64 0,Value.int IntKind.i64 0,Value.int IntKind.u64 0] 166) (heap_set (heap_set (heap_set hR2 0 (.int .u64 0)) 1 (.int .i64 0)) 2 (.int .u64 0))
 refine bodyPost_ret (results_cell_tmp_row Tryz.results140 _ _ w.heap.size 166 _ _ _ rfl hfin Tryz.underlying166 rfl (by kernel_rfl)) rfl ⟨rfl,?_,(((hK2'.setCell (by simp) _).setCell (by simp) _).setCell (by simp) _).alloc _⟩
 exact heap_old _ ((heap_set_other (by omega) _ _).trans ((heap_set_other (by omega) _ _).trans ((heap_set_other (by omega) _ _).trans hA2)))
theorem newest_some (V A n C:Nat) (calls writes:Int) (l:List UInt8) (N:Int) (w:World) (hV:w.heap[V]?=some (vobj A n)) (h:w.heap[A]?=some (dobj n C (.slice none 0 0) calls writes)) (h0:0≤calls) (h1:calls≤999999999)
  (hn2:8≤n) (hn:n≤1000) (hC:w.heap[C]?=some (.cells (enc l) 115)) (hs:l.length=n * 128) (hAC:C≠A) (hVA:V≠A) (hf:Formatted l N) :
  Calls Tryz.prog 140 #[.pointer (some ⟨V,0,none⟩)] w fun e w'=>e=.returned (.tuple #[.agg #[.int .u64 N,.int .i64 0,.int .u64 0],.bool true]) ∧
   w'.heap[A]?=some (dobj n C (.slice none 0 0) (calls+2) writes)∧Kp [A] w w':=by
 have hVs:=lt_of_heap hV
 have hA:=lt_of_heap h
 have hCs:=lt_of_heap hC
 have hNhi:=hf.high
 have hNlo:=hf.low
 have hodd:(N - 1) % 2=((1:Nat):Int):=by have:=hf.even;omega
 have HO:Hid ((N - 1) % 2=((1:Nat):Int)):=hodd
 clear hodd
 go_enter Tryz.func140,Tryz.ntmps140
 go_wp2_with fail
 refine (find_some V A n C calls writes 0 l N _ (heap_old _ hV) (heap_old _ h) h0 (by omega) (by omega) hn (heap_old _ hC) hs hAC hVA hf.b0 hf.even (by omega) hNhi).mono ?_
 rintro e w1 ⟨rfl,hA1,hK1⟩
 have hR1:=hK1.heap (heap_new w (Obj.cells #[Value.int IntKind.u64 0,Value.int IntKind.i64 0,Value.int IntKind.u64 0] 166)) (by simp;omega)
 have hV1:=hK1.heap (heap_old _ hV) (by simp [hVA])
 have hC1:=hK1.heap (heap_old _ hC) (by simp [hAC])
 have hK1':Kp [A] w w1:=((Kp.refl _ _).alloc _).trans hK1 (by simp)
 have hA1s:=lt_of_heap hA1
 have hR1s:=lt_of_heap hR1
 clear hK1
 go_wp2_with fail
 refine (find_some V A n C (calls+1) writes 1 l (N - 1) _ (heap_old _ hV1) (heap_old _ hA1) (by omega) (by omega) (by omega) hn (heap_old _ hC1) hs hAC hVA hf.b1 HO.out (by omega) (by omega)).mono ?_
 rintro e w2 ⟨rfl,hA2,hK2⟩
 have hR2:=hK2.heap (heap_old _ hR1) (by simp;omega)
 have hH2:=hK2.heap (heap_new w1 (Obj.cells #[Value.int IntKind.u64 N,Value.int IntKind.i64 0,Value.int IntKind.u64 0] 166)) (by simp;omega)
 have hK2':Kp [A] w w2:=hK1'.trans (((Kp.refl [A] _).alloc _).trans hK2 (by simp)) (by simp)
 have hH2s:=lt_of_heap hH2
 have hR2s:=lt_of_heap hR2
 have hA2s:=lt_of_heap hA2
 rw [show calls+1+1=calls+2 from by omega] at hA2
 clear hK2 hK1' hR1 hV1 hC1 hA1
 have r0:=cell_of hR2 0
 have r1:=cell_of hR2 1
 have r2:=cell_of hR2 2
 have s0:=cell_of hH2 0
 have s1:=cell_of hH2 1
 have s2:=cell_of hH2 2
 simp at r0 r1 r2 s0 s1 s2
 have rf:=frozen_of hR2 0
 have rf1:=frozen_of hR2 1
 have rf2:=frozen_of hR2 2
 go_wp2_with fail
 refine (newer_ok (N - 1) N 0 0 0 0 _ (by omega) (by omega) (by omega) hNhi).mono ?_
 rintro e w3 ⟨rfl,hB3⟩
 have hB3':=Kp.of_below hB3 (Nat.le_refl _)
 have hR3:=hB3'.heap (heap_old _ hR2) (by simp)
 have hA3:=hB3'.heap (heap_old _ hA2) (by simp)
 have hH3:=hB3'.heap (heap_old _ hH2) (by simp)
 have hK3:Kp [A] w w3:=(hK2'.alloc _).trans hB3' (by simp)
 clear hB3 hB3' r0 r1 r2 s0 s1 s2 rf rf1 rf2
 have r0:=cell_of hR3 0
 have r1:=cell_of hR3 1
 have r2:=cell_of hR3 2
 have s0:=cell_of hH3 0
 have s1:=cell_of hH3 1
 have s2:=cell_of hH3 2
 simp at r0 r1 r2 s0 s1 s2
 have rf:=frozen_of hR3 0
 have rf1:=frozen_of hR3 1
 have rf2:=frozen_of hR3 2
 go_wp2
 have hfin:=heap_set (heap_set (heap_set hR3 0 (.int .u64 N)) 1 (.int .i64 0)) 2 (.int .u64 0)
 refine bodyPost_ret (results_cell_tmp_row Tryz.results140 _ _ w.heap.size 166 _ _ _ rfl hfin Tryz.underlying166 rfl (by kernel_rfl)) rfl ⟨rfl,?_,((hK3.setCell (by simp) _).setCell (by simp) _).setCell (by simp) _⟩
 exact (heap_set_other (by omega) _ _).trans ((heap_set_other (by omega) _ _).trans ((heap_set_other (by omega) _ _).trans hA3))
theorem zero205:Tryz.zeroCells288=enc zeroBlock:=by
 have h:Tryz.zeroCells288.toList=(enc zeroBlock).toList:=by kernel_rfl
 have:=congrArg List.toArray h
 simpa using this
def setBlock (l:List UInt8) (i:Nat) (b:List UInt8):List UInt8:=l.take (i * 128) ++ b ++ l.drop (i * 128+b.length)
theorem exec_copyA {P:Program} {a:Act} {w:World} {o:Oper} {s x:Operand} {t t' e:TypeId} (ho:o.op=.call { callee:=.builtin .copy,args:=#[s,x],argTypes:=#[t,t'] }) (hu:P.underlying t=some (.slice e)) (hs:(P.info? e).map (·.size)=some 1)
  (g o' dLen dCap b so sLen sCap n:Nat) (hd:a.eval s=.slice (some ⟨g,o',none⟩) dLen dCap) (hx:a.eval x=.slice (some ⟨b,so,none⟩) sLen sCap) (hn:n=Nat.min sLen dLen)
  {cur src:Array Value} {tg tb:TypeId} {fr:Nat × Nat} (hg:w.heap[g]?=some (.cells cur tg)) (hb:w.heap[b]?=some (.cells src tb fr)) (hfit:o'+n≤cur.size) (hin:so+n≤src.size)
  (h1:∀ v ∈ (piece src so n).toList,v.oneCell'=true) :
  Sem.run P (execOp a.eval o) w=.ok (.value (.int .i64 n)) (w.setRow g (laidOver cur o' (piece src so n))):=by
 have hr:=run_copyA (P:=P) (w:=w) o.type (t:=t) (t':=t') hu hs (dLen:=dLen) (dCap:=dCap) (sLen:=sLen) (sCap:=sCap) n hn hg hb hfit hin h1
 unfold execOp
 simp only [ho,resolve,invoke,builtin,Sem.run_bind,Sem.run_pure,Result.andThen_ok,List.map_toArray,List.map_cons,List.map_nil,hd,hx,hr]
theorem lay_ok (V A n C:Nat) (calls writes:Int) (i:Nat) (N:Int) (l:List UInt8) (w:World) (hV:w.heap[V]?=some (vobj A n)) (h:w.heap[A]?=some (dobj n C (.slice none 0 0) calls writes)) (h0:0≤calls) (h1:calls≤999999999) (h0w:0≤writes) (h1w:writes≤999999999)
  (hi:i < n) (hn:n≤1000) (hC:w.heap[C]?=some (.cells (enc l) 115)) (hs:l.length=n * 128) (hAC:C≠A) (hVA:V≠A) (hVC:V≠C) (hN:N % 2=i) (hN0:0≤N) :
  Calls Tryz.prog 142 #[.pointer (some ⟨V,0,none⟩),.agg #[.int .u64 N,.int .i64 0,.int .u64 0]] w fun e w'=>e=.returned (.tuple #[]) ∧
   w'.heap[A]?=some (dobj n C (.slice none 0 0) (calls+2) (writes+1))∧w'.heap[C]?=some (.cells (enc (setBlock l i (headBlock N))) 115)∧Kp [A,C] w w':=by
 have hVs:=lt_of_heap hV
 have hA:=lt_of_heap h
 have hCs:=lt_of_heap hC
 have HN:Hid (N % 2=i):=hN
 clear hN
 go_enter Tryz.func142,Tryz.ntmps142
 go_wp2_with fail
 rw [zero205]
 obtain ⟨W1,hW1,hK1,hA1,hC1,hV1,hH1,hG1,hsz⟩:∃ W1,W1=(w.alloc (Obj.cells #[Value.int IntKind.u64 N,Value.int IntKind.i64 0,Value.int IntKind.u64 0] 166)).alloc (Obj.cells (enc zeroBlock) 288)∧Kp [A,C] w W1∧W1.heap[A]?=some (dobj n C (.slice none 0 0) calls writes)∧W1.heap[C]?=some (.cells (enc l) 115)∧W1.heap[V]?=some (vobj A n) ∧
   W1.heap[w.heap.size]?=some (Obj.cells #[Value.int IntKind.u64 N,Value.int IntKind.i64 0,Value.int IntKind.u64 0] 166)∧W1.heap[w.heap.size+1]?=some (Obj.cells (enc zeroBlock) 288)∧W1.heap.size=w.heap.size+2:=
  ⟨_,rfl,((Kp.refl _ _).alloc _).alloc _,heap_old _ (heap_old _ h),heap_old _ (heap_old _ hC),heap_old _ (heap_old _ hV),heap_old _ (heap_new _ _),by simpa using heap_new (w.alloc (Obj.cells #[Value.int IntKind.u64 N,Value.int IntKind.i64 0,Value.int IntKind.u64 0] 166)) (Obj.cells (enc zeroBlock) 288),by simp⟩
 rw [← hW1]
 clear hW1
 refine wp_region_any (by kernel_rfl) ?_
 change wpAny _ _ _ _ _ _ _ (World.drew _)
 refine wpAny_take (i:=0) (v:=.slice (some ⟨w.heap.size+1,0,none⟩) 128 128) rfl (by kernel_rfl) (by kernel_rfl) (by kernel_rfl) (fun _ _ _ h=>h) (Or.inl ⟨by rfl,fun W=>by go_simp⟩) ?_
 simp only [Act.put,zA,zB,zC,zD,zE,zF]
 refine wpAny_ready (rs:=[1]) (by kernel_rfl) (by simp) ?_
 refine AllReady.cons rfl (fun K hK=>?_) AllReady.nil
 refine step_run rfl (exec_loadW (t:=166) rfl (by kernel_rfl) 3 (by kernel_rfl) w.heap.size rfl (show W1.drew.heap[w.heap.size]?=_ from hH1) rfl) ?_
 refine hK _ _ ?_
 clear hK K
 simp only [Act.put,zA,zB,zC,zD,zE,zF]
 refine wpAny_ready (rs:=[2]) (by kernel_rfl) (by simp) ?_
 refine AllReady.cons rfl (fun K hK=>?_) AllReady.nil
 go_simp
 refine (sector_ok N 0 0 _ hN0 (by decide) (by decide) (by decide)).mono ?_
 rintro e w2 ⟨v2,rfl,hO2,hB2⟩
 obtain ⟨g2,cap2,cur2,rfl,hg2,hcs2,hp2⟩:=own_piece hO2
 have hB2':Kp [] W1.drew w2:=Kp.of_below hB2 (Nat.le_refl _)
 have hA2:=hB2'.heap (k:=A) hA1 (by simp)
 have hC2:=hB2'.heap (k:=C) hC1 (by simp)
 have hV2:=hB2'.heap (k:=V) hV1 (by simp)
 have hH2:=hB2'.heap (k:=w.heap.size) hH1 (by simp)
 have hG2:=hB2'.heap (k:=w.heap.size+1) hG1 (by simp)
 have hK2:Kp [A,C] w w2:=(hK1.drew).trans hB2' (by simp)
 have hs2:w.heap.size+2≤w2.heap.size:=by have:=hB2.size;simp at this;omega
 clear hB2 hB2' hA1 hC1 hV1 hH1 hG1 hK1 hO2
 refine hK _ _ ?_
 clear hK K
 try simp only [Act.put,zA,zB,zC,zD,zE,zF]
 refine wpAny_ready (rs:=[3]) (by kernel_rfl) (by simp) ?_
 refine AllReady.cons rfl (fun K hK=>?_) AllReady.nil
 refine step_run rfl (exec_copyA rfl Tryz.underlying118 Tryz.size5 (w.heap.size+1) 0 128 128 g2 0 32 cap2 32 rfl rfl (by decide) hG2 hg2 (by rw [enc_size];decide) (by omega) (by rw [hp2];exact (enc_bytes _).one)) ?_
 rw [hp2,laidOver_enc]
 have hblk:zeroBlock.take 0 ++ toB (sectorOf N 0 0) ++ zeroBlock.drop (0+(toB (sectorOf N 0 0)).length)=headBlock N:=by
  rw [toB_length,sectorOf_length];simp [headBlock,zeroBlock]
 rw [hblk]
 obtain ⟨W3,hW3,hK3,hA3,hC3,hV3,hH3,hG3⟩:∃ W3,W3=w2.setRow (w.heap.size+1) (enc (headBlock N))∧Kp [A,C] w W3∧W3.heap[A]?=some (dobj n C (.slice none 0 0) calls writes)∧W3.heap[C]?=some (.cells (enc l) 115)∧W3.heap[V]?=some (vobj A n) ∧
   W3.heap[w.heap.size]?=some (Obj.cells #[Value.int IntKind.u64 N,Value.int IntKind.i64 0,Value.int IntKind.u64 0] 166)∧W3.heap[w.heap.size+1]?=some (Obj.cells (enc (headBlock N)) 288):=
  ⟨_,rfl,hK2.setRow (Or.inr (by omega)) _,(setRow_other _ _ _ _ (by omega)).trans hA2,(setRow_other _ _ _ _ (by omega)).trans hC2,(setRow_other _ _ _ _ (by omega)).trans hV2,(setRow_other _ _ _ _ (by omega)).trans hH2,setRow_heap _ _ _ _ _ _ hG2⟩
 rw [← hW3]
 clear hW3 hA2 hC2 hV2 hH2 hG2 hK2 hg2 hcs2 hp2 hblk
 refine hK _ _ ?_
 clear hK K
 refine wpAny_done (by kernel_rfl) ?_ _
 simp only [Act.put,zA,zB,zC,zD,zE,zF]
 go_wp2_with fail
 have hhl:=headBlock_length N
 refine wp_region_held_drew (S:=fun W=>W.heap[w.heap.size]?=some (Obj.cells #[Value.int IntKind.u64 N,Value.int IntKind.i64 0,Value.int IntKind.u64 0] 166)∧W.heap[w.heap.size+1]?=some (Obj.cells (enc (headBlock N)) 288)) (by kernel_rfl) ⟨hH3,hG3⟩ (fun _=>?_)
 refine zT (i:=0) (v:=.pointer (some ⟨V,0,none⟩)) rfl (by kernel_rfl) (fun _ _ _ h=>h) (Or.inl ⟨by rfl,fun W hS=>rfl⟩) ⟨hH3,hG3⟩ ?_
 simp only [Act.put,zA,zB,zC,zD,zE,zF]
 refine zT (i:=1) (v:=.agg #[.int .u64 N,.int .i64 0,.int .u64 0]) rfl (by kernel_rfl) (fun _ _ _ h=>h) (Or.inl ⟨by rfl,fun W hS=>exec_loadW (t:=166) rfl (by kernel_rfl) 3 (by kernel_rfl) w.heap.size rfl hS.1 rfl⟩) ⟨hH3,hG3⟩ ?_
 simp only [Act.put,zA,zB,zC,zD,zE,zF]
 refine zT (i:=3) (v:=.agg (enc (headBlock N))) rfl (by kernel_rfl) (fun _ _ _ h=>h) (Or.inl ⟨by rfl,fun W hS=>exec_loadW (t:=288) rfl (by kernel_rfl) 128 (by kernel_rfl) (w.heap.size+1) rfl hS.2 (by rw [enc_size,headBlock_length])⟩) ⟨hH3,hG3⟩ ?_
 simp only [Act.put,zA,zB,zC,zD,zE,zF]
 refine wpAnyH_ready (rs:=[2]) (by kernel_rfl) (by simp) ?_
 refine AllReadyH.cons rfl (fun K hK=>?_) AllReadyH.nil
 go_simp
 refine (place_ok N 0 0 _ hN0).mono ?_
 rintro e w4 ⟨rfl,hB4⟩
 rw [HN.out]
 have hB4':Kp [] W3.drew w4:=Kp.of_below hB4 (Nat.le_refl _)
 have hA4:=hB4'.heap (k:=A) hA3 (by simp)
 have hC4:=hB4'.heap (k:=C) hC3 (by simp)
 have hV4:=hB4'.heap (k:=V) hV3 (by simp)
 have hH4:=hB4'.heap (k:=w.heap.size) hH3 (by simp)
 have hG4:=hB4'.heap (k:=w.heap.size+1) hG3 (by simp)
 have hK4:Kp [A,C] w w4:=(hK3.drew).trans hB4' (by simp)
 clear hB4 hB4' hA3 hC3 hV3 hH3 hG3 hK3
 refine hK.out _ _ ⟨hH4,hG4⟩ (fun _=>?_)
 clear hK K
 try simp only [Act.put,zA,zB,zC,zD,zE,zF]
 refine wpAnyH_ready (rs:=[4]) (by kernel_rfl) (by simp) ?_
 refine AllReadyH.cons rfl (fun K hK=>?_) AllReadyH.nil
 go_simp
 refine (save_ok V A n C calls writes i (headBlock N) _ hV4 hA4 h0 (by omega) h0w (by omega) hi hn hhl hVA).mono ?_
 rintro e w5 ⟨rfl,v5,hv5,hA5,hK5⟩
 have hC5:=hK5.heap (k:=C) hC4 (by simp [hAC])
 have hV5:=hK5.heap (k:=V) hV4 (by simp [hVA])
 have hH5:=hK5.heap (k:=w.heap.size) hH4 (by simp;omega)
 have hG5:=hK5.heap (k:=w.heap.size+1) hG4 (by simp;omega)
 have hK5':Kp [A,C] w w5:=hK4.trans hK5 (by simp +contextual)
 clear hK5 hK4 hA4 hC4 hV4 hH4 hG4
 refine hK.out _ _ ⟨hH5,hG5⟩ (fun _=>?_)
 clear hK K
 refine wpAnyH_done (by kernel_rfl) ?_ _
 try simp only [Act.put,zA,zB,zC,zD,zE,zF]
 clear hH5 hG5
 go_wp2_with fail
 refine (settle_one V A n C v5 (calls+1) (writes+1) i (enc (headBlock N)) (enc l) _ hV5 hA5 (by omega) (by omega) hv5 hi hn hC5 (by rw [enc_size];exact hs) hAC).mono ?_
 rintro e w6 ⟨rfl,hA6,hC6,hK6⟩
 rw [show calls+1+1=calls+2 from by omega] at hA6
 rw [laidOver_enc] at hC6
 go_wp2
 go_end0
 exact ⟨rfl,hA6,hC6,hK5'.trans hK6 (by simp)⟩
theorem count_idle (p:Addr) (w:World) :
  CallsD Tryz.prog 246 #[.pointer (some p)] .returning w fun e u' w'=>e=.returned (.tuple #[])∧u'=.returning∧w'=w:=by
 refine callsD_of_wpS Tryz.func246 rfl fun c₀ cs hu=>?_
 apply wpS_seq
 apply wpS_region
 simp [wpOpsS,go_sem,recoverD,hu,Tryz.ntmps246,Exit.thenS]
 refine wpS_cond (t:=false) (by simp [Act.eval,Array.replicate]) ?_
 simp only [Bool.false_eq_true,if_false]
 refine wpS_of_wp (wp_skip ?_)
 cases c₀
 simp_all [bodyPostS,results,Tryz.results246]
theorem vcount_ok (A n C:Nat) (cache:Value) (calls writes:Int) (w:World) (h:w.heap[A]?=some (dobj n C cache calls writes)) :
  Calls Tryz.prog 204 #[.iface 27 (.pointer (some ⟨A,0,none⟩))] w fun e w'=>e=.returned (.int .i64 n)∧Kp [] w w':=by
 have hmf:=zM
 have hA:=lt_of_heap h
 go_enter_defers Tryz.func204,Tryz.ntmps204
 go_wp2_with fail
 refine (blocks_ok A n C cache calls writes _ (heap_old _ h)).mono ?_
 rintro e w1 ⟨rfl,rfl⟩
 go_wp2
 refine leaves_cons (f:=246) (args:=#[.pointer (some ⟨w.heap.size,0,none⟩)]) (by simp) (by simp [go_sem]) ?_
 refine (count_idle ⟨w.heap.size,0,none⟩ _).mono ?_
 rintro e u' w'' ⟨rfl,rfl,rfl⟩
 simp [Leaves,settle,results,Tryz.results204,go_sem]
 exact (Kp.refl _ _).alloc _
theorem on_ok (A n C:Nat) (cache:Value) (calls writes:Int) (w:World) (h:w.heap[A]?=some (dobj n C cache calls writes)) (h8:8≤n) (h400:n≤400) :
  Calls Tryz.prog 139 #[.iface 27 (.pointer (some ⟨A,0,none⟩))] w fun e w'=>∃ V,e=.returned (.pointer (some ⟨V,0,none⟩))∧w.heap.size≤V∧w'.heap[V]?=some (vobj A n)∧Kp [] w w':=by
 go_enter Tryz.func139,Tryz.ntmps139
 go_wp2_with fail
 refine (vcount_ok A n C cache calls writes _ h).mono ?_
 rintro e w1 ⟨rfl,hK1⟩
 have hd:decide ((n:Int) < 8)=false:=by simp;omega
 have hd2:decide ((400:Int) < (n:Int))=false:=by simp;omega
 have hs1:=hK1.size
 go_wp2
 go_ret
 exact ⟨_,rfl,hs1,heap_new _ _,hK1.alloc _⟩
theorem on_bad (A n C:Nat) (cache:Value) (calls writes:Int) (w:World) (h:w.heap[A]?=some (dobj n C cache calls writes)) (hb:n < 8∨400 < n) :
  Calls Tryz.prog 139 #[.iface 27 (.pointer (some ⟨A,0,none⟩))] w fun e w'=>e=.panicked [{ v:=.iface 182 (.agg #[.iface 45 (.int .i64 10)]),recovered:=false }]∧Kp [] w w':=by
 go_enter Tryz.func139,Tryz.ntmps139
 go_wp2_with fail
 refine (vcount_ok A n C cache calls writes _ h).mono ?_
 rintro e w1 ⟨rfl,hK1⟩
 rcases hb with hb | hb
 ·have hd:decide ((n:Int) < 8)=true:=by simp;omega
  go_wp2
  exact ⟨rfl,rfl,rfl,hK1⟩
 ·have hd:decide ((n:Int) < 8)=false:=by simp;omega
  have hd2:decide ((400:Int) < (n:Int))=true:=by simp;omega
  go_wp2
  exact ⟨rfl,rfl,rfl,hK1⟩
theorem wrong_ok (k:Int) (w:World) :
  Calls Tryz.prog 168 #[.iface 182 (.agg #[.iface 45 (.int .i64 k)])] w fun e w'=>e=.returned (.iface 45 (.int .i64 k))∧Kp [] w w':=by
 have hta:∀ W:World,Sem.run Tryz.prog (Instr.typeAssert (Value.iface 182 (Value.agg #[Value.iface 45 (Value.int IntKind.i64 k)])) 20 182 true) W=.ok (.tuple #[.agg #[.iface 45 (.int .i64 k)],.bool true]) W:=fun W=>by kernel_rfl
 go_enter Tryz.func168,Tryz.ntmps168
 go_wp2
 go_ret
 exact ⟨rfl,(Kp.refl _ _).alloc _⟩
theorem catch_idle (p q:Addr) (w:World) :
  CallsD Tryz.prog 167 #[.pointer (some p),.pointer (some q)] .returning w fun e u' w'=>e=.returned (.tuple #[])∧u'=.returning∧w'=w:=by
 refine callsD_of_wpS Tryz.func167 rfl fun c₀ cs hu=>?_
 apply wpS_seq
 apply wpS_region
 simp [wpOpsS,go_sem,recoverD,hu,Tryz.ntmps167,Exit.thenS,Array.replicate]
 refine wpS_of_wp ?_
 go_wp2
 cases c₀
 simp_all [bodyPostS,results,Tryz.results167]
theorem catch_thrown (B E:Nat) (k:Int) (call:ByteArray) (w:World) (hp:w.heap[B]?=some (.cells #[.string call] 9)) (hBE:B≠E) (hE:w.heap[E]?=some (.cells #[.nilIface] 38)) :
  CallsD Tryz.prog 167 #[.pointer (some ⟨B,0,none⟩),.pointer (some ⟨E,0,none⟩)] (.panicking [{ v:=.iface 182 (.agg #[.iface 45 (.int .i64 k)]),recovered:=false }]) w fun e u' w'=>
   e=.returned (.tuple #[])∧u'=.panicking [{ v:=.iface 182 (.agg #[.iface 45 (.int .i64 k)]),recovered:=true }]∧∃ F,w.heap.size≤F∧w'.heap[F]?=some (.cells #[.string call,.iface 45 (.int .i64 k)] 246)∧w'.heap[E]?=some (.cells #[.iface 243 (.pointer (some ⟨F,0,none⟩))] 38)∧Kp [E] w w':=by
 refine callsD_of_wpS Tryz.func167 rfl fun c₀ cs hu=>?_
 apply wpS_seq
 apply wpS_region
 simp [wpOpsS,go_sem,recoverD,hu,Tryz.ntmps167,Exit.thenS,Array.replicate]
 refine wpS_of_wp ?_
 go_wp2_with fail
 refine wp_region_held_drew (S:=fun W=>W.heap[B]?=some (.cells #[.string call] 9)) (by kernel_rfl) hp (fun _=>?_)
 refine zT (i:=1) (v:=.iface 182 (.agg #[.iface 45 (.int .i64 k)])) rfl (by kernel_rfl) (fun _ _ _ h=>h) (Or.inl ⟨by rfl,fun W hS=>rfl⟩) hp ?_
 simp only [Act.put,zA,zB,zC,zD,zE,zF]
 refine zT (i:=0) (v:=.string call) rfl (by kernel_rfl) (fun _ _ _ h=>h) (Or.inl ⟨by rfl,fun W hS=>by have c:=cell_of hS 0;simp at c;clear hS;go_simp⟩) hp ?_
 simp only [Act.put,zA,zB,zC,zD,zE,zF]
 refine wpAnyH_ready (rs:=[2]) (by kernel_rfl) (by simp) ?_
 refine AllReadyH.cons rfl (fun K hK=>?_) AllReadyH.nil
 go_simp
 refine (wrong_ok k _).mono ?_
 rintro e w2 ⟨rfl,hK2⟩
 have hp2:=hK2.heap (k:=B) hp (by simp)
 have hE2:=hK2.heap (k:=E) hE (by simp)
 have hK2':Kp [E] w w2:=((Kp.refl [E] w).drew).trans hK2 (by simp)
 have hs2:=hK2'.size
 clear hK2
 refine hK.out _ _ hp2 (fun _=>?_)
 clear hK K
 try simp only [Act.put,zA,zB,zC,zD,zE,zF]
 refine zT (i:=3) (v:=.agg #[.string call,.iface 45 (.int .i64 k)]) rfl (by kernel_rfl) (fun _ _ _ h=>h) (Or.inl ⟨by rfl,fun W hS=>by clear hS;go_simp⟩) hp2 ?_
 simp only [Act.put,zA,zB,zC,zD,zE,zF]
 refine wpAnyH_ready (rs:=[4]) (by kernel_rfl) (by simp) ?_
 refine AllReadyH.cons rfl (fun K hK=>?_) AllReadyH.nil
 go_simp
 refine hK.out _ _ (heap_old _ hp2) (fun _=>?_)
 clear hK K
 try simp only [Act.put,zA,zB,zC,zD,zE,zF]
 have hp3:=heap_old (Obj.cells #[.string call,.iface 45 (.int .i64 k)] 246) hp2
 have hE3:=heap_old (Obj.cells #[.string call,.iface 45 (.int .i64 k)] 246) hE2
 have hF3:=heap_new w2 (Obj.cells #[.string call,.iface 45 (.int .i64 k)] 246)
 have hK3:=hK2'.alloc (Obj.cells #[.string call,.iface 45 (.int .i64 k)] 246)
 refine zT (i:=5) (v:=.iface 243 (.pointer (some ⟨w2.heap.size,0,none⟩))) rfl (by kernel_rfl) (fun _ _ _ h=>h) (Or.inl ⟨by rfl,fun W hS=>by clear hS;go_simp⟩) hp3 ?_
 simp only [Act.put,zA,zB,zC,zD,zE,zF]
 generalize w2.alloc (Obj.cells #[Value.string call,Value.iface 45 (Value.int .i64 k)] 246)=W3 at *
 have hF3s:=lt_of_heap hF3
 have hE2s:=lt_of_heap hE2
 have e0:=cell_of hE3 0
 simp at e0
 have ef:=frozen_of hE3 0
 refine wpAnyH_ready (rs:=[6]) (by kernel_rfl) (by simp) ?_
 refine AllReadyH.cons rfl (fun K hK=>?_) AllReadyH.nil
 go_simp
 refine hK.out _ _ ((heap_set_other hBE _ _).trans hp3) (fun _=>?_)
 clear hK K
 refine wpAnyH_done (by kernel_rfl) ?_ _
 exact ⟨rfl,_,rfl,_,results_none Tryz.results167 _ _ _,rfl,rfl,w2.heap.size,hs2,(heap_set_other (by omega) _ _).trans hF3,heap_set hE3 0 _,hK3.setCell (by simp) _⟩
theorem catch_done (f:Nat) (cap:Array Value) (call:ByteArray) (w:World) (R:World→Prop) (hcf:∀ W:World,Sem.run Tryz.prog (callFunc f cap) W=.ok (.enter f cap) W)
  (hw:Calls Tryz.prog f cap ((w.alloc (.cells #[.string call] 9)).alloc (.cells #[.nilIface] 38)) fun e w'=>e=.returned (.tuple #[])∧R w'∧w'.heap[w.heap.size+1]?=some (.cells #[.nilIface] 38)) :
  Calls Tryz.prog 107 #[.string call,.func (.func f) #[] cap] w fun e w'=>e=.returned .nilIface∧∃ w1,R w1∧w'=w1.setCell ⟨w.heap.size+1,0,none⟩ .nilIface:=by
 have hmf:=zM
 have HW:Hid (Calls Tryz.prog f cap ((w.alloc (.cells #[.string call] 9)).alloc (.cells #[.nilIface] 38)) fun e w'=>e=.returned (.tuple #[])∧R w'∧w'.heap[w.heap.size+1]?=some (.cells #[.nilIface] 38)):=hw
 clear hw
 go_enter_defers Tryz.func107,Tryz.ntmps107
 go_wp2_with fail
 refine (show Calls _ _ _ _ _ from HW.out).mono ?_
 rintro e w1 ⟨rfl,hR,hE⟩
 have e0:=cell_of hE 0
 simp at e0
 have ef:=frozen_of hE 0
 go_wp2
 refine leaves_cons (f:=167) (args:=#[.pointer (some ⟨w.heap.size,0,none⟩),.pointer (some ⟨w.heap.size+1,0,none⟩)]) (by simp) (by simp [go_sem]) ?_
 refine (catch_idle ⟨w.heap.size,0,none⟩ ⟨w.heap.size+1,0,none⟩ _).mono ?_
 rintro e u' w'' ⟨rfl,rfl,rfl⟩
 simp [Leaves,settle,results,Tryz.results107,go_sem,e0]
 exact ⟨w1,hR,rfl⟩
theorem catch_bad (f:Nat) (cap:Array Value) (call:ByteArray) (k:Int) (w:World) (hcf:∀ W:World,Sem.run Tryz.prog (callFunc f cap) W=.ok (.enter f cap) W)
  (S:List Nat) (hw:Calls Tryz.prog f cap ((w.alloc (.cells #[.string call] 9)).alloc (.cells #[.nilIface] 38)) fun e w'=>e=.panicked [{ v:=.iface 182 (.agg #[.iface 45 (.int .i64 k)]),recovered:=false }]∧Kp S ((w.alloc (.cells #[.string call] 9)).alloc (.cells #[.nilIface] 38)) w')
  (hS:∀ i,i ∈ S→i < w.heap.size) :
  Calls Tryz.prog 107 #[.string call,.func (.func f) #[] cap] w fun e w'=>∃ F,e=.returned (.iface 243 (.pointer (some ⟨F,0,none⟩)))∧w.heap.size≤F∧w'.heap[F]?=some (.cells #[.string call,.iface 45 (.int .i64 k)] 246)∧Kp S w w':=by
 have hmf:=zM
 have HW:Hid (Calls Tryz.prog f cap ((w.alloc (.cells #[.string call] 9)).alloc (.cells #[.nilIface] 38)) fun e w'=>e=.panicked [{ v:=.iface 182 (.agg #[.iface 45 (.int .i64 k)]),recovered:=false }]∧Kp S ((w.alloc (.cells #[.string call] 9)).alloc (.cells #[.nilIface] 38)) w'):=hw
 clear hw
 have HS:Hid (∀ i,i ∈ S→i < w.heap.size):=hS
 clear hS
 go_enter_defers Tryz.func107,Tryz.ntmps107
 go_wp2_with fail
 refine (show Calls _ _ _ _ _ from HW.out).mono ?_
 rintro e w1 ⟨rfl,hK1⟩
 have hE:w1.heap[w.heap.size+1]?=some (.cells #[.nilIface] 38):=hK1.heap (by simpa using heap_new (w.alloc (.cells #[.string call] 9)) (.cells #[.nilIface] 38)) (fun h=>by have:=HS.out _ h;omega)
 have hB:w1.heap[w.heap.size]?=some (.cells #[.string call] 9):=hK1.heap (heap_old _ (heap_new _ _)) (fun h=>by have:=HS.out _ h;omega)
 have hK1':Kp S w w1:=(((Kp.refl S w).alloc _).alloc _).trans hK1 (fun i h _=>h)
 have hs1:=hK1'.size
 clear hK1
 go_wp2
 refine leaves_cons (f:=167) (args:=#[.pointer (some ⟨w.heap.size,0,none⟩),.pointer (some ⟨w.heap.size+1,0,none⟩)]) (by simp) (by simp [go_sem]) ?_
 refine (catch_thrown w.heap.size (w.heap.size+1) k call _ hB (by omega) hE).mono ?_
 rintro e u' w2 ⟨rfl,rfl,F,hF,hF2,hE2,hK2⟩
 have e0:=cell_of hE2 0
 simp at e0
 simp [Leaves,settle,results,Tryz.results107,go_sem,e0]
 exact ⟨by omega,hF2,hK1'.trans hK2 (fun i hi hlt=>by simp at hi;omega)⟩
theorem setBlock_length (l:List UInt8) (i:Nat) (b:List UInt8) (h:i * 128+b.length≤l.length):(setBlock l i b).length=l.length:=by simp [setBlock];omega
theorem blockOf_set_same (l:List UInt8) (i:Nat) (b:List UInt8) (hb:b.length=128) (h:i * 128+128≤l.length):blockOf (setBlock l i b) i=b:=by
 unfold blockOf setBlock
 rw [List.append_assoc,List.drop_append_of_le_length (by simp;omega),List.drop_of_length_le (by simp;omega),List.nil_append,List.take_append_of_le_length (by omega),List.take_of_length_le (by omega)]
theorem blockOf_set_other (l:List UInt8) (b:List UInt8) (hb:b.length=128) (h:256≤l.length):blockOf (setBlock l 0 b) 1=blockOf l 1:=by
 unfold blockOf setBlock
 simp only [Nat.zero_mul,List.take_zero,List.nil_append,Nat.zero_add,hb,Nat.one_mul]
 rw [List.drop_append_of_le_length (by omega),List.drop_of_length_le (by omega),List.nil_append]
def formatBytes (l:List UInt8) (N:Int):List UInt8:=setBlock (setBlock l 1 (headBlock (N+1))) 0 (headBlock (N+2))
theorem formatBytes_length (l:List UInt8) (N:Int) (h:256≤l.length):(formatBytes l N).length=l.length:=by
 have h1:=setBlock_length l 1 (headBlock (N+1)) (by rw [headBlock_length];omega)
 rw [formatBytes,setBlock_length _ _ _ (by rw [headBlock_length];omega),h1]
theorem formatBytes_ok (l:List UInt8) (N:Int) (h:256≤l.length) (h0:0≤N) (he:N % 2=0) (h1:N≤999999998):Formatted (formatBytes l N) (N+2):=by
 have hl:=setBlock_length l 1 (headBlock (N+1)) (by rw [headBlock_length];omega)
 refine ⟨blockOf_set_same _ _ _ (headBlock_length _) (by omega),?_,by omega,by omega,by omega⟩
 rw [formatBytes,blockOf_set_other _ _ (headBlock_length _) (by omega),blockOf_set_same _ _ _ (headBlock_length _) (by omega)]
 congr 1;omega
theorem format1_ok (D A n C:Nat) (calls writes:Int) (l:List UInt8) (N:Int) (w:World) (hD:w.heap[D]?=some (.cells #[.iface 27 (.pointer (some ⟨A,0,none⟩))] 206)) (h:w.heap[A]?=some (dobj n C (.slice none 0 0) calls writes)) (h0:0≤calls) (h1:calls≤999999000) (h0w:0≤writes) (h1w:writes≤999999000)
  (h8:8≤n) (h400:n≤400) (hC:w.heap[C]?=some (.cells (enc l) 115)) (hs:l.length=n * 128) (hAC:C≠A) (hst:(Fresh l∧N=0)∨Formatted l N) (hN0:0≤N) (hNe:N % 2=0) (hN1:N≤999999000) :
  Calls Tryz.prog 138 #[.pointer (some ⟨D,0,none⟩)] w fun e w'=>e=.returned (.tuple #[]) ∧
   w'.heap[A]?=some (dobj n C (.slice none 0 0) (calls+6) (writes+2))∧w'.heap[C]?=some (.cells (enc (formatBytes l N)) 115)∧Kp [A,C] w w':=by
 have hDs:=lt_of_heap hD
 have hA:=lt_of_heap h
 have hCs:=lt_of_heap hC
 have c0:=cell_of hD 0
 simp at c0
 have HE:Hid (N % 2=0):=hNe
 clear hNe
 go_enter Tryz.func138,Tryz.ntmps138
 go_wp2_with fail
 refine (on_ok A n C (.slice none 0 0) calls writes _ h h8 h400).mono ?_
 rintro e w1 ⟨V,rfl,hVs,hV1,hK1⟩
 have hA1:=hK1.heap h (by simp)
 have hC1:=hK1.heap hC (by simp)
 have hK1':Kp [A,C] w w1:=hK1.mono (by simp)
 have hVA:V≠A:=by omega
 have hVC:V≠C:=by omega
 clear hK1
 go_wp2_with fail
 have hnew:Calls Tryz.prog 140 #[.pointer (some ⟨V,0,none⟩)] w1 fun e w'=>(∃ b,e=.returned (.tuple #[.agg #[.int .u64 N,.int .i64 0,.int .u64 0],.bool b]))∧w'.heap[A]?=some (dobj n C (.slice none 0 0) (calls+2) writes)∧Kp [A] w1 w':=by
  rcases hst with ⟨hf,rfl⟩ | hf
  ·exact (newest_none V A n C calls writes l w1 hV1 hA1 h0 (by omega) h8 (by omega) hC1 hs hAC hVA hf).mono fun e w' hr=>⟨⟨_,hr.1⟩,hr.2⟩
  ·exact (newest_some V A n C calls writes l N w1 hV1 hA1 h0 (by omega) h8 (by omega) hC1 hs hAC hVA hf).mono fun e w' hr=>⟨⟨_,hr.1⟩,hr.2⟩
 refine hnew.mono ?_
 rintro e w2 ⟨⟨b,rfl⟩,hA2,hK2⟩
 clear hnew hst
 have hV2:=hK2.heap hV1 (by simp [hVA])
 have hC2:=hK2.heap hC1 (by simp [hAC])
 have hK2':Kp [A,C] w w2:=hK1'.trans hK2 (by simp)
 have hVl:=lt_of_heap hV1
 have hs2:=hK2.size
 have hs1:=hK1'.size
 clear hK2 hK1' hA1 hC1 hV1 c0
 go_wp2
 obtain ⟨H,hHd⟩:∃ H,H=w2.heap.size:=⟨_,rfl⟩
 rw [← hHd]
 have hHw:w.heap.size≤H:=by omega
 have hHA:A≠H:=by omega
 have hHC:C≠H:=by omega
 have hHV:V≠H:=by omega
 obtain ⟨W3,hW3,hK3,hA3,hC3,hV3,hH3⟩:∃ W3,W3=w2.alloc (Obj.cells #[Value.int IntKind.u64 N,Value.int IntKind.i64 0,Value.int IntKind.u64 0] 166)∧Kp [A,C] w W3∧W3.heap[A]?=some (dobj n C (.slice none 0 0) (calls+2) writes)∧W3.heap[C]?=some (.cells (enc l) 115)∧W3.heap[V]?=some (vobj A n)∧W3.heap[H]?=some (.cells #[.int .u64 N,.int .i64 0,.int .u64 0] 166):=
  ⟨_,rfl,hK2'.alloc _,heap_old _ hA2,heap_old _ hC2,heap_old _ hV2,by rw [hHd];exact heap_new _ _⟩
 rw [← hW3]
 clear hW3 hK2' hA2 hC2 hV2 hHd hs2 hs1
 have HHA:Hid (A≠H):=hHA
 have HHC:Hid (C≠H):=hHC
 have HHV:Hid (V≠H):=hHV
 clear hHA hHC hHV
 have x0:=cell_of hH3 0
 have x1:=cell_of hH3 1
 have x2:=cell_of hH3 2
 simp at x0 x1 x2
 refine wp_loop_rounds 3 ?_
 rw [rounds_succ]
 go_wp2_with fail
 refine (next_ok N 0 0 0 0 _ (by omega) (by omega)).mono ?_
 rintro e W3a ⟨rfl,hB3a⟩
 have hB3a':=Kp.of_below hB3a (Nat.le_refl _)
 have hA3a:=hB3a'.heap hA3 (by simp)
 have hC3a:=hB3a'.heap hC3 (by simp)
 have hV3a:=hB3a'.heap hV3 (by simp)
 have hH3a:=hB3a'.heap hH3 (by simp)
 have hK3a:Kp [A,C] w W3a:=hK3.trans hB3a' (by simp)
 clear hB3a hB3a' hA3 hC3 hV3 hH3 hK3 x0 x1 x2
 have x0:=cell_of hH3a 0
 have x1:=cell_of hH3a 1
 have x2:=cell_of hH3a 2
 simp at x0 x1 x2
 have y0:=frozen_of hH3a 0
 have y1:=frozen_of hH3a 1
 have y2:=frozen_of hH3a 2
 go_wp2_with fail
 obtain ⟨W3b,hW3b,hK3b,hA3b,hC3b,hV3b,hH3b⟩:∃ W3b,W3b=((W3a.setCell ⟨H,0,none⟩ (.int .u64 (N+1))).setCell ⟨H,1,none⟩ (.int .i64 0)).setCell ⟨H,2,none⟩ (.int .u64 0)∧Kp [A,C] w W3b∧W3b.heap[A]?=some (dobj n C (.slice none 0 0) (calls+2) (writes))∧W3b.heap[C]?=some (.cells (enc (l)) 115)∧W3b.heap[V]?=some (vobj A n)∧W3b.heap[H]?=some (.cells #[.int .u64 (N+1),.int .i64 0,.int .u64 0] 166):=
  ⟨_,rfl,((hK3a.setCell (Or.inr hHw) _).setCell (Or.inr hHw) _).setCell (Or.inr hHw) _,(heap_set_other HHA.out _ _).trans ((heap_set_other HHA.out _ _).trans ((heap_set_other HHA.out _ _).trans hA3a)),(heap_set_other HHC.out _ _).trans ((heap_set_other HHC.out _ _).trans ((heap_set_other HHC.out _ _).trans hC3a)),(heap_set_other HHV.out _ _).trans ((heap_set_other HHV.out _ _).trans ((heap_set_other HHV.out _ _).trans hV3a)),heap_set (heap_set (heap_set hH3a 0 _) 1 _) 2 _⟩
 rw [← hW3b]
 clear hW3b hK3a hA3a hC3a hV3a hH3a x0 x1 x2 y0 y1 y2
 refine (lay_ok V A n C (calls+2) (writes) 1 (N+1) (l) _ hV3b hA3b (by omega) (by omega) (by omega) (by omega) (by omega) (by omega) hC3b hs hAC hVA hVC (by have:=HE.out;omega) (by omega)).mono ?_
 rintro e W3c ⟨rfl,hA3c,hC3c,hK3c'⟩
 have hV3c:=hK3c'.heap hV3b (by simp [hVA,hVC])
 have hH3c:=hK3c'.heap hH3b (by simp;omega)
 have hK3c:Kp [A,C] w W3c:=hK3b.trans hK3c' (by simp)
 clear hK3c' hK3b hA3b hC3b hV3b hH3b
 have x0:=cell_of hH3c 0
 have x1:=cell_of hH3c 1
 have x2:=cell_of hH3c 2
 simp at x0 x1 x2
 have hsl:(setBlock l 1 (headBlock (N+1))).length=n * 128:=by rw [setBlock_length _ _ _ (by rw [headBlock_length];omega)];exact hs
 go_wp2_with fail
 rw [rounds_succ]
 go_wp2_with fail
 refine (next_ok (N+1) 0 0 0 0 _ (by omega) (by omega)).mono ?_
 rintro e W3ca ⟨rfl,hB3ca⟩
 have hB3ca':=Kp.of_below hB3ca (Nat.le_refl _)
 have hA3ca:=hB3ca'.heap hA3c (by simp)
 have hC3ca:=hB3ca'.heap hC3c (by simp)
 have hV3ca:=hB3ca'.heap hV3c (by simp)
 have hH3ca:=hB3ca'.heap hH3c (by simp)
 have hK3ca:Kp [A,C] w W3ca:=hK3c.trans hB3ca' (by simp)
 clear hB3ca hB3ca' hA3c hC3c hV3c hH3c hK3c x0 x1 x2
 have x0:=cell_of hH3ca 0
 have x1:=cell_of hH3ca 1
 have x2:=cell_of hH3ca 2
 simp at x0 x1 x2
 have y0:=frozen_of hH3ca 0
 have y1:=frozen_of hH3ca 1
 have y2:=frozen_of hH3ca 2
 go_wp2_with fail
 obtain ⟨W3cb,hW3cb,hK3cb,hA3cb,hC3cb,hV3cb,hH3cb⟩:∃ W3cb,W3cb=((W3ca.setCell ⟨H,0,none⟩ (.int .u64 ((N+1)+1))).setCell ⟨H,1,none⟩ (.int .i64 0)).setCell ⟨H,2,none⟩ (.int .u64 0)∧Kp [A,C] w W3cb∧W3cb.heap[A]?=some (dobj n C (.slice none 0 0) (calls+2+2) (writes+1))∧W3cb.heap[C]?=some (.cells (enc (setBlock l 1 (headBlock (N+1)))) 115)∧W3cb.heap[V]?=some (vobj A n)∧W3cb.heap[H]?=some (.cells #[.int .u64 ((N+1)+1),.int .i64 0,.int .u64 0] 166):=
  ⟨_,rfl,((hK3ca.setCell (Or.inr hHw) _).setCell (Or.inr hHw) _).setCell (Or.inr hHw) _,(heap_set_other HHA.out _ _).trans ((heap_set_other HHA.out _ _).trans ((heap_set_other HHA.out _ _).trans hA3ca)),(heap_set_other HHC.out _ _).trans ((heap_set_other HHC.out _ _).trans ((heap_set_other HHC.out _ _).trans hC3ca)),(heap_set_other HHV.out _ _).trans ((heap_set_other HHV.out _ _).trans ((heap_set_other HHV.out _ _).trans hV3ca)),heap_set (heap_set (heap_set hH3ca 0 _) 1 _) 2 _⟩
 rw [← hW3cb]
 clear hW3cb hK3ca hA3ca hC3ca hV3ca hH3ca x0 x1 x2 y0 y1 y2
 refine (lay_ok V A n C (calls+2+2) (writes+1) 0 ((N+1)+1) (setBlock l 1 (headBlock (N+1))) _ hV3cb hA3cb (by omega) (by omega) (by omega) (by omega) (by omega) (by omega) hC3cb hsl hAC hVA hVC (by have:=HE.out;omega) (by omega)).mono ?_
 rintro e W3cc ⟨rfl,hA3cc,hC3cc,hK3cc'⟩
 have hV3cc:=hK3cc'.heap hV3cb (by simp [hVA,hVC])
 have hH3cc:=hK3cc'.heap hH3cb (by simp;omega)
 have hK3cc:Kp [A,C] w W3cc:=hK3cb.trans hK3cc' (by simp)
 clear hK3cc' hK3cb hA3cb hC3cb hV3cb hH3cb
 go_wp2_with fail
 rw [rounds_succ]
 go_wp2
 go_end0
 rw [show calls+2+2+2=calls+6 from by omega,show writes+1+1=writes+2 from by omega] at hA3cc
 rw [show N+1+1=N+2 from by omega] at hC3cc
 exact ⟨rfl,hA3cc,hC3cc,hK3cc⟩
theorem format1_bad (D A n C:Nat) (cache:Value) (calls writes:Int) (w:World) (hD:w.heap[D]?=some (.cells #[.iface 27 (.pointer (some ⟨A,0,none⟩))] 206)) (h:w.heap[A]?=some (dobj n C cache calls writes)) (hb:n < 8∨400 < n) :
  Calls Tryz.prog 138 #[.pointer (some ⟨D,0,none⟩)] w fun e w'=>e=.panicked [{ v:=.iface 182 (.agg #[.iface 45 (.int .i64 10)]),recovered:=false }]∧Kp [] w w':=by
 have c0:=cell_of hD 0
 simp at c0
 go_enter Tryz.func138,Tryz.ntmps138
 go_wp2_with fail
 refine (on_bad A n C cache calls writes _ h hb).mono ?_
 rintro e w1 ⟨rfl,hK1⟩
 go_wp2
 exact ⟨rfl,rfl,hK1⟩
theorem cf85 (args:Array Value) (W:World):Sem.run Tryz.prog (callFunc 138 args) W=.ok (.enter 138 args) W:=by
 simp [go_sem,Tryz.func138]
theorem format_ok (A n C:Nat) (calls writes:Int) (l:List UInt8) (N:Int) (w:World) (h:w.heap[A]?=some (dobj n C (.slice none 0 0) calls writes)) (h0:0≤calls) (h1:calls≤999999000) (h0w:0≤writes) (h1w:writes≤999999000)
  (h8:8≤n) (h400:n≤400) (hC:w.heap[C]?=some (.cells (enc l) 115)) (hs:l.length=n * 128) (hAC:C≠A) (hst:(Fresh l∧N=0)∨Formatted l N) (hN0:0≤N) (hNe:N % 2=0) (hN1:N≤999999000) :
  Calls Tryz.prog 42 #[.pointer (some ⟨A,0,none⟩)] w fun e w'=>e=.returned .nilIface ∧
   w'.heap[A]?=some (dobj n C (.slice none 0 0) (calls+6) (writes+2))∧w'.heap[C]?=some (.cells (enc (formatBytes l N)) 115)∧Kp [A,C] w w':=by
 have hA:=lt_of_heap h
 have hCs:=lt_of_heap hC
 have hmf:=zM
 have HE:Hid (N % 2=0):=hNe
 clear hNe
 go_enter Tryz.func42,Tryz.ntmps42
 go_wp2_with (go_at_call 85;go_in)
 obtain ⟨W0,hW0,hK0,hs0⟩:∃ W0,W0=w.alloc (Obj.cells #[Value.iface 27 (Value.pointer (some { block:=A,off:=0 }))] 206)∧Kp [] w W0∧W0.heap.size=w.heap.size+1:=⟨_,rfl,(Kp.refl _ _).alloc _,by simp⟩
 have hD0:W0.heap[w.heap.size]?=some (Obj.cells #[Value.iface 27 (Value.pointer (some { block:=A,off:=0 }))] 206):=by rw [hW0];exact heap_new _ _
 rw [← hW0]
 clear hW0
 have hA0:=hK0.heap h (by simp)
 have hC0:=hK0.heap hC (by simp)
 refine (catch_done 138 _ _ _ (fun w'=>w'.heap[A]?=some (dobj n C (.slice none 0 0) (calls+6) (writes+2))∧w'.heap[C]?=some (.cells (enc (formatBytes l N)) 115)∧Kp [A,C] w w') (cf85 _) ?_).mono ?_
 ·refine (format1_ok w.heap.size A n C calls writes l N _ (heap_old _ (heap_old _ hD0)) (heap_old _ (heap_old _ hA0)) h0 h1 h0w h1w h8 h400 (heap_old _ (heap_old _ hC0)) hs hAC hst hN0 HE.out hN1).mono ?_
  rintro e w1 ⟨rfl,hA1,hC1,hK1⟩
  refine ⟨rfl,⟨hA1,hC1,(((hK0.mono (S':=[A,C]) (by simp)).alloc _).alloc _).trans hK1 (by simp)⟩,hK1.heap ?_ (by simp;omega)⟩
  have e:=heap_new (W0.alloc (.cells #[.string ⟨#[70,111,114,109,97,116]⟩] 9)) (.cells #[.nilIface] 38)
  simpa using e
 rintro e w2 ⟨rfl,w1,⟨hA1,hC1,hK1⟩,rfl⟩
 go_wp2
 go_ret
 exact ⟨rfl,(heap_set_other (by omega) _ _).trans hA1,(heap_set_other (by omega) _ _).trans hC1,hK1.setCell (Or.inr (by simp;omega)) _⟩
theorem format_bad (A n C:Nat) (cache:Value) (calls writes:Int) (w:World) (h:w.heap[A]?=some (dobj n C cache calls writes)) (hb:n < 8∨400 < n) :
  Calls Tryz.prog 42 #[.pointer (some ⟨A,0,none⟩)] w fun e w'=>∃ F call,e=.returned (.iface 243 (.pointer (some ⟨F,0,none⟩)))∧w.heap.size≤F∧w'.heap[F]?=some (.cells #[.string call,.iface 45 (.int .i64 10)] 246)∧Kp [] w w':=by
 have hmf:=zM
 have HB:Hid (n < 8∨400 < n):=hb
 clear hb
 go_enter Tryz.func42,Tryz.ntmps42
 go_wp2_with (go_at_call 85;go_in)
 obtain ⟨W0,hW0,hK0,hs0⟩:∃ W0,W0=w.alloc (Obj.cells #[Value.iface 27 (Value.pointer (some { block:=A,off:=0 }))] 206)∧Kp [] w W0∧W0.heap.size=w.heap.size+1:=⟨_,rfl,(Kp.refl _ _).alloc _,by simp⟩
 have hD0:W0.heap[w.heap.size]?=some (Obj.cells #[Value.iface 27 (Value.pointer (some { block:=A,off:=0 }))] 206):=by rw [hW0];exact heap_new _ _
 rw [← hW0]
 clear hW0
 have hA0:=hK0.heap h (by simp)
 refine (catch_bad 138 _ _ 10 _ (cf85 _) [] ?_ (by simp)).mono ?_
 ·exact format1_bad w.heap.size A n C cache calls writes _ (heap_old _ (heap_old _ hD0)) (heap_old _ (heap_old _ hA0)) HB.out
 rintro e w2 ⟨F,rfl,hF,hF2,hK2⟩
 go_wp2
 go_ret
 exact ⟨F,_,rfl,by omega,hF2,hK0.trans hK2 (by simp)⟩
def tagg (V:Nat):Value:=.agg #[.pointer (some ⟨V,0,none⟩),.string ⟨#[]⟩,.int .i64 0,.int .u64 0,.pointer none]
theorem at_ok (V:Nat) (w:World) :
  Calls Tryz.prog 110 #[.pointer (some ⟨V,0,none⟩),.agg #[.int .i64 0,.int .u64 0]] w fun e w'=>e=.returned (tagg V)∧Kp [] w w':=by
 go_enter Tryz.func110,Tryz.ntmps110
 go_wp2
 refine bodyPost_ret (results_cell_row Tryz.results110 _ _ (w.heap.size+1) 89 #[.pointer (some ⟨V,0,none⟩),.string ⟨#[]⟩,.int .i64 0,.int .u64 0,.pointer none] (0,0) _ rfl ?_ Tryz.underlying89 rfl (by kernel_rfl)) rfl ⟨rfl,((Kp.refl _ _).alloc _).alloc _⟩
 have e:=heap_new (w.alloc (Obj.cells #[Value.int IntKind.i64 0,Value.int IntKind.u64 0] 84)) (Obj.cells #[.pointer (some ⟨V,0,none⟩),.string ⟨#[]⟩,.int .i64 0,.int .u64 0,.pointer none] 89)
 simpa using e
theorem eq_nil_nil (d:Nat) (W:World):Sem.run Tryz.prog (Op.equalIn (d+1) 85 (Value.pointer none) (Value.pointer none)) W=.ok true W:=by
 simp [Op.equalIn,run_underlying Tryz.underlying85]
theorem empty_ok (V:Nat) (w:World) :
  Calls Tryz.prog 92 #[.agg #[.pointer (some ⟨V,0,none⟩),.string ⟨#[]⟩,.int .i64 0,.int .u64 0,.pointer none]] w fun e w'=>e=.returned (.bool true)∧Kp [] w w':=by
 have heq:∀ W:World,Sem.run Tryz.prog (Op.equalIn 9999 85 (Value.pointer none) (Value.pointer none)) W=.ok true W:=fun W=>eq_nil_nil 9998 W
 go_enter Tryz.func92,Tryz.ntmps92
 go_wp2
 go_ret
 exact ⟨rfl,(Kp.refl _ _).alloc _⟩
theorem check_ok (V:Nat) (w:World) :
  Calls Tryz.prog 144 #[.agg #[.pointer (some ⟨V,0,none⟩),.string ⟨#[]⟩,.int .i64 0,.int .u64 0,.pointer none]] w fun e w'=>e=.returned (.int .i64 0)∧Kp [] w w':=by
 go_enter Tryz.func144,Tryz.ntmps144
 go_wp2_with fail
 refine (empty_ok V _).mono ?_
 rintro e w1 ⟨rfl,hK1⟩
 have hc:w1.heap[w.heap.size+1]?=some (Obj.cells #[Value.pointer (some { block:=V,off:=0 }),Value.int IntKind.i64 0,Value.string { data:=#[] }] 293):=hK1.heap (by
  have e:=heap_new (w.alloc (Obj.cells #[Value.pointer (some { block:=V,off:=0 }),Value.string { data:=#[] },Value.int IntKind.i64 0,Value.int IntKind.u64 0,Value.pointer none] 89)) (Obj.cells #[Value.pointer (some { block:=V,off:=0 }),Value.int IntKind.i64 0,Value.string { data:=#[] }] 293)
  simpa using e) (by simp)
 have hK1':Kp [] w w1:=(((Kp.refl [] w).alloc _).alloc _).trans hK1 (by simp)
 clear hK1
 have c1:=cell_of hc 1
 simp at c1
 go_wp2
 go_ret
 exact ⟨rfl,hK1'⟩
structure SOp where
 k:Int
 x:Int
 y:Int
 a:Int
 b:Int
 s:ByteArray
 t:ByteArray
def SOp.cells (o:SOp):List Value:=[.int .i64 o.k,.int .i64 o.x,.int .i64 o.y,.int .i64 o.a,.int .i64 o.b,.string o.s,.string o.t]
def Script (w:World) (p:Option Addr) (n:Nat) (f:Nat→SOp):Prop:=
 0 < n→∃ blk off,p=some ⟨blk,off,none⟩∧blk < w.heap.size∧∀ i,i < n→∀ c,c < 7→w.cell? ⟨blk,off+i * 7+c,none⟩=(f i).cells[c]?
theorem Script.keep {w w':World} {p:Option Addr} {n:Nat} {f:Nat→SOp} (h:Script w p n f) (hK:Kp [] w w'):Script w' p n f:=fun hn=>by
 obtain ⟨blk,off,h1,h2,h3⟩:=h hn
 exact ⟨blk,off,h1,Nat.lt_of_lt_of_le h2 hK.size,fun i hi c hc=>(hK.cell (a:=⟨blk,off+i * 7+c,none⟩) h2 (by simp)).trans (h3 i hi c hc)⟩
def SmallEnd (n:Nat) (w:World) (e:Ending) (w':World):Prop:=∃ r:Bool,e=.returned (.bool r)∧(r=true→n≤16384)∧∃ m,w'=w.drewN m
theorem small_ok (p:Option Addr) (n cap:Nat) (f:Nat→SOp) (w:World) (hS:Script w p n f) :
  Calls Tryz.prog 16 #[.slice p n cap] w fun e w'=>SmallEnd n w e w':=by
 by_cases hbig:16384 < n
 ·have hb1:(16384:Int) < (n:Int):=by omega
  go_enter Tryz.func16,Tryz.ntmps16
  go_wp2
  go_ret
  exact ⟨false,rfl,by simp,0,rfl⟩
 ·have hb1:¬ (16384:Int) < (n:Int):=by omega
  have HS:Hid (Script w p n f):=hS
  clear hS
  go_enter Tryz.func16,Tryz.ntmps16
  go_wp2
  go_loopw [3,4] (fun s i wr=>∃ (j:Nat) (t:Int),j≤n∧i=.int .i64 j∧s=.int .i64 t∧∃ m,wr=w.drewN m) (fun _ i _=>n - (intOf i).toNat)
  case atStart=>exact ⟨0,n,Nat.zero_le _,rfl,rfl,0,rfl⟩
  case round=>
   obtain ⟨j,t,hj,rfl,rfl,m,rfl⟩:=hrel
   by_cases hlt:j < n
   ·obtain ⟨blk,off,rfl,hblk,hcell⟩:=HS.out (by omega)
    have c5:=hcell j hlt 5 (by decide)
    have c6:=hcell j hlt 6 (by decide)
    simp only [SOp.cells,zH,zI] at c5 c6
    have hjb:(j:Int) < (n:Int):=by omega
    clear hcell
    go_wp2_with fail
    go_quiet (fail)
    go_wp2
    case roundEnd=>exact ⟨⟨j+1,_,by omega,by go_num,rfl,_,rfl⟩,by simp [intOf];omega⟩
    go_ret
    exact ⟨false,rfl,by simp,_,rfl⟩
   ·have hjb:¬ (j:Int) < (n:Int):=by omega
    go_wp2
    go_ret
    exact ⟨true,rfl,by omega,m,rfl⟩
structure Sto where
 V:Nat
 M:Nat
 N:Int
 rb:Int
 rs:Int
 bl:Int
 po:Bool
 bg:Int
 wr:Int
def sobj (lk:Int) (s:Sto):Obj:=
 .cells #[.int .i32 lk,.int .u32 0,.pointer (some ⟨s.V,0,none⟩),.int .u64 s.N,.int .i64 s.rb,.int .u64 s.rs,.int .i64 s.bl,.bool s.po,.int .u64 s.bg,.int .u64 s.wr,.map (some s.M)] 169
def sto0 (V M:Nat) (N:Int):Sto:=⟨V,M,N,0,0,0,false,0,0⟩
theorem vblocks_ok (V A n:Nat) (w:World) (hV:w.heap[V]?=some (vobj A n)) :
  Calls Tryz.prog 121 #[.pointer (some ⟨V,0,none⟩)] w fun e w'=>e=.returned (.int .i64 n)∧w'=w:=by
 have c1:=cell_of hV 1
 simp at c1
 clear hV
 go_enter Tryz.func121,Tryz.ntmps121
 go_wp2
 go_ret
 exact ⟨rfl,rfl⟩
theorem open1_ok (D X A n C:Nat) (calls writes:Int) (l:List UInt8) (N:Int) (w:World) (hD:w.heap[D]?=some (.cells #[.iface 27 (.pointer (some ⟨A,0,none⟩))] 206)) (hX:w.heap[X]?=some (.cells #[.pointer none] 28)) (h:w.heap[A]?=some (dobj n C (.slice none 0 0) calls writes)) (h0:0≤calls) (h1:calls≤999999000)
  (h8:8≤n) (h400:n≤400) (hC:w.heap[C]?=some (.cells (enc l) 115)) (hs:l.length=n * 128) (hAC:C≠A) (hXA:X≠A) (hf:Formatted l N) :
  Calls Tryz.prog 143 #[.pointer (some ⟨D,0,none⟩),.pointer (some ⟨X,0,none⟩)] w fun e w'=>e=.returned (.tuple #[]) ∧
   w'.heap[A]?=some (dobj n C (.slice none 0 0) (calls+3) writes)∧(∃ V M St Db,w.heap.size≤V∧w.heap.size≤M∧w.heap.size≤St∧w.heap.size≤Db∧w'.heap[V]?=some (vobj A n)∧w'.heap[M]?=some (.map #[] 0)∧w'.heap[St]?=some (sobj 0 (sto0 V M N))∧w'.heap[Db]?=some (.cells #[.pointer (some ⟨St,0,none⟩)] 102)∧w'.heap[X]?=some (.cells #[.pointer (some ⟨Db,0,none⟩)] 28))∧Kp [A,X] w w':=by
 have hDs:=lt_of_heap hD
 have hXs:=lt_of_heap hX
 have hA:=lt_of_heap h
 have hCs:=lt_of_heap hC
 have c0:=cell_of hD 0
 simp at c0
 go_enter Tryz.func143,Tryz.ntmps143
 go_wp2_with fail
 refine (on_ok A n C (.slice none 0 0) calls writes _ h h8 h400).mono ?_
 rintro e w1 ⟨V,rfl,hVs,hV1,hK1⟩
 have hA1:=hK1.heap h (by simp)
 have hC1:=hK1.heap hC (by simp)
 have hX1:=hK1.heap hX (by simp)
 have hK1':Kp [A,X] w w1:=hK1.mono (by simp)
 have HVA:Hid (V≠A):=by show V≠A;omega
 have HXA:Hid (X≠A):=hXA
 clear hK1 hXA
 go_wp2_with fail
 refine (newest_some V A n C calls writes l N w1 hV1 hA1 h0 (by omega) h8 (by omega) hC1 hs hAC HVA.out hf).mono ?_
 rintro e w2 ⟨rfl,hA2,hK2⟩
 have hV2:=hK2.heap hV1 (by simp [HVA.out])
 have hX2:=hK2.heap hX1 (by simp [HXA.out])
 have hK2':Kp [A,X] w w2:=hK1'.trans hK2 (by simp +contextual)
 have hs1:=hK1'.size
 have hs2:=hK2.size
 have hVl:=lt_of_heap hV1
 clear hK2 hK1' hA1 hC1 hV1 hX1 c0
 go_wp2_with fail
 obtain ⟨H,hHd⟩:∃ H,H=w2.heap.size:=⟨_,rfl⟩
 rw [← hHd]
 obtain ⟨W3,hW3,hK3,hA3,hX3,hV3,hH3⟩:∃ W3,W3=w2.alloc (Obj.cells #[Value.int IntKind.u64 N,Value.int IntKind.i64 0,Value.int IntKind.u64 0] 166)∧Kp [A,X] w W3∧W3.heap[A]?=some (dobj n C (.slice none 0 0) (calls+2) writes)∧W3.heap[X]?=some (.cells #[.pointer none] 28)∧W3.heap[V]?=some (vobj A n)∧W3.heap[H]?=some (.cells #[.int .u64 N,.int .i64 0,.int .u64 0] 166):=
  ⟨_,rfl,hK2'.alloc _,heap_old _ hA2,heap_old _ hX2,heap_old _ hV2,by rw [hHd];exact heap_new _ _⟩
 rw [← hW3]
 have hHb:w2.heap.size≤H:=by omega
 clear hW3 hK2' hA2 hX2 hV2 hHd
 have hHs:=lt_of_heap hH3
 refine (at_ok V _).mono ?_
 rintro e W4 ⟨rfl,hK40⟩
 have hA4:=hK40.heap hA3 (by simp)
 have hX4:=hK40.heap hX3 (by simp)
 have hV4:=hK40.heap hV3 (by simp)
 have hH4:=hK40.heap hH3 (by simp)
 have hK4:Kp [A,X] w W4:=hK3.trans hK40 (by simp)
 have hs4:=hK40.size
 clear hK40 hA3 hX3 hV3 hH3 hK3
 go_wp2_with fail
 refine (check_ok V _).mono ?_
 rintro e W5 ⟨rfl,hK50⟩
 have hA5:=hK50.heap hA4 (by simp)
 have hX5:=hK50.heap hX4 (by simp)
 have hV5:=hK50.heap hV4 (by simp)
 have hH5:=hK50.heap hH4 (by simp)
 have hK5:Kp [A,X] w W5:=hK4.trans hK50 (by simp)
 have hs5:=hK50.size
 clear hK50 hA4 hX4 hV4 hH4 hK4
 go_wp2_with fail
 refine (settle_none V A n C (calls+2) writes _ hV5 hA5 (by omega) (by omega)).mono ?_
 rintro e W6 ⟨rfl,hA6,hK60⟩
 rw [show calls+2+1=calls+3 from by omega] at hA6
 have hX6:=hK60.heap hX5 (by simp [HXA.out])
 have hV6:=hK60.heap hV5 (by simp [HVA.out])
 have hH6:=hK60.heap hH5 (by simp;omega)
 have hK6:Kp [A,X] w W6:=hK5.trans hK60 (by simp +contextual)
 have hs6:=hK60.size
 have hXH:X≠H:=by omega
 have HXH:Hid (X≠H):=hXH
 have HXV:Hid (X≠V):=by show X≠V;omega
 have hsW6:=hK6.size
 clear hK60 hA5 hX5 hV5 hH5 hK5 hXH
 have hmm:=@run_makeMap Tryz.prog
 have z0:=cell_of hH6 0
 have z1:=cell_of hH6 1
 have z2:=cell_of hH6 2
 simp only [zG,zH,zI] at z0 z1 z2
 have x0:=cell_of hX6 0
 simp only [zG,zH,zI] at x0
 have fx0:=frozen_of hX6 0
 have hX6s:=lt_of_heap hX6
 have hX6a:X < W6.heap.size+1:=by omega
 have hX6b:X < W6.heap.size+1+1:=by omega
 go_wp2
 go_end0
 obtain ⟨U,hU,hKU,hAU,hVU,hXU,hsU⟩:∃ U,U=W6.setCell ⟨X,0,none⟩ (.pointer (some ⟨W6.heap.size+1+1,0,none⟩))∧Kp [A,X] w U∧U.heap[A]?=some (dobj n C (.slice none 0 0) (calls+3) writes)∧U.heap[V]?=some (vobj A n)∧U.heap[X]?=some (.cells #[.pointer (some ⟨W6.heap.size+1+1,0,none⟩)] 28)∧U.heap.size=W6.heap.size:=
  ⟨_,rfl,hK6.setCell (by simp) _,(heap_set_other (fun e=>HXA.out e.symm) _ _).trans hA6,(heap_set_other (fun e=>HXV.out e.symm) _ _).trans hV6,heap_set hX6 0 _,by simp [World.setCell]⟩
 rw [← hU]
 have e1:=heap_new U (.map #[] 0)
 have e2:=heap_new (U.alloc (.map #[] 0)) (sobj 0 (sto0 V W6.heap.size N))
 have e3:=heap_new ((U.alloc (.map #[] 0)).alloc (sobj 0 (sto0 V W6.heap.size N))) (Obj.cells #[.pointer (some ⟨W6.heap.size+1,0,none⟩)] 102)
 rw [hsU] at e1
 rw [show (U.alloc (.map #[] 0)).heap.size=W6.heap.size+1 from by simp [hsU]] at e2
 rw [show ((U.alloc (.map #[] 0)).alloc (sobj 0 (sto0 V W6.heap.size N))).heap.size=W6.heap.size+1+1 from by simp [hsU]] at e3
 exact ⟨rfl,heap_old _ (heap_old _ (heap_old _ hAU)),⟨V,W6.heap.size,W6.heap.size+1,W6.heap.size+1+1,hVs,by omega,by omega,by omega,heap_old _ (heap_old _ (heap_old _ hVU)),heap_old _ (heap_old _ e1),heap_old _ e2,e3,heap_old _ (heap_old _ (heap_old _ hXU))⟩,((hKU.alloc _).alloc _).alloc _⟩
theorem open1_size (D X A n C:Nat) (cache:Value) (calls writes:Int) (w:World) (hD:w.heap[D]?=some (.cells #[.iface 27 (.pointer (some ⟨A,0,none⟩))] 206)) (h:w.heap[A]?=some (dobj n C cache calls writes)) (hb:n < 8∨400 < n) :
  Calls Tryz.prog 143 #[.pointer (some ⟨D,0,none⟩),.pointer (some ⟨X,0,none⟩)] w fun e w'=>e=.panicked [{ v:=.iface 182 (.agg #[.iface 45 (.int .i64 10)]),recovered:=false }]∧Kp [] w w':=by
 have c0:=cell_of hD 0
 simp at c0
 go_enter Tryz.func143,Tryz.ntmps143
 go_wp2_with fail
 refine (on_bad A n C cache calls writes _ h hb).mono ?_
 rintro e w1 ⟨rfl,hK1⟩
 go_wp2
 exact ⟨rfl,rfl,hK1⟩
theorem open1_none (D X A n C:Nat) (calls writes:Int) (l:List UInt8) (w:World) (hD:w.heap[D]?=some (.cells #[.iface 27 (.pointer (some ⟨A,0,none⟩))] 206)) (h:w.heap[A]?=some (dobj n C (.slice none 0 0) calls writes)) (h0:0≤calls) (h1:calls≤999999000)
  (h8:8≤n) (h400:n≤400) (hC:w.heap[C]?=some (.cells (enc l) 115)) (hs:l.length=n * 128) (hAC:C≠A) (hf:Fresh l) :
  Calls Tryz.prog 143 #[.pointer (some ⟨D,0,none⟩),.pointer (some ⟨X,0,none⟩)] w fun e w'=>e=.panicked [{ v:=.iface 182 (.agg #[.iface 45 (.int .i64 9)]),recovered:=false }]∧w'.heap[A]?=some (dobj n C (.slice none 0 0) (calls+2) writes)∧Kp [A] w w':=by
 have hDs:=lt_of_heap hD
 have hA:=lt_of_heap h
 have hCs:=lt_of_heap hC
 have c0:=cell_of hD 0
 simp at c0
 go_enter Tryz.func143,Tryz.ntmps143
 go_wp2_with fail
 refine (on_ok A n C (.slice none 0 0) calls writes _ h h8 h400).mono ?_
 rintro e w1 ⟨V,rfl,hVs,hV1,hK1⟩
 have hA1:=hK1.heap h (by simp)
 have hC1:=hK1.heap hC (by simp)
 have HVA:Hid (V≠A):=by show V≠A;omega
 go_wp2_with fail
 refine (newest_none V A n C calls writes l w1 hV1 hA1 h0 (by omega) h8 (by omega) hC1 hs hAC HVA.out hf).mono ?_
 rintro e w2 ⟨rfl,hA2,hK2⟩
 have hK2':Kp [A] w w2:=(hK1.mono (S':=[A]) (by simp)).trans hK2 (by simp)
 clear hK2 hK1 c0
 go_wp2
 exact ⟨rfl,rfl,rfl,heap_old _ hA2,hK2'.alloc _⟩
theorem catch_bad2 (f:Nat) (cap:Array Value) (call:ByteArray) (k:Int) (w:World) (A:Nat) (o:Obj) (hAw:A < w.heap.size) (hcf:∀ W:World,Sem.run Tryz.prog (callFunc f cap) W=.ok (.enter f cap) W)
  (S:List Nat) (hw:Calls Tryz.prog f cap ((w.alloc (.cells #[.string call] 9)).alloc (.cells #[.nilIface] 38)) fun e w'=>e=.panicked [{ v:=.iface 182 (.agg #[.iface 45 (.int .i64 k)]),recovered:=false }]∧w'.heap[A]?=some o∧Kp S ((w.alloc (.cells #[.string call] 9)).alloc (.cells #[.nilIface] 38)) w')
  (hS:∀ i,i ∈ S→i < w.heap.size) :
  Calls Tryz.prog 107 #[.string call,.func (.func f) #[] cap] w fun e w'=>∃ F,e=.returned (.iface 243 (.pointer (some ⟨F,0,none⟩)))∧w.heap.size≤F∧w'.heap[F]?=some (.cells #[.string call,.iface 45 (.int .i64 k)] 246)∧w'.heap[A]?=some o∧Kp S w w':=by
 have hmf:=zM
 have HW:Hid (Calls Tryz.prog f cap ((w.alloc (.cells #[.string call] 9)).alloc (.cells #[.nilIface] 38)) fun e w'=>e=.panicked [{ v:=.iface 182 (.agg #[.iface 45 (.int .i64 k)]),recovered:=false }]∧w'.heap[A]?=some o∧Kp S ((w.alloc (.cells #[.string call] 9)).alloc (.cells #[.nilIface] 38)) w'):=hw
 clear hw
 have HS:Hid (∀ i,i ∈ S→i < w.heap.size):=hS
 clear hS
 go_enter_defers Tryz.func107,Tryz.ntmps107
 go_wp2_with fail
 refine (show Calls _ _ _ _ _ from HW.out).mono ?_
 rintro e w1 ⟨rfl,hA1,hK1⟩
 have hE:w1.heap[w.heap.size+1]?=some (.cells #[.nilIface] 38):=hK1.heap (by simpa using heap_new (w.alloc (.cells #[.string call] 9)) (.cells #[.nilIface] 38)) (fun h=>by have:=HS.out _ h;omega)
 have hB:w1.heap[w.heap.size]?=some (.cells #[.string call] 9):=hK1.heap (heap_old _ (heap_new _ _)) (fun h=>by have:=HS.out _ h;omega)
 have hK1':Kp S w w1:=(((Kp.refl S w).alloc _).alloc _).trans hK1 (fun i h _=>h)
 have hs1:=hK1'.size
 clear hK1
 go_wp2
 refine leaves_cons (f:=167) (args:=#[.pointer (some ⟨w.heap.size,0,none⟩),.pointer (some ⟨w.heap.size+1,0,none⟩)]) (by simp) (by simp [go_sem]) ?_
 refine (catch_thrown w.heap.size (w.heap.size+1) k call _ hB (by omega) hE).mono ?_
 rintro e u' w2 ⟨rfl,rfl,F,hF,hF2,hE2,hK2⟩
 have e0:=cell_of hE2 0
 simp at e0
 simp [Leaves,settle,results,Tryz.results107,go_sem,e0]
 exact ⟨by omega,hF2,hK2.heap hA1 (by simp;omega),hK1'.trans hK2 (fun i hi hlt=>by simp at hi;omega)⟩
theorem cf94 (args:Array Value) (W:World):Sem.run Tryz.prog (callFunc 143 args) W=.ok (.enter 143 args) W:=by
 simp [go_sem,Tryz.func143]
theorem open_ok (A n C:Nat) (calls writes:Int) (l:List UInt8) (N:Int) (w:World) (h:w.heap[A]?=some (dobj n C (.slice none 0 0) calls writes)) (h0:0≤calls) (h1:calls≤999999000)
  (h8:8≤n) (h400:n≤400) (hC:w.heap[C]?=some (.cells (enc l) 115)) (hs:l.length=n * 128) (hAC:C≠A) (hf:Formatted l N) :
  Calls Tryz.prog 43 #[.pointer (some ⟨A,0,none⟩)] w fun e w'=>∃ V M St Db,e=.returned (.tuple #[.pointer (some ⟨Db,0,none⟩),.nilIface])∧w.heap.size≤V∧w.heap.size≤M∧w.heap.size≤St∧w.heap.size≤Db ∧
   w'.heap[A]?=some (dobj n C (.slice none 0 0) (calls+3) writes)∧w'.heap[V]?=some (vobj A n)∧w'.heap[M]?=some (.map #[] 0)∧w'.heap[St]?=some (sobj 0 (sto0 V M N))∧w'.heap[Db]?=some (.cells #[.pointer (some ⟨St,0,none⟩)] 102)∧Kp [A] w w':=by
 have hA:=lt_of_heap h
 have hCs:=lt_of_heap hC
 have hmf:=zM
 go_enter Tryz.func43,Tryz.ntmps43
 go_wp2_with (go_at_call 86;go_in)
 obtain ⟨W0,hW0,hK0,hs0⟩:∃ W0,W0=(w.alloc (Obj.cells #[Value.iface 27 (Value.pointer (some { block:=A,off:=0 }))] 206)).alloc (Obj.cells #[Value.pointer none] 28)∧Kp [] w W0∧W0.heap.size=w.heap.size+2:=⟨_,rfl,((Kp.refl _ _).alloc _).alloc _,by simp⟩
 have hD0:W0.heap[w.heap.size]?=some (Obj.cells #[Value.iface 27 (Value.pointer (some { block:=A,off:=0 }))] 206):=by rw [hW0];exact heap_old _ (heap_new _ _)
 have hX0:W0.heap[w.heap.size+1]?=some (Obj.cells #[Value.pointer none] 28):=by
  rw [hW0]
  have e:=heap_new (w.alloc (Obj.cells #[Value.iface 27 (Value.pointer (some { block:=A,off:=0 }))] 206)) (Obj.cells #[Value.pointer none] 28)
  simpa using e
 rw [← hW0]
 clear hW0
 have hA0:=hK0.heap h (by simp)
 have hC0:=hK0.heap hC (by simp)
 refine (catch_done 143 _ _ _ (fun w'=>w'.heap[A]?=some (dobj n C (.slice none 0 0) (calls+3) writes)∧(∃ V M St Db,W0.heap.size+2≤V∧W0.heap.size+2≤M∧W0.heap.size+2≤St∧W0.heap.size+2≤Db∧w'.heap[V]?=some (vobj A n)∧w'.heap[M]?=some (.map #[] 0)∧w'.heap[St]?=some (sobj 0 (sto0 V M N))∧w'.heap[Db]?=some (.cells #[.pointer (some ⟨St,0,none⟩)] 102)∧w'.heap[w.heap.size+1]?=some (.cells #[.pointer (some ⟨Db,0,none⟩)] 28))∧Kp [A] w w') (cf94 _) ?_).mono ?_
 ·refine (open1_ok w.heap.size (w.heap.size+1) A n C calls writes l N _ (heap_old _ (heap_old _ hD0)) (heap_old _ (heap_old _ hX0)) (heap_old _ (heap_old _ hA0)) h0 h1 h8 h400 (heap_old _ (heap_old _ hC0)) hs hAC (by omega) hf).mono ?_
  rintro e w1 ⟨rfl,hA1,⟨V,M,St,Db,hV,hM,hSt,hDb,r⟩,hK1⟩
  refine ⟨rfl,⟨hA1,⟨V,M,St,Db,by simpa using hV,by simpa using hM,by simpa using hSt,by simpa using hDb,r⟩,(((hK0.mono (S':=[A]) (by simp)).alloc _).alloc _).trans hK1 (by intro i hi hlt;simp at hi;rcases hi with rfl | rfl;simp;omega)⟩,hK1.heap ?_ (by simp;omega)⟩
  have e:=heap_new (W0.alloc (.cells #[.string ⟨#[79,112,101,110]⟩] 9)) (.cells #[.nilIface] 38)
  simpa using e
 rintro e w2 ⟨rfl,w1,⟨hA1,⟨V,M,St,Db,hV,hM,hSt,hDb,r1,rm,r2,r3,r4⟩,hK1⟩,rfl⟩
 have x0:=cell_of r4 0
 simp at x0
 go_wp2
 go_ret2
 exact ⟨V,M,St,Db,rfl,by omega,by omega,by omega,by omega,(heap_set_other (by omega) _ _).trans hA1,(heap_set_other (by omega) _ _).trans r1,(heap_set_other (by omega) _ _).trans rm,(heap_set_other (by omega) _ _).trans r2,(heap_set_other (by omega) _ _).trans r3,hK1.setCell (Or.inr (by simp;omega)) _⟩
theorem open_none (A n C:Nat) (calls writes:Int) (l:List UInt8) (w:World) (h:w.heap[A]?=some (dobj n C (.slice none 0 0) calls writes)) (h0:0≤calls) (h1:calls≤999999000)
  (h8:8≤n) (h400:n≤400) (hC:w.heap[C]?=some (.cells (enc l) 115)) (hs:l.length=n * 128) (hAC:C≠A) (hf:Fresh l) :
  Calls Tryz.prog 43 #[.pointer (some ⟨A,0,none⟩)] w fun e w'=>∃ F call,e=.returned (.tuple #[.pointer none,.iface 243 (.pointer (some ⟨F,0,none⟩))])∧w.heap.size≤F∧w'.heap[F]?=some (.cells #[.string call,.iface 45 (.int .i64 9)] 246)∧w'.heap[A]?=some (dobj n C (.slice none 0 0) (calls+2) writes)∧Kp [A] w w':=by
 have hA:=lt_of_heap h
 have hCs:=lt_of_heap hC
 have hmf:=zM
 go_enter Tryz.func43,Tryz.ntmps43
 go_wp2_with (go_at_call 86;go_in)
 obtain ⟨W0,hW0,hK0,hs0⟩:∃ W0,W0=(w.alloc (Obj.cells #[Value.iface 27 (Value.pointer (some { block:=A,off:=0 }))] 206)).alloc (Obj.cells #[Value.pointer none] 28)∧Kp [] w W0∧W0.heap.size=w.heap.size+2:=⟨_,rfl,((Kp.refl _ _).alloc _).alloc _,by simp⟩
 have hD0:W0.heap[w.heap.size]?=some (Obj.cells #[Value.iface 27 (Value.pointer (some { block:=A,off:=0 }))] 206):=by rw [hW0];exact heap_old _ (heap_new _ _)
 have hX0:W0.heap[w.heap.size+1]?=some (Obj.cells #[Value.pointer none] 28):=by
  rw [hW0]
  have e:=heap_new (w.alloc (Obj.cells #[Value.iface 27 (Value.pointer (some { block:=A,off:=0 }))] 206)) (Obj.cells #[Value.pointer none] 28)
  simpa using e
 rw [← hW0]
 clear hW0
 have hA0:=hK0.heap h (by simp)
 have hC0:=hK0.heap hC (by simp)
 refine (catch_bad2 143 _ _ 9 _ A (dobj n C (.slice none 0 0) (calls+2) writes) (by omega) (cf94 _) [A] ?_ (by intro i hi;simp at hi;omega)).mono ?_
 ·exact open1_none w.heap.size (w.heap.size+1) A n C calls writes l _ (heap_old _ (heap_old _ hD0)) (heap_old _ (heap_old _ hA0)) h0 h1 h8 h400 (heap_old _ (heap_old _ hC0)) hs hAC hf
 rintro e w2 ⟨F,rfl,hF,hF2,hA2,hK2⟩
 have hX2:=hK2.heap hX0 (by simp;omega)
 have x0:=cell_of hX2 0
 simp at x0
 go_wp2
 go_ret2
 exact ⟨F,_,rfl,by omega,hF2,hA2,(hK0.mono (S':=[A]) (by simp)).trans hK2 (by simp)⟩
theorem open_size (A n C:Nat) (cache:Value) (calls writes:Int) (w:World) (h:w.heap[A]?=some (dobj n C cache calls writes)) (hb:n < 8∨400 < n) :
  Calls Tryz.prog 43 #[.pointer (some ⟨A,0,none⟩)] w fun e w'=>∃ F call,e=.returned (.tuple #[.pointer none,.iface 243 (.pointer (some ⟨F,0,none⟩))])∧w.heap.size≤F∧w'.heap[F]?=some (.cells #[.string call,.iface 45 (.int .i64 10)] 246)∧Kp [] w w':=by
 have hA:=lt_of_heap h
 have HB:Hid (n < 8∨400 < n):=hb
 clear hb
 have hmf:=zM
 go_enter Tryz.func43,Tryz.ntmps43
 go_wp2_with (go_at_call 86;go_in)
 obtain ⟨W0,hW0,hK0,hs0⟩:∃ W0,W0=(w.alloc (Obj.cells #[Value.iface 27 (Value.pointer (some { block:=A,off:=0 }))] 206)).alloc (Obj.cells #[Value.pointer none] 28)∧Kp [] w W0∧W0.heap.size=w.heap.size+2:=⟨_,rfl,((Kp.refl _ _).alloc _).alloc _,by simp⟩
 have hD0:W0.heap[w.heap.size]?=some (Obj.cells #[Value.iface 27 (Value.pointer (some { block:=A,off:=0 }))] 206):=by rw [hW0];exact heap_old _ (heap_new _ _)
 have hX0:W0.heap[w.heap.size+1]?=some (Obj.cells #[Value.pointer none] 28):=by
  rw [hW0]
  have e:=heap_new (w.alloc (Obj.cells #[Value.iface 27 (Value.pointer (some { block:=A,off:=0 }))] 206)) (Obj.cells #[Value.pointer none] 28)
  simpa using e
 rw [← hW0]
 clear hW0
 have hA0:=hK0.heap h (by simp)
 refine (catch_bad 143 _ _ 10 _ (cf94 _) [] ?_ (by simp)).mono ?_
 ·exact open1_size w.heap.size (w.heap.size+1) A n C cache calls writes _ (heap_old _ (heap_old _ hD0)) (heap_old _ (heap_old _ hA0)) HB.out
 rintro e w2 ⟨F,rfl,hF,hF2,hK2⟩
 have hX2:=hK2.heap hX0 (by simp)
 have x0:=cell_of hX2 0
 simp at x0
 go_wp2
 go_ret2
 exact ⟨F,_,rfl,by omega,hF2,hK0.trans hK2 (by simp)⟩
end Go.Proofs.YtdohpenfkdckiaaGreatDoor
namespace Go.Proofs.YtdohpenfkdckiaaGreatDoor
set_option linter.unusedSimpArgs false
set_option linter.unusedVariables false
set_option maxRecDepth 100000
set_option maxHeartbeats 20000000
open Go.RowKit Go.Extern.Stop Go.Stop Go.Extern
def errType:Value:=.iface 220 (.agg #[.pointer (some ⟨5,38,none⟩)])
theorem as_valueOf (t:Addr) (w:World):(ReflectliteValue.unpack (.iface 95 (.pointer (some t)))).run Tryz.prog w
  = .ok (.agg #[.pointer (some ⟨5,95,none⟩),.pointer (some ⟨w.heap.size,0,none⟩),.int .u64 150]) (w.alloc (.cells #[.pointer (some t)] 95)):=by kernel_rfl
theorem as_type (a:Addr) (w:World):(ReflectliteValue.methodAny (ReflectliteValue.valueError "reflectlite.Value.Type" 0) (fun t _ _ _=>ReflectliteType.toType t) #[.agg #[.pointer (some ⟨5,95,none⟩),.pointer (some a),.int .u64 150]]).run Tryz.prog w
  = .ok (.iface 220 (.agg #[.pointer (some ⟨5,95,none⟩)])) w:=by kernel_rfl
theorem as_mKind (h:Value) (w:World):(Go.method 513 220 (.agg #[h]) "Kind").run Tryz.prog w=.ok (322,h) w:=by kernel_rfl
theorem as_kindP (w:World):((ReflectliteType.abiMethod fun t=>Functor.map (fun a:Nat=>Value.int IntKind.u8 (a:Int)) (Rtype.kind t)) #[.pointer (some ⟨5,95,none⟩)]).run Tryz.prog w=.ok (.int .u8 22) w:=by kernel_rfl
theorem as_kindE (w:World):((ReflectliteType.abiMethod fun t=>Functor.map (fun a:Nat=>Value.int IntKind.u8 (a:Int)) (Rtype.kind t)) #[.pointer (some ⟨5,45,none⟩)]).run Tryz.prog w=.ok (.int .u8 2) w:=by kernel_rfl
theorem as_partsP (a:Addr) (w:World):(ReflectliteValue.parts (.agg #[.pointer (some ⟨5,95,none⟩),.pointer (some a),.int .u64 150])).run Tryz.prog w=.ok (some (95,a,150)) w:=by kernel_rfl
theorem as_isNil (a p:Addr) (W:World) (ha:W.cell? a=some (.pointer (some p))) :
  (ReflectliteValue.method (ReflectliteValue.valueError "reflectlite.Value.IsNil" 0) ReflectliteValue.isNil #[.agg #[.pointer (some ⟨5,95,none⟩),.pointer (some a),.int .u64 150]]).run Tryz.prog W=.ok (.bool false) W:=by
 show Sem.run Tryz.prog (Bind.bind (ReflectliteValue.parts (.agg #[.pointer (some ⟨5,95,none⟩),.pointer (some a),.int .u64 150])) _) W=_
 simp only [Sem.run_bind,as_partsP,Result.andThen]
 simp [ReflectliteValue.isNil,loadVar,isAgg,underlying,Tryz.underlying95,ha,Result.andThen]
theorem as_mElem (h:Value) (w:World):(Go.method 513 220 (.agg #[h]) "Elem").run Tryz.prog w=.ok (344,.agg #[h]) w:=by kernel_rfl
theorem as_mImplements (h:Value) (w:World):(Go.method 513 220 (.agg #[h]) "Implements").run Tryz.prog w=.ok (345,.agg #[h]) w:=by kernel_rfl
theorem as_mAssignableTo (h:Value) (w:World):(Go.method 513 220 (.agg #[h]) "AssignableTo").run Tryz.prog w=.ok (342,.agg #[h]) w:=by kernel_rfl
theorem as_mUnwrap (p:Addr) (w:World):(Go.method 513 243 (.pointer (some p)) "Unwrap").run Tryz.prog w=.ok (353,.pointer (some p)) w:=by kernel_rfl
theorem as_elem (w:World):(ReflectliteType.method ReflectliteType.elem #[.agg #[.pointer (some ⟨5,95,none⟩)]]).run Tryz.prog w=.ok (.iface 220 (.agg #[.pointer (some ⟨5,45,none⟩)])) w:=by kernel_rfl
theorem as_implements (w:World):(ReflectliteType.relation "Implements" ReflectliteType.implements_ #[.agg #[.pointer (some ⟨5,45,none⟩)],.iface 220 (.agg #[.pointer (some ⟨5,38,none⟩)])]).run Tryz.prog w=.ok (.bool true) w:=by kernel_rfl
theorem as_typeOfF (v:Value) (w:World):(ReflectliteType.typeOf #[.iface 243 v]).run Tryz.prog w=.ok (.iface 220 (.agg #[.pointer (some ⟨5,243,none⟩)])) w:=by kernel_rfl
theorem as_typeOfE (v:Value) (w:World):(ReflectliteType.typeOf #[.iface 45 v]).run Tryz.prog w=.ok (.iface 220 (.agg #[.pointer (some ⟨5,45,none⟩)])) w:=by kernel_rfl
theorem as_assignF (w:World):(ReflectliteType.relation "AssignableTo" ReflectliteType.assignableTo #[.agg #[.pointer (some ⟨5,243,none⟩)],.iface 220 (.agg #[.pointer (some ⟨5,45,none⟩)])]).run Tryz.prog w=.ok (.bool false) w:=by kernel_rfl
theorem as_assignE (w:World):(ReflectliteType.relation "AssignableTo" ReflectliteType.assignableTo #[.agg #[.pointer (some ⟨5,45,none⟩)],.iface 220 (.agg #[.pointer (some ⟨5,45,none⟩)])]).run Tryz.prog w=.ok (.bool true) w:=by kernel_rfl
theorem as_valueOfE (k:Int) (w:World):(ReflectliteValue.unpack (.iface 45 (.int .i64 k))).run Tryz.prog w
  = .ok (.agg #[.pointer (some ⟨5,45,none⟩),.pointer (some ⟨w.heap.size,0,none⟩),.int .u64 130]) (w.alloc (.cells #[.int .i64 k] 45)):=by kernel_rfl
theorem as_elemOf (w:World):(Rtype.elem? 95).run Tryz.prog w=.ok (some 45) w:=by kernel_rfl
theorem as_mk (p:Addr) (w:World):(ReflectliteValue.mk 45 p ReflectliteValue.flagAddr).run Tryz.prog w=.ok (.agg #[.pointer (some ⟨5,45,none⟩),.pointer (some p),.int .u64 386]) w:=by kernel_rfl
theorem as_elemV (a p:Addr) (W:World) (ha:W.cell? a=some (.pointer (some p))) :
  (ReflectliteValue.method (ReflectliteValue.valueError "reflectlite.Value.Elem" 0) ReflectliteValue.elem #[.agg #[.pointer (some ⟨5,95,none⟩),.pointer (some a),.int .u64 150]]).run Tryz.prog W
   = .ok (.agg #[.pointer (some ⟨5,45,none⟩),.pointer (some p),.int .u64 386]) W:=by
 show Sem.run Tryz.prog (Bind.bind (ReflectliteValue.parts (.agg #[.pointer (some ⟨5,95,none⟩),.pointer (some a),.int .u64 150])) _) W=_
 simp only [Sem.run_bind,as_partsP,Result.andThen]
 simp [ReflectliteValue.elem,loadVar,isAgg,underlying,Tryz.underlying95,ha,Result.andThen,as_elemOf,as_mk]
theorem as_partsA (a:Addr) (w:World):(ReflectliteValue.parts (.agg #[.pointer (some ⟨5,45,none⟩),.pointer (some a),.int .u64 386])).run Tryz.prog w=.ok (some (45,a,386)) w:=by kernel_rfl
theorem as_partsE (a:Addr) (w:World):(ReflectliteValue.parts (.agg #[.pointer (some ⟨5,45,none⟩),.pointer (some a),.int .u64 130])).run Tryz.prog w=.ok (some (45,a,130)) w:=by kernel_rfl
theorem as_direct (w:World):(Rtype.directlyAssignable 45 45).run Tryz.prog w=.ok true w:=by kernel_rfl
theorem as_set (ta b:Addr) (k:Int) (old:Value) (W:World) (hb:W.cell? b=some (.int .i64 k)) (ht:W.cell? ta=some old) (hf:W.frozen? ta=false) :
  (ReflectliteValue.set #[.agg #[.pointer (some ⟨5,45,none⟩),.pointer (some ta),.int .u64 386],.agg #[.pointer (some ⟨5,45,none⟩),.pointer (some b),.int .u64 130]]).run Tryz.prog W
   = .ok (.tuple #[]) (W.setCell ta (.int .i64 k)):=by
 show Sem.run Tryz.prog (Bind.bind (ReflectliteValue.parts (.agg #[.pointer (some ⟨5,45,none⟩),.pointer (some ta),.int .u64 386])) fun q=>Bind.bind (ReflectliteValue.parts (.agg #[.pointer (some ⟨5,45,none⟩),.pointer (some b),.int .u64 130])) _) W=_
 simp only [Sem.run_bind,as_partsA,as_partsE,Result.andThen]
 simp [ReflectliteValue.flagAddr,loadVar,isAgg,underlying,Tryz.underlying45,hb,Result.andThen,as_direct,storeVar,Value.cells,storeCells,Addr.add]
 rw [run_store Tryz.prog W ta _ _ (by rfl)]
 simp [ht,hf]
end Go.Proofs.YtdohpenfkdckiaaGreatDoor
