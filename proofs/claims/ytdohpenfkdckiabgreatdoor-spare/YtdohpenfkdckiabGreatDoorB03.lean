import Derived.Test.YtdohpenfkdckiabGreatDoorB02
import Derived.Deep.RegionWith
import Derived.Deep.DeepMust
import Derived.Laws.BitsAllLaws
set_option linter.all false
set_option maxRecDepth 100000
set_option maxHeartbeats 20000000
namespace Go.Proofs.YtdohpenfkdckiabGreatDoor
open Go.Proofs.Tryz
open Go.RowKit
structure Cached(w:World)(v:Value)(i:Nat)(bs:Array Value):Prop where
 own:w.ownsRow 0 89 129 v 1 (.int .i64 i::bs.toList)
 size:bs.size=128
 bytes:allBytes bs
theorem Cached.form{w:World}{v:Value}{i:Nat}{bs:Array Value}(h:Cached w v i bs):∃ g cap cur,v=.slice (some ⟨g,0,none⟩) 1 cap∧w.heap[g]?=some (.cells cur 89)∧129≤cur.size∧ι cur 0 129=(.int .i64 (i:Int)::bs.toList).toArray:=by
 obtain⟨_,h2⟩:=h.own;rcases h2 with⟨_,h0⟩|⟨g,cap,cur,rfl,_,hg,h1,_,hs,ht⟩
 ·cases h0
 ·exact⟨g,cap,cur,rfl,hg,by omega,by simpa [ι] using ht⟩
theorem xJ7(A n C:Nat)(calls writes:Int)(w:World)(h:w.heap[A]?=some (φ n C (.slice none 0 0) calls writes))(h0:0≤calls)(h1:calls≤1000000000):
  Calls prog 249 #[.pointer (some ⟨A,0,none⟩)] w fun e w'=>e=.returned .nilIface∧w'.heap[A]?=some (φ n C (.slice none 0 0) (calls+1) writes)∧Kp [A] w w':=by
 have c1:=ξ h 1;simp at c1;have f1:=ν h 1;go_enter func249,ntmps249;go_wp2_with fail;refine (qW6 A n C _ calls writes _ h h0 h1).mono ?_;rintro e w1 ⟨rfl,rfl⟩;go_wp2;refine wp_loop_rounds 1 ?_;rw[rounds_succ];go_wp2;go_ret;refine⟨rfl,?_,((Kp.refl _ _).sc _).sc _⟩;exact ω (ω h 2 _) 1 _
theorem xJ9(A n C:Nat)(v:Value)(calls writes:Int)(i:Nat)(bs cs:Array Value)(w:World)(h:w.heap[A]?=some (φ n C v calls writes))(h0:0≤calls)(h1:calls≤1000000000)
  (hv:Cached w v i bs) (hi:i<n) (hn:n≤1000) (hC:w.heap[C]?=some (.cells cs 87)) (hs:cs.size=n*128) (hAC:C≠A):
  Calls prog 249 #[.pointer (some ⟨A,0,none⟩)] w fun e w'=>e=.returned .nilIface∧w'.heap[A]?=some (φ n C (.slice none 0 0) (calls+1) writes)∧
   w'.heap[C]?=some (.cells (qC6 cs (i*128) bs) 87)∧Kp [A,C] w w':=by
 obtain⟨g,cap,cur,rfl,hg,hcs,hcur⟩:=hv.form;have hsz:=hv.size;have hby:=hv.bytes;clear hv;obtain⟨X,hX⟩:∃ X,X=(.int .i64 (i:Int)::bs.toList).toArray:=⟨_,rfl⟩;rw[←hX] at hcur;have hXs:X.size=129:=by rw[hX];simp[hsz]
 have hX0:X[0]?=some (.int .i64 i):=by rw[hX];rfl
 have hXp:ι X 1 128=bs:=by rw[hX];simp[ι,List.take_of_length_le,hsz]
 have hX1:∀ v∈X.toList,v.oneCell'=true:=by
  rw[hX];intro v hv;simp at hv;rcases hv with rfl|hv
  ·rfl
  ·exact hby.one v (by simpa using hv)
 clear hX;have hgA:g≠A:=by intro e;subst e;rw[h] at hg;simp[φ] at hg
 have hgC:g≠C:=by intro e;subst e;rw[hC] at hg;simp at hg
 have hA:=η h;have hCs:=η hC;have c0:=ξ h 0;have c1:=ξ h 1;simp at c0 c1;have f1:=ν h 1;go_enter func249,ntmps249;go_wp2_with fail;refine (qW6 A n C _ calls writes _ h h0 h1).mono ?_;rintro e w1 ⟨rfl,rfl⟩;go_wp2;refine wp_loop_rounds 2 ?_;rw[rounds_succ];have hg1:(w.setCell ⟨A,2,none⟩ (.int .i64 (calls+1))).heap[g]?=some (.cells cur 89):=(qB1 hgA _ _).trans hg
 go_wp2_with (
  with_reducible refine qO7 (t:=89) ?_ 129 ?_ g 0 ?_ cur 89 (0,0) ?_ ?_ ?_
  ·kernel_rfl
  ·kernel_rfl
  ·rfl
  ·exact hg1
  ·omega)
 have hN:((w.setCell ⟨A,2,none⟩ (.int .i64 (calls+1))).alloc (.cells zeroCells89 89)).heap[w.heap.size]?=some (.cells zeroCells89 89):=by
  simpa using μ (w.setCell ⟨A,2,none⟩ (.int .i64 (calls+1))) (.cells zeroCells89 89)
 rw[qJ9 hN (by simp[qH6,hXs]) hX1];obtain⟨W1,hW1,hK1,hA1,hC1,hT1⟩:∃ W1,W1=((w.setCell ⟨A,2,none⟩ (.int .i64 (calls+1))).alloc (.cells zeroCells89 89)).setRow w.heap.size (qC6 zeroCells89 0 X.toList.toArray)∧Kp [A,C] w W1∧
   W1.heap[A]?=some (φ n C (.slice (some ⟨g,0,none⟩) 1 cap) (calls+1) writes)∧W1.heap[C]?=some (.cells cs 87)∧W1.heap[w.heap.size]?=some (.cells X 89):=
  ⟨_,rfl,(((Kp.refl _ _).sc _).alloc _).setRow (by simp) _,(setRow_other _ _ _ _ (by omega)).trans (θ _ (ω h 2 _)),(setRow_other _ _ _ _ (by omega)).trans (θ _ ((qB1 hAC _ _).trans hC)),by
   rw[setRow_heap _ _ _ _ _ _ hN,qH7 (by simp[qH6,hXs])]⟩
 rw[←hW1];clear hW1 hN hg1 c0 c1 f1;have c0:=ξ hA1 0;have t0:=ξ hT1 0;rw[hX0] at t0;simp at c0;go_wp2_with fail;refine wp_region_held_drew (S:=fun W=>W.heap[A]?=some (φ n C (.slice (some ⟨g,0,none⟩) 1 cap) (calls+1) writes)∧W.heap[w.heap.size]?=some (.cells X 89)) (by kernel_rfl) ⟨hA1,hT1⟩ (fun _=>?_);refine zP 0 A 0 ⟨hA1,hT1⟩ ?_;refine zP 1 A 0 ⟨hA1,hT1⟩ ?_;refine zP 2 A 0 ⟨hA1,hT1⟩ ?_;refine zV 3 (.slice (some ⟨C,0,none⟩) n n) rfl (fun W hS=>by have c:=ξ hS.1 0;simp at c;clear hS;go_simp) ⟨hA1,hT1⟩ ?_;refine zP 4 w.heap.size 0 ⟨hA1,hT1⟩ ?_;refine zV 5 (.int .i64 i) rfl (fun W hS=>by have c:=ξ hS.2 0;rw[hX0] at c;clear hS;go_simp) ⟨hA1,hT1⟩ ?_;refine zP 6 w.heap.size 1 ⟨hA1,hT1⟩ ?_;refine zV 7 (.agg bs) rfl (fun W hS=>zM2 (t:=87) rfl (by kernel_rfl) 128 (by kernel_rfl) w.heap.size 1 rfl hS.2 (by omega) hXp) ⟨hA1,hT1⟩ ?_;refine zU 8 (.pointer (some ⟨C,i*128,none⟩)) ⟨hA1,hT1⟩ ?_;refine zq 9 fun K hK=>?_;refine zI0 rfl (zM3 (t:=87) rfl bs (by rw[hsz];kernel_rfl) C (i*128) rfl rfl (cur:=cs) (tb:=87) hC1 (by omega) hby.one) ?_;have hAo:=(setRow_other W1.drew C A (qC6 cs (i*128) bs) (by omega)).trans hA1;have hTo:=(setRow_other W1.drew C w.heap.size (qC6 cs (i*128) bs) (by omega)).trans hT1;have hCo:=setRow_heap W1.drew C _ (qC6 cs (i*128) bs) _ _ hC1;have hKo:=(hK1.drew).setRow (g:=C) (by simp) (qC6 cs (i*128) bs);refine hK.out _ _ ⟨hAo,hTo⟩ (fun _=>?_);clear hK K;refine zd ?_;generalize W1.drew.setRow C (qC6 cs (i*128) bs)=W2 at *;simp only[zZ];clear hA1 hT1 hC1 hK1 c0 t0 hTo;have c1:=ξ hAo 1;simp at c1;have f1:=ν hAo 1;go_wp2;rw[rounds_succ];go_wp2;go_ret;exact⟨rfl,ω hAo 1 _,(qB1 hAC _ _).trans hCo,hKo.sc _⟩
theorem xB4:(prog.info? 87).map (fun i=>(i.zero,i.size,i.bytes))=some (some (.agg zeroCells87),128,128):=by kernel_rfl
theorem xC7:∀ v∈zeroCells87.toList,v=.int .u8 0:=by
 have h:zeroCells87.toList=List.replicate 128 (.int .u8 0):=by kernel_rfl
 intro v hv;rw[h] at hv;exact List.eq_of_mem_replicate hv
theorem xC8:zeroCells87.size=128:=by kernel_rfl
theorem zR2(m:Nat)(w:World)(hm:m<1000)(k:Int)(hk0:0≤k)(hk:k % 1000=m):
  Calls prog 34 #[.int .i64 k] w fun e w'=>e=.returned (.pointer (some ⟨w.heap.size+1,0,none⟩))∧∃ Z:Array Value,Z.size=m*128∧(∀ v∈Z.toList,v=.int .u8 0)∧
   w'=(w.alloc (.cells Z 87)).alloc (φ m w.heap.size (.slice none 0 0) 0 0):=by
 go_enter func34,ntmps34;have hlt:¬k<0:=by omega
 go_wp2;obtain⟨Z,hZ,hZ0,hr⟩:=xC4 (P:=prog) (.agg zeroCells87) (.int .u8 0) 128 128 underlying69 xB4 xC7 (by simp[Value.cells,xC8]) .i64 .i64 m (by omega) (by omega) w;rw[hr];clear hr;go_wp2;go_ret;exact⟨rfl,Z,hZ,hZ0,rfl⟩
def qD9(l:List UInt8):List Value:=l.map (fun b=>.int .u8 (b.toNat:Int))
def enc(l:List UInt8):Array Value:=(qD9 l).toArray
theorem xA6(l:List UInt8):(qD9 l).length=l.length:=by simp[qD9]
theorem qE5(l:List UInt8):(enc l).size=l.length:=by simp[enc,qD9]
theorem qG8(l:List UInt8):allBytes (enc l):=by
 intro v hv;simp[enc,qD9] at hv;obtain⟨b,_,rfl⟩:=hv;exact⟨_,rfl⟩
theorem qI6(l:List UInt8)(o n:Nat):ι (enc l) o n=enc ((l.drop o).take n):=by simp[ι,enc,qD9,List.map_take,List.map_drop]
theorem qX7(l p:List UInt8)(o:Nat):qC6 (enc l) o (enc p)=enc (l.take o++p++l.drop (o+p.length)):=by
 simp[qC6,enc,qD9,List.map_take,List.map_drop]
theorem zH5(l:List UInt8)(s:ByteArray):(l.map (fun b=>(b.toNat:Int))).foldl (fun r n=>r.push (UInt8.ofNat n.toNat)) s=⟨(s.data.toList++l).toArray⟩:=by
 induction l generalizing s with
 | nil=>simp
 | cons b l ih=>
  rw[List.map_cons,List.foldl_cons,ih];simp[ByteArray.push]
def qB6(A n:Nat):Obj:=.cells #[.iface 23 (.pointer (some ⟨A,0,none⟩)),.int .i64 n] 186
def qB0(l:List UInt8)(i:Nat):List UInt8:=(l.drop (i*128)).take 128
theorem qG6:zeroCells223.size=128:=by kernel_rfl
theorem xQ8(V A n C:Nat)(calls writes:Int)(i:Nat)(l:List UInt8)(w:World)(hV:w.heap[V]?=some (qB6 A n))(h:w.heap[A]?=some (φ n C (.slice none 0 0) calls writes))(h0:0≤calls)(h1:calls≤1000000000)
  (hi:i<n) (hn:n≤1000) (hC:w.heap[C]?=some (.cells (enc l) 87)) (hs:l.length=n*128) (hAC:C≠A) (hVA:V≠A):
  Calls prog 151 #[.pointer (some ⟨V,0,none⟩),.int .i64 i] w fun e w'=>e=.returned (.agg (enc (qB0 l i)))∧
   w'.heap[A]?=some (φ n C (.slice none 0 0) (calls+1) writes)∧Kp [A] w w':=by
 have c0:=ξ hV 0;simp at c0;have hVs:=η hV;have hA:=η h;have hCs:=η hC;go_enter func151,ntmps151;go_wp2_with fail;refine (xV2 A n C calls writes i (enc l) _ (θ _ h) h0 h1 hi hn (θ _ hC) (by rw[qE5];exact hs) (qG8 l) hAC).mono ?_;rintro e w1 ⟨g,rfl,hg,hG,hA1,hK1⟩;rw[qI6] at hG;have hb:qB0 l i=(l.drop (i*128)).take 128:=rfl;rw[←hb] at hG;have hbl:(qB0 l i).length=128:=by simp[qB0];omega
 clear hb;obtain⟨bl,hb0⟩:∃ bl,qB0 l i=bl:=⟨_,rfl⟩;rw[hb0] at hG hbl;have HB:=zh hb0;clear hb0;have hR:w1.heap[w.heap.size]?=some (.cells zeroCells223 223):=hK1.heap (μ _ _) (by simp;omega);have hK2:Kp [A] w w1:=((Kp.refl _ _).alloc _).tr hK1;have hgs:w.heap.size+1≤g:=by simpa using hg
 have hg1:=η hG;have hA1s:=η hA1;clear hK1 hg c0;go_wp2_with fail;have hN:=μ w1 (.cells zeroCells223 223);rw[qO4 (n:=128) 3 underlying90 Tryz.size5 rfl hN (θ _ hG) (by simp[qG6]) (by rw[qE5];omega) (qN6 (qG8 _) _ _).one];rw[qI6,List.drop_zero,List.take_of_length_le (by omega),qH7 (by rw[qG6,qE5,hbl])];obtain⟨W2,hW2,hK3,hA3,hR3,hB3⟩:∃ W2,W2=(w1.alloc (.cells zeroCells223 223)).setRow w1.heap.size (enc bl)∧Kp [A] w W2∧W2.heap[A]?=some (φ n C (.slice none 0 0) (calls+1) writes)∧
   W2.heap[w.heap.size]?=some (.cells zeroCells223 223)∧W2.heap[w1.heap.size]?=some (.cells (enc bl) 223):=
  ⟨_,rfl,(hK2.alloc _).setRow (Or.inr hK2.size) _,(setRow_other _ _ _ _ (by omega)).trans (θ _ hA1),(setRow_other _ _ _ _ (by omega)).trans (θ _ hR),setRow_heap _ _ _ _ _ _ hN⟩
 rw[←hW2];clear hW2 hN;have hpp:ι (enc bl) 0 128=enc bl:=by rw[qI6,List.drop_zero,List.take_of_length_le (by omega)]
 have hes:(enc bl).size=128:=by rw[qE5,hbl]
 go_wp2_with (
  with_reducible refine qO7 (t:=223) ?_ 128 ?_ w1.heap.size 0 ?_ (enc bl) 223 (0,0) ?_ ?_ ?_
  ·kernel_rfl
  ·kernel_rfl
  ·rfl
  ·exact hB3
  ·rw[qE5];omega)
 rw[qJ9 hR3 (by simp[qG6,hes]) (qG8 bl).one];rw[show (enc bl).toList.toArray=enc bl from by simp,qH7 (by rw[qG6,hes])];obtain⟨W3,hW3,hK4,hA4,hR4⟩:∃ W3,W3=W2.setRow w.heap.size (enc bl)∧Kp [A] w W3∧W3.heap[A]?=some (φ n C (.slice none 0 0) (calls+1) writes)∧W3.heap[w.heap.size]?=some (.cells (enc bl) 223):=
  ⟨_,rfl,hK3.setRow (by simp) _,(setRow_other _ _ _ _ (by omega)).trans hA3,setRow_heap _ _ _ _ _ _ hR3⟩
 rw[←hW3];clear hW3;go_wp2_with fail;exact bodyPost_ret (results_cell_row results151 _ _ w.heap.size _ _ _ _ rfl hR4 underlying223 rfl (by rw[hes];kernel_rfl)) rfl ⟨by rw[HB.out],hA4,hK4⟩
theorem qI8{w:World}{base base':Nat}{e:TypeId}{sz:Nat}{v:Value}{n:Nat}{xs:List Value}(h:w.ownsRow base e sz v n xs)(hb:base'≤base):w.ownsRow base' e sz v n xs:=by
 obtain⟨h1,h2⟩:=h;refine⟨h1,?_⟩;rcases h2 with h2|⟨g,cap,cur,hv,hg,r⟩
 ·exact .inl h2
 ·exact .inr ⟨g,cap,cur,hv,by omega,r⟩
theorem xW3(V A n C:Nat)(calls writes:Int)(w:World)(hV:w.heap[V]?=some (qB6 A n))(h:w.heap[A]?=some (φ n C (.slice none 0 0) calls writes))(h0:0≤calls)(h1:calls≤1000000000):
  Calls prog 76 #[.pointer (some ⟨V,0,none⟩)] w fun e w'=>e=.returned (.tuple #[])∧w'.heap[A]?=some (φ n C (.slice none 0 0) (calls+1) writes)∧Kp [A] w w':=by
 have c0:=ξ hV 0;simp at c0;go_enter func76,ntmps76;go_wp2_with fail;refine (xJ7 A n C calls writes _ h h0 h1).mono ?_;rintro e w1 ⟨rfl,hA1,hK1⟩;go_wp2
 go_end0
 exact⟨rfl,hA1,hK1⟩
theorem xW4(V A n C:Nat)(v:Value)(calls writes:Int)(i:Nat)(bs cs:Array Value)(w:World)(hV:w.heap[V]?=some (qB6 A n))(h:w.heap[A]?=some (φ n C v calls writes))(h0:0≤calls)(h1:calls≤1000000000)
  (hv:Cached w v i bs) (hi:i<n) (hn:n≤1000) (hC:w.heap[C]?=some (.cells cs 87)) (hs:cs.size=n*128) (hAC:C≠A):
  Calls prog 76 #[.pointer (some ⟨V,0,none⟩)] w fun e w'=>e=.returned (.tuple #[])∧w'.heap[A]?=some (φ n C (.slice none 0 0) (calls+1) writes)∧
   w'.heap[C]?=some (.cells (qC6 cs (i*128) bs) 87)∧Kp [A,C] w w':=by
 have c0:=ξ hV 0;simp at c0;go_enter func76,ntmps76;go_wp2_with fail;refine (xJ9 A n C v calls writes i bs cs _ h h0 h1 hv hi hn hC hs hAC).mono ?_;rintro e w1 ⟨rfl,hA1,hC1,hK1⟩;go_wp2
 go_end0
 exact⟨rfl,hA1,hC1,hK1⟩
theorem xV9(V A n C:Nat)(calls writes:Int)(i:Nat)(bl:List UInt8)(w:World)(hV:w.heap[V]?=some (qB6 A n))(h:w.heap[A]?=some (φ n C (.slice none 0 0) calls writes))(h0:0≤calls)(h1:calls≤1000000000)(h0w:0≤writes)(h1w:writes≤1000000000)
  (hi:i<n) (hn:n≤1000) (hbl:bl.length=128) (hVA:V≠A):
  Calls prog 136 #[.pointer (some ⟨V,0,none⟩),.int .i64 i,.agg (enc bl)] w fun e w'=>e=.returned (.tuple #[])∧∃ v',Cached w' v' i (enc bl)∧
   w'.heap[A]?=some (φ n C v' (calls+1) (writes+1))∧Kp [A] w w':=by
 have c0:=ξ hV 0;simp at c0;have hVs:=η hV;have hA:=η h;have hes:(enc bl).size=128:=by rw[qE5,hbl]
 go_enter func136,ntmps136;go_wp2_with fail;obtain⟨W1,hW1,hK1,hA1,hB1,hV1⟩:∃ W1,W1=w.alloc (.cells (enc bl) 223)∧Kp [A] w W1∧W1.heap[A]?=some (φ n C (.slice none 0 0) calls writes)∧W1.heap[w.heap.size]?=some (.cells (enc bl) 223)∧W1.heap[V]?=some (qB6 A n):=
  ⟨_,rfl,(Kp.refl _ _).alloc _,θ _ h,μ _ _,θ _ hV⟩
 rw[←hW1];clear hW1 c0;have c0:=ξ hV1 0;simp at c0;have hpp:ι (enc bl) 0 128=enc bl:=by rw[qI6,List.drop_zero,List.take_of_length_le (by omega)]
 have hm:∀ W:World,(method 445 23 (.pointer (some ⟨A,0,none⟩)) "Write").run prog W=.ok (251,.pointer (some ⟨A,0,none⟩)) W:=fun _=>by kernel_rfl
 go_region_with (go_at_call 251;go_must (refine (jA4 A n C calls writes i w.heap.size 0 128 (enc bl) 223 W1.drew hA1 h0 h1 h0w h1w hi hn hB1 (by omega) (qG8 bl) (by omega)).mono ?_);rintro e w2 ⟨rfl,v',hown,hA2,hK2⟩)
 go_wp2
 go_end0
 refine⟨rfl,v',⟨?_,hes,qG8 bl⟩,hA2,hK1.trans ((Kp.refl [A] W1).drew.tr hK2) (by simp)⟩;rw[hpp] at hown;exact qI8 hown (Nat.zero_le _)
theorem xK7{w:World}{g:Nat}{c:Array Value}{e:TypeId}(h:w.heap[g]?=some (.cells c e))(o:Nat):(w.freeze ⟨g,o,none⟩ 1).heap[g]?=some (.cells c e (o,o+1)):=by
 simp[World.freeze,Array.getElem?_modify,h]
theorem zN1{w:World}{g k:Nat}(hk:k≠g)(o:Nat):(w.freeze ⟨g,o,none⟩ 1).heap[k]?=w.heap[k]?:=by
 have:g≠k:=fun e=>hk e.symm;simp[World.freeze,Array.getElem?_modify,this]
theorem Below.freeze{B:Nat}{a w:World}(h:Below B a w){g:Nat}(hp:B≤g)(o:Nat):Below B a (w.freeze ⟨g,o,none⟩ 1):=
 ⟨h.os,h.tape,h.output,by have:=h.size;simp[World.freeze];omega,fun k hk=>(zN1 (by omega) o).trans (h.block k hk)⟩
theorem xV6{w:World}{g l cc:Nat}{c:Array Value}{e:TypeId}(h:w.heap[g]?=some (.cells c e)):
  Sem.run prog (convert 90 90 (.slice (some ⟨g,0,none⟩) l cc)) w=.ok (.slice (some ⟨g,0,none⟩) l cc) (w.freeze ⟨g,c.size,none⟩ 1):=by
 have hsh:w.shape? g=some (e,c.size):=by simp[World.shape?,h]
 simp[convert,run_underlying underlying90,run_underlying underlying5,markStringish,hsh]
theorem xD3(g k:Nat)(xs:List Int)(n:Int)(m:Nat)(w:World)(hx:k≤1000)(hxl:xs.length=k)(hm:m≤100)(hm1:1≤m)(hn:0≤n)
  (hc:∀ j,j<k→w.cell? ⟨g,j,none⟩=some (.int .u8 (xs.getD j 0))):
  Calls prog 177 #[.slice (some ⟨g,0,none⟩) k k,.int .u64 n,.int .i64 m] w fun e w'=>∃ v',e=.returned v'∧w'.ownsRow w.heap.size 5 1 v' (k+m) (u8s (xs++qA9 m n))∧Below w.heap.size w w':=by
 obtain⟨i0,hi,hz0,hz1,hz2⟩:=info_parts Tryz.info5;have hgs:∀ j,j<k→g<w.heap.size:=fun j hj=>World.block_lt_of_cell? w _ (hc j hj);go_enter func177,ntmps177;go_wp2
 go_loopw [0,1,8] (fun s q i wr=>∃ (j:Nat) (v':Value) (nj:Int),j≤m∧i=.int .i64 j∧q=.int .u64 nj∧nj=n / (256:Int) ^ j∧0≤nj∧nj≤n∧s=v'∧((j=0∧v'=.slice (some ⟨g,0,none⟩) k k∧w=wr)∨(1≤j∧wr.ownsRow w.heap.size 5 1 v' (k+j) (u8s (xs++qA9 j n))))∧Below w.heap.size w wr) (fun _ _ i _=>m-(intOf i).toNat)
 case atStart=>exact⟨0,_,n,Nat.zero_le _,rfl,rfl,by simp,hn,Int.le_refl _,rfl,.inl ⟨rfl,rfl,rfl⟩,Below.refl _ _⟩
 case round=>
  obtain⟨j,v',nj,hj,rfl,rfl,hnj,hnj0,hnj1,rfl,hcase,hbl⟩:=hrel;have HN:=zh hnj;clear hnj;rcases hcase with⟨rfl,rfl,rfl⟩|⟨hj1,hownr⟩
  ·have hlt:0<m:=by omega
   have HC:Hid (∀ b,(some (⟨g,0,none⟩:Addr))=some b→∀ j u,(u8s xs)[j]?=some u→(w.alloc (.cells #[.int .u8 (nj % 256)] 5)).cell? (b.add j)=some u):=by
    intro b hb j u hu;cases hb;rw[qJ8,Nat.zero_add];have hjl:j<k:=by have:=(List.getElem?_eq_some_iff.1 hu).1;simp[u8s] at this;omega
    rw[World.cell?_alloc_past _ _ _ (hgs j hjl),hc j hjl];simp[u8s,List.getElem?_eq_getElem (show j<xs.length by omega)] at hu;simp[List.getD_eq_getElem?_getD,List.getElem?_eq_getElem (show j<xs.length by omega),hu]
   go_wp2_with (at_builtin;go_must (refine wpList_append_grows _ rfl _ _ 90 rfl 5 i0 (.int .u8 0) 1 1 underlying90 hi hz0 hz1 hz2 rfl (by decide) (some ⟨g,0,none⟩) k k (u8s xs) rfl (by simp) (by simp[u8s,hxl]) HC.out ⟨w.heap.size,0,none⟩ 1 1 [.int .u8 (nj % 256)] rfl rfl (cell_one_new _ _ _) (by simp[Value.oneCell']) (by omega) (by unfold maxLen;omega) (by omega) ?_);intro v1 w1 hown1 hgrow1)
   refine⟨⟨1,v1,nj / 256,by omega,rfl,rfl,?_,by omega,by omega,rfl,.inr ⟨Nat.le_refl _,?_⟩,?_⟩,by simp[intOf];omega⟩
   ·rw[HN.out];simp
   ·have e1:u8s (xs++qA9 1 n)=u8s xs++[.int .u8 (nj % 256)]:=by rw[HN.out];simp[u8s,qA9]
    rw[e1];exact qI8 hown1 (by simp)
   ·exact (hbl.alloc (Nat.le_refl _) _).grown hgrow1 (by simp) (by simp)
  ·by_cases hlt:j<m
   ·go_wp2_with (at_builtin;refine wpList_append_own _ rfl _ _ 90 rfl w.heap.size 5 i0 (.int .u8 0) 1 1 underlying90 hi hz0 hz1 hz2 rfl (by decide) _ _ _ rfl (hownr.alloc _) ⟨wr.heap.size,0,none⟩ 1 1 [.int .u8 (nj % 256)] rfl rfl (cell_one_new _ _ _) (by simp[Value.oneCell']) (by unfold maxLen;omega) (by omega) (by have:=hbl.size;simp;omega) ?_;intro v1 w1 hown1 hgrow1 _)
    refine⟨⟨j+1,v1,nj / 256,by omega,by go_num,rfl,?_,by omega,by omega,rfl,.inr ⟨by omega,?_⟩,?_⟩,by simp[intOf];omega⟩
    ·rw[HN.out,Int.ediv_ediv_of_nonneg (by exact Int.pow_nonneg (by decide)),Int.pow_succ]
    ·have e1:u8s (xs++qA9 (j+1) n)=u8s (xs++qA9 j n)++[.int .u8 (nj % 256)]:=by rw[zE4,←HN.out];simp[u8s]
     rw[e1];exact hown1
    ·exact (hbl.alloc (by have:=hbl.size;omega) _).grown hgrow1 (by have:=hbl.size;simp;omega) (qG3 hownr)
   ·go_wp2;go_ret;have e:j=m:=by omega
    subst e;exact⟨_,rfl,hownr,hbl⟩
def qH3:List Int:=[115,104,97,100,111,119]
def qK0(N rb rs:Int):List Int:=qH3++qA9 2 rb++qA9 8 N++qA9 8 rs
def qF1(N rb rs:Int):List Int:=qK0 N rb rs++qA9 8 (fnv (qK0 N rb rs))
theorem qT1(xs:List Int):0≤fnv xs:=by
 unfold fnv
 suffices h:∀ s:Int,0≤s→0≤xs.foldl qQ4 s from h _ (by decide)
 induction xs with
 | nil=>intro s hs;simpa using hs
 | cons x xs ih=>
  intro s hs;rw[List.foldl_cons];apply ih;simp only[qQ4,IntKind.wrap_u64];exact Int.emod_nonneg _ (by decide)
theorem xW1(N rb rs:Int):(qK0 N rb rs).length=24:=by simp[qK0,qH3,qF7]
theorem qU1(N rb rs:Int):(qF1 N rb rs).length=32:=by simp[qF1,xW1,qF7]
theorem xT5{w:World}{base:Nat}{v:Value}{k:Nat}{xs:List Int}(h:w.ownsRow base 5 1 v (k+1) (u8s xs)):∃ g cap,v=.slice (some ⟨g,0,none⟩) (k+1) cap∧base≤g∧xs.length=k+1∧∀ j,j<k+1→w.cell? ⟨g,0+j,none⟩=some (.int .u8 (xs.getD j 0)):=by
 obtain⟨hl,h2⟩:=h;rcases h2 with⟨_,h0⟩|⟨g,cap,cur,rfl,hg,hh,h1,_,hs,ht⟩
 ·cases h0
 ·have hxl:xs.length=k+1:=by simpa [u8s] using hl
  refine⟨g,cap,rfl,hg,hxl,fun j hj=>?_⟩;rw[ξ hh];have e:(cur.toList.take ((k+1)*1))[j]?=(u8s xs)[j]?:=by rw[ht]
  rw[List.getElem?_take,if_pos (by omega)] at e;rw[Nat.zero_add,←Array.getElem?_toList,e];simp[u8s,List.getD_eq_getElem?_getD,List.getElem?_eq_getElem (show j<xs.length by omega)]
theorem zG1(N rb rs:Int)(w:World)(hN:0≤N)(hb:0≤rb)(hb2:rb≤1000)(hr:0≤rs):
  Calls prog 135 #[.agg #[.int .u64 N,.int .i64 rb,.int .u64 rs]] w fun e w'=>∃ v,e=.returned v∧w'.ownsRow w.heap.size 5 1 v 32 (u8s (qF1 N rb rs))∧Below w.heap.size w w':=by
 go_enter func135,ntmps135;go_wp2_with fail;have hM:=μ (w.alloc (.cells #[.int .u64 N,.int .i64 rb,.int .u64 rs] 116)) (.cells #[.int .u8 115,.int .u8 104,.int .u8 97,.int .u8 100,.int .u8 111,.int .u8 119] 5);rw[show (w.alloc (.cells #[.int .u64 N,.int .i64 rb,.int .u64 rs] 116)).heap.size=w.heap.size+1 from by simp] at hM;rw[xV6 hM];obtain⟨W1,hW1,hK1,hH1,hO1⟩:∃ W1,W1=((w.alloc (.cells #[.int .u64 N,.int .i64 rb,.int .u64 rs] 116)).alloc (.cells #[.int .u8 115,.int .u8 104,.int .u8 97,.int .u8 100,.int .u8 111,.int .u8 119] 5)).freeze ⟨w.heap.size+1,#[Value.int .u8 115,Value.int .u8 104,Value.int .u8 97,Value.int .u8 100,Value.int .u8 111,Value.int .u8 119].size,none⟩ 1∧
   Below w.heap.size w W1∧W1.heap[w.heap.size]?=some (.cells #[.int .u64 N,.int .i64 rb,.int .u64 rs] 116)∧(∀ j,j<6→W1.cell? ⟨w.heap.size+1,j,none⟩=some (.int .u8 (qH3.getD j 0))):=
  ⟨_,rfl,Below.freeze (((Below.refl _ _).alloc (Nat.le_refl _) _).alloc (by simp) _) (by omega) _,(zN1 (by omega) _).trans (θ _ (μ _ _)),fun j hj=>by
   rw[ξ (xK7 hM _)]
   match j,hj with
   | 0,_=>rfl
   | 1,_=>rfl
   | 2,_=>rfl
   | 3,_=>rfl
   | 4,_=>rfl
   | 5,_=>rfl⟩
 rw[←hW1];clear hW1 hM;have hs1:w.heap.size+1≤W1.heap.size:=by have:=η hH1;omega
 have c1:=ξ hH1 1;simp at c1;have HO:=zh hO1;clear hO1;go_wp2_with fail;refine (xD3 (w.heap.size+1) 6 qH3 rb 2 W1 (by omega) rfl (by omega) (by omega) hb HO.out).mono ?_;rintro e W2 ⟨v2,rfl,hO2,hB2⟩;have hH2:=(hB2.block w.heap.size (by omega)).trans hH1;have hs2:=hB2.size;have d0:=ξ hH2 0;simp at d0;have hO2':=qI8 hO2 hs1;clear c1 HO hO2;go_wp2_with fail;refine (zB0 _ (w.heap.size+1) (6+2) (qH3++qA9 2 rb) N 8 W2 (by omega) (by omega) hN (by omega) hO2').mono ?_;rintro e W3 ⟨v3,rfl,hO3,hB3⟩;have hH3:=(hB3.block w.heap.size (by omega)).trans hH2;have hs3:=hB3.size;have d2:=ξ hH3 2;simp at d2;clear d0;go_wp2_with fail;refine (zB0 _ (w.heap.size+1) (6+2+8) (qH3++qA9 2 rb++qA9 8 N) rs 8 W3 (by omega) (by omega) hr (by omega) hO3).mono ?_;rintro e W4 ⟨v4,rfl,hO4,hB4⟩;have hs4:=hB4.size;clear d2;have hS:u8s (qH3++qA9 2 rb++qA9 8 N++qA9 8 rs)=u8s (qK0 N rb rs):=rfl;rw[hS] at hO4;obtain⟨g,cap,rfl,hg,hlen,hcs⟩:=xT5 (k:=23) hO4;have HC:=zh hcs;clear hcs hS;go_wp2_with fail;refine (qZ3 g 0 24 cap (qK0 N rb rs) W4 hlen (by omega) HC.out).mono ?_;rintro e w5 ⟨rfl,rfl⟩;go_wp2_with fail;refine (zB0 _ (w.heap.size+1) 24 (qK0 N rb rs) (fnv (qK0 N rb rs)) 8 _ (by omega) (by omega) (qT1 _) (by omega) hO4).mono ?_;rintro e W6 ⟨v6,rfl,hO6,hB6⟩;go_wp2;go_ret;refine⟨_,rfl,qI8 hO6 (by omega),hK1.trans (((hB2.mono (by omega)).trans (hB3.mono (by omega))).trans ((hB4.mono (by omega)).trans (hB6.mono (by omega))))⟩
def qI5(N rb rs:Int):Value:=.agg #[.int .u64 N,.int .i64 rb,.int .u64 rs]
theorem qY8(N rb rs:Int)(w:World)(hN:0≤N):
  Calls prog 137 #[.agg #[.int .u64 N,.int .i64 rb,.int .u64 rs]] w fun e w'=>e=.returned (.int .i64 (N % 2))∧Below w.heap.size w w':=by
 go_enter func137,ntmps137;go_wp2;go_ret;exact⟨rfl,(Below.refl _ _).alloc (Nat.le_refl _) _⟩
theorem xS0(N N' a b c d:Int)(w:World)(hN:0≤N)(hN':0≤N')(hle:N≤N')(h1:N'≤1000000000):
  Calls prog 112 #[.agg #[.int .u64 N,.int .i64 a,.int .u64 b],.agg #[.int .u64 N',.int .i64 c,.int .u64 d]] w fun e w'=>e=.returned (.bool false)∧Below w.heap.size w w':=by
 have hd:decide (0<wrap64 (IntKind.u64.wrap (N-N')))=false:=by
  simp only[wrap64,IntKind.wrap_u64,decide_eq_false_iff_not];omega
 go_enter func112,ntmps112;go_wp2;go_ret;exact⟨rfl,((Below.refl _ _).alloc (Nat.le_refl _) _).alloc (by simp) _⟩
theorem qY4(N rb rs qb qs:Int)(w:World)(hN:0≤N)(h1:N≤1000000000):
  Calls prog 99 #[.agg #[.int .u64 N,.int .i64 rb,.int .u64 rs],.agg #[.int .i64 qb,.int .u64 qs]] w fun e w'=>e=.returned (.agg #[.int .u64 (N+1),.int .i64 qb,.int .u64 qs])∧Below w.heap.size w w':=by
 go_enter func99,ntmps99;go_wp2;refine bodyPost_ret (results_cell_row results99 _ _ (w.heap.size+1+1) 116 #[.int .u64 (N+1),.int .i64 qb,.int .u64 qs] (0,0) _ rfl ?_ underlying116 rfl (by kernel_rfl)) rfl ⟨rfl,(((Below.refl _ _).alloc (Nat.le_refl _) _).alloc (by simp) _).alloc (by simp;omega) _⟩;simpa using μ ((w.alloc (.cells #[.int .u64 N,.int .i64 rb,.int .u64 rs] 116)).alloc (.cells #[.int .i64 qb,.int .u64 qs] 78)) (.cells #[.int .u64 (N+1),.int .i64 qb,.int .u64 qs] 116)
theorem zX3{w:World}{g o n cap:Nat}{ca:Array Value}{tg:TypeId}{fa:Nat × Nat}{l:List UInt8}(h:w.heap[g]?=some (.cells ca tg fa))(hp:ι ca o n=enc l)(hin:o+n≤ca.size):
  Sem.run prog (convert 90 9 (.slice (some ⟨g,o,none⟩) n cap)) w=.ok (.string ⟨l.toArray⟩) w:=by
 rw[run_convert_bytes_string w _ _ _ _ _ _ underlying90 underlying5 underlying9];have hload:=qU0 (P:=prog) (o:=o) (n:=n) h hin;have e:enc l=((l.map (fun b=>(b.toNat:Int))).map (.int .u8)).toArray:=by simp[enc,qD9]
 rw[hp,e] at hload;rw[run_bytesToString w _ _ _ _ hload,zH5];simp
theorem xI8(g o n cap h o' cap':Nat)(a b:List UInt8)(w:World)(tg th:TypeId)(ca cb:Array Value)(fa fb:Nat × Nat)(ha:w.heap[g]?=some (.cells ca tg fa))(hb:w.heap[h]?=some (.cells cb th fb))
  (hpa:ι ca o n=enc a) (hpb:ι cb o' n=enc b) (hal:o+n≤ca.size) (hbl:o'+n≤cb.size):
  Calls prog 153 #[.slice (some ⟨g,o,none⟩) n cap,.slice (some ⟨h,o',none⟩) n cap'] w fun e w'=>e=.returned (.bool (a == b))∧w'=w:=by
 have h1:=zX3 (cap:=cap) ha hpa hal;have h2:=zX3 (cap:=cap') hb hpb hbl;clear ha hb hpa hpb hal hbl;go_enter func153,ntmps153;go_wp2;go_ret;exact⟨rfl,rfl⟩
def qN0:List Int→Int
 | []=>0
 | x::xs=>x+256*qN0 xs
theorem zR8:∀ xs:List Int,(∀ x∈xs,0≤x∧x<256)→0≤qN0 xs∧qN0 xs<(256:Int) ^ xs.length
 | [],_=>by simp[qN0]
 | x::xs,h=>by
  have hx:=h x (by simp);have hi:=zR8 xs (fun y hy=>h y (by simp[hy]));simp only[qN0,List.length_cons,Int.pow_succ];omega
theorem xT3(n x:Int)(hn:0≤n)(hn2:n<72057594037927936)(hx:0≤x)(hx2:x<256):bits BinOp.or .u64 (IntKind.u64.wrap (n*256)) (IntKind.u64.wrap x)=x+256*n:=by
 have e1:IntKind.u64.wrap (n*256)=n*256:=by simp only[IntKind.wrap_u64];omega
 have e2:IntKind.u64.wrap x=x:=by simp only[IntKind.wrap_u64];omega
 rw[e1,e2,u64_or _ _ (by omega) (by omega) hx (by omega)];obtain⟨a,rfl⟩:=Int.eq_ofNat_of_zero_le hn;obtain⟨b,rfl⟩:=Int.eq_ofNat_of_zero_le hx;have h1:((a:Int)*256).toNat=a <<< 8:=by rw[Nat.shiftLeft_eq];omega
 rw[h1,Int.toNat_natCast,←Nat.shiftLeft_add_eq_or_of_lt (by omega),Nat.shiftLeft_eq];omega
theorem zR7:∀ xs:List Int,(∀ x∈xs,0≤x∧x<256)→xs.length≤8→qG1 xs=qN0 xs
 | [],_,_=>rfl
 | x::xs,h,hl=>by
  have hx:=h x (by simp);have hh:∀ y∈xs,0≤y∧y<256:=fun y hy=>h y (by simp[hy]);have hb:=zR8 xs hh;have hp:(256:Int) ^ xs.length≤256 ^ 7:=by
   have h7:xs.length≤7:=by simp at hl;omega
   have e:∀ k:Nat,(256:Int) ^ k=((256 ^ k:Nat):Int):=fun k=>by rw[Int.natCast_pow];rfl
   rw[e,e];exact Int.ofNat_le.2 (Nat.pow_le_pow_right (by decide) h7)
  have hp7:(256:Int) ^ 7=72057594037927936:=by decide
  have ih:=zR7 xs hh (by simp at hl;omega);show bits BinOp.or .u64 (IntKind.u64.wrap (qG1 xs*256)) (IntKind.u64.wrap x)=_;rw[ih,xT3 _ _ hb.1 (by omega) hx.1 hx.2];rfl
theorem qJ2:∀ (k:Nat) (n:Int),∀ x∈qA9 k n,0≤x∧x<256
 | 0,_,_,h=>by simp[qA9] at h
 | k+1,n,x,h=>by
  simp only[qA9,List.mem_cons] at h;rcases h with rfl|h
  ·omega
  ·exact qJ2 k _ x h
theorem zR9:∀ (k:Nat) (n:Int),0≤n→n<(256:Int) ^ k→qN0 (qA9 k n)=n
 | 0,n,h0,h1=>by simp[qA9,qN0] at *;omega
 | k+1,n,h0,h1=>by
  rw[Int.pow_succ] at h1;have hq:n / 256<(256:Int) ^ k:=by
   generalize (256:Int) ^ k=q at *;omega
  rw[qA9,qN0,zR9 k _ (by omega) hq];omega
theorem qM9(k:Nat)(n:Int)(hk:k≤8)(h0:0≤n)(h1:n<(256:Int) ^ k):qG1 (qA9 k n)=n:=by
 rw[zR7 _ (qJ2 k n) (by rw[qF7];exact hk),zR9 k n h0 h1]
end Go.Proofs.YtdohpenfkdckiabGreatDoor
