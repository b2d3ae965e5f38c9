import Derived.Test.YtdohpenfkdckiabGreatDoorE11
import Derived.LaidEqlPtr
import Derived.RangeFuncNested
import Derived.RangeFuncBound
import Derived.RangeFuncCalls
import Derived.RangeFuncLeaves
import Derived.RangeFuncGives
import Derived.Sort.MapsRangeIn
import Derived.Shelf.Abstract
import Derived.Shelf.RegionOpen
import Derived.OwnWalkIn
import Derived.TacticsInMore
import Derived.LoopNIn
import Derived.LoopIn
import Derived.Sort.LoopGhostIn
import Derived.Maps.AppendAt
set_option linter.all false
set_option maxRecDepth 100000
set_option maxHeartbeats 20000000
namespace Go.Proofs.YtdohpenfkdckiabGreatDoor
open Go.Proofs.Tryz
open Go.RowKit
variable {κ:Nat}
theorem xB8(V A n C:Nat)(calls writes:Int)(i:Nat)(l:List UInt8)(ps:List KV)  (w:World) (hV:w.heap[V]?=some (qC7 A n)) (h:w.heap[A]?=some (qA2 κ n C (.slice none 0 0) calls writes))
  (hi:i<n) (hn:n≤1000) (hC:w.heap[C]?=some (.cells (enc l) 87)) (hs:n*128≤l.length) (hAC:C≠A) (hVA:V≠A) (hbl:χ l i=toB (qA3 0 ps [])) (hz:∀ p∈ps,qD0 p) (hm:2+meas ρ ps≤128) (hnl:ps.length≤126):
  Calls prog 122 #[.pointer (some ⟨V,0,none⟩),.agg #[.int .i64 i,.int .u64 (fnv (qA3 0 ps []))]] w fun e w'=>∃ q v,e=.returned (.tuple #[.pointer (some ⟨q,0,none⟩),.bool true])∧w'.heap[q]?=some (.cells #[.int .i64 0,v,.slice none 0 0] 152)∧w.heap.size≤q∧
   w'.ownsRow w.heap.size 158 2 v ps.length (qB0 ps)∧w'.heap[A]?=some (qA2 κ n C (.slice none 0 0) (nx calls) writes)∧Kp [A] w w':=by
 have hby:=qK2 0 ps [] (by omega) (by omega) (by simp;omega) hz (by simp);have hNL:(qA3 0 ps []).length=128:=qO5 0 ps [] (by simpa [qE1] using hm);obtain⟨E,hE⟩:∃ E,E=enc (toB (qA3 0 ps [])):=⟨_,rfl⟩;have hEs:E.size=128:=by rw[hE,qD2,qG4];exact hNL
 have hcs:=qO8 (toB (qA3 0 ps [])) 0 128 (qA3 0 ps []) hby hNL (by rw[List.drop_zero,List.take_of_length_le (by rw[qG4];exact Nat.le_of_eq hNL)]);have HLOAD:Hid (∀ W,Kp [] w W→Calls prog 151 #[.pointer (some ⟨V,0,none⟩),.int .i64 i] W fun e w'=>e=.returned (.agg E)∧w'.heap[A]?=some (qA2 κ n C (.slice none 0 0) (nx calls) writes)∧Kp [A] W w'):=fun W hK=>by
  have h:=zY8 V A n C calls writes i l W (hK.hp hV) (hK.hp h) hi hn (hK.hp hC) hs hAC hVA;rw[hbl,←hE] at h;exact h
 have HPARSE:Hid (∀ W,Calls prog 166 #[.agg E] W fun e w'=>∃ q v,e=.returned (.tuple #[.pointer (some ⟨q,0,none⟩),.bool true])∧w'.heap[q]?=some (.cells #[.int .i64 0,v,.slice none 0 0] 152)∧W.heap.size≤q∧
   w'.ownsRow W.heap.size 158 2 v ps.length (qB0 ps)∧Kp [] W w'):=fun W=>by
  have h:=xB2 ps  W hz hm hnl;rw[←hE] at h;exact h
 obtain⟨S,hS⟩:∃ S,S=fnv (qA3 0 ps []):=⟨_,rfl⟩;have HSUM:Hid (∀ W b cap,W.heap[b]?=some (.cells E 223)→Calls prog 165 #[.slice (some ⟨b,0,none⟩) 128 cap] W fun e w'=>e=.returned (.int .u64 S)∧w'=W):=fun W b cap hb=>by
  rw[hS];refine qV0 b 0 128 cap (qA3 0 ps []) W hNL (by omega) (fun j hj=>?_);rw[ξ hb,hE];exact hcs j hj
 rw[←hS];have hEb:∀ v∈E.toList,v.oneCell'=true:=by rw[hE];exact (qF8 _).one
 have HES:=zh hEs;have hAs:=ζ h;clear hcs hS hE hby hNL hz hm hbl hs hC hV h;go_enter func122,ntmps122;go_wp2_with fail;obtain⟨w0,hw0,hP0,hK0,hs0⟩:=qE5 w (.cells #[.int .i64 (i:Int),.int .u64 S] 78);rw[←hw0];clear hw0;refine (HLOAD.out w0 hK0).mono ?_;rintro e w1 ⟨rfl,hA1,hK1⟩;have hP1:=hK1.ho hP0;have hKw1:Kp [A] w w1:=(hK0.mono (by simp)).tr hK1;have hs1:=hK1.size;clear hK1 hP0 hK0 HLOAD;go_wp2_with fail;have hN:=μ w1 (.cells zeroCells223 223);rw[qI8 hN (by simp[qG2,hEs]) hEb];rw[show E.toList.toArray=E from by simp,qG9 (by rw[qG2,hEs])];obtain⟨w2,hw2,hB2,hP2,hA2,hKw2,hs2⟩:∃ w2,w2=(w1.alloc (.cells zeroCells223 223)).setRow w1.heap.size E∧w2.heap[w1.heap.size]?=some (.cells E 223)∧w2.heap[w.heap.size]?=some (.cells #[.int .i64 (i:Int),.int .u64 S] 78)∧w2.heap[A]?=some (qA2 κ n C (.slice none 0 0) (nx calls) writes)∧Kp [A] w w2∧w2.heap.size=w1.heap.size+1:=
  ⟨_,rfl,setRow_heap _ _ _ _ _ _ hN,(setRow_other _ _ _ _ (by omega)).trans (θ _ hP1),(setRow_other _ _ _ _ (by omega)).trans (θ _ hA1),(hKw1.alloc _).setRow (Or.inr (by omega)) _,by simp⟩
 rw[←hw2];clear hw2 hN hP1 hA1 hEs hEb;go_wp2_with fail;have hSd:w2.drew.heap[w1.heap.size]?=some (.cells E 223)∧w2.drew.heap[w.heap.size]?=some (.cells #[.int .i64 (i:Int),.int .u64 S] 78):=⟨hB2,hP2⟩;refine wp_region_held_drew (S:=fun W=>W.heap[w1.heap.size]?=some (.cells E 223)∧W.heap[w.heap.size]?=some (.cells #[.int .i64 (i:Int),.int .u64 S] 78)) (by kernel_rfl) hSd (fun _=>?_);refine zU 0 (.slice (some ⟨w1.heap.size,0,none⟩) 128 128) hSd ?_;refine zP 2 w.heap.size 1 hSd ?_;refine zV 3 (.int .u64 S) rfl (fun W hS=>by have a:=ξ hS.2 1;simp only[zG,zH,zI] at a;clear hS;go_simp) hSd ?_;refine zq 1 fun K hK=>?_;go_simp;refine (HSUM.out w2.drew w1.heap.size 128 hB2).mono ?_;rintro e w' ⟨rfl,hw'⟩;rw[hw'];clear hw' w';refine hK.out _ _ hSd (fun _=>?_);clear hK K
 try simp only[zZ]
 refine zU 4 (.bool false) hSd ?_;refine zd ?_;obtain⟨w3,hw3,hB3,hA3,hKw3,hs3⟩:∃ w3,w3=w2.drew∧w3.heap[w1.heap.size]?=some (.cells E 223)∧w3.heap[A]?=some (qA2 κ n C (.slice none 0 0) (nx calls) writes)∧Kp [A] w w3∧w3.heap.size=w2.heap.size:=⟨_,rfl,hB2,hA2,hKw2.drew,rfl⟩;rw[←hw3];have hpp:ι E 0 128=E:=by rw[←HES.out];simp[ι,List.take_of_length_le]
 clear hw3 hSd hB2 hP2 hA2 hKw2 hKw1
 go_wp2_with (
  with_reducible refine qL0 (t:=223) ?_ 128 ?_ w1.heap.size 0 ?_ E 223 (0,0) ?_ ?_ ?_
  ·kernel_rfl
  ·kernel_rfl
  ·rfl
  ·exact hB3
  ·have:=HES.out;omega)
 refine (HPARSE.out w3).mono ?_;rintro e w4 ⟨q,v,rfl,hq4,hql,hown4,hK4⟩;have hA4:=hK4.hp hA3;have HEND:Hid (w4.heap[q]?=some (.cells #[.int .i64 0,v,.slice none 0 0] 152)∧w.heap.size≤q∧w4.ownsRow w.heap.size 158 2 v ps.length (qB0 ps)∧w4.heap[A]?=some (qA2 κ n C (.slice none 0 0) (nx calls) writes)∧Kp [A] w w4):=⟨hq4,by omega,qH4 hown4 (by omega),hA4,hKw3.tr hK4⟩;clear hq4 hql hown4 hK4 hA4 hA3 hB3 hKw3 hpp;go_wp2
 go_ret2
 exact⟨q,v,rfl,HEND.out⟩
theorem xB7(V A n C:Nat)(calls writes:Int)(i:Nat)(l:List UInt8)(ps:List HL)(lv:Int)(hlv0:0<lv)(hlv1:lv<256)(w:World)(hV:w.heap[V]?=some (qC7 A n))(h:w.heap[A]?=some (qA2 κ n C (.slice none 0 0) calls writes))
  (hi:i<n) (hn:n≤1000) (hC:w.heap[C]?=some (.cells (enc l) 87)) (hs:n*128≤l.length) (hAC:C≠A) (hVA:V≠A) (hbl:χ l i=toB (qA3 lv [] ps)) (hz:∀ p∈ps,p.p=none∧p.key.size≤8∧0≤p.b∧p.b<65536∧0≤p.s∧p.s<18446744073709551616) (hm:2+meas qA0 ps≤128) (hnl:ps.length≤126):
  Calls prog 122 #[.pointer (some ⟨V,0,none⟩),.agg #[.int .i64 i,.int .u64 (fnv (qA3 lv [] ps))]] w fun e w'=>∃ q v,e=.returned (.tuple #[.pointer (some ⟨q,0,none⟩),.bool true])∧w'.heap[q]?=some (.cells #[.int .i64 lv,.slice none 0 0,v] 152)∧w.heap.size≤q∧
   w'.ownsRow w.heap.size 81 4 v ps.length (qA7 ps)∧w'.heap[A]?=some (qA2 κ n C (.slice none 0 0) (nx calls) writes)∧Kp [A] w w':=by
 have hby:=qK2 lv [] ps (by omega) hlv1 (by simp;omega) (by simp) (fun p hp=>(hz p hp).2.1);have hNL:(qA3 lv [] ps).length=128:=qO5 lv [] ps (by simpa [qE1] using hm);obtain⟨E,hE⟩:∃ E,E=enc (toB (qA3 lv [] ps)):=⟨_,rfl⟩;have hEs:E.size=128:=by rw[hE,qD2,qG4];exact hNL
 have hcs:=qO8 (toB (qA3 lv [] ps)) 0 128 (qA3 lv [] ps) hby hNL (by rw[List.drop_zero,List.take_of_length_le (by rw[qG4];exact Nat.le_of_eq hNL)]);have HLOAD:Hid (∀ W,Kp [] w W→Calls prog 151 #[.pointer (some ⟨V,0,none⟩),.int .i64 i] W fun e w'=>e=.returned (.agg E)∧w'.heap[A]?=some (qA2 κ n C (.slice none 0 0) (nx calls) writes)∧Kp [A] W w'):=fun W hK=>by
  have h:=zY8 V A n C calls writes i l W (hK.hp hV) (hK.hp h) hi hn (hK.hp hC) hs hAC hVA;rw[hbl,←hE] at h;exact h
 have HPARSE:Hid (∀ W,Calls prog 166 #[.agg E] W fun e w'=>∃ q v,e=.returned (.tuple #[.pointer (some ⟨q,0,none⟩),.bool true])∧w'.heap[q]?=some (.cells #[.int .i64 lv,.slice none 0 0,v] 152)∧W.heap.size≤q∧
   w'.ownsRow W.heap.size 81 4 v ps.length (qA7 ps)∧Kp [] W w'):=fun W=>by
  have h:=xB1 ps lv hlv0 hlv1 W hz hm hnl;rw[←hE] at h;exact h
 obtain⟨S,hS⟩:∃ S,S=fnv (qA3 lv [] ps):=⟨_,rfl⟩;have HSUM:Hid (∀ W b cap,W.heap[b]?=some (.cells E 223)→Calls prog 165 #[.slice (some ⟨b,0,none⟩) 128 cap] W fun e w'=>e=.returned (.int .u64 S)∧w'=W):=fun W b cap hb=>by
  rw[hS];refine qV0 b 0 128 cap (qA3 lv [] ps) W hNL (by omega) (fun j hj=>?_);rw[ξ hb,hE];exact hcs j hj
 rw[←hS];have hEb:∀ v∈E.toList,v.oneCell'=true:=by rw[hE];exact (qF8 _).one
 have HES:=zh hEs;have hAs:=ζ h;clear hcs hS hE hby hNL hz hm hbl hs hC hV h;go_enter func122,ntmps122;go_wp2_with fail;obtain⟨w0,hw0,hP0,hK0,hs0⟩:=qE5 w (.cells #[.int .i64 (i:Int),.int .u64 S] 78);rw[←hw0];clear hw0;refine (HLOAD.out w0 hK0).mono ?_;rintro e w1 ⟨rfl,hA1,hK1⟩;have hP1:=hK1.ho hP0;have hKw1:Kp [A] w w1:=(hK0.mono (by simp)).tr hK1;have hs1:=hK1.size;clear hK1 hP0 hK0 HLOAD;go_wp2_with fail;have hN:=μ w1 (.cells zeroCells223 223);rw[qI8 hN (by simp[qG2,hEs]) hEb];rw[show E.toList.toArray=E from by simp,qG9 (by rw[qG2,hEs])];obtain⟨w2,hw2,hB2,hP2,hA2,hKw2,hs2⟩:∃ w2,w2=(w1.alloc (.cells zeroCells223 223)).setRow w1.heap.size E∧w2.heap[w1.heap.size]?=some (.cells E 223)∧w2.heap[w.heap.size]?=some (.cells #[.int .i64 (i:Int),.int .u64 S] 78)∧w2.heap[A]?=some (qA2 κ n C (.slice none 0 0) (nx calls) writes)∧Kp [A] w w2∧w2.heap.size=w1.heap.size+1:=
  ⟨_,rfl,setRow_heap _ _ _ _ _ _ hN,(setRow_other _ _ _ _ (by omega)).trans (θ _ hP1),(setRow_other _ _ _ _ (by omega)).trans (θ _ hA1),(hKw1.alloc _).setRow (Or.inr (by omega)) _,by simp⟩
 rw[←hw2];clear hw2 hN hP1 hA1 hEs hEb;go_wp2_with fail;have hSd:w2.drew.heap[w1.heap.size]?=some (.cells E 223)∧w2.drew.heap[w.heap.size]?=some (.cells #[.int .i64 (i:Int),.int .u64 S] 78):=⟨hB2,hP2⟩;refine wp_region_held_drew (S:=fun W=>W.heap[w1.heap.size]?=some (.cells E 223)∧W.heap[w.heap.size]?=some (.cells #[.int .i64 (i:Int),.int .u64 S] 78)) (by kernel_rfl) hSd (fun _=>?_);refine zU 0 (.slice (some ⟨w1.heap.size,0,none⟩) 128 128) hSd ?_;refine zP 2 w.heap.size 1 hSd ?_;refine zV 3 (.int .u64 S) rfl (fun W hS=>by have a:=ξ hS.2 1;simp only[zG,zH,zI] at a;clear hS;go_simp) hSd ?_;refine zq 1 fun K hK=>?_;go_simp;refine (HSUM.out w2.drew w1.heap.size 128 hB2).mono ?_;rintro e w' ⟨rfl,hw'⟩;rw[hw'];clear hw' w';refine hK.out _ _ hSd (fun _=>?_);clear hK K
 try simp only[zZ]
 refine zU 4 (.bool false) hSd ?_;refine zd ?_;obtain⟨w3,hw3,hB3,hA3,hKw3,hs3⟩:∃ w3,w3=w2.drew∧w3.heap[w1.heap.size]?=some (.cells E 223)∧w3.heap[A]?=some (qA2 κ n C (.slice none 0 0) (nx calls) writes)∧Kp [A] w w3∧w3.heap.size=w2.heap.size:=⟨_,rfl,hB2,hA2,hKw2.drew,rfl⟩;rw[←hw3];have hpp:ι E 0 128=E:=by rw[←HES.out];simp[ι,List.take_of_length_le]
 clear hw3 hSd hB2 hP2 hA2 hKw2 hKw1
 go_wp2_with (
  with_reducible refine qL0 (t:=223) ?_ 128 ?_ w1.heap.size 0 ?_ E 223 (0,0) ?_ ?_ ?_
  ·kernel_rfl
  ·kernel_rfl
  ·rfl
  ·exact hB3
  ·have:=HES.out;omega)
 refine (HPARSE.out w3).mono ?_;rintro e w4 ⟨q,v,rfl,hq4,hql,hown4,hK4⟩;have hA4:=hK4.hp hA3;have HEND:Hid (w4.heap[q]?=some (.cells #[.int .i64 lv,.slice none 0 0,v] 152)∧w.heap.size≤q∧w4.ownsRow w.heap.size 81 4 v ps.length (qA7 ps)∧w4.heap[A]?=some (qA2 κ n C (.slice none 0 0) (nx calls) writes)∧Kp [A] w w4):=⟨hq4,by omega,qH4 hown4 (by omega),hA4,hKw3.tr hK4⟩;clear hq4 hql hown4 hK4 hA4 hA3 hB3 hKw3 hpp;go_wp2
 go_ret2
 exact⟨q,v,rfl,HEND.out⟩
theorem xR1(s x:Int):qT6 s x<18446744073709551616:=by
 unfold qT6;rw[IntKind.wrap_u64];omega
theorem zS9(xs:List Int):fnv xs<18446744073709551616:=by
 unfold fnv;rcases List.eq_nil_or_concat xs with h|⟨l,a,h⟩
 ·rw[h];decide
 ·rw[h,List.concat_eq_append,List.foldl_append];exact xR1 _ _
def Laid(N:Nat)(l:List UInt8):(n:Nat)→Nat→Int→Tn n→Prop
 | 0,b,s,t=>2≤b∧b<N∧s=fnv (qA3 0 (prs t) [])∧χ l b=toB (qA3 0 (prs t) [])∧(∀ p∈prs t,qD0 p)∧2+meas ρ (prs t)≤128∧(prs t).length≤126
 | n+1,b,s,t=>2≤b∧b<N∧n+1<6∧∃ hs:List HL,Both (RLof (fun _ _=>False) (Laid N l n)) hs (η t)∧s=fnv (qA3 ((n+1:Nat):Int) [] hs)∧χ l b=toB (qA3 ((n+1:Nat):Int) [] hs)∧(∀ h∈hs,h.key.size≤8)∧2+meas qA0 hs≤128∧hs.length≤126
theorem Laid.at{N:Nat}{l:List UInt8}:∀ {n b:Nat} {s:Int} {t:Tn n},Laid N l n b s t→2≤b∧b<N∧0≤s∧s<18446744073709551616∧n<6
 | 0,_,_,_,h=>⟨h.1,h.2.1,by rw[h.2.2.1];exact qW2 _,by rw[h.2.2.1];exact zS9 _,by omega⟩
 | _+1,_,_,_,h=>by
  obtain⟨h1,h2,h3,hs,_,h5,_⟩:=h;exact⟨h1,h2,by rw[h5];exact qW2 _,by rw[h5];exact zS9 _,h3⟩
theorem Laid.links{N:Nat}{l:List UInt8}{n:Nat}{hs:List HL}{ls:List (Lnk (Tn n))}(h:Both (RLof (fun _ _=>False) (Laid N l n)) hs ls)(hk:∀ h∈hs,h.key.size≤8)(hN:N≤1000):
  ∀ p∈hs,p.p=none∧p.key.size≤8∧0≤p.b∧p.b<65536∧0≤p.s∧p.s<18446744073709551616:=by
 intro p hp;obtain⟨i,hi,rfl⟩:=List.getElem_of_mem hp;have h1:=(h.2 i hi (by rw[←h.1];exact hi)).2;split at h1
 ·obtain⟨_,_,q,_,hf⟩:=h1;exact hf.elim
 ·obtain⟨e1,e2,e3,e4⟩:=h1;have e5:=e4.at;exact⟨e3,hk _ hp,by omega,by omega,by omega,by omega⟩
structure Devl(V A N C:Nat)(l:List UInt8)(wr:Int)(w:World):Prop where
 hV:w.heap[V]?=some (qC7 A N)
 hA:∃ calls,w.heap[A]?=some (qA2 (l.length / 128) N C (.slice none 0 0) calls wr)
 hC:w.heap[C]?=some (.cells (enc l) 87)
theorem jQ6(V A N C:Nat)(l:List UInt8)(writes:Int)(hN:N≤1000)(hs:N*128≤l.length)(hAC:C≠A)(hVA:V≠A)(n:Nat)(h r:HL)(L:Lnk (Tn n))(a:Int)(w:World)(hd:Devl V A N C l writes w)(hr:RL (Laid N l) n w h L)(hp:h.p=none)(ha:(n:Int)<a):
  Calls prog 87 #[τ V r,qC0 h,.int .i64 a] w fun e w'=>∃ q,e=.returned (.pointer (some ⟨q,0,none⟩))∧RN (Laid N l) n w' q L.sub∧Devl V A N C l writes w'∧Kp [A] w w':=by
 obtain⟨calls,hA⟩:=hd.hA;have hO:∃ b s,h.b=(b:Nat)∧h.s=s∧Laid N l n b s L.sub:=by
  have h2:=hr.2
  cases hl:L.ref with
  | none=>
   rw[hl] at h2;obtain⟨_,_,q',h3,_⟩:=h2;rw[hp] at h3;cases h3
  | some x=>
   rw[hl] at h2;exact⟨x.1,x.2,h2.1,h2.2.1,h2.2.2.2⟩
 obtain⟨b,s,hb,hss,hL⟩:=hO;have hlv:n<6:=hL.at.2.2.2.2;have HREAD:Hid (∀ W,Kp [] w W→Calls prog 122 #[.pointer (some ⟨V,0,none⟩),.agg #[.int .i64 b,.int .u64 s]] W fun e w'=>∃ q vp vl,e=.returned (.tuple #[.pointer (some ⟨q,0,none⟩),.bool true])∧w'.heap[q]?=some (υ (n:Int) vp vl)∧RN (Laid N l) n w' q L.sub∧Devl V A N C l writes w'∧Kp [A] W w'):=by
  intro W hK;have hV1:=hK.hp hd.hV;have hA1:=hK.hp hA;have hC1:=hK.hp hd.hC
  cases n with
  | zero=>
   obtain⟨g1,g2,g3,g4,g5,g6,g7⟩:=hL;rw[g3];refine (xB8 V A N C calls writes b l (prs L.sub) W hV1 hA1 g2 hN hC1 hs hAC hVA g4 g5 g6 g7).mono ?_;rintro e w' ⟨q,v,rfl,hq,_,hown,hA',hK'⟩;exact⟨q,v,.slice none 0 0,rfl,hq,⟨v,hq,qF6 hown⟩,⟨hK'.heap hV1 (by simpa using hVA),⟨_,hA'⟩,hK'.heap hC1 (by simpa using hAC)⟩,hK'⟩
  | succ n=>
   obtain⟨g1,g2,g3,hs',g4,g5,g6,g7,g8,g9⟩:=hL;rw[g5];refine (xB7 V A N C calls writes b l hs' ((n+1:Nat):Int) (by omega) (by omega) W hV1 hA1 g2 hN hC1 hs hAC hVA g6 (Laid.links g4 g7 hN) g8 g9).mono ?_;rintro e w' ⟨q,v,rfl,hq,_,hown,hA',hK'⟩;exact⟨q,.slice none 0 0,v,rfl,hq,⟨v,hq,hs',qF6 hown,⟨g4.1,fun i h1 h2=>(g4.2 i h1 h2).mono (fun _ h=>h.elim) (fun _ _ h=>h)⟩⟩,⟨hK'.heap hV1 (by simpa using hVA),⟨_,hA'⟩,hK'.heap hC1 (by simpa using hAC)⟩,hK'⟩
 have hptr:h.ptr=none:=by simp[HL.ptr,hp]
 rw[τ,qC0,hptr,hb,hss];clear hr hd hL hA hp hb hss hptr;go_enter func87,ntmps87;go_wp2_with fail;obtain⟨w0,hw0,hK0⟩:∃ w0,w0=(w.alloc (.cells #[.pointer (some ⟨V,0,none⟩),.string r.key,.int .i64 r.b,.int .u64 r.s,.pointer r.ptr] 83)).alloc (.cells #[.string h.key,.int .i64 (b:Int),.int .u64 s,.pointer none] 81)∧Kp [] w w0:=⟨_,rfl,((Kp.refl _ _).alloc _).alloc _⟩;rw[←hw0];clear hw0;refine (HREAD.out w0 hK0).mono ?_;rintro e w1 ⟨q,vp,vl,rfl,hq,hRN,hD1,hK1⟩;have hqs:=ζ hq;have c0:=ξ hq 0;simp only[υ,zG,zH,zI] at c0;have hna:¬a≤(n:Int):=by omega
 have HEND:Hid (RN (Laid N l) n w1 q L.sub∧Devl V A N C l writes w1∧Kp [A] w w1):=⟨hRN,hD1,(hK0.mono (by simp)).tr hK1⟩;clear hq hRN hD1 hK1 hK0 HREAD;go_wp2;go_ret;exact⟨q,rfl,HEND.out⟩
def EL(V A N C:Nat)(l:List UInt8)(writes:Int)(hN:N≤1000)(hs:N*128≤l.length)(hAC:C≠A)(hVA:V≠A):SEnv where
 O:=Laid N l
 V:=V
 S:=[A]
 Dev:=Devl V A N C l writes
 keep:=fun w w' L hd hK hL=>by
  obtain⟨calls,hA⟩:=hd.hA;have h1:∀ k c t fr,w.heap[k]?=some (.cells c t fr)→t ∉ zB3→k ∉ L:=fun k c t fr e ht hm=>by
   obtain⟨c',t',fr',e',h'⟩:=hL k hm;rw[e] at e';cases e';exact ht h'
  exact⟨hK.heap hd.hV (h1 _ _ _ _ hd.hV (by decide)),⟨_,hK.heap hA (h1 _ _ _ _ hA (by decide))⟩,hK.heap hd.hC (h1 _ _ _ _ hd.hC (by decide))⟩
 apt:=fun w hd k hk c t fr e=>by
  obtain⟨calls,hA⟩:=hd.hA;rw[List.mem_singleton.1 hk,hA] at e;cases e;decide
 low:=fun w hd k hk=>by
  obtain⟨calls,hA⟩:=hd.hA;rw[List.mem_singleton.1 hk];exact ζ hA
 pos:=fun n b s t h=>by have:=h.at;omega
 lvl:=fun n b s t h=>h.at.2.2.2.2
 read:=fun n h r L a w hd hr hp ha=>jQ6 V A N C l writes hN hs hAC hVA n h r L a w hd hr hp ha
 keepX:=fun w w' L hd hK hL=>by
  obtain⟨calls,hA⟩:=hd.hA;exact⟨hK.heap hd.hV (fun hm=>hL _ hm _ _ _ hd.hV (by decide)),⟨_,hK.heap hA (fun hm=>hL _ hm _ _ _ hA (by decide))⟩,hK.heap hd.hC (fun hm=>hL _ hm _ _ _ hd.hC (by decide))⟩
 offS:=fun w hd k hk=>by
  obtain⟨calls,hA⟩:=hd.hA;rw[List.mem_singleton.1 hk];exact⟨_,_,_,hA,by decide⟩
def lhl{X:Type}(l:Lnk X):HL:=⟨l.key,((l.ref.getD (0,0)).1:Int),(l.ref.getD (0,0)).2,none⟩
def qB1{X:Type}(f:Lnk X→List Nat→Lnk X × List (Nat × List UInt8) × List Nat):List (Lnk X)→List Nat→List (Lnk X) × List (Nat × List UInt8) × List Nat
 | [],fr=>([],[],fr)
 | l::ls,fr=>((f l fr).1::(qB1 f ls (f l fr).2.2).1,(f l fr).2.1++(qB1 f ls (f l fr).2.2).2.1,(qB1 f ls (f l fr).2.2).2.2)
def ψ:(n:Nat)→Lnk (Tn n)→List Nat→Lnk (Tn n) × List (Nat × List UInt8) × List Nat
 | 0,l,fr=>if l.ref.isSome then (l,[],fr) else (⟨l.key,some (fr.headD 0,fnv (qA3 0 (prs l.sub) [])),l.sub⟩,[(fr.headD 0,toB (qA3 0 (prs l.sub) []))],fr.tail)
 | n+1,l,fr=>if l.ref.isSome then (l,[],fr) else
   let r:=qB1 (ψ n) (η l.sub) fr
   (⟨l.key,some (r.2.2.headD 0,fnv (qA3 ((n+1:Nat):Int) [] (r.1.map lhl))),r.1⟩,r.2.1++[(r.2.2.headD 0,toB (qA3 ((n+1:Nat):Int) [] (r.1.map lhl)))],r.2.2.tail)
theorem zX1{X:Type}(f:Lnk X→List Nat→Lnk X × List (Nat × List UInt8) × List Nat):∀ (a:List (Lnk X)) (l:Lnk X) (fr:List Nat),
  qB1 f (a++[l]) fr=((qB1 f a fr).1++[(f l (qB1 f a fr).2.2).1],(qB1 f a fr).2.1++(f l (qB1 f a fr).2.2).2.1,(f l (qB1 f a fr).2.2).2.2)
 | [],l,fr=>by simp[qB1]
 | x::a,l,fr=>by
  have h:=zX1 f a l (f x fr).2.2;simp only[List.cons_append,qB1,h,List.append_assoc]
theorem qO4{X:Type}(f:Lnk X→List Nat→Lnk X × List (Nat × List UInt8) × List Nat)(g:Lnk X→Nat):∀ (ls:List (Lnk X)) (fr:List Nat),(∀ l∈ls,∀ fr,(f l fr).2.2=fr.drop (g l))→(qB1 f ls fr).2.2=fr.drop (meas g ls)
 | [],fr,_=>by simp[qB1,qE1]
 | l::ls,fr,h=>by
  simp only[qB1];rw[qO4 f g ls _ (fun x hx=>h x (by simp[hx])),h l (by simp),List.drop_drop,qE8]
theorem qL5:∀ (n:Nat) (l:Lnk (Tn n)) (fr:List Nat),(ψ n l fr).2.2=fr.drop (news n l)
 | 0,l,fr=>by
  simp only[ψ,news];split<;>simp
 | n+1,l,fr=>by
  simp only[ψ,news];split
  ·simp
  ·simp only;rw[qO4 (ψ n) (news n) _ fr (fun l _ fr=>qL5 n l fr),←List.drop_one,List.drop_drop]
   congr 1
   exact Nat.add_comm _ _
structure Wx(base:Nat)(S:List Nat)(w w':World):Prop where
 os:w'.os=w.os
 tape:w'.tape=w.tape
 output:w'.output=w.output
 size:w.heap.size≤w'.heap.size
 low:∀ k,k<base→k ∉ S→w'.heap[k]?=w.heap[k]?
 oth:∀ (k:Nat) (c:Array Value) (t:TypeId) (fr:Nat × Nat),w.heap[k]?=some (.cells c t fr)→t≠89→k ∉ S→w'.heap[k]?=some (.cells c t fr)
theorem Wx.trans{base:Nat}{S:List Nat}{a b c:World}(h:Wx base S a b)(k:Wx base S b c):Wx base S a c:=
 ⟨k.os.trans h.os,k.tape.trans h.tape,k.output.trans h.output,Nat.le_trans h.size k.size,fun q h1 h2=>(k.low q h1 h2).trans (h.low q h1 h2),fun q c t fr e h1 h2=>k.oth q c t fr (h.oth q c t fr e h1 h2) h1 h2⟩
theorem Wx.ofKp{base:Nat}{S:List Nat}{a b:World}(h:Kp S a b)(hb:base≤a.heap.size):Wx base S a b:=
 ⟨h.os,h.tape,h.output,h.size,fun k h1 h2=>h.block k (by omega) h2,fun k c t fr e h1 h2=>h.heap e h2⟩
theorem Wx.of{base A:Nat}{S:List Nat}{a b:World}(h:Wr base A a b)(hA:A∈S):Wx base S a b:=
 ⟨h.os,h.tape,h.output,h.size,fun k h1 h2=>h.low k h1 (fun e=>h2 (e ▸ hA)),fun k c t fr e h1 h2=>h.oth k c t fr e h1 (fun e=>h2 (e ▸ hA))⟩
theorem Wx.tail{base:Nat}{a w w':World}{S T:List Nat}(h:Wx base S a w)(hK:Kp T w w')(hT:∀ k∈T,a.heap.size≤k)(hb:base≤a.heap.size):Wx base S a w':=
 ⟨hK.os.trans h.os,hK.tape.trans h.tape,hK.output.trans h.output,Nat.le_trans h.size hK.size,fun k h1 h2=>(hK.block k (by have:=h.size;omega) (fun hm=>by have:=hT k hm;omega)).trans (h.low k h1 h2),fun k c t fr e h1 h2=>hK.heap (h.oth k c t fr e h1 h2) (fun hm=>by have:=hT k hm;have:=ζ e;omega)⟩
def ints(fr:List Nat):List Value:=fr.map (fun (b:Nat)=>Value.int .i64 (b:Int))
theorem jE6(F b:Nat)(fr:List Nat)(v:Value)(w:World)(hF:w.heap[F]?=some (.cells #[v] 22))(hv:Slc w 3 1 v (b::fr).length (ints (b::fr)))(hl:fr.length≤100000):
  Calls prog 107 #[.pointer (some ⟨F,0,none⟩)] w fun e w'=>e=.returned (.int .i64 b)∧∃ v',w'.heap[F]?=some (.cells #[v'] 22)∧Slc w' 3 1 v' fr.length (ints fr)∧Kp [F] w w':=by
 rcases hv.val with⟨h0,_⟩|⟨g,off,cap,cur,f',rfl,h1,h2,h3,h4⟩
 ·simp at h0
 have c0:=ξ hF 0;simp only[zG,zH,zI] at c0;have f0:=ω hF 0;have hFs:=ζ hF;have b0:w.cell? ⟨g,off,none⟩=some (.int .i64 (b:Int)):=by
  rw[ξ h3];exact h4 0 _ (by simp[ints])
 have hgF:g≠F:=by intro e;subst e;rw[hF] at h3;simp at h3
 obtain⟨m,hm⟩:∃ m,m=(b::fr).length:=⟨_,rfl⟩;rw[←hm] at h2 c0;have hm1:(0:Int)<(m:Int):=by omega
 have hm2:¬(m:Int)<1:=by omega
 have hm3:(1:Int)≤(m:Int):=by omega
 have HM:Hid (m=fr.length+1):=by show _=_;rw[hm];simp
 have HF:Hid (w.heap[F]?=some (.cells #[.slice (some ⟨g,off,none⟩) m cap] 22)):=by rw[hm];exact hF
 have HG:Hid (w.heap[g]?=some (.cells cur 3 f')∧∀ j u,(ints (b::fr))[j]?=some u→cur[off+j]?=some u):=⟨h3,h4⟩;have hgl:g ∉ [F]:=by simpa using hgF
 have HT:Hid (∀ o:Nat,(o=off+1∨fr=[])→∀ w',Kp [F] w w'→Slc w' 3 1 (.slice (some ⟨g,o,none⟩) (m-1) (cap-1)) fr.length (ints fr)):=by
  intro o ho w' hK;have e1:m-1=fr.length:=by have:=HM.out;omega
  rw[e1];refine⟨by simp[ints],?_⟩
  cases fr with
  | nil=>exact Or.inl ⟨rfl,_,_,rfl,by simp⟩
  | cons x fr=>
   rcases ho with rfl|h
   ·refine Or.inr ⟨g,off+1,cap-1,cur,f',rfl,by simp,by have:=HM.out;simp at this ⊢;omega,hK.heap HG.out.1 hgl,fun j u hu=>?_⟩;have h:=HG.out.2 (j+1) u (by simpa [ints] using hu);rw[show off+1+j=off+(j+1) from by omega];exact h
   ·cases h
 clear hF hv hm h3 h4;go_enter func107,ntmps107;go_wp2
 ·go_ret;have hK:Kp [F] w (w.setCell ⟨F,0,none⟩ (.slice (some ⟨g,off,none⟩) (m-1) 0)):=(Kp.refl _ _).sc _;have hc:cap=1:=by first | assumption | omega
  have h:=HT.out off (Or.inr (List.eq_nil_of_length_eq_zero (by have:=HM.out;omega))) _ hK;rw[hc] at h;exact⟨rfl,_,φ HF.out 0 _,h,hK⟩
 ·go_ret;have hK:Kp [F] w (w.setCell ⟨F,0,none⟩ (.slice (some ⟨g,off+1,none⟩) (m-1) (cap-1))):=(Kp.refl _ _).sc _;exact⟨rfl,_,φ HF.out 0 _,HT.out (off+1) (Or.inl rfl) _ hK,hK⟩
variable {κ:Nat}
theorem qV7(w:World)(a b c:Obj):∃ w0,w0=((w.alloc a).alloc b).alloc c∧w0.heap[w.heap.size]?=some a∧w0.heap[w.heap.size+1]?=some b∧w0.heap[w.heap.size+1+1]?=some c∧Kp [] w w0∧w0.heap.size=w.heap.size+3:=
 ⟨_,rfl,θ _ (θ _ (μ _ _)),θ _ (by simpa using μ (w.alloc a) b),by simpa using μ ((w.alloc a).alloc b) c,(((Kp.refl _ _).alloc _).alloc _).alloc _,by simp⟩
theorem zQ9(args:Array Value)(W:World):Sem.run prog (callFunc 107 args) W=.ok (.enter 107 args) W:=by
 simp[go_sem,func107]
theorem Slc.wx{base:Nat}{S:List Nat}{w w':World}{T:TypeId}{sz:Nat}{v:Value}{n:Nat}{cs:List Value}(h:Slc w T sz v n cs)(hW:Wx base S w w')(hT:T≠89)(hS:Apt w S [T]):Slc w' T sz v n cs:=by
 refine⟨h.len,?_⟩;rcases h.val with h|⟨g,off,cap,cur,fr,h1,h2,h3,h4,h5⟩
 ·exact .inl h
 ·exact .inr ⟨g,off,cap,cur,fr,h1,h2,h3,hW.oth _ _ _ _ h4 hT (fun hm=>hS g hm _ _ _ h4 (by simp)),h5⟩
theorem RN.wx{O:qE0}{base:Nat}{S:List Nat}{w w':World}(hW:Wx base S w w')(hS:Apt w S qF7):∀ (n:Nat) (q:Nat) (t:Tn n),RN O n w q t→RN O n w' q t
 | 0,q,t,h=>by
  obtain⟨vp,h1,h2⟩:=h;exact⟨vp,hW.oth _ _ _ _ h1 (by decide) (fun hm=>hS q hm _ _ _ h1 (by decide)),h2.wx hW (by decide) (hS.sub (by decide))⟩
 | n+1,q,t,h=>by
  obtain⟨vl,h1,hs,h2,h3⟩:=h;exact⟨vl,hW.oth _ _ _ _ h1 (by decide) (fun hm=>hS q hm _ _ _ h1 (by decide)),hs,h2.wx hW (by decide) (hS.sub (by decide)),h3.mono fun x y hr=>hr.mono (fun q hq=>RN.wx hW hS n q _ hq) (fun _ _ h=>h)⟩
variable {κ:Nat}
theorem zJ1(V:Nat)(r h:HL)(nf:Value)(w:World)(hp:h.p=none):
  Calls prog 106 #[τ V r,qC0 h,nf] w fun e w'=>e=.returned (qC0 h)∧Kp [] w w':=by
 have hptr:h.ptr=none:=by simp[HL.ptr,hp]
 rw[τ,qC0,hptr];go_enter func106,ntmps106;go_wp2;obtain⟨w0,hw0,_,_,hR0,hK0,_⟩:=qV7 w (.cells #[.pointer (some ⟨V,0,none⟩),.string r.key,.int .i64 r.b,.int .u64 r.s,.pointer r.ptr] 83) (.cells #[.string h.key,.int .i64 h.b,.int .u64 h.s,.pointer none] 81) (.cells #[.string h.key,.int .i64 h.b,.int .u64 h.s,.pointer none] 81);rw[←hw0];exact bodyPost_ret (results_cell_row results106 _ _ (w.heap.size+1+1) 81 #[.string h.key,.int .i64 h.b,.int .u64 h.s,.pointer none] (0,0) _ rfl hR0 underlying81 rfl (by kernel_rfl)) rfl ⟨rfl,hK0⟩
variable {κ:Nat}
def OkL:(n:Nat)→Lnk (Tn n)→Prop
 | 0,l=>l.key.size≤8∧(l.ref=none→(∀ p∈prs l.sub,qD0 p)∧2+meas ρ (prs l.sub)≤128∧(prs l.sub).length≤126)
 | n+1,l=>l.key.size≤8∧(l.ref=none→n+1<256∧(∀ m∈η l.sub,OkL n m)∧2+meas qA4 (η l.sub)≤128∧(η l.sub).length≤126)
def qQ8(F:Nat):Value:=.func (.func 107) #[] #[.pointer (some ⟨F,0,none⟩)]
theorem zK6{X:Type}{N:Nat→X→Prop}{O:Nat→Int→X→Prop}{h:HL}{l:Lnk X}(hr:RLof N O h l)(hl:l.ref.isSome):h.p=none∧h=lhl l:=by
 obtain⟨h1,h2⟩:=hr
 cases hx:l.ref with
 | none=>rw[hx] at hl;cases hl
 | some x=>
  rw[hx] at h2;obtain⟨e1,e2,e3,_⟩:=h2;refine⟨e3,?_⟩;cases h;simp only at h1 e1 e2 e3;subst h1 e1 e2 e3;simp[lhl,hx]
theorem zJ8{X:Type}{N:Nat→X→Prop}{O:Nat→Int→X→Prop}{h:HL}{l:Lnk X}(hr:RLof N O h l)(hl:l.ref=none):h.key=l.key∧∃ q,h.p=some q∧N q l.sub:=by
 obtain⟨h1,h2⟩:=hr;rw[hl] at h2;obtain⟨_,_,q,e1,e2⟩:=h2;exact⟨h1,q,e1,e2⟩
theorem zL1{base base':Nat}{S:List Nat}{w w':World}{e:TypeId}{sz:Nat}{v:Value}{n:Nat}{xs:List Value}(h:w.ownsRow base' e sz v n xs)(hW:Wx base S w w')(he:e≠89)(hS:Apt w S [e]):w'.ownsRow base' e sz v n xs:=by
 refine⟨h.1,?_⟩;rcases h.2 with h1|⟨g,cap,cur,h1,h2,h3,h4⟩
 ·exact Or.inl h1
 ·exact Or.inr ⟨g,cap,cur,h1,h2,hW.oth _ _ _ _ h3 he (fun hm=>hS g hm _ _ _ h3 (by simp)),h4⟩
theorem zK8{w:World}{base:Nat}{e:TypeId}{sz:Nat}{v:Value}{n:Nat}{xs:List Value}{Ts:List TypeId}(h:w.ownsRow base e sz v n xs)(hT:e ∉ Ts):Apt w v.ownBlock.toList Ts:=fun q hq c t fr e'=>by
 rcases h.2 with⟨rfl,_⟩|⟨g,cap,cur,rfl,_,h3,_⟩
 ·simp[Value.ownBlock] at hq
 ·simp only[Value.ownBlock,Option.toList_some,List.mem_singleton] at hq;rw[hq,h3] at e';cases e';exact hT
theorem qQ9{w:World}{base:Nat}{e:TypeId}{sz:Nat}{v:Value}{n:Nat}{xs:List Value}(h:w.ownsRow base e sz v n xs):∀ k,v.ownBlock=some k→base≤k∧k<w.heap.size:=fun k hk=>by
 refine⟨qH8 h k hk,?_⟩;rcases h.2 with⟨rfl,_⟩|⟨g,cap,cur,rfl,_,h3,_⟩
 ·simp[Value.ownBlock] at hk
 ·simp only[Value.ownBlock,Option.some.injEq] at hk;rw[←hk];exact ζ h3
theorem zB1{X:Type}(f:Lnk X→List Nat→Lnk X × List (Nat × List UInt8) × List Nat)(g:Lnk X→Nat):∀ (ls:List (Lnk X)) (fr:List Nat),(∀ l∈ls,∀ fr,(f l fr).2.1.length=g l)→(qB1 f ls fr).2.1.length=meas g ls
 | [],fr,_=>by simp[qB1,qE1]
 | l::ls,fr,h=>by
  simp only[qB1,List.length_append];rw[zB1 f g ls _ (fun x hx=>h x (by simp[hx])),h l (by simp),qE8]
theorem qU1:∀ (n:Nat) (l:Lnk (Tn n)) (fr:List Nat),(ψ n l fr).2.1.length=news n l
 | 0,l,fr=>by
  simp only[ψ,news];split<;>simp
 | n+1,l,fr=>by
  simp only[ψ,news];split
  ·simp
  ·simp only[List.length_append,List.length_cons,List.length_nil];rw[zB1 (ψ n) (news n) _ fr (fun l _ fr=>qU1 n l fr)];exact Nat.add_comm _ _
theorem zX3:∀ (n:Nat) (l:Lnk (Tn n)) (fr:List Nat),(ψ n l fr).1.key=l.key
 | 0,l,fr=>by
  simp only[ψ];split<;>rfl
 | n+1,l,fr=>by
  simp only[ψ];split<;>rfl
theorem zI6{X:Type}(f:Lnk X→List Nat→Lnk X × List (Nat × List UInt8) × List Nat):∀ (ls:List (Lnk X)) (fr:List Nat),(qB1 f ls fr).1.length=ls.length
 | [],fr=>rfl
 | l::ls,fr=>by simp only[qB1,List.length_cons,zI6 f ls]
theorem zB2(n:Nat):∀ (ls:List (Lnk (Tn n))) (fr:List Nat),meas qA0 ((qB1 (ψ n) ls fr).1.map lhl)=meas qA4 ls
 | [],fr=>rfl
 | l::ls,fr=>by
  simp only[qB1,List.map_cons,qE8,zB2 n ls];simp only[qA0,qA4,lhl,zX3]
theorem jC3(N n:Nat)(hN:N≤1000)(l:Lnk (Tn n))(fr:List Nat)(hk:l.key.size≤8)(hr:∀ x,l.ref=some x→x.1≤1000000∧0≤x.2)(hf:∀ b∈fr,b<N):(lhl (ψ n l fr).1).key.size≤8∧0≤(lhl (ψ n l fr).1).b∧(lhl (ψ n l fr).1).b≤1000000∧0≤(lhl (ψ n l fr).1).s:=by
 have hd:∀ g:List Nat,(∀ b∈g,b<N)→g.headD 0≤1000000:=fun g hg=>by
  cases g with
  | nil=>simp
  | cons b g=>have:=hg b (by simp);simp;omega
 have hold:∀ (m:Lnk (Tn n)),m.key.size≤8→(∀ x,m.ref=some x→x.1≤1000000∧0≤x.2)→(lhl m).key.size≤8∧0≤(lhl m).b∧(lhl m).b≤1000000∧0≤(lhl m).s:=fun m h1 h2=>by
  refine⟨h1,?_⟩;simp only[lhl]
  cases hm:m.ref with
  | none=>simp
  | some x=>have:=h2 x hm;simp only[Option.getD_some];omega
 have hnew:∀ (k:ByteArray) (t:Tn n) (b:Nat) (s:Int),k.size≤8→b≤1000000→0≤s→(lhl (⟨k,some (b,s),t⟩:Lnk (Tn n))).key.size≤8∧0≤(lhl (⟨k,some (b,s),t⟩:Lnk (Tn n))).b∧(lhl (⟨k,some (b,s),t⟩:Lnk (Tn n))).b≤1000000∧0≤(lhl (⟨k,some (b,s),t⟩:Lnk (Tn n))).s:=fun k t b s h1 h2 h3=>⟨h1,by simp only[lhl,Option.getD_some];omega⟩
 cases n with
 | zero=>
  simp only[ψ];split
  ·exact hold l hk hr
  ·exact hnew _ _ _ _ hk (hd fr hf) (qW2 _)
 | succ n=>
  simp only[ψ];split
  ·exact hold l hk hr
  ·have hg:∀ b∈(qB1 (ψ n) (η l.sub) fr).2.2,b<N:=fun b hb=>by
    rw[qO4 (ψ n) (news n) _ fr (fun l _ fr=>qL5 n l fr)] at hb;exact hf b (List.mem_of_mem_drop hb)
   exact hnew _ _ _ _ hk (hd _ hg) (qW2 _)
theorem zY4(N n:Nat)(hN:N≤1000):∀ (ls:List (Lnk (Tn n))) (fr:List Nat),(∀ l∈ls,l.key.size≤8∧∀ x,l.ref=some x→x.1≤1000000∧0≤x.2)→(∀ b∈fr,b<N)→∀ p∈(qB1 (ψ n) ls fr).1.map lhl,p.key.size≤8∧0≤p.b∧p.b≤1000000∧0≤p.s
 | [],fr,_,_=>by simp[qB1]
 | l::ls,fr,h,hf=>by
  intro p hp;simp only[qB1,List.map_cons,List.mem_cons] at hp;rcases hp with rfl|hp
  ·exact jC3 N n hN l fr (h l (by simp)).1 (h l (by simp)).2 hf
  ·exact zY4 N n hN ls _ (fun x hx=>h x (by simp[hx])) (fun b hb=>by rw[qL5] at hb;exact hf b (List.mem_of_mem_drop hb)) p hp
def Blk:(n:Nat)→Nat→Tn n→List Nat
 | 0,b,_=>[b]
 | n+1,b,t=>b::(η t).flatMap (fun m=>match m.ref with | some x=>Blk n x.1 m.sub | none=>[])
theorem Laid.move{N:Nat}{l l':List UInt8}:∀ (n b:Nat) (s:Int) (t:Tn n),Laid N l n b s t→(∀ k∈Blk n b t,χ l' k=χ l k)→Laid N l' n b s t
 | 0,b,s,t,h,hk=>by
  obtain⟨h1,h2,h3,h4,h5⟩:=h;exact⟨h1,h2,h3,(hk b (by simp[Blk])).trans h4,h5⟩
 | n+1,b,s,t,h,hk=>by
  obtain⟨h1,h2,h3,hs,h4,h5,h6,h7⟩:=h;refine⟨h1,h2,h3,hs,⟨h4.1,fun i g1 g2=>?_⟩,h5,(hk b (by simp[Blk])).trans h6,h7⟩;have hr:=h4.2 i g1 g2;refine⟨hr.1,?_⟩;have hr2:=hr.2
  cases hx:(η t)[i].ref with
  | none=>rw[hx] at hr2;exact hr2
  | some x=>
   rw[hx] at hr2;refine⟨hr2.1,hr2.2.1,hr2.2.2.1,Laid.move n x.1 x.2 _ hr2.2.2.2 (fun k hm=>hk k ?_)⟩;simp only[Blk,List.mem_cons,List.mem_flatMap];exact Or.inr ⟨(η t)[i],List.getElem_mem g2,by rw[hx];exact hm⟩
theorem qQ3(l b:List UInt8)(i k n:Nat)(hb:b.length=128)(hl:n*128≤l.length)(hi:i<n)(hk:k≠i):χ (qB6 l i b) k=χ l k:=by
 refine List.ext_getElem? fun j=>?_;simp only[χ,qB6,List.getElem?_take,List.getElem?_drop];split
 ·rename_i hj;rw[List.append_assoc,List.getElem?_append];split
  ·rename_i h1;rw[List.getElem?_take];simp only[List.length_take] at h1;rw[if_pos (by omega)]
  ·rename_i h1;simp only[List.length_take] at h1 ⊢;rw[List.getElem?_append,if_neg (by omega),List.getElem?_drop]
   congr 1
   omega
 ·rfl
theorem qR8(l b:List UInt8)(i n:Nat)(hb:b.length=128)(hl:n*128≤l.length)(hi:i<n):χ (qB6 l i b) i=b:=by
 exact zF0 l i b hb (by omega)
theorem zP8(n k:Nat)(ws:List (Nat × List UInt8)):∀ (l:List UInt8),n*128≤l.length→(∀ x∈ws,x.1<n∧x.2.length=128)→k ∉ ws.map Prod.fst→χ (laidAll l ws) k=χ l k:=by
 induction ws with
 | nil=>intro l _ _ _;rfl
 | cons a ws ih=>
  intro l hl hw hk;simp only[List.map_cons,List.mem_cons,not_or] at hk;have h1:=hw a (by simp);refine (ih (qB6 l a.1 a.2) (qX5 l a.2 a.1 n h1.2 hl h1.1) (fun x hx=>hw x (by simp[hx])) hk.2).trans ?_;exact qQ3 l a.2 a.1 k n h1.2 hl h1.1 hk.1
theorem xI3(n:Nat)(ws:List (Nat × List UInt8))(x:Nat × List UInt8):∀ (l:List UInt8),n*128≤l.length→(∀ x∈ws,x.1<n∧x.2.length=128)→(ws.map Prod.fst).Nodup→x∈ws→χ (laidAll l ws) x.1=x.2:=by
 induction ws with
 | nil=>intro l _ _ _ h;cases h
 | cons a ws ih=>
  intro l hl hw hn hx;simp only[List.map_cons,List.nodup_cons] at hn;have h1:=hw a (by simp);have hl2:=qX5 l a.2 a.1 n h1.2 hl h1.1;rcases List.mem_cons.1 hx with rfl|hx
  ·exact (zP8 n x.1 ws (qB6 l x.1 x.2) hl2 (fun y hy=>hw y (by simp[hy])) hn.1).trans (qR8 l x.2 x.1 n h1.2 hl h1.1)
  ·exact ih (qB6 l a.1 a.2) hl2 (fun y hy=>hw y (by simp[hy])) hn.2 hx
def qK4(N:Nat)(l:List UInt8):(n:Nat)→Lnk (Tn n)→Prop
 | 0,L=>∀ x,L.ref=some x→Laid N l 0 x.1 x.2 L.sub
 | n+1,L=>(∀ x,L.ref=some x→Laid N l (n+1) x.1 x.2 L.sub)∧(L.ref=none→∀ m∈η L.sub,qK4 N l n m)
def qH9:(n:Nat)→Lnk (Tn n)→List Nat
 | 0,L=>match L.ref with | some x=>Blk 0 x.1 L.sub | none=>[]
 | n+1,L=>match L.ref with | some x=>Blk (n+1) x.1 L.sub | none=>(η L.sub).flatMap (qH9 n)
def zO0(N:Nat)(l l':List UInt8)(n:Nat):Prop:=∀ (L:Lnk (Tn n)) (fr:List Nat),qK4 N l n L→OkL n L→n<6→(∀ b∈fr,2≤b∧b<N)→news n L≤fr.length→(∀ x∈(ψ n L fr).2.1,χ l' x.1=x.2)→(∀ k∈qH9 n L,χ l' k=χ l k)→
 ∃ x,(ψ n L fr).1.ref=some x∧Laid N l' n x.1 x.2 (ψ n L fr).1.sub
theorem zW5(N:Nat)(l l':List UInt8)(n:Nat)(IH:zO0 N l l' n)(hn:n<6):∀ (ls:List (Lnk (Tn n))) (fr:List Nat),(∀ m∈ls,qK4 N l n m∧OkL n m)→(∀ b∈fr,2≤b∧b<N)→meas (news n) ls≤fr.length→(∀ x∈(qB1 (ψ n) ls fr).2.1,χ l' x.1=x.2)→(∀ k∈ls.flatMap (qH9 n),χ l' k=χ l k)→
  ∀ m∈(qB1 (ψ n) ls fr).1,∃ x,m.ref=some x∧Laid N l' n x.1 x.2 m.sub
 | [],_,_,_,_,_,_=>by intro m hm;cases hm
 | a::ls,fr,h,hf,hm,hx,hk=>by
  rw[qE8] at hm;intro m hmm;simp only[qB1,List.mem_cons] at hmm;simp only[qB1,List.mem_append] at hx;rcases hmm with rfl|hmm
  ·exact IH a fr (h a (by simp)).1 (h a (by simp)).2 hn hf (by omega) (fun x hh=>hx x (Or.inl hh)) (fun k hh=>hk k (by simp only[List.flatMap_cons,List.mem_append];exact Or.inl hh))
  ·have e:=qL5 n a fr;exact zW5 N l l' n IH hn ls _ (fun m hm=>h m (by simp[hm])) (fun b hb=>by rw[e] at hb;exact hf b (List.mem_of_mem_drop hb)) (by rw[e,List.length_drop];omega) (fun x hh=>hx x (Or.inr hh)) (fun k hh=>hk k (by simp only[List.flatMap_cons,List.mem_append];exact Or.inr hh)) m hmm
theorem jF2{n:Nat}{m:Lnk (Tn n)}(h:OkL n m):m.key.size≤8:=by
 cases n with
 | zero=>exact h.1
 | succ n=>exact h.1
theorem zX0(n:Nat):∀ (ls:List (Lnk (Tn n))) (fr:List Nat),(∀ m∈ls,m.key.size≤8)→∀ m∈(qB1 (ψ n) ls fr).1,m.key.size≤8
 | [],_,_=>by intro m hm;cases hm
 | a::ls,fr,h=>by
  intro m hm;simp only[qB1,List.mem_cons] at hm;rcases hm with rfl|hm
  ·rw[zX3];exact h a (by simp)
  ·exact zX0 n ls _ (fun m hm=>h m (by simp[hm])) m hm
theorem Laid.leaf{N b:Nat}{l:List UInt8}{t:Tn 0}(h1:2≤b∧b<N)(h4:χ l b=toB (qA3 0 (prs t) []))(h5:(∀ p∈prs t,qD0 p)∧2+meas ρ (prs t)≤128∧(prs t).length≤126):Laid N l 0 b (fnv (qA3 0 (prs t) [])) t:=⟨h1.1,h1.2,Eq.refl _,h4,h5⟩
theorem Laid.branch{N b n:Nat}{l:List UInt8}{t:Tn (n+1)}(hs:List HL)(h1:2≤b∧b<N)(h2:n+1<6)(h3:Both (RLof (fun _ _=>False) (Laid N l n)) hs (η t))(h4:χ l b=toB (qA3 ((n+1:Nat):Int) [] hs))(h5:(∀ h∈hs,h.key.size≤8)∧2+meas qA0 hs≤128∧hs.length≤126):Laid N l (n+1) b (fnv (qA3 ((n+1:Nat):Int) [] hs)) t:=⟨h1.1,h1.2,h2,hs,h3,Eq.refl _,h4,h5⟩
theorem jC4{X:Type}(m:Lnk X)(x:Nat × Int)(h:m.ref=some x):(lhl m).b=(x.1:Int)∧(lhl m).s=x.2:=by
 simp only[lhl,h,Option.getD_some,and_self]
theorem zW6(N:Nat)(l l':List UInt8):∀ n,zO0 N l l' n
 | 0=>by
  intro L fr ho hok _ hf hn hx hk
  cases hr:L.ref with
  | some x=>
   have hs:L.ref.isSome:=by rw[hr];rfl
   have e:ψ 0 L fr=(L,[],fr):=by simp only[ψ,if_pos hs]
   rw[e];refine⟨x,hr,Laid.move 0 x.1 x.2 L.sub (ho x hr) (fun k hm=>hk k ?_)⟩;simp only[qH9,hr];exact hm
  | none=>
   have hns:¬L.ref.isSome=true:=by rw[hr];simp
   have h1:news 0 L=1:=by simp only[news,if_neg hns]
   cases fr with
   | nil=>rw[h1] at hn;simp at hn
   | cons b fr=>
    have e:ψ 0 L (b::fr)=(⟨L.key,some (b,fnv (qA3 0 (prs L.sub) [])),L.sub⟩,[(b,toB (qA3 0 (prs L.sub) []))],fr):=by simp only[ψ,if_neg hns,List.headD_cons,List.tail_cons]
    rw[e] at hx ⊢;obtain⟨z1,z2,z3⟩:=hok.2 hr;have hbx:=hx (b,toB (qA3 0 (prs L.sub) [])) (List.mem_singleton.2 rfl);have hL:Laid N l' 0 b (fnv (qA3 0 (prs L.sub) [])) L.sub:=Laid.leaf (hf b (by simp)) hbx ⟨z1,z2,z3⟩;generalize fnv (qA3 0 (prs L.sub) [])=s at hL ⊢;exact⟨(b,s),rfl,hL⟩
 | n+1=>by
  intro L fr ho hok hlv hf hn hx hk
  cases hr:L.ref with
  | some x=>
   have hs:L.ref.isSome:=by rw[hr];rfl
   have e:ψ (n+1) L fr=(L,[],fr):=by simp only[ψ,if_pos hs]
   rw[e];refine⟨x,hr,Laid.move (n+1) x.1 x.2 L.sub (ho.1 x hr) (fun k hm=>hk k ?_)⟩;simp only[qH9,hr];exact hm
  | none=>
   have hns:¬L.ref.isSome=true:=by rw[hr];simp
   have h1:news (n+1) L=1+meas (news n) (η L.sub):=by simp only[news,if_neg hns]
   have hfree:=qO4 (ψ n) (news n) (η L.sub) fr (fun l _ fr=>qL5 n l fr);obtain⟨z1,z2,z3,z4⟩:=hok.2 hr
   cases hfr:(qB1 (ψ n) (η L.sub) fr).2.2 with
   | nil=>
    have h2:=congrArg List.length hfree;rw[hfr,List.length_drop] at h2;simp at h2;omega
   | cons b fr'=>
    have e:ψ (n+1) L fr=(⟨L.key,some (b,fnv (qA3 ((n+1:Nat):Int) [] ((qB1 (ψ n) (η L.sub) fr).1.map lhl))),(qB1 (ψ n) (η L.sub) fr).1⟩,(qB1 (ψ n) (η L.sub) fr).2.1++[(b,toB (qA3 ((n+1:Nat):Int) [] ((qB1 (ψ n) (η L.sub) fr).1.map lhl)))],fr'):=by
     simp only[ψ,if_neg hns,hfr,List.headD_cons,List.tail_cons]
    rw[e] at hx ⊢;have hb:b∈fr:=by rw[hfr] at hfree;exact List.mem_of_mem_drop (hfree ▸ List.mem_cons_self)
    have hall:=zW5 N l l' n (zW6 N l l' n) (by omega) (η L.sub) fr (fun m hm=>⟨ho.2 hr m hm,z2 m hm⟩) hf (by omega) (fun x hh=>hx x (List.mem_append_left _ hh)) (fun k hh=>hk k (by simp only[qH9,hr];exact hh));have hkeys:=zX0 n (η L.sub) fr (fun m hm=>jF2 (z2 m hm));have hms:=zB2 n (η L.sub) fr;have hlen:=zI6 (ψ n) (η L.sub) fr;have hbx:=hx (b,toB (qA3 ((n+1:Nat):Int) [] ((qB1 (ψ n) (η L.sub) fr).1.map lhl))) (List.mem_append_right _ (List.mem_singleton.2 rfl));generalize qB1 (ψ n) (η L.sub) fr=R at hall hkeys hms hlen hbx ⊢;have hL:Laid N l' (n+1) b (fnv (qA3 ((n+1:Nat):Int) [] (R.1.map lhl))) R.1:=by
     refine Laid.branch (R.1.map lhl) (hf b hb) hlv ⟨by rw[List.length_map];rfl,fun i g1 g2=>?_⟩ hbx ⟨?_,by rw[hms];exact z3,by rw[List.length_map,hlen];exact z4⟩
     ·rw[List.getElem_map];obtain⟨x,e1,e2⟩:=hall _ (List.getElem_mem g2);refine⟨rfl,?_⟩;have e3:((η (n:=n) R.1)[i]'g2).ref=some x:=e1;rw[e3];have e4:=jC4 _ x e1;exact⟨e4.1,e4.2,rfl,e2⟩
     ·intro p hp;obtain⟨m,hm,rfl⟩:=List.mem_map.1 hp;exact hkeys m hm
    clear hx hbx;generalize fnv (qA3 ((n+1:Nat):Int) [] (R.1.map lhl))=s at hL ⊢;exact⟨(b,s),rfl,hL⟩
theorem zI5{X:Type}(f:Lnk X→List Nat→Lnk X × List (Nat × List UInt8) × List Nat)(g:Lnk X→Nat):∀ (ls:List (Lnk X)) (fr:List Nat),(∀ l∈ls,∀ fr:List Nat,g l≤fr.length→(f l fr).2.1.map Prod.fst=fr.take (g l)∧(f l fr).2.2=fr.drop (g l))→meas g ls≤fr.length→(qB1 f ls fr).2.1.map Prod.fst=fr.take (meas g ls)
 | [],fr,_,_=>by simp[qB1,qE1]
 | l::ls,fr,h,hm=>by
  rw[qE8] at hm ⊢;obtain⟨h1,h2⟩:=h l (by simp) fr (by omega);simp only[qB1,List.map_append];rw[zI5 f g ls _ (fun x hx=>h x (by simp[hx])) (by rw[h2,List.length_drop];omega),h1,h2,List.take_add]
theorem qW7:∀ (n:Nat) (l:Lnk (Tn n)) (fr:List Nat),news n l≤fr.length→(ψ n l fr).2.1.map Prod.fst=fr.take (news n l)
 | 0,l,fr,h=>by
  by_cases hr:l.ref.isSome=true
  ·simp only[ψ,news,if_pos hr,List.map_nil,List.take_zero]
  ·simp only[ψ,news,if_neg hr] at h ⊢
   cases fr with
   | nil=>simp at h
   | cons b fr=>simp
 | n+1,l,fr,h=>by
  by_cases hr:l.ref.isSome=true
  ·simp only[ψ,news,if_pos hr,List.map_nil,List.take_zero]
  ·simp only[ψ,news,if_neg hr] at h ⊢;have h1:=zI5 (ψ n) (news n) (η l.sub) fr (fun l _ fr hl=>⟨qW7 n l fr hl,qL5 n l fr⟩) (by have:meas (fun m=>news n m) (η l.sub)=meas (news n) (η l.sub):=rfl;omega);have h2:=qO4 (ψ n) (news n) (η l.sub) fr (fun l _ fr=>qL5 n l fr);rw[List.map_append,h1,h2];simp only[List.map_cons,List.map_nil];have e:meas (fun m=>news n m) (η l.sub)=meas (news n) (η l.sub):=rfl;rw[e] at h ⊢;generalize meas (news n) (η l.sub)=k at h ⊢;rw[Nat.add_comm 1 k,List.take_succ_eq_append_getElem (by omega),List.drop_eq_getElem_cons (by omega)];rfl
theorem zI9:∀ (n:Nat) (l:Lnk (Tn n)) (fr:List Nat),OkL n l→∀ x∈(ψ n l fr).2.1,x.2.length=128
 | 0,l,fr,h,x,hx=>by
  by_cases hr:l.ref.isSome=true
  ·simp[ψ,if_pos hr] at hx
  ·simp only[ψ,if_neg hr,List.mem_singleton] at hx;obtain⟨z1,z2,z3⟩:=h.2 (by simpa using hr);rw[hx];simp only[qG4];exact qO5 0 _ [] (by simpa [qE1] using z2)
 | n+1,l,fr,h,x,hx=>by
  by_cases hr:l.ref.isSome=true
  ·simp[ψ,if_pos hr] at hx
  ·simp only[ψ,if_neg hr,List.mem_append,List.mem_singleton] at hx;obtain⟨z1,z2,z3,z4⟩:=h.2 (by simpa using hr);rcases hx with hx|hx
   ·have go:∀ (ls:List (Lnk (Tn n))) (fr:List Nat),(∀ m∈ls,OkL n m)→∀ x∈(qB1 (ψ n) ls fr).2.1,x.2.length=128:=by
     intro ls
     induction ls with
     | nil=>intro fr _ x hx;simp[qB1] at hx
     | cons a ls ih=>
      intro fr hk x hx;simp only[qB1,List.mem_append] at hx;rcases hx with hx|hx
      ·exact zI9 n a fr (hk a (by simp)) x hx
      ·exact ih _ (fun m hm=>hk m (by simp[hm])) x hx
    exact go _ fr z2 x hx
   ·rw[hx];simp only[qG4];exact qO5 _ [] _ (by rw[zB2,qE1];omega)
theorem zI8:∀ (n:Nat) (l:Lnk (Tn n)) (fr:List Nat),cont n (ψ n l fr).1.sub=cont n l.sub
 | 0,l,fr=>by
  by_cases hr:l.ref.isSome=true
  ·simp only[ψ,if_pos hr]
  ·simp only[ψ,if_neg hr]
 | n+1,l,fr=>by
  by_cases hr:l.ref.isSome=true
  ·simp only[ψ,if_pos hr]
  ·simp only[ψ,if_neg hr];have go:∀ (ls:List (Lnk (Tn n))) (fr:List Nat),(qB1 (ψ n) ls fr).1.flatMap (fun m=>cont n m.sub)=ls.flatMap (fun m=>cont n m.sub):=by
    intro ls
    induction ls with
    | nil=>intro fr;rfl
    | cons a ls ih=>
     intro fr;simp only[qB1,List.flatMap_cons,ih,zI8 n a fr]
   exact go _ fr
end Go.Proofs.YtdohpenfkdckiabGreatDoor
namespace Go.Proofs.YtdohpenfkdckiabGreatDoor
open Go.Proofs.Tryz
open Go.RowKit
open Go.Maps (Keyed)
open Go.ChangeMaps
def qS0(k:Nat):Lit:=.int .i64 (k:Int)
theorem zV6{k:Nat}(h:k≤1000000):keyOf prog 3 (.int .i64 (k:Int))=some (qS0 k):=
 Maps.keyOf_int_mk underlying3 (by simp[Lit.wf,IntKind.min,IntKind.max,IntKind.signed,IntKind.bits];omega)
theorem zH9:Keyed prog 3:=Maps.int_keyed underlying3
theorem xX4(k:Nat):WideAt.IsKeyLit (qS0 k):=by simp[WideAt.IsKeyLit,qS0]
theorem xX5{a b:Nat}(h:a≠b):qS0 a≠qS0 b:=by
 intro e;simp only[qS0,Lit.int.injEq,true_and] at e;omega
def BS(w:World)(M c:Nat)(ks:List Nat):Prop:=∃ n D,w.ownsMap prog 3 (unitElem (H:=Unit)) M n D∧n≤c∧Maps.size D=ks.length∧∀ k:Nat,Maps.has D (qS0 k)=decide (k∈ks)
theorem BS.made(w:World):BS (w.alloc (.map #[] 0)) w.heap.size 0 []:=⟨0,.map [],World.ownsMap_made w _ _ _,Nat.le_refl _,rfl,fun k=>by simp[Maps.has]⟩
theorem BS.kp{S:List Nat}{w w':World}{M c:Nat}{ks:List Nat}(h:BS w M c ks)(hK:Kp S w w')(hM:M ∉ S):BS w' M c ks:=by
 obtain⟨n,D,⟨es,cl,hb,hf⟩,h2⟩:=h;exact⟨n,D,⟨es,cl,hK.heap hb hM,hf⟩,h2⟩
theorem BS.len{w:World}{M c:Nat}{ks:List Nat}(h:BS w M c ks)(ty:TypeId):(Builtin.len_ #[171] ty #[.map (some M)]).run prog w=.ok (.int .i64 (ks.length:Int)) w:=by
 obtain⟨n,D,h1,h2,h3,h4⟩:=h;rw[←h3];exact World.ownsMap.len h1 underlying171 ty
theorem BS.store{w:World}{M c b:Nat}{ks:List Nat}(h:BS w M c ks)(hb:b≤1000000)(hc:c≤1000000):
  ∃ w',(Instr.mapUpdate 171 (.map (some M)) (.int .i64 (b:Int)) (.agg #[])).run prog w=.ok () w'∧BS w' M (c+1) (if b∈ks then ks else b::ks)∧Kp [M] w w':=by
 obtain⟨n,D,h1,h2,h3,h4⟩:=h;obtain⟨w',g1,g2,g3⟩:=World.ownsMap.store h1 zH9 underlying171 (by simp[maxLen];omega) (zV6 hb) (unitElem_mk (H:=Unit));refine⟨w',g1,⟨n+1,_,g2,by omega,?_,fun k=>?_⟩,Kp.turned g3⟩
 ·rw[Maps.size_put (h1.tidy zH9),h4 b,h3];by_cases hm:b∈ks<;>simp[hm]
 ·by_cases hk:k=b
  ·rw[hk,Maps.has_put_same h1.isMap (xX4 b)];by_cases hm:b∈ks<;>simp[hm]
  ·rw[Maps.has_put_other (xX5 hk),h4 k];by_cases hm:b∈ks<;>simp[hm,hk]
theorem BS.look{w:World}{M c k:Nat}{ks:List Nat}(h:BS w M c ks)(hk:k≤1000000):
  (Instr.lookup 171 (.map (some M)) (.int .i64 (k:Int)) true).run prog w=.ok (.tuple #[.agg #[],.bool (decide (k∈ks))]) w:=by
 obtain⟨n,D,h1,h2,h3,h4⟩:=h;obtain⟨v,ps,g1,g2⟩:=World.ownsMap.look_ok h1 zH9 underlying171 (z:=.agg #[]) (by kernel_rfl) (unitElem_mk (H:=Unit)) (zV6 hk);obtain⟨rfl,_⟩:=unitElem_inv g2;rw[g1,h4]
def zA5(ks:List Nat)(b:Nat):List Nat:=if b∈ks then ks else b::ks
theorem xJ2(M c b:Nat)(ks:List Nat)(h:HL)(w:World)(hM:BS w M c ks)(hp:h.p=none)(hb:h.b=(b:Int))(hb1:b≤1000000)(hc:c≤1000000)(hk:ks.length≤1000000):
  Calls prog 144 #[.map (some M),qC0 h] w fun e w'=>e=.returned (.bool (decide (b ∉ ks)))∧BS w' M (c+1) (zA5 ks b)∧Kp [M] w w':=by
 have hptr:h.ptr=none:=by simp[HL.ptr,hp]
 obtain⟨n,D,⟨es,cl,hmb,hf⟩,h2⟩:=hM;have hMs:=ζ hmb;have HM:Hid (BS w M c ks):=⟨n,D,⟨es,cl,hmb,hf⟩,h2⟩;rw[qC0,hptr,hb];obtain⟨w0,hw0,hL0,hK0,hs0⟩:=qE5 w (.cells #[.string h.key,.int .i64 (b:Int),.int .u64 h.s,.pointer none] 81);have hM0:=HM.out.kp hK0 (by simp);have hlen:=hM0.len 3;obtain⟨w1,hr1,hM1,hK1⟩:=hM0.store hb1 hc;have hlen1:=hM1.len 3;clear hmb hf h2;go_enter func144,ntmps144;go_wp2_with fail;rw[←hw0,hlen];have hLs:=ζ hL0;have c1:=ξ hL0 1;simp only[zG,zH,zI] at c1;have HL:=zh hk;obtain⟨k0,hk0⟩:∃ k0,k0=ks.length:=⟨_,rfl⟩;obtain⟨k1,hk1⟩:∃ k1,k1=(if b∈ks then ks else b::ks).length:=⟨_,rfl⟩;rw[←hk0];rw[←hk1] at hlen1;have HK:Hid (k0=ks.length∧k1=(if b∈ks then ks else b::ks).length):=⟨hk0,hk1⟩;have HEND:Hid (BS w1 M (c+1) (zA5 ks b)∧Kp [M] w w1):=⟨hM1,(hK0.mono (by simp)).tr hK1⟩;clear hM1 hK1 hK0 hL0 hlen hM0 hk hk0 hk1 hw0;go_wp2;go_ret;refine⟨?_,HEND.out⟩;have h:=HK.out;by_cases hm:b∈ks
 ·simp only[hm,if_true] at h;simp[hm,h.1,h.2]
 ·simp only[hm,if_false,List.length_cons] at h;simp only[hm,not_false_eq_true,decide_true];rw[h.1,h.2];simp
end Go.Proofs.YtdohpenfkdckiabGreatDoor
namespace Go.Proofs.YtdohpenfkdckiabGreatDoor
open Go.Proofs.Tryz
open Go.RowKit
open Go.ChangeMaps
theorem BS.mono{w:World}{M c c':Nat}{ks:List Nat}(h:BS w M c ks)(hc:c≤c'):BS w M c' ks:=by
 obtain⟨n,D,h1,h2,h3⟩:=h;exact⟨n,D,h1,by omega,h3⟩
theorem BS.card{w:World}{M c:Nat}{ks:List Nat}(h:BS w M c ks):ks.length≤c:=by
 obtain⟨n,D,h1,h2,h3,_⟩:=h;have:=h1.size_le;omega
theorem BS.at{w:World}{M c:Nat}{ks:List Nat}(h:BS w M c ks):∃ es cl,w.heap[M]?=some (.map es cl):=by
 obtain⟨n,D,⟨es,cl,hb,hf⟩,h2⟩:=h;exact⟨es,cl,hb⟩
def qG8{X:Type}(f:X→List Nat→List Nat)(ks:List Nat)(m:Lnk X):List Nat:=match m.ref with
 | none=>f m.sub ks
 | some x=>if x.1∈ks then ks else f m.sub (x.1::ks)
def qF4:(n:Nat)→Tn n→List Nat→List Nat
 | 0,_,ks=>ks
 | n+1,t,ks=>(η t).foldl (qG8 (qF4 n)) ks
theorem xJ1(M:Nat)(h:HL)(q:Nat)(w:World)(hp:h.p=some q):
  Calls prog 144 #[.map (some M),qC0 h] w fun e w'=>e=.returned (.bool true)∧Kp [] w w':=by
 have hptr:h.ptr=some ⟨q,0,none⟩:=by simp[HL.ptr,hp]
 rw[qC0,hptr];go_enter func144,ntmps144;go_wp2;go_ret;exact⟨rfl,(Kp.refl _ _).alloc _⟩
theorem zQ3{E:SEnv}(hO:∀ (n b:Nat) (s:Int) (t:Tn n),E.O n b s t→b≤1000000)(n M c:Nat)(ks:List Nat)(h:HL)(m:Lnk (Tn n))(w:World)(hM:BS w M c ks)(hr:RL E.O n w h m)(hc:c≤1000000):
  Calls prog 144 #[.map (some M),qC0 h] w fun e w'=>∃ go ks1,e=.returned (.bool go)∧BS w' M (c+1) ks1∧Kp [M] w w'∧(∀ f:Tn n→List Nat→List Nat,qG8 f ks m=if go then f m.sub ks1 else ks1):=by
 cases hx:m.ref with
 | none=>
  obtain⟨hk,q,hp,hq⟩:=zJ8 hr hx;refine (xJ1 M h q w hp).mono ?_;rintro e w' ⟨rfl,hK⟩;exact⟨true,ks,rfl,(hM.kp hK (by simp)).mono (by omega),hK.mono (by simp),fun f=>by simp[qG8,hx]⟩
 | some x=>
  obtain⟨hp,he⟩:=zK6 hr (by rw[hx];rfl);have h2:=hr.2;rw[hx] at h2;refine (xJ2 M c x.1 ks h w hM hp h2.1 (hO _ _ _ _ h2.2.2.2) hc (by have:=hM.card;omega)).mono ?_;rintro e w' ⟨rfl,h3,h4⟩;refine⟨_,_,rfl,h3,h4,fun f=>?_⟩;by_cases hm:x.1∈ks
  ·simp[qG8,hx,zA5,hm]
  ·simp[qG8,hx,zA5,hm]
def qB9(N:Nat)(ks:List Nat):List Nat:=(List.range' 2 (N-2)).filter (fun k=>decide (k ∉ ks))
theorem xS1(ks:List Nat)(i:Nat):qB9 (2+(i+1)) ks=qB9 (2+i) ks++(if 2+i∈ks then [] else [2+i]):=by
 unfold qB9;rw[show 2+(i+1)-2=i+1 from by omega,show 2+i-2=i from by omega,List.range'_concat,List.filter_append]
 congr 1
 by_cases h:2+i∈ks<;>simp[h]
theorem xS2(ks:List Nat)(k:Nat)(h:2≤k):qB9 (k+1) ks=qB9 k ks++(if k∈ks then [] else [k]):=by
 have e:=xS1 ks (k-2);rw[show 2+(k-2+1)=k+1 from by omega,show 2+(k-2)=k from by omega] at e;exact e
theorem zT2(N:Nat)(ks:List Nat):(qB9 N ks).length≤N:=by
 unfold qB9;refine Nat.le_trans (List.length_filter_le _ _) ?_;simp
theorem xV6(a:List Nat)(b:Nat):ints (a++[b])=ints a++[.int .i64 (b:Int)]:=by simp[ints]
theorem zU5:(prog.info? 3).map (fun i=>(i.zero,i.size,i.bytes))=some (some (.int .i64 0),1,8):=by kernel_rfl
theorem jJ9(M c V A N:Nat)(ks:List Nat)(w:World)(hM:BS w M c ks)(hV:w.heap[V]?=some (qC7 A N))(hN2:2≤N)(hN:N≤1000):
  Calls prog 103 #[.map (some M),.pointer (some ⟨V,0,none⟩)] w fun e w'=>∃ v,e=.returned v∧Slc w' 3 1 v (qB9 N ks).length (ints (qB9 N ks))∧Kp [] w w':=by
 obtain⟨i0,hi,hz0,hz1,hz2⟩:=info_parts zU5;have HM:=zh hM;have HV:=zh hV;clear hM hV;go_enter func103,ntmps103;go_wp2_with fail
 go_loopw [5,6] (fun s i wr=>∃ (k:Nat),2≤k∧k≤N∧i=.int .i64 (k:Int)∧Hid (wr.ownsRow w.heap.size 3 1 s (qB9 k ks).length (ints (qB9 k ks)))∧Hid (Kp [] w wr)) (fun _ i _=>N-(intOf i).toNat)
 case atStart=>exact⟨2,Nat.le_refl _,hN2,rfl,World.ownsRow_nil _ _ _ _,Kp.refl _ _⟩
 case round=>
  obtain⟨k,hk2,hkN,rfl,HO,HK⟩:=hrel;go_wp2_with fail;refine (zN0 V A N wr (HK.out.hp HV.out)).mono ?_;rintro e w' ⟨rfl,hw'⟩;rw[hw'];clear hw' w';by_cases hlt:k<N
  ·have hlk:=(HM.out.kp HK.out (by simp)).look (k:=k) (by omega);have hjb:(k:Int)<(N:Int):=by omega
   have HFS:Hid (qB9 (k+1) ks=qB9 k ks++(if k∈ks then [] else [k])):=xS2 ks k hk2;have hfl:=zT2 k ks;by_cases hm:k∈ks
   ·have hd:decide (k∈ks)=true:=by simp[hm]
    rw[hd] at hlk;have h:=HO.out;rw[show qB9 k ks=qB9 (k+1) ks from by rw[HFS.out,if_pos hm,List.append_nil]] at h;have HO':=Hid.mk' h;clear h;clear hd hm;go_wp2;refine⟨⟨k+1,by omega,by omega,by go_num,HO'.out.alloc _,HK.out.alloc _⟩,by simp[intOf];omega⟩
   ·have hd:decide (k∈ks)=false:=by simp[hm]
    rw[hd] at hlk;have HFE:Hid (qB9 (k+1) ks=qB9 k ks++[k]):=by show _=_;rw[HFS.out,if_neg hm]
    clear hd hm
    go_wp2_with (at_builtin;refine wpList_append_own _ rfl _ _ 22 rfl w.heap.size 3 i0 (.int .i64 0) 1 8 underlying22 hi hz0 hz1 hz2 rfl (by decide) _ _ _ rfl ((HO.out.alloc _).alloc _) ⟨wr.heap.size+1,0,none⟩ 1 1 [.int .i64 (k:Int)] rfl rfl ?_ (by simp[Value.oneCell']) (by unfold maxLen;omega) (by omega) (by have:=HK.out.size;simp;omega) ?_)
    ·intro j u hu
     cases j with
     | zero=>
      simp only[zH,Option.some.injEq] at hu;subst hu;simp[Addr.add]
     | succ j=>simp at hu
    ·intro v1 w1 hown1 hgr1 _;have HO1:Hid (w1.ownsRow w.heap.size 3 1 v1 (qB9 (k+1) ks).length (ints (qB9 (k+1) ks))):=by
      show World.ownsRow _ _ _ _ _ _ _;rw[HFE.out,xV6,List.length_append];exact hown1
     have HK1:Hid (Kp [] w w1):=((HK.out.alloc _).alloc _).grown hgr1 (fun q hq=>Or.inr (qH8 HO.out q hq));clear hown1 hgr1;go_wp2;exact⟨⟨k+1,by omega,by omega,by go_num,HO1,HK1⟩,by simp[intOf];omega⟩
  ·have hjb:¬(k:Int)<(N:Int):=by omega
   have hke:k=N:=by omega
   have h:=HO.out;rw[hke] at h;have HOE:=Hid.mk' h;clear h;clear hke;go_wp2;go_ret;exact⟨_,rfl,qF6 HOE.out,HK.out⟩
def tcs(V:Nat)(h:HL):List Value:=[.pointer (some ⟨V,0,none⟩),.string h.key,.int .i64 h.b,.int .u64 h.s,.pointer h.ptr]
def qK8(V:Nat)(hs:List HL):List Value:=hs.flatMap (tcs V)
theorem jP2(V:Nat)(hs:List HL)(i k:Nat)(hi:i<hs.length)(hk:k<5):(qK8 V hs)[i*5+k]?=(tcs V hs[i])[k]?:=by
 have h:=zA0 (tcs V) 5 hs (fun x _=>rfl) i hi;have h2:=congrArg (fun z=>z[k]?) h;simp only[List.getElem?_take,if_pos hk,List.getElem?_drop] at h2;exact h2
theorem Slc.tree{V:Nat}{w:World}{v:Value}{hs:List HL}(h:Slc w 83 5 v hs.length (qK8 V hs))(hn:1≤hs.length):
  ∃ g off cap cur fr,v=.slice (some ⟨g,off,none⟩) hs.length cap∧hs.length≤cap∧w.heap[g]?=some (.cells cur 83 fr)∧∀ i (h:i<hs.length),cur[off+i*5]?=some (.pointer (some ⟨V,0,none⟩))∧cur[off+i*5+1]?=some (.string hs[i].key)∧cur[off+i*5+2]?=some (.int .i64 hs[i].b)∧cur[off+i*5+3]?=some (.int .u64 hs[i].s)∧cur[off+i*5+4]?=some (.pointer hs[i].ptr):=by
 rcases h.val with⟨h0,_⟩|⟨g,off,cap,cur,fr,h1,h2,h3,h4,h5⟩
 ·omega
 ·have at_:∀ i (hi:i<hs.length) k (hk:k<5) u,(tcs V hs[i])[k]?=some u→cur[off+i*5+k]?=some u:=fun i hi k hk u hu=>by
   rw[Nat.add_assoc];exact h5 _ _ ((jP2 V hs i k hi hk).trans hu)
  exact⟨g,off,cap,cur,fr,h1,h3,h4,fun i hi=>⟨at_ i hi 0 (by omega) _ rfl,at_ i hi 1 (by omega) _ rfl,at_ i hi 2 (by omega) _ rfl,at_ i hi 3 (by omega) _ rfl,at_ i hi 4 (by omega) _ rfl⟩⟩
def qA5(ks:List Nat):Root→List Nat
 | .none=>ks
 | .at n l=>qG8 (qF4 n) ks l
def qC3:Root→Nat
 | .none=>0
 | .at n l=>qB8 n l.sub
theorem RR.kp{E:Env}{w w':World}{h:HL}{r:Root}{S:List Nat}(hr:RR E w h r)(hK:Kp S w w')(hS:Apt w S qF7):RR E w' h r:=by
 cases r with
 | none=>exact hr
 | «at» n l=>exact RL.keep hr hK hS
end Go.Proofs.YtdohpenfkdckiabGreatDoor
namespace Go.Proofs.YtdohpenfkdckiabGreatDoor
open Go.Proofs.Tryz
open Go.RowKit
variable {κ:Nat}
def qB4(N rb rs:Int):List UInt8:=toB (qF2 N rb rs)++List.replicate 96 0
theorem qJ0(N rb rs:Int):(qB4 N rb rs).length=128:=by simp[qB4,qI9,qU8]
def Sto.led(s:Sto)(qb qs:Int):Sto:={ s with N:=s.N+1,rb:=qb,rs:=qs }
theorem zM1{a b:ByteArray}(h:qL6 a=qL6 b):a=b:=by
 have e:=congrArg toB h;rw[qX6,qX6] at e;cases a;cases b;simp only at e
 congr 1
 exact Array.toList_inj.1 e
theorem jK2{p p':KV}(hp:qD0 p)(hp':qD0 p'){r r':List Int}(h:qD5 p++r=qD5 p'++r'):p=p'∧r=r':=by
 obtain⟨h1,h2,h3⟩:=hp;obtain⟨g1,g2,g3⟩:=hp';simp only[qD5,List.append_assoc,List.cons_append,List.nil_append,List.cons.injEq] at h;obtain⟨e0,e1⟩:=h;have ek:p.k.size=p'.k.size:=by omega
 have ev:p.v.size=p'.v.size:=by omega
 obtain⟨e2,e3⟩:=List.append_inj e1 (by rw[qR4,qR4,ek]);obtain⟨e4,e5⟩:=List.append_inj e3 (by rw[qR4,qR4,ev]);refine⟨?_,e5⟩;cases p;cases p';simp only at e2 e4;rw[zM1 e2,zM1 e4]
theorem xB0:∀ (ps ps':List KV) (r r':List Int),(∀ p∈ps,qD0 p)→(∀ p∈ps',qD0 p)→ps.length=ps'.length→ps.flatMap qD5++r=ps'.flatMap qD5++r'→ps=ps'
 | [],[],_,_,_,_,_,_=>rfl
 | [],_::_,_,_,_,_,h,_=>by cases h
 | _::_,[],_,_,_,_,h,_=>by cases h
 | p::ps,p'::ps',r,r',h1,h2,hl,h=>by
  rw[List.flatMap_cons,List.flatMap_cons,List.append_assoc,List.append_assoc] at h;obtain⟨e1,e2⟩:=jK2 (h1 p (by simp)) (h2 p' (by simp)) h;rw[e1,xB0 ps ps' r r' (fun q hq=>h1 q (by simp[hq])) (fun q hq=>h2 q (by simp[hq])) (by simpa using hl) e2]
theorem jC7{h h':HL}(hk:h.key.size≤8)(hk':h'.key.size≤8)(hp:h.p=none)(hp':h'.p=none)(b0:0≤h.b∧h.b<65536)(b0':0≤h'.b∧h'.b<65536)(s0:0≤h.s∧h.s<18446744073709551616)(s0':0≤h'.s∧h'.s<18446744073709551616){r r':List Int}(e:qD7 h++r=qD7 h'++r'):h=h'∧r=r':=by
 simp only[qD7,List.append_assoc] at e;obtain⟨e1,e2⟩:=List.append_inj e (by rw[qG0,qG0]);obtain⟨e3,e4⟩:=List.append_inj e2 (by rw[qG0,qG0]);simp only[List.cons_append,List.nil_append,List.cons.injEq] at e4;obtain⟨e5,e6⟩:=e4;obtain⟨e7,e8⟩:=List.append_inj e6 (by rw[qR4,qR4];omega);have n1:=congrArg qF0 e1;rw[qM6 2 _ (by omega) b0.1 (by simpa using b0.2),qM6 2 _ (by omega) b0'.1 (by simpa using b0'.2)] at n1;have n2:=congrArg qF0 e3;rw[qM6 8 _ (by omega) s0.1 (by simpa using s0.2),qM6 8 _ (by omega) s0'.1 (by simpa using s0'.2)] at n2;refine⟨?_,e8⟩;cases h;cases h';simp only at hp hp' n1 n2 e7;rw[zM1 e7,n1,n2,hp,hp']
def xA3(h:HL):Prop:=h.p=none∧h.key.size≤8∧0≤h.b∧h.b<65536∧0≤h.s∧h.s<18446744073709551616
theorem zY5:∀ (ps ps':List HL) (r r':List Int),(∀ p∈ps,xA3 p)→(∀ p∈ps',xA3 p)→ps.length=ps'.length→ps.flatMap qD7++r=ps'.flatMap qD7++r'→ps=ps'
 | [],[],_,_,_,_,_,_=>rfl
 | [],_::_,_,_,_,_,h,_=>by cases h
 | _::_,[],_,_,_,_,h,_=>by cases h
 | p::ps,p'::ps',r,r',h1,h2,hl,h=>by
  rw[List.flatMap_cons,List.flatMap_cons,List.append_assoc,List.append_assoc] at h;obtain⟨a1,a2,a3,a4,a5,a6⟩:=h1 p (by simp);obtain⟨c1,c2,c3,c4,c5,c6⟩:=h2 p' (by simp);obtain⟨e1,e2⟩:=jC7 a2 c2 a1 c1 ⟨a3,a4⟩ ⟨c3,c4⟩ ⟨a5,a6⟩ ⟨c5,c6⟩ h;rw[e1,zY5 ps ps' r r' (fun q hq=>h1 q (by simp[hq])) (fun q hq=>h2 q (by simp[hq])) (by simpa using hl) e2]
theorem zM6{xs ys:List Int}(hx:∀ x∈xs,0≤x∧x<256)(hy:∀ x∈ys,0≤x∧x<256)(h:toB xs=toB ys):xs=ys:=by
 rw[←qO7 xs hx,←qO7 ys hy,h]
theorem zK0{lv lv':Int}{ps ps':List KV}{hs hs':List HL}(h:qA3 lv ps hs=qA3 lv' ps' hs'):lv=lv'∧ps.length+hs.length=ps'.length+hs'.length∧∃ r r',ps.flatMap qD5++(hs.flatMap qD7++r)=ps'.flatMap qD5++(hs'.flatMap qD7++r'):=by
 simp only[qA3,qK1,List.append_assoc,List.cons_append,List.nil_append,List.cons.injEq] at h;exact⟨h.1,by have:=h.2.1;omega,_,_,h.2.2⟩
theorem zW3{N:Nat}{l:List UInt8}(hN:N≤1000):∀ {n b:Nat} {s:Int} {t:Tn n},Laid N l n b s t→∃ ps hs,χ l b=toB (qA3 (n:Int) ps hs)∧∀ x∈qA3 (n:Int) ps hs,0≤x∧x<256
 | 0,b,s,t,h=>by
  obtain⟨_,_,_,h4,h5,h6,h7⟩:=h;exact⟨prs t,[],h4,qK2 0 _ [] (by omega) (by omega) (by simp;omega) h5 (by simp)⟩
 | n+1,b,s,t,h=>by
  obtain⟨_,_,h3,hs,h4,h5,h6,h7,h8,h9⟩:=h;exact⟨[],hs,h6,qK2 _ [] hs (by omega) (by omega) (by simp;omega) (by simp) h7⟩
theorem qW6{N:Nat}{l:List UInt8}(hN:N≤1000){n n' b:Nat}{s s':Int}{t:Tn n}{t':Tn n'}(h:Laid N l n b s t)(h':Laid N l n' b s' t'):n=n':=by
 obtain⟨ps,hs,e1,g1⟩:=zW3 hN h;obtain⟨ps',hs',e2,g2⟩:=zW3 hN h';rw[e1] at e2;have:=(zK0 (zM6 g1 g2 e2)).1;omega
theorem zI4{N:Nat}{l:List UInt8}(hN:N≤1000):∀ (n b:Nat) (s s':Int) (t t':Tn n),Laid N l n b s t→Laid N l n b s' t'→s=s'∧t=t'
 | 0,b,s,s',t,t',h,h'=>by
  obtain⟨_,_,h3,h4,h5,h6,h7⟩:=h;obtain⟨_,_,g3,g4,g5,g6,g7⟩:=h';rw[h4] at g4;have e:=zM6 (qK2 0 _ [] (by omega) (by omega) (by simp;omega) h5 (by simp)) (qK2 0 _ [] (by omega) (by omega) (by simp;omega) g5 (by simp)) g4;refine⟨by rw[h3,g3,e],?_⟩;obtain⟨_,hl,r,r',e2⟩:=zK0 e;exact xB0 (prs t) (prs t') _ _ h5 g5 (by simpa using hl) e2
 | n+1,b,s,s',t,t',h,h'=>by
  obtain⟨_,_,h2,hs,h3,h4,h5,h6,h7,h8⟩:=h;obtain⟨_,_,g2,hs',g3,g4,g5,g6,g7,g8⟩:=h';rw[h5] at g5;have e:=zM6 (qK2 _ [] hs (by omega) (by omega) (by simp;omega) (by simp) h6) (qK2 _ [] hs' (by omega) (by omega) (by simp;omega) (by simp) g6) g5;refine⟨by rw[h4,g4,e],?_⟩;obtain⟨_,hl,r,r',e2⟩:=zK0 e;simp only[List.flatMap_nil,List.nil_append] at e2;have ehs:=zY5 hs hs' _ _ (fun p hp=>Laid.links h3 h6 hN p hp) (fun p hp=>Laid.links g3 g6 hN p hp) (by simpa using hl) e2;subst ehs;refine (List.ext_getElem (h3.1.symm.trans g3.1) fun i a1 a2=>?_:η t=η t');have r1:=h3.2 i (by rw[h3.1];exact a1) a1;have r2:=g3.2 i (by rw[h3.1];exact a1) a2;obtain⟨k1,m1⟩:=r1;obtain⟨k2,m2⟩:=r2
  cases x1:(η t)[i].ref with
  | none=>rw[x1] at m1;obtain⟨_,_,q,_,hf⟩:=m1;exact hf.elim
  | some y1=>
   cases x2:(η t')[i].ref with
   | none=>rw[x2] at m2;obtain⟨_,_,q,_,hf⟩:=m2;exact hf.elim
   | some y2=>
    rw[x1] at m1;rw[x2] at m2;obtain⟨b1,s1,_,L1⟩:=m1;obtain⟨b2,s2,_,L2⟩:=m2;have eb:y1.1=y2.1:=by omega
    rw[←eb] at L2;have es:=zI4 hN n y1.1 _ _ _ _ L1 L2;have ey:y1=y2:=Prod.ext eb es.1;have hk:(η t)[i].key=(η t')[i].key:=k1.symm.trans k2;have hx:(η t)[i].ref=(η t')[i].ref:=by rw[x1,x2,ey]
    have hsub:=es.2
    revert hk hx hsub
    generalize (η t)[i]=u;generalize (η t')[i]=v;intro hk hx hsub;cases u;cases v;simp only at hk hx hsub;rw[hk,hx,hsub]
def Cl(N:Nat)(l:List UInt8)(n:Nat)(ks:List Nat):Prop:=∀ (m b:Nat) (s:Int) (t:Tn m),m<n→Laid N l m b s t→b∈ks→∀ k∈Blk m b t,k∈ks
def xF6(N:Nat)(l:List UInt8)(n:Nat)(ks ks':List Nat):Prop:=∀ k∈ks',k∈ks∨∃ (m:Nat) (s:Int) (t:Tn m),m<n∧Laid N l m k s t
structure Bel(N:Nat)(l:List UInt8)(n:Nat)(ks ks':List Nat):Prop where
 sub:∀ k∈ks,k∈ks'
 new:xF6 N l n ks ks'
 cl:Cl N l n ks'
theorem Bel.refl{N n:Nat}{l:List UInt8}{ks:List Nat}(h:Cl N l n ks):Bel N l n ks ks:=⟨fun _ h=>h,fun _ h=>Or.inl h,h⟩
theorem Bel.trans{N n:Nat}{l:List UInt8}{a b c:List Nat}(h:Bel N l n a b)(k:Bel N l n b c):Bel N l n a c:=
 ⟨fun x hx=>k.sub x (h.sub x hx),fun x hx=>by
  rcases k.new x hx with h1|h1
  ·exact h.new x h1
  ·exact Or.inr h1,k.cl⟩
def zE3(N:Nat)(l:List UInt8)(n:Nat):Prop:=∀ (t:Tn n) (ks:List Nat),Cl N l n ks→(∀ n' (e:n=n'+1),∀ m∈η (e ▸ t:Tn (n'+1)),qK4 N l n' m)→
 Bel N l n ks (qF4 n t ks)∧∀ n' (e:n=n'+1),∀ m∈η (e ▸ t:Tn (n'+1)),∀ k∈qH9 n' m,k∈qF4 n t ks
theorem xA5{N:Nat}{l:List UInt8}:∀ {n:Nat} {m:Lnk (Tn n)},qK4 N l n m→∀ n' (e:n=n'+1),∀ u∈η (e ▸ m.sub:Tn (n'+1)),qK4 N l n' u
 | 0,_,_,n',e=>by cases e
 | n+1,m,h,n',e=>by
  cases e;intro u hu
  cases hx:m.ref with
  | none=>exact h.2 hx u hu
  | some x=>
   obtain⟨_,_,_,hs,hb,_⟩:=h.1 x hx;obtain⟨i,hi,rfl⟩:=List.getElem_of_mem hu;have h2:=(hb.2 i (by rw[hb.1];exact hi) hi).2;have key:∀ y,(η m.sub)[i].ref=some y→Laid N l n y.1 y.2 (η m.sub)[i].sub:=fun y hy=>by rw[hy] at h2;exact h2.2.2.2
   have hnn:(η m.sub)[i].ref≠none:=fun hn=>by rw[hn] at h2;obtain⟨_,_,q,_,hf⟩:=h2;exact hf
   cases n with
   | zero=>exact key
   | succ n=>exact⟨key,fun hn=>absurd hn hnn⟩
theorem qQ4{n:Nat}{m:Lnk (Tn n)}{x:Nat × Int}(h:m.ref=some x):qH9 n m=Blk n x.1 m.sub:=by
 cases n<;>simp only[qH9,h]
theorem jF3{N:Nat}{l:List UInt8}{n:Nat}{m:Lnk (Tn n)}(h:qK4 N l n m){x:Nat × Int}(hx:m.ref=some x):Laid N l n x.1 x.2 m.sub:=by
 cases n with
 | zero=>exact h x hx
 | succ n=>exact h.1 x hx
theorem xI4{n b:Nat}{t:Tn n}{k:Nat}(h:k∈Blk n b t):k=b∨∃ n',∃ e:n=n'+1,∃ u∈η (e ▸ t:Tn (n'+1)),k∈qH9 n' u:=by
 cases n with
 | zero=>exact Or.inl (by simpa [Blk] using h)
 | succ n=>
  simp only[Blk,List.mem_cons,List.mem_flatMap] at h;rcases h with h|⟨u,hu,hk⟩
  ·exact Or.inl h
  ·refine Or.inr ⟨n,rfl,u,hu,?_⟩
   cases hx:u.ref with
   | none=>rw[hx] at hk;cases hk
   | some x=>rw[hx] at hk;rw[qQ4 hx];exact hk
theorem xD2{N:Nat}{l:List UInt8}(hN:N≤1000)(n:Nat)(IH:zE3 N l n)(m:Lnk (Tn n))(hm:qK4 N l n m)(ks:List Nat)(hc:Cl N l (n+1) ks):
  Bel N l (n+1) ks (qG8 (qF4 n) ks m)∧∀ k∈qH9 n m,k∈qG8 (qF4 n) ks m:=by
 cases hx:m.ref with
 | none=>
  have e:qG8 (qF4 n) ks m=qF4 n m.sub ks:=by simp only[qG8,hx]
  rw[e];obtain⟨hb,hblk⟩:=IH m.sub ks (fun m' b s t h=>hc m' b s t (by omega)) (xA5 hm);refine⟨⟨hb.sub,fun k hk=>?_,fun m' b s t hlt hL hbk k hk=>?_⟩,fun k hk=>?_⟩
  ·rcases hb.new k hk with h|⟨a,s,t,h1,h2⟩
   ·exact Or.inl h
   ·exact Or.inr ⟨a,s,t,by omega,h2⟩
  ·by_cases hmn:m'<n
   ·exact hb.cl m' b s t hmn hL hbk k hk
   ·rcases hb.new b hbk with h|⟨a,s',t',h1,h2⟩
    ·exact hb.sub k (hc m' b s t hlt hL h k hk)
    ·have:=qW6 hN hL h2;omega
  ·cases n with
   | zero=>simp[qH9,hx] at hk
   | succ n=>
    simp only[qH9,hx,List.mem_flatMap] at hk;obtain⟨u,hu,hk⟩:=hk;exact hblk n rfl u hu k hk
 | some x=>
  have hL:=jF3 hm hx;by_cases hin:x.1∈ks
  ·have e:qG8 (qF4 n) ks m=ks:=by simp only[qG8,hx,if_pos hin]
   rw[e];exact⟨Bel.refl hc,fun k hk=>by rw[qQ4 hx] at hk;exact hc n x.1 x.2 m.sub (by omega) hL hin k hk⟩
  ·have e:qG8 (qF4 n) ks m=qF4 n m.sub (x.1::ks):=by simp only[qG8,hx,if_neg hin]
   rw[e];have hc1:Cl N l n (x.1::ks):=fun m' b s t hlt hL' hb k hk=>by
    rcases List.mem_cons.1 hb with rfl|hb
    ·have:=qW6 hN hL' hL;omega
    ·exact List.mem_cons_of_mem _ (hc m' b s t (by omega) hL' hb k hk)
   obtain⟨hb,hblk⟩:=IH m.sub (x.1::ks) hc1 (xA5 hm);have hall:∀ k∈Blk n x.1 m.sub,k∈qF4 n m.sub (x.1::ks):=fun k hk=>by
    rcases xI4 hk with rfl|⟨n',e',u,hu,hk⟩
    ·exact hb.sub _ List.mem_cons_self
    ·exact hblk n' e' u hu k hk
   refine⟨⟨fun k hk=>hb.sub k (List.mem_cons_of_mem _ hk),fun k hk=>?_,fun m' b s t hlt hL' hbk k hk=>?_⟩,fun k hk=>by rw[qQ4 hx] at hk;exact hall k hk⟩
   ·rcases hb.new k hk with h|⟨a,s,t,h1,h2⟩
    ·rcases List.mem_cons.1 h with rfl|h
     ·exact Or.inr ⟨n,x.2,m.sub,by omega,hL⟩
     ·exact Or.inl h
    ·exact Or.inr ⟨a,s,t,by omega,h2⟩
   ·by_cases hmn:m'<n
    ·exact hb.cl m' b s t hmn hL' hbk k hk
    ·have hmn':m'=n:=by omega
     subst hmn';rcases hb.new b hbk with h|⟨a,s',t',h1,h2⟩
     ·rcases List.mem_cons.1 h with rfl|h
      ·rw[(zI4 hN _ _ _ _ _ _ hL' hL).2] at hk;exact hall k hk
      ·exact hb.sub k (List.mem_cons_of_mem _ (hc _ b s t hlt hL' h k hk))
     ·have:=qW6 hN hL' h2;omega
theorem zT0{N:Nat}{l:List UInt8}(hN:N≤1000)(n:Nat)(IH:zE3 N l n):∀ (ls:List (Lnk (Tn n))) (ks:List Nat),(∀ m∈ls,qK4 N l n m)→Cl N l (n+1) ks→
  Bel N l (n+1) ks (ls.foldl (qG8 (qF4 n)) ks)∧∀ m∈ls,∀ k∈qH9 n m,k∈ls.foldl (qG8 (qF4 n)) ks
 | [],ks,_,hc=>⟨Bel.refl hc,fun m hm=>by cases hm⟩
 | a::ls,ks,h,hc=>by
  obtain⟨h1,h2⟩:=xD2 hN n IH a (h a (by simp)) ks hc;obtain⟨h3,h4⟩:=zT0 hN n IH ls (qG8 (qF4 n) ks a) (fun m hm=>h m (by simp[hm])) h1.cl;refine⟨h1.trans h3,fun m hm k hk=>?_⟩;rcases List.mem_cons.1 hm with rfl|hm
  ·exact h3.sub k (h2 k hk)
  ·exact h4 m hm k hk
theorem zP5{N:Nat}{l:List UInt8}(hN:N≤1000):∀ n,zE3 N l n
 | 0=>fun t ks hc _=>⟨Bel.refl hc,fun n' e=>by cases e⟩
 | n+1=>fun t ks hc ho=>by
  obtain⟨h1,h2⟩:=zT0 hN n (zP5 hN n) (η t) ks (ho n rfl) hc;exact⟨h1,fun n' e=>by cases e;exact h2⟩
def ClA(N:Nat)(l:List UInt8)(ks:List Nat):Prop:=∀ n,Cl N l n ks
def qL1:Root→List Nat
 | .none=>[]
 | .at n l=>qH9 n l
def qN3(N:Nat)(l:List UInt8):Root→Prop
 | .none=>True
 | .at n m=>qK4 N l n m
theorem ClA.nil(N:Nat)(l:List UInt8):ClA N l []:=fun n m b s t _ _ h=>by cases h
theorem zE5{N:Nat}{l:List UInt8}(hN:N≤1000)(rt:Root)(ks:List Nat)(ho:qN3 N l rt)(hc:ClA N l ks):(∀ k∈ks,k∈qA5 ks rt)∧ClA N l (qA5 ks rt)∧∀ k∈qL1 rt,k∈qA5 ks rt:=by
 cases rt with
 | none=>exact⟨fun _ h=>h,hc,fun k hk=>by cases hk⟩
 | «at» n m=>
  obtain⟨h1,h2⟩:=xD2 hN n (zP5 hN n) m ho ks (hc (n+1));refine⟨h1.sub,fun p m' b s t hlt hL hb k hk=>?_,h2⟩;rcases h1.new b hb with h|⟨a,s',t',e1,e2⟩
  ·exact h1.sub k (hc p m' b s t hlt hL h k hk)
  ·exact h1.cl m' b s t (by have:=qW6 hN hL e2;omega) hL hb k hk
theorem zE6{N:Nat}{l:List UInt8}(hN:N≤1000):∀ (rs:List Root) (ks:List Nat),(∀ r∈rs,qN3 N l r)→ClA N l ks→(∀ k∈ks,k∈rs.foldl qA5 ks)∧ClA N l (rs.foldl qA5 ks)∧∀ r∈rs,∀ k∈qL1 r,k∈rs.foldl qA5 ks
 | [],ks,_,hc=>⟨fun _ h=>h,hc,fun r hr=>by cases hr⟩
 | a::rs,ks,h,hc=>by
  obtain⟨h1,h2,h3⟩:=zE5 hN a ks (h a (by simp)) hc;obtain⟨g1,g2,g3⟩:=zE6 hN rs (qA5 ks a) (fun r hr=>h r (by simp[hr])) h2;refine⟨fun k hk=>g1 k (h1 k hk),g2,fun r hr k hk=>?_⟩;rcases List.mem_cons.1 hr with rfl|hr
  ·exact g1 k (h3 k hk)
  ·exact g3 r hr k hk
theorem qW3{N:Nat}{ks:List Nat}:∀ b∈qB9 N ks,2≤b∧b<N∧b ∉ ks:=by
 intro b hb;simp only[qB9,List.mem_filter,List.mem_range'_1,decide_eq_true_eq] at hb;exact⟨hb.1.1,by omega,hb.2⟩
theorem xS0(N:Nat)(ks:List Nat):(qB9 N ks).Nodup:=List.Pairwise.filter _ List.nodup_range'
theorem xM0{N:Nat}{l:List UInt8}(hN:N≤1000)(hl:N*128≤l.length)(n:Nat)(L:Lnk (Tn n))(rs:List Root)(ho:qK4 N l n L)(hok:OkL n L)(hn6:n<6)(hrs:∀ r∈rs,qN3 N l r)
  (hfit:news n L≤(qB9 N (rs.foldl qA5 (qA5 [] (.at n L)))).length) (ws:List (Nat × List UInt8)) (hws:ws=(ψ n L (qB9 N (rs.foldl qA5 (qA5 [] (.at n L))))).2.1):
  (∀ x∈ws,x.1<N∧x.2.length=128)∧(∃ x,(ψ n L (qB9 N (rs.foldl qA5 (qA5 [] (.at n L))))).1.ref=some x∧Laid N (laidAll l ws) n x.1 x.2 (ψ n L (qB9 N (rs.foldl qA5 (qA5 [] (.at n L))))).1.sub)∧
  (∀ r∈rs,∀ k∈qL1 r,χ (laidAll l ws) k=χ l k)∧(∀ k,k<2→χ (laidAll l ws) k=χ l k):=by
 obtain⟨a1,a2,a3⟩:=zE5 hN (.at n L) [] ho (ClA.nil N l);obtain⟨b1,b2,b3⟩:=zE6 hN rs _ hrs a2;have hfo:=qW3 (N:=N) (ks:=rs.foldl qA5 (qA5 [] (.at n L)));have hnd:=xS0 N (rs.foldl qA5 (qA5 [] (.at n L)));generalize rs.foldl qA5 (qA5 [] (.at n L))=ks at *;have hfst:=qW7 n L (qB9 N ks) hfit;rw[←hws] at hfst;have hin:∀ x∈ws,x.1∈qB9 N ks:=fun x hx=>by
  have h:x.1∈ws.map Prod.fst:=List.mem_map_of_mem hx;rw[hfst] at h;exact List.mem_of_mem_take h
 have hw:∀ x∈ws,x.1<N∧x.2.length=128:=fun x hx=>⟨(hfo x.1 (hin x hx)).2.1,zI9 n L _ hok x (by rw[←hws];exact hx)⟩;have hkeep:∀ k,(k∈ks∨k<2)→χ (laidAll l ws) k=χ l k:=fun k hk=>zP8 N k ws l hl hw (fun hm=>by
  obtain⟨x,hx,rfl⟩:=List.mem_map.1 hm;have h:=hfo _ (hin x hx);rcases hk with hk|hk
  ·exact h.2.2 hk
  ·omega)
 refine⟨hw,?_,fun r hr k hk=>hkeep k (Or.inl (b3 r hr k hk)),fun k hk=>hkeep k (Or.inr hk)⟩;refine zW6 N l (laidAll l ws) n L (qB9 N ks) ho hok hn6 (fun b hb=>⟨(hfo b hb).1,(hfo b hb).2.1⟩) hfit (fun x hx=>?_) (fun k hk=>hkeep k (Or.inl (b1 k (a3 k hk))));rw[←hws] at hx;refine xI3 N ws x l hl hw ?_ hx;rw[hfst];exact hnd.sublist (List.take_sublist _ _)
theorem xV2:(prog.info? 186).map (·.size)=some 2:=by kernel_rfl
theorem zS1(d:Nat)(a:Addr)(W:World):Sem.run prog (Op.equalIn (d+1) 76 (.pointer (some a)) (.pointer (some a))) W=.ok true W:=by
 obtain⟨i,hi,hs⟩:=Option.map_eq_some_iff.1 xV2;simp[Op.equalIn,run_underlying underlying76,run_sizeOf W hi,hs,run_sameAddr_same]
theorem xD9(V:Nat)(h:HL)(rb rs:Int)(hp:h.p=none)(hk:h.key=⟨#[]⟩)(W:World):
  Sem.run prog (Op.equalIn 10000 83 (τ V h) (τ V ⟨⟨#[]⟩,rb,rs,none⟩)) W=.ok (decide (h.b=rb∧h.s=rs)) W:=by
 have heq:∀ W:World,Sem.run prog (Op.equalIn 9998 79 (.pointer none) (.pointer none)) W=.ok true W:=fun W=>qZ6 9997 W;have heq2:∀ W:World,Sem.run prog (Op.equalIn 9997 79 (.pointer none) (.pointer none)) W=.ok true W:=fun W=>qZ6 9996 W;have hv:=zS1 9998 ⟨V,0,none⟩;have hptr:h.ptr=none:=by simp[HL.ptr,hp]
 rw[τ,τ,hptr,hk,show HL.ptr ⟨⟨#[]⟩,rb,rs,none⟩=none from rfl];go_simp;by_cases h1:h.b=rb<;>by_cases h2:h.s=rs<;>simp[h1,h2]
theorem xD8(V q:Nat)(h:HL)(rb rs:Int)(hp:h.p=some q)(hk:h.key=⟨#[]⟩)(W:World):
  Sem.run prog (Op.equalIn 10000 83 (τ V h) (τ V ⟨⟨#[]⟩,rb,rs,none⟩)) W=.ok false W:=by
 have heq:∀ W:World,Sem.run prog (Op.equalIn 9998 79 (.pointer (some ⟨q,0,none⟩)) (.pointer none)) W=.ok false W:=fun W=>zS0 9997 _ W;have hv:=zS1 9998 ⟨V,0,none⟩;have hptr:h.ptr=some ⟨q,0,none⟩:=by simp[HL.ptr,hp]
 rw[τ,τ,hptr,hk,show HL.ptr ⟨⟨#[]⟩,rb,rs,none⟩=none from rfl];go_simp
end Go.Proofs.YtdohpenfkdckiabGreatDoor
namespace Go.Proofs.YtdohpenfkdckiabGreatDoor
open Go.Proofs.Tryz
open Go.RowKit
open Go.Maps (Keyed)
attribute [local go_sem] Oper.semAt_some
structure Come(D:DataW Unit)(left:Lit→Bool)(ks:List Int):Prop where
 sub:∀ kl,left kl=true→Maps.has D kl=true
 has:∀ x∈ks,Maps.has D (qA1 x)=true∧keyOf prog 75 (.int .u64 x)=some (qA1 x)
 all:∀ kl,Maps.has D kl=true→left kl=true∨∃ x∈ks,kl=qA1 x
theorem Come.start(D:DataW Unit):Come D (Maps.has D) []:=⟨fun _ h=>h,fun x hx=>(by cases hx),fun _ h=>Or.inl h⟩
theorem Come.step{D:DataW Unit}{left:Lit→Bool}{ks:List Int}(h:Come D left ks){x:Int}(hx:left (qA1 x)=true)(hk:keyOf prog 75 (.int .u64 x)=some (qA1 x)):Come D (fun z=>left z && !z.sameKey (qA1 x)) (ks++[x]):=by
 refine⟨fun kl hk=>h.sub kl (by simp at hk;exact hk.1),fun y hy=>?_,fun kl hk=>?_⟩
 ·rcases List.mem_append.1 hy with hy|hy
  ·exact h.has y hy
  ·rw[List.mem_singleton.1 hy];exact⟨h.sub _ hx,hk⟩
 ·rcases h.all kl hk with h1|⟨y,hy,e⟩
  ·by_cases hs:kl.sameKey (qA1 x)=true
   ·exact Or.inr ⟨x,by simp,WideAt.sameKey_eq hs⟩
   ·exact Or.inl (by simp[h1,hs])
  ·exact Or.inr ⟨y,by simp[hy],e⟩
def KeysU(D:DataW Unit)(ks:List Int):Prop:=(∀ x∈ks,Maps.has D (qA1 x)=true∧keyOf prog 75 (.int .u64 x)=some (qA1 x))∧(∀ kl,Maps.has D kl=true→∃ x∈ks,kl=qA1 x)∧ks.length≤Maps.size D
theorem xZ7(n:Nat)(hn:1≤n)(l Bm M V nn:Nat)(D:DataW Unit)(J:List Int→World→Prop)
  (hY:∀ pre x W,J pre W→pre.length<Maps.size D→YieldAt Fence.wide (n-1) prog l #[.int .u64 x] W fun e W'=>e=.returned (.bool true)∧J (pre++[x]) W'∧KeepsWalks W W')
  (W:World) (hJ:AbidesFrom W.heap.size J) (hm:W.cell? ⟨Bm,0,none⟩=some (.map (some M))) (hown:RM W V M nn D) (h0:J [] W):
  CallsIn Fence.wide n prog 148 #[.func (.yield l) #[] #[],.pointer (some ⟨Bm,0,none⟩)] W fun e W'=>(∃ v,e=.returned v)∧∃ ks:List Int,KeysU D ks∧J ks W':=by
 refine callsIn_of_wp func148 rfl trivial ?_ rfl;simp only[ntmps148,List.size_toArray,List.length_cons,List.length_nil,Nat.reduceAdd,Nat.reduceSub,Array.replicate_succ,Array.replicate_zero,List.push_toArray,List.append_toArray,List.nil_append,List.cons_append]
 gi_wp2_with (first
  | (gi_at_range;refine wpListIn_range_own _ rfl _ 124 rfl 75 83 qN5 qW8 _ M nn _ rfl hown ?_;intro w0 hrg0 hg0 hs0)
  | gi_in)
 go_frame
 gi_loopw [3] (fun _ wr=>∃ (left:Lit→Bool) (cnt:Nat) (ks:List Int),wr.ranges prog 75 (qT1 V) M W.heap.size nn D left cnt∧ks.length+cnt≤Maps.size D∧Come D left ks∧J ks wr)
  (fun _ wr=>wr.rangeLeft M W.heap.size)
 case atStart=>
  exact⟨_,_,[],hrg0,by simp,Come.start D,hJ [] W w0 none h0 hg0 (fun r e=>by cases e)⟩
 case round=>
  obtain⟨left,cnt,ks,hrg,hcs,hC,hJs⟩:=hrel
  gi_wp2_with (first
   | (gi_at_next;refine wpListIn_next_ranges _ rfl _ rfl 75 qN5 (qT1 V) (.int .u64) (fun v:Value=>v) (fun key kl hk=>by obtain⟨x,hx,_⟩:=Maps.keyOf_int_inv underlying75 hk;exact⟨x,hx⟩) (fun v y hv=>⟨v,rfl⟩) M W.heap.size nn _ _ _ rfl hrg ?_ ?_)
   | gi_in)
  ·intro hc0 hl0
   gi_wp2
   go_end0
   exact⟨⟨_,rfl⟩,ks,⟨hC.has,fun kl hk=>(hC.all kl hk).resolve_left (by simp[hl0]),by omega⟩,hJs⟩
  ·intro x c kl yd yp w2 cnt2 hkey hlk hv hat hrg2 hlt hg2 hs2 hen;obtain⟨x',ex,rfl,_⟩:=Maps.keyOf_int_inv underlying75 hkey;cases ex;have hJ2:J ks w2:=hJ ks wr w2 (some W.heap.size) hJs hg2 (fun r e=>by cases e;exact⟨Nat.le_refl _,hrg.iter_walk⟩);obtain⟨fn,tmps,assign,body,hy,hR⟩:=hY ks x w2 hJ2 (by omega);clear hs2
   gi_wp2
   refine hR.mono ?_;rintro e W3 ⟨rfl,hJ3,hk3⟩
   gi_wp2
   have hrg3:=hrg2.of_walks hk3
   go_roundw
   case rel=>exact⟨_,cnt2,ks++[x],hrg3,by simp;omega,hC.step hlk hkey,hJ3⟩
   case measure=>rw[hrg3.left_eq,hrg.left_eq];exact hlt
end Go.Proofs.YtdohpenfkdckiabGreatDoor
namespace Go.Proofs.YtdohpenfkdckiabGreatDoor
open Go.Proofs.Tryz
open Go.RowKit
open Go.Maps (Keyed)
attribute [local go_sem] Oper.semAt_some
theorem Kp.ofGrown{a b:World}{row:Option Nat}(h:a.grownBy b row):Kp row.toList a b:=(Kp.refl _ _).grown h (fun k hk=>Or.inl (by rw[hk];simp))
theorem Kp.putO{S:List Nat}{a b:World}(h:Kp S a b){l:Nat}(hl:l∈S)(o:Obj):Kp S a (b.putObj l o):=
 ⟨h.os,h.tape,h.output,by have:=h.size;simp[World.putObj];omega,fun k hk hn=>(World.putObj_heap_other (by intro e;subst e;exact hn hl)).trans (h.block k hk hn)⟩
theorem jT1{nn:Nat}{g:Operand}{ps:Array Tmp}{assign body:Code}{Q:Exit→Act→World→Prop}{a:Act}{w:World}(gf:Nat)(lb:Array Value)(S:List Int→Prop)(N:Nat)(h1:1≤nn)
  (hg:a.eval g=.func (.func gf) #[] lb) (eg:∀ (args:Array Value) (W:World),Sem.run prog (callFunc gf args) W=.ok (.enter gf args) W) (hps:ps.size=1) (hseq:SeqGives Fence.wide (nn-1) prog gf lb (.int .u64) S N w)
  (J:List Int→World→Prop)
  (hJK:∀ s W W' T,J s W→Kp T W W'→(∀ k∈T,w.heap.size≤k∧∀ c t fr,W.heap[k]?≠some (.cells c t fr))→J s W')
  (hJ0:∀ W,Kp [] w W→J [] W)
  (a₁:Int→Act)
  (hassign:∀ (l:Nat) (x:Int) (W:World) (K:Act→World→Prop),K (a₁ x) W→assign.wpIn (Fence.wide.inRound l) (nn-1-1) prog (Exit.then K (fun _ _ _=>False)) { tmps:=(ps.zip #[.int .u64 x]).foldl (fun t (p,v)=>t.setIfInBounds p v) a.tmps,defers:=[] } W)
  (hbody:∀ (l:Nat) (pre:List Int) (x:Int) (W:World),J pre W→pre.length<N→w.heap.size+2≤W.heap.size→
   body.wpIn (Fence.wide.inRound l) (nn-1-1) prog (fun e _ W3=>match e with
    | .normal=>J (pre++[x]) W3∧W.heap.size≤W3.heap.size∧∀ (k:Nat) (o:Obj),W.heap[k]?=some o→(∀ c t fr,o≠Obj.cells c t fr)→W3.heap[k]?=some o
    | _=>False) (a₁ x) W)
  (hdone:∀ (W:World) (ss:List Int),S ss→J ss W→W.heap[w.heap.size]?=some (.deferred (some []))→Q .normal { a with defers:={ target:=.collected w.heap.size,args:=#[] }::a.defers } W):
  (Code.rangeFunc g ps assign body).wpIn Fence.wide nn prog Q a w:=by
 refine wpIn_rangeFunc ?_;intro fn hfn;obtain⟨rec,hrec⟩:∃ rec:LoopState→Option Code→Loop,rec=fun st pe=>{ state:=st,pending:=pe,fn,tmps:=a.tmps,params:=ps,assign,body,defers:=w.heap.size }:=⟨_,rfl⟩;obtain⟨W1,hW1⟩:∃ W1,(w.alloc (.deferred (some []))).alloc (.loop (rec .ready none))=W1:=⟨_,rfl⟩;have hL1:W1.heap[w.heap.size+1]?=some (.loop (rec .ready none)):=by
  rw[←hW1];have:=World.alloc_heap_new (w.alloc (.deferred (some []))) (.loop (rec .ready none));rwa [World.size_alloc] at this
 have hD1:W1.heap[w.heap.size]?=some (.deferred (some [])):=by
  rw[←hW1];exact (Below.heap_alloc _ _ _ (by simp)).trans (World.alloc_heap_new w _)
 have hK1:Kp [] w W1:=by rw[←hW1];exact ((Kp.refl _ _).alloc _).alloc _
 have hB1:Below w.heap.size w W1:=by rw[←hW1];exact ((Below.refl _ w).alloc (Nat.le_refl _) _).alloc (by simp) _
 have hs1:W1.heap.size=w.heap.size+2:=by rw[←hW1];simp
 refine⟨w.heap.size+1,[{ target:=.collected w.heap.size,args:=#[] }],W1,{ target:=.fn (.func gf) lb,args:=#[.func (.yield (w.heap.size+1)) #[] #[]] },W1,gf,
  #[.func (.yield (w.heap.size+1)) #[] #[]]++lb,W1,?_,?_,?_,?_,fun h=>(by cases h),?_⟩
 ·rw[←hW1,hrec];exact run_enterLoop_outer _ _ _ _ _
 ·simp only[resolve,hg];simp[go_sem]
 ·intro f' hf';trivial
 ·simp[invoke,go_sem,eg]
 ·refine (hseq (w.heap.size+1) (fun ss W=>J ss W∧W.heap[w.heap.size+1]?=some (.loop (rec .ready none))∧W.heap[w.heap.size]?=some (.deferred (some []))) W1 hB1 ?_ ?_ ⟨hJ0 W1 hK1,hL1,hD1⟩).mono ?_
  ·rintro ss W W' row ⟨hJ,hL,hD⟩ hgr hrow;have hr2:∀ r,row=some r→∃ o:Obj,W.heap[r]?=some o∧o.isWalk=true:=fun r e=>(hrow r e).2;refine⟨hJK ss W W' _ hJ (Kp.ofGrown hgr) (fun k hk=>?_),(grownBy_keeps hgr hr2 hL rfl).trans hL,(grownBy_keeps hgr hr2 hD rfl).trans hD⟩;obtain⟨h3,o,h4,h5⟩:=hrow k (by simpa using hk);exact⟨by omega,fun c t fr e=>by rw[h4] at e;cases e;cases h5⟩
  ·
   rintro pre x W ⟨hJ,hL,hD⟩ hpl;have hlt:w.heap.size+1<W.heap.size:=ζ hL;have hy:=run_yield (P:=prog) (args:=#[.int .u64 x]) hL (by rw[hrec];simp[hps]);rw[hrec] at hy;refine⟨fn,_,assign,body,hy,roundIn_of_wpIn hfn (hassign _ x W _ ?_)⟩;clear hy;refine⟨_,run_beginRound hL (by rw[hrec]),?_⟩;obtain⟨W3,hW3,hL3,hK3⟩:∃ W3,W3=W.putObj (w.heap.size+1) (.loop { rec .ready none with state:=.busy })∧W3.heap[w.heap.size+1]?=some (.loop { rec .ready none with state:=.busy })∧Kp [w.heap.size+1] W W3:=
    ⟨_,rfl,World.putObj_heap_same (ζ hL),(Kp.refl _ _).putO (by simp) _⟩
   have hk3:KeepsWalks W W3:=by rw[hW3];exact KeepsWalks.putObj _ hL rfl
   rw[←hW3];clear hW3;have hJ3:J pre W3:=hJK _ _ _ _ hJ hK3 (fun k hk=>by rw[List.mem_singleton.1 hk];exact⟨by omega,fun c t fr e=>by rw[hL] at e;cases e⟩);have hD3:=hK3.hp hD;refine wpIn_mono (hbody _ pre x W3 hJ3 hpl (by have:=hK3.size;omega)) ?_;rintro e a3 W4 hp
   cases e with
   | normal=>
    obtain⟨hJ4,hs4,hk4⟩:=hp;have hb1:=hk4 _ _ hL3 (fun c t fr e=>by cases e);have hb2:=hk4 _ _ hD3 (fun c t fr e=>by cases e);have hr:=run_endRound (P:=prog) none hb1;rw[hrec] at hr;refine⟨_,_,hr,rfl,?_⟩;have hKf:Kp [w.heap.size+1] W4 (W4.putObj (w.heap.size+1) (.loop (rec .ready none))):=(Kp.refl _ _).putO (by simp) _;have hfin:(J (pre++[x]) (W4.putObj (w.heap.size+1) (.loop (rec .ready none)))∧(W4.putObj (w.heap.size+1) (.loop (rec .ready none))).heap[w.heap.size+1]?=some (.loop (rec .ready none))∧(W4.putObj (w.heap.size+1) (.loop (rec .ready none))).heap[w.heap.size]?=some (.deferred (some [])))∧KeepsWalks W (W4.putObj (w.heap.size+1) (.loop (rec .ready none))):=
     ⟨⟨hJK _ _ _ _ hJ4 hKf (fun k hk=>by rw[List.mem_singleton.1 hk];exact⟨by omega,fun c t fr e=>by rw[hb1] at e;cases e⟩),World.putObj_heap_same (ζ hb1),hKf.hp hb2⟩,
      (hk3.trans ⟨hs4,fun k o hk ho=>hk4 k o hk (fun c t fr e=>by rw[e] at ho;cases ho)⟩).trans (KeepsWalks.putObj _ hb1 rfl)⟩
    rw[hrec] at hfin ⊢;exact hfin
   | ret=>exact hp.elim
   | exit i=>exact hp.elim
   | goto l=>exact hp.elim
   | panic ch=>exact hp.elim
   | outgrown=>exact hp.elim
  ·
   rintro e W2 ⟨⟨v,rfl⟩,ss,hS,hJ2,hL2,hD2⟩;have hr:=run_endLoop (P:=prog) hL2 (by rw[hrec];simp);rw[hrec] at hr;have hKf:Kp [w.heap.size+1] W2 (W2.putObj (w.heap.size+1) (.loop { rec .ready none with state:=.exhausted })):=(Kp.refl _ _).putO (by simp) _;refine⟨none,_,hr,?_⟩;have:=hdone (W2.putObj (w.heap.size+1) (.loop { rec .ready none with state:=.exhausted })) ss hS (hJK _ _ _ _ hJ2 hKf (fun k hk=>by rw[List.mem_singleton.1 hk];exact⟨by omega,fun c t fr e=>by rw[hL2] at e;cases e⟩)) (hKf.hp hD2);rw[hrec] at this;exact this
end Go.Proofs.YtdohpenfkdckiabGreatDoor
namespace Go.Proofs.YtdohpenfkdckiabGreatDoor
open Go.Proofs.Tryz
open Go.RowKit
open Go.Maps (Keyed)
attribute [local go_sem] Oper.semAt_some
theorem xV1:(prog.info? 75).map (fun i=>(i.zero,i.size,i.bytes))=some (some (.int .u64 0),1,8):=by kernel_rfl
def qK9(ks:List Int):List Value:=ks.map (.int .u64)
theorem jF4(w:World)(a:Value)(t:TypeId):∀ j u,[a][j]?=some u→(w.alloc (.cells #[a] t)).cell? ((⟨w.heap.size,0,none⟩:Addr).add j)=some u:=fun j u hj=>by
 rw[qM1,ξ (μ _ _)];simpa using hj
theorem xL1(args:Array Value)(W:World):Sem.run prog (callFunc 148 args) W=.ok (.enter 148 args) W:=by
 simp[go_sem,func148]
theorem xZ8(n:Nat)(hn:1≤n)(Mx M V nn:Nat)(D:DataW Unit)(w:World)(hm:w.heap[Mx]?=some (.cells #[.map (some M)] 124))(hown:RM w V M nn D):
  SeqGives Fence.wide n prog 148 #[.pointer (some ⟨Mx,0,none⟩)] (.int .u64) (KeysU D) (Maps.size D) w:=fun l J W hW hJ hY h0=>by
 have hM':RM W V M nn D:=by
  have hbl:=hown.lt;obtain⟨es,clock,hb,Ft⟩:=hown;exact⟨es,clock,(hW.block M hbl).trans hb,Ft⟩
 have hm':W.heap[Mx]?=some (.cells #[.map (some M)] 124):=(hW.block Mx (ζ hm)).trans hm;exact xZ7 n hn l Mx M V nn D J hY W hJ (by have:=ξ hm' 0;simpa using this) hM' h0
theorem zK9{w w':World}{S:List Nat}{base:Nat}{e:TypeId}{sz:Nat}{v:Value}{n:Nat}{xs:List Value}(h:w.ownsRow base e sz v n xs)(hK:Kp S w w')(hS:∀ k∈S,∀ c fr,w.heap[k]?≠some (.cells c e fr)):w'.ownsRow base e sz v n xs:=by
 refine⟨h.1,?_⟩;rcases h.2 with h1|⟨g,cap,cur,h1,h2,h3,h4⟩
 ·exact Or.inl h1
 ·exact Or.inr ⟨g,cap,cur,h1,h2,hK.heap h3 (fun hm=>hS g hm _ _ h3),h4⟩
theorem qJ6{w:World}{base:Nat}{e:TypeId}{sz:Nat}{v:Value}{n:Nat}{xs:List Value}(h:w.ownsRow base e sz v n xs):∃ bs cp,v=.slice bs n cp:=by
 rcases h.2 with⟨h1,h2⟩|⟨g,cap,cur,h1,_⟩
 ·exact⟨none,0,by rw[h1,h2]⟩
 ·exact⟨_,cap,h1⟩
def xF2(B:Nat)(w0:World)(ks:List Int)(W:World):Prop:=∃ v,W.heap[B]?=some (.cells #[v] 174)∧W.ownsRow (B+1) 75 1 v ks.length (qK9 ks)∧Kp [B] w0 W
theorem xH3(gf:Nat)(lb:Array Value)(eg:∀ (args:Array Value) (W:World),Sem.run prog (callFunc gf args) W=.ok (.enter gf args) W)(S:List Int→Prop)(N:Nat)(hN:N≤1000)(w:World)(hseq:∀ W,Kp [] w W→SeqGives Fence.wide 8 prog gf lb (.int .u64) S N W):
  Calls prog 179 #[.slice none 0 0,.func (.func gf) #[] lb] w fun e w'=>∃ v ks,e=.returned v∧S ks∧w'.ownsRow w.heap.size 75 1 v ks.length (qK9 ks)∧Kp [] w w':=by
 obtain⟨i0,hi0,hz0,hz1,hz2⟩:=info_parts xV1;have HSEQ:=zh hseq;clear hseq;refine (callsIn_wide (n:=9)).1 ?_;refine callsIn_of_wp_marks func179 rfl trivial ?_ rfl;simp only[ntmps179,List.size_toArray,List.length_cons,List.length_nil,Nat.reduceAdd,Nat.reduceSub,Array.replicate_succ,Array.replicate_zero,List.push_toArray,List.append_toArray,List.nil_append,List.cons_append]
 gi_wp2_with fail
 obtain⟨w0,hw0,hB0,hK0,hs0⟩:∃ w0,w0=w.alloc (.cells #[.slice none 0 0] 174)∧w0.heap[w.heap.size]?=some (.cells #[.slice none 0 0] 174)∧Kp [] w w0∧w0.heap.size=w.heap.size+1:=⟨_,rfl,μ _ _,(Kp.refl _ _).alloc _,by simp⟩;rw[←hw0];clear hw0;refine jT1 gf lb S N (by decide) rfl eg rfl (HSEQ.out w0 hK0) (xF2 w.heap.size w0) ?JK ?J0 (fun x=>{ tmps:=#[.slice none 0 0,.func (.func gf) #[] lb,.pointer (some ⟨w.heap.size,0,none⟩),undef,.slice none 0 0,.int .u64 x,.func (.func gf) #[] lb,.int .u64 x,undef,undef,undef,undef,undef],defers:=[] }) ?assign ?body ?done
 case JK=>
  rintro s W W' T ⟨v,h1,h2,h3⟩ hK hT;exact⟨v,hK.heap h1 (fun hm=>(hT _ hm).2 _ _ _ h1),zK9 h2 hK (fun k hk c fr=>(hT k hk).2 c _ fr),h3.trans hK (fun i hi hlt=>absurd (hT i hi).1 (by omega))⟩
 case J0=>
  intro W hK;exact⟨_,hK.hp hB0,World.ownsRow_nil _ _ _ _,hK.mono (by simp)⟩
 case assign=>
  intro l x W K hK
  gi_wp2
  exact hK
 case body=>
  rintro l pre x W ⟨v,hB,hO,hKp⟩ hlen hsz;obtain⟨ob,oc,rfl⟩:=qJ6 hO;have hBs:=ζ hB;have o0:=ξ hB 0;simp only[zG,zH,zI] at o0;have fo0:=ω hB 0;have HOO:Hid (W.heap[w.heap.size]?=some (.cells #[.slice ob pre.length oc] 174)∧W.ownsRow (w.heap.size+1) 75 1 (.slice ob pre.length oc) pre.length (qK9 pre)∧Kp [w.heap.size] w0 W):=⟨hB,hO,hKp⟩;have HNO:Hid ((Value.slice ob pre.length oc).ownBlock≠some w.heap.size):=fun e=>by
   have:=qH8 hO _ e;omega
  have hgrow:∀ {X:Obj} {w5:World},(W.alloc X).grownBy w5 (Value.slice ob pre.length oc).ownBlock→w5.heap[w.heap.size]?=some (.cells #[.slice ob pre.length oc] 174):=fun {X w5} hg=>(hg.block _ (by simp;omega) (fun e=>HNO.out e.symm)).trans (θ _ HOO.out.1);clear hB hO hKp
  gi_wp2_with (gi_at_builtin;refine wpListIn_append_own _ rfl _ _ 174 rfl (w.heap.size+1) 75 i0 (.int .u64 0) 1 8 underlying174 hi0 hz0 hz1 hz2 rfl (by decide) _ _ _ rfl (World.ownsRow.alloc HOO.out.2.1 _) ⟨W.heap.size,0,none⟩ 1 1 [.int .u64 x] rfl rfl (jF4 _ _ _) (by simp[Value.oneCell']) (by unfold maxLen;omega) (by omega) (by simp;omega) ?_;intro v5 w5 hO5 hg5 _;obtain⟨g5,c5,rfl⟩:=qJ5 hO5;have hB5:=hgrow hg5;have o5:=ξ hB5 0;have fo5:=ω hB5 0;simp only[zG,zH] at o5)
  have hs5:=hg5.size;have hsW:(W.alloc (.cells #[.int .u64 x] 75)).heap.size=W.heap.size+1:=by simp
  have hKs:Kp [w.heap.size] w5 (w5.setCell ⟨w.heap.size,0,none⟩ (.slice (some ⟨g5,0,none⟩) (pre.length+1) c5)):=(Kp.refl _ _).sc _;have hown:∀ k,(Value.slice ob pre.length oc).ownBlock=some k→w.heap.size+1≤k:=fun k hk=>qH8 HOO.out.2.1 k hk;refine⟨⟨_,φ hB5 0 _,?_,?_⟩,?_,?_⟩
  ·have e:qK9 (pre++[x])=qK9 pre++[.int .u64 x]:=by simp[qK9]
   rw[e,List.length_append];exact zK9 hO5 hKs (fun k hk c fr e=>by rw[List.mem_singleton.1 hk,hB5] at e;cases e)
  ·exact (((HOO.out.2.2.alloc _).grown hg5 (fun k hk=>Or.inr (by have:=hown k hk;omega))).tr hKs)
  ·have:=hKs.size;omega
  ·intro k o hk hno;have hlt:=ζ hk;have hne:k≠w.heap.size:=fun e=>by
    rw[e,HOO.out.1] at hk;cases hk;exact hno _ _ _ _ rfl
   refine hKs.heap ((hg5.block k (by simp;omega) (fun e=>?_)).trans (θ _ hk)) (by simpa using hne);rcases HOO.out.2.1.2 with⟨h0,_⟩|⟨gb,cap,cur,e1,e2,e3,_⟩
   ·rw[h0] at e;cases e
   ·rw[e1] at e;cases e;rw[e3] at hk;cases hk;exact hno _ _ _ _ rfl
 case done=>
  rintro W ss hS ⟨v,hB,hO,hKp⟩ hD;obtain⟨ob,oc,rfl⟩:=qJ6 hO;have hBs:=ζ hB;have o0:=ξ hB 0;simp only[zG,zH,zI] at o0;obtain⟨sl,hsl⟩:∃ sl,sl=ss.length:=⟨_,rfl⟩;rw[←hsl] at o0;have HOO:Hid (W.ownsRow (w.heap.size+1) 75 1 (.slice ob sl oc) ss.length (qK9 ss)∧Kp [w.heap.size] w0 W∧W.heap[w0.heap.size]?=some (.deferred (some []))):=⟨by rw[hsl];exact hO,hKp,hD⟩;clear hB hO hKp hD hsl
  gi_wp2
  obtain⟨hO,hKp,hD⟩:=HOO.out;refine⟨by simp,.inl ⟨_,_,rfl,run_takeDeferred hD,?_⟩⟩;have hKf:Kp [w0.heap.size] W (W.putObj w0.heap.size (.deferred none)):=(Kp.refl _ _).putO (by simp) _;exact⟨_,results_tmp rfl _ _ _,_,ss,rfl,hS,qH4 (zK9 hO hKf (fun k hk c fr e=>by rw[List.mem_singleton.1 hk,hD] at e;cases e)) (by omega),hK0.trans (hKp.tr hKf) (fun i hi hlt=>by simp at hi;omega)⟩
theorem xZ9(M:Nat)(w:World):Calls prog 105 #[.map (some M)] w fun e w'=>e=.returned (.func (.func 148) #[] #[.pointer (some ⟨w.heap.size,0,none⟩)])∧w'=w.alloc (.cells #[.map (some M)] 124):=by
 have hmf:=zM;go_enter func105,ntmps105;go_wp2;go_ret;exact⟨rfl,rfl⟩
theorem xL6(Mx M V nn:Nat)(D:DataW Unit)(h4:Maps.size D≤4)(w:World)(hm:w.heap[Mx]?=some (.cells #[.map (some M)] 124))(hown:RM w V M nn D):
  Calls prog 146 #[.func (.func 148) #[] #[.pointer (some ⟨Mx,0,none⟩)]] w fun e w'=>∃ v ks,e=.returned v∧KeysU D ks∧w'.ownsRow w.heap.size 75 1 v ks.length (qK9 ks)∧Kp [] w w':=by
 have HC:Hid (Calls prog 179 #[.slice none 0 0,.func (.func 148) #[] #[.pointer (some ⟨Mx,0,none⟩)]] w fun e w'=>∃ v ks,e=.returned v∧KeysU D ks∧w'.ownsRow w.heap.size 75 1 v ks.length (qK9 ks)∧Kp [] w w'):=
  xH3 _ _ xL1 (KeysU D) (Maps.size D) (by omega) w (fun W hK=>xZ8 8 (by decide) Mx M V nn D W (hK.hp hm) (hown.kp hK (by simp)))
 clear hm hown;go_enter func146,ntmps146;go_wp2_with fail;refine (show Calls _ _ _ _ _ from HC.out).mono ?_;rintro e w1 ⟨v,ks,rfl,h1,h2,h3⟩;have HE:Hid (KeysU D ks∧w1.ownsRow w.heap.size 75 1 v ks.length (qK9 ks)∧Kp [] w w1):=⟨h1,h2,h3⟩;clear h1 h2 h3;go_wp2;go_ret;exact⟨v,ks,rfl,HE.out⟩
end Go.Proofs.YtdohpenfkdckiabGreatDoor
