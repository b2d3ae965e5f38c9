import Derived.Test.YtdohpenfkdckiabGreatDoorB11
import Derived.BigRegion
import Derived.RangeFuncNested
import Derived.RangeFuncBound
import Derived.RangeFuncCalls
import Derived.RangeFuncLeaves
import Derived.RangeFuncGives
import Derived.Sort.MapsRangeIn
import Derived.Shelf.Abstract
import Derived.Shelf.RegionOpen
import Derived.OwnWalkIn
import Derived.TacticsInMore
import Derived.LoopNIn
import Derived.LoopIn
import Derived.Sort.LoopGhostIn
import Derived.Maps.AppendAt
import Derived.LaidEqlPtr
set_option linter.all false
set_option maxRecDepth 100000
set_option maxHeartbeats 20000000
namespace Go.Proofs.YtdohpenfkdckiabGreatDoor
open Go.Proofs.Tryz
open Go.RowKit
variable {κ:Nat}
theorem zN8(V A n C:Nat)(calls writes:Int)(i:Nat)(l:List UInt8)(ps:List KV)  (w:World) (hV:w.heap[V]?=some (qB8 A n)) (h:w.heap[A]?=some (χ κ n C (.slice none 0 0) calls writes))
  (hi:i<n) (hn:n≤1000) (hC:w.heap[C]?=some (.cells (enc l) 87)) (hs:n*128≤l.length) (hAC:C≠A) (hVA:V≠A) (hbl:ι l i=toB (qA1 0 ps [])) (hz:∀ p∈ps,qC3 p) (hm:2+meas ν ps≤128) (hnl:ps.length≤126):
  Calls prog 122 #[.pointer (some ⟨V,0,none⟩),.agg #[.int .i64 i,.int .u64 (fnv (qA1 0 ps []))]] w fun e w'=>∃ q v,e=.returned (.tuple #[.pointer (some ⟨q,0,none⟩),.bool true])∧w'.heap[q]?=some (.cells #[.int .i64 0,v,.slice none 0 0] 152)∧w.heap.size≤q∧
   w'.ownsRow w.heap.size 158 2 v ps.length (qA9 ps)∧w'.heap[A]?=some (χ κ n C (.slice none 0 0) (nx calls) writes)∧Kp [A] w w':=by
 have hby:=qH0 0 ps [] (by omega) (by omega) (by simp;omega) hz (by simp);have hNL:(qA1 0 ps []).length=128:=qO8 0 ps [] (by simpa [qC9] using hm);obtain⟨E,hE⟩:∃ E,E=enc (toB (qA1 0 ps [])):=⟨_,rfl⟩;have hEs:E.size=128:=by rw[hE,qF2,qH1];exact hNL
 have hcs:=qS6 (toB (qA1 0 ps [])) 0 128 (qA1 0 ps []) hby hNL (by rw[List.drop_zero,List.take_of_length_le (by rw[qH1];exact Nat.le_of_eq hNL)]);have HLOAD:Hid (∀ W,Kp [] w W→Calls prog 151 #[.pointer (some ⟨V,0,none⟩),.int .i64 i] W fun e w'=>e=.returned (.agg E)∧w'.heap[A]?=some (χ κ n C (.slice none 0 0) (nx calls) writes)∧Kp [A] W w'):=fun W hK=>by
  have h:=zJ6 V A n C calls writes i l W (hK.hp hV) (hK.hp h) hi hn (hK.hp hC) hs hAC hVA;rw[hbl,←hE] at h;exact h
 have HPARSE:Hid (∀ W,Calls prog 166 #[.agg E] W fun e w'=>∃ q v,e=.returned (.tuple #[.pointer (some ⟨q,0,none⟩),.bool true])∧w'.heap[q]?=some (.cells #[.int .i64 0,v,.slice none 0 0] 152)∧W.heap.size≤q∧
   w'.ownsRow W.heap.size 158 2 v ps.length (qA9 ps)∧Kp [] W w'):=fun W=>by
  have h:=jN2 ps  W hz hm hnl;rw[←hE] at h;exact h
 obtain⟨S,hS⟩:∃ S,S=fnv (qA1 0 ps []):=⟨_,rfl⟩;have HSUM:Hid (∀ W b cap,W.heap[b]?=some (.cells E 223)→Calls prog 165 #[.slice (some ⟨b,0,none⟩) 128 cap] W fun e w'=>e=.returned (.int .u64 S)∧w'=W):=fun W b cap hb=>by
  rw[hS];refine qY5 b 0 128 cap (qA1 0 ps []) W hNL (by omega) (fun j hj=>?_);rw[ξ hb,hE];exact hcs j hj
 rw[←hS];have hEb:∀ v∈E.toList,v.oneCell'=true:=by rw[hE];exact (qH3 _).one
 have HES:=zh hEs;have hAs:=ζ h;clear hcs hS hE hby hNL hz hm hbl hs hC hV h;go_enter func122,ntmps122;go_wp2_with fail;obtain⟨w0,hw0,hP0,hK0,hs0⟩:=qE8 w (.cells #[.int .i64 (i:Int),.int .u64 S] 78);rw[←hw0];clear hw0;refine (HLOAD.out w0 hK0).mono ?_;rintro e w1 ⟨rfl,hA1,hK1⟩;have hP1:=hK1.ho hP0;have hKw1:Kp [A] w w1:=(hK0.mono (by simp)).tr hK1;have hs1:=hK1.size;clear hK1 hP0 hK0 HLOAD;go_wp2_with fail;have hN:=μ w1 (.cells zeroCells223 223);rw[qM0 hN (by simp[qH9,hEs]) hEb];rw[show E.toList.toArray=E from by simp,qJ6 (by rw[qH9,hEs])];obtain⟨w2,hw2,hB2,hP2,hA2,hKw2,hs2⟩:∃ w2,w2=(w1.alloc (.cells zeroCells223 223)).setRow w1.heap.size E∧w2.heap[w1.heap.size]?=some (.cells E 223)∧w2.heap[w.heap.size]?=some (.cells #[.int .i64 (i:Int),.int .u64 S] 78)∧w2.heap[A]?=some (χ κ n C (.slice none 0 0) (nx calls) writes)∧Kp [A] w w2∧w2.heap.size=w1.heap.size+1:=
  ⟨_,rfl,setRow_heap _ _ _ _ _ _ hN,(setRow_other _ _ _ _ (by omega)).trans (θ _ hP1),(setRow_other _ _ _ _ (by omega)).trans (θ _ hA1),(hKw1.alloc _).setRow (Or.inr (by omega)) _,by simp⟩
 rw[←hw2];clear hw2 hN hP1 hA1 hEs hEb;go_wp2_with fail;have hSd:w2.drew.heap[w1.heap.size]?=some (.cells E 223)∧w2.drew.heap[w.heap.size]?=some (.cells #[.int .i64 (i:Int),.int .u64 S] 78):=⟨hB2,hP2⟩;refine wp_region_held_drew (S:=fun W=>W.heap[w1.heap.size]?=some (.cells E 223)∧W.heap[w.heap.size]?=some (.cells #[.int .i64 (i:Int),.int .u64 S] 78)) (by kernel_rfl) hSd (fun _=>?_);refine zU 0 (.slice (some ⟨w1.heap.size,0,none⟩) 128 128) hSd ?_;refine zP 2 w.heap.size 1 hSd ?_;refine zV 3 (.int .u64 S) rfl (fun W hS=>by have a:=ξ hS.2 1;simp only[zG,zH,zI] at a;clear hS;go_simp) hSd ?_;refine zq 1 fun K hK=>?_;go_simp;refine (HSUM.out w2.drew w1.heap.size 128 hB2).mono ?_;rintro e w' ⟨rfl,hw'⟩;rw[hw'];clear hw' w';refine hK.out _ _ hSd (fun _=>?_);clear hK K
 try simp only[zZ]
 refine zU 4 (.bool false) hSd ?_;refine zd ?_;obtain⟨w3,hw3,hB3,hA3,hKw3,hs3⟩:∃ w3,w3=w2.drew∧w3.heap[w1.heap.size]?=some (.cells E 223)∧w3.heap[A]?=some (χ κ n C (.slice none 0 0) (nx calls) writes)∧Kp [A] w w3∧w3.heap.size=w2.heap.size:=⟨_,rfl,hB2,hA2,hKw2.drew,rfl⟩;rw[←hw3];have hpp:qA2 E 0 128=E:=by rw[←HES.out];simp[qA2,List.take_of_length_le]
 clear hw3 hSd hB2 hP2 hA2 hKw2 hKw1
 go_wp2_with (
  with_reducible refine qQ1 (t:=223) ?_ 128 ?_ w1.heap.size 0 ?_ E 223 (0,0) ?_ ?_ ?_
  ·kernel_rfl
  ·kernel_rfl
  ·rfl
  ·exact hB3
  ·have:=HES.out;omega)
 refine (HPARSE.out w3).mono ?_;rintro e w4 ⟨q,v,rfl,hq4,hql,hown4,hK4⟩;have hA4:=hK4.hp hA3;have HEND:Hid (w4.heap[q]?=some (.cells #[.int .i64 0,v,.slice none 0 0] 152)∧w.heap.size≤q∧w4.ownsRow w.heap.size 158 2 v ps.length (qA9 ps)∧w4.heap[A]?=some (χ κ n C (.slice none 0 0) (nx calls) writes)∧Kp [A] w w4):=⟨hq4,by omega,qI7 hown4 (by omega),hA4,hKw3.tr hK4⟩;clear hq4 hql hown4 hK4 hA4 hA3 hB3 hKw3 hpp;go_wp2
 go_ret2
 exact⟨q,v,rfl,HEND.out⟩
theorem zN7(V A n C:Nat)(calls writes:Int)(i:Nat)(l:List UInt8)(ps:List HL)(lv:Int)(hlv0:0<lv)(hlv1:lv<256)(w:World)(hV:w.heap[V]?=some (qB8 A n))(h:w.heap[A]?=some (χ κ n C (.slice none 0 0) calls writes))
  (hi:i<n) (hn:n≤1000) (hC:w.heap[C]?=some (.cells (enc l) 87)) (hs:n*128≤l.length) (hAC:C≠A) (hVA:V≠A) (hbl:ι l i=toB (qA1 lv [] ps)) (hz:∀ p∈ps,p.p=none∧p.key.size≤8∧0≤p.b∧p.b<65536∧0≤p.s∧p.s<18446744073709551616) (hm:2+meas ψ ps≤128) (hnl:ps.length≤126):
  Calls prog 122 #[.pointer (some ⟨V,0,none⟩),.agg #[.int .i64 i,.int .u64 (fnv (qA1 lv [] ps))]] w fun e w'=>∃ q v,e=.returned (.tuple #[.pointer (some ⟨q,0,none⟩),.bool true])∧w'.heap[q]?=some (.cells #[.int .i64 lv,.slice none 0 0,v] 152)∧w.heap.size≤q∧
   w'.ownsRow w.heap.size 81 4 v ps.length (qA5 ps)∧w'.heap[A]?=some (χ κ n C (.slice none 0 0) (nx calls) writes)∧Kp [A] w w':=by
 have hby:=qH0 lv [] ps (by omega) hlv1 (by simp;omega) (by simp) (fun p hp=>(hz p hp).2.1);have hNL:(qA1 lv [] ps).length=128:=qO8 lv [] ps (by simpa [qC9] using hm);obtain⟨E,hE⟩:∃ E,E=enc (toB (qA1 lv [] ps)):=⟨_,rfl⟩;have hEs:E.size=128:=by rw[hE,qF2,qH1];exact hNL
 have hcs:=qS6 (toB (qA1 lv [] ps)) 0 128 (qA1 lv [] ps) hby hNL (by rw[List.drop_zero,List.take_of_length_le (by rw[qH1];exact Nat.le_of_eq hNL)]);have HLOAD:Hid (∀ W,Kp [] w W→Calls prog 151 #[.pointer (some ⟨V,0,none⟩),.int .i64 i] W fun e w'=>e=.returned (.agg E)∧w'.heap[A]?=some (χ κ n C (.slice none 0 0) (nx calls) writes)∧Kp [A] W w'):=fun W hK=>by
  have h:=zJ6 V A n C calls writes i l W (hK.hp hV) (hK.hp h) hi hn (hK.hp hC) hs hAC hVA;rw[hbl,←hE] at h;exact h
 have HPARSE:Hid (∀ W,Calls prog 166 #[.agg E] W fun e w'=>∃ q v,e=.returned (.tuple #[.pointer (some ⟨q,0,none⟩),.bool true])∧w'.heap[q]?=some (.cells #[.int .i64 lv,.slice none 0 0,v] 152)∧W.heap.size≤q∧
   w'.ownsRow W.heap.size 81 4 v ps.length (qA5 ps)∧Kp [] W w'):=fun W=>by
  have h:=jN0 ps lv hlv0 hlv1 W hz hm hnl;rw[←hE] at h;exact h
 obtain⟨S,hS⟩:∃ S,S=fnv (qA1 lv [] ps):=⟨_,rfl⟩;have HSUM:Hid (∀ W b cap,W.heap[b]?=some (.cells E 223)→Calls prog 165 #[.slice (some ⟨b,0,none⟩) 128 cap] W fun e w'=>e=.returned (.int .u64 S)∧w'=W):=fun W b cap hb=>by
  rw[hS];refine qY5 b 0 128 cap (qA1 lv [] ps) W hNL (by omega) (fun j hj=>?_);rw[ξ hb,hE];exact hcs j hj
 rw[←hS];have hEb:∀ v∈E.toList,v.oneCell'=true:=by rw[hE];exact (qH3 _).one
 have HES:=zh hEs;have hAs:=ζ h;clear hcs hS hE hby hNL hz hm hbl hs hC hV h;go_enter func122,ntmps122;go_wp2_with fail;obtain⟨w0,hw0,hP0,hK0,hs0⟩:=qE8 w (.cells #[.int .i64 (i:Int),.int .u64 S] 78);rw[←hw0];clear hw0;refine (HLOAD.out w0 hK0).mono ?_;rintro e w1 ⟨rfl,hA1,hK1⟩;have hP1:=hK1.ho hP0;have hKw1:Kp [A] w w1:=(hK0.mono (by simp)).tr hK1;have hs1:=hK1.size;clear hK1 hP0 hK0 HLOAD;go_wp2_with fail;have hN:=μ w1 (.cells zeroCells223 223);rw[qM0 hN (by simp[qH9,hEs]) hEb];rw[show E.toList.toArray=E from by simp,qJ6 (by rw[qH9,hEs])];obtain⟨w2,hw2,hB2,hP2,hA2,hKw2,hs2⟩:∃ w2,w2=(w1.alloc (.cells zeroCells223 223)).setRow w1.heap.size E∧w2.heap[w1.heap.size]?=some (.cells E 223)∧w2.heap[w.heap.size]?=some (.cells #[.int .i64 (i:Int),.int .u64 S] 78)∧w2.heap[A]?=some (χ κ n C (.slice none 0 0) (nx calls) writes)∧Kp [A] w w2∧w2.heap.size=w1.heap.size+1:=
  ⟨_,rfl,setRow_heap _ _ _ _ _ _ hN,(setRow_other _ _ _ _ (by omega)).trans (θ _ hP1),(setRow_other _ _ _ _ (by omega)).trans (θ _ hA1),(hKw1.alloc _).setRow (Or.inr (by omega)) _,by simp⟩
 rw[←hw2];clear hw2 hN hP1 hA1 hEs hEb;go_wp2_with fail;have hSd:w2.drew.heap[w1.heap.size]?=some (.cells E 223)∧w2.drew.heap[w.heap.size]?=some (.cells #[.int .i64 (i:Int),.int .u64 S] 78):=⟨hB2,hP2⟩;refine wp_region_held_drew (S:=fun W=>W.heap[w1.heap.size]?=some (.cells E 223)∧W.heap[w.heap.size]?=some (.cells #[.int .i64 (i:Int),.int .u64 S] 78)) (by kernel_rfl) hSd (fun _=>?_);refine zU 0 (.slice (some ⟨w1.heap.size,0,none⟩) 128 128) hSd ?_;refine zP 2 w.heap.size 1 hSd ?_;refine zV 3 (.int .u64 S) rfl (fun W hS=>by have a:=ξ hS.2 1;simp only[zG,zH,zI] at a;clear hS;go_simp) hSd ?_;refine zq 1 fun K hK=>?_;go_simp;refine (HSUM.out w2.drew w1.heap.size 128 hB2).mono ?_;rintro e w' ⟨rfl,hw'⟩;rw[hw'];clear hw' w';refine hK.out _ _ hSd (fun _=>?_);clear hK K
 try simp only[zZ]
 refine zU 4 (.bool false) hSd ?_;refine zd ?_;obtain⟨w3,hw3,hB3,hA3,hKw3,hs3⟩:∃ w3,w3=w2.drew∧w3.heap[w1.heap.size]?=some (.cells E 223)∧w3.heap[A]?=some (χ κ n C (.slice none 0 0) (nx calls) writes)∧Kp [A] w w3∧w3.heap.size=w2.heap.size:=⟨_,rfl,hB2,hA2,hKw2.drew,rfl⟩;rw[←hw3];have hpp:qA2 E 0 128=E:=by rw[←HES.out];simp[qA2,List.take_of_length_le]
 clear hw3 hSd hB2 hP2 hA2 hKw2 hKw1
 go_wp2_with (
  with_reducible refine qQ1 (t:=223) ?_ 128 ?_ w1.heap.size 0 ?_ E 223 (0,0) ?_ ?_ ?_
  ·kernel_rfl
  ·kernel_rfl
  ·rfl
  ·exact hB3
  ·have:=HES.out;omega)
 refine (HPARSE.out w3).mono ?_;rintro e w4 ⟨q,v,rfl,hq4,hql,hown4,hK4⟩;have hA4:=hK4.hp hA3;have HEND:Hid (w4.heap[q]?=some (.cells #[.int .i64 lv,.slice none 0 0,v] 152)∧w.heap.size≤q∧w4.ownsRow w.heap.size 81 4 v ps.length (qA5 ps)∧w4.heap[A]?=some (χ κ n C (.slice none 0 0) (nx calls) writes)∧Kp [A] w w4):=⟨hq4,by omega,qI7 hown4 (by omega),hA4,hKw3.tr hK4⟩;clear hq4 hql hown4 hK4 hA4 hA3 hB3 hKw3 hpp;go_wp2
 go_ret2
 exact⟨q,v,rfl,HEND.out⟩
theorem qX1(s x:Int):qI8 s x<18446744073709551616:=by
 unfold qI8;rw[IntKind.wrap_u64];omega
theorem qX2(xs:List Int):fnv xs<18446744073709551616:=by
 unfold fnv;rcases List.eq_nil_or_concat xs with h|⟨l,a,h⟩
 ·rw[h];decide
 ·rw[h,List.concat_eq_append,List.foldl_append];exact qX1 _ _
def Laid(N:Nat)(l:List UInt8):(n:Nat)→Nat→Int→Tn n→Prop
 | 0,b,s,t=>2≤b∧b<N∧s=fnv (qA1 0 (prs t) [])∧ι l b=toB (qA1 0 (prs t) [])∧(∀ p∈prs t,qC3 p)∧2+meas ν (prs t)≤128∧(prs t).length≤126
 | n+1,b,s,t=>2≤b∧b<N∧n+1<6∧∃ hs:List HL,Both (RLof (fun _ _=>False) (Laid N l n)) hs (η t)∧s=fnv (qA1 ((n+1:Nat):Int) [] hs)∧ι l b=toB (qA1 ((n+1:Nat):Int) [] hs)∧(∀ h∈hs,h.key.size≤8)∧2+meas ψ hs≤128∧hs.length≤126
theorem Laid.at{N:Nat}{l:List UInt8}:∀ {n b:Nat} {s:Int} {t:Tn n},Laid N l n b s t→2≤b∧b<N∧0≤s∧s<18446744073709551616∧n<6
 | 0,_,_,_,h=>⟨h.1,h.2.1,by rw[h.2.2.1];exact qQ5 _,by rw[h.2.2.1];exact qX2 _,by omega⟩
 | _+1,_,_,_,h=>by
  obtain⟨h1,h2,h3,hs,_,h5,_⟩:=h;exact⟨h1,h2,by rw[h5];exact qQ5 _,by rw[h5];exact qX2 _,h3⟩
theorem Laid.links{N:Nat}{l:List UInt8}{n:Nat}{hs:List HL}{ls:List (Lnk (Tn n))}(h:Both (RLof (fun _ _=>False) (Laid N l n)) hs ls)(hk:∀ h∈hs,h.key.size≤8)(hN:N≤1000):
  ∀ p∈hs,p.p=none∧p.key.size≤8∧0≤p.b∧p.b<65536∧0≤p.s∧p.s<18446744073709551616:=by
 intro p hp;obtain⟨i,hi,rfl⟩:=List.getElem_of_mem hp;have h1:=(h.2 i hi (by rw[←h.1];exact hi)).2;split at h1
 ·obtain⟨_,_,q,_,hf⟩:=h1;exact hf.elim
 ·obtain⟨e1,e2,e3,e4⟩:=h1;have e5:=e4.at;exact⟨e3,hk _ hp,by omega,by omega,by omega,by omega⟩
structure Devl(V A N C:Nat)(l:List UInt8)(wr:Int)(w:World):Prop where
 hV:w.heap[V]?=some (qB8 A N)
 hA:∃ calls,w.heap[A]?=some (χ (l.length / 128) N C (.slice none 0 0) calls wr)
 hC:w.heap[C]?=some (.cells (enc l) 87)
theorem jR3(V A N C:Nat)(l:List UInt8)(writes:Int)(hN:N≤1000)(hs:N*128≤l.length)(hAC:C≠A)(hVA:V≠A)(n:Nat)(h r:HL)(L:Lnk (Tn n))(a:Int)(w:World)(hd:Devl V A N C l writes w)(hr:RL (Laid N l) n w h L)(hp:h.p=none)(ha:(n:Int)<a):
  Calls prog 87 #[φ V r,qC5 h,.int .i64 a] w fun e w'=>∃ q,e=.returned (.pointer (some ⟨q,0,none⟩))∧RN (Laid N l) n w' q L.sub∧Devl V A N C l writes w'∧Kp [A] w w':=by
 obtain⟨calls,hA⟩:=hd.hA;have hO:∃ b s,h.b=(b:Nat)∧h.s=s∧Laid N l n b s L.sub:=by
  have h2:=hr.2
  cases hl:L.ref with
  | none=>
   rw[hl] at h2;obtain⟨_,_,q',h3,_⟩:=h2;rw[hp] at h3;cases h3
  | some x=>
   rw[hl] at h2;exact⟨x.1,x.2,h2.1,h2.2.1,h2.2.2.2⟩
 obtain⟨b,s,hb,hss,hL⟩:=hO;have hlv:n<6:=hL.at.2.2.2.2;have HREAD:Hid (∀ W,Kp [] w W→Calls prog 122 #[.pointer (some ⟨V,0,none⟩),.agg #[.int .i64 b,.int .u64 s]] W fun e w'=>∃ q vp vl,e=.returned (.tuple #[.pointer (some ⟨q,0,none⟩),.bool true])∧w'.heap[q]?=some (υ (n:Int) vp vl)∧RN (Laid N l) n w' q L.sub∧Devl V A N C l writes w'∧Kp [A] W w'):=by
  intro W hK;have hV1:=hK.hp hd.hV;have hA1:=hK.hp hA;have hC1:=hK.hp hd.hC
  cases n with
  | zero=>
   obtain⟨g1,g2,g3,g4,g5,g6,g7⟩:=hL;rw[g3];refine (zN8 V A N C calls writes b l (prs L.sub) W hV1 hA1 g2 hN hC1 hs hAC hVA g4 g5 g6 g7).mono ?_;rintro e w' ⟨q,v,rfl,hq,_,hown,hA',hK'⟩;exact⟨q,v,.slice none 0 0,rfl,hq,⟨v,hq,qG3 hown⟩,⟨hK'.heap hV1 (by simpa using hVA),⟨_,hA'⟩,hK'.heap hC1 (by simpa using hAC)⟩,hK'⟩
  | succ n=>
   obtain⟨g1,g2,g3,hs',g4,g5,g6,g7,g8,g9⟩:=hL;rw[g5];refine (zN7 V A N C calls writes b l hs' ((n+1:Nat):Int) (by omega) (by omega) W hV1 hA1 g2 hN hC1 hs hAC hVA g6 (Laid.links g4 g7 hN) g8 g9).mono ?_;rintro e w' ⟨q,v,rfl,hq,_,hown,hA',hK'⟩;exact⟨q,.slice none 0 0,v,rfl,hq,⟨v,hq,hs',qG3 hown,⟨g4.1,fun i h1 h2=>(g4.2 i h1 h2).mono (fun _ h=>h.elim) (fun _ _ h=>h)⟩⟩,⟨hK'.heap hV1 (by simpa using hVA),⟨_,hA'⟩,hK'.heap hC1 (by simpa using hAC)⟩,hK'⟩
 have hptr:h.ptr=none:=by simp[HL.ptr,hp]
 rw[φ,qC5,hptr,hb,hss];clear hr hd hL hA hp hb hss hptr;go_enter func87,ntmps87;go_wp2_with fail;obtain⟨w0,hw0,hK0⟩:∃ w0,w0=(w.alloc (.cells #[.pointer (some ⟨V,0,none⟩),.string r.key,.int .i64 r.b,.int .u64 r.s,.pointer r.ptr] 83)).alloc (.cells #[.string h.key,.int .i64 (b:Int),.int .u64 s,.pointer none] 81)∧Kp [] w w0:=⟨_,rfl,((Kp.refl _ _).alloc _).alloc _⟩;rw[←hw0];clear hw0;refine (HREAD.out w0 hK0).mono ?_;rintro e w1 ⟨q,vp,vl,rfl,hq,hRN,hD1,hK1⟩;have hqs:=ζ hq;have c0:=ξ hq 0;simp only[υ,zG,zH,zI] at c0;have hna:¬a≤(n:Int):=by omega
 have HEND:Hid (RN (Laid N l) n w1 q L.sub∧Devl V A N C l writes w1∧Kp [A] w w1):=⟨hRN,hD1,(hK0.mono (by simp)).tr hK1⟩;clear hq hRN hD1 hK1 hK0 HREAD;go_wp2;go_ret;exact⟨q,rfl,HEND.out⟩
def EL(V A N C:Nat)(l:List UInt8)(writes:Int)(hN:N≤1000)(hs:N*128≤l.length)(hAC:C≠A)(hVA:V≠A):SEnv where
 O:=Laid N l
 V:=V
 S:=[A]
 Dev:=Devl V A N C l writes
 keep:=fun w w' L hd hK hL=>by
  obtain⟨calls,hA⟩:=hd.hA;have h1:∀ k c t fr,w.heap[k]?=some (.cells c t fr)→t ∉ zD2→k ∉ L:=fun k c t fr e ht hm=>by
   obtain⟨c',t',fr',e',h'⟩:=hL k hm;rw[e] at e';cases e';exact ht h'
  exact⟨hK.heap hd.hV (h1 _ _ _ _ hd.hV (by decide)),⟨_,hK.heap hA (h1 _ _ _ _ hA (by decide))⟩,hK.heap hd.hC (h1 _ _ _ _ hd.hC (by decide))⟩
 apt:=fun w hd k hk c t fr e=>by
  obtain⟨calls,hA⟩:=hd.hA;rw[List.mem_singleton.1 hk,hA] at e;cases e;decide
 low:=fun w hd k hk=>by
  obtain⟨calls,hA⟩:=hd.hA;rw[List.mem_singleton.1 hk];exact ζ hA
 pos:=fun n b s t h=>by have:=h.at;omega
 lvl:=fun n b s t h=>h.at.2.2.2.2
 read:=fun n h r L a w hd hr hp ha=>jR3 V A N C l writes hN hs hAC hVA n h r L a w hd hr hp ha
 keepX:=fun w w' L hd hK hL=>by
  obtain⟨calls,hA⟩:=hd.hA;exact⟨hK.heap hd.hV (fun hm=>hL _ hm _ _ _ hd.hV (by decide)),⟨_,hK.heap hA (fun hm=>hL _ hm _ _ _ hA (by decide))⟩,hK.heap hd.hC (fun hm=>hL _ hm _ _ _ hd.hC (by decide))⟩
 offS:=fun w hd k hk=>by
  obtain⟨calls,hA⟩:=hd.hA;rw[List.mem_singleton.1 hk];exact⟨_,_,_,hA,by decide⟩
theorem zY8:∀ xs:List Int,(∀ x∈xs,0≤x∧x<256)→qB0 xs.length (qL5 xs)=xs
 | [],_=>rfl
 | x::xs,h=>by
  have hx:=h x (by simp);have ih:=zY8 xs (fun y hy=>h y (by simp[hy]));simp only[List.length_cons,qL5,qB0];rw[show (x+256*qL5 xs) % 256=x by omega,show (x+256*qL5 xs) / 256=qL5 xs by omega,ih]
theorem zY7(l:List UInt8)(h:l.length≤8):qB0 l.length (qE4 (qD2 l))=qD2 l:=by
 have hb:=zA3 l;rw[zD6 _ hb (by rw[qU0];exact h)];have:=zY8 _ hb
 rwa [qU0] at this
theorem qY3(l:List UInt8)(h:l.length≤8):0≤qE4 (qD2 l)∧qE4 (qD2 l)<(256:Int) ^ l.length:=by
 have hb:=zA3 l;rw[zD6 _ hb (by rw[qU0];exact h)];have:=zK3 _ hb
 rwa [qU0] at this
theorem xH9(l:List UInt8):toB (qD2 l)=l:=by
 unfold toB qD2;rw[List.map_map];refine Eq.trans (List.map_congr_left (g:=id) fun b _=>?_) (List.map_id _);simp only[Function.comp,Int.toNat_natCast,id];exact UInt8.ofNat_toNat
theorem qR5(l:List UInt8):(ByteArray.mk l.toArray).size=l.length:=by simp[ByteArray.size]
theorem qT4{α:Type}(l:List α)(a b:Nat):l.take (a+b)=l.take a++(l.drop a).take b:=List.take_add
theorem jM7(bl:List UInt8)(off kn vn:Nat)(hin:off+(1+kn+vn)≤bl.length)(x:UInt8)(hx0:bl[off]?=some x)(hx:x.toNat=kn*16+vn)(h1:1≤kn)(h2:kn≤8)(h3:vn≤12):
  ∃ p,qC3 p∧ν p=1+kn+vn∧(bl.drop off).take (ν p)=toB (qD6 p):=by
 have lk:((bl.drop (off+1)).take kn).length=kn:=by simp;omega
 have lv:((bl.drop (off+1+kn)).take vn).length=vn:=by simp;omega
 have hps:ν ⟨⟨((bl.drop (off+1)).take kn).toArray⟩,⟨((bl.drop (off+1+kn)).take vn).toArray⟩⟩=1+kn+vn:=by
  simp only[ν,qR5,lk,lv]
 refine⟨⟨⟨((bl.drop (off+1)).take kn).toArray⟩,⟨((bl.drop (off+1+kn)).take vn).toArray⟩⟩,⟨?_,?_,?_⟩,hps,?_⟩
 ·show 1≤(ByteArray.mk ((bl.drop (off+1)).take kn).toArray).size;rw[qR5,lk];exact h1
 ·show (ByteArray.mk ((bl.drop (off+1)).take kn).toArray).size≤8;rw[qR5,lk];exact h2
 ·show (ByteArray.mk ((bl.drop (off+1+kn)).take vn).toArray).size≤12;rw[qR5,lv];exact h3
 ·have e1:toB [((kn:Nat):Int)*16+((vn:Nat):Int)]=[x]:=by
   simp only[toB,List.map_cons,List.map_nil];rw[show (((kn:Nat):Int)*16+((vn:Nat):Int)).toNat=x.toNat by omega,UInt8.ofNat_toNat]
  rw[hps,qD6,qH4,qH4,qR7,qR7];simp only[qR5,lk,lv,e1];rw[Nat.add_assoc,qT4,qT4,List.drop_drop,List.drop_drop,List.append_assoc]
  congr 1
  rw[List.take_one,List.head?_drop,hx0];rfl
theorem jI7(bl:List UInt8)(off kn:Nat)(hin:off+(11+kn)≤bl.length)(x:UInt8)(hx0:bl[off+10]?=some x)(hx:x.toNat=kn)(h2:kn≤8):
  ∃ h:HL,h.p=none∧h.key.size≤8∧0≤h.b∧h.b<65536∧0≤h.s∧h.s<18446744073709551616∧ψ h=11+kn∧(bl.drop off).take (ψ h)=toB (qD9 h):=by
 have lb:((bl.drop off).take 2).length=2:=by simp;omega
 have ls:((bl.drop (off+2)).take 8).length=8:=by simp;omega
 have lk:((bl.drop (off+11)).take kn).length=kn:=by simp;omega
 have b2:=qY3 ((bl.drop off).take 2) (by omega);have b8:=qY3 ((bl.drop (off+2)).take 8) (by omega);rw[lb] at b2;rw[ls] at b8;have p2:(256:Int) ^ 2=65536:=by decide
 have p8:(256:Int) ^ 8=18446744073709551616:=by decide
 have n2:=zY7 ((bl.drop off).take 2) (by omega);have n8:=zY7 ((bl.drop (off+2)).take 8) (by omega);rw[lb] at n2;rw[ls] at n8;refine⟨⟨⟨((bl.drop (off+11)).take kn).toArray⟩,qE4 (qD2 ((bl.drop off).take 2)),qE4 (qD2 ((bl.drop (off+2)).take 8)),none⟩,rfl,by show (ByteArray.mk _).size≤8;rw[qR5,lk];exact h2,b2.1,by rw[←p2];exact b2.2,b8.1,by rw[←p8];exact b8.2,by simp only[ψ,qR5,lk],?_⟩;have e1:toB [((kn:Nat):Int)]=[x]:=by
  simp only[toB,List.map_cons,List.map_nil];rw[show (((kn:Nat):Int)).toNat=x.toNat by omega,UInt8.ofNat_toNat]
 simp only[ψ,qD9,qR5,lk];rw[qH4,qH4,qH4,qR7,n2,n8,xH9,xH9,e1];rw[show 11+kn=2+(8+(1+kn)) by omega,qT4,qT4,qT4,List.drop_drop,List.drop_drop,List.drop_drop,List.append_assoc,List.append_assoc,show off+2+8=off+10 by omega,show off+10+1=off+11 by omega]
 congr 2
 rw[List.take_one,List.head?_drop,hx0];rfl
theorem qZ0{w:World}{B off:Nat}{bl:List UInt8}{t:TypeId}{x:UInt8}(hB:w.heap[B]?=some (.cells (enc bl) t))(hx:bl[off]?=some x):w.cell? ⟨B,off,none⟩=some (.int .u8 ((x.toNat:Nat):Int)):=by
 rw[ξ hB];unfold enc qC6;rw[zG,List.getElem?_map,hx];rfl
theorem jN7(B off o:Nat)(bl:List UInt8)(v:Value)(w:World)(hB:w.heap[B]?=some (.cells (enc bl) 223))(hbl:bl.length=128)(hoff:off≤128)(ho:off<128→o=off)
  (hno:∀ p,qC3 p→off+ν p≤128→(bl.drop off).take (ν p)≠toB (qD6 p)):
  Calls prog 190 #[v,.slice (some ⟨B,o,none⟩) (128-off) (128-off)] w fun e w'=>e=.returned (.tuple #[.slice none 0 0,.slice none 0 0,.bool false])∧∃ m,w'=w.drewN m:=by
 by_cases h128:off=128
 ·rw[h128,show 128-128=0 from rfl];clear ho hno hB h128 hoff;go_enter func190,ntmps190;go_wp2
  go_ret3
  exact⟨rfl,0,rfl⟩
 ·have hlt:off<128:=by omega
  rw[ho hlt];obtain⟨x,hx⟩:∃ x,bl[off]?=some x:=⟨_,List.getElem?_eq_getElem (by omega)⟩;have hxb:=x.toNat_lt;obtain⟨m,hm⟩:∃ m,m=128-off:=⟨_,rfl⟩;obtain⟨y,hy⟩:∃ y:Int,y=((x.toNat:Nat):Int):=⟨_,rfl⟩;obtain⟨kn,hkn⟩:∃ kn:Nat,kn=x.toNat / 16:=⟨_,rfl⟩;obtain⟨vn,hvn⟩:∃ vn:Nat,vn=x.toNat % 16:=⟨_,rfl⟩;have hk16:y / 16=(kn:Int):=by omega
  have hv16:y % 16=(vn:Int):=by omega
  have b0:=qZ0 hB hx;rw[←hy] at b0;have hbad:(kn:Int)<1∨(8:Int)<(kn:Int)∨(12:Int)<(vn:Int)∨(m:Int)<1+(kn:Int)+(vn:Int):=by
   refine Classical.byContradiction fun hc=>?_;have h1:1≤kn∧kn≤8∧vn≤12∧1+kn+vn≤m:=by omega
   obtain⟨p,hp,hps,he⟩:=jM7 bl off kn vn (by omega) x hx (by omega) h1.1 h1.2.1 h1.2.2.1;exact hno p hp (by omega) he
  have hm1:(0:Int)<(m:Int):=by omega
  have hm0:((m:Int) == 0)=false:=by simp;omega
  have hBs:=ζ hB;have hv15:vn<16:=by omega
  have hk15:kn<16:=by omega
  rw[←hm];clear hno ho hx hxb hkn hvn hy hm hB hoff hlt h128 hbl;go_enter func190,ntmps190;by_cases c1:(kn:Int)<1
  ·skip
   go_wp2_with fail
   go_quiet (fail)
   go_wp2
   go_ret3
   exact⟨rfl,_,rfl⟩
  ·by_cases c2:(8:Int)<(kn:Int)
   ·skip
    go_wp2_with fail
    go_quiet (fail)
    go_wp2
    go_ret3
    exact⟨rfl,_,rfl⟩
   ·by_cases c3:(12:Int)<(vn:Int)
    ·skip
     go_wp2_with fail
     go_quiet (fail)
     go_wp2
     go_ret3
     exact⟨rfl,_,rfl⟩
    ·have c4:(m:Int)<1+(kn:Int)+(vn:Int):=by omega
     go_wp2_with fail
     go_quiet (fail)
     go_wp2
     go_ret3
     exact⟨rfl,_,rfl⟩
theorem jN6(B off o:Nat)(bl:List UInt8)(v:Value)(w:World)(hB:w.heap[B]?=some (.cells (enc bl) 223))(hbl:bl.length=128)(hoff:off≤128)(ho:off<128→o=off)
  (hno:∀ h:HL,h.p=none∧h.key.size≤8∧0≤h.b∧h.b<65536∧0≤h.s∧h.s<18446744073709551616→off+ψ h≤128→(bl.drop off).take (ψ h)≠toB (qD9 h)):
  Calls prog 191 #[v,.slice (some ⟨B,o,none⟩) (128-off) (128-off)] w fun e w'=>e=.returned (.tuple #[.slice none 0 0,.slice none 0 0,.bool false])∧∃ m,w'=w.drewN m:=by
 by_cases h11:128-off<11
 ·obtain⟨m,hm⟩:∃ m,m=128-off:=⟨_,rfl⟩;rw[←hm] at h11 ⊢;have hm11:(m:Int)<11:=by omega
  clear ho hno hB h11 hoff hm;go_enter func191,ntmps191;go_wp2
  go_ret3
  exact⟨rfl,0,rfl⟩
 ·have hlt:off<128:=by omega
  rw[ho hlt];obtain⟨x,hx⟩:∃ x,bl[off+10]?=some x:=⟨_,List.getElem?_eq_getElem (by omega)⟩;have hxb:=x.toNat_lt;obtain⟨m,hm⟩:∃ m,m=128-off:=⟨_,rfl⟩;obtain⟨kn,hkn⟩:∃ kn:Nat,kn=x.toNat:=⟨_,rfl⟩;have b10:=qZ0 hB hx;rw[←hkn] at b10;have hbad:(8:Int)<(kn:Int)∨(m:Int)<11+(kn:Int):=by
   refine Classical.byContradiction fun hc=>?_;have h1:kn≤8∧11+kn≤m:=by omega
   obtain⟨h,a1,a2,a3,a4,a5,a6,hps,he⟩:=jI7 bl off kn (by omega) x hx hkn.symm h1.1;exact hno h ⟨a1,a2,a3,a4,a5,a6⟩ (by omega) he
  have hm11:¬(m:Int)<11:=by omega
  have hmx:(10:Int)<(m:Int):=by omega
  have hBs:=ζ hB;have hk15:kn<256:=by omega
  rw[←hm];clear hno ho hx hxb hkn hm hB hoff hlt h11 hbl;go_enter func191,ntmps191;by_cases c1:(8:Int)<(kn:Int)
  ·go_wp2
   go_ret3
   exact⟨rfl,0,rfl⟩
  ·have c4:(m:Int)<11+(kn:Int):=by omega
   go_wp2
   go_ret3
   exact⟨rfl,0,rfl⟩
variable {κ:Nat}
theorem xK0(l:List UInt8)(i:Nat)(v:UInt8):(enc l).setIfInBounds i (.int .u8 ((v.toNat:Nat):Int))=enc (l.set i v):=by
 unfold enc qC6;rw[zA,List.map_set]
theorem zF4(c n:Int)(hc0:-9223372036854775808≤c)(hc1:c≤9223372036854775807)(h1:1≤n)(h2:n≤2147483648)(w:World):Calls prog 12 #[.int .i64 c,.int .i64 n] w fun e w'=>(∃ k:Int,e=.returned (.int .i64 k)∧0≤k∧k<n)∧w'=w:=by
 by_cases hn:c<0
 ·have e1:wrap64 (c+1)=c+1:=by simp only[wrap64];omega
  have e2:wrap64 (-(c+1))=-(c+1):=by simp only[wrap64];omega
  have e3:(-(c+1)).tmod n=(-(c+1)) % n:=Int.tmod_eq_emod_of_nonneg (by omega);have b1:=Int.emod_nonneg (-(c+1)) (show n≠0 by omega);have b2:=Int.emod_lt_of_pos (-(c+1)) (show 0<n by omega);have hn0:¬n=0:=by omega
  go_enter func12,ntmps12;go_wp2;go_ret;exact⟨⟨_,rfl,b1,b2⟩,rfl⟩
 ·have e3:c.tmod n=c % n:=Int.tmod_eq_emod_of_nonneg (by omega);have b1:=Int.emod_nonneg c (show n≠0 by omega);have b2:=Int.emod_lt_of_pos c (show 0<n by omega);have hn0:¬n=0:=by omega
  go_enter func12,ntmps12;go_wp2;go_ret;exact⟨⟨_,rfl,b1,b2⟩,rfl⟩
end Go.Proofs.YtdohpenfkdckiabGreatDoor
namespace Go.Proofs.YtdohpenfkdckiabGreatDoor
open Go.Proofs.Tryz
open Go.RowKit
open Go.ChangeMaps
def qG2{X:Type}(f:X→List Nat→List Nat)(ks:List Nat)(m:Lnk X):List Nat:=match m.ref with
 | none=>f m.sub ks
 | some x=>if x.1∈ks then ks else f m.sub (x.1::ks)
def qF6:(n:Nat)→Tn n→List Nat→List Nat
 | 0,_,ks=>ks
 | n+1,t,ks=>(η t).foldl (qG2 (qF6 n)) ks
def qA8(ks:List Nat):Root→List Nat
 | .none=>ks
 | .at n l=>qG2 (qF6 n) ks l
def qB9:Root→Nat
 | .none=>0
 | .at n l=>qB1 n l.sub
end Go.Proofs.YtdohpenfkdckiabGreatDoor
namespace Go.Proofs.YtdohpenfkdckiabGreatDoor
open Go.Proofs.Tryz
open Go.RowKit
theorem zL8{a b:ByteArray}(h:qM3 a=qM3 b):a=b:=by
 have e:=congrArg toB h;rw[qR7,qR7] at e;cases a;cases b;simp only at e
 congr 1
 exact Array.toList_inj.1 e
theorem jM6{p p':KV}(hp:qC3 p)(hp':qC3 p'){r r':List Int}(h:qD6 p++r=qD6 p'++r'):p=p'∧r=r':=by
 obtain⟨h1,h2,h3⟩:=hp;obtain⟨g1,g2,g3⟩:=hp';simp only[qD6,List.append_assoc,List.cons_append,List.nil_append,List.cons.injEq] at h;obtain⟨e0,e1⟩:=h;have ek:p.k.size=p'.k.size:=by omega
 have ev:p.v.size=p'.v.size:=by omega
 obtain⟨e2,e3⟩:=List.append_inj e1 (by rw[qR4,qR4,ek]);obtain⟨e4,e5⟩:=List.append_inj e3 (by rw[qR4,qR4,ev]);refine⟨?_,e5⟩;cases p;cases p';simp only at e2 e4;rw[zL8 e2,zL8 e4]
theorem zK9:∀ (ps ps':List KV) (r r':List Int),(∀ p∈ps,qC3 p)→(∀ p∈ps',qC3 p)→ps.length=ps'.length→ps.flatMap qD6++r=ps'.flatMap qD6++r'→ps=ps'
 | [],[],_,_,_,_,_,_=>rfl
 | [],_::_,_,_,_,_,h,_=>by cases h
 | _::_,[],_,_,_,_,h,_=>by cases h
 | p::ps,p'::ps',r,r',h1,h2,hl,h=>by
  rw[List.flatMap_cons,List.flatMap_cons,List.append_assoc,List.append_assoc] at h;obtain⟨e1,e2⟩:=jM6 (h1 p (by simp)) (h2 p' (by simp)) h;rw[e1,zK9 ps ps' r r' (fun q hq=>h1 q (by simp[hq])) (fun q hq=>h2 q (by simp[hq])) (by simpa using hl) e2]
theorem qT5{xs ys:List Int}(hx:∀ x∈xs,0≤x∧x<256)(hy:∀ x∈ys,0≤x∧x<256)(h:toB xs=toB ys):xs=ys:=by
 rw[←qK2 xs hx,←qK2 ys hy,h]
theorem qV0{lv lv':Int}{ps ps':List KV}{hs hs':List HL}(h:qA1 lv ps hs=qA1 lv' ps' hs'):lv=lv'∧ps.length+hs.length=ps'.length+hs'.length∧∃ r r',ps.flatMap qD6++(hs.flatMap qD9++r)=ps'.flatMap qD6++(hs'.flatMap qD9++r'):=by
 simp only[qA1,qK7,List.append_assoc,List.cons_append,List.nil_append,List.cons.injEq] at h;exact⟨h.1,by have:=h.2.1;omega,_,_,h.2.2⟩
end Go.Proofs.YtdohpenfkdckiabGreatDoor
namespace Go.Proofs.YtdohpenfkdckiabGreatDoor
open Go.Proofs.Tryz
open Go.RowKit
open Go.Maps (Keyed)
attribute [local go_sem] Oper.semAt_some
theorem qL0{w:World}{base:Nat}{e:TypeId}{sz:Nat}{v:Value}{n:Nat}{xs:List Value}(h:w.ownsRow base e sz v n xs):∃ bs cp,v=.slice bs n cp:=by
 rcases h.2 with⟨h1,h2⟩|⟨g,cap,cur,h1,_⟩
 ·exact⟨none,0,by rw[h1,h2]⟩
 ·exact⟨_,cap,h1⟩
end Go.Proofs.YtdohpenfkdckiabGreatDoor
namespace Go.Proofs.YtdohpenfkdckiabGreatDoor
open Go.Proofs.Tryz
open Go.RowKit
theorem zB4:∀ (a ks:List Nat),a.Nodup→a.length≤(a.filter (fun k=>decide (k ∉ ks))).length+ks.length
 | [],ks,_=>by simp
 | x::a,ks,h=>by
  obtain⟨hx,ha⟩:=List.nodup_cons.1 h;by_cases hm:x∈ks
  ·have ih:=zB4 a (ks.erase x) ha;have e:a.filter (fun k=>decide (k ∉ ks.erase x))=a.filter (fun k=>decide (k ∉ ks)):=List.filter_congr fun y hy=>by
    have hne:y≠x:=fun e=>hx (e ▸ hy);simp[List.mem_erase_of_ne hne]
   have e2:(x::a).filter (fun k=>decide (k ∉ ks))=a.filter (fun k=>decide (k ∉ ks)):=by rw[List.filter_cons_of_neg (by simp[hm])]
   have e3:=List.length_erase_of_mem hm;have e4:1≤ks.length:=List.length_pos_of_mem hm;rw[e] at ih;rw[e2,List.length_cons];omega
  ·have ih:=zB4 a ks ha;rw[List.filter_cons_of_pos (by simp[hm]),List.length_cons,List.length_cons];omega
theorem qT3{r:Root}(h:RGood r):2*qB9 r≤r.cont.length+1:=by
 cases r with
 | none=>simp[qB9]
 | «at» n l=>
  have h1:=qY1 n _ _ h.2.1;have h2:=h.2.2;show 2*qB1 n l.sub≤(cont n l.sub).length+1;omega
end Go.Proofs.YtdohpenfkdckiabGreatDoor
namespace Go.Proofs.YtdohpenfkdckiabGreatDoor
open Go.Proofs.Tryz
open Go.RowKit
open Go.Maps (Keyed)
def Lie(N:Nat)(l:List UInt8)(rb rs:Int):Root→Prop
 | .none=>rb=0∧rs=0
 | .at n L=>∃ b:Nat,rb=(b:Int)∧L.ref=some (b,rs)∧Laid N l n b rs L.sub
theorem Lie.rr{N:Nat}{l:List UInt8}{rb rs:Int}{r:Root}(h:Lie N l rb rs r)(hg:RGood r){V A C:Nat}{wr:Int}{hN:N≤1000}{hs:N*128≤l.length}{hAC:C≠A}{hVA:V≠A}(w:World):RR (EL V A N C l wr hN hs hAC hVA).toEnv w ⟨⟨#[]⟩,rb,rs,none⟩ r:=by
 cases r with
 | none=>obtain⟨rfl,rfl⟩:=h;rfl
 | «at» n L=>
  obtain⟨b,rfl,h2,h3⟩:=h;refine⟨hg.1.symm,?_⟩;rw[h2];exact⟨rfl,rfl,rfl,h3⟩
end Go.Proofs.YtdohpenfkdckiabGreatDoor
