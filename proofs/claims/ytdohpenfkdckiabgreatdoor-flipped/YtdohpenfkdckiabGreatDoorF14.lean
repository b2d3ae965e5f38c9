import Derived.Test.YtdohpenfkdckiabGreatDoorF13
set_option linter.all false
set_option maxRecDepth 100000
set_option maxHeartbeats 20000000
namespace Go.Proofs.YtdohpenfkdckiabGreatDoor
open Go.Proofs.Tryz
open Go.RowKit
theorem jM1(ps:List KV)  (w:World) (hz:∀ p∈ps,qC5 p) (hm:2+meas μ ps≤128) (hn:ps.length≤126):
  Calls prog 166 #[.agg (enc (toB (qA1 0 ps [])))] w fun e w'=>∃ q v,e=.returned (.tuple #[.pointer (some ⟨q,0,none⟩),.bool true])∧w'.heap[q]?=some (.cells #[.int .i64 0,v,.slice none 0 0] 152)∧w.heap.size≤q∧
   w'.ownsRow w.heap.size 158 2 v ps.length (qA8 ps)∧Kp [] w w':=by
 have hby:=qG9 0 ps [] (by omega) (by omega) (by simp;omega) hz (by simp);have HNL:Hid ((qA1 0 ps []).length=128):=qO2 0 ps [] (by simpa [qD1] using hm);obtain⟨cn,hcn⟩:∃ cn:Nat,cn=ps.length:=⟨_,rfl⟩;have hcs:=qR5 (toB (qA1 0 ps [])) 0 128 (qA1 0 ps []) hby HNL.out (by rw[List.drop_zero,List.take_of_length_le (by rw[qH0];exact Nat.le_of_eq HNL.out)]);have b0:(enc (toB (qA1 0 ps [])))[0]?=some (.int .u8 0):=hcs 0 (by omega);have b1:(enc (toB (qA1 0 ps [])))[1]?=some (.int .u8 (cn:Int)):=by
  rw[hcn];have h:=hcs 1 (by omega);simpa [qA1,qK3] using h
 have hes:(enc (toB (qA1 0 ps []))).size=128:=by rw[qE6,qH0];exact HNL.out
 obtain⟨E,hE⟩:∃ E,E=enc (toB (qA1 0 ps [])):=⟨_,rfl⟩;have HE:Hid (E=enc (toB (qA1 0 ps []))∧E.size=128):=⟨hE,by rw[hE];exact hes⟩;rw[←hE] at b0 b1;rw[←hE];have HCN:=zh hcn;have HZ:=zh hz;have HM:=zh hm;clear hcs hcn hby hz hm hes hE;go_enter func166,ntmps166;go_wp2_with fail;have hE0:=θ (.cells #[.int .i64 0,.slice none 0 0,.slice none 0 0] 152) (ν w (.cells E 223));have hN0:=ν (w.alloc (.cells E 223)) (.cells #[.int .i64 0,.slice none 0 0,.slice none 0 0] 152);rw[show (w.alloc (.cells E 223)).heap.size=w.heap.size+1 from by simp] at hN0;have hK0:Kp [] w ((w.alloc (.cells E 223)).alloc (.cells #[.int .i64 0,.slice none 0 0,.slice none 0 0] 152)):=((Kp.refl _ _).alloc _).alloc _;have h126:∀ o:Nat,2+meas μ (ps.take 0)=o→o=2:=fun o h=>by rw[←h];simp[qD1]
 go_loopw [5,6,15] (fun r o i wr=>∃ (j off:Nat) (vj:Value),j≤ps.length∧i=.int .u8 j∧o=.bool true∧Hid (off=2+meas μ (ps.take j))∧Hid (off<128→r=.slice (some ⟨w.heap.size,off,none⟩) (128-off) (128-off))∧Hid (wr.heap[w.heap.size]?=some (.cells E 223))∧Hid (wr.heap[w.heap.size+1]?=some (.cells #[.int .i64 0,vj,.slice none 0 0] 152))∧Hid (wr.ownsRow w.heap.size 158 2 vj j (qA8 (ps.take j)))∧Hid (Kp [] w wr)) (fun _ _ i _=>ps.length-(intOf i).toNat)
 case atStart=>exact⟨0,2,.slice none 0 0,Nat.zero_le _,rfl,rfl,by show _=_;simp[qD1],fun _=>rfl,hE0,hN0,by show World.ownsRow _ _ _ _ _ _ _;exact World.ownsRow_nil _ _ _ _,hK0⟩
 case round=>
  obtain⟨j,off,vj,hj,rfl,rfl,HOFF,HR,HB,HN,HO,HKP⟩:=hrel;clear hE0 hN0 hK0 h126 b0 b1;by_cases hlt:j<ps.length
  ·have hjb:(j:Int)<(cn:Int):=by have:=HCN.out;omega
   have hz0:=HZ.out ps[j] (List.getElem_mem hlt);have hmj:=qW7 μ ps j hlt;have hoffj:off+μ ps[j]≤128:=by have:=HOFF.out;have:=HM.out;omega
   have hFp:0<μ ps[j]:=by unfold μ;omega
   have hr:=HR.out (by omega);subst hr;have HEN:Hid (((toB (qA1 0 ps [])).drop off).take (μ ps[j])=toB (qD2 ps[j])):=by show _=_;rw[HOFF.out];exact jF6 ps  j hlt
   have hN:=HN.out;have hNs:=ζ hN;have n0:=ξ hN;have fn1:=ω hN 1;clear hN;go_wp2_with fail;have hBE:wr.heap[w.heap.size]?=some (.cells (enc (toB (qA1 0 ps []))) 223):=by rw[←HE.out.1];exact HB.out
   refine (zZ9 w.heap.size w.heap.size off (toB (qA1 0 ps [])) ps[j] (ps.take j) _ wr hBE (by rw[qH0];exact HNL.out) hz0 (by omega) HEN.out (by rw[List.length_take,Nat.min_eq_left (by omega)];exact HO.out) (by have:=HKP.out.size;omega) (by rw[List.length_take];omega)).mono ?_;rintro e w1 ⟨v1,r1,rfl,hr1,_,hown1,hbl1,hst1⟩;have hjl:(ps.take j).length=j:=by rw[List.length_take,Nat.min_eq_left (by omega)]
   rw[hjl] at hown1;obtain⟨g1,cap1,rfl⟩:=qJ1 hown1;have hsn:ps.take j++[ps[j]]=ps.take (j+1):=(List.take_succ_eq_append_getElem hlt).symm;rw[hsn] at hown1;have hN1:=hst1 _ _ _ _ HN.out (by decide);have hB1:=hst1 _ _ _ _ HB.out (by decide);have hN1s:=ζ hN1;have m1:=ξ hN1 1;simp only[zG,zH,zI] at m1;have fm1:=ω hN1 1;have HN1:=zh hN1;have HB1:=zh hB1;have HO1:=zh hown1;have HK1:Hid (Kp [] w w1):=Kp.of_below ((HKP.out.below (Nat.le_refl _) (by simp)).trans hbl1) (Nat.le_refl _);have HR1:=zh hr1;have HOF1:Hid (off+μ ps[j]=2+meas μ (ps.take (j+1))):=by show _=_;rw[qL6 μ ps j hlt,HOFF.out];omega
   have hwj:IntKind.u8.wrap ((j:Int)+1)=(j:Int)+1:=by rw[IntKind.wrap_u8];omega
   clear hN1 hB1 hown1 hbl1 hst1 hr1 n0 fn1 hsn hjl hBE;go_wp2;have hKs:Kp [w.heap.size+1] w1 (w1.setCell ⟨w.heap.size+1,1,none⟩ (.slice (some ⟨g1,0,none⟩) (j+1) cap1)):=(Kp.refl _ _).sc _;exact⟨⟨j+1,off+μ ps[j],_,by omega,by go_num,rfl,HOF1,HR1,hKs.hp HB1.out,ψ HN1.out 1 _,qF4 HO1.out hKs (fun q hq c t fr e=>by rw[List.mem_singleton.1 hq,HN1.out] at e;cases e;decide),HK1.out.tr hKs⟩,by simp[intOf];omega⟩
  ·have hjb:¬(j:Int)<(cn:Int):=by have:=HCN.out;omega
   have hje:ps.take j=ps:=List.take_of_length_le (by omega);have hjl:j=ps.length:=by omega
   have hOe:=HO.out;rw[hje,hjl] at hOe;have HOE:=zh hOe;clear hje hOe;go_wp2_with fail;have hSd:wr.drew.heap[w.heap.size]?=some (.cells E 223):=HB.out;refine wp_region_held_drew (S:=fun W=>W.heap[w.heap.size]?=some (.cells E 223)) (by kernel_rfl) hSd (fun _=>?_);refine zU 0 (.pointer (some ⟨w.heap.size+1,0,none⟩)) hSd ?_;refine zU 1 (.pointer (some ⟨w.heap.size+1,0,none⟩)) hSd ?_;refine zV 3 (.agg E) rfl (fun W hS=>qK0 (t:=223) rfl (by kernel_rfl) 128 (by kernel_rfl) w.heap.size rfl hS HE.out.2) hSd ?_;refine zq 2 fun K hK=>?_;go_simp;refine (qV8 (w.heap.size+1) 0 vj (.slice none 0 0) ps [] wr.drew HN.out (by omega) (by omega) (qG3 HOE.out) ⟨rfl,Or.inl ⟨rfl,none,0,rfl,fun _=>rfl⟩⟩ (by simpa [qD1] using HM.out) (by simp;omega) HZ.out (by simp)).mono ?_;rintro e w1 ⟨rfl,hK1⟩;have hS1:=hK1.hp hSd;refine hK.out _ _ hS1 (fun _=>?_);clear hK K;have heq:(u8s (qA1 0 ps [])).toArray=E:=by rw[HE.out.1,enc,←qV2 _ (qG9 0 ps [] (by omega) (by omega) (by simp;omega) HZ.out (by simp))]
   rw[heq]
   try simp only[zZ]
   have hbE:allBytes E:=by rw[HE.out.1];exact qH1 _
   refine zV 4 (.bool true) rfl (fun W hS=>by have h:=zO6 E HE.out.2 hbE W;clear hS;go_simp) hS1 ?_;refine zq 5 fun K hK=>?_;go_simp;refine hK.out _ _ hS1 (fun _=>?_);clear hK K
   try simp only[zZ]
   refine zq 6 fun K hK=>?_;go_simp;refine hK.out _ _ hS1 (fun _=>?_);clear hK K
   try simp only[zZ]
   refine zd ?_;have hKw:Kp [] wr w1:=((Kp.refl _ wr).drew).tr hK1;have HW:=zh hKw;clear hKw hK1 hS1 hSd;go_wp2
   go_ret2
   exact⟨w.heap.size+1,vj,rfl,HW.out.hp HN.out,by omega,qF4 HOE.out HW.out (Apt.nil _ _),HKP.out.tr HW.out⟩
theorem jL9(ps:List HL)(lv:Int)(hlv0:0<lv)(hlv1:lv<256)(w:World)(hz:∀ p∈ps,p.p=none∧p.key.size≤8∧0≤p.b∧p.b<65536∧0≤p.s∧p.s<18446744073709551616)(hm:2+meas φ ps≤128)(hn:ps.length≤126):
  Calls prog 166 #[.agg (enc (toB (qA1 lv [] ps)))] w fun e w'=>∃ q v,e=.returned (.tuple #[.pointer (some ⟨q,0,none⟩),.bool true])∧w'.heap[q]?=some (.cells #[.int .i64 lv,.slice none 0 0,v] 152)∧w.heap.size≤q∧
   w'.ownsRow w.heap.size 81 4 v ps.length (qA5 ps)∧Kp [] w w':=by
 have hby:=qG9 lv [] ps (by omega) hlv1 (by simp;omega) (by simp) (fun p hp=>(hz p hp).2.1);have HNL:Hid ((qA1 lv [] ps).length=128):=qO2 lv [] ps (by simpa [qD1] using hm);obtain⟨cn,hcn⟩:∃ cn:Nat,cn=ps.length:=⟨_,rfl⟩;have hcs:=qR5 (toB (qA1 lv [] ps)) 0 128 (qA1 lv [] ps) hby HNL.out (by rw[List.drop_zero,List.take_of_length_le (by rw[qH0];exact Nat.le_of_eq HNL.out)]);have b0:(enc (toB (qA1 lv [] ps)))[0]?=some (.int .u8 lv):=hcs 0 (by omega);have b1:(enc (toB (qA1 lv [] ps)))[1]?=some (.int .u8 (cn:Int)):=by
  rw[hcn];have h:=hcs 1 (by omega);simpa [qA1,qK3] using h
 have hes:(enc (toB (qA1 lv [] ps))).size=128:=by rw[qE6,qH0];exact HNL.out
 obtain⟨E,hE⟩:∃ E,E=enc (toB (qA1 lv [] ps)):=⟨_,rfl⟩;have HE:Hid (E=enc (toB (qA1 lv [] ps))∧E.size=128):=⟨hE,by rw[hE];exact hes⟩;rw[←hE] at b0 b1;rw[←hE];have HCN:=zh hcn;have HZ:=zh hz;have HM:=zh hm;clear hcs hcn hby hz hm hes hE;go_enter func166,ntmps166;go_wp2_with fail;have hE0:=θ (.cells #[.int .i64 lv,.slice none 0 0,.slice none 0 0] 152) (ν w (.cells E 223));have hN0:=ν (w.alloc (.cells E 223)) (.cells #[.int .i64 lv,.slice none 0 0,.slice none 0 0] 152);rw[show (w.alloc (.cells E 223)).heap.size=w.heap.size+1 from by simp] at hN0;have hK0:Kp [] w ((w.alloc (.cells E 223)).alloc (.cells #[.int .i64 lv,.slice none 0 0,.slice none 0 0] 152)):=((Kp.refl _ _).alloc _).alloc _;have h126:∀ o:Nat,2+meas φ (ps.take 0)=o→o=2:=fun o h=>by rw[←h];simp[qD1]
 go_loopw [5,6,15] (fun r o i wr=>∃ (j off:Nat) (vj:Value),j≤ps.length∧i=.int .u8 j∧o=.bool true∧Hid (off=2+meas φ (ps.take j))∧Hid (off<128→r=.slice (some ⟨w.heap.size,off,none⟩) (128-off) (128-off))∧Hid (wr.heap[w.heap.size]?=some (.cells E 223))∧Hid (wr.heap[w.heap.size+1]?=some (.cells #[.int .i64 lv,.slice none 0 0,vj] 152))∧Hid (wr.ownsRow w.heap.size 81 4 vj j (qA5 (ps.take j)))∧Hid (Kp [] w wr)) (fun _ _ i _=>ps.length-(intOf i).toNat)
 case atStart=>exact⟨0,2,.slice none 0 0,Nat.zero_le _,rfl,rfl,by show _=_;simp[qD1],fun _=>rfl,hE0,hN0,by show World.ownsRow _ _ _ _ _ _ _;exact World.ownsRow_nil _ _ _ _,hK0⟩
 case round=>
  obtain⟨j,off,vj,hj,rfl,rfl,HOFF,HR,HB,HN,HO,HKP⟩:=hrel;clear hE0 hN0 hK0 h126 b0 b1;by_cases hlt:j<ps.length
  ·have hjb:(j:Int)<(cn:Int):=by have:=HCN.out;omega
   have hz0:=HZ.out ps[j] (List.getElem_mem hlt);have hmj:=qW7 φ ps j hlt;have hoffj:off+φ ps[j]≤128:=by have:=HOFF.out;have:=HM.out;omega
   have hFp:0<φ ps[j]:=by unfold φ;omega
   have hr:=HR.out (by omega);subst hr;have HEN:Hid (((toB (qA1 lv [] ps)).drop off).take (φ ps[j])=toB (qD3 ps[j])):=by show _=_;rw[HOFF.out];exact jF5 ps lv hlv0 hlv1 j hlt
   have hN:=HN.out;have hNs:=ζ hN;have n0:=ξ hN;have fn1:=ω hN 2;clear hN;go_wp2_with fail;have hBE:wr.heap[w.heap.size]?=some (.cells (enc (toB (qA1 lv [] ps))) 223):=by rw[←HE.out.1];exact HB.out
   refine (zZ8 w.heap.size w.heap.size off (toB (qA1 lv [] ps)) ps[j] (ps.take j) _ wr hBE (by rw[qH0];exact HNL.out) hz0.1 hz0.2.1 hz0.2.2.1 hz0.2.2.2.1 hz0.2.2.2.2.1 hz0.2.2.2.2.2 (by omega) HEN.out (by rw[List.length_take,Nat.min_eq_left (by omega)];exact HO.out) (by have:=HKP.out.size;omega) (by rw[List.length_take];omega)).mono ?_;rintro e w1 ⟨v1,r1,rfl,hr1,_,hown1,hbl1,hst1⟩;have hjl:(ps.take j).length=j:=by rw[List.length_take,Nat.min_eq_left (by omega)]
   rw[hjl] at hown1;obtain⟨g1,cap1,rfl⟩:=qJ1 hown1;have hsn:ps.take j++[ps[j]]=ps.take (j+1):=(List.take_succ_eq_append_getElem hlt).symm;rw[hsn] at hown1;have hN1:=hst1 _ _ _ _ HN.out (by decide);have hB1:=hst1 _ _ _ _ HB.out (by decide);have hN1s:=ζ hN1;have m1:=ξ hN1 2;simp only[zG,zH,zI] at m1;have fm1:=ω hN1 2;have HN1:=zh hN1;have HB1:=zh hB1;have HO1:=zh hown1;have HK1:Hid (Kp [] w w1):=Kp.of_below ((HKP.out.below (Nat.le_refl _) (by simp)).trans hbl1) (Nat.le_refl _);have HR1:=zh hr1;have HOF1:Hid (off+φ ps[j]=2+meas φ (ps.take (j+1))):=by show _=_;rw[qL6 φ ps j hlt,HOFF.out];omega
   have hwj:IntKind.u8.wrap ((j:Int)+1)=(j:Int)+1:=by rw[IntKind.wrap_u8];omega
   clear hN1 hB1 hown1 hbl1 hst1 hr1 n0 fn1 hsn hjl hBE;go_wp2;have hKs:Kp [w.heap.size+1] w1 (w1.setCell ⟨w.heap.size+1,2,none⟩ (.slice (some ⟨g1,0,none⟩) (j+1) cap1)):=(Kp.refl _ _).sc _;exact⟨⟨j+1,off+φ ps[j],_,by omega,by go_num,rfl,HOF1,HR1,hKs.hp HB1.out,ψ HN1.out 2 _,qF4 HO1.out hKs (fun q hq c t fr e=>by rw[List.mem_singleton.1 hq,HN1.out] at e;cases e;decide),HK1.out.tr hKs⟩,by simp[intOf];omega⟩
  ·have hjb:¬(j:Int)<(cn:Int):=by have:=HCN.out;omega
   have hje:ps.take j=ps:=List.take_of_length_le (by omega);have hjl:j=ps.length:=by omega
   have hOe:=HO.out;rw[hje,hjl] at hOe;have HOE:=zh hOe;clear hje hOe;go_wp2_with fail;have hSd:wr.drew.heap[w.heap.size]?=some (.cells E 223):=HB.out;refine wp_region_held_drew (S:=fun W=>W.heap[w.heap.size]?=some (.cells E 223)) (by kernel_rfl) hSd (fun _=>?_);refine zU 0 (.pointer (some ⟨w.heap.size+1,0,none⟩)) hSd ?_;refine zU 1 (.pointer (some ⟨w.heap.size+1,0,none⟩)) hSd ?_;refine zV 3 (.agg E) rfl (fun W hS=>qK0 (t:=223) rfl (by kernel_rfl) 128 (by kernel_rfl) w.heap.size rfl hS HE.out.2) hSd ?_;refine zq 2 fun K hK=>?_;go_simp;refine (qV8 (w.heap.size+1) lv (.slice none 0 0) vj [] ps wr.drew HN.out (by omega) hlv1 ⟨rfl,Or.inl ⟨rfl,none,0,rfl,fun _=>rfl⟩⟩ (qG3 HOE.out) (by simpa [qD1] using HM.out) (by simp;omega) (by simp) (fun p hp=>⟨(HZ.out p hp).2.1,(HZ.out p hp).2.2.1,by have:=(HZ.out p hp).2.2.2.1;omega,(HZ.out p hp).2.2.2.2.1⟩)).mono ?_;rintro e w1 ⟨rfl,hK1⟩;have hS1:=hK1.hp hSd;refine hK.out _ _ hS1 (fun _=>?_);clear hK K;have heq:(u8s (qA1 lv [] ps)).toArray=E:=by rw[HE.out.1,enc,←qV2 _ (qG9 lv [] ps (by omega) hlv1 (by simp;omega) (by simp) (fun p hp=>(HZ.out p hp).2.1))]
   rw[heq]
   try simp only[zZ]
   have hbE:allBytes E:=by rw[HE.out.1];exact qH1 _
   refine zV 4 (.bool true) rfl (fun W hS=>by have h:=zO6 E HE.out.2 hbE W;clear hS;go_simp) hS1 ?_;refine zq 5 fun K hK=>?_;go_simp;refine hK.out _ _ hS1 (fun _=>?_);clear hK K
   try simp only[zZ]
   refine zq 6 fun K hK=>?_;go_simp;refine hK.out _ _ hS1 (fun _=>?_);clear hK K
   try simp only[zZ]
   refine zd ?_;have hKw:Kp [] wr w1:=((Kp.refl _ wr).drew).tr hK1;have HW:=zh hKw;clear hKw hK1 hS1 hSd;go_wp2
   go_ret2
   exact⟨w.heap.size+1,vj,rfl,HW.out.hp HN.out,by omega,qF4 HOE.out HW.out (Apt.nil _ _),HKP.out.tr HW.out⟩
variable {κ:Nat}
theorem xA2(V A n C:Nat)(calls writes:Int)(i:Nat)(l:List UInt8)(ps:List KV)  (w:World) (hV:w.heap[V]?=some (qB6 A n)) (h:w.heap[A]?=some (χ κ n C (.slice none 0 0) calls writes))
  (hi:i<n) (hn:n≤1000) (hC:w.heap[C]?=some (.cells (enc l) 87)) (hs:n*128≤l.length) (hAC:C≠A) (hVA:V≠A) (hbl:qA0 l i=toB (qA1 0 ps [])) (hz:∀ p∈ps,qC5 p) (hm:2+meas μ ps≤128) (hnl:ps.length≤126):
  Calls prog 122 #[.pointer (some ⟨V,0,none⟩),.agg #[.int .i64 i,.int .u64 (fnv (qA1 0 ps []))]] w fun e w'=>∃ q v,e=.returned (.tuple #[.pointer (some ⟨q,0,none⟩),.bool true])∧w'.heap[q]?=some (.cells #[.int .i64 0,v,.slice none 0 0] 152)∧w.heap.size≤q∧
   w'.ownsRow w.heap.size 158 2 v ps.length (qA8 ps)∧w'.heap[A]?=some (χ κ n C (.slice none 0 0) (nx calls) writes)∧Kp [A] w w':=by
 have hby:=qG9 0 ps [] (by omega) (by omega) (by simp;omega) hz (by simp);have hNL:(qA1 0 ps []).length=128:=qO2 0 ps [] (by simpa [qD1] using hm);obtain⟨E,hE⟩:∃ E,E=enc (toB (qA1 0 ps [])):=⟨_,rfl⟩;have hEs:E.size=128:=by rw[hE,qE6,qH0];exact hNL
 have hcs:=qR5 (toB (qA1 0 ps [])) 0 128 (qA1 0 ps []) hby hNL (by rw[List.drop_zero,List.take_of_length_le (by rw[qH0];exact Nat.le_of_eq hNL)]);have HLOAD:Hid (∀ W,Kp [] w W→Calls prog 151 #[.pointer (some ⟨V,0,none⟩),.int .i64 i] W fun e w'=>e=.returned (.agg E)∧w'.heap[A]?=some (χ κ n C (.slice none 0 0) (nx calls) writes)∧Kp [A] W w'):=fun W hK=>by
  have h:=zI7 V A n C calls writes i l W (hK.hp hV) (hK.hp h) hi hn (hK.hp hC) hs hAC hVA;rw[hbl,←hE] at h;exact h
 have HPARSE:Hid (∀ W,Calls prog 166 #[.agg E] W fun e w'=>∃ q v,e=.returned (.tuple #[.pointer (some ⟨q,0,none⟩),.bool true])∧w'.heap[q]?=some (.cells #[.int .i64 0,v,.slice none 0 0] 152)∧W.heap.size≤q∧
   w'.ownsRow W.heap.size 158 2 v ps.length (qA8 ps)∧Kp [] W w'):=fun W=>by
  have h:=jM1 ps  W hz hm hnl;rw[←hE] at h;exact h
 obtain⟨S,hS⟩:∃ S,S=fnv (qA1 0 ps []):=⟨_,rfl⟩;have HSUM:Hid (∀ W b cap,W.heap[b]?=some (.cells E 223)→Calls prog 165 #[.slice (some ⟨b,0,none⟩) 128 cap] W fun e w'=>e=.returned (.int .u64 S)∧w'=W):=fun W b cap hb=>by
  rw[hS];refine qX5 b 0 128 cap (qA1 0 ps []) W hNL (by omega) (fun j hj=>?_);rw[ξ hb,hE];exact hcs j hj
 rw[←hS];have hEb:∀ v∈E.toList,v.oneCell'=true:=by rw[hE];exact (qH1 _).one
 have HES:=zh hEs;have hAs:=ζ h;clear hcs hS hE hby hNL hz hm hbl hs hC hV h;go_enter func122,ntmps122;go_wp2_with fail;obtain⟨w0,hw0,hP0,hK0,hs0⟩:=qF0 w (.cells #[.int .i64 (i:Int),.int .u64 S] 78);rw[←hw0];clear hw0;refine (HLOAD.out w0 hK0).mono ?_;rintro e w1 ⟨rfl,hA1,hK1⟩;have hP1:=hK1.ho hP0;have hKw1:Kp [A] w w1:=(hK0.mono (by simp)).tr hK1;have hs1:=hK1.size;clear hK1 hP0 hK0 HLOAD;go_wp2_with fail;have hN:=ν w1 (.cells zeroCells223 223);rw[qL7 hN (by simp[qH7,hEs]) hEb];rw[show E.toList.toArray=E from by simp,qJ4 (by rw[qH7,hEs])];obtain⟨w2,hw2,hB2,hP2,hA2,hKw2,hs2⟩:∃ w2,w2=(w1.alloc (.cells zeroCells223 223)).setRow w1.heap.size E∧w2.heap[w1.heap.size]?=some (.cells E 223)∧w2.heap[w.heap.size]?=some (.cells #[.int .i64 (i:Int),.int .u64 S] 78)∧w2.heap[A]?=some (χ κ n C (.slice none 0 0) (nx calls) writes)∧Kp [A] w w2∧w2.heap.size=w1.heap.size+1:=
  ⟨_,rfl,setRow_heap _ _ _ _ _ _ hN,(setRow_other _ _ _ _ (by omega)).trans (θ _ hP1),(setRow_other _ _ _ _ (by omega)).trans (θ _ hA1),(hKw1.alloc _).setRow (Or.inr (by omega)) _,by simp⟩
 rw[←hw2];clear hw2 hN hP1 hA1 hEs hEb;go_wp2_with fail;have hSd:w2.drew.heap[w1.heap.size]?=some (.cells E 223)∧w2.drew.heap[w.heap.size]?=some (.cells #[.int .i64 (i:Int),.int .u64 S] 78):=⟨hB2,hP2⟩;refine wp_region_held_drew (S:=fun W=>W.heap[w1.heap.size]?=some (.cells E 223)∧W.heap[w.heap.size]?=some (.cells #[.int .i64 (i:Int),.int .u64 S] 78)) (by kernel_rfl) hSd (fun _=>?_);refine zU 0 (.slice (some ⟨w1.heap.size,0,none⟩) 128 128) hSd ?_;refine zP 2 w.heap.size 1 hSd ?_;refine zV 3 (.int .u64 S) rfl (fun W hS=>by have a:=ξ hS.2 1;simp only[zG,zH,zI] at a;clear hS;go_simp) hSd ?_;refine zq 1 fun K hK=>?_;go_simp;refine (HSUM.out w2.drew w1.heap.size 128 hB2).mono ?_;rintro e w' ⟨rfl,hw'⟩;rw[hw'];clear hw' w';refine hK.out _ _ hSd (fun _=>?_);clear hK K
 try simp only[zZ]
 refine zU 4 (.bool false) hSd ?_;refine zd ?_;obtain⟨w3,hw3,hB3,hA3,hKw3,hs3⟩:∃ w3,w3=w2.drew∧w3.heap[w1.heap.size]?=some (.cells E 223)∧w3.heap[A]?=some (χ κ n C (.slice none 0 0) (nx calls) writes)∧Kp [A] w w3∧w3.heap.size=w2.heap.size:=⟨_,rfl,hB2,hA2,hKw2.drew,rfl⟩;rw[←hw3];have hpp:qA4 E 0 128=E:=by rw[←HES.out];simp[qA4,List.take_of_length_le]
 clear hw3 hSd hB2 hP2 hA2 hKw2 hKw1
 go_wp2_with (
  with_reducible refine qP5 (t:=223) ?_ 128 ?_ w1.heap.size 0 ?_ E 223 (0,0) ?_ ?_ ?_
  ·kernel_rfl
  ·kernel_rfl
  ·rfl
  ·exact hB3
  ·have:=HES.out;omega)
 refine (HPARSE.out w3).mono ?_;rintro e w4 ⟨q,v,rfl,hq4,hql,hown4,hK4⟩;have hA4:=hK4.hp hA3;have HEND:Hid (w4.heap[q]?=some (.cells #[.int .i64 0,v,.slice none 0 0] 152)∧w.heap.size≤q∧w4.ownsRow w.heap.size 158 2 v ps.length (qA8 ps)∧w4.heap[A]?=some (χ κ n C (.slice none 0 0) (nx calls) writes)∧Kp [A] w w4):=⟨hq4,by omega,qI7 hown4 (by omega),hA4,hKw3.tr hK4⟩;clear hq4 hql hown4 hK4 hA4 hA3 hB3 hKw3 hpp;go_wp2
 go_ret2
 exact⟨q,v,rfl,HEND.out⟩
theorem xA1(V A n C:Nat)(calls writes:Int)(i:Nat)(l:List UInt8)(ps:List HL)(lv:Int)(hlv0:0<lv)(hlv1:lv<256)(w:World)(hV:w.heap[V]?=some (qB6 A n))(h:w.heap[A]?=some (χ κ n C (.slice none 0 0) calls writes))
  (hi:i<n) (hn:n≤1000) (hC:w.heap[C]?=some (.cells (enc l) 87)) (hs:n*128≤l.length) (hAC:C≠A) (hVA:V≠A) (hbl:qA0 l i=toB (qA1 lv [] ps)) (hz:∀ p∈ps,p.p=none∧p.key.size≤8∧0≤p.b∧p.b<65536∧0≤p.s∧p.s<18446744073709551616) (hm:2+meas φ ps≤128) (hnl:ps.length≤126):
  Calls prog 122 #[.pointer (some ⟨V,0,none⟩),.agg #[.int .i64 i,.int .u64 (fnv (qA1 lv [] ps))]] w fun e w'=>∃ q v,e=.returned (.tuple #[.pointer (some ⟨q,0,none⟩),.bool true])∧w'.heap[q]?=some (.cells #[.int .i64 lv,.slice none 0 0,v] 152)∧w.heap.size≤q∧
   w'.ownsRow w.heap.size 81 4 v ps.length (qA5 ps)∧w'.heap[A]?=some (χ κ n C (.slice none 0 0) (nx calls) writes)∧Kp [A] w w':=by
 have hby:=qG9 lv [] ps (by omega) hlv1 (by simp;omega) (by simp) (fun p hp=>(hz p hp).2.1);have hNL:(qA1 lv [] ps).length=128:=qO2 lv [] ps (by simpa [qD1] using hm);obtain⟨E,hE⟩:∃ E,E=enc (toB (qA1 lv [] ps)):=⟨_,rfl⟩;have hEs:E.size=128:=by rw[hE,qE6,qH0];exact hNL
 have hcs:=qR5 (toB (qA1 lv [] ps)) 0 128 (qA1 lv [] ps) hby hNL (by rw[List.drop_zero,List.take_of_length_le (by rw[qH0];exact Nat.le_of_eq hNL)]);have HLOAD:Hid (∀ W,Kp [] w W→Calls prog 151 #[.pointer (some ⟨V,0,none⟩),.int .i64 i] W fun e w'=>e=.returned (.agg E)∧w'.heap[A]?=some (χ κ n C (.slice none 0 0) (nx calls) writes)∧Kp [A] W w'):=fun W hK=>by
  have h:=zI7 V A n C calls writes i l W (hK.hp hV) (hK.hp h) hi hn (hK.hp hC) hs hAC hVA;rw[hbl,←hE] at h;exact h
 have HPARSE:Hid (∀ W,Calls prog 166 #[.agg E] W fun e w'=>∃ q v,e=.returned (.tuple #[.pointer (some ⟨q,0,none⟩),.bool true])∧w'.heap[q]?=some (.cells #[.int .i64 lv,.slice none 0 0,v] 152)∧W.heap.size≤q∧
   w'.ownsRow W.heap.size 81 4 v ps.length (qA5 ps)∧Kp [] W w'):=fun W=>by
  have h:=jL9 ps lv hlv0 hlv1 W hz hm hnl;rw[←hE] at h;exact h
 obtain⟨S,hS⟩:∃ S,S=fnv (qA1 lv [] ps):=⟨_,rfl⟩;have HSUM:Hid (∀ W b cap,W.heap[b]?=some (.cells E 223)→Calls prog 165 #[.slice (some ⟨b,0,none⟩) 128 cap] W fun e w'=>e=.returned (.int .u64 S)∧w'=W):=fun W b cap hb=>by
  rw[hS];refine qX5 b 0 128 cap (qA1 lv [] ps) W hNL (by omega) (fun j hj=>?_);rw[ξ hb,hE];exact hcs j hj
 rw[←hS];have hEb:∀ v∈E.toList,v.oneCell'=true:=by rw[hE];exact (qH1 _).one
 have HES:=zh hEs;have hAs:=ζ h;clear hcs hS hE hby hNL hz hm hbl hs hC hV h;go_enter func122,ntmps122;go_wp2_with fail;obtain⟨w0,hw0,hP0,hK0,hs0⟩:=qF0 w (.cells #[.int .i64 (i:Int),.int .u64 S] 78);rw[←hw0];clear hw0;refine (HLOAD.out w0 hK0).mono ?_;rintro e w1 ⟨rfl,hA1,hK1⟩;have hP1:=hK1.ho hP0;have hKw1:Kp [A] w w1:=(hK0.mono (by simp)).tr hK1;have hs1:=hK1.size;clear hK1 hP0 hK0 HLOAD;go_wp2_with fail;have hN:=ν w1 (.cells zeroCells223 223);rw[qL7 hN (by simp[qH7,hEs]) hEb];rw[show E.toList.toArray=E from by simp,qJ4 (by rw[qH7,hEs])];obtain⟨w2,hw2,hB2,hP2,hA2,hKw2,hs2⟩:∃ w2,w2=(w1.alloc (.cells zeroCells223 223)).setRow w1.heap.size E∧w2.heap[w1.heap.size]?=some (.cells E 223)∧w2.heap[w.heap.size]?=some (.cells #[.int .i64 (i:Int),.int .u64 S] 78)∧w2.heap[A]?=some (χ κ n C (.slice none 0 0) (nx calls) writes)∧Kp [A] w w2∧w2.heap.size=w1.heap.size+1:=
  ⟨_,rfl,setRow_heap _ _ _ _ _ _ hN,(setRow_other _ _ _ _ (by omega)).trans (θ _ hP1),(setRow_other _ _ _ _ (by omega)).trans (θ _ hA1),(hKw1.alloc _).setRow (Or.inr (by omega)) _,by simp⟩
 rw[←hw2];clear hw2 hN hP1 hA1 hEs hEb;go_wp2_with fail;have hSd:w2.drew.heap[w1.heap.size]?=some (.cells E 223)∧w2.drew.heap[w.heap.size]?=some (.cells #[.int .i64 (i:Int),.int .u64 S] 78):=⟨hB2,hP2⟩;refine wp_region_held_drew (S:=fun W=>W.heap[w1.heap.size]?=some (.cells E 223)∧W.heap[w.heap.size]?=some (.cells #[.int .i64 (i:Int),.int .u64 S] 78)) (by kernel_rfl) hSd (fun _=>?_);refine zU 0 (.slice (some ⟨w1.heap.size,0,none⟩) 128 128) hSd ?_;refine zP 2 w.heap.size 1 hSd ?_;refine zV 3 (.int .u64 S) rfl (fun W hS=>by have a:=ξ hS.2 1;simp only[zG,zH,zI] at a;clear hS;go_simp) hSd ?_;refine zq 1 fun K hK=>?_;go_simp;refine (HSUM.out w2.drew w1.heap.size 128 hB2).mono ?_;rintro e w' ⟨rfl,hw'⟩;rw[hw'];clear hw' w';refine hK.out _ _ hSd (fun _=>?_);clear hK K
 try simp only[zZ]
 refine zU 4 (.bool false) hSd ?_;refine zd ?_;obtain⟨w3,hw3,hB3,hA3,hKw3,hs3⟩:∃ w3,w3=w2.drew∧w3.heap[w1.heap.size]?=some (.cells E 223)∧w3.heap[A]?=some (χ κ n C (.slice none 0 0) (nx calls) writes)∧Kp [A] w w3∧w3.heap.size=w2.heap.size:=⟨_,rfl,hB2,hA2,hKw2.drew,rfl⟩;rw[←hw3];have hpp:qA4 E 0 128=E:=by rw[←HES.out];simp[qA4,List.take_of_length_le]
 clear hw3 hSd hB2 hP2 hA2 hKw2 hKw1
 go_wp2_with (
  with_reducible refine qP5 (t:=223) ?_ 128 ?_ w1.heap.size 0 ?_ E 223 (0,0) ?_ ?_ ?_
  ·kernel_rfl
  ·kernel_rfl
  ·rfl
  ·exact hB3
  ·have:=HES.out;omega)
 refine (HPARSE.out w3).mono ?_;rintro e w4 ⟨q,v,rfl,hq4,hql,hown4,hK4⟩;have hA4:=hK4.hp hA3;have HEND:Hid (w4.heap[q]?=some (.cells #[.int .i64 lv,.slice none 0 0,v] 152)∧w.heap.size≤q∧w4.ownsRow w.heap.size 81 4 v ps.length (qA5 ps)∧w4.heap[A]?=some (χ κ n C (.slice none 0 0) (nx calls) writes)∧Kp [A] w w4):=⟨hq4,by omega,qI7 hown4 (by omega),hA4,hKw3.tr hK4⟩;clear hq4 hql hown4 hK4 hA4 hA3 hB3 hKw3 hpp;go_wp2
 go_ret2
 exact⟨q,v,rfl,HEND.out⟩
theorem qW2(s x:Int):qI9 s x<18446744073709551616:=by
 unfold qI9;rw[IntKind.wrap_u64];omega
theorem qW3(xs:List Int):fnv xs<18446744073709551616:=by
 unfold fnv;rcases List.eq_nil_or_concat xs with h|⟨l,a,h⟩
 ·rw[h];decide
 ·rw[h,List.concat_eq_append,List.foldl_append];exact qW2 _ _
def Laid(N:Nat)(l:List UInt8):(n:Nat)→Nat→Int→Tn n→Prop
 | 0,b,s,t=>2≤b∧b<N∧s=fnv (qA1 0 (prs t) [])∧qA0 l b=toB (qA1 0 (prs t) [])∧(∀ p∈prs t,qC5 p)∧2+meas μ (prs t)≤128∧(prs t).length≤126
 | n+1,b,s,t=>2≤b∧b<N∧n+1<6∧∃ hs:List HL,Both (RLof (fun _ _=>False) (Laid N l n)) hs (η t)∧s=fnv (qA1 ((n+1:Nat):Int) [] hs)∧qA0 l b=toB (qA1 ((n+1:Nat):Int) [] hs)∧(∀ h∈hs,h.key.size≤8)∧2+meas φ hs≤128∧hs.length≤126
theorem Laid.at{N:Nat}{l:List UInt8}:∀ {n b:Nat} {s:Int} {t:Tn n},Laid N l n b s t→2≤b∧b<N∧0≤s∧s<18446744073709551616∧n<6
 | 0,_,_,_,h=>⟨h.1,h.2.1,by rw[h.2.2.1];exact qP9 _,by rw[h.2.2.1];exact qW3 _,by omega⟩
 | _+1,_,_,_,h=>by
  obtain⟨h1,h2,h3,hs,_,h5,_⟩:=h;exact⟨h1,h2,by rw[h5];exact qP9 _,by rw[h5];exact qW3 _,h3⟩
theorem Laid.links{N:Nat}{l:List UInt8}{n:Nat}{hs:List HL}{ls:List (Lnk (Tn n))}(h:Both (RLof (fun _ _=>False) (Laid N l n)) hs ls)(hk:∀ h∈hs,h.key.size≤8)(hN:N≤1000):
  ∀ p∈hs,p.p=none∧p.key.size≤8∧0≤p.b∧p.b<65536∧0≤p.s∧p.s<18446744073709551616:=by
 intro p hp;obtain⟨i,hi,rfl⟩:=List.getElem_of_mem hp;have h1:=(h.2 i hi (by rw[←h.1];exact hi)).2;split at h1
 ·obtain⟨_,_,q,_,hf⟩:=h1;exact hf.elim
 ·obtain⟨e1,e2,e3,e4⟩:=h1;have e5:=e4.at;exact⟨e3,hk _ hp,by omega,by omega,by omega,by omega⟩
structure Devl(V A N C:Nat)(l:List UInt8)(wr:Int)(w:World):Prop where
 hV:w.heap[V]?=some (qB6 A N)
 hA:∃ calls,w.heap[A]?=some (χ (l.length / 128) N C (.slice none 0 0) calls wr)
 hC:w.heap[C]?=some (.cells (enc l) 87)
theorem jR0(V A N C:Nat)(l:List UInt8)(writes:Int)(hN:N≤1000)(hs:N*128≤l.length)(hAC:C≠A)(hVA:V≠A)(n:Nat)(h r:HL)(L:Lnk (Tn n))(a:Int)(w:World)(hd:Devl V A N C l writes w)(hr:RL (Laid N l) n w h L)(hp:h.p=none)(ha:(n:Int)<a):
  Calls prog 87 #[υ V r,qC2 h,.int .i64 a] w fun e w'=>∃ q,e=.returned (.pointer (some ⟨q,0,none⟩))∧RN (Laid N l) n w' q L.sub∧Devl V A N C l writes w'∧Kp [A] w w':=by
 obtain⟨calls,hA⟩:=hd.hA;have hO:∃ b s,h.b=(b:Nat)∧h.s=s∧Laid N l n b s L.sub:=by
  have h2:=hr.2
  cases hl:L.ref with
  | none=>
   rw[hl] at h2;obtain⟨_,_,q',h3,_⟩:=h2;rw[hp] at h3;cases h3
  | some x=>
   rw[hl] at h2;exact⟨x.1,x.2,h2.1,h2.2.1,h2.2.2.2⟩
 obtain⟨b,s,hb,hss,hL⟩:=hO;have hlv:n<6:=hL.at.2.2.2.2;have HREAD:Hid (∀ W,Kp [] w W→Calls prog 122 #[.pointer (some ⟨V,0,none⟩),.agg #[.int .i64 b,.int .u64 s]] W fun e w'=>∃ q vp vl,e=.returned (.tuple #[.pointer (some ⟨q,0,none⟩),.bool true])∧w'.heap[q]?=some (ρ (n:Int) vp vl)∧RN (Laid N l) n w' q L.sub∧Devl V A N C l writes w'∧Kp [A] W w'):=by
  intro W hK;have hV1:=hK.hp hd.hV;have hA1:=hK.hp hA;have hC1:=hK.hp hd.hC
  cases n with
  | zero=>
   obtain⟨g1,g2,g3,g4,g5,g6,g7⟩:=hL;rw[g3];refine (xA2 V A N C calls writes b l (prs L.sub) W hV1 hA1 g2 hN hC1 hs hAC hVA g4 g5 g6 g7).mono ?_;rintro e w' ⟨q,v,rfl,hq,_,hown,hA',hK'⟩;exact⟨q,v,.slice none 0 0,rfl,hq,⟨v,hq,qG3 hown⟩,⟨hK'.heap hV1 (by simpa using hVA),⟨_,hA'⟩,hK'.heap hC1 (by simpa using hAC)⟩,hK'⟩
  | succ n=>
   obtain⟨g1,g2,g3,hs',g4,g5,g6,g7,g8,g9⟩:=hL;rw[g5];refine (xA1 V A N C calls writes b l hs' ((n+1:Nat):Int) (by omega) (by omega) W hV1 hA1 g2 hN hC1 hs hAC hVA g6 (Laid.links g4 g7 hN) g8 g9).mono ?_;rintro e w' ⟨q,v,rfl,hq,_,hown,hA',hK'⟩;exact⟨q,.slice none 0 0,v,rfl,hq,⟨v,hq,hs',qG3 hown,⟨g4.1,fun i h1 h2=>(g4.2 i h1 h2).mono (fun _ h=>h.elim) (fun _ _ h=>h)⟩⟩,⟨hK'.heap hV1 (by simpa using hVA),⟨_,hA'⟩,hK'.heap hC1 (by simpa using hAC)⟩,hK'⟩
 have hptr:h.ptr=none:=by simp[HL.ptr,hp]
 rw[υ,qC2,hptr,hb,hss];clear hr hd hL hA hp hb hss hptr;go_enter func87,ntmps87;go_wp2_with fail;obtain⟨w0,hw0,hK0⟩:∃ w0,w0=(w.alloc (.cells #[.pointer (some ⟨V,0,none⟩),.string r.key,.int .i64 r.b,.int .u64 r.s,.pointer r.ptr] 83)).alloc (.cells #[.string h.key,.int .i64 (b:Int),.int .u64 s,.pointer none] 81)∧Kp [] w w0:=⟨_,rfl,((Kp.refl _ _).alloc _).alloc _⟩;rw[←hw0];clear hw0;refine (HREAD.out w0 hK0).mono ?_;rintro e w1 ⟨q,vp,vl,rfl,hq,hRN,hD1,hK1⟩;have hqs:=ζ hq;have c0:=ξ hq 0;simp only[ρ,zG,zH,zI] at c0;have hna:¬a≤(n:Int):=by omega
 have HEND:Hid (RN (Laid N l) n w1 q L.sub∧Devl V A N C l writes w1∧Kp [A] w w1):=⟨hRN,hD1,(hK0.mono (by simp)).tr hK1⟩;clear hq hRN hD1 hK1 hK0 HREAD;go_wp2;go_ret;exact⟨q,rfl,HEND.out⟩
def EL(V A N C:Nat)(l:List UInt8)(writes:Int)(hN:N≤1000)(hs:N*128≤l.length)(hAC:C≠A)(hVA:V≠A):SEnv where
 O:=Laid N l
 V:=V
 S:=[A]
 Dev:=Devl V A N C l writes
 keep:=fun w w' L hd hK hL=>by
  obtain⟨calls,hA⟩:=hd.hA;have h1:∀ k c t fr,w.heap[k]?=some (.cells c t fr)→t ∉ zC0→k ∉ L:=fun k c t fr e ht hm=>by
   obtain⟨c',t',fr',e',h'⟩:=hL k hm;rw[e] at e';cases e';exact ht h'
  exact⟨hK.heap hd.hV (h1 _ _ _ _ hd.hV (by decide)),⟨_,hK.heap hA (h1 _ _ _ _ hA (by decide))⟩,hK.heap hd.hC (h1 _ _ _ _ hd.hC (by decide))⟩
 apt:=fun w hd k hk c t fr e=>by
  obtain⟨calls,hA⟩:=hd.hA;rw[List.mem_singleton.1 hk,hA] at e;cases e;decide
 low:=fun w hd k hk=>by
  obtain⟨calls,hA⟩:=hd.hA;rw[List.mem_singleton.1 hk];exact ζ hA
 pos:=fun n b s t h=>by have:=h.at;omega
 lvl:=fun n b s t h=>h.at.2.2.2.2
 read:=fun n h r L a w hd hr hp ha=>jR0 V A N C l writes hN hs hAC hVA n h r L a w hd hr hp ha
 keepX:=fun w w' L hd hK hL=>by
  obtain⟨calls,hA⟩:=hd.hA;exact⟨hK.heap hd.hV (fun hm=>hL _ hm _ _ _ hd.hV (by decide)),⟨_,hK.heap hA (fun hm=>hL _ hm _ _ _ hA (by decide))⟩,hK.heap hd.hC (fun hm=>hL _ hm _ _ _ hd.hC (by decide))⟩
 offS:=fun w hd k hk=>by
  obtain⟨calls,hA⟩:=hd.hA;rw[List.mem_singleton.1 hk];exact⟨_,_,_,hA,by decide⟩
def lhl{X:Type}(l:Lnk X):HL:=⟨l.key,((l.ref.getD (0,0)).1:Int),(l.ref.getD (0,0)).2,none⟩
def qB1{X:Type}(f:Lnk X→List Nat→Lnk X × List (Nat × List UInt8) × List Nat):List (Lnk X)→List Nat→List (Lnk X) × List (Nat × List UInt8) × List Nat
 | [],fr=>([],[],fr)
 | l::ls,fr=>((f l fr).1::(qB1 f ls (f l fr).2.2).1,(f l fr).2.1++(qB1 f ls (f l fr).2.2).2.1,(qB1 f ls (f l fr).2.2).2.2)
def ι:(n:Nat)→Lnk (Tn n)→List Nat→Lnk (Tn n) × List (Nat × List UInt8) × List Nat
 | 0,l,fr=>if l.ref.isSome then (l,[],fr) else (⟨l.key,some (fr.headD 0,fnv (qA1 0 (prs l.sub) [])),l.sub⟩,[(fr.headD 0,toB (qA1 0 (prs l.sub) []))],fr.tail)
 | n+1,l,fr=>if l.ref.isSome then (l,[],fr) else
   let r:=qB1 (ι n) (η l.sub) fr
   (⟨l.key,some (r.2.2.headD 0,fnv (qA1 ((n+1:Nat):Int) [] (r.1.map lhl))),r.1⟩,r.2.1++[(r.2.2.headD 0,toB (qA1 ((n+1:Nat):Int) [] (r.1.map lhl)))],r.2.2.tail)
theorem zV4{X:Type}(f:Lnk X→List Nat→Lnk X × List (Nat × List UInt8) × List Nat):∀ (a:List (Lnk X)) (l:Lnk X) (fr:List Nat),
  qB1 f (a++[l]) fr=((qB1 f a fr).1++[(f l (qB1 f a fr).2.2).1],(qB1 f a fr).2.1++(f l (qB1 f a fr).2.2).2.1,(f l (qB1 f a fr).2.2).2.2)
 | [],l,fr=>by simp[qB1]
 | x::a,l,fr=>by
  have h:=zV4 f a l (f x fr).2.2;simp only[List.cons_append,qB1,h,List.append_assoc]
theorem qP1{X:Type}(f:Lnk X→List Nat→Lnk X × List (Nat × List UInt8) × List Nat)(g:Lnk X→Nat):∀ (ls:List (Lnk X)) (fr:List Nat),(∀ l∈ls,∀ fr,(f l fr).2.2=fr.drop (g l))→(qB1 f ls fr).2.2=fr.drop (meas g ls)
 | [],fr,_=>by simp[qB1,qD1]
 | l::ls,fr,h=>by
  simp only[qB1];rw[qP1 f g ls _ (fun x hx=>h x (by simp[hx])),h l (by simp),List.drop_drop,qE0]
theorem qN1:∀ (n:Nat) (l:Lnk (Tn n)) (fr:List Nat),(ι n l fr).2.2=fr.drop (news n l)
 | 0,l,fr=>by
  simp only[ι,news];split<;>simp
 | n+1,l,fr=>by
  simp only[ι,news];split
  ·simp
  ·simp only;rw[qP1 (ι n) (news n) _ fr (fun l _ fr=>qN1 n l fr),←List.drop_one,List.drop_drop]
   congr 1
   exact Nat.add_comm _ _
structure Wx(base:Nat)(S:List Nat)(w w':World):Prop where
 os:w'.os=w.os
 tape:w'.tape=w.tape
 output:w'.output=w.output
 size:w.heap.size≤w'.heap.size
 low:∀ k,k<base→k ∉ S→w'.heap[k]?=w.heap[k]?
 oth:∀ (k:Nat) (c:Array Value) (t:TypeId) (fr:Nat × Nat),w.heap[k]?=some (.cells c t fr)→t≠89→k ∉ S→w'.heap[k]?=some (.cells c t fr)
theorem Wx.trans{base:Nat}{S:List Nat}{a b c:World}(h:Wx base S a b)(k:Wx base S b c):Wx base S a c:=
 ⟨k.os.trans h.os,k.tape.trans h.tape,k.output.trans h.output,Nat.le_trans h.size k.size,fun q h1 h2=>(k.low q h1 h2).trans (h.low q h1 h2),fun q c t fr e h1 h2=>k.oth q c t fr (h.oth q c t fr e h1 h2) h1 h2⟩
theorem Wx.ofKp{base:Nat}{S:List Nat}{a b:World}(h:Kp S a b)(hb:base≤a.heap.size):Wx base S a b:=
 ⟨h.os,h.tape,h.output,h.size,fun k h1 h2=>h.block k (by omega) h2,fun k c t fr e h1 h2=>h.heap e h2⟩
theorem Wx.of{base A:Nat}{S:List Nat}{a b:World}(h:Wr base A a b)(hA:A∈S):Wx base S a b:=
 ⟨h.os,h.tape,h.output,h.size,fun k h1 h2=>h.low k h1 (fun e=>h2 (e ▸ hA)),fun k c t fr e h1 h2=>h.oth k c t fr e h1 (fun e=>h2 (e ▸ hA))⟩
theorem Wx.tail{base:Nat}{a w w':World}{S T:List Nat}(h:Wx base S a w)(hK:Kp T w w')(hT:∀ k∈T,a.heap.size≤k)(hb:base≤a.heap.size):Wx base S a w':=
 ⟨hK.os.trans h.os,hK.tape.trans h.tape,hK.output.trans h.output,Nat.le_trans h.size hK.size,fun k h1 h2=>(hK.block k (by have:=h.size;omega) (fun hm=>by have:=hT k hm;omega)).trans (h.low k h1 h2),fun k c t fr e h1 h2=>hK.heap (h.oth k c t fr e h1 h2) (fun hm=>by have:=hT k hm;have:=ζ e;omega)⟩
def qG6(fr:List Nat):List Value:=fr.map (fun (b:Nat)=>Value.int .i64 (b:Int))
theorem jF3(F b:Nat)(fr:List Nat)(v:Value)(w:World)(hF:w.heap[F]?=some (.cells #[v] 22))(hv:Slc w 3 1 v (b::fr).length (qG6 (b::fr)))(hl:fr.length≤100000):
  Calls prog 107 #[.pointer (some ⟨F,0,none⟩)] w fun e w'=>e=.returned (.int .i64 b)∧∃ v',w'.heap[F]?=some (.cells #[v'] 22)∧Slc w' 3 1 v' fr.length (qG6 fr)∧Kp [F] w w':=by
 rcases hv.val with⟨h0,_⟩|⟨g,off,cap,cur,f',rfl,h1,h2,h3,h4⟩
 ·simp at h0
 have c0:=ξ hF 0;simp only[zG,zH,zI] at c0;have f0:=ω hF 0;have hFs:=ζ hF;have b0:w.cell? ⟨g,off,none⟩=some (.int .i64 (b:Int)):=by
  rw[ξ h3];exact h4 0 _ (by simp[qG6])
 have hgF:g≠F:=by intro e;subst e;rw[hF] at h3;simp at h3
 obtain⟨m,hm⟩:∃ m,m=(b::fr).length:=⟨_,rfl⟩;rw[←hm] at h2 c0;have hm1:(0:Int)<(m:Int):=by omega
 have hm2:¬(m:Int)<1:=by omega
 have hm3:(1:Int)≤(m:Int):=by omega
 have HM:Hid (m=fr.length+1):=by show _=_;rw[hm];simp
 have HF:Hid (w.heap[F]?=some (.cells #[.slice (some ⟨g,off,none⟩) m cap] 22)):=by rw[hm];exact hF
 have HG:Hid (w.heap[g]?=some (.cells cur 3 f')∧∀ j u,(qG6 (b::fr))[j]?=some u→cur[off+j]?=some u):=⟨h3,h4⟩;have hgl:g ∉ [F]:=by simpa using hgF
 have HT:Hid (∀ o:Nat,(o=off+1∨fr=[])→∀ w',Kp [F] w w'→Slc w' 3 1 (.slice (some ⟨g,o,none⟩) (m-1) (cap-1)) fr.length (qG6 fr)):=by
  intro o ho w' hK;have e1:m-1=fr.length:=by have:=HM.out;omega
  rw[e1];refine⟨by simp[qG6],?_⟩
  cases fr with
  | nil=>exact Or.inl ⟨rfl,_,_,rfl,by simp⟩
  | cons x fr=>
   rcases ho with rfl|h
   ·refine Or.inr ⟨g,off+1,cap-1,cur,f',rfl,by simp,by have:=HM.out;simp at this ⊢;omega,hK.heap HG.out.1 hgl,fun j u hu=>?_⟩;have h:=HG.out.2 (j+1) u (by simpa [qG6] using hu);rw[show off+1+j=off+(j+1) from by omega];exact h
   ·cases h
 clear hF hv hm h3 h4;go_enter func107,ntmps107;go_wp2
 ·go_ret;have hK:Kp [F] w (w.setCell ⟨F,0,none⟩ (.slice (some ⟨g,off,none⟩) (m-1) 0)):=(Kp.refl _ _).sc _;have hc:cap=1:=by first | assumption | omega
  have h:=HT.out off (Or.inr (List.eq_nil_of_length_eq_zero (by have:=HM.out;omega))) _ hK;rw[hc] at h;exact⟨rfl,_,ψ HF.out 0 _,h,hK⟩
 ·go_ret;have hK:Kp [F] w (w.setCell ⟨F,0,none⟩ (.slice (some ⟨g,off+1,none⟩) (m-1) (cap-1))):=(Kp.refl _ _).sc _;exact⟨rfl,_,ψ HF.out 0 _,HT.out (off+1) (Or.inl rfl) _ hK,hK⟩
variable {κ:Nat}
theorem qV5(w:World)(a b c:Obj):∃ w0,w0=((w.alloc a).alloc b).alloc c∧w0.heap[w.heap.size]?=some a∧w0.heap[w.heap.size+1]?=some b∧w0.heap[w.heap.size+1+1]?=some c∧Kp [] w w0∧w0.heap.size=w.heap.size+3:=
 ⟨_,rfl,θ _ (θ _ (ν _ _)),θ _ (by simpa using ν (w.alloc a) b),by simpa using ν ((w.alloc a).alloc b) c,(((Kp.refl _ _).alloc _).alloc _).alloc _,by simp⟩
theorem zP6(args:Array Value)(W:World):Sem.run prog (callFunc 107 args) W=.ok (.enter 107 args) W:=by
 simp[go_sem,func107]
structure Ly(κ:Nat)(wn:Int)(V A N C base F:Nat)(ws:List (Nat × List UInt8))(fr:List Nat)(w:World):Prop where
 hV:w.heap[V]?=some (qB6 A N)
 hA:∃ v calls,w.heap[A]?=some (χ κ N C v calls (nk wn ws.length))∧w.ownsRow base 89 129 v ws.length (ws.flatMap wcs)
 hF:∃ vf,w.heap[F]?=some (.cells #[vf] 22)∧Slc w 3 1 vf fr.length (qG6 fr)
 low:base≤w.heap.size
theorem Ly.keep{wn:Int}{V A N C base F:Nat}{ws:List (Nat × List UInt8)}{fr:List Nat}{w w':World}(h:Ly κ wn V A N C base F ws fr w)(hK:Kp [] w w'):Ly κ wn V A N C base F ws fr w':=by
 obtain⟨v,calls,h1,h2⟩:=h.hA;obtain⟨vf,h3,h4⟩:=h.hF;exact⟨hK.hp h.hV,⟨v,calls,hK.hp h1,qF4 h2 hK (Apt.nil _ _)⟩,⟨vf,hK.hp h3,h4.keep0 hK⟩,Nat.le_trans h.low hK.size⟩
theorem Ly.turn{wn:Int}{V A N C base F:Nat}{ws:List (Nat × List UInt8)}{fr:List Nat}{w w':World}{S:List Nat}(h:Ly κ wn V A N C base F ws fr w)(hK:Kp S w w')(hS:Apt w S [186,72,89,22,3]):Ly κ wn V A N C base F ws fr w':=by
 obtain⟨v,calls,h1,h2⟩:=h.hA;obtain⟨vf,h3,h4⟩:=h.hF;exact⟨hK.heap h.hV (fun hm=>hS _ hm _ _ _ h.hV (by decide)),⟨v,calls,hK.heap h1 (fun hm=>hS _ hm _ _ _ h1 (by decide)),qF4 h2 hK (hS.sub (by decide))⟩,⟨vf,hK.heap h3 (fun hm=>hS _ hm _ _ _ h3 (by decide)),h4.keep hK (hS.sub (by decide))⟩,Nat.le_trans h.low hK.size⟩
theorem Ly.apt{wn:Int}{V A N C base F:Nat}{ws:List (Nat × List UInt8)}{fr:List Nat}{w:World}(h:Ly κ wn V A N C base F ws fr w):Apt w [A,F] qG0:=fun q hq c t f e=>by
 obtain⟨v,calls,h1,h2⟩:=h.hA;obtain⟨vf,h3,h4⟩:=h.hF;rcases List.mem_cons.1 hq with rfl|hq
 ·rw[h1] at e;cases e;decide
 ·rw[List.mem_singleton.1 hq,h3] at e;cases e;decide
theorem Slc.wx{base:Nat}{S:List Nat}{w w':World}{T:TypeId}{sz:Nat}{v:Value}{n:Nat}{cs:List Value}(h:Slc w T sz v n cs)(hW:Wx base S w w')(hT:T≠89)(hS:Apt w S [T]):Slc w' T sz v n cs:=by
 refine⟨h.len,?_⟩;rcases h.val with h|⟨g,off,cap,cur,fr,h1,h2,h3,h4,h5⟩
 ·exact .inl h
 ·exact .inr ⟨g,off,cap,cur,fr,h1,h2,h3,hW.oth _ _ _ _ h4 hT (fun hm=>hS g hm _ _ _ h4 (by simp)),h5⟩
theorem RN.wx{O:qE8}{base:Nat}{S:List Nat}{w w':World}(hW:Wx base S w w')(hS:Apt w S qG0):∀ (n:Nat) (q:Nat) (t:Tn n),RN O n w q t→RN O n w' q t
 | 0,q,t,h=>by
  obtain⟨vp,h1,h2⟩:=h;exact⟨vp,hW.oth _ _ _ _ h1 (by decide) (fun hm=>hS q hm _ _ _ h1 (by decide)),h2.wx hW (by decide) (hS.sub (by decide))⟩
 | n+1,q,t,h=>by
  obtain⟨vl,h1,hs,h2,h3⟩:=h;exact⟨vl,hW.oth _ _ _ _ h1 (by decide) (fun hm=>hS q hm _ _ _ h1 (by decide)),hs,h2.wx hW (by decide) (hS.sub (by decide)),h3.mono fun x y hr=>hr.mono (fun q hq=>RN.wx hW hS n q _ hq) (fun _ _ h=>h)⟩
theorem Ly.next{wn:Int}{V A N C base F b:Nat}{ws:List (Nat × List UInt8)}{fr:List Nat}{w:World}(h:Ly κ wn V A N C base F ws (b::fr) w)(hl:fr.length≤100000):
  Calls prog 107 #[.pointer (some ⟨F,0,none⟩)] w fun e w'=>e=.returned (.int .i64 b)∧Ly κ wn V A N C base F ws fr w'∧Wx base [A,F] w w':=by
 obtain⟨v,calls,h1,h2⟩:=h.hA;obtain⟨vf,h3,h4⟩:=h.hF;refine (jF3 F b fr vf w h3 h4 hl).mono ?_;rintro e w' ⟨rfl,v',h5,h6,hK⟩;have ap:Apt w [F] [186,72,89]:=fun q hq c t fr e=>by
  rw[List.mem_singleton.1 hq,h3] at e;cases e;decide
 exact⟨rfl,⟨hK.heap h.hV (fun hm=>ap _ hm _ _ _ h.hV (by decide)),⟨v,calls,hK.heap h1 (fun hm=>ap _ hm _ _ _ h1 (by decide)),qF4 h2 hK (ap.sub (by decide))⟩,⟨v',h5,h6⟩,Nat.le_trans h.low hK.size⟩,Wx.ofKp (hK.mono (by simp)) h.low⟩
theorem Ly.lay{wn:Int}{V A N C base F i:Nat}{ws:List (Nat × List UInt8)}{fr:List Nat}{w:World}(h:Ly κ wn V A N C base F ws fr w)(hVA:V≠A)(hwl:ws.length≤100000)(hi:i<N)(hN:N≤1000)
  (q:Nat) (lv:Int) (vp vl:Value) (ps:List KV) (hs:List HL) (hq:w.heap[q]?=some (ρ lv vp vl)) (hl0:0≤lv) (hl1:lv<256)
  (hsp:Slc w 158 2 vp ps.length (qA8 ps)) (hsl:Slc w 81 4 vl hs.length (qA5 hs)) (hm:2+meas μ ps+meas φ hs≤128) (hc:ps.length+hs.length≤255)
  (hzp:∀ p∈ps,qC5 p) (hzl:∀ p∈hs,p.key.size≤8∧0≤p.b∧p.b≤1000000∧0≤p.s):
  Calls prog 149 #[.pointer (some ⟨q,0,none⟩),.pointer (some ⟨V,0,none⟩),.int .i64 i] w fun e w'=>e=.returned (.agg #[.int .i64 i,.int .u64 (fnv (qA1 lv ps hs))])∧
   Ly κ wn V A N C base F (ws++[(i,toB (qA1 lv ps hs))]) fr w'∧Wx base [A,F] w w':=by
 obtain⟨v,calls,h1,h2⟩:=h.hA;obtain⟨vf,h3,h4⟩:=h.hF;refine (jF4 V A N C base v ws calls (nk wn ws.length) i q lv vp vl ps hs w hq hl0 hl1 hsp hsl hm hc hzp hzl h.hV h1 h2 hwl h.low hi hN hVA).mono ?_;rintro e w' ⟨rfl,v',h5,h6,hW⟩;have hFA:F≠A:=by intro e;subst e;rw[h3] at h1;simp[χ] at h1
 refine⟨rfl,⟨hW.oth _ _ _ _ h.hV (by decide) hVA,⟨v',_,by rw[List.length_append];exact h6,h5⟩,⟨vf,hW.oth _ _ _ _ h3 (by decide) hFA,h4.len,?_⟩,Nat.le_trans h.low hW.size⟩,Wx.of hW (by simp)⟩;rcases h4.val with h7|⟨g,off,cap,cur,f',k1,k2,k3,k4,k5⟩
 ·exact Or.inl h7
 ·exact Or.inr ⟨g,off,cap,cur,f',k1,k2,k3,hW.oth _ _ _ _ k4 (by decide) (by intro e;subst e;rw[k4] at h1;simp[χ] at h1),k5⟩
variable {κ:Nat}
theorem zI2(V:Nat)(r h:HL)(nf:Value)(w:World)(hp:h.p=none):
  Calls prog 106 #[υ V r,qC2 h,nf] w fun e w'=>e=.returned (qC2 h)∧Kp [] w w':=by
 have hptr:h.ptr=none:=by simp[HL.ptr,hp]
 rw[υ,qC2,hptr];go_enter func106,ntmps106;go_wp2;obtain⟨w0,hw0,_,_,hR0,hK0,_⟩:=qV5 w (.cells #[.pointer (some ⟨V,0,none⟩),.string r.key,.int .i64 r.b,.int .u64 r.s,.pointer r.ptr] 83) (.cells #[.string h.key,.int .i64 h.b,.int .u64 h.s,.pointer none] 81) (.cells #[.string h.key,.int .i64 h.b,.int .u64 h.s,.pointer none] 81);rw[←hw0];exact bodyPost_ret (results_cell_row results106 _ _ (w.heap.size+1+1) 81 #[.string h.key,.int .i64 h.b,.int .u64 h.s,.pointer none] (0,0) _ rfl hR0 underlying81 rfl (by kernel_rfl)) rfl ⟨rfl,hK0⟩
theorem jC0(wn:Int)(V A N C base F:Nat)(ws:List (Nat × List UInt8))(fr:List Nat)(b:Nat)(r h:HL)(q:Nat)(O:qE8)(L:Lnk (Tn 0))(w:World)(hy:Ly κ wn V A N C base F ws (b::fr) w)(hVA:V≠A)(hNN:N≤1000)(hb:b<N)(hwl:ws.length≤100000)(hfl:fr.length≤100000)(hp:h.p=some q)(hq:RN O 0 w q L.sub)
  (hz:∀ p∈prs L.sub,qC5 p) (hm:2+meas μ (prs L.sub)≤128) (hn:(prs L.sub).length≤126):
  Calls prog 106 #[υ V r,qC2 h,.func (.func 107) #[] #[.pointer (some ⟨F,0,none⟩)]] w fun e w'=>e=.returned (qC2 ⟨h.key,(b:Int),fnv (qA1 0 (prs L.sub) []),none⟩)∧
   Ly κ wn V A N C base F (ws++[(b,toB (qA1 0 (prs L.sub) []))]) fr w'∧Wx base [A,F] w w':=by
 obtain⟨vp,hq,hsp⟩:=hq;obtain⟨pb,pc,rfl⟩:=qK4 hsp;obtain⟨pn,hpn⟩:∃ pn,pn=(prs L.sub).length:=⟨_,rfl⟩;obtain⟨lv,hlv⟩:∃ lv:Int,lv=0:=⟨_,rfl⟩;obtain⟨vl,hvl⟩:∃ vl,vl=Value.slice none 0 0:=⟨_,rfl⟩;rw[←hlv,←hvl,←hpn] at hq;rw[←hpn] at hsp;have HPN:Hid (pn=(prs L.sub).length∧lv=0∧vl=.slice none 0 0):=⟨hpn,hlv,hvl⟩;have HSP:=zh hsp;clear hpn hlv hvl hsp;have HQ:=zh hq;have hqs:=ζ hq;have HY:=zh hy;have hptr:h.ptr=some ⟨q,0,none⟩:=by simp[HL.ptr,hp]
 rw[υ,qC2,hptr];clear hq hy hp hptr;go_enter func106,ntmps106;go_wp2_with fail;obtain⟨w0,hw0,hT0,hL0,hR0,hK0,hs0⟩:=qV5 w (.cells #[.pointer (some ⟨V,0,none⟩),.string r.key,.int .i64 r.b,.int .u64 r.s,.pointer r.ptr] 83) (.cells #[.string h.key,.int .i64 h.b,.int .u64 h.s,.pointer (some ⟨q,0,none⟩)] 81) (.cells qJ2 81);unfold qJ2 at hR0 hw0;rw[←hw0];clear hw0;have hS0:w0.drew.heap[w.heap.size+1]?=some (.cells #[.string h.key,.int .i64 h.b,.int .u64 h.s,.pointer (some ⟨q,0,none⟩)] 81)∧w0.drew.heap[q]?=some (ρ lv (.slice pb pn pc) vl):=⟨hL0,hK0.hp HQ.out⟩;refine wp_region_held_drew (S:=fun W=>W.heap[w.heap.size+1]?=some (.cells #[.string h.key,.int .i64 h.b,.int .u64 h.s,.pointer (some ⟨q,0,none⟩)] 81)∧W.heap[q]?=some (ρ lv (.slice pb pn pc) vl)) (by kernel_rfl) hS0 (fun _=>?_);refine zU 0 (.pointer (some ⟨w.heap.size+1,3,none⟩)) hS0 ?_;refine zV 1 (.pointer (some ⟨q,0,none⟩)) rfl (fun W hS=>by have a:=ξ hS.1 3;simp only[zG,zH,zI] at a;clear hS;go_simp) hS0 ?_;refine zV 2 (.pointer (some ⟨q,0,none⟩)) rfl (fun W hS=>by have c:=ζ hS.2;clear hS;go_simp) hS0 ?_;refine zP 3 q 0 hS0 ?_;refine zV 4 (.int .i64 lv) rfl (fun W hS=>by have a:=ξ hS.2 0;simp only[ρ,zG,zH,zI] at a;clear hS;go_simp) hS0 ?_;refine zU 5 (.pointer (some ⟨w.heap.size+1,3,none⟩)) hS0 ?_;refine zV 6 (.pointer (some ⟨q,0,none⟩)) rfl (fun W hS=>by have a:=ξ hS.1 3;simp only[zG,zH,zI] at a;clear hS;go_simp) hS0 ?_;refine zV 7 (.pointer (some ⟨q,0,none⟩)) rfl (fun W hS=>by have c:=ζ hS.2;clear hS;go_simp) hS0 ?_;refine zP 8 q 1 hS0 ?_;refine zV 9 (.slice pb pn pc) rfl (fun W hS=>by have a:=ξ hS.2 1;simp only[ρ,zG,zH,zI] at a;clear hS;go_simp) hS0 ?_;refine zU 10 (.agg #[.int .i64 lv,.slice pb pn pc,.slice none 0 0]) hS0 ?_;refine zq 11 fun K hK=>?_;go_simp;obtain⟨w1,hw1,hN1,hK1⟩:∃ w1,w1=(w0.alloc (.cells #[.int .i64 0,.slice none 0 0,.slice none 0 0] 152)).drew∧w1.heap[w.heap.size+3]?=some (.cells #[.int .i64 0,.slice none 0 0,.slice none 0 0] 152)∧Kp [] w0 w1:=⟨_,rfl,by rw[←hs0];exact ν w0 _,((Kp.refl _ _).alloc _).drew⟩;rw[←hw1];have hs1:w1.heap.size=w.heap.size+4:=by rw[hw1];simp[hs0]
 clear hw1;refine hK.out _ _ ⟨hK1.hp hS0.1,hK1.hp hS0.2⟩ (fun _=>?_);clear hK K
 try simp only[zZ]
 refine zq 12 fun K hK=>?_;have z0:=ξ hN1;have f0:=ω hN1;have hN1s:=ζ hN1;have HN1:=zh hN1;clear hN1;go_simp;obtain⟨w2,hw2,hN2,hK2⟩:∃ w2,w2=((w1.setCell ⟨w.heap.size+3,0,none⟩ (.int .i64 lv)).setCell ⟨w.heap.size+3,1,none⟩ (.slice pb pn pc)).setCell ⟨w.heap.size+3,2,none⟩ (.slice none 0 0)∧w2.heap[w.heap.size+3]?=some (ρ lv (.slice pb pn pc) (.slice none 0 0))∧Kp [w.heap.size+3] w1 w2:=
  ⟨_,rfl,ψ (ψ (ψ HN1.out 0 _) 1 _) 2 _,(((Kp.refl _ _).sc _).sc _).sc _⟩
 rw[←hw2];clear hw2 z0 f0;have hKw2:Kp [] w w2:=(hK0.tr hK1).tr hK2;have hK02:Kp [] w0 w2:=hK1.trans hK2 (by simp;omega);have hS2:=And.intro (hK02.hp hS0.1) (hK02.hp hS0.2);refine hK.out _ _ hS2 (fun _=>?_);clear hK K;refine zd ?_
 try simp only[zZ]
 have hs2:w.heap.size+4≤w2.heap.size:=by have:=hK2.size;omega
 have hT2:=hK02.hp hT0;have hR2:=hK02.hp hR0;have l3:=ξ hS2.1 3;have q2:=ξ hS2.2 2;simp only[ρ,zG,zH,zI] at l3 q2;have HL2:=zh hS2.1;have HT2:=zh hT2;have HR2:=zh hR2;have HN2:=zh hN2;have HK2:=zh hKw2;have hqs2:=ζ hS2.2;clear hS0 hS2 hT2 hR2 hN2 hKw2 hK02 hK2 hK1 hK0 hT0 hL0 hR0 HN1 hN1s hs1 hs0;rw[HPN.out.2.2] at q2;have hAs:A<w.heap.size:=by obtain⟨v,c1,h1,_⟩:=HY.out.hA;exact ζ h1
 have hFs:F<w.heap.size:=by obtain⟨vf,h1,_⟩:=HY.out.hF;exact ζ h1
 go_wp2_with fail;refine wp_loop_rounds 1 ?_;rw[rounds_succ];go_wp2_with fail;have HY2:Hid (Ly κ wn V A N C base F ws (b::fr) w2):=HY.out.keep HK2.out;have hpsl:=HPN.out.1;have HPSL:=zh hpsl;clear hpsl;have hSd:w2.drew.heap[w.heap.size+1]?=some (.cells #[.string h.key,.int .i64 h.b,.int .u64 h.s,.pointer (some ⟨q,0,none⟩)] 81)∧w2.drew.heap[w.heap.size]?=some (.cells #[.pointer (some ⟨V,0,none⟩),.string r.key,.int .i64 r.b,.int .u64 r.s,.pointer r.ptr] 83):=⟨HL2.out,HT2.out⟩;refine wp_region_held_drew (S:=fun W=>W.heap[w.heap.size+1]?=some (.cells #[.string h.key,.int .i64 h.b,.int .u64 h.s,.pointer (some ⟨q,0,none⟩)] 81)∧W.heap[w.heap.size]?=some (.cells #[.pointer (some ⟨V,0,none⟩),.string r.key,.int .i64 r.b,.int .u64 r.s,.pointer r.ptr] 83)) (by kernel_rfl) hSd (fun _=>?_);refine zU 0 (.pointer (some ⟨w.heap.size+1,0,none⟩)) hSd ?_;refine zV 1 (.string h.key) rfl (fun W hS=>by have a:=ξ hS.1 0;simp only[zG,zH,zI] at a;clear hS;go_simp) hSd ?_;refine zP 2 w.heap.size 0 hSd ?_;refine zV 3 (.pointer (some ⟨V,0,none⟩)) rfl (fun W hS=>by have a:=ξ hS.2 0;simp only[zG,zH,zI] at a;clear hS;go_simp) hSd ?_;refine zU 4 (.func (.func 107) #[] #[.pointer (some ⟨F,0,none⟩)]) hSd ?_;refine zq 5 fun K hK=>?_;have hcf:=zP6;go_simp;refine ((HY2.out.keep ((Kp.refl _ w2).drew)).next hfl).mono ?_;rintro e w3 ⟨rfl,hy3,hW3⟩;have hS3:=And.intro (hW3.oth _ _ _ _ hSd.1 (by decide) (by simp;omega)) (hW3.oth _ _ _ _ hSd.2 (by decide) (by simp;omega));have hR3:=hW3.oth _ _ _ _ HR2.out (by decide) (by simp;omega);have hq3:=hW3.oth _ _ _ _ HN2.out (by decide) (by simp;omega);have hs3:=hW3.size;have hsp3:=((HSP.out.keep0 HK2.out).keep0 ((Kp.refl _ w2).drew)).wx hW3 (by decide) ((HY2.out.keep ((Kp.refl _ w2).drew)).apt.sub (by decide));refine hK.out _ _ hS3 (fun _=>?_);clear hK K hcf
 try simp only[zZ]
 refine zq 6 fun K hK=>?_;go_simp;refine (hy3.lay hVA hwl hb hNN (w.heap.size+3) lv (.slice pb pn pc) (.slice none 0 0) (prs L.sub) [] hq3 (by have:=HPN.out;omega) (by have:=HPN.out;omega) (by have h:=hsp3;rw[HPSL.out] at h ⊢;exact h) ⟨rfl,Or.inl ⟨rfl,none,0,rfl,fun _=>rfl⟩⟩ (by simpa [qD1] using hm) (by simp;omega) hz (by simp)).mono ?_;rintro e w4 ⟨rfl,hy4,hW4⟩;have hS4:=And.intro (hW4.oth _ _ _ _ hS3.1 (by decide) (by simp;omega)) (hW4.oth _ _ _ _ hS3.2 (by decide) (by simp;omega));have hR4:=hW4.oth _ _ _ _ hR3 (by decide) (by simp;omega);refine hK.out _ _ hS4 (fun _=>?_);clear hK K
 try simp only[zZ]
 refine zU 7 (.agg #[.string h.key,.int .i64 b,.int .u64 (fnv (qA1 lv (prs L.sub) [])),.pointer none]) hS4 ?_;refine zq 8 fun K hK=>?_;have z0:=ξ hR4;have f0:=ω hR4;have hR4s:=ζ hR4;have hls:=qK2 (.string h.key) (.int .i64 (b:Int)) (.int .u64 (fnv (qA1 lv (prs L.sub) []))) (.pointer none) hR4;have HR4:=zh hR4;clear hR4;go_simp;obtain⟨w5,hw5,hR5,hK5⟩:∃ w5,w5=(((w4.setCell ⟨w.heap.size+1+1,0,none⟩ (.string h.key)).setCell ⟨w.heap.size+1+1,1,none⟩ (.int .i64 (b:Int))).setCell ⟨w.heap.size+1+1,2,none⟩ (.int .u64 (fnv (qA1 lv (prs L.sub) [])))).setCell ⟨w.heap.size+1+1,3,none⟩ (.pointer none)∧w5.heap[w.heap.size+1+1]?=some (.cells #[.string h.key,.int .i64 (b:Int),.int .u64 (fnv (qA1 lv (prs L.sub) [])),.pointer none] 81)∧Kp [w.heap.size+1+1] w4 w5:=⟨_,rfl,hls.1,hls.2⟩;rw[←hw5];clear hw5 hls z0 f0;refine hK.out _ _ ⟨hK5.hp hS4.1,hK5.ho hS4.2⟩ (fun _=>?_);clear hK K;refine zd ?_
 try simp only[zZ]
 have hap:Apt w4 [w.heap.size+1+1] [186,72,89,22,3]:=fun q hq c t fr e=>by rw[List.mem_singleton.1 hq,HR4.out] at e;cases e;decide
 have HY5:Hid (Ly κ wn V A N C base F (ws++[(b,toB (qA1 lv (prs L.sub) []))]) fr w5):=hy4.turn hK5 hap;have HW5:Hid (Wx base [A,F] w w5):=((Wx.ofKp (HK2.out.mono (by simp)) HY.out.low).trans (((Wx.ofKp (Kp.mono (S:=[]) ((Kp.refl _ w2).drew) (by simp)) HY2.out.low).trans hW3).trans hW4)).tail hK5 (by simp;omega) HY.out.low;have HR5:=zh hR5;clear hSd hS3 hS4 hR3 hq3 hy3 hW3 hy4 hW4 hR5 hK5 hap HR4 hR4s;go_wp2_with fail;exact bodyPost_ret (results_cell_row results106 _ _ (w.heap.size+1+1) 81 #[.string h.key,.int .i64 (b:Int),.int .u64 (fnv (qA1 lv (prs L.sub) [])),.pointer none] (0,0) _ rfl HR5.out underlying81 rfl (by kernel_rfl)) rfl ⟨by simp only[qC2,HL.ptr,HPN.out.2.1,Option.map_none],by have h:=HY5.out;rw[HPN.out.2.1] at h;exact h,HW5.out⟩
variable {κ:Nat}
def OkL:(n:Nat)→Lnk (Tn n)→Prop
 | 0,l=>l.key.size≤8∧(l.ref=none→(∀ p∈prs l.sub,qC5 p)∧2+meas μ (prs l.sub)≤128∧(prs l.sub).length≤126)
 | n+1,l=>l.key.size≤8∧(l.ref=none→n+1<256∧(∀ m∈η l.sub,OkL n m)∧2+meas qA2 (η l.sub)≤128∧(η l.sub).length≤126)
def qQ2(F:Nat):Value:=.func (.func 107) #[] #[.pointer (some ⟨F,0,none⟩)]
def qV3(κ:Nat)(wn:Int)(V A N C base F:Nat)(O:qE8)(n:Nat):Prop:=∀ (h r:HL) (L:Lnk (Tn n)) (fr:List Nat) (ws:List (Nat × List UInt8)) (w:World),Ly κ wn V A N C base F ws fr w→RL O n w h L→OkL n L→news n L≤fr.length→(∀ b∈fr,b<N)→ws.length+fr.length≤100000→
 Calls prog 106 #[υ V r,qC2 h,qQ2 F] w fun e w'=>e=.returned (qC2 (lhl (ι n L fr).1))∧Ly κ wn V A N C base F (ws++(ι n L fr).2.1) (ι n L fr).2.2 w'∧Wx base [A,F] w w'
theorem zJ5{X:Type}{N:Nat→X→Prop}{O:Nat→Int→X→Prop}{h:HL}{l:Lnk X}(hr:RLof N O h l)(hl:l.ref.isSome):h.p=none∧h=lhl l:=by
 obtain⟨h1,h2⟩:=hr
 cases hx:l.ref with
 | none=>rw[hx] at hl;cases hl
 | some x=>
  rw[hx] at h2;obtain⟨e1,e2,e3,_⟩:=h2;refine⟨e3,?_⟩;cases h;simp only at h1 e1 e2 e3;subst h1 e1 e2 e3;simp[lhl,hx]
theorem zJ2{X:Type}{N:Nat→X→Prop}{O:Nat→Int→X→Prop}{h:HL}{l:Lnk X}(hr:RLof N O h l)(hl:l.ref=none):h.key=l.key∧∃ q,h.p=some q∧N q l.sub:=by
 obtain⟨h1,h2⟩:=hr;rw[hl] at h2;obtain⟨_,_,q,e1,e2⟩:=h2;exact⟨h1,q,e1,e2⟩
theorem jC3(wn:Int)(V A N C base F:Nat)(O:qE8)(hVA:V≠A)(hN:N≤1000):qV3 κ wn V A N C base F O 0:=by
 intro h r L fr ws w hy hr ho hn hf hl
 cases hx:L.ref with
 | some x=>
  have hs:L.ref.isSome:=by rw[hx];rfl
  obtain⟨hp,he⟩:=zJ5 hr hs;have e:ι 0 L fr=(L,[],fr):=by simp only[ι,if_pos hs]
  rw[e];refine (zI2 V r h (qQ2 F) w hp).mono ?_;rintro e w' ⟨rfl,hK⟩;exact⟨by rw[←he],by simpa using hy.keep hK,Wx.ofKp (hK.mono (by simp)) hy.low⟩
 | none=>
  obtain⟨hk,q,hp,hq⟩:=zJ2 hr hx;have hns:¬L.ref.isSome=true:=by rw[hx];simp
  have h1:news 0 L=1:=by simp only[news,if_neg hns]
  cases fr with
  | nil=>rw[h1] at hn;simp at hn
  | cons b fr=>
   obtain⟨z1,z2,z3⟩:=ho.2 hx;have e:ι 0 L (b::fr)=(⟨L.key,some (b,fnv (qA1 0 (prs L.sub) [])),L.sub⟩,[(b,toB (qA1 0 (prs L.sub) []))],fr):=by simp only[ι,if_neg hns,List.headD_cons,List.tail_cons]
   rw[e];refine (jC0 wn V A N C base F ws fr b r h q O L w hy hVA hN (hf b (by simp)) (by omega) (by simp at hl;omega) hp hq z1 z2 z3).mono ?_;rintro e w' ⟨rfl,h2,h3⟩;exact⟨by simp only[lhl,hk,Option.getD_some],h2,h3⟩
theorem zK0{base base':Nat}{S:List Nat}{w w':World}{e:TypeId}{sz:Nat}{v:Value}{n:Nat}{xs:List Value}(h:w.ownsRow base' e sz v n xs)(hW:Wx base S w w')(he:e≠89)(hS:Apt w S [e]):w'.ownsRow base' e sz v n xs:=by
 refine⟨h.1,?_⟩;rcases h.2 with h1|⟨g,cap,cur,h1,h2,h3,h4⟩
 ·exact Or.inl h1
 ·exact Or.inr ⟨g,cap,cur,h1,h2,hW.oth _ _ _ _ h3 he (fun hm=>hS g hm _ _ _ h3 (by simp)),h4⟩
theorem zJ7{w:World}{base:Nat}{e:TypeId}{sz:Nat}{v:Value}{n:Nat}{xs:List Value}{Ts:List TypeId}(h:w.ownsRow base e sz v n xs)(hT:e ∉ Ts):Apt w v.ownBlock.toList Ts:=fun q hq c t fr e'=>by
 rcases h.2 with⟨rfl,_⟩|⟨g,cap,cur,rfl,_,h3,_⟩
 ·simp[Value.ownBlock] at hq
 ·simp only[Value.ownBlock,Option.toList_some,List.mem_singleton] at hq;rw[hq,h3] at e';cases e';exact hT
theorem qQ3{w:World}{base:Nat}{e:TypeId}{sz:Nat}{v:Value}{n:Nat}{xs:List Value}(h:w.ownsRow base e sz v n xs):∀ k,v.ownBlock=some k→base≤k∧k<w.heap.size:=fun k hk=>by
 refine⟨qI3 h k hk,?_⟩;rcases h.2 with⟨rfl,_⟩|⟨g,cap,cur,rfl,_,h3,_⟩
 ·simp[Value.ownBlock] at hk
 ·simp only[Value.ownBlock,Option.some.injEq] at hk;rw[←hk];exact ζ h3
theorem zB8{X:Type}(f:Lnk X→List Nat→Lnk X × List (Nat × List UInt8) × List Nat)(g:Lnk X→Nat):∀ (ls:List (Lnk X)) (fr:List Nat),(∀ l∈ls,∀ fr,(f l fr).2.1.length=g l)→(qB1 f ls fr).2.1.length=meas g ls
 | [],fr,_=>by simp[qB1,qD1]
 | l::ls,fr,h=>by
  simp only[qB1,List.length_append];rw[zB8 f g ls _ (fun x hx=>h x (by simp[hx])),h l (by simp),qE0]
theorem qW4:∀ (n:Nat) (l:Lnk (Tn n)) (fr:List Nat),(ι n l fr).2.1.length=news n l
 | 0,l,fr=>by
  simp only[ι,news];split<;>simp
 | n+1,l,fr=>by
  simp only[ι,news];split
  ·simp
  ·simp only[List.length_append,List.length_cons,List.length_nil];rw[zB8 (ι n) (news n) _ fr (fun l _ fr=>qW4 n l fr)];exact Nat.add_comm _ _
theorem zV5:∀ (n:Nat) (l:Lnk (Tn n)) (fr:List Nat),(ι n l fr).1.key=l.key
 | 0,l,fr=>by
  simp only[ι];split<;>rfl
 | n+1,l,fr=>by
  simp only[ι];split<;>rfl
theorem zH5{X:Type}(f:Lnk X→List Nat→Lnk X × List (Nat × List UInt8) × List Nat):∀ (ls:List (Lnk X)) (fr:List Nat),(qB1 f ls fr).1.length=ls.length
 | [],fr=>rfl
 | l::ls,fr=>by simp only[qB1,List.length_cons,zH5 f ls]
theorem zB9(n:Nat):∀ (ls:List (Lnk (Tn n))) (fr:List Nat),meas φ ((qB1 (ι n) ls fr).1.map lhl)=meas qA2 ls
 | [],fr=>rfl
 | l::ls,fr=>by
  simp only[qB1,List.map_cons,qE0,zB9 n ls];simp only[φ,qA2,lhl,zV5]
theorem jD0(N n:Nat)(hN:N≤1000)(l:Lnk (Tn n))(fr:List Nat)(hk:l.key.size≤8)(hr:∀ x,l.ref=some x→x.1≤1000000∧0≤x.2)(hf:∀ b∈fr,b<N):(lhl (ι n l fr).1).key.size≤8∧0≤(lhl (ι n l fr).1).b∧(lhl (ι n l fr).1).b≤1000000∧0≤(lhl (ι n l fr).1).s:=by
 have hd:∀ g:List Nat,(∀ b∈g,b<N)→g.headD 0≤1000000:=fun g hg=>by
  cases g with
  | nil=>simp
  | cons b g=>have:=hg b (by simp);simp;omega
 have hold:∀ (m:Lnk (Tn n)),m.key.size≤8→(∀ x,m.ref=some x→x.1≤1000000∧0≤x.2)→(lhl m).key.size≤8∧0≤(lhl m).b∧(lhl m).b≤1000000∧0≤(lhl m).s:=fun m h1 h2=>by
  refine⟨h1,?_⟩;simp only[lhl]
  cases hm:m.ref with
  | none=>simp
  | some x=>have:=h2 x hm;simp only[Option.getD_some];omega
 have hnew:∀ (k:ByteArray) (t:Tn n) (b:Nat) (s:Int),k.size≤8→b≤1000000→0≤s→(lhl (⟨k,some (b,s),t⟩:Lnk (Tn n))).key.size≤8∧0≤(lhl (⟨k,some (b,s),t⟩:Lnk (Tn n))).b∧(lhl (⟨k,some (b,s),t⟩:Lnk (Tn n))).b≤1000000∧0≤(lhl (⟨k,some (b,s),t⟩:Lnk (Tn n))).s:=fun k t b s h1 h2 h3=>⟨h1,by simp only[lhl,Option.getD_some];omega⟩
 cases n with
 | zero=>
  simp only[ι];split
  ·exact hold l hk hr
  ·exact hnew _ _ _ _ hk (hd fr hf) (qP9 _)
 | succ n=>
  simp only[ι];split
  ·exact hold l hk hr
  ·have hg:∀ b∈(qB1 (ι n) (η l.sub) fr).2.2,b<N:=fun b hb=>by
    rw[qP1 (ι n) (news n) _ fr (fun l _ fr=>qN1 n l fr)] at hb;exact hf b (List.mem_of_mem_drop hb)
   exact hnew _ _ _ _ hk (hd _ hg) (qP9 _)
theorem zX0(N n:Nat)(hN:N≤1000):∀ (ls:List (Lnk (Tn n))) (fr:List Nat),(∀ l∈ls,l.key.size≤8∧∀ x,l.ref=some x→x.1≤1000000∧0≤x.2)→(∀ b∈fr,b<N)→∀ p∈(qB1 (ι n) ls fr).1.map lhl,p.key.size≤8∧0≤p.b∧p.b≤1000000∧0≤p.s
 | [],fr,_,_=>by simp[qB1]
 | l::ls,fr,h,hf=>by
  intro p hp;simp only[qB1,List.map_cons,List.mem_cons] at hp;rcases hp with rfl|hp
  ·exact jD0 N n hN l fr (h l (by simp)).1 (h l (by simp)).2 hf
  ·exact zX0 N n hN ls _ (fun x hx=>h x (by simp[hx])) (fun b hb=>by rw[qN1] at hb;exact hf b (List.mem_of_mem_drop hb)) p hp
end Go.Proofs.YtdohpenfkdckiabGreatDoor
