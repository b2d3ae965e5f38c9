import Derived.Test.YtdohpenfkdckiaaGreatDoorJ23
set_option linter.all false
set_option maxRecDepth 100000
set_option maxHeartbeats 20000000
namespace Go.Proofs.YtdohpenfkdckiaaGreatDoor
open Go.Proofs.Tryz
open Go.RowKit
variable {κ:Nat}
def KF.shut(k:KF):KF:={ k with x:=none,ts:=.slice none 0 0,po:=false }
theorem zZ4(B:Nat)(k:KF)(w:World)(h:w.heap[B]?=some (kob k)):
  Calls prog 125 #[.pointer (some ⟨B,0,none⟩)] w fun e w'=>e=.returned (.tuple #[])∧w'.heap[B]?=some (kob k.shut)∧Kp [B] w w':=by
 have k7:=ξ h;simp only[kob,zG,zH,zI] at k7;have f7:=φ h;go_enter func125,ntmps125;go_wp2
 go_end0
 exact⟨rfl,μ (μ (μ h 7 _) 11 _) 10 _,(((Kp.refl _ _).sc _).sc _).sc _⟩
theorem xB6(may were:Value)(n:Nat)(e wl bt:Bool)(w:World):Calls prog 128 #[.agg #[.int .i64 n,may,.bool e,were,.bool wl,.bool bt]] w fun r w'=>r=.returned (.bool (decide (8≤n∧n≤400)))∧Kp [] w w':=by
 by_cases h:8≤n∧n≤400
 ·rw[decide_eq_true h];exact jN7 may were n e wl bt w h.1 h.2
 ·rw[decide_eq_false h];exact jN6 may were n e wl bt w (by omega)
def KF.only(k:KF)(gm gw kk cw:Nat):KF:={ k with may:=.slice (some ⟨gm,0,none⟩) 1 1,emp:=false,were:=.slice (some ⟨gw,0,none⟩) (kk+1) cw }
theorem jP1(B A n C:Nat)(cache:Value)(calls writes:Int)(k:KF)(l:List UInt8)(R:Option Int→World→Prop)(w:World)(hB:w.heap[B]?=some (kob k))(hkA:k.A=A)(hkn:k.n=n)(hA:w.heap[A]?=some (qA8 κ n C cache calls writes))(hC:w.heap[C]?=some (.cells (enc l) 115))(hg:w.cell? ⟨0,0,none⟩=some qE9)(h0:0<B∧0<A∧0<C)
  (base m cm kk cw:Nat) (pm pw:Option Addr) (hmy:k.may=.slice pm m cm) (hwe:k.were=.slice pw kk cw) (hm:RowM w base (.slice pm m cm) m) (hk:RowM w base (.slice pw kk cw) kk) (hm1:m≤100000) (hk1:kk≤100000)
  (hcall:∀ W,Kp [B] w W→Calls prog 42 #[.pointer (some ⟨A,0,none⟩)] W fun e w'=>∃ v ko,e=.returned v∧ErrV w' v ko∧R ko w'∧Kp [A,C] W w'∧((ko=none∧(8≤n∧n≤400))∨(ko=some 10∧¬(8≤n∧n≤400)))):
  Calls prog 80 #[.pointer (some ⟨B,0,none⟩)] w fun e w'=>e=.returned (.bool true)∧∃ ko w1,R ko w1∧Kp [B,A,C] w w1∧
   ((ko=some 10∧Kp [] w1 w'∧w'.heap[B]?=some (kob k.shut))∨(ko=none∧Kp [B] w1 w'∧∃ gm gw cw',w'.heap[B]?=some (kob { k.shut.only gm gw kk cw' with wild:=false,bit:=false })∧w'.ownsRow w1.heap.size 126 1 (.slice (some ⟨gm,0,none⟩) 1 1) 1 [.slice none 0 0]∧RowM w' w1.heap.size (.slice (some ⟨gw,0,none⟩) (kk+1) cw') (kk+1))):=by
 have hBs:=ζ hB;have hAs:=ζ hA;have HCC:=hid hC;have HB:=hid hB;have HCALL:=hid hcall;have HM:=hid (show k.may=.slice pm m cm∧k.were=.slice pw kk cw∧RowM w base (.slice pm m cm) m∧RowM w base (.slice pw kk cw) kk∧m≤100000∧kk≤100000 from⟨hmy,hwe,hm,hk,hm1,hk1⟩);have HBA:=hid (show A≠B from ω hA hB (by decide));have HA:=hid hA;have HG:=hid hg;subst hkn hkA;have hz:0<w.heap.size:=by omega
 clear hC hB hcall hm hk hmy hwe hm1 hk1 hA hg;go_enter func80,ntmps80;go_wp2_with fail;refine (zZ4 B k w HB.out).mono ?_;rintro e w1 ⟨rfl,hB1,hK1⟩;have hA1:=hK1.heap HA.out (by simpa using HBA.out);have hB1s:=ζ hB1;have b0:=ξ hB1 0;simp only[kob,KF.shut,zG,zH,zI] at b0;have HB1:=hid hB1;have HK1:=hid hK1;clear hB1 hK1;go_wp2_with fail;refine (qK6 k.A k.n C _ calls writes w1 hA1).mono ?_;rintro e w1 ⟨rfl,rfl⟩;clear hA1;go_wp2_with fail;refine (show Calls _ _ _ _ _ from HCALL.out w1 HK1.out).mono ?_;rintro e w2 ⟨v,ko,rfl,hv,hR,hK2,hko⟩;have hBn:B ∉ [k.A,C]:=by simp[HBA.out.symm,ω HB.out HCC.out (by decide)]
 have hB2:=hK2.heap HB1.out hBn;have hKw2:Kp [B,k.A,C] w w2:=(HK1.out.mono (by simp)).trans hK2 (by simp +contextual);have hg2:w2.cell? ⟨0,0,none⟩=some qE9:=(hKw2.cell (a:=⟨0,0,none⟩) hz (by simp;omega)).trans HG.out;have hap:∀ q c t fr,w.heap[q]?=some (.cells c t fr)→q∈[B,k.A,C]→t≠126:=fun q c t fr e hq=>by
  simp only[List.mem_cons,List.not_mem_nil,or_false] at hq;rcases hq with rfl|rfl|rfl
  ·rw[HB.out] at e;cases e;decide
  ·rw[HA.out] at e;cases e;decide
  ·rw[HCC.out] at e;cases e;decide
 have HR:=hid (And.intro hR hKw2);have HMR:=hid (show RowM w2 base (.slice pm m cm) m∧RowM w2 base (.slice pw kk cw) kk from⟨HM.out.2.2.1.kp hKw2 hap,HM.out.2.2.2.1.kp hKw2 hap⟩);have HKO:=hid hko;have HB2:=hid hB2;clear hR hko hK2 hKw2 hap hBn b0 hB2 HCALL;go_wp2_with fail;refine (qJ7 v ko w2 hg2 hv).mono ?_;rintro e w3 ⟨rfl,hK3⟩;have hB3:=hK3.hp HB2.out;have hB3s:=ζ hB3;have b1:=ξ hB3 1;have b2:=ξ hB3 2;have b3:=ξ hB3 3;have b4:=ξ hB3 4;have b5:=ξ hB3 5;have b6:=ξ hB3 6;simp only[kob,KF.shut,zG,zH,zI] at b1 b2 b3 b4 b5 b6;have HB3:=hid hB3;have HK3:=hid hK3;clear hK3 hg2 hv hB3
 go_wp2_with (go_at_call 127;refine (qH6 _ _).mono ?_;rintro e w3 ⟨rfl,rfl⟩)
 refine (xB6 _ _ k.n _ _ _ w3).mono ?_;rintro e w4 ⟨rfl,hK4⟩;have hB4:=hK4.hp HB3.out;have hB4s:=ζ hB4;have hKw4:Kp [] w2 w4:=HK3.out.tr hK4;clear hK4 b1 b2 b3 b4 b5 b6 hB3s;rcases HKO.out with⟨rfl,hf⟩|⟨rfl,hf⟩
 ·rw[decide_eq_true hf];simp only[Option.getD_none];have b1:=ξ hB4 1;have b2:=ξ hB4 2;have b3:=ξ hB4 3;have b4:=ξ hB4 4;have b5:=ξ hB4 5;have b6:=ξ hB4 6;simp only[kob,KF.shut,zG,zH,zI] at b1 b2 b3 b4 b5 b6;rw[HM.out.1] at b2;rw[HM.out.2.1] at b4;have HB4:=hid hB4;have HK4:=hid hKw4;have HM4:=hid (show RowM w4 base (.slice pm m cm) m∧RowM w4 base (.slice pw kk cw) kk from⟨HMR.out.1.keep hKw4 (by intro q hq;cases hq),HMR.out.2.keep hKw4 (by intro q hq;cases hq)⟩);clear hf hB4 hKw4;go_wp2_with fail;refine (zR2 base m cm kk cw pm pw k.n k.emp k.wild k.bit none 0 0 w4 HM4.out.1 HM4.out.2 HM.out.2.2.2.2.1 HM.out.2.2.2.2.2).mono ?_;rintro e w5 ⟨gm,gw,cw',rfl,hmay,hwere,hK5⟩;have hB5:=hK5.hp HB4.out;have hB5s:=ζ hB5;clear b1 b2 b3 b4 b5 b6;have b1:=ξ hB5 1;have b2:=ξ hB5 2;have b3:=ξ hB5 3;have b4:=ξ hB5 4;have b5:=ξ hB5 5;have b6:=ξ hB5 6;simp only[kob,KF.shut,zG,zH,zI] at b1 b2 b3 b4 b5 b6;have fb1:=φ hB5;have HB5:=hid hB5;have HW5:=hid (show w5.ownsRow w4.heap.size 126 1 (.slice (some ⟨gm,0,none⟩) 1 1) 1 [.slice none 0 0]∧RowM w5 w4.heap.size (.slice (some ⟨gw,0,none⟩) (kk+1) cw') (kk+1)∧Kp [] w2 w5 from⟨hmay,hwere,HK4.out.tr hK5⟩);have HSZ:=hid (show w2.heap.size≤w4.heap.size from HK4.out.size);clear hB5 hmay hwere hK5;go_wp2;go_ret;obtain⟨w6,hw6,hB6,hK6⟩:∃ w6,w6=((((((((w5.setCell ⟨B,1,none⟩ (.int .i64 k.n)).setCell ⟨B,2,none⟩ (.slice (some ⟨gm,0,none⟩) 1 1)).setCell ⟨B,3,none⟩ (.bool false)).setCell ⟨B,4,none⟩ (.slice (some ⟨gw,0,none⟩) (kk+1) cw')).setCell ⟨B,5,none⟩ (.bool k.wild)).setCell ⟨B,6,none⟩ (.bool k.bit)).setCell ⟨B,5,none⟩ (.bool false)).setCell ⟨B,6,none⟩ (.bool false))∧w6.heap[B]?=some (kob { k.shut.only gm gw kk cw' with wild:=false,bit:=false })∧Kp [B] w5 w6:=
   ⟨_,rfl,μ (μ (μ (μ (μ (μ (μ (μ HB5.out 1 _) 2 _) 3 _) 4 _) 5 _) 6 _) 5 _) 6 _,(((((((((Kp.refl [B] w5).sc _).sc _).sc _).sc _).sc _).sc _).sc _).sc _)⟩
  rw[←hw6];have hap:∀ q c t fr,w5.heap[q]?=some (.cells c t fr)→q∈[B]→t≠126:=fun q c t fr e hq=>by
   rw[List.mem_singleton.1 hq,HB5.out] at e;cases e;decide
  exact⟨rfl,none,w2,HR.out.1,HR.out.2,.inr ⟨rfl,(HW5.out.2.2.mono (by simp)).tr hK6,gm,gw,cw',hB6,qF1 (qK4 HW5.out.1 HSZ.out) hK6 hap,(HW5.out.2.1.le HSZ.out).kp hK6 hap⟩⟩
 ·rw[decide_eq_false hf];simp only[Option.getD_some];have HB4:=hid hB4;have HK4:=hid hKw4;clear hf hB4 hKw4;go_wp2;go_ret;exact⟨rfl,some 10,w2,HR.out.1,HR.out.2,.inl ⟨rfl,HK4.out,HB4.out⟩⟩
end Go.Proofs.YtdohpenfkdckiaaGreatDoor
