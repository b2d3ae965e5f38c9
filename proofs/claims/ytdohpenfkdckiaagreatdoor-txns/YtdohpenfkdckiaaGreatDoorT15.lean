import Derived.Test.YtdohpenfkdckiaaGreatDoorT14
import Derived.ArgAppend
set_option linter.all false
set_option maxRecDepth 100000
set_option maxHeartbeats 20000000
namespace Go.Proofs.YtdohpenfkdckiaaGreatDoor
open Go.Proofs.Tryz
open Go.RowKit
def TF.step(f:TF)(v:Value)(m:Nat):TF:={ f with v:=v,chg:=f.chg+1,most:=if f.most<m then (m:Int) else f.most,stp:=f.stp+1 }
def qW6(f:TF)(tb:Nat)(R:World→Prop)(S:List Nat)(qs:List KV)(w w':World):Prop:=∃ w1 v',R w1∧Kp S w w1∧Kp [tb] w1 w'∧w'.heap[tb]?=some (tob (f.step v' qs.length))∧SPR w' v' qs
theorem zY6(B tb A n C:Nat)(cache:Value)(calls writes:Int)(k:KF)(f:TF)(tbs:List Nat)(fs:List (TF × Nat))(ps:List KV)(key val:ByteArray)(ko:Option Int)(hko:ko=none)(S:List Nat)(R:World→Prop)(w:World)(hI:ChIn w B tb A n C cache calls writes k f tbs fs ps)(hP:ProgS w S)(hj:qE6 f.wr f.dn key val=0)(hcall:Calls prog 34 #[.pointer (some ⟨f.x,0,none⟩),.string key,.string val] w fun e w'=>∃ v,e=.returned v∧qB4 w' v ko∧R w'∧Kp S w w'):
  Calls prog 132 #[.pointer (some ⟨B,0,none⟩),.pointer (some ⟨tb,0,none⟩),.string key,.string val,.bool false] w fun e w'=>e=.returned (.bool true)∧qW6 f tb R S (ins ⟨key,val⟩ ps) w w':=by
 have hBs:=ζ hI.hB;have hTs:=ζ hI.hT;have hAs:=ζ hI.hA;have HI:=zh hI;have HP:=zh hP;have hB:=hI.hB;have hT:=hI.hT;have hkA:=hI.kA;have HCALL:=zh hcall;have b0:=ξ hB 0;simp only[kob,zG,zH,zI] at b0;have t0:=ξ hT 0;simp only[tob,zG,zH,zI] at t0;rw[hkA] at b0;clear hI hP hB hT hkA hcall;go_enter func132,ntmps132;go_wp2_with fail;refine (qG5 A n C cache calls writes w HI.out.hA).mono ?_;rintro e w0 ⟨rfl,rfl⟩;go_wp2_with fail;refine (show Calls _ _ _ _ _ from HCALL.out).mono ?_;rintro e w1 ⟨v,rfl,hv,hR,hK1⟩;have hB1:=HP.out.stay hK1 HI.out.hB (by decide);have hT1:=HP.out.stay hK1 HI.out.hT (by decide);have hsp1:=HI.out.sp.keep hK1 (HP.out.apt (by decide));have hg1:=HP.out.g0 hK1 HI.out.g0 (by omega);have HR:Hid (R w1∧Kp S w0 w1):=⟨hR,hK1⟩;clear b0 t0 hR;go_wp2_with fail;refine (qH9 v ko w1 hg1 hv).mono ?_;rintro e w2 ⟨rfl,hK2⟩;have hB2:=hK2.hp hB1;have hT2:=hK2.hp hT1;have hsp2:=hsp1.keep0 hK2;have hT2s:=ζ hT2;have hB2s:=ζ hB2;have t1:=ξ hT2 1;have t2:=ξ hT2 2;have t3:=ξ hT2 3;have t4:=ξ hT2 4;have t5:=ξ hT2 5;have t6:=ξ hT2 6;have t7:=ξ hT2 7;simp only[tob,zG,zH,zI] at t1 t2 t3 t4 t5 t6 t7;obtain⟨vb,vl,vc,hvv⟩:=hsp2.slc;rw[hvv] at t1;have HVV:=zh hvv;clear hvv
 go_wp2_with (go_at_call 127;refine (qF3 _ _).mono ?_;rintro e w2 ⟨rfl,rfl⟩)
 refine (qR4 (.slice vb vl vc) f.cs f.wr f.dn f.chg f.most f.com f.stp key val _ ⟨_,_,_,rfl⟩).mono ?_;rintro e w3 ⟨rfl,hK3⟩;have hB3:=hK3.hp hB2;have hT3:=hK3.hp hT2;have hsp3:=hsp2.keep0 hK3;have hB3s:=ζ hB3;have hT3s:=ζ hT3;have b10:=ξ hB3 10;simp only[kob,zG,zH,zI] at b10;rw[HI.out.po] at b10;have HK3:Hid (Kp [] w1 w3):=hK2.tr hK3;clear t1 t2 t3 t4 t5 t6 t7 hB1 hT1 hsp1 hg1 hK1 hK2 hK3 hB2 hT2 hsp2 hv;rw[hj];clear hj hko;have t1:=ξ hT3 1;simp only[tob,zG,zH,zI] at t1;rw[HVV.out] at t1;have hsp3':SPR w3 (.slice vb vl vc) ps:=by rw[←HVV.out];exact hsp3
 have HT3:=zh hT3;have HSZ:=zh HI.out.sz;have HSPV:=zh hsp3';have HB3:=zh hB3;clear hT3 hB3 hsp3;go_wp2_with fail;refine (zC1 (.slice vb vl vc) ps ⟨key,val⟩ _ hsp3' (by have:=HSZ.out;omega)).mono ?_;rintro e w4 ⟨v4,rfl,hsp4,hK4⟩;have hT4:=hK4.hp HT3.out;have hT4s:=ζ hT4;obtain⟨b4,c4,hv4⟩:=hsp4.form;obtain⟨m4,hm4⟩:∃ m4:Nat,(ins ⟨key,val⟩ ps).length=m4:=⟨_,rfl⟩;rw[hm4] at hv4;subst hv4;have HSP4:Hid (SPR w4 (.slice b4 m4 c4) (ins ⟨key,val⟩ ps)∧(ins ⟨key,val⟩ ps).length=m4∧Kp [] w3 w4):=⟨hsp4,hm4,hK4⟩;clear hsp4 hm4 hK4 t1 hsp3';have t1:=ξ hT4 1;simp only[tob,zG,zH,zI] at t1;have f1:=υ hT4 1;go_wp2_with fail;obtain⟨hspE,hl5,hKE⟩:=HSP4.out;obtain⟨w5,hw5,hT5,hN5,hKx⟩:∃ w5,w5=(w4.setCell ⟨tb,1,none⟩ (.slice b4 m4 c4)).alloc (.cells #[.slice b4 m4 c4] 126)∧w5.heap[tb]?=some (tob { f with v:=.slice b4 m4 c4 })∧w5.heap[w4.heap.size]?=some (.cells #[.slice b4 m4 c4] 126)∧Kp [tb] w4 w5:=
  ⟨_,rfl,θ _ (ν hT4 1 _),by have e:=κ (w4.setCell ⟨tb,1,none⟩ (.slice b4 m4 c4)) (.cells #[.slice b4 m4 c4] 126);simpa using e,((Kp.refl _ _).sc _).alloc _⟩
 rw[←hw5];have hK5:Kp [tb] w3 w5:=(hKE.mono (by simp)).tr hKx;have hsp5:=hspE.keep hKx (Apt.one hT4 (by decide));clear hw5 t1 f1 hT4 hKx hspE hKE HSP4;have HT5:=zh hT5;have HE5:Hid (Kp [tb] w3 w5∧SPR w5 (.slice b4 m4 c4) (ins ⟨key,val⟩ ps)∧(ins ⟨key,val⟩ ps).length=m4):=⟨hK5,hsp5,hl5⟩;have hT5s:=ζ hT5;have hN5s:=ζ hN5;have t4:=ξ hT5;simp only[tob,zG,zH,zI] at t4;have f4:=υ hT5;have n0:=ξ hN5 0;simp only[tob,zG,zH,zI] at n0;clear hT5 hK5 hN5 hsp5 hl5;have hw4:wrap64 (f.chg+1)=f.chg+1:=by have h0:=HI.out.c0;have h1:=HI.out.c1;simp only[wrap64];omega
 have hw7:wrap64 (f.stp+1)=f.stp+1:=by have h0:=HI.out.s0;have h1:=HI.out.s1;simp only[wrap64];omega
 by_cases hq:f.most<(m4:Int)
 ·have HST:Hid (f.step (.slice b4 m4 c4) (ins ⟨key,val⟩ ps).length={ f with v:=.slice b4 m4 c4,most:=((m4:Nat):Int),chg:=f.chg+1,stp:=f.stp+1 }):=by show _=_;rw[HE5.out.2.2,TF.step,if_pos hq]
  go_quiet (fail)
  go_wp2
  try rw[hw4,hw7]
  go_ret;have hKF:Kp [tb] w5 ((((w5.drewN nq).setCell ⟨tb,5,none⟩ (.int .i64 m4)).setCell ⟨tb,4,none⟩ (.int .i64 (f.chg+1))).setCell ⟨tb,7,none⟩ (.int .i64 (f.stp+1))):=((((Kp.refl _ w5).drewN nq).sc _).sc _).sc _;refine⟨rfl,w1,.slice b4 m4 c4,HR.out.1,HR.out.2,((HK3.out.mono (by simp)).tr HE5.out.1).tr hKF,?_,HE5.out.2.1.keep hKF (Apt.one HT5.out (by decide))⟩;rw[HST.out];exact ν (ν (ν (show (w5.drewN nq).heap[tb]?=_ from HT5.out) 5 _) 4 _) 7 _
 ·have HST:Hid (f.step (.slice b4 m4 c4) (ins ⟨key,val⟩ ps).length={ f with v:=.slice b4 m4 c4,chg:=f.chg+1,stp:=f.stp+1 }):=by show _=_;rw[HE5.out.2.2,TF.step,if_neg hq]
  go_quiet (fail)
  go_wp2
  try rw[hw4,hw7]
  go_ret;have hKF:Kp [tb] w5 (((w5.drewN nq).setCell ⟨tb,4,none⟩ (.int .i64 (f.chg+1))).setCell ⟨tb,7,none⟩ (.int .i64 (f.stp+1))):=(((Kp.refl _ w5).drewN nq).sc _).sc _;refine⟨rfl,w1,.slice b4 m4 c4,HR.out.1,HR.out.2,((HK3.out.mono (by simp)).tr HE5.out.1).tr hKF,?_,HE5.out.2.1.keep hKF (Apt.one HT5.out (by decide))⟩;rw[HST.out];exact ν (ν (show (w5.drewN nq).heap[tb]?=_ from HT5.out) 4 _) 7 _
theorem zY4(B tb A n C:Nat)(cache:Value)(calls writes:Int)(k:KF)(f:TF)(tbs:List Nat)(fs:List (TF × Nat))(ps:List KV)(key val:ByteArray)(ko:Option Int)(hko:ko=none)(S:List Nat)(R:World→Prop)(w:World)(hI:ChIn w B tb A n C cache calls writes k f tbs fs ps)(hP:ProgS w S)(hj:qE6 f.wr f.dn key ⟨#[]⟩=0)(hcall:Calls prog 28 #[.pointer (some ⟨f.x,0,none⟩),.string key] w fun e w'=>∃ v,e=.returned v∧qB4 w' v ko∧R w'∧Kp S w w'):
  Calls prog 132 #[.pointer (some ⟨B,0,none⟩),.pointer (some ⟨tb,0,none⟩),.string key,.string val,.bool true] w fun e w'=>e=.returned (.bool true)∧qW6 f tb R S (del key ps) w w':=by
 have hBs:=ζ hI.hB;have hTs:=ζ hI.hT;have hAs:=ζ hI.hA;have HI:=zh hI;have HP:=zh hP;have hB:=hI.hB;have hT:=hI.hT;have hkA:=hI.kA;have HCALL:=zh hcall;have b0:=ξ hB 0;simp only[kob,zG,zH,zI] at b0;have t0:=ξ hT 0;simp only[tob,zG,zH,zI] at t0;rw[hkA] at b0;clear hI hP hB hT hkA hcall;go_enter func132,ntmps132;go_wp2_with fail;refine (qG5 A n C cache calls writes w HI.out.hA).mono ?_;rintro e w0 ⟨rfl,rfl⟩;go_wp2_with fail;refine (show Calls _ _ _ _ _ from HCALL.out).mono ?_;rintro e w1 ⟨v,rfl,hv,hR,hK1⟩;have hB1:=HP.out.stay hK1 HI.out.hB (by decide);have hT1:=HP.out.stay hK1 HI.out.hT (by decide);have hsp1:=HI.out.sp.keep hK1 (HP.out.apt (by decide));have hg1:=HP.out.g0 hK1 HI.out.g0 (by omega);have HR:Hid (R w1∧Kp S w0 w1):=⟨hR,hK1⟩;clear b0 t0 hR;go_wp2_with fail;refine (qH9 v ko w1 hg1 hv).mono ?_;rintro e w2 ⟨rfl,hK2⟩;have hB2:=hK2.hp hB1;have hT2:=hK2.hp hT1;have hsp2:=hsp1.keep0 hK2;have hT2s:=ζ hT2;have hB2s:=ζ hB2;have t1:=ξ hT2 1;have t2:=ξ hT2 2;have t3:=ξ hT2 3;have t4:=ξ hT2 4;have t5:=ξ hT2 5;have t6:=ξ hT2 6;have t7:=ξ hT2 7;simp only[tob,zG,zH,zI] at t1 t2 t3 t4 t5 t6 t7;obtain⟨vb,vl,vc,hvv⟩:=hsp2.slc;rw[hvv] at t1;have HVV:=zh hvv;clear hvv
 go_wp2_with (go_at_call 127;refine (qF3 _ _).mono ?_;rintro e w2 ⟨rfl,rfl⟩)
 refine (qR4 (.slice vb vl vc) f.cs f.wr f.dn f.chg f.most f.com f.stp key ⟨#[]⟩ _ ⟨_,_,_,rfl⟩).mono ?_;rintro e w3 ⟨rfl,hK3⟩;have hB3:=hK3.hp hB2;have hT3:=hK3.hp hT2;have hsp3:=hsp2.keep0 hK3;have hB3s:=ζ hB3;have hT3s:=ζ hT3;have b10:=ξ hB3 10;simp only[kob,zG,zH,zI] at b10;rw[HI.out.po] at b10;have HK3:Hid (Kp [] w1 w3):=hK2.tr hK3;clear t1 t2 t3 t4 t5 t6 t7 hB1 hT1 hsp1 hg1 hK1 hK2 hK3 hB2 hT2 hsp2 hv;rw[hj];clear hj hko;have t1:=ξ hT3 1;simp only[tob,zG,zH,zI] at t1;rw[HVV.out] at t1;have hsp3':SPR w3 (.slice vb vl vc) ps:=by rw[←HVV.out];exact hsp3
 have HT3:=zh hT3;have HSZ:=zh HI.out.sz;have HSPV:=zh hsp3';have HB3:=zh hB3;clear hT3 hB3 hsp3;go_wp2_with fail;refine (zC1 (.slice vb vl vc) ps ⟨key,⟨#[]⟩⟩ _ hsp3' (by have:=HSZ.out;omega)).mono ?_;rintro e w4 ⟨v4,rfl,hsp4,hK4⟩;have hT4:=hK4.hp HT3.out;have hT4s:=ζ hT4;obtain⟨b4,c4,hv4⟩:=hsp4.form;obtain⟨m4,hm4⟩:∃ m4:Nat,(ins ⟨key,⟨#[]⟩⟩ ps).length=m4:=⟨_,rfl⟩;rw[hm4] at hv4;subst hv4;have HSP4:Hid (SPR w4 (.slice b4 m4 c4) (ins ⟨key,⟨#[]⟩⟩ ps)∧(ins ⟨key,⟨#[]⟩⟩ ps).length=m4∧Kp [] w3 w4):=⟨hsp4,hm4,hK4⟩;clear hsp4 hm4 hK4 t1 hsp3';have t1:=ξ hT4 1;simp only[tob,zG,zH,zI] at t1;rw[HVV.out] at t1;go_wp2_with fail;have hsp3'':SPR w3 (.slice vb vl vc) ps:=HSPV.out;obtain⟨w4a,hw4a,hT4a,hN4a,hK4a⟩:∃ w4a,w4a=w4.alloc (.cells #[.slice b4 m4 c4] 126)∧w4a.heap[tb]?=some (tob f)∧w4a.heap[w4.heap.size]?=some (.cells #[.slice b4 m4 c4] 126)∧Kp [] w3 w4a:=
  ⟨_,rfl,θ _ hT4,κ _ _,HSP4.out.2.2.alloc _⟩
 rw[←hw4a];have hsp4a:=HSPV.out.keep0 hK4a;have h34:=HSP4.out.2.2.size;clear hw4a t1 hT4;refine (xR1 (.slice vb vl vc) ps key _ hsp4a (by have:=HSZ.out;omega)).mono ?_;rintro e w6 ⟨v6,rfl,hsp6,hK6⟩;have hT4:=hK6.hp hT4a;have hN6:=hK6.hp hN4a;have hT6s:=ζ hT4;have hN6s:=ζ hN6;obtain⟨b6,c6,hv6⟩:=hsp6.form;obtain⟨m6,hl5⟩:∃ m6:Nat,(del key ps).length=m6:=⟨_,rfl⟩;rw[hl5] at hv6;subst hv6;have HNE:Hid (w4.heap.size≠tb):=by show w4.heap.size≠tb;omega
 have H34:=zh h34;have HE6:Hid (SPR w6 (.slice b6 m6 c6) (del key ps)∧(del key ps).length=m6∧Kp [] w3 w6):=⟨hsp6,hl5,hK4a.tr hK6⟩;have HN6:=zh hN6;have HT6:=zh hT4;have t1:=ξ hT4 1;simp only[tob,zG,zH,zI] at t1;have f1:=υ hT4 1;have n0:=ξ hN6 0;simp only[tob,zG,zH,zI] at n0;have g0:=υ hN6 0;clear hsp6 hl5 hK6 hT4a hN4a hK4a hsp4a hT4 hN6 HSP4 hsp3'' h34;go_wp2_with fail;obtain⟨w5,hw5,hT5,hN5,hKx⟩:∃ w5,w5=(w6.setCell ⟨w4.heap.size,0,none⟩ (.slice b6 m6 c6)).setCell ⟨tb,1,none⟩ (.slice b6 m6 c6)∧w5.heap[tb]?=some (tob { f with v:=.slice b6 m6 c6 })∧w5.heap[w4.heap.size]?=some (.cells #[.slice b6 m6 c6] 126)∧Kp [tb,w4.heap.size] w6 w5:=
  ⟨_,rfl,ν ((qA0 (by have:=HNE.out;omega) _ _).trans HT6.out) 1 _,(qA0 (by have:=HNE.out;omega) _ _).trans (ν HN6.out 0 _),((Kp.refl _ _).sc _).sc _⟩
 rw[←hw5];obtain⟨hspE,hl5,hKE⟩:=HE6.out;have hK5:Kp [tb] w3 w5:=(hKE.mono (by simp)).trans hKx (by intro i hi hlt;have:=H34.out;simp at hi ⊢;omega);have hsp5:=hspE.keep hKx ((Apt.one HT6.out (by decide)).cons (Apt.one HN6.out (by decide)));clear hw5 t1 f1 n0 g0 hKx hspE hKE HE6 HN6 HT6;have HT5:=zh hT5;have HE5:Hid (Kp [tb] w3 w5∧SPR w5 (.slice b6 m6 c6) (del key ps)∧(del key ps).length=m6):=⟨hK5,hsp5,hl5⟩;have hT5s:=ζ hT5;have hN5s:=ζ hN5;have t4:=ξ hT5;simp only[tob,zG,zH,zI] at t4;have f4:=υ hT5;have n0:=ξ hN5 0;simp only[tob,zG,zH,zI] at n0;clear hT5 hK5 hN5 hsp5 hl5;have hw4:wrap64 (f.chg+1)=f.chg+1:=by have h0:=HI.out.c0;have h1:=HI.out.c1;simp only[wrap64];omega
 have hw7:wrap64 (f.stp+1)=f.stp+1:=by have h0:=HI.out.s0;have h1:=HI.out.s1;simp only[wrap64];omega
 by_cases hq:f.most<(m6:Int)
 ·have HST:Hid (f.step (.slice b6 m6 c6) (del key ps).length={ f with v:=.slice b6 m6 c6,most:=((m6:Nat):Int),chg:=f.chg+1,stp:=f.stp+1 }):=by show _=_;rw[HE5.out.2.2,TF.step,if_pos hq]
  go_quiet (fail)
  go_wp2
  try rw[hw4,hw7]
  go_ret;have hKF:Kp [tb] w5 ((((w5.drewN nq).setCell ⟨tb,5,none⟩ (.int .i64 m6)).setCell ⟨tb,4,none⟩ (.int .i64 (f.chg+1))).setCell ⟨tb,7,none⟩ (.int .i64 (f.stp+1))):=((((Kp.refl _ w5).drewN nq).sc _).sc _).sc _;refine⟨rfl,w1,.slice b6 m6 c6,HR.out.1,HR.out.2,((HK3.out.mono (by simp)).tr HE5.out.1).tr hKF,?_,HE5.out.2.1.keep hKF (Apt.one HT5.out (by decide))⟩;rw[HST.out];exact ν (ν (ν (show (w5.drewN nq).heap[tb]?=_ from HT5.out) 5 _) 4 _) 7 _
 ·have HST:Hid (f.step (.slice b6 m6 c6) (del key ps).length={ f with v:=.slice b6 m6 c6,chg:=f.chg+1,stp:=f.stp+1 }):=by show _=_;rw[HE5.out.2.2,TF.step,if_neg hq]
  go_quiet (fail)
  go_wp2
  try rw[hw4,hw7]
  go_ret;have hKF:Kp [tb] w5 (((w5.drewN nq).setCell ⟨tb,4,none⟩ (.int .i64 (f.chg+1))).setCell ⟨tb,7,none⟩ (.int .i64 (f.stp+1))):=(((Kp.refl _ w5).drewN nq).sc _).sc _;refine⟨rfl,w1,.slice b6 m6 c6,HR.out.1,HR.out.2,((HK3.out.mono (by simp)).tr HE5.out.1).tr hKF,?_,HE5.out.2.1.keep hKF (Apt.one HT5.out (by decide))⟩;rw[HST.out];exact ν (ν (show (w5.drewN nq).heap[tb]?=_ from HT5.out) 4 _) 7 _
theorem zY7(B tb A n C:Nat)(cache:Value)(calls writes:Int)(k:KF)(f:TF)(tbs:List Nat)(fs:List (TF × Nat))(ps:List KV)(key val:ByteArray)(ko:Option Int)(hko:ko=some 3)(S:List Nat)(R:World→Prop)(w:World)(hI:ChIn w B tb A n C cache calls writes k f tbs fs ps)(hP:ProgS w S)(hj:qE6 f.wr f.dn key val=0)(hcall:Calls prog 34 #[.pointer (some ⟨f.x,0,none⟩),.string key,.string val] w fun e w'=>∃ v,e=.returned v∧qB4 w' v ko∧R w'∧Kp S w w')
  (hTF:TFs w k tbs fs) (hn:tbs.length≤100000) (hl:∀ x∈fs,x.2≤100000) (cb:Option Addr) (cl cc:Nat) (hc:k.c=.slice cb cl cc) (hcl:cl≤100000) (hkn:k.n≤100000) (hlen:(ins ⟨key,val⟩ ps).length≤100000) (hroom:qQ0 k cl f.most ((ins ⟨key,val⟩ ps).length:Nat) (qD4 k.com fs)=false):
  Calls prog 132 #[.pointer (some ⟨B,0,none⟩),.pointer (some ⟨tb,0,none⟩),.string key,.string val,.bool false] w fun e w'=>e=.returned (.bool true)∧∃ w1,R w1∧Kp S w w1∧Kp [] w1 w':=by
 have HTF:Hid (TFs w k tbs fs∧tbs.length≤100000∧(∀ x∈fs,x.2≤100000)∧k.c=.slice cb cl cc∧cl≤100000∧k.n≤100000):=⟨hTF,hn,hl,hc,hcl,hkn⟩;have HRO:Hid ((ins ⟨key,val⟩ ps).length≤100000∧qQ0 k cl f.most ((ins ⟨key,val⟩ ps).length:Nat) (qD4 k.com fs)=false):=⟨hlen,hroom⟩;clear hTF hn hl hc hcl hkn hlen hroom;have hBs:=ζ hI.hB;have hTs:=ζ hI.hT;have hAs:=ζ hI.hA;have HI:=zh hI;have HP:=zh hP;have hB:=hI.hB;have hT:=hI.hT;have hkA:=hI.kA;have HCALL:=zh hcall;have b0:=ξ hB 0;simp only[kob,zG,zH,zI] at b0;have t0:=ξ hT 0;simp only[tob,zG,zH,zI] at t0;rw[hkA] at b0;clear hI hP hB hT hkA hcall;go_enter func132,ntmps132;go_wp2_with fail;refine (qG5 A n C cache calls writes w HI.out.hA).mono ?_;rintro e w0 ⟨rfl,rfl⟩;go_wp2_with fail;refine (show Calls _ _ _ _ _ from HCALL.out).mono ?_;rintro e w1 ⟨v,rfl,hv,hR,hK1⟩;have hB1:=HP.out.stay hK1 HI.out.hB (by decide);have hT1:=HP.out.stay hK1 HI.out.hT (by decide);have hsp1:=HI.out.sp.keep hK1 (HP.out.apt (by decide));have hg1:=HP.out.g0 hK1 HI.out.g0 (by omega);have HR:Hid (R w1∧Kp S w0 w1):=⟨hR,hK1⟩;clear b0 t0 hR;go_wp2_with fail;refine (qH9 v ko w1 hg1 hv).mono ?_;rintro e w2 ⟨rfl,hK2⟩;have hB2:=hK2.hp hB1;have hT2:=hK2.hp hT1;have hsp2:=hsp1.keep0 hK2;have hT2s:=ζ hT2;have hB2s:=ζ hB2;have t1:=ξ hT2 1;have t2:=ξ hT2 2;have t3:=ξ hT2 3;have t4:=ξ hT2 4;have t5:=ξ hT2 5;have t6:=ξ hT2 6;have t7:=ξ hT2 7;simp only[tob,zG,zH,zI] at t1 t2 t3 t4 t5 t6 t7;obtain⟨vb,vl,vc,hvv⟩:=hsp2.slc;rw[hvv] at t1;have HVV:=zh hvv;clear hvv
 go_wp2_with (go_at_call 127;refine (qF3 _ _).mono ?_;rintro e w2 ⟨rfl,rfl⟩)
 refine (qR4 (.slice vb vl vc) f.cs f.wr f.dn f.chg f.most f.com f.stp key val _ ⟨_,_,_,rfl⟩).mono ?_;rintro e w3 ⟨rfl,hK3⟩;have hB3:=hK3.hp hB2;have hT3:=hK3.hp hT2;have hsp3:=hsp2.keep0 hK3;have hB3s:=ζ hB3;have hT3s:=ζ hT3;have b10:=ξ hB3 10;simp only[kob,zG,zH,zI] at b10;rw[HI.out.po] at b10;have HK3:Hid (Kp [] w1 w3):=hK2.tr hK3;clear t1 t2 t3 t4 t5 t6 t7 hB1 hT1 hsp1 hg1 hK1 hK2 hK3 hB2 hT2 hsp2 hv;rw[hj];clear hj hko;have t1:=ξ hT3 1;simp only[tob,zG,zH,zI] at t1;rw[HVV.out] at t1;have hsp3':SPR w3 (.slice vb vl vc) ps:=by rw[←HVV.out];exact hsp3
 have HT3:=zh hT3;have HSZ:=zh HI.out.sz;have HSPV:=zh hsp3';have HB3:=zh hB3;clear hT3 hB3 hsp3;go_wp2_with fail;refine (zC1 (.slice vb vl vc) ps ⟨key,val⟩ _ hsp3' (by have:=HSZ.out;omega)).mono ?_;rintro e w4 ⟨v4,rfl,hsp4,hK4⟩;have hT4:=hK4.hp HT3.out;have hT4s:=ζ hT4;obtain⟨b4,c4,hv4⟩:=hsp4.form;obtain⟨m4,hm4⟩:∃ m4:Nat,(ins ⟨key,val⟩ ps).length=m4:=⟨_,rfl⟩;rw[hm4] at hv4;subst hv4;have HSP4:Hid (SPR w4 (.slice b4 m4 c4) (ins ⟨key,val⟩ ps)∧(ins ⟨key,val⟩ ps).length=m4∧Kp [] w3 w4):=⟨hsp4,hm4,hK4⟩;clear hsp4 hm4 hK4 t1 hsp3';go_wp2_with fail;obtain⟨w5,hw5,hKx⟩:∃ w5,w5=w4.alloc (.cells #[.slice b4 m4 c4] 126)∧Kp [] w3 w5:=⟨_,rfl,HSP4.out.2.2.alloc _⟩;rw[←hw5];have hTF5:=((HP.out.tfs HR.out.2 HTF.out.1).keep0 HK3.out).keep0 hKx;have hB5:=hKx.hp HB3.out;have hT5:=hKx.hp HT3.out;have hm4:=HSP4.out.2.1;have hro:=HRO.out;rw[hm4] at hro;clear hw5 hT4;refine (xK8 B tb k f tbs fs (m4:Int) w5 hB5 hT5 hTF5 HTF.out.2.1 HTF.out.2.2.1 cb cl cc HTF.out.2.2.2.1 HTF.out.2.2.2.2.1 HI.out.m0 HI.out.m1 (by omega) (by omega) HTF.out.2.2.2.2.2).mono ?_;rintro e w6 ⟨rfl,hK6⟩;have HE:Hid (Kp [] w1 w6):=(HK3.out.tr hKx).tr hK6;rw[hro.2];clear hro hm4 hTF5 hB5 hT5 hKx hK6;go_wp2;go_ret;exact⟨rfl,w1,HR.out.1,HR.out.2,HE.out⟩
structure LkIn(w:World)(B tb A n C:Nat)(cache:Value)(calls writes:Int)(k:KF)(f:TF)(ps:List KV):Prop where
 hB:w.heap[B]?=some (kob k)
 po:k.po=false
 kA:k.A=A
 hA:w.heap[A]?=some (ι n C cache calls writes)
 hT:w.heap[tb]?=some (tob f)
 sp:SPR w f.v ps
 sz:ps.length≤50000
 g0:w.cell? ⟨0,0,none⟩=some qC1
def qN1(R:World→Prop)(S:List Nat)(w w':World):Prop:=∃ w1,R w1∧Kp S w w1∧Kp [] w1 w'
theorem xG6(B tb A n C:Nat)(cache:Value)(calls writes:Int)(k:KF)(f:TF)(ps:List KV)(key gv:ByteArray)(gb:Bool)(ko:Option Int)(hko:ko=none)(S:List Nat)(R:World→Prop)(w:World)(hI:LkIn w B tb A n C cache calls writes k f ps)(hP:ProgS w S)(hkb:qE7 key=true)(hdn:f.dn=false)(hgr:qQ9 ps key=.tuple #[.string gv,.bool gb])(hcall:Calls prog 197 #[.pointer (some ⟨f.x,0,none⟩),.string key] w fun e w'=>∃ v,e=.returned (.tuple #[.string gv,.bool gb,v])∧qB4 w' v ko∧R w'∧Kp S w w'):
  Calls prog 133 #[.pointer (some ⟨B,0,none⟩),.pointer (some ⟨tb,0,none⟩),.string key] w fun e w'=>e=.returned (.bool true)∧qN1 R S w w':=by
 have hBs:=ζ hI.hB;have hTs:=ζ hI.hT;have hAs:=ζ hI.hA;have HI:=zh hI;have HP:=zh hP;have hB:=hI.hB;have hT:=hI.hT;have hkA:=hI.kA;have HCALL:=zh hcall;have HKEY:Hid (∀ w,Calls prog 198 #[.string key] w fun e w'=>e=.returned (.bool true)∧w'=w):=by have h:=zB8 key;rw[hkb] at h;exact h
 have HGR:=zh hgr;have b0:=ξ hB 0;simp only[kob,zG,zH,zI] at b0;have t0:=ξ hT 0;simp only[tob,zG,zH,zI] at t0;rw[hkA] at b0;clear hI hP hB hT hkA hcall hkb hgr;go_enter func133,ntmps133;go_wp2_with fail;refine (qG5 A n C cache calls writes w HI.out.hA).mono ?_;rintro e w0 ⟨rfl,rfl⟩;go_wp2_with fail;refine (show Calls _ _ _ _ _ from HCALL.out).mono ?_;rintro e w1 ⟨v,rfl,hv,hR,hK1⟩;have hB1:=HP.out.stay hK1 HI.out.hB (by decide);have hT1:=HP.out.stay hK1 HI.out.hT (by decide);have hsp1:=HI.out.sp.keep hK1 (HP.out.apt (by decide));have hg1:=HP.out.g0 hK1 HI.out.g0 (by omega);have HR:Hid (R w1∧Kp S w0 w1):=⟨hR,hK1⟩;clear b0 t0 hR;go_wp2_with fail;refine (qH9 v ko w1 hg1 hv).mono ?_;rintro e w2 ⟨rfl,hK2⟩;have hB2:=hK2.hp hB1;have hT2:=hK2.hp hT1;have hsp2:=hsp1.keep0 hK2;have hT2s:=ζ hT2;have hB2s:=ζ hB2;have t1:=ξ hT2 1;simp only[tob,zG,zH,zI] at t1;obtain⟨vb,vl,vc,hvv⟩:=hsp2.slc;rw[hvv] at t1;have hsp2':SPR w2 (.slice vb vl vc) ps:=by rw[←hvv];exact hsp2
 clear hvv hsp2
 go_wp2_with (first | (go_at_call 127;refine (qF3 _ _).mono ?_;rintro e w2 ⟨rfl,rfl⟩) | (go_at_call 198;refine (HKEY.out _).mono ?_;rintro e w2 ⟨rfl,rfl⟩))
 refine (zN0 (.slice vb vl vc) ps key _ hsp2' (by have:=HI.out.sz;omega)).mono ?_;rintro e w3 ⟨rfl,hK3⟩;rw[HGR.out];have hB3:=hK3.hp hB2;have hT3:=hK3.hp hT2;have hB3s:=ζ hB3;have hT3s:=ζ hT3;have b10:=ξ hB3 10;simp only[kob,zG,zH,zI] at b10;have t3:=ξ hT3 3;simp only[tob,zG,zH,zI] at t3;rw[HI.out.po] at b10;have HK3:Hid (Kp [] w1 w3):=hK2.tr hK3;clear t1 hB1 hT1 hsp1 hg1 hK1 hK2 hK3 hB2 hT2 hsp2' hv hB3 hT3;rw[hdn] at t3;by_cases hz:gv=⟨#[]⟩
 ·subst hz;go_wp2;go_ret;exact⟨by simp,w1,HR.out.1,HR.out.2,HK3.out⟩
 ·go_wp2<;>(go_ret;exact⟨by simp,w1,HR.out.1,HR.out.2,HK3.out⟩)
theorem zI4(B tb A n C:Nat)(cache:Value)(calls writes:Int)(k:KF)(f:TF)(ps:List KV)(key gv:ByteArray)(kb gb:Bool)(j:Int)(ko:Option Int)(hko:ko=some j)(S:List Nat)(R:World→Prop)(w:World)(hI:LkIn w B tb A n C cache calls writes k f ps)(hP:ProgS w S)(hkb:qE7 key=kb)(hj:(f.dn=true∧j=5)∨(f.dn=false∧kb=false∧j=1))(hgr:qQ9 ps key=.tuple #[.string gv,.bool gb])(hcall:Calls prog 197 #[.pointer (some ⟨f.x,0,none⟩),.string key] w fun e w'=>∃ v,e=.returned (.tuple #[.string ⟨#[]⟩,.bool false,v])∧qB4 w' v ko∧R w'∧Kp S w w'):
  Calls prog 133 #[.pointer (some ⟨B,0,none⟩),.pointer (some ⟨tb,0,none⟩),.string key] w fun e w'=>e=.returned (.bool true)∧qN1 R S w w':=by
 have hBs:=ζ hI.hB;have hTs:=ζ hI.hT;have hAs:=ζ hI.hA;have HI:=zh hI;have HP:=zh hP;have hB:=hI.hB;have hT:=hI.hT;have hkA:=hI.kA;have HCALL:=zh hcall;have HKEY:Hid (∀ w,Calls prog 198 #[.string key] w fun e w'=>e=.returned (.bool kb)∧w'=w):=by have h:=zB8 key;rw[hkb] at h;exact h
 have HGR:=zh hgr;have b0:=ξ hB 0;simp only[kob,zG,zH,zI] at b0;have t0:=ξ hT 0;simp only[tob,zG,zH,zI] at t0;rw[hkA] at b0;clear hI hP hB hT hkA hcall hkb hgr;go_enter func133,ntmps133;go_wp2_with fail;refine (qG5 A n C cache calls writes w HI.out.hA).mono ?_;rintro e w0 ⟨rfl,rfl⟩;go_wp2_with fail;refine (show Calls _ _ _ _ _ from HCALL.out).mono ?_;rintro e w1 ⟨v,rfl,hv,hR,hK1⟩;have hB1:=HP.out.stay hK1 HI.out.hB (by decide);have hT1:=HP.out.stay hK1 HI.out.hT (by decide);have hsp1:=HI.out.sp.keep hK1 (HP.out.apt (by decide));have hg1:=HP.out.g0 hK1 HI.out.g0 (by omega);have HR:Hid (R w1∧Kp S w0 w1):=⟨hR,hK1⟩;clear b0 t0 hR;go_wp2_with fail;refine (qH9 v ko w1 hg1 hv).mono ?_;rintro e w2 ⟨rfl,hK2⟩;have hB2:=hK2.hp hB1;have hT2:=hK2.hp hT1;have hsp2:=hsp1.keep0 hK2;have hT2s:=ζ hT2;have hB2s:=ζ hB2;have t1:=ξ hT2 1;simp only[tob,zG,zH,zI] at t1;obtain⟨vb,vl,vc,hvv⟩:=hsp2.slc;rw[hvv] at t1;have hsp2':SPR w2 (.slice vb vl vc) ps:=by rw[←hvv];exact hsp2
 clear hvv hsp2
 go_wp2_with (first | (go_at_call 127;refine (qF3 _ _).mono ?_;rintro e w2 ⟨rfl,rfl⟩) | (go_at_call 198;refine (HKEY.out _).mono ?_;rintro e w2 ⟨rfl,rfl⟩))
 refine (zN0 (.slice vb vl vc) ps key _ hsp2' (by have:=HI.out.sz;omega)).mono ?_;rintro e w3 ⟨rfl,hK3⟩;rw[HGR.out];have hB3:=hK3.hp hB2;have hT3:=hK3.hp hT2;have hB3s:=ζ hB3;have hT3s:=ζ hT3;have b10:=ξ hB3 10;simp only[kob,zG,zH,zI] at b10;have t3:=ξ hT3 3;simp only[tob,zG,zH,zI] at t3;rw[HI.out.po] at b10;have HK3:Hid (Kp [] w1 w3):=hK2.tr hK3;clear t1 hB1 hT1 hsp1 hg1 hK1 hK2 hK3 hB2 hT2 hsp2' hv hB3 hT3;rcases hj with⟨h1,h2⟩|⟨h1,h2,h3⟩
 ·rw[h1] at t3;clear h1;subst h2;go_wp2;go_ret;exact⟨by simp,w1,HR.out.1,HR.out.2,HK3.out⟩
 ·rw[h1] at t3;clear h1;subst h2 h3;go_wp2;go_ret;exact⟨by simp,w1,HR.out.1,HR.out.2,HK3.out⟩
theorem qT1(A n C:Nat)(cache:Value)(calls writes:Int)(w:World)(h:w.heap[A]?=some (ι n C cache calls writes)):
  Calls prog 35 #[.pointer (some ⟨A,0,none⟩)] w fun e w'=>e=.returned (.int .i64 writes)∧w'=w:=by
 have c0:=ξ h;simp only[ι,zG,zH,zI] at c0;clear h;go_enter func35,ntmps35;go_wp2;go_ret;exact⟨rfl,rfl⟩
def zD6(f:TF)(tb:Nat)(R:World→Prop)(S:List Nat)(w w':World):Prop:=∃ w1,R w1∧Kp S w w1∧Kp [tb] w1 w'∧w'.heap[tb]?=some (tob { f with dn:=true })
theorem xA9(B tb A n C:Nat)(cache:Value)(calls writes:Int)(k:KF)(f:TF)(ps:List KV)(ko:Option Int)(hko:ko=none)(S:List Nat)(R:World→Prop)(w:World)(hI:LkIn w B tb A n C cache calls writes k f ps)(hP:ProgS w S)(hAS:A ∉ S)(hdn:f.dn=false)(hcall:Calls prog 36 #[.pointer (some ⟨f.x,0,none⟩)] w fun e w'=>∃ v,e=.returned v∧qB4 w' v ko∧R w'∧Kp S w w'):
  Calls prog 135 #[.pointer (some ⟨B,0,none⟩),.pointer (some ⟨tb,0,none⟩),.bool false] w fun e w'=>e=.returned (.bool true)∧zD6 f tb R S w w':=by
 have hBs:=ζ hI.hB;have hTs:=ζ hI.hT;have hAs:=ζ hI.hA;have HI:=zh hI;have HP:=zh hP;have HAS:=zh hAS;have hB:=hI.hB;have hT:=hI.hT;have hkA:=hI.kA;have HCALL:=zh hcall;have b0:=ξ hB 0;simp only[kob,zG,zH,zI] at b0;have t0:=ξ hT 0;simp only[tob,zG,zH,zI] at t0;rw[hkA] at b0;clear hI hP hB hT hkA hcall hAS;go_enter func135,ntmps135;go_wp2_with fail;refine (qG5 A n C cache calls writes w HI.out.hA).mono ?_;rintro e w0 ⟨rfl,rfl⟩;go_wp2_with fail;refine (qT1 A n C cache calls writes w0 HI.out.hA).mono ?_;rintro e w0 ⟨rfl,rfl⟩;go_wp2_with fail;refine (show Calls _ _ _ _ _ from HCALL.out).mono ?_;rintro e w1 ⟨v,rfl,hv,hR,hK1⟩;have hB1:=HP.out.stay hK1 HI.out.hB (by decide);have hT1:=HP.out.stay hK1 HI.out.hT (by decide);have hA1:=hK1.heap HI.out.hA HAS.out;have hg1:=HP.out.g0 hK1 HI.out.g0 (by omega);have HR:Hid (R w1∧Kp S w0 w1):=⟨hR,hK1⟩;clear b0 t0 hR;go_wp2_with fail;refine (qH9 v ko w1 hg1 hv).mono ?_;rintro e w2 ⟨rfl,hK2⟩;have hB2:=hK2.hp hB1;have hT2:=hK2.hp hT1;have hA2:=hK2.hp hA1;have hT2s:=ζ hT2;have hB2s:=ζ hB2;have b0:=ξ hB2 0;have b10:=ξ hB2 10;simp only[kob,zG,zH,zI] at b0 b10;have t3:=ξ hT2 3;simp only[tob,zG,zH,zI] at t3;have f3:=υ hT2 3;rw[HI.out.po] at b10;rw[HI.out.kA] at b0;have HT2:=zh hT2;have HK2:=zh hK2;clear hB1 hT1 hg1 hK1 hK2 hB2 hv hA1 hT2
 go_wp2_with (go_at_call 127;refine (qF3 _ _).mono ?_;rintro e w2 ⟨rfl,rfl⟩)
 refine (qT1 A n C cache calls writes w2 hA2).mono ?_;rintro e w2 ⟨rfl,rfl⟩;clear hA2;have hws:wrap64 (writes-writes)=0:=by rw[Int.sub_self];simp only[wrap64];omega
 rw[hdn] at t3;go_wp2;go_ret;exact⟨by simp,w1,HR.out.1,HR.out.2,(HK2.out.mono (by simp)).sc _,ν HT2.out 3 _⟩
theorem xA8(B tb A n C:Nat)(cache:Value)(calls writes:Int)(k:KF)(f:TF)(ps:List KV)(ko:Option Int)(hko:ko=some 5)(S:List Nat)(R:World→Prop)(w:World)(hI:LkIn w B tb A n C cache calls writes k f ps)(hP:ProgS w S)(hAS:A ∉ S)(hdn:f.dn=true)(hcall:Calls prog 36 #[.pointer (some ⟨f.x,0,none⟩)] w fun e w'=>∃ v,e=.returned v∧qB4 w' v ko∧R w'∧Kp S w w'):
  Calls prog 135 #[.pointer (some ⟨B,0,none⟩),.pointer (some ⟨tb,0,none⟩),.bool false] w fun e w'=>e=.returned (.bool true)∧qN1 R S w w':=by
 have hBs:=ζ hI.hB;have hTs:=ζ hI.hT;have hAs:=ζ hI.hA;have HI:=zh hI;have HP:=zh hP;have HAS:=zh hAS;have hB:=hI.hB;have hT:=hI.hT;have hkA:=hI.kA;have HCALL:=zh hcall;have b0:=ξ hB 0;simp only[kob,zG,zH,zI] at b0;have t0:=ξ hT 0;simp only[tob,zG,zH,zI] at t0;rw[hkA] at b0;clear hI hP hB hT hkA hcall hAS;go_enter func135,ntmps135;go_wp2_with fail;refine (qG5 A n C cache calls writes w HI.out.hA).mono ?_;rintro e w0 ⟨rfl,rfl⟩;go_wp2_with fail;refine (qT1 A n C cache calls writes w0 HI.out.hA).mono ?_;rintro e w0 ⟨rfl,rfl⟩;go_wp2_with fail;refine (show Calls _ _ _ _ _ from HCALL.out).mono ?_;rintro e w1 ⟨v,rfl,hv,hR,hK1⟩;have hB1:=HP.out.stay hK1 HI.out.hB (by decide);have hT1:=HP.out.stay hK1 HI.out.hT (by decide);have hA1:=hK1.heap HI.out.hA HAS.out;have hg1:=HP.out.g0 hK1 HI.out.g0 (by omega);have HR:Hid (R w1∧Kp S w0 w1):=⟨hR,hK1⟩;clear b0 t0 hR;go_wp2_with fail;refine (qH9 v ko w1 hg1 hv).mono ?_;rintro e w2 ⟨rfl,hK2⟩;have hB2:=hK2.hp hB1;have hT2:=hK2.hp hT1;have hA2:=hK2.hp hA1;have hT2s:=ζ hT2;have hB2s:=ζ hB2;have b0:=ξ hB2 0;have b10:=ξ hB2 10;simp only[kob,zG,zH,zI] at b0 b10;have t3:=ξ hT2 3;simp only[tob,zG,zH,zI] at t3;have f3:=υ hT2 3;rw[HI.out.po] at b10;rw[HI.out.kA] at b0;have HT2:=zh hT2;have HK2:=zh hK2;clear hB1 hT1 hg1 hK1 hK2 hB2 hv hA1 hT2
 go_wp2_with (go_at_call 127;refine (qF3 _ _).mono ?_;rintro e w2 ⟨rfl,rfl⟩)
 refine (qT1 A n C cache calls writes w2 hA2).mono ?_;rintro e w2 ⟨rfl,rfl⟩;clear hA2;have hws:wrap64 (writes-writes)=0:=by rw[Int.sub_self];simp only[wrap64];omega
 rw[hdn] at t3;go_wp2;go_ret;exact⟨by simp,w1,HR.out.1,HR.out.2,HK2.out⟩
def qC3(wr:Bool):List (TF × Nat)→Nat
 | []=>0
 | (f,_)::fs=>(if f.dn=false∧f.wr=wr then 1 else 0)+qC3 wr fs
theorem qX4(wr:Bool):∀ a b:List (TF × Nat),qC3 wr (a++b)=qC3 wr a+qC3 wr b
 | [],b=>by simp[qC3]
 | (f,l)::a,b=>by simp only[List.cons_append,qC3,qX4 wr a b];omega
theorem qX5(wr:Bool):∀ a:List (TF × Nat),qC3 wr a≤a.length
 | []=>by simp[qC3]
 | (f,l)::a=>by
  have:=qX5 wr a;simp only[qC3,List.length_cons];split<;>omega
theorem zJ1:(prog.info? 132).map (fun i=>(i.zero,i.size,i.bytes))=some (some (.pointer none),1,8):=by kernel_rfl
theorem zN7{P:Program}(w:World)(base:Nat)(t ty e:TypeId)(i:TypeInfo)(z:Value)(size bytes:Nat)(ht:P.underlying t=some (.slice e))(hi:P.info? e=some i)(hz:i.zero=some z)
  (qA1:i.size=size) (hby:i.bytes=bytes) (hzs:z.cells.size=size) (hsz:0<size)
  (v:Value) (n:Nat) (xs:List Value) (hown:w.ownsRow base e size v n xs)
  (a:Addr) (m c:Nat) (news:List Value) (hl:news.length=m*size) (hnews:∀ j u,news[j]?=some u→w.cell? (a.add j)=some u) (h1:∀ u∈news,u.oneCell'=true)
  (h63:n+m≤maxLen) (hbytes:(n+m)*bytes≤140737488355328) (hbase:base≤w.heap.size):
  ∃ v' w',(Builtin.append_ #[t,t] ty #[v,.slice (some a) m c]).run P w=.ok v' w'∧w'.ownsRow base e size v' (n+m) (xs++news)∧w.grownBy w' v.ownBlock∧∀ k,v'.ownBlock=some k→v.ownBlock=some k∨w.heap.size≤k:=by
 obtain⟨v',w',hr,r1,r2,_⟩:=run_append_own (P:=P) w base t ty e i z size bytes ht hi hz qA1 hby hzs hsz v n xs hown a m c news hl hnews h1 h63 hbytes hbase;refine⟨v',w',hr,r1,r2,fun k hk=>?_⟩;rcases hown.2 with⟨h0,hn0⟩|⟨g,cap,cur,hv,h2,h3,h4,h5,h6,h7⟩
 ·subst h0 hn0;have hx:xs=[]:=List.length_eq_zero_iff.1 (by have:=hown.1;simpa using this);subst hx;obtain⟨v2,w2,hr2,q1,_⟩:=run_append_own (P:=P) w w.heap.size t ty e i z size bytes ht hi hz qA1 hby hzs hsz (.slice none 0 0) 0 [] (World.ownsRow_nil _ _ _ _) a m c news hl hnews h1 h63 hbytes (Nat.le_refl _);rw[hr] at hr2;cases hr2;exact .inr (World.ownsRow.lt q1 k hk).1
 ·subst hv;by_cases hroom:n+m≤cap
  ·obtain⟨w2,hr2,_⟩:=run_append_fits w base t ty e i size ht hi qA1 g n cap xs hown a m c news hl hnews h1 hroom;rw[hr] at hr2;cases hr2;exact .inl hk
  ·have hc:∀ j u,xs[j]?=some u→w.cell? ((⟨g,0,none⟩:Addr).add j)=some u:=World.ownsRow.cells hown rfl;obtain⟨v2,w2,hr2,q1,_⟩:=run_append_arg_grows w t ty e i z size bytes ht hi hz qA1 hby hzs hsz ⟨g,0,none⟩ n cap xs hown.1 hc a m c news hl hnews (by omega) h63 hbytes;rw[hr] at hr2;cases hr2;exact .inr (World.ownsRow.lt q1 k hk).1
theorem zN3(w:World)(base g:Nat)(v:Value)(n:Nat)(xs:List Value)(u:Value)(t e ty:TypeId)(z:Value)(ht:prog.underlying t=some (.slice e))(hi:(prog.info? e).map (fun i=>(i.zero,i.size,i.bytes))=some (some z,1,8))(hz:z.cells.size=1)
  (h:w.ownsRow base e 1 v n xs) (hn:n≤1000000) (hg:w.heap[g]?=some (.cells #[u] e)) (hu:u.oneCell'=true) (hb:base≤w.heap.size):
  ∃ v' w',Sem.run prog (Builtin.append_ #[t,t] ty #[v,.slice (some ⟨g,0,none⟩) 1 1]) w=.ok v' w'∧w'.ownsRow base e 1 v' (n+1) (xs++[u])∧w.grownBy w' v.ownBlock∧∀ k,v'.ownBlock=some k→v.ownBlock=some k∨w.heap.size≤k:=by
 obtain⟨i0,hi,hz0,hz1,hz2⟩:=info_parts hi;exact zN7 (P:=prog) w base t ty e i0 _ 1 8 ht hi hz0 hz1 hz2 hz (by decide) v n _ h ⟨g,0,none⟩ 1 1 [u] (by simp) (fun j v hv=>by
  rw[qE3,ξ hg];simpa using hv) (by simpa using hu) (by unfold maxLen;omega) (by omega) hb
structure BgIn(w:World)(B A n C:Nat)(cache:Value)(calls writes:Int)(k:KF)(Db base:Nat)(tbs:List Nat)(fs:List (TF × Nat))(cb:Option Addr)(cl cc:Nat):Prop where
 hB:w.heap[B]?=some (kob k)
 po:k.po=false
 kA:k.A=A
 hA:w.heap[A]?=some (ι n C cache calls writes)
 kx:k.x=some ⟨Db,0,none⟩
 kc:k.c=.slice cb cl cc
 ts:TFs w k tbs fs
 row:w.ownsRow base 132 1 k.ts tbs.length (qH7 tbs)
 bas:base≤w.heap.size
 len:tbs.length≤100000
 g0:w.cell? ⟨0,0,none⟩=some qC1
theorem zE7(B A n C:Nat)(cache:Value)(calls writes:Int)(k:KF)(Db base:Nat)(tbs:List Nat)(fs:List (TF × Nat))(cb:Option Addr)(cl cc:Nat)(wrt:Bool)(ko:Option Int)(hko:ko=some 4)(S:List Nat)(R:Option Addr→World→Prop)(w:World)(hI:BgIn w B A n C cache calls writes k Db base tbs fs cb cl cc)(hP:ProgS w S)(hx:∀ xo w,R xo w→xo=none)(hbusy:(wrt=true∧0<qC3 wrt fs)∨(wrt=false∧qC3 wrt fs=4))(hcall:Calls prog 29 #[.pointer (some ⟨Db,0,none⟩),.bool wrt] w fun e w'=>∃ xo v,e=.returned (.tuple #[.pointer xo,v])∧qB4 w' v ko∧R xo w'∧Kp S w w'):
  Calls prog 82 #[.pointer (some ⟨B,0,none⟩),.bool wrt] w fun e w'=>e=.returned (.bool true)∧qN1 (R none) S w w':=by
 have HBU:=zh hbusy;have HX:=zh hx;clear hbusy hx;have hBs:=ζ hI.hB;have hAs:=ζ hI.hA;have HI:=zh hI;have HP:=zh hP;have hB:=hI.hB;have hkA:=hI.kA;have hkx:=hI.kx;have HCALL:=zh hcall;have b0:=ξ hB 0;have b7:=ξ hB 7;simp only[kob,zG,zH,zI] at b0 b7;rw[hkA] at b0;rw[hkx] at b7;clear hI hP hB hkA hcall hkx;go_enter func82,ntmps82;go_wp2_with fail;refine (qG5 A n C cache calls writes w HI.out.hA).mono ?_;rintro e w0 ⟨rfl,rfl⟩;go_wp2_with fail;refine (show Calls _ _ _ _ _ from HCALL.out).mono ?_;rintro e w1 ⟨xo,v,rfl,hv,hR,hK1⟩;have hB1:=HP.out.stay hK1 HI.out.hB (by decide);have hTF1:=HP.out.tfs hK1 HI.out.ts;have hg1:=HP.out.g0 hK1 HI.out.g0 (by omega);have HR:Hid (R xo w1∧Kp S w0 w1):=⟨hR,hK1⟩;clear b0 b7 hR;go_wp2_with fail;refine (qH9 v ko w1 hg1 hv).mono ?_;rintro e w2 ⟨rfl,hK2⟩;have hB2:=hK2.hp hB1;have hTF2:=hTF1.keep0 hK2;obtain⟨p,c,hts,hrow⟩:=hTF2.row;have hB2s:=ζ hB2;have b8:=ξ hB2 8;have b9:=ξ hB2 9;have b10:=ξ hB2 10;have b11:=ξ hB2 11;simp only[kob,zG,zH,zI] at b8 b9 b10 b11;have f11:=υ hB2 11;rw[HI.out.po] at b10;rw[hts] at b11;rw[HI.out.kc] at b8;have HTS:=zh hts;have HT:=zh hTF2;have HROW:=zh hrow;have HLEN:=zh hTF2.len;have hlen5:=HI.out.len;have HB2:=zh hB2;have HK2:=zh hK2;clear hB1 hTF1 hg1 hK1 hK2 hB2 hv hTF2 hrow hts
 go_wp2_with (go_at_call 127;refine (qF3 _ _).mono ?_;rintro e w2 ⟨rfl,rfl⟩)
 go_loopw [10,11] (fun s i wr=>∃ (j:Nat),j≤tbs.length∧i=.int .i64 j∧s=.int .i64 (qC3 wrt (fs.take j):Nat)∧∃ d,wr=w2.drewN d) (fun _ i _=>tbs.length-(intOf i).toNat)
 case atStart=>exact⟨0,Nat.zero_le _,rfl,rfl,0,rfl⟩
 case round=>
  obtain⟨j,hj,rfl,rfl,d,rfl⟩:=hrel;have hlen:=HLEN.out;have hsb:=qX5 wrt (fs.take j);have hsl:(fs.take j).length=j:=by simp;omega
  rw[hsl] at hsb;clear hsl;by_cases hlt:j<tbs.length
  ·have hjb:(j:Int)<(tbs.length:Int):=by omega
   have hjf:j<fs.length:=by omega
   obtain⟨g,cur,rfl,hR,hcur⟩:=HROW.out (by omega);obtain⟨hTb,vb,vc,hv⟩:=HT.out.at_ j hlt hjf;have hst:qC3 wrt (fs.take (j+1))=qC3 wrt (fs.take j)+(if fs[j].1.dn=false∧fs[j].1.wr=wrt then 1 else 0):=by
    rw[List.take_succ_eq_append_getElem hjf,qX4];simp[qC3]
   obtain⟨⟨f,l⟩,hf⟩:∃ f,fs[j]=f:=⟨_,rfl⟩;obtain⟨tb,htb⟩:∃ tb,tbs[j]=tb:=⟨_,rfl⟩;have hcj:=hcur j hlt;rw[htb] at hcj hTb;rw[hf] at hTb hst;simp only at hTb hst;have HST:=zh hst;generalize hM:qC3 wrt (fs.take j)=M at *;have hgs:=ζ hR;have hTs:=ζ hTb;have r0:=ξ hR j;rw[hcj] at r0;have t2:=ξ hTb 2;have t3:=ξ hTb 3;simp only[tob,zG,zH,zI] at t2 t3;clear hcur hR hTb hst hf htb hcj hM hv hlen
   cases hdn:f.dn with
   | true=>
    rw[hdn] at t3;go_wp2;refine⟨⟨j+1,by omega,by go_num,?_,_,rfl⟩,by simp[intOf];omega⟩;rw[HST.out,hdn];simp
   | false=>
    rw[hdn] at t3;by_cases hc:f.wr=wrt
    ·rw[hc] at t2;go_wp2;refine⟨⟨j+1,by omega,by go_num,?_,_,rfl⟩,by simp[intOf];omega⟩;rw[HST.out,hdn,if_pos ⟨rfl,hc⟩]
     go_num
    ·have hc1:(f.wr == wrt)=false:=by simpa using hc
     have hc2:decide (f.wr=wrt)=false:=decide_eq_false hc;go_wp2;refine⟨⟨j+1,by omega,by go_num,?_,_,rfl⟩,by simp[intOf];omega⟩;rw[HST.out,if_neg (fun h=>hc h.2)];simp
  have hM:qC3 wrt (fs.take j)=qC3 wrt fs:=by rw[List.take_of_length_le (by omega)]
  have hjb:¬(j:Int)<(tbs.length:Int):=by omega
  rw[hM] at hsb;rw[hM];clear hM hlen;have hxo:=HX.out _ _ HR.out.1;subst hxo;rcases HBU.out with⟨h1,h2⟩|⟨h1,h2⟩
  ·have h3:(0:Int)<(qC3 wrt fs:Nat):=by omega
   clear h2;generalize qC3 wrt fs=M at *;subst h1;go_wp2;go_ret;exact⟨by simp,w1,HR.out.1,HR.out.2,HK2.out.drewN _⟩
  ·rw[h2];clear h2;generalize qC3 wrt fs=M at *;subst h1;go_wp2;go_ret;exact⟨by simp,w1,HR.out.1,HR.out.2,HK2.out.drewN _⟩
theorem qF0{S:List Nat}{w w':World}{base n sz:Nat}{T:TypeId}{v:Value}{xs:List Value}(h:w.ownsRow base T sz v n xs)(hK:Kp S w w')(hS:∀ k c t fr,w.heap[k]?=some (.cells c t fr)→k∈S→t≠T):w'.ownsRow base T sz v n xs:=by
 refine⟨h.1,?_⟩;rcases h.2 with h0|⟨g,cap,cur,h1,h2,h3,h4⟩
 ·exact .inl h0
 ·exact .inr ⟨g,cap,cur,h1,h2,hK.heap h3 (fun hm=>hS g _ _ _ h3 hm rfl),h4⟩
theorem qM5{w:World}{base n sz:Nat}{T:TypeId}{v:Value}{xs:List Value}(h:w.ownsRow base T sz v n xs):∃ b c,v=.slice b n c:=by
 rcases h.2 with⟨h0,h1⟩|⟨g,cap,cur,h1,h2⟩
 ·exact⟨none,0,by rw[h0,h1]⟩
 ·exact⟨_,cap,h1⟩
def TF.born(k:KF)(x:Nat)(cl:Nat)(wrt:Bool):TF:=⟨x,k.c,wrt,false,0,cl,k.com,0,.slice none 0 0⟩
def zD4(k:KF)(B base cl:Nat)(wrt:Bool)(tbs:List Nat)(R:Option Addr→World→Prop)(S:List Nat)(w w':World):Prop:=
 ∃ w1 x tb v' L,R (some ⟨x,0,none⟩) w1∧Kp S w w1∧w1.heap.size≤tb∧w'.heap[tb]?=some (tob (TF.born k x cl wrt))∧w'.heap[B]?=some (kob { k with ts:=v' })∧w'.ownsRow base 132 1 v' (tbs.length+1) (qH7 (tbs++[tb]))∧Kp L w1 w'∧(∀ i∈L,i=B∨k.ts.ownBlock=some i)∧∀ i,v'.ownBlock=some i→k.ts.ownBlock=some i∨w1.heap.size≤i
theorem zE8(B A n C:Nat)(cache:Value)(calls writes:Int)(k:KF)(Db base:Nat)(tbs:List Nat)(fs:List (TF × Nat))(cb:Option Addr)(cl cc:Nat)(wrt:Bool)(ko:Option Int)(hko:ko=none)(S:List Nat)(R:Option Addr→World→Prop)(w:World)(hI:BgIn w B A n C cache calls writes k Db base tbs fs cb cl cc)(hP:ProgS w S)(hx:∀ xo w,R xo w→∃ x,xo=some ⟨x,0,none⟩)(hfree:(wrt=true∧qC3 wrt fs=0)∨(wrt=false∧qC3 wrt fs<4))(hcall:Calls prog 29 #[.pointer (some ⟨Db,0,none⟩),.bool wrt] w fun e w'=>∃ xo v,e=.returned (.tuple #[.pointer xo,v])∧qB4 w' v ko∧R xo w'∧Kp S w w'):
  Calls prog 82 #[.pointer (some ⟨B,0,none⟩),.bool wrt] w fun e w'=>e=.returned (.bool true)∧zD4 k B base cl wrt tbs R S w w':=by
 have HFR:=zh hfree;have HX:=zh hx;have HRW:Hid (w.ownsRow base 132 1 k.ts tbs.length (qH7 tbs)∧base≤w.heap.size):=⟨hI.row,hI.bas⟩;clear hfree hx;have hBs:=ζ hI.hB;have hAs:=ζ hI.hA;have HI:=zh hI;have HP:=zh hP;have hB:=hI.hB;have hkA:=hI.kA;have hkx:=hI.kx;have HCALL:=zh hcall;have b0:=ξ hB 0;have b7:=ξ hB 7;simp only[kob,zG,zH,zI] at b0 b7;rw[hkA] at b0;rw[hkx] at b7;clear hI hP hB hkA hcall hkx;go_enter func82,ntmps82;go_wp2_with fail;refine (qG5 A n C cache calls writes w HI.out.hA).mono ?_;rintro e w0 ⟨rfl,rfl⟩;go_wp2_with fail;refine (show Calls _ _ _ _ _ from HCALL.out).mono ?_;rintro e w1 ⟨xo,v,rfl,hv,hR,hK1⟩;have hB1:=HP.out.stay hK1 HI.out.hB (by decide);have hTF1:=HP.out.tfs hK1 HI.out.ts;have hg1:=HP.out.g0 hK1 HI.out.g0 (by omega);have HR:Hid (R xo w1∧Kp S w0 w1):=⟨hR,hK1⟩;clear b0 b7 hR;go_wp2_with fail;refine (qH9 v ko w1 hg1 hv).mono ?_;rintro e w2 ⟨rfl,hK2⟩;have hB2:=hK2.hp hB1;have hTF2:=hTF1.keep0 hK2;obtain⟨p,c,hts,hrow⟩:=hTF2.row;have hB2s:=ζ hB2;have b8:=ξ hB2 8;have b9:=ξ hB2 9;have b10:=ξ hB2 10;have b11:=ξ hB2 11;simp only[kob,zG,zH,zI] at b8 b9 b10 b11;have f11:=υ hB2 11;rw[HI.out.po] at b10;rw[hts] at b11;rw[HI.out.kc] at b8;have HTS:=zh hts;have HT:=zh hTF2;have HROW:=zh hrow;have HLEN:=zh hTF2.len;have hlen5:=HI.out.len;have HB2:=zh hB2;have HK2:=zh hK2;clear hB1 hTF1 hg1 hK1 hK2 hB2 hv hTF2 hrow hts
 go_wp2_with (go_at_call 127;refine (qF3 _ _).mono ?_;rintro e w2 ⟨rfl,rfl⟩)
 go_loopw [10,11] (fun s i wr=>∃ (j:Nat),j≤tbs.length∧i=.int .i64 j∧s=.int .i64 (qC3 wrt (fs.take j):Nat)∧∃ d,wr=w2.drewN d) (fun _ i _=>tbs.length-(intOf i).toNat)
 case atStart=>exact⟨0,Nat.zero_le _,rfl,rfl,0,rfl⟩
 case round=>
  obtain⟨j,hj,rfl,rfl,d,rfl⟩:=hrel;have hlen:=HLEN.out;have hsb:=qX5 wrt (fs.take j);have hsl:(fs.take j).length=j:=by simp;omega
  rw[hsl] at hsb;clear hsl;by_cases hlt:j<tbs.length
  ·have hjb:(j:Int)<(tbs.length:Int):=by omega
   have hjf:j<fs.length:=by omega
   obtain⟨g,cur,rfl,hR,hcur⟩:=HROW.out (by omega);obtain⟨hTb,vb,vc,hv⟩:=HT.out.at_ j hlt hjf;have hst:qC3 wrt (fs.take (j+1))=qC3 wrt (fs.take j)+(if fs[j].1.dn=false∧fs[j].1.wr=wrt then 1 else 0):=by
    rw[List.take_succ_eq_append_getElem hjf,qX4];simp[qC3]
   obtain⟨⟨f,l⟩,hf⟩:∃ f,fs[j]=f:=⟨_,rfl⟩;obtain⟨tb,htb⟩:∃ tb,tbs[j]=tb:=⟨_,rfl⟩;have hcj:=hcur j hlt;rw[htb] at hcj hTb;rw[hf] at hTb hst;simp only at hTb hst;have HST:=zh hst;generalize hM:qC3 wrt (fs.take j)=M at *;have hgs:=ζ hR;have hTs:=ζ hTb;have r0:=ξ hR j;rw[hcj] at r0;have t2:=ξ hTb 2;have t3:=ξ hTb 3;simp only[tob,zG,zH,zI] at t2 t3;clear hcur hR hTb hst hf htb hcj hM hv hlen
   cases hdn:f.dn with
   | true=>
    rw[hdn] at t3;go_wp2;refine⟨⟨j+1,by omega,by go_num,?_,_,rfl⟩,by simp[intOf];omega⟩;rw[HST.out,hdn];simp
   | false=>
    rw[hdn] at t3;by_cases hc:f.wr=wrt
    ·rw[hc] at t2;go_wp2;refine⟨⟨j+1,by omega,by go_num,?_,_,rfl⟩,by simp[intOf];omega⟩;rw[HST.out,hdn,if_pos ⟨rfl,hc⟩]
     go_num
    ·have hc1:(f.wr == wrt)=false:=by simpa using hc
     have hc2:decide (f.wr=wrt)=false:=decide_eq_false hc;go_wp2;refine⟨⟨j+1,by omega,by go_num,?_,_,rfl⟩,by simp[intOf];omega⟩;rw[HST.out,if_neg (fun h=>hc h.2)];simp
  have hM:qC3 wrt (fs.take j)=qC3 wrt fs:=by rw[List.take_of_length_le (by omega)]
  have hjb:¬(j:Int)<(tbs.length:Int):=by omega
  rw[hM] at hsb;rw[hM];clear hM hlen;obtain⟨x,hxo⟩:=HX.out _ _ HR.out.1;subst hxo;obtain⟨w3,hw3,hB3,hK3⟩:∃ w3,w3=w2.drewN d∧w3.heap[B]?=some (kob k)∧Kp [] w1 w3:=⟨_,rfl,HB2.out,HK2.out.drewN _⟩;have HK3:=zh hK3;have hB3s:=ζ hB3;clear hK3;have hfr:(wrt=true→qC3 wrt fs=0)∧(wrt=false→¬((qC3 wrt fs:Nat):Int)=4):=by
   constructor
   ·intro h;rcases HFR.out with⟨_,h2⟩|⟨h1,_⟩
    ·exact h2
    ·rw[h] at h1;cases h1
   ·intro h;rcases HFR.out with⟨h1,_⟩|⟨_,h2⟩
    ·rw[h] at h1;cases h1
    ·omega
  cases hwv:wrt with
  | true=>
   have hz:=hfr.1 hwv;subst hwv;rw[hz];clear hz hfr;go_wp2_with fail;rw[←hw3];clear hw3 b8 b9 b10 b11 f11 hsb;have hS0:=hB3;refine wp_region_held_drew (S:=fun W=>W.heap[B]?=some (kob k)) (by kernel_rfl) hS0 (fun _=>?_);refine zP 0 x 0 hS0 ?_;refine zP 1 B 0 hS0 ?_;refine zP 2 B 0 hS0 ?_;refine zP 3 B 8 hS0 ?_;refine zV 4 (.agg #[.slice cb cl cc]) rfl (fun W hS=>by have c:=ξ hS 8;simp only[kob,zG,zH,zI] at c;rw[HI.out.kc] at c;clear hS;go_simp) hS0 ?_;refine zU 5 (.bool true) hS0 ?_;refine zP 6 B 0 hS0 ?_;refine zP 7 B 0 hS0 ?_;refine zP 8 B 8 hS0 ?_;refine zP 9 B 8 hS0 ?_;refine zV 10 (.slice cb cl cc) rfl (fun W hS=>by have c:=ξ hS 8;simp only[kob,zG,zH,zI] at c;rw[HI.out.kc] at c;clear hS;go_simp) hS0 ?_;refine zU 11 (.int .i64 cl) hS0 ?_;refine zP 12 B 0 hS0 ?_;refine zP 13 B 0 hS0 ?_;refine zP 14 B 9 hS0 ?_;refine zV 15 (.int .i64 k.com) rfl (fun W hS=>by have c:=ξ hS 9;simp only[kob,zG,zH,zI] at c;clear hS;go_simp) hS0 ?_;refine zU 16 (.agg #[.slice cb cl cc,.bool true,.bool false,.int .i64 0,.int .i64 cl,.int .i64 k.com,.int .i64 0]) hS0 ?_;refine zU 17 (.agg #[.pointer (some ⟨x,0,none⟩),.slice cb cl cc,.bool true,.bool false,.int .i64 0,.int .i64 cl,.int .i64 k.com,.int .i64 0,.slice none 0 0]) hS0 ?_;refine zq 18 fun K hK=>?_;go_simp;obtain⟨w4,hw4,hT4,hB4,hK4,hs4⟩:∃ w4,w4=World.drew (w3.alloc (.cells #[.pointer (some ⟨x,0,none⟩),.slice cb cl cc,.bool true,.bool false,.int .i64 0,.int .i64 cl,.int .i64 k.com,.int .i64 0,.slice none 0 0] 197))∧w4.heap[w3.heap.size]?=some (tob (TF.born k x cl true))∧w4.heap[B]?=some (kob k)∧Kp [] w3 w4∧w4.heap.size=w3.heap.size+1:=
    ⟨_,rfl,by have e:=κ w3 (.cells #[.pointer (some ⟨x,0,none⟩),.slice cb cl cc,.bool true,.bool false,.int .i64 0,.int .i64 cl,.int .i64 k.com,.int .i64 0,.slice none 0 0] 197);rw[TF.born,tob,HI.out.kc];exact e,θ _ hS0,((Kp.refl _ w3).alloc _).drew,show (w3.alloc _).heap.size=_ by simp⟩
   rw[←hw4];refine hK.out _ _ hB4 (fun _=>?_);clear hK K hw4
   try simp only[zZ]
   refine zP 19 w3.heap.size 0 hB4 ?_;refine zd ?_;have hr4:w4.ownsRow base 132 1 k.ts tbs.length (qH7 tbs):=qF0 (qF0 HRW.out.1 HR.out.2 (fun k' c t fr h1 h2 e=>absurd ((HP.out k' h2).2 _ _ _ h1) (by rw[e];decide))) (HK3.out.tr hK4) (fun _ _ _ _ _ h=>by cases h);have hsz1:=HR.out.2.size;have hsz3:=HK3.out.size;have hbs:=HRW.out.2;obtain⟨v',w6,hr6,hrow6,hgr6,hob6⟩:=zN3 (w4.alloc (.cells #[.pointer (some ⟨w3.heap.size,0,none⟩)] 132)) base w4.heap.size k.ts tbs.length (qH7 tbs) (.pointer (some ⟨w3.heap.size,0,none⟩)) 127 132 127 (.pointer none) underlying127 zJ1 rfl (World.ownsRow.alloc hr4 _) (by omega) (κ _ _) rfl (by simp;omega);have hT6:=qJ5 hr4 hgr6 hT4 (by decide);have hB6:=qJ5 hr4 hgr6 hB4 (by decide);obtain⟨b6,c6,hv6⟩:=qM5 hrow6;subst hv6;have HROW6:=zh hrow6;have HG6:=zh hgr6;have HOB:Hid (∀ i,Value.ownBlock (.slice b6 (tbs.length+1) c6)=some i→k.ts.ownBlock=some i∨w1.heap.size≤i):=fun i hi=>(hob6 i hi).imp id (fun h=>by simp at h;omega);have HT6:=zh hT6;have HB6:=zh hB6;have HK4:=zh hK4;have HS13:=zh hsz3;have hB6s:=ζ hB6;have hB4s:=ζ hB4;rw[HTS.out] at hr6;have b11:=ξ hB4 11;simp only[kob,zG,zH,zI] at b11;rw[HTS.out] at b11;have f11:=υ hB6 11;have q11:=ξ hB6 11;simp only[kob,zG,zH,zI] at q11;clear hS0 hB4 hB6 hT4 hT6 hrow6 hgr6 hr4 hK4 hsz1 hsz3 hbs hs4 hob6
   go_wp2_with (at_builtin;(with_reducible refine qI0 ?_ ?_ hr6 ?_);rfl;rfl)
   go_ret;have hKg:Kp (B::k.ts.ownBlock.toList) w3 w6:=(((HK4.out.mono (by simp)).alloc _).grown HG6.out (fun i hi=>Or.inl (by simp[hi])));have hKF:Kp (B::k.ts.ownBlock.toList) w1 (w6.setCell ⟨B,11,none⟩ (.slice b6 (tbs.length+1) c6)):=((HK3.out.mono (by simp)).trans hKg (fun i hi _=>hi)).sc _;refine⟨by simp,w1,x,w3.heap.size,.slice b6 (tbs.length+1) c6,_,HR.out.1,HR.out.2,HS13.out,?_,ν HB6.out 11 _,?_,hKF,?_,HOB.out⟩
   ·exact (qA0 (qA8 HT6.out HB6.out (by decide)) _ _).trans HT6.out
   ·refine qF0 (S:=[B]) (by rw[qH7,List.map_append];exact HROW6.out) ((Kp.refl _ _).sc _) (fun i c t fr h1 h2=>?_);rw[List.mem_singleton.1 h2,HB6.out] at h1;cases h1;decide
   ·intro i hi;simpa using hi
  | false=>
   have hz:=hfr.2 hwv;subst hwv;clear hfr;generalize qC3 false fs=M at *;go_wp2_with fail;rw[←hw3];clear hw3 b8 b9 b10 b11 f11 hsb;have hS0:=hB3;refine wp_region_held_drew (S:=fun W=>W.heap[B]?=some (kob k)) (by kernel_rfl) hS0 (fun _=>?_);refine zP 0 x 0 hS0 ?_;refine zP 1 B 0 hS0 ?_;refine zP 2 B 0 hS0 ?_;refine zP 3 B 8 hS0 ?_;refine zV 4 (.agg #[.slice cb cl cc]) rfl (fun W hS=>by have c:=ξ hS 8;simp only[kob,zG,zH,zI] at c;rw[HI.out.kc] at c;clear hS;go_simp) hS0 ?_;refine zU 5 (.bool false) hS0 ?_;refine zP 6 B 0 hS0 ?_;refine zP 7 B 0 hS0 ?_;refine zP 8 B 8 hS0 ?_;refine zP 9 B 8 hS0 ?_;refine zV 10 (.slice cb cl cc) rfl (fun W hS=>by have c:=ξ hS 8;simp only[kob,zG,zH,zI] at c;rw[HI.out.kc] at c;clear hS;go_simp) hS0 ?_;refine zU 11 (.int .i64 cl) hS0 ?_;refine zP 12 B 0 hS0 ?_;refine zP 13 B 0 hS0 ?_;refine zP 14 B 9 hS0 ?_;refine zV 15 (.int .i64 k.com) rfl (fun W hS=>by have c:=ξ hS 9;simp only[kob,zG,zH,zI] at c;clear hS;go_simp) hS0 ?_;refine zU 16 (.agg #[.slice cb cl cc,.bool false,.bool false,.int .i64 0,.int .i64 cl,.int .i64 k.com,.int .i64 0]) hS0 ?_;refine zU 17 (.agg #[.pointer (some ⟨x,0,none⟩),.slice cb cl cc,.bool false,.bool false,.int .i64 0,.int .i64 cl,.int .i64 k.com,.int .i64 0,.slice none 0 0]) hS0 ?_;refine zq 18 fun K hK=>?_;go_simp;obtain⟨w4,hw4,hT4,hB4,hK4,hs4⟩:∃ w4,w4=World.drew (w3.alloc (.cells #[.pointer (some ⟨x,0,none⟩),.slice cb cl cc,.bool false,.bool false,.int .i64 0,.int .i64 cl,.int .i64 k.com,.int .i64 0,.slice none 0 0] 197))∧w4.heap[w3.heap.size]?=some (tob (TF.born k x cl false))∧w4.heap[B]?=some (kob k)∧Kp [] w3 w4∧w4.heap.size=w3.heap.size+1:=
    ⟨_,rfl,by have e:=κ w3 (.cells #[.pointer (some ⟨x,0,none⟩),.slice cb cl cc,.bool false,.bool false,.int .i64 0,.int .i64 cl,.int .i64 k.com,.int .i64 0,.slice none 0 0] 197);rw[TF.born,tob,HI.out.kc];exact e,θ _ hS0,((Kp.refl _ w3).alloc _).drew,show (w3.alloc _).heap.size=_ by simp⟩
   rw[←hw4];refine hK.out _ _ hB4 (fun _=>?_);clear hK K hw4
   try simp only[zZ]
   refine zP 19 w3.heap.size 0 hB4 ?_;refine zd ?_;have hr4:w4.ownsRow base 132 1 k.ts tbs.length (qH7 tbs):=qF0 (qF0 HRW.out.1 HR.out.2 (fun k' c t fr h1 h2 e=>absurd ((HP.out k' h2).2 _ _ _ h1) (by rw[e];decide))) (HK3.out.tr hK4) (fun _ _ _ _ _ h=>by cases h);have hsz1:=HR.out.2.size;have hsz3:=HK3.out.size;have hbs:=HRW.out.2;obtain⟨v',w6,hr6,hrow6,hgr6,hob6⟩:=zN3 (w4.alloc (.cells #[.pointer (some ⟨w3.heap.size,0,none⟩)] 132)) base w4.heap.size k.ts tbs.length (qH7 tbs) (.pointer (some ⟨w3.heap.size,0,none⟩)) 127 132 127 (.pointer none) underlying127 zJ1 rfl (World.ownsRow.alloc hr4 _) (by omega) (κ _ _) rfl (by simp;omega);have hT6:=qJ5 hr4 hgr6 hT4 (by decide);have hB6:=qJ5 hr4 hgr6 hB4 (by decide);obtain⟨b6,c6,hv6⟩:=qM5 hrow6;subst hv6;have HROW6:=zh hrow6;have HG6:=zh hgr6;have HOB:Hid (∀ i,Value.ownBlock (.slice b6 (tbs.length+1) c6)=some i→k.ts.ownBlock=some i∨w1.heap.size≤i):=fun i hi=>(hob6 i hi).imp id (fun h=>by simp at h;omega);have HT6:=zh hT6;have HB6:=zh hB6;have HK4:=zh hK4;have HS13:=zh hsz3;have hB6s:=ζ hB6;have hB4s:=ζ hB4;rw[HTS.out] at hr6;have b11:=ξ hB4 11;simp only[kob,zG,zH,zI] at b11;rw[HTS.out] at b11;have f11:=υ hB6 11;have q11:=ξ hB6 11;simp only[kob,zG,zH,zI] at q11;clear hS0 hB4 hB6 hT4 hT6 hrow6 hgr6 hr4 hK4 hsz1 hsz3 hbs hs4 hob6
   go_wp2_with (at_builtin;(with_reducible refine qI0 ?_ ?_ hr6 ?_);rfl;rfl)
   go_ret;have hKg:Kp (B::k.ts.ownBlock.toList) w3 w6:=(((HK4.out.mono (by simp)).alloc _).grown HG6.out (fun i hi=>Or.inl (by simp[hi])));have hKF:Kp (B::k.ts.ownBlock.toList) w1 (w6.setCell ⟨B,11,none⟩ (.slice b6 (tbs.length+1) c6)):=((HK3.out.mono (by simp)).trans hKg (fun i hi _=>hi)).sc _;refine⟨by simp,w1,x,w3.heap.size,.slice b6 (tbs.length+1) c6,_,HR.out.1,HR.out.2,HS13.out,?_,ν HB6.out 11 _,?_,hKF,?_,HOB.out⟩
   ·exact (qA0 (qA8 HT6.out HB6.out (by decide)) _ _).trans HT6.out
   ·refine qF0 (S:=[B]) (by rw[qH7,List.map_append];exact HROW6.out) ((Kp.refl _ _).sc _) (fun i c t fr h1 h2=>?_);rw[List.mem_singleton.1 h2,HB6.out] at h1;cases h1;decide
   ·intro i hi;simpa using hi
theorem xR0{w:World}{g:Nat}{a b c d e:Int}{tg:TypeId}(h:w.heap[g]?=some (.cells #[.int .u8 a,.int .u8 b,.int .u8 c,.int .u8 d,.int .u8 e] tg)):
  ∃ s,Sem.run prog (convert 118 9 (.slice (some ⟨g,0,none⟩) 5 5)) w=.ok (.string s) w:=by
 rw[run_convert_bytes_string w _ _ _ _ _ _ underlying118 underlying5 underlying9];have hload:=zC0 (P:=prog) (o:=0) (n:=5) h (by simp);have e:qA5 #[.int .u8 a,.int .u8 b,.int .u8 c,.int .u8 d,.int .u8 e] 0 5=(([a,b,c,d,e]:List Int).map (.int .u8)).toArray:=by rfl
 rw[e] at hload;exact⟨_,run_bytesToString w _ _ _ _ hload⟩
theorem zA5(n:Int)(w:World):
  Calls prog 244 #[.int .i64 n] w fun e w'=>∃ s,e=.returned (.string s)∧Kp [] w w':=by
 obtain⟨s,hs⟩:=xR0 (κ w (.cells #[.int .u8 (n / 16777216 % 256),.int .u8 (n / 65536 % 256),.int .u8 (n / 256 % 256),.int .u8 (n % 256),.int .u8 33] 5));go_enter func244,ntmps244;go_wp2;go_ret;exact⟨_,rfl,(Kp.refl _ _).alloc _⟩
theorem xQ6{P:Program}(w:World)(dT sT ty elem:TypeId)(g dCap n:Nat)(a:Addr)(sCap:Nat)(cur:Array Value)(t:TypeId)(cs:List Value)
  (hu:P.underlying dT=some (.slice elem)) (hs:(P.info? elem).map (·.size)=some 2)
  (hg:w.heap[g]?=some (.cells cur t (0,0))) (hn:cs.length=n*2)
  (hsrc:∀ j v,cs[j]?=some v→w.cell? (a.add j)=some v) (hfit:cs.length≤cur.size) (h1:∀ v∈cs,v.oneCell'=true):
  (Builtin.copy_ #[dT,sT] ty #[.slice (some ⟨g,0,none⟩) n dCap,.slice (some a) n sCap]).run P w =
   .ok (goInt n) (w.setRow g (cs++cur.toList.drop cs.length).toArray):=by
 have hl:=run_loadCells_list (P:=P) w a cs hsrc;have hst:=run_storeCells_at P g 0 t cs 0 cur w hg (by simpa using hfit) h1;have hn':n*2=cs.length:=hn.symm;simp only[Nat.add_zero,Nat.zero_add,List.take_zero,List.nil_append] at hst
 cases hq:P.info? elem with
 | none=>simp[hq] at hs
 | some i=>
  have hi:i.size=2:=by simpa [hq] using hs
  simp[Builtin.copy_,run_underlying hu,Builtin.lenOf,Builtin.firstCells,sizeOf,typeInfo,hq,hi,hn',hl,hst]
theorem xS4:(prog.info? 42).map (·.size)=some 2:=by kernel_rfl
theorem xH8:(prog.info? 29).map (fun i=>(i.zero,i.size,i.bytes))=some (some (.slice none 0 0),1,24):=by kernel_rfl
theorem zN2(w:World)(base g:Nat)(v:Value)(n:Nat)(xs:List Value)(u:Value)(ty:TypeId)
  (h:w.ownsRow base 29 1 v n xs) (hn:n≤1000000) (hg:w.heap[g]?=some (.cells #[u] 29)) (hu:u.oneCell'=true) (hb:base≤w.heap.size):
  ∃ v' w',Sem.run prog (Builtin.append_ #[128,128] ty #[v,.slice (some ⟨g,0,none⟩) 1 1]) w=.ok v' w'∧w'.ownsRow base 29 1 v' (n+1) (xs++[u])∧w.grownBy w' v.ownBlock∧∀ k,v'.ownBlock=some k→v.ownBlock=some k∨w.heap.size≤k:=by
 obtain⟨i0,hi,hz0,hz1,hz2⟩:=info_parts xH8;exact zN7 (P:=prog) w base 128 ty 29 i0 _ 1 24 underlying128 hi hz0 hz1 hz2 rfl (by decide) v n _ h ⟨g,0,none⟩ 1 1 [u] (by simp) (fun j v hv=>by
  rw[qE3,ξ hg];simpa using hv) (by simpa using hu) (by unfold maxLen;omega) (by omega) hb
theorem xQ7{w:World}{l:Value}{ps:List KV}{Z:Array Value}(hl:SPA w l ps)(hZ:Z.size=ps.length*2)(ty:TypeId):
  ∃ w',Sem.run prog (Builtin.copy_ #[29,29] ty #[.slice (some ⟨w.heap.size,0,none⟩) ps.length ps.length,l]) (w.alloc (.cells Z 42))=.ok (.int .i64 ps.length) w'∧w'.heap[w.heap.size]?=some (.cells (ω ps).toArray 42)∧Kp [] w w':=by
 have hg:=κ w (.cells Z 42);have hlen:=qL3 ps;have hd:Z.toList.drop (ω ps).length=[]:=List.drop_eq_nil_of_le (by simp;omega);have key:∀ (a:Addr) (c:Nat),l=.slice (some a) ps.length c→(∀ j v,(ω ps)[j]?=some v→(w.alloc (.cells Z 42)).cell? (a.add j)=some v)→∃ w',Sem.run prog (Builtin.copy_ #[29,29] ty #[.slice (some ⟨w.heap.size,0,none⟩) ps.length ps.length,l]) (w.alloc (.cells Z 42))=.ok (.int .i64 ps.length) w'∧w'.heap[w.heap.size]?=some (.cells (ω ps).toArray 42)∧Kp [] w w':=by
  intro a c e hc;have hr:=xQ6 (P:=prog) (w.alloc (.cells Z 42)) 29 29 ty 42 w.heap.size ps.length ps.length a c Z 42 (ω ps) underlying29 xS4 hg hlen hc (by omega) (zM4 ps);rw[hd,List.append_nil] at hr;refine⟨_,by rw[e];exact hr,by rw[setRow_heap _ _ _ _ _ _ hg],((Kp.refl _ _).alloc _).setRow (by simp) _⟩
 rcases hl.val with⟨h0,b,c,e,hb⟩|⟨g,off,cap,cur,fr,e,h1,h2,h3,h4⟩
 ·have hp:ps=[]:=List.length_eq_zero_iff.1 h0;subst hp
  cases b with
  | none=>
   have hc0:=hb rfl;subst hc0;have hr:=run_copy_nil prog (w.alloc (.cells Z 42)) 29 29 ty 42 ⟨w.heap.size,0,none⟩ 0 0 underlying29 (by kernel_rfl);have hZ0:Z=#[]:=Array.size_eq_zero_iff.1 (by simpa using hZ);refine⟨_,by rw[e];exact hr,by rw[hg,hZ0];rfl,(Kp.refl _ _).alloc _⟩
  | some a=>exact key a c e (fun j v hj=>by simp[ω] at hj)
 ·refine key _ cap e (fun j v hj=>?_);rw[qE3,ξ (θ _ h3)];exact h4 j v hj
structure HEnt where
 l:Value
 c:Value
 ps:List KV
structure Held(w:World)(base:Nat)(k:KF)(hs:List HEnt):Prop where
 li:w.ownsRow base 29 1 k.li hs.length (hs.map HEnt.l)
 wa:w.ownsRow base 29 1 k.wa hs.length (hs.map HEnt.c)
 two:∀ i,k.li.ownBlock=some i→k.wa.ownBlock≠some i
 eq:∀ x∈hs,SPA w x.l x.ps∧SPA w x.c x.ps
theorem qO0{w:World}{base n sz:Nat}{T:TypeId}{v:Value}{xs:List Value}(h:w.ownsRow base T sz v n xs):∀ i,v.ownBlock=some i→∃ c,w.heap[i]?=some (.cells c T):=by
 intro i hi;rcases h.2 with⟨h0,h1⟩|⟨g,cap,cur,h1,h2,h3,h4⟩
 ·rw[h0] at hi;cases hi
 ·rw[h1] at hi;simp[Value.ownBlock] at hi;subst hi;exact⟨_,h3⟩
def qW7(k:KF)(B base:Nat)(hs:List HEnt)(l:Value)(ps:List KV)(w w':World):Prop:=
 ∃ li' wa' c' L,w'.heap[B]?=some (kob { k with li:=li',wa:=wa' })∧Held w' base { k with li:=li',wa:=wa' } (hs++[⟨l,c',ps⟩])∧Kp L w w'∧(∀ i∈L,i=B∨k.li.ownBlock=some i∨k.wa.ownBlock=some i)∧
  (∀ i,li'.ownBlock=some i→k.li.ownBlock=some i∨w.heap.size≤i)∧(∀ i,wa'.ownBlock=some i→k.wa.ownBlock=some i∨w.heap.size≤i)
theorem zI7(B base:Nat)(k:KF)(hs:List HEnt)(l:Value)(ps:List KV)(w:World)(hB:w.heap[B]?=some (kob k))(hH:Held w base k hs)(hl:SPA w l ps)(hn:ps.length≤1000000)(hk:hs.length≤100000)(hb:base≤w.heap.size):
  Calls prog 245 #[.pointer (some ⟨B,0,none⟩),l] w fun e w'=>e=.returned (.tuple #[])∧qW7 k B base hs l ps w w':=by
 obtain⟨lb,lc,hlv⟩:=hl.form;subst hlv;have hBs:=ζ hB;have HB:=zh hB;have HH:=zh hH;have HL:=zh hl;clear hB hH hl;go_enter func245,ntmps245
 go_wp2_with (refine zQ5 (.agg #[.string ⟨#[]⟩,.string ⟨#[]⟩]) (.string ⟨#[]⟩) 2 32 underlying29 qZ7 (by simp[Value.cells]) (by simp[Value.cells]) .i64 .i64 ps.length rfl rfl (by omega) (by omega) ?_;intro Z hZ hZ0)
 obtain⟨w1,hr1,hC1,hK1⟩:=xQ7 HL.out hZ 3;rw[hr1];clear hr1 hZ hZ0;have hB1:=hK1.hp HB.out;have hs1:=hK1.size;have hC1s:=ζ hC1;have hli1:=qF0 HH.out.li hK1 (fun _ _ _ _ _ h=>by cases h);have hwa1:=qF0 HH.out.wa hK1 (fun _ _ _ _ _ h=>by cases h);have hliB:=World.ownsRow.lt HH.out.li;have hwaB:=World.ownsRow.lt HH.out.wa;obtain⟨pl,cl,hkl⟩:=qM5 hli1;obtain⟨pw,cw,hkw⟩:=qM5 hwa1
 -- the lists
 obtain⟨v2,w2,hr2,hrow2,hgr2,hob2⟩:=zN2 (w1.alloc (.cells #[.slice lb ps.length lc] 29)) base w1.heap.size k.li hs.length (hs.map HEnt.l) (.slice lb ps.length lc) 128 (World.ownsRow.alloc hli1 _) (by omega) (κ _ _) rfl (by simp;omega);have hB2:=qJ5 hli1 hgr2 hB1 (by decide);have hwa2:w2.ownsRow base 29 1 k.wa hs.length (hs.map HEnt.c):=World.ownsRow.kept (World.ownsRow.alloc hwa1 _) hgr2 (by
  cases e:k.wa.ownBlock with
  | none=>exact .inl rfl
  | some i=>exact .inr (fun h=>HH.out.two i h.symm e))
 obtain⟨b2,c2,hv2⟩:=qM5 hrow2;subst hv2;have hs2:w1.heap.size+1≤w2.heap.size:=by have:=((Kp.refl (k.li.ownBlock.toList) (w1.alloc (.cells #[.slice lb ps.length lc] 29))).grown hgr2 (fun i hi=>Or.inl (by simp[hi]))).size;simpa using this
 obtain⟨w3,hw3,hB3,hK3,hs3⟩:∃ w3,w3=w2.setCell ⟨B,12,none⟩ (.slice b2 (hs.length+1) c2)∧w3.heap[B]?=some (kob { k with li:=.slice b2 (hs.length+1) c2 })∧Kp [B] w2 w3∧w3.heap.size=w2.heap.size:=⟨_,rfl,ν hB2 12 _,(Kp.refl _ _).sc _,by simp[World.setCell]⟩;have hBT:∀ i c t fr,w2.heap[i]?=some (.cells c t fr)→i∈[B]→t≠29:=fun i c t fr h1 h2=>by
  rw[List.mem_singleton.1 h2,hB2] at h1;cases h1;decide
 have hli3:=qF0 hrow2 hK3 hBT;have hwa3:=qF0 hwa2 hK3 hBT
 -- the copies
 obtain⟨v4,w4,hr4,hrow4,hgr4,hob4⟩:=zN2 (w3.alloc (.cells #[.slice (some ⟨w.heap.size,0,none⟩) ps.length ps.length] 29)) base w3.heap.size k.wa hs.length (hs.map HEnt.c) (.slice (some ⟨w.heap.size,0,none⟩) ps.length ps.length) 128 (World.ownsRow.alloc hwa3 _) (by omega) (κ _ _) rfl (by simp;omega);have hB4:=qJ5 hwa3 hgr4 hB3 (by decide);obtain⟨b4,c4,hv4⟩:=qM5 hrow4;subst hv4;have HE:Hid (qW7 k B base hs (.slice lb ps.length lc) ps w (w4.setCell ⟨B,13,none⟩ (.slice b4 (hs.length+1) c4))):=by
  show qW7 _ _ _ _ _ _ _ _;obtain⟨w5,hw5,hB5,hK5⟩:∃ w5,w5=w4.setCell ⟨B,13,none⟩ (.slice b4 (hs.length+1) c4)∧w5.heap[B]?=some (kob { k with li:=.slice b2 (hs.length+1) c2,wa:=.slice b4 (hs.length+1) c4 })∧Kp [B] w4 w5:=⟨_,rfl,ν hB4 13 _,(Kp.refl _ _).sc _⟩;rw[←hw5];obtain⟨L,hLe⟩:∃ L,L=B::(k.li.ownBlock.toList++k.wa.ownBlock.toList):=⟨_,rfl⟩;have hLm:∀ i,i∈L↔i=B∨k.li.ownBlock=some i∨k.wa.ownBlock=some i:=fun i=>by simp[hLe]
  have hK12:Kp L w1 w2:=((Kp.refl L w1).alloc _).grown hgr2 (fun i hi=>Or.inl ((hLm i).2 (.inr (.inl hi))));have hK34:Kp L w3 w4:=((Kp.refl L w3).alloc _).grown hgr4 (fun i hi=>Or.inl ((hLm i).2 (.inr (.inr hi))));have hB1':∀ i,i∈[B]→i∈L:=fun i hi=>(hLm i).2 (.inl (List.mem_singleton.1 hi));have hK15:Kp L w1 w5:=((hK12.trans hK3 (fun i hi _=>hB1' i hi)).trans hK34 (fun i hi _=>hi)).trans hK5 (fun i hi _=>hB1' i hi);have hK05:Kp L w w5:=(hK1.mono (by simp)).trans hK15 (fun i hi _=>hi);have hA1:Apt w1 L [42]:=fun i hi c t fr e=>by
   rcases (hLm i).1 hi with h|h|h
   ·rw[h,hB1] at e;cases e;decide
   ·obtain⟨c',hc'⟩:=qO0 hli1 i h;rw[hc'] at e;cases e;decide
   ·obtain⟨c',hc'⟩:=qO0 hwa1 i h;rw[hc'] at e;cases e;decide
  have hA0:Apt w L [42]:=fun i hi c t fr e=>by
   rcases (hLm i).1 hi with h|h|h
   ·rw[h,HB.out] at e;cases e;decide
   ·obtain⟨c',hc'⟩:=qO0 HH.out.li i h;rw[hc'] at e;cases e;decide
   ·obtain⟨c',hc'⟩:=qO0 HH.out.wa i h;rw[hc'] at e;cases e;decide
  have hno:∀ i,Value.ownBlock (.slice b2 (hs.length+1) c2)=some i→k.wa.ownBlock≠some i:=fun i h h'=>by
   rcases hob2 i h with h1|h1
   ·exact HH.out.two i h1 h'
   ·have:=(hwaB i h').2;simp at h1;omega
  have hBT4:∀ i c t fr,w4.heap[i]?=some (.cells c t fr)→i∈[B]→t≠29:=fun i c t fr h1 h2=>by
   rw[List.mem_singleton.1 h2,hB4] at h1;cases h1;decide
  have hli4:=World.ownsRow.kept (World.ownsRow.alloc hli3 (.cells #[.slice (some ⟨w.heap.size,0,none⟩) ps.length ps.length] 29)) hgr4 (by
   cases e:Value.ownBlock (.slice b2 (hs.length+1) c2) with
   | none=>exact .inl rfl
   | some i=>exact .inr (fun h=>hno i e h.symm))
  have hsc:SPA w1 (.slice (some ⟨w.heap.size,0,none⟩) ps.length ps.length) ps:=by
   refine⟨qL3 ps,?_⟩;by_cases h0:ps.length=0
   ·exact .inl ⟨h0,_,_,by rw[h0],fun h=>by cases h⟩
   ·exact .inr ⟨_,0,_,_,_,rfl,by omega,Nat.le_refl _,hC1,fun j u hj=>by simpa using hj⟩
  refine⟨_,_,.slice (some ⟨w.heap.size,0,none⟩) ps.length ps.length,L,hB5,⟨?_,?_,?_,?_⟩,hK05,fun i hi=>(hLm i).1 hi,?_,?_⟩
  ·have e:=qF0 hli4 hK5 hBT4;simpa using e
  ·have e:=qF0 hrow4 hK5 hBT4;simpa using e
  ·intro i h2 h4;rcases hob4 i h4 with h|h
   ·exact hno i h2 h
   ·have:=(World.ownsRow.lt hli3 i h2).2;simp at h;omega
  ·intro x hx;rcases List.mem_append.1 hx with hx|hx
   ·exact⟨(HH.out.eq x hx).1.keep hK05 hA0,(HH.out.eq x hx).2.keep hK05 hA0⟩
   ·rw[List.mem_singleton.1 hx];exact⟨HL.out.keep hK05 hA0,hsc.keep hK15 hA1⟩
  ·intro i hi;exact (hob2 i hi).imp id (fun h=>by simp at h;omega)
  ·intro i hi;exact (hob4 i hi).imp id (fun h=>by simp at h;omega)
 have hB4s:=ζ hB4;have hB3s:=ζ hB3;have hB2s:=ζ hB2;have hB1s:=ζ hB1;have b12:=ξ hB1 12;simp only[kob,zG,zH,zI] at b12;have d13:=ξ hB3 13;simp only[kob,zG,zH,zI] at d13;have f12:=υ hB2 12;have e12:=ξ hB2 12;simp only[kob,zG,zH,zI] at e12;have g13:=υ hB4 13;have h13:=ξ hB4 13;simp only[kob,zG,zH,zI] at h13;rw[hkl] at b12 hr2;rw[hkw] at d13 hr4;rw[hs3] at hr4;rw[hw3] at d13 hr4;clear hB1 hB2 hB3 hB4 hli1 hwa1 hliB hwaB hrow2 hgr2 hob2 hwa2 hK3 hBT hli3 hwa3 hrow4 hgr4 hob4 hK1 hC1 hkl hkw
 go_wp2_with (at_builtin;first | ((with_reducible refine qI0 ?_ ?_ hr2 ?_);rfl;rfl) | ((with_reducible refine qI0 ?_ ?_ hr4 ?_);rfl;rfl))
 go_end0
 exact⟨rfl,HE.out⟩
theorem Held.cellL{w:World}{base:Nat}{k:KF}{hs:List HEnt}(h:Held w base k hs){j:Nat}(hj:j<hs.length):∃ g c,k.li=.slice (some ⟨g,0,none⟩) hs.length c∧hs.length≤c∧g<w.heap.size∧w.cell? ⟨g,j,none⟩=some hs[j].l:=by
 rcases h.li.2 with⟨h0,h1⟩|⟨g,cap,cur,h1,h2,h3,h4,h5,h6,h7⟩
 ·omega
 ·refine⟨g,cap,h1,h4,ζ h3,?_⟩;have e:=World.ownsRow.cells h.li (g:=g) (by rw[h1];rfl) j hs[j].l (by simp[hj])
  rwa [qE3,Nat.zero_add] at e
theorem Held.cellW{w:World}{base:Nat}{k:KF}{hs:List HEnt}(h:Held w base k hs){j:Nat}(hj:j<hs.length):∃ g c,k.wa=.slice (some ⟨g,0,none⟩) hs.length c∧hs.length≤c∧g<w.heap.size∧w.cell? ⟨g,j,none⟩=some hs[j].c:=by
 rcases h.wa.2 with⟨h0,h1⟩|⟨g,cap,cur,h1,h2,h3,h4,h5,h6,h7⟩
 ·omega
 ·refine⟨g,cap,h1,h4,ζ h3,?_⟩;have e:=World.ownsRow.cells h.wa (g:=g) (by rw[h1];rfl) j hs[j].c (by simp[hj])
  rwa [qE3,Nat.zero_add] at e
theorem xK5(B base:Nat)(k:KF)(hs:List HEnt)(w:World)(hB:w.heap[B]?=some (kob k))(hH:Held w base k hs)(hn:hs.length≤100000)(hl:∀ x∈hs,x.ps.length≤1000000):
  Calls prog 84 #[.pointer (some ⟨B,0,none⟩)] w fun e w'=>e=.returned (.bool true)∧Kp [] w w':=by
 obtain⟨pl,cl,hkl⟩:=qM5 hH.li;have hBs:=ζ hB;have b12:=ξ hB 12;have b13:=ξ hB 13;simp only[kob,zG,zH,zI] at b12 b13;rw[hkl] at b12;have HH:=zh hH;have HKL:=zh hkl;have HL:=zh hl;clear hB hH hkl hl;go_enter func84,ntmps84;go_wp2_with fail
 go_loopw [3] (fun i wr=>∃ (j:Nat),j≤hs.length∧i=.int .i64 j∧∃ d,wr=w.drewN d) (fun i _=>hs.length-(intOf i).toNat)
 case atStart=>exact⟨0,Nat.zero_le _,rfl,0,rfl⟩
 case round=>
  obtain⟨j,hj,rfl,d,rfl⟩:=hrel;by_cases hlt:j<hs.length
  ·have hjb:(j:Int)<(hs.length:Int):=by omega
   obtain⟨g1,c1,e1,hc1,hg1,r1⟩:=HH.out.cellL hlt;obtain⟨g2,c2,e2,hc2,hg2,r2⟩:=HH.out.cellW hlt;rw[HKL.out] at e1;simp only[Value.slice.injEq,true_and] at e1;obtain⟨rfl,rfl⟩:=e1;rw[e2] at b13;obtain⟨hs1,hs2⟩:=HH.out.eq hs[j] (List.getElem_mem hlt);have hln:=HL.out hs[j] (List.getElem_mem hlt);obtain⟨⟨lv,cv,ps⟩,hx⟩:∃ x,hs[j]=x:=⟨_,rfl⟩;rw[hx] at r1 r2 hs1 hs2 hln;simp only at r1 r2 hs1 hs2 hln;obtain⟨lb,lc,rfl⟩:=hs1.form;obtain⟨wb,wc,rfl⟩:=hs2.form;have HS:Hid (SPA w (.slice lb ps.length lc) ps∧SPA w (.slice wb ps.length wc) ps):=⟨hs1,hs2⟩;clear hs1 hs2 hx e2;go_wp2_with fail
   go_loopw [4] (fun q wr=>∃ (z:Nat),z≤ps.length∧q=.int .i64 z∧∃ d,wr=w.drewN d) (fun q _=>ps.length-(intOf q).toNat)
   case atStart=>exact⟨0,Nat.zero_le _,rfl,d,rfl⟩
   case round=>
    obtain⟨z,hz,rfl,d',rfl⟩:=hrel;by_cases hzl:z<ps.length
    ·have hzb:(z:Int)<(ps.length:Int):=by omega
     obtain⟨g3,off3,cap3,cur3,fr3,hv3,hcp3,hrow3,hcur3⟩:=HS.out.1.at (by omega);obtain⟨g4,off4,cap4,cur4,fr4,hv4,hcp4,hrow4,hcur4⟩:=HS.out.2.at (by omega);obtain⟨x0,x1⟩:=hcur3 z hzl;obtain⟨y0,y1⟩:=hcur4 z hzl;simp only[Value.slice.injEq,true_and] at hv3 hv4;obtain⟨rfl,rfl⟩:=hv3;obtain⟨rfl,rfl⟩:=hv4;have a0:=ξ hrow3 (off3+z*2);rw[x0] at a0;have a1:=ξ hrow3 (off3+z*2+1);rw[x1] at a1;have h0:=ξ hrow4 (off4+z*2);rw[y0] at h0;have h1:=ξ hrow4 (off4+z*2+1);rw[y1] at h1;have hgs3:=ζ hrow3;have hgs4:=ζ hrow4;obtain⟨p,hp⟩:∃ p,ps[z]=p:=⟨_,rfl⟩;rw[hp] at a0 a1 h0 h1;clear hcur3 hcur4 x0 x1 y0 y1 hrow3 hrow4 hp;go_wp2_with fail
     go_quiet (fail)
     go_wp2;exact⟨⟨z+1,by omega,by go_num,_,rfl⟩,by simp[intOf];omega⟩
    ·have hzb:¬(z:Int)<(ps.length:Int):=by omega
     go_wp2;exact⟨⟨j+1,by omega,by go_num,_,rfl⟩,by simp[intOf];omega⟩
  ·have hjb:¬(j:Int)<(hs.length:Int):=by omega
   go_wp2;go_ret;exact⟨rfl,(Kp.refl _ _).drewN _⟩
theorem zB5(q:KV)(qs:List KV):ω (q::qs)=.string q.k::.string q.v::ω qs:=by simp[ω,pcs]
theorem zM5:∀ (qs:List KV) (i:Nat) (p:KV),((ω qs).set (i*2) (.string p.k)).set (i*2+1) (.string p.v)=ω (qs.set i p)
 | [],i,p=>by simp[ω]
 | q::qs,0,p=>by simp[zB5]
 | q::qs,i+1,p=>by
  have h:=zM5 qs i p;rw[show (i+1)*2=i*2+1+1 by omega,zC,zB5,zB5,zC,zC,zC,zC,h]
theorem Held.keep{w w':World}{base:Nat}{k:KF}{hs:List HEnt}{S:List Nat}(h:Held w base k hs)(hP:ProgS w S)(hK:Kp S w w'):Held w' base k hs:=
 ⟨qF0 h.li hK (fun i c t fr h1 h2 e=>absurd ((hP i h2).2 _ _ _ h1) (by rw[e];decide)),qF0 h.wa hK (fun i c t fr h1 h2 e=>absurd ((hP i h2).2 _ _ _ h1) (by rw[e];decide)),h.two,
  fun x hx=>⟨(h.eq x hx).1.keep hK (hP.apt (by decide)),(h.eq x hx).2.keep hK (hP.apt (by decide))⟩⟩
theorem xQ9(w:World)(base g:Nat)(l:Value)(qs:List KV)(a b:KV)(ty:TypeId)(h:OPA w base l qs)(hn:qs.length≤1000000)(hg:w.heap[g]?=some (.cells #[.string a.k,.string a.v,.string b.k,.string b.v] 42))(hb:base≤w.heap.size):
  ∃ v' w',Sem.run prog (Builtin.append_ #[29,29] ty #[l,.slice (some ⟨g,0,none⟩) 2 2]) w=.ok v' w'∧SPA w' l qs∧OPA w' base v' (qs++[a,b])∧w.grownBy w' l.ownBlock:=by
 obtain⟨i0,hi,hz0,hz1,hz2⟩:=info_parts qZ7;have hnews:∀ j u,([.string a.k,.string a.v,.string b.k,.string b.v]:List Value)[j]?=some u→w.cell? ((⟨g,0,none⟩:Addr).add j)=some u:=fun j v hv=>by
  rw[qE3,ξ hg];simpa using hv
 have hpc:ω (qs++[a,b])=ω qs++[.string a.k,.string a.v,.string b.k,.string b.v]:=by simp[ω,pcs]
 have h1:∀ u∈([.string a.k,.string a.v,.string b.k,.string b.v]:List Value),u.oneCell'=true:=by simp[Value.oneCell']
 obtain⟨v',w',hr,r1,r2,_⟩:=run_append_own (P:=prog) w base 29 ty 42 i0 _ 2 32 underlying29 hi hz0 hz1 hz2 rfl (by decide) l qs.length _ h ⟨g,0,none⟩ 2 2 [.string a.k,.string a.v,.string b.k,.string b.v] rfl hnews h1 (by unfold maxLen;omega) (by omega) hb;have hO:OPA w' base v' (qs++[a,b]):=by
  unfold OPA;rw[hpc,List.length_append];exact r1
 refine⟨v',w',hr,?_,hO,r2⟩;rcases h.2 with⟨h0,hn0⟩|⟨gl,cap,cur,hv,h2,h3,h4,h5,h6,h7⟩
 ·have hq:qs=[]:=List.length_eq_zero_iff.1 hn0;subst hq;rw[h0];exact SPA.nil _
 ·subst hv;by_cases hroom:qs.length+2≤cap
  ·obtain⟨w2,hr2,q1,_⟩:=run_append_fits w base 29 ty 42 i0 2 underlying29 hi hz1 gl qs.length cap (ω qs) h ⟨g,0,none⟩ 2 2 [.string a.k,.string a.v,.string b.k,.string b.v] rfl hnews h1 hroom;rw[hr] at hr2;cases hr2;rcases q1.2 with⟨e0,_⟩|⟨g',cap',cur',e1,e2,e3,e4,e5,e6,e7⟩
   ·cases e0
   ·simp only[Value.slice.injEq,Option.some.injEq,Addr.mk.injEq,and_true,true_and] at e1;obtain⟨rfl,rfl⟩:=e1;refine⟨qL3 qs,?_⟩;by_cases hz:qs.length=0
    ·exact .inl ⟨hz,_,_,by rw[hz],fun e=>by cases e⟩
    ·refine .inr ⟨gl,0,cap,cur',_,rfl,by omega,h4,e3,fun j u hj=>?_⟩;have hlt:j<(ω qs).length:=(List.getElem?_eq_some_iff.1 hj).1;have e8:(ω qs++[.string a.k,.string a.v,.string b.k,.string b.v])[j]?=some u:=by rw[List.getElem?_append_left hlt];exact hj
     rw[←e7,List.getElem?_take_of_lt (by rw[qL3] at hlt;omega)] at e8;simpa using e8
  ·have hc:∀ j u,(ω qs)[j]?=some u→w.cell? ((⟨gl,0,none⟩:Addr).add j)=some u:=World.ownsRow.cells h rfl;obtain⟨v2,w2,hr2,q1,q2⟩:=run_append_arg_grows w 29 ty 42 i0 _ 2 32 underlying29 hi hz0 hz1 hz2 rfl (by decide) ⟨gl,0,none⟩ qs.length cap (ω qs) h.1 hc ⟨g,0,none⟩ 2 2 [.string a.k,.string a.v,.string b.k,.string b.v] rfl hnews (by omega) (by unfold maxLen;omega) (by omega);rw[hr] at hr2;cases hr2;exact h.sp.keep0 ((Kp.refl [] w).grown q2 (fun k hk=>by cases hk))
def qS1(k:KF)(B base n:Nat)(hs:List HEnt)(S:List Nat)(l:Value)(w0 w w':World):Prop:=
 ∃ li' wa' x y L,w'.heap[B]?=some (kob { k with li:=li',wa:=wa' })∧Held w' base { k with li:=li',wa:=wa' } (hs++[x,y])∧x.ps.length≤n+2∧y.ps.length≤n+2∧Kp L w0 w'∧(∀ i∈L,i∈S∨i=B∨k.li.ownBlock=some i∨k.wa.ownBlock=some i)∧
  (∀ i,li'.ownBlock=some i→k.li.ownBlock=some i∨w0.heap.size≤i)∧(∀ i,wa'.ownBlock=some i→k.wa.ownBlock=some i∨w0.heap.size≤i)∧
  ∃ L',Kp L' w w'∧∀ i∈L',l.ownBlock=some i∨i=B∨k.li.ownBlock=some i∨k.wa.ownBlock=some i
theorem Held.apt{w:World}{base B:Nat}{k:KF}{hs:List HEnt}{L:List Nat}(h:Held w base k hs)(hB:w.heap[B]?=some (kob k))(hL:∀ i∈L,i=B∨k.li.ownBlock=some i∨k.wa.ownBlock=some i):Apt w L [42]:=fun i hi c t fr e=>by
 rcases hL i hi with h1|h1|h1
 ·rw[h1,hB] at e;cases e;decide
 ·obtain⟨c',hc'⟩:=qO0 h.li i h1;rw[hc'] at e;cases e;decide
 ·obtain⟨c',hc'⟩:=qO0 h.wa i h1;rw[hc'] at e;cases e;decide
theorem xJ5(B base:Nat)(k:KF)(hs:List HEnt)(l:Value)(ps:List KV)(S:List Nat)(w0 w:World)(hB:w0.heap[B]?=some (kob k))(hH:Held w0 base k hs)(hP:ProgS w0 S)(hK:Kp S w0 w)(hl:OPA w w0.heap.size l ps)(hn:ps.length≤99000)(hk:hs.length≤90000)(hb:base≤w0.heap.size):
  Calls prog 202 #[.pointer (some ⟨B,0,none⟩),l] w fun e w'=>e=.returned (.tuple #[])∧qS1 k B base ps.length hs S l w0 w w':=by
 obtain⟨lb,lc,hlv⟩:=hl.form;subst hlv;have hBw:=hP.stay hK hB (by decide);have hBs:=ζ hBw;obtain⟨pl,cl,hkl⟩:=qM5 hH.li;have b12:=ξ hBw 12;simp only[kob,zG,zH,zI] at b12;rw[hkl] at b12;have HA:Hid (w0.heap[B]?=some (kob k)∧Held w0 base k hs∧ProgS w0 S∧base≤w0.heap.size):=⟨hB,hH,hP,hb⟩;have HL:Hid (OPA w w0.heap.size (.slice lb ps.length lc) ps∧Kp S w0 w):=⟨hl,hK⟩;have hw0:wrap64 (100000*(hs.length:Int))=100000*(hs.length:Int):=by simp only[wrap64];omega
 obtain⟨n,hnn⟩:∃ n,ps.length=n:=⟨_,rfl⟩;rw[hnn] at hn HL ⊢;clear hB hH hP hK hl hb hBw hkl;have HNN:=zh hnn;clear hnn;go_enter func202,ntmps202;go_wp2_with fail
 go_loopw [5,6] (fun i m wr=>∃ (j:Nat) (qs:List KV),j≤n∧i=.int .i64 j∧Hid (qs.length=n)∧OPA wr w0.heap.size (.slice lb n lc) qs∧Kp S w0 wr∧Kp (Value.ownBlock (.slice lb n lc)).toList w wr) (fun i _ _=>n-(intOf i).toNat)
 case atStart=>exact⟨0,ps,Nat.zero_le _,rfl,HNN.out,HL.out.1,HL.out.2,Kp.refl _ _⟩
 case round=>
  obtain⟨j,qs,hj,rfl,hql,hO,hK,hKw⟩:=hrel;by_cases hlt:j<n
  ·have hjb:(j:Int)<(n:Int):=by omega
   go_wp2_with fail;refine (zA5 _ _).mono ?_;rintro e w1 ⟨s,rfl,hK1⟩;have hO1:OPA w1 w0.heap.size (.slice lb n lc) qs:=qF0 hO hK1 (fun _ _ _ _ _ h=>by cases h);have hK1':Kp S w0 w1:=hK.tr hK1;have hKw1:Kp (Value.ownBlock (.slice lb n lc)).toList w w1:=hKw.tr hK1;rcases hO1.2 with⟨h0,hn0⟩|⟨g,cap,cur,hv,h2,h3,h4,h5,h6,h7⟩
   ·have:=hql.out;omega
   simp only[Value.slice.injEq] at hv;obtain⟨rfl,hnq,rfl⟩:=hv;clear hnq;have hgs:=ζ h3;have hjq:j<qs.length:=by have:=hql.out;omega
   have hcell:∀ i u,(ω qs)[i]?=some u→w1.cell? ⟨g,i,none⟩=some u:=fun i u hu=>by
    have e:=World.ownsRow.cells hO1 (g:=g) rfl i u hu
    rwa [qE3,Nat.zero_add] at e
   have a0:=hcell _ _ (qM1 hjq).1;have a1:=hcell _ _ (qM1 hjq).2;have f0:=υ h3 (j*2);have f1:=υ h3 (j*2+1);obtain⟨p,hp⟩:∃ p,qs[j]=p:=⟨_,rfl⟩;rw[hp] at a0 a1;have HO1:Hid (OPA w1 w0.heap.size (.slice (some ⟨g,0,none⟩) n lc) qs∧Kp S w0 w1∧w0.heap.size≤g∧Kp [g] w w1):=⟨hO1,hK1',h2,hKw1⟩;have hnc:n≤lc:=by have:=hql.out;omega
   clear h2 h3 h4 h5 h6 h7 hcell hp hO1 hK1' hK1 hO hK hKw hKw1;go_wp2;refine⟨⟨j+1,qs.set j ⟨s,⟨#[]⟩⟩,by omega,by go_num,?_,?_,?_,?_⟩,by simp[intOf];omega⟩
   ·show (qs.set j _).length=n;rw[List.length_set];exact hql.out
   ·have hO1:w1.ownsRow w0.heap.size 42 2 (.slice (some ⟨g,0,none⟩) n lc) n (ω qs):=by have h:=HO1.out.1;unfold OPA at h;rw[hql.out] at h;exact h
    have e2:=(World.ownsRow.stored (World.ownsRow.stored hO1 (j*2) (.string s)).1 (j*2+1) (.string ⟨#[]⟩)).1;have e3:=zM5 qs j ⟨s,⟨#[]⟩⟩;simp only at e3;rw[e3] at e2;unfold OPA;rw[List.length_set,hql.out];exact e2
   ·exact (HO1.out.2.1.setCell (p:=⟨g,_,none⟩) (Or.inr HO1.out.2.2.1) _).setCell (p:=⟨g,_,none⟩) (Or.inr HO1.out.2.2.1) _
   ·exact (HO1.out.2.2.2.setCell (p:=⟨g,_,none⟩) (by simp) _).setCell (p:=⟨g,_,none⟩) (by simp) _
  ·have hjb:¬(j:Int)<(n:Int):=by omega
   go_wp2_with fail;refine (zA5 _ _).mono ?_;rintro e w1 ⟨s1,rfl,hK1⟩;go_wp2_with fail;refine (zA5 _ _).mono ?_;rintro e w2 ⟨s2,rfl,hK2⟩;have hK2':Kp S w0 w2:=(hK.tr hK1).tr hK2;have hO2:OPA w2 w0.heap.size (.slice lb n lc) qs:=qF0 (qF0 hO hK1 (fun _ _ _ _ _ h=>by cases h)) hK2 (fun _ _ _ _ _ h=>by cases h);have hsz2:=hK2'.size;have hKw2:Kp (Value.ownBlock (.slice lb n lc)).toList w w2:=(hKw.tr hK1).tr hK2;have hqn:=hql.out;obtain⟨v4,w4,hr4,hS4,hO4,hg4⟩:=xQ9 (w2.alloc (.cells #[.string s1,.string ⟨#[]⟩,.string s2,.string ⟨#[]⟩] 42)) w0.heap.size w2.heap.size (.slice lb n lc) qs ⟨s1,⟨#[]⟩⟩ ⟨s2,⟨#[]⟩⟩ 29 (hO2.alloc _) (by omega) (κ _ _) (by simp;omega);have hK4:Kp S w0 w4:=(hK2'.alloc _).grown hg4 (fun i hi=>Or.inr (hO2.low i hi));have hKw4:Kp (Value.ownBlock (.slice lb n lc)).toList w w4:=(hKw2.alloc _).grown hg4 (fun i hi=>Or.inl (by simp[hi]));have HKW:=zh hKw4;have hB4:=HA.out.2.2.1.stay hK4 HA.out.1 (by decide);have hH4:=HA.out.2.1.keep HA.out.2.2.1 hK4;have hsz4:=hK4.size;have hb0:=HA.out.2.2.2;have HW:Hid (Kp S w0 w4∧w4.heap[B]?=some (kob k)∧Held w4 base k hs∧SPA w4 v4 (qs++[⟨s1,⟨#[]⟩⟩,⟨s2,⟨#[]⟩⟩])∧w0.heap.size≤w4.heap.size∧qs.length=n):=⟨hK4,hB4,hH4,hO4.sp,hsz4,hqn⟩;clear hg4 hO4 hK4 hO2 hK2' hsz2 hK1 hK2 hO hK hKw hKw2 hKw4
   go_wp2_with (at_builtin;(with_reducible refine qI0 ?_ ?_ hr4 ?_);rfl;rfl)
   refine (zI7 B base k hs (.slice lb n lc) qs w4 hB4 hH4 hS4 (by omega) (by omega) (by omega)).mono ?_;rintro e w5 ⟨rfl,li1,wa1,c1,L1,hB5,hH5,hK5,hL5,hl5,hx5⟩;have hS5:SPA w5 v4 (qs++[⟨s1,⟨#[]⟩⟩,⟨s2,⟨#[]⟩⟩]):=HW.out.2.2.2.1.keep hK5 (HW.out.2.2.1.apt HW.out.2.1 hL5);have hsz5:=hK5.size;have hlen5:(hs++[HEnt.mk (.slice lb n lc) c1 qs]).length≤100000:=by simp;omega
   have hlq:(qs++[KV.mk s1 ⟨#[]⟩,KV.mk s2 ⟨#[]⟩]).length≤1000000:=by simp;omega
   have HV:Hid (Kp L1 w4 w5∧(∀ i∈L1,i=B∨k.li.ownBlock=some i∨k.wa.ownBlock=some i)∧(∀ i,li1.ownBlock=some i→k.li.ownBlock=some i∨w4.heap.size≤i)∧(∀ i,wa1.ownBlock=some i→k.wa.ownBlock=some i∨w4.heap.size≤i)):=⟨hK5,hL5,hl5,hx5⟩;clear hB4 hH4 hS4 hr4 hK5 hL5 hl5 hx5;go_wp2_with fail;refine (zI7 B base { k with li:=li1,wa:=wa1 } _ v4 _ w5 hB5 hH5 hS5 hlq hlen5 (by omega)).mono ?_;rintro e w6 ⟨rfl,li2,wa2,c2,L2,hB6,hH6,hK6,hL6,hl6,hx6⟩;have HE:Hid (qS1 k B base n hs S (.slice lb n lc) w0 w w6):=by
    show qS1 _ _ _ _ _ _ _ _ _ _;obtain⟨hK4,hB4,hH4,_,hs4,hqn'⟩:=HW.out;obtain⟨hK5,hL5,hl5,hx5⟩:=HV.out;obtain⟨LL,hLL⟩:∃ LL,LL=S++(B::(k.li.ownBlock.toList++k.wa.ownBlock.toList)):=⟨_,rfl⟩;have hLm:∀ i,i∈LL↔i∈S∨i=B∨k.li.ownBlock=some i∨k.wa.ownBlock=some i:=fun i=>by simp[hLL]
    have hK05:Kp LL w0 w5:=(hK4.mono (fun i hi _=>(hLm i).2 (.inl hi))).trans hK5 (fun i hi _=>(hLm i).2 (.inr (hL5 i hi)));have hK06:Kp LL w0 w6:=hK05.trans hK6 (fun i hi hlt=>(hLm i).2 (by
     rcases hL6 i hi with h|h|h
     ·exact .inr (.inl h)
     ·rcases hl5 i h with h'|h'
      ·exact .inr (.inr (.inl h'))
      ·omega
     ·rcases hx5 i h with h'|h'
      ·exact .inr (.inr (.inr h'))
      ·omega))
    refine⟨li2,wa2,⟨.slice lb n lc,c1,qs⟩,⟨v4,c2,qs++[⟨s1,⟨#[]⟩⟩,⟨s2,⟨#[]⟩⟩]⟩,LL,hB6,by simpa using hH6,by show qs.length≤n+2;omega,by simp;omega,hK06,fun i hi=>(hLm i).1 hi,?_,?_,?_⟩
    ·intro i hi;rcases hl6 i hi with h|h
     ·exact (hl5 i h).imp id (fun h=>by omega)
     ·exact .inr (by omega)
    ·intro i hi;rcases hx6 i hi with h|h
     ·exact (hx5 i h).imp id (fun h=>by omega)
     ·exact .inr (by omega)
    ·obtain⟨LM,hLM⟩:∃ LM,LM=(Value.ownBlock (.slice lb n lc)).toList++(B::(k.li.ownBlock.toList++k.wa.ownBlock.toList)):=⟨_,rfl⟩;have hMm:∀ i,i∈LM↔Value.ownBlock (.slice lb n lc)=some i∨i=B∨k.li.ownBlock=some i∨k.wa.ownBlock=some i:=fun i=>by simp[hLM]
     have hsw:=HKW.out.size;have hKw5:Kp LM w w5:=(HKW.out.mono (fun i hi _=>(hMm i).2 (.inl (by simpa using hi)))).trans hK5 (fun i hi _=>(hMm i).2 (.inr (hL5 i hi)));refine⟨LM,hKw5.trans hK6 (fun i hi hlt=>(hMm i).2 ?_),fun i hi=>(hMm i).1 hi⟩;rcases hL6 i hi with h|h|h
     ·exact .inr (.inl h)
     ·rcases hl5 i h with h'|h'
      ·exact .inr (.inr (.inl h'))
      ·omega
     ·rcases hx5 i h with h'|h'
      ·exact .inr (.inr (.inr h'))
      ·omega
   clear hB5 hH5 hS5 hB6 hH6 hK6 hL6 hl6 hx6;go_wp2
   go_end0
   exact⟨rfl,HE.out⟩
theorem xB7{P:Program}{a:Act}{w w':World}{o:Oper}{s x:Operand}{t:TypeId}{vs vx v':Value}(ho:o.op=.call { callee:=.builtin .append,args:=#[s,x],argTypes:=#[t,t] })(hs:a.eval s=vs)(hx:a.eval x=vx)(hr:Sem.run P (Builtin.append_ #[t,t] o.type #[vs,vx]) w=.ok v' w'):Sem.run P (execOp a.eval o) w=.ok (.value v') w':=by
 unfold execOp;simp only[ho,resolve,invoke,builtin,Sem.run_bind,Sem.run_pure,Result.andThen_ok,List.map_toArray,List.map_cons,List.map_nil,hs,hx,hr]
theorem xO2(l:Value)(ps:List KV)(w:World)(hl:SPA w l ps)(hn:ps.length≤100000):
  Calls prog 189 #[l] w fun e w'=>∃ v,e=.returned v∧OPR w' w.heap.size v ps∧Kp [] w w':=by
 obtain⟨lb,lc,rfl⟩:=hl.form;have HS:=zh hl;clear hl;go_enter func189,ntmps189;go_wp2_with fail
 go_loopw [3,4] (fun o i wr=>∃ (j:Nat) (ob:Option Addr) (oc:Nat),j≤ps.length∧i=.int .i64 j∧o=.slice ob j oc∧OPR wr w.heap.size (.slice ob j oc) (ps.take j)∧Kp [] w wr) (fun _ i _=>ps.length-(intOf i).toNat)
 case atStart=>exact⟨0,none,0,Nat.zero_le _,rfl,rfl,OPR.nil _ _,Kp.refl _ _⟩
 case round=>
  obtain⟨j,ob,oc,hj,rfl,rfl,hO,hK⟩:=hrel;have HO:=zh hO;have HK:=zh hK;have hsz:=hK.size;by_cases hlt:j<ps.length
  ·have hjb:(j:Int)<(ps.length:Int):=by omega
   obtain⟨g,off,cap,cur,fr,hv,hcp,hrow,hcur⟩:=(HS.out.keep0 hK).at (by omega);obtain⟨d0,d1⟩:=hcur j hlt;simp only[Value.slice.injEq,true_and] at hv;obtain⟨rfl,rfl⟩:=hv;obtain⟨p,hp⟩:∃ p,ps[j]=p:=⟨_,rfl⟩;rw[hp] at d0 d1;have HP:=zh hp;have hgs:=ζ hrow;have hS0:=hrow;clear hcur hO hK hp hrow;go_wp2_with fail;refine wp_region_held_drew (S:=fun W=>W.heap[g]?=some (.cells cur 42 fr)) (by kernel_rfl) hS0 (fun _=>?_);refine zU 0 (.slice ob j oc) hS0 ?_;refine zU 1 (.slice (some ⟨g,off,none⟩) ps.length lc) hS0 ?_;refine zU 2 (.int .i64 j) hS0 ?_;refine zU 3 (.pointer (some ⟨g,off+j*2,none⟩)) hS0 ?_;refine zU 4 (.pointer (some ⟨g,off+j*2,none⟩)) hS0 ?_;refine zV 5 (.string p.k) rfl (fun W hS=>by have a0:=ξ hS (off+j*2);rw[d0] at a0;clear hS;go_simp) hS0 ?_;refine zU 6 (.slice (some ⟨g,off,none⟩) ps.length lc) hS0 ?_;refine zU 7 (.int .i64 j) hS0 ?_;refine zU 8 (.pointer (some ⟨g,off+j*2,none⟩)) hS0 ?_;refine zU 9 (.pointer (some ⟨g,off+j*2+1,none⟩)) hS0 ?_;refine zV 10 (.string p.v) rfl (fun W hS=>by have a0:=ξ hS (off+j*2+1);rw[d1] at a0;clear hS;go_simp) hS0 ?_;refine zU 11 (.agg #[.string p.k,.string p.v]) hS0 ?_;obtain⟨w1,hw1,hP1,hK1,hs1⟩:∃ w1,w1=World.drew (wr.alloc (.cells #[.string p.k,.string p.v] 284))∧w1.heap[wr.heap.size]?=some (.cells #[.string p.k,.string p.v] 284)∧Kp [] wr w1∧w1.heap.size=wr.heap.size+1:=
    ⟨_,rfl,κ wr _,((Kp.refl _ wr).alloc _).drew,show (wr.alloc _).heap.size=_ by simp⟩
   have hS1:=hK1.hp hS0;have hO1:OPR w1 w.heap.size (.slice ob j oc) (ps.take j):=qF0 HO.out hK1 (fun _ _ _ _ _ h=>by cases h);have htl:(ps.take j).length=j:=by simp;omega
   obtain⟨v5,w5,hr5,hO5,hg5⟩:=hO1.app wr.heap.size p 124 (by omega) hP1 (by omega);have hK5:Kp [] w w5:=(HK.out.tr hK1).grown hg5 (fun k hk=>Or.inr (hO1.low k hk));obtain⟨b5,c5,hv5⟩:=hO5.form;have htl5:(ps.take j++[p]).length=j+1:=by simp;omega
   rw[htl5] at hv5;subst hv5;have hte:ps.take (j+1)=ps.take j++[p]:=by rw[List.take_succ_eq_append_getElem hlt,HP.out]
   have HE:Hid (OPR w5 w.heap.size (.slice b5 (j+1) c5) (ps.take (j+1))∧Kp [] w w5):=⟨by rw[hte];exact hO5,hK5⟩;refine zq 12 fun K hK=>?_;go_simp;rw[←hw1];refine hK.out _ _ hS1 (fun _=>?_);clear hK K
   try simp only[zZ]
   have hS5:w5.heap[g]?=some (.cells cur 42 fr):=by
    refine (hg5.block g (ζ hS1) (fun e=>?_)).trans hS1;obtain⟨c',hc'⟩:=qO0 hO1 g e.symm;rw[hS1] at hc';cases hc'
   refine zq 13 fun K hK=>?_;refine qF4 rfl (xB7 rfl rfl rfl hr5) ?_;refine hK.out _ _ hS5 (fun _=>?_);clear hK K
   try simp only[zZ]
   refine zU 14 (.slice b5 (j+1) c5) hS5 ?_;refine zd ?_;clear hS0 hS1 hS5 hw1 hP1 hK1 hO1 hr5 hO5 hg5 hK5 d0 d1 htl htl5 hte;go_wp2;exact⟨⟨j+1,b5,c5,by omega,by go_num,by simp,HE.out.1,HE.out.2⟩,by simp[intOf];omega⟩
  ·have hjb:¬(j:Int)<(ps.length:Int):=by omega
   have HE:Hid (OPR wr w.heap.size (.slice ob j oc) ps):=by
    have h:=HO.out;rw[List.take_of_length_le (by omega)] at h;exact h
   clear hO hK;go_wp2;go_ret;exact⟨_,rfl,HE.out,HK.out⟩
def zR0(k:KF)(B base n:Nat)(hs:List HEnt)(S:List Nat)(R:World→Prop)(w w':World):Prop:=∃ w1 w5 l,R w1∧Kp S w w1∧Kp [] w1 w5∧(∀ i,Value.ownBlock l=some i→w.heap.size≤i)∧qS1 k B base n hs S l w w5 w'
theorem zO0(ps:List KV)(lo hi:ByteArray)(most:Int):(qC6 ps lo hi most).length≤ps.length:=by
 have h1:=List.length_filter_le (inR lo hi) ps;have h2:=List.length_take_le most.toNat (ps.filter (inR lo hi));have h3:=List.length_take_le' most.toNat (ps.filter (inR lo hi));unfold qC6;omega
theorem xR6(B tb A n C:Nat)(cache:Value)(calls writes:Int)(k:KF)(f:TF)(ps:List KV)(lo hi:ByteArray)(most:Int)(ko:Option Int)(hko:ko=some 5)(S:List Nat)(R:World→Prop)(w:World)(hI:LkIn w B tb A n C cache calls writes k f ps)(hP:ProgS w S)(hdn:f.dn=true)(hcall:Calls prog 71 #[.pointer (some ⟨f.x,0,none⟩),.string lo,.string hi,.int .i64 most] w fun e w'=>∃ l v,e=.returned (.tuple #[l,v])∧qB4 w' v ko∧R w'∧Kp S w w'∧l=.slice none 0 0):
  Calls prog 134 #[.pointer (some ⟨B,0,none⟩),.pointer (some ⟨tb,0,none⟩),.string lo,.string hi,.int .i64 most] w fun e w'=>e=.returned (.bool true)∧qN1 R S w w':=by
 have hBs:=ζ hI.hB;have hTs:=ζ hI.hT;have hAs:=ζ hI.hA;have HI:=zh hI;have HP:=zh hP;have hB:=hI.hB;have hT:=hI.hT;have hkA:=hI.kA;have HCALL:=zh hcall;have b0:=ξ hB 0;simp only[kob,zG,zH,zI] at b0;have t0:=ξ hT 0;simp only[tob,zG,zH,zI] at t0;rw[hkA] at b0;clear hI hP hB hT hkA hcall;go_enter func134,ntmps134;go_wp2_with fail;refine (qG5 A n C cache calls writes w HI.out.hA).mono ?_;rintro e w0 ⟨rfl,rfl⟩;go_wp2_with fail;refine (show Calls _ _ _ _ _ from HCALL.out).mono ?_;rintro e w1 ⟨l,v,rfl,hv,hR,hK1,hl0⟩;have hsz01:=hK1.size;obtain⟨lb,ln,lc,hlv⟩:=(show ∃ a b c,l=.slice a b c from⟨_,_,_,hl0⟩);subst hlv;have hB1:=HP.out.stay hK1 HI.out.hB (by decide);have hT1:=HP.out.stay hK1 HI.out.hT (by decide);have hsp1:=HI.out.sp.keep hK1 (HP.out.apt (by decide));have hg1:=HP.out.g0 hK1 HI.out.g0 (by omega);have HR:Hid (R w1∧Kp S w0 w1):=⟨hR,hK1⟩;clear b0 t0 hR;go_wp2_with fail;refine (qH9 v ko w1 hg1 hv).mono ?_;rintro e w2 ⟨rfl,hK2⟩;have hB2:=hK2.hp hB1;have hT2:=hK2.hp hT1;have hsp2:=hsp1.keep0 hK2;have hT2s:=ζ hT2;have hB2s:=ζ hB2;have t1:=ξ hT2 1;simp only[tob,zG,zH,zI] at t1;obtain⟨vb,vl,vc,hvv⟩:=hsp2.slc;rw[hvv] at t1;have hsp2':SPR w2 (.slice vb vl vc) ps:=by rw[←hvv];exact hsp2
 clear hvv hsp2
 go_wp2_with (go_at_call 127;refine (qF3 _ _).mono ?_;rintro e w2 ⟨rfl,rfl⟩)
 refine (zN1 (.slice vb vl vc) ps lo hi most _ hsp2' (by have:=HI.out.sz;omega)).mono ?_;rintro e w3 ⟨v3,rfl,hsp3,hK3⟩;have hB3:=hK3.hp hB2;have hT3:=hK3.hp hT2;have hB3s:=ζ hB3;have hT3s:=ζ hT3;have b10:=ξ hB3 10;simp only[kob,zG,zH,zI] at b10;have t3:=ξ hT3 3;simp only[tob,zG,zH,zI] at t3;rw[HI.out.po] at b10;have HK3:Hid (Kp [] w1 w3):=hK2.tr hK3;clear t1 hB1 hT1 hsp1 hg1 hK1 hK2 hK3 hB2 hT2 hsp2' hv hB3 hT3;rw[hdn] at t3;go_wp2;go_ret;exact⟨by simp,w1,HR.out.1,HR.out.2,HK3.out⟩
theorem xR7(B tb A n C:Nat)(cache:Value)(calls writes:Int)(k:KF)(f:TF)(ps:List KV)(base:Nat)(hs:List HEnt)(lo hi:ByteArray)(most:Int)(ko:Option Int)(hko:ko=none)(S:List Nat)(R:World→Prop)(w:World)(hI:LkIn w B tb A n C cache calls writes k f ps)(hP:ProgS w S)(hdn:f.dn=false)(hH:Held w base k hs)(hhs:hs.length≤90000)(hb:base≤w.heap.size)(hcall:Calls prog 71 #[.pointer (some ⟨f.x,0,none⟩),.string lo,.string hi,.int .i64 most] w fun e w'=>∃ l v,e=.returned (.tuple #[l,v])∧qB4 w' v ko∧R w'∧Kp S w w'∧OPA w' w.heap.size l (qC6 ps lo hi most)):
  Calls prog 134 #[.pointer (some ⟨B,0,none⟩),.pointer (some ⟨tb,0,none⟩),.string lo,.string hi,.int .i64 most] w fun e w'=>e=.returned (.bool true)∧zR0 k B base (qC6 ps lo hi most).length hs S R w w':=by
 have HH:Hid (Held w base k hs∧hs.length≤90000∧base≤w.heap.size):=⟨hH,hhs,hb⟩;clear hH hhs hb;have hBs:=ζ hI.hB;have hTs:=ζ hI.hT;have hAs:=ζ hI.hA;have HI:=zh hI;have HP:=zh hP;have hB:=hI.hB;have hT:=hI.hT;have hkA:=hI.kA;have HCALL:=zh hcall;have b0:=ξ hB 0;simp only[kob,zG,zH,zI] at b0;have t0:=ξ hT 0;simp only[tob,zG,zH,zI] at t0;rw[hkA] at b0;clear hI hP hB hT hkA hcall;go_enter func134,ntmps134;go_wp2_with fail;refine (qG5 A n C cache calls writes w HI.out.hA).mono ?_;rintro e w0 ⟨rfl,rfl⟩;go_wp2_with fail;refine (show Calls _ _ _ _ _ from HCALL.out).mono ?_;rintro e w1 ⟨l,v,rfl,hv,hR,hK1,hl0⟩;have hsz01:=hK1.size;obtain⟨lb,ln,lc,hlv⟩:=(show ∃ a b c,l=.slice a b c from by obtain⟨a,c,e⟩:=hl0.form;exact⟨a,_,c,e⟩);subst hlv;have hB1:=HP.out.stay hK1 HI.out.hB (by decide);have hT1:=HP.out.stay hK1 HI.out.hT (by decide);have hsp1:=HI.out.sp.keep hK1 (HP.out.apt (by decide));have hg1:=HP.out.g0 hK1 HI.out.g0 (by omega);have HR:Hid (R w1∧Kp S w0 w1):=⟨hR,hK1⟩;clear b0 t0 hR;go_wp2_with fail;refine (qH9 v ko w1 hg1 hv).mono ?_;rintro e w2 ⟨rfl,hK2⟩;have hB2:=hK2.hp hB1;have hT2:=hK2.hp hT1;have hsp2:=hsp1.keep0 hK2;have hT2s:=ζ hT2;have hB2s:=ζ hB2;have t1:=ξ hT2 1;simp only[tob,zG,zH,zI] at t1;obtain⟨vb,vl,vc,hvv⟩:=hsp2.slc;rw[hvv] at t1;have hsp2':SPR w2 (.slice vb vl vc) ps:=by rw[←hvv];exact hsp2
 clear hvv hsp2
 go_wp2_with (go_at_call 127;refine (qF3 _ _).mono ?_;rintro e w2 ⟨rfl,rfl⟩)
 refine (zN1 (.slice vb vl vc) ps lo hi most _ hsp2' (by have:=HI.out.sz;omega)).mono ?_;rintro e w3 ⟨v3,rfl,hsp3,hK3⟩;have hB3:=hK3.hp hB2;have hT3:=hK3.hp hT2;have hB3s:=ζ hB3;have hT3s:=ζ hT3;have b10:=ξ hB3 10;simp only[kob,zG,zH,zI] at b10;have t3:=ξ hT3 3;simp only[tob,zG,zH,zI] at t3;rw[HI.out.po] at b10;have HK3:Hid (Kp [] w1 w3):=hK2.tr hK3;clear t1 hB1 hT1 hsp1 hg1 hK1 hK2 hK3 hB2 hT2 hsp2' hv hB3 hT3;rw[hdn] at t3;have hle:=zO0 ps lo hi most;have hsz:=HI.out.sz;generalize hqs:qC6 ps lo hi most=qs at *;have HQS:=zh hqs;clear hqs;have hl3:OPA w3 w0.heap.size (.slice lb ln lc) qs:=qF0 hl0 HK3.out (fun _ _ _ _ _ h=>by cases h);have HL3:=zh hl3;clear hl0;go_wp2_with fail;refine (xO2 (.slice lb ln lc) qs w3 hl3.sp (by omega)).mono ?_;rintro e w4 ⟨v4,rfl,hO4,hK4⟩;have hsp4:=hsp3.keep0 hK4;clear hl3;go_wp2_with fail;refine (xQ3 v4 v3 qs qs w4 hO4.sp hsp4 (by omega) (by omega)).mono ?_;rintro e w5 ⟨rfl,hK5⟩;have hK15:Kp [] w1 w5:=(HK3.out.tr hK4).tr hK5;have hK05:Kp S w0 w5:=HR.out.2.tr hK15;have hl5:OPA w5 w0.heap.size (.slice lb ln lc) qs:=qF0 (qF0 HL3.out hK4 (fun _ _ _ _ _ h=>by cases h)) hK5 (fun _ _ _ _ _ h=>by cases h);have hdq:decide (qs=qs)=true:=by simp
 rw[hdq];have HQ:Hid (Kp [] w1 w5∧∀ i,Value.ownBlock (.slice lb ln lc)=some i→w0.heap.size≤i):=⟨hK15,hl5.low⟩;clear hsp3 hsp4 hO4 hK4 hK5 hK15 hdq;go_wp2_with fail;refine (xJ5 B base k hs (.slice lb ln lc) qs S w0 w5 HI.out.hB HH.out.1 HP.out hK05 hl5 (by omega) HH.out.2.1 HH.out.2.2).mono ?_;rintro e w6 ⟨rfl,hD⟩;have HD:=zh hD;clear hD hl5 hK05;go_wp2;go_ret;exact⟨rfl,w1,w5,.slice lb ln lc,HR.out.1,HR.out.2,HQ.out.1,HQ.out.2,by rw[HQS.out];exact HD.out⟩
end Go.Proofs.YtdohpenfkdckiaaGreatDoor
