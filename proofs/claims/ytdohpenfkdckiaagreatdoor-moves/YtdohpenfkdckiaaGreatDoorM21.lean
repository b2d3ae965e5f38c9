import Derived.Test.YtdohpenfkdckiaaGreatDoorM20
set_option linter.all false
set_option maxRecDepth 100000
set_option maxHeartbeats 20000000
namespace Go.Proofs.YtdohpenfkdckiaaGreatDoor
open Go.Proofs.Tryz
open Go.RowKit
def qN6(R:World→Prop)(S:List Nat)(w w':World):Prop:=∃ W w1 N,Kp [] w W∧R w1∧Kp S W w1∧w.heap.size≤N∧Kp [N] w1 w'
theorem xS1(B tb cb Cb A n C:Nat)(cache:Value)(calls writes:Int)(k:KF)(f:TF)(ps:List KV)(ckey:ByteArray)(con:Bool)(cstp:Int)(key:ByteArray)(S:List Nat)(R:World→Prop)(w:World)(hI:LkIn w B tb A n C cache calls writes k f ps)(hP:ProgS w S)(hlt:∀ k∈S,k<w.heap.size)(hC:w.heap[cb]?=some (ι Cb ckey con cstp))(hdn:f.dn=true)
  (hcall:∀ W,Kp [] w W→Calls prog 22 #[.pointer (some ⟨Cb,0,none⟩)] W fun e w'=>∃ v,e=.returned (.tuple #[.agg #[.string ⟨#[]⟩,.string ⟨#[]⟩],.bool false,v])∧ErrV w' v (some 5)∧R w'∧Kp S W w'):
  Calls prog 137 #[.pointer (some ⟨B,0,none⟩),.pointer (some ⟨tb,0,none⟩),.pointer (some ⟨cb,0,none⟩),.int .i64 0,.string key] w fun e w'=>e=.returned (.bool true)∧qN6 R S w w':=by
 have HDN:=zh hdn;clear hdn;have HLT:=zh hlt;clear hlt;have hBs:=ζ hI.hB;have hTs:=ζ hI.hT;have hAs:=ζ hI.hA;have hCs:=ζ hC;have HI:=zh hI;have HP:=zh hP;have HC:=zh hC;have hB:=hI.hB;have hT:=hI.hT;have hkA:=hI.kA;obtain⟨vb,vc,hvv⟩:=hI.sp.form;obtain⟨m,hm⟩:∃ m,ps.length=m:=⟨_,rfl⟩;rw[hm] at hvv;have HM:=zh hm;have HVV:=zh hvv;have b0:=ξ hB 0;simp only[kob,zG,zH,zI] at b0;rw[hkA] at b0;have HCALL:=hcall;clear hI hP hC hB hT hkA hcall hvv hm;go_enter func137,ntmps137;go_wp2_with fail;refine (qE6 A n C cache calls writes w HI.out.hA).mono ?_;rintro e w0 ⟨rfl,rfl⟩;have hT0:=η (.cells #[.string ⟨#[]⟩,.string ⟨#[]⟩] 42) HI.out.hT;have t1:=ξ hT0 1;simp only[tob,zG,zH,zI] at t1;rw[HVV.out] at t1;clear b0;go_wp2_with fail;clear t1 hT0;obtain⟨wa,hwa,hPa,hKa,hsa⟩:=qH9 w0 (.cells #[.string ⟨#[]⟩,.string ⟨#[]⟩] 42);rw[←hwa];clear hwa;have hTa:=hKa.hp HI.out.hT;have hCa:=hKa.hp HC.out;have hSd:wa.drew.heap[tb]?=some (tob f)∧wa.drew.heap[cb]?=some (ι Cb ckey con cstp):=⟨hTa,hCa⟩;refine wp_region_held_drew (S:=fun W=>W.heap[tb]?=some (tob f)∧W.heap[cb]?=some (ι Cb ckey con cstp)) (by kernel_rfl) hSd (fun _=>?_);refine zP 0 tb 0 hSd ?_;refine zP 1 tb 0 hSd ?_;refine zP 2 tb 1 hSd ?_;refine zP 3 tb 1 hSd ?_;refine zV 4 (.agg #[.slice vb m vc]) rfl (fun W hS=>by have c:=ξ hS.1 1;simp only[tob,zG,zH,zI] at c;rw[HVV.out] at c;clear hS;go_simp) hSd ?_;refine zP 5 cb 0 hSd ?_;refine zP 6 cb 0 hSd ?_;refine zP 7 cb 1 hSd ?_;refine zP 8 cb 1 hSd ?_;refine zV 9 (.string ckey) rfl (fun W hS=>by have c:=ξ hS.2 1;simp only[ι,zG,zH,zI] at c;clear hS;go_simp) hSd ?_;refine zq 10 fun K hK=>?_;go_simp;have hspd:SPR wa.drew (.slice vb m vc) ps:=by rw[←HVV.out];exact HI.out.sp.keep0 (hKa.drew)
 refine (qI5 (.slice vb m vc) ps ckey wa.drew hspd (by have:=HI.out.sz;omega)).mono ?_;rintro e w2 ⟨rfl,hK2⟩;have hKw2:Kp [] w0 w2:=(hKa.drew).tr hK2;have hPw2:w2.heap[w0.heap.size]?=some (.cells #[.string ⟨#[]⟩,.string ⟨#[]⟩] 42):=hK2.heap (w:=wa.drew) hPa (by simp);have hT2:=hKw2.hp HI.out.hT;have hC2:=hKw2.hp HC.out;have hS2:w2.heap[tb]?=some (tob f)∧w2.heap[cb]?=some (ι Cb ckey con cstp):=⟨hT2,hC2⟩;refine hK.out _ _ hS2 (fun _=>?_);clear hK K hSd hspd
 try simp only[zZ]
 refine zU 11 (.int .i64 (qA0 ps ckey:Nat)) hS2 ?_;refine zd ?_;have HK2:=zh hKw2;have HP2:=zh hPw2;have hC2s:=ζ hC2;have hT2s:=ζ hT2;have c0:=ξ hC2 0;simp only[ι,zG,zH,zI] at c0;clear hS2 hK2 hKw2 hPw2 hTa hCa hKa hPa hT2 hC2;go_wp2_with fail;refine (HCALL w2 HK2.out).mono ?_;rintro e w3 ⟨v,rfl,hv,hR,hK3⟩;have hP2s:=ζ HP2.out;have hQ:=HP.out.more HK2.out HLT.out;have hT3:=hQ.stay hK3 (HK2.out.hp HI.out.hT) (by decide);have hB3:=hQ.stay hK3 (HK2.out.hp HI.out.hB) (by decide);have hC3:=hQ.stay hK3 (HK2.out.hp HC.out) (by decide);have hP3:=hQ.stay hK3 HP2.out (by decide);have hsp3:=(HI.out.sp.keep0 HK2.out).keep hK3 (hQ.apt (by decide));have hg3:=hQ.g0 hK3 ((HK2.out.cell (a:=⟨0,0,none⟩) (by show 0<w0.heap.size;omega) (by simp)).trans HI.out.g0) (by omega);have HR:Hid (R w3∧Kp S w2 w3):=⟨hR,hK3⟩;have hP3s:=ζ hP3;have z0:=ξ hP3;have fz0:=ρ hP3;have HP3:=zh hP3;have HV:=zh hv;clear hR hK3 hP3 c0 hQ hv;go_wp2_with fail;have hts:=qB2 (.string ⟨#[]⟩) (.string ⟨#[]⟩) HP3.out;obtain⟨w4,hw4,hP4,hK4⟩:∃ w4,w4=(w3.setCell ⟨w0.heap.size,0,none⟩ (.string ⟨#[]⟩)).setCell ⟨w0.heap.size,1,none⟩ (.string ⟨#[]⟩)∧w4.heap[w0.heap.size]?=some (.cells #[.string ⟨#[]⟩,.string ⟨#[]⟩] 42)∧Kp [w0.heap.size] w3 w4:=⟨_,rfl,hts.1,hts.2⟩;rw[←hw4];clear hw4 hts z0 fz0;have hT4:=hK4.ho hT3;have hB4:=hK4.ho hB3;have hC4:=hK4.ho hC3;have hsp4:=hsp3.keep hK4 (fun k hk c t fr e=>by rw[List.mem_singleton.1 hk,HP3.out] at e;cases e;decide);have hg4:w4.cell? ⟨0,0,none⟩=some qB5:=(hK4.cell (a:=⟨0,0,none⟩) (by show 0<w3.heap.size;omega) (by simp;omega)).trans hg3;clear hT3 hB3 hC3 hsp3 hg3;refine (qD9 v (some 5) w4 hg4 (HV.out.keep hK4 (fun i hi c fr e=>by rw[List.mem_singleton.1 hi,HP3.out] at e;cases e))).mono ?_;rintro e w5 ⟨rfl,hK5⟩;have hT5:=hK5.hp hT4;have hB5:=hK5.hp hB4;have hC5:=hK5.hp hC4;have hP5:=hK5.hp hP4;have hsp5:=hsp4.keep0 hK5;have HK35:Hid (Kp [w0.heap.size] w3 w5):=hK4.tr hK5;have hT5s:=ζ hT5;have hB5s:=ζ hB5;have hC5s:=ζ hC5;have hP5s:=ζ hP5;have HC5:=zh hC5;have HT5:=zh hT5;have b10:=ξ hB5 10;simp only[kob,zG,zH,zI] at b10;rw[HI.out.po] at b10;have t1:=ξ hT5 1;have t3:=ξ hT5 3;have t7:=ξ hT5 7;simp only[tob,zG,zH,zI] at t1 t3 t7;rw[HVV.out] at t1;rw[HDN.out] at t3;have z0:=ξ hP5;have c1:=ξ hC5;simp only[ι,zG,zH,zI] at c1;have fc1:=ρ hC5
 skip
 have HSP5:Hid (SPR w5 (.slice vb m vc) ps):=by rw[←HVV.out];exact hsp5
 clear hT4 hB4 hC4 hsp4 hg4 hP4 hK4 hT5 hB5 hC5 hP5 hsp5 hK5
 cases con with
 | false=>
  go_wp2_with (go_at_call 127;refine (qC3 _ _).mono ?_;rintro e w5 ⟨rfl,rfl⟩)
  go_quiet (fail)
  go_wp2;go_ret;exact⟨rfl,w2,w3,w0.heap.size,HK2.out,HR.out.1,HR.out.2,Nat.le_refl _,HK35.out.drewN _⟩
 | true=>
  go_wp2_with (go_at_call 127;refine (qC3 _ _).mono ?_;rintro e w5 ⟨rfl,rfl⟩)
  go_quiet (fail)
  go_wp2;go_ret;exact⟨rfl,w2,w3,w0.heap.size,HK2.out,HR.out.1,HR.out.2,Nat.le_refl _,HK35.out.drewN _⟩
theorem xS3(B tb cb Cb A n C:Nat)(cache:Value)(calls writes:Int)(k:KF)(f:TF)(ps:List KV)(ckey:ByteArray)(con:Bool)(cstp:Int)(key:ByteArray)(S:List Nat)(R:World→Prop)(w:World)(hI:LkIn w B tb A n C cache calls writes k f ps)(hP:ProgS w S)(hlt:∀ k∈S,k<w.heap.size)(hC:w.heap[cb]?=some (ι Cb ckey con cstp))(hdn:f.dn=true)
  (hcall:∀ W,Kp [] w W→Calls prog 25 #[.pointer (some ⟨Cb,0,none⟩)] W fun e w'=>∃ v,e=.returned (.tuple #[.agg #[.string ⟨#[]⟩,.string ⟨#[]⟩],.bool false,v])∧ErrV w' v (some 5)∧R w'∧Kp S W w'):
  Calls prog 137 #[.pointer (some ⟨B,0,none⟩),.pointer (some ⟨tb,0,none⟩),.pointer (some ⟨cb,0,none⟩),.int .i64 1,.string key] w fun e w'=>e=.returned (.bool true)∧qN6 R S w w':=by
 have HDN:=zh hdn;clear hdn;have HLT:=zh hlt;clear hlt;have hBs:=ζ hI.hB;have hTs:=ζ hI.hT;have hAs:=ζ hI.hA;have hCs:=ζ hC;have HI:=zh hI;have HP:=zh hP;have HC:=zh hC;have hB:=hI.hB;have hT:=hI.hT;have hkA:=hI.kA;obtain⟨vb,vc,hvv⟩:=hI.sp.form;obtain⟨m,hm⟩:∃ m,ps.length=m:=⟨_,rfl⟩;rw[hm] at hvv;have HM:=zh hm;have HVV:=zh hvv;have b0:=ξ hB 0;simp only[kob,zG,zH,zI] at b0;rw[hkA] at b0;have HCALL:=hcall;clear hI hP hC hB hT hkA hcall hvv hm;go_enter func137,ntmps137;go_wp2_with fail;refine (qE6 A n C cache calls writes w HI.out.hA).mono ?_;rintro e w0 ⟨rfl,rfl⟩;have hT0:=η (.cells #[.string ⟨#[]⟩,.string ⟨#[]⟩] 42) HI.out.hT;have t1:=ξ hT0 1;simp only[tob,zG,zH,zI] at t1;rw[HVV.out] at t1;clear b0;go_wp2_with fail;clear t1 hT0;obtain⟨wa,hwa,hPa,hKa,hsa⟩:=qH9 w0 (.cells #[.string ⟨#[]⟩,.string ⟨#[]⟩] 42);rw[←hwa];clear hwa;have hTa:=hKa.hp HI.out.hT;have hCa:=hKa.hp HC.out;have hSd:wa.drew.heap[tb]?=some (tob f)∧wa.drew.heap[cb]?=some (ι Cb ckey con cstp):=⟨hTa,hCa⟩;refine wp_region_held_drew (S:=fun W=>W.heap[tb]?=some (tob f)∧W.heap[cb]?=some (ι Cb ckey con cstp)) (by kernel_rfl) hSd (fun _=>?_);refine zP 0 tb 0 hSd ?_;refine zP 1 tb 0 hSd ?_;refine zP 2 tb 1 hSd ?_;refine zP 3 tb 1 hSd ?_;refine zV 4 (.agg #[.slice vb m vc]) rfl (fun W hS=>by have c:=ξ hS.1 1;simp only[tob,zG,zH,zI] at c;rw[HVV.out] at c;clear hS;go_simp) hSd ?_;refine zP 5 cb 0 hSd ?_;refine zP 6 cb 0 hSd ?_;refine zP 7 cb 1 hSd ?_;refine zP 8 cb 1 hSd ?_;refine zV 9 (.string ckey) rfl (fun W hS=>by have c:=ξ hS.2 1;simp only[ι,zG,zH,zI] at c;clear hS;go_simp) hSd ?_;refine zq 10 fun K hK=>?_;go_simp;have hspd:SPR wa.drew (.slice vb m vc) ps:=by rw[←HVV.out];exact HI.out.sp.keep0 (hKa.drew)
 refine (qI5 (.slice vb m vc) ps ckey wa.drew hspd (by have:=HI.out.sz;omega)).mono ?_;rintro e w2 ⟨rfl,hK2⟩;have hKw2:Kp [] w0 w2:=(hKa.drew).tr hK2;have hPw2:w2.heap[w0.heap.size]?=some (.cells #[.string ⟨#[]⟩,.string ⟨#[]⟩] 42):=hK2.heap (w:=wa.drew) hPa (by simp);have hT2:=hKw2.hp HI.out.hT;have hC2:=hKw2.hp HC.out;have hS2:w2.heap[tb]?=some (tob f)∧w2.heap[cb]?=some (ι Cb ckey con cstp):=⟨hT2,hC2⟩;refine hK.out _ _ hS2 (fun _=>?_);clear hK K hSd hspd
 try simp only[zZ]
 refine zU 11 (.int .i64 (qA0 ps ckey:Nat)) hS2 ?_;refine zd ?_;have HK2:=zh hKw2;have HP2:=zh hPw2;have hC2s:=ζ hC2;have hT2s:=ζ hT2;have c0:=ξ hC2 0;simp only[ι,zG,zH,zI] at c0;clear hS2 hK2 hKw2 hPw2 hTa hCa hKa hPa hT2 hC2;go_wp2_with fail;refine (HCALL w2 HK2.out).mono ?_;rintro e w3 ⟨v,rfl,hv,hR,hK3⟩;have hP2s:=ζ HP2.out;have hQ:=HP.out.more HK2.out HLT.out;have hT3:=hQ.stay hK3 (HK2.out.hp HI.out.hT) (by decide);have hB3:=hQ.stay hK3 (HK2.out.hp HI.out.hB) (by decide);have hC3:=hQ.stay hK3 (HK2.out.hp HC.out) (by decide);have hP3:=hQ.stay hK3 HP2.out (by decide);have hsp3:=(HI.out.sp.keep0 HK2.out).keep hK3 (hQ.apt (by decide));have hg3:=hQ.g0 hK3 ((HK2.out.cell (a:=⟨0,0,none⟩) (by show 0<w0.heap.size;omega) (by simp)).trans HI.out.g0) (by omega);have HR:Hid (R w3∧Kp S w2 w3):=⟨hR,hK3⟩;have hP3s:=ζ hP3;have z0:=ξ hP3;have fz0:=ρ hP3;have HP3:=zh hP3;have HV:=zh hv;clear hR hK3 hP3 c0 hQ hv;go_wp2_with fail;have hts:=qB2 (.string ⟨#[]⟩) (.string ⟨#[]⟩) HP3.out;obtain⟨w4,hw4,hP4,hK4⟩:∃ w4,w4=(w3.setCell ⟨w0.heap.size,0,none⟩ (.string ⟨#[]⟩)).setCell ⟨w0.heap.size,1,none⟩ (.string ⟨#[]⟩)∧w4.heap[w0.heap.size]?=some (.cells #[.string ⟨#[]⟩,.string ⟨#[]⟩] 42)∧Kp [w0.heap.size] w3 w4:=⟨_,rfl,hts.1,hts.2⟩;rw[←hw4];clear hw4 hts z0 fz0;have hT4:=hK4.ho hT3;have hB4:=hK4.ho hB3;have hC4:=hK4.ho hC3;have hsp4:=hsp3.keep hK4 (fun k hk c t fr e=>by rw[List.mem_singleton.1 hk,HP3.out] at e;cases e;decide);have hg4:w4.cell? ⟨0,0,none⟩=some qB5:=(hK4.cell (a:=⟨0,0,none⟩) (by show 0<w3.heap.size;omega) (by simp;omega)).trans hg3;clear hT3 hB3 hC3 hsp3 hg3;refine (qD9 v (some 5) w4 hg4 (HV.out.keep hK4 (fun i hi c fr e=>by rw[List.mem_singleton.1 hi,HP3.out] at e;cases e))).mono ?_;rintro e w5 ⟨rfl,hK5⟩;have hT5:=hK5.hp hT4;have hB5:=hK5.hp hB4;have hC5:=hK5.hp hC4;have hP5:=hK5.hp hP4;have hsp5:=hsp4.keep0 hK5;have HK35:Hid (Kp [w0.heap.size] w3 w5):=hK4.tr hK5;have hT5s:=ζ hT5;have hB5s:=ζ hB5;have hC5s:=ζ hC5;have hP5s:=ζ hP5;have HC5:=zh hC5;have HT5:=zh hT5;have b10:=ξ hB5 10;simp only[kob,zG,zH,zI] at b10;rw[HI.out.po] at b10;have t1:=ξ hT5 1;have t3:=ξ hT5 3;have t7:=ξ hT5 7;simp only[tob,zG,zH,zI] at t1 t3 t7;rw[HVV.out] at t1;rw[HDN.out] at t3;have z0:=ξ hP5;have c1:=ξ hC5;simp only[ι,zG,zH,zI] at c1;have fc1:=ρ hC5
 skip
 have HSP5:Hid (SPR w5 (.slice vb m vc) ps):=by rw[←HVV.out];exact hsp5
 clear hT4 hB4 hC4 hsp4 hg4 hP4 hK4 hT5 hB5 hC5 hP5 hsp5 hK5
 cases con with
 | false=>
  go_wp2_with (go_at_call 127;refine (qC3 _ _).mono ?_;rintro e w5 ⟨rfl,rfl⟩)
  go_quiet (fail)
  go_wp2;go_ret;exact⟨rfl,w2,w3,w0.heap.size,HK2.out,HR.out.1,HR.out.2,Nat.le_refl _,HK35.out.drewN _⟩
 | true=>
  go_wp2_with (go_at_call 127;refine (qC3 _ _).mono ?_;rintro e w5 ⟨rfl,rfl⟩)
  go_quiet (fail)
  go_wp2;go_ret;exact⟨rfl,w2,w3,w0.heap.size,HK2.out,HR.out.1,HR.out.2,Nat.le_refl _,HK35.out.drewN _⟩
theorem xS6(B tb cb Cb A n C:Nat)(cache:Value)(calls writes:Int)(k:KF)(f:TF)(ps:List KV)(ckey:ByteArray)(con:Bool)(cstp:Int)(key:ByteArray)(S:List Nat)(R:World→Prop)(w:World)(hI:LkIn w B tb A n C cache calls writes k f ps)(hP:ProgS w S)(hlt:∀ k∈S,k<w.heap.size)(hC:w.heap[cb]?=some (ι Cb ckey con cstp))(hdn:f.dn=true)
  (hcall:∀ W,Kp [] w W→Calls prog 23 #[.pointer (some ⟨Cb,0,none⟩)] W fun e w'=>∃ v,e=.returned (.tuple #[.agg #[.string ⟨#[]⟩,.string ⟨#[]⟩],.bool false,v])∧ErrV w' v (some 5)∧R w'∧Kp S W w'):
  Calls prog 137 #[.pointer (some ⟨B,0,none⟩),.pointer (some ⟨tb,0,none⟩),.pointer (some ⟨cb,0,none⟩),.int .i64 3,.string key] w fun e w'=>e=.returned (.bool true)∧qN6 R S w w':=by
 have HDN:=zh hdn;clear hdn;have HLT:=zh hlt;clear hlt;have hBs:=ζ hI.hB;have hTs:=ζ hI.hT;have hAs:=ζ hI.hA;have hCs:=ζ hC;have HI:=zh hI;have HP:=zh hP;have HC:=zh hC;have hB:=hI.hB;have hT:=hI.hT;have hkA:=hI.kA;obtain⟨vb,vc,hvv⟩:=hI.sp.form;obtain⟨m,hm⟩:∃ m,ps.length=m:=⟨_,rfl⟩;rw[hm] at hvv;have HM:=zh hm;have HVV:=zh hvv;have b0:=ξ hB 0;simp only[kob,zG,zH,zI] at b0;rw[hkA] at b0;have HCALL:=hcall;clear hI hP hC hB hT hkA hcall hvv hm;go_enter func137,ntmps137;go_wp2_with fail;refine (qE6 A n C cache calls writes w HI.out.hA).mono ?_;rintro e w0 ⟨rfl,rfl⟩;have hT0:=η (.cells #[.string ⟨#[]⟩,.string ⟨#[]⟩] 42) HI.out.hT;have t1:=ξ hT0 1;simp only[tob,zG,zH,zI] at t1;rw[HVV.out] at t1;clear b0;go_wp2_with fail;clear t1 hT0;obtain⟨wa,hwa,hPa,hKa,hsa⟩:=qH9 w0 (.cells #[.string ⟨#[]⟩,.string ⟨#[]⟩] 42);rw[←hwa];clear hwa;have hTa:=hKa.hp HI.out.hT;have hCa:=hKa.hp HC.out;have hSd:wa.drew.heap[tb]?=some (tob f)∧wa.drew.heap[cb]?=some (ι Cb ckey con cstp):=⟨hTa,hCa⟩;refine wp_region_held_drew (S:=fun W=>W.heap[tb]?=some (tob f)∧W.heap[cb]?=some (ι Cb ckey con cstp)) (by kernel_rfl) hSd (fun _=>?_);refine zP 0 tb 0 hSd ?_;refine zP 1 tb 0 hSd ?_;refine zP 2 tb 1 hSd ?_;refine zP 3 tb 1 hSd ?_;refine zV 4 (.agg #[.slice vb m vc]) rfl (fun W hS=>by have c:=ξ hS.1 1;simp only[tob,zG,zH,zI] at c;rw[HVV.out] at c;clear hS;go_simp) hSd ?_;refine zP 5 cb 0 hSd ?_;refine zP 6 cb 0 hSd ?_;refine zP 7 cb 1 hSd ?_;refine zP 8 cb 1 hSd ?_;refine zV 9 (.string ckey) rfl (fun W hS=>by have c:=ξ hS.2 1;simp only[ι,zG,zH,zI] at c;clear hS;go_simp) hSd ?_;refine zq 10 fun K hK=>?_;go_simp;have hspd:SPR wa.drew (.slice vb m vc) ps:=by rw[←HVV.out];exact HI.out.sp.keep0 (hKa.drew)
 refine (qI5 (.slice vb m vc) ps ckey wa.drew hspd (by have:=HI.out.sz;omega)).mono ?_;rintro e w2 ⟨rfl,hK2⟩;have hKw2:Kp [] w0 w2:=(hKa.drew).tr hK2;have hPw2:w2.heap[w0.heap.size]?=some (.cells #[.string ⟨#[]⟩,.string ⟨#[]⟩] 42):=hK2.heap (w:=wa.drew) hPa (by simp);have hT2:=hKw2.hp HI.out.hT;have hC2:=hKw2.hp HC.out;have hS2:w2.heap[tb]?=some (tob f)∧w2.heap[cb]?=some (ι Cb ckey con cstp):=⟨hT2,hC2⟩;refine hK.out _ _ hS2 (fun _=>?_);clear hK K hSd hspd
 try simp only[zZ]
 refine zU 11 (.int .i64 (qA0 ps ckey:Nat)) hS2 ?_;refine zd ?_;have HK2:=zh hKw2;have HP2:=zh hPw2;have hC2s:=ζ hC2;have hT2s:=ζ hT2;have c0:=ξ hC2 0;simp only[ι,zG,zH,zI] at c0;clear hS2 hK2 hKw2 hPw2 hTa hCa hKa hPa hT2 hC2;go_wp2_with fail;refine (HCALL w2 HK2.out).mono ?_;rintro e w3 ⟨v,rfl,hv,hR,hK3⟩;have hP2s:=ζ HP2.out;have hQ:=HP.out.more HK2.out HLT.out;have hT3:=hQ.stay hK3 (HK2.out.hp HI.out.hT) (by decide);have hB3:=hQ.stay hK3 (HK2.out.hp HI.out.hB) (by decide);have hC3:=hQ.stay hK3 (HK2.out.hp HC.out) (by decide);have hP3:=hQ.stay hK3 HP2.out (by decide);have hsp3:=(HI.out.sp.keep0 HK2.out).keep hK3 (hQ.apt (by decide));have hg3:=hQ.g0 hK3 ((HK2.out.cell (a:=⟨0,0,none⟩) (by show 0<w0.heap.size;omega) (by simp)).trans HI.out.g0) (by omega);have HR:Hid (R w3∧Kp S w2 w3):=⟨hR,hK3⟩;have hP3s:=ζ hP3;have z0:=ξ hP3;have fz0:=ρ hP3;have HP3:=zh hP3;have HV:=zh hv;clear hR hK3 hP3 c0 hQ hv;go_wp2_with fail;have hts:=qB2 (.string ⟨#[]⟩) (.string ⟨#[]⟩) HP3.out;obtain⟨w4,hw4,hP4,hK4⟩:∃ w4,w4=(w3.setCell ⟨w0.heap.size,0,none⟩ (.string ⟨#[]⟩)).setCell ⟨w0.heap.size,1,none⟩ (.string ⟨#[]⟩)∧w4.heap[w0.heap.size]?=some (.cells #[.string ⟨#[]⟩,.string ⟨#[]⟩] 42)∧Kp [w0.heap.size] w3 w4:=⟨_,rfl,hts.1,hts.2⟩;rw[←hw4];clear hw4 hts z0 fz0;have hT4:=hK4.ho hT3;have hB4:=hK4.ho hB3;have hC4:=hK4.ho hC3;have hsp4:=hsp3.keep hK4 (fun k hk c t fr e=>by rw[List.mem_singleton.1 hk,HP3.out] at e;cases e;decide);have hg4:w4.cell? ⟨0,0,none⟩=some qB5:=(hK4.cell (a:=⟨0,0,none⟩) (by show 0<w3.heap.size;omega) (by simp;omega)).trans hg3;clear hT3 hB3 hC3 hsp3 hg3;refine (qD9 v (some 5) w4 hg4 (HV.out.keep hK4 (fun i hi c fr e=>by rw[List.mem_singleton.1 hi,HP3.out] at e;cases e))).mono ?_;rintro e w5 ⟨rfl,hK5⟩;have hT5:=hK5.hp hT4;have hB5:=hK5.hp hB4;have hC5:=hK5.hp hC4;have hP5:=hK5.hp hP4;have hsp5:=hsp4.keep0 hK5;have HK35:Hid (Kp [w0.heap.size] w3 w5):=hK4.tr hK5;have hT5s:=ζ hT5;have hB5s:=ζ hB5;have hC5s:=ζ hC5;have hP5s:=ζ hP5;have HC5:=zh hC5;have HT5:=zh hT5;have b10:=ξ hB5 10;simp only[kob,zG,zH,zI] at b10;rw[HI.out.po] at b10;have t1:=ξ hT5 1;have t3:=ξ hT5 3;have t7:=ξ hT5 7;simp only[tob,zG,zH,zI] at t1 t3 t7;rw[HVV.out] at t1;rw[HDN.out] at t3;have z0:=ξ hP5;have c1:=ξ hC5;simp only[ι,zG,zH,zI] at c1;have fc1:=ρ hC5
 skip
 have HSP5:Hid (SPR w5 (.slice vb m vc) ps):=by rw[←HVV.out];exact hsp5
 clear hT4 hB4 hC4 hsp4 hg4 hP4 hK4 hT5 hB5 hC5 hP5 hsp5 hK5
 cases con with
 | false=>
  go_wp2_with (go_at_call 127;refine (qC3 _ _).mono ?_;rintro e w5 ⟨rfl,rfl⟩)
  go_quiet (fail)
  go_wp2;go_ret;exact⟨rfl,w2,w3,w0.heap.size,HK2.out,HR.out.1,HR.out.2,Nat.le_refl _,HK35.out.drewN _⟩
 | true=>
  go_wp2_with (go_at_call 127;refine (qC3 _ _).mono ?_;rintro e w5 ⟨rfl,rfl⟩)
  go_quiet (fail)
  go_wp2;go_ret;exact⟨rfl,w2,w3,w0.heap.size,HK2.out,HR.out.1,HR.out.2,Nat.le_refl _,HK35.out.drewN _⟩
theorem xS9(B tb cb Cb A n C:Nat)(cache:Value)(calls writes:Int)(k:KF)(f:TF)(ps:List KV)(ckey:ByteArray)(con:Bool)(cstp:Int)(key:ByteArray)(S:List Nat)(R:World→Prop)(w:World)(hI:LkIn w B tb A n C cache calls writes k f ps)(hP:ProgS w S)(hlt:∀ k∈S,k<w.heap.size)(hC:w.heap[cb]?=some (ι Cb ckey con cstp))(hdn:f.dn=true)
  (hcall:∀ W,Kp [] w W→Calls prog 26 #[.pointer (some ⟨Cb,0,none⟩)] W fun e w'=>∃ v,e=.returned (.tuple #[.agg #[.string ⟨#[]⟩,.string ⟨#[]⟩],.bool false,v])∧ErrV w' v (some 5)∧R w'∧Kp S W w'):
  Calls prog 137 #[.pointer (some ⟨B,0,none⟩),.pointer (some ⟨tb,0,none⟩),.pointer (some ⟨cb,0,none⟩),.int .i64 4,.string key] w fun e w'=>e=.returned (.bool true)∧qN6 R S w w':=by
 have HDN:=zh hdn;clear hdn;have HLT:=zh hlt;clear hlt;have hBs:=ζ hI.hB;have hTs:=ζ hI.hT;have hAs:=ζ hI.hA;have hCs:=ζ hC;have HI:=zh hI;have HP:=zh hP;have HC:=zh hC;have hB:=hI.hB;have hT:=hI.hT;have hkA:=hI.kA;obtain⟨vb,vc,hvv⟩:=hI.sp.form;obtain⟨m,hm⟩:∃ m,ps.length=m:=⟨_,rfl⟩;rw[hm] at hvv;have HM:=zh hm;have HVV:=zh hvv;have b0:=ξ hB 0;simp only[kob,zG,zH,zI] at b0;rw[hkA] at b0;have HCALL:=hcall;clear hI hP hC hB hT hkA hcall hvv hm;go_enter func137,ntmps137;go_wp2_with fail;refine (qE6 A n C cache calls writes w HI.out.hA).mono ?_;rintro e w0 ⟨rfl,rfl⟩;have hT0:=η (.cells #[.string ⟨#[]⟩,.string ⟨#[]⟩] 42) HI.out.hT;have t1:=ξ hT0 1;simp only[tob,zG,zH,zI] at t1;rw[HVV.out] at t1;clear b0;go_wp2_with fail;clear t1 hT0;obtain⟨wa,hwa,hPa,hKa,hsa⟩:=qH9 w0 (.cells #[.string ⟨#[]⟩,.string ⟨#[]⟩] 42);rw[←hwa];clear hwa;have hTa:=hKa.hp HI.out.hT;have hCa:=hKa.hp HC.out;have hSd:wa.drew.heap[tb]?=some (tob f)∧wa.drew.heap[cb]?=some (ι Cb ckey con cstp):=⟨hTa,hCa⟩;refine wp_region_held_drew (S:=fun W=>W.heap[tb]?=some (tob f)∧W.heap[cb]?=some (ι Cb ckey con cstp)) (by kernel_rfl) hSd (fun _=>?_);refine zP 0 tb 0 hSd ?_;refine zP 1 tb 0 hSd ?_;refine zP 2 tb 1 hSd ?_;refine zP 3 tb 1 hSd ?_;refine zV 4 (.agg #[.slice vb m vc]) rfl (fun W hS=>by have c:=ξ hS.1 1;simp only[tob,zG,zH,zI] at c;rw[HVV.out] at c;clear hS;go_simp) hSd ?_;refine zP 5 cb 0 hSd ?_;refine zP 6 cb 0 hSd ?_;refine zP 7 cb 1 hSd ?_;refine zP 8 cb 1 hSd ?_;refine zV 9 (.string ckey) rfl (fun W hS=>by have c:=ξ hS.2 1;simp only[ι,zG,zH,zI] at c;clear hS;go_simp) hSd ?_;refine zq 10 fun K hK=>?_;go_simp;have hspd:SPR wa.drew (.slice vb m vc) ps:=by rw[←HVV.out];exact HI.out.sp.keep0 (hKa.drew)
 refine (qI5 (.slice vb m vc) ps ckey wa.drew hspd (by have:=HI.out.sz;omega)).mono ?_;rintro e w2 ⟨rfl,hK2⟩;have hKw2:Kp [] w0 w2:=(hKa.drew).tr hK2;have hPw2:w2.heap[w0.heap.size]?=some (.cells #[.string ⟨#[]⟩,.string ⟨#[]⟩] 42):=hK2.heap (w:=wa.drew) hPa (by simp);have hT2:=hKw2.hp HI.out.hT;have hC2:=hKw2.hp HC.out;have hS2:w2.heap[tb]?=some (tob f)∧w2.heap[cb]?=some (ι Cb ckey con cstp):=⟨hT2,hC2⟩;refine hK.out _ _ hS2 (fun _=>?_);clear hK K hSd hspd
 try simp only[zZ]
 refine zU 11 (.int .i64 (qA0 ps ckey:Nat)) hS2 ?_;refine zd ?_;have HK2:=zh hKw2;have HP2:=zh hPw2;have hC2s:=ζ hC2;have hT2s:=ζ hT2;have c0:=ξ hC2 0;simp only[ι,zG,zH,zI] at c0;clear hS2 hK2 hKw2 hPw2 hTa hCa hKa hPa hT2 hC2;go_wp2_with fail;refine (HCALL w2 HK2.out).mono ?_;rintro e w3 ⟨v,rfl,hv,hR,hK3⟩;have hP2s:=ζ HP2.out;have hQ:=HP.out.more HK2.out HLT.out;have hT3:=hQ.stay hK3 (HK2.out.hp HI.out.hT) (by decide);have hB3:=hQ.stay hK3 (HK2.out.hp HI.out.hB) (by decide);have hC3:=hQ.stay hK3 (HK2.out.hp HC.out) (by decide);have hP3:=hQ.stay hK3 HP2.out (by decide);have hsp3:=(HI.out.sp.keep0 HK2.out).keep hK3 (hQ.apt (by decide));have hg3:=hQ.g0 hK3 ((HK2.out.cell (a:=⟨0,0,none⟩) (by show 0<w0.heap.size;omega) (by simp)).trans HI.out.g0) (by omega);have HR:Hid (R w3∧Kp S w2 w3):=⟨hR,hK3⟩;have hP3s:=ζ hP3;have z0:=ξ hP3;have fz0:=ρ hP3;have HP3:=zh hP3;have HV:=zh hv;clear hR hK3 hP3 c0 hQ hv;go_wp2_with fail;have hts:=qB2 (.string ⟨#[]⟩) (.string ⟨#[]⟩) HP3.out;obtain⟨w4,hw4,hP4,hK4⟩:∃ w4,w4=(w3.setCell ⟨w0.heap.size,0,none⟩ (.string ⟨#[]⟩)).setCell ⟨w0.heap.size,1,none⟩ (.string ⟨#[]⟩)∧w4.heap[w0.heap.size]?=some (.cells #[.string ⟨#[]⟩,.string ⟨#[]⟩] 42)∧Kp [w0.heap.size] w3 w4:=⟨_,rfl,hts.1,hts.2⟩;rw[←hw4];clear hw4 hts z0 fz0;have hT4:=hK4.ho hT3;have hB4:=hK4.ho hB3;have hC4:=hK4.ho hC3;have hsp4:=hsp3.keep hK4 (fun k hk c t fr e=>by rw[List.mem_singleton.1 hk,HP3.out] at e;cases e;decide);have hg4:w4.cell? ⟨0,0,none⟩=some qB5:=(hK4.cell (a:=⟨0,0,none⟩) (by show 0<w3.heap.size;omega) (by simp;omega)).trans hg3;clear hT3 hB3 hC3 hsp3 hg3;refine (qD9 v (some 5) w4 hg4 (HV.out.keep hK4 (fun i hi c fr e=>by rw[List.mem_singleton.1 hi,HP3.out] at e;cases e))).mono ?_;rintro e w5 ⟨rfl,hK5⟩;have hT5:=hK5.hp hT4;have hB5:=hK5.hp hB4;have hC5:=hK5.hp hC4;have hP5:=hK5.hp hP4;have hsp5:=hsp4.keep0 hK5;have HK35:Hid (Kp [w0.heap.size] w3 w5):=hK4.tr hK5;have hT5s:=ζ hT5;have hB5s:=ζ hB5;have hC5s:=ζ hC5;have hP5s:=ζ hP5;have HC5:=zh hC5;have HT5:=zh hT5;have b10:=ξ hB5 10;simp only[kob,zG,zH,zI] at b10;rw[HI.out.po] at b10;have t1:=ξ hT5 1;have t3:=ξ hT5 3;have t7:=ξ hT5 7;simp only[tob,zG,zH,zI] at t1 t3 t7;rw[HVV.out] at t1;rw[HDN.out] at t3;have z0:=ξ hP5;have c1:=ξ hC5;simp only[ι,zG,zH,zI] at c1;have fc1:=ρ hC5
 skip
 have HSP5:Hid (SPR w5 (.slice vb m vc) ps):=by rw[←HVV.out];exact hsp5
 clear hT4 hB4 hC4 hsp4 hg4 hP4 hK4 hT5 hB5 hC5 hP5 hsp5 hK5
 cases con with
 | false=>
  go_wp2_with (go_at_call 127;refine (qC3 _ _).mono ?_;rintro e w5 ⟨rfl,rfl⟩)
  go_quiet (fail)
  go_wp2;go_ret;exact⟨rfl,w2,w3,w0.heap.size,HK2.out,HR.out.1,HR.out.2,Nat.le_refl _,HK35.out.drewN _⟩
 | true=>
  go_wp2_with (go_at_call 127;refine (qC3 _ _).mono ?_;rintro e w5 ⟨rfl,rfl⟩)
  go_quiet (fail)
  go_wp2;go_ret;exact⟨rfl,w2,w3,w0.heap.size,HK2.out,HR.out.1,HR.out.2,Nat.le_refl _,HK35.out.drewN _⟩
theorem xS5(B tb cb Cb A n C:Nat)(cache:Value)(calls writes:Int)(k:KF)(f:TF)(ps:List KV)(ckey:ByteArray)(con:Bool)(cstp:Int)(key:ByteArray)(S:List Nat)(R:World→Prop)(w:World)(hI:LkIn w B tb A n C cache calls writes k f ps)(hP:ProgS w S)(hlt:∀ k∈S,k<w.heap.size)(hC:w.heap[cb]?=some (ι Cb ckey con cstp))(hdn:f.dn=false)(hlost:con=false∨cstp≠f.stp)
  (hcall:∀ W,Kp [] w W→Calls prog 23 #[.pointer (some ⟨Cb,0,none⟩)] W fun e w'=>∃ v,e=.returned (.tuple #[.agg #[.string ⟨#[]⟩,.string ⟨#[]⟩],.bool false,v])∧ErrV w' v (some 11)∧R w'∧Kp S W w'):
  Calls prog 137 #[.pointer (some ⟨B,0,none⟩),.pointer (some ⟨tb,0,none⟩),.pointer (some ⟨cb,0,none⟩),.int .i64 3,.string key] w fun e w'=>e=.returned (.bool true)∧qN6 R S w w':=by
 have HDN:=zh hdn;have HLO:=zh hlost;clear hdn hlost;have HLT:=zh hlt;clear hlt;have hBs:=ζ hI.hB;have hTs:=ζ hI.hT;have hAs:=ζ hI.hA;have hCs:=ζ hC;have HI:=zh hI;have HP:=zh hP;have HC:=zh hC;have hB:=hI.hB;have hT:=hI.hT;have hkA:=hI.kA;obtain⟨vb,vc,hvv⟩:=hI.sp.form;obtain⟨m,hm⟩:∃ m,ps.length=m:=⟨_,rfl⟩;rw[hm] at hvv;have HM:=zh hm;have HVV:=zh hvv;have b0:=ξ hB 0;simp only[kob,zG,zH,zI] at b0;rw[hkA] at b0;have HCALL:=hcall;clear hI hP hC hB hT hkA hcall hvv hm;go_enter func137,ntmps137;go_wp2_with fail;refine (qE6 A n C cache calls writes w HI.out.hA).mono ?_;rintro e w0 ⟨rfl,rfl⟩;have hT0:=η (.cells #[.string ⟨#[]⟩,.string ⟨#[]⟩] 42) HI.out.hT;have t1:=ξ hT0 1;simp only[tob,zG,zH,zI] at t1;rw[HVV.out] at t1;clear b0;go_wp2_with fail;clear t1 hT0;obtain⟨wa,hwa,hPa,hKa,hsa⟩:=qH9 w0 (.cells #[.string ⟨#[]⟩,.string ⟨#[]⟩] 42);rw[←hwa];clear hwa;have hTa:=hKa.hp HI.out.hT;have hCa:=hKa.hp HC.out;have hSd:wa.drew.heap[tb]?=some (tob f)∧wa.drew.heap[cb]?=some (ι Cb ckey con cstp):=⟨hTa,hCa⟩;refine wp_region_held_drew (S:=fun W=>W.heap[tb]?=some (tob f)∧W.heap[cb]?=some (ι Cb ckey con cstp)) (by kernel_rfl) hSd (fun _=>?_);refine zP 0 tb 0 hSd ?_;refine zP 1 tb 0 hSd ?_;refine zP 2 tb 1 hSd ?_;refine zP 3 tb 1 hSd ?_;refine zV 4 (.agg #[.slice vb m vc]) rfl (fun W hS=>by have c:=ξ hS.1 1;simp only[tob,zG,zH,zI] at c;rw[HVV.out] at c;clear hS;go_simp) hSd ?_;refine zP 5 cb 0 hSd ?_;refine zP 6 cb 0 hSd ?_;refine zP 7 cb 1 hSd ?_;refine zP 8 cb 1 hSd ?_;refine zV 9 (.string ckey) rfl (fun W hS=>by have c:=ξ hS.2 1;simp only[ι,zG,zH,zI] at c;clear hS;go_simp) hSd ?_;refine zq 10 fun K hK=>?_;go_simp;have hspd:SPR wa.drew (.slice vb m vc) ps:=by rw[←HVV.out];exact HI.out.sp.keep0 (hKa.drew)
 refine (qI5 (.slice vb m vc) ps ckey wa.drew hspd (by have:=HI.out.sz;omega)).mono ?_;rintro e w2 ⟨rfl,hK2⟩;have hKw2:Kp [] w0 w2:=(hKa.drew).tr hK2;have hPw2:w2.heap[w0.heap.size]?=some (.cells #[.string ⟨#[]⟩,.string ⟨#[]⟩] 42):=hK2.heap (w:=wa.drew) hPa (by simp);have hT2:=hKw2.hp HI.out.hT;have hC2:=hKw2.hp HC.out;have hS2:w2.heap[tb]?=some (tob f)∧w2.heap[cb]?=some (ι Cb ckey con cstp):=⟨hT2,hC2⟩;refine hK.out _ _ hS2 (fun _=>?_);clear hK K hSd hspd
 try simp only[zZ]
 refine zU 11 (.int .i64 (qA0 ps ckey:Nat)) hS2 ?_;refine zd ?_;have HK2:=zh hKw2;have HP2:=zh hPw2;have hC2s:=ζ hC2;have hT2s:=ζ hT2;have c0:=ξ hC2 0;simp only[ι,zG,zH,zI] at c0;clear hS2 hK2 hKw2 hPw2 hTa hCa hKa hPa hT2 hC2;go_wp2_with fail;refine (HCALL w2 HK2.out).mono ?_;rintro e w3 ⟨v,rfl,hv,hR,hK3⟩;have hP2s:=ζ HP2.out;have hQ:=HP.out.more HK2.out HLT.out;have hT3:=hQ.stay hK3 (HK2.out.hp HI.out.hT) (by decide);have hB3:=hQ.stay hK3 (HK2.out.hp HI.out.hB) (by decide);have hC3:=hQ.stay hK3 (HK2.out.hp HC.out) (by decide);have hP3:=hQ.stay hK3 HP2.out (by decide);have hsp3:=(HI.out.sp.keep0 HK2.out).keep hK3 (hQ.apt (by decide));have hg3:=hQ.g0 hK3 ((HK2.out.cell (a:=⟨0,0,none⟩) (by show 0<w0.heap.size;omega) (by simp)).trans HI.out.g0) (by omega);have HR:Hid (R w3∧Kp S w2 w3):=⟨hR,hK3⟩;have hP3s:=ζ hP3;have z0:=ξ hP3;have fz0:=ρ hP3;have HP3:=zh hP3;have HV:=zh hv;clear hR hK3 hP3 c0 hQ hv;go_wp2_with fail;have hts:=qB2 (.string ⟨#[]⟩) (.string ⟨#[]⟩) HP3.out;obtain⟨w4,hw4,hP4,hK4⟩:∃ w4,w4=(w3.setCell ⟨w0.heap.size,0,none⟩ (.string ⟨#[]⟩)).setCell ⟨w0.heap.size,1,none⟩ (.string ⟨#[]⟩)∧w4.heap[w0.heap.size]?=some (.cells #[.string ⟨#[]⟩,.string ⟨#[]⟩] 42)∧Kp [w0.heap.size] w3 w4:=⟨_,rfl,hts.1,hts.2⟩;rw[←hw4];clear hw4 hts z0 fz0;have hT4:=hK4.ho hT3;have hB4:=hK4.ho hB3;have hC4:=hK4.ho hC3;have hsp4:=hsp3.keep hK4 (fun k hk c t fr e=>by rw[List.mem_singleton.1 hk,HP3.out] at e;cases e;decide);have hg4:w4.cell? ⟨0,0,none⟩=some qB5:=(hK4.cell (a:=⟨0,0,none⟩) (by show 0<w3.heap.size;omega) (by simp;omega)).trans hg3;clear hT3 hB3 hC3 hsp3 hg3;refine (qD9 v (some 11) w4 hg4 (HV.out.keep hK4 (fun i hi c fr e=>by rw[List.mem_singleton.1 hi,HP3.out] at e;cases e))).mono ?_;rintro e w5 ⟨rfl,hK5⟩;have hT5:=hK5.hp hT4;have hB5:=hK5.hp hB4;have hC5:=hK5.hp hC4;have hP5:=hK5.hp hP4;have hsp5:=hsp4.keep0 hK5;have HK35:Hid (Kp [w0.heap.size] w3 w5):=hK4.tr hK5;have hT5s:=ζ hT5;have hB5s:=ζ hB5;have hC5s:=ζ hC5;have hP5s:=ζ hP5;have HC5:=zh hC5;have HT5:=zh hT5;have b10:=ξ hB5 10;simp only[kob,zG,zH,zI] at b10;rw[HI.out.po] at b10;have t1:=ξ hT5 1;have t3:=ξ hT5 3;have t7:=ξ hT5 7;simp only[tob,zG,zH,zI] at t1 t3 t7;rw[HVV.out] at t1;rw[HDN.out] at t3;have z0:=ξ hP5;have c1:=ξ hC5;simp only[ι,zG,zH,zI] at c1;have fc1:=ρ hC5
 skip
 have HSP5:Hid (SPR w5 (.slice vb m vc) ps):=by rw[←HVV.out];exact hsp5
 clear hT4 hB4 hC4 hsp4 hg4 hP4 hK4 hT5 hB5 hC5 hP5 hsp5 hK5
 cases con with
 | false=>
  go_wp2_with (go_at_call 127;refine (qC3 _ _).mono ?_;rintro e w5 ⟨rfl,rfl⟩)
  go_quiet (fail)
  go_wp2;go_ret;exact⟨rfl,w2,w3,w0.heap.size,HK2.out,HR.out.1,HR.out.2,Nat.le_refl _,HK35.out.drewN _⟩
 | true=>
  have hne:¬cstp=f.stp:=by
   rcases HLO.out with h|h
   ·cases h
   ·exact h
  go_wp2_with (go_at_call 127;refine (qC3 _ _).mono ?_;rintro e w5 ⟨rfl,rfl⟩)
  go_quiet (fail)
  go_wp2;go_ret;exact⟨rfl,w2,w3,w0.heap.size,HK2.out,HR.out.1,HR.out.2,Nat.le_refl _,HK35.out.drewN _⟩
theorem xS8(B tb cb Cb A n C:Nat)(cache:Value)(calls writes:Int)(k:KF)(f:TF)(ps:List KV)(ckey:ByteArray)(con:Bool)(cstp:Int)(key:ByteArray)(S:List Nat)(R:World→Prop)(w:World)(hI:LkIn w B tb A n C cache calls writes k f ps)(hP:ProgS w S)(hlt:∀ k∈S,k<w.heap.size)(hC:w.heap[cb]?=some (ι Cb ckey con cstp))(hdn:f.dn=false)(hlost:con=false∨cstp≠f.stp)
  (hcall:∀ W,Kp [] w W→Calls prog 26 #[.pointer (some ⟨Cb,0,none⟩)] W fun e w'=>∃ v,e=.returned (.tuple #[.agg #[.string ⟨#[]⟩,.string ⟨#[]⟩],.bool false,v])∧ErrV w' v (some 11)∧R w'∧Kp S W w'):
  Calls prog 137 #[.pointer (some ⟨B,0,none⟩),.pointer (some ⟨tb,0,none⟩),.pointer (some ⟨cb,0,none⟩),.int .i64 4,.string key] w fun e w'=>e=.returned (.bool true)∧qN6 R S w w':=by
 have HDN:=zh hdn;have HLO:=zh hlost;clear hdn hlost;have HLT:=zh hlt;clear hlt;have hBs:=ζ hI.hB;have hTs:=ζ hI.hT;have hAs:=ζ hI.hA;have hCs:=ζ hC;have HI:=zh hI;have HP:=zh hP;have HC:=zh hC;have hB:=hI.hB;have hT:=hI.hT;have hkA:=hI.kA;obtain⟨vb,vc,hvv⟩:=hI.sp.form;obtain⟨m,hm⟩:∃ m,ps.length=m:=⟨_,rfl⟩;rw[hm] at hvv;have HM:=zh hm;have HVV:=zh hvv;have b0:=ξ hB 0;simp only[kob,zG,zH,zI] at b0;rw[hkA] at b0;have HCALL:=hcall;clear hI hP hC hB hT hkA hcall hvv hm;go_enter func137,ntmps137;go_wp2_with fail;refine (qE6 A n C cache calls writes w HI.out.hA).mono ?_;rintro e w0 ⟨rfl,rfl⟩;have hT0:=η (.cells #[.string ⟨#[]⟩,.string ⟨#[]⟩] 42) HI.out.hT;have t1:=ξ hT0 1;simp only[tob,zG,zH,zI] at t1;rw[HVV.out] at t1;clear b0;go_wp2_with fail;clear t1 hT0;obtain⟨wa,hwa,hPa,hKa,hsa⟩:=qH9 w0 (.cells #[.string ⟨#[]⟩,.string ⟨#[]⟩] 42);rw[←hwa];clear hwa;have hTa:=hKa.hp HI.out.hT;have hCa:=hKa.hp HC.out;have hSd:wa.drew.heap[tb]?=some (tob f)∧wa.drew.heap[cb]?=some (ι Cb ckey con cstp):=⟨hTa,hCa⟩;refine wp_region_held_drew (S:=fun W=>W.heap[tb]?=some (tob f)∧W.heap[cb]?=some (ι Cb ckey con cstp)) (by kernel_rfl) hSd (fun _=>?_);refine zP 0 tb 0 hSd ?_;refine zP 1 tb 0 hSd ?_;refine zP 2 tb 1 hSd ?_;refine zP 3 tb 1 hSd ?_;refine zV 4 (.agg #[.slice vb m vc]) rfl (fun W hS=>by have c:=ξ hS.1 1;simp only[tob,zG,zH,zI] at c;rw[HVV.out] at c;clear hS;go_simp) hSd ?_;refine zP 5 cb 0 hSd ?_;refine zP 6 cb 0 hSd ?_;refine zP 7 cb 1 hSd ?_;refine zP 8 cb 1 hSd ?_;refine zV 9 (.string ckey) rfl (fun W hS=>by have c:=ξ hS.2 1;simp only[ι,zG,zH,zI] at c;clear hS;go_simp) hSd ?_;refine zq 10 fun K hK=>?_;go_simp;have hspd:SPR wa.drew (.slice vb m vc) ps:=by rw[←HVV.out];exact HI.out.sp.keep0 (hKa.drew)
 refine (qI5 (.slice vb m vc) ps ckey wa.drew hspd (by have:=HI.out.sz;omega)).mono ?_;rintro e w2 ⟨rfl,hK2⟩;have hKw2:Kp [] w0 w2:=(hKa.drew).tr hK2;have hPw2:w2.heap[w0.heap.size]?=some (.cells #[.string ⟨#[]⟩,.string ⟨#[]⟩] 42):=hK2.heap (w:=wa.drew) hPa (by simp);have hT2:=hKw2.hp HI.out.hT;have hC2:=hKw2.hp HC.out;have hS2:w2.heap[tb]?=some (tob f)∧w2.heap[cb]?=some (ι Cb ckey con cstp):=⟨hT2,hC2⟩;refine hK.out _ _ hS2 (fun _=>?_);clear hK K hSd hspd
 try simp only[zZ]
 refine zU 11 (.int .i64 (qA0 ps ckey:Nat)) hS2 ?_;refine zd ?_;have HK2:=zh hKw2;have HP2:=zh hPw2;have hC2s:=ζ hC2;have hT2s:=ζ hT2;have c0:=ξ hC2 0;simp only[ι,zG,zH,zI] at c0;clear hS2 hK2 hKw2 hPw2 hTa hCa hKa hPa hT2 hC2;go_wp2_with fail;refine (HCALL w2 HK2.out).mono ?_;rintro e w3 ⟨v,rfl,hv,hR,hK3⟩;have hP2s:=ζ HP2.out;have hQ:=HP.out.more HK2.out HLT.out;have hT3:=hQ.stay hK3 (HK2.out.hp HI.out.hT) (by decide);have hB3:=hQ.stay hK3 (HK2.out.hp HI.out.hB) (by decide);have hC3:=hQ.stay hK3 (HK2.out.hp HC.out) (by decide);have hP3:=hQ.stay hK3 HP2.out (by decide);have hsp3:=(HI.out.sp.keep0 HK2.out).keep hK3 (hQ.apt (by decide));have hg3:=hQ.g0 hK3 ((HK2.out.cell (a:=⟨0,0,none⟩) (by show 0<w0.heap.size;omega) (by simp)).trans HI.out.g0) (by omega);have HR:Hid (R w3∧Kp S w2 w3):=⟨hR,hK3⟩;have hP3s:=ζ hP3;have z0:=ξ hP3;have fz0:=ρ hP3;have HP3:=zh hP3;have HV:=zh hv;clear hR hK3 hP3 c0 hQ hv;go_wp2_with fail;have hts:=qB2 (.string ⟨#[]⟩) (.string ⟨#[]⟩) HP3.out;obtain⟨w4,hw4,hP4,hK4⟩:∃ w4,w4=(w3.setCell ⟨w0.heap.size,0,none⟩ (.string ⟨#[]⟩)).setCell ⟨w0.heap.size,1,none⟩ (.string ⟨#[]⟩)∧w4.heap[w0.heap.size]?=some (.cells #[.string ⟨#[]⟩,.string ⟨#[]⟩] 42)∧Kp [w0.heap.size] w3 w4:=⟨_,rfl,hts.1,hts.2⟩;rw[←hw4];clear hw4 hts z0 fz0;have hT4:=hK4.ho hT3;have hB4:=hK4.ho hB3;have hC4:=hK4.ho hC3;have hsp4:=hsp3.keep hK4 (fun k hk c t fr e=>by rw[List.mem_singleton.1 hk,HP3.out] at e;cases e;decide);have hg4:w4.cell? ⟨0,0,none⟩=some qB5:=(hK4.cell (a:=⟨0,0,none⟩) (by show 0<w3.heap.size;omega) (by simp;omega)).trans hg3;clear hT3 hB3 hC3 hsp3 hg3;refine (qD9 v (some 11) w4 hg4 (HV.out.keep hK4 (fun i hi c fr e=>by rw[List.mem_singleton.1 hi,HP3.out] at e;cases e))).mono ?_;rintro e w5 ⟨rfl,hK5⟩;have hT5:=hK5.hp hT4;have hB5:=hK5.hp hB4;have hC5:=hK5.hp hC4;have hP5:=hK5.hp hP4;have hsp5:=hsp4.keep0 hK5;have HK35:Hid (Kp [w0.heap.size] w3 w5):=hK4.tr hK5;have hT5s:=ζ hT5;have hB5s:=ζ hB5;have hC5s:=ζ hC5;have hP5s:=ζ hP5;have HC5:=zh hC5;have HT5:=zh hT5;have b10:=ξ hB5 10;simp only[kob,zG,zH,zI] at b10;rw[HI.out.po] at b10;have t1:=ξ hT5 1;have t3:=ξ hT5 3;have t7:=ξ hT5 7;simp only[tob,zG,zH,zI] at t1 t3 t7;rw[HVV.out] at t1;rw[HDN.out] at t3;have z0:=ξ hP5;have c1:=ξ hC5;simp only[ι,zG,zH,zI] at c1;have fc1:=ρ hC5
 skip
 have HSP5:Hid (SPR w5 (.slice vb m vc) ps):=by rw[←HVV.out];exact hsp5
 clear hT4 hB4 hC4 hsp4 hg4 hP4 hK4 hT5 hB5 hC5 hP5 hsp5 hK5
 cases con with
 | false=>
  go_wp2_with (go_at_call 127;refine (qC3 _ _).mono ?_;rintro e w5 ⟨rfl,rfl⟩)
  go_quiet (fail)
  go_wp2;go_ret;exact⟨rfl,w2,w3,w0.heap.size,HK2.out,HR.out.1,HR.out.2,Nat.le_refl _,HK35.out.drewN _⟩
 | true=>
  have hne:¬cstp=f.stp:=by
   rcases HLO.out with h|h
   ·cases h
   ·exact h
  go_wp2_with (go_at_call 127;refine (qC3 _ _).mono ?_;rintro e w5 ⟨rfl,rfl⟩)
  go_quiet (fail)
  go_wp2;go_ret;exact⟨rfl,w2,w3,w0.heap.size,HK2.out,HR.out.1,HR.out.2,Nat.le_refl _,HK35.out.drewN _⟩
theorem xT0(B tb cb Cb A n C:Nat)(cache:Value)(calls writes:Int)(k:KF)(f:TF)(ps:List KV)(ckey:ByteArray)(con:Bool)(cstp:Int)(key:ByteArray)(o:Option KV)(to:Int)(S:List Nat)(R:World→Prop)(w:World)(hI:LkIn w B tb A n C cache calls writes k f ps)(hP:ProgS w S)(hlt:∀ k∈S,k<w.heap.size)(hC:w.heap[cb]?=some (ι Cb ckey con cstp))(hdn:f.dn=false)(hto:((qA0 ps key:Nat):Int)=to)(ho:o=if to<0 then none else ps[to.toNat]?)(hok:∀ q∈ps,qE0 q)
  (hcall:∀ W,Kp [] w W→Calls prog 27 #[.pointer (some ⟨Cb,0,none⟩),.string key] W fun e w'=>e=.returned (.tuple #[.agg #[.string (pkv o).k,.string (pkv o).v],.bool o.isSome,.nilIface])∧R w'∧Kp S W w'):
  Calls prog 137 #[.pointer (some ⟨B,0,none⟩),.pointer (some ⟨tb,0,none⟩),.pointer (some ⟨cb,0,none⟩),.int .i64 2,.string key] w fun e w'=>e=.returned (.bool true)∧qQ4 cb Cb (pkv o).k o.isSome f.stp R S w w':=by
 have HDN:=zh hdn;have HO:=zh ho;have HOK:=zh hok;have HTO:=zh hto;clear hdn ho hok hto;have HLT:=zh hlt;clear hlt;have hBs:=ζ hI.hB;have hTs:=ζ hI.hT;have hAs:=ζ hI.hA;have hCs:=ζ hC;have HI:=zh hI;have HP:=zh hP;have HC:=zh hC;have hB:=hI.hB;have hT:=hI.hT;have hkA:=hI.kA;obtain⟨vb,vc,hvv⟩:=hI.sp.form;obtain⟨m,hm⟩:∃ m,ps.length=m:=⟨_,rfl⟩;rw[hm] at hvv;have HM:=zh hm;have HVV:=zh hvv;have b0:=ξ hB 0;simp only[kob,zG,zH,zI] at b0;rw[hkA] at b0;have HCALL:=hcall;clear hI hP hC hB hT hkA hcall hvv hm;go_enter func137,ntmps137;go_wp2_with fail;refine (qE6 A n C cache calls writes w HI.out.hA).mono ?_;rintro e w0 ⟨rfl,rfl⟩;have hT0:=η (.cells #[.string ⟨#[]⟩,.string ⟨#[]⟩] 42) HI.out.hT;have t1:=ξ hT0 1;simp only[tob,zG,zH,zI] at t1;rw[HVV.out] at t1;clear b0;go_wp2_with fail;clear t1 hT0;obtain⟨wa,hwa,hPa,hKa,hsa⟩:=qH9 w0 (.cells #[.string ⟨#[]⟩,.string ⟨#[]⟩] 42);rw[←hwa];clear hwa;have hTa:=hKa.hp HI.out.hT;have hCa:=hKa.hp HC.out;have hSd:wa.drew.heap[tb]?=some (tob f)∧wa.drew.heap[cb]?=some (ι Cb ckey con cstp):=⟨hTa,hCa⟩;refine wp_region_held_drew (S:=fun W=>W.heap[tb]?=some (tob f)∧W.heap[cb]?=some (ι Cb ckey con cstp)) (by kernel_rfl) hSd (fun _=>?_);refine zP 0 tb 0 hSd ?_;refine zP 1 tb 0 hSd ?_;refine zP 2 tb 1 hSd ?_;refine zP 3 tb 1 hSd ?_;refine zV 4 (.agg #[.slice vb m vc]) rfl (fun W hS=>by have c:=ξ hS.1 1;simp only[tob,zG,zH,zI] at c;rw[HVV.out] at c;clear hS;go_simp) hSd ?_;refine zP 5 cb 0 hSd ?_;refine zP 6 cb 0 hSd ?_;refine zP 7 cb 1 hSd ?_;refine zP 8 cb 1 hSd ?_;refine zV 9 (.string ckey) rfl (fun W hS=>by have c:=ξ hS.2 1;simp only[ι,zG,zH,zI] at c;clear hS;go_simp) hSd ?_;refine zq 10 fun K hK=>?_;go_simp;have hspd:SPR wa.drew (.slice vb m vc) ps:=by rw[←HVV.out];exact HI.out.sp.keep0 (hKa.drew)
 refine (qI5 (.slice vb m vc) ps ckey wa.drew hspd (by have:=HI.out.sz;omega)).mono ?_;rintro e w2 ⟨rfl,hK2⟩;have hKw2:Kp [] w0 w2:=(hKa.drew).tr hK2;have hPw2:w2.heap[w0.heap.size]?=some (.cells #[.string ⟨#[]⟩,.string ⟨#[]⟩] 42):=hK2.heap (w:=wa.drew) hPa (by simp);have hT2:=hKw2.hp HI.out.hT;have hC2:=hKw2.hp HC.out;have hS2:w2.heap[tb]?=some (tob f)∧w2.heap[cb]?=some (ι Cb ckey con cstp):=⟨hT2,hC2⟩;refine hK.out _ _ hS2 (fun _=>?_);clear hK K hSd hspd
 try simp only[zZ]
 refine zU 11 (.int .i64 (qA0 ps ckey:Nat)) hS2 ?_;refine zd ?_;have HK2:=zh hKw2;have HP2:=zh hPw2;have hC2s:=ζ hC2;have hT2s:=ζ hT2;have c0:=ξ hC2 0;simp only[ι,zG,zH,zI] at c0;clear hS2 hK2 hKw2 hPw2 hTa hCa hKa hPa hT2 hC2;go_wp2_with fail;refine (HCALL w2 HK2.out).mono ?_;rintro e w3 ⟨rfl,hR,hK3⟩;have hP2s:=ζ HP2.out;have hQ:=HP.out.more HK2.out HLT.out;have hT3:=hQ.stay hK3 (HK2.out.hp HI.out.hT) (by decide);have hB3:=hQ.stay hK3 (HK2.out.hp HI.out.hB) (by decide);have hC3:=hQ.stay hK3 (HK2.out.hp HC.out) (by decide);have hP3:=hQ.stay hK3 HP2.out (by decide);have hsp3:=(HI.out.sp.keep0 HK2.out).keep hK3 (hQ.apt (by decide));have hg3:=hQ.g0 hK3 ((HK2.out.cell (a:=⟨0,0,none⟩) (by show 0<w0.heap.size;omega) (by simp)).trans HI.out.g0) (by omega);have HR:Hid (R w3∧Kp S w2 w3):=⟨hR,hK3⟩;have hP3s:=ζ hP3;have z0:=ξ hP3;have fz0:=ρ hP3;have HP3:=zh hP3;clear hR hK3 hP3 c0 hQ;have hT3s:=ζ hT3;have t1:=ξ hT3 1;simp only[tob,zG,zH,zI] at t1;rw[HVV.out] at t1;have hne3:w0.heap.size≠tb:=by omega
 cases o with
 | none=>
  simp only[pkv,Option.isSome_none];go_wp2_with fail;have hts:=qB2 (.string ⟨#[]⟩) (.string ⟨#[]⟩) HP3.out;obtain⟨w4,hw4,hP4,hK4⟩:∃ w4,w4=(w3.setCell ⟨w0.heap.size,0,none⟩ (.string ⟨#[]⟩)).setCell ⟨w0.heap.size,1,none⟩ (.string ⟨#[]⟩)∧w4.heap[w0.heap.size]?=some (.cells #[.string ⟨#[]⟩,.string ⟨#[]⟩] 42)∧Kp [w0.heap.size] w3 w4:=⟨_,rfl,hts.1,hts.2⟩;rw[←hw4];clear hw4 hts z0 fz0;have hT4:=hK4.ho hT3;have hB4:=hK4.ho hB3;have hC4:=hK4.ho hC3;have hsp4:=hsp3.keep hK4 (fun k hk c t fr e=>by rw[List.mem_singleton.1 hk,HP3.out] at e;cases e;decide);have hg4:w4.cell? ⟨0,0,none⟩=some qB5:=(hK4.cell (a:=⟨0,0,none⟩) (by show 0<w3.heap.size;omega) (by simp;omega)).trans hg3;clear hT3 hB3 hC3 hsp3 hg3;have hSP4:SPR w4 (.slice vb m vc) ps:=by rw[←HVV.out];exact hsp4
  refine (qI5 (.slice vb m vc) ps key w4 hSP4 (by have:=HI.out.sz;omega)).mono ?_;rintro e w4b ⟨rfl,hKb⟩;have hTb:=hKb.hp hT4;have hBb:=hKb.hp hB4;have hCb':=hKb.hp hC4;have hPb:=hKb.hp hP4;have hspb:=hsp4.keep0 hKb;have hgb:w4b.cell? ⟨0,0,none⟩=some qB5:=(hKb.cell (a:=⟨0,0,none⟩) (by show 0<w4.heap.size;have:=hK4.size;omega) (by simp)).trans hg4;have hKK:Kp [w0.heap.size] w3 w4b:=hK4.tr hKb;clear hT4 hB4 hC4 hsp4 hg4 hP4 hK4 hSP4 hKb t1;go_wp2_with fail;rw[HTO.out];refine (qD9 .nilIface none w4b hgb rfl).mono ?_;rintro e w5 ⟨rfl,hK5⟩;have hT5:=hK5.hp hTb;have hB5:=hK5.hp hBb;have hC5:=hK5.hp hCb';have hP5:=hK5.hp hPb;have hsp5:=hspb.keep0 hK5;have HK35:Hid (Kp [w0.heap.size] w3 w5):=hKK.tr hK5;have hT5s:=ζ hT5;have hB5s:=ζ hB5;have hC5s:=ζ hC5;have hP5s:=ζ hP5;have HC5:=zh hC5;have HT5:=zh hT5;have b10:=ξ hB5 10;simp only[kob,zG,zH,zI] at b10;rw[HI.out.po] at b10;have t1:=ξ hT5 1;have t3:=ξ hT5 3;have t7:=ξ hT5 7;simp only[tob,zG,zH,zI] at t1 t3 t7;rw[HVV.out] at t1;rw[HDN.out] at t3;have z0:=ξ hP5;have c1:=ξ hC5;simp only[ι,zG,zH,zI] at c1;have fc1:=ρ hC5;have HSP5:Hid (SPR w5 (.slice vb m vc) ps):=by rw[←HVV.out];exact hsp5
  clear hTb hBb hCb' hspb hgb hPb hKK hT5 hB5 hC5 hP5 hsp5 hK5
  go_wp2_with (go_at_call 127;refine (qC3 _ _).mono ?_;rintro e w5 ⟨rfl,rfl⟩)
  go_quiet (fail)
  by_cases hneg:to<0
  ·go_wp2;go_ret;have hend:=HC5.out;have hK:Kp [w0.heap.size,cb] w3 (((w5.setCell ⟨cb,1,none⟩ (.string ⟨#[]⟩)).setCell ⟨cb,2,none⟩ (.bool false)).setCell ⟨cb,3,none⟩ (.int .i64 f.stp)):=((((HK35.out.mono (S':=[w0.heap.size,cb]) (by simp +contextual)).sc _).sc _).sc _);exact⟨rfl,w2,w3,w0.heap.size,HK2.out,HR.out.1,HR.out.2,Nat.le_refl _,μ (μ (μ hend 1 _) 2 _) 3 _,by first | exact hK | exact hK.drewN _ | exact hK.drew⟩
  ·have hge:(m:Int)≤to:=by
    have h:=HO.out;rw[if_neg hneg] at h;have h2:=List.getElem?_eq_none_iff.1 h.symm;have h3:=HM.out;omega
   go_wp2;go_ret;have hend:=HC5.out;have hK:Kp [w0.heap.size,cb] w3 (((w5.setCell ⟨cb,1,none⟩ (.string ⟨#[]⟩)).setCell ⟨cb,2,none⟩ (.bool false)).setCell ⟨cb,3,none⟩ (.int .i64 f.stp)):=((((HK35.out.mono (S':=[w0.heap.size,cb]) (by simp +contextual)).sc _).sc _).sc _);exact⟨rfl,w2,w3,w0.heap.size,HK2.out,HR.out.1,HR.out.2,Nat.le_refl _,μ (μ (μ hend 1 _) 2 _) 3 _,by first | exact hK | exact hK.drewN _ | exact hK.drew⟩
 | some p=>
  simp only[pkv,Option.isSome_some];go_wp2_with fail;have hts:=qB2 (.string p.k) (.string p.v) HP3.out;obtain⟨w4,hw4,hP4,hK4⟩:∃ w4,w4=(w3.setCell ⟨w0.heap.size,0,none⟩ (.string p.k)).setCell ⟨w0.heap.size,1,none⟩ (.string p.v)∧w4.heap[w0.heap.size]?=some (.cells #[.string p.k,.string p.v] 42)∧Kp [w0.heap.size] w3 w4:=⟨_,rfl,hts.1,hts.2⟩;rw[←hw4];clear hw4 hts z0 fz0;have hT4:=hK4.ho hT3;have hB4:=hK4.ho hB3;have hC4:=hK4.ho hC3;have hsp4:=hsp3.keep hK4 (fun k hk c t fr e=>by rw[List.mem_singleton.1 hk,HP3.out] at e;cases e;decide);have hg4:w4.cell? ⟨0,0,none⟩=some qB5:=(hK4.cell (a:=⟨0,0,none⟩) (by show 0<w3.heap.size;omega) (by simp;omega)).trans hg3;clear hT3 hB3 hC3 hsp3 hg3;have hSP4:SPR w4 (.slice vb m vc) ps:=by rw[←HVV.out];exact hsp4
  refine (qI5 (.slice vb m vc) ps key w4 hSP4 (by have:=HI.out.sz;omega)).mono ?_;rintro e w4b ⟨rfl,hKb⟩;have hTb:=hKb.hp hT4;have hBb:=hKb.hp hB4;have hCb':=hKb.hp hC4;have hPb:=hKb.hp hP4;have hspb:=hsp4.keep0 hKb;have hgb:w4b.cell? ⟨0,0,none⟩=some qB5:=(hKb.cell (a:=⟨0,0,none⟩) (by show 0<w4.heap.size;have:=hK4.size;omega) (by simp)).trans hg4;have hKK:Kp [w0.heap.size] w3 w4b:=hK4.tr hKb;clear hT4 hB4 hC4 hsp4 hg4 hP4 hK4 hSP4 hKb t1;go_wp2_with fail;rw[HTO.out];refine (qD9 .nilIface none w4b hgb rfl).mono ?_;rintro e w5 ⟨rfl,hK5⟩;have hT5:=hK5.hp hTb;have hB5:=hK5.hp hBb;have hC5:=hK5.hp hCb';have hP5:=hK5.hp hPb;have hsp5:=hspb.keep0 hK5;have HK35:Hid (Kp [w0.heap.size] w3 w5):=hKK.tr hK5;have hT5s:=ζ hT5;have hB5s:=ζ hB5;have hC5s:=ζ hC5;have hP5s:=ζ hP5;have HC5:=zh hC5;have HT5:=zh hT5;have b10:=ξ hB5 10;simp only[kob,zG,zH,zI] at b10;rw[HI.out.po] at b10;have t1:=ξ hT5 1;have t3:=ξ hT5 3;have t7:=ξ hT5 7;simp only[tob,zG,zH,zI] at t1 t3 t7;rw[HVV.out] at t1;rw[HDN.out] at t3;have z0:=ξ hP5;have c1:=ξ hC5;simp only[ι,zG,zH,zI] at c1;have fc1:=ρ hC5;have HSP5:Hid (SPR w5 (.slice vb m vc) ps):=by rw[←HVV.out];exact hsp5
  clear hTb hBb hCb' hspb hgb hPb hKK hT5 hB5 hC5 hP5 hsp5 hK5;obtain⟨i,hi,hpi⟩:∃ i:Nat,to=(i:Int)∧ps[i]?=some p:=by
   have h:=HO.out;by_cases hneg:to<0
   ·rw[if_pos hneg] at h;cases h
   ·rw[if_neg hneg] at h;exact⟨to.toNat,by omega,h.symm⟩
  subst hi;have HPE:Hid (p.k.toList.isEmpty=false):=qQ9 (HOK.out p (List.mem_of_getElem? hpi)).1;have hpe:=HPE.out;obtain⟨hl0,hpx⟩:=List.getElem?_eq_some_iff.1 hpi;have hmi:(i:Int)<(m:Int):=by have:=HM.out;omega
  have hng:¬(i:Int)<0:=by omega
  have hnge:¬(m:Int)≤(i:Int):=by omega
  go_wp2_with (go_at_call 127;refine (qC3 _ _).mono ?_;rintro e w5 ⟨rfl,rfl⟩)
  go_quiet (fail)
  obtain⟨gp,off,cap,cur,fr,hvs,hcap,hgrow,hcur⟩:=HSP5.out.at (by omega);simp only[Value.slice.injEq] at hvs;obtain⟨rfl,hmm,rfl⟩:=hvs;clear hmm;obtain⟨a0,a1⟩:=hcur i hl0;rw[hpx] at a0 a1;have q0:=ξ hgrow (off+i*2);rw[a0] at q0;have q1:=ξ hgrow (off+i*2+1);rw[a1] at q1;have hgs:=ζ hgrow;have hgc:gp≠cb:=ω hgrow HC5.out (by decide);have hgt':gp≠tb:=ω hgrow HT5.out (by decide);have htc:tb≠cb:=ω HT5.out HC5.out (by decide);have hpc':w0.heap.size≠cb:=by omega
  clear hgrow hcur a0 a1 hpi hpx;go_wp2_with fail
  go_quiet (fail)
  go_wp2;go_ret;have hend:=HC5.out;refine⟨by simp,w2,w3,w0.heap.size,HK2.out,HR.out.1,HR.out.2,Nat.le_refl _,μ (μ (μ (μ (μ hend 1 _) 2 _) 3 _) 2 _) 1 _,?_⟩;exact ((((((HK35.out.mono (S':=[w0.heap.size,cb]) (by simp +contextual)).drewN _).sc _).sc _).sc _).sc _ |>.sc _ |>.drewN _)
theorem xT1(B tb cb Cb A n C:Nat)(cache:Value)(calls writes:Int)(k:KF)(f:TF)(ps:List KV)(ckey:ByteArray)(con:Bool)(cstp:Int)(key:ByteArray)(S:List Nat)(R:World→Prop)(w:World)(hI:LkIn w B tb A n C cache calls writes k f ps)(hP:ProgS w S)(hlt:∀ k∈S,k<w.heap.size)(hC:w.heap[cb]?=some (ι Cb ckey con cstp))(hdn:f.dn=true)
  (hcall:∀ W,Kp [] w W→Calls prog 27 #[.pointer (some ⟨Cb,0,none⟩),.string key] W fun e w'=>∃ v,e=.returned (.tuple #[.agg #[.string ⟨#[]⟩,.string ⟨#[]⟩],.bool false,v])∧ErrV w' v (some 5)∧R w'∧Kp S W w'):
  Calls prog 137 #[.pointer (some ⟨B,0,none⟩),.pointer (some ⟨tb,0,none⟩),.pointer (some ⟨cb,0,none⟩),.int .i64 2,.string key] w fun e w'=>e=.returned (.bool true)∧qN6 R S w w':=by
 have HDN:=zh hdn;clear hdn;have HLT:=zh hlt;clear hlt;have hBs:=ζ hI.hB;have hTs:=ζ hI.hT;have hAs:=ζ hI.hA;have hCs:=ζ hC;have HI:=zh hI;have HP:=zh hP;have HC:=zh hC;have hB:=hI.hB;have hT:=hI.hT;have hkA:=hI.kA;obtain⟨vb,vc,hvv⟩:=hI.sp.form;obtain⟨m,hm⟩:∃ m,ps.length=m:=⟨_,rfl⟩;rw[hm] at hvv;have HM:=zh hm;have HVV:=zh hvv;have b0:=ξ hB 0;simp only[kob,zG,zH,zI] at b0;rw[hkA] at b0;have HCALL:=hcall;clear hI hP hC hB hT hkA hcall hvv hm;go_enter func137,ntmps137;go_wp2_with fail;refine (qE6 A n C cache calls writes w HI.out.hA).mono ?_;rintro e w0 ⟨rfl,rfl⟩;have hT0:=η (.cells #[.string ⟨#[]⟩,.string ⟨#[]⟩] 42) HI.out.hT;have t1:=ξ hT0 1;simp only[tob,zG,zH,zI] at t1;rw[HVV.out] at t1;clear b0;go_wp2_with fail;clear t1 hT0;obtain⟨wa,hwa,hPa,hKa,hsa⟩:=qH9 w0 (.cells #[.string ⟨#[]⟩,.string ⟨#[]⟩] 42);rw[←hwa];clear hwa;have hTa:=hKa.hp HI.out.hT;have hCa:=hKa.hp HC.out;have hSd:wa.drew.heap[tb]?=some (tob f)∧wa.drew.heap[cb]?=some (ι Cb ckey con cstp):=⟨hTa,hCa⟩;refine wp_region_held_drew (S:=fun W=>W.heap[tb]?=some (tob f)∧W.heap[cb]?=some (ι Cb ckey con cstp)) (by kernel_rfl) hSd (fun _=>?_);refine zP 0 tb 0 hSd ?_;refine zP 1 tb 0 hSd ?_;refine zP 2 tb 1 hSd ?_;refine zP 3 tb 1 hSd ?_;refine zV 4 (.agg #[.slice vb m vc]) rfl (fun W hS=>by have c:=ξ hS.1 1;simp only[tob,zG,zH,zI] at c;rw[HVV.out] at c;clear hS;go_simp) hSd ?_;refine zP 5 cb 0 hSd ?_;refine zP 6 cb 0 hSd ?_;refine zP 7 cb 1 hSd ?_;refine zP 8 cb 1 hSd ?_;refine zV 9 (.string ckey) rfl (fun W hS=>by have c:=ξ hS.2 1;simp only[ι,zG,zH,zI] at c;clear hS;go_simp) hSd ?_;refine zq 10 fun K hK=>?_;go_simp;have hspd:SPR wa.drew (.slice vb m vc) ps:=by rw[←HVV.out];exact HI.out.sp.keep0 (hKa.drew)
 refine (qI5 (.slice vb m vc) ps ckey wa.drew hspd (by have:=HI.out.sz;omega)).mono ?_;rintro e w2 ⟨rfl,hK2⟩;have hKw2:Kp [] w0 w2:=(hKa.drew).tr hK2;have hPw2:w2.heap[w0.heap.size]?=some (.cells #[.string ⟨#[]⟩,.string ⟨#[]⟩] 42):=hK2.heap (w:=wa.drew) hPa (by simp);have hT2:=hKw2.hp HI.out.hT;have hC2:=hKw2.hp HC.out;have hS2:w2.heap[tb]?=some (tob f)∧w2.heap[cb]?=some (ι Cb ckey con cstp):=⟨hT2,hC2⟩;refine hK.out _ _ hS2 (fun _=>?_);clear hK K hSd hspd
 try simp only[zZ]
 refine zU 11 (.int .i64 (qA0 ps ckey:Nat)) hS2 ?_;refine zd ?_;have HK2:=zh hKw2;have HP2:=zh hPw2;have hC2s:=ζ hC2;have hT2s:=ζ hT2;have c0:=ξ hC2 0;simp only[ι,zG,zH,zI] at c0;clear hS2 hK2 hKw2 hPw2 hTa hCa hKa hPa hT2 hC2;go_wp2_with fail;refine (HCALL w2 HK2.out).mono ?_;rintro e w3 ⟨v,rfl,hv,hR,hK3⟩;have hP2s:=ζ HP2.out;have hQ:=HP.out.more HK2.out HLT.out;have hT3:=hQ.stay hK3 (HK2.out.hp HI.out.hT) (by decide);have hB3:=hQ.stay hK3 (HK2.out.hp HI.out.hB) (by decide);have hC3:=hQ.stay hK3 (HK2.out.hp HC.out) (by decide);have hP3:=hQ.stay hK3 HP2.out (by decide);have hsp3:=(HI.out.sp.keep0 HK2.out).keep hK3 (hQ.apt (by decide));have hg3:=hQ.g0 hK3 ((HK2.out.cell (a:=⟨0,0,none⟩) (by show 0<w0.heap.size;omega) (by simp)).trans HI.out.g0) (by omega);have HR:Hid (R w3∧Kp S w2 w3):=⟨hR,hK3⟩;have hP3s:=ζ hP3;have z0:=ξ hP3;have fz0:=ρ hP3;have HP3:=zh hP3;have HV:=zh hv;clear hR hK3 hP3 c0 hQ hv;have hT3s:=ζ hT3;have t1:=ξ hT3 1;simp only[tob,zG,zH,zI] at t1;rw[HVV.out] at t1;have hne3:w0.heap.size≠tb:=by omega
 go_wp2_with fail;have hts:=qB2 (.string ⟨#[]⟩) (.string ⟨#[]⟩) HP3.out;obtain⟨w4,hw4,hP4,hK4⟩:∃ w4,w4=(w3.setCell ⟨w0.heap.size,0,none⟩ (.string ⟨#[]⟩)).setCell ⟨w0.heap.size,1,none⟩ (.string ⟨#[]⟩)∧w4.heap[w0.heap.size]?=some (.cells #[.string ⟨#[]⟩,.string ⟨#[]⟩] 42)∧Kp [w0.heap.size] w3 w4:=⟨_,rfl,hts.1,hts.2⟩;rw[←hw4];clear hw4 hts z0 fz0;have hT4:=hK4.ho hT3;have hB4:=hK4.ho hB3;have hC4:=hK4.ho hC3;have hsp4:=hsp3.keep hK4 (fun k hk c t fr e=>by rw[List.mem_singleton.1 hk,HP3.out] at e;cases e;decide);have hg4:w4.cell? ⟨0,0,none⟩=some qB5:=(hK4.cell (a:=⟨0,0,none⟩) (by show 0<w3.heap.size;omega) (by simp;omega)).trans hg3;clear hT3 hB3 hC3 hsp3 hg3;have hSP4:SPR w4 (.slice vb m vc) ps:=by rw[←HVV.out];exact hsp4
 refine (qI5 (.slice vb m vc) ps key w4 hSP4 (by have:=HI.out.sz;omega)).mono ?_;rintro e w4b ⟨rfl,hKb⟩;have hTb:=hKb.hp hT4;have hBb:=hKb.hp hB4;have hCb':=hKb.hp hC4;have hPb:=hKb.hp hP4;have hspb:=hsp4.keep0 hKb;have hgb:w4b.cell? ⟨0,0,none⟩=some qB5:=(hKb.cell (a:=⟨0,0,none⟩) (by show 0<w4.heap.size;have:=hK4.size;omega) (by simp)).trans hg4;have hKK:Kp [w0.heap.size] w3 w4b:=hK4.tr hKb;clear hT4 hB4 hC4 hsp4 hg4 hP4 hK4 hSP4 hKb t1;go_wp2_with fail;refine (qD9 v (some 5) w4b hgb (HV.out.keep hKK (fun i hi c fr e=>by rw[List.mem_singleton.1 hi,HP3.out] at e;cases e))).mono ?_;rintro e w5 ⟨rfl,hK5⟩;have hT5:=hK5.hp hTb;have hB5:=hK5.hp hBb;have hC5:=hK5.hp hCb';have hP5:=hK5.hp hPb;have hsp5:=hspb.keep0 hK5;have HK35:Hid (Kp [w0.heap.size] w3 w5):=hKK.tr hK5;have hT5s:=ζ hT5;have hB5s:=ζ hB5;have hC5s:=ζ hC5;have hP5s:=ζ hP5;have HC5:=zh hC5;have HT5:=zh hT5;have b10:=ξ hB5 10;simp only[kob,zG,zH,zI] at b10;rw[HI.out.po] at b10;have t1:=ξ hT5 1;have t3:=ξ hT5 3;have t7:=ξ hT5 7;simp only[tob,zG,zH,zI] at t1 t3 t7;rw[HVV.out] at t1;rw[HDN.out] at t3;have z0:=ξ hP5;have c1:=ξ hC5;simp only[ι,zG,zH,zI] at c1;have fc1:=ρ hC5;have HSP5:Hid (SPR w5 (.slice vb m vc) ps):=by rw[←HVV.out];exact hsp5
 clear hTb hBb hCb' hspb hgb hPb hKK hT5 hB5 hC5 hP5 hsp5 hK5
 go_wp2_with (go_at_call 127;refine (qC3 _ _).mono ?_;rintro e w5 ⟨rfl,rfl⟩)
 go_quiet (fail)
 go_wp2;go_ret;exact⟨rfl,w2,w3,w0.heap.size,HK2.out,HR.out.1,HR.out.2,Nat.le_refl _,HK35.out.drewN _⟩
end Go.Proofs.YtdohpenfkdckiaaGreatDoor
namespace Go.Proofs.YtdohpenfkdckiaaGreatDoor.Gm
open Go.Proofs.Tryz
open Go.RowKit
open Go.ChangeMaps
open Gw (TK Books qH7 qH0 Muts MutC DInv SG qA8 qE1 qI1 DStep qG3 qC6 qI7)
theorem At.same{base:Nat}{T:Int}{w w':World}{g:TG}{q:SG}{i:Nat}{y:YG}(h:At base T w g q i y)(hK:Kp [] w w'):At base T w' g q i y:=
 ⟨h.ok.keep hK (Muts.nil _ _ _) (by simp) (Int.le_refl _),h.T0,h.T1,h.hb,Nat.le_trans h.hbs hK.size,qW4 h.g0 hK h.hb h.hbs (by simp),h.e1,h.e2,h.S.kp hK (Int.le_refl _) (by simp) (by simp) (Apt.nil _ _),fun y hy=>(h.Y y hy).kp hK (Int.le_refl _) (by simp) (Apt.nil _ _),h.hi,h.hy⟩
theorem qX4:(⟨#[]⟩:ByteArray).toList.isEmpty=true:=by
 rw[ByteArray.toList_eq];rfl
theorem zS9{β:Type}(f:CG→β){l:List CG}{i:Nat}(hi:i<l.length){c:CG}(h:f c=f l[i]):(l.set i c).map f=l.map f:=by
 rw[List.map_set,h];exact List.ext_getElem (by simp) (fun j h1 h2=>by
  rw[List.getElem_set];split
  ·rename_i e;subst e;simp
  ·rfl)
theorem xY8{o:Option KV}{ps:List KV}(hok:∀ p∈ps,qE0 p)(ho:∀ p,o=some p→p∈ps):o.isSome=!(pkv o).k.toList.isEmpty:=by
 cases o with
 | none=>simp only[pkv,Option.isSome_none,qX4];rfl
 | some p=>simp only[pkv,Option.isSome_some,qQ9 (hok p (ho p rfl)).1];rfl
theorem At.pointed{base:Nat}{T:Int}{w w':World}{g:TG}{q:SG}{i:Nat}{y:YG}(h:At base T w g q i y)(ho:y.t.over=false)
  (hd:zH1 y.f y.tb base (qG5 y) (fun Cb w1=>w.heap.size≤Cb∧w1.heap[Cb]?=some (qA6 y.f.x ⟨#[]⟩ 0)∧qC6 q w1) [q.St] w w'):DStep qC1 base (T+2) w w' g:=by
 obtain⟨w1,Cb,cb,v',L,⟨hCb,hC1,hS1⟩,hK1,hcb,hc',hT',hrow,hK2,hL,hv⟩:=hd;have hyy:=h.y;obtain⟨es,mc,hM⟩:=Gen.RM.obj h.S.rm;have hs1:=hK1.size;have hb:=h.hbs;have hMut:MutC base [169,197,203] w (q.St::L):=fun k hk=>by
  rcases List.mem_cons.1 hk with rfl|hk
  ·exact⟨h.S.bSt,_,_,_,h.S.hSt,by decide⟩
  ·rcases hL k hk with rfl|hk
   ·exact⟨hyy.bT,_,_,_,hyy.hT,by decide⟩
   ·obtain⟨h1,c,h2⟩:=qD4 hyy.crow k (by simp[hk]);exact⟨h1,_,_,_,h2,by decide⟩
 have hlt:∀ k∈L,k<w.heap.size:=fun k hk=>hMut.muts.lt (List.mem_cons_of_mem _ hk);have hKK:Kp (q.St::L) w w':=(hK1.mono (S':=q.St::L) (fun k hk _=>by simp at hk;simp[hk])).trans hK2 (fun k hk _=>List.mem_cons_of_mem _ hk);have hSL:q.St ∉ L:=fun hm=>by
  rcases hL _ hm with e|e
  ·exact h.tS e.symm
  ·obtain⟨_,c,h2⟩:=qD4 hyy.crow q.St (by simp[e]);exact ω h.S.hSt h2 (by decide) rfl
 have hS':w'.heap[q.St]?=some (ν 0 q.s):=hK2.heap hS1 hSL;have hC':w'.heap[Cb]?=some (qA6 y.f.x ⟨#[]⟩ 0):=hK2.heap hC1 (fun hm=>by have:=hlt _ hm;omega);have hap:∀ Ts:List TypeId,(∀ t∈Ts,t ∉ [169,197,203])→Apt w (q.St::L) Ts:=fun Ts hT=>hMut.muts.apt hT;have ecb:qG5 { y with f:={ y.f with cs:=v' },cs:=y.cs++[⟨cb,Cb,⟨#[]⟩,0⟩] }=qG5 y++[cb]:=by simp[qG5]
 have eCb:qL8 { y with f:={ y.f with cs:=v' },cs:=y.cs++[⟨cb,Cb,⟨#[]⟩,0⟩] }=qL8 y++[Cb]:=by simp[qL8]
 refine h.ok.txn h.e1 h.e2 h.S h.Y i h.hi { y with f:={ y.f with cs:=v' },cs:=y.cs++[⟨cb,Cb,⟨#[]⟩,0⟩] } q hKK (fun k hk=>?_) (by omega) (by rw[h.hy]) (fun k hk=>?_) rfl rfl rfl rfl ?_ ?_
 ·rw[h.hy];rcases List.mem_cons.1 hk with e|hk
  ·exact .inl e
  ·rcases hL k hk with e|e
   ·exact .inr (.inr (qE2.2 (.inl e)))
   ·exact .inr (.inr (qE2.2 (.inr (.inr (.inl e)))))
 ·rw[h.hy];rcases qE2.1 hk with e|e|e|e|e
  ·exact .inl (qE2.2 (.inl e))
  ·exact .inl (qE2.2 (.inr (.inl e)))
  ·rcases hv k e with e|e
   ·exact .inl (qE2.2 (.inr (.inr (.inl e))))
   ·exact .inr (by omega)
  ·rw[ecb] at e;rcases List.mem_append.1 e with e|e
   ·exact .inl (qE2.2 (.inr (.inr (.inr (.inl e)))))
   ·rw[List.mem_singleton.1 e];exact .inr (by omega)
  ·rw[eCb] at e;rcases List.mem_append.1 e with e|e
   ·exact .inl (qE2.2 (.inr (.inr (.inr (.inr e)))))
   ·rw[List.mem_singleton.1 e];exact .inr hCb
 ·have hd0:=hyy.ch0;have hcl:=hyy.clen;obtain⟨a1,a2,a3,a4⟩:=hyy.live ho;refine⟨hyy.bT,hyy.bX,hT',hKK.heap hyy.hx (fun hm=>hap [99] (by decide) _ hm _ _ _ hyy.hx (by decide)),hyy.st,hyy.sp.keep hKK (hap _ (by decide)),by have:=hyy.sz;show ((y.ps.length:Nat):Int)≤T+2;omega,hyy.m0,by have:=hyy.m1;show y.f.most≤T+2;omega,hyy.c0,by have:=hyy.c1;show y.f.chg≤T+2;omega,hyy.s0,by have:=hyy.s1;show y.f.stp≤T+2;omega,hyy.com,hyy.wr,hyy.dn,hyy.ch0,by have:=hyy.ch1;show y.t.ch≤T+2;omega,hyy.stp,?_,?_,fun c hc=>?_,?_,?_,fun _=>⟨a1,a2.keepT hKK (hap _ (by decide)),a3,a4⟩⟩
  ·rw[ecb,List.length_append];exact hrow
  ·show (((y.cs++[_]).length:Nat):Int)≤T+2;rw[List.length_append];simp only[List.length_cons,List.length_nil];omega
  ·rcases List.mem_append.1 hc with hc|hc
   ·have hk:=(hyy.curs c hc).kp hKK (fun hm=>hap [282] (by decide) _ hm _ _ _ (hyy.curs c hc).hc (by decide)) (fun hm=>hap [80] (by decide) _ hm _ _ _ (hyy.curs c hc).hC (by decide));exact⟨hk.bc,hk.bC,hk.hc,hk.hC,hk.s0,hk.s1,hk.at_⟩
   ·rw[List.mem_singleton.1 hc];refine⟨by show base≤cb;omega,by show base≤Cb;omega,?_,hC',Int.le_refl _,hd0,fun hx=>?_⟩
    ·show w'.heap[cb]?=some (ι Cb ⟨#[]⟩ (!(⟨#[]⟩:ByteArray).toList.isEmpty) 0);rw[qX4];exact hc'
    ·simp only[qX4] at hx;cases hx
  ·rw[ecb,List.nodup_append];refine⟨hyy.cbs,by simp,fun a ha b hb' e=>?_⟩;obtain⟨c,hc,rfl⟩:=List.mem_map.1 ha;have:=ζ (hyy.curs c hc).hc;simp at hb';omega
  ·rw[eCb,List.nodup_append];refine⟨hyy.Cbs,by simp,fun a ha b hb' e=>?_⟩;obtain⟨c,hc,rfl⟩:=List.mem_map.1 ha;have:=ζ (hyy.curs c hc).hC;simp at hb';omega
 ·refine h.S.same hKK (by omega) hS' (fun hm=>?_) (hap _ (by decide)) (qO4 kOf h.hi (by rw[h.hy];rfl));obtain⟨_,c,t,fr,b2,b3⟩:=hMut _ hm;rw[hM] at b2;cases b2
theorem jB7(base:Nat)(T:Int)(w:World)(g:TG)(q:SG)(i:Nat)(y:YG)(h:At base T w g q i y):
  Calls prog 136 #[.pointer (some ⟨g.d.B,0,none⟩),.pointer (some ⟨y.tb,0,none⟩)] w fun e w'=>e=.returned (.bool true)∧DStep qC1 base (T+2) w w' g:=by
 have hyy:=h.y;have hT:=h.T1
 cases ho:y.t.over with
 | true=>
  refine (jB4 g.d.B y.tb g.d.A g.d.n g.d.C (.slice none 0 0) g.d.calls g.d.writes (qA8 g.d) y.f y.ps [q.St] (qC6 q) w h.look h.prog1 (by rw[hyy.dn,ho]) ((jF6 y.f.x y.t q.s w hyy.hx ho h.hStt h.S.po (by rw[hyy.st];exact h.xS)).mono ?_)).mono fun e w' ⟨a,w1,b,c,d⟩=>⟨a,h.quiet b c d⟩;rintro e w' ⟨v,a,b,c,d⟩;rw[hyy.st] at c d;exact⟨v,a,b,c,d⟩
 | false=>
  refine (jB5 g.d.B y.tb g.d.A g.d.n g.d.C (.slice none 0 0) g.d.calls g.d.writes (qA8 g.d) y.f y.ps base (qG5 y) [q.St] (fun Cb w1=>w.heap.size≤Cb∧w1.heap[Cb]?=some (qA6 y.f.x ⟨#[]⟩ 0)∧qC6 q w1) w h.look h.prog1 (by rw[hyy.dn,ho]) hyy.crow (by have:=hyy.clen;simp[qG5];omega) h.hbs ((jF5 (E0 q.V) y.f.x g.d.A g.d.n y.t q.s y.r w (h.live ho)).mono ?_)).mono fun e w' ⟨a,b⟩=>⟨a,h.pointed ho b⟩;rintro e w' ⟨Cb,rfl,a,b,c⟩;obtain⟨b1,b2⟩:=qI7 hyy.st c;exact⟨Cb,rfl,⟨a,b,b1⟩,b2⟩
theorem At.moved{base:Nat}{T:Int}{w w':World}{g:TG}{q:SG}{i:Nat}{y:YG}(h:At base T w g q i y)(ho:y.t.over=false)(j:Nat)(hj:j<y.cs.length)(o:Option KV)(hoo:∀ p,o=some p→p∈y.ps)
  (hd:qQ4 y.cs[j].cb y.cs[j].Cb (pkv o).k o.isSome y.f.stp (fun w1=>qC6 q w1∧w1.heap[y.cs[j].Cb]?=some (qA6 y.f.x (pkv o).k y.t.ch)) [q.St,y.cs[j].Cb] w w'):DStep qC1 base (T+2) w w' g:=by
 obtain⟨W,w1,N,hK0,⟨hS1,hC1⟩,hK1,hN,hc',hK2⟩:=hd;have hyy:=h.y;obtain⟨es,mc,hM⟩:=Gen.RM.obj h.S.rm;obtain⟨a1,a2,a3,a4⟩:=hyy.live ho;obtain⟨hso,hok⟩:=qQ3 a3;rw[a4] at hso hok;have hcj:=hyy.curs _ (List.getElem_mem hj);have hcS:q.St≠y.cs[j].cb:=ω h.S.hSt hcj.hc (by decide);have hCc:y.cs[j].Cb≠y.cs[j].cb:=ω hcj.hC hcj.hc (by decide);have hSN:q.St≠N:=fun e=>by have:=ζ h.S.hSt;omega
 have hCN:y.cs[j].Cb≠N:=fun e=>by have:=ζ hcj.hC;omega
 have hMut:MutC base [169,282,80] w [q.St,y.cs[j].Cb,y.cs[j].cb]:=fun k hk=>by
  simp only[List.mem_cons,List.not_mem_nil,or_false] at hk;rcases hk with rfl|rfl|rfl
  ·exact⟨h.S.bSt,_,_,_,h.S.hSt,by decide⟩
  ·exact⟨hcj.bC,_,_,_,hcj.hC,by decide⟩
  ·exact⟨hcj.bc,_,_,_,hcj.hc,by decide⟩
 have hKK:Kp [q.St,y.cs[j].Cb,y.cs[j].cb] w w':=((hK0.mono (S':=[q.St,y.cs[j].Cb,y.cs[j].cb]) (by simp)).trans hK1 (fun k hk _=>by simp at hk ⊢;rcases hk with e | e<;>simp[e])).trans hK2 (fun k hk hl=>by
  simp at hk;rcases hk with e|e
  ·omega
  ·simp[e])
 have hS':w'.heap[q.St]?=some (ν 0 q.s):=hK2.heap hS1 (by simp;exact⟨hSN,hcS⟩);have hC':=hK2.heap hC1 (by simp;exact⟨hCN,hCc⟩);have hap:∀ Ts:List TypeId,(∀ t∈Ts,t ∉ [169,282,80])→Apt w [q.St,y.cs[j].Cb,y.cs[j].cb] Ts:=fun Ts hT=>hMut.muts.apt hT;have ecb:qG5 { y with cs:=y.cs.set j ⟨y.cs[j].cb,y.cs[j].Cb,(pkv o).k,y.t.ch⟩ }=qG5 y:=zS9 CG.cb hj rfl;have eCb:qL8 { y with cs:=y.cs.set j ⟨y.cs[j].cb,y.cs[j].Cb,(pkv o).k,y.t.ch⟩ }=qL8 y:=zS9 CG.Cb hj rfl;have hbs:∀ k (hk:k<y.cs.length),j≠k→y.cs[k].cb≠y.cs[j].cb∧y.cs[k].Cb≠y.cs[j].Cb:=fun k hk hne=>by
  have n1:=List.pairwise_iff_getElem.1 hyy.cbs;have n2:=List.pairwise_iff_getElem.1 hyy.Cbs;simp only[qG5,qL8,List.length_map,List.getElem_map] at n1 n2;rcases Nat.lt_or_gt_of_ne hne with hlt|hgt
  ·exact⟨fun e=>n1 j k hj hk hlt e.symm,fun e=>n2 j k hj hk hlt e.symm⟩
  ·exact⟨n1 k j hk hj hgt,n2 k j hk hj hgt⟩
 refine h.ok.txn h.e1 h.e2 h.S h.Y i h.hi { y with cs:=y.cs.set j ⟨y.cs[j].cb,y.cs[j].Cb,(pkv o).k,y.t.ch⟩ } q hKK (fun k hk=>?_) (by omega) (by rw[h.hy]) (fun k hk=>?_) rfl rfl rfl rfl ?_ ?_
 ·rw[h.hy];simp only[List.mem_cons,List.not_mem_nil,or_false] at hk;rcases hk with e|e|e
  ·exact .inl e
  ·exact .inr (.inr (qE2.2 (.inr (.inr (.inr (.inr (List.mem_map.2 ⟨_,List.getElem_mem hj,e.symm⟩)))))))
  ·exact .inr (.inr (qE2.2 (.inr (.inr (.inr (.inl (List.mem_map.2 ⟨_,List.getElem_mem hj,e.symm⟩)))))))
 ·rw[h.hy];rcases qE2.1 hk with e|e|e|e|e
  ·exact .inl (qE2.2 (.inl e))
  ·exact .inl (qE2.2 (.inr (.inl e)))
  ·exact .inl (qE2.2 (.inr (.inr (.inl e))))
  ·rw[ecb] at e;exact .inl (qE2.2 (.inr (.inr (.inr (.inl e)))))
  ·rw[eCb] at e;exact .inl (qE2.2 (.inr (.inr (.inr (.inr e)))))
 ·refine⟨hyy.bT,hyy.bX,hKK.heap hyy.hT (fun hm=>hap [197] (by decide) _ hm _ _ _ hyy.hT (by decide)),hKK.heap hyy.hx (fun hm=>hap [99] (by decide) _ hm _ _ _ hyy.hx (by decide)),hyy.st,hyy.sp.keep hKK (hap _ (by decide)),by have:=hyy.sz;show ((y.ps.length:Nat):Int)≤T+2;omega,hyy.m0,by have:=hyy.m1;show y.f.most≤T+2;omega,hyy.c0,by have:=hyy.c1;show y.f.chg≤T+2;omega,hyy.s0,by have:=hyy.s1;show y.f.stp≤T+2;omega,hyy.com,hyy.wr,hyy.dn,hyy.ch0,by have:=hyy.ch1;show y.t.ch≤T+2;omega,hyy.stp,?_,?_,fun c hc=>?_,?_,?_,fun _=>⟨a1,a2.keepT hKK (hap _ (by decide)),a3,a4⟩⟩
  ·rw[ecb];refine qI1 hyy.crow hKK (fun k hk hm=>?_);obtain⟨_,c,h2⟩:=qD4 hyy.crow k (by simp[show y.f.cs.ownBlock=some k from hk]);exact hap [203] (by decide) _ hm _ _ _ h2 (by decide)
  ·have hcl:=hyy.clen;show (((y.cs.set j _).length:Nat):Int)≤T+2;rw[List.length_set];omega
  ·obtain⟨k,hk,rfl⟩:=List.getElem_of_mem hc;simp only[List.length_set] at hk;rw[List.getElem_set];split
   ·refine⟨hcj.bc,hcj.bC,?_,hC',hyy.ch0,Int.le_refl _,fun hx _ _=>?_⟩
    ·show w'.heap[y.cs[j].cb]?=some (ι y.cs[j].Cb (pkv o).k (!(pkv o).k.toList.isEmpty) y.t.ch);rw[←xY8 hok hoo,←hyy.stp];exact hc'
    ·cases o with
     | none=>
      simp only[pkv,qX4] at hx;cases hx
     | some p=>
      obtain⟨k',hk',e⟩:=List.getElem_of_mem (hoo p rfl);exact⟨k',hk',by rw[e];rfl⟩
   ·rename_i hne;have hck:=hyy.curs _ (List.getElem_mem hk);obtain⟨n1,n2⟩:=hbs k hk hne;have hkk:=hck.kp hKK (by
     simp only[List.mem_cons,List.not_mem_nil,or_false,not_or];exact⟨ω hck.hc h.S.hSt (by decide),ω hck.hc hcj.hC (by decide),n1⟩) (by
     simp only[List.mem_cons,List.not_mem_nil,or_false,not_or];exact⟨ω hck.hC h.S.hSt (by decide),n2,ω hck.hC hcj.hc (by decide)⟩)
    exact⟨hkk.bc,hkk.bC,hkk.hc,hkk.hC,hkk.s0,hkk.s1,hkk.at_⟩
  ·rw[ecb];exact hyy.cbs
  ·rw[eCb];exact hyy.Cbs
 ·refine h.S.same hKK (by omega) hS' (fun hm=>?_) (hap _ (by decide)) (qO4 kOf h.hi (by rw[h.hy];rfl));obtain⟨_,c,t,fr,b2,b3⟩:=hMut _ hm;rw[hM] at b2;cases b2
theorem At.stay{base:Nat}{T:Int}{w w':World}{g:TG}{q:SG}{i:Nat}{y:YG}(h:At base T w g q i y)(hd:qN6 (qC6 q) [q.St] w w'):DStep qC1 base (T+2) w w' g:=by
 obtain⟨W,w1,N,hK0,hS1,hK1,hN,hK2⟩:=hd;have hKK:Kp [q.St] w w':=((hK0.mono (S':=[q.St]) (by simp)).trans hK1 (fun k hk _=>hk)).trans hK2 (fun k hk hl=>by simp at hk;omega);exact h.ok.quiet h.e1 h.e2 h.S h.Y i h.hi hKK (by simp) (by omega) (hK2.heap hS1 (by
  have:=ζ h.S.hSt;simp;omega))
theorem qT2{l:List KV}{to:Int}{p:KV}(h:qF9 l to=some p):p∈l:=by
 unfold qF9 at h;split at h
 ·cases h
 ·exact List.mem_of_getElem? h
theorem At.progC{base:Nat}{T:Int}{w:World}{g:TG}{q:SG}{i:Nat}{y:YG}(h:At base T w g q i y){c:CG}(hc:c∈y.cs):ProgS w [q.St,c.Cb]:=fun k hk=>by
 have hb:=h.hb;have hc':=h.y.curs c hc;simp only[List.mem_cons,List.not_mem_nil,or_false] at hk;rcases hk with rfl|rfl
 ·exact h.prog1 _ (by simp)
 ·exact⟨by have:=hc'.bC;omega,fun c t fr e=>by rw[hc'.hC] at e;cases e;decide⟩
theorem qS5{q:SG}{W w':World}{Cb x:Nat}{t:Tx}{k:ByteArray}(he:t.St=q.St)(h:CurT (E0 q.V) W w' Cb x t q.s k):(qC6 q w'∧w'.heap[Cb]?=some (qA6 x k t.ch))∧Kp [q.St,Cb] W w':=by
 have h1:=h.hSt;have h2:=h.kp;rw[he] at h1 h2;exact⟨⟨h1,h.hC⟩,h2⟩
theorem mv0(base:Nat)(T:Int)(w:World)(g:TG)(q:SG)(i:Nat)(y:YG)(h:At base T w g q i y)(j:Nat)(hj:j<y.cs.length)(key:ByteArray):
  Calls prog 137 #[.pointer (some ⟨g.d.B,0,none⟩),.pointer (some ⟨y.tb,0,none⟩),.pointer (some ⟨y.cs[j].cb,0,none⟩),.int .i64 0,.string key] w fun e w'=>e=.returned (.bool true)∧DStep qC1 base (T+2) w w' g:=by
 have hyy:=h.y;have hcj:=hyy.curs _ (List.getElem_mem hj);have hlt1:∀ k∈[q.St],k<w.heap.size:=fun k hk=>by rw[List.mem_singleton.1 hk];exact ζ h.S.hSt
 have hlt:∀ k∈[q.St,y.cs[j].Cb],k<w.heap.size:=fun k hk=>by
  simp only[List.mem_cons,List.not_mem_nil,or_false] at hk;rcases hk with rfl|rfl
  ·exact ζ h.S.hSt
  ·exact ζ hcj.hC
 cases ho:y.t.over with
 | true=>
  refine (xS1 g.d.B y.tb y.cs[j].cb y.cs[j].Cb g.d.A g.d.n g.d.C (.slice none 0 0) g.d.calls g.d.writes (qA8 g.d) y.f y.ps y.cs[j].key (!y.cs[j].key.toList.isEmpty) y.cs[j].since key [q.St] (qC6 q) w h.look h.prog1 hlt1 hcj.hc (by rw[hyy.dn,ho]) (fun W hW=>?_)).mono fun e w' ⟨a,b⟩=>⟨a,h.stay b⟩;have hA:=h.same hW;refine (xC2 y.f.x y.t q.s y.cs[j].Cb y.cs[j].key y.cs[j].since W hA.y.hx ho hA.hStt hA.S.po (by rw[hyy.st];exact hA.xS) (hW.hp hcj.hC)).mono ?_;rintro e w' ⟨v,a,b,c,d⟩;rw[hyy.st] at c d;exact⟨v,a,b,c,d⟩
 | false=>
  obtain⟨a1,a2,a3,a4⟩:=hyy.live ho;obtain⟨hso,hok⟩:=qQ3 a3;rw[a4] at hso hok;refine (xS0 g.d.B y.tb y.cs[j].cb y.cs[j].Cb g.d.A g.d.n g.d.C (.slice none 0 0) g.d.calls g.d.writes (qA8 g.d) y.f y.ps y.cs[j].key (!y.cs[j].key.toList.isEmpty) y.cs[j].since key (qF9 y.ps (0)) [q.St,y.cs[j].Cb] (fun w1=>qC6 q w1∧w1.heap[y.cs[j].Cb]?=some (qA6 y.f.x (pkv (qF9 y.ps (0))).k y.t.ch)) w h.look (h.progC (List.getElem_mem hj)) hlt hcj.hc (by rw[hyy.dn,ho]) rfl hok (fun W hW=>?_)).mono fun e w' ⟨a,b⟩=>⟨a,h.moved ho j hj _ (fun p hp=>qT2 hp) b⟩;have hc:=xC1 (E0 q.V) y.f.x g.d.A g.d.n y.t q.s y.r y.cs[j].Cb y.cs[j].key y.cs[j].since W ((h.same hW).live ho) (hW.hp hcj.hC);rw[a4] at hc;rw[xI9] at hc;refine hc.mono ?_;rintro e w' ⟨rfl,hCT⟩;exact⟨rfl,qS5 hyy.st hCT⟩
theorem mv1(base:Nat)(T:Int)(w:World)(g:TG)(q:SG)(i:Nat)(y:YG)(h:At base T w g q i y)(j:Nat)(hj:j<y.cs.length)(key:ByteArray):
  Calls prog 137 #[.pointer (some ⟨g.d.B,0,none⟩),.pointer (some ⟨y.tb,0,none⟩),.pointer (some ⟨y.cs[j].cb,0,none⟩),.int .i64 1,.string key] w fun e w'=>e=.returned (.bool true)∧DStep qC1 base (T+2) w w' g:=by
 have hyy:=h.y;have hcj:=hyy.curs _ (List.getElem_mem hj);have hlt1:∀ k∈[q.St],k<w.heap.size:=fun k hk=>by rw[List.mem_singleton.1 hk];exact ζ h.S.hSt
 have hlt:∀ k∈[q.St,y.cs[j].Cb],k<w.heap.size:=fun k hk=>by
  simp only[List.mem_cons,List.not_mem_nil,or_false] at hk;rcases hk with rfl|rfl
  ·exact ζ h.S.hSt
  ·exact ζ hcj.hC
 cases ho:y.t.over with
 | true=>
  refine (xS3 g.d.B y.tb y.cs[j].cb y.cs[j].Cb g.d.A g.d.n g.d.C (.slice none 0 0) g.d.calls g.d.writes (qA8 g.d) y.f y.ps y.cs[j].key (!y.cs[j].key.toList.isEmpty) y.cs[j].since key [q.St] (qC6 q) w h.look h.prog1 hlt1 hcj.hc (by rw[hyy.dn,ho]) (fun W hW=>?_)).mono fun e w' ⟨a,b⟩=>⟨a,h.stay b⟩;have hA:=h.same hW;refine (xC4 y.f.x y.t q.s y.cs[j].Cb y.cs[j].key y.cs[j].since W hA.y.hx ho hA.hStt hA.S.po (by rw[hyy.st];exact hA.xS) (hW.hp hcj.hC)).mono ?_;rintro e w' ⟨v,a,b,c,d⟩;rw[hyy.st] at c d;exact⟨v,a,b,c,d⟩
 | false=>
  obtain⟨a1,a2,a3,a4⟩:=hyy.live ho;obtain⟨hso,hok⟩:=qQ3 a3;rw[a4] at hso hok;refine (xS2 g.d.B y.tb y.cs[j].cb y.cs[j].Cb g.d.A g.d.n g.d.C (.slice none 0 0) g.d.calls g.d.writes (qA8 g.d) y.f y.ps y.cs[j].key (!y.cs[j].key.toList.isEmpty) y.cs[j].since key (qF9 y.ps ((y.ps.length:Int)-1)) _ [q.St,y.cs[j].Cb] (fun w1=>qC6 q w1∧w1.heap[y.cs[j].Cb]?=some (qA6 y.f.x (pkv (qF9 y.ps ((y.ps.length:Int)-1))).k y.t.ch)) w h.look (h.progC (List.getElem_mem hj)) hlt hcj.hc (by rw[hyy.dn,ho]) rfl rfl hok (fun W hW=>?_)).mono fun e w' ⟨a,b⟩=>⟨a,h.moved ho j hj _ (fun p hp=>qT2 hp) b⟩;have hc:=xC3 (E0 q.V) y.f.x g.d.A g.d.n y.t q.s y.r y.cs[j].Cb y.cs[j].key y.cs[j].since W ((h.same hW).live ho) (hW.hp hcj.hC);rw[a4] at hc;rw[xP8] at hc;refine hc.mono ?_;rintro e w' ⟨rfl,hCT⟩;exact⟨rfl,qS5 hyy.st hCT⟩
theorem mv2(base:Nat)(T:Int)(w:World)(g:TG)(q:SG)(i:Nat)(y:YG)(h:At base T w g q i y)(j:Nat)(hj:j<y.cs.length)(key:ByteArray):
  Calls prog 137 #[.pointer (some ⟨g.d.B,0,none⟩),.pointer (some ⟨y.tb,0,none⟩),.pointer (some ⟨y.cs[j].cb,0,none⟩),.int .i64 2,.string key] w fun e w'=>e=.returned (.bool true)∧DStep qC1 base (T+2) w w' g:=by
 have hyy:=h.y;have hcj:=hyy.curs _ (List.getElem_mem hj);have hlt1:∀ k∈[q.St],k<w.heap.size:=fun k hk=>by rw[List.mem_singleton.1 hk];exact ζ h.S.hSt
 have hlt:∀ k∈[q.St,y.cs[j].Cb],k<w.heap.size:=fun k hk=>by
  simp only[List.mem_cons,List.not_mem_nil,or_false] at hk;rcases hk with rfl|rfl
  ·exact ζ h.S.hSt
  ·exact ζ hcj.hC
 cases ho:y.t.over with
 | true=>
  refine (xT1 g.d.B y.tb y.cs[j].cb y.cs[j].Cb g.d.A g.d.n g.d.C (.slice none 0 0) g.d.calls g.d.writes (qA8 g.d) y.f y.ps y.cs[j].key (!y.cs[j].key.toList.isEmpty) y.cs[j].since key [q.St] (qC6 q) w h.look h.prog1 hlt1 hcj.hc (by rw[hyy.dn,ho]) (fun W hW=>?_)).mono fun e w' ⟨a,b⟩=>⟨a,h.stay b⟩;have hA:=h.same hW;refine (xD2 y.f.x y.t q.s y.cs[j].Cb y.cs[j].key y.cs[j].since key W hA.y.hx ho hA.hStt hA.S.po (by rw[hyy.st];exact hA.xS) (hW.hp hcj.hC)).mono ?_;rintro e w' ⟨v,a,b,c,d⟩;rw[hyy.st] at c d;exact⟨v,a,b,c,d⟩
 | false=>
  obtain⟨a1,a2,a3,a4⟩:=hyy.live ho;obtain⟨hso,hok⟩:=qQ3 a3;rw[a4] at hso hok;refine (xT0 g.d.B y.tb y.cs[j].cb y.cs[j].Cb g.d.A g.d.n g.d.C (.slice none 0 0) g.d.calls g.d.writes (qA8 g.d) y.f y.ps y.cs[j].key (!y.cs[j].key.toList.isEmpty) y.cs[j].since key (qF9 y.ps (((qA0 y.ps key:Nat):Int))) _ [q.St,y.cs[j].Cb] (fun w1=>qC6 q w1∧w1.heap[y.cs[j].Cb]?=some (qA6 y.f.x (pkv (qF9 y.ps (((qA0 y.ps key:Nat):Int)))).k y.t.ch)) w h.look (h.progC (List.getElem_mem hj)) hlt hcj.hc (by rw[hyy.dn,ho]) rfl rfl hok (fun W hW=>?_)).mono fun e w' ⟨a,b⟩=>⟨a,h.moved ho j hj _ (fun p hp=>qT2 hp) b⟩;have hc:=xD1 (E0 q.V) y.f.x g.d.A g.d.n y.t q.s y.r y.cs[j].Cb y.cs[j].key y.cs[j].since key W ((h.same hW).live ho) (hW.hp hcj.hC);rw[a4] at hc;rw[jE1] at hc;refine hc.mono ?_;rintro e w' ⟨rfl,hCT⟩;exact⟨rfl,qS5 hyy.st hCT⟩
theorem mv3(base:Nat)(T:Int)(w:World)(g:TG)(q:SG)(i:Nat)(y:YG)(h:At base T w g q i y)(j:Nat)(hj:j<y.cs.length)(key:ByteArray):
  Calls prog 137 #[.pointer (some ⟨g.d.B,0,none⟩),.pointer (some ⟨y.tb,0,none⟩),.pointer (some ⟨y.cs[j].cb,0,none⟩),.int .i64 3,.string key] w fun e w'=>e=.returned (.bool true)∧DStep qC1 base (T+2) w w' g:=by
 have hyy:=h.y;have hcj:=hyy.curs _ (List.getElem_mem hj);have hlt1:∀ k∈[q.St],k<w.heap.size:=fun k hk=>by rw[List.mem_singleton.1 hk];exact ζ h.S.hSt
 have hlt:∀ k∈[q.St,y.cs[j].Cb],k<w.heap.size:=fun k hk=>by
  simp only[List.mem_cons,List.not_mem_nil,or_false] at hk;rcases hk with rfl|rfl
  ·exact ζ h.S.hSt
  ·exact ζ hcj.hC
 cases ho:y.t.over with
 | true=>
  refine (xS6 g.d.B y.tb y.cs[j].cb y.cs[j].Cb g.d.A g.d.n g.d.C (.slice none 0 0) g.d.calls g.d.writes (qA8 g.d) y.f y.ps y.cs[j].key (!y.cs[j].key.toList.isEmpty) y.cs[j].since key [q.St] (qC6 q) w h.look h.prog1 hlt1 hcj.hc (by rw[hyy.dn,ho]) (fun W hW=>?_)).mono fun e w' ⟨a,b⟩=>⟨a,h.stay b⟩;have hA:=h.same hW;refine (xC6 y.f.x y.t q.s y.cs[j].Cb y.cs[j].key y.cs[j].since W hA.y.hx ho hA.hStt hA.S.po (by rw[hyy.st];exact hA.xS) (hW.hp hcj.hC)).mono ?_;rintro e w' ⟨v,a,b,c,d⟩;rw[hyy.st] at c d;exact⟨v,a,b,c,d⟩
 | false=>
  obtain⟨a1,a2,a3,a4⟩:=hyy.live ho;obtain⟨hso,hok⟩:=qQ3 a3;rw[a4] at hso hok;by_cases hl:y.cs[j].key.toList.isEmpty=true∨y.cs[j].since≠y.t.ch
  ·skip
   refine (xS5 g.d.B y.tb y.cs[j].cb y.cs[j].Cb g.d.A g.d.n g.d.C (.slice none 0 0) g.d.calls g.d.writes (qA8 g.d) y.f y.ps y.cs[j].key (!y.cs[j].key.toList.isEmpty) y.cs[j].since key [q.St] (qC6 q) w h.look h.prog1 hlt1 hcj.hc (by rw[hyy.dn,ho]) (by rw[hyy.stp];rcases hl with hl | hl;exact .inl (by rw[hl];rfl);exact .inr hl) (fun W hW=>?_)).mono fun e w' ⟨a,b⟩=>⟨a,h.stay b⟩;refine (xC7 (E0 q.V) y.f.x g.d.A g.d.n y.t q.s y.r y.cs[j].Cb y.cs[j].key y.cs[j].since W ((h.same hW).live ho) (hW.hp hcj.hC) hl).mono ?_;rintro e w' ⟨v,a,b,c⟩;obtain⟨b1,b2⟩:=qI7 hyy.st c;exact⟨v,a,b,b1,b2⟩
  ·have hk:y.cs[j].key.toList.isEmpty=false∧y.cs[j].since=y.t.ch:=by simpa [not_or] using hl
   obtain⟨jj,hjj,he⟩:=hcj.at_ hk.1 hk.2 ho;have hfi:=xY3 hso hjj;rw[he] at hfi;refine (xS4 g.d.B y.tb y.cs[j].cb y.cs[j].Cb g.d.A g.d.n g.d.C (.slice none 0 0) g.d.calls g.d.writes (qA8 g.d) y.f y.ps y.cs[j].key (!y.cs[j].key.toList.isEmpty) y.cs[j].since key (qF9 y.ps (((qA0 y.ps y.cs[j].key:Nat):Int)+1)) _ [q.St,y.cs[j].Cb] (fun w1=>qC6 q w1∧w1.heap[y.cs[j].Cb]?=some (qA6 y.f.x (pkv (qF9 y.ps (((qA0 y.ps y.cs[j].key:Nat):Int)+1))).k y.t.ch)) w h.look (h.progC (List.getElem_mem hj)) hlt hcj.hc (by rw[hyy.dn,ho]) (by rw[hk.1];rfl) (by rw[hk.2,hyy.stp]) rfl rfl hok (fun W hW=>?_)).mono fun e w' ⟨a,b⟩=>⟨a,h.moved ho j hj _ (fun p hp=>qT2 hp) b⟩;have hc:=xC5 (E0 q.V) y.f.x g.d.A g.d.n y.t q.s y.r y.cs[j].Cb y.cs[j].key y.cs[j].since hk W ((h.same hW).live ho) (hW.hp hcj.hC);rw[a4] at hc;rw[hfi] at hc;refine hc.mono ?_;rintro e w' ⟨rfl,hCT⟩;exact⟨rfl,qS5 hyy.st hCT⟩
theorem mv4(base:Nat)(T:Int)(w:World)(g:TG)(q:SG)(i:Nat)(y:YG)(h:At base T w g q i y)(j:Nat)(hj:j<y.cs.length)(key:ByteArray):
  Calls prog 137 #[.pointer (some ⟨g.d.B,0,none⟩),.pointer (some ⟨y.tb,0,none⟩),.pointer (some ⟨y.cs[j].cb,0,none⟩),.int .i64 4,.string key] w fun e w'=>e=.returned (.bool true)∧DStep qC1 base (T+2) w w' g:=by
 have hyy:=h.y;have hcj:=hyy.curs _ (List.getElem_mem hj);have hlt1:∀ k∈[q.St],k<w.heap.size:=fun k hk=>by rw[List.mem_singleton.1 hk];exact ζ h.S.hSt
 have hlt:∀ k∈[q.St,y.cs[j].Cb],k<w.heap.size:=fun k hk=>by
  simp only[List.mem_cons,List.not_mem_nil,or_false] at hk;rcases hk with rfl|rfl
  ·exact ζ h.S.hSt
  ·exact ζ hcj.hC
 cases ho:y.t.over with
 | true=>
  refine (xS9 g.d.B y.tb y.cs[j].cb y.cs[j].Cb g.d.A g.d.n g.d.C (.slice none 0 0) g.d.calls g.d.writes (qA8 g.d) y.f y.ps y.cs[j].key (!y.cs[j].key.toList.isEmpty) y.cs[j].since key [q.St] (qC6 q) w h.look h.prog1 hlt1 hcj.hc (by rw[hyy.dn,ho]) (fun W hW=>?_)).mono fun e w' ⟨a,b⟩=>⟨a,h.stay b⟩;have hA:=h.same hW;refine (xC9 y.f.x y.t q.s y.cs[j].Cb y.cs[j].key y.cs[j].since W hA.y.hx ho hA.hStt hA.S.po (by rw[hyy.st];exact hA.xS) (hW.hp hcj.hC)).mono ?_;rintro e w' ⟨v,a,b,c,d⟩;rw[hyy.st] at c d;exact⟨v,a,b,c,d⟩
 | false=>
  obtain⟨a1,a2,a3,a4⟩:=hyy.live ho;obtain⟨hso,hok⟩:=qQ3 a3;rw[a4] at hso hok;by_cases hl:y.cs[j].key.toList.isEmpty=true∨y.cs[j].since≠y.t.ch
  ·skip
   refine (xS8 g.d.B y.tb y.cs[j].cb y.cs[j].Cb g.d.A g.d.n g.d.C (.slice none 0 0) g.d.calls g.d.writes (qA8 g.d) y.f y.ps y.cs[j].key (!y.cs[j].key.toList.isEmpty) y.cs[j].since key [q.St] (qC6 q) w h.look h.prog1 hlt1 hcj.hc (by rw[hyy.dn,ho]) (by rw[hyy.stp];rcases hl with hl | hl;exact .inl (by rw[hl];rfl);exact .inr hl) (fun W hW=>?_)).mono fun e w' ⟨a,b⟩=>⟨a,h.stay b⟩;refine (xD0 (E0 q.V) y.f.x g.d.A g.d.n y.t q.s y.r y.cs[j].Cb y.cs[j].key y.cs[j].since W ((h.same hW).live ho) (hW.hp hcj.hC) hl).mono ?_;rintro e w' ⟨v,a,b,c⟩;obtain⟨b1,b2⟩:=qI7 hyy.st c;exact⟨v,a,b,b1,b2⟩
  ·have hk:y.cs[j].key.toList.isEmpty=false∧y.cs[j].since=y.t.ch:=by simpa [not_or] using hl
   obtain⟨jj,hjj,he⟩:=hcj.at_ hk.1 hk.2 ho;have hfi:=jB6 hso hjj;rw[he] at hfi;refine (xS7 g.d.B y.tb y.cs[j].cb y.cs[j].Cb g.d.A g.d.n g.d.C (.slice none 0 0) g.d.calls g.d.writes (qA8 g.d) y.f y.ps y.cs[j].key (!y.cs[j].key.toList.isEmpty) y.cs[j].since key (qF9 y.ps (((qA0 y.ps y.cs[j].key:Nat):Int)-1)) _ [q.St,y.cs[j].Cb] (fun w1=>qC6 q w1∧w1.heap[y.cs[j].Cb]?=some (qA6 y.f.x (pkv (qF9 y.ps (((qA0 y.ps y.cs[j].key:Nat):Int)-1))).k y.t.ch)) w h.look (h.progC (List.getElem_mem hj)) hlt hcj.hc (by rw[hyy.dn,ho]) (by rw[hk.1];rfl) (by rw[hk.2,hyy.stp]) rfl rfl hok (fun W hW=>?_)).mono fun e w' ⟨a,b⟩=>⟨a,h.moved ho j hj _ (fun p hp=>qT2 hp) b⟩;have hc:=xC8 (E0 q.V) y.f.x g.d.A g.d.n y.t q.s y.r y.cs[j].Cb y.cs[j].key y.cs[j].since hk W ((h.same hW).live ho) (hW.hp hcj.hC);rw[a4] at hc;rw[hfi] at hc;refine hc.mono ?_;rintro e w' ⟨rfl,hCT⟩;exact⟨rfl,qS5 hyy.st hCT⟩
theorem xX9(base:Nat)(T:Int)(w:World)(g:TG)(q:SG)(i:Nat)(y:YG)(h:At base T w g q i y)(j:Nat)(hj:j<y.cs.length)(how:Nat)(hh:how<5)(key:ByteArray):
  Calls prog 137 #[.pointer (some ⟨g.d.B,0,none⟩),.pointer (some ⟨y.tb,0,none⟩),.pointer (some ⟨y.cs[j].cb,0,none⟩),.int .i64 (how:Nat),.string key] w fun e w'=>e=.returned (.bool true)∧DStep qC1 base (T+2) w w' g:=by
 match how,hh with
 | 0,_=>exact mv0 base T w g q i y h j hj key
 | 1,_=>exact mv1 base T w g q i y h j hj key
 | 2,_=>exact mv2 base T w g q i y h j hj key
 | 3,_=>exact mv3 base T w g q i y h j hj key
 | 4,_=>exact mv4 base T w g q i y h j hj key
end Go.Proofs.YtdohpenfkdckiaaGreatDoor.Gm
