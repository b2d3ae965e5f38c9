import Derived.Test.YtdohpenfkdckiaaGreatDoorJ25
set_option linter.all false
set_option maxRecDepth 100000
set_option maxHeartbeats 20000000
namespace Go.Proofs.YtdohpenfkdckiaaGreatDoor
open Go.Proofs.Tryz
open Go.RowKit
theorem xE3{p:ByteArray}(h:1<=p.size):p.toList.isEmpty=false:=by
 rw[ByteArray.toList_eq]
 cases h2:p.data.toList with
 | nil=>
  have b:p.data.toList.length=0:=by rw[h2];rfl
  have c:p.size=p.data.toList.length:=Array.length_toList.symm;omega
 | cons a l=>rfl
theorem ProgS.more{w w'}{S}(h:ProgS w S)(hK:Kp [] w w')(a:∀ k∈S,k<w.heap.size):ProgS w' S:=λk hk=>⟨(h k hk).1,λc t fr e=>(h k hk).2 c t fr (by
 have:=hK.block k (a k hk) sM;rw[<-this];exact e)⟩
def zU8(cb Cb:Nat)(key:ByteArray)(on:Bool)(stp:Int)(R:World→Prop)(S:List Nat)(w w':World):Prop:=
 ∃ W w1 N,Kp [] w W∧R w1∧Kp S W w1∧w.heap.size≤N∧w'.heap[cb]?=some (qM5 Cb key on stp)∧Kp [N,cb] w1 w'
def zU9(R:World→Prop)(S:List Nat)(w w':World):Prop:=∃ W w1 N,Kp [] w W∧R w1∧Kp S W w1∧w.heap.size≤N∧Kp [N] w1 w'
inductive MvEnd (cb Cb:Nat) (key:ByteArray) (on:Bool) (stp:Int) (R:World→Prop) (S:List Nat) (w w':World):Option Int→Prop
 | done (h:zU8 cb Cb key on stp R S w w'):MvEnd cb Cb key on stp R S w w' none
 | same {j:Int} (h:zU9 R S w w'):MvEnd cb Cb key on stp R S w w' (some j)
def qW1(ps:List KV)(key sk:ByteArray):Nat→Int
 | 0=>0
 | 1=>(ps.length:Int)-1
 | 2=>(qB0 ps sk:Nat)
 | 3=>(qB0 ps key:Nat)+1
 | _=>(qB0 ps key:Nat)-1
def mvE(z:Int→Int)(ps:List KV)(key sk:ByteArray)(m:Nat):Nat→Int
 | 0=>0
 | 1=>z ((m:Int)-1)
 | 2=>(qB0 ps sk:Nat)
 | 3=>z (((qB0 ps key:Nat):Int)+1)
 | _=>z (((qB0 ps key:Nat):Int)-1)
def xS1(f:TF)(ps:List KV)(key sk:ByteArray)(con:Bool)(cstp:Int)(how:Nat)(J:Option Int)(o:Option KV):Prop:=
 (J=some 5∧f.dn=true∧o=none)∨(J=some 11∧f.dn=false∧3≤how∧(con=false∨cstp≠f.stp)∧o=none)∨(J=none∧f.dn=false∧(3≤how→con=true∧cstp=f.stp)∧(∀ q∈ps,qC6 q)∧o=if qW1 ps key sk how<0 then none else ps[(qW1 ps key sk how).toNat]?)
def qR3(how:Nat)(hw:Int):Prop:=∀ (B tb cb Cb A n C:Nat) (cache:Value) (calls writes:Int) (k:KF) (f:TF) (ps:List KV) (ckey:ByteArray) (con:Bool) (cstp:Int) (key:ByteArray) (J:Option Int) (o:Option KV) (S:List Nat) (R:World→Prop) (w:World) (to:Int) (hI:LkIn w B tb A n C cache calls writes k f ps) (hP:ProgS w S) (hlt:∀ k∈S,k<w.heap.size) (hC:w.heap[cb]?=some (qM5 Cb ckey con cstp)) (hto:qW1 ps ckey key how=to) (hE:mvE wrap64 ps ckey key ps.length how=to) (hj:xS1 f ps ckey key con cstp how J o)
  (hcall:∀ W,Kp [] w W→Calls prog (mvF how) (mvA Cb key how) W fun e w'=>∃ v,e=mvv (pkv o).k (pkv o).v o.isSome v∧ErrV w' v J∧R w'∧Kp S W w'),
  Calls prog 137 #[.pointer (some ⟨B,0,none⟩),.pointer (some ⟨tb,0,none⟩),.pointer (some ⟨cb,0,none⟩),.int .i64 hw,.string key] w fun e w'=>e=.returned (.bool true)∧MvEnd cb Cb (pkv o).k o.isSome f.stp R S w w' J
theorem kB2{z:Int->Int}{ps}{key sk}{m:Nat}{a:Int}(h:mvE z ps key sk m 1=a):z ((m:Int)-1)=a:=h
theorem kB3{z:Int->Int}{ps}{key sk}{m:Nat}{a:Int}(h:mvE z ps key sk m 3=a):z (((qB0 ps key:Nat):Int)+1)=a:=h
theorem kB4{z:Int->Int}{ps}{key sk}{m:Nat}{a:Int}(h:mvE z ps key sk m 4=a):z (((qB0 ps key:Nat):Int)-1)=a:=h
theorem kB5{z:Int->Int}{ps}{key sk}{a:Nat}(c:Hw a)(b:∀ x:Int,-2<=x->x<=ps.length+1->z x=x):mvE z ps key sk ps.length a=qW1 ps key sk a:=by
 have d:=qX0 ps key;rcases c with rfl|rfl|rfl|rfl|rfl
 .rfl
 .exact b _ oM oM
 .rfl
 .exact b _ oM oM
 .exact b _ oM oM
theorem kB6{ps}{key sk}{a:Nat}(b:Hw a)(e:ps.length<=1000000):mvE wrap64 ps key sk ps.length a=qW1 ps key sk a:=kB5 b λx c d=>by simp only[wrap64];omega
theorem zA3{how:Nat}{hw:Int}(h:qR3 how hw:=by
 intro B tb cb Cb A n C cache calls writes k f ps ckey con cstp key J o S R w to hI hP hlt hC hto hE hj hcall;have HJ:=hid hj;obtain⟨fk,hfk⟩:∃ fk,(pkv o).k=fk:=⟨_,rfl⟩;obtain⟨fv,hfv⟩:∃ fv,(pkv o).v=fv:=⟨_,rfl⟩;obtain⟨fb,hfb⟩:∃ fb,o.isSome=fb:=⟨_,rfl⟩;rw[hfk,hfv,hfb] at hcall;rw[hfk,hfb];have HF:Hid ((pkv o).k=fk∧(pkv o).v=fv∧o.isSome=fb):=⟨hfk,hfv,hfb⟩;have HTO:=hid hto;have HE:=hid hE;clear hj hfk hfv hfb hto hE;have HLT:=zh hlt;clear hlt;have hBs:=ζ hI.hB;have hTs:=ζ hI.hT;have hAs:=ζ hI.hA;have hCs:=ζ hC;have HI:=zh hI;have HP:=zh hP;have HC:=zh hC;have hB:=hI.hB;have hT:=hI.hT;have hkA:=hI.kA;obtain⟨vb,vc,hvv⟩:=hI.sp.form;obtain⟨m,hm⟩:∃ m,ps.length=m:=⟨_,rfl⟩;rw[hm] at hvv;have HM:=zh hm;have HVV:=zh hvv;have b0:=ξ hB 0;simp only[kob,zG,zH,zI] at b0;rw[hkA] at b0;have HCALL:=hcall;clear hI hP hC hB hT hkA hcall hvv hm;go_enter func137,ntmps137;go_wp2_with fail;refine (qK6 A n C cache calls writes w HI.out.hA).mono ?_;rintro e w0 ⟨rfl,rfl⟩;have hT0:=ν (.cells #[.string ⟨#[]⟩,.string ⟨#[]⟩] 42) HI.out.hT;have t1:=ξ hT0 1;simp only[tob,zG,zH,zI] at t1;rw[HVV.out] at t1;clear b0;go_wp2_with fail;clear t1 hT0;obtain⟨wa,hwa,hPa,hKa,hsa⟩:=xK7 w0 (.cells #[.string ⟨#[]⟩,.string ⟨#[]⟩] 42);rw[←hwa];clear hwa;have hTa:=hKa.hp HI.out.hT;have hCa:=hKa.hp HC.out;have hSd:wa.drew.heap[tb]?=some (tob f)∧wa.drew.heap[cb]?=some (qM5 Cb ckey con cstp):=⟨hTa,hCa⟩;refine wp_region_held_drew (S:=fun W=>W.heap[tb]?=some (tob f)∧W.heap[cb]?=some (qM5 Cb ckey con cstp)) (by kernel_rfl) hSd (fun _=>?_);refine zP 0 tb 0 hSd ?_;refine zP 1 tb 0 hSd ?_;refine zP 2 tb 1 hSd ?_;refine zP 3 tb 1 hSd ?_;refine zV 4 (.agg #[.slice vb m vc]) rfl (fun W hS=>by have c:=ξ hS.1 1;simp only[tob,zG,zH,zI] at c;rw[HVV.out] at c;clear hS;go_simp) hSd ?_;refine zP 5 cb 0 hSd ?_;refine zP 6 cb 0 hSd ?_;refine zP 7 cb 1 hSd ?_;refine zP 8 cb 1 hSd ?_;refine zV 9 (.string ckey) rfl (fun W hS=>by have c:=ξ hS.2 1;simp only[qM5,zG,zH,zI] at c;clear hS;go_simp) hSd ?_;refine zq 10 fun K hK=>?_;go_simp;have hspd:SPR wa.drew (.slice vb m vc) ps:=by rw[←HVV.out];exact HI.out.sp.keep0 (hKa.drew)
 refine (xN3 (.slice vb m vc) ps ckey wa.drew hspd (by have:=HI.out.sz;omega)).mono ?_;rintro e w2 ⟨rfl,hK2⟩;have hKw2:Kp [] w0 w2:=(hKa.drew).tr hK2;have hPw2:w2.heap[w0.heap.size]?=some (.cells #[.string ⟨#[]⟩,.string ⟨#[]⟩] 42):=hK2.heap (w:=wa.drew) hPa (by simp);have hT2:=hKw2.hp HI.out.hT;have hC2:=hKw2.hp HC.out;have hS2:w2.heap[tb]?=some (tob f)∧w2.heap[cb]?=some (qM5 Cb ckey con cstp):=⟨hT2,hC2⟩;refine hK.out _ _ hS2 (fun _=>?_);clear hK K hSd hspd
 try simp only[zZ]
 refine zU 11 (.int .i64 (qB0 ps ckey:Nat)) hS2 ?_;refine zd ?_;have HK2:=zh hKw2;have HP2:=zh hPw2;have hC2s:=ζ hC2;have hT2s:=ζ hT2;have c0:=ξ hC2 0;simp only[qM5,zG,zH,zI] at c0;clear hS2 hK2 hKw2 hPw2 hTa hCa hKa hPa hT2 hC2;have hE:=HE.out;rw[HM.out] at hE;have HW:=hid hE;clear hE HE;go_wp2_with fail;refine (HCALL w2 HK2.out).mono ?_;rintro e w3 ⟨v,rfl,hv,hR,hK3⟩;have hP2s:=ζ HP2.out;have hQ:=HP.out.more HK2.out HLT.out;have hT3:=hQ.stay hK3 (HK2.out.hp HI.out.hT) (by decide);have hB3:=hQ.stay hK3 (HK2.out.hp HI.out.hB) (by decide);have hC3:=hQ.stay hK3 (HK2.out.hp HC.out) (by decide);have hP3:=hQ.stay hK3 HP2.out (by decide);have hsp3:=(HI.out.sp.keep0 HK2.out).keep hK3 (hQ.apt (by decide));have hg3:=hQ.g0 hK3 ((HK2.out.cell (a:=⟨0,0,none⟩) (by show 0<w0.heap.size;omega) (by simp)).trans HI.out.g0) (by omega);have HR:Hid (R w3∧Kp S w2 w3):=⟨hR,hK3⟩;have hP3s:=ζ hP3;have z0:=ξ hP3;have fz0:=φ hP3;have HP3:=zh hP3;have HV:=zh hv;have hT3s:=ζ hT3;have t1:=ξ hT3 1;simp only[tob,zG,zH,zI] at t1;rw[HVV.out] at t1;have hne3:w0.heap.size≠tb:=by omega
 clear hR hK3 hP3 c0 hQ hv;go_wp2_with fail;have hts:=qI2 (.string fk) (.string fv) HP3.out;obtain⟨w4,hw4,hP4,hK4⟩:∃ w4,w4=(w3.setCell ⟨w0.heap.size,0,none⟩ (.string fk)).setCell ⟨w0.heap.size,1,none⟩ (.string fv)∧w4.heap[w0.heap.size]?=some (.cells #[.string fk,.string fv] 42)∧Kp [w0.heap.size] w3 w4:=⟨_,rfl,hts.1,hts.2⟩;rw[←hw4];clear hw4 hts z0 fz0 t1 hne3;have hT4:=hK4.ho hT3;have hB4:=hK4.ho hB3;have hC4:=hK4.ho hC3;have hsp4:=hsp3.keep hK4 (fun k hk c t fr e=>by rw[List.mem_singleton.1 hk,HP3.out] at e;cases e;decide);have hg4:w4.cell? ⟨0,0,none⟩=some qE9:=(hK4.cell (a:=⟨0,0,none⟩) (by show 0<w3.heap.size;omega) (by simp;omega)).trans hg3;have HV4:Hid (ErrV w4 v J):=HV.out.keep hK4 (fun i hi c fr e=>by rw[List.mem_singleton.1 hi,HP3.out] at e;cases e);clear hT3 hB3 hC3 hsp3 hg3 hT3s
 try
  have hSP4:SPR w4 (.slice vb m vc) ps:=by rw[←HVV.out];exact hsp4
  refine (xN3 (.slice vb m vc) ps key w4 hSP4 (by have:=HI.out.sz;omega)).mono ?_;rintro e w4 ⟨rfl,hKb⟩
  replace hT4:=hKb.hp hT4
  replace hB4:=hKb.hp hB4
  replace hC4:=hKb.hp hC4
  replace hP4:=hKb.hp hP4
  replace hsp4:=hsp4.keep0 hKb
  replace hg4:w4.cell? ⟨0,0,none⟩=some qE9:=(hKb.cell (a:=⟨0,0,none⟩) (by show 0<_;have:=hK4.size;omega) (by simp)).trans hg4
  replace hK4:Kp [w0.heap.size] w3 w4:=hK4.tr hKb
  have hV4b:=HV4.out.keep hKb (by simp);clear hSP4 hKb HV4;have HV4:=hid hV4b;clear hV4b;go_wp2_with fail
 try first | rw[show wrap64 ((m:Int)-1)=to from kB2 HW.out] | rw[show ((qB0 ps key:Nat):Int)=to from HW.out] | rw[show wrap64 (((qB0 ps ckey:Nat):Int)+1)=to from kB3 HW.out] | rw[show wrap64 (((qB0 ps ckey:Nat):Int)-1)=to from kB4 HW.out]
 refine (qJ7 v J w4 hg4 HV4.out).mono ?_;rintro e w5 ⟨rfl,hK5⟩;have hT5:=hK5.hp hT4;have hB5:=hK5.hp hB4;have hC5:=hK5.hp hC4;have hP5:=hK5.hp hP4;have hsp5:=hsp4.keep0 hK5;have HK35:Hid (Kp [w0.heap.size] w3 w5):=hK4.tr hK5;have hT5s:=ζ hT5;have hB5s:=ζ hB5;have hC5s:=ζ hC5;have hP5s:=ζ hP5;have HC5:=zh hC5;have HT5:=zh hT5;have b10:=ξ hB5 10;simp only[kob,zG,zH,zI] at b10;rw[HI.out.po] at b10;have t1:=ξ hT5 1;have t3:=ξ hT5 3;have t7:=ξ hT5 7;simp only[tob,zG,zH,zI] at t1 t3 t7;rw[HVV.out] at t1;have z0:=ξ hP5 0;have z1:=ξ hP5 1;simp only[zG,zH,zI] at z0 z1;have c1:=ξ hC5 1;have c2:=ξ hC5 2;have c3:=ξ hC5 3;simp only[qM5,zG,zH,zI] at c1 c2 c3;have fc1:=φ hC5;have HSP5:Hid (SPR w5 (.slice vb m vc) ps):=by rw[←HVV.out];exact hsp5
 clear hT4 hB4 hC4 hsp4 hg4 hP4 hK4 hT5 hB5 hC5 hP5 hsp5 hK5 HV4;obtain⟨hfk,hfv,hfb⟩:=HF.out;rcases HJ.out with⟨rfl,hdn,rfl⟩|⟨rfl,hdn,h3,hlo,rfl⟩|⟨rfl,hdn,hon,hok,ho⟩
 all_goals rw[hdn] at t3
 all_goals clear hdn
 ·subst hfk hfv hfb;simp only[pkv,Option.isSome_none] at z0 z1 ⊢;cases con
  all_goals
   go_wp2_with (go_at_call 127;refine (qH6 _ _).mono ?_;rintro e w5 ⟨rfl,rfl⟩)
   go_quiet (fail)
   go_wp2;go_ret;exact⟨rfl,.same ⟨w2,w3,w0.heap.size,HK2.out,HR.out.1,HR.out.2,Nat.le_refl _,HK35.out.drewN _⟩⟩
 ·first
  | (exfalso;omega)
  | skip
  all_goals
   subst hfk hfv hfb;clear h3;simp only[pkv,Option.isSome_none] at z0 z1 ⊢;cases con
   all_goals
    try have hne:¬cstp=f.stp:=by simpa using hlo
    clear hlo
    go_wp2_with (go_at_call 127;refine (qH6 _ _).mono ?_;rintro e w5 ⟨rfl,rfl⟩)
    go_quiet (fail)
    go_wp2;go_ret;exact⟨rfl,.same ⟨w2,w3,w0.heap.size,HK2.out,HR.out.1,HR.out.2,Nat.le_refl _,HK35.out.drewN _⟩⟩
 ·try (obtain⟨h1,h2⟩:=hon (Nat.le_of_ble_eq_true rfl);rw[h1] at c2;rw[h2] at c3;clear h1 h2)
  clear hon;rw[HTO.out] at ho;have HO:=hid ho;have HOK:=hid hok;clear ho hok
  cases o with
  | none=>
   subst hfk hfv hfb;simp only[pkv,Option.isSome_none] at z0 z1 ⊢
   go_wp2_with (go_at_call 127;refine (qH6 _ _).mono ?_;rintro e w5 ⟨rfl,rfl⟩)
   go_quiet (fail)
   by_cases hneg:to<0
   ·try (have h0:(0:Int)=to:=HW.out;omega)
    all_goals
     go_wp2;go_ret;have hend:=HC5.out;have hK:Kp [w0.heap.size,cb] w3 (((w5.setCell ⟨cb,1,none⟩ (.string ⟨#[]⟩)).setCell ⟨cb,2,none⟩ (.bool false)).setCell ⟨cb,3,none⟩ (.int .i64 f.stp)):=((((HK35.out.mono (S':=[w0.heap.size,cb]) (by simp +contextual)).sc _).sc _).sc _);exact⟨rfl,.done ⟨w2,w3,w0.heap.size,HK2.out,HR.out.1,HR.out.2,Nat.le_refl _,μ (μ (μ hend 1 _) 2 _) 3 _,by first | exact hK | exact hK.drewN _ | exact hK.drew⟩⟩
   ·have hge:(m:Int)≤to:=by
     have h:=HO.out;rw[if_neg hneg] at h;have h2:=List.getElem?_eq_none_iff.1 h.symm;have h3:=HM.out;omega
    try (have h0:(0:Int)=to:=HW.out;rw[←h0] at hge hneg;clear h0)
    go_wp2;go_ret;have hend:=HC5.out;have hK:Kp [w0.heap.size,cb] w3 (((w5.setCell ⟨cb,1,none⟩ (.string ⟨#[]⟩)).setCell ⟨cb,2,none⟩ (.bool false)).setCell ⟨cb,3,none⟩ (.int .i64 f.stp)):=((((HK35.out.mono (S':=[w0.heap.size,cb]) (by simp +contextual)).sc _).sc _).sc _);exact⟨rfl,.done ⟨w2,w3,w0.heap.size,HK2.out,HR.out.1,HR.out.2,Nat.le_refl _,μ (μ (μ hend 1 _) 2 _) 3 _,by first | exact hK | exact hK.drewN _ | exact hK.drew⟩⟩
  | some p=>
   subst hfk hfv hfb;simp only[pkv,Option.isSome_some] at z0 z1 ⊢;obtain⟨i,hi,hpi⟩:∃ i:Nat,to=(i:Int)∧ps[i]?=some p:=by
    have h:=HO.out;by_cases hneg:to<0
    ·rw[if_pos hneg] at h;cases h
    ·rw[if_neg hneg] at h;exact⟨to.toNat,by omega,h.symm⟩
   subst hi;have HPE:Hid (p.k.toList.isEmpty=false):=xE3 (HOK.out p (List.mem_of_getElem? hpi)).1;have hpe:=HPE.out;obtain⟨hl0,hpx⟩:=List.getElem?_eq_some_iff.1 hpi;have hmi:(i:Int)<(m:Int):=by have:=HM.out;omega
   have hng:¬(i:Int)<0:=by omega
   have hnge:¬(m:Int)≤(i:Int):=by omega
   obtain⟨gp,off,cap,cur,fr,hvs,hcap,hgrow,hcur⟩:=HSP5.out.at (by omega);simp only[Value.slice.injEq] at hvs;obtain⟨rfl,hmm,rfl⟩:=hvs;clear hmm;obtain⟨a0,a1⟩:=hcur i hl0;rw[hpx] at a0 a1;have q0:=ξ hgrow (off+i*2);rw[a0] at q0;have q1:=ξ hgrow (off+i*2+1);rw[a1] at q1;have hgs:=ζ hgrow;have hgc:gp≠cb:=ω hgrow HC5.out (by decide);have hgt':gp≠tb:=ω hgrow HT5.out (by decide);have htc:tb≠cb:=ω HT5.out HC5.out (by decide);have hpc':w0.heap.size≠cb:=by omega
   clear hgrow hcur a0 a1 hpi hpx
   try
    have h0:(0:Int)=(i:Int):=HW.out;obtain rfl:i=0:=by omega
    clear h0;clear hng hnge;have hmp:¬m=0:=by omega
    replace hmi:(0:Int)<(m:Int):=by omega
    simp only[Nat.zero_mul,Nat.add_zero] at q0 q1
   go_wp2_with (go_at_call 127;refine (qH6 _ _).mono ?_;rintro e w5 ⟨rfl,rfl⟩)
   go_quiet (fail)
   go_wp2_with fail
   go_quiet (fail)
   go_wp2;go_ret;have hend:=HC5.out;refine⟨by simp,.done ⟨w2,w3,w0.heap.size,HK2.out,HR.out.1,HR.out.2,Nat.le_refl _,μ (μ (μ (μ (μ hend 1 _) 2 _) 3 _) 2 _) 1 _,?_⟩⟩;exact ((((((HK35.out.mono (S':=[w0.heap.size,cb]) (by simp +contextual)).drewN _).sc _).sc _).sc _).sc _ |>.sc _ |>.drewN _)):qR3 how hw:=h
theorem kA6:qR3 0 0:=zA3
end Go.Proofs.YtdohpenfkdckiaaGreatDoor
