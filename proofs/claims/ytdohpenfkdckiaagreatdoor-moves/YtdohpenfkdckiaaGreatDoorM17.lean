import Derived.Test.YtdohpenfkdckiaaGreatDoorM16
set_option linter.all false
set_option maxRecDepth 100000
set_option maxHeartbeats 20000000
namespace Go.Proofs.YtdohpenfkdckiaaGreatDoor.Gen
open Go.Proofs.Tryz
open Go.RowKit
def O0:qE7:=fun _ _ _ _=>False
def E0(V:Nat):SEnv where
 O:=O0
 V:=V
 S:=[]
 Dev:=fun _=>True
 keep:=fun _ _ _ _ _ _=>trivial
 apt:=fun _ _ k hk=>by cases hk
 low:=fun _ _ k hk=>by cases hk
 pos:=fun _ _ _ _ h=>h.elim
 lvl:=fun _ _ _ _ h=>h.elim
 read:=fun n h r l a w _ hr hp _=>by
  have h2:=hr.2
  cases hl:l.ref with
  | none=>
   rw[hl] at h2;obtain⟨_,_,q,h3,_⟩:=h2;rw[hp] at h3;cases h3
  | some x=>
   rw[hl] at h2;exact h2.2.2.2.elim
 keepX:=fun _ _ _ _ _ _=>trivial
 offS:=fun _ _ k hk=>by cases hk
theorem jA8(p:Option Addr)(c:Nat)(w:World):Calls prog 189 #[.slice p 0 c] w fun e w'=>e=.returned (.slice none 0 0)∧w'=w:=by
 go_enter func189,ntmps189;go_wp2_with fail;refine wp_loop_rounds 1 ?_;rw[rounds_succ];go_wp2;go_ret;exact⟨rfl,rfl⟩
theorem RGood.none:RGood .none:=by simp[RGood]
theorem RM.obj{w:World}{V M n:Nat}{D:DataW Unit}(h:RM w V M n D):∃ es c,w.heap[M]?=some (.map es c):=by
 obtain⟨es,c,h1,_⟩:=h;exact⟨es,c,h1⟩
theorem APM{w:World}{St M:Nat}{s:Sto}(S:List Nat)(T:TypeId)(hT:T≠169)(hSt:w.heap[St]?=some (ν 0 s))(hM:w.heap[M]?=some (.map #[] 0)):∀ k c t fr,w.heap[k]?=some (.cells c t fr)→k∈[St,M]→t≠T:=by
 intro k c t fr h hk;simp only[List.mem_cons,List.not_mem_nil,or_false] at hk;rcases hk with rfl|rfl
 ·rw[hSt] at h;cases h;exact fun e=>hT e.symm
 ·rw[hM] at h;cases h
def StOk(Db St V M A n:Nat)(N:Int)(w:World):Prop:=
 w.heap[Db]?=some (.cells #[.pointer (some ⟨St,0,none⟩)] 102)∧w.heap[St]?=some (ν 0 ((qK6 V M N).read.left 1))∧w.heap[V]?=some (qC5 A n)∧∃ D,RM w V M 1 D∧Maps.size D=0∧∀ m,Maps.has D (qC8 m)=false
theorem StOk.keep{Db St V M A n:Nat}{N:Int}{w w':World}{B:Nat}(h:StOk Db St V M A n N w)(hK:Kp [B] w w'){c:Array Value}(hB:w.heap[B]?=some (.cells c 130)):StOk Db St V M A n N w':=by
 obtain⟨h1,h2,h3,D,h4,h6⟩:=h;obtain⟨es,c',h5⟩:=RM.obj h4;refine⟨hK.heap h1 (by simp;exact qG2 h1 hB (by decide)),hK.heap h2 (by simp;exact qG2 h2 hB (by decide)),hK.heap h3 (by simp;exact qG2 h3 hB (by decide)),D,h4.kp hK ?_,h6⟩;intro hm;rw[List.mem_singleton.1 hm,hB] at h5;cases h5
theorem xL0(base:Nat)(T:Int)(w:World)(g:DG)(h:DOk base T w g)(Db St V M A':Nat)(N:Int)(hD:w.heap[Db]?=some (.cells #[.pointer (some ⟨St,0,none⟩)] 102))(hSt:w.heap[St]?=some (ν 0 (qK6 V M N)))(hV:w.heap[V]?=some (qC5 A' g.n))(hM:w.heap[M]?=some (.map #[] 0))(hT0:0≤T)(hT1:T≤50000)(hf:Formatted g.l g.N)(hbs:base≤w.heap.size):
  Calls prog 131 #[.pointer (some ⟨g.B,0,none⟩),.pointer (some ⟨Db,0,none⟩)] w fun e w'=>e=.returned (.bool true)∧(∃ g',DOk base (T+1) w' g'∧g'.B=g.B∧g'.A=g.A∧g'.C=g.C∧g'.n=g.n∧g'.x=some ⟨Db,0,none⟩∧g'.ts=g.ts∧g'.li=g.li∧g'.wa=g.wa)∧StOk Db St V M A' g.n N w'∧Kp [g.B,St,M] w w':=by
 obtain⟨B,A,C,n,l,calls,writes,N',pm,m,cm,pw,k,cw,x,ts,li,wa⟩:=g;obtain⟨bB,bA,bC,hB,hA,hC,len,n1000,calls0,calls1,writes0,writes1,kT,may,were,st⟩:=h;simp only at *;have HBA:Hid (B≠A):=qG2 hB hA (by decide);have HBC:Hid (B≠C):=qG2 hB hC (by decide);have HSB:Hid (St≠B):=qG2 hSt hB (by decide);have HSA:Hid (St≠A):=qG2 hSt hA (by decide);have HSC:Hid (St≠C):=qG2 hSt hC (by decide);have HSD:Hid (St≠Db):=qG2 hSt hD (by decide);have hst:N'≤2*T∧m=1∧cm=1∧∃ gm,pm=some ⟨gm,0,none⟩:=by
  rcases st with⟨_,_,h2⟩|⟨_,h⟩
  ·have:=hf.low;omega
  ·exact h
 obtain⟨hN',rfl,rfl,gm,rfl⟩:=hst;have HF:=zh hf;have HMB:Hid (M≠B):=fun e=>by subst e;rw[hM] at hB;cases hB
 have HMA:Hid (M≠A):=fun e=>by subst e;rw[hM] at hA;cases hA
 have HMC:Hid (M≠C):=fun e=>by subst e;rw[hM] at hC;cases hC
 have HMS:Hid (M≠St):=fun e=>by subst e;rw[hM] at hSt;cases hSt
 have HMV:Hid (M≠V):=fun e=>by subst e;rw[hM] at hV;cases hV
 have HMD:Hid (Db≠M):=fun e=>by subst e;rw[hM] at hD;cases hD
 have HSV:Hid (St≠V):=qG2 hSt hV (by decide);clear st hf;have hBs:=ζ hB;have k0:=ξ hB 0;simp only[qF1,zG,zH,zI] at k0;go_enter func131,ntmps131;go_wp2_with fail;refine (qE6 A n C _ calls writes w hA).mono ?_;rintro e w ⟨rfl,rfl⟩;go_wp2_with fail;refine (zI0 Db St 0 (qK6 V M N) (.map []) _ hD hSt (Go.Joins.ownsMap_empty hM) rfl HSD.out.symm HMS.out HMD.out (ζ hM) (by decide) (by decide) (by show (0:Int)≤0;decide) (by show (0:Int)≤100000000;decide)).mono ?_;rintro e w1 ⟨t,rfl,ht,ht1,hSt1,hR1,hK1⟩;have hB1:=hK1.heap hB (by simp;exact⟨fun e=>HSB.out e.symm,fun e=>HMB.out e.symm⟩);have hA1:=hK1.heap hA (by simp;exact⟨fun e=>HSA.out e.symm,fun e=>HMA.out e.symm⟩);have hC1:=hK1.heap hC (by simp;exact⟨fun e=>HSC.out e.symm,fun e=>HMC.out e.symm⟩);have hV1:=hK1.heap hV (by simp;exact⟨fun e=>HSV.out e.symm,fun e=>HMV.out e.symm⟩);have may1:=may.kp hK1 (APM [] _ (by decide) hSt hM);have were1:=were.kp hK1 (APM [] _ (by decide) hSt hM);have HTS:Hid (t≠St):=by have:=ζ hSt;show t≠St;omega
 have HTM:Hid (t≠M):=by have:=ζ hM;show t≠M;omega
 have HTW:=zh ht;clear ht;have hsz1:=hK1.size;have HMW:Hid (M<w1.heap.size):=by have:=ζ hM;show M<w1.heap.size;omega
 have HD0:Hid (w.heap[Db]?=some (.cells #[.pointer (some ⟨St,0,none⟩)] 102)∧w.heap[V]?=some (qC5 A' n)∧Db≠B∧V≠B):=⟨hD,hV,qG2 hD hB (by decide),qG2 hV hB (by decide)⟩;clear hB hA hC may were hSt hD k0 hV hM
 go_wp2_with (go_at_call 24;refine (qU2 _).mono ?_;rintro e w1 ⟨rfl,rfl⟩)
 go_wp2_with (go_at_call 127;refine (qC3 _ _).mono ?_;rintro e w1 ⟨rfl,rfl⟩)
 have hL1:LiveT (E0 V) w1 t A' n ⟨St,0+1,false,false,some ⟨V,0,none⟩,⟨⟨#[]⟩,0,0,none⟩,0⟩ (qK6 V M N).read .none:=
  ⟨ht1,rfl,rfl,hSt1,rfl,rfl,hV1,by omega,by show (0:Int)≤0;decide,by show (0:Int)≤1000;decide,trivial,by show V ∉ [];simp,rfl,RGood.none,by decide,by show (0:Int)≤0;decide,by show (0:Int)≤100000000;decide⟩
 refine (jD6 (E0 V) t A' n _ _ .none _ _ _ w1 hL1 (by decide) (by decide)).mono ?_;clear hL1;rintro e w2 ⟨v,rfl,hv,-,hSt2,hK2⟩;obtain⟨vb,vc,rfl⟩:∃ vb vc,v=.slice vb 0 vc:=hv.form;clear hv;have hK2:Kp [St] w1 w2:=hK2;have hB2:=hK2.heap hB1 (by simp;exact fun e=>HSB.out e.symm);have hA2:=hK2.heap hA1 (by simp;exact fun e=>HSA.out e.symm);have hC2:=hK2.heap hC1 (by simp;exact fun e=>HSC.out e.symm);have ht2:=hK2.heap ht1 (by simp;exact HTS.out);have hR2:=hR1.kp hK2 (by simp;exact HMS.out);have hap1:Apart w1 [St] 126:=fun k hk=>by rw[List.mem_singleton.1 hk];exact⟨_,_,_,hSt1,by decide⟩
 have may2:=may1.keep hK2 hap1;have were2:=were1.keep hK2 hap1;have hK2':Kp [St,M] w w2:=hK1.trans hK2 (by simp +contextual);have hsz2:=hK2.size;clear hB1 hA1 hC1 may1 were1 hSt1 hap1 hK1 hK2 ht1 hR1 hV1
 go_wp2_with (go_at_call 24;refine (qU2 _).mono ?_;rintro e w2 ⟨rfl,rfl⟩)
 go_wp2_with (go_at_call 127;refine (qC3 _ _).mono ?_;rintro e w2 ⟨rfl,rfl⟩)
 refine (zH3 t _ _ _ _ w2 ht2 rfl hSt2 rfl hR2 (by show (0:Int)≤0+1;decide) (by show (0:Int)+1≤1000000000;decide) HMS.out HTS.out HTM.out (by have:=HMW.out;show M<_;omega)).mono ?_;rintro e w3 ⟨rfl,-,hSt3,hR3,hK3⟩;have hK3:Kp [St,t,M] w2 w3:=hK3;have HTB:Hid (B≠t):=qG2 hB2 ht2 (by decide);have HTA:Hid (A≠t):=qG2 hA2 ht2 (by decide);have HTC:Hid (C≠t):=qG2 hC2 ht2 (by decide);have hB3:=hK3.heap hB2 (by simp;exact⟨fun e=>HSB.out e.symm,HTB.out,fun e=>HMB.out e.symm⟩);have hA3:=hK3.heap hA2 (by simp;exact⟨fun e=>HSA.out e.symm,HTA.out,fun e=>HMA.out e.symm⟩);have hC3:=hK3.heap hC2 (by simp;exact⟨fun e=>HSC.out e.symm,HTC.out,fun e=>HMC.out e.symm⟩);have hap2:∀ k c u fr,w2.heap[k]?=some (.cells c u fr)→k∈[St,t,M]→u≠126:=by
  intro k c u fr h hk;simp only[List.mem_cons,List.not_mem_nil,or_false] at hk;rcases hk with rfl|rfl|rfl
  ·have h':=hSt2;rw[h] at h';cases h';decide
  ·rw[ht2] at h;cases h;decide
  ·obtain⟨es,c',h'⟩:=RM.obj hR2;exact absurd (h.symm.trans h') (by intro e;cases e)
 have may3:=may2.kp hK3 hap2;have were3:=were2.kp hK3 hap2;have hK3':Kp [B,St,M] w w3:=(hK2'.mono (S':=[B,St,M]) (by simp +contextual)).trans hK3 (by intro i hi hlt;have:=HTW.out;simp at hi;simp;omega);have HSTO:Hid (StOk Db St V M A' n N w3):=⟨hK3'.heap HD0.out.1 (by simp;exact⟨HD0.out.2.2.1,HSD.out.symm,HMD.out⟩),hSt3,hK3'.heap HD0.out.2.1 (by simp;exact⟨HD0.out.2.2.2,HSV.out.symm,HMV.out.symm⟩),_,hR3,rfl,fun _=>rfl⟩;have HB3:=zh hB3;clear hSt3 hR3;clear hB2 hA2 hC2 may2 were2 hSt2 hap2 hK2' hK3 ht2 hR2;have k0:=ξ hB3 0;have k1:=ξ hB3 1;have k2:=ξ hB3 2;have k3:=ξ hB3 3;have k4:=ξ hB3 4;have k5:=ξ hB3 5;have k6:=ξ hB3 6;simp only[qF1,zG,zH,zI] at k0 k1 k2 k3 k4 k5 k6;go_wp2_with fail;refine (jA8 _ _ _).mono ?_;rintro e w3 ⟨rfl,rfl⟩;go_wp2_with fail;refine (xM6 base gm _ _ _ _ _ w3 may3).mono ?_;rintro e w4 ⟨rfl,hK4⟩;have hB4:=hK4.hp hB3;have hA4:=hK4.hp hA3;have hC4:=hK4.hp hC3;have may4:=may3.keep hK4 (by intro k h;simp at h);have were4:=were3.keep hK4 (by intro k h;simp at h);have hK4':Kp [B,St,M] w w4:=hK3'.tr hK4;have HJ4:Hid (Kp [B] w3 w4):=hK4.mono (by simp);clear hB3 hA3 hC3 may3 were3 hK3' hK4 k0 k1 k2 k3 k4 k5 k6;have k0:=ξ hB4 0;have k1:=ξ hB4 1;have k2:=ξ hB4 2;have k3:=ξ hB4 3;have k4:=ξ hB4 4;have k5:=ξ hB4 5;have k6:=ξ hB4 6;have k8:=ξ hB4 8;simp only[qF1,zG,zH,zI] at k0 k1 k2 k3 k4 k5 k6 k8;have f8:=ρ hB4 8;go_wp2_with fail;obtain⟨w5,hw5,hB5,hK5⟩:∃ w5,w5=w4.setCell ⟨B,8,none⟩ (.slice none 0 0)∧w5.heap[B]?=some (qF1 A n (.slice (some ⟨gm,0,none⟩) 1 1) (.slice pw k cw) x ts li wa)∧Kp [B] w4 w5:=⟨_,rfl,μ hB4 8 _,(Kp.refl _ _).sc _⟩;rw[←hw5];clear hw5;have hA5:=hK5.heap hA4 (by simp;exact fun e=>HBA.out e.symm);have hC5:=hK5.heap hC4 (by simp;exact fun e=>HBC.out e.symm);have hap4:Apart w4 [B] 126:=fun k hk=>by rw[List.mem_singleton.1 hk];exact⟨_,_,_,hB4,by decide⟩
 have may5:=may4.keep hK5 hap4;have were5:=were4.keep hK5 hap4;have hK5':Kp [B,St,M] w w5:=hK4'.trans hK5 (by simp +contextual);have HJ5:Hid (Kp [B] w3 w5):=HJ4.out.tr hK5;clear hB4 hA4 hC4 may4 were4 hK4' hK5 k0 k1 k2 k3 k4 k5 k6 k8 f8 hap4;refine wp_region_any (by kernel_rfl) ?_;change wpAny _ _ _ _ _ _ _ (World.drew _);refine zu 0 (.pointer (some ⟨B,0,none⟩)) ?_;refine zu 1 (.pointer (some ⟨B,0,none⟩)) ?_;refine zu 2 (.pointer (some ⟨B,0,none⟩)) ?_;refine zu 3 (.pointer (some ⟨B,1,none⟩)) ?_;refine zu 5 (.pointer (some ⟨B,0,none⟩)) ?_;refine zu 6 (.pointer (some ⟨B,0,none⟩)) ?_;refine zu 7 (.pointer (some ⟨B,8,none⟩)) ?_;refine wpAny_ready (rs:=[4,8]) (by kernel_rfl) (by simp) ?_;refine AllReady.cons rfl (fun K hK=>?_) (AllReady.cons rfl (fun K hK=>?_) AllReady.nil)
 ·refine qG7 rfl (qS8 (t:=123) rfl (by kernel_rfl) 6 (by kernel_rfl) B 1 rfl (show w5.drew.heap[B]?=_ from hB5) (by simp) (show _=#[.int .i64 n,.slice (some ⟨gm,0,none⟩) 1 1,.bool false,.slice pw k cw,.bool false,.bool false] from rfl)) ?_;refine hK _ _ ?_;clear hK K
  try simp only[zZ]
  refine zQ 8 fun K hK=>?_;refine qG7 rfl (qS8 (t:=126) rfl (by kernel_rfl) 1 (by kernel_rfl) B 8 rfl (show w5.drew.heap[B]?=_ from hB5) (by simp) (show _=#[.slice none 0 0] from rfl)) ?_;refine hK _ _ ?_;clear hK K
  try simp only[zZ]
  refine zQ 9 fun K hK=>?_;go_simp;refine (zE4 base 1 1 k cw _ pw n _ _ _ w5.drew may5 were5 (by omega) (by omega)).mono ?_;rintro e w6 ⟨gm',gw,cw',rfl,may6,were6,hK6⟩;have hB6:=hK6.heap (k:=B) hB5 (by simp);have hA6:=hK6.heap (k:=A) hA5 (by simp);have hC6:=hK6.heap (k:=C) hC5 (by simp);have hK6':Kp [B,St,M] w w6:=(hK5'.drew).tr hK6;have HJ6:Hid (Kp [B] w3 w6):=(HJ5.out.drew).tr hK6;have HS5:=zh hK5'.size;clear hB5 hA5 hC5 may5 were5 hK5' hK6;refine hK _ _ ?_;clear hK K
  try simp only[zZ]
  refine zu 10 (.pointer (some ⟨B,0,none⟩)) ?_;refine zu 11 (.pointer (some ⟨B,1,none⟩)) ?_;have k1:=ξ hB6 1;have k2:=ξ hB6 2;have k3:=ξ hB6 3;have k4:=ξ hB6 4;have k5:=ξ hB6 5;have k6:=ξ hB6 6;simp only[qF1,zG,zH,zI] at k1 k2 k3 k4 k5 k6;have f1:=ρ hB6;refine zQ 12 fun K hK=>?_;go_simp;refine hK _ _ ?_;clear hK K;refine wpAny_done (by kernel_rfl) ?_ _;obtain⟨w7,hw7,hB7,hK7⟩:∃ w7,w7=((((((w6.setCell ⟨B,1,none⟩ (.int .i64 n)).setCell ⟨B,2,none⟩ (.slice (some ⟨gm',0,none⟩) 1 1)).setCell ⟨B,3,none⟩ (.bool false)).setCell ⟨B,4,none⟩ (.slice (some ⟨gw,0,none⟩) (k+1) cw')).setCell ⟨B,5,none⟩ (.bool false)).setCell ⟨B,6,none⟩ (.bool false))∧w7.heap[B]?=some (qF1 A n (.slice (some ⟨gm',0,none⟩) 1 1) (.slice (some ⟨gw,0,none⟩) (k+1) cw') x ts li wa)∧Kp [B] w6 w7:=
   ⟨_,rfl,(μ (μ (μ (μ (μ (μ hB6 1 _) 2 _) 3 _) 4 _) 5 _) 6 _),(((((((Kp.refl [B] w6).sc _).sc _).sc _).sc _).sc _).sc _)⟩
  rw[←hw7];clear hw7 k1 k2 k3 k4 k5 k6 f1;have k7:=ξ hB7 7;have k9:=ξ hB7 9;simp only[qF1,zG,zH,zI] at k7 k9;have f7:=ρ hB7;go_wp2;go_ret;have hK8:Kp [B] w6 ((w7.setCell ⟨B,7,none⟩ (.pointer (some ⟨Db,0,none⟩))).setCell ⟨B,9,none⟩ (.int .i64 0)):=(hK7.sc _).sc _;have hap6:Apart w6 [B] 126:=fun k hk=>by rw[List.mem_singleton.1 hk];exact⟨_,_,_,hB6,by decide⟩
  have hs5:=HS5.out;refine⟨rfl,⟨⟨B,A,C,n,l,calls,writes,N',some ⟨gm',0,none⟩,1,1,some ⟨gw,0,none⟩,k+1,cw',some ⟨Db,0,none⟩,ts,li,wa⟩,?_,rfl,rfl,rfl,rfl,rfl,rfl,rfl,rfl⟩,HSTO.out.keep (HJ6.out.tr hK8) HB3.out,hK6'.trans hK8 (by simp +contextual)⟩;have hb6:base≤w5.drew.heap.size:=by show base≤w5.heap.size;omega
  exact⟨bB,bA,bC,μ (μ hB7 7 _) 9 _,hK8.heap hA6 (by simp;exact fun e=>HBA.out e.symm),hK8.heap hC6 (by simp;exact fun e=>HBC.out e.symm),len,n1000,calls0,by show calls≤6*(T+1);omega,writes0,by show writes≤2*(T+1);omega,by show ((k+1:Nat):Int)≤T+1;omega,(may6.le hb6).keep hK8 hap6,(were6.le hb6).keep hK8 hap6,.inr ⟨HF.out,by show N'≤2*(T+1);omega,rfl,rfl,gm',rfl⟩⟩
 ·refine qG7 rfl (qS8 (t:=126) rfl (by kernel_rfl) 1 (by kernel_rfl) B 8 rfl (show w5.drew.heap[B]?=_ from hB5) (by simp) (show _=#[.slice none 0 0] from rfl)) ?_;refine hK _ _ ?_;clear hK K
  try simp only[zZ]
  refine zQ 4 fun K hK=>?_;refine qG7 rfl (qS8 (t:=123) rfl (by kernel_rfl) 6 (by kernel_rfl) B 1 rfl (show w5.drew.heap[B]?=_ from hB5) (by simp) (show _=#[.int .i64 n,.slice (some ⟨gm,0,none⟩) 1 1,.bool false,.slice pw k cw,.bool false,.bool false] from rfl)) ?_;refine hK _ _ ?_;clear hK K
  try simp only[zZ]
  refine zQ 9 fun K hK=>?_;go_simp;refine (zE4 base 1 1 k cw _ pw n _ _ _ w5.drew may5 were5 (by omega) (by omega)).mono ?_;rintro e w6 ⟨gm',gw,cw',rfl,may6,were6,hK6⟩;have hB6:=hK6.heap (k:=B) hB5 (by simp);have hA6:=hK6.heap (k:=A) hA5 (by simp);have hC6:=hK6.heap (k:=C) hC5 (by simp);have hK6':Kp [B,St,M] w w6:=(hK5'.drew).tr hK6;have HJ6:Hid (Kp [B] w3 w6):=(HJ5.out.drew).tr hK6;have HS5:=zh hK5'.size;clear hB5 hA5 hC5 may5 were5 hK5' hK6;refine hK _ _ ?_;clear hK K
  try simp only[zZ]
  refine zu 10 (.pointer (some ⟨B,0,none⟩)) ?_;refine zu 11 (.pointer (some ⟨B,1,none⟩)) ?_;have k1:=ξ hB6 1;have k2:=ξ hB6 2;have k3:=ξ hB6 3;have k4:=ξ hB6 4;have k5:=ξ hB6 5;have k6:=ξ hB6 6;simp only[qF1,zG,zH,zI] at k1 k2 k3 k4 k5 k6;have f1:=ρ hB6;refine zQ 12 fun K hK=>?_;go_simp;refine hK _ _ ?_;clear hK K;refine wpAny_done (by kernel_rfl) ?_ _;obtain⟨w7,hw7,hB7,hK7⟩:∃ w7,w7=((((((w6.setCell ⟨B,1,none⟩ (.int .i64 n)).setCell ⟨B,2,none⟩ (.slice (some ⟨gm',0,none⟩) 1 1)).setCell ⟨B,3,none⟩ (.bool false)).setCell ⟨B,4,none⟩ (.slice (some ⟨gw,0,none⟩) (k+1) cw')).setCell ⟨B,5,none⟩ (.bool false)).setCell ⟨B,6,none⟩ (.bool false))∧w7.heap[B]?=some (qF1 A n (.slice (some ⟨gm',0,none⟩) 1 1) (.slice (some ⟨gw,0,none⟩) (k+1) cw') x ts li wa)∧Kp [B] w6 w7:=
   ⟨_,rfl,(μ (μ (μ (μ (μ (μ hB6 1 _) 2 _) 3 _) 4 _) 5 _) 6 _),(((((((Kp.refl [B] w6).sc _).sc _).sc _).sc _).sc _).sc _)⟩
  rw[←hw7];clear hw7 k1 k2 k3 k4 k5 k6 f1;have k7:=ξ hB7 7;have k9:=ξ hB7 9;simp only[qF1,zG,zH,zI] at k7 k9;have f7:=ρ hB7;go_wp2;go_ret;have hK8:Kp [B] w6 ((w7.setCell ⟨B,7,none⟩ (.pointer (some ⟨Db,0,none⟩))).setCell ⟨B,9,none⟩ (.int .i64 0)):=(hK7.sc _).sc _;have hap6:Apart w6 [B] 126:=fun k hk=>by rw[List.mem_singleton.1 hk];exact⟨_,_,_,hB6,by decide⟩
  have hs5:=HS5.out;refine⟨rfl,⟨⟨B,A,C,n,l,calls,writes,N',some ⟨gm',0,none⟩,1,1,some ⟨gw,0,none⟩,k+1,cw',some ⟨Db,0,none⟩,ts,li,wa⟩,?_,rfl,rfl,rfl,rfl,rfl,rfl,rfl,rfl⟩,HSTO.out.keep (HJ6.out.tr hK8) HB3.out,hK6'.trans hK8 (by simp +contextual)⟩;have hb6:base≤w5.drew.heap.size:=by show base≤w5.heap.size;omega
  exact⟨bB,bA,bC,μ (μ hB7 7 _) 9 _,hK8.heap hA6 (by simp;exact fun e=>HBA.out e.symm),hK8.heap hC6 (by simp;exact fun e=>HBC.out e.symm),len,n1000,calls0,by show calls≤6*(T+1);omega,writes0,by show writes≤2*(T+1);omega,by show ((k+1:Nat):Int)≤T+1;omega,(may6.le hb6).keep hK8 hap6,(were6.le hb6).keep hK8 hap6,.inr ⟨HF.out,by show N'≤2*(T+1);omega,rfl,rfl,gm',rfl⟩⟩
def zH0(g':DG)(w w':World):Prop:=g'.x=none∨∃ Db St V M N,g'.x=some ⟨Db,0,none⟩∧StOk Db St V M g'.A g'.n N w'∧w.heap.size≤Db∧w.heap.size≤St∧w.heap.size≤V∧w.heap.size≤M
theorem xZ7(base:Nat)(T:Int)(w:World)(g:DG)(h:DOk base T w g)(hT0:0≤T)(hT1:T≤40000)(hg:w.cell? ⟨0,0,none⟩=some qB5)(hb:0<base)(hbs:base≤w.heap.size):
  Calls prog 81 #[.pointer (some ⟨g.B,0,none⟩)] w fun e w'=>e=.returned (.bool true)∧(∃ g',DOk base (T+2) w' g'∧g'.B=g.B∧g'.A=g.A∧g'.C=g.C∧g'.n=g.n∧g'.ts=.slice none 0 0∧g'.li=g.li∧g'.wa=g.wa∧zH0 g' w w')∧Kp [g.B,g.A,g.C] w w':=by
 obtain⟨B,A,C,n,l,calls,writes,N,pm,m,cm,pw,k,cw,x,ts,li,wa⟩:=g;obtain⟨bB,bA,bC,hB,hA,hC,len,n1000,calls0,calls1,writes0,writes1,kT,may,were,st⟩:=h;simp only at *;have HBA:Hid (B≠A):=qG2 hB hA (by decide);have HBC:Hid (B≠C):=qG2 hB hC (by decide);have HCA:Hid (C≠A):=qG2 hC hA (by decide);have HST:=zh st;clear st;go_enter func81,ntmps81;go_wp2_with fail;refine (zK5 B A n _ _ x ts li wa w hB).mono ?_;rintro e w1 ⟨rfl,hB1,hK1⟩;have hA1:=hK1.heap hA (by simp;exact fun e=>HBA.out e.symm);have hC1:=hK1.heap hC (by simp;exact fun e=>HBC.out e.symm);have hap:Apart w [B] 126:=fun k hk=>by rw[List.mem_singleton.1 hk];exact⟨_,_,_,hB,by decide⟩
 have may1:=may.keep hK1 hap;have were1:=were.keep hK1 hap;have hg1:w1.cell? ⟨0,0,none⟩=some qB5:=(hK1.cell (a:=⟨0,0,none⟩) (by simp;omega) (by simp;omega)).trans hg;have hs1:=hK1.size;have hK1':Kp [B,A,C] w w1:=hK1.mono (by simp +contextual);clear hB hA hC may were hK1 hg hap;have k0:=ξ hB1 0;simp only[qF1,zG,zH,zI] at k0;go_wp2_with fail;refine (qE6 A n C _ calls writes w1 hA1).mono ?_;rintro e w1 ⟨rfl,rfl⟩;go_wp2_with fail;by_cases hfit:8≤n∧n≤400
 ·have h8:=hfit.1;have h400:=hfit.2;clear hfit;rcases HST.out with⟨hfr,hm0,hN0⟩|⟨hfm,hN2,hm1,hcm,gm,hpm⟩
  ·have hfr':=hfr h8;refine (xZ2 A n C calls writes l _ hA1 calls0 (by omega) h8 h400 hC1 len HCA.out hfr').mono ?_;have HFR:=zh hfr;clear hfr hfr';rintro e w2 ⟨F,call,rfl,hF,hF2,hA2,hK2⟩;have hB2:=hK2.heap hB1 (by simp;exact HBA.out);have hC2:=hK2.heap hC1 (by simp;exact HCA.out);have hap:Apart w1 [A] 126:=fun k hk=>by rw[List.mem_singleton.1 hk];exact⟨_,_,_,hA1,by decide⟩
   have may2:=may1.keep hK2 hap;have were2:=were1.keep hK2 hap;have hg2:w2.cell? ⟨0,0,none⟩=some qB5:=(hK2.cell (a:=⟨0,0,none⟩) (by simp;omega) (by simp;omega)).trans hg1;have hK2':Kp [B,A,C] w w2:=hK1'.trans hK2 (by simp +contextual);clear hA1 hC1 hB1 may1 were1 hK2 hK1' k0 hg1 hap;go_wp2_with fail;refine (qY9 F call 9 _ hg2 hF2).mono ?_;rintro e w3 ⟨rfl,hK3⟩;have hB3:=hK3.hp hB2;have hA3:=hK3.hp hA2;have hC3:=hK3.hp hC2;have may3:=may2.keep hK3 (by intro k h;simp at h);have were3:=were2.keep hK3 (by intro k h;simp at h);have hK3':Kp [B,A,C] w w3:=hK2'.tr hK3;clear hB2 hA2 hC2 may2 were2 hK2' hK3 hg2 hF2 hF;have c0:=ξ hB3 0;have c1:=ξ hB3 1;have c2:=ξ hB3 2;have c3:=ξ hB3 3;have c4:=ξ hB3 4;have c5:=ξ hB3 5;have c6:=ξ hB3 6;simp only[qF1,zG,zH,zI] at c0 c1 c2 c3 c4 c5 c6
   go_wp2_with (go_at_call 127;refine (qC3 _ _).mono ?_;rintro e w3 ⟨rfl,rfl⟩)
   refine (zC0 _ _ n _ _ _ _ h8 h400).mono ?_;rintro e w4 ⟨rfl,hK4⟩;have hB4:=hK4.hp hB3;have hA4:=hK4.hp hA3;have hC4:=hK4.hp hC3;have may4:=may3.keep hK4 (by intro k h;simp at h);have were4:=were3.keep hK4 (by intro k h;simp at h);have hK4':Kp [B,A,C] w w4:=hK3'.tr hK4;clear hB3 hA3 hC3 may3 were3 hK3' hK4 c0 c1 c2 c3 c4 c5 c6;have c0:=ξ hB4 0;have c1:=ξ hB4 1;have c2:=ξ hB4 2;have c3:=ξ hB4 3;have c4:=ξ hB4 4;have c5:=ξ hB4 5;have c6:=ξ hB4 6;simp only[qF1,zG,zH,zI] at c0 c1 c2 c3 c4 c5 c6;subst hm0;go_wp2;go_ret;refine⟨rfl,⟨⟨B,A,C,n,l,calls+2,writes,N,pm,0,cm,pw,k,cw,none,.slice none 0 0,li,wa⟩,?_,rfl,rfl,rfl,rfl,rfl,rfl,rfl,.inl rfl⟩,hK4'⟩;exact⟨bB,bA,bC,hB4,hA4,hC4,len,n1000,by show (0:Int)≤calls+2;omega,by show calls+2≤6*(T+2);omega,writes0,by show writes≤2*(T+2);omega,by show ((k:Nat):Int)≤T+2;omega,may4,were4,.inl ⟨HFR.out,rfl,hN0⟩⟩
  ·have HF:=zh hfm;have hl:=hfm.low;refine (xZ3 A n C calls writes l N _ hA1 calls0 (by omega) h8 h400 hC1 len HCA.out hfm).mono ?_;clear hfm;rintro e w2 ⟨V,M,St,Db,rfl,hV,hM,hSt,hDb,hA2,hV2,hM2,hSt2,hD2,hK2⟩;have hB2:=hK2.heap hB1 (by simp;exact HBA.out);have hC2:=hK2.heap hC1 (by simp;exact HCA.out);have hap:Apart w1 [A] 126:=fun k hk=>by rw[List.mem_singleton.1 hk];exact⟨_,_,_,hA1,by decide⟩
   have may2:=may1.keep hK2 hap;have were2:=were1.keep hK2 hap;have hK2':Kp [B,A,C] w w2:=hK1'.trans hK2 (by simp +contextual);have HSW:Hid (w.heap.size≤St∧w.heap.size≤M):=by show w.heap.size≤St∧w.heap.size≤M;omega
   have HSV:Hid (w.heap.size≤Db∧w.heap.size≤V):=by show w.heap.size≤Db∧w.heap.size≤V;omega
   clear hA1 hC1 hB1 may1 were1 hK2 hK1' k0 hg1 hap hV hSt hDb hM;go_wp2_with fail;refine (qU2 _).mono ?_;rintro e w2 ⟨rfl,rfl⟩;have c0:=ξ hB2 0;have c1:=ξ hB2 1;have c2:=ξ hB2 2;have c3:=ξ hB2 3;have c4:=ξ hB2 4;have c5:=ξ hB2 5;have c6:=ξ hB2 6;simp only[qF1,zG,zH,zI] at c0 c1 c2 c3 c4 c5 c6
   go_wp2_with (go_at_call 127;refine (qC3 _ _).mono ?_;rintro e w2 ⟨rfl,rfl⟩)
   refine (zC0 _ _ n _ _ _ _ h8 h400).mono ?_;rintro e w3 ⟨rfl,hK3⟩;have hB3:=hK3.hp hB2;have hA3:=hK3.hp hA2;have hC3:=hK3.hp hC2;have hSt3:=hK3.hp hSt2;have hV3:=hK3.hp hV2;have hM3:=hK3.hp hM2;have hD3:=hK3.hp hD2;have may3:=may2.keep hK3 (by intro k h;simp at h);have were3:=were2.keep hK3 (by intro k h;simp at h);have hK3':Kp [B,A,C] w w3:=hK2'.tr hK3;have hs3:=hK3'.size;clear hB2 hA2 hC2 may2 were2 hK2' hK3 hSt2 hD2 hV2 hM2 c0 c1 c2 c3 c4 c5 c6;go_wp2_with fail;have hd:DOk base (T+1) w3 ⟨B,A,C,n,l,calls+3,writes,N,pm,m,cm,pw,k,cw,none,.slice none 0 0,li,wa⟩:=
    ⟨bB,bA,bC,hB3,hA3,hC3,len,n1000,by show (0:Int)≤calls+3;omega,by show calls+3≤6*(T+1);omega,writes0,by show writes≤2*(T+1);omega,by show ((k:Nat):Int)≤T+1;omega,may3,were3,.inr ⟨HF.out,by show N≤2*(T+1);omega,hm1,hcm,gm,hpm⟩⟩
   refine (xL0 base (T+1) w3 _ hd Db St V M A N hD3 hSt3 hV3 hM3 (by omega) (by omega) HF.out (by omega)).mono ?_;rintro e w4 ⟨rfl,⟨g',hg',e1,e2,e3,e4,e5,e6,e7,e8⟩,hsto,hK4⟩;have HOP:Hid (zH0 g' w w4):=.inr ⟨Db,St,V,M,N,e5,by rw[e2,e4];exact hsto,HSV.out.1,HSW.out.1,HSV.out.2,HSW.out.2⟩;have HEE:Hid (g'.n=n∧g'.ts=.slice none 0 0∧g'.li=li∧g'.wa=wa):=⟨e4,e6,e7,e8⟩;clear hsto e4 e5 e6 e7 e8;have hg'':DOk base (T+2) w4 g':=by rw[show T+2=T+1+1 by omega];exact hg'
   have hK4':Kp [B,A,C] w w4:=hK3'.trans hK4 (by intro i hi hlt;have:=HSW.out;simp at hi;simp;omega);clear hd hg' hB3 hA3 hC3 hSt3 hD3 hV3 hM3 may3 were3 hK3' hK4;go_wp2;go_ret;exact⟨rfl,⟨g',hg'',e1,e2,e3,HEE.out.1,HEE.out.2.1,HEE.out.2.2.1,HEE.out.2.2.2,HOP.out⟩,hK4'⟩
 ·have hbad:n<8∨400<n:=by omega
  clear hfit;have HB:=zh hbad;refine (xZ6 A n C _ calls writes _ hA1 hbad).mono ?_;clear hbad;rintro e w2 ⟨F,call,rfl,hF,hF2,hK2⟩;have hB2:=hK2.hp hB1;have hA2:=hK2.hp hA1;have hC2:=hK2.hp hC1;have may2:=may1.keep hK2 (by intro k h;simp at h);have were2:=were1.keep hK2 (by intro k h;simp at h);have hg2:w2.cell? ⟨0,0,none⟩=some qB5:=(hK2.cell (a:=⟨0,0,none⟩) (by simp;omega) (by simp)).trans hg1;have hK2':Kp [B,A,C] w w2:=hK1'.tr hK2;clear hA1 hC1 hB1 may1 were1 hK2 hK1' k0 hg1;go_wp2_with fail;refine (qY9 F call 10 _ hg2 hF2).mono ?_;rintro e w3 ⟨rfl,hK3⟩;have hB3:=hK3.hp hB2;have hA3:=hK3.hp hA2;have hC3:=hK3.hp hC2;have may3:=may2.keep hK3 (by intro k h;simp at h);have were3:=were2.keep hK3 (by intro k h;simp at h);have hK3':Kp [B,A,C] w w3:=hK2'.tr hK3;clear hB2 hA2 hC2 may2 were2 hK2' hK3 hg2 hF2 hF;have c0:=ξ hB3 0;have c1:=ξ hB3 1;have c2:=ξ hB3 2;have c3:=ξ hB3 3;have c4:=ξ hB3 4;have c5:=ξ hB3 5;have c6:=ξ hB3 6;simp only[qF1,zG,zH,zI] at c0 c1 c2 c3 c4 c5 c6
  go_wp2_with (go_at_call 127;refine (qC3 _ _).mono ?_;rintro e w3 ⟨rfl,rfl⟩)
  refine (zM3 _ _ n _ _ _ _ HB.out).mono ?_;rintro e w4 ⟨rfl,hK4⟩;have hB4:=hK4.hp hB3;have hA4:=hK4.hp hA3;have hC4:=hK4.hp hC3;have may4:=may3.keep hK4 (by intro k h;simp at h);have were4:=were3.keep hK4 (by intro k h;simp at h);have hK4':Kp [B,A,C] w w4:=hK3'.tr hK4;clear hB3 hA3 hC3 may3 were3 hK3' hK4 c0 c1 c2 c3 c4 c5 c6;go_wp2;go_ret;refine⟨rfl,⟨⟨B,A,C,n,l,calls,writes,N,pm,m,cm,pw,k,cw,none,.slice none 0 0,li,wa⟩,?_,rfl,rfl,rfl,rfl,rfl,rfl,rfl,.inl rfl⟩,hK4'⟩;exact⟨bB,bA,bC,hB4,hA4,hC4,len,n1000,calls0,by show calls≤6*(T+2);omega,writes0,by show writes≤2*(T+2);omega,by show ((k:Nat):Int)≤T+2;omega,may4,were4,by
   rcases HST.out with h|⟨h1,h2,h3⟩
   ·exact .inl h
   ·exact .inr ⟨h1,by show N≤2*(T+2);omega,h3⟩⟩
end Go.Proofs.YtdohpenfkdckiaaGreatDoor.Gen
namespace Go.Proofs.YtdohpenfkdckiaaGreatDoor.Gw
open Go.Proofs.Tryz
open Go.RowKit
def qH7:List TypeId:=[70,3,119]
def qH0:List TypeId:=[130,114,115,117,169,99,80,197,132,29,282,203]
def Muts(base:Nat)(Ts:List TypeId)(w:World)(L:List Nat):Prop:=∀ k∈L,base≤k∧∃ o,w.heap[k]?=some o∧∀ c t fr,o=.cells c t fr→t∈Ts
def MutC(base:Nat)(Ts:List TypeId)(w:World)(L:List Nat):Prop:=∀ k∈L,base≤k∧∃ c t fr,w.heap[k]?=some (.cells c t fr)∧t∈Ts
theorem MutC.muts{base:Nat}{Ts:List TypeId}{w:World}{L:List Nat}(h:MutC base Ts w L):Muts base Ts w L:=fun k hk=>by
 obtain⟨h1,c,t,fr,h2,h3⟩:=h k hk;exact⟨h1,_,h2,fun c' t' fr' e=>by cases e;exact h3⟩
theorem Muts.nil(base:Nat)(Ts:List TypeId)(w:World):Muts base Ts w []:=fun _ h=>by cases h
theorem Muts.mono{base:Nat}{Ts Ts':List TypeId}{w:World}{L L':List Nat}(h:Muts base Ts w L)(hT:∀ t∈Ts,t∈Ts')(hL:∀ i∈L',i∈L):Muts base Ts' w L':=fun k hk=>by
 obtain⟨h1,o,h2,h3⟩:=h k (hL k hk);exact⟨h1,o,h2,fun c t fr e=>hT t (h3 c t fr e)⟩
theorem Muts.apt{base:Nat}{Ts Us:List TypeId}{w:World}{L:List Nat}(h:Muts base Ts w L)(hU:∀ t∈Us,t ∉ Ts):Apt w L Us:=fun k hk c t fr e hm=>by
 obtain⟨h1,o,h2,h3⟩:=h k hk;rw[e] at h2;cases h2;exact hU t hm (h3 _ _ _ rfl)
theorem Muts.not{base:Nat}{Ts:List TypeId}{w:World}{L:List Nat}(h:Muts base Ts w L){k:Nat}{c:Array Value}{t:TypeId}{fr:Nat × Nat}(hk:w.heap[k]?=some (.cells c t fr))(ht:t ∉ Ts):k ∉ L:=fun hm=>by
 obtain⟨h1,o,h2,h3⟩:=h k hm;rw[hk] at h2;cases h2;exact ht (h3 _ _ _ rfl)
theorem Muts.lt{base:Nat}{Ts:List TypeId}{w:World}{L:List Nat}(h:Muts base Ts w L){k:Nat}(hk:k∈L):k<w.heap.size:=by
 obtain⟨_,o,h2,_⟩:=h k hk;exact ζ h2
theorem Muts.row{base base' n sz:Nat}{Ts:List TypeId}{T:TypeId}{w w':World}{L:List Nat}{v:Value}{xs:List Value}(h:Muts base Ts w L)(hK:Kp L w w')(hT:T ∉ Ts)(hr:w.ownsRow base' T sz v n xs):w'.ownsRow base' T sz v n xs:=
 qK5 hr hK fun k c t fr e hk et=>by
  obtain⟨h1,o,h2,h3⟩:=h k hk;rw[e] at h2;cases h2;subst et;exact hT (h3 _ _ _ rfl)
structure DInv where
 G:Type
 kf:G→KF
 B:G→Nat
 tbs:G→List Nat
 tur:G→List Nat
 ok:Nat→Int→World→G→Prop
 kob_:∀ {base:Nat} {T:Int} {w:World} {g:G},ok base T w g→w.heap[B g]?=some (kob (kf g))
 row:∀ {base:Nat} {T:Int} {w:World} {g:G},ok base T w g→PRow w 132 (kf g).ts (tbs g)
 tlen:∀ {base:Nat} {T:Int} {w:World} {g:G},ok base T w g→((tbs g).length:Int)≤T
 inB:∀ g,B g∈tur g
 muts:∀ {base:Nat} {T:Int} {w:World} {g:G},ok base T w g→Muts base qH0 w (tur g)
 keep:∀ {base:Nat} {T T':Int} {w w':World} {g:G} {L:List Nat},ok base T w g→Kp L w w'→Muts base (qH7++qH0) w L→(∀ i∈L,i ∉ tur g)→T≤T'→ok base T' w' g
 fresh:∀ (base:Nat) (T:Int) (w:World) (b A C m:Nat),base≤b→base≤A→base≤C→0≤T→m<1000→w.heap[b]?=some (kob ⟨A,m,.slice none 0 0,false,.slice none 0 0,false,false,none,.slice none 0 0,0,false,.slice none 0 0,.slice none 0 0,.slice none 0 0⟩)→w.heap[A]?=some (qA1 m C (.slice none 0 0) 0 0)→w.heap[C]?=some (.cells (enc (List.replicate (m*128) 0)) 115)→∃ g,ok base T w g∧B g=b∧∀ i∈tur g,i=b∨i=A∨i=C
def qH5(I:DInv)(ds:List I.G):List Value:=ds.map fun g=>.pointer (some ⟨I.B g,0,none⟩)
structure WOk(I:DInv)(base:Nat)(T:Int)(w:World)(Wb:Nat)(ds:List I.G):Prop where
 hb:0<base
 hbs:base≤w.heap.size
 g0:w.cell? ⟨0,0,none⟩=some qB5
 bW:base≤Wb
 hW:∃ pk nk ck xs pd cd,w.heap[Wb]?=some (qF5 pk nk ck pd ds.length cd)∧w.ownsRow base 3 1 (.slice pk nk ck) nk xs∧(nk:Int)≤T∧w.ownsRow base 119 1 (.slice pd ds.length cd) ds.length (qH5 I ds)
 len:(ds.length:Int)≤T
 all:∀ g,g∈ds→I.ok base T w g
 sep:ds.Pairwise fun g h=>∀ i∈I.tur g,i ∉ I.tur h
theorem WOk.same{I:DInv}{base:Nat}{T T':Int}{w w':World}{Wb:Nat}{ds:List I.G}(h:WOk I base T w Wb ds)(hK:Kp [] w w')(hT:T≤T'):WOk I base T' w' Wb ds:=by
 obtain⟨pk,nk,ck,xs,pd,cd,h1,h2,h3,h4⟩:=h.hW;exact⟨h.hb,Nat.le_trans h.hbs hK.size,qW4 h.g0 hK h.hb h.hbs (by simp),h.bW,⟨pk,nk,ck,xs,pd,cd,hK.hp h1,qJ7 h2 hK (Apart.nil _ _),by omega,qJ7 h4 hK (Apart.nil _ _)⟩,by have:=h.len;omega,fun g hg=>I.keep (h.all g hg) hK (Muts.nil _ _ _) (by simp) hT,h.sep⟩
def DStep(I:DInv)(base:Nat)(T':Int)(w w':World)(g:I.G):Prop:=
 ∃ g' L,I.ok base T' w' g'∧I.B g'=I.B g∧(∀ i∈I.tur g',i∈I.tur g∨w.heap.size≤i)∧Kp L w w'∧∀ i∈L,i∈I.tur g
theorem DStep.after{I:DInv}{base:Nat}{T':Int}{w w1 w':World}{g:I.G}(h:DStep I base T' w w1 g)(hK:Kp [] w1 w'):DStep I base T' w w' g:=by
 obtain⟨g',L,h1,h2,h3,h4,h5⟩:=h;exact⟨g',L,I.keep h1 hK (Muts.nil _ _ _) (by simp) (Int.le_refl _),h2,h3,h4.tr hK,h5⟩
theorem DStep.from{I:DInv}{base:Nat}{T':Int}{w w1 w':World}{g:I.G}(hK:Kp [] w w1)(h:DStep I base T' w1 w' g)(hg:Muts base qH0 w (I.tur g)):DStep I base T' w w' g:=by
 obtain⟨g',L,h1,h2,h3,h4,h5⟩:=h;exact⟨g',L,h1,h2,fun i hi=>(h3 i hi).imp id (fun h=>by have:=hK.size;omega),(hK.mono (by simp)).trans h4 (fun i hi _=>hi),h5⟩
theorem DStep.below{I:DInv}{base:Nat}{T T':Int}{w w':World}{g:I.G}(h:DStep I base T' w w' g)(hg:I.ok base T w g)(hb:base≤w.heap.size):Below base w w':=by
 obtain⟨g',L,h1,h2,h3,h4,h5⟩:=h;exact h4.below hb (fun k hk=>(I.muts hg k (h5 k hk)).1)
theorem WOk.one{I:DInv}{base:Nat}{T T':Int}{w w':World}{Wb:Nat}{ds:List I.G}(h:WOk I base T w Wb ds)(j:Nat)(hj:j<ds.length)(hs:DStep I base T' w w' ds[j])(hT:T≤T'):∃ ds',WOk I base T' w' Wb ds':=by
 obtain⟨g',L,hg,e1,hm,hK,hL⟩:=hs;obtain⟨pk,nk,ck,xs,pd,cd,h1,h2,h3,h4⟩:=h.hW;have hd:=h.all ds[j] (List.getElem_mem hj);have hM:=I.muts hd;have hML:Muts base qH0 w L:=hM.mono (fun t ht=>ht) hL;have hMX:Muts base (qH7++qH0) w L:=hM.mono (fun t ht=>List.mem_append_right _ ht) hL;have hp:qH5 I (ds.set j g')=qH5 I ds:=by
  simp only[qH5,List.map_set,e1];exact List.ext_getElem (by simp) (fun i h1 h2=>by
   rw[List.getElem_set];split
   ·rename_i h;subst h;simp
   ·rfl)
 have hpw:=List.pairwise_iff_getElem.1 h.sep;have hlt:∀ i (hi:i<ds.length),∀ k∈I.tur ds[i],k<w.heap.size:=fun i hi k hk=>(I.muts (h.all _ (List.getElem_mem hi))).lt hk;have hq:∀ i (hi:i<ds.length),j≠i→∀ k∈I.tur ds[j],k ∉ I.tur ds[i]:=fun i hi hne k hk hk'=>by
  rcases Nat.lt_or_gt_of_ne hne with hlt|hgt
  ·exact hpw j i hj hi hlt k hk hk'
  ·exact hpw i j hi hj hgt k hk' hk
 refine⟨ds.set j g',h.hb,Nat.le_trans h.hbs hK.size,qW4 h.g0 hK h.hb h.hbs (fun k hk=>(hML k hk).1),h.bW,⟨pk,nk,ck,xs,pd,cd,?_,hML.row hK (by decide) h2,by omega,?_⟩,by have:=h.len;simp;omega,?_,?_⟩
 ·simp only[List.length_set];exact hK.heap h1 (hML.not h1 (by decide))
 ·rw[hp,List.length_set];exact hML.row hK (by decide) h4
 ·intro g hg';obtain⟨i,hi,rfl⟩:=List.getElem_of_mem hg';rw[List.getElem_set];split
  ·exact hg
  ·rename_i hne;simp only[List.length_set] at hi;exact I.keep (h.all ds[i] (List.getElem_mem hi)) hK hMX (fun k hk=>hq i hi hne k (hL k hk)) hT
 ·rw[List.pairwise_iff_getElem];intro a b ha hb hab;simp only[List.length_set] at ha hb;rw[List.getElem_set,List.getElem_set];split
  ·rename_i h1;subst h1;split
   ·omega
   ·rename_i hne;intro k hk hk';rcases hm k hk with hk|hk
    ·exact hq b hb hne k hk hk'
    ·have:=hlt b hb k hk';omega
  ·split
   ·rename_i hne h2;subst h2;intro k hk hk';rcases hm k hk' with hk'|hk'
    ·exact hq a ha (fun e=>hne e) k hk' hk
    ·have:=hlt a ha k hk;omega
   ·exact hpw a b ha hb hab
theorem WOk.turn{I:DInv}{base:Nat}{T T':Int}{w w':World}{Wb:Nat}{ds:List I.G}{S:List Nat}(h:WOk I base T w Wb ds)(hK:Kp S w w')(hS:MutC base qH7 w S)(hT:T≤T')(new:List I.G)(hnew:∀ g,g∈new→I.ok base T' w' g∧∀ i∈I.tur g,w.heap.size≤i)(hone:new.length≤1)
  (hW:∃ pk nk ck xs pd cd,w'.heap[Wb]?=some (qF5 pk nk ck pd (ds++new).length cd)∧w'.ownsRow base 3 1 (.slice pk nk ck) nk xs∧(nk:Int)≤T'∧w'.ownsRow base 119 1 (.slice pd (ds++new).length cd) (ds++new).length (qH5 I (ds++new))) (len:((ds++new).length:Int)≤T'):WOk I base T' w' Wb (ds++new):=by
 refine⟨h.hb,Nat.le_trans h.hbs hK.size,qW4 h.g0 hK h.hb h.hbs (fun k hk=>(hS k hk).1),h.bW,hW,len,?_,?_⟩
 ·intro g hg;rcases List.mem_append.1 hg with hg|hg
  ·have hd:=h.all g hg;refine I.keep hd hK (hS.muts.mono (fun t ht=>List.mem_append_left _ ht) (fun i hi=>hi)) (fun i hi hm=>?_) hT;obtain⟨_,c,t,fr,h2,h3⟩:=hS i hi;obtain⟨_,o',h2',h3'⟩:=I.muts hd i hm;rw[h2] at h2';cases h2';have h5:=h3' _ _ _ rfl;have:∀ t∈qH7,t ∉ qH0:=by decide
   exact this t h3 h5
  ·exact (hnew g hg).1
 ·rw[List.pairwise_append];refine⟨h.sep,?_,?_⟩
  ·exact jA9 _ _ hone
  ·intro g hg g' hg' i hi hi';have h1:=(I.muts (h.all g hg)).lt hi;have h2:=(hnew g' hg').2 i hi';omega
end Go.Proofs.YtdohpenfkdckiaaGreatDoor.Gw
namespace Go.Proofs.YtdohpenfkdckiaaGreatDoor.Gw
open Go.Proofs.Tryz
open Go.RowKit
open Go.ChangeMaps
structure TK where
 over:Bool
 wrt:Bool
 nr:Int
def cnt(wr:Bool)(ks:List TK):Nat:=ks.countP fun k=>!k.over && (k.wrt == wr)
structure Books(s:Sto)(D:DataW Unit)(ks:List TK):Prop where
 size:Maps.size D=cnt false ks
 keys:∀ m,Maps.has D (qC8 m)=true↔∃ (j:Nat) (k:TK),ks[j]?=some k∧k.over=false∧k.wrt=false∧k.nr=m
 wrs:∀ (j:Nat) (k:TK),ks[j]?=some k→k.over=false→k.wrt=true→k.nr=s.wr
 wr1:s.wr≠0→∃ (j:Nat) (k:TK),ks[j]?=some k∧k.over=false∧k.wrt=true∧k.nr=s.wr
 nrs:∀ (j:Nat) (k:TK),ks[j]?=some k→1≤k.nr∧k.nr≤s.bg
 four:Maps.size D≤4
 dist:∀ (a b:Nat) (ka kb:TK),ks[a]?=some ka→ks[b]?=some kb→ka.nr=kb.nr→a=b
theorem zN7{a b:Int}(h:qC8 a=qC8 b):a=b:=by
 simp only[qC8] at h;cases h;rfl
theorem xP1(a:Int):WideAt.IsKeyLit (qC8 a):=by
 simp[qC8,WideAt.IsKeyLit]
theorem Books.none{s:Sto}{D:DataW Unit}(h1:Maps.size D=0)(h2:∀ m,Maps.has D (qC8 m)=false)(h3:s.wr=0):Books s D []:=
 ⟨by rw[h1];rfl,fun m=>by simp[h2 m],fun j k h=>by simp at h,fun h=>absurd h3 h,fun j k h=>by simp at h,by omega,fun a b ka kb h=>by simp at h⟩
theorem qL5{ks:List TK}{x k:TK}{j:Nat}(h:(ks++[x])[j]?=some k):ks[j]?=some k∨(j=ks.length∧k=x):=by
 rcases Nat.lt_or_ge j ks.length with hj|hj
 ·rw[List.getElem?_append_left hj] at h;exact .inl h
 ·rw[List.getElem?_append_right hj] at h;have:j-ks.length=0:=by
   rcases Nat.eq_zero_or_pos (j-ks.length) with h0|h0
   ·exact h0
   ·rw[List.getElem?_eq_none (by simp;omega)] at h;cases h
  rw[this] at h;simp at h;exact .inr ⟨by omega,h.symm⟩
theorem zA0{ks:List TK}{x k:TK}{j:Nat}(h:ks[j]?=some k):(ks++[x])[j]?=some k:=by
 have:j<ks.length:=by
  rcases Nat.lt_or_ge j ks.length with hj|hj
  ·exact hj
  ·rw[List.getElem?_eq_none hj] at h;cases h
 rw[List.getElem?_append_left this];exact h
theorem xA2{ks:List TK}{k:TK}{j:Nat}(h:ks[j]?=some k):j<ks.length:=by
 rcases Nat.lt_or_ge j ks.length with hj|hj
 ·exact hj
 ·rw[List.getElem?_eq_none hj] at h;cases h
theorem Books.nw{s:Sto}{D:DataW Unit}{ks:List TK}(h:Books s D ks)(h0:s.wr=0){j:Nat}{k:TK}(hk:ks[j]?=some k)(ho:k.over=false):k.wrt=false:=by
 cases hw:k.wrt with
 | false=>rfl
 | true=>
  have:=h.wrs j k hk ho hw;have:=(h.nrs j k hk).1;omega
theorem Books.born_write{s:Sto}{D:DataW Unit}{ks:List TK}(h:Books s D ks)(h0:s.wr=0)(hb:0≤s.bg):Books s.wrote D (ks++[⟨false,true,s.bg+1⟩]):=by
 refine⟨?_,fun m=>?_,fun j k hk ho hw=>?_,fun _=>?_,fun j k hk=>?_,h.four,fun a b ka kb ha hb' e=>?_⟩
 ·rw[h.size,cnt,cnt,List.countP_append];simp[List.countP_cons]
 ·rw[h.keys m];constructor
  ·rintro⟨j,k,h1,h2⟩;exact⟨j,k,zA0 h1,h2⟩
  ·rintro⟨j,k,h1,h2,h3,h4⟩;rcases qL5 h1 with h1|⟨_,rfl⟩
   ·exact⟨j,k,h1,h2,h3,h4⟩
   ·cases h3
 ·rcases qL5 hk with hk|⟨_,rfl⟩
  ·have:=h.nw h0 hk ho;rw[hw] at this;cases this
  ·rfl
 ·exact⟨ks.length,⟨false,true,s.bg+1⟩,by simp,rfl,rfl,rfl⟩
 ·rcases qL5 hk with hk|⟨_,rfl⟩
  ·have:=h.nrs j k hk;exact⟨this.1,by show k.nr≤s.bg+1;omega⟩
  ·exact⟨by show 1≤s.bg+1;omega,Int.le_refl _⟩
 ·rcases qL5 ha with ha|⟨ea,rfl⟩<;>rcases qL5 hb' with hb2|⟨eb,rfl⟩
  ·exact h.dist a b ka kb ha hb2 e
  ·have:=(h.nrs a ka ha).2;simp only at e;omega
  ·have:=(h.nrs b kb hb2).2;simp only at e;omega
  ·omega
theorem Books.born_read{s:Sto}{D d:DataW Unit}{ks:List TK}(h:Books s D ks)(ht:Maps.Tidy D)(hb:0≤s.bg)(h4:Maps.size D<4):Books s.read (D.put (qC8 (s.bg+1)) d) (ks++[⟨false,false,s.bg+1⟩]):=by
 have hn:Maps.has D (qC8 (s.bg+1))=false:=by
  cases hh:Maps.has D (qC8 (s.bg+1)) with
  | false=>rfl
  | true=>
   obtain⟨j,k,h1,_,_,h4⟩:=(h.keys _).1 hh;have:=(h.nrs j k h1).2;omega
 refine⟨?_,fun m=>?_,fun j k hk ho hw=>?_,fun hw=>?_,fun j k hk=>?_,by rw[Maps.size_put ht,hn,if_neg (by simp)];omega,fun a b ka kb ha hb' e=>?_⟩
 ·rw[Maps.size_put ht,hn,if_neg (by simp),h.size,cnt,cnt,List.countP_append];simp[List.countP_cons]
 ·by_cases e:m=s.bg+1
  ·subst e;rw[Maps.has_put_same ht.isMap (xP1 _)];simp only[true_iff];exact⟨ks.length,⟨false,false,s.bg+1⟩,by simp,rfl,rfl,rfl⟩
  ·rw[Maps.has_put_other (fun h=>e (zN7 h)),h.keys m];constructor
   ·rintro⟨j,k,h1,h2⟩;exact⟨j,k,zA0 h1,h2⟩
   ·rintro⟨j,k,h1,h2,h3,h4⟩;rcases qL5 h1 with h1|⟨_,rfl⟩
    ·exact⟨j,k,h1,h2,h3,h4⟩
    ·exact absurd h4.symm e
 ·rcases qL5 hk with hk|⟨_,rfl⟩
  ·exact h.wrs j k hk ho hw
  ·cases hw
 ·obtain⟨j,k,h1,h2⟩:=h.wr1 hw;exact⟨j,k,zA0 h1,h2⟩
 ·rcases qL5 hk with hk|⟨_,rfl⟩
  ·have:=h.nrs j k hk;exact⟨this.1,by show k.nr≤s.bg+1;omega⟩
  ·exact⟨by show 1≤s.bg+1;omega,Int.le_refl _⟩
 ·rcases qL5 ha with ha|⟨ea,rfl⟩<;>rcases qL5 hb' with hb2|⟨eb,rfl⟩
  ·exact h.dist a b ka kb ha hb2 e
  ·have:=(h.nrs a ka ha).2;simp only at e;omega
  ·have:=(h.nrs b kb hb2).2;simp only at e;omega
  ·omega
theorem Books.left{s:Sto}{D:DataW Unit}{ks:List TK}(h:Books s D ks)(ht:Maps.Tidy D){i:Nat}{k:TK}(hk:ks[i]?=some k)(ho:k.over=false):Books (s.left k.nr) (D.del (qC8 k.nr)) (ks.set i ⟨true,k.wrt,k.nr⟩):=by
 have hi:=xA2 hk;have hget:ks[i]=k:=by rw[List.getElem?_eq_getElem hi] at hk;exact Option.some.inj hk
 have hset:∀ j x,(ks.set i ⟨true,k.wrt,k.nr⟩)[j]?=some x→(j≠i∧ks[j]?=some x)∨(j=i∧x=⟨true,k.wrt,k.nr⟩):=fun j x hx=>by
  rw[List.getElem?_set] at hx;split at hx
  ·rename_i e;subst e;simp[hi] at hx;exact .inr ⟨rfl,hx.symm⟩
  ·rename_i e;exact .inl ⟨fun h=>e h.symm,hx⟩
 have hne:∀ j x,j≠i→ks[j]?=some x→(ks.set i ⟨true,k.wrt,k.nr⟩)[j]?=some x:=fun j x hj hx=>by
  rw[List.getElem?_set_ne (fun e=>hj e.symm)];exact hx
 refine⟨?_,fun m=>?_,fun j x hx ho' hw=>?_,fun hw=>?_,fun j x hx=>?_,by have hd:=Maps.size_del (k:=qC8 k.nr) ht;have:=h.four;omega,fun a b ka kb ha hb' e=>?_⟩
 ·have hd:=Maps.size_del (k:=qC8 k.nr) ht;rw[h.size] at hd;have hc:cnt false (ks.set i ⟨true,k.wrt,k.nr⟩)=cnt false ks-(if k.wrt=false then 1 else 0):=by
   rw[cnt,List.countP_set hi,hget,cnt];cases hw:k.wrt<;>simp[ho,hw]
  rw[hc]
  cases hw:k.wrt with
  | false=>
   have:Maps.has D (qC8 k.nr)=true:=(h.keys _).2 ⟨i,k,hk,ho,hw,rfl⟩;rw[this] at hd;simp at hd ⊢;omega
  | true=>
   have:Maps.has D (qC8 k.nr)=false:=by
    cases hh:Maps.has D (qC8 k.nr) with
    | false=>rfl
    | true=>
     obtain⟨j,x,h1,_,h3,h4⟩:=(h.keys _).1 hh;have:=h.dist j i x k h1 hk h4;subst this;rw[hk] at h1;cases h1;rw[hw] at h3;cases h3
   rw[this] at hd;simp at hd ⊢;omega
 ·by_cases e:m=k.nr
  ·subst e;rw[Maps.has_del_same];simp only[Bool.false_eq_true,false_iff];rintro⟨j,x,h1,h2,h3,h4⟩;rcases hset j x h1 with⟨hj,h1⟩|⟨_,rfl⟩
   ·exact hj (h.dist j i x k h1 hk h4)
   ·cases h2
  ·rw[Maps.has_del_other (fun h=>e (zN7 h)),h.keys m];constructor
   ·rintro⟨j,x,h1,h2,h3,h4⟩;refine⟨j,x,hne j x (fun ej=>?_) h1,h2,h3,h4⟩;subst ej;rw[hk] at h1;cases h1;exact e h4.symm
   ·rintro⟨j,x,h1,h2,h3,h4⟩;rcases hset j x h1 with⟨_,h1⟩|⟨_,rfl⟩
    ·exact⟨j,x,h1,h2,h3,h4⟩
    ·cases h2
 ·rcases hset j x hx with⟨hj,hx⟩|⟨_,rfl⟩
  ·have:=h.wrs j x hx ho' hw;show x.nr=(s.left k.nr).wr;have hn:k.nr≠s.wr:=fun e=>hj (h.dist j i x k hx hk (by rw[this,e]));rw[Sto.left];simp only[if_neg hn];exact this
  ·cases ho'
 ·have hn:k.nr≠s.wr:=fun e=>by
   apply hw;simp[Sto.left,e]
  have hw':s.wr≠0:=fun e=>by
   apply hw;simp[Sto.left,hn,e]
  obtain⟨j,x,h1,h2,h3,h4⟩:=h.wr1 hw';refine⟨j,x,hne j x (fun ej=>?_) h1,h2,h3,?_⟩
  ·subst ej;rw[hk] at h1;cases h1;exact hn h4
  ·simp only[Sto.left,if_neg hn];exact h4
 ·rcases hset j x hx with⟨_,hx⟩|⟨_,rfl⟩
  ·exact h.nrs j x hx
  ·exact h.nrs i k hk
 ·rcases hset a ka ha with⟨h1,ha1⟩|⟨e1,rfl⟩<;>rcases hset b kb hb' with⟨h2,hb1⟩|⟨e2,rfl⟩
  ·exact h.dist a b ka kb ha1 hb1 e
  ·subst e2;exact h.dist a b ka k ha1 hk e
  ·subst e1;exact h.dist a b k kb hk hb1 e
  ·rw[e1,e2]
theorem Books.busyW{s:Sto}{D:DataW Unit}{ks:List TK}(h:Books s D ks):s.wr=0↔cnt true ks=0:=by
 rw[cnt,List.countP_eq_zero];constructor
 ·intro h0 k hk;obtain⟨j,hj,rfl⟩:=List.getElem_of_mem hk;have:=fun ho=>h.nw h0 (List.getElem?_eq_getElem hj) ho;cases ho:ks[j].over<;>simp[ho] at this ⊢;simp[this]
 ·intro hall;rcases Decidable.em (s.wr=0) with h0|h0
  ·exact h0
  ·obtain⟨j,k,h1,h2,h3,h4⟩:=h.wr1 h0;have:=hall k (List.mem_of_getElem? h1);simp[h2,h3] at this
abbrev E0:=Gen.E0
structure YG where
 tb:Nat
 f:TF
 t:Tx
 r:Root
 ps:List KV
structure YOk(base:Nat)(T:Int)(w:World)(St V:Nat)(y:YG):Prop where
 bT:base≤y.tb
 bX:base≤y.f.x
 hT:w.heap[y.tb]?=some (tob y.f)
 hx:w.heap[y.f.x]?=some (χ y.t)
 st:y.t.St=St
 sp:SPR w y.f.v y.ps
 sz:(y.ps.length:Int)≤T
 m0:0≤y.f.most
 m1:y.f.most≤T
 c0:0≤y.f.chg
 c1:y.f.chg≤T
 s0:0≤y.f.stp
 s1:y.f.stp≤T
 com:y.f.com=0
 wr:y.f.wr=y.t.wrt
 dn:y.f.dn=y.t.over
 ch0:0≤y.t.ch
 ch1:y.t.ch≤T
 live:y.t.over=false→y.t.on=some ⟨V,0,none⟩∧RR (E0 V).toEnv w y.t.h y.r∧RGood y.r∧y.r.cont=y.ps
structure SG where
 Db:Nat
 St:Nat
 V:Nat
 M:Nat
 nM:Nat
 s:Sto
 D:DataW Unit
def kOf(y:YG):TK:=⟨y.t.over,y.t.wrt,y.t.nr⟩
def qE9(ys:List YG):List (TF × Nat):=ys.map fun y=>(y.f,y.ps.length)
structure SOk(base:Nat)(T:Int)(w:World)(A n:Nat)(q:SG)(ys:List YG):Prop where
 bSt:base≤q.St
 bM:base≤q.M
 hD:w.heap[q.Db]?=some (.cells #[.pointer (some ⟨q.St,0,none⟩)] 102)
 hSt:w.heap[q.St]?=some (ν 0 q.s)
 hV:w.heap[q.V]?=some (qC5 A n)
 sV:q.s.V=q.V
 sM:q.s.M=q.M
 po:q.s.po=false
 rb:q.s.rb=0
 rs:q.s.rs=0
 bl:q.s.bl=0
 bg0:0≤q.s.bg
 bg1:q.s.bg≤T
 rm:RM w q.V q.M q.nM q.D
 nM:(q.nM:Int)≤T
 bk:Books q.s q.D (ys.map kOf)
structure TG where
 d:Gen.DG
 so:Option SG
 ys:List YG
 hs:List HEnt
def qA8(d:Gen.DG):KF:=⟨d.A,d.n,.slice d.pm d.m d.cm,false,.slice d.pw d.k d.cw,false,false,d.x,.slice none 0 0,0,false,d.ts,d.li,d.wa⟩
def qB8(g:TG):List Nat:=g.ys.map YG.tb
def qO8(g:TG):List Nat:=g.ys.map fun y=>y.f.x
def qE1:Option SG→List Nat
 | none=>[]
 | some q=>[q.St,q.M]
def qI4(g:TG):List Nat:=[g.d.B,g.d.A,g.d.C]++g.d.ts.ownBlock.toList++g.d.li.ownBlock.toList++g.d.wa.ownBlock.toList++qE1 g.so++qB8 g++qO8 g
structure TOk(base:Nat)(T:Int)(w:World)(g:TG):Prop where
 d:Gen.DOk base T w g.d
 held:Held w base (qA8 g.d) g.hs
 hlen:(g.hs.length:Int)≤T
 hps:∀ x∈g.hs,(x.ps.length:Int)≤T+2
 row:w.ownsRow base 132 1 g.d.ts (qB8 g).length (qF3 (qB8 g))
 ylen:(g.ys.length:Int)≤T
 so:(g.d.x=none∧g.so=none∧g.ys=[])∨∃ q,g.so=some q∧g.d.x=some ⟨q.Db,0,none⟩∧SOk base T w g.d.A g.d.n q g.ys∧∀ y∈g.ys,YOk base T w q.St q.V y
 tbs:(qB8 g).Nodup
 xs:(qO8 g).Nodup
theorem qB4{g:TG}{i:Nat}:i∈qI4 g↔(i=g.d.B∨i=g.d.A∨i=g.d.C)∨g.d.ts.ownBlock=some i∨g.d.li.ownBlock=some i∨g.d.wa.ownBlock=some i∨i∈qE1 g.so∨i∈qB8 g∨i∈qO8 g:=by
 simp only[qI4,List.mem_append,List.mem_cons,List.not_mem_nil,or_false,Option.mem_toList,or_assoc,Option.mem_def]
theorem qI1{L:List Nat}{w w':World}{base n sz:Nat}{T:TypeId}{v:Value}{xs:List Value}(h:w.ownsRow base T sz v n xs)(hK:Kp L w w')(hL:∀ i,v.ownBlock=some i→i ∉ L):w'.ownsRow base T sz v n xs:=by
 refine⟨h.1,?_⟩;rcases h.2 with h0|⟨g,cap,cur,h1,h2,h3,h4⟩
 ·exact .inl h0
 ·exact .inr ⟨g,cap,cur,h1,h2,hK.heap h3 (hL g (by rw[h1];simp[Value.ownBlock])),h4⟩
theorem DOk.kp{base:Nat}{T T':Int}{w w':World}{g:Gen.DG}{S:List Nat}(h:Gen.DOk base T w g)(hK:Kp S w w')(hT:T≤T')(hB:g.B ∉ S)(hA:g.A ∉ S)(hC:g.C ∉ S)(hS:Apt w S [126]):Gen.DOk base T' w' g:=
 have hS':∀ k c t fr,w.heap[k]?=some (.cells c t fr)→k∈S→t≠126:=fun k c t fr e hk et=>hS k hk c t fr e (by simp[et])
 ⟨h.bB,h.bA,h.bC,hK.heap h.hB hB,hK.heap h.hA hA,hK.heap h.hC hC,h.len,h.n1000,h.calls0,by have:=h.calls1;omega,h.writes0,by have:=h.writes1;omega,by have:=h.k1;omega,h.may.kp hK hS',h.were.kp hK hS',by
  rcases h.st with h|⟨h1,h2,h3⟩
  ·exact .inl h
  ·exact .inr ⟨h1,by omega,h3⟩⟩
theorem Held.kp{w w':World}{base:Nat}{k:KF}{hs:List HEnt}{L:List Nat}(h:Held w base k hs)(hK:Kp L w w')(h1:∀ i,k.li.ownBlock=some i→i ∉ L)(h2:∀ i,k.wa.ownBlock=some i→i ∉ L)(hS:Apt w L [42]):Held w' base k hs:=
 ⟨qI1 h.li hK h1,qI1 h.wa hK h2,h.two,fun x hx=>⟨(h.eq x hx).1.keep hK hS,(h.eq x hx).2.keep hK hS⟩⟩
theorem Held.cast{w:World}{base:Nat}{k k':KF}{hs:List HEnt}(h:Held w base k hs)(e1:k'.li=k.li)(e2:k'.wa=k.wa):Held w base k' hs:=
 ⟨by rw[e1];exact h.li,by rw[e2];exact h.wa,by rw[e1,e2];exact h.two,h.eq⟩
theorem YOk.kp{base:Nat}{T T':Int}{w w':World}{St V:Nat}{y:YG}{L:List Nat}(h:YOk base T w St V y)(hK:Kp L w w')(hT:T≤T')(h1:y.tb ∉ L)(h2:y.f.x ∉ L)(hS:Apt w L (284::qG8)):YOk base T' w' St V y:=
 ⟨h.bT,h.bX,hK.heap h.hT h1,hK.heap h.hx h2,h.st,h.sp.keep hK (fun k hk c t fr e hm=>hS k hk c t fr e (by simp at hm;simp[hm])),by have:=h.sz;omega,h.m0,by have:=h.m1;omega,h.c0,by have:=h.c1;omega,h.s0,by have:=h.s1;omega,h.com,h.wr,h.dn,h.ch0,by have:=h.ch1;omega,fun ho=>by
  obtain⟨a1,a2,a3,a4⟩:=h.live ho;exact⟨a1,a2.keepT hK (fun k hk c t fr e hm=>hS k hk c t fr e (List.mem_cons_of_mem _ hm)),a3,a4⟩⟩
theorem SOk.kp{base:Nat}{T T':Int}{w w':World}{A n:Nat}{q:SG}{ys:List YG}{L:List Nat}(h:SOk base T w A n q ys)(hK:Kp L w w')(hT:T≤T')(h1:q.St ∉ L)(h2:q.M ∉ L)(hS:Apt w L [102,263]):SOk base T' w' A n q ys:=
 ⟨h.bSt,h.bM,hK.heap h.hD (fun hm=>hS _ hm _ _ _ h.hD (by simp)),hK.heap h.hSt h1,hK.heap h.hV (fun hm=>hS _ hm _ _ _ h.hV (by simp)),h.sV,h.sM,h.po,h.rb,h.rs,h.bl,h.bg0,by have:=h.bg1;omega,h.rm.kp hK h2,by have:=h.nM;omega,h.bk⟩
theorem TOk.keep{base:Nat}{T T':Int}{w w':World}{g:TG}{L:List Nat}(h:TOk base T w g)(hK:Kp L w w')(hM:Muts base (qH7++qH0) w L)(hL:∀ i∈L,i ∉ qI4 g)(hT:T≤T'):TOk base T' w' g:=by
 have hn:∀ i,i∈qI4 g→i ∉ L:=fun i hi hm=>hL i hm hi;refine⟨DOk.kp h.d hK hT (hn _ (qB4.2 (by simp))) (hn _ (qB4.2 (by simp))) (hn _ (qB4.2 (by simp))) (hM.apt (by decide)),Held.kp h.held hK (fun i hi=>hn i (qB4.2 (by simp[show g.d.li.ownBlock=some i from hi]))) (fun i hi=>hn i (qB4.2 (by simp[show g.d.wa.ownBlock=some i from hi]))) (hM.apt (by decide)),by have:=h.hlen;omega,fun x hx=>by have:=h.hps x hx;omega,qI1 h.row hK (fun i hi=>hn i (qB4.2 (by simp[hi]))),by have:=h.ylen;omega,?_,h.tbs,h.xs⟩;rcases h.so with h0|⟨q,e1,e2,h3,h4⟩
 ·exact .inl h0
 ·refine .inr ⟨q,e1,e2,h3.kp hK hT (hn _ (qB4.2 (by simp[e1,qE1]))) (hn _ (qB4.2 (by simp[e1,qE1]))) (hM.apt (by decide)),fun y hy=>(h4 y hy).kp hK hT (hn _ (qB4.2 ?_)) (hn _ (qB4.2 ?_)) (hM.apt (by decide))⟩
  ·exact .inr (.inr (.inr (.inr (.inr (.inl (List.mem_map.2 ⟨y,hy,rfl⟩))))))
  ·exact .inr (.inr (.inr (.inr (.inr (.inr (List.mem_map.2 ⟨y,hy,rfl⟩))))))
theorem TOk.muts{base:Nat}{T:Int}{w:World}{g:TG}(h:TOk base T w g):Muts base qH0 w (qI4 g):=by
 intro k hk;rcases qB4.1 hk with (rfl|rfl|rfl)|hk|hk|hk|hk|hk|hk
 ·exact⟨h.d.bB,_,h.d.hB,fun c t fr e=>by cases e;decide⟩
 ·exact⟨h.d.bA,_,h.d.hA,fun c t fr e=>by cases e;decide⟩
 ·exact⟨h.d.bC,_,h.d.hC,fun c t fr e=>by cases e;decide⟩
 ·obtain⟨h1,c,h2⟩:=qD4 h.row k (by simp[hk]);exact⟨h1,_,h2,fun c t fr e=>by cases e;decide⟩
 ·obtain⟨h1,c,h2⟩:=qD4 h.held.li k (by simp[qA8,hk]);exact⟨h1,_,h2,fun c t fr e=>by cases e;decide⟩
 ·obtain⟨h1,c,h2⟩:=qD4 h.held.wa k (by simp[qA8,hk]);exact⟨h1,_,h2,fun c t fr e=>by cases e;decide⟩
 ·rcases h.so with⟨_,e,_⟩|⟨q,e1,e2,h3,h4⟩
  ·rw[e] at hk;cases hk
  ·rw[e1] at hk;simp only[qE1,List.mem_cons,List.not_mem_nil,or_false] at hk;rcases hk with rfl|rfl
   ·exact⟨h3.bSt,_,h3.hSt,fun c t fr e=>by cases e;decide⟩
   ·obtain⟨es,c,h5⟩:=Gen.RM.obj h3.rm;exact⟨h3.bM,_,h5,fun c t fr e=>by cases e⟩
 ·obtain⟨y,hy,rfl⟩:=List.mem_map.1 hk;rcases h.so with⟨_,_,e⟩|⟨q,e1,e2,h3,h4⟩
  ·rw[e] at hy;cases hy
  ·exact⟨(h4 y hy).bT,_,(h4 y hy).hT,fun c t fr e=>by cases e;decide⟩
 ·obtain⟨y,hy,rfl⟩:=List.mem_map.1 hk;rcases h.so with⟨_,_,e⟩|⟨q,e1,e2,h3,h4⟩
  ·rw[e] at hy;cases hy
  ·exact⟨(h4 y hy).bX,_,(h4 y hy).hx,fun c t fr e=>by cases e;decide⟩
def qN7:DInv where
 G:=TG
 kf:=fun g=>qA8 g.d
 B:=fun g=>g.d.B
 tbs:=qB8
 tur:=qI4
 ok:=TOk
 kob_:=fun h=>h.d.hB
 row:=fun h=>PRow.of h.row
 tlen:=fun h=>by have:=h.ylen;simp only[qB8,List.length_map];exact this
 inB:=fun g=>qB4.2 (by simp)
 muts:=fun h=>h.muts
 keep:=fun h hK hM hL hT=>h.keep hK hM hL hT
 fresh:=fun base T w b A C m hb hA hC hT hm h1 h2 h3=>by
  have hd:Gen.DOk base T w ⟨b,A,C,m,List.replicate (m*128) 0,0,0,0,none,0,0,none,0,0,none,.slice none 0 0,.slice none 0 0,.slice none 0 0⟩:=⟨hb,hA,hC,h1,h2,h3,by simp,hm,by simp,by show (0:Int)≤6*T;omega,by simp,by show (0:Int)≤2*T;omega,by show ((0:Nat):Int)≤T;omega,World.ownsRow_nil _ _ _ _,World.ownsRow_nil _ _ _ _,.inl ⟨fun h8=>zM5 m h8,rfl,rfl⟩⟩;have hh:Held w base (qA8 ⟨b,A,C,m,List.replicate (m*128) 0,0,0,0,none,0,0,none,0,0,none,.slice none 0 0,.slice none 0 0,.slice none 0 0⟩) []:=⟨World.ownsRow_nil _ _ _ _,World.ownsRow_nil _ _ _ _,fun i hi=>(by cases hi),fun x hx=>(by cases hx)⟩;refine⟨⟨⟨b,A,C,m,List.replicate (m*128) 0,0,0,0,none,0,0,none,0,0,none,.slice none 0 0,.slice none 0 0,.slice none 0 0⟩,none,[],[]⟩,⟨hd,hh,by simpa using hT,fun x hx=>(by cases hx),World.ownsRow_nil _ _ _ _,by simpa using hT,.inl ⟨rfl,rfl,rfl⟩,List.nodup_nil,List.nodup_nil⟩,rfl,fun i hi=>?_⟩;rcases qB4.1 hi with h|h|h|h|h|h|h
  ·exact h
  ·cases h
  ·cases h
  ·cases h
  ·cases h
  ·cases h
  ·cases h
end Go.Proofs.YtdohpenfkdckiaaGreatDoor.Gw
namespace Go.Proofs.YtdohpenfkdckiaaGreatDoor
open Go.Proofs.Tryz
open Go.RowKit
theorem zR0{l n:Nat}{P:Program}{ops:Array Oper}{Q:Exit→Act→World→Prop}(hdf:∀ (i:Nat) (o:Oper),ops[i]?=some o→∀ c,o.op≠.defer c)(hQ:¬LetsOut Q):∀ (is:List Nat) (a:Act) (w:World),wpOps P ops Q is a w→wpOpsIn (Fence.wide.inRound l) n P ops Q is a w
 | [],a,w,h=>h
 | i::rest,a,w,h=>by
  have ih:=fun a w=>zR0 (l:=l) (n:=n) (P:=P) hdf hQ rest a w;unfold wpOps at h;unfold wpOpsIn
  cases ho:ops[i]? with
  | none=>
   simp only[ho] at h ⊢;exact ih a w h
  | some o=>
   simp only[ho] at h ⊢;split
   ·rename_i hw;rw[if_pos hw] at h;have h:=h.resolve_right (fun h=>hQ h.2);refine⟨fun _ _=>trivial,?_⟩;rw[Fence.inRound_round,Oper.semAt_eq _ _ _ (hdf i o ho)];unfold Oper.wp at h;generalize (execOp a.eval o).run P w=r at h
    cases r with
    | ok nx w'=>
     cases nx with
     | value v=>exact ih _ _ h
     | skip=>exact ih _ _ h
     | defer d=>exact ih _ _ h
     | enter f args=>
      refine⟨fun hh=>(by cases hh),CallsIn.inRound l (callsIn_wide.2 (Calls.mono h ?_))⟩;intro e w'' hx
      cases e with
      | returned v=>exact ih _ _ hx
      | panicked c=>exact hx
      | outgrown=>exact hx
     | row row args=>
      refine⟨fun hh=>(by cases hh),fun c cs _=>?_⟩;obtain⟨v,w'',hx,hs⟩:=h c cs;exact⟨v,w'',ih _ _ hx,stepsIn_wide.2 hs⟩
     | _=>exact h.elim
    | halt hh w'=>
     cases hh with
     | panic v=>exact h
     | _=>exact h.elim
   ·rename_i hw;rw[if_neg hw] at h;exact⟨fun _ _=>trivial,ih _ _ h⟩
def zE0(o:Oper):Bool:=match o.op with
 | .defer _=>false
 | _=>true
theorem xY4{ops:Array Oper}(h:ops.all zE0=true):∀ (i:Nat) (o:Oper),ops[i]?=some o→∀ c,o.op≠.defer c:=fun i o ho c e=>by
 have hm:o∈ops:=Array.mem_of_getElem? ho;have:=Array.all_eq_true_iff_forall_mem.1 h o hm;simp[zE0,e] at this
theorem jI5{l n:Nat}{P:Program}{ops:Array Oper}{Q:Exit→Act→World→Prop}{S:World→Prop}{id:Nat}{a:Act}{w:World}(hm:P.follows .mixedOrders=true)(hdf:ops.all zE0=true)(hQ:¬LetsOut Q)(hS:S w.drew)
  (h:S w.drew→wpAnyH P .any ops Q S ops.size (Array.replicate ops.size false) a w.drew):(Code.region id ops true).wpIn (Fence.wide.inRound l) n P Q a w:=
 wpIn_region_draw fun t=>by
  simp only[Region.schedule,hm,Bool.true_or,if_true];exact zR0 (xY4 hdf) hQ _ _ _ (wpAny_sound ops.size t _ a _ (wpAny_of_held _ _ _ _ (h hS)))
end Go.Proofs.YtdohpenfkdckiaaGreatDoor
namespace Go.Proofs.YtdohpenfkdckiaaGreatDoor
open Go.Proofs.Tryz
open Go.RowKit
attribute [local go_sem] Oper.semAt_some
theorem xA4(l m Sx gb off k cp:Nat)(cur:Array Value)(fr:Nat × Nat)(hs:List HL)(J:Nat→World→Prop)(Jx:World→Prop)(w:World)(hk:k≤10000)(hkc:k≤cp)(hkh:k≤hs.length)
  (hcur:∀ i (h:i<hs.length),cur[off+i*4]?=some (.string hs[i].key)∧cur[off+i*4+1]?=some (.int .i64 hs[i].b)∧cur[off+i*4+2]?=some (.int .u64 hs[i].s)∧cur[off+i*4+3]?=some (.pointer hs[i].ptr))
  (hbox:∀ i W,J i W→W.heap[Sx]?=some (.cells #[.slice (some ⟨gb,off,none⟩) k cp] 156)∧W.heap[gb]?=some (.cells cur 87 fr))
  (hY:∀ i (hi:i<k) W,J (i+1) W→YieldAt Fence.wide (m-1) prog l #[.int .i64 i,.agg #[.string hs[i].key,.int .i64 hs[i].b,.int .u64 hs[i].s,.pointer hs[i].ptr]] W fun e W'=>(e=.returned (.bool true)∧J i W')∨(e=.returned (.bool false)∧Jx W'))
  (h0:J k w):
  CallsIn Fence.wide m prog 220 #[.func (.yield l) #[] #[],.pointer (some ⟨Sx,0,none⟩)] w fun e w'=>(∃ v,e=.returned v)∧(J 0 w'∨Jx w'):=by
 have HJ0:=zh h0;have HBX:=zh hbox;have HY:=zh hY;have HCUR:=zh hcur;have hS0:=(hbox k w h0).1;have hSs:=ζ hS0;have s0:=ξ hS0 0;simp only[zG,zH,zI] at s0;have hwr:wrap64 ((k:Int)-1)=(k:Int)-1:=by simp only[wrap64];omega
 clear hbox hY hcur h0 hS0;refine callsIn_of_wp func220 rfl trivial ?_ rfl;simp only[ntmps220,List.size_toArray,List.length_cons,List.length_nil,Nat.reduceAdd,Nat.reduceSub,Array.replicate_succ,Array.replicate_zero,List.push_toArray,List.append_toArray,List.nil_append,List.cons_append]
 gi_wp2_with fail
 gi_loopg [3] k (fun gk v wr=>gk≤k∧v=.int .i64 ((gk:Int)-1)∧Hid (J gk wr))
 case atStart=>exact⟨Nat.le_refl _,by simp[hwr],HJ0⟩
 case round=>
  obtain⟨hgk,rfl,hJ⟩:=hrel;obtain⟨hS1,hG1⟩:=HBX.out _ _ hJ.out;have hS1s:=ζ hS1;have hG1s:=ζ hG1;have s0:=ξ hS1 0;simp only[zG,zH,zI] at s0;by_cases h0:gk=0
  ·subst h0;have hc:¬(0:Int)≤((0:Nat):Int)-1:=by omega
   clear hS1 hG1;rw[show ((0:Nat):Int)-1=-1 by rfl] at hc ⊢
   gi_wp2
   refine bodyPost_end (results_none results220 _ _ _) rfl ?_;exact⟨⟨_,rfl⟩,.inl hJ.out⟩
  ·obtain⟨i,rfl⟩:∃ i,gk=i+1:=⟨gk-1,by omega⟩;have hi:i<k:=by omega
   have e1:((i+1:Nat):Int)-1=(i:Int):=by omega
   rw[e1];have hc:(0:Int)≤(i:Int):=by omega
   have hib:(i:Int)<(k:Int):=by omega
   obtain⟨c0,c1,c2,c3⟩:=HCUR.out i (by omega);have a0:=ξ hG1 (off+i*4);rw[c0] at a0;have a1:=ξ hG1 (off+i*4+1);rw[c1] at a1;have a2:=ξ hG1 (off+i*4+2);rw[c2] at a2;have a3:=ξ hG1 (off+i*4+3);rw[c3] at a3;obtain⟨fn,tmps,assign,body,hy,hR⟩:=HY.out i hi wr hJ.out;have hwi:wrap64 ((i:Int)-1)=(i:Int)-1:=by simp only[wrap64];omega
   clear c0 c1 c2 c3 hG1 hS1 hJ e1 h0
   gi_wp2
   refine⟨fun h=>(by cases h),hR.mono ?_⟩;clear hR hy;rintro e w5 (⟨rfl,hJ5⟩|⟨rfl,hJx⟩)
   ·have HJ5:=zh hJ5;clear hJ5 a0 a1 a2 a3
    gi_wp2
    gi_roundg i
    ·exact⟨by omega,by go_num,HJ5⟩
    ·omega
   ·have HX:=zh hJx;clear hJx a0 a1 a2 a3
    gi_wp2
    refine bodyPost_ret (results_none results220 _ _ _) rfl ?_;exact⟨⟨_,rfl⟩,.inr HX.out⟩
end Go.Proofs.YtdohpenfkdckiaaGreatDoor
namespace Go.Proofs.YtdohpenfkdckiaaGreatDoor
open Go.Proofs.Tryz
open Go.RowKit
attribute [local go_sem] Oper.semAt_some
theorem xE4(args:Array Value)(W:World):Sem.run prog (callFunc 220 args) W=.ok (.enter 220 args) W:=by
 simp[go_sem,func220]
def qT5(x:HL):Value:=.agg #[.string x.key,.int .i64 x.b,.int .u64 x.s,.pointer x.ptr]
def qR3(x:HL):Obj:=.cells #[.string x.key,.int .i64 x.b,.int .u64 x.s,.pointer x.ptr] 87
def zG7(N:Nat)(W W3:World):Prop:=W3.heap[N+1]?=W.heap[N+1]?∧W3.heap[N]?=W.heap[N]?
theorem jI4{nn:Nat}{g:Operand}{ps:Array Tmp}{assign body:Code}{Q:Exit→Act→World→Prop}{a:Act}{w:World}(Sx gb off k cp:Nat)(cur:Array Value)(fr:Nat × Nat)(hs:List HL)(h1:1≤nn)(hk:k≤10000)(hkc:k≤cp)(hkh:k≤hs.length)
  (hg:a.eval g=.func (.func 220) #[] #[.pointer (some ⟨Sx,0,none⟩)]) (hps:ps.size=2)
  (hcur:∀ i (h:i<hs.length),cur[off+i*4]?=some (.string hs[i].key)∧cur[off+i*4+1]?=some (.int .i64 hs[i].b)∧cur[off+i*4+2]?=some (.int .u64 hs[i].s)∧cur[off+i*4+3]?=some (.pointer hs[i].ptr))
  (J:Nat→World→Prop) (Jx:World→Prop)
  (hJK:∀ i W W',J i W→Kp [w.heap.size+1] W W'→(∃ rec,W.heap[w.heap.size+1]?=some (.loop rec))→J i W') (hJxK:∀ W W',Jx W→Kp [w.heap.size+1] W W'→(∃ rec,W.heap[w.heap.size+1]?=some (.loop rec))→Jx W')
  (hbox:∀ i W,J i W→W.heap[Sx]?=some (.cells #[.slice (some ⟨gb,off,none⟩) k cp] 156)∧W.heap[gb]?=some (.cells cur 87 fr))
  (hJ0:∀ W,Kp [] w W→J k W)
  (a₁:Nat→HL→Nat→Act)
  (hassign:∀ (l i:Nat) (hi:i<k) (W:World) (K:Act→World→Prop),(∀ W2,W2.heap[W.heap.size]?=some (qR3 hs[i])→Kp [] W W2→K (a₁ i hs[i] W.heap.size) W2)→
   assign.wpIn (Fence.wide.inRound l) (nn-1-1) prog (Exit.then K (fun _ _ _=>False)) { tmps:=(ps.zip #[.int .i64 i,qT5 hs[i]]).foldl (fun t (p,v)=>t.setIfInBounds p v) a.tmps,defers:=[] } W)
  (hbody:∀ (l i:Nat) (hi:i<k) (W:World) (X:Nat),J (i+1) W→W.heap[X]?=some (qR3 hs[i])→w.heap.size+1<X→(∃ rec,W.heap[w.heap.size+1]?=some (.loop rec))→W.heap[w.heap.size]?=some (.deferred (some []))→
   body.wpIn (Fence.wide.inRound l) (nn-1-1) prog (fun e _ W3=>match e with
    | .normal=>J i W3∧zG7 w.heap.size W W3
    | .ret=>Jx W3∧zG7 w.heap.size W W3
    | _=>False) (a₁ i hs[i] X) W)
  (hdone:∀ (W:World),J 0 W→W.heap[w.heap.size]?=some (.deferred (some []))→Q .normal { a with defers:={ target:=.collected w.heap.size,args:=#[] }::a.defers } W)
  (hstop:∀ (W:World),Jx W→W.heap[w.heap.size]?=some (.deferred (some []))→Code.ret.wpIn Fence.wide nn prog Q { a with defers:={ target:=.collected w.heap.size,args:=#[] }::a.defers } W):
  (Code.rangeFunc g ps assign body).wpIn Fence.wide nn prog Q a w:=by
 refine wpIn_rangeFunc ?_;intro fn hfn;obtain⟨rec,hrec⟩:∃ rec:LoopState→Option Code→Loop,rec=fun st pe=>{ state:=st,pending:=pe,fn,tmps:=a.tmps,params:=ps,assign,body,defers:=w.heap.size }:=⟨_,rfl⟩;obtain⟨W1,hW1⟩:∃ W1,(w.alloc (.deferred (some []))).alloc (.loop (rec .ready none))=W1:=⟨_,rfl⟩;have hL1:W1.heap[w.heap.size+1]?=some (.loop (rec .ready none)):=by
  rw[←hW1];have:=World.alloc_heap_new (w.alloc (.deferred (some []))) (.loop (rec .ready none));rwa [World.size_alloc] at this
 have hD1:W1.heap[w.heap.size]?=some (.deferred (some [])):=by
  rw[←hW1];exact (Below.heap_alloc _ _ _ (by simp)).trans (World.alloc_heap_new w _)
 have hK1:Kp [] w W1:=by rw[←hW1];exact ((Kp.refl _ _).alloc _).alloc _
 refine⟨w.heap.size+1,[{ target:=.collected w.heap.size,args:=#[] }],W1,{ target:=.fn (.func 220) #[.pointer (some ⟨Sx,0,none⟩)],args:=#[.func (.yield (w.heap.size+1)) #[] #[]] },W1,220,
  #[.func (.yield (w.heap.size+1)) #[] #[],.pointer (some ⟨Sx,0,none⟩)],W1,?_,?_,?_,?_,fun h=>(by cases h),?_⟩
 ·rw[←hW1,hrec];exact run_enterLoop_outer _ _ _ _ _
 ·simp only[resolve,hg];simp[go_sem]
 ·intro f' hf';trivial
 ·simp[invoke,go_sem,xE4]
 ·refine (xA4 (w.heap.size+1) (nn-1) Sx gb off k cp cur fr hs (fun i W=>J i W∧W.heap[w.heap.size+1]?=some (.loop (rec .ready none))∧W.heap[w.heap.size]?=some (.deferred (some []))) (fun W=>Jx W∧W.heap[w.heap.size+1]?=some (.loop (rec .done (some .ret)))∧W.heap[w.heap.size]?=some (.deferred (some []))) W1 hk hkc hkh hcur (fun i W h=>hbox i W h.1) ?_ ⟨hJ0 W1 hK1,hL1,hD1⟩).mono ?_
  ·
   rintro i hi W ⟨hJ,hL,hD⟩;have hlt:w.heap.size+1<W.heap.size:=ζ hL;have hy:=run_yield (P:=prog) (args:=#[.int .i64 i,qT5 hs[i]]) hL (by rw[hrec];simp[hps]);rw[hrec] at hy;refine⟨fn,_,assign,body,hy,roundIn_of_wpIn hfn (hassign _ i hi W _ ?_)⟩;clear hy;intro W2 hX2 hK2;have hL2:=hK2.hp hL;have hD2:=hK2.hp hD;refine⟨_,run_beginRound hL2 (by rw[hrec]),?_⟩;obtain⟨W3,hW3,hL3,hK3⟩:∃ W3,W3=W2.putObj (w.heap.size+1) (.loop { rec .ready none with state:=.busy })∧W3.heap[w.heap.size+1]?=some (.loop { rec .ready none with state:=.busy })∧Kp [w.heap.size+1] W2 W3:=
    ⟨_,rfl,World.putObj_heap_same (ζ hL2),(Kp.refl _ _).putObj (by simp) _⟩
   rw[←hW3];clear hW3;have hJ3:J (i+1) W3:=hJK _ _ _ hJ (hK2.mono (by simp) |>.trans hK3 (fun _ h _=>h)) ⟨_,hL⟩;have hX3:=hK3.ho hX2;have hD3:=hK3.hp hD2;refine wpIn_mono (hbody _ i hi W3 W.heap.size hJ3 hX3 hlt ⟨_,hL3⟩ hD3) ?_;rintro e a3 W4 hp
   cases e with
   | normal=>
    obtain⟨hJ4,hb1,hb2⟩:=hp;rw[hL3] at hb1;rw[hD3] at hb2;have hr:=run_endRound (P:=prog) none hb1;rw[hrec] at hr;refine⟨_,_,hr,.inl ⟨rfl,?_⟩⟩;have hKf:Kp [w.heap.size+1] W4 (W4.putObj (w.heap.size+1) (.loop (rec .ready none))):=(Kp.refl _ _).putObj (by simp) _;have hfin:J i (W4.putObj (w.heap.size+1) (.loop (rec .ready none)))∧(W4.putObj (w.heap.size+1) (.loop (rec .ready none))).heap[w.heap.size+1]?=some (.loop (rec .ready none))∧(W4.putObj (w.heap.size+1) (.loop (rec .ready none))).heap[w.heap.size]?=some (.deferred (some [])):=
     ⟨hJK _ _ _ hJ4 hKf ⟨_,hb1⟩,World.putObj_heap_same (ζ hb1),hKf.hp hb2⟩
    rw[hrec] at hfin ⊢;exact hfin
   | ret=>
    obtain⟨hJ4,hb1,hb2⟩:=hp;rw[hL3] at hb1;rw[hD3] at hb2;have hr:=run_endRound (P:=prog) (some .ret) hb1;rw[hrec] at hr;refine⟨_,_,hr,.inr ⟨rfl,?_⟩⟩;have hKf:Kp [w.heap.size+1] W4 (W4.putObj (w.heap.size+1) (.loop (rec .done (some .ret)))):=(Kp.refl _ _).putObj (by simp) _;have hfin:Jx (W4.putObj (w.heap.size+1) (.loop (rec .done (some .ret))))∧(W4.putObj (w.heap.size+1) (.loop (rec .done (some .ret)))).heap[w.heap.size+1]?=some (.loop (rec .done (some .ret)))∧(W4.putObj (w.heap.size+1) (.loop (rec .done (some .ret)))).heap[w.heap.size]?=some (.deferred (some [])):=
     ⟨hJxK _ _ hJ4 hKf ⟨_,hb1⟩,World.putObj_heap_same (ζ hb1),hKf.hp hb2⟩
    rw[hrec] at hfin ⊢;exact hfin
   | exit i=>exact hp.elim
   | goto l=>exact hp.elim
   | panic ch=>exact hp.elim
   | outgrown=>exact hp.elim
  ·
   rintro e W2 ⟨⟨v,rfl⟩,⟨hJ2,hL2,hD2⟩|⟨hJ2,hL2,hD2⟩⟩
   ·have hr:=run_endLoop (P:=prog) hL2 (by rw[hrec];simp);rw[hrec] at hr;have hKf:Kp [w.heap.size+1] W2 (W2.putObj (w.heap.size+1) (.loop { rec .ready none with state:=.exhausted })):=(Kp.refl _ _).putObj (by simp) _;refine⟨none,_,hr,?_⟩;have:=hdone (W2.putObj (w.heap.size+1) (.loop { rec .ready none with state:=.exhausted })) (hJK _ _ _ hJ2 hKf ⟨_,hL2⟩) (hKf.hp hD2);rw[hrec] at this;exact this
   ·have hr:=run_endLoop (P:=prog) hL2 (by rw[hrec];simp);rw[hrec] at hr;have hKf:Kp [w.heap.size+1] W2 (W2.putObj (w.heap.size+1) (.loop { rec .done (some .ret) with state:=.exhausted })):=(Kp.refl _ _).putObj (by simp) _;refine⟨some .ret,_,hr,?_⟩;have:=hstop (W2.putObj (w.heap.size+1) (.loop { rec .done (some .ret) with state:=.exhausted })) (hJxK _ _ hJ2 hKf ⟨_,hL2⟩) (hKf.hp hD2);rw[hrec] at this;exact this
end Go.Proofs.YtdohpenfkdckiaaGreatDoor
namespace Go.Proofs.YtdohpenfkdckiaaGreatDoor
open Go.Proofs.Tryz
open Go.RowKit
theorem zO4{f:ByteArray→Bool}{l:List KV}(h:∀ q∈l,f q.k=false):qA9 f l=none:=by
 rw[qA9,List.find?_eq_none];intro q hq;simp[h q (by simpa using hq)]
theorem zO5{f:ByteArray→Bool}{p:KV}(h:f p.k=true):qA9 f [p]=some p:=by simp[qA9,h]
theorem zO6{f:ByteArray→Bool}(hd:qN5 f){l:List KV}(hs:Sorted l){i:Nat}(hi:l.findIdx (fun q=>!f q.k)-1=i)(hl:i<l.length):qA9 f l=if f l[i].k then some l[i] else none:=by
 obtain⟨j,hj⟩:∃ j,l.findIdx (fun q=>!f q.k)=j:=⟨_,rfl⟩;have hjl:j≤l.length:=by rw[←hj];exact List.findIdx_le_length
 have hbe:∀ q∈l.drop j,f q.k=false:=by
  intro q hq;obtain⟨b,hb,rfl⟩:=List.getElem_of_mem hq;rw[List.getElem_drop];have hjb:j+b<l.length:=by simp at hb;omega
  have hlt:j<l.length:=by omega
  have hfj:f l[j].k=false:=by
   have:=List.findIdx_getElem (p:=fun q:KV=>!f q.k) (xs:=l) (w:=by rw[hj];exact hlt);simp only[hj] at this;simpa using this
  by_cases e:b=0
  ·subst e;simpa using hfj
  ·cases hf:f l[j+b].k with
   | false=>rfl
   | true=>
    have hk:=List.pairwise_iff_getElem.1 hs j (j+b) hlt hjb (by omega);rw[hd _ _ hk hf] at hfj;cases hfj
 by_cases h0:j=0
 ·have e0:i=0:=by omega
  subst e0;have hall:∀ q∈l,f q.k=false:=by rw[h0] at hbe;simpa using hbe
  rw[zO4 hall,if_neg (by rw[hall _ (List.getElem_mem _)];simp)]
 ·have ei:i=j-1:=by omega
  subst ei;have hfi:f l[j-1].k=true:=by
   have:=List.not_of_lt_findIdx (p:=fun q:KV=>!f q.k) (xs:=l) (i:=j-1) (by rw[hj];omega);simpa using this
  rw[if_pos hfi];have hsp:l=l.take (j-1)++[l[j-1]]++l.drop j:=by
   have h1:l.take (j-1)++[l[j-1]]=l.take j:=by
    rw[←List.take_succ_eq_append_getElem hl]
    congr 1
    omega
   rw[h1,List.take_append_drop]
  obtain⟨x,hx⟩:∃ x,l[j-1]=x:=⟨_,rfl⟩;rw[hx] at hsp hfi ⊢;have e:=congrArg (qA9 f) hsp;rw[qJ1,qJ1,zO4 hbe,zO5 hfi] at e;rw[e];rfl
theorem xP2(g F:Nat)(cap:Array Value)(p:KV)(b:Bool)(w:World)(hF:w.heap[F]?=some (.cells #[.func (.func g) #[] cap] 92))
  (hcf:∀ (args:Array Value) (W:World),Sem.run prog (callFunc g args) W=.ok (.enter g args) W)
  (hf:∀ W,Kp [] w W→Calls prog g (#[.string p.k]++cap) W fun e W'=>e=.returned (.bool b)∧Kp [] W W'):
  Calls prog 155 #[.agg #[.string p.k,.string p.v],.pointer (some ⟨F,0,none⟩)] w fun e w'=>e=.returned (.bool b)∧Kp [] w w':=by
 have HF:=zh hf;clear hf;have hFs:=ζ hF;have f0:=ξ hF 0;simp only[zG,zH,zI] at f0;go_enter func155,ntmps155;go_wp2_with fail;refine (HF.out _ ((Kp.refl _ _).alloc _)).mono ?_;rintro e w1 ⟨rfl,hK1⟩;have hK1':Kp [] w w1:=((Kp.refl _ _).alloc _).tr hK1;go_wp2;go_ret;exact⟨rfl,hK1'⟩
theorem xP3(g F:Nat)(cap:Array Value)(p:HL)(b:Bool)(w:World)(hF:w.heap[F]?=some (.cells #[.func (.func g) #[] cap] 92))
  (hcf:∀ (args:Array Value) (W:World),Sem.run prog (callFunc g args) W=.ok (.enter g args) W)
  (hf:∀ W,Kp [] w W→Calls prog g (#[.string p.key]++cap) W fun e W'=>e=.returned (.bool b)∧Kp [] W W'):
  Calls prog 156 #[.agg #[.string p.key,.int .i64 p.b,.int .u64 p.s,.pointer p.ptr],.pointer (some ⟨F,0,none⟩)] w fun e w'=>e=.returned (.bool b)∧Kp [] w w':=by
 have HF:=zh hf;clear hf;have hFs:=ζ hF;have f0:=ξ hF 0;simp only[zG,zH,zI] at f0;go_enter func156,ntmps156;go_wp2_with fail;refine (HF.out _ ((Kp.refl _ _).alloc _)).mono ?_;rintro e w1 ⟨rfl,hK1⟩;have hK1':Kp [] w w1:=((Kp.refl _ _).alloc _).tr hK1;go_wp2;go_ret;exact⟨rfl,hK1'⟩
theorem zC1(w:World)(o1 o2 o3 o4 o5:Obj):∃ w1,w1=((((w.alloc o1).alloc o2).alloc o3).alloc o4).alloc o5∧w1.heap[w.heap.size]?=some o1∧w1.heap[w.heap.size+1]?=some o2∧w1.heap[w.heap.size+1+1]?=some o3∧w1.heap[w.heap.size+1+1+1]?=some o4∧w1.heap[w.heap.size+1+1+1+1]?=some o5∧Kp [] w w1∧w1.heap.size=w.heap.size+5:=by
 refine⟨_,rfl,η _ (η _ (η _ (η _ (κ _ _)))),η _ (η _ (η _ ?_)),η _ (η _ ?_),η _ ?_,?_,(((((Kp.refl _ _).alloc _).alloc _).alloc _).alloc _).alloc _,by simp⟩
 ·have e:=κ (w.alloc o1) o2;simpa using e
 ·have e:=κ ((w.alloc o1).alloc o2) o3;simpa using e
 ·have e:=κ (((w.alloc o1).alloc o2).alloc o3) o4;simpa using e
 ·have e:=κ ((((w.alloc o1).alloc o2).alloc o3).alloc o4) o5;simpa using e
structure LBox(E:SEnv)(r:HL)(q g:Nat)(cap:Array Value)(N:Nat)(w:World):Prop where
 t:w.heap[N]?=some (.cells #[.pointer (some ⟨E.V,0,none⟩),.string r.key,.int .i64 r.b,.int .u64 r.s,.pointer r.ptr] 89)
 n:w.heap[N+1]?=some (.cells #[.pointer (some ⟨q,0,none⟩)] 85)
 f:w.heap[N+1+1]?=some (.cells #[.func (.func g) #[] cap] 92)
 p:w.heap[N+1+1+1]?=some (.cells #[.string ⟨#[]⟩,.string ⟨#[]⟩] 42)
 b:w.heap[N+1+1+1+1]?=some (.cells #[.bool false] 4)
theorem SEnv.storeX{E:SEnv}{w W W':World}{k:Nat}(hT:E.toEnv.To w W)(hk:w.heap.size≤k)(ho:∀ c t fr,W.heap[k]?=some (.cells c t fr)→t ∉ qK1)(hK:Kp [k] W W'):E.toEnv.To w W':=
 ⟨E.keepX W W' [k] hT.dev hK (fun i hi c t fr e=>by rw[List.mem_singleton.1 hi] at e;exact ho c t fr e),hT.kp.trans hK (by intro i hi hlt;simp at hi;omega)⟩
theorem xP9(E:SEnv)(r:HL)(l:Lnk (Tn 0))(q:Nat)(g:Nat)(cap:Array Value)(f:ByteArray→Bool)(w:World)(hd:E.Dev w)(hN:RN E.O 0 w q l.sub)(hg:Good 0 l.key l.sub)(hne:1≤Go.Proofs.YtdohpenfkdckiaaGreatDoor.cnt 0 l.sub)(hdn:qN5 f)(ha:Asks E.toEnv w g cap f)
  (hcf:∀ (args:Array Value) (W:World),Sem.run prog (callFunc g args) W=.ok (.enter g args) W):
  Calls prog 99 #[υ E.V r,.pointer (some ⟨q,0,none⟩),.func (.func g) #[] cap] w fun e w'=>e=.returned (qB0 (qA9 f (cont 0 l.sub)))∧E.toEnv.To w w':=by
 have hmf:=zM;have hcl:(prs l.sub).length≤10000:=qH1 0 l.key l.sub hg;have hne':1≤(prs l.sub).length:=hne;have hso:Sorted (prs l.sub):=hg.sorted;have HSO:=zh hso;have HD:=zh hd;have HA:=zh ha;have HDD:=zh hdn;have HDN:Hid (∀ i j (hi:i<(prs l.sub).length) (hj:j<(prs l.sub).length),i≤j→f (prs l.sub)[j].k=true→f (prs l.sub)[i].k=true):=by
  show ∀ i j (hi:i<(prs l.sub).length) (hj:j<(prs l.sub).length),_;intro i j hi hj hij hp;by_cases e:i=j
  ·subst e;exact hp
  ·exact hdn _ _ (List.pairwise_iff_getElem.1 hso i j hi hj (by omega)) hp
 obtain⟨vp,hq0,hsl0⟩:=hN;have hqs:=ζ hq0;have hqs1:q<w.heap.size+1:=by omega
 have hqs2:q<w.heap.size+1+1:=by omega
 have hqs3:q<w.heap.size+1+1+1:=by omega
 have hqs4:q<w.heap.size+1+1+1+1:=by omega
 have q0:=ξ hq0;simp only[φ,zG,zH,zI] at q0;clear hd hdn ha;rw[υ];go_enter func99,ntmps99;go_wp2_with fail;obtain⟨w1,hw1,hB1,hQ1,hF1,hP1,hb1,hK1,hs1⟩:=zC1 w (.cells #[.pointer (some ⟨E.V,0,none⟩),.string r.key,.int .i64 r.b,.int .u64 r.s,.pointer r.ptr] 89) (.cells #[.pointer (some ⟨q,0,none⟩)] 85) (.cells #[.func (.func g) #[] cap] 92) (.cells #[.string ⟨#[]⟩,.string ⟨#[]⟩] 42) (.cells #[.bool false] 4);rw[←hw1];clear hw1 q0 hqs hqs1 hqs2 hqs3 hqs4 hs1 hB1;have hT1:=Env.To.of0 HD.out hK1;have hq:=hK1.hp hq0;have hsl:=hsl0.keep0 hK1;clear hq0 hsl0;refine (xP6 155 _ vp (prs l.sub) (fun p=>f p.k) w1 hsl (by omega) HDN.out ?_ ?_).mono ?_
 ·intro args W;simp[go_sem,func155]
 ·intro W hKW i hi;exact xP2 g (w.heap.size+1+1) cap (prs l.sub)[i] (f (prs l.sub)[i].k) W (hKW.hp hF1) hcf (fun W' hK'=>HA.out W' _ ((hT1.tail hKW).tail hK'))
 rintro e w2 ⟨rfl,hK2⟩;have hT2:=hT1.tail hK2;have hQ2:=hK2.hp hQ1;have hF2:=hK2.hp hF1;have hP2:=hK2.hp hP1;have hb2:=hK2.hp hb1;have hq2:=hK2.hp hq;have hs2:=hsl.keep0 hK2;obtain⟨i,hi0⟩:∃ i,(prs l.sub).findIdx (fun p=>!f p.k)-1=i:=⟨_,rfl⟩;have hil:i<(prs l.sub).length:=by
  have:(prs l.sub).findIdx (fun p=>!f p.k)≤(prs l.sub).length:=List.findIdx_le_length;omega
 have HLL:Hid (qA9 f (prs l.sub)=if f (prs l.sub)[i].k then some (prs l.sub)[i] else none):=zO6 HDD.out HSO.out hi0 hil;rw[hi0];obtain⟨gb,off,cp,cur,fr,rfl,hcp,hrow,hcur⟩:=hs2.pair hne';obtain⟨c0,c1⟩:=hcur i hil;obtain⟨p,hp⟩:∃ p,(prs l.sub)[i]=p:=⟨_,rfl⟩;rw[hp] at c0 c1 HLL;obtain⟨m,hm⟩:∃ m,(prs l.sub).length=m:=⟨_,rfl⟩;rw[hm] at hq2 hcp;have hib:(i:Int)<(m:Int):=by omega
 have HT2:=zh hT2;have HP2:Hid (w2.heap[w.heap.size+1+1+1]?=some (.cells #[.string ⟨#[]⟩,.string ⟨#[]⟩] 42)∧w2.heap[w.heap.size+1+1+1+1]?=some (.cells #[.bool false] 4)):=⟨hP2,hb2⟩;clear hK2 hT2 hP1 hb1 hQ1 hF1 hq hsl hK1 hT1 hi0 hs2 hcur hp hP2 hb2;have hpc:=ξ hrow (off+i*2);rw[c0] at hpc;go_wp2_with fail;have hS0:w2.drew.heap[w.heap.size+1]?=some (.cells #[.pointer (some ⟨q,0,none⟩)] 85)∧w2.drew.heap[w.heap.size+1+1]?=some (.cells #[.func (.func g) #[] cap] 92)∧w2.drew.heap[q]?=some (φ 0 (.slice (some ⟨gb,off,none⟩) m cp) (.slice none 0 0))∧w2.drew.heap[gb]?=some (.cells cur 185 fr):=⟨hQ2,hF2,hq2,hrow⟩;refine wp_region_held_drew (S:=fun W=>W.heap[w.heap.size+1]?=some (.cells #[.pointer (some ⟨q,0,none⟩)] 85)∧W.heap[w.heap.size+1+1]?=some (.cells #[.func (.func g) #[] cap] 92)∧W.heap[q]?=some (φ 0 (.slice (some ⟨gb,off,none⟩) m cp) (.slice none 0 0))∧W.heap[gb]?=some (.cells cur 185 fr)) (by kernel_rfl) hS0 (fun _=>?_);refine zV 0 (.func (.func g) #[] cap) rfl (fun W hS=>by have c:=ξ hS.2.1 0;simp only[zG,zH] at c;clear hS;go_simp) hS0 ?_;refine zV 1 (.pointer (some ⟨q,0,none⟩)) rfl (fun W hS=>by have c:=ξ hS.1 0;simp only[zG,zH] at c;clear hS;go_simp) hS0 ?_;refine zP 2 q 0 hS0 ?_;refine zP 3 q 1 hS0 ?_;refine zV 4 (.slice (some ⟨gb,off,none⟩) m cp) rfl (fun W hS=>by have c:=ξ hS.2.2.1 1;simp[φ] at c;clear hS;go_simp) hS0 ?_;refine zU 5 (.int .i64 i) hS0 ?_;refine zU 6 (.pointer (some ⟨gb,off+i*2,none⟩)) hS0 ?_;refine zU 7 (.pointer (some ⟨gb,off+i*2,none⟩)) hS0 ?_;refine zU 8 (.pointer (some ⟨gb,off+i*2,none⟩)) hS0 ?_;refine zV 9 (.string p.k) rfl (fun W hS=>by have c:=ξ hS.2.2.2 (off+i*2);rw[c0] at c;clear hS;go_simp) hS0 ?_;refine zq 10 fun K hK=>?_;go_simp;refine (HA.out w2.drew p.k (HT2.out.tail ((Kp.refl _ _).drew))).mono ?_;rintro e w3 ⟨rfl,hK3⟩;have hK23:Kp [] w2 w3:=((Kp.refl [] w2).drew).tr hK3;have hS3:w3.heap[w.heap.size+1]?=some (.cells #[.pointer (some ⟨q,0,none⟩)] 85)∧w3.heap[w.heap.size+1+1]?=some (.cells #[.func (.func g) #[] cap] 92)∧w3.heap[q]?=some (φ 0 (.slice (some ⟨gb,off,none⟩) m cp) (.slice none 0 0))∧w3.heap[gb]?=some (.cells cur 185 fr):=⟨hK23.hp hQ2,hK23.hp hF2,hK23.hp hq2,hK23.hp hrow⟩;refine hK.out _ _ hS3 (fun _=>?_);clear hK K hS0
 try simp only[zZ]
 refine zd ?_;have HT3:Hid (E.toEnv.To w w3):=HT2.out.tail hK23;have HP3:Hid (w3.heap[w.heap.size+1+1+1]?=some (.cells #[.string ⟨#[]⟩,.string ⟨#[]⟩] 42)∧w3.heap[w.heap.size+1+1+1+1]?=some (.cells #[.bool false] 4)):=⟨hK23.hp HP2.out.1,hK23.hp HP2.out.2⟩;obtain⟨hQ3,_,hq3,hrow3⟩:=hS3;obtain⟨hP3,hb3⟩:=HP3.out;have hQs:=ζ hQ3;have hqs3:=ζ hq3;have hgs3:=ζ hrow3;have hPs3:=ζ hP3;have hbs3:=ζ hb3;have a0:=ξ hrow3 (off+i*2);rw[c0] at a0;have a1:=ξ hrow3 (off+i*2+1);rw[c1] at a1;have n0:=ξ hQ3 0;simp only[zG,zH,zI] at n0;have y1:=ξ hq3 1;simp only[φ,zG,zH,zI] at y1;have z0:=ξ hP3;have fz0:=ρ hP3;have x0:=ξ hb3 0;simp only[zG,zH,zI] at x0;have fx0:=ρ hb3 0;clear hK3 hK23 HT2 HP2 hQ2 hF2 hq2 hrow c0 c1 hpc hQ3 hq3 hrow3 hP3 hb3
 cases hfp:f p.k with
 | true=>
  rw[hfp] at HLL;go_wp2;have hts:=qB2 (.string p.k) (.string p.v) HP3.out.1;obtain⟨w4,hw4,hP4,hK4⟩:∃ w4,w4=(w3.setCell ⟨w.heap.size+1+1+1,0,none⟩ (.string p.k)).setCell ⟨w.heap.size+1+1+1,1,none⟩ (.string p.v)∧w4.heap[w.heap.size+1+1+1]?=some (.cells #[.string p.k,.string p.v] 42)∧Kp [w.heap.size+1+1+1] w3 w4:=⟨_,rfl,hts.1,hts.2⟩;have hb4:=hK4.hp HP3.out.2;have hT4:=HT3.out.store' (by omega) HP3.out.1 (by decide) hK4;rw[←hw4];have hb5:=μ hb4 0 (.bool true);have hP5:(w4.setCell ⟨w.heap.size+1+1+1+1,0,none⟩ (.bool true)).heap[w.heap.size+1+1+1]?=some (.cells #[.string p.k,.string p.v] 42):=(qA4 (by omega) _ _).trans hP4;have hT5:=SEnv.storeX hT4 (by omega) (fun c t fr e=>by rw[hb4] at e;cases e;decide) ((Kp.refl [w.heap.size+1+1+1+1] w4).setCell (p:=⟨w.heap.size+1+1+1+1,0,none⟩) (by simp) (.bool true));have t0:=ξ hP5 0;have t1:=ξ hP5 1;have t2:=ξ hb5 0;simp only[zG,zH,zI] at t0 t1;simp at t2;refine bodyPost_ret (v:=qB0 (some p)) ?_ rfl ⟨by rw[show cont 0 l.sub=prs l.sub from rfl,HLL.out];rfl,hT5⟩;simp[results,results99,go_sem,t0,t1,t2,qB0]
 | false=>
  rw[hfp] at HLL;go_wp2;have hts:=qB2 (.string ⟨#[]⟩) (.string ⟨#[]⟩) HP3.out.1;obtain⟨w4,hw4,hP4,hK4⟩:∃ w4,w4=(w3.setCell ⟨w.heap.size+1+1+1,0,none⟩ (.string ⟨#[]⟩)).setCell ⟨w.heap.size+1+1+1,1,none⟩ (.string ⟨#[]⟩)∧w4.heap[w.heap.size+1+1+1]?=some (.cells #[.string ⟨#[]⟩,.string ⟨#[]⟩] 42)∧Kp [w.heap.size+1+1+1] w3 w4:=⟨_,rfl,hts.1,hts.2⟩;have hb4:=hK4.hp HP3.out.2;have hT4:=HT3.out.store' (by omega) HP3.out.1 (by decide) hK4;rw[←hw4];have hb5:=μ hb4 0 (.bool false);have hP5:(w4.setCell ⟨w.heap.size+1+1+1+1,0,none⟩ (.bool false)).heap[w.heap.size+1+1+1]?=some (.cells #[.string ⟨#[]⟩,.string ⟨#[]⟩] 42):=(qA4 (by omega) _ _).trans hP4;have hT5:=SEnv.storeX hT4 (by omega) (fun c t fr e=>by rw[hb4] at e;cases e;decide) ((Kp.refl [w.heap.size+1+1+1+1] w4).setCell (p:=⟨w.heap.size+1+1+1+1,0,none⟩) (by simp) (.bool false));have t0:=ξ hP5 0;have t1:=ξ hP5 1;have t2:=ξ hb5 0;simp only[zG,zH,zI] at t0 t1;simp at t2;refine bodyPost_ret (v:=qB0 none) ?_ rfl ⟨by rw[show cont 0 l.sub=prs l.sub from rfl,HLL.out];rfl,hT5⟩;simp[results,results99,go_sem,t0,t1,t2,qB0]
end Go.Proofs.YtdohpenfkdckiaaGreatDoor
