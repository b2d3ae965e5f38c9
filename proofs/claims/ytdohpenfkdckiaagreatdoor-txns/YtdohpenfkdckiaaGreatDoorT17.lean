import Derived.Test.YtdohpenfkdckiaaGreatDoorT16
set_option linter.all false
set_option maxRecDepth 100000
set_option maxHeartbeats 20000000
namespace Go.Proofs.YtdohpenfkdckiaaGreatDoor.Gen
open Go.Proofs.Tryz
open Go.RowKit
def O0:qD6:=fun _ _ _ _=>False
def E0(V:Nat):SEnv where
 O:=O0
 V:=V
 S:=[]
 Dev:=fun _=>True
 keep:=fun _ _ _ _ _ _=>trivial
 apt:=fun _ _ k hk=>by cases hk
 low:=fun _ _ k hk=>by cases hk
 pos:=fun _ _ _ _ h=>h.elim
 lvl:=fun _ _ _ _ h=>h.elim
 read:=fun n h r l a w _ hr hp _=>by
  have h2:=hr.2
  cases hl:l.ref with
  | none=>
   rw[hl] at h2;obtain⟨_,_,q,h3,_⟩:=h2;rw[hp] at h3;cases h3
  | some x=>
   rw[hl] at h2;exact h2.2.2.2.elim
 keepX:=fun _ _ _ _ _ _=>trivial
 offS:=fun _ _ k hk=>by cases hk
theorem xO1(p:Option Addr)(c:Nat)(w:World):Calls prog 189 #[.slice p 0 c] w fun e w'=>e=.returned (.slice none 0 0)∧w'=w:=by
 go_enter func189,ntmps189;go_wp2_with fail;refine wp_loop_rounds 1 ?_;rw[rounds_succ];go_wp2;go_ret;exact⟨rfl,rfl⟩
theorem RGood.none:RGood .none:=by simp[RGood]
theorem RM.obj{w:World}{V M n:Nat}{D:DataW Unit}(h:RM w V M n D):∃ es c,w.heap[M]?=some (.map es c):=by
 obtain⟨es,c,h1,_⟩:=h;exact⟨es,c,h1⟩
theorem APM{w:World}{St M:Nat}{s:Sto}(S:List Nat)(T:TypeId)(hT:T≠169)(hSt:w.heap[St]?=some (μ 0 s))(hM:w.heap[M]?=some (.map #[] 0)):∀ k c t fr,w.heap[k]?=some (.cells c t fr)→k∈[St,M]→t≠T:=by
 intro k c t fr h hk;simp only[List.mem_cons,List.not_mem_nil,or_false] at hk;rcases hk with rfl|rfl
 ·rw[hSt] at h;cases h;exact fun e=>hT e.symm
 ·rw[hM] at h;cases h
def StOk(Db St V M A n:Nat)(N:Int)(w:World):Prop:=
 w.heap[Db]?=some (.cells #[.pointer (some ⟨St,0,none⟩)] 102)∧w.heap[St]?=some (μ 0 ((qJ2 V M N).read.left 1))∧w.heap[V]?=some (qB7 A n)∧∃ D,RM w V M 1 D∧Maps.size D=0∧∀ m,Maps.has D (qC0 m)=false
theorem StOk.keep{Db St V M A n:Nat}{N:Int}{w w':World}{B:Nat}(h:StOk Db St V M A n N w)(hK:Kp [B] w w'){c:Array Value}(hB:w.heap[B]?=some (.cells c 130)):StOk Db St V M A n N w':=by
 obtain⟨h1,h2,h3,D,h4,h6⟩:=h;obtain⟨es,c',h5⟩:=RM.obj h4;refine⟨hK.heap h1 (by simp;exact qF2 h1 hB (by decide)),hK.heap h2 (by simp;exact qF2 h2 hB (by decide)),hK.heap h3 (by simp;exact qF2 h3 hB (by decide)),D,h4.kp hK ?_,h6⟩;intro hm;rw[List.mem_singleton.1 hm,hB] at h5;cases h5
theorem xF4(base:Nat)(T:Int)(w:World)(g:DG)(h:DOk base T w g)(Db St V M A':Nat)(N:Int)(hD:w.heap[Db]?=some (.cells #[.pointer (some ⟨St,0,none⟩)] 102))(hSt:w.heap[St]?=some (μ 0 (qJ2 V M N)))(hV:w.heap[V]?=some (qB7 A' g.n))(hM:w.heap[M]?=some (.map #[] 0))(hT0:0≤T)(hT1:T≤50000)(hf:Formatted g.l g.N)(hbs:base≤w.heap.size):
  Calls prog 131 #[.pointer (some ⟨g.B,0,none⟩),.pointer (some ⟨Db,0,none⟩)] w fun e w'=>e=.returned (.bool true)∧(∃ g',DOk base (T+1) w' g'∧g'.B=g.B∧g'.A=g.A∧g'.C=g.C∧g'.n=g.n∧g'.x=some ⟨Db,0,none⟩∧g'.ts=g.ts∧g'.li=g.li∧g'.wa=g.wa)∧StOk Db St V M A' g.n N w'∧Kp [g.B,St,M] w w':=by
 obtain⟨B,A,C,n,l,calls,writes,N',pm,m,cm,pw,k,cw,x,ts,li,wa⟩:=g;obtain⟨bB,bA,bC,hB,hA,hC,len,n1000,calls0,calls1,writes0,writes1,kT,may,were,st⟩:=h;simp only at *;have HBA:Hid (B≠A):=qF2 hB hA (by decide);have HBC:Hid (B≠C):=qF2 hB hC (by decide);have HSB:Hid (St≠B):=qF2 hSt hB (by decide);have HSA:Hid (St≠A):=qF2 hSt hA (by decide);have HSC:Hid (St≠C):=qF2 hSt hC (by decide);have HSD:Hid (St≠Db):=qF2 hSt hD (by decide);have hst:N'≤2*T∧m=1∧cm=1∧∃ gm,pm=some ⟨gm,0,none⟩:=by
  rcases st with⟨_,_,h2⟩|⟨_,h⟩
  ·have:=hf.low;omega
  ·exact h
 obtain⟨hN',rfl,rfl,gm,rfl⟩:=hst;have HF:=zh hf;have HMB:Hid (M≠B):=fun e=>by subst e;rw[hM] at hB;cases hB
 have HMA:Hid (M≠A):=fun e=>by subst e;rw[hM] at hA;cases hA
 have HMC:Hid (M≠C):=fun e=>by subst e;rw[hM] at hC;cases hC
 have HMS:Hid (M≠St):=fun e=>by subst e;rw[hM] at hSt;cases hSt
 have HMV:Hid (M≠V):=fun e=>by subst e;rw[hM] at hV;cases hV
 have HMD:Hid (Db≠M):=fun e=>by subst e;rw[hM] at hD;cases hD
 have HSV:Hid (St≠V):=qF2 hSt hV (by decide);clear st hf;have hBs:=ζ hB;have k0:=ξ hB 0;simp only[qD9,zG,zH,zI] at k0;go_enter func131,ntmps131;go_wp2_with fail;refine (qG5 A n C _ calls writes w hA).mono ?_;rintro e w ⟨rfl,rfl⟩;go_wp2_with fail;refine (zE6 Db St 0 (qJ2 V M N) (.map []) _ hD hSt (Go.Joins.ownsMap_empty hM) rfl HSD.out.symm HMS.out HMD.out (ζ hM) (by decide) (by decide) (by show (0:Int)≤0;decide) (by show (0:Int)≤100000000;decide)).mono ?_;rintro e w1 ⟨t,rfl,ht,ht1,hSt1,hR1,hK1⟩;have hB1:=hK1.heap hB (by simp;exact⟨fun e=>HSB.out e.symm,fun e=>HMB.out e.symm⟩);have hA1:=hK1.heap hA (by simp;exact⟨fun e=>HSA.out e.symm,fun e=>HMA.out e.symm⟩);have hC1:=hK1.heap hC (by simp;exact⟨fun e=>HSC.out e.symm,fun e=>HMC.out e.symm⟩);have hV1:=hK1.heap hV (by simp;exact⟨fun e=>HSV.out e.symm,fun e=>HMV.out e.symm⟩);have may1:=may.kp hK1 (APM [] _ (by decide) hSt hM);have were1:=were.kp hK1 (APM [] _ (by decide) hSt hM);have HTS:Hid (t≠St):=by have:=ζ hSt;show t≠St;omega
 have HTM:Hid (t≠M):=by have:=ζ hM;show t≠M;omega
 have HTW:=zh ht;clear ht;have hsz1:=hK1.size;have HMW:Hid (M<w1.heap.size):=by have:=ζ hM;show M<w1.heap.size;omega
 have HD0:Hid (w.heap[Db]?=some (.cells #[.pointer (some ⟨St,0,none⟩)] 102)∧w.heap[V]?=some (qB7 A' n)∧Db≠B∧V≠B):=⟨hD,hV,qF2 hD hB (by decide),qF2 hV hB (by decide)⟩;clear hB hA hC may were hSt hD k0 hV hM
 go_wp2_with (go_at_call 24;refine (qR7 _).mono ?_;rintro e w1 ⟨rfl,rfl⟩)
 go_wp2_with (go_at_call 127;refine (qF3 _ _).mono ?_;rintro e w1 ⟨rfl,rfl⟩)
 have hL1:LiveT (E0 V) w1 t A' n ⟨St,0+1,false,false,some ⟨V,0,none⟩,⟨⟨#[]⟩,0,0,none⟩,0⟩ (qJ2 V M N).read .none:=
  ⟨ht1,rfl,rfl,hSt1,rfl,rfl,hV1,by omega,by show (0:Int)≤0;decide,by show (0:Int)≤1000;decide,trivial,by show V ∉ [];simp,rfl,RGood.none,by decide,by show (0:Int)≤0;decide,by show (0:Int)≤100000000;decide⟩
 refine (zO1 (E0 V) t A' n _ _ .none _ _ _ w1 hL1 (by decide) (by decide)).mono ?_;clear hL1;rintro e w2 ⟨v,rfl,hv,-,hSt2,hK2⟩;obtain⟨vb,vc,rfl⟩:∃ vb vc,v=.slice vb 0 vc:=hv.form;clear hv;have hK2:Kp [St] w1 w2:=hK2;have hB2:=hK2.heap hB1 (by simp;exact fun e=>HSB.out e.symm);have hA2:=hK2.heap hA1 (by simp;exact fun e=>HSA.out e.symm);have hC2:=hK2.heap hC1 (by simp;exact fun e=>HSC.out e.symm);have ht2:=hK2.heap ht1 (by simp;exact HTS.out);have hR2:=hR1.kp hK2 (by simp;exact HMS.out);have hap1:Apart w1 [St] 126:=fun k hk=>by rw[List.mem_singleton.1 hk];exact⟨_,_,_,hSt1,by decide⟩
 have may2:=may1.keep hK2 hap1;have were2:=were1.keep hK2 hap1;have hK2':Kp [St,M] w w2:=hK1.trans hK2 (by simp +contextual);have hsz2:=hK2.size;clear hB1 hA1 hC1 may1 were1 hSt1 hap1 hK1 hK2 ht1 hR1 hV1
 go_wp2_with (go_at_call 24;refine (qR7 _).mono ?_;rintro e w2 ⟨rfl,rfl⟩)
 go_wp2_with (go_at_call 127;refine (qF3 _ _).mono ?_;rintro e w2 ⟨rfl,rfl⟩)
 refine (zE0 t _ _ _ _ w2 ht2 rfl hSt2 rfl hR2 (by show (0:Int)≤0+1;decide) (by show (0:Int)+1≤1000000000;decide) HMS.out HTS.out HTM.out (by have:=HMW.out;show M<_;omega)).mono ?_;rintro e w3 ⟨rfl,-,hSt3,hR3,hK3⟩;have hK3:Kp [St,t,M] w2 w3:=hK3;have HTB:Hid (B≠t):=qF2 hB2 ht2 (by decide);have HTA:Hid (A≠t):=qF2 hA2 ht2 (by decide);have HTC:Hid (C≠t):=qF2 hC2 ht2 (by decide);have hB3:=hK3.heap hB2 (by simp;exact⟨fun e=>HSB.out e.symm,HTB.out,fun e=>HMB.out e.symm⟩);have hA3:=hK3.heap hA2 (by simp;exact⟨fun e=>HSA.out e.symm,HTA.out,fun e=>HMA.out e.symm⟩);have hC3:=hK3.heap hC2 (by simp;exact⟨fun e=>HSC.out e.symm,HTC.out,fun e=>HMC.out e.symm⟩);have hap2:∀ k c u fr,w2.heap[k]?=some (.cells c u fr)→k∈[St,t,M]→u≠126:=by
  intro k c u fr h hk;simp only[List.mem_cons,List.not_mem_nil,or_false] at hk;rcases hk with rfl|rfl|rfl
  ·have h':=hSt2;rw[h] at h';cases h';decide
  ·rw[ht2] at h;cases h;decide
  ·obtain⟨es,c',h'⟩:=RM.obj hR2;exact absurd (h.symm.trans h') (by intro e;cases e)
 have may3:=may2.kp hK3 hap2;have were3:=were2.kp hK3 hap2;have hK3':Kp [B,St,M] w w3:=(hK2'.mono (S':=[B,St,M]) (by simp +contextual)).trans hK3 (by intro i hi hlt;have:=HTW.out;simp at hi;simp;omega);have HSTO:Hid (StOk Db St V M A' n N w3):=⟨hK3'.heap HD0.out.1 (by simp;exact⟨HD0.out.2.2.1,HSD.out.symm,HMD.out⟩),hSt3,hK3'.heap HD0.out.2.1 (by simp;exact⟨HD0.out.2.2.2,HSV.out.symm,HMV.out.symm⟩),_,hR3,rfl,fun _=>rfl⟩;have HB3:=zh hB3;clear hSt3 hR3;clear hB2 hA2 hC2 may2 were2 hSt2 hap2 hK2' hK3 ht2 hR2;have k0:=ξ hB3 0;have k1:=ξ hB3 1;have k2:=ξ hB3 2;have k3:=ξ hB3 3;have k4:=ξ hB3 4;have k5:=ξ hB3 5;have k6:=ξ hB3 6;simp only[qD9,zG,zH,zI] at k0 k1 k2 k3 k4 k5 k6;go_wp2_with fail;refine (xO1 _ _ _).mono ?_;rintro e w3 ⟨rfl,rfl⟩;go_wp2_with fail;refine (xH1 base gm _ _ _ _ _ w3 may3).mono ?_;rintro e w4 ⟨rfl,hK4⟩;have hB4:=hK4.hp hB3;have hA4:=hK4.hp hA3;have hC4:=hK4.hp hC3;have may4:=may3.keep hK4 (by intro k h;simp at h);have were4:=were3.keep hK4 (by intro k h;simp at h);have hK4':Kp [B,St,M] w w4:=hK3'.tr hK4;have HJ4:Hid (Kp [B] w3 w4):=hK4.mono (by simp);clear hB3 hA3 hC3 may3 were3 hK3' hK4 k0 k1 k2 k3 k4 k5 k6;have k0:=ξ hB4 0;have k1:=ξ hB4 1;have k2:=ξ hB4 2;have k3:=ξ hB4 3;have k4:=ξ hB4 4;have k5:=ξ hB4 5;have k6:=ξ hB4 6;have k8:=ξ hB4 8;simp only[qD9,zG,zH,zI] at k0 k1 k2 k3 k4 k5 k6 k8;have f8:=υ hB4 8;go_wp2_with fail;obtain⟨w5,hw5,hB5,hK5⟩:∃ w5,w5=w4.setCell ⟨B,8,none⟩ (.slice none 0 0)∧w5.heap[B]?=some (qD9 A n (.slice (some ⟨gm,0,none⟩) 1 1) (.slice pw k cw) x ts li wa)∧Kp [B] w4 w5:=⟨_,rfl,ν hB4 8 _,(Kp.refl _ _).sc _⟩;rw[←hw5];clear hw5;have hA5:=hK5.heap hA4 (by simp;exact fun e=>HBA.out e.symm);have hC5:=hK5.heap hC4 (by simp;exact fun e=>HBC.out e.symm);have hap4:Apart w4 [B] 126:=fun k hk=>by rw[List.mem_singleton.1 hk];exact⟨_,_,_,hB4,by decide⟩
 have may5:=may4.keep hK5 hap4;have were5:=were4.keep hK5 hap4;have hK5':Kp [B,St,M] w w5:=hK4'.trans hK5 (by simp +contextual);have HJ5:Hid (Kp [B] w3 w5):=HJ4.out.tr hK5;clear hB4 hA4 hC4 may4 were4 hK4' hK5 k0 k1 k2 k3 k4 k5 k6 k8 f8 hap4;refine wp_region_any (by kernel_rfl) ?_;change wpAny _ _ _ _ _ _ _ (World.drew _);refine zu 0 (.pointer (some ⟨B,0,none⟩)) ?_;refine zu 1 (.pointer (some ⟨B,0,none⟩)) ?_;refine zu 2 (.pointer (some ⟨B,0,none⟩)) ?_;refine zu 3 (.pointer (some ⟨B,1,none⟩)) ?_;refine zu 5 (.pointer (some ⟨B,0,none⟩)) ?_;refine zu 6 (.pointer (some ⟨B,0,none⟩)) ?_;refine zu 7 (.pointer (some ⟨B,8,none⟩)) ?_;refine wpAny_ready (rs:=[4,8]) (by kernel_rfl) (by simp) ?_;refine AllReady.cons rfl (fun K hK=>?_) (AllReady.cons rfl (fun K hK=>?_) AllReady.nil)
 ·refine qF4 rfl (qQ8 (t:=123) rfl (by kernel_rfl) 6 (by kernel_rfl) B 1 rfl (show w5.drew.heap[B]?=_ from hB5) (by simp) (show _=#[.int .i64 n,.slice (some ⟨gm,0,none⟩) 1 1,.bool false,.slice pw k cw,.bool false,.bool false] from rfl)) ?_;refine hK _ _ ?_;clear hK K
  try simp only[zZ]
  refine zQ 8 fun K hK=>?_;refine qF4 rfl (qQ8 (t:=126) rfl (by kernel_rfl) 1 (by kernel_rfl) B 8 rfl (show w5.drew.heap[B]?=_ from hB5) (by simp) (show _=#[.slice none 0 0] from rfl)) ?_;refine hK _ _ ?_;clear hK K
  try simp only[zZ]
  refine zQ 9 fun K hK=>?_;go_simp;refine (zB4 base 1 1 k cw _ pw n _ _ _ w5.drew may5 were5 (by omega) (by omega)).mono ?_;rintro e w6 ⟨gm',gw,cw',rfl,may6,were6,hK6⟩;have hB6:=hK6.heap (k:=B) hB5 (by simp);have hA6:=hK6.heap (k:=A) hA5 (by simp);have hC6:=hK6.heap (k:=C) hC5 (by simp);have hK6':Kp [B,St,M] w w6:=(hK5'.drew).tr hK6;have HJ6:Hid (Kp [B] w3 w6):=(HJ5.out.drew).tr hK6;have HS5:=zh hK5'.size;clear hB5 hA5 hC5 may5 were5 hK5' hK6;refine hK _ _ ?_;clear hK K
  try simp only[zZ]
  refine zu 10 (.pointer (some ⟨B,0,none⟩)) ?_;refine zu 11 (.pointer (some ⟨B,1,none⟩)) ?_;have k1:=ξ hB6 1;have k2:=ξ hB6 2;have k3:=ξ hB6 3;have k4:=ξ hB6 4;have k5:=ξ hB6 5;have k6:=ξ hB6 6;simp only[qD9,zG,zH,zI] at k1 k2 k3 k4 k5 k6;have f1:=υ hB6;refine zQ 12 fun K hK=>?_;go_simp;refine hK _ _ ?_;clear hK K;refine wpAny_done (by kernel_rfl) ?_ _;obtain⟨w7,hw7,hB7,hK7⟩:∃ w7,w7=((((((w6.setCell ⟨B,1,none⟩ (.int .i64 n)).setCell ⟨B,2,none⟩ (.slice (some ⟨gm',0,none⟩) 1 1)).setCell ⟨B,3,none⟩ (.bool false)).setCell ⟨B,4,none⟩ (.slice (some ⟨gw,0,none⟩) (k+1) cw')).setCell ⟨B,5,none⟩ (.bool false)).setCell ⟨B,6,none⟩ (.bool false))∧w7.heap[B]?=some (qD9 A n (.slice (some ⟨gm',0,none⟩) 1 1) (.slice (some ⟨gw,0,none⟩) (k+1) cw') x ts li wa)∧Kp [B] w6 w7:=
   ⟨_,rfl,(ν (ν (ν (ν (ν (ν hB6 1 _) 2 _) 3 _) 4 _) 5 _) 6 _),(((((((Kp.refl [B] w6).sc _).sc _).sc _).sc _).sc _).sc _)⟩
  rw[←hw7];clear hw7 k1 k2 k3 k4 k5 k6 f1;have k7:=ξ hB7 7;have k9:=ξ hB7 9;simp only[qD9,zG,zH,zI] at k7 k9;have f7:=υ hB7;go_wp2;go_ret;have hK8:Kp [B] w6 ((w7.setCell ⟨B,7,none⟩ (.pointer (some ⟨Db,0,none⟩))).setCell ⟨B,9,none⟩ (.int .i64 0)):=(hK7.sc _).sc _;have hap6:Apart w6 [B] 126:=fun k hk=>by rw[List.mem_singleton.1 hk];exact⟨_,_,_,hB6,by decide⟩
  have hs5:=HS5.out;refine⟨rfl,⟨⟨B,A,C,n,l,calls,writes,N',some ⟨gm',0,none⟩,1,1,some ⟨gw,0,none⟩,k+1,cw',some ⟨Db,0,none⟩,ts,li,wa⟩,?_,rfl,rfl,rfl,rfl,rfl,rfl,rfl,rfl⟩,HSTO.out.keep (HJ6.out.tr hK8) HB3.out,hK6'.trans hK8 (by simp +contextual)⟩;have hb6:base≤w5.drew.heap.size:=by show base≤w5.heap.size;omega
  exact⟨bB,bA,bC,ν (ν hB7 7 _) 9 _,hK8.heap hA6 (by simp;exact fun e=>HBA.out e.symm),hK8.heap hC6 (by simp;exact fun e=>HBC.out e.symm),len,n1000,calls0,by show calls≤6*(T+1);omega,writes0,by show writes≤2*(T+1);omega,by show ((k+1:Nat):Int)≤T+1;omega,(may6.le hb6).keep hK8 hap6,(were6.le hb6).keep hK8 hap6,.inr ⟨HF.out,by show N'≤2*(T+1);omega,rfl,rfl,gm',rfl⟩⟩
 ·refine qF4 rfl (qQ8 (t:=126) rfl (by kernel_rfl) 1 (by kernel_rfl) B 8 rfl (show w5.drew.heap[B]?=_ from hB5) (by simp) (show _=#[.slice none 0 0] from rfl)) ?_;refine hK _ _ ?_;clear hK K
  try simp only[zZ]
  refine zQ 4 fun K hK=>?_;refine qF4 rfl (qQ8 (t:=123) rfl (by kernel_rfl) 6 (by kernel_rfl) B 1 rfl (show w5.drew.heap[B]?=_ from hB5) (by simp) (show _=#[.int .i64 n,.slice (some ⟨gm,0,none⟩) 1 1,.bool false,.slice pw k cw,.bool false,.bool false] from rfl)) ?_;refine hK _ _ ?_;clear hK K
  try simp only[zZ]
  refine zQ 9 fun K hK=>?_;go_simp;refine (zB4 base 1 1 k cw _ pw n _ _ _ w5.drew may5 were5 (by omega) (by omega)).mono ?_;rintro e w6 ⟨gm',gw,cw',rfl,may6,were6,hK6⟩;have hB6:=hK6.heap (k:=B) hB5 (by simp);have hA6:=hK6.heap (k:=A) hA5 (by simp);have hC6:=hK6.heap (k:=C) hC5 (by simp);have hK6':Kp [B,St,M] w w6:=(hK5'.drew).tr hK6;have HJ6:Hid (Kp [B] w3 w6):=(HJ5.out.drew).tr hK6;have HS5:=zh hK5'.size;clear hB5 hA5 hC5 may5 were5 hK5' hK6;refine hK _ _ ?_;clear hK K
  try simp only[zZ]
  refine zu 10 (.pointer (some ⟨B,0,none⟩)) ?_;refine zu 11 (.pointer (some ⟨B,1,none⟩)) ?_;have k1:=ξ hB6 1;have k2:=ξ hB6 2;have k3:=ξ hB6 3;have k4:=ξ hB6 4;have k5:=ξ hB6 5;have k6:=ξ hB6 6;simp only[qD9,zG,zH,zI] at k1 k2 k3 k4 k5 k6;have f1:=υ hB6;refine zQ 12 fun K hK=>?_;go_simp;refine hK _ _ ?_;clear hK K;refine wpAny_done (by kernel_rfl) ?_ _;obtain⟨w7,hw7,hB7,hK7⟩:∃ w7,w7=((((((w6.setCell ⟨B,1,none⟩ (.int .i64 n)).setCell ⟨B,2,none⟩ (.slice (some ⟨gm',0,none⟩) 1 1)).setCell ⟨B,3,none⟩ (.bool false)).setCell ⟨B,4,none⟩ (.slice (some ⟨gw,0,none⟩) (k+1) cw')).setCell ⟨B,5,none⟩ (.bool false)).setCell ⟨B,6,none⟩ (.bool false))∧w7.heap[B]?=some (qD9 A n (.slice (some ⟨gm',0,none⟩) 1 1) (.slice (some ⟨gw,0,none⟩) (k+1) cw') x ts li wa)∧Kp [B] w6 w7:=
   ⟨_,rfl,(ν (ν (ν (ν (ν (ν hB6 1 _) 2 _) 3 _) 4 _) 5 _) 6 _),(((((((Kp.refl [B] w6).sc _).sc _).sc _).sc _).sc _).sc _)⟩
  rw[←hw7];clear hw7 k1 k2 k3 k4 k5 k6 f1;have k7:=ξ hB7 7;have k9:=ξ hB7 9;simp only[qD9,zG,zH,zI] at k7 k9;have f7:=υ hB7;go_wp2;go_ret;have hK8:Kp [B] w6 ((w7.setCell ⟨B,7,none⟩ (.pointer (some ⟨Db,0,none⟩))).setCell ⟨B,9,none⟩ (.int .i64 0)):=(hK7.sc _).sc _;have hap6:Apart w6 [B] 126:=fun k hk=>by rw[List.mem_singleton.1 hk];exact⟨_,_,_,hB6,by decide⟩
  have hs5:=HS5.out;refine⟨rfl,⟨⟨B,A,C,n,l,calls,writes,N',some ⟨gm',0,none⟩,1,1,some ⟨gw,0,none⟩,k+1,cw',some ⟨Db,0,none⟩,ts,li,wa⟩,?_,rfl,rfl,rfl,rfl,rfl,rfl,rfl,rfl⟩,HSTO.out.keep (HJ6.out.tr hK8) HB3.out,hK6'.trans hK8 (by simp +contextual)⟩;have hb6:base≤w5.drew.heap.size:=by show base≤w5.heap.size;omega
  exact⟨bB,bA,bC,ν (ν hB7 7 _) 9 _,hK8.heap hA6 (by simp;exact fun e=>HBA.out e.symm),hK8.heap hC6 (by simp;exact fun e=>HBC.out e.symm),len,n1000,calls0,by show calls≤6*(T+1);omega,writes0,by show writes≤2*(T+1);omega,by show ((k+1:Nat):Int)≤T+1;omega,(may6.le hb6).keep hK8 hap6,(were6.le hb6).keep hK8 hap6,.inr ⟨HF.out,by show N'≤2*(T+1);omega,rfl,rfl,gm',rfl⟩⟩
def zD7(g':DG)(w w':World):Prop:=g'.x=none∨∃ Db St V M N,g'.x=some ⟨Db,0,none⟩∧StOk Db St V M g'.A g'.n N w'∧w.heap.size≤Db∧w.heap.size≤St∧w.heap.size≤V∧w.heap.size≤M
theorem xN0(base:Nat)(T:Int)(w:World)(g:DG)(h:DOk base T w g)(hT0:0≤T)(hT1:T≤40000)(hg:w.cell? ⟨0,0,none⟩=some qC1)(hb:0<base)(hbs:base≤w.heap.size):
  Calls prog 81 #[.pointer (some ⟨g.B,0,none⟩)] w fun e w'=>e=.returned (.bool true)∧(∃ g',DOk base (T+2) w' g'∧g'.B=g.B∧g'.A=g.A∧g'.C=g.C∧g'.n=g.n∧g'.ts=.slice none 0 0∧g'.li=g.li∧g'.wa=g.wa∧zD7 g' w w')∧Kp [g.B,g.A,g.C] w w':=by
 obtain⟨B,A,C,n,l,calls,writes,N,pm,m,cm,pw,k,cw,x,ts,li,wa⟩:=g;obtain⟨bB,bA,bC,hB,hA,hC,len,n1000,calls0,calls1,writes0,writes1,kT,may,were,st⟩:=h;simp only at *;have HBA:Hid (B≠A):=qF2 hB hA (by decide);have HBC:Hid (B≠C):=qF2 hB hC (by decide);have HCA:Hid (C≠A):=qF2 hC hA (by decide);have HST:=zh st;clear st;go_enter func81,ntmps81;go_wp2_with fail;refine (zG6 B A n _ _ x ts li wa w hB).mono ?_;rintro e w1 ⟨rfl,hB1,hK1⟩;have hA1:=hK1.heap hA (by simp;exact fun e=>HBA.out e.symm);have hC1:=hK1.heap hC (by simp;exact fun e=>HBC.out e.symm);have hap:Apart w [B] 126:=fun k hk=>by rw[List.mem_singleton.1 hk];exact⟨_,_,_,hB,by decide⟩
 have may1:=may.keep hK1 hap;have were1:=were.keep hK1 hap;have hg1:w1.cell? ⟨0,0,none⟩=some qC1:=(hK1.cell (a:=⟨0,0,none⟩) (by simp;omega) (by simp;omega)).trans hg;have hs1:=hK1.size;have hK1':Kp [B,A,C] w w1:=hK1.mono (by simp +contextual);clear hB hA hC may were hK1 hg hap;have k0:=ξ hB1 0;simp only[qD9,zG,zH,zI] at k0;go_wp2_with fail;refine (qG5 A n C _ calls writes w1 hA1).mono ?_;rintro e w1 ⟨rfl,rfl⟩;go_wp2_with fail;by_cases hfit:8≤n∧n≤400
 ·have h8:=hfit.1;have h400:=hfit.2;clear hfit;rcases HST.out with⟨hfr,hm0,hN0⟩|⟨hfm,hN2,hm1,hcm,gm,hpm⟩
  ·have hfr':=hfr h8;refine (xM5 A n C calls writes l _ hA1 calls0 (by omega) h8 h400 hC1 len HCA.out hfr').mono ?_;have HFR:=zh hfr;clear hfr hfr';rintro e w2 ⟨F,call,rfl,hF,hF2,hA2,hK2⟩;have hB2:=hK2.heap hB1 (by simp;exact HBA.out);have hC2:=hK2.heap hC1 (by simp;exact HCA.out);have hap:Apart w1 [A] 126:=fun k hk=>by rw[List.mem_singleton.1 hk];exact⟨_,_,_,hA1,by decide⟩
   have may2:=may1.keep hK2 hap;have were2:=were1.keep hK2 hap;have hg2:w2.cell? ⟨0,0,none⟩=some qC1:=(hK2.cell (a:=⟨0,0,none⟩) (by simp;omega) (by simp;omega)).trans hg1;have hK2':Kp [B,A,C] w w2:=hK1'.trans hK2 (by simp +contextual);clear hA1 hC1 hB1 may1 were1 hK2 hK1' k0 hg1 hap;go_wp2_with fail;refine (qV6 F call 9 _ hg2 hF2).mono ?_;rintro e w3 ⟨rfl,hK3⟩;have hB3:=hK3.hp hB2;have hA3:=hK3.hp hA2;have hC3:=hK3.hp hC2;have may3:=may2.keep hK3 (by intro k h;simp at h);have were3:=were2.keep hK3 (by intro k h;simp at h);have hK3':Kp [B,A,C] w w3:=hK2'.tr hK3;clear hB2 hA2 hC2 may2 were2 hK2' hK3 hg2 hF2 hF;have c0:=ξ hB3 0;have c1:=ξ hB3 1;have c2:=ξ hB3 2;have c3:=ξ hB3 3;have c4:=ξ hB3 4;have c5:=ξ hB3 5;have c6:=ξ hB3 6;simp only[qD9,zG,zH,zI] at c0 c1 c2 c3 c4 c5 c6
   go_wp2_with (go_at_call 127;refine (qF3 _ _).mono ?_;rintro e w3 ⟨rfl,rfl⟩)
   refine (qZ0 _ _ n _ _ _ _ h8 h400).mono ?_;rintro e w4 ⟨rfl,hK4⟩;have hB4:=hK4.hp hB3;have hA4:=hK4.hp hA3;have hC4:=hK4.hp hC3;have may4:=may3.keep hK4 (by intro k h;simp at h);have were4:=were3.keep hK4 (by intro k h;simp at h);have hK4':Kp [B,A,C] w w4:=hK3'.tr hK4;clear hB3 hA3 hC3 may3 were3 hK3' hK4 c0 c1 c2 c3 c4 c5 c6;have c0:=ξ hB4 0;have c1:=ξ hB4 1;have c2:=ξ hB4 2;have c3:=ξ hB4 3;have c4:=ξ hB4 4;have c5:=ξ hB4 5;have c6:=ξ hB4 6;simp only[qD9,zG,zH,zI] at c0 c1 c2 c3 c4 c5 c6;subst hm0;go_wp2;go_ret;refine⟨rfl,⟨⟨B,A,C,n,l,calls+2,writes,N,pm,0,cm,pw,k,cw,none,.slice none 0 0,li,wa⟩,?_,rfl,rfl,rfl,rfl,rfl,rfl,rfl,.inl rfl⟩,hK4'⟩;exact⟨bB,bA,bC,hB4,hA4,hC4,len,n1000,by show (0:Int)≤calls+2;omega,by show calls+2≤6*(T+2);omega,writes0,by show writes≤2*(T+2);omega,by show ((k:Nat):Int)≤T+2;omega,may4,were4,.inl ⟨HFR.out,rfl,hN0⟩⟩
  ·have HF:=zh hfm;have hl:=hfm.low;refine (xM6 A n C calls writes l N _ hA1 calls0 (by omega) h8 h400 hC1 len HCA.out hfm).mono ?_;clear hfm;rintro e w2 ⟨V,M,St,Db,rfl,hV,hM,hSt,hDb,hA2,hV2,hM2,hSt2,hD2,hK2⟩;have hB2:=hK2.heap hB1 (by simp;exact HBA.out);have hC2:=hK2.heap hC1 (by simp;exact HCA.out);have hap:Apart w1 [A] 126:=fun k hk=>by rw[List.mem_singleton.1 hk];exact⟨_,_,_,hA1,by decide⟩
   have may2:=may1.keep hK2 hap;have were2:=were1.keep hK2 hap;have hK2':Kp [B,A,C] w w2:=hK1'.trans hK2 (by simp +contextual);have HSW:Hid (w.heap.size≤St∧w.heap.size≤M):=by show w.heap.size≤St∧w.heap.size≤M;omega
   have HSV:Hid (w.heap.size≤Db∧w.heap.size≤V):=by show w.heap.size≤Db∧w.heap.size≤V;omega
   clear hA1 hC1 hB1 may1 were1 hK2 hK1' k0 hg1 hap hV hSt hDb hM;go_wp2_with fail;refine (qR7 _).mono ?_;rintro e w2 ⟨rfl,rfl⟩;have c0:=ξ hB2 0;have c1:=ξ hB2 1;have c2:=ξ hB2 2;have c3:=ξ hB2 3;have c4:=ξ hB2 4;have c5:=ξ hB2 5;have c6:=ξ hB2 6;simp only[qD9,zG,zH,zI] at c0 c1 c2 c3 c4 c5 c6
   go_wp2_with (go_at_call 127;refine (qF3 _ _).mono ?_;rintro e w2 ⟨rfl,rfl⟩)
   refine (qZ0 _ _ n _ _ _ _ h8 h400).mono ?_;rintro e w3 ⟨rfl,hK3⟩;have hB3:=hK3.hp hB2;have hA3:=hK3.hp hA2;have hC3:=hK3.hp hC2;have hSt3:=hK3.hp hSt2;have hV3:=hK3.hp hV2;have hM3:=hK3.hp hM2;have hD3:=hK3.hp hD2;have may3:=may2.keep hK3 (by intro k h;simp at h);have were3:=were2.keep hK3 (by intro k h;simp at h);have hK3':Kp [B,A,C] w w3:=hK2'.tr hK3;have hs3:=hK3'.size;clear hB2 hA2 hC2 may2 were2 hK2' hK3 hSt2 hD2 hV2 hM2 c0 c1 c2 c3 c4 c5 c6;go_wp2_with fail;have hd:DOk base (T+1) w3 ⟨B,A,C,n,l,calls+3,writes,N,pm,m,cm,pw,k,cw,none,.slice none 0 0,li,wa⟩:=
    ⟨bB,bA,bC,hB3,hA3,hC3,len,n1000,by show (0:Int)≤calls+3;omega,by show calls+3≤6*(T+1);omega,writes0,by show writes≤2*(T+1);omega,by show ((k:Nat):Int)≤T+1;omega,may3,were3,.inr ⟨HF.out,by show N≤2*(T+1);omega,hm1,hcm,gm,hpm⟩⟩
   refine (xF4 base (T+1) w3 _ hd Db St V M A N hD3 hSt3 hV3 hM3 (by omega) (by omega) HF.out (by omega)).mono ?_;rintro e w4 ⟨rfl,⟨g',hg',e1,e2,e3,e4,e5,e6,e7,e8⟩,hsto,hK4⟩;have HOP:Hid (zD7 g' w w4):=.inr ⟨Db,St,V,M,N,e5,by rw[e2,e4];exact hsto,HSV.out.1,HSW.out.1,HSV.out.2,HSW.out.2⟩;have HEE:Hid (g'.n=n∧g'.ts=.slice none 0 0∧g'.li=li∧g'.wa=wa):=⟨e4,e6,e7,e8⟩;clear hsto e4 e5 e6 e7 e8;have hg'':DOk base (T+2) w4 g':=by rw[show T+2=T+1+1 by omega];exact hg'
   have hK4':Kp [B,A,C] w w4:=hK3'.trans hK4 (by intro i hi hlt;have:=HSW.out;simp at hi;simp;omega);clear hd hg' hB3 hA3 hC3 hSt3 hD3 hV3 hM3 may3 were3 hK3' hK4;go_wp2;go_ret;exact⟨rfl,⟨g',hg'',e1,e2,e3,HEE.out.1,HEE.out.2.1,HEE.out.2.2.1,HEE.out.2.2.2,HOP.out⟩,hK4'⟩
 ·have hbad:n<8∨400<n:=by omega
  clear hfit;have HB:=zh hbad;refine (xM9 A n C _ calls writes _ hA1 hbad).mono ?_;clear hbad;rintro e w2 ⟨F,call,rfl,hF,hF2,hK2⟩;have hB2:=hK2.hp hB1;have hA2:=hK2.hp hA1;have hC2:=hK2.hp hC1;have may2:=may1.keep hK2 (by intro k h;simp at h);have were2:=were1.keep hK2 (by intro k h;simp at h);have hg2:w2.cell? ⟨0,0,none⟩=some qC1:=(hK2.cell (a:=⟨0,0,none⟩) (by simp;omega) (by simp)).trans hg1;have hK2':Kp [B,A,C] w w2:=hK1'.tr hK2;clear hA1 hC1 hB1 may1 were1 hK2 hK1' k0 hg1;go_wp2_with fail;refine (qV6 F call 10 _ hg2 hF2).mono ?_;rintro e w3 ⟨rfl,hK3⟩;have hB3:=hK3.hp hB2;have hA3:=hK3.hp hA2;have hC3:=hK3.hp hC2;have may3:=may2.keep hK3 (by intro k h;simp at h);have were3:=were2.keep hK3 (by intro k h;simp at h);have hK3':Kp [B,A,C] w w3:=hK2'.tr hK3;clear hB2 hA2 hC2 may2 were2 hK2' hK3 hg2 hF2 hF;have c0:=ξ hB3 0;have c1:=ξ hB3 1;have c2:=ξ hB3 2;have c3:=ξ hB3 3;have c4:=ξ hB3 4;have c5:=ξ hB3 5;have c6:=ξ hB3 6;simp only[qD9,zG,zH,zI] at c0 c1 c2 c3 c4 c5 c6
  go_wp2_with (go_at_call 127;refine (qF3 _ _).mono ?_;rintro e w3 ⟨rfl,rfl⟩)
  refine (zH8 _ _ n _ _ _ _ HB.out).mono ?_;rintro e w4 ⟨rfl,hK4⟩;have hB4:=hK4.hp hB3;have hA4:=hK4.hp hA3;have hC4:=hK4.hp hC3;have may4:=may3.keep hK4 (by intro k h;simp at h);have were4:=were3.keep hK4 (by intro k h;simp at h);have hK4':Kp [B,A,C] w w4:=hK3'.tr hK4;clear hB3 hA3 hC3 may3 were3 hK3' hK4 c0 c1 c2 c3 c4 c5 c6;go_wp2;go_ret;refine⟨rfl,⟨⟨B,A,C,n,l,calls,writes,N,pm,m,cm,pw,k,cw,none,.slice none 0 0,li,wa⟩,?_,rfl,rfl,rfl,rfl,rfl,rfl,rfl,.inl rfl⟩,hK4'⟩;exact⟨bB,bA,bC,hB4,hA4,hC4,len,n1000,calls0,by show calls≤6*(T+2);omega,writes0,by show writes≤2*(T+2);omega,by show ((k:Nat):Int)≤T+2;omega,may4,were4,by
   rcases HST.out with h|⟨h1,h2,h3⟩
   ·exact .inl h
   ·exact .inr ⟨h1,by show N≤2*(T+2);omega,h3⟩⟩
end Go.Proofs.YtdohpenfkdckiaaGreatDoor.Gen
namespace Go.Proofs.YtdohpenfkdckiaaGreatDoor.Gw
open Go.Proofs.Tryz
open Go.RowKit
def qK7:List TypeId:=[70,3,119]
def qJ9:List TypeId:=[130,114,115,117,169,99,80,197,132,29,282,203]
def Muts(base:Nat)(Ts:List TypeId)(w:World)(L:List Nat):Prop:=∀ k∈L,base≤k∧∃ o,w.heap[k]?=some o∧∀ c t fr,o=.cells c t fr→t∈Ts
def MutC(base:Nat)(Ts:List TypeId)(w:World)(L:List Nat):Prop:=∀ k∈L,base≤k∧∃ c t fr,w.heap[k]?=some (.cells c t fr)∧t∈Ts
theorem MutC.muts{base:Nat}{Ts:List TypeId}{w:World}{L:List Nat}(h:MutC base Ts w L):Muts base Ts w L:=fun k hk=>by
 obtain⟨h1,c,t,fr,h2,h3⟩:=h k hk;exact⟨h1,_,h2,fun c' t' fr' e=>by cases e;exact h3⟩
theorem Muts.nil(base:Nat)(Ts:List TypeId)(w:World):Muts base Ts w []:=fun _ h=>by cases h
theorem Muts.mono{base:Nat}{Ts Ts':List TypeId}{w:World}{L L':List Nat}(h:Muts base Ts w L)(hT:∀ t∈Ts,t∈Ts')(hL:∀ i∈L',i∈L):Muts base Ts' w L':=fun k hk=>by
 obtain⟨h1,o,h2,h3⟩:=h k (hL k hk);exact⟨h1,o,h2,fun c t fr e=>hT t (h3 c t fr e)⟩
theorem Muts.apt{base:Nat}{Ts Us:List TypeId}{w:World}{L:List Nat}(h:Muts base Ts w L)(hU:∀ t∈Us,t ∉ Ts):Apt w L Us:=fun k hk c t fr e hm=>by
 obtain⟨h1,o,h2,h3⟩:=h k hk;rw[e] at h2;cases h2;exact hU t hm (h3 _ _ _ rfl)
theorem Muts.not{base:Nat}{Ts:List TypeId}{w:World}{L:List Nat}(h:Muts base Ts w L){k:Nat}{c:Array Value}{t:TypeId}{fr:Nat × Nat}(hk:w.heap[k]?=some (.cells c t fr))(ht:t ∉ Ts):k ∉ L:=fun hm=>by
 obtain⟨h1,o,h2,h3⟩:=h k hm;rw[hk] at h2;cases h2;exact ht (h3 _ _ _ rfl)
theorem Muts.lt{base:Nat}{Ts:List TypeId}{w:World}{L:List Nat}(h:Muts base Ts w L){k:Nat}(hk:k∈L):k<w.heap.size:=by
 obtain⟨_,o,h2,_⟩:=h k hk;exact ζ h2
theorem Muts.row{base base' n sz:Nat}{Ts:List TypeId}{T:TypeId}{w w':World}{L:List Nat}{v:Value}{xs:List Value}(h:Muts base Ts w L)(hK:Kp L w w')(hT:T ∉ Ts)(hr:w.ownsRow base' T sz v n xs):w'.ownsRow base' T sz v n xs:=
 qF0 hr hK fun k c t fr e hk et=>by
  obtain⟨h1,o,h2,h3⟩:=h k hk;rw[e] at h2;cases h2;subst et;exact hT (h3 _ _ _ rfl)
structure DInv where
 G:Type
 kf:G→KF
 B:G→Nat
 tbs:G→List Nat
 tur:G→List Nat
 ok:Nat→Int→World→G→Prop
 kob_:∀ {base:Nat} {T:Int} {w:World} {g:G},ok base T w g→w.heap[B g]?=some (kob (kf g))
 row:∀ {base:Nat} {T:Int} {w:World} {g:G},ok base T w g→PRow w 132 (kf g).ts (tbs g)
 tlen:∀ {base:Nat} {T:Int} {w:World} {g:G},ok base T w g→((tbs g).length:Int)≤T
 inB:∀ g,B g∈tur g
 muts:∀ {base:Nat} {T:Int} {w:World} {g:G},ok base T w g→Muts base qJ9 w (tur g)
 keep:∀ {base:Nat} {T T':Int} {w w':World} {g:G} {L:List Nat},ok base T w g→Kp L w w'→Muts base (qK7++qJ9) w L→(∀ i∈L,i ∉ tur g)→T≤T'→ok base T' w' g
 fresh:∀ (base:Nat) (T:Int) (w:World) (b A C m:Nat),base≤b→base≤A→base≤C→0≤T→m<1000→w.heap[b]?=some (kob ⟨A,m,.slice none 0 0,false,.slice none 0 0,false,false,none,.slice none 0 0,0,false,.slice none 0 0,.slice none 0 0,.slice none 0 0⟩)→w.heap[A]?=some (ι m C (.slice none 0 0) 0 0)→w.heap[C]?=some (.cells (enc (List.replicate (m*128) 0)) 115)→∃ g,ok base T w g∧B g=b∧∀ i∈tur g,i=b∨i=A∨i=C
def qG1(I:DInv)(ds:List I.G):List Value:=ds.map fun g=>.pointer (some ⟨I.B g,0,none⟩)
structure WOk(I:DInv)(base:Nat)(T:Int)(w:World)(Wb:Nat)(ds:List I.G):Prop where
 hb:0<base
 hbs:base≤w.heap.size
 g0:w.cell? ⟨0,0,none⟩=some qC1
 bW:base≤Wb
 hW:∃ pk nk ck xs pd cd,w.heap[Wb]?=some (qE2 pk nk ck pd ds.length cd)∧w.ownsRow base 3 1 (.slice pk nk ck) nk xs∧(nk:Int)≤T∧w.ownsRow base 119 1 (.slice pd ds.length cd) ds.length (qG1 I ds)
 len:(ds.length:Int)≤T
 all:∀ g,g∈ds→I.ok base T w g
 sep:ds.Pairwise fun g h=>∀ i∈I.tur g,i ∉ I.tur h
theorem WOk.same{I:DInv}{base:Nat}{T T':Int}{w w':World}{Wb:Nat}{ds:List I.G}(h:WOk I base T w Wb ds)(hK:Kp [] w w')(hT:T≤T'):WOk I base T' w' Wb ds:=by
 obtain⟨pk,nk,ck,xs,pd,cd,h1,h2,h3,h4⟩:=h.hW;exact⟨h.hb,Nat.le_trans h.hbs hK.size,qT5 h.g0 hK h.hb h.hbs (by simp),h.bW,⟨pk,nk,ck,xs,pd,cd,hK.hp h1,qI5 h2 hK (Apart.nil _ _),by omega,qI5 h4 hK (Apart.nil _ _)⟩,by have:=h.len;omega,fun g hg=>I.keep (h.all g hg) hK (Muts.nil _ _ _) (by simp) hT,h.sep⟩
def DStep(I:DInv)(base:Nat)(T':Int)(w w':World)(g:I.G):Prop:=
 ∃ g' L,I.ok base T' w' g'∧I.B g'=I.B g∧(∀ i∈I.tur g',i∈I.tur g∨w.heap.size≤i)∧Kp L w w'∧∀ i∈L,i∈I.tur g
theorem DStep.after{I:DInv}{base:Nat}{T':Int}{w w1 w':World}{g:I.G}(h:DStep I base T' w w1 g)(hK:Kp [] w1 w'):DStep I base T' w w' g:=by
 obtain⟨g',L,h1,h2,h3,h4,h5⟩:=h;exact⟨g',L,I.keep h1 hK (Muts.nil _ _ _) (by simp) (Int.le_refl _),h2,h3,h4.tr hK,h5⟩
theorem DStep.from{I:DInv}{base:Nat}{T':Int}{w w1 w':World}{g:I.G}(hK:Kp [] w w1)(h:DStep I base T' w1 w' g)(hg:Muts base qJ9 w (I.tur g)):DStep I base T' w w' g:=by
 obtain⟨g',L,h1,h2,h3,h4,h5⟩:=h;exact⟨g',L,h1,h2,fun i hi=>(h3 i hi).imp id (fun h=>by have:=hK.size;omega),(hK.mono (by simp)).trans h4 (fun i hi _=>hi),h5⟩
theorem DStep.below{I:DInv}{base:Nat}{T T':Int}{w w':World}{g:I.G}(h:DStep I base T' w w' g)(hg:I.ok base T w g)(hb:base≤w.heap.size):Below base w w':=by
 obtain⟨g',L,h1,h2,h3,h4,h5⟩:=h;exact h4.below hb (fun k hk=>(I.muts hg k (h5 k hk)).1)
theorem WOk.one{I:DInv}{base:Nat}{T T':Int}{w w':World}{Wb:Nat}{ds:List I.G}(h:WOk I base T w Wb ds)(j:Nat)(hj:j<ds.length)(hs:DStep I base T' w w' ds[j])(hT:T≤T'):∃ ds',WOk I base T' w' Wb ds':=by
 obtain⟨g',L,hg,e1,hm,hK,hL⟩:=hs;obtain⟨pk,nk,ck,xs,pd,cd,h1,h2,h3,h4⟩:=h.hW;have hd:=h.all ds[j] (List.getElem_mem hj);have hM:=I.muts hd;have hML:Muts base qJ9 w L:=hM.mono (fun t ht=>ht) hL;have hMX:Muts base (qK7++qJ9) w L:=hM.mono (fun t ht=>List.mem_append_right _ ht) hL;have hp:qG1 I (ds.set j g')=qG1 I ds:=by
  simp only[qG1,List.map_set,e1];exact List.ext_getElem (by simp) (fun i h1 h2=>by
   rw[List.getElem_set];split
   ·rename_i h;subst h;simp
   ·rfl)
 have hpw:=List.pairwise_iff_getElem.1 h.sep;have hlt:∀ i (hi:i<ds.length),∀ k∈I.tur ds[i],k<w.heap.size:=fun i hi k hk=>(I.muts (h.all _ (List.getElem_mem hi))).lt hk;have hq:∀ i (hi:i<ds.length),j≠i→∀ k∈I.tur ds[j],k ∉ I.tur ds[i]:=fun i hi hne k hk hk'=>by
  rcases Nat.lt_or_gt_of_ne hne with hlt|hgt
  ·exact hpw j i hj hi hlt k hk hk'
  ·exact hpw i j hi hj hgt k hk' hk
 refine⟨ds.set j g',h.hb,Nat.le_trans h.hbs hK.size,qT5 h.g0 hK h.hb h.hbs (fun k hk=>(hML k hk).1),h.bW,⟨pk,nk,ck,xs,pd,cd,?_,hML.row hK (by decide) h2,by omega,?_⟩,by have:=h.len;simp;omega,?_,?_⟩
 ·simp only[List.length_set];exact hK.heap h1 (hML.not h1 (by decide))
 ·rw[hp,List.length_set];exact hML.row hK (by decide) h4
 ·intro g hg';obtain⟨i,hi,rfl⟩:=List.getElem_of_mem hg';rw[List.getElem_set];split
  ·exact hg
  ·rename_i hne;simp only[List.length_set] at hi;exact I.keep (h.all ds[i] (List.getElem_mem hi)) hK hMX (fun k hk=>hq i hi hne k (hL k hk)) hT
 ·rw[List.pairwise_iff_getElem];intro a b ha hb hab;simp only[List.length_set] at ha hb;rw[List.getElem_set,List.getElem_set];split
  ·rename_i h1;subst h1;split
   ·omega
   ·rename_i hne;intro k hk hk';rcases hm k hk with hk|hk
    ·exact hq b hb hne k hk hk'
    ·have:=hlt b hb k hk';omega
  ·split
   ·rename_i hne h2;subst h2;intro k hk hk';rcases hm k hk' with hk'|hk'
    ·exact hq a ha (fun e=>hne e) k hk' hk
    ·have:=hlt a ha k hk;omega
   ·exact hpw a b ha hb hab
theorem WOk.turn{I:DInv}{base:Nat}{T T':Int}{w w':World}{Wb:Nat}{ds:List I.G}{S:List Nat}(h:WOk I base T w Wb ds)(hK:Kp S w w')(hS:MutC base qK7 w S)(hT:T≤T')(new:List I.G)(hnew:∀ g,g∈new→I.ok base T' w' g∧∀ i∈I.tur g,w.heap.size≤i)(hone:new.length≤1)
  (hW:∃ pk nk ck xs pd cd,w'.heap[Wb]?=some (qE2 pk nk ck pd (ds++new).length cd)∧w'.ownsRow base 3 1 (.slice pk nk ck) nk xs∧(nk:Int)≤T'∧w'.ownsRow base 119 1 (.slice pd (ds++new).length cd) (ds++new).length (qG1 I (ds++new))) (len:((ds++new).length:Int)≤T'):WOk I base T' w' Wb (ds++new):=by
 refine⟨h.hb,Nat.le_trans h.hbs hK.size,qT5 h.g0 hK h.hb h.hbs (fun k hk=>(hS k hk).1),h.bW,hW,len,?_,?_⟩
 ·intro g hg;rcases List.mem_append.1 hg with hg|hg
  ·have hd:=h.all g hg;refine I.keep hd hK (hS.muts.mono (fun t ht=>List.mem_append_left _ ht) (fun i hi=>hi)) (fun i hi hm=>?_) hT;obtain⟨_,c,t,fr,h2,h3⟩:=hS i hi;obtain⟨_,o',h2',h3'⟩:=I.muts hd i hm;rw[h2] at h2';cases h2';have h5:=h3' _ _ _ rfl;have:∀ t∈qK7,t ∉ qJ9:=by decide
   exact this t h3 h5
  ·exact (hnew g hg).1
 ·rw[List.pairwise_append];refine⟨h.sep,?_,?_⟩
  ·exact xO3 _ _ hone
  ·intro g hg g' hg' i hi hi';have h1:=(I.muts (h.all g hg)).lt hi;have h2:=(hnew g' hg').2 i hi';omega
end Go.Proofs.YtdohpenfkdckiaaGreatDoor.Gw
namespace Go.Proofs.YtdohpenfkdckiaaGreatDoor.Gw
open Go.Proofs.Tryz
open Go.RowKit
open Go.ChangeMaps
structure TK where
 over:Bool
 wrt:Bool
 nr:Int
def cnt(wr:Bool)(ks:List TK):Nat:=ks.countP fun k=>!k.over && (k.wrt == wr)
structure Books(s:Sto)(D:DataW Unit)(ks:List TK):Prop where
 size:Maps.size D=cnt false ks
 keys:∀ m,Maps.has D (qC0 m)=true↔∃ (j:Nat) (k:TK),ks[j]?=some k∧k.over=false∧k.wrt=false∧k.nr=m
 wrs:∀ (j:Nat) (k:TK),ks[j]?=some k→k.over=false→k.wrt=true→k.nr=s.wr
 wr1:s.wr≠0→∃ (j:Nat) (k:TK),ks[j]?=some k∧k.over=false∧k.wrt=true∧k.nr=s.wr
 nrs:∀ (j:Nat) (k:TK),ks[j]?=some k→1≤k.nr∧k.nr≤s.bg
 four:Maps.size D≤4
 dist:∀ (a b:Nat) (ka kb:TK),ks[a]?=some ka→ks[b]?=some kb→ka.nr=kb.nr→a=b
theorem zJ2{a b:Int}(h:qC0 a=qC0 b):a=b:=by
 simp only[qC0] at h;cases h;rfl
theorem xJ6(a:Int):WideAt.IsKeyLit (qC0 a):=by
 simp[qC0,WideAt.IsKeyLit]
theorem Books.none{s:Sto}{D:DataW Unit}(h1:Maps.size D=0)(h2:∀ m,Maps.has D (qC0 m)=false)(h3:s.wr=0):Books s D []:=
 ⟨by rw[h1];rfl,fun m=>by simp[h2 m],fun j k h=>by simp at h,fun h=>absurd h3 h,fun j k h=>by simp at h,by omega,fun a b ka kb h=>by simp at h⟩
theorem qJ8{ks:List TK}{x k:TK}{j:Nat}(h:(ks++[x])[j]?=some k):ks[j]?=some k∨(j=ks.length∧k=x):=by
 rcases Nat.lt_or_ge j ks.length with hj|hj
 ·rw[List.getElem?_append_left hj] at h;exact .inl h
 ·rw[List.getElem?_append_right hj] at h;have:j-ks.length=0:=by
   rcases Nat.eq_zero_or_pos (j-ks.length) with h0|h0
   ·exact h0
   ·rw[List.getElem?_eq_none (by simp;omega)] at h;cases h
  rw[this] at h;simp at h;exact .inr ⟨by omega,h.symm⟩
theorem qX1{ks:List TK}{x k:TK}{j:Nat}(h:ks[j]?=some k):(ks++[x])[j]?=some k:=by
 have:j<ks.length:=by
  rcases Nat.lt_or_ge j ks.length with hj|hj
  ·exact hj
  ·rw[List.getElem?_eq_none hj] at h;cases h
 rw[List.getElem?_append_left this];exact h
theorem zV1{ks:List TK}{k:TK}{j:Nat}(h:ks[j]?=some k):j<ks.length:=by
 rcases Nat.lt_or_ge j ks.length with hj|hj
 ·exact hj
 ·rw[List.getElem?_eq_none hj] at h;cases h
theorem Books.nw{s:Sto}{D:DataW Unit}{ks:List TK}(h:Books s D ks)(h0:s.wr=0){j:Nat}{k:TK}(hk:ks[j]?=some k)(ho:k.over=false):k.wrt=false:=by
 cases hw:k.wrt with
 | false=>rfl
 | true=>
  have:=h.wrs j k hk ho hw;have:=(h.nrs j k hk).1;omega
theorem Books.born_write{s:Sto}{D:DataW Unit}{ks:List TK}(h:Books s D ks)(h0:s.wr=0)(hb:0≤s.bg):Books s.wrote D (ks++[⟨false,true,s.bg+1⟩]):=by
 refine⟨?_,fun m=>?_,fun j k hk ho hw=>?_,fun _=>?_,fun j k hk=>?_,h.four,fun a b ka kb ha hb' e=>?_⟩
 ·rw[h.size,cnt,cnt,List.countP_append];simp[List.countP_cons]
 ·rw[h.keys m];constructor
  ·rintro⟨j,k,h1,h2⟩;exact⟨j,k,qX1 h1,h2⟩
  ·rintro⟨j,k,h1,h2,h3,h4⟩;rcases qJ8 h1 with h1|⟨_,rfl⟩
   ·exact⟨j,k,h1,h2,h3,h4⟩
   ·cases h3
 ·rcases qJ8 hk with hk|⟨_,rfl⟩
  ·have:=h.nw h0 hk ho;rw[hw] at this;cases this
  ·rfl
 ·exact⟨ks.length,⟨false,true,s.bg+1⟩,by simp,rfl,rfl,rfl⟩
 ·rcases qJ8 hk with hk|⟨_,rfl⟩
  ·have:=h.nrs j k hk;exact⟨this.1,by show k.nr≤s.bg+1;omega⟩
  ·exact⟨by show 1≤s.bg+1;omega,Int.le_refl _⟩
 ·rcases qJ8 ha with ha|⟨ea,rfl⟩<;>rcases qJ8 hb' with hb2|⟨eb,rfl⟩
  ·exact h.dist a b ka kb ha hb2 e
  ·have:=(h.nrs a ka ha).2;simp only at e;omega
  ·have:=(h.nrs b kb hb2).2;simp only at e;omega
  ·omega
theorem Books.born_read{s:Sto}{D d:DataW Unit}{ks:List TK}(h:Books s D ks)(ht:Maps.Tidy D)(hb:0≤s.bg)(h4:Maps.size D<4):Books s.read (D.put (qC0 (s.bg+1)) d) (ks++[⟨false,false,s.bg+1⟩]):=by
 have hn:Maps.has D (qC0 (s.bg+1))=false:=by
  cases hh:Maps.has D (qC0 (s.bg+1)) with
  | false=>rfl
  | true=>
   obtain⟨j,k,h1,_,_,h4⟩:=(h.keys _).1 hh;have:=(h.nrs j k h1).2;omega
 refine⟨?_,fun m=>?_,fun j k hk ho hw=>?_,fun hw=>?_,fun j k hk=>?_,by rw[Maps.size_put ht,hn,if_neg (by simp)];omega,fun a b ka kb ha hb' e=>?_⟩
 ·rw[Maps.size_put ht,hn,if_neg (by simp),h.size,cnt,cnt,List.countP_append];simp[List.countP_cons]
 ·by_cases e:m=s.bg+1
  ·subst e;rw[Maps.has_put_same ht.isMap (xJ6 _)];simp only[true_iff];exact⟨ks.length,⟨false,false,s.bg+1⟩,by simp,rfl,rfl,rfl⟩
  ·rw[Maps.has_put_other (fun h=>e (zJ2 h)),h.keys m];constructor
   ·rintro⟨j,k,h1,h2⟩;exact⟨j,k,qX1 h1,h2⟩
   ·rintro⟨j,k,h1,h2,h3,h4⟩;rcases qJ8 h1 with h1|⟨_,rfl⟩
    ·exact⟨j,k,h1,h2,h3,h4⟩
    ·exact absurd h4.symm e
 ·rcases qJ8 hk with hk|⟨_,rfl⟩
  ·exact h.wrs j k hk ho hw
  ·cases hw
 ·obtain⟨j,k,h1,h2⟩:=h.wr1 hw;exact⟨j,k,qX1 h1,h2⟩
 ·rcases qJ8 hk with hk|⟨_,rfl⟩
  ·have:=h.nrs j k hk;exact⟨this.1,by show k.nr≤s.bg+1;omega⟩
  ·exact⟨by show 1≤s.bg+1;omega,Int.le_refl _⟩
 ·rcases qJ8 ha with ha|⟨ea,rfl⟩<;>rcases qJ8 hb' with hb2|⟨eb,rfl⟩
  ·exact h.dist a b ka kb ha hb2 e
  ·have:=(h.nrs a ka ha).2;simp only at e;omega
  ·have:=(h.nrs b kb hb2).2;simp only at e;omega
  ·omega
theorem Books.left{s:Sto}{D:DataW Unit}{ks:List TK}(h:Books s D ks)(ht:Maps.Tidy D){i:Nat}{k:TK}(hk:ks[i]?=some k)(ho:k.over=false):Books (s.left k.nr) (D.del (qC0 k.nr)) (ks.set i ⟨true,k.wrt,k.nr⟩):=by
 have hi:=zV1 hk;have hget:ks[i]=k:=by rw[List.getElem?_eq_getElem hi] at hk;exact Option.some.inj hk
 have hset:∀ j x,(ks.set i ⟨true,k.wrt,k.nr⟩)[j]?=some x→(j≠i∧ks[j]?=some x)∨(j=i∧x=⟨true,k.wrt,k.nr⟩):=fun j x hx=>by
  rw[List.getElem?_set] at hx;split at hx
  ·rename_i e;subst e;simp[hi] at hx;exact .inr ⟨rfl,hx.symm⟩
  ·rename_i e;exact .inl ⟨fun h=>e h.symm,hx⟩
 have hne:∀ j x,j≠i→ks[j]?=some x→(ks.set i ⟨true,k.wrt,k.nr⟩)[j]?=some x:=fun j x hj hx=>by
  rw[List.getElem?_set_ne (fun e=>hj e.symm)];exact hx
 refine⟨?_,fun m=>?_,fun j x hx ho' hw=>?_,fun hw=>?_,fun j x hx=>?_,by have hd:=Maps.size_del (k:=qC0 k.nr) ht;have:=h.four;omega,fun a b ka kb ha hb' e=>?_⟩
 ·have hd:=Maps.size_del (k:=qC0 k.nr) ht;rw[h.size] at hd;have hc:cnt false (ks.set i ⟨true,k.wrt,k.nr⟩)=cnt false ks-(if k.wrt=false then 1 else 0):=by
   rw[cnt,List.countP_set hi,hget,cnt];cases hw:k.wrt<;>simp[ho,hw]
  rw[hc]
  cases hw:k.wrt with
  | false=>
   have:Maps.has D (qC0 k.nr)=true:=(h.keys _).2 ⟨i,k,hk,ho,hw,rfl⟩;rw[this] at hd;simp at hd ⊢;omega
  | true=>
   have:Maps.has D (qC0 k.nr)=false:=by
    cases hh:Maps.has D (qC0 k.nr) with
    | false=>rfl
    | true=>
     obtain⟨j,x,h1,_,h3,h4⟩:=(h.keys _).1 hh;have:=h.dist j i x k h1 hk h4;subst this;rw[hk] at h1;cases h1;rw[hw] at h3;cases h3
   rw[this] at hd;simp at hd ⊢;omega
 ·by_cases e:m=k.nr
  ·subst e;rw[Maps.has_del_same];simp only[Bool.false_eq_true,false_iff];rintro⟨j,x,h1,h2,h3,h4⟩;rcases hset j x h1 with⟨hj,h1⟩|⟨_,rfl⟩
   ·exact hj (h.dist j i x k h1 hk h4)
   ·cases h2
  ·rw[Maps.has_del_other (fun h=>e (zJ2 h)),h.keys m];constructor
   ·rintro⟨j,x,h1,h2,h3,h4⟩;refine⟨j,x,hne j x (fun ej=>?_) h1,h2,h3,h4⟩;subst ej;rw[hk] at h1;cases h1;exact e h4.symm
   ·rintro⟨j,x,h1,h2,h3,h4⟩;rcases hset j x h1 with⟨_,h1⟩|⟨_,rfl⟩
    ·exact⟨j,x,h1,h2,h3,h4⟩
    ·cases h2
 ·rcases hset j x hx with⟨hj,hx⟩|⟨_,rfl⟩
  ·have:=h.wrs j x hx ho' hw;show x.nr=(s.left k.nr).wr;have hn:k.nr≠s.wr:=fun e=>hj (h.dist j i x k hx hk (by rw[this,e]));rw[Sto.left];simp only[if_neg hn];exact this
  ·cases ho'
 ·have hn:k.nr≠s.wr:=fun e=>by
   apply hw;simp[Sto.left,e]
  have hw':s.wr≠0:=fun e=>by
   apply hw;simp[Sto.left,hn,e]
  obtain⟨j,x,h1,h2,h3,h4⟩:=h.wr1 hw';refine⟨j,x,hne j x (fun ej=>?_) h1,h2,h3,?_⟩
  ·subst ej;rw[hk] at h1;cases h1;exact hn h4
  ·simp only[Sto.left,if_neg hn];exact h4
 ·rcases hset j x hx with⟨_,hx⟩|⟨_,rfl⟩
  ·exact h.nrs j x hx
  ·exact h.nrs i k hk
 ·rcases hset a ka ha with⟨h1,ha1⟩|⟨e1,rfl⟩<;>rcases hset b kb hb' with⟨h2,hb1⟩|⟨e2,rfl⟩
  ·exact h.dist a b ka kb ha1 hb1 e
  ·subst e2;exact h.dist a b ka k ha1 hk e
  ·subst e1;exact h.dist a b k kb hk hb1 e
  ·rw[e1,e2]
theorem Books.busyW{s:Sto}{D:DataW Unit}{ks:List TK}(h:Books s D ks):s.wr=0↔cnt true ks=0:=by
 rw[cnt,List.countP_eq_zero];constructor
 ·intro h0 k hk;obtain⟨j,hj,rfl⟩:=List.getElem_of_mem hk;have:=fun ho=>h.nw h0 (List.getElem?_eq_getElem hj) ho;cases ho:ks[j].over<;>simp[ho] at this ⊢;simp[this]
 ·intro hall;rcases Decidable.em (s.wr=0) with h0|h0
  ·exact h0
  ·obtain⟨j,k,h1,h2,h3,h4⟩:=h.wr1 h0;have:=hall k (List.mem_of_getElem? h1);simp[h2,h3] at this
abbrev E0:=Gen.E0
structure YG where
 tb:Nat
 f:TF
 t:Tx
 r:Root
 ps:List KV
structure YOk(base:Nat)(T:Int)(w:World)(St V:Nat)(y:YG):Prop where
 bT:base≤y.tb
 bX:base≤y.f.x
 hT:w.heap[y.tb]?=some (tob y.f)
 hx:w.heap[y.f.x]?=some (ψ y.t)
 st:y.t.St=St
 sp:SPR w y.f.v y.ps
 sz:(y.ps.length:Int)≤T
 m0:0≤y.f.most
 m1:y.f.most≤T
 c0:0≤y.f.chg
 c1:y.f.chg≤T
 s0:0≤y.f.stp
 s1:y.f.stp≤T
 com:y.f.com=0
 wr:y.f.wr=y.t.wrt
 dn:y.f.dn=y.t.over
 ch0:0≤y.t.ch
 ch1:y.t.ch≤T
 live:y.t.over=false→y.t.on=some ⟨V,0,none⟩∧RR (E0 V).toEnv w y.t.h y.r∧RGood y.r∧y.r.cont=y.ps
structure SG where
 Db:Nat
 St:Nat
 V:Nat
 M:Nat
 nM:Nat
 s:Sto
 D:DataW Unit
def kOf(y:YG):TK:=⟨y.t.over,y.t.wrt,y.t.nr⟩
def qF6(ys:List YG):List (TF × Nat):=ys.map fun y=>(y.f,y.ps.length)
structure SOk(base:Nat)(T:Int)(w:World)(A n:Nat)(q:SG)(ys:List YG):Prop where
 bSt:base≤q.St
 bM:base≤q.M
 hD:w.heap[q.Db]?=some (.cells #[.pointer (some ⟨q.St,0,none⟩)] 102)
 hSt:w.heap[q.St]?=some (μ 0 q.s)
 hV:w.heap[q.V]?=some (qB7 A n)
 sV:q.s.V=q.V
 sM:q.s.M=q.M
 po:q.s.po=false
 rb:q.s.rb=0
 rs:q.s.rs=0
 bl:q.s.bl=0
 bg0:0≤q.s.bg
 bg1:q.s.bg≤T
 rm:RM w q.V q.M q.nM q.D
 nM:(q.nM:Int)≤T
 bk:Books q.s q.D (ys.map kOf)
structure TG where
 d:Gen.DG
 so:Option SG
 ys:List YG
 hs:List HEnt
def qB2(d:Gen.DG):KF:=⟨d.A,d.n,.slice d.pm d.m d.cm,false,.slice d.pw d.k d.cw,false,false,d.x,.slice none 0 0,0,false,d.ts,d.li,d.wa⟩
def qB8(g:TG):List Nat:=g.ys.map YG.tb
def qH4(g:TG):List Nat:=g.ys.map fun y=>y.f.x
def qG4:Option SG→List Nat
 | none=>[]
 | some q=>[q.St,q.M]
def qM0(g:TG):List Nat:=[g.d.B,g.d.A,g.d.C]++g.d.ts.ownBlock.toList++g.d.li.ownBlock.toList++g.d.wa.ownBlock.toList++qG4 g.so++qB8 g++qH4 g
structure TOk(base:Nat)(T:Int)(w:World)(g:TG):Prop where
 d:Gen.DOk base T w g.d
 held:Held w base (qB2 g.d) g.hs
 hlen:(g.hs.length:Int)≤T
 hps:∀ x∈g.hs,(x.ps.length:Int)≤T+2
 row:w.ownsRow base 132 1 g.d.ts (qB8 g).length (qH7 (qB8 g))
 ylen:(g.ys.length:Int)≤T
 so:(g.d.x=none∧g.so=none∧g.ys=[])∨∃ q,g.so=some q∧g.d.x=some ⟨q.Db,0,none⟩∧SOk base T w g.d.A g.d.n q g.ys∧∀ y∈g.ys,YOk base T w q.St q.V y
 tbs:(qB8 g).Nodup
 xs:(qH4 g).Nodup
theorem qB0{g:TG}{i:Nat}:i∈qM0 g↔(i=g.d.B∨i=g.d.A∨i=g.d.C)∨g.d.ts.ownBlock=some i∨g.d.li.ownBlock=some i∨g.d.wa.ownBlock=some i∨i∈qG4 g.so∨i∈qB8 g∨i∈qH4 g:=by
 simp only[qM0,List.mem_append,List.mem_cons,List.not_mem_nil,or_false,Option.mem_toList,or_assoc,Option.mem_def]
theorem qQ1{L:List Nat}{w w':World}{base n sz:Nat}{T:TypeId}{v:Value}{xs:List Value}(h:w.ownsRow base T sz v n xs)(hK:Kp L w w')(hL:∀ i,v.ownBlock=some i→i ∉ L):w'.ownsRow base T sz v n xs:=by
 refine⟨h.1,?_⟩;rcases h.2 with h0|⟨g,cap,cur,h1,h2,h3,h4⟩
 ·exact .inl h0
 ·exact .inr ⟨g,cap,cur,h1,h2,hK.heap h3 (hL g (by rw[h1];simp[Value.ownBlock])),h4⟩
theorem DOk.kp{base:Nat}{T T':Int}{w w':World}{g:Gen.DG}{S:List Nat}(h:Gen.DOk base T w g)(hK:Kp S w w')(hT:T≤T')(hB:g.B ∉ S)(hA:g.A ∉ S)(hC:g.C ∉ S)(hS:Apt w S [126]):Gen.DOk base T' w' g:=
 have hS':∀ k c t fr,w.heap[k]?=some (.cells c t fr)→k∈S→t≠126:=fun k c t fr e hk et=>hS k hk c t fr e (by simp[et])
 ⟨h.bB,h.bA,h.bC,hK.heap h.hB hB,hK.heap h.hA hA,hK.heap h.hC hC,h.len,h.n1000,h.calls0,by have:=h.calls1;omega,h.writes0,by have:=h.writes1;omega,by have:=h.k1;omega,h.may.kp hK hS',h.were.kp hK hS',by
  rcases h.st with h|⟨h1,h2,h3⟩
  ·exact .inl h
  ·exact .inr ⟨h1,by omega,h3⟩⟩
theorem Held.kp{w w':World}{base:Nat}{k:KF}{hs:List HEnt}{L:List Nat}(h:Held w base k hs)(hK:Kp L w w')(h1:∀ i,k.li.ownBlock=some i→i ∉ L)(h2:∀ i,k.wa.ownBlock=some i→i ∉ L)(hS:Apt w L [42]):Held w' base k hs:=
 ⟨qQ1 h.li hK h1,qQ1 h.wa hK h2,h.two,fun x hx=>⟨(h.eq x hx).1.keep hK hS,(h.eq x hx).2.keep hK hS⟩⟩
theorem Held.cast{w:World}{base:Nat}{k k':KF}{hs:List HEnt}(h:Held w base k hs)(e1:k'.li=k.li)(e2:k'.wa=k.wa):Held w base k' hs:=
 ⟨by rw[e1];exact h.li,by rw[e2];exact h.wa,by rw[e1,e2];exact h.two,h.eq⟩
theorem YOk.kp{base:Nat}{T T':Int}{w w':World}{St V:Nat}{y:YG}{L:List Nat}(h:YOk base T w St V y)(hK:Kp L w w')(hT:T≤T')(h1:y.tb ∉ L)(h2:y.f.x ∉ L)(hS:Apt w L (284::qF7)):YOk base T' w' St V y:=
 ⟨h.bT,h.bX,hK.heap h.hT h1,hK.heap h.hx h2,h.st,h.sp.keep hK (fun k hk c t fr e hm=>hS k hk c t fr e (by simp at hm;simp[hm])),by have:=h.sz;omega,h.m0,by have:=h.m1;omega,h.c0,by have:=h.c1;omega,h.s0,by have:=h.s1;omega,h.com,h.wr,h.dn,h.ch0,by have:=h.ch1;omega,fun ho=>by
  obtain⟨a1,a2,a3,a4⟩:=h.live ho;exact⟨a1,a2.keepT hK (fun k hk c t fr e hm=>hS k hk c t fr e (List.mem_cons_of_mem _ hm)),a3,a4⟩⟩
theorem SOk.kp{base:Nat}{T T':Int}{w w':World}{A n:Nat}{q:SG}{ys:List YG}{L:List Nat}(h:SOk base T w A n q ys)(hK:Kp L w w')(hT:T≤T')(h1:q.St ∉ L)(h2:q.M ∉ L)(hS:Apt w L [102,263]):SOk base T' w' A n q ys:=
 ⟨h.bSt,h.bM,hK.heap h.hD (fun hm=>hS _ hm _ _ _ h.hD (by simp)),hK.heap h.hSt h1,hK.heap h.hV (fun hm=>hS _ hm _ _ _ h.hV (by simp)),h.sV,h.sM,h.po,h.rb,h.rs,h.bl,h.bg0,by have:=h.bg1;omega,h.rm.kp hK h2,by have:=h.nM;omega,h.bk⟩
theorem TOk.keep{base:Nat}{T T':Int}{w w':World}{g:TG}{L:List Nat}(h:TOk base T w g)(hK:Kp L w w')(hM:Muts base (qK7++qJ9) w L)(hL:∀ i∈L,i ∉ qM0 g)(hT:T≤T'):TOk base T' w' g:=by
 have hn:∀ i,i∈qM0 g→i ∉ L:=fun i hi hm=>hL i hm hi;refine⟨DOk.kp h.d hK hT (hn _ (qB0.2 (by simp))) (hn _ (qB0.2 (by simp))) (hn _ (qB0.2 (by simp))) (hM.apt (by decide)),Held.kp h.held hK (fun i hi=>hn i (qB0.2 (by simp[show g.d.li.ownBlock=some i from hi]))) (fun i hi=>hn i (qB0.2 (by simp[show g.d.wa.ownBlock=some i from hi]))) (hM.apt (by decide)),by have:=h.hlen;omega,fun x hx=>by have:=h.hps x hx;omega,qQ1 h.row hK (fun i hi=>hn i (qB0.2 (by simp[hi]))),by have:=h.ylen;omega,?_,h.tbs,h.xs⟩;rcases h.so with h0|⟨q,e1,e2,h3,h4⟩
 ·exact .inl h0
 ·refine .inr ⟨q,e1,e2,h3.kp hK hT (hn _ (qB0.2 (by simp[e1,qG4]))) (hn _ (qB0.2 (by simp[e1,qG4]))) (hM.apt (by decide)),fun y hy=>(h4 y hy).kp hK hT (hn _ (qB0.2 ?_)) (hn _ (qB0.2 ?_)) (hM.apt (by decide))⟩
  ·exact .inr (.inr (.inr (.inr (.inr (.inl (List.mem_map.2 ⟨y,hy,rfl⟩))))))
  ·exact .inr (.inr (.inr (.inr (.inr (.inr (List.mem_map.2 ⟨y,hy,rfl⟩))))))
theorem TOk.muts{base:Nat}{T:Int}{w:World}{g:TG}(h:TOk base T w g):Muts base qJ9 w (qM0 g):=by
 intro k hk;rcases qB0.1 hk with (rfl|rfl|rfl)|hk|hk|hk|hk|hk|hk
 ·exact⟨h.d.bB,_,h.d.hB,fun c t fr e=>by cases e;decide⟩
 ·exact⟨h.d.bA,_,h.d.hA,fun c t fr e=>by cases e;decide⟩
 ·exact⟨h.d.bC,_,h.d.hC,fun c t fr e=>by cases e;decide⟩
 ·obtain⟨h1,c,h2⟩:=qE5 h.row k (by simp[hk]);exact⟨h1,_,h2,fun c t fr e=>by cases e;decide⟩
 ·obtain⟨h1,c,h2⟩:=qE5 h.held.li k (by simp[qB2,hk]);exact⟨h1,_,h2,fun c t fr e=>by cases e;decide⟩
 ·obtain⟨h1,c,h2⟩:=qE5 h.held.wa k (by simp[qB2,hk]);exact⟨h1,_,h2,fun c t fr e=>by cases e;decide⟩
 ·rcases h.so with⟨_,e,_⟩|⟨q,e1,e2,h3,h4⟩
  ·rw[e] at hk;cases hk
  ·rw[e1] at hk;simp only[qG4,List.mem_cons,List.not_mem_nil,or_false] at hk;rcases hk with rfl|rfl
   ·exact⟨h3.bSt,_,h3.hSt,fun c t fr e=>by cases e;decide⟩
   ·obtain⟨es,c,h5⟩:=Gen.RM.obj h3.rm;exact⟨h3.bM,_,h5,fun c t fr e=>by cases e⟩
 ·obtain⟨y,hy,rfl⟩:=List.mem_map.1 hk;rcases h.so with⟨_,_,e⟩|⟨q,e1,e2,h3,h4⟩
  ·rw[e] at hy;cases hy
  ·exact⟨(h4 y hy).bT,_,(h4 y hy).hT,fun c t fr e=>by cases e;decide⟩
 ·obtain⟨y,hy,rfl⟩:=List.mem_map.1 hk;rcases h.so with⟨_,_,e⟩|⟨q,e1,e2,h3,h4⟩
  ·rw[e] at hy;cases hy
  ·exact⟨(h4 y hy).bX,_,(h4 y hy).hx,fun c t fr e=>by cases e;decide⟩
def qC7:DInv where
 G:=TG
 kf:=fun g=>qB2 g.d
 B:=fun g=>g.d.B
 tbs:=qB8
 tur:=qM0
 ok:=TOk
 kob_:=fun h=>h.d.hB
 row:=fun h=>PRow.of h.row
 tlen:=fun h=>by have:=h.ylen;simp only[qB8,List.length_map];exact this
 inB:=fun g=>qB0.2 (by simp)
 muts:=fun h=>h.muts
 keep:=fun h hK hM hL hT=>h.keep hK hM hL hT
 fresh:=fun base T w b A C m hb hA hC hT hm h1 h2 h3=>by
  have hd:Gen.DOk base T w ⟨b,A,C,m,List.replicate (m*128) 0,0,0,0,none,0,0,none,0,0,none,.slice none 0 0,.slice none 0 0,.slice none 0 0⟩:=⟨hb,hA,hC,h1,h2,h3,by simp,hm,by simp,by show (0:Int)≤6*T;omega,by simp,by show (0:Int)≤2*T;omega,by show ((0:Nat):Int)≤T;omega,World.ownsRow_nil _ _ _ _,World.ownsRow_nil _ _ _ _,.inl ⟨fun h8=>xF6 m h8,rfl,rfl⟩⟩;have hh:Held w base (qB2 ⟨b,A,C,m,List.replicate (m*128) 0,0,0,0,none,0,0,none,0,0,none,.slice none 0 0,.slice none 0 0,.slice none 0 0⟩) []:=⟨World.ownsRow_nil _ _ _ _,World.ownsRow_nil _ _ _ _,fun i hi=>(by cases hi),fun x hx=>(by cases hx)⟩;refine⟨⟨⟨b,A,C,m,List.replicate (m*128) 0,0,0,0,none,0,0,none,0,0,none,.slice none 0 0,.slice none 0 0,.slice none 0 0⟩,none,[],[]⟩,⟨hd,hh,by simpa using hT,fun x hx=>(by cases hx),World.ownsRow_nil _ _ _ _,by simpa using hT,.inl ⟨rfl,rfl,rfl⟩,List.nodup_nil,List.nodup_nil⟩,rfl,fun i hi=>?_⟩;rcases qB0.1 hi with h|h|h|h|h|h|h
  ·exact h
  ·cases h
  ·cases h
  ·cases h
  ·cases h
  ·cases h
  ·cases h
end Go.Proofs.YtdohpenfkdckiaaGreatDoor.Gw
namespace Go.Proofs.YtdohpenfkdckiaaGreatDoor.Gw
open Go.Proofs.Tryz
open Go.RowKit
theorem xO0(I:DInv)(base Wb:Nat)(T:Int)(ds:List I.G)(x y a b:Int)(s t:ByteArray)(w:World)(h:WOk I base T w Wb ds):
  Calls prog 78 #[.pointer (some ⟨Wb,0,none⟩),.agg #[.int .i64 2,.int .i64 x,.int .i64 y,.int .i64 a,.int .i64 b,.string s,.string t]] w fun e w'=>e=.returned (.bool true)∧(∃ ds',WOk I base (T+2) w' Wb ds')∧Below base w w':=by
 have h':=h;obtain⟨pk,nk,ck,xs,pd,cd,h1,h2,h3,h4⟩:=h.hW;have HH:=zh h';have hWs:=ζ h1;have hd1:=θ (.cells #[.int .i64 2,.int .i64 x,.int .i64 y,.int .i64 a,.int .i64 b,.string s,.string t] 66) h1;have k0:=ξ h1 0;simp only[qE2,zG,zH,zI] at k0;have f0:=υ h1 0;clear h h';go_enter func78,ntmps78;go_wp2;go_ret;have h:=HH.out;have hK:Kp [Wb] w ((w.setCell ⟨Wb,0,none⟩ (.slice none 0 0)).alloc (.cells #[.int .i64 2,.int .i64 x,.int .i64 y,.int .i64 a,.int .i64 b,.string s,.string t] 66)):=((Kp.refl _ _).sc _).alloc _;have hF:MutC base qK7 w [Wb]:=fun k hk=>by rw[List.mem_singleton.1 hk];exact⟨h.bW,_,_,_,h1,by decide⟩
 refine⟨rfl,⟨ds++[],h.turn hK hF (by omega) [] (by simp) (by simp) ⟨none,0,0,[],pd,cd,?_,World.ownsRow_nil _ _ _ _,by have:=h.len;simp;omega,?_⟩ (by have:=h.len;simp;omega)⟩,hK.below h.hbs (fun k hk=>(hF k hk).1)⟩
 ·rw[List.append_nil];exact θ _ (ν h1 0 _)
 ·rw[List.append_nil];exact qI5 h4 hK (fun k hk=>by rw[List.mem_singleton.1 hk];exact⟨_,_,_,h1,by decide⟩)
theorem WOk.more{I:DInv}{base:Nat}{T T':Int}{w w4 w5:World}{Wb:Nat}{ds:List I.G}(h:WOk I base T w Wb ds){pk:Option Addr}{nk ck:Nat}{xs:List Value}{pd:Option Addr}{cd:Nat}(h1:w.heap[Wb]?=some (qE2 pk nk ck pd ds.length cd))(h2:w.ownsRow base 3 1 (.slice pk nk ck) nk xs)(h3:(nk:Int)≤T)(h4:w.ownsRow base 119 1 (.slice pd ds.length cd) ds.length (qG1 I ds))
  (hK4:Kp [] w w4) (g:I.G) (hg:I.ok base T' w4 g) (hgM:∀ i∈I.tur g,w.heap.size≤i) (o:Obj) {g5 c5:Nat} (hrow5:w5.ownsRow base 119 1 (.slice (some ⟨g5,0,none⟩) (ds.length+1) c5) (ds.length+1) (qG1 I ds++[.pointer (some ⟨I.B g,0,none⟩)])) (hgr5:(w4.alloc o).grownBy w5 (Value.slice pd ds.length cd).ownBlock) (hT:T+2≤T'):
  WOk I base T' (w5.setCell ⟨Wb,1,none⟩ (.slice (some ⟨g5,0,none⟩) (ds.length+1) c5)) Wb (ds++[g])∧Below base w (w5.setCell ⟨Wb,1,none⟩ (.slice (some ⟨g5,0,none⟩) (ds.length+1) c5)):=by
 have hat:=qE5 h4;have hlt:=ζ h1;generalize hS:(Value.slice pd ds.length cd).ownBlock=r at *;have hWS:Wb ∉ r.toList:=fun hm=>by
  obtain⟨_,c,hc⟩:=hat _ hm;rw[h1] at hc;cases hc
 have hK5:Kp r.toList w w5:=((hK4.mono (S':=r.toList) (by simp)).alloc o).grown hgr5 (fun k hk=>Or.inl (by simp[hk]));have hW5:=hK5.heap h1 hWS;have hK:Kp (Wb::r.toList) w (w5.setCell ⟨Wb,1,none⟩ (.slice (some ⟨g5,0,none⟩) (ds.length+1) c5)):=(hK5.mono (S':=Wb::r.toList) (fun i hi _=>List.mem_cons_of_mem _ hi)).sc _;have hF:MutC base qK7 w (Wb::r.toList):=fun k hk=>by
  rcases List.mem_cons.1 hk with rfl|hk
  ·exact⟨h.bW,_,_,_,h1,by decide⟩
  ·obtain⟨hb,c,hc⟩:=hat _ hk;exact⟨hb,_,_,_,hc,by decide⟩
 have hKg:Kp (Wb::r.toList) w4 (w5.setCell ⟨Wb,1,none⟩ (.slice (some ⟨g5,0,none⟩) (ds.length+1) c5)):=(((Kp.refl _ _).alloc o).grown hgr5 (fun k hk=>Or.inl (by simp[hk]))).sc _;have hold:∀ k,w.heap.size≤k→k ∉ Wb::r.toList:=fun k hk hm=>by
  obtain⟨_,_,_,_,hc,_⟩:=hF k hm;have:=ζ hc;omega
 have hFm:∀ i∈Wb::r.toList,i ∉ I.tur g:=fun i hi hm=>hold _ (hgM i hm) hi;have hF4:Muts base (qK7++qJ9) w4 (Wb::r.toList):=fun k hk=>by
  obtain⟨h1,c,t,fr,h2,h3⟩:=hF k hk;exact⟨h1,_,hK4.hp h2,fun c' t' fr' e=>by cases e;exact List.mem_append_left _ h3⟩
 have hg':I.ok base T' (w5.setCell ⟨Wb,1,none⟩ (.slice (some ⟨g5,0,none⟩) (ds.length+1) c5)) g:=I.keep hg hKg hF4 hFm (Int.le_refl _);have hl:=h.len;refine⟨h.turn hK hF (by omega) [g] (fun x hx=>by rw[List.mem_singleton.1 hx];exact⟨hg',hgM⟩) (by simp) ⟨pk,nk,ck,xs,some ⟨g5,0,none⟩,c5,?_,qI5 h2 hK (fun k hk=>?_),by omega,?_⟩ (by simp;omega),hK.below h.hbs (fun k hk=>(hF k hk).1)⟩
 ·rw[List.length_append];exact ν hW5 1 _
 ·rcases List.mem_cons.1 hk with rfl|hk
  ·exact⟨_,_,_,h1,by decide⟩
  ·obtain⟨hb,c,hc⟩:=hat _ hk;exact⟨_,_,_,hc,by decide⟩
 ·have e:qG1 I (ds++[g])=qG1 I ds++[.pointer (some ⟨I.B g,0,none⟩)]:=by simp[qG1]
  rw[e,List.length_append];exact qI5 hrow5 (S:=[Wb]) ((Kp.refl _ _).sc _) (fun k hk=>by rw[List.mem_singleton.1 hk];exact⟨_,_,_,hW5,by decide⟩)
theorem xN7(I:DInv)(base Wb:Nat)(T:Int)(ds:List I.G)(x y a b:Int)(s t:ByteArray)(w:World)(h:WOk I base T w Wb ds)(hT:T≤50000):
  Calls prog 78 #[.pointer (some ⟨Wb,0,none⟩),.agg #[.int .i64 3,.int .i64 x,.int .i64 y,.int .i64 a,.int .i64 b,.string s,.string t]] w fun e w'=>e=.returned (.bool true)∧(∃ ds',WOk I base (T+2) w' Wb ds')∧Below base w w':=by
 have h':=h;obtain⟨pk,nk,ck,xs,pd,cd,h1,h2,h3,h4⟩:=h.hW;have HH:=zh h';have hWs:=ζ h1;obtain⟨m,hm,hblk,hnew⟩:=xA2 a;have HBL:=zh hblk;have HND:=zh hnew;clear h h' hblk hnew;go_enter func78,ntmps78
 go_wp2_with (go_at_call 122;refine (HBL.out _).mono ?_;rintro e w' ⟨rfl,rfl⟩)
 refine (HND.out _).mono ?_;rintro e w3 ⟨rfl,rfl⟩;have hsz:((w.alloc (.cells #[.int .i64 3,.int .i64 x,.int .i64 y,.int .i64 a,.int .i64 b,.string s,.string t] 66)).alloc (.cells #[.pointer none,.int .i64 m,.slice none 0 0,.bool false,.slice none 0 0,.bool false,.bool false,.pointer none,.slice none 0 0,.int .i64 0,.bool false,.slice none 0 0,.slice none 0 0,.slice none 0 0] 130)).heap.size=w.heap.size+2:=by simp
 rw[hsz];obtain⟨w3,hw3,hD3,hC3,hA3,hK3,hs3⟩:∃ w3,w3=((((w.alloc (.cells #[.int .i64 3,.int .i64 x,.int .i64 y,.int .i64 a,.int .i64 b,.string s,.string t] 66)).alloc (.cells #[.pointer none,.int .i64 m,.slice none 0 0,.bool false,.slice none 0 0,.bool false,.bool false,.pointer none,.slice none 0 0,.int .i64 0,.bool false,.slice none 0 0,.slice none 0 0,.slice none 0 0] 130)).alloc (.cells (enc (List.replicate (m*128) 0)) 115)).alloc (ι m (w.heap.size+2) (.slice none 0 0) 0 0))∧w3.heap[w.heap.size+1]?=some (.cells #[.pointer none,.int .i64 m,.slice none 0 0,.bool false,.slice none 0 0,.bool false,.bool false,.pointer none,.slice none 0 0,.int .i64 0,.bool false,.slice none 0 0,.slice none 0 0,.slice none 0 0] 130)∧w3.heap[w.heap.size+2]?=some (.cells (enc (List.replicate (m*128) 0)) 115)∧w3.heap[w.heap.size+3]?=some (ι m (w.heap.size+2) (.slice none 0 0) 0 0)∧Kp [] w w3∧w3.heap.size=w.heap.size+4:=by
  generalize Obj.cells #[.int .i64 3,.int .i64 x,.int .i64 y,.int .i64 a,.int .i64 b,.string s,.string t] 66=o1;generalize Obj.cells #[.pointer none,.int .i64 m,.slice none 0 0,.bool false,.slice none 0 0,.bool false,.bool false,.pointer none,.slice none 0 0,.int .i64 0,.bool false,.slice none 0 0,.slice none 0 0,.slice none 0 0] 130=o2;generalize Obj.cells (enc (List.replicate (m*128) 0)) 115=o3;generalize ι m (w.heap.size+2) (.slice none 0 0) 0 0=o4;refine⟨_,rfl,θ _ (θ _ ?_),θ _ ?_,?_,((((Kp.refl _ _).alloc _).alloc _).alloc _).alloc _,by simp⟩
  ·have e:=κ (w.alloc o1) o2;simpa using e
  ·have e:=κ ((w.alloc o1).alloc o2) o3;simpa using e
  ·have e:=κ (((w.alloc o1).alloc o2).alloc o3) o4;simpa using e
 rw[←hw3];clear hw3 hsz;have hW3:=hK3.hp h1;have h23:=qI5 h2 hK3 (Apart.nil _ _);have h43:=qI5 h4 hK3 (Apart.nil _ _);obtain⟨w4,hw4,hD4,hC4,hA4,hW4,hK4,hs4⟩:∃ w4,w4=w3.setCell ⟨w.heap.size+1,0,none⟩ (.pointer (some ⟨w.heap.size+3,0,none⟩))∧w4.heap[w.heap.size+1]?=some (kob ⟨w.heap.size+3,m,.slice none 0 0,false,.slice none 0 0,false,false,none,.slice none 0 0,0,false,.slice none 0 0,.slice none 0 0,.slice none 0 0⟩)∧w4.heap[w.heap.size+2]?=some (.cells (enc (List.replicate (m*128) 0)) 115)∧w4.heap[w.heap.size+3]?=some (ι m (w.heap.size+2) (.slice none 0 0) 0 0)∧w4.heap[Wb]?=some (qE2 pk nk ck pd ds.length cd)∧Kp [] w w4∧w4.heap.size=w.heap.size+4:=
  ⟨_,rfl,ν hD3 0 _,(qA0 (by omega) _ _).trans hC3,(qA0 (by omega) _ _).trans hA3,(qA0 (by omega) _ _).trans hW3,hK3.setCell (Or.inr (by simp)) _,by simp[World.setCell,hs3]⟩
 have h24:=qI5 h2 hK4 (Apart.nil _ _);have h44:=qI5 h4 hK4 (Apart.nil _ _);have hl:=HH.out.len;have hbs:=HH.out.hbs;obtain⟨v5,w5,hr5,hrow5,hgr5⟩:=zN4 (w4.alloc (.cells #[.pointer (some ⟨w.heap.size+1,0,none⟩)] 119)) base w4.heap.size (.slice pd ds.length cd) ds.length (qG1 I ds) (.pointer (some ⟨w.heap.size+1,0,none⟩)) 68 119 68 (.pointer none) underlying68 xH7 rfl (h44.alloc _) (by omega) (κ _ _) rfl (by simp;omega);obtain⟨g5,c5,rfl⟩:=qL1 hrow5;have hgr:=zh hgr5;have hrw:=zh hrow5;have hW5:w5.heap[Wb]?=some (qE2 pk nk ck pd ds.length cd):=by
  have hat:=qE5 h44;refine Kp.heap (S:=(Value.slice pd ds.length cd).ownBlock.toList) (((Kp.refl _ w4).alloc _).grown hgr5 (fun k hk=>Or.inl (by simp[hk]))) hW4 (fun hm=>?_);obtain⟨_,c,hc⟩:=hat _ hm;rw[hW4] at hc;cases hc
 have HDOk:Hid (∃ g,I.ok base (T+2) w4 g∧I.B g=w.heap.size+1∧∀ i∈I.tur g,w.heap.size≤i):=by
  have hT0:=HH.out.len;obtain⟨g,q1,q2,q3⟩:=I.fresh base (T+2) w4 (w.heap.size+1) (w.heap.size+3) (w.heap.size+2) m (by omega) (by omega) (by omega) (by omega) hm hD4 hA4 hC4;exact⟨g,q1,q2,fun i hi=>by rcases q3 i hi with h | h | h<;>omega⟩
 have HK4:=zh hK4;have d0:=ξ hD3 0;simp only[zG,zH,zI] at d0;have fd0:=υ hD3 0;have u1:=ξ hW4 1;simp only[qE2,zG,zH,zI] at u1;have v1:=ξ hW5 1;simp only[qE2,zG,zH,zI] at v1;have fv1:=υ hW5 1;have HW4:=zh hw4;have hz4:w4.heap.size=w3.heap.size:=by rw[hs4,hs3]
 rw[hz4] at hr5;rw[hw4] at hr5 u1;clear hz4;have H1:Hid (w.heap[Wb]?=some (qE2 pk nk ck pd ds.length cd)∧w.ownsRow base 3 1 (.slice pk nk ck) nk xs∧(nk:Int)≤T∧w.ownsRow base 119 1 (.slice pd ds.length cd) ds.length (qG1 I ds)):=⟨h1,h2,h3,h4⟩;clear hrow5 hgr5 hw4 hs3 hs4 hK3 hK4 hD3 hC3 hA3 hW3 h23 h43 hD4 hC4 hA4 hW4 h24 h44 h1 h2 h3 h4 hW5
 go_wp2_with (at_builtin;((with_reducible refine qQ2 ?_ ?_ hr5 ?_);rfl;rfl))
 go_ret;obtain⟨h1,h2,h3,h4⟩:=H1.out;obtain⟨gn,g1,g2,g3⟩:=HDOk.out;have hrw':=hrw.out;rw[←g2] at hrw';obtain⟨q1,q2⟩:=HH.out.more h1 h2 h3 h4 HK4.out gn g1 g3 _ hrw' hgr.out (Int.le_refl _);exact⟨rfl,⟨_,q1⟩,q2⟩
theorem WOk.grew{I:DInv}{base:Nat}{T T':Int}{w w4 w5:World}{Wb:Nat}{ds:List I.G}(h:WOk I base T w Wb ds){pk:Option Addr}{nk ck:Nat}{xs ys:List Value}{pd:Option Addr}{cd:Nat}(h1:w.heap[Wb]?=some (qE2 pk nk ck pd ds.length cd))(h2:w.ownsRow base 3 1 (.slice pk nk ck) nk xs)(h3:(nk:Int)≤T)(h4:w.ownsRow base 119 1 (.slice pd ds.length cd) ds.length (qG1 I ds))
  (hK4:Kp [] w w4) (o:Obj) {g5 c5:Nat} (hrow5:w5.ownsRow base 3 1 (.slice (some ⟨g5,0,none⟩) (nk+1) c5) (nk+1) ys) (hgr5:(w4.alloc o).grownBy w5 (Value.slice pk nk ck).ownBlock) (hT:T+2≤T'):
  WOk I base T' (w5.setCell ⟨Wb,0,none⟩ (.slice (some ⟨g5,0,none⟩) (nk+1) c5)) Wb (ds++[])∧Below base w (w5.setCell ⟨Wb,0,none⟩ (.slice (some ⟨g5,0,none⟩) (nk+1) c5)):=by
 have hat:=qE5 h2;have hlt:=ζ h1;generalize hS:(Value.slice pk nk ck).ownBlock=r at *;have hWS:Wb ∉ r.toList:=fun hm=>by
  obtain⟨_,c,hc⟩:=hat _ hm;rw[h1] at hc;cases hc
 have hK5:Kp r.toList w w5:=((hK4.mono (S':=r.toList) (by simp)).alloc o).grown hgr5 (fun k hk=>Or.inl (by simp[hk]));have hW5:=hK5.heap h1 hWS;have hK:Kp (Wb::r.toList) w (w5.setCell ⟨Wb,0,none⟩ (.slice (some ⟨g5,0,none⟩) (nk+1) c5)):=(hK5.mono (S':=Wb::r.toList) (fun i hi _=>List.mem_cons_of_mem _ hi)).sc _;have hF:MutC base qK7 w (Wb::r.toList):=fun k hk=>by
  rcases List.mem_cons.1 hk with rfl|hk
  ·exact⟨h.bW,_,_,_,h1,by decide⟩
  ·obtain⟨hb,c,hc⟩:=hat _ hk;exact⟨hb,_,_,_,hc,by decide⟩
 have hl:=h.len;refine⟨h.turn hK hF (by omega) [] (by simp) (by simp) ⟨some ⟨g5,0,none⟩,nk+1,c5,ys,pd,cd,?_,?_,by omega,?_⟩ (by simp;omega),hK.below h.hbs (fun k hk=>(hF k hk).1)⟩
 ·rw[List.append_nil];exact ν hW5 0 _
 ·exact qI5 hrow5 (S:=[Wb]) ((Kp.refl _ _).sc _) (fun k hk=>by rw[List.mem_singleton.1 hk];exact⟨_,_,_,hW5,by decide⟩)
 ·rw[List.append_nil];exact qI5 h4 hK (fun k hk=>by
   rcases List.mem_cons.1 hk with rfl|hk
   ·exact⟨_,_,_,h1,by decide⟩
   ·obtain⟨hb,c,hc⟩:=hat _ hk;exact⟨_,_,_,hc,by decide⟩)
theorem xN8(I:DInv)(base Wb:Nat)(T:Int)(ds:List I.G)(x y a b:Int)(s t:ByteArray)(w:World)(h:WOk I base T w Wb ds)(hT:T≤50000):
  Calls prog 78 #[.pointer (some ⟨Wb,0,none⟩),.agg #[.int .i64 1,.int .i64 x,.int .i64 y,.int .i64 a,.int .i64 b,.string s,.string t]] w fun e w'=>e=.returned (.bool true)∧(∃ ds',WOk I base (T+2) w' Wb ds')∧Below base w w':=by
 have h':=h;obtain⟨pk,nk,ck,xs,pd,cd,h1,h2,h3,h4⟩:=h.hW;have HH:=zh h';have hWs:=ζ h1;have hbs:=h.hbs;have H1:Hid (w.heap[Wb]?=some (qE2 pk nk ck pd ds.length cd)∧w.ownsRow base 3 1 (.slice pk nk ck) nk xs∧(nk:Int)≤T∧w.ownsRow base 119 1 (.slice pd ds.length cd) ds.length (qG1 I ds)):=⟨h1,h2,h3,h4⟩;clear h h';go_enter func78,ntmps78;go_wp2_with fail;obtain⟨W1,hW1,hO1,hWb1,hK1⟩:∃ W1,W1=w.alloc (.cells #[.int .i64 1,.int .i64 x,.int .i64 y,.int .i64 a,.int .i64 b,.string s,.string t] 66)∧W1.heap[w.heap.size]?=some (.cells #[.int .i64 1,.int .i64 x,.int .i64 y,.int .i64 a,.int .i64 b,.string s,.string t] 66)∧W1.heap[Wb]?=some (qE2 pk nk ck pd ds.length cd)∧Kp [] w W1:=⟨_,rfl,κ _ _,θ _ h1,(Kp.refl _ _).alloc _⟩;rw[←hW1];clear hW1;have h2d:W1.drew.ownsRow base 3 1 (.slice pk nk ck) nk xs:=qI5 h2 hK1.drew (Apart.nil _ _);have hs1:=hK1.size;obtain⟨v5,w5,hr5,hrow5,hgr5⟩:=zN4 (W1.drew.alloc (.cells #[.int .i64 a] 3)) base W1.drew.heap.size (.slice pk nk ck) nk xs (.int .i64 a) 24 3 24 (.int .i64 0) underlying24 qT8 rfl (h2d.alloc _) (by omega) (κ _ _) rfl (by simp;omega);obtain⟨g5,c5,rfl⟩:=qL1 hrow5;have hW5:w5.heap[Wb]?=some (qE2 pk nk ck pd ds.length cd):=by
  have hat:=qE5 h2d;refine Kp.heap (S:=(Value.slice pk nk ck).ownBlock.toList) (((Kp.refl _ W1.drew).alloc _).grown hgr5 (fun k hk=>Or.inl (by simp[hk]))) hWb1 (fun hm=>?_);obtain⟨_,c,hc⟩:=hat _ hm;rw[show W1.drew.heap[Wb]?=W1.heap[Wb]? from rfl,hWb1] at hc;cases hc
 have HG:=zh hgr5;have HR:=zh hrow5;have HK:=zh hK1;have k0:=ξ hWb1 0;simp only[qE2,zG,zH,zI] at k0;have o3:=ξ hO1 3;simp only[zG,zH,zI] at o3;have v0:=ξ hW5 0;simp only[qE2,zG,zH,zI] at v0;have fv0:=υ hW5 0;have hWs1:=ζ hWb1;have hOs1:=ζ hO1;clear hrow5 hgr5 hK1 hW5 h1 h2 h3 h4 h2d hs1 hWb1 hO1;refine wp_region_any (by kernel_rfl) ?_;change wpAny _ _ _ _ _ _ _ (World.drew _);refine zu 0 (.pointer (some ⟨Wb,0,none⟩)) ?_;refine zu 1 (.pointer (some ⟨Wb,0,none⟩)) ?_;refine zu 2 (.pointer (some ⟨Wb,0,none⟩)) ?_;refine zu 3 (.pointer (some ⟨Wb,0,none⟩)) ?_;refine zu 5 (.pointer (some ⟨w.heap.size,3,none⟩)) ?_;refine wpAny_ready (rs:=[4,6]) (by kernel_rfl) (by simp) ?_;refine AllReady.cons rfl (fun K hK=>?_) (AllReady.cons rfl (fun K hK=>?_) AllReady.nil)
 ·go_simp;refine hK _ _ ?_;clear hK K
  try simp only[zZ]
  refine zQ 6 fun K hK=>?_;go_simp;refine hK _ _ ?_;clear hK K
  try simp only[zZ]
  refine zQ 7 fun K hK=>?_;refine qF4 rfl (qO5 rfl (.int .i64 a) _ _ _ underlying24 qT8 rfl rfl (by decide) (by decide)) ?_;refine hK _ _ ?_;clear hK K
  try simp only[zZ]
  refine zQ 8 fun K hK=>?_;refine qF4 rfl (qY8 rfl rfl rfl hr5) ?_;refine hK _ _ ?_;clear hK K
  try simp only[zZ]
  refine zu 9 (.pointer (some ⟨Wb,0,none⟩)) ?_;refine zu 10 (.pointer (some ⟨Wb,0,none⟩)) ?_;refine zQ 11 fun K hK=>?_;go_simp;refine hK _ _ ?_;clear hK K;refine wpAny_done (by kernel_rfl) ?_ _;go_wp2;go_ret;obtain⟨h1,h2,h3,h4⟩:=H1.out;obtain⟨q1,q2⟩:=HH.out.grew h1 h2 h3 h4 HK.out.drew _ HR.out HG.out (Int.le_refl _);exact⟨rfl,⟨_,q1⟩,q2⟩
 ·go_simp;refine hK _ _ ?_;clear hK K
  try simp only[zZ]
  refine wpAny_ready (rs:=[4,7]) (by kernel_rfl) (by simp) ?_;refine AllReady.cons rfl (fun K hK=>?_) (AllReady.cons rfl (fun K hK=>?_) AllReady.nil)
  ·go_simp;refine hK _ _ ?_;clear hK K
   try simp only[zZ]
   refine zQ 7 fun K hK=>?_;refine qF4 rfl (qO5 rfl (.int .i64 a) _ _ _ underlying24 qT8 rfl rfl (by decide) (by decide)) ?_;refine hK _ _ ?_;clear hK K
   try simp only[zZ]
   refine zQ 8 fun K hK=>?_;refine qF4 rfl (qY8 rfl rfl rfl hr5) ?_;refine hK _ _ ?_;clear hK K
   try simp only[zZ]
   refine zu 9 (.pointer (some ⟨Wb,0,none⟩)) ?_;refine zu 10 (.pointer (some ⟨Wb,0,none⟩)) ?_;refine zQ 11 fun K hK=>?_;go_simp;refine hK _ _ ?_;clear hK K;refine wpAny_done (by kernel_rfl) ?_ _;go_wp2;go_ret;obtain⟨h1,h2,h3,h4⟩:=H1.out;obtain⟨q1,q2⟩:=HH.out.grew h1 h2 h3 h4 HK.out.drew _ HR.out HG.out (Int.le_refl _);exact⟨rfl,⟨_,q1⟩,q2⟩
  ·refine qF4 rfl (qO5 rfl (.int .i64 a) _ _ _ underlying24 qT8 rfl rfl (by decide) (by decide)) ?_;refine hK _ _ ?_;clear hK K
   try simp only[zZ]
   refine zQ 4 fun K hK=>?_;go_simp;refine hK _ _ ?_;clear hK K
   try simp only[zZ]
   refine zQ 8 fun K hK=>?_;refine qF4 rfl (qY8 rfl rfl rfl hr5) ?_;refine hK _ _ ?_;clear hK K
   try simp only[zZ]
   refine zu 9 (.pointer (some ⟨Wb,0,none⟩)) ?_;refine zu 10 (.pointer (some ⟨Wb,0,none⟩)) ?_;refine zQ 11 fun K hK=>?_;go_simp;refine hK _ _ ?_;clear hK K;refine wpAny_done (by kernel_rfl) ?_ _;go_wp2;go_ret;obtain⟨h1,h2,h3,h4⟩:=H1.out;obtain⟨q1,q2⟩:=HH.out.grew h1 h2 h3 h4 HK.out.drew _ HR.out HG.out (Int.le_refl _);exact⟨rfl,⟨_,q1⟩,q2⟩
def qW8(I:DInv)(ks:List Int):Prop:=∀ (base Wb:Nat) (T:Int) (ds:List I.G) (o:SOp) (w:World),WOk I base T w Wb ds→Fit ks o→0≤T→T≤40000→
 Calls prog 40 #[.pointer (some ⟨Wb,0,none⟩),.agg #[.int .i64 o.k,.int .i64 o.x,.int .i64 o.y,.int .i64 o.a,.int .i64 o.b,.string o.s,.string o.t]] w fun e w'=>e=.returned (.bool true)∧(∃ ds',WOk I base (T+2) w' Wb ds')∧Below base w w'
theorem xZ8(I:DInv)(ks:List Int)(ST:qW8 I ks)(p:Option Addr)(n cap:Nat)(f:Nat→SOp)(w:World)(hn:n≤16384)(h0:0<w.heap.size)(hg:w.cell? ⟨0,0,none⟩=some qC1)(hS:Script w p n f)(hf:∀ i,i<n→Fit ks (f i)):
  Calls prog 17 #[.slice p n cap] w fun e w'=>e=.returned (.int .i64 (-1))∧Kp [] w w':=by
 have HS:=zh hS;have HF:=zh hf;have hK0:Kp [] w (w.alloc (qE2 none 0 0 none 0 0)):=(Kp.refl _ _).alloc _;have HW:Hid (WOk I w.heap.size 0 (w.alloc (qE2 none 0 0 none 0 0)) w.heap.size []):=by
  exact⟨h0,by simp,(hK0.cell (a:=⟨0,0,none⟩) h0 (by simp)).trans hg,Nat.le_refl _,⟨none,0,0,[],none,0,κ _ _,World.ownsRow_nil _ _ _ _,by simp,World.ownsRow_nil _ _ _ _⟩,by simp,by simp,List.Pairwise.nil⟩
 have HB:Hid (Below w.heap.size w (w.alloc (qE2 none 0 0 none 0 0))):=hK0.below (Nat.le_refl _) (by simp);clear hS hf h0 hg hK0;go_enter func17,ntmps17;go_wp2
 go_loopw [4] (fun i wr=>∃ (j:Nat) (ds:List I.G),j≤n∧i=.int .i64 j∧WOk I w.heap.size (2*j) wr w.heap.size ds∧Below w.heap.size w wr) (fun i _=>n-(intOf i).toNat)
 case atStart=>exact⟨0,[],Nat.zero_le _,rfl,HW.out,HB.out⟩
 case round=>
  obtain⟨j,ds,hj,rfl,hW,hB⟩:=hrel;have HW1:=zh hW;have HB1:=zh hB;clear hW hB;by_cases hlt:j<n
  ·obtain⟨blk,off,rfl,hblk,hcell⟩:=(HS.out.keep (Kp.of_below HB1.out (Nat.le_refl _))) (by omega);have c0:=hcell j hlt 0 (by decide);have c1:=hcell j hlt 1 (by decide);have c2:=hcell j hlt 2 (by decide);have c3:=hcell j hlt 3 (by decide);have c4:=hcell j hlt 4 (by decide);have c5:=hcell j hlt 5 (by decide);have c6:=hcell j hlt 6 (by decide);simp only[SOp.cells,zH,zI,Nat.add_zero] at c0 c1 c2 c3 c4 c5 c6;have hjb:(j:Int)<(n:Int):=by omega
   clear hcell;go_wp2_with fail;refine (ST w.heap.size w.heap.size (2*j) ds (f j) wr HW1.out (HF.out j hlt) (by omega) (by omega)).mono ?_;rintro e w2 ⟨rfl,⟨ds',hW2⟩,hB2⟩;have HW2:=zh hW2;have HB2:=zh hB2;clear hW2 hB2;go_wp2;exact⟨⟨j+1,ds',by omega,by go_num,by have h:=HW2.out;rw[show ((2*j+2:Int))=2*((j+1:Nat):Int) by omega] at h;exact h,HB1.out.trans HB2.out⟩,by simp[intOf];omega⟩
  ·have hjb:¬(j:Int)<(n:Int):=by omega
   go_wp2;go_ret;exact⟨rfl,Kp.of_below HB1.out (Nat.le_refl _)⟩
end Go.Proofs.YtdohpenfkdckiaaGreatDoor.Gw
