import Derived.Test.YtdohpenfkdckiaaGreatDoorO08
set_option linter.all false
set_option maxRecDepth 100000
set_option maxHeartbeats 20000000
namespace Go.Proofs.YtdohpenfkdckiaaGreatDoor
open Go.Proofs.Tryz
open Go.RowKit
def O0:qE2:=fun _ _ _ _=>False
def E0(V:Nat):SEnv where
 O:=O0
 V:=V
 S:=[]
 Dev:=fun _=>True
 keep:=fun _ _ _ _ _ _=>trivial
 apt:=fun _ _ k hk=>by cases hk
 low:=fun _ _ k hk=>by cases hk
 pos:=fun _ _ _ _ h=>h.elim
 lvl:=fun _ _ _ _ h=>h.elim
 read:=fun n h r l a w _ hr hp _=>by
  have h2:=hr.2
  cases hl:l.ref with
  | none=>
   rw[hl] at h2;obtain⟨_,_,q,h3,_⟩:=h2;rw[hp] at h3;cases h3
  | some x=>
   rw[hl] at h2;exact h2.2.2.2.elim
 keepX:=fun _ _ _ _ _ _=>trivial
 offS:=fun _ _ k hk=>by cases hk
theorem zP2(p:Option Addr)(c:Nat)(w:World):Calls prog 189 #[.slice p 0 c] w fun e w'=>e=.returned (.slice none 0 0)∧w'=w:=by
 go_enter func189,ntmps189;go_wp2_with fail;refine wp_loop_rounds 1 ?_;rw[rounds_succ];go_wp2;go_ret;exact⟨rfl,rfl⟩
theorem RGood.none:RGood .none:=by simp[RGood]
theorem RM.obj{w:World}{V M n:Nat}{D:DataW Unit}(h:RM w V M n D):∃ es c,w.heap[M]?=some (.map es c):=by
 obtain⟨es,c,h1,_⟩:=h;exact⟨es,c,h1⟩
theorem APM{w:World}{St M:Nat}{s:Sto}(S:List Nat)(T:TypeId)(hT:T≠169)(hSt:w.heap[St]?=some (ν 0 s))(hM:w.heap[M]?=some (.map #[] 0)):∀ k c t fr,w.heap[k]?=some (.cells c t fr)→k∈[St,M]→t≠T:=by
 intro k c t fr h hk;simp only[List.mem_cons,List.not_mem_nil,or_false] at hk;rcases hk with rfl|rfl
 ·rw[hSt] at h;cases h;exact fun e=>hT e.symm
 ·rw[hM] at h;cases h
theorem zE3(base:Nat)(T:Int)(w:World)(g:DG)(h:DOk base T w g)(Db St V M A':Nat)(N:Int)(hD:w.heap[Db]?=some (.cells #[.pointer (some ⟨St,0,none⟩)] 102))(hSt:w.heap[St]?=some (ν 0 (qE0 V M N)))(hV:w.heap[V]?=some (qA8 A' g.n))(hM:w.heap[M]?=some (.map #[] 0))(hT0:0≤T)(hT1:T≤50000)(hf:Formatted g.l g.N)(hbs:base≤w.heap.size):
  Calls prog 131 #[.pointer (some ⟨g.B,0,none⟩),.pointer (some ⟨Db,0,none⟩)] w fun e w'=>e=.returned (.bool true)∧(∃ g',DOk base (T+1) w' g'∧g'.B=g.B∧g'.A=g.A∧g'.C=g.C)∧Kp [g.B,St,M] w w':=by
 obtain⟨B,A,C,n,l,calls,writes,N',pm,m,cm,pw,k,cw,x⟩:=g;obtain⟨bB,bA,bC,hB,hA,hC,len,n1000,calls0,calls1,writes0,writes1,kT,may,were,st⟩:=h;simp only at *;have HBA:Hid (B≠A):=qB1 hB hA (by decide);have HBC:Hid (B≠C):=qB1 hB hC (by decide);have HSB:Hid (St≠B):=qB1 hSt hB (by decide);have HSA:Hid (St≠A):=qB1 hSt hA (by decide);have HSC:Hid (St≠C):=qB1 hSt hC (by decide);have HSD:Hid (St≠Db):=qB1 hSt hD (by decide);have hst:N'≤2*T∧m=1∧cm=1∧∃ gm,pm=some ⟨gm,0,none⟩:=by
  rcases st with⟨_,_,h2⟩|⟨_,h⟩
  ·have:=hf.low;omega
  ·exact h
 obtain⟨hN',rfl,rfl,gm,rfl⟩:=hst;have HF:=zh hf;have HMB:Hid (M≠B):=fun e=>by subst e;rw[hM] at hB;cases hB
 have HMA:Hid (M≠A):=fun e=>by subst e;rw[hM] at hA;cases hA
 have HMC:Hid (M≠C):=fun e=>by subst e;rw[hM] at hC;cases hC
 have HMS:Hid (M≠St):=fun e=>by subst e;rw[hM] at hSt;cases hSt
 have HMV:Hid (M≠V):=fun e=>by subst e;rw[hM] at hV;cases hV
 have HMD:Hid (Db≠M):=fun e=>by subst e;rw[hM] at hD;cases hD
 have HSV:Hid (St≠V):=qB1 hSt hV (by decide);clear st hf;have hBs:=ζ hB;have k0:=ξ hB 0;simp only[ι,zG,zH,zI] at k0;go_enter func131,ntmps131;go_wp2_with fail;refine (qM3 A n C _ calls writes w hA).mono ?_;rintro e w ⟨rfl,rfl⟩;go_wp2_with fail;refine (qX8 Db St 0 (qE0 V M N) (.map []) _ hD hSt (Go.Joins.ownsMap_empty hM) rfl HSD.out.symm HMS.out HMD.out (ζ hM) (by decide) (by decide) (by show (0:Int)≤0;decide) (by show (0:Int)≤100000000;decide)).mono ?_;rintro e w1 ⟨t,rfl,ht,ht1,hSt1,hR1,hK1⟩;have hB1:=hK1.heap hB (by simp;exact⟨fun e=>HSB.out e.symm,fun e=>HMB.out e.symm⟩);have hA1:=hK1.heap hA (by simp;exact⟨fun e=>HSA.out e.symm,fun e=>HMA.out e.symm⟩);have hC1:=hK1.heap hC (by simp;exact⟨fun e=>HSC.out e.symm,fun e=>HMC.out e.symm⟩);have hV1:=hK1.heap hV (by simp;exact⟨fun e=>HSV.out e.symm,fun e=>HMV.out e.symm⟩);have may1:=may.kp hK1 (APM [] _ (by decide) hSt hM);have were1:=were.kp hK1 (APM [] _ (by decide) hSt hM);have HTS:Hid (t≠St):=by have:=ζ hSt;show t≠St;omega
 have HTM:Hid (t≠M):=by have:=ζ hM;show t≠M;omega
 have HTW:=zh ht;clear ht;have hsz1:=hK1.size;have HMW:Hid (M<w1.heap.size):=by have:=ζ hM;show M<w1.heap.size;omega
 clear hB hA hC may were hSt hD k0 hV hM
 go_wp2_with (go_at_call 24;refine (qI6 _).mono ?_;rintro e w1 ⟨rfl,rfl⟩)
 go_wp2_with (go_at_call 127;refine (qE9 _ _).mono ?_;rintro e w1 ⟨rfl,rfl⟩)
 have hL1:LiveT (E0 V) w1 t A' n ⟨St,0+1,false,false,some ⟨V,0,none⟩,⟨⟨#[]⟩,0,0,none⟩,0⟩ (qE0 V M N).read .none:=
  ⟨ht1,rfl,rfl,hSt1,rfl,rfl,hV1,by omega,by show (0:Int)≤0;decide,by show (0:Int)≤1000;decide,trivial,by show V ∉ [];simp,rfl,RGood.none,by decide,by show (0:Int)≤0;decide,by show (0:Int)≤100000000;decide⟩
 refine (zR2 (E0 V) t A' n _ _ .none _ _ _ w1 hL1 (by decide) (by decide)).mono ?_;clear hL1;rintro e w2 ⟨v,rfl,hv,-,hSt2,hK2⟩;obtain⟨vb,vc,rfl⟩:∃ vb vc,v=.slice vb 0 vc:=hv.form;clear hv;have hK2:Kp [St] w1 w2:=hK2;have hB2:=hK2.heap hB1 (by simp;exact fun e=>HSB.out e.symm);have hA2:=hK2.heap hA1 (by simp;exact fun e=>HSA.out e.symm);have hC2:=hK2.heap hC1 (by simp;exact fun e=>HSC.out e.symm);have ht2:=hK2.heap ht1 (by simp;exact HTS.out);have hR2:=hR1.kp hK2 (by simp;exact HMS.out);have hap1:Apart w1 [St] 126:=fun k hk=>by rw[List.mem_singleton.1 hk];exact⟨_,_,_,hSt1,by decide⟩
 have may2:=may1.keep hK2 hap1;have were2:=were1.keep hK2 hap1;have hK2':Kp [St,M] w w2:=hK1.trans hK2 (by simp +contextual);have hsz2:=hK2.size;clear hB1 hA1 hC1 may1 were1 hSt1 hap1 hK1 hK2 ht1 hR1 hV1
 go_wp2_with (go_at_call 24;refine (qI6 _).mono ?_;rintro e w2 ⟨rfl,rfl⟩)
 go_wp2_with (go_at_call 127;refine (qE9 _ _).mono ?_;rintro e w2 ⟨rfl,rfl⟩)
 refine (qT9 t _ _ _ _ w2 ht2 rfl hSt2 rfl hR2 (by show (0:Int)≤0+1;decide) (by show (0:Int)+1≤1000000000;decide) HMS.out HTS.out HTM.out (by have:=HMW.out;show M<_;omega)).mono ?_;rintro e w3 ⟨rfl,-,-,-,hK3⟩;have hK3:Kp [St,t,M] w2 w3:=hK3;have HTB:Hid (B≠t):=qB1 hB2 ht2 (by decide);have HTA:Hid (A≠t):=qB1 hA2 ht2 (by decide);have HTC:Hid (C≠t):=qB1 hC2 ht2 (by decide);have hB3:=hK3.heap hB2 (by simp;exact⟨fun e=>HSB.out e.symm,HTB.out,fun e=>HMB.out e.symm⟩);have hA3:=hK3.heap hA2 (by simp;exact⟨fun e=>HSA.out e.symm,HTA.out,fun e=>HMA.out e.symm⟩);have hC3:=hK3.heap hC2 (by simp;exact⟨fun e=>HSC.out e.symm,HTC.out,fun e=>HMC.out e.symm⟩);have hap2:∀ k c u fr,w2.heap[k]?=some (.cells c u fr)→k∈[St,t,M]→u≠126:=by
  intro k c u fr h hk;simp only[List.mem_cons,List.not_mem_nil,or_false] at hk;rcases hk with rfl|rfl|rfl
  ·have h':=hSt2;rw[h] at h';cases h';decide
  ·rw[ht2] at h;cases h;decide
  ·obtain⟨es,c',h'⟩:=RM.obj hR2;exact absurd (h.symm.trans h') (by intro e;cases e)
 have may3:=may2.kp hK3 hap2;have were3:=were2.kp hK3 hap2;have hK3':Kp [B,St,M] w w3:=(hK2'.mono (S':=[B,St,M]) (by simp +contextual)).trans hK3 (by intro i hi hlt;have:=HTW.out;simp at hi;simp;omega);clear hB2 hA2 hC2 may2 were2 hSt2 hap2 hK2' hK3 ht2 hR2;have k0:=ξ hB3 0;have k1:=ξ hB3 1;have k2:=ξ hB3 2;have k3:=ξ hB3 3;have k4:=ξ hB3 4;have k5:=ξ hB3 5;have k6:=ξ hB3 6;simp only[ι,zG,zH,zI] at k0 k1 k2 k3 k4 k5 k6;go_wp2_with fail;refine (zP2 _ _ _).mono ?_;rintro e w3 ⟨rfl,rfl⟩;go_wp2_with fail;refine (zF2 base gm _ _ _ _ _ w3 may3).mono ?_;rintro e w4 ⟨rfl,hK4⟩;have hB4:=hK4.hp hB3;have hA4:=hK4.hp hA3;have hC4:=hK4.hp hC3;have may4:=may3.keep hK4 (by intro k h;simp at h);have were4:=were3.keep hK4 (by intro k h;simp at h);have hK4':Kp [B,St,M] w w4:=hK3'.tr hK4;clear hB3 hA3 hC3 may3 were3 hK3' hK4 k0 k1 k2 k3 k4 k5 k6;have k0:=ξ hB4 0;have k1:=ξ hB4 1;have k2:=ξ hB4 2;have k3:=ξ hB4 3;have k4:=ξ hB4 4;have k5:=ξ hB4 5;have k6:=ξ hB4 6;have k8:=ξ hB4 8;simp only[ι,zG,zH,zI] at k0 k1 k2 k3 k4 k5 k6 k8;have f8:=τ hB4 8;go_wp2_with fail;obtain⟨w5,hw5,hB5,hK5⟩:∃ w5,w5=w4.setCell ⟨B,8,none⟩ (.slice none 0 0)∧w5.heap[B]?=some (ι A n (.slice (some ⟨gm,0,none⟩) 1 1) (.slice pw k cw) x)∧Kp [B] w4 w5:=⟨_,rfl,θ hB4 8 _,(Kp.refl _ _).sc _⟩;rw[←hw5];clear hw5;have hA5:=hK5.heap hA4 (by simp;exact fun e=>HBA.out e.symm);have hC5:=hK5.heap hC4 (by simp;exact fun e=>HBC.out e.symm);have hap4:Apart w4 [B] 126:=fun k hk=>by rw[List.mem_singleton.1 hk];exact⟨_,_,_,hB4,by decide⟩
 have may5:=may4.keep hK5 hap4;have were5:=were4.keep hK5 hap4;have hK5':Kp [B,St,M] w w5:=hK4'.trans hK5 (by simp +contextual);clear hB4 hA4 hC4 may4 were4 hK4' hK5 k0 k1 k2 k3 k4 k5 k6 k8 f8 hap4;refine wp_region_any (by kernel_rfl) ?_;change wpAny _ _ _ _ _ _ _ (World.drew _);refine zu 0 (.pointer (some ⟨B,0,none⟩)) ?_;refine zu 1 (.pointer (some ⟨B,0,none⟩)) ?_;refine zu 2 (.pointer (some ⟨B,0,none⟩)) ?_;refine zu 3 (.pointer (some ⟨B,1,none⟩)) ?_;refine zu 5 (.pointer (some ⟨B,0,none⟩)) ?_;refine zu 6 (.pointer (some ⟨B,0,none⟩)) ?_;refine zu 7 (.pointer (some ⟨B,8,none⟩)) ?_;refine wpAny_ready (rs:=[4,8]) (by kernel_rfl) (by simp) ?_;refine AllReady.cons rfl (fun K hK=>?_) (AllReady.cons rfl (fun K hK=>?_) AllReady.nil)
 ·refine qA0 rfl (qE8 (t:=123) rfl (by kernel_rfl) 6 (by kernel_rfl) B 1 rfl (show w5.drew.heap[B]?=_ from hB5) (by simp) (show _=#[.int .i64 n,.slice (some ⟨gm,0,none⟩) 1 1,.bool false,.slice pw k cw,.bool false,.bool false] from rfl)) ?_;refine hK _ _ ?_;clear hK K
  try simp only[zZ]
  refine zQ 8 fun K hK=>?_;refine qA0 rfl (qE8 (t:=126) rfl (by kernel_rfl) 1 (by kernel_rfl) B 8 rfl (show w5.drew.heap[B]?=_ from hB5) (by simp) (show _=#[.slice none 0 0] from rfl)) ?_;refine hK _ _ ?_;clear hK K
  try simp only[zZ]
  refine zQ 9 fun K hK=>?_;go_simp;refine (qL1 base 1 1 k cw _ pw n _ _ _ w5.drew may5 were5 (by omega) (by omega)).mono ?_;rintro e w6 ⟨gm',gw,cw',rfl,may6,were6,hK6⟩;have hB6:=hK6.heap (k:=B) hB5 (by simp);have hA6:=hK6.heap (k:=A) hA5 (by simp);have hC6:=hK6.heap (k:=C) hC5 (by simp);have hK6':Kp [B,St,M] w w6:=(hK5'.drew).tr hK6;have HS5:=zh hK5'.size;clear hB5 hA5 hC5 may5 were5 hK5' hK6;refine hK _ _ ?_;clear hK K
  try simp only[zZ]
  refine zu 10 (.pointer (some ⟨B,0,none⟩)) ?_;refine zu 11 (.pointer (some ⟨B,1,none⟩)) ?_;have k1:=ξ hB6 1;have k2:=ξ hB6 2;have k3:=ξ hB6 3;have k4:=ξ hB6 4;have k5:=ξ hB6 5;have k6:=ξ hB6 6;simp only[ι,zG,zH,zI] at k1 k2 k3 k4 k5 k6;have f1:=τ hB6;refine zQ 12 fun K hK=>?_;go_simp;refine hK _ _ ?_;clear hK K;refine wpAny_done (by kernel_rfl) ?_ _;obtain⟨w7,hw7,hB7,hK7⟩:∃ w7,w7=((((((w6.setCell ⟨B,1,none⟩ (.int .i64 n)).setCell ⟨B,2,none⟩ (.slice (some ⟨gm',0,none⟩) 1 1)).setCell ⟨B,3,none⟩ (.bool false)).setCell ⟨B,4,none⟩ (.slice (some ⟨gw,0,none⟩) (k+1) cw')).setCell ⟨B,5,none⟩ (.bool false)).setCell ⟨B,6,none⟩ (.bool false))∧w7.heap[B]?=some (ι A n (.slice (some ⟨gm',0,none⟩) 1 1) (.slice (some ⟨gw,0,none⟩) (k+1) cw') x)∧Kp [B] w6 w7:=
   ⟨_,rfl,(θ (θ (θ (θ (θ (θ hB6 1 _) 2 _) 3 _) 4 _) 5 _) 6 _),(((((((Kp.refl [B] w6).sc _).sc _).sc _).sc _).sc _).sc _)⟩
  rw[←hw7];clear hw7 k1 k2 k3 k4 k5 k6 f1;have k7:=ξ hB7 7;have k9:=ξ hB7 9;simp only[ι,zG,zH,zI] at k7 k9;have f7:=τ hB7;go_wp2;go_ret;have hK8:Kp [B] w6 ((w7.setCell ⟨B,7,none⟩ (.pointer (some ⟨Db,0,none⟩))).setCell ⟨B,9,none⟩ (.int .i64 0)):=(hK7.sc _).sc _;have hap6:Apart w6 [B] 126:=fun k hk=>by rw[List.mem_singleton.1 hk];exact⟨_,_,_,hB6,by decide⟩
  have hs5:=HS5.out;refine⟨rfl,⟨⟨B,A,C,n,l,calls,writes,N',some ⟨gm',0,none⟩,1,1,some ⟨gw,0,none⟩,k+1,cw',some ⟨Db,0,none⟩⟩,?_,rfl,rfl,rfl⟩,hK6'.trans hK8 (by simp +contextual)⟩;have hb6:base≤w5.drew.heap.size:=by show base≤w5.heap.size;omega
  exact⟨bB,bA,bC,θ (θ hB7 7 _) 9 _,hK8.heap hA6 (by simp;exact fun e=>HBA.out e.symm),hK8.heap hC6 (by simp;exact fun e=>HBC.out e.symm),len,n1000,calls0,by show calls≤6*(T+1);omega,writes0,by show writes≤2*(T+1);omega,by show ((k+1:Nat):Int)≤T+1;omega,(may6.le hb6).keep hK8 hap6,(were6.le hb6).keep hK8 hap6,.inr ⟨HF.out,by show N'≤2*(T+1);omega,rfl,rfl,gm',rfl⟩⟩
 ·refine qA0 rfl (qE8 (t:=126) rfl (by kernel_rfl) 1 (by kernel_rfl) B 8 rfl (show w5.drew.heap[B]?=_ from hB5) (by simp) (show _=#[.slice none 0 0] from rfl)) ?_;refine hK _ _ ?_;clear hK K
  try simp only[zZ]
  refine zQ 4 fun K hK=>?_;refine qA0 rfl (qE8 (t:=123) rfl (by kernel_rfl) 6 (by kernel_rfl) B 1 rfl (show w5.drew.heap[B]?=_ from hB5) (by simp) (show _=#[.int .i64 n,.slice (some ⟨gm,0,none⟩) 1 1,.bool false,.slice pw k cw,.bool false,.bool false] from rfl)) ?_;refine hK _ _ ?_;clear hK K
  try simp only[zZ]
  refine zQ 9 fun K hK=>?_;go_simp;refine (qL1 base 1 1 k cw _ pw n _ _ _ w5.drew may5 were5 (by omega) (by omega)).mono ?_;rintro e w6 ⟨gm',gw,cw',rfl,may6,were6,hK6⟩;have hB6:=hK6.heap (k:=B) hB5 (by simp);have hA6:=hK6.heap (k:=A) hA5 (by simp);have hC6:=hK6.heap (k:=C) hC5 (by simp);have hK6':Kp [B,St,M] w w6:=(hK5'.drew).tr hK6;have HS5:=zh hK5'.size;clear hB5 hA5 hC5 may5 were5 hK5' hK6;refine hK _ _ ?_;clear hK K
  try simp only[zZ]
  refine zu 10 (.pointer (some ⟨B,0,none⟩)) ?_;refine zu 11 (.pointer (some ⟨B,1,none⟩)) ?_;have k1:=ξ hB6 1;have k2:=ξ hB6 2;have k3:=ξ hB6 3;have k4:=ξ hB6 4;have k5:=ξ hB6 5;have k6:=ξ hB6 6;simp only[ι,zG,zH,zI] at k1 k2 k3 k4 k5 k6;have f1:=τ hB6;refine zQ 12 fun K hK=>?_;go_simp;refine hK _ _ ?_;clear hK K;refine wpAny_done (by kernel_rfl) ?_ _;obtain⟨w7,hw7,hB7,hK7⟩:∃ w7,w7=((((((w6.setCell ⟨B,1,none⟩ (.int .i64 n)).setCell ⟨B,2,none⟩ (.slice (some ⟨gm',0,none⟩) 1 1)).setCell ⟨B,3,none⟩ (.bool false)).setCell ⟨B,4,none⟩ (.slice (some ⟨gw,0,none⟩) (k+1) cw')).setCell ⟨B,5,none⟩ (.bool false)).setCell ⟨B,6,none⟩ (.bool false))∧w7.heap[B]?=some (ι A n (.slice (some ⟨gm',0,none⟩) 1 1) (.slice (some ⟨gw,0,none⟩) (k+1) cw') x)∧Kp [B] w6 w7:=
   ⟨_,rfl,(θ (θ (θ (θ (θ (θ hB6 1 _) 2 _) 3 _) 4 _) 5 _) 6 _),(((((((Kp.refl [B] w6).sc _).sc _).sc _).sc _).sc _).sc _)⟩
  rw[←hw7];clear hw7 k1 k2 k3 k4 k5 k6 f1;have k7:=ξ hB7 7;have k9:=ξ hB7 9;simp only[ι,zG,zH,zI] at k7 k9;have f7:=τ hB7;go_wp2;go_ret;have hK8:Kp [B] w6 ((w7.setCell ⟨B,7,none⟩ (.pointer (some ⟨Db,0,none⟩))).setCell ⟨B,9,none⟩ (.int .i64 0)):=(hK7.sc _).sc _;have hap6:Apart w6 [B] 126:=fun k hk=>by rw[List.mem_singleton.1 hk];exact⟨_,_,_,hB6,by decide⟩
  have hs5:=HS5.out;refine⟨rfl,⟨⟨B,A,C,n,l,calls,writes,N',some ⟨gm',0,none⟩,1,1,some ⟨gw,0,none⟩,k+1,cw',some ⟨Db,0,none⟩⟩,?_,rfl,rfl,rfl⟩,hK6'.trans hK8 (by simp +contextual)⟩;have hb6:base≤w5.drew.heap.size:=by show base≤w5.heap.size;omega
  exact⟨bB,bA,bC,θ (θ hB7 7 _) 9 _,hK8.heap hA6 (by simp;exact fun e=>HBA.out e.symm),hK8.heap hC6 (by simp;exact fun e=>HBC.out e.symm),len,n1000,calls0,by show calls≤6*(T+1);omega,writes0,by show writes≤2*(T+1);omega,by show ((k+1:Nat):Int)≤T+1;omega,(may6.le hb6).keep hK8 hap6,(were6.le hb6).keep hK8 hap6,.inr ⟨HF.out,by show N'≤2*(T+1);omega,rfl,rfl,gm',rfl⟩⟩
theorem zN6(base:Nat)(T:Int)(w:World)(g:DG)(h:DOk base T w g)(hT0:0≤T)(hT1:T≤40000)(hg:w.cell? ⟨0,0,none⟩=some qB2)(hb:0<base)(hbs:base≤w.heap.size):
  Calls prog 81 #[.pointer (some ⟨g.B,0,none⟩)] w fun e w'=>e=.returned (.bool true)∧(∃ g',DOk base (T+2) w' g'∧g'.B=g.B∧g'.A=g.A∧g'.C=g.C)∧Kp [g.B,g.A,g.C] w w':=by
 obtain⟨B,A,C,n,l,calls,writes,N,pm,m,cm,pw,k,cw,x⟩:=g;obtain⟨bB,bA,bC,hB,hA,hC,len,n1000,calls0,calls1,writes0,writes1,kT,may,were,st⟩:=h;simp only at *;have HBA:Hid (B≠A):=qB1 hB hA (by decide);have HBC:Hid (B≠C):=qB1 hB hC (by decide);have HCA:Hid (C≠A):=qB1 hC hA (by decide);have HST:=zh st;clear st;go_enter func81,ntmps81;go_wp2_with fail;refine (qN9 B A n _ _ x w hB).mono ?_;rintro e w1 ⟨rfl,hB1,hK1⟩;have hA1:=hK1.heap hA (by simp;exact fun e=>HBA.out e.symm);have hC1:=hK1.heap hC (by simp;exact fun e=>HBC.out e.symm);have hap:Apart w [B] 126:=fun k hk=>by rw[List.mem_singleton.1 hk];exact⟨_,_,_,hB,by decide⟩
 have may1:=may.keep hK1 hap;have were1:=were.keep hK1 hap;have hg1:w1.cell? ⟨0,0,none⟩=some qB2:=(hK1.cell (a:=⟨0,0,none⟩) (by simp;omega) (by simp;omega)).trans hg;have hs1:=hK1.size;have hK1':Kp [B,A,C] w w1:=hK1.mono (by simp +contextual);clear hB hA hC may were hK1 hg hap;have k0:=ξ hB1 0;simp only[ι,zG,zH,zI] at k0;go_wp2_with fail;refine (qM3 A n C _ calls writes w1 hA1).mono ?_;rintro e w1 ⟨rfl,rfl⟩;go_wp2_with fail;by_cases hfit:8≤n∧n≤400
 ·have h8:=hfit.1;have h400:=hfit.2;clear hfit;rcases HST.out with⟨hfr,hm0,hN0⟩|⟨hfm,hN2,hm1,hcm,gm,hpm⟩
  ·have hfr':=hfr h8;refine (zN1 A n C calls writes l _ hA1 calls0 (by omega) h8 h400 hC1 len HCA.out hfr').mono ?_;have HFR:=zh hfr;clear hfr hfr';rintro e w2 ⟨F,call,rfl,hF,hF2,hA2,hK2⟩;have hB2:=hK2.heap hB1 (by simp;exact HBA.out);have hC2:=hK2.heap hC1 (by simp;exact HCA.out);have hap:Apart w1 [A] 126:=fun k hk=>by rw[List.mem_singleton.1 hk];exact⟨_,_,_,hA1,by decide⟩
   have may2:=may1.keep hK2 hap;have were2:=were1.keep hK2 hap;have hg2:w2.cell? ⟨0,0,none⟩=some qB2:=(hK2.cell (a:=⟨0,0,none⟩) (by simp;omega) (by simp;omega)).trans hg1;have hK2':Kp [B,A,C] w w2:=hK1'.trans hK2 (by simp +contextual);clear hA1 hC1 hB1 may1 were1 hK2 hK1' k0 hg1 hap;go_wp2_with fail;refine (qM2 F call 9 _ hg2 hF2).mono ?_;rintro e w3 ⟨rfl,hK3⟩;have hB3:=hK3.hp hB2;have hA3:=hK3.hp hA2;have hC3:=hK3.hp hC2;have may3:=may2.keep hK3 (by intro k h;simp at h);have were3:=were2.keep hK3 (by intro k h;simp at h);have hK3':Kp [B,A,C] w w3:=hK2'.tr hK3;clear hB2 hA2 hC2 may2 were2 hK2' hK3 hg2 hF2 hF;have c0:=ξ hB3 0;have c1:=ξ hB3 1;have c2:=ξ hB3 2;have c3:=ξ hB3 3;have c4:=ξ hB3 4;have c5:=ξ hB3 5;have c6:=ξ hB3 6;simp only[ι,zG,zH,zI] at c0 c1 c2 c3 c4 c5 c6
   go_wp2_with (go_at_call 127;refine (qE9 _ _).mono ?_;rintro e w3 ⟨rfl,rfl⟩)
   refine (qJ7 _ _ n _ _ _ _ h8 h400).mono ?_;rintro e w4 ⟨rfl,hK4⟩;have hB4:=hK4.hp hB3;have hA4:=hK4.hp hA3;have hC4:=hK4.hp hC3;have may4:=may3.keep hK4 (by intro k h;simp at h);have were4:=were3.keep hK4 (by intro k h;simp at h);have hK4':Kp [B,A,C] w w4:=hK3'.tr hK4;clear hB3 hA3 hC3 may3 were3 hK3' hK4 c0 c1 c2 c3 c4 c5 c6;have c0:=ξ hB4 0;have c1:=ξ hB4 1;have c2:=ξ hB4 2;have c3:=ξ hB4 3;have c4:=ξ hB4 4;have c5:=ξ hB4 5;have c6:=ξ hB4 6;simp only[ι,zG,zH,zI] at c0 c1 c2 c3 c4 c5 c6;subst hm0;go_wp2;go_ret;refine⟨rfl,⟨⟨B,A,C,n,l,calls+2,writes,N,pm,0,cm,pw,k,cw,none⟩,?_,rfl,rfl,rfl⟩,hK4'⟩;exact⟨bB,bA,bC,hB4,hA4,hC4,len,n1000,by show (0:Int)≤calls+2;omega,by show calls+2≤6*(T+2);omega,writes0,by show writes≤2*(T+2);omega,by show ((k:Nat):Int)≤T+2;omega,may4,were4,.inl ⟨HFR.out,rfl,hN0⟩⟩
  ·have HF:=zh hfm;have hl:=hfm.low;refine (zN2 A n C calls writes l N _ hA1 calls0 (by omega) h8 h400 hC1 len HCA.out hfm).mono ?_;clear hfm;rintro e w2 ⟨V,M,St,Db,rfl,hV,hM,hSt,hDb,hA2,hV2,hM2,hSt2,hD2,hK2⟩;have hB2:=hK2.heap hB1 (by simp;exact HBA.out);have hC2:=hK2.heap hC1 (by simp;exact HCA.out);have hap:Apart w1 [A] 126:=fun k hk=>by rw[List.mem_singleton.1 hk];exact⟨_,_,_,hA1,by decide⟩
   have may2:=may1.keep hK2 hap;have were2:=were1.keep hK2 hap;have hK2':Kp [B,A,C] w w2:=hK1'.trans hK2 (by simp +contextual);have HSW:Hid (w.heap.size≤St∧w.heap.size≤M):=by show w.heap.size≤St∧w.heap.size≤M;omega
   clear hA1 hC1 hB1 may1 were1 hK2 hK1' k0 hg1 hap hV hSt hDb hM;go_wp2_with fail;refine (qI6 _).mono ?_;rintro e w2 ⟨rfl,rfl⟩;have c0:=ξ hB2 0;have c1:=ξ hB2 1;have c2:=ξ hB2 2;have c3:=ξ hB2 3;have c4:=ξ hB2 4;have c5:=ξ hB2 5;have c6:=ξ hB2 6;simp only[ι,zG,zH,zI] at c0 c1 c2 c3 c4 c5 c6
   go_wp2_with (go_at_call 127;refine (qE9 _ _).mono ?_;rintro e w2 ⟨rfl,rfl⟩)
   refine (qJ7 _ _ n _ _ _ _ h8 h400).mono ?_;rintro e w3 ⟨rfl,hK3⟩;have hB3:=hK3.hp hB2;have hA3:=hK3.hp hA2;have hC3:=hK3.hp hC2;have hSt3:=hK3.hp hSt2;have hV3:=hK3.hp hV2;have hM3:=hK3.hp hM2;have hD3:=hK3.hp hD2;have may3:=may2.keep hK3 (by intro k h;simp at h);have were3:=were2.keep hK3 (by intro k h;simp at h);have hK3':Kp [B,A,C] w w3:=hK2'.tr hK3;have hs3:=hK3'.size;clear hB2 hA2 hC2 may2 were2 hK2' hK3 hSt2 hD2 hV2 hM2 c0 c1 c2 c3 c4 c5 c6;go_wp2_with fail;have hd:DOk base (T+1) w3 ⟨B,A,C,n,l,calls+3,writes,N,pm,m,cm,pw,k,cw,none⟩:=
    ⟨bB,bA,bC,hB3,hA3,hC3,len,n1000,by show (0:Int)≤calls+3;omega,by show calls+3≤6*(T+1);omega,writes0,by show writes≤2*(T+1);omega,by show ((k:Nat):Int)≤T+1;omega,may3,were3,.inr ⟨HF.out,by show N≤2*(T+1);omega,hm1,hcm,gm,hpm⟩⟩
   refine (zE3 base (T+1) w3 _ hd Db St V M A N hD3 hSt3 hV3 hM3 (by omega) (by omega) HF.out (by omega)).mono ?_;rintro e w4 ⟨rfl,⟨g',hg',e1,e2,e3⟩,hK4⟩;have hg'':DOk base (T+2) w4 g':=by rw[show T+2=T+1+1 by omega];exact hg'
   have hK4':Kp [B,A,C] w w4:=hK3'.trans hK4 (by intro i hi hlt;have:=HSW.out;simp at hi;simp;omega);clear hd hg' hB3 hA3 hC3 hSt3 hD3 hV3 hM3 may3 were3 hK3' hK4;go_wp2;go_ret;exact⟨rfl,⟨g',hg'',e1,e2,e3⟩,hK4'⟩
 ·have hbad:n<8∨400<n:=by omega
  clear hfit;have HB:=zh hbad;refine (zN5 A n C _ calls writes _ hA1 hbad).mono ?_;clear hbad;rintro e w2 ⟨F,call,rfl,hF,hF2,hK2⟩;have hB2:=hK2.hp hB1;have hA2:=hK2.hp hA1;have hC2:=hK2.hp hC1;have may2:=may1.keep hK2 (by intro k h;simp at h);have were2:=were1.keep hK2 (by intro k h;simp at h);have hg2:w2.cell? ⟨0,0,none⟩=some qB2:=(hK2.cell (a:=⟨0,0,none⟩) (by simp;omega) (by simp)).trans hg1;have hK2':Kp [B,A,C] w w2:=hK1'.tr hK2;clear hA1 hC1 hB1 may1 were1 hK2 hK1' k0 hg1;go_wp2_with fail;refine (qM2 F call 10 _ hg2 hF2).mono ?_;rintro e w3 ⟨rfl,hK3⟩;have hB3:=hK3.hp hB2;have hA3:=hK3.hp hA2;have hC3:=hK3.hp hC2;have may3:=may2.keep hK3 (by intro k h;simp at h);have were3:=were2.keep hK3 (by intro k h;simp at h);have hK3':Kp [B,A,C] w w3:=hK2'.tr hK3;clear hB2 hA2 hC2 may2 were2 hK2' hK3 hg2 hF2 hF;have c0:=ξ hB3 0;have c1:=ξ hB3 1;have c2:=ξ hB3 2;have c3:=ξ hB3 3;have c4:=ξ hB3 4;have c5:=ξ hB3 5;have c6:=ξ hB3 6;simp only[ι,zG,zH,zI] at c0 c1 c2 c3 c4 c5 c6
  go_wp2_with (go_at_call 127;refine (qE9 _ _).mono ?_;rintro e w3 ⟨rfl,rfl⟩)
  refine (qO5 _ _ n _ _ _ _ HB.out).mono ?_;rintro e w4 ⟨rfl,hK4⟩;have hB4:=hK4.hp hB3;have hA4:=hK4.hp hA3;have hC4:=hK4.hp hC3;have may4:=may3.keep hK4 (by intro k h;simp at h);have were4:=were3.keep hK4 (by intro k h;simp at h);have hK4':Kp [B,A,C] w w4:=hK3'.tr hK4;clear hB3 hA3 hC3 may3 were3 hK3' hK4 c0 c1 c2 c3 c4 c5 c6;go_wp2;go_ret;refine⟨rfl,⟨⟨B,A,C,n,l,calls,writes,N,pm,m,cm,pw,k,cw,none⟩,?_,rfl,rfl,rfl⟩,hK4'⟩;exact⟨bB,bA,bC,hB4,hA4,hC4,len,n1000,calls0,by show calls≤6*(T+2);omega,writes0,by show writes≤2*(T+2);omega,by show ((k:Nat):Int)≤T+2;omega,may4,were4,by
   rcases HST.out with h|⟨h1,h2,h3⟩
   ·exact .inl h
   ·exact .inr ⟨h1,by show N≤2*(T+2);omega,h3⟩⟩
def ψ(pk:Option Addr)(nk ck:Nat)(pd:Option Addr)(nd cd:Nat):Obj:=.cells #[.slice pk nk ck,.slice pd nd cd] 70
def qB4(ds:List DG):List Value:=ds.map fun g=>.pointer (some ⟨g.B,0,none⟩)
structure WOk(base:Nat)(T:Int)(w:World)(Wb:Nat)(ds:List DG):Prop where
 hb:0<base
 hbs:base≤w.heap.size
 g0:w.cell? ⟨0,0,none⟩=some qB2
 bW:base≤Wb
 hW:∃ pk nk ck xs pd cd,w.heap[Wb]?=some (ψ pk nk ck pd ds.length cd)∧w.ownsRow base 3 1 (.slice pk nk ck) nk xs∧(nk:Int)≤T∧w.ownsRow base 119 1 (.slice pd ds.length cd) ds.length (qB4 ds)
 len:(ds.length:Int)≤T
 all:∀ g,g∈ds→DOk base T w g
 sep:ds.Pairwise fun g h=>g.B≠h.B∧g.A≠h.A∧g.C≠h.C
theorem qC3{S:List Nat}{w w':World}{base sz:Nat}{e:TypeId}{v:Value}{n:Nat}{xs:List Value}(h:w.ownsRow base e sz v n xs)(hK:Kp S w w')(hS:Apart w S e):w'.ownsRow base e sz v n xs:=by
 refine⟨h.1,?_⟩;rcases h.2 with h0|⟨g,cap,cur,h1,h2,h3,h4⟩
 ·exact .inl h0
 ·refine .inr ⟨g,cap,cur,h1,h2,hK.heap h3 (fun hm=>?_),h4⟩;obtain⟨c',u,fr',h5,h6⟩:=hS g hm;rw[h3] at h5;cases h5;exact h6 rfl
theorem DOk.apartT{base:Nat}{T:Int}{w:World}{g:DG}(h:DOk base T w g)(t:TypeId)(h1:t≠130)(h2:t≠114)(h3:t≠115):Apart w [g.B,g.A,g.C] t:=by
 intro k hk;simp only[List.mem_cons,List.not_mem_nil,or_false] at hk;rcases hk with rfl|rfl|rfl
 ·exact⟨_,_,_,h.hB,fun e=>h1 e.symm⟩
 ·exact⟨_,_,_,h.hA,fun e=>h2 e.symm⟩
 ·exact⟨_,_,_,h.hC,fun e=>h3 e.symm⟩
theorem Apart.nil(w:World)(t:TypeId):Apart w [] t:=fun _ h=>by cases h
theorem Apart.not{w:World}{S:List Nat}{t:TypeId}{c:Array Value}{fr:Nat × Nat}{k:Nat}(h:Apart w S t)(hk:w.heap[k]?=some (.cells c t fr)):k ∉ S:=fun hm=>by
 obtain⟨c',u,fr',h5,h6⟩:=h k hm;rw[hk] at h5;cases h5;exact h6 rfl
theorem qJ8{w w':World}{base:Nat}{S:List Nat}(h:w.cell? ⟨0,0,none⟩=some qB2)(hK:Kp S w w')(hb:0<base)(hbs:base≤w.heap.size)(hS:∀ k,k∈S→base≤k):w'.cell? ⟨0,0,none⟩=some qB2:=
 (hK.cell (a:=⟨0,0,none⟩) (by simp;omega) (fun hm=>by have:=hS _ hm;simp at this;omega)).trans h
theorem WOk.same{base:Nat}{T T':Int}{w w':World}{Wb:Nat}{ds:List DG}(h:WOk base T w Wb ds)(hK:Kp [] w w')(hT:T≤T'):WOk base T' w' Wb ds:=by
 obtain⟨pk,nk,ck,xs,pd,cd,h1,h2,h3,h4⟩:=h.hW;exact⟨h.hb,Nat.le_trans h.hbs hK.size,qJ8 h.g0 hK h.hb h.hbs (by simp),h.bW,⟨pk,nk,ck,xs,pd,cd,hK.hp h1,qC3 h2 hK (Apart.nil _ _),by omega,qC3 h4 hK (Apart.nil _ _)⟩,by have:=h.len;omega,fun g hg=>(h.all g hg).keep hK hT (by simp) (by simp) (by simp) (Apart.nil _ _),h.sep⟩
theorem WOk.one{base:Nat}{T T':Int}{w w':World}{Wb:Nat}{ds:List DG}(h:WOk base T w Wb ds)(j:Nat)(hj:j<ds.length)(g':DG)(hK:Kp [ds[j].B,ds[j].A,ds[j].C] w w')(hg:DOk base T' w' g')(e1:g'.B=ds[j].B)(e2:g'.A=ds[j].A)(e3:g'.C=ds[j].C)(hT:T≤T'):WOk base T' w' Wb (ds.set j g'):=by
 obtain⟨pk,nk,ck,xs,pd,cd,h1,h2,h3,h4⟩:=h.hW;have hd:=h.all ds[j] (List.getElem_mem hj);have hbS:∀ k,k∈[ds[j].B,ds[j].A,ds[j].C]→base≤k:=by
  intro k hk;simp only[List.mem_cons,List.not_mem_nil,or_false] at hk;rcases hk with rfl|rfl|rfl
  ·exact hd.bB
  ·exact hd.bA
  ·exact hd.bC
 have hp:qB4 (ds.set j g')=qB4 ds:=by
  simp only[qB4,List.map_set,e1];exact List.ext_getElem (by simp) (fun i h1 h2=>by
   rw[List.getElem_set];split
   ·rename_i h;subst h;simp
   ·rfl)
 have hpw:=List.pairwise_iff_getElem.1 h.sep;refine⟨h.hb,Nat.le_trans h.hbs hK.size,qJ8 h.g0 hK h.hb h.hbs hbS,h.bW,⟨pk,nk,ck,xs,pd,cd,?_,qC3 h2 hK (hd.apartT _ (by decide) (by decide) (by decide)),by omega,?_⟩,by have:=h.len;simp;omega,?_,?_⟩
 ·simp only[List.length_set];exact hK.heap h1 ((hd.apartT _ (by decide) (by decide) (by decide)).not h1)
 ·rw[hp,List.length_set];exact qC3 h4 hK (hd.apartT _ (by decide) (by decide) (by decide))
 ·intro g hg';obtain⟨i,hi,rfl⟩:=List.getElem_of_mem hg';rw[List.getElem_set];split
  ·exact hg
  ·rename_i hne;simp only[List.length_set] at hi;have hdi:=h.all ds[i] (List.getElem_mem hi);have hq:ds[i].B≠ds[j].B∧ds[i].A≠ds[j].A∧ds[i].C≠ds[j].C:=by
    rcases Nat.lt_or_gt_of_ne hne with hlt|hgt
    ·have:=hpw j i hj hi hlt;exact⟨fun e=>this.1 e.symm,fun e=>this.2.1 e.symm,fun e=>this.2.2 e.symm⟩
    ·exact hpw i j hi hj hgt
   have hS:=hd.apart;refine hdi.keep hK hT ?_ ?_ ?_ hS
   ·simp only[List.mem_cons,List.not_mem_nil,or_false,not_or];exact⟨hq.1,qB1 hdi.hB hd.hA (by decide),qB1 hdi.hB hd.hC (by decide)⟩
   ·simp only[List.mem_cons,List.not_mem_nil,or_false,not_or];exact⟨qB1 hdi.hA hd.hB (by decide),hq.2.1,qB1 hdi.hA hd.hC (by decide)⟩
   ·simp only[List.mem_cons,List.not_mem_nil,or_false,not_or];exact⟨qB1 hdi.hC hd.hB (by decide),qB1 hdi.hC hd.hA (by decide),hq.2.2⟩
 ·rw[List.pairwise_iff_getElem];intro a b ha hb hab;simp only[List.length_set] at ha hb;have hq:=hpw a b ha hb hab;rw[List.getElem_set,List.getElem_set];split
  ·rename_i h1;subst h1;split
   ·omega
   ·rw[e1,e2,e3];exact hq
  ·split
   ·rename_i h2;subst h2;rw[e1,e2,e3];exact hq
   ·exact hq
def qG8(base:Nat)(w:World)(S:List Nat):Prop:=∀ k,k∈S→base≤k∧∃ c u fr,w.heap[k]?=some (.cells c u fr)∧u≠130∧u≠114∧u≠115∧u≠126
theorem zP3{α:Type}(R:α→α→Prop):∀ l:List α,l.length≤1→l.Pairwise R
 | [],_=>List.Pairwise.nil
 | [_],_=>List.pairwise_singleton _ _
 | _::_::_,h=>by simp at h
theorem WOk.turn{base:Nat}{T T':Int}{w w':World}{Wb:Nat}{ds:List DG}{S:List Nat}(h:WOk base T w Wb ds)(hK:Kp S w w')(hS:qG8 base w S)(hT:T≤T')(new:List DG)(hnew:∀ g,g∈new→DOk base T' w' g∧w.heap.size≤g.B∧w.heap.size≤g.A∧w.heap.size≤g.C)(hone:new.length≤1)
  (hW:∃ pk nk ck xs pd cd,w'.heap[Wb]?=some (ψ pk nk ck pd (ds++new).length cd)∧w'.ownsRow base 3 1 (.slice pk nk ck) nk xs∧(nk:Int)≤T'∧w'.ownsRow base 119 1 (.slice pd (ds++new).length cd) (ds++new).length (qB4 (ds++new))) (len:((ds++new).length:Int)≤T'):WOk base T' w' Wb (ds++new):=by
 refine⟨h.hb,Nat.le_trans h.hbs hK.size,qJ8 h.g0 hK h.hb h.hbs (fun k hk=>(hS k hk).1),h.bW,hW,len,?_,?_⟩
 ·intro g hg;rcases List.mem_append.1 hg with hg|hg
  ·have hd:=h.all g hg;have hn:∀ k c u fr,w.heap[k]?=some (.cells c u fr)→(u=130∨u=114∨u=115)→k ∉ S:=by
    intro k c u fr hk hu hm;obtain⟨_,c',u',fr',h1,h2,h3,h4,_⟩:=hS k hm;rw[hk] at h1;cases h1;rcases hu with hu|hu|hu
    ·exact h2 hu
    ·exact h3 hu
    ·exact h4 hu
   exact hd.keep hK hT (hn _ _ _ _ hd.hB (.inl rfl)) (hn _ _ _ _ hd.hA (.inr (.inl rfl))) (hn _ _ _ _ hd.hC (.inr (.inr rfl))) (fun k hk=>by
    obtain⟨_,c',u',fr',h1,_,_,_,h5⟩:=hS k hk;exact⟨c',u',fr',h1,h5⟩)
  ·exact (hnew g hg).1
 ·rw[List.pairwise_append];refine⟨h.sep,?_,?_⟩
  ·exact zP3 _ _ hone
  ·intro g hg g' hg';have hd:=h.all g hg;have h1:=ζ hd.hB;have h2:=ζ hd.hA;have h3:=ζ hd.hC;have h4:=hnew g' hg';exact⟨by omega,by omega,by omega⟩
theorem qL5{cur:Array Value}{ds:List DG}(h:cur.toList.take (ds.length*1)=qB4 ds)(j:Nat)(hj:j<ds.length):cur[j]?=some (.pointer (some ⟨ds[j].B,0,none⟩)):=by
 have e:(qB4 ds)[j]?=some (.pointer (some ⟨ds[j].B,0,none⟩)):=by simp[qB4,hj]
 rw[←h,List.getElem?_take_of_lt (by omega)] at e;simpa using e
theorem qL3{w:World}{base sz:Nat}{e:TypeId}{p:Option Addr}{n c:Nat}{xs:List Value}(h:w.ownsRow base e sz (.slice p n c) n xs)(hn:1≤n):∃ g cur,p=some ⟨g,0,none⟩∧base≤g∧w.heap[g]?=some (.cells cur e (0,0))∧cur.toList.take (n*sz)=xs:=by
 rcases h.2 with⟨h0,h1⟩|⟨g,cap,cur,h1,h2,h3,h4,h5,h6,h7⟩
 ·omega
 ·cases h1;exact⟨g,cur,rfl,h2,h3,h7⟩
def qI7:Prop:=∀ (base Wb:Nat) (T:Int) (ds:List DG) (o:SOp) (w:World),WOk base T w Wb ds→Fit o→0≤T→T≤40000→
 Calls prog 40 #[.pointer (some ⟨Wb,0,none⟩),.agg #[.int .i64 o.k,.int .i64 o.x,.int .i64 o.y,.int .i64 o.a,.int .i64 o.b,.string o.s,.string o.t]] w fun e w'=>e=.returned (.bool true)∧(∃ ds',WOk base (T+2) w' Wb ds')∧Below base w w'
theorem zT0(ST:qI7)(p:Option Addr)(n cap:Nat)(f:Nat→SOp)(w:World)(hn:n≤16384)(h0:0<w.heap.size)(hg:w.cell? ⟨0,0,none⟩=some qB2)(hS:Script w p n f)(hf:∀ i,i<n→Fit (f i)):
  Calls prog 17 #[.slice p n cap] w fun e w'=>e=.returned (.int .i64 (-1))∧Kp [] w w':=by
 have HS:=zh hS;have HF:=zh hf;have hK0:Kp [] w (w.alloc (ψ none 0 0 none 0 0)):=(Kp.refl _ _).alloc _;have HW:Hid (WOk w.heap.size 0 (w.alloc (ψ none 0 0 none 0 0)) w.heap.size []):=by
  exact⟨h0,by simp,(hK0.cell (a:=⟨0,0,none⟩) h0 (by simp)).trans hg,Nat.le_refl _,⟨none,0,0,[],none,0,κ _ _,World.ownsRow_nil _ _ _ _,by simp,World.ownsRow_nil _ _ _ _⟩,by simp,by simp,List.Pairwise.nil⟩
 have HB:Hid (Below w.heap.size w (w.alloc (ψ none 0 0 none 0 0))):=hK0.below (Nat.le_refl _) (by simp);clear hS hf h0 hg hK0;go_enter func17,ntmps17;go_wp2
 go_loopw [4] (fun i wr=>∃ (j:Nat) (ds:List DG),j≤n∧i=.int .i64 j∧WOk w.heap.size (2*j) wr w.heap.size ds∧Below w.heap.size w wr) (fun i _=>n-(intOf i).toNat)
 case atStart=>exact⟨0,[],Nat.zero_le _,rfl,HW.out,HB.out⟩
 case round=>
  obtain⟨j,ds,hj,rfl,hW,hB⟩:=hrel;have HW1:=zh hW;have HB1:=zh hB;clear hW hB;by_cases hlt:j<n
  ·obtain⟨blk,off,rfl,hblk,hcell⟩:=(HS.out.keep (Kp.of_below HB1.out (Nat.le_refl _))) (by omega);have c0:=hcell j hlt 0 (by decide);have c1:=hcell j hlt 1 (by decide);have c2:=hcell j hlt 2 (by decide);have c3:=hcell j hlt 3 (by decide);have c4:=hcell j hlt 4 (by decide);have c5:=hcell j hlt 5 (by decide);have c6:=hcell j hlt 6 (by decide);simp only[SOp.cells,zH,zI,Nat.add_zero] at c0 c1 c2 c3 c4 c5 c6;have hjb:(j:Int)<(n:Int):=by omega
   clear hcell;go_wp2_with fail;refine (ST w.heap.size w.heap.size (2*j) ds (f j) wr HW1.out (HF.out j hlt) (by omega) (by omega)).mono ?_;rintro e w2 ⟨rfl,⟨ds',hW2⟩,hB2⟩;have HW2:=zh hW2;have HB2:=zh hB2;clear hW2 hB2;go_wp2;exact⟨⟨j+1,ds',by omega,by go_num,by have h:=HW2.out;rw[show ((2*j+2:Int))=2*((j+1:Nat):Int) by omega] at h;exact h,HB1.out.trans HB2.out⟩,by simp[intOf];omega⟩
  ·have hjb:¬(j:Int)<(n:Int):=by omega
   go_wp2;go_ret;exact⟨rfl,Kp.of_below HB1.out (Nat.le_refl _)⟩
theorem zN8(ST:qI7)(p:Option Addr)(n cap:Nat)(f:Nat→SOp)(w:World)(hS:Script w p n f)(hf:∀ i,i<n→(f i).fits)(h0:0<w.heap.size)(hg:w.cell? ⟨0,0,none⟩=some qB2):
  Calls prog 3 #[.slice p n cap] w fun e w'=>e=.returned (.bool true)∧Kp [] w w':=by
 have hK0:Kp [] w (w.alloc (.cells #[.int .i64 5,.int .i64 10,.int .i64 11] 3)):=(Kp.refl _ _).alloc _;go_enter func3,ntmps3;go_wp2_with fail;refine (zP4 (fun p n cap f w=>zT0 ST p n cap f w) p n cap f _ (hS.keep hK0) hf (by simp) ((hK0.cell (a:=⟨0,0,none⟩) h0 (by simp)).trans hg) w.heap.size (κ _ _)).mono ?_;rintro e w1 ⟨rfl,hK1⟩;go_wp2;go_ret;exact⟨rfl,hK0.tr hK1⟩
theorem zO4(Wb:Nat)(k x y a b:Int)(s t:ByteArray)(w:World)(hk:k<5):
  Calls prog 124 #[.pointer (some ⟨Wb,0,none⟩),.agg #[.int .i64 k,.int .i64 x,.int .i64 y,.int .i64 a,.int .i64 b,.string s,.string t]] w fun e w'=>e=.returned (.bool false)∧Kp [] w w':=by
 go_enter func124,ntmps124;go_wp2;go_ret;exact⟨rfl,(Kp.refl _ _).alloc _⟩
theorem zO3(Wb:Nat)(k x y a b:Int)(s t:ByteArray)(w:World)(hk:9<k):
  Calls prog 124 #[.pointer (some ⟨Wb,0,none⟩),.agg #[.int .i64 k,.int .i64 x,.int .i64 y,.int .i64 a,.int .i64 b,.string s,.string t]] w fun e w'=>e=.returned (.bool false)∧Kp [] w w':=by
 go_enter func124,ntmps124;go_wp2;go_ret;exact⟨rfl,(Kp.refl _ _).alloc _⟩
theorem zP0(Wb:Nat)(k x y a b:Int)(s t:ByteArray)(w:World)(hk:k<1):
  Calls prog 78 #[.pointer (some ⟨Wb,0,none⟩),.agg #[.int .i64 k,.int .i64 x,.int .i64 y,.int .i64 a,.int .i64 b,.string s,.string t]] w fun e w'=>e=.returned (.bool false)∧Kp [] w w':=by
 have e1:¬k=1:=by omega
 have e2:¬k=2:=by omega
 have e3:¬k=3:=by omega
 have e4:¬k=4:=by omega
 go_enter func78,ntmps78;go_wp2_with fail;refine (zO4 Wb k x y a b s t _ (by omega)).mono ?_;rintro e w1 ⟨rfl,hK1⟩;go_wp2;go_ret;exact⟨rfl,((Kp.refl _ _).alloc _).tr hK1⟩
theorem qH9(Wb:Nat)(k x y a b:Int)(s t:ByteArray)(w:World)(hk:9<k):
  Calls prog 78 #[.pointer (some ⟨Wb,0,none⟩),.agg #[.int .i64 k,.int .i64 x,.int .i64 y,.int .i64 a,.int .i64 b,.string s,.string t]] w fun e w'=>e=.returned (.bool false)∧Kp [] w w':=by
 have e1:¬k=1:=by omega
 have e2:¬k=2:=by omega
 have e3:¬k=3:=by omega
 have e4:¬k=4:=by omega
 go_enter func78,ntmps78;go_wp2_with fail;refine (zO3 Wb k x y a b s t _ hk).mono ?_;rintro e w1 ⟨rfl,hK1⟩;go_wp2;go_ret;exact⟨rfl,((Kp.refl _ _).alloc _).tr hK1⟩
theorem zP1(base Wb:Nat)(T:Int)(ds:List DG)(x y a b:Int)(s t:ByteArray)(w:World)(h:WOk base T w Wb ds):
  Calls prog 78 #[.pointer (some ⟨Wb,0,none⟩),.agg #[.int .i64 2,.int .i64 x,.int .i64 y,.int .i64 a,.int .i64 b,.string s,.string t]] w fun e w'=>e=.returned (.bool true)∧(∃ ds',WOk base (T+2) w' Wb ds')∧Below base w w':=by
 have h':=h;obtain⟨pk,nk,ck,xs,pd,cd,h1,h2,h3,h4⟩:=h.hW;have HH:=zh h';have hWs:=ζ h1;have hd1:=η (.cells #[.int .i64 2,.int .i64 x,.int .i64 y,.int .i64 a,.int .i64 b,.string s,.string t] 66) h1;have k0:=ξ h1 0;simp only[ψ,zG,zH,zI] at k0;have f0:=τ h1 0;clear h h';go_enter func78,ntmps78;go_wp2;go_ret;have h:=HH.out;have hK:Kp [Wb] w ((w.setCell ⟨Wb,0,none⟩ (.slice none 0 0)).alloc (.cells #[.int .i64 2,.int .i64 x,.int .i64 y,.int .i64 a,.int .i64 b,.string s,.string t] 66)):=((Kp.refl _ _).sc _).alloc _;have hF:qG8 base w [Wb]:=fun k hk=>by rw[List.mem_singleton.1 hk];exact⟨h.bW,_,_,_,h1,by decide,by decide,by decide,by decide⟩
 refine⟨rfl,⟨ds++[],h.turn hK hF (by omega) [] (by simp) (by simp) ⟨none,0,0,[],pd,cd,?_,World.ownsRow_nil _ _ _ _,by have:=h.len;simp;omega,?_⟩ (by have:=h.len;simp;omega)⟩,hK.below h.hbs (fun k hk=>(hF k hk).1)⟩
 ·rw[List.append_nil];exact η _ (θ h1 0 _)
 ·rw[List.append_nil];exact qC3 h4 hK (fun k hk=>by rw[List.mem_singleton.1 hk];exact⟨_,_,_,h1,by decide⟩)
theorem qI5(base Wb:Nat)(T:Int)(ds:List DG)(k x y a b:Int)(s t:ByteArray)(w:World)(h:WOk base T w Wb ds)
  (H:∀ w,WOk base T w Wb ds→Calls prog 78 #[.pointer (some ⟨Wb,0,none⟩),.agg #[.int .i64 k,.int .i64 x,.int .i64 y,.int .i64 a,.int .i64 b,.string s,.string t]] w fun e w'=>e=.returned (.bool true)∧(∃ ds',WOk base (T+2) w' Wb ds')∧Below base w w'):
  Calls prog 40 #[.pointer (some ⟨Wb,0,none⟩),.agg #[.int .i64 k,.int .i64 x,.int .i64 y,.int .i64 a,.int .i64 b,.string s,.string t]] w fun e w'=>e=.returned (.bool true)∧(∃ ds',WOk base (T+2) w' Wb ds')∧Below base w w':=by
 have hK0:Kp [] w (w.alloc (.cells #[.int .i64 k,.int .i64 x,.int .i64 y,.int .i64 a,.int .i64 b,.string s,.string t] 66)):=(Kp.refl _ _).alloc _;have HC:=H _ (h.same hK0 (Int.le_refl _));have HB:Hid (Below base w (w.alloc (.cells #[.int .i64 k,.int .i64 x,.int .i64 y,.int .i64 a,.int .i64 b,.string s,.string t] 66))):=hK0.below h.hbs (by simp);clear H h hK0;go_enter func40,ntmps40;go_wp2_with fail;refine HC.mono ?_;rintro e w1 ⟨rfl,⟨ds',h1⟩,h2⟩;have H1:=zh h1;have H2:=zh h2;clear h1 h2 HC;go_wp2;go_ret;exact⟨rfl,⟨ds',H1.out⟩,HB.out.trans H2.out⟩
theorem qM1(base Wb:Nat)(T:Int)(ds:List DG)(k x y a b:Int)(s t:ByteArray)(w:World)(h:WOk base T w Wb ds)
  (H:∀ w,Calls prog 78 #[.pointer (some ⟨Wb,0,none⟩),.agg #[.int .i64 k,.int .i64 x,.int .i64 y,.int .i64 a,.int .i64 b,.string s,.string t]] w fun e w'=>e=.returned (.bool false)∧Kp [] w w') (hk:ds.length=0∨k<1):
  Calls prog 40 #[.pointer (some ⟨Wb,0,none⟩),.agg #[.int .i64 k,.int .i64 x,.int .i64 y,.int .i64 a,.int .i64 b,.string s,.string t]] w fun e w'=>e=.returned (.bool true)∧(∃ ds',WOk base (T+2) w' Wb ds')∧Below base w w':=by
 have HC:=H (w.alloc (.cells #[.int .i64 k,.int .i64 x,.int .i64 y,.int .i64 a,.int .i64 b,.string s,.string t] 66));have HH:=zh h;clear H h;go_enter func40,ntmps40;go_wp2_with fail;refine HC.mono ?_;rintro e w1 ⟨rfl,hK1⟩;have HK1:Hid (Kp [] w w1):=((Kp.refl _ _).alloc _).tr hK1;have HH1:Hid (WOk base T w1 Wb ds):=HH.out.same HK1.out (Int.le_refl _);have hO1:=hK1.heap (κ w (.cells #[.int .i64 k,.int .i64 x,.int .i64 y,.int .i64 a,.int .i64 b,.string s,.string t] 66)) (by simp);obtain⟨pk,nk,ck,xs,pd,cd,hWb1,h2,h3,h4⟩:=HH1.out.hW;have hWs:=ζ hWb1;have hOs:=ζ hO1;have k1:=ξ hWb1 1;simp only[ψ,zG,zH,zI] at k1;have o0:=ξ hO1 0;simp only[zG,zH,zI] at o0;clear h2 h3 h4 hK1 HC hO1 hWb1;by_cases hn0:(ds.length:Int)=0
 ·clear hk;go_wp2;go_ret;exact⟨rfl,⟨ds,HH1.out.same (Kp.refl _ _) (by omega)⟩,HK1.out.below HH.out.hbs (by simp)⟩
 ·have hk1:k<1:=by omega
  clear hk;have hb20:¬20<k:=by omega
  have hb10:k<10:=by omega
  go_wp2
  all_goals
   go_ret;exact⟨rfl,⟨ds,HH1.out.same (Kp.refl _ _) (by omega)⟩,HK1.out.below HH.out.hbs (by simp)⟩
theorem zR9(base Wb:Nat)(T:Int)(ds:List DG)(x y a b:Int)(s t:ByteArray)(w:World)(h:WOk base T w Wb ds)(hT0:0≤T)(hT:T≤40000)(hx0:-9223372036854775808≤x)(hx1:x≤9223372036854775807):
  Calls prog 40 #[.pointer (some ⟨Wb,0,none⟩),.agg #[.int .i64 10,.int .i64 x,.int .i64 y,.int .i64 a,.int .i64 b,.string s,.string t]] w fun e w'=>e=.returned (.bool true)∧(∃ ds',WOk base (T+2) w' Wb ds')∧Below base w w':=by
 by_cases hd:ds.length=0
 ·exact qM1 base Wb T ds 10 x y a b s t w h (fun w1=>qH9 Wb 10 x y a b s t w1 (by decide)) (Or.inl hd)
 have hbs0:=h.hbs;have hK0:Kp [] w (w.alloc (.cells #[.int .i64 10,.int .i64 x,.int .i64 y,.int .i64 a,.int .i64 b,.string s,.string t] 66)):=(Kp.refl _ _).alloc _;have HK0:=zh hK0;have HH:=zh h;clear h hK0;go_enter func40,ntmps40;go_wp2_with fail;refine (qH9 Wb 10 x y a b s t _ (by decide)).mono ?_;rintro e w1 ⟨rfl,hK1⟩;have HK1:Hid (Kp [] w w1):=HK0.out.tr hK1;have HH1:Hid (WOk base T w1 Wb ds):=HH.out.same HK1.out (Int.le_refl _);have HB1:Hid (Below base w w1):=HK1.out.below HH.out.hbs (by simp);have hO1:=hK1.heap (κ w (.cells #[.int .i64 10,.int .i64 x,.int .i64 y,.int .i64 a,.int .i64 b,.string s,.string t] 66)) (by simp);obtain⟨pk,nk,ck,xs,pd,cd,hWb1,h2,h3,h4⟩:=HH1.out.hW;obtain⟨gd,cur,rfl,hgd,hR1,hcur⟩:=qL3 h4 (by omega);have hWs:=ζ hWb1;have hOs:=ζ hO1;have hgs:=ζ hR1;have hl:=HH1.out.len;have hn0:¬((ds.length:Int)=0):=by omega
 have k1:=ξ hWb1 1;simp only[ψ,zG,zH,zI] at k1;have o0:=ξ hO1 0;simp only[zG,zH,zI] at o0;clear h2 h3 h4 hK1;go_wp2_with fail;have hS0:w1.drew.heap[Wb]?=some (ψ pk nk ck (some ⟨gd,0,none⟩) ds.length cd)∧w1.drew.heap[w.heap.size]?=some (.cells #[.int .i64 10,.int .i64 x,.int .i64 y,.int .i64 a,.int .i64 b,.string s,.string t] 66)∧w1.drew.heap[gd]?=some (.cells cur 119):=⟨hWb1,hO1,hR1⟩;refine wp_region_held_drew (S:=fun W=>W.heap[Wb]?=some (ψ pk nk ck (some ⟨gd,0,none⟩) ds.length cd)∧W.heap[w.heap.size]?=some (.cells #[.int .i64 10,.int .i64 x,.int .i64 y,.int .i64 a,.int .i64 b,.string s,.string t] 66)∧W.heap[gd]?=some (.cells cur 119)) (by kernel_rfl) hS0 (fun _=>?_);refine zP 0 Wb 0 hS0 ?_;refine zP 1 Wb 0 hS0 ?_;refine zP 2 Wb 1 hS0 ?_;refine zV 3 (.slice (some ⟨gd,0,none⟩) ds.length cd) rfl (fun W hS=>by have c:=ξ hS.1 1;simp[ψ] at c;clear hS;go_simp) hS0 ?_;refine zP 4 w.heap.size 1 hS0 ?_;refine zV 5 (.int .i64 x) rfl (fun W hS=>by have c:=ξ hS.2.1 1;simp at c;clear hS;go_simp) hS0 ?_;refine zP 6 Wb 0 hS0 ?_;refine zP 7 Wb 0 hS0 ?_;refine zP 8 Wb 1 hS0 ?_;refine zV 9 (.slice (some ⟨gd,0,none⟩) ds.length cd) rfl (fun W hS=>by have c:=ξ hS.1 1;simp[ψ] at c;clear hS;go_simp) hS0 ?_;refine zU 10 (.int .i64 ds.length) hS0 ?_;refine zq 11 fun K hK=>?_;go_simp;refine (qI0 x ds.length _ hx0 hx1 (by omega) (by omega)).mono ?_;rintro e w2 ⟨j,rfl,hj,rfl⟩;refine hK.out _ _ hS0 (fun _=>?_);clear hK K
 try simp only[zZ]
 refine zU 12 (.pointer (some ⟨gd,j,none⟩)) hS0 ?_;refine zV 13 (.pointer (some ⟨ds[j].B,0,none⟩)) rfl (fun W hS=>by have c:=ξ hS.2.2 j;rw[qL5 hcur j hj] at c;clear hS;go_simp) hS0 ?_;refine zU 14 (.pointer (some ⟨ds[j].B,0,none⟩)) hS0 ?_;refine zd ?_;clear hS0 hcur hR1 hWb1 hO1 k1;go_wp2_with fail;refine (zE1 base T w1.drew _ (HH1.out.all _ (List.getElem_mem hj) |>.keep (Kp.refl [] _).drew (Int.le_refl _) (by simp) (by simp) (by simp) (Apart.nil _ _)) hT0 (by omega) HH1.out.g0 HH1.out.hb HH1.out.hbs).mono ?_;rintro e w2 ⟨rfl,⟨g',hg',e1,e2,e3⟩,hK2⟩;have HK2:Hid (Kp [ds[j].B,ds[j].A,ds[j].C] w1 w2):=((Kp.refl _ w1).drew).trans hK2 (fun i hi _=>hi);have HX:Hid (∃ ds',WOk base (T+2) w2 Wb ds'):=⟨_,HH1.out.one j hj g' HK2.out (hg'.keep (Kp.refl [] _) (by omega) (by simp) (by simp) (by simp) (Apart.nil _ _)) e1 e2 e3 (by omega)⟩;clear hg' e1 e2 e3 hK2;go_wp2;go_ret;have hd:=HH1.out.all _ (List.getElem_mem hj);exact⟨rfl,HX.out,HB1.out.trans (HK2.out.below HH1.out.hbs (fun i hi=>by
  simp only[List.mem_cons,List.not_mem_nil,or_false] at hi;rcases hi with rfl|rfl|rfl
  ·exact hd.bB
  ·exact hd.bA
  ·exact hd.bC))⟩
theorem zS1(base Wb:Nat)(T:Int)(ds:List DG)(x y a b:Int)(s t:ByteArray)(w:World)(h:WOk base T w Wb ds)(hT0:0≤T)(hT:T≤40000)(hx0:-9223372036854775808≤x)(hx1:x≤9223372036854775807):
  Calls prog 40 #[.pointer (some ⟨Wb,0,none⟩),.agg #[.int .i64 11,.int .i64 x,.int .i64 y,.int .i64 a,.int .i64 b,.string s,.string t]] w fun e w'=>e=.returned (.bool true)∧(∃ ds',WOk base (T+2) w' Wb ds')∧Below base w w':=by
 by_cases hd:ds.length=0
 ·exact qM1 base Wb T ds 11 x y a b s t w h (fun w1=>qH9 Wb 11 x y a b s t w1 (by decide)) (Or.inl hd)
 have hbs0:=h.hbs;have hK0:Kp [] w (w.alloc (.cells #[.int .i64 11,.int .i64 x,.int .i64 y,.int .i64 a,.int .i64 b,.string s,.string t] 66)):=(Kp.refl _ _).alloc _;have HK0:=zh hK0;have HH:=zh h;clear h hK0;go_enter func40,ntmps40;go_wp2_with fail;refine (qH9 Wb 11 x y a b s t _ (by decide)).mono ?_;rintro e w1 ⟨rfl,hK1⟩;have HK1:Hid (Kp [] w w1):=HK0.out.tr hK1;have HH1:Hid (WOk base T w1 Wb ds):=HH.out.same HK1.out (Int.le_refl _);have HB1:Hid (Below base w w1):=HK1.out.below HH.out.hbs (by simp);have hO1:=hK1.heap (κ w (.cells #[.int .i64 11,.int .i64 x,.int .i64 y,.int .i64 a,.int .i64 b,.string s,.string t] 66)) (by simp);obtain⟨pk,nk,ck,xs,pd,cd,hWb1,h2,h3,h4⟩:=HH1.out.hW;obtain⟨gd,cur,rfl,hgd,hR1,hcur⟩:=qL3 h4 (by omega);have hWs:=ζ hWb1;have hOs:=ζ hO1;have hgs:=ζ hR1;have hl:=HH1.out.len;have hn0:¬((ds.length:Int)=0):=by omega
 have k1:=ξ hWb1 1;simp only[ψ,zG,zH,zI] at k1;have o0:=ξ hO1 0;simp only[zG,zH,zI] at o0;clear h2 h3 h4 hK1;go_wp2_with fail;have hS0:w1.drew.heap[Wb]?=some (ψ pk nk ck (some ⟨gd,0,none⟩) ds.length cd)∧w1.drew.heap[w.heap.size]?=some (.cells #[.int .i64 11,.int .i64 x,.int .i64 y,.int .i64 a,.int .i64 b,.string s,.string t] 66)∧w1.drew.heap[gd]?=some (.cells cur 119):=⟨hWb1,hO1,hR1⟩;refine wp_region_held_drew (S:=fun W=>W.heap[Wb]?=some (ψ pk nk ck (some ⟨gd,0,none⟩) ds.length cd)∧W.heap[w.heap.size]?=some (.cells #[.int .i64 11,.int .i64 x,.int .i64 y,.int .i64 a,.int .i64 b,.string s,.string t] 66)∧W.heap[gd]?=some (.cells cur 119)) (by kernel_rfl) hS0 (fun _=>?_);refine zP 0 Wb 0 hS0 ?_;refine zP 1 Wb 0 hS0 ?_;refine zP 2 Wb 1 hS0 ?_;refine zV 3 (.slice (some ⟨gd,0,none⟩) ds.length cd) rfl (fun W hS=>by have c:=ξ hS.1 1;simp[ψ] at c;clear hS;go_simp) hS0 ?_;refine zP 4 w.heap.size 1 hS0 ?_;refine zV 5 (.int .i64 x) rfl (fun W hS=>by have c:=ξ hS.2.1 1;simp at c;clear hS;go_simp) hS0 ?_;refine zP 6 Wb 0 hS0 ?_;refine zP 7 Wb 0 hS0 ?_;refine zP 8 Wb 1 hS0 ?_;refine zV 9 (.slice (some ⟨gd,0,none⟩) ds.length cd) rfl (fun W hS=>by have c:=ξ hS.1 1;simp[ψ] at c;clear hS;go_simp) hS0 ?_;refine zU 10 (.int .i64 ds.length) hS0 ?_;refine zq 11 fun K hK=>?_;go_simp;refine (qI0 x ds.length _ hx0 hx1 (by omega) (by omega)).mono ?_;rintro e w2 ⟨j,rfl,hj,rfl⟩;refine hK.out _ _ hS0 (fun _=>?_);clear hK K
 try simp only[zZ]
 refine zU 12 (.pointer (some ⟨gd,j,none⟩)) hS0 ?_;refine zV 13 (.pointer (some ⟨ds[j].B,0,none⟩)) rfl (fun W hS=>by have c:=ξ hS.2.2 j;rw[qL5 hcur j hj] at c;clear hS;go_simp) hS0 ?_;refine zU 14 (.pointer (some ⟨ds[j].B,0,none⟩)) hS0 ?_;refine zd ?_;clear hS0 hcur hR1 hWb1 hO1 k1;go_wp2_with fail;refine (zN6 base T w1.drew _ (HH1.out.all _ (List.getElem_mem hj) |>.keep (Kp.refl [] _).drew (Int.le_refl _) (by simp) (by simp) (by simp) (Apart.nil _ _)) hT0 (by omega) HH1.out.g0 HH1.out.hb HH1.out.hbs).mono ?_;rintro e w2 ⟨rfl,⟨g',hg',e1,e2,e3⟩,hK2⟩;have HK2:Hid (Kp [ds[j].B,ds[j].A,ds[j].C] w1 w2):=((Kp.refl _ w1).drew).trans hK2 (fun i hi _=>hi);have HX:Hid (∃ ds',WOk base (T+2) w2 Wb ds'):=⟨_,HH1.out.one j hj g' HK2.out (hg'.keep (Kp.refl [] _) (by omega) (by simp) (by simp) (by simp) (Apart.nil _ _)) e1 e2 e3 (by omega)⟩;clear hg' e1 e2 e3 hK2;go_wp2;go_ret;have hd:=HH1.out.all _ (List.getElem_mem hj);exact⟨rfl,HX.out,HB1.out.trans (HK2.out.below HH1.out.hbs (fun i hi=>by
  simp only[List.mem_cons,List.not_mem_nil,or_false] at hi;rcases hi with rfl|rfl|rfl
  ·exact hd.bB
  ·exact hd.bA
  ·exact hd.bC))⟩
theorem qH3:(prog.info? 3).map (fun i=>(i.zero,i.size,i.bytes))=some (some (.int .i64 0),1,8):=by kernel_rfl
theorem qF5:(prog.info? 119).map (fun i=>(i.zero,i.size,i.bytes))=some (some (.pointer none),1,8):=by kernel_rfl
theorem qL7(w:World)(base g:Nat)(v:Value)(n:Nat)(xs:List Value)(u:Value)(t e ty:TypeId)(z:Value)(ht:prog.underlying t=some (.slice e))(hi:(prog.info? e).map (fun i=>(i.zero,i.size,i.bytes))=some (some z,1,8))(hz:z.cells.size=1)
  (h:w.ownsRow base e 1 v n xs) (hn:n≤1000000) (hg:w.heap[g]?=some (.cells #[u] e)) (hu:u.oneCell'=true) (hb:base≤w.heap.size):
  ∃ v' w',Sem.run prog (Builtin.append_ #[t,t] ty #[v,.slice (some ⟨g,0,none⟩) 1 1]) w=.ok v' w'∧w'.ownsRow base e 1 v' (n+1) (xs++[u])∧w.grownBy w' v.ownBlock:=by
 obtain⟨i0,hi,hz0,hz1,hz2⟩:=info_parts hi;obtain⟨v',w',hr,r1,r2,r3⟩:=run_append_own (P:=prog) w base t ty e i0 _ 1 8 ht hi hz0 hz1 hz2 hz (by decide) v n _ h ⟨g,0,none⟩ 1 1 [u] (by simp) (fun j v hv=>by
  rw[qC1,ξ hg];simpa using hv) (by simpa using hu) (by unfold maxLen;omega) (by omega) hb
 exact⟨v',w',hr,r1,r2⟩
theorem qT5(Z:Array Value)(n:Nat)(h:Z.size=n)(h0:∀ v∈Z.toList,v=.int .u8 0):Z=enc (List.replicate n 0):=by
 apply Array.ext';have e:Z.toList=List.replicate n (.int .u8 0):=List.eq_replicate_iff.2 ⟨by simpa using h,h0⟩;rw[e];simp[enc,qA5]
theorem zE5(m:Nat)(h:8≤m):Fresh (List.replicate (m*128) 0):=by
 have e0:min 128 (m*128-0*128)=128:=by omega
 have e1:min 128 (m*128-1*128)=128:=by omega
 exact⟨by rw[qA7,List.drop_replicate,List.take_replicate,e0];rfl,by rw[qA7,List.drop_replicate,List.take_replicate,e1];rfl⟩
theorem qZ9(a:Int):∃ m:Nat,m<1000∧(∀ w,Calls prog 122 #[.int .i64 a] w fun e w'=>e=.returned (.int .i64 m)∧w'=w)∧
  (∀ w,Calls prog 41 #[.int .i64 a] w fun e w'=>e=.returned (.pointer (some ⟨w.heap.size+1,0,none⟩))∧w'=(w.alloc (.cells (enc (List.replicate (m*128) 0)) 115)).alloc (μ m w.heap.size (.slice none 0 0) 0 0)):=by
 by_cases ha:a<0
 ·refine⟨0,by omega,fun w=>qY2 a w ha,fun w=>(zI6 w a ha).mono ?_⟩;rintro e w' ⟨rfl,Z,hZ,hZ0,rfl⟩;exact⟨rfl,by rw[qT5 Z _ hZ hZ0]⟩
 ·have h0:=Int.emod_nonneg a (show (1000:Int)≠0 by decide);have h1:=Int.emod_lt_of_pos a (show (0:Int)<1000 by decide);refine⟨(a % 1000).toNat,by omega,fun w=>(qY1 a w ha).mono ?_,fun w=>(qQ5 (a % 1000).toNat w (by omega) a (by omega) (by omega)).mono ?_⟩
  ·rintro e w' ⟨rfl,rfl⟩;exact⟨by rw[Int.toNat_of_nonneg h0],rfl⟩
  ·rintro e w' ⟨rfl,Z,hZ,hZ0,rfl⟩;exact⟨rfl,by rw[qT5 Z _ hZ hZ0]⟩
theorem qG4{w:World}{base sz:Nat}{e:TypeId}{v:Value}{n:Nat}{xs:List Value}(h:w.ownsRow base e sz v n xs):∀ k,k∈v.ownBlock.toList→base≤k∧∃ c,w.heap[k]?=some (.cells c e):=by
 intro k hk;rcases h.2 with⟨rfl,_⟩|⟨g,cap,cur,rfl,h2,h3,h4⟩
 ·simp[Value.ownBlock] at hk
 ·simp[Value.ownBlock] at hk;subst hk;exact⟨h2,_,h3⟩
theorem WOk.more{base:Nat}{T T':Int}{w w4 w5:World}{Wb:Nat}{ds:List DG}(h:WOk base T w Wb ds){pk:Option Addr}{nk ck:Nat}{xs:List Value}{pd:Option Addr}{cd:Nat}(h1:w.heap[Wb]?=some (ψ pk nk ck pd ds.length cd))(h2:w.ownsRow base 3 1 (.slice pk nk ck) nk xs)(h3:(nk:Int)≤T)(h4:w.ownsRow base 119 1 (.slice pd ds.length cd) ds.length (qB4 ds))
  (hK4:Kp [] w w4) (g:DG) (hg:DOk base T' w4 g) (hgB:w.heap.size≤g.B) (hgA:w.heap.size≤g.A) (hgC:w.heap.size≤g.C) (o:Obj) {g5 c5:Nat} (hrow5:w5.ownsRow base 119 1 (.slice (some ⟨g5,0,none⟩) (ds.length+1) c5) (ds.length+1) (qB4 ds++[.pointer (some ⟨g.B,0,none⟩)])) (hgr5:(w4.alloc o).grownBy w5 (Value.slice pd ds.length cd).ownBlock) (hT:T+2≤T'):
  WOk base T' (w5.setCell ⟨Wb,1,none⟩ (.slice (some ⟨g5,0,none⟩) (ds.length+1) c5)) Wb (ds++[g])∧Below base w (w5.setCell ⟨Wb,1,none⟩ (.slice (some ⟨g5,0,none⟩) (ds.length+1) c5)):=by
 have hat:=qG4 h4;have hlt:=ζ h1;generalize hS:(Value.slice pd ds.length cd).ownBlock=r at *;have hWS:Wb ∉ r.toList:=fun hm=>by
  obtain⟨_,c,hc⟩:=hat _ hm;rw[h1] at hc;cases hc
 have hK5:Kp r.toList w w5:=((hK4.mono (S':=r.toList) (by simp)).alloc o).grown hgr5 (fun k hk=>Or.inl (by simp[hk]));have hW5:=hK5.heap h1 hWS;have hK:Kp (Wb::r.toList) w (w5.setCell ⟨Wb,1,none⟩ (.slice (some ⟨g5,0,none⟩) (ds.length+1) c5)):=(hK5.mono (S':=Wb::r.toList) (fun i hi _=>List.mem_cons_of_mem _ hi)).sc _;have hF:qG8 base w (Wb::r.toList):=fun k hk=>by
  rcases List.mem_cons.1 hk with rfl|hk
  ·exact⟨h.bW,_,_,_,h1,by decide,by decide,by decide,by decide⟩
  ·obtain⟨hb,c,hc⟩:=hat _ hk;exact⟨hb,_,_,_,hc,by decide,by decide,by decide,by decide⟩
 have hKg:Kp (Wb::r.toList) w4 (w5.setCell ⟨Wb,1,none⟩ (.slice (some ⟨g5,0,none⟩) (ds.length+1) c5)):=(((Kp.refl _ _).alloc o).grown hgr5 (fun k hk=>Or.inl (by simp[hk]))).sc _;have hold:∀ k,w.heap.size≤k→k ∉ Wb::r.toList:=fun k hk hm=>by
  obtain⟨_,_,_,_,hc,_⟩:=hF k hm;have:=ζ hc;omega
 have hg':DOk base T' (w5.setCell ⟨Wb,1,none⟩ (.slice (some ⟨g5,0,none⟩) (ds.length+1) c5)) g:=hg.keep hKg (Int.le_refl _) (hold _ hgB) (hold _ hgA) (hold _ hgC) (fun k hk=>by
  obtain⟨_,_,_,_,hc,_,_,_,hu⟩:=hF k hk;exact⟨_,_,_,hK4.hp hc,hu⟩)
 have hl:=h.len;refine⟨h.turn hK hF (by omega) [g] (fun x hx=>by rw[List.mem_singleton.1 hx];exact⟨hg',hgB,hgA,hgC⟩) (by simp) ⟨pk,nk,ck,xs,some ⟨g5,0,none⟩,c5,?_,qC3 h2 hK (fun k hk=>?_),by omega,?_⟩ (by simp;omega),hK.below h.hbs (fun k hk=>(hF k hk).1)⟩
 ·rw[List.length_append];exact θ hW5 1 _
 ·rcases List.mem_cons.1 hk with rfl|hk
  ·exact⟨_,_,_,h1,by decide⟩
  ·obtain⟨hb,c,hc⟩:=hat _ hk;exact⟨_,_,_,hc,by decide⟩
 ·have e:qB4 (ds++[g])=qB4 ds++[.pointer (some ⟨g.B,0,none⟩)]:=by simp[qB4]
  rw[e,List.length_append];exact qC3 hrow5 (S:=[Wb]) ((Kp.refl _ _).sc _) (fun k hk=>by rw[List.mem_singleton.1 hk];exact⟨_,_,_,hW5,by decide⟩)
theorem zO8(base Wb:Nat)(T:Int)(ds:List DG)(x y a b:Int)(s t:ByteArray)(w:World)(h:WOk base T w Wb ds)(hT:T≤50000):
  Calls prog 78 #[.pointer (some ⟨Wb,0,none⟩),.agg #[.int .i64 3,.int .i64 x,.int .i64 y,.int .i64 a,.int .i64 b,.string s,.string t]] w fun e w'=>e=.returned (.bool true)∧(∃ ds',WOk base (T+2) w' Wb ds')∧Below base w w':=by
 have h':=h;obtain⟨pk,nk,ck,xs,pd,cd,h1,h2,h3,h4⟩:=h.hW;have HH:=zh h';have hWs:=ζ h1;obtain⟨m,hm,hblk,hnew⟩:=qZ9 a;have HBL:=zh hblk;have HND:=zh hnew;clear h h' hblk hnew;go_enter func78,ntmps78
 go_wp2_with (go_at_call 122;refine (HBL.out _).mono ?_;rintro e w' ⟨rfl,rfl⟩)
 refine (HND.out _).mono ?_;rintro e w3 ⟨rfl,rfl⟩;have hsz:((w.alloc (.cells #[.int .i64 3,.int .i64 x,.int .i64 y,.int .i64 a,.int .i64 b,.string s,.string t] 66)).alloc (.cells #[.pointer none,.int .i64 m,.slice none 0 0,.bool false,.slice none 0 0,.bool false,.bool false,.pointer none,.slice none 0 0,.int .i64 0,.bool false,.slice none 0 0,.slice none 0 0,.slice none 0 0] 130)).heap.size=w.heap.size+2:=by simp
 rw[hsz];obtain⟨w3,hw3,hD3,hC3,hA3,hK3,hs3⟩:∃ w3,w3=((((w.alloc (.cells #[.int .i64 3,.int .i64 x,.int .i64 y,.int .i64 a,.int .i64 b,.string s,.string t] 66)).alloc (.cells #[.pointer none,.int .i64 m,.slice none 0 0,.bool false,.slice none 0 0,.bool false,.bool false,.pointer none,.slice none 0 0,.int .i64 0,.bool false,.slice none 0 0,.slice none 0 0,.slice none 0 0] 130)).alloc (.cells (enc (List.replicate (m*128) 0)) 115)).alloc (μ m (w.heap.size+2) (.slice none 0 0) 0 0))∧w3.heap[w.heap.size+1]?=some (.cells #[.pointer none,.int .i64 m,.slice none 0 0,.bool false,.slice none 0 0,.bool false,.bool false,.pointer none,.slice none 0 0,.int .i64 0,.bool false,.slice none 0 0,.slice none 0 0,.slice none 0 0] 130)∧w3.heap[w.heap.size+2]?=some (.cells (enc (List.replicate (m*128) 0)) 115)∧w3.heap[w.heap.size+3]?=some (μ m (w.heap.size+2) (.slice none 0 0) 0 0)∧Kp [] w w3∧w3.heap.size=w.heap.size+4:=by
  generalize Obj.cells #[.int .i64 3,.int .i64 x,.int .i64 y,.int .i64 a,.int .i64 b,.string s,.string t] 66=o1;generalize Obj.cells #[.pointer none,.int .i64 m,.slice none 0 0,.bool false,.slice none 0 0,.bool false,.bool false,.pointer none,.slice none 0 0,.int .i64 0,.bool false,.slice none 0 0,.slice none 0 0,.slice none 0 0] 130=o2;generalize Obj.cells (enc (List.replicate (m*128) 0)) 115=o3;generalize μ m (w.heap.size+2) (.slice none 0 0) 0 0=o4;refine⟨_,rfl,η _ (η _ ?_),η _ ?_,?_,((((Kp.refl _ _).alloc _).alloc _).alloc _).alloc _,by simp⟩
  ·have e:=κ (w.alloc o1) o2;simpa using e
  ·have e:=κ ((w.alloc o1).alloc o2) o3;simpa using e
  ·have e:=κ (((w.alloc o1).alloc o2).alloc o3) o4;simpa using e
 rw[←hw3];clear hw3 hsz;have hW3:=hK3.hp h1;have h23:=qC3 h2 hK3 (Apart.nil _ _);have h43:=qC3 h4 hK3 (Apart.nil _ _);obtain⟨w4,hw4,hD4,hC4,hA4,hW4,hK4,hs4⟩:∃ w4,w4=w3.setCell ⟨w.heap.size+1,0,none⟩ (.pointer (some ⟨w.heap.size+3,0,none⟩))∧w4.heap[w.heap.size+1]?=some (ι (w.heap.size+3) m (.slice none 0 0) (.slice none 0 0) none)∧w4.heap[w.heap.size+2]?=some (.cells (enc (List.replicate (m*128) 0)) 115)∧w4.heap[w.heap.size+3]?=some (μ m (w.heap.size+2) (.slice none 0 0) 0 0)∧w4.heap[Wb]?=some (ψ pk nk ck pd ds.length cd)∧Kp [] w w4∧w4.heap.size=w.heap.size+4:=
  ⟨_,rfl,θ hD3 0 _,(ρ (by omega) _ _).trans hC3,(ρ (by omega) _ _).trans hA3,(ρ (by omega) _ _).trans hW3,hK3.setCell (Or.inr (by simp)) _,by simp[World.setCell,hs3]⟩
 have h24:=qC3 h2 hK4 (Apart.nil _ _);have h44:=qC3 h4 hK4 (Apart.nil _ _);have hl:=HH.out.len;have hbs:=HH.out.hbs;obtain⟨v5,w5,hr5,hrow5,hgr5⟩:=qL7 (w4.alloc (.cells #[.pointer (some ⟨w.heap.size+1,0,none⟩)] 119)) base w4.heap.size (.slice pd ds.length cd) ds.length (qB4 ds) (.pointer (some ⟨w.heap.size+1,0,none⟩)) 68 119 68 (.pointer none) underlying68 qF5 rfl (h44.alloc _) (by omega) (κ _ _) rfl (by simp;omega);obtain⟨g5,c5,rfl⟩:=qD3 hrow5;have hgr:=zh hgr5;have hrw:=zh hrow5;have hW5:w5.heap[Wb]?=some (ψ pk nk ck pd ds.length cd):=by
  have hat:=qG4 h44;refine Kp.heap (S:=(Value.slice pd ds.length cd).ownBlock.toList) (((Kp.refl _ w4).alloc _).grown hgr5 (fun k hk=>Or.inl (by simp[hk]))) hW4 (fun hm=>?_);obtain⟨_,c,hc⟩:=hat _ hm;rw[hW4] at hc;cases hc
 have HDOk:Hid (DOk base (T+2) w4 ⟨w.heap.size+1,w.heap.size+3,w.heap.size+2,m,List.replicate (m*128) 0,0,0,0,none,0,0,none,0,0,none⟩):=by
  have hT0:=HH.out.len;exact⟨by show base≤w.heap.size+1;omega,by show base≤w.heap.size+3;omega,by show base≤w.heap.size+2;omega,hD4,hA4,hC4,by simp,hm,by simp,by show (0:Int)≤6*(T+2);omega,by simp,by show (0:Int)≤2*(T+2);omega,by show ((0:Nat):Int)≤T+2;omega,World.ownsRow_nil _ _ _ _,World.ownsRow_nil _ _ _ _,.inl ⟨fun h8=>zE5 m h8,rfl,rfl⟩⟩
 have HK4:=zh hK4;have d0:=ξ hD3 0;simp only[zG,zH,zI] at d0;have fd0:=τ hD3 0;have u1:=ξ hW4 1;simp only[ψ,zG,zH,zI] at u1;have v1:=ξ hW5 1;simp only[ψ,zG,zH,zI] at v1;have fv1:=τ hW5 1;have HW4:=zh hw4;have hz4:w4.heap.size=w3.heap.size:=by rw[hs4,hs3]
 rw[hz4] at hr5;rw[hw4] at hr5 u1;clear hz4;have H1:Hid (w.heap[Wb]?=some (ψ pk nk ck pd ds.length cd)∧w.ownsRow base 3 1 (.slice pk nk ck) nk xs∧(nk:Int)≤T∧w.ownsRow base 119 1 (.slice pd ds.length cd) ds.length (qB4 ds)):=⟨h1,h2,h3,h4⟩;clear hrow5 hgr5 hw4 hs3 hs4 hK3 hK4 hD3 hC3 hA3 hW3 h23 h43 hD4 hC4 hA4 hW4 h24 h44 h1 h2 h3 h4 hW5
 go_wp2_with (at_builtin;((with_reducible refine qG0 ?_ ?_ hr5 ?_);rfl;rfl))
 go_ret;obtain⟨h1,h2,h3,h4⟩:=H1.out;obtain⟨q1,q2⟩:=HH.out.more h1 h2 h3 h4 HK4.out _ HDOk.out (by simp) (by simp) (by simp) _ hrw.out hgr.out (Int.le_refl _);exact⟨rfl,⟨_,q1⟩,q2⟩
theorem qE7{P:Program}{a:Act}{w w':World}{o:Oper}{s x:Operand}{t:TypeId}{vs vx v':Value}(ho:o.op=.call { callee:=.builtin .append,args:=#[s,x],argTypes:=#[t,t] })(hs:a.eval s=vs)(hx:a.eval x=vx)(hr:Sem.run P (Builtin.append_ #[t,t] o.type #[vs,vx]) w=.ok v' w'):Sem.run P (execOp a.eval o) w=.ok (.value v') w':=by
 unfold execOp;simp only[ho,resolve,invoke,builtin,Sem.run_bind,Sem.run_pure,Result.andThen_ok,List.map_toArray,List.map_cons,List.map_nil,hs,hx,hr]
theorem WOk.grew{base:Nat}{T T':Int}{w w4 w5:World}{Wb:Nat}{ds:List DG}(h:WOk base T w Wb ds){pk:Option Addr}{nk ck:Nat}{xs ys:List Value}{pd:Option Addr}{cd:Nat}(h1:w.heap[Wb]?=some (ψ pk nk ck pd ds.length cd))(h2:w.ownsRow base 3 1 (.slice pk nk ck) nk xs)(h3:(nk:Int)≤T)(h4:w.ownsRow base 119 1 (.slice pd ds.length cd) ds.length (qB4 ds))
  (hK4:Kp [] w w4) (o:Obj) {g5 c5:Nat} (hrow5:w5.ownsRow base 3 1 (.slice (some ⟨g5,0,none⟩) (nk+1) c5) (nk+1) ys) (hgr5:(w4.alloc o).grownBy w5 (Value.slice pk nk ck).ownBlock) (hT:T+2≤T'):
  WOk base T' (w5.setCell ⟨Wb,0,none⟩ (.slice (some ⟨g5,0,none⟩) (nk+1) c5)) Wb (ds++[])∧Below base w (w5.setCell ⟨Wb,0,none⟩ (.slice (some ⟨g5,0,none⟩) (nk+1) c5)):=by
 have hat:=qG4 h2;have hlt:=ζ h1;generalize hS:(Value.slice pk nk ck).ownBlock=r at *;have hWS:Wb ∉ r.toList:=fun hm=>by
  obtain⟨_,c,hc⟩:=hat _ hm;rw[h1] at hc;cases hc
 have hK5:Kp r.toList w w5:=((hK4.mono (S':=r.toList) (by simp)).alloc o).grown hgr5 (fun k hk=>Or.inl (by simp[hk]));have hW5:=hK5.heap h1 hWS;have hK:Kp (Wb::r.toList) w (w5.setCell ⟨Wb,0,none⟩ (.slice (some ⟨g5,0,none⟩) (nk+1) c5)):=(hK5.mono (S':=Wb::r.toList) (fun i hi _=>List.mem_cons_of_mem _ hi)).sc _;have hF:qG8 base w (Wb::r.toList):=fun k hk=>by
  rcases List.mem_cons.1 hk with rfl|hk
  ·exact⟨h.bW,_,_,_,h1,by decide,by decide,by decide,by decide⟩
  ·obtain⟨hb,c,hc⟩:=hat _ hk;exact⟨hb,_,_,_,hc,by decide,by decide,by decide,by decide⟩
 have hl:=h.len;refine⟨h.turn hK hF (by omega) [] (by simp) (by simp) ⟨some ⟨g5,0,none⟩,nk+1,c5,ys,pd,cd,?_,?_,by omega,?_⟩ (by simp;omega),hK.below h.hbs (fun k hk=>(hF k hk).1)⟩
 ·rw[List.append_nil];exact θ hW5 0 _
 ·exact qC3 hrow5 (S:=[Wb]) ((Kp.refl _ _).sc _) (fun k hk=>by rw[List.mem_singleton.1 hk];exact⟨_,_,_,hW5,by decide⟩)
 ·rw[List.append_nil];exact qC3 h4 hK (fun k hk=>by
   rcases List.mem_cons.1 hk with rfl|hk
   ·exact⟨_,_,_,h1,by decide⟩
   ·obtain⟨hb,c,hc⟩:=hat _ hk;exact⟨_,_,_,hc,by decide⟩)
theorem zO9(base Wb:Nat)(T:Int)(ds:List DG)(x y a b:Int)(s t:ByteArray)(w:World)(h:WOk base T w Wb ds)(hT:T≤50000):
  Calls prog 78 #[.pointer (some ⟨Wb,0,none⟩),.agg #[.int .i64 1,.int .i64 x,.int .i64 y,.int .i64 a,.int .i64 b,.string s,.string t]] w fun e w'=>e=.returned (.bool true)∧(∃ ds',WOk base (T+2) w' Wb ds')∧Below base w w':=by
 have h':=h;obtain⟨pk,nk,ck,xs,pd,cd,h1,h2,h3,h4⟩:=h.hW;have HH:=zh h';have hWs:=ζ h1;have hbs:=h.hbs;have H1:Hid (w.heap[Wb]?=some (ψ pk nk ck pd ds.length cd)∧w.ownsRow base 3 1 (.slice pk nk ck) nk xs∧(nk:Int)≤T∧w.ownsRow base 119 1 (.slice pd ds.length cd) ds.length (qB4 ds)):=⟨h1,h2,h3,h4⟩;clear h h';go_enter func78,ntmps78;go_wp2_with fail;obtain⟨W1,hW1,hO1,hWb1,hK1⟩:∃ W1,W1=w.alloc (.cells #[.int .i64 1,.int .i64 x,.int .i64 y,.int .i64 a,.int .i64 b,.string s,.string t] 66)∧W1.heap[w.heap.size]?=some (.cells #[.int .i64 1,.int .i64 x,.int .i64 y,.int .i64 a,.int .i64 b,.string s,.string t] 66)∧W1.heap[Wb]?=some (ψ pk nk ck pd ds.length cd)∧Kp [] w W1:=⟨_,rfl,κ _ _,η _ h1,(Kp.refl _ _).alloc _⟩;rw[←hW1];clear hW1;have h2d:W1.drew.ownsRow base 3 1 (.slice pk nk ck) nk xs:=qC3 h2 hK1.drew (Apart.nil _ _);have hs1:=hK1.size;obtain⟨v5,w5,hr5,hrow5,hgr5⟩:=qL7 (W1.drew.alloc (.cells #[.int .i64 a] 3)) base W1.drew.heap.size (.slice pk nk ck) nk xs (.int .i64 a) 24 3 24 (.int .i64 0) underlying24 qH3 rfl (h2d.alloc _) (by omega) (κ _ _) rfl (by simp;omega);obtain⟨g5,c5,rfl⟩:=qD3 hrow5;have hW5:w5.heap[Wb]?=some (ψ pk nk ck pd ds.length cd):=by
  have hat:=qG4 h2d;refine Kp.heap (S:=(Value.slice pk nk ck).ownBlock.toList) (((Kp.refl _ W1.drew).alloc _).grown hgr5 (fun k hk=>Or.inl (by simp[hk]))) hWb1 (fun hm=>?_);obtain⟨_,c,hc⟩:=hat _ hm;rw[show W1.drew.heap[Wb]?=W1.heap[Wb]? from rfl,hWb1] at hc;cases hc
 have HG:=zh hgr5;have HR:=zh hrow5;have HK:=zh hK1;have k0:=ξ hWb1 0;simp only[ψ,zG,zH,zI] at k0;have o3:=ξ hO1 3;simp only[zG,zH,zI] at o3;have v0:=ξ hW5 0;simp only[ψ,zG,zH,zI] at v0;have fv0:=τ hW5 0;have hWs1:=ζ hWb1;have hOs1:=ζ hO1;clear hrow5 hgr5 hK1 hW5 h1 h2 h3 h4 h2d hs1 hWb1 hO1;refine wp_region_any (by kernel_rfl) ?_;change wpAny _ _ _ _ _ _ _ (World.drew _);refine zu 0 (.pointer (some ⟨Wb,0,none⟩)) ?_;refine zu 1 (.pointer (some ⟨Wb,0,none⟩)) ?_;refine zu 2 (.pointer (some ⟨Wb,0,none⟩)) ?_;refine zu 3 (.pointer (some ⟨Wb,0,none⟩)) ?_;refine zu 5 (.pointer (some ⟨w.heap.size,3,none⟩)) ?_;refine wpAny_ready (rs:=[4,6]) (by kernel_rfl) (by simp) ?_;refine AllReady.cons rfl (fun K hK=>?_) (AllReady.cons rfl (fun K hK=>?_) AllReady.nil)
 ·go_simp;refine hK _ _ ?_;clear hK K
  try simp only[zZ]
  refine zQ 6 fun K hK=>?_;go_simp;refine hK _ _ ?_;clear hK K
  try simp only[zZ]
  refine zQ 7 fun K hK=>?_;refine qA0 rfl (qD2 rfl (.int .i64 a) _ _ _ underlying24 qH3 rfl rfl (by decide) (by decide)) ?_;refine hK _ _ ?_;clear hK K
  try simp only[zZ]
  refine zQ 8 fun K hK=>?_;refine qA0 rfl (qE7 rfl rfl rfl hr5) ?_;refine hK _ _ ?_;clear hK K
  try simp only[zZ]
  refine zu 9 (.pointer (some ⟨Wb,0,none⟩)) ?_;refine zu 10 (.pointer (some ⟨Wb,0,none⟩)) ?_;refine zQ 11 fun K hK=>?_;go_simp;refine hK _ _ ?_;clear hK K;refine wpAny_done (by kernel_rfl) ?_ _;go_wp2;go_ret;obtain⟨h1,h2,h3,h4⟩:=H1.out;obtain⟨q1,q2⟩:=HH.out.grew h1 h2 h3 h4 HK.out.drew _ HR.out HG.out (Int.le_refl _);exact⟨rfl,⟨_,q1⟩,q2⟩
 ·go_simp;refine hK _ _ ?_;clear hK K
  try simp only[zZ]
  refine wpAny_ready (rs:=[4,7]) (by kernel_rfl) (by simp) ?_;refine AllReady.cons rfl (fun K hK=>?_) (AllReady.cons rfl (fun K hK=>?_) AllReady.nil)
  ·go_simp;refine hK _ _ ?_;clear hK K
   try simp only[zZ]
   refine zQ 7 fun K hK=>?_;refine qA0 rfl (qD2 rfl (.int .i64 a) _ _ _ underlying24 qH3 rfl rfl (by decide) (by decide)) ?_;refine hK _ _ ?_;clear hK K
   try simp only[zZ]
   refine zQ 8 fun K hK=>?_;refine qA0 rfl (qE7 rfl rfl rfl hr5) ?_;refine hK _ _ ?_;clear hK K
   try simp only[zZ]
   refine zu 9 (.pointer (some ⟨Wb,0,none⟩)) ?_;refine zu 10 (.pointer (some ⟨Wb,0,none⟩)) ?_;refine zQ 11 fun K hK=>?_;go_simp;refine hK _ _ ?_;clear hK K;refine wpAny_done (by kernel_rfl) ?_ _;go_wp2;go_ret;obtain⟨h1,h2,h3,h4⟩:=H1.out;obtain⟨q1,q2⟩:=HH.out.grew h1 h2 h3 h4 HK.out.drew _ HR.out HG.out (Int.le_refl _);exact⟨rfl,⟨_,q1⟩,q2⟩
  ·refine qA0 rfl (qD2 rfl (.int .i64 a) _ _ _ underlying24 qH3 rfl rfl (by decide) (by decide)) ?_;refine hK _ _ ?_;clear hK K
   try simp only[zZ]
   refine zQ 4 fun K hK=>?_;go_simp;refine hK _ _ ?_;clear hK K
   try simp only[zZ]
   refine zQ 8 fun K hK=>?_;refine qA0 rfl (qE7 rfl rfl rfl hr5) ?_;refine hK _ _ ?_;clear hK K
   try simp only[zZ]
   refine zu 9 (.pointer (some ⟨Wb,0,none⟩)) ?_;refine zu 10 (.pointer (some ⟨Wb,0,none⟩)) ?_;refine zQ 11 fun K hK=>?_;go_simp;refine hK _ _ ?_;clear hK K;refine wpAny_done (by kernel_rfl) ?_ _;go_wp2;go_ret;obtain⟨h1,h2,h3,h4⟩:=H1.out;obtain⟨q1,q2⟩:=HH.out.grew h1 h2 h3 h4 HK.out.drew _ HR.out HG.out (Int.le_refl _);exact⟨rfl,⟨_,q1⟩,q2⟩
end Go.Proofs.YtdohpenfkdckiaaGreatDoor
