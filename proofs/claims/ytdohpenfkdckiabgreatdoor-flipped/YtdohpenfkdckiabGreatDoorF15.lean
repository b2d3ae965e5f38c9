import Derived.Test.YtdohpenfkdckiabGreatDoorF14
set_option linter.all false
set_option maxRecDepth 100000
set_option maxHeartbeats 20000000
namespace Go.Proofs.YtdohpenfkdckiabGreatDoor
open Go.Proofs.Tryz
open Go.RowKit
variable {κ:Nat}
theorem jB9(wn:Int)(V A N C base F:Nat)(O:qE8)(hO:∀ (n b:Nat) (s:Int) (t:Tn n),O n b s t→b≤1000000∧0≤s)(n:Nat)(IH:qV3 κ wn V A N C base F O n)(hVA:V≠A)(hNN:N≤1000)(h r:HL)(q:Nat)(L:Lnk (Tn (n+1)))(b:Nat)(fr0 fr:List Nat)(ws:List (Nat × List UInt8))(w:World)
  (hy:Ly κ wn V A N C base F ws fr0 w) (hp:h.p=some q) (hq:RN O (n+1) w q L.sub) (hlv:n+1<256) (hok:∀ m∈η L.sub,OkL n m) (hm:2+meas qA2 (η L.sub)≤128) (hnl:(η L.sub).length≤126)
  (hn:meas (news n) (η L.sub)≤fr0.length) (hf:∀ b∈fr0,b<N) (hl:ws.length+fr0.length≤100000) (hfr:(qB1 (ι n) (η L.sub) fr0).2.2=b::fr):
  Calls prog 106 #[υ V r,qC2 h,qQ2 F] w fun e w'=>e=.returned (qC2 ⟨h.key,(b:Int),fnv (qA1 ((n+1:Nat):Int) [] ((qB1 (ι n) (η L.sub) fr0).1.map lhl)),none⟩)∧
   Ly κ wn V A N C base F (ws++(qB1 (ι n) (η L.sub) fr0).2.1++[(b,toB (qA1 ((n+1:Nat):Int) [] ((qB1 (ι n) (η L.sub) fr0).1.map lhl)))]) fr w'∧Wx base [A,F] w w':=by
 obtain⟨vl,hq,hs,hsl,hbo⟩:=hq;obtain⟨lb,lc,rfl⟩:=qK4 hsl;obtain⟨ln,hln⟩:∃ ln,ln=hs.length:=⟨_,rfl⟩;obtain⟨pb,hpb⟩:∃ pb:Option Addr,pb=none:=⟨_,rfl⟩;obtain⟨pn,hpn⟩:∃ pn,pn=0:=⟨_,rfl⟩;obtain⟨pc,hpc⟩:∃ pc,pc=0:=⟨_,rfl⟩;obtain⟨lv,hlve⟩:∃ lv:Int,lv=((n+1:Nat):Int):=⟨_,rfl⟩;obtain⟨vl,hvl⟩:∃ vl,vl=Value.slice lb ln lc:=⟨_,rfl⟩;rw[←hlve,←hln,←hvl] at hq;rw[←hln] at hsl;have hq':w.heap[q]?=some (ρ lv (.slice pb pn pc) vl):=by rw[hpb,hpn,hpc];exact hq
 have HQ:=zh hq';have HPN:Hid (pb=none∧pn=0∧pc=0∧lv=((n+1:Nat):Int)∧vl=.slice lb ln lc∧ln=hs.length):=⟨hpb,hpn,hpc,hlve,hvl,hln⟩;have HSL:=zh hsl;have HBO:=zh hbo;have hqs:=ζ hq;have HY:=zh hy;have hptr:h.ptr=some ⟨q,0,none⟩:=by simp[HL.ptr,hp]
 rw[υ,qC2,hptr,qQ2];obtain⟨R,hRe⟩:∃ R,R=qB1 (ι n) (η L.sub) fr0:=⟨_,rfl⟩;rw[←hRe];have HRE:Hid (R=qB1 (ι n) (η L.sub) fr0∧(qB1 (ι n) (η L.sub) fr0).2.2=b::fr):=⟨hRe,hfr⟩;clear hq hq' hy hp hptr hpb hpn hpc hlve hvl hln hsl hbo hRe hfr;go_enter func106,ntmps106;go_wp2_with fail;obtain⟨w0,hw0,hT0,hL0,hR0,hK0,hs0⟩:=qV5 w (.cells #[.pointer (some ⟨V,0,none⟩),.string r.key,.int .i64 r.b,.int .u64 r.s,.pointer r.ptr] 83) (.cells #[.string h.key,.int .i64 h.b,.int .u64 h.s,.pointer (some ⟨q,0,none⟩)] 81) (.cells qJ2 81);unfold qJ2 at hR0 hw0;rw[←hw0];clear hw0;have hS0:w0.drew.heap[w.heap.size+1]?=some (.cells #[.string h.key,.int .i64 h.b,.int .u64 h.s,.pointer (some ⟨q,0,none⟩)] 81)∧w0.drew.heap[q]?=some (ρ lv (.slice pb pn pc) vl):=⟨hL0,hK0.hp HQ.out⟩;refine wp_region_held_drew (S:=fun W=>W.heap[w.heap.size+1]?=some (.cells #[.string h.key,.int .i64 h.b,.int .u64 h.s,.pointer (some ⟨q,0,none⟩)] 81)∧W.heap[q]?=some (ρ lv (.slice pb pn pc) vl)) (by kernel_rfl) hS0 (fun _=>?_);refine zU 0 (.pointer (some ⟨w.heap.size+1,3,none⟩)) hS0 ?_;refine zV 1 (.pointer (some ⟨q,0,none⟩)) rfl (fun W hS=>by have a:=ξ hS.1 3;simp only[zG,zH,zI] at a;clear hS;go_simp) hS0 ?_;refine zV 2 (.pointer (some ⟨q,0,none⟩)) rfl (fun W hS=>by have c:=ζ hS.2;clear hS;go_simp) hS0 ?_;refine zP 3 q 0 hS0 ?_;refine zV 4 (.int .i64 lv) rfl (fun W hS=>by have a:=ξ hS.2 0;simp only[ρ,zG,zH,zI] at a;clear hS;go_simp) hS0 ?_;refine zU 5 (.pointer (some ⟨w.heap.size+1,3,none⟩)) hS0 ?_;refine zV 6 (.pointer (some ⟨q,0,none⟩)) rfl (fun W hS=>by have a:=ξ hS.1 3;simp only[zG,zH,zI] at a;clear hS;go_simp) hS0 ?_;refine zV 7 (.pointer (some ⟨q,0,none⟩)) rfl (fun W hS=>by have c:=ζ hS.2;clear hS;go_simp) hS0 ?_;refine zP 8 q 1 hS0 ?_;refine zV 9 (.slice pb pn pc) rfl (fun W hS=>by have a:=ξ hS.2 1;simp only[ρ,zG,zH,zI] at a;clear hS;go_simp) hS0 ?_;refine zU 10 (.agg #[.int .i64 lv,.slice pb pn pc,.slice none 0 0]) hS0 ?_;refine zq 11 fun K hK=>?_;go_simp;obtain⟨w1,hw1,hN1,hK1⟩:∃ w1,w1=(w0.alloc (.cells #[.int .i64 0,.slice none 0 0,.slice none 0 0] 152)).drew∧w1.heap[w.heap.size+3]?=some (.cells #[.int .i64 0,.slice none 0 0,.slice none 0 0] 152)∧Kp [] w0 w1:=⟨_,rfl,by rw[←hs0];exact ν w0 _,((Kp.refl _ _).alloc _).drew⟩;rw[←hw1];have hs1:w1.heap.size=w.heap.size+4:=by rw[hw1];simp[hs0]
 clear hw1;refine hK.out _ _ ⟨hK1.hp hS0.1,hK1.hp hS0.2⟩ (fun _=>?_);clear hK K
 try simp only[zZ]
 refine zq 12 fun K hK=>?_;have z0:=ξ hN1;have f0:=ω hN1;have hN1s:=ζ hN1;have HN1:=zh hN1;clear hN1;go_simp;obtain⟨w2,hw2,hN2,hK2⟩:∃ w2,w2=((w1.setCell ⟨w.heap.size+3,0,none⟩ (.int .i64 lv)).setCell ⟨w.heap.size+3,1,none⟩ (.slice pb pn pc)).setCell ⟨w.heap.size+3,2,none⟩ (.slice none 0 0)∧w2.heap[w.heap.size+3]?=some (ρ lv (.slice pb pn pc) (.slice none 0 0))∧Kp [w.heap.size+3] w1 w2:=
  ⟨_,rfl,ψ (ψ (ψ HN1.out 0 _) 1 _) 2 _,(((Kp.refl _ _).sc _).sc _).sc _⟩
 rw[←hw2];clear hw2 z0 f0;have hKw2:Kp [] w w2:=(hK0.tr hK1).tr hK2;have hK02:Kp [] w0 w2:=hK1.trans hK2 (by simp;omega);have hS2:=And.intro (hK02.hp hS0.1) (hK02.hp hS0.2);refine hK.out _ _ hS2 (fun _=>?_);clear hK K;refine zd ?_
 try simp only[zZ]
 have hs2:w.heap.size+4≤w2.heap.size:=by have:=hK2.size;omega
 have hT2:=hK02.hp hT0;have hR2:=hK02.hp hR0;have l3:=ξ hS2.1 3;have q2:=ξ hS2.2 2;simp only[ρ,zG,zH,zI] at l3 q2;have HL2:=zh hS2.1;have HT2:=zh hT2;have HR2:=zh hR2;have HN2:=zh hN2;have HK2:=zh hKw2;have hqs2:=ζ hS2.2;clear hS0 hS2 hT2 hR2 hN2 hKw2 hK02 hK2 hK1 hK0 hT0 hL0 hR0 HN1 hN1s hs1 hs0;rw[HPN.out.2.2.2.2.1] at q2;have hAs:A<w.heap.size:=by obtain⟨v,c1,h1,_⟩:=HY.out.hA;exact ζ h1
 have hFs:F<w.heap.size:=by obtain⟨vf,h1,_⟩:=HY.out.hF;exact ζ h1
 have HY2:Hid (Ly κ wn V A N C base F ws fr0 w2):=HY.out.keep HK2.out;have HW2:Hid (Wx base [A,F] w w2):=Wx.ofKp (HK2.out.mono (by simp)) HY.out.low;go_wp2_with fail
 go_loopw [31] (fun i wr=>∃ (j:Nat) (vj:Value),j≤ln∧i=.int .i64 j∧w.heap.size+4≤wr.heap.size∧Hid (wr.heap[w.heap.size+1]?=some (.cells #[.string h.key,.int .i64 h.b,.int .u64 h.s,.pointer (some ⟨q,0,none⟩)] 81))∧Hid (wr.heap[w.heap.size]?=some (.cells #[.pointer (some ⟨V,0,none⟩),.string r.key,.int .i64 r.b,.int .u64 r.s,.pointer r.ptr] 83))∧Hid (wr.heap[w.heap.size+1+1]?=some (.cells #[.string ⟨#[]⟩,.int .i64 0,.int .u64 0,.pointer none] 81))∧Hid (wr.heap[w.heap.size+3]?=some (ρ lv (.slice pb pn pc) vj))∧Hid (wr.ownsRow (w.heap.size+4) 81 4 vj j (qA5 ((qB1 (ι n) ((η L.sub).take j) fr0).1.map lhl)))∧Hid (Ly κ wn V A N C base F (ws++(qB1 (ι n) ((η L.sub).take j) fr0).2.1) (qB1 (ι n) ((η L.sub).take j) fr0).2.2 wr)∧Hid (Wx base [A,F] w wr)) (fun i _=>ln-(intOf i).toNat)
 case atStart=>exact⟨0,.slice none 0 0,Nat.zero_le _,rfl,hs2,HL2,HT2,HR2,HN2,by show World.ownsRow _ _ _ _ _ _ _;exact World.ownsRow_nil _ _ _ _,by show Ly _ _ _ _ _ _ _ _ _ _ _;simpa [qB1] using HY2.out,HW2⟩
 case round=>
  obtain⟨j,vj,hj,rfl,hsw,HLr,HTr,HRr,HNr,HOr,HYr,HWr⟩:=hrel;clear l3 q2 HL2 HT2 HR2 HN2 HY2 HW2 hs2 hqs2;by_cases hlt:j<ln
  ·have hjl:j<hs.length:=by have:=HPN.out;omega
   have hjm:j<(η L.sub).length:=by rw[←HBO.out.1];exact hjl
   have hsl0:=HSL.out;rw[HPN.out.2.2.2.2.2] at hsl0;obtain⟨gb,off,cp',cur,fq,hv,hcp,hrow,hcur⟩:=hsl0.link (by omega);obtain⟨c0,c1,c2,c3⟩:=hcur j hjl;simp only[Value.slice.injEq,true_and] at hv;obtain⟨rfl,rfl⟩:=hv;have hap:=HY.out.apt;have hR:=HWr.out.oth _ _ _ _ hrow (by decide) (fun hm=>hap _ hm _ _ _ hrow (by decide));have a0:=ξ hR (off+j*4);have a1:=ξ hR (off+j*4+1);have a2:=ξ hR (off+j*4+2);have a3:=ξ hR (off+j*4+3);rw[c0] at a0;rw[c1] at a1;rw[c2] at a2;rw[c3] at a3;have hgs:=ζ hR;have hjb:(j:Int)<(ln:Int):=by omega
   have HRL:Hid (RL O n wr hs[j] (η L.sub)[j]):=(HBO.out.2 j hjl hjm).mono (fun q hq=>RN.wx HWr.out hap n q _ hq) (fun _ _ h=>h);clear hcur hsl0 hcp hap;go_wp2_with fail;rename_i K0 hK0;obtain⟨X,hX⟩:∃ X,X=lhl (ι n (η L.sub)[j] (qB1 (ι n) ((η L.sub).take j) fr0).2.2).1:=⟨_,rfl⟩;have hXp:X.ptr=none:=by rw[hX];rfl
   have hsn:=zV4 (ι n) ((η L.sub).take j) (η L.sub)[j] fr0;rw[←List.take_succ_eq_append_getElem hjm] at hsn;have HSN:=zh hsn;have HX:=zh hX;obtain⟨w1,hw1,h91,hK1,hs1⟩:=qF0 wr (.cells #[.string hs[j].key,.int .i64 hs[j].b,.int .u64 hs[j].s,.pointer hs[j].ptr] 81);rw[←hw1];clear hw1 hsn hX a0 a1 a2 a3 hR hrow c0 c1 c2 c3 hgs hjb;have hSd:w1.drew.heap[w.heap.size]?=some (.cells #[.pointer (some ⟨V,0,none⟩),.string r.key,.int .i64 r.b,.int .u64 r.s,.pointer r.ptr] 83)∧w1.drew.heap[wr.heap.size]?=some (.cells #[.string hs[j].key,.int .i64 hs[j].b,.int .u64 hs[j].s,.pointer hs[j].ptr] 81):=⟨hK1.hp HTr.out,h91⟩;have hKd:Kp [] wr w1.drew:=hK1.drew;have hNd:=hKd.hp HNr.out;have hYd:=HYr.out.keep hKd;have HCALL:Hid (Calls prog 106 #[υ V r,qC2 hs[j],qQ2 F] w1.drew fun e w'=>e=.returned (.agg #[.string X.key,.int .i64 X.b,.int .u64 X.s,.pointer none])∧Ly κ wn V A N C base F (ws++(qB1 (ι n) ((η L.sub).take (j+1)) fr0).2.1) (qB1 (ι n) ((η L.sub).take (j+1)) fr0).2.2 w'∧Wx base [A,F] w1.drew w'):=by
    have hfree:=qP1 (ι n) (news n) ((η L.sub).take j) fr0 (fun l _ fr=>qN1 n l fr);have hcnt:=zB8 (ι n) (news n) ((η L.sub).take j) fr0 (fun l _ fr=>qW4 n l fr);have hmj:=qW7 (news n) (η L.sub) j hjm;refine (IH hs[j] r (η L.sub)[j] _ _ w1.drew hYd (RL.keep HRL.out hKd (Apt.nil _ _)) (hok _ (List.getElem_mem hjm)) (by rw[hfree,List.length_drop];omega) (fun b hb=>hf b (by rw[hfree] at hb;exact List.mem_of_mem_drop hb)) (by rw[hfree,List.length_append,hcnt,List.length_drop];omega)).mono ?_;rintro e w' ⟨rfl,h1,h2⟩;rw[HSN.out,←List.append_assoc];exact⟨by rw[←HX.out,qC2,hXp],h1,h2⟩
   have HIN:=zh hKd;refine zD3 (α:=Nat→Nat→Nat→Act) (R:=fun A0=>∀ g c d W,(w.heap.size+4≤W.heap.size∧W.heap[w.heap.size+1]?=some (.cells #[.string h.key,.int .i64 h.b,.int .u64 h.s,.pointer (some ⟨q,0,none⟩)] 81)∧W.heap[w.heap.size]?=some (.cells #[.pointer (some ⟨V,0,none⟩),.string r.key,.int .i64 r.b,.int .u64 r.s,.pointer r.ptr] 83)∧W.heap[w.heap.size+1+1]?=some (.cells #[.string ⟨#[]⟩,.int .i64 0,.int .u64 0,.pointer none] 81)∧W.heap[w.heap.size+3]?=some (ρ lv (.slice pb pn pc) (.slice (some ⟨g,0,none⟩) (j+1) c))∧W.ownsRow (w.heap.size+4) 81 4 (.slice (some ⟨g,0,none⟩) (j+1) c) (j+1) (qA5 ((qB1 (ι n) ((η L.sub).take (j+1)) fr0).1.map lhl))∧Ly κ wn V A N C base F (ws++(qB1 (ι n) ((η L.sub).take (j+1)) fr0).2.1) (qB1 (ι n) ((η L.sub).take (j+1)) fr0).2.2 W∧Wx base [A,F] w W)→K0 (A0 g c d) W) ?_;apply Exists.intro;apply And.intro
   rotate_left
   ·intro HREST;refine wp_region_held_drew (S:=fun W=>W.heap[w.heap.size]?=some (.cells #[.pointer (some ⟨V,0,none⟩),.string r.key,.int .i64 r.b,.int .u64 r.s,.pointer r.ptr] 83)∧W.heap[wr.heap.size]?=some (.cells #[.string hs[j].key,.int .i64 hs[j].b,.int .u64 hs[j].s,.pointer hs[j].ptr] 81)) (by kernel_rfl) hSd (fun _=>?_);refine zU 0 (.pointer (some ⟨w.heap.size+3,2,none⟩)) hSd ?_;refine zV 2 (.agg #[.pointer (some ⟨V,0,none⟩),.string r.key,.int .i64 r.b,.int .u64 r.s,.pointer r.ptr]) rfl (fun W hS=>by have a:=ξ hS.1;clear hS;go_simp) hSd ?_;refine zV 3 (.agg #[.string hs[j].key,.int .i64 hs[j].b,.int .u64 hs[j].s,.pointer hs[j].ptr]) rfl (fun W hS=>by have a:=ξ hS.2;clear hS;go_simp) hSd ?_;refine zU 4 (.func (.func 107) #[] #[.pointer (some ⟨F,0,none⟩)]) hSd ?_;refine zr 1 5 (fun K hK=>?_) fun K hK=>?_
    ·skip
     have c2:=ξ hNd 2;simp only[ρ,zG,zH,zI] at c2;go_simp;refine hK.out _ _ hSd (fun _=>?_);clear hK K c2
     try simp only[zZ]
     refine zq 5 fun K hK=>?_;go_simp;refine (show Calls _ _ _ _ _ from HCALL.out).mono ?_;rintro e w2 ⟨rfl,hy2,hW2⟩;have hS2:=And.intro (hW2.oth _ _ _ _ hSd.1 (by decide) (by simp;omega)) (hW2.oth _ _ _ _ hSd.2 (by decide) (by simp;omega));have hN2:=hW2.oth _ _ _ _ hNd (by decide) (by simp;omega);have hs2:w1.heap.size≤w2.heap.size:=hW2.size;refine hK.out _ _ hS2 (fun _=>?_);clear hK K
     try simp only[zZ]
     refine zq 6 fun K hK=>?_;go_simp;obtain⟨w3,hw3,hB3,hK3,hs3⟩:=qF0 w2 (.cells #[.string X.key,.int .i64 X.b,.int .u64 X.s,.pointer none] 81);rw[←hw3];clear hw3;obtain⟨d,hd⟩:∃ d,d=w2.heap.size:=⟨_,rfl⟩;rw[←hd] at hB3 ⊢;clear hd;have hS3:=And.intro (hK3.hp hS2.1) (hK3.hp hS2.2);have hN3:=hK3.hp hN2;refine hK.out _ _ hS3 (fun _=>?_);clear hK K
     try simp only[zZ]
     have hownd:=qF4 HOr.out HIN.out (Apt.nil _ _);have hown3:=qF4 (zK0 hownd hW2 (by decide) (hYd.apt.sub (by decide))) hK3 (Apt.nil _ _);refine zq 7 fun K hK=>?_;refine qL9 rfl rfl (.agg #[.string ⟨#[]⟩,.int .i64 0,.int .u64 0,.pointer none]) 4 40 underlying150 qQ0 rfl (by decide) (w.heap.size+4) vj j _ (by simp[Act.eval]) hown3 d 0 1 1 #[.string X.key,.int .i64 X.b,.int .u64 X.s,.pointer none] 81 (0,0) (by simp[Act.eval]) hB3 (by simp) (by simp[qA4,Value.oneCell']) (by omega) (by omega) (by omega) ?_;intro v4 w4 hown4 hgr4 _;obtain⟨g1,cap1,rfl⟩:=qJ1 (n:=j) hown4;have hKg:Kp vj.ownBlock.toList w3 w4:=(Kp.refl _ _).grown hgr4 (fun k hk=>Or.inl (by simp[hk]));have hlo:∀ k,k<w.heap.size+4∨k=wr.heap.size→k ∉ vj.ownBlock.toList:=fun k hk hm=>by
      have h1:=qQ3 HOr.out k (by simpa using hm);omega
     have hS4:=And.intro (hKg.heap hS3.1 (hlo _ (by omega))) (hKg.heap hS3.2 (hlo _ (Or.inr rfl)));have hN4:=hKg.heap hN3 (hlo _ (by omega));have hN4s:=ζ hN4;refine hK.out _ _ hS4 (fun _=>?_);clear hK K
     try simp only[zZ]
     refine zU 8 (.pointer (some ⟨w.heap.size+3,2,none⟩)) hS4 ?_;refine zq 9 fun K hK=>?_;have d2:=ξ hN4 2;simp only[ρ,zG,zH,zI] at d2;have e2:=ω hN4 2;go_simp;have hKs:Kp [w.heap.size+3] w4 (w4.setCell ⟨w.heap.size+3,2,none⟩ (.slice (some ⟨g1,0,none⟩) (j+1) cap1)):=(Kp.refl _ _).sc _;have hR5:=ψ hN4 2 (.slice (some ⟨g1,0,none⟩) (j+1) cap1);have haN:∀ {Ts:List TypeId},152 ∉ Ts→Apt w4 [w.heap.size+3] Ts:=fun hT q hq c t fr e=>by rw[List.mem_singleton.1 hq,hN4] at e;cases e;exact hT
     generalize w4.setCell ⟨w.heap.size+3,2,none⟩ (.slice (some ⟨g1,0,none⟩) (j+1) cap1)=w5 at hKs hR5 ⊢;refine hK.out _ _ ⟨hKs.hp hS4.1,hKs.ho hS4.2⟩ (fun _=>?_);clear hK K d2 e2;refine zd ?_
     try simp only[zZ]
     have hw5:Wx base [A,F] w w5:=((((HWr.out.trans ((Wx.ofKp (HIN.out.mono (by simp)) HYr.out.low).trans hW2)).tail hK3 (by simp) HY.out.low).tail hKg (fun k hk=>by have:=qQ3 HOr.out k (by simpa using hk);omega) HY.out.low).tail hKs (by simp) HY.out.low);have hy5:=((hy2.keep hK3).turn hKg (zJ7 hown3 (by decide))).turn hKs (haN (by decide));have hK35:∀ k c t fr,w3.heap[k]?=some (.cells c t fr)→k<w.heap.size+3→w5.heap[k]?=some (.cells c t fr):=fun k c t fr e hk=>hKs.heap (hKg.heap e (hlo k (by omega))) (by simp;omega);have hto:∀ k c t fr,wr.heap[k]?=some (.cells c t fr)→t≠89→w.heap.size≤k→k<w.heap.size+3→w5.heap[k]?=some (.cells c t fr):=fun k c t fr e ht h1 h2=>hK35 k c t fr (hK3.heap (hW2.oth _ _ _ _ (HIN.out.hp e) ht (by simp;omega)) (by simp)) h2;show K0 _ w5;refine HREST g1 cap1 d w5 ⟨by have:=hKs.size;have:=hKg.size;omega,hto _ _ _ _ HLr.out (by decide) (by omega) (by omega),hto _ _ _ _ HTr.out (by decide) (by omega) (by omega),hto _ _ _ _ HRr.out (by decide) (by omega) (by omega),hR5,?_,hy5,hw5⟩;have e:qA5 ((qB1 (ι n) ((η L.sub).take (j+1)) fr0).1.map lhl)=qA5 ((qB1 (ι n) ((η L.sub).take j) fr0).1.map lhl)++(qA4 #[.string X.key,.int .i64 X.b,.int .u64 X.s,.pointer none] 0 (1*4)).toList:=by
      rw[HSN.out,List.map_append,List.map_cons,List.map_nil,←HX.out];simp[qA5,lcs,qA4,hXp]
     rw[e];exact qF4 hown4 hKs (haN (by decide))
    ·skip
     go_simp;refine (show Calls _ _ _ _ _ from HCALL.out).mono ?_;rintro e w2 ⟨rfl,hy2,hW2⟩;have hS2:=And.intro (hW2.oth _ _ _ _ hSd.1 (by decide) (by simp;omega)) (hW2.oth _ _ _ _ hSd.2 (by decide) (by simp;omega));have hN2:=hW2.oth _ _ _ _ hNd (by decide) (by simp;omega);have hs2:w1.heap.size≤w2.heap.size:=hW2.size;refine hK.out _ _ hS2 (fun _=>?_);clear hK K
     try simp only[zZ]
     refine zr 1 6 (fun K hK=>?_) fun K hK=>?_
     ·skip
      have c2:=ξ hN2 2;simp only[ρ,zG,zH,zI] at c2;go_simp;refine hK.out _ _ hS2 (fun _=>?_);clear hK K c2
      try simp only[zZ]
      refine zq 6 fun K hK=>?_;go_simp;obtain⟨w3,hw3,hB3,hK3,hs3⟩:=qF0 w2 (.cells #[.string X.key,.int .i64 X.b,.int .u64 X.s,.pointer none] 81);rw[←hw3];clear hw3;obtain⟨d,hd⟩:∃ d,d=w2.heap.size:=⟨_,rfl⟩;rw[←hd] at hB3 ⊢;clear hd;have hS3:=And.intro (hK3.hp hS2.1) (hK3.hp hS2.2);have hN3:=hK3.hp hN2;refine hK.out _ _ hS3 (fun _=>?_);clear hK K
      try simp only[zZ]
      have hownd:=qF4 HOr.out HIN.out (Apt.nil _ _);have hown3:=qF4 (zK0 hownd hW2 (by decide) (hYd.apt.sub (by decide))) hK3 (Apt.nil _ _);refine zq 7 fun K hK=>?_;refine qL9 rfl rfl (.agg #[.string ⟨#[]⟩,.int .i64 0,.int .u64 0,.pointer none]) 4 40 underlying150 qQ0 rfl (by decide) (w.heap.size+4) vj j _ (by simp[Act.eval]) hown3 d 0 1 1 #[.string X.key,.int .i64 X.b,.int .u64 X.s,.pointer none] 81 (0,0) (by simp[Act.eval]) hB3 (by simp) (by simp[qA4,Value.oneCell']) (by omega) (by omega) (by omega) ?_;intro v4 w4 hown4 hgr4 _;obtain⟨g1,cap1,rfl⟩:=qJ1 (n:=j) hown4;have hKg:Kp vj.ownBlock.toList w3 w4:=(Kp.refl _ _).grown hgr4 (fun k hk=>Or.inl (by simp[hk]));have hlo:∀ k,k<w.heap.size+4∨k=wr.heap.size→k ∉ vj.ownBlock.toList:=fun k hk hm=>by
       have h1:=qQ3 HOr.out k (by simpa using hm);omega
      have hS4:=And.intro (hKg.heap hS3.1 (hlo _ (by omega))) (hKg.heap hS3.2 (hlo _ (Or.inr rfl)));have hN4:=hKg.heap hN3 (hlo _ (by omega));have hN4s:=ζ hN4;refine hK.out _ _ hS4 (fun _=>?_);clear hK K
      try simp only[zZ]
      refine zU 8 (.pointer (some ⟨w.heap.size+3,2,none⟩)) hS4 ?_;refine zq 9 fun K hK=>?_;have d2:=ξ hN4 2;simp only[ρ,zG,zH,zI] at d2;have e2:=ω hN4 2;go_simp;have hKs:Kp [w.heap.size+3] w4 (w4.setCell ⟨w.heap.size+3,2,none⟩ (.slice (some ⟨g1,0,none⟩) (j+1) cap1)):=(Kp.refl _ _).sc _;have hR5:=ψ hN4 2 (.slice (some ⟨g1,0,none⟩) (j+1) cap1);have haN:∀ {Ts:List TypeId},152 ∉ Ts→Apt w4 [w.heap.size+3] Ts:=fun hT q hq c t fr e=>by rw[List.mem_singleton.1 hq,hN4] at e;cases e;exact hT
      generalize w4.setCell ⟨w.heap.size+3,2,none⟩ (.slice (some ⟨g1,0,none⟩) (j+1) cap1)=w5 at hKs hR5 ⊢;refine hK.out _ _ ⟨hKs.hp hS4.1,hKs.ho hS4.2⟩ (fun _=>?_);clear hK K d2 e2;refine zd ?_
      try simp only[zZ]
      have hw5:Wx base [A,F] w w5:=((((HWr.out.trans ((Wx.ofKp (HIN.out.mono (by simp)) HYr.out.low).trans hW2)).tail hK3 (by simp) HY.out.low).tail hKg (fun k hk=>by have:=qQ3 HOr.out k (by simpa using hk);omega) HY.out.low).tail hKs (by simp) HY.out.low);have hy5:=((hy2.keep hK3).turn hKg (zJ7 hown3 (by decide))).turn hKs (haN (by decide));have hK35:∀ k c t fr,w3.heap[k]?=some (.cells c t fr)→k<w.heap.size+3→w5.heap[k]?=some (.cells c t fr):=fun k c t fr e hk=>hKs.heap (hKg.heap e (hlo k (by omega))) (by simp;omega);have hto:∀ k c t fr,wr.heap[k]?=some (.cells c t fr)→t≠89→w.heap.size≤k→k<w.heap.size+3→w5.heap[k]?=some (.cells c t fr):=fun k c t fr e ht h1 h2=>hK35 k c t fr (hK3.heap (hW2.oth _ _ _ _ (HIN.out.hp e) ht (by simp;omega)) (by simp)) h2;show K0 _ w5;refine HREST g1 cap1 d w5 ⟨by have:=hKs.size;have:=hKg.size;omega,hto _ _ _ _ HLr.out (by decide) (by omega) (by omega),hto _ _ _ _ HTr.out (by decide) (by omega) (by omega),hto _ _ _ _ HRr.out (by decide) (by omega) (by omega),hR5,?_,hy5,hw5⟩;have e:qA5 ((qB1 (ι n) ((η L.sub).take (j+1)) fr0).1.map lhl)=qA5 ((qB1 (ι n) ((η L.sub).take j) fr0).1.map lhl)++(qA4 #[.string X.key,.int .i64 X.b,.int .u64 X.s,.pointer none] 0 (1*4)).toList:=by
       rw[HSN.out,List.map_append,List.map_cons,List.map_nil,←HX.out];simp[qA5,lcs,qA4,hXp]
      rw[e];exact qF4 hown4 hKs (haN (by decide))
     ·skip
      go_simp;obtain⟨w3,hw3,hB3,hK3,hs3⟩:=qF0 w2 (.cells #[.string X.key,.int .i64 X.b,.int .u64 X.s,.pointer none] 81);rw[←hw3];clear hw3;obtain⟨d,hd⟩:∃ d,d=w2.heap.size:=⟨_,rfl⟩;rw[←hd] at hB3 ⊢;clear hd;have hS3:=And.intro (hK3.hp hS2.1) (hK3.hp hS2.2);have hN3:=hK3.hp hN2;refine hK.out _ _ hS3 (fun _=>?_);clear hK K
      try simp only[zZ]
      refine zq 1 fun K hK=>?_;have c2:=ξ hN3 2;simp only[ρ,zG,zH,zI] at c2;go_simp;refine hK.out _ _ hS3 (fun _=>?_);clear hK K c2
      try simp only[zZ]
      have hownd:=qF4 HOr.out HIN.out (Apt.nil _ _);have hown3:=qF4 (zK0 hownd hW2 (by decide) (hYd.apt.sub (by decide))) hK3 (Apt.nil _ _);refine zq 7 fun K hK=>?_;refine qL9 rfl rfl (.agg #[.string ⟨#[]⟩,.int .i64 0,.int .u64 0,.pointer none]) 4 40 underlying150 qQ0 rfl (by decide) (w.heap.size+4) vj j _ (by simp[Act.eval]) hown3 d 0 1 1 #[.string X.key,.int .i64 X.b,.int .u64 X.s,.pointer none] 81 (0,0) (by simp[Act.eval]) hB3 (by simp) (by simp[qA4,Value.oneCell']) (by omega) (by omega) (by omega) ?_;intro v4 w4 hown4 hgr4 _;obtain⟨g1,cap1,rfl⟩:=qJ1 (n:=j) hown4;have hKg:Kp vj.ownBlock.toList w3 w4:=(Kp.refl _ _).grown hgr4 (fun k hk=>Or.inl (by simp[hk]));have hlo:∀ k,k<w.heap.size+4∨k=wr.heap.size→k ∉ vj.ownBlock.toList:=fun k hk hm=>by
       have h1:=qQ3 HOr.out k (by simpa using hm);omega
      have hS4:=And.intro (hKg.heap hS3.1 (hlo _ (by omega))) (hKg.heap hS3.2 (hlo _ (Or.inr rfl)));have hN4:=hKg.heap hN3 (hlo _ (by omega));have hN4s:=ζ hN4;refine hK.out _ _ hS4 (fun _=>?_);clear hK K
      try simp only[zZ]
      refine zU 8 (.pointer (some ⟨w.heap.size+3,2,none⟩)) hS4 ?_;refine zq 9 fun K hK=>?_;have d2:=ξ hN4 2;simp only[ρ,zG,zH,zI] at d2;have e2:=ω hN4 2;go_simp;have hKs:Kp [w.heap.size+3] w4 (w4.setCell ⟨w.heap.size+3,2,none⟩ (.slice (some ⟨g1,0,none⟩) (j+1) cap1)):=(Kp.refl _ _).sc _;have hR5:=ψ hN4 2 (.slice (some ⟨g1,0,none⟩) (j+1) cap1);have haN:∀ {Ts:List TypeId},152 ∉ Ts→Apt w4 [w.heap.size+3] Ts:=fun hT q hq c t fr e=>by rw[List.mem_singleton.1 hq,hN4] at e;cases e;exact hT
      generalize w4.setCell ⟨w.heap.size+3,2,none⟩ (.slice (some ⟨g1,0,none⟩) (j+1) cap1)=w5 at hKs hR5 ⊢;refine hK.out _ _ ⟨hKs.hp hS4.1,hKs.ho hS4.2⟩ (fun _=>?_);clear hK K d2 e2;refine zd ?_
      try simp only[zZ]
      have hw5:Wx base [A,F] w w5:=((((HWr.out.trans ((Wx.ofKp (HIN.out.mono (by simp)) HYr.out.low).trans hW2)).tail hK3 (by simp) HY.out.low).tail hKg (fun k hk=>by have:=qQ3 HOr.out k (by simpa using hk);omega) HY.out.low).tail hKs (by simp) HY.out.low);have hy5:=((hy2.keep hK3).turn hKg (zJ7 hown3 (by decide))).turn hKs (haN (by decide));have hK35:∀ k c t fr,w3.heap[k]?=some (.cells c t fr)→k<w.heap.size+3→w5.heap[k]?=some (.cells c t fr):=fun k c t fr e hk=>hKs.heap (hKg.heap e (hlo k (by omega))) (by simp;omega);have hto:∀ k c t fr,wr.heap[k]?=some (.cells c t fr)→t≠89→w.heap.size≤k→k<w.heap.size+3→w5.heap[k]?=some (.cells c t fr):=fun k c t fr e ht h1 h2=>hK35 k c t fr (hK3.heap (hW2.oth _ _ _ _ (HIN.out.hp e) ht (by simp;omega)) (by simp)) h2;show K0 _ w5;refine HREST g1 cap1 d w5 ⟨by have:=hKs.size;have:=hKg.size;omega,hto _ _ _ _ HLr.out (by decide) (by omega) (by omega),hto _ _ _ _ HTr.out (by decide) (by omega) (by omega),hto _ _ _ _ HRr.out (by decide) (by omega) (by omega),hR5,?_,hy5,hw5⟩;have e:qA5 ((qB1 (ι n) ((η L.sub).take (j+1)) fr0).1.map lhl)=qA5 ((qB1 (ι n) ((η L.sub).take j) fr0).1.map lhl)++(qA4 #[.string X.key,.int .i64 X.b,.int .u64 X.s,.pointer none] 0 (1*4)).toList:=by
       rw[HSN.out,List.map_append,List.map_cons,List.map_nil,←HX.out];simp[qA5,lcs,qA4,hXp]
      rw[e];exact qF4 hown4 hKs (haN (by decide))
   rintro g c d W ⟨e1,e2,e3,e4,e5,e6,e7,e8⟩;refine hK0 _ _ ?_;have HE:Hid (w.heap.size+4≤W.heap.size∧W.heap[w.heap.size+1]?=some (.cells #[.string h.key,.int .i64 h.b,.int .u64 h.s,.pointer (some ⟨q,0,none⟩)] 81)∧W.heap[w.heap.size]?=some (.cells #[.pointer (some ⟨V,0,none⟩),.string r.key,.int .i64 r.b,.int .u64 r.s,.pointer r.ptr] 83)∧W.heap[w.heap.size+1+1]?=some (.cells #[.string ⟨#[]⟩,.int .i64 0,.int .u64 0,.pointer none] 81)∧W.heap[w.heap.size+3]?=some (ρ lv (.slice pb pn pc) (.slice (some ⟨g,0,none⟩) (j+1) c))∧W.ownsRow (w.heap.size+4) 81 4 (.slice (some ⟨g,0,none⟩) (j+1) c) (j+1) (qA5 ((qB1 (ι n) ((η L.sub).take (j+1)) fr0).1.map lhl))∧Ly κ wn V A N C base F (ws++(qB1 (ι n) ((η L.sub).take (j+1)) fr0).2.1) (qB1 (ι n) ((η L.sub).take (j+1)) fr0).2.2 W∧Wx base [A,F] w W):=⟨e1,e2,e3,e4,e5,e6,e7,e8⟩;clear e1 e2 e3 e4 e5 e6 e7 e8 hSd hKd hNd hYd h91 hK1 hK0 K0;go_wp2;exact⟨⟨j+1,_,by omega,by go_num,HE.out.1,HE.out.2.1,HE.out.2.2.1,HE.out.2.2.2.1,HE.out.2.2.2.2.1,HE.out.2.2.2.2.2.1,HE.out.2.2.2.2.2.2.1,HE.out.2.2.2.2.2.2.2⟩,by simp[intOf];omega⟩
  ·have hje:(η L.sub).take j=η L.sub:=List.take_of_length_le (by rw[←HBO.out.1];have:=HPN.out;omega);have hjn:j=(η L.sub).length:=by rw[←HBO.out.1];have:=HPN.out;omega
   have hjb:¬(j:Int)<(ln:Int):=by omega
   have hfr:=HRE.out.2;have hRe:=HRE.out.1;have hOe:=HOr.out;have hYe:=HYr.out;rw[hje] at hOe hYe;rw[hfr] at hYe;have hb:b<N:=hf b (by have h:=qP1 (ι n) (news n) (η L.sub) fr0 (fun l _ fr=>qN1 n l fr);rw[hfr] at h;exact List.mem_of_mem_drop (h ▸ List.mem_cons_self));have hcnt:=zB8 (ι n) (news n) (η L.sub) fr0 (fun l _ fr=>qW4 n l fr);have hlen:=zH5 (ι n) (η L.sub) fr0;have hfl:fr.length≤100000:=by have h:=congrArg List.length (qP1 (ι n) (news n) (η L.sub) fr0 (fun l _ fr=>qN1 n l fr));rw[hfr] at h;simp at h;omega
   have hms:=zB9 n (η L.sub) fr0;have hzl:=zX0 N n hNN (η L.sub) fr0 (fun l hl=>by
    obtain⟨i,hi,rfl⟩:=List.getElem_of_mem hl;refine⟨by have h:=hok _ hl;cases n with | zero=>exact h.1 | succ n=>exact h.1,fun x hx=>?_⟩;have h2:=(HBO.out.2 i (by rw[HBO.out.1];exact hi) hi).2;rw[hx] at h2;exact hO _ _ _ _ h2.2.2.2) hf
   rw[←hRe] at hOe hYe hcnt hlen hms hzl;have hwl:(ws++R.2.1).length≤100000:=by rw[List.length_append,hcnt];omega
   have HYE:=zh hYe;have HOE:Hid (wr.ownsRow (w.heap.size+4) 81 4 vj (R.1.map lhl).length (qA5 (R.1.map lhl))):=by rw[List.length_map,hlen,←hjn];exact hOe
   have HZL:=zh hzl;have HMS:Hid (2+meas μ []+meas φ (R.1.map lhl)≤128∧([]:List KV).length+(R.1.map lhl).length≤255):=⟨by rw[hms,qD1];omega,by rw[List.length_map,hlen];simp;omega⟩;clear hje hjn hOe hYe hcnt hlen hms hzl hfr hRe IH hok hm hn;go_wp2_with fail;have hSd:wr.drew.heap[w.heap.size+1]?=some (.cells #[.string h.key,.int .i64 h.b,.int .u64 h.s,.pointer (some ⟨q,0,none⟩)] 81)∧wr.drew.heap[w.heap.size]?=some (.cells #[.pointer (some ⟨V,0,none⟩),.string r.key,.int .i64 r.b,.int .u64 r.s,.pointer r.ptr] 83):=⟨HLr.out,HTr.out⟩;refine wp_region_held_drew (S:=fun W=>W.heap[w.heap.size+1]?=some (.cells #[.string h.key,.int .i64 h.b,.int .u64 h.s,.pointer (some ⟨q,0,none⟩)] 81)∧W.heap[w.heap.size]?=some (.cells #[.pointer (some ⟨V,0,none⟩),.string r.key,.int .i64 r.b,.int .u64 r.s,.pointer r.ptr] 83)) (by kernel_rfl) hSd (fun _=>?_);refine zU 0 (.pointer (some ⟨w.heap.size+1,0,none⟩)) hSd ?_;refine zV 1 (.string h.key) rfl (fun W hS=>by have a:=ξ hS.1 0;simp only[zG,zH,zI] at a;clear hS;go_simp) hSd ?_;refine zP 2 w.heap.size 0 hSd ?_;refine zV 3 (.pointer (some ⟨V,0,none⟩)) rfl (fun W hS=>by have a:=ξ hS.2 0;simp only[zG,zH,zI] at a;clear hS;go_simp) hSd ?_;refine zU 4 (.func (.func 107) #[] #[.pointer (some ⟨F,0,none⟩)]) hSd ?_;refine zq 5 fun K hK=>?_;have hcf:=zP6;go_simp;refine ((HYE.out.keep ((Kp.refl _ wr).drew)).next hfl).mono ?_;rintro e w3 ⟨rfl,hy3,hW3⟩;have hS3:=And.intro (hW3.oth _ _ _ _ hSd.1 (by decide) (by simp;omega)) (hW3.oth _ _ _ _ hSd.2 (by decide) (by simp;omega));have hR3:=hW3.oth _ _ _ _ HRr.out (by decide) (by simp;omega);have hq3:=hW3.oth _ _ _ _ HNr.out (by decide) (by simp;omega);have hs3:=hW3.size;have hsl3:=((qG3 HOE.out).keep0 ((Kp.refl _ wr).drew)).wx hW3 (by decide) ((HYE.out.keep ((Kp.refl _ wr).drew)).apt.sub (by decide));refine hK.out _ _ hS3 (fun _=>?_);clear hK K hcf
   try simp only[zZ]
   refine zq 6 fun K hK=>?_;go_simp;refine (hy3.lay hVA hwl hb hNN (w.heap.size+3) lv (.slice pb pn pc) vj [] (R.1.map lhl) hq3 (by have:=HPN.out;omega) (by have:=HPN.out;omega) (by have e:=HPN.out;rw[e.1,e.2.1,e.2.2.1];exact⟨rfl,Or.inl ⟨rfl,none,0,rfl,fun _=>rfl⟩⟩) hsl3 HMS.out.1 HMS.out.2 (by simp) HZL.out).mono ?_;rintro e w4 ⟨rfl,hy4,hW4⟩;have hS4:=And.intro (hW4.oth _ _ _ _ hS3.1 (by decide) (by simp;omega)) (hW4.oth _ _ _ _ hS3.2 (by decide) (by simp;omega));have hR4:=hW4.oth _ _ _ _ hR3 (by decide) (by simp;omega);refine hK.out _ _ hS4 (fun _=>?_);clear hK K
   try simp only[zZ]
   refine zU 7 (.agg #[.string h.key,.int .i64 b,.int .u64 (fnv (qA1 lv [] (R.1.map lhl))),.pointer none]) hS4 ?_;refine zq 8 fun K hK=>?_;have z0:=ξ hR4;have f0:=ω hR4;have hR4s:=ζ hR4;have hls:=qK2 (.string h.key) (.int .i64 (b:Int)) (.int .u64 (fnv (qA1 lv [] (R.1.map lhl)))) (.pointer none) hR4;have HR4:=zh hR4;clear hR4;go_simp;obtain⟨w5,hw5,hR5,hK5⟩:∃ w5,w5=(((w4.setCell ⟨w.heap.size+1+1,0,none⟩ (.string h.key)).setCell ⟨w.heap.size+1+1,1,none⟩ (.int .i64 (b:Int))).setCell ⟨w.heap.size+1+1,2,none⟩ (.int .u64 (fnv (qA1 lv [] (R.1.map lhl))))).setCell ⟨w.heap.size+1+1,3,none⟩ (.pointer none)∧w5.heap[w.heap.size+1+1]?=some (.cells #[.string h.key,.int .i64 (b:Int),.int .u64 (fnv (qA1 lv [] (R.1.map lhl))),.pointer none] 81)∧Kp [w.heap.size+1+1] w4 w5:=⟨_,rfl,hls.1,hls.2⟩;rw[←hw5];clear hw5 hls z0 f0;refine hK.out _ _ ⟨hK5.hp hS4.1,hK5.ho hS4.2⟩ (fun _=>?_);clear hK K;refine zd ?_
   try simp only[zZ]
   have hap:Apt w4 [w.heap.size+1+1] [186,72,89,22,3]:=fun q hq c t fr e=>by rw[List.mem_singleton.1 hq,HR4.out] at e;cases e;decide
   have HY5:Hid (Ly κ wn V A N C base F (ws++R.2.1++[(b,toB (qA1 lv [] (R.1.map lhl)))]) fr w5):=hy4.turn hK5 hap;have HW5:Hid (Wx base [A,F] w w5):=((HWr.out).trans (((Wx.ofKp (Kp.mono (S:=[]) ((Kp.refl _ wr).drew) (by simp)) HYE.out.low).trans hW3).trans hW4)).tail hK5 (by simp;omega) HY.out.low;have HR5:=zh hR5;clear hSd hS3 hS4 hR3 hq3 hy3 hW3 hy4 hW4 hR5 hK5 hap HR4 hR4s;go_wp2_with fail;exact bodyPost_ret (results_cell_row results106 _ _ (w.heap.size+1+1) 81 #[.string h.key,.int .i64 (b:Int),.int .u64 (fnv (qA1 lv [] (R.1.map lhl))),.pointer none] (0,0) _ rfl HR5.out underlying81 rfl (by kernel_rfl)) rfl ⟨by simp only[qC2,HL.ptr,HPN.out.2.2.2.1,Option.map_none],by have h:=HY5.out;rw[HPN.out.2.2.2.1] at h;exact h,HW5.out⟩
variable {κ:Nat}
theorem jC2(wn:Int)(V A N C base F:Nat)(O:qE8)(hO:∀ (n b:Nat) (s:Int) (t:Tn n),O n b s t→b≤1000000∧0≤s)(hVA:V≠A)(hN:N≤1000)(n:Nat)(IH:qV3 κ wn V A N C base F O n):qV3 κ wn V A N C base F O (n+1):=by
 intro h r L fr ws w hy hr ho hn hf hl
 cases hx:L.ref with
 | some x=>
  have hs:L.ref.isSome:=by rw[hx];rfl
  obtain⟨hp,he⟩:=zJ5 hr hs;have e:ι (n+1) L fr=(L,[],fr):=by simp only[ι,if_pos hs]
  rw[e];refine (zI2 V r h (qQ2 F) w hp).mono ?_;rintro e w' ⟨rfl,hK⟩;exact⟨by rw[←he],by simpa using hy.keep hK,Wx.ofKp (hK.mono (by simp)) hy.low⟩
 | none=>
  obtain⟨hk,q,hp,hq⟩:=zJ2 hr hx;have hns:¬L.ref.isSome=true:=by rw[hx];simp
  have h1:news (n+1) L=1+meas (news n) (η L.sub):=by simp only[news,if_neg hns]
  have hfree:=qP1 (ι n) (news n) (η L.sub) fr (fun l _ fr=>qN1 n l fr);obtain⟨z1,z2,z3,z4⟩:=ho.2 hx
  cases hfr:(qB1 (ι n) (η L.sub) fr).2.2 with
  | nil=>
   have h2:=congrArg List.length hfree;rw[hfr,List.length_drop] at h2;simp at h2;omega
  | cons b fr'=>
   have e:ι (n+1) L fr=(⟨L.key,some (b,fnv (qA1 ((n+1:Nat):Int) [] ((qB1 (ι n) (η L.sub) fr).1.map lhl))),(qB1 (ι n) (η L.sub) fr).1⟩,(qB1 (ι n) (η L.sub) fr).2.1++[(b,toB (qA1 ((n+1:Nat):Int) [] ((qB1 (ι n) (η L.sub) fr).1.map lhl)))],fr'):=by
    simp only[ι,if_neg hns,hfr,List.headD_cons,List.tail_cons]
   rw[e];refine (jB9 wn V A N C base F O hO n IH hVA hN h r q L b fr fr' ws w hy hp hq z1 z2 z3 z4 (by omega) hf hl hfr).mono ?_;rintro e w' ⟨rfl,h2,h3⟩;exact⟨by simp only[lhl,hk,Option.getD_some],by rw[←List.append_assoc];exact h2,h3⟩
theorem zV9(wn:Int)(V A N C base F:Nat)(O:qE8)(hO:∀ (n b:Nat) (s:Int) (t:Tn n),O n b s t→b≤1000000∧0≤s)(hVA:V≠A)(hN:N≤1000):∀ n,qV3 κ wn V A N C base F O n
 | 0=>jC3 wn V A N C base F O hVA hN
 | n+1=>jC2 wn V A N C base F O hO hVA hN n (zV9 wn V A N C base F O hO hVA hN n)
theorem xC5(V A N C:Nat)(l:List UInt8)(wn:Int)(hVA:V≠A)(hAC:C≠A)(hVC:V≠C)(hN:N≤1000)(hs:N*128≤l.length)(h X:HL)(fr:List Nat)(ws:List (Nat × List UInt8))(v:Value)(w:World)(hd:Devl V A N C l wn w)(hv:Slc w 3 1 v fr.length (qG6 fr))(hws:∀ x∈ws,x.1<N∧x.2.length=128)(hwc:ws.length≤10000)(hXp:X.ptr=none)
  (hcall:∀ (F:Nat) (w0:World),Kp [] w w0→Ly (l.length / 128) wn V A N C w0.heap.size F [] fr w0→Calls prog 106 #[υ V h,qC2 h,qQ2 F] w0 fun e w'=>e=.returned (qC2 X)∧(∃ fr',Ly (l.length / 128) wn V A N C w0.heap.size F ws fr' w')∧Wx w0.heap.size [A,F] w0 w'):
  Calls prog 69 #[υ V h,v] w fun e w'=>e=.returned (.agg #[.int .i64 X.b,.int .u64 X.s])∧Devl V A N C (laidAll l ws) (nk wn ws.length) w'∧Kp [A,C] w w':=by
 obtain⟨calls,hA⟩:=hd.hA;obtain⟨bs,cp,rfl⟩:=qK4 hv;obtain⟨fl,hfl⟩:∃ fl,fl=fr.length:=⟨_,rfl⟩;have HV:Hid (Slc w 3 1 (.slice bs fl cp) fr.length (qG6 fr)):=by rw[hfl];exact hv
 rw[←hfl];have HD:=zh hd;have HA:=zh hA;have HFL:=zh hfl;have hAs:=ζ hA;have hCs:=ζ hd.hC;have HCALL:=zh hcall;clear hd hv hA hfl hcall;rw[υ];go_enter func69,ntmps69;go_wp2_with fail;obtain⟨w0,hw0,hT0,hF0,hR0,hK0,hs0⟩:=qV5 w (.cells #[.pointer (some ⟨V,0,none⟩),.string h.key,.int .i64 h.b,.int .u64 h.s,.pointer h.ptr] 83) (.cells #[.slice bs fl cp] 22) (.cells #[.int .i64 0,.int .u64 0] 78);rw[←hw0];clear hw0;have hy:Ly (l.length / 128) wn V A N C w0.heap.size (w.heap.size+1) [] fr w0:=⟨hK0.hp HD.out.hV,⟨.slice none 0 0,calls,hK0.hp HA.out,World.ownsRow_nil _ _ _ _⟩,⟨_,hF0,HV.out.keep0 hK0⟩,Nat.le_refl _⟩;have hC0:=hK0.hp HD.out.hC;refine (show Calls _ _ _ _ _ from HCALL.out (w.heap.size+1) w0 hK0 hy).mono ?_;rintro e w1 ⟨rfl,⟨fr',hy1⟩,hW1⟩;rw[qC2,hXp];obtain⟨v1,calls1,hA1,hown1⟩:=hy1.hA;have hT1:=hW1.oth _ _ _ _ hT0 (by decide) (by simp;omega);have hR1:=hW1.oth _ _ _ _ hR0 (by decide) (by simp;omega);have hC1:=hW1.oth _ _ _ _ hC0 (by decide) (by simp;omega);have hV1:=hy1.hV;have hs1:=hW1.size;have HK1:Hid (Kp [A] w w1):=⟨hW1.os.trans hK0.os,hW1.tape.trans hK0.tape,hW1.output.trans hK0.output,Nat.le_trans hK0.size hW1.size,fun k hk hm=>(hW1.low k (by omega) (by simp at hm ⊢;omega)).trans (hK0.block k hk (by simp))⟩;clear hy hy1 hW1 hC0 hT0 hF0 hR0 hK0 HV HCALL;have t0:=ξ hT1 0;simp only[zG,zH,zI] at t0;have hT1s:=ζ hT1;go_wp2_with fail;obtain⟨w2,hw2,hL2,hK2,hs2⟩:=qF0 w1 (.cells #[.string X.key,.int .i64 X.b,.int .u64 X.s,.pointer none] 81);rw[←hw2];clear hw2 t0;refine (zL0 V A N C w0.heap.size v1 ws calls1 (nk wn ws.length) l w2 (hK2.hp hV1) (hK2.hp hA1) (qF4 hown1 hK2 (Apt.nil _ _)) hws (by omega) hN (hK2.hp hC1) hs hAC).mono ?_;rintro e w3 ⟨rfl,hA3,hC3,hK3⟩;have hL3:=hK3.ho hL2;have hR3:=hK3.heap (hK2.hp hR1) (by simp;omega);have hV3:=hK3.heap (hK2.hp hV1) (by simp[hVA,hVC]);have hL3s:=ζ hL3;have hR3s:=ζ hR3;have z1:=ξ hL3;have y0:=ξ hR3;have fy0:=ω hR3;have HR3:=zh hR3;have HEND:Hid (w3.heap[V]?=some (qB6 A N)∧w3.heap[A]?=some (χ ((laidAll l ws).length / 128) N C (.slice none 0 0) (nx calls1) (nk wn ws.length))∧w3.heap[C]?=some (.cells (enc (laidAll l ws)) 87)∧Kp [A,C] w w3):=⟨hV3,by rw[jB3 N ws l hs hws];exact hA3,hC3,((HK1.out.mono (by simp)).tr hK2).tr hK3⟩;clear hA3 hC3 hK3 hV3 hL2 hK2 hR1 hV1 hA1 hown1 hC1 hT1 HK1 hL3 hR3 hws hwc;go_wp2_with fail;have hK4:Kp [w.heap.size+1+1] w3 ((w3.setCell ⟨w.heap.size+1+1,0,none⟩ (.int .i64 X.b)).setCell ⟨w.heap.size+1+1,1,none⟩ (.int .u64 X.s)):=((Kp.refl _ _).sc _).sc _;have hR4:=ψ (ψ HR3.out 0 (.int .i64 X.b)) 1 (.int .u64 X.s);obtain⟨e1,e2,e3,e4⟩:=HEND.out;refine bodyPost_ret (results_cell_row results69 _ _ (w.heap.size+1+1) 78 #[.int .i64 X.b,.int .u64 X.s] (0,0) _ rfl hR4 underlying78 rfl (by kernel_rfl)) rfl ?_;have hVs:=ζ HD.out.hV;exact⟨rfl,⟨hK4.ho e1,⟨_,hK4.ho e2⟩,hK4.ho e3⟩,e4.trans hK4 (by simp;omega)⟩
theorem jQ8(V A N C:Nat)(l:List UInt8)(wn:Int)(O:qE8)(hO:∀ (n b:Nat) (s:Int) (t:Tn n),O n b s t→b≤1000000∧0≤s)(hVA:V≠A)(hAC:C≠A)(hVC:V≠C)(hN:N≤1000)(hs:N*128≤l.length)(n:Nat)(h:HL)(L:Lnk (Tn n))(fr:List Nat)(v:Value)(w:World)(hd:Devl V A N C l wn w)(hr:RL O n w h L)(ho:OkL n L)(hn:news n L≤fr.length)(hf:∀ b∈fr,b<N)(hl:fr.length≤10000)(hv:Slc w 3 1 v fr.length (qG6 fr))(hws:∀ x∈(ι n L fr).2.1,x.1<N∧x.2.length=128):
  Calls prog 69 #[υ V h,v] w fun e w'=>e=.returned (.agg #[.int .i64 (lhl (ι n L fr).1).b,.int .u64 (lhl (ι n L fr).1).s])∧Devl V A N C (laidAll l (ι n L fr).2.1) (nk wn (ι n L fr).2.1.length) w'∧Kp [A,C] w w':=by
 have hwc:=qW4 n L fr;refine xC5 V A N C l wn hVA hAC hVC hN hs h (lhl (ι n L fr).1) fr (ι n L fr).2.1 v w hd hv hws (by omega) rfl ?_;intro F w0 hK0 hy;refine (zV9 wn V A N C w0.heap.size F O hO hVA hN n h h L fr [] w0 hy (RL.keep hr hK0 (Apt.nil _ _)) ho hn hf (by simp;omega)).mono ?_;rintro e w1 ⟨rfl,hy1,hW1⟩;exact⟨rfl,⟨_,by simpa using hy1⟩,hW1⟩
theorem jQ7(V A N C:Nat)(l:List UInt8)(wn:Int)(hVA:V≠A)(hAC:C≠A)(hVC:V≠C)(hN:N≤1000)(hs:N*128≤l.length)(fr:List Nat)(v:Value)(w:World)(hd:Devl V A N C l wn w)(hv:Slc w 3 1 v fr.length (qG6 fr)):
  Calls prog 69 #[υ V ⟨⟨#[]⟩,0,0,none⟩,v] w fun e w'=>e=.returned (.agg #[.int .i64 0,.int .u64 0])∧Devl V A N C l wn w'∧Kp [A,C] w w':=by
 refine xC5 V A N C l wn hVA hAC hVC hN hs ⟨⟨#[]⟩,0,0,none⟩ ⟨⟨#[]⟩,0,0,none⟩ fr [] v w hd hv (by simp) (by simp) rfl ?_;intro F w0 hK0 hy;refine (zI2 V _ ⟨⟨#[]⟩,0,0,none⟩ (qQ2 F) w0 rfl).mono ?_;rintro e w1 ⟨rfl,hK⟩;exact⟨rfl,⟨_,hy.keep hK⟩,Wx.ofKp (hK.mono (by simp)) hy.low⟩
def Blk:(n:Nat)→Nat→Tn n→List Nat
 | 0,b,_=>[b]
 | n+1,b,t=>b::(η t).flatMap (fun m=>match m.ref with | some x=>Blk n x.1 m.sub | none=>[])
theorem Laid.move{N:Nat}{l l':List UInt8}:∀ (n b:Nat) (s:Int) (t:Tn n),Laid N l n b s t→(∀ k∈Blk n b t,qA0 l' k=qA0 l k)→Laid N l' n b s t
 | 0,b,s,t,h,hk=>by
  obtain⟨h1,h2,h3,h4,h5⟩:=h;exact⟨h1,h2,h3,(hk b (by simp[Blk])).trans h4,h5⟩
 | n+1,b,s,t,h,hk=>by
  obtain⟨h1,h2,h3,hs,h4,h5,h6,h7⟩:=h;refine⟨h1,h2,h3,hs,⟨h4.1,fun i g1 g2=>?_⟩,h5,(hk b (by simp[Blk])).trans h6,h7⟩;have hr:=h4.2 i g1 g2;refine⟨hr.1,?_⟩;have hr2:=hr.2
  cases hx:(η t)[i].ref with
  | none=>rw[hx] at hr2;exact hr2
  | some x=>
   rw[hx] at hr2;refine⟨hr2.1,hr2.2.1,hr2.2.2.1,Laid.move n x.1 x.2 _ hr2.2.2.2 (fun k hm=>hk k ?_)⟩;simp only[Blk,List.mem_cons,List.mem_flatMap];exact Or.inr ⟨(η t)[i],List.getElem_mem g2,by rw[hx];exact hm⟩
theorem qV6(l b:List UInt8)(i k n:Nat)(hb:b.length=128)(hl:n*128≤l.length)(hi:i<n)(hk:k≠i):qA0 (qC6 l i b) k=qA0 l k:=by
 refine List.ext_getElem? fun j=>?_;simp only[qA0,qC6,List.getElem?_take,List.getElem?_drop];split
 ·rename_i hj;rw[List.append_assoc,List.getElem?_append];split
  ·rename_i h1;rw[List.getElem?_take];simp only[List.length_take] at h1;rw[if_pos (by omega)]
  ·rename_i h1;simp only[List.length_take] at h1 ⊢;rw[List.getElem?_append,if_neg (by omega),List.getElem?_drop]
   congr 1
   omega
 ·rfl
theorem qV7(l b:List UInt8)(i n:Nat)(hb:b.length=128)(hl:n*128≤l.length)(hi:i<n):qA0 (qC6 l i b) i=b:=by
 exact zF0 l i b hb (by omega)
theorem zO4(n k:Nat)(ws:List (Nat × List UInt8)):∀ (l:List UInt8),n*128≤l.length→(∀ x∈ws,x.1<n∧x.2.length=128)→k ∉ ws.map Prod.fst→qA0 (laidAll l ws) k=qA0 l k:=by
 induction ws with
 | nil=>intro l _ _ _;rfl
 | cons a ws ih=>
  intro l hl hw hk;simp only[List.map_cons,List.mem_cons,not_or] at hk;have h1:=hw a (by simp);refine (ih (qC6 l a.1 a.2) (qU9 l a.2 a.1 n h1.2 hl h1.1) (fun x hx=>hw x (by simp[hx])) hk.2).trans ?_;exact qV6 l a.2 a.1 k n h1.2 hl h1.1 hk.1
theorem xJ0(n:Nat)(ws:List (Nat × List UInt8))(x:Nat × List UInt8):∀ (l:List UInt8),n*128≤l.length→(∀ x∈ws,x.1<n∧x.2.length=128)→(ws.map Prod.fst).Nodup→x∈ws→qA0 (laidAll l ws) x.1=x.2:=by
 induction ws with
 | nil=>intro l _ _ _ h;cases h
 | cons a ws ih=>
  intro l hl hw hn hx;simp only[List.map_cons,List.nodup_cons] at hn;have h1:=hw a (by simp);have hl2:=qU9 l a.2 a.1 n h1.2 hl h1.1;rcases List.mem_cons.1 hx with rfl|hx
  ·exact (zO4 n x.1 ws (qC6 l x.1 x.2) hl2 (fun y hy=>hw y (by simp[hy])) hn.1).trans (qV7 l x.2 x.1 n h1.2 hl h1.1)
  ·exact ih (qC6 l a.1 a.2) hl2 (fun y hy=>hw y (by simp[hy])) hn.2 hx
def qK5(N:Nat)(l:List UInt8):(n:Nat)→Lnk (Tn n)→Prop
 | 0,L=>∀ x,L.ref=some x→Laid N l 0 x.1 x.2 L.sub
 | n+1,L=>(∀ x,L.ref=some x→Laid N l (n+1) x.1 x.2 L.sub)∧(L.ref=none→∀ m∈η L.sub,qK5 N l n m)
def qI6:(n:Nat)→Lnk (Tn n)→List Nat
 | 0,L=>match L.ref with | some x=>Blk 0 x.1 L.sub | none=>[]
 | n+1,L=>match L.ref with | some x=>Blk (n+1) x.1 L.sub | none=>(η L.sub).flatMap (qI6 n)
def zM4(N:Nat)(l l':List UInt8)(n:Nat):Prop:=∀ (L:Lnk (Tn n)) (fr:List Nat),qK5 N l n L→OkL n L→n<6→(∀ b∈fr,2≤b∧b<N)→news n L≤fr.length→(∀ x∈(ι n L fr).2.1,qA0 l' x.1=x.2)→(∀ k∈qI6 n L,qA0 l' k=qA0 l k)→
 ∃ x,(ι n L fr).1.ref=some x∧Laid N l' n x.1 x.2 (ι n L fr).1.sub
theorem zU9(N:Nat)(l l':List UInt8)(n:Nat)(IH:zM4 N l l' n)(hn:n<6):∀ (ls:List (Lnk (Tn n))) (fr:List Nat),(∀ m∈ls,qK5 N l n m∧OkL n m)→(∀ b∈fr,2≤b∧b<N)→meas (news n) ls≤fr.length→(∀ x∈(qB1 (ι n) ls fr).2.1,qA0 l' x.1=x.2)→(∀ k∈ls.flatMap (qI6 n),qA0 l' k=qA0 l k)→
  ∀ m∈(qB1 (ι n) ls fr).1,∃ x,m.ref=some x∧Laid N l' n x.1 x.2 m.sub
 | [],_,_,_,_,_,_=>by intro m hm;cases hm
 | a::ls,fr,h,hf,hm,hx,hk=>by
  rw[qE0] at hm;intro m hmm;simp only[qB1,List.mem_cons] at hmm;simp only[qB1,List.mem_append] at hx;rcases hmm with rfl|hmm
  ·exact IH a fr (h a (by simp)).1 (h a (by simp)).2 hn hf (by omega) (fun x hh=>hx x (Or.inl hh)) (fun k hh=>hk k (by simp only[List.flatMap_cons,List.mem_append];exact Or.inl hh))
  ·have e:=qN1 n a fr;exact zU9 N l l' n IH hn ls _ (fun m hm=>h m (by simp[hm])) (fun b hb=>by rw[e] at hb;exact hf b (List.mem_of_mem_drop hb)) (by rw[e,List.length_drop];omega) (fun x hh=>hx x (Or.inr hh)) (fun k hh=>hk k (by simp only[List.flatMap_cons,List.mem_append];exact Or.inr hh)) m hmm
theorem jG1{n:Nat}{m:Lnk (Tn n)}(h:OkL n m):m.key.size≤8:=by
 cases n with
 | zero=>exact h.1
 | succ n=>exact h.1
theorem zV3(n:Nat):∀ (ls:List (Lnk (Tn n))) (fr:List Nat),(∀ m∈ls,m.key.size≤8)→∀ m∈(qB1 (ι n) ls fr).1,m.key.size≤8
 | [],_,_=>by intro m hm;cases hm
 | a::ls,fr,h=>by
  intro m hm;simp only[qB1,List.mem_cons] at hm;rcases hm with rfl|hm
  ·rw[zV5];exact h a (by simp)
  ·exact zV3 n ls _ (fun m hm=>h m (by simp[hm])) m hm
theorem Laid.leaf{N b:Nat}{l:List UInt8}{t:Tn 0}(h1:2≤b∧b<N)(h4:qA0 l b=toB (qA1 0 (prs t) []))(h5:(∀ p∈prs t,qC5 p)∧2+meas μ (prs t)≤128∧(prs t).length≤126):Laid N l 0 b (fnv (qA1 0 (prs t) [])) t:=⟨h1.1,h1.2,Eq.refl _,h4,h5⟩
theorem Laid.branch{N b n:Nat}{l:List UInt8}{t:Tn (n+1)}(hs:List HL)(h1:2≤b∧b<N)(h2:n+1<6)(h3:Both (RLof (fun _ _=>False) (Laid N l n)) hs (η t))(h4:qA0 l b=toB (qA1 ((n+1:Nat):Int) [] hs))(h5:(∀ h∈hs,h.key.size≤8)∧2+meas φ hs≤128∧hs.length≤126):Laid N l (n+1) b (fnv (qA1 ((n+1:Nat):Int) [] hs)) t:=⟨h1.1,h1.2,h2,hs,h3,Eq.refl _,h4,h5⟩
theorem jD1{X:Type}(m:Lnk X)(x:Nat × Int)(h:m.ref=some x):(lhl m).b=(x.1:Int)∧(lhl m).s=x.2:=by
 simp only[lhl,h,Option.getD_some,and_self]
theorem zV0(N:Nat)(l l':List UInt8):∀ n,zM4 N l l' n
 | 0=>by
  intro L fr ho hok _ hf hn hx hk
  cases hr:L.ref with
  | some x=>
   have hs:L.ref.isSome:=by rw[hr];rfl
   have e:ι 0 L fr=(L,[],fr):=by simp only[ι,if_pos hs]
   rw[e];refine⟨x,hr,Laid.move 0 x.1 x.2 L.sub (ho x hr) (fun k hm=>hk k ?_)⟩;simp only[qI6,hr];exact hm
  | none=>
   have hns:¬L.ref.isSome=true:=by rw[hr];simp
   have h1:news 0 L=1:=by simp only[news,if_neg hns]
   cases fr with
   | nil=>rw[h1] at hn;simp at hn
   | cons b fr=>
    have e:ι 0 L (b::fr)=(⟨L.key,some (b,fnv (qA1 0 (prs L.sub) [])),L.sub⟩,[(b,toB (qA1 0 (prs L.sub) []))],fr):=by simp only[ι,if_neg hns,List.headD_cons,List.tail_cons]
    rw[e] at hx ⊢;obtain⟨z1,z2,z3⟩:=hok.2 hr;have hbx:=hx (b,toB (qA1 0 (prs L.sub) [])) (List.mem_singleton.2 rfl);have hL:Laid N l' 0 b (fnv (qA1 0 (prs L.sub) [])) L.sub:=Laid.leaf (hf b (by simp)) hbx ⟨z1,z2,z3⟩;generalize fnv (qA1 0 (prs L.sub) [])=s at hL ⊢;exact⟨(b,s),rfl,hL⟩
 | n+1=>by
  intro L fr ho hok hlv hf hn hx hk
  cases hr:L.ref with
  | some x=>
   have hs:L.ref.isSome:=by rw[hr];rfl
   have e:ι (n+1) L fr=(L,[],fr):=by simp only[ι,if_pos hs]
   rw[e];refine⟨x,hr,Laid.move (n+1) x.1 x.2 L.sub (ho.1 x hr) (fun k hm=>hk k ?_)⟩;simp only[qI6,hr];exact hm
  | none=>
   have hns:¬L.ref.isSome=true:=by rw[hr];simp
   have h1:news (n+1) L=1+meas (news n) (η L.sub):=by simp only[news,if_neg hns]
   have hfree:=qP1 (ι n) (news n) (η L.sub) fr (fun l _ fr=>qN1 n l fr);obtain⟨z1,z2,z3,z4⟩:=hok.2 hr
   cases hfr:(qB1 (ι n) (η L.sub) fr).2.2 with
   | nil=>
    have h2:=congrArg List.length hfree;rw[hfr,List.length_drop] at h2;simp at h2;omega
   | cons b fr'=>
    have e:ι (n+1) L fr=(⟨L.key,some (b,fnv (qA1 ((n+1:Nat):Int) [] ((qB1 (ι n) (η L.sub) fr).1.map lhl))),(qB1 (ι n) (η L.sub) fr).1⟩,(qB1 (ι n) (η L.sub) fr).2.1++[(b,toB (qA1 ((n+1:Nat):Int) [] ((qB1 (ι n) (η L.sub) fr).1.map lhl)))],fr'):=by
     simp only[ι,if_neg hns,hfr,List.headD_cons,List.tail_cons]
    rw[e] at hx ⊢;have hb:b∈fr:=by rw[hfr] at hfree;exact List.mem_of_mem_drop (hfree ▸ List.mem_cons_self)
    have hall:=zU9 N l l' n (zV0 N l l' n) (by omega) (η L.sub) fr (fun m hm=>⟨ho.2 hr m hm,z2 m hm⟩) hf (by omega) (fun x hh=>hx x (List.mem_append_left _ hh)) (fun k hh=>hk k (by simp only[qI6,hr];exact hh));have hkeys:=zV3 n (η L.sub) fr (fun m hm=>jG1 (z2 m hm));have hms:=zB9 n (η L.sub) fr;have hlen:=zH5 (ι n) (η L.sub) fr;have hbx:=hx (b,toB (qA1 ((n+1:Nat):Int) [] ((qB1 (ι n) (η L.sub) fr).1.map lhl))) (List.mem_append_right _ (List.mem_singleton.2 rfl));generalize qB1 (ι n) (η L.sub) fr=R at hall hkeys hms hlen hbx ⊢;have hL:Laid N l' (n+1) b (fnv (qA1 ((n+1:Nat):Int) [] (R.1.map lhl))) R.1:=by
     refine Laid.branch (R.1.map lhl) (hf b hb) hlv ⟨by rw[List.length_map];rfl,fun i g1 g2=>?_⟩ hbx ⟨?_,by rw[hms];exact z3,by rw[List.length_map,hlen];exact z4⟩
     ·rw[List.getElem_map];obtain⟨x,e1,e2⟩:=hall _ (List.getElem_mem g2);refine⟨rfl,?_⟩;have e3:((η (n:=n) R.1)[i]'g2).ref=some x:=e1;rw[e3];have e4:=jD1 _ x e1;exact⟨e4.1,e4.2,rfl,e2⟩
     ·intro p hp;obtain⟨m,hm,rfl⟩:=List.mem_map.1 hp;exact hkeys m hm
    clear hx hbx;generalize fnv (qA1 ((n+1:Nat):Int) [] (R.1.map lhl))=s at hL ⊢;exact⟨(b,s),rfl,hL⟩
theorem zV2{X:Type}(f:Lnk X→List Nat→Lnk X × List (Nat × List UInt8) × List Nat)(g:Lnk X→Nat):∀ (ls:List (Lnk X)) (fr:List Nat),(∀ l∈ls,∀ fr:List Nat,g l≤fr.length→(f l fr).2.1.map Prod.fst=fr.take (g l)∧(f l fr).2.2=fr.drop (g l))→meas g ls≤fr.length→(qB1 f ls fr).2.1.map Prod.fst=fr.take (meas g ls)
 | [],fr,_,_=>by simp[qB1,qD1]
 | l::ls,fr,h,hm=>by
  rw[qE0] at hm ⊢;obtain⟨h1,h2⟩:=h l (by simp) fr (by omega);simp only[qB1,List.map_append];rw[zV2 f g ls _ (fun x hx=>h x (by simp[hx])) (by rw[h2,List.length_drop];omega),h1,h2,List.take_add]
theorem zH9:∀ (n:Nat) (l:Lnk (Tn n)) (fr:List Nat),news n l≤fr.length→(ι n l fr).2.1.map Prod.fst=fr.take (news n l)
 | 0,l,fr,h=>by
  by_cases hr:l.ref.isSome=true
  ·simp only[ι,news,if_pos hr,List.map_nil,List.take_zero]
  ·simp only[ι,news,if_neg hr] at h ⊢
   cases fr with
   | nil=>simp at h
   | cons b fr=>simp
 | n+1,l,fr,h=>by
  by_cases hr:l.ref.isSome=true
  ·simp only[ι,news,if_pos hr,List.map_nil,List.take_zero]
  ·simp only[ι,news,if_neg hr] at h ⊢;have h1:=zV2 (ι n) (news n) (η l.sub) fr (fun l _ fr hl=>⟨zH9 n l fr hl,qN1 n l fr⟩) (by have:meas (fun m=>news n m) (η l.sub)=meas (news n) (η l.sub):=rfl;omega);have h2:=qP1 (ι n) (news n) (η l.sub) fr (fun l _ fr=>qN1 n l fr);rw[List.map_append,h1,h2];simp only[List.map_cons,List.map_nil];have e:meas (fun m=>news n m) (η l.sub)=meas (news n) (η l.sub):=rfl;rw[e] at h ⊢;generalize meas (news n) (η l.sub)=k at h ⊢;rw[Nat.add_comm 1 k,List.take_succ_eq_append_getElem (by omega),List.drop_eq_getElem_cons (by omega)];rfl
theorem zI0:∀ (n:Nat) (l:Lnk (Tn n)) (fr:List Nat),OkL n l→∀ x∈(ι n l fr).2.1,x.2.length=128
 | 0,l,fr,h,x,hx=>by
  by_cases hr:l.ref.isSome=true
  ·simp[ι,if_pos hr] at hx
  ·simp only[ι,if_neg hr,List.mem_singleton] at hx;obtain⟨z1,z2,z3⟩:=h.2 (by simpa using hr);rw[hx];simp only[qH0];exact qO2 0 _ [] (by simpa [qD1] using z2)
 | n+1,l,fr,h,x,hx=>by
  by_cases hr:l.ref.isSome=true
  ·simp[ι,if_pos hr] at hx
  ·simp only[ι,if_neg hr,List.mem_append,List.mem_singleton] at hx;obtain⟨z1,z2,z3,z4⟩:=h.2 (by simpa using hr);rcases hx with hx|hx
   ·have go:∀ (ls:List (Lnk (Tn n))) (fr:List Nat),(∀ m∈ls,OkL n m)→∀ x∈(qB1 (ι n) ls fr).2.1,x.2.length=128:=by
     intro ls
     induction ls with
     | nil=>intro fr _ x hx;simp[qB1] at hx
     | cons a ls ih=>
      intro fr hk x hx;simp only[qB1,List.mem_append] at hx;rcases hx with hx|hx
      ·exact zI0 n a fr (hk a (by simp)) x hx
      ·exact ih _ (fun m hm=>hk m (by simp[hm])) x hx
    exact go _ fr z2 x hx
   ·rw[hx];simp only[qH0];exact qO2 _ [] _ (by rw[zB9,qD1];omega)
theorem zH8:∀ (n:Nat) (l:Lnk (Tn n)) (fr:List Nat),cont n (ι n l fr).1.sub=cont n l.sub
 | 0,l,fr=>by
  by_cases hr:l.ref.isSome=true
  ·simp only[ι,if_pos hr]
  ·simp only[ι,if_neg hr]
 | n+1,l,fr=>by
  by_cases hr:l.ref.isSome=true
  ·simp only[ι,if_pos hr]
  ·simp only[ι,if_neg hr];have go:∀ (ls:List (Lnk (Tn n))) (fr:List Nat),(qB1 (ι n) ls fr).1.flatMap (fun m=>cont n m.sub)=ls.flatMap (fun m=>cont n m.sub):=by
    intro ls
    induction ls with
    | nil=>intro fr;rfl
    | cons a ls ih=>
     intro fr;simp only[qB1,List.flatMap_cons,ih,zH8 n a fr]
   exact go _ fr
end Go.Proofs.YtdohpenfkdckiabGreatDoor
namespace Go.Proofs.YtdohpenfkdckiabGreatDoor
open Go.Proofs.Tryz
open Go.RowKit
open Go.Maps (Keyed)
open Go.ChangeMaps
def qR7(k:Nat):Lit:=.int .i64 (k:Int)
theorem zU2{k:Nat}(h:k≤1000000):keyOf prog 3 (.int .i64 (k:Int))=some (qR7 k):=
 Maps.keyOf_int_mk underlying3 (by simp[Lit.wf,IntKind.min,IntKind.max,IntKind.signed,IntKind.bits];omega)
theorem zH0:Keyed prog 3:=Maps.int_keyed underlying3
theorem xX9(k:Nat):WideAt.IsKeyLit (qR7 k):=by simp[WideAt.IsKeyLit,qR7]
theorem xY0{a b:Nat}(h:a≠b):qR7 a≠qR7 b:=by
 intro e;simp only[qR7,Lit.int.injEq,true_and] at e;omega
def BS(w:World)(M c:Nat)(ks:List Nat):Prop:=∃ n D,w.ownsMap prog 3 (unitElem (H:=Unit)) M n D∧n≤c∧Maps.size D=ks.length∧∀ k:Nat,Maps.has D (qR7 k)=decide (k∈ks)
theorem BS.made(w:World):BS (w.alloc (.map #[] 0)) w.heap.size 0 []:=⟨0,.map [],World.ownsMap_made w _ _ _,Nat.le_refl _,rfl,fun k=>by simp[Maps.has]⟩
theorem BS.kp{S:List Nat}{w w':World}{M c:Nat}{ks:List Nat}(h:BS w M c ks)(hK:Kp S w w')(hM:M ∉ S):BS w' M c ks:=by
 obtain⟨n,D,⟨es,cl,hb,hf⟩,h2⟩:=h;exact⟨n,D,⟨es,cl,hK.heap hb hM,hf⟩,h2⟩
theorem BS.len{w:World}{M c:Nat}{ks:List Nat}(h:BS w M c ks)(ty:TypeId):(Builtin.len_ #[171] ty #[.map (some M)]).run prog w=.ok (.int .i64 (ks.length:Int)) w:=by
 obtain⟨n,D,h1,h2,h3,h4⟩:=h;rw[←h3];exact World.ownsMap.len h1 underlying171 ty
theorem BS.store{w:World}{M c b:Nat}{ks:List Nat}(h:BS w M c ks)(hb:b≤1000000)(hc:c≤1000000):
  ∃ w',(Instr.mapUpdate 171 (.map (some M)) (.int .i64 (b:Int)) (.agg #[])).run prog w=.ok () w'∧BS w' M (c+1) (if b∈ks then ks else b::ks)∧Kp [M] w w':=by
 obtain⟨n,D,h1,h2,h3,h4⟩:=h;obtain⟨w',g1,g2,g3⟩:=World.ownsMap.store h1 zH0 underlying171 (by simp[maxLen];omega) (zU2 hb) (unitElem_mk (H:=Unit));refine⟨w',g1,⟨n+1,_,g2,by omega,?_,fun k=>?_⟩,Kp.turned g3⟩
 ·rw[Maps.size_put (h1.tidy zH0),h4 b,h3];by_cases hm:b∈ks<;>simp[hm]
 ·by_cases hk:k=b
  ·rw[hk,Maps.has_put_same h1.isMap (xX9 b)];by_cases hm:b∈ks<;>simp[hm]
  ·rw[Maps.has_put_other (xY0 hk),h4 k];by_cases hm:b∈ks<;>simp[hm,hk]
theorem BS.look{w:World}{M c k:Nat}{ks:List Nat}(h:BS w M c ks)(hk:k≤1000000):
  (Instr.lookup 171 (.map (some M)) (.int .i64 (k:Int)) true).run prog w=.ok (.tuple #[.agg #[],.bool (decide (k∈ks))]) w:=by
 obtain⟨n,D,h1,h2,h3,h4⟩:=h;obtain⟨v,ps,g1,g2⟩:=World.ownsMap.look_ok h1 zH0 underlying171 (z:=.agg #[]) (by kernel_rfl) (unitElem_mk (H:=Unit)) (zU2 hk);obtain⟨rfl,_⟩:=unitElem_inv g2;rw[g1,h4]
def zA9(ks:List Nat)(b:Nat):List Nat:=if b∈ks then ks else b::ks
theorem xK0(M c b:Nat)(ks:List Nat)(h:HL)(w:World)(hM:BS w M c ks)(hp:h.p=none)(hb:h.b=(b:Int))(hb1:b≤1000000)(hc:c≤1000000)(hk:ks.length≤1000000):
  Calls prog 144 #[.map (some M),qC2 h] w fun e w'=>e=.returned (.bool (decide (b ∉ ks)))∧BS w' M (c+1) (zA9 ks b)∧Kp [M] w w':=by
 have hptr:h.ptr=none:=by simp[HL.ptr,hp]
 obtain⟨n,D,⟨es,cl,hmb,hf⟩,h2⟩:=hM;have hMs:=ζ hmb;have HM:Hid (BS w M c ks):=⟨n,D,⟨es,cl,hmb,hf⟩,h2⟩;rw[qC2,hptr,hb];obtain⟨w0,hw0,hL0,hK0,hs0⟩:=qF0 w (.cells #[.string h.key,.int .i64 (b:Int),.int .u64 h.s,.pointer none] 81);have hM0:=HM.out.kp hK0 (by simp);have hlen:=hM0.len 3;obtain⟨w1,hr1,hM1,hK1⟩:=hM0.store hb1 hc;have hlen1:=hM1.len 3;clear hmb hf h2;go_enter func144,ntmps144;go_wp2_with fail;rw[←hw0,hlen];have hLs:=ζ hL0;have c1:=ξ hL0 1;simp only[zG,zH,zI] at c1;have HL:=zh hk;obtain⟨k0,hk0⟩:∃ k0,k0=ks.length:=⟨_,rfl⟩;obtain⟨k1,hk1⟩:∃ k1,k1=(if b∈ks then ks else b::ks).length:=⟨_,rfl⟩;rw[←hk0];rw[←hk1] at hlen1;have HK:Hid (k0=ks.length∧k1=(if b∈ks then ks else b::ks).length):=⟨hk0,hk1⟩;have HEND:Hid (BS w1 M (c+1) (zA9 ks b)∧Kp [M] w w1):=⟨hM1,(hK0.mono (by simp)).tr hK1⟩;clear hM1 hK1 hK0 hL0 hlen hM0 hk hk0 hk1 hw0;go_wp2;go_ret;refine⟨?_,HEND.out⟩;have h:=HK.out;by_cases hm:b∈ks
 ·simp only[hm,if_true] at h;simp[hm,h.1,h.2]
 ·simp only[hm,if_false,List.length_cons] at h;simp only[hm,not_false_eq_true,decide_true];rw[h.1,h.2];simp
end Go.Proofs.YtdohpenfkdckiabGreatDoor
namespace Go.Proofs.YtdohpenfkdckiabGreatDoor
open Go.Proofs.Tryz
open Go.RowKit
open Go.ChangeMaps
theorem BS.mono{w:World}{M c c':Nat}{ks:List Nat}(h:BS w M c ks)(hc:c≤c'):BS w M c' ks:=by
 obtain⟨n,D,h1,h2,h3⟩:=h;exact⟨n,D,h1,by omega,h3⟩
theorem BS.card{w:World}{M c:Nat}{ks:List Nat}(h:BS w M c ks):ks.length≤c:=by
 obtain⟨n,D,h1,h2,h3,_⟩:=h;have:=h1.size_le;omega
theorem BS.at{w:World}{M c:Nat}{ks:List Nat}(h:BS w M c ks):∃ es cl,w.heap[M]?=some (.map es cl):=by
 obtain⟨n,D,⟨es,cl,hb,hf⟩,h2⟩:=h;exact⟨es,cl,hb⟩
def qG8{X:Type}(f:X→List Nat→List Nat)(ks:List Nat)(m:Lnk X):List Nat:=match m.ref with
 | none=>f m.sub ks
 | some x=>if x.1∈ks then ks else f m.sub (x.1::ks)
def qF6:(n:Nat)→Tn n→List Nat→List Nat
 | 0,_,ks=>ks
 | n+1,t,ks=>(η t).foldl (qG8 (qF6 n)) ks
theorem xJ9(M:Nat)(h:HL)(q:Nat)(w:World)(hp:h.p=some q):
  Calls prog 144 #[.map (some M),qC2 h] w fun e w'=>e=.returned (.bool true)∧Kp [] w w':=by
 have hptr:h.ptr=some ⟨q,0,none⟩:=by simp[HL.ptr,hp]
 rw[qC2,hptr];go_enter func144,ntmps144;go_wp2;go_ret;exact⟨rfl,(Kp.refl _ _).alloc _⟩
theorem zO8{E:SEnv}(hO:∀ (n b:Nat) (s:Int) (t:Tn n),E.O n b s t→b≤1000000)(n M c:Nat)(ks:List Nat)(h:HL)(m:Lnk (Tn n))(w:World)(hM:BS w M c ks)(hr:RL E.O n w h m)(hc:c≤1000000):
  Calls prog 144 #[.map (some M),qC2 h] w fun e w'=>∃ go ks1,e=.returned (.bool go)∧BS w' M (c+1) ks1∧Kp [M] w w'∧(∀ f:Tn n→List Nat→List Nat,qG8 f ks m=if go then f m.sub ks1 else ks1):=by
 cases hx:m.ref with
 | none=>
  obtain⟨hk,q,hp,hq⟩:=zJ2 hr hx;refine (xJ9 M h q w hp).mono ?_;rintro e w' ⟨rfl,hK⟩;exact⟨true,ks,rfl,(hM.kp hK (by simp)).mono (by omega),hK.mono (by simp),fun f=>by simp[qG8,hx]⟩
 | some x=>
  obtain⟨hp,he⟩:=zJ5 hr (by rw[hx];rfl);have h2:=hr.2;rw[hx] at h2;refine (xK0 M c x.1 ks h w hM hp h2.1 (hO _ _ _ _ h2.2.2.2) hc (by have:=hM.card;omega)).mono ?_;rintro e w' ⟨rfl,h3,h4⟩;refine⟨_,_,rfl,h3,h4,fun f=>?_⟩;by_cases hm:x.1∈ks
  ·simp[qG8,hx,zA9,hm]
  ·simp[qG8,hx,zA9,hm]
theorem xI9(E:SEnv)(t:Tn 0)(q M c:Nat)(ks:List Nat)(r:HL)(w:World)(hd:E.Dev w)(hq:RN E.O 0 w q t)(hM:BS w M c ks):
  Calls prog 145 #[.map (some M),υ E.V r,.pointer (some ⟨q,0,none⟩)] w fun e w'=>e=.returned (.tuple #[])∧Kp [] w w':=by
 obtain⟨vp,hq,hsp⟩:=hq;have hqs:=ζ hq;have c2:=ξ hq 2;simp only[ρ,zG,zH,zI] at c2;clear hq hsp hM hd;rw[υ];go_enter func145,ntmps145;go_wp2_with fail;refine wp_loop_rounds 1 ?_;rw[rounds_succ];go_wp2
 go_end0
 exact⟨rfl,(Kp.refl _ _).alloc _⟩
def qY0(E:SEnv)(n:Nat):Prop:=∀ (t:Tn n) (q M c:Nat) (ks:List Nat) (r:HL) (w:World),E.Dev w→RN E.O n w q t→BS w M c ks→c+qB3 n t≤1000000→
 Calls prog 145 #[.map (some M),υ E.V r,.pointer (some ⟨q,0,none⟩)] w fun e w'=>e=.returned (.tuple #[])∧BS w' M (c+(qB3 n t-1)) (qF6 n t ks)∧E.Dev w'∧Kp (M::E.S) w w'
theorem xI8(E:SEnv):qY0 E 0:=fun t q M c ks r w hd hq hM hc=>by
 refine (xI9 E t q M c ks r w hd hq hM).mono ?_;rintro e w' ⟨rfl,hK⟩;exact⟨rfl,(hM.kp hK (by simp)).mono (by omega),(Env.To.of0 hd hK).dev,hK.mono (by simp)⟩
theorem qP3(E:SEnv){w:World}{M cc:Nat}{ks:List Nat}(hd:E.Dev w)(hM:BS w M cc ks){k:Nat}{c:Array Value}{t:TypeId}{fr:Nat × Nat}(h:w.heap[k]?=some (.cells c t fr))(ht:t ∉ qM9):k ∉ M::E.S:=fun hm=>by
 rcases List.mem_cons.1 hm with rfl|hm
 ·obtain⟨es,cl,h2⟩:=hM.at;rw[h] at h2;cases h2
 ·exact E.nin hd h ht hm
theorem qY3(E:SEnv){w:World}{M cc:Nat}{ks:List Nat}(hd:E.Dev w)(hM:BS w M cc ks):Apt w (M::E.S) qG0:=fun k hk c t fr e hm=>qP3 E hd hM e ((by decide:∀ t∈qG0,t ∉ qM9) t hm) hk
theorem xI7(E:SEnv)(hO:∀ (n b:Nat) (s:Int) (t:Tn n),E.O n b s t→b≤1000000)(n:Nat)(IH:qY0 E n):qY0 E (n+1):=by
 intro t q M c ks r w hd hq hM hc;obtain⟨vl,hq,hs,hsl,hbo⟩:=hq;obtain⟨lb,lc,rfl⟩:=qK4 hsl;obtain⟨ln,hln⟩:∃ ln,ln=hs.length:=⟨_,rfl⟩;obtain⟨lv,hlv⟩:∃ lv:Int,lv=((n+1:Nat):Int):=⟨_,rfl⟩;rw[←hln,←hlv] at hq;have HSL:=zh hsl;have HBO:=zh hbo;have HLN:Hid (ln=hs.length∧lv=((n+1:Nat):Int)):=⟨hln,hlv⟩;have HQ:=zh hq;have HD:=zh hd;have HM:=zh hM;have hqs:=ζ hq;have q2:=ξ hq 2;simp only[ρ,zG,zH,zI] at q2;have hlen:=qG7 (fun l:Lnk (Tn n)=>qB3 n l.sub) (η t) (fun x _=>by cases n<;>simp[qB3]);have hmn:qB3 (n+1) t=1+meas (fun l:Lnk (Tn n)=>qB3 n l.sub) (η t):=rfl;have hlb:ln≤1000000:=by rw[hln,hbo.1];omega
 clear hsl hbo hln hlv hq hd hM hlen;rw[υ];go_enter func145,ntmps145;go_wp2_with fail;have hT0:=ν w (.cells #[.pointer (some ⟨E.V,0,none⟩),.string r.key,.int .i64 r.b,.int .u64 r.s,.pointer r.ptr] 83);have hK0:Kp [] w (w.alloc (.cells #[.pointer (some ⟨E.V,0,none⟩),.string r.key,.int .i64 r.b,.int .u64 r.s,.pointer r.ptr] 83)):=(Kp.refl _ _).alloc _
 go_loopw [13] (fun i wr=>∃ j:Nat,j≤ln∧i=.int .i64 j∧w.heap.size<wr.heap.size∧Hid (BS wr M (c+meas (fun l:Lnk (Tn n)=>qB3 n l.sub) ((η t).take j)) (((η t).take j).foldl (qG8 (qF6 n)) ks))∧Hid (E.Dev wr)∧Hid (Kp (M::E.S) w wr)∧Hid (wr.heap[w.heap.size]?=some (.cells #[.pointer (some ⟨E.V,0,none⟩),.string r.key,.int .i64 r.b,.int .u64 r.s,.pointer r.ptr] 83))) (fun i _=>ln-(intOf i).toNat)
 case atStart=>exact⟨0,Nat.zero_le _,rfl,by simp,by show BS _ _ _ _;simpa [qD1] using HM.out.kp hK0 (by simp),(Env.To.of0 HD.out hK0).dev,hK0.mono (by simp),hT0⟩
 case round=>
  obtain⟨j,hj,rfl,hsw,HMr,HDr,HKr,HTr⟩:=hrel;clear q2 hT0 hK0;have hap:=qY3 E HD.out HM.out;have hQr:=HKr.out.heap HQ.out (qP3 E HD.out HM.out HQ.out (by decide));by_cases hlt:j<ln
  ·have hjl:j<hs.length:=by have:=HLN.out;omega
   have hjm:j<(η t).length:=by rw[←HBO.out.1];exact hjl
   obtain⟨gb,off,cp',cur,fq,hv,hcp,hrow,hcur⟩:=HSL.out.link (by omega);obtain⟨c0,c1,c2,c3⟩:=hcur j hjl;simp only[Value.slice.injEq,true_and] at hv;obtain⟨rfl,rfl⟩:=hv;have hR:=HKr.out.heap hrow (qP3 E HD.out HM.out hrow (by decide));have a0:=ξ hR (off+j*4);have a1:=ξ hR (off+j*4+1);have a2:=ξ hR (off+j*4+2);have a3:=ξ hR (off+j*4+3);rw[c0] at a0;rw[c1] at a1;rw[c2] at a2;rw[c3] at a3;have hgs:=ζ hR;have hjb:(j:Int)<(ln:Int):=by omega
   have HRL:Hid (RL E.O n wr hs[j] (η t)[j]):=RL.keep (HBO.out.2 j hjl hjm) HKr.out hap;have hms:=qL6 (fun l:Lnk (Tn n)=>qB3 n l.sub) (η t) j hjm;have hma:=qW7 (fun l:Lnk (Tn n)=>qB3 n l.sub) (η t) j hjm;have hnp:1≤qB3 n (η t)[j].sub:=by cases n<;>simp[qB3]
   have hfs:((η t).take (j+1)).foldl (qG8 (qF6 n)) ks=qG8 (qF6 n) (((η t).take j).foldl (qG8 (qF6 n)) ks) (η t)[j]:=by rw[List.take_succ_eq_append_getElem hjm,List.foldl_append];rfl
   have HFS:=zh hfs;clear hcur hcp hrow c0 c1 c2 c3 hfs;go_wp2_with fail;obtain⟨w1,hw1,h71,hK1,hs1⟩:=qF0 wr (.cells #[.string hs[j].key,.int .i64 hs[j].b,.int .u64 hs[j].s,.pointer hs[j].ptr] 81);rw[←hw1];clear hw1 a0 a1 a2 a3 hR hgs hjb;have hM1:=HMr.out.kp hK1 (by simp);have hD1:=(Env.To.of0 HDr.out hK1).dev;refine (show Calls _ _ _ _ _ from zO8 hO n M _ _ hs[j] (η t)[j] w1 hM1 (RL.keep HRL.out hK1 (Apt.nil _ _)) (by omega)).mono ?_;rintro e w2 ⟨go,ks1,rfl,hM2,hK2,hst⟩;have hoff:OffD w1 [M]:=fun k hk c t fr e=>by
    obtain⟨es,cl,h2⟩:=hM1.at;rw[List.mem_singleton.1 hk,h2] at e;cases e
   have hD2:=E.keepX _ _ _ hD1 hK2 hoff;have hKw2:Kp (M::E.S) w w2:=(HKr.out.tr hK1).tr hK2;have hQ2:=hKw2.heap HQ.out (qP3 E HD.out HM.out HQ.out (by decide));have hq2s:=ζ hQ2;have q0:=ξ hQ2 0;simp only[ρ,zG,zH,zI] at q0;have hnm:∀ k c t fr,w1.heap[k]?=some (.cells c t fr)→k ∉ [M]:=fun k c t fr e hm=>by
    obtain⟨es,cl,h2⟩:=hM1.at;rw[←List.mem_singleton.1 hm,e] at h2;cases h2
   have hT2:=hK2.heap (hK1.hp HTr.out) (hnm _ _ _ _ (hK1.hp HTr.out));have h72:=hK2.heap h71 (hnm _ _ _ _ h71);have hs2:=hK2.size;have HST:=zh hst;have HM2:=zh hM2;have HD2:=zh hD2;have HK2:=zh hKw2;have HT2:=zh hT2;have HRL2:Hid (RL E.O n w2 hs[j] (η t)[j]):=RL.keep (HBO.out.2 j hjl hjm) hKw2 hap;have H72:=zh h72;have HQ2:=zh hQ2;clear hst hM2 hD2 hKw2 hQ2 hT2 h72 hnm hoff hK1 hK2 hM1 hD1 h71 hap hQr
   cases go with
   | false=>
    go_wp2;exact⟨⟨j+1,by omega,by go_num,by omega,by show BS _ _ _ _;rw[HFS.out,HST.out,hms];exact HM2.out.mono (by omega),HD2,HK2,HT2⟩,by simp[intOf];omega⟩
   | true=>
    by_cases hn0:n=0
    ·have hl1:¬(1:Int)<lv:=by have:=HLN.out;omega
     go_wp2;refine⟨⟨j+1,by omega,by go_num,by omega,?_,HD2,HK2,HT2⟩,by simp[intOf];omega⟩;show BS _ _ _ _;rw[HFS.out,HST.out,hms];subst hn0;exact HM2.out.mono (by omega)
    ·have hl1:(1:Int)<lv:=by have:=HLN.out;omega
     go_wp2_with fail;have hS2:w2.drew.heap[w.heap.size]?=some (.cells #[.pointer (some ⟨E.V,0,none⟩),.string r.key,.int .i64 r.b,.int .u64 r.s,.pointer r.ptr] 83)∧w2.drew.heap[wr.heap.size]?=some (.cells #[.string hs[j].key,.int .i64 hs[j].b,.int .u64 hs[j].s,.pointer hs[j].ptr] 81)∧w2.drew.heap[q]?=some (ρ lv (.slice none 0 0) (.slice (some ⟨gb,off,none⟩) ln lc)):=⟨HT2.out,H72.out,HQ2.out⟩;refine wp_region_held_drew (S:=fun W=>W.heap[w.heap.size]?=some (.cells #[.pointer (some ⟨E.V,0,none⟩),.string r.key,.int .i64 r.b,.int .u64 r.s,.pointer r.ptr] 83)∧W.heap[wr.heap.size]?=some (.cells #[.string hs[j].key,.int .i64 hs[j].b,.int .u64 hs[j].s,.pointer hs[j].ptr] 81)∧W.heap[q]?=some (ρ lv (.slice none 0 0) (.slice (some ⟨gb,off,none⟩) ln lc))) (by kernel_rfl) hS2 (fun _=>?_);refine zU 0 (.map (some M)) hS2 ?_;refine zV 1 (.agg #[.pointer (some ⟨E.V,0,none⟩),.string r.key,.int .i64 r.b,.int .u64 r.s,.pointer r.ptr]) rfl (fun W hS=>by have a:=ξ hS.1;clear hS;go_simp) hS2 ?_;refine zV 2 (.agg #[.pointer (some ⟨E.V,0,none⟩),.string r.key,.int .i64 r.b,.int .u64 r.s,.pointer r.ptr]) rfl (fun W hS=>by have a:=ξ hS.1;clear hS;go_simp) hS2 ?_;refine zV 3 (.agg #[.string hs[j].key,.int .i64 hs[j].b,.int .u64 hs[j].s,.pointer hs[j].ptr]) rfl (fun W hS=>by have a:=ξ hS.2.1;clear hS;go_simp) hS2 ?_;refine zP 4 q 0 hS2 ?_;refine zV 5 (.pointer (some ⟨q,0,none⟩)) rfl (fun W hS=>by have c:=ζ hS.2.2;clear hS;go_simp) hS2 ?_;refine zP 6 q 0 hS2 ?_;refine zV 7 (.int .i64 lv) rfl (fun W hS=>by have a:=ξ hS.2.2 0;simp only[ρ,zG,zH,zI] at a;clear hS;go_simp) hS2 ?_;refine zq 8 fun K hK=>?_;go_simp;have hKd:Kp [] w2 w2.drew:=(Kp.refl _ _).drew;have hTd:=Env.To.of0 HD2.out hKd;refine (show Calls _ _ _ _ _ from qJ5 E.toEnv n hs[j] r (η t)[j] lv w2.drew hTd.dev (RL.keep HRL2.out hKd (Apt.nil _ _)) (by have:=HLN.out;omega)).mono ?_;rintro e w3 ⟨q3,rfl,hq3,hT3⟩;have hM3:BS w3 M _ ks1:=(HM2.out.kp hKd (by simp)).kp hT3.kp (by obtain⟨es,cl,h2⟩:=HM2.out.at;exact E.ninM HD2.out h2);have hS3:=And.intro (E.stay hTd.dev hT3 hS2.1 (by decide)) (And.intro (E.stay hTd.dev hT3 hS2.2.1 (by decide)) (E.stay hTd.dev hT3 hS2.2.2 (by decide)));refine hK.out _ _ hS3 (fun _=>?_);clear hK K
     try simp only[zZ]
     refine zq 9 fun K hK=>?_;go_simp;refine (show Calls _ _ _ _ _ from IH (η t)[j].sub q3 M _ ks1 r w3 hT3.dev hq3 hM3 (by omega)).mono ?_;rintro e w4 ⟨rfl,hM4,hD4,hK4⟩;have hni:∀ {k:Nat} {c:Array Value} {tt:TypeId} {fr:Nat × Nat},w3.heap[k]?=some (.cells c tt fr)→tt ∉ qM9→k ∉ M::E.S:=fun h1 h2=>qP3 E hT3.dev hM3 h1 h2;have hS4:=And.intro (hK4.heap hS3.1 (hni hS3.1 (by decide))) (And.intro (hK4.heap hS3.2.1 (hni hS3.2.1 (by decide))) (hK4.heap hS3.2.2 (hni hS3.2.2 (by decide))));refine hK.out _ _ hS4 (fun _=>?_);clear hK K;refine zd ?_
     try simp only[zZ]
     have HE4:Hid (BS w4 M (c+meas (fun l:Lnk (Tn n)=>qB3 n l.sub) ((η t).take j)+1+(qB3 n (η t)[j].sub-1)) (qF6 n (η t)[j].sub ks1)∧E.Dev w4∧Kp (M::E.S) w w4∧w.heap.size<w4.heap.size):=⟨hM4,hD4,((HK2.out.tr hKd).trans hT3.kp (fun i hi _=>List.mem_cons_of_mem _ hi)).trans hK4 (fun i hi _=>hi),ζ hS4.1⟩;have HT4:=zh hS4.1;clear hM4 hD4 hK4 hS4 hS3 hM3 hT3 hq3 hTd hKd hS2 hni;go_wp2;refine⟨⟨j+1,by omega,by go_num,HE4.out.2.2.2,?_,HE4.out.2.1,HE4.out.2.2.1,HT4⟩,by simp[intOf];omega⟩;show BS _ _ _ _;rw[HFS.out,HST.out,hms];exact HE4.out.1.mono (by omega)
  ·have hjb:¬(j:Int)<(ln:Int):=by omega
   have hje:(η t).take j=η t:=List.take_of_length_le (by rw[←HBO.out.1];have:=HLN.out;omega);have hMe:=HMr.out;rw[hje] at hMe;have HME:Hid (BS wr M (c+(qB3 (n+1) t-1)) (qF6 (n+1) t ks)):=hMe.mono (by rw[hmn];omega);clear hMe hje hap hQr;go_wp2
   go_end0
   exact⟨rfl,by first | exact HME.out | (have h:=HME.out;rw[hmn,Nat.add_sub_cancel_left] at h;exact h),HDr.out,HKr.out⟩
theorem zO3(E:SEnv)(hO:∀ (n b:Nat) (s:Int) (t:Tn n),E.O n b s t→b≤1000000):∀ n,qY0 E n
 | 0=>xI8 E
 | n+1=>xI7 E hO n (zO3 E hO n)
def qC1(N:Nat)(ks:List Nat):List Nat:=(List.range' 2 (N-2)).filter (fun k=>decide (k ∉ ks))
theorem xS8(ks:List Nat)(i:Nat):qC1 (2+(i+1)) ks=qC1 (2+i) ks++(if 2+i∈ks then [] else [2+i]):=by
 unfold qC1;rw[show 2+(i+1)-2=i+1 from by omega,show 2+i-2=i from by omega,List.range'_concat,List.filter_append]
 congr 1
 by_cases h:2+i∈ks<;>simp[h]
theorem xS9(ks:List Nat)(k:Nat)(h:2≤k):qC1 (k+1) ks=qC1 k ks++(if k∈ks then [] else [k]):=by
 have e:=xS8 ks (k-2);rw[show 2+(k-2+1)=k+1 from by omega,show 2+(k-2)=k from by omega] at e;exact e
theorem zA5(N:Nat)(ks:List Nat):(qC1 N ks).length≤N:=by
 unfold qC1;refine Nat.le_trans (List.length_filter_le _ _) ?_;simp
theorem xW0(a:List Nat)(b:Nat):qG6 (a++[b])=qG6 a++[.int .i64 (b:Int)]:=by simp[qG6]
theorem xV4:(prog.info? 3).map (fun i=>(i.zero,i.size,i.bytes))=some (some (.int .i64 0),1,8):=by kernel_rfl
theorem jL1(M c V A N:Nat)(ks:List Nat)(w:World)(hM:BS w M c ks)(hV:w.heap[V]?=some (qB6 A N))(hN2:2≤N)(hN:N≤1000):
  Calls prog 103 #[.map (some M),.pointer (some ⟨V,0,none⟩)] w fun e w'=>∃ v,e=.returned v∧Slc w' 3 1 v (qC1 N ks).length (qG6 (qC1 N ks))∧Kp [] w w':=by
 obtain⟨i0,hi,hz0,hz1,hz2⟩:=info_parts xV4;have HM:=zh hM;have HV:=zh hV;clear hM hV;go_enter func103,ntmps103;go_wp2_with fail
 go_loopw [5,6] (fun s i wr=>∃ (k:Nat),2≤k∧k≤N∧i=.int .i64 (k:Int)∧Hid (wr.ownsRow w.heap.size 3 1 s (qC1 k ks).length (qG6 (qC1 k ks)))∧Hid (Kp [] w wr)) (fun _ i _=>N-(intOf i).toNat)
 case atStart=>exact⟨2,Nat.le_refl _,hN2,rfl,World.ownsRow_nil _ _ _ _,Kp.refl _ _⟩
 case round=>
  obtain⟨k,hk2,hkN,rfl,HO,HK⟩:=hrel;go_wp2_with fail;refine (zE0 V A N wr (HK.out.hp HV.out)).mono ?_;rintro e w' ⟨rfl,hw'⟩;rw[hw'];clear hw' w';by_cases hlt:k<N
  ·have hlk:=(HM.out.kp HK.out (by simp)).look (k:=k) (by omega);have hjb:(k:Int)<(N:Int):=by omega
   have HFS:Hid (qC1 (k+1) ks=qC1 k ks++(if k∈ks then [] else [k])):=xS9 ks k hk2;have hfl:=zA5 k ks;by_cases hm:k∈ks
   ·have hd:decide (k∈ks)=true:=by simp[hm]
    rw[hd] at hlk;have h:=HO.out;rw[show qC1 k ks=qC1 (k+1) ks from by rw[HFS.out,if_pos hm,List.append_nil]] at h;have HO':=Hid.mk' h;clear h;clear hd hm;go_wp2;refine⟨⟨k+1,by omega,by omega,by go_num,HO'.out.alloc _,HK.out.alloc _⟩,by simp[intOf];omega⟩
   ·have hd:decide (k∈ks)=false:=by simp[hm]
    rw[hd] at hlk;have HFE:Hid (qC1 (k+1) ks=qC1 k ks++[k]):=by show _=_;rw[HFS.out,if_neg hm]
    clear hd hm
    go_wp2_with (at_builtin;refine wpList_append_own _ rfl _ _ 22 rfl w.heap.size 3 i0 (.int .i64 0) 1 8 underlying22 hi hz0 hz1 hz2 rfl (by decide) _ _ _ rfl ((HO.out.alloc _).alloc _) ⟨wr.heap.size+1,0,none⟩ 1 1 [.int .i64 (k:Int)] rfl rfl ?_ (by simp[Value.oneCell']) (by unfold maxLen;omega) (by omega) (by have:=HK.out.size;simp;omega) ?_)
    ·intro j u hu
     cases j with
     | zero=>
      simp only[zH,Option.some.injEq] at hu;subst hu;simp[Addr.add]
     | succ j=>simp at hu
    ·intro v1 w1 hown1 hgr1 _;have HO1:Hid (w1.ownsRow w.heap.size 3 1 v1 (qC1 (k+1) ks).length (qG6 (qC1 (k+1) ks))):=by
      show World.ownsRow _ _ _ _ _ _ _;rw[HFE.out,xW0,List.length_append];exact hown1
     have HK1:Hid (Kp [] w w1):=((HK.out.alloc _).alloc _).grown hgr1 (fun q hq=>Or.inr (qI3 HO.out q hq));clear hown1 hgr1;go_wp2;exact⟨⟨k+1,by omega,by omega,by go_num,HO1,HK1⟩,by simp[intOf];omega⟩
  ·have hjb:¬(k:Int)<(N:Int):=by omega
   have hke:k=N:=by omega
   have h:=HO.out;rw[hke] at h;have HOE:=Hid.mk' h;clear h;clear hke;go_wp2;go_ret;exact⟨_,rfl,qG3 HOE.out,HK.out⟩
def tcs(V:Nat)(h:HL):List Value:=[.pointer (some ⟨V,0,none⟩),.string h.key,.int .i64 h.b,.int .u64 h.s,.pointer h.ptr]
def qL3(V:Nat)(hs:List HL):List Value:=hs.flatMap (tcs V)
theorem jQ1(V:Nat)(hs:List HL)(i k:Nat)(hi:i<hs.length)(hk:k<5):(qL3 V hs)[i*5+k]?=(tcs V hs[i])[k]?:=by
 have h:=zS1 (tcs V) 5 hs (fun x _=>rfl) i hi;have h2:=congrArg (fun z=>z[k]?) h;simp only[List.getElem?_take,if_pos hk,List.getElem?_drop] at h2;exact h2
theorem Slc.tree{V:Nat}{w:World}{v:Value}{hs:List HL}(h:Slc w 83 5 v hs.length (qL3 V hs))(hn:1≤hs.length):
  ∃ g off cap cur fr,v=.slice (some ⟨g,off,none⟩) hs.length cap∧hs.length≤cap∧w.heap[g]?=some (.cells cur 83 fr)∧∀ i (h:i<hs.length),cur[off+i*5]?=some (.pointer (some ⟨V,0,none⟩))∧cur[off+i*5+1]?=some (.string hs[i].key)∧cur[off+i*5+2]?=some (.int .i64 hs[i].b)∧cur[off+i*5+3]?=some (.int .u64 hs[i].s)∧cur[off+i*5+4]?=some (.pointer hs[i].ptr):=by
 rcases h.val with⟨h0,_⟩|⟨g,off,cap,cur,fr,h1,h2,h3,h4,h5⟩
 ·omega
 ·have at_:∀ i (hi:i<hs.length) k (hk:k<5) u,(tcs V hs[i])[k]?=some u→cur[off+i*5+k]?=some u:=fun i hi k hk u hu=>by
   rw[Nat.add_assoc];exact h5 _ _ ((jQ1 V hs i k hi hk).trans hu)
  exact⟨g,off,cap,cur,fr,h1,h3,h4,fun i hi=>⟨at_ i hi 0 (by omega) _ rfl,at_ i hi 1 (by omega) _ rfl,at_ i hi 2 (by omega) _ rfl,at_ i hi 3 (by omega) _ rfl,at_ i hi 4 (by omega) _ rfl⟩⟩
def qA7(ks:List Nat):Root→List Nat
 | .none=>ks
 | .at n l=>qG8 (qF6 n) ks l
def qC3:Root→Nat
 | .none=>0
 | .at n l=>qB3 n l.sub
theorem zN8(E:SEnv)(hO:∀ (n b:Nat) (s:Int) (t:Tn n),E.O n b s t→b≤1000000)(M c:Nat)(ks:List Nat)(v:Value)(hs:List HL)(rs:List Root)(w:World)(hd:E.Dev w)(hv:Slc w 83 5 v hs.length (qL3 E.V hs))(hl:hs.length=rs.length)(hr:∀ i (h1:i<hs.length) (h2:i<rs.length),RR E.toEnv w hs[i] rs[i]∧(∀ n l,rs[i]=.at n l→l.key=⟨#[]⟩))(hM:BS w M c ks)(hc:c+meas qC3 rs<1000000)(hn:hs.length≤1000):
  Calls prog 102 #[.map (some M),v] w fun e w'=>e=.returned (.tuple #[])∧BS w' M (c+meas qC3 rs) (rs.foldl qA7 ks)∧E.Dev w'∧Kp (M::E.S) w w':=by
 obtain⟨bs,cp,rfl⟩:=qK4 hv;obtain⟨ln,hln⟩:∃ ln,ln=hs.length:=⟨_,rfl⟩;have HV:=zh hv;rw[←hln];have HLN:Hid (ln=hs.length∧hs.length=rs.length):=⟨hln,hl⟩;have HR:=zh hr;have HD:=zh hd;have HM:=zh hM;have hlb:ln≤1000:=by omega
 clear hv hln hl hr hd hM hn;go_enter func102,ntmps102;go_wp2_with fail
 go_loopw [8] (fun i wr=>∃ j:Nat,j≤ln∧i=.int .i64 j∧Hid (BS wr M (c+meas qC3 (rs.take j)) ((rs.take j).foldl qA7 ks))∧Hid (E.Dev wr)∧Hid (Kp (M::E.S) w wr)) (fun i _=>ln-(intOf i).toNat)
 case atStart=>exact⟨0,Nat.zero_le _,rfl,by show BS _ _ _ _;simpa [qD1] using HM.out,HD,Kp.refl _ _⟩
 case round=>
  obtain⟨j,hj,rfl,HMr,HDr,HKr⟩:=hrel;by_cases hlt:j<ln
  ·have hjl:j<hs.length:=by have:=HLN.out;omega
   have hjm:j<rs.length:=by have:=HLN.out;omega
   obtain⟨gb,off,cp',cur,fq,hv,hcp,hrow,hcur⟩:=HV.out.tree (by omega);obtain⟨c0,c1,c2,c3,c4⟩:=hcur j hjl;simp only[Value.slice.injEq,true_and] at hv;obtain⟨rfl,rfl⟩:=hv;have hR:=HKr.out.heap hrow (qP3 E HD.out HM.out hrow (by decide));have a0:=ξ hR (off+j*5);have a1:=ξ hR (off+j*5+1);have a2:=ξ hR (off+j*5+2);have a3:=ξ hR (off+j*5+3);have a4:=ξ hR (off+j*5+4);rw[c0] at a0;rw[c1] at a1;rw[c2] at a2;rw[c3] at a3;rw[c4] at a4;have hgs:=ζ hR;have hjb:(j:Int)<(ln:Int):=by omega
   have hms:=qL6 qC3 rs j hjm;have hma:=qW7 qC3 rs j hjm;have HFS:Hid ((rs.take (j+1)).foldl qA7 ks=qA7 ((rs.take j).foldl qA7 ks) rs[j]):=by show _=_;rw[List.take_succ_eq_append_getElem hjm,List.foldl_append];rfl
   clear hcur hcp hrow c0 c1 c2 c3 c4;go_wp2_with fail;obtain⟨w1,hw1,h51,hK1,hs1⟩:=qF0 wr (.cells #[.pointer (some ⟨E.V,0,none⟩),.string hs[j].key,.int .i64 hs[j].b,.int .u64 hs[j].s,.pointer hs[j].ptr] 83);rw[←hw1];clear hw1 a0 a1 a2 a3 a4 hR hgs hjb;have hM1:=HMr.out.kp hK1 (by simp);have hD1:=(Env.To.of0 HDr.out hK1).dev;have hKw1:Kp (M::E.S) w w1:=HKr.out.tr hK1;have hap:=qY3 E HD.out HM.out;obtain⟨hRR,hkey⟩:=HR.out j hjl hjm
   cases hrj:rs[j] with
   | none=>
    rw[hrj] at hRR;have hz:hs[j]=⟨⟨#[]⟩,0,0,none⟩:=hRR;refine (show Calls _ _ _ _ _ from (by have h:=qZ6 E.V w1;rw[←hz] at h;exact h:Calls prog 85 #[υ E.V hs[j]] w1 fun e w'=>e=.returned (.bool true)∧Kp [] w1 w')).mono ?_;rintro e w2 ⟨rfl,hK2⟩;have HE2:Hid (BS w2 M (c+meas qC3 (rs.take j)) ((rs.take j).foldl qA7 ks)∧E.Dev w2∧Kp (M::E.S) w w2):=⟨hM1.kp hK2 (by simp),(Env.To.of0 hD1 hK2).dev,hKw1.tr hK2⟩;have h52:=hK2.hp h51;have h52s:=ζ h52;clear hM1 hD1 hKw1 hK2 hK1 h51 h52 hRR hkey hz hap;go_wp2;refine⟨⟨j+1,by omega,by go_num,?_,HE2.out.2.1,HE2.out.2.2⟩,by simp[intOf];omega⟩;show BS _ _ _ _;rw[HFS.out,hrj,hms,hrj];exact HE2.out.1.mono (by simp[qC3])
   | «at» n l=>
    rw[hrj] at hRR;have hrl1:RL E.O n w1 hs[j] l:=RL.keep hRR hKw1 hap;refine (show Calls _ _ _ _ _ from qZ5 E.toEnv n hs[j] l w1 hrl1 (hkey n l hrj)).mono ?_;rintro e w2 ⟨rfl,hK2⟩;have hM2:=hM1.kp hK2 (by simp);have hD2:=(Env.To.of0 hD1 hK2).dev;have hKw2:Kp (M::E.S) w w2:=hKw1.tr hK2;have h52:=hK2.hp h51;have h52s:=ζ h52;have hrl2:RL E.O n w2 hs[j] l:=RL.keep hRR hKw2 hap;have d1:=ξ h52;rw[hrj] at hma hms;clear hM1 hD1 hKw1 hK2 hK1 h51 hkey hrl1;have hnp:1≤qC3 (.at n l):=by simp only[qC3];cases n<;>simp[qB3]
    go_wp2_with fail;refine (show Calls _ _ _ _ _ from zO8 hO n M _ _ hs[j] l w2 hM2 hrl2 (by omega)).mono ?_;rintro e w3 ⟨go,ks1,rfl,hM3,hK3,hst⟩;have hnm:∀ {S:List Nat} {W:World} {cc:Nat} {kk:List Nat} {k:Nat} {c:Array Value} {t:TypeId} {fr:Nat × Nat},BS W M cc kk→W.heap[k]?=some (.cells c t fr)→k ∉ [M]:=fun hB e hm=>by
     obtain⟨es,cl,h2⟩:=hB.at;rw[←List.mem_singleton.1 hm,e] at h2;cases h2
    have hoff:OffD w2 [M]:=fun k hk c t fr e=>absurd hk (hnm (S:=[]) hM2 e);have hD3:=E.keepX _ _ _ hD2 hK3 hoff;have hKw3:Kp (M::E.S) w w3:=hKw2.tr hK3;have h53:=hK3.heap h52 (hnm (S:=[]) hM2 h52);have HST:=zh hst;have HM3:=zh hM3;have HD3:=zh hD3;have HK3:=zh hKw3;have HRL3:Hid (RL E.O n w3 hs[j] l):=RL.keep hRR hKw3 hap;have H53:=zh h53;clear hst hM3 hD3 hKw3 h53 hnm hoff hK3 hM2 hD2 hKw2 h52 hrl2 hap hRR d1
    cases go with
    | false=>
     go_wp2;refine⟨⟨j+1,by omega,by go_num,?_,HD3,HK3⟩,by simp[intOf];omega⟩;show BS _ _ _ _;rw[HFS.out,hrj,hms,qA7,HST.out];exact HM3.out.mono (by omega)
    | true=>
     go_wp2_with fail;have hS3:w3.drew.heap[wr.heap.size]?=some (.cells #[.pointer (some ⟨E.V,0,none⟩),.string hs[j].key,.int .i64 hs[j].b,.int .u64 hs[j].s,.pointer hs[j].ptr] 83):=H53.out;refine wp_region_held_drew (S:=fun W=>W.heap[wr.heap.size]?=some (.cells #[.pointer (some ⟨E.V,0,none⟩),.string hs[j].key,.int .i64 hs[j].b,.int .u64 hs[j].s,.pointer hs[j].ptr] 83)) (by kernel_rfl) hS3 (fun _=>?_);refine zU 0 (.map (some M)) hS3 ?_;refine zV 1 (.agg #[.pointer (some ⟨E.V,0,none⟩),.string hs[j].key,.int .i64 hs[j].b,.int .u64 hs[j].s,.pointer hs[j].ptr]) rfl (fun W hS=>by have a:=ξ hS;clear hS;go_simp) hS3 ?_;refine zV 2 (.agg #[.pointer (some ⟨E.V,0,none⟩),.string hs[j].key,.int .i64 hs[j].b,.int .u64 hs[j].s,.pointer hs[j].ptr]) rfl (fun W hS=>by have a:=ξ hS;clear hS;go_simp) hS3 ?_;refine zq 3 fun K hK=>?_;go_simp;have hKd:Kp [] w3 w3.drew:=(Kp.refl _ _).drew;have hTd:=Env.To.of0 HD3.out hKd;refine (show Calls _ _ _ _ _ from qX6 E.toEnv n hs[j] l w3.drew hTd.dev (RL.keep HRL3.out hKd (Apt.nil _ _))).mono ?_;rintro e w4 ⟨q4,rfl,hq4,hT4⟩;have hM4:BS w4 M _ ks1:=(HM3.out.kp hKd (by simp)).kp hT4.kp (by obtain⟨es,cl,h2⟩:=HM3.out.at;exact E.ninM HD3.out h2);have hS4:=E.stay hTd.dev hT4 hS3 (by decide);refine hK.out _ _ hS4 (fun _=>?_);clear hK K
     try simp only[zZ]
     refine zq 4 fun K hK=>?_;go_simp;have hrn:qC3 (.at n l)=qB3 n l.sub:=rfl;refine (show Calls _ _ _ _ _ from zO3 E hO n l.sub q4 M _ ks1 hs[j] w4 hT4.dev hq4 hM4 (by omega)).mono ?_;rintro e w5 ⟨rfl,hM5,hD5,hK5⟩;refine hK.out _ _ (hK5.heap hS4 (qP3 E hT4.dev hM4 hS4 (by decide))) (fun _=>?_);clear hK K;refine zd ?_
     try simp only[zZ]
     have HE5:Hid (BS w5 M (c+meas qC3 (rs.take j)+1+(qB3 n l.sub-1)) (qF6 n l.sub ks1)∧E.Dev w5∧Kp (M::E.S) w w5):=⟨hM5,hD5,((HK3.out.tr hKd).trans hT4.kp (fun i hi _=>List.mem_cons_of_mem _ hi)).trans hK5 (fun i hi _=>hi)⟩;clear hM5 hD5 hK5 hS4 hM4 hT4 hq4 hTd hKd hS3;go_wp2;refine⟨⟨j+1,by omega,by go_num,?_,HE5.out.2.1,HE5.out.2.2⟩,by simp[intOf];omega⟩;show BS _ _ _ _;rw[HFS.out,hrj,hms,qA7,HST.out];exact HE5.out.1.mono (by omega)
  ·have hjb:¬(j:Int)<(ln:Int):=by omega
   have hje:rs.take j=rs:=List.take_of_length_le (by have:=HLN.out;omega);have hMe:=HMr.out;rw[hje] at hMe;have HME:=zh hMe;clear hMe hje;go_wp2
   go_end0
   exact⟨rfl,HME.out,HDr.out,HKr.out⟩
theorem RR.kp{E:Env}{w w':World}{h:HL}{r:Root}{S:List Nat}(hr:RR E w h r)(hK:Kp S w w')(hS:Apt w S qG0):RR E w' h r:=by
 cases r with
 | none=>exact hr
 | «at» n l=>exact RL.keep hr hK hS
theorem xA4(E:SEnv)(hO:∀ (n b:Nat) (s:Int) (t:Tn n),E.O n b s t→b≤1000000)(A N:Nat)(h:HL)(rt:Root)(v:Value)(hs:List HL)(rs:List Root)(w:World)(hd:E.Dev w)(hv:Slc w 83 5 v hs.length (qL3 E.V hs))(hl:hs.length=rs.length)(hr:∀ i (h1:i<hs.length) (h2:i<rs.length),RR E.toEnv w hs[i] rs[i]∧(∀ n l,rs[i]=.at n l→l.key=⟨#[]⟩))(hrt:RR E.toEnv w h rt)(hkt:∀ n l,rt=.at n l→l.key=⟨#[]⟩)(hc:qC3 rt+meas qC3 rs<1000000)(hn:hs.length≤1000)
  (hV:∀ W,E.Dev W→W.heap[E.V]?=some (qB6 A N)) (hN2:2≤N) (hN:N≤1000)
  (hnew:∀ W,E.Dev W→RR E.toEnv W h rt→Calls prog 58 #[υ E.V h] W fun e w'=>e=.returned (.int .i64 (rt.news:Int))∧Kp [] W w') (hnb:rt.news≤1000000) (hfit:rt.news≤(qC1 N (rs.foldl qA7 (qA7 [] rt))).length):
  Calls prog 66 #[υ E.V h,v] w fun e w'=>∃ vf,e=.returned (.tuple #[vf,.int .i64 (((qA7 [] rt).length+rt.news:Nat):Int)])∧Slc w' 3 1 vf (qC1 N (rs.foldl qA7 (qA7 [] rt))).length (qG6 (qC1 N (rs.foldl qA7 (qA7 [] rt))))∧E.Dev w'∧Kp E.S w w':=by
 obtain⟨bs,cp,rfl⟩:=qK4 hv;obtain⟨ln,hln⟩:∃ ln,ln=hs.length:=⟨_,rfl⟩;have HV:=zh hv;rw[←hln];have HLN:=zh hln;have HR:=zh hr;have HD:=zh hd;have HT:Hid (RR E.toEnv w h rt∧∀ n l,rt=.at n l→l.key=⟨#[]⟩):=⟨hrt,hkt⟩;have HNEW:=zh hnew;have HFIT:=zh hfit;clear hv hln hr hd hrt hkt hnew hfit;rw[υ];go_enter func66,ntmps66;have hmm:=@run_makeMap prog;go_wp2_with fail;obtain⟨W,hW,hT0,hM0,hB0,hK0,hs0⟩:=qV5 w (.cells #[.pointer (some ⟨E.V,0,none⟩),.string h.key,.int .i64 h.b,.int .u64 h.s,.pointer h.ptr] 83) (.map #[] 0) (.cells #[.pointer (some ⟨E.V,0,none⟩),.string h.key,.int .i64 h.b,.int .u64 h.s,.pointer h.ptr] 83);have hbs:BS W (w.heap.size+1) 0 []:=by
  have h1:=(BS.made (w.alloc (.cells #[.pointer (some ⟨E.V,0,none⟩),.string h.key,.int .i64 h.b,.int .u64 h.s,.pointer h.ptr] 83))).kp ((Kp.refl [] _).alloc (.cells #[.pointer (some ⟨E.V,0,none⟩),.string h.key,.int .i64 h.b,.int .u64 h.s,.pointer h.ptr] 83)) (by simp);rw[←hW] at h1;simpa using h1
 rw[←hW];clear hW hmm;have hDW:=(Env.To.of0 HD.out hK0).dev;have hrW:=RR.kp HT.out.1 hK0 (Apt.nil _ _);refine (zN8 E hO (w.heap.size+1) 0 [] (.slice (some ⟨w.heap.size+1+1,0,none⟩) 1 1) [h] [rt] W hDW ⟨rfl,Or.inr ⟨w.heap.size+1+1,0,1,_,_,rfl,Nat.le_refl _,Nat.le_refl _,hB0,fun j u hu=>by simpa [qL3,tcs] using hu⟩⟩ rfl (fun i h1 h2=>by have e:i=0:=(by simpa using h1);subst e;exact⟨hrW,HT.out.2⟩) hbs (by simp[qE0,qD1];omega) (by simp)).mono ?_;rintro e w1 ⟨rfl,hM1,hD1,hK1⟩;simp only[List.foldl_cons,List.foldl_nil,qE0,qD1,Nat.zero_add,Nat.add_zero] at hM1;have hapW:=qY3 E hDW hbs;have hT1:=hK1.heap hT0 (qP3 E hDW hbs hT0 (by decide));have hr1:=RR.kp hrW hK1 hapW;have hlen:=hM1.len 3;have hcard:=hM1.card;have t:=ξ hT1;have hT1s:=ζ hT1;obtain⟨k1,hk1⟩:∃ k1,k1=(qA7 [] rt).length:=⟨_,rfl⟩;rw[←hk1] at hlen hcard;obtain⟨nw,hnw⟩:∃ nw,nw=rt.news:=⟨_,rfl⟩;have HKN:Hid (k1=(qA7 [] rt).length∧nw=rt.news):=⟨hk1,hnw⟩;have HM1:=zh hM1;have HD1:=zh hD1;have HW1:Hid (Kp E.S w w1):=(hK0.mono (by simp)).trans hK1 (fun i hi hlt=>by rcases List.mem_cons.1 hi with rfl | hi;omega;exact hi);have HT1:=zh hT1;have HR1:=zh hr1;clear hM1 hD1 hK1 hT1 hr1 hk1 hapW hrW hDW hbs hK0 hT0 hM0 hB0;rw[←hnw] at hnb;clear hnw;go_wp2_with fail;refine (show Calls _ _ _ _ _ from HNEW.out w1 HD1.out HR1.out).mono ?_;rintro e w2 ⟨rfl,hK2⟩;rw[←HKN.out.2];have hM2:=HM1.out.kp hK2 (by simp);have hD2:=(Env.To.of0 HD1.out hK2).dev;have hT2:=hK2.hp HT1.out;have hKw2:Kp E.S w w2:=HW1.out.tr hK2;have haT:Apt w E.S [83]:=fun k hk c t fr e hm=>E.nin HD.out e (by rw[List.mem_singleton.1 hm];decide) hk;have hsl2:=HV.out.keep hKw2 haT;have HRS:Hid (∀ i (h1:i<hs.length) (h2:i<rs.length),RR E.toEnv w2 hs[i] rs[i]∧(∀ n l,rs[i]=.at n l→l.key=⟨#[]⟩)):=fun i h1 h2=>⟨RR.kp (HR.out i h1 h2).1 hKw2 (E.apt w HD.out),(HR.out i h1 h2).2⟩;have HM2:=zh hM2;have HD2:=zh hD2;have HW2:=zh hKw2;have HT2:=zh hT2;have HS2:=zh hsl2;clear hM2 hD2 hT2 hKw2 hsl2 hK2 haT t hlen;go_wp2_with fail;refine (show Calls _ _ _ _ _ from (by rw[HLN.out];exact zN8 E hO (w.heap.size+1) (qC3 rt) (qA7 [] rt) (.slice bs hs.length cp) hs rs w2 HD2.out HS2.out hl HRS.out HM2.out hc hn:Calls prog 102 #[.map (some (w.heap.size+1)),.slice bs ln cp] w2 _)).mono ?_;rintro e w3 ⟨rfl,hM3,hD3,hK3⟩;have hT3:=hK3.heap HT2.out (qP3 E HD2.out HM2.out HT2.out (by decide));have hr3:=RR.kp (RR.kp HT.out.1 HW2.out (E.apt w HD.out)) hK3 (qY3 E HD2.out HM2.out);have hKw3:Kp E.S w w3:=HW2.out.trans hK3 (fun i hi hlt=>by rcases List.mem_cons.1 hi with rfl | hi;omega;exact hi);have t:=ξ hT3;have hT3s:=ζ hT3;go_wp2_with fail;refine (jL1 (w.heap.size+1) _ E.V A N _ w3 hM3 (hV w3 hD3) hN2 hN).mono ?_;rintro e w4 ⟨vf,rfl,hsf,hK4⟩;obtain⟨fs,hfs⟩:∃ fs,fs=qC1 N (rs.foldl qA7 (qA7 [] rt)):=⟨_,rfl⟩;rw[←hfs] at hsf;obtain⟨fb,fc,rfl⟩:=qK4 hsf;have hfit:=HFIT.out;rw[←hfs,←HKN.out.2] at hfit;obtain⟨fl,hfl⟩:∃ fl,fl=fs.length:=⟨_,rfl⟩;rw[←hfl] at hfit;have hT4:=hK4.hp hT3;have t4:=ξ hT4;have hT4s:=ζ hT4;have hD4:=(Env.To.of0 hD3 hK4).dev;have hr4:=RR.kp hr3 hK4 (Apt.nil _ _);have HF4:Hid (Slc w4 3 1 (.slice fb fl fc) fs.length (qG6 fs)∧fl=fs.length∧fs=qC1 N (rs.foldl qA7 (qA7 [] rt))):=⟨by rw[hfl];exact hsf,hfl,hfs⟩;rw[←hfl];have HD4:=zh hD4;have HK4:Hid (Kp E.S w w4):=hKw3.tr hK4;have HR4:=zh hr4;clear t hT3 hM3 hD3 hK3 hr3 hKw3 hsf hK4 hT4 hD4 hr4 hfs hfl hT3s;go_wp2_with fail;refine (show Calls _ _ _ _ _ from HNEW.out w4 HD4.out HR4.out).mono ?_;rintro e w5 ⟨rfl,hK5⟩;rw[←HKN.out.2];have hgt:¬(fl:Int)<(nw:Int):=by omega
 have HE:Hid (Slc w5 3 1 (.slice fb fl fc) fs.length (qG6 fs)∧E.Dev w5∧Kp E.S w w5):=⟨HF4.out.1.keep0 hK5,(Env.To.of0 HD4.out hK5).dev,HK4.out.tr hK5⟩;clear hK5 t4;go_wp2
 go_ret2
 refine⟨.slice fb fl fc,?_,?_,HE.out.2⟩
 ·rw[←HKN.out.1,←HKN.out.2,Int.natCast_add];rfl
 ·rw[←HF4.out.2.2];exact HE.out.1
end Go.Proofs.YtdohpenfkdckiabGreatDoor
