import Derived.Test.YtdohpenfkdckiabGreatDoorB16
import Derived.Test.YtdohpenfkdckiabGreatDoorW02
import Derived.Test.YtdohpenfkdckiabGreatDoorRows
import Derived.ChangeSame
import Derived.ChangeVars
import Derived.JoinedOf
import Derived.RowKit
import Derived.LaidLaws
import Derived.LaidHandle
import Derived.Deep.Slices
import Derived.Stop.Joined
import Derived.Lay
set_option linter.all false
set_option maxRecDepth 100000
set_option maxHeartbeats 20000000
namespace Go.Proofs.YtdohpenfkdckiabGreatDoor
open Go.Proofs.Tryz
open Go.RowKit
theorem qI0(Tc Kc Wc x:Nat)(t:Tx)(w:World)(hTc:w.heap[Tc]?=some (.cells #[.pointer (some ⟨x,0,none⟩)] 29))(hx:w.heap[x]?=some (qA6 t))(hwr:t.wrt=false):
  Calls prog 90 #[.pointer (some ⟨Tc,0,none⟩),.pointer (some ⟨Kc,0,none⟩),.pointer (some ⟨Wc,0,none⟩)] w fun e w'=>e=qD1 (some 6)∧w'=w:=by
 have hs:=ζ hTc;have hxs:=ζ hx;have c0:=ξ hTc 0;simp only[zG,zH,zI] at c0;have x2:=ξ hx 2;simp only[qA6,zG,zH,zI] at x2;rw[hwr] at x2;go_enter func90,ntmps90;go_wp2;exact⟨rfl,rfl,rfl,rfl⟩
theorem qH7(Tc Kc Wc x:Nat)(t:Tx)(k:ByteArray)(w:World)(hTc:w.heap[Tc]?=some (.cells #[.pointer (some ⟨x,0,none⟩)] 29))(hKc:w.heap[Kc]?=some (.cells #[.string k] 9))(hx:w.heap[x]?=some (qA6 t))(hwr:t.wrt=true)(hk:k.size<1∨8<k.size):
  Calls prog 90 #[.pointer (some ⟨Tc,0,none⟩),.pointer (some ⟨Kc,0,none⟩),.pointer (some ⟨Wc,0,none⟩)] w fun e w'=>e=qD1 (some 1)∧w'=w:=by
 have hs:=ζ hTc;have hxs:=ζ hx;have hks:=ζ hKc;have c0:=ξ hTc 0;simp only[zG,zH,zI] at c0;have k0:=ξ hKc 0;simp only[zG,zH,zI] at k0;have x2:=ξ hx 2;simp only[qA6,zG,zH,zI] at x2;rw[hwr] at x2;have HK:=zh hk;clear hk;go_enter func90,ntmps90;go_wp2_with fail;refine (qI2 k _ HK.out).mono ?_;rintro e w1 ⟨rfl,rfl⟩;simp only[qD1];go_wp2;exact⟨rfl,rfl,rfl⟩
theorem qB3(j:Int)(Tc Kc Wc x f:Nat)(t:Tx)(key:ByteArray)(first cap:Array Value)(R:World→Prop)(w:World)(hTc:w.heap[Tc]?=some (.cells #[.pointer (some ⟨x,0,none⟩)] 29))(hKc:w.heap[Kc]?=some (.cells #[.string key] 9))(hWc:w.heap[Wc]?=some (.cells #[.func (.func f) first cap] 1))(hx:w.heap[x]?=some (qA6 t))(hwr:t.wrt=true)(hk1:1≤key.size)(hk8:key.size≤8)
  (hcf:∀ W:World,Sem.run prog (callFunc f (first++cap)) W=.ok (.enter f (first++cap)) W)
  (hw:Calls prog f (first++cap) w fun e w'=>e=qD1 (some j)∧R w'):
  Calls prog 90 #[.pointer (some ⟨Tc,0,none⟩),.pointer (some ⟨Kc,0,none⟩),.pointer (some ⟨Wc,0,none⟩)] w fun e w'=>e=qD1 (some j)∧R w':=by
 have hs:=ζ hTc;have hxs:=ζ hx;have hks:=ζ hKc;have hws:=ζ hWc;have c0:=ξ hTc 0;simp only[zG,zH,zI] at c0;have k0:=ξ hKc 0;simp only[zG,zH,zI] at k0;have f0:=ξ hWc 0;simp only[zG,zH,zI] at f0;have x2:=ξ hx 2;simp only[qA6,zG,zH,zI] at x2;rw[hwr] at x2;have HW:=zh hw;clear hw;go_enter func90,ntmps90;go_wp2_with fail;refine (zR6 key _ hk1 hk8).mono ?_;rintro e w1 ⟨rfl,rfl⟩;simp only[qD1];go_wp2_with fail;refine (show Calls _ _ _ _ _ from HW.out).mono ?_;rintro e w1 ⟨rfl,hR⟩;have HR:=zh hR;clear hR;simp only[qD1];go_wp2;exact⟨rfl,rfl,HR.out⟩
theorem qI1(E:SEnv)(j:Int)(hj:j≠8)(x A n f:Nat)(t:Tx)(s:Sto)(r:Root)(key call:ByteArray)(first cap:Array Value)(w:World)(hL:LiveT E w x A n t s r)
  (hw:∀ (W:World) (Tc Kc Wc:Nat),Kp [t.St] w W→E.Dev W→W.heap[x]?=some (qA6 t)→W.heap[t.St]?=some (τ 1 s)→W.heap[Tc]?=some (.cells #[.pointer (some ⟨x,0,none⟩)] 29)→W.heap[Kc]?=some (.cells #[.string key] 9)→W.heap[Wc]?=some (.cells #[.func (.func f) first cap] 1)→
   Calls prog 90 #[.pointer (some ⟨Tc,0,none⟩),.pointer (some ⟨Kc,0,none⟩),.pointer (some ⟨Wc,0,none⟩)] W fun e w1=>e=qD1 (some j)∧E.To W w1):
  Calls prog 51 #[.pointer (some ⟨x,0,none⟩),.string call,.string key,.func (.func f) first cap] w fun e w'=>∃ v,e=.returned v∧qI9 w' v (some j)∧BadT E w w' t s:=by
 refine (xJ7 (some j) (by simpa using hj) x f t s key call first cap E.S (fun W w1=>E.To W w1∧w1.heap[t.St]?=some (τ 1 s)) w hL.hx hL.over hL.hSt hL.po hL.xS (fun i hi=>E.low w hL.dev i hi) ?_).mono ?_
 ·intro W Tc Kc Wc hK _ _ _ hS hT hKc hWc;have hx:=hK.heap hL.hx (by simp;exact hL.xS);have hd:=hL.devS hK;refine (hw W Tc Kc Wc hK hd hx hS hT hKc hWc).mono ?_;rintro e w1 ⟨rfl,hT1⟩;have hS1:=E.stay hd hT1 hS (by decide);exact⟨rfl,⟨hT1,hS1⟩,hT1.kp.mono (by simp +contextual),hS1⟩
 ·rintro e w' ⟨v,rfl,hv,hSt,hK,W,w1,B,⟨hT1,hS1⟩,hKW,hB1,hB2,hB3,hKB⟩;exact⟨v,rfl,hv,E.keepX w1 w' _ hT1.dev hKB (qT8 hS1 hB3),hSt,hK⟩
theorem BadT.from{E:SEnv}{w w0 w':World}{t:Tx}{s:Sto}(hK:Kp [] w w0)(h:BadT E w0 w' t s):BadT E w w' t s:=
 { h with kp:=(hK.mono (by simp)).trans h.kp (fun _ h _=>h) }
def qA0(t:Tx)(p:KV)(full:Bool):Option Int:=
 if t.wrt=false then some 6 else if qQ7 p.k=false then some 1 else if 12<p.v.size then some 2 else if full then some 3 else none
theorem qJ4{k:ByteArray}(h:qQ7 k=false):k.size<1∨8<k.size:=by
 have:=mt (zF3 k).2 (by simp[h]);omega
theorem zC1(E:SEnv)(x A n:Nat)(t:Tx)(s:Sto)(r:Root)(p:KV)(j:Int)(w:World)(hL:LiveT E w x A n t s r)(hj:qA0 t p (decide ((n:Int)-2-s.bl<((r.put p).news:Int)))=some j):
  Calls prog 28 #[.pointer (some ⟨x,0,none⟩),.string p.k,.string p.v] w fun e w'=>∃ v,e=.returned v∧qI9 w' v (some j)∧BadT E w w' t s:=by
 have HL:=zh hL;have HJ:=zh hj;have hxs:=ζ hL.hx;have hSs:=ζ hL.hSt;clear hL hj;have hmf:=zM;go_enter func28,ntmps28;go_wp2_with fail;obtain⟨w0,hw0,hT0,hK0,hV0,hKp0,hs0⟩:∃ w0,w0=((w.alloc (.cells #[.pointer (some ⟨x,0,none⟩)] 29)).alloc (.cells #[.string p.k] 9)).alloc (.cells #[.string p.v] 9)∧w0.heap[w.heap.size]?=some (.cells #[.pointer (some ⟨x,0,none⟩)] 29)∧w0.heap[w.heap.size+1]?=some (.cells #[.string p.k] 9)∧w0.heap[w.heap.size+2]?=some (.cells #[.string p.v] 9)∧Kp [] w w0∧w0.heap.size=w.heap.size+3:=by
  refine⟨_,rfl,θ _ (θ _ (μ _ _)),θ _ ?_,?_,(((Kp.refl _ _).alloc _).alloc _).alloc _,by simp⟩
  ·have e:=μ (w.alloc (.cells #[.pointer (some ⟨x,0,none⟩)] 29)) (.cells #[.string p.k] 9);simpa using e
  ·have e:=μ ((w.alloc (.cells #[.pointer (some ⟨x,0,none⟩)] 29)).alloc (.cells #[.string p.k] 9)) (.cells #[.string p.v] 9);simpa using e
 rw[←hw0];clear hw0;have hj8:j≠8:=by
  have h:=HJ.out;unfold qA0 at h
  repeat' split at h
  all_goals first | (cases h;decide) | cases h
 refine (qI1 E j hj8 x A n 54 t s r p.k _ #[] #[.pointer (some ⟨w.heap.size+2,0,none⟩),.pointer (some ⟨w.heap.size,0,none⟩),.pointer (some ⟨w.heap.size+1,0,none⟩)] w0 (HL.out.more hKp0) ?_).mono ?_
 ·intro W Tc Kc Wc hK hd hx hS hTc hKc hWc;have h:=HJ.out;unfold qA0 at h;by_cases hwr:t.wrt=false
  ·rw[if_pos hwr] at h;cases h;exact (qI0 Tc Kc Wc x t W hTc hx hwr).mono fun e w' ⟨a,b⟩=>⟨a,by rw[b];exact Env.To.of0 hd (Kp.refl _ _)⟩
  ·rw[if_neg hwr] at h;have hwr':t.wrt=true:=by simpa using hwr
   by_cases hk:qQ7 p.k=false
   ·rw[if_pos hk] at h;cases h;exact (qH7 Tc Kc Wc x t p.k W hTc hKc hx hwr' (qJ4 hk)).mono fun e w' ⟨a,b⟩=>⟨a,by rw[b];exact Env.To.of0 hd (Kp.refl _ _)⟩
   ·rw[if_neg hk] at h;have hk':=(zF3 p.k).1 (by simpa using hk);by_cases hv:12<p.v.size
    ·rw[if_pos hv] at h;cases h;refine qB3 2 Tc Kc Wc x 54 t p.k #[] _ (fun w1=>E.To W w1) W hTc hKc hWc hx hwr' hk'.1 hk'.2 (zR4 _) ?_;exact (zB7 (w.heap.size+2) w.heap.size (w.heap.size+1) p.v W (hK.ho hV0) hv).mono fun e w' ⟨a,b⟩=>⟨a,by rw[b];exact Env.To.of0 hd (Kp.refl _ _)⟩
    ·rw[if_neg hv] at h;by_cases hr:(n:Int)-2-s.bl<((r.put p).news:Int)
     ·rw[if_pos (by simpa using hr)] at h;cases h;refine qB3 3 Tc Kc Wc x 54 t p.k #[] _ (fun w1=>E.To W w1) W hTc hKc hWc hx hwr' hk'.1 hk'.2 (zR4 _) ?_;have hV:=hK.heap (hKp0.hp HL.out.hV) (by simp;exact fun e=>qB7 HL.out.hV HL.out.hSt (by decide) e);have hrr:=(HL.out.more hKp0).rr.keepT hK (Apt.one (hKp0.hp HL.out.hSt) (by decide));exact zB8 E (w.heap.size+2) w.heap.size (w.heap.size+1) x A n t s r p W ⟨hK.ho hV0,hK.ho hT0,hK.ho hK0,hx,HL.out.on,hS,HL.out.sV,hV,HL.out.n1,HL.out.bl0,HL.out.bl1,hd,HL.out.vS,hrr,HL.out.good,HL.out.sz⟩ ⟨hk'.1,hk'.2,by omega⟩ hr
     ·rw[if_neg (by simpa using hr)] at h;cases h
 ·rintro e w1 ⟨v,rfl,hv,hB⟩;have HB:Hid (qI9 w1 v (some j)∧BadT E w w1 t s):=⟨hv,hB.from hKp0⟩;clear hv hB;go_wp2;go_ret;exact⟨v,rfl,HB.out⟩
theorem qI4(E:SEnv)(Kc Tc Vc Bc x:Nat)(t:Tx)(r:Root)(k:ByteArray)(w:World)(hKc:w.heap[Kc]?=some (.cells #[.string k] 9))(hTc:w.heap[Tc]?=some (.cells #[.pointer (some ⟨x,0,none⟩)] 29))(hVc:w.heap[Vc]?=some (.cells #[.string ⟨#[]⟩] 9))(hBc:w.heap[Bc]?=some (.cells #[.bool false] 4))(hne:Kc≠Vc)
  (hx:w.heap[x]?=some (qA6 t)) (hon:t.on=some ⟨E.V,0,none⟩) (hd:E.Dev w) (hrr:RR E.toEnv w t.h r) (hg:RGood r) (hsz:r.cont.length≤50000) (hk:qQ7 k=true):
  Calls prog 48 #[.pointer (some ⟨Kc,0,none⟩),.pointer (some ⟨Tc,0,none⟩),.pointer (some ⟨Vc,0,none⟩),.pointer (some ⟨Bc,0,none⟩)] w fun e w'=>e=qD1 none∧w'.heap[Vc]?=some (.cells #[.string (qS0 r.cont k)] 9)∧w'.heap[Bc]?=some (.cells #[.bool (qG4 r.cont k).isSome] 4)∧∃ w1,E.To w w1∧Kp [Vc,Bc] w1 w':=by
 have HD:=zh hd;have HRR:=zh hrr;have HG:=zh hg;have HN:=zh hne;have hk':=(zF3 k).1 hk;have hxs:=ζ hx;have hks:=ζ hKc;have k0:=ξ hKc 0;simp only[zG,zH,zI] at k0;clear hd hrr hg hne hk;go_enter func48,ntmps48;go_wp2_with fail;refine (zR6 k _ hk'.1 hk'.2).mono ?_;rintro e w1 ⟨rfl,rfl⟩;simp only[qD1];clear k0 hk';go_wp2_with fail;have hS0:w1.heap[Tc]?=some (.cells #[.pointer (some ⟨x,0,none⟩)] 29)∧w1.heap[Kc]?=some (.cells #[.string k] 9)∧w1.heap[x]?=some (qA6 t):=⟨hTc,hKc,hx⟩;refine wp_region_held_drew (S:=fun W=>W.heap[Tc]?=some (.cells #[.pointer (some ⟨x,0,none⟩)] 29)∧W.heap[Kc]?=some (.cells #[.string k] 9)∧W.heap[x]?=some (qA6 t)) (by kernel_rfl) hS0 (fun _=>?_);refine zV 0 (.pointer (some ⟨x,0,none⟩)) rfl (fun W hS=>by have c:=ξ hS.1 0;simp at c;clear hS;go_simp) hS0 ?_;refine zP 1 x 0 hS0 ?_;refine zP 2 x 4 hS0 ?_;refine zV 3 (φ E.V t.h) rfl (fun W hS=>by have a0:=ξ hS.2.2 4;have a1:=ξ hS.2.2 5;have a2:=ξ hS.2.2 6;have a3:=ξ hS.2.2 7;have a4:=ξ hS.2.2 8;simp only[qA6,hon,zG,zH,zI] at a0 a1 a2 a3 a4;clear hS;rw[φ];go_simp) hS0 ?_;refine zV 4 (.string k) rfl (fun W hS=>by have c:=ξ hS.2.1 0;simp at c;clear hS;go_simp) hS0 ?_;refine zq 5 fun K hK=>?_;go_simp;have hTd:E.To w1 w1.drew:=(Env.To.of0 HD.out (Kp.refl _ _)).tail ((Kp.refl _ _).drew);refine (zN0 E.toEnv r t.h k w1.drew hTd.dev (HRR.out.to HD.out hTd) HG.out (by omega)).mono ?_;rintro e w2 ⟨rfl,hT2⟩;have hT2':=hTd.trans hT2;have hS2:=And.intro (E.stay HD.out hT2' hTc (by decide)) (And.intro (E.stay HD.out hT2' hKc (by decide)) (E.stay HD.out hT2' hx (by decide)));have hV2:=E.stay HD.out hT2' hVc (by decide);have hB2:=E.stay HD.out hT2' hBc (by decide);refine hK.out _ _ hS2 (fun _=>?_);clear hK K
 try simp only[zZ]
 obtain⟨gv,hgv⟩:∃ gv,qS0 r.cont k=gv:=⟨_,rfl⟩;obtain⟨gb,hgb⟩:∃ gb,(qG4 r.cont k).isSome=gb:=⟨_,rfl⟩;rw[hgv,hgb];have HGV:Hid (qS0 r.cont k=gv∧(qG4 r.cont k).isSome=gb):=⟨hgv,hgb⟩;clear hgv hgb;refine zU 6 (.tuple #[.string gv,.bool gb]) hS2 ?_;refine zU 7 (.string gv) hS2 ?_;refine zU 8 (.bool gb) hS2 ?_;have hV2s:=ζ hV2;have v0:=ξ hV2 0;simp only[zG,zH,zI] at v0;have fv0:=ρ hV2 0;refine zq 9 fun K hK=>?_;go_simp;obtain⟨w3,hw3,hV3,hK3⟩:∃ w3,w3=w2.setCell ⟨Vc,0,none⟩ (.string gv)∧w3.heap[Vc]?=some (.cells #[.string gv] 9)∧Kp [Vc] w2 w3:=⟨_,rfl,ω hV2 0 _,(Kp.refl _ _).sc _⟩;rw[←hw3];clear hw3 v0 fv0;have hS3:=And.intro (hK3.heap hS2.1 (by simp;exact qB7 hS2.1 hV2 (by decide))) (And.intro (hK3.heap hS2.2.1 (by simp;exact HN.out)) (hK3.heap hS2.2.2 (by simp;exact qB7 hS2.2.2 hV2 (by decide))));have hB3:=hK3.heap hB2 (by simp;exact qB7 hB2 hV2 (by decide));have hBV:Vc≠Bc:=qB7 hV2 hB2 (by decide);have HBV:=zh hBV;clear hBV;refine hK.out _ _ hS3 (fun _=>?_);clear hK K
 try simp only[zZ]
 have hB3s:=ζ hB3;have b0:=ξ hB3 0;simp only[zG,zH,zI] at b0;have fb0:=ρ hB3 0;refine zq 10 fun K hK=>?_;go_simp;obtain⟨w4,hw4,hB4,hK4⟩:∃ w4,w4=w3.setCell ⟨Bc,0,none⟩ (.bool gb)∧w4.heap[Bc]?=some (.cells #[.bool gb] 4)∧Kp [Bc] w3 w4:=⟨_,rfl,ω hB3 0 _,(Kp.refl _ _).sc _⟩;rw[←hw4];clear hw4 b0 fb0;have hS4:=And.intro (hK4.heap hS3.1 (by simp;exact qB7 hS3.1 hB3 (by decide))) (And.intro (hK4.heap hS3.2.1 (by simp;exact qB7 hS3.2.1 hB3 (by decide))) (hK4.heap hS3.2.2 (by simp;exact qB7 hS3.2.2 hB3 (by decide))));refine hK.out _ _ hS4 (fun _=>?_);clear hK K
 try simp only[zZ]
 refine zd ?_;have HF:Hid (w4.heap[Vc]?=some (.cells #[.string (qS0 r.cont k)] 9)∧w4.heap[Bc]?=some (.cells #[.bool (qG4 r.cont k).isSome] 4)∧∃ w0,E.To w1 w0∧Kp [Vc,Bc] w0 w4):=by
  refine⟨?_,?_,w2,hT2',(hK3.mono (S':=[Vc,Bc]) (by simp +contextual)).trans hK4 (by simp +contextual)⟩
  ·rw[HGV.out.1];exact hK4.heap hV3 (by simp;exact HBV.out)
  ·rw[HGV.out.2];exact hB4
 clear hS4 hS3 hS2 hS0 hV3 hV2 hB4 hB3 hB2 hK3 hK4 hT2 hT2' hTd;go_wp2
 go_end0
 exact⟨rfl,HF.out⟩
theorem qH5(args:Array Value)(W:World):Sem.run prog (callFunc 48 args) W=.ok (.enter 48 args) W:=by
 simp[go_sem,func48]
theorem qD0(E:SEnv)(x A n:Nat)(t:Tx)(s:Sto)(r:Root)(k:ByteArray)(w:World)(hL:LiveT E w x A n t s r)(hk:qQ7 k=true):
  Calls prog 23 #[.pointer (some ⟨x,0,none⟩),.string k] w fun e w'=>e=.returned (.tuple #[.string (qS0 r.cont k),.bool (qG4 r.cont k).isSome,.nilIface])∧BadT E w w' t s:=by
 have HL:=zh hL;have HKK:=zh hk;have hxs:=ζ hL.hx;have hSs:=ζ hL.hSt;clear hL hk;have hmf:=zM;go_enter func23,ntmps23;go_wp2_with fail;obtain⟨w0,hw0,hT0,hK0,hV0,hB0,hKp0,hs0⟩:∃ w0,w0=(((w.alloc (.cells #[.pointer (some ⟨x,0,none⟩)] 29)).alloc (.cells #[.string k] 9)).alloc (.cells #[.string ⟨#[]⟩] 9)).alloc (.cells #[.bool false] 4)∧w0.heap[w.heap.size]?=some (.cells #[.pointer (some ⟨x,0,none⟩)] 29)∧w0.heap[w.heap.size+1]?=some (.cells #[.string k] 9)∧w0.heap[w.heap.size+1+1]?=some (.cells #[.string ⟨#[]⟩] 9)∧w0.heap[w.heap.size+1+1+1]?=some (.cells #[.bool false] 4)∧Kp [] w w0∧w0.heap.size=w.heap.size+4:=by
  refine⟨_,rfl,θ _ (θ _ (θ _ (μ _ _))),θ _ (θ _ ?_),θ _ ?_,?_,((((Kp.refl _ _).alloc _).alloc _).alloc _).alloc _,by simp⟩
  ·have e:=μ (w.alloc (.cells #[.pointer (some ⟨x,0,none⟩)] 29)) (.cells #[.string k] 9);simpa using e
  ·have e:=μ ((w.alloc (.cells #[.pointer (some ⟨x,0,none⟩)] 29)).alloc (.cells #[.string k] 9)) (.cells #[.string ⟨#[]⟩] 9);simpa using e
  ·have e:=μ (((w.alloc (.cells #[.pointer (some ⟨x,0,none⟩)] 29)).alloc (.cells #[.string k] 9)).alloc (.cells #[.string ⟨#[]⟩] 9)) (.cells #[.bool false] 4);simpa using e
 rw[←hw0];clear hw0;have hL0:=HL.out.more hKp0;refine (qX3 none (by decide) x t.St 48 t s s #[] #[.pointer (some ⟨w.heap.size+1,0,none⟩),.pointer (some ⟨w.heap.size,0,none⟩),.pointer (some ⟨w.heap.size+1+1,0,none⟩),.pointer (some ⟨w.heap.size+1+1+1,0,none⟩)] _ ((w.heap.size+1+1)::(w.heap.size+1+1+1)::E.S) (fun W w1=>E.Dev w1∧w1.heap[t.St]?=some (τ 1 s)∧w1.heap[w.heap.size+1+1]?=some (.cells #[.string (qS0 r.cont k)] 9)∧w1.heap[w.heap.size+1+1+1]?=some (.cells #[.bool (qG4 r.cont k).isSome] 4)) w0 hL0.hx hL0.over rfl hL0.hSt hL0.po hL0.xS (qH5 _) (fun i hi=>by
  simp only[List.mem_cons] at hi;rcases hi with h|h|h
  ·omega
  ·omega
  ·exact E.low w0 hL0.dev i h) ?_).mono ?_
 ·intro W hK hS;have hd:=hL0.devS hK;have hV:=hK.ho hV0;have hB:=hK.ho hB0;refine (qI4 E (w.heap.size+1) w.heap.size (w.heap.size+1+1) (w.heap.size+1+1+1) x t r k W (hK.ho hK0) (hK.ho hT0) hV hB (by omega) (hK.heap hL0.hx (by simp;exact hL0.xS)) hL0.on hd (hL0.rr.keepT hK (Apt.one hL0.hSt (by decide))) hL0.good hL0.sz HKK.out).mono ?_;rintro e w2 ⟨rfl,ha,hb,w1,hT1,hK1⟩;have hS2:w2.heap[t.St]?=some (τ 1 s):=hK1.heap (E.stay hd hT1 hS (by decide)) (by simp;omega);have hoff:OffD w1 [w.heap.size+1+1,w.heap.size+1+1+1]:=(OffD.one (E.stay hd hT1 hV (by decide)) (by decide)).cons (OffD.one (E.stay hd hT1 hB (by decide)) (by decide));exact⟨rfl,⟨E.keepX w1 w2 _ hT1.dev hK1 hoff,hS2,ha,hb⟩,(hT1.kp.mono (S':=t.St::(w.heap.size+1+1)::(w.heap.size+1+1+1)::E.S) (by simp +contextual)).trans hK1 (by intro i hi _;simp at hi ⊢;omega),hS2⟩
 rintro e w2 ⟨v,rfl,hv,hSt2,hK2,W,w1,Bb,⟨hd1,hS1,hV1,hB1⟩,hKW,hb1,hb2,hb3,hKB⟩;have hv':v=.nilIface:=hv;subst hv';have hne1:t.St<w.heap.size:=hSs;have hVe:=hKB.ho hV1;have hBe:=hKB.ho hB1;have HB:Hid (BadT E w w2 t s):=⟨E.keepX w1 w2 _ hd1 hKB (qT8 hS1 hb3),hSt2,(hKp0.mono (S':=t.St::E.S) (by simp)).trans hK2 (by intro i hi hlt;simp at hi ⊢;rcases hi with h | h | h | h;simp[h];omega;omega;simp[h])⟩;clear hv hSt2 hK2 hd1 hS1 hV1 hB1 hKW hb3 hKB hL0 hT0 hK0 hV0 hB0 hKp0;obtain⟨gv,hgv⟩:∃ gv,qS0 r.cont k=gv:=⟨_,rfl⟩;obtain⟨gb,hgb⟩:∃ gb,(qG4 r.cont k).isSome=gb:=⟨_,rfl⟩;rw[hgv] at hVe;rw[hgb] at hBe;have HGV:Hid (qS0 r.cont k=gv∧(qG4 r.cont k).isSome=gb):=⟨hgv,hgb⟩;clear hgv hgb;have hVs:=ζ hVe;have hBs:=ζ hBe;have v0:=ξ hVe 0;simp only[zG,zH,zI] at v0;have b0:=ξ hBe 0;simp only[zG,zH,zI] at b0;clear hVe hBe;go_wp2_with fail
 go_quiet (fail)
 go_wp2;refine bodyPost_ret (v:=.tuple #[.string gv,.bool gb,.nilIface]) (by simp[results,results23,go_sem]) rfl ?_;exact⟨by rw[HGV.out.1,HGV.out.2],{ HB.out with dev:=E.keepX _ _ [] HB.out.dev ((Kp.refl [] _).drewN _) (fun k hk=>by simp at hk),kp:=HB.out.kp.drewN _ }⟩
end Go.Proofs.YtdohpenfkdckiabGreatDoor
namespace Go.Proofs.YtdohpenfkdckiabGreatDoor
open Go.Proofs.Tryz
open Go.RowKit
open Go.Maps (Keyed)
section
variable {w:World} {kc db St A C N nM:Nat} {s:Sto} {D:DataW Unit} {l:List UInt8} {wr:Int} {nw:Root}
theorem Shop0.beginW(hS:Shop0 w kc db St A C N nM s D l wr nw)(hw:s.wr=0)(hbg:s.bg≤100000000)(hk2:kc≤50000∧s.bl≤1000):
  Calls prog 22 #[.pointer (some ⟨db,0,none⟩),.bool true] w fun e w'=>∃ x t,e=.returned (.tuple #[.pointer (some ⟨x,0,none⟩),.nilIface])∧w.heap.size≤x∧t.St=St∧t.nr=s.bg+1∧t.wrt=true∧t.ch=0∧Kp [St] w w'∧∃ hS':Shop0 w' kc db St A C N nM s.wrote D l wr nw,LiveT hS'.E w' x A N t s.wrote nw:=by
 obtain⟨n1,n2,n3,n4⟩:=hS.neDb;have h1:s.M≠St:=(qE6 hS.hSt hS.hM).symm;refine (xJ5 db St nM s D w hS.hDb hS.hSt hS.hM hS.po n1 h1 hS.hM.lt hw hS.bg0 hbg).mono ?_;rintro e w' ⟨x,rfl,hxs,hx,hSt,hM,hK⟩;have hS':Shop0 w' kc db St A C N nM s.wrote D l wr nw:=hS.turn hK (by simpa using n1) (qD4 hS.dev hK (OffD.one hS.hSt (by decide))) ⟨rfl,rfl,rfl,rfl,rfl,rfl⟩ hSt hM hS.m4 hS.n1 (by show 0≤s.bg+1;have:=hS.bg0;omega) (fun k hk=>by obtain⟨y,e1,e2,e3⟩:=hS.kb k hk;exact⟨y,e1,e2,by show y≤s.bg+1;omega⟩) hS.rd;exact⟨x,_,rfl,hxs,rfl,rfl,rfl,rfl,hK,hS',hS'.live hx rfl rfl rfl rfl rfl hk2⟩
end
end Go.Proofs.YtdohpenfkdckiabGreatDoor
namespace Go.Proofs.YtdohpenfkdckiabGreatDoor
open Go.Proofs.Tryz
open Go.RowKit
theorem qJ5(n:Nat)(t:ByteArray)(w:World)(hn:n<1000)(ht:t.size≤60000):
  Calls prog 32 #[.int .i64 n,.string t] w fun e w'=>e=.returned (.pointer (some ⟨w.heap.size+1,0,none⟩))∧∃ l:List UInt8,l.length=n*128∧w'.heap[w.heap.size+1]?=some (χ n n w.heap.size (.slice none 0 0) 0 0)∧w'.heap[w.heap.size]?=some (.cells (enc l) 87)∧Kp [] w w':=by
 go_enter func32,ntmps32;go_wp2_with fail;refine (zZ7 n w hn (n:Int) (by omega) (by omega)).mono ?_;rintro e w1 ⟨rfl,Z,hZ,hZ0,hw1⟩;rw[xL2 Z _ hZ hZ0] at hw1;have hC1:w1.heap[w.heap.size]?=some (.cells (enc (List.replicate (n*128) 0)) 87):=by rw[hw1];exact θ _ (μ _ _)
 have hA1:w1.heap[w.heap.size+1]?=some (χ n n w.heap.size (.slice none 0 0) 0 0):=by
  rw[hw1];have e:=μ (w.alloc (.cells (enc (List.replicate (n*128) 0)) 87)) (qM7 n w.heap.size (.slice none 0 0) 0 0);rw[show (w.alloc (.cells (enc (List.replicate (n*128) 0)) 87)).heap.size=w.heap.size+1 by simp] at e;exact e
 have hK1:Kp [] w w1:=by rw[hw1];exact ((Kp.refl _ _).alloc _).alloc _
 clear hw1 hZ hZ0;obtain⟨tn,htn⟩:∃ tn,tn=t.size:=⟨_,rfl⟩;have HTN:=zh htn;rw[←htn] at ht;clear htn;go_wp2_with fail
 go_loopw [6] (fun i wr=>∃ (j:Nat) (l:List UInt8),j≤tn∧i=.int .i64 j∧Hid (l.length=n*128)∧Hid (wr.heap[w.heap.size+1]?=some (χ n n w.heap.size (.slice none 0 0) 0 0))∧Hid (wr.heap[w.heap.size]?=some (.cells (enc l) 87))∧Hid (Kp [] w wr)) (fun i _=>tn-(intOf i).toNat)
 case atStart=>exact⟨0,List.replicate (n*128) 0,Nat.zero_le _,rfl,List.length_replicate,hA1,hC1,hK1⟩
 case round=>
  obtain⟨j,l,hj,rfl,HLL,HA,HC,HK⟩:=hrel;clear hA1 hC1 hK1;have hA:=HA.out;have hAs:=ζ hA;have hsz:((t.size:Nat):Int)=(tn:Int):=by rw[HTN.out]
  have a0:=ξ hA 0;simp only[χ,zG,zH,zI] at a0;clear hA;by_cases hlt:j<tn
  ·have hjb:(j:Int)<(tn:Int):=by omega
   by_cases hl2:j<n*128
   ·have hjb2:(j:Int)<(n:Int)*128:=by omega
    have hjt:j<t.size:=by have:=HTN.out;omega
    obtain⟨b,hb⟩:∃ b:Nat,b=j / 128:=⟨_,rfl⟩;obtain⟨o,ho⟩:∃ o:Nat,o=j % 128:=⟨_,rfl⟩;have f2:(j:Int).tdiv 128=(b:Int):=by rw[Int.tdiv_eq_ediv_of_nonneg (by omega)];omega
    have f3:(j:Int).tmod 128=(o:Int):=by rw[Int.tmod_eq_emod_of_nonneg (by omega)];omega
    have hwb:IntKind.i64.wrap (b:Int)=(b:Int):=by rw[IntKind.wrap_i64];omega
    have hbN:(b:Int)<(n:Int):=by omega
    have ho8:(o:Int)<128:=by omega
    obtain⟨v,hv⟩:∃ v,t[j]'hjt=v:=⟨_,rfl⟩;have HBO:Hid (b*128+o=j):=by show _=_;omega
    have hin:b*128+o<l.length:=by have:=HLL.out;omega
    obtain⟨x,hx⟩:∃ x,l[b*128+o]?=some x:=⟨_,List.getElem?_eq_getElem hin⟩;have HX:=zh hx;have HW1:Hid (wrap64 ((j:Int)+1)=(j:Int)+1):=by show wrap64 ((j:Int)+1)=(j:Int)+1;simp only[wrap64];omega
    clear hb ho hin hx;go_wp2_with fail;have hSd:wr.drew.heap[w.heap.size+1]?=some (χ n n w.heap.size (.slice none 0 0) 0 0):=HA.out;refine wp_region_held_drew (S:=fun W=>W.heap[w.heap.size+1]?=some (χ n n w.heap.size (.slice none 0 0) 0 0)) (by kernel_rfl) hSd (fun _=>?_);refine zU 0 (.pointer (some ⟨w.heap.size+1,0,none⟩)) hSd ?_;refine zV 1 (.pointer (some ⟨w.heap.size+1,0,none⟩)) rfl (fun W hS=>by have c:=ζ hS;clear hS;go_simp) hSd ?_;refine zU 2 (.pointer (some ⟨w.heap.size+1,0,none⟩)) hSd ?_;refine zV 3 (.slice (some ⟨w.heap.size,0,none⟩) n n) rfl (fun W hS=>by have a:=ξ hS 0;simp only[χ,zG,zH,zI] at a;clear hS;go_simp) hSd ?_;refine zU 4 (.int .i64 (j:Int)) hSd ?_;refine zU 5 (.int .i64 (b:Int)) hSd ?_;refine zU 6 (.int .i64 (j:Int)) hSd ?_;refine zU 7 (.int .i64 (o:Int)) hSd ?_;refine zU 8 (.string t) hSd ?_;refine zU 9 (.int .i64 (j:Int)) hSd ?_;refine zU 10 (.int .u8 ((v.toNat:Nat):Int)) hSd ?_;refine zU 11 (.pointer (some ⟨w.heap.size,b*128,none⟩)) hSd ?_;refine zU 12 (.pointer (some ⟨w.heap.size,b*128+o,none⟩)) hSd ?_;refine zq 13 fun K hK=>?_;have a19:=qZ0 (w:=wr.drew) HC.out HX.out;have f19:=ρ (show wr.drew.heap[w.heap.size]?=some (.cells (enc l) 87) from HC.out) (b*128+o);have c19:=ζ HC.out;go_simp;have hset:(wr.drew.setCell ⟨w.heap.size,b*128+o,none⟩ (.int .u8 ((v.toNat:Nat):Int))).heap[w.heap.size]?=some (.cells (enc (l.set (b*128+o) v)) 87):=by
     rw[←xK0];exact ω HC.out _ _
    have hoth:(wr.drew.setCell ⟨w.heap.size,b*128+o,none⟩ (.int .u8 ((v.toNat:Nat):Int))).heap[w.heap.size+1]?=some (χ n n w.heap.size (.slice none 0 0) 0 0):=(qA7 (by omega) _ _).trans HA.out;have hKw:Kp [] w (wr.drew.setCell ⟨w.heap.size,b*128+o,none⟩ (.int .u8 ((v.toNat:Nat):Int))):=HK.out.drew.setCell (Or.inr (Nat.le_refl _)) _;refine hK.out _ _ hoth (fun _=>?_);clear hK K a19 f19 c19;refine zd ?_
    try simp only[zZ]
    have HE:=Hid.mk' (And.intro hset (And.intro hoth hKw));clear hset hoth hKw f2 f3 hwb hbN ho8 hv hjt hSd a0;go_wp2
    try rw[HW1.out]
    exact⟨⟨j+1,l.set (b*128+o) v,by omega,by go_num,by show _=_;rw[List.length_set];exact HLL.out,HE.out.2.1,HE.out.1,HE.out.2.2⟩,by simp[intOf];omega⟩
   ·have hjb2:¬(j:Int)<(n:Int)*128:=by omega
    go_wp2;go_ret;exact⟨rfl,l,HLL.out,HA.out,HC.out,HK.out⟩
  ·have hjb:¬(j:Int)<(tn:Int):=by omega
   go_wp2;go_ret;exact⟨rfl,l,HLL.out,HA.out,HC.out,HK.out⟩
theorem qC0:∀ {l:List KV} {p:KV},Sorted l→p∈l→qG4 l p.k=some p
 | [],p,_,h=>by cases h
 | a::l,p,hs,h=>by
  obtain⟨h1,h2⟩:=List.pairwise_cons.1 hs;unfold qG4;rw[List.find?_cons];by_cases e:a.k=p.k
  ·rw[decide_eq_true e];rcases List.mem_cons.1 h with h|h
   ·rw[h]
   ·have:=h1 p h;rw[e,qS1] at this;cases this
  ·rw[decide_eq_false e];rcases List.mem_cons.1 h with h|h
   ·exact absurd (by rw[h]) e
   ·exact qC0 h2 h
theorem qG7{ps:List KV}(h:Sorted ps):Sorted (qB5 ps):=by
 unfold qB5 qG1;exact (h.sublist (List.filter_sublist)).sublist (List.take_sublist _ _)
theorem qF3(ps:List KV):(qB5 ps).length≤ps.length:=by
 unfold qB5 qG1;rw[List.length_take];have:=List.length_filter_le (inR ⟨#[]⟩ qS2) ps;omega
def kvB:KV:=⟨⟨#[107]⟩,⟨#[118]⟩⟩
theorem qC2:qC3 kvB:=by unfold qC3 kvB;decide
theorem zF9(n:Int)(t:ByteArray)(hn0:-9223372036854775808≤n)(hn1:n≤9223372036854775807)(w:World)(h0s:0<w.heap.size)(hg:w.cell? ⟨0,0,none⟩=some qL8):
  Calls prog 8 #[.int .i64 n,.string t] w fun e w'=>e=.returned (.bool true)∧Kp [] w w':=by
 have HG:Hid (0<w.heap.size∧w.cell? ⟨0,0,none⟩=some qL8):=⟨h0s,hg⟩;clear h0s hg;by_cases ht:t.size≤60000
 ·have hti:¬(60000:Int)<((t.size:Nat):Int):=by omega
  have HPK:Hid (Calls prog 12 #[.int .i64 n,.int .i64 420] w fun e w'=>(∃ k:Int,e=.returned (.int .i64 k)∧0≤k∧k<420)∧w'=w):=zF4 n 420 hn0 hn1 (by omega) (by omega) w;have HLD:Hid (∀ (k:Nat),k<1000→Calls prog 32 #[.int .i64 k,.string t] w fun e w'=>e=.returned (.pointer (some ⟨w.heap.size+1,0,none⟩))∧∃ l:List UInt8,l.length=k*128∧w'.heap[w.heap.size+1]?=some (χ k k w.heap.size (.slice none 0 0) 0 0)∧w'.heap[w.heap.size]?=some (.cells (enc l) 87)∧Kp [] w w'):=fun k hk=>qJ5 k t w hk ht;clear ht;go_enter func8,ntmps8;go_wp2_with fail;refine (show Calls _ _ _ _ _ from HPK.out).mono ?_;rintro e w1' ⟨⟨k,rfl,hk0,hk42⟩,hw⟩;rw[hw];clear hw w1' HPK hti;obtain⟨m,rfl⟩:∃ m:Nat,k=((m:Nat):Int):=⟨k.toNat,by omega⟩;have HLM:=Hid.mk' (HLD.out m (by omega));clear HLD;go_wp2_with fail;refine (show Calls _ _ _ _ _ from HLM.out).mono ?_;rintro e w2 ⟨rfl,l,hl2,hA2,hC2,hK2⟩;have HK2:=zh hK2;have hs2:=hK2.size;have HL2:=zh hl2;by_cases hm:m<8∨400<m
  ·have HOS:Hid (Calls prog 16 #[.pointer (some ⟨w.heap.size+1,0,none⟩)] w2 fun e w'=>∃ F call,e=.returned (.tuple #[.pointer none,.iface 180 (.pointer (some ⟨F,0,none⟩))])∧w2.heap.size≤F∧w'.heap[F]?=some (.cells #[.string call,.iface 46 (.int .i64 10)] 183)∧Kp [] w2 w'):=zB6 (w.heap.size+1) m w.heap.size (.slice none 0 0) 0 0 w2 hA2 hm;have HA2:=Hid.mk' hA2;clear hA2 hC2 hK2 hl2 HLM;go_wp2_with fail;refine (show Calls _ _ _ _ _ from HOS.out).mono ?_;rintro e w3 ⟨F,call,rfl,hF,hF2,hK3⟩;have HA3:=Hid.mk' (hK3.hp HA2.out);have HK3:Hid (Kp [] w w3):=HK2.out.tr hK3;have hg3:w3.cell? ⟨0,0,none⟩=some qL8:=Kp.zero HK3.out HG.out.1 HG.out.2;have HTD:Hid (Calls prog 21 #[.iface 180 (.pointer (some ⟨F,0,none⟩))] w3 fun e w'=>e=.returned (.int .i64 10)∧Kp [] w3 w'):=zO0 F call 10 w3 hg3 hF2;clear hK3 hF hF2 hg3 HOS HA2;rcases hm with hm|hm
   ·have hmi:¬(8:Int)≤(m:Int):=by omega
    go_wp2_with fail;refine (show Calls _ _ _ _ _ from HTD.out).mono ?_;rintro e w4 ⟨rfl,hK4⟩;have HA4:=Hid.mk' (hK4.hp HA3.out);have HK4:Hid (Kp [] w w4):=HK3.out.tr hK4;clear hK4 HTD
    go_wp2_with (first | (go_at_call 33;refine (zM7 _ _ _ _ _ _ _ HA4.out).mono ?_;rintro e w5 ⟨rfl,rfl⟩) | fail)
    go_ret;exact⟨by first | rfl | (show Ending.returned (Value.bool (!decide ((m:Int)≤400)))=_;rw[show decide ((m:Int)≤400)=false from decide_eq_false (by omega)];rfl),HK4.out⟩
   ·have hmi:(8:Int)≤(m:Int):=by omega
    have hmj:¬(m:Int)≤400:=by omega
    go_wp2_with fail;refine (show Calls _ _ _ _ _ from HTD.out).mono ?_;rintro e w4 ⟨rfl,hK4⟩;have HA4:=Hid.mk' (hK4.hp HA3.out);have HK4:Hid (Kp [] w w4):=HK3.out.tr hK4;clear hK4 HTD
    go_wp2_with (first | (go_at_call 33;refine (zM7 _ _ _ _ _ _ _ HA4.out).mono ?_;rintro e w5 ⟨rfl,rfl⟩) | fail)
    go_ret;exact⟨by first | rfl | (show Ending.returned (Value.bool (!decide ((m:Int)≤400)))=_;rw[show decide ((m:Int)≤400)=false from decide_eq_false (by omega)];rfl),HK4.out⟩
  ·have HOP:Hid (Calls prog 16 #[.pointer (some ⟨w.heap.size+1,0,none⟩)] w2 fun e w'=>((∃ V M St Db N rb rs r,e=.returned (.tuple #[.pointer (some ⟨Db,0,none⟩),.nilIface])∧Made0 w2 w' (w.heap.size+1) m w.heap.size l 0 V M St Db N rb rs r)∨
    ∃ F call,e=.returned (.tuple #[.pointer none,.iface 180 (.pointer (some ⟨F,0,none⟩))])∧w2.heap.size≤F∧w'.heap[F]?=some (.cells #[.string call,.iface 46 (.int .i64 9)] 183)∧∃ c,w'.heap[w.heap.size+1]?=some (χ (l.length / 128) m w.heap.size (.slice none 0 0) c 0))∧Kp [w.heap.size+1,w.heap.size] w2 w'):=xL4 (w.heap.size+1) m w.heap.size 0 0 l w2 (by rw[HL2.out,Nat.mul_div_cancel _ (by decide)];exact hA2) (by omega) (by omega) (by omega) (by omega) hC2 (by omega) (by omega)
   have hm8:8≤m∧m≤400:=by omega
   clear hA2 hC2 hK2 hl2 HLM hm;go_wp2_with fail;refine (show Calls _ _ _ _ _ from HOP.out).mono ?_;rintro e w3 ⟨hres,hK3⟩;have HK3:Hid (Kp [] w w3):=HK2.out.trans hK3 (by intro i hi hlt;simp at hi;omega);have hs3:=hK3.size;clear hK3 HOP;rcases hres with⟨V,M,St,Db,N,rb,rs,r,rfl,hM0⟩|⟨F,call,rfl,hF,hF2,c,hA3⟩
   ·obtain⟨hS0,hr8⟩:=hM0.shop hm8.1 hm8.2 (by rw[HL2.out];omega);obtain⟨m1,m2,m3,m4,_⟩:=hM0;obtain⟨s,hsd⟩:∃ s:Sto,s=⟨V,M,N,rb,rs,qB9 r,false,0,0⟩:=⟨_,rfl⟩;rw[←hsd] at hS0;have HSD:Hid (s.wr=0∧s.bg=0∧s.bl≤1000∧s.M=M):=by rw[hsd];exact⟨rfl,rfl,by show ((qB9 r:Nat):Int)≤1000;omega,rfl⟩
    clear hsd hr8;have HNOW:Hid (Calls prog 17 #[.pointer (some ⟨Db,0,none⟩)] w3 fun e w'=>∃ v,e=.returned (.tuple #[v,.bool true])∧OPA w' w3.heap.size v (qB5 r.cont)∧Shop0 w' 25200 Db St (w.heap.size+1) w.heap.size m 1 s.read emp l 0 r∧Kp [St,M,w.heap.size+1] w3 w'):=by
     obtain⟨q1,q2,q3,q4⟩:=HSD.out;refine (xL1 hS0 (by simp[emp,Maps.size]) (by omega) (by omega) (by omega) ⟨by omega,q3⟩).mono ?_;rintro e w' ⟨v,e1,e2,e3,e4⟩;rw[xJ8] at e3;rw[q4] at e4;exact⟨v,e1,e2,e3,e4⟩
    have HSO:Hid (Sorted (qB5 r.cont)∧(qB5 r.cont).length≤25200∧RGood r∧r.cont.length≤25200):=by
     have hgood:=hS0.good;have hsz:=hS0.sz;refine⟨qG7 ?_,by have:=qF3 r.cont;omega,hgood,hsz⟩
     cases r with
     | none=>simp[Root.cont,Sorted]
     | «at» n' L=>exact (qK4 n' L.key L.sub hgood.2.1).1
    have HMM:Hid (w.heap.size≤St∧w.heap.size≤M):=⟨by omega,by omega⟩;clear hS0 m1 m2 m3 m4 hm8;go_wp2_with fail;refine (zE8 w3).mono ?_;rintro e w3' ⟨rfl,hw3⟩;rw[hw3];clear hw3 w3';go_wp2_with fail;refine (show Calls _ _ _ _ _ from HNOW.out).mono ?_;rintro e w4 ⟨v4,rfl,ho4,hS4,hK4⟩;have HK4:Hid (Kp [] w w4):=HK3.out.trans hK4 (by intro i hi hlt;have:=HMM.out;simp at hi;omega);have HS4:=Hid.mk' hS4;obtain⟨ob,oc,rfl⟩:=qL0 ho4;obtain⟨ln,hln⟩:∃ ln,ln=(qB5 r.cont).length:=⟨_,rfl⟩;have hsl:=qG3 ho4;have HSL:Hid (Slc w4 64 2 (.slice ob ln oc) (qB5 r.cont).length (qA9 (qB5 r.cont))):=by rw[hln];exact hsl
    rw[←hln];have HLN:=zh hln;have hlnb:ln≤25200:=by rw[hln];exact HSO.out.2.1
    clear ho4 hS4 hK4 hln HNOW HK3 hsl;go_wp2_with fail
    go_loopw [12] (fun i wr=>∃ (jj:Nat),i=.int .i64 ((jj+1:Nat):Int)∧jj≤ln∧Hid (Kp [] w4 wr)) (fun i _=>ln+1-(intOf i).toNat)
    case atStart=>exact⟨0,rfl,Nat.zero_le _,Kp.refl _ _⟩
    case round=>
     obtain⟨jj,rfl,hjl,HKr⟩:=hrel;by_cases hlt:jj+1<ln
     ·have hjb:((jj+1:Nat):Int)<(ln:Int):=by omega
      have hja:jj<(qB5 r.cont).length:=by have:=HLN.out;omega
      have hjc:jj+1<(qB5 r.cont).length:=by have:=HLN.out;omega
      obtain⟨ga,oa,ca,cua,fra,e1,e2,e3,e4⟩:=(HSL.out.keep0 HKr.out).pairT (by omega);simp only[Value.slice.injEq] at e1;obtain⟨rfl,_,rfl⟩:=e1;have a0:=ξ e3 (oa+jj*2);rw[(e4 jj hja).1] at a0;have b0:=ξ e3 (oa+(jj+1)*2);rw[(e4 (jj+1) hjc).1] at b0;have hlt2:Op.bytesLess (qB5 r.cont)[jj].k.toList (qB5 r.cont)[jj+1].k.toList=true:=(List.pairwise_iff_getElem.1 HSO.out.1) jj (jj+1) hja hjc (by omega);have hga:=ζ e3;generalize (qB5 r.cont)[jj]=x1 at a0 hlt2;generalize (qB5 r.cont)[jj+1]=x2 at b0 hlt2;have hj1:IntKind.i64.wrap (((jj+1:Nat):Int)-1)=(jj:Int):=by rw[IntKind.wrap_i64];omega
      have hj2:IntKind.i64.wrap ((jj:Int)+1-1)=(jj:Int):=by rw[IntKind.wrap_i64];omega
      have hj3:IntKind.i64.wrap (jj:Int)=(jj:Int):=by rw[IntKind.wrap_i64];omega
      have hjd:(jj:Int)<(ln:Int):=by omega
      have hje:(jj:Int)+1<(ln:Int):=by omega
      clear e3 e4 hja hjc;go_wp2_with fail
      go_quiet (fail)
      clear hlt2 a0 b0 hj1 hj2 hj3;go_wp2;exact⟨⟨jj+1,by go_num,by omega,HKr.out.drewN _⟩,by simp[intOf];omega⟩
     ·have hjb:¬((jj+1:Nat):Int)<(ln:Int):=by omega
      have hjc:¬(jj:Int)+1<(ln:Int):=by omega
      have hS5:Shop0 wr 25200 Db St (w.heap.size+1) w.heap.size m 1 s.read emp l 0 r:=HS4.out.turn HKr.out (by simp) (qD4 HS4.out.dev HKr.out (by intro k hk;cases hk)) ⟨rfl,rfl,rfl,rfl,rfl,rfl⟩ (HKr.out.hp HS4.out.hSt) (HS4.out.hM.kp HKr.out (by simp)) HS4.out.m4 HS4.out.n1 HS4.out.bg0 HS4.out.kb HS4.out.rd;have HBW:Hid (Calls prog 22 #[.pointer (some ⟨Db,0,none⟩),.bool true] wr fun e w'=>∃ x t,e=.returned (.tuple #[.pointer (some ⟨x,0,none⟩),.nilIface])∧wr.heap.size≤x∧t.St=St∧t.nr=s.read.bg+1∧t.wrt=true∧t.ch=0∧Kp [St] wr w'∧∃ hS':Shop0 w' 25200 Db St (w.heap.size+1) w.heap.size m 1 s.read.wrote emp l 0 r,LiveT hS'.E w' x (w.heap.size+1) m t s.read.wrote r):=hS5.beginW HSD.out.1 (by show s.bg+1≤_;have:=HSD.out.2.1;omega) ⟨by omega,HSD.out.2.2.1⟩;have HK5:Hid (Kp [] w wr):=HK4.out.tr HKr.out;clear hS5 HS4 HSL HKr HK4;go_wp2_with fail;refine (show Calls _ _ _ _ _ from HBW.out).mono ?_;rintro e w6 ⟨x,t6,rfl,hx6,ht1,ht2,ht3,ht4,hK6,hS6,hL6⟩;have hs5:=HK5.out.size;have HK6:Hid (Kp [] w w6):=HK5.out.trans hK6 (by intro i hi hlt;have:=HMM.out;simp at hi;omega);have HT6:Hid (t6.St=St∧t6.wrt=true∧t6.ch=0∧wr.heap.size≤x):=⟨ht1,ht3,ht4,hx6⟩;clear hK6 HBW ht1 ht2 ht3 ht4 hx6 HK5;obtain⟨g1,g2⟩:=qO9 (p:=kvB) HSO.out.2.2.1 qC2;have hil:=qN5 kvB r.cont;by_cases hroom:((r.put kvB).news:Int)≤(m:Int)-2-s.read.wrote.bl
      ·have HPUT:Hid (Calls prog 28 #[.pointer (some ⟨x,0,none⟩),.string ⟨#[107]⟩,.string ⟨#[118]⟩] w6 fun e w'=>e=.returned .nilIface∧∃ h',FineT hS6.E w6 w' x t6 s.read.wrote (r.put kvB) h'):=zN6 hS6.E x (w.heap.size+1) m t6 s.read.wrote r kvB w6 hL6 HT6.out.2.1 qC2 hroom;clear hroom;go_wp2_with fail;refine (show Calls _ _ _ _ _ from HPUT.out).mono ?_;rintro e w7 ⟨rfl,h',hF⟩;have hL7:=hL6.next hF g1 (by rw[g2];have:=HSO.out.2.2.2;omega) (by have:=HT6.out.2.2.1;omega);have HK7:Hid (Kp [] w w7):=HK6.out.trans hF.kp (by
        intro i hi hlt;have h1:=HMM.out;have h2:=HT6.out;rcases List.mem_cons.1 hi with h|h
        ·rw[h2.1] at h;omega
        ·rcases List.mem_cons.1 h with h|h
         ·omega
         ·have h':i∈[w.heap.size+1]:=h;simp at h';omega)
       have hget:=qC0 (p:=kvB) ((by
        cases hr:r.put kvB with
        | none=>simp[Root.cont,Sorted]
        | «at» n' L=>rw[hr] at g1;exact (qK4 n' L.key L.sub g1.2.1).1):Sorted (r.put kvB).cont) (by rw[g2];exact zN3 _ _)
       have HGET:Hid (Calls prog 23 #[.pointer (some ⟨x,0,none⟩),.string ⟨#[107]⟩] w7 fun e w'=>e=.returned (.tuple #[.string ⟨#[118]⟩,.bool true,.nilIface])∧Kp [t6.St,w.heap.size+1] w7 w'):=by
        refine (qD0 hS6.E x (w.heap.size+1) m _ s.read.wrote (r.put kvB) kvB.k w7 hL7 (by kernel_rfl)).mono ?_;rintro e w' ⟨e1,e2⟩;refine⟨?_,e2.kp⟩;rw[e1,qS0,hget];rfl
       clear hF hL7 hL6 HPUT g1 g2 hil hget;go_wp2_with fail;refine (show Calls _ _ _ _ _ from HGET.out).mono ?_;rintro e w8 ⟨rfl,hK8⟩;have HK8:Hid (Kp [] w w8):=HK7.out.trans hK8 (by
        intro i hi hlt;have h1:=HMM.out;have h2:=HT6.out.1;rcases List.mem_cons.1 hi with h|h
        ·rw[h2] at h;omega
        ·simp at h;omega)
       clear hK8 HGET HK7;go_wp2;go_ret;exact⟨rfl,HK8.out⟩
      ·have HPUT:Hid (Calls prog 28 #[.pointer (some ⟨x,0,none⟩),.string ⟨#[107]⟩,.string ⟨#[118]⟩] w6 fun e w'=>∃ v,e=.returned v∧qI9 w' v (some 3)∧BadT hS6.E w6 w' t6 s.read.wrote):=zC1 hS6.E x (w.heap.size+1) m t6 s.read.wrote r kvB 3 w6 hL6 (by
        rw[show decide ((m:Int)-2-s.read.wrote.bl<((r.put kvB).news:Int))=true from decide_eq_true (by omega)];unfold qA0;rw[HT6.out.2.1];rfl)
       clear hroom;go_wp2_with fail;refine (show Calls _ _ _ _ _ from HPUT.out).mono ?_;rintro e w7 ⟨v,rfl,⟨F,call,rfl,hF2⟩,hB⟩;have hL7:=hL6.stay hB;have HK7:Hid (Kp [] w w7):=HK6.out.trans hB.kp (by
        intro i hi hlt;have h1:=HMM.out;have h2:=HT6.out;rcases List.mem_cons.1 hi with h|h
        ·rw[h2.1] at h;omega
        ·have h':i∈[w.heap.size+1]:=h;simp at h';omega)
       have HGET:Hid (Calls prog 23 #[.pointer (some ⟨x,0,none⟩),.string ⟨#[107]⟩] w7 fun e w'=>∃ gv gb,e=.returned (.tuple #[.string gv,.bool gb,.nilIface])∧w'.heap[F]?=some (.cells #[.string call,.iface 46 (.int .i64 3)] 183)∧Kp [t6.St,w.heap.size+1] w7 w'):=by
        refine (qD0 hS6.E x (w.heap.size+1) m _ s.read.wrote r kvB.k w7 hL7 (by kernel_rfl)).mono ?_;rintro e w' ⟨e1,e2⟩;refine⟨_,_,e1,e2.kp.heap hF2 ?_,e2.kp⟩;intro hi;rcases List.mem_cons.1 hi with h|h
        ·exact qB7 hF2 hB.hSt (by decide) h
        ·have h':F∈[w.heap.size+1]:=h;simp at h';obtain⟨cA,hA⟩:=hB.dev.hA;exact qB7 hF2 hA (by decide) h'
       clear hB hL7 hL6 HPUT g1 g2 hil hF2;go_wp2_with fail;refine (show Calls _ _ _ _ _ from HGET.out).mono ?_;rintro e w8 ⟨gv,gb,rfl,hF8,hK8⟩;have HK8:Hid (Kp [] w w8):=HK7.out.trans hK8 (by
        intro i hi hlt;have h1:=HMM.out;have h2:=HT6.out.1;rcases List.mem_cons.1 hi with h|h
        ·rw[h2] at h;omega
        ·simp at h;omega)
       have HTD:Hid (Calls prog 21 #[.iface 180 (.pointer (some ⟨F,0,none⟩))] w8 fun e w'=>e=.returned (.int .i64 3)∧Kp [] w8 w'):=zO0 F call 3 w8 (Kp.zero HK8.out HG.out.1 HG.out.2) hF8;clear hK8 HGET HK7 hF8;go_wp2_with fail;refine (show Calls _ _ _ _ _ from HTD.out).mono ?_;rintro e w9 ⟨rfl,hK9⟩;have HK9:Hid (Kp [] w w9):=HK8.out.tr hK9;clear hK9 HTD;go_wp2;go_ret;exact⟨rfl,HK9.out⟩
   ·have HA3:=Hid.mk' hA3;have hg3:w3.cell? ⟨0,0,none⟩=some qL8:=Kp.zero HK3.out HG.out.1 HG.out.2;have HTD:Hid (Calls prog 21 #[.iface 180 (.pointer (some ⟨F,0,none⟩))] w3 fun e w'=>e=.returned (.int .i64 9)∧Kp [] w3 w'):=zO0 F call 9 w3 hg3 hF2;have hmi:(8:Int)≤(m:Int):=by omega
    have hmj:(m:Int)≤400:=by omega
    clear hF hF2 hg3 hA3 hm8;go_wp2_with fail;refine (show Calls _ _ _ _ _ from HTD.out).mono ?_;rintro e w4 ⟨rfl,hK4⟩;have HA4:=Hid.mk' (hK4.hp HA3.out);have HK4:Hid (Kp [] w w4):=HK3.out.tr hK4;clear hK4 HTD
    go_wp2_with (first | (go_at_call 33;refine (zM7 _ _ _ _ _ _ _ HA4.out).mono ?_;rintro e w5 ⟨rfl,rfl⟩) | fail)
    go_ret;exact⟨by first | rfl | (show Ending.returned (Value.bool (!decide ((m:Int)≤400)))=_;rw[show decide ((m:Int)≤400)=false from decide_eq_false (by omega)];rfl),HK4.out⟩
 ·have hti:(60000:Int)<((t.size:Nat):Int):=by omega
  clear ht;go_enter func8,ntmps8;go_wp2;go_ret;exact⟨rfl,Kp.refl _ _⟩
end Go.Proofs.YtdohpenfkdckiabGreatDoor
namespace Go.Proofs.YtdohpenfkdckiabGreatDoor
open Go.Proofs.Tryz
open Go.ChangeShapes Go.WideShapes Go.RowKit Go.Deep
theorem zE9{n:Int}(h:(Lit.int .i64 n).wf=true):-9223372036854775808≤n∧n≤9223372036854775807:=by
 simp[Lit.wf,IntKind.min,IntKind.max,IntKind.bits,IntKind.signed] at h;omega
theorem qC4:laidOutB prog=true:=by kernel_rfl
theorem zD0:ownKnob prog.godebug=none:=by kernel_rfl
theorem zC8:prog.globalNamed "errors.errorType"=some 0:=by kernel_rfl
theorem zD1:(prog.cutTypes.find? (·.1 == "internal/reflectlite.rtype")).map (·.2)=some 196:=by kernel_rfl
theorem zC9:((List.range 345).filter fun t=>prog.rowNamed t [101,114,114,111,114])=[35]:=by kernel_rfl
theorem zD4:prog.types.size=345:=by kernel_rfl
theorem qI5{W:World}(h:laidMetH prog Rows.wildRow.laid W):W.cell? ⟨0,0,none⟩=some qL8:=by
 have h':laidMet prog (Rows.wildRow.laid.filter fun x=>x.2.handleName?.isNone) W∧handlesMet prog [("errors.errorType",Rows.laid_errors_errorType)] W:=h;obtain⟨name,u,ty,e1,e2,e3,e4,e5⟩:=h'.2 _ (List.mem_singleton.2 rfl);have en:name=[101,114,114,111,114]:=(Option.some.inj e1).symm;subst en;obtain rfl:=Option.some.inj (zD1.symm.trans e2);have hm:ty∈(List.range 345).filter fun t=>prog.rowNamed t [101,114,114,111,114]:=List.mem_filter.2 ⟨List.mem_range.2 (by rw[←zD4];exact e3),e4⟩;rw[zC9] at hm;obtain rfl:=List.mem_singleton.1 hm;have hh:typeHandle prog 35=.pointer (some ⟨5,35,none⟩):=by kernel_rfl
 rw[hh] at e5;simpa [qL8] using World.var?_cell zC8 e5 0
theorem zE2(os:Os)(H:Type)(enc:TypeId × Value→H):
  ∃ (w:World) (tape:Tape) (i:Input),w.os=os∧(w.forCall tape i).Shaped prog∧i.vars=[]∧Input.okWide prog (w.forCall tape i) .any w.heap.size 8 i∧
   ((Rows.wildSpec.pre enc prog f8 [] false (w.forCall tape i).memory i.args∧laidMetH prog Rows.wildRow.laid (w.forCall tape i).memory)∧sizedMet enc prog f8 (OpenSpec.ofChange Rows.wildSpec) false (w.forCall tape i).memory i.args)∧({}:Assume).holds prog (lone (Frame.enter prog 8 i.args .normal) [] (w.forCall tape i)):=
 ChangeSpec.witness_at (enc:=enc) (C:=checked) (os:=os) (X:=fun w _=>laidMetH prog Rows.wildRow.laid w) false ({ World.laidAll prog os (Rows.wildRow.laid.filter fun x=>x.2.handleName?.isNone) with heap:=(World.laidAll prog os (Rows.wildRow.laid.filter fun x=>x.2.handleName?.isNone)).heap.modify 0 fun o=>match o with | .cells _ t frozen=>.cells #[qL8] t frozen | o=>o }) #[.int .i64 0,.string ⟨#[]⟩] 8 rfl (by kernel_rfl) (by kernel_rfl) (by kernel_rfl) (by kernel_rfl) (by kernel_rfl) (laidMetH_of_parts (laidMet_of_run' 8 (by kernel_rfl) (by kernel_rfl)) (by kernel_rfl))
end Go.Proofs.YtdohpenfkdckiabGreatDoor
namespace Go.Proofs.YtdohpenfkdckiabGreatDoor
open Go.Proofs.Tryz
open Go Go.ChangeShapes Go.WideShapes Go.RowKit Go.Deep
theorem zF5(os:Os)(started:os.Started)(H:Type)(enc:TypeId × Value→H):
  ReturnsInHanded {} checked os 8 .any (fun w args=>(Rows.wildSpec.pre enc prog f8 [] false w args∧laidMetH prog Rows.wildRow.laid w)∧sizedMet enc prog f8 (OpenSpec.ofChange Rows.wildSpec) false w args)
   (Rows.wildSpec.post enc prog f8 false true false false):=by
 refine returnsInHanded_of_change_and (C:=checked) (X:=fun w _=>laidMetH prog Rows.wildRow.laid w) (fun _ _ _ hh h=>h.of_heap hh) zD0 started (by kernel_rfl) func8 (zE2 os H enc) ?_;intro W base args ds gs before hval0 hW _ _ hL _;have hval:∀ (j:Nat) t v,f8.params[j]?=some t→args[j]?=some v→Value.okWide prog W .any base t v:=hval0;have hW':=hW;obtain⟨p,q,hA0,hV,rfl,_,_⟩:=hW;have hA:DataW.TrodAll enc prog W 0 (fun _=>true) true f8.params.toList args.toList ds p:=hA0;rw[params8] at hA hval;obtain⟨v0,v1,d0,d1,p0,p1,rfl,rfl,rfl,h0,h1⟩:=trodAll_two hA;obtain⟨rfl,rfl⟩:=trodVars_none hV;clear hA0 hval0;simp only[List.append_nil] at hW';obtain⟨a,rfl,rfl,rfl,wa⟩:=open_int underlying3 (hval 0 3 v0 rfl rfl) h0;have hlt:∀ x∈p1,x.block<W.heap.size:=fun x hx=>by simpa using hW'.lt x (by simpa using hx)
 obtain⟨t,rfl⟩:=okWide_string underlying9 (hval 1 9 v1 rfl rfl);have hg:=qI5 hL;have h0s:0<W.heap.size:=by
  unfold World.cell? at hg
  cases hb:W.heap[0]? with
  | none=>simp[hb] at hg
  | some o=>exact ζ hb
 have e1:Rows.wildSpec.fn H ([.lit (.int .i64 a),d1]++[])={ results:=[.lit (.bool true)],args:=[.lit (.int .i64 a),d1] }:=by simp[Rows.wildSpec]
 obtain⟨ha0,ha1⟩:=zE9 wa;refine (zF9 a t ha0 ha1 W h0s hg).mono fun e W' ⟨he,hK⟩=>?_;subst he;have hb:Below W.heap.size W W':=hK.below (Nat.le_refl _) (by simp);refine⟨_,rfl,_,_,_,[],p1,[],hW',?_,?_,?_,hb.frame _,fun h=>by cases h⟩
 ·rw[e1];exact trodAll_mk1 (shut_bool underlying4 true)
 ·rw[e1];exact trodAll_mk2 (shut_int underlying3 wa) (Below.trod qC4 (by kernel_rfl) (of_decide_eq_true (by kernel_rfl)) h1 hb hlt)
 ·rw[e1];rfl
end Go.Proofs.YtdohpenfkdckiabGreatDoor
