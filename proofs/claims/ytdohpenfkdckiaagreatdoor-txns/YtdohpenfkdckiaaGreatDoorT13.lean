import Derived.Test.YtdohpenfkdckiaaGreatDoorT12
import Derived.RangeFuncNested
import Derived.RangeFuncBound
import Derived.RangeFuncCalls
import Derived.RangeFuncLeaves
import Derived.Shelf.Abstract
import Derived.Shelf.RegionOpen
import Derived.OwnWalkIn
import Derived.TacticsInMore
import Derived.LoopNIn
import Derived.LoopIn
import Derived.Sort.LoopGhostIn
import Derived.Laws.EntriesVeiled
set_option linter.all false
set_option maxRecDepth 100000
set_option maxHeartbeats 20000000
namespace Go.Proofs.YtdohpenfkdckiaaGreatDoor
open Go.Proofs.Tryz
open Go.RowKit
theorem zF9(Tc Kc Wc x:Nat)(t:Tx)(w:World)(hTc:w.heap[Tc]?=some (.cells #[.pointer (some ⟨x,0,none⟩)] 32))(hx:w.heap[x]?=some (ψ t))(hwr:t.wrt=false):
  Calls prog 100 #[.pointer (some ⟨Tc,0,none⟩),.pointer (some ⟨Kc,0,none⟩),.pointer (some ⟨Wc,0,none⟩)] w fun e w'=>e=qA9 (some 6)∧w'=w:=by
 have hs:=ζ hTc;have hxs:=ζ hx;have c0:=ξ hTc 0;simp only[zG,zH,zI] at c0;have x2:=ξ hx 2;simp only[ψ,zG,zH,zI] at x2;rw[hwr] at x2;go_enter func100,ntmps100;go_wp2;exact⟨rfl,rfl,rfl,rfl⟩
theorem zF8(Tc Kc Wc x:Nat)(t:Tx)(k:ByteArray)(w:World)(hTc:w.heap[Tc]?=some (.cells #[.pointer (some ⟨x,0,none⟩)] 32))(hKc:w.heap[Kc]?=some (.cells #[.string k] 9))(hx:w.heap[x]?=some (ψ t))(hwr:t.wrt=true)(hk:k.size<1∨8<k.size):
  Calls prog 100 #[.pointer (some ⟨Tc,0,none⟩),.pointer (some ⟨Kc,0,none⟩),.pointer (some ⟨Wc,0,none⟩)] w fun e w'=>e=qA9 (some 1)∧w'=w:=by
 have hs:=ζ hTc;have hxs:=ζ hx;have hks:=ζ hKc;have c0:=ξ hTc 0;simp only[zG,zH,zI] at c0;have k0:=ξ hKc 0;simp only[zG,zH,zI] at k0;have x2:=ξ hx 2;simp only[ψ,zG,zH,zI] at x2;rw[hwr] at x2;have HK:=zh hk;clear hk;go_enter func100,ntmps100;go_wp2_with fail;refine (zG5 k _ HK.out).mono ?_;rintro e w1 ⟨rfl,rfl⟩;simp only[qA9];go_wp2;exact⟨rfl,rfl,rfl⟩
theorem zY1(Tc Kc Wc x f:Nat)(t:Tx)(key:ByteArray)(first cap:Array Value)(R:HL→World→Prop)(w:World)(hTc:w.heap[Tc]?=some (.cells #[.pointer (some ⟨x,0,none⟩)] 32))(hKc:w.heap[Kc]?=some (.cells #[.string key] 9))(hWc:w.heap[Wc]?=some (.cells #[.func (.func f) first cap] 1))(hx:w.heap[x]?=some (ψ t))(hwr:t.wrt=true)(hk1:1≤key.size)(hk8:key.size≤8)(h0:0≤t.ch)(h1:t.ch≤1000000000)
  (hcf:∀ W:World,Sem.run prog (callFunc f (first++cap)) W=.ok (.enter f (first++cap)) W)
  (hw:Calls prog f (first++cap) w fun e w'=>e=qA9 none∧∃ h',R h' w'∧w'.heap[x]?=some (ψ { t with h:=h' })∧w'.heap[Tc]?=some (.cells #[.pointer (some ⟨x,0,none⟩)] 32)):
  Calls prog 100 #[.pointer (some ⟨Tc,0,none⟩),.pointer (some ⟨Kc,0,none⟩),.pointer (some ⟨Wc,0,none⟩)] w fun e w'=>e=qA9 none∧∃ w1 h',R h' w1∧w1.heap[x]?=some (ψ { t with h:=h' })∧w'.heap[x]?=some (ψ { t with h:=h',ch:=t.ch+1 })∧Kp [x] w1 w':=by
 have hs:=ζ hTc;have hxs:=ζ hx;have hks:=ζ hKc;have hws:=ζ hWc;have c0:=ξ hTc 0;simp only[zG,zH,zI] at c0;have k0:=ξ hKc 0;simp only[zG,zH,zI] at k0;have f0:=ξ hWc 0;simp only[zG,zH,zI] at f0;have x2:=ξ hx 2;simp only[ψ,zG,zH,zI] at x2;rw[hwr] at x2;have HW:=zh hw;clear hw;go_enter func100,ntmps100;go_wp2_with fail;refine (qY2 key _ hk1 hk8).mono ?_;rintro e w1 ⟨rfl,rfl⟩;simp only[qA9];go_wp2_with fail;refine (show Calls _ _ _ _ _ from HW.out).mono ?_;rintro e w1 ⟨rfl,h',hR,hx1,hTc1⟩;have HR:=zh hR;clear hR;clear c0 k0 f0 x2;have hx1s:=ζ hx1;have hTc1s:=ζ hTc1;have HX:=zh hx1;have c0:=ξ hTc1 0;simp only[zG,zH,zI] at c0;have x9:=ξ hx1 9;simp only[ψ,zG,zH,zI] at x9;have fx9:=υ hx1 9;clear hx1 hTc1;simp only[qA9];go_wp2
 go_end0
 exact⟨rfl,w1,h',HR.out,HX.out,ν HX.out 9 _,(Kp.refl _ _).sc _⟩
theorem zG0(j:Int)(Tc Kc Wc x f:Nat)(t:Tx)(key:ByteArray)(first cap:Array Value)(R:World→Prop)(w:World)(hTc:w.heap[Tc]?=some (.cells #[.pointer (some ⟨x,0,none⟩)] 32))(hKc:w.heap[Kc]?=some (.cells #[.string key] 9))(hWc:w.heap[Wc]?=some (.cells #[.func (.func f) first cap] 1))(hx:w.heap[x]?=some (ψ t))(hwr:t.wrt=true)(hk1:1≤key.size)(hk8:key.size≤8)
  (hcf:∀ W:World,Sem.run prog (callFunc f (first++cap)) W=.ok (.enter f (first++cap)) W)
  (hw:Calls prog f (first++cap) w fun e w'=>e=qA9 (some j)∧R w'):
  Calls prog 100 #[.pointer (some ⟨Tc,0,none⟩),.pointer (some ⟨Kc,0,none⟩),.pointer (some ⟨Wc,0,none⟩)] w fun e w'=>e=qA9 (some j)∧R w':=by
 have hs:=ζ hTc;have hxs:=ζ hx;have hks:=ζ hKc;have hws:=ζ hWc;have c0:=ξ hTc 0;simp only[zG,zH,zI] at c0;have k0:=ξ hKc 0;simp only[zG,zH,zI] at k0;have f0:=ξ hWc 0;simp only[zG,zH,zI] at f0;have x2:=ξ hx 2;simp only[ψ,zG,zH,zI] at x2;rw[hwr] at x2;have HW:=zh hw;clear hw;go_enter func100,ntmps100;go_wp2_with fail;refine (qY2 key _ hk1 hk8).mono ?_;rintro e w1 ⟨rfl,rfl⟩;simp only[qA9];go_wp2_with fail;refine (show Calls _ _ _ _ _ from HW.out).mono ?_;rintro e w1 ⟨rfl,hR⟩;have HR:=zh hR;clear hR;simp only[qA9];go_wp2;exact⟨rfl,rfl,HR.out⟩
theorem zX8(args:Array Value)(W:World):Sem.run prog (callFunc 100 args) W=.ok (.enter 100 args) W:=by
 simp[go_sem,func100]
theorem zG3(k:Option Int)(hk8:k≠some 8)(x f:Nat)(t:Tx)(s:Sto)(key call:ByteArray)(first cap:Array Value)(X:List Nat)(Q:World→World→Prop)(w:World)(hx:w.heap[x]?=some (ψ t))(ho:t.over=false)(hSt:w.heap[t.St]?=some (μ 0 s))(hpo:s.po=false)(hxS:x≠t.St)(hX:∀ i,i∈X→i<w.heap.size)
  (hw:∀ (W:World) (Tc Kc Wc:Nat),Kp [t.St] w W→w.heap.size≤Tc→w.heap.size≤Kc→w.heap.size≤Wc→W.heap[t.St]?=some (μ 1 s)→W.heap[Tc]?=some (.cells #[.pointer (some ⟨x,0,none⟩)] 32)→W.heap[Kc]?=some (.cells #[.string key] 9)→W.heap[Wc]?=some (.cells #[.func (.func f) first cap] 1)→
   Calls prog 100 #[.pointer (some ⟨Tc,0,none⟩),.pointer (some ⟨Kc,0,none⟩),.pointer (some ⟨Wc,0,none⟩)] W fun e w1=>e=qA9 k∧Q W w1∧Kp (t.St::X) W w1∧w1.heap[t.St]?=some (μ 1 s)):
  Calls prog 61 #[.pointer (some ⟨x,0,none⟩),.string call,.string key,.func (.func f) first cap] w fun e w'=>∃ v,e=.returned v∧qB4 w' v k∧w'.heap[t.St]?=some (μ 0 s)∧Kp (t.St::X) w w'∧∃ W w1 B,Q W w1∧Kp [t.St] w W∧w.heap.size≤B∧B<W.heap.size∧w1.heap[B]?=some (.cells #[.nilIface] 38)∧Kp [t.St,B] w1 w':=by
 have hmf:=zM;have HW:Hid (∀ (W:World) (Tc Kc Wc:Nat),Kp [t.St] w W→w.heap.size≤Tc→w.heap.size≤Kc→w.heap.size≤Wc→W.heap[t.St]?=some (μ 1 s)→W.heap[Tc]?=some (.cells #[.pointer (some ⟨x,0,none⟩)] 32)→W.heap[Kc]?=some (.cells #[.string key] 9)→W.heap[Wc]?=some (.cells #[.func (.func f) first cap] 1)→
   Calls prog 100 #[.pointer (some ⟨Tc,0,none⟩),.pointer (some ⟨Kc,0,none⟩),.pointer (some ⟨Wc,0,none⟩)] W fun e w1=>e=qA9 k∧Q W w1∧Kp (t.St::X) W w1∧w1.heap[t.St]?=some (μ 1 s)):=hw
 have HX:=zh hX;have HK8:=zh hk8;have HXS:=zh hxS;clear hw hX hk8 hxS;have hxs:=ζ hx;have hSs:=ζ hSt;go_enter func61,ntmps61;go_wp2_with fail;obtain⟨w0,hw0,hT0,hK0,hF0,hKp0,hs0⟩:∃ w0,w0=((w.alloc (.cells #[.pointer (some ⟨x,0,none⟩)] 32)).alloc (.cells #[.string key] 9)).alloc (.cells #[.func (.func f) first cap] 1)∧w0.heap[w.heap.size]?=some (.cells #[.pointer (some ⟨x,0,none⟩)] 32)∧w0.heap[w.heap.size+1]?=some (.cells #[.string key] 9)∧w0.heap[w.heap.size+2]?=some (.cells #[.func (.func f) first cap] 1)∧Kp [] w w0∧w0.heap.size=w.heap.size+3:=by
  refine⟨_,rfl,θ _ (θ _ (κ _ _)),θ _ ?_,?_,(((Kp.refl _ _).alloc _).alloc _).alloc _,by simp⟩
  ·have e:=κ (w.alloc (.cells #[.pointer (some ⟨x,0,none⟩)] 32)) (.cells #[.string key] 9);simpa using e
  ·have e:=κ ((w.alloc (.cells #[.pointer (some ⟨x,0,none⟩)] 32)).alloc (.cells #[.string key] 9)) (.cells #[.func (.func f) first cap] 1);simpa using e
 rw[←hw0];clear hw0;have hx0:=hKp0.hp hx;have hSt0:=hKp0.hp hSt;refine (qO7 k HK8.out x t.St 100 t s s #[] _ call X Q w0 hx0 ho rfl hSt0 hpo HXS.out (zX8 _) (fun i hi=>by have:=HX.out i hi;omega) ?_).mono ?_
 ·intro W hK hS;exact HW.out W w.heap.size (w.heap.size+1) (w.heap.size+2) ((hKp0.mono (S':=[t.St]) (by simp)).trans hK (fun _ h _=>h)) (Nat.le_refl _) (by omega) (by omega) hS (hK.ho hT0) (hK.ho hK0) (hK.ho hF0)
 rintro e w2 ⟨v,rfl,hv,hSt2,hK2,W,w1,B,hQ,hKW,hB1,hB2,hB3,hKB⟩;have HE:Hid (qB4 w2 v k∧w2.heap[t.St]?=some (μ 0 s)∧Kp (t.St::X) w w2∧∃ W w1 B,Q W w1∧Kp [t.St] w W∧w.heap.size≤B∧B<W.heap.size∧w1.heap[B]?=some (.cells #[.nilIface] 38)∧Kp [t.St,B] w1 w2):=
  ⟨hv,hSt2,(hKp0.mono (S':=t.St::X) (by simp)).trans hK2 (fun _ h _=>h),W,w1,B,hQ,(hKp0.mono (S':=[t.St]) (by simp)).trans hKW (fun _ h _=>h),by omega,hB2,hB3,hKB⟩
 clear hv hSt2 hK2 hQ hKW hB3 hKB;go_wp2;go_ret;exact⟨v,rfl,HE.out⟩
structure LiveT(E:SEnv)(w:World)(x A n:Nat)(t:Tx)(s:Sto)(r:Root):Prop where
 hx:w.heap[x]?=some (ψ t)
 over:t.over=false
 on:t.on=some ⟨E.V,0,none⟩
 hSt:w.heap[t.St]?=some (μ 0 s)
 po:s.po=false
 sV:s.V=E.V
 hV:w.heap[E.V]?=some (qB7 A n)
 n1:n≤1000
 bl0:0≤s.bl
 bl1:s.bl≤1000
 dev:E.Dev w
 vS:E.V ∉ E.S
 rr:RR E.toEnv w t.h r
 good:RGood r
 sz:r.cont.length≤50000
 ch0:0≤t.ch
 ch1:t.ch≤100000000
theorem qA8{w:World}{a b:Nat}{c d:Array Value}{t u:TypeId}{fr gr:Nat × Nat}(ha:w.heap[a]?=some (.cells c t fr))(hb:w.heap[b]?=some (.cells d u gr))(h:t≠u):a≠b:=fun e=>by
 subst e;rw[ha] at hb;cases hb;exact h rfl
theorem LiveT.xS{E:SEnv}{w:World}{x A n:Nat}{t:Tx}{s:Sto}{r:Root}(h:LiveT E w x A n t s r):x≠t.St:=qA8 h.hx h.hSt (by decide)
theorem LiveT.devS{E:SEnv}{w W:World}{x A n:Nat}{t:Tx}{s:Sto}{r:Root}(h:LiveT E w x A n t s r)(hK:Kp [t.St] w W):E.Dev W:=E.keepX w W [t.St] h.dev hK (OffD.one h.hSt (by decide))
theorem LiveT.more{E:SEnv}{w W:World}{x A n:Nat}{t:Tx}{s:Sto}{r:Root}(h:LiveT E w x A n t s r)(hK:Kp [] w W):LiveT E W x A n t s r:=
 { h with hx:=hK.hp h.hx,hSt:=hK.hp h.hSt,hV:=hK.hp h.hV,dev:=E.keepX w W [] h.dev hK (fun k hk=>by simp at hk),rr:=h.rr.keepT hK (Apt.nil _ _) }
structure FineT(E:SEnv)(w w':World)(x:Nat)(t:Tx)(s:Sto)(r':Root)(h':HL):Prop where
 hx:w'.heap[x]?=some (ψ { t with h:=h',ch:=t.ch+1 })
 rr:RR E.toEnv w' h' r'
 dev:E.Dev w'
 hSt:w'.heap[t.St]?=some (μ 0 s)
 kp:Kp (t.St::x::E.S) w w'
structure BadT(E:SEnv)(w w':World)(t:Tx)(s:Sto):Prop where
 dev:E.Dev w'
 hSt:w'.heap[t.St]?=some (μ 0 s)
 kp:Kp (t.St::E.S) w w'
theorem qP6{w1:World}{St B:Nat}{s:Sto}{lk:Int}(h1:w1.heap[St]?=some (μ lk s))(h2:w1.heap[B]?=some (.cells #[.nilIface] 38)):OffD w1 [St,B]:=(OffD.one h1 (by decide)).cons (OffD.one h2 (by decide))
theorem zS5{w1:World}{St B:Nat}{s:Sto}{lk:Int}(h1:w1.heap[St]?=some (μ lk s))(h2:w1.heap[B]?=some (.cells #[.nilIface] 38)):Apt w1 [St,B] qF7:=(Apt.one h1 (by decide)).cons (Apt.one h2 (by decide))
theorem zG1(E:SEnv)(j:Int)(hj:j≠8)(x A n f:Nat)(t:Tx)(s:Sto)(r:Root)(key call:ByteArray)(first cap:Array Value)(w:World)(hL:LiveT E w x A n t s r)
  (hw:∀ (W:World) (Tc Kc Wc:Nat),Kp [t.St] w W→E.Dev W→W.heap[x]?=some (ψ t)→W.heap[t.St]?=some (μ 1 s)→W.heap[Tc]?=some (.cells #[.pointer (some ⟨x,0,none⟩)] 32)→W.heap[Kc]?=some (.cells #[.string key] 9)→W.heap[Wc]?=some (.cells #[.func (.func f) first cap] 1)→
   Calls prog 100 #[.pointer (some ⟨Tc,0,none⟩),.pointer (some ⟨Kc,0,none⟩),.pointer (some ⟨Wc,0,none⟩)] W fun e w1=>e=qA9 (some j)∧E.To W w1):
  Calls prog 61 #[.pointer (some ⟨x,0,none⟩),.string call,.string key,.func (.func f) first cap] w fun e w'=>∃ v,e=.returned v∧qB4 w' v (some j)∧BadT E w w' t s:=by
 refine (zG3 (some j) (by simpa using hj) x f t s key call first cap E.S (fun W w1=>E.To W w1∧w1.heap[t.St]?=some (μ 1 s)) w hL.hx hL.over hL.hSt hL.po hL.xS (fun i hi=>E.low w hL.dev i hi) ?_).mono ?_
 ·intro W Tc Kc Wc hK _ _ _ hS hT hKc hWc;have hx:=hK.heap hL.hx (by simp;exact hL.xS);have hd:=hL.devS hK;refine (hw W Tc Kc Wc hK hd hx hS hT hKc hWc).mono ?_;rintro e w1 ⟨rfl,hT1⟩;have hS1:=E.stay hd hT1 hS (by decide);exact⟨rfl,⟨hT1,hS1⟩,hT1.kp.mono (by simp +contextual),hS1⟩
 ·rintro e w' ⟨v,rfl,hv,hSt,hK,W,w1,B,⟨hT1,hS1⟩,hKW,hB1,hB2,hB3,hKB⟩;exact⟨v,rfl,hv,E.keepX w1 w' _ hT1.dev hKB (qP6 hS1 hB3),hSt,hK⟩
theorem zG2(E:SEnv)(x A n f:Nat)(t:Tx)(s:Sto)(r r':Root)(key call:ByteArray)(first cap:Array Value)(w:World)(hL:LiveT E w x A n t s r)(hwr:t.wrt=true)(hk1:1≤key.size)(hk8:key.size≤8)
  (hcf:∀ W:World,Sem.run prog (callFunc f (first++cap)) W=.ok (.enter f (first++cap)) W)
  (hw:∀ W:World,Kp [t.St] w W→E.Dev W→W.heap[x]?=some (ψ t)→W.heap[t.St]?=some (μ 1 s)→W.heap[E.V]?=some (qB7 A n)→RR E.toEnv W t.h r→
   Calls prog f (first++cap) W fun e w1=>e=qA9 none∧∃ w0 h',E.To W w0∧RR E.toEnv w1 h' r'∧w1.heap[x]?=some (ψ { t with h:=h' })∧Kp [x] w0 w1):
  Calls prog 61 #[.pointer (some ⟨x,0,none⟩),.string call,.string key,.func (.func f) first cap] w fun e w'=>e=.returned .nilIface∧∃ h',FineT E w w' x t s r' h':=by
 have hxS:=hL.xS;refine (zG3 none (by decide) x f t s key call first cap (x::E.S) (fun W w1=>E.Dev w1∧w1.heap[t.St]?=some (μ 1 s)∧∃ h',RR E.toEnv w1 h' r'∧w1.heap[x]?=some (ψ { t with h:=h',ch:=t.ch+1 })) w hL.hx hL.over hL.hSt hL.po hL.xS (fun i hi=>by
   rcases List.mem_cons.1 hi with h|h
   ·rw[h];exact ζ hL.hx
   ·exact E.low w hL.dev i h) ?_).mono ?_
 ·intro W Tc Kc Wc hK hTcs _ _ hS hT hKc hWc;have hx:=hK.heap hL.hx (by simp;exact hxS);have hd:=hL.devS hK;have hV:=hK.heap hL.hV (by simp;exact fun e=>qA8 hL.hV hL.hSt (by decide) e);have hrr:=hL.rr.keepT hK (Apt.one hL.hSt (by decide));have hxT:x≠Tc:=qA8 hx hT (by decide);have hap:Apt W [x] qF7:=Apt.one hx (by decide);refine (zY1 Tc Kc Wc x f t key first cap (fun h' w1=>∃ w0,E.To W w0∧RR E.toEnv w1 h' r'∧Kp [x] w0 w1) W hT hKc hWc hx hwr hk1 hk8 hL.ch0 (by have:=hL.ch1;omega) hcf ?_).mono ?_
  ·refine (hw W hK hd hx hS hV hrr).mono ?_;rintro e w1 ⟨rfl,w0,h',hT0,hr,hx1,hk⟩;exact⟨rfl,h',⟨w0,hT0,hr,hk⟩,hx1,hk.heap (E.stay hd hT0 hT (by decide)) (by simp;exact fun e=>hxT e.symm)⟩
  ·rintro e w2 ⟨rfl,w1,h',⟨w0,hT0,hr,hk⟩,hx1,hx2,hk2⟩;have hx0:=E.stay hd hT0 hx (by decide);have hd1:=E.keepX w0 w1 [x] hT0.dev hk (OffD.one hx0 (by decide));have hd2:=E.keepX w1 w2 [x] hd1 hk2 (OffD.one hx1 (by decide));have hS2:w2.heap[t.St]?=some (μ 1 s):=hk2.heap (hk.heap (E.stay hd hT0 hS (by decide)) (by simp;exact fun e=>hxS e.symm)) (by simp;exact fun e=>hxS e.symm);refine⟨rfl,⟨hd2,hS2,h',hr.keepT hk2 (Apt.one hx1 (by decide)),hx2⟩,?_,hS2⟩;exact (((hT0.kp.mono (S':=t.St::x::E.S) (by simp +contextual)).trans hk (by simp +contextual)).trans hk2 (by simp +contextual))
 ·rintro e w' ⟨v,rfl,hv,hSt,hK,W,w1,B,⟨hd1,hS1,h',hrr1,hx1⟩,hKW,hB1,hB2,hB3,hKB⟩;have hv':v=.nilIface:=hv;subst hv';refine⟨rfl,h',hKB.heap hx1 ?_,hrr1.keepT hKB (zS5 hS1 hB3),E.keepX w1 w' _ hd1 hKB (qP6 hS1 hB3),hSt,hK⟩;simp only[List.mem_cons,List.not_mem_nil,or_false,not_or];exact⟨hxS,qA8 hx1 hB3 (by decide)⟩
theorem qY1(args:Array Value)(W:World):Sem.run prog (callFunc 72 args) W=.ok (.enter 72 args) W:=by
 simp[go_sem,func72]
theorem FineT.from{E:SEnv}{w w0 w':World}{x:Nat}{t:Tx}{s:Sto}{r':Root}{h':HL}(hK:Kp [] w w0)(h:FineT E w0 w' x t s r' h'):FineT E w w' x t s r' h':=
 { h with kp:=(hK.mono (by simp)).trans h.kp (fun _ h _=>h) }
theorem BadT.from{E:SEnv}{w w0 w':World}{t:Tx}{s:Sto}(hK:Kp [] w w0)(h:BadT E w0 w' t s):BadT E w w' t s:=
 { h with kp:=(hK.mono (by simp)).trans h.kp (fun _ h _=>h) }
def qP9(t:Tx)(p:KV)(full:Bool):Option Int:=
 if t.wrt=false then some 6 else if qE7 p.k=false then some 1 else if 12<p.v.size then some 2 else if full then some 3 else none
theorem qO9(k:ByteArray):qE7 k=true↔1≤k.size∧k.size≤8:=by simp[qE7]
theorem qZ8{k:ByteArray}(h:qE7 k=false):k.size<1∨8<k.size:=by
 have:=mt (qO9 k).2 (by simp[h]);omega
theorem xP1(E:SEnv)(x A n:Nat)(t:Tx)(s:Sto)(r:Root)(p:KV)(w:World)(hL:LiveT E w x A n t s r)(hwr:t.wrt=true)(hok:qE9 p)(hroom:((r.put p).news:Int)≤(n:Int)-2-s.bl):
  Calls prog 34 #[.pointer (some ⟨x,0,none⟩),.string p.k,.string p.v] w fun e w'=>e=.returned .nilIface∧∃ h',FineT E w w' x t s (r.put p) h':=by
 have HL:=zh hL;have HR:=zh hroom;have HOK:=zh hok;have hxs:=ζ hL.hx;have hSs:=ζ hL.hSt;clear hL hroom hok;have hmf:=zM;go_enter func34,ntmps34;go_wp2_with fail;obtain⟨w0,hw0,hT0,hK0,hV0,hKp0,hs0⟩:∃ w0,w0=((w.alloc (.cells #[.pointer (some ⟨x,0,none⟩)] 32)).alloc (.cells #[.string p.k] 9)).alloc (.cells #[.string p.v] 9)∧w0.heap[w.heap.size]?=some (.cells #[.pointer (some ⟨x,0,none⟩)] 32)∧w0.heap[w.heap.size+1]?=some (.cells #[.string p.k] 9)∧w0.heap[w.heap.size+2]?=some (.cells #[.string p.v] 9)∧Kp [] w w0∧w0.heap.size=w.heap.size+3:=by
  refine⟨_,rfl,θ _ (θ _ (κ _ _)),θ _ ?_,?_,(((Kp.refl _ _).alloc _).alloc _).alloc _,by simp⟩
  ·have e:=κ (w.alloc (.cells #[.pointer (some ⟨x,0,none⟩)] 32)) (.cells #[.string p.k] 9);simpa using e
  ·have e:=κ ((w.alloc (.cells #[.pointer (some ⟨x,0,none⟩)] 32)).alloc (.cells #[.string p.k] 9)) (.cells #[.string p.v] 9);simpa using e
 rw[←hw0];clear hw0;refine (zG2 E x A n 72 t s r (r.put p) p.k _ #[] #[.pointer (some ⟨w.heap.size+2,0,none⟩),.pointer (some ⟨w.heap.size,0,none⟩),.pointer (some ⟨w.heap.size+1,0,none⟩)] w0 (HL.out.more hKp0) hwr HOK.out.1 HOK.out.2.1 (qY1 _) ?_).mono ?_
 ·intro W hK hd hx hS hV hrr;exact xO9 E (w.heap.size+2) w.heap.size (w.heap.size+1) x A n t s r p W ⟨hK.ho hV0,hK.ho hT0,hK.ho hK0,hx,HL.out.on,hS,HL.out.sV,hV,HL.out.n1,HL.out.bl0,HL.out.bl1,hd,HL.out.vS,hrr,HL.out.good,HL.out.sz⟩ HOK.out HR.out
 ·rintro e w1 ⟨rfl,h',hF⟩;have HF:Hid (FineT E w w1 x t s (r.put p) h'):=hF.from hKp0;clear hF;go_wp2;go_ret;exact⟨rfl,h',HF.out⟩
theorem zM9(E:SEnv)(x A n:Nat)(t:Tx)(s:Sto)(r:Root)(p:KV)(j:Int)(w:World)(hL:LiveT E w x A n t s r)(hj:qP9 t p (decide ((n:Int)-2-s.bl<((r.put p).news:Int)))=some j):
  Calls prog 34 #[.pointer (some ⟨x,0,none⟩),.string p.k,.string p.v] w fun e w'=>∃ v,e=.returned v∧qB4 w' v (some j)∧BadT E w w' t s:=by
 have HL:=zh hL;have HJ:=zh hj;have hxs:=ζ hL.hx;have hSs:=ζ hL.hSt;clear hL hj;have hmf:=zM;go_enter func34,ntmps34;go_wp2_with fail;obtain⟨w0,hw0,hT0,hK0,hV0,hKp0,hs0⟩:∃ w0,w0=((w.alloc (.cells #[.pointer (some ⟨x,0,none⟩)] 32)).alloc (.cells #[.string p.k] 9)).alloc (.cells #[.string p.v] 9)∧w0.heap[w.heap.size]?=some (.cells #[.pointer (some ⟨x,0,none⟩)] 32)∧w0.heap[w.heap.size+1]?=some (.cells #[.string p.k] 9)∧w0.heap[w.heap.size+2]?=some (.cells #[.string p.v] 9)∧Kp [] w w0∧w0.heap.size=w.heap.size+3:=by
  refine⟨_,rfl,θ _ (θ _ (κ _ _)),θ _ ?_,?_,(((Kp.refl _ _).alloc _).alloc _).alloc _,by simp⟩
  ·have e:=κ (w.alloc (.cells #[.pointer (some ⟨x,0,none⟩)] 32)) (.cells #[.string p.k] 9);simpa using e
  ·have e:=κ ((w.alloc (.cells #[.pointer (some ⟨x,0,none⟩)] 32)).alloc (.cells #[.string p.k] 9)) (.cells #[.string p.v] 9);simpa using e
 rw[←hw0];clear hw0;have hj8:j≠8:=by
  have h:=HJ.out;unfold qP9 at h
  repeat' split at h
  all_goals first | (cases h;decide) | cases h
 refine (zG1 E j hj8 x A n 72 t s r p.k _ #[] #[.pointer (some ⟨w.heap.size+2,0,none⟩),.pointer (some ⟨w.heap.size,0,none⟩),.pointer (some ⟨w.heap.size+1,0,none⟩)] w0 (HL.out.more hKp0) ?_).mono ?_
 ·intro W Tc Kc Wc hK hd hx hS hTc hKc hWc;have h:=HJ.out;unfold qP9 at h;by_cases hwr:t.wrt=false
  ·rw[if_pos hwr] at h;cases h;exact (zF9 Tc Kc Wc x t W hTc hx hwr).mono fun e w' ⟨a,b⟩=>⟨a,by rw[b];exact Env.To.of0 hd (Kp.refl _ _)⟩
  ·rw[if_neg hwr] at h;have hwr':t.wrt=true:=by simpa using hwr
   by_cases hk:qE7 p.k=false
   ·rw[if_pos hk] at h;cases h;exact (zF8 Tc Kc Wc x t p.k W hTc hKc hx hwr' (qZ8 hk)).mono fun e w' ⟨a,b⟩=>⟨a,by rw[b];exact Env.To.of0 hd (Kp.refl _ _)⟩
   ·rw[if_neg hk] at h;have hk':=(qO9 p.k).1 (by simpa using hk);by_cases hv:12<p.v.size
    ·rw[if_pos hv] at h;cases h;refine zG0 2 Tc Kc Wc x 72 t p.k #[] _ (fun w1=>E.To W w1) W hTc hKc hWc hx hwr' hk'.1 hk'.2 (qY1 _) ?_;exact (xO8 (w.heap.size+2) w.heap.size (w.heap.size+1) p.v W (hK.ho hV0) hv).mono fun e w' ⟨a,b⟩=>⟨a,by rw[b];exact Env.To.of0 hd (Kp.refl _ _)⟩
    ·rw[if_neg hv] at h;by_cases hr:(n:Int)-2-s.bl<((r.put p).news:Int)
     ·rw[if_pos (by simpa using hr)] at h;cases h;refine zG0 3 Tc Kc Wc x 72 t p.k #[] _ (fun w1=>E.To W w1) W hTc hKc hWc hx hwr' hk'.1 hk'.2 (qY1 _) ?_;have hV:=hK.heap (hKp0.hp HL.out.hV) (by simp;exact fun e=>qA8 HL.out.hV HL.out.hSt (by decide) e);have hrr:=(HL.out.more hKp0).rr.keepT hK (Apt.one (hKp0.hp HL.out.hSt) (by decide));exact xP0 E (w.heap.size+2) w.heap.size (w.heap.size+1) x A n t s r p W ⟨hK.ho hV0,hK.ho hT0,hK.ho hK0,hx,HL.out.on,hS,HL.out.sV,hV,HL.out.n1,HL.out.bl0,HL.out.bl1,hd,HL.out.vS,hrr,HL.out.good,HL.out.sz⟩ ⟨hk'.1,hk'.2,by omega⟩ hr
     ·rw[if_neg (by simpa using hr)] at h;cases h
 ·rintro e w1 ⟨v,rfl,hv,hB⟩;have HB:Hid (qB4 w1 v (some j)∧BadT E w w1 t s):=⟨hv,hB.from hKp0⟩;clear hv hB;go_wp2;go_ret;exact⟨v,rfl,HB.out⟩
theorem zG4(x f:Nat)(t:Tx)(s:Sto)(key call:ByteArray)(first cap:Array Value)(w:World)(hx:w.heap[x]?=some (ψ t))(ho:t.over=true)(hSt:w.heap[t.St]?=some (μ 0 s))(hpo:s.po=false)(hxS:x≠t.St):
  Calls prog 61 #[.pointer (some ⟨x,0,none⟩),.string call,.string key,.func (.func f) first cap] w fun e w'=>∃ v,e=.returned v∧qB4 w' v (some 5)∧w'.heap[t.St]?=some (μ 0 s)∧Kp [t.St] w w':=by
 have hmf:=zM;have hxs:=ζ hx;have HXS:=zh hxS;clear hxS;go_enter func61,ntmps61;go_wp2_with fail;obtain⟨w0,hw0,hKp0⟩:∃ w0,w0=((w.alloc (.cells #[.pointer (some ⟨x,0,none⟩)] 32)).alloc (.cells #[.string key] 9)).alloc (.cells #[.func (.func f) first cap] 1)∧Kp [] w w0:=⟨_,rfl,(((Kp.refl _ _).alloc _).alloc _).alloc _⟩;rw[←hw0];clear hw0;refine (qT6 x t.St 100 t s #[] _ call w0 (hKp0.hp hx) ho rfl (hKp0.hp hSt) hpo HXS.out).mono ?_;rintro e w2 ⟨v,rfl,hv,hSt2,hK2⟩;have HE:Hid (qB4 w2 v (some 5)∧w2.heap[t.St]?=some (μ 0 s)∧Kp [t.St] w w2):=⟨hv,hSt2,(hKp0.mono (by simp)).trans hK2 (fun _ h _=>h)⟩;clear hv hSt2 hK2;go_wp2;go_ret;exact⟨v,rfl,HE.out⟩
theorem xP3(x:Nat)(t:Tx)(s:Sto)(p:KV)(w:World)(hx:w.heap[x]?=some (ψ t))(ho:t.over=true)(hSt:w.heap[t.St]?=some (μ 0 s))(hpo:s.po=false)(hxS:x≠t.St):
  Calls prog 34 #[.pointer (some ⟨x,0,none⟩),.string p.k,.string p.v] w fun e w'=>∃ v,e=.returned v∧qB4 w' v (some 5)∧w'.heap[t.St]?=some (μ 0 s)∧Kp [t.St] w w':=by
 have hxs:=ζ hx;have HXS:=zh hxS;clear hxS;have hmf:=zM;go_enter func34,ntmps34;go_wp2_with fail;obtain⟨w0,hw0,hT0,hK0,hV0,hKp0,hs0⟩:∃ w0,w0=((w.alloc (.cells #[.pointer (some ⟨x,0,none⟩)] 32)).alloc (.cells #[.string p.k] 9)).alloc (.cells #[.string p.v] 9)∧w0.heap[w.heap.size]?=some (.cells #[.pointer (some ⟨x,0,none⟩)] 32)∧w0.heap[w.heap.size+1]?=some (.cells #[.string p.k] 9)∧w0.heap[w.heap.size+2]?=some (.cells #[.string p.v] 9)∧Kp [] w w0∧w0.heap.size=w.heap.size+3:=by
  refine⟨_,rfl,θ _ (θ _ (κ _ _)),θ _ ?_,?_,(((Kp.refl _ _).alloc _).alloc _).alloc _,by simp⟩
  ·have e:=κ (w.alloc (.cells #[.pointer (some ⟨x,0,none⟩)] 32)) (.cells #[.string p.k] 9);simpa using e
  ·have e:=κ ((w.alloc (.cells #[.pointer (some ⟨x,0,none⟩)] 32)).alloc (.cells #[.string p.k] 9)) (.cells #[.string p.v] 9);simpa using e
 rw[←hw0];clear hw0;refine (zG4 x 72 t s p.k _ #[] _ w0 (hKp0.hp hx) ho (hKp0.hp hSt) hpo HXS.out).mono ?_;rintro e w1 ⟨v,rfl,hv,h2,h3⟩;have HE:Hid (qB4 w1 v (some 5)∧w1.heap[t.St]?=some (μ 0 s)∧Kp [t.St] w w1):=⟨hv,h2,(hKp0.mono (by simp)).trans h3 (fun _ h _=>h)⟩;clear hv h2 h3;go_wp2;go_ret;exact⟨v,rfl,HE.out⟩
theorem zZ2(E:SEnv)(Tc Kc x:Nat)(t:Tx)(r:Root)(k:ByteArray)(w:World)(hTc:w.heap[Tc]?=some (.cells #[.pointer (some ⟨x,0,none⟩)] 32))(hKc:w.heap[Kc]?=some (.cells #[.string k] 9))(hx:w.heap[x]?=some (ψ t))(hon:t.on=some ⟨E.V,0,none⟩)(hd:E.Dev w)(hrr:RR E.toEnv w t.h r)(hg:RGood r)(hsz:r.cont.length≤50000):
  Calls prog 62 #[.pointer (some ⟨Tc,0,none⟩),.pointer (some ⟨Kc,0,none⟩)] w fun e w'=>e=qA9 none∧∃ w1 h',E.To w w1∧RR E.toEnv w' h' (r.del k)∧w'.heap[x]?=some (ψ { t with h:=h' })∧Kp [x] w1 w':=by
 have HD:=zh hd;have HRR:=zh hrr;have HG:=zh hg;have hxs:=ζ hx;clear hd hrr hg;go_enter func62,ntmps62;go_wp2_with fail;have hS0:w.heap[Tc]?=some (.cells #[.pointer (some ⟨x,0,none⟩)] 32)∧w.heap[Kc]?=some (.cells #[.string k] 9):=⟨hTc,hKc⟩;refine wp_region_held_drew (S:=fun W=>W.heap[Tc]?=some (.cells #[.pointer (some ⟨x,0,none⟩)] 32)∧W.heap[Kc]?=some (.cells #[.string k] 9)) (by kernel_rfl) hS0 (fun _=>?_);refine zV 0 (.pointer (some ⟨x,0,none⟩)) rfl (fun W hS=>by have c:=ξ hS.1 0;simp at c;clear hS;go_simp) hS0 ?_;refine zV 1 (.pointer (some ⟨x,0,none⟩)) rfl (fun W hS=>by have c:=ξ hS.1 0;simp at c;clear hS;go_simp) hS0 ?_;refine zP 2 x 0 hS0 ?_;refine zP 3 x 4 hS0 ?_;refine zV 5 (.string k) rfl (fun W hS=>by have c:=ξ hS.2 0;simp at c;clear hS;go_simp) hS0 ?_;have a4:=ξ hx 4;have a5:=ξ hx 5;have a6:=ξ hx 6;have a7:=ξ hx 7;have a8:=ξ hx 8;simp only[ψ,zG,zH,zI] at a4 a5 a6 a7 a8;rw[hon] at a4;refine zq 4 fun K hK=>?_;go_simp;clear a4 a5 a6 a7 a8;refine hK.out _ _ hS0 (fun _=>?_);clear hK K
 try simp only[zZ]
 refine zq 6 fun K hK=>?_;go_simp;have hTd:E.To w w.drew:=(Env.To.of0 HD.out (Kp.refl _ _)).tail ((Kp.refl _ _).drew);have hdl:=xT8 E.toEnv r t.h k w.drew hTd.dev (HRR.out.to HD.out hTd) HG.out (by omega);rw[φ] at hdl;refine hdl.mono ?_;clear hdl;rintro e w1 ⟨h',rfl,hr1,hT1⟩;have hT1':=hTd.trans hT1;have hS1:=And.intro (E.stay HD.out hT1' hTc (by decide)) (E.stay HD.out hT1' hKc (by decide));have hx1:=E.stay HD.out hT1' hx (by decide);have hx1s:=ζ hx1;refine hK.out _ _ hS1 (fun _=>?_);clear hK K
 try simp only[zZ]
 refine zP 7 x 0 hS1 ?_;refine zP 8 x 4 hS1 ?_;have a4:=ξ hx1;simp only[ψ,zG,zH,zI] at a4;have f4:=υ hx1;rw[φ];refine zq 9 fun K hK=>?_;go_simp;have hts:=qR9 (.pointer (some ⟨E.V,0,none⟩)) (.string h'.key) (.int .i64 h'.b) (.int .u64 h'.s) (.pointer h'.ptr) hx1;obtain⟨w2,hw2,hx2,hK2⟩:∃ w2,w2=((((w1.setCell ⟨x,4,none⟩ (.pointer (some ⟨E.V,0,none⟩))).setCell ⟨x,5,none⟩ (.string h'.key)).setCell ⟨x,6,none⟩ (.int .i64 h'.b)).setCell ⟨x,7,none⟩ (.int .u64 h'.s)).setCell ⟨x,8,none⟩ (.pointer h'.ptr)∧w2.heap[x]?=some (ψ { t with h:=h' })∧Kp [x] w1 w2:=⟨_,rfl,by rw[hts.1,ψ,hon],hts.2⟩;rw[←hw2];clear hw2 hts a4 f4;have hS2:=And.intro (hK2.heap hS1.1 (by simp;exact qA8 hS1.1 hx1 (by decide))) (hK2.heap hS1.2 (by simp;exact qA8 hS1.2 hx1 (by decide)));refine hK.out _ _ hS2 (fun _=>?_);clear hK K
 try simp only[zZ]
 refine zd ?_;have HF:Hid (E.To w w1∧RR E.toEnv w2 h' (r.del k)∧w2.heap[x]?=some (ψ { t with h:=h' })∧Kp [x] w1 w2):=⟨hT1',hr1.keepT hK2 (Apt.one hx1 (by decide)),hx2,hK2⟩;clear hS2 hS1 hS0 hx2 hx1 hr1 hT1 hT1' hTd hK2;go_wp2
 go_end0
 exact⟨rfl,w1,h',HF.out⟩
theorem zX9(args:Array Value)(W:World):Sem.run prog (callFunc 62 args) W=.ok (.enter 62 args) W:=by
 simp[go_sem,func62]
def qQ5(t:Tx)(k:ByteArray):Option Int:=if t.wrt=false then some 6 else if qE7 k=false then some 1 else none
theorem zZ4(E:SEnv)(x A n:Nat)(t:Tx)(s:Sto)(r:Root)(k:ByteArray)(w:World)(hL:LiveT E w x A n t s r)(hwr:t.wrt=true)(hk:qE7 k=true):
  Calls prog 28 #[.pointer (some ⟨x,0,none⟩),.string k] w fun e w'=>e=.returned .nilIface∧∃ h',FineT E w w' x t s (r.del k) h':=by
 have HL:=zh hL;have HKK:Hid (1≤k.size∧k.size≤8):=(qO9 k).1 hk;have hxs:=ζ hL.hx;have hSs:=ζ hL.hSt;clear hL hk;have hmf:=zM;go_enter func28,ntmps28;go_wp2_with fail;obtain⟨w0,hw0,hT0,hK0,hKp0,hs0⟩:∃ w0,w0=(w.alloc (.cells #[.pointer (some ⟨x,0,none⟩)] 32)).alloc (.cells #[.string k] 9)∧w0.heap[w.heap.size]?=some (.cells #[.pointer (some ⟨x,0,none⟩)] 32)∧w0.heap[w.heap.size+1]?=some (.cells #[.string k] 9)∧Kp [] w w0∧w0.heap.size=w.heap.size+2:=by
  refine⟨_,rfl,θ _ (κ _ _),?_,((Kp.refl _ _).alloc _).alloc _,by simp⟩;have e:=κ (w.alloc (.cells #[.pointer (some ⟨x,0,none⟩)] 32)) (.cells #[.string k] 9);simpa using e
 rw[←hw0];clear hw0;refine (zG2 E x A n 62 t s r (r.del k) k _ #[] #[.pointer (some ⟨w.heap.size,0,none⟩),.pointer (some ⟨w.heap.size+1,0,none⟩)] w0 (HL.out.more hKp0) hwr HKK.out.1 HKK.out.2 (zX9 _) ?_).mono ?_
 ·intro W hK hd hx hS hV hrr;exact zZ2 E w.heap.size (w.heap.size+1) x t r k W (hK.ho hT0) (hK.ho hK0) hx HL.out.on hd hrr HL.out.good HL.out.sz
 ·rintro e w1 ⟨rfl,h',hF⟩;have HF:Hid (FineT E w w1 x t s (r.del k) h'):=hF.from hKp0;clear hF;go_wp2;go_ret;exact⟨rfl,h',HF.out⟩
theorem zZ3(E:SEnv)(x A n:Nat)(t:Tx)(s:Sto)(r:Root)(k:ByteArray)(j:Int)(w:World)(hL:LiveT E w x A n t s r)(hj:qQ5 t k=some j):
  Calls prog 28 #[.pointer (some ⟨x,0,none⟩),.string k] w fun e w'=>∃ v,e=.returned v∧qB4 w' v (some j)∧BadT E w w' t s:=by
 have HL:=zh hL;have HJ:=zh hj;have hxs:=ζ hL.hx;have hSs:=ζ hL.hSt;clear hL hj;have hmf:=zM;go_enter func28,ntmps28;go_wp2_with fail;obtain⟨w0,hw0,hT0,hK0,hKp0,hs0⟩:∃ w0,w0=(w.alloc (.cells #[.pointer (some ⟨x,0,none⟩)] 32)).alloc (.cells #[.string k] 9)∧w0.heap[w.heap.size]?=some (.cells #[.pointer (some ⟨x,0,none⟩)] 32)∧w0.heap[w.heap.size+1]?=some (.cells #[.string k] 9)∧Kp [] w w0∧w0.heap.size=w.heap.size+2:=by
  refine⟨_,rfl,θ _ (κ _ _),?_,((Kp.refl _ _).alloc _).alloc _,by simp⟩;have e:=κ (w.alloc (.cells #[.pointer (some ⟨x,0,none⟩)] 32)) (.cells #[.string k] 9);simpa using e
 rw[←hw0];clear hw0;have hj8:j≠8:=by
  have h:=HJ.out;unfold qQ5 at h
  repeat' split at h
  all_goals first | (cases h;decide) | cases h
 refine (zG1 E j hj8 x A n 62 t s r k _ #[] #[.pointer (some ⟨w.heap.size,0,none⟩),.pointer (some ⟨w.heap.size+1,0,none⟩)] w0 (HL.out.more hKp0) ?_).mono ?_
 ·intro W Tc Kc Wc hK hd hx hS hTc hKc hWc;have h:=HJ.out;unfold qQ5 at h;by_cases hwr:t.wrt=false
  ·rw[if_pos hwr] at h;cases h;exact (zF9 Tc Kc Wc x t W hTc hx hwr).mono fun e w' ⟨a,b⟩=>⟨a,by rw[b];exact Env.To.of0 hd (Kp.refl _ _)⟩
  ·rw[if_neg hwr] at h;have hwr':t.wrt=true:=by simpa using hwr
   by_cases hk:qE7 k=false
   ·rw[if_pos hk] at h;cases h;exact (zF8 Tc Kc Wc x t k W hTc hKc hx hwr' (qZ8 hk)).mono fun e w' ⟨a,b⟩=>⟨a,by rw[b];exact Env.To.of0 hd (Kp.refl _ _)⟩
   ·rw[if_neg hk] at h;cases h
 ·rintro e w1 ⟨v,rfl,hv,hB⟩;have HB:Hid (qB4 w1 v (some j)∧BadT E w w1 t s):=⟨hv,hB.from hKp0⟩;clear hv hB;go_wp2;go_ret;exact⟨v,rfl,HB.out⟩
theorem zZ9(x:Nat)(t:Tx)(s:Sto)(k:ByteArray)(w:World)(hx:w.heap[x]?=some (ψ t))(ho:t.over=true)(hSt:w.heap[t.St]?=some (μ 0 s))(hpo:s.po=false)(hxS:x≠t.St):
  Calls prog 28 #[.pointer (some ⟨x,0,none⟩),.string k] w fun e w'=>∃ v,e=.returned v∧qB4 w' v (some 5)∧w'.heap[t.St]?=some (μ 0 s)∧Kp [t.St] w w':=by
 have hxs:=ζ hx;have HXS:=zh hxS;clear hxS;have hmf:=zM;go_enter func28,ntmps28;go_wp2_with fail;obtain⟨w0,hw0,hT0,hK0,hKp0,hs0⟩:∃ w0,w0=(w.alloc (.cells #[.pointer (some ⟨x,0,none⟩)] 32)).alloc (.cells #[.string k] 9)∧w0.heap[w.heap.size]?=some (.cells #[.pointer (some ⟨x,0,none⟩)] 32)∧w0.heap[w.heap.size+1]?=some (.cells #[.string k] 9)∧Kp [] w w0∧w0.heap.size=w.heap.size+2:=by
  refine⟨_,rfl,θ _ (κ _ _),?_,((Kp.refl _ _).alloc _).alloc _,by simp⟩;have e:=κ (w.alloc (.cells #[.pointer (some ⟨x,0,none⟩)] 32)) (.cells #[.string k] 9);simpa using e
 rw[←hw0];clear hw0;refine (zG4 x 62 t s k _ #[] _ w0 (hKp0.hp hx) ho (hKp0.hp hSt) hpo HXS.out).mono ?_;rintro e w1 ⟨v,rfl,hv,h2,h3⟩;have HE:Hid (qB4 w1 v (some 5)∧w1.heap[t.St]?=some (μ 0 s)∧Kp [t.St] w w1):=⟨hv,h2,(hKp0.mono (by simp)).trans h3 (fun _ h _=>h)⟩;clear hv h2 h3;go_wp2;go_ret;exact⟨v,rfl,HE.out⟩
theorem xG0(Kc Tc Vc Bc:Nat)(k:ByteArray)(w:World)(hKc:w.heap[Kc]?=some (.cells #[.string k] 9))(hk:k.size<1∨8<k.size):
  Calls prog 243 #[.pointer (some ⟨Kc,0,none⟩),.pointer (some ⟨Tc,0,none⟩),.pointer (some ⟨Vc,0,none⟩),.pointer (some ⟨Bc,0,none⟩)] w fun e w'=>e=qA9 (some 1)∧w'=w:=by
 have hks:=ζ hKc;have k0:=ξ hKc 0;simp only[zG,zH,zI] at k0;have HK:=zh hk;clear hk;go_enter func243,ntmps243;go_wp2_with fail;refine (zG5 k _ HK.out).mono ?_;rintro e w1 ⟨rfl,rfl⟩;simp only[qA9];go_wp2;exact⟨rfl,rfl,rfl⟩
theorem xG1(E:SEnv)(Kc Tc Vc Bc x:Nat)(t:Tx)(r:Root)(k:ByteArray)(w:World)(hKc:w.heap[Kc]?=some (.cells #[.string k] 9))(hTc:w.heap[Tc]?=some (.cells #[.pointer (some ⟨x,0,none⟩)] 32))(hVc:w.heap[Vc]?=some (.cells #[.string ⟨#[]⟩] 9))(hBc:w.heap[Bc]?=some (.cells #[.bool false] 4))(hne:Kc≠Vc)
  (hx:w.heap[x]?=some (ψ t)) (hon:t.on=some ⟨E.V,0,none⟩) (hd:E.Dev w) (hrr:RR E.toEnv w t.h r) (hg:RGood r) (hsz:r.cont.length≤50000) (hk:qE7 k=true):
  Calls prog 243 #[.pointer (some ⟨Kc,0,none⟩),.pointer (some ⟨Tc,0,none⟩),.pointer (some ⟨Vc,0,none⟩),.pointer (some ⟨Bc,0,none⟩)] w fun e w'=>e=qA9 none∧w'.heap[Vc]?=some (.cells #[.string (qH2 r.cont k)] 9)∧w'.heap[Bc]?=some (.cells #[.bool (qC8 r.cont k).isSome] 4)∧∃ w1,E.To w w1∧Kp [Vc,Bc] w1 w':=by
 have HD:=zh hd;have HRR:=zh hrr;have HG:=zh hg;have HN:=zh hne;have hk':=(qO9 k).1 hk;have hxs:=ζ hx;have hks:=ζ hKc;have k0:=ξ hKc 0;simp only[zG,zH,zI] at k0;clear hd hrr hg hne hk;go_enter func243,ntmps243;go_wp2_with fail;refine (qY2 k _ hk'.1 hk'.2).mono ?_;rintro e w1 ⟨rfl,rfl⟩;simp only[qA9];clear k0 hk';go_wp2_with fail;have hS0:w1.heap[Tc]?=some (.cells #[.pointer (some ⟨x,0,none⟩)] 32)∧w1.heap[Kc]?=some (.cells #[.string k] 9)∧w1.heap[x]?=some (ψ t):=⟨hTc,hKc,hx⟩;refine wp_region_held_drew (S:=fun W=>W.heap[Tc]?=some (.cells #[.pointer (some ⟨x,0,none⟩)] 32)∧W.heap[Kc]?=some (.cells #[.string k] 9)∧W.heap[x]?=some (ψ t)) (by kernel_rfl) hS0 (fun _=>?_);refine zV 0 (.pointer (some ⟨x,0,none⟩)) rfl (fun W hS=>by have c:=ξ hS.1 0;simp at c;clear hS;go_simp) hS0 ?_;refine zP 1 x 0 hS0 ?_;refine zP 2 x 4 hS0 ?_;refine zV 3 (φ E.V t.h) rfl (fun W hS=>by have a0:=ξ hS.2.2 4;have a1:=ξ hS.2.2 5;have a2:=ξ hS.2.2 6;have a3:=ξ hS.2.2 7;have a4:=ξ hS.2.2 8;simp only[ψ,hon,zG,zH,zI] at a0 a1 a2 a3 a4;clear hS;rw[φ];go_simp) hS0 ?_;refine zV 4 (.string k) rfl (fun W hS=>by have c:=ξ hS.2.1 0;simp at c;clear hS;go_simp) hS0 ?_;refine zq 5 fun K hK=>?_;go_simp;have hTd:E.To w1 w1.drew:=(Env.To.of0 HD.out (Kp.refl _ _)).tail ((Kp.refl _ _).drew);refine (qR0 E.toEnv r t.h k w1.drew hTd.dev (HRR.out.to HD.out hTd) HG.out (by omega)).mono ?_;rintro e w2 ⟨rfl,hT2⟩;have hT2':=hTd.trans hT2;have hS2:=And.intro (E.stay HD.out hT2' hTc (by decide)) (And.intro (E.stay HD.out hT2' hKc (by decide)) (E.stay HD.out hT2' hx (by decide)));have hV2:=E.stay HD.out hT2' hVc (by decide);have hB2:=E.stay HD.out hT2' hBc (by decide);refine hK.out _ _ hS2 (fun _=>?_);clear hK K
 try simp only[zZ]
 obtain⟨gv,hgv⟩:∃ gv,qH2 r.cont k=gv:=⟨_,rfl⟩;obtain⟨gb,hgb⟩:∃ gb,(qC8 r.cont k).isSome=gb:=⟨_,rfl⟩;rw[hgv,hgb];have HGV:Hid (qH2 r.cont k=gv∧(qC8 r.cont k).isSome=gb):=⟨hgv,hgb⟩;clear hgv hgb;refine zU 6 (.tuple #[.string gv,.bool gb]) hS2 ?_;refine zU 7 (.string gv) hS2 ?_;refine zU 8 (.bool gb) hS2 ?_;have hV2s:=ζ hV2;have v0:=ξ hV2 0;simp only[zG,zH,zI] at v0;have fv0:=υ hV2 0;refine zq 9 fun K hK=>?_;go_simp;obtain⟨w3,hw3,hV3,hK3⟩:∃ w3,w3=w2.setCell ⟨Vc,0,none⟩ (.string gv)∧w3.heap[Vc]?=some (.cells #[.string gv] 9)∧Kp [Vc] w2 w3:=⟨_,rfl,ν hV2 0 _,(Kp.refl _ _).sc _⟩;rw[←hw3];clear hw3 v0 fv0;have hS3:=And.intro (hK3.heap hS2.1 (by simp;exact qA8 hS2.1 hV2 (by decide))) (And.intro (hK3.heap hS2.2.1 (by simp;exact HN.out)) (hK3.heap hS2.2.2 (by simp;exact qA8 hS2.2.2 hV2 (by decide))));have hB3:=hK3.heap hB2 (by simp;exact qA8 hB2 hV2 (by decide));have hBV:Vc≠Bc:=qA8 hV2 hB2 (by decide);have HBV:=zh hBV;clear hBV;refine hK.out _ _ hS3 (fun _=>?_);clear hK K
 try simp only[zZ]
 have hB3s:=ζ hB3;have b0:=ξ hB3 0;simp only[zG,zH,zI] at b0;have fb0:=υ hB3 0;refine zq 10 fun K hK=>?_;go_simp;obtain⟨w4,hw4,hB4,hK4⟩:∃ w4,w4=w3.setCell ⟨Bc,0,none⟩ (.bool gb)∧w4.heap[Bc]?=some (.cells #[.bool gb] 4)∧Kp [Bc] w3 w4:=⟨_,rfl,ν hB3 0 _,(Kp.refl _ _).sc _⟩;rw[←hw4];clear hw4 b0 fb0;have hS4:=And.intro (hK4.heap hS3.1 (by simp;exact qA8 hS3.1 hB3 (by decide))) (And.intro (hK4.heap hS3.2.1 (by simp;exact qA8 hS3.2.1 hB3 (by decide))) (hK4.heap hS3.2.2 (by simp;exact qA8 hS3.2.2 hB3 (by decide))));refine hK.out _ _ hS4 (fun _=>?_);clear hK K
 try simp only[zZ]
 refine zd ?_;have HF:Hid (w4.heap[Vc]?=some (.cells #[.string (qH2 r.cont k)] 9)∧w4.heap[Bc]?=some (.cells #[.bool (qC8 r.cont k).isSome] 4)∧∃ w0,E.To w1 w0∧Kp [Vc,Bc] w0 w4):=by
  refine⟨?_,?_,w2,hT2',(hK3.mono (S':=[Vc,Bc]) (by simp +contextual)).trans hK4 (by simp +contextual)⟩
  ·rw[HGV.out.1];exact hK4.heap hV3 (by simp;exact HBV.out)
  ·rw[HGV.out.2];exact hB4
 clear hS4 hS3 hS2 hS0 hV3 hV2 hB4 hB3 hB2 hK3 hK4 hT2 hT2' hTd;go_wp2
 go_end0
 exact⟨rfl,HF.out⟩
theorem zF7(args:Array Value)(W:World):Sem.run prog (callFunc 243 args) W=.ok (.enter 243 args) W:=by
 simp[go_sem,func243]
theorem xU0(E:SEnv)(x A n:Nat)(t:Tx)(s:Sto)(r:Root)(k:ByteArray)(w:World)(hL:LiveT E w x A n t s r)(hk:qE7 k=true):
  Calls prog 197 #[.pointer (some ⟨x,0,none⟩),.string k] w fun e w'=>e=.returned (.tuple #[.string (qH2 r.cont k),.bool (qC8 r.cont k).isSome,.nilIface])∧BadT E w w' t s:=by
 have HL:=zh hL;have HKK:=zh hk;have hxs:=ζ hL.hx;have hSs:=ζ hL.hSt;clear hL hk;have hmf:=zM;go_enter func197,ntmps197;go_wp2_with fail;obtain⟨w0,hw0,hT0,hK0,hV0,hB0,hKp0,hs0⟩:∃ w0,w0=(((w.alloc (.cells #[.pointer (some ⟨x,0,none⟩)] 32)).alloc (.cells #[.string k] 9)).alloc (.cells #[.string ⟨#[]⟩] 9)).alloc (.cells #[.bool false] 4)∧w0.heap[w.heap.size]?=some (.cells #[.pointer (some ⟨x,0,none⟩)] 32)∧w0.heap[w.heap.size+1]?=some (.cells #[.string k] 9)∧w0.heap[w.heap.size+1+1]?=some (.cells #[.string ⟨#[]⟩] 9)∧w0.heap[w.heap.size+1+1+1]?=some (.cells #[.bool false] 4)∧Kp [] w w0∧w0.heap.size=w.heap.size+4:=by
  refine⟨_,rfl,θ _ (θ _ (θ _ (κ _ _))),θ _ (θ _ ?_),θ _ ?_,?_,((((Kp.refl _ _).alloc _).alloc _).alloc _).alloc _,by simp⟩
  ·have e:=κ (w.alloc (.cells #[.pointer (some ⟨x,0,none⟩)] 32)) (.cells #[.string k] 9);simpa using e
  ·have e:=κ ((w.alloc (.cells #[.pointer (some ⟨x,0,none⟩)] 32)).alloc (.cells #[.string k] 9)) (.cells #[.string ⟨#[]⟩] 9);simpa using e
  ·have e:=κ (((w.alloc (.cells #[.pointer (some ⟨x,0,none⟩)] 32)).alloc (.cells #[.string k] 9)).alloc (.cells #[.string ⟨#[]⟩] 9)) (.cells #[.bool false] 4);simpa using e
 rw[←hw0];clear hw0;have hL0:=HL.out.more hKp0;refine (qO7 none (by decide) x t.St 243 t s s #[] #[.pointer (some ⟨w.heap.size+1,0,none⟩),.pointer (some ⟨w.heap.size,0,none⟩),.pointer (some ⟨w.heap.size+1+1,0,none⟩),.pointer (some ⟨w.heap.size+1+1+1,0,none⟩)] _ ((w.heap.size+1+1)::(w.heap.size+1+1+1)::E.S) (fun W w1=>E.Dev w1∧w1.heap[t.St]?=some (μ 1 s)∧w1.heap[w.heap.size+1+1]?=some (.cells #[.string (qH2 r.cont k)] 9)∧w1.heap[w.heap.size+1+1+1]?=some (.cells #[.bool (qC8 r.cont k).isSome] 4)) w0 hL0.hx hL0.over rfl hL0.hSt hL0.po hL0.xS (zF7 _) (fun i hi=>by
  simp only[List.mem_cons] at hi;rcases hi with h|h|h
  ·omega
  ·omega
  ·exact E.low w0 hL0.dev i h) ?_).mono ?_
 ·intro W hK hS;have hd:=hL0.devS hK;have hV:=hK.ho hV0;have hB:=hK.ho hB0;refine (xG1 E (w.heap.size+1) w.heap.size (w.heap.size+1+1) (w.heap.size+1+1+1) x t r k W (hK.ho hK0) (hK.ho hT0) hV hB (by omega) (hK.heap hL0.hx (by simp;exact hL0.xS)) hL0.on hd (hL0.rr.keepT hK (Apt.one hL0.hSt (by decide))) hL0.good hL0.sz HKK.out).mono ?_;rintro e w2 ⟨rfl,ha,hb,w1,hT1,hK1⟩;have hS2:w2.heap[t.St]?=some (μ 1 s):=hK1.heap (E.stay hd hT1 hS (by decide)) (by simp;omega);have hoff:OffD w1 [w.heap.size+1+1,w.heap.size+1+1+1]:=(OffD.one (E.stay hd hT1 hV (by decide)) (by decide)).cons (OffD.one (E.stay hd hT1 hB (by decide)) (by decide));exact⟨rfl,⟨E.keepX w1 w2 _ hT1.dev hK1 hoff,hS2,ha,hb⟩,(hT1.kp.mono (S':=t.St::(w.heap.size+1+1)::(w.heap.size+1+1+1)::E.S) (by simp +contextual)).trans hK1 (by intro i hi _;simp at hi ⊢;omega),hS2⟩
 rintro e w2 ⟨v,rfl,hv,hSt2,hK2,W,w1,Bb,⟨hd1,hS1,hV1,hB1⟩,hKW,hb1,hb2,hb3,hKB⟩;have hv':v=.nilIface:=hv;subst hv';have hne1:t.St<w.heap.size:=hSs;have hVe:=hKB.ho hV1;have hBe:=hKB.ho hB1;have HB:Hid (BadT E w w2 t s):=⟨E.keepX w1 w2 _ hd1 hKB (qP6 hS1 hb3),hSt2,(hKp0.mono (S':=t.St::E.S) (by simp)).trans hK2 (by intro i hi hlt;simp at hi ⊢;rcases hi with h | h | h | h;simp[h];omega;omega;simp[h])⟩;clear hv hSt2 hK2 hd1 hS1 hV1 hB1 hKW hb3 hKB hL0 hT0 hK0 hV0 hB0 hKp0;obtain⟨gv,hgv⟩:∃ gv,qH2 r.cont k=gv:=⟨_,rfl⟩;obtain⟨gb,hgb⟩:∃ gb,(qC8 r.cont k).isSome=gb:=⟨_,rfl⟩;rw[hgv] at hVe;rw[hgb] at hBe;have HGV:Hid (qH2 r.cont k=gv∧(qC8 r.cont k).isSome=gb):=⟨hgv,hgb⟩;clear hgv hgb;have hVs:=ζ hVe;have hBs:=ζ hBe;have v0:=ξ hVe 0;simp only[zG,zH,zI] at v0;have b0:=ξ hBe 0;simp only[zG,zH,zI] at b0;clear hVe hBe;go_wp2_with fail
 go_quiet (fail)
 go_wp2;refine bodyPost_ret (v:=.tuple #[.string gv,.bool gb,.nilIface]) (by simp[results,results197,go_sem]) rfl ?_;exact⟨by rw[HGV.out.1,HGV.out.2],{ HB.out with dev:=E.keepX _ _ [] HB.out.dev ((Kp.refl [] _).drewN _) (fun k hk=>by simp at hk),kp:=HB.out.kp.drewN _ }⟩
theorem xU1(E:SEnv)(x A n:Nat)(t:Tx)(s:Sto)(r:Root)(k:ByteArray)(w:World)(hL:LiveT E w x A n t s r)(hk:qE7 k=false):
  Calls prog 197 #[.pointer (some ⟨x,0,none⟩),.string k] w fun e w'=>∃ v,e=.returned (.tuple #[.string ⟨#[]⟩,.bool false,v])∧qB4 w' v (some 1)∧BadT E w w' t s:=by
 have HL:=zh hL;have HKK:=zh hk;have hxs:=ζ hL.hx;have hSs:=ζ hL.hSt;clear hL hk;have hmf:=zM;go_enter func197,ntmps197;go_wp2_with fail;obtain⟨w0,hw0,hT0,hK0,hV0,hB0,hKp0,hs0⟩:∃ w0,w0=(((w.alloc (.cells #[.pointer (some ⟨x,0,none⟩)] 32)).alloc (.cells #[.string k] 9)).alloc (.cells #[.string ⟨#[]⟩] 9)).alloc (.cells #[.bool false] 4)∧w0.heap[w.heap.size]?=some (.cells #[.pointer (some ⟨x,0,none⟩)] 32)∧w0.heap[w.heap.size+1]?=some (.cells #[.string k] 9)∧w0.heap[w.heap.size+1+1]?=some (.cells #[.string ⟨#[]⟩] 9)∧w0.heap[w.heap.size+1+1+1]?=some (.cells #[.bool false] 4)∧Kp [] w w0∧w0.heap.size=w.heap.size+4:=by
  refine⟨_,rfl,θ _ (θ _ (θ _ (κ _ _))),θ _ (θ _ ?_),θ _ ?_,?_,((((Kp.refl _ _).alloc _).alloc _).alloc _).alloc _,by simp⟩
  ·have e:=κ (w.alloc (.cells #[.pointer (some ⟨x,0,none⟩)] 32)) (.cells #[.string k] 9);simpa using e
  ·have e:=κ ((w.alloc (.cells #[.pointer (some ⟨x,0,none⟩)] 32)).alloc (.cells #[.string k] 9)) (.cells #[.string ⟨#[]⟩] 9);simpa using e
  ·have e:=κ (((w.alloc (.cells #[.pointer (some ⟨x,0,none⟩)] 32)).alloc (.cells #[.string k] 9)).alloc (.cells #[.string ⟨#[]⟩] 9)) (.cells #[.bool false] 4);simpa using e
 rw[←hw0];clear hw0;have hL0:=HL.out.more hKp0;refine (qO7 (some 1) (by decide) x t.St 243 t s s #[] #[.pointer (some ⟨w.heap.size+1,0,none⟩),.pointer (some ⟨w.heap.size,0,none⟩),.pointer (some ⟨w.heap.size+1+1,0,none⟩),.pointer (some ⟨w.heap.size+1+1+1,0,none⟩)] _ [] (fun W w1=>E.Dev w1∧w1.heap[t.St]?=some (μ 1 s)) w0 hL0.hx hL0.over rfl hL0.hSt hL0.po hL0.xS (zF7 _) (by simp) ?_).mono ?_
 ·intro W hK hS;refine (xG0 (w.heap.size+1) w.heap.size (w.heap.size+1+1) (w.heap.size+1+1+1) k W (hK.ho hK0) (qZ8 HKK.out)).mono ?_;rintro e w1 ⟨rfl,rfl⟩;exact⟨rfl,⟨hL0.devS hK,hS⟩,Kp.refl _ _,hS⟩
 rintro e w2 ⟨v,rfl,hv,hSt2,hK2,W,w1,Bb,⟨hd1,hS1⟩,hKW,hb1,hb2,hb3,hKB⟩;have hVe:=hK2.ho hV0;have hBe:=hK2.ho hB0;have HB:Hid (qB4 w2 v (some 1)∧BadT E w w2 t s):=⟨hv,E.keepX w1 w2 _ hd1 hKB (qP6 hS1 hb3),hSt2,(hKp0.mono (S':=t.St::E.S) (by simp)).trans hK2 (by intro i hi hlt;simp at hi ⊢;simp[hi])⟩;clear hv hSt2 hK2 hd1 hS1 hKW hb3 hKB hL0 hT0 hK0 hV0 hB0 hKp0;have hVs:=ζ hVe;have hBs:=ζ hBe;have v0:=ξ hVe 0;simp only[zG,zH,zI] at v0;have b0:=ξ hBe 0;simp only[zG,zH,zI] at b0;clear hVe hBe;go_wp2_with fail
 go_quiet (fail)
 go_wp2;refine bodyPost_ret (v:=.tuple #[.string ⟨#[]⟩,.bool false,v]) (by simp[results,results197,go_sem]) rfl ?_;exact⟨v,rfl,HB.out.1,{ HB.out.2 with dev:=E.keepX _ _ [] HB.out.2.dev ((Kp.refl [] _).drewN _) (fun k hk=>by simp at hk),kp:=HB.out.2.kp.drewN _ }⟩
theorem xU2(x:Nat)(t:Tx)(s:Sto)(k:ByteArray)(w:World)(hx:w.heap[x]?=some (ψ t))(ho:t.over=true)(hSt:w.heap[t.St]?=some (μ 0 s))(hpo:s.po=false)(hxS:x≠t.St):
  Calls prog 197 #[.pointer (some ⟨x,0,none⟩),.string k] w fun e w'=>∃ v,e=.returned (.tuple #[.string ⟨#[]⟩,.bool false,v])∧qB4 w' v (some 5)∧w'.heap[t.St]?=some (μ 0 s)∧Kp [t.St] w w':=by
 have hxs:=ζ hx;have hSs:=ζ hSt;have HXS:=zh hxS;clear hxS;have hmf:=zM;go_enter func197,ntmps197;go_wp2_with fail;obtain⟨w0,hw0,hT0,hK0,hV0,hB0,hKp0,hs0⟩:∃ w0,w0=(((w.alloc (.cells #[.pointer (some ⟨x,0,none⟩)] 32)).alloc (.cells #[.string k] 9)).alloc (.cells #[.string ⟨#[]⟩] 9)).alloc (.cells #[.bool false] 4)∧w0.heap[w.heap.size]?=some (.cells #[.pointer (some ⟨x,0,none⟩)] 32)∧w0.heap[w.heap.size+1]?=some (.cells #[.string k] 9)∧w0.heap[w.heap.size+1+1]?=some (.cells #[.string ⟨#[]⟩] 9)∧w0.heap[w.heap.size+1+1+1]?=some (.cells #[.bool false] 4)∧Kp [] w w0∧w0.heap.size=w.heap.size+4:=by
  refine⟨_,rfl,θ _ (θ _ (θ _ (κ _ _))),θ _ (θ _ ?_),θ _ ?_,?_,((((Kp.refl _ _).alloc _).alloc _).alloc _).alloc _,by simp⟩
  ·have e:=κ (w.alloc (.cells #[.pointer (some ⟨x,0,none⟩)] 32)) (.cells #[.string k] 9);simpa using e
  ·have e:=κ ((w.alloc (.cells #[.pointer (some ⟨x,0,none⟩)] 32)).alloc (.cells #[.string k] 9)) (.cells #[.string ⟨#[]⟩] 9);simpa using e
  ·have e:=κ (((w.alloc (.cells #[.pointer (some ⟨x,0,none⟩)] 32)).alloc (.cells #[.string k] 9)).alloc (.cells #[.string ⟨#[]⟩] 9)) (.cells #[.bool false] 4);simpa using e
 rw[←hw0];clear hw0;refine (qT6 x t.St 243 t s #[] _ _ w0 (hKp0.hp hx) ho rfl (hKp0.hp hSt) hpo HXS.out).mono ?_;rintro e w2 ⟨v,rfl,hv,hSt2,hK2⟩;have hVe:=hK2.ho hV0;have hBe:=hK2.ho hB0;have HB:Hid (qB4 w2 v (some 5)∧w2.heap[t.St]?=some (μ 0 s)∧Kp [t.St] w w2):=⟨hv,hSt2,(hKp0.mono (by simp)).trans hK2 (fun _ h _=>h)⟩;clear hv hSt2 hK2 hT0 hK0 hV0 hB0 hKp0;have hVs:=ζ hVe;have hBs:=ζ hBe;have v0:=ξ hVe 0;simp only[zG,zH,zI] at v0;have b0:=ξ hBe 0;simp only[zG,zH,zI] at b0;clear hVe hBe;go_wp2_with fail
 go_quiet (fail)
 go_wp2;refine bodyPost_ret (v:=.tuple #[.string ⟨#[]⟩,.bool false,v]) (by simp[results,results197,go_sem]) rfl ?_;exact⟨v,rfl,HB.out.1,HB.out.2.1,HB.out.2.2.drewN _⟩
def qI9(on:Option Addr)(h:HL):Obj:=.cells #[.pointer on,.string h.key,.int .i64 h.b,.int .u64 h.s,.pointer h.ptr] 89
def pkv:Option KV→KV
 | none=>⟨⟨#[]⟩,⟨#[]⟩⟩
 | some p=>p
theorem xF3(o:Option KV):qD2 o=.tuple #[.agg #[.string (pkv o).k,.string (pkv o).v],.bool o.isSome]:=by
 cases o<;>rfl
theorem zR5(B Sx x:Nat)(t:Tx)(w:World)(hB:w.heap[B]?=some (.cells #[.pointer (some ⟨x,0,none⟩)] 32))(hS:w.heap[Sx]?=some (qI9 none ⟨⟨#[]⟩,0,0,none⟩))(hx:w.heap[x]?=some (ψ t)):
  Calls prog 177 #[.pointer (some ⟨B,0,none⟩),.pointer (some ⟨Sx,0,none⟩)] w fun e w'=>e=qA9 none∧w'.heap[Sx]?=some (qI9 t.on t.h)∧Kp [Sx] w w':=by
 have hBs:=ζ hB;have hxs:=ζ hx;have hSs:=ζ hS;have b0:=ξ hB 0;simp only[zG,zH,zI] at b0;have p4:=ξ hx;simp only[ψ,zG,zH,zI] at p4;have s0:=ξ hS 0;have s1:=ξ hS 1;have s2:=ξ hS 2;have s3:=ξ hS 3;have s4:=ξ hS 4;simp only[qI9,zG,zH,zI] at s0 s1 s2 s3 s4;have q0:=υ hS;have HS:=zh hS;clear hS hx hB;go_enter func177,ntmps177;go_wp2
 go_end0
 exact⟨rfl,ν (ν (ν (ν (ν HS.out 0 _) 1 _) 2 _) 3 _) 4 _,(((((Kp.refl [Sx] w).sc _).sc _).sc _).sc _).sc _⟩
theorem zR6(Lc:Nat)(lo k:ByteArray)(w:World)(hL:w.heap[Lc]?=some (.cells #[.string lo] 9)):
  Calls prog 178 #[.string k,.pointer (some ⟨Lc,0,none⟩)] w fun e w'=>e=.returned (.bool !kl k lo)∧Kp [] w w':=by
 have hs:=ζ hL;have l0:=ξ hL 0;simp only[zG,zH,zI] at l0;go_enter func178,ntmps178;go_wp2;go_ret;exact⟨rfl,Kp.refl _ _⟩
theorem xJ7(a b:ByteArray):(!Op.bytesLess a.toList b.toList && !(a.toList == b.toList))=kl b a:=by rw[←Bool.not_or,zJ5];simp
theorem zR8(Px:Nat)(p k v:ByteArray)(w:World)(hP:w.heap[Px]?=some (.cells #[.string p,.string v] 42)):
  Calls prog 180 #[.string k,.pointer (some ⟨Px,0,none⟩)] w fun e w'=>e=.returned (.bool (kl p k))∧Kp [] w w':=by
 have hs:=ζ hP;have l0:=ξ hP 0;simp only[zG,zH,zI] at l0;go_enter func180,ntmps180;go_wp2;go_ret;exact⟨by rw[←xJ7];rfl,Kp.refl _ _⟩
theorem zR7(E:SEnv)(Sx Nx Px Tx g:Nat)(cap:Array Value)(f:ByteArray→Bool)(h:HL)(r:Root)(w:World)(hS:w.heap[Sx]?=some (qI9 (some ⟨E.V,0,none⟩) h))(hN:w.heap[Nx]?=some (.cells #[.func (.func g) #[] cap] 92))
  (hP:w.heap[Px]?=some (.cells #[.string ⟨#[]⟩,.string ⟨#[]⟩] 42)) (hT:w.heap[Tx]?=some (.cells #[.bool false] 4)) (hd:E.Dev w) (hrr:RR E.toEnv w h r) (hg:RGood r) (hup:Up f) (ha:Asks E.toEnv w g cap f)
  (hcf:∀ (args:Array Value) (W:World),Sem.run prog (callFunc g args) W=.ok (.enter g args) W):
  Calls prog 179 #[.pointer (some ⟨Sx,0,none⟩),.pointer (some ⟨Nx,0,none⟩),.pointer (some ⟨Px,0,none⟩),.pointer (some ⟨Tx,0,none⟩)] w fun e w'=>e=qA9 none∧w'.heap[Px]?=some (.cells #[.string (pkv (r.cont.find? fun q=>f q.k)).k,.string (pkv (r.cont.find? fun q=>f q.k)).v] 42)∧w'.heap[Tx]?=some (.cells #[.bool (r.cont.find? fun q=>f q.k).isSome] 4)∧∃ w1,E.To w w1∧Kp [Px,Tx] w1 w':=by
 have hSs:=ζ hS;have hNs:=ζ hN;have s0:=ξ hS 0;have s1:=ξ hS 1;have s2:=ξ hS 2;have s3:=ξ hS 3;have s4:=ξ hS 4;simp only[qI9,zG,zH,zI] at s0 s1 s2 s3 s4;have n0:=ξ hN 0;simp only[zG,zH,zI] at n0;have HD:=zh hd;have HF:Hid (Calls prog 49 #[.agg #[.pointer (some ⟨E.V,0,none⟩),.string h.key,.int .i64 h.b,.int .u64 h.s,.pointer h.ptr],.func (.func g) #[] cap] w fun e w'=>e=.returned (qD2 (r.cont.find? fun q=>f q.k))∧E.To w w'):=xT9 E.toEnv r h g cap f w hd hrr hg hup ha hcf;have HP:=zh hP;have HT:=zh hT;clear hd hrr hg hup ha hS hN hP hT;go_enter func179,ntmps179;go_wp2_with fail;refine (show Calls _ _ _ _ _ from HF.out).mono ?_;rintro e w1 ⟨rfl,hT1⟩;rw[xF3];obtain⟨o,ho⟩:∃ o,(r.cont.find? fun q=>f q.k)=o:=⟨_,rfl⟩;rw[ho];obtain⟨fk,fv,fb,hfv⟩:∃ fk fv fb,(pkv o).k=fk∧(pkv o).v=fv∧o.isSome=fb:=⟨_,_,_,rfl,rfl,rfl⟩;have HV:Hid ((r.cont.find? fun q=>f q.k)=o∧(pkv o).k=fk∧(pkv o).v=fv∧o.isSome=fb):=⟨ho,hfv⟩;rw[hfv.1,hfv.2.1,hfv.2.2];clear ho hfv s0 s1 s2 s3 s4 n0;have hP1:=E.stay HD.out hT1 HP.out (by decide);have hTx1:=E.stay HD.out hT1 HT.out (by decide);have hPs:=ζ hP1;have hTs:=ζ hTx1;have HTP:Hid (Tx≠Px):=qA8 hTx1 hP1 (by decide);have hts:=qI6 (.string fk) (.string fv) hP1;have hT2:=hts.2.heap hTx1 (by simp;exact HTP.out);have p0:=ξ hP1;have fp0:=υ hP1;have t0:=ξ hT2 0;simp only[zG,zH,zI] at t0;have ft0:=υ hT2 0;have HE:Hid (E.To w w1∧((w1.setCell ⟨Px,0,none⟩ (.string fk)).setCell ⟨Px,1,none⟩ (.string fv)).heap[Px]?=some (.cells #[.string fk,.string fv] 42)∧((w1.setCell ⟨Px,0,none⟩ (.string fk)).setCell ⟨Px,1,none⟩ (.string fv)).heap[Tx]?=some (.cells #[.bool false] 4)∧Kp [Px] w1 ((w1.setCell ⟨Px,0,none⟩ (.string fk)).setCell ⟨Px,1,none⟩ (.string fv))):=⟨hT1,hts.1,hT2,hts.2⟩;clear hT1 hts hT2 hP1 hTx1;go_wp2
 go_end0
 refine⟨rfl,?_,?_,w1,HE.out.1,(HE.out.2.2.2.mono (S':=[Px,Tx]) (by simp +contextual)).sc _⟩
 ·rw[HV.out.1,HV.out.2.1,HV.out.2.2.1];exact (qA0 (fun e=>HTP.out e.symm) _ _).trans HE.out.2.1
 ·rw[HV.out.1,HV.out.2.2.2];exact ν HE.out.2.2.1 0 _
theorem zX4(args:Array Value)(W:World):Sem.run prog (callFunc 177 args) W=.ok (.enter 177 args) W:=by
 simp[go_sem,func177]
theorem zX5(args:Array Value)(W:World):Sem.run prog (callFunc 178 args) W=.ok (.enter 178 args) W:=by
 simp[go_sem,func178]
theorem zX6(args:Array Value)(W:World):Sem.run prog (callFunc 179 args) W=.ok (.enter 179 args) W:=by
 simp[go_sem,func179]
theorem zX7(args:Array Value)(W:World):Sem.run prog (callFunc 180 args) W=.ok (.enter 180 args) W:=by
 simp[go_sem,func180]
theorem zF6(args:Array Value)(W:World):Sem.run prog (callFunc 176 args) W=.ok (.enter 176 args) W:=by
 simp[go_sem,func176]
theorem qS4(x:Nat)(lo hi:ByteArray)(w:World):
  Calls prog 116 #[.pointer (some ⟨x,0,none⟩),.string lo,.string hi] w fun e w'=>e=.returned (.func (.func 176) #[] #[.pointer (some ⟨w.heap.size,0,none⟩),.pointer (some ⟨w.heap.size+1,0,none⟩),.pointer (some ⟨w.heap.size+2,0,none⟩)])∧
   w'.heap[w.heap.size]?=some (.cells #[.pointer (some ⟨x,0,none⟩)] 32)∧w'.heap[w.heap.size+1]?=some (.cells #[.string lo] 9)∧w'.heap[w.heap.size+2]?=some (.cells #[.string hi] 9)∧Kp [] w w':=by
 have hmf:=zM;go_enter func116,ntmps116;go_wp2;go_ret;refine⟨rfl,θ _ (θ _ (κ _ _)),θ _ ?_,?_,(((Kp.refl _ _).alloc _).alloc _).alloc _⟩
 ·have e:=κ (w.alloc (.cells #[.pointer (some ⟨x,0,none⟩)] 32)) (.cells #[.string lo] 9);simpa using e
 ·have e:=κ ((w.alloc (.cells #[.pointer (some ⟨x,0,none⟩)] 32)).alloc (.cells #[.string lo] 9)) (.cells #[.string hi] 9);simpa using e
end Go.Proofs.YtdohpenfkdckiaaGreatDoor
namespace Go.Proofs.YtdohpenfkdckiaaGreatDoor
open Go.Proofs.Tryz
def qB5(l:List KV)(lo:ByteArray):List KV:=l.filter fun q=>!kl q.k lo
theorem qY9{α:Type}(f:α→Bool):∀ l:List α,l.find? f=(l.filter f).head?
 | []=>rfl
 | a::l=>by
  by_cases h:f a=true
  ·rw[List.find?_cons_of_pos h,List.filter_cons_of_pos h,List.head?_cons]
  ·rw[List.find?_cons_of_neg h,List.filter_cons_of_neg h];exact qY9 f l
theorem zI0{l:List KV}(h:Sorted l)(lo:ByteArray):Sorted (qB5 l lo):=h.sublist List.filter_sublist
theorem xF7(l:List KV)(lo:ByteArray):(l.find? fun q=>!kl q.k lo)=(qB5 l lo)[0]?:=by
 rw[qY9,qB5,List.head?_eq_getElem?]
theorem xC1(l:List KV)(lo pk:ByteArray)(hlo:kl pk lo=false):(l.filter fun q=>kl pk q.k)=(qB5 l lo).filter fun q=>kl pk q.k:=by
 unfold qB5;rw[List.filter_filter];refine List.filter_congr fun q hq=>?_;by_cases hk:kl pk q.k=true
 ·have:kl q.k lo=false:=by
   by_cases e:kl q.k lo=true
   ·have:=qK6 hk e;rw[hlo] at this;cases this
   ·simpa using e
  rw[hk,this];rfl
 ·have hk':kl pk q.k=false:=by simpa using hk
  rw[hk'];rfl
theorem xF8{l:List KV}(h:Sorted l)(lo:ByteArray){j:Nat}(hj:j<(qB5 l lo).length):(l.find? fun q=>kl (qB5 l lo)[j].k q.k)=(qB5 l lo)[j+1]?:=by
 rw[qY9,List.head?_eq_getElem?];have hlo:kl (qB5 l lo)[j].k lo=false:=by
  have hm:(qB5 l lo)[j]∈qB5 l lo:=List.getElem_mem hj;have:=(List.mem_filter.1 hm).2;simpa using this
 have e1:=xC1 l lo _ hlo;rw[e1];have hs:=zI0 h lo;generalize qB5 l lo=A at *;have e2:A.filter (fun q=>kl A[j].k q.k)=A.drop (j+1):=by
  have hsplit:A=A.take (j+1)++A.drop (j+1):=(List.take_append_drop _ _).symm;have hp:=List.pairwise_iff_getElem.1 hs;have h1:(A.take (j+1)).filter (fun q=>kl A[j].k q.k)=[]:=by
   rw[List.filter_eq_nil_iff];intro q hq;obtain⟨i,hi,rfl⟩:=List.getElem_of_mem hq;rw[List.getElem_take];simp only[List.length_take] at hi;by_cases e:i=j
   ·subst e;simp[qK5]
   ·have:=qL8 (hp i j (by omega) hj (by omega));simp[this]
  have h2:(A.drop (j+1)).filter (fun q=>kl A[j].k q.k)=A.drop (j+1):=by
   rw[List.filter_eq_self];intro q hq;obtain⟨i,hi,rfl⟩:=List.getElem_of_mem hq;rw[List.getElem_drop];simp only[List.length_drop] at hi;exact hp j (j+1+i) hj (by omega) (by omega)
  calc A.filter (fun q=>kl A[j].k q.k)=(A.take (j+1)++A.drop (j+1)).filter (fun q=>kl A[j].k q.k):=by rw[List.take_append_drop]
   _=A.drop (j+1):=by rw[List.filter_append,h1,h2,List.nil_append]
 rw[e2];simp
theorem zH4(l:List KV)(lo hi:ByteArray):l.filter (inR lo hi)=(qB5 l lo).filter fun q=>kl q.k hi:=by
 rw[qB5,List.filter_filter];refine List.filter_congr fun q _=>?_;rw[inR,Bool.and_comm]
theorem zI1{l:List KV}(h:Sorted l)(lo hi:ByteArray){j:Nat}(hj:j≤(qB5 l lo).length)(ha:∀ q∈(qB5 l lo).take j,kl q.k hi=true)(hb:∀ q,(qB5 l lo)[j]?=some q→kl q.k hi=false):l.filter (inR lo hi)=(qB5 l lo).take j:=by
 rw[zH4];have hs:=zI0 h lo;generalize qB5 l lo=A at *;have h1:(A.take j).filter (fun q=>kl q.k hi)=A.take j:=List.filter_eq_self.2 ha;have h2:(A.drop j).filter (fun q=>kl q.k hi)=[]:=by
  rw[List.filter_eq_nil_iff];intro q hq;obtain⟨i,hi',rfl⟩:=List.getElem_of_mem hq;rw[List.getElem_drop];simp only[List.length_drop] at hi';have hjl:j<A.length:=by omega
  have hb':=hb A[j] (by simp[hjl]);by_cases e:i=0
  ·subst e;simp[hb']
  ·have:=List.pairwise_iff_getElem.1 hs j (j+i) hjl (by omega) (by omega);by_cases e2:kl A[j+i].k hi=true
   ·have:=qK6 this e2;rw[hb'] at this;cases this
   ·simpa using e2
 calc A.filter (fun q=>kl q.k hi)=(A.take j++A.drop j).filter (fun q=>kl q.k hi):=by rw[List.take_append_drop]
  _=A.take j:=by rw[List.filter_append,h1,h2,List.append_nil]
theorem xF9{l:List KV}(h:Sorted l)(lo hi:ByteArray){j:Nat}(hj:j≤(qB5 l lo).length)(ha:∀ q∈(qB5 l lo).take j,kl q.k hi=true):(qB5 l lo).take j <+: l.filter (inR lo hi):=by
 rw[zH4];generalize qB5 l lo=A at *;have h1:(A.take j).filter (fun q=>kl q.k hi)=A.take j:=List.filter_eq_self.2 ha;refine⟨(A.drop j).filter (fun q=>kl q.k hi),?_⟩
 calc A.take j++(A.drop j).filter (fun q=>kl q.k hi)=(A.take j++A.drop j).filter (fun q=>kl q.k hi):=by rw[List.filter_append,h1]
  _=A.filter (fun q=>kl q.k hi):=by rw[List.take_append_drop]
theorem xZ9(lo:ByteArray):Up fun k=>!kl k lo:=fun a b hab ha=>by
 by_cases e:kl b lo=true
 ·have:=qK6 hab e;simp[this] at ha
 ·simpa using e
theorem jA0(p:ByteArray):Up fun k=>kl p k:=fun a b hab ha=>qK6 ha hab
end Go.Proofs.YtdohpenfkdckiaaGreatDoor
namespace Go.Proofs.YtdohpenfkdckiaaGreatDoor
open Go.Proofs.Tryz
open Go.RowKit
attribute [local go_sem] Oper.semAt_some
def YS(W:World)(N:Nat)(S:List Nat):Prop:=∀ k∈S,k<N∧((∃ c t fr,W.heap[k]?=some (.cells c t fr)∧(t=29∨t=42))∨∃ rec,W.heap[k]?=some (.loop rec))
theorem YS.keep{W W':World}{N:Nat}{S:List Nat}(h:YS W N S)(hK:Kp S W W'){k:Nat}{c:Array Value}{t:TypeId}{fr:Nat × Nat}(hk:W.heap[k]?=some (.cells c t fr))(ht:t≠29∧(t≠42∨N≤k)):W'.heap[k]?=some (.cells c t fr):=by
 refine hK.heap hk fun hm=>?_;obtain⟨h1,h2⟩:=h k hm;rcases h2 with⟨c',t',fr',h3,h4⟩|⟨rec,h3⟩
 ·rw[hk] at h3;cases h3;rcases h4 with h4|h4
  ·exact ht.1 h4
  ·rcases ht.2 with h5|h5
   ·exact h5 h4
   ·omega
 ·rw[hk] at h3;cases h3
theorem YS.apt{W:World}{N:Nat}{S:List Nat}(h:YS W N S):Apt W S qF7:=fun k hk c t fr e hm=>by
 obtain⟨h1,h2⟩:=h k hk;rcases h2 with⟨c',t',fr',h3,h4⟩|⟨rec,h3⟩
 ·rw[e] at h3;cases h3;rcases h4 with rfl|rfl<;>revert hm<;>decide
 ·rw[e] at h3;cases h3
structure AllIn(E:SEnv)(x A n:Nat)(t:Tx)(s:Sto)(r:Root)(B Lc Hc:Nat)(lo hi:ByteArray)(w:World):Prop where
 live:LiveT E w x A n t s r
 hB:w.heap[B]?=some (.cells #[.pointer (some ⟨x,0,none⟩)] 32)
 hL:w.heap[Lc]?=some (.cells #[.string lo] 9)
 hH:w.heap[Hc]?=some (.cells #[.string hi] 9)
theorem AllIn.more{E:SEnv}{x A n:Nat}{t:Tx}{s:Sto}{r:Root}{B Lc Hc:Nat}{lo hi:ByteArray}{w w':World}(h:AllIn E x A n t s r B Lc Hc lo hi w)(hK:Kp [] w w'):AllIn E x A n t s r B Lc Hc lo hi w':=
 ⟨h.live.more hK,hK.hp h.hB,hK.hp h.hL,hK.hp h.hH⟩
theorem AllIn.turn{E:SEnv}{x A n:Nat}{t:Tx}{s:Sto}{r:Root}{B Lc Hc:Nat}{lo hi:ByteArray}{w w':World}{L:List Nat}(h:AllIn E x A n t s r B Lc Hc lo hi w)(hK:Kp L w w')(hS:w'.heap[t.St]?=some (μ 0 s))(hd:E.Dev w')
  (hL:∀ k∈L,k=t.St∨k∈E.S∨∃ c u fr,w.heap[k]?=some (.cells c u fr)∧u ∉ [99,32,9,263,213,185,87]):AllIn E x A n t s r B Lc Hc lo hi w':=by
 have hout:∀ k c u fr,w.heap[k]?=some (.cells c u fr)→u∈[99,32,9,213,185,87]→k ∉ L:=fun k c u fr hk hu hm=>by
  rcases hL k hm with h1|h1|⟨c',u',fr',h1,h2⟩
  ·subst h1;rw[h.live.hSt] at hk;cases hk
   revert hu;decide
  ·exact E.nin h.live.dev hk ((show ∀ u∈([99,32,9,213,185,87]:List TypeId),u ∉ qL7 by decide) u hu) h1
  ·rw[hk] at h1;cases h1;exact h2 ((show ∀ u∈([99,32,9,213,185,87]:List TypeId),u∈([99,32,9,263,213,185,87]:List TypeId) by decide) u hu)
 have hV:E.V ∉ L:=fun hm=>by
  rcases hL _ hm with h1|h1|⟨c',u',fr',h1,h2⟩
  ·exact qA8 h.live.hV h.live.hSt (by decide) h1
  ·exact h.live.vS h1
  ·rw[h.live.hV] at h1;cases h1;exact h2 (by decide)
 refine⟨{ h.live with hx:=hK.heap h.live.hx (hout _ _ _ _ h.live.hx (by decide)),hSt:=hS,hV:=hK.heap h.live.hV hV,dev:=hd,rr:=h.live.rr.keepT hK (fun k hk c u fr e hm=>hout k c u fr e ((show ∀ u∈qF7,u∈([99,32,9,213,185,87]:List TypeId) by decide) u hm) hk) },hK.heap h.hB (hout _ _ _ _ h.hB (by decide)),hK.heap h.hL (hout _ _ _ _ h.hL (by decide)),hK.heap h.hH (hout _ _ _ _ h.hH (by decide))⟩
end Go.Proofs.YtdohpenfkdckiaaGreatDoor
namespace Go.Proofs.YtdohpenfkdckiaaGreatDoor
open Go.Proofs.Tryz
open Go.RowKit
attribute [local go_sem] Oper.semAt_some
theorem YS.off{W:World}{N:Nat}{S:List Nat}(h:YS W N S):OffD W S:=fun k hk c t fr e hm=>by
 obtain⟨h1,h2⟩:=h k hk;rcases h2 with⟨c',t',fr',h3,h4⟩|⟨rec,h3⟩
 ·rw[e] at h3;cases h3;rcases h4 with rfl|rfl<;>revert hm<;>decide
 ·rw[e] at h3;cases h3
theorem AllIn.round{E:SEnv}{x A n:Nat}{t:Tx}{s:Sto}{r:Root}{B Lc Hc:Nat}{lo hi:ByteArray}{w w':World}{N:Nat}{SY:List Nat}(h:AllIn E x A n t s r B Lc Hc lo hi w)(hY:YS w N SY)(hK:Kp SY w w'):AllIn E x A n t s r B Lc Hc lo hi w':=by
 have hS:=hY.keep hK h.live.hSt ⟨by decide,.inl (by decide)⟩;refine⟨{ h.live with hx:=hY.keep hK h.live.hx ⟨by decide,.inl (by decide)⟩,hSt:=hS,hV:=hY.keep hK h.live.hV ⟨by decide,.inl (by decide)⟩,dev:=E.keepX w w' SY h.live.dev hK hY.off,rr:=h.live.rr.keepT hK hY.apt },hY.keep hK h.hB ⟨by decide,.inl (by decide)⟩,hY.keep hK h.hL ⟨by decide,.inl (by decide)⟩,hY.keep hK h.hH ⟨by decide,.inl (by decide)⟩⟩
theorem zS2(E:SEnv)(x A n:Nat)(t:Tx)(s:Sto)(r:Root)(B Lc Hc:Nat)(lo hi call:ByteArray)(Sx Nx g:Nat)(cap:Array Value)(f:ByteArray→Bool)(w:World)(hI:AllIn E x A n t s r B Lc Hc lo hi w)(hS:w.heap[Sx]?=some (qI9 (some ⟨E.V,0,none⟩) t.h))(hN:w.heap[Nx]?=some (.cells #[.func (.func g) #[] cap] 92))(Px Tc:Nat)
  (hP:w.heap[Px]?=some (.cells #[.string ⟨#[]⟩,.string ⟨#[]⟩] 42)) (hT:w.heap[Tc]?=some (.cells #[.bool false] 4)) (hup:Up f)
  (ha:∀ W,Kp (t.St::E.S) w W→∀ k,Calls prog g (#[.string k]++cap) W fun e W'=>e=.returned (.bool (f k))∧Kp [] W W')
  (hcf:∀ (args:Array Value) (W:World),Sem.run prog (callFunc g args) W=.ok (.enter g args) W):
  Calls prog 45 #[.pointer (some ⟨x,0,none⟩),.string call,.func (.func 179) #[] #[.pointer (some ⟨Sx,0,none⟩),.pointer (some ⟨Nx,0,none⟩),.pointer (some ⟨Px,0,none⟩),.pointer (some ⟨Tc,0,none⟩)]] w fun e w'=>e=.returned .nilIface∧w'.heap[Px]?=some (.cells #[.string (pkv (r.cont.find? fun q=>f q.k)).k,.string (pkv (r.cont.find? fun q=>f q.k)).v] 42)∧w'.heap[Tc]?=some (.cells #[.bool (r.cont.find? fun q=>f q.k).isSome] 4)∧w'.heap[t.St]?=some (μ 0 s)∧E.Dev w'∧Kp (t.St::Px::Tc::E.S) w w':=by
 have hL:=hI.live;refine (qO7 none (by decide) x t.St 179 t s s #[] _ call (Px::Tc::E.S) (fun W w1=>E.Dev w1∧w1.heap[t.St]?=some (μ 1 s)∧w1.heap[Px]?=some (.cells #[.string (pkv (r.cont.find? fun q=>f q.k)).k,.string (pkv (r.cont.find? fun q=>f q.k)).v] 42)∧w1.heap[Tc]?=some (.cells #[.bool (r.cont.find? fun q=>f q.k).isSome] 4)) w hL.hx hL.over rfl hL.hSt hL.po hL.xS (zX6 _) (fun i hi=>by
  simp only[List.mem_cons] at hi;rcases hi with h|h|h
  ·rw[h];exact ζ hP
  ·rw[h];exact ζ hT
  ·exact E.low w hL.dev i h) ?_).mono ?_
 ·intro W hK hSW;have hd:=hL.devS hK;have hne:∀ {k:Nat} {c:Array Value} {u:TypeId} {fr:Nat × Nat},w.heap[k]?=some (.cells c u fr)→u≠169→k ∉ [t.St]:=fun hk hu hm=>qA8 hk hL.hSt hu (List.mem_singleton.1 hm);have hPW:=hK.heap hP (hne hP (by decide));have hTW:=hK.heap hT (hne hT (by decide));refine (zR7 E Sx Nx Px Tc g cap f t.h r W (hK.heap hS (hne hS (by decide))) (hK.heap hN (hne hN (by decide))) hPW hTW hd (hL.rr.keepT hK (Apt.one hL.hSt (by decide))) hL.good hup (fun W' k hT'=>ha W' ((hK.mono (S':=t.St::E.S) (by simp)).trans hT'.kp (by simp +contextual)) k) hcf).mono ?_;rintro e w2 ⟨rfl,h1,h2,w1,hT1,hK1⟩;have hSt2:w2.heap[t.St]?=some (μ 1 s):=hK1.heap (E.stay hd hT1 hSW (by decide)) (by
   simp only[List.mem_cons,List.not_mem_nil,or_false,not_or];exact⟨qA8 hL.hSt hP (by decide),qA8 hL.hSt hT (by decide)⟩)
  exact⟨rfl,⟨E.keepX w1 w2 _ hT1.dev hK1 ((OffD.one (E.stay hd hT1 hPW (by decide)) (by decide)).cons (OffD.one (E.stay hd hT1 hTW (by decide)) (by decide))),hSt2,h1,h2⟩,(hT1.kp.mono (S':=t.St::Px::Tc::E.S) (by simp +contextual)).trans hK1 (by intro i hi _;simp at hi ⊢;rcases hi with h | h<;>simp[h]),hSt2⟩
 ·rintro e w2 ⟨v,rfl,hv,hSt2,hK2,W,w1,Bb,⟨hd1,hS1,hP1,hT1⟩,hKW,hb1,hb2,hb3,hKB⟩;have hv':v=.nilIface:=hv;subst hv';have hne:∀ {k:Nat} {c:Array Value} {u:TypeId} {fr:Nat × Nat},w1.heap[k]?=some (.cells c u fr)→u≠169→u≠38→k ∉ [t.St,Bb]:=fun hk hu hu2 hm=>by
   simp only[List.mem_cons,List.not_mem_nil,or_false] at hm;rcases hm with h|h
   ·exact qA8 hk hS1 hu h
   ·exact qA8 hk hb3 hu2 h
  exact⟨rfl,hKB.heap hP1 (hne hP1 (by decide) (by decide)),hKB.heap hT1 (hne hT1 (by decide) (by decide)),hSt2,E.keepX w1 w2 _ hd1 hKB (qP6 hS1 hb3),hK2⟩
theorem zS1(E:SEnv)(x A n:Nat)(t:Tx)(s:Sto)(r:Root)(B Lc Hc:Nat)(lo hi call:ByteArray)(Sx:Nat)(w:World)(hI:AllIn E x A n t s r B Lc Hc lo hi w)(hS:w.heap[Sx]?=some (qI9 none ⟨⟨#[]⟩,0,0,none⟩)):
  Calls prog 45 #[.pointer (some ⟨x,0,none⟩),.string call,.func (.func 177) #[] #[.pointer (some ⟨B,0,none⟩),.pointer (some ⟨Sx,0,none⟩)]] w fun e w'=>e=.returned .nilIface∧w'.heap[Sx]?=some (qI9 (some ⟨E.V,0,none⟩) t.h)∧w'.heap[t.St]?=some (μ 0 s)∧E.Dev w'∧Kp [t.St,Sx] w w':=by
 have hL:=hI.live;refine (qO7 none (by decide) x t.St 177 t s s #[] _ call [Sx] (fun W w1=>E.Dev w1∧w1.heap[t.St]?=some (μ 1 s)∧w1.heap[Sx]?=some (qI9 (some ⟨E.V,0,none⟩) t.h)) w hL.hx hL.over rfl hL.hSt hL.po hL.xS (zX4 _) (fun i hi=>by rw[List.mem_singleton.1 hi];exact ζ hS) ?_).mono ?_
 ·intro W hK hSW;have hd:=hL.devS hK;have hne:∀ {k:Nat} {c:Array Value} {u:TypeId} {fr:Nat × Nat},w.heap[k]?=some (.cells c u fr)→u≠169→k ∉ [t.St]:=fun hk hu hm=>qA8 hk hL.hSt hu (List.mem_singleton.1 hm);have hSxW:=hK.heap hS (hne hS (by decide));refine (zR5 B Sx x t W (hK.heap hI.hB (hne hI.hB (by decide))) hSxW (hK.heap hL.hx (hne hL.hx (by decide)))).mono ?_;rintro e w1 ⟨rfl,h1,hK1⟩;have hS1:w1.heap[t.St]?=some (μ 1 s):=hK1.heap hSW (by simp;exact qA8 hSW hSxW (by decide));rw[hL.on] at h1;exact⟨rfl,⟨E.keepX W w1 _ hd hK1 (OffD.one hSxW (by decide)),hS1,h1⟩,hK1.mono (by simp +contextual),hS1⟩
 ·rintro e w2 ⟨v,rfl,hv,hSt2,hK2,W,w1,Bb,⟨hd1,hS1,hP1⟩,hKW,hb1,hb2,hb3,hKB⟩;have hv':v=.nilIface:=hv;subst hv';refine⟨rfl,hKB.heap hP1 ?_,hSt2,E.keepX w1 w2 _ hd1 hKB (qP6 hS1 hb3),hK2⟩;simp only[List.mem_cons,List.not_mem_nil,or_false,not_or];exact⟨qA8 hP1 hS1 (by decide),qA8 hP1 hb3 (by decide)⟩
structure AllSt(E:SEnv)(x A n:Nat)(t:Tx)(s:Sto)(r:Root)(B Lc Hc:Nat)(lo hi:ByteArray)(Sx Nx:Nat)(J:Nat→List KV→World→Prop)(j:Nat)(w:World):Prop where
 inn:AllIn E x A n t s r B Lc Hc lo hi w
 le:j≤(qB5 r.cont lo).length
 ahead:∀ q∈(qB5 r.cont lo).take j,kl q.k hi=true
 hS:w.heap[Sx]?=some (qI9 (some ⟨E.V,0,none⟩) t.h)
 hN:(j=0∧w.heap[Nx]?=some (.cells #[.func (.func 178) #[] #[.pointer (some ⟨Lc,0,none⟩)]] 92))∨∃ p Px,1≤j∧(qB5 r.cont lo)[j-1]?=some p∧w.heap[Nx]?=some (.cells #[.func (.func 180) #[] #[.pointer (some ⟨Px,0,none⟩)]] 92)∧w.heap[Px]?=some (.cells #[.string p.k,.string p.v] 42)
 jj:J w.heap.size ((qB5 r.cont lo).take j) w
theorem AllSt.asks{E:SEnv}{x A n:Nat}{t:Tx}{s:Sto}{r:Root}{B Lc Hc:Nat}{lo hi:ByteArray}{Sx Nx:Nat}{J:Nat→List KV→World→Prop}{j:Nat}{w:World}(h:AllSt E x A n t s r B Lc Hc lo hi Sx Nx J j w)(hs:Sorted r.cont):
  ∃ g cap f,w.heap[Nx]?=some (.cells #[.func (.func g) #[] cap] 92)∧Up f∧(∀ (args:Array Value) (W:World),Sem.run prog (callFunc g args) W=.ok (.enter g args) W)∧(r.cont.find? fun q=>f q.k)=(qB5 r.cont lo)[j]?∧
   ∀ W,Kp (t.St::E.S) w W→∀ k,Calls prog g (#[.string k]++cap) W fun e W'=>e=.returned (.bool (f k))∧Kp [] W W':=by
 have hne:∀ {k:Nat} {c:Array Value} {u:TypeId} {fr:Nat × Nat},w.heap[k]?=some (.cells c u fr)→u≠169→u ∉ qL7→k ∉ t.St::E.S:=fun hk hu hd hm=>by
  rcases List.mem_cons.1 hm with h1|h1
  ·exact qA8 hk h.inn.live.hSt hu h1
  ·exact E.nin h.inn.live.dev hk hd h1
 rcases h.hN with⟨rfl,hN⟩|⟨p,Px,hj,hp,hN,hP⟩
 ·exact⟨_,_,_,hN,xZ9 lo,zX5,xF7 _ _,fun W hK k=>zR6 Lc lo k W (hK.heap h.inn.hL (hne h.inn.hL (by decide) (by decide)))⟩
 ·obtain⟨hl,hp'⟩:=List.getElem?_eq_some_iff.1 hp;refine⟨_,_,_,hN,jA0 p.k,zX7,?_,fun W hK k=>zR8 Px p.k k p.v W (hK.heap hP (hne hP (by decide) (by decide)))⟩;have e:=xF8 hs lo hl;rw[hp'] at e;rw[e,show j-1+1=j by omega]
theorem zS0(E:SEnv)(x A n:Nat)(t:Tx)(s:Sto)(r:Root)(B Lc Hc l m:Nat)(lo hi:ByteArray)(J:Nat→List KV→World→Prop)(Jx:List KV→World→Prop)(w:World)
  (hJ:∀ N pre W W' S,J N pre W→Kp S W W'→(∀ k∈S,k=t.St∨k∈E.S∨(w.heap.size≤k∧∃ c fr,W.heap[k]?=some (.cells c 92 fr)))→W'.heap[t.St]?=some (μ 0 s)→E.Dev W'→J N pre W')
  (hJN:∀ N N' pre W,J N pre W→N≤N'→J N' pre W)
  (hY:∀ N pre p W1,J N pre W1→N≤W1.heap.size→pre++[p] <+: r.cont.filter (inR lo hi)→AllIn E x A n t s r B Lc Hc lo hi W1→YieldAt Fence.wide (m-1) prog l #[.agg #[.string p.k,.string p.v],.nilIface] W1 fun e W'=>∃ SY,YS W1 N SY∧Kp SY W1 W'∧((e=.returned (.bool true)∧J W'.heap.size (pre++[p]) W')∨(e=.returned (.bool false)∧Jx (pre++[p]) W')))
  (hI:AllIn E x A n t s r B Lc Hc lo hi w) (h0:J w.heap.size [] w):
  CallsIn Fence.wide m prog 176 #[.func (.yield l) #[] #[],.pointer (some ⟨B,0,none⟩),.pointer (some ⟨Lc,0,none⟩),.pointer (some ⟨Hc,0,none⟩)] w fun e w'=>(∃ v,e=.returned v)∧((∃ N,J N (r.cont.filter (inR lo hi)) w')∨∃ pre,pre <+: r.cont.filter (inR lo hi)∧Jx pre w'):=by
 have hmf:=zM;have HI:=zh hI;have HJ:=zh hJ;have HJN:=zh hJN;have HY:=zh hY;have HJ0:=zh h0;have HSO:Hid (Sorted r.cont):=(xP6 hI.live.good).1;have hB0:=θ (.cells #[.pointer none,.string ⟨#[]⟩,.int .i64 0,.int .u64 0,.pointer none] 89) hI.hB;have b0:=ξ hB0 0;simp only[zG,zH] at b0;have hBs:=ζ hI.hB;have hSs:=ζ hI.live.hSt;clear hI hJ hJN hY h0 hB0;refine callsIn_of_wp func176 rfl trivial ?_ rfl;simp only[ntmps176,List.size_toArray,List.length_cons,List.length_nil,Nat.reduceAdd,Nat.reduceSub,Array.replicate_succ,Array.replicate_zero,List.push_toArray,List.append_toArray,List.nil_append,List.cons_append]
 gi_wp2_with fail
 refine⟨trivial,fun h=>(by cases h),?_⟩;obtain⟨w0,hw0,hS0,hK0⟩:∃ w0,w0=w.alloc (.cells #[.pointer none,.string ⟨#[]⟩,.int .i64 0,.int .u64 0,.pointer none] 89)∧w0.heap[w.heap.size]?=some (qI9 none ⟨⟨#[]⟩,0,0,none⟩)∧Kp [] w w0:=⟨_,rfl,κ _ _,(Kp.refl _ _).alloc _⟩;rw[←hw0];clear hw0 b0;have hI0:=HI.out.more hK0;refine callsIn_wide.2 ((zS1 E x A n t s r B Lc Hc lo hi _ w.heap.size w0 hI0 hS0).mono ?_);rintro e w1 ⟨rfl,hS1,hSt1,hd1,hK1⟩;have hI1:AllIn E x A n t s r B Lc Hc lo hi w1:=hI0.turn hK1 hSt1 hd1 (fun k hk=>by
  simp only[List.mem_cons,List.not_mem_nil,or_false] at hk;rcases hk with h|h
  ·exact .inl h
  ·rw[h];exact .inr (.inr ⟨_,_,_,hS0,by decide⟩))
 have hJ1:J w.heap.size [] w1:=HJ.out _ _ _ _ [t.St] HJ0.out ((hK0.mono (S':=[t.St]) (by simp)).trans hK1 (by intro i hi hlt;simp at hi ⊢;omega)) (by simp) hSt1 hd1;have hs1:=Nat.le_trans hK0.size hK1.size;clear hS0 hK0 hI0 hK1
 gi_wp2_with fail
 obtain⟨w2,hw2,hN2,hK2⟩:∃ w2,w2=w1.alloc (.cells #[.func (.func 178) #[] #[.pointer (some ⟨Lc,0,none⟩)]] 92)∧w2.heap[w1.heap.size]?=some (.cells #[.func (.func 178) #[] #[.pointer (some ⟨Lc,0,none⟩)]] 92)∧Kp [] w1 w2:=⟨_,rfl,κ _ _,(Kp.refl _ _).alloc _⟩;rw[←hw2];clear hw2;have hI2:=hI1.more hK2;have HA2:Hid (AllSt E x A n t s r B Lc Hc lo hi w.heap.size w1.heap.size J 0 w2):=
  ⟨hI2,Nat.zero_le _,by simp,hK2.hp hS1,.inl ⟨rfl,hN2⟩,HJN.out _ _ _ _ (HJ.out _ _ _ _ [] hJ1 hK2 (by simp) hI2.live.hSt hI2.live.dev) (by have:=hK2.size;omega)⟩
 clear hI2 hI1 hN2 hK2 hS1 hSt1 hd1 hJ1;obtain⟨Sx,hSx⟩:∃ Sx,Sx=w.heap.size:=⟨_,rfl⟩;obtain⟨Nx,hNx⟩:∃ Nx,Nx=w1.heap.size:=⟨_,rfl⟩;rw[←hSx,←hNx] at HA2;rw[←hSx,←hNx];have hNw:w.heap.size≤Nx:=by omega
 clear hSx hNx hs1 hBs hSs
 gi_loopg [6] ((qB5 r.cont lo).length+1) (fun k err wr=>∃ j,k+j=(qB5 r.cont lo).length+1∧err=.nilIface∧Hid (AllSt E x A n t s r B Lc Hc lo hi Sx Nx J j wr))
 case atStart=>exact⟨0,rfl,rfl,HA2⟩
 case round=>
  obtain⟨j,hkj,rfl,hA⟩:=hrel;obtain⟨g,cap,f,hN,hup,hcf,hfind,hask⟩:=hA.out.asks HSO.out;have hBr:=hA.out.inn.hB;have hb0:=θ (.cells #[.bool false] 4) (θ (.cells #[.string ⟨#[]⟩,.string ⟨#[]⟩] 42) hBr);have hBs:=ζ hBr;have b0:=ξ hb0 0;simp only[zG,zH,zI] at b0;have HF:Hid (wr.heap[Nx]?=some (.cells #[.func (.func g) #[] cap] 92)∧Up f∧(∀ (args:Array Value) (W:World),Sem.run prog (callFunc g args) W=.ok (.enter g args) W)∧(r.cont.find? fun q=>f q.k)=(qB5 r.cont lo)[j]?∧
   ∀ W,Kp (t.St::E.S) wr W→∀ k,Calls prog g (#[.string k]++cap) W fun e W'=>e=.returned (.bool (f k))∧Kp [] W W'):=⟨hN,hup,hcf,hfind,hask⟩
  clear hN hup hcf hfind hask hBr hb0
  gi_wp2_with fail
  refine⟨trivial,fun h=>(by cases h),?_⟩;obtain⟨w3,hw3,hP3,hT3,hK3,hs3⟩:∃ w3,w3=(wr.alloc (.cells #[.string ⟨#[]⟩,.string ⟨#[]⟩] 42)).alloc (.cells #[.bool false] 4)∧w3.heap[wr.heap.size]?=some (.cells #[.string ⟨#[]⟩,.string ⟨#[]⟩] 42)∧w3.heap[wr.heap.size+1]?=some (.cells #[.bool false] 4)∧Kp [] wr w3∧w3.heap.size=wr.heap.size+2:=by
   refine⟨_,rfl,θ _ (κ _ _),?_,((Kp.refl _ _).alloc _).alloc _,by simp⟩;have e:=κ (wr.alloc (.cells #[.string ⟨#[]⟩,.string ⟨#[]⟩] 42)) (.cells #[.bool false] 4);simpa using e
  rw[←hw3];clear hw3 b0;have hI3:=hA.out.inn.more hK3;have hS3:=hK3.hp hA.out.hS;have hN3:=hK3.hp HF.out.1;refine callsIn_wide.2 ((zS2 E x A n t s r B Lc Hc lo hi _ Sx Nx g cap f w3 hI3 hS3 hN3 wr.heap.size (wr.heap.size+1) hP3 hT3 HF.out.2.1 (fun W hK k=>HF.out.2.2.2.2 W ((hK3.mono (by simp)).trans hK (fun _ h _=>h)) k) HF.out.2.2.1).mono ?_);rintro e w4 ⟨rfl,hP4,hT4,hSt4,hd4,hK4⟩;rw[HF.out.2.2.2.1] at hP4 hT4;have hSt3:=hI3.live.hSt;have hK34:Kp (t.St::E.S) wr w4:=(hK3.mono (S':=t.St::E.S) (by simp)).trans hK4 (by
   intro i hi hlt;simp only[List.mem_cons] at hi ⊢;rcases hi with h|h|h|h
   ·exact .inl h
   ·omega
   ·omega
   ·exact .inr h)
  have hturn:∀ k∈t.St::wr.heap.size::(wr.heap.size+1)::E.S,k=t.St∨k∈E.S∨∃ c u fr,w3.heap[k]?=some (.cells c u fr)∧u ∉ [99,32,9,263,213,185,87]:=fun k hk=>by
   simp only[List.mem_cons] at hk;rcases hk with h|h|h|h
   ·exact .inl h
   ·rw[h];exact .inr (.inr ⟨_,_,_,hP3,by decide⟩)
   ·rw[h];exact .inr (.inr ⟨_,_,_,hT3,by decide⟩)
   ·exact .inr (.inl h)
  have HI4:Hid (AllIn E x A n t s r B Lc Hc lo hi w4):=hI3.turn hK4 hSt4 hd4 hturn;have HJ4:Hid (J wr.heap.size ((qB5 r.cont lo).take j) w4):=HJ.out _ _ _ _ (t.St::E.S) hA.out.jj hK34 (fun k hk=>by
   rcases List.mem_cons.1 hk with h|h
   ·exact .inl h
   ·exact .inr (.inl h)) hSt4 hd4
  have hne:∀ {k:Nat} {c:Array Value} {u:TypeId} {fr:Nat × Nat},wr.heap[k]?=some (.cells c u fr)→u≠169→u ∉ qL7→k ∉ t.St::E.S:=fun hk hu hdv hm=>by
   rcases List.mem_cons.1 hm with h1|h1
   ·exact qA8 hk hA.out.inn.live.hSt hu h1
   ·exact E.nin hA.out.inn.live.dev hk hdv h1
  have HS4:Hid (w4.heap[Sx]?=some (qI9 (some ⟨E.V,0,none⟩) t.h)):=hK34.heap hA.out.hS (hne hA.out.hS (by decide) (by decide));have hN4:=hK34.heap HF.out.1 (hne HF.out.1 (by decide) (by decide));have HP4:=zh hP4;have HN4:=zh hN4;have hP4s:=ζ hP4;have hT4s:=ζ hT4;have hH4:=HI4.out.hH;have hH4s:=ζ hH4;have hle:=hA.out.le;have HAH:=zh hA.out.ahead;have y0:=ξ hH4 0;simp only[zG,zH,zI] at y0
  cases hq:(qB5 r.cont lo)[j]? with
  | none=>
   rw[hq] at hT4;have c0:=ξ hT4 0;simp only[zG,zH,zI] at c0;have HEQ:Hid (r.cont.filter (inR lo hi)=(qB5 r.cont lo).take j):=zI1 HSO.out lo hi hle HAH.out (fun q h=>by rw[hq] at h;cases h);clear hq hP4 hT4 hK4 hK34 hturn hne hI3 hS3 hN3 hP3 hT3 hK3 hN4 hSt4 hd4 hSt3 hH4
   gi_wp2
   refine⟨fun _ h=>(by cases h),?_⟩
   gi_wp2
   refine bodyPost_ret (results_none results176 _ _ _) rfl ?_;exact⟨⟨_,rfl⟩,.inl ⟨wr.heap.size,by rw[HEQ.out];exact HJ4.out⟩⟩
  | some q=>
   rw[hq] at hT4 hP4;simp only[pkv,Option.isSome_some] at hT4 hP4;have c0:=ξ hT4 0;simp only[zG,zH,zI] at c0;have p0:=ξ hP4;obtain⟨hjl,hqe⟩:=List.getElem?_eq_some_iff.1 hq;have HQ:=zh hq
   cases hh:kl q.k hi with
   | false=>
    have hhb:Op.bytesLess q.k.toList hi.toList=false:=hh;have HEQ:Hid (r.cont.filter (inR lo hi)=(qB5 r.cont lo).take j):=zI1 HSO.out lo hi hle HAH.out (fun q' h=>by rw[hq] at h;cases h;exact hh);clear hq hP4 hT4 hK4 hK34 hturn hne hI3 hS3 hN3 hP3 hT3 hK3 hN4 hSt4 hd4 hSt3 hH4 hh hjl hqe
    gi_wp2
    refine⟨fun _ h=>(by cases h),?_⟩
    gi_wp2
    refine bodyPost_ret (results_none results176 _ _ _) rfl ?_;exact⟨⟨_,rfl⟩,.inl ⟨wr.heap.size,by rw[HEQ.out];exact HJ4.out⟩⟩
   | true=>
    have hhb:Op.bytesLess q.k.toList hi.toList=true:=hh;have htk:(qB5 r.cont lo).take (j+1)=(qB5 r.cont lo).take j++[q]:=by rw[List.take_succ_eq_append_getElem hjl,hqe]
    have HAH1:Hid (∀ q'∈(qB5 r.cont lo).take (j+1),kl q'.k hi=true):=fun q' hm=>by
     rw[htk] at hm;rcases List.mem_append.1 hm with hm|hm
     ·exact HAH.out q' hm
     ·rw[List.mem_singleton.1 hm];exact hh
    have HPA:Hid ((qB5 r.cont lo).take j++[q] <+: r.cont.filter (inR lo hi)):=by
     show _ <+: _;rw[←htk];exact xF9 HSO.out lo hi (by omega) HAH1.out
    obtain⟨fn,tmps,assign,body,hy,hR⟩:=HY.out wr.heap.size ((qB5 r.cont lo).take j) q w4 HJ4.out (by have:=hK34.size;omega) HPA.out HI4.out;have HTK:Hid ((qB5 r.cont lo).take (j+1)=(qB5 r.cont lo).take j++[q]∧j<(qB5 r.cont lo).length):=⟨htk,hjl⟩;have HP5:=zh hP4;clear hq hP4 hT4 hK4 hK34 hturn hne hI3 hS3 hN3 hP3 hT3 hK3 hN4 hSt4 hd4 hSt3 hH4 hh hjl hqe htk HP4
    gi_wp2
    refine⟨fun h=>(by cases h),hR.mono ?_⟩;clear hR hy;rintro e w5 ⟨SY,hYS,hKY,⟨rfl,hJ5⟩|⟨rfl,hJx⟩⟩
    ·have hI5:=HI4.out.round hYS hKY;have hS5:=hYS.keep hKY HS4.out ⟨by decide,.inl (by decide)⟩;have hN5:=hYS.keep hKY HN4.out ⟨by decide,.inl (by decide)⟩;have hP5:=hYS.keep hKY HP5.out ⟨by decide,.inr (Nat.le_refl _)⟩;have hN5s:=ζ hN5;obtain⟨w6,hw6,hN6,hK6⟩:∃ w6,w6=w5.setCell ⟨Nx,0,none⟩ (.func (.func 180) #[] #[.pointer (some ⟨wr.heap.size,0,none⟩)])∧w6.heap[Nx]?=some (.cells #[.func (.func 180) #[] #[.pointer (some ⟨wr.heap.size,0,none⟩)]] 92)∧Kp [Nx] w5 w6:=⟨_,rfl,ν hN5 0 _,(Kp.refl _ _).sc _⟩;have hne6:∀ {k:Nat} {c:Array Value} {u:TypeId} {fr:Nat × Nat},w5.heap[k]?=some (.cells c u fr)→u≠92→k ∉ [Nx]:=fun hk hu hm=>qA8 hk hN5 hu (List.mem_singleton.1 hm);have hSt6:=hK6.heap hI5.live.hSt (hne6 hI5.live.hSt (by decide));have hd6:=E.keepX w5 w6 [Nx] hI5.live.dev hK6 (OffD.one hN5 (by decide));have hI6:=hI5.turn hK6 hSt6 hd6 (fun k hk=>by rw[List.mem_singleton.1 hk];exact .inr (.inr ⟨_,_,_,hN5,by decide⟩));have hJ6:=HJ.out _ _ _ _ [Nx] hJ5 hK6 (fun k hk=>by rw[List.mem_singleton.1 hk];exact .inr (.inr ⟨hNw,_,_,hN5⟩)) hSt6 hd6;have HA6:Hid (AllSt E x A n t s r B Lc Hc lo hi Sx Nx J (j+1) w6):=
      ⟨hI6,HTK.out.2,HAH1.out,hK6.heap hS5 (hne6 hS5 (by decide)),.inr ⟨q,wr.heap.size,by omega,HQ.out,hN6,hK6.heap hP5 (hne6 hP5 (by decide))⟩,by
       rw[HTK.out.1];exact HJN.out _ _ _ _ hJ6 hK6.size⟩
     have n0:=ξ hN5 0;simp only[zG,zH,zI] at n0;have fn0:=υ hN5 0;clear hI5 hS5 hP5 hN6 hK6 hne6 hSt6 hd6 hI6 hJ6 hJ5 hYS hKY hN5
     gi_wp2
     rw[←hw6]
     gi_roundg (gk-1)
     ·exact⟨j+1,by omega,rfl,HA6⟩
     ·omega
    ·have HX:=zh hJx;clear hJx hYS hKY
     gi_wp2
     refine bodyPost_ret (results_none results176 _ _ _) rfl ?_;exact⟨⟨_,rfl⟩,.inr ⟨_,HPA.out,HX.out⟩⟩
end Go.Proofs.YtdohpenfkdckiaaGreatDoor
namespace Go.Proofs.YtdohpenfkdckiaaGreatDoor
open Go.Proofs.Tryz
open Go.RowKit
attribute [local go_sem] Oper.semAt_some
theorem Kp.putObj{S:List Nat}{a b:World}(h:Kp S a b){l:Nat}(hl:l∈S∨a.heap.size≤l)(o:Obj):Kp S a (b.putObj l o):=
 ⟨h.os,h.tape,h.output,by have:=h.size;simp[World.putObj];omega,fun k hk hn=>(World.putObj_heap_other (by
  rcases hl with hl|hl
  ·intro e;subst e;exact hn hl
  ·omega)).trans (h.block k hk hn)⟩
structure ScI(E:SEnv)(t:Tx)(s:Sto)(Ob M:Nat)(rec:LoopState→Option Code→Loop)(w:World)(N:Nat)(pre:List KV)(W:World):Prop where
 kp:Kp (t.St::Ob::E.S) w W
 hSt:W.heap[t.St]?=some (μ 0 s)
 dev:E.Dev W
 out:∃ v,W.heap[Ob]?=some (.cells #[v] 29)∧OPA W w.heap.size v pre∧∀ k,v.ownBlock=some k→k<N
 le:pre.length≤M
 lt:w.heap.size+1<N
 dfr:W.heap[w.heap.size]?=some (.deferred (some []))
 loop:W.heap[w.heap.size+1]?=some (.loop (rec .ready none))
def ScX(E:SEnv)(t:Tx)(s:Sto)(Ob M id:Nat)(rec:LoopState→Option Code→Loop)(w:World)(pre:List KV)(W:World):Prop:=
 ∃ q p v,pre=q++[p]∧q.length=M∧Kp (t.St::Ob::E.S) w W∧W.heap[t.St]?=some (μ 0 s)∧E.Dev W∧W.heap[Ob]?=some (.cells #[v] 29)∧OPA W w.heap.size v q∧W.heap[w.heap.size]?=some (.deferred (some []))∧W.heap[w.heap.size+1]?=some (.loop (rec .done (some (.exit id))))
theorem OPA.keep{S:List Nat}{w w':World}{base:Nat}{v:Value}{ps:List KV}(h:OPA w base v ps)(hK:Kp S w w')(hS:∀ k∈S,∀ c fr,w.heap[k]?≠some (.cells c 42 fr)):OPA w' base v ps:=by
 refine⟨h.1,?_⟩;rcases h.2 with h0|⟨g,cap,cur,h1,h2,h3,h4⟩
 ·exact .inl h0
 ·exact .inr ⟨g,cap,cur,h1,h2,hK.heap h3 (fun hm=>hS g hm _ _ h3),h4⟩
theorem zQ2{nn:Nat}{g:Operand}{ps:Array Tmp}{assign body:Code}{Q:Exit→Act→World→Prop}{a:Act}{w:World}(E:SEnv)(x A n:Nat)(t:Tx)(s:Sto)(r:Root)(B Lc Hc Ob M id:Nat)(lo hi:ByteArray)(h1:1≤nn)
  (hg:a.eval g=.func (.func 176) #[] #[.pointer (some ⟨B,0,none⟩),.pointer (some ⟨Lc,0,none⟩),.pointer (some ⟨Hc,0,none⟩)]) (hps:ps.size=2)
  (hI:AllIn E x A n t s r B Lc Hc lo hi w) (hO:w.heap[Ob]?=some (.cells #[.slice none 0 0] 29))
  (a₁:KV→Nat→Act)
  (hassign:∀ (l:Nat) (p:KV) (W:World) (K:Act→World→Prop),K (a₁ p W.heap.size) (W.alloc (.cells #[.string p.k,.string p.v] 42))→
   assign.wpIn (Fence.wide.inRound l) (nn-1-1) prog (Exit.then K (fun _ _ _=>False)) { tmps:=(ps.zip #[.agg #[.string p.k,.string p.v],.nilIface]).foldl (fun t (p,v)=>t.setIfInBounds p v) a.tmps,defers:=[] } W)
  (hbody:∀ (l:Nat) (pre:List KV) (p:KV) (W:World) (v:Value) (Pb:Nat),W.heap[Ob]?=some (.cells #[v] 29)→OPA W w.heap.size v pre→W.heap[Pb]?=some (.cells #[.string p.k,.string p.v] 42)→w.heap.size≤Pb→v.ownBlock≠some Pb→Kp (t.St::Ob::E.S) w W→pre.length≤M→pre.length≤50000→
   body.wpIn (Fence.wide.inRound l) (nn-1-1) prog (fun e _ W3=>match e with
    | .normal=>pre.length<M∧∃ v3 S3,Kp S3 W W3∧(∀ k∈S3,k=Ob∨v.ownBlock=some k)∧W3.heap[Ob]?=some (.cells #[v3] 29)∧OPA W3 w.heap.size v3 (pre++[p])∧∀ k,v3.ownBlock=some k→k<W3.heap.size
    | .exit i=>i=id∧pre.length=M∧W3=W
    | _=>False) (a₁ p Pb) W)
  (hdone:∀ (W:World) (v:Value),Kp (t.St::Ob::E.S) w W→W.heap[t.St]?=some (μ 0 s)→E.Dev W→W.heap[Ob]?=some (.cells #[v] 29)→OPA W w.heap.size v (qC6 r.cont lo hi M)→W.heap[w.heap.size]?=some (.deferred (some []))→w.heap.size<W.heap.size→Q .normal { a with defers:={ target:=.collected w.heap.size,args:=#[] }::a.defers } W)
  (hstop:∀ (W:World) (v:Value),Kp (t.St::Ob::E.S) w W→W.heap[t.St]?=some (μ 0 s)→E.Dev W→W.heap[Ob]?=some (.cells #[v] 29)→OPA W w.heap.size v (qC6 r.cont lo hi M)→W.heap[w.heap.size]?=some (.deferred (some []))→w.heap.size<W.heap.size→(Code.exit id).wpIn Fence.wide nn prog Q { a with defers:={ target:=.collected w.heap.size,args:=#[] }::a.defers } W):
  (Code.rangeFunc g ps assign body).wpIn Fence.wide nn prog Q a w:=by
 refine wpIn_rangeFunc ?_;intro fn hfn;obtain⟨rec,hrec⟩:∃ rec:LoopState→Option Code→Loop,rec=fun st pe=>{ state:=st,pending:=pe,fn,tmps:=a.tmps,params:=ps,assign,body,defers:=w.heap.size }:=⟨_,rfl⟩;obtain⟨W1,hW1⟩:∃ W1,(w.alloc (.deferred (some []))).alloc (.loop (rec .ready none))=W1:=⟨_,rfl⟩;have hL1:W1.heap[w.heap.size+1]?=some (.loop (rec .ready none)):=by
  rw[←hW1];have:=World.alloc_heap_new (w.alloc (.deferred (some []))) (.loop (rec .ready none));rwa [World.size_alloc] at this
 have hD1:W1.heap[w.heap.size]?=some (.deferred (some [])):=by
  rw[←hW1];exact (Below.heap_alloc _ _ _ (by simp)).trans (World.alloc_heap_new w _)
 have hK1:Kp [] w W1:=by rw[←hW1];exact ((Kp.refl _ _).alloc _).alloc _
 have hs1:W1.heap.size=w.heap.size+2:=by rw[←hW1];simp
 have hI1:=hI.more hK1;refine⟨w.heap.size+1,[{ target:=.collected w.heap.size,args:=#[] }],W1,{ target:=.fn (.func 176) #[.pointer (some ⟨B,0,none⟩),.pointer (some ⟨Lc,0,none⟩),.pointer (some ⟨Hc,0,none⟩)],args:=#[.func (.yield (w.heap.size+1)) #[] #[]] },W1,176,
  #[.func (.yield (w.heap.size+1)) #[] #[],.pointer (some ⟨B,0,none⟩),.pointer (some ⟨Lc,0,none⟩),.pointer (some ⟨Hc,0,none⟩)],W1,?_,?_,?_,?_,fun h=>(by cases h),?_⟩
 ·rw[←hW1,hrec];exact run_enterLoop_outer _ _ _ _ _
 ·simp only[resolve,hg];simp[go_sem]
 ·intro f' hf';trivial
 ·simp[invoke,go_sem,zF6]
 ·have hObs:=ζ hO;have hSts:=ζ hI.live.hSt;have hObSt:Ob≠t.St:=qA8 hO hI.live.hSt (by decide);refine (zS0 E x A n t s r B Lc Hc (w.heap.size+1) (nn-1) lo hi (ScI E t s Ob M rec w) (ScX E t s Ob M id rec w) W1 ?_ ?_ ?_ hI1 ?_).mono ?_
  ·
   intro N pre W W' S h hK hS hSt' hd';obtain⟨v,hv1,hv2,hv3⟩:=h.out;have hno:∀ k∈S,∀ c u fr,W.heap[k]?=some (.cells c u fr)→u=29∨u=42→False:=fun k hk c u fr e hu=>by
    rcases hS k hk with h1|h1|⟨_,c',fr',h1⟩
    ·rw[h1,h.hSt] at e;cases e;rcases hu with hu | hu<;>revert hu<;>decide
    ·exact E.nin h.dev e (by rcases hu with rfl | rfl<;>decide) h1
    ·rw[e] at h1;cases h1;rcases hu with hu | hu<;>revert hu<;>decide
   have hnl:∀ k∈S,∀ o,W.heap[k]?=some o→(∀ c u fr,o≠.cells c u fr)→False:=fun k hk o e ho=>by
    rcases hS k hk with h1|h1|⟨_,c',fr',h1⟩
    ·rw[h1,h.hSt] at e;cases e;exact ho _ _ _ rfl
    ·obtain⟨c',t',fr',h2,h3⟩:=E.offS W h.dev k h1;rw[e] at h2;cases h2;exact ho _ _ _ rfl
    ·rw[e] at h1;cases h1;exact ho _ _ _ rfl
   refine⟨h.kp.trans hK (fun i hi hlt=>?_),hSt',hd',⟨v,hK.heap hv1 (fun hm=>hno _ hm _ _ _ hv1 (.inl rfl)),hv2.keep hK (fun k hk c fr e=>hno k hk _ _ _ e (.inr rfl)),hv3⟩,h.le,h.lt,hK.heap h.dfr (fun hm=>hnl _ hm _ h.dfr (by intros;simp)),hK.heap h.loop (fun hm=>hnl _ hm _ h.loop (by intros;simp))⟩;rcases hS i hi with h1|h1|⟨h1,_⟩
   ·simp[h1]
   ·simp[h1]
   ·omega
  ·intro N N' pre W h hN;obtain⟨v,hv1,hv2,hv3⟩:=h.out;exact { h with out:=⟨v,hv1,hv2,fun k hk=>by have:=hv3 k hk;omega⟩,lt:=by have:=h.lt;omega }
  ·
   intro N pre p W h hNs hpre hA;obtain⟨v,hv1,hv2,hv3⟩:=h.out;have hlt:w.heap.size+1<W.heap.size:=ζ h.loop;have hy:=run_yield (P:=prog) (args:=#[.agg #[.string p.k,.string p.v],.nilIface]) h.loop (by rw[hrec];simp[hps]);rw[hrec] at hy;refine⟨fn,_,assign,body,hy,roundIn_of_wpIn hfn (hassign _ p W _ ?_)⟩;clear hy;have hKa:Kp [] W (W.alloc (.cells #[.string p.k,.string p.v] 42)):=(Kp.refl _ _).alloc _;have hLa:=hKa.hp h.loop;refine⟨_,run_beginRound hLa (by rw[hrec]),?_⟩;obtain⟨W2,hW2,hL2,hK2,hP2,hs2⟩:∃ W2,W2=(W.alloc (.cells #[.string p.k,.string p.v] 42)).putObj (w.heap.size+1) (.loop { rec .ready none with state:=.busy })∧W2.heap[w.heap.size+1]?=some (.loop { rec .ready none with state:=.busy })∧Kp [w.heap.size+1] W W2∧W2.heap[W.heap.size]?=some (.cells #[.string p.k,.string p.v] 42)∧W2.heap.size=W.heap.size+1:=
    ⟨_,rfl,World.putObj_heap_same (by simp;omega),((hKa.mono (by simp)).putObj (by simp) _),(World.putObj_heap_other (by omega)).trans (κ _ _),by simp[World.putObj]⟩
   rw[←hW2];clear hW2 hKa hLa;have hne2:∀ {k:Nat} {c:Array Value} {u:TypeId} {fr:Nat × Nat},W.heap[k]?=some (.cells c u fr)→k ∉ [w.heap.size+1]:=fun hk hm=>by
    rw[List.mem_singleton.1 hm,h.loop] at hk;cases hk
   have hO2:=hK2.heap hv1 (hne2 hv1);have hOP2:OPA W2 w.heap.size v pre:=hv2.keep hK2 (fun k hk c fr e=>by rw[List.mem_singleton.1 hk,h.loop] at e;cases e);have hkw2:Kp (t.St::Ob::E.S) w W2:=h.kp.trans hK2 (by intro i hi hlt;simp at hi;omega);have hown:∀ k,v.ownBlock=some k→k<N∧∃ cur,W.heap[k]?=some (.cells cur 42):=fun k hk=>⟨hv3 k hk,by
    rcases hv2.2 with⟨h0,_⟩|⟨gb,cap,cur,e1,e2,e3,_⟩
    ·rw[h0] at hk;cases hk
    ·rw[e1] at hk;cases hk;exact⟨cur,e3⟩⟩
   have hlen:pre.length≤50000:=by
    have h1:=List.IsPrefix.length_le hpre;have h2:=List.length_filter_le (inR lo hi) r.cont;have h3:=hI.live.sz;simp at h1;omega
   refine wpIn_mono (hbody _ pre p W2 v W.heap.size hO2 hOP2 hP2 (by omega) (fun e=>by have:=(hown _ e).1;omega) hkw2 h.le hlen) ?_;rintro e a3 W3 hp
   cases e with
   | normal=>
    obtain⟨hm,v3,S3,hK3,hS3,hO3,hOP3,hv33⟩:=hp;have hL3:W3.heap[w.heap.size+1]?=some (.loop { rec .ready none with state:=.busy }):=hK3.heap hL2 (fun hmm=>by
     rcases hS3 _ hmm with e|e
     ·rw[←e] at hv1;rw[h.loop] at hv1;cases hv1
     ·obtain⟨_,cur,e2⟩:=hown _ e;rw[h.loop] at e2;cases e2)
    have hr:=run_endRound (P:=prog) none hL3;rw[hrec] at hr;have hK13:Kp ((w.heap.size+1)::S3) W W3:=(hK2.mono (by simp +contextual)).trans hK3 (by simp +contextual);have hin3:∀ k∈S3,k∈[Ob]∨w.heap.size≤k:=fun k hk=>by
     rcases hS3 k hk with e|e
     ·exact .inl (by simp[e])
     ·exact .inr (hv2.low k e)
    have hs3:=hK3.size;have hYS:YS W N ((w.heap.size+1)::S3):=fun k hk=>by
     rcases List.mem_cons.1 hk with e|e
     ·rw[e];exact⟨h.lt,.inr ⟨_,h.loop⟩⟩
     ·rcases hS3 k e with e2|e2
      ·rw[e2];refine⟨?_,.inl ⟨_,_,_,hv1,.inl rfl⟩⟩;have:=h.lt;omega
      ·obtain⟨e3,cur,e4⟩:=hown k e2;exact⟨e3,.inl ⟨_,_,_,e4,.inr rfl⟩⟩
    have hKf:Kp ((w.heap.size+1)::S3) W (W3.putObj (w.heap.size+1) (.loop (rec .ready none))):=hK13.putObj (by simp) _;have hSt3:=hYS.keep hKf h.hSt ⟨by decide,.inl (by decide)⟩;have hneL:∀ {k:Nat} {c:Array Value} {u:TypeId} {fr:Nat × Nat},W3.heap[k]?=some (.cells c u fr)→k≠w.heap.size+1:=fun hk e=>by rw[e,hL3] at hk;cases hk
    refine⟨_,_,hr,((w.heap.size+1)::S3),hYS,?_,.inl ⟨rfl,?_⟩⟩
    ·rw[hrec] at hKf;exact hKf
    ·have hfin:ScI E t s Ob M rec w (W3.putObj (w.heap.size+1) (.loop (rec .ready none))).heap.size (pre++[p]) (W3.putObj (w.heap.size+1) (.loop (rec .ready none))):=by
      refine⟨h.kp.trans hKf (fun i hi hlt=>?_),hSt3,E.keepX _ _ _ h.dev hKf hYS.off,⟨v3,(World.putObj_heap_other (hneL hO3)).trans hO3,hOP3.keep ((Kp.refl [w.heap.size+1] W3).putObj (by simp) _) (fun k hk c fr e=>by rw[List.mem_singleton.1 hk,hL3] at e;cases e),fun k hk=>by have:=hv33 k hk;simp[World.putObj];omega⟩,by simp;omega,by simp[World.putObj];omega,?_,World.putObj_heap_same (ζ hL3)⟩
      ·rcases List.mem_cons.1 hi with e|e
       ·omega
       ·rcases hin3 i e with e2|e2
        ·simp at e2;simp[e2]
        ·omega
      ·refine (World.putObj_heap_other (by omega)).trans (hK13.heap h.dfr (fun hm=>?_));rcases List.mem_cons.1 hm with e|e
       ·omega
       ·rcases hS3 _ e with e2|e2
        ·rw[←e2] at hv1;rw[h.dfr] at hv1;cases hv1
        ·obtain⟨_,cur,e4⟩:=hown _ e2;rw[h.dfr] at e4;cases e4
     rw[hrec] at hfin ⊢;exact hfin
   | exit i=>
    obtain⟨rfl,hm,rfl⟩:=hp;have hr:=run_endRound (P:=prog) (some (.exit i)) hL2;rw[hrec] at hr;have hYS:YS W N [w.heap.size+1]:=fun k hk=>by rw[List.mem_singleton.1 hk];exact⟨h.lt,.inr ⟨_,h.loop⟩⟩
    have hKf:Kp [w.heap.size+1] W (W3.putObj (w.heap.size+1) (.loop (rec .done (some (.exit i))))):=hK2.putObj (by simp) _;refine⟨_,_,hr,[w.heap.size+1],hYS,?_,.inr ⟨rfl,?_⟩⟩
    ·rw[hrec] at hKf;exact hKf
    ·have hfin:ScX E t s Ob M i rec w (pre++[p]) (W3.putObj (w.heap.size+1) (.loop (rec .done (some (.exit i))))):=
      ⟨pre,p,v,rfl,hm,h.kp.trans hKf (by intro i hi hlt;simp at hi;omega),hYS.keep hKf h.hSt ⟨by decide,.inl (by decide)⟩,E.keepX _ _ _ h.dev hKf hYS.off,hKf.heap hv1 (hne2 hv1),hv2.keep hKf (fun k hk c fr e=>by rw[List.mem_singleton.1 hk,h.loop] at e;cases e),hKf.hp h.dfr,World.putObj_heap_same (ζ hL2)⟩
     rw[hrec] at hfin ⊢;exact hfin
   | ret=>exact hp.elim
   | goto l=>exact hp.elim
   | panic ch=>exact hp.elim
   | outgrown=>exact hp.elim
  ·exact⟨hK1.mono (by simp),hI1.live.hSt,hI1.live.dev,⟨_,hK1.hp hO,OPA.nil _ _,fun k hk=>by cases hk⟩,Nat.zero_le _,by omega,hD1,hL1⟩
  ·
   rintro e W2 ⟨⟨v,rfl⟩,⟨N,h⟩|⟨pre,hpre,q,p,v2,rfl,hM,hkp,hSt2,hd2,hO2,hOP2,hD2,hL2⟩⟩
   ·obtain⟨v2,hO2,hOP2,_⟩:=h.out;have hr:=run_endLoop (P:=prog) h.loop (by rw[hrec];simp);rw[hrec] at hr;have hKf:Kp [w.heap.size+1] W2 (W2.putObj (w.heap.size+1) (.loop { rec .ready none with state:=.exhausted })):=(Kp.refl _ _).putObj (by simp) _;have hsc:qC6 r.cont lo hi M=r.cont.filter (inR lo hi):=by
     rw[qC6];exact List.take_of_length_le (by have:=h.le;simp;omega)
    have hneL:∀ {k:Nat} {c:Array Value} {u:TypeId} {fr:Nat × Nat},W2.heap[k]?=some (.cells c u fr)→k ∉ [w.heap.size+1]:=fun hk hm=>by rw[List.mem_singleton.1 hm,h.loop] at hk;cases hk
    refine⟨none,_,hr,?_⟩;have:=hdone (W2.putObj (w.heap.size+1) (.loop { rec .ready none with state:=.exhausted })) v2 (h.kp.trans hKf (by intro i hi hlt;simp at hi;omega)) (hKf.heap h.hSt (hneL h.hSt)) (E.keepX _ _ _ h.dev hKf (fun k hk c u fr e=>by rw[List.mem_singleton.1 hk,h.loop] at e;cases e)) (hKf.heap hO2 (hneL hO2)) (by rw[hsc];exact hOP2.keep hKf (fun k hk c fr e=>by rw[List.mem_singleton.1 hk,h.loop] at e;cases e)) (hKf.hp h.dfr) (by have:=ζ h.loop;simp[World.putObj];omega);rw[hrec] at this;exact this
   ·have hr:=run_endLoop (P:=prog) hL2 (by rw[hrec];simp);rw[hrec] at hr;have hKf:Kp [w.heap.size+1] W2 (W2.putObj (w.heap.size+1) (.loop { rec .done (some (.exit id)) with state:=.exhausted })):=(Kp.refl _ _).putObj (by simp) _;have hsc:qC6 r.cont lo hi M=q:=by
     rw[qC6];obtain⟨z,hz⟩:=hpre;rw[←hz,Int.toNat_natCast,List.append_assoc,←hM,List.take_left'];rfl
    have hneL:∀ {k:Nat} {c:Array Value} {u:TypeId} {fr:Nat × Nat},W2.heap[k]?=some (.cells c u fr)→k ∉ [w.heap.size+1]:=fun hk hm=>by rw[List.mem_singleton.1 hm,hL2] at hk;cases hk
    refine⟨some (.exit id),_,hr,?_⟩;have:=hstop (W2.putObj (w.heap.size+1) (.loop { rec .done (some (.exit id)) with state:=.exhausted })) v2 (hkp.trans hKf (by intro i hi hlt;simp at hi;omega)) (hKf.heap hSt2 (hneL hSt2)) (E.keepX _ _ _ hd2 hKf (fun k hk c u fr e=>by rw[List.mem_singleton.1 hk,hL2] at e;cases e)) (hKf.heap hO2 (hneL hO2)) (by rw[hsc];exact hOP2.keep hKf (fun k hk c fr e=>by rw[List.mem_singleton.1 hk,hL2] at e;cases e)) (hKf.hp hD2) (by have:=ζ hL2;simp[World.putObj];omega);rw[hrec] at this;exact this
end Go.Proofs.YtdohpenfkdckiaaGreatDoor
namespace Go.Proofs.YtdohpenfkdckiaaGreatDoor
open Go.Proofs.Tryz
open Go.RowKit
attribute [local go_sem] Oper.semAt_some
theorem zP4(w:World)(a b:Value)(t:TypeId):∀ j u,[a,b][j]?=some u→(w.alloc (.cells #[a,b] t)).cell? ((⟨w.heap.size,0,none⟩:Addr).add j)=some u:=fun j u hj=>by
 rw[qE3,ξ (κ _ _)];simpa using hj
theorem zI5{W w5:World}{X:Obj}{row:Option Nat}{k:Nat}{o:Obj}(h:W.heap[k]?=some o)(hg:(W.alloc X).grownBy w5 row)(hn:row≠some k):w5.heap[k]?=some o:=
 (hg.block k (by have:=ζ h;simp;omega) (fun e=>hn e.symm)).trans (θ _ h)
theorem OPA.keepR{S:List Nat}{w w':World}{base n sz:Nat}{v:Value}{xs:List Value}(h:w.ownsRow base 42 sz v n xs)(hK:Kp S w w')(hS:∀ k∈S,∀ c fr,w.heap[k]?≠some (.cells c 42 fr)):w'.ownsRow base 42 sz v n xs:=by
 refine⟨h.1,?_⟩;rcases h.2 with h0|⟨g,cap,cur,h1,h2,h3,h4⟩
 ·exact .inl h0
 ·exact .inr ⟨g,cap,cur,h1,h2,hK.heap h3 (fun hm=>hS g hm _ _ h3),h4⟩
theorem zO1(E:SEnv)(x A n:Nat)(t:Tx)(s:Sto)(r:Root)(lo hi:ByteArray)(most:Int)(w:World)(hL:LiveT E w x A n t s r)(hm0:-9223372036854775808≤most)(hm1:most≤9223372036854775807):
  Calls prog 71 #[.pointer (some ⟨x,0,none⟩),.string lo,.string hi,.int .i64 most] w fun e w'=>∃ v,e=.returned (.tuple #[v,.nilIface])∧OPA w' w.heap.size v (qC6 r.cont lo hi most)∧BadT E w w' t s:=by
 have HL:=zh hL;have hxs:=ζ hL.hx;have hSs:=ζ hL.hSt;clear hL;obtain⟨M,hM⟩:∃ M:Nat,M=most.toNat:=⟨_,rfl⟩;have HSC:Hid (qC6 r.cont lo hi most=qC6 r.cont lo hi M):=by show _=_;rw[qC6,qC6,hM,Int.toNat_natCast]
 obtain⟨i0,hi0,hz0,hz1,hz2⟩:=info_parts qZ7;refine (callsIn_wide (n:=9)).1 ?_;refine callsIn_of_wp_marks func71 rfl trivial ?_ rfl;simp only[ntmps71,List.size_toArray,List.length_cons,List.length_nil,Nat.reduceAdd,Nat.reduceSub,Array.replicate_succ,Array.replicate_zero,List.push_toArray,List.append_toArray,List.nil_append,List.cons_append];obtain⟨w0,hw0,hM0,hR0,hE0,hO0,hK0,hs0⟩:∃ w0,w0=(((w.alloc (.cells #[.int .i64 (M:Int)] 3)).alloc (.cells #[.slice none 0 0] 29)).alloc (.cells #[.nilIface] 38)).alloc (.cells #[.slice none 0 0] 29)∧w0.heap[w.heap.size]?=some (.cells #[.int .i64 (M:Int)] 3)∧w0.heap[w.heap.size+1]?=some (.cells #[.slice none 0 0] 29)∧w0.heap[w.heap.size+1+1]?=some (.cells #[.nilIface] 38)∧w0.heap[w.heap.size+1+1+1]?=some (.cells #[.slice none 0 0] 29)∧Kp [] w w0∧w0.heap.size=w.heap.size+4:=by
  refine⟨_,rfl,θ _ (θ _ (θ _ (κ _ _))),θ _ (θ _ ?_),θ _ ?_,?_,((((Kp.refl _ _).alloc _).alloc _).alloc _).alloc _,by simp⟩
  ·have e:=κ (w.alloc (.cells #[.int .i64 (M:Int)] 3)) (.cells #[.slice none 0 0] 29);simpa using e
  ·have e:=κ ((w.alloc (.cells #[.int .i64 (M:Int)] 3)).alloc (.cells #[.slice none 0 0] 29)) (.cells #[.nilIface] 38);simpa using e
  ·have e:=κ (((w.alloc (.cells #[.int .i64 (M:Int)] 3)).alloc (.cells #[.slice none 0 0] 29)).alloc (.cells #[.nilIface] 38)) (.cells #[.slice none 0 0] 29);simpa using e
 have HW0:=zh hw0;have HS0:=zh hs0;clear hw0 hs0;by_cases hb:most<1
 ·have hM1:(0:Int)=(M:Int):=by omega
  have HM1:=zh hM1;clear hM1 hM
  gi_wp2_with fail
  refine⟨trivial,?_⟩;rw[HM1.out,←HW0.out];have hL0:=HL.out.more hK0;refine callsIn_wide.2 ((qS4 x lo hi w0).mono ?_);rintro e w1 ⟨rfl,hB1,hLc1,hHc1,hK1⟩;have hI1:AllIn E x A n t s r w0.heap.size (w0.heap.size+1) (w0.heap.size+2) lo hi w1:=⟨hL0.more hK1,hB1,hLc1,hHc1⟩;have hM1:=hK1.hp hM0;have hR1:=hK1.hp hR0;have hE1:=hK1.hp hE0;have hO1:=hK1.hp hO0;have HK1:Hid (Kp [] w w1):=hK0.tr hK1;have hs1:=hK1.size;clear hM0 hR0 hE0 hO0 hK0 hK1 hB1 hLc1 hHc1 hL0
  gi_wp2_with fail
  have hSo:t.St≠w.heap.size+1+1+1:=by omega
  refine zQ2 E x A n t s r w0.heap.size (w0.heap.size+1) (w0.heap.size+2) (w.heap.size+1+1+1) M 0 lo hi (by decide) rfl rfl hI1 hO1 (fun p Pb=>{ tmps:=#[.pointer (some ⟨x,0,none⟩),.string lo,.string hi,.int .i64 most,undef,undef,undef,.pointer (some ⟨w.heap.size,0,none⟩),.pointer (some ⟨w.heap.size+1,0,none⟩),.pointer (some ⟨w.heap.size+1+1,0,none⟩),.pointer (some ⟨w.heap.size+1+1+1,0,none⟩),.pointer (some ⟨Pb,0,none⟩),.nilIface,.int .i64 most,.bool true,.pointer (some ⟨x,0,none⟩),.string lo,.string hi,.func (.func 176) #[] #[.pointer (some ⟨w0.heap.size,0,none⟩),.pointer (some ⟨w0.heap.size+1,0,none⟩),.pointer (some ⟨w0.heap.size+2,0,none⟩)],.agg #[.string p.k,.string p.v],.nilIface,undef,undef,undef,undef,undef,undef,undef,undef,undef,undef,undef,undef],defers:=[] }) ?assign ?body ?done ?stop
  case assign=>
   intro l p W K hK
   gi_wp2
   exact hK
  case body=>
   intro l pre p W v Pb hO hOP hP hPb hown hkp hle hlen;have hMW:=hkp.heap hM1 (by
    simp only[List.mem_cons,not_or];exact⟨by omega,by omega,fun h=>by have:=E.low w HL.out.dev _ h;omega⟩)
   have hObs:=ζ hO;have hPs:=ζ hP;have hMs:=ζ hMW;have o0:=ξ hO 0;simp only[zG,zH,zI] at o0;have fo0:=υ hO 0;have p0:=ξ hP;have m0:=ξ hMW 0;simp only[zG,zH,zI] at m0;obtain⟨ob,oc,rfl⟩:=hOP.form;by_cases hq:pre.length=M
   ·have hqb:(pre.length:Int)=(M:Int):=by omega
    clear hM1 hR1 hE1 hO1 hI1 hO hP hMW
    gi_wp2
    all_goals exact⟨rfl,hq,rfl⟩
   ·have hqb:¬(pre.length:Int)=(M:Int):=by omega
    have HOO:Hid (W.heap[w.heap.size+1+1+1]?=some (.cells #[.slice ob pre.length oc] 29)∧OPA W w1.heap.size (.slice ob pre.length oc) pre∧Kp (t.St::(w.heap.size+1+1+1)::E.S) w1 W):=⟨hO,hOP,hkp⟩;have hsz:=hkp.size;have HNO:Hid ((Value.slice ob pre.length oc).ownBlock≠some (w.heap.size+1+1+1)):=fun e=>by
     rcases hOP.2 with⟨h0,_⟩|⟨gb,cap,cur,e1,e2,e3,_⟩
     ·rw[h0] at e;cases e
     ·rw[e1] at e;cases e;rw[hO] at e3;cases e3
    clear hM1 hR1 hE1 hO1 hI1 hO hP hMW hOP hkp
    gi_wp2_with (gi_at_builtin;refine wpListIn_append_own _ rfl _ _ 29 rfl w1.heap.size 42 i0 (.agg #[.string ⟨#[]⟩,.string ⟨#[]⟩]) 2 32 underlying29 hi0 hz0 hz1 hz2 rfl (by decide) _ _ _ rfl (World.ownsRow.alloc HOO.out.2.1 _) ⟨W.heap.size,0,none⟩ 1 1 [.string p.k,.string p.v] rfl rfl (zP4 _ _ _ _) (by simp[Value.oneCell']) (by unfold maxLen;omega) (by omega) (by simp;omega) ?_;intro v5 w5 hO5 hg5 _;obtain⟨g5,c5,rfl⟩:=qL1 hO5;have hOb5:=zI5 HOO.out.1 hg5 HNO.out;have o5:=ξ hOb5 0;have fo5:=υ hOb5 0;simp only[zG,zH] at o5)
    have hpl:pre.length<M:=by omega
    have hs5:=hg5.size;refine⟨hpl,.slice (some ⟨g5,0,none⟩) (pre.length+1) c5,[w.heap.size+1+1+1]++(Value.slice ob pre.length oc).ownBlock.toList,?_,?_,ν hOb5 0 _,?_,?_⟩
    ·refine ((((Kp.refl _ W).alloc _).grown hg5 (fun k hk=>.inl (List.mem_append.2 (.inr (by have hk2:(Value.slice ob pre.length oc).ownBlock=some k:=hk;rw[hk2];simp))))).sc _)
    ·intro k hk;rcases List.mem_append.1 hk with h|h
     ·exact .inl (List.mem_singleton.1 h)
     ·exact .inr (by simpa using h)
    ·have e:ω (pre++[p])=ω pre++[.string p.k,.string p.v]:=zM6 pre p;unfold OPA;rw[e,List.length_append];refine OPA.keepR hO5 ((Kp.refl [w.heap.size+1+1+1] w5).sc _) (fun k hk c fr e=>?_);rw[List.mem_singleton.1 hk,hOb5] at e;cases e
    ·intro k hk;have:=(World.ownsRow.lt hO5 k hk).2;simp[World.setCell];omega
  case done=>
   intro W v hkp hSt hd hO hOP hD hlt;have hlow:∀ k,w.heap.size≤k→k≠w.heap.size+1+1+1→k ∉ t.St::(w.heap.size+1+1+1)::E.S:=fun k hk hne hm=>by
    simp only[List.mem_cons] at hm;rcases hm with h|h|h
    ·omega
    ·omega
    ·have:=E.low w HL.out.dev _ h;omega
   have hRW:=hkp.heap hR1 (hlow _ (by omega) (by omega));have hEW:=hkp.heap hE1 (hlow _ (by omega) (by omega));have hObs:=ζ hO;have hRs:=ζ hRW;have hEs:=ζ hEW;obtain⟨ob,oc,hform⟩:=hOP.form;subst hform;have o0:=ξ hO 0;simp only[zG,zH,zI] at o0;have r0:=ξ hRW 0;simp only[zG,zH,zI] at r0;have fr0:=υ hRW 0;have e0:=ξ hEW 0;simp only[zG,zH,zI] at e0;have fe0:=υ hEW 0;obtain⟨sl,hsl⟩:∃ sl,sl=(qC6 r.cont lo hi M).length:=⟨_,rfl⟩;rw[←hsl] at o0;have HOP:Hid (OPA W w1.heap.size (.slice ob sl oc) (qC6 r.cont lo hi M)):=by rw[hsl];exact hOP
   have HW:Hid (W.heap[t.St]?=some (μ 0 s)∧E.Dev W∧Kp (t.St::(w.heap.size+1+1+1)::E.S) w1 W∧W.heap[w.heap.size+1]?=some (.cells #[.slice none 0 0] 29)∧W.heap[w.heap.size+1+1]?=some (.cells #[.nilIface] 38)∧W.heap[w1.heap.size]?=some (.deferred (some []))):=⟨hSt,hd,hkp,hRW,hEW,hD⟩;clear hM1 hR1 hE1 hO1 hI1 hSt hd hkp hRW hEW hD hO hOP hsl hlow
   gi_wp2
   obtain⟨hSt,hd,hkp,hRW,hEW,hD⟩:=HW.out;have hs0:=HS0.out;have hKw1:Kp (t.St::(w.heap.size+1+1+1)::E.S) w W:=(HK1.out.mono (by simp)).trans hkp (fun _ h _=>h);have hsw:=hKw1.size;have hEl:∀ k∈E.S,k<w.heap.size:=E.low w HL.out.dev;obtain⟨w4,hw4,hR4,hE4,hD4,hK4⟩:∃ w4,w4=(W.setCell ⟨w.heap.size+1,0,none⟩ (.slice ob sl oc)).setCell ⟨w.heap.size+1+1,0,none⟩ .nilIface∧w4.heap[w.heap.size+1]?=some (.cells #[.slice ob sl oc] 29)∧w4.heap[w.heap.size+1+1]?=some (.cells #[.nilIface] 38)∧w4.heap[w1.heap.size]?=some (.deferred (some []))∧Kp [w.heap.size+1,w.heap.size+1+1] W w4:=
    ⟨_,rfl,(qA0 (by omega) _ _).trans (ν hRW 0 _),ν ((qA0 (by omega) _ _).trans hEW) 0 _,(qA0 (by omega) _ _).trans ((qA0 (by omega) _ _).trans hD),((Kp.refl _ _).sc _).sc _⟩
   rw[←hw4];clear hw4;refine⟨by simp,.inl ⟨_,_,rfl,run_takeDeferred hD4,?_⟩⟩;obtain⟨w5,hw5,hR5,hE5,hK5⟩:∃ w5,w5=w4.putObj w1.heap.size (.deferred none)∧w5.heap[w.heap.size+1]?=some (.cells #[.slice ob sl oc] 29)∧w5.heap[w.heap.size+1+1]?=some (.cells #[.nilIface] 38)∧Kp [w.heap.size+1,w.heap.size+1+1,w1.heap.size] W w5:=
    ⟨_,rfl,(World.putObj_heap_other (by omega)).trans hR4,(World.putObj_heap_other (by omega)).trans hE4,(hK4.mono (by simp +contextual)).putObj (by simp) _⟩
   rw[←hw5];clear hw5;have r0:=ξ hR5 0;have e0:=ξ hE5 0;simp only[zG,zH] at r0 e0;have hoff:OffD W [w.heap.size+1,w.heap.size+1+1,w1.heap.size]:=(OffD.one hRW (by decide)).cons ((OffD.one hEW (by decide)).cons (fun k hk c t fr e=>by rw[List.mem_singleton.1 hk,hD] at e;cases e));have hop5:OPA w5 w1.heap.size (.slice ob sl oc) (qC6 r.cont lo hi M):=HOP.out.keep hK5 (fun k hk c fr e=>by
    simp only[List.mem_cons,List.not_mem_nil,or_false] at hk;rcases hk with h|h|h
    ·rw[h,hRW] at e;cases e
    ·rw[h,hEW] at e;cases e
    ·rw[h,hD] at e;cases e)
   refine⟨.tuple #[.slice ob sl oc,.nilIface],?_,.slice ob sl oc,rfl,?_,E.keepX _ _ _ hd hK5 hoff,hK5.heap hSt ?_,hKw1.trans hK5 ?_ |>.mono ?_⟩
   ·simp[results,results71,go_sem,r0,e0]
   ·rw[HSC.out];exact qL2 hop5 (by omega)
   ·simp only[List.mem_cons,List.not_mem_nil,or_false,not_or];exact⟨by omega,by omega,by omega⟩
   ·intro i hi hlt;simp at hi;omega
   ·intro i hi hlt;simp only[List.mem_cons] at hi ⊢;rcases hi with h|h|h
    ·exact .inl h
    ·omega
    ·exact .inr h
  case stop=>
   intro W v hkp hSt hd hO hOP hD hlt;have hlow:∀ k,w.heap.size≤k→k≠w.heap.size+1+1+1→k ∉ t.St::(w.heap.size+1+1+1)::E.S:=fun k hk hne hm=>by
    simp only[List.mem_cons] at hm;rcases hm with h|h|h
    ·omega
    ·omega
    ·have:=E.low w HL.out.dev _ h;omega
   have hRW:=hkp.heap hR1 (hlow _ (by omega) (by omega));have hEW:=hkp.heap hE1 (hlow _ (by omega) (by omega));have hObs:=ζ hO;have hRs:=ζ hRW;have hEs:=ζ hEW;obtain⟨ob,oc,hform⟩:=hOP.form;subst hform;have o0:=ξ hO 0;simp only[zG,zH,zI] at o0;have r0:=ξ hRW 0;simp only[zG,zH,zI] at r0;have fr0:=υ hRW 0;have e0:=ξ hEW 0;simp only[zG,zH,zI] at e0;have fe0:=υ hEW 0;obtain⟨sl,hsl⟩:∃ sl,sl=(qC6 r.cont lo hi M).length:=⟨_,rfl⟩;rw[←hsl] at o0;have HOP:Hid (OPA W w1.heap.size (.slice ob sl oc) (qC6 r.cont lo hi M)):=by rw[hsl];exact hOP
   have HW:Hid (W.heap[t.St]?=some (μ 0 s)∧E.Dev W∧Kp (t.St::(w.heap.size+1+1+1)::E.S) w1 W∧W.heap[w.heap.size+1]?=some (.cells #[.slice none 0 0] 29)∧W.heap[w.heap.size+1+1]?=some (.cells #[.nilIface] 38)∧W.heap[w1.heap.size]?=some (.deferred (some []))):=⟨hSt,hd,hkp,hRW,hEW,hD⟩;clear hM1 hR1 hE1 hO1 hI1 hSt hd hkp hRW hEW hD hO hOP hsl hlow
   gi_wp2
   obtain⟨hSt,hd,hkp,hRW,hEW,hD⟩:=HW.out;have hs0:=HS0.out;have hKw1:Kp (t.St::(w.heap.size+1+1+1)::E.S) w W:=(HK1.out.mono (by simp)).trans hkp (fun _ h _=>h);have hsw:=hKw1.size;have hEl:∀ k∈E.S,k<w.heap.size:=E.low w HL.out.dev;obtain⟨w4,hw4,hR4,hE4,hD4,hK4⟩:∃ w4,w4=(W.setCell ⟨w.heap.size+1,0,none⟩ (.slice ob sl oc)).setCell ⟨w.heap.size+1+1,0,none⟩ .nilIface∧w4.heap[w.heap.size+1]?=some (.cells #[.slice ob sl oc] 29)∧w4.heap[w.heap.size+1+1]?=some (.cells #[.nilIface] 38)∧w4.heap[w1.heap.size]?=some (.deferred (some []))∧Kp [w.heap.size+1,w.heap.size+1+1] W w4:=
    ⟨_,rfl,(qA0 (by omega) _ _).trans (ν hRW 0 _),ν ((qA0 (by omega) _ _).trans hEW) 0 _,(qA0 (by omega) _ _).trans ((qA0 (by omega) _ _).trans hD),((Kp.refl _ _).sc _).sc _⟩
   rw[←hw4];clear hw4;refine⟨by simp,.inl ⟨_,_,rfl,run_takeDeferred hD4,?_⟩⟩;obtain⟨w5,hw5,hR5,hE5,hK5⟩:∃ w5,w5=w4.putObj w1.heap.size (.deferred none)∧w5.heap[w.heap.size+1]?=some (.cells #[.slice ob sl oc] 29)∧w5.heap[w.heap.size+1+1]?=some (.cells #[.nilIface] 38)∧Kp [w.heap.size+1,w.heap.size+1+1,w1.heap.size] W w5:=
    ⟨_,rfl,(World.putObj_heap_other (by omega)).trans hR4,(World.putObj_heap_other (by omega)).trans hE4,(hK4.mono (by simp +contextual)).putObj (by simp) _⟩
   rw[←hw5];clear hw5;have r0:=ξ hR5 0;have e0:=ξ hE5 0;simp only[zG,zH] at r0 e0;have hoff:OffD W [w.heap.size+1,w.heap.size+1+1,w1.heap.size]:=(OffD.one hRW (by decide)).cons ((OffD.one hEW (by decide)).cons (fun k hk c t fr e=>by rw[List.mem_singleton.1 hk,hD] at e;cases e));have hop5:OPA w5 w1.heap.size (.slice ob sl oc) (qC6 r.cont lo hi M):=HOP.out.keep hK5 (fun k hk c fr e=>by
    simp only[List.mem_cons,List.not_mem_nil,or_false] at hk;rcases hk with h|h|h
    ·rw[h,hRW] at e;cases e
    ·rw[h,hEW] at e;cases e
    ·rw[h,hD] at e;cases e)
   refine⟨.tuple #[.slice ob sl oc,.nilIface],?_,.slice ob sl oc,rfl,?_,E.keepX _ _ _ hd hK5 hoff,hK5.heap hSt ?_,hKw1.trans hK5 ?_ |>.mono ?_⟩
   ·simp[results,results71,go_sem,r0,e0]
   ·rw[HSC.out];exact qL2 hop5 (by omega)
   ·simp only[List.mem_cons,List.not_mem_nil,or_false,not_or];exact⟨by omega,by omega,by omega⟩
   ·intro i hi hlt;simp at hi;omega
   ·intro i hi hlt;simp only[List.mem_cons] at hi ⊢;rcases hi with h|h|h
    ·exact .inl h
    ·omega
    ·exact .inr h
 ·have hM1:most=(M:Int):=by omega
  have HM1:=zh hM1;clear hM1 hM
  gi_wp2_with fail
  refine⟨trivial,?_⟩;have e0:(((w.alloc (.cells #[.int .i64 most] 3)).alloc (.cells #[.slice none 0 0] 29)).alloc (.cells #[.nilIface] 38)).alloc (.cells #[.slice none 0 0] 29)=w0:=by rw[HW0.out,←HM1.out]
  rw[e0];clear e0;have hL0:=HL.out.more hK0;refine callsIn_wide.2 ((qS4 x lo hi w0).mono ?_);rintro e w1 ⟨rfl,hB1,hLc1,hHc1,hK1⟩;have hI1:AllIn E x A n t s r w0.heap.size (w0.heap.size+1) (w0.heap.size+2) lo hi w1:=⟨hL0.more hK1,hB1,hLc1,hHc1⟩;have hM1:=hK1.hp hM0;have hR1:=hK1.hp hR0;have hE1:=hK1.hp hE0;have hO1:=hK1.hp hO0;have HK1:Hid (Kp [] w w1):=hK0.tr hK1;have hs1:=hK1.size;clear hM0 hR0 hE0 hO0 hK0 hK1 hB1 hLc1 hHc1 hL0
  gi_wp2_with fail
  have hSo:t.St≠w.heap.size+1+1+1:=by omega
  refine zQ2 E x A n t s r w0.heap.size (w0.heap.size+1) (w0.heap.size+2) (w.heap.size+1+1+1) M 0 lo hi (by decide) rfl rfl hI1 hO1 (fun p Pb=>{ tmps:=#[.pointer (some ⟨x,0,none⟩),.string lo,.string hi,.int .i64 most,undef,undef,undef,.pointer (some ⟨w.heap.size,0,none⟩),.pointer (some ⟨w.heap.size+1,0,none⟩),.pointer (some ⟨w.heap.size+1+1,0,none⟩),.pointer (some ⟨w.heap.size+1+1+1,0,none⟩),.pointer (some ⟨Pb,0,none⟩),.nilIface,.int .i64 most,.bool false,.pointer (some ⟨x,0,none⟩),.string lo,.string hi,.func (.func 176) #[] #[.pointer (some ⟨w0.heap.size,0,none⟩),.pointer (some ⟨w0.heap.size+1,0,none⟩),.pointer (some ⟨w0.heap.size+2,0,none⟩)],.agg #[.string p.k,.string p.v],.nilIface,undef,undef,undef,undef,undef,undef,undef,undef,undef,undef,undef,undef],defers:=[] }) ?assign ?body ?done ?stop
  case assign=>
   intro l p W K hK
   gi_wp2
   exact hK
  case body=>
   intro l pre p W v Pb hO hOP hP hPb hown hkp hle hlen;have hMW:=hkp.heap hM1 (by
    simp only[List.mem_cons,not_or];exact⟨by omega,by omega,fun h=>by have:=E.low w HL.out.dev _ h;omega⟩)
   have hObs:=ζ hO;have hPs:=ζ hP;have hMs:=ζ hMW;have o0:=ξ hO 0;simp only[zG,zH,zI] at o0;have fo0:=υ hO 0;have p0:=ξ hP;have m0:=ξ hMW 0;simp only[zG,zH,zI] at m0;obtain⟨ob,oc,rfl⟩:=hOP.form;by_cases hq:pre.length=M
   ·have hqb:(pre.length:Int)=(M:Int):=by omega
    clear hM1 hR1 hE1 hO1 hI1 hO hP hMW
    gi_wp2
    all_goals exact⟨rfl,hq,rfl⟩
   ·have hqb:¬(pre.length:Int)=(M:Int):=by omega
    have HOO:Hid (W.heap[w.heap.size+1+1+1]?=some (.cells #[.slice ob pre.length oc] 29)∧OPA W w1.heap.size (.slice ob pre.length oc) pre∧Kp (t.St::(w.heap.size+1+1+1)::E.S) w1 W):=⟨hO,hOP,hkp⟩;have hsz:=hkp.size;have HNO:Hid ((Value.slice ob pre.length oc).ownBlock≠some (w.heap.size+1+1+1)):=fun e=>by
     rcases hOP.2 with⟨h0,_⟩|⟨gb,cap,cur,e1,e2,e3,_⟩
     ·rw[h0] at e;cases e
     ·rw[e1] at e;cases e;rw[hO] at e3;cases e3
    clear hM1 hR1 hE1 hO1 hI1 hO hP hMW hOP hkp
    gi_wp2_with (gi_at_builtin;refine wpListIn_append_own _ rfl _ _ 29 rfl w1.heap.size 42 i0 (.agg #[.string ⟨#[]⟩,.string ⟨#[]⟩]) 2 32 underlying29 hi0 hz0 hz1 hz2 rfl (by decide) _ _ _ rfl (World.ownsRow.alloc HOO.out.2.1 _) ⟨W.heap.size,0,none⟩ 1 1 [.string p.k,.string p.v] rfl rfl (zP4 _ _ _ _) (by simp[Value.oneCell']) (by unfold maxLen;omega) (by omega) (by simp;omega) ?_;intro v5 w5 hO5 hg5 _;obtain⟨g5,c5,rfl⟩:=qL1 hO5;have hOb5:=zI5 HOO.out.1 hg5 HNO.out;have o5:=ξ hOb5 0;have fo5:=υ hOb5 0;simp only[zG,zH] at o5)
    have hpl:pre.length<M:=by omega
    have hs5:=hg5.size;refine⟨hpl,.slice (some ⟨g5,0,none⟩) (pre.length+1) c5,[w.heap.size+1+1+1]++(Value.slice ob pre.length oc).ownBlock.toList,?_,?_,ν hOb5 0 _,?_,?_⟩
    ·refine ((((Kp.refl _ W).alloc _).grown hg5 (fun k hk=>.inl (List.mem_append.2 (.inr (by have hk2:(Value.slice ob pre.length oc).ownBlock=some k:=hk;rw[hk2];simp))))).sc _)
    ·intro k hk;rcases List.mem_append.1 hk with h|h
     ·exact .inl (List.mem_singleton.1 h)
     ·exact .inr (by simpa using h)
    ·have e:ω (pre++[p])=ω pre++[.string p.k,.string p.v]:=zM6 pre p;unfold OPA;rw[e,List.length_append];refine OPA.keepR hO5 ((Kp.refl [w.heap.size+1+1+1] w5).sc _) (fun k hk c fr e=>?_);rw[List.mem_singleton.1 hk,hOb5] at e;cases e
    ·intro k hk;have:=(World.ownsRow.lt hO5 k hk).2;simp[World.setCell];omega
  case done=>
   intro W v hkp hSt hd hO hOP hD hlt;have hlow:∀ k,w.heap.size≤k→k≠w.heap.size+1+1+1→k ∉ t.St::(w.heap.size+1+1+1)::E.S:=fun k hk hne hm=>by
    simp only[List.mem_cons] at hm;rcases hm with h|h|h
    ·omega
    ·omega
    ·have:=E.low w HL.out.dev _ h;omega
   have hRW:=hkp.heap hR1 (hlow _ (by omega) (by omega));have hEW:=hkp.heap hE1 (hlow _ (by omega) (by omega));have hObs:=ζ hO;have hRs:=ζ hRW;have hEs:=ζ hEW;obtain⟨ob,oc,hform⟩:=hOP.form;subst hform;have o0:=ξ hO 0;simp only[zG,zH,zI] at o0;have r0:=ξ hRW 0;simp only[zG,zH,zI] at r0;have fr0:=υ hRW 0;have e0:=ξ hEW 0;simp only[zG,zH,zI] at e0;have fe0:=υ hEW 0;obtain⟨sl,hsl⟩:∃ sl,sl=(qC6 r.cont lo hi M).length:=⟨_,rfl⟩;rw[←hsl] at o0;have HOP:Hid (OPA W w1.heap.size (.slice ob sl oc) (qC6 r.cont lo hi M)):=by rw[hsl];exact hOP
   have HW:Hid (W.heap[t.St]?=some (μ 0 s)∧E.Dev W∧Kp (t.St::(w.heap.size+1+1+1)::E.S) w1 W∧W.heap[w.heap.size+1]?=some (.cells #[.slice none 0 0] 29)∧W.heap[w.heap.size+1+1]?=some (.cells #[.nilIface] 38)∧W.heap[w1.heap.size]?=some (.deferred (some []))):=⟨hSt,hd,hkp,hRW,hEW,hD⟩;clear hM1 hR1 hE1 hO1 hI1 hSt hd hkp hRW hEW hD hO hOP hsl hlow
   gi_wp2
   obtain⟨hSt,hd,hkp,hRW,hEW,hD⟩:=HW.out;have hs0:=HS0.out;have hKw1:Kp (t.St::(w.heap.size+1+1+1)::E.S) w W:=(HK1.out.mono (by simp)).trans hkp (fun _ h _=>h);have hsw:=hKw1.size;have hEl:∀ k∈E.S,k<w.heap.size:=E.low w HL.out.dev;obtain⟨w4,hw4,hR4,hE4,hD4,hK4⟩:∃ w4,w4=(W.setCell ⟨w.heap.size+1,0,none⟩ (.slice ob sl oc)).setCell ⟨w.heap.size+1+1,0,none⟩ .nilIface∧w4.heap[w.heap.size+1]?=some (.cells #[.slice ob sl oc] 29)∧w4.heap[w.heap.size+1+1]?=some (.cells #[.nilIface] 38)∧w4.heap[w1.heap.size]?=some (.deferred (some []))∧Kp [w.heap.size+1,w.heap.size+1+1] W w4:=
    ⟨_,rfl,(qA0 (by omega) _ _).trans (ν hRW 0 _),ν ((qA0 (by omega) _ _).trans hEW) 0 _,(qA0 (by omega) _ _).trans ((qA0 (by omega) _ _).trans hD),((Kp.refl _ _).sc _).sc _⟩
   rw[←hw4];clear hw4;refine⟨by simp,.inl ⟨_,_,rfl,run_takeDeferred hD4,?_⟩⟩;obtain⟨w5,hw5,hR5,hE5,hK5⟩:∃ w5,w5=w4.putObj w1.heap.size (.deferred none)∧w5.heap[w.heap.size+1]?=some (.cells #[.slice ob sl oc] 29)∧w5.heap[w.heap.size+1+1]?=some (.cells #[.nilIface] 38)∧Kp [w.heap.size+1,w.heap.size+1+1,w1.heap.size] W w5:=
    ⟨_,rfl,(World.putObj_heap_other (by omega)).trans hR4,(World.putObj_heap_other (by omega)).trans hE4,(hK4.mono (by simp +contextual)).putObj (by simp) _⟩
   rw[←hw5];clear hw5;have r0:=ξ hR5 0;have e0:=ξ hE5 0;simp only[zG,zH] at r0 e0;have hoff:OffD W [w.heap.size+1,w.heap.size+1+1,w1.heap.size]:=(OffD.one hRW (by decide)).cons ((OffD.one hEW (by decide)).cons (fun k hk c t fr e=>by rw[List.mem_singleton.1 hk,hD] at e;cases e));have hop5:OPA w5 w1.heap.size (.slice ob sl oc) (qC6 r.cont lo hi M):=HOP.out.keep hK5 (fun k hk c fr e=>by
    simp only[List.mem_cons,List.not_mem_nil,or_false] at hk;rcases hk with h|h|h
    ·rw[h,hRW] at e;cases e
    ·rw[h,hEW] at e;cases e
    ·rw[h,hD] at e;cases e)
   refine⟨.tuple #[.slice ob sl oc,.nilIface],?_,.slice ob sl oc,rfl,?_,E.keepX _ _ _ hd hK5 hoff,hK5.heap hSt ?_,hKw1.trans hK5 ?_ |>.mono ?_⟩
   ·simp[results,results71,go_sem,r0,e0]
   ·rw[HSC.out];exact qL2 hop5 (by omega)
   ·simp only[List.mem_cons,List.not_mem_nil,or_false,not_or];exact⟨by omega,by omega,by omega⟩
   ·intro i hi hlt;simp at hi;omega
   ·intro i hi hlt;simp only[List.mem_cons] at hi ⊢;rcases hi with h|h|h
    ·exact .inl h
    ·omega
    ·exact .inr h
  case stop=>
   intro W v hkp hSt hd hO hOP hD hlt;have hlow:∀ k,w.heap.size≤k→k≠w.heap.size+1+1+1→k ∉ t.St::(w.heap.size+1+1+1)::E.S:=fun k hk hne hm=>by
    simp only[List.mem_cons] at hm;rcases hm with h|h|h
    ·omega
    ·omega
    ·have:=E.low w HL.out.dev _ h;omega
   have hRW:=hkp.heap hR1 (hlow _ (by omega) (by omega));have hEW:=hkp.heap hE1 (hlow _ (by omega) (by omega));have hObs:=ζ hO;have hRs:=ζ hRW;have hEs:=ζ hEW;obtain⟨ob,oc,hform⟩:=hOP.form;subst hform;have o0:=ξ hO 0;simp only[zG,zH,zI] at o0;have r0:=ξ hRW 0;simp only[zG,zH,zI] at r0;have fr0:=υ hRW 0;have e0:=ξ hEW 0;simp only[zG,zH,zI] at e0;have fe0:=υ hEW 0;obtain⟨sl,hsl⟩:∃ sl,sl=(qC6 r.cont lo hi M).length:=⟨_,rfl⟩;rw[←hsl] at o0;have HOP:Hid (OPA W w1.heap.size (.slice ob sl oc) (qC6 r.cont lo hi M)):=by rw[hsl];exact hOP
   have HW:Hid (W.heap[t.St]?=some (μ 0 s)∧E.Dev W∧Kp (t.St::(w.heap.size+1+1+1)::E.S) w1 W∧W.heap[w.heap.size+1]?=some (.cells #[.slice none 0 0] 29)∧W.heap[w.heap.size+1+1]?=some (.cells #[.nilIface] 38)∧W.heap[w1.heap.size]?=some (.deferred (some []))):=⟨hSt,hd,hkp,hRW,hEW,hD⟩;clear hM1 hR1 hE1 hO1 hI1 hSt hd hkp hRW hEW hD hO hOP hsl hlow
   gi_wp2
   obtain⟨hSt,hd,hkp,hRW,hEW,hD⟩:=HW.out;have hs0:=HS0.out;have hKw1:Kp (t.St::(w.heap.size+1+1+1)::E.S) w W:=(HK1.out.mono (by simp)).trans hkp (fun _ h _=>h);have hsw:=hKw1.size;have hEl:∀ k∈E.S,k<w.heap.size:=E.low w HL.out.dev;obtain⟨w4,hw4,hR4,hE4,hD4,hK4⟩:∃ w4,w4=(W.setCell ⟨w.heap.size+1,0,none⟩ (.slice ob sl oc)).setCell ⟨w.heap.size+1+1,0,none⟩ .nilIface∧w4.heap[w.heap.size+1]?=some (.cells #[.slice ob sl oc] 29)∧w4.heap[w.heap.size+1+1]?=some (.cells #[.nilIface] 38)∧w4.heap[w1.heap.size]?=some (.deferred (some []))∧Kp [w.heap.size+1,w.heap.size+1+1] W w4:=
    ⟨_,rfl,(qA0 (by omega) _ _).trans (ν hRW 0 _),ν ((qA0 (by omega) _ _).trans hEW) 0 _,(qA0 (by omega) _ _).trans ((qA0 (by omega) _ _).trans hD),((Kp.refl _ _).sc _).sc _⟩
   rw[←hw4];clear hw4;refine⟨by simp,.inl ⟨_,_,rfl,run_takeDeferred hD4,?_⟩⟩;obtain⟨w5,hw5,hR5,hE5,hK5⟩:∃ w5,w5=w4.putObj w1.heap.size (.deferred none)∧w5.heap[w.heap.size+1]?=some (.cells #[.slice ob sl oc] 29)∧w5.heap[w.heap.size+1+1]?=some (.cells #[.nilIface] 38)∧Kp [w.heap.size+1,w.heap.size+1+1,w1.heap.size] W w5:=
    ⟨_,rfl,(World.putObj_heap_other (by omega)).trans hR4,(World.putObj_heap_other (by omega)).trans hE4,(hK4.mono (by simp +contextual)).putObj (by simp) _⟩
   rw[←hw5];clear hw5;have r0:=ξ hR5 0;have e0:=ξ hE5 0;simp only[zG,zH] at r0 e0;have hoff:OffD W [w.heap.size+1,w.heap.size+1+1,w1.heap.size]:=(OffD.one hRW (by decide)).cons ((OffD.one hEW (by decide)).cons (fun k hk c t fr e=>by rw[List.mem_singleton.1 hk,hD] at e;cases e));have hop5:OPA w5 w1.heap.size (.slice ob sl oc) (qC6 r.cont lo hi M):=HOP.out.keep hK5 (fun k hk c fr e=>by
    simp only[List.mem_cons,List.not_mem_nil,or_false] at hk;rcases hk with h|h|h
    ·rw[h,hRW] at e;cases e
    ·rw[h,hEW] at e;cases e
    ·rw[h,hD] at e;cases e)
   refine⟨.tuple #[.slice ob sl oc,.nilIface],?_,.slice ob sl oc,rfl,?_,E.keepX _ _ _ hd hK5 hoff,hK5.heap hSt ?_,hKw1.trans hK5 ?_ |>.mono ?_⟩
   ·simp[results,results71,go_sem,r0,e0]
   ·rw[HSC.out];exact qL2 hop5 (by omega)
   ·simp only[List.mem_cons,List.not_mem_nil,or_false,not_or];exact⟨by omega,by omega,by omega⟩
   ·intro i hi hlt;simp at hi;omega
   ·intro i hi hlt;simp only[List.mem_cons] at hi ⊢;rcases hi with h|h|h
    ·exact .inl h
    ·omega
    ·exact .inr h
end Go.Proofs.YtdohpenfkdckiaaGreatDoor
