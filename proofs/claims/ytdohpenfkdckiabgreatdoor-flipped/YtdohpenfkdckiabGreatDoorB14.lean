import Derived.Test.YtdohpenfkdckiabGreatDoorB12
import Derived.Test.YtdohpenfkdckiabGreatDoorB13
import Derived.Laws.EntriesVeiled
set_option linter.all false
set_option maxRecDepth 100000
set_option maxHeartbeats 20000000
namespace Go.Proofs.YtdohpenfkdckiabGreatDoor
open Go.Proofs.Tryz
open Go.RowKit
theorem xT1(Tc Kc Wc x f:Nat)(t:Tx)(key:ByteArray)(first cap:Array Value)(R:HL→World→Prop)(w:World)(hTc:w.heap[Tc]?=some (.cells #[.pointer (some ⟨x,0,none⟩)] 29))(hKc:w.heap[Kc]?=some (.cells #[.string key] 9))(hWc:w.heap[Wc]?=some (.cells #[.func (.func f) first cap] 1))(hx:w.heap[x]?=some (qA6 t))(hwr:t.wrt=true)(hk1:1≤key.size)(hk8:key.size≤8)(h0:0≤t.ch)(h1:t.ch≤1000000000)
  (hcf:∀ W:World,Sem.run prog (callFunc f (first++cap)) W=.ok (.enter f (first++cap)) W)
  (hw:Calls prog f (first++cap) w fun e w'=>e=qD1 none∧∃ h',R h' w'∧w'.heap[x]?=some (qA6 { t with h:=h' })∧w'.heap[Tc]?=some (.cells #[.pointer (some ⟨x,0,none⟩)] 29)):
  Calls prog 90 #[.pointer (some ⟨Tc,0,none⟩),.pointer (some ⟨Kc,0,none⟩),.pointer (some ⟨Wc,0,none⟩)] w fun e w'=>e=qD1 none∧∃ w1 h',R h' w1∧w1.heap[x]?=some (qA6 { t with h:=h' })∧w'.heap[x]?=some (qA6 { t with h:=h',ch:=t.ch+1 })∧Kp [x] w1 w':=by
 have hs:=ζ hTc;have hxs:=ζ hx;have hks:=ζ hKc;have hws:=ζ hWc;have c0:=ξ hTc 0;simp only[zG,zH,zI] at c0;have k0:=ξ hKc 0;simp only[zG,zH,zI] at k0;have f0:=ξ hWc 0;simp only[zG,zH,zI] at f0;have x2:=ξ hx 2;simp only[qA6,zG,zH,zI] at x2;rw[hwr] at x2;have HW:=zh hw;clear hw;go_enter func90,ntmps90;go_wp2_with fail;refine (zR6 key _ hk1 hk8).mono ?_;rintro e w1 ⟨rfl,rfl⟩;simp only[qD1];go_wp2_with fail;refine (show Calls _ _ _ _ _ from HW.out).mono ?_;rintro e w1 ⟨rfl,h',hR,hx1,hTc1⟩;have HR:=zh hR;clear hR;clear c0 k0 f0 x2;have hx1s:=ζ hx1;have hTc1s:=ζ hTc1;have HX:=zh hx1;have c0:=ξ hTc1 0;simp only[zG,zH,zI] at c0;have x9:=ξ hx1 9;simp only[qA6,zG,zH,zI] at x9;have fx9:=ρ hx1 9;clear hx1 hTc1;simp only[qD1];go_wp2
 go_end0
 exact⟨rfl,w1,h',HR.out,HX.out,ω HX.out 9 _,(Kp.refl _ _).sc _⟩
theorem xS6(args:Array Value)(W:World):Sem.run prog (callFunc 90 args) W=.ok (.enter 90 args) W:=by
 simp[go_sem,func90]
theorem xJ7(k:Option Int)(hk8:k≠some 8)(x f:Nat)(t:Tx)(s:Sto)(key call:ByteArray)(first cap:Array Value)(X:List Nat)(Q:World→World→Prop)(w:World)(hx:w.heap[x]?=some (qA6 t))(ho:t.over=false)(hSt:w.heap[t.St]?=some (τ 0 s))(hpo:s.po=false)(hxS:x≠t.St)(hX:∀ i,i∈X→i<w.heap.size)
  (hw:∀ (W:World) (Tc Kc Wc:Nat),Kp [t.St] w W→w.heap.size≤Tc→w.heap.size≤Kc→w.heap.size≤Wc→W.heap[t.St]?=some (τ 1 s)→W.heap[Tc]?=some (.cells #[.pointer (some ⟨x,0,none⟩)] 29)→W.heap[Kc]?=some (.cells #[.string key] 9)→W.heap[Wc]?=some (.cells #[.func (.func f) first cap] 1)→
   Calls prog 90 #[.pointer (some ⟨Tc,0,none⟩),.pointer (some ⟨Kc,0,none⟩),.pointer (some ⟨Wc,0,none⟩)] W fun e w1=>e=qD1 k∧Q W w1∧Kp (t.St::X) W w1∧w1.heap[t.St]?=some (τ 1 s)):
  Calls prog 51 #[.pointer (some ⟨x,0,none⟩),.string call,.string key,.func (.func f) first cap] w fun e w'=>∃ v,e=.returned v∧qI9 w' v k∧w'.heap[t.St]?=some (τ 0 s)∧Kp (t.St::X) w w'∧∃ W w1 B,Q W w1∧Kp [t.St] w W∧w.heap.size≤B∧B<W.heap.size∧w1.heap[B]?=some (.cells #[.nilIface] 35)∧Kp [t.St,B] w1 w':=by
 have hmf:=zM;have HW:Hid (∀ (W:World) (Tc Kc Wc:Nat),Kp [t.St] w W→w.heap.size≤Tc→w.heap.size≤Kc→w.heap.size≤Wc→W.heap[t.St]?=some (τ 1 s)→W.heap[Tc]?=some (.cells #[.pointer (some ⟨x,0,none⟩)] 29)→W.heap[Kc]?=some (.cells #[.string key] 9)→W.heap[Wc]?=some (.cells #[.func (.func f) first cap] 1)→
   Calls prog 90 #[.pointer (some ⟨Tc,0,none⟩),.pointer (some ⟨Kc,0,none⟩),.pointer (some ⟨Wc,0,none⟩)] W fun e w1=>e=qD1 k∧Q W w1∧Kp (t.St::X) W w1∧w1.heap[t.St]?=some (τ 1 s)):=hw
 have HX:=zh hX;have HK8:=zh hk8;have HXS:=zh hxS;clear hw hX hk8 hxS;have hxs:=ζ hx;have hSs:=ζ hSt;go_enter func51,ntmps51;go_wp2_with fail;obtain⟨w0,hw0,hT0,hK0,hF0,hKp0,hs0⟩:∃ w0,w0=((w.alloc (.cells #[.pointer (some ⟨x,0,none⟩)] 29)).alloc (.cells #[.string key] 9)).alloc (.cells #[.func (.func f) first cap] 1)∧w0.heap[w.heap.size]?=some (.cells #[.pointer (some ⟨x,0,none⟩)] 29)∧w0.heap[w.heap.size+1]?=some (.cells #[.string key] 9)∧w0.heap[w.heap.size+2]?=some (.cells #[.func (.func f) first cap] 1)∧Kp [] w w0∧w0.heap.size=w.heap.size+3:=by
  refine⟨_,rfl,θ _ (θ _ (μ _ _)),θ _ ?_,?_,(((Kp.refl _ _).alloc _).alloc _).alloc _,by simp⟩
  ·have e:=μ (w.alloc (.cells #[.pointer (some ⟨x,0,none⟩)] 29)) (.cells #[.string key] 9);simpa using e
  ·have e:=μ ((w.alloc (.cells #[.pointer (some ⟨x,0,none⟩)] 29)).alloc (.cells #[.string key] 9)) (.cells #[.func (.func f) first cap] 1);simpa using e
 rw[←hw0];clear hw0;have hx0:=hKp0.hp hx;have hSt0:=hKp0.hp hSt;refine (qX3 k HK8.out x t.St 90 t s s #[] _ call X Q w0 hx0 ho rfl hSt0 hpo HXS.out (xS6 _) (fun i hi=>by have:=HX.out i hi;omega) ?_).mono ?_
 ·intro W hK hS;exact HW.out W w.heap.size (w.heap.size+1) (w.heap.size+2) ((hKp0.mono (S':=[t.St]) (by simp)).trans hK (fun _ h _=>h)) (Nat.le_refl _) (by omega) (by omega) hS (hK.ho hT0) (hK.ho hK0) (hK.ho hF0)
 rintro e w2 ⟨v,rfl,hv,hSt2,hK2,W,w1,B,hQ,hKW,hB1,hB2,hB3,hKB⟩;have HE:Hid (qI9 w2 v k∧w2.heap[t.St]?=some (τ 0 s)∧Kp (t.St::X) w w2∧∃ W w1 B,Q W w1∧Kp [t.St] w W∧w.heap.size≤B∧B<W.heap.size∧w1.heap[B]?=some (.cells #[.nilIface] 35)∧Kp [t.St,B] w1 w2):=
  ⟨hv,hSt2,(hKp0.mono (S':=t.St::X) (by simp)).trans hK2 (fun _ h _=>h),W,w1,B,hQ,(hKp0.mono (S':=[t.St]) (by simp)).trans hKW (fun _ h _=>h),by omega,hB2,hB3,hKB⟩
 clear hv hSt2 hK2 hQ hKW hB3 hKB;go_wp2;go_ret;exact⟨v,rfl,HE.out⟩
structure LiveT(E:SEnv)(w:World)(x A n:Nat)(t:Tx)(s:Sto)(r:Root):Prop where
 hx:w.heap[x]?=some (qA6 t)
 over:t.over=false
 on:t.on=some ⟨E.V,0,none⟩
 hSt:w.heap[t.St]?=some (τ 0 s)
 po:s.po=false
 sV:s.V=E.V
 hV:w.heap[E.V]?=some (qB8 A n)
 n1:n≤1000
 bl0:0≤s.bl
 bl1:s.bl≤1000
 dev:E.Dev w
 vS:E.V ∉ E.S
 rr:RR E.toEnv w t.h r
 good:RGood r
 sz:r.cont.length≤50000
 ch0:0≤t.ch
 ch1:t.ch≤100000000
theorem qB7{w:World}{a b:Nat}{c d:Array Value}{t u:TypeId}{fr gr:Nat × Nat}(ha:w.heap[a]?=some (.cells c t fr))(hb:w.heap[b]?=some (.cells d u gr))(h:t≠u):a≠b:=fun e=>by
 subst e;rw[ha] at hb;cases hb;exact h rfl
theorem LiveT.xS{E:SEnv}{w:World}{x A n:Nat}{t:Tx}{s:Sto}{r:Root}(h:LiveT E w x A n t s r):x≠t.St:=qB7 h.hx h.hSt (by decide)
theorem LiveT.devS{E:SEnv}{w W:World}{x A n:Nat}{t:Tx}{s:Sto}{r:Root}(h:LiveT E w x A n t s r)(hK:Kp [t.St] w W):E.Dev W:=E.keepX w W [t.St] h.dev hK (OffD.one h.hSt (by decide))
theorem LiveT.more{E:SEnv}{w W:World}{x A n:Nat}{t:Tx}{s:Sto}{r:Root}(h:LiveT E w x A n t s r)(hK:Kp [] w W):LiveT E W x A n t s r:=
 { h with hx:=hK.hp h.hx,hSt:=hK.hp h.hSt,hV:=hK.hp h.hV,dev:=E.keepX w W [] h.dev hK (fun k hk=>by simp at hk),rr:=h.rr.keepT hK (Apt.nil _ _) }
structure FineT(E:SEnv)(w w':World)(x:Nat)(t:Tx)(s:Sto)(r':Root)(h':HL):Prop where
 hx:w'.heap[x]?=some (qA6 { t with h:=h',ch:=t.ch+1 })
 rr:RR E.toEnv w' h' r'
 dev:E.Dev w'
 hSt:w'.heap[t.St]?=some (τ 0 s)
 kp:Kp (t.St::x::E.S) w w'
structure BadT(E:SEnv)(w w':World)(t:Tx)(s:Sto):Prop where
 dev:E.Dev w'
 hSt:w'.heap[t.St]?=some (τ 0 s)
 kp:Kp (t.St::E.S) w w'
theorem qT8{w1:World}{St B:Nat}{s:Sto}{lk:Int}(h1:w1.heap[St]?=some (τ lk s))(h2:w1.heap[B]?=some (.cells #[.nilIface] 35)):OffD w1 [St,B]:=(OffD.one h1 (by decide)).cons (OffD.one h2 (by decide))
theorem xN2{w1:World}{St B:Nat}{s:Sto}{lk:Int}(h1:w1.heap[St]?=some (τ lk s))(h2:w1.heap[B]?=some (.cells #[.nilIface] 35)):Apt w1 [St,B] qF9:=(Apt.one h1 (by decide)).cons (Apt.one h2 (by decide))
theorem zR5(E:SEnv)(x A n f:Nat)(t:Tx)(s:Sto)(r r':Root)(key call:ByteArray)(first cap:Array Value)(w:World)(hL:LiveT E w x A n t s r)(hwr:t.wrt=true)(hk1:1≤key.size)(hk8:key.size≤8)
  (hcf:∀ W:World,Sem.run prog (callFunc f (first++cap)) W=.ok (.enter f (first++cap)) W)
  (hw:∀ W:World,Kp [t.St] w W→E.Dev W→W.heap[x]?=some (qA6 t)→W.heap[t.St]?=some (τ 1 s)→W.heap[E.V]?=some (qB8 A n)→RR E.toEnv W t.h r→
   Calls prog f (first++cap) W fun e w1=>e=qD1 none∧∃ w0 h',E.To W w0∧RR E.toEnv w1 h' r'∧w1.heap[x]?=some (qA6 { t with h:=h' })∧Kp [x] w0 w1):
  Calls prog 51 #[.pointer (some ⟨x,0,none⟩),.string call,.string key,.func (.func f) first cap] w fun e w'=>e=.returned .nilIface∧∃ h',FineT E w w' x t s r' h':=by
 have hxS:=hL.xS;refine (xJ7 none (by decide) x f t s key call first cap (x::E.S) (fun W w1=>E.Dev w1∧w1.heap[t.St]?=some (τ 1 s)∧∃ h',RR E.toEnv w1 h' r'∧w1.heap[x]?=some (qA6 { t with h:=h',ch:=t.ch+1 })) w hL.hx hL.over hL.hSt hL.po hL.xS (fun i hi=>by
   rcases List.mem_cons.1 hi with h|h
   ·rw[h];exact ζ hL.hx
   ·exact E.low w hL.dev i h) ?_).mono ?_
 ·intro W Tc Kc Wc hK hTcs _ _ hS hT hKc hWc;have hx:=hK.heap hL.hx (by simp;exact hxS);have hd:=hL.devS hK;have hV:=hK.heap hL.hV (by simp;exact fun e=>qB7 hL.hV hL.hSt (by decide) e);have hrr:=hL.rr.keepT hK (Apt.one hL.hSt (by decide));have hxT:x≠Tc:=qB7 hx hT (by decide);have hap:Apt W [x] qF9:=Apt.one hx (by decide);refine (xT1 Tc Kc Wc x f t key first cap (fun h' w1=>∃ w0,E.To W w0∧RR E.toEnv w1 h' r'∧Kp [x] w0 w1) W hT hKc hWc hx hwr hk1 hk8 hL.ch0 (by have:=hL.ch1;omega) hcf ?_).mono ?_
  ·refine (hw W hK hd hx hS hV hrr).mono ?_;rintro e w1 ⟨rfl,w0,h',hT0,hr,hx1,hk⟩;exact⟨rfl,h',⟨w0,hT0,hr,hk⟩,hx1,hk.heap (E.stay hd hT0 hT (by decide)) (by simp;exact fun e=>hxT e.symm)⟩
  ·rintro e w2 ⟨rfl,w1,h',⟨w0,hT0,hr,hk⟩,hx1,hx2,hk2⟩;have hx0:=E.stay hd hT0 hx (by decide);have hd1:=E.keepX w0 w1 [x] hT0.dev hk (OffD.one hx0 (by decide));have hd2:=E.keepX w1 w2 [x] hd1 hk2 (OffD.one hx1 (by decide));have hS2:w2.heap[t.St]?=some (τ 1 s):=hk2.heap (hk.heap (E.stay hd hT0 hS (by decide)) (by simp;exact fun e=>hxS e.symm)) (by simp;exact fun e=>hxS e.symm);refine⟨rfl,⟨hd2,hS2,h',hr.keepT hk2 (Apt.one hx1 (by decide)),hx2⟩,?_,hS2⟩;exact (((hT0.kp.mono (S':=t.St::x::E.S) (by simp +contextual)).trans hk (by simp +contextual)).trans hk2 (by simp +contextual))
 ·rintro e w' ⟨v,rfl,hv,hSt,hK,W,w1,B,⟨hd1,hS1,h',hrr1,hx1⟩,hKW,hB1,hB2,hB3,hKB⟩;have hv':v=.nilIface:=hv;subst hv';refine⟨rfl,h',hKB.heap hx1 ?_,hrr1.keepT hKB (xN2 hS1 hB3),E.keepX w1 w' _ hd1 hKB (qT8 hS1 hB3),hSt,hK⟩;simp only[List.mem_cons,List.not_mem_nil,or_false,not_or];exact⟨hxS,qB7 hx1 hB3 (by decide)⟩
end Go.Proofs.YtdohpenfkdckiabGreatDoor
namespace Go.Proofs.YtdohpenfkdckiabGreatDoor
open Go.Proofs.Tryz
open Go.RowKit
open Go.Maps (Keyed)
theorem zE7{h h':HL}(e:qF1 h=qF1 h')(h1:h.p=none)(h2:h'.p=none):h=h':=by
 cases h;cases h';simp[qF1] at e h1 h2;obtain⟨e1,e2,e3⟩:=e;subst h1 h2 e2 e3
 congr
 exact ByteArray.ext e1
structure Shop0(w:World)(kc db St A C N nM:Nat)(s:Sto)(D:DataW Unit)(l:List UInt8)(wr:Int)(nw:Root):Prop where
 hDb:w.heap[db]?=some (.cells #[.pointer (some ⟨St,0,none⟩)] 95)
 hSt:w.heap[St]?=some (τ 0 s)
 po:s.po=false
 hM:RM w s.V s.M nM D
 m4:Maps.size D≤4
 n1:nM≤1000000
 dev:Devl s.V A N C l wr w
 N8:8≤N
 N4:N≤400
 len:N*128≤l.length
 lie:Lie N l s.rb s.rs nw
 good:RGood nw
 sz:nw.cont.length≤kc
 bl0:0≤s.bl
 bl1:s.bl≤(nw.cont.length:Int)+1
 sN0:0≤s.N
 bg0:0≤s.bg
 kb:∀ k,Maps.has D k=true→∃ x,k=qA4 x∧1≤x∧x≤s.bg
 rd:∀ x h,Maps.has D (qA4 x)=true→(∀ zd,D.atKey (qA4 x) zd=qF1 h)→h.p=none→h.key=⟨#[]⟩∧∃ r,Lie N l h.b h.s r∧RGood r∧r.cont.length≤kc
section
variable {w:World} {kc db St A C N nM:Nat} {s:Sto} {D:DataW Unit} {l:List UInt8} {wr:Int} {nw:Root}
theorem Shop0.hA(h:Shop0 w kc db St A C N nM s D l wr nw):∃ c,w.heap[A]?=some (χ (l.length / 128) N C (.slice none 0 0) c wr):=h.dev.hA
theorem Shop0.AC(h:Shop0 w kc db St A C N nM s D l wr nw):C≠A:=by obtain⟨c,h1⟩:=h.hA;exact qB7 h.dev.hC h1 (by decide)
theorem Shop0.VA(h:Shop0 w kc db St A C N nM s D l wr nw):s.V≠A:=by obtain⟨c,h1⟩:=h.hA;exact qB7 h.dev.hV h1 (by decide)
theorem Shop0.N1(h:Shop0 w kc db St A C N nM s D l wr nw):N≤1000:=by have:=h.N4;omega
abbrev Shop0.E(h:Shop0 w kc db St A C N nM s D l wr nw):SEnv:=EL s.V A N C l wr h.N1 h.len h.AC h.VA
theorem qE6{w:World}{a b:Nat}{c:Array Value}{t:TypeId}{fr:Nat × Nat}{V n:Nat}{D:DataW Unit}(ha:w.heap[a]?=some (.cells c t fr))(hb:RM w V b n D):a≠b:=fun e=>by
 obtain⟨es,cl,h,_⟩:=hb;rw[e,h] at ha;cases ha
theorem qD4{V A N C:Nat}{l:List UInt8}{wr:Int}{w w':World}{S:List Nat}(h:Devl V A N C l wr w)(hK:Kp S w w')(hS:OffD w S):Devl V A N C l wr w':=by
 obtain⟨c,hA⟩:=h.hA;exact⟨hK.heap h.hV (fun hm=>hS _ hm _ _ _ h.hV (by decide)),⟨c,hK.heap hA (fun hm=>hS _ hm _ _ _ hA (by decide))⟩,hK.heap h.hC (fun hm=>hS _ hm _ _ _ h.hC (by decide))⟩
end
end Go.Proofs.YtdohpenfkdckiabGreatDoor
namespace Go.Proofs.YtdohpenfkdckiabGreatDoor
open Go.Proofs.Tryz
open Go.RowKit
theorem zR4(args:Array Value)(W:World):Sem.run prog (callFunc 54 args) W=.ok (.enter 54 args) W:=by
 simp[go_sem,func54]
theorem FineT.from{E:SEnv}{w w0 w':World}{x:Nat}{t:Tx}{s:Sto}{r':Root}{h':HL}(hK:Kp [] w w0)(h:FineT E w0 w' x t s r' h'):FineT E w w' x t s r' h':=
 { h with kp:=(hK.mono (by simp)).trans h.kp (fun _ h _=>h) }
theorem zF3(k:ByteArray):qQ7 k=true↔1≤k.size∧k.size≤8:=by simp[qQ7]
theorem zN6(E:SEnv)(x A n:Nat)(t:Tx)(s:Sto)(r:Root)(p:KV)(w:World)(hL:LiveT E w x A n t s r)(hwr:t.wrt=true)(hok:qC3 p)(hroom:((r.put p).news:Int)≤(n:Int)-2-s.bl):
  Calls prog 28 #[.pointer (some ⟨x,0,none⟩),.string p.k,.string p.v] w fun e w'=>e=.returned .nilIface∧∃ h',FineT E w w' x t s (r.put p) h':=by
 have HL:=zh hL;have HR:=zh hroom;have HOK:=zh hok;have hxs:=ζ hL.hx;have hSs:=ζ hL.hSt;clear hL hroom hok;have hmf:=zM;go_enter func28,ntmps28;go_wp2_with fail;obtain⟨w0,hw0,hT0,hK0,hV0,hKp0,hs0⟩:∃ w0,w0=((w.alloc (.cells #[.pointer (some ⟨x,0,none⟩)] 29)).alloc (.cells #[.string p.k] 9)).alloc (.cells #[.string p.v] 9)∧w0.heap[w.heap.size]?=some (.cells #[.pointer (some ⟨x,0,none⟩)] 29)∧w0.heap[w.heap.size+1]?=some (.cells #[.string p.k] 9)∧w0.heap[w.heap.size+2]?=some (.cells #[.string p.v] 9)∧Kp [] w w0∧w0.heap.size=w.heap.size+3:=by
  refine⟨_,rfl,θ _ (θ _ (μ _ _)),θ _ ?_,?_,(((Kp.refl _ _).alloc _).alloc _).alloc _,by simp⟩
  ·have e:=μ (w.alloc (.cells #[.pointer (some ⟨x,0,none⟩)] 29)) (.cells #[.string p.k] 9);simpa using e
  ·have e:=μ ((w.alloc (.cells #[.pointer (some ⟨x,0,none⟩)] 29)).alloc (.cells #[.string p.k] 9)) (.cells #[.string p.v] 9);simpa using e
 rw[←hw0];clear hw0;refine (zR5 E x A n 54 t s r (r.put p) p.k _ #[] #[.pointer (some ⟨w.heap.size+2,0,none⟩),.pointer (some ⟨w.heap.size,0,none⟩),.pointer (some ⟨w.heap.size+1,0,none⟩)] w0 (HL.out.more hKp0) hwr HOK.out.1 HOK.out.2.1 (zR4 _) ?_).mono ?_
 ·intro W hK hd hx hS hV hrr;exact jN8 E (w.heap.size+2) w.heap.size (w.heap.size+1) x A n t s r p W ⟨hK.ho hV0,hK.ho hT0,hK.ho hK0,hx,HL.out.on,hS,HL.out.sV,hV,HL.out.n1,HL.out.bl0,HL.out.bl1,hd,HL.out.vS,hrr,HL.out.good,HL.out.sz⟩ HOK.out HR.out
 ·rintro e w1 ⟨rfl,h',hF⟩;have HF:Hid (FineT E w w1 x t s (r.put p) h'):=hF.from hKp0;clear hF;go_wp2;go_ret;exact⟨rfl,h',HF.out⟩
def qM5(on:Option Addr)(h:HL):Obj:=.cells #[.pointer on,.string h.key,.int .i64 h.b,.int .u64 h.s,.pointer h.ptr] 83
def pkv:Option KV→KV
 | none=>⟨⟨#[]⟩,⟨#[]⟩⟩
 | some p=>p
theorem xY9(o:Option KV):qF7 o=.tuple #[.agg #[.string (pkv o).k,.string (pkv o).v],.bool o.isSome]:=by
 cases o<;>rfl
theorem xM2(B Sx x:Nat)(t:Tx)(w:World)(hB:w.heap[B]?=some (.cells #[.pointer (some ⟨x,0,none⟩)] 29))(hS:w.heap[Sx]?=some (qM5 none ⟨⟨#[]⟩,0,0,none⟩))(hx:w.heap[x]?=some (qA6 t)):
  Calls prog 139 #[.pointer (some ⟨B,0,none⟩),.pointer (some ⟨Sx,0,none⟩)] w fun e w'=>e=qD1 none∧w'.heap[Sx]?=some (qM5 t.on t.h)∧Kp [Sx] w w':=by
 have hBs:=ζ hB;have hxs:=ζ hx;have hSs:=ζ hS;have b0:=ξ hB 0;simp only[zG,zH,zI] at b0;have p4:=ξ hx;simp only[qA6,zG,zH,zI] at p4;have s0:=ξ hS 0;have s1:=ξ hS 1;have s2:=ξ hS 2;have s3:=ξ hS 3;have s4:=ξ hS 4;simp only[qM5,zG,zH,zI] at s0 s1 s2 s3 s4;have q0:=ρ hS;have HS:=zh hS;clear hS hx hB;go_enter func139,ntmps139;go_wp2
 go_end0
 exact⟨rfl,ω (ω (ω (ω (ω HS.out 0 _) 1 _) 2 _) 3 _) 4 _,(((((Kp.refl [Sx] w).sc _).sc _).sc _).sc _).sc _⟩
theorem xM3(Lc:Nat)(lo k:ByteArray)(w:World)(hL:w.heap[Lc]?=some (.cells #[.string lo] 9)):
  Calls prog 140 #[.string k,.pointer (some ⟨Lc,0,none⟩)] w fun e w'=>e=.returned (.bool !kl k lo)∧Kp [] w w':=by
 have hs:=ζ hL;have l0:=ξ hL 0;simp only[zG,zH,zI] at l0;go_enter func140,ntmps140;go_wp2;go_ret;exact⟨rfl,Kp.refl _ _⟩
theorem jG1(a b:ByteArray):(!Op.bytesLess a.toList b.toList && !(a.toList == b.toList))=kl b a:=by rw[←Bool.not_or,zV9];simp
theorem xM5(Px:Nat)(p k v:ByteArray)(w:World)(hP:w.heap[Px]?=some (.cells #[.string p,.string v] 64)):
  Calls prog 143 #[.string k,.pointer (some ⟨Px,0,none⟩)] w fun e w'=>e=.returned (.bool (kl p k))∧Kp [] w w':=by
 have hs:=ζ hP;have l0:=ξ hP 0;simp only[zG,zH,zI] at l0;go_enter func143,ntmps143;go_wp2;go_ret;exact⟨by rw[←jG1];rfl,Kp.refl _ _⟩
theorem xM4(E:SEnv)(Sx Nx Px Tx g:Nat)(cap:Array Value)(f:ByteArray→Bool)(h:HL)(r:Root)(w:World)(hS:w.heap[Sx]?=some (qM5 (some ⟨E.V,0,none⟩) h))(hN:w.heap[Nx]?=some (.cells #[.func (.func g) #[] cap] 227))
  (hP:w.heap[Px]?=some (.cells #[.string ⟨#[]⟩,.string ⟨#[]⟩] 64)) (hT:w.heap[Tx]?=some (.cells #[.bool false] 4)) (hd:E.Dev w) (hrr:RR E.toEnv w h r) (hg:RGood r) (hup:Up f) (ha:Asks E.toEnv w g cap f)
  (hcf:∀ (args:Array Value) (W:World),Sem.run prog (callFunc g args) W=.ok (.enter g args) W):
  Calls prog 141 #[.pointer (some ⟨Sx,0,none⟩),.pointer (some ⟨Nx,0,none⟩),.pointer (some ⟨Px,0,none⟩),.pointer (some ⟨Tx,0,none⟩)] w fun e w'=>e=qD1 none∧w'.heap[Px]?=some (.cells #[.string (pkv (r.cont.find? fun q=>f q.k)).k,.string (pkv (r.cont.find? fun q=>f q.k)).v] 64)∧w'.heap[Tx]?=some (.cells #[.bool (r.cont.find? fun q=>f q.k).isSome] 4)∧∃ w1,E.To w w1∧Kp [Px,Tx] w1 w':=by
 have hSs:=ζ hS;have hNs:=ζ hN;have s0:=ξ hS 0;have s1:=ξ hS 1;have s2:=ξ hS 2;have s3:=ξ hS 3;have s4:=ξ hS 4;simp only[qM5,zG,zH,zI] at s0 s1 s2 s3 s4;have n0:=ξ hN 0;simp only[zG,zH,zI] at n0;have HD:=zh hd;have HF:Hid (Calls prog 142 #[.agg #[.pointer (some ⟨E.V,0,none⟩),.string h.key,.int .i64 h.b,.int .u64 h.s,.pointer h.ptr],.func (.func g) #[] cap] w fun e w'=>e=.returned (qF7 (r.cont.find? fun q=>f q.k))∧E.To w w'):=jQ9 E.toEnv r h g cap f w hd hrr hg hup ha hcf;have HP:=zh hP;have HT:=zh hT;clear hd hrr hg hup ha hS hN hP hT;go_enter func141,ntmps141;go_wp2_with fail;refine (show Calls _ _ _ _ _ from HF.out).mono ?_;rintro e w1 ⟨rfl,hT1⟩;rw[xY9];obtain⟨o,ho⟩:∃ o,(r.cont.find? fun q=>f q.k)=o:=⟨_,rfl⟩;rw[ho];obtain⟨fk,fv,fb,hfv⟩:∃ fk fv fb,(pkv o).k=fk∧(pkv o).v=fv∧o.isSome=fb:=⟨_,_,_,rfl,rfl,rfl⟩;have HV:Hid ((r.cont.find? fun q=>f q.k)=o∧(pkv o).k=fk∧(pkv o).v=fv∧o.isSome=fb):=⟨ho,hfv⟩;rw[hfv.1,hfv.2.1,hfv.2.2];clear ho hfv s0 s1 s2 s3 s4 n0;have hP1:=E.stay HD.out hT1 HP.out (by decide);have hTx1:=E.stay HD.out hT1 HT.out (by decide);have hPs:=ζ hP1;have hTs:=ζ hTx1;have HTP:Hid (Tx≠Px):=qB7 hTx1 hP1 (by decide);have hts:=qN1 (.string fk) (.string fv) hP1;have hT2:=hts.2.heap hTx1 (by simp;exact HTP.out);have p0:=ξ hP1;have fp0:=ρ hP1;have t0:=ξ hT2 0;simp only[zG,zH,zI] at t0;have ft0:=ρ hT2 0;have HE:Hid (E.To w w1∧((w1.setCell ⟨Px,0,none⟩ (.string fk)).setCell ⟨Px,1,none⟩ (.string fv)).heap[Px]?=some (.cells #[.string fk,.string fv] 64)∧((w1.setCell ⟨Px,0,none⟩ (.string fk)).setCell ⟨Px,1,none⟩ (.string fv)).heap[Tx]?=some (.cells #[.bool false] 4)∧Kp [Px] w1 ((w1.setCell ⟨Px,0,none⟩ (.string fk)).setCell ⟨Px,1,none⟩ (.string fv))):=⟨hT1,hts.1,hT2,hts.2⟩;clear hT1 hts hT2 hP1 hTx1;go_wp2
 go_end0
 refine⟨rfl,?_,?_,w1,HE.out.1,(HE.out.2.2.2.mono (S':=[Px,Tx]) (by simp +contextual)).sc _⟩
 ·rw[HV.out.1,HV.out.2.1,HV.out.2.2.1];exact (qA7 (fun e=>HTP.out e.symm) _ _).trans HE.out.2.1
 ·rw[HV.out.1,HV.out.2.2.2];exact ω HE.out.2.2.1 0 _
theorem xS2(args:Array Value)(W:World):Sem.run prog (callFunc 139 args) W=.ok (.enter 139 args) W:=by
 simp[go_sem,func139]
theorem xS3(args:Array Value)(W:World):Sem.run prog (callFunc 140 args) W=.ok (.enter 140 args) W:=by
 simp[go_sem,func140]
theorem xS4(args:Array Value)(W:World):Sem.run prog (callFunc 141 args) W=.ok (.enter 141 args) W:=by
 simp[go_sem,func141]
theorem xS5(args:Array Value)(W:World):Sem.run prog (callFunc 143 args) W=.ok (.enter 143 args) W:=by
 simp[go_sem,func143]
theorem xS1(args:Array Value)(W:World):Sem.run prog (callFunc 138 args) W=.ok (.enter 138 args) W:=by
 simp[go_sem,func138]
theorem zP1(x:Nat)(lo hi:ByteArray)(w:World):
  Calls prog 101 #[.pointer (some ⟨x,0,none⟩),.string lo,.string hi] w fun e w'=>e=.returned (.func (.func 138) #[] #[.pointer (some ⟨w.heap.size,0,none⟩),.pointer (some ⟨w.heap.size+1,0,none⟩),.pointer (some ⟨w.heap.size+2,0,none⟩)])∧
   w'.heap[w.heap.size]?=some (.cells #[.pointer (some ⟨x,0,none⟩)] 29)∧w'.heap[w.heap.size+1]?=some (.cells #[.string lo] 9)∧w'.heap[w.heap.size+2]?=some (.cells #[.string hi] 9)∧Kp [] w w':=by
 have hmf:=zM;go_enter func101,ntmps101;go_wp2;go_ret;refine⟨rfl,θ _ (θ _ (μ _ _)),θ _ ?_,?_,(((Kp.refl _ _).alloc _).alloc _).alloc _⟩
 ·have e:=μ (w.alloc (.cells #[.pointer (some ⟨x,0,none⟩)] 29)) (.cells #[.string lo] 9);simpa using e
 ·have e:=μ ((w.alloc (.cells #[.pointer (some ⟨x,0,none⟩)] 29)).alloc (.cells #[.string lo] 9)) (.cells #[.string hi] 9);simpa using e
end Go.Proofs.YtdohpenfkdckiabGreatDoor
namespace Go.Proofs.YtdohpenfkdckiabGreatDoor
open Go.Proofs.Tryz
def qD5(l:List KV)(lo:ByteArray):List KV:=l.filter fun q=>!kl q.k lo
theorem zH1{α:Type}(f:α→Bool):∀ l:List α,l.find? f=(l.filter f).head?
 | []=>rfl
 | a::l=>by
  by_cases h:f a=true
  ·rw[List.find?_cons_of_pos h,List.filter_cons_of_pos h,List.head?_cons]
  ·rw[List.find?_cons_of_neg h,List.filter_cons_of_neg h];exact zH1 f l
theorem zU5{l:List KV}(h:Sorted l)(lo:ByteArray):Sorted (qD5 l lo):=h.sublist List.filter_sublist
theorem xZ5(l:List KV)(lo:ByteArray):(l.find? fun q=>!kl q.k lo)=(qD5 l lo)[0]?:=by
 rw[zH1,qD5,List.head?_eq_getElem?]
theorem xV9(l:List KV)(lo pk:ByteArray)(hlo:kl pk lo=false):(l.filter fun q=>kl pk q.k)=(qD5 l lo).filter fun q=>kl pk q.k:=by
 unfold qD5;rw[List.filter_filter];refine List.filter_congr fun q hq=>?_;by_cases hk:kl pk q.k=true
 ·have:kl q.k lo=false:=by
   by_cases e:kl q.k lo=true
   ·have:=qN8 hk e;rw[hlo] at this;cases this
   ·simpa using e
  rw[hk,this];rfl
 ·have hk':kl pk q.k=false:=by simpa using hk
  rw[hk'];rfl
theorem xZ6{l:List KV}(h:Sorted l)(lo:ByteArray){j:Nat}(hj:j<(qD5 l lo).length):(l.find? fun q=>kl (qD5 l lo)[j].k q.k)=(qD5 l lo)[j+1]?:=by
 rw[zH1,List.head?_eq_getElem?];have hlo:kl (qD5 l lo)[j].k lo=false:=by
  have hm:(qD5 l lo)[j]∈qD5 l lo:=List.getElem_mem hj;have:=(List.mem_filter.1 hm).2;simpa using this
 have e1:=xV9 l lo _ hlo;rw[e1];have hs:=zU5 h lo;generalize qD5 l lo=A at *;have e2:A.filter (fun q=>kl A[j].k q.k)=A.drop (j+1):=by
  have hsplit:A=A.take (j+1)++A.drop (j+1):=(List.take_append_drop _ _).symm;have hp:=List.pairwise_iff_getElem.1 hs;have h1:(A.take (j+1)).filter (fun q=>kl A[j].k q.k)=[]:=by
   rw[List.filter_eq_nil_iff];intro q hq;obtain⟨i,hi,rfl⟩:=List.getElem_of_mem hq;rw[List.getElem_take];simp only[List.length_take] at hi;by_cases e:i=j
   ·subst e;simp[qS1]
   ·have:=qP8 (hp i j (by omega) hj (by omega));simp[this]
  have h2:(A.drop (j+1)).filter (fun q=>kl A[j].k q.k)=A.drop (j+1):=by
   rw[List.filter_eq_self];intro q hq;obtain⟨i,hi,rfl⟩:=List.getElem_of_mem hq;rw[List.getElem_drop];simp only[List.length_drop] at hi;exact hp j (j+1+i) hj (by omega) (by omega)
  calc A.filter (fun q=>kl A[j].k q.k)=(A.take (j+1)++A.drop (j+1)).filter (fun q=>kl A[j].k q.k):=by rw[List.take_append_drop]
   _=A.drop (j+1):=by rw[List.filter_append,h1,h2,List.nil_append]
 rw[e2];simp
theorem zT4(l:List KV)(lo hi:ByteArray):l.filter (inR lo hi)=(qD5 l lo).filter fun q=>kl q.k hi:=by
 rw[qD5,List.filter_filter];refine List.filter_congr fun q _=>?_;rw[inR,Bool.and_comm]
theorem zU6{l:List KV}(h:Sorted l)(lo hi:ByteArray){j:Nat}(hj:j≤(qD5 l lo).length)(ha:∀ q∈(qD5 l lo).take j,kl q.k hi=true)(hb:∀ q,(qD5 l lo)[j]?=some q→kl q.k hi=false):l.filter (inR lo hi)=(qD5 l lo).take j:=by
 rw[zT4];have hs:=zU5 h lo;generalize qD5 l lo=A at *;have h1:(A.take j).filter (fun q=>kl q.k hi)=A.take j:=List.filter_eq_self.2 ha;have h2:(A.drop j).filter (fun q=>kl q.k hi)=[]:=by
  rw[List.filter_eq_nil_iff];intro q hq;obtain⟨i,hi',rfl⟩:=List.getElem_of_mem hq;rw[List.getElem_drop];simp only[List.length_drop] at hi';have hjl:j<A.length:=by omega
  have hb':=hb A[j] (by simp[hjl]);by_cases e:i=0
  ·subst e;simp[hb']
  ·have:=List.pairwise_iff_getElem.1 hs j (j+i) hjl (by omega) (by omega);by_cases e2:kl A[j+i].k hi=true
   ·have:=qN8 this e2;rw[hb'] at this;cases this
   ·simpa using e2
 calc A.filter (fun q=>kl q.k hi)=(A.take j++A.drop j).filter (fun q=>kl q.k hi):=by rw[List.take_append_drop]
  _=A.take j:=by rw[List.filter_append,h1,h2,List.append_nil]
theorem xZ7{l:List KV}(h:Sorted l)(lo hi:ByteArray){j:Nat}(hj:j≤(qD5 l lo).length)(ha:∀ q∈(qD5 l lo).take j,kl q.k hi=true):(qD5 l lo).take j <+: l.filter (inR lo hi):=by
 rw[zT4];generalize qD5 l lo=A at *;have h1:(A.take j).filter (fun q=>kl q.k hi)=A.take j:=List.filter_eq_self.2 ha;refine⟨(A.drop j).filter (fun q=>kl q.k hi),?_⟩
 calc A.take j++(A.drop j).filter (fun q=>kl q.k hi)=(A.take j++A.drop j).filter (fun q=>kl q.k hi):=by rw[List.filter_append,h1]
  _=A.filter (fun q=>kl q.k hi):=by rw[List.take_append_drop]
theorem jS3(lo:ByteArray):Up fun k=>!kl k lo:=fun a b hab ha=>by
 by_cases e:kl b lo=true
 ·have:=qN8 hab e;simp[this] at ha
 ·simpa using e
theorem jS4(p:ByteArray):Up fun k=>kl p k:=fun a b hab ha=>qN8 ha hab
end Go.Proofs.YtdohpenfkdckiabGreatDoor
namespace Go.Proofs.YtdohpenfkdckiabGreatDoor
open Go.Proofs.Tryz
open Go.RowKit
attribute [local go_sem] Oper.semAt_some
def YS(W:World)(N:Nat)(S:List Nat):Prop:=∀ k∈S,k<N∧((∃ c t fr,W.heap[k]?=some (.cells c t fr)∧(t=25∨t=64))∨∃ rec,W.heap[k]?=some (.loop rec))
theorem YS.keep{W W':World}{N:Nat}{S:List Nat}(h:YS W N S)(hK:Kp S W W'){k:Nat}{c:Array Value}{t:TypeId}{fr:Nat × Nat}(hk:W.heap[k]?=some (.cells c t fr))(ht:t≠25∧(t≠64∨N≤k)):W'.heap[k]?=some (.cells c t fr):=by
 refine hK.heap hk fun hm=>?_;obtain⟨h1,h2⟩:=h k hm;rcases h2 with⟨c',t',fr',h3,h4⟩|⟨rec,h3⟩
 ·rw[hk] at h3;cases h3;rcases h4 with h4|h4
  ·exact ht.1 h4
  ·rcases ht.2 with h5|h5
   ·exact h5 h4
   ·omega
 ·rw[hk] at h3;cases h3
theorem YS.apt{W:World}{N:Nat}{S:List Nat}(h:YS W N S):Apt W S qF9:=fun k hk c t fr e hm=>by
 obtain⟨h1,h2⟩:=h k hk;rcases h2 with⟨c',t',fr',h3,h4⟩|⟨rec,h3⟩
 ·rw[e] at h3;cases h3;rcases h4 with rfl|rfl<;>revert hm<;>decide
 ·rw[e] at h3;cases h3
structure AllIn(E:SEnv)(x A n:Nat)(t:Tx)(s:Sto)(r:Root)(B Lc Hc:Nat)(lo hi:ByteArray)(w:World):Prop where
 live:LiveT E w x A n t s r
 hB:w.heap[B]?=some (.cells #[.pointer (some ⟨x,0,none⟩)] 29)
 hL:w.heap[Lc]?=some (.cells #[.string lo] 9)
 hH:w.heap[Hc]?=some (.cells #[.string hi] 9)
theorem AllIn.more{E:SEnv}{x A n:Nat}{t:Tx}{s:Sto}{r:Root}{B Lc Hc:Nat}{lo hi:ByteArray}{w w':World}(h:AllIn E x A n t s r B Lc Hc lo hi w)(hK:Kp [] w w'):AllIn E x A n t s r B Lc Hc lo hi w':=
 ⟨h.live.more hK,hK.hp h.hB,hK.hp h.hL,hK.hp h.hH⟩
theorem AllIn.turn{E:SEnv}{x A n:Nat}{t:Tx}{s:Sto}{r:Root}{B Lc Hc:Nat}{lo hi:ByteArray}{w w':World}{L:List Nat}(h:AllIn E x A n t s r B Lc Hc lo hi w)(hK:Kp L w w')(hS:w'.heap[t.St]?=some (τ 0 s))(hd:E.Dev w')
  (hL:∀ k∈L,k=t.St∨k∈E.S∨∃ c u fr,w.heap[k]?=some (.cells c u fr)∧u ∉ [85,29,9,186,152,158,81]):AllIn E x A n t s r B Lc Hc lo hi w':=by
 have hout:∀ k c u fr,w.heap[k]?=some (.cells c u fr)→u∈[85,29,9,152,158,81]→k ∉ L:=fun k c u fr hk hu hm=>by
  rcases hL k hm with h1|h1|⟨c',u',fr',h1,h2⟩
  ·subst h1;rw[h.live.hSt] at hk;cases hk
   revert hu;decide
  ·exact E.nin h.live.dev hk ((show ∀ u∈([85,29,9,152,158,81]:List TypeId),u ∉ qN4 by decide) u hu) h1
  ·rw[hk] at h1;cases h1;exact h2 ((show ∀ u∈([85,29,9,152,158,81]:List TypeId),u∈([85,29,9,186,152,158,81]:List TypeId) by decide) u hu)
 have hV:E.V ∉ L:=fun hm=>by
  rcases hL _ hm with h1|h1|⟨c',u',fr',h1,h2⟩
  ·exact qB7 h.live.hV h.live.hSt (by decide) h1
  ·exact h.live.vS h1
  ·rw[h.live.hV] at h1;cases h1;exact h2 (by decide)
 refine⟨{ h.live with hx:=hK.heap h.live.hx (hout _ _ _ _ h.live.hx (by decide)),hSt:=hS,hV:=hK.heap h.live.hV hV,dev:=hd,rr:=h.live.rr.keepT hK (fun k hk c u fr e hm=>hout k c u fr e ((show ∀ u∈qF9,u∈([85,29,9,152,158,81]:List TypeId) by decide) u hm) hk) },hK.heap h.hB (hout _ _ _ _ h.hB (by decide)),hK.heap h.hL (hout _ _ _ _ h.hL (by decide)),hK.heap h.hH (hout _ _ _ _ h.hH (by decide))⟩
end Go.Proofs.YtdohpenfkdckiabGreatDoor
namespace Go.Proofs.YtdohpenfkdckiabGreatDoor
open Go.Proofs.Tryz
open Go.RowKit
attribute [local go_sem] Oper.semAt_some
theorem YS.off{W:World}{N:Nat}{S:List Nat}(h:YS W N S):OffD W S:=fun k hk c t fr e hm=>by
 obtain⟨h1,h2⟩:=h k hk;rcases h2 with⟨c',t',fr',h3,h4⟩|⟨rec,h3⟩
 ·rw[e] at h3;cases h3;rcases h4 with rfl|rfl<;>revert hm<;>decide
 ·rw[e] at h3;cases h3
theorem AllIn.round{E:SEnv}{x A n:Nat}{t:Tx}{s:Sto}{r:Root}{B Lc Hc:Nat}{lo hi:ByteArray}{w w':World}{N:Nat}{SY:List Nat}(h:AllIn E x A n t s r B Lc Hc lo hi w)(hY:YS w N SY)(hK:Kp SY w w'):AllIn E x A n t s r B Lc Hc lo hi w':=by
 have hS:=hY.keep hK h.live.hSt ⟨by decide,.inl (by decide)⟩;refine⟨{ h.live with hx:=hY.keep hK h.live.hx ⟨by decide,.inl (by decide)⟩,hSt:=hS,hV:=hY.keep hK h.live.hV ⟨by decide,.inl (by decide)⟩,dev:=E.keepX w w' SY h.live.dev hK hY.off,rr:=h.live.rr.keepT hK hY.apt },hY.keep hK h.hB ⟨by decide,.inl (by decide)⟩,hY.keep hK h.hL ⟨by decide,.inl (by decide)⟩,hY.keep hK h.hH ⟨by decide,.inl (by decide)⟩⟩
theorem xM9(E:SEnv)(x A n:Nat)(t:Tx)(s:Sto)(r:Root)(B Lc Hc:Nat)(lo hi call:ByteArray)(Sx Nx g:Nat)(cap:Array Value)(f:ByteArray→Bool)(w:World)(hI:AllIn E x A n t s r B Lc Hc lo hi w)(hS:w.heap[Sx]?=some (qM5 (some ⟨E.V,0,none⟩) t.h))(hN:w.heap[Nx]?=some (.cells #[.func (.func g) #[] cap] 227))(Px Tc:Nat)
  (hP:w.heap[Px]?=some (.cells #[.string ⟨#[]⟩,.string ⟨#[]⟩] 64)) (hT:w.heap[Tc]?=some (.cells #[.bool false] 4)) (hup:Up f)
  (ha:∀ W,Kp (t.St::E.S) w W→∀ k,Calls prog g (#[.string k]++cap) W fun e W'=>e=.returned (.bool (f k))∧Kp [] W W')
  (hcf:∀ (args:Array Value) (W:World),Sem.run prog (callFunc g args) W=.ok (.enter g args) W):
  Calls prog 38 #[.pointer (some ⟨x,0,none⟩),.string call,.func (.func 141) #[] #[.pointer (some ⟨Sx,0,none⟩),.pointer (some ⟨Nx,0,none⟩),.pointer (some ⟨Px,0,none⟩),.pointer (some ⟨Tc,0,none⟩)]] w fun e w'=>e=.returned .nilIface∧w'.heap[Px]?=some (.cells #[.string (pkv (r.cont.find? fun q=>f q.k)).k,.string (pkv (r.cont.find? fun q=>f q.k)).v] 64)∧w'.heap[Tc]?=some (.cells #[.bool (r.cont.find? fun q=>f q.k).isSome] 4)∧w'.heap[t.St]?=some (τ 0 s)∧E.Dev w'∧Kp (t.St::Px::Tc::E.S) w w':=by
 have hL:=hI.live;refine (qX3 none (by decide) x t.St 141 t s s #[] _ call (Px::Tc::E.S) (fun W w1=>E.Dev w1∧w1.heap[t.St]?=some (τ 1 s)∧w1.heap[Px]?=some (.cells #[.string (pkv (r.cont.find? fun q=>f q.k)).k,.string (pkv (r.cont.find? fun q=>f q.k)).v] 64)∧w1.heap[Tc]?=some (.cells #[.bool (r.cont.find? fun q=>f q.k).isSome] 4)) w hL.hx hL.over rfl hL.hSt hL.po hL.xS (xS4 _) (fun i hi=>by
  simp only[List.mem_cons] at hi;rcases hi with h|h|h
  ·rw[h];exact ζ hP
  ·rw[h];exact ζ hT
  ·exact E.low w hL.dev i h) ?_).mono ?_
 ·intro W hK hSW;have hd:=hL.devS hK;have hne:∀ {k:Nat} {c:Array Value} {u:TypeId} {fr:Nat × Nat},w.heap[k]?=some (.cells c u fr)→u≠126→k ∉ [t.St]:=fun hk hu hm=>qB7 hk hL.hSt hu (List.mem_singleton.1 hm);have hPW:=hK.heap hP (hne hP (by decide));have hTW:=hK.heap hT (hne hT (by decide));refine (xM4 E Sx Nx Px Tc g cap f t.h r W (hK.heap hS (hne hS (by decide))) (hK.heap hN (hne hN (by decide))) hPW hTW hd (hL.rr.keepT hK (Apt.one hL.hSt (by decide))) hL.good hup (fun W' k hT'=>ha W' ((hK.mono (S':=t.St::E.S) (by simp)).trans hT'.kp (by simp +contextual)) k) hcf).mono ?_;rintro e w2 ⟨rfl,h1,h2,w1,hT1,hK1⟩;have hSt2:w2.heap[t.St]?=some (τ 1 s):=hK1.heap (E.stay hd hT1 hSW (by decide)) (by
   simp only[List.mem_cons,List.not_mem_nil,or_false,not_or];exact⟨qB7 hL.hSt hP (by decide),qB7 hL.hSt hT (by decide)⟩)
  exact⟨rfl,⟨E.keepX w1 w2 _ hT1.dev hK1 ((OffD.one (E.stay hd hT1 hPW (by decide)) (by decide)).cons (OffD.one (E.stay hd hT1 hTW (by decide)) (by decide))),hSt2,h1,h2⟩,(hT1.kp.mono (S':=t.St::Px::Tc::E.S) (by simp +contextual)).trans hK1 (by intro i hi _;simp at hi ⊢;rcases hi with h | h<;>simp[h]),hSt2⟩
 ·rintro e w2 ⟨v,rfl,hv,hSt2,hK2,W,w1,Bb,⟨hd1,hS1,hP1,hT1⟩,hKW,hb1,hb2,hb3,hKB⟩;have hv':v=.nilIface:=hv;subst hv';have hne:∀ {k:Nat} {c:Array Value} {u:TypeId} {fr:Nat × Nat},w1.heap[k]?=some (.cells c u fr)→u≠126→u≠35→k ∉ [t.St,Bb]:=fun hk hu hu2 hm=>by
   simp only[List.mem_cons,List.not_mem_nil,or_false] at hm;rcases hm with h|h
   ·exact qB7 hk hS1 hu h
   ·exact qB7 hk hb3 hu2 h
  exact⟨rfl,hKB.heap hP1 (hne hP1 (by decide) (by decide)),hKB.heap hT1 (hne hT1 (by decide) (by decide)),hSt2,E.keepX w1 w2 _ hd1 hKB (qT8 hS1 hb3),hK2⟩
theorem xM8(E:SEnv)(x A n:Nat)(t:Tx)(s:Sto)(r:Root)(B Lc Hc:Nat)(lo hi call:ByteArray)(Sx:Nat)(w:World)(hI:AllIn E x A n t s r B Lc Hc lo hi w)(hS:w.heap[Sx]?=some (qM5 none ⟨⟨#[]⟩,0,0,none⟩)):
  Calls prog 38 #[.pointer (some ⟨x,0,none⟩),.string call,.func (.func 139) #[] #[.pointer (some ⟨B,0,none⟩),.pointer (some ⟨Sx,0,none⟩)]] w fun e w'=>e=.returned .nilIface∧w'.heap[Sx]?=some (qM5 (some ⟨E.V,0,none⟩) t.h)∧w'.heap[t.St]?=some (τ 0 s)∧E.Dev w'∧Kp [t.St,Sx] w w':=by
 have hL:=hI.live;refine (qX3 none (by decide) x t.St 139 t s s #[] _ call [Sx] (fun W w1=>E.Dev w1∧w1.heap[t.St]?=some (τ 1 s)∧w1.heap[Sx]?=some (qM5 (some ⟨E.V,0,none⟩) t.h)) w hL.hx hL.over rfl hL.hSt hL.po hL.xS (xS2 _) (fun i hi=>by rw[List.mem_singleton.1 hi];exact ζ hS) ?_).mono ?_
 ·intro W hK hSW;have hd:=hL.devS hK;have hne:∀ {k:Nat} {c:Array Value} {u:TypeId} {fr:Nat × Nat},w.heap[k]?=some (.cells c u fr)→u≠126→k ∉ [t.St]:=fun hk hu hm=>qB7 hk hL.hSt hu (List.mem_singleton.1 hm);have hSxW:=hK.heap hS (hne hS (by decide));refine (xM2 B Sx x t W (hK.heap hI.hB (hne hI.hB (by decide))) hSxW (hK.heap hL.hx (hne hL.hx (by decide)))).mono ?_;rintro e w1 ⟨rfl,h1,hK1⟩;have hS1:w1.heap[t.St]?=some (τ 1 s):=hK1.heap hSW (by simp;exact qB7 hSW hSxW (by decide));rw[hL.on] at h1;exact⟨rfl,⟨E.keepX W w1 _ hd hK1 (OffD.one hSxW (by decide)),hS1,h1⟩,hK1.mono (by simp +contextual),hS1⟩
 ·rintro e w2 ⟨v,rfl,hv,hSt2,hK2,W,w1,Bb,⟨hd1,hS1,hP1⟩,hKW,hb1,hb2,hb3,hKB⟩;have hv':v=.nilIface:=hv;subst hv';refine⟨rfl,hKB.heap hP1 ?_,hSt2,E.keepX w1 w2 _ hd1 hKB (qT8 hS1 hb3),hK2⟩;simp only[List.mem_cons,List.not_mem_nil,or_false,not_or];exact⟨qB7 hP1 hS1 (by decide),qB7 hP1 hb3 (by decide)⟩
structure AllSt(E:SEnv)(x A n:Nat)(t:Tx)(s:Sto)(r:Root)(B Lc Hc:Nat)(lo hi:ByteArray)(Sx Nx:Nat)(J:Nat→List KV→World→Prop)(j:Nat)(w:World):Prop where
 inn:AllIn E x A n t s r B Lc Hc lo hi w
 le:j≤(qD5 r.cont lo).length
 ahead:∀ q∈(qD5 r.cont lo).take j,kl q.k hi=true
 hS:w.heap[Sx]?=some (qM5 (some ⟨E.V,0,none⟩) t.h)
 hN:(j=0∧w.heap[Nx]?=some (.cells #[.func (.func 140) #[] #[.pointer (some ⟨Lc,0,none⟩)]] 227))∨∃ p Px,1≤j∧(qD5 r.cont lo)[j-1]?=some p∧w.heap[Nx]?=some (.cells #[.func (.func 143) #[] #[.pointer (some ⟨Px,0,none⟩)]] 227)∧w.heap[Px]?=some (.cells #[.string p.k,.string p.v] 64)
 jj:J w.heap.size ((qD5 r.cont lo).take j) w
theorem AllSt.asks{E:SEnv}{x A n:Nat}{t:Tx}{s:Sto}{r:Root}{B Lc Hc:Nat}{lo hi:ByteArray}{Sx Nx:Nat}{J:Nat→List KV→World→Prop}{j:Nat}{w:World}(h:AllSt E x A n t s r B Lc Hc lo hi Sx Nx J j w)(hs:Sorted r.cont):
  ∃ g cap f,w.heap[Nx]?=some (.cells #[.func (.func g) #[] cap] 227)∧Up f∧(∀ (args:Array Value) (W:World),Sem.run prog (callFunc g args) W=.ok (.enter g args) W)∧(r.cont.find? fun q=>f q.k)=(qD5 r.cont lo)[j]?∧
   ∀ W,Kp (t.St::E.S) w W→∀ k,Calls prog g (#[.string k]++cap) W fun e W'=>e=.returned (.bool (f k))∧Kp [] W W':=by
 have hne:∀ {k:Nat} {c:Array Value} {u:TypeId} {fr:Nat × Nat},w.heap[k]?=some (.cells c u fr)→u≠126→u ∉ qN4→k ∉ t.St::E.S:=fun hk hu hd hm=>by
  rcases List.mem_cons.1 hm with h1|h1
  ·exact qB7 hk h.inn.live.hSt hu h1
  ·exact E.nin h.inn.live.dev hk hd h1
 rcases h.hN with⟨rfl,hN⟩|⟨p,Px,hj,hp,hN,hP⟩
 ·exact⟨_,_,_,hN,jS3 lo,xS3,xZ5 _ _,fun W hK k=>xM3 Lc lo k W (hK.heap h.inn.hL (hne h.inn.hL (by decide) (by decide)))⟩
 ·obtain⟨hl,hp'⟩:=List.getElem?_eq_some_iff.1 hp;refine⟨_,_,_,hN,jS4 p.k,xS5,?_,fun W hK k=>xM5 Px p.k k p.v W (hK.heap hP (hne hP (by decide) (by decide)))⟩;have e:=xZ6 hs lo hl;rw[hp'] at e;rw[e,show j-1+1=j by omega]
theorem xM6(E:SEnv)(x A n:Nat)(t:Tx)(s:Sto)(r:Root)(B Lc Hc l m:Nat)(lo hi:ByteArray)(J:Nat→List KV→World→Prop)(Jx:List KV→World→Prop)(w:World)
  (hJ:∀ N pre W W' S,J N pre W→Kp S W W'→(∀ k∈S,k=t.St∨k∈E.S∨(w.heap.size≤k∧∃ c fr,W.heap[k]?=some (.cells c 227 fr)))→W'.heap[t.St]?=some (τ 0 s)→E.Dev W'→J N pre W')
  (hJN:∀ N N' pre W,J N pre W→N≤N'→J N' pre W)
  (hY:∀ N pre p W1,J N pre W1→N≤W1.heap.size→pre++[p] <+: r.cont.filter (inR lo hi)→AllIn E x A n t s r B Lc Hc lo hi W1→YieldAt Fence.wide (m-1) prog l #[.agg #[.string p.k,.string p.v],.nilIface] W1 fun e W'=>∃ SY,YS W1 N SY∧Kp SY W1 W'∧((e=.returned (.bool true)∧J W'.heap.size (pre++[p]) W')∨(e=.returned (.bool false)∧Jx (pre++[p]) W')))
  (hI:AllIn E x A n t s r B Lc Hc lo hi w) (h0:J w.heap.size [] w):
  CallsIn Fence.wide m prog 138 #[.func (.yield l) #[] #[],.pointer (some ⟨B,0,none⟩),.pointer (some ⟨Lc,0,none⟩),.pointer (some ⟨Hc,0,none⟩)] w fun e w'=>(∃ v,e=.returned v)∧((∃ N,J N (r.cont.filter (inR lo hi)) w')∨∃ pre,pre <+: r.cont.filter (inR lo hi)∧Jx pre w'):=by
 have hmf:=zM;have HI:=zh hI;have HJ:=zh hJ;have HJN:=zh hJN;have HY:=zh hY;have HJ0:=zh h0;have HSO:Hid (Sorted r.cont):=(jO4 hI.live.good).1;have hB0:=θ (.cells #[.pointer none,.string ⟨#[]⟩,.int .i64 0,.int .u64 0,.pointer none] 83) hI.hB;have b0:=ξ hB0 0;simp only[zG,zH] at b0;have hBs:=ζ hI.hB;have hSs:=ζ hI.live.hSt;clear hI hJ hJN hY h0 hB0;refine callsIn_of_wp func138 rfl trivial ?_ rfl;simp only[ntmps138,List.size_toArray,List.length_cons,List.length_nil,Nat.reduceAdd,Nat.reduceSub,Array.replicate_succ,Array.replicate_zero,List.push_toArray,List.append_toArray,List.nil_append,List.cons_append]
 gi_wp2_with fail
 refine⟨trivial,fun h=>(by cases h),?_⟩;obtain⟨w0,hw0,hS0,hK0⟩:∃ w0,w0=w.alloc (.cells #[.pointer none,.string ⟨#[]⟩,.int .i64 0,.int .u64 0,.pointer none] 83)∧w0.heap[w.heap.size]?=some (qM5 none ⟨⟨#[]⟩,0,0,none⟩)∧Kp [] w w0:=⟨_,rfl,μ _ _,(Kp.refl _ _).alloc _⟩;rw[←hw0];clear hw0 b0;have hI0:=HI.out.more hK0;refine callsIn_wide.2 ((xM8 E x A n t s r B Lc Hc lo hi _ w.heap.size w0 hI0 hS0).mono ?_);rintro e w1 ⟨rfl,hS1,hSt1,hd1,hK1⟩;have hI1:AllIn E x A n t s r B Lc Hc lo hi w1:=hI0.turn hK1 hSt1 hd1 (fun k hk=>by
  simp only[List.mem_cons,List.not_mem_nil,or_false] at hk;rcases hk with h|h
  ·exact .inl h
  ·rw[h];exact .inr (.inr ⟨_,_,_,hS0,by decide⟩))
 have hJ1:J w.heap.size [] w1:=HJ.out _ _ _ _ [t.St] HJ0.out ((hK0.mono (S':=[t.St]) (by simp)).trans hK1 (by intro i hi hlt;simp at hi ⊢;omega)) (by simp) hSt1 hd1;have hs1:=Nat.le_trans hK0.size hK1.size;clear hS0 hK0 hI0 hK1
 gi_wp2_with fail
 obtain⟨w2,hw2,hN2,hK2⟩:∃ w2,w2=w1.alloc (.cells #[.func (.func 140) #[] #[.pointer (some ⟨Lc,0,none⟩)]] 227)∧w2.heap[w1.heap.size]?=some (.cells #[.func (.func 140) #[] #[.pointer (some ⟨Lc,0,none⟩)]] 227)∧Kp [] w1 w2:=⟨_,rfl,μ _ _,(Kp.refl _ _).alloc _⟩;rw[←hw2];clear hw2;have hI2:=hI1.more hK2;have HA2:Hid (AllSt E x A n t s r B Lc Hc lo hi w.heap.size w1.heap.size J 0 w2):=
  ⟨hI2,Nat.zero_le _,by simp,hK2.hp hS1,.inl ⟨rfl,hN2⟩,HJN.out _ _ _ _ (HJ.out _ _ _ _ [] hJ1 hK2 (by simp) hI2.live.hSt hI2.live.dev) (by have:=hK2.size;omega)⟩
 clear hI2 hI1 hN2 hK2 hS1 hSt1 hd1 hJ1;obtain⟨Sx,hSx⟩:∃ Sx,Sx=w.heap.size:=⟨_,rfl⟩;obtain⟨Nx,hNx⟩:∃ Nx,Nx=w1.heap.size:=⟨_,rfl⟩;rw[←hSx,←hNx] at HA2;rw[←hSx,←hNx];have hNw:w.heap.size≤Nx:=by omega
 clear hSx hNx hs1 hBs hSs
 gi_loopg [6] ((qD5 r.cont lo).length+1) (fun k err wr=>∃ j,k+j=(qD5 r.cont lo).length+1∧err=.nilIface∧Hid (AllSt E x A n t s r B Lc Hc lo hi Sx Nx J j wr))
 case atStart=>exact⟨0,rfl,rfl,HA2⟩
 case round=>
  obtain⟨j,hkj,rfl,hA⟩:=hrel;obtain⟨g,cap,f,hN,hup,hcf,hfind,hask⟩:=hA.out.asks HSO.out;have hBr:=hA.out.inn.hB;have hb0:=θ (.cells #[.bool false] 4) (θ (.cells #[.string ⟨#[]⟩,.string ⟨#[]⟩] 64) hBr);have hBs:=ζ hBr;have b0:=ξ hb0 0;simp only[zG,zH,zI] at b0;have HF:Hid (wr.heap[Nx]?=some (.cells #[.func (.func g) #[] cap] 227)∧Up f∧(∀ (args:Array Value) (W:World),Sem.run prog (callFunc g args) W=.ok (.enter g args) W)∧(r.cont.find? fun q=>f q.k)=(qD5 r.cont lo)[j]?∧
   ∀ W,Kp (t.St::E.S) wr W→∀ k,Calls prog g (#[.string k]++cap) W fun e W'=>e=.returned (.bool (f k))∧Kp [] W W'):=⟨hN,hup,hcf,hfind,hask⟩
  clear hN hup hcf hfind hask hBr hb0
  gi_wp2_with fail
  refine⟨trivial,fun h=>(by cases h),?_⟩;obtain⟨w3,hw3,hP3,hT3,hK3,hs3⟩:∃ w3,w3=(wr.alloc (.cells #[.string ⟨#[]⟩,.string ⟨#[]⟩] 64)).alloc (.cells #[.bool false] 4)∧w3.heap[wr.heap.size]?=some (.cells #[.string ⟨#[]⟩,.string ⟨#[]⟩] 64)∧w3.heap[wr.heap.size+1]?=some (.cells #[.bool false] 4)∧Kp [] wr w3∧w3.heap.size=wr.heap.size+2:=by
   refine⟨_,rfl,θ _ (μ _ _),?_,((Kp.refl _ _).alloc _).alloc _,by simp⟩;have e:=μ (wr.alloc (.cells #[.string ⟨#[]⟩,.string ⟨#[]⟩] 64)) (.cells #[.bool false] 4);simpa using e
  rw[←hw3];clear hw3 b0;have hI3:=hA.out.inn.more hK3;have hS3:=hK3.hp hA.out.hS;have hN3:=hK3.hp HF.out.1;refine callsIn_wide.2 ((xM9 E x A n t s r B Lc Hc lo hi _ Sx Nx g cap f w3 hI3 hS3 hN3 wr.heap.size (wr.heap.size+1) hP3 hT3 HF.out.2.1 (fun W hK k=>HF.out.2.2.2.2 W ((hK3.mono (by simp)).trans hK (fun _ h _=>h)) k) HF.out.2.2.1).mono ?_);rintro e w4 ⟨rfl,hP4,hT4,hSt4,hd4,hK4⟩;rw[HF.out.2.2.2.1] at hP4 hT4;have hSt3:=hI3.live.hSt;have hK34:Kp (t.St::E.S) wr w4:=(hK3.mono (S':=t.St::E.S) (by simp)).trans hK4 (by
   intro i hi hlt;simp only[List.mem_cons] at hi ⊢;rcases hi with h|h|h|h
   ·exact .inl h
   ·omega
   ·omega
   ·exact .inr h)
  have hturn:∀ k∈t.St::wr.heap.size::(wr.heap.size+1)::E.S,k=t.St∨k∈E.S∨∃ c u fr,w3.heap[k]?=some (.cells c u fr)∧u ∉ [85,29,9,186,152,158,81]:=fun k hk=>by
   simp only[List.mem_cons] at hk;rcases hk with h|h|h|h
   ·exact .inl h
   ·rw[h];exact .inr (.inr ⟨_,_,_,hP3,by decide⟩)
   ·rw[h];exact .inr (.inr ⟨_,_,_,hT3,by decide⟩)
   ·exact .inr (.inl h)
  have HI4:Hid (AllIn E x A n t s r B Lc Hc lo hi w4):=hI3.turn hK4 hSt4 hd4 hturn;have HJ4:Hid (J wr.heap.size ((qD5 r.cont lo).take j) w4):=HJ.out _ _ _ _ (t.St::E.S) hA.out.jj hK34 (fun k hk=>by
   rcases List.mem_cons.1 hk with h|h
   ·exact .inl h
   ·exact .inr (.inl h)) hSt4 hd4
  have hne:∀ {k:Nat} {c:Array Value} {u:TypeId} {fr:Nat × Nat},wr.heap[k]?=some (.cells c u fr)→u≠126→u ∉ qN4→k ∉ t.St::E.S:=fun hk hu hdv hm=>by
   rcases List.mem_cons.1 hm with h1|h1
   ·exact qB7 hk hA.out.inn.live.hSt hu h1
   ·exact E.nin hA.out.inn.live.dev hk hdv h1
  have HS4:Hid (w4.heap[Sx]?=some (qM5 (some ⟨E.V,0,none⟩) t.h)):=hK34.heap hA.out.hS (hne hA.out.hS (by decide) (by decide));have hN4:=hK34.heap HF.out.1 (hne HF.out.1 (by decide) (by decide));have HP4:=zh hP4;have HN4:=zh hN4;have hP4s:=ζ hP4;have hT4s:=ζ hT4;have hH4:=HI4.out.hH;have hH4s:=ζ hH4;have hle:=hA.out.le;have HAH:=zh hA.out.ahead;have y0:=ξ hH4 0;simp only[zG,zH,zI] at y0
  cases hq:(qD5 r.cont lo)[j]? with
  | none=>
   rw[hq] at hT4;have c0:=ξ hT4 0;simp only[zG,zH,zI] at c0;have HEQ:Hid (r.cont.filter (inR lo hi)=(qD5 r.cont lo).take j):=zU6 HSO.out lo hi hle HAH.out (fun q h=>by rw[hq] at h;cases h);clear hq hP4 hT4 hK4 hK34 hturn hne hI3 hS3 hN3 hP3 hT3 hK3 hN4 hSt4 hd4 hSt3 hH4
   gi_wp2
   refine⟨fun _ h=>(by cases h),?_⟩
   gi_wp2
   refine bodyPost_ret (results_none results138 _ _ _) rfl ?_;exact⟨⟨_,rfl⟩,.inl ⟨wr.heap.size,by rw[HEQ.out];exact HJ4.out⟩⟩
  | some q=>
   rw[hq] at hT4 hP4;simp only[pkv,Option.isSome_some] at hT4 hP4;have c0:=ξ hT4 0;simp only[zG,zH,zI] at c0;have p0:=ξ hP4;obtain⟨hjl,hqe⟩:=List.getElem?_eq_some_iff.1 hq;have HQ:=zh hq
   cases hh:kl q.k hi with
   | false=>
    have hhb:Op.bytesLess q.k.toList hi.toList=false:=hh;have HEQ:Hid (r.cont.filter (inR lo hi)=(qD5 r.cont lo).take j):=zU6 HSO.out lo hi hle HAH.out (fun q' h=>by rw[hq] at h;cases h;exact hh);clear hq hP4 hT4 hK4 hK34 hturn hne hI3 hS3 hN3 hP3 hT3 hK3 hN4 hSt4 hd4 hSt3 hH4 hh hjl hqe
    gi_wp2
    refine⟨fun _ h=>(by cases h),?_⟩
    gi_wp2
    refine bodyPost_ret (results_none results138 _ _ _) rfl ?_;exact⟨⟨_,rfl⟩,.inl ⟨wr.heap.size,by rw[HEQ.out];exact HJ4.out⟩⟩
   | true=>
    have hhb:Op.bytesLess q.k.toList hi.toList=true:=hh;have htk:(qD5 r.cont lo).take (j+1)=(qD5 r.cont lo).take j++[q]:=by rw[List.take_succ_eq_append_getElem hjl,hqe]
    have HAH1:Hid (∀ q'∈(qD5 r.cont lo).take (j+1),kl q'.k hi=true):=fun q' hm=>by
     rw[htk] at hm;rcases List.mem_append.1 hm with hm|hm
     ·exact HAH.out q' hm
     ·rw[List.mem_singleton.1 hm];exact hh
    have HPA:Hid ((qD5 r.cont lo).take j++[q] <+: r.cont.filter (inR lo hi)):=by
     show _ <+: _;rw[←htk];exact xZ7 HSO.out lo hi (by omega) HAH1.out
    obtain⟨fn,tmps,assign,body,hy,hR⟩:=HY.out wr.heap.size ((qD5 r.cont lo).take j) q w4 HJ4.out (by have:=hK34.size;omega) HPA.out HI4.out;have HTK:Hid ((qD5 r.cont lo).take (j+1)=(qD5 r.cont lo).take j++[q]∧j<(qD5 r.cont lo).length):=⟨htk,hjl⟩;have HP5:=zh hP4;clear hq hP4 hT4 hK4 hK34 hturn hne hI3 hS3 hN3 hP3 hT3 hK3 hN4 hSt4 hd4 hSt3 hH4 hh hjl hqe htk HP4
    gi_wp2
    refine⟨fun h=>(by cases h),hR.mono ?_⟩;clear hR hy;rintro e w5 ⟨SY,hYS,hKY,⟨rfl,hJ5⟩|⟨rfl,hJx⟩⟩
    ·have hI5:=HI4.out.round hYS hKY;have hS5:=hYS.keep hKY HS4.out ⟨by decide,.inl (by decide)⟩;have hN5:=hYS.keep hKY HN4.out ⟨by decide,.inl (by decide)⟩;have hP5:=hYS.keep hKY HP5.out ⟨by decide,.inr (Nat.le_refl _)⟩;have hN5s:=ζ hN5;obtain⟨w6,hw6,hN6,hK6⟩:∃ w6,w6=w5.setCell ⟨Nx,0,none⟩ (.func (.func 143) #[] #[.pointer (some ⟨wr.heap.size,0,none⟩)])∧w6.heap[Nx]?=some (.cells #[.func (.func 143) #[] #[.pointer (some ⟨wr.heap.size,0,none⟩)]] 227)∧Kp [Nx] w5 w6:=⟨_,rfl,ω hN5 0 _,(Kp.refl _ _).sc _⟩;have hne6:∀ {k:Nat} {c:Array Value} {u:TypeId} {fr:Nat × Nat},w5.heap[k]?=some (.cells c u fr)→u≠227→k ∉ [Nx]:=fun hk hu hm=>qB7 hk hN5 hu (List.mem_singleton.1 hm);have hSt6:=hK6.heap hI5.live.hSt (hne6 hI5.live.hSt (by decide));have hd6:=E.keepX w5 w6 [Nx] hI5.live.dev hK6 (OffD.one hN5 (by decide));have hI6:=hI5.turn hK6 hSt6 hd6 (fun k hk=>by rw[List.mem_singleton.1 hk];exact .inr (.inr ⟨_,_,_,hN5,by decide⟩));have hJ6:=HJ.out _ _ _ _ [Nx] hJ5 hK6 (fun k hk=>by rw[List.mem_singleton.1 hk];exact .inr (.inr ⟨hNw,_,_,hN5⟩)) hSt6 hd6;have HA6:Hid (AllSt E x A n t s r B Lc Hc lo hi Sx Nx J (j+1) w6):=
      ⟨hI6,HTK.out.2,HAH1.out,hK6.heap hS5 (hne6 hS5 (by decide)),.inr ⟨q,wr.heap.size,by omega,HQ.out,hN6,hK6.heap hP5 (hne6 hP5 (by decide))⟩,by
       rw[HTK.out.1];exact HJN.out _ _ _ _ hJ6 hK6.size⟩
     have n0:=ξ hN5 0;simp only[zG,zH,zI] at n0;have fn0:=ρ hN5 0;clear hI5 hS5 hP5 hN6 hK6 hne6 hSt6 hd6 hI6 hJ6 hJ5 hYS hKY hN5
     gi_wp2
     rw[←hw6]
     gi_roundg (gk-1)
     ·exact⟨j+1,by omega,rfl,HA6⟩
     ·omega
    ·have HX:=zh hJx;clear hJx hYS hKY
     gi_wp2
     refine bodyPost_ret (results_none results138 _ _ _) rfl ?_;exact⟨⟨_,rfl⟩,.inr ⟨_,HPA.out,HX.out⟩⟩
end Go.Proofs.YtdohpenfkdckiabGreatDoor
namespace Go.Proofs.YtdohpenfkdckiabGreatDoor
open Go.Proofs.Tryz
open Go.RowKit
attribute [local go_sem] Oper.semAt_some
theorem Kp.putObj{S:List Nat}{a b:World}(h:Kp S a b){l:Nat}(hl:l∈S∨a.heap.size≤l)(o:Obj):Kp S a (b.putObj l o):=
 ⟨h.os,h.tape,h.output,by have:=h.size;simp[World.putObj];omega,fun k hk hn=>(World.putObj_heap_other (by
  rcases hl with hl|hl
  ·intro e;subst e;exact hn hl
  ·omega)).trans (h.block k hk hn)⟩
structure ScI(E:SEnv)(t:Tx)(s:Sto)(Ob M:Nat)(rec:LoopState→Option Code→Loop)(w:World)(N:Nat)(pre:List KV)(W:World):Prop where
 kp:Kp (t.St::Ob::E.S) w W
 hSt:W.heap[t.St]?=some (τ 0 s)
 dev:E.Dev W
 out:∃ v,W.heap[Ob]?=some (.cells #[v] 25)∧OPA W w.heap.size v pre∧∀ k,v.ownBlock=some k→k<N
 le:pre.length≤M
 lt:w.heap.size+1<N
 dfr:W.heap[w.heap.size]?=some (.deferred (some []))
 loop:W.heap[w.heap.size+1]?=some (.loop (rec .ready none))
def ScX(E:SEnv)(t:Tx)(s:Sto)(Ob M id:Nat)(rec:LoopState→Option Code→Loop)(w:World)(pre:List KV)(W:World):Prop:=
 ∃ q p v,pre=q++[p]∧q.length=M∧Kp (t.St::Ob::E.S) w W∧W.heap[t.St]?=some (τ 0 s)∧E.Dev W∧W.heap[Ob]?=some (.cells #[v] 25)∧OPA W w.heap.size v q∧W.heap[w.heap.size]?=some (.deferred (some []))∧W.heap[w.heap.size+1]?=some (.loop (rec .done (some (.exit id))))
theorem OPA.keep{S:List Nat}{w w':World}{base:Nat}{v:Value}{ps:List KV}(h:OPA w base v ps)(hK:Kp S w w')(hS:∀ k∈S,∀ c fr,w.heap[k]?≠some (.cells c 64 fr)):OPA w' base v ps:=by
 refine⟨h.1,?_⟩;rcases h.2 with h0|⟨g,cap,cur,h1,h2,h3,h4⟩
 ·exact .inl h0
 ·exact .inr ⟨g,cap,cur,h1,h2,hK.heap h3 (fun hm=>hS g hm _ _ h3),h4⟩
theorem xJ0{nn:Nat}{g:Operand}{ps:Array Tmp}{assign body:Code}{Q:Exit→Act→World→Prop}{a:Act}{w:World}(E:SEnv)(x A n:Nat)(t:Tx)(s:Sto)(r:Root)(B Lc Hc Ob M id:Nat)(lo hi:ByteArray)(h1:1≤nn)
  (hg:a.eval g=.func (.func 138) #[] #[.pointer (some ⟨B,0,none⟩),.pointer (some ⟨Lc,0,none⟩),.pointer (some ⟨Hc,0,none⟩)]) (hps:ps.size=2)
  (hI:AllIn E x A n t s r B Lc Hc lo hi w) (hO:w.heap[Ob]?=some (.cells #[.slice none 0 0] 25))
  (a₁:KV→Nat→Act)
  (hassign:∀ (l:Nat) (p:KV) (W:World) (K:Act→World→Prop),K (a₁ p W.heap.size) (W.alloc (.cells #[.string p.k,.string p.v] 64))→
   assign.wpIn (Fence.wide.inRound l) (nn-1-1) prog (Exit.then K (fun _ _ _=>False)) { tmps:=(ps.zip #[.agg #[.string p.k,.string p.v],.nilIface]).foldl (fun t (p,v)=>t.setIfInBounds p v) a.tmps,defers:=[] } W)
  (hbody:∀ (l:Nat) (pre:List KV) (p:KV) (W:World) (v:Value) (Pb:Nat),W.heap[Ob]?=some (.cells #[v] 25)→OPA W w.heap.size v pre→W.heap[Pb]?=some (.cells #[.string p.k,.string p.v] 64)→w.heap.size≤Pb→v.ownBlock≠some Pb→Kp (t.St::Ob::E.S) w W→pre.length≤M→pre.length≤50000→
   body.wpIn (Fence.wide.inRound l) (nn-1-1) prog (fun e _ W3=>match e with
    | .normal=>pre.length<M∧∃ v3 S3,Kp S3 W W3∧(∀ k∈S3,k=Ob∨v.ownBlock=some k)∧W3.heap[Ob]?=some (.cells #[v3] 25)∧OPA W3 w.heap.size v3 (pre++[p])∧∀ k,v3.ownBlock=some k→k<W3.heap.size
    | .exit i=>i=id∧pre.length=M∧W3=W
    | _=>False) (a₁ p Pb) W)
  (hdone:∀ (W:World) (v:Value),Kp (t.St::Ob::E.S) w W→W.heap[t.St]?=some (τ 0 s)→E.Dev W→W.heap[Ob]?=some (.cells #[v] 25)→OPA W w.heap.size v (qG1 r.cont lo hi M)→W.heap[w.heap.size]?=some (.deferred (some []))→w.heap.size<W.heap.size→Q .normal { a with defers:={ target:=.collected w.heap.size,args:=#[] }::a.defers } W)
  (hstop:∀ (W:World) (v:Value),Kp (t.St::Ob::E.S) w W→W.heap[t.St]?=some (τ 0 s)→E.Dev W→W.heap[Ob]?=some (.cells #[v] 25)→OPA W w.heap.size v (qG1 r.cont lo hi M)→W.heap[w.heap.size]?=some (.deferred (some []))→w.heap.size<W.heap.size→(Code.exit id).wpIn Fence.wide nn prog Q { a with defers:={ target:=.collected w.heap.size,args:=#[] }::a.defers } W):
  (Code.rangeFunc g ps assign body).wpIn Fence.wide nn prog Q a w:=by
 refine wpIn_rangeFunc ?_;intro fn hfn;obtain⟨rec,hrec⟩:∃ rec:LoopState→Option Code→Loop,rec=fun st pe=>{ state:=st,pending:=pe,fn,tmps:=a.tmps,params:=ps,assign,body,defers:=w.heap.size }:=⟨_,rfl⟩;obtain⟨W1,hW1⟩:∃ W1,(w.alloc (.deferred (some []))).alloc (.loop (rec .ready none))=W1:=⟨_,rfl⟩;have hL1:W1.heap[w.heap.size+1]?=some (.loop (rec .ready none)):=by
  rw[←hW1];have:=World.alloc_heap_new (w.alloc (.deferred (some []))) (.loop (rec .ready none));rwa [World.size_alloc] at this
 have hD1:W1.heap[w.heap.size]?=some (.deferred (some [])):=by
  rw[←hW1];exact (Below.heap_alloc _ _ _ (by simp)).trans (World.alloc_heap_new w _)
 have hK1:Kp [] w W1:=by rw[←hW1];exact ((Kp.refl _ _).alloc _).alloc _
 have hs1:W1.heap.size=w.heap.size+2:=by rw[←hW1];simp
 have hI1:=hI.more hK1;refine⟨w.heap.size+1,[{ target:=.collected w.heap.size,args:=#[] }],W1,{ target:=.fn (.func 138) #[.pointer (some ⟨B,0,none⟩),.pointer (some ⟨Lc,0,none⟩),.pointer (some ⟨Hc,0,none⟩)],args:=#[.func (.yield (w.heap.size+1)) #[] #[]] },W1,138,
  #[.func (.yield (w.heap.size+1)) #[] #[],.pointer (some ⟨B,0,none⟩),.pointer (some ⟨Lc,0,none⟩),.pointer (some ⟨Hc,0,none⟩)],W1,?_,?_,?_,?_,fun h=>(by cases h),?_⟩
 ·rw[←hW1,hrec];exact run_enterLoop_outer _ _ _ _ _
 ·simp only[resolve,hg];simp[go_sem]
 ·intro f' hf';trivial
 ·simp[invoke,go_sem,xS1]
 ·have hObs:=ζ hO;have hSts:=ζ hI.live.hSt;have hObSt:Ob≠t.St:=qB7 hO hI.live.hSt (by decide);refine (xM6 E x A n t s r B Lc Hc (w.heap.size+1) (nn-1) lo hi (ScI E t s Ob M rec w) (ScX E t s Ob M id rec w) W1 ?_ ?_ ?_ hI1 ?_).mono ?_
  ·
   intro N pre W W' S h hK hS hSt' hd';obtain⟨v,hv1,hv2,hv3⟩:=h.out;have hno:∀ k∈S,∀ c u fr,W.heap[k]?=some (.cells c u fr)→u=25∨u=64→False:=fun k hk c u fr e hu=>by
    rcases hS k hk with h1|h1|⟨_,c',fr',h1⟩
    ·rw[h1,h.hSt] at e;cases e;rcases hu with hu | hu<;>revert hu<;>decide
    ·exact E.nin h.dev e (by rcases hu with rfl | rfl<;>decide) h1
    ·rw[e] at h1;cases h1;rcases hu with hu | hu<;>revert hu<;>decide
   have hnl:∀ k∈S,∀ o,W.heap[k]?=some o→(∀ c u fr,o≠.cells c u fr)→False:=fun k hk o e ho=>by
    rcases hS k hk with h1|h1|⟨_,c',fr',h1⟩
    ·rw[h1,h.hSt] at e;cases e;exact ho _ _ _ rfl
    ·obtain⟨c',t',fr',h2,h3⟩:=E.offS W h.dev k h1;rw[e] at h2;cases h2;exact ho _ _ _ rfl
    ·rw[e] at h1;cases h1;exact ho _ _ _ rfl
   refine⟨h.kp.trans hK (fun i hi hlt=>?_),hSt',hd',⟨v,hK.heap hv1 (fun hm=>hno _ hm _ _ _ hv1 (.inl rfl)),hv2.keep hK (fun k hk c fr e=>hno k hk _ _ _ e (.inr rfl)),hv3⟩,h.le,h.lt,hK.heap h.dfr (fun hm=>hnl _ hm _ h.dfr (by intros;simp)),hK.heap h.loop (fun hm=>hnl _ hm _ h.loop (by intros;simp))⟩;rcases hS i hi with h1|h1|⟨h1,_⟩
   ·simp[h1]
   ·simp[h1]
   ·omega
  ·intro N N' pre W h hN;obtain⟨v,hv1,hv2,hv3⟩:=h.out;exact { h with out:=⟨v,hv1,hv2,fun k hk=>by have:=hv3 k hk;omega⟩,lt:=by have:=h.lt;omega }
  ·
   intro N pre p W h hNs hpre hA;obtain⟨v,hv1,hv2,hv3⟩:=h.out;have hlt:w.heap.size+1<W.heap.size:=ζ h.loop;have hy:=run_yield (P:=prog) (args:=#[.agg #[.string p.k,.string p.v],.nilIface]) h.loop (by rw[hrec];simp[hps]);rw[hrec] at hy;refine⟨fn,_,assign,body,hy,roundIn_of_wpIn hfn (hassign _ p W _ ?_)⟩;clear hy;have hKa:Kp [] W (W.alloc (.cells #[.string p.k,.string p.v] 64)):=(Kp.refl _ _).alloc _;have hLa:=hKa.hp h.loop;refine⟨_,run_beginRound hLa (by rw[hrec]),?_⟩;obtain⟨W2,hW2,hL2,hK2,hP2,hs2⟩:∃ W2,W2=(W.alloc (.cells #[.string p.k,.string p.v] 64)).putObj (w.heap.size+1) (.loop { rec .ready none with state:=.busy })∧W2.heap[w.heap.size+1]?=some (.loop { rec .ready none with state:=.busy })∧Kp [w.heap.size+1] W W2∧W2.heap[W.heap.size]?=some (.cells #[.string p.k,.string p.v] 64)∧W2.heap.size=W.heap.size+1:=
    ⟨_,rfl,World.putObj_heap_same (by simp;omega),((hKa.mono (by simp)).putObj (by simp) _),(World.putObj_heap_other (by omega)).trans (μ _ _),by simp[World.putObj]⟩
   rw[←hW2];clear hW2 hKa hLa;have hne2:∀ {k:Nat} {c:Array Value} {u:TypeId} {fr:Nat × Nat},W.heap[k]?=some (.cells c u fr)→k ∉ [w.heap.size+1]:=fun hk hm=>by
    rw[List.mem_singleton.1 hm,h.loop] at hk;cases hk
   have hO2:=hK2.heap hv1 (hne2 hv1);have hOP2:OPA W2 w.heap.size v pre:=hv2.keep hK2 (fun k hk c fr e=>by rw[List.mem_singleton.1 hk,h.loop] at e;cases e);have hkw2:Kp (t.St::Ob::E.S) w W2:=h.kp.trans hK2 (by intro i hi hlt;simp at hi;omega);have hown:∀ k,v.ownBlock=some k→k<N∧∃ cur,W.heap[k]?=some (.cells cur 64):=fun k hk=>⟨hv3 k hk,by
    rcases hv2.2 with⟨h0,_⟩|⟨gb,cap,cur,e1,e2,e3,_⟩
    ·rw[h0] at hk;cases hk
    ·rw[e1] at hk;cases hk;exact⟨cur,e3⟩⟩
   have hlen:pre.length≤50000:=by
    have h1:=List.IsPrefix.length_le hpre;have h2:=List.length_filter_le (inR lo hi) r.cont;have h3:=hI.live.sz;simp at h1;omega
   refine wpIn_mono (hbody _ pre p W2 v W.heap.size hO2 hOP2 hP2 (by omega) (fun e=>by have:=(hown _ e).1;omega) hkw2 h.le hlen) ?_;rintro e a3 W3 hp
   cases e with
   | normal=>
    obtain⟨hm,v3,S3,hK3,hS3,hO3,hOP3,hv33⟩:=hp;have hL3:W3.heap[w.heap.size+1]?=some (.loop { rec .ready none with state:=.busy }):=hK3.heap hL2 (fun hmm=>by
     rcases hS3 _ hmm with e|e
     ·rw[←e] at hv1;rw[h.loop] at hv1;cases hv1
     ·obtain⟨_,cur,e2⟩:=hown _ e;rw[h.loop] at e2;cases e2)
    have hr:=run_endRound (P:=prog) none hL3;rw[hrec] at hr;have hK13:Kp ((w.heap.size+1)::S3) W W3:=(hK2.mono (by simp +contextual)).trans hK3 (by simp +contextual);have hin3:∀ k∈S3,k∈[Ob]∨w.heap.size≤k:=fun k hk=>by
     rcases hS3 k hk with e|e
     ·exact .inl (by simp[e])
     ·exact .inr (hv2.low k e)
    have hs3:=hK3.size;have hYS:YS W N ((w.heap.size+1)::S3):=fun k hk=>by
     rcases List.mem_cons.1 hk with e|e
     ·rw[e];exact⟨h.lt,.inr ⟨_,h.loop⟩⟩
     ·rcases hS3 k e with e2|e2
      ·rw[e2];refine⟨?_,.inl ⟨_,_,_,hv1,.inl rfl⟩⟩;have:=h.lt;omega
      ·obtain⟨e3,cur,e4⟩:=hown k e2;exact⟨e3,.inl ⟨_,_,_,e4,.inr rfl⟩⟩
    have hKf:Kp ((w.heap.size+1)::S3) W (W3.putObj (w.heap.size+1) (.loop (rec .ready none))):=hK13.putObj (by simp) _;have hSt3:=hYS.keep hKf h.hSt ⟨by decide,.inl (by decide)⟩;have hneL:∀ {k:Nat} {c:Array Value} {u:TypeId} {fr:Nat × Nat},W3.heap[k]?=some (.cells c u fr)→k≠w.heap.size+1:=fun hk e=>by rw[e,hL3] at hk;cases hk
    refine⟨_,_,hr,((w.heap.size+1)::S3),hYS,?_,.inl ⟨rfl,?_⟩⟩
    ·rw[hrec] at hKf;exact hKf
    ·have hfin:ScI E t s Ob M rec w (W3.putObj (w.heap.size+1) (.loop (rec .ready none))).heap.size (pre++[p]) (W3.putObj (w.heap.size+1) (.loop (rec .ready none))):=by
      refine⟨h.kp.trans hKf (fun i hi hlt=>?_),hSt3,E.keepX _ _ _ h.dev hKf hYS.off,⟨v3,(World.putObj_heap_other (hneL hO3)).trans hO3,hOP3.keep ((Kp.refl [w.heap.size+1] W3).putObj (by simp) _) (fun k hk c fr e=>by rw[List.mem_singleton.1 hk,hL3] at e;cases e),fun k hk=>by have:=hv33 k hk;simp[World.putObj];omega⟩,by simp;omega,by simp[World.putObj];omega,?_,World.putObj_heap_same (ζ hL3)⟩
      ·rcases List.mem_cons.1 hi with e|e
       ·omega
       ·rcases hin3 i e with e2|e2
        ·simp at e2;simp[e2]
        ·omega
      ·refine (World.putObj_heap_other (by omega)).trans (hK13.heap h.dfr (fun hm=>?_));rcases List.mem_cons.1 hm with e|e
       ·omega
       ·rcases hS3 _ e with e2|e2
        ·rw[←e2] at hv1;rw[h.dfr] at hv1;cases hv1
        ·obtain⟨_,cur,e4⟩:=hown _ e2;rw[h.dfr] at e4;cases e4
     rw[hrec] at hfin ⊢;exact hfin
   | exit i=>
    obtain⟨rfl,hm,rfl⟩:=hp;have hr:=run_endRound (P:=prog) (some (.exit i)) hL2;rw[hrec] at hr;have hYS:YS W N [w.heap.size+1]:=fun k hk=>by rw[List.mem_singleton.1 hk];exact⟨h.lt,.inr ⟨_,h.loop⟩⟩
    have hKf:Kp [w.heap.size+1] W (W3.putObj (w.heap.size+1) (.loop (rec .done (some (.exit i))))):=hK2.putObj (by simp) _;refine⟨_,_,hr,[w.heap.size+1],hYS,?_,.inr ⟨rfl,?_⟩⟩
    ·rw[hrec] at hKf;exact hKf
    ·have hfin:ScX E t s Ob M i rec w (pre++[p]) (W3.putObj (w.heap.size+1) (.loop (rec .done (some (.exit i))))):=
      ⟨pre,p,v,rfl,hm,h.kp.trans hKf (by intro i hi hlt;simp at hi;omega),hYS.keep hKf h.hSt ⟨by decide,.inl (by decide)⟩,E.keepX _ _ _ h.dev hKf hYS.off,hKf.heap hv1 (hne2 hv1),hv2.keep hKf (fun k hk c fr e=>by rw[List.mem_singleton.1 hk,h.loop] at e;cases e),hKf.hp h.dfr,World.putObj_heap_same (ζ hL2)⟩
     rw[hrec] at hfin ⊢;exact hfin
   | ret=>exact hp.elim
   | goto l=>exact hp.elim
   | panic ch=>exact hp.elim
   | outgrown=>exact hp.elim
  ·exact⟨hK1.mono (by simp),hI1.live.hSt,hI1.live.dev,⟨_,hK1.hp hO,OPA.nil _ _,fun k hk=>by cases hk⟩,Nat.zero_le _,by omega,hD1,hL1⟩
  ·
   rintro e W2 ⟨⟨v,rfl⟩,⟨N,h⟩|⟨pre,hpre,q,p,v2,rfl,hM,hkp,hSt2,hd2,hO2,hOP2,hD2,hL2⟩⟩
   ·obtain⟨v2,hO2,hOP2,_⟩:=h.out;have hr:=run_endLoop (P:=prog) h.loop (by rw[hrec];simp);rw[hrec] at hr;have hKf:Kp [w.heap.size+1] W2 (W2.putObj (w.heap.size+1) (.loop { rec .ready none with state:=.exhausted })):=(Kp.refl _ _).putObj (by simp) _;have hsc:qG1 r.cont lo hi M=r.cont.filter (inR lo hi):=by
     rw[qG1];exact List.take_of_length_le (by have:=h.le;simp;omega)
    have hneL:∀ {k:Nat} {c:Array Value} {u:TypeId} {fr:Nat × Nat},W2.heap[k]?=some (.cells c u fr)→k ∉ [w.heap.size+1]:=fun hk hm=>by rw[List.mem_singleton.1 hm,h.loop] at hk;cases hk
    refine⟨none,_,hr,?_⟩;have:=hdone (W2.putObj (w.heap.size+1) (.loop { rec .ready none with state:=.exhausted })) v2 (h.kp.trans hKf (by intro i hi hlt;simp at hi;omega)) (hKf.heap h.hSt (hneL h.hSt)) (E.keepX _ _ _ h.dev hKf (fun k hk c u fr e=>by rw[List.mem_singleton.1 hk,h.loop] at e;cases e)) (hKf.heap hO2 (hneL hO2)) (by rw[hsc];exact hOP2.keep hKf (fun k hk c fr e=>by rw[List.mem_singleton.1 hk,h.loop] at e;cases e)) (hKf.hp h.dfr) (by have:=ζ h.loop;simp[World.putObj];omega);rw[hrec] at this;exact this
   ·have hr:=run_endLoop (P:=prog) hL2 (by rw[hrec];simp);rw[hrec] at hr;have hKf:Kp [w.heap.size+1] W2 (W2.putObj (w.heap.size+1) (.loop { rec .done (some (.exit id)) with state:=.exhausted })):=(Kp.refl _ _).putObj (by simp) _;have hsc:qG1 r.cont lo hi M=q:=by
     rw[qG1];obtain⟨z,hz⟩:=hpre;rw[←hz,Int.toNat_natCast,List.append_assoc,←hM,List.take_left'];rfl
    have hneL:∀ {k:Nat} {c:Array Value} {u:TypeId} {fr:Nat × Nat},W2.heap[k]?=some (.cells c u fr)→k ∉ [w.heap.size+1]:=fun hk hm=>by rw[List.mem_singleton.1 hm,hL2] at hk;cases hk
    refine⟨some (.exit id),_,hr,?_⟩;have:=hstop (W2.putObj (w.heap.size+1) (.loop { rec .done (some (.exit id)) with state:=.exhausted })) v2 (hkp.trans hKf (by intro i hi hlt;simp at hi;omega)) (hKf.heap hSt2 (hneL hSt2)) (E.keepX _ _ _ hd2 hKf (fun k hk c u fr e=>by rw[List.mem_singleton.1 hk,hL2] at e;cases e)) (hKf.heap hO2 (hneL hO2)) (by rw[hsc];exact hOP2.keep hKf (fun k hk c fr e=>by rw[List.mem_singleton.1 hk,hL2] at e;cases e)) (hKf.hp hD2) (by have:=ζ hL2;simp[World.putObj];omega);rw[hrec] at this;exact this
end Go.Proofs.YtdohpenfkdckiabGreatDoor
namespace Go.Proofs.YtdohpenfkdckiabGreatDoor
open Go.Proofs.Tryz
open Go.RowKit
attribute [local go_sem] Oper.semAt_some
theorem xI3(w:World)(a b:Value)(t:TypeId):∀ j u,[a,b][j]?=some u→(w.alloc (.cells #[a,b] t)).cell? ((⟨w.heap.size,0,none⟩:Addr).add j)=some u:=fun j u hj=>by
 rw[qM1,ξ (μ _ _)];simpa using hj
theorem zV0{W w5:World}{X:Obj}{row:Option Nat}{k:Nat}{o:Obj}(h:W.heap[k]?=some o)(hg:(W.alloc X).grownBy w5 row)(hn:row≠some k):w5.heap[k]?=some o:=
 (hg.block k (by have:=ζ h;simp;omega) (fun e=>hn e.symm)).trans (θ _ h)
theorem OPA.keepR{S:List Nat}{w w':World}{base n sz:Nat}{v:Value}{xs:List Value}(h:w.ownsRow base 64 sz v n xs)(hK:Kp S w w')(hS:∀ k∈S,∀ c fr,w.heap[k]?≠some (.cells c 64 fr)):w'.ownsRow base 64 sz v n xs:=by
 refine⟨h.1,?_⟩;rcases h.2 with h0|⟨g,cap,cur,h1,h2,h3,h4⟩
 ·exact .inl h0
 ·exact .inr ⟨g,cap,cur,h1,h2,hK.heap h3 (fun hm=>hS g hm _ _ h3),h4⟩
theorem jP0(E:SEnv)(x A n:Nat)(t:Tx)(s:Sto)(r:Root)(lo hi:ByteArray)(most:Int)(w:World)(hL:LiveT E w x A n t s r)(hm0:-9223372036854775808≤most)(hm1:most≤9223372036854775807):
  Calls prog 61 #[.pointer (some ⟨x,0,none⟩),.string lo,.string hi,.int .i64 most] w fun e w'=>∃ v,e=.returned (.tuple #[v,.nilIface])∧OPA w' w.heap.size v (qG1 r.cont lo hi most)∧BadT E w w' t s:=by
 have HL:=zh hL;have hxs:=ζ hL.hx;have hSs:=ζ hL.hSt;clear hL;obtain⟨M,hM⟩:∃ M:Nat,M=most.toNat:=⟨_,rfl⟩;have HSC:Hid (qG1 r.cont lo hi most=qG1 r.cont lo hi M):=by show _=_;rw[qG1,qG1,hM,Int.toNat_natCast]
 obtain⟨i0,hi0,hz0,hz1,hz2⟩:=info_parts xK9;refine (callsIn_wide (n:=9)).1 ?_;refine callsIn_of_wp_marks func61 rfl trivial ?_ rfl;simp only[ntmps61,List.size_toArray,List.length_cons,List.length_nil,Nat.reduceAdd,Nat.reduceSub,Array.replicate_succ,Array.replicate_zero,List.push_toArray,List.append_toArray,List.nil_append,List.cons_append];obtain⟨w0,hw0,hM0,hR0,hE0,hO0,hK0,hs0⟩:∃ w0,w0=(((w.alloc (.cells #[.int .i64 (M:Int)] 3)).alloc (.cells #[.slice none 0 0] 25)).alloc (.cells #[.nilIface] 35)).alloc (.cells #[.slice none 0 0] 25)∧w0.heap[w.heap.size]?=some (.cells #[.int .i64 (M:Int)] 3)∧w0.heap[w.heap.size+1]?=some (.cells #[.slice none 0 0] 25)∧w0.heap[w.heap.size+1+1]?=some (.cells #[.nilIface] 35)∧w0.heap[w.heap.size+1+1+1]?=some (.cells #[.slice none 0 0] 25)∧Kp [] w w0∧w0.heap.size=w.heap.size+4:=by
  refine⟨_,rfl,θ _ (θ _ (θ _ (μ _ _))),θ _ (θ _ ?_),θ _ ?_,?_,((((Kp.refl _ _).alloc _).alloc _).alloc _).alloc _,by simp⟩
  ·have e:=μ (w.alloc (.cells #[.int .i64 (M:Int)] 3)) (.cells #[.slice none 0 0] 25);simpa using e
  ·have e:=μ ((w.alloc (.cells #[.int .i64 (M:Int)] 3)).alloc (.cells #[.slice none 0 0] 25)) (.cells #[.nilIface] 35);simpa using e
  ·have e:=μ (((w.alloc (.cells #[.int .i64 (M:Int)] 3)).alloc (.cells #[.slice none 0 0] 25)).alloc (.cells #[.nilIface] 35)) (.cells #[.slice none 0 0] 25);simpa using e
 have HW0:=zh hw0;have HS0:=zh hs0;clear hw0 hs0;by_cases hb:most<1
 ·have hM1:(0:Int)=(M:Int):=by omega
  have HM1:=zh hM1;clear hM1 hM
  gi_wp2_with fail
  refine⟨trivial,?_⟩;rw[HM1.out,←HW0.out];have hL0:=HL.out.more hK0;refine callsIn_wide.2 ((zP1 x lo hi w0).mono ?_);rintro e w1 ⟨rfl,hB1,hLc1,hHc1,hK1⟩;have hI1:AllIn E x A n t s r w0.heap.size (w0.heap.size+1) (w0.heap.size+2) lo hi w1:=⟨hL0.more hK1,hB1,hLc1,hHc1⟩;have hM1:=hK1.hp hM0;have hR1:=hK1.hp hR0;have hE1:=hK1.hp hE0;have hO1:=hK1.hp hO0;have HK1:Hid (Kp [] w w1):=hK0.tr hK1;have hs1:=hK1.size;clear hM0 hR0 hE0 hO0 hK0 hK1 hB1 hLc1 hHc1 hL0
  gi_wp2_with fail
  have hSo:t.St≠w.heap.size+1+1+1:=by omega
  refine xJ0 E x A n t s r w0.heap.size (w0.heap.size+1) (w0.heap.size+2) (w.heap.size+1+1+1) M 0 lo hi (by decide) rfl rfl hI1 hO1 (fun p Pb=>{ tmps:=#[.pointer (some ⟨x,0,none⟩),.string lo,.string hi,.int .i64 most,undef,undef,undef,.pointer (some ⟨w.heap.size,0,none⟩),.pointer (some ⟨w.heap.size+1,0,none⟩),.pointer (some ⟨w.heap.size+1+1,0,none⟩),.pointer (some ⟨w.heap.size+1+1+1,0,none⟩),.pointer (some ⟨Pb,0,none⟩),.nilIface,.int .i64 most,.bool true,.pointer (some ⟨x,0,none⟩),.string lo,.string hi,.func (.func 138) #[] #[.pointer (some ⟨w0.heap.size,0,none⟩),.pointer (some ⟨w0.heap.size+1,0,none⟩),.pointer (some ⟨w0.heap.size+2,0,none⟩)],.agg #[.string p.k,.string p.v],.nilIface,undef,undef,undef,undef,undef,undef,undef,undef,undef,undef,undef,undef],defers:=[] }) ?assign ?body ?done ?stop
  case assign=>
   intro l p W K hK
   gi_wp2
   exact hK
  case body=>
   intro l pre p W v Pb hO hOP hP hPb hown hkp hle hlen;have hMW:=hkp.heap hM1 (by
    simp only[List.mem_cons,not_or];exact⟨by omega,by omega,fun h=>by have:=E.low w HL.out.dev _ h;omega⟩)
   have hObs:=ζ hO;have hPs:=ζ hP;have hMs:=ζ hMW;have o0:=ξ hO 0;simp only[zG,zH,zI] at o0;have fo0:=ρ hO 0;have p0:=ξ hP;have m0:=ξ hMW 0;simp only[zG,zH,zI] at m0;obtain⟨ob,oc,rfl⟩:=hOP.form;by_cases hq:pre.length=M
   ·have hqb:(pre.length:Int)=(M:Int):=by omega
    clear hM1 hR1 hE1 hO1 hI1 hO hP hMW
    gi_wp2
    all_goals exact⟨rfl,hq,rfl⟩
   ·have hqb:¬(pre.length:Int)=(M:Int):=by omega
    have HOO:Hid (W.heap[w.heap.size+1+1+1]?=some (.cells #[.slice ob pre.length oc] 25)∧OPA W w1.heap.size (.slice ob pre.length oc) pre∧Kp (t.St::(w.heap.size+1+1+1)::E.S) w1 W):=⟨hO,hOP,hkp⟩;have hsz:=hkp.size;have HNO:Hid ((Value.slice ob pre.length oc).ownBlock≠some (w.heap.size+1+1+1)):=fun e=>by
     rcases hOP.2 with⟨h0,_⟩|⟨gb,cap,cur,e1,e2,e3,_⟩
     ·rw[h0] at e;cases e
     ·rw[e1] at e;cases e;rw[hO] at e3;cases e3
    clear hM1 hR1 hE1 hO1 hI1 hO hP hMW hOP hkp
    gi_wp2_with (gi_at_builtin;refine wpListIn_append_own _ rfl _ _ 25 rfl w1.heap.size 64 i0 (.agg #[.string ⟨#[]⟩,.string ⟨#[]⟩]) 2 32 underlying25 hi0 hz0 hz1 hz2 rfl (by decide) _ _ _ rfl (World.ownsRow.alloc HOO.out.2.1 _) ⟨W.heap.size,0,none⟩ 1 1 [.string p.k,.string p.v] rfl rfl (xI3 _ _ _ _) (by simp[Value.oneCell']) (by unfold maxLen;omega) (by omega) (by simp;omega) ?_;intro v5 w5 hO5 hg5 _;obtain⟨g5,c5,rfl⟩:=qJ2 hO5;have hOb5:=zV0 HOO.out.1 hg5 HNO.out;have o5:=ξ hOb5 0;have fo5:=ρ hOb5 0;simp only[zG,zH] at o5)
    have hpl:pre.length<M:=by omega
    have hs5:=hg5.size;refine⟨hpl,.slice (some ⟨g5,0,none⟩) (pre.length+1) c5,[w.heap.size+1+1+1]++(Value.slice ob pre.length oc).ownBlock.toList,?_,?_,ω hOb5 0 _,?_,?_⟩
    ·refine ((((Kp.refl _ W).alloc _).grown hg5 (fun k hk=>.inl (List.mem_append.2 (.inr (by have hk2:(Value.slice ob pre.length oc).ownBlock=some k:=hk;rw[hk2];simp))))).sc _)
    ·intro k hk;rcases List.mem_append.1 hk with h|h
     ·exact .inl (List.mem_singleton.1 h)
     ·exact .inr (by simpa using h)
    ·have e:qA9 (pre++[p])=qA9 pre++[.string p.k,.string p.v]:=zN5 pre p;unfold OPA;rw[e,List.length_append];refine OPA.keepR hO5 ((Kp.refl [w.heap.size+1+1+1] w5).sc _) (fun k hk c fr e=>?_);rw[List.mem_singleton.1 hk,hOb5] at e;cases e
    ·intro k hk;have:=(World.ownsRow.lt hO5 k hk).2;simp[World.setCell];omega
  case done=>
   intro W v hkp hSt hd hO hOP hD hlt;have hlow:∀ k,w.heap.size≤k→k≠w.heap.size+1+1+1→k ∉ t.St::(w.heap.size+1+1+1)::E.S:=fun k hk hne hm=>by
    simp only[List.mem_cons] at hm;rcases hm with h|h|h
    ·omega
    ·omega
    ·have:=E.low w HL.out.dev _ h;omega
   have hRW:=hkp.heap hR1 (hlow _ (by omega) (by omega));have hEW:=hkp.heap hE1 (hlow _ (by omega) (by omega));have hObs:=ζ hO;have hRs:=ζ hRW;have hEs:=ζ hEW;obtain⟨ob,oc,hform⟩:=hOP.form;subst hform;have o0:=ξ hO 0;simp only[zG,zH,zI] at o0;have r0:=ξ hRW 0;simp only[zG,zH,zI] at r0;have fr0:=ρ hRW 0;have e0:=ξ hEW 0;simp only[zG,zH,zI] at e0;have fe0:=ρ hEW 0;obtain⟨sl,hsl⟩:∃ sl,sl=(qG1 r.cont lo hi M).length:=⟨_,rfl⟩;rw[←hsl] at o0;have HOP:Hid (OPA W w1.heap.size (.slice ob sl oc) (qG1 r.cont lo hi M)):=by rw[hsl];exact hOP
   have HW:Hid (W.heap[t.St]?=some (τ 0 s)∧E.Dev W∧Kp (t.St::(w.heap.size+1+1+1)::E.S) w1 W∧W.heap[w.heap.size+1]?=some (.cells #[.slice none 0 0] 25)∧W.heap[w.heap.size+1+1]?=some (.cells #[.nilIface] 35)∧W.heap[w1.heap.size]?=some (.deferred (some []))):=⟨hSt,hd,hkp,hRW,hEW,hD⟩;clear hM1 hR1 hE1 hO1 hI1 hSt hd hkp hRW hEW hD hO hOP hsl hlow
   gi_wp2
   obtain⟨hSt,hd,hkp,hRW,hEW,hD⟩:=HW.out;have hs0:=HS0.out;have hKw1:Kp (t.St::(w.heap.size+1+1+1)::E.S) w W:=(HK1.out.mono (by simp)).trans hkp (fun _ h _=>h);have hsw:=hKw1.size;have hEl:∀ k∈E.S,k<w.heap.size:=E.low w HL.out.dev;obtain⟨w4,hw4,hR4,hE4,hD4,hK4⟩:∃ w4,w4=(W.setCell ⟨w.heap.size+1,0,none⟩ (.slice ob sl oc)).setCell ⟨w.heap.size+1+1,0,none⟩ .nilIface∧w4.heap[w.heap.size+1]?=some (.cells #[.slice ob sl oc] 25)∧w4.heap[w.heap.size+1+1]?=some (.cells #[.nilIface] 35)∧w4.heap[w1.heap.size]?=some (.deferred (some []))∧Kp [w.heap.size+1,w.heap.size+1+1] W w4:=
    ⟨_,rfl,(qA7 (by omega) _ _).trans (ω hRW 0 _),ω ((qA7 (by omega) _ _).trans hEW) 0 _,(qA7 (by omega) _ _).trans ((qA7 (by omega) _ _).trans hD),((Kp.refl _ _).sc _).sc _⟩
   rw[←hw4];clear hw4;refine⟨by simp,.inl ⟨_,_,rfl,run_takeDeferred hD4,?_⟩⟩;obtain⟨w5,hw5,hR5,hE5,hK5⟩:∃ w5,w5=w4.putObj w1.heap.size (.deferred none)∧w5.heap[w.heap.size+1]?=some (.cells #[.slice ob sl oc] 25)∧w5.heap[w.heap.size+1+1]?=some (.cells #[.nilIface] 35)∧Kp [w.heap.size+1,w.heap.size+1+1,w1.heap.size] W w5:=
    ⟨_,rfl,(World.putObj_heap_other (by omega)).trans hR4,(World.putObj_heap_other (by omega)).trans hE4,(hK4.mono (by simp +contextual)).putObj (by simp) _⟩
   rw[←hw5];clear hw5;have r0:=ξ hR5 0;have e0:=ξ hE5 0;simp only[zG,zH] at r0 e0;have hoff:OffD W [w.heap.size+1,w.heap.size+1+1,w1.heap.size]:=(OffD.one hRW (by decide)).cons ((OffD.one hEW (by decide)).cons (fun k hk c t fr e=>by rw[List.mem_singleton.1 hk,hD] at e;cases e));have hop5:OPA w5 w1.heap.size (.slice ob sl oc) (qG1 r.cont lo hi M):=HOP.out.keep hK5 (fun k hk c fr e=>by
    simp only[List.mem_cons,List.not_mem_nil,or_false] at hk;rcases hk with h|h|h
    ·rw[h,hRW] at e;cases e
    ·rw[h,hEW] at e;cases e
    ·rw[h,hD] at e;cases e)
   refine⟨.tuple #[.slice ob sl oc,.nilIface],?_,.slice ob sl oc,rfl,?_,E.keepX _ _ _ hd hK5 hoff,hK5.heap hSt ?_,hKw1.trans hK5 ?_ |>.mono ?_⟩
   ·simp[results,results61,go_sem,r0,e0]
   ·rw[HSC.out];exact qI7 hop5 (by omega)
   ·simp only[List.mem_cons,List.not_mem_nil,or_false,not_or];exact⟨by omega,by omega,by omega⟩
   ·intro i hi hlt;simp at hi;omega
   ·intro i hi hlt;simp only[List.mem_cons] at hi ⊢;rcases hi with h|h|h
    ·exact .inl h
    ·omega
    ·exact .inr h
  case stop=>
   intro W v hkp hSt hd hO hOP hD hlt;have hlow:∀ k,w.heap.size≤k→k≠w.heap.size+1+1+1→k ∉ t.St::(w.heap.size+1+1+1)::E.S:=fun k hk hne hm=>by
    simp only[List.mem_cons] at hm;rcases hm with h|h|h
    ·omega
    ·omega
    ·have:=E.low w HL.out.dev _ h;omega
   have hRW:=hkp.heap hR1 (hlow _ (by omega) (by omega));have hEW:=hkp.heap hE1 (hlow _ (by omega) (by omega));have hObs:=ζ hO;have hRs:=ζ hRW;have hEs:=ζ hEW;obtain⟨ob,oc,hform⟩:=hOP.form;subst hform;have o0:=ξ hO 0;simp only[zG,zH,zI] at o0;have r0:=ξ hRW 0;simp only[zG,zH,zI] at r0;have fr0:=ρ hRW 0;have e0:=ξ hEW 0;simp only[zG,zH,zI] at e0;have fe0:=ρ hEW 0;obtain⟨sl,hsl⟩:∃ sl,sl=(qG1 r.cont lo hi M).length:=⟨_,rfl⟩;rw[←hsl] at o0;have HOP:Hid (OPA W w1.heap.size (.slice ob sl oc) (qG1 r.cont lo hi M)):=by rw[hsl];exact hOP
   have HW:Hid (W.heap[t.St]?=some (τ 0 s)∧E.Dev W∧Kp (t.St::(w.heap.size+1+1+1)::E.S) w1 W∧W.heap[w.heap.size+1]?=some (.cells #[.slice none 0 0] 25)∧W.heap[w.heap.size+1+1]?=some (.cells #[.nilIface] 35)∧W.heap[w1.heap.size]?=some (.deferred (some []))):=⟨hSt,hd,hkp,hRW,hEW,hD⟩;clear hM1 hR1 hE1 hO1 hI1 hSt hd hkp hRW hEW hD hO hOP hsl hlow
   gi_wp2
   obtain⟨hSt,hd,hkp,hRW,hEW,hD⟩:=HW.out;have hs0:=HS0.out;have hKw1:Kp (t.St::(w.heap.size+1+1+1)::E.S) w W:=(HK1.out.mono (by simp)).trans hkp (fun _ h _=>h);have hsw:=hKw1.size;have hEl:∀ k∈E.S,k<w.heap.size:=E.low w HL.out.dev;obtain⟨w4,hw4,hR4,hE4,hD4,hK4⟩:∃ w4,w4=(W.setCell ⟨w.heap.size+1,0,none⟩ (.slice ob sl oc)).setCell ⟨w.heap.size+1+1,0,none⟩ .nilIface∧w4.heap[w.heap.size+1]?=some (.cells #[.slice ob sl oc] 25)∧w4.heap[w.heap.size+1+1]?=some (.cells #[.nilIface] 35)∧w4.heap[w1.heap.size]?=some (.deferred (some []))∧Kp [w.heap.size+1,w.heap.size+1+1] W w4:=
    ⟨_,rfl,(qA7 (by omega) _ _).trans (ω hRW 0 _),ω ((qA7 (by omega) _ _).trans hEW) 0 _,(qA7 (by omega) _ _).trans ((qA7 (by omega) _ _).trans hD),((Kp.refl _ _).sc _).sc _⟩
   rw[←hw4];clear hw4;refine⟨by simp,.inl ⟨_,_,rfl,run_takeDeferred hD4,?_⟩⟩;obtain⟨w5,hw5,hR5,hE5,hK5⟩:∃ w5,w5=w4.putObj w1.heap.size (.deferred none)∧w5.heap[w.heap.size+1]?=some (.cells #[.slice ob sl oc] 25)∧w5.heap[w.heap.size+1+1]?=some (.cells #[.nilIface] 35)∧Kp [w.heap.size+1,w.heap.size+1+1,w1.heap.size] W w5:=
    ⟨_,rfl,(World.putObj_heap_other (by omega)).trans hR4,(World.putObj_heap_other (by omega)).trans hE4,(hK4.mono (by simp +contextual)).putObj (by simp) _⟩
   rw[←hw5];clear hw5;have r0:=ξ hR5 0;have e0:=ξ hE5 0;simp only[zG,zH] at r0 e0;have hoff:OffD W [w.heap.size+1,w.heap.size+1+1,w1.heap.size]:=(OffD.one hRW (by decide)).cons ((OffD.one hEW (by decide)).cons (fun k hk c t fr e=>by rw[List.mem_singleton.1 hk,hD] at e;cases e));have hop5:OPA w5 w1.heap.size (.slice ob sl oc) (qG1 r.cont lo hi M):=HOP.out.keep hK5 (fun k hk c fr e=>by
    simp only[List.mem_cons,List.not_mem_nil,or_false] at hk;rcases hk with h|h|h
    ·rw[h,hRW] at e;cases e
    ·rw[h,hEW] at e;cases e
    ·rw[h,hD] at e;cases e)
   refine⟨.tuple #[.slice ob sl oc,.nilIface],?_,.slice ob sl oc,rfl,?_,E.keepX _ _ _ hd hK5 hoff,hK5.heap hSt ?_,hKw1.trans hK5 ?_ |>.mono ?_⟩
   ·simp[results,results61,go_sem,r0,e0]
   ·rw[HSC.out];exact qI7 hop5 (by omega)
   ·simp only[List.mem_cons,List.not_mem_nil,or_false,not_or];exact⟨by omega,by omega,by omega⟩
   ·intro i hi hlt;simp at hi;omega
   ·intro i hi hlt;simp only[List.mem_cons] at hi ⊢;rcases hi with h|h|h
    ·exact .inl h
    ·omega
    ·exact .inr h
 ·have hM1:most=(M:Int):=by omega
  have HM1:=zh hM1;clear hM1 hM
  gi_wp2_with fail
  refine⟨trivial,?_⟩;have e0:(((w.alloc (.cells #[.int .i64 most] 3)).alloc (.cells #[.slice none 0 0] 25)).alloc (.cells #[.nilIface] 35)).alloc (.cells #[.slice none 0 0] 25)=w0:=by rw[HW0.out,←HM1.out]
  rw[e0];clear e0;have hL0:=HL.out.more hK0;refine callsIn_wide.2 ((zP1 x lo hi w0).mono ?_);rintro e w1 ⟨rfl,hB1,hLc1,hHc1,hK1⟩;have hI1:AllIn E x A n t s r w0.heap.size (w0.heap.size+1) (w0.heap.size+2) lo hi w1:=⟨hL0.more hK1,hB1,hLc1,hHc1⟩;have hM1:=hK1.hp hM0;have hR1:=hK1.hp hR0;have hE1:=hK1.hp hE0;have hO1:=hK1.hp hO0;have HK1:Hid (Kp [] w w1):=hK0.tr hK1;have hs1:=hK1.size;clear hM0 hR0 hE0 hO0 hK0 hK1 hB1 hLc1 hHc1 hL0
  gi_wp2_with fail
  have hSo:t.St≠w.heap.size+1+1+1:=by omega
  refine xJ0 E x A n t s r w0.heap.size (w0.heap.size+1) (w0.heap.size+2) (w.heap.size+1+1+1) M 0 lo hi (by decide) rfl rfl hI1 hO1 (fun p Pb=>{ tmps:=#[.pointer (some ⟨x,0,none⟩),.string lo,.string hi,.int .i64 most,undef,undef,undef,.pointer (some ⟨w.heap.size,0,none⟩),.pointer (some ⟨w.heap.size+1,0,none⟩),.pointer (some ⟨w.heap.size+1+1,0,none⟩),.pointer (some ⟨w.heap.size+1+1+1,0,none⟩),.pointer (some ⟨Pb,0,none⟩),.nilIface,.int .i64 most,.bool false,.pointer (some ⟨x,0,none⟩),.string lo,.string hi,.func (.func 138) #[] #[.pointer (some ⟨w0.heap.size,0,none⟩),.pointer (some ⟨w0.heap.size+1,0,none⟩),.pointer (some ⟨w0.heap.size+2,0,none⟩)],.agg #[.string p.k,.string p.v],.nilIface,undef,undef,undef,undef,undef,undef,undef,undef,undef,undef,undef,undef],defers:=[] }) ?assign ?body ?done ?stop
  case assign=>
   intro l p W K hK
   gi_wp2
   exact hK
  case body=>
   intro l pre p W v Pb hO hOP hP hPb hown hkp hle hlen;have hMW:=hkp.heap hM1 (by
    simp only[List.mem_cons,not_or];exact⟨by omega,by omega,fun h=>by have:=E.low w HL.out.dev _ h;omega⟩)
   have hObs:=ζ hO;have hPs:=ζ hP;have hMs:=ζ hMW;have o0:=ξ hO 0;simp only[zG,zH,zI] at o0;have fo0:=ρ hO 0;have p0:=ξ hP;have m0:=ξ hMW 0;simp only[zG,zH,zI] at m0;obtain⟨ob,oc,rfl⟩:=hOP.form;by_cases hq:pre.length=M
   ·have hqb:(pre.length:Int)=(M:Int):=by omega
    clear hM1 hR1 hE1 hO1 hI1 hO hP hMW
    gi_wp2
    all_goals exact⟨rfl,hq,rfl⟩
   ·have hqb:¬(pre.length:Int)=(M:Int):=by omega
    have HOO:Hid (W.heap[w.heap.size+1+1+1]?=some (.cells #[.slice ob pre.length oc] 25)∧OPA W w1.heap.size (.slice ob pre.length oc) pre∧Kp (t.St::(w.heap.size+1+1+1)::E.S) w1 W):=⟨hO,hOP,hkp⟩;have hsz:=hkp.size;have HNO:Hid ((Value.slice ob pre.length oc).ownBlock≠some (w.heap.size+1+1+1)):=fun e=>by
     rcases hOP.2 with⟨h0,_⟩|⟨gb,cap,cur,e1,e2,e3,_⟩
     ·rw[h0] at e;cases e
     ·rw[e1] at e;cases e;rw[hO] at e3;cases e3
    clear hM1 hR1 hE1 hO1 hI1 hO hP hMW hOP hkp
    gi_wp2_with (gi_at_builtin;refine wpListIn_append_own _ rfl _ _ 25 rfl w1.heap.size 64 i0 (.agg #[.string ⟨#[]⟩,.string ⟨#[]⟩]) 2 32 underlying25 hi0 hz0 hz1 hz2 rfl (by decide) _ _ _ rfl (World.ownsRow.alloc HOO.out.2.1 _) ⟨W.heap.size,0,none⟩ 1 1 [.string p.k,.string p.v] rfl rfl (xI3 _ _ _ _) (by simp[Value.oneCell']) (by unfold maxLen;omega) (by omega) (by simp;omega) ?_;intro v5 w5 hO5 hg5 _;obtain⟨g5,c5,rfl⟩:=qJ2 hO5;have hOb5:=zV0 HOO.out.1 hg5 HNO.out;have o5:=ξ hOb5 0;have fo5:=ρ hOb5 0;simp only[zG,zH] at o5)
    have hpl:pre.length<M:=by omega
    have hs5:=hg5.size;refine⟨hpl,.slice (some ⟨g5,0,none⟩) (pre.length+1) c5,[w.heap.size+1+1+1]++(Value.slice ob pre.length oc).ownBlock.toList,?_,?_,ω hOb5 0 _,?_,?_⟩
    ·refine ((((Kp.refl _ W).alloc _).grown hg5 (fun k hk=>.inl (List.mem_append.2 (.inr (by have hk2:(Value.slice ob pre.length oc).ownBlock=some k:=hk;rw[hk2];simp))))).sc _)
    ·intro k hk;rcases List.mem_append.1 hk with h|h
     ·exact .inl (List.mem_singleton.1 h)
     ·exact .inr (by simpa using h)
    ·have e:qA9 (pre++[p])=qA9 pre++[.string p.k,.string p.v]:=zN5 pre p;unfold OPA;rw[e,List.length_append];refine OPA.keepR hO5 ((Kp.refl [w.heap.size+1+1+1] w5).sc _) (fun k hk c fr e=>?_);rw[List.mem_singleton.1 hk,hOb5] at e;cases e
    ·intro k hk;have:=(World.ownsRow.lt hO5 k hk).2;simp[World.setCell];omega
  case done=>
   intro W v hkp hSt hd hO hOP hD hlt;have hlow:∀ k,w.heap.size≤k→k≠w.heap.size+1+1+1→k ∉ t.St::(w.heap.size+1+1+1)::E.S:=fun k hk hne hm=>by
    simp only[List.mem_cons] at hm;rcases hm with h|h|h
    ·omega
    ·omega
    ·have:=E.low w HL.out.dev _ h;omega
   have hRW:=hkp.heap hR1 (hlow _ (by omega) (by omega));have hEW:=hkp.heap hE1 (hlow _ (by omega) (by omega));have hObs:=ζ hO;have hRs:=ζ hRW;have hEs:=ζ hEW;obtain⟨ob,oc,hform⟩:=hOP.form;subst hform;have o0:=ξ hO 0;simp only[zG,zH,zI] at o0;have r0:=ξ hRW 0;simp only[zG,zH,zI] at r0;have fr0:=ρ hRW 0;have e0:=ξ hEW 0;simp only[zG,zH,zI] at e0;have fe0:=ρ hEW 0;obtain⟨sl,hsl⟩:∃ sl,sl=(qG1 r.cont lo hi M).length:=⟨_,rfl⟩;rw[←hsl] at o0;have HOP:Hid (OPA W w1.heap.size (.slice ob sl oc) (qG1 r.cont lo hi M)):=by rw[hsl];exact hOP
   have HW:Hid (W.heap[t.St]?=some (τ 0 s)∧E.Dev W∧Kp (t.St::(w.heap.size+1+1+1)::E.S) w1 W∧W.heap[w.heap.size+1]?=some (.cells #[.slice none 0 0] 25)∧W.heap[w.heap.size+1+1]?=some (.cells #[.nilIface] 35)∧W.heap[w1.heap.size]?=some (.deferred (some []))):=⟨hSt,hd,hkp,hRW,hEW,hD⟩;clear hM1 hR1 hE1 hO1 hI1 hSt hd hkp hRW hEW hD hO hOP hsl hlow
   gi_wp2
   obtain⟨hSt,hd,hkp,hRW,hEW,hD⟩:=HW.out;have hs0:=HS0.out;have hKw1:Kp (t.St::(w.heap.size+1+1+1)::E.S) w W:=(HK1.out.mono (by simp)).trans hkp (fun _ h _=>h);have hsw:=hKw1.size;have hEl:∀ k∈E.S,k<w.heap.size:=E.low w HL.out.dev;obtain⟨w4,hw4,hR4,hE4,hD4,hK4⟩:∃ w4,w4=(W.setCell ⟨w.heap.size+1,0,none⟩ (.slice ob sl oc)).setCell ⟨w.heap.size+1+1,0,none⟩ .nilIface∧w4.heap[w.heap.size+1]?=some (.cells #[.slice ob sl oc] 25)∧w4.heap[w.heap.size+1+1]?=some (.cells #[.nilIface] 35)∧w4.heap[w1.heap.size]?=some (.deferred (some []))∧Kp [w.heap.size+1,w.heap.size+1+1] W w4:=
    ⟨_,rfl,(qA7 (by omega) _ _).trans (ω hRW 0 _),ω ((qA7 (by omega) _ _).trans hEW) 0 _,(qA7 (by omega) _ _).trans ((qA7 (by omega) _ _).trans hD),((Kp.refl _ _).sc _).sc _⟩
   rw[←hw4];clear hw4;refine⟨by simp,.inl ⟨_,_,rfl,run_takeDeferred hD4,?_⟩⟩;obtain⟨w5,hw5,hR5,hE5,hK5⟩:∃ w5,w5=w4.putObj w1.heap.size (.deferred none)∧w5.heap[w.heap.size+1]?=some (.cells #[.slice ob sl oc] 25)∧w5.heap[w.heap.size+1+1]?=some (.cells #[.nilIface] 35)∧Kp [w.heap.size+1,w.heap.size+1+1,w1.heap.size] W w5:=
    ⟨_,rfl,(World.putObj_heap_other (by omega)).trans hR4,(World.putObj_heap_other (by omega)).trans hE4,(hK4.mono (by simp +contextual)).putObj (by simp) _⟩
   rw[←hw5];clear hw5;have r0:=ξ hR5 0;have e0:=ξ hE5 0;simp only[zG,zH] at r0 e0;have hoff:OffD W [w.heap.size+1,w.heap.size+1+1,w1.heap.size]:=(OffD.one hRW (by decide)).cons ((OffD.one hEW (by decide)).cons (fun k hk c t fr e=>by rw[List.mem_singleton.1 hk,hD] at e;cases e));have hop5:OPA w5 w1.heap.size (.slice ob sl oc) (qG1 r.cont lo hi M):=HOP.out.keep hK5 (fun k hk c fr e=>by
    simp only[List.mem_cons,List.not_mem_nil,or_false] at hk;rcases hk with h|h|h
    ·rw[h,hRW] at e;cases e
    ·rw[h,hEW] at e;cases e
    ·rw[h,hD] at e;cases e)
   refine⟨.tuple #[.slice ob sl oc,.nilIface],?_,.slice ob sl oc,rfl,?_,E.keepX _ _ _ hd hK5 hoff,hK5.heap hSt ?_,hKw1.trans hK5 ?_ |>.mono ?_⟩
   ·simp[results,results61,go_sem,r0,e0]
   ·rw[HSC.out];exact qI7 hop5 (by omega)
   ·simp only[List.mem_cons,List.not_mem_nil,or_false,not_or];exact⟨by omega,by omega,by omega⟩
   ·intro i hi hlt;simp at hi;omega
   ·intro i hi hlt;simp only[List.mem_cons] at hi ⊢;rcases hi with h|h|h
    ·exact .inl h
    ·omega
    ·exact .inr h
  case stop=>
   intro W v hkp hSt hd hO hOP hD hlt;have hlow:∀ k,w.heap.size≤k→k≠w.heap.size+1+1+1→k ∉ t.St::(w.heap.size+1+1+1)::E.S:=fun k hk hne hm=>by
    simp only[List.mem_cons] at hm;rcases hm with h|h|h
    ·omega
    ·omega
    ·have:=E.low w HL.out.dev _ h;omega
   have hRW:=hkp.heap hR1 (hlow _ (by omega) (by omega));have hEW:=hkp.heap hE1 (hlow _ (by omega) (by omega));have hObs:=ζ hO;have hRs:=ζ hRW;have hEs:=ζ hEW;obtain⟨ob,oc,hform⟩:=hOP.form;subst hform;have o0:=ξ hO 0;simp only[zG,zH,zI] at o0;have r0:=ξ hRW 0;simp only[zG,zH,zI] at r0;have fr0:=ρ hRW 0;have e0:=ξ hEW 0;simp only[zG,zH,zI] at e0;have fe0:=ρ hEW 0;obtain⟨sl,hsl⟩:∃ sl,sl=(qG1 r.cont lo hi M).length:=⟨_,rfl⟩;rw[←hsl] at o0;have HOP:Hid (OPA W w1.heap.size (.slice ob sl oc) (qG1 r.cont lo hi M)):=by rw[hsl];exact hOP
   have HW:Hid (W.heap[t.St]?=some (τ 0 s)∧E.Dev W∧Kp (t.St::(w.heap.size+1+1+1)::E.S) w1 W∧W.heap[w.heap.size+1]?=some (.cells #[.slice none 0 0] 25)∧W.heap[w.heap.size+1+1]?=some (.cells #[.nilIface] 35)∧W.heap[w1.heap.size]?=some (.deferred (some []))):=⟨hSt,hd,hkp,hRW,hEW,hD⟩;clear hM1 hR1 hE1 hO1 hI1 hSt hd hkp hRW hEW hD hO hOP hsl hlow
   gi_wp2
   obtain⟨hSt,hd,hkp,hRW,hEW,hD⟩:=HW.out;have hs0:=HS0.out;have hKw1:Kp (t.St::(w.heap.size+1+1+1)::E.S) w W:=(HK1.out.mono (by simp)).trans hkp (fun _ h _=>h);have hsw:=hKw1.size;have hEl:∀ k∈E.S,k<w.heap.size:=E.low w HL.out.dev;obtain⟨w4,hw4,hR4,hE4,hD4,hK4⟩:∃ w4,w4=(W.setCell ⟨w.heap.size+1,0,none⟩ (.slice ob sl oc)).setCell ⟨w.heap.size+1+1,0,none⟩ .nilIface∧w4.heap[w.heap.size+1]?=some (.cells #[.slice ob sl oc] 25)∧w4.heap[w.heap.size+1+1]?=some (.cells #[.nilIface] 35)∧w4.heap[w1.heap.size]?=some (.deferred (some []))∧Kp [w.heap.size+1,w.heap.size+1+1] W w4:=
    ⟨_,rfl,(qA7 (by omega) _ _).trans (ω hRW 0 _),ω ((qA7 (by omega) _ _).trans hEW) 0 _,(qA7 (by omega) _ _).trans ((qA7 (by omega) _ _).trans hD),((Kp.refl _ _).sc _).sc _⟩
   rw[←hw4];clear hw4;refine⟨by simp,.inl ⟨_,_,rfl,run_takeDeferred hD4,?_⟩⟩;obtain⟨w5,hw5,hR5,hE5,hK5⟩:∃ w5,w5=w4.putObj w1.heap.size (.deferred none)∧w5.heap[w.heap.size+1]?=some (.cells #[.slice ob sl oc] 25)∧w5.heap[w.heap.size+1+1]?=some (.cells #[.nilIface] 35)∧Kp [w.heap.size+1,w.heap.size+1+1,w1.heap.size] W w5:=
    ⟨_,rfl,(World.putObj_heap_other (by omega)).trans hR4,(World.putObj_heap_other (by omega)).trans hE4,(hK4.mono (by simp +contextual)).putObj (by simp) _⟩
   rw[←hw5];clear hw5;have r0:=ξ hR5 0;have e0:=ξ hE5 0;simp only[zG,zH] at r0 e0;have hoff:OffD W [w.heap.size+1,w.heap.size+1+1,w1.heap.size]:=(OffD.one hRW (by decide)).cons ((OffD.one hEW (by decide)).cons (fun k hk c t fr e=>by rw[List.mem_singleton.1 hk,hD] at e;cases e));have hop5:OPA w5 w1.heap.size (.slice ob sl oc) (qG1 r.cont lo hi M):=HOP.out.keep hK5 (fun k hk c fr e=>by
    simp only[List.mem_cons,List.not_mem_nil,or_false] at hk;rcases hk with h|h|h
    ·rw[h,hRW] at e;cases e
    ·rw[h,hEW] at e;cases e
    ·rw[h,hD] at e;cases e)
   refine⟨.tuple #[.slice ob sl oc,.nilIface],?_,.slice ob sl oc,rfl,?_,E.keepX _ _ _ hd hK5 hoff,hK5.heap hSt ?_,hKw1.trans hK5 ?_ |>.mono ?_⟩
   ·simp[results,results61,go_sem,r0,e0]
   ·rw[HSC.out];exact qI7 hop5 (by omega)
   ·simp only[List.mem_cons,List.not_mem_nil,or_false,not_or];exact⟨by omega,by omega,by omega⟩
   ·intro i hi hlt;simp at hi;omega
   ·intro i hi hlt;simp only[List.mem_cons] at hi ⊢;rcases hi with h|h|h
    ·exact .inl h
    ·omega
    ·exact .inr h
end Go.Proofs.YtdohpenfkdckiabGreatDoor
namespace Go.Proofs.YtdohpenfkdckiabGreatDoor
open Go.Proofs.Tryz
open Go.RowKit
theorem LiveT.next{E:SEnv}{w w':World}{x A n:Nat}{t:Tx}{s:Sto}{r r':Root}{h':HL}(h:LiveT E w x A n t s r)(hF:FineT E w w' x t s r' h')(hg:RGood r')(hz:r'.cont.length≤50000)(hc:t.ch≤99999999):LiveT E w' x A n { t with h:=h',ch:=t.ch+1 } s r':=
 { hx:=hF.hx,over:=h.over,on:=h.on,hSt:=hF.hSt,po:=h.po,sV:=h.sV,hV:=hF.kp.heap h.hV (by
   simp only[List.mem_cons,not_or];exact⟨qB7 h.hV h.hSt (by decide),qB7 h.hV h.hx (by decide),h.vS⟩),n1:=h.n1,bl0:=h.bl0,bl1:=h.bl1,dev:=hF.dev,vS:=h.vS,rr:=hF.rr,good:=hg,sz:=hz,ch0:=by show 0≤t.ch+1;have:=h.ch0;omega,ch1:=by show t.ch+1≤_;omega }
theorem LiveT.stay{E:SEnv}{w w':World}{x A n:Nat}{t:Tx}{s:Sto}{r:Root}(h:LiveT E w x A n t s r)(hB:BadT E w w' t s):LiveT E w' x A n t s r:=
 { h with hx:=hB.kp.heap h.hx (by simp only[List.mem_cons,not_or];exact⟨h.xS,E.nin h.dev h.hx (by decide)⟩),hSt:=hB.hSt,hV:=hB.kp.heap h.hV (by simp only[List.mem_cons,not_or];exact⟨qB7 h.hV h.hSt (by decide),h.vS⟩),dev:=hB.dev,rr:=h.rr.keepT hB.kp ((Apt.one h.hSt (by decide)).cons (E.apt w h.dev)) }
end Go.Proofs.YtdohpenfkdckiabGreatDoor
namespace Go.Proofs.YtdohpenfkdckiabGreatDoor
open Go.Proofs.Tryz
open Go.RowKit
open Go.Maps (Keyed)
section
variable {w:World} {kc db St A C N nM:Nat} {s:Sto} {D:DataW Unit} {l:List UInt8} {wr:Int} {nw:Root}
theorem Shop0.turn(hS:Shop0 w kc db St A C N nM s D l wr nw){w':World}{L:List Nat}(hK:Kp L w w')(hdb:db ∉ L)(hdev:Devl s.V A N C l wr w'){s':Sto}{nM':Nat}{D':DataW Unit}(e:s'.V=s.V∧s'.N=s.N∧s'.rb=s.rb∧s'.rs=s.rs∧s'.bl=s.bl∧s'.po=s.po)
  (hSt:w'.heap[St]?=some (τ 0 s')) (hM:RM w' s'.V s'.M nM' D') (m4:Maps.size D'≤4) (n1:nM'≤1000000) (bg0:0≤s'.bg) (kb:∀ k,Maps.has D' k=true→∃ x,k=qA4 x∧1≤x∧x≤s'.bg)
  (rd:∀ x h,Maps.has D' (qA4 x)=true→(∀ zd,D'.atKey (qA4 x) zd=qF1 h)→h.p=none→h.key=⟨#[]⟩∧∃ r,Lie N l h.b h.s r∧RGood r∧r.cont.length≤kc):Shop0 w' kc db St A C N nM' s' D' l wr nw:=by
 obtain⟨e1,e2,e3,e4,e5,e6⟩:=e;exact { hDb:=hK.heap hS.hDb hdb,hSt:=hSt,po:=by rw[e6];exact hS.po,hM:=hM,m4:=m4,n1:=n1,dev:=by rw[e1];exact hdev,N8:=hS.N8,N4:=hS.N4,len:=hS.len,lie:=by rw[e3,e4];exact hS.lie,good:=hS.good,sz:=hS.sz,bl0:=by rw[e5];exact hS.bl0,bl1:=by rw[e5];exact hS.bl1,sN0:=by rw[e2];exact hS.sN0,bg0:=bg0,kb:=kb,rd:=rd }
theorem Shop0.neDb(hS:Shop0 w kc db St A C N nM s D l wr nw):db≠St∧db≠A∧db≠C∧db≠s.M:=by
 obtain⟨c,h⟩:=hS.hA;exact⟨qB7 hS.hDb hS.hSt (by decide),qB7 hS.hDb h (by decide),qB7 hS.hDb hS.dev.hC (by decide),qE6 hS.hDb hS.hM⟩
theorem Shop0.quiet(hS:Shop0 w kc db St A C N nM s D l wr nw){w':World}{x:Nat}{c:Array Value}(hx:w.heap[x]?=some (.cells c 85))(hK:Kp [St,x,A] w w')(hdev:Devl s.V A N C l wr w')(hSt:w'.heap[St]?=some (τ 0 s)):Shop0 w' kc db St A C N nM s D l wr nw:=by
 obtain⟨n1,n2,n3,n4⟩:=hS.neDb;obtain⟨cA,hA⟩:=hS.hA;have h1:s.M≠St:=(qE6 hS.hSt hS.hM).symm;have h2:s.M≠x:=(qE6 hx hS.hM).symm;have h3:s.M≠A:=(qE6 hA hS.hM).symm;exact hS.turn hK (by simp[n1,n2];exact qB7 hS.hDb hx (by decide)) hdev ⟨rfl,rfl,rfl,rfl,rfl,rfl⟩ hSt (hS.hM.kp hK (by simp[h1,h2,h3])) hS.m4 hS.n1 hS.bg0 hS.kb hS.rd
theorem Shop0.live(hS:Shop0 w kc db St A C N nM s D l wr nw){x:Nat}{t:Tx}(hx:w.heap[x]?=some (qA6 t))(ho:t.over=false)(hon:t.on=some ⟨s.V,0,none⟩)(hst:t.St=St)(hh:t.h=⟨⟨#[]⟩,s.rb,s.rs,none⟩)(hc:t.ch=0)(hk2:kc≤50000∧s.bl≤1000): LiveT hS.E w x A N t s nw:=
 { hx:=hx,over:=ho,on:=hon,hSt:=by rw[hst];exact hS.hSt,po:=hS.po,sV:=rfl,hV:=hS.dev.hV,n1:=hS.N1,bl0:=hS.bl0,bl1:=by have:=hS.bl1;have:=hS.sz;have:=hk2;omega,dev:=hS.dev,vS:=by show s.V ∉ [A];simpa using hS.VA,rr:=by rw[hh];exact hS.lie.rr hS.good w,good:=hS.good,sz:=by have:=hS.sz;have:=hk2;omega,ch0:=by omega,ch1:=by omega }
theorem Shop0.beginR(hS:Shop0 w kc db St A C N nM s D l wr nw)(h4:Maps.size D<4)(hnM:nM≤999999)(hbg:s.bg≤100000000)(hk2:kc≤50000∧s.bl≤1000):
  Calls prog 22 #[.pointer (some ⟨db,0,none⟩),.bool false] w fun e w'=>∃ x t D',e=.returned (.tuple #[.pointer (some ⟨x,0,none⟩),.nilIface])∧w.heap.size≤x∧t.St=St∧t.nr=s.bg+1∧t.wrt=false∧t.ch=0∧Kp [St,s.M] w w'∧D'=D.put (qA4 (s.bg+1)) (qF1 ⟨⟨#[]⟩,s.rb,s.rs,none⟩)∧∃ hS':Shop0 w' kc db St A C N (nM+1) s.read D' l wr nw,LiveT hS'.E w' x A N t s.read nw:=by
 obtain⟨n1,n2,n3,n4⟩:=hS.neDb;have h1:s.M≠St:=(qE6 hS.hSt hS.hM).symm;refine (zP9 db St nM s D w hS.hDb hS.hSt hS.hM hS.po n1 h1 n4 hS.hM.lt h4 (by omega) hS.bg0 hbg).mono ?_;rintro e w' ⟨x,rfl,hxs,hx,hSt,hM,hK⟩;have hoff:OffD w [St,s.M]:=(OffD.one hS.hSt (by decide)).cons (fun k hk c ty fr e=>by rw[List.mem_singleton.1 hk] at e;exact absurd rfl (qE6 e hS.hM));have hno:Maps.has D (qA4 (s.bg+1))=false:=by
  cases hh:Maps.has D (qA4 (s.bg+1)) with
  | false=>rfl
  | true=>obtain⟨y,e1,e2,e3⟩:=hS.kb _ hh;cases e1;omega
 have htd:=hS.hM.tidy qM9;have hS':Shop0 w' kc db St A C N (nM+1) s.read (D.put (qA4 (s.bg+1)) (qF1 ⟨⟨#[]⟩,s.rb,s.rs,none⟩)) l wr nw:=by
  refine hS.turn hK (by simp[n1,n4]) (qD4 hS.dev hK hoff) ⟨rfl,rfl,rfl,rfl,rfl,rfl⟩ hSt hM ?_ (by omega) (by show 0≤s.bg+1;have:=hS.bg0;omega) (fun k hk=>?_) (fun y h g1 g2 g3=>?_)
  ·rw[Maps.size_put htd,if_neg (by simp[hno])];omega
  ·by_cases e:k=qA4 (s.bg+1)
   ·exact⟨s.bg+1,e,by have:=hS.bg0;omega,Int.le_refl _⟩
   ·rw[Maps.has_put_other e] at hk;obtain⟨y,e1,e2,e3⟩:=hS.kb k hk;exact⟨y,e1,e2,by show y≤s.bg+1;omega⟩
  ·by_cases e:qA4 y=qA4 (s.bg+1)
   ·rw[e] at g2;have g4:=g2 (.lit (.int .i64 0));rw[Maps.atKey_put_same htd.isMap (show WideAt.IsKeyLit (qA4 _) from trivial)] at g4;have g5:=zE7 g4.symm g3 rfl;rw[g5];exact⟨rfl,nw,hS.lie,hS.good,hS.sz⟩
   ·rw[Maps.has_put_other e] at g1;exact hS.rd y h g1 (fun zd=>by rw[←g2 zd,Maps.atKey_put_other e]) g3
 exact⟨x,_,_,rfl,hxs,rfl,rfl,rfl,rfl,hK,rfl,hS',hS'.live hx rfl rfl rfl rfl rfl hk2⟩
theorem Shop0.abort(hS:Shop0 w kc db St A C N nM s D l wr nw){x:Nat}{t:Tx}{r:Root}(hL:LiveT hS.E w x A N t s r)(hst:t.St=St)(h0:0≤t.nr)(h1:t.nr≤1000000000):
  Calls prog 29 #[.pointer (some ⟨x,0,none⟩)] w fun e w'=>e=.returned .nilIface∧w'.heap[x]?=some (qA6 t.ended)∧Shop0 w' kc db St A C N nM (s.left t.nr) (D.del (qA4 t.nr)) l wr nw∧Kp [St,x,s.M] w w':=by
 subst hst;obtain⟨n1,n2,n3,n4⟩:=hS.neDb;have hMS:s.M≠t.St:=(qE6 hS.hSt hS.hM).symm;have hxM:x≠s.M:=qE6 hL.hx hS.hM;have hoff:OffD w [t.St,x,s.M]:=(OffD.one hL.hSt (by decide)).cons ((OffD.one hL.hx (by decide)).cons (fun k hk c ty fr e=>by rw[List.mem_singleton.1 hk] at e;exact absurd rfl (qE6 e hS.hM)));refine (zO6 x nM t s D w hL.hx hL.over hS.hSt hS.po hS.hM h0 h1 hMS hL.xS hxM hS.hM.lt).mono ?_;rintro e w' ⟨rfl,hx,hSt,hM,hK⟩;have htd:=hS.hM.tidy qM9;refine⟨rfl,hx,hS.turn hK (by simp[n1,n4];exact qB7 hS.hDb hL.hx (by decide)) (qD4 hS.dev hK hoff) ⟨rfl,rfl,rfl,rfl,rfl,rfl⟩ hSt hM ?_ hS.n1 hS.bg0 (fun k hk=>?_) (fun y h g1 g2 g3=>?_),hK⟩
 ·have:=Maps.size_del (k:=qA4 t.nr) htd;have:=hS.m4;omega
 ·by_cases e:k=qA4 t.nr
  ·rw[e,Maps.has_del_same] at hk;cases hk
  ·rw[Maps.has_del_other e] at hk;exact hS.kb k hk
 ·by_cases e:qA4 y=qA4 t.nr
  ·rw[e,Maps.has_del_same] at g1;cases g1
  ·rw[Maps.has_del_other e] at g1;exact hS.rd y h g1 (fun zd=>by rw[←g2 zd,Maps.atKey_del_other e]) g3
end
end Go.Proofs.YtdohpenfkdckiabGreatDoor
namespace Go.Proofs.YtdohpenfkdckiabGreatDoor
open Go.Proofs.Tryz
open Go.RowKit
def qS2:ByteArray:=⟨#[255,255,255,255,255,255,255,255,255]⟩
def qB5(ps:List KV):List KV:=qG1 ps ⟨#[]⟩ qS2 1048576
theorem BadT.tail{E:SEnv}{w w' w2:World}{t:Tx}{s:Sto}(h:BadT E w w' t s)(hK:Kp [] w' w2):BadT E w w2 t s:=
 ⟨(Env.To.of0 h.dev hK).dev,hK.hp h.hSt,h.kp.tr hK⟩
theorem zC2(E:SEnv)(x A n:Nat)(t:Tx)(s:Sto)(r:Root)(w:World)(hL:LiveT E w x A n t s r):
  Calls prog 36 #[.pointer (some ⟨x,0,none⟩)] w fun e w'=>∃ v,e=.returned (.tuple #[v,.bool true])∧OPA w' w.heap.size v (qB5 r.cont)∧BadT E w w' t s:=by
 have HC:Hid (Calls prog 61 #[.pointer (some ⟨x,0,none⟩),.string ⟨#[]⟩,.string ⟨#[255,255,255,255,255,255,255,255,255]⟩,.int .i64 1048576] w fun e w'=>∃ v,e=.returned (.tuple #[v,.nilIface])∧OPA w' w.heap.size v (qB5 r.cont)∧BadT E w w' t s):=jP0 E x A n t s r ⟨#[]⟩ qS2 1048576 w hL (by decide) (by decide);clear hL;go_enter func36,ntmps36;go_wp2_with fail;refine (show Calls _ _ _ _ _ from HC.out).mono ?_;rintro e w1 ⟨v,rfl,ho,hb⟩;have HE:Hid (OPA w1 w.heap.size v (qB5 r.cont)∧BadT E w w1 t s):=⟨ho,hb⟩;clear ho hb HC;go_wp2_with fail
 go_quiet (fail)
 go_wp2
 go_ret2
 exact⟨v,rfl,HE.out.1.keep ((Kp.refl [] w1).drewN _) (by simp),HE.out.2.tail ((Kp.refl [] w1).drewN _)⟩
theorem Slc.pairT{T:TypeId}{w:World}{v:Value}{ps:List KV}(h:Slc w T 2 v ps.length (qA9 ps))(hn:1≤ps.length):
  ∃ g off cap cur fr,v=.slice (some ⟨g,off,none⟩) ps.length cap∧ps.length≤cap∧w.heap[g]?=some (.cells cur T fr)∧∀ i (h:i<ps.length),cur[off+i*2]?=some (.string ps[i].k)∧cur[off+i*2+1]?=some (.string ps[i].v):=by
 rcases h.val with⟨h0,_⟩|⟨g,off,cap,cur,fr,h1,h2,h3,h4,h5⟩
 ·omega
 ·exact⟨g,off,cap,cur,fr,h1,h3,h4,fun i hi=>⟨h5 _ _ (qY4 hi).1,h5 _ _ (qY4 hi).2⟩⟩
section
variable {w:World} {kc db St A C N nM:Nat} {s:Sto} {D:DataW Unit} {l:List UInt8} {wr:Int} {nw:Root}
theorem xL1(hS:Shop0 w kc db St A C N nM s D l wr nw)(h4:Maps.size D<4)(hnM:nM≤999999)(hbg:s.bg≤100000000)(hwb:s.wr≤s.bg)(hk2:kc≤50000∧s.bl≤1000):
  Calls prog 17 #[.pointer (some ⟨db,0,none⟩)] w fun e w'=>∃ v,e=.returned (.tuple #[v,.bool true])∧OPA w' w.heap.size v (qB5 nw.cont)∧Shop0 w' kc db St A C N (nM+1) s.read ((D.put (qA4 (s.bg+1)) (qF1 ⟨⟨#[]⟩,s.rb,s.rs,none⟩)).del (qA4 (s.bg+1))) l wr nw∧Kp [St,s.M,A] w w':=by
 have HB:Hid (Calls prog 22 #[.pointer (some ⟨db,0,none⟩),.bool false] w fun e w'=>∃ x t D',e=.returned (.tuple #[.pointer (some ⟨x,0,none⟩),.nilIface])∧w.heap.size≤x∧t.St=St∧t.nr=s.bg+1∧t.wrt=false∧t.ch=0∧Kp [St,s.M] w w'∧D'=D.put (qA4 (s.bg+1)) (qF1 ⟨⟨#[]⟩,s.rb,s.rs,none⟩)∧∃ hS':Shop0 w' kc db St A C N (nM+1) s.read D' l wr nw,LiveT hS'.E w' x A N t s.read nw):=hS.beginR h4 hnM hbg hk2;have hbg0:=hS.bg0;obtain⟨cA,hA⟩:=hS.hA;have hAs:=ζ hA;clear hS hA;go_enter func17,ntmps17;go_wp2_with fail;refine (show Calls _ _ _ _ _ from HB.out).mono ?_;rintro e w1 ⟨x,t,D',rfl,hx,ht1,ht2,ht3,ht4,hK1,rfl,hS1,hL1⟩;have HALL:Hid (Calls prog 36 #[.pointer (some ⟨x,0,none⟩)] w1 fun e w'=>∃ v,e=.returned (.tuple #[v,.bool true])∧OPA w' w1.heap.size v (qB5 nw.cont)∧BadT hS1.E w1 w' t s.read):=zC2 hS1.E x A N t s.read nw w1 hL1;have HL1:=zh hL1;have HS1:=zh hS1;have HK1:=zh hK1;have hs1:=hK1.size;clear hL1 hK1 HB;go_wp2_with fail;refine (show Calls _ _ _ _ _ from HALL.out).mono ?_;rintro e w2 ⟨v,rfl,ho2,hb2⟩;have hL2:=HL1.out.stay hb2;have hK2:Kp [St,x,A] w1 w2:=hb2.kp.mono (by
  intro i hi _;rw[ht1] at hi;rcases List.mem_cons.1 hi with h|h
  ·simp[h]
  ·have h':i∈[A]:=h;simp at h';simp[h'])
 have hS2:=HS1.out.quiet HL1.out.hx hK2 hb2.dev (by have:=hb2.hSt;rw[ht1] at this;exact this);have HAB:Hid (Calls prog 29 #[.pointer (some ⟨x,0,none⟩)] w2 fun e w'=>e=.returned .nilIface∧w'.heap[x]?=some (qA6 t.ended)∧Shop0 w' kc db St A C N (nM+1) (s.read.left t.nr) ((D.put (qA4 (s.bg+1)) (qF1 ⟨⟨#[]⟩,s.rb,s.rs,none⟩)).del (qA4 t.nr)) l wr nw∧Kp [St,x,s.M] w2 w'):=hS2.abort hL2 ht1 (by omega) (by omega);have HO2:=zh ho2;have HK2:Hid (Kp [St,s.M,A] w w2):=(HK1.out.mono (by simp +contextual)).trans hK2 (by intro i hi hlt;simp at hi ⊢;omega);have HN:Hid (∀ k∈[St,x,s.M],∀ c fr,w2.heap[k]?≠some (.cells c 64 fr)):=by
  show ∀ k∈[St,x,s.M],∀ c fr,w2.heap[k]?≠some (.cells c 64 fr);intro k hk c fr e;simp only[List.mem_cons,List.not_mem_nil,or_false] at hk;rcases hk with rfl|rfl|rfl
  ·rw[hS2.hSt] at e;simp[τ] at e
  ·rw[hL2.hx] at e;simp[qA6] at e
  ·exact absurd rfl (qE6 e hS2.hM)
 obtain⟨ob,oc,rfl⟩:=qL0 ho2;obtain⟨sl,hsl⟩:∃ sl,sl=(qB5 nw.cont).length:=⟨_,rfl⟩;rw[←hsl] at HO2 ⊢;clear ho2 hb2 hL2 hK2 hS2 HALL hsl;go_wp2_with fail;refine (show Calls _ _ _ _ _ from HAB.out).mono ?_;rintro e w3 ⟨rfl,_,hS3,hK3⟩;have HE:Hid (OPA w3 w.heap.size (.slice ob sl oc) (qB5 nw.cont)∧Shop0 w3 kc db St A C N (nM+1) s.read ((D.put (qA4 (s.bg+1)) (qF1 ⟨⟨#[]⟩,s.rb,s.rs,none⟩)).del (qA4 (s.bg+1))) l wr nw∧Kp [St,s.M,A] w w3):=by
  refine⟨qI7 (OPA.keep HO2.out hK3 HN.out) (by omega),?_,HK2.out.trans hK3 (by intro i hi hlt;simp at hi ⊢;omega)⟩;have e:s.read.left t.nr=s.read:=by
   have hne:¬t.nr=s.read.wr:=by show ¬t.nr=s.wr;omega
   simp[Sto.left,if_neg hne]
  rw[e,ht2] at hS3;exact hS3
 clear hS3 hK3 HAB;go_wp2_with fail
 go_quiet (fail)
 go_wp2
 go_ret2
 obtain⟨e1,e2,e3⟩:=HE.out;have hd:=(Kp.refl [] w3).drewN nq;exact⟨_,rfl,e1.keep hd (by simp),e2.turn (hd.mono (S':=[]) (by simp)) (by simp) (qD4 e2.dev hd (by intro k hk;cases hk)) ⟨rfl,rfl,rfl,rfl,rfl,rfl⟩ (hd.hp e2.hSt) (e2.hM.kp hd (by simp)) e2.m4 e2.n1 e2.bg0 e2.kb e2.rd,e3.tr hd⟩
end
theorem zN3(p:KV)(l:List KV):p∈ins p l:=by simp[ins]
theorem xL2(Z:Array Value)(n:Nat)(h:Z.size=n)(h0:∀ v∈Z.toList,v=.int .u8 0):Z=enc (List.replicate n 0):=by
 apply Array.ext';have e:Z.toList=List.replicate n (.int .u8 0):=List.eq_replicate_iff.2 ⟨by simpa using h,h0⟩;rw[e];simp[enc,qC6]
def emp:DataW Unit:=.map []
theorem xJ8(n:Int)(v:DataW Unit):(emp.put (qA4 n) v).del (qA4 n)=emp:=by
 simp[emp,DataW.put,DataW.del,DataW.insert,qA4,Lit.sameKey]
section
variable {w:World} {kc db St A C N nM:Nat} {s:Sto} {D:DataW Unit} {l:List UInt8} {wr:Int} {nw:Root}
end
variable {κ:Nat}
theorem Kp.zero{w w':World}(h:Kp [] w w')(h0:0<w.heap.size)(hg:w.cell? ⟨0,0,none⟩=some qL8):w'.cell? ⟨0,0,none⟩=some qL8:=by
 have e:=h.block 0 h0 (by simp);unfold World.cell? at hg ⊢;simp only at hg ⊢;rw[e];exact hg
section
variable {w:World} {kc db St A C N nM:Nat} {s:Sto} {D:DataW Unit} {l:List UInt8} {wr:Int} {nw:Root}
end
theorem xR5(d:Nat)(x y:Int)(h:x≠y)(W:World):(Op.equalIn (d+1) 5 (.int .u8 x) (.int .u8 y)).run prog W=.ok false W:=by
 simp[Op.equalIn,run_underlying underlying5,h]
theorem jC8(d:Nat)(E F:Array Value)(hb:allBytes E)(hc:allBytes F)(hs:E.size=F.size)(W:World):∀ is:List Nat,(∀ i∈is,i<E.size)→(∃ i∈is,E[i]?≠F[i]?)→(Op.eqItems (d+1) 5 1 E F is).run prog W=.ok false W:=by
 intro is
 induction is with
 | nil=>intro _ h;obtain⟨i,hi,_⟩:=h;cases hi
 | cons i is ih=>
  intro h hex;have hi:=h i (by simp);have hi':i<F.size:=by omega
  obtain⟨x,hx⟩:=hb E[i] (by simp);obtain⟨y,hy⟩:=hc F[i] (by simp);have he:E[i*1]?=some (.int .u8 x):=by rw[Nat.mul_one,Array.getElem?_eq_getElem hi,hx]
  have hf:F[i*1]?=some (.int .u8 y):=by rw[Nat.mul_one,Array.getElem?_eq_getElem hi',hy]
  by_cases hxy:x=y
  ·subst hxy;simp only[Op.eqItems,Sem.run_bind,run_part_plain W (P:=prog) (e:=5) (by kernel_rfl) he,run_part_plain W (P:=prog) (e:=5) (by kernel_rfl) hf,Result.andThen_ok,zQ8,Bool.not_true,Bool.false_eq_true,if_false];refine ih (fun j hj=>h j (by simp[hj])) ?_;obtain⟨k,hk,hne⟩:=hex;rcases List.mem_cons.1 hk with rfl|hk
   ·rw[Nat.mul_one] at he hf;exact absurd (he.trans hf.symm) hne
   ·exact⟨k,hk,hne⟩
  ·simp only[Op.eqItems,Sem.run_bind,run_part_plain W (P:=prog) (e:=5) (by kernel_rfl) he,run_part_plain W (P:=prog) (e:=5) (by kernel_rfl) hf,Result.andThen_ok,xR5 _ _ _ hxy,Bool.not_false,if_true];rfl
theorem zQ4(E F:Array Value)(hs:E.size=128)(hs':F.size=128)(hb:allBytes E)(hc:allBytes F)(hne:E≠F)(W:World):Sem.run prog (Op.equalIn 10000 223 (.agg E) (.agg F)) W=.ok false W:=by
 obtain⟨i0,hi,_⟩:=info_parts Tryz.info5;have h:=run_equalIn_array (P:=prog) W 9999 E F underlying223 hi;refine Eq.trans h ?_;rw[show prog.cellsOf 5=1 from by kernel_rfl];refine jC8 9998 E F hb hc (by omega) W _ (fun i hi=>by rw[hs];simpa using hi) ?_;refine Classical.byContradiction fun hno=>hne ?_;refine Array.ext_getElem? fun i=>?_;by_cases hi:i<128
 ·exact Classical.byContradiction fun hh=>hno ⟨i,by simpa using hi,hh⟩
 ·rw[Array.getElem?_eq_none (by omega),Array.getElem?_eq_none (by omega)]
theorem xV2{a b:List UInt8}(h:qC6 a=qC6 b):a=b:=by
 unfold qC6 at h;refine (List.map_inj_right ?_).1 h;intro x y e;simp only[Value.int.injEq,true_and] at e;exact UInt8.toNat_inj.1 (by omega)
theorem zS6{a b:List UInt8}(h:enc a=enc b):a=b:=xV2 (by simpa [enc] using h)
theorem qX6{α:Type}(f:α→Nat)(l:List α)(h:∀ x∈l,1≤f x):l.length≤meas f l:=by
 induction l with
 | nil=>simp
 | cons a l ih=>
  have:=h a (by simp);have:=ih (fun x hx=>h x (by simp[hx]));rw[qE0,List.length_cons];omega
theorem qO7{α:Type}(f:α→Nat)(l:List α)(a:α):meas f (l++[a])=meas f l+f a:=by rw[qF4,qE0,qC9,Nat.add_zero]
theorem jN1(bl:List UInt8)  (w:World) (hbl:bl.length=128) (h0:bl[0]?=some 0) (hno:∀ ps:List KV,(∀ p∈ps,qC3 p)→2+meas ν ps≤128→bl≠toB (qA1 0 ps [])):
  Calls prog 166 #[.agg (enc bl)] w fun e w'=>(∃ q,e=.returned (.tuple #[q,.bool false]))∧Kp [] w w':=by
 obtain⟨x1,hx1⟩:∃ x,bl[1]?=some x:=⟨_,List.getElem?_eq_getElem (by omega)⟩;have hx1b:=x1.toNat_lt;obtain⟨cn,hcn⟩:∃ cn:Nat,cn=x1.toNat:=⟨_,rfl⟩;have b0:(enc bl)[0]?=some (.int .u8 0):=by
  unfold enc qC6;rw[zG,List.getElem?_map]
  first
   | (rw[h0];rfl)
   | (obtain⟨x,e1,e2⟩:=h0;rw[e1,e2];rfl)
 have b1:(enc bl)[1]?=some (.int .u8 (cn:Int)):=by
  unfold enc qC6;rw[zG,List.getElem?_map,hx1,hcn];rfl
 have hes:(enc bl).size=128:=by rw[qF2];exact hbl
 obtain⟨E,hE⟩:∃ E,E=enc bl:=⟨_,rfl⟩;have HE:Hid (E=enc bl∧E.size=128):=⟨hE,by rw[hE];exact hes⟩;have HCN:Hid (cn<256∧bl[1]?=some x1∧cn=x1.toNat):=⟨by omega,hx1,hcn⟩;have HNO:=zh hno;have HBL:=zh hbl;rw[←hE] at b0 b1;rw[←hE];clear hcn hno hes hE h0 hx1 hx1b hbl;go_enter func166,ntmps166;go_wp2_with fail;have hE0:=θ (.cells #[.int .i64 0,.slice none 0 0,.slice none 0 0] 152) (μ w (.cells E 223));have hN0:=μ (w.alloc (.cells E 223)) (.cells #[.int .i64 0,.slice none 0 0,.slice none 0 0] 152);rw[show (w.alloc (.cells E 223)).heap.size=w.heap.size+1 from by simp] at hN0;have hK0:Kp [] w ((w.alloc (.cells E 223)).alloc (.cells #[.int .i64 0,.slice none 0 0,.slice none 0 0] 152)):=((Kp.refl _ _).alloc _).alloc _
 go_loopw [5,6,15] (fun r ob i wr=>∃ (j off o:Nat) (vj:Value) (psj:List KV),Hid (psj.length=j∧j≤cn)∧i=.int .u8 j∧ob=.bool true∧Hid (off=2+meas ν psj∧off≤128)∧r=.slice (some ⟨w.heap.size,o,none⟩) (128-off) (128-off)∧Hid (off<128→o=off)∧Hid ((bl.drop 2).take (meas ν psj)=toB (psj.flatMap qD6))∧Hid (∀ p∈psj,qC3 p)∧Hid (wr.heap[w.heap.size]?=some (.cells E 223))∧Hid (wr.heap[w.heap.size+1]?=some (.cells #[.int .i64 0,vj,.slice none 0 0] 152))∧Hid (wr.ownsRow w.heap.size 158 2 vj j (qA9 psj))∧Hid (Kp [] w wr)) (fun _ _ i _=>cn-(intOf i).toNat)
 case atStart=>exact⟨0,2,2,.slice none 0 0,[],⟨rfl,Nat.zero_le _⟩,rfl,rfl,⟨by simp[qC9],by omega⟩,rfl,fun _=>rfl,by show _=_;simp[qC9,toB],by show ∀ p∈([]:List KV),_;simp,hE0,hN0,by show World.ownsRow _ _ _ _ _ _ _;exact World.ownsRow_nil _ _ _ _,hK0⟩
 case round=>
  obtain⟨j,off,o,vj,psj,HJ,rfl,rfl,HOFF,rfl,HOO,HTK,HZJ,HB,HN,HO,HKP⟩:=hrel;clear hE0 hN0 hK0 b0 b1;have hjl:psj.length=j:=HJ.out.1;have hj126:j≤126:=by
   have h1:=qX6 ν psj (fun p _=>by unfold ν;omega);have:=HOFF.out;omega
  by_cases hlt:j<cn
  ·have hjb:(j:Int)<(cn:Int):=by omega
   by_cases hex:∃ p:KV,(qC3 p)∧off+ν p≤128∧(bl.drop off).take (ν p)=toB (qD6 p)
   ·obtain⟨p,hp1,hp2,hp3⟩:=hex;have HEN:=zh hp3;have hFp:0<ν p:=by unfold ν;omega
    have hoo:=(HOO.out (by omega)).symm;subst hoo;have hN:=HN.out;have hNs:=ζ hN;have n0:=ξ hN;have fn1:=ρ hN 1;clear hN hp3;go_wp2_with fail;refine (xF0 w.heap.size w.heap.size off bl p psj _ wr (by have h:=HB.out;rw[HE.out.1] at h;exact h) HBL.out hp1 hp2 HEN.out (by rw[hjl];exact HO.out) (by have:=HKP.out.size;omega) (by omega)).mono ?_;rintro e w1 ⟨v1,r1,rfl,hr1,⟨o1,rfl⟩,hown1,hbl1,hst1⟩;rw[hjl] at hown1;obtain⟨g1,cap1,rfl⟩:=qJ2 hown1;have hN1:=hst1 _ _ _ _ HN.out (by decide);have hB1:=hst1 _ _ _ _ HB.out (by decide);have hN1s:=ζ hN1;have m1:=ξ hN1 1;simp only[zG,zH,zI] at m1;have fm1:=ρ hN1 1;have HN1:=zh hN1;have HB1:=zh hB1;have HO1:=zh hown1;have HK1:Hid (Kp [] w w1):=Kp.of_below ((HKP.out.below (Nat.le_refl _) (by simp)).trans hbl1) (Nat.le_refl _);have HR1:Hid (off+ν p<128→o1=off+ν p):=by
     intro h;have h2:=hr1 h;simp only[Value.slice.injEq,Option.some.injEq,Addr.mk.injEq,and_true,true_and] at h2;exact h2
    have HOF1:Hid (off+ν p=2+meas ν (psj++[p])∧off+ν p≤128):=⟨by rw[qO7,HOFF.out.1];omega,hp2⟩;have HTK1:Hid ((bl.drop 2).take (meas ν (psj++[p]))=toB ((psj++[p]).flatMap qD6)):=by
     show _=_;rw[qO7,qT4,HTK.out,List.drop_drop,←HOFF.out.1,HEN.out,List.flatMap_append,qH4];simp
    have HZ1:Hid (∀ q∈psj++[p],(fun p:KV=>qC3 p) q):=by
     intro q hq;rcases List.mem_append.1 hq with hq|hq
     ·exact HZJ.out q hq
     ·rw[List.mem_singleton.1 hq];exact hp1
    have hwj:IntKind.u8.wrap ((j:Int)+1)=(j:Int)+1:=by rw[IntKind.wrap_u8];omega
    have HJ1:Hid ((psj++[p]).length=j+1∧j+1≤cn):=⟨by rw[List.length_append,hjl];rfl,by omega⟩;clear hN1 hB1 hown1 hbl1 hst1 hr1 n0 fn1 hp1 hp2 hFp hjl hj126 hlt;go_wp2;have hKs:Kp [w.heap.size+1] w1 (w1.setCell ⟨w.heap.size+1,1,none⟩ (.slice (some ⟨g1,0,none⟩) (j+1) cap1)):=(Kp.refl _ _).sc _;have hJ1:=HJ1.out.2;exact⟨⟨j+1,off+ν p,o1,_,psj++[p],HJ1,by go_num,rfl,HOF1,rfl,HR1,HTK1,HZ1,hKs.hp HB1.out,ω HN1.out 1 _,qF8 HO1.out hKs (fun q hq c t fr e=>by rw[List.mem_singleton.1 hq,HN1.out] at e;cases e;decide),HK1.out.tr hKs⟩,by simp[intOf];omega⟩
   ·have HBAD:Hid (Calls prog 190 #[vj,.slice (some ⟨w.heap.size,o,none⟩) (128-off) (128-off)] wr fun e w'=>e=.returned (.tuple #[.slice none 0 0,.slice none 0 0,.bool false])∧∃ m,w'=wr.drewN m):=jN7 w.heap.size off o bl vj wr (by have h:=HB.out;rw[HE.out.1] at h;exact h) HBL.out (by have:=HOFF.out;omega) HOO.out (fun p h1 h2 h3=>hex ⟨p,h1,h2,h3⟩);have hN:=HN.out;have hNs:=ζ hN;have n0:=ξ hN;have fn1:=ρ hN 1;obtain⟨bj,lj,cj,hvj⟩:∃ bj lj cj,vj=.slice bj lj cj:=by
     rcases HO.out.2 with⟨h1,_⟩|⟨g,cap,cur,h1,_⟩
     ·exact⟨_,_,_,h1⟩
     ·exact⟨_,_,_,h1⟩
    subst hvj;clear hN hex hjl hj126 hlt;go_wp2_with fail;refine (show Calls _ _ _ _ _ from HBAD.out).mono ?_;rintro e w1 ⟨rfl,m,hw1⟩;have hK1:Kp [] wr w1:=by rw[hw1];exact (Kp.refl _ _).drewN _
    have hN1:=hK1.hp HN.out;have hN1s:=ζ hN1;have m1:=ξ hN1 1;simp only[zG,zH,zI] at m1;have fm1:=ρ hN1 1;have HK1:Hid (Kp [] w w1):=HKP.out.tr hK1;clear hN1 hK1 hw1 n0 fn1 HBAD;go_wp2
    go_ret2
    exact⟨⟨_,rfl⟩,HK1.out.setCell (Or.inr (by show w.heap.size≤w.heap.size+1;omega)) _⟩
  ·have hjb:¬(j:Int)<(cn:Int):=by omega
   have hjc:j=cn:=by have:=HJ.out;omega
   have hby:=qH0 0 psj [] (by omega) (by omega) (by simp;omega) HZJ.out (by simp);have hNL:(qA1 0 psj []).length=128:=qO8 0 psj [] (by have:=HOFF.out;simp only[qC9];omega);have hF:(u8s (qA1 0 psj [])).toArray=enc (toB (qA1 0 psj [])):=by rw[enc,←qV8 _ hby]
   obtain⟨F,hFd⟩:∃ F,F=(u8s (qA1 0 psj [])).toArray:=⟨_,rfl⟩;have HF:Hid (F.size=128∧allBytes F∧F≠E):=⟨by rw[hFd,hF,qF2,qH1];exact hNL,by rw[hFd,hF];exact qH3 _,fun h=>HNO.out psj HZJ.out (by rw[←HOFF.out.1];exact HOFF.out.2) (zS6 (by rw[←hF,←hFd,h];exact HE.out.1.symm))⟩;have HBLK:=Hid.mk' (qW7 (w.heap.size+1) 0 vj (.slice none 0 0) psj [] wr.drew HN.out (by omega) (by omega) (qG3 (by have h:=HO.out;rw[←hjl] at h;exact h)) ⟨rfl,Or.inl ⟨rfl,none,0,rfl,fun _=>rfl⟩⟩ (by have:=HOFF.out;simp only[qC9];omega) (by simp;omega) HZJ.out (by simp));rw[←hFd] at HBLK;have hbE:allBytes E:=by rw[HE.out.1];exact qH3 _
   clear hby hNL hF hFd;go_wp2_with fail;have hSd:wr.drew.heap[w.heap.size]?=some (.cells E 223):=HB.out;refine wp_region_held_drew (S:=fun W=>W.heap[w.heap.size]?=some (.cells E 223)) (by kernel_rfl) hSd (fun _=>?_);refine zU 0 (.pointer (some ⟨w.heap.size+1,0,none⟩)) hSd ?_;refine zU 1 (.pointer (some ⟨w.heap.size+1,0,none⟩)) hSd ?_;refine zV 3 (.agg E) rfl (fun W hS=>qK3 (t:=223) rfl (by kernel_rfl) 128 (by kernel_rfl) w.heap.size rfl hS HE.out.2) hSd ?_;refine zq 2 fun K hK=>?_;go_simp;refine (show Calls _ _ _ _ _ from HBLK.out).mono ?_;rintro e w1 ⟨rfl,hK1⟩;have hS1:=hK1.hp hSd;refine hK.out _ _ hS1 (fun _=>?_);clear hK K
   try simp only[zZ]
   refine zV 4 (.bool false) rfl (fun W hS=>by have h:=zQ4 F E HF.out.1 HE.out.2 HF.out.2.1 hbE HF.out.2.2 W;clear hS;go_simp) hS1 ?_;refine zq 5 fun K hK=>?_;go_simp;refine hK.out _ _ hS1 (fun _=>?_);clear hK K
   try simp only[zZ]
   refine zq 6 fun K hK=>?_;go_simp;refine hK.out _ _ hS1 (fun _=>?_);clear hK K
   try simp only[zZ]
   refine zd ?_;have hKw:Kp [] wr w1:=((Kp.refl _ wr).drew).tr hK1;have HW:Hid (Kp [] w w1):=HKP.out.tr hKw;clear hKw hK1 hS1 hSd HBLK;go_wp2
   go_ret2
   exact⟨⟨_,rfl⟩,HW.out⟩
theorem jM9(bl:List UInt8)(lv:Int)(hlv0:0<lv)(hlv1:lv<256)(w:World)(hbl:bl.length=128)(h0:∃ x:UInt8,bl[0]?=some x∧lv=((x.toNat:Nat):Int))(hno:∀ ps:List HL,(∀ p∈ps,p.p=none∧p.key.size≤8∧0≤p.b∧p.b<65536∧0≤p.s∧p.s<18446744073709551616)→2+meas ψ ps≤128→bl≠toB (qA1 lv [] ps)):
  Calls prog 166 #[.agg (enc bl)] w fun e w'=>(∃ q,e=.returned (.tuple #[q,.bool false]))∧Kp [] w w':=by
 obtain⟨x1,hx1⟩:∃ x,bl[1]?=some x:=⟨_,List.getElem?_eq_getElem (by omega)⟩;have hx1b:=x1.toNat_lt;obtain⟨cn,hcn⟩:∃ cn:Nat,cn=x1.toNat:=⟨_,rfl⟩;have b0:(enc bl)[0]?=some (.int .u8 lv):=by
  unfold enc qC6;rw[zG,List.getElem?_map]
  first
   | (rw[h0];rfl)
   | (obtain⟨x,e1,e2⟩:=h0;rw[e1,e2];rfl)
 have b1:(enc bl)[1]?=some (.int .u8 (cn:Int)):=by
  unfold enc qC6;rw[zG,List.getElem?_map,hx1,hcn];rfl
 have hes:(enc bl).size=128:=by rw[qF2];exact hbl
 obtain⟨E,hE⟩:∃ E,E=enc bl:=⟨_,rfl⟩;have HE:Hid (E=enc bl∧E.size=128):=⟨hE,by rw[hE];exact hes⟩;have HCN:Hid (cn<256∧bl[1]?=some x1∧cn=x1.toNat):=⟨by omega,hx1,hcn⟩;have HNO:=zh hno;have HBL:=zh hbl;rw[←hE] at b0 b1;rw[←hE];clear hcn hno hes hE h0 hx1 hx1b hbl;go_enter func166,ntmps166;go_wp2_with fail;have hE0:=θ (.cells #[.int .i64 lv,.slice none 0 0,.slice none 0 0] 152) (μ w (.cells E 223));have hN0:=μ (w.alloc (.cells E 223)) (.cells #[.int .i64 lv,.slice none 0 0,.slice none 0 0] 152);rw[show (w.alloc (.cells E 223)).heap.size=w.heap.size+1 from by simp] at hN0;have hK0:Kp [] w ((w.alloc (.cells E 223)).alloc (.cells #[.int .i64 lv,.slice none 0 0,.slice none 0 0] 152)):=((Kp.refl _ _).alloc _).alloc _
 go_loopw [5,6,15] (fun r ob i wr=>∃ (j off o:Nat) (vj:Value) (psj:List HL),Hid (psj.length=j∧j≤cn)∧i=.int .u8 j∧ob=.bool true∧Hid (off=2+meas ψ psj∧off≤128)∧r=.slice (some ⟨w.heap.size,o,none⟩) (128-off) (128-off)∧Hid (off<128→o=off)∧Hid ((bl.drop 2).take (meas ψ psj)=toB (psj.flatMap qD9))∧Hid (∀ p∈psj,p.p=none∧p.key.size≤8∧0≤p.b∧p.b<65536∧0≤p.s∧p.s<18446744073709551616)∧Hid (wr.heap[w.heap.size]?=some (.cells E 223))∧Hid (wr.heap[w.heap.size+1]?=some (.cells #[.int .i64 lv,.slice none 0 0,vj] 152))∧Hid (wr.ownsRow w.heap.size 81 4 vj j (qA5 psj))∧Hid (Kp [] w wr)) (fun _ _ i _=>cn-(intOf i).toNat)
 case atStart=>exact⟨0,2,2,.slice none 0 0,[],⟨rfl,Nat.zero_le _⟩,rfl,rfl,⟨by simp[qC9],by omega⟩,rfl,fun _=>rfl,by show _=_;simp[qC9,toB],by show ∀ p∈([]:List HL),_;simp,hE0,hN0,by show World.ownsRow _ _ _ _ _ _ _;exact World.ownsRow_nil _ _ _ _,hK0⟩
 case round=>
  obtain⟨j,off,o,vj,psj,HJ,rfl,rfl,HOFF,rfl,HOO,HTK,HZJ,HB,HN,HO,HKP⟩:=hrel;clear hE0 hN0 hK0 b0 b1;have hjl:psj.length=j:=HJ.out.1;have hj126:j≤126:=by
   have h1:=qX6 ψ psj (fun p _=>by unfold ψ;omega);have:=HOFF.out;omega
  by_cases hlt:j<cn
  ·have hjb:(j:Int)<(cn:Int):=by omega
   by_cases hex:∃ p:HL,(p.p=none∧p.key.size≤8∧0≤p.b∧p.b<65536∧0≤p.s∧p.s<18446744073709551616)∧off+ψ p≤128∧(bl.drop off).take (ψ p)=toB (qD9 p)
   ·obtain⟨p,hp1,hp2,hp3⟩:=hex;have HEN:=zh hp3;have hFp:0<ψ p:=by unfold ψ;omega
    have hoo:=(HOO.out (by omega)).symm;subst hoo;have hN:=HN.out;have hNs:=ζ hN;have n0:=ξ hN;have fn1:=ρ hN 2;clear hN hp3;go_wp2_with fail;refine (xE9 w.heap.size w.heap.size off bl p psj _ wr (by have h:=HB.out;rw[HE.out.1] at h;exact h) HBL.out hp1.1 hp1.2.1 hp1.2.2.1 hp1.2.2.2.1 hp1.2.2.2.2.1 hp1.2.2.2.2.2 hp2 HEN.out (by rw[hjl];exact HO.out) (by have:=HKP.out.size;omega) (by omega)).mono ?_;rintro e w1 ⟨v1,r1,rfl,hr1,⟨o1,rfl⟩,hown1,hbl1,hst1⟩;rw[hjl] at hown1;obtain⟨g1,cap1,rfl⟩:=qJ2 hown1;have hN1:=hst1 _ _ _ _ HN.out (by decide);have hB1:=hst1 _ _ _ _ HB.out (by decide);have hN1s:=ζ hN1;have m1:=ξ hN1 2;simp only[zG,zH,zI] at m1;have fm1:=ρ hN1 2;have HN1:=zh hN1;have HB1:=zh hB1;have HO1:=zh hown1;have HK1:Hid (Kp [] w w1):=Kp.of_below ((HKP.out.below (Nat.le_refl _) (by simp)).trans hbl1) (Nat.le_refl _);have HR1:Hid (off+ψ p<128→o1=off+ψ p):=by
     intro h;have h2:=hr1 h;simp only[Value.slice.injEq,Option.some.injEq,Addr.mk.injEq,and_true,true_and] at h2;exact h2
    have HOF1:Hid (off+ψ p=2+meas ψ (psj++[p])∧off+ψ p≤128):=⟨by rw[qO7,HOFF.out.1];omega,hp2⟩;have HTK1:Hid ((bl.drop 2).take (meas ψ (psj++[p]))=toB ((psj++[p]).flatMap qD9)):=by
     show _=_;rw[qO7,qT4,HTK.out,List.drop_drop,←HOFF.out.1,HEN.out,List.flatMap_append,qH4];simp
    have HZ1:Hid (∀ q∈psj++[p],(fun p:HL=>p.p=none∧p.key.size≤8∧0≤p.b∧p.b<65536∧0≤p.s∧p.s<18446744073709551616) q):=by
     intro q hq;rcases List.mem_append.1 hq with hq|hq
     ·exact HZJ.out q hq
     ·rw[List.mem_singleton.1 hq];exact hp1
    have hwj:IntKind.u8.wrap ((j:Int)+1)=(j:Int)+1:=by rw[IntKind.wrap_u8];omega
    have HJ1:Hid ((psj++[p]).length=j+1∧j+1≤cn):=⟨by rw[List.length_append,hjl];rfl,by omega⟩;clear hN1 hB1 hown1 hbl1 hst1 hr1 n0 fn1 hp1 hp2 hFp hjl hj126 hlt;go_wp2;have hKs:Kp [w.heap.size+1] w1 (w1.setCell ⟨w.heap.size+1,2,none⟩ (.slice (some ⟨g1,0,none⟩) (j+1) cap1)):=(Kp.refl _ _).sc _;have hJ1:=HJ1.out.2;exact⟨⟨j+1,off+ψ p,o1,_,psj++[p],HJ1,by go_num,rfl,HOF1,rfl,HR1,HTK1,HZ1,hKs.hp HB1.out,ω HN1.out 2 _,qF8 HO1.out hKs (fun q hq c t fr e=>by rw[List.mem_singleton.1 hq,HN1.out] at e;cases e;decide),HK1.out.tr hKs⟩,by simp[intOf];omega⟩
   ·have HBAD:Hid (Calls prog 191 #[vj,.slice (some ⟨w.heap.size,o,none⟩) (128-off) (128-off)] wr fun e w'=>e=.returned (.tuple #[.slice none 0 0,.slice none 0 0,.bool false])∧∃ m,w'=wr.drewN m):=jN6 w.heap.size off o bl vj wr (by have h:=HB.out;rw[HE.out.1] at h;exact h) HBL.out (by have:=HOFF.out;omega) HOO.out (fun p h1 h2 h3=>hex ⟨p,h1,h2,h3⟩);have hN:=HN.out;have hNs:=ζ hN;have n0:=ξ hN;have fn1:=ρ hN 2;obtain⟨bj,lj,cj,hvj⟩:∃ bj lj cj,vj=.slice bj lj cj:=by
     rcases HO.out.2 with⟨h1,_⟩|⟨g,cap,cur,h1,_⟩
     ·exact⟨_,_,_,h1⟩
     ·exact⟨_,_,_,h1⟩
    subst hvj;clear hN hex hjl hj126 hlt;go_wp2_with fail;refine (show Calls _ _ _ _ _ from HBAD.out).mono ?_;rintro e w1 ⟨rfl,m,hw1⟩;have hK1:Kp [] wr w1:=by rw[hw1];exact (Kp.refl _ _).drewN _
    have hN1:=hK1.hp HN.out;have hN1s:=ζ hN1;have m1:=ξ hN1 2;simp only[zG,zH,zI] at m1;have fm1:=ρ hN1 2;have HK1:Hid (Kp [] w w1):=HKP.out.tr hK1;clear hN1 hK1 hw1 n0 fn1 HBAD;go_wp2
    go_ret2
    exact⟨⟨_,rfl⟩,HK1.out.setCell (Or.inr (by show w.heap.size≤w.heap.size+1;omega)) _⟩
  ·have hjb:¬(j:Int)<(cn:Int):=by omega
   have hjc:j=cn:=by have:=HJ.out;omega
   have hby:=qH0 lv [] psj (by omega) hlv1 (by simp;omega) (by simp) (fun p hp=>(HZJ.out p hp).2.1);have hNL:(qA1 lv [] psj).length=128:=qO8 lv [] psj (by have:=HOFF.out;simp only[qC9];omega);have hF:(u8s (qA1 lv [] psj)).toArray=enc (toB (qA1 lv [] psj)):=by rw[enc,←qV8 _ hby]
   obtain⟨F,hFd⟩:∃ F,F=(u8s (qA1 lv [] psj)).toArray:=⟨_,rfl⟩;have HF:Hid (F.size=128∧allBytes F∧F≠E):=⟨by rw[hFd,hF,qF2,qH1];exact hNL,by rw[hFd,hF];exact qH3 _,fun h=>HNO.out psj HZJ.out (by rw[←HOFF.out.1];exact HOFF.out.2) (zS6 (by rw[←hF,←hFd,h];exact HE.out.1.symm))⟩;have HBLK:=Hid.mk' (qW7 (w.heap.size+1) lv (.slice none 0 0) vj [] psj wr.drew HN.out (by omega) hlv1 ⟨rfl,Or.inl ⟨rfl,none,0,rfl,fun _=>rfl⟩⟩ (qG3 (by have h:=HO.out;rw[←hjl] at h;exact h)) (by have:=HOFF.out;simp only[qC9];omega) (by simp;omega) (by simp) (fun p hp=>⟨(HZJ.out p hp).2.1,(HZJ.out p hp).2.2.1,by have:=(HZJ.out p hp).2.2.2.1;omega,(HZJ.out p hp).2.2.2.2.1⟩));rw[←hFd] at HBLK;have hbE:allBytes E:=by rw[HE.out.1];exact qH3 _
   clear hby hNL hF hFd;go_wp2_with fail;have hSd:wr.drew.heap[w.heap.size]?=some (.cells E 223):=HB.out;refine wp_region_held_drew (S:=fun W=>W.heap[w.heap.size]?=some (.cells E 223)) (by kernel_rfl) hSd (fun _=>?_);refine zU 0 (.pointer (some ⟨w.heap.size+1,0,none⟩)) hSd ?_;refine zU 1 (.pointer (some ⟨w.heap.size+1,0,none⟩)) hSd ?_;refine zV 3 (.agg E) rfl (fun W hS=>qK3 (t:=223) rfl (by kernel_rfl) 128 (by kernel_rfl) w.heap.size rfl hS HE.out.2) hSd ?_;refine zq 2 fun K hK=>?_;go_simp;refine (show Calls _ _ _ _ _ from HBLK.out).mono ?_;rintro e w1 ⟨rfl,hK1⟩;have hS1:=hK1.hp hSd;refine hK.out _ _ hS1 (fun _=>?_);clear hK K
   try simp only[zZ]
   refine zV 4 (.bool false) rfl (fun W hS=>by have h:=zQ4 F E HF.out.1 HE.out.2 HF.out.2.1 hbE HF.out.2.2 W;clear hS;go_simp) hS1 ?_;refine zq 5 fun K hK=>?_;go_simp;refine hK.out _ _ hS1 (fun _=>?_);clear hK K
   try simp only[zZ]
   refine zq 6 fun K hK=>?_;go_simp;refine hK.out _ _ hS1 (fun _=>?_);clear hK K
   try simp only[zZ]
   refine zd ?_;have hKw:Kp [] wr w1:=((Kp.refl _ wr).drew).tr hK1;have HW:Hid (Kp [] w w1):=HKP.out.tr hKw;clear hKw hK1 hS1 hSd HBLK;go_wp2
   go_ret2
   exact⟨⟨_,rfl⟩,HW.out⟩
end Go.Proofs.YtdohpenfkdckiabGreatDoor
