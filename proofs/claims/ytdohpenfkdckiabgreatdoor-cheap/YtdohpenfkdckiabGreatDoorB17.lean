import Derived.Test.YtdohpenfkdckiabGreatDoorB15
import Derived.Test.YtdohpenfkdckiabGreatDoorB16
import Derived.Laws.EntriesVeiled
set_option linter.all false
set_option maxRecDepth 100000
set_option maxHeartbeats 20000000
namespace Go.Proofs.YtdohpenfkdckiabGreatDoor
open Go.Proofs.Tryz
open Go.RowKit
theorem xG6(Tc Kc Wc x f:Nat)(t:Tx)(key:ByteArray)(first cap:Array Value)(R:HL→World→Prop)(w:World)(hTc:w.heap[Tc]?=some (.cells #[.pointer (some ⟨x,0,none⟩)] 29))(hKc:w.heap[Kc]?=some (.cells #[.string key] 9))(hWc:w.heap[Wc]?=some (.cells #[.func (.func f) first cap] 1))(hx:w.heap[x]?=some (qA4 t))(hwr:t.wrt=true)(hk1:1≤key.size)(hk8:key.size≤8)(h0:0≤t.ch)(h1:t.ch≤1000000000)
  (hcf:∀ W:World,Sem.run prog (callFunc f (first++cap)) W=.ok (.enter f (first++cap)) W)
  (hw:Calls prog f (first++cap) w fun e w'=>e=qC5 none∧∃ h',R h' w'∧w'.heap[x]?=some (qA4 { t with h:=h' })∧w'.heap[Tc]?=some (.cells #[.pointer (some ⟨x,0,none⟩)] 29)):
  Calls prog 90 #[.pointer (some ⟨Tc,0,none⟩),.pointer (some ⟨Kc,0,none⟩),.pointer (some ⟨Wc,0,none⟩)] w fun e w'=>e=qC5 none∧∃ w1 h',R h' w1∧w1.heap[x]?=some (qA4 { t with h:=h' })∧w'.heap[x]?=some (qA4 { t with h:=h',ch:=t.ch+1 })∧Kp [x] w1 w':=by
 have hs:=η hTc;have hxs:=η hx;have hks:=η hKc;have hws:=η hWc;have c0:=ξ hTc 0;simp only[zG,zH,zI] at c0;have k0:=ξ hKc 0;simp only[zG,zH,zI] at k0;have f0:=ξ hWc 0;simp only[zG,zH,zI] at f0;have x2:=ξ hx 2;simp only[qA4,zG,zH,zI] at x2;rw[hwr] at x2;have HW:=zh hw;clear hw;go_enter func90,ntmps90;go_wp2_with fail;refine (zK9 key _ hk1 hk8).mono ?_;rintro e w1 ⟨rfl,rfl⟩;simp only[qC5];go_wp2_with fail;refine (show Calls _ _ _ _ _ from HW.out).mono ?_;rintro e w1 ⟨rfl,h',hR,hx1,hTc1⟩;have HR:=zh hR;clear hR;clear c0 k0 f0 x2;have hx1s:=η hx1;have hTc1s:=η hTc1;have HX:=zh hx1;have c0:=ξ hTc1 0;simp only[zG,zH,zI] at c0;have x9:=ξ hx1 9;simp only[qA4,zG,zH,zI] at x9;have fx9:=ν hx1 9;clear hx1 hTc1;simp only[qC5];go_wp2
 go_end0
 exact⟨rfl,w1,h',HR.out,HX.out,ω HX.out 9 _,(Kp.refl _ _).sc _⟩
theorem xG2(args:Array Value)(W:World):Sem.run prog (callFunc 90 args) W=.ok (.enter 90 args) W:=by
 simp[go_sem,func90]
theorem xA3(k:Option Int)(hk8:k≠some 8)(x f:Nat)(t:Tx)(s:Sto)(key call:ByteArray)(first cap:Array Value)(X:List Nat)(Q:World→World→Prop)(w:World)(hx:w.heap[x]?=some (qA4 t))(ho:t.over=false)(hSt:w.heap[t.St]?=some (ρ 0 s))(hpo:s.po=false)(hxS:x≠t.St)(hX:∀ i,i∈X→i<w.heap.size)
  (hw:∀ (W:World) (Tc Kc Wc:Nat),Kp [t.St] w W→w.heap.size≤Tc→w.heap.size≤Kc→w.heap.size≤Wc→W.heap[t.St]?=some (ρ 1 s)→W.heap[Tc]?=some (.cells #[.pointer (some ⟨x,0,none⟩)] 29)→W.heap[Kc]?=some (.cells #[.string key] 9)→W.heap[Wc]?=some (.cells #[.func (.func f) first cap] 1)→
   Calls prog 90 #[.pointer (some ⟨Tc,0,none⟩),.pointer (some ⟨Kc,0,none⟩),.pointer (some ⟨Wc,0,none⟩)] W fun e w1=>e=qC5 k∧Q W w1∧Kp (t.St::X) W w1∧w1.heap[t.St]?=some (ρ 1 s)):
  Calls prog 51 #[.pointer (some ⟨x,0,none⟩),.string call,.string key,.func (.func f) first cap] w fun e w'=>∃ v,e=.returned v∧qH0 w' v k∧w'.heap[t.St]?=some (ρ 0 s)∧Kp (t.St::X) w w'∧∃ W w1 B,Q W w1∧Kp [t.St] w W∧w.heap.size≤B∧B<W.heap.size∧w1.heap[B]?=some (.cells #[.nilIface] 35)∧Kp [t.St,B] w1 w':=by
 have hmf:=zM;have HW:Hid (∀ (W:World) (Tc Kc Wc:Nat),Kp [t.St] w W→w.heap.size≤Tc→w.heap.size≤Kc→w.heap.size≤Wc→W.heap[t.St]?=some (ρ 1 s)→W.heap[Tc]?=some (.cells #[.pointer (some ⟨x,0,none⟩)] 29)→W.heap[Kc]?=some (.cells #[.string key] 9)→W.heap[Wc]?=some (.cells #[.func (.func f) first cap] 1)→
   Calls prog 90 #[.pointer (some ⟨Tc,0,none⟩),.pointer (some ⟨Kc,0,none⟩),.pointer (some ⟨Wc,0,none⟩)] W fun e w1=>e=qC5 k∧Q W w1∧Kp (t.St::X) W w1∧w1.heap[t.St]?=some (ρ 1 s)):=hw
 have HX:=zh hX;have HK8:=zh hk8;have HXS:=zh hxS;clear hw hX hk8 hxS;have hxs:=η hx;have hSs:=η hSt;go_enter func51,ntmps51;go_wp2_with fail;obtain⟨w0,hw0,hT0,hK0,hF0,hKp0,hs0⟩:∃ w0,w0=((w.alloc (.cells #[.pointer (some ⟨x,0,none⟩)] 29)).alloc (.cells #[.string key] 9)).alloc (.cells #[.func (.func f) first cap] 1)∧w0.heap[w.heap.size]?=some (.cells #[.pointer (some ⟨x,0,none⟩)] 29)∧w0.heap[w.heap.size+1]?=some (.cells #[.string key] 9)∧w0.heap[w.heap.size+2]?=some (.cells #[.func (.func f) first cap] 1)∧Kp [] w w0∧w0.heap.size=w.heap.size+3:=by
  refine⟨_,rfl,θ _ (θ _ (μ _ _)),θ _ ?_,?_,(((Kp.refl _ _).alloc _).alloc _).alloc _,by simp⟩
  ·have e:=μ (w.alloc (.cells #[.pointer (some ⟨x,0,none⟩)] 29)) (.cells #[.string key] 9);simpa using e
  ·have e:=μ ((w.alloc (.cells #[.pointer (some ⟨x,0,none⟩)] 29)).alloc (.cells #[.string key] 9)) (.cells #[.func (.func f) first cap] 1);simpa using e
 rw[←hw0];clear hw0;have hx0:=hKp0.hp hx;have hSt0:=hKp0.hp hSt;refine (zA0 k HK8.out x t.St 90 t s s #[] _ call X Q w0 hx0 ho rfl hSt0 hpo HXS.out (xG2 _) (fun i hi=>by have:=HX.out i hi;omega) ?_).mono ?_
 ·intro W hK hS;exact HW.out W w.heap.size (w.heap.size+1) (w.heap.size+2) ((hKp0.mono (S':=[t.St]) (by simp)).trans hK (fun _ h _=>h)) (Nat.le_refl _) (by omega) (by omega) hS (hK.ho hT0) (hK.ho hK0) (hK.ho hF0)
 rintro e w2 ⟨v,rfl,hv,hSt2,hK2,W,w1,B,hQ,hKW,hB1,hB2,hB3,hKB⟩;have HE:Hid (qH0 w2 v k∧w2.heap[t.St]?=some (ρ 0 s)∧Kp (t.St::X) w w2∧∃ W w1 B,Q W w1∧Kp [t.St] w W∧w.heap.size≤B∧B<W.heap.size∧w1.heap[B]?=some (.cells #[.nilIface] 35)∧Kp [t.St,B] w1 w2):=
  ⟨hv,hSt2,(hKp0.mono (S':=t.St::X) (by simp)).trans hK2 (fun _ h _=>h),W,w1,B,hQ,(hKp0.mono (S':=[t.St]) (by simp)).trans hKW (fun _ h _=>h),by omega,hB2,hB3,hKB⟩
 clear hv hSt2 hK2 hQ hKW hB3 hKB;go_wp2;go_ret;exact⟨v,rfl,HE.out⟩
structure LiveT(E:SEnv)(w:World)(x A n:Nat)(t:Tx)(s:Sto)(r:Root):Prop where
 hx:w.heap[x]?=some (qA4 t)
 over:t.over=false
 on:t.on=some ⟨E.V,0,none⟩
 hSt:w.heap[t.St]?=some (ρ 0 s)
 po:s.po=false
 sV:s.V=E.V
 hV:w.heap[E.V]?=some (qB6 A n)
 n1:n≤1000
 bl0:0≤s.bl
 bl1:s.bl≤1000
 dev:E.Dev w
 vS:E.V ∉ E.S
 rr:RR E.toEnv w t.h r
 good:RGood r
 sz:r.cont.length≤50000
 ch0:0≤t.ch
 ch1:t.ch≤100000000
theorem qD5{w:World}{a b:Nat}{c d:Array Value}{t u:TypeId}{fr gr:Nat × Nat}(ha:w.heap[a]?=some (.cells c t fr))(hb:w.heap[b]?=some (.cells d u gr))(h:t≠u):a≠b:=fun e=>by
 subst e;rw[ha] at hb;cases hb;exact h rfl
theorem LiveT.xS{E:SEnv}{w:World}{x A n:Nat}{t:Tx}{s:Sto}{r:Root}(h:LiveT E w x A n t s r):x≠t.St:=qD5 h.hx h.hSt (by decide)
theorem LiveT.devS{E:SEnv}{w W:World}{x A n:Nat}{t:Tx}{s:Sto}{r:Root}(h:LiveT E w x A n t s r)(hK:Kp [t.St] w W):E.Dev W:=E.keepX w W [t.St] h.dev hK (OffD.one h.hSt (by decide))
theorem LiveT.more{E:SEnv}{w W:World}{x A n:Nat}{t:Tx}{s:Sto}{r:Root}(h:LiveT E w x A n t s r)(hK:Kp [] w W):LiveT E W x A n t s r:=
 { h with hx:=hK.hp h.hx,hSt:=hK.hp h.hSt,hV:=hK.hp h.hV,dev:=E.keepX w W [] h.dev hK (fun k hk=>by simp at hk),rr:=h.rr.keepT hK (Apt.nil _ _) }
structure FineT(E:SEnv)(w w':World)(x:Nat)(t:Tx)(s:Sto)(r':Root)(h':HL):Prop where
 hx:w'.heap[x]?=some (qA4 { t with h:=h',ch:=t.ch+1 })
 rr:RR E.toEnv w' h' r'
 dev:E.Dev w'
 hSt:w'.heap[t.St]?=some (ρ 0 s)
 kp:Kp (t.St::x::E.S) w w'
theorem qR6{w1:World}{St B:Nat}{s:Sto}{lk:Int}(h1:w1.heap[St]?=some (ρ lk s))(h2:w1.heap[B]?=some (.cells #[.nilIface] 35)):OffD w1 [St,B]:=(OffD.one h1 (by decide)).cons (OffD.one h2 (by decide))
theorem xD4{w1:World}{St B:Nat}{s:Sto}{lk:Int}(h1:w1.heap[St]?=some (ρ lk s))(h2:w1.heap[B]?=some (.cells #[.nilIface] 35)):Apt w1 [St,B] qF4:=(Apt.one h1 (by decide)).cons (Apt.one h2 (by decide))
theorem zK8(E:SEnv)(x A n f:Nat)(t:Tx)(s:Sto)(r r':Root)(key call:ByteArray)(first cap:Array Value)(w:World)(hL:LiveT E w x A n t s r)(hwr:t.wrt=true)(hk1:1≤key.size)(hk8:key.size≤8)
  (hcf:∀ W:World,Sem.run prog (callFunc f (first++cap)) W=.ok (.enter f (first++cap)) W)
  (hw:∀ W:World,Kp [t.St] w W→E.Dev W→W.heap[x]?=some (qA4 t)→W.heap[t.St]?=some (ρ 1 s)→W.heap[E.V]?=some (qB6 A n)→RR E.toEnv W t.h r→
   Calls prog f (first++cap) W fun e w1=>e=qC5 none∧∃ w0 h',E.To W w0∧RR E.toEnv w1 h' r'∧w1.heap[x]?=some (qA4 { t with h:=h' })∧Kp [x] w0 w1):
  Calls prog 51 #[.pointer (some ⟨x,0,none⟩),.string call,.string key,.func (.func f) first cap] w fun e w'=>e=.returned .nilIface∧∃ h',FineT E w w' x t s r' h':=by
 have hxS:=hL.xS;refine (xA3 none (by decide) x f t s key call first cap (x::E.S) (fun W w1=>E.Dev w1∧w1.heap[t.St]?=some (ρ 1 s)∧∃ h',RR E.toEnv w1 h' r'∧w1.heap[x]?=some (qA4 { t with h:=h',ch:=t.ch+1 })) w hL.hx hL.over hL.hSt hL.po hL.xS (fun i hi=>by
   rcases List.mem_cons.1 hi with h|h
   ·rw[h];exact η hL.hx
   ·exact E.low w hL.dev i h) ?_).mono ?_
 ·intro W Tc Kc Wc hK hTcs _ _ hS hT hKc hWc;have hx:=hK.heap hL.hx (by simp;exact hxS);have hd:=hL.devS hK;have hV:=hK.heap hL.hV (by simp;exact fun e=>qD5 hL.hV hL.hSt (by decide) e);have hrr:=hL.rr.keepT hK (Apt.one hL.hSt (by decide));have hxT:x≠Tc:=qD5 hx hT (by decide);have hap:Apt W [x] qF4:=Apt.one hx (by decide);refine (xG6 Tc Kc Wc x f t key first cap (fun h' w1=>∃ w0,E.To W w0∧RR E.toEnv w1 h' r'∧Kp [x] w0 w1) W hT hKc hWc hx hwr hk1 hk8 hL.ch0 (by have:=hL.ch1;omega) hcf ?_).mono ?_
  ·refine (hw W hK hd hx hS hV hrr).mono ?_;rintro e w1 ⟨rfl,w0,h',hT0,hr,hx1,hk⟩;exact⟨rfl,h',⟨w0,hT0,hr,hk⟩,hx1,hk.heap (E.stay hd hT0 hT (by decide)) (by simp;exact fun e=>hxT e.symm)⟩
  ·rintro e w2 ⟨rfl,w1,h',⟨w0,hT0,hr,hk⟩,hx1,hx2,hk2⟩;have hx0:=E.stay hd hT0 hx (by decide);have hd1:=E.keepX w0 w1 [x] hT0.dev hk (OffD.one hx0 (by decide));have hd2:=E.keepX w1 w2 [x] hd1 hk2 (OffD.one hx1 (by decide));have hS2:w2.heap[t.St]?=some (ρ 1 s):=hk2.heap (hk.heap (E.stay hd hT0 hS (by decide)) (by simp;exact fun e=>hxS e.symm)) (by simp;exact fun e=>hxS e.symm);refine⟨rfl,⟨hd2,hS2,h',hr.keepT hk2 (Apt.one hx1 (by decide)),hx2⟩,?_,hS2⟩;exact (((hT0.kp.mono (S':=t.St::x::E.S) (by simp +contextual)).trans hk (by simp +contextual)).trans hk2 (by simp +contextual))
 ·rintro e w' ⟨v,rfl,hv,hSt,hK,W,w1,B,⟨hd1,hS1,h',hrr1,hx1⟩,hKW,hB1,hB2,hB3,hKB⟩;have hv':v=.nilIface:=hv;subst hv';refine⟨rfl,h',hKB.heap hx1 ?_,hrr1.keepT hKB (xD4 hS1 hB3),E.keepX w1 w' _ hd1 hKB (qR6 hS1 hB3),hSt,hK⟩;simp only[List.mem_cons,List.not_mem_nil,or_false,not_or];exact⟨hxS,qD5 hx1 hB3 (by decide)⟩
end Go.Proofs.YtdohpenfkdckiabGreatDoor
namespace Go.Proofs.YtdohpenfkdckiabGreatDoor
open Go.Proofs.Tryz
open Go.RowKit
open Go.Maps (Keyed)
theorem zH9{lk:Int}{s s':Sto}(h:ρ lk s=ρ lk s'):s=s':=by
 cases s;cases s';simp[ρ] at h;simp[h]
theorem zL0{α β:Type}{Q:α→β→Prop}:∀ (hs:List α),(∀ h∈hs,∃ r,Q h r)→∃ rs,Both Q hs rs
 | [],_=>⟨[],rfl,fun i h=>by simp at h⟩
 | h::hs,hq=>by
  obtain⟨r,hr⟩:=hq h (by simp);obtain⟨rs,h1,h2⟩:=zL0 hs fun x hx=>hq x (by simp[hx]);refine⟨r::rs,by simp[h1],fun i hi hi'=>?_⟩
  cases i with
  | zero=>exact hr
  | succ i=>exact h2 i (by simpa using hi) (by simpa using hi')
theorem zI2{h h':HL}(e:qF6 h=qF6 h')(h1:h.p=none)(h2:h'.p=none):h=h':=by
 cases h;cases h';simp[qF6] at e h1 h2;obtain⟨e1,e2,e3⟩:=e;subst h1 h2 e2 e3
 congr
 exact ByteArray.ext e1
structure Shop(w:World)(kc db St A C N nM:Nat)(s:Sto)(D:DataW Unit)(l:List UInt8)(wr:Int)(nw:Root):Prop where
 hDb:w.heap[db]?=some (.cells #[.pointer (some ⟨St,0,none⟩)] 95)
 hSt:w.heap[St]?=some (ρ 0 s)
 po:s.po=false
 hM:RM w s.V s.M nM D
 m4:Maps.size D≤4
 n1:nM≤1000000
 dev:Devl s.V A N C l wr w
 N8:8≤N
 N4:N≤400
 len:l.length=N*128
 lie:Lie N l s.rb s.rs nw
 good:RGood nw
 sz:nw.cont.length≤kc
 kc1:kc≤900
 bl0:0≤s.bl
 bl1:s.bl≤(nw.cont.length:Int)+1
 sN0:0≤s.N
 bg0:0≤s.bg
 kb:∀ k,Maps.has D k=true→∃ x,k=qA5 x∧1≤x∧x≤s.bg
 rd:∀ x h,Maps.has D (qA5 x)=true→(∀ zd,D.atKey (qA5 x) zd=qF6 h)→h.p=none→h.key=⟨#[]⟩∧∃ r,Lie N l h.b h.s r∧RGood r∧r.cont.length≤kc
section
variable {w:World} {kc db St A C N nM:Nat} {s:Sto} {D:DataW Unit} {l:List UInt8} {wr:Int} {nw:Root}
theorem Shop.hA(h:Shop w kc db St A C N nM s D l wr nw):∃ c,w.heap[A]?=some (φ N C (.slice none 0 0) c wr):=h.dev.hA
theorem Shop.AC(h:Shop w kc db St A C N nM s D l wr nw):C≠A:=by obtain⟨c,h1⟩:=h.hA;exact qD5 h.dev.hC h1 (by decide)
theorem Shop.VA(h:Shop w kc db St A C N nM s D l wr nw):s.V≠A:=by obtain⟨c,h1⟩:=h.hA;exact qD5 h.dev.hV h1 (by decide)
theorem Shop.VC(h:Shop w kc db St A C N nM s D l wr nw):s.V≠C:=qD5 h.dev.hV h.dev.hC (by decide)
theorem Shop.N1(h:Shop w kc db St A C N nM s D l wr nw):N≤1000:=by have:=h.N4;omega
abbrev Shop.E(h:Shop w kc db St A C N nM s D l wr nw):SEnv:=EL s.V A N C l wr h.N1 h.len h.AC h.VA
theorem qG0{w:World}{a b:Nat}{c:Array Value}{t:TypeId}{fr:Nat × Nat}{V n:Nat}{D:DataW Unit}(ha:w.heap[a]?=some (.cells c t fr))(hb:RM w V b n D):a≠b:=fun e=>by
 obtain⟨es,cl,h,_⟩:=hb;rw[e,h] at ha;cases ha
theorem qK6{V A N C:Nat}{l:List UInt8}{wr:Int}{w w':World}{S:List Nat}(h:Devl V A N C l wr w)(hK:Kp S w w')(hS:OffD w S):Devl V A N C l wr w':=by
 obtain⟨c,hA⟩:=h.hA;exact⟨hK.heap h.hV (fun hm=>hS _ hm _ _ _ h.hV (by decide)),⟨c,hK.heap hA (fun hm=>hS _ hm _ _ _ hA (by decide))⟩,hK.heap h.hC (fun hm=>hS _ hm _ _ _ h.hC (by decide))⟩
end
theorem LiveT.key{E:SEnv}{w:World}{x A n:Nat}{t:Tx}{s:Sto}{r:Root}(hL:LiveT E w x A n t s r):t.h.key=⟨#[]⟩:=by
 have:=hL.rr
 cases r with
 | none=>rw[show t.h=_ from this]
 | «at» n L=>exact this.1.trans hL.good.1
theorem zX7{w:World}{kc db St A C N nM:Nat}{s:Sto}{D:DataW Unit}{l:List UInt8}{wr:Int}{nw:Root}(hS:Shop w kc db St A C N nM s D l wr nw)(x:Nat)(t:Tx)(r:Root)(hL:LiveT hS.E w x A N t s r)(hts:t.St=St)(hwr:t.wrt=true)(h0:0≤t.nr)(h1:t.nr≤1000000000)(heq:∀ W:World,Sem.run prog (Op.equalIn 10000 83 (τ s.V t.h) (τ s.V ⟨⟨#[]⟩,s.rb,s.rs,none⟩)) W=.ok false W)(hrk:r.cont.length≤kc)(hN9:s.N≤999999999)
  (hrdel:∀ k,Maps.has (D.del (qA5 t.nr)) k=true→Maps.has D k=true∧∀ zd,(D.del (qA5 t.nr)).atKey k zd=D.atKey k zd) (hsz:Maps.size (D.del (qA5 t.nr))≤4)
  (hfit:qD7 r+r.news+Maps.size (D.del (qA5 t.nr))*kc+qD7 nw+2≤N):
  Calls prog 14 #[.pointer (some ⟨x,0,none⟩)] w fun e w'=>e=.returned .nilIface∧∃ s' l' nt,Shop w' kc db St A C N nM s' (D.del (qA5 t.nr)) l' (nx (nk (nx wr) r.news)) nt∧nt.cont=r.cont∧s'.N=s.N+2∧s'.bg=s.bg∧s'.wr=(s.left t.nr).wr∧s'.V=s.V∧s'.M=s.M∧w'.heap[x]?=some (qA4 t.ended)∧Kp [St,x,s.M,A,C] w w'∧∀ y rb rs r0,Maps.has (D.del (qA5 t.nr)) (qA5 y)=true→(∀ zd,(D.del (qA5 t.nr)).atKey (qA5 y) zd=qF6 ⟨⟨#[]⟩,rb,rs,none⟩)→Lie N l rb rs r0→Lie N l' rb rs r0:=by
 subst hts;obtain⟨cA,hA⟩:=hS.hA;have hMS:s.M≠t.St:=(qG0 hS.hSt hS.hM).symm;have hxS:=hL.xS;have hxM:x≠s.M:=qG0 hL.hx hS.hM;have hMs:s.M<w.heap.size:=hS.hM.lt;have hxA:x≠A:=qD5 hL.hx hA (by decide);have hxC:x≠C:=qD5 hL.hx hS.dev.hC (by decide);have hMA:s.M≠A:=(qG0 hA hS.hM).symm;have hMC:s.M≠C:=(qG0 hS.dev.hC hS.hM).symm;have hSA:t.St≠A:=qD5 hS.hSt hA (by decide);have hSC:t.St≠C:=qD5 hS.hSt hS.dev.hC (by decide);have hDS:db≠t.St:=qD5 hS.hDb hS.hSt (by decide);have hDA:db≠A:=qD5 hS.hDb hA (by decide);have hDC:db≠C:=qD5 hS.hDb hS.dev.hC (by decide);have hDx:db≠x:=qD5 hS.hDb hL.hx (by decide);have hDM:db≠s.M:=qG0 hS.hDb hS.hM;have hoff:OffD w [t.St,x,s.M]:=(OffD.one hL.hSt (by decide)).cons ((OffD.one hL.hx (by decide)).cons (fun k hk c ty fr e=>by rw[List.mem_singleton.1 hk] at e;exact absurd rfl (qG0 e hS.hM)));have hapt:Apt w [t.St,x,s.M] qF4:=(Apt.one hL.hSt (by decide)).cons ((Apt.one hL.hx (by decide)).cons (fun k hk c ty fr e=>by rw[List.mem_singleton.1 hk] at e;exact absurd rfl (qG0 e hS.hM)));have hkc:=hS.kc1;have hN8:=hS.N8;have hN4:=hS.N4;have hrt:∀ n l,r=.at n l→l.key=⟨#[]⟩:=fun n l e=>by have h:=hL.good;rw[e] at h;exact h.1
 have hnt:∀ n l,nw=.at n l→l.key=⟨#[]⟩:=fun n l e=>by have h:=hS.good;rw[e] at h;exact h.1
 have hbn:=hS.lie.bnd hS.N1;obtain⟨i,hi⟩:∃ i:Nat,(s.N+1) % 2=(i:Int):=⟨((s.N+1) % 2).toNat,by have:=hS.sN0;omega⟩;obtain⟨j,hj⟩:∃ j:Nat,(s.N+1+1) % 2=(j:Int):=⟨((s.N+1+1) % 2).toNat,by have:=hS.sN0;omega⟩;have hi2:i<2:=by have:=hS.sN0;omega
 have hj2:j<2:=by have:=hS.sN0;omega
 obtain⟨P,hPd⟩:∃ P:List HL→List Root→Prop,P=fun hs rs=>ReadH (D.del (qA5 t.nr)) hs∧Both (fun h r=>h.p=none∧h.key=⟨#[]⟩∧Lie N l h.b h.s r∧RGood r∧r.cont.length≤kc) hs rs:=⟨_,rfl⟩;have hP:∀ hs rs,P hs rs→ReadH (D.del (qA5 t.nr)) hs∧Both (fun h r=>h.p=none∧h.key=⟨#[]⟩∧Lie N l h.b h.s r∧RGood r∧r.cont.length≤kc) hs rs:=fun hs rs h=>by rw[hPd] at h;exact h
 have hlen1:(qC3 l i (qD6 (s.N+1) s.rb s.rs)).length=N*128:=qR8 l _ i N (qP5 _ _ _) hS.len (by omega);have hrd:∀ hs rs,P hs rs→meas qD7 rs≤Maps.size (D.del (qA5 t.nr))*kc:=fun hs rs h=>by
  obtain⟨h1,h2,h3⟩:=hP hs rs h;have h4:∀ r∈rs,qD7 r≤kc:=fun r hr=>by
   obtain⟨k,hk,rfl⟩:=List.getElem_of_mem hr;obtain⟨_,_,_,g,g2⟩:=h3 k (by rw[h2];exact hk) hk;have:=qN5 g;by_cases e:rs[k].cont.length=0
   ·have:2*qD7 rs[k]≤1:=by omega
    omega
   ·omega
  have h5:∀ (rs:List Root),(∀ r∈rs,qD7 r≤kc)→meas qD7 rs≤rs.length*kc:=fun rs=>by
   induction rs with
   | nil=>intro _;simp[meas]
   | cons a rs ih=>
    intro h;have:=ih fun r hr=>h r (by simp[hr]);have:=h a (by simp);rw[qC9,List.length_cons,Nat.succ_mul];omega
  have h6:=h5 rs h4;have h7:rs.length*kc≤Maps.size (D.del (qA5 t.nr))*kc:=Nat.mul_le_mul_right _ (by rw[←h2];exact h1.len);omega
 have hfit2:∀ hs rs,P hs rs→r.news≤(qB5 N ((rs++[nw]).foldl qA3 (qA3 [] r))).length:=fun hs rs h=>by
  have g1:=xK3 N ((rs++[nw]).foldl qA3 (qA3 [] r));have g2:=zI8 (rs++[nw]) (qA3 [] r);have g3:=zA8 [] r;have g4:=hrd hs rs h;rw[qE0] at g2;simp only[qC9,qD1,List.length_nil] at g2 g3;omega
 have hold:∀ hs rs,P hs rs→∀ u∈rs++[nw],∃ rb rs',Lie N l rb rs' u:=fun hs rs h u hu=>by
  obtain⟨h1,h2,h3⟩:=hP hs rs h;rcases List.mem_append.1 hu with hu|hu
  ·obtain⟨k,hk,rfl⟩:=List.getElem_of_mem hu;exact⟨_,_,(h3 k (by rw[h2];exact hk) hk).2.2.1⟩
  ·rw[List.mem_singleton.1 hu];exact⟨_,_,hS.lie⟩
 have hlies:∀ hs rs,P hs rs→∀ fr,fr=qB5 N ((rs++[nw]).foldl qA3 (qA3 [] r))→∃ nt:Root,Lie N (laidAll (qC3 l i (qD6 (s.N+1) s.rb s.rs)) (qC1 r fr).2) (qC1 r fr).1.b (qC1 r fr).1.s nt∧RGood nt∧nt.cont=r.cont∧(qC1 r fr).2.length=r.news∧(∀ u∈rs++[nw],∀ k∈qL4 u,qB0 (laidAll (qC3 l i (qD6 (s.N+1) s.rb s.rs)) (qC1 r fr).2) k=qB0 (qC3 l i (qD6 (s.N+1) s.rb s.rs)) k)∧(∀ k,k<2→qB0 (laidAll (qC3 l i (qD6 (s.N+1) s.rb s.rs)) (qC1 r fr).2) k=qB0 (qC3 l i (qD6 (s.N+1) s.rb s.rs)) k):=fun hs rs h fr hfr=>by
  refine xP5 hS.N1 hlen1 r (rs++[nw]) ?_ hL.good (by omega) (fun u hu=>?_) fr hfr (by rw[hfr];exact hfit2 hs rs h)
  ·exact xS9 (fun k hk=>zB1 l _ i k N (qP5 _ _ _) hS.len (by omega) (by omega)) (xV5 hL.rr)
  ·obtain⟨_,_,g⟩:=hold hs rs h u hu;exact (g.head hS.len (by omega) i hi2 _ _ _).old
 refine (zI1 x nM s.V t s D [A,C] (fun W w1=>∃ hs rs fr,P hs rs∧fr=qB5 N ((rs++[nw]).foldl qA3 (qA3 [] r))∧w1.heap[t.St]?=some (ρ 1 ((s.left t.nr).cmt (qC1 r fr).1.b (qC1 r fr).1.s (((qA3 [] r).length+r.news:Nat):Int)))∧
   Devl s.V A N C (qC3 (laidAll (qC3 l i (qD6 (s.N+1) s.rb s.rs)) (qC1 r fr).2) j (qD6 (s.N+1+1) (qC1 r fr).1.b (qC1 r fr).1.s)) (nx (nk (nx wr) (qC1 r fr).2.length)) w1) w hL.hx hL.over hS.hSt hS.po hS.hM h0 h1 hMS hxS hxM hMs hL.on hwr (by simp only[List.mem_cons,List.not_mem_nil,or_false];rintro k (rfl | rfl);exact η hA;exact η hS.dev.hC) ?_).mono ?_
 ·intro W hK hx' hS' hM';refine (xH3 t.St A N C (s.left t.nr) t.h r nw l wr P W (by omega) hS.N1 hS.len hS.AC hS.VA hS.VC hS' (qK6 hS.dev hK hoff) (hL.rr.keepT hK hapt) hrt hL.good (by omega) (zF8 hL.good (by omega)) (hS.lie.rr hS.good W) hnt hS.sN0 hN9 hbn.1 hbn.2.1 hbn.2.2 heq ?_ ?_ i j hi hj).mono ?_
  ·intro W' hK';refine (xX2 t.St nM 1 (s.left t.nr) (D.del (qA5 t.nr)) W' (hK'.hp hS') (hM'.kp hK' (by simp)) hsz).mono ?_;rintro e w' ⟨v,hs,e1,e2,e3,e4⟩;obtain⟨rs,hb⟩:=zL0 (Q:=fun h r=>h.p=none∧h.key=⟨#[]⟩∧Lie N l h.b h.s r∧RGood r∧r.cont.length≤kc) hs fun h hm=>by
    obtain⟨g1,y,g2,g3⟩:=e3.are h hm;obtain⟨f1,f2⟩:=hrdel _ g2;obtain⟨d1,u,d2⟩:=hS.rd y h f1 (fun zd=>(f2 zd).symm.trans (g3 zd)) g1;exact⟨u,g1,d1,d2⟩
   exact⟨v,hs,rs,e1,e2,by rw[hPd];exact⟨e3,hb⟩,e4⟩
  ·intro hs rs h;obtain⟨g1,g2,g3⟩:=hP hs rs h;obtain⟨nt,d1,d2,d3,_⟩:=hlies hs rs h _ rfl;have hb:=d1.bnd hS.N1;have hm:=hrd hs rs h;have hln:=g1.len;refine⟨g2,by omega,fun k k1 k2=>?_,?_,hfit2 hs rs h,hb.1,hb.2.1,hb.2.2⟩
   ·obtain⟨c1,c2,c3,c4,c5⟩:=g3 k k1 k2;refine⟨?_,fun n L e=>?_⟩
    ·have e:hs[k]=⟨⟨#[]⟩,hs[k].b,hs[k].s,none⟩:=by
      cases hx:hs[k];rw[hx] at c1 c2;simp only at c1 c2;rw[c1,c2]
     rw[e];exact c3.rr c4 W
    ·rw[e] at c4;exact c4.1
   ·rw[qE0,qC9,qD1];omega
  ·rintro e w1 ⟨rfl,hs,rs,fr,e1,e2,e3,e4,e5⟩;exact⟨rfl,⟨_,e3⟩,⟨hs,rs,fr,e1,e2,e3,e4⟩,e5⟩
 ·rintro e w' ⟨rfl,hKw,W,w1,B,s',hK,hx',hS',hM',⟨hs,rs,fr,e1,e2,e3,e4⟩,hKc,hs1,hs2,hB0,hB1,hKB⟩;obtain⟨nt,d1,d2,d3,d4,d5,d6⟩:=hlies hs rs e1 fr e2;have hse:s'=(s.left t.nr).cmt (qC1 r fr).1.b (qC1 r fr).1.s (((qA3 [] r).length+r.news:Nat):Int):=by
   rw[e3] at hs1;exact (zH9 (Option.some.inj hs1)).symm
  rw[d4] at e4;have hlen2:(laidAll (qC3 l i (qD6 (s.N+1) s.rb s.rs)) (qC1 r fr).2).length=N*128:=zD2 N _ _ hlen1 (zD6 (zF8 hL.good (by omega)) (by rw[e2];exact hfit2 hs rs e1) (fun b hb=>by rw[e2] at hb;exact (zC4 b hb).2.1));have hBx:∀ k,k<w.heap.size→k≠B:=fun k hk=>by omega
  have hlt:=η hL.hx;have hKw':Kp [t.St,x,s.M,A,C] w w':=hKw;have hM1:RM w1 s.V s.M nM (D.del (qA5 t.nr)):=hM'.kp hKc (by simp[hMS,hMA,hMC]);have hbnew:∀ u,(∃ a b,Lie N l a b u)→(∀ k∈qL4 u,qB0 (laidAll (qC3 l i (qD6 (s.N+1) s.rb s.rs)) (qC1 r fr).2) k=qB0 (qC3 l i (qD6 (s.N+1) s.rb s.rs)) k)→∀ a b,Lie N l a b u→Lie N (qC3 (laidAll (qC3 l i (qD6 (s.N+1) s.rb s.rs)) (qC1 r fr).2) j (qD6 (s.N+1+1) (qC1 r fr).1.b (qC1 r fr).1.s)) a b u:=fun u _ hk a b hu=>
   (((hu.head hS.len (by omega) i hi2 _ _ _).move hk).head hlen2 (by omega) j hj2 _ _ _)
  refine⟨rfl,s',qC3 (laidAll (qC3 l i (qD6 (s.N+1) s.rb s.rs)) (qC1 r fr).2) j (qD6 (s.N+1+1) (qC1 r fr).1.b (qC1 r fr).1.s),nt,?_,d3,by rw[hse];show s.N+1+1=s.N+2;omega,by rw[hse];rfl,by rw[hse];rfl,by rw[hse];rfl,by rw[hse];rfl,?_,hKw',?_⟩
  ·refine { hDb:=hKw'.heap hS.hDb (by simp[hDS,hDx,hDM,hDA,hDC]),hSt:=hs2,po:=by rw[hse];exact hS.po,hM:=?_,m4:=hsz,n1:=hS.n1,dev:=?_,N8:=hS.N8,N4:=hS.N4,len:=qR8 _ _ j N (qP5 _ _ _) hlen2 (by omega),lie:=?_,good:=d2,sz:=by rw[d3];exact hrk,kc1:=hS.kc1,bl0:=?_,bl1:=?_,sN0:=?_,bg0:=by rw[hse];exact hS.bg0,kb:=fun k hk=>by rw[hse];exact hS.kb k (hrdel k hk).1,rd:=?_ }
   ·rw[hse];exact hM1.kp hKB (by simp[hMS];omega)
   ·rw[hse];exact qK6 e4 hKB (qR6 hs1 hB1)
   ·rw[hse];exact d1.head hlen2 (by omega) j hj2 _ _ _
   ·rw[hse];show (0:Int)≤(((qA3 [] r).length+r.news:Nat):Int);exact Int.natCast_nonneg _
   ·rw[hse,d3];have g1:=zA8 [] r;have g2:=qN5 hL.good;have g3:=qM1 hL.good;show ((_:Nat):Int)≤_;simp only[List.length_nil] at g1;omega
   ·rw[hse];show 0≤s.N+1+1;have:=hS.sN0;omega
   ·intro y h g1 g2 g3;obtain⟨f1,f2⟩:=hrdel _ g1;obtain⟨c1,u,c2,c3,c4⟩:=hS.rd y h f1 (fun zd=>(f2 zd).symm.trans (g2 zd)) g3;obtain⟨a1,a2,a3⟩:=hP hs rs e1;obtain⟨h',hm',hp',ha'⟩:=a1.all _ g1;have hhe:h=h':=by
     have e:=(g2 (.lit (.int .i64 0))).symm.trans (ha' (.lit (.int .i64 0)));exact zI2 e g3 hp'
    subst hhe;obtain⟨k,hk,rfl⟩:=List.getElem_of_mem hm';have hk2:k<rs.length:=by rw[←a2];exact hk
    obtain⟨b1,b2,b3,b4,b5⟩:=a3 k hk hk2;exact⟨b2,rs[k],hbnew _ ⟨_,_,b3⟩ (d5 _ (List.mem_append_left _ (List.getElem_mem hk2))) _ _ b3,b4,b5⟩
  ·exact hKB.heap (hKc.heap hx' (by simp[hxS,hxA,hxC])) (by simp[hxS];omega)
  ·intro y rb rs' r0 g1 g2 g3;obtain⟨a1,a2,a3⟩:=hP hs rs e1;obtain⟨h',hm',hp',ha'⟩:=a1.all _ g1;have hhe:(⟨⟨#[]⟩,rb,rs',none⟩:HL)=h':=zI2 ((g2 (.lit (.int .i64 0))).symm.trans (ha' (.lit (.int .i64 0)))) rfl hp';obtain⟨k,hk,he⟩:=List.getElem_of_mem hm';have hk2:k<rs.length:=by rw[←a2];exact hk
   obtain⟨b1,b2,b3,b4,b5⟩:=a3 k hk hk2;rw[he,←hhe] at b3;refine hbnew _ ⟨_,_,g3⟩ (fun k' hk'=>d5 _ (List.mem_append_left _ (List.getElem_mem hk2)) k' ?_) _ _ g3;rw[(Lie.one hS.N1 b3 g3).2];exact hk'
end Go.Proofs.YtdohpenfkdckiabGreatDoor
namespace Go.Proofs.YtdohpenfkdckiabGreatDoor
open Go.Proofs.Tryz
open Go.RowKit
theorem zK7(args:Array Value)(W:World):Sem.run prog (callFunc 54 args) W=.ok (.enter 54 args) W:=by
 simp[go_sem,func54]
theorem FineT.from{E:SEnv}{w w0 w':World}{x:Nat}{t:Tx}{s:Sto}{r':Root}{h':HL}(hK:Kp [] w w0)(h:FineT E w0 w' x t s r' h'):FineT E w w' x t s r' h':=
 { h with kp:=(hK.mono (by simp)).trans h.kp (fun _ h _=>h) }
theorem qU8(k:ByteArray):qN8 k=true↔1≤k.size∧k.size≤8:=by simp[qN8]
theorem zA4(E:SEnv)(x A n:Nat)(t:Tx)(s:Sto)(r:Root)(p:KV)(w:World)(hL:LiveT E w x A n t s r)(hwr:t.wrt=true)(hok:qC2 p)(hroom:((r.put p).news:Int)≤(n:Int)-2-s.bl):
  Calls prog 28 #[.pointer (some ⟨x,0,none⟩),.string p.k,.string p.v] w fun e w'=>e=.returned .nilIface∧∃ h',FineT E w w' x t s (r.put p) h':=by
 have HL:=zh hL;have HR:=zh hroom;have HOK:=zh hok;have hxs:=η hL.hx;have hSs:=η hL.hSt;clear hL hroom hok;have hmf:=zM;go_enter func28,ntmps28;go_wp2_with fail;obtain⟨w0,hw0,hT0,hK0,hV0,hKp0,hs0⟩:∃ w0,w0=((w.alloc (.cells #[.pointer (some ⟨x,0,none⟩)] 29)).alloc (.cells #[.string p.k] 9)).alloc (.cells #[.string p.v] 9)∧w0.heap[w.heap.size]?=some (.cells #[.pointer (some ⟨x,0,none⟩)] 29)∧w0.heap[w.heap.size+1]?=some (.cells #[.string p.k] 9)∧w0.heap[w.heap.size+2]?=some (.cells #[.string p.v] 9)∧Kp [] w w0∧w0.heap.size=w.heap.size+3:=by
  refine⟨_,rfl,θ _ (θ _ (μ _ _)),θ _ ?_,?_,(((Kp.refl _ _).alloc _).alloc _).alloc _,by simp⟩
  ·have e:=μ (w.alloc (.cells #[.pointer (some ⟨x,0,none⟩)] 29)) (.cells #[.string p.k] 9);simpa using e
  ·have e:=μ ((w.alloc (.cells #[.pointer (some ⟨x,0,none⟩)] 29)).alloc (.cells #[.string p.k] 9)) (.cells #[.string p.v] 9);simpa using e
 rw[←hw0];clear hw0;refine (zK8 E x A n 54 t s r (r.put p) p.k _ #[] #[.pointer (some ⟨w.heap.size+2,0,none⟩),.pointer (some ⟨w.heap.size,0,none⟩),.pointer (some ⟨w.heap.size+1,0,none⟩)] w0 (HL.out.more hKp0) hwr HOK.out.1 HOK.out.2.1 (zK7 _) ?_).mono ?_
 ·intro W hK hd hx hS hV hrr;exact xU6 E (w.heap.size+2) w.heap.size (w.heap.size+1) x A n t s r p W ⟨hK.ho hV0,hK.ho hT0,hK.ho hK0,hx,HL.out.on,hS,HL.out.sV,hV,HL.out.n1,HL.out.bl0,HL.out.bl1,hd,HL.out.vS,hrr,HL.out.good,HL.out.sz⟩ HOK.out HR.out
 ·rintro e w1 ⟨rfl,h',hF⟩;have HF:Hid (FineT E w w1 x t s (r.put p) h'):=hF.from hKp0;clear hF;go_wp2;go_ret;exact⟨rfl,h',HF.out⟩
theorem xH9(E:SEnv)(Tc Kc x:Nat)(t:Tx)(r:Root)(k:ByteArray)(w:World)(hTc:w.heap[Tc]?=some (.cells #[.pointer (some ⟨x,0,none⟩)] 29))(hKc:w.heap[Kc]?=some (.cells #[.string k] 9))(hx:w.heap[x]?=some (qA4 t))(hon:t.on=some ⟨E.V,0,none⟩)(hd:E.Dev w)(hrr:RR E.toEnv w t.h r)(hg:RGood r)(hsz:r.cont.length≤50000):
  Calls prog 52 #[.pointer (some ⟨Tc,0,none⟩),.pointer (some ⟨Kc,0,none⟩)] w fun e w'=>e=qC5 none∧∃ w1 h',E.To w w1∧RR E.toEnv w' h' (r.del k)∧w'.heap[x]?=some (qA4 { t with h:=h' })∧Kp [x] w1 w':=by
 have HD:=zh hd;have HRR:=zh hrr;have HG:=zh hg;have hxs:=η hx;clear hd hrr hg;go_enter func52,ntmps52;go_wp2_with fail;have hS0:w.heap[Tc]?=some (.cells #[.pointer (some ⟨x,0,none⟩)] 29)∧w.heap[Kc]?=some (.cells #[.string k] 9):=⟨hTc,hKc⟩;refine wp_region_held_drew (S:=fun W=>W.heap[Tc]?=some (.cells #[.pointer (some ⟨x,0,none⟩)] 29)∧W.heap[Kc]?=some (.cells #[.string k] 9)) (by kernel_rfl) hS0 (fun _=>?_);refine zV 0 (.pointer (some ⟨x,0,none⟩)) rfl (fun W hS=>by have c:=ξ hS.1 0;simp at c;clear hS;go_simp) hS0 ?_;refine zV 1 (.pointer (some ⟨x,0,none⟩)) rfl (fun W hS=>by have c:=ξ hS.1 0;simp at c;clear hS;go_simp) hS0 ?_;refine zP 2 x 0 hS0 ?_;refine zP 3 x 4 hS0 ?_;refine zV 5 (.string k) rfl (fun W hS=>by have c:=ξ hS.2 0;simp at c;clear hS;go_simp) hS0 ?_;have a4:=ξ hx 4;have a5:=ξ hx 5;have a6:=ξ hx 6;have a7:=ξ hx 7;have a8:=ξ hx 8;simp only[qA4,zG,zH,zI] at a4 a5 a6 a7 a8;rw[hon] at a4;refine zq 4 fun K hK=>?_;go_simp;clear a4 a5 a6 a7 a8;refine hK.out _ _ hS0 (fun _=>?_);clear hK K
 try simp only[zZ]
 refine zq 6 fun K hK=>?_;go_simp;have hTd:E.To w w.drew:=(Env.To.of0 HD.out (Kp.refl _ _)).tail ((Kp.refl _ _).drew);have hdl:=xX7 E.toEnv r t.h k w.drew hTd.dev (HRR.out.to HD.out hTd) HG.out (by omega);rw[τ] at hdl;refine hdl.mono ?_;clear hdl;rintro e w1 ⟨h',rfl,hr1,hT1⟩;have hT1':=hTd.trans hT1;have hS1:=And.intro (E.stay HD.out hT1' hTc (by decide)) (E.stay HD.out hT1' hKc (by decide));have hx1:=E.stay HD.out hT1' hx (by decide);have hx1s:=η hx1;refine hK.out _ _ hS1 (fun _=>?_);clear hK K
 try simp only[zZ]
 refine zP 7 x 0 hS1 ?_;refine zP 8 x 4 hS1 ?_;have a4:=ξ hx1;simp only[qA4,zG,zH,zI] at a4;have f4:=ν hx1;rw[τ];refine zq 9 fun K hK=>?_;go_simp;have hts:=qU3 (.pointer (some ⟨E.V,0,none⟩)) (.string h'.key) (.int .i64 h'.b) (.int .u64 h'.s) (.pointer h'.ptr) hx1;obtain⟨w2,hw2,hx2,hK2⟩:∃ w2,w2=((((w1.setCell ⟨x,4,none⟩ (.pointer (some ⟨E.V,0,none⟩))).setCell ⟨x,5,none⟩ (.string h'.key)).setCell ⟨x,6,none⟩ (.int .i64 h'.b)).setCell ⟨x,7,none⟩ (.int .u64 h'.s)).setCell ⟨x,8,none⟩ (.pointer h'.ptr)∧w2.heap[x]?=some (qA4 { t with h:=h' })∧Kp [x] w1 w2:=⟨_,rfl,by rw[hts.1,qA4,hon],hts.2⟩;rw[←hw2];clear hw2 hts a4 f4;have hS2:=And.intro (hK2.heap hS1.1 (by simp;exact qD5 hS1.1 hx1 (by decide))) (hK2.heap hS1.2 (by simp;exact qD5 hS1.2 hx1 (by decide)));refine hK.out _ _ hS2 (fun _=>?_);clear hK K
 try simp only[zZ]
 refine zd ?_;have HF:Hid (E.To w w1∧RR E.toEnv w2 h' (r.del k)∧w2.heap[x]?=some (qA4 { t with h:=h' })∧Kp [x] w1 w2):=⟨hT1',hr1.keepT hK2 (Apt.one hx1 (by decide)),hx2,hK2⟩;clear hS2 hS1 hS0 hx2 hx1 hr1 hT1 hT1' hTd hK2;go_wp2
 go_end0
 exact⟨rfl,w1,h',HF.out⟩
theorem xG4(args:Array Value)(W:World):Sem.run prog (callFunc 52 args) W=.ok (.enter 52 args) W:=by
 simp[go_sem,func52]
theorem zL4(E:SEnv)(x A n:Nat)(t:Tx)(s:Sto)(r:Root)(k:ByteArray)(w:World)(hL:LiveT E w x A n t s r)(hwr:t.wrt=true)(hk:qN8 k=true):
  Calls prog 27 #[.pointer (some ⟨x,0,none⟩),.string k] w fun e w'=>e=.returned .nilIface∧∃ h',FineT E w w' x t s (r.del k) h':=by
 have HL:=zh hL;have HKK:Hid (1≤k.size∧k.size≤8):=(qU8 k).1 hk;have hxs:=η hL.hx;have hSs:=η hL.hSt;clear hL hk;have hmf:=zM;go_enter func27,ntmps27;go_wp2_with fail;obtain⟨w0,hw0,hT0,hK0,hKp0,hs0⟩:∃ w0,w0=(w.alloc (.cells #[.pointer (some ⟨x,0,none⟩)] 29)).alloc (.cells #[.string k] 9)∧w0.heap[w.heap.size]?=some (.cells #[.pointer (some ⟨x,0,none⟩)] 29)∧w0.heap[w.heap.size+1]?=some (.cells #[.string k] 9)∧Kp [] w w0∧w0.heap.size=w.heap.size+2:=by
  refine⟨_,rfl,θ _ (μ _ _),?_,((Kp.refl _ _).alloc _).alloc _,by simp⟩;have e:=μ (w.alloc (.cells #[.pointer (some ⟨x,0,none⟩)] 29)) (.cells #[.string k] 9);simpa using e
 rw[←hw0];clear hw0;refine (zK8 E x A n 52 t s r (r.del k) k _ #[] #[.pointer (some ⟨w.heap.size,0,none⟩),.pointer (some ⟨w.heap.size+1,0,none⟩)] w0 (HL.out.more hKp0) hwr HKK.out.1 HKK.out.2 (xG4 _) ?_).mono ?_
 ·intro W hK hd hx hS hV hrr;exact xH9 E w.heap.size (w.heap.size+1) x t r k W (hK.ho hT0) (hK.ho hK0) hx HL.out.on hd hrr HL.out.good HL.out.sz
 ·rintro e w1 ⟨rfl,h',hF⟩;have HF:Hid (FineT E w w1 x t s (r.del k) h'):=hF.from hKp0;clear hF;go_wp2;go_ret;exact⟨rfl,h',HF.out⟩
theorem LiveT.next{E:SEnv}{w w':World}{x A n:Nat}{t:Tx}{s:Sto}{r r':Root}{h':HL}(h:LiveT E w x A n t s r)(hF:FineT E w w' x t s r' h')(hg:RGood r')(hz:r'.cont.length≤50000)(hc:t.ch≤99999999):LiveT E w' x A n { t with h:=h',ch:=t.ch+1 } s r':=
 { hx:=hF.hx,over:=h.over,on:=h.on,hSt:=hF.hSt,po:=h.po,sV:=h.sV,hV:=hF.kp.heap h.hV (by
   simp only[List.mem_cons,not_or];exact⟨qD5 h.hV h.hSt (by decide),qD5 h.hV h.hx (by decide),h.vS⟩),n1:=h.n1,bl0:=h.bl0,bl1:=h.bl1,dev:=hF.dev,vS:=h.vS,rr:=hF.rr,good:=hg,sz:=hz,ch0:=by show 0≤t.ch+1;have:=h.ch0;omega,ch1:=by show t.ch+1≤_;omega }
theorem xB5{p q:KV}{l:List KV}(h:q∈l)(hne:q.k≠p.k):q∈ins p l:=by
 simp only[ins,List.mem_append,List.mem_cons,List.mem_filter];have h1:q∈l.takeWhile (fun q=>kl q.k p.k)++l.dropWhile (fun q=>kl q.k p.k):=by rw[List.takeWhile_append_dropWhile];exact h
 rcases List.mem_append.1 h1 with h2|h2
 ·exact .inl h2
 ·exact .inr (.inr ⟨h2,by simp[hne]⟩)
end Go.Proofs.YtdohpenfkdckiabGreatDoor
namespace Go.Proofs.YtdohpenfkdckiabGreatDoor
open Go.Proofs.Tryz
open Go.RowKit
open Go.Maps (Keyed)
section
variable {w:World} {kc db St A C N nM:Nat} {s:Sto} {D:DataW Unit} {l:List UInt8} {wr:Int} {nw:Root}
theorem Shop.turn(hS:Shop w kc db St A C N nM s D l wr nw){w':World}{L:List Nat}(hK:Kp L w w')(hdb:db ∉ L)(hdev:Devl s.V A N C l wr w'){s':Sto}{nM':Nat}{D':DataW Unit}(e:s'.V=s.V∧s'.N=s.N∧s'.rb=s.rb∧s'.rs=s.rs∧s'.bl=s.bl∧s'.po=s.po)
  (hSt:w'.heap[St]?=some (ρ 0 s')) (hM:RM w' s'.V s'.M nM' D') (m4:Maps.size D'≤4) (n1:nM'≤1000000) (bg0:0≤s'.bg) (kb:∀ k,Maps.has D' k=true→∃ x,k=qA5 x∧1≤x∧x≤s'.bg)
  (rd:∀ x h,Maps.has D' (qA5 x)=true→(∀ zd,D'.atKey (qA5 x) zd=qF6 h)→h.p=none→h.key=⟨#[]⟩∧∃ r,Lie N l h.b h.s r∧RGood r∧r.cont.length≤kc):Shop w' kc db St A C N nM' s' D' l wr nw:=by
 obtain⟨e1,e2,e3,e4,e5,e6⟩:=e;exact { hDb:=hK.heap hS.hDb hdb,hSt:=hSt,po:=by rw[e6];exact hS.po,hM:=hM,m4:=m4,n1:=n1,dev:=by rw[e1];exact hdev,N8:=hS.N8,N4:=hS.N4,len:=hS.len,lie:=by rw[e3,e4];exact hS.lie,good:=hS.good,sz:=hS.sz,kc1:=hS.kc1,bl0:=by rw[e5];exact hS.bl0,bl1:=by rw[e5];exact hS.bl1,sN0:=by rw[e2];exact hS.sN0,bg0:=bg0,kb:=kb,rd:=rd }
theorem Shop.neDb(hS:Shop w kc db St A C N nM s D l wr nw):db≠St∧db≠A∧db≠C∧db≠s.M:=by
 obtain⟨c,h⟩:=hS.hA;exact⟨qD5 hS.hDb hS.hSt (by decide),qD5 hS.hDb h (by decide),qD5 hS.hDb hS.dev.hC (by decide),qG0 hS.hDb hS.hM⟩
theorem Shop.quiet(hS:Shop w kc db St A C N nM s D l wr nw){w':World}{x:Nat}{c:Array Value}(hx:w.heap[x]?=some (.cells c 85))(hK:Kp [St,x,A] w w')(hdev:Devl s.V A N C l wr w')(hSt:w'.heap[St]?=some (ρ 0 s)):Shop w' kc db St A C N nM s D l wr nw:=by
 obtain⟨n1,n2,n3,n4⟩:=hS.neDb;obtain⟨cA,hA⟩:=hS.hA;have h1:s.M≠St:=(qG0 hS.hSt hS.hM).symm;have h2:s.M≠x:=(qG0 hx hS.hM).symm;have h3:s.M≠A:=(qG0 hA hS.hM).symm;exact hS.turn hK (by simp[n1,n2];exact qD5 hS.hDb hx (by decide)) hdev ⟨rfl,rfl,rfl,rfl,rfl,rfl⟩ hSt (hS.hM.kp hK (by simp[h1,h2,h3])) hS.m4 hS.n1 hS.bg0 hS.kb hS.rd
theorem Shop.live(hS:Shop w kc db St A C N nM s D l wr nw){x:Nat}{t:Tx}(hx:w.heap[x]?=some (qA4 t))(ho:t.over=false)(hon:t.on=some ⟨s.V,0,none⟩)(hst:t.St=St)(hh:t.h=⟨⟨#[]⟩,s.rb,s.rs,none⟩)(hc:t.ch=0):LiveT hS.E w x A N t s nw:=
 { hx:=hx,over:=ho,on:=hon,hSt:=by rw[hst];exact hS.hSt,po:=hS.po,sV:=rfl,hV:=hS.dev.hV,n1:=hS.N1,bl0:=hS.bl0,bl1:=by have:=hS.bl1;have:=hS.sz;have:=hS.kc1;omega,dev:=hS.dev,vS:=by show s.V ∉ [A];simpa using hS.VA,rr:=by rw[hh];exact hS.lie.rr hS.good w,good:=hS.good,sz:=by have:=hS.sz;have:=hS.kc1;omega,ch0:=by omega,ch1:=by omega }
theorem Shop.beginW(hS:Shop w kc db St A C N nM s D l wr nw)(hw:s.wr=0)(hbg:s.bg≤100000000):
  Calls prog 22 #[.pointer (some ⟨db,0,none⟩),.bool true] w fun e w'=>∃ x t,e=.returned (.tuple #[.pointer (some ⟨x,0,none⟩),.nilIface])∧w.heap.size≤x∧t.St=St∧t.nr=s.bg+1∧t.wrt=true∧t.ch=0∧Kp [St] w w'∧∃ hS':Shop w' kc db St A C N nM s.wrote D l wr nw,LiveT hS'.E w' x A N t s.wrote nw:=by
 obtain⟨n1,n2,n3,n4⟩:=hS.neDb;have h1:s.M≠St:=(qG0 hS.hSt hS.hM).symm;refine (xE1 db St nM s D w hS.hDb hS.hSt hS.hM hS.po n1 h1 hS.hM.lt hw hS.bg0 hbg).mono ?_;rintro e w' ⟨x,rfl,hxs,hx,hSt,hM,hK⟩;have hS':Shop w' kc db St A C N nM s.wrote D l wr nw:=hS.turn hK (by simpa using n1) (qK6 hS.dev hK (OffD.one hS.hSt (by decide))) ⟨rfl,rfl,rfl,rfl,rfl,rfl⟩ hSt hM hS.m4 hS.n1 (by show 0≤s.bg+1;have:=hS.bg0;omega) (fun k hk=>by obtain⟨y,e1,e2,e3⟩:=hS.kb k hk;exact⟨y,e1,e2,by show y≤s.bg+1;omega⟩) hS.rd;exact⟨x,_,rfl,hxs,rfl,rfl,rfl,rfl,hK,hS',hS'.live hx rfl rfl rfl rfl rfl⟩
end
end Go.Proofs.YtdohpenfkdckiabGreatDoor
namespace Go.Proofs.YtdohpenfkdckiabGreatDoor
open Go.Proofs.Tryz
open Go.RowKit
theorem xA4(St:Nat)(s:Sto)(h:HL)(w:World)(hSt:w.heap[St]?=some (ρ 1 s))
  (heq:∀ W:World,Sem.run prog (Op.equalIn 10000 83 (τ s.V h) (τ s.V ⟨⟨#[]⟩,s.rb,s.rs,none⟩)) W=.ok true W):
  Calls prog 41 #[.pointer (some ⟨St,0,none⟩),τ s.V h] w fun e w'=>e=.returned (.tuple #[])∧Kp [] w w':=by
 have HS:=zh hSt;clear hSt;rw[τ,show τ s.V ⟨⟨#[]⟩,s.rb,s.rs,none⟩=.agg #[.pointer (some ⟨s.V,0,none⟩),.string ⟨#[]⟩,.int .i64 s.rb,.int .u64 s.rs,.pointer none] from rfl] at heq;rw[τ];go_enter func41,ntmps41;go_wp2_with fail;obtain⟨w0,hw0,hT0,hK0,hs0'⟩:=qG2 w (.cells #[.pointer (some ⟨s.V,0,none⟩),.string h.key,.int .i64 h.b,.int .u64 h.s,.pointer h.ptr] 83);rw[←hw0];clear hw0;refine (qU9 St 1 s w0 (hK0.hp HS.out)).mono ?_;rintro e w1 ⟨rfl,hK1⟩;rw[show τ s.V ⟨⟨#[]⟩,s.rb,s.rs,none⟩=.agg #[.pointer (some ⟨s.V,0,none⟩),.string ⟨#[]⟩,.int .i64 s.rb,.int .u64 s.rs,.pointer none] from rfl];have hT1:=hK1.hp hT0;have hT1s:=η hT1;have t:=ξ hT1;have HK1:Hid (Kp [] w w1):=hK0.tr hK1;clear hK0 hK1 hT0 hT1;go_wp2;refine bodyPost_ret (results_none results41 _ _ _) rfl ?_;exact⟨rfl,HK1.out.alloc _⟩
section
variable {w:World} {kc db St A C N nM:Nat} {s:Sto} {D:DataW Unit} {l:List UInt8} {wr:Int} {nw:Root}
theorem LiveT.lie{E':SEnv}{x:Nat}{t:Tx}{r:Root}{hN:N≤1000}{hs:l.length=N*128}{hAC:C≠A}{hVA:s.V≠A}(hL:LiveT (EL s.V A N C l wr hN hs hAC hVA) w x A N t s r)(hp:t.h.p=none):Lie N l t.h.b t.h.s r:=by
 have hr:=hL.rr
 cases r with
 | none=>rw[show t.h=_ from hr];exact⟨rfl,rfl⟩
 | «at» n L=>
  have h2:=hr.2
  cases hx:L.ref with
  | none=>
   rw[hx] at h2;obtain⟨_,_,q,e,_⟩:=h2;rw[hp] at e;cases e
  | some x=>
   rw[hx] at h2;obtain⟨e1,e2,_,e4⟩:=h2;refine⟨x.1,e1,?_,?_⟩
   ·rw[hx,e2]
   ·rw[e2];exact e4
end
section
variable {w:World} {kc db St A C N nM:Nat} {s:Sto} {D:DataW Unit} {l:List UInt8} {wr:Int} {nw:Root}
structure Wrt(w:World)(kc db St A C N nM:Nat)(s:Sto)(D:DataW Unit)(l:List UInt8)(wr:Int)(nw:Root)(x:Nat)(t:Tx)(r:Root)(nr:Int):Prop where
 shop:Shop w kc db St A C N nM s D l wr nw
 live:LiveT shop.E w x A N t s r
 st:t.St=St
 nr:t.nr=nr
 wrt:t.wrt=true
theorem Wrt.turn{x:Nat}{t:Tx}{r:Root}{nr:Int}(h:Wrt w kc db St A C N nM s D l wr nw x t r nr){w':World}{t':Tx}{r':Root}(hl:LiveT h.shop.E w' x A N t' s r')(e1:t'.St=t.St)(e2:t'.nr=t.nr)(e3:t'.wrt=t.wrt)(hk:Kp (t.St::x::h.shop.E.S) w w'):Wrt w' kc db St A C N nM s D l wr nw x t' r' nr∧Kp [St,x,A] w w':=by
 have hK:Kp [St,x,A] w w':=hk.mono (by
  intro i hi _;rw[h.st] at hi;rcases List.mem_cons.1 hi with h|hi
  ·simp[h]
  ·rcases List.mem_cons.1 hi with h|h
   ·simp[h]
   ·have h':i∈[A]:=h;simp at h';simp[h'])
 have hS:=h.shop.quiet h.live.hx hK hl.dev (by have:=hl.hSt;rw[e1,h.st] at this;exact this);exact⟨⟨hS,hl,e1.trans h.st,e2.trans h.nr,e3.trans h.wrt⟩,hK⟩
end
theorem zZ1{n:Nat}{l:Lnk (Tn n)}{W:List (Lnk (Tn n))}(hW:Row0 n l.key W)(hM:Made n l 0 W)(hd:min n 1<cnt n l.sub):∃ m L,qE2 n W=.at m L∧L.ref=none:=by
 rcases hM with⟨a,rfl,e1,e2,e3⟩|⟨a,b,rfl,e1,e2,e3,e4,e5⟩
 ·have e:qE2 n [a]=qL7 n a:=rfl;rw[e]
  cases n with
  | zero=>
   have hc:0<(prs a.sub).length:=by
    have h1:0<(prs l.sub).length:=hd;have h2:(prs l.sub).length≤(prs a.sub).length+0:=e3;omega
   refine⟨0,a,?_,e2⟩;show (match prs a.sub with | []=>Root.none | _::_=>.at 0 a)=_
   cases hp:prs a.sub with
   | nil=>rw[hp] at hc;simp at hc
   | cons x r=>rfl
  | succ n=>
   have hc:(ζ l.sub).length≤(ζ a.sub).length+0:=e3;have hc2:1<(ζ l.sub).length:=by have h2:min (n+1) 1<(ζ l.sub).length:=hd;omega
   refine⟨n+1,a,?_,e2⟩;show (match ζ a.sub with | []=>Root.none | [m]=>.at n m | _::_::_=>.at (n+1) a)=_
   cases hp:ζ a.sub with
   | nil=>rw[hp,List.length_nil] at hc;omega
   | cons x r=>
    cases r with
    | nil=>rw[hp,List.length_cons,List.length_nil] at hc;omega
    | cons y r=>rfl
 ·have h2:meas qA0 [a,b]≤126:=by
   have:=(hW.all a (by simp)).2;have hb:=hW.all b (by simp);simp[meas,qA0];omega
  have e:qC0 n ⟨#[]⟩ [a,b]=[⟨⟨#[]⟩,none,[a,b]⟩]:=by
   unfold qC0 qB2;rw[if_pos h2];rfl
  refine⟨n+1,⟨⟨#[]⟩,none,[a,b]⟩,?_,rfl⟩;show (match qC0 n ⟨#[]⟩ [a,b] with | []=>Root.none | r::_=>qL7 (n+1) r)=_;rw[e];rfl
theorem xU7{r:Root}{p:KV}(h:RGood r)(hp:qC2 p):∃ m L,r.put p=.at m L∧L.ref=none:=by
 cases r with
 | none=>
  have hs:Sorted [p]:=by simp[Sorted]
  have hz:(⟨#[]⟩:ByteArray).size≤8:=by decide
  obtain⟨r1,r2,r3⟩:=qR2 (lo:=⟨#[]⟩) (ps:=[p]) hs (fun q hq=>by rw[List.mem_singleton.1 hq];exact⟨hp,qK3 _⟩) (by obtain⟨h1,h2,h3⟩:=hp;simp[meas,κ];omega) hz;have hM:Made 0 ⟨⟨#[]⟩,none,[p]⟩ 0 (qC8 ⟨#[]⟩ [p]):=by
   rcases r3 with⟨a,e1,e2,e3,e4⟩|⟨a,b,e1,e2,e3,e4,e5,e6⟩
   ·exact .inl ⟨a,e1,e2,e3,by rw[e4];exact Nat.le_refl _⟩
   ·exact .inr ⟨a,b,e1,e2,e3,e4,e5,e6⟩
  exact zZ1 (n:=0) (l:=(⟨⟨#[]⟩,none,[p]⟩:Lnk (List KV))) r1 hM (by show 0<1;omega)
 | «at» n l=>
  obtain⟨h1,h2,h3⟩:=h;obtain⟨w1,w2,w3⟩:=qS2 n l p h2 hp (by rw[h1];exact qK3 _) (by rw[h1];decide) (by omega);exact zZ1 w1 w3 h3
theorem xV4{E:Env}{w:World}{h:HL}{m:Nat}{L:Lnk (Tn m)}(hr:RR E w h (.at m L))(hn:L.ref=none):∃ q,h.p=some q:=by
 have h2:=hr.2;rw[hn] at h2;obtain⟨_,_,q,e,_⟩:=h2;exact⟨q,e⟩
theorem zN7(p:KV)(l:List KV):p∈ins p l:=by simp[ins]
theorem xB9(Z:Array Value)(n:Nat)(h:Z.size=n)(h0:∀ v∈Z.toList,v=.int .u8 0):Z=enc (List.replicate n 0):=by
 apply Array.ext';have e:Z.toList=List.replicate n (.int .u8 0):=List.eq_replicate_iff.2 ⟨by simpa using h,h0⟩;rw[e];simp[enc,qD9]
theorem xB7(m:Nat)(h:8≤m):Fresh (List.replicate (m*128) 0):=by
 have e0:min 128 (m*128-0*128)=128:=by omega
 have e1:min 128 (m*128-1*128)=128:=by omega
 exact⟨by rw[qB0,List.drop_replicate,List.take_replicate,e0];rfl,by rw[qB0,List.drop_replicate,List.take_replicate,e1];rfl⟩
theorem xC5{w:World}{kc db St V M A C N:Nat}{Nh:Int}{l:List UInt8}{calls wr:Int}(hA:w.heap[A]?=some (φ N C (.slice none 0 0) calls wr))(hV:w.heap[V]?=some (qB6 A N))(hM:w.heap[M]?=some (.map #[] 0))(hSt:w.heap[St]?=some (ρ 0 (qF5 V M Nh)))(hDb:w.heap[db]?=some (.cells #[.pointer (some ⟨St,0,none⟩)] 95))(hC:w.heap[C]?=some (.cells (enc l) 87))(h8:8≤N)(h4:N≤400)(hl:l.length=N*128)(hk:kc≤900)(hN:0≤Nh):
  Shop w kc db St A C N 0 (qF5 V M Nh) (.map []) l wr .none:=
 { hDb:=hDb,hSt:=hSt,po:=rfl,hM:=⟨#[],0,hM,⟨by simp,MapKept.stamped_empty 0,by simp⟩,Nat.le_refl _,rfl⟩,m4:=by simp[Maps.size],n1:=by omega,dev:=⟨hV,⟨_,hA⟩,hC⟩,N8:=h8,N4:=h4,len:=hl,lie:=⟨rfl,rfl⟩,good:=trivial,sz:=by simp[Root.cont],kc1:=hk,bl0:=Int.le_refl _,bl1:=by simp[Root.cont,qF5],sN0:=hN,bg0:=Int.le_refl _,kb:=fun k hk=>by simp[Maps.has] at hk,rd:=fun x h hk=>by simp[Maps.has] at hk }
theorem zF1(c:Int)(h0:0≤c)(h1:c≤1000000000):nx c=c+1:=by unfold nx;simp only[wrap64];omega
theorem zR4(c:Int)(h0:0≤c):∀ n:Nat,c+n≤1000000000→nk c n=c+n
 | 0,_=>by simp[nk]
 | n+1,h=>by
  have ih:=zR4 c h0 n (by omega);show nx (nk c n)=_;rw[ih,zF1 _ (by omega) (by omega)];omega
theorem zH3(c:Int)(n:Nat)(h0:0≤c)(h1:c+n≤900000000):nx (nk (nx c) n)=c+n+2:=by
 rw[zF1 c h0 (by omega),zR4 _ (by omega) n (by omega),zF1 _ (by omega) (by omega)];omega
def qB8(i:Int):ByteArray:=([107,101,121,48,48,48,97+i % 26,97+i / 26]:List Int).foldl (fun r n=>r.push (UInt8.ofNat n.toNat)) ByteArray.empty
theorem qU5(i:Int):(qB8 i).size=8:=by simp[qB8,ByteArray.size_push]
section
variable {w:World} {kc db St A C N nM:Nat} {s:Sto} {D:DataW Unit} {l:List UInt8} {wr:Int} {nw:Root}
theorem Shop.commitsW(hS:Shop w kc db St A C N nM s D l wr nw){x:Nat}{t:Tx}{r:Root}(hL:LiveT hS.E w x A N t s r)(hst:t.St=St)(hwr:t.wrt=true)(h0:0≤t.nr)(h1:t.nr≤1000000000)(hrk:r.cont.length≤kc)(hN9:s.N≤999999999)
  (hfit:qD7 r+r.news+Maps.size D*kc+qD7 nw+2≤N):
  Calls prog 14 #[.pointer (some ⟨x,0,none⟩)] w fun e w'=>e=.returned .nilIface∧∃ s' l' wr' nt,Shop w' kc db St A C N nM s' (D.del (qA5 t.nr)) l' wr' nt∧nt.cont=r.cont∧(wr'=nx (nk (nx wr) r.news)∨wr'=wr∧nw.cont=r.cont)∧s'.N≤s.N+2∧s'.bg=s.bg∧s'.wr=(s.left t.nr).wr∧s'.V=s.V∧s'.M=s.M∧w'.heap[x]?=some (qA4 t.ended)∧Kp [St,x,s.M,A,C] w w'∧∀ y rb rs r0,Maps.has (D.del (qA5 t.nr)) (qA5 y)=true→(∀ zd,(D.del (qA5 t.nr)).atKey (qA5 y) zd=qF6 ⟨⟨#[]⟩,rb,rs,none⟩)→Lie N l rb rs r0→Lie N l' rb rs r0:=by
 have htd:=hS.hM.tidy qN3;have hsd:=Maps.size_del (k:=qA5 t.nr) htd;have hle:Maps.size (D.del (qA5 t.nr))≤Maps.size D:=by omega
 have hdl:∀ k,Maps.has (D.del (qA5 t.nr)) k=true→Maps.has D k=true∧∀ zd,(D.del (qA5 t.nr)).atKey k zd=D.atKey k zd:=fun k hk=>by
  by_cases e:k=qA5 t.nr
  ·rw[e,Maps.has_del_same] at hk;cases hk
  ·rw[Maps.has_del_other e] at hk;exact⟨hk,fun zd=>Maps.atKey_del_other e zd⟩
 have hgo:(∀ W:World,Sem.run prog (Op.equalIn 10000 83 (τ s.V t.h) (τ s.V ⟨⟨#[]⟩,s.rb,s.rs,none⟩)) W=.ok false W)→Calls prog 14 #[.pointer (some ⟨x,0,none⟩)] w fun e w'=>e=.returned .nilIface∧∃ s' l' wr' nt,Shop w' kc db St A C N nM s' (D.del (qA5 t.nr)) l' wr' nt∧nt.cont=r.cont∧(wr'=nx (nk (nx wr) r.news)∨wr'=wr∧nw.cont=r.cont)∧s'.N≤s.N+2∧s'.bg=s.bg∧s'.wr=(s.left t.nr).wr∧s'.V=s.V∧s'.M=s.M∧w'.heap[x]?=some (qA4 t.ended)∧Kp [St,x,s.M,A,C] w w'∧∀ y rb rs r0,Maps.has (D.del (qA5 t.nr)) (qA5 y)=true→(∀ zd,(D.del (qA5 t.nr)).atKey (qA5 y) zd=qF6 ⟨⟨#[]⟩,rb,rs,none⟩)→Lie N l rb rs r0→Lie N l' rb rs r0:=fun heq=>by
  refine (zX7 hS x t r hL hst hwr h0 h1 heq hrk hN9 hdl (by have:=hS.m4;omega) (by have:=Nat.mul_le_mul_right kc hle;omega)).mono ?_;rintro e w' ⟨e0,s',l',nt,c1,c2,c3,c4⟩;exact⟨e0,s',l',_,nt,c1,c2,.inl rfl,by omega,c4⟩
 cases hp:t.h.p with
 | some q=>exact hgo (fun W=>zY7 s.V q t.h s.rb s.rs hp hL.key W)
 | none=>
  by_cases he:t.h.b=s.rb∧t.h.s=s.rs
  ·have heq:∀ W:World,Sem.run prog (Op.equalIn 10000 83 (τ s.V t.h) (τ s.V ⟨⟨#[]⟩,s.rb,s.rs,none⟩)) W=.ok true W:=fun W=>by rw[zG8 s.V t.h s.rb s.rs hp hL.key W];simp[he]
   have hlie:Lie N l s.rb s.rs r:=by
    have h:=LiveT.lie (E':=hS.E) hL hp;rw[he.1,he.2] at h;exact h
   subst hst;obtain⟨cA,hA⟩:=hS.hA;have hMS:s.M≠t.St:=(qG0 hS.hSt hS.hM).symm;have hxM:x≠s.M:=qG0 hL.hx hS.hM;have hoff:OffD w [t.St,x,s.M]:=(OffD.one hL.hSt (by decide)).cons ((OffD.one hL.hx (by decide)).cons (fun k hk c ty fr e=>by rw[List.mem_singleton.1 hk] at e;exact absurd rfl (qG0 e hS.hM)));obtain⟨n1,n2,n3,n4⟩:=hS.neDb;refine (zI1 x nM s.V t s D [] (fun W w1=>Kp [] W w1) w hL.hx hL.over hS.hSt hS.po hS.hM h0 h1 hMS hL.xS hxM hS.hM.lt hL.on hwr (by simp) ?_).mono ?_
   ·intro W hK hx' hS' hM';refine (xA4 t.St (s.left t.nr) t.h W hS' heq).mono ?_;rintro e w1 ⟨rfl,hK1⟩;exact⟨rfl,⟨_,hK1.hp hS'⟩,hK1,hK1.mono (by simp)⟩
   ·rintro e w' ⟨rfl,hKw,W,w1,B,s',hK,hx',hS',hM',hR,_,hs1,hs2,hB0,hB1,hKB⟩;have hse:s'=s.left t.nr:=by
     rw[hR.hp hS'] at hs1;exact (zH9 (Option.some.inj hs1)).symm
    rw[hse] at hs2 hs1;have hxs:=η hL.hx;have hMs:=hS.hM.lt;refine⟨rfl,s.left t.nr,l,wr,nw,?_,(Lie.one hS.N1 hS.lie hlie).1,.inr ⟨rfl,(Lie.one hS.N1 hS.lie hlie).1⟩,by show s.N≤s.N+2;omega,rfl,rfl,rfl,rfl,hKB.heap (hR.hp hx') (by simp[hL.xS];omega),hKw.mono (by intro i hi _;simp at hi ⊢;omega),fun _ _ _ _ _ _ h=>h⟩;refine hS.turn hKw (by simp[n1,n4];exact qD5 hS.hDb hL.hx (by decide)) (qK6 (qK6 (qK6 hS.dev hK hoff) hR (by intro k hk;cases hk)) hKB (qR6 hs1 hB1)) ⟨rfl,rfl,rfl,rfl,rfl,rfl⟩ hs2 ((hM'.kp hR (by simp)).kp hKB (by simp[hMS];omega)) (by have:=hS.m4;omega) hS.n1 hS.bg0 (fun k hk=>hS.kb k (hdl k hk).1) (fun y h g1 g2 g3=>?_);obtain⟨f1,f2⟩:=hdl _ g1;exact hS.rd y h f1 (fun zd=>(f2 zd).symm.trans (g2 zd)) g3
  ·exact hgo (fun W=>by rw[zG8 s.V t.h s.rb s.rs hp hL.key W];simp[he])
end
def emp:DataW Unit:=.map []
theorem qU7(k:Lit):emp.del k=emp:=by simp[emp,DataW.del]
section
variable {w:World} {kc db St A C N nM:Nat} {s:Sto} {D:DataW Unit} {l:List UInt8} {wr:Int} {nw:Root}
theorem Wrt.put{x:Nat}{t:Tx}{r:Root}{nr:Int}(h:Wrt w kc db St A C N nM s D l wr nw x t r nr){w':World}{p:KV}{h':HL}(hF:FineT h.shop.E w w' x t s (r.put p) h')(hp:qC2 p)(hc:t.ch≤10000000)(hr:r.cont.length≤10000):Wrt w' kc db St A C N nM s D l wr nw x { t with h:=h',ch:=t.ch+1 } (r.put p) nr∧Kp [St,x,A] w w'∧(r.put p).cont=ins p r.cont∧∃ q,h'.p=some q:=by
 obtain⟨g1,g2⟩:=qL3 (p:=p) h.live.good hp;have hl:(r.put p).cont.length≤r.cont.length+1:=by rw[g2];exact qJ1 _ _
 obtain⟨m,L,e1,e2⟩:=xU7 (p:=p) h.live.good hp;have hq:∃ q,h'.p=some q:=by
  have hrr:=hF.rr;rw[e1] at hrr;exact xV4 hrr e2
 obtain⟨a1,a2⟩:=h.turn (t':={ t with h:=h',ch:=t.ch+1 }) (r':=r.put p) (h.live.next hF g1 (by omega) (by omega)) rfl rfl rfl hF.kp;exact⟨a1,a2,g2,hq⟩
end
section
variable {w:World} {kc db St A C N nM:Nat} {s:Sto} {D:DataW Unit} {l:List UInt8} {wr:Int} {nw:Root}
theorem Shop.more(hS:Shop w kc db St A C N nM s D l wr nw){w':World}(hK:Kp [] w w'):Shop w' kc db St A C N nM s D l wr nw:=
 hS.turn hK (by simp) (qK6 hS.dev hK (by intro k hk;cases hk)) ⟨rfl,rfl,rfl,rfl,rfl,rfl⟩ (hK.hp hS.hSt) (hS.hM.kp hK (by simp)) hS.m4 hS.n1 hS.bg0 hS.kb hS.rd
end
theorem xV7{w:World}{g:Nat}{a b:Int}{tg:TypeId}(h:w.heap[g]?=some (.cells #[.int .u8 107,.int .u8 101,.int .u8 121,.int .u8 48,.int .u8 48,.int .u8 48,.int .u8 a,.int .u8 b] tg)):
  Sem.run prog (convert 90 9 (.slice (some ⟨g,0,none⟩) 8 8)) w=.ok (.string (([107,101,121,48,48,48,a,b]:List Int).foldl (fun r n=>r.push (UInt8.ofNat n.toNat)) ByteArray.empty)) w:=by
 rw[run_convert_bytes_string w _ _ _ _ _ _ underlying90 underlying5 underlying9];have hload:=qU0 (P:=prog) (o:=0) (n:=8) h (by simp);have e:ι #[.int .u8 107,.int .u8 101,.int .u8 121,.int .u8 48,.int .u8 48,.int .u8 48,.int .u8 a,.int .u8 b] 0 8=(([107,101,121,48,48,48,a,b]:List Int).map (.int .u8)).toArray:=by rfl
 rw[e] at hload;exact run_bytesToString w _ _ _ _ hload
theorem zI3(i:Int)(h0:0≤i)(h1:i<156)(w:World):Calls prog 26 #[.int .i64 i] w fun e w'=>e=.returned (.string (qB8 i))∧Kp [] w w':=by
 have hs:=xV7 (w:=w.alloc (.cells #[.int .u8 107,.int .u8 101,.int .u8 121,.int .u8 48,.int .u8 48,.int .u8 48,.int .u8 (97+i % 26),.int .u8 (97+i / 26)] 5)) (g:=w.heap.size) (a:=97+i % 26) (b:=97+i / 26) (tg:=5) (μ w _);have e3:i.tmod 26=i % 26:=Int.tmod_eq_emod_of_nonneg (by omega);have e4:i.tdiv 26=i / 26:=Int.tdiv_eq_ediv_of_nonneg (by omega);have w1:IntKind.u8.wrap (97+i % 26)=97+i % 26:=by rw[IntKind.wrap_u8];omega
 have w2:IntKind.u8.wrap (97+i / 26)=97+i / 26:=by rw[IntKind.wrap_u8];omega
 go_enter func26,ntmps26;go_wp2;go_ret;exact⟨rfl,(Kp.refl _ _).alloc _⟩
def qH1:ByteArray:=⟨#[48,49,50,51,52,53,54,55,56,57,97,98]⟩
theorem okWide(i:Int)(v:ByteArray)(h:v.size≤12):qC2 ⟨qB8 i,v⟩:=⟨by show 1≤(qB8 i).size;rw[qU5];omega,by show (qB8 i).size≤8;rw[qU5];omega,h⟩
section
variable {w:World} {kc db St A C N nM:Nat} {s:Sto} {D:DataW Unit} {l:List UInt8} {wr:Int} {nw:Root}
theorem Wrt.del{x:Nat}{t:Tx}{r:Root}{nr:Int}(h:Wrt w kc db St A C N nM s D l wr nw x t r nr){w':World}{k:ByteArray}{h':HL}(hF:FineT h.shop.E w w' x t s (r.del k) h')(hc:t.ch≤10000000)(hr:r.cont.length≤10000):Wrt w' kc db St A C N nM s D l wr nw x { t with h:=h',ch:=t.ch+1 } (r.del k) nr∧Kp [St,x,A] w w'∧(r.del k).cont=YtdohpenfkdckiabGreatDoor.del k r.cont:=by
 obtain⟨g1,g2⟩:=xA5 (k:=k) h.live.good;have hl:(r.del k).cont.length≤r.cont.length:=by rw[g2];exact zH4 _ _
 obtain⟨a1,a2⟩:=h.turn (t':={ t with h:=h',ch:=t.ch+1 }) (r':=r.del k) (h.live.next hF g1 (by omega) (by omega)) rfl rfl rfl hF.kp;exact⟨a1,a2,g2⟩
theorem Wrt.more{x:Nat}{t:Tx}{r:Root}{nr:Int}(h:Wrt w kc db St A C N nM s D l wr nw x t r nr){w':World}(hK:Kp [] w w'):Wrt w' kc db St A C N nM s D l wr nw x t r nr:=
 ⟨h.shop.more hK,h.live.more hK,h.st,h.nr,h.wrt⟩
end
theorem xA8(N kc k:Nat)(hk1:1≤k)(hk2:k≤120)(hN:3*k+12≤N)(h400:N≤400)(hkc:k≤kc)(hk9:kc≤900)(w:World):
  Calls prog 24 #[.int .i64 N,.int .i64 k] w fun e w'=>∃ db St A C s l wr nw,e=.returned (.tuple #[.pointer (some ⟨A,0,none⟩),.pointer (some ⟨db,0,none⟩)])∧Shop w' kc db St A C N 0 s emp l wr nw∧s.wr=0∧s.bg=1∧s.N≤10∧0≤wr∧wr≤1000∧nw.cont.length≤k∧(∀ j:Nat,j<k→(⟨qB8 j,qH1⟩:KV)∈nw.cont)∧(∀ q∈nw.cont,∃ j:Nat,j<k∧q.k=qB8 j)∧w.heap.size≤A∧w.heap.size≤C∧w.heap.size≤St∧w.heap.size≤db∧w.heap.size≤s.M∧Kp [] w w':=by
 go_enter func24,ntmps24;go_wp2_with fail;refine (zR2 N w (by omega) (N:Int) (by omega) (by omega)).mono ?_;rintro e w1 ⟨rfl,Z,hZ,hZ0,hw1⟩;rw[xB9 Z _ hZ hZ0] at hw1;have hC1:w1.heap[w.heap.size]?=some (.cells (enc (List.replicate (N*128) 0)) 87):=by rw[hw1];exact θ _ (μ _ _)
 have hA1:w1.heap[w.heap.size+1]?=some (φ N w.heap.size (.slice none 0 0) 0 0):=by
  rw[hw1];have e:=μ (w.alloc (.cells (enc (List.replicate (N*128) 0)) 87)) (φ N w.heap.size (.slice none 0 0) 0 0);simpa using e
 have hK1:Kp [] w w1:=by rw[hw1];exact ((Kp.refl _ _).alloc _).alloc _
 clear hw1 hZ hZ0 Z;have HF:Hid (Calls prog 35 #[.pointer (some ⟨w.heap.size+1,0,none⟩)] w1 fun e w'=>e=.returned .nilIface∧w'.heap[w.heap.size+1]?=some (φ N w.heap.size (.slice none 0 0) (0+6) (0+2))∧w'.heap[w.heap.size]?=some (.cells (enc (qK5 (List.replicate (N*128) 0) 0)) 87)∧Kp [w.heap.size+1,w.heap.size] w1 w'):=
  xB2 (w.heap.size+1) N w.heap.size 0 0 (List.replicate (N*128) 0) 0 w1 hA1 (by omega) (by omega) (by omega) (by omega) (by omega) h400 hC1 (by simp) (by omega) (Or.inl ⟨xB7 N (by omega),rfl⟩) (by omega) (by omega) (by omega)
 have HK1:=zh hK1;clear hC1 hA1 hK1;go_wp2_with fail;refine (show Calls _ _ _ _ _ from HF.out).mono ?_;rintro e w2 ⟨rfl,hA2,hC2,hK2⟩;have hfl:(qK5 (List.replicate (N*128) 0) 0).length=N*128:=by rw[xB0 _ _ (by simp;omega)];simp
 have hfm:=xB1 (List.replicate (N*128) 0) 0 (by simp;omega) (by omega) (by omega) (by omega);obtain⟨l,hl⟩:∃ l,l=qK5 (List.replicate (N*128) 0) 0:=⟨_,rfl⟩;rw[←hl] at hC2 hfl hfm;have HK2:Hid (Kp [] w w2):=HK1.out.trans hK2 (by intro i hi hlt;simp at hi;omega);have HO:Hid (Calls prog 16 #[.pointer (some ⟨w.heap.size+1,0,none⟩)] w2 fun e w'=>∃ V M St Db,e=.returned (.tuple #[.pointer (some ⟨Db,0,none⟩),.nilIface])∧w2.heap.size≤V∧w2.heap.size≤M∧w2.heap.size≤St∧w2.heap.size≤Db∧
   w'.heap[w.heap.size+1]?=some (φ N w.heap.size (.slice none 0 0) (0+6+3) (0+2))∧w'.heap[V]?=some (qB6 (w.heap.size+1) N)∧w'.heap[M]?=some (.map #[] 0)∧w'.heap[St]?=some (ρ 0 (qF5 V M (0+2)))∧w'.heap[Db]?=some (.cells #[.pointer (some ⟨St,0,none⟩)] 95)∧Kp [w.heap.size+1] w2 w'):=
  xC2 (w.heap.size+1) N w.heap.size (0+6) (0+2) l (0+2) w2 hA2 (by omega) (by omega) (by omega) h400 hC2 hfl (by omega) hfm
 have HC2:Hid (w2.heap[w.heap.size]?=some (.cells (enc l) 87)∧l.length=N*128):=⟨hC2,hfl⟩;clear hA2 hC2 hK2 hfl hfm hl HF;go_wp2_with fail;refine (show Calls _ _ _ _ _ from HO.out).mono ?_;rintro e w3 ⟨V,M,St,db,rfl,hV3,hM3,hS3,hD3,hA3,hVo,hMo,hSo,hDo,hK3⟩;have hs2:=HK2.out.size;have hshop:Shop w3 kc db St (w.heap.size+1) w.heap.size N 0 (qF5 V M (0+2)) emp l (0+2) .none:=xC5 hA3 hVo hMo hSo hDo (hK3.hp HC2.out.1) (by omega) h400 HC2.out.2 hk9 (by omega);have HB:Hid (Calls prog 22 #[.pointer (some ⟨db,0,none⟩),.bool true] w3 fun e w'=>∃ x t,e=.returned (.tuple #[.pointer (some ⟨x,0,none⟩),.nilIface])∧w3.heap.size≤x∧t.St=St∧t.nr=(0:Int)+1∧t.wrt=true∧t.ch=0∧Kp [St] w3 w'∧∃ hS':Shop w' kc db St (w.heap.size+1) w.heap.size N 0 (qF5 V M (0+2)).wrote emp l (0+2) .none,LiveT hS'.E w' x (w.heap.size+1) N t (qF5 V M (0+2)).wrote .none):=hshop.beginW rfl (by show (0:Int)≤_;omega);have HK3:Hid (Kp [] w w3):=HK2.out.trans hK3 (by intro i hi hlt;simp at hi;omega);clear hA3 hVo hMo hSo hDo hK3 hshop HO HC2;go_wp2_with fail;refine (show Calls _ _ _ _ _ from HB.out).mono ?_;rintro e w4 ⟨x,t,rfl,hx4,ht1,ht2,ht3,ht4,hK4,hS4,hL4⟩;have hs3:=HK3.out.size;have HW4:Hid (Wrt w4 kc db St (w.heap.size+1) w.heap.size N 0 (qF5 V M (0+2)).wrote emp l (0+2) .none x t .none (0+1)):=⟨hS4,hL4,ht1,ht2,ht3⟩;have HK4:Hid (Kp [] w w4):=HK3.out.trans hK4 (by intro i hi hlt;simp at hi;omega);clear hK4 hS4 hL4 ht1 ht2 ht3 HB;go_wp2_with fail
 go_loopw [7,12] (fun er i wr=>∃ (j:Nat) (t':Tx) (r:Root),j≤k∧i=.int .i64 j∧Hid (Wrt wr kc db St (w.heap.size+1) w.heap.size N 0 (qF5 V M (0+2)).wrote emp l (0+2) .none x t' r (0+1))∧Hid (r.cont.length≤j∧t'.ch≤(j:Int)∧(∀ m:Nat,m<j→(⟨qB8 m,qH1⟩:KV)∈r.cont)∧∀ q∈r.cont,∃ m:Nat,m<k∧q.k=qB8 m)∧Hid (Kp [] w wr)) (fun _ i _=>k-(intOf i).toNat)
 case atStart=>exact⟨0,t,.none,Nat.zero_le _,rfl,HW4,⟨Nat.le_refl _,by omega,fun m hm=>absurd hm (Nat.not_lt_zero _),fun q hq=>by cases hq⟩,HK4⟩
 case round=>
  obtain⟨j,t',r,hj,rfl,HW,HR,HK⟩:=hrel;by_cases hlt:j<k
  ·have hjb:(j:Int)<(k:Int):=by omega
   go_wp2_with fail;refine (zI3 j (by omega) (by omega) wr).mono ?_;rintro e w5 ⟨rfl,hK5⟩;have hW5:=HW.out.more hK5;have hp:qC2 ⟨qB8 j,qH1⟩:=okWide j qH1 (by decide);have HP:Hid (Calls prog 28 #[.pointer (some ⟨x,0,none⟩),.string (qB8 j),.string ⟨#[48,49,50,51,52,53,54,55,56,57,97,98]⟩] w5 fun e w'=>e=.returned .nilIface∧∃ h',FineT hW5.shop.E w5 w' x t' (qF5 V M (0+2)).wrote (r.put ⟨qB8 j,qH1⟩) h'):=by
    refine zA4 hW5.shop.E x _ N t' _ r ⟨qB8 j,qH1⟩ w5 hW5.live hW5.wrt hp ?_;obtain⟨g1,g2⟩:=qL3 (p:=⟨qB8 j,qH1⟩) hW5.live.good hp;have h1:=qM1 g1;have h2:=qJ1 ⟨qB8 j,qH1⟩ r.cont;have h3:=HR.out.1;rw[g2] at h1;show _≤(N:Int)-2-0;omega
   have HW5:=zh hW5;have HK5:Hid (Kp [] w w5):=HK.out.tr hK5;have hsr:=HK.out.size;clear hK5;go_wp2_with fail;refine (show Calls _ _ _ _ _ from HP.out).mono ?_;rintro e w6 ⟨rfl,h',hF⟩;obtain⟨hW6,hK6,hcn,q,hq⟩:=hW5.put hF hp (by have:=HR.out.2.1;omega) (by have:=HR.out.1;omega);have HE:=zh hW6;have HE2:Hid ((r.put ⟨qB8 j,qH1⟩).cont.length≤j+1∧t'.ch+1≤((j+1:Nat):Int)∧(∀ m:Nat,m<j+1→(⟨qB8 m,qH1⟩:KV)∈(r.put ⟨qB8 j,qH1⟩).cont)∧∀ q∈(r.put ⟨qB8 j,qH1⟩).cont,∃ m:Nat,m<k∧q.k=qB8 m):=by
    obtain⟨r1,r2,r3,r4⟩:=HR.out;refine⟨?_,by omega,fun m hm=>?_,fun q hq=>?_⟩
    ·rw[hcn];have:=qJ1 ⟨qB8 j,qH1⟩ r.cont;omega
    ·rw[hcn];by_cases e:qB8 m=qB8 j
     ·rw[e];exact zN7 _ _
     ·by_cases e2:m=j
      ·rw[e2] at e;exact absurd rfl e
      ·exact xB5 (r3 m (by omega)) e
    ·rw[hcn] at hq;rcases qS6 hq with rfl|hq
     ·exact⟨j,hlt,rfl⟩
     ·exact r4 q hq
   have HE3:Hid (Kp [] w w6):=HK5.out.trans hK6 (by intro i hi hlt;simp at hi;omega);clear hF hW6 hK6 hcn hq hW5 HP HW HR HK;go_wp2;exact⟨⟨j+1,_,_,by omega,by go_num,HE,HE2,HE3⟩,by simp[intOf];omega⟩
  ·have hjb:¬(j:Int)<(k:Int):=by omega
   have hjk:j=k:=by omega
   subst hjk;have HC:Hid (Calls prog 14 #[.pointer (some ⟨x,0,none⟩)] wr fun e w'=>e=.returned .nilIface∧∃ s' l' wr' nt,Shop w' kc db St (w.heap.size+1) w.heap.size N 0 s' (emp.del (qA5 t'.nr)) l' wr' nt∧nt.cont=r.cont∧(wr'=nx (nk (nx (0+2)) r.news)∨wr'=0+2∧Root.none.cont=r.cont)∧s'.N≤(0+2)+2∧s'.bg=0+1∧s'.wr=((qF5 V M (0+2)).wrote.left t'.nr).wr∧s'.V=V∧s'.M=M∧Kp [St,x,M,w.heap.size+1,w.heap.size] wr w'):=by
    have h1:=qM1 HW.out.live.good;have h2:=qN5 HW.out.live.good;have h3:=HR.out.1;refine (HW.out.shop.commitsW HW.out.live HW.out.st HW.out.wrt (by rw[HW.out.nr];omega) (by rw[HW.out.nr];omega) (by omega) (by show (0+2:Int)≤_;omega) (by show _+_+0*kc+0+2≤N;omega)).mono ?_;rintro e w' ⟨c0,s',l',wr',nt,c1,c2,c3,c4,c5,c6,c7,c8,_,c9,_⟩;exact⟨c0,s',l',wr',nt,c1,c2,c3,c4,c5,c6,c7,c8,c9⟩
   have HNR:Hid (t'.nr=0+1∧r.news≤200):=⟨HW.out.nr,by have h1:=qM1 HW.out.live.good;have h3:=HR.out.1;omega⟩;have hsr:=HK.out.size;clear HW;go_wp2_with fail;refine (show Calls _ _ _ _ _ from HC.out).mono ?_;rintro e w7 ⟨rfl,s',l',wr',nt,hS7,e1,e2,e3,e4,e5,e6,e7,hK7⟩;rw[qU7] at hS7;have hw7:s'.wr=0:=by rw[e5];show (if t'.nr=0+1 then 0 else _)=(0:Int);rw[if_pos HNR.out.1]
   have hwr:0≤wr'∧wr'≤1000:=by
    have h:=HNR.out.2;rcases e2 with e2|⟨e2,_⟩
    ·rw[e2,zH3 _ _ (by omega) (by omega)];omega
    ·omega
   have HE:Hid (Shop w7 kc db St (w.heap.size+1) w.heap.size N 0 s' emp l' wr' nt∧s'.wr=0∧s'.bg=1∧s'.N≤10∧0≤wr'∧wr'≤1000∧nt.cont=r.cont∧s'.M=M∧Kp [] w w7):=⟨hS7,hw7,by omega,by omega,hwr.1,hwr.2,e1,e7,HK.out.trans hK7 (by intro i hi hlt;simp at hi;omega)⟩;clear hS7 e1 e2 e3 e4 e5 e6 e7 hK7 HC hw7 hwr HNR;go_wp2
   go_ret2
   obtain⟨f1,f2,f3,f4,f5,f6,f7,f8,f9⟩:=HE.out;obtain⟨r1,r2,r3,r4⟩:=HR.out;exact⟨db,St,w.heap.size+1,w.heap.size,s',l',wr',nt,rfl,f1,f2,f3,f4,f5,f6,by rw[f7];exact r1,by rw[f7];exact r3,by rw[f7];exact r4,by omega,by omega,by omega,by omega,by rw[f8];omega,f9⟩
end Go.Proofs.YtdohpenfkdckiabGreatDoor
