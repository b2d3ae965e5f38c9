import Derived.Test.YtdohpenfkdckiaaGreatDoorD15
import Derived.Test.YtdohpenfkdckiaaGreatDoorD16
set_option linter.all false
set_option maxRecDepth 100000
set_option maxHeartbeats 20000000
namespace Go.Proofs.YtdohpenfkdckiaaGreatDoor
open Go.Proofs.Tryz
open Go.RowKit
theorem xE7(Tc Kc Wc x f:Nat)(t:Tx)(key:ByteArray)(first cap:Array Value)(R:HL→World→Prop)(w:World)(hTc:w.heap[Tc]?=some (.cells #[.pointer (some ⟨x,0,none⟩)] 32))(hKc:w.heap[Kc]?=some (.cells #[.string key] 9))(hWc:w.heap[Wc]?=some (.cells #[.func (.func f) first cap] 1))(hx:w.heap[x]?=some (qA9 t))(hwr:t.wrt=true)(hk1:1≤key.size)(hk8:key.size≤8)(h0:0≤t.ch)(h1:t.ch≤1000000000)
  (hcf:∀ W:World,Sem.run prog (callFunc f (first++cap)) W=.ok (.enter f (first++cap)) W)
  (hw:Calls prog f (first++cap) w fun e w'=>e=qD8 none∧∃ h',R h' w'∧w'.heap[x]?=some (qA9 { t with h:=h' })∧w'.heap[Tc]?=some (.cells #[.pointer (some ⟨x,0,none⟩)] 32)):
  Calls prog 100 #[.pointer (some ⟨Tc,0,none⟩),.pointer (some ⟨Kc,0,none⟩),.pointer (some ⟨Wc,0,none⟩)] w fun e w'=>e=qD8 none∧∃ w1 h',R h' w1∧w1.heap[x]?=some (qA9 { t with h:=h' })∧w'.heap[x]?=some (qA9 { t with h:=h',ch:=t.ch+1 })∧Kp [x] w1 w':=by
 have hs:=ζ hTc;have hxs:=ζ hx;have hks:=ζ hKc;have hws:=ζ hWc;have c0:=ξ hTc 0;simp only[zG,zH,zI] at c0;have k0:=ξ hKc 0;simp only[zG,zH,zI] at k0;have f0:=ξ hWc 0;simp only[zG,zH,zI] at f0;have x2:=ξ hx 2;simp only[qA9,zG,zH,zI] at x2;rw[hwr] at x2;have HW:=zh hw;clear hw;go_enter func100,ntmps100;go_wp2_with fail;refine (xE9 key _ hk1 hk8).mono ?_;rintro e w1 ⟨rfl,rfl⟩;simp only[qD8];go_wp2_with fail;refine (show Calls _ _ _ _ _ from HW.out).mono ?_;rintro e w1 ⟨rfl,h',hR,hx1,hTc1⟩;have HR:=zh hR;clear hR;clear c0 k0 f0 x2;have hx1s:=ζ hx1;have hTc1s:=ζ hTc1;have HX:=zh hx1;have c0:=ξ hTc1 0;simp only[zG,zH,zI] at c0;have x9:=ξ hx1 9;simp only[qA9,zG,zH,zI] at x9;have fx9:=ι hx1 9;clear hx1 hTc1;simp only[qD8];go_wp2
 go_end0
 exact⟨rfl,w1,h',HR.out,HX.out,χ HX.out 9 _,(Kp.refl _ _).sc _⟩
theorem xE1(args:Array Value)(W:World):Sem.run prog (callFunc 100 args) W=.ok (.enter 100 args) W:=by
 simp[go_sem,func100]
theorem xE8(k:Option Int)(hk8:k≠some 8)(x f:Nat)(t:Tx)(s:Sto)(key call:ByteArray)(first cap:Array Value)(X:List Nat)(Q:World→World→Prop)(w:World)(hx:w.heap[x]?=some (qA9 t))(ho:t.over=false)(hSt:w.heap[t.St]?=some (ρ 0 s))(hpo:s.po=false)(hxS:x≠t.St)(hX:∀ i,i∈X→i<w.heap.size)
  (hw:∀ (W:World) (Tc Kc Wc:Nat),Kp [t.St] w W→w.heap.size≤Tc→w.heap.size≤Kc→w.heap.size≤Wc→W.heap[t.St]?=some (ρ 1 s)→W.heap[Tc]?=some (.cells #[.pointer (some ⟨x,0,none⟩)] 32)→W.heap[Kc]?=some (.cells #[.string key] 9)→W.heap[Wc]?=some (.cells #[.func (.func f) first cap] 1)→
   Calls prog 100 #[.pointer (some ⟨Tc,0,none⟩),.pointer (some ⟨Kc,0,none⟩),.pointer (some ⟨Wc,0,none⟩)] W fun e w1=>e=qD8 k∧Q W w1∧Kp (t.St::X) W w1∧w1.heap[t.St]?=some (ρ 1 s)):
  Calls prog 61 #[.pointer (some ⟨x,0,none⟩),.string call,.string key,.func (.func f) first cap] w fun e w'=>∃ v,e=.returned v∧qR6 w' v k∧w'.heap[t.St]?=some (ρ 0 s)∧Kp (t.St::X) w w'∧∃ W w1 B,Q W w1∧Kp [t.St] w W∧w.heap.size≤B∧B<W.heap.size∧w1.heap[B]?=some (.cells #[.nilIface] 38)∧Kp [t.St,B] w1 w':=by
 have hmf:=zM;have HW:Hid (∀ (W:World) (Tc Kc Wc:Nat),Kp [t.St] w W→w.heap.size≤Tc→w.heap.size≤Kc→w.heap.size≤Wc→W.heap[t.St]?=some (ρ 1 s)→W.heap[Tc]?=some (.cells #[.pointer (some ⟨x,0,none⟩)] 32)→W.heap[Kc]?=some (.cells #[.string key] 9)→W.heap[Wc]?=some (.cells #[.func (.func f) first cap] 1)→
   Calls prog 100 #[.pointer (some ⟨Tc,0,none⟩),.pointer (some ⟨Kc,0,none⟩),.pointer (some ⟨Wc,0,none⟩)] W fun e w1=>e=qD8 k∧Q W w1∧Kp (t.St::X) W w1∧w1.heap[t.St]?=some (ρ 1 s)):=hw
 have HX:=zh hX;have HK8:=zh hk8;have HXS:=zh hxS;clear hw hX hk8 hxS;have hxs:=ζ hx;have hSs:=ζ hSt;go_enter func61,ntmps61;go_wp2_with fail;obtain⟨w0,hw0,hT0,hK0,hF0,hKp0,hs0⟩:∃ w0,w0=((w.alloc (.cells #[.pointer (some ⟨x,0,none⟩)] 32)).alloc (.cells #[.string key] 9)).alloc (.cells #[.func (.func f) first cap] 1)∧w0.heap[w.heap.size]?=some (.cells #[.pointer (some ⟨x,0,none⟩)] 32)∧w0.heap[w.heap.size+1]?=some (.cells #[.string key] 9)∧w0.heap[w.heap.size+2]?=some (.cells #[.func (.func f) first cap] 1)∧Kp [] w w0∧w0.heap.size=w.heap.size+3:=by
  refine⟨_,rfl,θ _ (θ _ (μ _ _)),θ _ ?_,?_,(((Kp.refl _ _).alloc _).alloc _).alloc _,by simp⟩
  ·have e:=μ (w.alloc (.cells #[.pointer (some ⟨x,0,none⟩)] 32)) (.cells #[.string key] 9);simpa using e
  ·have e:=μ ((w.alloc (.cells #[.pointer (some ⟨x,0,none⟩)] 32)).alloc (.cells #[.string key] 9)) (.cells #[.func (.func f) first cap] 1);simpa using e
 rw[←hw0];clear hw0;have hx0:=hKp0.hp hx;have hSt0:=hKp0.hp hSt;refine (qX7 k HK8.out x t.St 100 t s s #[] _ call X Q w0 hx0 ho rfl hSt0 hpo HXS.out (xE1 _) (fun i hi=>by have:=HX.out i hi;omega) ?_).mono ?_
 ·intro W hK hS;exact HW.out W w.heap.size (w.heap.size+1) (w.heap.size+2) ((hKp0.mono (S':=[t.St]) (by simp)).trans hK (fun _ h _=>h)) (Nat.le_refl _) (by omega) (by omega) hS (hK.ho hT0) (hK.ho hK0) (hK.ho hF0)
 rintro e w2 ⟨v,rfl,hv,hSt2,hK2,W,w1,B,hQ,hKW,hB1,hB2,hB3,hKB⟩;have HE:Hid (qR6 w2 v k∧w2.heap[t.St]?=some (ρ 0 s)∧Kp (t.St::X) w w2∧∃ W w1 B,Q W w1∧Kp [t.St] w W∧w.heap.size≤B∧B<W.heap.size∧w1.heap[B]?=some (.cells #[.nilIface] 38)∧Kp [t.St,B] w1 w2):=
  ⟨hv,hSt2,(hKp0.mono (S':=t.St::X) (by simp)).trans hK2 (fun _ h _=>h),W,w1,B,hQ,(hKp0.mono (S':=[t.St]) (by simp)).trans hKW (fun _ h _=>h),by omega,hB2,hB3,hKB⟩
 clear hv hSt2 hK2 hQ hKW hB3 hKB;go_wp2;go_ret;exact⟨v,rfl,HE.out⟩
structure LiveT(E:SEnv)(w:World)(x A n:Nat)(t:Tx)(s:Sto)(r:Root):Prop where
 hx:w.heap[x]?=some (qA9 t)
 over:t.over=false
 on:t.on=some ⟨E.V,0,none⟩
 hSt:w.heap[t.St]?=some (ρ 0 s)
 po:s.po=false
 sV:s.V=E.V
 hV:w.heap[E.V]?=some (qB7 A n)
 n1:n≤1000
 bl0:0≤s.bl
 bl1:s.bl≤1000
 dev:E.Dev w
 vS:E.V ∉ E.S
 rr:RR E.toEnv w t.h r
 good:RGood r
 sz:r.cont.length≤50000
 ch0:0≤t.ch
 ch1:t.ch≤100000000
theorem qC3{w:World}{a b:Nat}{c d:Array Value}{t u:TypeId}{fr gr:Nat × Nat}(ha:w.heap[a]?=some (.cells c t fr))(hb:w.heap[b]?=some (.cells d u gr))(h:t≠u):a≠b:=fun e=>by
 subst e;rw[ha] at hb;cases hb;exact h rfl
theorem LiveT.xS{E:SEnv}{w:World}{x A n:Nat}{t:Tx}{s:Sto}{r:Root}(h:LiveT E w x A n t s r):x≠t.St:=qC3 h.hx h.hSt (by decide)
theorem LiveT.devS{E:SEnv}{w W:World}{x A n:Nat}{t:Tx}{s:Sto}{r:Root}(h:LiveT E w x A n t s r)(hK:Kp [t.St] w W):E.Dev W:=E.keepX w W [t.St] h.dev hK (OffD.one h.hSt (by decide))
theorem LiveT.more{E:SEnv}{w W:World}{x A n:Nat}{t:Tx}{s:Sto}{r:Root}(h:LiveT E w x A n t s r)(hK:Kp [] w W):LiveT E W x A n t s r:=
 { h with hx:=hK.hp h.hx,hSt:=hK.hp h.hSt,hV:=hK.hp h.hV,dev:=E.keepX w W [] h.dev hK (fun k hk=>by simp at hk),rr:=h.rr.keepT hK (Apt.nil _ _) }
structure FineT(E:SEnv)(w w':World)(x:Nat)(t:Tx)(s:Sto)(r':Root)(h':HL):Prop where
 hx:w'.heap[x]?=some (qA9 { t with h:=h',ch:=t.ch+1 })
 rr:RR E.toEnv w' h' r'
 dev:E.Dev w'
 hSt:w'.heap[t.St]?=some (ρ 0 s)
 kp:Kp (t.St::x::E.S) w w'
structure BadT(E:SEnv)(w w':World)(t:Tx)(s:Sto):Prop where
 dev:E.Dev w'
 hSt:w'.heap[t.St]?=some (ρ 0 s)
 kp:Kp (t.St::E.S) w w'
theorem qZ2{w1:World}{St B:Nat}{s:Sto}{lk:Int}(h1:w1.heap[St]?=some (ρ lk s))(h2:w1.heap[B]?=some (.cells #[.nilIface] 38)):OffD w1 [St,B]:=(OffD.one h1 (by decide)).cons (OffD.one h2 (by decide))
theorem xA4{w1:World}{St B:Nat}{s:Sto}{lk:Int}(h1:w1.heap[St]?=some (ρ lk s))(h2:w1.heap[B]?=some (.cells #[.nilIface] 38)):Apt w1 [St,B] qF6:=(Apt.one h1 (by decide)).cons (Apt.one h2 (by decide))
theorem zM0(E:SEnv)(x A n f:Nat)(t:Tx)(s:Sto)(r r':Root)(key call:ByteArray)(first cap:Array Value)(w:World)(hL:LiveT E w x A n t s r)(hwr:t.wrt=true)(hk1:1≤key.size)(hk8:key.size≤8)
  (hcf:∀ W:World,Sem.run prog (callFunc f (first++cap)) W=.ok (.enter f (first++cap)) W)
  (hw:∀ W:World,Kp [t.St] w W→E.Dev W→W.heap[x]?=some (qA9 t)→W.heap[t.St]?=some (ρ 1 s)→W.heap[E.V]?=some (qB7 A n)→RR E.toEnv W t.h r→
   Calls prog f (first++cap) W fun e w1=>e=qD8 none∧∃ w0 h',E.To W w0∧RR E.toEnv w1 h' r'∧w1.heap[x]?=some (qA9 { t with h:=h' })∧Kp [x] w0 w1):
  Calls prog 61 #[.pointer (some ⟨x,0,none⟩),.string call,.string key,.func (.func f) first cap] w fun e w'=>e=.returned .nilIface∧∃ h',FineT E w w' x t s r' h':=by
 have hxS:=hL.xS;refine (xE8 none (by decide) x f t s key call first cap (x::E.S) (fun W w1=>E.Dev w1∧w1.heap[t.St]?=some (ρ 1 s)∧∃ h',RR E.toEnv w1 h' r'∧w1.heap[x]?=some (qA9 { t with h:=h',ch:=t.ch+1 })) w hL.hx hL.over hL.hSt hL.po hL.xS (fun i hi=>by
   rcases List.mem_cons.1 hi with h|h
   ·rw[h];exact ζ hL.hx
   ·exact E.low w hL.dev i h) ?_).mono ?_
 ·intro W Tc Kc Wc hK hTcs _ _ hS hT hKc hWc;have hx:=hK.heap hL.hx (by simp;exact hxS);have hd:=hL.devS hK;have hV:=hK.heap hL.hV (by simp;exact fun e=>qC3 hL.hV hL.hSt (by decide) e);have hrr:=hL.rr.keepT hK (Apt.one hL.hSt (by decide));have hxT:x≠Tc:=qC3 hx hT (by decide);have hap:Apt W [x] qF6:=Apt.one hx (by decide);refine (xE7 Tc Kc Wc x f t key first cap (fun h' w1=>∃ w0,E.To W w0∧RR E.toEnv w1 h' r'∧Kp [x] w0 w1) W hT hKc hWc hx hwr hk1 hk8 hL.ch0 (by have:=hL.ch1;omega) hcf ?_).mono ?_
  ·refine (hw W hK hd hx hS hV hrr).mono ?_;rintro e w1 ⟨rfl,w0,h',hT0,hr,hx1,hk⟩;exact⟨rfl,h',⟨w0,hT0,hr,hk⟩,hx1,hk.heap (E.stay hd hT0 hT (by decide)) (by simp;exact fun e=>hxT e.symm)⟩
  ·rintro e w2 ⟨rfl,w1,h',⟨w0,hT0,hr,hk⟩,hx1,hx2,hk2⟩;have hx0:=E.stay hd hT0 hx (by decide);have hd1:=E.keepX w0 w1 [x] hT0.dev hk (OffD.one hx0 (by decide));have hd2:=E.keepX w1 w2 [x] hd1 hk2 (OffD.one hx1 (by decide));have hS2:w2.heap[t.St]?=some (ρ 1 s):=hk2.heap (hk.heap (E.stay hd hT0 hS (by decide)) (by simp;exact fun e=>hxS e.symm)) (by simp;exact fun e=>hxS e.symm);refine⟨rfl,⟨hd2,hS2,h',hr.keepT hk2 (Apt.one hx1 (by decide)),hx2⟩,?_,hS2⟩;exact (((hT0.kp.mono (S':=t.St::x::E.S) (by simp +contextual)).trans hk (by simp +contextual)).trans hk2 (by simp +contextual))
 ·rintro e w' ⟨v,rfl,hv,hSt,hK,W,w1,B,⟨hd1,hS1,h',hrr1,hx1⟩,hKW,hB1,hB2,hB3,hKB⟩;have hv':v=.nilIface:=hv;subst hv';refine⟨rfl,h',hKB.heap hx1 ?_,hrr1.keepT hKB (xA4 hS1 hB3),E.keepX w1 w' _ hd1 hKB (qZ2 hS1 hB3),hSt,hK⟩;simp only[List.mem_cons,List.not_mem_nil,or_false,not_or];exact⟨hxS,qC3 hx1 hB3 (by decide)⟩
variable {κ:Nat}
theorem xN0(N rb rs:Int):(qB5 N rb rs).take 32=toB (qE9 N rb rs):=by
 have h:(toB (qE9 N rb rs)).length=32:=by rw[qI2,qS8]
 rw[qB5,List.take_append_of_le_length (by omega),List.take_of_length_le (by omega)]
theorem zD5(N rb rs:Int):qB5 N rb rs=toB qG5++(toB (qB1 2 rb)++(toB (qB1 8 N)++(toB (qB1 8 rs)++(toB (qB1 8 (fnv (qK1 N rb rs)))++List.replicate 96 0)))):=by
 simp only[qB5,qE9]
 conv=>lhs;rw[qK9]
 simp only[qK1,qK9,List.append_assoc]
theorem xM8(N rb rs:Int)(h0:0≤N)(h1:N≤2000000000):qG2 (qH3 (((qB5 N rb rs).drop 8).take 8))=N:=by
 have e:((qB5 N rb rs).drop 8).take 8=toB (qB1 8 N):=by
  rw[zD5,←List.append_assoc (toB qG5)];exact qR8 _ _ _ 8 8 (by simp[qI2,qF2,qG5]) (by simp[qI2,qF2])
 rw[e,qN4 _ (qI5 8 N),qL5 8 N (by decide) h0];have:(256:Int) ^ 8=18446744073709551616:=by decide
 omega
theorem xM7(N rb rs:Int)(h0:0≤rb)(h1:rb≤1000):qG2 (qH3 (((qB5 N rb rs).drop 6).take 2))=rb:=by
 have e:((qB5 N rb rs).drop 6).take 2=toB (qB1 2 rb):=by
  rw[zD5];exact qR8 _ _ _ 6 2 (by simp[qI2,qG5]) (by simp[qI2,qF2])
 rw[e,qN4 _ (qI5 2 rb),qL5 2 rb (by decide) h0];have:(256:Int) ^ 2=65536:=by decide
 omega
theorem xM9(N rb rs:Int)(h0:0≤rs)(h1:rs<18446744073709551616):qG2 (qH3 (((qB5 N rb rs).drop 16).take 8))=rs:=by
 have e:((qB5 N rb rs).drop 16).take 8=toB (qB1 8 rs):=by
  rw[zD5,←List.append_assoc (toB qG5),←List.append_assoc (toB qG5++toB (qB1 2 rb))];exact qR8 _ _ _ 16 8 (by simp[qI2,qF2,qG5]) (by simp[qI2,qF2])
 rw[e,qN4 _ (qI5 8 rs),qL5 8 rs (by decide) h0];have:(256:Int) ^ 8=18446744073709551616:=by decide
 omega
structure HeadOk(i:Nat)(N rb rs:Int):Prop where
 place:N % 2=(i:Int)
 n0:0≤N
 n1:N≤2000000000
 b0:0≤rb
 b1:rb≤1000
 s0:0≤rs
 s1:rs<18446744073709551616
theorem qX4(V A n C:Nat)(calls writes:Int)(i:Nat)(l:List UInt8)(N rb rs:Int)(w:World)(hV:w.heap[V]?=some (qB7 A n))(h:w.heap[A]?=some (φ κ n C (.slice none 0 0) calls writes))(h0:0≤calls)(h1:calls≤1000000000)
  (hi:i<n) (hn:n≤1000) (hC:w.heap[C]?=some (.cells (enc l) 115)) (hs:n*128≤l.length) (hAC:C≠A) (hVA:V≠A) (hb:qA7 l i=qB5 N rb rs) (ho:HeadOk i N rb rs):
  Calls prog 205 #[.pointer (some ⟨V,0,none⟩),.int .i64 i] w fun e w'=>e=.returned (.tuple #[.agg #[.int .u64 N,.int .i64 rb,.int .u64 rs],.bool true])∧
   w'.heap[A]?=some (φ κ n C (.slice none 0 0) (calls+1) writes)∧Kp [A] w w':=
 (zC8 V A n C calls writes i l N rb rs w hV h h0 h1 hi hn hC hs hAC hVA (by rw[hb];exact xM8 N rb rs ho.n0 ho.n1) (by rw[hb];exact xM7 N rb rs ho.b0 ho.b1) (by rw[hb];exact xM9 N rb rs ho.s0 ho.s1) ho.n0 ho.b0 (by have:=ho.b1;omega) ho.s0 true (by rw[hb,xN0];simp[ho.place])).mono fun e w' hr=>⟨by simpa [qJ2] using hr.1,hr.2⟩
theorem xW5(N N' a b c d:Int)(w:World)(hN:0≤N)(hN':0≤N')(hle:N≤N')(h1:N'≤2000000000):
  Calls prog 206 #[.agg #[.int .u64 N,.int .i64 a,.int .u64 b],.agg #[.int .u64 N',.int .i64 c,.int .u64 d]] w fun e w'=>e=.returned (.bool false)∧Below w.heap.size w w':=by
 have hd:decide (0<wrap64 (IntKind.u64.wrap (N-N')))=false:=by
  simp only[wrap64,IntKind.wrap_u64,decide_eq_false_iff_not];omega
 go_enter func206,ntmps206;go_wp2;go_ret;exact⟨rfl,((Below.refl _ _).alloc (Nat.le_refl _) _).alloc (by simp) _⟩
theorem xW7(N N' a b c d:Int)(w:World)(hN':0≤N')(hlt:N'<N)(h1:N≤2000000000):
  Calls prog 206 #[.agg #[.int .u64 N,.int .i64 a,.int .u64 b],.agg #[.int .u64 N',.int .i64 c,.int .u64 d]] w fun e w'=>e=.returned (.bool true)∧Below w.heap.size w w':=by
 have hd:decide (0<wrap64 (IntKind.u64.wrap (N-N')))=true:=by
  simp only[wrap64,IntKind.wrap_u64,decide_eq_true_eq];omega
 go_enter func206,ntmps206;go_wp2;go_ret;exact⟨rfl,((Below.refl _ _).alloc (Nat.le_refl _) _).alloc (by simp) _⟩
theorem xW8(V A n C:Nat)(calls writes:Int)(l:List UInt8)(N0 rb0 rs0 N1 rb1 rs1:Int)(w:World)(hV:w.heap[V]?=some (qB7 A n))(h:w.heap[A]?=some (φ κ n C (.slice none 0 0) calls writes))(h0:0≤calls)(h1:calls≤999999999)
  (hn2:8≤n) (hn:n≤1000) (hC:w.heap[C]?=some (.cells (enc l) 115)) (hs:n*128≤l.length) (hAC:C≠A) (hVA:V≠A) (hb0:qA7 l 0=qB5 N0 rb0 rs0) (hb1:qA7 l 1=qB5 N1 rb1 rs1) (o0:HeadOk 0 N0 rb0 rs0) (o1:HeadOk 1 N1 rb1 rs1) (hle:N1≤N0):
  Calls prog 140 #[.pointer (some ⟨V,0,none⟩)] w fun e w'=>e=.returned (.tuple #[.agg #[.int .u64 N0,.int .i64 rb0,.int .u64 rs0],.bool true])∧
   w'.heap[A]?=some (φ κ n C (.slice none 0 0) (calls+2) writes)∧Kp [A] w w':=by
 have hVs:=ζ hV;have hA:=ζ h;have hCs:=ζ hC;have HO:Hid (HeadOk 0 N0 rb0 rs0∧HeadOk 1 N1 rb1 rs1):=⟨o0,o1⟩;have HB:Hid (qA7 l 0=qB5 N0 rb0 rs0∧qA7 l 1=qB5 N1 rb1 rs1):=⟨hb0,hb1⟩;have HLE:=zh hle;clear o0 o1 hb0 hb1 hle;go_enter func140,ntmps140;go_wp2_with fail;refine (qX4 V A n C calls writes 0 l N0 rb0 rs0 _ (θ _ hV) (θ _ h) h0 (by omega) (by omega) hn (θ _ hC) hs hAC hVA HB.out.1 HO.out.1).mono ?_;rintro e w1 ⟨rfl,hA1,hK1⟩;have hR1:=hK1.heap (μ w (.cells #[.int .u64 0,.int .i64 0,.int .u64 0] 166)) (by simp;omega);have hV1:=hK1.heap (θ _ hV) (by simp[hVA]);have hC1:=hK1.heap (θ _ hC) (by simp[hAC]);have hK1':Kp [A] w w1:=((Kp.refl _ _).alloc _).tr hK1;have hA1s:=ζ hA1;have hR1s:=ζ hR1;clear hK1;go_wp2_with fail;refine (qX4 V A n C (calls+1) writes 1 l N1 rb1 rs1 _ (θ _ hV1) (θ _ hA1) (by omega) (by omega) (by omega) hn (θ _ hC1) hs hAC hVA HB.out.2 HO.out.2).mono ?_;rintro e w2 ⟨rfl,hA2,hK2⟩;have hR2:=hK2.heap (θ _ hR1) (by simp;omega);have hH2:=hK2.heap (μ w1 (.cells #[.int .u64 N0,.int .i64 rb0,.int .u64 rs0] 166)) (by simp;omega);have hK2':Kp [A] w w2:=hK1'.trans (((Kp.refl [A] _).alloc _).tr hK2) (by simp);have hs2:=hK2.size;have hH2s:=ζ hH2;have hR2s:=ζ hR2;have hA2s:=ζ hA2;rw[show calls+1+1=calls+2 from by omega] at hA2;clear hK2 hK1' hR1 hV1 hC1 hA1;have r0:=ξ hR2 0;have r1:=ξ hR2 1;have r2:=ξ hR2 2;have s0:=ξ hH2 0;have s1:=ξ hH2 1;have s2:=ξ hH2 2;simp at r0 r1 r2 s0 s1 s2;have rf:=ι hR2;go_wp2_with fail;have o0:=HO.out.1;have o1:=HO.out.2;have hle:=HLE.out;refine (xW5 N1 N0 rb1 rs1 rb0 rs0 _ (by have:=o1.n0;omega) (by have:=o0.n0;omega) hle o0.n1).mono ?_;rintro e w3 ⟨rfl,hB3⟩;clear o0 o1 hle;have hB3':=Kp.of_below hB3 (Nat.le_refl _);have hR3:=hB3'.heap (θ _ hR2) (by simp);have hA3:=hB3'.heap (θ _ hA2) (by simp);have hH3:=hB3'.heap (θ _ hH2) (by simp);have hJ3:=hB3'.heap (μ w2 (.cells #[.int .u64 N1,.int .i64 rb1,.int .u64 rs1] 166)) (by simp);have hK3:Kp [A] w w3:=(hK2'.alloc _).tr hB3';have hR3s:=ζ hR3;have hH3s:=ζ hH3;have hJ3s:=ζ hJ3;clear hB3 hB3' r0 r1 r2 s0 s1 s2 rf;have r0:=ξ hR3 0;have r1:=ξ hR3 1;have r2:=ξ hR3 2;have s0:=ξ hH3 0;have s1:=ξ hH3 1;have s2:=ξ hH3 2;simp at r0 r1 r2 s0 s1 s2;have rf:=ι hR3;go_wp2;have hfin:=χ (χ (χ hR3 0 (.int .u64 N0)) 1 (.int .i64 rb0)) 2 (.int .u64 rs0);refine bodyPost_ret (qR3 results140 _ _ w.heap.size 166 _ _ _ rfl hfin underlying166 rfl (by kernel_rfl)) rfl ⟨rfl,?_,((hK3.sc _).sc _).sc _⟩;exact (qA5 (by omega) _ _).trans ((qA5 (by omega) _ _).trans ((qA5 (by omega) _ _).trans hA3))
theorem xW9(V A n C:Nat)(calls writes:Int)(l:List UInt8)(N0 rb0 rs0 N1 rb1 rs1:Int)(w:World)(hV:w.heap[V]?=some (qB7 A n))(h:w.heap[A]?=some (φ κ n C (.slice none 0 0) calls writes))(h0:0≤calls)(h1:calls≤999999999)
  (hn2:8≤n) (hn:n≤1000) (hC:w.heap[C]?=some (.cells (enc l) 115)) (hs:n*128≤l.length) (hAC:C≠A) (hVA:V≠A) (hb0:qA7 l 0=qB5 N0 rb0 rs0) (hb1:qA7 l 1=qB5 N1 rb1 rs1) (o0:HeadOk 0 N0 rb0 rs0) (o1:HeadOk 1 N1 rb1 rs1) (hle:N0<N1):
  Calls prog 140 #[.pointer (some ⟨V,0,none⟩)] w fun e w'=>e=.returned (.tuple #[.agg #[.int .u64 N1,.int .i64 rb1,.int .u64 rs1],.bool true])∧
   w'.heap[A]?=some (φ κ n C (.slice none 0 0) (calls+2) writes)∧Kp [A] w w':=by
 have hVs:=ζ hV;have hA:=ζ h;have hCs:=ζ hC;have HO:Hid (HeadOk 0 N0 rb0 rs0∧HeadOk 1 N1 rb1 rs1):=⟨o0,o1⟩;have HB:Hid (qA7 l 0=qB5 N0 rb0 rs0∧qA7 l 1=qB5 N1 rb1 rs1):=⟨hb0,hb1⟩;have HLE:=zh hle;clear o0 o1 hb0 hb1 hle;go_enter func140,ntmps140;go_wp2_with fail;refine (qX4 V A n C calls writes 0 l N0 rb0 rs0 _ (θ _ hV) (θ _ h) h0 (by omega) (by omega) hn (θ _ hC) hs hAC hVA HB.out.1 HO.out.1).mono ?_;rintro e w1 ⟨rfl,hA1,hK1⟩;have hR1:=hK1.heap (μ w (.cells #[.int .u64 0,.int .i64 0,.int .u64 0] 166)) (by simp;omega);have hV1:=hK1.heap (θ _ hV) (by simp[hVA]);have hC1:=hK1.heap (θ _ hC) (by simp[hAC]);have hK1':Kp [A] w w1:=((Kp.refl _ _).alloc _).tr hK1;have hA1s:=ζ hA1;have hR1s:=ζ hR1;clear hK1;go_wp2_with fail;refine (qX4 V A n C (calls+1) writes 1 l N1 rb1 rs1 _ (θ _ hV1) (θ _ hA1) (by omega) (by omega) (by omega) hn (θ _ hC1) hs hAC hVA HB.out.2 HO.out.2).mono ?_;rintro e w2 ⟨rfl,hA2,hK2⟩;have hR2:=hK2.heap (θ _ hR1) (by simp;omega);have hH2:=hK2.heap (μ w1 (.cells #[.int .u64 N0,.int .i64 rb0,.int .u64 rs0] 166)) (by simp;omega);have hK2':Kp [A] w w2:=hK1'.trans (((Kp.refl [A] _).alloc _).tr hK2) (by simp);have hs2:=hK2.size;have hH2s:=ζ hH2;have hR2s:=ζ hR2;have hA2s:=ζ hA2;rw[show calls+1+1=calls+2 from by omega] at hA2;clear hK2 hK1' hR1 hV1 hC1 hA1;have r0:=ξ hR2 0;have r1:=ξ hR2 1;have r2:=ξ hR2 2;have s0:=ξ hH2 0;have s1:=ξ hH2 1;have s2:=ξ hH2 2;simp at r0 r1 r2 s0 s1 s2;have rf:=ι hR2;go_wp2_with fail;have o0:=HO.out.1;have o1:=HO.out.2;have hle:=HLE.out;refine (xW7 N1 N0 rb1 rs1 rb0 rs0 _ o0.n0 hle o1.n1).mono ?_;rintro e w3 ⟨rfl,hB3⟩;clear o0 o1 hle;have hB3':=Kp.of_below hB3 (Nat.le_refl _);have hR3:=hB3'.heap (θ _ hR2) (by simp);have hA3:=hB3'.heap (θ _ hA2) (by simp);have hH3:=hB3'.heap (θ _ hH2) (by simp);have hJ3:=hB3'.heap (μ w2 (.cells #[.int .u64 N1,.int .i64 rb1,.int .u64 rs1] 166)) (by simp);have hK3:Kp [A] w w3:=(hK2'.alloc _).tr hB3';have hR3s:=ζ hR3;have hH3s:=ζ hH3;have hJ3s:=ζ hJ3;clear hB3 hB3' r0 r1 r2 s0 s1 s2 rf;have r0:=ξ hR3 0;have r1:=ξ hR3 1;have r2:=ξ hR3 2;have s0:=ξ hJ3 0;have s1:=ξ hJ3 1;have s2:=ξ hJ3 2;simp at r0 r1 r2 s0 s1 s2;have rf:=ι hR3;go_wp2;have hfin:=χ (χ (χ hR3 0 (.int .u64 N1)) 1 (.int .i64 rb1)) 2 (.int .u64 rs1);refine bodyPost_ret (qR3 results140 _ _ w.heap.size 166 _ _ _ rfl hfin underlying166 rfl (by kernel_rfl)) rfl ⟨rfl,?_,((hK3.sc _).sc _).sc _⟩;exact (qA5 (by omega) _ _).trans ((qA5 (by omega) _ _).trans ((qA5 (by omega) _ _).trans hA3))
def Heads(l:List UInt8)(N rb rs:Int):Prop:=∃ N0 rb0 rs0 N1 rb1 rs1,qA7 l 0=qB5 N0 rb0 rs0∧qA7 l 1=qB5 N1 rb1 rs1∧HeadOk 0 N0 rb0 rs0∧HeadOk 1 N1 rb1 rs1∧((N1≤N0∧N=N0∧rb=rb0∧rs=rs0)∨(N0<N1∧N=N1∧rb=rb1∧rs=rs1))
theorem Heads.made{l:List UInt8}{i j:Nat}{N rb rs rb' rs':Int}(h1:qA7 l i=qB5 (N+1) rb rs)(h2:qA7 l j=qB5 (N+1+1) rb' rs')(hi:i<2)(hj:j<2)(o1:HeadOk i (N+1) rb rs)(o2:HeadOk j (N+1+1) rb' rs'):Heads l (N+1+1) rb' rs':=by
 have e1:=o1.place;have e2:=o2.place;have hc:(i=0∧j=1)∨(i=1∧j=0):=by omega
 rcases hc with⟨rfl,rfl⟩|⟨rfl,rfl⟩
 ·exact⟨_,_,_,_,_,_,h1,h2,o1,o2,.inr ⟨by omega,rfl,rfl,rfl⟩⟩
 ·exact⟨_,_,_,_,_,_,h2,h1,o2,o1,.inl ⟨by omega,rfl,rfl,rfl⟩⟩
theorem Heads.new{l:List UInt8}{N:Int}(h:Formatted l N):Heads l N 0 0:=by
 have:=h.even;have:=h.low;have:=h.high;exact⟨N,0,0,N-1,0,0,h.b0,h.b1,⟨by omega,by omega,by omega,by decide,by decide,by decide,by decide⟩,⟨by omega,by omega,by omega,by decide,by decide,by decide,by decide⟩,.inl ⟨by omega,rfl,rfl,rfl⟩⟩
theorem Heads.move{l l':List UInt8}{N rb rs:Int}(h:Heads l N rb rs)(hk:∀ k,k<2→qA7 l' k=qA7 l k):Heads l' N rb rs:=by
 obtain⟨N0,rb0,rs0,N1,rb1,rs1,b0,b1,r⟩:=h;exact⟨N0,rb0,rs0,N1,rb1,rs1,by rw[hk 0 (by omega)];exact b0,by rw[hk 1 (by omega)];exact b1,r⟩
theorem xX1(V A n C:Nat)(calls writes:Int)(l:List UInt8)(N rb rs:Int)(w:World)(hV:w.heap[V]?=some (qB7 A n))(h:w.heap[A]?=some (φ κ n C (.slice none 0 0) calls writes))(h0:0≤calls)(h1:calls≤999999999)
  (hn2:8≤n) (hn:n≤1000) (hC:w.heap[C]?=some (.cells (enc l) 115)) (hs:n*128≤l.length) (hAC:C≠A) (hVA:V≠A) (hh:Heads l N rb rs):
  Calls prog 140 #[.pointer (some ⟨V,0,none⟩)] w fun e w'=>e=.returned (.tuple #[.agg #[.int .u64 N,.int .i64 rb,.int .u64 rs],.bool true])∧
   w'.heap[A]?=some (φ κ n C (.slice none 0 0) (calls+2) writes)∧Kp [A] w w':=by
 obtain⟨N0,rb0,rs0,N1,rb1,rs1,b0,b1,o0,o1,⟨hle,rfl,rfl,rfl⟩|⟨hle,rfl,rfl,rfl⟩⟩:=hh
 ·exact xW8 V A n C calls writes l _ _ _ N1 rb1 rs1 w hV h h0 h1 hn2 hn hC hs hAC hVA b0 b1 o0 o1 hle
 ·exact xW9 V A n C calls writes l N0 rb0 rs0 _ _ _ w hV h h0 h1 hn2 hn hC hs hAC hVA b0 b1 o0 o1 hle
end Go.Proofs.YtdohpenfkdckiaaGreatDoor
namespace Go.Proofs.YtdohpenfkdckiaaGreatDoor
open Go.Proofs.Tryz
open Go.RowKit
open Go.Maps (Keyed)
theorem jG5{lk:Int}{s s':Sto}(h:ρ lk s=ρ lk s'):s=s':=by
 cases s;cases s';simp[ρ] at h;simp[h]
theorem zM2{α β:Type}{Q:α→β→Prop}:∀ (hs:List α),(∀ h∈hs,∃ r,Q h r)→∃ rs,Both Q hs rs
 | [],_=>⟨[],rfl,fun i h=>by simp at h⟩
 | h::hs,hq=>by
  obtain⟨r,hr⟩:=hq h (by simp);obtain⟨rs,h1,h2⟩:=zM2 hs fun x hx=>hq x (by simp[hx]);refine⟨r::rs,by simp[h1],fun i hi hi'=>?_⟩
  cases i with
  | zero=>exact hr
  | succ i=>exact h2 i (by simpa using hi) (by simpa using hi')
theorem zI6{h h':HL}(e:qF5 h=qF5 h')(h1:h.p=none)(h2:h'.p=none):h=h':=by
 cases h;cases h';simp[qF5] at e h1 h2;obtain⟨e1,e2,e3⟩:=e;subst h1 h2 e2 e3
 congr
 exact ByteArray.ext e1
structure Shop(w:World)(kc db St A C N nM:Nat)(s:Sto)(D:DataW Unit)(l:List UInt8)(wr:Int)(nw:Root):Prop where
 hDb:w.heap[db]?=some (.cells #[.pointer (some ⟨St,0,none⟩)] 102)
 hSt:w.heap[St]?=some (ρ 0 s)
 po:s.po=false
 hM:RM w s.V s.M nM D
 m4:Maps.size D≤4
 n1:nM≤1000000
 dev:Devl s.V A N C l wr w
 N8:8≤N
 N4:N≤400
 len:N*128≤l.length
 lie:Lie N l s.rb s.rs nw
 good:RGood nw
 heads:Heads l s.N s.rb s.rs
 sz:nw.cont.length≤kc
 kc1:kc≤900
 bl0:0≤s.bl
 bl1:s.bl≤(nw.cont.length:Int)+1
 sN0:0≤s.N
 bg0:0≤s.bg
 kb:∀ k,Maps.has D k=true→∃ x,k=qA6 x∧1≤x∧x≤s.bg
 rd:∀ x h,Maps.has D (qA6 x)=true→(∀ zd,D.atKey (qA6 x) zd=qF5 h)→h.p=none→h.key=⟨#[]⟩∧∃ r,Lie N l h.b h.s r∧RGood r∧r.cont.length≤kc
section
variable {w:World} {kc db St A C N nM:Nat} {s:Sto} {D:DataW Unit} {l:List UInt8} {wr:Int} {nw:Root}
theorem Shop.hA(h:Shop w kc db St A C N nM s D l wr nw):∃ c,w.heap[A]?=some (φ (l.length / 128) N C (.slice none 0 0) c wr):=h.dev.hA
theorem Shop.AC(h:Shop w kc db St A C N nM s D l wr nw):C≠A:=by obtain⟨c,h1⟩:=h.hA;exact qC3 h.dev.hC h1 (by decide)
theorem Shop.VA(h:Shop w kc db St A C N nM s D l wr nw):s.V≠A:=by obtain⟨c,h1⟩:=h.hA;exact qC3 h.dev.hV h1 (by decide)
theorem Shop.VC(h:Shop w kc db St A C N nM s D l wr nw):s.V≠C:=qC3 h.dev.hV h.dev.hC (by decide)
theorem Shop.N1(h:Shop w kc db St A C N nM s D l wr nw):N≤1000:=by have:=h.N4;omega
abbrev Shop.E(h:Shop w kc db St A C N nM s D l wr nw):SEnv:=EL s.V A N C l wr h.N1 h.len h.AC h.VA
theorem qH0{w:World}{a b:Nat}{c:Array Value}{t:TypeId}{fr:Nat × Nat}{V n:Nat}{D:DataW Unit}(ha:w.heap[a]?=some (.cells c t fr))(hb:RM w V b n D):a≠b:=fun e=>by
 obtain⟨es,cl,h,_⟩:=hb;rw[e,h] at ha;cases ha
theorem qG3{V A N C:Nat}{l:List UInt8}{wr:Int}{w w':World}{S:List Nat}(h:Devl V A N C l wr w)(hK:Kp S w w')(hS:OffD w S):Devl V A N C l wr w':=by
 obtain⟨c,hA⟩:=h.hA;exact⟨hK.heap h.hV (fun hm=>hS _ hm _ _ _ h.hV (by decide)),⟨c,hK.heap hA (fun hm=>hS _ hm _ _ _ hA (by decide))⟩,hK.heap h.hC (fun hm=>hS _ hm _ _ _ h.hC (by decide))⟩
end
theorem LiveT.key{E:SEnv}{w:World}{x A n:Nat}{t:Tx}{s:Sto}{r:Root}(hL:LiveT E w x A n t s r):t.h.key=⟨#[]⟩:=by
 have:=hL.rr
 cases r with
 | none=>rw[show t.h=_ from this]
 | «at» n L=>exact this.1.trans hL.good.1
theorem jG2{w:World}{kc db St A C N nM:Nat}{s:Sto}{D:DataW Unit}{l:List UInt8}{wr:Int}{nw:Root}(hS:Shop w kc db St A C N nM s D l wr nw)(x:Nat)(t:Tx)(r:Root)(hL:LiveT hS.E w x A N t s r)(hts:t.St=St)(hwr:t.wrt=true)(h0:0≤t.nr)(h1:t.nr≤1000000000)(heq:∀ W:World,Sem.run prog (Op.equalIn 10000 89 (υ s.V t.h) (υ s.V ⟨⟨#[]⟩,s.rb,s.rs,none⟩)) W=.ok false W)(hrk:r.cont.length≤kc)(hN9:s.N≤999999999)
  (hrdel:∀ k,Maps.has (D.del (qA6 t.nr)) k=true→Maps.has D k=true∧∀ zd,(D.del (qA6 t.nr)).atKey k zd=D.atKey k zd) (hsz:Maps.size (D.del (qA6 t.nr))≤4)
  (hfit:qC6 r+r.news+Maps.size (D.del (qA6 t.nr))*kc+qC6 nw+2≤N):
  Calls prog 31 #[.pointer (some ⟨x,0,none⟩)] w fun e w'=>e=.returned .nilIface∧∃ s' l' nt,Shop w' kc db St A C N nM s' (D.del (qA6 t.nr)) l' (nx (nk (nx wr) r.news)) nt∧nt.cont=r.cont∧s'.N=s.N+2∧s'.bg=s.bg∧s'.wr=(s.left t.nr).wr∧s'.V=s.V∧s'.M=s.M∧w'.heap[x]?=some (qA9 t.ended)∧Kp [St,x,s.M,A,C] w w'∧∀ y rb rs r0,Maps.has (D.del (qA6 t.nr)) (qA6 y)=true→(∀ zd,(D.del (qA6 t.nr)).atKey (qA6 y) zd=qF5 ⟨⟨#[]⟩,rb,rs,none⟩)→Lie N l rb rs r0→Lie N l' rb rs r0:=by
 subst hts;obtain⟨cA,hA⟩:=hS.hA;have hMS:s.M≠t.St:=(qH0 hS.hSt hS.hM).symm;have hxS:=hL.xS;have hxM:x≠s.M:=qH0 hL.hx hS.hM;have hMs:s.M<w.heap.size:=hS.hM.lt;have hxA:x≠A:=qC3 hL.hx hA (by decide);have hxC:x≠C:=qC3 hL.hx hS.dev.hC (by decide);have hMA:s.M≠A:=(qH0 hA hS.hM).symm;have hMC:s.M≠C:=(qH0 hS.dev.hC hS.hM).symm;have hSA:t.St≠A:=qC3 hS.hSt hA (by decide);have hSC:t.St≠C:=qC3 hS.hSt hS.dev.hC (by decide);have hDS:db≠t.St:=qC3 hS.hDb hS.hSt (by decide);have hDA:db≠A:=qC3 hS.hDb hA (by decide);have hDC:db≠C:=qC3 hS.hDb hS.dev.hC (by decide);have hDx:db≠x:=qC3 hS.hDb hL.hx (by decide);have hDM:db≠s.M:=qH0 hS.hDb hS.hM;have hoff:OffD w [t.St,x,s.M]:=(OffD.one hL.hSt (by decide)).cons ((OffD.one hL.hx (by decide)).cons (fun k hk c ty fr e=>by rw[List.mem_singleton.1 hk] at e;exact absurd rfl (qH0 e hS.hM)));have hapt:Apt w [t.St,x,s.M] qF6:=(Apt.one hL.hSt (by decide)).cons ((Apt.one hL.hx (by decide)).cons (fun k hk c ty fr e=>by rw[List.mem_singleton.1 hk] at e;exact absurd rfl (qH0 e hS.hM)));have hkc:=hS.kc1;have hN8:=hS.N8;have hN4:=hS.N4;have hrt:∀ n l,r=.at n l→l.key=⟨#[]⟩:=fun n l e=>by have h:=hL.good;rw[e] at h;exact h.1
 have hnt:∀ n l,nw=.at n l→l.key=⟨#[]⟩:=fun n l e=>by have h:=hS.good;rw[e] at h;exact h.1
 have hbn:=hS.lie.bnd hS.N1;obtain⟨i,hi⟩:∃ i:Nat,(s.N+1) % 2=(i:Int):=⟨((s.N+1) % 2).toNat,by have:=hS.sN0;omega⟩;obtain⟨j,hj⟩:∃ j:Nat,(s.N+1+1) % 2=(j:Int):=⟨((s.N+1+1) % 2).toNat,by have:=hS.sN0;omega⟩;have hi2:i<2:=by have:=hS.sN0;omega
 have hj2:j<2:=by have:=hS.sN0;omega
 obtain⟨P,hPd⟩:∃ P:List HL→List Root→Prop,P=fun hs rs=>ReadH (D.del (qA6 t.nr)) hs∧Both (fun h r=>h.p=none∧h.key=⟨#[]⟩∧Lie N l h.b h.s r∧RGood r∧r.cont.length≤kc) hs rs:=⟨_,rfl⟩;have hP:∀ hs rs,P hs rs→ReadH (D.del (qA6 t.nr)) hs∧Both (fun h r=>h.p=none∧h.key=⟨#[]⟩∧Lie N l h.b h.s r∧RGood r∧r.cont.length≤kc) hs rs:=fun hs rs h=>by rw[hPd] at h;exact h
 have hlen1:N*128≤(qC1 l i (qB5 (s.N+1) s.rb s.rs)).length:=qS9 l _ i N (qM2 _ _ _) hS.len (by omega);have hrd:∀ hs rs,P hs rs→meas qC6 rs≤Maps.size (D.del (qA6 t.nr))*kc:=fun hs rs h=>by
  obtain⟨h1,h2,h3⟩:=hP hs rs h;have h4:∀ r∈rs,qC6 r≤kc:=fun r hr=>by
   obtain⟨k,hk,rfl⟩:=List.getElem_of_mem hr;obtain⟨_,_,_,g,g2⟩:=h3 k (by rw[h2];exact hk) hk;have:=qU9 g;by_cases e:rs[k].cont.length=0
   ·have:2*qC6 rs[k]≤1:=by omega
    omega
   ·omega
  have h5:∀ (rs:List Root),(∀ r∈rs,qC6 r≤kc)→meas qC6 rs≤rs.length*kc:=fun rs=>by
   induction rs with
   | nil=>intro _;simp[meas]
   | cons a rs ih=>
    intro h;have:=ih fun r hr=>h r (by simp[hr]);have:=h a (by simp);rw[qE3,List.length_cons,Nat.succ_mul];omega
  have h6:=h5 rs h4;have h7:rs.length*kc≤Maps.size (D.del (qA6 t.nr))*kc:=Nat.mul_le_mul_right _ (by rw[←h2];exact h1.len);omega
 have hfit2:∀ hs rs,P hs rs→r.news≤(qB8 N ((rs++[nw]).foldl qA4 (qA4 [] r))).length:=fun hs rs h=>by
  have g1:=xK9 N ((rs++[nw]).foldl qA4 (qA4 [] r));have g2:=zJ7 (rs++[nw]) (qA4 [] r);have g3:=zB4 [] r;have g4:=hrd hs rs h;rw[qF9] at g2;simp only[qE3,qE1,List.length_nil] at g2 g3;omega
 have hold:∀ hs rs,P hs rs→∀ u∈rs++[nw],∃ rb rs',Lie N l rb rs' u:=fun hs rs h u hu=>by
  obtain⟨h1,h2,h3⟩:=hP hs rs h;rcases List.mem_append.1 hu with hu|hu
  ·obtain⟨k,hk,rfl⟩:=List.getElem_of_mem hu;exact⟨_,_,(h3 k (by rw[h2];exact hk) hk).2.2.1⟩
  ·rw[List.mem_singleton.1 hu];exact⟨_,_,hS.lie⟩
 have hlies:∀ hs rs,P hs rs→∀ fr,fr=qB8 N ((rs++[nw]).foldl qA4 (qA4 [] r))→∃ nt:Root,Lie N (laidAll (qC1 l i (qB5 (s.N+1) s.rb s.rs)) (qC2 r fr).2) (qC2 r fr).1.b (qC2 r fr).1.s nt∧RGood nt∧nt.cont=r.cont∧(qC2 r fr).2.length=r.news∧(∀ u∈rs++[nw],∀ k∈qM9 u,qA7 (laidAll (qC1 l i (qB5 (s.N+1) s.rb s.rs)) (qC2 r fr).2) k=qA7 (qC1 l i (qB5 (s.N+1) s.rb s.rs)) k)∧(∀ k,k<2→qA7 (laidAll (qC1 l i (qB5 (s.N+1) s.rb s.rs)) (qC2 r fr).2) k=qA7 (qC1 l i (qB5 (s.N+1) s.rb s.rs)) k):=fun hs rs h fr hfr=>by
  refine xU0 hS.N1 hlen1 r (rs++[nw]) ?_ hL.good (by omega) (fun u hu=>?_) fr hfr (by rw[hfr];exact hfit2 hs rs h)
  ·exact xY1 (fun k hk=>qW1 l _ i k N (qM2 _ _ _) hS.len (by omega) (by omega)) (jF1 hL.rr)
  ·obtain⟨_,_,g⟩:=hold hs rs h u hu;exact (g.head hS.len (by omega) i hi2 _ _ _).old
 refine (jH7 x nM s.V t s D [A,C] (fun W w1=>∃ hs rs fr,P hs rs∧fr=qB8 N ((rs++[nw]).foldl qA4 (qA4 [] r))∧w1.heap[t.St]?=some (ρ 1 ((s.left t.nr).cmt (qC2 r fr).1.b (qC2 r fr).1.s (((qA4 [] r).length+r.news:Nat):Int)))∧
   Devl s.V A N C (qC1 (laidAll (qC1 l i (qB5 (s.N+1) s.rb s.rs)) (qC2 r fr).2) j (qB5 (s.N+1+1) (qC2 r fr).1.b (qC2 r fr).1.s)) (nx (nk (nx wr) (qC2 r fr).2.length)) w1) w hL.hx hL.over hS.hSt hS.po hS.hM h0 h1 hMS hxS hxM hMs hL.on hwr (by simp only[List.mem_cons,List.not_mem_nil,or_false];rintro k (rfl | rfl);exact ζ hA;exact ζ hS.dev.hC) ?_).mono ?_
 ·intro W hK hx' hS' hM';refine (xF2 t.St A N C (s.left t.nr) t.h r nw l wr P W (by omega) hS.N1 hS.len hS.AC hS.VA hS.VC hS' (qG3 hS.dev hK hoff) (hL.rr.keepT hK hapt) hrt hL.good (by omega) (zH4 hL.good (by omega)) (hS.lie.rr hS.good W) hnt hS.sN0 hN9 hbn.1 hbn.2.1 hbn.2.2 heq ?_ ?_ i j hi hj).mono ?_
  ·intro W' hK';refine (jH2 t.St nM 1 (s.left t.nr) (D.del (qA6 t.nr)) W' (hK'.hp hS') (hM'.kp hK' (by simp)) hsz).mono ?_;rintro e w' ⟨v,hs,e1,e2,e3,e4⟩;obtain⟨rs,hb⟩:=zM2 (Q:=fun h r=>h.p=none∧h.key=⟨#[]⟩∧Lie N l h.b h.s r∧RGood r∧r.cont.length≤kc) hs fun h hm=>by
    obtain⟨g1,y,g2,g3⟩:=e3.are h hm;obtain⟨f1,f2⟩:=hrdel _ g2;obtain⟨d1,u,d2⟩:=hS.rd y h f1 (fun zd=>(f2 zd).symm.trans (g3 zd)) g1;exact⟨u,g1,d1,d2⟩
   exact⟨v,hs,rs,e1,e2,by rw[hPd];exact⟨e3,hb⟩,e4⟩
  ·intro hs rs h;obtain⟨g1,g2,g3⟩:=hP hs rs h;obtain⟨nt,d1,d2,d3,_⟩:=hlies hs rs h _ rfl;have hb:=d1.bnd hS.N1;have hm:=hrd hs rs h;have hln:=g1.len;refine⟨g2,by omega,fun k k1 k2=>?_,?_,hfit2 hs rs h,hb.1,hb.2.1,hb.2.2⟩
   ·obtain⟨c1,c2,c3,c4,c5⟩:=g3 k k1 k2;refine⟨?_,fun n L e=>?_⟩
    ·have e:hs[k]=⟨⟨#[]⟩,hs[k].b,hs[k].s,none⟩:=by
      cases hx:hs[k];rw[hx] at c1 c2;simp only at c1 c2;rw[c1,c2]
     rw[e];exact c3.rr c4 W
    ·rw[e] at c4;exact c4.1
   ·rw[qF9,qE3,qE1];omega
  ·rintro e w1 ⟨rfl,hs,rs,fr,e1,e2,e3,e4,e5⟩;exact⟨rfl,⟨_,e3⟩,⟨hs,rs,fr,e1,e2,e3,e4⟩,e5⟩
 ·rintro e w' ⟨rfl,hKw,W,w1,B,s',hK,hx',hS',hM',⟨hs,rs,fr,e1,e2,e3,e4⟩,hKc,hs1,hs2,hB0,hB1,hKB⟩;obtain⟨nt,d1,d2,d3,d4,d5,d6⟩:=hlies hs rs e1 fr e2;have hse:s'=(s.left t.nr).cmt (qC2 r fr).1.b (qC2 r fr).1.s (((qA4 [] r).length+r.news:Nat):Int):=by
   rw[e3] at hs1;exact (jG5 (Option.some.inj hs1)).symm
  rw[d4] at e4;have hlen2:N*128≤(laidAll (qC1 l i (qB5 (s.N+1) s.rb s.rs)) (qC2 r fr).2).length:=zE4 N _ _ hlen1 (zE9 (zH4 hL.good (by omega)) (by rw[e2];exact hfit2 hs rs e1) (fun b hb=>by rw[e2] at hb;exact (zD1 b hb).2.1));have hBx:∀ k,k<w.heap.size→k≠B:=fun k hk=>by omega
  have hlt:=ζ hL.hx;have hKw':Kp [t.St,x,s.M,A,C] w w':=hKw;have hM1:RM w1 s.V s.M nM (D.del (qA6 t.nr)):=hM'.kp hKc (by simp[hMS,hMA,hMC]);have hbnew:∀ u,(∃ a b,Lie N l a b u)→(∀ k∈qM9 u,qA7 (laidAll (qC1 l i (qB5 (s.N+1) s.rb s.rs)) (qC2 r fr).2) k=qA7 (qC1 l i (qB5 (s.N+1) s.rb s.rs)) k)→∀ a b,Lie N l a b u→Lie N (qC1 (laidAll (qC1 l i (qB5 (s.N+1) s.rb s.rs)) (qC2 r fr).2) j (qB5 (s.N+1+1) (qC2 r fr).1.b (qC2 r fr).1.s)) a b u:=fun u _ hk a b hu=>
   (((hu.head hS.len (by omega) i hi2 _ _ _).move hk).head hlen2 (by omega) j hj2 _ _ _)
  refine⟨rfl,s',qC1 (laidAll (qC1 l i (qB5 (s.N+1) s.rb s.rs)) (qC2 r fr).2) j (qB5 (s.N+1+1) (qC2 r fr).1.b (qC2 r fr).1.s),nt,?_,d3,by rw[hse];show s.N+1+1=s.N+2;omega,by rw[hse];rfl,by rw[hse];rfl,by rw[hse];rfl,by rw[hse];rfl,?_,hKw',?_⟩
  ·refine { hDb:=hKw'.heap hS.hDb (by simp[hDS,hDx,hDM,hDA,hDC]),hSt:=hs2,po:=by rw[hse];exact hS.po,hM:=?_,m4:=hsz,n1:=hS.n1,dev:=?_,N8:=hS.N8,N4:=hS.N4,len:=qS9 _ _ j N (qM2 _ _ _) hlen2 (by omega),lie:=?_,good:=d2,heads:=?_,sz:=by rw[d3];exact hrk,kc1:=hS.kc1,bl0:=?_,bl1:=?_,sN0:=?_,bg0:=by rw[hse];exact hS.bg0,kb:=fun k hk=>by rw[hse];exact hS.kb k (hrdel k hk).1,rd:=?_ }
   ·rw[hse];exact hM1.kp hKB (by simp[hMS];omega)
   ·rw[hse];exact qG3 e4 hKB (qZ2 hs1 hB1)
   ·rw[hse];exact d1.head hlen2 (by omega) j hj2 _ _ _
   ·rw[hse];have hij:i≠j:=by omega
    have hb1:=d1.bnd hS.N1;show Heads _ (s.N+1+1) (qC2 r fr).1.b (qC2 r fr).1.s;refine Heads.made (N:=s.N) (i:=i) (j:=j) (rb:=s.rb) (rs:=s.rs) ?_ (zB7 _ _ j N (qM2 _ _ _) hlen2 (by omega)) hi2 hj2 ⟨hi,by have:=hS.sN0;omega,by omega,hbn.1,hbn.2.1,hbn.2.2,hS.lie.sum⟩ ⟨hj,by have:=hS.sN0;omega,by omega,hb1.1,hb1.2.1,hb1.2.2,d1.sum⟩;rw[qW1 _ _ j i N (qM2 _ _ _) hlen2 (by omega) hij,d6 i hi2,zB7 l _ i N (qM2 _ _ _) hS.len (by omega)]
   ·rw[hse];show (0:Int)≤(((qA4 [] r).length+r.news:Nat):Int);exact Int.natCast_nonneg _
   ·rw[hse,d3];have g1:=zB4 [] r;have g2:=qU9 hL.good;have g3:=qV0 hL.good;show ((_:Nat):Int)≤_;simp only[List.length_nil] at g1;omega
   ·rw[hse];show 0≤s.N+1+1;have:=hS.sN0;omega
   ·intro y h g1 g2 g3;obtain⟨f1,f2⟩:=hrdel _ g1;obtain⟨c1,u,c2,c3,c4⟩:=hS.rd y h f1 (fun zd=>(f2 zd).symm.trans (g2 zd)) g3;obtain⟨a1,a2,a3⟩:=hP hs rs e1;obtain⟨h',hm',hp',ha'⟩:=a1.all _ g1;have hhe:h=h':=by
     have e:=(g2 (.lit (.int .i64 0))).symm.trans (ha' (.lit (.int .i64 0)));exact zI6 e g3 hp'
    subst hhe;obtain⟨k,hk,rfl⟩:=List.getElem_of_mem hm';have hk2:k<rs.length:=by rw[←a2];exact hk
    obtain⟨b1,b2,b3,b4,b5⟩:=a3 k hk hk2;exact⟨b2,rs[k],hbnew _ ⟨_,_,b3⟩ (d5 _ (List.mem_append_left _ (List.getElem_mem hk2))) _ _ b3,b4,b5⟩
  ·exact hKB.heap (hKc.heap hx' (by simp[hxS,hxA,hxC])) (by simp[hxS];omega)
  ·intro y rb rs' r0 g1 g2 g3;obtain⟨a1,a2,a3⟩:=hP hs rs e1;obtain⟨h',hm',hp',ha'⟩:=a1.all _ g1;have hhe:(⟨⟨#[]⟩,rb,rs',none⟩:HL)=h':=zI6 ((g2 (.lit (.int .i64 0))).symm.trans (ha' (.lit (.int .i64 0)))) rfl hp';obtain⟨k,hk,he⟩:=List.getElem_of_mem hm';have hk2:k<rs.length:=by rw[←a2];exact hk
   obtain⟨b1,b2,b3,b4,b5⟩:=a3 k hk hk2;rw[he,←hhe] at b3;refine hbnew _ ⟨_,_,g3⟩ (fun k' hk'=>d5 _ (List.mem_append_left _ (List.getElem_mem hk2)) k' ?_) _ _ g3;rw[(Lie.one hS.N1 b3 g3).2];exact hk'
end Go.Proofs.YtdohpenfkdckiaaGreatDoor
namespace Go.Proofs.YtdohpenfkdckiaaGreatDoor
open Go.Proofs.Tryz
open Go.RowKit
def qD0(V:Nat)(b:Int)(k:ByteArray):Obj:=.cells #[.pointer (some ⟨V,0,none⟩),.int .i64 b,.string k] 293
theorem qR0(w:World):Calls prog 253 #[.bool true] w fun e w'=>e=.returned (.tuple #[])∧w'=w:=by
 go_enter func253,ntmps253;go_wp2
 go_end0
 exact⟨rfl,rfl⟩
theorem zU0(O:qD7)(n:Nat)(q:Nat)(t:Tn n)(w:World)(h:RN O n w q t)(hc:cnt n t≤1000000):
  Calls prog 161 #[.pointer (some ⟨q,0,none⟩)] w fun e w'=>e=.returned (.int .i64 (cnt n t))∧∃ m,w'=w.drewN m:=by
 obtain⟨pb,pl,pc,lb,ll,lc,h1,h2⟩:=h.obj;have HC:=zh h2;rw[←h2] at hc;have hqs:=ζ h1;have q1:=ξ h1;simp only[τ,zG,zH,zI] at q1;clear h h1 h2;go_enter func161,ntmps161;go_wp2_with fail
 go_quiet (fail)
 go_wp2;go_ret;exact⟨qK0 (by rw[←HC.out];omega),_,rfl⟩
theorem xX6(V A N C:Nat)(l:List UInt8)(writes:Int)(hN:N≤1000)(hs:N*128≤l.length)(hAC:C≠A)(hVA:V≠A)(n b:Nat)(s:Int)(t:Tn n)(w:World)(hd:Devl V A N C l writes w)(hL:Laid N l n b s t):
  Calls prog 217 #[.pointer (some ⟨V,0,none⟩),.agg #[.int .i64 b,.int .u64 s]] w fun e w'=>∃ q,e=.returned (.tuple #[.pointer (some ⟨q,0,none⟩),.bool true])∧RN (Laid N l) n w' q t∧Devl V A N C l writes w'∧Kp [A] w w':=by
 obtain⟨calls,hA⟩:=hd.hA
 cases n with
 | zero=>
  obtain⟨g1,g2,g3,g4,g5,g6,g7⟩:=hL;rw[g3];refine (zW0 V A N C calls writes b l (prs t) w hd.hV hA g2 hN hd.hC hs hAC hVA g4 g5 g6 g7).mono ?_;rintro e w' ⟨q,v,rfl,hq,_,hown,hA',hK'⟩;exact⟨q,rfl,⟨v,hq,qG6 hown⟩,⟨hK'.heap hd.hV (by simpa using hVA),⟨_,hA'⟩,hK'.heap hd.hC (by simpa using hAC)⟩,hK'⟩
 | succ n=>
  obtain⟨g1,g2,g3,hs',g4,g5,g6,g7,g8,g9⟩:=hL;rw[g5];refine (zV9 V A N C calls writes b l hs' ((n+1:Nat):Int) (by omega) (by omega) w hd.hV hA g2 hN hd.hC hs hAC hVA g6 (Laid.links g4 g7 hN) g8 g9).mono ?_;rintro e w' ⟨q,v,rfl,hq,_,hown,hA',hK'⟩;exact⟨q,rfl,⟨v,hq,hs',qG6 hown,⟨g4.1,fun i h1 h2=>(g4.2 i h1 h2).mono (fun _ h=>h.elim) (fun _ _ h=>h)⟩⟩,⟨hK'.heap hd.hV (by simpa using hVA),⟨_,hA'⟩,hK'.heap hd.hC (by simpa using hAC)⟩,hK'⟩
theorem RN.lev{O:qD7}{n:Nat}{w:World}{q:Nat}{t:Tn n}(h:RN O n w q t):∃ vp vl,w.heap[q]?=some (τ (n:Int) vp vl):=by
 cases n with
 | zero=>obtain⟨vp,h1,_⟩:=h;exact⟨_,_,h1⟩
 | succ n=>obtain⟨vl,h1,_⟩:=h;exact⟨_,_,h1⟩
section
variable (V A N C:Nat) (l:List UInt8) (writes:Int) (hN:N≤1000) (hs:N*128≤l.length) (hAC:C≠A) (hVA:V≠A)
include hN hs hAC hVA
theorem zM3(n b:Nat)(s:Int)(t:Tn n)(G:Nat)(bl:Int)(k:ByteArray)(w:World)(hd:Devl V A N C l writes w)(hL:Laid N l n b s t)(hG:w.heap[G]?=some (qD0 V bl k))(hb0:0≤bl)(hb1:bl≤1000000):
  Calls prog 255 #[.pointer (some ⟨G,0,none⟩),.agg #[.int .i64 b,.int .u64 s]] w fun e w'=>∃ q,e=.returned (.pointer (some ⟨q,0,none⟩))∧RN (Laid N l) n w' q t∧Devl V A N C l writes w'∧w'.heap[G]?=some (qD0 V (bl+1) k)∧Kp [A,G] w w':=by
 have hat:=hL.at;have h2:(2:Int)≤(b:Int):=by omega
 have hbN:(b:Int)<(N:Int):=by omega
 have HREAD:Hid (∀ W,Devl V A N C l writes W→Calls prog 217 #[.pointer (some ⟨V,0,none⟩),.agg #[.int .i64 b,.int .u64 s]] W fun e w'=>∃ q,e=.returned (.tuple #[.pointer (some ⟨q,0,none⟩),.bool true])∧RN (Laid N l) n w' q t∧Devl V A N C l writes w'∧Kp [A] W w'):=fun W hW=>xX6 V A N C l writes hN hs hAC hVA n b s t W hW hL;have HD:=zh hd;have hGA:G≠A:=by obtain⟨c,h⟩:=hd.hA;exact qC3 hG h (by decide)
 have hGs:=ζ hG;go_enter func255,ntmps255;go_wp2_with fail;obtain⟨w0,hw0,hP0,hK0,hs0⟩:=qF0 w (.cells #[.int .i64 (b:Int),.int .u64 s] 84);rw[←hw0];clear hw0;have hG0:=hK0.hp hG;have hV0:=hK0.hp hd.hV;have hG0s:=ζ hG0;have hP0s:=ζ hP0;have g0:=ξ hG0 0;have g1:=ξ hG0 1;have g2:=ξ hG0 2;simp only[qD0,zG,zH,zI] at g0 g1 g2;have p0:=ξ hP0;have HK0:=zh hK0;have HG0:=zh hG0;have HP0:=zh hP0;have HV0:=zh hV0;clear hd hL hG hK0 hG0 hP0 hV0
 go_quiet (first | (go_at_call 121;exact Calls.quiet_of_same (zI9 V A N _ HV0.out)) | (go_at_call 253;exact Calls.quiet_of_same (qR0 _)))
 go_wp2_with fail;obtain⟨wq,hwq,hKq⟩:∃ wq,wq=w0.drewN nq∧Kp [] w0 wq:=⟨_,rfl,(Kp.refl _ _).drewN _⟩;rw[←hwq];clear hwq g0 g1 g2 p0;have hKw:Kp [] w wq.drew:=(HK0.out.tr hKq).drew;have hDq:Devl V A N C l writes wq.drew:=qG3 HD.out hKw (by intro k hk;cases hk);have hSd:wq.drew.heap[G]?=some (qD0 V bl k)∧wq.drew.heap[w.heap.size]?=some (.cells #[.int .i64 (b:Int),.int .u64 s] 84):=⟨hKq.hp HG0.out,hKq.hp HP0.out⟩;refine wp_region_held_drew (S:=fun W=>W.heap[G]?=some (qD0 V bl k)∧W.heap[w.heap.size]?=some (.cells #[.int .i64 (b:Int),.int .u64 s] 84)) (by kernel_rfl) hSd (fun _=>?_);refine zP 0 G 0 hSd ?_;refine zV 1 (.pointer (some ⟨G,0,none⟩)) rfl (fun W hS=>by have c:=ζ hS.1;clear hS;go_simp) hSd ?_;refine zP 2 G 0 hSd ?_;refine zV 3 (.pointer (some ⟨V,0,none⟩)) rfl (fun W hS=>by have a:=ξ hS.1 0;simp only[qD0,zG,zH,zI] at a;clear hS;go_simp) hSd ?_;refine zV 4 (.agg #[.int .i64 (b:Int),.int .u64 s]) rfl (fun W hS=>by have a:=ξ hS.2;clear hS;go_simp) hSd ?_;refine zq 5 fun K hK=>?_;go_simp;refine (HREAD.out _ hDq).mono ?_;rintro e w1 ⟨q,rfl,hRN,hD1,hK1⟩;have hS1:w1.heap[G]?=some (qD0 V bl k)∧w1.heap[w.heap.size]?=some (.cells #[.int .i64 (b:Int),.int .u64 s] 84):=⟨hK1.heap hSd.1 (by simpa using hGA),hK1.heap hSd.2 (by have:=HD.out.hA;obtain⟨c,h⟩:=this;have:=ζ h;simp;omega)⟩;refine hK.out _ _ hS1 (fun _=>?_);clear hK K
 try simp only[zZ]
 refine zU 6 (.tuple #[.pointer (some ⟨q,0,none⟩),.bool true]) hS1 ?_;refine zP 7 q 0 hS1 ?_;refine zU 8 (.bool true) hS1 ?_;refine zP 9 q 0 hS1 ?_;refine zU 10 (.bool true) hS1 ?_;refine zd ?_
 try simp only[zZ]
 have HG1:=zh hS1.1;have HE1:Hid (RN (Laid N l) n w1 q t∧Devl V A N C l writes w1∧Kp [A,G] w w1):=⟨hRN,hD1,(hKw.mono (by simp)).tr hK1⟩;clear hRN hD1 hK1 hS1 hSd hKq hKw hDq;go_wp2_with fail;refine (qR0 w1).mono ?_;rintro e w2 ⟨rfl,hw⟩;rw[hw];clear hw w2;have hG1:=HG1.out;have hG1s:=ζ hG1;have g0:=ξ hG1 0;have g1:=ξ hG1 1;have g2:=ξ hG1 2;simp only[qD0,zG,zH,zI] at g0 g1 g2;have f1:=ι hG1 1;have hb2:wrap64 (bl+1)=bl+1:=by simp only[wrap64];omega
 clear hG1;go_wp2;go_ret;have hap:Apt w1 [G] qF6:=Apt.one HG1.out (by decide);have hK2:Kp [G] w1 (w1.setCell ⟨G,1,none⟩ (.int .i64 (bl+1))):=(Kp.refl _ _).sc _;obtain⟨e1,e2,e3⟩:=HE1.out;exact⟨q,rfl,RN.keep hK2 hap n q t e1,qG3 e2 hK2 (OffD.one HG1.out (by decide)),χ HG1.out 1 _,e3.tr hK2⟩
theorem xD3(n b:Nat)(s:Int)(t:Tn n)(G q0:Nat)(vp0 vl0:Value)(bl:Int)(k:ByteArray)(w:World)(hd:Devl V A N C l writes w)(hL:Laid N l n b s t)(hG:w.heap[G]?=some (qD0 V bl k))(hq0:w.heap[q0]?=some (τ ((n+1:Nat):Int) vp0 vl0))(hb0:0≤bl)(hb1:bl≤1000000)(hc3:3≤cnt n t)(hcn:cnt n t≤1000):
  Calls prog 254 #[.pointer (some ⟨G,0,none⟩),.pointer (some ⟨q0,0,none⟩),.agg #[.int .i64 b,.int .u64 s]] w fun e w'=>∃ q,e=.returned (.pointer (some ⟨q,0,none⟩))∧RN (Laid N l) n w' q t∧Devl V A N C l writes w'∧w'.heap[G]?=some (qD0 V (bl+1) k)∧Kp [A,G] w w':=by
 have hat:=hL.at;have HREAD:Hid (∀ W,Kp [] w W→Calls prog 255 #[.pointer (some ⟨G,0,none⟩),.agg #[.int .i64 b,.int .u64 s]] W fun e w'=>∃ q,e=.returned (.pointer (some ⟨q,0,none⟩))∧RN (Laid N l) n w' q t∧Devl V A N C l writes w'∧w'.heap[G]?=some (qD0 V (bl+1) k)∧Kp [A,G] W w'):=fun W hW=>zM3 V A N C l writes hN hs hAC hVA n b s t G bl k W (qG3 hd hW (by intro k hk;cases hk)) hL (hW.hp hG) hb0 hb1;have hqG:q0≠G:=qC3 hq0 hG (by decide);have hqA:q0≠A:=by obtain⟨c,h⟩:=hd.hA;exact qC3 hq0 h (by decide)
 have HQ0:=zh hq0;clear hd hL hG hq0;go_enter func254,ntmps254;go_wp2_with fail;obtain⟨w0,hw0,hP0,hK0,hs0⟩:=qF0 w (.cells #[.int .i64 (b:Int),.int .u64 s] 84);rw[←hw0];clear hw0;refine (show Calls _ _ _ _ _ from HREAD.out w0 hK0).mono ?_;rintro e w1 ⟨q,rfl,hRN,hD1,hG1,hK1⟩;obtain⟨vp,vl,hq⟩:=hRN.lev;have hq0':=hK1.heap (hK0.hp HQ0.out) (by simp[hqA,hqG]);have hqs:=ζ hq;have hq0s:=ζ hq0';have x0:=ξ hq 0;simp only[τ,zG,zH,zI] at x0;have y0:=ξ hq0' 0;simp only[τ,zG,zH,zI] at y0;have hw1:wrap64 (((n+1:Nat):Int)-1)=(n:Int):=by simp only[wrap64];omega
 have hw2:wrap64 ((n:Int)+1-1)=(n:Int):=by simp only[wrap64];omega
 have HRN:=zh hRN;have HE:Hid (Devl V A N C l writes w1∧w1.heap[G]?=some (qD0 V (bl+1) k)∧Kp [A,G] w w1):=⟨hD1,hG1,(hK0.mono (by simp)).tr hK1⟩;have h3:(3:Int)≤((cnt n t:Nat):Int):=by omega
 clear hRN hD1 hG1 hK1 hK0 hq hq0' hP0;go_wp2_with fail
 go_quiet (first | (go_at_call 161;exact Calls.quiet_of (zU0 (Laid N l) n q t _ (RN.keep ((Kp.refl [] _).drewN _) (Apt.nil _ _) _ _ _ HRN.out) (by omega))) | (go_at_call 253;exact Calls.quiet_of_same (qR0 _)))
 go_wp2;go_ret;have hKq:Kp [] w1 (w1.drewN nq):=(Kp.refl _ _).drewN _;obtain⟨e1,e2,e3⟩:=HE.out;exact⟨q,rfl,RN.keep hKq (Apt.nil _ _) _ _ _ HRN.out,qG3 e1 hKq (by intro k hk;cases hk),hKq.hp e2,e3.tr hKq⟩
theorem xF6(n b:Nat)(s:Int)(t:Tn n)(G:Nat)(bl:Int)(k:ByteArray)(w:World)(hd:Devl V A N C l writes w)(hL:Laid N l n b s t)(hG:w.heap[G]?=some (qD0 V bl k))(hb0:0≤bl)(hb1:bl≤1000000)(hc3:min n 1<cnt n t)(hcn:cnt n t≤1000):
  Calls prog 211 #[.pointer (some ⟨G,0,none⟩),.agg #[.int .i64 b,.int .u64 s]] w fun e w'=>∃ q,e=.returned (.pointer (some ⟨q,0,none⟩))∧RN (Laid N l) n w' q t∧Devl V A N C l writes w'∧w'.heap[G]?=some (qD0 V (bl+1) k)∧Kp [A,G] w w':=by
 have hat:=hL.at;have HREAD:Hid (∀ W,Kp [] w W→Calls prog 255 #[.pointer (some ⟨G,0,none⟩),.agg #[.int .i64 b,.int .u64 s]] W fun e w'=>∃ q,e=.returned (.pointer (some ⟨q,0,none⟩))∧RN (Laid N l) n w' q t∧Devl V A N C l writes w'∧w'.heap[G]?=some (qD0 V (bl+1) k)∧Kp [A,G] W w'):=fun W hW=>zM3 V A N C l writes hN hs hAC hVA n b s t G bl k W (qG3 hd hW (by intro k hk;cases hk)) hL (hW.hp hG) hb0 hb1;clear hd hL hG;go_enter func211,ntmps211;go_wp2_with fail;obtain⟨w0,hw0,hP0,hK0,hs0⟩:=qF0 w (.cells #[.int .i64 (b:Int),.int .u64 s] 84);rw[←hw0];clear hw0;refine (show Calls _ _ _ _ _ from HREAD.out w0 hK0).mono ?_;rintro e w1 ⟨q,rfl,hRN,hD1,hG1,hK1⟩;obtain⟨vp,vl,hq⟩:=hRN.lev;have HRN:=zh hRN;have HE:Hid (Devl V A N C l writes w1∧w1.heap[G]?=some (qD0 V (bl+1) k)∧Kp [A,G] w w1):=⟨hD1,hG1,(hK0.mono (by simp)).tr hK1⟩;have h6:(n:Int)<6:=by omega
 obtain⟨mn,hmn,hgt⟩:∃ mn:Int,(if (1:Int)<(n:Int) then 1 else (n:Int))=mn∧mn<((cnt n t:Nat):Int):=⟨_,rfl,by split<;>omega⟩;have HQ:=zh hq;clear hRN hD1 hG1 hK1 hK0 hP0 hq;go_wp2_with fail;have hSd:w1.drew.heap[q]?=some (τ (n:Int) vp vl):=HQ.out;refine wp_region_held_drew (S:=fun W=>W.heap[q]?=some (τ (n:Int) vp vl)) (by kernel_rfl) hSd (fun _=>?_);refine zP 0 q 0 hSd ?_;refine zV 1 (.pointer (some ⟨q,0,none⟩)) rfl (fun W hS=>by have c:=ζ hS;clear hS;go_simp) hSd ?_;refine zP 2 q 0 hSd ?_;refine zV 3 (.int .i64 (n:Int)) rfl (fun W hS=>by have a:=ξ hS 0;simp only[τ,zG,zH,zI] at a;clear hS;go_simp) hSd ?_;refine zU 4 (.bool true) hSd ?_;refine zU 5 (.bool true) hSd ?_;refine zP 6 q 0 hSd ?_;refine zP 8 q 0 hSd ?_;refine zV 9 (.pointer (some ⟨q,0,none⟩)) rfl (fun W hS=>by have c:=ζ hS;clear hS;go_simp) hSd ?_;refine zP 10 q 0 hSd ?_;refine zV 11 (.int .i64 (n:Int)) rfl (fun W hS=>by have a:=ξ hS 0;simp only[τ,zG,zH,zI] at a;clear hS;go_simp) hSd ?_;refine zU 12 (.int .i64 mn) hSd ?_;refine zq 7 fun K hK=>?_;go_simp;refine (zU0 (Laid N l) n q t w1.drew (RN.keep ((Kp.refl [] _).drew) (Apt.nil _ _) _ _ _ HRN.out) (by omega)).mono ?_;rintro e w2 ⟨rfl,nn,hw2⟩;have hK2:Kp [] w1 w2:=by rw[hw2];exact ((Kp.refl [] _).drew).trans ((Kp.refl [] _).drewN _) (by simp)
 have hS2:=hK2.hp HQ.out;refine hK.out _ _ hS2 (fun _=>?_);clear hK K hw2
 try simp only[zZ]
 refine zU 13 (.bool true) hS2 ?_;refine zU 14 (.bool true) hS2 ?_;refine zq 15 fun K hK=>?_;go_simp;refine (qR0 w2).mono ?_;rintro e w3 ⟨rfl,hw⟩;rw[hw];clear hw w3;refine hK.out _ _ hS2 (fun _=>?_);clear hK K;refine zd ?_
 try simp only[zZ]
 have HE2:Hid (RN (Laid N l) n w2 q t∧Devl V A N C l writes w2∧w2.heap[G]?=some (qD0 V (bl+1) k)∧Kp [A,G] w w2):=by
  obtain⟨e1,e2,e3⟩:=HE.out;exact⟨RN.keep hK2 (Apt.nil _ _) _ _ _ HRN.out,qG3 e1 hK2 (by intro k hk;cases hk),hK2.hp e2,e3.tr hK2⟩
 clear hK2 hS2 hSd;go_wp2;go_ret;exact⟨q,rfl,HE2.out⟩
end
end Go.Proofs.YtdohpenfkdckiaaGreatDoor
namespace Go.Proofs.YtdohpenfkdckiaaGreatDoor
open Go.Proofs.Tryz
def Old:(n:Nat)→Lnk (Tn n)→Prop
 | 0,l=>l.ref.isSome=true
 | n+1,l=>l.ref.isSome=true∧∀ m∈η l.sub,Old n m
theorem Old.some{n:Nat}{l:Lnk (Tn n)}(h:Old n l):l.ref.isSome=true:=by
 cases n with
 | zero=>exact h
 | succ n=>exact h.1
theorem zR2{N:Nat}{l:List UInt8}:∀ (n b:Nat) (s:Int) (t:Tn (n+1)),Laid N l (n+1) b s t→∀ m∈η t,Old n m
 | n,b,s,t,h,m,hm=>by
  obtain⟨h1,h2,h3,hs,h4,h5⟩:=h;obtain⟨i,hi,rfl⟩:=List.getElem_of_mem hm;have hr:=(h4.2 i (by rw[h4.1];exact hi) hi).2
  cases hx:(η t)[i].ref with
  | none=>
   rw[hx] at hr;obtain⟨_,_,q,_,hq⟩:=hr;exact hq.elim
  | some x=>
   rw[hx] at hr
   cases n with
   | zero=>show (η t)[i].ref.isSome=true;rw[hx];rfl
   | succ n=>exact⟨by rw[hx];rfl,zR2 n x.1 x.2 _ hr.2.2.2⟩
end Go.Proofs.YtdohpenfkdckiaaGreatDoor
namespace Go.Proofs.YtdohpenfkdckiaaGreatDoor
open Go.Proofs.Tryz
open Go.RowKit
def qG4(k:ByteArray)(ps:List KV):ByteArray:=(ps.getLast?.map KV.k).getD k
theorem xH5(k:ByteArray):qG4 k []=k:=rfl
theorem qX0(k:ByteArray)(ps:List KV)(p:KV):qG4 k (ps++[p])=p.k:=by simp[qG4]
theorem xH4(k:ByteArray)(a b:List KV):qG4 (qG4 k a) b=qG4 k (a++b):=by
 rcases List.eq_nil_or_concat b with rfl|⟨c,p,rfl⟩
 ·simp[qG4]
 ·rw[List.concat_eq_append,qX0,←List.append_assoc,qX0]
theorem zC5{k x:ByteArray}{ps:List KV}(hk:kl k x=true∨ps≠[])(h:∀ q∈ps,kl q.k x=true):kl (qG4 k ps) x=true:=by
 rcases List.eq_nil_or_concat ps with rfl|⟨c,p,rfl⟩
 ·rcases hk with h|h
  ·exact h
  ·exact absurd rfl h
 ·rw[List.concat_eq_append] at *;rw[qX0];exact h p (by simp)
theorem zQ5{a b:ByteArray}(h:kl a b=true):Op.bytesLess b.toList a.toList=false∧(b.toList == a.toList)=false:=
 ⟨qN9 h,by rw[zH7];simpa using (qI4 h).symm⟩
def qV8(V A N C:Nat)(l:List UInt8)(writes:Int)(n:Nat):Prop:=
 ∀ (t:Tn n) (q G:Nat) (lh:HL) (bl:Int) (k:ByteArray) (b:Nat) (s:Int) (w:World),Devl V A N C l writes w→w.heap[G]?=some (qD0 V bl k)→RN (Laid N l) n w q t→Laid N l n b s t→Good n lh.key t→(∀ p∈cont n t,kl k p.k=true)→0≤bl→bl+qB4 n t≤1000000→
  Calls prog 210 #[.pointer (some ⟨G,0,none⟩),qB9 lh,.pointer (some ⟨q,0,none⟩)] w fun e w'=>e=.returned (.tuple #[])∧w'.heap[G]?=some (qD0 V (bl+qB4 n t-1) (qG4 k (cont n t)))∧Devl V A N C l writes w'∧Kp [A,G] w w'
theorem jJ7(V A N C:Nat)(l:List UInt8)(writes:Int):qV8 V A N C l writes 0:=by
 intro t q G lh bl k b s w hd hG hR hL hgood hk hb0 hb1;obtain⟨vp,hq,hsl⟩:=hR;obtain⟨bs,cp,rfl⟩:=qM8 hsl;obtain⟨ps,hps⟩:∃ ps,ps=prs t:=⟨_,rfl⟩;have hlen:ps.length≤126:=by rw[hps];exact hL.2.2.2.2.2.2
 have hsorted:Sorted ps:=by rw[hps];exact hgood.sorted
 have hall:∀ p∈ps,kl p.k lh.key=false:=fun p hp=>(hgood.all p (by rw[hps] at hp;exact hp)).2;have hkk:∀ p∈ps,kl k p.k=true:=fun p hp=>hk p (by rw[hps] at hp;exact hp);rw[show bl+((qB4 0 t:Nat):Int)-1=bl by simp[qB4],show cont 0 t=ps from hps.symm];rw[←hps] at hsl hq;have HGOOD:Hid (Sorted ps∧(∀ p∈ps,kl p.k lh.key=false)∧∀ p∈ps,kl k p.k=true):=⟨hsorted,hall,hkk⟩;have HD:=zh hd;have HSL:=zh hsl;have HQ:=zh hq;have hqG:q≠G:=qC3 hq hG (by decide);have hGs:=ζ hG;have hqs:=ζ hq;have HG:=zh hG;have q1:=ξ hq;simp only[τ,zG,zH,zI] at q1;clear hd hG hq hsl hL hgood hk hps hsorted hall hkk;rw[qB9];go_enter func210,ntmps210;go_wp2_with fail;obtain⟨w0,hw0,hP0,hK0,hs0⟩:=qF0 w (.cells #[.string lh.key,.int .i64 lh.b,.int .u64 lh.s,.pointer lh.ptr] 87);rw[←hw0];have HP0:=zh hP0;have HK0:=zh hK0;have HQC:Hid (w.cell? ⟨q,1,none⟩=w.cell? ⟨q,1,none⟩):=rfl;clear hw0 hP0 hK0 q1
 go_loopw [15] (fun i wr=>∃ (j:Nat),j≤ps.length∧i=.int .i64 j∧w.heap.size<wr.heap.size∧Hid (wr.heap[G]?=some (qD0 V bl (qG4 k (ps.take j))))∧Hid (wr.heap[w.heap.size]?=some (.cells #[.string lh.key,.int .i64 lh.b,.int .u64 lh.s,.pointer lh.ptr] 87))∧Hid (Kp [G] w wr)) (fun i _=>ps.length-(intOf i).toNat)
 case atStart=>exact⟨0,Nat.zero_le _,rfl,by omega,HK0.out.hp HG.out,HP0,HK0.out.mono (by simp)⟩
 case round=>
  obtain⟨j,hj,rfl,hsw,HGr,HPr,HKr⟩:=hrel;clear HP0 HK0 hs0;by_cases hlt:j<ps.length
  ·obtain⟨gb,off,cp',cur,fr,hv,hcp,hrow,hcur⟩:=HSL.out.pair (by omega);obtain⟨c0,c1⟩:=hcur j hlt;simp only[Value.slice.injEq,true_and] at hv;obtain⟨rfl,rfl⟩:=hv;have hR:=HKr.out.heap hrow (by simp;exact qC3 hrow HG.out (by decide));have a0:=ξ hR (off+j*2);rw[c0] at a0;have a1:=ξ hR (off+j*2+1);rw[c1] at a1;have hgs:=ζ hR;have hjb:(j:Int)<(ps.length:Int):=by omega
   have hm:=List.getElem_mem hlt;have hgt0:kl (qG4 k (ps.take j)) ps[j].k=true:=zC5 (.inl (HGOOD.out.2.2 _ hm)) fun q hq=>by
    have hp:=HGOOD.out.1;rw[←List.take_append_drop j ps,List.drop_eq_getElem_cons hlt] at hp;exact (List.pairwise_append.1 hp).2.2 q hq _ (List.mem_cons_self ..)
   obtain⟨hgt,hgt2⟩:=zQ5 hgt0;clear hgt0;have hge:Op.bytesLess ps[j].k.toList lh.key.toList=false:=HGOOD.out.2.1 _ hm;have HEN:Hid (qG4 k (ps.take (j+1))=ps[j].k):=by
    show qG4 k (ps.take (j+1))=ps[j].k;rw[List.take_succ_eq_append_getElem hlt,qX0]
   clear hcur hcp hrow;go_wp2_with fail;obtain⟨w1,hw1,h71,hK1,hs1⟩:=qF0 wr (.cells #[.string ps[j].k,.string ps[j].v] 185);rw[←hw1];clear hw1 a0 a1 hR hgs;have hG1:=hK1.hp HGr.out;have hP1:=hK1.hp HPr.out;have hG1s:=ζ hG1;have hP1s:=ζ hP1;have h71s:=ζ h71;have g0:=ξ hG1 0;have g1:=ξ hG1 1;have g2:=ξ hG1 2;simp only[qD0,zG,zH,zI] at g0 g1 g2;have p0:=ξ hP1 0;simp only[zG,zH,zI] at p0;have z0:=ξ h71;have HG1:=zh hG1;have HP1:=zh hP1;have H71:=zh h71;have HK1:Hid (Kp [G] w w1):=HKr.out.tr hK1;clear hG1 hP1 h71 hK1
   go_quiet (first | (go_at_call 253;exact Calls.quiet_of_same (qR0 _)))
   obtain⟨wq,hwq,hKq⟩:∃ wq,wq=w1.drewN nq∧Kp [] w1 wq:=⟨_,rfl,(Kp.refl _ _).drewN _⟩;rw[←hwq];clear hwq g0 g1 g2 p0 z0 hgt hgt2 hge;have hG2:=hKq.hp HG1.out;have hP2:=hKq.hp HP1.out;have h72:=hKq.hp H71.out;have hG2s:=ζ hG2;have h72s:=ζ h72;have hqs2:=hKq.size;have g0:=ξ hG2 0;have g1:=ξ hG2 1;have g2:=ξ hG2 2;simp only[qD0,zG,zH,zI] at g0 g1 g2;have z0:=ξ h72;have f2:=ι hG2 2;have HG2:=zh hG2;have HP2:=zh hP2;have HK2:Hid (Kp [G] w wq):=HK1.out.tr hKq;clear hG2 hP2 h72 hKq HG1 HP1 HK1 H71;go_wp2;have hK3:Kp [G] wq (wq.setCell ⟨G,2,none⟩ (.string ps[j].k)):=(Kp.refl _ _).sc _;refine⟨⟨j+1,by omega,by go_num,by have:=hK3.size;omega,?_,hK3.ho HP2.out,HK2.out.tr hK3⟩,by simp[intOf];omega⟩;show _=_;rw[HEN.out];exact χ HG2.out 2 _
  ·have hjb:¬(j:Int)<(ps.length:Int):=by omega
   have e:ps.take j=ps:=List.take_of_length_le (by omega);have hGr:=HGr.out;rw[e] at hGr;have HGe:=Hid.mk' hGr;have hqr:=HKr.out.heap HQ.out (by simpa using hqG);have hqrs:=ζ hqr;have q1:=ξ hqr;simp only[τ,zG,zH,zI] at q1;have HKe:Hid (Kp [A,G] w wr):=HKr.out.mono (by simp);have HDe:Hid (Devl V A N C l writes wr):=qG3 HD.out HKr.out (OffD.one HG.out (by decide));clear e hGr HGr hqr HSL HGOOD HQC HPr;go_wp2_with fail
   go_loopw [48] (fun i w'=>i=.int .i64 0∧w'=wr) (fun _ _=>0)
   case atStart=>exact⟨rfl,rfl⟩
   case round=>
    obtain⟨rfl,rfl⟩:=hrel;go_wp2
    go_end0
    exact⟨rfl,HGe.out,HDe.out,HKe.out⟩
theorem zE5{N:Nat}{l:List UInt8}:∀ {n b:Nat} {s:Int} {t:Tn n},Laid N l n b s t→cnt n t≤126
 | 0,_,_,_,h=>h.2.2.2.2.2.2
 | n+1,_,_,t,h=>by
  obtain⟨_,_,_,hs,h1,_,_,_,_,h2⟩:=h;show (η t).length≤126;rw[←h1.1];exact h2
theorem xT4{N:Nat}{l:List UInt8}{n b:Nat}{s:Int}{t:Tn (n+1)}{w:World}{hs:List HL}(hL:Laid N l (n+1) b s t)(hbo:Both (RLof (RN (Laid N l) n w) (Laid N l n)) hs (η t)):
  ∀ j (h1:j<hs.length) (h2:j<(η t).length),hs[j].key=(η t)[j].key∧hs[j].p=none∧∃ b':Nat,hs[j].b=(b':Int)∧Laid N l n b' hs[j].s (η t)[j].sub:=by
 intro j h1 h2;have ho:=zR2 n b s t hL _ (List.getElem_mem h2);have hr:=hbo.2 j h1 h2
 cases hx:(η t)[j].ref with
 | none=>have:=ho.some;rw[hx] at this;cases this
 | some x=>
  obtain⟨e0,e⟩:=hr;rw[hx] at e;obtain⟨e1,e2,e3,e4⟩:=e;exact⟨e0,e3,x.1,e1,by rw[e2];exact e4⟩
theorem xM2{n:Nat}{lo:ByteArray}{t:Tn (n+1)}(hg:Good (n+1) lo t)(j:Nat)(hj:j<(η t).length):
  (∀ q∈((η t).take j).flatMap (fun m=>cont n m.sub),kl q.k (η t)[j].key=true)∧(0<j→((η t).take j).flatMap (fun m=>cont n m.sub)≠[])∧(∀ p∈cont n (η t)[j].sub,kl p.k (η t)[j].key=false∧p∈cont (n+1) t):=by
 refine⟨fun q hq=>?_,fun h0 e=>?_,fun p hp=>⟨?_,?_⟩⟩
 ·obtain⟨m,hm,hq⟩:=List.mem_flatMap.1 hq;have hp:(η t).Pairwise (qO5 n):=hg.pair;rw[←List.take_append_drop j (η t),List.drop_eq_getElem_cons hj] at hp;exact ((List.pairwise_append.1 hp).2.2 m hm _ (List.mem_cons_self ..)).2 q hq
 ·obtain⟨a,r,er⟩:∃ a r,(η t).take j=a::r:=by
   cases hx:(η t).take j with
   | nil=>have h5:=congrArg List.length hx;rw[List.length_take,List.length_nil] at h5;omega
   | cons a r=>exact⟨a,r,rfl⟩
  have ha:=hg.all a (List.mem_of_mem_take (i:=j) (by show a∈(η t).take j;rw[er];simp));obtain⟨q,hq⟩:=qW6 n a.key a.sub ha.1 (by omega);have:q∈((η t).take j).flatMap (fun m=>cont n m.sub):=List.mem_flatMap.2 ⟨a,by rw[er];simp,hq⟩;rw[e] at this;cases this
 ·exact ((qM1 n _ _ (hg.all _ (List.getElem_mem hj)).1).2 p hp).2
 ·exact List.mem_flatMap.2 ⟨_,List.getElem_mem hj,hp⟩
theorem jJ8(V A N C:Nat)(l:List UInt8)(writes:Int)(hN:N≤1000)(hln:N*128≤l.length)(hAC:C≠A)(hVA:V≠A)(n:Nat)(IH:qV8 V A N C l writes n):qV8 V A N C l writes (n+1):=by
 intro t q G lh bl k b s w hd hG hR hL hgood hk hb0 hb1;obtain⟨vl,hq,hs,hsl,hbo⟩:=hR;obtain⟨bs,cp,rfl⟩:=qM8 hsl;have hat:=hL.at;have hLK:=xT4 hL hbo;have HLK:=zh hLK;have HLEN:Hid (hs.length=(η t).length∧hs.length≤126):=⟨hbo.1,by rw[hbo.1];exact zE5 hL⟩;have HGOOD:=zh hgood;have HKK:=zh hk;have HD:=zh hd;have HSL:=zh hsl;have HQ:=zh hq;have HND:Hid (qB4 (n+1) t=1+meas (fun m:Lnk (Tn n)=>qB4 n m.sub) (η t)):=rfl;have hqG:q≠G:=qC3 hq hG (by decide);have hqA:q≠A:=by obtain⟨c,h⟩:=hd.hA;exact qC3 hq h (by decide)
 have hGA:G≠A:=by obtain⟨c,h⟩:=hd.hA;exact qC3 hG h (by decide)
 have hAs:A<w.heap.size:=by obtain⟨c,h⟩:=hd.hA;exact ζ h
 have hGs:=ζ hG;have hqs:=ζ hq;have HG:=zh hG;have HB1:=zh hb1;rw[show bl+((qB4 (n+1) t:Nat):Int)-1=bl+((meas (fun m:Lnk (Tn n)=>qB4 n m.sub) (η t):Nat):Int) by rw[HND.out];omega,show cont (n+1) t=(η t).flatMap fun m=>cont n m.sub from rfl];have q1:=ξ hq;simp only[τ,zG,zH,zI] at q1;clear hd hG hq hsl hL hgood hk hbo hLK hb1;rw[qB9];go_enter func210,ntmps210;go_wp2_with fail;obtain⟨w0,hw0,hP0,hK0,hs0⟩:=qF0 w (.cells #[.string lh.key,.int .i64 lh.b,.int .u64 lh.s,.pointer lh.ptr] 87);rw[←hw0];have HP0:=zh hP0;have HK0:=zh hK0;clear hw0 hP0 hK0 q1
 go_loopw [15] (fun i w'=>i=.int .i64 0∧w'=w0) (fun _ _=>0)
 case atStart=>exact⟨rfl,rfl⟩
 case round=>
  obtain⟨rfl,hwr0⟩:=hrel;rw[hwr0];clear hwr0;have hq0:=HK0.out.hp HQ.out;have hq0s:=ζ hq0;have q1:=ξ hq0 1;have q2:=ξ hq0 2;simp only[τ,zG,zH,zI] at q1 q2;clear hq0;go_wp2_with fail
  go_loopw [48] (fun i wr=>∃ (j:Nat),j≤hs.length∧i=.int .i64 j∧w.heap.size<wr.heap.size∧Hid (wr.heap[G]?=some (qD0 V (bl+meas (fun m:Lnk (Tn n)=>qB4 n m.sub) ((η t).take j)) (qG4 k (((η t).take j).flatMap fun m=>cont n m.sub))))∧Hid (Devl V A N C l writes wr)∧Hid (wr.heap[w.heap.size]?=some (.cells #[.string lh.key,.int .i64 lh.b,.int .u64 lh.s,.pointer lh.ptr] 87))∧Hid (Kp [A,G] w wr)) (fun i _=>hs.length-(intOf i).toNat)
  case atStart=>exact⟨0,Nat.zero_le _,rfl,by omega,by show _=_;simpa [qE1,xH5] using HK0.out.hp HG.out,qG3 HD.out HK0.out (by intro k hk;cases hk),HP0,HK0.out.mono (by simp)⟩
  case round=>
   rename_i wr hrel;obtain⟨j,hj,rfl,hsw,HGr,HDr,HPr,HKr⟩:=hrel;clear q1 q2 HP0 HK0 hs0 hq0s;by_cases hlt:j<hs.length
   ·have hjm:j<(η t).length:=by have:=HLEN.out;omega
    obtain⟨hkey,hpn,b',hbb,hlaid⟩:=HLK.out j hlt hjm;obtain⟨gl1,gl2,gl3⟩:=xM2 HGOOD.out j hjm;have hga:=HGOOD.out.all (η t)[j] (List.getElem_mem hjm);have hms:=qJ8 (fun m:Lnk (Tn n)=>qB4 n m.sub) (η t) j hjm;have hmt:=qM6 (fun m:Lnk (Tn n)=>qB4 n m.sub) (η t) (j+1);have hb1:=HB1.out;rw[HND.out] at hb1;have hfs:((η t).take (j+1)).flatMap (fun m=>cont n m.sub)=((η t).take j).flatMap (fun m=>cont n m.sub)++cont n (η t)[j].sub:=by
     rw[List.take_succ_eq_append_getElem hjm,List.flatMap_append];simp
    have HBEL:Hid (∀ W,Devl V A N C l writes W→W.heap[G]?=some (qD0 V (bl+meas (fun m:Lnk (Tn n)=>qB4 n m.sub) ((η t).take j)) (qG4 k (((η t).take j).flatMap fun m=>cont n m.sub)))→W.heap[q]?=some (τ ((n+1:Nat):Int) (.slice none 0 0) (.slice bs hs.length cp))→Calls prog 254 #[.pointer (some ⟨G,0,none⟩),.pointer (some ⟨q,0,none⟩),.agg #[.int .i64 hs[j].b,.int .u64 hs[j].s]] W fun e w'=>∃ q2,e=.returned (.pointer (some ⟨q2,0,none⟩))∧RN (Laid N l) n w' q2 (η t)[j].sub∧Devl V A N C l writes w'∧w'.heap[G]?=some (qD0 V (bl+meas (fun m:Lnk (Tn n)=>qB4 n m.sub) ((η t).take j)+1) (qG4 k (((η t).take j).flatMap fun m=>cont n m.sub)))∧Kp [A,G] W w'):=fun W h1 h2 h3=>by
     rw[hbb];exact xD3 V A N C l writes hN hln hAC hVA n b' hs[j].s (η t)[j].sub G q _ _ _ _ W h1 hlaid h2 h3 (by omega) (by omega) hga.2.1 (by have:=zE5 hlaid;omega)
    have HWALK:Hid (∀ W q2,Devl V A N C l writes W→W.heap[G]?=some (qD0 V (bl+meas (fun m:Lnk (Tn n)=>qB4 n m.sub) ((η t).take j)+1) (qG4 k (((η t).take j).flatMap fun m=>cont n m.sub)))→RN (Laid N l) n W q2 (η t)[j].sub→Calls prog 210 #[.pointer (some ⟨G,0,none⟩),.agg #[.string hs[j].key,.int .i64 hs[j].b,.int .u64 hs[j].s,.pointer hs[j].ptr],.pointer (some ⟨q2,0,none⟩)] W fun e w'=>e=.returned (.tuple #[])∧w'.heap[G]?=some (qD0 V (bl+meas (fun m:Lnk (Tn n)=>qB4 n m.sub) ((η t).take (j+1))) (qG4 k (((η t).take (j+1)).flatMap fun m=>cont n m.sub)))∧Devl V A N C l writes w'∧Kp [A,G] W w'):=fun W q2 h1 h2 h3=>by
     have h:=IH (η t)[j].sub q2 G hs[j] _ _ b' hs[j].s W h1 h2 h3 hlaid (by rw[hkey];exact hga.1) (fun p hp=>zC5 (.inl (HKK.out p (gl3 p hp).2)) fun q hq=>qM3 (gl1 q hq) (gl3 p hp).1) (by omega) (by omega);rw[xH4,←hfs] at h;refine h.mono ?_;rintro e w' ⟨e1,e2,e3⟩;refine⟨e1,?_,e3⟩;rw[e2]
     congr 2
     omega
    have hneed:0<j→kl (qG4 k (((η t).take j).flatMap fun m=>cont n m.sub)) hs[j].key=true:=fun h0=>by rw[hkey];exact zC5 (.inr (gl2 h0)) gl1
    have hhead:j=0→hs[j].key=lh.key:=fun h0=>by
     rw[hkey];refine HGOOD.out.head _ ?_;show (η t)[j]∈(η t).head?;rw[List.head?_eq_getElem?];subst h0;exact List.getElem?_eq_getElem hjm
    obtain⟨gb,off,cp',cur,fr,hv,hcp,hrow,hcur⟩:=HSL.out.link (by omega);obtain⟨c0,c1,c2,c3⟩:=hcur j hlt;simp only[Value.slice.injEq,true_and] at hv;obtain⟨rfl,rfl⟩:=hv;have hR:=HKr.out.heap hrow (by simp;exact⟨by obtain⟨c,h⟩:=HD.out.hA;exact qC3 hrow h (by decide),qC3 hrow HG.out (by decide)⟩);have a0:=ξ hR (off+j*4);rw[c0] at a0;have a1:=ξ hR (off+j*4+1);rw[c1] at a1;have a2:=ξ hR (off+j*4+2);rw[c2] at a2;have a3:=ξ hR (off+j*4+3);rw[c3] at a3;have hgs:=ζ hR;have hjb:(j:Int)<(hs.length:Int):=by omega
    have HNEED:=zh hneed;have HHEAD:=zh hhead;clear c0 c1 c2 c3 hR hcur hcp hrow hneed hhead hfs hb1 hmt hms hga gl1 gl2 gl3 hlaid hbb hpn hkey;obtain⟨kk,hkk0⟩:∃ x,x=qG4 k (((η t).take j).flatMap fun m=>cont n m.sub):=⟨_,rfl⟩;obtain⟨bm,hbm0⟩:∃ x:Int,x=bl+meas (fun m:Lnk (Tn n)=>qB4 n m.sub) ((η t).take j):=⟨_,rfl⟩;obtain⟨k2,hk20⟩:∃ x,x=qG4 k (((η t).take (j+1)).flatMap fun m=>cont n m.sub):=⟨_,rfl⟩;obtain⟨b2,hb20⟩:∃ x:Int,x=bl+meas (fun m:Lnk (Tn n)=>qB4 n m.sub) ((η t).take (j+1)):=⟨_,rfl⟩;rw[←hkk0,←hbm0] at HBEL HGr;rw[←hkk0,←hbm0,←hk20,←hb20] at HWALK;rw[←hkk0] at HNEED;have HEQ:Hid (k2=qG4 k (((η t).take (j+1)).flatMap fun m=>cont n m.sub)∧b2=bl+meas (fun m:Lnk (Tn n)=>qB4 n m.sub) ((η t).take (j+1))):=⟨hk20,hb20⟩;clear hkk0 hbm0 hk20 hb20;generalize hs[j]=hx at HBEL HWALK HNEED HHEAD a0 a1 a2 a3;have HJ:=zh hlt;clear hlt hj;by_cases hj0:j=0
    ·have hkk:=HHEAD.out hj0;subst hj0;simp only[Nat.zero_mul,Nat.add_zero] at a0 a1 a2 a3;have hPr:=HPr.out;have p0:=ξ hPr 0;simp only[zG,zH,zI] at p0;rw[←hkk] at p0;clear hPr;have HKY:=zh hkk;clear hkk;go_wp2_with fail;obtain⟨w1,hw1,h71,hK1,hs1⟩:=qF0 wr (.cells #[.string hx.key,.int .i64 hx.b,.int .u64 hx.s,.pointer hx.ptr] 87);rw[←hw1];clear hw1 a0 a1 a2 a3 hgs;have HG1:=Hid.mk' (hK1.hp HGr.out);have HP1:Hid (w1.heap[w.heap.size]?=some (.cells #[.string lh.key,.int .i64 lh.b,.int .u64 lh.s,.pointer lh.ptr] 87)):=hK1.hp HPr.out;have H71:=zh h71;have HD1:Hid (Devl V A N C l writes w1):=qG3 HDr.out hK1 (by intro k hk;cases hk);have HQ1:Hid (w1.heap[q]?=some (τ ((n+1:Nat):Int) (.slice none 0 0) (.slice (some ⟨gb,off,none⟩) hs.length cp))):=hK1.heap (HKr.out.heap HQ.out (by simp[hqA,hqG])) (by simp);have HK1:Hid (Kp [A,G] w w1):=HKr.out.tr hK1;clear h71 hK1;clear p0;refine (qR0 w1).mono ?_;rintro e w1' ⟨rfl,hw⟩;rw[hw];clear hw w1';go_wp2_with fail;obtain⟨wq,hwq,hKq⟩:∃ wq,wq=w1∧Kp [] w1 wq:=⟨_,rfl,(Kp.refl _ _)⟩;rw[←hwq];clear hwq;have hKd:Kp [] w1 wq.drew:=hKq.drew;have hGd:=hKd.hp HG1.out;have hSd:wq.drew.heap[wr.heap.size]?=some (.cells #[.string hx.key,.int .i64 hx.b,.int .u64 hx.s,.pointer hx.ptr] 87):=hKd.hp H71.out;have hDd:=qG3 HD1.out hKd (by intro k hk;cases hk);have hQd:=hKd.hp HQ1.out;refine wp_region_held_drew (S:=fun W=>W.heap[wr.heap.size]?=some (.cells #[.string hx.key,.int .i64 hx.b,.int .u64 hx.s,.pointer hx.ptr] 87)) (by kernel_rfl) hSd (fun _=>?_);refine zP 0 G 0 hSd ?_;refine zV 1 (.agg #[.string hx.key,.int .i64 hx.b,.int .u64 hx.s,.pointer hx.ptr]) rfl (fun W hS=>by have a:=ξ hS;clear hS;go_simp) hSd ?_;refine zP 2 G 0 hSd ?_;refine zP 3 q 0 hSd ?_;refine zP 4 wr.heap.size 1 hSd ?_;refine zW 5 (.agg #[.int .i64 hx.b,.int .u64 hx.s]) hSd id ?_;refine zq 6 fun K hK=>?_;go_simp;refine (show Calls _ _ _ _ _ from HBEL.out wq.drew hDd hGd hQd).mono ?_;rintro e w2 ⟨q2,rfl,hR2,hD2,hG2,hK2⟩;have hS2:=hK2.ho hSd;refine hK.out _ _ hS2 (fun _=>?_);clear hK K
     try simp only[zZ]
     refine zq 7 fun K hK=>?_;go_simp;refine (show Calls _ _ _ _ _ from HWALK.out w2 q2 hD2 hG2 hR2).mono ?_;rintro e w3 ⟨rfl,hG3,hD3,hK3⟩;refine hK.out _ _ (hK3.ho hS2) (fun _=>?_);clear hK K;refine zd ?_
     try simp only[zZ]
     have HE:Hid (w3.heap[G]?=some (qD0 V b2 k2)∧Devl V A N C l writes w3∧w3.heap[w.heap.size]?=some (.cells #[.string lh.key,.int .i64 lh.b,.int .u64 lh.s,.pointer lh.ptr] 87)∧Kp [A,G] w w3∧w.heap.size<w3.heap.size):=by
      have hK23:Kp [A,G] w1 w3:=((hKd.mono (by simp)).tr hK2).tr hK3;exact⟨hG3,hD3,hK23.ho HP1.out,HK1.out.tr hK23,by have:=hK23.size;omega⟩
     clear hG3 hD3 hK3 hS2 hR2 hD2 hG2 hK2 hSd hDd hQd hGd hKd hKq;go_wp2
     try rw[HWJ.out]
     obtain⟨f1,f2,f3,f4,f5⟩:=HE.out;rw[HEQ.out.1,HEQ.out.2] at f1;have hle:=HLEN.out.2;have hjlt:=HJ.out;exact⟨⟨0+1,by have:=HJ.out;omega,by go_num,f5,f1,f2,f3,f4⟩,by have:=HJ.out;simp[intOf];omega⟩
    ·have hjz:¬(j:Int)=0:=by omega
     have hgt0:=HNEED.out (by omega);obtain⟨hgt,hgt2⟩:=zQ5 hgt0;clear hgt0;go_wp2_with fail;obtain⟨w1,hw1,h71,hK1,hs1⟩:=qF0 wr (.cells #[.string hx.key,.int .i64 hx.b,.int .u64 hx.s,.pointer hx.ptr] 87);rw[←hw1];clear hw1 a0 a1 a2 a3 hgs;have HG1:=Hid.mk' (hK1.hp HGr.out);have HP1:Hid (w1.heap[w.heap.size]?=some (.cells #[.string lh.key,.int .i64 lh.b,.int .u64 lh.s,.pointer lh.ptr] 87)):=hK1.hp HPr.out;have H71:=zh h71;have HD1:Hid (Devl V A N C l writes w1):=qG3 HDr.out hK1 (by intro k hk;cases hk);have HQ1:Hid (w1.heap[q]?=some (τ ((n+1:Nat):Int) (.slice none 0 0) (.slice (some ⟨gb,off,none⟩) hs.length cp))):=hK1.heap (HKr.out.heap HQ.out (by simp[hqA,hqG])) (by simp);have HK1:Hid (Kp [A,G] w w1):=HKr.out.tr hK1;clear h71 hK1;have hG1:=HG1.out;have h71:=H71.out;have hG1s:=ζ hG1;have h71s:=ζ h71;have g0:=ξ hG1 0;have g1:=ξ hG1 1;have g2:=ξ hG1 2;simp only[qD0,zG,zH,zI] at g0 g1 g2;have z0:=ξ h71;clear hG1 h71
     go_quiet (first | (go_at_call 253;exact Calls.quiet_of_same (qR0 _)))
     clear hgt hgt2 g0 g1 g2 z0;go_wp2_with fail;have HWJ:Hid (wrap64 ((j:Int)+1)=(j:Int)+1):=by show wrap64 ((j:Int)+1)=(j:Int)+1;have:=HJ.out;have:=HLEN.out.2;simp only[wrap64];omega
     obtain⟨wq,hwq,hKq⟩:∃ wq,wq=w1.drewN nq∧Kp [] w1 wq:=⟨_,rfl,((Kp.refl _ _).drewN _)⟩;rw[←hwq];clear hwq;have hKd:Kp [] w1 wq.drew:=hKq.drew;have hGd:=hKd.hp HG1.out;have hSd:wq.drew.heap[wr.heap.size]?=some (.cells #[.string hx.key,.int .i64 hx.b,.int .u64 hx.s,.pointer hx.ptr] 87):=hKd.hp H71.out;have hDd:=qG3 HD1.out hKd (by intro k hk;cases hk);have hQd:=hKd.hp HQ1.out;refine wp_region_held_drew (S:=fun W=>W.heap[wr.heap.size]?=some (.cells #[.string hx.key,.int .i64 hx.b,.int .u64 hx.s,.pointer hx.ptr] 87)) (by kernel_rfl) hSd (fun _=>?_);refine zP 0 G 0 hSd ?_;refine zV 1 (.agg #[.string hx.key,.int .i64 hx.b,.int .u64 hx.s,.pointer hx.ptr]) rfl (fun W hS=>by have a:=ξ hS;clear hS;go_simp) hSd ?_;refine zP 2 G 0 hSd ?_;refine zP 3 q 0 hSd ?_;refine zP 4 wr.heap.size 1 hSd ?_;refine zW 5 (.agg #[.int .i64 hx.b,.int .u64 hx.s]) hSd id ?_;refine zq 6 fun K hK=>?_;go_simp;refine (show Calls _ _ _ _ _ from HBEL.out wq.drew hDd hGd hQd).mono ?_;rintro e w2 ⟨q2,rfl,hR2,hD2,hG2,hK2⟩;have hS2:=hK2.ho hSd;refine hK.out _ _ hS2 (fun _=>?_);clear hK K
     try simp only[zZ]
     refine zq 7 fun K hK=>?_;go_simp;refine (show Calls _ _ _ _ _ from HWALK.out w2 q2 hD2 hG2 hR2).mono ?_;rintro e w3 ⟨rfl,hG3,hD3,hK3⟩;refine hK.out _ _ (hK3.ho hS2) (fun _=>?_);clear hK K;refine zd ?_
     try simp only[zZ]
     have HE:Hid (w3.heap[G]?=some (qD0 V b2 k2)∧Devl V A N C l writes w3∧w3.heap[w.heap.size]?=some (.cells #[.string lh.key,.int .i64 lh.b,.int .u64 lh.s,.pointer lh.ptr] 87)∧Kp [A,G] w w3∧w.heap.size<w3.heap.size):=by
      have hK23:Kp [A,G] w1 w3:=((hKd.mono (by simp)).tr hK2).tr hK3;exact⟨hG3,hD3,hK23.ho HP1.out,HK1.out.tr hK23,by have:=hK23.size;omega⟩
     clear hG3 hD3 hK3 hS2 hR2 hD2 hG2 hK2 hSd hDd hQd hGd hKd hKq;go_wp2
     try rw[HWJ.out]
     obtain⟨f1,f2,f3,f4,f5⟩:=HE.out;rw[HEQ.out.1,HEQ.out.2] at f1;have hle:=HLEN.out.2;have hjlt:=HJ.out;exact⟨⟨j+1,by have:=HJ.out;omega,by go_num,f5,f1,f2,f3,f4⟩,by have:=HJ.out;simp[intOf];omega⟩
   ·have hjb:¬(j:Int)<(hs.length:Int):=by omega
    have e:(η t).take j=η t:=List.take_of_length_le (by have:=HLEN.out;omega);have hGr:=HGr.out;rw[e] at hGr;have HGe:=Hid.mk' hGr;clear e hGr HGr;go_wp2
    go_end0
    exact⟨rfl,HGe.out,HDr.out,HKr.out⟩
theorem zY1(V A N C:Nat)(l:List UInt8)(writes:Int)(hN:N≤1000)(hln:N*128≤l.length)(hAC:C≠A)(hVA:V≠A):∀ n,qV8 V A N C l writes n
 | 0=>jJ7 V A N C l writes
 | n+1=>jJ8 V A N C l writes hN hln hAC hVA n (zY1 V A N C l writes hN hln hAC hVA n)
theorem xS8{k:ByteArray}(h:1≤k.size):kl ⟨#[]⟩ k=true:=by
 by_cases e:kl ⟨#[]⟩ k=true
 ·exact e
 ·have h2:=qY3 (a:=⟨#[]⟩) (b:=k) (by simpa using e) (qN1 k);rw[←h2] at h;exact absurd h (by decide)
theorem jH5(V A N C:Nat)(l:List UInt8)(writes:Int)(hN:N≤1000)(hln:N*128≤l.length)(hAC:C≠A)(hVA:V≠A)(n b:Nat)(s:Int)(L:Lnk (Tn n))(w:World)(hd:Devl V A N C l writes w)(hL:Laid N l n b s L.sub)(href:L.ref=some (b,s))(hg:RGood (.at n L))(hcount:qB4 n L.sub≤100000):
  Calls prog 144 #[υ V ⟨⟨#[]⟩,b,s,none⟩] w fun e w'=>e=.returned (.int .i64 (qB4 n L.sub))∧Devl V A N C l writes w'∧Kp [A] w w':=by
 have hlie:Lie N l b s (.at n L):=⟨b,rfl,href,hL⟩;have hkey:L.key=⟨#[]⟩:=hg.1;have HEMP:Hid (∀ W,Kp [] w W→Calls prog 92 #[υ V ⟨⟨#[]⟩,b,s,none⟩] W fun e w'=>e=.returned (.bool false)∧Kp [] W w'):=fun W hW=>by
  have hr:RR (EL V A N C l writes hN hln hAC hVA).toEnv W ⟨⟨#[]⟩,b,s,none⟩ (.at n L):=hlie.rr hg W;exact qT7 (EL V A N C l writes hN hln hAC hVA).toEnv n ⟨⟨#[]⟩,b,s,none⟩ L W hr hkey
 have hgood:Good n ⟨#[]⟩ L.sub:=by have:=hg.2.1;rw[hkey] at this;exact this
 have HROOT:Hid (∀ W G,Devl V A N C l writes W→W.heap[G]?=some (qD0 V 0 ⟨#[]⟩)→Calls prog 211 #[.pointer (some ⟨G,0,none⟩),.agg #[.int .i64 b,.int .u64 s]] W fun e w'=>∃ q,e=.returned (.pointer (some ⟨q,0,none⟩))∧RN (Laid N l) n w' q L.sub∧Devl V A N C l writes w'∧w'.heap[G]?=some (qD0 V (0+1) ⟨#[]⟩)∧Kp [A,G] W w'):=fun W G h1 h2=>xF6 V A N C l writes hN hln hAC hVA n b s L.sub G 0 ⟨#[]⟩ W h1 hL h2 (by omega) (by omega) hg.2.2 (by have:=zE5 hL;omega);have HWALK:Hid (∀ W G q,Devl V A N C l writes W→W.heap[G]?=some (qD0 V (0+1) ⟨#[]⟩)→RN (Laid N l) n W q L.sub→Calls prog 210 #[.pointer (some ⟨G,0,none⟩),.agg #[.string ⟨#[]⟩,.int .i64 b,.int .u64 s,.pointer none],.pointer (some ⟨q,0,none⟩)] W fun e w'=>e=.returned (.tuple #[])∧(∃ k,w'.heap[G]?=some (qD0 V (qB4 n L.sub) k))∧Devl V A N C l writes w'∧Kp [A,G] W w'):=fun W G q h1 h2 h3=>by
  have h:=zY1 V A N C l writes hN hln hAC hVA n L.sub q G ⟨⟨#[]⟩,b,s,none⟩ _ _ b s W h1 h2 h3 hL hgood (fun p hp=>xS8 ((qM1 n _ _ hgood).2 p hp).1.1) (by omega) (by omega);refine h.mono ?_;rintro e w' ⟨e1,e2,e3⟩;refine⟨e1,⟨qG4 ⟨#[]⟩ (cont n L.sub),?_⟩,e3⟩;rw[e2]
  congr 2
  omega
 have HD:=zh hd;have hAs:A<w.heap.size:=by obtain⟨c,h⟩:=hd.hA;exact ζ h
 clear hd hL href hg hgood hlie hkey;rw[show υ V ⟨⟨#[]⟩,b,s,none⟩=.agg #[.pointer (some ⟨V,0,none⟩),.string ⟨#[]⟩,.int .i64 b,.int .u64 s,.pointer none] from rfl] at HEMP ⊢;go_enter func144,ntmps144;go_wp2_with fail;obtain⟨w0,hw0,hT0,hG0,hK0,hs0⟩:∃ w0,w0=(w.alloc (.cells #[.pointer (some ⟨V,0,none⟩),.string ⟨#[]⟩,.int .i64 b,.int .u64 s,.pointer none] 89)).alloc (qD0 V 0 ⟨#[]⟩)∧w0.heap[w.heap.size]?=some (.cells #[.pointer (some ⟨V,0,none⟩),.string ⟨#[]⟩,.int .i64 b,.int .u64 s,.pointer none] 89)∧w0.heap[w.heap.size+1]?=some (qD0 V 0 ⟨#[]⟩)∧Kp [] w w0∧w0.heap.size=w.heap.size+2:=by
  refine⟨_,rfl,θ _ (μ _ _),?_,((Kp.refl _ _).alloc _).alloc _,by simp⟩;have e:=μ (w.alloc (.cells #[.pointer (some ⟨V,0,none⟩),.string ⟨#[]⟩,.int .i64 b,.int .u64 s,.pointer none] 89)) (qD0 V 0 ⟨#[]⟩);simpa using e
 rw[qD0] at hw0;rw[←hw0];clear hw0;refine (show Calls _ _ _ _ _ from HEMP.out w0 hK0).mono ?_;rintro e w1 ⟨rfl,hK1⟩;have HT1:Hid (w1.heap[w.heap.size]?=some (.cells #[.pointer (some ⟨V,0,none⟩),.string ⟨#[]⟩,.int .i64 b,.int .u64 s,.pointer none] 89)):=hK1.hp hT0;have HG1:Hid (w1.heap[w.heap.size+1]?=some (qD0 V 0 ⟨#[]⟩)):=hK1.hp hG0;have HK1:Hid (Kp [] w w1):=hK0.tr hK1;clear hK0 hK1 hT0 hG0 hs0;go_wp2_with fail;have hKd:Kp [] w1 w1.drew:=(Kp.refl [] _).drew;have hDd:Devl V A N C l writes w1.drew:=qG3 HD.out (HK1.out.tr hKd) (by intro k hk;cases hk);have hSd:w1.drew.heap[w.heap.size]?=some (.cells #[.pointer (some ⟨V,0,none⟩),.string ⟨#[]⟩,.int .i64 b,.int .u64 s,.pointer none] 89):=HT1.out;refine wp_region_held_drew (S:=fun W=>W.heap[w.heap.size]?=some (.cells #[.pointer (some ⟨V,0,none⟩),.string ⟨#[]⟩,.int .i64 b,.int .u64 s,.pointer none] 89)) (by kernel_rfl) hSd (fun _=>?_);refine zU 0 (.pointer (some ⟨w.heap.size+1,0,none⟩)) hSd ?_;refine zP 1 w.heap.size 1 hSd ?_;refine zW 2 (.agg #[.string ⟨#[]⟩,.int .i64 b,.int .u64 s,.pointer none]) hSd id ?_;refine zU 3 (.pointer (some ⟨w.heap.size+1,0,none⟩)) hSd ?_;refine zP 4 w.heap.size 1 hSd ?_;refine zP 5 w.heap.size 2 hSd ?_;refine zW 6 (.agg #[.int .i64 b,.int .u64 s]) hSd id ?_;refine zq 7 fun K hK=>?_;go_simp;refine (show Calls _ _ _ _ _ from HROOT.out w1.drew _ hDd HG1.out).mono ?_;rintro e w2 ⟨q2,rfl,hR2,hD2,hG2,hK2⟩;have hS2:=hK2.ho hSd;refine hK.out _ _ hS2 (fun _=>?_);clear hK K
 try simp only[zZ]
 refine zq 8 fun K hK=>?_;go_simp;refine (show Calls _ _ _ _ _ from HWALK.out w2 _ q2 hD2 hG2 hR2).mono ?_;rintro e w3 ⟨rfl,⟨kx,hG3⟩,hD3,hK3⟩;refine hK.out _ _ (hK3.ho hS2) (fun _=>?_);clear hK K;refine zd ?_
 try simp only[zZ]
 have HE:Hid (Devl V A N C l writes w3∧Kp [A] w w3):=⟨hD3,((HK1.out.tr hKd).mono (S':=[A]) (by simp)).trans (hK2.tr hK3) (by intro i hi hlt;simp at hi ⊢;rcases hi with h | h;exact h;omega)⟩;have hG3s:=ζ hG3;have g1:=ξ hG3 1;simp only[qD0,zG,zH,zI] at g1;clear hG3 hD3 hK3 hS2 hR2 hD2 hG2 hK2 hSd hDd hKd;go_wp2;go_ret;exact⟨rfl,HE.out⟩
end Go.Proofs.YtdohpenfkdckiaaGreatDoor
