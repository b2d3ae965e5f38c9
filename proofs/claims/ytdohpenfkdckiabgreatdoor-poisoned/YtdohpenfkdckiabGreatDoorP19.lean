import Derived.Test.YtdohpenfkdckiabGreatDoorP17
import Derived.Test.YtdohpenfkdckiabGreatDoorP18
set_option linter.all false
set_option maxRecDepth 100000
set_option maxHeartbeats 20000000
namespace Go.Proofs.YtdohpenfkdckiabGreatDoor
open Go.Proofs.Tryz
open Go.RowKit
theorem xP8(Tc Kc Wc x f:Nat)(t:Tx)(key:ByteArray)(first cap:Array Value)(R:HL→World→Prop)(w:World)(hTc:w.heap[Tc]?=some (.cells #[.pointer (some ⟨x,0,none⟩)] 29))(hKc:w.heap[Kc]?=some (.cells #[.string key] 9))(hWc:w.heap[Wc]?=some (.cells #[.func (.func f) first cap] 1))(hx:w.heap[x]?=some (qA3 t))(hwr:t.wrt=true)(hk1:1≤key.size)(hk8:key.size≤8)(h0:0≤t.ch)(h1:t.ch≤1000000000)
  (hcf:∀ W:World,Sem.run prog (callFunc f (first++cap)) W=.ok (.enter f (first++cap)) W)
  (hw:Calls prog f (first++cap) w fun e w'=>e=qC6 none∧∃ h',R h' w'∧w'.heap[x]?=some (qA3 { t with h:=h' })∧w'.heap[Tc]?=some (.cells #[.pointer (some ⟨x,0,none⟩)] 29)):
  Calls prog 90 #[.pointer (some ⟨Tc,0,none⟩),.pointer (some ⟨Kc,0,none⟩),.pointer (some ⟨Wc,0,none⟩)] w fun e w'=>e=qC6 none∧∃ w1 h',R h' w1∧w1.heap[x]?=some (qA3 { t with h:=h' })∧w'.heap[x]?=some (qA3 { t with h:=h',ch:=t.ch+1 })∧Kp [x] w1 w':=by
 have hs:=ζ hTc;have hxs:=ζ hx;have hks:=ζ hKc;have hws:=ζ hWc;have c0:=ξ hTc 0;simp only[zG,zH,zI] at c0;have k0:=ξ hKc 0;simp only[zG,zH,zI] at k0;have f0:=ξ hWc 0;simp only[zG,zH,zI] at f0;have x2:=ξ hx 2;simp only[qA3,zG,zH,zI] at x2;rw[hwr] at x2;have HW:=zh hw;clear hw;go_enter func90,ntmps90;go_wp2_with fail;refine (xQ0 key _ hk1 hk8).mono ?_;rintro e w1 ⟨rfl,rfl⟩;simp only[qC6];go_wp2_with fail;refine (show Calls _ _ _ _ _ from HW.out).mono ?_;rintro e w1 ⟨rfl,h',hR,hx1,hTc1⟩;have HR:=zh hR;clear hR;clear c0 k0 f0 x2;have hx1s:=ζ hx1;have hTc1s:=ζ hTc1;have HX:=zh hx1;have c0:=ξ hTc1 0;simp only[zG,zH,zI] at c0;have x9:=ξ hx1 9;simp only[qA3,zG,zH,zI] at x9;have fx9:=ψ hx1 9;clear hx1 hTc1;simp only[qC6];go_wp2
 go_end0
 exact⟨rfl,w1,h',HR.out,HX.out,φ HX.out 9 _,(Kp.refl _ _).sc _⟩
theorem xP3(args:Array Value)(W:World):Sem.run prog (callFunc 90 args) W=.ok (.enter 90 args) W:=by
 simp[go_sem,func90]
theorem xP9(k:Option Int)(hk8:k≠some 8)(x f:Nat)(t:Tx)(s:Sto)(key call:ByteArray)(first cap:Array Value)(X:List Nat)(Q:World→World→Prop)(w:World)(hx:w.heap[x]?=some (qA3 t))(ho:t.over=false)(hSt:w.heap[t.St]?=some (ν 0 s))(hpo:s.po=false)(hxS:x≠t.St)(hX:∀ i,i∈X→i<w.heap.size)
  (hw:∀ (W:World) (Tc Kc Wc:Nat),Kp [t.St] w W→w.heap.size≤Tc→w.heap.size≤Kc→w.heap.size≤Wc→W.heap[t.St]?=some (ν 1 s)→W.heap[Tc]?=some (.cells #[.pointer (some ⟨x,0,none⟩)] 29)→W.heap[Kc]?=some (.cells #[.string key] 9)→W.heap[Wc]?=some (.cells #[.func (.func f) first cap] 1)→
   Calls prog 90 #[.pointer (some ⟨Tc,0,none⟩),.pointer (some ⟨Kc,0,none⟩),.pointer (some ⟨Wc,0,none⟩)] W fun e w1=>e=qC6 k∧Q W w1∧Kp (t.St::X) W w1∧w1.heap[t.St]?=some (ν 1 s)):
  Calls prog 51 #[.pointer (some ⟨x,0,none⟩),.string call,.string key,.func (.func f) first cap] w fun e w'=>∃ v,e=.returned v∧qI6 w' v k∧w'.heap[t.St]?=some (ν 0 s)∧Kp (t.St::X) w w'∧∃ W w1 B,Q W w1∧Kp [t.St] w W∧w.heap.size≤B∧B<W.heap.size∧w1.heap[B]?=some (.cells #[.nilIface] 35)∧Kp [t.St,B] w1 w':=by
 have hmf:=zM;have HW:Hid (∀ (W:World) (Tc Kc Wc:Nat),Kp [t.St] w W→w.heap.size≤Tc→w.heap.size≤Kc→w.heap.size≤Wc→W.heap[t.St]?=some (ν 1 s)→W.heap[Tc]?=some (.cells #[.pointer (some ⟨x,0,none⟩)] 29)→W.heap[Kc]?=some (.cells #[.string key] 9)→W.heap[Wc]?=some (.cells #[.func (.func f) first cap] 1)→
   Calls prog 90 #[.pointer (some ⟨Tc,0,none⟩),.pointer (some ⟨Kc,0,none⟩),.pointer (some ⟨Wc,0,none⟩)] W fun e w1=>e=qC6 k∧Q W w1∧Kp (t.St::X) W w1∧w1.heap[t.St]?=some (ν 1 s)):=hw
 have HX:=zh hX;have HK8:=zh hk8;have HXS:=zh hxS;clear hw hX hk8 hxS;have hxs:=ζ hx;have hSs:=ζ hSt;go_enter func51,ntmps51;go_wp2_with fail;obtain⟨w0,hw0,hT0,hK0,hF0,hKp0,hs0⟩:∃ w0,w0=((w.alloc (.cells #[.pointer (some ⟨x,0,none⟩)] 29)).alloc (.cells #[.string key] 9)).alloc (.cells #[.func (.func f) first cap] 1)∧w0.heap[w.heap.size]?=some (.cells #[.pointer (some ⟨x,0,none⟩)] 29)∧w0.heap[w.heap.size+1]?=some (.cells #[.string key] 9)∧w0.heap[w.heap.size+2]?=some (.cells #[.func (.func f) first cap] 1)∧Kp [] w w0∧w0.heap.size=w.heap.size+3:=by
  refine⟨_,rfl,θ _ (θ _ (μ _ _)),θ _ ?_,?_,(((Kp.refl _ _).alloc _).alloc _).alloc _,by simp⟩
  ·have e:=μ (w.alloc (.cells #[.pointer (some ⟨x,0,none⟩)] 29)) (.cells #[.string key] 9);simpa using e
  ·have e:=μ ((w.alloc (.cells #[.pointer (some ⟨x,0,none⟩)] 29)).alloc (.cells #[.string key] 9)) (.cells #[.func (.func f) first cap] 1);simpa using e
 rw[←hw0];clear hw0;have hx0:=hKp0.hp hx;have hSt0:=hKp0.hp hSt;refine (zA6 k HK8.out x t.St 90 t s s #[] _ call X Q w0 hx0 ho rfl hSt0 hpo HXS.out (xP3 _) (fun i hi=>by have:=HX.out i hi;omega) ?_).mono ?_
 ·intro W hK hS;exact HW.out W w.heap.size (w.heap.size+1) (w.heap.size+2) ((hKp0.mono (S':=[t.St]) (by simp)).trans hK (fun _ h _=>h)) (Nat.le_refl _) (by omega) (by omega) hS (hK.ho hT0) (hK.ho hK0) (hK.ho hF0)
 rintro e w2 ⟨v,rfl,hv,hSt2,hK2,W,w1,B,hQ,hKW,hB1,hB2,hB3,hKB⟩;have HE:Hid (qI6 w2 v k∧w2.heap[t.St]?=some (ν 0 s)∧Kp (t.St::X) w w2∧∃ W w1 B,Q W w1∧Kp [t.St] w W∧w.heap.size≤B∧B<W.heap.size∧w1.heap[B]?=some (.cells #[.nilIface] 35)∧Kp [t.St,B] w1 w2):=
  ⟨hv,hSt2,(hKp0.mono (S':=t.St::X) (by simp)).trans hK2 (fun _ h _=>h),W,w1,B,hQ,(hKp0.mono (S':=[t.St]) (by simp)).trans hKW (fun _ h _=>h),by omega,hB2,hB3,hKB⟩
 clear hv hSt2 hK2 hQ hKW hB3 hKB;go_wp2;go_ret;exact⟨v,rfl,HE.out⟩
structure LiveT(E:SEnv)(w:World)(x A n:Nat)(t:Tx)(s:Sto)(r:Root):Prop where
 hx:w.heap[x]?=some (qA3 t)
 over:t.over=false
 on:t.on=some ⟨E.V,0,none⟩
 hSt:w.heap[t.St]?=some (ν 0 s)
 po:s.po=false
 sV:s.V=E.V
 hV:w.heap[E.V]?=some (qC8 A n)
 n1:n≤1000
 bl0:0≤s.bl
 bl1:s.bl≤1000
 dev:E.Dev w
 vS:E.V ∉ E.S
 rr:RR E.toEnv w t.h r
 good:RGood r
 sz:r.cont.length≤50000
 ch0:0≤t.ch
 ch1:t.ch≤100000000
theorem qB7{w:World}{a b:Nat}{c d:Array Value}{t u:TypeId}{fr gr:Nat × Nat}(ha:w.heap[a]?=some (.cells c t fr))(hb:w.heap[b]?=some (.cells d u gr))(h:t≠u):a≠b:=fun e=>by
 subst e;rw[ha] at hb;cases hb;exact h rfl
theorem LiveT.xS{E:SEnv}{w:World}{x A n:Nat}{t:Tx}{s:Sto}{r:Root}(h:LiveT E w x A n t s r):x≠t.St:=qB7 h.hx h.hSt (by decide)
theorem LiveT.devS{E:SEnv}{w W:World}{x A n:Nat}{t:Tx}{s:Sto}{r:Root}(h:LiveT E w x A n t s r)(hK:Kp [t.St] w W):E.Dev W:=E.keepX w W [t.St] h.dev hK (OffD.one h.hSt (by decide))
theorem LiveT.more{E:SEnv}{w W:World}{x A n:Nat}{t:Tx}{s:Sto}{r:Root}(h:LiveT E w x A n t s r)(hK:Kp [] w W):LiveT E W x A n t s r:=
 { h with hx:=hK.hp h.hx,hSt:=hK.hp h.hSt,hV:=hK.hp h.hV,dev:=E.keepX w W [] h.dev hK (fun k hk=>by simp at hk),rr:=h.rr.keepT hK (Apt.nil _ _) }
structure FineT(E:SEnv)(w w':World)(x:Nat)(t:Tx)(s:Sto)(r':Root)(h':HL):Prop where
 hx:w'.heap[x]?=some (qA3 { t with h:=h',ch:=t.ch+1 })
 rr:RR E.toEnv w' h' r'
 dev:E.Dev w'
 hSt:w'.heap[t.St]?=some (ν 0 s)
 kp:Kp (t.St::x::E.S) w w'
structure BadT(E:SEnv)(w w':World)(t:Tx)(s:Sto):Prop where
 dev:E.Dev w'
 hSt:w'.heap[t.St]?=some (ν 0 s)
 kp:Kp (t.St::E.S) w w'
theorem zK8{w1:World}{St B:Nat}{s:Sto}{lk:Int}(h1:w1.heap[St]?=some (ν lk s))(h2:w1.heap[B]?=some (.cells #[.nilIface] 35)):OffD w1 [St,B]:=(OffD.one h1 (by decide)).cons (OffD.one h2 (by decide))
theorem xK3{w1:World}{St B:Nat}{s:Sto}{lk:Int}(h1:w1.heap[St]?=some (ν lk s))(h2:w1.heap[B]?=some (.cells #[.nilIface] 35)):Apt w1 [St,B] qF8:=(Apt.one h1 (by decide)).cons (Apt.one h2 (by decide))
theorem zS9(E:SEnv)(x A n f:Nat)(t:Tx)(s:Sto)(r r':Root)(key call:ByteArray)(first cap:Array Value)(w:World)(hL:LiveT E w x A n t s r)(hwr:t.wrt=true)(hk1:1≤key.size)(hk8:key.size≤8)
  (hcf:∀ W:World,Sem.run prog (callFunc f (first++cap)) W=.ok (.enter f (first++cap)) W)
  (hw:∀ W:World,Kp [t.St] w W→E.Dev W→W.heap[x]?=some (qA3 t)→W.heap[t.St]?=some (ν 1 s)→W.heap[E.V]?=some (qC8 A n)→RR E.toEnv W t.h r→
   Calls prog f (first++cap) W fun e w1=>e=qC6 none∧∃ w0 h',E.To W w0∧RR E.toEnv w1 h' r'∧w1.heap[x]?=some (qA3 { t with h:=h' })∧Kp [x] w0 w1):
  Calls prog 51 #[.pointer (some ⟨x,0,none⟩),.string call,.string key,.func (.func f) first cap] w fun e w'=>e=.returned .nilIface∧∃ h',FineT E w w' x t s r' h':=by
 have hxS:=hL.xS;refine (xP9 none (by decide) x f t s key call first cap (x::E.S) (fun W w1=>E.Dev w1∧w1.heap[t.St]?=some (ν 1 s)∧∃ h',RR E.toEnv w1 h' r'∧w1.heap[x]?=some (qA3 { t with h:=h',ch:=t.ch+1 })) w hL.hx hL.over hL.hSt hL.po hL.xS (fun i hi=>by
   rcases List.mem_cons.1 hi with h|h
   ·rw[h];exact ζ hL.hx
   ·exact E.low w hL.dev i h) ?_).mono ?_
 ·intro W Tc Kc Wc hK hTcs _ _ hS hT hKc hWc;have hx:=hK.heap hL.hx (by simp;exact hxS);have hd:=hL.devS hK;have hV:=hK.heap hL.hV (by simp;exact fun e=>qB7 hL.hV hL.hSt (by decide) e);have hrr:=hL.rr.keepT hK (Apt.one hL.hSt (by decide));have hxT:x≠Tc:=qB7 hx hT (by decide);have hap:Apt W [x] qF8:=Apt.one hx (by decide);refine (xP8 Tc Kc Wc x f t key first cap (fun h' w1=>∃ w0,E.To W w0∧RR E.toEnv w1 h' r'∧Kp [x] w0 w1) W hT hKc hWc hx hwr hk1 hk8 hL.ch0 (by have:=hL.ch1;omega) hcf ?_).mono ?_
  ·refine (hw W hK hd hx hS hV hrr).mono ?_;rintro e w1 ⟨rfl,w0,h',hT0,hr,hx1,hk⟩;exact⟨rfl,h',⟨w0,hT0,hr,hk⟩,hx1,hk.heap (E.stay hd hT0 hT (by decide)) (by simp;exact fun e=>hxT e.symm)⟩
  ·rintro e w2 ⟨rfl,w1,h',⟨w0,hT0,hr,hk⟩,hx1,hx2,hk2⟩;have hx0:=E.stay hd hT0 hx (by decide);have hd1:=E.keepX w0 w1 [x] hT0.dev hk (OffD.one hx0 (by decide));have hd2:=E.keepX w1 w2 [x] hd1 hk2 (OffD.one hx1 (by decide));have hS2:w2.heap[t.St]?=some (ν 1 s):=hk2.heap (hk.heap (E.stay hd hT0 hS (by decide)) (by simp;exact fun e=>hxS e.symm)) (by simp;exact fun e=>hxS e.symm);refine⟨rfl,⟨hd2,hS2,h',hr.keepT hk2 (Apt.one hx1 (by decide)),hx2⟩,?_,hS2⟩;exact (((hT0.kp.mono (S':=t.St::x::E.S) (by simp +contextual)).trans hk (by simp +contextual)).trans hk2 (by simp +contextual))
 ·rintro e w' ⟨v,rfl,hv,hSt,hK,W,w1,B,⟨hd1,hS1,h',hrr1,hx1⟩,hKW,hB1,hB2,hB3,hKB⟩;have hv':v=.nilIface:=hv;subst hv';refine⟨rfl,h',hKB.heap hx1 ?_,hrr1.keepT hKB (xK3 hS1 hB3),E.keepX w1 w' _ hd1 hKB (zK8 hS1 hB3),hSt,hK⟩;simp only[List.mem_cons,List.not_mem_nil,or_false,not_or];exact⟨hxS,qB7 hx1 hB3 (by decide)⟩
end Go.Proofs.YtdohpenfkdckiabGreatDoor
namespace Go.Proofs.YtdohpenfkdckiabGreatDoor
open Go.Proofs.Tryz
open Go.RowKit Go.Extern.Stop Go.Stop Go.Extern Go.MuLone
inductive Res where
 | ok:Res
 | no (k:Int):Res
 | io:Res
def resE:Res→Ending→Prop
 | .ok,e=>e=qC6 none
 | .no k,e=>e=qC6 (some k)∧k≠8
 | .io,e=>∃ p,e=.panicked (ioP p)
def ErrE(w:World)(v:Value):Res→Prop
 | .ok=>v=.nilIface
 | .no k=>∃ F call,v=.iface 180 (.pointer (some ⟨F,0,none⟩))∧w.heap[F]?=some (.cells #[.string call,.iface 46 (.int .i64 k)] 183)
 | .io=>∃ F call p,v=.iface 180 (.pointer (some ⟨F,0,none⟩))∧w.heap[F]?=some (.cells #[.string call,.iface 241 (.pointer (some p))] 183)
def Sto.after(s:Sto):Res→Sto
 | .io=>{ s with po:=true }
 | _=>s
theorem jA4(v:Value)(xT:TypeId)(w:World):(Instr.typeAssert (.iface 241 v) xT 251 true).run prog w=.ok (.tuple #[.nilIface,.bool false]) w:=run_typeAssert_lacksB underlying251 (by kernel_rfl) (by kernel_rfl) v xT w
theorem jA2(v:Value)(xT:TypeId)(w:World):(Instr.typeAssert (.iface 241 v) xT 204 true).run prog w=.ok (.tuple #[.iface 241 v,.bool true]) w:=run_typeAssert_hasB underlying204 (by kernel_rfl) v xT w
theorem zQ4(p:Addr)(w:World):(Go.method 445 241 (.pointer (some p)) "Unwrap").run prog w=.ok (278,.pointer (some p)) w:=by kernel_rfl
theorem jA3(F:Nat)(call:ByteArray)(p:Addr)(w:World)(hF:w.heap[F]?=some (.cells #[.string call,.iface 241 (.pointer (some p))] 183)):
  Calls prog 84 #[.iface 180 (.pointer (some ⟨F,0,none⟩)),.iface 46 (.int .i64 8)] w fun e w'=>e=.returned (.bool true)∧w'=w:=by
 have h151:=@run_callFunc_extern prog 116 _ ReflectliteType.typeOf func116 (by kernel_rfl) (by kernel_rfl) (by kernel_rfl) (by kernel_rfl);have hcmp:=@run_callFunc_extern prog 268 _ (Extern.ReflectliteType.method fun t=>do Rtype.noPackHeld "Comparable" t;pure (.bool (←typeInfo t).comparable)) func268 (by kernel_rfl) (by kernel_rfl) (by kernel_rfl) (by kernel_rfl);have tT:=qY9;have cT:=zX4;have mR:=zX7;have nF:=zX9;have nV:=jA4;have nE:=zX8;have uV:=jA2;have uF:=zX6;have mU:=qY8;have mV:=zQ4;have hq:=run_eql_iface_types (P:=prog) 180 46 (.pointer (some ⟨F,0,none⟩)) (.int .i64 8) underlying35 (by decide) w;have hq2:=run_eql_iface_types (P:=prog) 241 46 (.pointer (some p)) (.int .i64 8) underlying35 (by decide) w;have he:=zX5 8 w;rw[show ((8:Int) == 8)=true from rfl] at he;have hFs:=ζ hF;have c1:=ξ hF 1;simp only[zG,zH,zI] at c1;go_enter func84,ntmps84;go_wp2;refine wp_loop_rounds 3 ?_;rw[rounds_succ];go_wp2;rw[rounds_succ];go_wp2;rw[rounds_succ];go_wp2;go_ret;exact⟨rfl,rfl⟩
theorem jZ6(T:TypeId)(v:Value)(w:World):
  Calls prog 109 #[.iface 162 (.agg #[.iface T v])] w fun e w'=>e=.returned (.iface T v)∧Kp [] w w':=by
 have hta:∀ W:World,Sem.run prog (Instr.typeAssert (.iface 162 (.agg #[.iface T v])) 20 162 true) W=.ok (.tuple #[.agg #[.iface T v],.bool true]) W:=fun W=>by kernel_rfl
 go_enter func109,ntmps109;go_wp2;go_ret;exact⟨rfl,(Kp.refl _ _).alloc _⟩
theorem xO3(B E:Nat)(T:TypeId)(v:Value)(call:ByteArray)(w:World)(hp:w.heap[B]?=some (.cells #[.string call] 9))(hBE:B≠E)(hE:w.heap[E]?=some (.cells #[.nilIface] 35)):
  CallsD prog 108 #[.pointer (some ⟨B,0,none⟩),.pointer (some ⟨E,0,none⟩)] (.panicking [{ v:=.iface 162 (.agg #[.iface T v]),recovered:=false }]) w fun e u' w'=>
   e=.returned (.tuple #[])∧u'=.panicking [{ v:=.iface 162 (.agg #[.iface T v]),recovered:=true }]∧∃ F,w.heap.size≤F∧w'.heap[F]?=some (.cells #[.string call,.iface T v] 183)∧w'.heap[E]?=some (.cells #[.iface 180 (.pointer (some ⟨F,0,none⟩))] 35)∧Kp [E] w w':=by
 refine callsD_of_wpS func108 rfl fun c₀ cs hu=>?_;apply wpS_seq;apply wpS_region;simp[wpOpsS,go_sem,recoverD,hu,ntmps108,Exit.thenS,Array.replicate];refine wpS_of_wp ?_;go_wp2_with fail;refine wp_region_held_drew (S:=fun W=>W.heap[B]?=some (.cells #[.string call] 9)) (by kernel_rfl) hp (fun _=>?_);refine zV 1 (.iface 162 (.agg #[.iface T v])) rfl (fun W hS=>rfl) hp ?_;refine zV 0 (.string call) rfl (fun W hS=>by have c:=ξ hS 0;simp at c;clear hS;go_simp) hp ?_;refine zq 2 fun K hK=>?_;go_simp;refine (jZ6 T v _).mono ?_;rintro e w2 ⟨rfl,hK2⟩;have hp2:=hK2.heap (k:=B) hp (by simp);have hE2:=hK2.heap (k:=E) hE (by simp);have hK2':Kp [E] w w2:=((Kp.refl [E] w).drew).tr hK2;have hs2:=hK2'.size;clear hK2;refine hK.out _ _ hp2 (fun _=>?_);clear hK K
 try simp only[zZ]
 refine zU 3 (.agg #[.string call,.iface T v]) hp2 ?_;refine zq 4 fun K hK=>?_;go_simp;refine hK.out _ _ (θ _ hp2) (fun _=>?_);clear hK K
 try simp only[zZ]
 have hp3:=θ (.cells #[.string call,.iface T v] 183) hp2;have hE3:=θ (.cells #[.string call,.iface T v] 183) hE2;have hF3:=μ w2 (.cells #[.string call,.iface T v] 183);have hK3:=hK2'.alloc (.cells #[.string call,.iface T v] 183);refine zU 5 (.iface 180 (.pointer (some ⟨w2.heap.size,0,none⟩))) hp3 ?_;generalize w2.alloc (.cells #[.string call,.iface T v] 183)=W3 at *;have hF3s:=ζ hF3;have hE2s:=ζ hE2;have e0:=ξ hE3 0;simp at e0;have ef:=ψ hE3 0;refine zq 6 fun K hK=>?_;go_simp;refine hK.out _ _ ((qA9 hBE _ _).trans hp3) (fun _=>?_);clear hK K;refine zd ?_;exact⟨rfl,_,rfl,_,results_none results108 _ _ _,rfl,rfl,w2.heap.size,hs2,(qA9 (by omega) _ _).trans hF3,φ hE3 0 _,hK3.sc _⟩
theorem xO1(f:Nat)(cap:Array Value)(call:ByteArray)(w:World)(R:World→Prop)(Rb:TypeId→Value→World→Prop)(hcf:∀ W:World,Sem.run prog (callFunc f cap) W=.ok (.enter f cap) W)
  (hw:Calls prog f cap ((w.alloc (.cells #[.string call] 9)).alloc (.cells #[.nilIface] 35)) fun e w'=>((e=.returned (.tuple #[])∧R w')∨(∃ T v,e=.panicked [{ v:=.iface 162 (.agg #[.iface T v]),recovered:=false }]∧Rb T v w'))∧w'.heap[w.heap.size+1]?=some (.cells #[.nilIface] 35)∧w'.heap[w.heap.size]?=some (.cells #[.string call] 9)):
  Calls prog 70 #[.string call,.func (.func f) #[] cap] w fun e w'=>(e=.returned .nilIface∧∃ w1,R w1∧w'=w1.setCell ⟨w.heap.size+1,0,none⟩ .nilIface)∨
   ∃ F T v,e=.returned (.iface 180 (.pointer (some ⟨F,0,none⟩)))∧w'.heap[F]?=some (.cells #[.string call,.iface T v] 183)∧∃ w1,Rb T v w1∧w1.heap.size≤F∧Kp [w.heap.size+1] w1 w':=by
 have hmf:=zM;have HW:=zh hw;clear hw
 go_enter_defers func70,ntmps70
 go_wp2_with fail;refine (show Calls _ _ _ _ _ from HW.out).mono ?_;rintro e w1 ⟨hres,hE,hB⟩;rcases hres with⟨rfl,hR⟩|⟨T,v,rfl,hR⟩
 ·have HR:=zh hR;clear hR;have e0:=ξ hE 0;simp at e0;have ef:=ψ hE 0;go_wp2;refine leaves_cons (f:=108) (args:=#[.pointer (some ⟨w.heap.size,0,none⟩),.pointer (some ⟨w.heap.size+1,0,none⟩)]) (by simp) (by simp[go_sem]) ?_;refine (zS4 ⟨w.heap.size,0,none⟩ ⟨w.heap.size+1,0,none⟩ _).mono ?_;rintro e u' w'' ⟨rfl,rfl,rfl⟩;simp[Leaves,settle,results,results70,go_sem,e0];exact⟨w1,HR.out,rfl⟩
 ·have HR:=zh hR;clear hR;go_wp2;refine leaves_cons (f:=108) (args:=#[.pointer (some ⟨w.heap.size,0,none⟩),.pointer (some ⟨w.heap.size+1,0,none⟩)]) (by simp) (by simp[go_sem]) ?_;refine (xO3 w.heap.size (w.heap.size+1) T v call _ hB (by omega) hE).mono ?_;rintro e u' w2 ⟨rfl,rfl,F,hF,hF2,hE2,hK2⟩;have e0:=ξ hE2 0;simp at e0;simp[Leaves,settle,results,results70,go_sem,e0];exact⟨T,v,hF2,w1,HR.out,hF,hK2⟩
end Go.Proofs.YtdohpenfkdckiabGreatDoor
namespace Go.Proofs.YtdohpenfkdckiabGreatDoor
open Go.Proofs.Tryz
open Go.RowKit Go.MuLone
theorem xJ8(S F St f:Nat)(s:Sto)(first cap:Array Value)(w:World)(Q:Res→World→Prop)(R:World→Prop)(hS:w.heap[S]?=some (.cells #[.pointer (some ⟨St,0,none⟩)] 74))(hF:w.heap[F]?=some (.cells #[.func (.func f) first cap] 1))(hSt:w.heap[St]?=some (ν 1 s))(hpo:s.po=false)
  (hcf:∀ W:World,Sem.run prog (callFunc f (first++cap)) W=.ok (.enter f (first++cap)) W)
  (hw:Calls prog f (first++cap) w fun e w'=>(∃ o,resE o e∧Q o w')∧R w'):
  Calls prog 83 #[.pointer (some ⟨S,0,none⟩),.pointer (some ⟨F,0,none⟩)] w fun e w'=>(∃ o,resE o e∧Q o w')∧R w':=by
 have s0:=ξ hS 0;have f0:=ξ hF 0;have p7:=ξ hSt 7;simp[hpo] at s0 f0 p7;have HW:=Hid.mk' hw;clear hS hF hSt hw;go_enter func83,ntmps83;go_wp2_with fail;refine (show Calls _ _ _ _ _ from HW.out).mono ?_;rintro e w1 ⟨⟨o,ho,hQ⟩,hR⟩
 cases o with
 | ok=>
  have ho':e=qC6 none:=ho;subst ho';simp only[qC6];go_wp2
  go_end0
  exact⟨⟨.ok,rfl,hQ⟩,hR⟩
 | no k=>
  obtain⟨ho',hk8⟩:=ho;subst ho';simp only[qC6];go_wp2;exact⟨rfl,⟨.no k,⟨rfl,hk8⟩,hQ⟩,hR⟩
 | io=>
  obtain⟨p,ho'⟩:=ho;subst ho';go_wp2;exact⟨rfl,⟨.io,⟨p,rfl⟩,hQ⟩,hR⟩
theorem xK0(St f:Nat)(s:Sto)(first cap:Array Value)(call:ByteArray)(X:List Nat)(Q:Res→World→World→Prop)(w:World)(hSt:w.heap[St]?=some (ν 0 s))(hpo:s.po=false)
  (hcf:∀ W:World,Sem.run prog (callFunc f (first++cap)) W=.ok (.enter f (first++cap)) W) (hX:∀ i,i∈X→i<w.heap.size)
  (hw:∀ W:World,Kp [St] w W→W.heap[St]?=some (ν 1 s)→Calls prog f (first++cap) W fun e w1=>(∃ o,resE o e∧Q o W w1)∧Kp (St::X) W w1∧(∃ s',w1.heap[St]?=some (ν 1 s'))):
  Calls prog 44 #[.pointer (some ⟨St,0,none⟩),.string call,.func (.func f) first cap] w fun e w'=>∃ o v,e=.returned v∧ErrE w' v o∧Kp (St::X) w w'∧∃ W w1 B s',Q o W w1∧w1.heap[St]?=some (ν 1 s')∧w'.heap[St]?=some (ν 0 (s'.after o))∧Kp [St] w W∧w.heap.size≤B∧B<W.heap.size∧w1.heap[B]?=some (.cells #[.nilIface] 35)∧Kp [St,B] w1 w':=by
 have hmf:=zM;have HW:=zh hw;have HX:=zh hX;have HPO:=zh hpo;clear hw hX hpo;have hSs:=ζ hSt
 go_enter_defers func44,ntmps44
 go_wp2_with fail;refine (lock_free qO3 ⟨St,0,none⟩ _ (ξ (θ _ (θ _ hSt)) 0) (ψ (θ _ (θ _ hSt)) 0)).mono ?_;rintro e W0 ⟨rfl,rfl⟩;obtain⟨W0,hW0,hK0,hs0,hB0,hF0,hSt0⟩:∃ W0,W0=((w.alloc (.cells #[.pointer (some ⟨St,0,none⟩)] 74)).alloc (.cells #[.func (Fn.func f) first cap] 1)).setCell ⟨St,0,none⟩ (.int .i32 1)∧Kp [St] w W0∧W0.heap.size=w.heap.size+2∧W0.heap[w.heap.size]?=some (.cells #[.pointer (some ⟨St,0,none⟩)] 74)∧W0.heap[w.heap.size+1]?=some (.cells #[.func (Fn.func f) first cap] 1)∧W0.heap[St]?=some (ν 1 s):=by
  refine⟨_,rfl,((((Kp.refl _ _).alloc _).alloc _).sc _),by simp[World.setCell],?_,?_,?_⟩
  ·exact (qA9 (by omega) _ _).trans (θ _ (μ _ _))
  ·refine (qA9 (by omega) _ _).trans ?_;have e:=μ (w.alloc (.cells #[.pointer (some ⟨St,0,none⟩)] 74)) (.cells #[.func (Fn.func f) first cap] 1);simpa using e
  ·exact φ (θ _ (θ _ hSt)) 0 _
 rw[←hW0];clear hW0;have b0:=ξ hB0 0;simp at b0;go_wp2_with fail;obtain⟨Wc,hWc,hKc,hsc,hBc,hFc,hStc,hEc,hCc⟩:∃ Wc,Wc=(W0.alloc (.cells #[.string call] 9)).alloc (.cells #[.nilIface] 35)∧Kp [St] w Wc∧Wc.heap.size=w.heap.size+4∧Wc.heap[w.heap.size]?=some (.cells #[.pointer (some ⟨St,0,none⟩)] 74)∧Wc.heap[w.heap.size+1]?=some (.cells #[.func (Fn.func f) first cap] 1)∧Wc.heap[St]?=some (ν 1 s)∧Wc.heap[W0.heap.size+1]?=some (.cells #[.nilIface] 35)∧Wc.heap[W0.heap.size]?=some (.cells #[.string call] 9):=by
  refine⟨_,rfl,(hK0.alloc _).alloc _,by simp[hs0],θ _ (θ _ hB0),θ _ (θ _ hF0),θ _ (θ _ hSt0),?_,θ _ (μ _ _)⟩;have e:=μ (W0.alloc (.cells #[.string call] 9)) (.cells #[.nilIface] 35);simpa using e
 have HA1:Hid (Calls prog 83 #[.pointer (some ⟨w.heap.size,0,none⟩),.pointer (some ⟨w.heap.size+1,0,none⟩)] Wc fun e w1=>(∃ o,resE o e∧Q o Wc w1)∧Kp (St::X) Wc w1∧(∃ s',w1.heap[St]?=some (ν 1 s'))):=
  xJ8 w.heap.size (w.heap.size+1) St f s first cap Wc (fun o w1=>Q o Wc w1) (fun w1=>Kp (St::X) Wc w1∧(∃ s',w1.heap[St]?=some (ν 1 s'))) hBc hFc hStc HPO.out hcf (HW.out Wc hKc hStc)
 have HNM:Hid (∀ i,w.heap.size≤i→i ∉ St::X):=by
  show ∀ i,w.heap.size≤i→i ∉ St::X;intro i hi h;rcases List.mem_cons.1 h with h|h
  ·omega
  ·have:=HX.out _ h;omega
 clear HW;refine (xO1 83 _ _ _ (fun w1=>Q .ok Wc w1∧Kp (St::X) Wc w1∧(∃ s',w1.heap[St]?=some (ν 1 s'))) (fun T v w1=>(∃ o,Q o Wc w1∧((∃ k,o=.no k∧k≠8∧T=46∧v=.int .i64 k)∨(∃ p,o=.io∧T=241∧v=.pointer (some p))))∧Kp (St::X) Wc w1∧(∃ s',w1.heap[St]?=some (ν 1 s'))) (qV9 _) ?_).mono ?_
 ·rw[←hWc];refine (show Calls _ _ _ _ _ from HA1.out).mono ?_;rintro e w1 ⟨⟨o,ho,hQ⟩,hk,hst⟩;refine⟨?_,hk.heap hEc (HNM.out _ (by omega)),hk.heap hCc (HNM.out _ (by omega))⟩
  cases o with
  | ok=>exact .inl ⟨ho,hQ,hk,hst⟩
  | no k=>exact .inr ⟨_,_,ho.1,⟨.no k,hQ,.inl ⟨k,rfl,ho.2,rfl,rfl⟩⟩,hk,hst⟩
  | io=>
   obtain⟨p,hp⟩:=ho;exact .inr ⟨_,_,hp,⟨.io,hQ,.inr ⟨p,rfl,rfl,rfl⟩⟩,hk,hst⟩
 rintro e w2 hres;rcases hres with⟨rfl,w1,⟨hQ,hk,s',hst⟩,rfl⟩|⟨F,T,v,rfl,hF2,w1,⟨⟨o,hQ,hov⟩,hk,s',hst⟩,hF1,hK12⟩
 ·have hs1:=hk.size;have hEw1:=hk.heap hEc (HNM.out _ (by omega));obtain⟨w2,hw2,hst2,hK2,ho2⟩:∃ w2,w2=w1.setCell ⟨W0.heap.size+1,0,none⟩ .nilIface∧w2.heap[St]?=some (ν 1 s')∧Kp (St::X) w w2∧Kp [St,W0.heap.size+1] w1 w2:=
   ⟨_,rfl,(qA9 (by omega) _ _).trans hst,(((hKc.mono (S':=St::X) (by simp)).trans hk (fun _ h _=>h)).setCell (Or.inr (by simp;omega)) _),(Kp.refl _ _).sc _⟩
  rw[←hw2];clear hw2
  go_wp2_with (go_at_call 84;refine (zH9 8 _).mono ?_;rintro e w' ⟨rfl,rfl⟩)
  refine leaves_cons (f:=82) (args:=#[.pointer (some ⟨St,0,none⟩)]) (by simp) (by simp[go_sem]) ?_;refine (unlock_deferred qO3 ⟨St,0,none⟩ .returning _ (ξ hst2 0) (ψ hst2 0)).mono ?_;rintro e u' w'' ⟨rfl,rfl,rfl⟩;exact⟨_,results_tmp rfl _ _ _,.ok,.nilIface,rfl,rfl,hK2.sc _,Wc,w1,W0.heap.size+1,s',hQ,hst,φ hst2 0 _,hKc,by omega,by omega,hEw1,ho2.sc _⟩
 ·have hs1:=hk.size;have hEw1:=hk.heap hEc (HNM.out _ (by omega));have hst2:=hK12.ho hst;have hK2:Kp (St::X) w w2:=((hKc.mono (S':=St::X) (by simp)).trans hk (fun _ h _=>h)).trans hK12 (by simp;omega);have ho2:Kp [St,W0.heap.size+1] w1 w2:=hK12.mono (by simp +contextual);have hst2s:=ζ hst2;have hFSt:F≠St:=by omega
  rcases hov with⟨k,rfl,hk8,rfl,rfl⟩|⟨p,rfl,rfl,rfl⟩
  ·go_wp2_with (go_at_call 84;refine (zH8 F _ k _ hk8 hF2).mono ?_;rintro e w' ⟨rfl,rfl⟩)
   refine leaves_cons (f:=82) (args:=#[.pointer (some ⟨St,0,none⟩)]) (by simp) (by simp[go_sem]) ?_;refine (unlock_deferred qO3 ⟨St,0,none⟩ .returning _ (ξ hst2 0) (ψ hst2 0)).mono ?_;rintro e u' w'' ⟨rfl,rfl,rfl⟩;exact⟨_,results_tmp rfl _ _ _,.no k,_,rfl,⟨F,_,rfl,(qA9 hFSt _ _).trans hF2⟩,hK2.sc _,Wc,w1,W0.heap.size+1,s',hQ,hst,φ hst2 0 _,hKc,by omega,by omega,hEw1,ho2.sc _⟩
  ·have p7:=ξ hst2 7;simp only[ν,zG,zH,zI] at p7;have f7:=ψ hst2 7;have b2:=ξ (hK12.heap (hk.heap hBc (HNM.out _ (by omega))) (by simp;omega)) 0;simp only[zG,zH,zI] at b2;clear b0
   go_wp2_with (go_at_call 84;refine (jA3 F _ p _ hF2).mono ?_;rintro e w' ⟨rfl,rfl⟩)
   have hst3:=φ hst2 7 (.bool true);refine leaves_cons (f:=82) (args:=#[.pointer (some ⟨St,0,none⟩)]) (by simp) (by simp[go_sem]) ?_;refine (unlock_deferred qO3 ⟨St,0,none⟩ .returning _ (ξ hst3 0) (ψ hst3 0)).mono ?_;rintro e u' w'' ⟨rfl,rfl,rfl⟩;exact⟨_,results_tmp rfl _ _ _,.io,_,rfl,⟨F,_,p,rfl,(qA9 hFSt _ _).trans ((qA9 hFSt _ _).trans hF2)⟩,(hK2.sc _).sc _,Wc,w1,W0.heap.size+1,s',hQ,hst,φ hst3 0 _,hKc,by omega,by omega,hEw1,(ho2.sc _).sc _⟩
theorem xX1(S F x f:Nat)(t:Tx)(first cap:Array Value)(w:World)(Q:Res→World→Prop)(R:World→Prop)(hS:w.heap[S]?=some (.cells #[.pointer (some ⟨x,0,none⟩)] 29))(hF:w.heap[F]?=some (.cells #[.func (.func f) first cap] 1))(hx:w.heap[x]?=some (qA3 t))(ho:t.over=false)
  (hcf:∀ W:World,Sem.run prog (callFunc f (first++cap)) W=.ok (.enter f (first++cap)) W)
  (hw:Calls prog f (first++cap) w fun e w'=>(∃ o,resE o e∧Q o w')∧R w'):
  Calls prog 64 #[.pointer (some ⟨S,0,none⟩),.pointer (some ⟨F,0,none⟩)] w fun e w'=>(∃ o,resE o e∧Q o w')∧R w':=by
 have s0:=ξ hS 0;have f0:=ξ hF 0;have p7:=ξ hx 3;simp[ho] at s0 f0 p7;have HW:=Hid.mk' hw;clear hS hF hx hw;go_enter func64,ntmps64;go_wp2_with fail;refine (show Calls _ _ _ _ _ from HW.out).mono ?_;rintro e w1 ⟨⟨o,hoo,hQ⟩,hR⟩
 cases o with
 | ok=>
  have ho':e=qC6 none:=hoo;subst ho';simp only[qC6];go_wp2
  go_end0
  exact⟨⟨.ok,rfl,hQ⟩,hR⟩
 | no k=>
  obtain⟨ho',hk8⟩:=hoo;subst ho';simp only[qC6];go_wp2;exact⟨rfl,⟨.no k,⟨rfl,hk8⟩,hQ⟩,hR⟩
 | io=>
  obtain⟨p,ho'⟩:=hoo;subst ho';go_wp2;exact⟨rfl,⟨.io,⟨p,rfl⟩,hQ⟩,hR⟩
theorem xX4(x St f:Nat)(t:Tx)(s:Sto)(first cap:Array Value)(call:ByteArray)(X:List Nat)(Q:Res→World→World→Prop)(w:World)(hx:w.heap[x]?=some (qA3 t))(htS:t.St=St)(hSt:w.heap[St]?=some (ν 0 s))(hpo:s.po=false)(hX:∀ i,i∈X→i<w.heap.size)
  (hw:∀ W:World,Kp [St] w W→W.heap[St]?=some (ν 1 s)→W.heap[w.heap.size]?=some (.cells #[.pointer (some ⟨x,0,none⟩)] 29)→W.heap[w.heap.size+1]?=some (.cells #[.func (.func f) first cap] 1)→Calls prog 64 #[.pointer (some ⟨w.heap.size,0,none⟩),.pointer (some ⟨w.heap.size+1,0,none⟩)] W fun e w1=>(∃ o,resE o e∧Q o W w1)∧Kp (St::X) W w1∧(∃ s',w1.heap[St]?=some (ν 1 s'))):
  Calls prog 38 #[.pointer (some ⟨x,0,none⟩),.string call,.func (.func f) first cap] w fun e w'=>∃ o v,e=.returned v∧ErrE w' v o∧Kp (St::X) w w'∧∃ W w1 B s',Q o W w1∧w1.heap[St]?=some (ν 1 s')∧w'.heap[St]?=some (ν 0 (s'.after o))∧Kp [St] w W∧w.heap.size≤B∧B<W.heap.size∧w1.heap[B]?=some (.cells #[.nilIface] 35)∧Kp [St,B] w1 w':=by
 have hmf:=zM;have HW:=zh hw;have HX:=zh hX;have HPO:=zh hpo;clear hw hX hpo;have hSs:=ζ hSt;have hxs:=ζ hx;subst htS;have d0:=ξ (θ (.cells #[.func (Fn.func f) first cap] 1) (θ (.cells #[.pointer (some ⟨x,0,none⟩)] 29) hx)) 0;simp only[zG,zH] at d0;go_enter func38,ntmps38;go_wp2_with fail;obtain⟨W0,hW0,hK0,hs0,hB0,hF0⟩:∃ W0,W0=(w.alloc (.cells #[.pointer (some ⟨x,0,none⟩)] 29)).alloc (.cells #[.func (Fn.func f) first cap] 1)∧Kp [] w W0∧W0.heap.size=w.heap.size+2∧W0.heap[w.heap.size]?=some (.cells #[.pointer (some ⟨x,0,none⟩)] 29)∧W0.heap[w.heap.size+1]?=some (.cells #[.func (Fn.func f) first cap] 1):=by
  refine⟨_,rfl,((Kp.refl _ _).alloc _).alloc _,by simp,θ _ (μ _ _),?_⟩;have e:=μ (w.alloc (.cells #[.pointer (some ⟨x,0,none⟩)] 29)) (.cells #[.func (Fn.func f) first cap] 1);simpa using e
 rw[←hW0];clear hW0;have hSt0:=hK0.hp hSt;refine (xK0 t.St 64 s #[] #[.pointer (some ⟨w.heap.size,0,none⟩),.pointer (some ⟨w.heap.size+1,0,none⟩)] _ X Q W0 hSt0 HPO.out (zG0 _) (fun i hi=>by have:=HX.out i hi;omega) ?_).mono ?_
 ·intro W hK hS;exact HW.out W ((hK0.mono (S':=[t.St]) (by simp)).trans hK (fun _ h _=>h)) hS (hK.ho hB0) (hK.ho hF0)
 rintro e w2 ⟨o,v,rfl,hv,hK2,W,w1,B,s',hQ,hs1,hs2,hKW,hB1,hB2,hB3,hKB⟩;have HR:Hid ((Q o W w1∧Kp [t.St,B] w1 w2)∧w1.heap[t.St]?=some (ν 1 s')∧w2.heap[t.St]?=some (ν 0 (s'.after o))∧ErrE w2 v o):=⟨⟨hQ,hKB⟩,hs1,hs2,hv⟩;clear hQ hKB hs1 hs2 hv;go_wp2;go_ret;exact⟨o,v,rfl,HR.out.2.2.2,(hK0.mono (S':=t.St::X) (by simp)).trans hK2 (fun _ h _=>h),W,w1,B,s',HR.out.1.1,HR.out.2.1,HR.out.2.2.1,(hK0.mono (S':=[t.St]) (by simp)).trans hKW (fun _ h _=>h),by omega,hB2,hB3,HR.out.1.2⟩
theorem xX3(x St f:Nat)(t:Tx)(s:Sto)(first cap:Array Value)(call:ByteArray)(X:List Nat)(Q:Res→World→World→Prop)(w:World)(hx:w.heap[x]?=some (qA3 t))(ho:t.over=false)(htS:t.St=St)(hSt:w.heap[St]?=some (ν 0 s))(hpo:s.po=false)(hne:x≠St)
  (hcf:∀ W:World,Sem.run prog (callFunc f (first++cap)) W=.ok (.enter f (first++cap)) W) (hX:∀ i,i∈X→i<w.heap.size)
  (hw:∀ W:World,Kp [St] w W→W.heap[St]?=some (ν 1 s)→Calls prog f (first++cap) W fun e w1=>(∃ o,resE o e∧Q o W w1)∧Kp (St::X) W w1∧(∃ s',w1.heap[St]?=some (ν 1 s'))):
  Calls prog 38 #[.pointer (some ⟨x,0,none⟩),.string call,.func (.func f) first cap] w fun e w'=>∃ o v,e=.returned v∧ErrE w' v o∧Kp (St::X) w w'∧∃ W w1 B s',Q o W w1∧w1.heap[St]?=some (ν 1 s')∧w'.heap[St]?=some (ν 0 (s'.after o))∧Kp [St] w W∧w.heap.size≤B∧B<W.heap.size∧w1.heap[B]?=some (.cells #[.nilIface] 35)∧Kp [St,B] w1 w':=
 xX4 x St f t s first cap call X Q w hx htS hSt hpo hX fun W hK hS hB hF=>
  xX1 _ _ x f t first cap W (fun o w1=>Q o W w1) (fun w1=>Kp (St::X) W w1∧(∃ s',w1.heap[St]?=some (ν 1 s'))) hB hF (hK.heap hx (by simp;exact hne)) ho hcf (hw W hK hS)
end Go.Proofs.YtdohpenfkdckiabGreatDoor
namespace Go.Proofs.YtdohpenfkdckiabGreatDoor
open Go.Proofs.Tryz
open Go.RowKit
open Go.Maps (Keyed)
theorem resE.split{o:Res}{e:Ending}(h:resE o e):(e=.returned (.tuple #[])∧o=.ok)∨∃ c,e=.panicked c:=by
 cases o with
 | ok=>exact .inl ⟨h,rfl⟩
 | no k=>exact .inr ⟨_,h.1⟩
 | io=>obtain⟨p,h⟩:=h;exact .inr ⟨_,h⟩
theorem xQ2(Tc x n V:Nat)(t:Tx)(s:Sto)(D:DataW Unit)(R:Res→World→World→Prop)(w:World)(hTc:w.heap[Tc]?=some (.cells #[.pointer (some ⟨x,0,none⟩)] 29))(hx:w.heap[x]?=some (qA3 t))(hSt:w.heap[t.St]?=some (ν 1 s))(hM:RM w s.V s.M n D)(h0:0≤t.nr)(h1:t.nr≤1000000000)(hMS:s.M≠t.St)(hxS:x≠t.St)(hxM:x≠s.M)(hTM:Tc≠s.M)(hMs:s.M<w.heap.size)(hon:t.on=some ⟨V,0,none⟩)(hwr:t.wrt=true)
  (hc:∀ W:World,Kp [t.St,x,s.M] w W→W.heap[x]?=some (qA3 t.ended)→W.heap[t.St]?=some (ν 1 (s.left t.nr))→RM W s.V s.M n (D.del (ι t.nr))→Calls prog 41 #[.pointer (some ⟨t.St,0,none⟩),τ V t.h] W fun e w'=>∃ o,resE o e∧R o W w'):
  Calls prog 39 #[.pointer (some ⟨Tc,0,none⟩)] w fun e w'=>∃ o,resE o e∧∃ W,Kp [t.St,x,s.M] w W∧W.heap[x]?=some (qA3 t.ended)∧W.heap[t.St]?=some (ν 1 (s.left t.nr))∧RM W s.V s.M n (D.del (ι t.nr))∧R o W w':=by
 have hxs:=ζ hx;have hTs:=ζ hTc;have hSs:=ζ hSt;have hTx:Tc≠x:=zC0 hTc hx (by decide);have hTS:Tc≠t.St:=zC0 hTc hSt (by decide);have tc0:=ξ hTc 0;simp only[zG,zH,zI] at tc0;have x4:=ξ hx 4;have x5:=ξ hx 5;have x6:=ξ hx 6;have x7:=ξ hx 7;have x8:=ξ hx 8;simp only[qA3,zG,zH,zI] at x4 x5 x6 x7 x8;rw[hon] at x4;have HX:=zh hx;have HT:=zh hTc;have HS:=zh hSt;have HM:=zh hM;have HN:Hid (s.M≠t.St∧x≠t.St∧x≠s.M∧Tc≠s.M∧Tc≠x∧Tc≠t.St):=⟨hMS,hxS,hxM,hTM,hTx,hTS⟩;have HC:=zh hc;clear hx hTc hSt hM hMS hxS hxM hTM hTx hTS hc;go_enter func39,ntmps39;go_wp2_with fail;obtain⟨w0,hw0,hB0,hK0,hs0⟩:∃ w0,w0=w.alloc (.cells #[.pointer (some ⟨V,0,none⟩),.string t.h.key,.int .i64 t.h.b,.int .u64 t.h.s,.pointer t.h.ptr] 83)∧w0.heap[w.heap.size]?=some (.cells #[.pointer (some ⟨V,0,none⟩),.string t.h.key,.int .i64 t.h.b,.int .u64 t.h.s,.pointer t.h.ptr] 83)∧Kp [] w w0∧w0.heap.size=w.heap.size+1:=⟨_,rfl,μ _ _,(Kp.refl _ _).alloc _,by simp⟩;rw[←hw0];clear hw0 tc0 x4 x5 x6 x7 x8;obtain⟨n1,n2,n3,n4,n5,n6⟩:=HN.out;refine (zG3 x n t s D w0 (hK0.hp HX.out) (hK0.hp HS.out) (HM.out.kp hK0 (by simp)) h0 h1 n1 n2 n3).mono ?_;rintro e w1 ⟨rfl,hx1,hS1,hM1,hK1⟩;have hKw:Kp [t.St,x,s.M] w w1:=(hK0.mono (by simp)).trans hK1 (fun _ h _=>h);have hT1:=hKw.heap HT.out (by simp;exact⟨n6,n5,n4⟩);have hB1:=hK1.ho hB0;have hT1s:=ζ hT1;have hx1s:=ζ hx1;have hB1s:=ζ hB1;have tc0:=ξ hT1 0;simp only[zG,zH,zI] at tc0;have x0:=ξ hx1 0;have x2:=ξ hx1 2;simp only[qA3,Tx.ended,zG,zH,zI] at x0 x2;rw[hwr] at x2;have HCALL:Hid (Calls prog 41 #[.pointer (some ⟨t.St,0,none⟩),τ V t.h] w1.drew fun e w'=>∃ o,resE o e∧R o w1.drew w'):=HC.out w1.drew hKw.drew hx1 hS1 (hM1.kp ((Kp.refl [] w1).drew) (by simp));have HEND:Hid (Kp [t.St,x,s.M] w w1.drew∧w1.drew.heap[x]?=some (qA3 t.ended)∧w1.drew.heap[t.St]?=some (ν 1 (s.left t.nr))∧RM w1.drew s.V s.M n (D.del (ι t.nr))):=⟨hKw.drew,hx1,hS1,hM1.kp ((Kp.refl [] w1).drew) (by simp)⟩;have hSd:w1.drew.heap[Tc]?=some (.cells #[.pointer (some ⟨x,0,none⟩)] 29)∧w1.drew.heap[x]?=some (qA3 t.ended)∧w1.drew.heap[w.heap.size]?=some (.cells #[.pointer (some ⟨V,0,none⟩),.string t.h.key,.int .i64 t.h.b,.int .u64 t.h.s,.pointer t.h.ptr] 83):=⟨hT1,hx1,hB1⟩;clear HC hKw hS1 hM1 hK1 hT1 hx1 hB1;go_wp2_with fail;have b:=ξ hSd.2.2;have hb:=hSd.2.2;rw[τ] at HCALL;clear hSd
 go_region_with (go_at_call 41;go_must (refine (show Calls _ _ _ _ _ from HCALL.out).mono ?_);rintro e w2 ⟨o,ho,hR2⟩;rcases ho.split with⟨rfl,rfl⟩ | ⟨cc,rfl⟩;rotate_left;(go_wp2;exact⟨rfl,o,ho,w1.drew,HEND.out.1,HEND.out.2.1,HEND.out.2.2.1,HEND.out.2.2.2,hR2⟩))
 all_goals
  have HR2:=zh hR2;clear hR2 b hb;go_wp2
  go_end0
  exact⟨.ok,rfl,w1.drew,HEND.out.1,HEND.out.2.1,HEND.out.2.2.1,HEND.out.2.2.2,HR2.out⟩
theorem jU8(x n V:Nat)(t:Tx)(s:Sto)(D:DataW Unit)(X:List Nat)(R:Res→World→World→Prop)(w:World)(hx:w.heap[x]?=some (qA3 t))(ho:t.over=false)(hSt:w.heap[t.St]?=some (ν 0 s))(hpo:s.po=false)(hM:RM w s.V s.M n D)(h0:0≤t.nr)(h1:t.nr≤1000000000)(hMS:s.M≠t.St)(hxS:x≠t.St)(hxM:x≠s.M)(hMs:s.M<w.heap.size)(hon:t.on=some ⟨V,0,none⟩)(hwr:t.wrt=true)(hX:∀ i∈X,i<w.heap.size)
  (hc:∀ W:World,Kp [t.St,x,s.M] w W→W.heap[x]?=some (qA3 t.ended)→W.heap[t.St]?=some (ν 1 (s.left t.nr))→RM W s.V s.M n (D.del (ι t.nr))→Calls prog 41 #[.pointer (some ⟨t.St,0,none⟩),τ V t.h] W fun e w'=>∃ o,resE o e∧(∃ s',w'.heap[t.St]?=some (ν 1 s'))∧R o W w'∧Kp (t.St::X) W w'):
  Calls prog 14 #[.pointer (some ⟨x,0,none⟩)] w fun e w'=>∃ o v,e=.returned v∧ErrE w' v o∧Kp (t.St::x::s.M::X) w w'∧∃ W w1 B s',Kp [t.St,x,s.M] w W∧W.heap[x]?=some (qA3 t.ended)∧W.heap[t.St]?=some (ν 1 (s.left t.nr))∧RM W s.V s.M n (D.del (ι t.nr))∧R o W w1∧Kp (t.St::X) W w1∧w1.heap[t.St]?=some (ν 1 s')∧w'.heap[t.St]?=some (ν 0 (s'.after o))∧w.heap.size≤B∧w1.heap[B]?=some (.cells #[.nilIface] 35)∧Kp [t.St,B] w1 w':=by
 have hmf:=zM;have hxs:=ζ hx;have hSs:=ζ hSt;go_enter func14,ntmps14;go_wp2_with fail;obtain⟨w0,hw0,hB0,hK0,hs0⟩:∃ w0,w0=w.alloc (.cells #[.pointer (some ⟨x,0,none⟩)] 29)∧w0.heap[w.heap.size]?=some (.cells #[.pointer (some ⟨x,0,none⟩)] 29)∧Kp [] w w0∧w0.heap.size=w.heap.size+1:=⟨_,rfl,μ _ _,(Kp.refl _ _).alloc _,by simp⟩;rw[←hw0];clear hw0;refine (xX3 x t.St 39 t s #[] #[.pointer (some ⟨w.heap.size,0,none⟩)] _ (x::s.M::X) (fun o W0 w1=>∃ W,Kp [t.St,x,s.M] w W∧W.heap[x]?=some (qA3 t.ended)∧W.heap[t.St]?=some (ν 1 (s.left t.nr))∧RM W s.V s.M n (D.del (ι t.nr))∧R o W w1∧Kp (t.St::X) W w1) w0 (hK0.hp hx) ho rfl (hK0.hp hSt) hpo hxS (zS7 _) (by intro i hi;simp at hi;rcases hi with rfl | rfl | hi;omega;omega;have:=hX i hi;omega) ?_).mono ?_
 ·intro W hK hS;have hKw:Kp [t.St] w W:=(hK0.mono (by simp)).trans hK (fun _ h _=>h);have hTne:w.heap.size≠t.St:=by omega
  refine (xQ2 w.heap.size x n V t s D (fun o W w'=>(∃ s',w'.heap[t.St]?=some (ν 1 s'))∧R o W w'∧Kp (t.St::X) W w') W (hK.heap hB0 (by simp;exact hTne)) (hKw.heap hx (by simp;exact hxS)) hS (hM.kp hKw (by simp;exact hMS)) h0 h1 hMS hxS hxM (by omega) (by have:=hKw.size;omega) hon hwr ?_).mono ?_
  ·intro W' hK' e1 e2 e3;exact hc W' ((hKw.mono (by simp)).trans hK' (fun _ h _=>h)) e1 e2 e3
  ·rintro e w1 ⟨o,ho,W',hK',e1,e2,e3,e4,e5,e6⟩;refine⟨⟨o,ho,W',(hKw.mono (by simp)).trans hK' (fun _ h _=>h),e1,e2,e3,e5,e6⟩,?_,e4⟩;refine (hK'.mono ?_).trans e6 ?_
   ·intro i hi;simp at hi ⊢;omega
   ·intro i hi _;simp at hi ⊢;rcases hi with h | h<;>simp[h]
 rintro e w2 ⟨o,v,rfl,hv,hK2,W0,w1,B,s',⟨W,e1,e2,e3,e4,e5,e6⟩,hs1,hs2,hKW,hB1,hB2,hB3,hKB⟩;have HE:Hid (ErrE w2 v o∧Kp (t.St::x::s.M::X) w w2∧∃ W w1 B s',Kp [t.St,x,s.M] w W∧W.heap[x]?=some (qA3 t.ended)∧W.heap[t.St]?=some (ν 1 (s.left t.nr))∧RM W s.V s.M n (D.del (ι t.nr))∧R o W w1∧Kp (t.St::X) W w1∧w1.heap[t.St]?=some (ν 1 s')∧w2.heap[t.St]?=some (ν 0 (s'.after o))∧w.heap.size≤B∧w1.heap[B]?=some (.cells #[.nilIface] 35)∧Kp [t.St,B] w1 w2):=
  ⟨hv,(hK0.mono (by simp)).trans hK2 (fun _ h _=>h),W,w1,B,s',e1,e2,e3,e4,e5,e6,hs1,hs2,by omega,hB3,hKB⟩
 clear hv hK2 e1 e2 e3 e4 e5 e6 hs1 hs2 hKW hB3 hKB;go_wp2;go_ret;exact⟨o,v,rfl,HE.out⟩
theorem xF5{lk:Int}{s s':Sto}(h:ν lk s=ν lk s'):s=s':=by
 cases s;cases s';simp[ν] at h;simp[h]
theorem zT1{α β:Type}{Q:α→β→Prop}:∀ (hs:List α),(∀ h∈hs,∃ r,Q h r)→∃ rs,Both Q hs rs
 | [],_=>⟨[],rfl,fun i h=>by simp at h⟩
 | h::hs,hq=>by
  obtain⟨r,hr⟩:=hq h (by simp);obtain⟨rs,h1,h2⟩:=zT1 hs fun x hx=>hq x (by simp[hx]);refine⟨r::rs,by simp[h1],fun i hi hi'=>?_⟩
  cases i with
  | zero=>exact hr
  | succ i=>exact h2 i (by simpa using hi) (by simpa using hi')
theorem zM8{h h':HL}(e:qE4 h=qE4 h')(h1:h.p=none)(h2:h'.p=none):h=h':=by
 cases h;cases h';simp[qE4] at e h1 h2;obtain⟨e1,e2,e3⟩:=e;subst h1 h2 e2 e3
 congr
 exact ByteArray.ext e1
structure Qd where
 κ:Kd
 calls:Int
 q:κ.quiet
structure Devq(V A N C:Nat)(l:List UInt8)(wr:Int)(w:World):Prop where
 hV:w.heap[V]?=some (qC8 A N)
 hA:∃ c:Qd,w.heap[A]?=some (qC1 c.κ N C (.slice none 0 0) c.calls wr)
 hC:w.heap[C]?=some (.cells (enc l) 87)
theorem Devq.dk{V A N C:Nat}{l:List UInt8}{wr:Int}{w:World}(h:Devq V A N C l wr w)(hN:N≤1000)(hs:N*128≤l.length):∃ c:Qd,w.heap[A]?=some (qC1 c.κ N C (.slice none 0 0) c.calls wr)∧Dk c.κ V A N C 0 l [] wr w:=by
 obtain⟨c,hA⟩:=h.hA;exact⟨c,hA,h.hV,⟨.slice none 0 0,_,hA,World.ownsRow_nil _ _ _ _,fun _=>rfl⟩,h.hC,.inl c.q,Nat.zero_le _,by simp,by simp,hs,hN⟩
theorem Dk.q{κ:Kd}{V A N C b:Nat}{l:List UInt8}{wr:Int}{w:World}(hq:κ.quiet)(h:Dk κ V A N C b l [] wr w):Devq V A N C l wr w:=by
 obtain⟨v,ca,h1,_,h3⟩:=h.hA;have hv:=h3 rfl;subst hv;exact⟨h.hV,⟨⟨κ,ca,hq⟩,h1⟩,h.hC⟩
def EQ(V A N C:Nat)(l:List UInt8)(writes:Int)(hN:N≤1000)(hs:N*128≤l.length):SEnv where
 O:=Laid N l
 V:=V
 S:=[A]
 Dev:=Devq V A N C l writes
 keep:=fun w w' L hd hK hL=>by
  obtain⟨calls,hA⟩:=hd.hA;have h1:∀ k c t fr,w.heap[k]?=some (.cells c t fr)→t ∉ qX0→k ∉ L:=fun k c t fr e ht hm=>by
   obtain⟨c',t',fr',e',h'⟩:=hL k hm;rw[e] at e';cases e';exact ht h'
  exact⟨hK.heap hd.hV (h1 _ _ _ _ hd.hV (by decide)),⟨_,hK.heap hA (h1 _ _ _ _ hA (by decide))⟩,hK.heap hd.hC (h1 _ _ _ _ hd.hC (by decide))⟩
 apt:=fun w hd k hk c t fr e=>by
  obtain⟨calls,hA⟩:=hd.hA;rw[List.mem_singleton.1 hk,hA] at e;cases e;decide
 low:=fun w hd k hk=>by
  obtain⟨calls,hA⟩:=hd.hA;rw[List.mem_singleton.1 hk];exact ζ hA
 pos:=fun n b s t h=>by have:=h.at;omega
 lvl:=fun n b s t h=>h.at.2.2.2.2
 read:=fun n h r L a w hd hr hp ha=>by
  obtain⟨c,_,hk⟩:=hd.dk hN hs;refine (xG4 n h r L a hk hr hp ha).mono ?_;rintro e w' ⟨⟨hio,_⟩|⟨q,e1,e2,e3⟩,hK⟩
  ·exact absurd c.q hio.1
  ·exact⟨q,e1,e2,e3.q c.q,hK⟩
 keepX:=fun w w' L hd hK hL=>by
  obtain⟨calls,hA⟩:=hd.hA;exact⟨hK.heap hd.hV (fun hm=>hL _ hm _ _ _ hd.hV (by decide)),⟨_,hK.heap hA (fun hm=>hL _ hm _ _ _ hA (by decide))⟩,hK.heap hd.hC (fun hm=>hL _ hm _ _ _ hd.hC (by decide))⟩
 offS:=fun w hd k hk=>by
  obtain⟨calls,hA⟩:=hd.hA;rw[List.mem_singleton.1 hk];exact⟨_,_,_,hA,by decide⟩
theorem xE9{V A N C:Nat}{l:List UInt8}{wr:Int}{hN:N≤1000}{hs:N*128≤l.length}{w:World}{h:HL}{r:Root}(hr:RR (EQ V A N C l wr hN hs).toEnv w h r):qN8 N l r:=by
 cases r with
 | none=>trivial
 | «at» n L=>exact xE5 n h L hr
structure Shop0(w:World)(kc db St A C N nM:Nat)(s:Sto)(D:DataW Unit)(l:List UInt8)(wr:Int)(nw:Root):Prop where
 hDb:w.heap[db]?=some (.cells #[.pointer (some ⟨St,0,none⟩)] 95)
 hSt:w.heap[St]?=some (ν 0 s)
 po:s.po=false
 hM:RM w s.V s.M nM D
 m4:Maps.size D≤4
 n1:nM≤1000000
 dev:Devq s.V A N C l wr w
 N8:8≤N
 N4:N≤400
 len:N*128≤l.length
 lie:Lie N l s.rb s.rs nw
 good:RGood nw
 sz:nw.cont.length≤kc
 bl0:0≤s.bl
 bl1:s.bl≤(nw.cont.length:Int)+1
 sN0:0≤s.N
 bg0:0≤s.bg
 kb:∀ k,Maps.has D k=true→∃ x,k=ι x∧1≤x∧x≤s.bg
 rd:∀ x h,Maps.has D (ι x)=true→(∀ zd,D.atKey (ι x) zd=qE4 h)→h.p=none→h.key=⟨#[]⟩∧∃ r,Lie N l h.b h.s r∧RGood r∧r.cont.length≤kc
structure Shop(w:World)(kc db St A C N nM:Nat)(s:Sto)(D:DataW Unit)(l:List UInt8)(wr:Int)(nw:Root):Prop extends Shop0 w kc db St A C N nM s D l wr nw where
 heads:Heads l s.N s.rb s.rs
 kc1:kc≤900
section
variable {w:World} {kc db St A C N nM:Nat} {s:Sto} {D:DataW Unit} {l:List UInt8} {wr:Int} {nw:Root}
theorem Shop0.N1(h:Shop0 w kc db St A C N nM s D l wr nw):N≤1000:=by have:=h.N4;omega
theorem Shop.hA(h:Shop w kc db St A C N nM s D l wr nw):∃ c:Qd,w.heap[A]?=some (qC1 c.κ N C (.slice none 0 0) c.calls wr):=h.dev.hA
theorem Shop.AC(h:Shop w kc db St A C N nM s D l wr nw):C≠A:=by obtain⟨c,h1⟩:=h.hA;exact qB7 h.dev.hC h1 (by decide)
theorem Shop.VA(h:Shop w kc db St A C N nM s D l wr nw):s.V≠A:=by obtain⟨c,h1⟩:=h.hA;exact qB7 h.dev.hV h1 (by decide)
theorem Shop.N1(h:Shop w kc db St A C N nM s D l wr nw):N≤1000:=by have:=h.N4;omega
abbrev Shop.E(h:Shop w kc db St A C N nM s D l wr nw):SEnv:=EQ s.V A N C l wr h.N1 h.len
theorem qE0{w:World}{a b:Nat}{c:Array Value}{t:TypeId}{fr:Nat × Nat}{V n:Nat}{D:DataW Unit}(ha:w.heap[a]?=some (.cells c t fr))(hb:RM w V b n D):a≠b:=fun e=>by
 obtain⟨es,cl,h,_⟩:=hb;rw[e,h] at ha;cases ha
theorem qP4{V A N C:Nat}{l:List UInt8}{wr:Int}{w w':World}{S:List Nat}(h:Devq V A N C l wr w)(hK:Kp S w w')(hS:OffD w S):Devq V A N C l wr w':=by
 obtain⟨c,hA⟩:=h.hA;exact⟨hK.heap h.hV (fun hm=>hS _ hm _ _ _ h.hV (by decide)),⟨c,hK.heap hA (fun hm=>hS _ hm _ _ _ hA (by decide))⟩,hK.heap h.hC (fun hm=>hS _ hm _ _ _ h.hC (by decide))⟩
end
theorem LiveT.key{E:SEnv}{w:World}{x A n:Nat}{t:Tx}{s:Sto}{r:Root}(hL:LiveT E w x A n t s r):t.h.key=⟨#[]⟩:=by
 have:=hL.rr
 cases r with
 | none=>rw[show t.h=_ from this]
 | «at» n L=>exact this.1.trans hL.good.1
def TwoHeads(N:Nat)(l:List UInt8)(a b:List KV):Prop:=∃ N0 rb0 rs0 N1 rb1 rs1 r0 r1,χ l 0=qB4 N0 rb0 rs0∧χ l 1=qB4 N1 rb1 rs1∧HeadOk 0 N0 rb0 rs0∧HeadOk 1 N1 rb1 rs1∧Lie N l rb0 rs0 r0∧RGood r0∧Lie N l rb1 rs1 r1∧RGood r1∧((r0.cont=a∧r1.cont=b)∨(r0.cont=b∧r1.cont=a))
theorem TwoHeads.made{B:Nat}{l:List UInt8}{i j:Nat}{N rb rs rb' rs':Int}{r r':Root}(h1:χ l i=qB4 (N+1) rb rs)(h2:χ l j=qB4 (N+1+1) rb' rs')(hi:i<2)(hj:j<2)(o1:HeadOk i (N+1) rb rs)(o2:HeadOk j (N+1+1) rb' rs')(l1:Lie B l rb rs r)(g1:RGood r)(l2:Lie B l rb' rs' r')(g2:RGood r'):TwoHeads B l r.cont r'.cont:=by
 have e1:=o1.place;have e2:=o2.place;have hc:(i=0∧j=1)∨(i=1∧j=0):=by omega
 rcases hc with⟨rfl,rfl⟩|⟨rfl,rfl⟩
 ·exact⟨_,_,_,_,_,_,r,r',h1,h2,o1,o2,l1,g1,l2,g2,.inl ⟨rfl,rfl⟩⟩
 ·exact⟨_,_,_,_,_,_,r',r,h2,h1,o2,o1,l2,g2,l1,g1,.inr ⟨rfl,rfl⟩⟩
structure Thn(N:Nat)(D:DataW Unit)(l l':List UInt8)(nw r:Root):Prop where
 reads:∀ y rb rs r0,Maps.has D (ι y)=true→(∀ zd,D.atKey (ι y) zd=qE4 ⟨⟨#[]⟩,rb,rs,none⟩)→Lie N l rb rs r0→Lie N l' rb rs r0
 two:TwoHeads N l' nw.cont r.cont∨(l'=l∧nw.cont=r.cont)
theorem Shop0.dk{w:World}{kc db St A C N nM:Nat}{s:Sto}{D:DataW Unit}{l:List UInt8}{wr:Int}{nw:Root}(h:Shop0 w kc db St A C N nM s D l wr nw):∃ c:Qd,w.heap[A]?=some (qC1 c.κ N C (.slice none 0 0) c.calls wr)∧Dk c.κ s.V A N C 0 l [] wr w:=h.dev.dk h.N1 h.len
def xI2(κ:Kd)(kc db St A C N nM:Nat)(s:Sto)(D:DataW Unit)(l:List UInt8)(wr:Int)(nw:Root)(x:Nat)(t:Tx)(r:Root)(w':World):Res→Prop
 | .ok=>∃ s' l' nt b,(∀ W,Kp [A] w' W→Devq s'.V A N C l' (nx (nk (nx wr) r.news)) W→Shop W kc db St A C N nM s' (D.del (ι t.nr)) l' (nx (nk (nx wr) r.news)) nt)∧Dk κ s.V A N C b l' [] (nx (nk (nx wr) r.news)) w'∧Heads l' s'.N s'.rb s'.rs∧Lie N l' s'.rb s'.rs nt∧RGood nt∧nt.cont=r.cont∧l'.length=l.length∧s'.N=s.N+2∧s'.bg=s.bg∧s'.wr=(s.left t.nr).wr∧s'.V=s.V∧s'.M=s.M∧w'.heap[St]?=some (ν 0 s')∧Thn N (D.del (ι t.nr)) l l' nw r
 | .no _=>False
 | .io=>¬κ.quiet∧(∃ s1:Sto,w'.heap[St]?=some (ν 0 { s1 with po:=true }))∧∃ l1 ws1 b k,Dk κ.up s.V A N C b l1 ws1 (nk wr k) w'∧k≤r.news+2∧∀ l2,Mixed N l1 ws1 l2→qN7 N kc l2 s.N nw.cont r.cont
theorem zM1{κ:Kd}{w w0:World}{kc db St A C N nM base:Nat}{s:Sto}{D:DataW Unit}{l:List UInt8}{wr:Int}{nw:Root}(hS:Shop w0 kc db St A C N nM s D l wr nw)(x:Nat)(t:Tx)(r:Root)(hL:LiveT hS.E w0 x A N t s r)(hKA:Kp [A] w0 w)(hd:Dk κ s.V A N C base l [] wr w)(hts:t.St=St)(hwr:t.wrt=true)(h0:0≤t.nr)(h1:t.nr≤1000000000)(heq:∀ W:World,Sem.run prog (Op.equalIn 10000 83 (τ s.V t.h) (τ s.V ⟨⟨#[]⟩,s.rb,s.rs,none⟩)) W=.ok false W)(hrk:r.cont.length≤kc)(hN9:s.N≤999999999)
  (hrdel:∀ k,Maps.has (D.del (ι t.nr)) k=true→Maps.has D k=true∧∀ zd,(D.del (ι t.nr)).atKey k zd=D.atKey k zd) (hsz:Maps.size (D.del (ι t.nr))≤4)
  (hfit:qC4 r+r.news+Maps.size (D.del (ι t.nr))*kc+qC4 nw+2≤N):
  Calls prog 14 #[.pointer (some ⟨x,0,none⟩)] w fun e w'=>∃ o v,e=.returned v∧ErrE w' v o∧w'.heap[x]?=some (qA3 t.ended)∧Kp [St,x,s.M,A,C] w w'∧xI2 κ kc db St A C N nM s D l wr nw x t r w' o:=by
 subst hts;obtain⟨cA,hA⟩:=hS.hA;have hMS:s.M≠t.St:=(qE0 hS.hSt hS.hM).symm;have hxS:=hL.xS;have hxM:x≠s.M:=qE0 hL.hx hS.hM;have hMs0:s.M<w0.heap.size:=hS.hM.lt;have hsz0:=hKA.size;have hMs:s.M<w.heap.size:=by omega
 have hxA:x≠A:=qB7 hL.hx hA (by decide);have hxC:x≠C:=qB7 hL.hx hS.dev.hC (by decide);have hMA:s.M≠A:=(qE0 hA hS.hM).symm;have hMC:s.M≠C:=(qE0 hS.dev.hC hS.hM).symm;have hSA:t.St≠A:=qB7 hS.hSt hA (by decide);have hSC:t.St≠C:=qB7 hS.hSt hS.dev.hC (by decide);have hDS:db≠t.St:=qB7 hS.hDb hS.hSt (by decide);have hDA:db≠A:=qB7 hS.hDb hA (by decide);have hDC:db≠C:=qB7 hS.hDb hS.dev.hC (by decide);have hDx:db≠x:=qB7 hS.hDb hL.hx (by decide);have hDM:db≠s.M:=qE0 hS.hDb hS.hM;have hxw:=hKA.heap hL.hx (by simpa using hxA);have hStw:=hKA.heap hS.hSt (by simpa using hSA);have hMw:=hS.hM.kp hKA (by simpa using hMA);have hDbw:=hKA.heap hS.hDb (by simpa using hDA);have hoff:qS1 w [t.St,x,s.M]:=fun k hk c ty fr e=>by
  simp only[List.mem_cons,List.not_mem_nil,or_false] at hk;rcases hk with rfl|rfl|rfl
  ·rw[hStw] at e;cases e;decide
  ·rw[hxw] at e;cases e;decide
  ·exact absurd rfl (qE0 e hMw)
 have hapt:Apt w [t.St,x,s.M] qF8:=(Apt.one hStw (by decide)).cons ((Apt.one hxw (by decide)).cons (fun k hk c ty fr e=>by rw[List.mem_singleton.1 hk] at e;exact absurd rfl (qE0 e hMw)));have haptA:Apt w0 [A] qF8:=Apt.one hA (by decide);have hkc:=hS.kc1;have hN8:=hS.N8;have hN4:=hS.N4;have hrt:∀ n l,r=.at n l→l.key=⟨#[]⟩:=fun n l e=>by have h:=hL.good;rw[e] at h;exact h.1
 have hnt:∀ n l,nw=.at n l→l.key=⟨#[]⟩:=fun n l e=>by have h:=hS.good;rw[e] at h;exact h.1
 have hbn:=hS.lie.bnd hS.N1;obtain⟨i,hi⟩:∃ i:Nat,(s.N+1) % 2=(i:Int):=⟨((s.N+1) % 2).toNat,by have:=hS.sN0;omega⟩;obtain⟨j,hj⟩:∃ j:Nat,(s.N+1+1) % 2=(j:Int):=⟨((s.N+1+1) % 2).toNat,by have:=hS.sN0;omega⟩;have hi2:i<2:=by have:=hS.sN0;omega
 have hj2:j<2:=by have:=hS.sN0;omega
 obtain⟨P,hPd⟩:∃ P:List HL→List Root→Prop,P=fun hs rs=>ReadH (D.del (ι t.nr)) hs∧Both (fun h r=>h.p=none∧h.key=⟨#[]⟩∧Lie N l h.b h.s r∧RGood r∧r.cont.length≤kc) hs rs:=⟨_,rfl⟩;have hP:∀ hs rs,P hs rs→ReadH (D.del (ι t.nr)) hs∧Both (fun h r=>h.p=none∧h.key=⟨#[]⟩∧Lie N l h.b h.s r∧RGood r∧r.cont.length≤kc) hs rs:=fun hs rs h=>by rw[hPd] at h;exact h
 have hlen1:N*128≤(qB6 l i (qB4 (s.N+1) s.rb s.rs)).length:=qX7 l _ i N (qJ2 _ _ _) hS.len (by omega);have hrd:∀ hs rs,P hs rs→meas qC4 rs≤Maps.size (D.del (ι t.nr))*kc:=fun hs rs h=>by
  obtain⟨h1,h2,h3⟩:=hP hs rs h;have h4:∀ r∈rs,qC4 r≤kc:=fun r hr=>by
   obtain⟨k,hk,rfl⟩:=List.getElem_of_mem hr;obtain⟨_,_,_,g,g2⟩:=h3 k (by rw[h2];exact hk) hk;have:=qQ6 g;by_cases e:rs[k].cont.length=0
   ·have:2*qC4 rs[k]≤1:=by omega
    omega
   ·omega
  have h5:∀ (rs:List Root),(∀ r∈rs,qC4 r≤kc)→meas qC4 rs≤rs.length*kc:=fun rs=>by
   induction rs with
   | nil=>intro _;simp[meas]
   | cons a rs ih=>
    intro h;have:=ih fun r hr=>h r (by simp[hr]);have:=h a (by simp);rw[qF1,List.length_cons,Nat.succ_mul];omega
  have h6:=h5 rs h4;have h7:rs.length*kc≤Maps.size (D.del (ι t.nr))*kc:=Nat.mul_le_mul_right _ (by rw[←h2];exact h1.len);omega
 have hfit2:∀ hs rs,P hs rs→r.news≤(qC0 N ((rs++[nw]).foldl qA5 (qA5 [] r))).length:=fun hs rs h=>by
  have g1:=xV9 N ((rs++[nw]).foldl qA5 (qA5 [] r));have g2:=zO5 (rs++[nw]) (qA5 [] r);have g3:=zE9 [] r;have g4:=hrd hs rs h;rw[qG8] at g2;simp only[qF1,qE2,List.length_nil] at g2 g3;omega
 have hold:∀ hs rs,P hs rs→∀ u∈rs++[nw],∃ rb rs',Lie N l rb rs' u:=fun hs rs h u hu=>by
  obtain⟨h1,h2,h3⟩:=hP hs rs h;rcases List.mem_append.1 hu with hu|hu
  ·obtain⟨k,hk,rfl⟩:=List.getElem_of_mem hu;exact⟨_,_,(h3 k (by rw[h2];exact hk) hk).2.2.1⟩
  ·rw[List.mem_singleton.1 hu];exact⟨_,_,hS.lie⟩
 have hlies:∀ hs rs,P hs rs→∀ fr,fr=qC0 N ((rs++[nw]).foldl qA5 (qA5 [] r))→∃ nt:Root,Lie N (laidAll (qB6 l i (qB4 (s.N+1) s.rb s.rs)) (qB5 r fr).2) (qB5 r fr).1.b (qB5 r fr).1.s nt∧RGood nt∧nt.cont=r.cont∧(qB5 r fr).2.length=r.news∧(∀ u∈rs++[nw],∀ k∈qL3 u,χ (laidAll (qB6 l i (qB4 (s.N+1) s.rb s.rs)) (qB5 r fr).2) k=χ (qB6 l i (qB4 (s.N+1) s.rb s.rs)) k)∧(∀ k,k<2→χ (laidAll (qB6 l i (qB4 (s.N+1) s.rb s.rs)) (qB5 r fr).2) k=χ (qB6 l i (qB4 (s.N+1) s.rb s.rs)) k):=fun hs rs h fr hfr=>by
  refine jG0 hS.N1 hlen1 r (rs++[nw]) ?_ hL.good (by omega) (fun u hu=>?_) fr hfr (by rw[hfr];exact hfit2 hs rs h)
  ·exact xD1 (fun k hk=>qP2 l _ i k N (qJ2 _ _ _) hS.len (by omega) (by omega)) (xE9 hL.rr)
  ·obtain⟨_,_,g⟩:=hold hs rs h u hu;exact (g.head hS.len (by omega) i hi2 _ _ _).old
 have hcuts:∀ hs rs,P hs rs→∀ l1 ws1,qV3 N l s.N s.rb s.rs r nw rs i j l1 ws1→∀ l2,Mixed N l1 ws1 l2→qN7 N kc l2 s.N nw.cont r.cont:=fun hs rs h l1 ws1 hc l2 hm=>
  xR0 hS.N1 (by omega) hS.len hS.heads hS.lie hS.good hi hj hS.sN0 hN9 (fun u hu=>by obtain⟨_,_,g⟩:=hold hs rs h u hu;exact (g.head hS.len (by omega) i hi2 _ _ _).old) (xD1 (fun k hk=>qP2 l _ i k N (qJ2 _ _ _) hS.len (by omega) (by omega)) (xE9 hL.rr))
   (fun fr hfr _=>by obtain⟨nt,d1,d2,d3,_,d5,d6⟩:=hlies hs rs h fr hfr;exact⟨nt,d1,d2,d3,d5,d6⟩) hS.sz hrk hc hm
 refine (jU8 x nM s.V t s D [A,C] (fun o W w1=>(match o with
   | .ok=>∃ hs rs fr,P hs rs∧fr=qC0 N ((rs++[nw]).foldl qA5 (qA5 [] r))∧w1.heap[t.St]?=some (ν 1 ((s.left t.nr).cmt (qB5 r fr).1.b (qB5 r fr).1.s (((qA5 [] r).length+r.news:Nat):Int)))∧
     ∃ b,Dk κ s.V A N C b (qB6 (laidAll (qB6 l i (qB4 (s.N+1) s.rb s.rs)) (qB5 r fr).2) j (qB4 (s.N+1+1) (qB5 r fr).1.b (qB5 r fr).1.s)) [] (nx (nk (nx wr) (qB5 r fr).2.length)) w1
   | .no _=>False
   | .io=>¬κ.quiet∧∃ hs rs b l1 ws1 k,P hs rs∧qV3 N l s.N s.rb s.rs r nw rs i j l1 ws1∧k≤r.news+2∧Dk κ.up s.V A N C b l1 ws1 (nk wr k) w1)) w hxw hL.over hStw hS.po hMw h0 h1 hMS hxS hxM hMs hL.on hwr (by simp only[List.mem_cons,List.not_mem_nil,or_false];rintro k (rfl | rfl);exact hd.sA;exact ζ hd.hC) ?_).mono ?_
 ·intro W hK hx' hS' hM';refine (xQ4 (s:=s.left t.nr) t.h r nw P (by omega) hS.N1 hS.len hS.AC hS.VA hS' (hd.keep hK hoff) ((hL.rr.keepT hKA haptA).keepT hK hapt) hrt hL.good (by omega) (by have:=qQ7 hL.good;omega) (zC6 hL.good (by omega)) (hS.lie.rr hS.good W) hnt hS.sN0 hN9 hbn.1 hbn.2.1 hbn.2.2 heq ?_ ?_ i j hi hj).mono ?_
  ·intro W' hK';refine (jU3 t.St nM 1 (s.left t.nr) (D.del (ι t.nr)) W' (hK'.hp hS') (hM'.kp hK' (by simp)) hsz).mono ?_;rintro e w' ⟨v,hs,e1,e2,e3,e4⟩;obtain⟨rs,hb⟩:=zT1 (Q:=fun h r=>h.p=none∧h.key=⟨#[]⟩∧Lie N l h.b h.s r∧RGood r∧r.cont.length≤kc) hs fun h hm=>by
    obtain⟨g1,y,g2,g3⟩:=e3.are h hm;obtain⟨f1,f2⟩:=hrdel _ g2;obtain⟨d1,u,d2⟩:=hS.rd y h f1 (fun zd=>(f2 zd).symm.trans (g3 zd)) g1;exact⟨u,g1,d1,d2⟩
   exact⟨v,hs,rs,e1,e2,by rw[hPd];exact⟨e3,hb⟩,e4⟩
  ·intro hs rs h;obtain⟨g1,g2,g3⟩:=hP hs rs h;obtain⟨nt,d1,d2,d3,_⟩:=hlies hs rs h _ rfl;have hb:=d1.bnd hS.N1;have hm:=hrd hs rs h;have hln:=g1.len;refine⟨g2,by omega,fun k k1 k2=>?_,?_,fun _=>⟨hb.1,hb.2.1,hb.2.2⟩⟩
   ·obtain⟨c1,c2,c3,c4,c5⟩:=g3 k k1 k2;refine⟨?_,fun n L e=>?_⟩
    ·have e:hs[k]=⟨⟨#[]⟩,hs[k].b,hs[k].s,none⟩:=by
      cases hx:hs[k];rw[hx] at c1 c2;simp only at c1 c2;rw[c1,c2]
     rw[e];exact c3.rr c4 W
    ·rw[e] at c4;exact c4.1
   ·rw[qG8,qF1,qE2];omega
  ·rintro e w1 ⟨hres,hKc⟩;rcases hres with⟨⟨hnq,p,rfl⟩,hs,rs,b,l1,ws1,k,⟨s1,q1,_⟩,q2,q3,q4,q5⟩|⟨rfl,hs,rs,q1,q2,q3,q4⟩|⟨rfl,hs,rs,fr,q1,q2,q3,q4,b,q5⟩
   ·exact⟨.io,⟨p,rfl⟩,⟨_,q1⟩,⟨hnq,hs,rs,b,l1,ws1,k,q2,q3,q4,q5⟩,hKc⟩
   ·have:=hfit2 hs rs q1;omega
   ·exact⟨.ok,rfl,⟨_,q4⟩,⟨hs,rs,fr,q1,q2,q4,b,q5⟩,hKc⟩
 ·rintro e w' ⟨o,v,rfl,hv,hKw,W,w1,B,s',hK,hx',hS',hM',hR,hKc,hs1,hs2,hB0,hB1,hKB⟩;have hKw':Kp [t.St,x,s.M,A,C] w w':=hKw;have hxe:w'.heap[x]?=some (qA3 t.ended):=hKB.heap (hKc.heap hx' (by simp[hxS,hxA,hxC])) (by simp[hxS];have:=ζ hxw;omega);have hoB:qS1 w1 [t.St,B]:=fun k hk c ty fr e=>by
   simp only[List.mem_cons,List.not_mem_nil,or_false] at hk;rcases hk with rfl|rfl
   ·rw[hs1] at e;cases e;decide
   ·rw[hB1] at e;cases e;decide
  refine⟨o,v,rfl,hv,hxe,hKw',?_⟩
  cases o with
  | no k=>exact hR.elim
  | io=>
   obtain⟨hnq,hs,rs,b,l1,ws1,k,q2,q3,q4,q5⟩:=hR;exact⟨hnq,⟨s',hs2⟩,l1,ws1,b,k,q5.keep hKB hoB,q4,hcuts hs rs q2 l1 ws1 q3⟩
  | ok=>
  obtain⟨hs,rs,fr,e1,e2,e3,bb,e4⟩:=hR;have hs2:w'.heap[t.St]?=some (ν 0 s'):=hs2;obtain⟨nt,d1,d2,d3,d4,d5,d6⟩:=hlies hs rs e1 fr e2;have hse:s'=(s.left t.nr).cmt (qB5 r fr).1.b (qB5 r fr).1.s (((qA5 [] r).length+r.news:Nat):Int):=by
   rw[e3] at hs1;exact (xF5 (Option.some.inj hs1)).symm
  rw[d4] at e4;have hlen2:N*128≤(laidAll (qB6 l i (qB4 (s.N+1) s.rb s.rs)) (qB5 r fr).2).length:=qQ2 N _ _ hlen1 (zZ8 (zC6 hL.good (by omega)) (by rw[e2];exact hfit2 hs rs e1) (fun b hb=>by rw[e2] at hb;exact (qW4 b hb).2.1));have hlt:=ζ hxw;have hM1:RM w1 s.V s.M nM (D.del (ι t.nr)):=hM'.kp hKc (by simp[hMS,hMA,hMC]);have hbnew:∀ u,(∃ a b,Lie N l a b u)→(∀ k∈qL3 u,χ (laidAll (qB6 l i (qB4 (s.N+1) s.rb s.rs)) (qB5 r fr).2) k=χ (qB6 l i (qB4 (s.N+1) s.rb s.rs)) k)→∀ a b,Lie N l a b u→Lie N (qB6 (laidAll (qB6 l i (qB4 (s.N+1) s.rb s.rs)) (qB5 r fr).2) j (qB4 (s.N+1+1) (qB5 r fr).1.b (qB5 r fr).1.s)) a b u:=fun u _ hk a b hu=>
   (((hu.head hS.len (by omega) i hi2 _ _ _).move hk).head hlen2 (by omega) j hj2 _ _ _)
  have hhd:Heads (qB6 (laidAll (qB6 l i (qB4 (s.N+1) s.rb s.rs)) (qB5 r fr).2) j (qB4 (s.N+1+1) (qB5 r fr).1.b (qB5 r fr).1.s)) (s.N+1+1) (qB5 r fr).1.b (qB5 r fr).1.s:=by
   have hij:i≠j:=by omega
   have hb1:=d1.bnd hS.N1;refine Heads.made (N:=s.N) (i:=i) (j:=j) (rb:=s.rb) (rs:=s.rs) ?_ (qR0 _ _ j N (qJ2 _ _ _) hlen2 (by omega)) hi2 hj2 ⟨hi,by have:=hS.sN0;omega,by omega,hbn.1,hbn.2.1,hbn.2.2,hS.lie.sum⟩ ⟨hj,by have:=hS.sN0;omega,by omega,hb1.1,hb1.2.1,hb1.2.2,d1.sum⟩;rw[qP2 _ _ j i N (qJ2 _ _ _) hlen2 (by omega) hij,d6 i hi2,qR0 l _ i N (qJ2 _ _ _) hS.len (by omega)]
  have hlnw:=d1.head hlen2 (by omega) j hj2 (s.N+1+1) (qB5 r fr).1.b (qB5 r fr).1.s;have hlenE:(qB6 (laidAll (qB6 l i (qB4 (s.N+1) s.rb s.rs)) (qB5 r fr).2) j (qB4 (s.N+1+1) (qB5 r fr).1.b (qB5 r fr).1.s)).length=l.length:=by
   rw[zL8 _ _ j N (qJ2 _ _ _) hlen2 (by omega),jF1 N _ _ hlen1 (zZ8 (zC6 hL.good (by omega)) (by rw[e2];exact hfit2 hs rs e1) (fun b hb=>by rw[e2] at hb;exact (qW4 b hb).2.1)),zL8 _ _ i N (qJ2 _ _ _) hS.len (by omega)]
  refine⟨s',qB6 (laidAll (qB6 l i (qB4 (s.N+1) s.rb s.rs)) (qB5 r fr).2) j (qB4 (s.N+1+1) (qB5 r fr).1.b (qB5 r fr).1.s),nt,bb,fun W' hKW hdev=>?_,e4.keep hKB hoB,by rw[hse];exact hhd,by rw[hse];exact hlnw,d2,d3,hlenE,by rw[hse];show s.N+1+1=s.N+2;omega,by rw[hse];rfl,by rw[hse];rfl,by rw[hse];rfl,by rw[hse];rfl,hs2,?_⟩
  ·refine { hDb:=hKW.heap (hKw'.heap hDbw (by simp[hDS,hDx,hDM,hDA,hDC])) (by simp[hDA]),hSt:=hKW.heap hs2 (by simp[hSA]),po:=by rw[hse];exact hS.po,hM:=?_,m4:=hsz,n1:=hS.n1,dev:=hdev,N8:=hS.N8,N4:=hS.N4,len:=qX7 _ _ j N (qJ2 _ _ _) hlen2 (by omega),lie:=by rw[hse];exact hlnw,good:=d2,heads:=by rw[hse];exact hhd,sz:=by rw[d3];exact hrk,kc1:=hS.kc1,bl0:=?_,bl1:=?_,sN0:=?_,bg0:=by rw[hse];exact hS.bg0,kb:=fun k hk=>by rw[hse];exact hS.kb k (hrdel k hk).1,rd:=?_ }
   ·rw[hse];exact (hM1.kp hKB (by simp[hMS];omega)).kp hKW (by simp[hMA])
   ·rw[hse];show (0:Int)≤(((qA5 [] r).length+r.news:Nat):Int);exact Int.natCast_nonneg _
   ·rw[hse,d3];have g1:=zE9 [] r;have g2:=qQ6 hL.good;have g3:=qQ7 hL.good;show ((_:Nat):Int)≤_;simp only[List.length_nil] at g1;omega
   ·rw[hse];show 0≤s.N+1+1;have:=hS.sN0;omega
   ·intro y h g1 g2 g3;obtain⟨f1,f2⟩:=hrdel _ g1;obtain⟨c1,u,c2,c3,c4⟩:=hS.rd y h f1 (fun zd=>(f2 zd).symm.trans (g2 zd)) g3;obtain⟨a1,a2,a3⟩:=hP hs rs e1;obtain⟨h',hm',hp',ha'⟩:=a1.all _ g1;have hhe:h=h':=by
     have e:=(g2 (.lit (.int .i64 0))).symm.trans (ha' (.lit (.int .i64 0)));exact zM8 e g3 hp'
    subst hhe;obtain⟨k,hk,rfl⟩:=List.getElem_of_mem hm';have hk2:k<rs.length:=by rw[←a2];exact hk
    obtain⟨b1,b2,b3,b4,b5⟩:=a3 k hk hk2;exact⟨b2,rs[k],hbnew _ ⟨_,_,b3⟩ (d5 _ (List.mem_append_left _ (List.getElem_mem hk2))) _ _ b3,b4,b5⟩
  ·refine⟨fun y rb rs' r0 g1 g2 g3=>?_,.inl ?_⟩
   ·obtain⟨a1,a2,a3⟩:=hP hs rs e1;obtain⟨h',hm',hp',ha'⟩:=a1.all _ g1;have hhe:(⟨⟨#[]⟩,rb,rs',none⟩:HL)=h':=zM8 ((g2 (.lit (.int .i64 0))).symm.trans (ha' (.lit (.int .i64 0)))) rfl hp';obtain⟨k,hk,he⟩:=List.getElem_of_mem hm';have hk2:k<rs.length:=by rw[←a2];exact hk
    obtain⟨b1,b2,b3,b4,b5⟩:=a3 k hk hk2;rw[he,←hhe] at b3;refine hbnew _ ⟨_,_,g3⟩ (fun k' hk'=>d5 _ (List.mem_append_left _ (List.getElem_mem hk2)) k' ?_) _ _ g3;rw[(Lie.one hS.N1 b3 g3).2];exact hk'
   ·have hij:i≠j:=by omega
    have hb1:=d1.bnd hS.N1;rw[←d3];refine TwoHeads.made (N:=s.N) (i:=i) (j:=j) (rb:=s.rb) (rs:=s.rs) ?_ (qR0 _ _ j N (qJ2 _ _ _) hlen2 (by omega)) hi2 hj2 ⟨hi,by have:=hS.sN0;omega,by omega,hbn.1,hbn.2.1,hbn.2.2,hS.lie.sum⟩ ⟨hj,by have:=hS.sN0;omega,by omega,hb1.1,hb1.2.1,hb1.2.2,d1.sum⟩ (hbnew nw ⟨_,_,hS.lie⟩ (d5 nw (by simp)) _ _ hS.lie) hS.good (d1.head hlen2 (by omega) j hj2 _ _ _) d2;rw[qP2 _ _ j i N (qJ2 _ _ _) hlen2 (by omega) hij,d6 i hi2,qR0 l _ i N (qJ2 _ _ _) hS.len (by omega)]
theorem jT3{w:World}{kc db St A C N nM:Nat}{s:Sto}{D:DataW Unit}{l:List UInt8}{wr:Int}{nw:Root}(hS:Shop w kc db St A C N nM s D l wr nw)(x:Nat)(t:Tx)(r:Root)(hL:LiveT hS.E w x A N t s r)(hts:t.St=St)(hwr:t.wrt=true)(h0:0≤t.nr)(h1:t.nr≤1000000000)(heq:∀ W:World,Sem.run prog (Op.equalIn 10000 83 (τ s.V t.h) (τ s.V ⟨⟨#[]⟩,s.rb,s.rs,none⟩)) W=.ok false W)(hrk:r.cont.length≤kc)(hN9:s.N≤999999999)
  (hrdel:∀ k,Maps.has (D.del (ι t.nr)) k=true→Maps.has D k=true∧∀ zd,(D.del (ι t.nr)).atKey k zd=D.atKey k zd) (hsz:Maps.size (D.del (ι t.nr))≤4)
  (hfit:qC4 r+r.news+Maps.size (D.del (ι t.nr))*kc+qC4 nw+2≤N):
  Calls prog 14 #[.pointer (some ⟨x,0,none⟩)] w fun e w'=>e=.returned .nilIface∧∃ s' l' nt,Shop w' kc db St A C N nM s' (D.del (ι t.nr)) l' (nx (nk (nx wr) r.news)) nt∧nt.cont=r.cont∧s'.N=s.N+2∧s'.bg=s.bg∧s'.wr=(s.left t.nr).wr∧s'.V=s.V∧s'.M=s.M∧w'.heap[x]?=some (qA3 t.ended)∧Kp [St,x,s.M,A,C] w w'∧Thn N (D.del (ι t.nr)) l l' nw r:=by
 obtain⟨cq,_,hcq⟩:=hS.toShop0.dk;refine (zM1 (base:=0) hS x t r hL (Kp.refl _ _) hcq hts hwr h0 h1 heq hrk hN9 hrdel hsz hfit).mono ?_;rintro e w' ⟨o,v,rfl,hv,hx,hK,hE⟩
 cases o with
 | no k=>exact hE.elim
 | io=>exact absurd cq.q hE.1
 | ok=>
  obtain⟨s',l',nt,b,e1,e2,e3,e4,e5,e6,e7,e8,e9,e10,e11,e12,e13,e14⟩:=hE;have hv':v=.nilIface:=hv;exact⟨by rw[hv'],s',l',nt,e1 _ (Kp.refl _ _) (by rw[e11];exact e2.q cq.q),e6,e8,e9,e10,e11,e12,hx,hK,e14⟩
end Go.Proofs.YtdohpenfkdckiabGreatDoor
namespace Go.Proofs.YtdohpenfkdckiabGreatDoor
open Go.Proofs.Tryz
open Go.RowKit
def qD3(V:Nat)(b:Int)(k:ByteArray):Obj:=.cells #[.pointer (some ⟨V,0,none⟩),.int .i64 b,.string k] 191
theorem qS9(w:World):Calls prog 154 #[.bool true] w fun e w'=>e=.returned (.tuple #[])∧w'=w:=by
 go_enter func154,ntmps154;go_wp2
 go_end0
 exact⟨rfl,rfl⟩
theorem xB9(O:qE1)(n:Nat)(q:Nat)(t:Tn n)(w:World)(h:RN O n w q t)(hc:cnt n t≤1000000):
  Calls prog 129 #[.pointer (some ⟨q,0,none⟩)] w fun e w'=>e=.returned (.int .i64 (cnt n t))∧∃ m,w'=w.drewN m:=by
 obtain⟨pb,pl,pc,lb,ll,lc,h1,h2⟩:=h.obj;have HC:=zh h2;rw[←h2] at hc;have hqs:=ζ h1;have q1:=ξ h1;simp only[υ,zG,zH,zI] at q1;clear h h1 h2;go_enter func129,ntmps129;go_wp2_with fail
 go_quiet (fail)
 go_wp2;go_ret;exact⟨qK9 (by rw[←HC.out];omega),_,rfl⟩
structure Dvw where
 κ:Kd
 q:κ.quiet
 base:Nat
 l0:List UInt8
 ws:List (Nat × List UInt8)
def Dvw.l(δ:Dvw):List UInt8:=laidAll δ.l0 δ.ws
structure Devv(V A N C:Nat)(δ:Dvw)(wr:Int)(w:World):Prop where
 dk:Dk δ.κ V A N C δ.base δ.l0 δ.ws wr w
theorem Devv.hV{V A N C:Nat}{δ:Dvw}{wr:Int}{w:World}(h:Devv V A N C δ wr w):w.heap[V]?=some (qC8 A N):=h.dk.hV
theorem Devv.hA{V A N C:Nat}{δ:Dvw}{wr:Int}{w:World}(h:Devv V A N C δ wr w):∃ c:Value × Int,w.heap[A]?=some (qC1 δ.κ N C c.1 c.2 wr):=by
 obtain⟨v,c,h1,_⟩:=h.dk.hA;exact⟨(v,c),h1⟩
theorem qG3{V A N C:Nat}{δ:Dvw}{wr:Int}{w w':World}{S:List Nat}(h:Devv V A N C δ wr w)(hK:Kp S w w')(hS:OffD w S):Devv V A N C δ wr w':=by
 obtain⟨h⟩:=h;obtain⟨v,c,h1,h2,h3⟩:=h.hA;exact⟨hK.heap h.hV (fun hm=>hS _ hm _ _ _ h.hV (by decide)),⟨v,c,hK.heap h1 (fun hm=>hS _ hm _ _ _ h1 (by decide)),qG5 h2 hK (fun q hq c t fr e hm=>hS q hq c t fr e (by rw[List.mem_singleton.1 hm];decide)),h3⟩,hK.heap h.hC (fun hm=>hS _ hm _ _ _ h.hC (by decide)),.inl δ.q,Nat.le_trans h.low hK.size,h.fit,h.wl,h.len,h.N1⟩
theorem jJ5(V A N C:Nat)(l:Dvw)(writes:Int)(hN:N≤1000)(hs:N*128≤l.l.length)(hAC:C≠A)(hVA:V≠A)(n b:Nat)(s:Int)(t:Tn n)(w:World)(hd:Devv V A N C l writes w)(hL:Laid N l.l n b s t):
  Calls prog 122 #[.pointer (some ⟨V,0,none⟩),.agg #[.int .i64 b,.int .u64 s]] w fun e w'=>∃ q,e=.returned (.tuple #[.pointer (some ⟨q,0,none⟩),.bool true])∧RN (Laid N l.l) n w' q t∧Devv V A N C l writes w'∧Kp [A] w w':=by
 cases n with
 | zero=>
  obtain⟨g1,g2,g3,g4,g5,g6,g7⟩:=hL;rw[g3];refine (xE4 hd.dk b (prs t) g2 g4 g5 g6 g7).mono ?_;rintro e w' ⟨(hx|⟨q,v,rfl,hq,_,hown,hD'⟩),hK'⟩
  ·exact absurd l.q hx.1.1
  exact⟨q,rfl,⟨v,hq,qF7 hown⟩,⟨hD'⟩,hK'⟩
 | succ n=>
  obtain⟨g1,g2,g3,hs',g4,g5,g6,g7,g8,g9⟩:=hL;rw[g5];refine (xE3 hd.dk b hs' ((n+1:Nat):Int) (by omega) (by omega) g2 g6 (Laid.links g4 g7 hN) g8 g9).mono ?_;rintro e w' ⟨(hx|⟨q,v,rfl,hq,_,hown,hD'⟩),hK'⟩
  ·exact absurd l.q hx.1.1
  exact⟨q,rfl,⟨v,hq,hs',qF7 hown,⟨g4.1,fun i h1 h2=>(g4.2 i h1 h2).mono (fun _ h=>h.elim) (fun _ _ h=>h)⟩⟩,⟨hD'⟩,hK'⟩
theorem RN.lev{O:qE1}{n:Nat}{w:World}{q:Nat}{t:Tn n}(h:RN O n w q t):∃ vp vl,w.heap[q]?=some (υ (n:Int) vp vl):=by
 cases n with
 | zero=>obtain⟨vp,h1,_⟩:=h;exact⟨_,_,h1⟩
 | succ n=>obtain⟨vl,h1,_⟩:=h;exact⟨_,_,h1⟩
section
variable (V A N C:Nat) (l:Dvw) (writes:Int) (hN:N≤1000) (hs:N*128≤l.l.length) (hAC:C≠A) (hVA:V≠A)
include hN hs hAC hVA
theorem zT4(n b:Nat)(s:Int)(t:Tn n)(G:Nat)(bl:Int)(k:ByteArray)(w:World)(hd:Devv V A N C l writes w)(hL:Laid N l.l n b s t)(hG:w.heap[G]?=some (qD3 V bl k))(hb0:0≤bl)(hb1:bl≤1000000):
  Calls prog 156 #[.pointer (some ⟨G,0,none⟩),.agg #[.int .i64 b,.int .u64 s]] w fun e w'=>∃ q,e=.returned (.pointer (some ⟨q,0,none⟩))∧RN (Laid N l.l) n w' q t∧Devv V A N C l writes w'∧w'.heap[G]?=some (qD3 V (bl+1) k)∧Kp [A,G] w w':=by
 have hat:=hL.at;have h2:(2:Int)≤(b:Int):=by omega
 have hbN:(b:Int)<(N:Int):=by omega
 have HREAD:Hid (∀ W,Devv V A N C l writes W→Calls prog 122 #[.pointer (some ⟨V,0,none⟩),.agg #[.int .i64 b,.int .u64 s]] W fun e w'=>∃ q,e=.returned (.tuple #[.pointer (some ⟨q,0,none⟩),.bool true])∧RN (Laid N l.l) n w' q t∧Devv V A N C l writes w'∧Kp [A] W w'):=fun W hW=>jJ5 V A N C l writes hN hs hAC hVA n b s t W hW hL;have HD:=zh hd;have hGA:G≠A:=by obtain⟨c,h⟩:=hd.hA;exact qB7 hG h (by decide)
 have hGs:=ζ hG;go_enter func156,ntmps156;go_wp2_with fail;obtain⟨w0,hw0,hP0,hK0,hs0⟩:=qE8 w (.cells #[.int .i64 (b:Int),.int .u64 s] 78);rw[←hw0];clear hw0;have hG0:=hK0.hp hG;have hV0:=hK0.hp hd.hV;have hG0s:=ζ hG0;have hP0s:=ζ hP0;have g0:=ξ hG0 0;have g1:=ξ hG0 1;have g2:=ξ hG0 2;simp only[qD3,zG,zH,zI] at g0 g1 g2;have p0:=ξ hP0;have HK0:=zh hK0;have HG0:=zh hG0;have HP0:=zh hP0;have HV0:=zh hV0;clear hd hL hG hK0 hG0 hP0 hV0
 go_quiet (first | (go_at_call 97;exact Calls.quiet_of_same (zN2 V A N _ HV0.out)) | (go_at_call 154;exact Calls.quiet_of_same (qS9 _)))
 go_wp2_with fail;obtain⟨wq,hwq,hKq⟩:∃ wq,wq=w0.drewN nq∧Kp [] w0 wq:=⟨_,rfl,(Kp.refl _ _).drewN _⟩;rw[←hwq];clear hwq g0 g1 g2 p0;have hKw:Kp [] w wq.drew:=(HK0.out.tr hKq).drew;have hDq:Devv V A N C l writes wq.drew:=qG3 HD.out hKw (by intro k hk;cases hk);have hSd:wq.drew.heap[G]?=some (qD3 V bl k)∧wq.drew.heap[w.heap.size]?=some (.cells #[.int .i64 (b:Int),.int .u64 s] 78):=⟨hKq.hp HG0.out,hKq.hp HP0.out⟩;refine wp_region_held_drew (S:=fun W=>W.heap[G]?=some (qD3 V bl k)∧W.heap[w.heap.size]?=some (.cells #[.int .i64 (b:Int),.int .u64 s] 78)) (by kernel_rfl) hSd (fun _=>?_);refine zP 0 G 0 hSd ?_;refine zV 1 (.pointer (some ⟨G,0,none⟩)) rfl (fun W hS=>by have c:=ζ hS.1;clear hS;go_simp) hSd ?_;refine zP 2 G 0 hSd ?_;refine zV 3 (.pointer (some ⟨V,0,none⟩)) rfl (fun W hS=>by have a:=ξ hS.1 0;simp only[qD3,zG,zH,zI] at a;clear hS;go_simp) hSd ?_;refine zV 4 (.agg #[.int .i64 (b:Int),.int .u64 s]) rfl (fun W hS=>by have a:=ξ hS.2;clear hS;go_simp) hSd ?_;refine zq 5 fun K hK=>?_;go_simp;refine (HREAD.out _ hDq).mono ?_;rintro e w1 ⟨q,rfl,hRN,hD1,hK1⟩;have hS1:w1.heap[G]?=some (qD3 V bl k)∧w1.heap[w.heap.size]?=some (.cells #[.int .i64 (b:Int),.int .u64 s] 78):=⟨hK1.heap hSd.1 (by simpa using hGA),hK1.heap hSd.2 (by have:=HD.out.hA;obtain⟨c,h⟩:=this;have:=ζ h;simp;omega)⟩;refine hK.out _ _ hS1 (fun _=>?_);clear hK K
 try simp only[zZ]
 refine zU 6 (.tuple #[.pointer (some ⟨q,0,none⟩),.bool true]) hS1 ?_;refine zP 7 q 0 hS1 ?_;refine zU 8 (.bool true) hS1 ?_;refine zP 9 q 0 hS1 ?_;refine zU 10 (.bool true) hS1 ?_;refine zd ?_
 try simp only[zZ]
 have HG1:=zh hS1.1;have HE1:Hid (RN (Laid N l.l) n w1 q t∧Devv V A N C l writes w1∧Kp [A,G] w w1):=⟨hRN,hD1,(hKw.mono (by simp)).tr hK1⟩;clear hRN hD1 hK1 hS1 hSd hKq hKw hDq;go_wp2_with fail;refine (qS9 w1).mono ?_;rintro e w2 ⟨rfl,hw⟩;rw[hw];clear hw w2;have hG1:=HG1.out;have hG1s:=ζ hG1;have g0:=ξ hG1 0;have g1:=ξ hG1 1;have g2:=ξ hG1 2;simp only[qD3,zG,zH,zI] at g0 g1 g2;have f1:=ψ hG1 1;have hb2:wrap64 (bl+1)=bl+1:=by simp only[wrap64];omega
 clear hG1;go_wp2;go_ret;have hap:Apt w1 [G] qF8:=Apt.one HG1.out (by decide);have hK2:Kp [G] w1 (w1.setCell ⟨G,1,none⟩ (.int .i64 (bl+1))):=(Kp.refl _ _).sc _;obtain⟨e1,e2,e3⟩:=HE1.out;exact⟨q,rfl,RN.keep hK2 hap n q t e1,qG3 e2 hK2 (OffD.one HG1.out (by decide)),φ HG1.out 1 _,e3.tr hK2⟩
theorem xO4(n b:Nat)(s:Int)(t:Tn n)(G q0:Nat)(vp0 vl0:Value)(bl:Int)(k:ByteArray)(w:World)(hd:Devv V A N C l writes w)(hL:Laid N l.l n b s t)(hG:w.heap[G]?=some (qD3 V bl k))(hq0:w.heap[q0]?=some (υ ((n+1:Nat):Int) vp0 vl0))(hb0:0≤bl)(hb1:bl≤1000000)(hc3:3≤cnt n t)(hcn:cnt n t≤1000):
  Calls prog 155 #[.pointer (some ⟨G,0,none⟩),.pointer (some ⟨q0,0,none⟩),.agg #[.int .i64 b,.int .u64 s]] w fun e w'=>∃ q,e=.returned (.pointer (some ⟨q,0,none⟩))∧RN (Laid N l.l) n w' q t∧Devv V A N C l writes w'∧w'.heap[G]?=some (qD3 V (bl+1) k)∧Kp [A,G] w w':=by
 have hat:=hL.at;have HREAD:Hid (∀ W,Kp [] w W→Calls prog 156 #[.pointer (some ⟨G,0,none⟩),.agg #[.int .i64 b,.int .u64 s]] W fun e w'=>∃ q,e=.returned (.pointer (some ⟨q,0,none⟩))∧RN (Laid N l.l) n w' q t∧Devv V A N C l writes w'∧w'.heap[G]?=some (qD3 V (bl+1) k)∧Kp [A,G] W w'):=fun W hW=>zT4 V A N C l writes hN hs hAC hVA n b s t G bl k W (qG3 hd hW (by intro k hk;cases hk)) hL (hW.hp hG) hb0 hb1;have hqG:q0≠G:=qB7 hq0 hG (by decide);have hqA:q0≠A:=by obtain⟨c,h⟩:=hd.hA;exact qB7 hq0 h (by decide)
 have HQ0:=zh hq0;clear hd hL hG hq0;go_enter func155,ntmps155;go_wp2_with fail;obtain⟨w0,hw0,hP0,hK0,hs0⟩:=qE8 w (.cells #[.int .i64 (b:Int),.int .u64 s] 78);rw[←hw0];clear hw0;refine (show Calls _ _ _ _ _ from HREAD.out w0 hK0).mono ?_;rintro e w1 ⟨q,rfl,hRN,hD1,hG1,hK1⟩;obtain⟨vp,vl,hq⟩:=hRN.lev;have hq0':=hK1.heap (hK0.hp HQ0.out) (by simp[hqA,hqG]);have hqs:=ζ hq;have hq0s:=ζ hq0';have x0:=ξ hq 0;simp only[υ,zG,zH,zI] at x0;have y0:=ξ hq0' 0;simp only[υ,zG,zH,zI] at y0;have hw1:wrap64 (((n+1:Nat):Int)-1)=(n:Int):=by simp only[wrap64];omega
 have hw2:wrap64 ((n:Int)+1-1)=(n:Int):=by simp only[wrap64];omega
 have HRN:=zh hRN;have HE:Hid (Devv V A N C l writes w1∧w1.heap[G]?=some (qD3 V (bl+1) k)∧Kp [A,G] w w1):=⟨hD1,hG1,(hK0.mono (by simp)).tr hK1⟩;have h3:(3:Int)≤((cnt n t:Nat):Int):=by omega
 clear hRN hD1 hG1 hK1 hK0 hq hq0' hP0;go_wp2_with fail
 go_quiet (first | (go_at_call 129;exact Calls.quiet_of (xB9 (Laid N l.l) n q t _ (RN.keep ((Kp.refl [] _).drewN _) (Apt.nil _ _) _ _ _ HRN.out) (by omega))) | (go_at_call 154;exact Calls.quiet_of_same (qS9 _)))
 go_wp2;go_ret;have hKq:Kp [] w1 (w1.drewN nq):=(Kp.refl _ _).drewN _;obtain⟨e1,e2,e3⟩:=HE.out;exact⟨q,rfl,RN.keep hKq (Apt.nil _ _) _ _ _ HRN.out,qG3 e1 hKq (by intro k hk;cases hk),hKq.hp e2,e3.tr hKq⟩
theorem xQ7(n b:Nat)(s:Int)(t:Tn n)(G:Nat)(bl:Int)(k:ByteArray)(w:World)(hd:Devv V A N C l writes w)(hL:Laid N l.l n b s t)(hG:w.heap[G]?=some (qD3 V bl k))(hb0:0≤bl)(hb1:bl≤1000000)(hc3:min n 1<cnt n t)(hcn:cnt n t≤1000):
  Calls prog 114 #[.pointer (some ⟨G,0,none⟩),.agg #[.int .i64 b,.int .u64 s]] w fun e w'=>∃ q,e=.returned (.pointer (some ⟨q,0,none⟩))∧RN (Laid N l.l) n w' q t∧Devv V A N C l writes w'∧w'.heap[G]?=some (qD3 V (bl+1) k)∧Kp [A,G] w w':=by
 have hat:=hL.at;have HREAD:Hid (∀ W,Kp [] w W→Calls prog 156 #[.pointer (some ⟨G,0,none⟩),.agg #[.int .i64 b,.int .u64 s]] W fun e w'=>∃ q,e=.returned (.pointer (some ⟨q,0,none⟩))∧RN (Laid N l.l) n w' q t∧Devv V A N C l writes w'∧w'.heap[G]?=some (qD3 V (bl+1) k)∧Kp [A,G] W w'):=fun W hW=>zT4 V A N C l writes hN hs hAC hVA n b s t G bl k W (qG3 hd hW (by intro k hk;cases hk)) hL (hW.hp hG) hb0 hb1;clear hd hL hG;go_enter func114,ntmps114;go_wp2_with fail;obtain⟨w0,hw0,hP0,hK0,hs0⟩:=qE8 w (.cells #[.int .i64 (b:Int),.int .u64 s] 78);rw[←hw0];clear hw0;refine (show Calls _ _ _ _ _ from HREAD.out w0 hK0).mono ?_;rintro e w1 ⟨q,rfl,hRN,hD1,hG1,hK1⟩;obtain⟨vp,vl,hq⟩:=hRN.lev;have HRN:=zh hRN;have HE:Hid (Devv V A N C l writes w1∧w1.heap[G]?=some (qD3 V (bl+1) k)∧Kp [A,G] w w1):=⟨hD1,hG1,(hK0.mono (by simp)).tr hK1⟩;have h6:(n:Int)<6:=by omega
 obtain⟨mn,hmn,hgt⟩:∃ mn:Int,(if (1:Int)<(n:Int) then 1 else (n:Int))=mn∧mn<((cnt n t:Nat):Int):=⟨_,rfl,by split<;>omega⟩;have HQ:=zh hq;clear hRN hD1 hG1 hK1 hK0 hP0 hq;go_wp2_with fail;have hSd:w1.drew.heap[q]?=some (υ (n:Int) vp vl):=HQ.out;refine wp_region_held_drew (S:=fun W=>W.heap[q]?=some (υ (n:Int) vp vl)) (by kernel_rfl) hSd (fun _=>?_);refine zP 0 q 0 hSd ?_;refine zV 1 (.pointer (some ⟨q,0,none⟩)) rfl (fun W hS=>by have c:=ζ hS;clear hS;go_simp) hSd ?_;refine zP 2 q 0 hSd ?_;refine zV 3 (.int .i64 (n:Int)) rfl (fun W hS=>by have a:=ξ hS 0;simp only[υ,zG,zH,zI] at a;clear hS;go_simp) hSd ?_;refine zU 4 (.bool true) hSd ?_;refine zU 5 (.bool true) hSd ?_;refine zP 6 q 0 hSd ?_;refine zP 8 q 0 hSd ?_;refine zV 9 (.pointer (some ⟨q,0,none⟩)) rfl (fun W hS=>by have c:=ζ hS;clear hS;go_simp) hSd ?_;refine zP 10 q 0 hSd ?_;refine zV 11 (.int .i64 (n:Int)) rfl (fun W hS=>by have a:=ξ hS 0;simp only[υ,zG,zH,zI] at a;clear hS;go_simp) hSd ?_;refine zV 12 (.int .i64 mn) rfl (fun W hS=>by clear hS;go_simp;try (split at hmn<;>omega)) hSd ?_;refine zq 7 fun K hK=>?_;go_simp;refine (xB9 (Laid N l.l) n q t w1.drew (RN.keep ((Kp.refl [] _).drew) (Apt.nil _ _) _ _ _ HRN.out) (by omega)).mono ?_;rintro e w2 ⟨rfl,nn,hw2⟩;have hK2:Kp [] w1 w2:=by rw[hw2];exact ((Kp.refl [] _).drew).trans ((Kp.refl [] _).drewN _) (by simp)
 have hS2:=hK2.hp HQ.out;refine hK.out _ _ hS2 (fun _=>?_);clear hK K hw2
 try simp only[zZ]
 refine zU 13 (.bool true) hS2 ?_;refine zU 14 (.bool true) hS2 ?_;refine zq 15 fun K hK=>?_;go_simp;refine (qS9 w2).mono ?_;rintro e w3 ⟨rfl,hw⟩;rw[hw];clear hw w3;refine hK.out _ _ hS2 (fun _=>?_);clear hK K;refine zd ?_
 try simp only[zZ]
 have HE2:Hid (RN (Laid N l.l) n w2 q t∧Devv V A N C l writes w2∧w2.heap[G]?=some (qD3 V (bl+1) k)∧Kp [A,G] w w2):=by
  obtain⟨e1,e2,e3⟩:=HE.out;exact⟨RN.keep hK2 (Apt.nil _ _) _ _ _ HRN.out,qG3 e1 hK2 (by intro k hk;cases hk),hK2.hp e2,e3.tr hK2⟩
 clear hK2 hS2 hSd;go_wp2;go_ret;exact⟨q,rfl,HE2.out⟩
end
end Go.Proofs.YtdohpenfkdckiabGreatDoor
namespace Go.Proofs.YtdohpenfkdckiabGreatDoor
open Go.Proofs.Tryz
def Old:(n:Nat)→Lnk (Tn n)→Prop
 | 0,l=>l.ref.isSome=true
 | n+1,l=>l.ref.isSome=true∧∀ m∈η l.sub,Old n m
theorem Old.some{n:Nat}{l:Lnk (Tn n)}(h:Old n l):l.ref.isSome=true:=by
 cases n with
 | zero=>exact h
 | succ n=>exact h.1
theorem zZ0{N:Nat}{l:List UInt8}:∀ (n b:Nat) (s:Int) (t:Tn (n+1)),Laid N l (n+1) b s t→∀ m∈η t,Old n m
 | n,b,s,t,h,m,hm=>by
  obtain⟨h1,h2,h3,hs,h4,h5⟩:=h;obtain⟨i,hi,rfl⟩:=List.getElem_of_mem hm;have hr:=(h4.2 i (by rw[h4.1];exact hi) hi).2
  cases hx:(η t)[i].ref with
  | none=>
   rw[hx] at hr;obtain⟨_,_,q,_,hq⟩:=hr;exact hq.elim
  | some x=>
   rw[hx] at hr
   cases n with
   | zero=>show (η t)[i].ref.isSome=true;rw[hx];rfl
   | succ n=>exact⟨by rw[hx];rfl,zZ0 n x.1 x.2 _ hr.2.2.2⟩
end Go.Proofs.YtdohpenfkdckiabGreatDoor
namespace Go.Proofs.YtdohpenfkdckiabGreatDoor
open Go.Proofs.Tryz
open Go.RowKit
def qH2(k:ByteArray)(ps:List KV):ByteArray:=(ps.getLast?.map KV.k).getD k
theorem xS4(k:ByteArray):qH2 k []=k:=rfl
theorem zA0(k:ByteArray)(ps:List KV)(p:KV):qH2 k (ps++[p])=p.k:=by simp[qH2]
theorem xS3(k:ByteArray)(a b:List KV):qH2 (qH2 k a) b=qH2 k (a++b):=by
 rcases List.eq_nil_or_concat b with rfl|⟨c,p,rfl⟩
 ·simp[qH2]
 ·rw[List.concat_eq_append,zA0,←List.append_assoc,zA0]
theorem zG2{k x:ByteArray}{ps:List KV}(hk:kl k x=true∨ps≠[])(h:∀ q∈ps,kl q.k x=true):kl (qH2 k ps) x=true:=by
 rcases List.eq_nil_or_concat ps with rfl|⟨c,p,rfl⟩
 ·rcases hk with h|h
  ·exact h
  ·exact absurd rfl h
 ·rw[List.concat_eq_append] at *;rw[zA0];exact h p (by simp)
theorem zY4{a b:ByteArray}(h:kl a b=true):Op.bytesLess b.toList a.toList=false∧(b.toList == a.toList)=false:=
 ⟨qQ0 h,by rw[qU9];simpa using (qJ4 h).symm⟩
def qY6(V A N C:Nat)(l:Dvw)(writes:Int)(n:Nat):Prop:=
 ∀ (t:Tn n) (q G:Nat) (lh:HL) (bl:Int) (k:ByteArray) (b:Nat) (s:Int) (w:World),Devv V A N C l writes w→w.heap[G]?=some (qD3 V bl k)→RN (Laid N l.l) n w q t→Laid N l.l n b s t→Good n lh.key t→(∀ p∈cont n t,kl k p.k=true)→0≤bl→bl+qB9 n t≤1000000→
  Calls prog 113 #[.pointer (some ⟨G,0,none⟩),qC2 lh,.pointer (some ⟨q,0,none⟩)] w fun e w'=>e=.returned (.tuple #[])∧w'.heap[G]?=some (qD3 V (bl+qB9 n t-1) (qH2 k (cont n t)))∧Devv V A N C l writes w'∧Kp [A,G] w w'
theorem jX8(V A N C:Nat)(l:Dvw)(writes:Int):qY6 V A N C l writes 0:=by
 intro t q G lh bl k b s w hd hG hR hL hgood hk hb0 hb1;obtain⟨vp,hq,hsl⟩:=hR;obtain⟨bs,cp,rfl⟩:=qM0 hsl;obtain⟨ps,hps⟩:∃ ps,ps=prs t:=⟨_,rfl⟩;have hlen:ps.length≤126:=by rw[hps];exact hL.2.2.2.2.2.2
 have hsorted:Sorted ps:=by rw[hps];exact hgood.sorted
 have hall:∀ p∈ps,kl p.k lh.key=false:=fun p hp=>(hgood.all p (by rw[hps] at hp;exact hp)).2;have hkk:∀ p∈ps,kl k p.k=true:=fun p hp=>hk p (by rw[hps] at hp;exact hp);rw[show bl+((qB9 0 t:Nat):Int)-1=bl by simp[qB9],show cont 0 t=ps from hps.symm];rw[←hps] at hsl hq;have HGOOD:Hid (Sorted ps∧(∀ p∈ps,kl p.k lh.key=false)∧∀ p∈ps,kl k p.k=true):=⟨hsorted,hall,hkk⟩;have HD:=zh hd;have HSL:=zh hsl;have HQ:=zh hq;have hqG:q≠G:=qB7 hq hG (by decide);have hGs:=ζ hG;have hqs:=ζ hq;have HG:=zh hG;have q1:=ξ hq;simp only[υ,zG,zH,zI] at q1;clear hd hG hq hsl hL hgood hk hps hsorted hall hkk;rw[qC2];go_enter func113,ntmps113;go_wp2_with fail;obtain⟨w0,hw0,hP0,hK0,hs0⟩:=qE8 w (.cells #[.string lh.key,.int .i64 lh.b,.int .u64 lh.s,.pointer lh.ptr] 81);rw[←hw0];have HP0:=zh hP0;have HK0:=zh hK0;have HQC:Hid (w.cell? ⟨q,1,none⟩=w.cell? ⟨q,1,none⟩):=rfl;clear hw0 hP0 hK0 q1
 go_loopw [15] (fun i wr=>∃ (j:Nat),j≤ps.length∧i=.int .i64 j∧w.heap.size<wr.heap.size∧Hid (wr.heap[G]?=some (qD3 V bl (qH2 k (ps.take j))))∧Hid (wr.heap[w.heap.size]?=some (.cells #[.string lh.key,.int .i64 lh.b,.int .u64 lh.s,.pointer lh.ptr] 81))∧Hid (Kp [G] w wr)) (fun i _=>ps.length-(intOf i).toNat)
 case atStart=>exact⟨0,Nat.zero_le _,rfl,by omega,HK0.out.hp HG.out,HP0,HK0.out.mono (by simp)⟩
 case round=>
  obtain⟨j,hj,rfl,hsw,HGr,HPr,HKr⟩:=hrel;clear HP0 HK0 hs0;by_cases hlt:j<ps.length
  ·obtain⟨gb,off,cp',cur,fr,hv,hcp,hrow,hcur⟩:=HSL.out.pair (by omega);obtain⟨c0,c1⟩:=hcur j hlt;simp only[Value.slice.injEq,true_and] at hv;obtain⟨rfl,rfl⟩:=hv;have hR:=HKr.out.heap hrow (by simp;exact qB7 hrow HG.out (by decide));have a0:=ξ hR (off+j*2);rw[c0] at a0;have a1:=ξ hR (off+j*2+1);rw[c1] at a1;have hgs:=ζ hR;have hjb:(j:Int)<(ps.length:Int):=by omega
   have hm:=List.getElem_mem hlt;have hgt0:kl (qH2 k (ps.take j)) ps[j].k=true:=zG2 (.inl (HGOOD.out.2.2 _ hm)) fun q hq=>by
    have hp:=HGOOD.out.1;rw[←List.take_append_drop j ps,List.drop_eq_getElem_cons hlt] at hp;exact (List.pairwise_append.1 hp).2.2 q hq _ (List.mem_cons_self ..)
   obtain⟨hgt,hgt2⟩:=zY4 hgt0;clear hgt0;have hge:Op.bytesLess ps[j].k.toList lh.key.toList=false:=HGOOD.out.2.1 _ hm;have HEN:Hid (qH2 k (ps.take (j+1))=ps[j].k):=by
    show qH2 k (ps.take (j+1))=ps[j].k;rw[List.take_succ_eq_append_getElem hlt,zA0]
   clear hcur hcp hrow;go_wp2_with fail;obtain⟨w1,hw1,h71,hK1,hs1⟩:=qE8 wr (.cells #[.string ps[j].k,.string ps[j].v] 158);rw[←hw1];clear hw1 a0 a1 hR hgs;have hG1:=hK1.hp HGr.out;have hP1:=hK1.hp HPr.out;have hG1s:=ζ hG1;have hP1s:=ζ hP1;have h71s:=ζ h71;have g0:=ξ hG1 0;have g1:=ξ hG1 1;have g2:=ξ hG1 2;simp only[qD3,zG,zH,zI] at g0 g1 g2;have p0:=ξ hP1 0;simp only[zG,zH,zI] at p0;have z0:=ξ h71;have HG1:=zh hG1;have HP1:=zh hP1;have H71:=zh h71;have HK1:Hid (Kp [G] w w1):=HKr.out.tr hK1;clear hG1 hP1 h71 hK1
   go_quiet (first | (go_at_call 154;exact Calls.quiet_of_same (qS9 _)))
   obtain⟨wq,hwq,hKq⟩:∃ wq,wq=w1.drewN nq∧Kp [] w1 wq:=⟨_,rfl,(Kp.refl _ _).drewN _⟩;rw[←hwq];clear hwq g0 g1 g2 p0 z0 hgt hgt2 hge;have hG2:=hKq.hp HG1.out;have hP2:=hKq.hp HP1.out;have h72:=hKq.hp H71.out;have hG2s:=ζ hG2;have h72s:=ζ h72;have hqs2:=hKq.size;have g0:=ξ hG2 0;have g1:=ξ hG2 1;have g2:=ξ hG2 2;simp only[qD3,zG,zH,zI] at g0 g1 g2;have z0:=ξ h72;have f2:=ψ hG2 2;have HG2:=zh hG2;have HP2:=zh hP2;have HK2:Hid (Kp [G] w wq):=HK1.out.tr hKq;clear hG2 hP2 h72 hKq HG1 HP1 HK1 H71;go_wp2;have hK3:Kp [G] wq (wq.setCell ⟨G,2,none⟩ (.string ps[j].k)):=(Kp.refl _ _).sc _;refine⟨⟨j+1,by omega,by go_num,by have:=hK3.size;omega,?_,hK3.ho HP2.out,HK2.out.tr hK3⟩,by simp[intOf];omega⟩;show _=_;rw[HEN.out];exact φ HG2.out 2 _
  ·have hjb:¬(j:Int)<(ps.length:Int):=by omega
   have e:ps.take j=ps:=List.take_of_length_le (by omega);have hGr:=HGr.out;rw[e] at hGr;have HGe:=Hid.mk' hGr;have hqr:=HKr.out.heap HQ.out (by simpa using hqG);have hqrs:=ζ hqr;have q1:=ξ hqr;simp only[υ,zG,zH,zI] at q1;have HKe:Hid (Kp [A,G] w wr):=HKr.out.mono (by simp);have HDe:Hid (Devv V A N C l writes wr):=qG3 HD.out HKr.out (OffD.one HG.out (by decide));clear e hGr HGr hqr HSL HGOOD HQC HPr;go_wp2_with fail
   go_loopw [48] (fun i w'=>i=.int .i64 0∧w'=wr) (fun _ _=>0)
   case atStart=>exact⟨rfl,rfl⟩
   case round=>
    obtain⟨rfl,rfl⟩:=hrel;go_wp2
    go_end0
    exact⟨rfl,HGe.out,HDe.out,HKe.out⟩
theorem zI5{N:Nat}{l:Dvw}:∀ {n b:Nat} {s:Int} {t:Tn n},Laid N l.l n b s t→cnt n t≤126
 | 0,_,_,_,h=>h.2.2.2.2.2.2
 | n+1,_,_,t,h=>by
  obtain⟨_,_,_,hs,h1,_,_,_,_,h2⟩:=h;show (η t).length≤126;rw[←h1.1];exact h2
theorem jF2{N:Nat}{l:Dvw}{n b:Nat}{s:Int}{t:Tn (n+1)}{w:World}{hs:List HL}(hL:Laid N l.l (n+1) b s t)(hbo:Both (RLof (RN (Laid N l.l) n w) (Laid N l.l n)) hs (η t)):
  ∀ j (h1:j<hs.length) (h2:j<(η t).length),hs[j].key=(η t)[j].key∧hs[j].p=none∧∃ b':Nat,hs[j].b=(b':Int)∧Laid N l.l n b' hs[j].s (η t)[j].sub:=by
 intro j h1 h2;have ho:=zZ0 n b s t hL _ (List.getElem_mem h2);have hr:=hbo.2 j h1 h2
 cases hx:(η t)[j].ref with
 | none=>have:=ho.some;rw[hx] at this;cases this
 | some x=>
  obtain⟨e0,e⟩:=hr;rw[hx] at e;obtain⟨e1,e2,e3,e4⟩:=e;exact⟨e0,e3,x.1,e1,by rw[e2];exact e4⟩
theorem xX9{n:Nat}{lo:ByteArray}{t:Tn (n+1)}(hg:Good (n+1) lo t)(j:Nat)(hj:j<(η t).length):
  (∀ q∈((η t).take j).flatMap (fun m=>cont n m.sub),kl q.k (η t)[j].key=true)∧(0<j→((η t).take j).flatMap (fun m=>cont n m.sub)≠[])∧(∀ p∈cont n (η t)[j].sub,kl p.k (η t)[j].key=false∧p∈cont (n+1) t):=by
 refine⟨fun q hq=>?_,fun h0 e=>?_,fun p hp=>⟨?_,?_⟩⟩
 ·obtain⟨m,hm,hq⟩:=List.mem_flatMap.1 hq;have hp:(η t).Pairwise (qQ8 n):=hg.pair;rw[←List.take_append_drop j (η t),List.drop_eq_getElem_cons hj] at hp;exact ((List.pairwise_append.1 hp).2.2 m hm _ (List.mem_cons_self ..)).2 q hq
 ·obtain⟨a,r,er⟩:∃ a r,(η t).take j=a::r:=by
   cases hx:(η t).take j with
   | nil=>have h5:=congrArg List.length hx;rw[List.length_take,List.length_nil] at h5;omega
   | cons a r=>exact⟨a,r,rfl⟩
  have ha:=hg.all a (List.mem_of_mem_take (i:=j) (by show a∈(η t).take j;rw[er];simp));obtain⟨q,hq⟩:=qZ5 n a.key a.sub ha.1 (by omega);have:q∈((η t).take j).flatMap (fun m=>cont n m.sub):=List.mem_flatMap.2 ⟨a,by rw[er];simp,hq⟩;rw[e] at this;cases this
 ·exact ((qN9 n _ _ (hg.all _ (List.getElem_mem hj)).1).2 p hp).2
 ·exact List.mem_flatMap.2 ⟨_,List.getElem_mem hj,hp⟩
theorem jX9(V A N C:Nat)(l:Dvw)(writes:Int)(hN:N≤1000)(hln:N*128≤l.l.length)(hAC:C≠A)(hVA:V≠A)(n:Nat)(IH:qY6 V A N C l writes n):qY6 V A N C l writes (n+1):=by
 intro t q G lh bl k b s w hd hG hR hL hgood hk hb0 hb1;obtain⟨vl,hq,hs,hsl,hbo⟩:=hR;obtain⟨bs,cp,rfl⟩:=qM0 hsl;have hat:=hL.at;have hLK:=jF2 hL hbo;have HLK:=zh hLK;have HLEN:Hid (hs.length=(η t).length∧hs.length≤126):=⟨hbo.1,by rw[hbo.1];exact zI5 hL⟩;have HGOOD:=zh hgood;have HKK:=zh hk;have HD:=zh hd;have HSL:=zh hsl;have HQ:=zh hq;have HND:Hid (qB9 (n+1) t=1+meas (fun m:Lnk (Tn n)=>qB9 n m.sub) (η t)):=rfl;have hqG:q≠G:=qB7 hq hG (by decide);have hqA:q≠A:=by obtain⟨c,h⟩:=hd.hA;exact qB7 hq h (by decide)
 have hGA:G≠A:=by obtain⟨c,h⟩:=hd.hA;exact qB7 hG h (by decide)
 have hAs:A<w.heap.size:=by obtain⟨c,h⟩:=hd.hA;exact ζ h
 have hGs:=ζ hG;have hqs:=ζ hq;have HG:=zh hG;have HB1:=zh hb1;rw[show bl+((qB9 (n+1) t:Nat):Int)-1=bl+((meas (fun m:Lnk (Tn n)=>qB9 n m.sub) (η t):Nat):Int) by rw[HND.out];omega,show cont (n+1) t=(η t).flatMap fun m=>cont n m.sub from rfl];have q1:=ξ hq;simp only[υ,zG,zH,zI] at q1;clear hd hG hq hsl hL hgood hk hbo hLK hb1;rw[qC2];go_enter func113,ntmps113;go_wp2_with fail;obtain⟨w0,hw0,hP0,hK0,hs0⟩:=qE8 w (.cells #[.string lh.key,.int .i64 lh.b,.int .u64 lh.s,.pointer lh.ptr] 81);rw[←hw0];have HP0:=zh hP0;have HK0:=zh hK0;clear hw0 hP0 hK0 q1
 go_loopw [15] (fun i w'=>i=.int .i64 0∧w'=w0) (fun _ _=>0)
 case atStart=>exact⟨rfl,rfl⟩
 case round=>
  obtain⟨rfl,hwr0⟩:=hrel;rw[hwr0];clear hwr0;have hq0:=HK0.out.hp HQ.out;have hq0s:=ζ hq0;have q1:=ξ hq0 1;have q2:=ξ hq0 2;simp only[υ,zG,zH,zI] at q1 q2;clear hq0;go_wp2_with fail
  go_loopw [48] (fun i wr=>∃ (j:Nat),j≤hs.length∧i=.int .i64 j∧w.heap.size<wr.heap.size∧Hid (wr.heap[G]?=some (qD3 V (bl+meas (fun m:Lnk (Tn n)=>qB9 n m.sub) ((η t).take j)) (qH2 k (((η t).take j).flatMap fun m=>cont n m.sub))))∧Hid (Devv V A N C l writes wr)∧Hid (wr.heap[w.heap.size]?=some (.cells #[.string lh.key,.int .i64 lh.b,.int .u64 lh.s,.pointer lh.ptr] 81))∧Hid (Kp [A,G] w wr)) (fun i _=>hs.length-(intOf i).toNat)
  case atStart=>exact⟨0,Nat.zero_le _,rfl,by omega,by show _=_;simpa [qE2,xS4] using HK0.out.hp HG.out,qG3 HD.out HK0.out (by intro k hk;cases hk),HP0,HK0.out.mono (by simp)⟩
  case round=>
   rename_i wr hrel;obtain⟨j,hj,rfl,hsw,HGr,HDr,HPr,HKr⟩:=hrel;clear q1 q2 HP0 HK0 hs0 hq0s;by_cases hlt:j<hs.length
   ·have hjm:j<(η t).length:=by have:=HLEN.out;omega
    obtain⟨hkey,hpn,b',hbb,hlaid⟩:=HLK.out j hlt hjm;obtain⟨gl1,gl2,gl3⟩:=xX9 HGOOD.out j hjm;have hga:=HGOOD.out.all (η t)[j] (List.getElem_mem hjm);have hms:=qK8 (fun m:Lnk (Tn n)=>qB9 n m.sub) (η t) j hjm;have hmt:=qM8 (fun m:Lnk (Tn n)=>qB9 n m.sub) (η t) (j+1);have hb1:=HB1.out;rw[HND.out] at hb1;have hfs:((η t).take (j+1)).flatMap (fun m=>cont n m.sub)=((η t).take j).flatMap (fun m=>cont n m.sub)++cont n (η t)[j].sub:=by
     rw[List.take_succ_eq_append_getElem hjm,List.flatMap_append];simp
    have HBEL:Hid (∀ W,Devv V A N C l writes W→W.heap[G]?=some (qD3 V (bl+meas (fun m:Lnk (Tn n)=>qB9 n m.sub) ((η t).take j)) (qH2 k (((η t).take j).flatMap fun m=>cont n m.sub)))→W.heap[q]?=some (υ ((n+1:Nat):Int) (.slice none 0 0) (.slice bs hs.length cp))→Calls prog 155 #[.pointer (some ⟨G,0,none⟩),.pointer (some ⟨q,0,none⟩),.agg #[.int .i64 hs[j].b,.int .u64 hs[j].s]] W fun e w'=>∃ q2,e=.returned (.pointer (some ⟨q2,0,none⟩))∧RN (Laid N l.l) n w' q2 (η t)[j].sub∧Devv V A N C l writes w'∧w'.heap[G]?=some (qD3 V (bl+meas (fun m:Lnk (Tn n)=>qB9 n m.sub) ((η t).take j)+1) (qH2 k (((η t).take j).flatMap fun m=>cont n m.sub)))∧Kp [A,G] W w'):=fun W h1 h2 h3=>by
     rw[hbb];exact xO4 V A N C l writes hN hln hAC hVA n b' hs[j].s (η t)[j].sub G q _ _ _ _ W h1 hlaid h2 h3 (by omega) (by omega) hga.2.1 (by have:=zI5 hlaid;omega)
    have HWALK:Hid (∀ W q2,Devv V A N C l writes W→W.heap[G]?=some (qD3 V (bl+meas (fun m:Lnk (Tn n)=>qB9 n m.sub) ((η t).take j)+1) (qH2 k (((η t).take j).flatMap fun m=>cont n m.sub)))→RN (Laid N l.l) n W q2 (η t)[j].sub→Calls prog 113 #[.pointer (some ⟨G,0,none⟩),.agg #[.string hs[j].key,.int .i64 hs[j].b,.int .u64 hs[j].s,.pointer hs[j].ptr],.pointer (some ⟨q2,0,none⟩)] W fun e w'=>e=.returned (.tuple #[])∧w'.heap[G]?=some (qD3 V (bl+meas (fun m:Lnk (Tn n)=>qB9 n m.sub) ((η t).take (j+1))) (qH2 k (((η t).take (j+1)).flatMap fun m=>cont n m.sub)))∧Devv V A N C l writes w'∧Kp [A,G] W w'):=fun W q2 h1 h2 h3=>by
     have h:=IH (η t)[j].sub q2 G hs[j] _ _ b' hs[j].s W h1 h2 h3 hlaid (by rw[hkey];exact hga.1) (fun p hp=>zG2 (.inl (HKK.out p (gl3 p hp).2)) fun q hq=>qO1 (gl1 q hq) (gl3 p hp).1) (by omega) (by omega);rw[xS3,←hfs] at h;refine h.mono ?_;rintro e w' ⟨e1,e2,e3⟩;refine⟨e1,?_,e3⟩;rw[e2]
     congr 2
     omega
    have hneed:0<j→kl (qH2 k (((η t).take j).flatMap fun m=>cont n m.sub)) hs[j].key=true:=fun h0=>by rw[hkey];exact zG2 (.inr (gl2 h0)) gl1
    have hhead:j=0→hs[j].key=lh.key:=fun h0=>by
     rw[hkey];refine HGOOD.out.head _ ?_;show (η t)[j]∈(η t).head?;rw[List.head?_eq_getElem?];subst h0;exact List.getElem?_eq_getElem hjm
    obtain⟨gb,off,cp',cur,fr,hv,hcp,hrow,hcur⟩:=HSL.out.link (by omega);obtain⟨c0,c1,c2,c3⟩:=hcur j hlt;simp only[Value.slice.injEq,true_and] at hv;obtain⟨rfl,rfl⟩:=hv;have hR:=HKr.out.heap hrow (by simp;exact⟨by obtain⟨c,h⟩:=HD.out.hA;exact qB7 hrow h (by decide),qB7 hrow HG.out (by decide)⟩);have a0:=ξ hR (off+j*4);rw[c0] at a0;have a1:=ξ hR (off+j*4+1);rw[c1] at a1;have a2:=ξ hR (off+j*4+2);rw[c2] at a2;have a3:=ξ hR (off+j*4+3);rw[c3] at a3;have hgs:=ζ hR;have hjb:(j:Int)<(hs.length:Int):=by omega
    have HNEED:=zh hneed;have HHEAD:=zh hhead;clear c0 c1 c2 c3 hR hcur hcp hrow hneed hhead hfs hb1 hmt hms hga gl1 gl2 gl3 hlaid hbb hpn hkey;obtain⟨kk,hkk0⟩:∃ x,x=qH2 k (((η t).take j).flatMap fun m=>cont n m.sub):=⟨_,rfl⟩;obtain⟨bm,hbm0⟩:∃ x:Int,x=bl+meas (fun m:Lnk (Tn n)=>qB9 n m.sub) ((η t).take j):=⟨_,rfl⟩;obtain⟨k2,hk20⟩:∃ x,x=qH2 k (((η t).take (j+1)).flatMap fun m=>cont n m.sub):=⟨_,rfl⟩;obtain⟨b2,hb20⟩:∃ x:Int,x=bl+meas (fun m:Lnk (Tn n)=>qB9 n m.sub) ((η t).take (j+1)):=⟨_,rfl⟩;rw[←hkk0,←hbm0] at HBEL HGr;rw[←hkk0,←hbm0,←hk20,←hb20] at HWALK;rw[←hkk0] at HNEED;have HEQ:Hid (k2=qH2 k (((η t).take (j+1)).flatMap fun m=>cont n m.sub)∧b2=bl+meas (fun m:Lnk (Tn n)=>qB9 n m.sub) ((η t).take (j+1))):=⟨hk20,hb20⟩;clear hkk0 hbm0 hk20 hb20;generalize hs[j]=hx at HBEL HWALK HNEED HHEAD a0 a1 a2 a3;have HJ:=zh hlt;clear hlt hj;by_cases hj0:j=0
    ·have hkk:=HHEAD.out hj0;subst hj0;simp only[Nat.zero_mul,Nat.add_zero] at a0 a1 a2 a3;have hPr:=HPr.out;have p0:=ξ hPr 0;simp only[zG,zH,zI] at p0;rw[←hkk] at p0;clear hPr;have HKY:=zh hkk;clear hkk;go_wp2_with fail;obtain⟨w1,hw1,h71,hK1,hs1⟩:=qE8 wr (.cells #[.string hx.key,.int .i64 hx.b,.int .u64 hx.s,.pointer hx.ptr] 81);rw[←hw1];clear hw1 a0 a1 a2 a3 hgs;have HG1:=Hid.mk' (hK1.hp HGr.out);have HP1:Hid (w1.heap[w.heap.size]?=some (.cells #[.string lh.key,.int .i64 lh.b,.int .u64 lh.s,.pointer lh.ptr] 81)):=hK1.hp HPr.out;have H71:=zh h71;have HD1:Hid (Devv V A N C l writes w1):=qG3 HDr.out hK1 (by intro k hk;cases hk);have HQ1:Hid (w1.heap[q]?=some (υ ((n+1:Nat):Int) (.slice none 0 0) (.slice (some ⟨gb,off,none⟩) hs.length cp))):=hK1.heap (HKr.out.heap HQ.out (by simp[hqA,hqG])) (by simp);have HK1:Hid (Kp [A,G] w w1):=HKr.out.tr hK1;clear h71 hK1;clear p0;refine (qS9 w1).mono ?_;rintro e w1' ⟨rfl,hw⟩;rw[hw];clear hw w1';go_wp2_with fail;obtain⟨wq,hwq,hKq⟩:∃ wq,wq=w1∧Kp [] w1 wq:=⟨_,rfl,(Kp.refl _ _)⟩;rw[←hwq];clear hwq;have hKd:Kp [] w1 wq.drew:=hKq.drew;have hGd:=hKd.hp HG1.out;have hSd:wq.drew.heap[wr.heap.size]?=some (.cells #[.string hx.key,.int .i64 hx.b,.int .u64 hx.s,.pointer hx.ptr] 81):=hKd.hp H71.out;have hDd:=qG3 HD1.out hKd (by intro k hk;cases hk);have hQd:=hKd.hp HQ1.out;refine wp_region_held_drew (S:=fun W=>W.heap[wr.heap.size]?=some (.cells #[.string hx.key,.int .i64 hx.b,.int .u64 hx.s,.pointer hx.ptr] 81)) (by kernel_rfl) hSd (fun _=>?_);refine zP 0 G 0 hSd ?_;refine zV 1 (.agg #[.string hx.key,.int .i64 hx.b,.int .u64 hx.s,.pointer hx.ptr]) rfl (fun W hS=>by have a:=ξ hS;clear hS;go_simp) hSd ?_;refine zP 2 G 0 hSd ?_;refine zP 3 q 0 hSd ?_;refine zP 4 wr.heap.size 1 hSd ?_;refine zW 5 (.agg #[.int .i64 hx.b,.int .u64 hx.s]) hSd id ?_;refine zq 6 fun K hK=>?_;go_simp;refine (show Calls _ _ _ _ _ from HBEL.out wq.drew hDd hGd hQd).mono ?_;rintro e w2 ⟨q2,rfl,hR2,hD2,hG2,hK2⟩;have hS2:=hK2.ho hSd;refine hK.out _ _ hS2 (fun _=>?_);clear hK K
     try simp only[zZ]
     refine zq 7 fun K hK=>?_;go_simp;refine (show Calls _ _ _ _ _ from HWALK.out w2 q2 hD2 hG2 hR2).mono ?_;rintro e w3 ⟨rfl,hG3,hD3,hK3⟩;refine hK.out _ _ (hK3.ho hS2) (fun _=>?_);clear hK K;refine zd ?_
     try simp only[zZ]
     have HE:Hid (w3.heap[G]?=some (qD3 V b2 k2)∧Devv V A N C l writes w3∧w3.heap[w.heap.size]?=some (.cells #[.string lh.key,.int .i64 lh.b,.int .u64 lh.s,.pointer lh.ptr] 81)∧Kp [A,G] w w3∧w.heap.size<w3.heap.size):=by
      have hK23:Kp [A,G] w1 w3:=((hKd.mono (by simp)).tr hK2).tr hK3;exact⟨hG3,hD3,hK23.ho HP1.out,HK1.out.tr hK23,by have:=hK23.size;omega⟩
     clear hG3 hD3 hK3 hS2 hR2 hD2 hG2 hK2 hSd hDd hQd hGd hKd hKq;go_wp2
     try rw[HWJ.out]
     obtain⟨f1,f2,f3,f4,f5⟩:=HE.out;rw[HEQ.out.1,HEQ.out.2] at f1;have hle:=HLEN.out.2;have hjlt:=HJ.out;exact⟨⟨0+1,by have:=HJ.out;omega,by go_num,f5,f1,f2,f3,f4⟩,by have:=HJ.out;simp[intOf];omega⟩
    ·have hjz:¬(j:Int)=0:=by omega
     have hgt0:=HNEED.out (by omega);obtain⟨hgt,hgt2⟩:=zY4 hgt0;clear hgt0;go_wp2_with fail;obtain⟨w1,hw1,h71,hK1,hs1⟩:=qE8 wr (.cells #[.string hx.key,.int .i64 hx.b,.int .u64 hx.s,.pointer hx.ptr] 81);rw[←hw1];clear hw1 a0 a1 a2 a3 hgs;have HG1:=Hid.mk' (hK1.hp HGr.out);have HP1:Hid (w1.heap[w.heap.size]?=some (.cells #[.string lh.key,.int .i64 lh.b,.int .u64 lh.s,.pointer lh.ptr] 81)):=hK1.hp HPr.out;have H71:=zh h71;have HD1:Hid (Devv V A N C l writes w1):=qG3 HDr.out hK1 (by intro k hk;cases hk);have HQ1:Hid (w1.heap[q]?=some (υ ((n+1:Nat):Int) (.slice none 0 0) (.slice (some ⟨gb,off,none⟩) hs.length cp))):=hK1.heap (HKr.out.heap HQ.out (by simp[hqA,hqG])) (by simp);have HK1:Hid (Kp [A,G] w w1):=HKr.out.tr hK1;clear h71 hK1;have hG1:=HG1.out;have h71:=H71.out;have hG1s:=ζ hG1;have h71s:=ζ h71;have g0:=ξ hG1 0;have g1:=ξ hG1 1;have g2:=ξ hG1 2;simp only[qD3,zG,zH,zI] at g0 g1 g2;have z0:=ξ h71;clear hG1 h71
     go_quiet (first | (go_at_call 154;exact Calls.quiet_of_same (qS9 _)))
     clear hgt hgt2 g0 g1 g2 z0;go_wp2_with fail;have HWJ:Hid (wrap64 ((j:Int)+1)=(j:Int)+1):=by show wrap64 ((j:Int)+1)=(j:Int)+1;have:=HJ.out;have:=HLEN.out.2;simp only[wrap64];omega
     obtain⟨wq,hwq,hKq⟩:∃ wq,wq=w1.drewN nq∧Kp [] w1 wq:=⟨_,rfl,((Kp.refl _ _).drewN _)⟩;rw[←hwq];clear hwq;have hKd:Kp [] w1 wq.drew:=hKq.drew;have hGd:=hKd.hp HG1.out;have hSd:wq.drew.heap[wr.heap.size]?=some (.cells #[.string hx.key,.int .i64 hx.b,.int .u64 hx.s,.pointer hx.ptr] 81):=hKd.hp H71.out;have hDd:=qG3 HD1.out hKd (by intro k hk;cases hk);have hQd:=hKd.hp HQ1.out;refine wp_region_held_drew (S:=fun W=>W.heap[wr.heap.size]?=some (.cells #[.string hx.key,.int .i64 hx.b,.int .u64 hx.s,.pointer hx.ptr] 81)) (by kernel_rfl) hSd (fun _=>?_);refine zP 0 G 0 hSd ?_;refine zV 1 (.agg #[.string hx.key,.int .i64 hx.b,.int .u64 hx.s,.pointer hx.ptr]) rfl (fun W hS=>by have a:=ξ hS;clear hS;go_simp) hSd ?_;refine zP 2 G 0 hSd ?_;refine zP 3 q 0 hSd ?_;refine zP 4 wr.heap.size 1 hSd ?_;refine zW 5 (.agg #[.int .i64 hx.b,.int .u64 hx.s]) hSd id ?_;refine zq 6 fun K hK=>?_;go_simp;refine (show Calls _ _ _ _ _ from HBEL.out wq.drew hDd hGd hQd).mono ?_;rintro e w2 ⟨q2,rfl,hR2,hD2,hG2,hK2⟩;have hS2:=hK2.ho hSd;refine hK.out _ _ hS2 (fun _=>?_);clear hK K
     try simp only[zZ]
     refine zq 7 fun K hK=>?_;go_simp;refine (show Calls _ _ _ _ _ from HWALK.out w2 q2 hD2 hG2 hR2).mono ?_;rintro e w3 ⟨rfl,hG3,hD3,hK3⟩;refine hK.out _ _ (hK3.ho hS2) (fun _=>?_);clear hK K;refine zd ?_
     try simp only[zZ]
     have HE:Hid (w3.heap[G]?=some (qD3 V b2 k2)∧Devv V A N C l writes w3∧w3.heap[w.heap.size]?=some (.cells #[.string lh.key,.int .i64 lh.b,.int .u64 lh.s,.pointer lh.ptr] 81)∧Kp [A,G] w w3∧w.heap.size<w3.heap.size):=by
      have hK23:Kp [A,G] w1 w3:=((hKd.mono (by simp)).tr hK2).tr hK3;exact⟨hG3,hD3,hK23.ho HP1.out,HK1.out.tr hK23,by have:=hK23.size;omega⟩
     clear hG3 hD3 hK3 hS2 hR2 hD2 hG2 hK2 hSd hDd hQd hGd hKd hKq;go_wp2
     try rw[HWJ.out]
     obtain⟨f1,f2,f3,f4,f5⟩:=HE.out;rw[HEQ.out.1,HEQ.out.2] at f1;have hle:=HLEN.out.2;have hjlt:=HJ.out;exact⟨⟨j+1,by have:=HJ.out;omega,by go_num,f5,f1,f2,f3,f4⟩,by have:=HJ.out;simp[intOf];omega⟩
   ·have hjb:¬(j:Int)<(hs.length:Int):=by omega
    have e:(η t).take j=η t:=List.take_of_length_le (by have:=HLEN.out;omega);have hGr:=HGr.out;rw[e] at hGr;have HGe:=Hid.mk' hGr;clear e hGr HGr;go_wp2
    go_end0
    exact⟨rfl,HGe.out,HDr.out,HKr.out⟩
theorem xH3(V A N C:Nat)(l:Dvw)(writes:Int)(hN:N≤1000)(hln:N*128≤l.l.length)(hAC:C≠A)(hVA:V≠A):∀ n,qY6 V A N C l writes n
 | 0=>jX8 V A N C l writes
 | n+1=>jX9 V A N C l writes hN hln hAC hVA n (xH3 V A N C l writes hN hln hAC hVA n)
theorem jE6{k:ByteArray}(h:1≤k.size):kl ⟨#[]⟩ k=true:=by
 by_cases e:kl ⟨#[]⟩ k=true
 ·exact e
 ·have h2:=zB3 (a:=⟨#[]⟩) (b:=k) (by simpa using e) (qO8 k);rw[←h2] at h;exact absurd h (by decide)
theorem jU6(V A N C:Nat)(l:Dvw)(writes:Int)(hN:N≤1000)(hln:N*128≤l.l.length)(hAC:C≠A)(hVA:V≠A)(n b:Nat)(s:Int)(L:Lnk (Tn n))(w:World)(hd:Devv V A N C l writes w)(hL:Laid N l.l n b s L.sub)(href:L.ref=some (b,s))(hg:RGood (.at n L))(hcount:qB9 n L.sub≤100000):
  Calls prog 75 #[τ V ⟨⟨#[]⟩,b,s,none⟩] w fun e w'=>e=.returned (.int .i64 (qB9 n L.sub))∧Devv V A N C l writes w'∧Kp [A] w w':=by
 have hlie:Lie N l.l b s (.at n L):=⟨b,rfl,href,hL⟩;have hkey:L.key=⟨#[]⟩:=hg.1;have HEMP:Hid (∀ W,Kp [] w W→Calls prog 85 #[τ V ⟨⟨#[]⟩,b,s,none⟩] W fun e w'=>e=.returned (.bool false)∧Kp [] W w'):=fun W hW=>by
  have hr:RR (EL V A N C l.l writes hN hln hAC hVA).toEnv W ⟨⟨#[]⟩,b,s,none⟩ (.at n L):=hlie.rr hg W;exact qW2 (EL V A N C l.l writes hN hln hAC hVA).toEnv n ⟨⟨#[]⟩,b,s,none⟩ L W hr hkey
 have hgood:Good n ⟨#[]⟩ L.sub:=by have:=hg.2.1;rw[hkey] at this;exact this
 have HROOT:Hid (∀ W G,Devv V A N C l writes W→W.heap[G]?=some (qD3 V 0 ⟨#[]⟩)→Calls prog 114 #[.pointer (some ⟨G,0,none⟩),.agg #[.int .i64 b,.int .u64 s]] W fun e w'=>∃ q,e=.returned (.pointer (some ⟨q,0,none⟩))∧RN (Laid N l.l) n w' q L.sub∧Devv V A N C l writes w'∧w'.heap[G]?=some (qD3 V (0+1) ⟨#[]⟩)∧Kp [A,G] W w'):=fun W G h1 h2=>xQ7 V A N C l writes hN hln hAC hVA n b s L.sub G 0 ⟨#[]⟩ W h1 hL h2 (by omega) (by omega) hg.2.2 (by have:=zI5 hL;omega);have HWALK:Hid (∀ W G q,Devv V A N C l writes W→W.heap[G]?=some (qD3 V (0+1) ⟨#[]⟩)→RN (Laid N l.l) n W q L.sub→Calls prog 113 #[.pointer (some ⟨G,0,none⟩),.agg #[.string ⟨#[]⟩,.int .i64 b,.int .u64 s,.pointer none],.pointer (some ⟨q,0,none⟩)] W fun e w'=>e=.returned (.tuple #[])∧(∃ k,w'.heap[G]?=some (qD3 V (qB9 n L.sub) k))∧Devv V A N C l writes w'∧Kp [A,G] W w'):=fun W G q h1 h2 h3=>by
  have h:=xH3 V A N C l writes hN hln hAC hVA n L.sub q G ⟨⟨#[]⟩,b,s,none⟩ _ _ b s W h1 h2 h3 hL hgood (fun p hp=>jE6 ((qN9 n _ _ hgood).2 p hp).1.1) (by omega) (by omega);refine h.mono ?_;rintro e w' ⟨e1,e2,e3⟩;refine⟨e1,⟨qH2 ⟨#[]⟩ (cont n L.sub),?_⟩,e3⟩;rw[e2]
  congr 2
  omega
 have HD:=zh hd;have hAs:A<w.heap.size:=by obtain⟨c,h⟩:=hd.hA;exact ζ h
 clear hd hL href hg hgood hlie hkey;rw[show τ V ⟨⟨#[]⟩,b,s,none⟩=.agg #[.pointer (some ⟨V,0,none⟩),.string ⟨#[]⟩,.int .i64 b,.int .u64 s,.pointer none] from rfl] at HEMP ⊢;go_enter func75,ntmps75;go_wp2_with fail;obtain⟨w0,hw0,hT0,hG0,hK0,hs0⟩:∃ w0,w0=(w.alloc (.cells #[.pointer (some ⟨V,0,none⟩),.string ⟨#[]⟩,.int .i64 b,.int .u64 s,.pointer none] 83)).alloc (qD3 V 0 ⟨#[]⟩)∧w0.heap[w.heap.size]?=some (.cells #[.pointer (some ⟨V,0,none⟩),.string ⟨#[]⟩,.int .i64 b,.int .u64 s,.pointer none] 83)∧w0.heap[w.heap.size+1]?=some (qD3 V 0 ⟨#[]⟩)∧Kp [] w w0∧w0.heap.size=w.heap.size+2:=by
  refine⟨_,rfl,θ _ (μ _ _),?_,((Kp.refl _ _).alloc _).alloc _,by simp⟩;have e:=μ (w.alloc (.cells #[.pointer (some ⟨V,0,none⟩),.string ⟨#[]⟩,.int .i64 b,.int .u64 s,.pointer none] 83)) (qD3 V 0 ⟨#[]⟩);simpa using e
 rw[qD3] at hw0;rw[←hw0];clear hw0;refine (show Calls _ _ _ _ _ from HEMP.out w0 hK0).mono ?_;rintro e w1 ⟨rfl,hK1⟩;have HT1:Hid (w1.heap[w.heap.size]?=some (.cells #[.pointer (some ⟨V,0,none⟩),.string ⟨#[]⟩,.int .i64 b,.int .u64 s,.pointer none] 83)):=hK1.hp hT0;have HG1:Hid (w1.heap[w.heap.size+1]?=some (qD3 V 0 ⟨#[]⟩)):=hK1.hp hG0;have HK1:Hid (Kp [] w w1):=hK0.tr hK1;clear hK0 hK1 hT0 hG0 hs0;go_wp2_with fail;have hKd:Kp [] w1 w1.drew:=(Kp.refl [] _).drew;have hDd:Devv V A N C l writes w1.drew:=qG3 HD.out (HK1.out.tr hKd) (by intro k hk;cases hk);have hSd:w1.drew.heap[w.heap.size]?=some (.cells #[.pointer (some ⟨V,0,none⟩),.string ⟨#[]⟩,.int .i64 b,.int .u64 s,.pointer none] 83):=HT1.out;refine wp_region_held_drew (S:=fun W=>W.heap[w.heap.size]?=some (.cells #[.pointer (some ⟨V,0,none⟩),.string ⟨#[]⟩,.int .i64 b,.int .u64 s,.pointer none] 83)) (by kernel_rfl) hSd (fun _=>?_);refine zU 0 (.pointer (some ⟨w.heap.size+1,0,none⟩)) hSd ?_;refine zP 1 w.heap.size 1 hSd ?_;refine zW 2 (.agg #[.string ⟨#[]⟩,.int .i64 b,.int .u64 s,.pointer none]) hSd id ?_;refine zU 3 (.pointer (some ⟨w.heap.size+1,0,none⟩)) hSd ?_;refine zP 4 w.heap.size 1 hSd ?_;refine zP 5 w.heap.size 2 hSd ?_;refine zW 6 (.agg #[.int .i64 b,.int .u64 s]) hSd id ?_;refine zq 7 fun K hK=>?_;go_simp;refine (show Calls _ _ _ _ _ from HROOT.out w1.drew _ hDd HG1.out).mono ?_;rintro e w2 ⟨q2,rfl,hR2,hD2,hG2,hK2⟩;have hS2:=hK2.ho hSd;refine hK.out _ _ hS2 (fun _=>?_);clear hK K
 try simp only[zZ]
 refine zq 8 fun K hK=>?_;go_simp;refine (show Calls _ _ _ _ _ from HWALK.out w2 _ q2 hD2 hG2 hR2).mono ?_;rintro e w3 ⟨rfl,⟨kx,hG3⟩,hD3,hK3⟩;refine hK.out _ _ (hK3.ho hS2) (fun _=>?_);clear hK K;refine zd ?_
 try simp only[zZ]
 have HE:Hid (Devv V A N C l writes w3∧Kp [A] w w3):=⟨hD3,((HK1.out.tr hKd).mono (S':=[A]) (by simp)).trans (hK2.tr hK3) (by intro i hi hlt;simp at hi ⊢;rcases hi with h | h;exact h;omega)⟩;have hG3s:=ζ hG3;have g1:=ξ hG3 1;simp only[qD3,zG,zH,zI] at g1;clear hG3 hD3 hK3 hS2 hR2 hD2 hG2 hK2 hSd hDd hKd;go_wp2;go_ret;exact⟨rfl,HE.out⟩
end Go.Proofs.YtdohpenfkdckiabGreatDoor
