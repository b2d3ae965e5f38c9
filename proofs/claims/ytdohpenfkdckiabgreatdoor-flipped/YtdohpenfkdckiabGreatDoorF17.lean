import Derived.Test.YtdohpenfkdckiabGreatDoorF16
set_option linter.all false
set_option maxRecDepth 100000
set_option maxHeartbeats 20000000
namespace Go.Proofs.YtdohpenfkdckiabGreatDoor
open Go.Proofs.Tryz
open Go.RowKit Go.MuLone
theorem xF5(St f:Nat)(s:Sto)(first cap:Array Value)(call:ByteArray)(X:List Nat)(Q:World→World→Prop)(w:World)(hSt:w.heap[St]?=some (τ 0 s))(hpo:s.po=false)
  (hcf:∀ W:World,Sem.run prog (callFunc f (first++cap)) W=.ok (.enter f (first++cap)) W) (hX:∀ i,i∈X→i<w.heap.size)
  (hw:∀ W:World,Kp [St] w W→W.heap[St]?=some (τ 1 s)→Calls prog f (first++cap) W fun e w1=>e=qE4 none∧Q W w1∧Kp (St::X) W w1∧(∃ s',w1.heap[St]?=some (τ 1 s'))):
  Calls prog 44 #[.pointer (some ⟨St,0,none⟩),.string call,.func (.func f) first cap] w fun e w'=>∃ v,e=.returned v∧v=.nilIface∧Kp (St::X) w w'∧∃ W w1 B s',Q W w1∧w1.heap[St]?=some (τ 1 s')∧w'.heap[St]?=some (τ 0 s')∧Kp [St] w W∧w.heap.size≤B∧B<W.heap.size∧w1.heap[B]?=some (.cells #[.nilIface] 35)∧Kp [St,B] w1 w':=by
 have hmf:=zM;have HW:=zh hw;have HX:=zh hX;have HPO:=zh hpo;clear hw hX hpo;have hSs:=ζ hSt
 go_enter_defers func44,ntmps44
 go_wp2_with fail;refine (lock_free qW9 ⟨St,0,none⟩ _ (ξ (θ _ (θ _ hSt)) 0) (ω (θ _ (θ _ hSt)) 0)).mono ?_;rintro e W0 ⟨rfl,rfl⟩;obtain⟨W0,hW0,hK0,hs0,hB0,hF0,hSt0⟩:∃ W0,W0=((w.alloc (.cells #[.pointer (some ⟨St,0,none⟩)] 74)).alloc (.cells #[.func (Fn.func f) first cap] 1)).setCell ⟨St,0,none⟩ (.int .i32 1)∧Kp [St] w W0∧W0.heap.size=w.heap.size+2∧W0.heap[w.heap.size]?=some (.cells #[.pointer (some ⟨St,0,none⟩)] 74)∧W0.heap[w.heap.size+1]?=some (.cells #[.func (Fn.func f) first cap] 1)∧W0.heap[St]?=some (τ 1 s):=by
  refine⟨_,rfl,((((Kp.refl _ _).alloc _).alloc _).sc _),by simp[World.setCell],?_,?_,?_⟩
  ·exact (qA6 (by omega) _ _).trans (θ _ (ν _ _))
  ·refine (qA6 (by omega) _ _).trans ?_;have e:=ν (w.alloc (.cells #[.pointer (some ⟨St,0,none⟩)] 74)) (.cells #[.func (Fn.func f) first cap] 1);simpa using e
  ·exact ψ (θ _ (θ _ hSt)) 0 _
 rw[←hW0];clear hW0;have b0:=ξ hB0 0;simp at b0;go_wp2_with fail;obtain⟨Wc,hWc,hKc,hsc,hBc,hFc,hStc,hEc,hCc⟩:∃ Wc,Wc=(W0.alloc (.cells #[.string call] 9)).alloc (.cells #[.nilIface] 35)∧Kp [St] w Wc∧Wc.heap.size=w.heap.size+4∧Wc.heap[w.heap.size]?=some (.cells #[.pointer (some ⟨St,0,none⟩)] 74)∧Wc.heap[w.heap.size+1]?=some (.cells #[.func (Fn.func f) first cap] 1)∧Wc.heap[St]?=some (τ 1 s)∧Wc.heap[W0.heap.size+1]?=some (.cells #[.nilIface] 35)∧Wc.heap[W0.heap.size]?=some (.cells #[.string call] 9):=by
  refine⟨_,rfl,(hK0.alloc _).alloc _,by simp[hs0],θ _ (θ _ hB0),θ _ (θ _ hF0),θ _ (θ _ hSt0),?_,θ _ (ν _ _)⟩;have e:=ν (W0.alloc (.cells #[.string call] 9)) (.cells #[.nilIface] 35);simpa using e
 have HA1:Hid (Calls prog 83 #[.pointer (some ⟨w.heap.size,0,none⟩),.pointer (some ⟨w.heap.size+1,0,none⟩)] Wc fun e w1=>e=qE4 none∧Q Wc w1∧Kp (St::X) Wc w1∧(∃ s',w1.heap[St]?=some (τ 1 s'))):=
  zN2 none w.heap.size (w.heap.size+1) St f s first cap Wc (fun w1=>Q Wc w1∧Kp (St::X) Wc w1∧(∃ s',w1.heap[St]?=some (τ 1 s'))) hBc hFc hStc HPO.out hcf (HW.out Wc hKc hStc)
 have HNM:Hid (∀ i,w.heap.size≤i→i ∉ St::X):=by
  show ∀ i,w.heap.size≤i→i ∉ St::X;intro i hi h;rcases List.mem_cons.1 h with h|h
  ·omega
  ·have:=HX.out _ h;omega
 clear HW;refine (qY7 83 _ _ _ (fun w1=>Q Wc w1∧Kp (St::X) Wc w1∧(∃ s',w1.heap[St]?=some (τ 1 s'))) (zF4 _) ?_).mono ?_
 ·rw[←hWc];refine (show Calls _ _ _ _ _ from HA1.out).mono ?_;rintro e w1 ⟨rfl,hQ,hk,hst⟩;exact⟨rfl,⟨hQ,hk,hst⟩,hk.heap hEc (HNM.out _ (by omega))⟩
 rintro e w2 ⟨rfl,w1,⟨hQ,hk,s',hst⟩,rfl⟩;have hs1:=hk.size;have hEw1:=hk.heap hEc (HNM.out _ (by omega));obtain⟨w2,hw2,hst2,hK2,ho2⟩:∃ w2,w2=w1.setCell ⟨W0.heap.size+1,0,none⟩ .nilIface∧w2.heap[St]?=some (τ 1 s')∧Kp (St::X) w w2∧Kp [St,W0.heap.size+1] w1 w2:=
  ⟨_,rfl,(qA6 (by omega) _ _).trans hst,(((hKc.mono (S':=St::X) (by simp)).trans hk (fun _ h _=>h)).setCell (Or.inr (by simp;omega)) _),(Kp.refl _ _).sc _⟩
 rw[←hw2];clear hw2
 go_wp2_with (go_at_call 84;refine (zU0 8 _).mono ?_;rintro e w' ⟨rfl,rfl⟩)
 refine leaves_cons (f:=82) (args:=#[.pointer (some ⟨St,0,none⟩)]) (by simp) (by simp[go_sem]) ?_;refine (unlock_deferred qW9 ⟨St,0,none⟩ .returning _ (ξ hst2 0) (ω hst2 0)).mono ?_;rintro e u' w'' ⟨rfl,rfl,rfl⟩;exact⟨_,results_tmp rfl _ _ _,.nilIface,rfl,rfl,hK2.sc _,Wc,w1,W0.heap.size+1,s',hQ,hst,ψ hst2 0 _,hKc,by omega,by omega,hEw1,ho2.sc _⟩
theorem xT7(x St f:Nat)(t:Tx)(s:Sto)(first cap:Array Value)(call:ByteArray)(X:List Nat)(Q:World→World→Prop)(w:World)(hx:w.heap[x]?=some (qA9 t))(htS:t.St=St)(hSt:w.heap[St]?=some (τ 0 s))(hpo:s.po=false)(hX:∀ i,i∈X→i<w.heap.size)
  (hw:∀ W:World,Kp [St] w W→W.heap[St]?=some (τ 1 s)→W.heap[w.heap.size]?=some (.cells #[.pointer (some ⟨x,0,none⟩)] 29)→W.heap[w.heap.size+1]?=some (.cells #[.func (.func f) first cap] 1)→Calls prog 64 #[.pointer (some ⟨w.heap.size,0,none⟩),.pointer (some ⟨w.heap.size+1,0,none⟩)] W fun e w1=>e=qE4 none∧Q W w1∧Kp (St::X) W w1∧(∃ s',w1.heap[St]?=some (τ 1 s'))):
  Calls prog 38 #[.pointer (some ⟨x,0,none⟩),.string call,.func (.func f) first cap] w fun e w'=>∃ v,e=.returned v∧v=.nilIface∧Kp (St::X) w w'∧∃ W w1 B s',Q W w1∧w1.heap[St]?=some (τ 1 s')∧w'.heap[St]?=some (τ 0 s')∧Kp [St] w W∧w.heap.size≤B∧B<W.heap.size∧w1.heap[B]?=some (.cells #[.nilIface] 35)∧Kp [St,B] w1 w':=by
 have hmf:=zM;have HW:=zh hw;have HX:=zh hX;have HPO:=zh hpo;clear hw hX hpo;have hSs:=ζ hSt;have hxs:=ζ hx;subst htS;have d0:=ξ (θ (.cells #[.func (Fn.func f) first cap] 1) (θ (.cells #[.pointer (some ⟨x,0,none⟩)] 29) hx)) 0;simp only[zG,zH] at d0;go_enter func38,ntmps38;go_wp2_with fail;obtain⟨W0,hW0,hK0,hs0,hB0,hF0⟩:∃ W0,W0=(w.alloc (.cells #[.pointer (some ⟨x,0,none⟩)] 29)).alloc (.cells #[.func (Fn.func f) first cap] 1)∧Kp [] w W0∧W0.heap.size=w.heap.size+2∧W0.heap[w.heap.size]?=some (.cells #[.pointer (some ⟨x,0,none⟩)] 29)∧W0.heap[w.heap.size+1]?=some (.cells #[.func (Fn.func f) first cap] 1):=by
  refine⟨_,rfl,((Kp.refl _ _).alloc _).alloc _,by simp,θ _ (ν _ _),?_⟩;have e:=ν (w.alloc (.cells #[.pointer (some ⟨x,0,none⟩)] 29)) (.cells #[.func (Fn.func f) first cap] 1);simpa using e
 rw[←hW0];clear hW0;have hSt0:=hK0.hp hSt;refine (xF5 t.St 64 s #[] #[.pointer (some ⟨w.heap.size,0,none⟩),.pointer (some ⟨w.heap.size+1,0,none⟩)] _ X Q W0 hSt0 HPO.out (zP3 _) (fun i hi=>by have:=HX.out i hi;omega) ?_).mono ?_
 ·intro W hK hS;exact HW.out W ((hK0.mono (S':=[t.St]) (by simp)).trans hK (fun _ h _=>h)) hS (hK.ho hB0) (hK.ho hF0)
 rintro e w2 ⟨v,rfl,rfl,hK2,W,w1,B,s',hQ,hs1,hs2,hKW,hB1,hB2,hB3,hKB⟩;have HR:Hid ((Q W w1∧Kp [t.St,B] w1 w2)∧w1.heap[t.St]?=some (τ 1 s')∧w2.heap[t.St]?=some (τ 0 s')):=⟨⟨hQ,hKB⟩,hs1,hs2⟩;clear hQ hKB hs1 hs2;go_wp2;go_ret;exact⟨.nilIface,rfl,rfl,(hK0.mono (S':=t.St::X) (by simp)).trans hK2 (fun _ h _=>h),W,w1,B,s',HR.out.1.1,HR.out.2.1,HR.out.2.2,(hK0.mono (S':=[t.St]) (by simp)).trans hKW (fun _ h _=>h),by omega,hB2,hB3,HR.out.1.2⟩
theorem xT8(x St f:Nat)(t:Tx)(s:Sto)(first cap:Array Value)(call:ByteArray)(X:List Nat)(Q:World→World→Prop)(w:World)(hx:w.heap[x]?=some (qA9 t))(ho:t.over=false)(htS:t.St=St)(hSt:w.heap[St]?=some (τ 0 s))(hpo:s.po=false)(hne:x≠St)
  (hcf:∀ W:World,Sem.run prog (callFunc f (first++cap)) W=.ok (.enter f (first++cap)) W) (hX:∀ i,i∈X→i<w.heap.size)
  (hw:∀ W:World,Kp [St] w W→W.heap[St]?=some (τ 1 s)→Calls prog f (first++cap) W fun e w1=>e=qE4 none∧Q W w1∧Kp (St::X) W w1∧(∃ s',w1.heap[St]?=some (τ 1 s'))):
  Calls prog 38 #[.pointer (some ⟨x,0,none⟩),.string call,.func (.func f) first cap] w fun e w'=>∃ v,e=.returned v∧v=.nilIface∧Kp (St::X) w w'∧∃ W w1 B s',Q W w1∧w1.heap[St]?=some (τ 1 s')∧w'.heap[St]?=some (τ 0 s')∧Kp [St] w W∧w.heap.size≤B∧B<W.heap.size∧w1.heap[B]?=some (.cells #[.nilIface] 35)∧Kp [St,B] w1 w':=
 xT7 x St f t s first cap call X Q w hx htS hSt hpo hX fun W hK hS hB hF=>
  zT1 none _ _ x f t first cap W (fun w1=>Q W w1∧Kp (St::X) W w1∧(∃ s',w1.heap[St]?=some (τ 1 s'))) hB hF (hK.heap hx (by simp;exact hne)) ho hcf (hw W hK hS)
end Go.Proofs.YtdohpenfkdckiabGreatDoor
namespace Go.Proofs.YtdohpenfkdckiabGreatDoor
open Go.Proofs.Tryz
open Go.RowKit
open Go.Maps (Keyed)
theorem zY9{w:World}{a b:Nat}{c d:Array Value}{t u:TypeId}{fr gr:Nat × Nat}(ha:w.heap[a]?=some (.cells c t fr))(hb:w.heap[b]?=some (.cells d u gr))(h:t≠u):a≠b:=fun e=>by
 subst e;rw[ha] at hb;cases hb;exact h rfl
theorem xL4(args:Array Value)(W:World):Sem.run prog (callFunc 39 args) W=.ok (.enter 39 args) W:=by
 simp[go_sem,func39]
theorem xM3(Tc x n V:Nat)(t:Tx)(s:Sto)(D:DataW Unit)(R:World→World→Prop)(w:World)(hTc:w.heap[Tc]?=some (.cells #[.pointer (some ⟨x,0,none⟩)] 29))(hx:w.heap[x]?=some (qA9 t))(hSt:w.heap[t.St]?=some (τ 1 s))(hM:RM w s.V s.M n D)(h0:0≤t.nr)(h1:t.nr≤1000000000)(hMS:s.M≠t.St)(hxS:x≠t.St)(hxM:x≠s.M)(hTM:Tc≠s.M)(hMs:s.M<w.heap.size)(hon:t.on=some ⟨V,0,none⟩)(hwr:t.wrt=true)
  (hc:∀ W:World,Kp [t.St,x,s.M] w W→W.heap[x]?=some (qA9 t.ended)→W.heap[t.St]?=some (τ 1 (s.left t.nr))→RM W s.V s.M n (D.del (qA3 t.nr))→Calls prog 41 #[.pointer (some ⟨t.St,0,none⟩),υ V t.h] W fun e w'=>e=.returned (.tuple #[])∧R W w'):
  Calls prog 39 #[.pointer (some ⟨Tc,0,none⟩)] w fun e w'=>e=qE4 none∧∃ W,Kp [t.St,x,s.M] w W∧W.heap[x]?=some (qA9 t.ended)∧W.heap[t.St]?=some (τ 1 (s.left t.nr))∧RM W s.V s.M n (D.del (qA3 t.nr))∧R W w':=by
 have hxs:=ζ hx;have hTs:=ζ hTc;have hSs:=ζ hSt;have hTx:Tc≠x:=zY9 hTc hx (by decide);have hTS:Tc≠t.St:=zY9 hTc hSt (by decide);have tc0:=ξ hTc 0;simp only[zG,zH,zI] at tc0;have x4:=ξ hx 4;have x5:=ξ hx 5;have x6:=ξ hx 6;have x7:=ξ hx 7;have x8:=ξ hx 8;simp only[qA9,zG,zH,zI] at x4 x5 x6 x7 x8;rw[hon] at x4;have HX:=zh hx;have HT:=zh hTc;have HS:=zh hSt;have HM:=zh hM;have HN:Hid (s.M≠t.St∧x≠t.St∧x≠s.M∧Tc≠s.M∧Tc≠x∧Tc≠t.St):=⟨hMS,hxS,hxM,hTM,hTx,hTS⟩;have HC:=zh hc;clear hx hTc hSt hM hMS hxS hxM hTM hTx hTS hc;go_enter func39,ntmps39;go_wp2_with fail;obtain⟨w0,hw0,hB0,hK0,hs0⟩:∃ w0,w0=w.alloc (.cells #[.pointer (some ⟨V,0,none⟩),.string t.h.key,.int .i64 t.h.b,.int .u64 t.h.s,.pointer t.h.ptr] 83)∧w0.heap[w.heap.size]?=some (.cells #[.pointer (some ⟨V,0,none⟩),.string t.h.key,.int .i64 t.h.b,.int .u64 t.h.s,.pointer t.h.ptr] 83)∧Kp [] w w0∧w0.heap.size=w.heap.size+1:=⟨_,rfl,ν _ _,(Kp.refl _ _).alloc _,by simp⟩;rw[←hw0];clear hw0 tc0 x4 x5 x6 x7 x8;obtain⟨n1,n2,n3,n4,n5,n6⟩:=HN.out;refine (zQ9 x n t s D w0 (hK0.hp HX.out) (hK0.hp HS.out) (HM.out.kp hK0 (by simp)) h0 h1 n1 n2 n3).mono ?_;rintro e w1 ⟨rfl,hx1,hS1,hM1,hK1⟩;have hKw:Kp [t.St,x,s.M] w w1:=(hK0.mono (by simp)).trans hK1 (fun _ h _=>h);have hT1:=hKw.heap HT.out (by simp;exact⟨n6,n5,n4⟩);have hB1:=hK1.ho hB0;have hT1s:=ζ hT1;have hx1s:=ζ hx1;have hB1s:=ζ hB1;have tc0:=ξ hT1 0;simp only[zG,zH,zI] at tc0;have x0:=ξ hx1 0;have x2:=ξ hx1 2;simp only[qA9,Tx.ended,zG,zH,zI] at x0 x2;rw[hwr] at x2;have HCALL:Hid (Calls prog 41 #[.pointer (some ⟨t.St,0,none⟩),υ V t.h] w1.drew fun e w'=>e=.returned (.tuple #[])∧R w1.drew w'):=HC.out w1.drew hKw.drew hx1 hS1 (hM1.kp ((Kp.refl [] w1).drew) (by simp));have HEND:Hid (Kp [t.St,x,s.M] w w1.drew∧w1.drew.heap[x]?=some (qA9 t.ended)∧w1.drew.heap[t.St]?=some (τ 1 (s.left t.nr))∧RM w1.drew s.V s.M n (D.del (qA3 t.nr))):=⟨hKw.drew,hx1,hS1,hM1.kp ((Kp.refl [] w1).drew) (by simp)⟩;have hSd:w1.drew.heap[Tc]?=some (.cells #[.pointer (some ⟨x,0,none⟩)] 29)∧w1.drew.heap[x]?=some (qA9 t.ended)∧w1.drew.heap[w.heap.size]?=some (.cells #[.pointer (some ⟨V,0,none⟩),.string t.h.key,.int .i64 t.h.b,.int .u64 t.h.s,.pointer t.h.ptr] 83):=⟨hT1,hx1,hB1⟩;clear HC hKw hS1 hM1 hK1 hT1 hx1 hB1;go_wp2_with fail;have b:=ξ hSd.2.2;have hb:=hSd.2.2;rw[υ] at HCALL;clear hSd
 go_region_with (go_at_call 41;go_must (refine (show Calls _ _ _ _ _ from HCALL.out).mono ?_);rintro e w2 ⟨rfl,hR2⟩)
 all_goals
  have HR2:=zh hR2;clear hR2 b hb;go_wp2
  go_end0
  exact⟨rfl,w1.drew,HEND.out.1,HEND.out.2.1,HEND.out.2.2.1,HEND.out.2.2.2,HR2.out⟩
theorem xC3(x n V:Nat)(t:Tx)(s:Sto)(D:DataW Unit)(X:List Nat)(R:World→World→Prop)(w:World)(hx:w.heap[x]?=some (qA9 t))(ho:t.over=false)(hSt:w.heap[t.St]?=some (τ 0 s))(hpo:s.po=false)(hM:RM w s.V s.M n D)(h0:0≤t.nr)(h1:t.nr≤1000000000)(hMS:s.M≠t.St)(hxS:x≠t.St)(hxM:x≠s.M)(hMs:s.M<w.heap.size)(hon:t.on=some ⟨V,0,none⟩)(hwr:t.wrt=true)(hX:∀ i∈X,i<w.heap.size)
  (hc:∀ W:World,Kp [t.St,x,s.M] w W→W.heap[x]?=some (qA9 t.ended)→W.heap[t.St]?=some (τ 1 (s.left t.nr))→RM W s.V s.M n (D.del (qA3 t.nr))→Calls prog 41 #[.pointer (some ⟨t.St,0,none⟩),υ V t.h] W fun e w'=>e=.returned (.tuple #[])∧(∃ s',w'.heap[t.St]?=some (τ 1 s'))∧R W w'∧Kp (t.St::X) W w'):
  Calls prog 14 #[.pointer (some ⟨x,0,none⟩)] w fun e w'=>e=.returned .nilIface∧Kp (t.St::x::s.M::X) w w'∧∃ W w1 B s',Kp [t.St,x,s.M] w W∧W.heap[x]?=some (qA9 t.ended)∧W.heap[t.St]?=some (τ 1 (s.left t.nr))∧RM W s.V s.M n (D.del (qA3 t.nr))∧R W w1∧Kp (t.St::X) W w1∧w1.heap[t.St]?=some (τ 1 s')∧w'.heap[t.St]?=some (τ 0 s')∧w.heap.size≤B∧w1.heap[B]?=some (.cells #[.nilIface] 35)∧Kp [t.St,B] w1 w':=by
 have hmf:=zM;have hxs:=ζ hx;have hSs:=ζ hSt;go_enter func14,ntmps14;go_wp2_with fail;obtain⟨w0,hw0,hB0,hK0,hs0⟩:∃ w0,w0=w.alloc (.cells #[.pointer (some ⟨x,0,none⟩)] 29)∧w0.heap[w.heap.size]?=some (.cells #[.pointer (some ⟨x,0,none⟩)] 29)∧Kp [] w w0∧w0.heap.size=w.heap.size+1:=⟨_,rfl,ν _ _,(Kp.refl _ _).alloc _,by simp⟩;rw[←hw0];clear hw0;refine (xT8 x t.St 39 t s #[] #[.pointer (some ⟨w.heap.size,0,none⟩)] _ (x::s.M::X) (fun W0 w1=>∃ W,Kp [t.St,x,s.M] w W∧W.heap[x]?=some (qA9 t.ended)∧W.heap[t.St]?=some (τ 1 (s.left t.nr))∧RM W s.V s.M n (D.del (qA3 t.nr))∧R W w1∧Kp (t.St::X) W w1) w0 (hK0.hp hx) ho rfl (hK0.hp hSt) hpo hxS (xL4 _) (by intro i hi;simp at hi;rcases hi with rfl | rfl | hi;omega;omega;have:=hX i hi;omega) ?_).mono ?_
 ·intro W hK hS;have hKw:Kp [t.St] w W:=(hK0.mono (by simp)).trans hK (fun _ h _=>h);have hTne:w.heap.size≠t.St:=by omega
  refine (xM3 w.heap.size x n V t s D (fun W w'=>(∃ s',w'.heap[t.St]?=some (τ 1 s'))∧R W w'∧Kp (t.St::X) W w') W (hK.heap hB0 (by simp;exact hTne)) (hKw.heap hx (by simp;exact hxS)) hS (hM.kp hKw (by simp;exact hMS)) h0 h1 hMS hxS hxM (by omega) (by have:=hKw.size;omega) hon hwr ?_).mono ?_
  ·intro W' hK' e1 e2 e3;exact hc W' ((hKw.mono (by simp)).trans hK' (fun _ h _=>h)) e1 e2 e3
  ·rintro e w1 ⟨rfl,W',hK',e1,e2,e3,e4,e5,e6⟩;refine⟨rfl,⟨W',(hKw.mono (by simp)).trans hK' (fun _ h _=>h),e1,e2,e3,e5,e6⟩,?_,e4⟩;refine (hK'.mono ?_).trans e6 ?_
   ·intro i hi;simp at hi ⊢;omega
   ·intro i hi _;simp at hi ⊢;rcases hi with h | h<;>simp[h]
 rintro e w2 ⟨v,rfl,rfl,hK2,W0,w1,B,s',⟨W,e1,e2,e3,e4,e5,e6⟩,hs1,hs2,hKW,hB1,hB2,hB3,hKB⟩;have HE:Hid (Kp (t.St::x::s.M::X) w w2∧∃ W w1 B s',Kp [t.St,x,s.M] w W∧W.heap[x]?=some (qA9 t.ended)∧W.heap[t.St]?=some (τ 1 (s.left t.nr))∧RM W s.V s.M n (D.del (qA3 t.nr))∧R W w1∧Kp (t.St::X) W w1∧w1.heap[t.St]?=some (τ 1 s')∧w2.heap[t.St]?=some (τ 0 s')∧w.heap.size≤B∧w1.heap[B]?=some (.cells #[.nilIface] 35)∧Kp [t.St,B] w1 w2):=
  ⟨(hK0.mono (by simp)).trans hK2 (fun _ h _=>h),W,w1,B,s',e1,e2,e3,e4,e5,e6,hs1,hs2,by omega,hB3,hKB⟩
 clear hK2 e1 e2 e3 e4 e5 e6 hs1 hs2 hKW hB3 hKB;go_wp2;go_ret;exact⟨rfl,HE.out⟩
def Lie(N:Nat)(l:List UInt8)(rb rs:Int):Root→Prop
 | .none=>rb=0∧rs=0
 | .at n L=>∃ b:Nat,rb=(b:Int)∧L.ref=some (b,rs)∧Laid N l n b rs L.sub
theorem Lie.bnd{N:Nat}{l:List UInt8}{rb rs:Int}{r:Root}(h:Lie N l rb rs r)(hN:N≤1000):0≤rb∧rb≤1000∧0≤rs:=by
 cases r with
 | none=>obtain⟨rfl,rfl⟩:=h;decide
 | «at» n L=>obtain⟨b,rfl,_,h3⟩:=h;have:=h3.at;omega
theorem Lie.sum{N:Nat}{l:List UInt8}{rb rs:Int}{r:Root}(h:Lie N l rb rs r):rs<18446744073709551616:=by
 cases r with
 | none=>obtain⟨rfl,rfl⟩:=h;decide
 | «at» n L=>obtain⟨b,rfl,_,h3⟩:=h;have:=h3.at;omega
theorem Lie.rr{N:Nat}{l:List UInt8}{rb rs:Int}{r:Root}(h:Lie N l rb rs r)(hg:RGood r){V A C:Nat}{wr:Int}{hN:N≤1000}{hs:N*128≤l.length}{hAC:C≠A}{hVA:V≠A}(w:World):RR (EL V A N C l wr hN hs hAC hVA).toEnv w ⟨⟨#[]⟩,rb,rs,none⟩ r:=by
 cases r with
 | none=>obtain⟨rfl,rfl⟩:=h;rfl
 | «at» n L=>
  obtain⟨b,rfl,h2,h3⟩:=h;refine⟨hg.1.symm,?_⟩;rw[h2];exact⟨rfl,rfl,rfl,h3⟩
theorem Lie.old{N:Nat}{l:List UInt8}{rb rs:Int}{r:Root}(h:Lie N l rb rs r):qO5 N l r:=by
 cases r with
 | none=>trivial
 | «at» n L=>
  obtain⟨b,rfl,h2,h3⟩:=h
  cases n with
  | zero=>intro x hx;rw[h2] at hx;cases hx;exact h3
  | succ n=>exact⟨fun x hx=>by rw[h2] at hx;cases hx;exact h3,fun hx=>by rw[h2] at hx;cases hx⟩
theorem Lie.move{N:Nat}{l l':List UInt8}{rb rs:Int}{r:Root}(h:Lie N l rb rs r)(hk:∀ k∈qN6 r,qA0 l' k=qA0 l k):Lie N l' rb rs r:=by
 cases r with
 | none=>exact h
 | «at» n L=>
  obtain⟨b,e1,h2,h3⟩:=h;refine⟨b,e1,h2,h3.move _ _ _ _ fun k hm=>hk k ?_⟩;show k∈qI6 n L;rw[qR4 h2];exact hm
theorem qY5{N:Nat}{l:List UInt8}:∀ (n b:Nat) (s:Int) (t:Tn n),Laid N l n b s t→∀ k∈Blk n b t,2≤k
 | 0,b,s,t,h,k,hk=>by simp[Blk] at hk;have:=h.at;omega
 | n+1,b,s,t,h,k,hk=>by
  have hb:=h.at;obtain⟨h1,h2,h3,hs,h4,h5⟩:=h;simp only[Blk,List.mem_cons,List.mem_flatMap] at hk;rcases hk with rfl|⟨m,hm,hk⟩
  ·omega
  ·obtain⟨i,hi,rfl⟩:=List.getElem_of_mem hm;have hr:=(h4.2 i (by rw[h4.1];exact hi) hi).2
   cases hx:(η t)[i].ref with
   | none=>rw[hx] at hk;cases hk
   | some x=>
    rw[hx] at hk hr;exact qY5 n x.1 x.2 _ hr.2.2.2 k hk
theorem Lie.ge{N:Nat}{l:List UInt8}{rb rs:Int}{r:Root}(h:Lie N l rb rs r):∀ k∈qN6 r,2≤k:=by
 cases r with
 | none=>intro k hk;cases hk
 | «at» n L=>
  obtain⟨b,rfl,h2,h3⟩:=h;intro k hk;have hk':k∈qI6 n L:=hk;rw[qR4 h2] at hk';exact qY5 n b rs L.sub h3 k hk'
theorem Lie.head{N:Nat}{l:List UInt8}{rb rs:Int}{r:Root}(h:Lie N l rb rs r)(hl:N*128≤l.length)(hN2:2≤N)(i:Nat)(hi:i<2)(x y z:Int):Lie N (qC6 l i (qB9 x y z)) rb rs r:=
 h.move fun k hk=>qV6 l _ i k N (qK7 _ _ _) hl (by omega) (by have:=h.ge k hk;omega)
theorem zZ1{N:Nat}{l l':List UInt8}(hk:∀ k,2≤k→qA0 l' k=qA0 l k):∀ (n:Nat) (L:Lnk (Tn n)),qK5 N l n L→qK5 N l' n L
 | 0,L,h=>fun x hx=>(h x hx).move _ _ _ _ fun k hm=>hk k (qY5 0 x.1 x.2 L.sub (h x hx) k hm)
 | n+1,L,h=>⟨fun x hx=>(h.1 x hx).move _ _ _ _ fun k hm=>hk k (qY5 (n+1) x.1 x.2 L.sub (h.1 x hx) k hm),fun hn m hm=>zZ1 hk n m (h.2 hn m hm)⟩
theorem jG3{N:Nat}{l l':List UInt8}(hk:∀ k,2≤k→qA0 l' k=qA0 l k){r:Root}(h:qO5 N l r):qO5 N l' r:=by
 cases r with
 | none=>trivial
 | «at» n L=>exact zZ1 hk n L h
theorem jC1{N:Nat}{l:List UInt8}(hN:N≤1000)(hl:N*128≤l.length)(rt:Root)(rs:List Root)(ho:qO5 N l rt)(hg:RGood rt)(hc:rt.cont.length≤1400)(hrs:∀ r∈rs,qO5 N l r)(fr:List Nat)(hfr:fr=qC1 N (rs.foldl qA7 (qA7 [] rt)))(hfit:rt.news≤fr.length):
  ∃ nt:Root,Lie N (laidAll l (qC7 rt fr).2) (qC7 rt fr).1.b (qC7 rt fr).1.s nt∧RGood nt∧nt.cont=rt.cont∧(qC7 rt fr).2.length=rt.news∧(∀ r∈rs,∀ k∈qN6 r,qA0 (laidAll l (qC7 rt fr).2) k=qA0 l k)∧(∀ k,k<2→qA0 (laidAll l (qC7 rt fr).2) k=qA0 l k):=by
 cases rt with
 | none=>exact⟨.none,⟨rfl,rfl⟩,trivial,rfl,rfl,fun _ _ _ _=>rfl,fun _ _=>rfl⟩
 | «at» n L=>
  have hok:=zK5 hg hc;subst hfr;obtain⟨h1,⟨x,h2,h3⟩,h4,h5⟩:=xM5 hN hl n L rs ho hok (xA5 hg hc) hrs hfit _ rfl;refine⟨.at n (ι n L (qC1 N (rs.foldl qA7 (qA7 [] (.at n L))))).1,?_,⟨?_,?_,?_⟩,zH8 _ _ _,qW4 _ _ _,h4,h5⟩
  ·refine⟨x.1,?_,?_,?_⟩
   ·simp[qC7,lhl,h2]
   ·simp[qC7,lhl,h2]
   ·have e:(qC7 (.at n L) (qC1 N (rs.foldl qA7 (qA7 [] (.at n L))))).1.s=x.2:=by simp[qC7,lhl,h2]
    rw[e];exact h3
  ·rw[zI1];exact hg.1
  ·rw[zI1];exact zV7 n L _ _ hg.2.1
  ·rw[zV6];exact hg.2.2
theorem Lie.one{N:Nat}{l:List UInt8}{rb rs:Int}{r r':Root}(hN:N≤1000)(h:Lie N l rb rs r)(h':Lie N l rb rs r'):r.cont=r'.cont∧qN6 r=qN6 r':=by
 cases r with
 | none=>
  obtain⟨rfl,rfl⟩:=h
  cases r' with
  | none=>exact⟨rfl,rfl⟩
  | «at» n L=>obtain⟨b,e1,_,e3⟩:=h';have:=e3.at;omega
 | «at» n L=>
  obtain⟨b,rfl,e2,e3⟩:=h
  cases r' with
  | none=>obtain⟨e,_⟩:=h';have:=e3.at;omega
  | «at» n' L'=>
   obtain⟨b',f1,f2,f3⟩:=h';have hb:b=b':=by omega
   subst hb;have hn:=qT8 hN e3 f3;subst hn;have ht:=(zB6 hN n b rs rs L.sub L'.sub e3 f3).2;refine⟨?_,?_⟩
   ·show cont n L.sub=cont n L'.sub;rw[ht]
   ·show qI6 n L=qI6 n L';rw[qR4 e2,qR4 f2,ht]
end Go.Proofs.YtdohpenfkdckiabGreatDoor
