import Derived.Test.YtdohpenfkdckiabGreatDoorB08
import Derived.Lib.Strings
import Derived.Lib.BufferWrite
import Derived.Lib.UnsafeStr
import Derived.Laws.MakeOwn
import Derived.Lib.AppendStr
set_option linter.all false
set_option maxRecDepth 100000
set_option maxHeartbeats 20000000
namespace Go.Proofs.YtdohpenfkdckiabGreatDoor
open Go.Proofs.Tryz
open Go.RowKit
theorem xQ0(X B T Db St:Nat)(wrt:Bool)(s s':Sto)(nr:Int)(L:List Nat)(R:World→Prop)(w:World)(hX:w.heap[X]?=some (.cells #[.pointer (some ⟨Db,0,none⟩)] 24))(hB:w.heap[B]?=some (.cells #[.bool wrt] 4))(hT:w.heap[T]?=some (.cells #[.pointer none] 29))
  (hD:w.heap[Db]?=some (.cells #[.pointer (some ⟨St,0,none⟩)] 95)) (hSt:w.heap[St]?=some (τ 1 s))
  (hL:X ∉ St::L∧B ∉ St::L∧Db ∉ St::L∧T ∉ St::L) (hne:T≠X∧T≠B∧T≠Db∧T≠St)
  (hE:∀ W:World,Kp [] w W→Calls prog 47 #[.pointer (some ⟨St,0,none⟩),.bool wrt] W fun e w'=>e=.returned (.int .u64 nr)∧w'.heap[St]?=some (τ 1 s')∧R w'∧Kp (St::L) W w')
  (hR:∀ a b:World,R a→Kp [T] a b→R b):
  Calls prog 45 #[.pointer (some ⟨X,0,none⟩),.pointer (some ⟨B,0,none⟩),.pointer (some ⟨T,0,none⟩)] w fun e w'=>e=qD1 none∧(∃ x,w.heap.size≤x∧w'.heap[x]?=some (qA6 ⟨St,nr,wrt,false,some ⟨s.V,0,none⟩,⟨⟨#[]⟩,s.rb,s.rs,none⟩,0⟩)∧w'.heap[T]?=some (.cells #[.pointer (some ⟨x,0,none⟩)] 29))∧R w'∧Kp (St::T::L) w w'∧w'.heap[St]?=some (τ 1 s'):=by
 have HN:=zh hne;have HL:=zh hL;have HE:=zh hE;have HR:=zh hR;clear hne hL hE hR;have hTs:=ζ hT;go_enter func45,ntmps45;go_wp2_with fail;have hS0:w.heap[X]?=some (.cells #[.pointer (some ⟨Db,0,none⟩)] 24)∧w.heap[B]?=some (.cells #[.bool wrt] 4)∧w.heap[Db]?=some (.cells #[.pointer (some ⟨St,0,none⟩)] 95):=⟨hX,hB,hD⟩;refine wp_region_held_drew (S:=fun W=>W.heap[X]?=some (.cells #[.pointer (some ⟨Db,0,none⟩)] 24)∧W.heap[B]?=some (.cells #[.bool wrt] 4)∧W.heap[Db]?=some (.cells #[.pointer (some ⟨St,0,none⟩)] 95)) (by kernel_rfl) hS0 (fun _=>?_);refine zV 0 (.pointer (some ⟨Db,0,none⟩)) rfl (fun W hS=>by have c:=ξ hS.1 0;simp at c;clear hS;go_simp) hS0 ?_;refine zP 1 Db 0 hS0 ?_;refine zP 2 Db 0 hS0 ?_;refine zV 3 (.pointer (some ⟨St,0,none⟩)) rfl (fun W hS=>by have c:=ξ hS.2.2 0;simp at c;clear hS;go_simp) hS0 ?_;refine zV 4 (.bool wrt) rfl (fun W hS=>by have c:=ξ hS.2.1 0;simp at c;clear hS;go_simp) hS0 ?_;refine zV 5 (.pointer (some ⟨Db,0,none⟩)) rfl (fun W hS=>by have c:=ξ hS.1 0;simp at c;clear hS;go_simp) hS0 ?_;refine zP 6 Db 0 hS0 ?_;refine zP 7 Db 0 hS0 ?_;refine zV 8 (.pointer (some ⟨St,0,none⟩)) rfl (fun W hS=>by have c:=ξ hS.2.2 0;simp at c;clear hS;go_simp) hS0 ?_;refine zV 10 (.pointer (some ⟨Db,0,none⟩)) rfl (fun W hS=>by have c:=ξ hS.1 0;simp at c;clear hS;go_simp) hS0 ?_;refine zP 11 Db 0 hS0 ?_;refine zP 12 Db 0 hS0 ?_;refine zV 13 (.pointer (some ⟨St,0,none⟩)) rfl (fun W hS=>by have c:=ξ hS.2.2 0;simp at c;clear hS;go_simp) hS0 ?_;refine zV 14 (.bool wrt) rfl (fun W hS=>by have c:=ξ hS.2.1 0;simp at c;clear hS;go_simp) hS0 ?_;refine zq 9 fun K hK=>?_;go_simp;refine (qY2 St 1 s w.drew hSt).mono ?_;rintro e w1 ⟨rfl,hK1⟩;have hK1':Kp [] w w1:=((Kp.refl _ w).drew).tr hK1;have hS1:=And.intro (hK1'.hp hX) (And.intro (hK1'.hp hB) (hK1'.hp hD));have hSt1:=hK1'.hp hSt;have hT1:=hK1'.hp hT;refine hK.out _ _ hS1 (fun _=>?_);clear hK K hK1
 try simp only[zZ]
 refine zq 15 fun K hK=>?_;go_simp;refine (HE.out w1 hK1').mono ?_;rintro e w2 ⟨rfl,hSt2,hR2,hK2⟩;have hS2:=And.intro (hK2.heap hS1.1 HL.out.1) (And.intro (hK2.heap hS1.2.1 HL.out.2.1) (hK2.heap hS1.2.2 HL.out.2.2.1));have hT2:=hK2.heap hT1 HL.out.2.2.2;refine hK.out _ _ hS2 (fun _=>?_);clear hK K hS1 hT1 hSt1 hS0
 try simp only[zZ]
 refine zV 16 (.agg #[.pointer (some ⟨St,0,none⟩),.int .u64 nr,.bool wrt,.bool false,.pointer (some ⟨s.V,0,none⟩),.string ⟨#[]⟩,.int .i64 s.rb,.int .u64 s.rs,.pointer none,.int .u64 0]) rfl (fun W hS=>by clear hS;rw[φ];go_simp;rfl) hS2 ?_;refine zq 17 fun K hK=>?_;go_simp;obtain⟨w3,hw3,hx3,hK3,hs3⟩:∃ w3,w3=w2.alloc (.cells #[.pointer (some ⟨St,0,none⟩),.int .u64 nr,.bool wrt,.bool false,.pointer (some ⟨s.V,0,none⟩),.string ⟨#[]⟩,.int .i64 s.rb,.int .u64 s.rs,.pointer none,.int .u64 0] 85)∧w3.heap[w2.heap.size]?=some (qA6 ⟨St,nr,wrt,false,some ⟨s.V,0,none⟩,⟨⟨#[]⟩,s.rb,s.rs,none⟩,0⟩)∧Kp [] w2 w3∧w3.heap.size=w2.heap.size+1:=
  ⟨_,rfl,μ _ _,(Kp.refl _ _).alloc _,by simp⟩
 rw[←hw3];clear hw3;have hS3:=And.intro (hK3.hp hS2.1) (And.intro (hK3.hp hS2.2.1) (hK3.hp hS2.2.2));have hT3:=hK3.hp hT2;refine hK.out _ _ hS3 (fun _=>?_);clear hK K hS2 hT2
 try simp only[zZ]
 refine zq 18 fun K hK=>?_;have t0:=ξ hT3 0;simp only[zG,zH,zI] at t0;have f0:=ρ hT3 0;have hTs3:=ζ hT3;go_simp;obtain⟨w4,hw4,hT4,hK4⟩:∃ w4,w4=w3.setCell ⟨T,0,none⟩ (.pointer (some ⟨w2.heap.size,0,none⟩))∧w4.heap[T]?=some (.cells #[.pointer (some ⟨w2.heap.size,0,none⟩)] 29)∧Kp [T] w3 w4:=⟨_,rfl,ω hT3 0 _,(Kp.refl _ _).sc _⟩;rw[←hw4];clear hw4;have hS4:=And.intro (hK4.heap hS3.1 (by simp;exact fun h=>HN.out.1 h.symm)) (And.intro (hK4.heap hS3.2.1 (by simp;exact fun h=>HN.out.2.1 h.symm)) (hK4.heap hS3.2.2 (by simp;exact fun h=>HN.out.2.2.1 h.symm)));refine hK.out _ _ hS4 (fun _=>?_);clear hK K;refine zd ?_;have hs2:=hK2.size;have hs1:=hK1'.size;have HF:Hid ((∃ x,w.heap.size≤x∧w4.heap[x]?=some (qA6 ⟨St,nr,wrt,false,some ⟨s.V,0,none⟩,⟨⟨#[]⟩,s.rb,s.rs,none⟩,0⟩)∧w4.heap[T]?=some (.cells #[.pointer (some ⟨x,0,none⟩)] 29))∧R w4∧Kp (St::T::L) w w4∧w4.heap[St]?=some (τ 1 s')):=
  ⟨⟨w2.heap.size,by omega,hK4.ho hx3,hT4⟩,HR.out _ _ (HR.out _ _ hR2 (hK3.mono (by simp))) hK4,
   (((hK1'.mono (S':=St::T::L) (by simp)).trans hK2 (by intro i hi _;simp at hi ⊢;rcases hi with h | h<;>simp[h])).tr hK3).trans hK4 (by intro i hi _;simp at hi;simp[hi]),
   hK4.heap (hK3.hp hSt2) (by simp;exact fun h=>HN.out.2.2.2 h.symm)⟩
 clear hS4 hS3 hT4 hT3 hx3 hK4 hK3 hK2 hK1' hR2 hSt2 t0 f0;go_wp2
 go_end0
 exact⟨rfl,HF.out⟩
theorem xP9(X B T Db St:Nat)(wrt:Bool)(s:Sto)(w:World)(hX:w.heap[X]?=some (.cells #[.pointer (some ⟨Db,0,none⟩)] 24))(hB:w.heap[B]?=some (.cells #[.bool wrt] 4))(hT:w.heap[T]?=some (.cells #[.pointer none] 29))
  (hD:w.heap[Db]?=some (.cells #[.pointer (some ⟨St,0,none⟩)] 95)) (hSt:w.heap[St]?=some (τ 1 s))
  (hE:∀ W:World,Kp [] w W→Calls prog 47 #[.pointer (some ⟨St,0,none⟩),.bool wrt] W fun e w'=>e=qD1 (some 4)∧w'=W):
  Calls prog 45 #[.pointer (some ⟨X,0,none⟩),.pointer (some ⟨B,0,none⟩),.pointer (some ⟨T,0,none⟩)] w fun e w'=>e=qD1 (some 4)∧Kp [] w w':=by
 have HE:=zh hE;clear hE;go_enter func45,ntmps45;go_wp2_with fail;have hS0:w.heap[X]?=some (.cells #[.pointer (some ⟨Db,0,none⟩)] 24)∧w.heap[B]?=some (.cells #[.bool wrt] 4)∧w.heap[Db]?=some (.cells #[.pointer (some ⟨St,0,none⟩)] 95):=⟨hX,hB,hD⟩;refine wp_region_held_drew (S:=fun W=>W.heap[X]?=some (.cells #[.pointer (some ⟨Db,0,none⟩)] 24)∧W.heap[B]?=some (.cells #[.bool wrt] 4)∧W.heap[Db]?=some (.cells #[.pointer (some ⟨St,0,none⟩)] 95)) (by kernel_rfl) hS0 (fun _=>?_);refine zV 0 (.pointer (some ⟨Db,0,none⟩)) rfl (fun W hS=>by have c:=ξ hS.1 0;simp at c;clear hS;go_simp) hS0 ?_;refine zP 1 Db 0 hS0 ?_;refine zP 2 Db 0 hS0 ?_;refine zV 3 (.pointer (some ⟨St,0,none⟩)) rfl (fun W hS=>by have c:=ξ hS.2.2 0;simp at c;clear hS;go_simp) hS0 ?_;refine zV 4 (.bool wrt) rfl (fun W hS=>by have c:=ξ hS.2.1 0;simp at c;clear hS;go_simp) hS0 ?_;refine zV 5 (.pointer (some ⟨Db,0,none⟩)) rfl (fun W hS=>by have c:=ξ hS.1 0;simp at c;clear hS;go_simp) hS0 ?_;refine zP 6 Db 0 hS0 ?_;refine zP 7 Db 0 hS0 ?_;refine zV 8 (.pointer (some ⟨St,0,none⟩)) rfl (fun W hS=>by have c:=ξ hS.2.2 0;simp at c;clear hS;go_simp) hS0 ?_;refine zV 10 (.pointer (some ⟨Db,0,none⟩)) rfl (fun W hS=>by have c:=ξ hS.1 0;simp at c;clear hS;go_simp) hS0 ?_;refine zP 11 Db 0 hS0 ?_;refine zP 12 Db 0 hS0 ?_;refine zV 13 (.pointer (some ⟨St,0,none⟩)) rfl (fun W hS=>by have c:=ξ hS.2.2 0;simp at c;clear hS;go_simp) hS0 ?_;refine zV 14 (.bool wrt) rfl (fun W hS=>by have c:=ξ hS.2.1 0;simp at c;clear hS;go_simp) hS0 ?_;refine zq 9 fun K hK=>?_;go_simp;refine (qY2 St 1 s w.drew hSt).mono ?_;rintro e w1 ⟨rfl,hK1⟩;have hK1':Kp [] w w1:=((Kp.refl _ w).drew).tr hK1;have hS1:=And.intro (hK1'.hp hX) (And.intro (hK1'.hp hB) (hK1'.hp hD));have hSt1:=hK1'.hp hSt;have hT1:=hK1'.hp hT;refine hK.out _ _ hS1 (fun _=>?_);clear hK K hK1
 try simp only[zZ]
 refine zq 15 fun K hK=>?_;go_simp;refine (HE.out w1 hK1').mono ?_;rintro e w2 ⟨rfl,rfl⟩;simp only[qD1];clear hK;go_wp2;exact⟨rfl,rfl,hK1'⟩
theorem zR2(args:Array Value)(W:World):Sem.run prog (callFunc 45 args) W=.ok (.enter 45 args) W:=by
 simp[go_sem,func45]
theorem xQ1(Db St:Nat)(wrt:Bool)(s:Sto)(w:World)(hD:w.heap[Db]?=some (.cells #[.pointer (some ⟨St,0,none⟩)] 95))(hSt:w.heap[St]?=some (τ 0 s))(hpo:s.po=false)(hne:Db≠St)
  (hE:∀ W:World,Kp [St] w W→W.heap[St]?=some (τ 1 s)→Calls prog 47 #[.pointer (some ⟨St,0,none⟩),.bool wrt] W fun e w'=>e=qD1 (some 4)∧w'=W):
  Calls prog 22 #[.pointer (some ⟨Db,0,none⟩),.bool wrt] w fun e w'=>∃ v,e=.returned (.tuple #[.pointer none,v])∧qI9 w' v (some 4)∧w'.heap[St]?=some (τ 0 s)∧Kp [St] w w':=by
 have HE:=zh hE;have HN:=zh hne;have HPO:=zh hpo;clear hE hne hpo;have hmf:=zM;have hDs:=ζ hD;have hSs:=ζ hSt;have d0:=ξ (θ (.cells #[.pointer none] 29) (θ (.cells #[.bool wrt] 4) (θ (.cells #[.pointer (some ⟨Db,0,none⟩)] 24) hD))) 0;simp only[zG,zH] at d0;go_enter func22,ntmps22;go_wp2_with fail;obtain⟨W0,hW0,hK0,hs0,hX0,hB0,hT0⟩:∃ W0,W0=((w.alloc (.cells #[.pointer (some ⟨Db,0,none⟩)] 24)).alloc (.cells #[.bool wrt] 4)).alloc (.cells #[.pointer none] 29)∧Kp [] w W0∧W0.heap.size=w.heap.size+3∧W0.heap[w.heap.size]?=some (.cells #[.pointer (some ⟨Db,0,none⟩)] 24)∧W0.heap[w.heap.size+1]?=some (.cells #[.bool wrt] 4)∧W0.heap[w.heap.size+2]?=some (.cells #[.pointer none] 29):=by
  refine⟨_,rfl,(((Kp.refl _ _).alloc _).alloc _).alloc _,by simp,θ _ (θ _ (μ _ _)),θ _ ?_,?_⟩
  ·have e:=μ (w.alloc (.cells #[.pointer (some ⟨Db,0,none⟩)] 24)) (.cells #[.bool wrt] 4);simpa using e
  ·have e:=μ ((w.alloc (.cells #[.pointer (some ⟨Db,0,none⟩)] 24)).alloc (.cells #[.bool wrt] 4)) (.cells #[.pointer none] 29);simpa using e
 rw[←hW0];clear hW0;have hD0:=hK0.hp hD;have hSt0:=hK0.hp hSt;refine (zG1 (some 4) (by decide) St 45 s s #[] _ _ [] (fun W w1=>Kp [] W w1) W0 hSt0 HPO.out (zR2 _) (by simp) ?_).mono ?_
 ·intro W hK hS;have hX:=hK.ho hX0;have hB:=hK.ho hB0;have hT:=hK.ho hT0;have hDW:=hK.heap hD0 (by simp;exact HN.out);have hKW:Kp [St] w W:=(hK0.mono (S':=[St]) (by simp)).trans hK (fun _ h _=>h);refine (xP9 w.heap.size (w.heap.size+1) (w.heap.size+2) Db St wrt s W hX hB hT hDW hS (fun W' hK'=>HE.out W' (hKW.tr hK') (hK'.hp hS))).mono ?_;rintro e w1 ⟨rfl,hk⟩;exact⟨rfl,hk,hk.mono (by simp),hk.hp hS⟩
 rintro e w2 ⟨v,rfl,hv,hSt2,hK2,W,w1,Bb,hQ,hKW,hB1,hB2,hB3,hKB⟩;have hT2:w2.heap[w.heap.size+2]?=some (.cells #[.pointer none] 29):=hK2.ho hT0;have hTs:=ζ hT2;have t0:=ξ hT2 0;simp only[zG,zH,zI] at t0;have HV:=zh hv;have HK:Hid (Kp [St] w w2):=(hK0.mono (S':=[St]) (by simp)).trans hK2 (fun _ h _=>h);clear hv hQ hKW hB3 hKB hK2 hT2;go_wp2
 go_ret2
 exact⟨v,rfl,HV.out,hSt2,HK.out⟩
theorem zP8(Db St:Nat)(wrt:Bool)(s s':Sto)(nr:Int)(L:List Nat)(R:World→Prop)(w:World)(hD:w.heap[Db]?=some (.cells #[.pointer (some ⟨St,0,none⟩)] 95))(hSt:w.heap[St]?=some (τ 0 s))(hpo:s.po=false)(hne:Db ∉ St::L)(hLs:∀ i∈L,i<w.heap.size)
  (hE:∀ W:World,Kp [St] w W→W.heap[St]?=some (τ 1 s)→Calls prog 47 #[.pointer (some ⟨St,0,none⟩),.bool wrt] W fun e w'=>e=.returned (.int .u64 nr)∧w'.heap[St]?=some (τ 1 s')∧R w'∧Kp (St::L) W w')
  (hR:∀ (a b:World) (k:List Nat),(∀ i∈k,i=St∨w.heap.size≤i)→R a→Kp k a b→R b):
  Calls prog 22 #[.pointer (some ⟨Db,0,none⟩),.bool wrt] w fun e w'=>∃ x,e=.returned (.tuple #[.pointer (some ⟨x,0,none⟩),.nilIface])∧w.heap.size≤x∧w'.heap[x]?=some (qA6 ⟨St,nr,wrt,false,some ⟨s.V,0,none⟩,⟨⟨#[]⟩,s.rb,s.rs,none⟩,0⟩)∧w'.heap[St]?=some (τ 0 s')∧R w'∧Kp (St::L) w w':=by
 have HE:=zh hE;have HN:=zh hne;have HLS:=zh hLs;have HR:=zh hR;have HPO:=zh hpo;clear hE hne hLs hR hpo;have hmf:=zM;have hDs:=ζ hD;have hSs:=ζ hSt;have d0:=ξ (θ (.cells #[.pointer none] 29) (θ (.cells #[.bool wrt] 4) (θ (.cells #[.pointer (some ⟨Db,0,none⟩)] 24) hD))) 0;simp only[zG,zH] at d0;go_enter func22,ntmps22;go_wp2_with fail;obtain⟨W0,hW0,hK0,hs0,hX0,hB0,hT0⟩:∃ W0,W0=((w.alloc (.cells #[.pointer (some ⟨Db,0,none⟩)] 24)).alloc (.cells #[.bool wrt] 4)).alloc (.cells #[.pointer none] 29)∧Kp [] w W0∧W0.heap.size=w.heap.size+3∧W0.heap[w.heap.size]?=some (.cells #[.pointer (some ⟨Db,0,none⟩)] 24)∧W0.heap[w.heap.size+1]?=some (.cells #[.bool wrt] 4)∧W0.heap[w.heap.size+2]?=some (.cells #[.pointer none] 29):=by
  refine⟨_,rfl,(((Kp.refl _ _).alloc _).alloc _).alloc _,by simp,θ _ (θ _ (μ _ _)),θ _ ?_,?_⟩
  ·have e:=μ (w.alloc (.cells #[.pointer (some ⟨Db,0,none⟩)] 24)) (.cells #[.bool wrt] 4);simpa using e
  ·have e:=μ ((w.alloc (.cells #[.pointer (some ⟨Db,0,none⟩)] 24)).alloc (.cells #[.bool wrt] 4)) (.cells #[.pointer none] 29);simpa using e
 rw[←hW0];clear hW0;have hD0:=hK0.hp hD;have hSt0:=hK0.hp hSt;have hout:∀ i,w.heap.size≤i→i ∉ St::L:=fun i hi hm=>by
  rcases List.mem_cons.1 hm with h|h
  ·omega
  ·have:=HLS.out _ h;omega
 refine (zG1 none (by decide) St 45 s s' #[] _ _ ((w.heap.size+2)::L) (fun W w1=>R w1∧∃ x,W.heap.size≤x∧w1.heap[x]?=some (qA6 ⟨St,nr,wrt,false,some ⟨s.V,0,none⟩,⟨⟨#[]⟩,s.rb,s.rs,none⟩,0⟩)∧w1.heap[w.heap.size+2]?=some (.cells #[.pointer (some ⟨x,0,none⟩)] 29)) W0 hSt0 HPO.out (zR2 _) (by intro i hi;rcases List.mem_cons.1 hi with h | h;omega;have:=HLS.out _ h;omega) ?_).mono ?_
 ·intro W hK hS;have hX:=hK.ho hX0;have hB:=hK.ho hB0;have hT:=hK.ho hT0;have hDW:=hK.heap hD0 (by simp;exact fun h=>HN.out (by simp[h]));have hKW:Kp [St] w W:=(hK0.mono (S':=[St]) (by simp)).trans hK (fun _ h _=>h);refine (xQ0 w.heap.size (w.heap.size+1) (w.heap.size+2) Db St wrt s s' nr L R W hX hB hT hDW hS ⟨hout _ (by omega),hout _ (by omega),HN.out,hout _ (by omega)⟩ ⟨by omega,by omega,by omega,by omega⟩ (fun W' hK'=>HE.out W' (hKW.tr hK') (hK'.hp hS)) (fun a b ha hab=>HR.out a b [w.heap.size+2] (by simp) ha hab)).mono ?_;rintro e w1 ⟨rfl,hx,hr,hk,hst⟩;exact⟨rfl,⟨hr,hx⟩,hk,hst⟩
 rintro e w2 ⟨v,rfl,hv,hSt2,hK2,W,w1,Bb,⟨hr,x,hx1,hx2,hx3⟩,hKW,hB1,hB2,hB3,hKB⟩;have hv':v=.nilIface:=hv;subst hv';have hT2:w2.heap[w.heap.size+2]?=some (.cells #[.pointer (some ⟨x,0,none⟩)] 29):=hKB.ho hx3;have hxb:w2.heap[x]?=some (qA6 ⟨St,nr,wrt,false,some ⟨s.V,0,none⟩,⟨⟨#[]⟩,s.rb,s.rs,none⟩,0⟩):=hKB.ho hx2;have hTs:=ζ hT2;have t0:=ξ hT2 0;simp only[zG,zH,zI] at t0;have HX:Hid (w2.heap[x]?=some (qA6 ⟨St,nr,wrt,false,some ⟨s.V,0,none⟩,⟨⟨#[]⟩,s.rb,s.rs,none⟩,0⟩)∧R w2∧Kp (St::L) w w2):=⟨hxb,HR.out _ _ [St,Bb] (by simp;omega) hr hKB,(hK0.mono (S':=St::L) (by simp)).trans hK2 (by intro i hi hlt;simp at hi ⊢;rcases hi with h | h | h;simp[h];omega;simp[h])⟩;have hxw:w.heap.size≤x:=by have:=hKW.size;omega
 clear hv hr hx2 hx3 hKW hB3 hKB hK2 hT2 hxb;go_wp2
 go_ret2
 exact⟨x,rfl,hxw,HX.out.1,hSt2,HX.out.2.1,HX.out.2.2⟩
end Go.Proofs.YtdohpenfkdckiabGreatDoor
namespace Go.Proofs.YtdohpenfkdckiabGreatDoor
open Go.Proofs.Tryz
open Go.RowKit
open Go.Maps (Keyed)
theorem xJ5(Db St n:Nat)(s:Sto)(D:DataW Unit)(w:World)(hD:w.heap[Db]?=some (.cells #[.pointer (some ⟨St,0,none⟩)] 95))(hSt:w.heap[St]?=some (τ 0 s))(hM:RM w s.V s.M n D)(hpo:s.po=false)(hDS:Db≠St)(hMS:s.M≠St)(hMs:s.M<w.heap.size)(hwr:s.wr=0)(h0:0≤s.bg)(h1:s.bg≤100000000):
  Calls prog 22 #[.pointer (some ⟨Db,0,none⟩),.bool true] w fun e w'=>∃ x,e=.returned (.tuple #[.pointer (some ⟨x,0,none⟩),.nilIface])∧w.heap.size≤x∧w'.heap[x]?=some (qA6 ⟨St,s.bg+1,true,false,some ⟨s.V,0,none⟩,⟨⟨#[]⟩,s.rb,s.rs,none⟩,0⟩)∧w'.heap[St]?=some (τ 0 s.wrote)∧RM w' s.V s.M n D∧Kp [St] w w':=
 zP8 Db St true s s.wrote (s.bg+1) [] (fun w'=>RM w' s.V s.M n D) w hD hSt hpo (by simp;exact hDS) (by simp)
  (fun W hK hS=>(xV4 St s W hS hwr h0 h1).mono fun e w' ⟨a,b,c⟩=>⟨a,b,(hM.kp hK (by simp;exact hMS)).kp c (by simp;exact hMS),c⟩)
  (fun a b k hk ha hab=>ha.kp hab (fun hm=>by rcases hk _ hm with h | h;exact hMS h;omega))
theorem zP9(Db St n:Nat)(s:Sto)(D:DataW Unit)(w:World)(hD:w.heap[Db]?=some (.cells #[.pointer (some ⟨St,0,none⟩)] 95))(hSt:w.heap[St]?=some (τ 0 s))(hM:RM w s.V s.M n D)(hpo:s.po=false)(hDS:Db≠St)(hMS:s.M≠St)(hMD:Db≠s.M)(hMs:s.M<w.heap.size)(h4:Maps.size D<4)(hn:n≤100000000)(h0:0≤s.bg)(h1:s.bg≤100000000):
  Calls prog 22 #[.pointer (some ⟨Db,0,none⟩),.bool false] w fun e w'=>∃ x,e=.returned (.tuple #[.pointer (some ⟨x,0,none⟩),.nilIface])∧w.heap.size≤x∧w'.heap[x]?=some (qA6 ⟨St,s.bg+1,false,false,some ⟨s.V,0,none⟩,⟨⟨#[]⟩,s.rb,s.rs,none⟩,0⟩)∧w'.heap[St]?=some (τ 0 s.read)∧RM w' s.V s.M (n+1) (D.put (qA4 (s.bg+1)) (qF1 ⟨⟨#[]⟩,s.rb,s.rs,none⟩))∧Kp [St,s.M] w w':=
 zP8 Db St false s s.read (s.bg+1) [s.M] (fun w'=>RM w' s.V s.M (n+1) (D.put (qA4 (s.bg+1)) (qF1 ⟨⟨#[]⟩,s.rb,s.rs,none⟩))) w hD hSt hpo (by simp;exact⟨hDS,hMD⟩) (by simp;exact hMs)
  (fun W hK hS=>(xV3 St n s D W hS (hM.kp hK (by simp;exact hMS)) h4 hn h0 h1 hMS).mono fun e w' ⟨a,b,c,d⟩=>⟨a,b,c,d⟩)
  (fun a b k hk ha hab=>ha.kp hab (fun hm=>by rcases hk _ hm with h | h;exact hMS h;omega))
def Tx.ended(t:Tx):Tx:={ t with over:=true,on:=none,h:=⟨⟨#[]⟩,0,0,none⟩ }
theorem zS7(x n:Nat)(t:Tx)(s:Sto)(D:DataW Unit)(w:World)(hx:w.heap[x]?=some (qA6 t))(hSt:w.heap[t.St]?=some (τ 1 s))(hM:RM w s.V s.M n D)(h0:0≤t.nr)(h1:t.nr≤1000000000)(hMS:s.M≠t.St)(hxS:x≠t.St)(hxM:x≠s.M):
  Calls prog 40 #[.pointer (some ⟨x,0,none⟩)] w fun e w'=>e=.returned (.tuple #[])∧w'.heap[x]?=some (qA6 t.ended)∧w'.heap[t.St]?=some (τ 1 (s.left t.nr))∧RM w' s.V s.M n (D.del (qA4 t.nr))∧Kp [t.St,x,s.M] w w':=by
 have hxs:=ζ hx;have x0:=ξ hx;simp only[qA6,zG,zH,zI] at x0;have f3:=ρ hx;obtain⟨w0,hw0,hx0,hK0⟩:∃ w0,w0=(((((w.setCell ⟨x,3,none⟩ (.bool true)).setCell ⟨x,4,none⟩ (.pointer none)).setCell ⟨x,5,none⟩ (.string ⟨#[]⟩)).setCell ⟨x,6,none⟩ (.int .i64 0)).setCell ⟨x,7,none⟩ (.int .u64 0)).setCell ⟨x,8,none⟩ (.pointer none)∧w0.heap[x]?=some (qA6 t.ended)∧Kp [x] w w0:=
  ⟨_,rfl,ω (ω (ω (ω (ω (ω hx 3 _) 4 _) 5 _) 6 _) 7 _) 8 _,((((((Kp.refl _ _).sc _).sc _).sc _).sc _).sc _).sc _⟩
 have HX0:=zh hx0;have HS0:Hid (w0.heap[t.St]?=some (τ 1 s)):=hK0.heap hSt (by simp;exact fun h=>hxS h.symm);have HM0:Hid (RM w0 s.V s.M n D):=hM.kp hK0 (by simp;exact fun h=>hxM h.symm);have HK0:=zh hK0;have HN:Hid (s.M≠t.St∧x≠t.St∧x≠s.M):=⟨hMS,hxS,hxM⟩;clear hx hSt hM hMS hxS hxM hx0 hK0;go_enter func40,ntmps40;go_wp2_with fail;rw[←hw0];clear hw0 x0 f3;have hx0s:=ζ HX0.out;have hS0:=HX0.out;refine wp_region_held_drew (S:=fun W=>W.heap[x]?=some (qA6 t.ended)) (by kernel_rfl) hS0 (fun _=>?_);refine zP 0 x 0 hS0 ?_;refine zP 1 x 0 hS0 ?_;refine zP 2 x 0 hS0 ?_;refine zV 3 (.pointer (some ⟨t.St,0,none⟩)) rfl (fun W hS=>by have c:=ξ hS 0;simp only[qA6,Tx.ended,zG,zH,zI] at c;clear hS;go_simp) hS0 ?_;refine zP 4 x 0 hS0 ?_;refine zP 5 x 0 hS0 ?_;refine zP 6 x 1 hS0 ?_;refine zV 7 (.int .u64 t.nr) rfl (fun W hS=>by have c:=ξ hS 1;simp only[qA6,Tx.ended,zG,zH,zI] at c;clear hS;go_simp) hS0 ?_;refine zq 8 fun K hK=>?_;go_simp;refine (jH8 t.St n s t.nr D w0.drew HS0.out (HM0.out.kp ((Kp.refl [] w0).drew) (by simp)) h0 h1 HN.out.1).mono ?_;rintro e w1 ⟨rfl,hSt1,hM1,hK1⟩;have hK1':Kp [t.St,s.M] w0 w1:=((Kp.refl _ w0).drew).trans hK1 (fun _ h _=>h);have hS1:=hK1'.heap hS0 (by simp;exact HN.out.2);refine hK.out _ _ hS1 (fun _=>?_);clear hK K hK1;refine zd ?_;have HE:Hid (w1.heap[x]?=some (qA6 t.ended)∧w1.heap[t.St]?=some (τ 1 (s.left t.nr))∧RM w1 s.V s.M n (D.del (qA4 t.nr))∧Kp [t.St,x,s.M] w w1):=⟨hS1,hSt1,hM1,(HK0.out.mono (by simp)).trans hK1' (by intro i hi _;simp at hi ⊢;omega)⟩;clear hS1 hS0 hSt1 hM1 hK1';go_wp2
 go_end0
 exact⟨rfl,HE.out⟩
theorem xS9(args:Array Value)(W:World):Sem.run prog (callFunc 40 args) W=.ok (.enter 40 args) W:=by
 simp[go_sem,func40]
theorem zO6(x n:Nat)(t:Tx)(s:Sto)(D:DataW Unit)(w:World)(hx:w.heap[x]?=some (qA6 t))(ho:t.over=false)(hSt:w.heap[t.St]?=some (τ 0 s))(hpo:s.po=false)(hM:RM w s.V s.M n D)(h0:0≤t.nr)(h1:t.nr≤1000000000)(hMS:s.M≠t.St)(hxS:x≠t.St)(hxM:x≠s.M)(hMs:s.M<w.heap.size):
  Calls prog 29 #[.pointer (some ⟨x,0,none⟩)] w fun e w'=>e=.returned .nilIface∧w'.heap[x]?=some (qA6 t.ended)∧w'.heap[t.St]?=some (τ 0 (s.left t.nr))∧RM w' s.V s.M n (D.del (qA4 t.nr))∧Kp [t.St,x,s.M] w w':=by
 have hmf:=zM;have hxs:=ζ hx;go_enter func29,ntmps29;go_wp2_with fail;refine (qX3 none (by decide) x t.St 40 t s (s.left t.nr) #[.pointer (some ⟨x,0,none⟩)] #[] _ [x,s.M] (fun W w1=>w1.heap[x]?=some (qA6 t.ended)∧RM w1 s.V s.M n (D.del (qA4 t.nr))) w hx ho rfl hSt hpo hxS (xS9 _) (by intro i hi;simp at hi;omega) ?_).mono ?_
 ·intro W hK hS;refine (zS7 x n t s D W (hK.heap hx (by simp;exact hxS)) hS (hM.kp hK (by simp;exact hMS)) h0 h1 hMS hxS hxM).mono ?_;rintro e w1 ⟨rfl,ha,hb,hc,hd⟩;exact⟨rfl,⟨ha,hc⟩,hd,hb⟩
 rintro e w2 ⟨v,rfl,hv,hSt2,hK2,W,w1,Bb,⟨ha,hb⟩,hKW,hB1,hB2,hB3,hKB⟩;have hv':v=.nilIface:=hv;subst hv';have HE:Hid (w2.heap[x]?=some (qA6 t.ended)∧w2.heap[t.St]?=some (τ 0 (s.left t.nr))∧RM w2 s.V s.M n (D.del (qA4 t.nr))∧Kp [t.St,x,s.M] w w2):=⟨hKB.heap ha (by simp;exact⟨hxS,by omega⟩),hSt2,hb.kp hKB (by simp;exact⟨hMS,by omega⟩),hK2⟩;clear hv ha hb hSt2 hK2 hKW hKB hB3 hMS hxS hxM;go_wp2;go_ret;exact⟨rfl,HE.out⟩
end Go.Proofs.YtdohpenfkdckiabGreatDoor
namespace Go.Proofs.YtdohpenfkdckiabGreatDoor
open Go.Proofs.Tryz
open Go.RowKit
theorem jP1(s:ByteArray)(w:World)(hlim:s.size≤1000000):
  Calls prog 95 #[.string s] w fun e w'=>e=.returned (.string s)∧Kp [] w w':=by
 by_cases h0:s.size=0
 ·have hs:s=⟨#[]⟩:=by
   apply ByteArray.ext;exact Array.eq_empty_of_size_eq_zero h0
  subst hs;clear h0 hlim;go_enter func95,ntmps95;go_wp2;go_ret;exact⟨rfl,Kp.refl _ _⟩
 ·obtain⟨i0,hi,hz0,hz1,hz2⟩:=info_parts Tryz.info5;have hinfo:(prog.info? 5).map (·.size)=some 1:=by rw[hi];simp[hz1]
  have hco:prog.cellsOf 5=1:=by kernel_rfl
  obtain⟨M,hM⟩:∃ M,M=madeCells (Value.int .u8 0).cells (((s.size:Nat):Int).toNat*i0.size):=⟨_,rfl⟩;have hMs:M.size=s.size:=by rw[hM,size_madeCells,hz1];simp
  have hmk:∀ W:World,(Instr.makeSlice 90 (.int .i64 (s.size:Int)) (.int .i64 (s.size:Int))).run prog W=.ok (.slice (some ⟨W.heap.size,0,none⟩) s.size s.size) (W.alloc (.cells M 5)):=fun W=>by
   have h:=run_make (P:=prog) W 90 5 i0 (.int .u8 0) underlying90 hi hz0 .i64 .i64 (s.size:Int) (s.size:Int) (by omega) (by omega) (by rw[hz2];omega) (by omega);rw[←hM] at h;simpa using h
  clear hM;have hcp:=Lib.run_copy_row_string (P:=prog) (w.alloc (.cells M 5)) 90 9 3 5 w.heap.size 0 s.size s.size s M 5 underlying90 hinfo (heap_alloc_new w _) (Nat.le_refl _) (by omega);obtain⟨Y,hY⟩:∃ Y,Y=(M.toList.take 0++Lib.byteCells s.data.toList++M.toList.drop (0+s.size)).toArray:=⟨_,rfl⟩;rw[←hY] at hcp;have hYl:Y.toList=Lib.byteCells s.data.toList:=by
   rw[hY,List.toList_toArray,List.take_zero,List.nil_append,List.drop_of_length_le (by rw[Array.length_toList];omega),List.append_nil]
  have hYs:Y.size=s.size:=by rw[←Array.length_toList,hYl,Lib.byteCells_length,←Lib.size_eq]
  have hgY:((w.alloc (.cells M 5)).setRow w.heap.size Y).heap[w.heap.size]?=some (.cells Y 5 (0,0)):=setRow_heap _ _ M _ 5 (0,0) (heap_alloc_new w _);have hne:s.data.toList≠[]:=fun e=>h0 (by rw[Lib.size_eq,e];rfl);have hUS:=Lib.run_unsafeString_row (P:=prog) ((w.alloc (.cells M 5)).setRow w.heap.size Y) 222 3 9 5 underlying222 hco w.heap.size Y.size (by unfold World.shape?;rw[hgY]) s.data.toList hne (by rw[←Lib.size_eq];omega) (by rw[←Lib.size_eq];omega)
   (fun j x hx=>Lib.cells_of_row hgY Y.size j _ (by rw[List.take_of_length_le (by rw[Array.length_toList];exact Nat.le_refl _),hYl];simp[Lib.byteCells,hx]))
  rw[←Lib.size_eq] at hUS;clear hY;have hb1:Below w.heap.size w (w.alloc (.cells M 5)):=(Below.refl _ w).alloc (Nat.le_refl _) _;have hb2:Below w.heap.size (w.alloc (.cells M 5)) ((w.alloc (.cells M 5)).setRow w.heap.size Y):=⟨rfl,rfl,rfl,by simp,fun k hk=>setRow_other _ _ _ _ (by omega)⟩;have HB:Hid (Below w.heap.size w ((w.alloc (.cells M 5)).setRow w.heap.size Y)):=hb1.trans hb2;clear hb1 hb2 hgY hne hYl;go_enter func95,ntmps95;go_wp2;go_ret;exact⟨rfl,Kp.of_below (Lib.below_freeze HB.out (p:=⟨w.heap.size,0,none⟩) (Nat.le_refl _) _) (Nat.le_refl _)⟩
theorem qR9(s:ByteArray)(w:World)(hlim:s.size≤1000000):
  Calls prog 57 #[.string s] w fun e w'=>e=.returned (.string s)∧Kp [] w w':=by
 go_enter func57,ntmps57;go_wp2_with fail;refine (jP1 s w hlim).mono ?_;rintro e w1 ⟨rfl,hK1⟩;go_wp2;go_ret;exact⟨rfl,hK1⟩
def inR(lo hi:ByteArray)(q:KV):Bool:=!kl q.k lo && kl q.k hi
def qG1(ps:List KV)(lo hi:ByteArray)(most:Int):List KV:=(ps.filter (inR lo hi)).take most.toNat
def qQ7(k:ByteArray):Bool:=decide (1≤k.size) && decide (k.size≤8)
def qN4:List TypeId:=[72,186,87,89]
def OffD(w:World)(L:List Nat):Prop:=∀ k∈L,∀ c t fr,w.heap[k]?=some (.cells c t fr)→t ∉ qN4
structure SEnv extends Env where
 keepX:∀ w w' L,Dev w→Kp L w w'→OffD w L→Dev w'
 offS:∀ w,Dev w→∀ k∈S,∃ c t fr,w.heap[k]?=some (.cells c t fr)∧t∈qN4
theorem SEnv.nin(E:SEnv){w:World}(hd:E.Dev w){k:Nat}{c:Array Value}{t:TypeId}{fr:Nat × Nat}(h:w.heap[k]?=some (.cells c t fr))(ht:t ∉ qN4):k ∉ E.S:=fun hm=>by
 obtain⟨c',t',fr',h1,h2⟩:=E.offS w hd k hm;rw[h] at h1;cases h1;exact ht h2
theorem SEnv.stay(E:SEnv){w w':World}(hd:E.Dev w)(hT:E.To w w'){k:Nat}{c:Array Value}{t:TypeId}{fr:Nat × Nat}(h:w.heap[k]?=some (.cells c t fr))(ht:t ∉ qN4):w'.heap[k]?=some (.cells c t fr):=
 hT.kp.heap h (E.nin hd h ht)
theorem OffD.one{w:World}{k:Nat}{c:Array Value}{t:TypeId}{fr:Nat × Nat}(h:w.heap[k]?=some (.cells c t fr))(ht:t ∉ qN4):OffD w [k]:=fun i hi c' t' fr' e=>by
 rw[List.mem_singleton.1 hi,h] at e;cases e;exact ht
theorem OffD.cons{w:World}{k:Nat}{L:List Nat}(h:OffD w [k])(h2:OffD w L):OffD w (k::L):=fun i hi=>by
 rcases List.mem_cons.1 hi with hi|hi
 ·exact h i (by simp[hi])
 ·exact h2 i hi
theorem Apt.one{w:World}{k:Nat}{c:Array Value}{t:TypeId}{fr:Nat × Nat}{Ts:List TypeId}(h:w.heap[k]?=some (.cells c t fr))(ht:t ∉ Ts):Apt w [k] Ts:=fun i hi c' t' fr' e=>by
 rw[List.mem_singleton.1 hi,h] at e;cases e;exact ht
theorem Apt.cons{w:World}{k:Nat}{S:List Nat}{Ts:List TypeId}(h:Apt w [k] Ts)(h2:Apt w S Ts):Apt w (k::S) Ts:=fun i hi=>by
 rcases List.mem_cons.1 hi with hi|hi
 ·exact h i (by simp[hi])
 ·exact h2 i hi
theorem zR6(k:ByteArray)(w:World)(h1:1≤k.size)(h8:k.size≤8):
  Calls prog 49 #[.string k] w fun e w'=>e=qD1 none∧w'=w:=by
 have hb:¬(k.size:Int)<1:=by omega
 have hb8:¬(8:Int)<(k.size:Int):=by omega
 go_enter func49,ntmps49;go_wp2
 go_end0
 exact⟨rfl,rfl⟩
theorem qV2(St A n:Nat)(lk:Int)(s:Sto)(w:World)(hSt:w.heap[St]?=some (τ lk s))(hV:w.heap[s.V]?=some (qB8 A n))(hn:n≤1000000)(h0:0≤s.bl)(h1:s.bl≤1000000):
  Calls prog 59 #[.pointer (some ⟨St,0,none⟩)] w fun e w'=>e=.returned (.int .i64 ((n:Int)-2-s.bl))∧Kp [] w w':=by
 have hSs:=ζ hSt;have hVs:=ζ hV;go_enter func59,ntmps59;go_wp2_with fail;have hS0:w.heap[St]?=some (τ lk s)∧w.heap[s.V]?=some (qB8 A n):=⟨hSt,hV⟩;refine wp_region_held_drew (S:=fun W=>W.heap[St]?=some (τ lk s)∧W.heap[s.V]?=some (qB8 A n)) (by kernel_rfl) hS0 (fun _=>?_);refine zP 0 St 0 hS0 ?_;refine zP 1 St 0 hS0 ?_;refine zP 2 St 2 hS0 ?_;refine zV 3 (.pointer (some ⟨s.V,0,none⟩)) rfl (fun W hS=>by have c:=ξ hS.1 2;simp only[τ,zG,zH,zI] at c;clear hS;go_simp) hS0 ?_;refine zP 6 St 0 hS0 ?_;refine zP 7 St 0 hS0 ?_;refine zP 8 St 6 hS0 ?_;refine zV 9 (.int .i64 s.bl) rfl (fun W hS=>by have c:=ξ hS.1 6;simp only[τ,zG,zH,zI] at c;clear hS;go_simp) hS0 ?_;refine zq 4 fun K hK=>?_;go_simp;refine (qZ6 s.V A n w.drew hV).mono ?_;rintro e w1 ⟨rfl,rfl⟩;refine hK.out _ _ hS0 (fun _=>?_);clear hK K
 try simp only[zZ]
 have hwr1:IntKind.i64.wrap ((n:Int)-2)=(n:Int)-2:=by rw[IntKind.wrap_i64];omega
 have hwr2:IntKind.i64.wrap ((n:Int)-2-s.bl)=(n:Int)-2-s.bl:=by rw[IntKind.wrap_i64];omega
 refine zU 5 (.int .i64 ((n:Int)-2)) hS0 ?_;refine zU 10 (.int .i64 ((n:Int)-2-s.bl)) hS0 ?_;refine zU 11 (.int .i64 ((n:Int)-2-s.bl)) hS0 ?_;refine zd ?_;clear hwr1 hwr2;go_wp2;go_ret;exact⟨rfl,(Kp.refl _ _).drew⟩
theorem RGood.slim{n:Nat}{l:Lnk (Tn n)}(h:RGood (.at n l))(hc:(cont n l.sub).length≤1000000):qW0 n l.sub∧qB1 n l.sub≤1000000:=by
 obtain⟨_,h2,_⟩:=h;have:=qY1 n _ _ h2;exact⟨qK5 n _ _ h2,by omega⟩
theorem qR1(E:Env)(r:Root)(h:HL)(w:World)(hr:RR E w h r)(hg:RGood r)(hsz:r.cont.length≤1000000):
  Calls prog 58 #[φ E.V h] w fun e w'=>e=.returned (.int .i64 (r.news:Nat))∧Kp [] w w':=by
 cases r with
 | none=>
  have hh:h=⟨⟨#[]⟩,0,0,none⟩:=hr;subst hh;have hc:∀ W:World,Calls prog 96 #[.agg #[.string ⟨#[]⟩,.int .i64 0,.int .u64 0,.pointer none]] W fun e w'=>e=.returned (.int .i64 0)∧Kp [] W w':=by
   intro W;go_enter func96,ntmps96;go_wp2;go_ret;exact⟨rfl,(Kp.refl _ _).alloc _⟩
  have HC:=zh hc;clear hc;have hp:HL.ptr ⟨⟨#[]⟩,0,0,none⟩=none:=rfl;rw[φ,hp];go_enter func58,ntmps58;go_wp2_with fail;refine (HC.out _).mono ?_;rintro e w1 ⟨rfl,hK1⟩;have hK1':Kp [] w w1:=((Kp.refl _ _).alloc _).tr hK1;go_wp2;go_ret;exact⟨rfl,hK1'⟩
 | «at» n l=>
  have hs:=RGood.slim hg hsz;exact jR2 E.O E.V n h l w hr hs.1 hs.2
def qM3(s:ByteArray):List Int:=s.data.toList.map (fun b=>(b.toNat:Int))
theorem qR4(s:ByteArray):(qM3 s).length=s.size:=by
 unfold qM3;rw[List.length_map];exact Array.length_toList
theorem zL7(s:ByteArray):∀ x∈qM3 s,0≤x∧x<256:=by
 intro x hx;simp only[qM3,List.mem_map] at hx;obtain⟨b,_,rfl⟩:=hx;have:=b.toNat_lt;omega
theorem zM0(s:ByteArray):Lib.strCells s=u8s (qM3 s):=by
 unfold Lib.strCells u8s qM3;rw[List.map_map];rfl
def qD6(p:KV):List Int:=[(p.k.size:Int)*16+p.v.size]++qM3 p.k++qM3 p.v
theorem qT2(p:KV):(qD6 p).length=ν p:=by
 simp only[qD6,List.length_append,List.length_cons,List.length_nil,qR4,ν]
theorem jR8(a b:List Int):u8s (a++b)=u8s a++u8s b:=by simp[u8s]
theorem xI4(a:List Int):(u8s a).length=a.length:=by simp[u8s]
theorem qP5{w w':World}{base:Nat}{T:TypeId}{sz:Nat}{v:Value}{n:Nat}{xs:List Value}{k:Nat}{c:Array Value}{t:TypeId}{fr:Nat × Nat}(h:w.ownsRow base T sz v n xs)(hg:w.grownBy w' v.ownBlock)(hk:w.heap[k]?=some (.cells c t fr))(ht:t≠T):w'.heap[k]?=some (.cells c t fr):=by
 refine (hg.block k (ζ hk) ?_).trans hk;rcases h.2 with⟨rfl,_⟩|⟨g,cap,cur,rfl,_,hh,_⟩
 ·simp[Value.ownBlock]
 ·intro e;simp only[Value.ownBlock,Option.some.injEq] at e;subst e;rw[hk] at hh;simp only[Option.some.injEq,Obj.cells.injEq] at hh;exact ht hh.2.1
def St(w w':World):Prop:=∀ (k:Nat) (c:Array Value) (t:TypeId) (fr:Nat × Nat),w.heap[k]?=some (.cells c t fr)→t≠5→w'.heap[k]?=some (.cells c t fr)
theorem St.refl(w:World):St w w:=fun _ _ _ _ h _=>h
theorem St.trans{a b c:World}(h:St a b)(k:St b c):St a c:=fun q x t fr e ht=>k q x t fr (h q x t fr e ht) ht
theorem St.alloc{a b:World}(h:St a b)(o:Obj):St a (b.alloc o):=fun q x t fr e ht=>θ o (h q x t fr e ht)
theorem St.grown{a w w':World}{base:Nat}{sz:Nat}{v:Value}{n:Nat}{xs:List Value}(s:St a w)(h:w.ownsRow base 5 sz v n xs)(hg:w.grownBy w' v.ownBlock):St a w':=fun q x t fr e ht=>qP5 h hg (s q x t fr e ht) ht
theorem jM0:∀ k<9,∀ v<13,bits BinOp.or .i64 (((k:Nat):Int)*16) ((v:Nat):Int)=((k:Nat):Int)*16+((v:Nat):Int):=by decide
theorem jM8(p:KV)(v:Value)(base k:Nat)(xs:List Int)(w:World)(hk:k≤1000)(hp:qC3 p)(hb:base≤w.heap.size)
  (hown:w.ownsRow base 5 1 v k (u8s xs)):
  Calls prog 261 #[.agg #[.string p.k,.string p.v],v] w fun e w'=>∃ v',e=.returned v'∧w'.ownsRow base 5 1 v' (k+ν p) (u8s (xs++qD6 p))∧Below base w w'∧St w w':=by
 obtain⟨i0,hi,hz0,hz1,hz2⟩:=info_parts Tryz.info5;obtain⟨hp1,hp2,hp3⟩:=hp;have hor:=jM0 p.k.size (by omega) p.v.size (by omega);obtain⟨x,hx⟩:∃ x:Int,x=(p.k.size:Int)*16+p.v.size:=⟨_,rfl⟩;rw[←hx] at hor;have hxm:x % 256=x:=by omega
 have hw:wrap64 ((p.k.size:Int)*16)=(p.k.size:Int)*16:=by simp only[wrap64];omega
 have HX:=zh hx;have HB:=zh hb;have HP:Hid (p.k.size≤8∧p.v.size≤12):=⟨hp2,hp3⟩;have HK:=zh hk;have HO:=zh hown;clear hx hp1 hp2 hp3 hb hk hown;go_enter func261,ntmps261
 go_wp2_with (at_builtin;refine wpList_append_own _ rfl _ _ 90 rfl base 5 i0 (.int .u8 0) 1 1 underlying90 hi hz0 hz1 hz2 rfl (by decide) _ _ _ rfl ((HO.out.alloc _).alloc _) ⟨w.heap.size+1,0,none⟩ 1 1 [.int .u8 x] rfl rfl ?_ (by simp[Value.oneCell']) (by have:=HK.out;unfold maxLen;omega) (by have:=HK.out;omega) (by have:=HB.out;simp;omega) ?_)
 ·intro j u hu
  cases j with
  | zero=>
   simp only[zH,Option.some.injEq] at hu;subst hu;have h:=ξ (μ (w.alloc (.cells #[.string p.k,.string p.v] 158)) (.cells #[.int .u8 x] 5)) 0;simp[Addr.add]
  | succ j=>simp at hu
 intro v1 w1 hown1 hgrow1 _;have hbx:=θ (.cells #[.int .u8 x] 5) (μ w (.cells #[.string p.k,.string p.v] 158));have hb1:=qP5 ((HO.out.alloc _).alloc _) hgrow1 hbx (by decide);have hs1:=hgrow1.size;have hbl1:Below base w w1:=(((Below.refl base w).alloc HB.out _).alloc (by have:=HB.out;simp;omega) _).grown hgrow1 (by have:=HB.out;simp;omega) (qI3 HO.out);have hst1:St w w1:=(((St.refl w).alloc _).alloc _).grown ((HO.out.alloc _).alloc _) hgrow1;have HS1:=zh hst1;have c0:=ξ hb1;have HO1:=zh hown1;have HL1:=zh hbl1;have HB1:=zh hb1;clear hown1 hgrow1 hbx hb1 hbl1 hs1 hst1
 go_wp2_with (at_builtin;refine Lib.wpList_append_own_string _ rfl _ _ 90 9 rfl base 5 i0 underlying90 underlying9 hi hz0 hz1 hz2 _ _ _ rfl HO1.out p.k rfl (by have:=HK.out;have:=HP.out;unfold maxLen;omega) (by have:=HK.out;have:=HP.out;omega) (by have:=HL1.out.size;have:=HB.out;omega) ?_)
 intro v2 w2 hown2 hgrow2 _;have hb2:=qP5 HO1.out hgrow2 HB1.out (by decide);have hbl2:Below base w w2:=HL1.out.grown hgrow2 (by have:=HL1.out.size;have:=HB.out;omega) (qI3 HO1.out);have c0:=ξ hb2 0;have c1:=ξ hb2 1;simp only[zG,zH,zI] at c0 c1;have HO2:Hid (w2.ownsRow base 5 1 v2 (k+1+p.k.size) (u8s xs++[.int .u8 x]++Lib.strCells p.k)):=by show World.ownsRow _ _ _ _ _ _ _;rw[List.append_assoc];exact hown2
 have HL2:=zh hbl2;have HS2:Hid (St w w2):=HS1.out.grown HO1.out hgrow2;clear hown2 hgrow2 hb2 hbl2 c0
 go_wp2_with (at_builtin;refine Lib.wpList_append_own_string _ rfl _ _ 90 9 rfl base 5 i0 underlying90 underlying9 hi hz0 hz1 hz2 _ _ _ rfl HO2.out p.v rfl (by have:=HK.out;have:=HP.out;unfold maxLen;omega) (by have:=HK.out;have:=HP.out;omega) (by have:=HL2.out.size;have:=HB.out;omega) ?_)
 intro v3 w3 hown3 hgrow3 _;have hbl3:Below base w w3:=HL2.out.grown hgrow3 (by have:=HL2.out.size;have:=HB.out;omega) (qI3 HO2.out);have e1:u8s (xs++qD6 p)=u8s xs++[.int .u8 x]++Lib.strCells p.k++Lib.strCells p.v:=by
  rw[zM0,zM0,qD6,HX.out];simp[u8s]
 have e2:k+ν p=k+1+p.k.size+p.v.size:=by unfold ν;omega
 have HE:Hid (w3.ownsRow base 5 1 v3 (k+ν p) (u8s (xs++qD6 p))):=by show World.ownsRow _ _ _ _ _ _ _;rw[e1,e2];simp only[List.append_assoc,List.singleton_append,List.cons_append,List.nil_append] at hown3 ⊢;exact hown3
 have HL3:=zh hbl3;have HS3:Hid (St w w3):=HS2.out.grown HO2.out hgrow3;clear hown3 hgrow3 hbl3 e1 e2 c1;go_wp2;go_ret;exact⟨v3,rfl,HE.out,HL3.out,HS3.out⟩
theorem zP3(v:Value)(base k:Nat)(xs:List Int)(n:Int)(m:Nat)(w:World)(hx:k≤1000)(hm:m≤100)(hn:0≤n)
  (hb:base≤w.heap.size) (hown:w.ownsRow base 5 1 v k (u8s xs)):
  Calls prog 177 #[v,.int .u64 n,.int .i64 m] w fun e w'=>∃ v',e=.returned v'∧w'.ownsRow base 5 1 v' (k+m) (u8s (xs++qB0 m n))∧Below base w w'∧St w w':=by
 obtain⟨i0,hi,hz0,hz1,hz2⟩:=info_parts Tryz.info5;go_enter func177,ntmps177;go_wp2
 go_loopw [0,1,8] (fun s q i wr=>∃ (j:Nat) (v':Value) (nj:Int),j≤m∧i=.int .i64 j∧q=.int .u64 nj∧nj=n / (256:Int) ^ j∧0≤nj∧nj≤n∧s=v'∧wr.ownsRow base 5 1 v' (k+j) (u8s (xs++qB0 j n))∧Below base w wr∧Hid (St w wr)) (fun _ _ i _=>m-(intOf i).toNat)
 case atStart=>exact⟨0,v,n,Nat.zero_le _,rfl,rfl,by simp,hn,Int.le_refl _,rfl,by simpa [qB0] using hown,Below.refl _ _,St.refl _⟩
 case round=>
  obtain⟨j,v',nj,hj,rfl,rfl,hnj,hnj0,hnj1,rfl,hownr,hbl,HST⟩:=hrel;have HN:=zh hnj;clear hnj;by_cases hlt:j<m
  ·go_wp2_with (at_builtin;refine wpList_append_own _ rfl _ _ 90 rfl base 5 i0 (.int .u8 0) 1 1 underlying90 hi hz0 hz1 hz2 rfl (by decide) _ _ _ rfl (hownr.alloc _) ⟨wr.heap.size,0,none⟩ 1 1 [.int .u8 (nj % 256)] rfl rfl (cell_one_new _ _ _) (by simp[Value.oneCell']) (by unfold maxLen;omega) (by omega) (by have:=hbl.size;simp;omega) ?_;intro v1 w1 hown1 hgrow1 _)
   refine⟨⟨j+1,v1,nj / 256,by omega,by go_num,rfl,?_,by omega,by omega,rfl,?_,?_,(HST.out.alloc _).grown (hownr.alloc _) hgrow1⟩,by simp[intOf];omega⟩
   ·rw[HN.out,Int.ediv_ediv_of_nonneg (by exact Int.pow_nonneg (by decide)),Int.pow_succ]
   ·have e1:u8s (xs++qB0 (j+1) n)=u8s (xs++qB0 j n)++[.int .u8 (nj % 256)]:=by rw[zJ7,←HN.out];simp[u8s]
    rw[e1];exact hown1
   ·exact (hbl.alloc (by have:=hbl.size;omega) _).grown hgrow1 (by have:=hbl.size;simp;omega) (qI3 hownr)
  ·go_wp2;go_ret;have e:j=m:=by omega
   subst e;exact⟨_,rfl,hownr,hbl,HST.out⟩
def qD9(h:HL):List Int:=qB0 2 h.b++qB0 8 h.s++[(h.key.size:Int)]++qM3 h.key
theorem qT0(h:HL):(qD9 h).length=11+h.key.size:=by
 simp only[qD9,List.length_append,List.length_cons,List.length_nil,qR4,qG5]
theorem jG9(h:HL)(v:Value)(base k:Nat)(xs:List Int)(w:World)(hk:k≤900)(hkey:h.key.size≤8)(hb0:0≤h.b)(hb1:h.b≤1000000)(hs0:0≤h.s)(hb:base≤w.heap.size)
  (hown:w.ownsRow base 5 1 v k (u8s xs)):
  Calls prog 255 #[qC5 h,v] w fun e w'=>∃ v',e=.returned v'∧w'.ownsRow base 5 1 v' (k+(11+h.key.size)) (u8s (xs++qD9 h))∧Below base w w'∧St w w':=by
 obtain⟨i0,hi,hz0,hz1,hz2⟩:=info_parts Tryz.info5;obtain⟨x,hx⟩:∃ x:Int,x=(h.key.size:Int):=⟨_,rfl⟩;have hxm:(h.key.size:Int) % 256=x:=by omega
 have hwb:IntKind.u64.wrap h.b=h.b:=by rw[IntKind.wrap_u64];omega
 have HX:=zh hx;have HB:=zh hb;have HKEY:=zh hkey;have HK:=zh hk;have HN:Hid (0≤h.b∧0≤h.s):=⟨hb0,hs0⟩;have HO:=zh hown;clear hx hkey hb hk hown hb0 hs0 hb1;rw[qC5];go_enter func255,ntmps255;go_wp2_with fail;have hL0:=μ w (.cells #[.string h.key,.int .i64 h.b,.int .u64 h.s,.pointer h.ptr] 81);refine (zP3 v base k xs h.b 2 (w.alloc (.cells #[.string h.key,.int .i64 h.b,.int .u64 h.s,.pointer h.ptr] 81)) (by have:=HK.out;omega) (by omega) HN.out.1 (by have:=HB.out;simp;omega) (HO.out.alloc _)).mono ?_;rintro e w1 ⟨v1,rfl,hown1,hbl1,hst1⟩;have hL1:=hst1 _ _ _ _ hL0 (by decide);have HO1:=zh hown1;have HL1:Hid (Below base w w1):=((Below.refl base w).alloc HB.out _).trans hbl1;have HS1:Hid (St w w1):=((St.refl w).alloc _).trans hst1;have HC1:=zh hL1;have c2:=ξ hL1 2;simp only[zG,zH,zI] at c2;clear hown1 hbl1 hst1 hL0 hL1 hwb;go_wp2_with fail;refine (zP3 v1 base (k+2) (xs++qB0 2 h.b) h.s 8 w1 (by have:=HK.out;omega) (by omega) HN.out.2 (by have:=HL1.out.size;have:=HB.out;omega) HO1.out).mono ?_;rintro e w2 ⟨v2,rfl,hown2,hbl2,hst2⟩;have hL2:=hst2 _ _ _ _ HC1.out (by decide);have HO2:=zh hown2;have HL2:Hid (Below base w w2):=HL1.out.trans hbl2;have HS2:Hid (St w w2):=HS1.out.trans hst2;have HC2:=zh hL2;have hs2:=ζ hL2;have c0:=ξ hL2 0;simp only[zG,zH,zI] at c0;clear hown2 hbl2 hst2 hL2 c2
 go_wp2_with (at_builtin;refine wpList_append_own _ rfl _ _ 90 rfl base 5 i0 (.int .u8 0) 1 1 underlying90 hi hz0 hz1 hz2 rfl (by decide) _ _ _ rfl (HO2.out.alloc _) ⟨w2.heap.size,0,none⟩ 1 1 [.int .u8 x] rfl rfl ?_ (by simp[Value.oneCell']) (by have:=HK.out;unfold maxLen;omega) (by have:=HK.out;omega) (by have:=HL2.out.size;have:=HB.out;simp;omega) ?_)
 ·intro j u hu
  cases j with
  | zero=>
   simp only[zH,Option.some.injEq] at hu;subst hu;simp[Addr.add]
  | succ j=>simp at hu
 intro v3 w3 hown3 hgrow3 _;have hL3:=qP5 (HO2.out.alloc _) hgrow3 (θ (.cells #[.int .u8 x] 5) HC2.out) (by decide);have HL3:Hid (Below base w w3):=(HL2.out.alloc (by have:=HL2.out.size;have:=HB.out;omega) _).grown hgrow3 (by have:=HL2.out.size;have:=HB.out;simp;omega) (qI3 HO2.out);have HS3:Hid (St w w3):=(HS2.out.alloc _).grown (HO2.out.alloc _) hgrow3;have HO3:Hid (w3.ownsRow base 5 1 v3 (k+2+8+1) (u8s (xs++qB0 2 h.b++qB0 8 h.s)++[.int .u8 x])):=by show World.ownsRow _ _ _ _ _ _ _;rw[List.append_assoc xs];exact hown3
 have c0:=ξ hL3 0;simp only[zG,zH,zI] at c0;clear hown3 hgrow3 hL3
 go_wp2_with (at_builtin;refine Lib.wpList_append_own_string _ rfl _ _ 90 9 rfl base 5 i0 underlying90 underlying9 hi hz0 hz1 hz2 _ _ _ rfl HO3.out h.key rfl (by have:=HK.out;have:=HKEY.out;unfold maxLen;omega) (by have:=HK.out;have:=HKEY.out;omega) (by have:=HL3.out.size;have:=HB.out;omega) ?_)
 intro v4 w4 hown4 hgrow4 _;have HL4:Hid (Below base w w4):=HL3.out.grown hgrow4 (by have:=HL3.out.size;have:=HB.out;omega) (qI3 HO3.out);have HS4:Hid (St w w4):=HS3.out.grown HO3.out hgrow4;have e1:u8s (xs++qD9 h)=u8s (xs++qB0 2 h.b++qB0 8 h.s)++[.int .u8 x]++Lib.strCells h.key:=by
  rw[zM0,qD9,HX.out];simp[u8s]
 have e2:k+(11+h.key.size)=k+2+8+1+h.key.size:=by omega
 have HE:Hid (w4.ownsRow base 5 1 v4 (k+(11+h.key.size)) (u8s (xs++qD9 h))):=by show World.ownsRow _ _ _ _ _ _ _;rw[e1,e2];simp only[List.append_assoc,List.singleton_append,List.cons_append,List.nil_append] at hown4 ⊢;exact hown4
 clear hown4 hgrow4 e1 e2 c0;go_wp2;go_ret;exact⟨v4,rfl,HE.out,HL4.out,HS4.out⟩
theorem Hid.mk'{p:Prop}(h:p):Hid p:=h
theorem zU0{α:Type}(f:α→List Int)(l:List α)(j:Nat)(h:j<l.length):(l.take (j+1)).flatMap f=(l.take j).flatMap f++f l[j]:=by
 rw[List.take_succ_eq_append_getElem h,List.flatMap_append];simp
theorem jU0(vb:Value)(base k:Nat)(xs:List Int)(v:Value)(ps:List KV)(w:World)(hk:k+meas ν ps≤900)(hn:ps.length≤1000000)(hz:∀ p∈ps,qC3 p)
  (hs:Slc w 158 2 v ps.length (qA9 ps)) (hb:base≤w.heap.size) (hown:w.ownsRow base 5 1 vb k (u8s xs)):
  Calls prog 212 #[vb,v] w fun e w'=>∃ v',e=.returned v'∧w'.ownsRow base 5 1 v' (k+meas ν ps) (u8s (xs++ps.flatMap qD6))∧Below base w w'∧St w w':=by
 obtain⟨bs,cp,hv⟩:∃ bs cp,v=.slice bs ps.length cp:=by
  rcases hs.val with⟨h0,b,c,h1,_⟩|⟨g,off,cap,cur,fr,h1,_⟩
  ·rw[h0];exact⟨b,c,h1⟩
  ·exact⟨_,cap,h1⟩
 subst hv;have HS:=zh hs;have HZ:=zh hz;have HB:=zh hb;clear hs hz hb;go_enter func212,ntmps212;go_wp2
 go_loopw [0,9] (fun s i wr=>∃ (j:Nat) (v':Value),j≤ps.length∧i=.int .i64 j∧s=v'∧Hid (wr.ownsRow base 5 1 v' (k+meas ν (ps.take j)) (u8s (xs++(ps.take j).flatMap qD6)))∧Hid (Below base w wr)∧Hid (St w wr)) (fun _ i _=>ps.length-(intOf i).toNat)
 case atStart=>exact⟨0,vb,Nat.zero_le _,rfl,rfl,by show World.ownsRow _ _ _ _ _ _ _;simpa [qC9] using hown,Below.refl _ _,St.refl _⟩
 case round=>
  obtain⟨j,v',hj,rfl,rfl,HO,HL,HST⟩:=hrel;by_cases hlt:j<ps.length
  ·obtain⟨gb,off,cp',cur,fr,hv,hcp,hrow,hcur⟩:=HS.out.pair (by omega);obtain⟨c0,c1⟩:=hcur j hlt;simp only[Value.slice.injEq,true_and] at hv;obtain⟨rfl,rfl⟩:=hv;have hR:=HST.out _ _ _ _ hrow (by decide);have a0:=ξ hR (off+j*2);rw[c0] at a0;have a1:=ξ hR (off+j*2+1);rw[c1] at a1;have hgs:=ζ hR;have hjb:(j:Int)<(ps.length:Int):=by omega
   have hz0:=HZ.out ps[j] (List.getElem_mem hlt);have hmt:=qN2 ν ps j;have HMS:Hid (meas ν (ps.take (j+1))=meas ν (ps.take j)+ν ps[j]):=qL9 ν ps j hlt;have HFS:Hid ((ps.take (j+1)).flatMap qD6=(ps.take j).flatMap qD6++qD6 ps[j]):=zU0 qD6 ps j hlt;clear hcur;go_wp2_with fail;refine (jM8 ps[j] _ base (k+meas ν (ps.take j)) (xs++(ps.take j).flatMap qD6) _ (by omega) hz0 (by have:=HB.out;have:=HL.out.size;simp;omega) (HO.out.alloc _)).mono ?_;rintro e w1 ⟨v1,rfl,hown1,hbl1,hst1⟩;have HO1:Hid (w1.ownsRow base 5 1 v1 (k+meas ν (ps.take (j+1))) (u8s (xs++(ps.take (j+1)).flatMap qD6))):=by
    show World.ownsRow _ _ _ _ _ _ _;rw[HMS.out,HFS.out,←List.append_assoc,←Nat.add_assoc];exact hown1
   have HL1:Hid (Below base w w1):=(HL.out.alloc (by have:=HB.out;have:=HL.out.size;omega) _).trans hbl1;have HST1:Hid (St w w1):=(HST.out.alloc _).trans hst1;clear hown1 hbl1 hst1;go_wp2;exact⟨⟨j+1,v1,by omega,by go_num,rfl,HO1,HL1,HST1⟩,by simp[intOf];omega⟩
  ·have hjb:¬(j:Int)<(ps.length:Int):=by omega
   have e:ps.take j=ps:=List.take_of_length_le (by omega);have h:=HO.out;rw[e] at h;have HO':=Hid.mk' h;clear e h;go_wp2;go_ret;exact⟨_,rfl,HO'.out,HL.out,HST.out⟩
theorem jT9(vb:Value)(base k:Nat)(xs:List Int)(v:Value)(ps:List HL)(w:World)(hk:k+meas ψ ps≤900)(hn:ps.length≤1000000)(hz:∀ p∈ps,p.key.size≤8∧0≤p.b∧p.b≤1000000∧0≤p.s)
  (hs:Slc w 81 4 v ps.length (qA5 ps)) (hb:base≤w.heap.size) (hown:w.ownsRow base 5 1 vb k (u8s xs)):
  Calls prog 211 #[vb,v] w fun e w'=>∃ v',e=.returned v'∧w'.ownsRow base 5 1 v' (k+meas ψ ps) (u8s (xs++ps.flatMap qD9))∧Below base w w'∧St w w':=by
 obtain⟨bs,cp,hv⟩:∃ bs cp,v=.slice bs ps.length cp:=by
  rcases hs.val with⟨h0,b,c,h1,_⟩|⟨g,off,cap,cur,fr,h1,_⟩
  ·rw[h0];exact⟨b,c,h1⟩
  ·exact⟨_,cap,h1⟩
 subst hv;have HS:=zh hs;have HZ:=zh hz;have HB:=zh hb;clear hs hz hb;go_enter func211,ntmps211;go_wp2
 go_loopw [0,9] (fun s i wr=>∃ (j:Nat) (v':Value),j≤ps.length∧i=.int .i64 j∧s=v'∧Hid (wr.ownsRow base 5 1 v' (k+meas ψ (ps.take j)) (u8s (xs++(ps.take j).flatMap qD9)))∧Hid (Below base w wr)∧Hid (St w wr)) (fun _ i _=>ps.length-(intOf i).toNat)
 case atStart=>exact⟨0,vb,Nat.zero_le _,rfl,rfl,by show World.ownsRow _ _ _ _ _ _ _;simpa [qC9] using hown,Below.refl _ _,St.refl _⟩
 case round=>
  obtain⟨j,v',hj,rfl,rfl,HO,HL,HST⟩:=hrel;by_cases hlt:j<ps.length
  ·obtain⟨gb,off,cp',cur,fr,hv,hcp,hrow,hcur⟩:=HS.out.link (by omega);obtain⟨c0,c1,c2,c3⟩:=hcur j hlt;simp only[Value.slice.injEq,true_and] at hv;obtain⟨rfl,rfl⟩:=hv;have hR:=HST.out _ _ _ _ hrow (by decide);have a0:=ξ hR (off+j*4);rw[c0] at a0;have a1:=ξ hR (off+j*4+1);rw[c1] at a1;have a2:=ξ hR (off+j*4+2);rw[c2] at a2;have a3:=ξ hR (off+j*4+3);rw[c3] at a3;have hgs:=ζ hR;have hjb:(j:Int)<(ps.length:Int):=by omega
   have hz0:=HZ.out ps[j] (List.getElem_mem hlt);have hmt:=qN2 ψ ps j;have HMS:Hid (meas ψ (ps.take (j+1))=meas ψ (ps.take j)+ψ ps[j]):=qL9 ψ ps j hlt;have HFS:Hid ((ps.take (j+1)).flatMap qD9=(ps.take j).flatMap qD9++qD9 ps[j]):=zU0 qD9 ps j hlt;clear hcur;go_wp2_with fail;refine (jG9 ps[j] _ base (k+meas ψ (ps.take j)) (xs++(ps.take j).flatMap qD9) _ (by omega) hz0.1 hz0.2.1 hz0.2.2.1 hz0.2.2.2 (by have:=HB.out;have:=HL.out.size;simp;omega) (HO.out.alloc _)).mono ?_;rintro e w1 ⟨v1,rfl,hown1,hbl1,hst1⟩;have HO1:Hid (w1.ownsRow base 5 1 v1 (k+meas ψ (ps.take (j+1))) (u8s (xs++(ps.take (j+1)).flatMap qD9))):=by
    show World.ownsRow _ _ _ _ _ _ _;rw[HMS.out,HFS.out,←List.append_assoc,←Nat.add_assoc];exact hown1
   have HL1:Hid (Below base w w1):=(HL.out.alloc (by have:=HB.out;have:=HL.out.size;omega) _).trans hbl1;have HST1:Hid (St w w1):=(HST.out.alloc _).trans hst1;clear hown1 hbl1 hst1;go_wp2;exact⟨⟨j+1,v1,by omega,by go_num,rfl,HO1,HL1,HST1⟩,by simp[intOf];omega⟩
  ·have hjb:¬(j:Int)<(ps.length:Int):=by omega
   have e:ps.take j=ps:=List.take_of_length_le (by omega);have h:=HO.out;rw[e] at h;have HO':=Hid.mk' h;clear e h;go_wp2;go_ret;exact⟨_,rfl,HO'.out,HL.out,HST.out⟩
def qK7(lv:Int)(ps:List KV)(hs:List HL):List Int:=[lv,((ps.length+hs.length:Nat):Int)]++ps.flatMap qD6++hs.flatMap qD9
def qA1(lv:Int)(ps:List KV)(hs:List HL):List Int:=qK7 lv ps hs++List.replicate (128-(2+meas ν ps+meas ψ hs)) 0
theorem zB5{α:Type}(f:α→List Int)(g:α→Nat)(h:∀ x,(f x).length=g x)(l:List α):(l.flatMap f).length=meas g l:=by
 induction l with
 | nil=>simp[qC9]
 | cons a l ih=>rw[List.flatMap_cons,List.length_append,h,ih,qE0]
theorem zZ9(lv:Int)(ps:List KV)(hs:List HL):(qK7 lv ps hs).length=2+meas ν ps+meas ψ hs:=by
 unfold qK7;rw[List.length_append,List.length_append,zB5 qD6 ν qT2,zB5 qD9 ψ (fun h=>qT0 h)];simp
theorem qO8(lv:Int)(ps:List KV)(hs:List HL)(h:2+meas ν ps+meas ψ hs≤128):(qA1 lv ps hs).length=128:=by
 unfold qA1;rw[List.length_append,zZ9,List.length_replicate];omega
theorem qJ8{w:World}{T:TypeId}{sz:Nat}{v:Value}{n:Nat}{cs:List Value}(hs:Slc w T sz v n cs):∃ bs cp,v=.slice bs n cp:=by
 rcases hs.val with⟨h0,b,c,h1,_⟩|⟨g,off,cap,cur,fr,h1,_⟩
 ·rw[h0];exact⟨b,c,h1⟩
 ·exact⟨_,cap,h1⟩
theorem Slc.st{w w':World}{T:TypeId}{sz:Nat}{v:Value}{n:Nat}{cs:List Value}(h:Slc w T sz v n cs)(hT:T≠5)(hs:St w w'):Slc w' T sz v n cs:=by
 refine⟨h.len,?_⟩;rcases h.val with h1|⟨g,off,cap,cur,fr,h1,h2,h3,h4,h5⟩
 ·exact Or.inl h1
 ·exact Or.inr ⟨g,off,cap,cur,fr,h1,h2,h3,hs _ _ _ _ h4 hT,h5⟩
theorem jO0(q:Nat)(lv:Int)(pb lb:Option Addr)(n m pc lc:Nat)(w:World)(hq:w.heap[q]?=some (υ lv (.slice pb n pc) (.slice lb m lc)))(hn:n≤100000)(hm:m≤100000):
  Calls prog 129 #[.pointer (some ⟨q,0,none⟩)] w fun e w'=>e=.returned (.int .i64 ((n+m:Nat):Int))∧Kp [] w w':=by
 have hs:=ζ hq;have c1:=ξ hq;simp only[υ,zG,zH,zI] at c1;clear hq;go_enter func129,ntmps129;go_wp2_with fail
 go_quiet (fail)
 go_wp2;go_ret;exact⟨qL1 (by omega),(Kp.refl _ _).drewN _⟩
theorem qE8(w:World)(o1:Obj):∃ w0,w0=w.alloc o1∧w0.heap[w.heap.size]?=some o1∧Kp [] w w0∧w0.heap.size=w.heap.size+1:=⟨_,rfl,μ _ _,(Kp.refl _ _).alloc _,by simp⟩
theorem jU5:zeroCells223=(List.replicate 128 (.int .u8 0)).toArray:=by kernel_rfl
theorem jG8(lv:Int)(ps:List KV)(hs:List HL):qD3 zeroCells223 0 (u8s (qK7 lv ps hs)).toArray=(u8s (qA1 lv ps hs)).toArray:=by
 rw[jU5];unfold qD3
 congr 1
 rw[qA1,jR8];simp only[List.take_zero,List.nil_append,List.drop_replicate,Nat.zero_add,List.size_toArray,xI4,zZ9]
 congr 1
 simp[u8s]
theorem qW7(q:Nat)(lv:Int)(vp vl:Value)(ps:List KV)(hs:List HL)(w:World)(hq:w.heap[q]?=some (υ lv vp vl))(hl0:0≤lv)(hl1:lv<256)
  (hsp:Slc w 158 2 vp ps.length (qA9 ps)) (hsl:Slc w 81 4 vl hs.length (qA5 hs)) (hm:2+meas ν ps+meas ψ hs≤128) (hc:ps.length+hs.length≤255)
  (hzp:∀ p∈ps,qC3 p) (hzl:∀ p∈hs,p.key.size≤8∧0≤p.b∧p.b≤1000000∧0≤p.s):
  Calls prog 182 #[.pointer (some ⟨q,0,none⟩)] w fun e w'=>e=.returned (.agg (u8s (qA1 lv ps hs)).toArray)∧Kp [] w w':=by
 obtain⟨pb,pc,rfl⟩:=qJ8 hsp;obtain⟨lb,lc,rfl⟩:=qJ8 hsl;have hlm:IntKind.u8.wrap lv=lv:=by rw[IntKind.wrap_u8];omega
 obtain⟨cn,hcn⟩:∃ cn:Nat,cn=ps.length+hs.length:=⟨_,rfl⟩;have hcm:IntKind.u8.wrap (cn:Int)=(cn:Int):=by rw[IntKind.wrap_u8];omega
 have HCN:=zh hcn;have HC:=zh hc;have HM:=zh hm;have HP:=zh hsp;have HL:=zh hsl;have HZP:=zh hzp;have HZL:=zh hzl;have HQ:=zh hq;have hqs:=ζ hq;clear hl0 hl1 hsp hsl hm hc hzp hzl hcn hq;go_enter func182,ntmps182;go_wp2_with fail;obtain⟨w0,hw0,hR0,hK0,hs0⟩:=qE8 w (.cells zeroCells223 223);rw[←hw0];clear hw0;have hq0:=hK0.hp HQ.out;have hSd:w0.drew.heap[q]?=some (υ lv (.slice pb ps.length pc) (.slice lb hs.length lc)):=hq0;refine wp_region_held_drew (S:=fun W=>W.heap[q]?=some (υ lv (.slice pb ps.length pc) (.slice lb hs.length lc))) (by kernel_rfl) hSd (fun _=>?_);refine zP 0 q 0 hSd ?_;refine zV 1 (.pointer (some ⟨q,0,none⟩)) rfl (fun W hS=>by have c:=ζ hS;clear hS;go_simp) hSd ?_;refine zP 2 q 0 hSd ?_;refine zV 3 (.int .i64 lv) rfl (fun W hS=>by have c:=ξ hS 0;simp only[υ,zG,zH,zI] at c;clear hS;go_simp) hSd ?_;refine zU 4 (.int .u8 lv) hSd ?_;refine zP 5 q 0 hSd ?_;refine zP 9 q 0 hSd ?_;refine zV 10 (.pointer (some ⟨q,0,none⟩)) rfl (fun W hS=>by have c:=ζ hS;clear hS;go_simp) hSd ?_;refine zP 11 q 1 hSd ?_;refine zV 12 (.slice pb ps.length pc) rfl (fun W hS=>by have c:=ξ hS 1;simp only[υ,zG,zH,zI] at c;clear hS;go_simp) hSd ?_;refine zP 14 q 0 hSd ?_;refine zV 15 (.pointer (some ⟨q,0,none⟩)) rfl (fun W hS=>by have c:=ζ hS;clear hS;go_simp) hSd ?_;refine zP 16 q 2 hSd ?_;refine zV 17 (.slice lb hs.length lc) rfl (fun W hS=>by have c:=ξ hS 2;simp only[υ,zG,zH,zI] at c;clear hS;go_simp) hSd ?_;refine zq 6 fun K hK=>?_;go_simp;refine (jO0 q lv pb lb ps.length hs.length pc lc w0.drew hSd (by have:=HC.out;omega) (by have:=HC.out;omega)).mono ?_;rintro e w1 ⟨rfl,hK1⟩;have hS1:=hK1.hp hSd;rw[←HCN.out];have hK1':Kp [] w0 w1:=((Kp.refl _ w0).drew).tr hK1;refine hK.out _ _ hS1 (fun _=>?_);clear hK K hK1
 try simp only[zZ]
 refine zU 7 (.int .u8 cn) hS1 ?_;refine zq 8 fun K hK=>?_;go_simp;obtain⟨w2,hw2,hB2,hK2,hs2⟩:=qE8 w1 (.cells #[.int .u8 lv,.int .u8 cn] 5);rw[←hw2];clear hw2;have hS2:=hK2.hp hS1;have hKw2:Kp [] w w2:=(hK0.tr hK1').tr hK2;have hR2:=(hK1'.tr hK2).hp hR0;have hKw1:Kp [] w w1:=hK0.tr hK1';have hbl2:Below w1.heap.size w1 w2:=hK2.below (Nat.le_refl _) (by simp);have hown2:w2.ownsRow w1.heap.size 5 1 (.slice (some ⟨w1.heap.size,0,none⟩) 2 2) 2 (u8s [lv,(cn:Int)]):=⟨rfl,Or.inr ⟨w1.heap.size,2,_,rfl,Nat.le_refl _,hB2,Nat.le_refl _,by decide,rfl,rfl⟩⟩;have hw01:=hK1'.size;refine hK.out _ _ hS2 (fun _=>?_);clear hK K hS1 hK1' hB2 hK2 hR0 hq0 hSd hK0
 try simp only[zZ]
 refine zq 13 fun K hK=>?_;go_simp;refine (jU0 (.slice (some ⟨w1.heap.size,0,none⟩) 2 2) w1.heap.size 2 [lv,(cn:Int)] (.slice pb ps.length pc) ps w2 (by have:=HM.out;omega) (by have:=HC.out;omega) HZP.out (HP.out.keep0 hKw2) (by omega) hown2).mono ?_;rintro e w3 ⟨v3,rfl,hown3,hbl3,hst3⟩;have hS3:=hst3 _ _ _ _ hS2 (by decide);have hR3:=hst3 _ _ _ _ hR2 (by decide);refine hK.out _ _ hS3 (fun _=>?_);clear hK K hS2 hR2 hown2
 try simp only[zZ]
 refine zq 18 fun K hK=>?_;go_simp;refine (jT9 v3 w1.heap.size (2+meas ν ps) ([lv,(cn:Int)]++ps.flatMap qD6) (.slice lb hs.length lc) hs w3 (by have:=HM.out;omega) (by have:=HC.out;omega) HZL.out ((HL.out.keep0 hKw2).st (by decide) hst3) (by have:=hbl3.size;omega) hown3).mono ?_;rintro e w4 ⟨v4,rfl,hown4,hbl4,hst4⟩;have hS4:=hst4 _ _ _ _ hS3 (by decide);have hR4:=hst4 _ _ _ _ hR3 (by decide);refine hK.out _ _ hS4 (fun _=>?_);clear hK K hS3 hR3 hown3
 try simp only[zZ]
 refine zq 19 fun K hK=>?_;go_simp;refine hK.out _ _ hS4 (fun _=>?_);clear hK K
 try simp only[zZ]
 refine zd ?_;have HK4:Hid (Kp [] w w4):=hKw1.trans (Kp.of_below ((hbl2.trans hbl3).trans hbl4) (Nat.le_refl _)) (by simp);have hxs:u8s ([lv,(cn:Int)]++ps.flatMap qD6++hs.flatMap qD9)=u8s (qK7 lv ps hs):=by rw[qK7,←HCN.out]
 rw[hxs] at hown4;obtain⟨N,hN⟩:∃ N,2+meas ν ps+meas ψ hs=N:=⟨_,rfl⟩;rw[hN] at hown4;have HN:=zh hN;rcases hown4.2 with⟨_,h0⟩|⟨g,cap,cur,rfl,hg,hgr,hle,_,hsz,htk⟩
 ·omega
 have HTK:Hid (cur.toList.take N=u8s (qK7 lv ps hs)):=by show _=_;rw[←htk,Nat.mul_one]
 have HSZ:Hid (N≤cur.size∧N≤128):=⟨by rw[hsz];omega,by rw[←hN];exact HM.out⟩;have HG:=zh hgr;have HR:=zh hR4;clear hown4 htk hsz hgr hR4 hS4 hxs hN hst3 hst4 hbl3 hbl4 hbl2 hKw1 hKw2 hle;go_wp2_with fail;obtain⟨w5,hw5,hO5,hK5,hs5⟩:=qE8 w4 (.cells zeroCells223 223);rw[←hw5];clear hw5;have hg5:=hK5.hp HG.out;have hR5:=hK5.hp HR.out;have hpc:qA2 cur 0 N=(u8s (qK7 lv ps hs)).toArray:=by
  simp only[qA2,List.drop_zero];rw[HTK.out]
 have hone:∀ v∈(qA2 cur 0 N).toList,v.oneCell'=true:=by
  rw[hpc];intro v hv;simp only[u8s,List.mem_map] at hv;obtain⟨x,_,rfl⟩:=hv;rfl
 rw[qR3 (n:=N) 3 underlying90 Tryz.size5 (by have:=HSZ.out.2;show N=min N 128;omega) hO5 hg5 (by rw[qH9];have:=HSZ.out.2;omega) (by have:=HSZ.out.1;omega) hone,hpc];have hlaid:qD3 zeroCells223 0 (u8s (qK7 lv ps hs)).toArray=(u8s (qA1 lv ps hs)).toArray:=jG8 lv ps hs;rw[hlaid];obtain⟨B,hB⟩:∃ B,B=(u8s (qA1 lv ps hs)).toArray:=⟨_,rfl⟩;have hBs:B.size=128:=by rw[hB];simp only[List.size_toArray,xI4];exact qO8 lv ps hs HM.out
 have hB1:∀ v∈B.toList,v.oneCell'=true:=by
  rw[hB];intro v hv;simp only[u8s,List.mem_map] at hv;obtain⟨x,_,rfl⟩:=hv;rfl
 rw[←hB];have HB:=zh hB;have hRs:=ζ HR.out;have hwR:w.heap.size≠w4.heap.size:=by omega
 obtain⟨w6,hw6,hO6,hR6,hK6,hs6⟩:∃ w6,w6=w5.setRow w4.heap.size B∧w6.heap[w4.heap.size]?=some (.cells B 223)∧w6.heap[w.heap.size]?=some (.cells zeroCells223 223)∧Kp [] w w6∧w6.heap.size=w5.heap.size:=
  ⟨_,rfl,setRow_heap _ _ _ _ _ _ hO5,(setRow_other _ _ _ _ hwR).trans hR5,(HK4.out.tr hK5).setRow (Or.inr (by have:=HK4.out.size;omega)) _,by simp⟩
 rw[←hw6];clear hw6 hpc hone hR5 hO5 hg5 hK5 hlaid hB;have hpp:qA2 B 0 128=B:=by rw[←hBs];simp[qA2,List.take_of_length_le]
 go_wp2_with (
  with_reducible refine qQ1 (t:=223) ?_ 128 ?_ w4.heap.size 0 ?_ B 223 (0,0) ?_ ?_ ?_
  ·kernel_rfl
  ·kernel_rfl
  ·rfl
  ·exact hO6
  ·omega)
 rw[qM0 hR6 (by simp[qH9,hBs]) hB1];rw[show B.toList.toArray=B from by simp,qJ6 (by rw[qH9,hBs])];obtain⟨w7,hw7,hR7,hK7⟩:∃ w7,w7=w6.setRow w.heap.size B∧w7.heap[w.heap.size]?=some (.cells B 223)∧Kp [] w w7:=
  ⟨_,rfl,setRow_heap _ _ _ _ _ _ hR6,hK6.setRow (Or.inr (Nat.le_refl _)) _⟩
 rw[←hw7];clear hw7 hO6 hR6 hK6;go_wp2_with fail;exact bodyPost_ret (results_cell_row results182 _ _ w.heap.size _ _ _ _ rfl hR7 underlying223 rfl (by rw[hBs];kernel_rfl)) rfl ⟨by rw[HB.out],hK7⟩
end Go.Proofs.YtdohpenfkdckiabGreatDoor
