import Derived.Test.YtdohpenfkdckiabGreatDoorB03
set_option linter.all false
set_option maxRecDepth 100000
set_option maxHeartbeats 20000000
namespace Go.Proofs.YtdohpenfkdckiabGreatDoor
open Go.Proofs.Tryz
open Go.RowKit Go.MuLone
def xH7(k:Int):Value:=.iface 162 (.agg #[.iface 46 (.int .i64 k)])
def qD1:Option Int→Ending
 | none=>.returned (.tuple #[])
 | some k=>.panicked [{ v:=xH7 k,recovered:=false }]
def qI9(w:World)(v:Value):Option Int→Prop
 | none=>v=.nilIface
 | some k=>∃ F call,v=.iface 180 (.pointer (some ⟨F,0,none⟩))∧w.heap[F]?=some (.cells #[.string call,.iface 46 (.int .i64 k)] 183)
theorem xR9(f:Nat)(cap:Array Value)(call:ByteArray)(k:Int)(w:World)(R:World→Prop)(hcf:∀ W:World,Sem.run prog (callFunc f cap) W=.ok (.enter f cap) W)
  (hw:Calls prog f cap ((w.alloc (.cells #[.string call] 9)).alloc (.cells #[.nilIface] 35)) fun e w'=>e=.panicked [{ v:=xH7 k,recovered:=false }]∧R w'∧w'.heap[w.heap.size+1]?=some (.cells #[.nilIface] 35)∧w'.heap[w.heap.size]?=some (.cells #[.string call] 9)):
  Calls prog 70 #[.string call,.func (.func f) #[] cap] w fun e w'=>∃ F,e=.returned (.iface 180 (.pointer (some ⟨F,0,none⟩)))∧w'.heap[F]?=some (.cells #[.string call,.iface 46 (.int .i64 k)] 183)∧∃ w1,R w1∧w1.heap.size≤F∧Kp [w.heap.size+1] w1 w':=by
 have hmf:=zM;have HW:=zh hw;clear hw
 go_enter_defers func70,ntmps70
 go_wp2_with fail;refine (show Calls _ _ _ _ _ from HW.out).mono ?_;rintro e w1 ⟨rfl,hR,hE,hB⟩;have HR:=zh hR;clear hR;go_wp2;refine leaves_cons (f:=108) (args:=#[.pointer (some ⟨w.heap.size,0,none⟩),.pointer (some ⟨w.heap.size+1,0,none⟩)]) (by simp) (by simp[go_sem]) ?_;refine (zG7 w.heap.size (w.heap.size+1) k call _ hB (by omega) hE).mono ?_;rintro e u' w2 ⟨rfl,rfl,F,hF,hF2,hE2,hK2⟩;have e0:=ξ hE2 0;simp at e0;simp[Leaves,settle,results,results70,go_sem,e0];exact⟨hF2,w1,HR.out,hF,hK2⟩
theorem zV4(k:Int)(w:World):Calls prog 84 #[.nilIface,.iface 46 (.int .i64 k)] w fun e w'=>e=.returned (.bool false)∧w'=w:=by
 have hb:∀ W:World,Sem.run prog (binOp .eql 35 .nilIface (.iface 46 (.int .i64 k))) W=.ok (.bool false) W:=fun W=>by kernel_rfl
 go_enter func84,ntmps84;go_wp2;go_ret;exact⟨rfl,rfl⟩
theorem zG8(args:Array Value)(W:World):Sem.run prog (callFunc 83 args) W=.ok (.enter 83 args) W:=by
 simp[go_sem,func83]
theorem zP2(k:Option Int)(S F St f:Nat)(s:Sto)(first cap:Array Value)(w:World)(R:World→Prop)(hS:w.heap[S]?=some (.cells #[.pointer (some ⟨St,0,none⟩)] 74))(hF:w.heap[F]?=some (.cells #[.func (.func f) first cap] 1))(hSt:w.heap[St]?=some (τ 1 s))(hpo:s.po=false)
  (hcf:∀ W:World,Sem.run prog (callFunc f (first++cap)) W=.ok (.enter f (first++cap)) W)
  (hw:Calls prog f (first++cap) w fun e w'=>e=qD1 k∧R w'):
  Calls prog 83 #[.pointer (some ⟨S,0,none⟩),.pointer (some ⟨F,0,none⟩)] w fun e w'=>e=qD1 k∧R w':=by
 have s0:=ξ hS 0;have f0:=ξ hF 0;have p7:=ξ hSt 7;simp[hpo] at s0 f0 p7;clear hS hF hSt;have HW:=zh hw;clear hw;go_enter func83,ntmps83;go_wp2_with fail;refine (show Calls _ _ _ _ _ from HW.out).mono ?_;rintro e w1 ⟨rfl,hR⟩
 cases k with
 | none=>
  simp only[qD1];go_wp2
  go_end0
  exact⟨rfl,hR⟩
 | some k=>
  simp only[qD1];go_wp2;exact⟨rfl,rfl,hR⟩
theorem zG1(k:Option Int)(hk8:k≠some 8)(St f:Nat)(s s':Sto)(first cap:Array Value)(call:ByteArray)(X:List Nat)(Q:World→World→Prop)(w:World)(hSt:w.heap[St]?=some (τ 0 s))(hpo:s.po=false)
  (hcf:∀ W:World,Sem.run prog (callFunc f (first++cap)) W=.ok (.enter f (first++cap)) W) (hX:∀ i,i∈X→i<w.heap.size)
  (hw:∀ W:World,Kp [St] w W→W.heap[St]?=some (τ 1 s)→Calls prog f (first++cap) W fun e w1=>e=qD1 k∧Q W w1∧Kp (St::X) W w1∧w1.heap[St]?=some (τ 1 s')):
  Calls prog 44 #[.pointer (some ⟨St,0,none⟩),.string call,.func (.func f) first cap] w fun e w'=>∃ v,e=.returned v∧qI9 w' v k∧w'.heap[St]?=some (τ 0 s')∧Kp (St::X) w w'∧∃ W w1 B,Q W w1∧Kp [St] w W∧w.heap.size≤B∧B<W.heap.size∧w1.heap[B]?=some (.cells #[.nilIface] 35)∧Kp [St,B] w1 w':=by
 have hmf:=zM;have HW:=zh hw;have HX:=zh hX;have HPO:=zh hpo;have HK8:=zh hk8;clear hw hX hpo hk8;have hSs:=ζ hSt
 go_enter_defers func44,ntmps44
 go_wp2_with fail;refine (lock_free qY0 ⟨St,0,none⟩ _ (ξ (θ _ (θ _ hSt)) 0) (ρ (θ _ (θ _ hSt)) 0)).mono ?_;rintro e W0 ⟨rfl,rfl⟩;obtain⟨W0,hW0,hK0,hs0,hB0,hF0,hSt0⟩:∃ W0,W0=((w.alloc (.cells #[.pointer (some ⟨St,0,none⟩)] 74)).alloc (.cells #[.func (Fn.func f) first cap] 1)).setCell ⟨St,0,none⟩ (.int .i32 1)∧Kp [St] w W0∧W0.heap.size=w.heap.size+2∧W0.heap[w.heap.size]?=some (.cells #[.pointer (some ⟨St,0,none⟩)] 74)∧W0.heap[w.heap.size+1]?=some (.cells #[.func (Fn.func f) first cap] 1)∧W0.heap[St]?=some (τ 1 s):=by
  refine⟨_,rfl,((((Kp.refl _ _).alloc _).alloc _).sc _),by simp[World.setCell],?_,?_,?_⟩
  ·exact (qA7 (by omega) _ _).trans (θ _ (μ _ _))
  ·refine (qA7 (by omega) _ _).trans ?_;have e:=μ (w.alloc (.cells #[.pointer (some ⟨St,0,none⟩)] 74)) (.cells #[.func (Fn.func f) first cap] 1);simpa using e
  ·exact ω (θ _ (θ _ hSt)) 0 _
 rw[←hW0];clear hW0;have b0:=ξ hB0 0;simp at b0;go_wp2_with fail;obtain⟨Wc,hWc,hKc,hsc,hBc,hFc,hStc,hEc,hCc⟩:∃ Wc,Wc=(W0.alloc (.cells #[.string call] 9)).alloc (.cells #[.nilIface] 35)∧Kp [St] w Wc∧Wc.heap.size=w.heap.size+4∧Wc.heap[w.heap.size]?=some (.cells #[.pointer (some ⟨St,0,none⟩)] 74)∧Wc.heap[w.heap.size+1]?=some (.cells #[.func (Fn.func f) first cap] 1)∧Wc.heap[St]?=some (τ 1 s)∧Wc.heap[W0.heap.size+1]?=some (.cells #[.nilIface] 35)∧Wc.heap[W0.heap.size]?=some (.cells #[.string call] 9):=by
  refine⟨_,rfl,(hK0.alloc _).alloc _,by simp[hs0],θ _ (θ _ hB0),θ _ (θ _ hF0),θ _ (θ _ hSt0),?_,θ _ (μ _ _)⟩;have e:=μ (W0.alloc (.cells #[.string call] 9)) (.cells #[.nilIface] 35);simpa using e
 have HA1:Hid (Calls prog 83 #[.pointer (some ⟨w.heap.size,0,none⟩),.pointer (some ⟨w.heap.size+1,0,none⟩)] Wc fun e w1=>e=qD1 k∧Q Wc w1∧Kp (St::X) Wc w1∧w1.heap[St]?=some (τ 1 s')):=
  zP2 k w.heap.size (w.heap.size+1) St f s first cap Wc (fun w1=>Q Wc w1∧Kp (St::X) Wc w1∧w1.heap[St]?=some (τ 1 s')) hBc hFc hStc HPO.out hcf (HW.out Wc hKc hStc)
 have HNM:Hid (∀ i,w.heap.size≤i→i ∉ St::X):=by
  show ∀ i,w.heap.size≤i→i ∉ St::X;intro i hi h;rcases List.mem_cons.1 h with h|h
  ·omega
  ·have:=HX.out _ h;omega
 clear HW
 cases k with
 | none=>
  refine (qY9 83 _ _ _ (fun w1=>Q Wc w1∧Kp (St::X) Wc w1∧w1.heap[St]?=some (τ 1 s')) (zG8 _) ?_).mono ?_
  ·rw[←hWc];refine (show Calls _ _ _ _ _ from HA1.out).mono ?_;rintro e w1 ⟨rfl,hQ,hk,hst⟩;exact⟨rfl,⟨hQ,hk,hst⟩,hk.heap hEc (HNM.out _ (by omega))⟩
  rintro e w2 ⟨rfl,w1,⟨hQ,hk,hst⟩,rfl⟩;have hs1:=hk.size;have hEw1:=hk.heap hEc (HNM.out _ (by omega));obtain⟨w2,hw2,hst2,hK2,ho2⟩:∃ w2,w2=w1.setCell ⟨W0.heap.size+1,0,none⟩ .nilIface∧w2.heap[St]?=some (τ 1 s')∧Kp (St::X) w w2∧Kp [St,W0.heap.size+1] w1 w2:=
   ⟨_,rfl,(qA7 (by omega) _ _).trans hst,(((hKc.mono (S':=St::X) (by simp)).trans hk (fun _ h _=>h)).setCell (Or.inr (by simp;omega)) _),(Kp.refl _ _).sc _⟩
  rw[←hw2];clear hw2
  go_wp2_with (go_at_call 84;refine (zV4 8 _).mono ?_;rintro e w' ⟨rfl,rfl⟩)
  refine leaves_cons (f:=82) (args:=#[.pointer (some ⟨St,0,none⟩)]) (by simp) (by simp[go_sem]) ?_;refine (unlock_deferred qY0 ⟨St,0,none⟩ .returning _ (ξ hst2 0) (ρ hst2 0)).mono ?_;rintro e u' w'' ⟨rfl,rfl,rfl⟩;exact⟨_,results_tmp rfl _ _ _,.nilIface,rfl,rfl,ω hst2 0 _,hK2.sc _,Wc,w1,W0.heap.size+1,hQ,hKc,by omega,by omega,hEw1,ho2.sc _⟩
 | some k=>
  have hk8:k≠8:=fun h=>HK8.out (by rw[h]);have HK:=zh hk8;clear hk8;refine (xR9 83 _ _ k _ (fun w1=>Q Wc w1∧Kp (St::X) Wc w1∧w1.heap[St]?=some (τ 1 s')) (zG8 _) ?_).mono ?_
  ·rw[←hWc];refine (show Calls _ _ _ _ _ from HA1.out).mono ?_;rintro e w1 ⟨rfl,hQ,hk,hst⟩;exact⟨rfl,⟨hQ,hk,hst⟩,hk.heap hEc (HNM.out _ (by omega)),hk.heap hCc (HNM.out _ (by omega))⟩
  rintro e w2 ⟨F,rfl,hF2,w1,⟨hQ,hk,hst⟩,hFs,hKc2⟩;have hs1:=hk.size;have hEw1:=hk.heap hEc (HNM.out _ (by omega));have hst2:w2.heap[St]?=some (τ 1 s'):=hKc2.ho hst;have hK2:Kp (St::X) w w2:=((hKc.mono (S':=St::X) (by simp)).trans hk (fun _ h _=>h)).trans hKc2 (by intro i hi hlt;simp at hi;omega);have ho2:Kp [St,W0.heap.size+1] w1 w2:=hKc2.mono (by simp);have HIS:Hid (Calls prog 84 #[.iface 180 (.pointer (some ⟨F,0,none⟩)),.iface 46 (.int .i64 8)] w2 fun e w'=>e=.returned (.bool false)∧w'=w2):=jC0 F _ k w2 HK.out hF2;have hFSt:St<F:=by have:=ζ hst;omega
  go_wp2_with (go_at_call 84;refine (show Calls _ _ _ _ _ from HIS.out).mono ?_;rintro e w' ⟨rfl,rfl⟩)
  refine leaves_cons (f:=82) (args:=#[.pointer (some ⟨St,0,none⟩)]) (by simp) (by simp[go_sem]) ?_;refine (unlock_deferred qY0 ⟨St,0,none⟩ .returning _ (ξ hst2 0) (ρ hst2 0)).mono ?_;rintro e u' w'' ⟨rfl,rfl,rfl⟩;exact⟨_,results_tmp rfl _ _ _,.iface 180 (.pointer (some ⟨F,0,none⟩)),rfl,⟨F,_,rfl,(qA7 (by omega) _ _).trans hF2⟩,ω hst2 0 _,hK2.sc _,Wc,w1,W0.heap.size+1,hQ,hKc,by omega,by omega,hEw1,ho2.sc _⟩
end Go.Proofs.YtdohpenfkdckiabGreatDoor
namespace Go.Proofs.YtdohpenfkdckiabGreatDoor
open Go.Proofs.Tryz
open Go.RowKit
theorem jH0(g F:Nat)(cap:Array Value)(p:HL)(r:Bool)(w:World)(hF:w.heap[F]?=some (.cells #[.func (.func g) #[] cap] 213))
  (hcf:∀ (args:Array Value) (W:World),Sem.run prog (callFunc g args) W=.ok (.enter g args) W)
  (hf:∀ W,Kp [] w W→Calls prog g (#[.agg #[.string p.key,.int .i64 p.b,.int .u64 p.s,.pointer p.ptr]]++cap) W fun e W'=>e=.returned (.bool r)∧Kp [] W W'):
  Calls prog 169 #[.agg #[.string p.key,.int .i64 p.b,.int .u64 p.s,.pointer p.ptr],.pointer (some ⟨F,0,none⟩)] w fun e w'=>e=.returned (.bool !r)∧Kp [] w w':=by
 have HF:=zh hf;clear hf;have hFs:=ζ hF;have f0:=ξ hF 0;simp only[zG,zH,zI] at f0;go_enter func169,ntmps169;go_wp2_with fail;refine (HF.out _ ((Kp.refl _ _).alloc _)).mono ?_;rintro e w1 ⟨rfl,hK1⟩;have hK1':Kp [] w w1:=((Kp.refl _ _).alloc _).tr hK1;go_wp2;go_ret;exact⟨rfl,hK1'⟩
theorem zW5(g:Nat)(cap:Array Value)(v:Value)(ps:List HL)(f:HL→Bool)(w:World)
  (hs:Slc w 81 4 v ps.length (qA5 ps)) (hn:ps.length≤1000000) (hdn:∀ i j (hi:i<ps.length) (hj:j<ps.length),i≤j→f ps[j]=true→f ps[i]=true)
  (hcf:∀ (args:Array Value) (W:World),Sem.run prog (callFunc g args) W=.ok (.enter g args) W)
  (hf:∀ W,Kp [] w W→∀ i (h:i<ps.length),Calls prog g (#[.agg #[.string ps[i].key,.int .i64 ps[i].b,.int .u64 ps[i].s,.pointer ps[i].ptr]]++cap) W fun e W'=>e=.returned (.bool (f ps[i]))∧Kp [] W W'):
  Calls prog 124 #[v,.func (.func g) #[] cap] w fun e w'=>e=.returned (.int .i64 (ps.findIdx (fun p=>!f p)-1:Nat))∧Kp [] w w':=by
 have hmf:=zM;have HF:=zh hf;have HU:=zh hdn;clear hf hdn;go_enter func124,ntmps124;go_wp2_with fail;have hF1:=μ w (.cells #[.func (.func g) #[] cap] 213);have hK1:Kp [] w (w.alloc (.cells #[.func (.func g) #[] cap] 213)):=(Kp.refl _ _).alloc _;refine (xW4 169 _ v ps (fun p=>!f p) _ (hs.keep0 hK1) hn ?_ ?_ ?_).mono ?_
 ·intro i j hi hj hij hp;by_cases e:f ps[j]=true
  ·rw[HU.out i j hi hj hij e] at hp;simp at hp
  ·simpa using e
 ·intro args W;simp[go_sem,func169]
 ·intro W hKW i hi;exact jH0 g w.heap.size cap ps[i] (f ps[i]) W (hKW.hp hF1) hcf (fun W' hK'=>HF.out W' ((hK1.tr hKW).tr hK') i hi)
 ·rintro e w2 ⟨rfl,hK2⟩;have hK2':=hK1.tr hK2;have hle:ps.findIdx (fun p=>!f p)≤ps.length:=List.findIdx_le_length;go_wp2
  all_goals
   go_ret;exact⟨qL1 (by omega),hK2'⟩
def υ(lvl:Int)(vp vl:Value):Obj:=.cells #[.int .i64 lvl,vp,vl] 152
theorem jS7(K:Nat)(k:ByteArray)(p:HL)(w:World)(hK:w.heap[K]?=some (.cells #[.string k] 9)):
  Calls prog 125 #[.agg #[.string p.key,.int .i64 p.b,.int .u64 p.s,.pointer p.ptr],.pointer (some ⟨K,0,none⟩)] w fun e w'=>e=.returned (.bool !kl k p.key)∧Kp [] w w':=by
 have hKs:=ζ hK;have k0:=ξ hK 0;simp only[zG,zH,zI] at k0;go_enter func125,ntmps125;go_wp2;go_ret;exact⟨by rw[←zV9];rfl,(Kp.refl _ _).alloc _⟩
def Rise(ls:List HL):Prop:=ls.Pairwise fun a b=>kl a.key b.key=true
theorem Rise.at{ls:List HL}(h:Rise ls){i j:Nat}(hi:i<ls.length)(hj:j<ls.length)(hij:i<j):kl ls[i].key ls[j].key=true:=
 List.pairwise_iff_getElem.1 h i j hi hj hij
theorem zM5(q:Nat)(lvl:Int)(vp vl:Value)(ls:List HL)(k:ByteArray)(w:World)(hq:w.heap[q]?=some (υ lvl vp vl))(hs:Slc w 81 4 vl ls.length (qA5 ls))(hn:ls.length≤1000000)(hr:Rise ls):
  Calls prog 88 #[.pointer (some ⟨q,0,none⟩),.string k] w fun e w'=>e=.returned (.int .i64 (ls.findIdx (fun l=>kl k l.key)-1:Nat))∧Kp [] w w':=by
 have hmf:=zM;have hqs:=ζ hq;have q2:=ξ hq 2;simp only[υ,zG,zH,zI] at q2;go_enter func88,ntmps88;go_wp2_with fail;have hK0:=μ w (.cells #[.string k] 9);have hK1:Kp [] w (w.alloc (.cells #[.string k] 9)):=(Kp.refl _ _).alloc _;refine (zW5 125 _ vl ls (fun l=>!kl k l.key) _ (hs.keep0 hK1) hn ?_ ?_ ?_).mono ?_
 ·intro i j hi hj hij hp;by_cases e:i=j
  ·subst e;exact hp
  ·have h1:=hr.at hi hj (by omega);have hp':kl k ls[j].key=false:=by simpa using hp
   by_cases e2:kl k ls[i].key=true
   ·rw[qN8 e2 h1] at hp';cases hp'
   ·simpa using e2
 ·intro args W;simp[go_sem,func125]
 ·intro W hKW i hi;exact jS7 w.heap.size k ls[i] W (hKW.hp hK0)
 ·rintro e w2 ⟨rfl,hK2⟩;have hK2':=hK1.tr hK2;go_wp2;go_ret;exact⟨by simp,hK2'⟩
theorem jQ0(K:Nat)(k:ByteArray)(p:KV)(w:World)(hK:w.heap[K]?=some (.cells #[.string k] 9)):
  Calls prog 127 #[.agg #[.string p.k,.string p.v],.pointer (some ⟨K,0,none⟩)] w fun e w'=>e=.returned (.bool !kl p.k k)∧Kp [] w w':=by
 have hKs:=ζ hK;have k0:=ξ hK 0;simp only[zG,zH,zI] at k0;go_enter func127,ntmps127;go_wp2;go_ret;exact⟨rfl,(Kp.refl _ _).alloc _⟩
theorem jQ1{ps:List KV}(hs:Sorted ps)(k:ByteArray):∀ i j (hi:i<ps.length) (hj:j<ps.length),i≤j→(!kl ps[i].k k)=true→(!kl ps[j].k k)=true:=by
 intro i j hi hj hij hp;by_cases e:i=j
 ·subst e;exact hp
 ·have h1:kl ps[i].k ps[j].k=true:=List.pairwise_iff_getElem.1 hs i j hi hj (by omega);by_cases e2:kl ps[j].k k=true
  ·rw[qN8 h1 e2] at hp;cases hp
  ·simpa using e2
theorem zE4(q:Nat)(lvl:Int)(vp vl:Value)(ps:List KV)(k:ByteArray)(w:World)(hq:w.heap[q]?=some (υ lvl vp vl))(hs:Slc w 158 2 vp ps.length (qA9 ps))(hn:ps.length≤1000000)(hr:Sorted ps):
  Calls prog 89 #[.pointer (some ⟨q,0,none⟩),.string k] w fun e w'=>e=.returned (.tuple #[.int .i64 (qC1 ps k),.bool (qG0 ps (qC1 ps k) k)])∧Kp [] w w':=by
 have hmf:=zM;have hqs:=ζ hq;have q1:=ξ hq 1;simp only[υ,zG,zH,zI] at q1;go_enter func89,ntmps89;go_wp2_with fail;have hK0:=μ w (.cells #[.string k] 9);have hK1:Kp [] w (w.alloc (.cells #[.string k] 9)):=(Kp.refl _ _).alloc _;refine (zT7 127 _ vp ps (fun p=>!kl p.k k) _ (hs.keep0 hK1) hn (jQ1 hr k) ?_ ?_).mono ?_
 ·intro args W;simp[go_sem,func127]
 ·intro W hKW i hi;exact jQ0 w.heap.size k ps[i] W (hKW.hp hK0)
 rintro e w2 ⟨rfl,hK2⟩;have hK2':=hK1.tr hK2;have hq2:=hK2'.hp hq;have hk2:=hK2.hp hK0;have hs2:=hs.keep0 hK2';have e:ps.findIdx (fun p=>!kl p.k k)=qC1 ps k:=rfl;rw[e];clear hK2 hK1 hK0 hs hq q1 hqs e;have hqs:=ζ hq2;have hks:=ζ hk2;have q1:=ξ hq2 1;simp only[υ,zG,zH,zI] at q1;have k0:=ξ hk2 0;simp only[zG,zH,zI] at k0;have hle:=zE3 ps k;obtain⟨i,hi0⟩:∃ i,qC1 ps k=i:=⟨_,rfl⟩;rw[hi0] at hle ⊢;by_cases hi:i<ps.length
 ·obtain⟨gb,off,cp,cur,fr,rfl,hcp,hrow,hcur⟩:=hs2.pair (by omega);obtain⟨c0,_⟩:=hcur i hi;have r0:=ξ hrow (off+i*2);rw[c0] at r0;have hgs:=ζ hrow;have hib:(i:Int)<(ps.length:Int):=by omega
  clear hcur hs2;go_wp2_with fail
  go_quiet (fail)
  go_wp2
  go_ret2
  refine⟨?_,hK2'.drewN _⟩;rw[hi0];simp[qG0,List.getElem?_eq_getElem hi,qS3]
 ·have hib:¬(i:Int)<(ps.length:Int):=by omega
  obtain⟨bs,cp,hv⟩:∃ bs cp,vp=.slice bs ps.length cp:=by
   rcases hs2.val with⟨h0,b,c,h1,_⟩|⟨g,off,cap,cur,fr,h1,_⟩
   ·rw[h0];exact⟨b,c,h1⟩
   ·exact⟨_,cap,h1⟩
  subst hv;go_wp2_with fail
  go_quiet (fail)
  go_wp2
  go_ret2
  refine⟨?_,hK2'.drewN _⟩;rw[hi0];have:qG0 ps i k=false:=by unfold qG0;rw[List.getElem?_eq_none (by omega)]
  rw[this];rfl
def ψ(l:HL):Nat:=11+l.key.size
theorem xH0(p:KV)(w:World)(hp:ν p≤1000):
  Calls prog 263 #[.agg #[.string p.k,.string p.v]] w fun e w'=>e=.returned (.int .i64 (ν p))∧Kp [] w w':=by
 unfold ν at hp;go_enter func263,ntmps263;go_wp2;go_ret;exact⟨qL1 (by unfold ν;omega),(Kp.refl _ _).alloc _⟩
theorem xG9(p:HL)(w:World)(hp:ψ p≤1000):
  Calls prog 257 #[.agg #[.string p.key,.int .i64 p.b,.int .u64 p.s,.pointer p.ptr]] w fun e w'=>e=.returned (.int .i64 (ψ p))∧Kp [] w w':=by
 unfold ψ at hp;go_enter func257,ntmps257;go_wp2;go_ret;exact⟨qL1 (by unfold ψ;omega),(Kp.refl _ _).alloc _⟩
theorem jJ0(p:KV)(w:World):
  Calls prog 262 #[.agg #[.string p.k,.string p.v]] w fun e w'=>e=.returned (.string p.k)∧Kp [] w w':=by
 go_enter func262,ntmps262;go_wp2;go_ret;exact⟨rfl,(Kp.refl _ _).alloc _⟩
theorem jI9(p:HL)(w:World):
  Calls prog 256 #[.agg #[.string p.key,.int .i64 p.b,.int .u64 p.s,.pointer p.ptr]] w fun e w'=>e=.returned (.string p.key)∧Kp [] w w':=by
 go_enter func256,ntmps256;go_wp2;go_ret;exact⟨rfl,(Kp.refl _ _).alloc _⟩
theorem qL9{α:Type}(f:α→Nat)(l:List α)(j:Nat)(h:j<l.length):meas f (l.take (j+1))=meas f (l.take j)+f l[j]:=by
 rw[List.take_succ_eq_append_getElem h,qF4,qE0,qC9];omega
theorem qN2{α:Type}(f:α→Nat)(l:List α)(j:Nat):meas f (l.take j)≤meas f l:=by
 have:=qP1 f l j;omega
theorem jJ3(v:Value)(ps:List KV)(w:World)(hs:Slc w 158 2 v ps.length (qA9 ps))(hn:ps.length≤1000000)(hz:∀ p∈ps,ν p≤1000)(hm:meas ν ps≤1000000):
  Calls prog 197 #[v] w fun e w'=>e=.returned (.int .i64 (meas ν ps))∧Kp [] w w':=by
 obtain⟨bs,cp,hv⟩:∃ bs cp,v=.slice bs ps.length cp:=by
  rcases hs.val with⟨h0,b,c,h1,_⟩|⟨g,off,cap,cur,fr,h1,_⟩
  ·rw[h0];exact⟨b,c,h1⟩
  ·exact⟨_,cap,h1⟩
 subst hv;have HS:=zh hs;have HZ:=zh hz;clear hs hz;go_enter func197,ntmps197;go_wp2
 go_loopw [3,8] (fun s i wr=>∃ (j:Nat),j≤ps.length∧i=.int .i64 j∧s=.int .i64 (meas ν (ps.take j):Nat)∧Kp [] w wr) (fun _ i _=>ps.length-(intOf i).toNat)
 case atStart=>exact⟨0,Nat.zero_le _,rfl,rfl,Kp.refl _ _⟩
 case round=>
  obtain⟨j,hj,rfl,rfl,hK⟩:=hrel;by_cases hlt:j<ps.length
  ·obtain⟨gb,off,cp',cur,fr,hv,hcp,hrow,hcur⟩:=HS.out.pair (by omega);obtain⟨c0,c1⟩:=hcur j hlt;simp only[Value.slice.injEq,true_and] at hv;obtain⟨rfl,rfl⟩:=hv;have hR:=hK.hp hrow;have a0:=ξ hR (off+j*2);rw[c0] at a0;have a1:=ξ hR (off+j*2+1);rw[c1] at a1;have hgs:=ζ hR;have hjb:(j:Int)<(ps.length:Int):=by omega
   have hz0:=HZ.out ps[j] (List.getElem_mem hlt);have hmt:=qN2 ν ps j;have HMS:Hid (meas ν (ps.take (j+1))=meas ν (ps.take j)+ν ps[j]):=qL9 ν ps j hlt;clear hcur;go_wp2_with fail;refine (xH0 ps[j] _ hz0).mono ?_;rintro e w1 ⟨rfl,hK1⟩;have hK1':Kp [] w w1:=((hK.alloc _)).tr hK1;go_wp2;refine⟨⟨j+1,by omega,by go_num,by rw[HMS.out];go_num,hK1'⟩,by simp[intOf];omega⟩
  ·have hjb:¬(j:Int)<(ps.length:Int):=by omega
   go_wp2;go_ret;exact⟨qL1 (by rw[List.take_of_length_le (by omega)]),hK⟩
theorem jJ2(v:Value)(ps:List HL)(w:World)(hs:Slc w 81 4 v ps.length (qA5 ps))(hn:ps.length≤1000000)(hz:∀ p∈ps,ψ p≤1000)(hm:meas ψ ps≤1000000):
  Calls prog 214 #[v] w fun e w'=>e=.returned (.int .i64 (meas ψ ps))∧Kp [] w w':=by
 obtain⟨bs,cp,hv⟩:∃ bs cp,v=.slice bs ps.length cp:=by
  rcases hs.val with⟨h0,b,c,h1,_⟩|⟨g,off,cap,cur,fr,h1,_⟩
  ·rw[h0];exact⟨b,c,h1⟩
  ·exact⟨_,cap,h1⟩
 subst hv;have HS:=zh hs;have HZ:=zh hz;clear hs hz;go_enter func214,ntmps214;go_wp2
 go_loopw [3,8] (fun s i wr=>∃ (j:Nat),j≤ps.length∧i=.int .i64 j∧s=.int .i64 (meas ψ (ps.take j):Nat)∧Kp [] w wr) (fun _ i _=>ps.length-(intOf i).toNat)
 case atStart=>exact⟨0,Nat.zero_le _,rfl,rfl,Kp.refl _ _⟩
 case round=>
  obtain⟨j,hj,rfl,rfl,hK⟩:=hrel;by_cases hlt:j<ps.length
  ·obtain⟨gb,off,cp',cur,fr,hv,hcp,hrow,hcur⟩:=HS.out.link (by omega);obtain⟨c0,c1,c2,c3⟩:=hcur j hlt;simp only[Value.slice.injEq,true_and] at hv;obtain⟨rfl,rfl⟩:=hv;have hR:=hK.hp hrow;have a0:=ξ hR (off+j*4);rw[c0] at a0;have a1:=ξ hR (off+j*4+1);rw[c1] at a1;have a2:=ξ hR (off+j*4+2);rw[c2] at a2;have a3:=ξ hR (off+j*4+3);rw[c3] at a3;have hgs:=ζ hR;have hjb:(j:Int)<(ps.length:Int):=by omega
   have hz0:=HZ.out ps[j] (List.getElem_mem hlt);have hmt:=qN2 ψ ps j;have HMS:Hid (meas ψ (ps.take (j+1))=meas ψ (ps.take j)+ψ ps[j]):=qL9 ψ ps j hlt;clear hcur;go_wp2_with fail;refine (xG9 ps[j] _ hz0).mono ?_;rintro e w1 ⟨rfl,hK1⟩;have hK1':Kp [] w w1:=((hK.alloc _)).tr hK1;go_wp2;refine⟨⟨j+1,by omega,by go_num,by rw[HMS.out];go_num,hK1'⟩,by simp[intOf];omega⟩
  ·have hjb:¬(j:Int)<(ps.length:Int):=by omega
   go_wp2;go_ret;exact⟨qL1 (by rw[List.take_of_length_le (by omega)]),hK⟩
theorem zH3{α:Type}(f:α→List Value)(sz:Nat)(hf:∀ x,(f x).length=sz):∀ (l:List α) (i:Nat),(l.take i).flatMap f=(l.flatMap f).take (i*sz)
 | [],i=>by simp
 | x::l,0=>by simp
 | x::l,i+1=>by
  rw[List.take_succ_cons,List.flatMap_cons,List.flatMap_cons,zH3 f sz hf l i,List.take_append];rw[List.take_of_length_le (l:=f x) (by rw[hf,Nat.succ_mul];omega),hf,show (i+1)*sz-sz=i*sz by rw[Nat.succ_mul];omega]
theorem zH2{α:Type}(f:α→List Value)(sz:Nat)(hf:∀ x,(f x).length=sz):∀ (l:List α) (i:Nat),(l.drop i).flatMap f=(l.flatMap f).drop (i*sz)
 | [],i=>by simp
 | x::l,0=>by simp
 | x::l,i+1=>by
  rw[List.drop_succ_cons,List.flatMap_cons,zH2 f sz hf l i,List.drop_append];rw[List.drop_of_length_le (l:=f x) (by rw[hf,Nat.succ_mul];omega),hf,show (i+1)*sz-sz=i*sz by rw[Nat.succ_mul];omega];simp
theorem xE8(ps:List KV)(i:Nat):qA9 (ps.take i)=(qA9 ps).take (i*2):=zH3 pcs 2 (fun _=>rfl) ps i
theorem xE7(ps:List KV)(i:Nat):qA9 (ps.drop i)=(qA9 ps).drop (i*2):=zH2 pcs 2 (fun _=>rfl) ps i
theorem zX6(ps:List HL)(i:Nat):qA5 (ps.take i)=(qA5 ps).take (i*4):=zH3 lcs 4 (fun _=>rfl) ps i
theorem zX4(ps:List HL)(i:Nat):qA5 (ps.drop i)=(qA5 ps).drop (i*4):=zH2 lcs 4 (fun _=>rfl) ps i
theorem qR6{w:World}{T:TypeId}{sz g off n:Nat}{cur:Array Value}{fr:Nat × Nat}{cs:List Value}(hrow:w.heap[g]?=some (.cells cur T fr))(hcur:∀ j u,cs[j]?=some u→cur[off+j]?=some u)(hl:cs.length=n*sz)(i m c:Nat)(him:i+m≤n)(hc:m≤c):
  Slc w T sz (.slice (some ⟨g,off+i*sz,none⟩) m c) m ((cs.drop (i*sz)).take (m*sz)):=by
 refine⟨?_,?_⟩
 ·rw[List.length_take,List.length_drop,hl,←Nat.mul_sub_right_distrib];have:=Nat.mul_le_mul_right sz (show m≤n-i by omega);omega
 ·by_cases h0:m=0
  ·subst h0;exact .inl ⟨rfl,_,_,rfl,by simp⟩
  ·refine .inr ⟨g,off+i*sz,c,cur,fr,rfl,by omega,hc,hrow,fun j u hu=>?_⟩;rw[List.getElem?_take] at hu;split at hu
   ·rw[List.getElem?_drop] at hu;rw[Nat.add_assoc];exact hcur _ _ hu
   ·cases hu
theorem zS1{α:Type}(f:α→Nat)(all:Nat)(l:List α)(j n:Nat)(h:j<l.length)(hn:2*n<all):qE9 f all (l.drop j) n=qE9 f all (l.drop (j+1)) (n+f l[j])+1:=by
 rw[List.drop_eq_getElem_cons h];simp[qE9,hn]
theorem zR9{α:Type}(f:α→Nat)(all:Nat)(l:List α)(n:Nat)(hn:¬2*n<all):qE9 f all l n=0:=by
 cases l with
 | nil=>rfl
 | cons x l=>simp[qE9,hn]
def qV9(w:World)(T:TypeId)(sz:Nat)(vs:List Value)(css:List (Nat × List Value)):Prop:=vs.length=css.length∧∀ i (h:i<css.length) (h':i<vs.length),Slc w T sz vs[i] css[i].1 css[i].2
theorem jA5(v:Value)(ps:List KV)(w:World)(hs:Slc w 158 2 v ps.length (qA9 ps))(hn:ps.length≤1000000)(hz:∀ p∈ps,ν p≤21)(hm:meas ν ps≤1000000):
  Calls prog 176 #[v] w fun e w'=>∃ g vs,e=.returned (.slice (some ⟨g,0,none⟩) (qB6 ν ps).length (qB6 ν ps).length)∧w'.heap[g]?=some (.cells vs.toArray 149)∧qV9 w 158 2 vs ((qB6 ν ps).map fun l=>(l.length,qA9 l))∧Kp [] w w':=by
 obtain⟨bs,cp,hv⟩:∃ bs cp,v=.slice bs ps.length cp:=by
  rcases hs.val with⟨h0,b,c,h1,_⟩|⟨g,off,cap,cur,fr,h1,_⟩
  ·rw[h0];exact⟨b,c,h1⟩
  ·exact⟨_,cap,h1⟩
 subst hv;have HS:=zh hs;have HZ:=zh hz;clear hs hz;go_enter func176,ntmps176;go_wp2_with fail;refine (jJ3 _ ps w HS.out hn (fun p hp=>Nat.le_trans (HZ.out p hp) (by omega)) hm).mono ?_;rintro e w1 ⟨rfl,hK1⟩;by_cases hfit:meas ν ps≤126
 ·have hb:((meas ν ps:Nat):Int)≤126:=by omega
  go_wp2;go_ret;have hK2:Kp [] w (w1.alloc (.cells #[.slice bs ps.length cp] 149)):=hK1.alloc _;have e:qB6 ν ps=[ps]:=by unfold qB6;rw[if_pos hfit]
  rw[e];refine⟨w1.heap.size,[.slice bs ps.length cp],rfl,μ _ _,⟨rfl,fun i h1 h2=>?_⟩,hK2⟩;have:i=0:=by simp at h1;omega
  subst this;exact HS.out
 ·have hb:¬((meas ν ps:Nat):Int)≤126:=by omega
  have hne:1≤ps.length:=by
   cases ps with
   | nil=>simp[meas] at hfit
   | cons x l=>simp
  obtain⟨gb,off,cp',cur,fr,hv,hcp,hrow,hcur⟩:=HS.out.pair hne;simp only[Value.slice.injEq,true_and] at hv;obtain⟨rfl,rfl⟩:=hv;go_wp2
  go_loopw [4,5] (fun s q wr=>∃ (j:Nat),j≤ps.length∧s=.int .i64 j∧q=.int .i64 (meas ν (ps.take j):Nat)∧qE9 ν (meas ν ps) ps 0=qE9 ν (meas ν ps) (ps.drop j) (meas ν (ps.take j))+j∧Kp [] w wr) (fun s _ _=>ps.length-(intOf s).toNat)
  case atStart=>exact⟨0,Nat.zero_le _,rfl,rfl,by simp[meas],hK1⟩
  case round=>
   obtain⟨j,hj,rfl,rfl,hcut,hK⟩:=hrel;have HC:=zh hcut;clear hcut;have hmt:=qN2 ν ps j;by_cases hgo:2*meas ν (ps.take j)<meas ν ps
   ·have hlt:j<ps.length:=by
     by_cases h:j<ps.length
     ·exact h
     ·rw[List.take_of_length_le (by omega)] at hgo;omega
    obtain⟨c0,c1⟩:=hcur j hlt;have hR:=hK.hp hrow;have a0:=ξ hR (off+j*2);rw[c0] at a0;have a1:=ξ hR (off+j*2+1);rw[c1] at a1;have hgs:=ζ hR;have hjb:(j:Int)<(ps.length:Int):=by omega
    have hgb:2*((meas ν (ps.take j):Nat):Int)<((meas ν ps:Nat):Int):=by omega
    have hz0:=HZ.out ps[j] (List.getElem_mem hlt);have HMS:Hid (meas ν (ps.take (j+1))=meas ν (ps.take j)+ν ps[j]):=qL9 ν ps j hlt;have HCN:Hid (qE9 ν (meas ν ps) (ps.drop j) (meas ν (ps.take j))=qE9 ν (meas ν ps) (ps.drop (j+1)) (meas ν (ps.take j)+ν ps[j])+1):=zS1 ν _ ps j _ hlt hgo;clear hcur;go_wp2_with fail;refine (xH0 ps[j] _ (by omega)).mono ?_;rintro e w2 ⟨rfl,hK2⟩;have hK2':Kp [] w w2:=hK.tr hK2;go_wp2;refine⟨⟨j+1,by omega,by go_num,by rw[HMS.out];go_num,?_,hK2'⟩,by simp[intOf];omega⟩;rw[HC.out,HCN.out,HMS.out];omega
   ·have hgb:¬2*((meas ν (ps.take j):Nat):Int)<((meas ν ps:Nat):Int):=by omega
    have hjc:qE9 ν (meas ν ps) ps 0=j:=by rw[HC.out,zR9 _ _ _ _ hgo];omega
    have HJ:=zh hjc;clear hjc;go_wp2_with fail;have hjl:j<ps.length:=by
     have hsp:=zA9 ν (meas ν ps) 21 ps 0 HZ.out (by omega) (by omega);rw[HJ.out] at hsp;by_cases h:j<ps.length
     ·exact h
     ·rw[List.take_of_length_le (by omega)] at hsp;omega
    have hjn:¬cp=j:=by omega
    have hji:(j:Int)≤(ps.length:Int):=by omega
    have hjc:(j:Int)≤(cp:Int):=by omega
    have hncp:(ps.length:Int)≤(cp:Int):=by omega
    refine wp_region_any (by kernel_rfl) ?_;change wpAny _ _ _ _ _ _ _ (World.drew _);refine zu 0 (.slice (some ⟨gb,off,none⟩) ps.length cp) ?_;refine zu 1 (.int .i64 j) ?_;refine zu 2 (.int .i64 j) ?_;refine zu 3 (.slice (some ⟨gb,off,none⟩) j j) ?_;refine zu 4 (.slice (some ⟨gb,off,none⟩) ps.length cp) ?_;refine zu 5 (.int .i64 j) ?_;refine zu 6 (.slice (some ⟨gb,off+j*2,none⟩) (ps.length-j) (cp-j)) ?_;have hK':=hK;refine zQ 7 fun K hK=>?_;go_simp;obtain⟨w2,hw2,hG2,hK2⟩:∃ w2,w2=(wr.alloc (.cells #[.slice (some ⟨gb,off,none⟩) j j,.slice (some ⟨gb,off+j*2,none⟩) (ps.length-j) (cp-j)] 149)).drew∧w2.heap[wr.heap.size]?=some (.cells #[.slice (some ⟨gb,off,none⟩) j j,.slice (some ⟨gb,off+j*2,none⟩) (ps.length-j) (cp-j)] 149)∧Kp [] w w2:=⟨_,rfl,μ _ _,(hK'.alloc _).drew⟩;rw[←hw2];clear hw2;refine hK _ _ ?_;clear hK K
    try simp only[zZ]
    refine zQ 8 fun K hK=>?_;go_simp;refine hK _ _ ?_;clear hK K;refine wpAny_done (by kernel_rfl) ?_ _;go_wp2;go_ret;have e:qB6 ν ps=[ps.take j,ps.drop j]:=by unfold qB6;rw[if_neg hfit,HJ.out]
    rw[e];obtain⟨hlen,hval⟩:=HS.out;have hcs:∀ k u,(qA9 ps)[k]?=some u→cur[off+k]?=some u:=by
     rcases hval with⟨h0,_⟩|⟨g',off',cap',cur',fr',h1,_,_,h4,h5⟩
     ·omega
     ·simp only[Value.slice.injEq,Option.some.injEq,Addr.mk.injEq] at h1;obtain⟨⟨rfl,rfl,_⟩,_,_⟩:=h1;rw[hrow] at h4;cases h4;exact h5
    refine⟨wr.heap.size,[.slice (some ⟨gb,off,none⟩) j j,.slice (some ⟨gb,off+j*2,none⟩) (ps.length-j) (cp-j)],rfl,hG2,⟨rfl,fun i h1 h2=>?_⟩,hK2⟩;have hi:i=0∨i=1:=by simp at h1;omega
    rcases hi with rfl|rfl
    ·have:=qR6 (T:=158) (sz:=2) hrow hcs hlen 0 j j (by omega) (Nat.le_refl _);simp only[Nat.zero_mul,Nat.add_zero,List.drop_zero] at this;rw[←xE8] at this;simpa [Nat.min_eq_left hj] using this
    ·have:=qR6 (T:=158) (sz:=2) hrow hcs hlen j (ps.length-j) (cp-j) (by omega) (by omega);rw[←xE7,List.take_of_length_le (by rw[zF6];simp)] at this;simpa using this
theorem jA4(v:Value)(ps:List HL)(w:World)(hs:Slc w 81 4 v ps.length (qA5 ps))(hn:ps.length≤1000000)(hz:∀ p∈ps,ψ p≤21)(hm:meas ψ ps≤1000000):
  Calls prog 194 #[v] w fun e w'=>∃ g vs,e=.returned (.slice (some ⟨g,0,none⟩) (qB6 ψ ps).length (qB6 ψ ps).length)∧w'.heap[g]?=some (.cells vs.toArray 150)∧qV9 w 81 4 vs ((qB6 ψ ps).map fun l=>(l.length,qA5 l))∧Kp [] w w':=by
 obtain⟨bs,cp,hv⟩:∃ bs cp,v=.slice bs ps.length cp:=by
  rcases hs.val with⟨h0,b,c,h1,_⟩|⟨g,off,cap,cur,fr,h1,_⟩
  ·rw[h0];exact⟨b,c,h1⟩
  ·exact⟨_,cap,h1⟩
 subst hv;have HS:=zh hs;have HZ:=zh hz;clear hs hz;go_enter func194,ntmps194;go_wp2_with fail;refine (jJ2 _ ps w HS.out hn (fun p hp=>Nat.le_trans (HZ.out p hp) (by omega)) hm).mono ?_;rintro e w1 ⟨rfl,hK1⟩;by_cases hfit:meas ψ ps≤126
 ·have hb:((meas ψ ps:Nat):Int)≤126:=by omega
  go_wp2;go_ret;have hK2:Kp [] w (w1.alloc (.cells #[.slice bs ps.length cp] 150)):=hK1.alloc _;have e:qB6 ψ ps=[ps]:=by unfold qB6;rw[if_pos hfit]
  rw[e];refine⟨w1.heap.size,[.slice bs ps.length cp],rfl,μ _ _,⟨rfl,fun i h1 h2=>?_⟩,hK2⟩;have:i=0:=by simp at h1;omega
  subst this;exact HS.out
 ·have hb:¬((meas ψ ps:Nat):Int)≤126:=by omega
  have hne:1≤ps.length:=by
   cases ps with
   | nil=>simp[meas] at hfit
   | cons x l=>simp
  obtain⟨gb,off,cp',cur,fr,hv,hcp,hrow,hcur⟩:=HS.out.link hne;simp only[Value.slice.injEq,true_and] at hv;obtain⟨rfl,rfl⟩:=hv;go_wp2
  go_loopw [4,5] (fun s q wr=>∃ (j:Nat),j≤ps.length∧s=.int .i64 j∧q=.int .i64 (meas ψ (ps.take j):Nat)∧qE9 ψ (meas ψ ps) ps 0=qE9 ψ (meas ψ ps) (ps.drop j) (meas ψ (ps.take j))+j∧Kp [] w wr) (fun s _ _=>ps.length-(intOf s).toNat)
  case atStart=>exact⟨0,Nat.zero_le _,rfl,rfl,by simp[meas],hK1⟩
  case round=>
   obtain⟨j,hj,rfl,rfl,hcut,hK⟩:=hrel;have HC:=zh hcut;clear hcut;have hmt:=qN2 ψ ps j;by_cases hgo:2*meas ψ (ps.take j)<meas ψ ps
   ·have hlt:j<ps.length:=by
     by_cases h:j<ps.length
     ·exact h
     ·rw[List.take_of_length_le (by omega)] at hgo;omega
    obtain⟨c0,c1,c2,c3⟩:=hcur j hlt;have hR:=hK.hp hrow;have a0:=ξ hR (off+j*4);rw[c0] at a0;have a1:=ξ hR (off+j*4+1);rw[c1] at a1;have a2:=ξ hR (off+j*4+2);rw[c2] at a2;have a3:=ξ hR (off+j*4+3);rw[c3] at a3;have hgs:=ζ hR;have hjb:(j:Int)<(ps.length:Int):=by omega
    have hgb:2*((meas ψ (ps.take j):Nat):Int)<((meas ψ ps:Nat):Int):=by omega
    have hz0:=HZ.out ps[j] (List.getElem_mem hlt);have HMS:Hid (meas ψ (ps.take (j+1))=meas ψ (ps.take j)+ψ ps[j]):=qL9 ψ ps j hlt;have HCN:Hid (qE9 ψ (meas ψ ps) (ps.drop j) (meas ψ (ps.take j))=qE9 ψ (meas ψ ps) (ps.drop (j+1)) (meas ψ (ps.take j)+ψ ps[j])+1):=zS1 ψ _ ps j _ hlt hgo;clear hcur;go_wp2_with fail;refine (xG9 ps[j] _ (by omega)).mono ?_;rintro e w2 ⟨rfl,hK2⟩;have hK2':Kp [] w w2:=hK.tr hK2;go_wp2;refine⟨⟨j+1,by omega,by go_num,by rw[HMS.out];go_num,?_,hK2'⟩,by simp[intOf];omega⟩;rw[HC.out,HCN.out,HMS.out];omega
   ·have hgb:¬2*((meas ψ (ps.take j):Nat):Int)<((meas ψ ps:Nat):Int):=by omega
    have hjc:qE9 ψ (meas ψ ps) ps 0=j:=by rw[HC.out,zR9 _ _ _ _ hgo];omega
    have HJ:=zh hjc;clear hjc;go_wp2_with fail;have hjl:j<ps.length:=by
     have hsp:=zA9 ψ (meas ψ ps) 21 ps 0 HZ.out (by omega) (by omega);rw[HJ.out] at hsp;by_cases h:j<ps.length
     ·exact h
     ·rw[List.take_of_length_le (by omega)] at hsp;omega
    have hjn:¬cp=j:=by omega
    have hji:(j:Int)≤(ps.length:Int):=by omega
    have hjc:(j:Int)≤(cp:Int):=by omega
    have hncp:(ps.length:Int)≤(cp:Int):=by omega
    refine wp_region_any (by kernel_rfl) ?_;change wpAny _ _ _ _ _ _ _ (World.drew _);refine zu 0 (.slice (some ⟨gb,off,none⟩) ps.length cp) ?_;refine zu 1 (.int .i64 j) ?_;refine zu 2 (.int .i64 j) ?_;refine zu 3 (.slice (some ⟨gb,off,none⟩) j j) ?_;refine zu 4 (.slice (some ⟨gb,off,none⟩) ps.length cp) ?_;refine zu 5 (.int .i64 j) ?_;refine zu 6 (.slice (some ⟨gb,off+j*4,none⟩) (ps.length-j) (cp-j)) ?_;have hK':=hK;refine zQ 7 fun K hK=>?_;go_simp;obtain⟨w2,hw2,hG2,hK2⟩:∃ w2,w2=(wr.alloc (.cells #[.slice (some ⟨gb,off,none⟩) j j,.slice (some ⟨gb,off+j*4,none⟩) (ps.length-j) (cp-j)] 150)).drew∧w2.heap[wr.heap.size]?=some (.cells #[.slice (some ⟨gb,off,none⟩) j j,.slice (some ⟨gb,off+j*4,none⟩) (ps.length-j) (cp-j)] 150)∧Kp [] w w2:=⟨_,rfl,μ _ _,(hK'.alloc _).drew⟩;rw[←hw2];clear hw2;refine hK _ _ ?_;clear hK K
    try simp only[zZ]
    refine zQ 8 fun K hK=>?_;go_simp;refine hK _ _ ?_;clear hK K;refine wpAny_done (by kernel_rfl) ?_ _;go_wp2;go_ret;have e:qB6 ψ ps=[ps.take j,ps.drop j]:=by unfold qB6;rw[if_neg hfit,HJ.out]
    rw[e];obtain⟨hlen,hval⟩:=HS.out;have hcs:∀ k u,(qA5 ps)[k]?=some u→cur[off+k]?=some u:=by
     rcases hval with⟨h0,_⟩|⟨g',off',cap',cur',fr',h1,_,_,h4,h5⟩
     ·omega
     ·simp only[Value.slice.injEq,Option.some.injEq,Addr.mk.injEq] at h1;obtain⟨⟨rfl,rfl,_⟩,_,_⟩:=h1;rw[hrow] at h4;cases h4;exact h5
    refine⟨wr.heap.size,[.slice (some ⟨gb,off,none⟩) j j,.slice (some ⟨gb,off+j*4,none⟩) (ps.length-j) (cp-j)],rfl,hG2,⟨rfl,fun i h1 h2=>?_⟩,hK2⟩;have hi:i=0∨i=1:=by simp at h1;omega
    rcases hi with rfl|rfl
    ·have:=qR6 (T:=81) (sz:=4) hrow hcs hlen 0 j j (by omega) (Nat.le_refl _);simp only[Nat.zero_mul,Nat.add_zero,List.drop_zero] at this;rw[←zX6] at this;simpa [Nat.min_eq_left hj] using this
    ·have:=qR6 (T:=81) (sz:=4) hrow hcs hlen j (ps.length-j) (cp-j) (by omega) (by omega);rw[←zX4,List.take_of_length_le (by rw[zJ2];simp)] at this;simpa using this
theorem qG3{w:World}{base:Nat}{T:TypeId}{sz:Nat}{v:Value}{n:Nat}{xs:List Value}(h:w.ownsRow base T sz v n xs):Slc w T sz v n xs:=by
 refine⟨h.1,?_⟩;rcases h.2 with⟨h1,h2⟩|⟨g,cap,cur,h1,h2,h3,h4,h5,h6,h7⟩
 ·exact .inl ⟨h2,_,_,h1,fun _=>rfl⟩
 ·by_cases h0:n=0
  ·subst h0;exact .inl ⟨rfl,_,_,h1,by simp⟩
  ·refine .inr ⟨g,0,cap,cur,(0,0),h1,by omega,h4,h3,fun j u hu=>?_⟩;rw[←h7,List.getElem?_take] at hu;split at hu
   ·simpa using hu
   ·cases hu
theorem Slc.form{w:World}{T:TypeId}{sz:Nat}{v:Value}{n:Nat}{cs:List Value}(h:Slc w T sz v n cs):∃ b m c,v=.slice b m c:=by
 rcases h.val with⟨_,b,c,h1,_⟩|⟨g,off,cap,cur,fr,h1,_⟩
 ·exact⟨b,0,c,h1⟩
 ·exact⟨_,_,cap,h1⟩
def qD8{α:Type}(low:α→ByteArray)(key:ByteArray):List (List α)→List (ByteArray × List α)
 | []=>[]
 | a::rest=>(key,a)::rest.map fun b=>((b.head?.map low).getD ⟨#[]⟩,b)
theorem qP7{α:Type}(low:α→ByteArray)(key:ByteArray)(l:List (List α)):(qD8 low key l).length=l.length:=by
 cases l<;>simp[qD8]
theorem zC3{α:Type}{low:α→ByteArray}{key:ByteArray}{l:List (List α)}{i:Nat}(h:i<l.length):(qD8 low key l)[i]?=some (if i=0 then key else (l[i].head?.map low).getD ⟨#[]⟩,l[i]):=by
 cases l with
 | nil=>simp at h
 | cons a r=>
  cases i with
  | zero=>simp[qD8]
  | succ i=>
   have h':i<r.length:=by simpa using h
   simp[qD8,List.getElem?_eq_getElem h']
def MkL{α:Type}(T:TypeId)(sz:Nat)(C:List α→List Value)(node:Value→Obj)(w0 w:World)(h:HL)(x:ByteArray × List α):Prop:=
 h.key=x.1∧h.b=0∧h.s=0∧∃ q v,h.p=some q∧w.heap[q]?=some (node v)∧Slc w0 T sz v x.2.length (C x.2)
theorem zB9{w w':World}{base:Nat}{T:TypeId}{sz:Nat}{v:Value}{n:Nat}{xs:List Value}{o:Obj}{k:Nat}{c:Array Value}{t:TypeId}{fr:Nat × Nat}(h:w.ownsRow base T sz v n xs)(hg:(w.alloc o).grownBy w' v.ownBlock)(hk:w.heap[k]?=some (.cells c t fr))(ht:t≠T):w'.heap[k]?=some (.cells c t fr):=by
 have hk':=θ o hk;refine (hg.block k (ζ hk') ?_).trans hk';intro e;rcases h.2 with⟨h1,_⟩|⟨g,cap,cur,h1,h2,h3,_⟩
 ·rw[h1] at e;cases e
 ·rw[h1] at e;have e:k=g:=by simpa [Value.ownBlock] using e
  rw[e,h3] at hk;cases hk;exact ht rfl
theorem MkL.grown{α:Type}{T:TypeId}{sz:Nat}{C:List α→List Value}{node:Value→Obj}{w0 w w':World}{h:HL}{x:ByteArray × List α}(hm:MkL T sz C node w0 w h x)(hn:∀ v,∃ c,node v=.cells c 152)(hg:∀ (k:Nat) (c:Array Value),w.heap[k]?=some (.cells c 152)→w'.heap[k]?=some (.cells c 152)):MkL T sz C node w0 w' h x:=by
 obtain⟨h1,h2,h3,q,v,h4,h5,h6⟩:=hm;obtain⟨c,hc⟩:=hn v;rw[hc] at h5;exact⟨h1,h2,h3,q,v,h4,by rw[hc];exact hg q c h5,h6⟩
theorem zD8{w w':World}{base:Nat}{T:TypeId}{sz:Nat}{v:Value}{n:Nat}{xs:List Value}(h:w.ownsRow base T sz v n xs)(hK:Kp [] w w'):w'.ownsRow base T sz v n xs:=by
 refine⟨h.1,?_⟩;rcases h.2 with h0|⟨g,cap,cur,h1,h2,h3,h4⟩
 ·exact .inl h0
 ·exact .inr ⟨g,cap,cur,h1,h2,hK.hp h3,h4⟩
theorem qQ6:(prog.info? 81).map (fun i=>(i.zero,i.size,i.bytes))=some (some (.agg #[.string ⟨#[]⟩,.int .i64 0,.int .u64 0,.pointer none]),4,40):=by kernel_rfl
theorem zH9:(prog.info? 158).map (fun i=>(i.zero,i.size,i.bytes))=some (some (.agg #[.string ⟨#[]⟩,.string ⟨#[]⟩]),2,32):=by kernel_rfl
theorem zX5(hs:List HL)(h:HL):qA5 (hs++[h])=qA5 hs++lcs h:=by simp[qA5]
theorem zA6{w:World}{cs:List Value}{T:TypeId}:∀ j u,cs[j]?=some u→(w.alloc (.cells cs.toArray T)).cell? ((⟨w.heap.size,0,none⟩:Addr).add j)=some u:=by
 intro j u hu;rw[qM1,Nat.zero_add,ξ (μ _ _)];simpa using hu
theorem xU1(g:Nat)(cap:Array Value)(node:Value→Obj)(key:ByteArray)(v:Value)(ps:List KV)(w:World)(hs:Slc w 158 2 v ps.length (qA9 ps))(hn:ps.length≤1000000)(hz:∀ p∈ps,ν p≤21)(hm:meas ν ps≤210)
  (hcf:∀ (args:Array Value) (W:World),Sem.run prog (callFunc g args) W=.ok (.enter g args) W) (hnode:∀ v,∃ c,node v=.cells c 152)
  (hmade:∀ W x,Kp [] w W→(∃ b n c,x=.slice b n c)→Calls prog g (#[x]++cap) W fun e W'=>∃ q,e=.returned (.pointer (some ⟨q,0,none⟩))∧W'.heap[q]?=some (node x)∧Kp [] W W'):
  Calls prog 133 #[.string key,v,.func (.func g) #[] cap] w fun e w'=>∃ v',e=.returned v'∧∃ hs,w'.ownsRow w.heap.size 81 4 v' (qB6 ν ps).length (qA5 hs)∧hs.length=(qB6 ν ps).length∧(∀ i (h:i<hs.length) (h':i<(qD8 KV.k key (qB6 ν ps)).length),MkL 158 2 qA9 node w w' hs[i] (qD8 KV.k key (qB6 ν ps))[i])∧Kp [] w w':=by
 obtain⟨i0,hi,hz0,hz1,hz2⟩:=info_parts qQ6;have HM:=zh hmade;have HNO:=zh hnode;have HL0:Hid (∀ l∈qB6 ν ps,(qB6 ν ps).length=1∨3≤l.length):=by
  rcases zC0 ν ps hz hm with⟨e,_⟩|⟨a,b,e,_,_,_,h1,h2⟩
  ·show ∀ l∈qB6 ν ps,_;rw[e];intro l _;exact .inl rfl
  ·show ∀ l∈qB6 ν ps,_;rw[e];intro l hl;simp only[List.mem_cons,List.not_mem_nil,or_false] at hl;rcases hl with rfl|rfl
   ·exact .inr h1
   ·exact .inr h2
 have hlen2:(qB6 ν ps).length≤2:=by unfold qB6;split<;>simp
 clear hmade hnode;go_enter func133,ntmps133;go_wp2_with fail;refine (jA5 v ps w hs hn hz (by omega)).mono ?_;rintro e w1 ⟨gh,vs,rfl,hH1,hS1,hK1⟩;obtain⟨hvl,hvs⟩:=hS1;obtain⟨hv,hhv⟩:∃ hv,qB6 ν ps=hv:=⟨_,rfl⟩;have HH:=zh hhv;rw[hhv] at hvl hvs hlen2 HL0 ⊢;clear hhv;rw[List.length_map] at hvl;have HVS:Hid (∀ i (h:i<hv.length) (h':i<vs.length),Slc w 158 2 vs[i] hv[i].length (qA9 hv[i])):=fun i h h'=>by
  have:=hvs i (by simpa using h) h';simpa using this
 clear hvs;have HK1:=zh hK1;have HB:=zh hK1.size;have H1:=zh hH1;clear hK1 hs hH1;go_wp2
 go_loopw [0,7,13] (fun k s i wr=>∃ (j:Nat) (hs:List HL) (k':ByteArray),j≤hv.length∧i=.int .i64 j∧k=.string k'∧(j=0→k'=key)∧hs.length=j∧wr.ownsRow w.heap.size 81 4 s j (qA5 hs)∧Hid (∀ i (h:i<hs.length) (h':i<(qD8 KV.k key hv).length),MkL 158 2 qA9 node w wr hs[i] (qD8 KV.k key hv)[i])∧Hid (Kp [] w wr)∧wr.heap[gh]?=some (.cells vs.toArray 149)) (fun _ _ i _=>hv.length-(intOf i).toNat)
 case atStart=>exact⟨0,[],key,Nat.zero_le _,rfl,rfl,fun _=>rfl,rfl,World.ownsRow_nil _ _ _ _,(fun i h=>by simp at h:∀ i (h:i<[].length) (h':i<(qD8 KV.k key hv).length),_),HK1.out,H1.out⟩
 case round=>
  obtain⟨j,hs,k',hj,rfl,rfl,hk',hsl,hown,hMk,hKw,hHr⟩:=hrel;by_cases hlt:j<hv.length
  ·have hjb:(j:Int)<(hv.length:Int):=by omega
   have hvj:=HVS.out j hlt (by omega);have h0:=ξ hHr j;rw[zG,List.getElem?_eq_getElem (show j<vs.length by omega)] at h0;have hghs:=ζ hHr;have hne:0<j→1≤hv[j].length:=fun h=>by
    rcases HL0.out hv[j] (List.getElem_mem hlt) with h1|h1<;>omega
   obtain⟨kj,hkj⟩:∃ kj,kj=if j=0 then key else (hv[j].head?.map KV.k).getD ⟨#[]⟩:=⟨_,rfl⟩
   have hKJ:(qD8 KV.k key hv)[j]?=some (kj,hv[j]):=by rw[zC3 hlt,hkj]
   obtain⟨vj,hvj0⟩:∃ vj,vs[j]=vj:=⟨_,rfl⟩;rw[hvj0] at hvj h0;have HSJ:=zh hvj;have HHR:=zh hHr;have HEND:Hid (∀ (W1 w2:World) (q:Nat) (s v1:Value) (o:Obj) (x:Int),x=(j:Int)+1→W1.heap[q]?=some (node vj)→Kp [] wr W1→W1.ownsRow w.heap.size 81 4 s j (qA5 hs)→w2.ownsRow w.heap.size 81 4 v1 (j+1) (qA5 hs++[.string kj,.int .i64 0,.int .u64 0,.pointer (some ⟨q,0,none⟩)])→(W1.alloc o).grownBy w2 s.ownBlock→
     ∃ (j':Nat) (hs':List HL) (k'':ByteArray),j'≤hv.length∧Value.int .i64 x=.int .i64 j'∧Value.string kj=.string k''∧(j'=0→k''=key)∧hs'.length=j'∧w2.ownsRow w.heap.size 81 4 v1 j' (qA5 hs')∧Hid (∀ i (h:i<hs'.length) (h':i<(qD8 KV.k key hv).length),MkL 158 2 qA9 node w w2 hs'[i] (qD8 KV.k key hv)[i])∧Hid (Kp [] w w2)∧w2.heap[gh]?=some (.cells vs.toArray 149)):=by
    show ∀ (W1 w2:World) (q:Nat) (s v1:Value) (o:Obj) (x:Int),_;intro W1 w2 q s v1 o x hx hq hKW hown1 hrow hg;have hgn:∀ (k:Nat) (c:Array Value),W1.heap[k]?=some (.cells c 152)→w2.heap[k]?=some (.cells c 152):=fun k c hk=>zB9 hown1 hg hk (by decide);obtain⟨cn,hcn⟩:=HNO.out vj;have hq2:w2.heap[q]?=some (node vj):=by rw[hcn];rw[hcn] at hq;exact hgn q cn hq
    have hMk2:∀ i (h:i<hs.length) (h':i<(qD8 KV.k key hv).length),MkL 158 2 qA9 node w w2 hs[i] (qD8 KV.k key hv)[i]:=fun i h h'=>
     (hMk.out i h h').grown HNO.out fun k c hk=>hgn k c (hKW.hp hk)
    refine⟨j+1,hs++[⟨kj,0,0,some q⟩],kj,by omega,by rw[hx];go_num,rfl,by omega,by simp[hsl],by rw[zX5];exact hrow,?_,((hKw.out.tr hKW).alloc o).grown hg (fun k hk=>Or.inr (qI3 hown1 k hk)),zB9 hown1 hg (hKW.hp HHR.out) (by decide)⟩;show ∀ i (h:i<(hs++[(⟨kj,0,0,some q⟩:HL)]).length) (h':i<(qD8 KV.k key hv).length),_;intro i h1 h';by_cases hi:i<hs.length
    ·rw[List.getElem_append_left hi];exact hMk2 i hi h'
    ·have hij:i=j:=by simp at h1;omega
     subst hij;have e:(qD8 KV.k key hv)[i]=(kj,hv[i]):=by
      rw[List.getElem?_eq_getElem h'] at hKJ;exact Option.some.inj hKJ
     rw[e,List.getElem_append_right (by omega)];simp only[hsl,Nat.sub_self,List.getElem_singleton];exact⟨rfl,rfl,rfl,q,vj,rfl,hq2,HSJ.out⟩
   clear hKJ hMk;by_cases hj0:j=0
   ·have hk1:k'=kj:=by rw[hkj,if_pos hj0];exact hk' hj0
    subst hk1;clear hkj hk' hvj0 hvj hne;subst hj0;go_wp2_with fail;refine (HM.out wr vj hKw.out HSJ.out.form).mono ?_;rintro e W1 ⟨q,rfl,hq1,hKW1⟩;have hownW:=zD8 hown hKW1;have hsz:w.heap.size≤W1.heap.size:=Nat.le_trans hKw.out.size hKW1.size;have HQ:=zh hq1;clear hq1
    go_wp2_with (at_builtin;refine wpList_append_own _ rfl _ _ 150 rfl w.heap.size 81 i0 _ 4 40 underlying150 hi hz0 hz1 hz2 rfl (by decide) _ _ _ rfl (hownW.alloc _) ⟨W1.heap.size,0,none⟩ 1 1 [.string k',.int .i64 0,.int .u64 0,.pointer (some ⟨q,0,none⟩)] rfl rfl zA6 (by simp[Value.oneCell']) (by unfold maxLen;omega) (by omega) (by simp;omega) ?_;intro v1 w2 hown2 hgrow2 _)
    exact⟨HEND.out W1 w2 q _ v1 _ 1 (by omega) HQ.out hKW1 hownW hown2 hgrow2,by simp[intOf];omega⟩
   ·have hjg:(0:Int)<(j:Int):=by omega
    obtain⟨gb,off',cp',cur,fr,rfl,hcp,hrow,hcur⟩:=hvj.pair (hne (by omega));obtain⟨c0,c1⟩:=hcur 0 (hne (by omega));have hR:=hKw.out.hp hrow;have a0:wr.cell? ⟨gb,off',none⟩=some _:=(ξ hR _).trans (by simpa using c0);have a1:wr.cell? ⟨gb,off'+1,none⟩=some _:=(ξ hR _).trans (by simpa using c1);have hkj1:kj=KV.k (hv[j][0]'(hne (by omega))):=by
     rw[hkj,if_neg hj0];rw[List.head?_eq_getElem?,List.getElem?_eq_getElem (hne (by omega))];rfl
    have hgs:=ζ hR;have hlj:(0:Int)<(hv[j].length:Int):=by have:=hne (by omega);omega
    have HKJ1:=zh hkj1;clear hkj hk' hvj0 hvj hcur hkj1;go_wp2_with fail;refine (jJ0 (hv[j][0]'(hne (by omega))) _).mono ?_;rintro e W0 ⟨rfl,hKW0⟩;rw[show (hv[j][0]'(hne (by omega))).k=kj from HKJ1.out.symm];go_wp2_with fail;refine (HM.out W0 _ (hKw.out.tr hKW0) ⟨_,_,_,rfl⟩).mono ?_;rintro e W1 ⟨q,rfl,hq1,hKW1⟩;have hKW01:Kp [] wr W1:=hKW0.tr hKW1;have hownW:=zD8 hown hKW01;have hsz:w.heap.size≤W1.heap.size:=Nat.le_trans hKw.out.size hKW01.size;have HQ:=zh hq1;clear hq1
    go_wp2_with (at_builtin;refine wpList_append_own _ rfl _ _ 150 rfl w.heap.size 81 i0 _ 4 40 underlying150 hi hz0 hz1 hz2 rfl (by decide) _ _ _ rfl (hownW.alloc _) ⟨W1.heap.size,0,none⟩ 1 1 [.string kj,.int .i64 0,.int .u64 0,.pointer (some ⟨q,0,none⟩)] rfl rfl zA6 (by simp[Value.oneCell']) (by unfold maxLen;omega) (by omega) (by simp;omega) ?_;intro v1 w2 hown2 hgrow2 _)
    exact⟨HEND.out W1 w2 q _ v1 _ _ rfl HQ.out hKW01 hownW hown2 hgrow2,by simp[intOf];omega⟩
  ·have hjb:¬(j:Int)<(hv.length:Int):=by omega
   go_wp2;go_ret;have e:j=hv.length:=by omega
   subst e;exact⟨_,rfl,hs,by rw[HH.out];exact hown,by rw[HH.out];exact hsl,by rw[HH.out];exact hMk.out,hKw.out⟩
theorem xU0(g:Nat)(cap:Array Value)(node:Value→Obj)(key:ByteArray)(v:Value)(ps:List HL)(w:World)(hs:Slc w 81 4 v ps.length (qA5 ps))(hn:ps.length≤1000000)(hz:∀ p∈ps,ψ p≤21)(hm:meas ψ ps≤210)
  (hcf:∀ (args:Array Value) (W:World),Sem.run prog (callFunc g args) W=.ok (.enter g args) W) (hnode:∀ v,∃ c,node v=.cells c 152)
  (hmade:∀ W x,Kp [] w W→(∃ b n c,x=.slice b n c)→Calls prog g (#[x]++cap) W fun e W'=>∃ q,e=.returned (.pointer (some ⟨q,0,none⟩))∧W'.heap[q]?=some (node x)∧Kp [] W W'):
  Calls prog 172 #[.string key,v,.func (.func g) #[] cap] w fun e w'=>∃ v',e=.returned v'∧∃ hs,w'.ownsRow w.heap.size 81 4 v' (qB6 ψ ps).length (qA5 hs)∧hs.length=(qB6 ψ ps).length∧(∀ i (h:i<hs.length) (h':i<(qD8 HL.key key (qB6 ψ ps)).length),MkL 81 4 qA5 node w w' hs[i] (qD8 HL.key key (qB6 ψ ps))[i])∧Kp [] w w':=by
 obtain⟨i0,hi,hz0,hz1,hz2⟩:=info_parts qQ6;have HM:=zh hmade;have HNO:=zh hnode;have HL0:Hid (∀ l∈qB6 ψ ps,(qB6 ψ ps).length=1∨3≤l.length):=by
  rcases zC0 ψ ps hz hm with⟨e,_⟩|⟨a,b,e,_,_,_,h1,h2⟩
  ·show ∀ l∈qB6 ψ ps,_;rw[e];intro l _;exact .inl rfl
  ·show ∀ l∈qB6 ψ ps,_;rw[e];intro l hl;simp only[List.mem_cons,List.not_mem_nil,or_false] at hl;rcases hl with rfl|rfl
   ·exact .inr h1
   ·exact .inr h2
 have hlen2:(qB6 ψ ps).length≤2:=by unfold qB6;split<;>simp
 clear hmade hnode;go_enter func172,ntmps172;go_wp2_with fail;refine (jA4 v ps w hs hn hz (by omega)).mono ?_;rintro e w1 ⟨gh,vs,rfl,hH1,hS1,hK1⟩;obtain⟨hvl,hvs⟩:=hS1;obtain⟨hv,hhv⟩:∃ hv,qB6 ψ ps=hv:=⟨_,rfl⟩;have HH:=zh hhv;rw[hhv] at hvl hvs hlen2 HL0 ⊢;clear hhv;rw[List.length_map] at hvl;have HVS:Hid (∀ i (h:i<hv.length) (h':i<vs.length),Slc w 81 4 vs[i] hv[i].length (qA5 hv[i])):=fun i h h'=>by
  have:=hvs i (by simpa using h) h';simpa using this
 clear hvs;have HK1:=zh hK1;have HB:=zh hK1.size;have H1:=zh hH1;clear hK1 hs hH1;go_wp2
 go_loopw [0,7,13] (fun k s i wr=>∃ (j:Nat) (hs:List HL) (k':ByteArray),j≤hv.length∧i=.int .i64 j∧k=.string k'∧(j=0→k'=key)∧hs.length=j∧wr.ownsRow w.heap.size 81 4 s j (qA5 hs)∧Hid (∀ i (h:i<hs.length) (h':i<(qD8 HL.key key hv).length),MkL 81 4 qA5 node w wr hs[i] (qD8 HL.key key hv)[i])∧Hid (Kp [] w wr)∧wr.heap[gh]?=some (.cells vs.toArray 150)) (fun _ _ i _=>hv.length-(intOf i).toNat)
 case atStart=>exact⟨0,[],key,Nat.zero_le _,rfl,rfl,fun _=>rfl,rfl,World.ownsRow_nil _ _ _ _,(fun i h=>by simp at h:∀ i (h:i<[].length) (h':i<(qD8 HL.key key hv).length),_),HK1.out,H1.out⟩
 case round=>
  obtain⟨j,hs,k',hj,rfl,rfl,hk',hsl,hown,hMk,hKw,hHr⟩:=hrel;by_cases hlt:j<hv.length
  ·have hjb:(j:Int)<(hv.length:Int):=by omega
   have hvj:=HVS.out j hlt (by omega);have h0:=ξ hHr j;rw[zG,List.getElem?_eq_getElem (show j<vs.length by omega)] at h0;have hghs:=ζ hHr;have hne:0<j→1≤hv[j].length:=fun h=>by
    rcases HL0.out hv[j] (List.getElem_mem hlt) with h1|h1<;>omega
   obtain⟨kj,hkj⟩:∃ kj,kj=if j=0 then key else (hv[j].head?.map HL.key).getD ⟨#[]⟩:=⟨_,rfl⟩
   have hKJ:(qD8 HL.key key hv)[j]?=some (kj,hv[j]):=by rw[zC3 hlt,hkj]
   obtain⟨vj,hvj0⟩:∃ vj,vs[j]=vj:=⟨_,rfl⟩;rw[hvj0] at hvj h0;have HSJ:=zh hvj;have HHR:=zh hHr;have HEND:Hid (∀ (W1 w2:World) (q:Nat) (s v1:Value) (o:Obj) (x:Int),x=(j:Int)+1→W1.heap[q]?=some (node vj)→Kp [] wr W1→W1.ownsRow w.heap.size 81 4 s j (qA5 hs)→w2.ownsRow w.heap.size 81 4 v1 (j+1) (qA5 hs++[.string kj,.int .i64 0,.int .u64 0,.pointer (some ⟨q,0,none⟩)])→(W1.alloc o).grownBy w2 s.ownBlock→
     ∃ (j':Nat) (hs':List HL) (k'':ByteArray),j'≤hv.length∧Value.int .i64 x=.int .i64 j'∧Value.string kj=.string k''∧(j'=0→k''=key)∧hs'.length=j'∧w2.ownsRow w.heap.size 81 4 v1 j' (qA5 hs')∧Hid (∀ i (h:i<hs'.length) (h':i<(qD8 HL.key key hv).length),MkL 81 4 qA5 node w w2 hs'[i] (qD8 HL.key key hv)[i])∧Hid (Kp [] w w2)∧w2.heap[gh]?=some (.cells vs.toArray 150)):=by
    show ∀ (W1 w2:World) (q:Nat) (s v1:Value) (o:Obj) (x:Int),_;intro W1 w2 q s v1 o x hx hq hKW hown1 hrow hg;have hgn:∀ (k:Nat) (c:Array Value),W1.heap[k]?=some (.cells c 152)→w2.heap[k]?=some (.cells c 152):=fun k c hk=>zB9 hown1 hg hk (by decide);obtain⟨cn,hcn⟩:=HNO.out vj;have hq2:w2.heap[q]?=some (node vj):=by rw[hcn];rw[hcn] at hq;exact hgn q cn hq
    have hMk2:∀ i (h:i<hs.length) (h':i<(qD8 HL.key key hv).length),MkL 81 4 qA5 node w w2 hs[i] (qD8 HL.key key hv)[i]:=fun i h h'=>
     (hMk.out i h h').grown HNO.out fun k c hk=>hgn k c (hKW.hp hk)
    refine⟨j+1,hs++[⟨kj,0,0,some q⟩],kj,by omega,by rw[hx];go_num,rfl,by omega,by simp[hsl],by rw[zX5];exact hrow,?_,((hKw.out.tr hKW).alloc o).grown hg (fun k hk=>Or.inr (qI3 hown1 k hk)),zB9 hown1 hg (hKW.hp HHR.out) (by decide)⟩;show ∀ i (h:i<(hs++[(⟨kj,0,0,some q⟩:HL)]).length) (h':i<(qD8 HL.key key hv).length),_;intro i h1 h';by_cases hi:i<hs.length
    ·rw[List.getElem_append_left hi];exact hMk2 i hi h'
    ·have hij:i=j:=by simp at h1;omega
     subst hij;have e:(qD8 HL.key key hv)[i]=(kj,hv[i]):=by
      rw[List.getElem?_eq_getElem h'] at hKJ;exact Option.some.inj hKJ
     rw[e,List.getElem_append_right (by omega)];simp only[hsl,Nat.sub_self,List.getElem_singleton];exact⟨rfl,rfl,rfl,q,vj,rfl,hq2,HSJ.out⟩
   clear hKJ hMk;by_cases hj0:j=0
   ·have hk1:k'=kj:=by rw[hkj,if_pos hj0];exact hk' hj0
    subst hk1;clear hkj hk' hvj0 hvj hne;subst hj0;go_wp2_with fail;refine (HM.out wr vj hKw.out HSJ.out.form).mono ?_;rintro e W1 ⟨q,rfl,hq1,hKW1⟩;have hownW:=zD8 hown hKW1;have hsz:w.heap.size≤W1.heap.size:=Nat.le_trans hKw.out.size hKW1.size;have HQ:=zh hq1;clear hq1
    go_wp2_with (at_builtin;refine wpList_append_own _ rfl _ _ 150 rfl w.heap.size 81 i0 _ 4 40 underlying150 hi hz0 hz1 hz2 rfl (by decide) _ _ _ rfl (hownW.alloc _) ⟨W1.heap.size,0,none⟩ 1 1 [.string k',.int .i64 0,.int .u64 0,.pointer (some ⟨q,0,none⟩)] rfl rfl zA6 (by simp[Value.oneCell']) (by unfold maxLen;omega) (by omega) (by simp;omega) ?_;intro v1 w2 hown2 hgrow2 _)
    exact⟨HEND.out W1 w2 q _ v1 _ 1 (by omega) HQ.out hKW1 hownW hown2 hgrow2,by simp[intOf];omega⟩
   ·have hjg:(0:Int)<(j:Int):=by omega
    obtain⟨gb,off',cp',cur,fr,rfl,hcp,hrow,hcur⟩:=hvj.link (hne (by omega));obtain⟨c0,c1,c2,c3⟩:=hcur 0 (hne (by omega));have hR:=hKw.out.hp hrow;have a0:wr.cell? ⟨gb,off',none⟩=some _:=(ξ hR _).trans (by simpa using c0);have a1:wr.cell? ⟨gb,off'+1,none⟩=some _:=(ξ hR _).trans (by simpa using c1);have a2:wr.cell? ⟨gb,off'+2,none⟩=some _:=(ξ hR _).trans (by simpa using c2);have a3:wr.cell? ⟨gb,off'+3,none⟩=some _:=(ξ hR _).trans (by simpa using c3);have hkj1:kj=HL.key (hv[j][0]'(hne (by omega))):=by
     rw[hkj,if_neg hj0];rw[List.head?_eq_getElem?,List.getElem?_eq_getElem (hne (by omega))];rfl
    have hgs:=ζ hR;have hlj:(0:Int)<(hv[j].length:Int):=by have:=hne (by omega);omega
    have HKJ1:=zh hkj1;clear hkj hk' hvj0 hvj hcur hkj1;go_wp2_with fail;refine (jI9 (hv[j][0]'(hne (by omega))) _).mono ?_;rintro e W0 ⟨rfl,hKW0⟩;rw[show (hv[j][0]'(hne (by omega))).key=kj from HKJ1.out.symm];go_wp2_with fail;refine (HM.out W0 _ (hKw.out.tr hKW0) ⟨_,_,_,rfl⟩).mono ?_;rintro e W1 ⟨q,rfl,hq1,hKW1⟩;have hKW01:Kp [] wr W1:=hKW0.tr hKW1;have hownW:=zD8 hown hKW01;have hsz:w.heap.size≤W1.heap.size:=Nat.le_trans hKw.out.size hKW01.size;have HQ:=zh hq1;clear hq1
    go_wp2_with (at_builtin;refine wpList_append_own _ rfl _ _ 150 rfl w.heap.size 81 i0 _ 4 40 underlying150 hi hz0 hz1 hz2 rfl (by decide) _ _ _ rfl (hownW.alloc _) ⟨W1.heap.size,0,none⟩ 1 1 [.string kj,.int .i64 0,.int .u64 0,.pointer (some ⟨q,0,none⟩)] rfl rfl zA6 (by simp[Value.oneCell']) (by unfold maxLen;omega) (by omega) (by simp;omega) ?_;intro v1 w2 hown2 hgrow2 _)
    exact⟨HEND.out W1 w2 q _ v1 _ _ rfl HQ.out hKW01 hownW hown2 hgrow2,by simp[intOf];omega⟩
  ·have hjb:¬(j:Int)<(hv.length:Int):=by omega
   go_wp2;go_ret;have e:j=hv.length:=by omega
   subst e;exact⟨_,rfl,hs,by rw[HH.out];exact hown,by rw[HH.out];exact hsl,by rw[HH.out];exact hMk.out,hKw.out⟩
def Both{α β:Type}(R:α→β→Prop)(a:List α)(b:List β):Prop:=a.length=b.length∧∀ i (h:i<a.length) (h':i<b.length),R a[i] b[i]
theorem Both.mono{α β:Type}{R R':α→β→Prop}{a:List α}{b:List β}(h:Both R a b)(hr:∀ x y,R x y→R' x y):Both R' a b:=⟨h.1,fun i h1 h2=>hr _ _ (h.2 i h1 h2)⟩
theorem Both.take{α β:Type}{R:α→β→Prop}{a:List α}{b:List β}(h:Both R a b)(k:Nat):Both R (a.take k) (b.take k):=
 ⟨by simp[h.1],fun i h1 h2=>by simp only[List.getElem_take];exact h.2 i (by simp at h1;omega) (by simp at h2;omega)⟩
theorem Both.drop{α β:Type}{R:α→β→Prop}{a:List α}{b:List β}(h:Both R a b)(k:Nat):Both R (a.drop k) (b.drop k):=
 ⟨by simp[h.1],fun i h1 h2=>by simp only[List.getElem_drop];exact h.2 _ (by simp at h1;omega) (by simp at h2;omega)⟩
theorem Both.append{α β:Type}{R:α→β→Prop}{a a':List α}{b b':List β}(h:Both R a b)(h':Both R a' b'):Both R (a++a') (b++b'):=
 ⟨by simp[h.1,h'.1],fun i h1 h2=>by
  have hl:=h.1;by_cases hi:i<a.length
  ·rw[List.getElem_append_left hi,List.getElem_append_left (by omega)];exact h.2 i hi (by omega)
  ·rw[List.getElem_append_right (by omega),List.getElem_append_right (by omega)];simp only[hl];exact h'.2 _ (by simp at h1;omega) (by simp at h2;omega)⟩
theorem Both.map_eq{α β γ:Type}{R:α→β→Prop}{a:List α}{b:List β}{f:α→γ}{g:β→γ}(h:Both R a b)(hr:∀ x y,R x y→f x=g y):a.map f=b.map g:=by
 refine List.ext_getElem (by simp[h.1]) fun i h1 h2=>?_;simp only[List.getElem_map];exact hr _ _ (h.2 i (by simpa using h1) (by simpa using h2))
def RLof{X:Type}(N:Nat→X→Prop)(O:Nat→Int→X→Prop)(h:HL)(l:Lnk X):Prop:=
 h.key=l.key∧match l.ref with
  | none=>h.b=0∧h.s=0∧∃ q,h.p=some q∧N q l.sub
  | some (b,s)=>h.b=b∧h.s=s∧h.p=none∧O b s l.sub
def zO5{X:Type}(N:Nat→X→Prop)(O:Nat→Int→X→Prop)(w:World)(v:Value)(ls:List (Lnk X)):Prop:=
 ∃ hs:List HL,Slc w 81 4 v hs.length (qA5 hs)∧Both (RLof N O) hs ls
abbrev qF0:Type:=(n:Nat)→Nat→Int→Tn n→Prop
def RN(O:qF0):(n:Nat)→World→Nat→Tn n→Prop
 | 0,w,q,t=>∃ vp,w.heap[q]?=some (υ 0 vp (.slice none 0 0))∧Slc w 158 2 vp (prs t).length (qA9 (prs t))
 | n+1,w,q,t=>∃ vl,w.heap[q]?=some (υ ((n+1:Nat):Int) (.slice none 0 0) vl)∧zO5 (RN O n w) (O n) w vl (η t)
abbrev RL(O:qF0)(n:Nat)(w:World)(h:HL)(l:Lnk (Tn n)):Prop:=RLof (RN O n w) (O n) h l
abbrev RLs(O:qF0)(n:Nat)(w:World)(v:Value)(ls:List (Lnk (Tn n))):Prop:=zO5 (RN O n w) (O n) w v ls
theorem RLof.mono{X:Type}{N N':Nat→X→Prop}{O O':Nat→Int→X→Prop}{h:HL}{l:Lnk X}(hr:RLof N O h l)(hN:∀ q,N q l.sub→N' q l.sub)(hO:∀ b s,O b s l.sub→O' b s l.sub):RLof N' O' h l:=by
 refine⟨hr.1,?_⟩;have:=hr.2
 cases hl:l.ref with
 | none=>
  rw[hl] at this;obtain⟨h1,h2,q,h3,h4⟩:=this;exact⟨h1,h2,q,h3,hN q h4⟩
 | some x=>
  rw[hl] at this;obtain⟨h1,h2,h3,h4⟩:=this;exact⟨h1,h2,h3,hO _ _ h4⟩
def qF9:List TypeId:=[152,158,81]
theorem Apt.sub{w:World}{S:List Nat}{Ts Ts':List TypeId}(h:Apt w S Ts)(hs:∀ t∈Ts',t∈Ts):Apt w S Ts':=fun k hk c t fr e hm=>h k hk c t fr e (hs t hm)
theorem RN.keep{O:qF0}{S:List Nat}{w w':World}(hK:Kp S w w')(hS:Apt w S qF9):∀ (n:Nat) (q:Nat) (t:Tn n),RN O n w q t→RN O n w' q t
 | 0,q,t,h=>by
  obtain⟨vp,h1,h2⟩:=h;exact⟨vp,hK.heap h1 (fun hm=>hS q hm _ _ _ h1 (by decide)),h2.keep hK (hS.sub (by decide))⟩
 | n+1,q,t,h=>by
  obtain⟨vl,h1,hs,h2,h3⟩:=h;exact⟨vl,hK.heap h1 (fun hm=>hS q hm _ _ _ h1 (by decide)),hs,h2.keep hK (hS.sub (by decide)),h3.mono fun x y hr=>hr.mono (fun q hq=>RN.keep hK hS n q _ hq) (fun _ _ h=>h)⟩
theorem RLs.keep{O:qF0}{S:List Nat}{w w':World}{n:Nat}{v:Value}{ls:List (Lnk (Tn n))}(h:RLs O n w v ls)(hK:Kp S w w')(hS:Apt w S qF9):RLs O n w' v ls:=by
 obtain⟨hs,h2,h3⟩:=h;exact⟨hs,h2.keep hK (hS.sub (by decide)),h3.mono fun x y hr=>hr.mono (fun q hq=>RN.keep hK hS n q _ hq) (fun _ _ h=>h)⟩
theorem RL.keep{O:qF0}{S:List Nat}{w w':World}{n:Nat}{h:HL}{l:Lnk (Tn n)}(hr:RL O n w h l)(hK:Kp S w w')(hS:Apt w S qF9):RL O n w' h l:=hr.mono (fun q hq=>RN.keep hK hS n q _ hq) (fun _ _ h=>h)
theorem zY6{α:Type}(low:α→ByteArray)(key:ByteArray)(l:List (List α)):links low key l=(qD8 low key l).map fun x=>⟨x.1,none,x.2⟩:=by
 cases l<;>simp[links,qD8]
theorem jH9(x:Value)(w:World)(hx:∃ b n c,x=.slice b n c):
  Calls prog 134 #[x] w fun e w'=>∃ q,e=.returned (.pointer (some ⟨q,0,none⟩))∧w'.heap[q]?=some (υ 0 x (.slice none 0 0))∧Kp [] w w':=by
 obtain⟨b,n,c,rfl⟩:=hx;go_enter func134,ntmps134;go_wp2;go_ret;exact⟨w.heap.size,rfl,μ _ _,(Kp.refl _ _).alloc _⟩
theorem xR2(x:Value)(L:Nat)(lvl:Int)(w:World)(hx:∃ b n c,x=.slice b n c)(hL:w.heap[L]?=some (.cells #[.int .i64 lvl] 3)):
  Calls prog 173 #[x,.pointer (some ⟨L,0,none⟩)] w fun e w'=>∃ q,e=.returned (.pointer (some ⟨q,0,none⟩))∧w'.heap[q]?=some (υ lvl (.slice none 0 0) x)∧Kp [] w w':=by
 obtain⟨b,n,c,rfl⟩:=hx;have hLs:=ζ hL;have l0:=ξ hL 0;simp only[zG,zH,zI] at l0;go_enter func173,ntmps173;go_wp2;go_ret;exact⟨w.heap.size,rfl,μ _ _,(Kp.refl _ _).alloc _⟩
theorem qS9(O:qF0)(key:ByteArray)(v:Value)(ps:List KV)(w:World)(hs:Slc w 158 2 v ps.length (qA9 ps))(hn:ps.length≤1000000)(hz:∀ p∈ps,ν p≤21)(hm:meas ν ps≤210):
  Calls prog 93 #[.string key,v] w fun e w'=>∃ v',e=.returned v'∧RLs O 0 w' v' (qE1 key ps)∧Kp [] w w':=by
 have HC:Hid (∀ (args:Array Value) (W:World),Sem.run prog (callFunc 134 args) W=.ok (.enter 134 args) W):=fun args W=>by simp[go_sem,func134]
 go_enter func93,ntmps93;go_wp2_with fail;refine (xU1 134 #[] (fun x=>υ 0 x (.slice none 0 0)) key v ps w hs hn hz hm HC.out (fun v=>⟨_,rfl⟩) (fun W x _ hx=>jH9 x W hx)).mono ?_;rintro e w1 ⟨v',rfl,hs1,hown,hlen,hMk,hK1⟩;go_wp2;go_ret;refine⟨v',rfl,⟨hs1,by rw[hlen];exact qG3 hown,?_⟩,hK1⟩;have e:qE1 key ps=(qD8 KV.k key (qB6 ν ps)).map fun x=>(⟨x.1,none,x.2⟩:Lnk (Tn 0)):=zY6 _ _ _;refine⟨by rw[hlen,e,List.length_map,qP7],fun i h1 h2=>?_⟩;have h3:i<(qD8 KV.k key (qB6 ν ps)).length:=by rw[qP7];omega
 obtain⟨k1,k2,k3,q,x,k4,k5,k6⟩:=hMk i h1 h3;have e2:(qE1 key ps)[i]=(⟨(qD8 KV.k key (qB6 ν ps))[i].1,none,(qD8 KV.k key (qB6 ν ps))[i].2⟩:Lnk (Tn 0)):=by
  simp only[e];exact List.getElem_map _
 rw[e2];exact⟨k1,k2,k3,q,k4,x,k5,k6.keep0 hK1⟩
theorem zS0{α β:Type}{f:α→Nat}{g:β→Nat}(all:Nat):∀ (a:List α) (b:List β) (n:Nat),a.map f=b.map g→qE9 f all a n=qE9 g all b n
 | [],[],_,_=>rfl
 | [],_::_,_,h=>by simp at h
 | _::_,[],_,h=>by simp at h
 | x::a,y::b,n,h=>by
  simp only[List.map_cons,List.cons.injEq] at h;unfold qE9;rw[h.1,zS0 all a b _ h.2]
theorem zZ1{α β:Type}{f:α→Nat}{g:β→Nat}{a:List α}{b:List β}(h:a.map f=b.map g):meas f a=meas g b:=by unfold meas;rw[h]
theorem xQ9{O:qF0}{n:Nat}{w:World}{hs:List HL}{ls:List (Lnk (Tn n))}(h:Both (RL O n w) hs ls):Both (Both (RL O n w)) (qB6 ψ hs) (qB6 qA3 ls):=by
 have e:hs.map ψ=ls.map qA3:=h.map_eq fun x y hr=>by unfold ψ qA3;rw[hr.1]
 have e1:=zZ1 e;have e2:qE9 ψ (meas ψ hs) hs 0=qE9 qA3 (meas qA3 ls) ls 0:=by rw[e1];exact zS0 _ _ _ _ e
 unfold qB6;rw[e2,e1];split
 ·exact⟨rfl,fun i h1 h2=>by
   have:i=0:=by simp at h1;omega
   subst this;exact h⟩
 ·refine⟨rfl,fun i h1 h2=>?_⟩;have:i=0∨i=1:=by simp at h1;omega
  rcases this with rfl|rfl
  ·exact h.take _
  ·exact h.drop _
theorem xR0{O:qF0}{n:Nat}{w:World}{hv:List (List HL)}{lv:List (List (Lnk (Tn n)))}(h:Both (Both (RL O n w)) hv lv)(key:ByteArray):Both (fun x y=>x.1=y.1∧Both (RL O n w) x.2 y.2) (qD8 HL.key key hv) (qD8 Lnk.key key lv):=by
 refine⟨by rw[qP7,qP7,h.1],fun i h1 h2=>?_⟩;rw[qP7] at h1 h2;have e1:=zC3 (low:=HL.key) (key:=key) h1;have e2:=zC3 (low:=Lnk.key) (key:=key) h2;rw[List.getElem?_eq_getElem (by rw[qP7];exact h1)] at e1;rw[List.getElem?_eq_getElem (by rw[qP7];exact h2)] at e2;rw[Option.some.inj e1,Option.some.inj e2];have hb:=h.2 i h1 h2;refine⟨?_,hb⟩;have hm:=hb.map_eq (f:=HL.key) (g:=Lnk.key) fun x y hr=>hr.1;have hh:(hv[i].head?.map HL.key)=(lv[i].head?.map Lnk.key):=by rw[←List.head?_map,←List.head?_map,hm]
 simp only[hh]
theorem qU1(O:qF0)(n:Nat)(lvl:Int)(hlvl:lvl=((n+1:Nat):Int))(key:ByteArray)(v:Value)(ls:List (Lnk (Tn n)))(w:World)(hr:RLs O n w v ls)(hn:ls.length≤1000000)(hz:∀ l∈ls,qA3 l≤21)(hm:meas qA3 ls≤210):
  Calls prog 128 #[.string key,.int .i64 lvl,v] w fun e w'=>∃ v',e=.returned v'∧RLs O (n+1) w' v' (qD7 n key ls)∧Kp [] w w':=by
 have hmf:=zM;have HC:Hid (∀ (args:Array Value) (W:World),Sem.run prog (callFunc 173 args) W=.ok (.enter 173 args) W):=fun args W=>by simp[go_sem,func173]
 obtain⟨hs,hsl,hb⟩:=hr;have hmap:hs.map ψ=ls.map qA3:=hb.map_eq fun x y hr=>by unfold ψ qA3;rw[hr.1]
 have hz':∀ h∈hs,ψ h≤21:=fun h hh=>by
  have:ψ h∈hs.map ψ:=List.mem_map_of_mem hh;rw[hmap] at this;obtain⟨l,hl,e⟩:=List.mem_map.1 this;rw[←e];exact hz l hl
 have HB:=zh hb;have hml:meas ψ hs≤210:=by rw[zZ1 hmap];exact hm
 have hnl:hs.length≤1000000:=by rw[hb.1];exact hn
 clear hb hmap;have HV:=zh hlvl;clear hlvl;go_enter func128,ntmps128;go_wp2_with fail;have hL0:=μ w (.cells #[.int .i64 lvl] 3);have hK0:Kp [] w (w.alloc (.cells #[.int .i64 lvl] 3)):=(Kp.refl _ _).alloc _;refine (xU0 173 _ (fun x=>υ lvl (.slice none 0 0) x) key v hs _ (hsl.keep0 hK0) hnl hz' hml HC.out (fun v=>⟨_,rfl⟩) ?_).mono ?_
 ·intro W x hKW hx;exact xR2 x w.heap.size lvl W hx (hKW.hp hL0)
 rintro e w1 ⟨v',rfl,hs1,hown,hlen,hMk,hK1⟩;have hK1':Kp [] w w1:=hK0.tr hK1;go_wp2;go_ret;refine⟨v',rfl,⟨hs1,by rw[hlen];exact qG3 hown,?_⟩,hK1'⟩;have e:qD7 n key ls=(qD8 Lnk.key key (qB6 qA3 ls)).map fun x=>(⟨x.1,none,x.2⟩:Lnk (Tn (n+1))):=zY6 _ _ _;have hk:=xR0 (xQ9 HB.out) key;have hkl:=hk.1;refine⟨by rw[hlen,e,List.length_map,←hkl,qP7],fun i h1 h2=>?_⟩;have h3:i<(qD8 HL.key key (qB6 ψ hs)).length:=by rw[qP7];omega
 have h4:i<(qD8 Lnk.key key (qB6 qA3 ls)).length:=by rw[←hkl];exact h3
 obtain⟨k1,k2,k3,q,x,k4,k5,k6⟩:=hMk i h1 h3;obtain⟨m1,m2⟩:=hk.2 i h3 h4;have e2:(qD7 n key ls)[i]=(⟨(qD8 Lnk.key key (qB6 qA3 ls))[i].1,none,(qD8 Lnk.key key (qB6 qA3 ls))[i].2⟩:Lnk (Tn (n+1))):=by
  simp only[e];exact List.getElem_map _
 rw[e2];have hRL:RLs O n w1 x ((qD8 Lnk.key key (qB6 qA3 ls))[i].2):=⟨_,k6.keep0 hK1,m2.mono fun a b hr=>RL.keep hr hK1' (Apt.nil _ _)⟩;have hRN:RN O (n+1) w1 q ((qD8 Lnk.key key (qB6 qA3 ls))[i].2):=⟨x,by rw[←HV.out];exact k5,hRL⟩;have hkk:hs1[i].key=(qD8 Lnk.key key (qB6 qA3 ls))[i].1:=by rw[k1,m1]
 exact⟨hkk,k2,k3,q,k4,hRN⟩
end Go.Proofs.YtdohpenfkdckiabGreatDoor
