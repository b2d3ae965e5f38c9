import Derived.Test.YtdohpenfkdckiabGreatDoorF06
import Derived.Conc.MuLib
import Derived.Conc.MuLone
import Derived.KernelRfl
set_option linter.all false
set_option maxRecDepth 100000
set_option maxHeartbeats 20000000
namespace Go.Proofs.YtdohpenfkdckiabGreatDoor
open Go.Proofs.Tryz
open Go.RowKit Go.Extern.Stop Go.Stop Go.Extern
theorem jS0(F:Nat)(call:ByteArray)(x:Value)(w:World)(hF:w.heap[F]?=some (.cells #[.string call,x] 183)):
  Calls prog 265 #[.pointer (some ⟨F,0,none⟩)] w fun e w'=>e=.returned x∧w'=w:=by
 have c1:=ξ hF 1;simp at c1;clear hF;go_enter func265,ntmps265;go_wp2;go_ret;exact⟨rfl,rfl⟩
theorem xF9(F E a:Nat)(call:ByteArray)(k:Int)(w:World)(hF:w.heap[F]?=some (.cells #[.string call,.iface 46 (.int .i64 k)] 183))(hE:w.heap[E]?=some (.cells #[.int .i64 0] 46))(ha:w.heap[a]?=some (.cells #[.pointer (some ⟨E,0,none⟩)] 93)):
  Calls prog 80 #[.iface 180 (.pointer (some ⟨F,0,none⟩)),.iface 93 (.pointer (some ⟨E,0,none⟩)),.agg #[.pointer (some ⟨5,93,none⟩),.pointer (some ⟨a,0,none⟩),.int .u64 150],.iface 196 (.agg #[.pointer (some ⟨5,46,none⟩)])] w fun e w'=>e=.returned (.bool true)∧w'.heap[E]?=some (.cells #[.int .i64 k] 46)∧Kp [E] w w':=by
 have h90:=@run_callFunc_extern prog 77 _ (fun args=>ReflectliteValue.unpack (args.getD 0 (.tuple #[]))) func77 (by kernel_rfl) (by kernel_rfl) (by kernel_rfl) (by kernel_rfl);have h142:=@run_callFunc_extern prog 116 _ ReflectliteType.typeOf func116 (by kernel_rfl) (by kernel_rfl) (by kernel_rfl) (by kernel_rfl);have h285:=@run_callFunc_extern prog 267 _ (ReflectliteType.relation "AssignableTo" ReflectliteType.assignableTo) func267 (by kernel_rfl) (by kernel_rfl) (by kernel_rfl) (by kernel_rfl);have h143:=@run_callFunc_extern prog 117 _ (ReflectliteValue.method (ReflectliteValue.valueError "reflectlite.Value.Elem" 0) ReflectliteValue.elem) func117 (by kernel_rfl) (by kernel_rfl) (by kernel_rfl) (by kernel_rfl);have h144:=@run_callFunc_extern prog 118 _ ReflectliteValue.set func118 (by kernel_rfl) (by kernel_rfl) (by kernel_rfl) (by kernel_rfl);have tF:=xH9;have tE:=zN6;have mA:=xH0;have mU:=zN4;have aF:=xG1;have aE:=xG0;have vE:=xI1;have ta1:∀ W:World,Sem.run prog (Instr.typeAssert (.iface 180 (.pointer (some ⟨F,0,none⟩))) 35 201 true) W=.ok (.tuple #[.nilIface,.bool false]) W:=fun W=>run_typeAssert_lacksB underlying201 (by kernel_rfl) (by kernel_rfl) _ _ W;have ta2:∀ W:World,Sem.run prog (Instr.typeAssert (.iface 180 (.pointer (some ⟨F,0,none⟩))) 35 204 true) W=.ok (.tuple #[.iface 180 (.pointer (some ⟨F,0,none⟩)),.bool true]) W:=fun W=>run_typeAssert_hasB underlying204 (by kernel_rfl) _ _ W;have hEs:=ζ hE;have hFs:=ζ hF;have has:=ζ ha;go_enter func80,ntmps80;go_wp2;refine wp_loop_rounds 3 ?_;rw[rounds_succ];go_wp2_with fail;obtain⟨W1,hW1,hK1,hs1⟩:∃ W1,W1=w.alloc (.cells #[.pointer (some ⟨5,93,none⟩),.pointer (some ⟨a,0,none⟩),.int .u64 150] 137)∧Kp [E] w W1∧W1.heap.size=w.heap.size+1:=⟨_,rfl,(Kp.refl _ _).alloc _,by simp⟩;have hF1:W1.heap[F]?=some (.cells #[.string call,.iface 46 (.int .i64 k)] 183):=by rw[hW1];exact θ _ hF
 have hE1:W1.heap[E]?=some (.cells #[.int .i64 0] 46):=by rw[hW1];exact θ _ hE
 have ha1:W1.heap[a]?=some (.cells #[.pointer (some ⟨E,0,none⟩)] 93):=by rw[hW1];exact θ _ ha
 have hv1:W1.heap[w.heap.size]?=some (.cells #[.pointer (some ⟨5,93,none⟩),.pointer (some ⟨a,0,none⟩),.int .u64 150] 137):=by rw[hW1];exact ν _ _
 rw[←hW1];clear hW1;have v0:=ξ hv1 0;have v1:=ξ hv1 1;have v2:=ξ hv1 2;have a0:=ξ ha1 0;simp at v0 v1 v2 a0;have eV:=xG5 ⟨a,0,none⟩ ⟨E,0,none⟩ W1 a0;have hb2:=ξ (ν W1 (.cells #[.int .i64 k] 46)) 0;have he2:=ξ (θ (.cells #[.int .i64 k] 46) hE1) 0;have hfz2:=ω (θ (.cells #[.int .i64 k] 46) hE1) 0;simp at hb2 he2;have sE:=xH7 ⟨E,0,none⟩ ⟨W1.heap.size,0,none⟩ k (.int .i64 0) (W1.alloc (.cells #[.int .i64 k] 46)) (by simp) (by simpa using he2) hfz2;rw[hs1] at sE;clear hb2 he2 hfz2;refine (jS0 F call _ _ hF1).mono ?_;rintro e w2 ⟨rfl,rfl⟩;go_wp2_with fail;rw[rounds_succ];go_wp2;go_ret;refine⟨rfl,?_,?_⟩
 ·first
   | exact ψ (θ _ hE1) 0 _
   | exact θ _ (ψ hE1 0 _)
 ·first
   | exact (hK1.alloc _).sc _
   | exact (hK1.sc _).alloc _
theorem xF8(F E:Nat)(call:ByteArray)(k:Int)(w:World)(hg:w.cell? ⟨0,0,none⟩=some qN7)(hF:w.heap[F]?=some (.cells #[.string call,.iface 46 (.int .i64 k)] 183))(hE:w.heap[E]?=some (.cells #[.int .i64 0] 46)):
  Calls prog 43 #[.iface 180 (.pointer (some ⟨F,0,none⟩)),.iface 93 (.pointer (some ⟨E,0,none⟩))] w fun e w'=>e=.returned (.bool true)∧w'.heap[E]?=some (.cells #[.int .i64 k] 46)∧Kp [E] w w':=by
 have h90:=@run_callFunc_extern prog 77 _ (fun args=>ReflectliteValue.unpack (args.getD 0 (.tuple #[]))) func77 (by kernel_rfl) (by kernel_rfl) (by kernel_rfl) (by kernel_rfl);have h91:=@run_callFunc_extern prog 78 _ (ReflectliteValue.methodAny (ReflectliteValue.valueError "reflectlite.Value.Type" 0) (fun t _ _ _=>ReflectliteType.toType t)) func78 (by kernel_rfl) (by kernel_rfl) (by kernel_rfl) (by kernel_rfl);have h92:=@run_callFunc_extern prog 79 _ (ReflectliteValue.method (ReflectliteValue.valueError "reflectlite.Value.IsNil" 0) ReflectliteValue.isNil) func79 (by kernel_rfl) (by kernel_rfl) (by kernel_rfl) (by kernel_rfl);have h266:=@run_callFunc_extern prog 246 _ (ReflectliteType.abiMethod fun t=>do pure (.int .u8 (←Rtype.kind t))) func246 (by kernel_rfl) (by kernel_rfl) (by kernel_rfl) (by kernel_rfl);have h287:=@run_callFunc_extern prog 269 _ (ReflectliteType.method ReflectliteType.elem) func269 (by kernel_rfl) (by kernel_rfl) (by kernel_rfl) (by kernel_rfl);have h288:=@run_callFunc_extern prog 270 _ (ReflectliteType.relation "Implements" ReflectliteType.implements_) func270 (by kernel_rfl) (by kernel_rfl) (by kernel_rfl) (by kernel_rfl);have vO:=xI0;have tY:=xH8;have mK:=xH3;have mE:=xH1;have mI:=xH2;have kP:=xG9;have kE:=xG8;have eL:=xG3;have iM:=xG6;have hEs:=ζ hE;have hFs:=ζ hF;have hgl:0<w.heap.size:=by omega
 have nN:=xG7 ⟨w.heap.size,0,none⟩ ⟨E,0,none⟩ ((w.alloc (.cells #[.pointer (some ⟨E,0,none⟩)] 93)).alloc (.cells #[.pointer (some ⟨5,93,none⟩),.pointer (some ⟨w.heap.size,0,none⟩),.int .u64 150] 137)) (by simp);have hg2:((w.alloc (.cells #[.pointer (some ⟨E,0,none⟩)] 93)).alloc (.cells #[.pointer (some ⟨5,93,none⟩),.pointer (some ⟨w.heap.size,0,none⟩),.int .u64 150] 137)).cell? ⟨0,0,none⟩=some (.iface 196 (.agg #[.pointer (some ⟨5,35,none⟩)])):=by
  rw[World.cell?_alloc_lt _ _ ⟨0,0,none⟩ (by simp),World.cell?_alloc_lt _ _ ⟨0,0,none⟩ hgl];exact hg
 clear hg;go_enter func43,ntmps43;go_wp2_with fail;refine (xF9 F E w.heap.size call k _ (θ _ (θ _ hF)) (θ _ (θ _ hE)) (θ _ (ν _ _))).mono ?_;rintro e w1 ⟨rfl,hE1,hK1⟩;have hK1':Kp [E] w w1:=(((Kp.refl [E] w).alloc _).alloc _).tr hK1;clear h90 h91 h92 h266 h287 h288 vO tY mK mE mI kP kE eL iM nN hg2 hK1;go_wp2;go_ret;exact⟨rfl,hE1,hK1'⟩
end Go.Proofs.YtdohpenfkdckiabGreatDoor
namespace Go.Proofs.YtdohpenfkdckiabGreatDoor
open Go.Proofs.Tryz
open Go.RowKit
theorem jR1(F:Nat)(call:ByteArray)(k:Int)(w:World)(hg:w.cell? ⟨0,0,none⟩=some qN7)(hF:w.heap[F]?=some (.cells #[.string call,.iface 46 (.int .i64 k)] 183)):
  Calls prog 21 #[.iface 180 (.pointer (some ⟨F,0,none⟩))] w fun e w'=>e=.returned (.int .i64 k)∧Kp [] w w':=by
 have hFs:=ζ hF;have hgl:0<w.heap.size:=by omega
 go_enter func21,ntmps21;go_wp2_with fail;refine (xF8 F w.heap.size call k _ (by rw[World.cell?_alloc_lt _ _ ⟨0,0,none⟩ hgl];exact hg) (θ _ hF) (ν _ _)).mono ?_;rintro e w1 ⟨rfl,hE1,hK1⟩;have hK1':Kp [] w w1:=((Kp.refl [] w).alloc _).trans hK1 (by intro i hi hlt;simp at hi;omega);have c0:=ξ hE1 0;simp at c0;clear hK1 hg;go_wp2;go_ret;exact⟨rfl,hK1'⟩
end Go.Proofs.YtdohpenfkdckiabGreatDoor
namespace Go.Proofs.YtdohpenfkdckiabGreatDoor
open Go.Proofs.Tryz
abbrev jE6:Go.Conc.Locks.MuLink:={ lock:=81,unlock:=82,ilock:=119,iunlock:=120,lockSlow:=161,unlockSlow:=164,disable:=157,enable:=159,acquire:=160,relMerge:=162,cas32:=158,add32:=163,tMutex:=123,tIMutex:=121,tPMutex:=208,tPIMutex:=245,tPI32:=247,tUP:=134,tNoCopy:=118,tU32:=119 }
theorem qW9:Go.Conc.Locks.MuLib prog jE6:=
 ⟨func81,func82,func119,func120,func157,func159,func160,func162,func158,func163,underlying121,runUnderlying121,sizeOf121,isAgg121,zeroValue121,underlying123,runUnderlying123,sizeOf123,isAgg123,zeroValue123,underlying208,runUnderlying208,sizeOf208,isAgg208,zeroValue208,underlying245,runUnderlying245,sizeOf245,isAgg245,zeroValue245,underlying247,runUnderlying247,sizeOf247,isAgg247,zeroValue247,underlying134,runUnderlying134,sizeOf134,isAgg134,zeroValue134,underlying118,runUnderlying118,sizeOf118,isAgg118,zeroValue118,underlying21,runUnderlying21,sizeOf21,isAgg21,zeroValue21,(by kernel_rfl)⟩
end Go.Proofs.YtdohpenfkdckiabGreatDoor
namespace Go.Proofs.YtdohpenfkdckiabGreatDoor
open Go.Proofs.Tryz
open Go.RowKit Go.Extern.Stop Go.Stop Go.Extern
theorem xW1(w:World):((Extern.ReflectliteType.method fun t=>do Rtype.noPackHeld "Comparable" t;(fun a=>Value.bool a.comparable) <$> typeInfo t) #[.agg #[.pointer (some ⟨5,46,none⟩)]]).run prog w=.ok (.bool true) w:=by kernel_rfl
theorem xW5(h:Value)(w:World):(Go.method 445 196 (.agg #[h]) "Comparable").run prog w=.ok (268,.agg #[h]) w:=by kernel_rfl
theorem xW2(k:Int)(w:World):Sem.run prog (binOp .eql 35 (.iface 46 (.int .i64 k)) (.iface 46 (.int .i64 8))) w=.ok (.bool (k == 8)) w:=by
 kernel_rfl
theorem xW7(v:Value)(xT:TypeId)(w:World):(Instr.typeAssert (.iface 180 v) xT 251 true).run prog w=.ok (.tuple #[.nilIface,.bool false]) w:=run_typeAssert_lacksB underlying251 (by kernel_rfl) (by kernel_rfl) v xT w
theorem xW6(v:Value)(xT:TypeId)(w:World):(Instr.typeAssert (.iface 46 v) xT 251 true).run prog w=.ok (.tuple #[.nilIface,.bool false]) w:=run_typeAssert_lacksB underlying251 (by kernel_rfl) (by kernel_rfl) v xT w
theorem xW8(v:Value)(xT:TypeId)(w:World):(Instr.typeAssert (.iface 46 v) xT 204 true).run prog w=.ok (.tuple #[.nilIface,.bool false]) w:=run_typeAssert_lacksB underlying204 (by kernel_rfl) (by kernel_rfl) v xT w
theorem xW9(v:Value)(xT:TypeId)(w:World):(Instr.typeAssert (.iface 46 v) xT 205 true).run prog w=.ok (.tuple #[.nilIface,.bool false]) w:=run_typeAssert_lacksB underlying205 (by kernel_rfl) (by kernel_rfl) v xT w
theorem xW4(v:Value)(xT:TypeId)(w:World):(Instr.typeAssert (.iface 180 v) xT 204 true).run prog w=.ok (.tuple #[.iface 180 v,.bool true]) w:=run_typeAssert_hasB underlying204 (by kernel_rfl) v xT w
theorem xW3(F:Nat)(call:ByteArray)(k:Int)(w:World)(hk:k≠8)(hF:w.heap[F]?=some (.cells #[.string call,.iface 46 (.int .i64 k)] 183)):
  Calls prog 84 #[.iface 180 (.pointer (some ⟨F,0,none⟩)),.iface 46 (.int .i64 8)] w fun e w'=>e=.returned (.bool false)∧w'=w:=by
 have h151:=@run_callFunc_extern prog 116 _ ReflectliteType.typeOf func116 (by kernel_rfl) (by kernel_rfl) (by kernel_rfl) (by kernel_rfl);have hcmp:=@run_callFunc_extern prog 268 _ (Extern.ReflectliteType.method fun t=>do Rtype.noPackHeld "Comparable" t;pure (.bool (←typeInfo t).comparable)) func268 (by kernel_rfl) (by kernel_rfl) (by kernel_rfl) (by kernel_rfl);have tT:=zN6;have cT:=xW1;have mR:=xW5;have nF:=xW7;have nE:=xW6;have uE:=xW8;have vE:=xW9;have uF:=xW4;have mU:=zN4;have hq:=run_eql_iface_types (P:=prog) 180 46 (.pointer (some ⟨F,0,none⟩)) (.int .i64 8) underlying35 (by decide) w;have hb:(k == 8)=false:=by simp[hk]
 have he:=xW2 k w;rw[hb] at he;clear hk hb;have hFs:=ζ hF;have c1:=ξ hF 1;simp only[zG,zH,zI] at c1;go_enter func84,ntmps84;go_wp2;refine wp_loop_rounds 2 ?_;rw[rounds_succ];go_wp2;rw[rounds_succ];go_wp2;go_ret;exact⟨rfl,rfl⟩
end Go.Proofs.YtdohpenfkdckiabGreatDoor
namespace Go.Proofs.YtdohpenfkdckiabGreatDoor
open Go.Proofs.Tryz
open Go.RowKit Go.MuLone
def xC4(k:Int):Value:=.iface 162 (.agg #[.iface 46 (.int .i64 k)])
def qE4:Option Int→Ending
 | none=>.returned (.tuple #[])
 | some k=>.panicked [{ v:=xC4 k,recovered:=false }]
def qT0(w:World)(v:Value):Option Int→Prop
 | none=>v=.nilIface
 | some k=>∃ F call,v=.iface 180 (.pointer (some ⟨F,0,none⟩))∧w.heap[F]?=some (.cells #[.string call,.iface 46 (.int .i64 k)] 183)
theorem xK5(f:Nat)(cap:Array Value)(call:ByteArray)(k:Int)(w:World)(R:World→Prop)(hcf:∀ W:World,Sem.run prog (callFunc f cap) W=.ok (.enter f cap) W)
  (hw:Calls prog f cap ((w.alloc (.cells #[.string call] 9)).alloc (.cells #[.nilIface] 35)) fun e w'=>e=.panicked [{ v:=xC4 k,recovered:=false }]∧R w'∧w'.heap[w.heap.size+1]?=some (.cells #[.nilIface] 35)∧w'.heap[w.heap.size]?=some (.cells #[.string call] 9)):
  Calls prog 70 #[.string call,.func (.func f) #[] cap] w fun e w'=>∃ F,e=.returned (.iface 180 (.pointer (some ⟨F,0,none⟩)))∧w'.heap[F]?=some (.cells #[.string call,.iface 46 (.int .i64 k)] 183)∧∃ w1,R w1∧w1.heap.size≤F∧Kp [w.heap.size+1] w1 w':=by
 have hmf:=zM;have HW:=zh hw;clear hw
 go_enter_defers func70,ntmps70
 go_wp2_with fail;refine (show Calls _ _ _ _ _ from HW.out).mono ?_;rintro e w1 ⟨rfl,hR,hE,hB⟩;have HR:=zh hR;clear hR;go_wp2;refine leaves_cons (f:=108) (args:=#[.pointer (some ⟨w.heap.size,0,none⟩),.pointer (some ⟨w.heap.size+1,0,none⟩)]) (by simp) (by simp[go_sem]) ?_;refine (zP2 w.heap.size (w.heap.size+1) k call _ hB (by omega) hE).mono ?_;rintro e u' w2 ⟨rfl,rfl,F,hF,hF2,hE2,hK2⟩;have e0:=ξ hE2 0;simp at e0;simp[Leaves,settle,results,results70,go_sem,e0];exact⟨hF2,w1,HR.out,hF,hK2⟩
theorem zU0(k:Int)(w:World):Calls prog 84 #[.nilIface,.iface 46 (.int .i64 k)] w fun e w'=>e=.returned (.bool false)∧w'=w:=by
 have hb:∀ W:World,Sem.run prog (binOp .eql 35 .nilIface (.iface 46 (.int .i64 k))) W=.ok (.bool false) W:=fun W=>by kernel_rfl
 go_enter func84,ntmps84;go_wp2;go_ret;exact⟨rfl,rfl⟩
theorem zF4(args:Array Value)(W:World):Sem.run prog (callFunc 83 args) W=.ok (.enter 83 args) W:=by
 simp[go_sem,func83]
theorem zN2(k:Option Int)(S F St f:Nat)(s:Sto)(first cap:Array Value)(w:World)(R:World→Prop)(hS:w.heap[S]?=some (.cells #[.pointer (some ⟨St,0,none⟩)] 74))(hF:w.heap[F]?=some (.cells #[.func (.func f) first cap] 1))(hSt:w.heap[St]?=some (τ 1 s))(hpo:s.po=false)
  (hcf:∀ W:World,Sem.run prog (callFunc f (first++cap)) W=.ok (.enter f (first++cap)) W)
  (hw:Calls prog f (first++cap) w fun e w'=>e=qE4 k∧R w'):
  Calls prog 83 #[.pointer (some ⟨S,0,none⟩),.pointer (some ⟨F,0,none⟩)] w fun e w'=>e=qE4 k∧R w':=by
 have s0:=ξ hS 0;have f0:=ξ hF 0;have p7:=ξ hSt 7;simp[hpo] at s0 f0 p7;clear hS hF hSt;have HW:=zh hw;clear hw;go_enter func83,ntmps83;go_wp2_with fail;refine (show Calls _ _ _ _ _ from HW.out).mono ?_;rintro e w1 ⟨rfl,hR⟩
 cases k with
 | none=>
  simp only[qE4];go_wp2
  go_end0
  exact⟨rfl,hR⟩
 | some k=>
  simp only[qE4];go_wp2;exact⟨rfl,rfl,hR⟩
theorem zE8(k:Option Int)(hk8:k≠some 8)(St f:Nat)(s s':Sto)(first cap:Array Value)(call:ByteArray)(X:List Nat)(Q:World→World→Prop)(w:World)(hSt:w.heap[St]?=some (τ 0 s))(hpo:s.po=false)
  (hcf:∀ W:World,Sem.run prog (callFunc f (first++cap)) W=.ok (.enter f (first++cap)) W) (hX:∀ i,i∈X→i<w.heap.size)
  (hw:∀ W:World,Kp [St] w W→W.heap[St]?=some (τ 1 s)→Calls prog f (first++cap) W fun e w1=>e=qE4 k∧Q W w1∧Kp (St::X) W w1∧w1.heap[St]?=some (τ 1 s')):
  Calls prog 44 #[.pointer (some ⟨St,0,none⟩),.string call,.func (.func f) first cap] w fun e w'=>∃ v,e=.returned v∧qT0 w' v k∧w'.heap[St]?=some (τ 0 s')∧Kp (St::X) w w'∧∃ W w1 B,Q W w1∧Kp [St] w W∧w.heap.size≤B∧B<W.heap.size∧w1.heap[B]?=some (.cells #[.nilIface] 35)∧Kp [St,B] w1 w':=by
 have hmf:=zM;have HW:=zh hw;have HX:=zh hX;have HPO:=zh hpo;have HK8:=zh hk8;clear hw hX hpo hk8;have hSs:=ζ hSt
 go_enter_defers func44,ntmps44
 go_wp2_with fail;refine (lock_free qW9 ⟨St,0,none⟩ _ (ξ (θ _ (θ _ hSt)) 0) (ω (θ _ (θ _ hSt)) 0)).mono ?_;rintro e W0 ⟨rfl,rfl⟩;obtain⟨W0,hW0,hK0,hs0,hB0,hF0,hSt0⟩:∃ W0,W0=((w.alloc (.cells #[.pointer (some ⟨St,0,none⟩)] 74)).alloc (.cells #[.func (Fn.func f) first cap] 1)).setCell ⟨St,0,none⟩ (.int .i32 1)∧Kp [St] w W0∧W0.heap.size=w.heap.size+2∧W0.heap[w.heap.size]?=some (.cells #[.pointer (some ⟨St,0,none⟩)] 74)∧W0.heap[w.heap.size+1]?=some (.cells #[.func (Fn.func f) first cap] 1)∧W0.heap[St]?=some (τ 1 s):=by
  refine⟨_,rfl,((((Kp.refl _ _).alloc _).alloc _).sc _),by simp[World.setCell],?_,?_,?_⟩
  ·exact (qA6 (by omega) _ _).trans (θ _ (ν _ _))
  ·refine (qA6 (by omega) _ _).trans ?_;have e:=ν (w.alloc (.cells #[.pointer (some ⟨St,0,none⟩)] 74)) (.cells #[.func (Fn.func f) first cap] 1);simpa using e
  ·exact ψ (θ _ (θ _ hSt)) 0 _
 rw[←hW0];clear hW0;have b0:=ξ hB0 0;simp at b0;go_wp2_with fail;obtain⟨Wc,hWc,hKc,hsc,hBc,hFc,hStc,hEc,hCc⟩:∃ Wc,Wc=(W0.alloc (.cells #[.string call] 9)).alloc (.cells #[.nilIface] 35)∧Kp [St] w Wc∧Wc.heap.size=w.heap.size+4∧Wc.heap[w.heap.size]?=some (.cells #[.pointer (some ⟨St,0,none⟩)] 74)∧Wc.heap[w.heap.size+1]?=some (.cells #[.func (Fn.func f) first cap] 1)∧Wc.heap[St]?=some (τ 1 s)∧Wc.heap[W0.heap.size+1]?=some (.cells #[.nilIface] 35)∧Wc.heap[W0.heap.size]?=some (.cells #[.string call] 9):=by
  refine⟨_,rfl,(hK0.alloc _).alloc _,by simp[hs0],θ _ (θ _ hB0),θ _ (θ _ hF0),θ _ (θ _ hSt0),?_,θ _ (ν _ _)⟩;have e:=ν (W0.alloc (.cells #[.string call] 9)) (.cells #[.nilIface] 35);simpa using e
 have HA1:Hid (Calls prog 83 #[.pointer (some ⟨w.heap.size,0,none⟩),.pointer (some ⟨w.heap.size+1,0,none⟩)] Wc fun e w1=>e=qE4 k∧Q Wc w1∧Kp (St::X) Wc w1∧w1.heap[St]?=some (τ 1 s')):=
  zN2 k w.heap.size (w.heap.size+1) St f s first cap Wc (fun w1=>Q Wc w1∧Kp (St::X) Wc w1∧w1.heap[St]?=some (τ 1 s')) hBc hFc hStc HPO.out hcf (HW.out Wc hKc hStc)
 have HNM:Hid (∀ i,w.heap.size≤i→i ∉ St::X):=by
  show ∀ i,w.heap.size≤i→i ∉ St::X;intro i hi h;rcases List.mem_cons.1 h with h|h
  ·omega
  ·have:=HX.out _ h;omega
 clear HW
 cases k with
 | none=>
  refine (qY7 83 _ _ _ (fun w1=>Q Wc w1∧Kp (St::X) Wc w1∧w1.heap[St]?=some (τ 1 s')) (zF4 _) ?_).mono ?_
  ·rw[←hWc];refine (show Calls _ _ _ _ _ from HA1.out).mono ?_;rintro e w1 ⟨rfl,hQ,hk,hst⟩;exact⟨rfl,⟨hQ,hk,hst⟩,hk.heap hEc (HNM.out _ (by omega))⟩
  rintro e w2 ⟨rfl,w1,⟨hQ,hk,hst⟩,rfl⟩;have hs1:=hk.size;have hEw1:=hk.heap hEc (HNM.out _ (by omega));obtain⟨w2,hw2,hst2,hK2,ho2⟩:∃ w2,w2=w1.setCell ⟨W0.heap.size+1,0,none⟩ .nilIface∧w2.heap[St]?=some (τ 1 s')∧Kp (St::X) w w2∧Kp [St,W0.heap.size+1] w1 w2:=
   ⟨_,rfl,(qA6 (by omega) _ _).trans hst,(((hKc.mono (S':=St::X) (by simp)).trans hk (fun _ h _=>h)).setCell (Or.inr (by simp;omega)) _),(Kp.refl _ _).sc _⟩
  rw[←hw2];clear hw2
  go_wp2_with (go_at_call 84;refine (zU0 8 _).mono ?_;rintro e w' ⟨rfl,rfl⟩)
  refine leaves_cons (f:=82) (args:=#[.pointer (some ⟨St,0,none⟩)]) (by simp) (by simp[go_sem]) ?_;refine (unlock_deferred qW9 ⟨St,0,none⟩ .returning _ (ξ hst2 0) (ω hst2 0)).mono ?_;rintro e u' w'' ⟨rfl,rfl,rfl⟩;exact⟨_,results_tmp rfl _ _ _,.nilIface,rfl,rfl,ψ hst2 0 _,hK2.sc _,Wc,w1,W0.heap.size+1,hQ,hKc,by omega,by omega,hEw1,ho2.sc _⟩
 | some k=>
  have hk8:k≠8:=fun h=>HK8.out (by rw[h]);have HK:=zh hk8;clear hk8;refine (xK5 83 _ _ k _ (fun w1=>Q Wc w1∧Kp (St::X) Wc w1∧w1.heap[St]?=some (τ 1 s')) (zF4 _) ?_).mono ?_
  ·rw[←hWc];refine (show Calls _ _ _ _ _ from HA1.out).mono ?_;rintro e w1 ⟨rfl,hQ,hk,hst⟩;exact⟨rfl,⟨hQ,hk,hst⟩,hk.heap hEc (HNM.out _ (by omega)),hk.heap hCc (HNM.out _ (by omega))⟩
  rintro e w2 ⟨F,rfl,hF2,w1,⟨hQ,hk,hst⟩,hFs,hKc2⟩;have hs1:=hk.size;have hEw1:=hk.heap hEc (HNM.out _ (by omega));have hst2:w2.heap[St]?=some (τ 1 s'):=hKc2.ho hst;have hK2:Kp (St::X) w w2:=((hKc.mono (S':=St::X) (by simp)).trans hk (fun _ h _=>h)).trans hKc2 (by intro i hi hlt;simp at hi;omega);have ho2:Kp [St,W0.heap.size+1] w1 w2:=hKc2.mono (by simp);have HIS:Hid (Calls prog 84 #[.iface 180 (.pointer (some ⟨F,0,none⟩)),.iface 46 (.int .i64 8)] w2 fun e w'=>e=.returned (.bool false)∧w'=w2):=xW3 F _ k w2 HK.out hF2;have hFSt:St<F:=by have:=ζ hst;omega
  go_wp2_with (go_at_call 84;refine (show Calls _ _ _ _ _ from HIS.out).mono ?_;rintro e w' ⟨rfl,rfl⟩)
  refine leaves_cons (f:=82) (args:=#[.pointer (some ⟨St,0,none⟩)]) (by simp) (by simp[go_sem]) ?_;refine (unlock_deferred qW9 ⟨St,0,none⟩ .returning _ (ξ hst2 0) (ω hst2 0)).mono ?_;rintro e u' w'' ⟨rfl,rfl,rfl⟩;exact⟨_,results_tmp rfl _ _ _,.iface 180 (.pointer (some ⟨F,0,none⟩)),rfl,⟨F,_,rfl,(qA6 (by omega) _ _).trans hF2⟩,ψ hst2 0 _,hK2.sc _,Wc,w1,W0.heap.size+1,hQ,hKc,by omega,by omega,hEw1,ho2.sc _⟩
end Go.Proofs.YtdohpenfkdckiabGreatDoor
namespace Go.Proofs.YtdohpenfkdckiabGreatDoor
open Go.Proofs.Tryz
open Go.RowKit
def υ(V:Nat)(h:HL):Value:=.agg #[.pointer (some ⟨V,0,none⟩),.string h.key,.int .i64 h.b,.int .u64 h.s,.pointer h.ptr]
def qC2(h:HL):Value:=.agg #[.string h.key,.int .i64 h.b,.int .u64 h.s,.pointer h.ptr]
def zC0:List TypeId:=[81,83,64]
structure Env where
 O:qE8
 V:Nat
 S:List Nat
 Dev:World→Prop
 keep:∀ w w' L,Dev w→Kp L w w'→(∀ k∈L,∃ c t fr,w.heap[k]?=some (.cells c t fr)∧t∈zC0)→Dev w'
 apt:∀ w,Dev w→Apt w S qG0
 low:∀ w,Dev w→∀ k∈S,k<w.heap.size
 pos:∀ (n b:Nat) (s:Int) (t:Tn n),O n b s t→1≤b
 lvl:∀ (n b:Nat) (s:Int) (t:Tn n),O n b s t→n<6
 read:∀ (n:Nat) (h r:HL) (l:Lnk (Tn n)) (a:Int) (w:World),Dev w→RL O n w h l→h.p=none→(n:Int)<a→Calls prog 87 #[υ V r,qC2 h,.int .i64 a] w fun e w'=>∃ q,e=.returned (.pointer (some ⟨q,0,none⟩))∧RN O n w' q l.sub∧Dev w'∧Kp S w w'
structure Env.To(E:Env)(w w':World):Prop where
 dev:E.Dev w'
 kp:Kp E.S w w'
theorem Env.To.of0{E:Env}{w w':World}(h:E.Dev w)(hK:Kp [] w w'):E.To w w':=⟨E.keep _ _ [] h hK (by simp),hK.mono (by simp)⟩
theorem Env.To.trans{E:Env}{a b c:World}(h:E.To a b)(k:E.To b c):E.To a c:=⟨k.dev,h.kp.trans k.kp (fun i hi _=>hi)⟩
theorem Env.To.tail{E:Env}{a b c:World}(h:E.To a b)(k:Kp [] b c):E.To a c:=h.trans (Env.To.of0 h.dev k)
theorem Env.RN{E:Env}{n:Nat}{w w':World}{q:Nat}{t:Tn n}(h:RN E.O n w q t)(hd:E.Dev w)(hT:E.To w w'):YtdohpenfkdckiabGreatDoor.RN E.O n w' q t:=RN.keep hT.kp (E.apt w hd) n q t h
theorem Env.RL{E:Env}{n:Nat}{w w':World}{h:HL}{l:Lnk (Tn n)}(hr:RL E.O n w h l)(hd:E.Dev w)(hT:E.To w w'):YtdohpenfkdckiabGreatDoor.RL E.O n w' h l:=RL.keep hr hT.kp (E.apt w hd)
theorem Env.RLs{E:Env}{n:Nat}{w w':World}{v:Value}{ls:List (Lnk (Tn n))}(hr:RLs E.O n w v ls)(hd:E.Dev w)(hT:E.To w w'):YtdohpenfkdckiabGreatDoor.RLs E.O n w' v ls:=RLs.keep hr hT.kp (E.apt w hd)
theorem Env.To.new{E:Env}{w0 w w':World}{k:Nat}{o:Obj}(hT:E.To w w')(hd:E.Dev w0)(hk:w0.heap.size≤k)(h:w.heap[k]?=some o):w'.heap[k]?=some o:=
 hT.kp.heap h (fun hm=>by have:=E.low w0 hd k hm;omega)
theorem zY5(E:Env)(n:Nat)(h r:HL)(l:Lnk (Tn n))(a:Int)(w:World)(hd:E.Dev w)(hr:RL E.O n w h l)(ha:h.p=none→(n:Int)<a):
  Calls prog 87 #[υ E.V r,qC2 h,.int .i64 a] w fun e w'=>∃ q,e=.returned (.pointer (some ⟨q,0,none⟩))∧RN E.O n w' q l.sub∧E.To w w':=by
 cases hp:h.p with
 | none=>
  refine (E.read n h r l a w hd hr hp (ha hp)).mono ?_;rintro e w' ⟨q,h1,h2,h3,h4⟩;exact⟨q,h1,h2,h3,h4⟩
 | some q=>
  have hN:RN E.O n w q l.sub:=by
   have h2:=hr.2
   cases hl:l.ref with
   | none=>
    rw[hl] at h2;obtain⟨_,_,q',h3,h4⟩:=h2;rw[hp] at h3;cases h3;exact h4
   | some x=>
    rw[hl] at h2;rw[hp] at h2;cases h2.2.2.1
  have hptr:h.ptr=some ⟨q,0,none⟩:=by simp[HL.ptr,hp]
  have e1:qC2 h=.agg #[.string h.key,.int .i64 h.b,.int .u64 h.s,.pointer (some ⟨q,0,none⟩)]:=by rw[qC2,hptr]
  rw[e1,υ];have HN:=zh hN;have HD:=zh hd;clear hN hr hd e1 hptr ha;go_enter func87,ntmps87;go_wp2;go_ret;exact⟨q,rfl,Env.RN HN.out HD.out (Env.To.of0 HD.out (((Kp.refl _ _).alloc _).alloc _)),Env.To.of0 HD.out (((Kp.refl _ _).alloc _).alloc _)⟩
theorem qJ5(E:Env)(n:Nat)(h r:HL)(l:Lnk (Tn n))(a:Int)(w:World)(hd:E.Dev w)(hr:RL E.O n w h l)(ha:(n:Int)<a):
  Calls prog 87 #[υ E.V r,qC2 h,.int .i64 a] w fun e w'=>∃ q,e=.returned (.pointer (some ⟨q,0,none⟩))∧RN E.O n w' q l.sub∧E.To w w':=
 zY5 E n h r l a w hd hr fun _=>ha
theorem Env.low6{E:Env}{n:Nat}{w:World}{h:HL}{l:Lnk (Tn n)}(hr:YtdohpenfkdckiabGreatDoor.RL E.O n w h l)(hp:h.p=none):(n:Int)<6:=by
 have h2:=hr.2
 cases hl:l.ref with
 | none=>
  rw[hl] at h2;obtain⟨_,_,q,h3,h4⟩:=h2;rw[hp] at h3;cases h3
 | some x=>
  rw[hl] at h2;have:=E.lvl _ _ _ _ h2.2.2.2;omega
theorem qX6(E:Env)(n:Nat)(h:HL)(l:Lnk (Tn n))(w:World)(hd:E.Dev w)(hr:RL E.O n w h l):
  Calls prog 86 #[υ E.V h] w fun e w'=>∃ q,e=.returned (.pointer (some ⟨q,0,none⟩))∧RN E.O n w' q l.sub∧E.To w w':=by
 have HD:=zh hd;have HR:=zh hr;have HN:Hid (∀ W:World,E.To w W→Calls prog 87 #[.agg #[.pointer (some ⟨E.V,0,none⟩),.string h.key,.int .i64 h.b,.int .u64 h.s,.pointer h.ptr],.agg #[.string h.key,.int .i64 h.b,.int .u64 h.s,.pointer h.ptr],.int .i64 6] W fun e w'=>∃ q,e=.returned (.pointer (some ⟨q,0,none⟩))∧RN E.O n w' q l.sub∧E.To W w'):=
  fun W hT=>zY5 E n h h l 6 W hT.dev (Env.RL hr hd hT) (Env.low6 hr)
 clear hd hr;rw[υ];go_enter func86,ntmps86;go_wp2_with fail;refine (HN.out _ (Env.To.of0 HD.out ((Kp.refl _ _).alloc _))).mono ?_;rintro e w1 ⟨q,rfl,hN1,hT1⟩;have HN1:=zh hN1;have HT1:Hid (E.To w w1):=(Env.To.of0 HD.out ((Kp.refl _ _).alloc _)).trans hT1;clear hN1 hT1 HN;go_wp2;go_ret;exact⟨q,rfl,HN1.out,HT1.out⟩
theorem RLof.new{O:qE8}{n:Nat}{w:World}{h:HL}{l:Lnk (Tn n)}(hr:RL O n w h l):(l.ref=none∧∃ q,h.p=some q∧RN O n w q l.sub)∨(l.ref.isSome=true∧h.p=none):=by
 have h2:=hr.2
 cases hl:l.ref with
 | none=>
  rw[hl] at h2;obtain⟨_,_,q,h3,h4⟩:=h2;exact .inl ⟨rfl,q,h3,h4⟩
 | some x=>
  rw[hl] at h2;exact .inr ⟨rfl,h2.2.2.1⟩
def qV4:(n:Nat)→Tn n→Prop
 | 0,t=>(prs t).length≤10000
 | n+1,t=>(η t).length≤10000∧∀ l∈η t,qV4 n l.sub
theorem qG7{α:Type}(f:α→Nat):∀ (l:List α),(∀ x∈l,1≤f x)→l.length≤meas f l
 | [],_=>by simp[meas]
 | x::l,h=>by
  have h1:=h x (by simp);have h2:=qG7 f l fun y hy=>h y (by simp[hy]);rw[qE0,List.length_cons];omega
theorem qK1:∀ (n:Nat) (lo:ByteArray) (t:Tn n),Good n lo t→qV4 n t
 | 0,lo,ps,h=>by
  have h1:meas μ (prs ps)≤126:=h.fits;have h2:=qG7 μ (prs ps) fun x _=>by unfold μ;omega
  show (prs ps).length≤10000;omega
 | n+1,lo,ls,h=>by
  have h1:meas qA2 (η ls)≤126:=h.fits;have h2:=qG7 qA2 (η ls) fun x _=>by unfold qA2;omega
  exact⟨by omega,fun l hl=>qK1 n l.key l.sub (h.all l hl).1⟩
theorem xM8(O:qE8):∀ (n:Nat) (h:HL) (l:Lnk (Tn n)) (w:World),RL O n w h l→qV4 n l.sub→qB3 n l.sub≤1000000→
  Calls prog 96 #[qC2 h] w fun e w'=>e=.returned (.int .i64 (news n l))∧Kp [] w w':=by
 intro n
 induction n with
 | zero=>
  intro h l w hr hsl hno;rcases hr.new with⟨h1,q,h2,vp,h3,h4⟩|⟨h1,h2⟩
  ·have hptr:h.ptr=some ⟨q,0,none⟩:=by simp[HL.ptr,h2]
   rw[qC2,hptr];have hqs:=ζ h3;have q2:=ξ h3 2;simp only[ρ,zG,zH,zI] at q2;clear hr h4;go_enter func96,ntmps96;go_wp2_with fail;refine wp_loop_rounds 1 ?_;rw[rounds_succ];go_wp2;go_ret;exact⟨qL2 (by simp[news,h1]),(Kp.refl _ _).alloc _⟩
  ·have hptr:h.ptr=none:=by simp[HL.ptr,h2]
   rw[qC2,hptr];clear hr;go_enter func96,ntmps96;go_wp2;go_ret;exact⟨qL2 (by simp[news,h1]),(Kp.refl _ _).alloc _⟩
 | succ n ih=>
  intro h l w hr hsl hno;rcases hr.new with⟨h1,q,h2,vl,h3,hs,h4,h5⟩|⟨h1,h2⟩
  ·have hptr:h.ptr=some ⟨q,0,none⟩:=by simp[HL.ptr,h2]
   rw[qC2,hptr];obtain⟨hsl1,hsl2⟩:=hsl;have hnews:news (n+1) l=1+meas (fun m:Lnk (Tn n)=>news n m) (η l.sub):=by simp[news,h1]
   have hnod:qB3 (n+1) l.sub=1+meas (fun m:Lnk (Tn n)=>qB3 n m.sub) (η l.sub):=rfl;have hnn:=zJ1 (f:=fun m:Lnk (Tn n)=>news n m) (g:=fun m=>qB3 n m.sub) (η l.sub) fun m _=>zJ3 n m;rw[hnod] at hno;have hbl:=h5.1;obtain⟨ls,hls⟩:∃ ls,ls=η l.sub:=⟨_,rfl⟩;rw[←hls] at h5 hsl1 hsl2 hnews hnn hno hbl;clear hls hnod;have hqs:=ζ h3;obtain⟨bs,cp,hv⟩:∃ bs cp,vl=.slice bs hs.length cp:=by
    rcases h4.val with⟨h0,b,c,h1,_⟩|⟨g,off,cap,cur,fr,h1,_⟩
    ·rw[h0];exact⟨b,c,h1⟩
    ·exact⟨_,cap,h1⟩
   subst hv;have q2:=ξ h3 2;simp only[ρ,zG,zH,zI] at q2;have HS:=zh h4;have HB:=zh h5;have HN:=zh hnews;have HSL:=zh hsl2;have HNO:=zh hno;have HNN:=zh hnn;have HIH:=ih;clear hr h4 h5 hnews hsl2 h1 h2 ih hno hnn;go_enter func96,ntmps96;go_wp2
   go_loopw [3,15] (fun s i wr=>∃ (j:Nat),j≤hs.length∧i=.int .i64 j∧s=.int .i64 (1+meas (fun m:Lnk (Tn n)=>news n m) (ls.take j):Nat)∧Kp [] w wr) (fun _ i _=>hs.length-(intOf i).toNat)
   case atStart=>exact⟨0,Nat.zero_le _,rfl,rfl,(Kp.refl _ _).alloc _⟩
   case round=>
    obtain⟨j,hj,rfl,rfl,hK⟩:=hrel;have hmt:=qN3 (fun m:Lnk (Tn n)=>news n m) ls j;have hnb:=HNN.out;have hnc:=HNO.out;by_cases hlt:j<hs.length
    ·have hjb:(j:Int)<(hs.length:Int):=by omega
     obtain⟨gb,off,cp',cur,fr,hv,hcp,hrow,hcur⟩:=HS.out.link (by omega);obtain⟨c0,c1,c2,c3⟩:=hcur j hlt;simp only[Value.slice.injEq,true_and] at hv;obtain⟨rfl,rfl⟩:=hv;have hR:=hK.hp hrow;have a0:=ξ hR (off+j*4);rw[c0] at a0;have a1:=ξ hR (off+j*4+1);rw[c1] at a1;have a2:=ξ hR (off+j*4+2);rw[c2] at a2;have a3:=ξ hR (off+j*4+3);rw[c3] at a3;have hgs:=ζ hR;have hjl:j<ls.length:=by omega
     have hrl:=HB.out.2 j hlt hjl;have HMS:Hid (meas (fun m:Lnk (Tn n)=>news n m) (ls.take (j+1))=meas (fun m:Lnk (Tn n)=>news n m) (ls.take j)+news n ls[j]):=qL6 _ ls j hjl;have hmt1:=qN3 (fun m:Lnk (Tn n)=>news n m) ls (j+1);rw[HMS.out] at hmt1;have hnj:qB3 n ls[j].sub≤meas (fun m:Lnk (Tn n)=>qB3 n m.sub) ls:=by
      have h1:=qL6 (fun m:Lnk (Tn n)=>qB3 n m.sub) ls j hjl;have h2:=qN3 (fun m:Lnk (Tn n)=>qB3 n m.sub) ls (j+1);omega
     have HRL:=zh hrl;have HNJ:Hid (qB3 n ls[j].sub≤1000000):=by show _≤_;omega
     clear hcur hrl hnj;generalize meas (fun m:Lnk (Tn n)=>news n m) (ls.take j)=M at *;go_wp2_with fail;refine (HIH hs[j] ls[j] _ (RL.keep HRL.out (hK.alloc _) (Apt.nil _ _)) (HSL.out _ (List.getElem_mem hjl)) HNJ.out).mono ?_;rintro e w1 ⟨rfl,hK1⟩;have hK1':Kp [] w w1:=(hK.alloc _).tr hK1;go_wp2;refine⟨⟨j+1,by omega,by go_num,by rw[HMS.out];go_num,hK1'⟩,by simp[intOf];omega⟩
    ·have hjb:¬(j:Int)<(hs.length:Int):=by omega
     go_wp2;go_ret;refine⟨qL2 ?_,hK⟩;rw[HN.out,List.take_of_length_le (by omega)];omega
  ·have hptr:h.ptr=none:=by simp[HL.ptr,h2]
   rw[qC2,hptr];clear hr;go_enter func96,ntmps96;go_wp2;go_ret;exact⟨qL2 (by simp[news,h1]),(Kp.refl _ _).alloc _⟩
theorem RN.obj{O:qE8}{n:Nat}{w:World}{q:Nat}{t:Tn n}(h:RN O n w q t):∃ pb pl pc lb ll lc,w.heap[q]?=some (ρ (n:Int) (.slice pb pl pc) (.slice lb ll lc))∧pl+ll=cnt n t:=by
 cases n with
 | zero=>
  obtain⟨vp,h1,h2⟩:=h;obtain⟨bs,cp,hv⟩:∃ bs cp,vp=.slice bs (prs t).length cp:=by
   rcases h2.val with⟨h0,b,c,h1,_⟩|⟨g,off,cap,cur,fr,h1,_⟩
   ·rw[h0];exact⟨b,c,h1⟩
   ·exact⟨_,cap,h1⟩
  rw[hv] at h1;exact⟨_,_,_,_,_,_,h1,rfl⟩
 | succ n=>
  obtain⟨vl,h1,hs,h2,h3⟩:=h;obtain⟨bs,cp,hv⟩:∃ bs cp,vl=.slice bs hs.length cp:=by
   rcases h2.val with⟨h0,b,c,h1,_⟩|⟨g,off,cap,cur,fr,h1,_⟩
   ·rw[h0];exact⟨b,c,h1⟩
   ·exact⟨_,cap,h1⟩
  rw[hv] at h1;refine⟨_,_,_,_,_,_,h1,?_⟩;rw[Nat.zero_add,h3.1];rfl
theorem qS1(O:qE8)(n:Nat)(q:Nat)(t:Tn n)(w:World)(h:RN O n w q t)(hc:cnt n t≤1000000):
  Calls prog 129 #[.pointer (some ⟨q,0,none⟩)] w fun e w'=>e=.returned (.int .i64 (cnt n t))∧Kp [] w w':=by
 obtain⟨pb,pl,pc,lb,ll,lc,h1,h2⟩:=h.obj;have HC:=zh h2;rw[←h2] at hc;have hqs:=ζ h1;have q1:=ξ h1;simp only[ρ,zG,zH,zI] at q1;clear h h1 h2;go_enter func129,ntmps129;go_wp2_with fail
 go_quiet (fail)
 go_wp2;go_ret;exact⟨qL2 (by rw[←HC.out];omega),(Kp.refl _ _).drewN _⟩
theorem jQ9(O:qE8)(V n:Nat)(h:HL)(l:Lnk (Tn n))(w:World)(hr:RL O n w h l)(hs:qV4 n l.sub)(hn:qB3 n l.sub≤1000000):
  Calls prog 58 #[υ V h] w fun e w'=>e=.returned (.int .i64 (news n l))∧Kp [] w w':=by
 rw[υ];go_enter func58,ntmps58;go_wp2_with fail;refine (xM8 O n h l _ (RL.keep hr ((Kp.refl _ _).alloc _) (Apt.nil _ _)) hs hn).mono ?_;rintro e w1 ⟨rfl,hK1⟩;have hK1':Kp [] w w1:=((Kp.refl _ _).alloc _).tr hK1;go_wp2;go_ret;exact⟨rfl,hK1'⟩
def RR(E:Env)(w:World)(h:HL):Root→Prop
 | .none=>h=⟨⟨#[]⟩,0,0,none⟩
 | .at n l=>RL E.O n w h l
theorem RR.to{E:Env}{w w':World}{h:HL}{r:Root}(hr:RR E w h r)(hd:E.Dev w)(hT:E.To w w'):RR E w' h r:=by
 cases r with
 | none=>exact hr
 | «at» n l=>exact Env.RL hr hd hT
theorem qW1(d:Nat)(W:World):Sem.run prog (Op.equalIn (d+1) 79 (.pointer none) (.pointer none)) W=.ok true W:=by
 simp[Op.equalIn,run_underlying underlying79]
theorem zR0(d:Nat)(a:Addr)(W:World):Sem.run prog (Op.equalIn (d+1) 79 (.pointer (some a)) (.pointer none)) W=.ok false W:=by
 simp[Op.equalIn,run_underlying underlying79]
theorem qZ6(V:Nat)(w:World):
  Calls prog 85 #[υ V ⟨⟨#[]⟩,0,0,none⟩] w fun e w'=>e=.returned (.bool true)∧Kp [] w w':=by
 have heq:∀ W:World,Sem.run prog (Op.equalIn 9999 79 (.pointer none) (.pointer none)) W=.ok true W:=fun W=>qW1 9998 W;rw[υ,show HL.ptr ⟨⟨#[]⟩,0,0,none⟩=none from rfl];go_enter func85,ntmps85;go_wp2;go_ret;exact⟨rfl,(Kp.refl _ _).alloc _⟩
theorem xN9(V q:Nat)(w:World):
  Calls prog 85 #[.agg #[.pointer (some ⟨V,0,none⟩),.string ⟨#[]⟩,.int .i64 0,.int .u64 0,.pointer (some ⟨q,0,none⟩)]] w fun e w'=>e=.returned (.bool false)∧Kp [] w w':=by
 have heq:∀ W:World,Sem.run prog (Op.equalIn 9999 79 (.pointer (some ⟨q,0,none⟩)) (.pointer none)) W=.ok false W:=fun W=>zR0 9998 _ W;go_enter func85,ntmps85;go_wp2;go_ret;exact⟨rfl,(Kp.refl _ _).alloc _⟩
theorem zQ6(V:Nat)(b s:Int)(hb:1≤b)(w:World):
  Calls prog 85 #[.agg #[.pointer (some ⟨V,0,none⟩),.string ⟨#[]⟩,.int .i64 b,.int .u64 s,.pointer none]] w fun e w'=>e=.returned (.bool false)∧Kp [] w w':=by
 have heq:∀ W:World,Sem.run prog (Op.equalIn 9999 79 (.pointer none) (.pointer none)) W=.ok true W:=fun W=>qW1 9998 W;have hb0:¬b=0:=by omega
 go_enter func85,ntmps85;go_wp2;go_ret;exact⟨rfl,(Kp.refl _ _).alloc _⟩
theorem qZ5(E:Env)(n:Nat)(h:HL)(l:Lnk (Tn n))(w:World)(hr:RL E.O n w h l)(hl:l.key=⟨#[]⟩):
  Calls prog 85 #[υ E.V h] w fun e w'=>e=.returned (.bool false)∧Kp [] w w':=by
 have hk:h.key=⟨#[]⟩:=by rw[hr.1,hl]
 have h2:=hr.2
 cases hx:l.ref with
 | none=>
  rw[hx] at h2;obtain⟨h3,h4,q,h5,_⟩:=h2;have e:υ E.V h=.agg #[.pointer (some ⟨E.V,0,none⟩),.string ⟨#[]⟩,.int .i64 0,.int .u64 0,.pointer (some ⟨q,0,none⟩)]:=by rw[υ,hk,h3,h4,HL.ptr,h5];rfl
  rw[e];exact xN9 E.V q w
 | some x=>
  rw[hx] at h2;obtain⟨h3,h4,h5,h6⟩:=h2;have hp:=E.pos n _ _ _ h6;have e:υ E.V h=.agg #[.pointer (some ⟨E.V,0,none⟩),.string ⟨#[]⟩,.int .i64 h.b,.int .u64 h.s,.pointer none]:=by rw[υ,hk,HL.ptr,h5];rfl
  rw[e];exact zQ6 E.V h.b h.s (by rw[h3];omega) w
def qH8(l:List KV)(k:ByteArray):Option KV:=l.find? fun q=>decide (q.k=k)
def zG2(l:List KV)(k:ByteArray):ByteArray:=((qH8 l k).map KV.v).getD ⟨#[]⟩
theorem xT4{k:ByteArray}{a b c:List KV}(ha:∀ q∈a,q.k≠k)(hc:∀ q∈c,q.k≠k):qH8 (a++b++c) k=qH8 b k:=by
 unfold qH8;rw[List.find?_append,List.find?_append];have h1:a.find? (fun q=>decide (q.k=k))=none:=by rw[List.find?_eq_none];intro q hq;simp[ha q hq]
 have h2:c.find? (fun q=>decide (q.k=k))=none:=by rw[List.find?_eq_none];intro q hq;simp[hc q hq]
 rw[h1,h2];simp
theorem xT5{l:List KV}(hs:Sorted l)(k:ByteArray):qH8 l k=if qF7 l (qB8 l k) k then l[qB8 l k]? else none:=by
 by_cases h:qF7 l (qB8 l k) k=true
 ·rw[if_pos h];unfold qF7 at h;split at h
  ·next q hq=>
   have hqk:q.k=k:=by simpa using h
   have hlt:=(List.getElem?_eq_some_iff.1 hq).1;rw[hq];unfold qH8;rw[←List.take_append_drop (qB8 l k) l,List.find?_append,List.find?_eq_none.2 (fun x hx=>?_),List.drop_eq_getElem_cons hlt,(List.getElem?_eq_some_iff.1 hq).2]
   ·simp[hqk]
   ·have:kl x.k k=true:=zD6 x (by rw[←xC2 hs k];exact hx);simp[qJ3 this]
  ·cases h
 ·rw[if_neg h];have hn:¬∃ q∈l,q.k=k:=fun hq=>h ((zG4 hs k).2 hq);unfold qH8;rw[List.find?_eq_none];intro q hq;simp only[decide_eq_true_eq];exact fun e=>hn ⟨q,hq,e⟩
theorem Good.row{n:Nat}{lo:ByteArray}{t:Tn (n+1)}(h:Good (n+1) lo t):Row0 n lo (η t):=⟨h.head,fun m hm=>⟨(h.all m hm).1,(h.all m hm).2.2⟩,h.pair⟩
theorem zC8{O:qE8}{n:Nat}{w:World}{hs:List HL}{ls:List (Lnk (Tn n))}(hb:Both (RL O n w) hs ls)(hp:ls.Pairwise (qR2 n)):Rise hs:=by
 unfold Rise;rw[List.pairwise_iff_getElem];intro i j hi hj hij;have h1:=hb.1;have:=List.pairwise_iff_getElem.1 hp i j (by omega) (by omega) hij;rw[(hb.2 i hi (by omega)).1,(hb.2 j hj (by omega)).1];exact this.1
theorem zL8{O:qE8}{n:Nat}{w:World}{hs:List HL}{ls:List (Lnk (Tn n))}(hb:Both (RL O n w) hs ls)(k:ByteArray):hs.findIdx (fun l=>kl k l.key)=ls.findIdx (fun l=>kl k l.key):=by
 have e:hs.map HL.key=ls.map Lnk.key:=hb.map_eq fun x y hr=>hr.1;have h1:∀ (l:List HL),l.findIdx (fun l=>kl k l.key)=(l.map HL.key).findIdx (fun x=>kl k x):=fun l=>by rw[List.findIdx_map];rfl
 have h2:∀ (l:List (Lnk (Tn n))),l.findIdx (fun l=>kl k l.key)=(l.map Lnk.key).findIdx (fun x=>kl k x):=fun l=>by rw[List.findIdx_map];rfl
 rw[h1,h2,e]
def qU2(w:World)(s:Value):Nat:=match s with
 | .pointer (some a)=>match w.cell? ⟨a.block,0,none⟩ with
  | some (.int _ i)=>i.toNat
  | _=>0
 | _=>0
theorem zI9{O:qE8}{n:Nat}{w:World}{q:Nat}{t:Tn n}(h:RN O n w q t):qU2 w (.pointer (some ⟨q,0,none⟩))=n:=by
 obtain⟨pb,pl,pc,lb,ll,lc,h1,h2⟩:=h.obj;have:=ξ h1 0;simp only[ρ,zG,zH] at this;simp[qU2,this]
theorem xD6{n:Nat}{lo k:ByteArray}{t:Tn (n+1)}(hg:Good (n+1) lo t)(hk:kl k lo=false)(hc:1≤cnt (n+1) t):
  ∃ (h:qB2 (η t) k<(η t).length),Good n (η t)[qB2 (η t) k].key (η t)[qB2 (η t) k].sub∧3≤cnt n (η t)[qB2 (η t) k].sub∧kl k (η t)[qB2 (η t) k].key=false∧qH8 (cont (n+1) t) k=qH8 (cont n (η t)[qB2 (η t) k].sub) k:=by
 have hne:η t≠[]:=fun e=>by
  have h4:1≤(η t).length:=hc;rw[e] at h4;simp at h4
 obtain⟨A,m,B,e,hA,hkm,hqA,hqB⟩:=zE1 hg.row hne hk;have hlt:qB2 (η t) k<(η t).length:=by rw[←hA,e];simp
 have hm:(η t)[qB2 (η t) k]=m:=by
  have:(η t)[qB2 (η t) k]?=some m:=by rw[←hA,e];simp
  rw[List.getElem?_eq_getElem hlt] at this;exact Option.some.inj this
 have hall:=hg.all m (by show m∈η t;rw[e];simp);refine⟨hlt,?_⟩;rw[hm];refine⟨hall.1,hall.2.1,hkm,?_⟩;show qH8 ((η t).flatMap fun l=>cont n l.sub) k=_;rw[e,List.flatMap_append,List.flatMap_cons,←List.append_assoc];refine xT4 (fun q hq=>?_) (fun q hq=>?_)
 ·obtain⟨a,ha,hq⟩:=List.mem_flatMap.1 hq;exact qJ3 (hqA a ha q hq)
 ·obtain⟨b,hb,hq⟩:=List.mem_flatMap.1 hq;have gb:=hg.all b (by show b∈η t;rw[e];simp[hb]);exact (qJ3 (qN9 (hqB b hb) ((qM2 n b.key b.sub gb.1).2 q hq).2)).symm
def zM3(E:Env)(w0 w:World)(k:ByteArray)(all:List KV)(s:Value):Prop:=
 ∃ (m:Nat) (t:Tn m) (lo:ByteArray) (q:Nat),s=.pointer (some ⟨q,0,none⟩)∧RN E.O m w q t∧Good m lo t∧kl k lo=false∧1≤cnt m t∧qH8 all k=qH8 (cont m t) k∧m≤1000000
theorem zT0(E:Env)(r:Root)(h:HL)(k:ByteArray)(w:World)(hd:E.Dev w)(hR:RR E w h r)(hg:RGood r)(hsz:r.cont.length≤1000000):
  Calls prog 50 #[υ E.V h,.string k] w fun e w'=>e=.returned (.tuple #[.string (zG2 r.cont k),.bool (qH8 r.cont k).isSome])∧E.To w w':=by
 cases r with
 | none=>
  have hR:h=⟨⟨#[]⟩,0,0,none⟩:=hR;subst hR;have HD:=zh hd;clear hd;rw[υ];go_enter func50,ntmps50;go_wp2_with fail;refine (qZ6 E.V _).mono ?_;rintro e w1 ⟨rfl,hK1⟩;have hK1':Kp [] w w1:=((Kp.refl _ _).alloc _).tr hK1;go_wp2
  go_ret2
  exact⟨rfl,Env.To.of0 HD.out hK1'⟩
 | «at» n l=>
  have hR:RL E.O n w h l:=hR;obtain⟨g1,g2,g3⟩:=hg;have hlv:=zK6 ⟨g1,g2,g3⟩;have hsz:(cont n l.sub).length≤1000000:=hsz;obtain⟨all,hall⟩:∃ all,all=cont n l.sub:=⟨_,rfl⟩;have HA:Hid (Root.cont (.at n l)=all):=hall.symm;have HD:=zh hd;have HG:=zh g2;clear hd;obtain⟨tc,htc,htv⟩:∃ tc:Array Value,tc=#[.pointer (some ⟨E.V,0,none⟩),.string h.key,.int .i64 h.b,.int .u64 h.s,.pointer h.ptr]∧υ E.V h=.agg tc:=⟨_,rfl,rfl⟩;rw[υ];go_enter func50,ntmps50;go_wp2_with fail;obtain⟨w0,hw0,hB0,hK0⟩:∃ w0,w0=w.alloc (.cells #[.pointer (some ⟨E.V,0,none⟩),.string h.key,.int .i64 h.b,.int .u64 h.s,.pointer h.ptr] 83)∧w0.heap[w.heap.size]?=some (.cells #[.pointer (some ⟨E.V,0,none⟩),.string h.key,.int .i64 h.b,.int .u64 h.s,.pointer h.ptr] 83)∧Kp [] w w0:=⟨_,rfl,ν _ _,(Kp.refl _ _).alloc _⟩;rw[←hw0];clear hw0;have hT0:=Env.To.of0 HD.out hK0;refine (qZ5 E n h l w0 (Env.RL hR HD.out hT0) g1).mono ?_;rintro e w1 ⟨rfl,hK1⟩;have hT1:=hT0.tail hK1;have hB1:=hK1.hp hB0;have hBs:=ζ hB1;have b0:=ξ hB1;go_wp2_with fail;refine (qX6 E n h l w1 hT1.dev (Env.RL hR HD.out hT1)).mono ?_;rintro e w2 ⟨q,rfl,hN2,hT2⟩;have hT2':=hT1.trans hT2;have hB2:=hT2.new HD.out (Nat.le_refl _) hB1;have HT2:=zh hT2';have HB2:=zh hB2;have HN2:=zh hN2;clear hT2 hT2' hB2 hN2 hK1 hT1 hB1 hK0 hT0 hB0 b0 hBs;go_wp2
  go_loopw [6] (fun s wr=>zM3 E w wr k all s∧E.To w wr∧wr.heap[w.heap.size]?=some (.cells #[.pointer (some ⟨E.V,0,none⟩),.string h.key,.int .i64 h.b,.int .u64 h.s,.pointer h.ptr] 83)) (fun s wr=>qU2 wr s)
  case atStart=>exact⟨⟨n,l.sub,l.key,q,rfl,HN2.out,HG.out,by rw[g1];exact qP0 _,by omega,by rw[hall],by omega⟩,HT2.out,HB2.out⟩
  case round=>
   obtain⟨⟨m,t,lo,q',rfl,hN,hgd,hklo,hc1,hget,hm⟩,hT,hB⟩:=hrel
   cases m with
   | zero=>
    have hlv0:qU2 wr (.pointer (some ⟨q',0,none⟩))=0:=zI9 hN;obtain⟨vp,hq,hsl⟩:=hN;have hqs:=ζ hq;have q0:=ξ hq 0;simp only[ρ,zG,zH,zI] at q0;have hcl:(prs t).length≤10000:=qK1 0 lo t hgd;clear hlv0;go_wp2_with fail;refine (zD5 q' 0 vp _ (prs t) k wr hq hsl (by omega) hgd.sorted).mono ?_;rintro e w3 ⟨rfl,hK3⟩;have hT3:=hT.tail hK3;have hq3:=hK3.hp hq;have hs3:=hsl.keep0 hK3;have HE:Hid (qH8 all k=if qF7 (prs t) (qB8 (prs t) k) k then (prs t)[qB8 (prs t) k]? else none):=by
     show _=_;rw[hget];exact xT5 (l:=prs t) hgd.sorted k
    have HT3:=zh hT3;have hqs3:=ζ hq3;have r1:=ξ hq3 1;simp only[ρ,zG,zH,zI] at r1;obtain⟨i,hi0⟩:∃ i,qB8 (prs t) k=i:=⟨_,rfl⟩;rw[hi0] at HE ⊢;by_cases hat:qF7 (prs t) i k=true
    ·have hit:i<(prs t).length:=by
      unfold qF7 at hat;by_cases h:i<(prs t).length
      ·exact h
      ·rw[List.getElem?_eq_none (by omega)] at hat;cases hat
     have he:=HE.out;rw[if_pos hat,List.getElem?_eq_getElem hit] at he;have HE2:=zh he;obtain⟨gb,off,cp,cur,fr,rfl,hcp,hrow,hcur⟩:=hs3.pair (by omega);obtain⟨_,c1⟩:=hcur i hit;have a1:=ξ hrow (off+i*2+1);rw[c1] at a1;have hgs:=ζ hrow;have hib:(i:Int)<((prs t).length:Int):=by omega
     rw[hat];clear hcur hs3 hsl he HE hget hgd hq hT hK3 hT3 hi0 q0 hqs;go_wp2
     go_ret2
     refine⟨?_,HT3.out⟩;rw[HA.out,zG2,HE2.out];rfl
    ·have hat0:qF7 (prs t) i k=false:=by simpa using hat
     have he:=HE.out;rw[hat0] at he;have he2:qH8 all k=none:=by simpa using he
     have HE2:=zh he2;rw[hat0];clear hs3 hsl he he2 HE hget hgd hq hT hK3 hT3 hi0 q0 hqs;go_wp2
     go_ret2
     refine⟨?_,HT3.out⟩;rw[HA.out,zG2,HE2.out];rfl
   | succ m=>
    have hlv1:qU2 wr (.pointer (some ⟨q',0,none⟩))=m+1:=zI9 hN;have HLV:=zh hlv1;obtain⟨vl,hq,hs,hsl,hb⟩:=hN;obtain⟨hwlt,hw1,hw2,hw3,hw4⟩:=xD6 hgd hklo hc1;have hcl:(η t).length≤10000:=(qK1 (m+1) lo t hgd).1;have hbl:=hb.1;have hwb:hs.findIdx (fun l=>kl k l.key)-1=qB2 (η t) k:=by unfold qB2;rw[zL8 hb]
    have hrise:Rise hs:=zC8 hb hgd.pair;obtain⟨gb,off,cp,cur,fr,rfl,hcp,hrow,hcur⟩:=hsl.link (by omega);obtain⟨i,hi0⟩:∃ i,qB2 (η t) k=i:=⟨_,rfl⟩;simp only[hi0] at hwlt hw1 hw2 hw3 hw4 hwb;have hil:i<hs.length:=by omega
    obtain⟨c0,c1,c2,c3⟩:=hcur i hil;have HRL:Hid (RL E.O m wr hs[i] (η t)[i]):=hb.2 i hil hwlt;have hqs:=ζ hq;have q0:=ξ hq 0;simp only[ρ,zG,zH,zI] at q0;have hlp:(0:Int)<((m+1:Nat):Int):=by omega
    have HEND:Hid (∀ (W:World) (q2:Nat),RN E.O m W q2 (η t)[i].sub→E.To w W→W.heap[w.heap.size]?=some (.cells #[.pointer (some ⟨E.V,0,none⟩),.string h.key,.int .i64 h.b,.int .u64 h.s,.pointer h.ptr] 83)→(zM3 E w W k all (.pointer (some ⟨q2,0,none⟩))∧E.To w W∧W.heap[w.heap.size]?=some (.cells #[.pointer (some ⟨E.V,0,none⟩),.string h.key,.int .i64 h.b,.int .u64 h.s,.pointer h.ptr] 83))∧qU2 W (.pointer (some ⟨q2,0,none⟩))<m+1):=by
     show ∀ (W:World) (q2:Nat),_;intro W q2 h1 h2 h3;refine⟨⟨⟨m,_,_,q2,rfl,h1,hw1,hw3,by omega,by rw[hget,hw4],by omega⟩,h2,h3⟩,?_⟩;rw[zI9 h1];omega
    have HWAY:Hid (∀ W:World,Kp [] wr W→Calls prog 88 #[.pointer (some ⟨q',0,none⟩),.string k] W fun e w'=>e=.returned (.int .i64 (i:Nat))∧Kp [] W w'):=by
     show ∀ W:World,_;intro W hKW;have:=zL9 q' _ _ _ hs k W (hKW.hp hq) (hsl.keep0 hKW) (by omega) hrise;rw[hwb] at this;exact this
    clear hget hw1 hw2 hw3 hw4 hwb hrise hcur hb hgd hi0;go_wp2_with fail;have hS0:wr.heap[q']?=some (ρ ((m+1:Nat):Int) (.slice none 0 0) (.slice (some ⟨gb,off,none⟩) hs.length cp))∧wr.heap[gb]?=some (.cells cur 81 fr)∧wr.heap[w.heap.size]?=some (.cells #[.pointer (some ⟨E.V,0,none⟩),.string h.key,.int .i64 h.b,.int .u64 h.s,.pointer h.ptr] 83):=⟨hq,hrow,hB⟩;refine wp_region_held_drew (S:=fun W=>W.heap[q']?=some (ρ ((m+1:Nat):Int) (.slice none 0 0) (.slice (some ⟨gb,off,none⟩) hs.length cp))∧W.heap[gb]?=some (.cells cur 81 fr)∧W.heap[w.heap.size]?=some (.cells #[.pointer (some ⟨E.V,0,none⟩),.string h.key,.int .i64 h.b,.int .u64 h.s,.pointer h.ptr] 83)) (by kernel_rfl) hS0 (fun _=>?_);refine zW 0 (.agg #[.pointer (some ⟨E.V,0,none⟩),.string h.key,.int .i64 h.b,.int .u64 h.s,.pointer h.ptr]) hS0 (·.2.2) ?_;refine zP 1 q' 0 hS0 ?_;refine zP 2 q' 0 hS0 ?_;refine zP 3 q' 2 hS0 ?_;refine zV 4 (.slice (some ⟨gb,off,none⟩) hs.length cp) rfl (fun W hS=>by have a0:=ξ hS.1 2;simp only[ρ,zG,zH,zI] at a0;clear hS;go_simp) hS0 ?_;refine zP 5 q' 0 hS0 ?_;refine zU 6 (.string k) hS0 ?_;refine zP 10 q' 0 hS0 ?_;refine zP 11 q' 0 hS0 ?_;refine zP 12 q' 0 hS0 ?_;refine zV 13 (.int .i64 ((m+1:Nat):Int)) rfl (fun W hS=>by have a0:=ξ hS.1 0;simp only[ρ,zG,zH,zI] at a0;clear hS;go_simp) hS0 ?_;refine zq 7 fun K hK=>?_;go_simp;refine (HWAY.out wr.drew ((Kp.refl _ _).drew)).mono ?_;rintro e w3 ⟨rfl,hK3⟩;have hK3':Kp [] wr w3:=((Kp.refl _ wr).drew).tr hK3;have hS1:=And.intro (hK3'.hp hq) (And.intro (hK3'.hp hrow) (hK3'.hp hB));have hT3:=hT.tail hK3';refine hK.out _ _ hS1 (fun _=>?_);clear hK K hK3 hS0
    try simp only[zZ]
    refine zU 8 (.pointer (some ⟨gb,off+i*4,none⟩)) hS1 ?_;refine zV 9 (.agg #[.string hs[i].key,.int .i64 hs[i].b,.int .u64 hs[i].s,.pointer hs[i].ptr]) rfl (fun W hS=>by have a0:=ξ hS.2.1 (off+i*4);have a1:=ξ hS.2.1 (off+i*4+1);have a2:=ξ hS.2.1 (off+i*4+2);have a3:=ξ hS.2.1 (off+i*4+3);rw[c0] at a0;rw[c1] at a1;rw[c2] at a2;rw[c3] at a3;clear hS;go_simp) hS1 ?_;refine zq 14 fun K hK=>?_;go_simp;refine (qJ5 E m hs[i] h (η t)[i] ((m+1:Nat):Int) w3 hT3.dev (RL.keep HRL.out hK3' (Apt.nil _ _)) (by omega)).mono ?_;rintro e w4 ⟨q2,rfl,hN4,hT4⟩;have hT4':=hT3.trans hT4;have hB4:=hT4.new HD.out (Nat.le_refl _) hS1.2.2;have hS2:w4.heap[q']?=some (ρ ((m+1:Nat):Int) (.slice none 0 0) (.slice (some ⟨gb,off,none⟩) hs.length cp))∧w4.heap[gb]?=some (.cells cur 81 fr)∧w4.heap[w.heap.size]?=some (.cells #[.pointer (some ⟨E.V,0,none⟩),.string h.key,.int .i64 h.b,.int .u64 h.s,.pointer h.ptr] 83):=
     ⟨hT4.kp.heap hS1.1 (fun hm=>E.apt w3 hT3.dev _ hm _ _ _ hS1.1 (by decide)),hT4.kp.heap hS1.2.1 (fun hm=>E.apt w3 hT3.dev _ hm _ _ _ hS1.2.1 (by decide)),hB4⟩
    refine hK.out _ _ hS2 (fun _=>?_);clear hK K
    try simp only[zZ]
    refine zq 15 fun K hK=>?_;go_simp;refine hK.out _ _ hS2 (fun _=>?_);clear hK K;refine zd ?_;have HR:=HEND.out w4 q2 hN4 hT4' hB4;clear hS1 hS2 hN4 hT4 hT4' hB4 HEND HWAY;go_wp2;rw[HLV.out];exact HR
end Go.Proofs.YtdohpenfkdckiabGreatDoor
