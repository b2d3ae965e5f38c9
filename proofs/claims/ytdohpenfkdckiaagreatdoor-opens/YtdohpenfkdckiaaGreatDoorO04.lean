import Derived.Test.YtdohpenfkdckiaaGreatDoorO03
import Derived.Conc.MuLib
import Derived.Conc.MuLone
import Derived.KernelRfl
import Derived.Laws.Strings
import Derived.Laws.Cover1
import Derived.Lib.AppendZerosOnto
import Derived.Lib.SliceRun
import Derived.Laws.AppendOwnNone
set_option linter.all false
set_option maxRecDepth 100000
set_option maxHeartbeats 20000000
namespace Go.Proofs.YtdohpenfkdckiaaGreatDoor
open Go.Proofs.Tryz
open Go.RowKit Go.Extern.Stop Go.Stop Go.Extern
theorem zS9(F:Nat)(call:ByteArray)(x:Value)(w:World)(hF:w.heap[F]?=some (.cells #[.string call,x] 246)):
  Calls prog 353 #[.pointer (some ⟨F,0,none⟩)] w fun e w'=>e=.returned x∧w'=w:=by
 have c1:=ξ hF 1;simp at c1;clear hF;go_enter func353,ntmps353;go_wp2;go_ret;exact⟨rfl,rfl⟩
theorem qV0(F E a:Nat)(call:ByteArray)(k:Int)(w:World)(hF:w.heap[F]?=some (.cells #[.string call,.iface 45 (.int .i64 k)] 246))(hE:w.heap[E]?=some (.cells #[.int .i64 0] 45))(ha:w.heap[a]?=some (.cells #[.pointer (some ⟨E,0,none⟩)] 95)):
  Calls prog 98 #[.iface 243 (.pointer (some ⟨F,0,none⟩)),.iface 95 (.pointer (some ⟨E,0,none⟩)),.agg #[.pointer (some ⟨5,95,none⟩),.pointer (some ⟨a,0,none⟩),.int .u64 150],.iface 220 (.agg #[.pointer (some ⟨5,45,none⟩)])] w fun e w'=>e=.returned (.bool true)∧w'.heap[E]?=some (.cells #[.int .i64 k] 45)∧Kp [E] w w':=by
 have h90:=@run_callFunc_extern prog 95 _ (fun args=>ReflectliteValue.unpack (args.getD 0 (.tuple #[]))) func95 (by kernel_rfl) (by kernel_rfl) (by kernel_rfl) (by kernel_rfl);have h142:=@run_callFunc_extern prog 151 _ ReflectliteType.typeOf func151 (by kernel_rfl) (by kernel_rfl) (by kernel_rfl) (by kernel_rfl);have h285:=@run_callFunc_extern prog 342 _ (ReflectliteType.relation "AssignableTo" ReflectliteType.assignableTo) func342 (by kernel_rfl) (by kernel_rfl) (by kernel_rfl) (by kernel_rfl);have h143:=@run_callFunc_extern prog 152 _ (ReflectliteValue.method (ReflectliteValue.valueError "reflectlite.Value.Elem" 0) ReflectliteValue.elem) func152 (by kernel_rfl) (by kernel_rfl) (by kernel_rfl) (by kernel_rfl);have h144:=@run_callFunc_extern prog 153 _ ReflectliteValue.set func153 (by kernel_rfl) (by kernel_rfl) (by kernel_rfl) (by kernel_rfl);have tF:=qX0;have tE:=qN1;have mA:=qW1;have mU:=qM9;have aF:=qV2;have aE:=qV1;have vE:=qX2;have ta1:∀ W:World,Sem.run prog (Instr.typeAssert (.iface 243 (.pointer (some ⟨F,0,none⟩))) 38 225 true) W=.ok (.tuple #[.nilIface,.bool false]) W:=fun W=>run_typeAssert_lacksB underlying225 (by kernel_rfl) (by kernel_rfl) _ _ W;have ta2:∀ W:World,Sem.run prog (Instr.typeAssert (.iface 243 (.pointer (some ⟨F,0,none⟩))) 38 228 true) W=.ok (.tuple #[.iface 243 (.pointer (some ⟨F,0,none⟩)),.bool true]) W:=fun W=>run_typeAssert_hasB underlying228 (by kernel_rfl) _ _ W;have hEs:=ζ hE;have hFs:=ζ hF;have has:=ζ ha;go_enter func98,ntmps98;go_wp2;refine wp_loop_rounds 3 ?_;rw[rounds_succ];go_wp2_with fail;obtain⟨W1,hW1,hK1,hs1⟩:∃ W1,W1=w.alloc (.cells #[.pointer (some ⟨5,95,none⟩),.pointer (some ⟨a,0,none⟩),.int .u64 150] 143)∧Kp [E] w W1∧W1.heap.size=w.heap.size+1:=⟨_,rfl,(Kp.refl _ _).alloc _,by simp⟩;have hF1:W1.heap[F]?=some (.cells #[.string call,.iface 45 (.int .i64 k)] 246):=by rw[hW1];exact η _ hF
 have hE1:W1.heap[E]?=some (.cells #[.int .i64 0] 45):=by rw[hW1];exact η _ hE
 have ha1:W1.heap[a]?=some (.cells #[.pointer (some ⟨E,0,none⟩)] 95):=by rw[hW1];exact η _ ha
 have hv1:W1.heap[w.heap.size]?=some (.cells #[.pointer (some ⟨5,95,none⟩),.pointer (some ⟨a,0,none⟩),.int .u64 150] 143):=by rw[hW1];exact κ _ _
 rw[←hW1];clear hW1;have v0:=ξ hv1 0;have v1:=ξ hv1 1;have v2:=ξ hv1 2;have a0:=ξ ha1 0;simp at v0 v1 v2 a0;have eV:=qV6 ⟨a,0,none⟩ ⟨E,0,none⟩ W1 a0;have hb2:=ξ (κ W1 (.cells #[.int .i64 k] 45)) 0;have he2:=ξ (η (.cells #[.int .i64 k] 45) hE1) 0;have hfz2:=τ (η (.cells #[.int .i64 k] 45) hE1) 0;simp at hb2 he2;have sE:=qW8 ⟨E,0,none⟩ ⟨W1.heap.size,0,none⟩ k (.int .i64 0) (W1.alloc (.cells #[.int .i64 k] 45)) (by simp) (by simpa using he2) hfz2;rw[hs1] at sE;clear hb2 he2 hfz2;refine (zS9 F call _ _ hF1).mono ?_;rintro e w2 ⟨rfl,rfl⟩;go_wp2_with fail;rw[rounds_succ];go_wp2;go_ret;refine⟨rfl,?_,?_⟩
 ·first
   | exact θ (η _ hE1) 0 _
   | exact η _ (θ hE1 0 _)
 ·first
   | exact (hK1.alloc _).sc _
   | exact (hK1.sc _).alloc _
theorem qU9(F E:Nat)(call:ByteArray)(k:Int)(w:World)(hg:w.cell? ⟨0,0,none⟩=some qB2)(hF:w.heap[F]?=some (.cells #[.string call,.iface 45 (.int .i64 k)] 246))(hE:w.heap[E]?=some (.cells #[.int .i64 0] 45)):
  Calls prog 53 #[.iface 243 (.pointer (some ⟨F,0,none⟩)),.iface 95 (.pointer (some ⟨E,0,none⟩))] w fun e w'=>e=.returned (.bool true)∧w'.heap[E]?=some (.cells #[.int .i64 k] 45)∧Kp [E] w w':=by
 have h90:=@run_callFunc_extern prog 95 _ (fun args=>ReflectliteValue.unpack (args.getD 0 (.tuple #[]))) func95 (by kernel_rfl) (by kernel_rfl) (by kernel_rfl) (by kernel_rfl);have h91:=@run_callFunc_extern prog 96 _ (ReflectliteValue.methodAny (ReflectliteValue.valueError "reflectlite.Value.Type" 0) (fun t _ _ _=>ReflectliteType.toType t)) func96 (by kernel_rfl) (by kernel_rfl) (by kernel_rfl) (by kernel_rfl);have h92:=@run_callFunc_extern prog 97 _ (ReflectliteValue.method (ReflectliteValue.valueError "reflectlite.Value.IsNil" 0) ReflectliteValue.isNil) func97 (by kernel_rfl) (by kernel_rfl) (by kernel_rfl) (by kernel_rfl);have h266:=@run_callFunc_extern prog 322 _ (ReflectliteType.abiMethod fun t=>do pure (.int .u8 (←Rtype.kind t))) func322 (by kernel_rfl) (by kernel_rfl) (by kernel_rfl) (by kernel_rfl);have h287:=@run_callFunc_extern prog 344 _ (ReflectliteType.method ReflectliteType.elem) func344 (by kernel_rfl) (by kernel_rfl) (by kernel_rfl) (by kernel_rfl);have h288:=@run_callFunc_extern prog 345 _ (ReflectliteType.relation "Implements" ReflectliteType.implements_) func345 (by kernel_rfl) (by kernel_rfl) (by kernel_rfl) (by kernel_rfl);have vO:=qX1;have tY:=qW9;have mK:=qW4;have mE:=qW2;have mI:=qW3;have kP:=qW0;have kE:=qV9;have eL:=qV4;have iM:=qV7;have hEs:=ζ hE;have hFs:=ζ hF;have hgl:0<w.heap.size:=by omega
 have nN:=qV8 ⟨w.heap.size,0,none⟩ ⟨E,0,none⟩ ((w.alloc (.cells #[.pointer (some ⟨E,0,none⟩)] 95)).alloc (.cells #[.pointer (some ⟨5,95,none⟩),.pointer (some ⟨w.heap.size,0,none⟩),.int .u64 150] 143)) (by simp);have hg2:((w.alloc (.cells #[.pointer (some ⟨E,0,none⟩)] 95)).alloc (.cells #[.pointer (some ⟨5,95,none⟩),.pointer (some ⟨w.heap.size,0,none⟩),.int .u64 150] 143)).cell? ⟨0,0,none⟩=some (.iface 220 (.agg #[.pointer (some ⟨5,38,none⟩)])):=by
  rw[World.cell?_alloc_lt _ _ ⟨0,0,none⟩ (by simp),World.cell?_alloc_lt _ _ ⟨0,0,none⟩ hgl];exact hg
 clear hg;go_enter func53,ntmps53;go_wp2_with fail;refine (qV0 F E w.heap.size call k _ (η _ (η _ hF)) (η _ (η _ hE)) (η _ (κ _ _))).mono ?_;rintro e w1 ⟨rfl,hE1,hK1⟩;have hK1':Kp [E] w w1:=(((Kp.refl [E] w).alloc _).alloc _).tr hK1;clear h90 h91 h92 h266 h287 h288 vO tY mK mE mI kP kE eL iM nN hg2 hK1;go_wp2;go_ret;exact⟨rfl,hE1,hK1'⟩
end Go.Proofs.YtdohpenfkdckiaaGreatDoor
namespace Go.Proofs.YtdohpenfkdckiaaGreatDoor
open Go.Proofs.Tryz
open Go.RowKit
theorem qI6(w:World):Calls prog 24 #[.nilIface] w fun e w'=>e=.returned (.int .i64 0)∧w'=w:=by
 go_enter func24,ntmps24;go_wp2;go_ret;exact⟨rfl,rfl⟩
theorem qM2(F:Nat)(call:ByteArray)(k:Int)(w:World)(hg:w.cell? ⟨0,0,none⟩=some qB2)(hF:w.heap[F]?=some (.cells #[.string call,.iface 45 (.int .i64 k)] 246)):
  Calls prog 24 #[.iface 243 (.pointer (some ⟨F,0,none⟩))] w fun e w'=>e=.returned (.int .i64 k)∧Kp [] w w':=by
 have hFs:=ζ hF;have hgl:0<w.heap.size:=by omega
 go_enter func24,ntmps24;go_wp2_with fail;refine (qU9 F w.heap.size call k _ (by rw[World.cell?_alloc_lt _ _ ⟨0,0,none⟩ hgl];exact hg) (η _ hF) (κ _ _)).mono ?_;rintro e w1 ⟨rfl,hE1,hK1⟩;have hK1':Kp [] w w1:=((Kp.refl [] w).alloc _).trans hK1 (by intro i hi hlt;simp at hi;omega);have c0:=ξ hE1 0;simp at c0;clear hK1 hg;go_wp2;go_ret;exact⟨rfl,hK1'⟩
end Go.Proofs.YtdohpenfkdckiaaGreatDoor
namespace Go.Proofs.YtdohpenfkdckiaaGreatDoor
open Go.Proofs.Tryz
abbrev zI5:Go.Conc.Locks.MuLink:={ lock:=105,unlock:=106,ilock:=165,iunlock:=166,lockSlow:=231,unlockSlow:=234,disable:=227,enable:=229,acquire:=230,relMerge:=232,cas32:=228,add32:=233,tMutex:=164,tIMutex:=162,tPMutex:=242,tPIMutex:=306,tPI32:=308,tUP:=140,tNoCopy:=159,tU32:=160 }
theorem qK7:Go.Conc.Locks.MuLib prog zI5:=
 ⟨func105,func106,func165,func166,func227,func229,func230,func232,func228,func233,underlying162,runUnderlying162,sizeOf162,isAgg162,zeroValue162,underlying164,runUnderlying164,sizeOf164,isAgg164,zeroValue164,underlying242,runUnderlying242,sizeOf242,isAgg242,zeroValue242,underlying306,runUnderlying306,sizeOf306,isAgg306,zeroValue306,underlying308,runUnderlying308,sizeOf308,isAgg308,zeroValue308,underlying140,runUnderlying140,sizeOf140,isAgg140,zeroValue140,underlying159,runUnderlying159,sizeOf159,isAgg159,zeroValue159,underlying21,runUnderlying21,sizeOf21,isAgg21,zeroValue21,(by kernel_rfl)⟩
end Go.Proofs.YtdohpenfkdckiaaGreatDoor
namespace Go.Proofs.YtdohpenfkdckiaaGreatDoor
open Go.Proofs.Tryz
open Go.RowKit Go.Extern.Stop Go.Stop Go.Extern
theorem zF9(w:World):((Extern.ReflectliteType.method fun t=>do Rtype.noPackHeld "Comparable" t;(fun a=>Value.bool a.comparable) <$> typeInfo t) #[.agg #[.pointer (some ⟨5,45,none⟩)]]).run prog w=.ok (.bool true) w:=by kernel_rfl
theorem zG3(h:Value)(w:World):(Go.method 513 220 (.agg #[h]) "Comparable").run prog w=.ok (343,.agg #[h]) w:=by kernel_rfl
theorem zG0(k:Int)(w:World):Sem.run prog (binOp .eql 38 (.iface 45 (.int .i64 k)) (.iface 45 (.int .i64 8))) w=.ok (.bool (k == 8)) w:=by
 kernel_rfl
theorem zG6(v:Value)(xT:TypeId)(w:World):(Instr.typeAssert (.iface 243 v) xT 313 true).run prog w=.ok (.tuple #[.nilIface,.bool false]) w:=run_typeAssert_lacksB underlying313 (by kernel_rfl) (by kernel_rfl) v xT w
theorem zG5(v:Value)(xT:TypeId)(w:World):(Instr.typeAssert (.iface 45 v) xT 313 true).run prog w=.ok (.tuple #[.nilIface,.bool false]) w:=run_typeAssert_lacksB underlying313 (by kernel_rfl) (by kernel_rfl) v xT w
theorem zG7(v:Value)(xT:TypeId)(w:World):(Instr.typeAssert (.iface 45 v) xT 228 true).run prog w=.ok (.tuple #[.nilIface,.bool false]) w:=run_typeAssert_lacksB underlying228 (by kernel_rfl) (by kernel_rfl) v xT w
theorem zG8(v:Value)(xT:TypeId)(w:World):(Instr.typeAssert (.iface 45 v) xT 229 true).run prog w=.ok (.tuple #[.nilIface,.bool false]) w:=run_typeAssert_lacksB underlying229 (by kernel_rfl) (by kernel_rfl) v xT w
theorem zG2(v:Value)(xT:TypeId)(w:World):(Instr.typeAssert (.iface 243 v) xT 228 true).run prog w=.ok (.tuple #[.iface 243 v,.bool true]) w:=run_typeAssert_hasB underlying228 (by kernel_rfl) v xT w
theorem zG1(F:Nat)(call:ByteArray)(k:Int)(w:World)(hk:k≠8)(hF:w.heap[F]?=some (.cells #[.string call,.iface 45 (.int .i64 k)] 246)):
  Calls prog 109 #[.iface 243 (.pointer (some ⟨F,0,none⟩)),.iface 45 (.int .i64 8)] w fun e w'=>e=.returned (.bool false)∧w'=w:=by
 have h151:=@run_callFunc_extern prog 151 _ ReflectliteType.typeOf func151 (by kernel_rfl) (by kernel_rfl) (by kernel_rfl) (by kernel_rfl);have hcmp:=@run_callFunc_extern prog 343 _ (Extern.ReflectliteType.method fun t=>do Rtype.noPackHeld "Comparable" t;pure (.bool (←typeInfo t).comparable)) func343 (by kernel_rfl) (by kernel_rfl) (by kernel_rfl) (by kernel_rfl);have tT:=qN1;have cT:=zF9;have mR:=zG3;have nF:=zG6;have nE:=zG5;have uE:=zG7;have vE:=zG8;have uF:=zG2;have mU:=qM9;have hq:=run_eql_iface_types (P:=prog) 243 45 (.pointer (some ⟨F,0,none⟩)) (.int .i64 8) underlying38 (by decide) w;have hb:(k == 8)=false:=by simp[hk]
 have he:=zG0 k w;rw[hb] at he;clear hk hb;have hFs:=ζ hF;have c1:=ξ hF 1;simp only[zG,zH,zI] at c1;go_enter func109,ntmps109;go_wp2;refine wp_loop_rounds 2 ?_;rw[rounds_succ];go_wp2;rw[rounds_succ];go_wp2;go_ret;exact⟨rfl,rfl⟩
end Go.Proofs.YtdohpenfkdckiaaGreatDoor
namespace Go.Proofs.YtdohpenfkdckiaaGreatDoor
open Go.Proofs.Tryz
open Go.RowKit Go.MuLone
def qS8(k:Int):Value:=.iface 182 (.agg #[.iface 45 (.int .i64 k)])
def qB5:Option Int→Ending
 | none=>.returned (.tuple #[])
 | some k=>.panicked [{ v:=qS8 k,recovered:=false }]
def qG7(w:World)(v:Value):Option Int→Prop
 | none=>v=.nilIface
 | some k=>∃ F call,v=.iface 243 (.pointer (some ⟨F,0,none⟩))∧w.heap[F]?=some (.cells #[.string call,.iface 45 (.int .i64 k)] 246)
theorem qY7(f:Nat)(cap:Array Value)(call:ByteArray)(k:Int)(w:World)(R:World→Prop)(hcf:∀ W:World,Sem.run prog (callFunc f cap) W=.ok (.enter f cap) W)
  (hw:Calls prog f cap ((w.alloc (.cells #[.string call] 9)).alloc (.cells #[.nilIface] 38)) fun e w'=>e=.panicked [{ v:=qS8 k,recovered:=false }]∧R w'∧w'.heap[w.heap.size+1]?=some (.cells #[.nilIface] 38)∧w'.heap[w.heap.size]?=some (.cells #[.string call] 9)):
  Calls prog 107 #[.string call,.func (.func f) #[] cap] w fun e w'=>∃ F,e=.returned (.iface 243 (.pointer (some ⟨F,0,none⟩)))∧w'.heap[F]?=some (.cells #[.string call,.iface 45 (.int .i64 k)] 246)∧∃ w1,R w1∧w1.heap.size≤F∧Kp [w.heap.size+1] w1 w':=by
 have hmf:=zM;have HW:=zh hw;clear hw
 go_enter_defers func107,ntmps107
 go_wp2_with fail;refine (show Calls _ _ _ _ _ from HW.out).mono ?_;rintro e w1 ⟨rfl,hR,hE,hB⟩;have HR:=zh hR;clear hR;go_wp2;refine leaves_cons (f:=167) (args:=#[.pointer (some ⟨w.heap.size,0,none⟩),.pointer (some ⟨w.heap.size+1,0,none⟩)]) (by simp) (by simp[go_sem]) ?_;refine (qJ1 w.heap.size (w.heap.size+1) k call _ hB (by omega) hE).mono ?_;rintro e u' w2 ⟨rfl,rfl,F,hF,hF2,hE2,hK2⟩;have e0:=ξ hE2 0;simp at e0;simp[Leaves,settle,results,results107,go_sem,e0];exact⟨hF2,w1,HR.out,hF,hK2⟩
theorem zG4(k:Int)(w:World):Calls prog 109 #[.nilIface,.iface 45 (.int .i64 k)] w fun e w'=>e=.returned (.bool false)∧w'=w:=by
 have hb:∀ W:World,Sem.run prog (binOp .eql 38 .nilIface (.iface 45 (.int .i64 k))) W=.ok (.bool false) W:=fun W=>by kernel_rfl
 go_enter func109,ntmps109;go_wp2;go_ret;exact⟨rfl,rfl⟩
theorem qN6(args:Array Value)(W:World):Sem.run prog (callFunc 108 args) W=.ok (.enter 108 args) W:=by
 simp[go_sem,func108]
theorem qU7(k:Option Int)(S F St f:Nat)(s:Sto)(first cap:Array Value)(w:World)(R:World→Prop)(hS:w.heap[S]?=some (.cells #[.pointer (some ⟨St,0,none⟩)] 97))(hF:w.heap[F]?=some (.cells #[.func (.func f) first cap] 1))(hSt:w.heap[St]?=some (ν 1 s))(hpo:s.po=false)
  (hcf:∀ W:World,Sem.run prog (callFunc f (first++cap)) W=.ok (.enter f (first++cap)) W)
  (hw:Calls prog f (first++cap) w fun e w'=>e=qB5 k∧R w'):
  Calls prog 108 #[.pointer (some ⟨S,0,none⟩),.pointer (some ⟨F,0,none⟩)] w fun e w'=>e=qB5 k∧R w':=by
 have s0:=ξ hS 0;have f0:=ξ hF 0;have p7:=ξ hSt 7;simp[hpo] at s0 f0 p7;clear hS hF hSt;have HW:=zh hw;clear hw;go_enter func108,ntmps108;go_wp2_with fail;refine (show Calls _ _ _ _ _ from HW.out).mono ?_;rintro e w1 ⟨rfl,hR⟩
 cases k with
 | none=>
  simp only[qB5];go_wp2
  go_end0
  exact⟨rfl,hR⟩
 | some k=>
  simp only[qB5];go_wp2;exact⟨rfl,rfl,hR⟩
theorem qI8(k:Option Int)(hk8:k≠some 8)(St f:Nat)(s s':Sto)(first cap:Array Value)(call:ByteArray)(X:List Nat)(Q:World→World→Prop)(w:World)(hSt:w.heap[St]?=some (ν 0 s))(hpo:s.po=false)
  (hcf:∀ W:World,Sem.run prog (callFunc f (first++cap)) W=.ok (.enter f (first++cap)) W) (hX:∀ i,i∈X→i<w.heap.size)
  (hw:∀ W:World,Kp [St] w W→W.heap[St]?=some (ν 1 s)→Calls prog f (first++cap) W fun e w1=>e=qB5 k∧Q W w1∧Kp (St::X) W w1∧w1.heap[St]?=some (ν 1 s')):
  Calls prog 64 #[.pointer (some ⟨St,0,none⟩),.string call,.func (.func f) first cap] w fun e w'=>∃ v,e=.returned v∧qG7 w' v k∧w'.heap[St]?=some (ν 0 s')∧Kp (St::X) w w'∧∃ W w1 B,Q W w1∧Kp [St] w W∧w.heap.size≤B∧B<W.heap.size∧w1.heap[B]?=some (.cells #[.nilIface] 38)∧Kp [St,B] w1 w':=by
 have hmf:=zM;have HW:=zh hw;have HX:=zh hX;have HPO:=zh hpo;have HK8:=zh hk8;clear hw hX hpo hk8;have hSs:=ζ hSt
 go_enter_defers func64,ntmps64
 go_wp2_with fail;refine (lock_free qK7 ⟨St,0,none⟩ _ (ξ (η _ (η _ hSt)) 0) (τ (η _ (η _ hSt)) 0)).mono ?_;rintro e W0 ⟨rfl,rfl⟩;obtain⟨W0,hW0,hK0,hs0,hB0,hF0,hSt0⟩:∃ W0,W0=((w.alloc (.cells #[.pointer (some ⟨St,0,none⟩)] 97)).alloc (.cells #[.func (Fn.func f) first cap] 1)).setCell ⟨St,0,none⟩ (.int .i32 1)∧Kp [St] w W0∧W0.heap.size=w.heap.size+2∧W0.heap[w.heap.size]?=some (.cells #[.pointer (some ⟨St,0,none⟩)] 97)∧W0.heap[w.heap.size+1]?=some (.cells #[.func (Fn.func f) first cap] 1)∧W0.heap[St]?=some (ν 1 s):=by
  refine⟨_,rfl,((((Kp.refl _ _).alloc _).alloc _).sc _),by simp[World.setCell],?_,?_,?_⟩
  ·exact (ρ (by omega) _ _).trans (η _ (κ _ _))
  ·refine (ρ (by omega) _ _).trans ?_;have e:=κ (w.alloc (.cells #[.pointer (some ⟨St,0,none⟩)] 97)) (.cells #[.func (Fn.func f) first cap] 1);simpa using e
  ·exact θ (η _ (η _ hSt)) 0 _
 rw[←hW0];clear hW0;have b0:=ξ hB0 0;simp at b0;go_wp2_with fail;obtain⟨Wc,hWc,hKc,hsc,hBc,hFc,hStc,hEc,hCc⟩:∃ Wc,Wc=(W0.alloc (.cells #[.string call] 9)).alloc (.cells #[.nilIface] 38)∧Kp [St] w Wc∧Wc.heap.size=w.heap.size+4∧Wc.heap[w.heap.size]?=some (.cells #[.pointer (some ⟨St,0,none⟩)] 97)∧Wc.heap[w.heap.size+1]?=some (.cells #[.func (Fn.func f) first cap] 1)∧Wc.heap[St]?=some (ν 1 s)∧Wc.heap[W0.heap.size+1]?=some (.cells #[.nilIface] 38)∧Wc.heap[W0.heap.size]?=some (.cells #[.string call] 9):=by
  refine⟨_,rfl,(hK0.alloc _).alloc _,by simp[hs0],η _ (η _ hB0),η _ (η _ hF0),η _ (η _ hSt0),?_,η _ (κ _ _)⟩;have e:=κ (W0.alloc (.cells #[.string call] 9)) (.cells #[.nilIface] 38);simpa using e
 have HA1:Hid (Calls prog 108 #[.pointer (some ⟨w.heap.size,0,none⟩),.pointer (some ⟨w.heap.size+1,0,none⟩)] Wc fun e w1=>e=qB5 k∧Q Wc w1∧Kp (St::X) Wc w1∧w1.heap[St]?=some (ν 1 s')):=
  qU7 k w.heap.size (w.heap.size+1) St f s first cap Wc (fun w1=>Q Wc w1∧Kp (St::X) Wc w1∧w1.heap[St]?=some (ν 1 s')) hBc hFc hStc HPO.out hcf (HW.out Wc hKc hStc)
 have HNM:Hid (∀ i,w.heap.size≤i→i ∉ St::X):=by
  show ∀ i,w.heap.size≤i→i ∉ St::X;intro i hi h;rcases List.mem_cons.1 h with h|h
  ·omega
  ·have:=HX.out _ h;omega
 clear HW
 cases k with
 | none=>
  refine (qJ0 108 _ _ _ (fun w1=>Q Wc w1∧Kp (St::X) Wc w1∧w1.heap[St]?=some (ν 1 s')) (qN6 _) ?_).mono ?_
  ·rw[←hWc];refine (show Calls _ _ _ _ _ from HA1.out).mono ?_;rintro e w1 ⟨rfl,hQ,hk,hst⟩;exact⟨rfl,⟨hQ,hk,hst⟩,hk.heap hEc (HNM.out _ (by omega))⟩
  rintro e w2 ⟨rfl,w1,⟨hQ,hk,hst⟩,rfl⟩;have hs1:=hk.size;have hEw1:=hk.heap hEc (HNM.out _ (by omega));obtain⟨w2,hw2,hst2,hK2,ho2⟩:∃ w2,w2=w1.setCell ⟨W0.heap.size+1,0,none⟩ .nilIface∧w2.heap[St]?=some (ν 1 s')∧Kp (St::X) w w2∧Kp [St,W0.heap.size+1] w1 w2:=
   ⟨_,rfl,(ρ (by omega) _ _).trans hst,(((hKc.mono (S':=St::X) (by simp)).trans hk (fun _ h _=>h)).setCell (Or.inr (by simp;omega)) _),(Kp.refl _ _).sc _⟩
  rw[←hw2];clear hw2
  go_wp2_with (go_at_call 109;refine (zG4 8 _).mono ?_;rintro e w' ⟨rfl,rfl⟩)
  refine leaves_cons (f:=106) (args:=#[.pointer (some ⟨St,0,none⟩)]) (by simp) (by simp[go_sem]) ?_;refine (unlock_deferred qK7 ⟨St,0,none⟩ .returning _ (ξ hst2 0) (τ hst2 0)).mono ?_;rintro e u' w'' ⟨rfl,rfl,rfl⟩;exact⟨_,results_tmp rfl _ _ _,.nilIface,rfl,rfl,θ hst2 0 _,hK2.sc _,Wc,w1,W0.heap.size+1,hQ,hKc,by omega,by omega,hEw1,ho2.sc _⟩
 | some k=>
  have hk8:k≠8:=fun h=>HK8.out (by rw[h]);have HK:=zh hk8;clear hk8;refine (qY7 108 _ _ k _ (fun w1=>Q Wc w1∧Kp (St::X) Wc w1∧w1.heap[St]?=some (ν 1 s')) (qN6 _) ?_).mono ?_
  ·rw[←hWc];refine (show Calls _ _ _ _ _ from HA1.out).mono ?_;rintro e w1 ⟨rfl,hQ,hk,hst⟩;exact⟨rfl,⟨hQ,hk,hst⟩,hk.heap hEc (HNM.out _ (by omega)),hk.heap hCc (HNM.out _ (by omega))⟩
  rintro e w2 ⟨F,rfl,hF2,w1,⟨hQ,hk,hst⟩,hFs,hKc2⟩;have hs1:=hk.size;have hEw1:=hk.heap hEc (HNM.out _ (by omega));have hst2:w2.heap[St]?=some (ν 1 s'):=hKc2.ho hst;have hK2:Kp (St::X) w w2:=((hKc.mono (S':=St::X) (by simp)).trans hk (fun _ h _=>h)).trans hKc2 (by intro i hi hlt;simp at hi;omega);have ho2:Kp [St,W0.heap.size+1] w1 w2:=hKc2.mono (by simp);have HIS:Hid (Calls prog 109 #[.iface 243 (.pointer (some ⟨F,0,none⟩)),.iface 45 (.int .i64 8)] w2 fun e w'=>e=.returned (.bool false)∧w'=w2):=zG1 F _ k w2 HK.out hF2;have hFSt:St<F:=by have:=ζ hst;omega
  go_wp2_with (go_at_call 109;refine (show Calls _ _ _ _ _ from HIS.out).mono ?_;rintro e w' ⟨rfl,rfl⟩)
  refine leaves_cons (f:=106) (args:=#[.pointer (some ⟨St,0,none⟩)]) (by simp) (by simp[go_sem]) ?_;refine (unlock_deferred qK7 ⟨St,0,none⟩ .returning _ (ξ hst2 0) (τ hst2 0)).mono ?_;rintro e u' w'' ⟨rfl,rfl,rfl⟩;exact⟨_,results_tmp rfl _ _ _,.iface 243 (.pointer (some ⟨F,0,none⟩)),rfl,⟨F,_,rfl,(ρ (by omega) _ _).trans hF2⟩,θ hst2 0 _,hK2.sc _,Wc,w1,W0.heap.size+1,hQ,hKc,by omega,by omega,hEw1,ho2.sc _⟩
end Go.Proofs.YtdohpenfkdckiaaGreatDoor
namespace Go.Proofs.YtdohpenfkdckiaaGreatDoor
open Go.Proofs.Tryz
def kl(a b:ByteArray):Bool:=Op.bytesLess a.toList b.toList
theorem qQ0:∀ (x y:List UInt8),Op.bytesLess x y=decide (x<y)
 | [],[]=>by simp[Op.bytesLess]
 | _::_,[]=>by simp[Op.bytesLess]
 | [],_::_=>by simp[Op.bytesLess]
 | a::x,b::y=>by
  rw[Op.bytesLess,qQ0 x y];simp only[List.cons_lt_cons_iff];by_cases h1:a<b<;>by_cases h2:a=b<;>by_cases h3:x<y<;>simp[h1,h2,h3]
theorem qN3{a b:ByteArray}(h:a.toList=b.toList):a=b:=by
 rw[ByteArray.toList_eq,ByteArray.toList_eq] at h;cases a;cases b;simp only[ByteArray.mk.injEq];exact Array.toList_inj.1 h
theorem zQ9(a b:ByteArray):(a.toList == b.toList)=decide (a=b):=by
 by_cases h:a=b
 ·simp[h]
 ·have:¬a.toList=b.toList:=fun e=>h (qN3 e);simp[h,this]
theorem qH4(a b:ByteArray):kl a b=true↔a.toList<b.toList:=by unfold kl;rw[qQ0];simp
theorem qG2(a b:ByteArray):kl a b=false↔b.toList≤a.toList:=by
 rw[←Bool.not_eq_true,qH4];exact List.not_lt
theorem qP6(a:ByteArray):kl a a=false:=(qG2 a a).2 (List.le_refl _)
theorem qH5{a b c:ByteArray}(h:kl a b=true)(k:kl b c=true):kl a c=true:=by
 rw[qH4] at *;exact List.lt_trans h k
theorem qK4{a b:ByteArray}(h:kl a b=true):kl b a=false:=by
 rw[qH4] at h;rw[qG2];exact List.le_of_lt h
theorem zH5{a b:ByteArray}(h:kl a b=false)(k:kl b a=false):a=b:=by
 rw[qG2] at *;exact qN3 (List.le_antisymm k h)
theorem zH3{a b c:ByteArray}(h:kl b a=false)(k:kl b c=true):kl a c=true:=by
 rw[qG2] at h;rw[qH4] at *;exact List.lt_of_le_of_lt h k
theorem zH4{a b c:ByteArray}(h:kl a b=true)(k:kl c b=false):kl a c=true:=by
 by_cases e:kl a c=true
 ·exact e
 ·have:=zH3 (a:=c) (b:=a) (c:=b) (by simpa using e) h;rw[k] at this;cases this
theorem zH1{a b c:ByteArray}(h:kl b a=false)(k:kl c b=false):kl c a=false:=by
 rw[qG2] at *;exact List.le_trans h k
theorem zH2(a b:ByteArray):(Op.bytesLess a.toList b.toList || a.toList == b.toList)=!kl b a:=by
 rw[zQ9];by_cases h:kl a b=true
 ·have:Op.bytesLess a.toList b.toList=true:=h;simp[this,qK4 h]
 ·have h':kl a b=false:=by simpa using h
  have h0:Op.bytesLess a.toList b.toList=false:=h';by_cases e:a=b
  ·subst e;simp[qP6]
  ·have:kl b a=true:=by
    by_cases h2:kl b a=true
    ·exact h2
    ·exact absurd (zH5 h' (by simpa using h2)) e
   simp[h0,e,this]
structure KV where
 k:ByteArray
 v:ByteArray
 deriving DecidableEq
def Sorted(l:List KV):Prop:=l.Pairwise fun a b=>kl a.k b.k=true
theorem Sorted.append{a b:List KV}:Sorted (a++b)↔Sorted a∧Sorted b∧∀ x∈a,∀ y∈b,kl x.k y.k=true:=List.pairwise_append
structure Lnk(X:Type) where
 key:ByteArray
 ref:Option (Nat × Int)
 sub:X
def Tn:Nat→Type
 | 0=>List KV
 | n+1=>List (Lnk (Tn n))
def cont:(n:Nat)→Tn n→List KV
 | 0,ps=>ps
 | n+1,ls=>List.flatMap (fun l:Lnk (Tn n)=>cont n l.sub) ls
def cnt:(n:Nat)→Tn n→Nat
 | 0,ps=>List.length (α:=KV) ps
 | n+1,ls=>List.length (α:=Lnk (Tn n)) ls
def qI2(p:KV):Nat:=1+p.k.size+p.v.size
def qH7{X:Type}(l:Lnk X):Nat:=11+l.key.size
def qD7{α:Type}(f:α→Nat)(l:List α):Nat:=(l.map f).sum
theorem zI4{α:Type}(f:α→Nat)(a:α)(b:List α):qD7 f (a::b)=f a+qD7 f b:=by simp[qD7]
inductive Root where
 | none
 | at (n:Nat) (l:Lnk (Tn n))
def Root.cont:Root→List KV
 | .none=>[]
 | .at n l=>YtdohpenfkdckiaaGreatDoor.cont n l.sub
def qH8(p:KV):Prop:=1≤p.k.size∧p.k.size≤8∧p.v.size≤12
def qM6{X:Type}(co:X→List KV)(a b:Lnk X):Prop:=kl a.key b.key=true∧∀ q∈co a.sub,kl q.k b.key=true
abbrev qG6(n:Nat)(a b:Lnk (Tn n)):Prop:=qM6 (cont n) a b
structure GoodL(lo:ByteArray)(ps:List KV):Prop where
 sorted:Sorted ps
 all:∀ p∈ps,qH8 p∧kl p.k lo=false
 fits:qD7 qI2 ps≤126
structure GoodB{X:Type}(G:ByteArray→X→Prop)(C:X→Nat)(co:X→List KV)(lo:ByteArray)(ls:List (Lnk X)):Prop where
 head:∀ l∈ls.head?,l.key=lo
 all:∀ l∈ls,G l.key l.sub∧3≤C l.sub∧l.key.size≤8
 pair:ls.Pairwise (qM6 co)
 fits:qD7 qH7 ls≤126
def Good:(n:Nat)→ByteArray→Tn n→Prop
 | 0,lo,ps=>GoodL lo ps
 | n+1,lo,ls=>GoodB (Good n) (cnt n) (cont n) lo ls
structure Row0(n:Nat)(lo:ByteArray)(ls:List (Lnk (Tn n))):Prop where
 head:∀ l∈ls.head?,l.key=lo
 all:∀ l∈ls,Good n l.key l.sub∧l.key.size≤8
 pair:ls.Pairwise (qG6 n)
theorem qK0:∀ (n:Nat) (lo:ByteArray) (t:Tn n),Good n lo t→Sorted (cont n t)∧∀ q∈cont n t,qH8 q∧kl q.k lo=false
 | 0,lo,ps,h=>⟨h.1,h.2⟩
 | n+1,lo,ls,h=>by
  obtain⟨hh,ha,hp,_⟩:=h;have ih:=fun l:Lnk (Tn n)=>qK0 n l.key l.sub;have key:∀ (ls:List (Lnk (Tn n))),(∀ l∈ls,Good n l.key l.sub)→ls.Pairwise (qG6 n)→Sorted (ls.flatMap fun l=>cont n l.sub)∧∀ q∈ls.flatMap (fun l=>cont n l.sub),qH8 q∧∀ l∈ls.head?,kl q.k l.key=false:=by
   intro ls
   induction ls with
   | nil=>intro _ _;simp[Sorted]
   | cons a ls ihl=>
    intro hg hp;obtain⟨hp1,hp2⟩:=List.pairwise_cons.1 hp;obtain⟨i1,i2⟩:=ihl (fun l hl=>hg l (by simp[hl])) hp2;obtain⟨a1,a2⟩:=ih a (hg a (by simp));have hlow:∀ q∈ls.flatMap (fun l=>cont n l.sub),∃ b∈ls,kl q.k b.key=false:=by
     intro q hq;obtain⟨b,hb,hq⟩:=List.mem_flatMap.1 hq;exact⟨b,hb,((ih b (hg b (by simp[hb]))).2 q hq).2⟩
    rw[List.flatMap_cons];refine⟨Sorted.append.2 ⟨a1,i1,?_⟩,?_⟩
    ·intro x hx y hy;obtain⟨b,hb,hyb⟩:=hlow y hy;exact zH4 ((hp1 b hb).2 x hx) hyb
    ·intro q hq;rcases List.mem_append.1 hq with hq|hq
     ·exact⟨(a2 q hq).1,by simpa using (a2 q hq).2⟩
     ·obtain⟨b,hb,hqb⟩:=hlow q hq;refine⟨(i2 q hq).1,?_⟩;simp only[List.head?_cons,Option.mem_def,Option.some.injEq,forall_eq'];exact zH1 (qK4 (hp1 b hb).1) hqb
  obtain⟨k1,k2⟩:=key ls (fun l hl=>(ha l hl).1) hp;refine⟨k1,fun q hq=>?_⟩;obtain⟨q1,q2⟩:=k2 q hq;refine⟨q1,?_⟩
  cases hls:(ls:List (Lnk (Tn n))) with
  | nil=>rw[show cont (n+1) ls=List.flatMap (fun l:Lnk (Tn n)=>cont n l.sub) ls from rfl,hls] at hq;simp at hq
  | cons a r=>
   have e:=hh a (by rw[hls];simp);have:=q2 a (by rw[hls];simp);rw[e] at this;exact this
section
variable {α:Type} (f:α→Nat)
end
def qC6{n:Nat}(t:Tn (n+1)):List (Lnk (Tn n)):=t
def prs(t:Tn 0):List KV:=t
def RGood:Root→Prop
 | .none=>True
 | .at n l=>l.key=⟨#[]⟩∧Good n l.key l.sub∧min n 1<cnt n l.sub
theorem zP7{r:Root}(h:RGood r):Sorted r.cont∧∀ q∈r.cont,qH8 q:=by
 cases r with
 | none=>exact⟨List.Pairwise.nil,fun q hq=>by cases hq⟩
 | «at» n l=>
  obtain⟨h1,h2,h3⟩:=h;exact⟨(qK0 n l.key l.sub h2).1,fun q hq=>((qK0 n l.key l.sub h2).2 q hq).1⟩
def Up(f:ByteArray→Bool):Prop:=∀ a b,kl a b=true→f a=true→f b=true
theorem zC0{l:List KV}{f:ByteArray→Bool}(h:∀ q∈l,f q.k=false):l.find? (fun q=>f q.k)=none:=by
 rw[List.find?_eq_none];intro q hq;simp[h q hq]
theorem zD0{n:Nat}{lo:ByteArray}{f:ByteArray→Bool}(hf:Up f){ls:List (Lnk (Tn n))}(h:Row0 n lo ls):
  (ls.flatMap fun l=>cont n l.sub).find? (fun q=>f q.k)=((ls.drop (ls.findIdx (fun l=>f l.key)-1)).flatMap fun l=>cont n l.sub).find? (fun q=>f q.k):=by
 by_cases h0:ls.findIdx (fun l=>f l.key)=0
 ·simp[h0]
 ·obtain⟨i,hi⟩:∃ i,i=ls.findIdx (fun l=>f l.key)-1:=⟨_,rfl⟩;rw[←hi];have hle:ls.findIdx (fun l=>f l.key)≤ls.length:=List.findIdx_le_length;have hlt:i<ls.length:=by omega
  have hm:f (ls[i]).key=false:=by
   have:=List.not_of_lt_findIdx (p:=fun l:Lnk (Tn n)=>f l.key) (xs:=ls) (i:=i) (by omega);simpa using this
  have hp:=h.pair;rw[←List.take_append_drop i ls,List.drop_eq_getElem_cons hlt] at hp;have hp3:=(List.pairwise_append.1 hp).2.2
  conv=>lhs;rw[←List.take_append_drop i ls,List.flatMap_append,List.find?_append]
  rw[zC0 fun q hq=>?_]
  ·simp
  ·obtain⟨a,ha,hq⟩:=List.mem_flatMap.1 hq;have:=(hp3 a ha ls[i] (List.mem_cons_self ..)).2 q hq;by_cases e:f q.k=true
   ·rw[hf _ _ this e] at hm;cases hm
   ·simpa using e
end Go.Proofs.YtdohpenfkdckiaaGreatDoor
namespace Go.Proofs.YtdohpenfkdckiaaGreatDoor
open Go.Proofs.Tryz
open Go.RowKit
theorem qS5(g:Nat)(cap:Array Value)(n:Nat)(P:Nat→Bool)(w:World)(hn:n≤1000000)(hup:∀ i j,i≤j→j<n→P i=true→P j=true)
  (hcf:∀ (args:Array Value) (W:World),Sem.run prog (callFunc g args) W=.ok (.enter g args) W)
  (hf:∀ W,Kp [] w W→∀ i:Nat,i<n→Calls prog g (#[.int .i64 i]++cap) W fun e W'=>e=.returned (.bool (P i))∧Kp [] W W'):
  Calls prog 213 #[.int .i64 n,.func (.func g) #[] cap] w fun e w'=>∃ i:Nat,e=.returned (.int .i64 i)∧(i≤n∧(∀ j,j<i→P j=false)∧(i<n→P i=true))∧Kp [] w w':=by
 have HF:=zh hf;have HU:=zh hup;clear hf hup;go_enter func213,ntmps213;go_wp2
 go_loopw [5,6] (fun s q wr=>∃ (i j:Nat),i≤j∧j≤n∧s=.int .i64 i∧q=.int .i64 j∧Hid ((∀ k,k<i→P k=false)∧(j<n→P j=true))∧Kp [] w wr) (fun s q _=>(intOf q-intOf s).toNat)
 case atStart=>exact⟨0,n,by omega,Nat.le_refl _,rfl,rfl,⟨fun k hk=>by omega,fun h=>by omega⟩,Kp.refl _ _⟩
 case round=>
  obtain⟨i,j,hij,hjn,rfl,rfl,hP,hK⟩:=hrel;by_cases hlt:i<j
  ·obtain⟨h,hh⟩:∃ h:Nat,((i:Int)+j) / 2=h:=⟨(i+j) / 2,by omega⟩;go_wp2_with fail
   try simp only[hh]
   refine (HF.out wr hK h (by omega)).mono ?_;rintro e w1 ⟨rfl,hK1⟩;have hK1':Kp [] w w1:=hK.tr hK1;by_cases hp:P h=true
   ·rw[hp];go_wp2;refine⟨⟨i,h,by omega,by omega,rfl,rfl,⟨hP.out.1,fun _=>hp⟩,hK1'⟩,by simp[intOf];omega⟩
   ·have hp0:P h=false:=by simpa using hp
    rw[hp0];go_wp2;refine⟨⟨h+1,j,by omega,by omega,by go_num,rfl,⟨fun k hk=>?_,hP.out.2⟩,hK1'⟩,by simp[intOf];omega⟩;by_cases e:P k=true
    ·have:=HU.out k h (by omega) (by omega) e;rw[hp0] at this;cases this
    ·simpa using e
  ·go_wp2;go_ret;have e:j=i:=by omega
   subst e;exact⟨j,rfl,⟨by omega,hP.out.1,hP.out.2⟩,hK⟩
theorem qP2{α:Type}{xs:List α}{f:α→Bool}{i:Nat}(h1:i≤xs.length)(h2:∀ j (h:j<xs.length),j<i→f xs[j]=false)(h3:∀ h:i<xs.length,f xs[i]=true):i=xs.findIdx f:=by
 rcases Nat.lt_trichotomy i (xs.findIdx f) with h|h|h
 ·have hle:xs.findIdx f≤xs.length:=List.findIdx_le_length;have:=List.not_of_lt_findIdx (p:=f) (xs:=xs) h;rw[h3 (by omega)] at this;simp at this
 ·exact h
 ·have hlt:xs.findIdx f<xs.length:=by omega
  have:=List.findIdx_getElem (p:=f) (xs:=xs) (w:=hlt);rw[h2 _ hlt h] at this;cases this
def Apt(w:World)(S:List Nat)(Ts:List TypeId):Prop:=∀ k∈S,∀ c t fr,w.heap[k]?=some (.cells c t fr)→t ∉ Ts
structure Slc(w:World)(T:TypeId)(sz:Nat)(v:Value)(n:Nat)(cs:List Value):Prop where
 len:cs.length=n*sz
 val:(n=0∧∃ b c,v=.slice b 0 c∧(b=none→c=0))∨∃ g off cap cur fr,v=.slice (some ⟨g,off,none⟩) n cap∧1≤n∧n≤cap∧w.heap[g]?=some (.cells cur T fr)∧∀ j u,cs[j]?=some u→cur[off+j]?=some u
theorem Slc.keep{w w':World}{T:TypeId}{sz:Nat}{v:Value}{n:Nat}{cs:List Value}{S:List Nat}(h:Slc w T sz v n cs)(hK:Kp S w w')(hS:Apt w S [T]):Slc w' T sz v n cs:=by
 refine⟨h.len,?_⟩;rcases h.val with h|⟨g,off,cap,cur,fr,h1,h2,h3,h4,h5⟩
 ·exact .inl h
 ·exact .inr ⟨g,off,cap,cur,fr,h1,h2,h3,hK.heap h4 (fun hm=>hS g hm _ _ _ h4 (by simp)),h5⟩
theorem Apt.nil(w:World)(Ts:List TypeId):Apt w [] Ts:=fun k hk=>by simp at hk
theorem Slc.keep0{w w':World}{T:TypeId}{sz:Nat}{v:Value}{n:Nat}{cs:List Value}(h:Slc w T sz v n cs)(hK:Kp [] w w'):Slc w' T sz v n cs:=h.keep hK (Apt.nil _ _)
def pcs(p:KV):List Value:=[.string p.k,.string p.v]
def qA9(ps:List KV):List Value:=ps.flatMap pcs
theorem qR9{ps:List KV}{i:Nat}(h:i<ps.length):(qA9 ps)[i*2]?=some (.string ps[i].k)∧(qA9 ps)[i*2+1]?=some (.string ps[i].v):=by
 induction ps generalizing i with
 | nil=>simp at h
 | cons p ps ih=>
  cases i with
  | zero=>simp[qA9,pcs]
  | succ i=>
   have:=ih (i:=i) (by simpa using h);have e1:(qA9 (p::ps))[(i+1)*2]?=(qA9 ps)[i*2]?:=by
    rw[show qA9 (p::ps)=.string p.k::.string p.v::qA9 ps from rfl,show (i+1)*2=i*2+1+1 by omega];simp
   have e2:(qA9 (p::ps))[(i+1)*2+1]?=(qA9 ps)[i*2+1]?:=by
    rw[show qA9 (p::ps)=.string p.k::.string p.v::qA9 ps from rfl,show (i+1)*2+1=i*2+1+1+1 by omega];simp
   rw[e1,e2];simpa using this
theorem Slc.pair{w:World}{v:Value}{ps:List KV}(h:Slc w 185 2 v ps.length (qA9 ps))(hn:1≤ps.length):
  ∃ g off cap cur fr,v=.slice (some ⟨g,off,none⟩) ps.length cap∧ps.length≤cap∧w.heap[g]?=some (.cells cur 185 fr)∧∀ i (h:i<ps.length),cur[off+i*2]?=some (.string ps[i].k)∧cur[off+i*2+1]?=some (.string ps[i].v):=by
 rcases h.val with⟨h0,_⟩|⟨g,off,cap,cur,fr,h1,h2,h3,h4,h5⟩
 ·omega
 ·exact⟨g,off,cap,cur,fr,h1,h3,h4,fun i hi=>⟨h5 _ _ (qR9 hi).1,h5 _ _ (qR9 hi).2⟩⟩
structure HL where
 key:ByteArray
 b:Int
 s:Int
 p:Option Nat
def HL.ptr(l:HL):Option Addr:=l.p.map fun q=>⟨q,0,none⟩
def lcs(l:HL):List Value:=[.string l.key,.int .i64 l.b,.int .u64 l.s,.pointer l.ptr]
def qC5(ls:List HL):List Value:=ls.flatMap lcs
theorem qH6{ls:List HL}{i:Nat}(h:i<ls.length):(qC5 ls)[i*4]?=some (.string ls[i].key)∧(qC5 ls)[i*4+1]?=some (.int .i64 ls[i].b)∧(qC5 ls)[i*4+2]?=some (.int .u64 ls[i].s)∧(qC5 ls)[i*4+3]?=some (.pointer ls[i].ptr):=by
 induction ls generalizing i with
 | nil=>simp at h
 | cons p ps ih=>
  cases i with
  | zero=>simp[qC5,lcs]
  | succ i=>
   have:=ih (i:=i) (by simpa using h);have e:∀ c,(qC5 (p::ps))[(i+1)*4+c]?=(qC5 ps)[i*4+c]?:=fun c=>by
    rw[show qC5 (p::ps)=.string p.key::.int .i64 p.b::.int .u64 p.s::.pointer p.ptr::qC5 ps from rfl,show (i+1)*4+c=i*4+c+1+1+1+1 by omega];simp
   have e0:=e 0;rw[Nat.add_zero,Nat.add_zero] at e0;rw[e0,e 1,e 2,e 3];simpa using this
theorem Slc.link{w:World}{v:Value}{ls:List HL}(h:Slc w 87 4 v ls.length (qC5 ls))(hn:1≤ls.length):
  ∃ g off cap cur fr,v=.slice (some ⟨g,off,none⟩) ls.length cap∧ls.length≤cap∧w.heap[g]?=some (.cells cur 87 fr)∧∀ i (h:i<ls.length),cur[off+i*4]?=some (.string ls[i].key)∧cur[off+i*4+1]?=some (.int .i64 ls[i].b)∧cur[off+i*4+2]?=some (.int .u64 ls[i].s)∧cur[off+i*4+3]?=some (.pointer ls[i].ptr):=by
 rcases h.val with⟨h0,_⟩|⟨g,off,cap,cur,fr,h1,h2,h3,h4,h5⟩
 ·omega
 ·exact⟨g,off,cap,cur,fr,h1,h3,h4,fun i hi=>⟨h5 _ _ (qH6 hi).1,h5 _ _ (qH6 hi).2.1,h5 _ _ (qH6 hi).2.2.1,h5 _ _ (qH6 hi).2.2.2⟩⟩
theorem zC5(g F L:Nat)(cap:Array Value)(v:Value)(ps:List KV)(f:KV→Bool)(i:Nat)(w:World)(hF:w.heap[F]?=some (.cells #[.func (.func g) #[] cap] 215))(hL:w.heap[L]?=some (.cells #[v] 186))
  (hs:Slc w 185 2 v ps.length (qA9 ps)) (hi:i<ps.length) (hn:ps.length≤1000000)
  (hcf:∀ (args:Array Value) (W:World),Sem.run prog (callFunc g args) W=.ok (.enter g args) W)
  (hf:∀ W,Kp [] w W→Calls prog g (#[.agg #[.string ps[i].k,.string ps[i].v]]++cap) W fun e W'=>e=.returned (.bool (f ps[i]))∧Kp [] W W'):
  Calls prog 214 #[.int .i64 i,.pointer (some ⟨F,0,none⟩),.pointer (some ⟨L,0,none⟩)] w fun e w'=>e=.returned (.bool (f ps[i]))∧Kp [] w w':=by
 obtain⟨gb,off,cp,cur,fr,rfl,hcp,hrow,hcur⟩:=hs.pair (by omega);obtain⟨c0,c1⟩:=hcur i hi;have HF:=zh hf;clear hf hs hcur;go_enter func214,ntmps214;go_wp2_with fail;have hS0:w.heap[F]?=some (.cells #[.func (.func g) #[] cap] 215)∧w.heap[L]?=some (.cells #[.slice (some ⟨gb,off,none⟩) ps.length cp] 186)∧w.heap[gb]?=some (.cells cur 185 fr):=⟨hF,hL,hrow⟩;refine wp_region_held_drew (S:=fun W=>W.heap[F]?=some (.cells #[.func (.func g) #[] cap] 215)∧W.heap[L]?=some (.cells #[.slice (some ⟨gb,off,none⟩) ps.length cp] 186)∧W.heap[gb]?=some (.cells cur 185 fr)) (by kernel_rfl) hS0 (fun _=>?_);refine zV 0 (.func (.func g) #[] cap) rfl (fun W hS=>by have c:=ξ hS.1 0;simp at c;clear hS;go_simp) hS0 ?_;refine zV 1 (.slice (some ⟨gb,off,none⟩) ps.length cp) rfl (fun W hS=>by have c:=ξ hS.2.1 0;simp at c;clear hS;go_simp) hS0 ?_;refine zU 2 (.int .i64 i) hS0 ?_;refine zU 3 (.pointer (some ⟨gb,off+i*2,none⟩)) hS0 ?_;refine zV 4 (.agg #[.string ps[i].k,.string ps[i].v]) rfl (fun W hS=>by have a0:=ξ hS.2.2 (off+i*2);rw[c0] at a0;have a1:=ξ hS.2.2 (off+i*2+1);rw[c1] at a1;clear hS;go_simp) hS0 ?_;refine zq 5 fun K hK=>?_;go_simp;refine (HF.out w.drew ((Kp.refl _ _).drew)).mono ?_;rintro e w1 ⟨rfl,hK1⟩;have hK1':Kp [] w w1:=((Kp.refl _ w).drew).tr hK1;have hS1:=And.intro (hK1'.hp hF) (And.intro (hK1'.hp hL) (hK1'.hp hrow));refine hK.out _ _ hS1 (fun _=>?_);clear hK K
 try simp only[zZ]
 refine zq 6 fun K hK=>?_;go_simp;refine hK.out _ _ hS1 (fun _=>?_);clear hK K;refine zd ?_;go_wp2;go_ret;exact⟨rfl,hK1'⟩
theorem zC6(g:Nat)(cap:Array Value)(v:Value)(ps:List KV)(f:KV→Bool)(w:World)
  (hs:Slc w 185 2 v ps.length (qA9 ps)) (hn:ps.length≤1000000) (hup:∀ i j (hi:i<ps.length) (hj:j<ps.length),i≤j→f ps[i]=true→f ps[j]=true)
  (hcf:∀ (args:Array Value) (W:World),Sem.run prog (callFunc g args) W=.ok (.enter g args) W)
  (hf:∀ W,Kp [] w W→∀ i (h:i<ps.length),Calls prog g (#[.agg #[.string ps[i].k,.string ps[i].v]]++cap) W fun e W'=>e=.returned (.bool (f ps[i]))∧Kp [] W W'):
  Calls prog 146 #[v,.func (.func g) #[] cap] w fun e w'=>e=.returned (.int .i64 (ps.findIdx f:Nat))∧Kp [] w w':=by
 have hmf:=zM;obtain⟨bs,cp,hv⟩:∃ bs cp,v=.slice bs ps.length cp:=by
  rcases hs.val with⟨h0,b,c,h1,_⟩|⟨g,off,cap,cur,fr,h1,_⟩
  ·rw[h0];exact⟨b,c,h1⟩
  ·exact⟨_,cap,h1⟩
 subst hv;have HF:=zh hf;have HU:=zh hup;clear hf hup;go_enter func146,ntmps146;go_wp2_with fail;obtain⟨w1,hw1,hL1,hF1,hK1⟩:∃ w1,w1=(w.alloc (.cells #[.slice bs ps.length cp] 186)).alloc (.cells #[.func (.func g) #[] cap] 215)∧w1.heap[w.heap.size]?=some (.cells #[.slice bs ps.length cp] 186)∧w1.heap[w.heap.size+1]?=some (.cells #[.func (.func g) #[] cap] 215)∧Kp [] w w1:=by
  refine⟨_,rfl,η _ (κ _ _),?_,((Kp.refl _ _).alloc _).alloc _⟩;have e:=κ (w.alloc (.cells #[.slice bs ps.length cp] 186)) (.cells #[.func (.func g) #[] cap] 215);simpa using e
 rw[←hw1];clear hw1;refine (qS5 214 _ ps.length (fun i=>((ps[i]?.map f).getD false)) w1 hn ?_ ?_ ?_).mono ?_
 ·intro i j hij hj hp;have hi:i<ps.length:=by omega
  simp only[List.getElem?_eq_getElem hi,List.getElem?_eq_getElem hj,Option.map_some,Option.getD_some] at *;exact HU.out i j hi hj hij hp
 ·intro args W;simp[go_sem,func214]
 ·intro W hKW i hi;refine (zC5 g (w.heap.size+1) w.heap.size cap _ ps f i W (hKW.hp hF1) (hKW.hp hL1) (hs.keep0 (hK1.tr hKW)) hi hn hcf (fun W' hK'=>HF.out W' ((hK1.tr hKW).tr hK') i hi)).mono ?_;rintro e W' ⟨rfl,hK'⟩;exact⟨by simp[List.getElem?_eq_getElem hi],hK'⟩
 ·rintro e w2 ⟨i,rfl,⟨h1,h2,h3⟩,hK2⟩;have e:i=ps.findIdx f:=qP2 h1 (fun j hj hji=>by
   have:=h2 j hji;simpa [List.getElem?_eq_getElem hj] using this) (fun h=>by
   have:=h3 h;simpa [List.getElem?_eq_getElem h] using this)
  subst e;have hK2':=hK1.tr hK2;go_wp2;go_ret;exact⟨rfl,hK2'⟩
theorem zC3(g F L:Nat)(cap:Array Value)(v:Value)(ps:List HL)(f:HL→Bool)(i:Nat)(w:World)(hF:w.heap[F]?=some (.cells #[.func (.func g) #[] cap] 217))(hL:w.heap[L]?=some (.cells #[v] 156))
  (hs:Slc w 87 4 v ps.length (qC5 ps)) (hi:i<ps.length) (hn:ps.length≤1000000)
  (hcf:∀ (args:Array Value) (W:World),Sem.run prog (callFunc g args) W=.ok (.enter g args) W)
  (hf:∀ W,Kp [] w W→Calls prog g (#[.agg #[.string ps[i].key,.int .i64 ps[i].b,.int .u64 ps[i].s,.pointer ps[i].ptr]]++cap) W fun e W'=>e=.returned (.bool (f ps[i]))∧Kp [] W W'):
  Calls prog 256 #[.int .i64 i,.pointer (some ⟨F,0,none⟩),.pointer (some ⟨L,0,none⟩)] w fun e w'=>e=.returned (.bool (f ps[i]))∧Kp [] w w':=by
 obtain⟨gb,off,cp,cur,fr,rfl,hcp,hrow,hcur⟩:=hs.link (by omega);obtain⟨c0,c1,c2,c3⟩:=hcur i hi;have HF:=zh hf;clear hf hs hcur;go_enter func256,ntmps256;go_wp2_with fail;have hS0:w.heap[F]?=some (.cells #[.func (.func g) #[] cap] 217)∧w.heap[L]?=some (.cells #[.slice (some ⟨gb,off,none⟩) ps.length cp] 156)∧w.heap[gb]?=some (.cells cur 87 fr):=⟨hF,hL,hrow⟩;refine wp_region_held_drew (S:=fun W=>W.heap[F]?=some (.cells #[.func (.func g) #[] cap] 217)∧W.heap[L]?=some (.cells #[.slice (some ⟨gb,off,none⟩) ps.length cp] 156)∧W.heap[gb]?=some (.cells cur 87 fr)) (by kernel_rfl) hS0 (fun _=>?_);refine zV 0 (.func (.func g) #[] cap) rfl (fun W hS=>by have c:=ξ hS.1 0;simp at c;clear hS;go_simp) hS0 ?_;refine zV 1 (.slice (some ⟨gb,off,none⟩) ps.length cp) rfl (fun W hS=>by have c:=ξ hS.2.1 0;simp at c;clear hS;go_simp) hS0 ?_;refine zU 2 (.int .i64 i) hS0 ?_;refine zU 3 (.pointer (some ⟨gb,off+i*4,none⟩)) hS0 ?_;refine zV 4 (.agg #[.string ps[i].key,.int .i64 ps[i].b,.int .u64 ps[i].s,.pointer ps[i].ptr]) rfl (fun W hS=>by have a0:=ξ hS.2.2 (off+i*4);rw[c0] at a0;have a1:=ξ hS.2.2 (off+i*4+1);rw[c1] at a1;have a2:=ξ hS.2.2 (off+i*4+2);rw[c2] at a2;have a3:=ξ hS.2.2 (off+i*4+3);rw[c3] at a3;clear hS;go_simp) hS0 ?_;refine zq 5 fun K hK=>?_;go_simp;refine (HF.out w.drew ((Kp.refl _ _).drew)).mono ?_;rintro e w1 ⟨rfl,hK1⟩;have hK1':Kp [] w w1:=((Kp.refl _ w).drew).tr hK1;have hS1:=And.intro (hK1'.hp hF) (And.intro (hK1'.hp hL) (hK1'.hp hrow));refine hK.out _ _ hS1 (fun _=>?_);clear hK K
 try simp only[zZ]
 refine zq 6 fun K hK=>?_;go_simp;refine hK.out _ _ hS1 (fun _=>?_);clear hK K;refine zd ?_;go_wp2;go_ret;exact⟨rfl,hK1'⟩
theorem zC4(g:Nat)(cap:Array Value)(v:Value)(ps:List HL)(f:HL→Bool)(w:World)
  (hs:Slc w 87 4 v ps.length (qC5 ps)) (hn:ps.length≤1000000) (hup:∀ i j (hi:i<ps.length) (hj:j<ps.length),i≤j→f ps[i]=true→f ps[j]=true)
  (hcf:∀ (args:Array Value) (W:World),Sem.run prog (callFunc g args) W=.ok (.enter g args) W)
  (hf:∀ W,Kp [] w W→∀ i (h:i<ps.length),Calls prog g (#[.agg #[.string ps[i].key,.int .i64 ps[i].b,.int .u64 ps[i].s,.pointer ps[i].ptr]]++cap) W fun e W'=>e=.returned (.bool (f ps[i]))∧Kp [] W W'):
  Calls prog 215 #[v,.func (.func g) #[] cap] w fun e w'=>e=.returned (.int .i64 (ps.findIdx f:Nat))∧Kp [] w w':=by
 have hmf:=zM;obtain⟨bs,cp,hv⟩:∃ bs cp,v=.slice bs ps.length cp:=by
  rcases hs.val with⟨h0,b,c,h1,_⟩|⟨g,off,cap,cur,fr,h1,_⟩
  ·rw[h0];exact⟨b,c,h1⟩
  ·exact⟨_,cap,h1⟩
 subst hv;have HF:=zh hf;have HU:=zh hup;clear hf hup;go_enter func215,ntmps215;go_wp2_with fail;obtain⟨w1,hw1,hL1,hF1,hK1⟩:∃ w1,w1=(w.alloc (.cells #[.slice bs ps.length cp] 156)).alloc (.cells #[.func (.func g) #[] cap] 217)∧w1.heap[w.heap.size]?=some (.cells #[.slice bs ps.length cp] 156)∧w1.heap[w.heap.size+1]?=some (.cells #[.func (.func g) #[] cap] 217)∧Kp [] w w1:=by
  refine⟨_,rfl,η _ (κ _ _),?_,((Kp.refl _ _).alloc _).alloc _⟩;have e:=κ (w.alloc (.cells #[.slice bs ps.length cp] 156)) (.cells #[.func (.func g) #[] cap] 217);simpa using e
 rw[←hw1];clear hw1;refine (qS5 256 _ ps.length (fun i=>((ps[i]?.map f).getD false)) w1 hn ?_ ?_ ?_).mono ?_
 ·intro i j hij hj hp;have hi:i<ps.length:=by omega
  simp only[List.getElem?_eq_getElem hi,List.getElem?_eq_getElem hj,Option.map_some,Option.getD_some] at *;exact HU.out i j hi hj hij hp
 ·intro args W;simp[go_sem,func256]
 ·intro W hKW i hi;refine (zC3 g (w.heap.size+1) w.heap.size cap _ ps f i W (hKW.hp hF1) (hKW.hp hL1) (hs.keep0 (hK1.tr hKW)) hi hn hcf (fun W' hK'=>HF.out W' ((hK1.tr hKW).tr hK') i hi)).mono ?_;rintro e W' ⟨rfl,hK'⟩;exact⟨by simp[List.getElem?_eq_getElem hi],hK'⟩
 ·rintro e w2 ⟨i,rfl,⟨h1,h2,h3⟩,hK2⟩;have e:i=ps.findIdx f:=qP2 h1 (fun j hj hji=>by
   have:=h2 j hji;simpa [List.getElem?_eq_getElem hj] using this) (fun h=>by
   have:=h3 h;simpa [List.getElem?_eq_getElem h] using this)
  subst e;have hK2':=hK1.tr hK2;go_wp2;go_ret;exact⟨rfl,hK2'⟩
theorem zU4(g F:Nat)(cap:Array Value)(p:KV)(r:Bool)(w:World)(hF:w.heap[F]?=some (.cells #[.func (.func g) #[] cap] 215))
  (hcf:∀ (args:Array Value) (W:World),Sem.run prog (callFunc g args) W=.ok (.enter g args) W)
  (hf:∀ W,Kp [] w W→Calls prog g (#[.agg #[.string p.k,.string p.v]]++cap) W fun e W'=>e=.returned (.bool r)∧Kp [] W W'):
  Calls prog 219 #[.agg #[.string p.k,.string p.v],.pointer (some ⟨F,0,none⟩)] w fun e w'=>e=.returned (.bool !r)∧Kp [] w w':=by
 have HF:=zh hf;clear hf;have hFs:=ζ hF;have f0:=ξ hF 0;simp only[zG,zH,zI] at f0;go_enter func219,ntmps219;go_wp2_with fail;refine (HF.out _ ((Kp.refl _ _).alloc _)).mono ?_;rintro e w1 ⟨rfl,hK1⟩;have hK1':Kp [] w w1:=((Kp.refl _ _).alloc _).tr hK1;go_wp2;go_ret;exact⟨rfl,hK1'⟩
theorem zI0(g F:Nat)(cap:Array Value)(p:HL)(r:Bool)(w:World)(hF:w.heap[F]?=some (.cells #[.func (.func g) #[] cap] 217))
  (hcf:∀ (args:Array Value) (W:World),Sem.run prog (callFunc g args) W=.ok (.enter g args) W)
  (hf:∀ W,Kp [] w W→Calls prog g (#[.agg #[.string p.key,.int .i64 p.b,.int .u64 p.s,.pointer p.ptr]]++cap) W fun e W'=>e=.returned (.bool r)∧Kp [] W W'):
  Calls prog 216 #[.agg #[.string p.key,.int .i64 p.b,.int .u64 p.s,.pointer p.ptr],.pointer (some ⟨F,0,none⟩)] w fun e w'=>e=.returned (.bool !r)∧Kp [] w w':=by
 have HF:=zh hf;clear hf;have hFs:=ζ hF;have f0:=ξ hF 0;simp only[zG,zH,zI] at f0;go_enter func216,ntmps216;go_wp2_with fail;refine (HF.out _ ((Kp.refl _ _).alloc _)).mono ?_;rintro e w1 ⟨rfl,hK1⟩;have hK1':Kp [] w w1:=((Kp.refl _ _).alloc _).tr hK1;go_wp2;go_ret;exact⟨rfl,hK1'⟩
theorem zI1(g:Nat)(cap:Array Value)(v:Value)(ps:List HL)(f:HL→Bool)(w:World)
  (hs:Slc w 87 4 v ps.length (qC5 ps)) (hn:ps.length≤1000000) (hdn:∀ i j (hi:i<ps.length) (hj:j<ps.length),i≤j→f ps[j]=true→f ps[i]=true)
  (hcf:∀ (args:Array Value) (W:World),Sem.run prog (callFunc g args) W=.ok (.enter g args) W)
  (hf:∀ W,Kp [] w W→∀ i (h:i<ps.length),Calls prog g (#[.agg #[.string ps[i].key,.int .i64 ps[i].b,.int .u64 ps[i].s,.pointer ps[i].ptr]]++cap) W fun e W'=>e=.returned (.bool (f ps[i]))∧Kp [] W W'):
  Calls prog 148 #[v,.func (.func g) #[] cap] w fun e w'=>e=.returned (.int .i64 (ps.findIdx (fun p=>!f p)-1:Nat))∧Kp [] w w':=by
 have hmf:=zM;have HF:=zh hf;have HU:=zh hdn;clear hf hdn;go_enter func148,ntmps148;go_wp2_with fail;have hF1:=κ w (.cells #[.func (.func g) #[] cap] 217);have hK1:Kp [] w (w.alloc (.cells #[.func (.func g) #[] cap] 217)):=(Kp.refl _ _).alloc _;refine (zC4 216 _ v ps (fun p=>!f p) _ (hs.keep0 hK1) hn ?_ ?_ ?_).mono ?_
 ·intro i j hi hj hij hp;by_cases e:f ps[j]=true
  ·rw[HU.out i j hi hj hij e] at hp;simp at hp
  ·simpa using e
 ·intro args W;simp[go_sem,func216]
 ·intro W hKW i hi;exact zI0 g w.heap.size cap ps[i] (f ps[i]) W (hKW.hp hF1) hcf (fun W' hK'=>HF.out W' ((hK1.tr hKW).tr hK') i hi)
 ·rintro e w2 ⟨rfl,hK2⟩;have hK2':=hK1.tr hK2;have hle:ps.findIdx (fun p=>!f p)≤ps.length:=List.findIdx_le_length;go_wp2
  all_goals
   go_ret;exact⟨qL6 (by omega),hK2'⟩
def qA4(lvl:Int)(vp vl:Value):Obj:=.cells #[.int .i64 lvl,vp,vl] 213
def Rise(ls:List HL):Prop:=ls.Pairwise fun a b=>kl a.key b.key=true
theorem Rise.at{ls:List HL}(h:Rise ls){i j:Nat}(hi:i<ls.length)(hj:j<ls.length)(hij:i<j):kl ls[i].key ls[j].key=true:=
 List.pairwise_iff_getElem.1 h i j hi hj hij
def Both{α β:Type}(R:α→β→Prop)(a:List α)(b:List β):Prop:=a.length=b.length∧∀ i (h:i<a.length) (h':i<b.length),R a[i] b[i]
theorem Both.mono{α β:Type}{R R':α→β→Prop}{a:List α}{b:List β}(h:Both R a b)(hr:∀ x y,R x y→R' x y):Both R' a b:=⟨h.1,fun i h1 h2=>hr _ _ (h.2 i h1 h2)⟩
theorem Both.map_eq{α β γ:Type}{R:α→β→Prop}{a:List α}{b:List β}{f:α→γ}{g:β→γ}(h:Both R a b)(hr:∀ x y,R x y→f x=g y):a.map f=b.map g:=by
 refine List.ext_getElem (by simp[h.1]) fun i h1 h2=>?_;simp only[List.getElem_map];exact hr _ _ (h.2 i (by simpa using h1) (by simpa using h2))
def RLof{X:Type}(N:Nat→X→Prop)(O:Nat→Int→X→Prop)(h:HL)(l:Lnk X):Prop:=
 h.key=l.key∧match l.ref with
  | none=>h.b=0∧h.s=0∧∃ q,h.p=some q∧N q l.sub
  | some (b,s)=>h.b=b∧h.s=s∧h.p=none∧O b s l.sub
def qT7{X:Type}(N:Nat→X→Prop)(O:Nat→Int→X→Prop)(w:World)(v:Value)(ls:List (Lnk X)):Prop:=
 ∃ hs:List HL,Slc w 87 4 v hs.length (qC5 hs)∧Both (RLof N O) hs ls
abbrev qE2:Type:=(n:Nat)→Nat→Int→Tn n→Prop
def RN(O:qE2):(n:Nat)→World→Nat→Tn n→Prop
 | 0,w,q,t=>∃ vp,w.heap[q]?=some (qA4 0 vp (.slice none 0 0))∧Slc w 185 2 vp (prs t).length (qA9 (prs t))
 | n+1,w,q,t=>∃ vl,w.heap[q]?=some (qA4 ((n+1:Nat):Int) (.slice none 0 0) vl)∧qT7 (RN O n w) (O n) w vl (qC6 t)
abbrev RL(O:qE2)(n:Nat)(w:World)(h:HL)(l:Lnk (Tn n)):Prop:=RLof (RN O n w) (O n) h l
theorem RLof.mono{X:Type}{N N':Nat→X→Prop}{O O':Nat→Int→X→Prop}{h:HL}{l:Lnk X}(hr:RLof N O h l)(hN:∀ q,N q l.sub→N' q l.sub)(hO:∀ b s,O b s l.sub→O' b s l.sub):RLof N' O' h l:=by
 refine⟨hr.1,?_⟩;have:=hr.2
 cases hl:l.ref with
 | none=>
  rw[hl] at this;obtain⟨h1,h2,q,h3,h4⟩:=this;exact⟨h1,h2,q,h3,hN q h4⟩
 | some x=>
  rw[hl] at this;obtain⟨h1,h2,h3,h4⟩:=this;exact⟨h1,h2,h3,hO _ _ h4⟩
def qF9:List TypeId:=[213,185,87]
theorem Apt.sub{w:World}{S:List Nat}{Ts Ts':List TypeId}(h:Apt w S Ts)(hs:∀ t∈Ts',t∈Ts):Apt w S Ts':=fun k hk c t fr e hm=>h k hk c t fr e (hs t hm)
theorem RN.keep{O:qE2}{S:List Nat}{w w':World}(hK:Kp S w w')(hS:Apt w S qF9):∀ (n:Nat) (q:Nat) (t:Tn n),RN O n w q t→RN O n w' q t
 | 0,q,t,h=>by
  obtain⟨vp,h1,h2⟩:=h;exact⟨vp,hK.heap h1 (fun hm=>hS q hm _ _ _ h1 (by decide)),h2.keep hK (hS.sub (by decide))⟩
 | n+1,q,t,h=>by
  obtain⟨vl,h1,hs,h2,h3⟩:=h;exact⟨vl,hK.heap h1 (fun hm=>hS q hm _ _ _ h1 (by decide)),hs,h2.keep hK (hS.sub (by decide)),h3.mono fun x y hr=>hr.mono (fun q hq=>RN.keep hK hS n q _ hq) (fun _ _ h=>h)⟩
theorem RL.keep{O:qE2}{S:List Nat}{w w':World}{n:Nat}{h:HL}{l:Lnk (Tn n)}(hr:RL O n w h l)(hK:Kp S w w')(hS:Apt w S qF9):RL O n w' h l:=hr.mono (fun q hq=>RN.keep hK hS n q _ hq) (fun _ _ h=>h)
def qA1(V:Nat)(h:HL):Value:=.agg #[.pointer (some ⟨V,0,none⟩),.string h.key,.int .i64 h.b,.int .u64 h.s,.pointer h.ptr]
def qG3(h:HL):Value:=.agg #[.string h.key,.int .i64 h.b,.int .u64 h.s,.pointer h.ptr]
def qQ1:List TypeId:=[87,89,42]
structure Env where
 O:qE2
 V:Nat
 S:List Nat
 Dev:World→Prop
 keep:∀ w w' L,Dev w→Kp L w w'→(∀ k∈L,∃ c t fr,w.heap[k]?=some (.cells c t fr)∧t∈qQ1)→Dev w'
 apt:∀ w,Dev w→Apt w S qF9
 low:∀ w,Dev w→∀ k∈S,k<w.heap.size
 pos:∀ (n b:Nat) (s:Int) (t:Tn n),O n b s t→1≤b
 lvl:∀ (n b:Nat) (s:Int) (t:Tn n),O n b s t→n<6
 read:∀ (n:Nat) (h r:HL) (l:Lnk (Tn n)) (a:Int) (w:World),Dev w→RL O n w h l→h.p=none→(n:Int)<a→Calls prog 150 #[qA1 V r,qG3 h,.int .i64 a] w fun e w'=>∃ q,e=.returned (.pointer (some ⟨q,0,none⟩))∧RN O n w' q l.sub∧Dev w'∧Kp S w w'
structure Env.To(E:Env)(w w':World):Prop where
 dev:E.Dev w'
 kp:Kp E.S w w'
theorem Env.To.of0{E:Env}{w w':World}(h:E.Dev w)(hK:Kp [] w w'):E.To w w':=⟨E.keep _ _ [] h hK (by simp),hK.mono (by simp)⟩
theorem Env.To.trans{E:Env}{a b c:World}(h:E.To a b)(k:E.To b c):E.To a c:=⟨k.dev,h.kp.trans k.kp (fun i hi _=>hi)⟩
theorem Env.To.tail{E:Env}{a b c:World}(h:E.To a b)(k:Kp [] b c):E.To a c:=h.trans (Env.To.of0 h.dev k)
theorem Env.RN{E:Env}{n:Nat}{w w':World}{q:Nat}{t:Tn n}(h:RN E.O n w q t)(hd:E.Dev w)(hT:E.To w w'):YtdohpenfkdckiaaGreatDoor.RN E.O n w' q t:=RN.keep hT.kp (E.apt w hd) n q t h
theorem Env.RL{E:Env}{n:Nat}{w w':World}{h:HL}{l:Lnk (Tn n)}(hr:RL E.O n w h l)(hd:E.Dev w)(hT:E.To w w'):YtdohpenfkdckiaaGreatDoor.RL E.O n w' h l:=RL.keep hr hT.kp (E.apt w hd)
theorem Env.To.new{E:Env}{w0 w w':World}{k:Nat}{o:Obj}(hT:E.To w w')(hd:E.Dev w0)(hk:w0.heap.size≤k)(h:w.heap[k]?=some o):w'.heap[k]?=some o:=
 hT.kp.heap h (fun hm=>by have:=E.low w0 hd k hm;omega)
theorem qR0(E:Env)(n:Nat)(h r:HL)(l:Lnk (Tn n))(a:Int)(w:World)(hd:E.Dev w)(hr:RL E.O n w h l)(ha:h.p=none→(n:Int)<a):
  Calls prog 150 #[qA1 E.V r,qG3 h,.int .i64 a] w fun e w'=>∃ q,e=.returned (.pointer (some ⟨q,0,none⟩))∧RN E.O n w' q l.sub∧E.To w w':=by
 cases hp:h.p with
 | none=>
  refine (E.read n h r l a w hd hr hp (ha hp)).mono ?_;rintro e w' ⟨q,h1,h2,h3,h4⟩;exact⟨q,h1,h2,h3,h4⟩
 | some q=>
  have hN:RN E.O n w q l.sub:=by
   have h2:=hr.2
   cases hl:l.ref with
   | none=>
    rw[hl] at h2;obtain⟨_,_,q',h3,h4⟩:=h2;rw[hp] at h3;cases h3;exact h4
   | some x=>
    rw[hl] at h2;rw[hp] at h2;cases h2.2.2.1
  have hptr:h.ptr=some ⟨q,0,none⟩:=by simp[HL.ptr,hp]
  have e1:qG3 h=.agg #[.string h.key,.int .i64 h.b,.int .u64 h.s,.pointer (some ⟨q,0,none⟩)]:=by rw[qG3,hptr]
  rw[e1,qA1];have HN:=zh hN;have HD:=zh hd;clear hN hr hd e1 hptr ha;go_enter func150,ntmps150;go_wp2;go_ret;exact⟨q,rfl,Env.RN HN.out HD.out (Env.To.of0 HD.out (((Kp.refl _ _).alloc _).alloc _)),Env.To.of0 HD.out (((Kp.refl _ _).alloc _).alloc _)⟩
theorem qQ9(E:Env)(n:Nat)(h r:HL)(l:Lnk (Tn n))(a:Int)(w:World)(hd:E.Dev w)(hr:RL E.O n w h l)(ha:(n:Int)<a):
  Calls prog 150 #[qA1 E.V r,qG3 h,.int .i64 a] w fun e w'=>∃ q,e=.returned (.pointer (some ⟨q,0,none⟩))∧RN E.O n w' q l.sub∧E.To w w':=
 qR0 E n h r l a w hd hr fun _=>ha
theorem Env.low6{E:Env}{n:Nat}{w:World}{h:HL}{l:Lnk (Tn n)}(hr:YtdohpenfkdckiaaGreatDoor.RL E.O n w h l)(hp:h.p=none):(n:Int)<6:=by
 have h2:=hr.2
 cases hl:l.ref with
 | none=>
  rw[hl] at h2;obtain⟨_,_,q,h3,h4⟩:=h2;rw[hp] at h3;cases h3
 | some x=>
  rw[hl] at h2;have:=E.lvl _ _ _ _ h2.2.2.2;omega
theorem zS6(E:Env)(n:Nat)(h:HL)(l:Lnk (Tn n))(w:World)(hd:E.Dev w)(hr:RL E.O n w h l):
  Calls prog 94 #[qA1 E.V h] w fun e w'=>∃ q,e=.returned (.pointer (some ⟨q,0,none⟩))∧RN E.O n w' q l.sub∧E.To w w':=by
 have HD:=zh hd;have HR:=zh hr;have HN:Hid (∀ W:World,E.To w W→Calls prog 150 #[.agg #[.pointer (some ⟨E.V,0,none⟩),.string h.key,.int .i64 h.b,.int .u64 h.s,.pointer h.ptr],.agg #[.string h.key,.int .i64 h.b,.int .u64 h.s,.pointer h.ptr],.int .i64 6] W fun e w'=>∃ q,e=.returned (.pointer (some ⟨q,0,none⟩))∧RN E.O n w' q l.sub∧E.To W w'):=
  fun W hT=>qR0 E n h h l 6 W hT.dev (Env.RL hr hd hT) (Env.low6 hr)
 clear hd hr;rw[qA1];go_enter func94,ntmps94;go_wp2_with fail;refine (HN.out _ (Env.To.of0 HD.out ((Kp.refl _ _).alloc _))).mono ?_;rintro e w1 ⟨q,rfl,hN1,hT1⟩;have HN1:=zh hN1;have HT1:Hid (E.To w w1):=(Env.To.of0 HD.out ((Kp.refl _ _).alloc _)).trans hT1;clear hN1 hT1 HN;go_wp2;go_ret;exact⟨q,rfl,HN1.out,HT1.out⟩
def qM7:(n:Nat)→Tn n→Prop
 | 0,t=>(prs t).length≤10000
 | n+1,t=>(qC6 t).length≤10000∧∀ l∈qC6 t,qM7 n l.sub
theorem qK6{α:Type}(f:α→Nat):∀ (l:List α),(∀ x∈l,1≤f x)→l.length≤qD7 f l
 | [],_=>by simp[qD7]
 | x::l,h=>by
  have h1:=h x (by simp);have h2:=qK6 f l fun y hy=>h y (by simp[hy]);rw[zI4,List.length_cons];omega
theorem qK1:∀ (n:Nat) (lo:ByteArray) (t:Tn n),Good n lo t→qM7 n t
 | 0,lo,ps,h=>by
  have h1:qD7 qI2 (prs ps)≤126:=h.fits;have h2:=qK6 qI2 (prs ps) fun x _=>by unfold qI2;omega
  show (prs ps).length≤10000;omega
 | n+1,lo,ls,h=>by
  have h1:qD7 qH7 (qC6 ls)≤126:=h.fits;have h2:=qK6 qH7 (qC6 ls) fun x _=>by unfold qH7;omega
  exact⟨by omega,fun l hl=>qK1 n l.key l.sub (h.all l hl).1⟩
def RR(E:Env)(w:World)(h:HL):Root→Prop
 | .none=>h=⟨⟨#[]⟩,0,0,none⟩
 | .at n l=>RL E.O n w h l
theorem qO0(d:Nat)(W:World):Sem.run prog (Op.equalIn (d+1) 85 (.pointer none) (.pointer none)) W=.ok true W:=by
 simp[Op.equalIn,run_underlying underlying85]
theorem zB0(d:Nat)(a:Addr)(W:World):Sem.run prog (Op.equalIn (d+1) 85 (.pointer (some a)) (.pointer none)) W=.ok false W:=by
 simp[Op.equalIn,run_underlying underlying85]
theorem zA2(V:Nat)(w:World):
  Calls prog 92 #[qA1 V ⟨⟨#[]⟩,0,0,none⟩] w fun e w'=>e=.returned (.bool true)∧Kp [] w w':=by
 have heq:∀ W:World,Sem.run prog (Op.equalIn 9999 85 (.pointer none) (.pointer none)) W=.ok true W:=fun W=>qO0 9998 W;rw[qA1,show HL.ptr ⟨⟨#[]⟩,0,0,none⟩=none from rfl];go_enter func92,ntmps92;go_wp2;go_ret;exact⟨rfl,(Kp.refl _ _).alloc _⟩
theorem zA1(V q:Nat)(w:World):
  Calls prog 92 #[.agg #[.pointer (some ⟨V,0,none⟩),.string ⟨#[]⟩,.int .i64 0,.int .u64 0,.pointer (some ⟨q,0,none⟩)]] w fun e w'=>e=.returned (.bool false)∧Kp [] w w':=by
 have heq:∀ W:World,Sem.run prog (Op.equalIn 9999 85 (.pointer (some ⟨q,0,none⟩)) (.pointer none)) W=.ok false W:=fun W=>zB0 9998 _ W;go_enter func92,ntmps92;go_wp2;go_ret;exact⟨rfl,(Kp.refl _ _).alloc _⟩
theorem zA4(V:Nat)(b s:Int)(hb:1≤b)(w:World):
  Calls prog 92 #[.agg #[.pointer (some ⟨V,0,none⟩),.string ⟨#[]⟩,.int .i64 b,.int .u64 s,.pointer none]] w fun e w'=>e=.returned (.bool false)∧Kp [] w w':=by
 have heq:∀ W:World,Sem.run prog (Op.equalIn 9999 85 (.pointer none) (.pointer none)) W=.ok true W:=fun W=>qO0 9998 W;have hb0:¬b=0:=by omega
 go_enter func92,ntmps92;go_wp2;go_ret;exact⟨rfl,(Kp.refl _ _).alloc _⟩
theorem zA0(E:Env)(n:Nat)(h:HL)(l:Lnk (Tn n))(w:World)(hr:RL E.O n w h l)(hl:l.key=⟨#[]⟩):
  Calls prog 92 #[qA1 E.V h] w fun e w'=>e=.returned (.bool false)∧Kp [] w w':=by
 have hk:h.key=⟨#[]⟩:=by rw[hr.1,hl]
 have h2:=hr.2
 cases hx:l.ref with
 | none=>
  rw[hx] at h2;obtain⟨h3,h4,q,h5,_⟩:=h2;have e:qA1 E.V h=.agg #[.pointer (some ⟨E.V,0,none⟩),.string ⟨#[]⟩,.int .i64 0,.int .u64 0,.pointer (some ⟨q,0,none⟩)]:=by rw[qA1,hk,h3,h4,HL.ptr,h5];rfl
  rw[e];exact zA1 E.V q w
 | some x=>
  rw[hx] at h2;obtain⟨h3,h4,h5,h6⟩:=h2;have hp:=E.pos n _ _ _ h6;have e:qA1 E.V h=.agg #[.pointer (some ⟨E.V,0,none⟩),.string ⟨#[]⟩,.int .i64 h.b,.int .u64 h.s,.pointer none]:=by rw[qA1,hk,HL.ptr,h5];rfl
  rw[e];exact zA4 E.V h.b h.s (by rw[h3];omega) w
theorem Good.row{n:Nat}{lo:ByteArray}{t:Tn (n+1)}(h:Good (n+1) lo t):Row0 n lo (qC6 t):=⟨h.head,fun m hm=>⟨(h.all m hm).1,(h.all m hm).2.2⟩,h.pair⟩
theorem zP6{O:qE2}{n:Nat}{w:World}{hs:List HL}{ls:List (Lnk (Tn n))}(hb:Both (RL O n w) hs ls)(hp:ls.Pairwise (qG6 n)):Rise hs:=by
 unfold Rise;rw[List.pairwise_iff_getElem];intro i j hi hj hij;have h1:=hb.1;have:=List.pairwise_iff_getElem.1 hp i j (by omega) (by omega) hij;rw[(hb.2 i hi (by omega)).1,(hb.2 j hj (by omega)).1];exact this.1
theorem zS7{W:World}{k:Nat}{a b c d e:Value}(v0 v1 v2 v3 v4:Value)(h:W.heap[k]?=some (.cells #[a,b,c,d,e] 89)):
  (((((W.setCell ⟨k,0,none⟩ v0).setCell ⟨k,1,none⟩ v1).setCell ⟨k,2,none⟩ v2).setCell ⟨k,3,none⟩ v3).setCell ⟨k,4,none⟩ v4).heap[k]?=some (.cells #[v0,v1,v2,v3,v4] 89)∧Kp [k] W (((((W.setCell ⟨k,0,none⟩ v0).setCell ⟨k,1,none⟩ v1).setCell ⟨k,2,none⟩ v2).setCell ⟨k,3,none⟩ v3).setCell ⟨k,4,none⟩ v4):=
 ⟨θ (θ (θ (θ (θ h 0 _) 1 _) 2 _) 3 _) 4 _,(((((Kp.refl _ W).sc _).sc _).sc _).sc _).sc _⟩
theorem Env.To.store'{E:Env}{w W W':World}{k:Nat}{c:Array Value}{t:TypeId}{fr:Nat × Nat}(hT:E.To w W)(hk:w.heap.size≤k)(hh:W.heap[k]?=some (.cells c t fr))(ht:t∈qQ1)(hK:Kp [k] W W'):E.To w W':=
 ⟨E.keep W W' [k] hT.dev hK (fun i hi=>by rw[List.mem_singleton.1 hi];exact⟨c,t,fr,hh,ht⟩),hT.kp.trans hK (fun i hi hlt=>by rw[List.mem_singleton.1 hi] at hlt;omega)⟩
end Go.Proofs.YtdohpenfkdckiaaGreatDoor
