import Derived.Test.YtdohpenfkdckiabGreatDoorP03
import Derived.Conc.MuLib
import Derived.Conc.MuLone
import Derived.KernelRfl
import Derived.Laws.Strings
import Derived.Laws.Cover1
set_option linter.all false
set_option maxRecDepth 100000
set_option maxHeartbeats 20000000
namespace Go.Proofs.YtdohpenfkdckiabGreatDoor
open Go.Proofs.Tryz
open Go.RowKit Go.Extern.Stop Go.Stop Go.Extern
theorem xH2(F:Nat)(call:ByteArray)(x:Value)(w:World)(hF:w.heap[F]?=some (.cells #[.string call,x] 183)):
  Calls prog 265 #[.pointer (some ⟨F,0,none⟩)] w fun e w'=>e=.returned x∧w'=w:=by
 have c1:=ξ hF 1;simp at c1;clear hF;go_enter func265,ntmps265;go_wp2;go_ret;exact⟨rfl,rfl⟩
theorem xK7(F E a:Nat)(call:ByteArray)(k:Int)(w:World)(hF:w.heap[F]?=some (.cells #[.string call,.iface 46 (.int .i64 k)] 183))(hE:w.heap[E]?=some (.cells #[.int .i64 0] 46))(ha:w.heap[a]?=some (.cells #[.pointer (some ⟨E,0,none⟩)] 93)):
  Calls prog 80 #[.iface 180 (.pointer (some ⟨F,0,none⟩)),.iface 93 (.pointer (some ⟨E,0,none⟩)),.agg #[.pointer (some ⟨5,93,none⟩),.pointer (some ⟨a,0,none⟩),.int .u64 150],.iface 196 (.agg #[.pointer (some ⟨5,46,none⟩)])] w fun e w'=>e=.returned (.bool true)∧w'.heap[E]?=some (.cells #[.int .i64 k] 46)∧Kp [E] w w':=by
 have h90:=@run_callFunc_extern prog 77 _ (fun args=>ReflectliteValue.unpack (args.getD 0 (.tuple #[]))) func77 (by kernel_rfl) (by kernel_rfl) (by kernel_rfl) (by kernel_rfl);have h142:=@run_callFunc_extern prog 116 _ ReflectliteType.typeOf func116 (by kernel_rfl) (by kernel_rfl) (by kernel_rfl) (by kernel_rfl);have h285:=@run_callFunc_extern prog 267 _ (ReflectliteType.relation "AssignableTo" ReflectliteType.assignableTo) func267 (by kernel_rfl) (by kernel_rfl) (by kernel_rfl) (by kernel_rfl);have h143:=@run_callFunc_extern prog 117 _ (ReflectliteValue.method (ReflectliteValue.valueError "reflectlite.Value.Elem" 0) ReflectliteValue.elem) func117 (by kernel_rfl) (by kernel_rfl) (by kernel_rfl) (by kernel_rfl);have h144:=@run_callFunc_extern prog 118 _ ReflectliteValue.set func118 (by kernel_rfl) (by kernel_rfl) (by kernel_rfl) (by kernel_rfl);have tF:=zQ8;have tE:=qY9;have mA:=zQ0;have mU:=qY8;have aF:=zP3;have aE:=zP2;have vE:=zR0;have ta1:∀ W:World,Sem.run prog (Instr.typeAssert (.iface 180 (.pointer (some ⟨F,0,none⟩))) 35 201 true) W=.ok (.tuple #[.nilIface,.bool false]) W:=fun W=>run_typeAssert_lacksB underlying201 (by kernel_rfl) (by kernel_rfl) _ _ W;have ta2:∀ W:World,Sem.run prog (Instr.typeAssert (.iface 180 (.pointer (some ⟨F,0,none⟩))) 35 204 true) W=.ok (.tuple #[.iface 180 (.pointer (some ⟨F,0,none⟩)),.bool true]) W:=fun W=>run_typeAssert_hasB underlying204 (by kernel_rfl) _ _ W;have hEs:=ζ hE;have hFs:=ζ hF;have has:=ζ ha;go_enter func80,ntmps80;go_wp2;refine wp_loop_rounds 3 ?_;rw[rounds_succ];go_wp2_with fail;obtain⟨W1,hW1,hK1,hs1⟩:∃ W1,W1=w.alloc (.cells #[.pointer (some ⟨5,93,none⟩),.pointer (some ⟨a,0,none⟩),.int .u64 150] 137)∧Kp [E] w W1∧W1.heap.size=w.heap.size+1:=⟨_,rfl,(Kp.refl _ _).alloc _,by simp⟩;have hF1:W1.heap[F]?=some (.cells #[.string call,.iface 46 (.int .i64 k)] 183):=by rw[hW1];exact θ _ hF
 have hE1:W1.heap[E]?=some (.cells #[.int .i64 0] 46):=by rw[hW1];exact θ _ hE
 have ha1:W1.heap[a]?=some (.cells #[.pointer (some ⟨E,0,none⟩)] 93):=by rw[hW1];exact θ _ ha
 have hv1:W1.heap[w.heap.size]?=some (.cells #[.pointer (some ⟨5,93,none⟩),.pointer (some ⟨a,0,none⟩),.int .u64 150] 137):=by rw[hW1];exact μ _ _
 rw[←hW1];clear hW1;have v0:=ξ hv1 0;have v1:=ξ hv1 1;have v2:=ξ hv1 2;have a0:=ξ ha1 0;simp at v0 v1 v2 a0;have eV:=zP5 ⟨a,0,none⟩ ⟨E,0,none⟩ W1 a0;have hb2:=ξ (μ W1 (.cells #[.int .i64 k] 46)) 0;have he2:=ξ (θ (.cells #[.int .i64 k] 46) hE1) 0;have hfz2:=ψ (θ (.cells #[.int .i64 k] 46) hE1) 0;simp at hb2 he2;have sE:=zQ6 ⟨E,0,none⟩ ⟨W1.heap.size,0,none⟩ k (.int .i64 0) (W1.alloc (.cells #[.int .i64 k] 46)) (by simp) (by simpa using he2) hfz2;rw[hs1] at sE;clear hb2 he2 hfz2;refine (xH2 F call _ _ hF1).mono ?_;rintro e w2 ⟨rfl,rfl⟩;go_wp2_with fail;rw[rounds_succ];go_wp2;go_ret;refine⟨rfl,?_,?_⟩
 ·first
   | exact φ (θ _ hE1) 0 _
   | exact θ _ (φ hE1 0 _)
 ·first
   | exact (hK1.alloc _).sc _
   | exact (hK1.sc _).alloc _
theorem xK5(F E:Nat)(call:ByteArray)(k:Int)(w:World)(hg:w.cell? ⟨0,0,none⟩=some qL6)(hF:w.heap[F]?=some (.cells #[.string call,.iface 46 (.int .i64 k)] 183))(hE:w.heap[E]?=some (.cells #[.int .i64 0] 46)):
  Calls prog 43 #[.iface 180 (.pointer (some ⟨F,0,none⟩)),.iface 93 (.pointer (some ⟨E,0,none⟩))] w fun e w'=>e=.returned (.bool true)∧w'.heap[E]?=some (.cells #[.int .i64 k] 46)∧Kp [E] w w':=by
 have h90:=@run_callFunc_extern prog 77 _ (fun args=>ReflectliteValue.unpack (args.getD 0 (.tuple #[]))) func77 (by kernel_rfl) (by kernel_rfl) (by kernel_rfl) (by kernel_rfl);have h91:=@run_callFunc_extern prog 78 _ (ReflectliteValue.methodAny (ReflectliteValue.valueError "reflectlite.Value.Type" 0) (fun t _ _ _=>ReflectliteType.toType t)) func78 (by kernel_rfl) (by kernel_rfl) (by kernel_rfl) (by kernel_rfl);have h92:=@run_callFunc_extern prog 79 _ (ReflectliteValue.method (ReflectliteValue.valueError "reflectlite.Value.IsNil" 0) ReflectliteValue.isNil) func79 (by kernel_rfl) (by kernel_rfl) (by kernel_rfl) (by kernel_rfl);have h266:=@run_callFunc_extern prog 246 _ (ReflectliteType.abiMethod fun t=>do pure (.int .u8 (←Rtype.kind t))) func246 (by kernel_rfl) (by kernel_rfl) (by kernel_rfl) (by kernel_rfl);have h287:=@run_callFunc_extern prog 269 _ (ReflectliteType.method ReflectliteType.elem) func269 (by kernel_rfl) (by kernel_rfl) (by kernel_rfl) (by kernel_rfl);have h288:=@run_callFunc_extern prog 270 _ (ReflectliteType.relation "Implements" ReflectliteType.implements_) func270 (by kernel_rfl) (by kernel_rfl) (by kernel_rfl) (by kernel_rfl);have vO:=zQ9;have tY:=zQ7;have mK:=zQ3;have mE:=zQ1;have mI:=zQ2;have kP:=zP9;have kE:=zP8;have eL:=zP4;have iM:=zP6;have hEs:=ζ hE;have hFs:=ζ hF;have hgl:0<w.heap.size:=by omega
 have nN:=zP7 ⟨w.heap.size,0,none⟩ ⟨E,0,none⟩ ((w.alloc (.cells #[.pointer (some ⟨E,0,none⟩)] 93)).alloc (.cells #[.pointer (some ⟨5,93,none⟩),.pointer (some ⟨w.heap.size,0,none⟩),.int .u64 150] 137)) (by simp);have hg2:((w.alloc (.cells #[.pointer (some ⟨E,0,none⟩)] 93)).alloc (.cells #[.pointer (some ⟨5,93,none⟩),.pointer (some ⟨w.heap.size,0,none⟩),.int .u64 150] 137)).cell? ⟨0,0,none⟩=some (.iface 196 (.agg #[.pointer (some ⟨5,35,none⟩)])):=by
  rw[World.cell?_alloc_lt _ _ ⟨0,0,none⟩ (by simp),World.cell?_alloc_lt _ _ ⟨0,0,none⟩ hgl];exact hg
 clear hg;go_enter func43,ntmps43;go_wp2_with fail;refine (xK7 F E w.heap.size call k _ (θ _ (θ _ hF)) (θ _ (θ _ hE)) (θ _ (μ _ _))).mono ?_;rintro e w1 ⟨rfl,hE1,hK1⟩;have hK1':Kp [E] w w1:=(((Kp.refl [E] w).alloc _).alloc _).tr hK1;clear h90 h91 h92 h266 h287 h288 vO tY mK mE mI kP kE eL iM nN hg2 hK1;go_wp2;go_ret;exact⟨rfl,hE1,hK1'⟩
end Go.Proofs.YtdohpenfkdckiabGreatDoor
namespace Go.Proofs.YtdohpenfkdckiabGreatDoor
open Go.Proofs.Tryz
open Go.RowKit
theorem xG6(w:World):Calls prog 21 #[.nilIface] w fun e w'=>e=.returned (.int .i64 0)∧w'=w:=by
 go_enter func21,ntmps21;go_wp2;go_ret;exact⟨rfl,rfl⟩
theorem jW1(F:Nat)(call:ByteArray)(k:Int)(w:World)(hg:w.cell? ⟨0,0,none⟩=some qL6)(hF:w.heap[F]?=some (.cells #[.string call,.iface 46 (.int .i64 k)] 183)):
  Calls prog 21 #[.iface 180 (.pointer (some ⟨F,0,none⟩))] w fun e w'=>e=.returned (.int .i64 k)∧Kp [] w w':=by
 have hFs:=ζ hF;have hgl:0<w.heap.size:=by omega
 go_enter func21,ntmps21;go_wp2_with fail;refine (xK5 F w.heap.size call k _ (by rw[World.cell?_alloc_lt _ _ ⟨0,0,none⟩ hgl];exact hg) (θ _ hF) (μ _ _)).mono ?_;rintro e w1 ⟨rfl,hE1,hK1⟩;have hK1':Kp [] w w1:=((Kp.refl [] w).alloc _).trans hK1 (by intro i hi hlt;simp at hi;omega);have c0:=ξ hE1 0;simp at c0;clear hK1 hg;go_wp2;go_ret;exact⟨rfl,hK1'⟩
end Go.Proofs.YtdohpenfkdckiabGreatDoor
namespace Go.Proofs.YtdohpenfkdckiabGreatDoor
open Go.Proofs.Tryz
abbrev jI2:Go.Conc.Locks.MuLink:={ lock:=81,unlock:=82,ilock:=119,iunlock:=120,lockSlow:=161,unlockSlow:=164,disable:=157,enable:=159,acquire:=160,relMerge:=162,cas32:=158,add32:=163,tMutex:=123,tIMutex:=121,tPMutex:=208,tPIMutex:=245,tPI32:=247,tUP:=134,tNoCopy:=118,tU32:=119 }
theorem qO3:Go.Conc.Locks.MuLib prog jI2:=
 ⟨func81,func82,func119,func120,func157,func159,func160,func162,func158,func163,underlying121,runUnderlying121,sizeOf121,isAgg121,zeroValue121,underlying123,runUnderlying123,sizeOf123,isAgg123,zeroValue123,underlying208,runUnderlying208,sizeOf208,isAgg208,zeroValue208,underlying245,runUnderlying245,sizeOf245,isAgg245,zeroValue245,underlying247,runUnderlying247,sizeOf247,isAgg247,zeroValue247,underlying134,runUnderlying134,sizeOf134,isAgg134,zeroValue134,underlying118,runUnderlying118,sizeOf118,isAgg118,zeroValue118,underlying21,runUnderlying21,sizeOf21,isAgg21,zeroValue21,(by kernel_rfl)⟩
end Go.Proofs.YtdohpenfkdckiabGreatDoor
namespace Go.Proofs.YtdohpenfkdckiabGreatDoor
open Go.Proofs.Tryz
open Go.RowKit Go.Extern.Stop Go.Stop Go.Extern
theorem zX4(w:World):((Extern.ReflectliteType.method fun t=>do Rtype.noPackHeld "Comparable" t;(fun a=>Value.bool a.comparable) <$> typeInfo t) #[.agg #[.pointer (some ⟨5,46,none⟩)]]).run prog w=.ok (.bool true) w:=by kernel_rfl
theorem zX7(h:Value)(w:World):(Go.method 445 196 (.agg #[h]) "Comparable").run prog w=.ok (268,.agg #[h]) w:=by kernel_rfl
theorem zX5(k:Int)(w:World):Sem.run prog (binOp .eql 35 (.iface 46 (.int .i64 k)) (.iface 46 (.int .i64 8))) w=.ok (.bool (k == 8)) w:=by
 kernel_rfl
theorem zX9(v:Value)(xT:TypeId)(w:World):(Instr.typeAssert (.iface 180 v) xT 251 true).run prog w=.ok (.tuple #[.nilIface,.bool false]) w:=run_typeAssert_lacksB underlying251 (by kernel_rfl) (by kernel_rfl) v xT w
theorem zX8(v:Value)(xT:TypeId)(w:World):(Instr.typeAssert (.iface 46 v) xT 251 true).run prog w=.ok (.tuple #[.nilIface,.bool false]) w:=run_typeAssert_lacksB underlying251 (by kernel_rfl) (by kernel_rfl) v xT w
theorem jA5(v:Value)(xT:TypeId)(w:World):(Instr.typeAssert (.iface 46 v) xT 204 true).run prog w=.ok (.tuple #[.nilIface,.bool false]) w:=run_typeAssert_lacksB underlying204 (by kernel_rfl) (by kernel_rfl) v xT w
theorem jA6(v:Value)(xT:TypeId)(w:World):(Instr.typeAssert (.iface 46 v) xT 205 true).run prog w=.ok (.tuple #[.nilIface,.bool false]) w:=run_typeAssert_lacksB underlying205 (by kernel_rfl) (by kernel_rfl) v xT w
theorem zX6(v:Value)(xT:TypeId)(w:World):(Instr.typeAssert (.iface 180 v) xT 204 true).run prog w=.ok (.tuple #[.iface 180 v,.bool true]) w:=run_typeAssert_hasB underlying204 (by kernel_rfl) v xT w
theorem zH8(F:Nat)(call:ByteArray)(k:Int)(w:World)(hk:k≠8)(hF:w.heap[F]?=some (.cells #[.string call,.iface 46 (.int .i64 k)] 183)):
  Calls prog 84 #[.iface 180 (.pointer (some ⟨F,0,none⟩)),.iface 46 (.int .i64 8)] w fun e w'=>e=.returned (.bool false)∧w'=w:=by
 have h151:=@run_callFunc_extern prog 116 _ ReflectliteType.typeOf func116 (by kernel_rfl) (by kernel_rfl) (by kernel_rfl) (by kernel_rfl);have hcmp:=@run_callFunc_extern prog 268 _ (Extern.ReflectliteType.method fun t=>do Rtype.noPackHeld "Comparable" t;pure (.bool (←typeInfo t).comparable)) func268 (by kernel_rfl) (by kernel_rfl) (by kernel_rfl) (by kernel_rfl);have tT:=qY9;have cT:=zX4;have mR:=zX7;have nF:=zX9;have nE:=zX8;have uE:=jA5;have vE:=jA6;have uF:=zX6;have mU:=qY8;have hq:=run_eql_iface_types (P:=prog) 180 46 (.pointer (some ⟨F,0,none⟩)) (.int .i64 8) underlying35 (by decide) w;have hb:(k == 8)=false:=by simp[hk]
 have he:=zX5 k w;rw[hb] at he;clear hk hb;have hFs:=ζ hF;have c1:=ξ hF 1;simp only[zG,zH,zI] at c1;go_enter func84,ntmps84;go_wp2;refine wp_loop_rounds 2 ?_;rw[rounds_succ];go_wp2;rw[rounds_succ];go_wp2;go_ret;exact⟨rfl,rfl⟩
end Go.Proofs.YtdohpenfkdckiabGreatDoor
namespace Go.Proofs.YtdohpenfkdckiabGreatDoor
open Go.Proofs.Tryz
open Go.RowKit Go.MuLone
def xG2(k:Int):Value:=.iface 162 (.agg #[.iface 46 (.int .i64 k)])
def qC6:Option Int→Ending
 | none=>.returned (.tuple #[])
 | some k=>.panicked [{ v:=xG2 k,recovered:=false }]
def qI6(w:World)(v:Value):Option Int→Prop
 | none=>v=.nilIface
 | some k=>∃ F call,v=.iface 180 (.pointer (some ⟨F,0,none⟩))∧w.heap[F]?=some (.cells #[.string call,.iface 46 (.int .i64 k)] 183)
theorem zS5(f:Nat)(cap:Array Value)(call:ByteArray)(k:Int)(w:World)(R:World→Prop)(hcf:∀ W:World,Sem.run prog (callFunc f cap) W=.ok (.enter f cap) W)
  (hw:Calls prog f cap ((w.alloc (.cells #[.string call] 9)).alloc (.cells #[.nilIface] 35)) fun e w'=>e=.panicked [{ v:=xG2 k,recovered:=false }]∧R w'∧w'.heap[w.heap.size+1]?=some (.cells #[.nilIface] 35)∧w'.heap[w.heap.size]?=some (.cells #[.string call] 9)):
  Calls prog 70 #[.string call,.func (.func f) #[] cap] w fun e w'=>∃ F,e=.returned (.iface 180 (.pointer (some ⟨F,0,none⟩)))∧w'.heap[F]?=some (.cells #[.string call,.iface 46 (.int .i64 k)] 183)∧∃ w1,R w1∧w1.heap.size≤F∧Kp [w.heap.size+1] w1 w':=by
 have hmf:=zM;have HW:=zh hw;clear hw
 go_enter_defers func70,ntmps70
 go_wp2_with fail;refine (show Calls _ _ _ _ _ from HW.out).mono ?_;rintro e w1 ⟨rfl,hR,hE,hB⟩;have HR:=zh hR;clear hR;go_wp2;refine leaves_cons (f:=108) (args:=#[.pointer (some ⟨w.heap.size,0,none⟩),.pointer (some ⟨w.heap.size+1,0,none⟩)]) (by simp) (by simp[go_sem]) ?_;refine (xO2 w.heap.size (w.heap.size+1) k call _ hB (by omega) hE).mono ?_;rintro e u' w2 ⟨rfl,rfl,F,hF,hF2,hE2,hK2⟩;have e0:=ξ hE2 0;simp at e0;simp[Leaves,settle,results,results70,go_sem,e0];exact⟨hF2,w1,HR.out,hF,hK2⟩
theorem zH9(k:Int)(w:World):Calls prog 84 #[.nilIface,.iface 46 (.int .i64 k)] w fun e w'=>e=.returned (.bool false)∧w'=w:=by
 have hb:∀ W:World,Sem.run prog (binOp .eql 35 .nilIface (.iface 46 (.int .i64 k))) W=.ok (.bool false) W:=fun W=>by kernel_rfl
 go_enter func84,ntmps84;go_wp2;go_ret;exact⟨rfl,rfl⟩
theorem qV9(args:Array Value)(W:World):Sem.run prog (callFunc 83 args) W=.ok (.enter 83 args) W:=by
 simp[go_sem,func83]
theorem zO8(k:Option Int)(S F St f:Nat)(s:Sto)(first cap:Array Value)(w:World)(R:World→Prop)(hS:w.heap[S]?=some (.cells #[.pointer (some ⟨St,0,none⟩)] 74))(hF:w.heap[F]?=some (.cells #[.func (.func f) first cap] 1))(hSt:w.heap[St]?=some (ν 1 s))(hpo:s.po=false)
  (hcf:∀ W:World,Sem.run prog (callFunc f (first++cap)) W=.ok (.enter f (first++cap)) W)
  (hw:Calls prog f (first++cap) w fun e w'=>e=qC6 k∧R w'):
  Calls prog 83 #[.pointer (some ⟨S,0,none⟩),.pointer (some ⟨F,0,none⟩)] w fun e w'=>e=qC6 k∧R w':=by
 have s0:=ξ hS 0;have f0:=ξ hF 0;have p7:=ξ hSt 7;simp[hpo] at s0 f0 p7;clear hS hF hSt;have HW:=zh hw;clear hw;go_enter func83,ntmps83;go_wp2_with fail;refine (show Calls _ _ _ _ _ from HW.out).mono ?_;rintro e w1 ⟨rfl,hR⟩
 cases k with
 | none=>
  simp only[qC6];go_wp2
  go_end0
  exact⟨rfl,hR⟩
 | some k=>
  simp only[qC6];go_wp2;exact⟨rfl,rfl,hR⟩
theorem zO9(k:Option Int)(hk8:k≠some 8)(St f:Nat)(s s':Sto)(first cap:Array Value)(call:ByteArray)(X:List Nat)(Q:World→World→Prop)(w:World)(hSt:w.heap[St]?=some (ν 0 s))(hpo:s.po=false)
  (hcf:∀ W:World,Sem.run prog (callFunc f (first++cap)) W=.ok (.enter f (first++cap)) W) (hX:∀ i,i∈X→i<w.heap.size)
  (hw:∀ W:World,Kp [St] w W→W.heap[St]?=some (ν 1 s)→Calls prog f (first++cap) W fun e w1=>e=qC6 k∧Q W w1∧Kp (St::X) W w1∧w1.heap[St]?=some (ν 1 s')):
  Calls prog 44 #[.pointer (some ⟨St,0,none⟩),.string call,.func (.func f) first cap] w fun e w'=>∃ v,e=.returned v∧qI6 w' v k∧w'.heap[St]?=some (ν 0 s')∧Kp (St::X) w w'∧∃ W w1 B,Q W w1∧Kp [St] w W∧w.heap.size≤B∧B<W.heap.size∧w1.heap[B]?=some (.cells #[.nilIface] 35)∧Kp [St,B] w1 w':=by
 have hmf:=zM;have HW:=zh hw;have HX:=zh hX;have HPO:=zh hpo;have HK8:=zh hk8;clear hw hX hpo hk8;have hSs:=ζ hSt
 go_enter_defers func44,ntmps44
 go_wp2_with fail;refine (lock_free qO3 ⟨St,0,none⟩ _ (ξ (θ _ (θ _ hSt)) 0) (ψ (θ _ (θ _ hSt)) 0)).mono ?_;rintro e W0 ⟨rfl,rfl⟩;obtain⟨W0,hW0,hK0,hs0,hB0,hF0,hSt0⟩:∃ W0,W0=((w.alloc (.cells #[.pointer (some ⟨St,0,none⟩)] 74)).alloc (.cells #[.func (Fn.func f) first cap] 1)).setCell ⟨St,0,none⟩ (.int .i32 1)∧Kp [St] w W0∧W0.heap.size=w.heap.size+2∧W0.heap[w.heap.size]?=some (.cells #[.pointer (some ⟨St,0,none⟩)] 74)∧W0.heap[w.heap.size+1]?=some (.cells #[.func (Fn.func f) first cap] 1)∧W0.heap[St]?=some (ν 1 s):=by
  refine⟨_,rfl,((((Kp.refl _ _).alloc _).alloc _).sc _),by simp[World.setCell],?_,?_,?_⟩
  ·exact (qA9 (by omega) _ _).trans (θ _ (μ _ _))
  ·refine (qA9 (by omega) _ _).trans ?_;have e:=μ (w.alloc (.cells #[.pointer (some ⟨St,0,none⟩)] 74)) (.cells #[.func (Fn.func f) first cap] 1);simpa using e
  ·exact φ (θ _ (θ _ hSt)) 0 _
 rw[←hW0];clear hW0;have b0:=ξ hB0 0;simp at b0;go_wp2_with fail;obtain⟨Wc,hWc,hKc,hsc,hBc,hFc,hStc,hEc,hCc⟩:∃ Wc,Wc=(W0.alloc (.cells #[.string call] 9)).alloc (.cells #[.nilIface] 35)∧Kp [St] w Wc∧Wc.heap.size=w.heap.size+4∧Wc.heap[w.heap.size]?=some (.cells #[.pointer (some ⟨St,0,none⟩)] 74)∧Wc.heap[w.heap.size+1]?=some (.cells #[.func (Fn.func f) first cap] 1)∧Wc.heap[St]?=some (ν 1 s)∧Wc.heap[W0.heap.size+1]?=some (.cells #[.nilIface] 35)∧Wc.heap[W0.heap.size]?=some (.cells #[.string call] 9):=by
  refine⟨_,rfl,(hK0.alloc _).alloc _,by simp[hs0],θ _ (θ _ hB0),θ _ (θ _ hF0),θ _ (θ _ hSt0),?_,θ _ (μ _ _)⟩;have e:=μ (W0.alloc (.cells #[.string call] 9)) (.cells #[.nilIface] 35);simpa using e
 have HA1:Hid (Calls prog 83 #[.pointer (some ⟨w.heap.size,0,none⟩),.pointer (some ⟨w.heap.size+1,0,none⟩)] Wc fun e w1=>e=qC6 k∧Q Wc w1∧Kp (St::X) Wc w1∧w1.heap[St]?=some (ν 1 s')):=
  zO8 k w.heap.size (w.heap.size+1) St f s first cap Wc (fun w1=>Q Wc w1∧Kp (St::X) Wc w1∧w1.heap[St]?=some (ν 1 s')) hBc hFc hStc HPO.out hcf (HW.out Wc hKc hStc)
 have HNM:Hid (∀ i,w.heap.size≤i→i ∉ St::X):=by
  show ∀ i,w.heap.size≤i→i ∉ St::X;intro i hi h;rcases List.mem_cons.1 h with h|h
  ·omega
  ·have:=HX.out _ h;omega
 clear HW
 cases k with
 | none=>
  refine (qV8 83 _ _ _ (fun w1=>Q Wc w1∧Kp (St::X) Wc w1∧w1.heap[St]?=some (ν 1 s')) (qV9 _) ?_).mono ?_
  ·rw[←hWc];refine (show Calls _ _ _ _ _ from HA1.out).mono ?_;rintro e w1 ⟨rfl,hQ,hk,hst⟩;exact⟨rfl,⟨hQ,hk,hst⟩,hk.heap hEc (HNM.out _ (by omega))⟩
  rintro e w2 ⟨rfl,w1,⟨hQ,hk,hst⟩,rfl⟩;have hs1:=hk.size;have hEw1:=hk.heap hEc (HNM.out _ (by omega));obtain⟨w2,hw2,hst2,hK2,ho2⟩:∃ w2,w2=w1.setCell ⟨W0.heap.size+1,0,none⟩ .nilIface∧w2.heap[St]?=some (ν 1 s')∧Kp (St::X) w w2∧Kp [St,W0.heap.size+1] w1 w2:=
   ⟨_,rfl,(qA9 (by omega) _ _).trans hst,(((hKc.mono (S':=St::X) (by simp)).trans hk (fun _ h _=>h)).setCell (Or.inr (by simp;omega)) _),(Kp.refl _ _).sc _⟩
  rw[←hw2];clear hw2
  go_wp2_with (go_at_call 84;refine (zH9 8 _).mono ?_;rintro e w' ⟨rfl,rfl⟩)
  refine leaves_cons (f:=82) (args:=#[.pointer (some ⟨St,0,none⟩)]) (by simp) (by simp[go_sem]) ?_;refine (unlock_deferred qO3 ⟨St,0,none⟩ .returning _ (ξ hst2 0) (ψ hst2 0)).mono ?_;rintro e u' w'' ⟨rfl,rfl,rfl⟩;exact⟨_,results_tmp rfl _ _ _,.nilIface,rfl,rfl,φ hst2 0 _,hK2.sc _,Wc,w1,W0.heap.size+1,hQ,hKc,by omega,by omega,hEw1,ho2.sc _⟩
 | some k=>
  have hk8:k≠8:=fun h=>HK8.out (by rw[h]);have HK:=zh hk8;clear hk8;refine (zS5 83 _ _ k _ (fun w1=>Q Wc w1∧Kp (St::X) Wc w1∧w1.heap[St]?=some (ν 1 s')) (qV9 _) ?_).mono ?_
  ·rw[←hWc];refine (show Calls _ _ _ _ _ from HA1.out).mono ?_;rintro e w1 ⟨rfl,hQ,hk,hst⟩;exact⟨rfl,⟨hQ,hk,hst⟩,hk.heap hEc (HNM.out _ (by omega)),hk.heap hCc (HNM.out _ (by omega))⟩
  rintro e w2 ⟨F,rfl,hF2,w1,⟨hQ,hk,hst⟩,hFs,hKc2⟩;have hs1:=hk.size;have hEw1:=hk.heap hEc (HNM.out _ (by omega));have hst2:w2.heap[St]?=some (ν 1 s'):=hKc2.ho hst;have hK2:Kp (St::X) w w2:=((hKc.mono (S':=St::X) (by simp)).trans hk (fun _ h _=>h)).trans hKc2 (by intro i hi hlt;simp at hi;omega);have ho2:Kp [St,W0.heap.size+1] w1 w2:=hKc2.mono (by simp);have HIS:Hid (Calls prog 84 #[.iface 180 (.pointer (some ⟨F,0,none⟩)),.iface 46 (.int .i64 8)] w2 fun e w'=>e=.returned (.bool false)∧w'=w2):=zH8 F _ k w2 HK.out hF2;have hFSt:St<F:=by have:=ζ hst;omega
  go_wp2_with (go_at_call 84;refine (show Calls _ _ _ _ _ from HIS.out).mono ?_;rintro e w' ⟨rfl,rfl⟩)
  refine leaves_cons (f:=82) (args:=#[.pointer (some ⟨St,0,none⟩)]) (by simp) (by simp[go_sem]) ?_;refine (unlock_deferred qO3 ⟨St,0,none⟩ .returning _ (ξ hst2 0) (ψ hst2 0)).mono ?_;rintro e u' w'' ⟨rfl,rfl,rfl⟩;exact⟨_,results_tmp rfl _ _ _,.iface 180 (.pointer (some ⟨F,0,none⟩)),rfl,⟨F,_,rfl,(qA9 (by omega) _ _).trans hF2⟩,φ hst2 0 _,hK2.sc _,Wc,w1,W0.heap.size+1,hQ,hKc,by omega,by omega,hEw1,ho2.sc _⟩
end Go.Proofs.YtdohpenfkdckiabGreatDoor
namespace Go.Proofs.YtdohpenfkdckiabGreatDoor
open Go.Proofs.Tryz
def kl(a b:ByteArray):Bool:=Op.bytesLess a.toList b.toList
theorem xA8:∀ (x y:List UInt8),Op.bytesLess x y=decide (x<y)
 | [],[]=>by simp[Op.bytesLess]
 | _::_,[]=>by simp[Op.bytesLess]
 | [],_::_=>by simp[Op.bytesLess]
 | a::x,b::y=>by
  rw[Op.bytesLess,xA8 x y];simp only[List.cons_lt_cons_iff];by_cases h1:a<b<;>by_cases h2:a=b<;>by_cases h3:x<y<;>simp[h1,h2,h3]
theorem zS3{a b:ByteArray}(h:a.toList=b.toList):a=b:=by
 rw[ByteArray.toList_eq,ByteArray.toList_eq] at h;cases a;cases b;simp only[ByteArray.mk.injEq];exact Array.toList_inj.1 h
theorem qU9(a b:ByteArray):(a.toList == b.toList)=decide (a=b):=by
 by_cases h:a=b
 ·simp[h]
 ·have:¬a.toList=b.toList:=fun e=>h (zS3 e);simp[h,this]
theorem zB2(a b:ByteArray):kl a b=true↔a.toList<b.toList:=by unfold kl;rw[xA8];simp
theorem qU0(a b:ByteArray):kl a b=false↔b.toList≤a.toList:=by
 rw[←Bool.not_eq_true,zB2];exact List.not_lt
theorem qW5(a:ByteArray):kl a a=false:=(qU0 a a).2 (List.le_refl _)
theorem qQ1{a b c:ByteArray}(h:kl a b=true)(k:kl b c=true):kl a c=true:=by
 rw[zB2] at *;exact List.lt_trans h k
theorem qQ0{a b:ByteArray}(h:kl a b=true):kl b a=false:=by
 rw[zB2] at h;rw[qU0];exact List.le_of_lt h
theorem zB3{a b:ByteArray}(h:kl a b=false)(k:kl b a=false):a=b:=by
 rw[qU0] at *;exact zS3 (List.le_antisymm k h)
theorem qW6{a b c:ByteArray}(h:kl b a=false)(k:kl b c=true):kl a c=true:=by
 rw[qU0] at h;rw[zB2] at *;exact List.lt_of_le_of_lt h k
theorem qO1{a b c:ByteArray}(h:kl a b=true)(k:kl c b=false):kl a c=true:=by
 by_cases e:kl a c=true
 ·exact e
 ·have:=qW6 (a:=c) (b:=a) (c:=b) (by simpa using e) h;rw[k] at this;cases this
theorem zY5{a b c:ByteArray}(h:kl b a=false)(k:kl c b=false):kl c a=false:=by
 rw[qU0] at *;exact List.le_trans h k
theorem qJ4{a b:ByteArray}(h:kl a b=true):a≠b:=fun e=>by subst e;rw[qW5] at h;cases h
theorem qO8(a:ByteArray):kl a ⟨#[]⟩=false:=by
 rw[qU0];simp
theorem zY6(a b:ByteArray):(Op.bytesLess a.toList b.toList || a.toList == b.toList)=!kl b a:=by
 rw[qU9];by_cases h:kl a b=true
 ·have:Op.bytesLess a.toList b.toList=true:=h;simp[this,qQ0 h]
 ·have h':kl a b=false:=by simpa using h
  have h0:Op.bytesLess a.toList b.toList=false:=h';by_cases e:a=b
  ·subst e;simp[qW5]
  ·have:kl b a=true:=by
    by_cases h2:kl b a=true
    ·exact h2
    ·exact absurd (zB3 h' (by simpa using h2)) e
   simp[h0,e,this]
structure KV where
 k:ByteArray
 v:ByteArray
 deriving DecidableEq
def Sorted(l:List KV):Prop:=l.Pairwise fun a b=>kl a.k b.k=true
def ins(p:KV)(l:List KV):List KV:=l.takeWhile (fun q=>kl q.k p.k)++p::(l.dropWhile (fun q=>kl q.k p.k)).filter (fun q=>!decide (q.k=p.k))
def del(k:ByteArray)(l:List KV):List KV:=l.filter fun q=>!decide (q.k=k)
theorem Sorted.append{a b:List KV}:Sorted (a++b)↔Sorted a∧Sorted b∧∀ x∈a,∀ y∈b,kl x.k y.k=true:=List.pairwise_append
theorem Sorted.del{l:List KV}(h:Sorted l)(k:ByteArray):Sorted (del k l):=h.sublist List.filter_sublist
theorem qX3{k:ByteArray}{l:List KV}{q:KV}:q∈del k l↔q∈l∧q.k≠k:=by simp[del]
theorem zB7{p q:KV}{l:List KV}(h:q∈ins p l):q=p∨q∈l:=by
 simp only[ins,List.mem_append,List.mem_cons,List.mem_filter] at h;rcases h with h|h|⟨h,_⟩
 ·exact .inr (List.takeWhile_sublist _ |>.subset h)
 ·exact .inl h
 ·exact .inr (List.dropWhile_sublist _ |>.subset h)
theorem qR3(p:KV)(l:List KV):(ins p l).length≤l.length+1:=by
 have h:=congrArg List.length (List.takeWhile_append_dropWhile (p:=fun q=>kl q.k p.k) (l:=l));have h2:=List.length_filter_le (fun q=>!decide (q.k=p.k)) (l.dropWhile (fun q=>kl q.k p.k));simp only[ins,List.length_append,List.length_cons] at *;omega
theorem zD5{p:ByteArray}{l:List KV}:∀ q∈l.takeWhile (fun q=>kl q.k p),kl q.k p=true:=by
 induction l with
 | nil=>intro q h;simp at h
 | cons a l ih=>
  intro q h;rw[List.takeWhile_cons] at h;split at h
  ·rcases List.mem_cons.1 h with rfl|h
   ·assumption
   ·exact ih q h
  ·simp at h
theorem zG1{p:ByteArray}{l:List KV}(hs:Sorted l):∀ q∈l.dropWhile (fun q=>kl q.k p),kl q.k p=false:=by
 induction l with
 | nil=>intro q h;simp at h
 | cons a l ih=>
  intro q h;have hs':=List.pairwise_cons.1 hs;rw[List.dropWhile_cons] at h;split at h
  ·exact ih hs'.2 q h
  ·next hn=>
   have hn:kl a.k p=false:=by simpa using hn
   rcases List.mem_cons.1 h with rfl|h
   ·exact hn
   ·exact qQ0 (qW6 hn (hs'.1 q h))
theorem Sorted.ins{l:List KV}(h:Sorted l)(p:KV):Sorted (ins p l):=by
 have hs:Sorted (l.takeWhile (fun q=>kl q.k p.k)++l.dropWhile (fun q=>kl q.k p.k)):=by rw[List.takeWhile_append_dropWhile];exact h
 obtain⟨h1,h2,h3⟩:=Sorted.append.1 hs;have hf:∀ q∈(l.dropWhile (fun q=>kl q.k p.k)).filter (fun q=>!decide (q.k=p.k)),kl p.k q.k=true:=by
  intro q hq;simp only[List.mem_filter,Bool.not_eq_true',decide_eq_false_iff_not] at hq;have:=zG1 h q hq.1;by_cases e:kl p.k q.k=true
  ·exact e
  ·exact absurd (zB3 this (by simpa using e)) hq.2
 refine Sorted.append.2 ⟨h1,List.pairwise_cons.2 ⟨hf,h2.sublist List.filter_sublist⟩,?_⟩;intro x hx y hy;rcases List.mem_cons.1 hy with rfl|hy
 ·exact zD5 x hx
 ·exact qQ1 (zD5 x hx) (hf y hy)
theorem zA4{l:List KV}{k:ByteArray}(h:∀ q∈l,q.k≠k):l.filter (fun q=>!decide (q.k=k))=l:=by
 rw[List.filter_eq_self];intro q hq;simp[h q hq]
theorem qW1{l:List KV}{k:ByteArray}(h:∀ q∈l,q.k≠k):del k l=l:=zA4 h
theorem qZ7(k:ByteArray)(a b:List KV):del k (a++b)=del k a++del k b:=by simp[del]
theorem xZ9{p:KV}{a b c:List KV}(ha:∀ q∈a,kl q.k p.k=true)(hc:∀ q∈c,kl p.k q.k=true):ins p (a++b++c)=a++ins p b++c:=by
 have h1:∀ (x y:List KV),(∀ q∈x,kl q.k p.k=true)→(x++y).takeWhile (fun q=>kl q.k p.k)=x++y.takeWhile (fun q=>kl q.k p.k):=by
  intro x y hx
  induction x with
  | nil=>rfl
  | cons z x ih=>simp[List.takeWhile_cons,hx z (by simp),ih (fun q hq=>hx q (by simp[hq]))]
 have h2:∀ (x y:List KV),(∀ q∈x,kl q.k p.k=true)→(x++y).dropWhile (fun q=>kl q.k p.k)=y.dropWhile (fun q=>kl q.k p.k):=by
  intro x y hx
  induction x with
  | nil=>rfl
  | cons z x ih=>simp[List.dropWhile_cons,hx z (by simp),ih (fun q hq=>hx q (by simp[hq]))]
 have hc0:∀ q∈c,kl q.k p.k=false:=fun q hq=>qQ0 (hc q hq);have h3:∀ y:List KV,(y++c).takeWhile (fun q=>kl q.k p.k)=y.takeWhile (fun q=>kl q.k p.k):=by
  intro y
  induction y with
  | nil=>
   cases c with
   | nil=>rfl
   | cons z c=>simp[List.takeWhile_cons,hc0 z (by simp)]
  | cons z y ih=>simp only[List.cons_append,List.takeWhile_cons];split<;>simp_all
 have h4:∀ y:List KV,(y++c).dropWhile (fun q=>kl q.k p.k)=y.dropWhile (fun q=>kl q.k p.k)++c:=by
  intro y
  induction y with
  | nil=>
   cases c with
   | nil=>rfl
   | cons z c=>simp[List.dropWhile_cons,hc0 z (by simp)]
  | cons z y ih=>simp only[List.cons_append,List.dropWhile_cons];split<;>simp_all
 have h5:c.filter (fun q=>!decide (q.k=p.k))=c:=zA4 fun q hq=>(qJ4 (hc q hq)).symm;unfold ins;rw[List.append_assoc,h1 _ _ ha,h2 _ _ ha,h3,h4,List.filter_append,h5];simp
theorem xR6{k:ByteArray}{a b c:List KV}(ha:∀ q∈a,kl q.k k=true)(hc:∀ q∈c,kl k q.k=true):del k (a++b++c)=a++del k b++c:=by
 rw[qZ7,qZ7,qW1 fun q hq=>qJ4 (ha q hq),qW1 fun q hq=>(qJ4 (hc q hq)).symm]
theorem xF6{l:List KV}(hs:Sorted l)(k:ByteArray):l.findIdx (fun q=>!kl q.k k)=(l.takeWhile (fun q=>kl q.k k)).length:=by
 induction l with
 | nil=>rfl
 | cons a l ih=>
  have hs':=List.pairwise_cons.1 hs;rw[List.findIdx_cons,List.takeWhile_cons];by_cases h:kl a.k k=true
  ·simp[h,ih hs'.2]
  ·have h':kl a.k k=false:=by simpa using h
   simp[h']
theorem xG0{l:List KV}(hs:Sorted l)(k:ByteArray):l.take (l.findIdx (fun q=>!kl q.k k))=l.takeWhile (fun q=>kl q.k k):=by
 rw[xF6 hs]
 conv=>lhs;arg 2;rw[←List.takeWhile_append_dropWhile (p:=fun q=>kl q.k k) (l:=l)]
 rw[List.take_left]
theorem zT9{l:List KV}(hs:Sorted l)(k:ByteArray):l.drop (l.findIdx (fun q=>!kl q.k k))=l.dropWhile (fun q=>kl q.k k):=by
 rw[xF6 hs]
 conv=>lhs;arg 2;rw[←List.takeWhile_append_dropWhile (p:=fun q=>kl q.k k) (l:=l)]
 rw[List.drop_left]
def qG0(l:List KV)(i:Nat)(k:ByteArray):Bool:=match l[i]? with
 | some q=>decide (q.k=k)
 | none=>false
def qC3(l:List KV)(k:ByteArray):Nat:=l.findIdx (fun q=>!kl q.k k)
theorem zD3(l:List KV)(k:ByteArray):qC3 l k≤l.length:=List.findIdx_le_length
theorem qS3{l:List KV}(hs:Sorted l)(p:KV):ins p l=l.take (qC3 l p.k)++[p]++l.drop (if qG0 l (qC3 l p.k) p.k then qC3 l p.k+1 else qC3 l p.k):=by
 unfold ins qC3;rw[xG0 hs];have hd:=zT9 hs p.k;have hg:=zG1 (p:=p.k) hs;have hsd:Sorted (l.dropWhile (fun q=>kl q.k p.k)):=hs.sublist (List.dropWhile_sublist _);generalize l.findIdx (fun q=>!kl q.k p.k)=i at *;have hat:l[i]?=(l.dropWhile (fun q=>kl q.k p.k)).head?:=by rw[←hd];simp
 have hd1:l.drop (i+1)=(l.dropWhile (fun q=>kl q.k p.k)).tail:=by rw[←hd];simp
 cases hc:l.dropWhile (fun q=>kl q.k p.k) with
 | nil=>
  rw[hc] at hat hd;simp[qG0,hat,hd]
 | cons a r=>
  rw[hc] at hat hd hd1 hg hsd;have hr:=List.pairwise_cons.1 hsd;by_cases e:a.k=p.k
  ·have:r.filter (fun q=>!decide (q.k=p.k))=r:=zA4 fun q hq=>by rw[←e];exact (qJ4 (hr.1 q hq)).symm
   simp[qG0,hat,e,hd1,this]
  ·have hlt:kl p.k a.k=true:=by
    by_cases h2:kl p.k a.k=true
    ·exact h2
    ·exact absurd (zB3 (hg a (by simp)) (by simpa using h2)) e
   have:r.filter (fun q=>!decide (q.k=p.k))=r:=zA4 fun q hq=>(qJ4 (qQ1 hlt (hr.1 q hq))).symm;simp[qG0,hat,e,hd,this]
theorem zH3{l:List KV}(hs:Sorted l)(k:ByteArray):qG0 l (qC3 l k) k=true↔∃ q∈l,q.k=k:=by
 unfold qC3;have hd:=zT9 hs k;have hg:=zG1 (p:=k) hs;have hsd:Sorted (l.dropWhile (fun q=>kl q.k k)):=hs.sublist (List.dropWhile_sublist _);have hat:l[l.findIdx (fun q=>!kl q.k k)]?=(l.dropWhile (fun q=>kl q.k k)).head?:=by rw[←hd];simp
 have hm:(∃ q∈l,q.k=k)↔∃ q∈l.dropWhile (fun q=>kl q.k k),q.k=k:=by
  constructor
  ·rintro⟨q,hq,e⟩;rw[←List.takeWhile_append_dropWhile (p:=fun q=>kl q.k k) (l:=l)] at hq;rcases List.mem_append.1 hq with h|h
   ·exact absurd e (qJ4 (zD5 q h))
   ·exact⟨q,h,e⟩
  ·rintro⟨q,hq,e⟩;exact⟨q,List.dropWhile_sublist _ |>.subset hq,e⟩
 rw[hm];unfold qG0;rw[hat]
 cases hc:l.dropWhile (fun q=>kl q.k k) with
 | nil=>simp
 | cons a r=>
  rw[hc] at hsd hg;have hr:=List.pairwise_cons.1 hsd;simp only[List.head?_cons,decide_eq_true_eq,List.mem_cons,exists_eq_or_imp];constructor
  ·intro h;exact .inl h
  ·rintro (h|⟨q,hq,e⟩)
   ·exact h
   ·have h1:=hr.1 q hq;rw[e] at h1;have h2:=hg a (by simp);rw[h1] at h2;cases h2
theorem zT8{l:List KV}(hs:Sorted l){k:ByteArray}(h:qG0 l (qC3 l k) k=true):del k l=l.take (qC3 l k)++l.drop (qC3 l k+1):=by
 have e:=List.take_append_drop (qC3 l k) l;unfold qG0 at h;split at h
 ·next q hq=>
  have hqk:q.k=k:=by simpa using h
  have hlt:=(List.getElem?_eq_some_iff.1 hq).1;have hd:l.drop (qC3 l k)=q::l.drop (qC3 l k+1):=by
   rw[List.drop_eq_getElem_cons hlt,(List.getElem?_eq_some_iff.1 hq).2]
  have hs2:Sorted (l.take (qC3 l k)++q::l.drop (qC3 l k+1)):=by rw[←hd,e];exact hs
  obtain⟨h1,h2,h3⟩:=Sorted.append.1 hs2;have h4:=List.pairwise_cons.1 h2
  conv=>lhs;rw[←e,hd]
  rw[qZ7,qW1 fun x hx=>by rw[←hqk];exact qJ4 (h3 x hx q (by simp))]
  congr 1
  rw[show q::l.drop (qC3 l k+1)=[q]++l.drop (qC3 l k+1) from rfl,qZ7,qW1 (l:=l.drop (qC3 l k+1)) fun x hx=>by rw[←hqk];exact (qJ4 (h4.1 x hx)).symm];simp[del,hqk]
 ·cases h
structure Lnk(X:Type) where
 key:ByteArray
 ref:Option (Nat × Int)
 sub:X
def Tn:Nat→Type
 | 0=>List KV
 | n+1=>List (Lnk (Tn n))
def cont:(n:Nat)→Tn n→List KV
 | 0,ps=>ps
 | n+1,ls=>List.flatMap (fun l:Lnk (Tn n)=>cont n l.sub) ls
def cnt:(n:Nat)→Tn n→Nat
 | 0,ps=>List.length (α:=KV) ps
 | n+1,ls=>List.length (α:=Lnk (Tn n)) ls
def ρ(p:KV):Nat:=1+p.k.size+p.v.size
def qA4{X:Type}(l:Lnk X):Nat:=11+l.key.size
def meas{α:Type}(f:α→Nat)(l:List α):Nat:=(l.map f).sum
theorem qG8{α:Type}(f:α→Nat)(a b:List α):meas f (a++b)=meas f a+meas f b:=by simp[meas]
theorem qF1{α:Type}(f:α→Nat)(a:α)(b:List α):meas f (a::b)=f a+meas f b:=by simp[meas]
theorem qE2{α:Type}(f:α→Nat):meas f []=0:=rfl
def qF2{α:Type}(f:α→Nat)(all:Nat):List α→Nat→Nat
 | [],_=>0
 | x::xs,n=>if 2*n<all then qF2 f all xs (n+f x)+1 else 0
def qB8{α:Type}(f:α→Nat)(l:List α):List (List α):=
 if meas f l≤126 then [l] else [l.take (qF2 f (meas f l) l 0),l.drop (qF2 f (meas f l) l 0)]
def links{α:Type}(low:α→ByteArray)(key:ByteArray):List (List α)→List (Lnk (List α))
 | []=>[]
 | a::rest=>⟨key,none,a⟩::rest.map fun b=>⟨(b.head?.map low).getD ⟨#[]⟩,none,b⟩
def qE7(key:ByteArray)(ps:List KV):List (Lnk (Tn 0)):=links KV.k key (qB8 ρ ps)
def qD5(n:Nat)(key:ByteArray)(ls:List (Lnk (Tn n))):List (Lnk (Tn (n+1))):=links Lnk.key key (qB8 qA4 ls)
def qB3{X:Type}(ls:List (Lnk X))(k:ByteArray):Nat:=ls.findIdx (fun l=>kl k l.key)-1
def qG7(p:KV)(ps:List KV):List KV:=ps.take (qC3 ps p.k)++[p]++ps.drop (if qG0 ps (qC3 ps p.k) p.k then qC3 ps p.k+1 else qC3 ps p.k)
def qE5:(n:Nat)→Lnk (Tn n)→KV→List (Lnk (Tn n))
 | 0,l,p=>qE7 l.key (qG7 p l.sub)
 | n+1,l,p=>
  let ls:List (Lnk (Tn n)):=l.sub
  match ls[qB3 ls p.k]? with
  | some m=>qD5 n l.key (ls.take (qB3 ls p.k)++qE5 n m p++ls.drop (qB3 ls p.k+1))
  | none=>[]
def qD9:(n:Nat)→ByteArray→Tn n→Tn n→List (Lnk (Tn n))
 | 0,key,a,b=>qE7 key (List.append (α:=KV) a b)
 | n+1,key,a,b=>qD5 n key (List.append (α:=Lnk (Tn n)) a b)
def qC5(n:Nat)(ls:List (Lnk (Tn n)))(i:Nat):List (Lnk (Tn n)):=
 match ls[i]? with
 | none=>ls
 | some l=>if 3≤cnt n l.sub then ls else
  match ls[min i (ls.length-2)]?,ls[min i (ls.length-2)+1]? with
  | some a,some b=>ls.take (min i (ls.length-2))++qD9 n a.key a.sub b.sub++ls.drop (min i (ls.length-2)+2)
  | _,_=>ls
def qD1:(n:Nat)→Lnk (Tn n)→ByteArray→List (Lnk (Tn n))
 | 0,l,k=>qE7 l.key (List.take (α:=KV) (qC3 l.sub k) l.sub++List.drop (α:=KV) (qC3 l.sub k+1) l.sub)
 | n+1,l,k=>
  let ls:List (Lnk (Tn n)):=l.sub
  match ls[qB3 ls k]? with
  | some m=>qD5 n l.key (qC5 n (ls.take (qB3 ls k)++qD1 n m k++ls.drop (qB3 ls k+1)) (qB3 ls k))
  | none=>[]
inductive Root where
 | none
 | at (n:Nat) (l:Lnk (Tn n))
def qT3:(n:Nat)→Lnk (Tn n)→Root
 | 0,l=>match (l.sub:List KV) with
  | []=>.none
  | _::_=>.at 0 l
 | n+1,l=>match (l.sub:List (Lnk (Tn n))) with
  | []=>.none
  | [m]=>.at n m
  | _::_::_=>.at (n+1) l
def qF4(n:Nat)(ls:List (Lnk (Tn n))):Root:=
 match ls with
 | []=>.none
 | [l]=>qT3 n l
 | ls=>match qD5 n ⟨#[]⟩ ls with
  | []=>.none
  | r::_=>qT3 (n+1) r
def Root.cont:Root→List KV
 | .none=>[]
 | .at n l=>YtdohpenfkdckiabGreatDoor.cont n l.sub
def Root.put(r:Root)(p:KV):Root:=match r with
 | .none=>qF4 0 (qE7 ⟨#[]⟩ [p])
 | .at n l=>qF4 n (qE5 n l p)
def Root.del(r:Root)(k:ByteArray):Root:=match r with
 | .none=>.none
 | .at n l=>if (YtdohpenfkdckiabGreatDoor.cont n l.sub).any (fun q=>decide (q.k=k)) then qF4 n (qD1 n l k) else .at n l
def qD0(p:KV):Prop:=1≤p.k.size∧p.k.size≤8∧p.v.size≤12
def zN7{X:Type}(co:X→List KV)(a b:Lnk X):Prop:=kl a.key b.key=true∧∀ q∈co a.sub,kl q.k b.key=true
abbrev qQ8(n:Nat)(a b:Lnk (Tn n)):Prop:=zN7 (cont n) a b
structure GoodL(lo:ByteArray)(ps:List KV):Prop where
 sorted:Sorted ps
 all:∀ p∈ps,qD0 p∧kl p.k lo=false
 fits:meas ρ ps≤126
structure GoodB{X:Type}(G:ByteArray→X→Prop)(C:X→Nat)(co:X→List KV)(lo:ByteArray)(ls:List (Lnk X)):Prop where
 head:∀ l∈ls.head?,l.key=lo
 all:∀ l∈ls,G l.key l.sub∧3≤C l.sub∧l.key.size≤8
 pair:ls.Pairwise (zN7 co)
 fits:meas qA4 ls≤126
def Good:(n:Nat)→ByteArray→Tn n→Prop
 | 0,lo,ps=>GoodL lo ps
 | n+1,lo,ls=>GoodB (Good n) (cnt n) (cont n) lo ls
structure Row0(n:Nat)(lo:ByteArray)(ls:List (Lnk (Tn n))):Prop where
 head:∀ l∈ls.head?,l.key=lo
 all:∀ l∈ls,Good n l.key l.sub∧l.key.size≤8
 pair:ls.Pairwise (qQ8 n)
theorem qN9:∀ (n:Nat) (lo:ByteArray) (t:Tn n),Good n lo t→Sorted (cont n t)∧∀ q∈cont n t,qD0 q∧kl q.k lo=false
 | 0,lo,ps,h=>⟨h.1,h.2⟩
 | n+1,lo,ls,h=>by
  obtain⟨hh,ha,hp,_⟩:=h;have ih:=fun l:Lnk (Tn n)=>qN9 n l.key l.sub;have key:∀ (ls:List (Lnk (Tn n))),(∀ l∈ls,Good n l.key l.sub)→ls.Pairwise (qQ8 n)→Sorted (ls.flatMap fun l=>cont n l.sub)∧∀ q∈ls.flatMap (fun l=>cont n l.sub),qD0 q∧∀ l∈ls.head?,kl q.k l.key=false:=by
   intro ls
   induction ls with
   | nil=>intro _ _;simp[Sorted]
   | cons a ls ihl=>
    intro hg hp;obtain⟨hp1,hp2⟩:=List.pairwise_cons.1 hp;obtain⟨i1,i2⟩:=ihl (fun l hl=>hg l (by simp[hl])) hp2;obtain⟨a1,a2⟩:=ih a (hg a (by simp));have hlow:∀ q∈ls.flatMap (fun l=>cont n l.sub),∃ b∈ls,kl q.k b.key=false:=by
     intro q hq;obtain⟨b,hb,hq⟩:=List.mem_flatMap.1 hq;exact⟨b,hb,((ih b (hg b (by simp[hb]))).2 q hq).2⟩
    rw[List.flatMap_cons];refine⟨Sorted.append.2 ⟨a1,i1,?_⟩,?_⟩
    ·intro x hx y hy;obtain⟨b,hb,hyb⟩:=hlow y hy;exact qO1 ((hp1 b hb).2 x hx) hyb
    ·intro q hq;rcases List.mem_append.1 hq with hq|hq
     ·exact⟨(a2 q hq).1,by simpa using (a2 q hq).2⟩
     ·obtain⟨b,hb,hqb⟩:=hlow q hq;refine⟨(i2 q hq).1,?_⟩;simp only[List.head?_cons,Option.mem_def,Option.some.injEq,forall_eq'];exact zY5 (qQ0 (hp1 b hb).1) hqb
  obtain⟨k1,k2⟩:=key ls (fun l hl=>(ha l hl).1) hp;refine⟨k1,fun q hq=>?_⟩;obtain⟨q1,q2⟩:=k2 q hq;refine⟨q1,?_⟩
  cases hls:(ls:List (Lnk (Tn n))) with
  | nil=>rw[show cont (n+1) ls=List.flatMap (fun l:Lnk (Tn n)=>cont n l.sub) ls from rfl,hls] at hq;simp at hq
  | cons a r=>
   have e:=hh a (by rw[hls];simp);have:=q2 a (by rw[hls];simp);rw[e] at this;exact this
section
variable {α:Type} (f:α→Nat)
theorem qZ6(all m:Nat):∀ (l:List α) (n:Nat),(∀ x∈l,f x≤m)→2*n<all+2*m→all≤2*(n+meas f l)→
  all≤2*(n+meas f (l.take (qF2 f all l n)))∧2*(n+meas f (l.take (qF2 f all l n)))<all+2*m
 | [],n,_,h1,h2=>by simp[qF2,meas] at *;omega
 | x::xs,n,hm,h1,h2=>by
  unfold qF2;have hx:=hm x (by simp);split
  ·have ih:=qZ6 all m xs (n+f x) (fun y hy=>hm y (by simp[hy])) (by omega) (by rw[qF1] at h2;omega);rw[List.take_succ_cons,qF1];omega
  ·simp[meas];omega
theorem qO2(m:Nat):∀ (l:List α),(∀ x∈l,f x≤m)→meas f l≤m*l.length
 | [],_=>by simp[meas]
 | x::xs,h=>by
  have h1:=h x (by simp);have h2:=qO2 m xs fun y hy=>h y (by simp[hy]);rw[qF1,List.length_cons,Nat.mul_succ];omega
theorem qQ3(l:List α)(i:Nat):meas f (l.take i)+meas f (l.drop i)=meas f l:=by
 rw[←qG8,List.take_append_drop]
theorem zA8(l:List α)(hm:∀ x∈l,f x≤21)(hl:meas f l≤210):
  (qB8 f l=[l]∧meas f l≤126)∨∃ a b,qB8 f l=[a,b]∧a++b=l∧meas f a≤126∧meas f b≤126∧3≤a.length∧3≤b.length:=by
 unfold qB8;split
 ·exact .inl ⟨rfl,by assumption⟩
 ·next h=>
  right;have hs:=qZ6 f (meas f l) 21 l 0 hm (by omega) (by omega);have ht:=qQ3 f l (qF2 f (meas f l) l 0);refine⟨_,_,rfl,List.take_append_drop _ _,by omega,by omega,?_,?_⟩
  ·have:=qO2 f 21 (l.take (qF2 f (meas f l) l 0)) fun x hx=>hm x (List.mem_of_mem_take hx);omega
  ·have:=qO2 f 21 (l.drop (qF2 f (meas f l) l 0)) fun x hx=>hm x (List.mem_of_mem_drop hx);omega
end
theorem qU4{lo:ByteArray}{ps:List KV}(hs:Sorted ps)(ho:∀ p∈ps,qD0 p∧kl p.k lo=false)(hm:meas ρ ps≤210)(hlo:lo.size≤8):
  Row0 0 lo (qE7 lo ps)∧(qE7 lo ps).flatMap (fun l=>cont 0 l.sub)=ps∧
  ((∃ a,qE7 lo ps=[a]∧a.key=lo∧a.ref=none∧a.sub=ps)∨∃ a b,qE7 lo ps=[a,b]∧a.key=lo∧a.ref=none∧b.ref=none∧3≤cnt 0 a.sub∧3≤cnt 0 b.sub):=by
 have hsz:∀ x∈ps,ρ x≤21:=fun x hx=>by obtain⟨⟨h1,h2,h3⟩,_⟩:=ho x hx;unfold ρ;omega
 rcases zA8 ρ ps hsz hm with⟨e,h1⟩|⟨a,b,e,hab,ha,hb,ha3,hb3⟩
 ·have e':qE7 lo ps=[⟨lo,none,ps⟩]:=by unfold qE7;rw[e];rfl
  rw[e'];refine⟨⟨by simp,?_,by simp⟩,List.append_nil ps,.inl ⟨_,rfl,rfl,rfl,rfl⟩⟩;intro l hl;rw[List.mem_singleton.1 hl];exact⟨⟨hs,ho,h1⟩,hlo⟩
 ·subst hab;obtain⟨c,r,rfl⟩:∃ c r,b=c::r:=by cases b with
   | nil=>simp at hb3
   | cons c r=>exact⟨c,r,rfl⟩
  obtain⟨c0,r0,rfl⟩:∃ c r,a=c::r:=by cases a with
   | nil=>simp at ha3
   | cons c r=>exact⟨c,r,rfl⟩
  have e':qE7 lo (c0::r0++c::r)=[⟨lo,none,c0::r0⟩,⟨c.k,none,c::r⟩]:=by unfold qE7;rw[e];rfl
  rw[e'];obtain⟨s1,s2,s3⟩:=Sorted.append.1 hs;have hc:=ho c (by simp);refine⟨⟨by simp,?_,?_⟩,show c0::r0++(c::r++[])=_ by simp,.inr ⟨_,_,rfl,rfl,rfl,rfl,ha3,hb3⟩⟩
  ·intro l hl;simp only[List.mem_cons,List.not_mem_nil,or_false] at hl;rcases hl with rfl|rfl
   ·exact⟨⟨s1,fun p hp=>ho p (by simp at hp ⊢;rcases hp with h | h<;>simp[h]),ha⟩,hlo⟩
   ·refine⟨⟨s2,fun p hp=>⟨(ho p (List.mem_append_right _ hp)).1,?_⟩,hb⟩,hc.1.2.1⟩;rcases List.mem_cons.1 hp with rfl|hp
    ·exact qW5 _
    ·exact qQ0 ((List.pairwise_cons.1 s2).1 p hp)
  ·simp only[List.pairwise_cons,List.mem_cons,List.not_mem_nil,or_false,forall_eq,List.Pairwise.nil,and_true,false_implies,implies_true];refine⟨qW6 (ho c0 (by simp)).2 (s3 c0 (by simp) c (by simp)),fun q hq=>s3 q hq c (by simp)⟩
theorem zF8{n:Nat}{lo:ByteArray}{ls:List (Lnk (Tn n))}(h:Row0 n lo ls)(h3:∀ l∈ls,3≤cnt n l.sub)(hm:meas qA4 ls≤210)(hlo:lo.size≤8):
  Row0 (n+1) lo (qD5 n lo ls)∧(qD5 n lo ls).flatMap (fun l=>cont (n+1) l.sub)=ls.flatMap (fun l=>cont n l.sub)∧
  ((∃ a,qD5 n lo ls=[a]∧a.key=lo∧a.ref=none∧a.sub=ls)∨∃ a b,qD5 n lo ls=[a,b]∧a.key=lo∧a.ref=none∧b.ref=none∧3≤cnt (n+1) a.sub∧3≤cnt (n+1) b.sub):=by
 have hsz:∀ x∈ls,qA4 x≤21:=fun x hx=>by have:=(h.all x hx).2;unfold qA4;omega
 rcases zA8 qA4 ls hsz hm with⟨e,h1⟩|⟨a,b,e,hab,ha,hb,ha3,hb3⟩
 ·have e':qD5 n lo ls=[⟨lo,none,ls⟩]:=by unfold qD5;rw[e];rfl
  rw[e'];refine⟨⟨by simp,?_,by simp⟩,List.append_nil _,.inl ⟨_,rfl,rfl,rfl,rfl⟩⟩;intro l hl;rw[List.mem_singleton.1 hl];exact⟨⟨h.head,fun l hl=>⟨(h.all l hl).1,h3 l hl,(h.all l hl).2⟩,h.pair,h1⟩,hlo⟩
 ·subst hab;obtain⟨c,r,rfl⟩:∃ c r,b=c::r:=by cases b with
   | nil=>simp at hb3
   | cons c r=>exact⟨c,r,rfl⟩
  obtain⟨c0,r0,rfl⟩:∃ c r,a=c::r:=by cases a with
   | nil=>simp at ha3
   | cons c r=>exact⟨c,r,rfl⟩
  have e':qD5 n lo (c0::r0++c::r)=[⟨lo,none,c0::r0⟩,⟨c.key,none,c::r⟩]:=by unfold qD5;rw[e];rfl
  rw[e'];obtain⟨s1,s2,s3⟩:=List.pairwise_append.1 h.pair;have hc0:=h.head c0 (by simp);have hall:∀ l∈c0::r0++c::r,Good n l.key l.sub∧3≤cnt n l.sub∧l.key.size≤8:=fun l hl=>⟨(h.all l hl).1,h3 l hl,(h.all l hl).2⟩;refine⟨⟨by simp,?_,?_⟩,?_,.inr ⟨_,_,rfl,rfl,rfl,rfl,ha3,hb3⟩⟩
  rotate_left 2
  ·show List.flatMap _ (c0::r0)++(List.flatMap _ (c::r)++[])=_;rw[List.append_nil,←List.flatMap_append]
  ·intro l hl;simp only[List.mem_cons,List.not_mem_nil,or_false] at hl;rcases hl with rfl|rfl
   ·exact⟨⟨by simpa using hc0,fun l hl=>hall l (List.mem_append_left _ hl),s1,ha⟩,hlo⟩
   ·exact⟨⟨by simp,fun l hl=>hall l (List.mem_append_right _ hl),s2,hb⟩,(hall c (by simp)).2.2⟩
  ·simp only[List.pairwise_cons,List.mem_cons,List.not_mem_nil,or_false,forall_eq,List.Pairwise.nil,and_true,false_implies,implies_true];refine⟨by rw[←hc0];exact (s3 c0 (by simp) c (by simp)).1,fun q hq=>?_⟩;obtain⟨l,hl,hq⟩:=List.mem_flatMap.1 hq;exact (s3 l hl c (by simp)).2 q hq
def η{n:Nat}(t:Tn (n+1)):List (Lnk (Tn n)):=t
def prs(t:Tn 0):List KV:=t
theorem qZ5:∀ (n:Nat) (lo:ByteArray) (t:Tn n),Good n lo t→1≤cnt n t→∃ q,q∈cont n t
 | 0,lo,ps,h,h1=>by
  have h2:1≤(prs ps).length:=h1;obtain⟨a,ha⟩:=List.exists_mem_of_length_pos (l:=prs ps) (by omega);exact⟨a,ha⟩
 | n+1,lo,ls,h,h1=>by
  have h2:1≤(η ls).length:=h1;obtain⟨a,ha⟩:=List.exists_mem_of_length_pos (l:=η ls) (by omega);have hg:=h.all a ha;obtain⟨q,hq⟩:=qZ5 n a.key a.sub hg.1 (by omega);exact⟨q,List.mem_flatMap.2 ⟨a,ha,hq⟩⟩
theorem zE3{n:Nat}{lo k:ByteArray}{ls:List (Lnk (Tn n))}(h:Row0 n lo ls)(hne:ls≠[])(hk:kl k lo=false):
  ∃ A m B,ls=A++m::B∧A.length=qB3 ls k∧kl k m.key=false∧(∀ a∈A,∀ q∈cont n a.sub,kl q.k k=true)∧(∀ b∈B,kl k b.key=true):=by
 have hpos:1≤ls.findIdx (fun l=>kl k l.key):=by
  cases ls with
  | nil=>exact absurd rfl hne
  | cons a r=>
   have e:=h.head a (by simp);rw[List.findIdx_cons,e,hk];simp
 have hle:ls.findIdx (fun l=>kl k l.key)≤ls.length:=List.findIdx_le_length;have hi:qB3 ls k<ls.length:=by unfold qB3;omega
 have hm:kl k (ls[qB3 ls k]).key=false:=by
  have:=List.not_of_lt_findIdx (p:=fun l:Lnk (Tn n)=>kl k l.key) (xs:=ls) (i:=qB3 ls k) (by unfold qB3;omega);simpa using this
 have hsp:ls=ls.take (qB3 ls k)++ls[qB3 ls k]::ls.drop (qB3 ls k+1):=by
  rw[List.getElem_cons_drop];simp
 have hp:=h.pair;rw[hsp] at hp;obtain⟨p1,p2,p3⟩:=List.pairwise_append.1 hp;refine⟨ls.take (qB3 ls k),ls[qB3 ls k],ls.drop (qB3 ls k+1),hsp,by simp;omega,hm,?_,?_⟩
 ·intro a ha q hq;exact qO1 ((p3 a ha _ (List.mem_cons_self ..)).2 q hq) hm
 ·intro b hb;have e:qB3 ls k+1=ls.findIdx (fun l=>kl k l.key):=by unfold qB3;omega
  rw[e] at hb;by_cases hlt:ls.findIdx (fun l=>kl k l.key)<ls.length
  ·have h0:kl k (ls[ls.findIdx (fun l=>kl k l.key)]).key=true:=List.findIdx_getElem (w:=hlt);rw[List.drop_eq_getElem_cons hlt] at hb;rcases List.mem_cons.1 hb with rfl|hb
   ·exact h0
   ·have hp2:=h.pair;rw[←List.take_append_drop (ls.findIdx (fun l=>kl k l.key)) ls,List.drop_eq_getElem_cons hlt] at hp2;have:=(List.pairwise_cons.1 (List.pairwise_append.1 hp2).2.1).1 b hb;exact qQ1 h0 this.1
  ·rw[List.drop_of_length_le (by omega)] at hb;simp at hb
theorem Row0.keys{n:Nat}{lo:ByteArray}{W:List (Lnk (Tn n))}(h:Row0 n lo W):∀ w∈W,kl w.key lo=false:=by
 intro w hw
 cases W with
 | nil=>simp at hw
 | cons a r=>
  have e:=h.head a (by simp);rcases List.mem_cons.1 hw with rfl|hw
  ·rw[e];exact qW5 _
  ·have:=((List.pairwise_cons.1 h.pair).1 w hw).1;rw[e] at this;exact qQ0 this
theorem zC9{n:Nat}{lo:ByteArray}{A B W:List (Lnk (Tn n))}{m:Lnk (Tn n)}(h:Row0 n lo (A++m::B))(hW:Row0 n m.key W)(hne:W≠[])(hc:∀ w∈W,1≤cnt n w.sub)
  (hB:∀ w∈W,∀ q∈cont n w.sub,∀ b∈B,kl q.k b.key=true):Row0 n lo (A++W++B):=by
 obtain⟨p1,p2,p3⟩:=List.pairwise_append.1 h.pair;obtain⟨p4,p5⟩:=List.pairwise_cons.1 p2;refine⟨?_,?_,?_⟩
 ·intro l hl
  cases A with
  | nil=>
   have e:=h.head m (by simp)
   cases W with
   | nil=>exact absurd rfl hne
   | cons w W=>
    simp at hl;rw[←hl,hW.head w (by simp),e]
  | cons a A=>
   simp at hl;rw[←hl];exact h.head a (by simp)
 ·intro l hl;simp only[List.mem_append] at hl;rcases hl with (hl|hl)|hl
  ·exact h.all l (by simp[hl])
  ·exact hW.all l hl
  ·exact h.all l (by simp[hl])
 ·rw[List.append_assoc];refine List.pairwise_append.2 ⟨p1,List.pairwise_append.2 ⟨hW.pair,p5,?_⟩,?_⟩
  ·intro w hw b hb;obtain⟨q,hq⟩:=qZ5 n w.key w.sub (hW.all w hw).1 (hc w hw);have hqb:=hB w hw q hq b hb;have hqw:=((qN9 n w.key w.sub (hW.all w hw).1).2 q hq).2;exact⟨qW6 hqw hqb,fun q hq=>hB w hw q hq b hb⟩
  ·intro a ha x hx;rcases List.mem_append.1 hx with hx|hx
   ·have hm:=p3 a ha m (by simp);have hk:=hW.keys x hx;exact⟨qO1 hm.1 hk,fun q hq=>qO1 (hm.2 q hq) hk⟩
   ·exact p3 a ha x (by simp[hx])
theorem zJ9(p:KV){l:List KV}(hs:Sorted l):meas ρ (ins p l)≤meas ρ l+ρ p:=by
 rw[qS3 hs,qG8,qG8,qF1,qE2];have h1:=qQ3 ρ l (qC3 l p.k);have h2:meas ρ (l.drop (if qG0 l (qC3 l p.k) p.k then qC3 l p.k+1 else qC3 l p.k))≤meas ρ (l.drop (qC3 l p.k)):=by
  split
  ·have:=qQ3 ρ (l.drop (qC3 l p.k)) 1;rw[List.drop_drop] at this;omega
  ·exact Nat.le_refl _
 omega
theorem xZ7(p:KV){l:List KV}(hs:Sorted l):l.length≤(ins p l).length:=by
 rw[qS3 hs];have:=zD3 l p.k;simp only[List.length_append,List.length_take,List.length_drop,List.length_cons,List.length_nil];split<;>omega
def Made(n:Nat)(l:Lnk (Tn n))(d:Nat)(W:List (Lnk (Tn n))):Prop:=
 (∃ a,W=[a]∧a.key=l.key∧a.ref=none∧cnt n l.sub≤cnt n a.sub+d)∨∃ a b,W=[a,b]∧a.key=l.key∧a.ref=none∧b.ref=none∧3≤cnt n a.sub∧3≤cnt n b.sub
theorem Made.ne{n:Nat}{l:Lnk (Tn n)}{d:Nat}{W:List (Lnk (Tn n))}(h:Made n l d W):W≠[]:=by
 rcases h with⟨a,rfl,_⟩|⟨a,b,rfl,_⟩<;>simp
theorem Made.meas{n:Nat}{l:Lnk (Tn n)}{d:Nat}{W:List (Lnk (Tn n))}(h:Made n l d W)(hk:∀ w∈W,w.key.size≤8):meas qA4 W≤qA4 l+19:=by
 rcases h with⟨a,rfl,e,_⟩|⟨a,b,rfl,e,_⟩
 ·simp[YtdohpenfkdckiabGreatDoor.meas,qA4,e]
 ·have:=hk b (by simp);simp[YtdohpenfkdckiabGreatDoor.meas,qA4,e];omega
theorem qY1:∀ (n:Nat) (l:Lnk (Tn n)) (p:KV),Good n l.key l.sub→qD0 p→kl p.k l.key=false→l.key.size≤8→1≤cnt n l.sub→
  Row0 n l.key (qE5 n l p)∧(qE5 n l p).flatMap (fun l=>cont n l.sub)=ins p (cont n l.sub)∧Made n l 0 (qE5 n l p)
 | 0,l,p,h,hp,hk,hz,h1=>by
  have hs:Sorted l.sub:=h.sorted;have e:qG7 p l.sub=ins p l.sub:=(qS3 hs p).symm;have hm:=zJ9 p hs;have hps:ρ p≤21:=by obtain⟨h1,h2,h3⟩:=hp;unfold ρ;omega
  obtain⟨r1,r2,r3⟩:=qU4 (lo:=l.key) (ps:=ins p l.sub) (hs.ins p) (fun q hq=>by
   rcases zB7 hq with rfl|hq
   ·exact⟨hp,hk⟩
   ·exact h.all q hq) (by have:=h.fits;omega) hz
  show Row0 0 l.key (qE7 l.key (qG7 p l.sub))∧List.flatMap _ (qE7 l.key (qG7 p l.sub))=_∧Made 0 l 0 (qE7 l.key (qG7 p l.sub));rw[e];refine⟨r1,r2,?_⟩;rcases r3 with⟨a,e1,e2,e3,e4⟩|⟨a,b,e1,e2,e3,e4,e5,e6⟩
  ·refine .inl ⟨a,e1,e2,e3,?_⟩;rw[e4];exact xZ7 p hs
  ·exact .inr ⟨a,b,e1,e2,e3,e4,e5,e6⟩
 | n+1,l,p,h,hp,hk,hz,h1=>by
  have hr:Row0 n l.key l.sub:=⟨h.head,fun m hm=>⟨(h.all m hm).1,(h.all m hm).2.2⟩,h.pair⟩;obtain⟨A,m,B,e,hA,hkm,hqA,hqB⟩:=zE3 (k:=p.k) hr (by intro e;have h2:1≤List.length (α:=Lnk (Tn n)) l.sub:=h1;rw[e] at h2;simp at h2) hk;have hall:∀ x∈A++m::B,Good n x.key x.sub∧3≤cnt n x.sub∧x.key.size≤8:=fun x hx=>h.all x (by rw[e];exact hx);have hm:=hall m (by simp);obtain⟨w1,w2,w3⟩:=qY1 n m p hm.1 hp hkm hm.2.2 (by omega);have hwc:∀ w∈qE5 n m p,3≤cnt n w.sub:=by
   rcases w3 with⟨a,e1,_,_,e4⟩|⟨a,b,e1,_,_,_,e5,e6⟩
   ·rw[e1];intro w hw;rw[List.mem_singleton.1 hw];omega
   ·rw[e1];intro w hw;simp only[List.mem_cons,List.not_mem_nil,or_false] at hw;rcases hw with rfl|rfl<;>assumption
  have hr':Row0 n l.key (A++m::B):=by rw[←e];exact hr
  have hqm:∀ w∈qE5 n m p,∀ q∈cont n w.sub,q=p∨q∈cont n m.sub:=fun w hw q hq=>by
   have:q∈(qE5 n m p).flatMap (fun l=>cont n l.sub):=List.mem_flatMap.2 ⟨w,hw,hq⟩;rw[w2] at this;exact zB7 this
  have hpair:=List.pairwise_append.1 hr'.pair;have hsp:=zC9 hr' w1 w3.ne (fun w hw=>by have:=hwc w hw;omega) (fun w hw q hq b hb=>by
   rcases hqm w hw q hq with rfl|hq
   ·exact hqB b hb
   ·exact ((List.pairwise_cons.1 hpair.2.1).1 b hb).2 q hq)
  have hmW:=w3.meas (fun w hw=>(w1.all w hw).2);have hfit:meas qA4 (A++m::B)≤126:=by have:=h.fits;rw[e] at this;exact this
  have hmm:meas qA4 (A++qE5 n m p++B)≤210:=by
   rw[qG8,qG8];rw[qG8,qF1] at hfit;omega
  have hget:(η l.sub)[qB3 (η l.sub) p.k]?=some m:=by rw[show qB3 (η l.sub) p.k=A.length from hA.symm,show η l.sub=A++m::B from e];simp
  have htake:(η l.sub).take (qB3 (η l.sub) p.k)=A:=by rw[show qB3 (η l.sub) p.k=A.length from hA.symm,show η l.sub=A++m::B from e];simp
  have hdrop:(η l.sub).drop (qB3 (η l.sub) p.k+1)=B:=by
   rw[show qB3 (η l.sub) p.k=A.length from hA.symm,show η l.sub=(A++[m])++B by rw[show η l.sub=A++m::B from e];simp];exact List.drop_left' (by simp)
  have hw:qE5 (n+1) l p=qD5 n l.key (A++qE5 n m p++B):=by
   show (match (η l.sub)[qB3 (η l.sub) p.k]? with
    | some m=>qD5 n l.key ((η l.sub).take (qB3 (η l.sub) p.k)++qE5 n m p++(η l.sub).drop (qB3 (η l.sub) p.k+1))
    | none=>[])=_
   rw[hget,htake,hdrop]
  rw[hw];obtain⟨b1,b2,b3⟩:=zF8 hsp (fun x hx=>by
   simp only[List.mem_append] at hx;rcases hx with (hx|hx)|hx
   ·exact (hall x (by simp[hx])).2.1
   ·exact hwc x hx
   ·exact (hall x (by simp[hx])).2.1) hmm hz
  refine⟨b1,?_,?_⟩
  ·rw[b2];show _=ins p (List.flatMap (fun l:Lnk (Tn n)=>cont n l.sub) l.sub);rw[e];simp only[List.flatMap_append,w2,List.flatMap_cons];rw[←List.append_assoc,xZ9 (fun q hq=>by obtain⟨a,ha,hq⟩:=List.mem_flatMap.1 hq;exact hqA a ha q hq) (fun q hq=>by
    obtain⟨b,hb,hq⟩:=List.mem_flatMap.1 hq;exact qO1 (hqB b hb) ((qN9 n b.key b.sub (hall b (by simp[hb])).1).2 q hq).2)]
  ·rcases b3 with⟨a,e1,e2,e3,e4⟩|⟨a,b,e1,e2,e3,e4,e5,e6⟩
   ·refine .inl ⟨a,e1,e2,e3,?_⟩;rw[e4];show List.length (α:=Lnk (Tn n)) l.sub≤List.length (α:=Lnk (Tn n)) (A++qE5 n m p++B);rw[e];have:1≤(qE5 n m p).length:=by
     rcases w3 with⟨a,e1,_⟩|⟨a,b,e1,_⟩<;>rw[e1]<;>simp
    simp;omega
   ·exact .inr ⟨a,b,e1,e2,e3,e4,e5,e6⟩
end Go.Proofs.YtdohpenfkdckiabGreatDoor
