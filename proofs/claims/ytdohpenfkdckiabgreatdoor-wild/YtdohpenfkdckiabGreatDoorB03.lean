import Derived.Test.YtdohpenfkdckiabGreatDoorB02
import Derived.Defers
import Derived.Recover
import Derived.WalkSmall
import Derived.Carry
import Derived.LaidEql
import Derived.Stop.Asserts
import Derived.RowKitTokens
import Derived.Conc.MuLib
import Derived.Conc.MuLone
import Derived.KernelRfl
set_option linter.all false
set_option maxRecDepth 100000
set_option maxHeartbeats 20000000
namespace Go.Proofs.YtdohpenfkdckiabGreatDoor
open Go.Proofs.Tryz
open Go.RowKit
theorem qH4(a b:List Int):toB (a++b)=toB a++toB b:=by simp[toB]
variable {κ:Nat}
def qC8(l:List UInt8)(i:Nat)(b:List UInt8):List UInt8:=l.take (i*128)++b++l.drop (i*128+b.length)
variable {κ:Nat}
theorem xT7(p:Addr)(w:World):
  CallsD prog 150 #[.pointer (some p)] .returning w fun e u' w'=>e=.returned (.tuple #[])∧u'=.returning∧w'=w:=by
 refine callsD_of_wpS func150 rfl fun c₀ cs hu=>?_;apply wpS_seq;apply wpS_region;simp[wpOpsS,go_sem,recoverD,hu,ntmps150,Exit.thenS];refine wpS_cond (t:=false) (by simp[Act.eval,Array.replicate]) ?_;simp only[Bool.false_eq_true,if_false];refine wpS_of_wp (wp_skip ?_);cases c₀
 simp_all [bodyPostS,results,results150]
theorem xL7(A n C:Nat)(cache:Value)(calls writes:Int)(w:World)(h:w.heap[A]?=some (χ κ n C cache calls writes)):
  Calls prog 110 #[.iface 23 (.pointer (some ⟨A,0,none⟩))] w fun e w'=>e=.returned (.int .i64 n)∧Kp [] w w':=by
 have hmf:=zM;have hA:=ζ h
 go_enter_defers func110,ntmps110
 go_wp2_with fail;refine (zM7 A n C cache calls writes _ (θ _ h)).mono ?_;rintro e w1 ⟨rfl,rfl⟩;go_wp2;refine leaves_cons (f:=150) (args:=#[.pointer (some ⟨w.heap.size,0,none⟩)]) (by simp) (by simp[go_sem]) ?_;refine (xT7 ⟨w.heap.size,0,none⟩ _).mono ?_;rintro e u' w'' ⟨rfl,rfl,rfl⟩;simp[Leaves,settle,results,results110,go_sem];exact (Kp.refl _ _).alloc _
theorem zD7(A n C:Nat)(cache:Value)(calls writes:Int)(w:World)(h:w.heap[A]?=some (χ κ n C cache calls writes))(h8:8≤n)(h400:n≤400):
  Calls prog 72 #[.iface 23 (.pointer (some ⟨A,0,none⟩))] w fun e w'=>∃ V,e=.returned (.pointer (some ⟨V,0,none⟩))∧w.heap.size≤V∧w'.heap[V]?=some (qB8 A n)∧Kp [] w w':=by
 go_enter func72,ntmps72;go_wp2_with fail;refine (xL7 A n C cache calls writes _ h).mono ?_;rintro e w1 ⟨rfl,hK1⟩;have hd:decide ((n:Int)<8)=false:=by simp;omega
 have hd2:decide ((400:Int)<(n:Int))=false:=by simp;omega
 have hs1:=hK1.size;go_wp2;go_ret;exact⟨_,rfl,hs1,μ _ _,hK1.alloc _⟩
theorem jU3(k:Int)(w:World):
  Calls prog 109 #[.iface 162 (.agg #[.iface 46 (.int .i64 k)])] w fun e w'=>e=.returned (.iface 46 (.int .i64 k))∧Kp [] w w':=by
 have hta:∀ W:World,Sem.run prog (Instr.typeAssert (.iface 162 (.agg #[.iface 46 (.int .i64 k)])) 20 162 true) W=.ok (.tuple #[.agg #[.iface 46 (.int .i64 k)],.bool true]) W:=fun W=>by kernel_rfl
 go_enter func109,ntmps109;go_wp2;go_ret;exact⟨rfl,(Kp.refl _ _).alloc _⟩
theorem zR0(p q:Addr)(w:World):
  CallsD prog 108 #[.pointer (some p),.pointer (some q)] .returning w fun e u' w'=>e=.returned (.tuple #[])∧u'=.returning∧w'=w:=by
 refine callsD_of_wpS func108 rfl fun c₀ cs hu=>?_;apply wpS_seq;apply wpS_region;simp[wpOpsS,go_sem,recoverD,hu,ntmps108,Exit.thenS,Array.replicate];refine wpS_of_wp ?_;go_wp2;cases c₀
 simp_all [bodyPostS,results,results108]
theorem zG7(B E:Nat)(k:Int)(call:ByteArray)(w:World)(hp:w.heap[B]?=some (.cells #[.string call] 9))(hBE:B≠E)(hE:w.heap[E]?=some (.cells #[.nilIface] 35)):
  CallsD prog 108 #[.pointer (some ⟨B,0,none⟩),.pointer (some ⟨E,0,none⟩)] (.panicking [{ v:=.iface 162 (.agg #[.iface 46 (.int .i64 k)]),recovered:=false }]) w fun e u' w'=>
   e=.returned (.tuple #[])∧u'=.panicking [{ v:=.iface 162 (.agg #[.iface 46 (.int .i64 k)]),recovered:=true }]∧∃ F,w.heap.size≤F∧w'.heap[F]?=some (.cells #[.string call,.iface 46 (.int .i64 k)] 183)∧w'.heap[E]?=some (.cells #[.iface 180 (.pointer (some ⟨F,0,none⟩))] 35)∧Kp [E] w w':=by
 refine callsD_of_wpS func108 rfl fun c₀ cs hu=>?_;apply wpS_seq;apply wpS_region;simp[wpOpsS,go_sem,recoverD,hu,ntmps108,Exit.thenS,Array.replicate];refine wpS_of_wp ?_;go_wp2_with fail;refine wp_region_held_drew (S:=fun W=>W.heap[B]?=some (.cells #[.string call] 9)) (by kernel_rfl) hp (fun _=>?_);refine zV 1 (.iface 162 (.agg #[.iface 46 (.int .i64 k)])) rfl (fun W hS=>rfl) hp ?_;refine zV 0 (.string call) rfl (fun W hS=>by have c:=ξ hS 0;simp at c;clear hS;go_simp) hp ?_;refine zq 2 fun K hK=>?_;go_simp;refine (jU3 k _).mono ?_;rintro e w2 ⟨rfl,hK2⟩;have hp2:=hK2.heap (k:=B) hp (by simp);have hE2:=hK2.heap (k:=E) hE (by simp);have hK2':Kp [E] w w2:=((Kp.refl [E] w).drew).tr hK2;have hs2:=hK2'.size;clear hK2;refine hK.out _ _ hp2 (fun _=>?_);clear hK K
 try simp only[zZ]
 refine zU 3 (.agg #[.string call,.iface 46 (.int .i64 k)]) hp2 ?_;refine zq 4 fun K hK=>?_;go_simp;refine hK.out _ _ (θ _ hp2) (fun _=>?_);clear hK K
 try simp only[zZ]
 have hp3:=θ (.cells #[.string call,.iface 46 (.int .i64 k)] 183) hp2;have hE3:=θ (.cells #[.string call,.iface 46 (.int .i64 k)] 183) hE2;have hF3:=μ w2 (.cells #[.string call,.iface 46 (.int .i64 k)] 183);have hK3:=hK2'.alloc (.cells #[.string call,.iface 46 (.int .i64 k)] 183);refine zU 5 (.iface 180 (.pointer (some ⟨w2.heap.size,0,none⟩))) hp3 ?_;generalize w2.alloc (.cells #[.string call,.iface 46 (.int .i64 k)] 183)=W3 at *;have hF3s:=ζ hF3;have hE2s:=ζ hE2;have e0:=ξ hE3 0;simp at e0;have ef:=ρ hE3 0;refine zq 6 fun K hK=>?_;go_simp;refine hK.out _ _ ((qA7 hBE _ _).trans hp3) (fun _=>?_);clear hK K;refine zd ?_;exact⟨rfl,_,rfl,_,results_none results108 _ _ _,rfl,rfl,w2.heap.size,hs2,(qA7 (by omega) _ _).trans hF3,ω hE3 0 _,hK3.sc _⟩
theorem qY9(f:Nat)(cap:Array Value)(call:ByteArray)(w:World)(R:World→Prop)(hcf:∀ W:World,Sem.run prog (callFunc f cap) W=.ok (.enter f cap) W)
  (hw:Calls prog f cap ((w.alloc (.cells #[.string call] 9)).alloc (.cells #[.nilIface] 35)) fun e w'=>e=.returned (.tuple #[])∧R w'∧w'.heap[w.heap.size+1]?=some (.cells #[.nilIface] 35)):
  Calls prog 70 #[.string call,.func (.func f) #[] cap] w fun e w'=>e=.returned .nilIface∧∃ w1,R w1∧w'=w1.setCell ⟨w.heap.size+1,0,none⟩ .nilIface:=by
 have hmf:=zM;have HW:=zh hw;clear hw
 go_enter_defers func70,ntmps70
 go_wp2_with fail;refine (show Calls _ _ _ _ _ from HW.out).mono ?_;rintro e w1 ⟨rfl,hR,hE⟩;have e0:=ξ hE 0;simp at e0;have ef:=ρ hE 0;go_wp2;refine leaves_cons (f:=108) (args:=#[.pointer (some ⟨w.heap.size,0,none⟩),.pointer (some ⟨w.heap.size+1,0,none⟩)]) (by simp) (by simp[go_sem]) ?_;refine (zR0 ⟨w.heap.size,0,none⟩ ⟨w.heap.size+1,0,none⟩ _).mono ?_;rintro e u' w'' ⟨rfl,rfl,rfl⟩;simp[Leaves,settle,results,results70,go_sem,e0];exact⟨w1,hR,rfl⟩
theorem xV5(d:Nat)(W:World):Sem.run prog (Op.equalIn (d+1) 79 (.pointer none) (.pointer none)) W=.ok true W:=by
 simp[Op.equalIn,run_underlying underlying79]
theorem xU9(V:Nat)(w:World):
  Calls prog 85 #[.agg #[.pointer (some ⟨V,0,none⟩),.string ⟨#[]⟩,.int .i64 0,.int .u64 0,.pointer none]] w fun e w'=>e=.returned (.bool true)∧Kp [] w w':=by
 have heq:∀ W:World,Sem.run prog (Op.equalIn 9999 79 (.pointer none) (.pointer none)) W=.ok true W:=fun W=>xV5 9998 W;go_enter func85,ntmps85;go_wp2;go_ret;exact⟨rfl,(Kp.refl _ _).alloc _⟩
theorem zM8(V:Nat)(w:World):
  Calls prog 75 #[.agg #[.pointer (some ⟨V,0,none⟩),.string ⟨#[]⟩,.int .i64 0,.int .u64 0,.pointer none]] w fun e w'=>e=.returned (.int .i64 0)∧Kp [] w w':=by
 go_enter func75,ntmps75;go_wp2_with fail;refine (xU9 V _).mono ?_;rintro e w1 ⟨rfl,hK1⟩;have hc:w1.heap[w.heap.size+1]?=some (.cells #[.pointer (some ⟨V,0,none⟩),.int .i64 0,.string { data:=#[] }] 191):=hK1.heap (by
  have e:=μ (w.alloc (.cells #[.pointer (some ⟨V,0,none⟩),.string { data:=#[] },.int .i64 0,.int .u64 0,.pointer none] 83)) (.cells #[.pointer (some ⟨V,0,none⟩),.int .i64 0,.string { data:=#[] }] 191);simpa using e) (by simp)
 have hK1':Kp [] w w1:=(((Kp.refl [] w).alloc _).alloc _).tr hK1;clear hK1;have c1:=ξ hc 1;simp at c1;go_wp2;go_ret;exact⟨rfl,hK1'⟩
variable {κ:Nat}
structure Sto where
 V:Nat
 M:Nat
 N:Int
 rb:Int
 rs:Int
 bl:Int
 po:Bool
 bg:Int
 wr:Int
def τ(lk:Int)(s:Sto):Obj:=
 .cells #[.int .i32 lk,.int .u32 0,.pointer (some ⟨s.V,0,none⟩),.int .u64 s.N,.int .i64 s.rb,.int .u64 s.rs,.int .i64 s.bl,.bool s.po,.int .u64 s.bg,.int .u64 s.wr,.map (some s.M)] 126
theorem qZ6(V A n:Nat)(w:World)(hV:w.heap[V]?=some (qB8 A n)):
  Calls prog 97 #[.pointer (some ⟨V,0,none⟩)] w fun e w'=>e=.returned (.int .i64 n)∧w'=w:=by
 have c1:=ξ hV 1;simp at c1;clear hV;go_enter func97,ntmps97;go_wp2;go_ret;exact⟨rfl,rfl⟩
variable {κ:Nat}
theorem zF1(args:Array Value)(W:World):Sem.run prog (callFunc 71 args) W=.ok (.enter 71 args) W:=by
 simp[go_sem,func71]
end Go.Proofs.YtdohpenfkdckiabGreatDoor
namespace Go.Proofs.YtdohpenfkdckiabGreatDoor
open Go.Proofs.Tryz
open Go.RowKit Go.Extern.Stop Go.Stop Go.Extern
def qL8:Value:=.iface 196 (.agg #[.pointer (some ⟨5,35,none⟩)])
theorem xP5(t:Addr)(w:World):(ReflectliteValue.unpack (.iface 93 (.pointer (some t)))).run prog w
  = .ok (.agg #[.pointer (some ⟨5,93,none⟩),.pointer (some ⟨w.heap.size,0,none⟩),.int .u64 150]) (w.alloc (.cells #[.pointer (some t)] 93)):=by kernel_rfl
theorem xP3(a:Addr)(w:World):(ReflectliteValue.methodAny (ReflectliteValue.valueError "reflectlite.Value.Type" 0) (fun t _ _ _=>ReflectliteType.toType t) #[.agg #[.pointer (some ⟨5,93,none⟩),.pointer (some a),.int .u64 150]]).run prog w
  = .ok (.iface 196 (.agg #[.pointer (some ⟨5,93,none⟩)])) w:=by kernel_rfl
theorem xO8(h:Value)(w:World):(Go.method 445 196 (.agg #[h]) "Kind").run prog w=.ok (246,h) w:=by kernel_rfl
theorem xO4(w:World):((ReflectliteType.abiMethod fun t=>Functor.map (fun a:Nat=>Value.int .u8 (a:Int)) (Rtype.kind t)) #[.pointer (some ⟨5,93,none⟩)]).run prog w=.ok (.int .u8 22) w:=by kernel_rfl
theorem xO3(w:World):((ReflectliteType.abiMethod fun t=>Functor.map (fun a:Nat=>Value.int .u8 (a:Int)) (Rtype.kind t)) #[.pointer (some ⟨5,46,none⟩)]).run prog w=.ok (.int .u8 2) w:=by kernel_rfl
theorem zP5(a:Addr)(w:World):(ReflectliteValue.parts (.agg #[.pointer (some ⟨5,93,none⟩),.pointer (some a),.int .u64 150])).run prog w=.ok (some (93,a,150)) w:=by kernel_rfl
theorem xO2(a p:Addr)(W:World)(ha:W.cell? a=some (.pointer (some p))):
  (ReflectliteValue.method (ReflectliteValue.valueError "reflectlite.Value.IsNil" 0) ReflectliteValue.isNil #[.agg #[.pointer (some ⟨5,93,none⟩),.pointer (some a),.int .u64 150]]).run prog W=.ok (.bool false) W:=by
 show Sem.run prog (Bind.bind (ReflectliteValue.parts (.agg #[.pointer (some ⟨5,93,none⟩),.pointer (some a),.int .u64 150])) _) W=_;simp only[Sem.run_bind,zP5,Result.andThen];simp[ReflectliteValue.isNil,loadVar,isAgg,underlying,underlying93,ha,Result.andThen]
theorem xO6(h:Value)(w:World):(Go.method 445 196 (.agg #[h]) "Elem").run prog w=.ok (269,.agg #[h]) w:=by kernel_rfl
theorem xO7(h:Value)(w:World):(Go.method 445 196 (.agg #[h]) "Implements").run prog w=.ok (270,.agg #[h]) w:=by kernel_rfl
theorem xO5(h:Value)(w:World):(Go.method 445 196 (.agg #[h]) "AssignableTo").run prog w=.ok (267,.agg #[h]) w:=by kernel_rfl
theorem zP4(p:Addr)(w:World):(Go.method 445 180 (.pointer (some p)) "Unwrap").run prog w=.ok (265,.pointer (some p)) w:=by kernel_rfl
theorem xN8(w:World):(ReflectliteType.method ReflectliteType.elem #[.agg #[.pointer (some ⟨5,93,none⟩)]]).run prog w=.ok (.iface 196 (.agg #[.pointer (some ⟨5,46,none⟩)])) w:=by kernel_rfl
theorem xO1(w:World):(ReflectliteType.relation "Implements" ReflectliteType.implements_ #[.agg #[.pointer (some ⟨5,46,none⟩)],.iface 196 (.agg #[.pointer (some ⟨5,35,none⟩)])]).run prog w=.ok (.bool true) w:=by kernel_rfl
theorem xP4(v:Value)(w:World):(ReflectliteType.typeOf #[.iface 180 v]).run prog w=.ok (.iface 196 (.agg #[.pointer (some ⟨5,180,none⟩)])) w:=by kernel_rfl
theorem zP6(v:Value)(w:World):(ReflectliteType.typeOf #[.iface 46 v]).run prog w=.ok (.iface 196 (.agg #[.pointer (some ⟨5,46,none⟩)])) w:=by kernel_rfl
theorem xN6(w:World):(ReflectliteType.relation "AssignableTo" ReflectliteType.assignableTo #[.agg #[.pointer (some ⟨5,180,none⟩)],.iface 196 (.agg #[.pointer (some ⟨5,46,none⟩)])]).run prog w=.ok (.bool false) w:=by kernel_rfl
theorem xN5(w:World):(ReflectliteType.relation "AssignableTo" ReflectliteType.assignableTo #[.agg #[.pointer (some ⟨5,46,none⟩)],.iface 196 (.agg #[.pointer (some ⟨5,46,none⟩)])]).run prog w=.ok (.bool true) w:=by kernel_rfl
theorem xP6(k:Int)(w:World):(ReflectliteValue.unpack (.iface 46 (.int .i64 k))).run prog w
  = .ok (.agg #[.pointer (some ⟨5,46,none⟩),.pointer (some ⟨w.heap.size,0,none⟩),.int .u64 130]) (w.alloc (.cells #[.int .i64 k] 46)):=by kernel_rfl
theorem xN9(w:World):(Rtype.elem? 93).run prog w=.ok (some 46) w:=by kernel_rfl
theorem xO9(p:Addr)(w:World):(ReflectliteValue.mk 46 p ReflectliteValue.flagAddr).run prog w=.ok (.agg #[.pointer (some ⟨5,46,none⟩),.pointer (some p),.int .u64 386]) w:=by kernel_rfl
theorem xO0(a p:Addr)(W:World)(ha:W.cell? a=some (.pointer (some p))):
  (ReflectliteValue.method (ReflectliteValue.valueError "reflectlite.Value.Elem" 0) ReflectliteValue.elem #[.agg #[.pointer (some ⟨5,93,none⟩),.pointer (some a),.int .u64 150]]).run prog W
   = .ok (.agg #[.pointer (some ⟨5,46,none⟩),.pointer (some p),.int .u64 386]) W:=by
 show Sem.run prog (Bind.bind (ReflectliteValue.parts (.agg #[.pointer (some ⟨5,93,none⟩),.pointer (some a),.int .u64 150])) _) W=_;simp only[Sem.run_bind,zP5,Result.andThen];simp[ReflectliteValue.elem,loadVar,isAgg,underlying,underlying93,ha,Result.andThen,xN9,xO9]
theorem xP0(a:Addr)(w:World):(ReflectliteValue.parts (.agg #[.pointer (some ⟨5,46,none⟩),.pointer (some a),.int .u64 386])).run prog w=.ok (some (46,a,386)) w:=by kernel_rfl
theorem xP1(a:Addr)(w:World):(ReflectliteValue.parts (.agg #[.pointer (some ⟨5,46,none⟩),.pointer (some a),.int .u64 130])).run prog w=.ok (some (46,a,130)) w:=by kernel_rfl
theorem xN7(w:World):(Rtype.directlyAssignable 46 46).run prog w=.ok true w:=by kernel_rfl
theorem xP2(ta b:Addr)(k:Int)(old:Value)(W:World)(hb:W.cell? b=some (.int .i64 k))(ht:W.cell? ta=some old)(hf:W.frozen? ta=false):
  (ReflectliteValue.set #[.agg #[.pointer (some ⟨5,46,none⟩),.pointer (some ta),.int .u64 386],.agg #[.pointer (some ⟨5,46,none⟩),.pointer (some b),.int .u64 130]]).run prog W
   = .ok (.tuple #[]) (W.setCell ta (.int .i64 k)):=by
 show Sem.run prog (Bind.bind (ReflectliteValue.parts (.agg #[.pointer (some ⟨5,46,none⟩),.pointer (some ta),.int .u64 386])) fun q=>Bind.bind (ReflectliteValue.parts (.agg #[.pointer (some ⟨5,46,none⟩),.pointer (some b),.int .u64 130])) _) W=_;simp only[Sem.run_bind,xP0,xP1,Result.andThen];simp[ReflectliteValue.flagAddr,loadVar,isAgg,underlying,underlying46,hb,Result.andThen,xN7,storeVar,Value.cells,storeCells,Addr.add];rw[run_store prog W ta _ _ (by rfl)];simp[ht,hf]
theorem jS2(F:Nat)(call:ByteArray)(x:Value)(w:World)(hF:w.heap[F]?=some (.cells #[.string call,x] 183)):
  Calls prog 265 #[.pointer (some ⟨F,0,none⟩)] w fun e w'=>e=.returned x∧w'=w:=by
 have c1:=ξ hF 1;simp at c1;clear hF;go_enter func265,ntmps265;go_wp2;go_ret;exact⟨rfl,rfl⟩
theorem xN4(F E a:Nat)(call:ByteArray)(k:Int)(w:World)(hF:w.heap[F]?=some (.cells #[.string call,.iface 46 (.int .i64 k)] 183))(hE:w.heap[E]?=some (.cells #[.int .i64 0] 46))(ha:w.heap[a]?=some (.cells #[.pointer (some ⟨E,0,none⟩)] 93)):
  Calls prog 80 #[.iface 180 (.pointer (some ⟨F,0,none⟩)),.iface 93 (.pointer (some ⟨E,0,none⟩)),.agg #[.pointer (some ⟨5,93,none⟩),.pointer (some ⟨a,0,none⟩),.int .u64 150],.iface 196 (.agg #[.pointer (some ⟨5,46,none⟩)])] w fun e w'=>e=.returned (.bool true)∧w'.heap[E]?=some (.cells #[.int .i64 k] 46)∧Kp [E] w w':=by
 have h90:=@run_callFunc_extern prog 77 _ (fun args=>ReflectliteValue.unpack (args.getD 0 (.tuple #[]))) func77 (by kernel_rfl) (by kernel_rfl) (by kernel_rfl) (by kernel_rfl);have h142:=@run_callFunc_extern prog 116 _ ReflectliteType.typeOf func116 (by kernel_rfl) (by kernel_rfl) (by kernel_rfl) (by kernel_rfl);have h285:=@run_callFunc_extern prog 267 _ (ReflectliteType.relation "AssignableTo" ReflectliteType.assignableTo) func267 (by kernel_rfl) (by kernel_rfl) (by kernel_rfl) (by kernel_rfl);have h143:=@run_callFunc_extern prog 117 _ (ReflectliteValue.method (ReflectliteValue.valueError "reflectlite.Value.Elem" 0) ReflectliteValue.elem) func117 (by kernel_rfl) (by kernel_rfl) (by kernel_rfl) (by kernel_rfl);have h144:=@run_callFunc_extern prog 118 _ ReflectliteValue.set func118 (by kernel_rfl) (by kernel_rfl) (by kernel_rfl) (by kernel_rfl);have tF:=xP4;have tE:=zP6;have mA:=xO5;have mU:=zP4;have aF:=xN6;have aE:=xN5;have vE:=xP6;have ta1:∀ W:World,Sem.run prog (Instr.typeAssert (.iface 180 (.pointer (some ⟨F,0,none⟩))) 35 201 true) W=.ok (.tuple #[.nilIface,.bool false]) W:=fun W=>run_typeAssert_lacksB underlying201 (by kernel_rfl) (by kernel_rfl) _ _ W;have ta2:∀ W:World,Sem.run prog (Instr.typeAssert (.iface 180 (.pointer (some ⟨F,0,none⟩))) 35 204 true) W=.ok (.tuple #[.iface 180 (.pointer (some ⟨F,0,none⟩)),.bool true]) W:=fun W=>run_typeAssert_hasB underlying204 (by kernel_rfl) _ _ W;have hEs:=ζ hE;have hFs:=ζ hF;have has:=ζ ha;go_enter func80,ntmps80;go_wp2;refine wp_loop_rounds 3 ?_;rw[rounds_succ];go_wp2_with fail;obtain⟨W1,hW1,hK1,hs1⟩:∃ W1,W1=w.alloc (.cells #[.pointer (some ⟨5,93,none⟩),.pointer (some ⟨a,0,none⟩),.int .u64 150] 137)∧Kp [E] w W1∧W1.heap.size=w.heap.size+1:=⟨_,rfl,(Kp.refl _ _).alloc _,by simp⟩;have hF1:W1.heap[F]?=some (.cells #[.string call,.iface 46 (.int .i64 k)] 183):=by rw[hW1];exact θ _ hF
 have hE1:W1.heap[E]?=some (.cells #[.int .i64 0] 46):=by rw[hW1];exact θ _ hE
 have ha1:W1.heap[a]?=some (.cells #[.pointer (some ⟨E,0,none⟩)] 93):=by rw[hW1];exact θ _ ha
 have hv1:W1.heap[w.heap.size]?=some (.cells #[.pointer (some ⟨5,93,none⟩),.pointer (some ⟨a,0,none⟩),.int .u64 150] 137):=by rw[hW1];exact μ _ _
 rw[←hW1];clear hW1;have v0:=ξ hv1 0;have v1:=ξ hv1 1;have v2:=ξ hv1 2;have a0:=ξ ha1 0;simp at v0 v1 v2 a0;have eV:=xO0 ⟨a,0,none⟩ ⟨E,0,none⟩ W1 a0;have hb2:=ξ (μ W1 (.cells #[.int .i64 k] 46)) 0;have he2:=ξ (θ (.cells #[.int .i64 k] 46) hE1) 0;have hfz2:=ρ (θ (.cells #[.int .i64 k] 46) hE1) 0;simp at hb2 he2;have sE:=xP2 ⟨E,0,none⟩ ⟨W1.heap.size,0,none⟩ k (.int .i64 0) (W1.alloc (.cells #[.int .i64 k] 46)) (by simp) (by simpa using he2) hfz2;rw[hs1] at sE;clear hb2 he2 hfz2;refine (jS2 F call _ _ hF1).mono ?_;rintro e w2 ⟨rfl,rfl⟩;go_wp2_with fail;rw[rounds_succ];go_wp2;go_ret;refine⟨rfl,?_,?_⟩
 ·first
   | exact ω (θ _ hE1) 0 _
   | exact θ _ (ω hE1 0 _)
 ·first
   | exact (hK1.alloc _).sc _
   | exact (hK1.sc _).alloc _
theorem xN3(F E:Nat)(call:ByteArray)(k:Int)(w:World)(hg:w.cell? ⟨0,0,none⟩=some qL8)(hF:w.heap[F]?=some (.cells #[.string call,.iface 46 (.int .i64 k)] 183))(hE:w.heap[E]?=some (.cells #[.int .i64 0] 46)):
  Calls prog 43 #[.iface 180 (.pointer (some ⟨F,0,none⟩)),.iface 93 (.pointer (some ⟨E,0,none⟩))] w fun e w'=>e=.returned (.bool true)∧w'.heap[E]?=some (.cells #[.int .i64 k] 46)∧Kp [E] w w':=by
 have h90:=@run_callFunc_extern prog 77 _ (fun args=>ReflectliteValue.unpack (args.getD 0 (.tuple #[]))) func77 (by kernel_rfl) (by kernel_rfl) (by kernel_rfl) (by kernel_rfl);have h91:=@run_callFunc_extern prog 78 _ (ReflectliteValue.methodAny (ReflectliteValue.valueError "reflectlite.Value.Type" 0) (fun t _ _ _=>ReflectliteType.toType t)) func78 (by kernel_rfl) (by kernel_rfl) (by kernel_rfl) (by kernel_rfl);have h92:=@run_callFunc_extern prog 79 _ (ReflectliteValue.method (ReflectliteValue.valueError "reflectlite.Value.IsNil" 0) ReflectliteValue.isNil) func79 (by kernel_rfl) (by kernel_rfl) (by kernel_rfl) (by kernel_rfl);have h266:=@run_callFunc_extern prog 246 _ (ReflectliteType.abiMethod fun t=>do pure (.int .u8 (←Rtype.kind t))) func246 (by kernel_rfl) (by kernel_rfl) (by kernel_rfl) (by kernel_rfl);have h287:=@run_callFunc_extern prog 269 _ (ReflectliteType.method ReflectliteType.elem) func269 (by kernel_rfl) (by kernel_rfl) (by kernel_rfl) (by kernel_rfl);have h288:=@run_callFunc_extern prog 270 _ (ReflectliteType.relation "Implements" ReflectliteType.implements_) func270 (by kernel_rfl) (by kernel_rfl) (by kernel_rfl) (by kernel_rfl);have vO:=xP5;have tY:=xP3;have mK:=xO8;have mE:=xO6;have mI:=xO7;have kP:=xO4;have kE:=xO3;have eL:=xN8;have iM:=xO1;have hEs:=ζ hE;have hFs:=ζ hF;have hgl:0<w.heap.size:=by omega
 have nN:=xO2 ⟨w.heap.size,0,none⟩ ⟨E,0,none⟩ ((w.alloc (.cells #[.pointer (some ⟨E,0,none⟩)] 93)).alloc (.cells #[.pointer (some ⟨5,93,none⟩),.pointer (some ⟨w.heap.size,0,none⟩),.int .u64 150] 137)) (by simp);have hg2:((w.alloc (.cells #[.pointer (some ⟨E,0,none⟩)] 93)).alloc (.cells #[.pointer (some ⟨5,93,none⟩),.pointer (some ⟨w.heap.size,0,none⟩),.int .u64 150] 137)).cell? ⟨0,0,none⟩=some (.iface 196 (.agg #[.pointer (some ⟨5,35,none⟩)])):=by
  rw[World.cell?_alloc_lt _ _ ⟨0,0,none⟩ (by simp),World.cell?_alloc_lt _ _ ⟨0,0,none⟩ hgl];exact hg
 clear hg;go_enter func43,ntmps43;go_wp2_with fail;refine (xN4 F E w.heap.size call k _ (θ _ (θ _ hF)) (θ _ (θ _ hE)) (θ _ (μ _ _))).mono ?_;rintro e w1 ⟨rfl,hE1,hK1⟩;have hK1':Kp [E] w w1:=(((Kp.refl [E] w).alloc _).alloc _).tr hK1;clear h90 h91 h92 h266 h287 h288 vO tY mK mE mI kP kE eL iM nN hg2 hK1;go_wp2;go_ret;exact⟨rfl,hE1,hK1'⟩
end Go.Proofs.YtdohpenfkdckiabGreatDoor
namespace Go.Proofs.YtdohpenfkdckiabGreatDoor
open Go.Proofs.Tryz
open Go.RowKit
theorem zO0(F:Nat)(call:ByteArray)(k:Int)(w:World)(hg:w.cell? ⟨0,0,none⟩=some qL8)(hF:w.heap[F]?=some (.cells #[.string call,.iface 46 (.int .i64 k)] 183)):
  Calls prog 21 #[.iface 180 (.pointer (some ⟨F,0,none⟩))] w fun e w'=>e=.returned (.int .i64 k)∧Kp [] w w':=by
 have hFs:=ζ hF;have hgl:0<w.heap.size:=by omega
 go_enter func21,ntmps21;go_wp2_with fail;refine (xN3 F w.heap.size call k _ (by rw[World.cell?_alloc_lt _ _ ⟨0,0,none⟩ hgl];exact hg) (θ _ hF) (μ _ _)).mono ?_;rintro e w1 ⟨rfl,hE1,hK1⟩;have hK1':Kp [] w w1:=((Kp.refl [] w).alloc _).trans hK1 (by intro i hi hlt;simp at hi;omega);have c0:=ξ hE1 0;simp at c0;clear hK1 hg;go_wp2;go_ret;exact⟨rfl,hK1'⟩
end Go.Proofs.YtdohpenfkdckiabGreatDoor
namespace Go.Proofs.YtdohpenfkdckiabGreatDoor
open Go.Proofs.Tryz
abbrev jJ8:Go.Conc.Locks.MuLink:={ lock:=81,unlock:=82,ilock:=119,iunlock:=120,lockSlow:=161,unlockSlow:=164,disable:=157,enable:=159,acquire:=160,relMerge:=162,cas32:=158,add32:=163,tMutex:=123,tIMutex:=121,tPMutex:=208,tPIMutex:=245,tPI32:=247,tUP:=134,tNoCopy:=118,tU32:=119 }
theorem qY0:Go.Conc.Locks.MuLib prog jJ8:=
 ⟨func81,func82,func119,func120,func157,func159,func160,func162,func158,func163,underlying121,runUnderlying121,sizeOf121,isAgg121,zeroValue121,underlying123,runUnderlying123,sizeOf123,isAgg123,zeroValue123,underlying208,runUnderlying208,sizeOf208,isAgg208,zeroValue208,underlying245,runUnderlying245,sizeOf245,isAgg245,zeroValue245,underlying247,runUnderlying247,sizeOf247,isAgg247,zeroValue247,underlying134,runUnderlying134,sizeOf134,isAgg134,zeroValue134,underlying118,runUnderlying118,sizeOf118,isAgg118,zeroValue118,underlying21,runUnderlying21,sizeOf21,isAgg21,zeroValue21,(by kernel_rfl)⟩
end Go.Proofs.YtdohpenfkdckiabGreatDoor
namespace Go.Proofs.YtdohpenfkdckiabGreatDoor
open Go.Proofs.Tryz
open Go.RowKit Go.Extern.Stop Go.Stop Go.Extern
theorem jB8(w:World):((Extern.ReflectliteType.method fun t=>do Rtype.noPackHeld "Comparable" t;(fun a=>Value.bool a.comparable) <$> typeInfo t) #[.agg #[.pointer (some ⟨5,46,none⟩)]]).run prog w=.ok (.bool true) w:=by kernel_rfl
theorem jC2(h:Value)(w:World):(Go.method 445 196 (.agg #[h]) "Comparable").run prog w=.ok (268,.agg #[h]) w:=by kernel_rfl
theorem jB9(k:Int)(w:World):Sem.run prog (binOp .eql 35 (.iface 46 (.int .i64 k)) (.iface 46 (.int .i64 8))) w=.ok (.bool (k == 8)) w:=by
 kernel_rfl
theorem jC4(v:Value)(xT:TypeId)(w:World):(Instr.typeAssert (.iface 180 v) xT 251 true).run prog w=.ok (.tuple #[.nilIface,.bool false]) w:=run_typeAssert_lacksB underlying251 (by kernel_rfl) (by kernel_rfl) v xT w
theorem jC3(v:Value)(xT:TypeId)(w:World):(Instr.typeAssert (.iface 46 v) xT 251 true).run prog w=.ok (.tuple #[.nilIface,.bool false]) w:=run_typeAssert_lacksB underlying251 (by kernel_rfl) (by kernel_rfl) v xT w
theorem jC5(v:Value)(xT:TypeId)(w:World):(Instr.typeAssert (.iface 46 v) xT 204 true).run prog w=.ok (.tuple #[.nilIface,.bool false]) w:=run_typeAssert_lacksB underlying204 (by kernel_rfl) (by kernel_rfl) v xT w
theorem jC6(v:Value)(xT:TypeId)(w:World):(Instr.typeAssert (.iface 46 v) xT 205 true).run prog w=.ok (.tuple #[.nilIface,.bool false]) w:=run_typeAssert_lacksB underlying205 (by kernel_rfl) (by kernel_rfl) v xT w
theorem jC1(v:Value)(xT:TypeId)(w:World):(Instr.typeAssert (.iface 180 v) xT 204 true).run prog w=.ok (.tuple #[.iface 180 v,.bool true]) w:=run_typeAssert_hasB underlying204 (by kernel_rfl) v xT w
theorem jC0(F:Nat)(call:ByteArray)(k:Int)(w:World)(hk:k≠8)(hF:w.heap[F]?=some (.cells #[.string call,.iface 46 (.int .i64 k)] 183)):
  Calls prog 84 #[.iface 180 (.pointer (some ⟨F,0,none⟩)),.iface 46 (.int .i64 8)] w fun e w'=>e=.returned (.bool false)∧w'=w:=by
 have h151:=@run_callFunc_extern prog 116 _ ReflectliteType.typeOf func116 (by kernel_rfl) (by kernel_rfl) (by kernel_rfl) (by kernel_rfl);have hcmp:=@run_callFunc_extern prog 268 _ (Extern.ReflectliteType.method fun t=>do Rtype.noPackHeld "Comparable" t;pure (.bool (←typeInfo t).comparable)) func268 (by kernel_rfl) (by kernel_rfl) (by kernel_rfl) (by kernel_rfl);have tT:=zP6;have cT:=jB8;have mR:=jC2;have nF:=jC4;have nE:=jC3;have uE:=jC5;have vE:=jC6;have uF:=jC1;have mU:=zP4;have hq:=run_eql_iface_types (P:=prog) 180 46 (.pointer (some ⟨F,0,none⟩)) (.int .i64 8) underlying35 (by decide) w;have hb:(k == 8)=false:=by simp[hk]
 have he:=jB9 k w;rw[hb] at he;clear hk hb;have hFs:=ζ hF;have c1:=ξ hF 1;simp only[zG,zH,zI] at c1;go_enter func84,ntmps84;go_wp2;refine wp_loop_rounds 2 ?_;rw[rounds_succ];go_wp2;rw[rounds_succ];go_wp2;go_ret;exact⟨rfl,rfl⟩
end Go.Proofs.YtdohpenfkdckiabGreatDoor
