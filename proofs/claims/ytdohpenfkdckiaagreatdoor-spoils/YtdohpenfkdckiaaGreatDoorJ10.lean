import Derived.Test.YtdohpenfkdckiaaGreatDoorJ09
import Derived.Conc.MuLib
import Derived.Conc.MuLone
import Derived.KernelRfl
set_option linter.all false
set_option maxRecDepth 100000
set_option maxHeartbeats 20000000
namespace Go.Proofs.YtdohpenfkdckiaaGreatDoor
open Go.Proofs.Tryz
open Go.RowKit Go.Extern.Stop Go.Stop Go.Extern
theorem kO6(F:Nat)(call)(x)(w)(a:w.heap[F]?=some (.cells #[.string call,x] 246)):
  Calls prog 353 #[.pointer (some ⟨F,0,none⟩)] w λe c=>e=.returned x/\c=w:=by
 have b:=ξ a 1;simp at b;clear a;go_enter func353,ntmps353;go_wp2;go_ret;exact⟨rfl,rfl⟩
theorem xW0(F E a:Nat)(call)(k:Int)(w)(j:w.heap[F]?=some (.cells #[.string call,.iface 45 (.int .i64 k)] 246))(i:w.heap[E]?=some (.cells #[.int .i64 0] 45))(m:w.heap[a]?=some (.cells #[.pointer (some ⟨E,0,none⟩)] 95)):
  Calls prog 98 #[.iface 243 (.pointer (some ⟨F,0,none⟩)),.iface 95 (.pointer (some ⟨E,0,none⟩)),.agg #[.pointer (some ⟨5,95,none⟩),.pointer (some ⟨a,0,none⟩),.int .u64 150],.iface 220 (.agg #[.pointer (some ⟨5,45,none⟩)])] w λe p=>e=.returned (.bool true)/\p.heap[E]?=some (.cells #[.int .i64 k] 45)/\Kp [E] w p:=by
 have H:=@run_callFunc_extern prog 95 _ (λargs=>ReflectliteValue.unpack (args.getD 0 (.tuple #[]))) func95 kR kR kR kR;have B:=@run_callFunc_extern prog 151 _ ReflectliteType.typeOf func151 kR kR kR kR;have G:=@run_callFunc_extern prog 342 _ (ReflectliteType.relation "AssignableTo" ReflectliteType.assignableTo) func342 kR kR kR kR;have C:=@run_callFunc_extern prog 152 _ (ReflectliteValue.method (ReflectliteValue.valueError "reflectlite.Value.Elem" 0) ReflectliteValue.elem) func152 kR kR kR kR;have D:=@run_callFunc_extern prog 153 _ ReflectliteValue.set func153 kR kR kR kR;have N:=xY0;have M:=zW8;have mA:=xX1;have L:=zW6;have z:=xW2;have y:=xW1;have Q:=xY2;have O:∀ W:World,Sem.run prog (Instr.typeAssert (.iface 243 (ϖ F)) 38 225 true) W=.ok (.tuple #[.nilIface,.bool false]) W:=λW=>run_typeAssert_lacksB underlying225 kR kR _ _ W;have P:∀ W:World,Sem.run prog (Instr.typeAssert (.iface 243 (ϖ F)) 38 228 true) W=.ok (.tuple #[.iface 243 (ϖ F),.bool true]) W:=λW=>run_typeAssert_hasB underlying228 kR _ _ W;have I:=ζ i;have J:=ζ j;have K:=ζ m;go_enter func98,ntmps98;go_wp2;refine wp_loop_rounds 3 ?_;rw[rounds_succ];go_wp2_with fail;obtain⟨b,c,l,s⟩:∃ b,b=w.alloc (.cells #[.pointer (some ⟨5,95,none⟩),ϖ a,.int .u64 150] 143)/\Kp [E] w b/\b.heap.size=w.heap.size+1:=⟨_,rfl,kF.alloc _,sM⟩;have q:Ϙ b F (.cells #[.string call,.iface 45 (ϊ k)] 246):=by rw[c];exact ρ _ j
 have d:Ϙ b E (.cells #[ϊ 0] 45):=by rw[c];exact ρ _ i
 have r:Ϙ b a (.cells #[ϖ E] 95):=by rw[c];exact ρ _ m
 have g:Ϙ b w.heap.size (.cells #[.pointer (some ⟨5,95,none⟩),ϖ a,.int .u64 150] 143):=by rw[c];exact υ _ _
 rw[<-c];clear c;have u:=ξ g 0;have v:=ξ g 1;have x:=ξ g 2;have h:=ξ r 0;simp at u v x h;have A:=xW6 ⟨a,0,none⟩ ⟨E,0,none⟩ b h;have n:=ξ (υ b (.cells #[ϊ k] 45)) 0;have f:=ξ (ρ (.cells #[ϊ k] 45) d) 0;have o:=ψ (ρ (.cells #[ϊ k] 45) d) 0;simp at n f;have t:=xX8 ⟨E,0,none⟩ ⟨b.heap.size,0,none⟩ k (ϊ 0) (b.alloc (.cells #[ϊ k] 45)) sM (by simpa using f) o;rw[s] at t;clear n f o;refine (kO6 F call _ _ q).mono ?_;rintro e R ⟨rfl,rfl⟩;go_wp2_with fail;rw[rounds_succ];go_wp2;go_ret;refine⟨rfl,?_,?_⟩
 .first
   | exact μ (ρ _ d) 0 _
   | exact ρ _ (μ d 0 _)
 .first
   | exact (l.alloc _).sc _
   | exact (l.sc _).alloc _
theorem xV9(F E:Nat)(call)(k:Int)(w)(d:w.cell? ⟨0,0,none⟩=some qF5)(b:w.heap[F]?=some (.cells #[.string call,.iface 45 (.int .i64 k)] 246))(a:w.heap[E]?=some (.cells #[.int .i64 0] 45)):
  Calls prog 53 #[.iface 243 (.pointer (some ⟨F,0,none⟩)),.iface 95 (.pointer (some ⟨E,0,none⟩))] w λe f=>e=.returned (.bool true)/\f.heap[E]?=some (.cells #[.int .i64 k] 45)/\Kp [E] w f:=by
 have l:=@run_callFunc_extern prog 95 _ (λargs=>ReflectliteValue.unpack (args.getD 0 (.tuple #[]))) func95 kR kR kR kR;have m:=@run_callFunc_extern prog 96 _ (ReflectliteValue.methodAny (ReflectliteValue.valueError "reflectlite.Value.Type" 0) (λt _ _ _=>ReflectliteType.toType t)) func96 kR kR kR kR;have n:=@run_callFunc_extern prog 97 _ (ReflectliteValue.method (ReflectliteValue.valueError "reflectlite.Value.IsNil" 0) ReflectliteValue.isNil) func97 kR kR kR kR;have h:=@run_callFunc_extern prog 322 _ (ReflectliteType.abiMethod λt=>do pure (.int .u8 (<-Rtype.kind t))) func322 kR kR kR kR;have i:=@run_callFunc_extern prog 344 _ (ReflectliteType.method ReflectliteType.elem) func344 kR kR kR kR;have j:=@run_callFunc_extern prog 345 _ (ReflectliteType.relation "Implements" ReflectliteType.implements_) func345 kR kR kR kR;have C:=xY1;have B:=xX9;have z:=xX4;have x:=xX2;have y:=xX3;have v:=xX0;have u:=xW9;have g:=xW4;have s:=xW7;have D:=ζ a;have G:=ζ b;have r:0<w.heap.size:=oM
 have A:=xW8 ⟨w.heap.size,0,none⟩ ⟨E,0,none⟩ ((w.alloc (.cells #[ϖ E] 95)).alloc (.cells #[.pointer (some ⟨5,95,none⟩),ϖ w.heap.size,.int .u64 150] 143)) sM;have q:((w.alloc (.cells #[ϖ E] 95)).alloc (.cells #[.pointer (some ⟨5,95,none⟩),ϖ w.heap.size,.int .u64 150] 143)).cell? ⟨0,0,none⟩=some (.iface 220 (.agg #[.pointer (some ⟨5,38,none⟩)])):=by
  rw[World.cell?_alloc_lt _ _ ⟨0,0,none⟩ sM,World.cell?_alloc_lt _ _ ⟨0,0,none⟩ r];exact d
 clear d;go_enter func53,ntmps53;go_wp2_with fail;refine (xW0 F E w.heap.size call k _ (ρ _ (ρ _ b)) (ρ _ (ρ _ a)) (ρ _ (υ _ _))).mono ?_;rintro e H ⟨rfl,o,c⟩;have p:=(((Kp.refl [E] w).alloc _).alloc _).tr c;clear l m n h i j C B z x y v u g s A q c;go_wp2;go_ret;exact⟨rfl,o,p⟩
end Go.Proofs.YtdohpenfkdckiaaGreatDoor
namespace Go.Proofs.YtdohpenfkdckiaaGreatDoor
open Go.Proofs.Tryz
open Go.RowKit
theorem zU2(w):Calls prog 24 #[.nilIface] w λe a=>e=.returned (.int .i64 0)/\a=w:=by
 go_enter func24,ntmps24;go_wp2;go_ret;exact⟨rfl,rfl⟩
theorem kN3(F:Nat)(call)(k:Int)(w)(c:w.cell? ⟨0,0,none⟩=some qF5)(a:w.heap[F]?=some (.cells #[.string call,.iface 45 (.int .i64 k)] 246)):
  Calls prog 24 #[.iface 243 (.pointer (some ⟨F,0,none⟩))] w λe j=>e=.returned (.int .i64 k)/\Kp [] w j:=by
 have l:=ζ a;have g:0<w.heap.size:=oM
 go_enter func24,ntmps24;go_wp2_with fail;refine (xV9 F w.heap.size call k _ (by rw[World.cell?_alloc_lt _ _ ⟨0,0,none⟩ g];exact c) (ρ _ a) (υ _ _)).mono ?_;rintro e n ⟨rfl,d,b⟩;have f:=((Kp.refl [] w).alloc _).trans b (by intro i h m;simp at h;omega);have c0:=ξ d 0;simp at c0;clear b c;go_wp2;go_ret;exact⟨rfl,f⟩
abbrev jV0:Go.Conc.Locks.MuLink:={ lock:=105,unlock:=106,ilock:=165,iunlock:=166,lockSlow:=231,unlockSlow:=234,disable:=227,enable:=229,acquire:=230,relMerge:=232,cas32:=228,add32:=233,tMutex:=164,tIMutex:=162,tPMutex:=242,tPIMutex:=306,tPI32:=308,tUP:=140,tNoCopy:=159,tU32:=160 }
theorem xK8:Go.Conc.Locks.MuLib prog jV0:=
 ⟨func105,func106,func165,func166,func227,func229,func230,func232,func228,func233,underlying162,runUnderlying162,sizeOf162,isAgg162,zeroValue162,underlying164,runUnderlying164,sizeOf164,isAgg164,zeroValue164,underlying242,runUnderlying242,sizeOf242,isAgg242,zeroValue242,underlying306,runUnderlying306,sizeOf306,isAgg306,zeroValue306,underlying308,runUnderlying308,sizeOf308,isAgg308,zeroValue308,underlying140,runUnderlying140,sizeOf140,isAgg140,zeroValue140,underlying159,runUnderlying159,sizeOf159,isAgg159,zeroValue159,underlying21,runUnderlying21,sizeOf21,isAgg21,zeroValue21,kR⟩
end Go.Proofs.YtdohpenfkdckiaaGreatDoor
namespace Go.Proofs.YtdohpenfkdckiaaGreatDoor
open Go.Proofs.Tryz
open Go.RowKit Go.Extern.Stop Go.Stop Go.Extern
theorem jO5(w):((Extern.ReflectliteType.method λt=>do Rtype.noPackHeld "Comparable" t;(λa=>Value.bool a.comparable) <$> typeInfo t) #[.agg #[.pointer (some ⟨5,45,none⟩)]]).run prog w=.ok (.bool true) w:=kR
theorem jP0(h)(w):(Go.method 513 220 (.agg #[h]) "Comparable").run prog w=.ok (343,.agg #[h]) w:=kR
theorem jO6(k:Int)(w):Sem.run prog (binOp .eql 38 (.iface 45 (.int .i64 k)) (.iface 45 (.int .i64 8))) w=.ok (.bool (k == 8)) w:=by
 kernel_rfl
theorem jP3(v)(xT)(w):(Instr.typeAssert (.iface 243 v) xT 313 true).run prog w=.ok (.tuple #[.nilIface,.bool false]) w:=run_typeAssert_lacksB underlying313 kR kR v xT w
theorem jP2(v)(xT)(w):(Instr.typeAssert (.iface 45 v) xT 313 true).run prog w=.ok (.tuple #[.nilIface,.bool false]) w:=run_typeAssert_lacksB underlying313 kR kR v xT w
theorem jP4(v)(xT)(w):(Instr.typeAssert (.iface 45 v) xT 228 true).run prog w=.ok (.tuple #[.nilIface,.bool false]) w:=run_typeAssert_lacksB underlying228 kR kR v xT w
theorem jP5(v)(xT)(w):(Instr.typeAssert (.iface 45 v) xT 229 true).run prog w=.ok (.tuple #[.nilIface,.bool false]) w:=run_typeAssert_lacksB underlying229 kR kR v xT w
theorem jO9(v)(xT)(w):(Instr.typeAssert (.iface 243 v) xT 228 true).run prog w=.ok (.tuple #[.iface 243 v,.bool true]) w:=run_typeAssert_hasB underlying228 kR v xT w
theorem jO8(F:Nat)(call)(k:Int)(w)(c:k≠8)(a:w.heap[F]?=some (.cells #[.string call,.iface 45 (.int .i64 k)] 246)):
  Calls prog 109 #[.iface 243 (.pointer (some ⟨F,0,none⟩)),.iface 45 (.int .i64 8)] w λe f=>e=.returned (.bool false)/\f=w:=by
 have i:=@run_callFunc_extern prog 151 _ ReflectliteType.typeOf func151 kR kR kR kR;have l:=@run_callFunc_extern prog 343 _ (Extern.ReflectliteType.method λt=>do Rtype.noPackHeld "Comparable" t;pure (.bool (<-typeInfo t).comparable)) func343 kR kR kR kR;have r:=zW8;have h:=jO5;have n:=jP0;have q:=jP3;have p:=jP2;have s:=jP4;have v:=jP5;have u:=jO9;have o:=zW6;have m:=run_eql_iface_types (P:=prog) 243 45 (ϖ F) (ϊ 8) underlying38 dC w;have b:(k == 8)=false:=by simp[c]
 have d:=jO6 k w;rw[b] at d;clear c b;have j:=ζ a;have g:=ϻ a 1;go_enter func109,ntmps109;go_wp2;refine wp_loop_rounds 2 ?_;rw[rounds_succ];go_wp2;rw[rounds_succ];go_wp2;go_ret;exact⟨rfl,rfl⟩
end Go.Proofs.YtdohpenfkdckiaaGreatDoor
namespace Go.Proofs.YtdohpenfkdckiaaGreatDoor
open Go.Proofs.Tryz
open Go.RowKit Go.MuLone
theorem jP1(k:Int)(w):Calls prog 109 #[.nilIface,.iface 45 (.int .i64 k)] w λe a=>e=.returned (.bool false)/\a=w:=by
 have b:∀ W:World,Sem.run prog (binOp .eql 38 .nilIface (.iface 45 (ϊ k))) W=.ok (.bool false) W:=λW=>by kernel_rfl
 go_enter func109,ntmps109;go_wp2;go_ret;exact⟨rfl,rfl⟩
theorem jB8(args)(W):Sem.run prog (callFunc 108 args) W=.ok (.enter 108 args) W:=by
 simp[go_sem,func108]
theorem xV5(S F St f:Nat)(s)(first cap)(w)(R:Option Int->World->Prop)(d:w.heap[S]?=some (.cells #[.pointer (some ⟨St,0,none⟩)] 97))(b:w.heap[F]?=some (.cells #[.func (.func f) first cap] 1))(g:w.heap[St]?=some (ν 1 s))(l:s.po=false)
  (o:∀ W:World,Sem.run prog (callFunc f (first++cap)) W=.ok (.enter f (first++cap)) W)
  (h:Calls prog f (first++cap) w λe a=>∃ k,e=qB7 k/\R k a):
  Calls prog 108 #[.pointer (some ⟨S,0,none⟩),.pointer (some ⟨F,0,none⟩)] w λe a=>∃ k,e=qB7 k/\R k a:=by
 have n:=ξ d 0;have j:=ξ b 0;have m:=ξ g 7;simp[l] at n j m;clear d b g;have i:=zh h;clear h;go_enter func108,ntmps108;go_wp2_with fail;refine (show Calls _ _ _ _ _ from i).mono ?_;rintro e p ⟨k,rfl,c⟩
 cases k with
 | none=>
  simp only[qB7];go_wp2
  go_end0
  exact⟨none,rfl,c⟩
 | some k=>
  simp only[qB7];go_wp2;exact⟨rfl,some k,rfl,c⟩
theorem jO7{w}{v}{k:Option Int}(a:ErrV w v k)(b:k≠some 8):Calls prog 109 #[v,.iface 45 (.int .i64 8)] w λe d=>e=.returned (.bool false)/\d=w:=by
 cases k with
 | none=>rw[show v=.nilIface from a];exact jP1 8 w
 | some k=>
  obtain⟨F,f,rfl,c⟩:=a;exact jO8 F _ k w (λe=>b (by rw[e])) c
theorem ErrV.set{w}{v x}{k:Option Int}{St i:Nat}{c}{fr}(b:ErrV w v k)(f:w.heap[St]?=some (.cells c 169 fr)):ErrV (w.setCell ⟨St,i,none⟩ x) v k:=by
 cases k with
 | none=>exact b
 | some k=>
  obtain⟨F,d,e,a⟩:=b;refine⟨F,d,e,(qB2 (λe=>?_) _ _).trans a⟩;rw[e,f] at a;cases a
theorem zW4(St f:Nat)(s)(first cap)(call)(X)(Q:Option Int->Sto->World->World->Prop)(w)(j:w.heap[St]?=some (ν 0 s))(y:s.po=false)
  (R:∀ W:World,Sem.run prog (callFunc f (first++cap)) W=.ok (.enter f (first++cap)) W) (x:∀ i,i∈X->i<w.heap.size)
  (z:∀ W:World,Kp [St] w W->W.heap[St]?=some (ν 1 s)->Calls prog f (first++cap) W λe a=>∃ k b,k≠some 8/\e=qB7 k/\Q k b W a/\Kp (St::X) W a/\a.heap[St]?=some (ν 1 b)):
  Calls prog 64 #[.pointer (some ⟨St,0,none⟩),.string call,.func (.func f) first cap] w λe g=>∃ k b v,e=.returned v/\ErrV g v k/\g.heap[St]?=some (ν 0 b)/\Kp (St::X) w g/\∃ W a B,Q k b W a/\Kp [St] w W/\w.heap.size<=B/\B<W.heap.size/\a.heap[B]?=some (.cells #[.nilIface] 38)/\Kp [St,B] a g/\a.heap[St]?=some (ν 1 b):=by
 have U:=zM;have p:=zh z;have I:=zh x;have G:=zh y;clear z x y;have T:=ζ j
 go_enter_defers func64,ntmps64
 go_wp2_with fail;refine (lock_free xK8 ⟨St,0,none⟩ _ (ξ (ρ _ (ρ _ j)) 0) (ψ (ρ _ (ρ _ j)) 0)).mono ?_;rintro e c ⟨rfl,rfl⟩;obtain⟨c,u,r,V,q,P,t⟩:∃ c,c=((w.alloc (.cells #[ϖ St] 97)).alloc (.cells #[.func (Fn.func f) first cap] 1)).setCell ⟨St,0,none⟩ (.int .i32 1)/\Kp [St] w c/\c.heap.size=w.heap.size+2/\Ϙ c w.heap.size (.cells #[ϖ St] 97)/\c.heap[w.heap.size+1]?=some (.cells #[.func (Fn.func f) first cap] 1)/\Ϙ c St (ν 1 s):=by
  refine⟨_,rfl,(((kF.alloc _).alloc _).sc _),by simp[World.setCell],?_,?_,?_⟩
  .exact (qB2 oM _ _).trans (ρ _ (υ _ _))
  .refine (qB2 oM _ _).trans ?_;have e:=υ (w.alloc (.cells #[ϖ St] 97)) (.cells #[.func (Fn.func f) first cap] 1);simpa using e
  .exact μ (ρ _ (ρ _ j)) 0 _
 rw[<-u];clear u;have J:=ξ q 0;simp at J;have m:Kp [St] w ((c.alloc (.cells #[.string call] 9)).alloc (.cells #[.nilIface] 38)):=(r.alloc _).alloc _;have d:=λ(k:Nat) (o:Obj) (h:Ϙ c k o)=>ρ (.cells #[.nilIface] 38) (ρ (.cells #[.string call] 9) h);have A:Hid (Ω 108 #[ϖ w.heap.size,ϖ (w.heap.size+1)] ((c.alloc (.cells #[.string call] 9)).alloc (.cells #[.nilIface] 38)) λe a=>∃ k,e=qB7 k/\(∃ b,k≠some 8/\Q k b ((c.alloc (.cells #[.string call] 9)).alloc (.cells #[.nilIface] 38)) a/\Ϙ a St (ν 1 b))/\Kp (St::X) ((c.alloc (.cells #[.string call] 9)).alloc (.cells #[.nilIface] 38)) a):=by
  refine xV5 w.heap.size (w.heap.size+1) St f s first cap _ (λk a=>(∃ b,k≠some 8/\Q k b ((c.alloc (.cells #[.string call] 9)).alloc (.cells #[.nilIface] 38)) a/\Ϙ a St (ν 1 b))/\Kp (St::X) ((c.alloc (.cells #[.string call] 9)).alloc (.cells #[.nilIface] 38)) a) (d _ _ q) (d _ _ P) (d _ _ t) G R ((p _ m (d _ _ t)).mono ?_)
  rintro e a ⟨k,b,K,L,M,N,O⟩;exact⟨k,L,⟨b,K,M,O⟩,N⟩
 have F:=zh m;clear p m d;go_wp2_with fail;refine (zM4 108 _ _ _ _ (St::X) (λi n=>by rcases List.mem_cons.1 n with rfl | h;omega;have:=I.out _ h;omega) (jB8 _) A).mono ?_;rintro e S ⟨k,v,a,rfl,hv,hF,⟨b,hk8,hQ,hst⟩,hE1,hKw,hK12⟩;have Y:=hKw.size;have l:=hK12.ho hst;have C:Hid (∃ W a B,Q k b W a/\Kp [St] w W/\w.heap.size<=B/\B<W.heap.size/\Ϙ a B (.cells #[.nilIface] 38)/\Kp [St,B] a (S.setCell ⟨St,0,none⟩ (.int .i32 0))/\Ϙ a St (ν 1 b)):=
  ⟨_,a,c.heap.size+1,hQ,F,oM,sM,hE1,(hK12.mono (S':=[St,c.heap.size+1]) sM).sc _,hst⟩
 have E:=zh (((r.mono (S':=St::X) sM).trans hKw (λ_ h _=>h)).trans hK12 (by intro i n hlt;simp at n;omega));have H:=zh hv;have D:=zh (jO7 hv hk8);clear hv hQ hE1 hK12 hKw
 go_wp2_with (go_at_call 109;refine (show Calls _ _ _ _ _ from D).mono ?_;rintro e g ⟨rfl,rfl⟩)
 refine leaves_cons (f:=106) (args:=#[ϖ St]) sM (by simp[go_sem]) ?_;refine (unlock_deferred xK8 ⟨St,0,none⟩ .returning _ (ξ l 0) (ψ l 0)).mono ?_;rintro e Z aa ⟨rfl,rfl,rfl⟩;exact⟨_,results_tmp rfl _ _ _,k,b,v,rfl,H.set l,μ l 0 _,E.sc _,C⟩
theorem zW3(k:Option Int)(n:k≠some 8)(St f:Nat)(s s')(first cap)(call)(X)(Q:World->World->Prop)(w)(j:w.heap[St]?=some (ν 0 s))(o:s.po=false)
  (m:∀ W:World,Sem.run prog (callFunc f (first++cap)) W=.ok (.enter f (first++cap)) W) (l:∀ i,i∈X->i<w.heap.size)
  (p:∀ W:World,Kp [St] w W->W.heap[St]?=some (ν 1 s)->Calls prog f (first++cap) W λe a=>e=qB7 k/\Q W a/\Kp (St::X) W a/\a.heap[St]?=some (ν 1 s')):
  Calls prog 64 #[.pointer (some ⟨St,0,none⟩),.string call,.func (.func f) first cap] w λe b=>∃ v,e=.returned v/\ErrV b v k/\b.heap[St]?=some (ν 0 s')/\Kp (St::X) w b/\∃ W a B,Q W a/\Kp [St] w W/\w.heap.size<=B/\B<W.heap.size/\a.heap[B]?=some (.cells #[.nilIface] 38)/\Kp [St,B] a b:=by
 refine (zW4 St f s first cap call X (λq t W a=>q=k/\t=s'/\Q W a) w j o m l λW h1 h2=>(p W h1 h2).mono ?_).mono ?_
 .rintro e a ⟨c,d,g,h⟩;exact⟨k,s',n,c,⟨rfl,rfl,d⟩,g,h⟩
 .rintro e b ⟨_,_,v,c,d,g,h,W,a,B,⟨rfl,rfl,e5⟩,e6,e7,e8,e9,e10,_⟩;exact⟨v,c,d,g,h,W,a,B,e5,e6,e7,e8,e9,e10⟩
end Go.Proofs.YtdohpenfkdckiaaGreatDoor
namespace Go.Proofs.YtdohpenfkdckiaaGreatDoor
open Go.Proofs.Tryz
open Go.RowKit
theorem jF7(k:ByteArray)(ps:List KV)(j:Nat)(h:j<ps.length):del k (ps.take (j+1))=if ps[j].k=k then del k (ps.take j) else del k (ps.take j)++[ps[j]]:=by
 rw[tA h,qY8];by_cases e:ps[j].k=k<;>simp[del,e]
theorem jF3(k)(l):(del k l).length<=l.length:=List.length_filter_le _ _
theorem kE4(v)(ps)(k)(w)(x:SPR w v ps)(hn:ps.length<=100000):
  Calls prog 194 #[.agg #[v],.string k] w λe Q=>∃ a,e=.returned (.agg #[a])/\SPR Q a (del k ps)/\Kp [] w Q:=by
 obtain⟨X,Y,rfl⟩:=x.form;have V:=zh x;clear x;go_enter func194,ntmps194;go_wp2_with fail;obtain⟨R,O,E,r,F⟩:=alH w (.cells #[.slice X ps.length Y] 126) (.cells #[.slice none 0 0] 126)
 rw[<-O];clear O;have S:=zh E;have U:=zh r;have A:=zh F;have aj:=ζ r;clear E r F
 go_loopw [5,6] (λo i wr=>∃ (j:Nat) (a:Value),j<=ps.length/\i=.int .i64 j/\a=o/\OPR wr R.heap.size a (del k (ps.take j))/\Kp [] R wr) (λ_ i _=>ps.length-(intOf i).toNat)
 case atStart=>exact⟨0,_,zL _,rfl,rfl,OPR.nil _ _,Kp.refl _ _⟩
 case round=>
  obtain⟨j,a,hj,rfl,rfl,f,hK⟩:=hrel;have m:=hK.hp S.out;have af:=ζ m;have ak:=hK.size;have b0:=ϻ m 0;have L:=jF3 k (ps.take j);simp only[lK] at L;by_cases s:j<ps.length
  .have ab:(j:Int)<(ps.length:Int):=oM
   have n:=jF7 k ps j s;obtain⟨ae,I⟩:=eY (del k (ps.take j));rw[I] at n L f;have d:=zh f;have l:=zh hK;obtain⟨g,P,cap,cur,Z,M,ah,p,J⟩:=(V.keep0 (A.tr hK)).at oM;obtain⟨c0,D⟩:=J j s;simp only[vJ,true_and] at M;obtain⟨rfl,rfl⟩:=M;have B:=ξ p (P+j*2);rw[c0] at B;have C:=ξ p (P+j*2+1);rw[D] at C;have ai:=ζ p;obtain⟨q,u⟩:=eY (ps[j]);rw[u] at B C;have T:=zh u;clear J c0 D p u;rw[T.out] at n;have z:=zh n;clear n I f hK m;by_cases b:q.k=k
   .have ac:(q.k.toList == k.toList)=true:=by rw[qM2];simp[b]
    go_wp2;refine⟨⟨j+1,a,oM,by go_num,rfl,?_,l⟩,by simp[intOf];omega⟩;rw[z.out,if_pos b];exact d
   .have ac:(q.k.toList == k.toList)=false:=by rw[qM2];simp[b]
    obtain⟨v5,w5,ad,H,K⟩:=(d.alloc (.cells #[.string q.k,.string q.v] 284)).app wr.heap.size q 124 oM (υ _ _) sO;have y:=zh (n2 H ((l.alloc _).grown K (λk b=>Or.inr (d.low k b))));clear H K
    go_wp2_with (at_builtin;((with_reducible refine qL9 ?_ ?_ ad ?_);rfl;rfl))
    refine⟨⟨j+1,v5,oM,by go_num,rfl,?_,y.2⟩,by simp[intOf];omega⟩;rw[z.out,if_neg b];exact y.1
  .have ab:¬(j:Int)<(ps.length:Int):=oM
   rw[tL oM] at f;have d:=zh f;have l:=zh hK;have h:=hK.hp U.out;have ag:=ζ h;have r0:=ϻ h 0;have f0:=ψ h 0;clear f hK m;obtain⟨ob,oc,rfl⟩:=d.out.form;obtain⟨a,N⟩:=eX (Value.slice ob (del k ps).length oc);have W:=zh N;clear N;go_wp2;rw[<-W.out] at d |-;have G:Kp [w.heap.size+1] wr (wr.setCell ⟨w.heap.size+1,0,none⟩ a):=kF.sc _;have aa:Apt wr [w.heap.size+1] [284]:=λk b c t Z e hm=>by
    rw[mS b,h] at e;cases e
    revert hm;decide
   refine bodyPost_ret (v:=.agg #[a]) ?_ rfl ⟨a,rfl,?_,?_⟩
   .exact results_cell_row results194 _ _ (w.heap.size+1) 126 #[a] (0,0) _ rfl (μ h 0 _) underlying126 rfl kR
   .exact (d.sp).keep G aa
   .exact (A.tr l).trans G (by intro i hi s;simp at hi;omega)
def qZ4(l:List KV)(k:ByteArray):Value:=.tuple #[.string (((l.find? fun q=>decide (q.k=k)).map KV.v).getD ⟨#[]⟩),.bool (l.find? fun q=>decide (q.k=k)).isSome]
theorem jI4{α:Type}(f:α->Bool)(l:List α)(j:Nat)(h:j<l.length)(b:(l.take j).find? f=none)(a:f l[j]=true):l.find? f=some l[j]:=by
 have e:l=l.take j++l[j]::l.drop (j+1):=by rw[<-dG h,tD]
 refine (congrArg (List.find? f) e).trans ?_;rw[List.find?_append,b,Option.none_or,List.find?_cons_of_pos a]
theorem jI5{α:Type}(f:α->Bool)(l:List α)(j:Nat)(h:j<l.length)(b:(l.take j).find? f=none)(a:f l[j]=false):(l.take (j+1)).find? f=none:=by
 rw[tA h,List.find?_append,b];simp[a]
theorem xO4(v)(ps)(k)(w)(n:SPR w v ps)(P:ps.length<=100000):
  Calls prog 199 #[.agg #[v],.string k] w λe H=>e=.returned (qZ4 ps k)/\Kp [] w H:=by
 obtain⟨D,E,rfl⟩:=n.form;have B:=zh n;clear n;go_enter func199,ntmps199;go_wp2_with fail;obtain⟨I,z,t,u⟩:=alA w (.cells #[.slice D ps.length E] 126)
 rw[<-z];clear z;have d:=zh u;have L:=ζ t;have J:=ϻ t 0;clear u
 go_loop [6] (λi=>∃ (j:Nat),j<=ps.length/\i=.int .i64 j/\Hid ((ps.take j).find? (λq=>decide (q.k=k))=none)) (λi=>ps.length-(intOf i).toNat)
 case atStart=>exact⟨0,zL _,rfl,rfl⟩
 case round=>
  obtain⟨j,O,rfl,l⟩:=hrel;by_cases h:j<ps.length
  .have F:(j:Int)<(ps.length:Int):=oM
   have hK:=Kp.refl [] I;obtain⟨g,A,cap,cur,K,y,M,b,x⟩:=(B.keep0 (d.tr hK)).at oM;obtain⟨c0,s⟩:=x j h;simp only[vJ,true_and] at y;obtain⟨rfl,rfl⟩:=y;have p:=ξ b (A+j*2);rw[c0] at p;have r:=ξ b (A+j*2+1);rw[s] at r;have N:=ζ b;obtain⟨q,m⟩:=eY (ps[j]);rw[m] at p r;have f:=zh m;clear x c0 s b m;clear hK;by_cases a:q.k=k
   .have G:(q.k.toList == k.toList)=true:=by rw[qM2];simp[a]
    have c:Hid (ps.find? (λq=>decide (q.k=k))=some q):=by
     show _=_;rw[<-f.out];exact jI4 _ ps j h l.out (by rw[f.out];simp[a])
    clear a;go_wp2
    go_ret2
    exact⟨by rw[qZ4,c.out];rfl,d⟩
   .have G:(q.k.toList == k.toList)=false:=by rw[qM2];simp[a]
    have c:=zh (jI5 _ ps j h l.out (by rw[f.out];simp[a]));go_wp2;exact⟨⟨j+1,oM,by go_num,c⟩,by simp[intOf];omega⟩
  .have F:¬(j:Int)<(ps.length:Int):=oM
   have o:=l.out;rw[tL oM] at o;have C:=zh o;clear o;go_wp2
   go_ret2
   exact⟨by rw[qZ4,C.out];rfl,d⟩
def inR(lo hi:ByteArray)(q:KV):Bool:=!kl q.k lo && kl q.k hi
def qG8(ps:List KV)(lo hi:ByteArray)(most:Int):List KV:=(ps.filter (inR lo hi)).take most.toNat
theorem jH9{α:Type}(f:α->Bool)(ps:List α)(j:Nat)(h:j<ps.length):(ps.take (j+1)).filter f=if f ps[j] then (ps.take j).filter f++[ps[j]] else (ps.take j).filter f:=by
 rw[tA h,List.filter_append];by_cases e:f ps[j]=true<;>simp[e]
theorem jI0{α:Type}(f:α->Bool)(ps:List α)(j:Nat):ps.filter f=(ps.take j).filter f++(ps.drop j).filter f:=by
 rw[<-List.filter_append,tD]
theorem xP0(v)(ps)(lo hi)(b:Int)(w)(B:SPR w v ps)(hn:ps.length<=100000):
  Calls prog 200 #[.agg #[v],.string lo,.string hi,.int .i64 b] w λe R=>∃ v',e=.returned v'/\SPR R v' (qG8 ps lo hi b)/\Kp [] w R:=by
 obtain⟨W,X,rfl⟩:=B.form;have V:=zh B;clear B;go_enter func200,ntmps200;go_wp2_with fail;obtain⟨S,P,x,I⟩:=alA w (.cells #[.slice W ps.length X] 126)
 rw[<-P];clear P;have t:=zh I;have T:=zh x;have ai:=ζ x;clear I x
 go_loopw [9,10] (λo i wr=>∃ (j:Nat) (v':Value) (a:List KV) (h:Option Addr) (l:Nat),j<=ps.length/\i=.int .i64 j/\o=.slice h a.length l/\Hid (a=(ps.take j).filter (inR lo hi))/\a.length<=b.toNat/\OPR wr S.heap.size (.slice h a.length l) a/\Kp [] S wr) (λ_ i _=>ps.length-(intOf i).toNat)
 case atStart=>exact⟨0,.nilIface,[],none,0,zL _,rfl,rfl,rfl,zL _,OPR.nil _ _,Kp.refl _ _⟩
 case round=>
  obtain⟨j,_,a,h,l,hj,rfl,rfl,n,N,m,hK⟩:=hrel;have f:=hK.hp T.out;have ae:=ζ f;have aj:=hK.size;have b0:=ϻ f 0;have ah:a.length<=j:=by rw[n.out];have:=List.length_filter_le (inR lo hi) (ps.take j);simp at this;omega
  have c:=zh m;have d:=zh hK;by_cases M:j<ps.length
  .have Z:(j:Int)<(ps.length:Int):=oM
   have p:=jH9 (inR lo hi) ps j M;by_cases hm:(a.length:Int)<b
   .skip
    obtain⟨g,Q,cap,cur,fr,O,af,r,J⟩:=(V.keep0 (t.tr hK)).at oM;obtain⟨c0,G⟩:=J j M;simp only[vJ,true_and] at O;obtain⟨rfl,rfl⟩:=O;have E:=ξ r (Q+j*2);rw[c0] at E;have F:=ξ r (Q+j*2+1);rw[G] at F;have ag:=ζ r;obtain⟨q,A⟩:=eY (ps[j]);rw[A] at E F;have U:=zh A;clear J c0 G r A;rw[U.out,<-n.out] at p;have s:=zh p;clear p m hK f
    cases hin:inR lo hi q with
    | true=>
     have z:Op.bytesLess q.k.toList lo.toList=false:=by simp[inR,kl] at hin;exact hin.1
     have L:Op.bytesLess q.k.toList hi.toList=true:=by simp[inR,kl] at hin;exact hin.2
     obtain⟨v5,w5,ab,y,K⟩:=(c.alloc (.cells #[.string q.k,.string q.v] 284)).app wr.heap.size q 124 oM (υ _ _) sO;obtain⟨ac,ad,Y⟩:=y.form;subst Y;have C:=zh (n2 y ((d.alloc _).grown K (λk hk=>Or.inr (c.low k hk))));clear y K hin
     go_wp2_with (at_builtin;((with_reducible refine qL9 ?_ ?_ ab ?_);rfl;rfl))
     refine⟨⟨j+1,.nilIface,a++[q],ac,ad,oM,by go_num,sM,?_,sO,C.1,C.2⟩,by simp[intOf];omega⟩;show _=_;rw[s.out,if_pos];simp[inR,kl,z,L]
    | false=>
     have D:=zh hin
     cases z:Op.bytesLess q.k.toList lo.toList with
     | true=>
      clear hin;go_wp2;refine⟨⟨j+1,.nilIface,a,h,l,oM,by go_num,rfl,?_,N,c,d⟩,by simp[intOf];omega⟩;show _=_;rw[s.out,if_neg (by rw[D.out];simp)]
     | false=>
      have L:Op.bytesLess q.k.toList hi.toList=false:=by
       simp[inR,kl,z] at hin;exact hin
      clear hin;go_wp2;refine⟨⟨j+1,.nilIface,a,h,l,oM,by go_num,rfl,?_,N,c,d⟩,by simp[intOf];omega⟩;show _=_;rw[s.out,if_neg (by rw[D.out];simp)]
   .have u:Hid (a=qG8 ps lo hi b):=by
     show _=_;have aa:b.toNat=a.length:=oM
     rw[qG8,jI0 _ ps j,aa,<-n.out,List.take_append_of_le_length lR,List.take_length]
    clear p m hK f;go_wp2;go_ret;exact⟨_,rfl,by rw[<-u.out];exact c.sp,t.tr d⟩
  .have Z:¬(j:Int)<(ps.length:Int):=oM
   have u:Hid (a=qG8 ps lo hi b):=by
    show _=_;have H:=n.out;rw[tL oM] at H;rw[qG8,<-H,tL oM]
   clear m hK f;go_wp2;go_ret;exact⟨_,rfl,by rw[<-u.out];exact c.sp,t.tr d⟩
theorem KV.eq_iff(a b:KV):a=b↔a.k=b.k/\a.v=b.v:=by cases a;cases b;simp
theorem xO9(v1 v2)(ps qs)(w)(d:SPR w v1 ps)(k:SPR w v2 qs)(hn:ps.length<=100000)(ad:qs.length<=100000):
  Calls prog 201 #[v1,v2] w λe O=>e=.returned (.bool (decide (ps=qs)))/\Kp [] w O:=by
 obtain⟨P,S,rfl⟩:=d.form;obtain⟨Q,T,rfl⟩:=k.form;have J:=zh d;have K:=zh k;clear d k;by_cases l:ps.length=qs.length
 .have o:(ps.length:Int)=(qs.length:Int):=oM
  have HL:=zh l;clear l;go_enter func201,ntmps201;go_wp2_with fail
  go_loopw [5] (λi wr=>∃ (j:Nat),j<=ps.length/\i=.int .i64 j/\Hid (ps.take j=qs.take j)/\Kp [] w wr) (λi _=>ps.length-(intOf i).toNat)
  case atStart=>exact⟨0,zL _,rfl,rfl,Kp.refl _ _⟩
  case round=>
   obtain⟨j,hj,rfl,D,hK⟩:=hrel;by_cases E:j<ps.length
   .have L:(j:Int)<(ps.length:Int):=oM
    have F:j<qs.length:=by have:=HL.out;omega
    have ac:(j:Int)<(qs.length:Int):=oM
    obtain⟨g,H,cap,cur,V,b,Y,m,B⟩:=(J.keep0 hK).at oM;obtain⟨X,I,R,U,W,G,Z,n,C⟩:=(K.keep0 hK).at oM;obtain⟨c0,v⟩:=B j E;obtain⟨x,y⟩:=C j F;simp only[vJ,true_and] at b G;obtain⟨rfl,rfl⟩:=b;obtain⟨rfl,rfl⟩:=G;have t:=ξ m (H+j*2);rw[c0] at t;have u:=ξ m (H+j*2+1);rw[v] at u;have z:=ξ n (I+j*2);rw[x] at z;have A:=ξ n (I+j*2+1);rw[y] at A;have aa:=ζ m;have ab:=ζ n;obtain⟨p,r⟩:=eY (ps[j]);obtain⟨q,s⟩:=eY (qs[j]);rw[r] at t u;rw[s] at z A;have h:=zh (n2 r s);have f:=zh hK;clear B C c0 v x y m n r s hK o;by_cases c:p.k=q.k
    .have M:(p.k.toList == q.k.toList)=true:=by rw[qM2];simp[c]
     by_cases b:p.v=q.v
     .have N:(p.v.toList == q.v.toList)=true:=by rw[qM2];simp[b]
      have a:=zh ((KV.eq_iff p q).2 ⟨c,b⟩);clear c b;go_wp2_with fail
      go_quiet (fail)
      go_wp2;refine⟨⟨j+1,oM,by go_num,?_,f.drewN _⟩,by simp[intOf];omega⟩;show _=_;rw[tA E,tA F,D.out,h.out.1,h.out.2,a.out]
     .have N:(p.v.toList == q.v.toList)=false:=by rw[qM2];simp[b]
      have a:Hid (¬ps=qs):=λe=>b (by
       have:=h.out;subst e;rw[<-this.1,<-this.2])
      clear c b;go_wp2_with fail
      go_quiet (fail)
      go_wp2;go_ret;exact⟨by simp[a.out],f.drewN _⟩
    .have M:(p.k.toList == q.k.toList)=false:=by rw[qM2];simp[c]
     have a:Hid (¬ps=qs):=λe=>c (by
      have:=h.out;subst e;rw[<-this.1,<-this.2])
     clear c;go_wp2_with fail
     go_quiet (fail)
     go_wp2;go_ret;exact⟨by simp[a.out],f.drewN _⟩
   .have L:¬(j:Int)<(ps.length:Int):=oM
    have a:Hid (ps=qs):=by
     have d:=D.out;have k:=HL.out;rw[tL oM,tL oM] at d;exact d
    have f:=zh hK;clear hK o;go_wp2;go_ret;exact⟨by simp[a.out],f⟩
 .have o:¬(ps.length:Int)=(qs.length:Int):=oM
  have a:Hid (¬ps=qs):=λe=>l (by rw[e]);clear l;go_enter func201,ntmps201;go_wp2;go_ret;exact⟨by simp[a.out],Kp.refl _ _⟩
def qH4(k:ByteArray):Bool:=decide (1≤k.size) && decide (k.size≤8)
theorem zB3(k)(w):
  Calls prog 198 #[.string k] w λe d=>e=.returned (.bool (qH4 k))/\d=w:=by
 by_cases a:1<=k.size
 .have c:(1:Int)<=(k.size:Int):=oM
  go_enter func198,ntmps198;go_wp2;go_ret;refine⟨?_,rfl⟩;by_cases b:k.size<=8
  .have:(k.size:Int)<=8:=oM
   simp[qH4,a,b,this]
  .have:¬(k.size:Int)<=8:=oM
   simp[qH4,a,b,this]
 .have c:¬(1:Int)<=(k.size:Int):=oM
  go_enter func198,ntmps198;go_wp2;go_ret;exact⟨by simp[qH4,a],rfl⟩
def nw{X:Type}(l:Lnk X):Nat:=if l.ref.isSome then 0 else 1
def Hd:(n:Nat)→Lnk (Tn n)→Prop
 | 0,_=>True
 | n+1,l=>(l.ref.isSome=true→meas (news n) (η l.sub)=0)∧∀ m∈η l.sub,Hd n m
theorem zR1{X:Type}{l:Lnk X}(h:l.ref=none):nw l=1:=by simp[nw,h]
theorem zH7{n:Nat}(key:ByteArray)(ls:List (Lnk (Tn n))):news (n+1) ⟨key,none,ls⟩=1+meas (news n) ls:=by simp[news];rfl
theorem Hd.sum{n:Nat}{l}(h:Hd (n+1) l):meas (news n) (η l.sub)+nw l=news (n+1) l:=by
 unfold news nw;split
 .rename_i e;rw[h.1 e]
 .rw[Nat.add_comm]
theorem jW4:∀ (n:Nat) (l:Lnk (Tn n)),nw l<=news n l
 | 0,l=>lR
 | n+1,l=>by unfold news nw;split<;>omega
theorem zF8{α:Type}(f:α->Nat)(l:List α):(∃ a,qB8 f l=[a]/\a=l)\/∃ a b,qB8 f l=[a,b]/\a++b=l:=by
 unfold qB8;split
 .exact .inl ⟨l,rfl,rfl⟩
 .exact .inr ⟨_,_,rfl,tD _ _⟩
theorem zA2(key)(ps):meas (news 0) (qE1 key ps)=(qE1 key ps).length/\(qE1 key ps).length<=2:=by
 unfold qE1;rcases zF8 θ ps with⟨a,e,_⟩|⟨a,b,e,_⟩<;>rw[e]
 .exact⟨rfl,Nat.le_succ 1⟩
 .exact⟨rfl,Nat.le_refl 2⟩
theorem zE0{n:Nat}(key)(ls):meas (news (n+1)) (qC9 n key ls)=(qC9 n key ls).length+meas (news n) ls/\(qC9 n key ls).length<=2:=by
 unfold qC9;rcases zF8 qA2 ls with⟨a,e,c⟩|⟨a,b,e,c⟩
 .rw[e];refine⟨?_,Nat.le_succ 1⟩;show meas (news (n+1)) [⟨key,none,a⟩]=1+_;rw[qC2,qD1,zH7,c,Nat.add_zero]
 .rw[e];refine⟨?_,Nat.le_refl 2⟩;show meas (news (n+1)) [⟨key,none,a⟩,⟨_,none,b⟩]=2+_;rw[qC2,qC2,qD1,zH7,zH7,<-c,qE2];omega
theorem kQ3:∀ (n:Nat) (l:Lnk (Tn n)) (p:KV),(qE5 n l p).length<=2
 | 0,l,p=>(zA2 _ _).2
 | n+1,l,p=>by
  simp only[qE5];split
  .exact (zE0 _ _).2
  .exact zL _
theorem xT4:∀ (n:Nat) (l) (p),Hd n l->meas (news n) (qE5 n l p)+nw l<=(qE5 n l p).length+2*n+news n l
 | 0,l,p,h=>by
  have:=(zA2 l.key (qH3 p l.sub)).1;show meas (news 0) (qE1 l.key (qH3 p l.sub))+nw l<=(qE1 l.key (qH3 p l.sub)).length+0+nw l;omega
 | n+1,l,p,h=>by
  have f:=h.sum;have e:qE5 (n+1) l p=match (η l.sub)[qA8 (η l.sub) p.k]? with
    | some m=>qC9 n l.key ((η l.sub).take (qA8 (η l.sub) p.k)++qE5 n m p++(η l.sub).drop (qA8 (η l.sub) p.k+1))
    | none=>[]:=rfl
  rw[e]
  cases hx:(η l.sub)[qA8 (η l.sub) p.k]? with
  | none=>have:=jW4 (n+1) l;simp[meas];omega
  | some m=>
   obtain⟨c,d⟩:=gS hx;have g:=xT4 n m p (h.2 m (mO hx));have i:=kQ3 n m p;have a:=(zE0 l.key ((η l.sub).take (qA8 (η l.sub) p.k)++qE5 n m p++(η l.sub).drop (qA8 (η l.sub) p.k+1))).1;have b:=qN6 (news n) (η l.sub) (qA8 (η l.sub) p.k);rw[dG c,qC2,d] at b;rw[qE2,qE2] at a;simp only;omega
theorem jQ4:∀ {n:Nat} {a b},Hd n a->Hd n b->meas (news n) (qF8 n a.key a.sub b.sub)+nw a+nw b<=2+news n a+news n b
 | 0,a,b,_,_=>by
  obtain⟨c,d⟩:=zA2 a.key (List.append (α:=KV) a.sub b.sub);show meas (news 0) (qE1 a.key (List.append (α:=KV) a.sub b.sub))+nw a+nw b<=2+nw a+nw b;omega
 | n+1,a,b,ha,hb=>by
  obtain⟨c,d⟩:=zE0 a.key (η a.sub++η b.sub);have e:=ha.sum;have f:=hb.sum;rw[qE2] at c;show meas (news (n+1)) (qC9 n a.key (η a.sub++η b.sub))+nw a+nw b<=_;omega
theorem zQ6(n:Nat)(ls)(i:Nat):qC6 n ls i=ls\/∃ P a b Q,ls=P++a::b::Q/\qC6 n ls i=P++qF8 n a.key a.sub b.sub++Q/\((ls[i]?=some a/\cnt n a.sub<3)\/(ls[i]?=some b/\cnt n b.sub<3)):=by
 unfold qC6
 cases hx:ls[i]? with
 | none=>exact .inl rfl
 | some x=>
  simp only;by_cases d:3<=cnt n x.sub
  .exact .inl (if_pos d)
  .rw[if_neg d]
   cases ha:ls[min i (ls.length-2)]? with
   | none=>exact .inl rfl
   | some a=>
    cases hb:ls[min i (ls.length-2)+1]? with
    | none=>exact .inl rfl
    | some b=>
     obtain⟨g,e⟩:=gS ha;obtain⟨h,f⟩:=gS hb;obtain⟨k,j⟩:=gS hx;refine .inr ⟨ls.take (min i (ls.length-2)),a,b,ls.drop (min i (ls.length-2)+2),?_,rfl,?_⟩
     .rw[<-e,<-f,<-dG h,<-dG g,tD]
     .by_cases c:min i (ls.length-2)=i
      .rw[c,hx] at ha;cases ha;exact .inl ⟨rfl,oM⟩
      .have c:min i (ls.length-2)+1=i:=oM
       rw[c,hx] at hb;cases hb;exact .inr ⟨rfl,oM⟩
theorem jU7{n:Nat}{A W B}{m}(o:∀ x∈A++W++B,Hd n x)(q:Made n m 1 W):
  meas (news n) (qC6 n (A++W++B) A.length)+W.length<=meas (news n) (A++W++B)+2:=by
 have p:W.length<=2/\∀ x,(A++W++B)[A.length]?=some x->x.ref=none/\(cnt n x.sub<3->W.length=1):=by
  rcases q with⟨a,rfl,g,d,c⟩|⟨a,b,rfl,g,d,c,r,s⟩
  .refine⟨sM,λx f=>?_⟩;rw[show (A++[a]++B)[A.length]?=some a by simp] at f;cases f;exact⟨d,λ_=>rfl⟩
  .refine⟨sM,λx f=>?_⟩;rw[show (A++[a,b]++B)[A.length]?=some a by simp] at f;cases f;exact⟨d,λh=>by omega⟩
 obtain⟨t,k⟩:=p;rcases zQ6 n (A++W++B) A.length with e|⟨P,a,b,Q,g,d,c⟩
 .rw[e];omega
 .rw[d];rw[g] at o c k |-;have u:=jQ4 (o a sM) (o b sM);rw[qE2,qE2,qE2,qC2,qC2];rcases c with⟨c,l⟩|⟨c,l⟩
  .obtain⟨i,j⟩:=k _ c;have:=zR1 i;have:=j l;omega
  .obtain⟨i,j⟩:=k _ c;have:=zR1 i;have:=j l;omega
def lf:(n:Nat)→Tn n→Nat
 | 0,_=>1
 | n+1,ls=>meas (fun l:Lnk (Tn n)=>lf n l.sub) (η ls)
def lfs(n:Nat)(ls:List (Lnk (Tn n))):Nat:=meas (fun l=>lf n l.sub) ls
theorem zY5{n:Nat}(key)(ls):lfs (n+1) (qC9 n key ls)=lfs n ls:=by
 unfold qC9;rcases zF8 qA2 ls with⟨a,e,c⟩|⟨a,b,e,c⟩
 .rw[e];show meas (λl=>lf (n+1) l.sub) [(⟨key,none,a⟩:Lnk (Tn (n+1)))]=_;rw[qC2,qD1,<-c];rfl
 .rw[e];show meas (λl=>lf (n+1) l.sub) [(⟨key,none,a⟩:Lnk (Tn (n+1))),⟨_,none,b⟩]=_;rw[qC2,qC2,qD1,<-c,lfs,qE2];rfl
theorem jQ3:∀ {n:Nat} {a b:Lnk (Tn n)},lfs n (qF8 n a.key a.sub b.sub)<=lf n a.sub+lf n b.sub
 | 0,a,b=>by
  have c:=(zA2 a.key (List.append (α:=KV) a.sub b.sub)).2;have:∀ ls:List (Lnk (Tn 0)),lfs 0 ls=ls.length:=λls=>by induction ls with
   | nil=>rfl
   | cons x r ih=>rw[lfs,qC2,<-lfs,ih];show 1+r.length=r.length+1;omega
  show lfs 0 (qE1 a.key (List.append (α:=KV) a.sub b.sub))<=1+1;rw[this];exact c
 | n+1,a,b=>by
  show lfs (n+1) (qC9 n a.key (η a.sub++η b.sub))<=_;rw[zY5,lfs,qE2];exact lR
theorem jU6(n:Nat)(ls)(i:Nat):lfs n (qC6 n ls i)<=lfs n ls:=by
 rcases zQ6 n ls i with e|⟨P,a,b,Q,c,d,_⟩
 .rw[e];exact lR
 .have:=jQ3 (a:=a) (b:=b);rw[d,c];simp only[lfs,qE2,qC2] at this |-;omega
theorem zY4{n:Nat}{key}{ls}(h:∀ m∈ls,Hd n m):∀ x∈qC9 n key ls,Hd (n+1) x:=by
 unfold qC9;rcases zF8 qA2 ls with⟨a,e,d⟩|⟨a,b,e,d⟩
 .rw[e];intro x c;rw[mS c];exact⟨λh=>(by cases h),λm hm=>h m (by rw[<-d];exact hm)⟩
 .rw[e];intro x c;rcases List.mem_cons.1 c with rfl|c
  .exact⟨λh=>(by cases h),λm hm=>h m (by rw[<-d];exact List.mem_append_left _ hm)⟩
  .rw[mS c];exact⟨λh=>(by cases h),λm hm=>h m (by rw[<-d];exact List.mem_append_right _ hm)⟩
theorem jQ2:∀ {n:Nat} {a b:Lnk (Tn n)},Hd n a->Hd n b->∀ x∈qF8 n a.key a.sub b.sub,Hd n x
 | 0,a,b,_,_=>λ_ _=>trivial
 | n+1,a,b,ha,hb=>zY4 (ls:=η a.sub++η b.sub) λm c=>(mA c).elim (ha.2 m) (hb.2 m)
theorem jU3{n:Nat}{ls}{i:Nat}(h:∀ x∈ls,Hd n x):∀ x∈qC6 n ls i,Hd n x:=by
 rcases zQ6 n ls i with e|⟨P,a,b,Q,d,f,_⟩
 .rw[e];exact h
 .rw[f];rw[d] at h;intro x c;rcases mA c with c|c
  .rcases mA c with c|c
   .exact h x (by simp[c])
   .exact jQ2 (h a sM) (h b sM) x c
  .exact h x (by simp[c])
theorem xT5:∀ (n:Nat) (l:Lnk (Tn n)) (k:ByteArray),Hd n l->∀ x∈qC8 n l k,Hd n x
 | 0,l,k,h=>λ_ _=>trivial
 | n+1,l,k,h=>by
  show ∀ x∈(match (η l.sub)[qA8 (η l.sub) k]? with
    | some m=>qC9 n l.key (qC6 n ((η l.sub).take (qA8 (η l.sub) k)++qC8 n m k++(η l.sub).drop (qA8 (η l.sub) k+1)) (qA8 (η l.sub) k))
    | none=>[]),Hd (n+1) x
  cases b:(η l.sub)[qA8 (η l.sub) k]? with
  | none=>intro x b;cases b
  | some m=>
   refine zY4 (jU3 λx a=>?_);rcases mA a with a|a
   .rcases mA a with a|a
    .exact h.2 x (mT a)
    .exact xT5 n m k (h.2 m (mO b)) x a
   .exact h.2 x (mD a)
theorem xT6:∀ (n:Nat) (l) (k),Hd n l->Good n l.key l.sub->kl k l.key=false->l.key.size<=8->(∃ q∈cont n l.sub,q.k=k)->min n 1<cnt n l.sub->
  meas (news n) (qC8 n l k)+nw l<=(qC8 n l k).length+2*n+news n l/\lfs n (qC8 n l k)<=lf n l.sub
 | 0,l,k,ho,h,hk,hz,c,h1=>by
  have y:qC8 0 l k=qE1 l.key ((prs l.sub).take (qB9 (prs l.sub) k)++(prs l.sub).drop (qB9 (prs l.sub) k+1)):=rfl;have e:=(zA2 l.key ((prs l.sub).take (qB9 (prs l.sub) k)++(prs l.sub).drop (qB9 (prs l.sub) k+1))).1;have p:meas θ ((prs l.sub).take (qB9 (prs l.sub) k)++(prs l.sub).drop (qB9 (prs l.sub) k+1))<=126:=by
   have f:meas θ (prs l.sub)<=126:=h.fits;have N:=qN6 θ (prs l.sub) (qB9 (prs l.sub) k);have v:=qN6 θ ((prs l.sub).drop (qB9 (prs l.sub) k)) 1;rw[List.drop_drop] at v;rw[qE2];omega
  rw[y];refine⟨by show _<=_+0+nw l;omega,?_⟩;unfold qE1 qB8;rw[if_pos p];exact lR
 | n+1,l,k,ho,h,hk,hz,c,h1=>by
  have f:1<(η l.sub).length:=by have f:min (n+1) 1<(η l.sub).length:=h1;omega
  have H:Row0 n l.key (η l.sub):=⟨h.head,λm d=>⟨(h.all m d).1,(h.all m d).2.2⟩,h.pair⟩;obtain⟨A,m,B,e,g,t,E,F⟩:=zC3 (k:=k) H (by intro e;rw[e] at f;simp at f) hk;have s:=λx a=>h.all x (by show x∈η l.sub;rw[e];exact a);have i:=λx a=>ho.2 x (by rw[e];exact a);have d:=s m sM;have G:=λb o q c=>qN3 (F b o) ((qK5 n b.key b.sub (s b (by simp[o])).1).2 q c).2;have u:∃ q∈cont n m.sub,q.k=k:=by
   obtain⟨q,c,j⟩:=c;have c:q∈(η l.sub).flatMap (λl=>cont n l.sub):=c;rw[e] at c;obtain⟨x,a,r⟩:=mF c;rcases mA a with a|a
   .exact absurd j (qI8 (E x a q r))
   .rcases List.mem_cons.1 a with rfl|a
    .exact⟨q,r,j⟩
    .exact absurd j.symm (qI8 (G x a q r))
  obtain⟨P,Q,M⟩:=qX6 n m k d.1 t d.2.2 u oM;obtain⟨O,L⟩:=xT6 n m k (i m sM) d.1 t d.2.2 u oM;have w:=λx a=>xT5 n m k (i m sM) x a;have p:=jU7 (A:=A) (B:=B) (W:=qC8 n m k) (m:=m) (λx a=>by
   rcases mA a with a|a
   .rcases mA a with a|a
    .exact i x (by simp[a])
    .exact w x a
   .exact i x (by simp[a])) M
  have K:qC8 (n+1) l k=qC9 n l.key (qC6 n (A++qC8 n m k++B) A.length):=by
   have C:(η l.sub)[qA8 (η l.sub) k]?=some m:=by rw[<-g,e];simp
   have J:(η l.sub).take (qA8 (η l.sub) k)=A:=by rw[<-g,e];simp
   have z:(η l.sub).drop (qA8 (η l.sub) k+1)=B:=by
    rw[<-g,e,show A++m::B=(A++[m])++B by simp];exact List.drop_left' sM
   show (match (η l.sub)[qA8 (η l.sub) k]? with
    | some m=>qC9 n l.key (qC6 n ((η l.sub).take (qA8 (η l.sub) k)++qC8 n m k++(η l.sub).drop (qA8 (η l.sub) k+1)) (qA8 (η l.sub) k))
    | none=>[])=_
   rw[C,J,z,g]
  have I:=ho.sum;have o:=(zE0 l.key (qC6 n (A++qC8 n m k++B) A.length)).1;have D:=jU6 n (A++qC8 n m k++B) A.length;rw[e,qE2,qC2] at I;rw[qE2,qE2] at p;rw[K,zY5];refine⟨oM,lT D ?_⟩;show _<=lfs n (η l.sub);rw[e];simp only[lfs,qE2,qC2] at L |-;omega
theorem xE8:∀ (n:Nat) (lo) (t),Good (n+1) lo t->(η t).length*3 ^ n<=lf (n+1) t
 | n,lo,t,h=>by
  have key:∀ ls:List (Lnk (Tn n)),(∀ x∈ls,3 ^ n<=lf n x.sub)->ls.length*3 ^ n<=meas (λl:Lnk (Tn n)=>lf n l.sub) ls:=by
   intro ls
   induction ls with
   | nil=>intro _;simp[meas]
   | cons a r ih=>
    intro e;have c:=ih λx b=>e x (by simp[b]);have d:=e a sM;rw[lC,Nat.succ_mul,qC2];omega
  refine key (η t) λx b=>?_;obtain⟨c,d,_⟩:=h.all x b
  cases n with
  | zero=>exact lR
  | succ n=>
   have f:=xE8 n x.key x.sub c;have g:3*3 ^ n<=(η x.sub).length*3 ^ n:=Nat.mul_le_mul_right _ d;rw[Nat.pow_succ];omega
def Root.lf:Root→Nat
 | .none=>0
 | .at n l=>YtdohpenfkdckiaaGreatDoor.lf n l.sub
def Root.lev:Root→Nat
 | .none=>0
 | .at n l=>n
def Root.hd:Root→Prop
 | .none=>True
 | .at n l=>Hd n l
theorem xO7{n:Nat}{l}(h:RGood (.at (n+1) l)):2*3 ^ n<=Root.lf (.at (n+1) l):=by
 have a:=xE8 n _ _ h.2.1;have b:2<=(η l.sub).length:=by have c:min (n+1) 1<(η l.sub).length:=h.2.2;omega
 exact lT (Nat.mul_le_mul_right _ b) a
theorem zH0{r}(h:RGood r)(d:r.lf<=1400):r.lev<=6:=by
 cases r with
 | none=>exact zL _
 | «at» n l=>
  cases n with
  | zero=>exact zL _
  | succ n=>
   have c:=xO7 h;show n+1<=6;rcases Nat.lt_or_ge n 6 with a|a
   .omega
   .have b:3 ^ 6<=3 ^ n:=Nat.pow_le_pow_right oM a;simp at b;omega
theorem jS9{r}(h:RGood r)(d:r.lf<=485):r.lev<=5:=by
 cases r with
 | none=>exact zL _
 | «at» n l=>
  cases n with
  | zero=>exact zL _
  | succ n=>
   have c:=xO7 h;show n+1<=5;rcases Nat.lt_or_ge n 5 with a|a
   .omega
   .have b:3 ^ 5<=3 ^ n:=Nat.pow_le_pow_right oM a;simp at b;omega
theorem kN5:∀ (n:Nat) (l),l.ref=none->(qM6 n l).news<=news n l/\((qM6 n l).lev=n\/(qM6 n l).news+1<=news n l)/\(qM6 n l).lev<=n/\(qM6 n l).lf<=lf n l.sub
 | 0,l,h=>by
  have e:qM6 0 l=match prs l.sub with | []=>.none | _::_=>.at 0 l:=rfl
  rw[e]
  cases prs l.sub with
  | nil=>exact⟨zL _,.inl rfl,zL _,zL _⟩
  | cons x r=>exact⟨lR,.inl rfl,lR,lR⟩
 | n+1,l,h=>by
  have e:qM6 (n+1) l=match η l.sub with | []=>.none | [m]=>.at n m | _::_::_=>.at (n+1) l:=rfl
  have a:news (n+1) l=1+meas (news n) (η l.sub):=by simp[news,h]
  have b:lf (n+1) l.sub=lfs n (η l.sub):=rfl;rw[e,a,b]
  cases hx:η l.sub with
  | nil=>exact⟨zL _,.inr (by show 0+1<=_;omega),zL _,zL _⟩
  | cons x r=>
   cases r with
   | nil=>
    rw[qC2,qD1,lfs,qC2,qD1];exact⟨by show news n x<=_;omega,.inr (by show news n x+1<=_;omega),Nat.le_succ n,lR⟩
   | cons y r=>
    refine⟨?_,.inl rfl,lR,?_⟩
    .show news (n+1) l<=_;rw[a,hx];exact lR
    .show lfs n (η l.sub)<=_;rw[hx];exact lR
theorem zU5{n:Nat}{l}{d:Nat}{W}(m:Made n l d W)(f:∀ w∈W,w.key.size<=8):
  (W.length=1/\(qE6 n W).news<=meas (news n) W/\((qE6 n W).lev=n\/(qE6 n W).news+1<=meas (news n) W)/\(qE6 n W).lev<=n/\(qE6 n W).lf<=lfs n W)\/
  (W.length=2/\(qE6 n W).news=meas (news n) W+1/\(qE6 n W).lev=n+1/\(qE6 n W).lf=lfs n W):=by
 rcases m with⟨a,rfl,h,c,i⟩|⟨a,b,rfl,h,c,i,o,p⟩
 .have j:=kN5 n a c;rw[qC2,qD1,lfs,qC2,qD1];exact .inl ⟨rfl,j⟩
 .have k:meas qA2 [a,b]<=126:=by
   have:=f a sM;have:=f b sM;simp[meas,qA2];omega
  have e:qC9 n ⟨#[]⟩ [a,b]=[⟨⟨#[]⟩,none,[a,b]⟩]:=by
   unfold qC9 qB8;rw[if_pos k];rfl
  have g:qE6 n [a,b]=.at (n+1) ⟨⟨#[]⟩,none,[a,b]⟩:=by
   show (match qC9 n ⟨#[]⟩ [a,b] with | []=>Root.none | r::_=>qM6 (n+1) r)=_;rw[e];rfl
  rw[g];refine .inr ⟨rfl,?_,rfl,rfl⟩;show news (n+1) ⟨⟨#[]⟩,none,[a,b]⟩=_;rw[zH7,Nat.add_comm]
def qM0(c:Nat)(r:Root):Prop:=r.news≤12*c+(if r.lev=6 then 1 else 0)
theorem xC9{n:Nat}{l}{d c:Nat}{W}(g:Made n l d W)(i:∀ w∈W,w.key.size<=8)(q:meas (news n) W+nw l<=W.length+2*n+news n l)(m:qM0 c (.at n l))(p:n<=6)(k:n=6->l.ref=none)(o:(qE6 n W).lev<=6):qM0 (c+1) (qE6 n W):=by
 have h:news n l<=12*c+(if n=6 then 1 else 0):=m;unfold qM0;by_cases a:n=6
 .have:=zR1 (k a);rw[if_pos a] at h;rcases zU5 g i with⟨b,e,f,j,_⟩|⟨b,e,f,_⟩
  .split<;>omega
  .omega
 .rw[if_neg a] at h;rcases zU5 g i with⟨b,e,f,j,_⟩|⟨b,e,f,_⟩<;>split<;>omega
theorem jH7{r}{p}{c:Nat}(h:RGood r)(m:r.hd)(d:qC3 p)(i:qM0 c r)(k:r.lev<=6)(g:∀ l,r=.at 6 l->l.ref=none)(j:(r.put p).lev<=6):qM0 (c+1) (r.put p):=by
 cases r with
 | none=>
  have a:=zS4 (r:=.none) (p:=p) trivial d;have b:=qX1 a.1;have f:=zO4 p Root.none.cont;rw[a.2] at b;have t:Root.none.cont.length=0:=rfl;unfold qM0;omega
 | «at» n l=>
  obtain⟨a,b,f⟩:=h;obtain⟨q,u,s⟩:=zC4 n l p b d (by rw[a];exact qN2 _) (by rw[a];decide) oM;exact xC9 s (λw o=>(q.all w o).2) (xT4 n l p m) i k (λe=>by subst e;exact g l rfl) j
theorem xC8{r}{k}{c:Nat}(h:RGood r)(x:r.hd)(j:qM0 c r)(o:r.lf<=1400)(u:∀ l,r=.at 6 l->l.ref=none):qM0 (c+1) (r.del k)/\(r.del k).lf<=r.lf:=by
 have v:=zH0 h o;have b:=(xB4 (k:=k) h).1
 cases r with
 | none=>exact⟨zL _,lR⟩
 | «at» n l=>
  obtain⟨a,g,i⟩:=h;unfold Root.del at b |-;by_cases d:(cont n l.sub).any (λq=>decide (q.k=k))=true
  .simp only[d,if_true] at b |-;have p:∃ q∈cont n l.sub,q.k=k:=by simpa using d
   obtain⟨s,B,t⟩:=qX6 n l k g (by rw[a];exact qN2 _) (by rw[a];decide) p i;obtain⟨y,A⟩:=xT6 n l k x g (by rw[a];exact qN2 _) (by rw[a];decide) p i;have m:(qE6 n (qC8 n l k)).lf<=lf n l.sub:=by
    rcases zU5 t (λw f=>(s.all w f).2) with⟨_,_,_,_,h5⟩|⟨_,_,_,h5⟩<;>omega
   exact⟨xC9 t (λw f=>(s.all w f).2) y j v (λe=>by subst e;exact u l rfl) (zH0 b (lT m o)),m⟩
  .simp only[d];refine⟨?_,lR⟩;have z:news n l<=12*c+(if n=6 then 1 else 0):=j;show news n l<=12*(c+1)+(if n=6 then 1 else 0);omega
end Go.Proofs.YtdohpenfkdckiaaGreatDoor
