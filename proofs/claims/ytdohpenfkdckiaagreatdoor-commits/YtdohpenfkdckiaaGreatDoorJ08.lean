import Derived.Test.YtdohpenfkdckiaaGreatDoorJ07
import Derived.Conc.MuLib
import Derived.Conc.MuLone
import Derived.KernelRfl
set_option linter.all false
set_option maxRecDepth 100000
set_option maxHeartbeats 20000000
namespace Go.Proofs.YtdohpenfkdckiaaGreatDoor
open Go.Proofs.Tryz
open Go.RowKit Go.Extern.Stop Go.Stop Go.Extern
theorem kQ9(F:Nat)(call)(x)(w)(a:w.heap[F]?=some (.cells #[.string call,x] 246)):
  Calls prog 353 #[.pointer (some ⟨F,0,none⟩)] w λe c=>e=.returned x/\c=w:=by
 have b:=ξ a 1;simp at b;clear a;go_enter func353,ntmps353;go_wp2;go_ret;exact⟨rfl,rfl⟩
theorem xU1(F E a:Nat)(call)(k:Int)(w)(j:w.heap[F]?=some (.cells #[.string call,.iface 45 (.int .i64 k)] 246))(i:w.heap[E]?=some (.cells #[.int .i64 0] 45))(m:w.heap[a]?=some (.cells #[.pointer (some ⟨E,0,none⟩)] 95)):
  Calls prog 98 #[.iface 243 (.pointer (some ⟨F,0,none⟩)),.iface 95 (.pointer (some ⟨E,0,none⟩)),.agg #[.pointer (some ⟨5,95,none⟩),.pointer (some ⟨a,0,none⟩),.int .u64 150],.iface 220 (.agg #[.pointer (some ⟨5,45,none⟩)])] w λe p=>e=.returned (.bool true)/\p.heap[E]?=some (.cells #[.int .i64 k] 45)/\Kp [E] w p:=by
 have H:=@run_callFunc_extern prog 95 _ (λargs=>ReflectliteValue.unpack (args.getD 0 (.tuple #[]))) func95 kR kR kR kR;have B:=@run_callFunc_extern prog 151 _ ReflectliteType.typeOf func151 kR kR kR kR;have G:=@run_callFunc_extern prog 342 _ (ReflectliteType.relation "AssignableTo" ReflectliteType.assignableTo) func342 kR kR kR kR;have C:=@run_callFunc_extern prog 152 _ (ReflectliteValue.method (ReflectliteValue.valueError "reflectlite.Value.Elem" 0) ReflectliteValue.elem) func152 kR kR kR kR;have D:=@run_callFunc_extern prog 153 _ ReflectliteValue.set func153 kR kR kR kR;have N:=xW1;have M:=zV9;have mA:=xV2;have L:=zV7;have z:=xU3;have y:=xU2;have Q:=xW3;have O:∀ W:World,Sem.run prog (Instr.typeAssert (.iface 243 (ϖ F)) 38 225 true) W=.ok (.tuple #[.nilIface,.bool false]) W:=λW=>run_typeAssert_lacksB underlying225 kR kR _ _ W;have P:∀ W:World,Sem.run prog (Instr.typeAssert (.iface 243 (ϖ F)) 38 228 true) W=.ok (.tuple #[.iface 243 (ϖ F),.bool true]) W:=λW=>run_typeAssert_hasB underlying228 kR _ _ W;have I:=ζ i;have J:=ζ j;have K:=ζ m;go_enter func98,ntmps98;go_wp2;refine wp_loop_rounds 3 ?_;rw[rounds_succ];go_wp2_with fail;obtain⟨b,c,l,s⟩:∃ b,b=w.alloc (.cells #[.pointer (some ⟨5,95,none⟩),ϖ a,.int .u64 150] 143)/\Kp [E] w b/\b.heap.size=w.heap.size+1:=⟨_,rfl,kF.alloc _,sM⟩;have q:Ϙ b F (.cells #[.string call,.iface 45 (ϊ k)] 246):=by rw[c];exact ν _ j
 have d:Ϙ b E (.cells #[ϊ 0] 45):=by rw[c];exact ν _ i
 have r:Ϙ b a (.cells #[ϖ E] 95):=by rw[c];exact ν _ m
 have g:Ϙ b w.heap.size (.cells #[.pointer (some ⟨5,95,none⟩),ϖ a,.int .u64 150] 143):=by rw[c];exact υ _ _
 rw[<-c];clear c;have u:=ξ g 0;have v:=ξ g 1;have x:=ξ g 2;have h:=ξ r 0;simp at u v x h;have A:=xU7 ⟨a,0,none⟩ ⟨E,0,none⟩ b h;have n:=ξ (υ b (.cells #[ϊ k] 45)) 0;have f:=ξ (ν (.cells #[ϊ k] 45) d) 0;have o:=φ (ν (.cells #[ϊ k] 45) d) 0;simp at n f;have t:=xV9 ⟨E,0,none⟩ ⟨b.heap.size,0,none⟩ k (ϊ 0) (b.alloc (.cells #[ϊ k] 45)) sM (by simpa using f) o;rw[s] at t;clear n f o;refine (kQ9 F call _ _ q).mono ?_;rintro e R ⟨rfl,rfl⟩;go_wp2_with fail;rw[rounds_succ];go_wp2;go_ret;refine⟨rfl,?_,?_⟩
 .first
   | exact μ (ν _ d) 0 _
   | exact ν _ (μ d 0 _)
 .first
   | exact (l.alloc _).sc _
   | exact (l.sc _).alloc _
theorem xU0(F E:Nat)(call)(k:Int)(w)(d:w.cell? ⟨0,0,none⟩=some qE9)(b:w.heap[F]?=some (.cells #[.string call,.iface 45 (.int .i64 k)] 246))(a:w.heap[E]?=some (.cells #[.int .i64 0] 45)):
  Calls prog 53 #[.iface 243 (.pointer (some ⟨F,0,none⟩)),.iface 95 (.pointer (some ⟨E,0,none⟩))] w λe f=>e=.returned (.bool true)/\f.heap[E]?=some (.cells #[.int .i64 k] 45)/\Kp [E] w f:=by
 have l:=@run_callFunc_extern prog 95 _ (λargs=>ReflectliteValue.unpack (args.getD 0 (.tuple #[]))) func95 kR kR kR kR;have m:=@run_callFunc_extern prog 96 _ (ReflectliteValue.methodAny (ReflectliteValue.valueError "reflectlite.Value.Type" 0) (λt _ _ _=>ReflectliteType.toType t)) func96 kR kR kR kR;have n:=@run_callFunc_extern prog 97 _ (ReflectliteValue.method (ReflectliteValue.valueError "reflectlite.Value.IsNil" 0) ReflectliteValue.isNil) func97 kR kR kR kR;have h:=@run_callFunc_extern prog 322 _ (ReflectliteType.abiMethod λt=>do pure (.int .u8 (<-Rtype.kind t))) func322 kR kR kR kR;have i:=@run_callFunc_extern prog 344 _ (ReflectliteType.method ReflectliteType.elem) func344 kR kR kR kR;have j:=@run_callFunc_extern prog 345 _ (ReflectliteType.relation "Implements" ReflectliteType.implements_) func345 kR kR kR kR;have C:=xW2;have B:=xW0;have z:=xV5;have x:=xV3;have y:=xV4;have v:=xV1;have u:=xV0;have g:=xU5;have s:=xU8;have D:=ζ a;have G:=ζ b;have r:0<w.heap.size:=oM
 have A:=xU9 ⟨w.heap.size,0,none⟩ ⟨E,0,none⟩ ((w.alloc (.cells #[ϖ E] 95)).alloc (.cells #[.pointer (some ⟨5,95,none⟩),ϖ w.heap.size,.int .u64 150] 143)) sM;have q:((w.alloc (.cells #[ϖ E] 95)).alloc (.cells #[.pointer (some ⟨5,95,none⟩),ϖ w.heap.size,.int .u64 150] 143)).cell? ⟨0,0,none⟩=some (.iface 220 (.agg #[.pointer (some ⟨5,38,none⟩)])):=by
  rw[World.cell?_alloc_lt _ _ ⟨0,0,none⟩ sM,World.cell?_alloc_lt _ _ ⟨0,0,none⟩ r];exact d
 clear d;go_enter func53,ntmps53;go_wp2_with fail;refine (xU1 F E w.heap.size call k _ (ν _ (ν _ b)) (ν _ (ν _ a)) (ν _ (υ _ _))).mono ?_;rintro e w1 ⟨rfl,o,c⟩;have p:=(((Kp.refl [E] w).alloc _).alloc _).tr c;clear l m n h i j C B z x y v u g s A q c;go_wp2;go_ret;exact⟨rfl,o,p⟩
end Go.Proofs.YtdohpenfkdckiaaGreatDoor
namespace Go.Proofs.YtdohpenfkdckiaaGreatDoor
open Go.Proofs.Tryz
open Go.RowKit
theorem zT4(w):Calls prog 24 #[.nilIface] w λe a=>e=.returned (.int .i64 0)/\a=w:=by
 go_enter func24,ntmps24;go_wp2;go_ret;exact⟨rfl,rfl⟩
theorem kP7(F:Nat)(call)(k:Int)(w)(c:w.cell? ⟨0,0,none⟩=some qE9)(a:w.heap[F]?=some (.cells #[.string call,.iface 45 (.int .i64 k)] 246)):
  Calls prog 24 #[.iface 243 (.pointer (some ⟨F,0,none⟩))] w λe j=>e=.returned (.int .i64 k)/\Kp [] w j:=by
 have l:=ζ a;have g:0<w.heap.size:=oM
 go_enter func24,ntmps24;go_wp2_with fail;refine (xU0 F w.heap.size call k _ (by rw[World.cell?_alloc_lt _ _ ⟨0,0,none⟩ g];exact c) (ν _ a) (υ _ _)).mono ?_;rintro e w1 ⟨rfl,d,b⟩;have f:=((Kp.refl [] w).alloc _).trans b (by intro i h m;simp at h;omega);have c0:=ξ d 0;simp at c0;clear b c;go_wp2;go_ret;exact⟨rfl,f⟩
abbrev kB1:Go.Conc.Locks.MuLink:={ lock:=105,unlock:=106,ilock:=165,iunlock:=166,lockSlow:=231,unlockSlow:=234,disable:=227,enable:=229,acquire:=230,relMerge:=232,cas32:=228,add32:=233,tMutex:=164,tIMutex:=162,tPMutex:=242,tPIMutex:=306,tPI32:=308,tUP:=140,tNoCopy:=159,tU32:=160 }
theorem xJ0:Go.Conc.Locks.MuLib prog kB1:=
 ⟨func105,func106,func165,func166,func227,func229,func230,func232,func228,func233,underlying162,runUnderlying162,sizeOf162,isAgg162,zeroValue162,underlying164,runUnderlying164,sizeOf164,isAgg164,zeroValue164,underlying242,runUnderlying242,sizeOf242,isAgg242,zeroValue242,underlying306,runUnderlying306,sizeOf306,isAgg306,zeroValue306,underlying308,runUnderlying308,sizeOf308,isAgg308,zeroValue308,underlying140,runUnderlying140,sizeOf140,isAgg140,zeroValue140,underlying159,runUnderlying159,sizeOf159,isAgg159,zeroValue159,underlying21,runUnderlying21,sizeOf21,isAgg21,zeroValue21,kR⟩
end Go.Proofs.YtdohpenfkdckiaaGreatDoor
namespace Go.Proofs.YtdohpenfkdckiaaGreatDoor
open Go.Proofs.Tryz
open Go.RowKit Go.Extern.Stop Go.Stop Go.Extern
theorem jT0(w):((Extern.ReflectliteType.method λt=>do Rtype.noPackHeld "Comparable" t;(λa=>Value.bool a.comparable) <$> typeInfo t) #[.agg #[.pointer (some ⟨5,45,none⟩)]]).run prog w=.ok (.bool true) w:=kR
theorem jT5(h)(w):(Go.method 513 220 (.agg #[h]) "Comparable").run prog w=.ok (343,.agg #[h]) w:=kR
theorem jT1(k:Int)(w):Sem.run prog (binOp .eql 38 (.iface 45 (.int .i64 k)) (.iface 45 (.int .i64 8))) w=.ok (.bool (k == 8)) w:=by
 kernel_rfl
theorem jT8(v)(xT)(w):(Instr.typeAssert (.iface 243 v) xT 313 true).run prog w=.ok (.tuple #[.nilIface,.bool false]) w:=run_typeAssert_lacksB underlying313 kR kR v xT w
theorem jT7(v)(xT)(w):(Instr.typeAssert (.iface 45 v) xT 313 true).run prog w=.ok (.tuple #[.nilIface,.bool false]) w:=run_typeAssert_lacksB underlying313 kR kR v xT w
theorem jT9(v)(xT)(w):(Instr.typeAssert (.iface 45 v) xT 228 true).run prog w=.ok (.tuple #[.nilIface,.bool false]) w:=run_typeAssert_lacksB underlying228 kR kR v xT w
theorem jU0(v)(xT)(w):(Instr.typeAssert (.iface 45 v) xT 229 true).run prog w=.ok (.tuple #[.nilIface,.bool false]) w:=run_typeAssert_lacksB underlying229 kR kR v xT w
theorem jT4(v)(xT)(w):(Instr.typeAssert (.iface 243 v) xT 228 true).run prog w=.ok (.tuple #[.iface 243 v,.bool true]) w:=run_typeAssert_hasB underlying228 kR v xT w
theorem jT3(F:Nat)(call)(k:Int)(w)(c:k≠8)(a:w.heap[F]?=some (.cells #[.string call,.iface 45 (.int .i64 k)] 246)):
  Calls prog 109 #[.iface 243 (.pointer (some ⟨F,0,none⟩)),.iface 45 (.int .i64 8)] w λe f=>e=.returned (.bool false)/\f=w:=by
 have i:=@run_callFunc_extern prog 151 _ ReflectliteType.typeOf func151 kR kR kR kR;have l:=@run_callFunc_extern prog 343 _ (Extern.ReflectliteType.method λt=>do Rtype.noPackHeld "Comparable" t;pure (.bool (<-typeInfo t).comparable)) func343 kR kR kR kR;have r:=zV9;have h:=jT0;have n:=jT5;have q:=jT8;have p:=jT7;have s:=jT9;have v:=jU0;have u:=jT4;have o:=zV7;have m:=run_eql_iface_types (P:=prog) 243 45 (ϖ F) (ϊ 8) underlying38 dC w;have b:(k == 8)=false:=by simp[c]
 have d:=jT1 k w;rw[b] at d;clear c b;have j:=ζ a;have g:=ϻ a 1;go_enter func109,ntmps109;go_wp2;refine wp_loop_rounds 2 ?_;rw[rounds_succ];go_wp2;rw[rounds_succ];go_wp2;go_ret;exact⟨rfl,rfl⟩
end Go.Proofs.YtdohpenfkdckiaaGreatDoor
namespace Go.Proofs.YtdohpenfkdckiaaGreatDoor
open Go.Proofs.Tryz
open Go.RowKit Go.MuLone
theorem jT6(k:Int)(w):Calls prog 109 #[.nilIface,.iface 45 (.int .i64 k)] w λe a=>e=.returned (.bool false)/\a=w:=by
 have b:∀ W:World,Sem.run prog (binOp .eql 38 .nilIface (.iface 45 (ϊ k))) W=.ok (.bool false) W:=λW=>by kernel_rfl
 go_enter func109,ntmps109;go_wp2;go_ret;exact⟨rfl,rfl⟩
theorem jA2(args)(W):Sem.run prog (callFunc 108 args) W=.ok (.enter 108 args) W:=by
 simp[go_sem,func108]
theorem xT7(S F St f:Nat)(s)(first cap)(w)(R:Option Int->World->Prop)(d:w.heap[S]?=some (.cells #[.pointer (some ⟨St,0,none⟩)] 97))(b:w.heap[F]?=some (.cells #[.func (.func f) first cap] 1))(g:w.heap[St]?=some (θ 1 s))(l:s.po=false)
  (o:∀ W:World,Sem.run prog (callFunc f (first++cap)) W=.ok (.enter f (first++cap)) W)
  (h:Calls prog f (first++cap) w λe a=>∃ k,e=qB5 k/\R k a):
  Calls prog 108 #[.pointer (some ⟨S,0,none⟩),.pointer (some ⟨F,0,none⟩)] w λe a=>∃ k,e=qB5 k/\R k a:=by
 have n:=ξ d 0;have j:=ξ b 0;have m:=ξ g 7;simp[l] at n j m;clear d b g;have i:=zh h;clear h;go_enter func108,ntmps108;go_wp2_with fail;refine (show Calls _ _ _ _ _ from i).mono ?_;rintro e w1 ⟨k,rfl,c⟩
 cases k with
 | none=>
  simp only[qB5];go_wp2
  go_end0
  exact⟨none,rfl,c⟩
 | some k=>
  simp only[qB5];go_wp2;exact⟨rfl,some k,rfl,c⟩
theorem jT2{w}{v}{k:Option Int}(a:ErrV w v k)(b:k≠some 8):Calls prog 109 #[v,.iface 45 (.int .i64 8)] w λe d=>e=.returned (.bool false)/\d=w:=by
 cases k with
 | none=>rw[show v=.nilIface from a];exact jT6 8 w
 | some k=>
  obtain⟨F,f,rfl,c⟩:=a;exact jT3 F _ k w (λe=>b (by rw[e])) c
theorem ErrV.set{w}{v x}{k:Option Int}{St i:Nat}{c}{fr}(b:ErrV w v k)(f:w.heap[St]?=some (.cells c 169 fr)):ErrV (w.setCell ⟨St,i,none⟩ x) v k:=by
 cases k with
 | none=>exact b
 | some k=>
  obtain⟨F,d,e,a⟩:=b;refine⟨F,d,e,(qB1 (λe=>?_) _ _).trans a⟩;rw[e,f] at a;cases a
theorem zV5(St f:Nat)(s)(first cap)(call)(X)(Q:Option Int->Sto->World->World->Prop)(w)(g:w.heap[St]?=some (θ 0 s))(x:s.po=false)
  (P:∀ W:World,Sem.run prog (callFunc f (first++cap)) W=.ok (.enter f (first++cap)) W) (u:∀ i,i∈X->i<w.heap.size)
  (y:∀ W:World,Kp [St] w W->W.heap[St]?=some (θ 1 s)->Calls prog f (first++cap) W λe w1=>∃ k a,k≠some 8/\e=qB5 k/\Q k a W w1/\Kp (St::X) W w1/\w1.heap[St]?=some (θ 1 a)):
  Calls prog 64 #[.pointer (some ⟨St,0,none⟩),.string call,.func (.func f) first cap] w λe d=>∃ k a v,e=.returned v/\ErrV d v k/\d.heap[St]?=some (θ 0 a)/\Kp (St::X) w d/\∃ W w1 B,Q k a W w1/\Kp [St] w W/\w.heap.size<=B/\B<W.heap.size/\w1.heap[B]?=some (.cells #[.nilIface] 38)/\Kp [St,B] w1 d/\w1.heap[St]?=some (θ 1 a):=by
 have T:=zM;have n:=zh y;have H:=zh u;have F:=zh x;clear y u x;have S:=ζ g
 go_enter_defers func64,ntmps64
 go_wp2_with fail;refine (lock_free xJ0 ⟨St,0,none⟩ _ (ξ (ν _ (ν _ g)) 0) (φ (ν _ (ν _ g)) 0)).mono ?_;rintro e b ⟨rfl,rfl⟩;obtain⟨b,t,q,U,p,O,r⟩:∃ b,b=((w.alloc (.cells #[ϖ St] 97)).alloc (.cells #[.func (Fn.func f) first cap] 1)).setCell ⟨St,0,none⟩ (.int .i32 1)/\Kp [St] w b/\b.heap.size=w.heap.size+2/\Ϙ b w.heap.size (.cells #[ϖ St] 97)/\b.heap[w.heap.size+1]?=some (.cells #[.func (Fn.func f) first cap] 1)/\Ϙ b St (θ 1 s):=by
  refine⟨_,rfl,(((kF.alloc _).alloc _).sc _),by simp[World.setCell],?_,?_,?_⟩
  .exact (qB1 oM _ _).trans (ν _ (υ _ _))
  .refine (qB1 oM _ _).trans ?_;have e:=υ (w.alloc (.cells #[ϖ St] 97)) (.cells #[.func (Fn.func f) first cap] 1);simpa using e
  .exact μ (ν _ (ν _ g)) 0 _
 rw[<-t];clear t;have I:=ξ p 0;simp at I;have l:Kp [St] w ((b.alloc (.cells #[.string call] 9)).alloc (.cells #[.nilIface] 38)):=(q.alloc _).alloc _;have c:=λ(k:Nat) (o:Obj) (h:Ϙ b k o)=>ν (.cells #[.nilIface] 38) (ν (.cells #[.string call] 9) h);have z:Hid (Ω 108 #[ϖ w.heap.size,ϖ (w.heap.size+1)] ((b.alloc (.cells #[.string call] 9)).alloc (.cells #[.nilIface] 38)) λe w1=>∃ k,e=qB5 k/\(∃ a,k≠some 8/\Q k a ((b.alloc (.cells #[.string call] 9)).alloc (.cells #[.nilIface] 38)) w1/\Ϙ w1 St (θ 1 a))/\Kp (St::X) ((b.alloc (.cells #[.string call] 9)).alloc (.cells #[.nilIface] 38)) w1):=by
  refine xT7 w.heap.size (w.heap.size+1) St f s first cap _ (λk w1=>(∃ a,k≠some 8/\Q k a ((b.alloc (.cells #[.string call] 9)).alloc (.cells #[.nilIface] 38)) w1/\Ϙ w1 St (θ 1 a))/\Kp (St::X) ((b.alloc (.cells #[.string call] 9)).alloc (.cells #[.nilIface] 38)) w1) (c _ _ p) (c _ _ O) (c _ _ r) F P ((n _ l (c _ _ r)).mono ?_)
  rintro e w1 ⟨k,a,J,K,L,M,N⟩;exact⟨k,K,⟨a,J,L,N⟩,M⟩
 have E:=zh l;clear n l c;go_wp2_with fail;refine (zL1 108 _ _ _ _ (St::X) (λi m=>by rcases List.mem_cons.1 m with rfl | h;omega;have:=H.out _ h;omega) (jA2 _) z).mono ?_;rintro e R ⟨k,v,w1,rfl,hv,hF,⟨a,hk8,hQ,hst⟩,hE1,hKw,hK12⟩;have V:=hKw.size;have j:=hK12.ho hst;have A:Hid (∃ W w1 B,Q k a W w1/\Kp [St] w W/\w.heap.size<=B/\B<W.heap.size/\Ϙ w1 B (.cells #[.nilIface] 38)/\Kp [St,B] w1 (R.setCell ⟨St,0,none⟩ (.int .i32 0))/\Ϙ w1 St (θ 1 a)):=
  ⟨_,w1,b.heap.size+1,hQ,E,oM,sM,hE1,(hK12.mono (S':=[St,b.heap.size+1]) sM).sc _,hst⟩
 have D:=zh (((q.mono (S':=St::X) sM).trans hKw (λ_ h _=>h)).trans hK12 (by intro i m hlt;simp at m;omega));have G:=zh hv;have C:=zh (jT2 hv hk8);clear hv hQ hE1 hK12 hKw
 go_wp2_with (go_at_call 109;refine (show Calls _ _ _ _ _ from C).mono ?_;rintro e d ⟨rfl,rfl⟩)
 refine leaves_cons (f:=106) (args:=#[ϖ St]) sM (by simp[go_sem]) ?_;refine (unlock_deferred xJ0 ⟨St,0,none⟩ .returning _ (ξ j 0) (φ j 0)).mono ?_;rintro e Y Z ⟨rfl,rfl,rfl⟩;exact⟨_,results_tmp rfl _ _ _,k,a,v,rfl,G.set j,μ j 0 _,D.sc _,A⟩
theorem zV4(k:Option Int)(m:k≠some 8)(St f:Nat)(s s')(first cap)(call)(X)(Q:World->World->Prop)(w)(h:w.heap[St]?=some (θ 0 s))(n:s.po=false)
  (l:∀ W:World,Sem.run prog (callFunc f (first++cap)) W=.ok (.enter f (first++cap)) W) (j:∀ i,i∈X->i<w.heap.size)
  (o:∀ W:World,Kp [St] w W->W.heap[St]?=some (θ 1 s)->Calls prog f (first++cap) W λe w1=>e=qB5 k/\Q W w1/\Kp (St::X) W w1/\w1.heap[St]?=some (θ 1 s')):
  Calls prog 64 #[.pointer (some ⟨St,0,none⟩),.string call,.func (.func f) first cap] w λe a=>∃ v,e=.returned v/\ErrV a v k/\a.heap[St]?=some (θ 0 s')/\Kp (St::X) w a/\∃ W w1 B,Q W w1/\Kp [St] w W/\w.heap.size<=B/\B<W.heap.size/\w1.heap[B]?=some (.cells #[.nilIface] 38)/\Kp [St,B] w1 a:=by
 refine (zV5 St f s first cap call X (λp t W w1=>p=k/\t=s'/\Q W w1) w h n l j λW h1 h2=>(o W h1 h2).mono ?_).mono ?_
 .rintro e w1 ⟨b,c,d,g⟩;exact⟨k,s',m,b,⟨rfl,rfl,c⟩,d,g⟩
 .rintro e a ⟨_,_,v,b,c,d,g,W,w1,B,⟨rfl,rfl,e5⟩,e6,e7,e8,e9,e10,_⟩;exact⟨v,b,c,d,g,W,w1,B,e5,e6,e7,e8,e9,e10⟩
end Go.Proofs.YtdohpenfkdckiaaGreatDoor
namespace Go.Proofs.YtdohpenfkdckiaaGreatDoor
open Go.Proofs.Tryz
open Go.RowKit
theorem jJ3(k:ByteArray)(ps:List KV)(j:Nat)(h:j<ps.length):del k (ps.take (j+1))=if ps[j].k=k then del k (ps.take j) else del k (ps.take j)++[ps[j]]:=by
 rw[tA h,qY5];by_cases e:ps[j].k=k<;>simp[del,e]
theorem jI9(k)(l):(del k l).length<=l.length:=List.length_filter_le _ _
theorem kL4(v)(ps)(k)(w)(x:SPR w v ps)(hn:ps.length<=100000):
  Calls prog 194 #[.agg #[v],.string k] w λe Q=>∃ a,e=.returned (.agg #[a])/\SPR Q a (del k ps)/\Kp [] w Q:=by
 obtain⟨X,Y,rfl⟩:=x.form;have V:=zh x;clear x;go_enter func194,ntmps194;go_wp2_with fail;obtain⟨R,O,E,r,F⟩:=alH w (.cells #[.slice X ps.length Y] 126) (.cells #[.slice none 0 0] 126)
 rw[<-O];clear O;have S:=zh E;have U:=zh r;have A:=zh F;have aj:=ζ r;clear E r F
 go_loopw [5,6] (λo i wr=>∃ (j:Nat) (a:Value),j<=ps.length/\i=.int .i64 j/\a=o/\OPR wr R.heap.size a (del k (ps.take j))/\Kp [] R wr) (λ_ i _=>ps.length-(intOf i).toNat)
 case atStart=>exact⟨0,_,zL _,rfl,rfl,OPR.nil _ _,Kp.refl _ _⟩
 case round=>
  obtain⟨j,a,hj,rfl,rfl,f,hK⟩:=hrel;have m:=hK.hp S.out;have af:=ζ m;have ak:=hK.size;have b0:=ϻ m 0;have L:=jI9 k (ps.take j);simp only[lK] at L;by_cases s:j<ps.length
  .have ab:(j:Int)<(ps.length:Int):=oM
   have n:=jJ3 k ps j s;obtain⟨ae,I⟩:=eY (del k (ps.take j));rw[I] at n L f;have d:=zh f;have l:=zh hK;obtain⟨g,P,cap,cur,Z,M,ah,p,J⟩:=(V.keep0 (A.tr hK)).at oM;obtain⟨c0,D⟩:=J j s;simp only[vJ,true_and] at M;obtain⟨rfl,rfl⟩:=M;have B:=ξ p (P+j*2);rw[c0] at B;have C:=ξ p (P+j*2+1);rw[D] at C;have ai:=ζ p;obtain⟨q,u⟩:=eY (ps[j]);rw[u] at B C;have T:=zh u;clear J c0 D p u;rw[T.out] at n;have z:=zh n;clear n I f hK m;by_cases b:q.k=k
   .have ac:(q.k.toList == k.toList)=true:=by rw[qM2];simp[b]
    go_wp2;refine⟨⟨j+1,a,oM,by go_num,rfl,?_,l⟩,by simp[intOf];omega⟩;rw[z.out,if_pos b];exact d
   .have ac:(q.k.toList == k.toList)=false:=by rw[qM2];simp[b]
    obtain⟨v5,w5,ad,H,K⟩:=(d.alloc (.cells #[.string q.k,.string q.v] 284)).app wr.heap.size q 124 oM (υ _ _) sO;have y:=zh (n2 H ((l.alloc _).grown K (λk b=>Or.inr (d.low k b))));clear H K
    go_wp2_with (at_builtin;((with_reducible refine qL8 ?_ ?_ ad ?_);rfl;rfl))
    refine⟨⟨j+1,v5,oM,by go_num,rfl,?_,y.2⟩,by simp[intOf];omega⟩;rw[z.out,if_neg b];exact y.1
  .have ab:¬(j:Int)<(ps.length:Int):=oM
   rw[tL oM] at f;have d:=zh f;have l:=zh hK;have h:=hK.hp U.out;have ag:=ζ h;have r0:=ϻ h 0;have f0:=φ h 0;clear f hK m;obtain⟨ob,oc,rfl⟩:=d.out.form;obtain⟨a,N⟩:=eX (Value.slice ob (del k ps).length oc);have W:=zh N;clear N;go_wp2;rw[<-W.out] at d |-;have G:Kp [w.heap.size+1] wr (wr.setCell ⟨w.heap.size+1,0,none⟩ a):=kF.sc _;have aa:Apt wr [w.heap.size+1] [284]:=λk b c t Z e hm=>by
    rw[mS b,h] at e;cases e
    revert hm;decide
   refine bodyPost_ret (v:=.agg #[a]) ?_ rfl ⟨a,rfl,?_,?_⟩
   .exact results_cell_row results194 _ _ (w.heap.size+1) 126 #[a] (0,0) _ rfl (μ h 0 _) underlying126 rfl kR
   .exact (d.sp).keep G aa
   .exact (A.tr l).trans G (by intro i hi s;simp at hi;omega)
def qY9(l:List KV)(k:ByteArray):Value:=.tuple #[.string (((l.find? fun q=>decide (q.k=k)).map KV.v).getD ⟨#[]⟩),.bool (l.find? fun q=>decide (q.k=k)).isSome]
theorem jM4{α:Type}(f:α->Bool)(l:List α)(j:Nat)(h:j<l.length)(b:(l.take j).find? f=none)(a:f l[j]=true):l.find? f=some l[j]:=by
 have e:l=l.take j++l[j]::l.drop (j+1):=by rw[<-dG h,tD]
 refine (congrArg (List.find? f) e).trans ?_;rw[List.find?_append,b,Option.none_or,List.find?_cons_of_pos a]
theorem jM5{α:Type}(f:α->Bool)(l:List α)(j:Nat)(h:j<l.length)(b:(l.take j).find? f=none)(a:f l[j]=false):(l.take (j+1)).find? f=none:=by
 rw[tA h,List.find?_append,b];simp[a]
theorem xM5(v)(ps)(k)(w)(n:SPR w v ps)(P:ps.length<=100000):
  Calls prog 199 #[.agg #[v],.string k] w λe H=>e=.returned (qY9 ps k)/\Kp [] w H:=by
 obtain⟨D,E,rfl⟩:=n.form;have B:=zh n;clear n;go_enter func199,ntmps199;go_wp2_with fail;obtain⟨I,z,t,u⟩:=alA w (.cells #[.slice D ps.length E] 126)
 rw[<-z];clear z;have d:=zh u;have L:=ζ t;have J:=ϻ t 0;clear u
 go_loop [6] (λi=>∃ (j:Nat),j<=ps.length/\i=.int .i64 j/\Hid ((ps.take j).find? (λq=>decide (q.k=k))=none)) (λi=>ps.length-(intOf i).toNat)
 case atStart=>exact⟨0,zL _,rfl,rfl⟩
 case round=>
  obtain⟨j,O,rfl,l⟩:=hrel;by_cases h:j<ps.length
  .have F:(j:Int)<(ps.length:Int):=oM
   have hK:=Kp.refl [] I;obtain⟨g,A,cap,cur,K,y,M,b,x⟩:=(B.keep0 (d.tr hK)).at oM;obtain⟨c0,s⟩:=x j h;simp only[vJ,true_and] at y;obtain⟨rfl,rfl⟩:=y;have p:=ξ b (A+j*2);rw[c0] at p;have r:=ξ b (A+j*2+1);rw[s] at r;have N:=ζ b;obtain⟨q,m⟩:=eY (ps[j]);rw[m] at p r;have f:=zh m;clear x c0 s b m;clear hK;by_cases a:q.k=k
   .have G:(q.k.toList == k.toList)=true:=by rw[qM2];simp[a]
    have c:Hid (ps.find? (λq=>decide (q.k=k))=some q):=by
     show _=_;rw[<-f.out];exact jM4 _ ps j h l.out (by rw[f.out];simp[a])
    clear a;go_wp2
    go_ret2
    exact⟨by rw[qY9,c.out];rfl,d⟩
   .have G:(q.k.toList == k.toList)=false:=by rw[qM2];simp[a]
    have c:=zh (jM5 _ ps j h l.out (by rw[f.out];simp[a]));go_wp2;exact⟨⟨j+1,oM,by go_num,c⟩,by simp[intOf];omega⟩
  .have F:¬(j:Int)<(ps.length:Int):=oM
   have o:=l.out;rw[tL oM] at o;have C:=zh o;clear o;go_wp2
   go_ret2
   exact⟨by rw[qY9,C.out];rfl,d⟩
theorem xN3(v)(ps)(k)(w)(f:SPR w v ps)(Q:ps.length<=100000):
  Calls prog 203 #[.agg #[v],.string k] w λe J=>e=.returned (.int .i64 (qB0 ps k:Nat))/\Kp [] w J:=by
 obtain⟨D,E,rfl⟩:=f.form;have C:=zh f;clear f;go_enter func203,ntmps203;go_wp2_with fail;obtain⟨K,A,o,r⟩:=alA w (.cells #[.slice D ps.length E] 126)
 rw[<-A];clear A;have c:=zh r;have N:=ζ o;have L:=ϻ o 0;clear r;have y:=qX0 ps k
 go_loop [5] (λi=>∃ (j:Nat),j<=qB0 ps k/\i=.int .i64 j) (λi=>ps.length-(intOf i).toNat)
 case atStart=>exact⟨0,zL _,rfl⟩
 case round=>
  obtain⟨j,t,rfl⟩:=hrel;by_cases I:j<ps.length
  .have G:(j:Int)<(ps.length:Int):=oM
   have hK:=Kp.refl [] K;obtain⟨g,B,cap,cur,M,z,O,a,s⟩:=(C.keep0 (c.tr hK)).at oM;obtain⟨c0,n⟩:=s j I;simp only[vJ,true_and] at z;obtain⟨rfl,rfl⟩:=z;have l:=ξ a (B+j*2);rw[c0] at l;have m:=ξ a (B+j*2+1);rw[n] at m;have P:=ζ a;obtain⟨q,d⟩:=eY (ps[j]);rw[d] at l m;have h:=zh d;clear s c0 n a d;clear hK;by_cases x:j<qB0 ps k
   .have H:Op.bytesLess q.k.toList k.toList=true:=by
     have:=List.not_of_lt_findIdx (p:=λq:KV=>!kl q.k k) (xs:=ps) (i:=j) x;rw[h.out] at this;simpa [kl] using this
    go_wp2;exact⟨⟨j+1,oM,by go_num⟩,by simp[intOf];omega⟩
   .have u:qB0 ps k=j:=oM
    have H:Op.bytesLess q.k.toList k.toList=false:=by
     have:=List.findIdx_getElem (p:=λq:KV=>!kl q.k k) (xs:=ps) (w:=by show qB0 ps k<ps.length;omega);have F:ps[List.findIdx (λq:KV=>!kl q.k k) ps]'(by show qB0 ps k<ps.length;omega)=q:=by
      rw[<-h.out]
      congr 1
     rw[F] at this;simpa [kl] using this
    have b:=zh u;clear u x t y;go_wp2;go_ret;exact⟨qJ5 (by rw[b.out]),c⟩
  .have G:¬(j:Int)<(ps.length:Int):=oM
   have b:Hid (qB0 ps k=j):=by show _=_;omega
   clear t y;go_wp2;go_ret;exact⟨qJ5 (by rw[b.out]),c⟩
def inR(lo hi:ByteArray)(q:KV):Bool:=!kl q.k lo && kl q.k hi
def qH1(ps:List KV)(lo hi:ByteArray)(most:Int):List KV:=(ps.filter (inR lo hi)).take most.toNat
theorem jM1{α:Type}(f:α->Bool)(ps:List α)(j:Nat)(h:j<ps.length):(ps.take (j+1)).filter f=if f ps[j] then (ps.take j).filter f++[ps[j]] else (ps.take j).filter f:=by
 rw[tA h,List.filter_append];by_cases e:f ps[j]=true<;>simp[e]
theorem jM2{α:Type}(f:α->Bool)(ps:List α)(j:Nat):ps.filter f=(ps.take j).filter f++(ps.drop j).filter f:=by
 rw[<-List.filter_append,tD]
theorem xN2(v)(ps)(lo hi)(b:Int)(w)(B:SPR w v ps)(hn:ps.length<=100000):
  Calls prog 200 #[.agg #[v],.string lo,.string hi,.int .i64 b] w λe R=>∃ v',e=.returned v'/\SPR R v' (qH1 ps lo hi b)/\Kp [] w R:=by
 obtain⟨W,X,rfl⟩:=B.form;have V:=zh B;clear B;go_enter func200,ntmps200;go_wp2_with fail;obtain⟨S,P,x,I⟩:=alA w (.cells #[.slice W ps.length X] 126)
 rw[<-P];clear P;have t:=zh I;have T:=zh x;have ai:=ζ x;clear I x
 go_loopw [9,10] (λo i wr=>∃ (j:Nat) (v':Value) (a:List KV) (h:Option Addr) (l:Nat),j<=ps.length/\i=.int .i64 j/\o=.slice h a.length l/\Hid (a=(ps.take j).filter (inR lo hi))/\a.length<=b.toNat/\OPR wr S.heap.size (.slice h a.length l) a/\Kp [] S wr) (λ_ i _=>ps.length-(intOf i).toNat)
 case atStart=>exact⟨0,.nilIface,[],none,0,zL _,rfl,rfl,rfl,zL _,OPR.nil _ _,Kp.refl _ _⟩
 case round=>
  obtain⟨j,_,a,h,l,hj,rfl,rfl,n,N,m,hK⟩:=hrel;have f:=hK.hp T.out;have ae:=ζ f;have aj:=hK.size;have b0:=ϻ f 0;have ah:a.length<=j:=by rw[n.out];have:=List.length_filter_le (inR lo hi) (ps.take j);simp at this;omega
  have c:=zh m;have d:=zh hK;by_cases M:j<ps.length
  .have Z:(j:Int)<(ps.length:Int):=oM
   have p:=jM1 (inR lo hi) ps j M;by_cases hm:(a.length:Int)<b
   .skip
    obtain⟨g,Q,cap,cur,fr,O,af,r,J⟩:=(V.keep0 (t.tr hK)).at oM;obtain⟨c0,G⟩:=J j M;simp only[vJ,true_and] at O;obtain⟨rfl,rfl⟩:=O;have E:=ξ r (Q+j*2);rw[c0] at E;have F:=ξ r (Q+j*2+1);rw[G] at F;have ag:=ζ r;obtain⟨q,A⟩:=eY (ps[j]);rw[A] at E F;have U:=zh A;clear J c0 G r A;rw[U.out,<-n.out] at p;have s:=zh p;clear p m hK f
    cases hin:inR lo hi q with
    | true=>
     have z:Op.bytesLess q.k.toList lo.toList=false:=by simp[inR,kl] at hin;exact hin.1
     have L:Op.bytesLess q.k.toList hi.toList=true:=by simp[inR,kl] at hin;exact hin.2
     obtain⟨v5,w5,ab,y,K⟩:=(c.alloc (.cells #[.string q.k,.string q.v] 284)).app wr.heap.size q 124 oM (υ _ _) sO;obtain⟨ac,ad,Y⟩:=y.form;subst Y;have C:=zh (n2 y ((d.alloc _).grown K (λk hk=>Or.inr (c.low k hk))));clear y K hin
     go_wp2_with (at_builtin;((with_reducible refine qL8 ?_ ?_ ab ?_);rfl;rfl))
     refine⟨⟨j+1,.nilIface,a++[q],ac,ad,oM,by go_num,sM,?_,sO,C.1,C.2⟩,by simp[intOf];omega⟩;show _=_;rw[s.out,if_pos];simp[inR,kl,z,L]
    | false=>
     have D:=zh hin
     cases z:Op.bytesLess q.k.toList lo.toList with
     | true=>
      clear hin;go_wp2;refine⟨⟨j+1,.nilIface,a,h,l,oM,by go_num,rfl,?_,N,c,d⟩,by simp[intOf];omega⟩;show _=_;rw[s.out,if_neg (by rw[D.out];simp)]
     | false=>
      have L:Op.bytesLess q.k.toList hi.toList=false:=by
       simp[inR,kl,z] at hin;exact hin
      clear hin;go_wp2;refine⟨⟨j+1,.nilIface,a,h,l,oM,by go_num,rfl,?_,N,c,d⟩,by simp[intOf];omega⟩;show _=_;rw[s.out,if_neg (by rw[D.out];simp)]
   .have u:Hid (a=qH1 ps lo hi b):=by
     show _=_;have aa:b.toNat=a.length:=oM
     rw[qH1,jM2 _ ps j,aa,<-n.out,List.take_append_of_le_length lR,List.take_length]
    clear p m hK f;go_wp2;go_ret;exact⟨_,rfl,by rw[<-u.out];exact c.sp,t.tr d⟩
  .have Z:¬(j:Int)<(ps.length:Int):=oM
   have u:Hid (a=qH1 ps lo hi b):=by
    show _=_;have H:=n.out;rw[tL oM] at H;rw[qH1,<-H,tL oM]
   clear m hK f;go_wp2;go_ret;exact⟨_,rfl,by rw[<-u.out];exact c.sp,t.tr d⟩
theorem KV.eq_iff(a b:KV):a=b↔a.k=b.k/\a.v=b.v:=by cases a;cases b;simp
theorem xN1(v1 v2)(ps qs)(w)(d:SPR w v1 ps)(k:SPR w v2 qs)(hn:ps.length<=100000)(ad:qs.length<=100000):
  Calls prog 201 #[v1,v2] w λe O=>e=.returned (.bool (decide (ps=qs)))/\Kp [] w O:=by
 obtain⟨P,S,rfl⟩:=d.form;obtain⟨Q,T,rfl⟩:=k.form;have J:=zh d;have K:=zh k;clear d k;by_cases l:ps.length=qs.length
 .have o:(ps.length:Int)=(qs.length:Int):=oM
  have HL:=zh l;clear l;go_enter func201,ntmps201;go_wp2_with fail
  go_loopw [5] (λi wr=>∃ (j:Nat),j<=ps.length/\i=.int .i64 j/\Hid (ps.take j=qs.take j)/\Kp [] w wr) (λi _=>ps.length-(intOf i).toNat)
  case atStart=>exact⟨0,zL _,rfl,rfl,Kp.refl _ _⟩
  case round=>
   obtain⟨j,hj,rfl,D,hK⟩:=hrel;by_cases E:j<ps.length
   .have L:(j:Int)<(ps.length:Int):=oM
    have F:j<qs.length:=by have:=HL.out;omega
    have ac:(j:Int)<(qs.length:Int):=oM
    obtain⟨g,H,cap,cur,V,b,Y,m,B⟩:=(J.keep0 hK).at oM;obtain⟨X,I,R,U,W,G,Z,n,C⟩:=(K.keep0 hK).at oM;obtain⟨c0,v⟩:=B j E;obtain⟨x,y⟩:=C j F;simp only[vJ,true_and] at b G;obtain⟨rfl,rfl⟩:=b;obtain⟨rfl,rfl⟩:=G;have t:=ξ m (H+j*2);rw[c0] at t;have u:=ξ m (H+j*2+1);rw[v] at u;have z:=ξ n (I+j*2);rw[x] at z;have A:=ξ n (I+j*2+1);rw[y] at A;have aa:=ζ m;have ab:=ζ n;obtain⟨p,r⟩:=eY (ps[j]);obtain⟨q,s⟩:=eY (qs[j]);rw[r] at t u;rw[s] at z A;have h:=zh (n2 r s);have f:=zh hK;clear B C c0 v x y m n r s hK o;by_cases c:p.k=q.k
    .have M:(p.k.toList == q.k.toList)=true:=by rw[qM2];simp[c]
     by_cases b:p.v=q.v
     .have N:(p.v.toList == q.v.toList)=true:=by rw[qM2];simp[b]
      have a:=zh ((KV.eq_iff p q).2 ⟨c,b⟩);clear c b;go_wp2_with fail
      go_quiet (fail)
      go_wp2;refine⟨⟨j+1,oM,by go_num,?_,f.drewN _⟩,by simp[intOf];omega⟩;show _=_;rw[tA E,tA F,D.out,h.out.1,h.out.2,a.out]
     .have N:(p.v.toList == q.v.toList)=false:=by rw[qM2];simp[b]
      have a:Hid (¬ps=qs):=λe=>b (by
       have:=h.out;subst e;rw[<-this.1,<-this.2])
      clear c b;go_wp2_with fail
      go_quiet (fail)
      go_wp2;go_ret;exact⟨by simp[a.out],f.drewN _⟩
    .have M:(p.k.toList == q.k.toList)=false:=by rw[qM2];simp[c]
     have a:Hid (¬ps=qs):=λe=>c (by
      have:=h.out;subst e;rw[<-this.1,<-this.2])
     clear c;go_wp2_with fail
     go_quiet (fail)
     go_wp2;go_ret;exact⟨by simp[a.out],f.drewN _⟩
   .have L:¬(j:Int)<(ps.length:Int):=oM
    have a:Hid (ps=qs):=by
     have d:=D.out;have k:=HL.out;rw[tL oM,tL oM] at d;exact d
    have f:=zh hK;clear hK o;go_wp2;go_ret;exact⟨by simp[a.out],f⟩
 .have o:¬(ps.length:Int)=(qs.length:Int):=oM
  have a:Hid (¬ps=qs):=λe=>l (by rw[e]);clear l;go_enter func201,ntmps201;go_wp2;go_ret;exact⟨by simp[a.out],Kp.refl _ _⟩
def qH9(k:ByteArray):Bool:=decide (1≤k.size) && decide (k.size≤8)
theorem zS0(k)(w):
  Calls prog 198 #[.string k] w λe d=>e=.returned (.bool (qH9 k))/\d=w:=by
 by_cases a:1<=k.size
 .have c:(1:Int)<=(k.size:Int):=oM
  go_enter func198,ntmps198;go_wp2;go_ret;refine⟨?_,rfl⟩;by_cases b:k.size<=8
  .have:(k.size:Int)<=8:=oM
   simp[qH9,a,b,this]
  .have:¬(k.size:Int)<=8:=oM
   simp[qH9,a,b,this]
 .have c:¬(1:Int)<=(k.size:Int):=oM
  go_enter func198,ntmps198;go_wp2;go_ret;exact⟨by simp[qH9,a],rfl⟩
end Go.Proofs.YtdohpenfkdckiaaGreatDoor
